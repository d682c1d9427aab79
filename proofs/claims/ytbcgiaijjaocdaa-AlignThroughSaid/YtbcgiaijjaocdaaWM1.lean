/- Part WM1 of this seat's mirrors: functions of the seat's program, and the plain functions that they are; each theorem bears its own conditions. -/
import Derived.Test.YtbcgiaijjaocdaaWE
namespace Go.Proofs.Ytbcgiaijjaocdaa
open Go.RowKit
set_option linter.unusedVariables false
set_option linter.unusedSimpArgs false
set_option maxRecDepth 100000
set_option maxHeartbeats 1000000
attribute [local push_cast] c_S_align_Piece c_S_api_Edit c_S_api_KidEdit c_S_api_Op c_S_api_Tree c_S_api_WordEdit c_S_centoref24_Unit gfork_t gfork_f pfork_t pfork_f gthen gblock gops_nil gops_plain gops_guard onW gwantB gcalm gact gpick gpickV strip evS wok calmOp Op.operands Call.operands gop onK onP atK List.all_cons List.all_nil Bool.and_true Bool.true_and Bool.and_self Value.oneCell' List.take_zero List.take_succ_cons List.take_nil List.drop_zero List.drop_succ_cons List.drop_nil List.append_nil Nat.add_zero Nat.zero_add gstep gputE ev look genv gbin geqS geqF gint gunary gconvert gload gcells gpart_lit gstore gcellsOf gput gplace_lit gfieldAddr gstepIn gindexAddr gindex gfield gopt bLo bHi bMx gextract galloc gbox gbuild gfill gplaces gbuildSlice gmake glen gappend gsrc gbuiltin gnil isLive gres gone prun_nil prun_plain prun_guard pop TK.isAgg G.one G.under G.unders List.getD_cons_zero List.getD_cons_succ List.set_cons_zero List.set_cons_succ List.map_cons List.map_nil List.toList_toArray Array.toList_append Option.toArray_none Option.toArray_some Array.toList_map Option.map_some Option.map_none Option.bind_some Option.bind_none List.getElem?_cons_zero List.getElem?_cons_succ List.getElem?_nil List.nil_append List.cons_append List.replicate_succ List.replicate_zero List.length_cons List.length_nil and_true true_and and_false false_and Bool.true_eq_false Bool.false_eq_true forall_const false_implies implies_true IntKind.bits if_true if_false ite_true ite_false eq_self true_implies false_or or_false or_true true_or not_true_eq_false not_false_eq_true decide_true decide_false decide_eq_true_eq decide_eq_false_iff_not beq_iff_eq bne_iff_ne ne_eq Bool.not_eq_true Bool.not_eq_false beq_eq_false_iff_ne bne_eq_false_iff_eq beq_self_eq_true bne_self_eq_false Option.some.injEq exists_eq_left' exists_eq_left ge_iff_le gt_iff_lt decide_not Bool.not_true Bool.not_false imp_self gquiet cond_true cond_false beqT beqF Bool.not_not Bool.and_false Bool.false_and Bool.or_true Bool.true_or Bool.or_false Bool.false_or Loc_at Loc_at0 Loc_upd Loc_upd0 Loc_push Loc_push0 Option.join_some Nat.add_assoc Int.toNat_natCast eI eB eS eL fl_nil gopsD_nil gopsD_plain gopsD_t gopsD_f gopsD_n onKD onWD prunD_nil prunD_plain prunD_t prunD_f prunD_n onPD fitO fitO1 sameO fitL fl_append fl_one List.length_append G.agg.injEq G.row.injEq G.ref.injEq G.val.injEq G.sl.injEq G.tup.injEq Value.int.injEq Value.bool.injEq Value.string.injEq List.cons.injEq exists_and_left exists_const List.flatten_cons List.flatten_nil Int.le_refl Nat.le_refl upd_updU Loc_out Loc_updo Bool.not_eq_true' Bool.not_eq_false' wkl_nil wkl_cons wk_any wk_val wk_agg wk_tup wk_sl wk_fn List.size_toArray renO renO1 G.ren G.rens renL rho_at rho_at0 gP_none gP_some strip_gP wok_gP one_gP G.fn.injEq wk_slnil wk_slrow wk_slrs wk_ip wk_ipref wk_row wk_rs wk_rp wk_ref locLt0 locLt Option.join_none upd_same fl_cons undef keepL Arr.len Arr.put_eq prunB_nil prunB_bar prunB_bart prunB_plain prunB_t prunB_f prunB_n onB onBP gcopy setI_len Loc_cat0 Loc_cat1 Loc_cat2 Loc_cat3 Loc_cat4 Loc_cat5 noObjs_at prunK_nil prunK_bar prunK_pass prunK_plain prunK_low prunK_pt prunK_pf prunK_lt prunK_lf onKg onKa onKp popL pickOps lows lowG prunK_shp prunK_fill popH shpOp fillOp fillG rho_low rens_app Loc_cat6 Loc_cat7 Loc_cat8 Loc_cat9 Loc_cat10 Loc_cat11 Loc_cat12 Loc_cat13 Loc_cat14 Loc_cat15 Loc_cat16 dropM tab2 tkind2 tab3 tkind3 tab4 tkind4 tab5 tkind5 tab6 tkind6 tab7 tkind7 tab8 tkind8 tab9 tkind9 tab10 tkind10 tab11 tkind11 tab12 tkind12 tab13 tkind13 tab14 tkind14 tab15 tkind15 tab16 tkind16 tab17 tkind17 tab18 tkind18 tab19 tkind19 tab21 tkind21 tab22 tkind22 tab23 tkind23 tab24 tkind24 tab25 tkind25 tab26 tkind26 tab27 tkind27 tab28 tkind28 tab29 tkind29 tab30 tkind30 tab46 tkind46 tab49 tkind49 tab52 tkind52 tab56 tkind56 tab57 tkind57 tab58 tkind58 tab62 tkind62 tab68 tkind68 tab69 tkind69 tab70 tkind70 tab71 tkind71 tab78 tkind78 tab79 tkind79 tab81 tkind81 tab82 tkind82 tab83 tkind83 tab84 tkind84 tab95 tkind95 tab99 tkind99 tab101 tkind101 tab102 tkind102 tab109 tkind109 tab110 tkind110 tab113 tkind113 tab123 tkind123 tab124 tkind124 tab132 tkind132 tab133 tkind133 tab136 tkind136 tab138 tkind138 tab139 tkind139 tab141 tkind141 tab142 tkind142 tab157 tkind157 tab159 tkind159 tab160 tkind160 tab165 tkind165 tab166 tkind166 tab167 tkind167 tab169 tkind169 tab170 tkind170 tab171 tkind171 e_S_api_Tree e0_eq_S_api_Tree wkl_eI_u64 wka_eI_u64 len_eI_u64 one_eI_u64 wkp_eI_u64 undp_eI_u64 rens_eI_u64 renp_eI_u64 und_eI_u64 wkl_e_S_api_Tree wka_e_S_api_Tree len_e_S_api_Tree one_e_S_api_Tree wkp_e_S_api_Tree undp_e_S_api_Tree rens_e_S_api_Tree renp_e_S_api_Tree und_e_S_api_Tree e_S_api_WordEdit e_S_api_Edit e_S_api_Op e_S_api_KidEdit e0_eq_S_api_Edit e0_eq_S_api_Op e0_eq_S_api_KidEdit wkl_e_S_api_WordEdit wka_e_S_api_WordEdit len_e_S_api_WordEdit one_e_S_api_WordEdit wkp_e_S_api_WordEdit undp_e_S_api_WordEdit rens_e_S_api_WordEdit renp_e_S_api_WordEdit und_e_S_api_WordEdit wkl_e_S_api_KidEdit wka_e_S_api_KidEdit len_e_S_api_KidEdit one_e_S_api_KidEdit wkp_e_S_api_KidEdit undp_e_S_api_KidEdit rens_e_S_api_KidEdit renp_e_S_api_KidEdit und_e_S_api_KidEdit wkl_e_S_api_Op wka_e_S_api_Op len_e_S_api_Op one_e_S_api_Op wkp_e_S_api_Op undp_e_S_api_Op rens_e_S_api_Op renp_e_S_api_Op und_e_S_api_Op wkl_eI_u8 wka_eI_u8 len_eI_u8 one_eI_u8 wkp_eI_u8 undp_eI_u8 rens_eI_u8 renp_eI_u8 und_eI_u8 e_S_align_cursor wkl_e_S_align_cursor wka_e_S_align_cursor len_e_S_align_cursor one_e_S_align_cursor wkp_e_S_align_cursor undp_e_S_align_cursor rens_e_S_align_cursor renp_e_S_align_cursor und_e_S_align_cursor e_S_align_Piece wkl_e_S_align_Piece wka_e_S_align_Piece len_e_S_align_Piece one_e_S_align_Piece wkp_e_S_align_Piece undp_e_S_align_Piece rens_e_S_align_Piece renp_e_S_align_Piece und_e_S_align_Piece e_S_centoref24_Unit wkl_e_S_centoref24_Unit wka_e_S_centoref24_Unit len_e_S_centoref24_Unit one_e_S_centoref24_Unit wkp_e_S_centoref24_Unit undp_e_S_centoref24_Unit rens_e_S_centoref24_Unit renp_e_S_centoref24_Unit und_e_S_centoref24_Unit e_S_centoref24_Pair wkl_e_S_centoref24_Pair wka_e_S_centoref24_Pair len_e_S_centoref24_Pair one_e_S_centoref24_Pair wkp_e_S_centoref24_Pair undp_e_S_centoref24_Pair rens_e_S_centoref24_Pair renp_e_S_centoref24_Pair und_e_S_centoref24_Pair
theorem okb_centoref07_Shallow {r_centoref07_Shallow : (S_api_Tree → Int → Int → Option Int)} (ok_r_centoref07_Shallow : ∀ {a0 : S_api_Tree} {a1 : Int} {a2 : Int} {r : Int} {O : Objs} {n : Nat}, r_centoref07_Shallow a0 a1 a2 = some r → GTo Try.prog 56 [.agg (c_S_api_Tree a0), .val (.int .i64 a1), .val (.int .i64 a2)] O n (.val (.int .i64 r)) O n) {a0 : S_api_Tree} {a1 : Int} {a2 : Int} {r : Int} {O : Objs} {n : Nat} (h : b_centoref07_Shallow r_centoref07_Shallow a0 a1 a2 = some r) : GTo Try.prog 56 [.agg (c_S_api_Tree a0), .val (.int .i64 a1), .val (.int .i64 a2)] O n (.val (.int .i64 r)) O n := by
  unfold b_centoref07_Shallow at h
  refine fn_of tab_ok Try.call56 Try.func56 rfl (Nat.le_of_ble_eq_true rfl) (Nat.le_refl _) fun hU => ?_
  have hN0 : O n = none := hU.fresh _ (Nat.le_refl _)
  have hN : ∀ k, O (n + k) = none := fun k => hU.fresh _ (Nat.le_add_right _ _)
  show W _ _ _ _ ⟨41, [], [(0, .agg (c_S_api_Tree a0)), (1, .val (.int .i64 a1)), (2, .val (.int .i64 a2))]⟩ (Loc O n []) _
  refine W_sq [1, 2, 3] (W_regionD tab_ok [] ?_)
  simp only [push_cast, seval, ↓reduceIte, cast_lit, hN0, hN]
  refine W_sq [1, 2, 3] (W_regionD tab_ok [] ?_)
  simp only [push_cast, seval, ↓reduceIte, cast_lit, hN0, hN]
  refine W_seqK ?_
  refine W_sq [1, 2, 3, 19] (W_regionD tab_ok [none, none] ?_)
  simp only [push_cast, seval, ↓reduceIte, cast_lit, hN0, hN]
  repeat (with_reducible refine And.intro (by first | (intro h0; simp only [h0, and_self]; done) | (intro h0; simp only [h0, Bool.not_false, Bool.not_true, Bool.true_and, Bool.and_true, true_and, and_true, and_self, imp_self, implies_true, bne_iff_ne, ne_eq, beq_iff_eq]; done) | (intros; simp_all; done) | exact True.intro) ?_)
  refine W_cond (t := (cond (a1 == 0) true (decide ((IntKind.i64.wrap ((IntKind.i64.wrap (a2 - 1)) - (a0.Words.length : Int))) < 0)))) rfl (fun c5 => ?_) (fun c5 => ?_)
  · replace h := condT c5 h
    refine W_sq [6] (W_regionD tab_ok [] ?_)
    simp only [push_cast, seval, ↓reduceIte, cast_lit, hN0, hN]
    refine W_ret ?_
    try simp only [gthen, gblock]
    have h := Option.some.inj h; subst h
    refine fin_loc (.inr rfl) hU [.val (.int .i64 (-1))] (by omega) ?_
    simp only [push_cast, seval, ↓reduceIte, cast_lit, Try.results56, hN0, hN]
  · replace h := condF c5 h
    refine W_skip ?_
    try simp only [gthen, gblock]
    refine W_drop [1, 2, 3] [true] ?_
    simp only [push_cast, seval, ↓reduceIte]
    refine W_seqK ?_
    refine W_sq [1, 2, 3, 7] (W_regionD tab_ok [] ?_)
    simp only [push_cast, seval, ↓reduceIte, cast_lit, hN0, hN]
    refine W_drop [1, 2, 3, 7] [true] ?_
    simp only [push_cast, seval, ↓reduceIte]
    obtain ⟨z4, hz4, h⟩ := bC h
    refine W_blockX (E' := ⟨41, [], [(2, .val (.int .i64 z4))]⟩) (O' := (Loc O n [none])) (n0 := (n + 1)) ?_ ?_
    · refine W_loopJ hz4 (fun s0_ => ⟨41, [], [(1, .val (.int .i64 a1)), (2, .val (.int .i64 s0_.1)), (3, .ref n 0), (7, .val (.int .i64 s0_.2))]⟩) (fun s0_ => (Loc O n [some ⟨false, 25, 3, 1, (c_S_api_Tree a0)⟩])) (fun z4 => JX 0 n (⟨41, [], [(2, .val (.int .i64 z4))]⟩ : Env) (Loc O n [none]) (n + 1)) ?_
      intro s0_ x0_ hs0_
      unfold b_centoref07_Shallow_L0 at hs0_
      try dsimp only
      refine W_seqK ?_
      refine W_sq [1, 2, 3, 7, 28] (W_regionD tab_ok [none, none] ?_)
      simp only [push_cast, seval, ↓reduceIte, cast_lit, hN0, hN]
      repeat (with_reducible refine And.intro (by first | (intro h0; simp only [h0, and_self]; done) | (intro h0; simp only [h0, Bool.not_false, Bool.not_true, Bool.true_and, Bool.and_true, true_and, and_true, and_self, imp_self, implies_true, bne_iff_ne, ne_eq, beq_iff_eq]; done) | (intros; simp_all; done) | exact True.intro) ?_)
      refine W_cond (t := (cond (decide (s0_.2 < (a0.Kids.length : Int))) (decide (0 ≤ s0_.1)) false)) rfl (fun c3 => ?_) (fun c3 => ?_)
      · replace hs0_ := condT c3 hs0_
        refine W_skip ?_
        try simp only [gthen, gblock]
        refine W_drop [1, 2, 3, 7] [true] ?_
        simp only [push_cast, seval, ↓reduceIte]
        refine W_seqK ?_
        refine W_block ?_
        obtain ⟨x1, hx1, ax1, bx1, cx1, hs0_⟩ := bE (f := e_S_api_Tree) tab25 (fun _ => rfl) (by decide) hs0_
        obtain ⟨y2, hy2, hs0_⟩ := bC hs0_
        refine W_regionD tab_ok [] ?_
        simp only [push_cast, Nat.reduceAdd, Nat.reduceSub, Nat.reduceMul, Nat.reduceLeDiff, Nat.reduceLT, Nat.reduceEqDiff, ↓reduceIte, reduceCtorEq, Int.reduceBEq, Int.reduceBNe, Nat.reduceBEq, Int.reduceLE, Int.reduceLT, Int.reduceEq, Int.reduceNe, Int.reduceNeg, Nat.reduceDiv, Nat.reduceMod, Nat.reducePow, cast_lit, ax1, bx1, cx1, hN0, hN]
        refine (ok_r_centoref07_Shallow hy2).then ?_
        simp only [push_cast, Nat.reduceAdd, Nat.reduceSub, Nat.reduceMul, Nat.reduceLeDiff, Nat.reduceLT, Nat.reduceEqDiff, ↓reduceIte, reduceCtorEq, Int.reduceBEq, Int.reduceBNe, Nat.reduceBEq, Int.reduceLE, Int.reduceLT, Int.reduceEq, Int.reduceNe, Int.reduceNeg, Nat.reduceDiv, Nat.reduceMod, Nat.reducePow, cast_lit, ax1, bx1, cx1, hN0, hN]
        refine W_drop [1, 2, 3, 7] [true] ?_
        simp only [push_cast, seval, ↓reduceIte]
        refine W_regionD tab_ok [] ?_
        simp only [push_cast, seval, ↓reduceIte, cast_lit, hN0, hN]
        have hs0_ := Option.some.inj hs0_; subst hs0_
        refine And.intro rfl (Fit2.of (fit_loc hU rfl rfl ?_) (by omega))
        simp only [push_cast, seval, ↓reduceIte, cast_lit, hN0, hN]
      · replace hs0_ := condF c3 hs0_
        refine W_exit ?_
        try simp only [gthen, gblock, ↓reduceIte, Nat.reduceEqDiff]
        have hs0_ := Option.some.inj hs0_; subst hs0_
        refine And.intro (fun h => by cases h) (And.intro rfl (Fit2.of (fit_loc hU rfl rfl ?_) (by omega)))
        simp only [push_cast, seval, ↓reduceIte, cast_lit, hN0, hN]
    try simp only [gthen, gblock, ↓reduceIte, Nat.reduceEqDiff]
    refine W_drop [2] [false] ?_
    simp only [push_cast, seval, ↓reduceIte]
    refine W_sq [6] (W_regionD tab_ok [] ?_)
    simp only [push_cast, seval, ↓reduceIte, cast_lit, hN0, hN]
    refine W_ret ?_
    try simp only [gthen, gblock]
    have h := Option.some.inj h; subst h
    refine fin_loc (.inr rfl) hU [.val (.int .i64 z4)] (by omega) ?_
    simp only [push_cast, seval, ↓reduceIte, cast_lit, Try.results56, hN0, hN]
theorem lv_centoref07_Shallow_ok : ∀ k, (∀ {a0 : S_api_Tree} {a1 : Int} {a2 : Int} {r : Int} {O : Objs} {n : Nat}, (lv_centoref07_Shallow k) a0 a1 a2 = some r → GTo Try.prog 56 [.agg (c_S_api_Tree a0), .val (.int .i64 a1), .val (.int .i64 a2)] O n (.val (.int .i64 r)) O n) := fun k => by
  induction k with
  | zero => exact @fun a0 a1 a2 r O n h => (nomatch (show (none : Option _) = some _ from h))
  | succ k ih => exact @fun a0 a1 a2 r O n h => okb_centoref07_Shallow (ih)  h
theorem ok_centoref07_Shallow {a0 : S_api_Tree} {a1 : Int} {a2 : Int} {r : Int} {O : Objs} {n : Nat} (h : m_centoref07_Shallow a0 a1 a2 = some r) : GTo Try.prog 56 [.agg (c_S_api_Tree a0), .val (.int .i64 a1), .val (.int .i64 a2)] O n (.val (.int .i64 r)) O n := by
  obtain ⟨k, hk⟩ := lim_some h
  exact (lv_centoref07_Shallow_ok k)  hk
theorem okb_centoref20_left {r_centoref20_left : (S_api_Edit → Int → Int → Option Int)} (ok_r_centoref20_left : ∀ {a0 : S_api_Edit} {a1 : Int} {a2 : Int} {r : Int} {O : Objs} {n : Nat}, r_centoref20_left a0 a1 a2 = some r → GTo Try.prog 83 [.agg (c_S_api_Edit a0), .val (.int .i64 a1), .val (.int .i64 a2)] O n (.val (.int .i64 r)) O n) {a0 : S_api_Edit} {a1 : Int} {a2 : Int} {r : Int} {O : Objs} {n : Nat} (h : b_centoref20_left r_centoref20_left a0 a1 a2 = some r) : GTo Try.prog 83 [.agg (c_S_api_Edit a0), .val (.int .i64 a1), .val (.int .i64 a2)] O n (.val (.int .i64 r)) O n := by
  unfold b_centoref20_left at h
  refine fn_of tab_ok Try.call83 Try.func83 rfl (Nat.le_of_ble_eq_true rfl) (Nat.le_refl _) fun hU => ?_
  have hN0 : O n = none := hU.fresh _ (Nat.le_refl _)
  have hN : ∀ k, O (n + k) = none := fun k => hU.fresh _ (Nat.le_add_right _ _)
  show W _ _ _ _ ⟨107, [], [(0, .agg (c_S_api_Edit a0)), (1, .val (.int .i64 a1)), (2, .val (.int .i64 a2))]⟩ (Loc O n []) _
  refine W_sq [1, 2, 3] (W_regionD tab_ok [] ?_)
  simp only [push_cast, seval, ↓reduceIte, cast_lit, hN0, hN]
  refine W_sq [1, 2, 3] (W_regionD tab_ok [] ?_)
  simp only [push_cast, seval, ↓reduceIte, cast_lit, hN0, hN]
  refine W_seqK ?_
  refine W_sq [1, 2, 3, 25] (W_regionD tab_ok [none, none] ?_)
  simp only [push_cast, seval, ↓reduceIte, cast_lit, hN0, hN]
  repeat (with_reducible refine And.intro (by first | (intro h0; simp only [h0, and_self]; done) | (intro h0; simp only [h0, Bool.not_false, Bool.not_true, Bool.true_and, Bool.and_true, true_and, and_true, and_self, imp_self, implies_true, bne_iff_ne, ne_eq, beq_iff_eq]; done) | (intros; simp_all; done) | exact True.intro) ?_)
  refine W_cond (t := (cond (a1 == 0) true (decide ((IntKind.i64.wrap ((IntKind.i64.wrap ((IntKind.i64.wrap (a2 - 1)) - (a0.Words.length : Int))) - (a0.Ops.length : Int))) < 0)))) rfl (fun c28 => ?_) (fun c28 => ?_)
  · replace h := condT c28 h
    refine W_sq [6] (W_regionD tab_ok [] ?_)
    simp only [push_cast, seval, ↓reduceIte, cast_lit, hN0, hN]
    refine W_ret ?_
    try simp only [gthen, gblock]
    have h := Option.some.inj h; subst h
    refine fin_loc (.inr rfl) hU [.val (.int .i64 (-1))] (by omega) ?_
    simp only [push_cast, seval, ↓reduceIte, cast_lit, Try.results83, hN0, hN]
  · replace h := condF c28 h
    refine W_skip ?_
    try simp only [gthen, gblock]
    refine W_drop [1, 2, 3] [true] ?_
    simp only [push_cast, seval, ↓reduceIte]
    refine W_seqK ?_
    obtain ⟨y2, hy2, h⟩ := bC h
    refine W_regionD tab_ok [] ?_
    simp only [push_cast, seval, ↓reduceIte, cast_lit, hN0, hN]
    refine (ok_centoref07_Shallow hy2).then ?_
    simp only [push_cast, seval, ↓reduceIte, cast_lit, hN0, hN]
    refine W_drop [1, 2, 3] [true] ?_
    simp only [push_cast, seval, ↓reduceIte]
    obtain ⟨z3, hz3, h⟩ := bC h
    refine W_seqN (E' := ⟨107, [], [(1, .val (.int .i64 a1)), (2, .val (.int .i64 z3)), (3, .ref n 0)]⟩) (O' := (Loc O n [some ⟨false, 30, 11, 1, (c_S_api_Edit a0)⟩])) (n0 := (n + 1)) ?_ ?_
    · refine W_sq [1, 2, 3, 31] (W_regionD tab_ok [] ?_)
      simp only [push_cast, seval, ↓reduceIte, cast_lit, hN0, hN]
      refine W_cond (t := (decide (0 ≤ y2))) rfl (fun c5 => ?_) (fun c5 => ?_)
      · replace hz3 := condT c5 hz3
        obtain ⟨y4, hy4, hz3⟩ := bC hz3
        refine W_regionD tab_ok [] ?_
        simp only [push_cast, seval, ↓reduceIte, cast_lit, hN0, hN]
        refine (ok_centoref07_Shallow hy4).then ?_
        simp only [push_cast, seval, ↓reduceIte, cast_lit, hN0, hN]
        have hz3 := Option.some.inj hz3; subst hz3
        refine And.intro rfl (Fit2.of (fit_loc hU rfl rfl ?_) (by omega))
        simp only [push_cast, seval, ↓reduceIte, cast_lit, hN0, hN]
      · replace hz3 := condF c5 hz3
        refine W_skip ?_
        try simp only [gthen, gblock]
        have hz3 := Option.some.inj hz3; subst hz3
        refine And.intro rfl (Fit2.of (fit_loc hU rfl rfl ?_) (by omega))
        simp only [push_cast, seval, ↓reduceIte, cast_lit, hN0, hN]
    refine W_seqK ?_
    refine W_sq [1, 2, 3, 7] (W_regionD tab_ok [] ?_)
    simp only [push_cast, seval, ↓reduceIte, cast_lit, hN0, hN]
    refine W_drop [1, 2, 3, 7] [true] ?_
    simp only [push_cast, seval, ↓reduceIte]
    obtain ⟨z10, hz10, h⟩ := bC h
    refine W_blockX (E' := ⟨107, [], [(1, .val (.int .i64 a1)), (2, .val (.int .i64 z10)), (3, .ref n 0)]⟩) (O' := (Loc O n [some ⟨false, 30, 11, 1, (c_S_api_Edit a0)⟩])) (n0 := (n + 1)) ?_ ?_
    · refine W_loopJ hz10 (fun s0_ => ⟨107, [], [(1, .val (.int .i64 a1)), (2, .val (.int .i64 s0_.1)), (3, .ref n 0), (7, .val (.int .i64 s0_.2))]⟩) (fun s0_ => (Loc O n [some ⟨false, 30, 11, 1, (c_S_api_Edit a0)⟩])) (fun z10 => JX 0 n (⟨107, [], [(1, .val (.int .i64 a1)), (2, .val (.int .i64 z10)), (3, .ref n 0)]⟩ : Env) (Loc O n [some ⟨false, 30, 11, 1, (c_S_api_Edit a0)⟩]) (n + 1)) ?_
      intro s0_ x0_ hs0_
      unfold b_centoref20_left_L0 at hs0_
      try dsimp only
      refine W_seqK ?_
      refine W_sq [1, 2, 3, 7, 44] (W_regionD tab_ok [none, none] ?_)
      simp only [push_cast, seval, ↓reduceIte, cast_lit, hN0, hN]
      repeat (with_reducible refine And.intro (by first | (intro h0; simp only [h0, and_self]; done) | (intro h0; simp only [h0, Bool.not_false, Bool.not_true, Bool.true_and, Bool.and_true, true_and, and_true, and_self, imp_self, implies_true, bne_iff_ne, ne_eq, beq_iff_eq]; done) | (intros; simp_all; done) | exact True.intro) ?_)
      refine W_cond (t := (cond (decide (s0_.2 < (a0.Kids.length : Int))) (decide (0 ≤ s0_.1)) false)) rfl (fun c9 => ?_) (fun c9 => ?_)
      · replace hs0_ := condT c9 hs0_
        refine W_skip ?_
        try simp only [gthen, gblock]
        refine W_drop [1, 2, 3, 7] [true] ?_
        simp only [push_cast, seval, ↓reduceIte]
        refine W_seqK ?_
        refine W_block ?_
        obtain ⟨x6, hx6, ax6, bx6, cx6, hs0_⟩ := bE (f := e_S_api_KidEdit) tab71 (fun _ => rfl) (by decide) hs0_
        have g7 := gpart_fld (f := e_S_api_KidEdit) (off := 1) (sz := 12) tab30 (fun _ => rfl) (by decide) (by decide) hx6
        obtain ⟨y8, hy8, hs0_⟩ := bC hs0_
        refine W_regionD tab_ok [] ?_
        simp only [push_cast, Nat.reduceAdd, Nat.reduceSub, Nat.reduceMul, Nat.reduceLeDiff, Nat.reduceLT, Nat.reduceEqDiff, ↓reduceIte, reduceCtorEq, Int.reduceBEq, Int.reduceBNe, Nat.reduceBEq, Int.reduceLE, Int.reduceLT, Int.reduceEq, Int.reduceNe, Int.reduceNeg, Nat.reduceDiv, Nat.reduceMod, Nat.reducePow, cast_lit, ax6, bx6, cx6, g7, hN0, hN]
        refine (ok_r_centoref20_left hy8).then ?_
        simp only [push_cast, Nat.reduceAdd, Nat.reduceSub, Nat.reduceMul, Nat.reduceLeDiff, Nat.reduceLT, Nat.reduceEqDiff, ↓reduceIte, reduceCtorEq, Int.reduceBEq, Int.reduceBNe, Nat.reduceBEq, Int.reduceLE, Int.reduceLT, Int.reduceEq, Int.reduceNe, Int.reduceNeg, Nat.reduceDiv, Nat.reduceMod, Nat.reducePow, cast_lit, ax6, bx6, cx6, g7, hN0, hN]
        refine W_drop [1, 2, 3, 7] [true] ?_
        simp only [push_cast, seval, ↓reduceIte]
        refine W_regionD tab_ok [] ?_
        simp only [push_cast, seval, ↓reduceIte, cast_lit, hN0, hN]
        have hs0_ := Option.some.inj hs0_; subst hs0_
        refine And.intro rfl (Fit2.of (fit_loc hU rfl rfl ?_) (by omega))
        simp only [push_cast, seval, ↓reduceIte, cast_lit, hN0, hN]
      · replace hs0_ := condF c9 hs0_
        refine W_exit ?_
        try simp only [gthen, gblock, ↓reduceIte, Nat.reduceEqDiff]
        have hs0_ := Option.some.inj hs0_; subst hs0_
        refine And.intro (fun h => by cases h) (And.intro rfl (Fit2.of (fit_loc hU rfl rfl ?_) (by omega)))
        simp only [push_cast, seval, ↓reduceIte, cast_lit, hN0, hN]
    try simp only [gthen, gblock, ↓reduceIte, Nat.reduceEqDiff]
    refine W_drop [1, 2, 3] [true] ?_
    simp only [push_cast, seval, ↓reduceIte]
    refine W_seqK ?_
    refine W_sq [1, 2, 3, 8] (W_regionD tab_ok [] ?_)
    simp only [push_cast, seval, ↓reduceIte, cast_lit, hN0, hN]
    refine W_drop [1, 2, 3, 8] [true] ?_
    simp only [push_cast, seval, ↓reduceIte]
    obtain ⟨z27, hz27, h⟩ := bC h
    refine W_blockX (E' := ⟨107, [], [(2, .val (.int .i64 z27))]⟩) (O' := (Loc O n [none])) (n0 := (n + 1)) ?_ ?_
    · refine W_loopJ hz27 (fun s1_ => ⟨107, [], [(1, .val (.int .i64 a1)), (2, .val (.int .i64 s1_.1)), (3, .ref n 0), (8, .val (.int .i64 s1_.2))]⟩) (fun s1_ => (Loc O n [some ⟨false, 30, 11, 1, (c_S_api_Edit a0)⟩])) (fun z27 => JX 2 n (⟨107, [], [(2, .val (.int .i64 z27))]⟩ : Env) (Loc O n [none]) (n + 1)) ?_
      intro s1_ x1_ hs1_
      unfold b_centoref20_left_L1 at hs1_
      try dsimp only
      refine W_seqK ?_
      refine W_sq [1, 2, 3, 8, 65] (W_regionD tab_ok [none, none] ?_)
      simp only [push_cast, seval, ↓reduceIte, cast_lit, hN0, hN]
      repeat (with_reducible refine And.intro (by first | (intro h0; simp only [h0, and_self]; done) | (intro h0; simp only [h0, Bool.not_false, Bool.not_true, Bool.true_and, Bool.and_true, true_and, and_true, and_self, imp_self, implies_true, bne_iff_ne, ne_eq, beq_iff_eq]; done) | (intros; simp_all; done) | exact True.intro) ?_)
      refine W_cond (t := (cond (decide (s1_.2 < (a0.Ops.length : Int))) (decide (0 ≤ s1_.1)) false)) rfl (fun c26 => ?_) (fun c26 => ?_)
      · replace hs1_ := condT c26 hs1_
        refine W_skip ?_
        try simp only [gthen, gblock]
        refine W_drop [1, 2, 3, 8] [true] ?_
        simp only [push_cast, seval, ↓reduceIte]
        obtain ⟨z11, hz11, hs1_⟩ := bC hs1_
        refine W_seqN (E' := ⟨107, [], [(1, .val (.int .i64 a1)), (2, .val (.int .i64 z11)), (3, .ref n 0), (8, .val (.int .i64 s1_.2))]⟩) (O' := (Loc O n [some ⟨false, 30, 11, 1, (c_S_api_Edit a0)⟩])) (n0 := (n + 1)) ?_ ?_
        · refine W_block ?_
          refine W_seqK ?_
          refine W_sq [1, 2, 3, 8, 9] (W_regionD tab_ok [] ?_)
          simp only [push_cast, seval, ↓reduceIte, cast_lit, hN0, hN]
          refine W_drop [1, 2, 3, 8, 9] [true] ?_
          simp only [push_cast, seval, ↓reduceIte]
          obtain ⟨z21, hz21, hz11⟩ := bC hz11
          refine W_blockX (E' := ⟨107, [], [(1, .val (.int .i64 a1)), (2, .val (.int .i64 z21)), (3, .ref n 0), (8, .val (.int .i64 s1_.2))]⟩) (O' := (Loc O n [some ⟨false, 30, 11, 1, (c_S_api_Edit a0)⟩])) (n0 := (n + 1)) ?_ ?_
          · refine W_loopJ hz21 (fun s2_ => ⟨107, [], [(1, .val (.int .i64 a1)), (2, .val (.int .i64 s2_.1)), (3, .ref n 0), (8, .val (.int .i64 s1_.2)), (9, .val (.int .i64 s2_.2))]⟩) (fun s2_ => (Loc O n [some ⟨false, 30, 11, 1, (c_S_api_Edit a0)⟩])) (fun z21 => JX 4 n (⟨107, [], [(1, .val (.int .i64 a1)), (2, .val (.int .i64 z21)), (3, .ref n 0), (8, .val (.int .i64 s1_.2))]⟩ : Env) (Loc O n [some ⟨false, 30, 11, 1, (c_S_api_Edit a0)⟩]) (n + 1)) ?_
            intro s2_ x2_ hs2_
            unfold b_centoref20_left_L2 at hs2_
            try dsimp only
            refine W_seqK ?_
            obtain ⟨x14, hx14, ax14, bx14, cx14, hs2_⟩ := bE (f := e_S_api_Op) tab69 (fun _ => rfl) (by decide) hs2_
            have g15 := gpart_fld (f := e_S_api_Op) (off := 2) (sz := 14) tab23 (fun _ => rfl) (by decide) (by decide) hx14
            refine W_sq [1, 2, 3, 8, 9, 80] (W_regionD tab_ok [none, none] ?_)
            simp only [push_cast, Nat.reduceAdd, Nat.reduceSub, Nat.reduceMul, Nat.reduceLeDiff, Nat.reduceLT, Nat.reduceEqDiff, ↓reduceIte, reduceCtorEq, Int.reduceBEq, Int.reduceBNe, Nat.reduceBEq, Int.reduceLE, Int.reduceLT, Int.reduceEq, Int.reduceNe, Int.reduceNeg, Nat.reduceDiv, Nat.reduceMod, Nat.reducePow, cast_lit, ax14, bx14, cx14, g15, hN0, hN]
            repeat (with_reducible refine And.intro (by first | (intro h0; simp only [h0, and_self]; done) | (intro h0; simp only [h0, Bool.not_false, Bool.not_true, Bool.true_and, Bool.and_true, true_and, and_true, and_self, imp_self, implies_true, bne_iff_ne, ne_eq, beq_iff_eq]; done) | (intros; simp_all; done) | exact True.intro) ?_)
            refine W_cond (t := (cond (decide (s2_.2 < (x14.L.length : Int))) (decide (0 ≤ s2_.1)) false)) rfl (fun c20 => ?_) (fun c20 => ?_)
            · replace hs2_ := condT c20 hs2_
              refine W_skip ?_
              try simp only [gthen, gblock]
              refine W_drop [1, 2, 3, 8, 9] [true] ?_
              simp only [push_cast, seval, ↓reduceIte]
              refine W_seqK ?_
              refine W_block ?_
              obtain ⟨x16, hx16, ax16, bx16, cx16, hs2_⟩ := bE (f := e_S_api_Op) tab69 (fun _ => rfl) (by decide) hs2_
              have g17 := gpart_fld (f := e_S_api_Op) (off := 2) (sz := 14) tab23 (fun _ => rfl) (by decide) (by decide) hx16
              obtain ⟨x18, hx18, ax18, bx18, cx18, hs2_⟩ := bE (f := e_S_api_Tree) tab25 (fun _ => rfl) (by decide) hs2_
              obtain ⟨y19, hy19, hs2_⟩ := bC hs2_
              refine W_regionD tab_ok [] ?_
              simp only [push_cast, Nat.reduceAdd, Nat.reduceSub, Nat.reduceMul, Nat.reduceLeDiff, Nat.reduceLT, Nat.reduceEqDiff, ↓reduceIte, reduceCtorEq, Int.reduceBEq, Int.reduceBNe, Nat.reduceBEq, Int.reduceLE, Int.reduceLT, Int.reduceEq, Int.reduceNe, Int.reduceNeg, Nat.reduceDiv, Nat.reduceMod, Nat.reducePow, cast_lit, ax16, bx16, cx16, g17, ax18, bx18, cx18, hN0, hN]
              refine (ok_centoref07_Shallow hy19).then ?_
              simp only [push_cast, Nat.reduceAdd, Nat.reduceSub, Nat.reduceMul, Nat.reduceLeDiff, Nat.reduceLT, Nat.reduceEqDiff, ↓reduceIte, reduceCtorEq, Int.reduceBEq, Int.reduceBNe, Nat.reduceBEq, Int.reduceLE, Int.reduceLT, Int.reduceEq, Int.reduceNe, Int.reduceNeg, Nat.reduceDiv, Nat.reduceMod, Nat.reducePow, cast_lit, ax16, bx16, cx16, g17, ax18, bx18, cx18, hN0, hN]
              refine W_drop [1, 2, 3, 8, 9] [true] ?_
              simp only [push_cast, seval, ↓reduceIte]
              refine W_regionD tab_ok [] ?_
              simp only [push_cast, seval, ↓reduceIte, cast_lit, hN0, hN]
              have hs2_ := Option.some.inj hs2_; subst hs2_
              refine And.intro rfl (Fit2.of (fit_loc hU rfl rfl ?_) (by omega))
              simp only [push_cast, seval, ↓reduceIte, cast_lit, hN0, hN]
            · replace hs2_ := condF c20 hs2_
              refine W_exit ?_
              try simp only [gthen, gblock, ↓reduceIte, Nat.reduceEqDiff]
              have hs2_ := Option.some.inj hs2_; subst hs2_
              refine And.intro (fun h => by cases h) (And.intro rfl (Fit2.of (fit_loc hU rfl rfl ?_) (by omega)))
              simp only [push_cast, seval, ↓reduceIte, cast_lit, hN0, hN]
          try simp only [gthen, gblock, ↓reduceIte, Nat.reduceEqDiff]
          refine W_drop [1, 2, 3, 8] [true] ?_
          simp only [push_cast, seval, ↓reduceIte]
          refine W_sq [1, 2, 3, 8, 95] (W_regionD tab_ok [] ?_)
          simp only [push_cast, seval, ↓reduceIte, cast_lit, hN0, hN]
          refine W_cond (t := (decide (0 ≤ z21))) rfl (fun c25 => ?_) (fun c25 => ?_)
          · replace hz11 := condT c25 hz11
            obtain ⟨x22, hx22, ax22, bx22, cx22, hz11⟩ := bE (f := e_S_api_Op) tab69 (fun _ => rfl) (by decide) hz11
            have g23 := gpart_fld (f := e_S_api_Op) (off := 3) (sz := 14) tab30 (fun _ => rfl) (by decide) (by decide) hx22
            obtain ⟨y24, hy24, hz11⟩ := bC hz11
            refine W_regionD tab_ok [] ?_
            simp only [push_cast, Nat.reduceAdd, Nat.reduceSub, Nat.reduceMul, Nat.reduceLeDiff, Nat.reduceLT, Nat.reduceEqDiff, ↓reduceIte, reduceCtorEq, Int.reduceBEq, Int.reduceBNe, Nat.reduceBEq, Int.reduceLE, Int.reduceLT, Int.reduceEq, Int.reduceNe, Int.reduceNeg, Nat.reduceDiv, Nat.reduceMod, Nat.reducePow, cast_lit, ax22, bx22, cx22, g23, hN0, hN]
            refine (ok_r_centoref20_left hy24).then ?_
            simp only [push_cast, Nat.reduceAdd, Nat.reduceSub, Nat.reduceMul, Nat.reduceLeDiff, Nat.reduceLT, Nat.reduceEqDiff, ↓reduceIte, reduceCtorEq, Int.reduceBEq, Int.reduceBNe, Nat.reduceBEq, Int.reduceLE, Int.reduceLT, Int.reduceEq, Int.reduceNe, Int.reduceNeg, Nat.reduceDiv, Nat.reduceMod, Nat.reducePow, cast_lit, ax22, bx22, cx22, g23, hN0, hN]
            have hz11 := Option.some.inj hz11; subst hz11
            refine And.intro rfl (Fit2.of (fit_loc hU rfl rfl ?_) (by omega))
            simp only [push_cast, Nat.reduceAdd, Nat.reduceSub, Nat.reduceMul, Nat.reduceLeDiff, Nat.reduceLT, Nat.reduceEqDiff, ↓reduceIte, reduceCtorEq, Int.reduceBEq, Int.reduceBNe, Nat.reduceBEq, Int.reduceLE, Int.reduceLT, Int.reduceEq, Int.reduceNe, Int.reduceNeg, Nat.reduceDiv, Nat.reduceMod, Nat.reducePow, cast_lit, ax22, bx22, cx22, g23, hN0, hN]
          · replace hz11 := condF c25 hz11
            refine W_skip ?_
            try simp only [gthen, gblock]
            have hz11 := Option.some.inj hz11; subst hz11
            refine And.intro rfl (Fit2.of (fit_loc hU rfl rfl ?_) (by omega))
            simp only [push_cast, seval, ↓reduceIte, cast_lit, hN0, hN]
        refine W_regionD tab_ok [] ?_
        simp only [push_cast, seval, ↓reduceIte, cast_lit, hN0, hN]
        have hs1_ := Option.some.inj hs1_; subst hs1_
        refine And.intro rfl (Fit2.of (fit_loc hU rfl rfl ?_) (by omega))
        simp only [push_cast, seval, ↓reduceIte, cast_lit, hN0, hN]
      · replace hs1_ := condF c26 hs1_
        refine W_exit ?_
        try simp only [gthen, gblock, ↓reduceIte, Nat.reduceEqDiff]
        have hs1_ := Option.some.inj hs1_; subst hs1_
        refine And.intro (fun h => by cases h) (And.intro rfl (Fit2.of (fit_loc hU rfl rfl ?_) (by omega)))
        simp only [push_cast, seval, ↓reduceIte, cast_lit, hN0, hN]
    try simp only [gthen, gblock, ↓reduceIte, Nat.reduceEqDiff]
    refine W_drop [2] [false] ?_
    simp only [push_cast, seval, ↓reduceIte]
    refine W_sq [6] (W_regionD tab_ok [] ?_)
    simp only [push_cast, seval, ↓reduceIte, cast_lit, hN0, hN]
    refine W_ret ?_
    try simp only [gthen, gblock]
    have h := Option.some.inj h; subst h
    refine fin_loc (.inr rfl) hU [.val (.int .i64 z27)] (by omega) ?_
    simp only [push_cast, seval, ↓reduceIte, cast_lit, Try.results83, hN0, hN]
theorem lv_centoref20_left_ok : ∀ k, (∀ {a0 : S_api_Edit} {a1 : Int} {a2 : Int} {r : Int} {O : Objs} {n : Nat}, (lv_centoref20_left k) a0 a1 a2 = some r → GTo Try.prog 83 [.agg (c_S_api_Edit a0), .val (.int .i64 a1), .val (.int .i64 a2)] O n (.val (.int .i64 r)) O n) := fun k => by
  induction k with
  | zero => exact @fun a0 a1 a2 r O n h => (nomatch (show (none : Option _) = some _ from h))
  | succ k ih => exact @fun a0 a1 a2 r O n h => okb_centoref20_left (ih)  h
theorem ok_centoref20_left {a0 : S_api_Edit} {a1 : Int} {a2 : Int} {r : Int} {O : Objs} {n : Nat} (h : m_centoref20_left a0 a1 a2 = some r) : GTo Try.prog 83 [.agg (c_S_api_Edit a0), .val (.int .i64 a1), .val (.int .i64 a2)] O n (.val (.int .i64 r)) O n := by
  obtain ⟨k, hk⟩ := lim_some h
  exact (lv_centoref20_left_ok k)  hk
theorem ok_centoref20_Few {a0 : S_api_Edit} {r : Bool} {O : Objs} {n : Nat} (h : m_centoref20_Few a0 = some r) : GTo Try.prog 49 [.agg (c_S_api_Edit a0)] O n (.val (.bool r)) O n := by
  unfold m_centoref20_Few at h
  refine fn_of tab_ok Try.call49 Try.func49 rfl (Nat.le_of_ble_eq_true rfl) (Nat.le_refl _) fun hU => ?_
  have hN0 : O n = none := hU.fresh _ (Nat.le_refl _)
  have hN : ∀ k, O (n + k) = none := fun k => hU.fresh _ (Nat.le_add_right _ _)
  show W _ _ _ _ ⟨6, [], [(0, .agg (c_S_api_Edit a0))]⟩ (Loc O n []) _
  refine W_sq [1] (W_regionD tab_ok [] ?_)
  simp only [push_cast, seval, ↓reduceIte, cast_lit, hN0, hN]
  refine W_seqK ?_
  obtain ⟨y2, hy2, h⟩ := bC h
  refine W_regionD tab_ok [] ?_
  simp only [push_cast, seval, ↓reduceIte, cast_lit, hN0, hN]
  refine (ok_centoref20_left hy2).then ?_
  simp only [push_cast, seval, ↓reduceIte, cast_lit, hN0, hN]
  refine W_drop [2] [false] ?_
  simp only [push_cast, seval, ↓reduceIte]
  refine W_ret ?_
  try simp only [gthen, gblock]
  have h := Option.some.inj h; subst h
  refine fin_loc (.inr rfl) hU [.val (.bool (decide (0 ≤ y2)))] (by omega) ?_
  simp only [push_cast, seval, ↓reduceIte, cast_lit, Try.results49, hN0, hN]
theorem ok_centoref20_none {a0 : S_api_Tree} {r : Bool} {O : Objs} {n : Nat} (h : m_centoref20_none a0 = some r) : GTo Try.prog 67 [.agg (c_S_api_Tree a0)] O n (.val (.bool r)) O n := by
  unfold m_centoref20_none at h
  refine fn_of tab_ok Try.call67 Try.func67 rfl (Nat.le_of_ble_eq_true rfl) (Nat.le_refl _) fun hU => ?_
  have hN0 : O n = none := hU.fresh _ (Nat.le_refl _)
  have hN : ∀ k, O (n + k) = none := fun k => hU.fresh _ (Nat.le_add_right _ _)
  show W _ _ _ _ ⟨16, [], [(0, .agg (c_S_api_Tree a0))]⟩ (Loc O n []) _
  refine W_sq [1] (W_regionD tab_ok [] ?_)
  simp only [push_cast, seval, ↓reduceIte, cast_lit, hN0, hN]
  refine W_sq [2] (W_regionD tab_ok [none, none, none, none, none, none, none, none] ?_)
  simp only [push_cast, seval, ↓reduceIte, cast_lit, hN0, hN]
  repeat (with_reducible refine And.intro (by first | (intro h0; simp only [h0, and_self]; done) | (intro h0; simp only [h0, Bool.not_false, Bool.not_true, Bool.true_and, Bool.and_true, true_and, and_true, and_self, imp_self, implies_true, bne_iff_ne, ne_eq, beq_iff_eq]; done) | (intros; simp_all; done) | exact True.intro) ?_)
  refine W_ret ?_
  try simp only [gthen, gblock]
  have h := Option.some.inj h; subst h
  refine fin_loc (.inr rfl) hU [.val (.bool (cond (a0.Kind == 0) ((IntKind.i64.wrap ((a0.Words.length : Int) + (a0.Kids.length : Int))) == 0) false))] (by omega) ?_
  simp only [push_cast, seval, ↓reduceIte, cast_lit, Try.results67, hN0, hN]
theorem ok_centoref01_Width {a0 : Int} {r : Int} {O : Objs} {n : Nat} (h : m_centoref01_Width a0 = some r) : GTo Try.prog 92 [.val (.int .i64 a0)] O n (.val (.int .i64 r)) O n := by
  unfold m_centoref01_Width at h
  refine fn_of tab_ok Try.call92 Try.func92 rfl (Nat.le_of_ble_eq_true rfl) (Nat.le_refl _) fun hU => ?_
  have hN0 : O n = none := hU.fresh _ (Nat.le_refl _)
  have hN : ∀ k, O (n + k) = none := fun k => hU.fresh _ (Nat.le_add_right _ _)
  show W _ _ _ _ ⟨16, [], [(0, .val (.int .i64 a0))]⟩ (Loc O n []) _
  refine W_sq [0] (W_regionD tab_ok [] ?_)
  simp only [push_cast, seval, ↓reduceIte, cast_lit, hN0, hN]
  refine W_seqK ?_
  refine W_sq [3] (W_regionD tab_ok [] ?_)
  simp only [push_cast, seval, ↓reduceIte, cast_lit, hN0, hN]
  refine W_block ?_
  refine W_sq [3, 4] (W_regionD tab_ok [] ?_)
  simp only [push_cast, seval, ↓reduceIte, cast_lit, hN0, hN]
  refine W_cond (t := (a0 == 0)) rfl (fun c6 => ?_) (fun c6 => ?_)
  · replace h := condT c6 h
    refine W_sq [2] (W_regionD tab_ok [] ?_)
    simp only [push_cast, seval, ↓reduceIte, cast_lit, hN0, hN]
    refine W_ret ?_
    try simp only [gthen, gblock]
    have h := Option.some.inj h; subst h
    refine fin_loc (.inr rfl) hU [.val (.int .i64 0)] (by omega) ?_
    simp only [push_cast, seval, ↓reduceIte, cast_lit, Try.results92, hN0, hN]
  · replace h := condF c6 h
    refine W_sq [3, 6] (W_regionD tab_ok [] ?_)
    simp only [push_cast, seval, ↓reduceIte, cast_lit, hN0, hN]
    refine W_cond (t := (a0 == 1)) rfl (fun c5 => ?_) (fun c5 => ?_)
    · replace h := condT c5 h
      refine W_sq [2] (W_regionD tab_ok [] ?_)
      simp only [push_cast, seval, ↓reduceIte, cast_lit, hN0, hN]
      refine W_ret ?_
      try simp only [gthen, gblock]
      have h := Option.some.inj h; subst h
      refine fin_loc (.inr rfl) hU [.val (.int .i64 1)] (by omega) ?_
      simp only [push_cast, seval, ↓reduceIte, cast_lit, Try.results92, hN0, hN]
    · replace h := condF c5 h
      refine W_sq [3, 8] (W_regionD tab_ok [] ?_)
      simp only [push_cast, seval, ↓reduceIte, cast_lit, hN0, hN]
      refine W_cond (t := (a0 == 2)) rfl (fun c4 => ?_) (fun c4 => ?_)
      · replace h := condT c4 h
        refine W_sq [2] (W_regionD tab_ok [] ?_)
        simp only [push_cast, seval, ↓reduceIte, cast_lit, hN0, hN]
        refine W_ret ?_
        try simp only [gthen, gblock]
        have h := Option.some.inj h; subst h
        refine fin_loc (.inr rfl) hU [.val (.int .i64 8)] (by omega) ?_
        simp only [push_cast, seval, ↓reduceIte, cast_lit, Try.results92, hN0, hN]
      · replace h := condF c4 h
        refine W_sq [3, 10] (W_regionD tab_ok [] ?_)
        simp only [push_cast, seval, ↓reduceIte, cast_lit, hN0, hN]
        refine W_cond (t := (a0 == 3)) rfl (fun c3 => ?_) (fun c3 => ?_)
        · replace h := condT c3 h
          refine W_sq [2] (W_regionD tab_ok [] ?_)
          simp only [push_cast, seval, ↓reduceIte, cast_lit, hN0, hN]
          refine W_ret ?_
          try simp only [gthen, gblock]
          have h := Option.some.inj h; subst h
          refine fin_loc (.inr rfl) hU [.val (.int .i64 16)] (by omega) ?_
          simp only [push_cast, seval, ↓reduceIte, cast_lit, Try.results92, hN0, hN]
        · replace h := condF c3 h
          refine W_sq [3, 12] (W_regionD tab_ok [] ?_)
          simp only [push_cast, seval, ↓reduceIte, cast_lit, hN0, hN]
          refine W_cond (t := (a0 == 4)) rfl (fun c2 => ?_) (fun c2 => ?_)
          · replace h := condT c2 h
            refine W_sq [2] (W_regionD tab_ok [] ?_)
            simp only [push_cast, seval, ↓reduceIte, cast_lit, hN0, hN]
            refine W_ret ?_
            try simp only [gthen, gblock]
            have h := Option.some.inj h; subst h
            refine fin_loc (.inr rfl) hU [.val (.int .i64 32)] (by omega) ?_
            simp only [push_cast, seval, ↓reduceIte, cast_lit, Try.results92, hN0, hN]
          · replace h := condF c2 h
            refine W_sq [14] (W_regionD tab_ok [] ?_)
            simp only [push_cast, seval, ↓reduceIte, cast_lit, hN0, hN]
            refine W_cond (t := (a0 == 5)) rfl (fun c1 => ?_) (fun c1 => ?_)
            · replace h := condT c1 h
              refine W_sq [2] (W_regionD tab_ok [] ?_)
              simp only [push_cast, seval, ↓reduceIte, cast_lit, hN0, hN]
              refine W_ret ?_
              try simp only [gthen, gblock]
              have h := Option.some.inj h; subst h
              refine fin_loc (.inr rfl) hU [.val (.int .i64 64)] (by omega) ?_
              simp only [push_cast, seval, ↓reduceIte, cast_lit, Try.results92, hN0, hN]
            · replace h := condF c1 h
              refine W_skip ?_
              try simp only [gthen, gblock]
              refine W_drop [] [] ?_
              simp only [push_cast, seval, ↓reduceIte]
              refine W_sq [2] (W_regionD tab_ok [] ?_)
              simp only [push_cast, seval, ↓reduceIte, cast_lit, hN0, hN]
              refine W_ret ?_
              try simp only [gthen, gblock]
              have h := Option.some.inj h; subst h
              refine fin_loc (.inr rfl) hU [.val (.int .i64 (-1))] (by omega) ?_
              simp only [push_cast, seval, ↓reduceIte, cast_lit, Try.results92, hN0, hN]
theorem ok_centoref01_Fits {a0 : Int} {a1 : Int} {r : Bool} {O : Objs} {n : Nat} (h : m_centoref01_Fits a0 a1 = some r) : GTo Try.prog 57 [.val (.int .i64 a0), .val (.int .u64 a1)] O n (.val (.bool r)) O n := by
  unfold m_centoref01_Fits at h
  refine fn_of tab_ok Try.call57 Try.func57 rfl (Nat.le_of_ble_eq_true rfl) (Nat.le_refl _) fun hU => ?_
  have hN0 : O n = none := hU.fresh _ (Nat.le_refl _)
  have hN : ∀ k, O (n + k) = none := fun k => hU.fresh _ (Nat.le_add_right _ _)
  show W _ _ _ _ ⟨20, [], [(0, .val (.int .i64 a0)), (1, .val (.int .u64 a1))]⟩ (Loc O n []) _
  refine W_sq [0, 1] (W_regionD tab_ok [] ?_)
  simp only [push_cast, seval, ↓reduceIte, cast_lit, hN0, hN]
  refine W_seqK ?_
  obtain ⟨y2, hy2, h⟩ := bC h
  refine W_regionD tab_ok [] ?_
  simp only [push_cast, seval, ↓reduceIte, cast_lit, hN0, hN]
  refine (ok_centoref01_Width hy2).then ?_
  simp only [push_cast, seval, ↓reduceIte, cast_lit, hN0, hN]
  refine W_drop [1, 5] [] ?_
  simp only [push_cast, seval, ↓reduceIte]
  refine W_seqK ?_
  refine W_sq [1, 5, 10] (W_regionD tab_ok [] ?_)
  simp only [push_cast, seval, ↓reduceIte, cast_lit, hN0, hN]
  refine W_cond (t := (decide (y2 < 0))) rfl (fun c5 => ?_) (fun c5 => ?_)
  · replace h := condT c5 h
    refine W_sq [4] (W_regionD tab_ok [] ?_)
    simp only [push_cast, seval, ↓reduceIte, cast_lit, hN0, hN]
    refine W_ret ?_
    try simp only [gthen, gblock]
    have h := Option.some.inj h; subst h
    refine fin_loc (.inr rfl) hU [.val (.bool false)] (by omega) ?_
    simp only [push_cast, seval, ↓reduceIte, cast_lit, Try.results57, hN0, hN]
  · replace h := condF c5 h
    refine W_skip ?_
    try simp only [gthen, gblock]
    refine W_drop [1, 5] [] ?_
    simp only [push_cast, seval, ↓reduceIte]
    refine W_seqK ?_
    refine W_sq [1, 5, 6] (W_regionD tab_ok [] ?_)
    simp only [push_cast, seval, ↓reduceIte, cast_lit, hN0, hN]
    refine W_drop [1, 5, 6] [] ?_
    simp only [push_cast, seval, ↓reduceIte]
    obtain ⟨z4, hz4, h⟩ := bC h
    refine W_blockX (E' := ⟨20, [], [(1, .val (.int .u64 z4))]⟩) (O' := (Loc O n [])) (n0 := n) ?_ ?_
    · refine W_loopJ hz4 (fun s0_ => ⟨20, [], [(1, .val (.int .u64 s0_.1)), (5, .val (.int .i64 y2)), (6, .val (.int .i64 s0_.2))]⟩) (fun s0_ => (Loc O n [])) (fun z4 => JX 0 n (⟨20, [], [(1, .val (.int .u64 z4))]⟩ : Env) (Loc O n []) n) ?_
      intro s0_ x0_ hs0_
      unfold m_centoref01_Fits_L0 at hs0_
      try dsimp only
      refine W_seqK ?_
      refine W_sq [1, 5, 6, 13] (W_regionD tab_ok [] ?_)
      simp only [push_cast, seval, ↓reduceIte, cast_lit, hN0, hN]
      refine W_cond (t := (decide (s0_.2 < y2))) rfl (fun c3 => ?_) (fun c3 => ?_)
      · replace hs0_ := condT c3 hs0_
        refine W_skip ?_
        try simp only [gthen, gblock]
        refine W_drop [1, 5, 6] [] ?_
        simp only [push_cast, seval, ↓reduceIte]
        refine W_seqK ?_
        refine W_block ?_
        refine W_regionD tab_ok [] ?_
        simp only [push_cast, seval, ↓reduceIte, cast_lit, hN0, hN]
        refine W_drop [1, 5, 6] [] ?_
        simp only [push_cast, seval, ↓reduceIte]
        refine W_regionD tab_ok [] ?_
        simp only [push_cast, seval, ↓reduceIte, cast_lit, hN0, hN]
        have hs0_ := Option.some.inj hs0_; subst hs0_
        refine And.intro rfl (Fit2.of (fit_loc hU rfl rfl ?_) (by omega))
        simp only [push_cast, seval, ↓reduceIte, cast_lit, hN0, hN]
      · replace hs0_ := condF c3 hs0_
        refine W_exit ?_
        try simp only [gthen, gblock, ↓reduceIte, Nat.reduceEqDiff]
        have hs0_ := Option.some.inj hs0_; subst hs0_
        refine And.intro (fun h => by cases h) (And.intro rfl (Fit2.of (fit_loc hU rfl rfl ?_) (by omega)))
        simp only [push_cast, seval, ↓reduceIte, cast_lit, hN0, hN]
    try simp only [gthen, gblock, ↓reduceIte, Nat.reduceEqDiff]
    refine W_drop [1] [] ?_
    simp only [push_cast, seval, ↓reduceIte]
    refine W_sq [4] (W_regionD tab_ok [] ?_)
    simp only [push_cast, seval, ↓reduceIte, cast_lit, hN0, hN]
    refine W_ret ?_
    try simp only [gthen, gblock]
    have h := Option.some.inj h; subst h
    refine fin_loc (.inr rfl) hU [.val (.bool (z4 == 0))] (by omega) ?_
    simp only [push_cast, seval, ↓reduceIte, cast_lit, Try.results57, hN0, hN]
theorem okb_centoref07_Right {r_centoref07_Right : (S_api_Tree → Int → Option Bool)} (ok_r_centoref07_Right : ∀ {a0 : S_api_Tree} {a1 : Int} {r : Bool} {O : Objs} {n : Nat}, r_centoref07_Right a0 a1 = some r → GTo Try.prog 22 [.agg (c_S_api_Tree a0), .val (.int .i64 a1)] O n (.val (.bool r)) O n) {a0 : S_api_Tree} {a1 : Int} {r : Bool} {O : Objs} {n : Nat} (h : b_centoref07_Right r_centoref07_Right a0 a1 = some r) : GTo Try.prog 22 [.agg (c_S_api_Tree a0), .val (.int .i64 a1)] O n (.val (.bool r)) O n := by
  unfold b_centoref07_Right at h
  refine fn_of tab_ok Try.call22 Try.func22 rfl (Nat.le_of_ble_eq_true rfl) (Nat.le_refl _) fun hU => ?_
  have hN0 : O n = none := hU.fresh _ (Nat.le_refl _)
  have hN : ∀ k, O (n + k) = none := fun k => hU.fresh _ (Nat.le_add_right _ _)
  show W _ _ _ _ ⟨132, [], [(0, .agg (c_S_api_Tree a0)), (1, .val (.int .i64 a1))]⟩ (Loc O n []) _
  refine W_sq [1, 2] (W_regionD tab_ok [] ?_)
  simp only [push_cast, seval, ↓reduceIte, cast_lit, hN0, hN]
  refine W_seqK ?_
  refine W_sq [1, 2, 10] (W_regionD tab_ok [] ?_)
  simp only [push_cast, seval, ↓reduceIte, cast_lit, hN0, hN]
  refine W_cond (t := (a0.Kind == 0)) rfl (fun c32 => ?_) (fun c32 => ?_)
  · replace h := condT c32 h
    refine W_sq [4] (W_regionD tab_ok [none, none, none, none] ?_)
    simp only [push_cast, seval, ↓reduceIte, cast_lit, hN0, hN]
    repeat (with_reducible refine And.intro (by first | (intro h0; simp only [h0, and_self]; done) | (intro h0; simp only [h0, Bool.not_false, Bool.not_true, Bool.true_and, Bool.and_true, true_and, and_true, and_self, imp_self, implies_true, bne_iff_ne, ne_eq, beq_iff_eq]; done) | (intros; simp_all; done) | exact True.intro) ?_)
    refine W_ret ?_
    try simp only [gthen, gblock]
    have h := Option.some.inj h; subst h
    refine fin_loc (.inr rfl) hU [.val (.bool (cond ((a0.Words.length : Int) == 0) ((a0.Kids.length : Int) == 0) false))] (by omega) ?_
    simp only [push_cast, seval, ↓reduceIte, cast_lit, Try.results22, hN0, hN]
  · replace h := condF c32 h
    refine W_skip ?_
    try simp only [gthen, gblock]
    refine W_drop [1, 2] [true] ?_
    simp only [push_cast, seval, ↓reduceIte]
    refine W_seqK ?_
    refine W_sq [1, 2, 23] (W_regionD tab_ok [] ?_)
    simp only [push_cast, seval, ↓reduceIte, cast_lit, hN0, hN]
    refine W_cond (t := (a0.Kind == 10)) rfl (fun c31 => ?_) (fun c31 => ?_)
    · replace h := condT c31 h
      refine W_sq [4] (W_regionD tab_ok [none, none, none, none] ?_)
      simp only [push_cast, seval, ↓reduceIte, cast_lit, hN0, hN]
      repeat (with_reducible refine And.intro (by first | (intro h0; simp only [h0, and_self]; done) | (intro h0; simp only [h0, Bool.not_false, Bool.not_true, Bool.true_and, Bool.and_true, true_and, and_true, and_self, imp_self, implies_true, bne_iff_ne, ne_eq, beq_iff_eq]; done) | (intros; simp_all; done) | exact True.intro) ?_)
      refine W_ret ?_
      try simp only [gthen, gblock]
      have h := Option.some.inj h; subst h
      refine fin_loc (.inr rfl) hU [.val (.bool (cond ((a0.Words.length : Int) == 1) ((a0.Kids.length : Int) == 0) false))] (by omega) ?_
      simp only [push_cast, seval, ↓reduceIte, cast_lit, Try.results22, hN0, hN]
    · replace h := condF c31 h
      refine W_skip ?_
      try simp only [gthen, gblock]
      refine W_drop [1, 2] [true] ?_
      simp only [push_cast, seval, ↓reduceIte]
      refine W_seqK ?_
      refine W_sq [1, 2, 68] (W_regionD tab_ok [none, none, none, none, none, none, none, none, none, none, none, none, none, none, none, none, none, none, none, none, none, none] ?_)
      simp only [push_cast, seval, ↓reduceIte, cast_lit, hN0, hN]
      repeat (with_reducible refine And.intro (by first | (intro h0; simp only [h0, and_self]; done) | (intro h0; simp only [h0, Bool.not_false, Bool.not_true, Bool.true_and, Bool.and_true, true_and, and_true, and_self, imp_self, implies_true, bne_iff_ne, ne_eq, beq_iff_eq]; done) | (intros; simp_all; done) | exact True.intro) ?_)
      refine W_cond (t := (cond (cond (cond (cond (cond (decide (a0.Kind < 0)) true (decide (10 < a0.Kind))) true (a1 == 0)) true (decide (65536 ≤ (a0.Words.length : Int)))) true (cond (a0.Kind == 1) (decide (65536 ≤ (a0.Kids.length : Int))) false)) true (decide (1048576 ≤ (a0.Kids.length : Int))))) rfl (fun c30 => ?_) (fun c30 => ?_)
      · replace h := condT c30 h
        refine W_sq [4] (W_regionD tab_ok [] ?_)
        simp only [push_cast, seval, ↓reduceIte, cast_lit, hN0, hN]
        refine W_ret ?_
        try simp only [gthen, gblock]
        have h := Option.some.inj h; subst h
        refine fin_loc (.inr rfl) hU [.val (.bool false)] (by omega) ?_
        simp only [push_cast, seval, ↓reduceIte, cast_lit, Try.results22, hN0, hN]
      · replace h := condF c30 h
        refine W_skip ?_
        try simp only [gthen, gblock]
        refine W_drop [1, 2] [true] ?_
        simp only [push_cast, seval, ↓reduceIte]
        refine W_seqK ?_
        refine W_sq [1, 2, 77] (W_regionD tab_ok [none, none, none, none] ?_)
        simp only [push_cast, seval, ↓reduceIte, cast_lit, hN0, hN]
        repeat (with_reducible refine And.intro (by first | (intro h0; simp only [h0, and_self]; done) | (intro h0; simp only [h0, Bool.not_false, Bool.not_true, Bool.true_and, Bool.and_true, true_and, and_true, and_self, imp_self, implies_true, bne_iff_ne, ne_eq, beq_iff_eq]; done) | (intros; simp_all; done) | exact True.intro) ?_)
        refine W_cond (t := (cond (decide (1 < a0.Kind)) (decide (0 < (a0.Words.length : Int))) false)) rfl (fun c29 => ?_) (fun c29 => ?_)
        · replace h := condT c29 h
          refine W_sq [4] (W_regionD tab_ok [] ?_)
          simp only [push_cast, seval, ↓reduceIte, cast_lit, hN0, hN]
          refine W_ret ?_
          try simp only [gthen, gblock]
          have h := Option.some.inj h; subst h
          refine fin_loc (.inr rfl) hU [.val (.bool false)] (by omega) ?_
          simp only [push_cast, seval, ↓reduceIte, cast_lit, Try.results22, hN0, hN]
        · replace h := condF c29 h
          refine W_skip ?_
          try simp only [gthen, gblock]
          refine W_drop [1, 2] [true] ?_
          simp only [push_cast, seval, ↓reduceIte]
          refine W_seqK ?_
          refine W_sq [1, 2, 5] (W_regionD tab_ok [] ?_)
          simp only [push_cast, seval, ↓reduceIte, cast_lit, hN0, hN]
          refine W_drop [1, 2, 5] [true] ?_
          simp only [push_cast, seval, ↓reduceIte]
          obtain ⟨z28, hz28, h⟩ := bC h
          refine W_sumB (J := (SumJ (fun z28 => JR n (⟨132, [], [(4, .val (.bool false))]⟩ : Env) (Loc O n [none]) (n + 1)) (fun z28 => JX 0 n (⟨132, [], []⟩ : Env) (Loc O n [none]) (n + 1)))) (z := z28) ?_ fun hw => ?_
          · refine W_loopJ hz28 (fun s0_ => ⟨132, [], [(1, .val (.int .i64 a1)), (2, .ref n 0), (5, .val (.int .i64 s0_))]⟩) (fun s0_ => (Loc O n [some ⟨false, 25, 3, 1, (c_S_api_Tree a0)⟩])) (SumJ (fun z28 => JR n (⟨132, [], [(4, .val (.bool false))]⟩ : Env) (Loc O n [none]) (n + 1)) (fun z28 => JX 0 n (⟨132, [], []⟩ : Env) (Loc O n [none]) (n + 1))) ?_
            intro s0_ x0_ hs0_
            unfold b_centoref07_Right_L0 at hs0_
            try dsimp only
            refine W_seqK ?_
            refine W_sq [1, 2, 5, 82] (W_regionD tab_ok [] ?_)
            simp only [push_cast, seval, ↓reduceIte, cast_lit, hN0, hN]
            refine W_cond (t := (decide (s0_ < (a0.Kids.length : Int)))) rfl (fun c27 => ?_) (fun c27 => ?_)
            · replace hs0_ := condT c27 hs0_
              refine W_skip ?_
              try simp only [gthen, gblock]
              refine W_drop [1, 2, 5] [true] ?_
              simp only [push_cast, seval, ↓reduceIte]
              refine W_seqK ?_
              refine W_block ?_
              refine W_seqK ?_
              obtain ⟨x2, hx2, ax2, bx2, cx2, hs0_⟩ := bE (f := e_S_api_Tree) tab25 (fun _ => rfl) (by decide) hs0_
              refine W_regionD tab_ok [] ?_
              simp only [push_cast, Nat.reduceAdd, Nat.reduceSub, Nat.reduceMul, Nat.reduceLeDiff, Nat.reduceLT, Nat.reduceEqDiff, ↓reduceIte, reduceCtorEq, Int.reduceBEq, Int.reduceBNe, Nat.reduceBEq, Int.reduceLE, Int.reduceLT, Int.reduceEq, Int.reduceNe, Int.reduceNeg, Nat.reduceDiv, Nat.reduceMod, Nat.reducePow, cast_lit, ax2, bx2, cx2, hN0, hN]
              refine W_drop [1, 2, 5, 6] [true, true] ?_
              simp only [push_cast, seval, ↓reduceIte]
              refine W_seqK ?_
              refine W_seqK ?_
              obtain ⟨y4, hy4, hs0_⟩ := bC hs0_
              refine W_regionD tab_ok [] ?_
              simp only [push_cast, seval, ↓reduceIte, cast_lit, hN0, hN]
              refine (ok_r_centoref07_Right hy4).then ?_
              simp only [push_cast, seval, ↓reduceIte, cast_lit, hN0, hN]
              refine W_drop [1, 2, 5, 6, 94] [true, true] ?_
              simp only [push_cast, seval, ↓reduceIte]
              refine W_cond (t := (!y4)) rfl (fun c26 => ?_) (fun c26 => ?_)
              · replace hs0_ := condT c26 hs0_
                refine W_sq [4] (W_regionD tab_ok [] ?_)
                simp only [push_cast, seval, ↓reduceIte, cast_lit, hN0, hN]
                refine W_ret ?_
                try simp only [gthen, gblock]
                have hs0_ := Option.some.inj hs0_; subst hs0_
                refine And.intro (fun h => by cases h) (And.intro rfl (Fit2.of (fit_loc hU rfl rfl ?_) (by omega)))
                simp only [push_cast, seval, ↓reduceIte, cast_lit, hN0, hN]
              · replace hs0_ := condF c26 hs0_
                refine W_skip ?_
                try simp only [gthen, gblock]
                refine W_drop [1, 2, 5, 6] [true, true] ?_
                simp only [push_cast, seval, ↓reduceIte]
                refine W_sq [1, 2, 5, 6, 7] (W_regionD tab_ok [none, none, none] ?_)
                simp only [push_cast, seval, ↓reduceIte, cast_lit, hN0, hN]
                repeat (with_reducible refine And.intro (by first | (intro h0; simp only [h0, and_self]; done) | (intro h0; simp only [h0, Bool.not_false, Bool.not_true, Bool.true_and, Bool.and_true, true_and, and_true, and_self, imp_self, implies_true, bne_iff_ne, ne_eq, beq_iff_eq]; done) | (intros; simp_all; done) | exact True.intro) ?_)
                obtain ⟨z9, hz9, hs0_⟩ := bC hs0_
                refine W_seqN (E' := ⟨132, [], [(1, .val (.int .i64 a1)), (2, .ref n 0), (5, .val (.int .i64 s0_)), (131, .val (.bool z9))]⟩) (O' := (Loc O n [some ⟨false, 25, 3, 1, (c_S_api_Tree a0)⟩, none])) (n0 := (n + 2)) ?_ ?_
                · rcases Bool.eq_false_or_eq_true ((cond (decide (2 ≤ a0.Kind)) (decide (a0.Kind ≤ 7)) false) != (x2.Kind == 10)) with c18 | c18
                  · replace hz9 := condT c18 hz9
                    refine W_drawD tab_ok (by kernel_rfl) [none, none, none, none, none, none, none, none, some false, some false, some false, some false, some false, some false, some false, some false, some false, some false, some false, some false] (by kernel_rfl) ?_
                    simp only [push_cast, seval, ↓reduceIte, cast_lit, c18, hN0, hN]
                    repeat (with_reducible refine And.intro (by first | (intro h0; simp only [h0, and_self]; done) | (intro h0; simp only [h0, Bool.not_false, Bool.not_true, Bool.true_and, Bool.and_true, true_and, and_true, and_self, imp_self, implies_true, bne_iff_ne, ne_eq, beq_iff_eq]; done) | (intros; simp_all; done) | exact True.intro) ?_)
                    have hz9 := Option.some.inj hz9; subst hz9
                    refine And.intro rfl (Fit2.of (fit_loc hU rfl rfl ?_) (by omega))
                    simp only [push_cast, seval, ↓reduceIte, cast_lit, c18, hN0, hN]
                  · replace hz9 := condF c18 hz9
                    rcases Bool.eq_false_or_eq_true (a0.Kind == 9) with c19 | c19
                    · replace hz9 := condT c19 hz9
                      try rw [c19] at c18
                      rcases Bool.eq_false_or_eq_true (x2.Kind != 1) with c20 | c20
                      · replace hz9 := condT c20 hz9
                        try rw [c20] at c18
                        try rw [c20] at c19
                        refine W_drawD tab_ok (by kernel_rfl) [none, none, none, none, none, none, none, none, some false, some false, some false, some false, some false, some false, some false, some false, some false, some false, some false, some false] (by kernel_rfl) ?_
                        simp only [push_cast, seval, ↓reduceIte, cast_lit, c18, c19, c20, hN0, hN]
                        repeat (with_reducible refine And.intro (by first | (intro h0; simp only [h0, and_self]; done) | (intro h0; simp only [h0, Bool.not_false, Bool.not_true, Bool.true_and, Bool.and_true, true_and, and_true, and_self, imp_self, implies_true, bne_iff_ne, ne_eq, beq_iff_eq]; done) | (intros; simp_all; done) | exact True.intro) ?_)
                        have hz9 := Option.some.inj hz9; subst hz9
                        refine And.intro rfl (Fit2.of (fit_loc hU rfl rfl ?_) (by omega))
                        simp only [push_cast, seval, ↓reduceIte, cast_lit, c18, c19, c20, hN0, hN]
                      · replace hz9 := condF c20 hz9
                        try rw [c20] at c18
                        try rw [c20] at c19
                        rcases Bool.eq_false_or_eq_true (decide (2 ≤ a0.Kind)) with c21 | c21
                        · replace hz9 := condT c21 hz9
                          try rw [c21] at c18
                          try rw [c21] at c19
                          try rw [c21] at c20
                          rcases Bool.eq_false_or_eq_true (decide (a0.Kind ≤ 7)) with c22 | c22
                          · replace hz9 := condT c22 hz9
                            try rw [c22] at c18
                            try rw [c22] at c19
                            try rw [c22] at c20
                            try rw [c22] at c21
                            obtain ⟨x14, hx14, ax14, bx14, cx14, hz9⟩ := bE (f := (eI .u64)) tab56 (fun _ => rfl) (by decide) hz9
                            obtain ⟨y15, hy15, hz9⟩ := bC hz9
                            refine W_drawD tab_ok (by kernel_rfl) [none, none, none, none, none, none, none, none, some true, some true, some true, some true, some true, some true, some true, some true, some true, some true, some true, some true] (by kernel_rfl) ?_
                            simp only [push_cast, Nat.reduceAdd, Nat.reduceSub, Nat.reduceMul, Nat.reduceLeDiff, Nat.reduceLT, Nat.reduceEqDiff, ↓reduceIte, reduceCtorEq, Int.reduceBEq, Int.reduceBNe, Nat.reduceBEq, Int.reduceLE, Int.reduceLT, Int.reduceEq, Int.reduceNe, Int.reduceNeg, Nat.reduceDiv, Nat.reduceMod, Nat.reducePow, cast_lit, c18, c19, c20, c21, c22, ax14, bx14, cx14, hN0, hN]
                            repeat (with_reducible refine And.intro (by first | (intro h0; simp only [h0, and_self]; done) | (intro h0; simp only [h0, Bool.not_false, Bool.not_true, Bool.true_and, Bool.and_true, true_and, and_true, and_self, imp_self, implies_true, bne_iff_ne, ne_eq, beq_iff_eq]; done) | (intros; simp_all; done) | exact True.intro) ?_)
                            refine PCall.of (ok_centoref01_Fits hy15) ?_
                            simp only [push_cast, Nat.reduceAdd, Nat.reduceSub, Nat.reduceMul, Nat.reduceLeDiff, Nat.reduceLT, Nat.reduceEqDiff, ↓reduceIte, reduceCtorEq, Int.reduceBEq, Int.reduceBNe, Nat.reduceBEq, Int.reduceLE, Int.reduceLT, Int.reduceEq, Int.reduceNe, Int.reduceNeg, Nat.reduceDiv, Nat.reduceMod, Nat.reducePow, cast_lit, c18, c19, c20, c21, c22, ax14, bx14, cx14, hN0, hN]
                            repeat (with_reducible refine And.intro (by first | (intro h0; simp only [h0, and_self]; done) | (intro h0; simp only [h0, Bool.not_false, Bool.not_true, Bool.true_and, Bool.and_true, true_and, and_true, and_self, imp_self, implies_true, bne_iff_ne, ne_eq, beq_iff_eq]; done) | (intros; simp_all; done) | exact True.intro) ?_)
                            have hz9 := Option.some.inj hz9; subst hz9
                            refine And.intro rfl (Fit2.of (fit_loc hU rfl rfl ?_) (by omega))
                            simp only [push_cast, Nat.reduceAdd, Nat.reduceSub, Nat.reduceMul, Nat.reduceLeDiff, Nat.reduceLT, Nat.reduceEqDiff, ↓reduceIte, reduceCtorEq, Int.reduceBEq, Int.reduceBNe, Nat.reduceBEq, Int.reduceLE, Int.reduceLT, Int.reduceEq, Int.reduceNe, Int.reduceNeg, Nat.reduceDiv, Nat.reduceMod, Nat.reducePow, cast_lit, c18, c19, c20, c21, c22, ax14, bx14, cx14, hN0, hN]
                          · replace hz9 := condF c22 hz9
                            try rw [c22] at c18
                            try rw [c22] at c19
                            try rw [c22] at c20
                            try rw [c22] at c21
                            refine W_drawD tab_ok (by kernel_rfl) [none, none, none, none, none, none, none, none, some true, some true, some false, some false, some false, some false, some false, some false, some false, some false, some false, some true] (by kernel_rfl) ?_
                            simp only [push_cast, seval, ↓reduceIte, cast_lit, c18, c19, c20, c21, c22, hN0, hN]
                            repeat (with_reducible refine And.intro (by first | (intro h0; simp only [h0, and_self]; done) | (intro h0; simp only [h0, Bool.not_false, Bool.not_true, Bool.true_and, Bool.and_true, true_and, and_true, and_self, imp_self, implies_true, bne_iff_ne, ne_eq, beq_iff_eq]; done) | (intros; simp_all; done) | exact True.intro) ?_)
                            have hz9 := Option.some.inj hz9; subst hz9
                            refine And.intro rfl (Fit2.of (fit_loc hU rfl rfl ?_) (by omega))
                            simp only [push_cast, seval, ↓reduceIte, cast_lit, c18, c19, c20, c21, c22, hN0, hN]
                        · replace hz9 := condF c21 hz9
                          try rw [c21] at c18
                          try rw [c21] at c19
                          try rw [c21] at c20
                          refine W_drawD tab_ok (by kernel_rfl) [none, none, none, none, none, none, none, none, some true, some true, some false, some false, some false, some false, some false, some false, some false, some false, some false, some true] (by kernel_rfl) ?_
                          simp only [push_cast, seval, ↓reduceIte, cast_lit, c18, c19, c20, c21, hN0, hN]
                          repeat (with_reducible refine And.intro (by first | (intro h0; simp only [h0, and_self]; done) | (intro h0; simp only [h0, Bool.not_false, Bool.not_true, Bool.true_and, Bool.and_true, true_and, and_true, and_self, imp_self, implies_true, bne_iff_ne, ne_eq, beq_iff_eq]; done) | (intros; simp_all; done) | exact True.intro) ?_)
                          have hz9 := Option.some.inj hz9; subst hz9
                          refine And.intro rfl (Fit2.of (fit_loc hU rfl rfl ?_) (by omega))
                          simp only [push_cast, seval, ↓reduceIte, cast_lit, c18, c19, c20, c21, hN0, hN]
                    · replace hz9 := condF c19 hz9
                      try rw [c19] at c18
                      rcases Bool.eq_false_or_eq_true (decide (2 ≤ a0.Kind)) with c23 | c23
                      · replace hz9 := condT c23 hz9
                        try rw [c23] at c18
                        try rw [c23] at c19
                        rcases Bool.eq_false_or_eq_true (decide (a0.Kind ≤ 7)) with c24 | c24
                        · replace hz9 := condT c24 hz9
                          try rw [c24] at c18
                          try rw [c24] at c19
                          try rw [c24] at c23
                          obtain ⟨x16, hx16, ax16, bx16, cx16, hz9⟩ := bE (f := (eI .u64)) tab56 (fun _ => rfl) (by decide) hz9
                          obtain ⟨y17, hy17, hz9⟩ := bC hz9
                          refine W_drawD tab_ok (by kernel_rfl) [none, none, none, none, none, none, none, none, some true, some true, some true, some true, some true, some true, some true, some true, some true, some true, some true, some true] (by kernel_rfl) ?_
                          simp only [push_cast, Nat.reduceAdd, Nat.reduceSub, Nat.reduceMul, Nat.reduceLeDiff, Nat.reduceLT, Nat.reduceEqDiff, ↓reduceIte, reduceCtorEq, Int.reduceBEq, Int.reduceBNe, Nat.reduceBEq, Int.reduceLE, Int.reduceLT, Int.reduceEq, Int.reduceNe, Int.reduceNeg, Nat.reduceDiv, Nat.reduceMod, Nat.reducePow, cast_lit, c18, c19, c23, c24, ax16, bx16, cx16, hN0, hN]
                          repeat (with_reducible refine And.intro (by first | (intro h0; simp only [h0, and_self]; done) | (intro h0; simp only [h0, Bool.not_false, Bool.not_true, Bool.true_and, Bool.and_true, true_and, and_true, and_self, imp_self, implies_true, bne_iff_ne, ne_eq, beq_iff_eq]; done) | (intros; simp_all; done) | exact True.intro) ?_)
                          refine PCall.of (ok_centoref01_Fits hy17) ?_
                          simp only [push_cast, Nat.reduceAdd, Nat.reduceSub, Nat.reduceMul, Nat.reduceLeDiff, Nat.reduceLT, Nat.reduceEqDiff, ↓reduceIte, reduceCtorEq, Int.reduceBEq, Int.reduceBNe, Nat.reduceBEq, Int.reduceLE, Int.reduceLT, Int.reduceEq, Int.reduceNe, Int.reduceNeg, Nat.reduceDiv, Nat.reduceMod, Nat.reducePow, cast_lit, c18, c19, c23, c24, ax16, bx16, cx16, hN0, hN]
                          repeat (with_reducible refine And.intro (by first | (intro h0; simp only [h0, and_self]; done) | (intro h0; simp only [h0, Bool.not_false, Bool.not_true, Bool.true_and, Bool.and_true, true_and, and_true, and_self, imp_self, implies_true, bne_iff_ne, ne_eq, beq_iff_eq]; done) | (intros; simp_all; done) | exact True.intro) ?_)
                          have hz9 := Option.some.inj hz9; subst hz9
                          refine And.intro rfl (Fit2.of (fit_loc hU rfl rfl ?_) (by omega))
                          simp only [push_cast, Nat.reduceAdd, Nat.reduceSub, Nat.reduceMul, Nat.reduceLeDiff, Nat.reduceLT, Nat.reduceEqDiff, ↓reduceIte, reduceCtorEq, Int.reduceBEq, Int.reduceBNe, Nat.reduceBEq, Int.reduceLE, Int.reduceLT, Int.reduceEq, Int.reduceNe, Int.reduceNeg, Nat.reduceDiv, Nat.reduceMod, Nat.reducePow, cast_lit, c18, c19, c23, c24, ax16, bx16, cx16, hN0, hN]
                        · replace hz9 := condF c24 hz9
                          try rw [c24] at c18
                          try rw [c24] at c19
                          try rw [c24] at c23
                          refine W_drawD tab_ok (by kernel_rfl) [none, none, none, none, none, none, none, none, some true, some true, some false, some false, some false, some false, some false, some false, some false, some false, some false, some true] (by kernel_rfl) ?_
                          simp only [push_cast, seval, ↓reduceIte, cast_lit, c18, c19, c23, c24, hN0, hN]
                          repeat (with_reducible refine And.intro (by first | (intro h0; simp only [h0, and_self]; done) | (intro h0; simp only [h0, Bool.not_false, Bool.not_true, Bool.true_and, Bool.and_true, true_and, and_true, and_self, imp_self, implies_true, bne_iff_ne, ne_eq, beq_iff_eq]; done) | (intros; simp_all; done) | exact True.intro) ?_)
                          have hz9 := Option.some.inj hz9; subst hz9
                          refine And.intro rfl (Fit2.of (fit_loc hU rfl rfl ?_) (by omega))
                          simp only [push_cast, seval, ↓reduceIte, cast_lit, c18, c19, c23, c24, hN0, hN]
                      · replace hz9 := condF c23 hz9
                        try rw [c23] at c18
                        try rw [c23] at c19
                        refine W_drawD tab_ok (by kernel_rfl) [none, none, none, none, none, none, none, none, some true, some true, some false, some false, some false, some false, some false, some false, some false, some false, some false, some true] (by kernel_rfl) ?_
                        simp only [push_cast, seval, ↓reduceIte, cast_lit, c18, c19, c23, hN0, hN]
                        repeat (with_reducible refine And.intro (by first | (intro h0; simp only [h0, and_self]; done) | (intro h0; simp only [h0, Bool.not_false, Bool.not_true, Bool.true_and, Bool.and_true, true_and, and_true, and_self, imp_self, implies_true, bne_iff_ne, ne_eq, beq_iff_eq]; done) | (intros; simp_all; done) | exact True.intro) ?_)
                        have hz9 := Option.some.inj hz9; subst hz9
                        refine And.intro rfl (Fit2.of (fit_loc hU rfl rfl ?_) (by omega))
                        simp only [push_cast, seval, ↓reduceIte, cast_lit, c18, c19, c23, hN0, hN]
                refine W_cond (t := z9) rfl (fun c25 => ?_) (fun c25 => ?_)
                · replace hs0_ := condT c25 hs0_
                  refine W_sq [4] (W_regionD tab_ok [] ?_)
                  simp only [push_cast, seval, ↓reduceIte, cast_lit, hN0, hN]
                  refine W_ret ?_
                  try simp only [gthen, gblock]
                  have hs0_ := Option.some.inj hs0_; subst hs0_
                  refine And.intro (fun h => by cases h) (And.intro rfl (Fit2.of (fit_loc hU rfl rfl ?_) (by omega)))
                  simp only [push_cast, seval, ↓reduceIte, cast_lit, hN0, hN]
                · replace hs0_ := condF c25 hs0_
                  refine W_skip ?_
                  try simp only [gthen, gblock]
                  refine W_drop [1, 2, 5] [true, false] ?_
                  simp only [push_cast, seval, ↓reduceIte]
                  refine W_regionD tab_ok [] ?_
                  simp only [push_cast, seval, ↓reduceIte, cast_lit, hN0, hN]
                  have hs0_ := Option.some.inj hs0_; subst hs0_
                  refine And.intro rfl (Fit2.of (fit_loc hU rfl rfl ?_) (by omega))
                  simp only [push_cast, seval, ↓reduceIte, cast_lit, hN0, hN]
            · replace hs0_ := condF c27 hs0_
              refine W_exit ?_
              try simp only [gthen, gblock, ↓reduceIte, Nat.reduceEqDiff]
              have hs0_ := Option.some.inj hs0_; subst hs0_
              refine And.intro (fun h => by cases h) (And.intro rfl (Fit2.of (fit_loc hU rfl rfl ?_) (by omega)))
              simp only [push_cast, seval, ↓reduceIte, cast_lit, hN0, hN]
          rcases z28 with z28 | z28
          · dsimp only [SumJ] at hw h
            refine W_blockR hw ?_
            try simp only [gthen, gblock, ↓reduceIte, Nat.reduceEqDiff]
            have h := Option.some.inj h; subst h
            refine fin_loc (.inr rfl) hU [.val (.bool false)] (by omega) ?_
            simp only [push_cast, seval, ↓reduceIte, cast_lit, Try.results22, hN0, hN]
          · dsimp only [SumJ] at hw h
            refine W_blockX hw ?_
            try simp only [gthen, gblock, ↓reduceIte, Nat.reduceEqDiff]
            refine W_drop [] [false] ?_
            simp only [push_cast, seval, ↓reduceIte]
            refine W_sq [4] (W_regionD tab_ok [] ?_)
            simp only [push_cast, seval, ↓reduceIte, cast_lit, hN0, hN]
            refine W_ret ?_
            try simp only [gthen, gblock]
            have h := Option.some.inj h; subst h
            refine fin_loc (.inr rfl) hU [.val (.bool true)] (by omega) ?_
            simp only [push_cast, seval, ↓reduceIte, cast_lit, Try.results22, hN0, hN]
theorem lv_centoref07_Right_ok : ∀ k, (∀ {a0 : S_api_Tree} {a1 : Int} {r : Bool} {O : Objs} {n : Nat}, (lv_centoref07_Right k) a0 a1 = some r → GTo Try.prog 22 [.agg (c_S_api_Tree a0), .val (.int .i64 a1)] O n (.val (.bool r)) O n) := fun k => by
  induction k with
  | zero => exact @fun a0 a1 r O n h => (nomatch (show (none : Option _) = some _ from h))
  | succ k ih => exact @fun a0 a1 r O n h => okb_centoref07_Right (ih)  h
theorem ok_centoref07_Right {a0 : S_api_Tree} {a1 : Int} {r : Bool} {O : Objs} {n : Nat} (h : m_centoref07_Right a0 a1 = some r) : GTo Try.prog 22 [.agg (c_S_api_Tree a0), .val (.int .i64 a1)] O n (.val (.bool r)) O n := by
  obtain ⟨k, hk⟩ := lim_some h
  exact (lv_centoref07_Right_ok k)  hk
theorem ok_centoref01_Bytes {a0 : Int} {r : (Arr Int 8)} {O : Objs} {n : Nat} (h : m_centoref01_Bytes a0 = some r) : GTo Try.prog 74 [.val (.int .u64 a0)] O n (.agg (fl (eI .u8) r.1)) O n := by
  unfold m_centoref01_Bytes at h
  refine fn_of tab_ok Try.call74 Try.func74 rfl (Nat.le_of_ble_eq_true rfl) (Nat.le_refl _) fun hU => ?_
  have hN0 : O n = none := hU.fresh _ (Nat.le_refl _)
  have hN : ∀ k, O (n + k) = none := fun k => hU.fresh _ (Nat.le_add_right _ _)
  show W _ _ _ _ ⟨18, [], [(0, .val (.int .u64 a0))]⟩ (Loc O n []) _
  obtain ⟨y3, hy3, ey3, h⟩ := bY (f := (eI .u8)) (cs := [.val (.int .u8 0), .val (.int .u8 0), .val (.int .u8 0), .val (.int .u8 0), .val (.int .u8 0), .val (.int .u8 0), .val (.int .u8 0), .val (.int .u8 0)]) rfl h
  have g4 := congrArg (GObj.mk false 95 8 1) ey3
  refine W_sq [0, 2] (W_regionD tab_ok [] ?_)
  simp only [push_cast, seval, ↓reduceIte, cast_lit, g4, hN0, hN]
  refine W_seqK ?_
  obtain ⟨y9, hy9, ey9, h⟩ := bY (f := (eI .u8)) (cs := [.val (.int .u8 0), .val (.int .u8 0), .val (.int .u8 0), .val (.int .u8 0), .val (.int .u8 0), .val (.int .u8 0), .val (.int .u8 0), .val (.int .u8 0)]) rfl h
  have g10 := congrArg G.agg ey9
  have g11 := congrArg (GObj.mk false 95 8 1) ey9
  have g12 := gplace_arr (f := (eI .u8)) y9 y9 (fun _ => rfl)
  refine W_regionD tab_ok [] ?_
  simp only [push_cast, seval, ↓reduceIte, cast_lit, g10, g11, g12, hN0, hN]
  refine W_drop [0, 2, 3] [true, true] ?_
  simp only [push_cast, seval, ↓reduceIte]
  refine W_seqK ?_
  refine W_sq [0, 2, 3, 4] (W_regionD tab_ok [] ?_)
  simp only [push_cast, seval, ↓reduceIte, cast_lit, hN0, hN]
  refine W_drop [0, 2, 3, 4] [true, true] ?_
  simp only [push_cast, seval, ↓reduceIte]
  obtain ⟨z18, hz18, h⟩ := bC h
  refine W_blockX (E' := ⟨18, [], [(2, .ref n 0), (3, .ref (n + 1) 0)]⟩) (O' := (Loc O n [some ⟨false, 95, 8, 1, fl (eI .u8) y3.1⟩, some ⟨false, 95, 8, 1, fl (eI .u8) z18.1⟩])) (n0 := (n + 2)) ?_ ?_
  · refine W_loopJ hz18 (fun s0_ => ⟨18, [], [(0, .val (.int .u64 s0_.1)), (2, .ref n 0), (3, .ref (n + 1) 0), (4, .val (.int .i64 s0_.2.1))]⟩) (fun s0_ => (Loc O n [some ⟨false, 95, 8, 1, fl (eI .u8) y3.1⟩, some ⟨false, 95, 8, 1, fl (eI .u8) s0_.2.2.1⟩])) (fun z18 => JX 0 n (⟨18, [], [(2, .ref n 0), (3, .ref (n + 1) 0)]⟩ : Env) (Loc O n [some ⟨false, 95, 8, 1, fl (eI .u8) y3.1⟩, some ⟨false, 95, 8, 1, fl (eI .u8) z18.1⟩]) (n + 2)) ?_
    intro s0_ x0_ hs0_
    unfold m_centoref01_Bytes_L0 at hs0_
    try dsimp only
    refine W_seqK ?_
    refine W_sq [0, 2, 3, 4, 7] (W_regionD tab_ok [] ?_)
    simp only [push_cast, seval, ↓reduceIte, cast_lit, hN0, hN]
    refine W_cond (t := (decide (s0_.2.1 < 8))) rfl (fun c17 => ?_) (fun c17 => ?_)
    · replace hs0_ := condT c17 hs0_
      refine W_skip ?_
      try simp only [gthen, gblock]
      refine W_drop [0, 2, 3, 4] [true, true] ?_
      simp only [push_cast, seval, ↓reduceIte]
      refine W_seqK ?_
      refine W_block ?_
      refine W_seqK ?_
      obtain ⟨x15, hx15, ax15, bx15, cx15, hs0_⟩ := bEA (f := (eI .u8)) (b := 8) rfl tab5 (fun _ => rfl) (by decide) hs0_
      have gu16 : gplace (fl (eI .u8) s0_.2.2.1) [.val (.int .u8 (IntKind.u8.wrap (Int.tmod s0_.1 256)))] (Int.toNat s0_.2.1 * 1) = some (fl (eI .u8) (setI s0_.2.2.1 s0_.2.1 (IntKind.u8.wrap (Int.tmod s0_.1 256)))) := gplace_el (f := (eI .u8)) (ti := ⟨.bool, 1, 0, [], false⟩) (x := (IntKind.u8.wrap (Int.tmod s0_.1 256))) (fun _ => rfl) (getI_nat hx15)
      refine W_regionD tab_ok [] ?_
      simp only [push_cast, Nat.reduceAdd, Nat.reduceSub, Nat.reduceMul, Nat.reduceLeDiff, Nat.reduceLT, Nat.reduceEqDiff, ↓reduceIte, reduceCtorEq, Int.reduceBEq, Int.reduceBNe, Nat.reduceBEq, Int.reduceLE, Int.reduceLT, Int.reduceEq, Int.reduceNe, Int.reduceNeg, Nat.reduceDiv, Nat.reduceMod, Nat.reducePow, cast_lit, ax15, bx15, cx15, gu16, hN0, hN]
      refine W_drop [0, 2, 3, 4] [true, true] ?_
      simp only [push_cast, seval, ↓reduceIte]
      refine W_regionD tab_ok [] ?_
      simp only [push_cast, seval, ↓reduceIte, cast_lit, hN0, hN]
      refine W_drop [0, 2, 3, 4] [true, true] ?_
      simp only [push_cast, seval, ↓reduceIte]
      refine W_regionD tab_ok [] ?_
      simp only [push_cast, seval, ↓reduceIte, cast_lit, hN0, hN]
      have hs0_ := Option.some.inj hs0_; subst hs0_
      refine And.intro rfl (Fit2.of (fit_loc hU rfl rfl ?_) (by omega))
      simp only [push_cast, seval, ↓reduceIte, cast_lit, hN0, hN]
    · replace hs0_ := condF c17 hs0_
      refine W_exit ?_
      try simp only [gthen, gblock, ↓reduceIte, Nat.reduceEqDiff]
      have hs0_ := Option.some.inj hs0_; subst hs0_
      refine And.intro (fun h => by cases h) (And.intro rfl (Fit2.of (fit_loc hU rfl rfl ?_) (by omega)))
      simp only [push_cast, seval, ↓reduceIte, cast_lit, hN0, hN]
  try simp only [gthen, gblock, ↓reduceIte, Nat.reduceEqDiff]
  refine W_drop [2, 3] [true, true] ?_
  simp only [push_cast, seval, ↓reduceIte]
  refine W_seqK ?_
  have g21 := gpart_arr (f := (eI .u8)) z18 tab95 rfl (fun _ => rfl) rfl
  have g22 := gplace_arr (f := (eI .u8)) y3 z18 (fun _ => rfl)
  refine W_regionD tab_ok [] ?_
  simp only [push_cast, seval, ↓reduceIte, cast_lit, g21, g22, hN0, hN]
  refine W_drop [2] [true, false] ?_
  simp only [push_cast, seval, ↓reduceIte]
  refine W_ret ?_
  try simp only [gthen, gblock]
  have h := Option.some.inj h; subst h
  have gR0 := gpart_arr (f := (eI .u8)) z18 tab95 rfl (fun _ => rfl) rfl
  refine fin_loc (.inr rfl) hU [.agg (fl (eI .u8) z18.1)] (by omega) ?_
  simp only [push_cast, seval, ↓reduceIte, cast_lit, Try.results74, hN0, hN, gR0]
theorem ok_centoref01_Named {a0 : Int} {a1 : Int} {r : Bool} {O : Objs} {n : Nat} (h : m_centoref01_Named a0 a1 = some r) : GTo Try.prog 75 [.val (.int .u8 a0), .val (.int .i64 a1)] O n (.val (.bool r)) O n := by
  unfold m_centoref01_Named at h
  refine fn_of tab_ok Try.call75 Try.func75 rfl (Nat.le_of_ble_eq_true rfl) (Nat.le_refl _) fun hU => ?_
  have hN0 : O n = none := hU.fresh _ (Nat.le_refl _)
  have hN : ∀ k, O (n + k) = none := fun k => hU.fresh _ (Nat.le_add_right _ _)
  show W _ _ _ _ ⟨16, [], [(0, .val (.int .u8 a0)), (1, .val (.int .i64 a1))]⟩ (Loc O n []) _
  refine W_sq [0, 1] (W_regionD tab_ok [] ?_)
  simp only [push_cast, seval, ↓reduceIte, cast_lit, hN0, hN]
  refine W_seqK ?_
  refine W_sq [0, 1, 5] (W_regionD tab_ok [] ?_)
  simp only [push_cast, seval, ↓reduceIte, cast_lit, hN0, hN]
  refine W_drop [0, 1, 5] [] ?_
  simp only [push_cast, seval, ↓reduceIte]
  obtain ⟨z2, hz2, h⟩ := bC h
  refine W_blockX (E' := ⟨16, [], [(0, .val (.int .u8 z2))]⟩) (O' := (Loc O n [])) (n0 := n) ?_ ?_
  · refine W_loopJ hz2 (fun s0_ => ⟨16, [], [(0, .val (.int .u8 s0_.1)), (1, .val (.int .i64 a1)), (5, .val (.int .i64 s0_.2))]⟩) (fun s0_ => (Loc O n [])) (fun z2 => JX 0 n (⟨16, [], [(0, .val (.int .u8 z2))]⟩ : Env) (Loc O n []) n) ?_
    intro s0_ x0_ hs0_
    unfold m_centoref01_Named_L0 at hs0_
    try dsimp only
    refine W_seqK ?_
    refine W_sq [0, 1, 5, 8] (W_regionD tab_ok [] ?_)
    simp only [push_cast, seval, ↓reduceIte, cast_lit, hN0, hN]
    refine W_cond (t := (decide (s0_.2 < a1))) rfl (fun c1 => ?_) (fun c1 => ?_)
    · replace hs0_ := condT c1 hs0_
      refine W_skip ?_
      try simp only [gthen, gblock]
      refine W_drop [0, 1, 5] [] ?_
      simp only [push_cast, seval, ↓reduceIte]
      refine W_seqK ?_
      refine W_block ?_
      refine W_regionD tab_ok [] ?_
      simp only [push_cast, seval, ↓reduceIte, cast_lit, hN0, hN]
      refine W_drop [0, 1, 5] [] ?_
      simp only [push_cast, seval, ↓reduceIte]
      refine W_regionD tab_ok [] ?_
      simp only [push_cast, seval, ↓reduceIte, cast_lit, hN0, hN]
      have hs0_ := Option.some.inj hs0_; subst hs0_
      refine And.intro rfl (Fit2.of (fit_loc hU rfl rfl ?_) (by omega))
      simp only [push_cast, seval, ↓reduceIte, cast_lit, hN0, hN]
    · replace hs0_ := condF c1 hs0_
      refine W_exit ?_
      try simp only [gthen, gblock, ↓reduceIte, Nat.reduceEqDiff]
      have hs0_ := Option.some.inj hs0_; subst hs0_
      refine And.intro (fun h => by cases h) (And.intro rfl (Fit2.of (fit_loc hU rfl rfl ?_) (by omega)))
      simp only [push_cast, seval, ↓reduceIte, cast_lit, hN0, hN]
  try simp only [gthen, gblock, ↓reduceIte, Nat.reduceEqDiff]
  refine W_drop [0] [] ?_
  simp only [push_cast, seval, ↓reduceIte]
  refine W_sq [4] (W_regionD tab_ok [] ?_)
  simp only [push_cast, seval, ↓reduceIte, cast_lit, hN0, hN]
  refine W_ret ?_
  try simp only [gthen, gblock]
  have h := Option.some.inj h; subst h
  refine fin_loc (.inr rfl) hU [.val (.bool ((Int.tmod z2 2) == 1))] (by omega) ?_
  simp only [push_cast, seval, ↓reduceIte, cast_lit, Try.results75, hN0, hN]
theorem ok_centoref01_Of {a0 : (List Int)} {a1 : Int} {r : Int} {O : Objs} {n : Nat} (h : m_centoref01_Of a0 a1 = some r) : GTo Try.prog 76 [.sl a0.length (fl (eI .u8) a0), .val (.int .i64 a1)] O n (.val (.int .u64 r)) O n := by
  unfold m_centoref01_Of at h
  refine fn_of tab_ok Try.call76 Try.func76 rfl (Nat.le_of_ble_eq_true rfl) (Nat.le_refl _) fun hU => ?_
  have hN0 : O n = none := hU.fresh _ (Nat.le_refl _)
  have hN : ∀ k, O (n + k) = none := fun k => hU.fresh _ (Nat.le_add_right _ _)
  show W _ _ _ _ ⟨22, [], [(0, .sl a0.length (fl (eI .u8) a0)), (1, .val (.int .i64 a1))]⟩ (Loc O n []) _
  refine W_sq [0, 1] (W_regionD tab_ok [] ?_)
  simp only [push_cast, seval, ↓reduceIte, cast_lit, hN0, hN]
  refine W_sq [0, 1, 5] (W_regionD tab_ok [] ?_)
  simp only [push_cast, seval, ↓reduceIte, cast_lit, hN0, hN]
  refine W_seqK ?_
  refine W_sq [0, 1, 5, 6] (W_regionD tab_ok [] ?_)
  simp only [push_cast, seval, ↓reduceIte, cast_lit, hN0, hN]
  refine W_drop [0, 1, 5, 6] [] ?_
  simp only [push_cast, seval, ↓reduceIte]
  obtain ⟨z3, hz3, h⟩ := bC h
  refine W_blockX (E' := ⟨22, [], [(5, .val (.int .u64 z3))]⟩) (O' := (Loc O n [])) (n0 := n) ?_ ?_
  · refine W_loopJ hz3 (fun s0_ => ⟨22, [], [(0, .sl a0.length (fl (eI .u8) a0)), (1, .val (.int .i64 a1)), (5, .val (.int .u64 s0_.1)), (6, .val (.int .i64 s0_.2))]⟩) (fun s0_ => (Loc O n [])) (fun z3 => JX 0 n (⟨22, [], [(5, .val (.int .u64 z3))]⟩ : Env) (Loc O n []) n) ?_
    intro s0_ x0_ hs0_
    unfold m_centoref01_Of_L0 at hs0_
    try dsimp only
    refine W_seqK ?_
    refine W_sq [0, 1, 5, 6, 8] (W_regionD tab_ok [] ?_)
    simp only [push_cast, seval, ↓reduceIte, cast_lit, hN0, hN]
    refine W_cond (t := (decide (0 ≤ s0_.2))) rfl (fun c2 => ?_) (fun c2 => ?_)
    · replace hs0_ := condT c2 hs0_
      refine W_skip ?_
      try simp only [gthen, gblock]
      refine W_drop [0, 1, 5, 6] [] ?_
      simp only [push_cast, seval, ↓reduceIte]
      refine W_seqK ?_
      refine W_block ?_
      obtain ⟨x1, hx1, ax1, bx1, cx1, hs0_⟩ := bE (f := (eI .u8)) tab5 (fun _ => rfl) (by decide) hs0_
      refine W_regionD tab_ok [] ?_
      simp only [push_cast, Nat.reduceAdd, Nat.reduceSub, Nat.reduceMul, Nat.reduceLeDiff, Nat.reduceLT, Nat.reduceEqDiff, ↓reduceIte, reduceCtorEq, Int.reduceBEq, Int.reduceBNe, Nat.reduceBEq, Int.reduceLE, Int.reduceLT, Int.reduceEq, Int.reduceNe, Int.reduceNeg, Nat.reduceDiv, Nat.reduceMod, Nat.reducePow, cast_lit, ax1, bx1, cx1, hN0, hN]
      refine W_drop [0, 1, 5, 6] [] ?_
      simp only [push_cast, seval, ↓reduceIte]
      refine W_regionD tab_ok [] ?_
      simp only [push_cast, seval, ↓reduceIte, cast_lit, hN0, hN]
      have hs0_ := Option.some.inj hs0_; subst hs0_
      refine And.intro rfl (Fit2.of (fit_loc hU rfl rfl ?_) (by omega))
      simp only [push_cast, seval, ↓reduceIte, cast_lit, hN0, hN]
    · replace hs0_ := condF c2 hs0_
      refine W_exit ?_
      try simp only [gthen, gblock, ↓reduceIte, Nat.reduceEqDiff]
      have hs0_ := Option.some.inj hs0_; subst hs0_
      refine And.intro (fun h => by cases h) (And.intro rfl (Fit2.of (fit_loc hU rfl rfl ?_) (by omega)))
      simp only [push_cast, seval, ↓reduceIte, cast_lit, hN0, hN]
  try simp only [gthen, gblock, ↓reduceIte, Nat.reduceEqDiff]
  refine W_drop [5] [] ?_
  simp only [push_cast, seval, ↓reduceIte]
  refine W_sq [4] (W_regionD tab_ok [] ?_)
  simp only [push_cast, seval, ↓reduceIte, cast_lit, hN0, hN]
  refine W_ret ?_
  try simp only [gthen, gblock]
  have h := Option.some.inj h; subst h
  refine fin_loc (.inr rfl) hU [.val (.int .u64 z3)] (by omega) ?_
  simp only [push_cast, seval, ↓reduceIte, cast_lit, Try.results76, hN0, hN]
theorem ok_centoref01_Mix {a0 : Int} {a1 : Int} {a2 : Int} {r : Int} {O : Objs} {n : Nat} (h : m_centoref01_Mix a0 a1 a2 = some r) : GTo Try.prog 107 [.val (.int .u64 a0), .val (.int .u64 a1), .val (.int .u8 a2)] O n (.val (.int .u64 r)) O n := by
  unfold m_centoref01_Mix at h
  refine fn_of tab_ok Try.call107 Try.func107 rfl (Nat.le_of_ble_eq_true rfl) (Nat.le_refl _) fun hU => ?_
  have hN0 : O n = none := hU.fresh _ (Nat.le_refl _)
  have hN : ∀ k, O (n + k) = none := fun k => hU.fresh _ (Nat.le_add_right _ _)
  show W _ _ _ _ ⟨28, [], [(0, .val (.int .u64 a0)), (1, .val (.int .u64 a1)), (2, .val (.int .u8 a2))]⟩ (Loc O n []) _
  refine W_sq [0, 1, 2] (W_regionD tab_ok [] ?_)
  simp only [push_cast, seval, ↓reduceIte, cast_lit, hN0, hN]
  refine W_seqK ?_
  obtain ⟨y8, hy8, h⟩ := bC h
  obtain ⟨y9, hy9, h⟩ := bC h
  obtain ⟨y10, hy10, ey10, h⟩ := bY (f := (eI .u8)) (cs := [.val (.int .u8 0), .val (.int .u8 0), .val (.int .u8 0), .val (.int .u8 0), .val (.int .u8 0), .val (.int .u8 0), .val (.int .u8 0), .val (.int .u8 0)]) rfl h
  have g11 := congrArg (GObj.mk false 95 8 1) ey10
  have g12 := congrArg (GObj.mk false 95 8 1) ey10
  have g13 := gplace_arr (f := (eI .u8)) y10 y8 (fun _ => rfl)
  have g14 := gplace_arr (f := (eI .u8)) y10 y9 (fun _ => rfl)
  refine W_regionD tab_ok [] ?_
  simp only [push_cast, seval, ↓reduceIte, cast_lit, g11, g12, g13, g14, hN0, hN]
  refine (ok_centoref01_Bytes hy8).then ?_
  simp only [push_cast, seval, ↓reduceIte, cast_lit, g11, g12, g13, g14, hN0, hN]
  refine (ok_centoref01_Bytes hy9).then ?_
  simp only [push_cast, seval, ↓reduceIte, cast_lit, g11, g12, g13, g14, hN0, hN]
  refine W_drop [2, 7, 8] [true, true] ?_
  simp only [push_cast, seval, ↓reduceIte]
  refine W_seqK ?_
  refine W_sq [2, 7, 8, 9] (W_regionD tab_ok [] ?_)
  simp only [push_cast, seval, ↓reduceIte, cast_lit, hN0, hN]
  refine W_drop [2, 7, 8, 9] [true, true] ?_
  simp only [push_cast, seval, ↓reduceIte]
  obtain ⟨z23, hz23, h⟩ := bC h
  refine W_blockX (E' := ⟨28, [], [(7, .ref n 0)]⟩) (O' := (Loc O n [some ⟨false, 95, 8, 1, fl (eI .u8) z23.1⟩, none])) (n0 := (n + 2)) ?_ ?_
  · refine W_loopJ hz23 (fun s0_ => ⟨28, [], [(2, .val (.int .u8 a2)), (7, .ref n 0), (8, .ref (n + 1) 0), (9, .val (.int .i64 s0_.1))]⟩) (fun s0_ => (Loc O n [some ⟨false, 95, 8, 1, fl (eI .u8) s0_.2.1⟩, some ⟨false, 95, 8, 1, fl (eI .u8) y9.1⟩])) (fun z23 => JX 0 n (⟨28, [], [(7, .ref n 0)]⟩ : Env) (Loc O n [some ⟨false, 95, 8, 1, fl (eI .u8) z23.1⟩, none]) (n + 2)) ?_
    intro s0_ x0_ hs0_
    unfold m_centoref01_Mix_L0 at hs0_
    try dsimp only
    refine W_seqK ?_
    refine W_sq [2, 7, 8, 9, 15] (W_regionD tab_ok [] ?_)
    simp only [push_cast, seval, ↓reduceIte, cast_lit, hN0, hN]
    refine W_cond (t := (decide (s0_.1 < 8))) rfl (fun c22 => ?_) (fun c22 => ?_)
    · replace hs0_ := condT c22 hs0_
      refine W_skip ?_
      try simp only [gthen, gblock]
      refine W_drop [2, 7, 8, 9] [true, true] ?_
      simp only [push_cast, seval, ↓reduceIte]
      obtain ⟨z15, hz15, hs0_⟩ := bC hs0_
      refine W_seqN (E' := ⟨28, [], [(2, .val (.int .u8 a2)), (7, .ref n 0), (8, .ref (n + 1) 0), (9, .val (.int .i64 s0_.1))]⟩) (O' := (Loc O n [some ⟨false, 95, 8, 1, fl (eI .u8) z15.1⟩, some ⟨false, 95, 8, 1, fl (eI .u8) y9.1⟩])) (n0 := (n + 2)) ?_ ?_
      · refine W_block ?_
        refine W_seqK ?_
        obtain ⟨y17, hy17, hz15⟩ := bC hz15
        refine W_regionD tab_ok [] ?_
        simp only [push_cast, seval, ↓reduceIte, cast_lit, hN0, hN]
        refine (ok_centoref01_Named hy17).then ?_
        simp only [push_cast, seval, ↓reduceIte, cast_lit, hN0, hN]
        refine W_drop [2, 7, 8, 9, 20] [true, true] ?_
        simp only [push_cast, seval, ↓reduceIte]
        refine W_cond (t := y17) rfl (fun c21 => ?_) (fun c21 => ?_)
        · replace hz15 := condT c21 hz15
          obtain ⟨x18, hx18, ax18, bx18, cx18, hz15⟩ := bEA (f := (eI .u8)) (b := 8) rfl tab5 (fun _ => rfl) (by decide) hz15
          obtain ⟨x19, hx19, ax19, bx19, cx19, hz15⟩ := bEA (f := (eI .u8)) (b := 8) rfl tab5 (fun _ => rfl) (by decide) hz15
          have gu20 : gplace (fl (eI .u8) s0_.2.1) [.val (.int .u8 x18)] (Int.toNat s0_.1 * 1) = some (fl (eI .u8) (setI s0_.2.1 s0_.1 x18)) := gplace_el (f := (eI .u8)) (ti := ⟨.bool, 1, 0, [], false⟩) (x := x18) (fun _ => rfl) (getI_nat hx19)
          refine W_regionD tab_ok [] ?_
          simp only [push_cast, Nat.reduceAdd, Nat.reduceSub, Nat.reduceMul, Nat.reduceLeDiff, Nat.reduceLT, Nat.reduceEqDiff, ↓reduceIte, reduceCtorEq, Int.reduceBEq, Int.reduceBNe, Nat.reduceBEq, Int.reduceLE, Int.reduceLT, Int.reduceEq, Int.reduceNe, Int.reduceNeg, Nat.reduceDiv, Nat.reduceMod, Nat.reducePow, cast_lit, ax18, bx18, cx18, ax19, bx19, cx19, gu20, hN0, hN]
          have hz15 := Option.some.inj hz15; subst hz15
          refine And.intro rfl (Fit2.of (fit_loc hU rfl rfl ?_) (by omega))
          simp only [push_cast, Nat.reduceAdd, Nat.reduceSub, Nat.reduceMul, Nat.reduceLeDiff, Nat.reduceLT, Nat.reduceEqDiff, ↓reduceIte, reduceCtorEq, Int.reduceBEq, Int.reduceBNe, Nat.reduceBEq, Int.reduceLE, Int.reduceLT, Int.reduceEq, Int.reduceNe, Int.reduceNeg, Nat.reduceDiv, Nat.reduceMod, Nat.reducePow, cast_lit, ax18, bx18, cx18, ax19, bx19, cx19, gu20, hN0, hN]
        · replace hz15 := condF c21 hz15
          refine W_skip ?_
          try simp only [gthen, gblock]
          have hz15 := Option.some.inj hz15; subst hz15
          refine And.intro rfl (Fit2.of (fit_loc hU rfl rfl ?_) (by omega))
          simp only [push_cast, seval, ↓reduceIte, cast_lit, hN0, hN]
      refine W_regionD tab_ok [] ?_
      simp only [push_cast, seval, ↓reduceIte, cast_lit, hN0, hN]
      have hs0_ := Option.some.inj hs0_; subst hs0_
      refine And.intro rfl (Fit2.of (fit_loc hU rfl rfl ?_) (by omega))
      simp only [push_cast, seval, ↓reduceIte, cast_lit, hN0, hN]
    · replace hs0_ := condF c22 hs0_
      refine W_exit ?_
      try simp only [gthen, gblock, ↓reduceIte, Nat.reduceEqDiff]
      have hs0_ := Option.some.inj hs0_; subst hs0_
      refine And.intro (fun h => by cases h) (And.intro rfl (Fit2.of (fit_loc hU rfl rfl ?_) (by omega)))
      simp only [push_cast, seval, ↓reduceIte, cast_lit, hN0, hN]
  try simp only [gthen, gblock, ↓reduceIte, Nat.reduceEqDiff]
  refine W_drop [7] [true, false] ?_
  simp only [push_cast, seval, ↓reduceIte]
  refine W_seqK ?_
  have g27 := gslice_arr (j := n) tkind95 tab5 (by decide)
  have g28 := z23.2
  obtain ⟨y29, hy29, h⟩ := bC h
  refine W_regionD tab_ok [] ?_
  simp only [push_cast, seval, ↓reduceIte, cast_lit, g27, g28, hN0, hN]
  refine GCalls.lend (ok_centoref01_Of hy29) rfl ?_ ?_
  · simp only [push_cast, seval, ↓reduceIte, cast_lit, g27, g28, hN0, hN]
  simp only [push_cast, seval, ↓reduceIte, cast_lit, g27, g28, hN0, hN]
  refine W_drop [6] [false, false] ?_
  simp only [push_cast, seval, ↓reduceIte]
  refine W_ret ?_
  try simp only [gthen, gblock]
  have h := Option.some.inj h; subst h
  refine fin_loc (.inr rfl) hU [.val (.int .u64 y29)] (by omega) ?_
  simp only [push_cast, seval, ↓reduceIte, cast_lit, Try.results107, hN0, hN]
theorem ok_centoref20_within {a0 : Int} {a1 : Int} {r : Bool} {O : Objs} {n : Nat} (h : m_centoref20_within a0 a1 = some r) : GTo Try.prog 68 [.val (.int .u64 a0), .val (.int .u8 a1)] O n (.val (.bool r)) O n := by
  unfold m_centoref20_within at h
  refine fn_of tab_ok Try.call68 Try.func68 rfl (Nat.le_of_ble_eq_true rfl) (Nat.le_refl _) fun hU => ?_
  have hN0 : O n = none := hU.fresh _ (Nat.le_refl _)
  have hN : ∀ k, O (n + k) = none := fun k => hU.fresh _ (Nat.le_add_right _ _)
  show W _ _ _ _ ⟨9, [], [(0, .val (.int .u64 a0)), (1, .val (.int .u8 a1))]⟩ (Loc O n []) _
  refine W_sq [0, 1] (W_regionD tab_ok [] ?_)
  simp only [push_cast, seval, ↓reduceIte, cast_lit, hN0, hN]
  refine W_seqK ?_
  obtain ⟨y2, hy2, h⟩ := bC h
  refine W_regionD tab_ok [] ?_
  simp only [push_cast, seval, ↓reduceIte, cast_lit, hN0, hN]
  refine (ok_centoref01_Mix hy2).then ?_
  simp only [push_cast, seval, ↓reduceIte, cast_lit, hN0, hN]
  refine W_drop [4] [] ?_
  simp only [push_cast, seval, ↓reduceIte]
  refine W_ret ?_
  try simp only [gthen, gblock]
  have h := Option.some.inj h; subst h
  refine fin_loc (.inr rfl) hU [.val (.bool (y2 == 0))] (by omega) ?_
  simp only [push_cast, seval, ↓reduceIte, cast_lit, Try.results68, hN0, hN]
theorem ok_centoref20_same {a0 : S_api_Edit} {r : Bool} {O : Objs} {n : Nat} (h : m_centoref20_same a0 = some r) : GTo Try.prog 108 [.agg (c_S_api_Edit a0)] O n (.val (.bool r)) O n := by
  unfold m_centoref20_same at h
  refine fn_of tab_ok Try.call108 Try.func108 rfl (Nat.le_of_ble_eq_true rfl) (Nat.le_refl _) fun hU => ?_
  have hN0 : O n = none := hU.fresh _ (Nat.le_refl _)
  have hN : ∀ k, O (n + k) = none := fun k => hU.fresh _ (Nat.le_add_right _ _)
  show W _ _ _ _ ⟨35, [], [(0, .agg (c_S_api_Edit a0))]⟩ (Loc O n []) _
  refine W_sq [1] (W_regionD tab_ok [] ?_)
  simp only [push_cast, seval, ↓reduceIte, cast_lit, hN0, hN]
  obtain ⟨z3, hz3, h⟩ := bC h
  refine W_seqN (E' := ⟨35, [], [(2, .val (.bool z3))]⟩) (O' := (Loc O n [none])) (n0 := (n + 1)) ?_ ?_
  · rcases Bool.eq_false_or_eq_true (a0.Kind == 0) with c8 | c8
    · replace hz3 := condT c8 hz3
      obtain ⟨y6, hy6, hz3⟩ := bC hz3
      rcases Bool.eq_false_or_eq_true y6 with c9 | c9
      · replace hz3 := condT c9 hz3
        try rw [c9] at c8
        obtain ⟨y7, hy7, hz3⟩ := bC hz3
        refine W_regionD tab_ok [some true, some true, some true, some true, some true, some true, none, none, none, none, none, none, none, none, none, none, none, none, none, none, none] ?_
        simp only [push_cast, seval, ↓reduceIte, cast_lit, c8, c9, hN0, hN]
        repeat (with_reducible refine And.intro (by first | (intro h0; simp only [h0, and_self]; done) | (intro h0; simp only [h0, Bool.not_false, Bool.not_true, Bool.true_and, Bool.and_true, true_and, and_true, and_self, imp_self, implies_true, bne_iff_ne, ne_eq, beq_iff_eq]; done) | (intros; simp_all; done) | exact True.intro) ?_)
        refine (ok_centoref20_none hy6).then ?_
        simp only [push_cast, seval, ↓reduceIte, cast_lit, c8, c9, hN0, hN]
        repeat (with_reducible refine And.intro (by first | (intro h0; simp only [h0, and_self]; done) | (intro h0; simp only [h0, Bool.not_false, Bool.not_true, Bool.true_and, Bool.and_true, true_and, and_true, and_self, imp_self, implies_true, bne_iff_ne, ne_eq, beq_iff_eq]; done) | (intros; simp_all; done) | exact True.intro) ?_)
        refine (ok_centoref20_none hy7).then ?_
        simp only [push_cast, seval, ↓reduceIte, cast_lit, c8, c9, hN0, hN]
        repeat (with_reducible refine And.intro (by first | (intro h0; simp only [h0, and_self]; done) | (intro h0; simp only [h0, Bool.not_false, Bool.not_true, Bool.true_and, Bool.and_true, true_and, and_true, and_self, imp_self, implies_true, bne_iff_ne, ne_eq, beq_iff_eq]; done) | (intros; simp_all; done) | exact True.intro) ?_)
        have hz3 := Option.some.inj hz3; subst hz3
        refine And.intro rfl (Fit2.of (fit_loc hU rfl rfl ?_) (by omega))
        simp only [push_cast, seval, ↓reduceIte, cast_lit, c8, c9, hN0, hN]
      · replace hz3 := condF c9 hz3
        try rw [c9] at c8
        refine W_regionD tab_ok [some true, some true, some true, some false, some false, some false, some false, some false, some false, some false, some false, some false, some false, some false, some false, some false, some false, some false, some false, some false, some false] ?_
        simp only [push_cast, seval, ↓reduceIte, cast_lit, c8, c9, hN0, hN]
        refine (ok_centoref20_none hy6).then ?_
        simp only [push_cast, seval, ↓reduceIte, cast_lit, c8, c9, hN0, hN]
        have hz3 := Option.some.inj hz3; subst hz3
        refine And.intro rfl (Fit2.of (fit_loc hU rfl rfl ?_) (by omega))
        simp only [push_cast, seval, ↓reduceIte, cast_lit, c8, c9, hN0, hN]
    · replace hz3 := condF c8 hz3
      refine W_regionD tab_ok [some false, some false, some false, some false, some false, some false, some false, some false, some false, some false, some false, some false, some false, some false, some false, some false, some false, some false, some false, some false, some false] ?_
      simp only [push_cast, seval, ↓reduceIte, cast_lit, c8, hN0, hN]
      have hz3 := Option.some.inj hz3; subst hz3
      refine And.intro rfl (Fit2.of (fit_loc hU rfl rfl ?_) (by omega))
      simp only [push_cast, seval, ↓reduceIte, cast_lit, c8, hN0, hN]
  refine W_ret ?_
  try simp only [gthen, gblock]
  have h := Option.some.inj h; subst h
  refine fin_loc (.inr rfl) hU [.val (.bool z3)] (by omega) ?_
  simp only [push_cast, seval, ↓reduceIte, cast_lit, Try.results108, hN0, hN]
theorem ok_centoref20_Lengths {a0 : S_api_Edit} {r : (Int × Int)} {O : Objs} {n : Nat} (h : m_centoref20_Lengths a0 = some r) : GTo Try.prog 70 [.agg (c_S_api_Edit a0)] O n (.tup [.val (.int .i64 r.1), .val (.int .i64 r.2)]) O n := by
  unfold m_centoref20_Lengths at h
  refine fn_of tab_ok Try.call70 Try.func70 rfl (Nat.le_of_ble_eq_true rfl) (Nat.le_refl _) fun hU => ?_
  have hN0 : O n = none := hU.fresh _ (Nat.le_refl _)
  have hN : ∀ k, O (n + k) = none := fun k => hU.fresh _ (Nat.le_add_right _ _)
  show W _ _ _ _ ⟨48, [], [(0, .agg (c_S_api_Edit a0))]⟩ (Loc O n []) _
  refine W_sq [1] (W_regionD tab_ok [] ?_)
  simp only [push_cast, seval, ↓reduceIte, cast_lit, hN0, hN]
  refine W_sq [1, 4, 5] (W_regionD tab_ok [] ?_)
  simp only [push_cast, seval, ↓reduceIte, cast_lit, hN0, hN]
  refine W_seqK ?_
  refine W_sq [1, 4, 5, 6] (W_regionD tab_ok [] ?_)
  simp only [push_cast, seval, ↓reduceIte, cast_lit, hN0, hN]
  refine W_drop [1, 4, 5, 6] [true] ?_
  simp only [push_cast, seval, ↓reduceIte]
  obtain ⟨z14, hz14, h⟩ := bC h
  refine W_blockX (E' := ⟨48, [], [(4, .val (.int .i64 z14.1)), (5, .val (.int .i64 z14.2))]⟩) (O' := (Loc O n [none])) (n0 := (n + 1)) ?_ ?_
  · refine W_loopJ hz14 (fun s0_ => ⟨48, [], [(1, .ref n 0), (4, .val (.int .i64 s0_.1)), (5, .val (.int .i64 s0_.2.1)), (6, .val (.int .i64 s0_.2.2))]⟩) (fun s0_ => (Loc O n [some ⟨false, 30, 11, 1, (c_S_api_Edit a0)⟩])) (fun z14 => JX 0 n (⟨48, [], [(4, .val (.int .i64 z14.1)), (5, .val (.int .i64 z14.2))]⟩ : Env) (Loc O n [none]) (n + 1)) ?_
    intro s0_ x0_ hs0_
    unfold m_centoref20_Lengths_L0 at hs0_
    try dsimp only
    refine W_seqK ?_
    refine W_sq [1, 4, 5, 6, 13] (W_regionD tab_ok [] ?_)
    simp only [push_cast, seval, ↓reduceIte, cast_lit, hN0, hN]
    refine W_cond (t := (decide (s0_.2.2 < (a0.Ops.length : Int)))) rfl (fun c13 => ?_) (fun c13 => ?_)
    · replace hs0_ := condT c13 hs0_
      refine W_skip ?_
      try simp only [gthen, gblock]
      refine W_drop [1, 4, 5, 6] [true] ?_
      simp only [push_cast, seval, ↓reduceIte]
      obtain ⟨z1, hz1, hs0_⟩ := bC hs0_
      refine W_seqN (E' := ⟨48, [], [(1, .ref n 0), (4, .val (.int .i64 z1.1)), (5, .val (.int .i64 z1.2)), (6, .val (.int .i64 s0_.2.2))]⟩) (O' := (Loc O n [some ⟨false, 30, 11, 1, (c_S_api_Edit a0)⟩, none])) (n0 := (n + 2)) ?_ ?_
      · refine W_block ?_
        refine W_seqK ?_
        obtain ⟨x3, hx3, ax3, bx3, cx3, hz1⟩ := bE (f := e_S_api_Op) tab69 (fun _ => rfl) (by decide) hz1
        refine W_regionD tab_ok [] ?_
        simp only [push_cast, Nat.reduceAdd, Nat.reduceSub, Nat.reduceMul, Nat.reduceLeDiff, Nat.reduceLT, Nat.reduceEqDiff, ↓reduceIte, reduceCtorEq, Int.reduceBEq, Int.reduceBNe, Nat.reduceBEq, Int.reduceLE, Int.reduceLT, Int.reduceEq, Int.reduceNe, Int.reduceNeg, Nat.reduceDiv, Nat.reduceMod, Nat.reducePow, cast_lit, ax3, bx3, cx3, hN0, hN]
        refine W_drop [1, 4, 5, 6, 7] [true, true] ?_
        simp only [push_cast, seval, ↓reduceIte]
        refine W_sq [1, 4, 5, 6, 7, 8] (W_regionD tab_ok [] ?_)
        simp only [push_cast, seval, ↓reduceIte, cast_lit, hN0, hN]
        obtain ⟨z4, hz4, hz1⟩ := bC hz1
        refine W_seqN (E' := ⟨48, [], [(1, .ref n 0), (4, .val (.int .i64 s0_.1)), (5, .val (.int .i64 s0_.2.1)), (6, .val (.int .i64 s0_.2.2)), (7, .ref (n + 1) 0), (8, .val (.int .i64 z4))]⟩) (O' := (Loc O n [some ⟨false, 30, 11, 1, (c_S_api_Edit a0)⟩, some ⟨false, 69, 14, 1, (c_S_api_Op x3)⟩])) (n0 := (n + 2)) ?_ ?_
        · refine W_sq [1, 4, 5, 6, 7, 8, 29] (W_regionD tab_ok [] ?_)
          simp only [push_cast, seval, ↓reduceIte, cast_lit, hN0, hN]
          refine W_cond (t := (x3.Kind == 3)) rfl (fun c5 => ?_) (fun c5 => ?_)
          · replace hz4 := condT c5 hz4
            refine W_regionD tab_ok [] ?_
            simp only [push_cast, seval, ↓reduceIte, cast_lit, hN0, hN]
            have hz4 := Option.some.inj hz4; subst hz4
            refine And.intro rfl (Fit2.of (fit_loc hU rfl rfl ?_) (by omega))
            simp only [push_cast, seval, ↓reduceIte, cast_lit, hN0, hN]
          · replace hz4 := condF c5 hz4
            refine W_skip ?_
            try simp only [gthen, gblock]
            have hz4 := Option.some.inj hz4; subst hz4
            refine And.intro rfl (Fit2.of (fit_loc hU rfl rfl ?_) (by omega))
            simp only [push_cast, seval, ↓reduceIte, cast_lit, hN0, hN]
        obtain ⟨z6, hz6, hz1⟩ := bC hz1
        refine W_seqN (E' := ⟨48, [], [(1, .ref n 0), (4, .val (.int .i64 z6)), (5, .val (.int .i64 s0_.2.1)), (6, .val (.int .i64 s0_.2.2)), (7, .ref (n + 1) 0), (8, .val (.int .i64 z4))]⟩) (O' := (Loc O n [some ⟨false, 30, 11, 1, (c_S_api_Edit a0)⟩, some ⟨false, 69, 14, 1, (c_S_api_Op x3)⟩])) (n0 := (n + 2)) ?_ ?_
        · refine W_sq [1, 4, 5, 6, 7, 8, 32] (W_regionD tab_ok [] ?_)
          simp only [push_cast, seval, ↓reduceIte, cast_lit, hN0, hN]
          refine W_cond (t := (x3.Kind != 2)) rfl (fun c7 => ?_) (fun c7 => ?_)
          · replace hz6 := condT c7 hz6
            refine W_regionD tab_ok [] ?_
            simp only [push_cast, seval, ↓reduceIte, cast_lit, hN0, hN]
            have hz6 := Option.some.inj hz6; subst hz6
            refine And.intro rfl (Fit2.of (fit_loc hU rfl rfl ?_) (by omega))
            simp only [push_cast, seval, ↓reduceIte, cast_lit, hN0, hN]
          · replace hz6 := condF c7 hz6
            refine W_skip ?_
            try simp only [gthen, gblock]
            have hz6 := Option.some.inj hz6; subst hz6
            refine And.intro rfl (Fit2.of (fit_loc hU rfl rfl ?_) (by omega))
            simp only [push_cast, seval, ↓reduceIte, cast_lit, hN0, hN]
        obtain ⟨z8, hz8, hz1⟩ := bC hz1
        refine W_seqN (E' := ⟨48, [], [(1, .ref n 0), (4, .val (.int .i64 z6)), (5, .val (.int .i64 z8)), (6, .val (.int .i64 s0_.2.2))]⟩) (O' := (Loc O n [some ⟨false, 30, 11, 1, (c_S_api_Edit a0)⟩, none])) (n0 := (n + 2)) ?_ ?_
        · refine W_sq [1, 4, 5, 6, 8, 38] (W_regionD tab_ok [] ?_)
          simp only [push_cast, seval, ↓reduceIte, cast_lit, hN0, hN]
          refine W_cond (t := (x3.Kind != 1)) rfl (fun c9 => ?_) (fun c9 => ?_)
          · replace hz8 := condT c9 hz8
            refine W_regionD tab_ok [] ?_
            simp only [push_cast, seval, ↓reduceIte, cast_lit, hN0, hN]
            have hz8 := Option.some.inj hz8; subst hz8
            refine And.intro rfl (Fit2.of (fit_loc hU rfl rfl ?_) (by omega))
            simp only [push_cast, seval, ↓reduceIte, cast_lit, hN0, hN]
          · replace hz8 := condF c9 hz8
            refine W_skip ?_
            try simp only [gthen, gblock]
            have hz8 := Option.some.inj hz8; subst hz8
            refine And.intro rfl (Fit2.of (fit_loc hU rfl rfl ?_) (by omega))
            simp only [push_cast, seval, ↓reduceIte, cast_lit, hN0, hN]
        obtain ⟨z10, hz10, hz1⟩ := bC hz1
        refine W_seqN (E' := ⟨48, [], [(1, .ref n 0), (4, .val (.int .i64 z10)), (5, .val (.int .i64 z8)), (6, .val (.int .i64 s0_.2.2))]⟩) (O' := (Loc O n [some ⟨false, 30, 11, 1, (c_S_api_Edit a0)⟩, none])) (n0 := (n + 2)) ?_ ?_
        · refine W_sq [1, 4, 5, 6, 43] (W_regionD tab_ok [] ?_)
          simp only [push_cast, seval, ↓reduceIte, cast_lit, hN0, hN]
          refine W_cond (t := (decide (1048576 < z6))) rfl (fun c11 => ?_) (fun c11 => ?_)
          · replace hz10 := condT c11 hz10
            refine W_regionD tab_ok [] ?_
            simp only [push_cast, seval, ↓reduceIte, cast_lit, hN0, hN]
            have hz10 := Option.some.inj hz10; subst hz10
            refine And.intro rfl (Fit2.of (fit_loc hU rfl rfl ?_) (by omega))
            simp only [push_cast, seval, ↓reduceIte, cast_lit, hN0, hN]
          · replace hz10 := condF c11 hz10
            refine W_skip ?_
            try simp only [gthen, gblock]
            have hz10 := Option.some.inj hz10; subst hz10
            refine And.intro rfl (Fit2.of (fit_loc hU rfl rfl ?_) (by omega))
            simp only [push_cast, seval, ↓reduceIte, cast_lit, hN0, hN]
        refine W_sq [1, 4, 5, 6, 45] (W_regionD tab_ok [] ?_)
        simp only [push_cast, seval, ↓reduceIte, cast_lit, hN0, hN]
        refine W_cond (t := (decide (1048576 < z8))) rfl (fun c12 => ?_) (fun c12 => ?_)
        · replace hz1 := condT c12 hz1
          refine W_regionD tab_ok [] ?_
          simp only [push_cast, seval, ↓reduceIte, cast_lit, hN0, hN]
          have hz1 := Option.some.inj hz1; subst hz1
          refine And.intro rfl (Fit2.of (fit_loc hU rfl rfl ?_) (by omega))
          simp only [push_cast, seval, ↓reduceIte, cast_lit, hN0, hN]
        · replace hz1 := condF c12 hz1
          refine W_skip ?_
          try simp only [gthen, gblock]
          have hz1 := Option.some.inj hz1; subst hz1
          refine And.intro rfl (Fit2.of (fit_loc hU rfl rfl ?_) (by omega))
          simp only [push_cast, seval, ↓reduceIte, cast_lit, hN0, hN]
      refine W_regionD tab_ok [] ?_
      simp only [push_cast, seval, ↓reduceIte, cast_lit, hN0, hN]
      have hs0_ := Option.some.inj hs0_; subst hs0_
      refine And.intro rfl (Fit2.of (fit_loc hU rfl rfl ?_) (by omega))
      simp only [push_cast, seval, ↓reduceIte, cast_lit, hN0, hN]
    · replace hs0_ := condF c13 hs0_
      refine W_exit ?_
      try simp only [gthen, gblock, ↓reduceIte, Nat.reduceEqDiff]
      have hs0_ := Option.some.inj hs0_; subst hs0_
      refine And.intro (fun h => by cases h) (And.intro rfl (Fit2.of (fit_loc hU rfl rfl ?_) (by omega)))
      simp only [push_cast, seval, ↓reduceIte, cast_lit, hN0, hN]
  try simp only [gthen, gblock, ↓reduceIte, Nat.reduceEqDiff]
  refine W_drop [4, 5] [false] ?_
  simp only [push_cast, seval, ↓reduceIte]
  refine W_sq [2, 3] (W_regionD tab_ok [] ?_)
  simp only [push_cast, seval, ↓reduceIte, cast_lit, hN0, hN]
  refine W_ret ?_
  try simp only [gthen, gblock]
  have h := Option.some.inj h; subst h
  refine fin_loc (.inr rfl) hU [.val (.int .i64 z14.1), .val (.int .i64 z14.2)] (by omega) ?_
  simp only [push_cast, seval, ↓reduceIte, cast_lit, Try.results70, hN0, hN]
end Go.Proofs.Ytbcgiaijjaocdaa
