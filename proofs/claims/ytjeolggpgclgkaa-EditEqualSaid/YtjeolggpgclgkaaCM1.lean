/- Part CM1 of this seat's mirrors: functions of the seat's program, and the plain functions that they are; each theorem bears its own conditions. -/
import Derived.Test.YtjeolggpgclgkaaCE
namespace Go.Proofs.Ytjeolggpgclgkaa
open Go.RowKit
set_option linter.unusedVariables false
set_option linter.unusedSimpArgs false
set_option maxRecDepth 100000
set_option maxHeartbeats 1000000
attribute [local push_cast] gfork_t gfork_f pfork_t pfork_f gthen gblock gops_nil gops_plain gops_guard onW gwantB gcalm gact gpick gpickV strip evS wok calmOp Op.operands Call.operands gop onK onP atK List.all_cons List.all_nil Bool.and_true Bool.true_and Bool.and_self Value.oneCell' List.take_zero List.take_succ_cons List.take_nil List.drop_zero List.drop_succ_cons List.drop_nil List.append_nil Nat.add_zero Nat.zero_add gstep gputE ev look genv gbin geqS geqF gint gunary gconvert gload gcells gpart_lit gstore gcellsOf gput gplace_lit gfieldAddr gstepIn gindexAddr gindex gfield gopt bLo bHi bMx gextract galloc gbox gbuild gfill gplaces gbuildSlice gmake glen gappend gsrc gbuiltin gnil isLive gres gone prun_nil prun_plain prun_guard pop TK.isAgg G.one G.under G.unders List.getD_cons_zero List.getD_cons_succ List.set_cons_zero List.set_cons_succ List.map_cons List.map_nil List.toList_toArray Array.toList_append Option.toArray_none Option.toArray_some Array.toList_map Option.map_some Option.map_none Option.bind_some Option.bind_none List.getElem?_cons_zero List.getElem?_cons_succ List.getElem?_nil List.nil_append List.cons_append List.replicate_succ List.replicate_zero List.length_cons List.length_nil and_true true_and and_false false_and Bool.true_eq_false Bool.false_eq_true forall_const false_implies implies_true IntKind.bits if_true if_false ite_true ite_false eq_self true_implies false_or or_false or_true true_or not_true_eq_false not_false_eq_true decide_true decide_false decide_eq_true_eq decide_eq_false_iff_not beq_iff_eq bne_iff_ne ne_eq Bool.not_eq_true Bool.not_eq_false beq_eq_false_iff_ne bne_eq_false_iff_eq beq_self_eq_true bne_self_eq_false Option.some.injEq exists_eq_left' exists_eq_left ge_iff_le gt_iff_lt decide_not Bool.not_true Bool.not_false imp_self gquiet cond_true cond_false beqT beqF Bool.not_not Bool.and_false Bool.false_and Bool.or_true Bool.true_or Bool.or_false Bool.false_or Loc_at Loc_at0 Loc_upd Loc_upd0 Loc_push Loc_push0 Option.join_some Nat.add_assoc Int.toNat_natCast eI eB eS eL fl_nil gopsD_nil gopsD_plain gopsD_t gopsD_f gopsD_n onKD onWD prunD_nil prunD_plain prunD_t prunD_f prunD_n onPD fitO fitO1 sameO fitL fl_append fl_one List.length_append G.agg.injEq G.row.injEq G.ref.injEq G.val.injEq G.sl.injEq G.tup.injEq Value.int.injEq Value.bool.injEq Value.string.injEq List.cons.injEq exists_and_left exists_const List.flatten_cons List.flatten_nil Int.le_refl Nat.le_refl upd_updU Loc_out Loc_updo Bool.not_eq_true' Bool.not_eq_false' wkl_nil wkl_cons wk_any wk_val wk_agg wk_tup wk_sl wk_fn List.size_toArray renO renO1 G.ren G.rens renL rho_at rho_at0 gP_none gP_some strip_gP wok_gP one_gP G.fn.injEq wk_slnil wk_slrow wk_slrs wk_ip wk_ipref wk_row wk_rs wk_rp wk_ref locLt0 locLt Option.join_none upd_same fl_cons undef keepL Arr.len Arr.put_eq prunB_nil prunB_bar prunB_bart prunB_plain prunB_t prunB_f prunB_n onB onBP gcopy setI_len Loc_cat0 Loc_cat1 Loc_cat2 Loc_cat3 Loc_cat4 Loc_cat5 noObjs_at prunK_nil prunK_bar prunK_pass prunK_plain prunK_low prunK_pt prunK_pf prunK_lt prunK_lf onKg onKa onKp popL pickOps lows lowG tab2 tkind2 tab3 tkind3 tab4 tkind4 tab5 tkind5 tab6 tkind6 tab7 tkind7 tab8 tkind8 tab9 tkind9 tab10 tkind10 tab11 tkind11 tab12 tkind12 tab13 tkind13 tab14 tkind14 tab15 tkind15 tab16 tkind16 tab17 tkind17 tab18 tkind18 tab19 tkind19 tab21 tkind21 tab22 tkind22 tab23 tkind23 tab24 tkind24 tab25 tkind25 tab33 tkind33 tab35 tkind35 tab40 tkind40 tab42 tkind42 tab43 tkind43 tab49 tkind49 tab50 tkind50 tab51 tkind51 tab52 tkind52 tab53 tkind53 tab60 tkind60 tab61 tkind61 tab62 tkind62 tab63 tkind63 tab71 tkind71 tab77 tkind77 tab78 tkind78 tab85 tkind85 tab86 tkind86 tab95 tkind95 tab97 tkind97 tab98 tkind98 tab99 tkind99 tab110 tkind110 tab111 tkind111 tab114 tkind114 tab116 tkind116 tab117 tkind117 tab125 tkind125 tab129 tkind129 tab131 tkind131 tab133 tkind133 tab134 tkind134 tab144 tkind144 tab148 tkind148 tab151 tkind151 tab158 tkind158 tab160 tkind160 tab161 tkind161 tab165 tkind165 tab167 tkind167 tab170 tkind170 tab171 tkind171 tab175 tkind175 tab176 tkind176 tab178 tkind178 tab179 tkind179 tab180 tkind180 e_S_api_Tree e0_eq_S_api_Tree wkl_eI_u64 wka_eI_u64 len_eI_u64 one_eI_u64 wkp_eI_u64 undp_eI_u64 rens_eI_u64 renp_eI_u64 und_eI_u64 wkl_e_S_api_Tree wka_e_S_api_Tree len_e_S_api_Tree one_e_S_api_Tree wkp_e_S_api_Tree undp_e_S_api_Tree rens_e_S_api_Tree renp_e_S_api_Tree und_e_S_api_Tree e_S_api_WordEdit e_S_api_Edit e_S_api_KidEdit e_S_api_Op e0_eq_S_api_Edit e0_eq_S_api_KidEdit e0_eq_S_api_Op wkl_e_S_api_WordEdit wka_e_S_api_WordEdit len_e_S_api_WordEdit one_e_S_api_WordEdit wkp_e_S_api_WordEdit undp_e_S_api_WordEdit rens_e_S_api_WordEdit renp_e_S_api_WordEdit und_e_S_api_WordEdit wkl_e_S_api_KidEdit wka_e_S_api_KidEdit len_e_S_api_KidEdit one_e_S_api_KidEdit wkp_e_S_api_KidEdit undp_e_S_api_KidEdit rens_e_S_api_KidEdit renp_e_S_api_KidEdit und_e_S_api_KidEdit wkl_e_S_api_Op wka_e_S_api_Op len_e_S_api_Op one_e_S_api_Op wkp_e_S_api_Op undp_e_S_api_Op rens_e_S_api_Op renp_e_S_api_Op und_e_S_api_Op wkl_eI_i64 wka_eI_i64 len_eI_i64 one_eI_i64 wkp_eI_i64 undp_eI_i64 rens_eI_i64 renp_eI_i64 und_eI_i64
theorem okb_centoref07_Shallow {r_centoref07_Shallow : (S_api_Tree → Int → Int → Option Int)} (ok_r_centoref07_Shallow : ∀ {a0 : S_api_Tree} {a1 : Int} {a2 : Int} {r : Int} {O : Objs} {n : Nat}, r_centoref07_Shallow a0 a1 a2 = some r → GTo Try.prog 58 [.agg [.val (.int .i64 a0.Kind), .sl a0.Words.length (fl (eI .u64) a0.Words), .sl a0.Kids.length (fl e_S_api_Tree a0.Kids)], .val (.int .i64 a1), .val (.int .i64 a2)] O n (.val (.int .i64 r)) O n) {a0 : S_api_Tree} {a1 : Int} {a2 : Int} {r : Int} {O : Objs} {n : Nat} (h : b_centoref07_Shallow r_centoref07_Shallow a0 a1 a2 = some r) : GTo Try.prog 58 [.agg [.val (.int .i64 a0.Kind), .sl a0.Words.length (fl (eI .u64) a0.Words), .sl a0.Kids.length (fl e_S_api_Tree a0.Kids)], .val (.int .i64 a1), .val (.int .i64 a2)] O n (.val (.int .i64 r)) O n := by
  unfold b_centoref07_Shallow at h
  refine fn_of tab_ok Try.call58 Try.func58 rfl (Nat.le_of_ble_eq_true rfl) (Nat.le_refl _) fun hU => ?_
  have hN0 : O n = none := hU.fresh _ (Nat.le_refl _)
  have hN : ∀ k, O (n + k) = none := fun k => hU.fresh _ (Nat.le_add_right _ _)
  show W _ _ _ _ ⟨41, [], [(0, .agg [.val (.int .i64 a0.Kind), .sl a0.Words.length (fl (eI .u64) a0.Words), .sl a0.Kids.length (fl e_S_api_Tree a0.Kids)]), (1, .val (.int .i64 a1)), (2, .val (.int .i64 a2))]⟩ (Loc O n []) _
  refine W_sq [1, 2, 3] (W_regionD tab_ok [] ?_)
  simp only [push_cast, seval, ↓reduceIte, cast_lit, hN0, hN]
  refine W_sq [1, 2, 3] (W_regionD tab_ok [] ?_)
  simp only [push_cast, seval, ↓reduceIte, cast_lit, hN0, hN]
  refine W_seqK ?_
  refine W_sq [1, 2, 3, 19] (W_regionD tab_ok [none, none] ?_)
  simp only [push_cast, seval, ↓reduceIte, cast_lit, hN0, hN]
  repeat (with_reducible refine And.intro (by first | (intro h0; simp only [h0, and_self]; done) | (intro h0; simp only [h0, Bool.not_false, Bool.not_true, Bool.true_and, Bool.and_true, true_and, and_true, and_self, imp_self, implies_true, bne_iff_ne, ne_eq, beq_iff_eq]; done) | (intros; simp_all; done) | exact True.intro) ?_)
  refine W_cond (t := (cond (a1 == 0) true (decide ((IntKind.i64.wrap ((IntKind.i64.wrap (a2 - 1)) - (a0.Words.length : Int))) < 0)))) rfl (fun c5 => ?_) (fun c5 => ?_)
  · replace h := condT c5 h
    refine W_sq [6] (W_regionD tab_ok [] ?_)
    simp only [push_cast, seval, ↓reduceIte, cast_lit, hN0, hN]
    refine W_ret ?_
    try simp only [gthen, gblock]
    have h := Option.some.inj h; subst h
    refine fin_loc (.inr rfl) hU [.val (.int .i64 (-1))] (by omega) ?_
    simp only [push_cast, seval, ↓reduceIte, cast_lit, Try.results58, hN0, hN]
  · replace h := condF c5 h
    refine W_skip ?_
    try simp only [gthen, gblock]
    refine W_fit ⟨41, [], [(1, .val (.int .i64 a1)), (2, .val (.int .i64 (IntKind.i64.wrap ((IntKind.i64.wrap (a2 - 1)) - (a0.Words.length : Int))))), (3, .ref n 0)]⟩ (Loc O n [some ⟨false, 25, 3, 1, [.val (.int .i64 a0.Kind), .sl a0.Words.length (fl (eI .u64) a0.Words), .sl a0.Kids.length (fl e_S_api_Tree a0.Kids)]⟩]) (fit_loc hU rfl rfl ?_) ?_
    · simp only [push_cast, seval, ↓reduceIte, cast_lit, hN0, hN]
    refine W_seqK ?_
    refine W_sq [1, 2, 3, 7] (W_regionD tab_ok [] ?_)
    simp only [push_cast, seval, ↓reduceIte, cast_lit, hN0, hN]
    refine W_fit ⟨41, [], [(1, .val (.int .i64 a1)), (2, .val (.int .i64 (IntKind.i64.wrap ((IntKind.i64.wrap (a2 - 1)) - (a0.Words.length : Int))))), (3, .ref n 0), (7, .val (.int .i64 0))]⟩ (Loc O n [some ⟨false, 25, 3, 1, [.val (.int .i64 a0.Kind), .sl a0.Words.length (fl (eI .u64) a0.Words), .sl a0.Kids.length (fl e_S_api_Tree a0.Kids)]⟩]) (fit_loc hU rfl rfl ?_) ?_
    · simp only [push_cast, seval, ↓reduceIte, cast_lit, hN0, hN]
    obtain ⟨z4, hz4, h⟩ := bC h
    refine W_blockX (E' := ⟨41, [], [(2, .val (.int .i64 z4))]⟩) (O' := (Loc O n [none])) (n0 := (n + 1)) ?_ ?_
    · refine W_loopJ hz4 (fun s0_ => ⟨41, [], [(1, .val (.int .i64 a1)), (2, .val (.int .i64 s0_.1)), (3, .ref n 0), (7, .val (.int .i64 s0_.2))]⟩) (fun s0_ => (Loc O n [some ⟨false, 25, 3, 1, [.val (.int .i64 a0.Kind), .sl a0.Words.length (fl (eI .u64) a0.Words), .sl a0.Kids.length (fl e_S_api_Tree a0.Kids)]⟩])) (fun z4 => JX 0 n (⟨41, [], [(2, .val (.int .i64 z4))]⟩ : Env) (Loc O n [none]) (n + 1)) ?_
      intro s0_ x0_ hs0_
      unfold b_centoref07_Shallow_L0 at hs0_
      try dsimp only
      refine W_seqK ?_
      refine W_sq [1, 2, 3, 7, 28] (W_regionD tab_ok [none, none] ?_)
      simp only [push_cast, seval, ↓reduceIte, cast_lit, hN0, hN]
      repeat (with_reducible refine And.intro (by first | (intro h0; simp only [h0, and_self]; done) | (intro h0; simp only [h0, Bool.not_false, Bool.not_true, Bool.true_and, Bool.and_true, true_and, and_true, and_self, imp_self, implies_true, bne_iff_ne, ne_eq, beq_iff_eq]; done) | (intros; simp_all; done) | exact True.intro) ?_)
      refine W_cond (t := (cond (decide (s0_.2 < (a0.Kids.length : Int))) (decide (0 ≤ s0_.1)) false)) rfl (fun c3 => ?_) (fun c3 => ?_)
      · replace hs0_ := condT c3 hs0_
        refine W_skip ?_
        try simp only [gthen, gblock]
        refine W_fit ⟨41, [], [(1, .val (.int .i64 a1)), (2, .val (.int .i64 s0_.1)), (3, .ref n 0), (7, .val (.int .i64 s0_.2))]⟩ (Loc O n [some ⟨false, 25, 3, 1, [.val (.int .i64 a0.Kind), .sl a0.Words.length (fl (eI .u64) a0.Words), .sl a0.Kids.length (fl e_S_api_Tree a0.Kids)]⟩]) (fit_loc hU rfl rfl ?_) ?_
        · simp only [push_cast, seval, ↓reduceIte, cast_lit, hN0, hN]
        refine W_seqK ?_
        refine W_block ?_
        obtain ⟨x1, hx1, ax1, bx1, cx1, hs0_⟩ := bE (f := e_S_api_Tree) tab25 (fun _ => rfl) (by decide) hs0_
        obtain ⟨y2, hy2, hs0_⟩ := bC hs0_
        refine W_regionD tab_ok [] ?_
        simp only [push_cast, Nat.reduceAdd, Nat.reduceSub, Nat.reduceMul, Nat.reduceLeDiff, Nat.reduceLT, Nat.reduceEqDiff, ↓reduceIte, reduceCtorEq, Int.reduceBEq, Int.reduceBNe, Nat.reduceBEq, Int.reduceLE, Int.reduceLT, Int.reduceEq, Int.reduceNe, Int.reduceNeg, Nat.reduceDiv, Nat.reduceMod, Nat.reducePow, cast_lit, ax1, bx1, cx1, hN0, hN]
        refine (ok_r_centoref07_Shallow hy2).then ?_
        simp only [push_cast, Nat.reduceAdd, Nat.reduceSub, Nat.reduceMul, Nat.reduceLeDiff, Nat.reduceLT, Nat.reduceEqDiff, ↓reduceIte, reduceCtorEq, Int.reduceBEq, Int.reduceBNe, Nat.reduceBEq, Int.reduceLE, Int.reduceLT, Int.reduceEq, Int.reduceNe, Int.reduceNeg, Nat.reduceDiv, Nat.reduceMod, Nat.reducePow, cast_lit, ax1, bx1, cx1, hN0, hN]
        refine W_fit ⟨41, [], [(1, .val (.int .i64 a1)), (2, .val (.int .i64 y2)), (3, .ref n 0), (7, .val (.int .i64 s0_.2))]⟩ (Loc O n [some ⟨false, 25, 3, 1, [.val (.int .i64 a0.Kind), .sl a0.Words.length (fl (eI .u64) a0.Words), .sl a0.Kids.length (fl e_S_api_Tree a0.Kids)]⟩]) (fit_loc hU rfl rfl ?_) ?_
        · simp only [push_cast, Nat.reduceAdd, Nat.reduceSub, Nat.reduceMul, Nat.reduceLeDiff, Nat.reduceLT, Nat.reduceEqDiff, ↓reduceIte, reduceCtorEq, Int.reduceBEq, Int.reduceBNe, Nat.reduceBEq, Int.reduceLE, Int.reduceLT, Int.reduceEq, Int.reduceNe, Int.reduceNeg, Nat.reduceDiv, Nat.reduceMod, Nat.reducePow, cast_lit, ax1, bx1, cx1, hN0, hN]
        refine W_regionD tab_ok [] ?_
        simp only [push_cast, seval, ↓reduceIte, cast_lit, hN0, hN]
        have hs0_ := Option.some.inj hs0_; subst hs0_
        refine And.intro rfl (Fit2.of (fit_loc hU rfl rfl ?_) (by omega))
        simp only [push_cast, seval, ↓reduceIte, cast_lit, hN0, hN]
      · replace hs0_ := condF c3 hs0_
        refine W_exit ?_
        try simp only [gthen, gblock, ↓reduceIte, Nat.reduceEqDiff]
        have hs0_ := Option.some.inj hs0_; subst hs0_
        refine And.intro (fun h => by cases h) (And.intro rfl (Fit2.of (fit_loc hU rfl rfl ?_) (by omega)))
        simp only [push_cast, seval, ↓reduceIte, cast_lit, hN0, hN]
    try simp only [gthen, gblock, ↓reduceIte, Nat.reduceEqDiff]
    refine W_fit ⟨41, [], [(2, .val (.int .i64 z4))]⟩ (Loc O n [none]) (fit_loc hU rfl rfl ?_) ?_
    · simp only [push_cast, seval, ↓reduceIte, cast_lit, hN0, hN]
    refine W_sq [6] (W_regionD tab_ok [] ?_)
    simp only [push_cast, seval, ↓reduceIte, cast_lit, hN0, hN]
    refine W_ret ?_
    try simp only [gthen, gblock]
    have h := Option.some.inj h; subst h
    refine fin_loc (.inr rfl) hU [.val (.int .i64 z4)] (by omega) ?_
    simp only [push_cast, seval, ↓reduceIte, cast_lit, Try.results58, hN0, hN]

theorem lv_centoref07_Shallow_ok : ∀ k, (∀ {a0 : S_api_Tree} {a1 : Int} {a2 : Int} {r : Int} {O : Objs} {n : Nat}, (lv_centoref07_Shallow k) a0 a1 a2 = some r → GTo Try.prog 58 [.agg [.val (.int .i64 a0.Kind), .sl a0.Words.length (fl (eI .u64) a0.Words), .sl a0.Kids.length (fl e_S_api_Tree a0.Kids)], .val (.int .i64 a1), .val (.int .i64 a2)] O n (.val (.int .i64 r)) O n) := fun k => by
  induction k with
  | zero => exact @fun a0 a1 a2 r O n h => (nomatch (show (none : Option _) = some _ from h))
  | succ k ih => exact @fun a0 a1 a2 r O n h => okb_centoref07_Shallow (ih)  h

theorem ok_centoref07_Shallow {a0 : S_api_Tree} {a1 : Int} {a2 : Int} {r : Int} {O : Objs} {n : Nat} (h : m_centoref07_Shallow a0 a1 a2 = some r) : GTo Try.prog 58 [.agg [.val (.int .i64 a0.Kind), .sl a0.Words.length (fl (eI .u64) a0.Words), .sl a0.Kids.length (fl e_S_api_Tree a0.Kids)], .val (.int .i64 a1), .val (.int .i64 a2)] O n (.val (.int .i64 r)) O n := by
  obtain ⟨k, hk⟩ := lim_some h
  exact (lv_centoref07_Shallow_ok k)  hk

theorem okb_centoref20_left {r_centoref20_left : (S_api_Edit → Int → Int → Option Int)} (ok_r_centoref20_left : ∀ {a0 : S_api_Edit} {a1 : Int} {a2 : Int} {r : Int} {O : Objs} {n : Nat}, r_centoref20_left a0 a1 a2 = some r → GTo Try.prog 71 [.agg [.val (.int .i64 a0.Kind), .val (.int .i64 a0.Old.Kind), .sl a0.Old.Words.length (fl (eI .u64) a0.Old.Words), .sl a0.Old.Kids.length (fl e_S_api_Tree a0.Old.Kids), .val (.int .i64 a0.New.Kind), .sl a0.New.Words.length (fl (eI .u64) a0.New.Words), .sl a0.New.Kids.length (fl e_S_api_Tree a0.New.Kids), .sl a0.Words.length (fl e_S_api_WordEdit a0.Words), .sl a0.Kids.length (fl e_S_api_KidEdit a0.Kids), .val (.int .i64 a0.List_), .sl a0.Ops.length (fl e_S_api_Op a0.Ops)], .val (.int .i64 a1), .val (.int .i64 a2)] O n (.val (.int .i64 r)) O n) {a0 : S_api_Edit} {a1 : Int} {a2 : Int} {r : Int} {O : Objs} {n : Nat} (h : b_centoref20_left r_centoref20_left a0 a1 a2 = some r) : GTo Try.prog 71 [.agg [.val (.int .i64 a0.Kind), .val (.int .i64 a0.Old.Kind), .sl a0.Old.Words.length (fl (eI .u64) a0.Old.Words), .sl a0.Old.Kids.length (fl e_S_api_Tree a0.Old.Kids), .val (.int .i64 a0.New.Kind), .sl a0.New.Words.length (fl (eI .u64) a0.New.Words), .sl a0.New.Kids.length (fl e_S_api_Tree a0.New.Kids), .sl a0.Words.length (fl e_S_api_WordEdit a0.Words), .sl a0.Kids.length (fl e_S_api_KidEdit a0.Kids), .val (.int .i64 a0.List_), .sl a0.Ops.length (fl e_S_api_Op a0.Ops)], .val (.int .i64 a1), .val (.int .i64 a2)] O n (.val (.int .i64 r)) O n := by
  unfold b_centoref20_left at h
  refine fn_of tab_ok Try.call71 Try.func71 rfl (Nat.le_of_ble_eq_true rfl) (Nat.le_refl _) fun hU => ?_
  have hN0 : O n = none := hU.fresh _ (Nat.le_refl _)
  have hN : ∀ k, O (n + k) = none := fun k => hU.fresh _ (Nat.le_add_right _ _)
  show W _ _ _ _ ⟨107, [], [(0, .agg [.val (.int .i64 a0.Kind), .val (.int .i64 a0.Old.Kind), .sl a0.Old.Words.length (fl (eI .u64) a0.Old.Words), .sl a0.Old.Kids.length (fl e_S_api_Tree a0.Old.Kids), .val (.int .i64 a0.New.Kind), .sl a0.New.Words.length (fl (eI .u64) a0.New.Words), .sl a0.New.Kids.length (fl e_S_api_Tree a0.New.Kids), .sl a0.Words.length (fl e_S_api_WordEdit a0.Words), .sl a0.Kids.length (fl e_S_api_KidEdit a0.Kids), .val (.int .i64 a0.List_), .sl a0.Ops.length (fl e_S_api_Op a0.Ops)]), (1, .val (.int .i64 a1)), (2, .val (.int .i64 a2))]⟩ (Loc O n []) _
  refine W_sq [1, 2, 3] (W_regionD tab_ok [] ?_)
  simp only [push_cast, seval, ↓reduceIte, cast_lit, hN0, hN]
  refine W_sq [1, 2, 3] (W_regionD tab_ok [] ?_)
  simp only [push_cast, seval, ↓reduceIte, cast_lit, hN0, hN]
  refine W_seqK ?_
  refine W_sq [1, 2, 3, 25] (W_regionD tab_ok [none, none] ?_)
  simp only [push_cast, seval, ↓reduceIte, cast_lit, hN0, hN]
  repeat (with_reducible refine And.intro (by first | (intro h0; simp only [h0, and_self]; done) | (intro h0; simp only [h0, Bool.not_false, Bool.not_true, Bool.true_and, Bool.and_true, true_and, and_true, and_self, imp_self, implies_true, bne_iff_ne, ne_eq, beq_iff_eq]; done) | (intros; simp_all; done) | exact True.intro) ?_)
  refine W_cond (t := (cond (a1 == 0) true (decide ((IntKind.i64.wrap ((IntKind.i64.wrap ((IntKind.i64.wrap (a2 - 1)) - (a0.Words.length : Int))) - (a0.Ops.length : Int))) < 0)))) rfl (fun c28 => ?_) (fun c28 => ?_)
  · replace h := condT c28 h
    refine W_sq [6] (W_regionD tab_ok [] ?_)
    simp only [push_cast, seval, ↓reduceIte, cast_lit, hN0, hN]
    refine W_ret ?_
    try simp only [gthen, gblock]
    have h := Option.some.inj h; subst h
    refine fin_loc (.inr rfl) hU [.val (.int .i64 (-1))] (by omega) ?_
    simp only [push_cast, seval, ↓reduceIte, cast_lit, Try.results71, hN0, hN]
  · replace h := condF c28 h
    refine W_skip ?_
    try simp only [gthen, gblock]
    refine W_fit ⟨107, [], [(1, .val (.int .i64 a1)), (2, .val (.int .i64 (IntKind.i64.wrap ((IntKind.i64.wrap ((IntKind.i64.wrap (a2 - 1)) - (a0.Words.length : Int))) - (a0.Ops.length : Int))))), (3, .ref n 0)]⟩ (Loc O n [some ⟨false, 53, 11, 1, [.val (.int .i64 a0.Kind), .val (.int .i64 a0.Old.Kind), .sl a0.Old.Words.length (fl (eI .u64) a0.Old.Words), .sl a0.Old.Kids.length (fl e_S_api_Tree a0.Old.Kids), .val (.int .i64 a0.New.Kind), .sl a0.New.Words.length (fl (eI .u64) a0.New.Words), .sl a0.New.Kids.length (fl e_S_api_Tree a0.New.Kids), .sl a0.Words.length (fl e_S_api_WordEdit a0.Words), .sl a0.Kids.length (fl e_S_api_KidEdit a0.Kids), .val (.int .i64 a0.List_), .sl a0.Ops.length (fl e_S_api_Op a0.Ops)]⟩]) (fit_loc hU rfl rfl ?_) ?_
    · simp only [push_cast, seval, ↓reduceIte, cast_lit, hN0, hN]
    refine W_seqK ?_
    obtain ⟨y2, hy2, h⟩ := bC h
    refine W_regionD tab_ok [] ?_
    simp only [push_cast, seval, ↓reduceIte, cast_lit, hN0, hN]
    refine (ok_centoref07_Shallow hy2).then ?_
    simp only [push_cast, seval, ↓reduceIte, cast_lit, hN0, hN]
    refine W_fit ⟨107, [], [(1, .val (.int .i64 a1)), (2, .val (.int .i64 y2)), (3, .ref n 0)]⟩ (Loc O n [some ⟨false, 53, 11, 1, [.val (.int .i64 a0.Kind), .val (.int .i64 a0.Old.Kind), .sl a0.Old.Words.length (fl (eI .u64) a0.Old.Words), .sl a0.Old.Kids.length (fl e_S_api_Tree a0.Old.Kids), .val (.int .i64 a0.New.Kind), .sl a0.New.Words.length (fl (eI .u64) a0.New.Words), .sl a0.New.Kids.length (fl e_S_api_Tree a0.New.Kids), .sl a0.Words.length (fl e_S_api_WordEdit a0.Words), .sl a0.Kids.length (fl e_S_api_KidEdit a0.Kids), .val (.int .i64 a0.List_), .sl a0.Ops.length (fl e_S_api_Op a0.Ops)]⟩]) (fit_loc hU rfl rfl ?_) ?_
    · simp only [push_cast, seval, ↓reduceIte, cast_lit, hN0, hN]
    obtain ⟨z3, hz3, h⟩ := bC h
    refine W_seqN (E' := ⟨107, [], [(1, .val (.int .i64 a1)), (2, .val (.int .i64 z3)), (3, .ref n 0)]⟩) (O' := (Loc O n [some ⟨false, 53, 11, 1, [.val (.int .i64 a0.Kind), .val (.int .i64 a0.Old.Kind), .sl a0.Old.Words.length (fl (eI .u64) a0.Old.Words), .sl a0.Old.Kids.length (fl e_S_api_Tree a0.Old.Kids), .val (.int .i64 a0.New.Kind), .sl a0.New.Words.length (fl (eI .u64) a0.New.Words), .sl a0.New.Kids.length (fl e_S_api_Tree a0.New.Kids), .sl a0.Words.length (fl e_S_api_WordEdit a0.Words), .sl a0.Kids.length (fl e_S_api_KidEdit a0.Kids), .val (.int .i64 a0.List_), .sl a0.Ops.length (fl e_S_api_Op a0.Ops)]⟩])) (n0 := (n + 1)) ?_ ?_
    · refine W_sq [1, 2, 3, 31] (W_regionD tab_ok [] ?_)
      simp only [push_cast, seval, ↓reduceIte, cast_lit, hN0, hN]
      refine W_cond (t := (decide (0 ≤ y2))) rfl (fun c5 => ?_) (fun c5 => ?_)
      · replace hz3 := condT c5 hz3
        obtain ⟨y4, hy4, hz3⟩ := bC hz3
        refine W_regionD tab_ok [] ?_
        simp only [push_cast, seval, ↓reduceIte, cast_lit, hN0, hN]
        refine (ok_centoref07_Shallow hy4).then ?_
        simp only [push_cast, seval, ↓reduceIte, cast_lit, hN0, hN]
        have hz3 := Option.some.inj hz3; subst hz3
        refine And.intro rfl (Fit2.of (fit_loc hU rfl rfl ?_) (by omega))
        simp only [push_cast, seval, ↓reduceIte, cast_lit, hN0, hN]
      · replace hz3 := condF c5 hz3
        refine W_skip ?_
        try simp only [gthen, gblock]
        have hz3 := Option.some.inj hz3; subst hz3
        refine And.intro rfl (Fit2.of (fit_loc hU rfl rfl ?_) (by omega))
        simp only [push_cast, seval, ↓reduceIte, cast_lit, hN0, hN]
    refine W_seqK ?_
    refine W_sq [1, 2, 3, 7] (W_regionD tab_ok [] ?_)
    simp only [push_cast, seval, ↓reduceIte, cast_lit, hN0, hN]
    refine W_fit ⟨107, [], [(1, .val (.int .i64 a1)), (2, .val (.int .i64 z3)), (3, .ref n 0), (7, .val (.int .i64 0))]⟩ (Loc O n [some ⟨false, 53, 11, 1, [.val (.int .i64 a0.Kind), .val (.int .i64 a0.Old.Kind), .sl a0.Old.Words.length (fl (eI .u64) a0.Old.Words), .sl a0.Old.Kids.length (fl e_S_api_Tree a0.Old.Kids), .val (.int .i64 a0.New.Kind), .sl a0.New.Words.length (fl (eI .u64) a0.New.Words), .sl a0.New.Kids.length (fl e_S_api_Tree a0.New.Kids), .sl a0.Words.length (fl e_S_api_WordEdit a0.Words), .sl a0.Kids.length (fl e_S_api_KidEdit a0.Kids), .val (.int .i64 a0.List_), .sl a0.Ops.length (fl e_S_api_Op a0.Ops)]⟩]) (fit_loc hU rfl rfl ?_) ?_
    · simp only [push_cast, seval, ↓reduceIte, cast_lit, hN0, hN]
    obtain ⟨z10, hz10, h⟩ := bC h
    refine W_blockX (E' := ⟨107, [], [(1, .val (.int .i64 a1)), (2, .val (.int .i64 z10)), (3, .ref n 0)]⟩) (O' := (Loc O n [some ⟨false, 53, 11, 1, [.val (.int .i64 a0.Kind), .val (.int .i64 a0.Old.Kind), .sl a0.Old.Words.length (fl (eI .u64) a0.Old.Words), .sl a0.Old.Kids.length (fl e_S_api_Tree a0.Old.Kids), .val (.int .i64 a0.New.Kind), .sl a0.New.Words.length (fl (eI .u64) a0.New.Words), .sl a0.New.Kids.length (fl e_S_api_Tree a0.New.Kids), .sl a0.Words.length (fl e_S_api_WordEdit a0.Words), .sl a0.Kids.length (fl e_S_api_KidEdit a0.Kids), .val (.int .i64 a0.List_), .sl a0.Ops.length (fl e_S_api_Op a0.Ops)]⟩])) (n0 := (n + 1)) ?_ ?_
    · refine W_loopJ hz10 (fun s0_ => ⟨107, [], [(1, .val (.int .i64 a1)), (2, .val (.int .i64 s0_.1)), (3, .ref n 0), (7, .val (.int .i64 s0_.2))]⟩) (fun s0_ => (Loc O n [some ⟨false, 53, 11, 1, [.val (.int .i64 a0.Kind), .val (.int .i64 a0.Old.Kind), .sl a0.Old.Words.length (fl (eI .u64) a0.Old.Words), .sl a0.Old.Kids.length (fl e_S_api_Tree a0.Old.Kids), .val (.int .i64 a0.New.Kind), .sl a0.New.Words.length (fl (eI .u64) a0.New.Words), .sl a0.New.Kids.length (fl e_S_api_Tree a0.New.Kids), .sl a0.Words.length (fl e_S_api_WordEdit a0.Words), .sl a0.Kids.length (fl e_S_api_KidEdit a0.Kids), .val (.int .i64 a0.List_), .sl a0.Ops.length (fl e_S_api_Op a0.Ops)]⟩])) (fun z10 => JX 0 n (⟨107, [], [(1, .val (.int .i64 a1)), (2, .val (.int .i64 z10)), (3, .ref n 0)]⟩ : Env) (Loc O n [some ⟨false, 53, 11, 1, [.val (.int .i64 a0.Kind), .val (.int .i64 a0.Old.Kind), .sl a0.Old.Words.length (fl (eI .u64) a0.Old.Words), .sl a0.Old.Kids.length (fl e_S_api_Tree a0.Old.Kids), .val (.int .i64 a0.New.Kind), .sl a0.New.Words.length (fl (eI .u64) a0.New.Words), .sl a0.New.Kids.length (fl e_S_api_Tree a0.New.Kids), .sl a0.Words.length (fl e_S_api_WordEdit a0.Words), .sl a0.Kids.length (fl e_S_api_KidEdit a0.Kids), .val (.int .i64 a0.List_), .sl a0.Ops.length (fl e_S_api_Op a0.Ops)]⟩]) (n + 1)) ?_
      intro s0_ x0_ hs0_
      unfold b_centoref20_left_L0 at hs0_
      try dsimp only
      refine W_seqK ?_
      refine W_sq [1, 2, 3, 7, 44] (W_regionD tab_ok [none, none] ?_)
      simp only [push_cast, seval, ↓reduceIte, cast_lit, hN0, hN]
      repeat (with_reducible refine And.intro (by first | (intro h0; simp only [h0, and_self]; done) | (intro h0; simp only [h0, Bool.not_false, Bool.not_true, Bool.true_and, Bool.and_true, true_and, and_true, and_self, imp_self, implies_true, bne_iff_ne, ne_eq, beq_iff_eq]; done) | (intros; simp_all; done) | exact True.intro) ?_)
      refine W_cond (t := (cond (decide (s0_.2 < (a0.Kids.length : Int))) (decide (0 ≤ s0_.1)) false)) rfl (fun c9 => ?_) (fun c9 => ?_)
      · replace hs0_ := condT c9 hs0_
        refine W_skip ?_
        try simp only [gthen, gblock]
        refine W_fit ⟨107, [], [(1, .val (.int .i64 a1)), (2, .val (.int .i64 s0_.1)), (3, .ref n 0), (7, .val (.int .i64 s0_.2))]⟩ (Loc O n [some ⟨false, 53, 11, 1, [.val (.int .i64 a0.Kind), .val (.int .i64 a0.Old.Kind), .sl a0.Old.Words.length (fl (eI .u64) a0.Old.Words), .sl a0.Old.Kids.length (fl e_S_api_Tree a0.Old.Kids), .val (.int .i64 a0.New.Kind), .sl a0.New.Words.length (fl (eI .u64) a0.New.Words), .sl a0.New.Kids.length (fl e_S_api_Tree a0.New.Kids), .sl a0.Words.length (fl e_S_api_WordEdit a0.Words), .sl a0.Kids.length (fl e_S_api_KidEdit a0.Kids), .val (.int .i64 a0.List_), .sl a0.Ops.length (fl e_S_api_Op a0.Ops)]⟩]) (fit_loc hU rfl rfl ?_) ?_
        · simp only [push_cast, seval, ↓reduceIte, cast_lit, hN0, hN]
        refine W_seqK ?_
        refine W_block ?_
        obtain ⟨x6, hx6, ax6, bx6, cx6, hs0_⟩ := bE (f := e_S_api_KidEdit) tab61 (fun _ => rfl) (by decide) hs0_
        have g7 := gpart_fld (f := e_S_api_KidEdit) (off := 1) (sz := 12) tab53 (fun _ => rfl) (by decide) (by decide) hx6
        obtain ⟨y8, hy8, hs0_⟩ := bC hs0_
        refine W_regionD tab_ok [] ?_
        simp only [push_cast, Nat.reduceAdd, Nat.reduceSub, Nat.reduceMul, Nat.reduceLeDiff, Nat.reduceLT, Nat.reduceEqDiff, ↓reduceIte, reduceCtorEq, Int.reduceBEq, Int.reduceBNe, Nat.reduceBEq, Int.reduceLE, Int.reduceLT, Int.reduceEq, Int.reduceNe, Int.reduceNeg, Nat.reduceDiv, Nat.reduceMod, Nat.reducePow, cast_lit, ax6, bx6, cx6, g7, hN0, hN]
        refine (ok_r_centoref20_left hy8).then ?_
        simp only [push_cast, Nat.reduceAdd, Nat.reduceSub, Nat.reduceMul, Nat.reduceLeDiff, Nat.reduceLT, Nat.reduceEqDiff, ↓reduceIte, reduceCtorEq, Int.reduceBEq, Int.reduceBNe, Nat.reduceBEq, Int.reduceLE, Int.reduceLT, Int.reduceEq, Int.reduceNe, Int.reduceNeg, Nat.reduceDiv, Nat.reduceMod, Nat.reducePow, cast_lit, ax6, bx6, cx6, g7, hN0, hN]
        refine W_fit ⟨107, [], [(1, .val (.int .i64 a1)), (2, .val (.int .i64 y8)), (3, .ref n 0), (7, .val (.int .i64 s0_.2))]⟩ (Loc O n [some ⟨false, 53, 11, 1, [.val (.int .i64 a0.Kind), .val (.int .i64 a0.Old.Kind), .sl a0.Old.Words.length (fl (eI .u64) a0.Old.Words), .sl a0.Old.Kids.length (fl e_S_api_Tree a0.Old.Kids), .val (.int .i64 a0.New.Kind), .sl a0.New.Words.length (fl (eI .u64) a0.New.Words), .sl a0.New.Kids.length (fl e_S_api_Tree a0.New.Kids), .sl a0.Words.length (fl e_S_api_WordEdit a0.Words), .sl a0.Kids.length (fl e_S_api_KidEdit a0.Kids), .val (.int .i64 a0.List_), .sl a0.Ops.length (fl e_S_api_Op a0.Ops)]⟩]) (fit_loc hU rfl rfl ?_) ?_
        · simp only [push_cast, Nat.reduceAdd, Nat.reduceSub, Nat.reduceMul, Nat.reduceLeDiff, Nat.reduceLT, Nat.reduceEqDiff, ↓reduceIte, reduceCtorEq, Int.reduceBEq, Int.reduceBNe, Nat.reduceBEq, Int.reduceLE, Int.reduceLT, Int.reduceEq, Int.reduceNe, Int.reduceNeg, Nat.reduceDiv, Nat.reduceMod, Nat.reducePow, cast_lit, ax6, bx6, cx6, g7, hN0, hN]
        refine W_regionD tab_ok [] ?_
        simp only [push_cast, seval, ↓reduceIte, cast_lit, hN0, hN]
        have hs0_ := Option.some.inj hs0_; subst hs0_
        refine And.intro rfl (Fit2.of (fit_loc hU rfl rfl ?_) (by omega))
        simp only [push_cast, seval, ↓reduceIte, cast_lit, hN0, hN]
      · replace hs0_ := condF c9 hs0_
        refine W_exit ?_
        try simp only [gthen, gblock, ↓reduceIte, Nat.reduceEqDiff]
        have hs0_ := Option.some.inj hs0_; subst hs0_
        refine And.intro (fun h => by cases h) (And.intro rfl (Fit2.of (fit_loc hU rfl rfl ?_) (by omega)))
        simp only [push_cast, seval, ↓reduceIte, cast_lit, hN0, hN]
    try simp only [gthen, gblock, ↓reduceIte, Nat.reduceEqDiff]
    refine W_fit ⟨107, [], [(1, .val (.int .i64 a1)), (2, .val (.int .i64 z10)), (3, .ref n 0)]⟩ (Loc O n [some ⟨false, 53, 11, 1, [.val (.int .i64 a0.Kind), .val (.int .i64 a0.Old.Kind), .sl a0.Old.Words.length (fl (eI .u64) a0.Old.Words), .sl a0.Old.Kids.length (fl e_S_api_Tree a0.Old.Kids), .val (.int .i64 a0.New.Kind), .sl a0.New.Words.length (fl (eI .u64) a0.New.Words), .sl a0.New.Kids.length (fl e_S_api_Tree a0.New.Kids), .sl a0.Words.length (fl e_S_api_WordEdit a0.Words), .sl a0.Kids.length (fl e_S_api_KidEdit a0.Kids), .val (.int .i64 a0.List_), .sl a0.Ops.length (fl e_S_api_Op a0.Ops)]⟩]) (fit_loc hU rfl rfl ?_) ?_
    · simp only [push_cast, seval, ↓reduceIte, cast_lit, hN0, hN]
    refine W_seqK ?_
    refine W_sq [1, 2, 3, 8] (W_regionD tab_ok [] ?_)
    simp only [push_cast, seval, ↓reduceIte, cast_lit, hN0, hN]
    refine W_fit ⟨107, [], [(1, .val (.int .i64 a1)), (2, .val (.int .i64 z10)), (3, .ref n 0), (8, .val (.int .i64 0))]⟩ (Loc O n [some ⟨false, 53, 11, 1, [.val (.int .i64 a0.Kind), .val (.int .i64 a0.Old.Kind), .sl a0.Old.Words.length (fl (eI .u64) a0.Old.Words), .sl a0.Old.Kids.length (fl e_S_api_Tree a0.Old.Kids), .val (.int .i64 a0.New.Kind), .sl a0.New.Words.length (fl (eI .u64) a0.New.Words), .sl a0.New.Kids.length (fl e_S_api_Tree a0.New.Kids), .sl a0.Words.length (fl e_S_api_WordEdit a0.Words), .sl a0.Kids.length (fl e_S_api_KidEdit a0.Kids), .val (.int .i64 a0.List_), .sl a0.Ops.length (fl e_S_api_Op a0.Ops)]⟩]) (fit_loc hU rfl rfl ?_) ?_
    · simp only [push_cast, seval, ↓reduceIte, cast_lit, hN0, hN]
    obtain ⟨z27, hz27, h⟩ := bC h
    refine W_blockX (E' := ⟨107, [], [(2, .val (.int .i64 z27))]⟩) (O' := (Loc O n [none])) (n0 := (n + 1)) ?_ ?_
    · refine W_loopJ hz27 (fun s1_ => ⟨107, [], [(1, .val (.int .i64 a1)), (2, .val (.int .i64 s1_.1)), (3, .ref n 0), (8, .val (.int .i64 s1_.2))]⟩) (fun s1_ => (Loc O n [some ⟨false, 53, 11, 1, [.val (.int .i64 a0.Kind), .val (.int .i64 a0.Old.Kind), .sl a0.Old.Words.length (fl (eI .u64) a0.Old.Words), .sl a0.Old.Kids.length (fl e_S_api_Tree a0.Old.Kids), .val (.int .i64 a0.New.Kind), .sl a0.New.Words.length (fl (eI .u64) a0.New.Words), .sl a0.New.Kids.length (fl e_S_api_Tree a0.New.Kids), .sl a0.Words.length (fl e_S_api_WordEdit a0.Words), .sl a0.Kids.length (fl e_S_api_KidEdit a0.Kids), .val (.int .i64 a0.List_), .sl a0.Ops.length (fl e_S_api_Op a0.Ops)]⟩])) (fun z27 => JX 2 n (⟨107, [], [(2, .val (.int .i64 z27))]⟩ : Env) (Loc O n [none]) (n + 1)) ?_
      intro s1_ x1_ hs1_
      unfold b_centoref20_left_L1 at hs1_
      try dsimp only
      refine W_seqK ?_
      refine W_sq [1, 2, 3, 8, 65] (W_regionD tab_ok [none, none] ?_)
      simp only [push_cast, seval, ↓reduceIte, cast_lit, hN0, hN]
      repeat (with_reducible refine And.intro (by first | (intro h0; simp only [h0, and_self]; done) | (intro h0; simp only [h0, Bool.not_false, Bool.not_true, Bool.true_and, Bool.and_true, true_and, and_true, and_self, imp_self, implies_true, bne_iff_ne, ne_eq, beq_iff_eq]; done) | (intros; simp_all; done) | exact True.intro) ?_)
      refine W_cond (t := (cond (decide (s1_.2 < (a0.Ops.length : Int))) (decide (0 ≤ s1_.1)) false)) rfl (fun c26 => ?_) (fun c26 => ?_)
      · replace hs1_ := condT c26 hs1_
        refine W_skip ?_
        try simp only [gthen, gblock]
        refine W_fit ⟨107, [], [(1, .val (.int .i64 a1)), (2, .val (.int .i64 s1_.1)), (3, .ref n 0), (8, .val (.int .i64 s1_.2))]⟩ (Loc O n [some ⟨false, 53, 11, 1, [.val (.int .i64 a0.Kind), .val (.int .i64 a0.Old.Kind), .sl a0.Old.Words.length (fl (eI .u64) a0.Old.Words), .sl a0.Old.Kids.length (fl e_S_api_Tree a0.Old.Kids), .val (.int .i64 a0.New.Kind), .sl a0.New.Words.length (fl (eI .u64) a0.New.Words), .sl a0.New.Kids.length (fl e_S_api_Tree a0.New.Kids), .sl a0.Words.length (fl e_S_api_WordEdit a0.Words), .sl a0.Kids.length (fl e_S_api_KidEdit a0.Kids), .val (.int .i64 a0.List_), .sl a0.Ops.length (fl e_S_api_Op a0.Ops)]⟩]) (fit_loc hU rfl rfl ?_) ?_
        · simp only [push_cast, seval, ↓reduceIte, cast_lit, hN0, hN]
        obtain ⟨z11, hz11, hs1_⟩ := bC hs1_
        refine W_seqN (E' := ⟨107, [], [(1, .val (.int .i64 a1)), (2, .val (.int .i64 z11)), (3, .ref n 0), (8, .val (.int .i64 s1_.2))]⟩) (O' := (Loc O n [some ⟨false, 53, 11, 1, [.val (.int .i64 a0.Kind), .val (.int .i64 a0.Old.Kind), .sl a0.Old.Words.length (fl (eI .u64) a0.Old.Words), .sl a0.Old.Kids.length (fl e_S_api_Tree a0.Old.Kids), .val (.int .i64 a0.New.Kind), .sl a0.New.Words.length (fl (eI .u64) a0.New.Words), .sl a0.New.Kids.length (fl e_S_api_Tree a0.New.Kids), .sl a0.Words.length (fl e_S_api_WordEdit a0.Words), .sl a0.Kids.length (fl e_S_api_KidEdit a0.Kids), .val (.int .i64 a0.List_), .sl a0.Ops.length (fl e_S_api_Op a0.Ops)]⟩])) (n0 := (n + 1)) ?_ ?_
        · refine W_block ?_
          refine W_seqK ?_
          refine W_sq [1, 2, 3, 8, 9] (W_regionD tab_ok [] ?_)
          simp only [push_cast, seval, ↓reduceIte, cast_lit, hN0, hN]
          refine W_fit ⟨107, [], [(1, .val (.int .i64 a1)), (2, .val (.int .i64 s1_.1)), (3, .ref n 0), (8, .val (.int .i64 s1_.2)), (9, .val (.int .i64 0))]⟩ (Loc O n [some ⟨false, 53, 11, 1, [.val (.int .i64 a0.Kind), .val (.int .i64 a0.Old.Kind), .sl a0.Old.Words.length (fl (eI .u64) a0.Old.Words), .sl a0.Old.Kids.length (fl e_S_api_Tree a0.Old.Kids), .val (.int .i64 a0.New.Kind), .sl a0.New.Words.length (fl (eI .u64) a0.New.Words), .sl a0.New.Kids.length (fl e_S_api_Tree a0.New.Kids), .sl a0.Words.length (fl e_S_api_WordEdit a0.Words), .sl a0.Kids.length (fl e_S_api_KidEdit a0.Kids), .val (.int .i64 a0.List_), .sl a0.Ops.length (fl e_S_api_Op a0.Ops)]⟩]) (fit_loc hU rfl rfl ?_) ?_
          · simp only [push_cast, seval, ↓reduceIte, cast_lit, hN0, hN]
          obtain ⟨z21, hz21, hz11⟩ := bC hz11
          refine W_blockX (E' := ⟨107, [], [(1, .val (.int .i64 a1)), (2, .val (.int .i64 z21)), (3, .ref n 0), (8, .val (.int .i64 s1_.2))]⟩) (O' := (Loc O n [some ⟨false, 53, 11, 1, [.val (.int .i64 a0.Kind), .val (.int .i64 a0.Old.Kind), .sl a0.Old.Words.length (fl (eI .u64) a0.Old.Words), .sl a0.Old.Kids.length (fl e_S_api_Tree a0.Old.Kids), .val (.int .i64 a0.New.Kind), .sl a0.New.Words.length (fl (eI .u64) a0.New.Words), .sl a0.New.Kids.length (fl e_S_api_Tree a0.New.Kids), .sl a0.Words.length (fl e_S_api_WordEdit a0.Words), .sl a0.Kids.length (fl e_S_api_KidEdit a0.Kids), .val (.int .i64 a0.List_), .sl a0.Ops.length (fl e_S_api_Op a0.Ops)]⟩])) (n0 := (n + 1)) ?_ ?_
          · refine W_loopJ hz21 (fun s2_ => ⟨107, [], [(1, .val (.int .i64 a1)), (2, .val (.int .i64 s2_.1)), (3, .ref n 0), (8, .val (.int .i64 s1_.2)), (9, .val (.int .i64 s2_.2))]⟩) (fun s2_ => (Loc O n [some ⟨false, 53, 11, 1, [.val (.int .i64 a0.Kind), .val (.int .i64 a0.Old.Kind), .sl a0.Old.Words.length (fl (eI .u64) a0.Old.Words), .sl a0.Old.Kids.length (fl e_S_api_Tree a0.Old.Kids), .val (.int .i64 a0.New.Kind), .sl a0.New.Words.length (fl (eI .u64) a0.New.Words), .sl a0.New.Kids.length (fl e_S_api_Tree a0.New.Kids), .sl a0.Words.length (fl e_S_api_WordEdit a0.Words), .sl a0.Kids.length (fl e_S_api_KidEdit a0.Kids), .val (.int .i64 a0.List_), .sl a0.Ops.length (fl e_S_api_Op a0.Ops)]⟩])) (fun z21 => JX 4 n (⟨107, [], [(1, .val (.int .i64 a1)), (2, .val (.int .i64 z21)), (3, .ref n 0), (8, .val (.int .i64 s1_.2))]⟩ : Env) (Loc O n [some ⟨false, 53, 11, 1, [.val (.int .i64 a0.Kind), .val (.int .i64 a0.Old.Kind), .sl a0.Old.Words.length (fl (eI .u64) a0.Old.Words), .sl a0.Old.Kids.length (fl e_S_api_Tree a0.Old.Kids), .val (.int .i64 a0.New.Kind), .sl a0.New.Words.length (fl (eI .u64) a0.New.Words), .sl a0.New.Kids.length (fl e_S_api_Tree a0.New.Kids), .sl a0.Words.length (fl e_S_api_WordEdit a0.Words), .sl a0.Kids.length (fl e_S_api_KidEdit a0.Kids), .val (.int .i64 a0.List_), .sl a0.Ops.length (fl e_S_api_Op a0.Ops)]⟩]) (n + 1)) ?_
            intro s2_ x2_ hs2_
            unfold b_centoref20_left_L2 at hs2_
            try dsimp only
            refine W_seqK ?_
            obtain ⟨x14, hx14, ax14, bx14, cx14, hs2_⟩ := bE (f := e_S_api_Op) tab63 (fun _ => rfl) (by decide) hs2_
            have g15 := gpart_fld (f := e_S_api_Op) (off := 2) (sz := 14) tab23 (fun _ => rfl) (by decide) (by decide) hx14
            refine W_sq [1, 2, 3, 8, 9, 80] (W_regionD tab_ok [none, none] ?_)
            simp only [push_cast, Nat.reduceAdd, Nat.reduceSub, Nat.reduceMul, Nat.reduceLeDiff, Nat.reduceLT, Nat.reduceEqDiff, ↓reduceIte, reduceCtorEq, Int.reduceBEq, Int.reduceBNe, Nat.reduceBEq, Int.reduceLE, Int.reduceLT, Int.reduceEq, Int.reduceNe, Int.reduceNeg, Nat.reduceDiv, Nat.reduceMod, Nat.reducePow, cast_lit, ax14, bx14, cx14, g15, hN0, hN]
            repeat (with_reducible refine And.intro (by first | (intro h0; simp only [h0, and_self]; done) | (intro h0; simp only [h0, Bool.not_false, Bool.not_true, Bool.true_and, Bool.and_true, true_and, and_true, and_self, imp_self, implies_true, bne_iff_ne, ne_eq, beq_iff_eq]; done) | (intros; simp_all; done) | exact True.intro) ?_)
            refine W_cond (t := (cond (decide (s2_.2 < (x14.L.length : Int))) (decide (0 ≤ s2_.1)) false)) rfl (fun c20 => ?_) (fun c20 => ?_)
            · replace hs2_ := condT c20 hs2_
              refine W_skip ?_
              try simp only [gthen, gblock]
              refine W_fit ⟨107, [], [(1, .val (.int .i64 a1)), (2, .val (.int .i64 s2_.1)), (3, .ref n 0), (8, .val (.int .i64 s1_.2)), (9, .val (.int .i64 s2_.2))]⟩ (Loc O n [some ⟨false, 53, 11, 1, [.val (.int .i64 a0.Kind), .val (.int .i64 a0.Old.Kind), .sl a0.Old.Words.length (fl (eI .u64) a0.Old.Words), .sl a0.Old.Kids.length (fl e_S_api_Tree a0.Old.Kids), .val (.int .i64 a0.New.Kind), .sl a0.New.Words.length (fl (eI .u64) a0.New.Words), .sl a0.New.Kids.length (fl e_S_api_Tree a0.New.Kids), .sl a0.Words.length (fl e_S_api_WordEdit a0.Words), .sl a0.Kids.length (fl e_S_api_KidEdit a0.Kids), .val (.int .i64 a0.List_), .sl a0.Ops.length (fl e_S_api_Op a0.Ops)]⟩]) (fit_loc hU rfl rfl ?_) ?_
              · simp only [push_cast, seval, ↓reduceIte, cast_lit, hN0, hN]
              refine W_seqK ?_
              refine W_block ?_
              obtain ⟨x16, hx16, ax16, bx16, cx16, hs2_⟩ := bE (f := e_S_api_Op) tab63 (fun _ => rfl) (by decide) hs2_
              have g17 := gpart_fld (f := e_S_api_Op) (off := 2) (sz := 14) tab23 (fun _ => rfl) (by decide) (by decide) hx16
              obtain ⟨x18, hx18, ax18, bx18, cx18, hs2_⟩ := bE (f := e_S_api_Tree) tab25 (fun _ => rfl) (by decide) hs2_
              obtain ⟨y19, hy19, hs2_⟩ := bC hs2_
              refine W_regionD tab_ok [] ?_
              simp only [push_cast, Nat.reduceAdd, Nat.reduceSub, Nat.reduceMul, Nat.reduceLeDiff, Nat.reduceLT, Nat.reduceEqDiff, ↓reduceIte, reduceCtorEq, Int.reduceBEq, Int.reduceBNe, Nat.reduceBEq, Int.reduceLE, Int.reduceLT, Int.reduceEq, Int.reduceNe, Int.reduceNeg, Nat.reduceDiv, Nat.reduceMod, Nat.reducePow, cast_lit, ax16, bx16, cx16, g17, ax18, bx18, cx18, hN0, hN]
              refine (ok_centoref07_Shallow hy19).then ?_
              simp only [push_cast, Nat.reduceAdd, Nat.reduceSub, Nat.reduceMul, Nat.reduceLeDiff, Nat.reduceLT, Nat.reduceEqDiff, ↓reduceIte, reduceCtorEq, Int.reduceBEq, Int.reduceBNe, Nat.reduceBEq, Int.reduceLE, Int.reduceLT, Int.reduceEq, Int.reduceNe, Int.reduceNeg, Nat.reduceDiv, Nat.reduceMod, Nat.reducePow, cast_lit, ax16, bx16, cx16, g17, ax18, bx18, cx18, hN0, hN]
              refine W_fit ⟨107, [], [(1, .val (.int .i64 a1)), (2, .val (.int .i64 y19)), (3, .ref n 0), (8, .val (.int .i64 s1_.2)), (9, .val (.int .i64 s2_.2))]⟩ (Loc O n [some ⟨false, 53, 11, 1, [.val (.int .i64 a0.Kind), .val (.int .i64 a0.Old.Kind), .sl a0.Old.Words.length (fl (eI .u64) a0.Old.Words), .sl a0.Old.Kids.length (fl e_S_api_Tree a0.Old.Kids), .val (.int .i64 a0.New.Kind), .sl a0.New.Words.length (fl (eI .u64) a0.New.Words), .sl a0.New.Kids.length (fl e_S_api_Tree a0.New.Kids), .sl a0.Words.length (fl e_S_api_WordEdit a0.Words), .sl a0.Kids.length (fl e_S_api_KidEdit a0.Kids), .val (.int .i64 a0.List_), .sl a0.Ops.length (fl e_S_api_Op a0.Ops)]⟩]) (fit_loc hU rfl rfl ?_) ?_
              · simp only [push_cast, Nat.reduceAdd, Nat.reduceSub, Nat.reduceMul, Nat.reduceLeDiff, Nat.reduceLT, Nat.reduceEqDiff, ↓reduceIte, reduceCtorEq, Int.reduceBEq, Int.reduceBNe, Nat.reduceBEq, Int.reduceLE, Int.reduceLT, Int.reduceEq, Int.reduceNe, Int.reduceNeg, Nat.reduceDiv, Nat.reduceMod, Nat.reducePow, cast_lit, ax16, bx16, cx16, g17, ax18, bx18, cx18, hN0, hN]
              refine W_regionD tab_ok [] ?_
              simp only [push_cast, seval, ↓reduceIte, cast_lit, hN0, hN]
              have hs2_ := Option.some.inj hs2_; subst hs2_
              refine And.intro rfl (Fit2.of (fit_loc hU rfl rfl ?_) (by omega))
              simp only [push_cast, seval, ↓reduceIte, cast_lit, hN0, hN]
            · replace hs2_ := condF c20 hs2_
              refine W_exit ?_
              try simp only [gthen, gblock, ↓reduceIte, Nat.reduceEqDiff]
              have hs2_ := Option.some.inj hs2_; subst hs2_
              refine And.intro (fun h => by cases h) (And.intro rfl (Fit2.of (fit_loc hU rfl rfl ?_) (by omega)))
              simp only [push_cast, seval, ↓reduceIte, cast_lit, hN0, hN]
          try simp only [gthen, gblock, ↓reduceIte, Nat.reduceEqDiff]
          refine W_fit ⟨107, [], [(1, .val (.int .i64 a1)), (2, .val (.int .i64 z21)), (3, .ref n 0), (8, .val (.int .i64 s1_.2))]⟩ (Loc O n [some ⟨false, 53, 11, 1, [.val (.int .i64 a0.Kind), .val (.int .i64 a0.Old.Kind), .sl a0.Old.Words.length (fl (eI .u64) a0.Old.Words), .sl a0.Old.Kids.length (fl e_S_api_Tree a0.Old.Kids), .val (.int .i64 a0.New.Kind), .sl a0.New.Words.length (fl (eI .u64) a0.New.Words), .sl a0.New.Kids.length (fl e_S_api_Tree a0.New.Kids), .sl a0.Words.length (fl e_S_api_WordEdit a0.Words), .sl a0.Kids.length (fl e_S_api_KidEdit a0.Kids), .val (.int .i64 a0.List_), .sl a0.Ops.length (fl e_S_api_Op a0.Ops)]⟩]) (fit_loc hU rfl rfl ?_) ?_
          · simp only [push_cast, seval, ↓reduceIte, cast_lit, hN0, hN]
          refine W_sq [1, 2, 3, 8, 95] (W_regionD tab_ok [] ?_)
          simp only [push_cast, seval, ↓reduceIte, cast_lit, hN0, hN]
          refine W_cond (t := (decide (0 ≤ z21))) rfl (fun c25 => ?_) (fun c25 => ?_)
          · replace hz11 := condT c25 hz11
            obtain ⟨x22, hx22, ax22, bx22, cx22, hz11⟩ := bE (f := e_S_api_Op) tab63 (fun _ => rfl) (by decide) hz11
            have g23 := gpart_fld (f := e_S_api_Op) (off := 3) (sz := 14) tab53 (fun _ => rfl) (by decide) (by decide) hx22
            obtain ⟨y24, hy24, hz11⟩ := bC hz11
            refine W_regionD tab_ok [] ?_
            simp only [push_cast, Nat.reduceAdd, Nat.reduceSub, Nat.reduceMul, Nat.reduceLeDiff, Nat.reduceLT, Nat.reduceEqDiff, ↓reduceIte, reduceCtorEq, Int.reduceBEq, Int.reduceBNe, Nat.reduceBEq, Int.reduceLE, Int.reduceLT, Int.reduceEq, Int.reduceNe, Int.reduceNeg, Nat.reduceDiv, Nat.reduceMod, Nat.reducePow, cast_lit, ax22, bx22, cx22, g23, hN0, hN]
            refine (ok_r_centoref20_left hy24).then ?_
            simp only [push_cast, Nat.reduceAdd, Nat.reduceSub, Nat.reduceMul, Nat.reduceLeDiff, Nat.reduceLT, Nat.reduceEqDiff, ↓reduceIte, reduceCtorEq, Int.reduceBEq, Int.reduceBNe, Nat.reduceBEq, Int.reduceLE, Int.reduceLT, Int.reduceEq, Int.reduceNe, Int.reduceNeg, Nat.reduceDiv, Nat.reduceMod, Nat.reducePow, cast_lit, ax22, bx22, cx22, g23, hN0, hN]
            have hz11 := Option.some.inj hz11; subst hz11
            refine And.intro rfl (Fit2.of (fit_loc hU rfl rfl ?_) (by omega))
            simp only [push_cast, Nat.reduceAdd, Nat.reduceSub, Nat.reduceMul, Nat.reduceLeDiff, Nat.reduceLT, Nat.reduceEqDiff, ↓reduceIte, reduceCtorEq, Int.reduceBEq, Int.reduceBNe, Nat.reduceBEq, Int.reduceLE, Int.reduceLT, Int.reduceEq, Int.reduceNe, Int.reduceNeg, Nat.reduceDiv, Nat.reduceMod, Nat.reducePow, cast_lit, ax22, bx22, cx22, g23, hN0, hN]
          · replace hz11 := condF c25 hz11
            refine W_skip ?_
            try simp only [gthen, gblock]
            have hz11 := Option.some.inj hz11; subst hz11
            refine And.intro rfl (Fit2.of (fit_loc hU rfl rfl ?_) (by omega))
            simp only [push_cast, seval, ↓reduceIte, cast_lit, hN0, hN]
        refine W_regionD tab_ok [] ?_
        simp only [push_cast, seval, ↓reduceIte, cast_lit, hN0, hN]
        have hs1_ := Option.some.inj hs1_; subst hs1_
        refine And.intro rfl (Fit2.of (fit_loc hU rfl rfl ?_) (by omega))
        simp only [push_cast, seval, ↓reduceIte, cast_lit, hN0, hN]
      · replace hs1_ := condF c26 hs1_
        refine W_exit ?_
        try simp only [gthen, gblock, ↓reduceIte, Nat.reduceEqDiff]
        have hs1_ := Option.some.inj hs1_; subst hs1_
        refine And.intro (fun h => by cases h) (And.intro rfl (Fit2.of (fit_loc hU rfl rfl ?_) (by omega)))
        simp only [push_cast, seval, ↓reduceIte, cast_lit, hN0, hN]
    try simp only [gthen, gblock, ↓reduceIte, Nat.reduceEqDiff]
    refine W_fit ⟨107, [], [(2, .val (.int .i64 z27))]⟩ (Loc O n [none]) (fit_loc hU rfl rfl ?_) ?_
    · simp only [push_cast, seval, ↓reduceIte, cast_lit, hN0, hN]
    refine W_sq [6] (W_regionD tab_ok [] ?_)
    simp only [push_cast, seval, ↓reduceIte, cast_lit, hN0, hN]
    refine W_ret ?_
    try simp only [gthen, gblock]
    have h := Option.some.inj h; subst h
    refine fin_loc (.inr rfl) hU [.val (.int .i64 z27)] (by omega) ?_
    simp only [push_cast, seval, ↓reduceIte, cast_lit, Try.results71, hN0, hN]

theorem lv_centoref20_left_ok : ∀ k, (∀ {a0 : S_api_Edit} {a1 : Int} {a2 : Int} {r : Int} {O : Objs} {n : Nat}, (lv_centoref20_left k) a0 a1 a2 = some r → GTo Try.prog 71 [.agg [.val (.int .i64 a0.Kind), .val (.int .i64 a0.Old.Kind), .sl a0.Old.Words.length (fl (eI .u64) a0.Old.Words), .sl a0.Old.Kids.length (fl e_S_api_Tree a0.Old.Kids), .val (.int .i64 a0.New.Kind), .sl a0.New.Words.length (fl (eI .u64) a0.New.Words), .sl a0.New.Kids.length (fl e_S_api_Tree a0.New.Kids), .sl a0.Words.length (fl e_S_api_WordEdit a0.Words), .sl a0.Kids.length (fl e_S_api_KidEdit a0.Kids), .val (.int .i64 a0.List_), .sl a0.Ops.length (fl e_S_api_Op a0.Ops)], .val (.int .i64 a1), .val (.int .i64 a2)] O n (.val (.int .i64 r)) O n) := fun k => by
  induction k with
  | zero => exact @fun a0 a1 a2 r O n h => (nomatch (show (none : Option _) = some _ from h))
  | succ k ih => exact @fun a0 a1 a2 r O n h => okb_centoref20_left (ih)  h

theorem ok_centoref20_left {a0 : S_api_Edit} {a1 : Int} {a2 : Int} {r : Int} {O : Objs} {n : Nat} (h : m_centoref20_left a0 a1 a2 = some r) : GTo Try.prog 71 [.agg [.val (.int .i64 a0.Kind), .val (.int .i64 a0.Old.Kind), .sl a0.Old.Words.length (fl (eI .u64) a0.Old.Words), .sl a0.Old.Kids.length (fl e_S_api_Tree a0.Old.Kids), .val (.int .i64 a0.New.Kind), .sl a0.New.Words.length (fl (eI .u64) a0.New.Words), .sl a0.New.Kids.length (fl e_S_api_Tree a0.New.Kids), .sl a0.Words.length (fl e_S_api_WordEdit a0.Words), .sl a0.Kids.length (fl e_S_api_KidEdit a0.Kids), .val (.int .i64 a0.List_), .sl a0.Ops.length (fl e_S_api_Op a0.Ops)], .val (.int .i64 a1), .val (.int .i64 a2)] O n (.val (.int .i64 r)) O n := by
  obtain ⟨k, hk⟩ := lim_some h
  exact (lv_centoref20_left_ok k)  hk

theorem ok_centoref20_Few {a0 : S_api_Edit} {r : Bool} {O : Objs} {n : Nat} (h : m_centoref20_Few a0 = some r) : GTo Try.prog 40 [.agg [.val (.int .i64 a0.Kind), .val (.int .i64 a0.Old.Kind), .sl a0.Old.Words.length (fl (eI .u64) a0.Old.Words), .sl a0.Old.Kids.length (fl e_S_api_Tree a0.Old.Kids), .val (.int .i64 a0.New.Kind), .sl a0.New.Words.length (fl (eI .u64) a0.New.Words), .sl a0.New.Kids.length (fl e_S_api_Tree a0.New.Kids), .sl a0.Words.length (fl e_S_api_WordEdit a0.Words), .sl a0.Kids.length (fl e_S_api_KidEdit a0.Kids), .val (.int .i64 a0.List_), .sl a0.Ops.length (fl e_S_api_Op a0.Ops)]] O n (.val (.bool r)) O n := by
  unfold m_centoref20_Few at h
  refine fn_of tab_ok Try.call40 Try.func40 rfl (Nat.le_of_ble_eq_true rfl) (Nat.le_refl _) fun hU => ?_
  have hN0 : O n = none := hU.fresh _ (Nat.le_refl _)
  have hN : ∀ k, O (n + k) = none := fun k => hU.fresh _ (Nat.le_add_right _ _)
  show W _ _ _ _ ⟨6, [], [(0, .agg [.val (.int .i64 a0.Kind), .val (.int .i64 a0.Old.Kind), .sl a0.Old.Words.length (fl (eI .u64) a0.Old.Words), .sl a0.Old.Kids.length (fl e_S_api_Tree a0.Old.Kids), .val (.int .i64 a0.New.Kind), .sl a0.New.Words.length (fl (eI .u64) a0.New.Words), .sl a0.New.Kids.length (fl e_S_api_Tree a0.New.Kids), .sl a0.Words.length (fl e_S_api_WordEdit a0.Words), .sl a0.Kids.length (fl e_S_api_KidEdit a0.Kids), .val (.int .i64 a0.List_), .sl a0.Ops.length (fl e_S_api_Op a0.Ops)])]⟩ (Loc O n []) _
  refine W_sq [1] (W_regionD tab_ok [] ?_)
  simp only [push_cast, seval, ↓reduceIte, cast_lit, hN0, hN]
  refine W_seqK ?_
  obtain ⟨y2, hy2, h⟩ := bC h
  refine W_regionD tab_ok [] ?_
  simp only [push_cast, seval, ↓reduceIte, cast_lit, hN0, hN]
  refine (ok_centoref20_left hy2).then ?_
  simp only [push_cast, seval, ↓reduceIte, cast_lit, hN0, hN]
  refine W_fit ⟨6, [], [(2, .val (.bool (decide (0 ≤ y2))))]⟩ (Loc O n [none]) (fit_loc hU rfl rfl ?_) ?_
  · simp only [push_cast, seval, ↓reduceIte, cast_lit, hN0, hN]
  refine W_ret ?_
  try simp only [gthen, gblock]
  have h := Option.some.inj h; subst h
  refine fin_loc (.inr rfl) hU [.val (.bool (decide (0 ≤ y2)))] (by omega) ?_
  simp only [push_cast, seval, ↓reduceIte, cast_lit, Try.results40, hN0, hN]

theorem ok_centolaw20_awake_1 {a0 : Int} {r : S_api_Tree} {O : Objs} {n : Nat} (h : m_centolaw20_awake_1 a0 = some r) : GTo Try.prog 72 [.val (.int .u64 a0)] O n (.agg [.val (.int .i64 r.Kind), .sl r.Words.length (fl (eI .u64) r.Words), .sl r.Kids.length (fl e_S_api_Tree r.Kids)]) O n := by
  unfold m_centolaw20_awake_1 at h
  refine fn_of tab_ok Try.call72 Try.func72 rfl (Nat.le_of_ble_eq_true rfl) (Nat.le_refl _) fun hU => ?_
  have hN0 : O n = none := hU.fresh _ (Nat.le_refl _)
  have hN : ∀ k, O (n + k) = none := fun k => hU.fresh _ (Nat.le_add_right _ _)
  show W _ _ _ _ ⟨6, [], [(0, .val (.int .u64 a0))]⟩ (Loc O n []) _
  refine W_sq [0, 2] (W_regionD tab_ok [] ?_)
  simp only [push_cast, seval, ↓reduceIte, cast_lit, hN0, hN]
  refine W_seqK ?_
  refine W_regionD tab_ok [] ?_
  simp only [push_cast, seval, ↓reduceIte, cast_lit, hN0, hN]
  refine W_fit ⟨6, [], [(2, .ref n 0)]⟩ (Loc O n [some ⟨false, 25, 3, 1, [.val (.int .i64 10), .row (n + 1) ([a0] : List Int).length, .val (.slice none 0 0)]⟩, some ⟨true, 71, 1, ([a0] : List Int).length, fl (eI .u64) ([a0] : List Int)⟩]) (fit_loc hU rfl rfl ?_) ?_
  · simp only [push_cast, seval, ↓reduceIte, cast_lit, hN0, hN]
  refine W_ret ?_
  try simp only [gthen, gblock]
  have h := Option.some.inj h; subst h
  refine fin_loc (.inr rfl) hU [.agg [.val (.int .i64 10), .row (n + 1) ([a0] : List Int).length, .val (.slice none 0 0)]] (by omega) ?_
  simp only [push_cast, seval, ↓reduceIte, cast_lit, Try.results72, hN0, hN]

theorem ok_edit_through {a0 : S_api_Op} {r : Int} {O : Objs} {n : Nat} (h : m_edit_through a0 = some r) : GTo Try.prog 73 [.agg [.val (.int .i64 a0.Kind), .val (.int .i64 a0.N), .sl a0.L.length (fl e_S_api_Tree a0.L), .val (.int .i64 a0.E.Kind), .val (.int .i64 a0.E.Old.Kind), .sl a0.E.Old.Words.length (fl (eI .u64) a0.E.Old.Words), .sl a0.E.Old.Kids.length (fl e_S_api_Tree a0.E.Old.Kids), .val (.int .i64 a0.E.New.Kind), .sl a0.E.New.Words.length (fl (eI .u64) a0.E.New.Words), .sl a0.E.New.Kids.length (fl e_S_api_Tree a0.E.New.Kids), .sl a0.E.Words.length (fl e_S_api_WordEdit a0.E.Words), .sl a0.E.Kids.length (fl e_S_api_KidEdit a0.E.Kids), .val (.int .i64 a0.E.List_), .sl a0.E.Ops.length (fl e_S_api_Op a0.E.Ops)]] O n (.val (.int .i64 r)) O n := by
  unfold m_edit_through at h
  refine fn_of tab_ok Try.call73 Try.func73 rfl (Nat.le_of_ble_eq_true rfl) (Nat.le_refl _) fun hU => ?_
  have hN0 : O n = none := hU.fresh _ (Nat.le_refl _)
  have hN : ∀ k, O (n + k) = none := fun k => hU.fresh _ (Nat.le_add_right _ _)
  show W _ _ _ _ ⟨19, [], [(0, .agg [.val (.int .i64 a0.Kind), .val (.int .i64 a0.N), .sl a0.L.length (fl e_S_api_Tree a0.L), .val (.int .i64 a0.E.Kind), .val (.int .i64 a0.E.Old.Kind), .sl a0.E.Old.Words.length (fl (eI .u64) a0.E.Old.Words), .sl a0.E.Old.Kids.length (fl e_S_api_Tree a0.E.Old.Kids), .val (.int .i64 a0.E.New.Kind), .sl a0.E.New.Words.length (fl (eI .u64) a0.E.New.Words), .sl a0.E.New.Kids.length (fl e_S_api_Tree a0.E.New.Kids), .sl a0.E.Words.length (fl e_S_api_WordEdit a0.E.Words), .sl a0.E.Kids.length (fl e_S_api_KidEdit a0.E.Kids), .val (.int .i64 a0.E.List_), .sl a0.E.Ops.length (fl e_S_api_Op a0.E.Ops)])]⟩ (Loc O n []) _
  refine W_sq [1] (W_regionD tab_ok [] ?_)
  simp only [push_cast, seval, ↓reduceIte, cast_lit, hN0, hN]
  refine W_seqK ?_
  refine W_sq [1, 4] (W_regionD tab_ok [] ?_)
  simp only [push_cast, seval, ↓reduceIte, cast_lit, hN0, hN]
  refine W_block ?_
  refine W_sq [1, 4, 5] (W_regionD tab_ok [] ?_)
  simp only [push_cast, seval, ↓reduceIte, cast_lit, hN0, hN]
  refine W_cond (t := (a0.Kind == 0)) rfl (fun c5 => ?_) (fun c5 => ?_)
  · replace h := condT c5 h
    refine W_sq [2] (W_regionD tab_ok [] ?_)
    simp only [push_cast, seval, ↓reduceIte, cast_lit, hN0, hN]
    refine W_ret ?_
    try simp only [gthen, gblock]
    have h := Option.some.inj h; subst h
    refine fin_loc (.inr rfl) hU [.val (.int .i64 (if 1048576 < (if a0.N < 0 then 0 else a0.N) then 1048576 else (if a0.N < 0 then 0 else a0.N)))] (by omega) ?_
    simp only [push_cast, seval, ↓reduceIte, cast_lit, Try.results73, hN0, hN]
  · replace h := condF c5 h
    obtain ⟨z1, hz1, h⟩ := bC h
    refine W_seqN (E' := ⟨19, [], [(1, .ref n 0), (4, .val (.int .i64 a0.Kind)), (11, .val (.bool z1))]⟩) (O' := (Loc O n [some ⟨false, 63, 14, 1, [.val (.int .i64 a0.Kind), .val (.int .i64 a0.N), .sl a0.L.length (fl e_S_api_Tree a0.L), .val (.int .i64 a0.E.Kind), .val (.int .i64 a0.E.Old.Kind), .sl a0.E.Old.Words.length (fl (eI .u64) a0.E.Old.Words), .sl a0.E.Old.Kids.length (fl e_S_api_Tree a0.E.Old.Kids), .val (.int .i64 a0.E.New.Kind), .sl a0.E.New.Words.length (fl (eI .u64) a0.E.New.Words), .sl a0.E.New.Kids.length (fl e_S_api_Tree a0.E.New.Kids), .sl a0.E.Words.length (fl e_S_api_WordEdit a0.E.Words), .sl a0.E.Kids.length (fl e_S_api_KidEdit a0.E.Kids), .val (.int .i64 a0.E.List_), .sl a0.E.Ops.length (fl e_S_api_Op a0.E.Ops)]⟩])) (n0 := (n + 1)) ?_ ?_
    · refine W_sq [1, 4, 11] (W_regionD tab_ok [] ?_)
      simp only [push_cast, seval, ↓reduceIte, cast_lit, hN0, hN]
      refine W_cond (t := (a0.Kind == 1)) rfl (fun c2 => ?_) (fun c2 => ?_)
      · replace hz1 := condT c2 hz1
        refine W_skip ?_
        try simp only [gthen, gblock]
        have hz1 := Option.some.inj hz1; subst hz1
        refine And.intro rfl (Fit2.of (fit_loc hU rfl rfl ?_) (by omega))
        simp only [push_cast, seval, ↓reduceIte, cast_lit, hN0, hN]
      · replace hz1 := condF c2 hz1
        refine W_regionD tab_ok [] ?_
        simp only [push_cast, seval, ↓reduceIte, cast_lit, hN0, hN]
        have hz1 := Option.some.inj hz1; subst hz1
        refine And.intro rfl (Fit2.of (fit_loc hU rfl rfl ?_) (by omega))
        simp only [push_cast, seval, ↓reduceIte, cast_lit, hN0, hN]
    refine W_cond (t := z1) rfl (fun c4 => ?_) (fun c4 => ?_)
    · replace h := condT c4 h
      refine W_sq [2] (W_regionD tab_ok [] ?_)
      simp only [push_cast, seval, ↓reduceIte, cast_lit, hN0, hN]
      refine W_ret ?_
      try simp only [gthen, gblock]
      have h := Option.some.inj h; subst h
      refine fin_loc (.inr rfl) hU [.val (.int .i64 (a0.L.length : Int))] (by omega) ?_
      simp only [push_cast, seval, ↓reduceIte, cast_lit, Try.results73, hN0, hN]
    · replace h := condF c4 h
      refine W_sq [17] (W_regionD tab_ok [] ?_)
      simp only [push_cast, seval, ↓reduceIte, cast_lit, hN0, hN]
      refine W_cond (t := (a0.Kind == 3)) rfl (fun c3 => ?_) (fun c3 => ?_)
      · replace h := condT c3 h
        refine W_sq [2] (W_regionD tab_ok [] ?_)
        simp only [push_cast, seval, ↓reduceIte, cast_lit, hN0, hN]
        refine W_ret ?_
        try simp only [gthen, gblock]
        have h := Option.some.inj h; subst h
        refine fin_loc (.inr rfl) hU [.val (.int .i64 1)] (by omega) ?_
        simp only [push_cast, seval, ↓reduceIte, cast_lit, Try.results73, hN0, hN]
      · replace h := condF c3 h
        refine W_skip ?_
        try simp only [gthen, gblock]
        refine W_fit ⟨19, [], []⟩ (Loc O n [none]) (fit_loc hU rfl rfl ?_) ?_
        · simp only [push_cast, seval, ↓reduceIte, cast_lit, hN0, hN]
        refine W_sq [2] (W_regionD tab_ok [] ?_)
        simp only [push_cast, seval, ↓reduceIte, cast_lit, hN0, hN]
        refine W_ret ?_
        try simp only [gthen, gblock]
        have h := Option.some.inj h; subst h
        refine fin_loc (.inr rfl) hU [.val (.int .i64 0)] (by omega) ?_
        simp only [push_cast, seval, ↓reduceIte, cast_lit, Try.results73, hN0, hN]

theorem ok_edit_Lengths {a0 : S_api_Edit} {r : (Int × Int)} {O : Objs} {n : Nat} (h : m_edit_Lengths a0 = some r) : GTo Try.prog 42 [.agg [.val (.int .i64 a0.Kind), .val (.int .i64 a0.Old.Kind), .sl a0.Old.Words.length (fl (eI .u64) a0.Old.Words), .sl a0.Old.Kids.length (fl e_S_api_Tree a0.Old.Kids), .val (.int .i64 a0.New.Kind), .sl a0.New.Words.length (fl (eI .u64) a0.New.Words), .sl a0.New.Kids.length (fl e_S_api_Tree a0.New.Kids), .sl a0.Words.length (fl e_S_api_WordEdit a0.Words), .sl a0.Kids.length (fl e_S_api_KidEdit a0.Kids), .val (.int .i64 a0.List_), .sl a0.Ops.length (fl e_S_api_Op a0.Ops)]] O n (.tup [.val (.int .i64 r.1), .val (.int .i64 r.2)]) O n := by
  unfold m_edit_Lengths at h
  refine fn_of tab_ok Try.call42 Try.func42 rfl (Nat.le_of_ble_eq_true rfl) (Nat.le_refl _) fun hU => ?_
  have hN0 : O n = none := hU.fresh _ (Nat.le_refl _)
  have hN : ∀ k, O (n + k) = none := fun k => hU.fresh _ (Nat.le_add_right _ _)
  show W _ _ _ _ ⟨34, [], [(0, .agg [.val (.int .i64 a0.Kind), .val (.int .i64 a0.Old.Kind), .sl a0.Old.Words.length (fl (eI .u64) a0.Old.Words), .sl a0.Old.Kids.length (fl e_S_api_Tree a0.Old.Kids), .val (.int .i64 a0.New.Kind), .sl a0.New.Words.length (fl (eI .u64) a0.New.Words), .sl a0.New.Kids.length (fl e_S_api_Tree a0.New.Kids), .sl a0.Words.length (fl e_S_api_WordEdit a0.Words), .sl a0.Kids.length (fl e_S_api_KidEdit a0.Kids), .val (.int .i64 a0.List_), .sl a0.Ops.length (fl e_S_api_Op a0.Ops)])]⟩ (Loc O n []) _
  refine W_sq [1] (W_regionD tab_ok [] ?_)
  simp only [push_cast, seval, ↓reduceIte, cast_lit, hN0, hN]
  refine W_sq [1, 4, 5] (W_regionD tab_ok [] ?_)
  simp only [push_cast, seval, ↓reduceIte, cast_lit, hN0, hN]
  refine W_seqK ?_
  refine W_sq [4, 5, 9, 10, 11] (W_regionD tab_ok [] ?_)
  simp only [push_cast, seval, ↓reduceIte, cast_lit, hN0, hN]
  refine W_fit ⟨34, [], [(4, .val (.int .i64 0)), (5, .val (.int .i64 0)), (9, .sl a0.Ops.length (fl e_S_api_Op a0.Ops)), (10, .val (.int .i64 (a0.Ops.length : Int))), (11, .val (.int .i64 0))]⟩ (Loc O n [none]) (fit_loc hU rfl rfl ?_) ?_
  · simp only [push_cast, seval, ↓reduceIte, cast_lit, hN0, hN]
  obtain ⟨z10, hz10, h⟩ := bC h
  refine W_blockX (E' := ⟨34, [], [(4, .val (.int .i64 z10.1)), (5, .val (.int .i64 z10.2))]⟩) (O' := (Loc O n [none])) (n0 := (n + 1)) ?_ ?_
  · refine W_loopJ hz10 (fun s0_ => ⟨34, [], [(4, .val (.int .i64 s0_.1)), (5, .val (.int .i64 s0_.2.1)), (9, .sl a0.Ops.length (fl e_S_api_Op a0.Ops)), (10, .val (.int .i64 (a0.Ops.length : Int))), (11, .val (.int .i64 s0_.2.2))]⟩) (fun s0_ => (Loc O n [none])) (fun z10 => JX 0 n (⟨34, [], [(4, .val (.int .i64 z10.1)), (5, .val (.int .i64 z10.2))]⟩ : Env) (Loc O n [none]) (n + 1)) ?_
    intro s0_ x0_ hs0_
    unfold m_edit_Lengths_L0 at hs0_
    try dsimp only
    refine W_sq [4, 5, 9, 10, 11, 12] (W_regionD tab_ok [] ?_)
    simp only [push_cast, seval, ↓reduceIte, cast_lit, hN0, hN]
    refine W_seqK ?_
    refine W_cond (t := (decide (s0_.2.2 < (a0.Ops.length : Int)))) rfl (fun c9 => ?_) (fun c9 => ?_)
    · replace hs0_ := condT c9 hs0_
      refine W_skip ?_
      try simp only [gthen, gblock]
      refine W_fit ⟨34, [], [(4, .val (.int .i64 s0_.1)), (5, .val (.int .i64 s0_.2.1)), (9, .sl a0.Ops.length (fl e_S_api_Op a0.Ops)), (10, .val (.int .i64 (a0.Ops.length : Int))), (11, .val (.int .i64 s0_.2.2))]⟩ (Loc O n [none]) (fit_loc hU rfl rfl ?_) ?_
      · simp only [push_cast, seval, ↓reduceIte, cast_lit, hN0, hN]
      obtain ⟨z1, hz1, hs0_⟩ := bC hs0_
      refine W_seqN (E' := ⟨34, [], [(4, .val (.int .i64 z1.1)), (5, .val (.int .i64 z1.2)), (9, .sl a0.Ops.length (fl e_S_api_Op a0.Ops)), (10, .val (.int .i64 (a0.Ops.length : Int))), (11, .val (.int .i64 s0_.2.2))]⟩) (O' := (Loc O n [none, none])) (n0 := (n + 2)) ?_ ?_
      · refine W_block ?_
        refine W_seqK ?_
        obtain ⟨x3, hx3, ax3, bx3, cx3, hz1⟩ := bE (f := e_S_api_Op) tab63 (fun _ => rfl) (by decide) hz1
        refine W_regionD tab_ok [] ?_
        simp only [push_cast, Nat.reduceAdd, Nat.reduceSub, Nat.reduceMul, Nat.reduceLeDiff, Nat.reduceLT, Nat.reduceEqDiff, ↓reduceIte, reduceCtorEq, Int.reduceBEq, Int.reduceBNe, Nat.reduceBEq, Int.reduceLE, Int.reduceLT, Int.reduceEq, Int.reduceNe, Int.reduceNeg, Nat.reduceDiv, Nat.reduceMod, Nat.reducePow, cast_lit, ax3, bx3, cx3, hN0, hN]
        refine W_fit ⟨34, [], [(4, .val (.int .i64 s0_.1)), (5, .val (.int .i64 s0_.2.1)), (7, .ref (n + 1) 0), (9, .sl a0.Ops.length (fl e_S_api_Op a0.Ops)), (10, .val (.int .i64 (a0.Ops.length : Int))), (11, .val (.int .i64 s0_.2.2))]⟩ (Loc O n [none, some ⟨false, 63, 14, 1, [.val (.int .i64 x3.Kind), .val (.int .i64 x3.N), .sl x3.L.length (fl e_S_api_Tree x3.L), .val (.int .i64 x3.E.Kind), .val (.int .i64 x3.E.Old.Kind), .sl x3.E.Old.Words.length (fl (eI .u64) x3.E.Old.Words), .sl x3.E.Old.Kids.length (fl e_S_api_Tree x3.E.Old.Kids), .val (.int .i64 x3.E.New.Kind), .sl x3.E.New.Words.length (fl (eI .u64) x3.E.New.Words), .sl x3.E.New.Kids.length (fl e_S_api_Tree x3.E.New.Kids), .sl x3.E.Words.length (fl e_S_api_WordEdit x3.E.Words), .sl x3.E.Kids.length (fl e_S_api_KidEdit x3.E.Kids), .val (.int .i64 x3.E.List_), .sl x3.E.Ops.length (fl e_S_api_Op x3.E.Ops)]⟩]) (fit_loc hU rfl rfl ?_) ?_
        · simp only [push_cast, Nat.reduceAdd, Nat.reduceSub, Nat.reduceMul, Nat.reduceLeDiff, Nat.reduceLT, Nat.reduceEqDiff, ↓reduceIte, reduceCtorEq, Int.reduceBEq, Int.reduceBNe, Nat.reduceBEq, Int.reduceLE, Int.reduceLT, Int.reduceEq, Int.reduceNe, Int.reduceNeg, Nat.reduceDiv, Nat.reduceMod, Nat.reducePow, cast_lit, ax3, bx3, cx3, hN0, hN]
        obtain ⟨z4, hz4, hz1⟩ := bC hz1
        refine W_seqN (E' := ⟨34, [], [(4, .val (.int .i64 z4)), (5, .val (.int .i64 s0_.2.1)), (7, .ref (n + 1) 0), (9, .sl a0.Ops.length (fl e_S_api_Op a0.Ops)), (10, .val (.int .i64 (a0.Ops.length : Int))), (11, .val (.int .i64 s0_.2.2))]⟩) (O' := (Loc O n [none, some ⟨false, 63, 14, 1, [.val (.int .i64 x3.Kind), .val (.int .i64 x3.N), .sl x3.L.length (fl e_S_api_Tree x3.L), .val (.int .i64 x3.E.Kind), .val (.int .i64 x3.E.Old.Kind), .sl x3.E.Old.Words.length (fl (eI .u64) x3.E.Old.Words), .sl x3.E.Old.Kids.length (fl e_S_api_Tree x3.E.Old.Kids), .val (.int .i64 x3.E.New.Kind), .sl x3.E.New.Words.length (fl (eI .u64) x3.E.New.Words), .sl x3.E.New.Kids.length (fl e_S_api_Tree x3.E.New.Kids), .sl x3.E.Words.length (fl e_S_api_WordEdit x3.E.Words), .sl x3.E.Kids.length (fl e_S_api_KidEdit x3.E.Kids), .val (.int .i64 x3.E.List_), .sl x3.E.Ops.length (fl e_S_api_Op x3.E.Ops)]⟩])) (n0 := (n + 2)) ?_ ?_
        · refine W_sq [4, 5, 7, 9, 10, 11, 17] (W_regionD tab_ok [] ?_)
          simp only [push_cast, seval, ↓reduceIte, cast_lit, hN0, hN]
          refine W_cond (t := (x3.Kind != 2)) rfl (fun c6 => ?_) (fun c6 => ?_)
          · replace hz4 := condT c6 hz4
            obtain ⟨y5, hy5, hz4⟩ := bC hz4
            refine W_regionD tab_ok [] ?_
            simp only [push_cast, seval, ↓reduceIte, cast_lit, hN0, hN]
            refine (ok_edit_through hy5).then ?_
            simp only [push_cast, seval, ↓reduceIte, cast_lit, hN0, hN]
            have hz4 := Option.some.inj hz4; subst hz4
            refine And.intro rfl (Fit2.of (fit_loc hU rfl rfl ?_) (by omega))
            simp only [push_cast, seval, ↓reduceIte, cast_lit, hN0, hN]
          · replace hz4 := condF c6 hz4
            refine W_skip ?_
            try simp only [gthen, gblock]
            have hz4 := Option.some.inj hz4; subst hz4
            refine And.intro rfl (Fit2.of (fit_loc hU rfl rfl ?_) (by omega))
            simp only [push_cast, seval, ↓reduceIte, cast_lit, hN0, hN]
        refine W_sq [4, 5, 7, 9, 10, 11, 25] (W_regionD tab_ok [] ?_)
        simp only [push_cast, seval, ↓reduceIte, cast_lit, hN0, hN]
        refine W_cond (t := (x3.Kind != 1)) rfl (fun c8 => ?_) (fun c8 => ?_)
        · replace hz1 := condT c8 hz1
          obtain ⟨y7, hy7, hz1⟩ := bC hz1
          refine W_regionD tab_ok [] ?_
          simp only [push_cast, seval, ↓reduceIte, cast_lit, hN0, hN]
          refine (ok_edit_through hy7).then ?_
          simp only [push_cast, seval, ↓reduceIte, cast_lit, hN0, hN]
          have hz1 := Option.some.inj hz1; subst hz1
          refine And.intro rfl (Fit2.of (fit_loc hU rfl rfl ?_) (by omega))
          simp only [push_cast, seval, ↓reduceIte, cast_lit, hN0, hN]
        · replace hz1 := condF c8 hz1
          refine W_skip ?_
          try simp only [gthen, gblock]
          have hz1 := Option.some.inj hz1; subst hz1
          refine And.intro rfl (Fit2.of (fit_loc hU rfl rfl ?_) (by omega))
          simp only [push_cast, seval, ↓reduceIte, cast_lit, hN0, hN]
      refine W_regionD tab_ok [] ?_
      simp only [push_cast, seval, ↓reduceIte, cast_lit, hN0, hN]
      have hs0_ := Option.some.inj hs0_; subst hs0_
      refine And.intro rfl (Fit2.of (fit_loc hU rfl rfl ?_) (by omega))
      simp only [push_cast, seval, ↓reduceIte, cast_lit, hN0, hN]
    · replace hs0_ := condF c9 hs0_
      refine W_exit ?_
      try simp only [gthen, gblock, ↓reduceIte, Nat.reduceEqDiff]
      have hs0_ := Option.some.inj hs0_; subst hs0_
      refine And.intro (fun h => by cases h) (And.intro rfl (Fit2.of (fit_loc hU rfl rfl ?_) (by omega)))
      simp only [push_cast, seval, ↓reduceIte, cast_lit, hN0, hN]
  try simp only [gthen, gblock, ↓reduceIte, Nat.reduceEqDiff]
  refine W_fit ⟨34, [], [(4, .val (.int .i64 z10.1)), (5, .val (.int .i64 z10.2))]⟩ (Loc O n [none]) (fit_loc hU rfl rfl ?_) ?_
  · simp only [push_cast, seval, ↓reduceIte, cast_lit, hN0, hN]
  refine W_sq [2, 3] (W_regionD tab_ok [] ?_)
  simp only [push_cast, seval, ↓reduceIte, cast_lit, hN0, hN]
  refine W_ret ?_
  try simp only [gthen, gblock]
  have h := Option.some.inj h; subst h
  refine fin_loc (.inr rfl) hU [.val (.int .i64 z10.1), .val (.int .i64 z10.2)] (by omega) ?_
  simp only [push_cast, seval, ↓reduceIte, cast_lit, Try.results42, hN0, hN]

theorem ok_edit_something {a0 : S_api_Tree} {r : Bool} {O : Objs} {n : Nat} (h : m_edit_something a0 = some r) : GTo Try.prog 95 [.agg [.val (.int .i64 a0.Kind), .sl a0.Words.length (fl (eI .u64) a0.Words), .sl a0.Kids.length (fl e_S_api_Tree a0.Kids)]] O n (.val (.bool r)) O n := by
  unfold m_edit_something at h
  refine fn_of tab_ok Try.call95 Try.func95 rfl (Nat.le_of_ble_eq_true rfl) (Nat.le_refl _) fun hU => ?_
  have hN0 : O n = none := hU.fresh _ (Nat.le_refl _)
  have hN : ∀ k, O (n + k) = none := fun k => hU.fresh _ (Nat.le_add_right _ _)
  show W _ _ _ _ ⟨16, [], [(0, .agg [.val (.int .i64 a0.Kind), .sl a0.Words.length (fl (eI .u64) a0.Words), .sl a0.Kids.length (fl e_S_api_Tree a0.Kids)])]⟩ (Loc O n []) _
  refine W_sq [1] (W_regionD tab_ok [] ?_)
  simp only [push_cast, seval, ↓reduceIte, cast_lit, hN0, hN]
  refine W_sq [2] (W_regionD tab_ok [none, none, none, none, none, none, none, none] ?_)
  simp only [push_cast, seval, ↓reduceIte, cast_lit, hN0, hN]
  repeat (with_reducible refine And.intro (by first | (intro h0; simp only [h0, and_self]; done) | (intro h0; simp only [h0, Bool.not_false, Bool.not_true, Bool.true_and, Bool.and_true, true_and, and_true, and_self, imp_self, implies_true, bne_iff_ne, ne_eq, beq_iff_eq]; done) | (intros; simp_all; done) | exact True.intro) ?_)
  refine W_ret ?_
  try simp only [gthen, gblock]
  have h := Option.some.inj h; subst h
  refine fin_loc (.inr rfl) hU [.val (.bool (cond (a0.Kind != 0) true (decide (0 < (IntKind.i64.wrap ((a0.Words.length : Int) + (a0.Kids.length : Int)))))))] (by omega) ?_
  simp only [push_cast, seval, ↓reduceIte, cast_lit, Try.results95, hN0, hN]

theorem ok_edit_right_1 {a0 : Bool} {a1 : Bool} {a2 : Bool} {a3 : S_api_Edit} {r : Bool} {O : Objs} {n : Nat} (h : m_edit_right_1 a0 a1 a2 a3 = some r) : GTo Try.prog 94 [.val (.bool a0), .val (.bool a1), .val (.bool a2), .ip [.val (.int .i64 a3.Kind), .val (.int .i64 a3.Old.Kind), .sl a3.Old.Words.length (fl (eI .u64) a3.Old.Words), .sl a3.Old.Kids.length (fl e_S_api_Tree a3.Old.Kids), .val (.int .i64 a3.New.Kind), .sl a3.New.Words.length (fl (eI .u64) a3.New.Words), .sl a3.New.Kids.length (fl e_S_api_Tree a3.New.Kids), .sl a3.Words.length (fl e_S_api_WordEdit a3.Words), .sl a3.Kids.length (fl e_S_api_KidEdit a3.Kids), .val (.int .i64 a3.List_), .sl a3.Ops.length (fl e_S_api_Op a3.Ops)] 0] O n (.val (.bool r)) O n := by
  unfold m_edit_right_1 at h
  refine fn_of tab_ok Try.call94 Try.func94 rfl (Nat.le_of_ble_eq_true rfl) (Nat.le_refl _) fun hU => ?_
  have hN0 : O n = none := hU.fresh _ (Nat.le_refl _)
  have hN : ∀ k, O (n + k) = none := fun k => hU.fresh _ (Nat.le_add_right _ _)
  show W _ _ _ _ ⟨49, [], [(0, .val (.bool a0)), (1, .val (.bool a1)), (2, .val (.bool a2)), (3, .ip [.val (.int .i64 a3.Kind), .val (.int .i64 a3.Old.Kind), .sl a3.Old.Words.length (fl (eI .u64) a3.Old.Words), .sl a3.Old.Kids.length (fl e_S_api_Tree a3.Old.Kids), .val (.int .i64 a3.New.Kind), .sl a3.New.Words.length (fl (eI .u64) a3.New.Words), .sl a3.New.Kids.length (fl e_S_api_Tree a3.New.Kids), .sl a3.Words.length (fl e_S_api_WordEdit a3.Words), .sl a3.Kids.length (fl e_S_api_KidEdit a3.Kids), .val (.int .i64 a3.List_), .sl a3.Ops.length (fl e_S_api_Op a3.Ops)] 0)]⟩ (Loc O n []) _
  refine W_sq [0, 1, 2, 3] (W_regionD tab_ok [] ?_)
  simp only [push_cast, seval, ↓reduceIte, cast_lit, hN0, hN]
  obtain ⟨z3, hz3, h⟩ := bC h
  refine W_seqN (E' := ⟨49, [], [(7, .val (.bool z3))]⟩) (O' := (Loc O n [])) (n0 := n) ?_ ?_
  · rcases Bool.eq_false_or_eq_true a0 with c6 | c6
    · replace hz3 := condT c6 hz3
      obtain ⟨y4, hy4, hz3⟩ := bC hz3
      rcases Bool.eq_false_or_eq_true y4 with c7 | c7
      · replace hz3 := condT c7 hz3
        try rw [c7] at c6
        refine W_regionD tab_ok [some true, some true, some true, some true, some false, some false, some false, some true, some false, some false, some false, some false, some false, some false, some false, some false, some false, some false, some false, some false, some false, some false, some false, some false, some false, some false, some false, some false, some false, some false, some false, some false, some false] ?_
        simp only [push_cast, seval, ↓reduceIte, cast_lit, c6, c7, hN0, hN]
        refine (ok_edit_something hy4).then ?_
        simp only [push_cast, seval, ↓reduceIte, cast_lit, c6, c7, hN0, hN]
        have hz3 := Option.some.inj hz3; subst hz3
        refine And.intro rfl (Fit2.of (fit_loc hU rfl rfl ?_) (by omega))
        simp only [push_cast, seval, ↓reduceIte, cast_lit, c6, c7, hN0, hN]
      · replace hz3 := condF c7 hz3
        try rw [c7] at c6
        obtain ⟨y5, hy5, hz3⟩ := bC hz3
        refine W_regionD tab_ok [some true, some true, some true, some true, some true, some true, some true, some true, none, none, none, none, none, none, none, none, none, none, none, none, none, none, none, none, none, none, none, none, none, none, none, none, none] ?_
        simp only [push_cast, seval, ↓reduceIte, cast_lit, c6, c7, hN0, hN]
        repeat (with_reducible refine And.intro (by first | (intro h0; simp only [h0, and_self]; done) | (intro h0; simp only [h0, Bool.not_false, Bool.not_true, Bool.true_and, Bool.and_true, true_and, and_true, and_self, imp_self, implies_true, bne_iff_ne, ne_eq, beq_iff_eq]; done) | (intros; simp_all; done) | exact True.intro) ?_)
        refine (ok_edit_something hy4).then ?_
        simp only [push_cast, seval, ↓reduceIte, cast_lit, c6, c7, hN0, hN]
        repeat (with_reducible refine And.intro (by first | (intro h0; simp only [h0, and_self]; done) | (intro h0; simp only [h0, Bool.not_false, Bool.not_true, Bool.true_and, Bool.and_true, true_and, and_true, and_self, imp_self, implies_true, bne_iff_ne, ne_eq, beq_iff_eq]; done) | (intros; simp_all; done) | exact True.intro) ?_)
        refine (ok_edit_something hy5).then ?_
        simp only [push_cast, seval, ↓reduceIte, cast_lit, c6, c7, hN0, hN]
        repeat (with_reducible refine And.intro (by first | (intro h0; simp only [h0, and_self]; done) | (intro h0; simp only [h0, Bool.not_false, Bool.not_true, Bool.true_and, Bool.and_true, true_and, and_true, and_self, imp_self, implies_true, bne_iff_ne, ne_eq, beq_iff_eq]; done) | (intros; simp_all; done) | exact True.intro) ?_)
        have hz3 := Option.some.inj hz3; subst hz3
        refine And.intro rfl (Fit2.of (fit_loc hU rfl rfl ?_) (by omega))
        simp only [push_cast, seval, ↓reduceIte, cast_lit, c6, c7, hN0, hN]
    · replace hz3 := condF c6 hz3
      refine W_regionD tab_ok [some false, some false, some false, some false, some false, some false, some false, some false, some true, some true, none, none, none, none, none, none, none, none, some true, some true, none, none, none, none, none, none, none, none, none, none, none, none, none] ?_
      simp only [push_cast, seval, ↓reduceIte, cast_lit, c6, hN0, hN]
      repeat (with_reducible refine And.intro (by first | (intro h0; simp only [h0, and_self]; done) | (intro h0; simp only [h0, Bool.not_false, Bool.not_true, Bool.true_and, Bool.and_true, true_and, and_true, and_self, imp_self, implies_true, bne_iff_ne, ne_eq, beq_iff_eq]; done) | (intros; simp_all; done) | exact True.intro) ?_)
      have hz3 := Option.some.inj hz3; subst hz3
      refine And.intro rfl (Fit2.of (fit_loc hU rfl rfl ?_) (by omega))
      simp only [push_cast, seval, ↓reduceIte, cast_lit, c6, hN0, hN]
  refine W_ret ?_
  try simp only [gthen, gblock]
  have h := Option.some.inj h; subst h
  refine fin_loc (.inr rfl) hU [.val (.bool z3)] (by omega) ?_
  simp only [push_cast, seval, ↓reduceIte, cast_lit, Try.results94, hN0, hN]

theorem ok_tree_List {a0 : Int} {r : Bool} {O : Objs} {n : Nat} (h : m_tree_List a0 = some r) : GTo Try.prog 19 [.val (.int .i64 a0)] O n (.val (.bool r)) O n := by
  unfold m_tree_List at h
  refine fn_of tab_ok Try.call19 Try.func19 rfl (Nat.le_of_ble_eq_true rfl) (Nat.le_refl _) fun hU => ?_
  have hN0 : O n = none := hU.fresh _ (Nat.le_refl _)
  have hN : ∀ k, O (n + k) = none := fun k => hU.fresh _ (Nat.le_add_right _ _)
  show W _ _ _ _ ⟨9, [], [(0, .val (.int .i64 a0))]⟩ (Loc O n []) _
  refine W_sq [0] (W_regionD tab_ok [] ?_)
  simp only [push_cast, seval, ↓reduceIte, cast_lit, hN0, hN]
  refine W_sq [2] (W_regionD tab_ok [none, none] ?_)
  simp only [push_cast, seval, ↓reduceIte, cast_lit, hN0, hN]
  repeat (with_reducible refine And.intro (by first | (intro h0; simp only [h0, and_self]; done) | (intro h0; simp only [h0, Bool.not_false, Bool.not_true, Bool.true_and, Bool.and_true, true_and, and_true, and_self, imp_self, implies_true, bne_iff_ne, ne_eq, beq_iff_eq]; done) | (intros; simp_all; done) | exact True.intro) ?_)
  refine W_ret ?_
  try simp only [gthen, gblock]
  have h := Option.some.inj h; subst h
  refine fin_loc (.inr rfl) hU [.val (.bool (cond (decide (2 ≤ a0)) (decide (a0 ≤ 9)) false))] (by omega) ?_
  simp only [push_cast, seval, ↓reduceIte, cast_lit, Try.results19, hN0, hN]

theorem ok_tree_allStructs {a0 : (List S_api_Tree)} {r : Bool} {O : Objs} {n : Nat} (h : m_tree_allStructs a0 = some r) : GTo Try.prog 90 [.sl a0.length (fl e_S_api_Tree a0)] O n (.val (.bool r)) O n := by
  unfold m_tree_allStructs at h
  refine fn_of tab_ok Try.call90 Try.func90 rfl (Nat.le_of_ble_eq_true rfl) (Nat.le_refl _) fun hU => ?_
  have hN0 : O n = none := hU.fresh _ (Nat.le_refl _)
  have hN : ∀ k, O (n + k) = none := fun k => hU.fresh _ (Nat.le_add_right _ _)
  show W _ _ _ _ ⟨15, [], [(0, .sl a0.length (fl e_S_api_Tree a0))]⟩ (Loc O n []) _
  refine W_sq [0] (W_regionD tab_ok [] ?_)
  simp only [push_cast, seval, ↓reduceIte, cast_lit, hN0, hN]
  refine W_seqK ?_
  refine W_sq [5, 6, 7] (W_regionD tab_ok [] ?_)
  simp only [push_cast, seval, ↓reduceIte, cast_lit, hN0, hN]
  refine W_fit ⟨15, [], [(5, .sl a0.length (fl e_S_api_Tree a0)), (6, .val (.int .i64 (a0.length : Int))), (7, .val (.int .i64 0))]⟩ (Loc O n []) (fit_loc hU rfl rfl ?_) ?_
  · simp only [push_cast, seval, ↓reduceIte, cast_lit, hN0, hN]
  obtain ⟨z5, hz5, h⟩ := bC h
  refine W_sumB (J := (SumJ (fun z5 => JR n (⟨15, [], [(2, .val (.bool false))]⟩ : Env) (Loc O n []) n) (fun z5 => JX 0 n (⟨15, [], []⟩ : Env) (Loc O n []) n))) (z := z5) ?_ fun hw => ?_
  · refine W_loopJ hz5 (fun s0_ => ⟨15, [], [(5, .sl a0.length (fl e_S_api_Tree a0)), (6, .val (.int .i64 (a0.length : Int))), (7, .val (.int .i64 s0_))]⟩) (fun s0_ => (Loc O n [])) (SumJ (fun z5 => JR n (⟨15, [], [(2, .val (.bool false))]⟩ : Env) (Loc O n []) n) (fun z5 => JX 0 n (⟨15, [], []⟩ : Env) (Loc O n []) n)) ?_
    intro s0_ x0_ hs0_
    unfold m_tree_allStructs_L0 at hs0_
    try dsimp only
    refine W_sq [5, 6, 7, 8] (W_regionD tab_ok [] ?_)
    simp only [push_cast, seval, ↓reduceIte, cast_lit, hN0, hN]
    refine W_seqK ?_
    refine W_cond (t := (decide (s0_ < (a0.length : Int)))) rfl (fun c4 => ?_) (fun c4 => ?_)
    · replace hs0_ := condT c4 hs0_
      refine W_skip ?_
      try simp only [gthen, gblock]
      refine W_fit ⟨15, [], [(5, .sl a0.length (fl e_S_api_Tree a0)), (6, .val (.int .i64 (a0.length : Int))), (7, .val (.int .i64 s0_))]⟩ (Loc O n []) (fit_loc hU rfl rfl ?_) ?_
      · simp only [push_cast, seval, ↓reduceIte, cast_lit, hN0, hN]
      refine W_seqK ?_
      refine W_block ?_
      refine W_seqK ?_
      obtain ⟨x2, hx2, ax2, bx2, cx2, hs0_⟩ := bE (f := e_S_api_Tree) tab25 (fun _ => rfl) (by decide) hs0_
      refine W_regionD tab_ok [] ?_
      simp only [push_cast, Nat.reduceAdd, Nat.reduceSub, Nat.reduceMul, Nat.reduceLeDiff, Nat.reduceLT, Nat.reduceEqDiff, ↓reduceIte, reduceCtorEq, Int.reduceBEq, Int.reduceBNe, Nat.reduceBEq, Int.reduceLE, Int.reduceLT, Int.reduceEq, Int.reduceNe, Int.reduceNeg, Nat.reduceDiv, Nat.reduceMod, Nat.reducePow, cast_lit, ax2, bx2, cx2, hN0, hN]
      refine W_fit ⟨15, [], [(4, .ref n 0), (5, .sl a0.length (fl e_S_api_Tree a0)), (6, .val (.int .i64 (a0.length : Int))), (7, .val (.int .i64 s0_))]⟩ (Loc O n [some ⟨false, 25, 3, 1, [.val (.int .i64 x2.Kind), .sl x2.Words.length (fl (eI .u64) x2.Words), .sl x2.Kids.length (fl e_S_api_Tree x2.Kids)]⟩]) (fit_loc hU rfl rfl ?_) ?_
      · simp only [push_cast, Nat.reduceAdd, Nat.reduceSub, Nat.reduceMul, Nat.reduceLeDiff, Nat.reduceLT, Nat.reduceEqDiff, ↓reduceIte, reduceCtorEq, Int.reduceBEq, Int.reduceBNe, Nat.reduceBEq, Int.reduceLE, Int.reduceLT, Int.reduceEq, Int.reduceNe, Int.reduceNeg, Nat.reduceDiv, Nat.reduceMod, Nat.reducePow, cast_lit, ax2, bx2, cx2, hN0, hN]
      refine W_sq [5, 6, 7, 13] (W_regionD tab_ok [] ?_)
      simp only [push_cast, seval, ↓reduceIte, cast_lit, hN0, hN]
      refine W_cond (t := (x2.Kind != 1)) rfl (fun c3 => ?_) (fun c3 => ?_)
      · replace hs0_ := condT c3 hs0_
        refine W_sq [2] (W_regionD tab_ok [] ?_)
        simp only [push_cast, seval, ↓reduceIte, cast_lit, hN0, hN]
        refine W_ret ?_
        try simp only [gthen, gblock]
        have hs0_ := Option.some.inj hs0_; subst hs0_
        refine And.intro (fun h => by cases h) (And.intro rfl (Fit2.of (fit_loc hU rfl rfl ?_) (by omega)))
        simp only [push_cast, seval, ↓reduceIte, cast_lit, hN0, hN]
      · replace hs0_ := condF c3 hs0_
        refine W_skip ?_
        try simp only [gthen, gblock]
        refine W_fit ⟨15, [], [(5, .sl a0.length (fl e_S_api_Tree a0)), (6, .val (.int .i64 (a0.length : Int))), (7, .val (.int .i64 s0_))]⟩ (Loc O n [none]) (fit_loc hU rfl rfl ?_) ?_
        · simp only [push_cast, seval, ↓reduceIte, cast_lit, hN0, hN]
        refine W_regionD tab_ok [] ?_
        simp only [push_cast, seval, ↓reduceIte, cast_lit, hN0, hN]
        have hs0_ := Option.some.inj hs0_; subst hs0_
        refine And.intro rfl (Fit2.of (fit_loc hU rfl rfl ?_) (by omega))
        simp only [push_cast, seval, ↓reduceIte, cast_lit, hN0, hN]
    · replace hs0_ := condF c4 hs0_
      refine W_exit ?_
      try simp only [gthen, gblock, ↓reduceIte, Nat.reduceEqDiff]
      have hs0_ := Option.some.inj hs0_; subst hs0_
      refine And.intro (fun h => by cases h) (And.intro rfl (Fit2.of (fit_loc hU rfl rfl ?_) (by omega)))
      simp only [push_cast, seval, ↓reduceIte, cast_lit, hN0, hN]
  rcases z5 with z5 | z5
  · dsimp only [SumJ] at hw h
    refine W_blockR hw ?_
    try simp only [gthen, gblock, ↓reduceIte, Nat.reduceEqDiff]
    have h := Option.some.inj h; subst h
    refine fin_loc (.inr rfl) hU [.val (.bool false)] (by omega) ?_
    simp only [push_cast, seval, ↓reduceIte, cast_lit, Try.results90, hN0, hN]
  · dsimp only [SumJ] at hw h
    refine W_blockX hw ?_
    try simp only [gthen, gblock, ↓reduceIte, Nat.reduceEqDiff]
    refine W_fit ⟨15, [], []⟩ (Loc O n []) (fit_loc hU rfl rfl ?_) ?_
    · simp only [push_cast, seval, ↓reduceIte, cast_lit, hN0, hN]
    refine W_sq [2] (W_regionD tab_ok [] ?_)
    simp only [push_cast, seval, ↓reduceIte, cast_lit, hN0, hN]
    refine W_ret ?_
    try simp only [gthen, gblock]
    have h := Option.some.inj h; subst h
    refine fin_loc (.inr rfl) hU [.val (.bool true)] (by omega) ?_
    simp only [push_cast, seval, ↓reduceIte, cast_lit, Try.results90, hN0, hN]

theorem ok_word_Width {a0 : Int} {r : (Int × Bool)} {O : Objs} {n : Nat} (h : m_word_Width a0 = some r) : GTo Try.prog 135 [.val (.int .i64 a0)] O n (.tup [.val (.int .i64 r.1), .val (.bool r.2)]) O n := by
  unfold m_word_Width at h
  refine fn_of tab_ok Try.call135 Try.func135 rfl (Nat.le_of_ble_eq_true rfl) (Nat.le_refl _) fun hU => ?_
  have hN0 : O n = none := hU.fresh _ (Nat.le_refl _)
  have hN : ∀ k, O (n + k) = none := fun k => hU.fresh _ (Nat.le_add_right _ _)
  show W _ _ _ _ ⟨15, [], [(0, .val (.int .i64 a0))]⟩ (Loc O n []) _
  refine W_sq [0] (W_regionD tab_ok [] ?_)
  simp only [push_cast, seval, ↓reduceIte, cast_lit, hN0, hN]
  refine W_seqK ?_
  obtain ⟨y6, hy6, ey6, h⟩ := bY (f := (eI .i64)) (cs := [.val (.int .i64 0), .val (.int .i64 1), .val (.int .i64 8), .val (.int .i64 16), .val (.int .i64 32), .val (.int .i64 64)]) rfl h
  have g7 := congrArg G.agg ey6
  obtain ⟨y8, hy8, ey8, h⟩ := bY (f := (eI .i64)) (cs := [.val (.int .i64 0), .val (.int .i64 0), .val (.int .i64 0), .val (.int .i64 0), .val (.int .i64 0), .val (.int .i64 0)]) rfl h
  have g9 := congrArg (GObj.mk false 160 6 1) ey8
  have g10 := gplace_arr (f := (eI .i64)) y8 y6 (fun _ => rfl)
  refine W_regionD tab_ok [] ?_
  simp only [push_cast, seval, ↓reduceIte, cast_lit, g7, g9, g10, hN0, hN]
  refine W_fit ⟨15, [], [(0, .val (.int .i64 a0)), (4, .ref n 0)]⟩ (Loc O n [some ⟨false, 160, 6, 1, fl (eI .i64) y6.1⟩]) (fit_loc hU rfl rfl ?_) ?_
  · simp only [push_cast, seval, ↓reduceIte, cast_lit, g7, g9, g10, hN0, hN]
  refine W_seqK ?_
  refine W_sq [0, 4, 11] (W_regionD tab_ok [none, none] ?_)
  simp only [push_cast, seval, ↓reduceIte, cast_lit, hN0, hN]
  repeat (with_reducible refine And.intro (by first | (intro h0; simp only [h0, and_self]; done) | (intro h0; simp only [h0, Bool.not_false, Bool.not_true, Bool.true_and, Bool.and_true, true_and, and_true, and_self, imp_self, implies_true, bne_iff_ne, ne_eq, beq_iff_eq]; done) | (intros; simp_all; done) | exact True.intro) ?_)
  refine W_cond (t := (cond (decide (a0 < 0)) true (decide (6 ≤ a0)))) rfl (fun c13 => ?_) (fun c13 => ?_)
  · replace h := condT c13 h
    refine W_sq [2, 3] (W_regionD tab_ok [] ?_)
    simp only [push_cast, seval, ↓reduceIte, cast_lit, hN0, hN]
    refine W_ret ?_
    try simp only [gthen, gblock]
    have h := Option.some.inj h; subst h
    refine fin_loc (.inr rfl) hU [.val (.int .i64 0), .val (.bool false)] (by omega) ?_
    simp only [push_cast, seval, ↓reduceIte, cast_lit, Try.results135, hN0, hN]
  · replace h := condF c13 h
    refine W_skip ?_
    try simp only [gthen, gblock]
    refine W_fit ⟨15, [], [(0, .val (.int .i64 a0)), (4, .ref n 0)]⟩ (Loc O n [some ⟨false, 160, 6, 1, fl (eI .i64) y6.1⟩]) (fit_loc hU rfl rfl ?_) ?_
    · simp only [push_cast, seval, ↓reduceIte, cast_lit, hN0, hN]
    obtain ⟨x12, hx12, ax12, bx12, cx12, h⟩ := bEA (f := (eI .i64)) (b := 6) rfl tab3 (fun _ => rfl) (by decide) h
    refine W_sq [2, 3] (W_regionD tab_ok [] ?_)
    simp only [push_cast, Nat.reduceAdd, Nat.reduceSub, Nat.reduceMul, Nat.reduceLeDiff, Nat.reduceLT, Nat.reduceEqDiff, ↓reduceIte, reduceCtorEq, Int.reduceBEq, Int.reduceBNe, Nat.reduceBEq, Int.reduceLE, Int.reduceLT, Int.reduceEq, Int.reduceNe, Int.reduceNeg, Nat.reduceDiv, Nat.reduceMod, Nat.reducePow, cast_lit, ax12, bx12, cx12, hN0, hN]
    refine W_ret ?_
    try simp only [gthen, gblock]
    have h := Option.some.inj h; subst h
    refine fin_loc (.inr rfl) hU [.val (.int .i64 x12), .val (.bool true)] (by omega) ?_
    simp only [push_cast, seval, ↓reduceIte, cast_lit, Try.results135, hN0, hN]

theorem ok_word_Fits {a0 : Int} {a1 : Int} {r : Bool} {O : Objs} {n : Nat} (h : m_word_Fits a0 a1 = some r) : GTo Try.prog 115 [.val (.int .i64 a0), .val (.int .u64 a1)] O n (.val (.bool r)) O n := by
  unfold m_word_Fits at h
  refine fn_of tab_ok Try.call115 Try.func115 rfl (Nat.le_of_ble_eq_true rfl) (Nat.le_refl _) fun hU => ?_
  have hN0 : O n = none := hU.fresh _ (Nat.le_refl _)
  have hN : ∀ k, O (n + k) = none := fun k => hU.fresh _ (Nat.le_add_right _ _)
  show W _ _ _ _ ⟨19, [], [(0, .val (.int .i64 a0)), (1, .val (.int .u64 a1))]⟩ (Loc O n []) _
  refine W_sq [0, 1] (W_regionD tab_ok [] ?_)
  simp only [push_cast, seval, ↓reduceIte, cast_lit, hN0, hN]
  refine W_seqK ?_
  obtain ⟨y2, hy2, h⟩ := bC h
  refine W_regionD tab_ok [] ?_
  simp only [push_cast, seval, ↓reduceIte, cast_lit, hN0, hN]
  refine (ok_word_Width hy2).then ?_
  simp only [push_cast, seval, ↓reduceIte, cast_lit, hN0, hN]
  refine W_fit ⟨19, [], [(1, .val (.int .u64 a1)), (5, .val (.int .i64 y2.1)), (6, .val (.bool y2.2))]⟩ (Loc O n []) (fit_loc hU rfl rfl ?_) ?_
  · simp only [push_cast, seval, ↓reduceIte, cast_lit, hN0, hN]
  obtain ⟨z4, hz4, h⟩ := bC h
  refine W_seqN (E' := ⟨19, [], [(4, .val (.bool z4))]⟩) (O' := (Loc O n [])) (n0 := n) ?_ ?_
  · rcases Bool.eq_false_or_eq_true y2.2 with c6 | c6
    · replace hz4 := condT c6 hz4
      obtain ⟨pu5, hz4⟩ := bG hz4
      refine W_regionD tab_ok [some true, some true, some true, some true] ?_
      simp only [push_cast, seval, ↓reduceIte, cast_lit, c6, pu5, hN0, hN]
      have hz4 := Option.some.inj hz4; subst hz4
      refine And.intro rfl (Fit2.of (fit_loc hU rfl rfl ?_) (by omega))
      simp only [push_cast, seval, ↓reduceIte, cast_lit, c6, pu5, hN0, hN]
    · replace hz4 := condF c6 hz4
      refine W_regionD tab_ok [some false, some false, some false, some false] ?_
      simp only [push_cast, seval, ↓reduceIte, cast_lit, c6, hN0, hN]
      have hz4 := Option.some.inj hz4; subst hz4
      refine And.intro rfl (Fit2.of (fit_loc hU rfl rfl ?_) (by omega))
      simp only [push_cast, seval, ↓reduceIte, cast_lit, c6, hN0, hN]
  refine W_ret ?_
  try simp only [gthen, gblock]
  have h := Option.some.inj h; subst h
  refine fin_loc (.inr rfl) hU [.val (.bool z4)] (by omega) ?_
  simp only [push_cast, seval, ↓reduceIte, cast_lit, Try.results115, hN0, hN]

theorem okb_tree_Right {r_tree_Right : (S_api_Tree → Option Bool)} {r_tree_right : (S_api_Tree → Int → Option Bool)} {r_tree_allRight : ((List S_api_Tree) → Int → Option Bool)} {r_tree_allAtoms : ((List S_api_Tree) → Int → Option Bool)} (ok_r_tree_Right : ∀ {a0 : S_api_Tree} {r : Bool} {O : Objs} {n : Nat}, r_tree_Right a0 = some r → GTo Try.prog 17 [.agg [.val (.int .i64 a0.Kind), .sl a0.Words.length (fl (eI .u64) a0.Words), .sl a0.Kids.length (fl e_S_api_Tree a0.Kids)]] O n (.val (.bool r)) O n) (ok_r_tree_right : ∀ {a0 : S_api_Tree} {a1 : Int} {r : Bool} {O : Objs} {n : Nat}, r_tree_right a0 a1 = some r → GTo Try.prog 60 [.agg [.val (.int .i64 a0.Kind), .sl a0.Words.length (fl (eI .u64) a0.Words), .sl a0.Kids.length (fl e_S_api_Tree a0.Kids)], .val (.int .i64 a1)] O n (.val (.bool r)) O n) (ok_r_tree_allRight : ∀ {a0 : (List S_api_Tree)} {a1 : Int} {r : Bool} {O : Objs} {n : Nat}, r_tree_allRight a0 a1 = some r → GTo Try.prog 89 [.sl a0.length (fl e_S_api_Tree a0), .val (.int .i64 a1)] O n (.val (.bool r)) O n) (ok_r_tree_allAtoms : ∀ {a0 : (List S_api_Tree)} {a1 : Int} {r : Bool} {O : Objs} {n : Nat}, r_tree_allAtoms a0 a1 = some r → GTo Try.prog 91 [.sl a0.length (fl e_S_api_Tree a0), .val (.int .i64 a1)] O n (.val (.bool r)) O n) {a0 : S_api_Tree} {r : Bool} {O : Objs} {n : Nat} (h : b_tree_Right r_tree_Right r_tree_right r_tree_allRight r_tree_allAtoms a0 = some r) : GTo Try.prog 17 [.agg [.val (.int .i64 a0.Kind), .sl a0.Words.length (fl (eI .u64) a0.Words), .sl a0.Kids.length (fl e_S_api_Tree a0.Kids)]] O n (.val (.bool r)) O n := by
  unfold b_tree_Right at h
  refine fn_of tab_ok Try.call17 Try.func17 rfl (Nat.le_of_ble_eq_true rfl) (Nat.le_refl _) fun hU => ?_
  have hN0 : O n = none := hU.fresh _ (Nat.le_refl _)
  have hN : ∀ k, O (n + k) = none := fun k => hU.fresh _ (Nat.le_add_right _ _)
  show W _ _ _ _ ⟨18, [], [(0, .agg [.val (.int .i64 a0.Kind), .sl a0.Words.length (fl (eI .u64) a0.Words), .sl a0.Kids.length (fl e_S_api_Tree a0.Kids)])]⟩ (Loc O n []) _
  refine W_sq [1] (W_regionD tab_ok [] ?_)
  simp only [push_cast, seval, ↓reduceIte, cast_lit, hN0, hN]
  refine W_seqK ?_
  refine W_sq [1, 5] (W_regionD tab_ok [] ?_)
  simp only [push_cast, seval, ↓reduceIte, cast_lit, hN0, hN]
  refine W_cond (t := (a0.Kind == 10)) rfl (fun c3 => ?_) (fun c3 => ?_)
  · replace h := condT c3 h
    refine W_sq [2] (W_regionD tab_ok [none, none, none, none] ?_)
    simp only [push_cast, seval, ↓reduceIte, cast_lit, hN0, hN]
    repeat (with_reducible refine And.intro (by first | (intro h0; simp only [h0, and_self]; done) | (intro h0; simp only [h0, Bool.not_false, Bool.not_true, Bool.true_and, Bool.and_true, true_and, and_true, and_self, imp_self, implies_true, bne_iff_ne, ne_eq, beq_iff_eq]; done) | (intros; simp_all; done) | exact True.intro) ?_)
    refine W_ret ?_
    try simp only [gthen, gblock]
    have h := Option.some.inj h; subst h
    refine fin_loc (.inr rfl) hU [.val (.bool (cond ((a0.Words.length : Int) == 1) ((a0.Kids.length : Int) == 0) false))] (by omega) ?_
    simp only [push_cast, seval, ↓reduceIte, cast_lit, Try.results17, hN0, hN]
  · replace h := condF c3 h
    refine W_skip ?_
    try simp only [gthen, gblock]
    refine W_fit ⟨18, [], [(1, .ref n 0)]⟩ (Loc O n [some ⟨false, 25, 3, 1, [.val (.int .i64 a0.Kind), .sl a0.Words.length (fl (eI .u64) a0.Words), .sl a0.Kids.length (fl e_S_api_Tree a0.Kids)]⟩]) (fit_loc hU rfl rfl ?_) ?_
    · simp only [push_cast, seval, ↓reduceIte, cast_lit, hN0, hN]
    refine W_seqK ?_
    obtain ⟨y2, hy2, h⟩ := bC h
    refine W_regionD tab_ok [] ?_
    simp only [push_cast, seval, ↓reduceIte, cast_lit, hN0, hN]
    refine (ok_r_tree_right hy2).then ?_
    simp only [push_cast, seval, ↓reduceIte, cast_lit, hN0, hN]
    refine W_fit ⟨18, [], [(2, .val (.bool y2))]⟩ (Loc O n [none]) (fit_loc hU rfl rfl ?_) ?_
    · simp only [push_cast, seval, ↓reduceIte, cast_lit, hN0, hN]
    refine W_ret ?_
    try simp only [gthen, gblock]
    have h := Option.some.inj h; subst h
    refine fin_loc (.inr rfl) hU [.val (.bool y2)] (by omega) ?_
    simp only [push_cast, seval, ↓reduceIte, cast_lit, Try.results17, hN0, hN]

theorem okb_tree_right {r_tree_Right : (S_api_Tree → Option Bool)} {r_tree_right : (S_api_Tree → Int → Option Bool)} {r_tree_allRight : ((List S_api_Tree) → Int → Option Bool)} {r_tree_allAtoms : ((List S_api_Tree) → Int → Option Bool)} (ok_r_tree_Right : ∀ {a0 : S_api_Tree} {r : Bool} {O : Objs} {n : Nat}, r_tree_Right a0 = some r → GTo Try.prog 17 [.agg [.val (.int .i64 a0.Kind), .sl a0.Words.length (fl (eI .u64) a0.Words), .sl a0.Kids.length (fl e_S_api_Tree a0.Kids)]] O n (.val (.bool r)) O n) (ok_r_tree_right : ∀ {a0 : S_api_Tree} {a1 : Int} {r : Bool} {O : Objs} {n : Nat}, r_tree_right a0 a1 = some r → GTo Try.prog 60 [.agg [.val (.int .i64 a0.Kind), .sl a0.Words.length (fl (eI .u64) a0.Words), .sl a0.Kids.length (fl e_S_api_Tree a0.Kids)], .val (.int .i64 a1)] O n (.val (.bool r)) O n) (ok_r_tree_allRight : ∀ {a0 : (List S_api_Tree)} {a1 : Int} {r : Bool} {O : Objs} {n : Nat}, r_tree_allRight a0 a1 = some r → GTo Try.prog 89 [.sl a0.length (fl e_S_api_Tree a0), .val (.int .i64 a1)] O n (.val (.bool r)) O n) (ok_r_tree_allAtoms : ∀ {a0 : (List S_api_Tree)} {a1 : Int} {r : Bool} {O : Objs} {n : Nat}, r_tree_allAtoms a0 a1 = some r → GTo Try.prog 91 [.sl a0.length (fl e_S_api_Tree a0), .val (.int .i64 a1)] O n (.val (.bool r)) O n) {a0 : S_api_Tree} {a1 : Int} {r : Bool} {O : Objs} {n : Nat} (h : b_tree_right r_tree_Right r_tree_right r_tree_allRight r_tree_allAtoms a0 a1 = some r) : GTo Try.prog 60 [.agg [.val (.int .i64 a0.Kind), .sl a0.Words.length (fl (eI .u64) a0.Words), .sl a0.Kids.length (fl e_S_api_Tree a0.Kids)], .val (.int .i64 a1)] O n (.val (.bool r)) O n := by
  unfold b_tree_right at h
  refine fn_of tab_ok Try.call60 Try.func60 rfl (Nat.le_of_ble_eq_true rfl) (Nat.le_refl _) fun hU => ?_
  have hN0 : O n = none := hU.fresh _ (Nat.le_refl _)
  have hN : ∀ k, O (n + k) = none := fun k => hU.fresh _ (Nat.le_add_right _ _)
  show W _ _ _ _ ⟨83, [], [(0, .agg [.val (.int .i64 a0.Kind), .sl a0.Words.length (fl (eI .u64) a0.Words), .sl a0.Kids.length (fl e_S_api_Tree a0.Kids)]), (1, .val (.int .i64 a1))]⟩ (Loc O n []) _
  refine W_sq [1, 2] (W_regionD tab_ok [] ?_)
  simp only [push_cast, seval, ↓reduceIte, cast_lit, hN0, hN]
  refine W_seqK ?_
  refine W_sq [1, 2, 7] (W_regionD tab_ok [] ?_)
  simp only [push_cast, seval, ↓reduceIte, cast_lit, hN0, hN]
  refine W_cond (t := (a0.Kind == 0)) rfl (fun c23 => ?_) (fun c23 => ?_)
  · replace h := condT c23 h
    refine W_sq [4] (W_regionD tab_ok [none, none, none, none] ?_)
    simp only [push_cast, seval, ↓reduceIte, cast_lit, hN0, hN]
    repeat (with_reducible refine And.intro (by first | (intro h0; simp only [h0, and_self]; done) | (intro h0; simp only [h0, Bool.not_false, Bool.not_true, Bool.true_and, Bool.and_true, true_and, and_true, and_self, imp_self, implies_true, bne_iff_ne, ne_eq, beq_iff_eq]; done) | (intros; simp_all; done) | exact True.intro) ?_)
    refine W_ret ?_
    try simp only [gthen, gblock]
    have h := Option.some.inj h; subst h
    refine fin_loc (.inr rfl) hU [.val (.bool (cond ((a0.Words.length : Int) == 0) ((a0.Kids.length : Int) == 0) false))] (by omega) ?_
    simp only [push_cast, seval, ↓reduceIte, cast_lit, Try.results60, hN0, hN]
  · replace h := condF c23 h
    refine W_skip ?_
    try simp only [gthen, gblock]
    refine W_fit ⟨83, [], [(1, .val (.int .i64 a1)), (2, .ref n 0)]⟩ (Loc O n [some ⟨false, 25, 3, 1, [.val (.int .i64 a0.Kind), .sl a0.Words.length (fl (eI .u64) a0.Words), .sl a0.Kids.length (fl e_S_api_Tree a0.Kids)]⟩]) (fit_loc hU rfl rfl ?_) ?_
    · simp only [push_cast, seval, ↓reduceIte, cast_lit, hN0, hN]
    refine W_seqK ?_
    refine W_sq [1, 2, 19] (W_regionD tab_ok [] ?_)
    simp only [push_cast, seval, ↓reduceIte, cast_lit, hN0, hN]
    refine W_cond (t := (a1 == 0)) rfl (fun c22 => ?_) (fun c22 => ?_)
    · replace h := condT c22 h
      refine W_sq [4] (W_regionD tab_ok [] ?_)
      simp only [push_cast, seval, ↓reduceIte, cast_lit, hN0, hN]
      refine W_ret ?_
      try simp only [gthen, gblock]
      have h := Option.some.inj h; subst h
      refine fin_loc (.inr rfl) hU [.val (.bool false)] (by omega) ?_
      simp only [push_cast, seval, ↓reduceIte, cast_lit, Try.results60, hN0, hN]
    · replace h := condF c22 h
      refine W_skip ?_
      try simp only [gthen, gblock]
      refine W_fit ⟨83, [], [(1, .val (.int .i64 a1)), (2, .ref n 0)]⟩ (Loc O n [some ⟨false, 25, 3, 1, [.val (.int .i64 a0.Kind), .sl a0.Words.length (fl (eI .u64) a0.Words), .sl a0.Kids.length (fl e_S_api_Tree a0.Kids)]⟩]) (fit_loc hU rfl rfl ?_) ?_
      · simp only [push_cast, seval, ↓reduceIte, cast_lit, hN0, hN]
      refine W_seqK ?_
      refine W_sq [1, 2, 22] (W_regionD tab_ok [] ?_)
      simp only [push_cast, seval, ↓reduceIte, cast_lit, hN0, hN]
      refine W_cond (t := (a0.Kind == 1)) rfl (fun c21 => ?_) (fun c21 => ?_)
      · replace h := condT c21 h
        obtain ⟨z2, hz2, h⟩ := bC h
        refine W_seqN (E' := ⟨83, [], [(4, .val (.bool z2))]⟩) (O' := (Loc O n [none])) (n0 := (n + 1)) ?_ ?_
        · rcases Bool.eq_false_or_eq_true (decide ((a0.Words.length : Int) < 65536)) with c4 | c4
          · replace hz2 := condT c4 hz2
            rcases Bool.eq_false_or_eq_true (decide ((a0.Kids.length : Int) < 65536)) with c5 | c5
            · replace hz2 := condT c5 hz2
              try rw [c5] at c4
              obtain ⟨y3, hy3, hz2⟩ := bC hz2
              refine W_regionD tab_ok [none, none, none, none, some true, some true, some true, some true, some true] ?_
              simp only [push_cast, seval, ↓reduceIte, cast_lit, c4, c5, hN0, hN]
              repeat (with_reducible refine And.intro (by first | (intro h0; simp only [h0, and_self]; done) | (intro h0; simp only [h0, Bool.not_false, Bool.not_true, Bool.true_and, Bool.and_true, true_and, and_true, and_self, imp_self, implies_true, bne_iff_ne, ne_eq, beq_iff_eq]; done) | (intros; simp_all; done) | exact True.intro) ?_)
              refine (ok_r_tree_allRight hy3).then ?_
              simp only [push_cast, seval, ↓reduceIte, cast_lit, c4, c5, hN0, hN]
              repeat (with_reducible refine And.intro (by first | (intro h0; simp only [h0, and_self]; done) | (intro h0; simp only [h0, Bool.not_false, Bool.not_true, Bool.true_and, Bool.and_true, true_and, and_true, and_self, imp_self, implies_true, bne_iff_ne, ne_eq, beq_iff_eq]; done) | (intros; simp_all; done) | exact True.intro) ?_)
              have hz2 := Option.some.inj hz2; subst hz2
              refine And.intro rfl (Fit2.of (fit_loc hU rfl rfl ?_) (by omega))
              simp only [push_cast, seval, ↓reduceIte, cast_lit, c4, c5, hN0, hN]
            · replace hz2 := condF c5 hz2
              try rw [c5] at c4
              refine W_regionD tab_ok [none, none, none, none, some false, some false, some false, some false, some false] ?_
              simp only [push_cast, seval, ↓reduceIte, cast_lit, c4, c5, hN0, hN]
              repeat (with_reducible refine And.intro (by first | (intro h0; simp only [h0, and_self]; done) | (intro h0; simp only [h0, Bool.not_false, Bool.not_true, Bool.true_and, Bool.and_true, true_and, and_true, and_self, imp_self, implies_true, bne_iff_ne, ne_eq, beq_iff_eq]; done) | (intros; simp_all; done) | exact True.intro) ?_)
              have hz2 := Option.some.inj hz2; subst hz2
              refine And.intro rfl (Fit2.of (fit_loc hU rfl rfl ?_) (by omega))
              simp only [push_cast, seval, ↓reduceIte, cast_lit, c4, c5, hN0, hN]
          · replace hz2 := condF c4 hz2
            refine W_regionD tab_ok [none, none, none, none, some false, some false, some false, some false, some false] ?_
            simp only [push_cast, seval, ↓reduceIte, cast_lit, c4, hN0, hN]
            repeat (with_reducible refine And.intro (by first | (intro h0; simp only [h0, and_self]; done) | (intro h0; simp only [h0, Bool.not_false, Bool.not_true, Bool.true_and, Bool.and_true, true_and, and_true, and_self, imp_self, implies_true, bne_iff_ne, ne_eq, beq_iff_eq]; done) | (intros; simp_all; done) | exact True.intro) ?_)
            have hz2 := Option.some.inj hz2; subst hz2
            refine And.intro rfl (Fit2.of (fit_loc hU rfl rfl ?_) (by omega))
            simp only [push_cast, seval, ↓reduceIte, cast_lit, c4, hN0, hN]
        refine W_ret ?_
        try simp only [gthen, gblock]
        have h := Option.some.inj h; subst h
        refine fin_loc (.inr rfl) hU [.val (.bool z2)] (by omega) ?_
        simp only [push_cast, seval, ↓reduceIte, cast_lit, Try.results60, hN0, hN]
      · replace h := condF c21 h
        refine W_skip ?_
        try simp only [gthen, gblock]
        refine W_fit ⟨83, [], [(1, .val (.int .i64 a1)), (2, .ref n 0)]⟩ (Loc O n [some ⟨false, 25, 3, 1, [.val (.int .i64 a0.Kind), .sl a0.Words.length (fl (eI .u64) a0.Words), .sl a0.Kids.length (fl e_S_api_Tree a0.Kids)]⟩]) (fit_loc hU rfl rfl ?_) ?_
        · simp only [push_cast, seval, ↓reduceIte, cast_lit, hN0, hN]
        refine W_seqK ?_
        refine W_seqK ?_
        obtain ⟨y7, hy7, h⟩ := bC h
        refine W_regionD tab_ok [none, none, none, none, none, none, none, none] ?_
        simp only [push_cast, seval, ↓reduceIte, cast_lit, hN0, hN]
        repeat (with_reducible refine And.intro (by first | (intro h0; simp only [h0, and_self]; done) | (intro h0; simp only [h0, Bool.not_false, Bool.not_true, Bool.true_and, Bool.and_true, true_and, and_true, and_self, imp_self, implies_true, bne_iff_ne, ne_eq, beq_iff_eq]; done) | (intros; simp_all; done) | exact True.intro) ?_)
        refine (ok_tree_List hy7).then ?_
        simp only [push_cast, seval, ↓reduceIte, cast_lit, hN0, hN]
        repeat (with_reducible refine And.intro (by first | (intro h0; simp only [h0, and_self]; done) | (intro h0; simp only [h0, Bool.not_false, Bool.not_true, Bool.true_and, Bool.and_true, true_and, and_true, and_self, imp_self, implies_true, bne_iff_ne, ne_eq, beq_iff_eq]; done) | (intros; simp_all; done) | exact True.intro) ?_)
        refine W_fit ⟨83, [], [(1, .val (.int .i64 a1)), (2, .ref n 0), (55, .val (.bool (cond (cond (!y7) true (decide (0 < (a0.Words.length : Int)))) true (decide (1048576 ≤ (a0.Kids.length : Int))))))]⟩ (Loc O n [some ⟨false, 25, 3, 1, [.val (.int .i64 a0.Kind), .sl a0.Words.length (fl (eI .u64) a0.Words), .sl a0.Kids.length (fl e_S_api_Tree a0.Kids)]⟩]) (fit_loc hU rfl rfl ?_) ?_
        · simp only [push_cast, seval, ↓reduceIte, cast_lit, hN0, hN]
        refine W_cond (t := (cond (cond (!y7) true (decide (0 < (a0.Words.length : Int)))) true (decide (1048576 ≤ (a0.Kids.length : Int))))) rfl (fun c20 => ?_) (fun c20 => ?_)
        · replace h := condT c20 h
          refine W_sq [4] (W_regionD tab_ok [] ?_)
          simp only [push_cast, seval, ↓reduceIte, cast_lit, hN0, hN]
          refine W_ret ?_
          try simp only [gthen, gblock]
          have h := Option.some.inj h; subst h
          refine fin_loc (.inr rfl) hU [.val (.bool false)] (by omega) ?_
          simp only [push_cast, seval, ↓reduceIte, cast_lit, Try.results60, hN0, hN]
        · replace h := condF c20 h
          refine W_skip ?_
          try simp only [gthen, gblock]
          refine W_fit ⟨83, [], [(1, .val (.int .i64 a1)), (2, .ref n 0)]⟩ (Loc O n [some ⟨false, 25, 3, 1, [.val (.int .i64 a0.Kind), .sl a0.Words.length (fl (eI .u64) a0.Words), .sl a0.Kids.length (fl e_S_api_Tree a0.Kids)]⟩]) (fit_loc hU rfl rfl ?_) ?_
          · simp only [push_cast, seval, ↓reduceIte, cast_lit, hN0, hN]
          refine W_seqK ?_
          refine W_sq [1, 2, 57] (W_regionD tab_ok [] ?_)
          simp only [push_cast, seval, ↓reduceIte, cast_lit, hN0, hN]
          refine W_block ?_
          refine W_sq [1, 2, 57, 58] (W_regionD tab_ok [] ?_)
          simp only [push_cast, seval, ↓reduceIte, cast_lit, hN0, hN]
          refine W_cond (t := (a0.Kind == 8)) rfl (fun c19 => ?_) (fun c19 => ?_)
          · replace h := condT c19 h
            refine W_seqK ?_
            obtain ⟨y9, hy9, h⟩ := bC h
            refine W_regionD tab_ok [] ?_
            simp only [push_cast, seval, ↓reduceIte, cast_lit, hN0, hN]
            refine (ok_r_tree_allRight hy9).then ?_
            simp only [push_cast, seval, ↓reduceIte, cast_lit, hN0, hN]
            refine W_fit ⟨83, [], [(4, .val (.bool y9))]⟩ (Loc O n [none]) (fit_loc hU rfl rfl ?_) ?_
            · simp only [push_cast, seval, ↓reduceIte, cast_lit, hN0, hN]
            refine W_ret ?_
            try simp only [gthen, gblock]
            have h := Option.some.inj h; subst h
            refine fin_loc (.inr rfl) hU [.val (.bool y9)] (by omega) ?_
            simp only [push_cast, seval, ↓reduceIte, cast_lit, Try.results60, hN0, hN]
          · replace h := condF c19 h
            refine W_sq [1, 2, 65] (W_regionD tab_ok [] ?_)
            simp only [push_cast, seval, ↓reduceIte, cast_lit, hN0, hN]
            refine W_cond (t := (a0.Kind == 9)) rfl (fun c18 => ?_) (fun c18 => ?_)
            · replace h := condT c18 h
              obtain ⟨z12, hz12, h⟩ := bC h
              refine W_seqN (E' := ⟨83, [], [(4, .val (.bool z12))]⟩) (O' := (Loc O n [none])) (n0 := (n + 1)) ?_ ?_
              · obtain ⟨y13, hy13, hz12⟩ := bC hz12
                rcases Bool.eq_false_or_eq_true y13 with c15 | c15
                · replace hz12 := condT c15 hz12
                  obtain ⟨y14, hy14, hz12⟩ := bC hz12
                  refine W_regionD tab_ok [some true, some true, some true, some true, some true] ?_
                  simp only [push_cast, seval, ↓reduceIte, cast_lit, c15, hN0, hN]
                  refine (ok_tree_allStructs hy13).then ?_
                  simp only [push_cast, seval, ↓reduceIte, cast_lit, c15, hN0, hN]
                  refine (ok_r_tree_allRight hy14).then ?_
                  simp only [push_cast, seval, ↓reduceIte, cast_lit, c15, hN0, hN]
                  have hz12 := Option.some.inj hz12; subst hz12
                  refine And.intro rfl (Fit2.of (fit_loc hU rfl rfl ?_) (by omega))
                  simp only [push_cast, seval, ↓reduceIte, cast_lit, c15, hN0, hN]
                · replace hz12 := condF c15 hz12
                  refine W_regionD tab_ok [some false, some false, some false, some false, some false] ?_
                  simp only [push_cast, seval, ↓reduceIte, cast_lit, c15, hN0, hN]
                  refine (ok_tree_allStructs hy13).then ?_
                  simp only [push_cast, seval, ↓reduceIte, cast_lit, c15, hN0, hN]
                  have hz12 := Option.some.inj hz12; subst hz12
                  refine And.intro rfl (Fit2.of (fit_loc hU rfl rfl ?_) (by omega))
                  simp only [push_cast, seval, ↓reduceIte, cast_lit, c15, hN0, hN]
              refine W_ret ?_
              try simp only [gthen, gblock]
              have h := Option.some.inj h; subst h
              refine fin_loc (.inr rfl) hU [.val (.bool z12)] (by omega) ?_
              simp only [push_cast, seval, ↓reduceIte, cast_lit, Try.results60, hN0, hN]
            · replace h := condF c18 h
              refine W_skip ?_
              try simp only [gthen, gblock]
              refine W_fit ⟨83, [], [(2, .ref n 0)]⟩ (Loc O n [some ⟨false, 25, 3, 1, [.val (.int .i64 a0.Kind), .sl a0.Words.length (fl (eI .u64) a0.Words), .sl a0.Kids.length (fl e_S_api_Tree a0.Kids)]⟩]) (fit_loc hU rfl rfl ?_) ?_
              · simp only [push_cast, seval, ↓reduceIte, cast_lit, hN0, hN]
              refine W_seqK ?_
              obtain ⟨y17, hy17, h⟩ := bC h
              refine W_regionD tab_ok [] ?_
              simp only [push_cast, seval, ↓reduceIte, cast_lit, hN0, hN]
              refine (ok_r_tree_allAtoms hy17).then ?_
              simp only [push_cast, seval, ↓reduceIte, cast_lit, hN0, hN]
              refine W_fit ⟨83, [], [(4, .val (.bool y17))]⟩ (Loc O n [none]) (fit_loc hU rfl rfl ?_) ?_
              · simp only [push_cast, seval, ↓reduceIte, cast_lit, hN0, hN]
              refine W_ret ?_
              try simp only [gthen, gblock]
              have h := Option.some.inj h; subst h
              refine fin_loc (.inr rfl) hU [.val (.bool y17)] (by omega) ?_
              simp only [push_cast, seval, ↓reduceIte, cast_lit, Try.results60, hN0, hN]

theorem okb_tree_allRight {r_tree_Right : (S_api_Tree → Option Bool)} {r_tree_right : (S_api_Tree → Int → Option Bool)} {r_tree_allRight : ((List S_api_Tree) → Int → Option Bool)} {r_tree_allAtoms : ((List S_api_Tree) → Int → Option Bool)} (ok_r_tree_Right : ∀ {a0 : S_api_Tree} {r : Bool} {O : Objs} {n : Nat}, r_tree_Right a0 = some r → GTo Try.prog 17 [.agg [.val (.int .i64 a0.Kind), .sl a0.Words.length (fl (eI .u64) a0.Words), .sl a0.Kids.length (fl e_S_api_Tree a0.Kids)]] O n (.val (.bool r)) O n) (ok_r_tree_right : ∀ {a0 : S_api_Tree} {a1 : Int} {r : Bool} {O : Objs} {n : Nat}, r_tree_right a0 a1 = some r → GTo Try.prog 60 [.agg [.val (.int .i64 a0.Kind), .sl a0.Words.length (fl (eI .u64) a0.Words), .sl a0.Kids.length (fl e_S_api_Tree a0.Kids)], .val (.int .i64 a1)] O n (.val (.bool r)) O n) (ok_r_tree_allRight : ∀ {a0 : (List S_api_Tree)} {a1 : Int} {r : Bool} {O : Objs} {n : Nat}, r_tree_allRight a0 a1 = some r → GTo Try.prog 89 [.sl a0.length (fl e_S_api_Tree a0), .val (.int .i64 a1)] O n (.val (.bool r)) O n) (ok_r_tree_allAtoms : ∀ {a0 : (List S_api_Tree)} {a1 : Int} {r : Bool} {O : Objs} {n : Nat}, r_tree_allAtoms a0 a1 = some r → GTo Try.prog 91 [.sl a0.length (fl e_S_api_Tree a0), .val (.int .i64 a1)] O n (.val (.bool r)) O n) {a0 : (List S_api_Tree)} {a1 : Int} {r : Bool} {O : Objs} {n : Nat} (h : b_tree_allRight r_tree_Right r_tree_right r_tree_allRight r_tree_allAtoms a0 a1 = some r) : GTo Try.prog 89 [.sl a0.length (fl e_S_api_Tree a0), .val (.int .i64 a1)] O n (.val (.bool r)) O n := by
  unfold b_tree_allRight at h
  refine fn_of tab_ok Try.call89 Try.func89 rfl (Nat.le_of_ble_eq_true rfl) (Nat.le_refl _) fun hU => ?_
  have hN0 : O n = none := hU.fresh _ (Nat.le_refl _)
  have hN : ∀ k, O (n + k) = none := fun k => hU.fresh _ (Nat.le_add_right _ _)
  show W _ _ _ _ ⟨18, [], [(0, .sl a0.length (fl e_S_api_Tree a0)), (1, .val (.int .i64 a1))]⟩ (Loc O n []) _
  refine W_sq [0, 1] (W_regionD tab_ok [] ?_)
  simp only [push_cast, seval, ↓reduceIte, cast_lit, hN0, hN]
  refine W_seqK ?_
  refine W_sq [1, 7, 8, 9] (W_regionD tab_ok [] ?_)
  simp only [push_cast, seval, ↓reduceIte, cast_lit, hN0, hN]
  refine W_fit ⟨18, [], [(1, .val (.int .i64 a1)), (7, .sl a0.length (fl e_S_api_Tree a0)), (8, .val (.int .i64 (a0.length : Int))), (9, .val (.int .i64 0))]⟩ (Loc O n []) (fit_loc hU rfl rfl ?_) ?_
  · simp only [push_cast, seval, ↓reduceIte, cast_lit, hN0, hN]
  obtain ⟨z7, hz7, h⟩ := bC h
  refine W_sumB (J := (SumJ (fun z7 => JR n (⟨18, [], [(4, .val (.bool false))]⟩ : Env) (Loc O n []) n) (fun z7 => JX 0 n (⟨18, [], []⟩ : Env) (Loc O n []) n))) (z := z7) ?_ fun hw => ?_
  · refine W_loopJ hz7 (fun s0_ => ⟨18, [], [(1, .val (.int .i64 a1)), (7, .sl a0.length (fl e_S_api_Tree a0)), (8, .val (.int .i64 (a0.length : Int))), (9, .val (.int .i64 s0_))]⟩) (fun s0_ => (Loc O n [])) (SumJ (fun z7 => JR n (⟨18, [], [(4, .val (.bool false))]⟩ : Env) (Loc O n []) n) (fun z7 => JX 0 n (⟨18, [], []⟩ : Env) (Loc O n []) n)) ?_
    intro s0_ x0_ hs0_
    unfold b_tree_allRight_L0 at hs0_
    try dsimp only
    refine W_sq [1, 7, 8, 9, 10] (W_regionD tab_ok [] ?_)
    simp only [push_cast, seval, ↓reduceIte, cast_lit, hN0, hN]
    refine W_seqK ?_
    refine W_cond (t := (decide (s0_ < (a0.length : Int)))) rfl (fun c6 => ?_) (fun c6 => ?_)
    · replace hs0_ := condT c6 hs0_
      refine W_skip ?_
      try simp only [gthen, gblock]
      refine W_fit ⟨18, [], [(1, .val (.int .i64 a1)), (7, .sl a0.length (fl e_S_api_Tree a0)), (8, .val (.int .i64 (a0.length : Int))), (9, .val (.int .i64 s0_))]⟩ (Loc O n []) (fit_loc hU rfl rfl ?_) ?_
      · simp only [push_cast, seval, ↓reduceIte, cast_lit, hN0, hN]
      refine W_seqK ?_
      refine W_block ?_
      refine W_seqK ?_
      obtain ⟨x2, hx2, ax2, bx2, cx2, hs0_⟩ := bE (f := e_S_api_Tree) tab25 (fun _ => rfl) (by decide) hs0_
      refine W_regionD tab_ok [] ?_
      simp only [push_cast, Nat.reduceAdd, Nat.reduceSub, Nat.reduceMul, Nat.reduceLeDiff, Nat.reduceLT, Nat.reduceEqDiff, ↓reduceIte, reduceCtorEq, Int.reduceBEq, Int.reduceBNe, Nat.reduceBEq, Int.reduceLE, Int.reduceLT, Int.reduceEq, Int.reduceNe, Int.reduceNeg, Nat.reduceDiv, Nat.reduceMod, Nat.reducePow, cast_lit, ax2, bx2, cx2, hN0, hN]
      refine W_fit ⟨18, [], [(1, .val (.int .i64 a1)), (6, .ref n 0), (7, .sl a0.length (fl e_S_api_Tree a0)), (8, .val (.int .i64 (a0.length : Int))), (9, .val (.int .i64 s0_))]⟩ (Loc O n [some ⟨false, 25, 3, 1, [.val (.int .i64 x2.Kind), .sl x2.Words.length (fl (eI .u64) x2.Words), .sl x2.Kids.length (fl e_S_api_Tree x2.Kids)]⟩]) (fit_loc hU rfl rfl ?_) ?_
      · simp only [push_cast, Nat.reduceAdd, Nat.reduceSub, Nat.reduceMul, Nat.reduceLeDiff, Nat.reduceLT, Nat.reduceEqDiff, ↓reduceIte, reduceCtorEq, Int.reduceBEq, Int.reduceBNe, Nat.reduceBEq, Int.reduceLE, Int.reduceLT, Int.reduceEq, Int.reduceNe, Int.reduceNeg, Nat.reduceDiv, Nat.reduceMod, Nat.reducePow, cast_lit, ax2, bx2, cx2, hN0, hN]
      refine W_seqK ?_
      obtain ⟨y4, hy4, hs0_⟩ := bC hs0_
      refine W_regionD tab_ok [] ?_
      simp only [push_cast, seval, ↓reduceIte, cast_lit, hN0, hN]
      refine (ok_r_tree_right hy4).then ?_
      simp only [push_cast, seval, ↓reduceIte, cast_lit, hN0, hN]
      refine W_fit ⟨18, [], [(1, .val (.int .i64 a1)), (7, .sl a0.length (fl e_S_api_Tree a0)), (8, .val (.int .i64 (a0.length : Int))), (9, .val (.int .i64 s0_)), (16, .val (.bool (!y4)))]⟩ (Loc O n [none]) (fit_loc hU rfl rfl ?_) ?_
      · simp only [push_cast, seval, ↓reduceIte, cast_lit, hN0, hN]
      refine W_cond (t := (!y4)) rfl (fun c5 => ?_) (fun c5 => ?_)
      · replace hs0_ := condT c5 hs0_
        refine W_sq [4] (W_regionD tab_ok [] ?_)
        simp only [push_cast, seval, ↓reduceIte, cast_lit, hN0, hN]
        refine W_ret ?_
        try simp only [gthen, gblock]
        have hs0_ := Option.some.inj hs0_; subst hs0_
        refine And.intro (fun h => by cases h) (And.intro rfl (Fit2.of (fit_loc hU rfl rfl ?_) (by omega)))
        simp only [push_cast, seval, ↓reduceIte, cast_lit, hN0, hN]
      · replace hs0_ := condF c5 hs0_
        refine W_skip ?_
        try simp only [gthen, gblock]
        refine W_fit ⟨18, [], [(1, .val (.int .i64 a1)), (7, .sl a0.length (fl e_S_api_Tree a0)), (8, .val (.int .i64 (a0.length : Int))), (9, .val (.int .i64 s0_))]⟩ (Loc O n [none]) (fit_loc hU rfl rfl ?_) ?_
        · simp only [push_cast, seval, ↓reduceIte, cast_lit, hN0, hN]
        refine W_regionD tab_ok [] ?_
        simp only [push_cast, seval, ↓reduceIte, cast_lit, hN0, hN]
        have hs0_ := Option.some.inj hs0_; subst hs0_
        refine And.intro rfl (Fit2.of (fit_loc hU rfl rfl ?_) (by omega))
        simp only [push_cast, seval, ↓reduceIte, cast_lit, hN0, hN]
    · replace hs0_ := condF c6 hs0_
      refine W_exit ?_
      try simp only [gthen, gblock, ↓reduceIte, Nat.reduceEqDiff]
      have hs0_ := Option.some.inj hs0_; subst hs0_
      refine And.intro (fun h => by cases h) (And.intro rfl (Fit2.of (fit_loc hU rfl rfl ?_) (by omega)))
      simp only [push_cast, seval, ↓reduceIte, cast_lit, hN0, hN]
  rcases z7 with z7 | z7
  · dsimp only [SumJ] at hw h
    refine W_blockR hw ?_
    try simp only [gthen, gblock, ↓reduceIte, Nat.reduceEqDiff]
    have h := Option.some.inj h; subst h
    refine fin_loc (.inr rfl) hU [.val (.bool false)] (by omega) ?_
    simp only [push_cast, seval, ↓reduceIte, cast_lit, Try.results89, hN0, hN]
  · dsimp only [SumJ] at hw h
    refine W_blockX hw ?_
    try simp only [gthen, gblock, ↓reduceIte, Nat.reduceEqDiff]
    refine W_fit ⟨18, [], []⟩ (Loc O n []) (fit_loc hU rfl rfl ?_) ?_
    · simp only [push_cast, seval, ↓reduceIte, cast_lit, hN0, hN]
    refine W_sq [4] (W_regionD tab_ok [] ?_)
    simp only [push_cast, seval, ↓reduceIte, cast_lit, hN0, hN]
    refine W_ret ?_
    try simp only [gthen, gblock]
    have h := Option.some.inj h; subst h
    refine fin_loc (.inr rfl) hU [.val (.bool true)] (by omega) ?_
    simp only [push_cast, seval, ↓reduceIte, cast_lit, Try.results89, hN0, hN]

theorem okb_tree_allAtoms {r_tree_Right : (S_api_Tree → Option Bool)} {r_tree_right : (S_api_Tree → Int → Option Bool)} {r_tree_allRight : ((List S_api_Tree) → Int → Option Bool)} {r_tree_allAtoms : ((List S_api_Tree) → Int → Option Bool)} (ok_r_tree_Right : ∀ {a0 : S_api_Tree} {r : Bool} {O : Objs} {n : Nat}, r_tree_Right a0 = some r → GTo Try.prog 17 [.agg [.val (.int .i64 a0.Kind), .sl a0.Words.length (fl (eI .u64) a0.Words), .sl a0.Kids.length (fl e_S_api_Tree a0.Kids)]] O n (.val (.bool r)) O n) (ok_r_tree_right : ∀ {a0 : S_api_Tree} {a1 : Int} {r : Bool} {O : Objs} {n : Nat}, r_tree_right a0 a1 = some r → GTo Try.prog 60 [.agg [.val (.int .i64 a0.Kind), .sl a0.Words.length (fl (eI .u64) a0.Words), .sl a0.Kids.length (fl e_S_api_Tree a0.Kids)], .val (.int .i64 a1)] O n (.val (.bool r)) O n) (ok_r_tree_allRight : ∀ {a0 : (List S_api_Tree)} {a1 : Int} {r : Bool} {O : Objs} {n : Nat}, r_tree_allRight a0 a1 = some r → GTo Try.prog 89 [.sl a0.length (fl e_S_api_Tree a0), .val (.int .i64 a1)] O n (.val (.bool r)) O n) (ok_r_tree_allAtoms : ∀ {a0 : (List S_api_Tree)} {a1 : Int} {r : Bool} {O : Objs} {n : Nat}, r_tree_allAtoms a0 a1 = some r → GTo Try.prog 91 [.sl a0.length (fl e_S_api_Tree a0), .val (.int .i64 a1)] O n (.val (.bool r)) O n) {a0 : (List S_api_Tree)} {a1 : Int} {r : Bool} {O : Objs} {n : Nat} (h : b_tree_allAtoms r_tree_Right r_tree_right r_tree_allRight r_tree_allAtoms a0 a1 = some r) : GTo Try.prog 91 [.sl a0.length (fl e_S_api_Tree a0), .val (.int .i64 a1)] O n (.val (.bool r)) O n := by
  unfold b_tree_allAtoms at h
  refine fn_of tab_ok Try.call91 Try.func91 rfl (Nat.le_of_ble_eq_true rfl) (Nat.le_refl _) fun hU => ?_
  have hN0 : O n = none := hU.fresh _ (Nat.le_refl _)
  have hN : ∀ k, O (n + k) = none := fun k => hU.fresh _ (Nat.le_add_right _ _)
  show W _ _ _ _ ⟨31, [], [(0, .sl a0.length (fl e_S_api_Tree a0)), (1, .val (.int .i64 a1))]⟩ (Loc O n []) _
  refine W_sq [0, 1] (W_regionD tab_ok [] ?_)
  simp only [push_cast, seval, ↓reduceIte, cast_lit, hN0, hN]
  refine W_seqK ?_
  refine W_sq [1, 7, 8, 9] (W_regionD tab_ok [] ?_)
  simp only [push_cast, seval, ↓reduceIte, cast_lit, hN0, hN]
  refine W_fit ⟨31, [], [(1, .val (.int .i64 a1)), (7, .sl a0.length (fl e_S_api_Tree a0)), (8, .val (.int .i64 (a0.length : Int))), (9, .val (.int .i64 0))]⟩ (Loc O n []) (fit_loc hU rfl rfl ?_) ?_
  · simp only [push_cast, seval, ↓reduceIte, cast_lit, hN0, hN]
  obtain ⟨z14, hz14, h⟩ := bC h
  refine W_sumB (J := (SumJ (fun z14 => JR n (⟨31, [], [(4, .val (.bool false))]⟩ : Env) (Loc O n []) n) (fun z14 => JX 0 n (⟨31, [], []⟩ : Env) (Loc O n []) n))) (z := z14) ?_ fun hw => ?_
  · refine W_loopJ hz14 (fun s0_ => ⟨31, [], [(1, .val (.int .i64 a1)), (7, .sl a0.length (fl e_S_api_Tree a0)), (8, .val (.int .i64 (a0.length : Int))), (9, .val (.int .i64 s0_))]⟩) (fun s0_ => (Loc O n [])) (SumJ (fun z14 => JR n (⟨31, [], [(4, .val (.bool false))]⟩ : Env) (Loc O n []) n) (fun z14 => JX 0 n (⟨31, [], []⟩ : Env) (Loc O n []) n)) ?_
    intro s0_ x0_ hs0_
    unfold b_tree_allAtoms_L0 at hs0_
    try dsimp only
    refine W_sq [1, 7, 8, 9, 10] (W_regionD tab_ok [] ?_)
    simp only [push_cast, seval, ↓reduceIte, cast_lit, hN0, hN]
    refine W_seqK ?_
    refine W_cond (t := (decide (s0_ < (a0.length : Int)))) rfl (fun c13 => ?_) (fun c13 => ?_)
    · replace hs0_ := condT c13 hs0_
      refine W_skip ?_
      try simp only [gthen, gblock]
      refine W_fit ⟨31, [], [(1, .val (.int .i64 a1)), (7, .sl a0.length (fl e_S_api_Tree a0)), (8, .val (.int .i64 (a0.length : Int))), (9, .val (.int .i64 s0_))]⟩ (Loc O n []) (fit_loc hU rfl rfl ?_) ?_
      · simp only [push_cast, seval, ↓reduceIte, cast_lit, hN0, hN]
      refine W_seqK ?_
      refine W_block ?_
      refine W_seqK ?_
      obtain ⟨x2, hx2, ax2, bx2, cx2, hs0_⟩ := bE (f := e_S_api_Tree) tab25 (fun _ => rfl) (by decide) hs0_
      refine W_regionD tab_ok [] ?_
      simp only [push_cast, Nat.reduceAdd, Nat.reduceSub, Nat.reduceMul, Nat.reduceLeDiff, Nat.reduceLT, Nat.reduceEqDiff, ↓reduceIte, reduceCtorEq, Int.reduceBEq, Int.reduceBNe, Nat.reduceBEq, Int.reduceLE, Int.reduceLT, Int.reduceEq, Int.reduceNe, Int.reduceNeg, Nat.reduceDiv, Nat.reduceMod, Nat.reducePow, cast_lit, ax2, bx2, cx2, hN0, hN]
      refine W_fit ⟨31, [], [(1, .val (.int .i64 a1)), (6, .ref n 0), (7, .sl a0.length (fl e_S_api_Tree a0)), (8, .val (.int .i64 (a0.length : Int))), (9, .val (.int .i64 s0_))]⟩ (Loc O n [some ⟨false, 25, 3, 1, [.val (.int .i64 x2.Kind), .sl x2.Words.length (fl (eI .u64) x2.Words), .sl x2.Kids.length (fl e_S_api_Tree x2.Kids)]⟩]) (fit_loc hU rfl rfl ?_) ?_
      · simp only [push_cast, Nat.reduceAdd, Nat.reduceSub, Nat.reduceMul, Nat.reduceLeDiff, Nat.reduceLT, Nat.reduceEqDiff, ↓reduceIte, reduceCtorEq, Int.reduceBEq, Int.reduceBNe, Nat.reduceBEq, Int.reduceLE, Int.reduceLT, Int.reduceEq, Int.reduceNe, Int.reduceNeg, Nat.reduceDiv, Nat.reduceMod, Nat.reducePow, cast_lit, ax2, bx2, cx2, hN0, hN]
      obtain ⟨z6, hz6, hs0_⟩ := bC hs0_
      refine W_seqN (E' := ⟨31, [], [(1, .val (.int .i64 a1)), (7, .sl a0.length (fl e_S_api_Tree a0)), (8, .val (.int .i64 (a0.length : Int))), (9, .val (.int .i64 s0_)), (29, .val (.bool z6))]⟩) (O' := (Loc O n [none])) (n0 := (n + 1)) ?_ ?_
      · rcases Bool.eq_false_or_eq_true (x2.Kind != 10) with c10 | c10
        · replace hz6 := condT c10 hz6
          refine W_regionD tab_ok [some false, some false, some false, some false, some false, some false, some false, some false, some false, some false] ?_
          simp only [push_cast, seval, ↓reduceIte, cast_lit, c10, hN0, hN]
          have hz6 := Option.some.inj hz6; subst hz6
          refine And.intro rfl (Fit2.of (fit_loc hU rfl rfl ?_) (by omega))
          simp only [push_cast, seval, ↓reduceIte, cast_lit, c10, hN0, hN]
        · replace hz6 := condF c10 hz6
          obtain ⟨y7, hy7, hz6⟩ := bC hz6
          rcases Bool.eq_false_or_eq_true y7 with c11 | c11
          · replace hz6 := condT c11 hz6
            try rw [c11] at c10
            obtain ⟨x8, hx8, ax8, bx8, cx8, hz6⟩ := bE (f := (eI .u64)) tab71 (fun _ => rfl) (by decide) hz6
            obtain ⟨y9, hy9, hz6⟩ := bC hz6
            refine W_regionD tab_ok [some true, some true, some true, some true, some true, some true, some true, some true, some true, some true] ?_
            simp only [push_cast, Nat.reduceAdd, Nat.reduceSub, Nat.reduceMul, Nat.reduceLeDiff, Nat.reduceLT, Nat.reduceEqDiff, ↓reduceIte, reduceCtorEq, Int.reduceBEq, Int.reduceBNe, Nat.reduceBEq, Int.reduceLE, Int.reduceLT, Int.reduceEq, Int.reduceNe, Int.reduceNeg, Nat.reduceDiv, Nat.reduceMod, Nat.reducePow, cast_lit, c10, c11, ax8, bx8, cx8, hN0, hN]
            refine (ok_r_tree_Right hy7).then ?_
            simp only [push_cast, Nat.reduceAdd, Nat.reduceSub, Nat.reduceMul, Nat.reduceLeDiff, Nat.reduceLT, Nat.reduceEqDiff, ↓reduceIte, reduceCtorEq, Int.reduceBEq, Int.reduceBNe, Nat.reduceBEq, Int.reduceLE, Int.reduceLT, Int.reduceEq, Int.reduceNe, Int.reduceNeg, Nat.reduceDiv, Nat.reduceMod, Nat.reducePow, cast_lit, c10, c11, ax8, bx8, cx8, hN0, hN]
            refine (ok_word_Fits hy9).then ?_
            simp only [push_cast, Nat.reduceAdd, Nat.reduceSub, Nat.reduceMul, Nat.reduceLeDiff, Nat.reduceLT, Nat.reduceEqDiff, ↓reduceIte, reduceCtorEq, Int.reduceBEq, Int.reduceBNe, Nat.reduceBEq, Int.reduceLE, Int.reduceLT, Int.reduceEq, Int.reduceNe, Int.reduceNeg, Nat.reduceDiv, Nat.reduceMod, Nat.reducePow, cast_lit, c10, c11, ax8, bx8, cx8, hN0, hN]
            have hz6 := Option.some.inj hz6; subst hz6
            refine And.intro rfl (Fit2.of (fit_loc hU rfl rfl ?_) (by omega))
            simp only [push_cast, Nat.reduceAdd, Nat.reduceSub, Nat.reduceMul, Nat.reduceLeDiff, Nat.reduceLT, Nat.reduceEqDiff, ↓reduceIte, reduceCtorEq, Int.reduceBEq, Int.reduceBNe, Nat.reduceBEq, Int.reduceLE, Int.reduceLT, Int.reduceEq, Int.reduceNe, Int.reduceNeg, Nat.reduceDiv, Nat.reduceMod, Nat.reducePow, cast_lit, c10, c11, ax8, bx8, cx8, hN0, hN]
          · replace hz6 := condF c11 hz6
            try rw [c11] at c10
            refine W_regionD tab_ok [some true, some true, some true, some false, some false, some false, some false, some false, some false, some false] ?_
            simp only [push_cast, seval, ↓reduceIte, cast_lit, c10, c11, hN0, hN]
            refine (ok_r_tree_Right hy7).then ?_
            simp only [push_cast, seval, ↓reduceIte, cast_lit, c10, c11, hN0, hN]
            have hz6 := Option.some.inj hz6; subst hz6
            refine And.intro rfl (Fit2.of (fit_loc hU rfl rfl ?_) (by omega))
            simp only [push_cast, seval, ↓reduceIte, cast_lit, c10, c11, hN0, hN]
      refine W_cond (t := z6) rfl (fun c12 => ?_) (fun c12 => ?_)
      · replace hs0_ := condT c12 hs0_
        refine W_sq [4] (W_regionD tab_ok [] ?_)
        simp only [push_cast, seval, ↓reduceIte, cast_lit, hN0, hN]
        refine W_ret ?_
        try simp only [gthen, gblock]
        have hs0_ := Option.some.inj hs0_; subst hs0_
        refine And.intro (fun h => by cases h) (And.intro rfl (Fit2.of (fit_loc hU rfl rfl ?_) (by omega)))
        simp only [push_cast, seval, ↓reduceIte, cast_lit, hN0, hN]
      · replace hs0_ := condF c12 hs0_
        refine W_skip ?_
        try simp only [gthen, gblock]
        refine W_fit ⟨31, [], [(1, .val (.int .i64 a1)), (7, .sl a0.length (fl e_S_api_Tree a0)), (8, .val (.int .i64 (a0.length : Int))), (9, .val (.int .i64 s0_))]⟩ (Loc O n [none]) (fit_loc hU rfl rfl ?_) ?_
        · simp only [push_cast, seval, ↓reduceIte, cast_lit, hN0, hN]
        refine W_regionD tab_ok [] ?_
        simp only [push_cast, seval, ↓reduceIte, cast_lit, hN0, hN]
        have hs0_ := Option.some.inj hs0_; subst hs0_
        refine And.intro rfl (Fit2.of (fit_loc hU rfl rfl ?_) (by omega))
        simp only [push_cast, seval, ↓reduceIte, cast_lit, hN0, hN]
    · replace hs0_ := condF c13 hs0_
      refine W_exit ?_
      try simp only [gthen, gblock, ↓reduceIte, Nat.reduceEqDiff]
      have hs0_ := Option.some.inj hs0_; subst hs0_
      refine And.intro (fun h => by cases h) (And.intro rfl (Fit2.of (fit_loc hU rfl rfl ?_) (by omega)))
      simp only [push_cast, seval, ↓reduceIte, cast_lit, hN0, hN]
  rcases z14 with z14 | z14
  · dsimp only [SumJ] at hw h
    refine W_blockR hw ?_
    try simp only [gthen, gblock, ↓reduceIte, Nat.reduceEqDiff]
    have h := Option.some.inj h; subst h
    refine fin_loc (.inr rfl) hU [.val (.bool false)] (by omega) ?_
    simp only [push_cast, seval, ↓reduceIte, cast_lit, Try.results91, hN0, hN]
  · dsimp only [SumJ] at hw h
    refine W_blockX hw ?_
    try simp only [gthen, gblock, ↓reduceIte, Nat.reduceEqDiff]
    refine W_fit ⟨31, [], []⟩ (Loc O n []) (fit_loc hU rfl rfl ?_) ?_
    · simp only [push_cast, seval, ↓reduceIte, cast_lit, hN0, hN]
    refine W_sq [4] (W_regionD tab_ok [] ?_)
    simp only [push_cast, seval, ↓reduceIte, cast_lit, hN0, hN]
    refine W_ret ?_
    try simp only [gthen, gblock]
    have h := Option.some.inj h; subst h
    refine fin_loc (.inr rfl) hU [.val (.bool true)] (by omega) ?_
    simp only [push_cast, seval, ↓reduceIte, cast_lit, Try.results91, hN0, hN]

theorem lv_tree_Right_ok : ∀ k, (∀ {a0 : S_api_Tree} {r : Bool} {O : Objs} {n : Nat}, (lv_tree_Right k).1 a0 = some r → GTo Try.prog 17 [.agg [.val (.int .i64 a0.Kind), .sl a0.Words.length (fl (eI .u64) a0.Words), .sl a0.Kids.length (fl e_S_api_Tree a0.Kids)]] O n (.val (.bool r)) O n) ∧ (∀ {a0 : S_api_Tree} {a1 : Int} {r : Bool} {O : Objs} {n : Nat}, (lv_tree_Right k).2.1 a0 a1 = some r → GTo Try.prog 60 [.agg [.val (.int .i64 a0.Kind), .sl a0.Words.length (fl (eI .u64) a0.Words), .sl a0.Kids.length (fl e_S_api_Tree a0.Kids)], .val (.int .i64 a1)] O n (.val (.bool r)) O n) ∧ (∀ {a0 : (List S_api_Tree)} {a1 : Int} {r : Bool} {O : Objs} {n : Nat}, (lv_tree_Right k).2.2.1 a0 a1 = some r → GTo Try.prog 89 [.sl a0.length (fl e_S_api_Tree a0), .val (.int .i64 a1)] O n (.val (.bool r)) O n) ∧ (∀ {a0 : (List S_api_Tree)} {a1 : Int} {r : Bool} {O : Objs} {n : Nat}, (lv_tree_Right k).2.2.2 a0 a1 = some r → GTo Try.prog 91 [.sl a0.length (fl e_S_api_Tree a0), .val (.int .i64 a1)] O n (.val (.bool r)) O n) := fun k => by
  induction k with
  | zero => exact ⟨@fun a0 r O n h => (nomatch (show (none : Option _) = some _ from h)), @fun a0 a1 r O n h => (nomatch (show (none : Option _) = some _ from h)), @fun a0 a1 r O n h => (nomatch (show (none : Option _) = some _ from h)), @fun a0 a1 r O n h => (nomatch (show (none : Option _) = some _ from h))⟩
  | succ k ih => exact ⟨@fun a0 r O n h => okb_tree_Right (ih.1) (ih.2.1) (ih.2.2.1) (ih.2.2.2)  h, @fun a0 a1 r O n h => okb_tree_right (ih.1) (ih.2.1) (ih.2.2.1) (ih.2.2.2)  h, @fun a0 a1 r O n h => okb_tree_allRight (ih.1) (ih.2.1) (ih.2.2.1) (ih.2.2.2)  h, @fun a0 a1 r O n h => okb_tree_allAtoms (ih.1) (ih.2.1) (ih.2.2.1) (ih.2.2.2)  h⟩

theorem ok_tree_Right {a0 : S_api_Tree} {r : Bool} {O : Objs} {n : Nat} (h : m_tree_Right a0 = some r) : GTo Try.prog 17 [.agg [.val (.int .i64 a0.Kind), .sl a0.Words.length (fl (eI .u64) a0.Words), .sl a0.Kids.length (fl e_S_api_Tree a0.Kids)]] O n (.val (.bool r)) O n := by
  obtain ⟨k, hk⟩ := lim_some h
  exact (lv_tree_Right_ok k).1  hk

theorem ok_tree_right {a0 : S_api_Tree} {a1 : Int} {r : Bool} {O : Objs} {n : Nat} (h : m_tree_right a0 a1 = some r) : GTo Try.prog 60 [.agg [.val (.int .i64 a0.Kind), .sl a0.Words.length (fl (eI .u64) a0.Words), .sl a0.Kids.length (fl e_S_api_Tree a0.Kids)], .val (.int .i64 a1)] O n (.val (.bool r)) O n := by
  obtain ⟨k, hk⟩ := lim_some h
  exact (lv_tree_Right_ok k).2.1  hk

theorem ok_tree_allRight {a0 : (List S_api_Tree)} {a1 : Int} {r : Bool} {O : Objs} {n : Nat} (h : m_tree_allRight a0 a1 = some r) : GTo Try.prog 89 [.sl a0.length (fl e_S_api_Tree a0), .val (.int .i64 a1)] O n (.val (.bool r)) O n := by
  obtain ⟨k, hk⟩ := lim_some h
  exact (lv_tree_Right_ok k).2.2.1  hk

theorem ok_tree_allAtoms {a0 : (List S_api_Tree)} {a1 : Int} {r : Bool} {O : Objs} {n : Nat} (h : m_tree_allAtoms a0 a1 = some r) : GTo Try.prog 91 [.sl a0.length (fl e_S_api_Tree a0), .val (.int .i64 a1)] O n (.val (.bool r)) O n := by
  obtain ⟨k, hk⟩ := lim_some h
  exact (lv_tree_Right_ok k).2.2.2  hk

theorem ok_edit_whole {a0 : S_api_Tree} {r : Bool} {O : Objs} {n : Nat} (h : m_edit_whole a0 = some r) : GTo Try.prog 96 [.agg [.val (.int .i64 a0.Kind), .sl a0.Words.length (fl (eI .u64) a0.Words), .sl a0.Kids.length (fl e_S_api_Tree a0.Kids)]] O n (.val (.bool r)) O n := by
  unfold m_edit_whole at h
  refine fn_of tab_ok Try.call96 Try.func96 rfl (Nat.le_of_ble_eq_true rfl) (Nat.le_refl _) fun hU => ?_
  have hN0 : O n = none := hU.fresh _ (Nat.le_refl _)
  have hN : ∀ k, O (n + k) = none := fun k => hU.fresh _ (Nat.le_add_right _ _)
  show W _ _ _ _ ⟨10, [], [(0, .agg [.val (.int .i64 a0.Kind), .sl a0.Words.length (fl (eI .u64) a0.Words), .sl a0.Kids.length (fl e_S_api_Tree a0.Kids)])]⟩ (Loc O n []) _
  refine W_sq [1] (W_regionD tab_ok [] ?_)
  simp only [push_cast, seval, ↓reduceIte, cast_lit, hN0, hN]
  obtain ⟨z2, hz2, h⟩ := bC h
  refine W_seqN (E' := ⟨10, [], [(2, .val (.bool z2))]⟩) (O' := (Loc O n [none])) (n0 := (n + 1)) ?_ ?_
  · rcases Bool.eq_false_or_eq_true (a0.Kind != 10) with c4 | c4
    · replace hz2 := condT c4 hz2
      obtain ⟨y3, hy3, hz2⟩ := bC hz2
      refine W_regionD tab_ok [some true, some true] ?_
      simp only [push_cast, seval, ↓reduceIte, cast_lit, c4, hN0, hN]
      refine (ok_tree_Right hy3).then ?_
      simp only [push_cast, seval, ↓reduceIte, cast_lit, c4, hN0, hN]
      have hz2 := Option.some.inj hz2; subst hz2
      refine And.intro rfl (Fit2.of (fit_loc hU rfl rfl ?_) (by omega))
      simp only [push_cast, seval, ↓reduceIte, cast_lit, c4, hN0, hN]
    · replace hz2 := condF c4 hz2
      refine W_regionD tab_ok [some false, some false] ?_
      simp only [push_cast, seval, ↓reduceIte, cast_lit, c4, hN0, hN]
      have hz2 := Option.some.inj hz2; subst hz2
      refine And.intro rfl (Fit2.of (fit_loc hU rfl rfl ?_) (by omega))
      simp only [push_cast, seval, ↓reduceIte, cast_lit, c4, hN0, hN]
  refine W_ret ?_
  try simp only [gthen, gblock]
  have h := Option.some.inj h; subst h
  refine fin_loc (.inr rfl) hU [.val (.bool z2)] (by omega) ?_
  simp only [push_cast, seval, ↓reduceIte, cast_lit, Try.results96, hN0, hN]

theorem ok_word_Wide {a0 : Int} {r : Int} {O : Objs} {n : Nat} (h : m_word_Wide a0 = some r) : GTo Try.prog 116 [.val (.int .u8 a0)] O n (.val (.int .u64 r)) O n := by
  unfold m_word_Wide at h
  refine fn_of tab_ok Try.call116 Try.func116 rfl (Nat.le_of_ble_eq_true rfl) (Nat.le_refl _) fun hU => ?_
  have hN0 : O n = none := hU.fresh _ (Nat.le_refl _)
  have hN : ∀ k, O (n + k) = none := fun k => hU.fresh _ (Nat.le_add_right _ _)
  show W _ _ _ _ ⟨20, [], [(0, .val (.int .u8 a0))]⟩ (Loc O n []) _
  refine W_sq [0] (W_regionD tab_ok [] ?_)
  simp only [push_cast, seval, ↓reduceIte, cast_lit, hN0, hN]
  refine W_sq [0, 3] (W_regionD tab_ok [] ?_)
  simp only [push_cast, seval, ↓reduceIte, cast_lit, hN0, hN]
  refine W_seqK ?_
  refine W_sq [0, 3, 5] (W_regionD tab_ok [] ?_)
  simp only [push_cast, seval, ↓reduceIte, cast_lit, hN0, hN]
  refine W_fit ⟨20, [], [(0, .val (.int .u8 a0)), (3, .val (.int .u64 0)), (5, .val (.int .i64 0))]⟩ (Loc O n []) (fit_loc hU rfl rfl ?_) ?_
  · simp only [push_cast, seval, ↓reduceIte, cast_lit, hN0, hN]
  obtain ⟨z7, hz7, h⟩ := bC h
  refine W_blockX (E' := ⟨20, [], [(3, .val (.int .u64 z7))]⟩) (O' := (Loc O n [])) (n0 := n) ?_ ?_
  · refine W_loopJ hz7 (fun s0_ => ⟨20, [], [(0, .val (.int .u8 a0)), (3, .val (.int .u64 s0_.1)), (5, .val (.int .i64 s0_.2))]⟩) (fun s0_ => (Loc O n [])) (fun z7 => JX 0 n (⟨20, [], [(3, .val (.int .u64 z7))]⟩ : Env) (Loc O n []) n) ?_
    intro s0_ x0_ hs0_
    unfold m_word_Wide_L0 at hs0_
    try dsimp only
    refine W_sq [0, 3, 5, 6] (W_regionD tab_ok [] ?_)
    simp only [push_cast, seval, ↓reduceIte, cast_lit, hN0, hN]
    refine W_seqK ?_
    refine W_cond (t := (decide (s0_.2 < 8))) rfl (fun c6 => ?_) (fun c6 => ?_)
    · replace hs0_ := condT c6 hs0_
      refine W_skip ?_
      try simp only [gthen, gblock]
      refine W_fit ⟨20, [], [(0, .val (.int .u8 a0)), (3, .val (.int .u64 s0_.1)), (5, .val (.int .i64 s0_.2))]⟩ (Loc O n []) (fit_loc hU rfl rfl ?_) ?_
      · simp only [push_cast, seval, ↓reduceIte, cast_lit, hN0, hN]
      obtain ⟨z1, hz1, hs0_⟩ := bC hs0_
      refine W_seqN (E' := ⟨20, [], [(0, .val (.int .u8 a0)), (3, .val (.int .u64 z1)), (5, .val (.int .i64 s0_.2))]⟩) (O' := (Loc O n [])) (n0 := n) ?_ ?_
      · refine W_block ?_
        refine W_sq [0, 3, 4, 5] (W_regionD tab_ok [] ?_)
        simp only [push_cast, seval, ↓reduceIte, cast_lit, hN0, hN]
        obtain ⟨pu3, hz1⟩ := bG hz1
        refine W_sq [0, 3, 4, 5, 12] (W_regionD tab_ok [] ?_)
        simp only [push_cast, seval, ↓reduceIte, cast_lit, pu3, hN0, hN]
        refine W_cond (t := ((IntKind.u8.wrap (landI .u8 (Int.fdiv a0 (2 ^ min (Int.toNat s0_.2) 8)) 1)) == 1)) rfl (fun c5 => ?_) (fun c5 => ?_)
        · replace hz1 := condT c5 hz1
          obtain ⟨pu4, hz1⟩ := bG hz1
          refine W_regionD tab_ok [] ?_
          simp only [push_cast, seval, ↓reduceIte, cast_lit, pu4, hN0, hN]
          have hz1 := Option.some.inj hz1; subst hz1
          refine And.intro rfl (Fit2.of (fit_loc hU rfl rfl ?_) (by omega))
          simp only [push_cast, seval, ↓reduceIte, cast_lit, pu4, hN0, hN]
        · replace hz1 := condF c5 hz1
          refine W_skip ?_
          try simp only [gthen, gblock]
          have hz1 := Option.some.inj hz1; subst hz1
          refine And.intro rfl (Fit2.of (fit_loc hU rfl rfl ?_) (by omega))
          simp only [push_cast, seval, ↓reduceIte, cast_lit, hN0, hN]
      refine W_regionD tab_ok [] ?_
      simp only [push_cast, seval, ↓reduceIte, cast_lit, hN0, hN]
      have hs0_ := Option.some.inj hs0_; subst hs0_
      refine And.intro rfl (Fit2.of (fit_loc hU rfl rfl ?_) (by omega))
      simp only [push_cast, seval, ↓reduceIte, cast_lit, hN0, hN]
    · replace hs0_ := condF c6 hs0_
      refine W_exit ?_
      try simp only [gthen, gblock, ↓reduceIte, Nat.reduceEqDiff]
      have hs0_ := Option.some.inj hs0_; subst hs0_
      refine And.intro (fun h => by cases h) (And.intro rfl (Fit2.of (fit_loc hU rfl rfl ?_) (by omega)))
      simp only [push_cast, seval, ↓reduceIte, cast_lit, hN0, hN]
  try simp only [gthen, gblock, ↓reduceIte, Nat.reduceEqDiff]
  refine W_fit ⟨20, [], [(3, .val (.int .u64 z7))]⟩ (Loc O n []) (fit_loc hU rfl rfl ?_) ?_
  · simp only [push_cast, seval, ↓reduceIte, cast_lit, hN0, hN]
  refine W_sq [2] (W_regionD tab_ok [] ?_)
  simp only [push_cast, seval, ↓reduceIte, cast_lit, hN0, hN]
  refine W_ret ?_
  try simp only [gthen, gblock]
  have h := Option.some.inj h; subst h
  refine fin_loc (.inr rfl) hU [.val (.int .u64 z7)] (by omega) ?_
  simp only [push_cast, seval, ↓reduceIte, cast_lit, Try.results116, hN0, hN]

theorem ok_edit_rightWords {a0 : (List S_api_WordEdit)} {r : Bool} {O : Objs} {n : Nat} (h : m_edit_rightWords a0 = some r) : GTo Try.prog 97 [.sl a0.length (fl e_S_api_WordEdit a0)] O n (.val (.bool r)) O n := by
  unfold m_edit_rightWords at h
  refine fn_of tab_ok Try.call97 Try.func97 rfl (Nat.le_of_ble_eq_true rfl) (Nat.le_refl _) fun hU => ?_
  have hN0 : O n = none := hU.fresh _ (Nat.le_refl _)
  have hN : ∀ k, O (n + k) = none := fun k => hU.fresh _ (Nat.le_add_right _ _)
  show W _ _ _ _ ⟨48, [], [(0, .sl a0.length (fl e_S_api_WordEdit a0))]⟩ (Loc O n []) _
  refine W_sq [0] (W_regionD tab_ok [] ?_)
  simp only [push_cast, seval, ↓reduceIte, cast_lit, hN0, hN]
  refine W_sq [0, 3] (W_regionD tab_ok [] ?_)
  simp only [push_cast, seval, ↓reduceIte, cast_lit, hN0, hN]
  refine W_seqK ?_
  refine W_sq [3, 7, 8, 9] (W_regionD tab_ok [] ?_)
  simp only [push_cast, seval, ↓reduceIte, cast_lit, hN0, hN]
  refine W_fit ⟨48, [], [(3, .val (.int .i64 (-1))), (7, .sl a0.length (fl e_S_api_WordEdit a0)), (8, .val (.int .i64 (a0.length : Int))), (9, .val (.int .i64 0))]⟩ (Loc O n []) (fit_loc hU rfl rfl ?_) ?_
  · simp only [push_cast, seval, ↓reduceIte, cast_lit, hN0, hN]
  obtain ⟨z7, hz7, h⟩ := bC h
  refine W_sumB (J := (SumJ (fun z7 => JR n (⟨48, [], [(2, .val (.bool false))]⟩ : Env) (Loc O n []) n) (fun z7 => JX 0 n (⟨48, [], []⟩ : Env) (Loc O n []) n))) (z := z7) ?_ fun hw => ?_
  · refine W_loopJ hz7 (fun s0_ => ⟨48, [], [(3, .val (.int .i64 s0_.1)), (7, .sl a0.length (fl e_S_api_WordEdit a0)), (8, .val (.int .i64 (a0.length : Int))), (9, .val (.int .i64 s0_.2))]⟩) (fun s0_ => (Loc O n [])) (SumJ (fun z7 => JR n (⟨48, [], [(2, .val (.bool false))]⟩ : Env) (Loc O n []) n) (fun z7 => JX 0 n (⟨48, [], []⟩ : Env) (Loc O n []) n)) ?_
    intro s0_ x0_ hs0_
    unfold m_edit_rightWords_L0 at hs0_
    try dsimp only
    refine W_sq [3, 7, 8, 9, 10] (W_regionD tab_ok [] ?_)
    simp only [push_cast, seval, ↓reduceIte, cast_lit, hN0, hN]
    refine W_seqK ?_
    refine W_cond (t := (decide (s0_.2 < (a0.length : Int)))) rfl (fun c6 => ?_) (fun c6 => ?_)
    · replace hs0_ := condT c6 hs0_
      refine W_skip ?_
      try simp only [gthen, gblock]
      refine W_fit ⟨48, [], [(3, .val (.int .i64 s0_.1)), (7, .sl a0.length (fl e_S_api_WordEdit a0)), (8, .val (.int .i64 (a0.length : Int))), (9, .val (.int .i64 s0_.2))]⟩ (Loc O n []) (fit_loc hU rfl rfl ?_) ?_
      · simp only [push_cast, seval, ↓reduceIte, cast_lit, hN0, hN]
      refine W_seqK ?_
      refine W_block ?_
      refine W_seqK ?_
      obtain ⟨x2, hx2, ax2, bx2, cx2, hs0_⟩ := bE (f := e_S_api_WordEdit) tab86 (fun _ => rfl) (by decide) hs0_
      refine W_regionD tab_ok [] ?_
      simp only [push_cast, Nat.reduceAdd, Nat.reduceSub, Nat.reduceMul, Nat.reduceLeDiff, Nat.reduceLT, Nat.reduceEqDiff, ↓reduceIte, reduceCtorEq, Int.reduceBEq, Int.reduceBNe, Nat.reduceBEq, Int.reduceLE, Int.reduceLT, Int.reduceEq, Int.reduceNe, Int.reduceNeg, Nat.reduceDiv, Nat.reduceMod, Nat.reducePow, cast_lit, ax2, bx2, cx2, hN0, hN]
      refine W_fit ⟨48, [], [(3, .val (.int .i64 s0_.1)), (5, .ref n 0), (7, .sl a0.length (fl e_S_api_WordEdit a0)), (8, .val (.int .i64 (a0.length : Int))), (9, .val (.int .i64 s0_.2))]⟩ (Loc O n [some ⟨false, 86, 4, 1, [.val (.int .i64 x2.At), .val (.int .u8 x2.Mask), .val (.int .u64 x2.Old), .val (.int .u64 x2.New)]⟩]) (fit_loc hU rfl rfl ?_) ?_
      · simp only [push_cast, Nat.reduceAdd, Nat.reduceSub, Nat.reduceMul, Nat.reduceLeDiff, Nat.reduceLT, Nat.reduceEqDiff, ↓reduceIte, reduceCtorEq, Int.reduceBEq, Int.reduceBNe, Nat.reduceBEq, Int.reduceLE, Int.reduceLT, Int.reduceEq, Int.reduceNe, Int.reduceNeg, Nat.reduceDiv, Nat.reduceMod, Nat.reducePow, cast_lit, ax2, bx2, cx2, hN0, hN]
      refine W_seqK ?_
      obtain ⟨y4, hy4, hs0_⟩ := bC hs0_
      refine W_regionD tab_ok [] ?_
      simp only [push_cast, seval, ↓reduceIte, cast_lit, hN0, hN]
      refine (ok_word_Wide hy4).then ?_
      simp only [push_cast, seval, ↓reduceIte, cast_lit, hN0, hN]
      refine W_fit ⟨48, [], [(3, .val (.int .i64 s0_.1)), (5, .ref n 0), (6, .val (.int .u64 (IntKind.u64.wrap (lxorI .u64 (if IntKind.signed .u64 = true then -1 else IntKind.max .u64) y4)))), (7, .sl a0.length (fl e_S_api_WordEdit a0)), (8, .val (.int .i64 (a0.length : Int))), (9, .val (.int .i64 s0_.2))]⟩ (Loc O n [some ⟨false, 86, 4, 1, [.val (.int .i64 x2.At), .val (.int .u8 x2.Mask), .val (.int .u64 x2.Old), .val (.int .u64 x2.New)]⟩]) (fit_loc hU rfl rfl ?_) ?_
      · simp only [push_cast, seval, ↓reduceIte, cast_lit, hN0, hN]
      refine W_seqK ?_
      refine W_sq [5, 7, 8, 9, 44] (W_regionD tab_ok [none, none, none, none, none, none, none, none, none, none, none, none, none, none, none, none] ?_)
      simp only [push_cast, seval, ↓reduceIte, cast_lit, hN0, hN]
      repeat (with_reducible refine And.intro (by first | (intro h0; simp only [h0, and_self]; done) | (intro h0; simp only [h0, Bool.not_false, Bool.not_true, Bool.true_and, Bool.and_true, true_and, and_true, and_self, imp_self, implies_true, bne_iff_ne, ne_eq, beq_iff_eq]; done) | (intros; simp_all; done) | exact True.intro) ?_)
      refine W_cond (t := (cond (cond (cond (cond (decide (x2.At ≤ s0_.1)) true (decide (65534 < x2.At))) true (x2.Mask == 0)) true ((IntKind.u64.wrap (landI .u64 x2.Old (IntKind.u64.wrap (lxorI .u64 (if IntKind.signed .u64 = true then -1 else IntKind.max .u64) y4)))) != 0)) true ((IntKind.u64.wrap (landI .u64 x2.New (IntKind.u64.wrap (lxorI .u64 (if IntKind.signed .u64 = true then -1 else IntKind.max .u64) y4)))) != 0))) rfl (fun c5 => ?_) (fun c5 => ?_)
      · replace hs0_ := condT c5 hs0_
        refine W_sq [2] (W_regionD tab_ok [] ?_)
        simp only [push_cast, seval, ↓reduceIte, cast_lit, hN0, hN]
        refine W_ret ?_
        try simp only [gthen, gblock]
        have hs0_ := Option.some.inj hs0_; subst hs0_
        refine And.intro (fun h => by cases h) (And.intro rfl (Fit2.of (fit_loc hU rfl rfl ?_) (by omega)))
        simp only [push_cast, seval, ↓reduceIte, cast_lit, hN0, hN]
      · replace hs0_ := condF c5 hs0_
        refine W_skip ?_
        try simp only [gthen, gblock]
        refine W_fit ⟨48, [], [(5, .ref n 0), (7, .sl a0.length (fl e_S_api_WordEdit a0)), (8, .val (.int .i64 (a0.length : Int))), (9, .val (.int .i64 s0_.2))]⟩ (Loc O n [some ⟨false, 86, 4, 1, [.val (.int .i64 x2.At), .val (.int .u8 x2.Mask), .val (.int .u64 x2.Old), .val (.int .u64 x2.New)]⟩]) (fit_loc hU rfl rfl ?_) ?_
        · simp only [push_cast, seval, ↓reduceIte, cast_lit, hN0, hN]
        refine W_regionD tab_ok [] ?_
        simp only [push_cast, seval, ↓reduceIte, cast_lit, hN0, hN]
        refine W_fit ⟨48, [], [(3, .val (.int .i64 x2.At)), (7, .sl a0.length (fl e_S_api_WordEdit a0)), (8, .val (.int .i64 (a0.length : Int))), (9, .val (.int .i64 s0_.2))]⟩ (Loc O n [none]) (fit_loc hU rfl rfl ?_) ?_
        · simp only [push_cast, seval, ↓reduceIte, cast_lit, hN0, hN]
        refine W_regionD tab_ok [] ?_
        simp only [push_cast, seval, ↓reduceIte, cast_lit, hN0, hN]
        have hs0_ := Option.some.inj hs0_; subst hs0_
        refine And.intro rfl (Fit2.of (fit_loc hU rfl rfl ?_) (by omega))
        simp only [push_cast, seval, ↓reduceIte, cast_lit, hN0, hN]
    · replace hs0_ := condF c6 hs0_
      refine W_exit ?_
      try simp only [gthen, gblock, ↓reduceIte, Nat.reduceEqDiff]
      have hs0_ := Option.some.inj hs0_; subst hs0_
      refine And.intro (fun h => by cases h) (And.intro rfl (Fit2.of (fit_loc hU rfl rfl ?_) (by omega)))
      simp only [push_cast, seval, ↓reduceIte, cast_lit, hN0, hN]
  rcases z7 with z7 | z7
  · dsimp only [SumJ] at hw h
    refine W_blockR hw ?_
    try simp only [gthen, gblock, ↓reduceIte, Nat.reduceEqDiff]
    have h := Option.some.inj h; subst h
    refine fin_loc (.inr rfl) hU [.val (.bool false)] (by omega) ?_
    simp only [push_cast, seval, ↓reduceIte, cast_lit, Try.results97, hN0, hN]
  · dsimp only [SumJ] at hw h
    refine W_blockX hw ?_
    try simp only [gthen, gblock, ↓reduceIte, Nat.reduceEqDiff]
    refine W_fit ⟨48, [], []⟩ (Loc O n []) (fit_loc hU rfl rfl ?_) ?_
    · simp only [push_cast, seval, ↓reduceIte, cast_lit, hN0, hN]
    refine W_sq [2] (W_regionD tab_ok [] ?_)
    simp only [push_cast, seval, ↓reduceIte, cast_lit, hN0, hN]
    refine W_ret ?_
    try simp only [gthen, gblock]
    have h := Option.some.inj h; subst h
    refine fin_loc (.inr rfl) hU [.val (.bool true)] (by omega) ?_
    simp only [push_cast, seval, ↓reduceIte, cast_lit, Try.results97, hN0, hN]

theorem ok_edit_descends {a0 : Int} {a1 : S_api_Edit} {r : Bool} {O : Objs} {n : Nat} (h : m_edit_descends a0 a1 = some r) : GTo Try.prog 137 [.val (.int .i64 a0), .agg [.val (.int .i64 a1.Kind), .val (.int .i64 a1.Old.Kind), .sl a1.Old.Words.length (fl (eI .u64) a1.Old.Words), .sl a1.Old.Kids.length (fl e_S_api_Tree a1.Old.Kids), .val (.int .i64 a1.New.Kind), .sl a1.New.Words.length (fl (eI .u64) a1.New.Words), .sl a1.New.Kids.length (fl e_S_api_Tree a1.New.Kids), .sl a1.Words.length (fl e_S_api_WordEdit a1.Words), .sl a1.Kids.length (fl e_S_api_KidEdit a1.Kids), .val (.int .i64 a1.List_), .sl a1.Ops.length (fl e_S_api_Op a1.Ops)]] O n (.val (.bool r)) O n := by
  unfold m_edit_descends at h
  refine fn_of tab_ok Try.call137 Try.func137 rfl (Nat.le_of_ble_eq_true rfl) (Nat.le_refl _) fun hU => ?_
  have hN0 : O n = none := hU.fresh _ (Nat.le_refl _)
  have hN : ∀ k, O (n + k) = none := fun k => hU.fresh _ (Nat.le_add_right _ _)
  show W _ _ _ _ ⟨33, [], [(0, .val (.int .i64 a0)), (1, .agg [.val (.int .i64 a1.Kind), .val (.int .i64 a1.Old.Kind), .sl a1.Old.Words.length (fl (eI .u64) a1.Old.Words), .sl a1.Old.Kids.length (fl e_S_api_Tree a1.Old.Kids), .val (.int .i64 a1.New.Kind), .sl a1.New.Words.length (fl (eI .u64) a1.New.Words), .sl a1.New.Kids.length (fl e_S_api_Tree a1.New.Kids), .sl a1.Words.length (fl e_S_api_WordEdit a1.Words), .sl a1.Kids.length (fl e_S_api_KidEdit a1.Kids), .val (.int .i64 a1.List_), .sl a1.Ops.length (fl e_S_api_Op a1.Ops)])]⟩ (Loc O n []) _
  refine W_sq [0, 3] (W_regionD tab_ok [] ?_)
  simp only [push_cast, seval, ↓reduceIte, cast_lit, hN0, hN]
  refine W_seqK ?_
  refine W_sq [3, 5] (W_regionD tab_ok [] ?_)
  simp only [push_cast, seval, ↓reduceIte, cast_lit, hN0, hN]
  refine W_block ?_
  refine W_sq [3, 5, 6] (W_regionD tab_ok [] ?_)
  simp only [push_cast, seval, ↓reduceIte, cast_lit, hN0, hN]
  refine W_cond (t := (a0 == 8)) rfl (fun c2 => ?_) (fun c2 => ?_)
  · replace h := condT c2 h
    refine W_sq [4] (W_regionD tab_ok [] ?_)
    simp only [push_cast, seval, ↓reduceIte, cast_lit, hN0, hN]
    refine W_ret ?_
    try simp only [gthen, gblock]
    have h := Option.some.inj h; subst h
    refine fin_loc (.inr rfl) hU [.val (.bool (a1.Kind != 0))] (by omega) ?_
    simp only [push_cast, seval, ↓reduceIte, cast_lit, Try.results137, hN0, hN]
  · replace h := condF c2 h
    refine W_sq [3, 11] (W_regionD tab_ok [] ?_)
    simp only [push_cast, seval, ↓reduceIte, cast_lit, hN0, hN]
    refine W_cond (t := (a0 == 9)) rfl (fun c1 => ?_) (fun c1 => ?_)
    · replace h := condT c1 h
      refine W_sq [4] (W_regionD tab_ok [none, none, none, none, none, none, none, none, none, none, none, none, none, none, none] ?_)
      simp only [push_cast, seval, ↓reduceIte, cast_lit, hN0, hN]
      repeat (with_reducible refine And.intro (by first | (intro h0; simp only [h0, and_self]; done) | (intro h0; simp only [h0, Bool.not_false, Bool.not_true, Bool.true_and, Bool.and_true, true_and, and_true, and_self, imp_self, implies_true, bne_iff_ne, ne_eq, beq_iff_eq]; done) | (intros; simp_all; done) | exact True.intro) ?_)
      refine W_ret ?_
      try simp only [gthen, gblock]
      have h := Option.some.inj h; subst h
      refine fin_loc (.inr rfl) hU [.val (.bool (cond (a1.Kind == 2) true (cond (cond (a1.Kind == 1) (a1.Old.Kind == 1) false) (a1.New.Kind == 1) false)))] (by omega) ?_
      simp only [push_cast, seval, ↓reduceIte, cast_lit, Try.results137, hN0, hN]
    · replace h := condF c1 h
      refine W_skip ?_
      try simp only [gthen, gblock]
      refine W_fit ⟨33, [], []⟩ (Loc O n [none]) (fit_loc hU rfl rfl ?_) ?_
      · simp only [push_cast, seval, ↓reduceIte, cast_lit, hN0, hN]
      refine W_sq [4] (W_regionD tab_ok [] ?_)
      simp only [push_cast, seval, ↓reduceIte, cast_lit, hN0, hN]
      refine W_ret ?_
      try simp only [gthen, gblock]
      have h := Option.some.inj h; subst h
      refine fin_loc (.inr rfl) hU [.val (.bool false)] (by omega) ?_
      simp only [push_cast, seval, ↓reduceIte, cast_lit, Try.results137, hN0, hN]

end Go.Proofs.Ytjeolggpgclgkaa
