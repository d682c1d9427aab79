/- Part IM3 of this seat's mirrors: functions of the seat's program, and the plain functions that they are; each theorem bears its own conditions. -/
import Derived.Test.YtbcgiaijjaocdaaIE
import Derived.Test.YtbcgiaijjaocdaaIM2
namespace Go.Proofs.Ytbcgiaijjaocdaa
open Go.RowKit
set_option linter.unusedVariables false
set_option linter.unusedSimpArgs false
set_option maxRecDepth 100000
set_option maxHeartbeats 1000000
attribute [local push_cast] c_S_api_Edit c_S_api_KidEdit c_S_api_Op c_S_api_Tree c_S_api_WordEdit gfork_t gfork_f pfork_t pfork_f gthen gblock gops_nil gops_plain gops_guard onW gwantB gcalm gact gpick gpickV strip evS wok calmOp Op.operands Call.operands gop onK onP atK List.all_cons List.all_nil Bool.and_true Bool.true_and Bool.and_self Value.oneCell' List.take_zero List.take_succ_cons List.take_nil List.drop_zero List.drop_succ_cons List.drop_nil List.append_nil Nat.add_zero Nat.zero_add gstep gputE ev look genv gbin geqS geqF gint gunary gconvert gload gcells gpart_lit gstore gcellsOf gput gplace_lit gfieldAddr gstepIn gindexAddr gindex gfield gopt bLo bHi bMx gextract galloc gbox gbuild gfill gplaces gbuildSlice gmake glen gappend gsrc gbuiltin gnil isLive gres gone prun_nil prun_plain prun_guard pop TK.isAgg G.one G.under G.unders List.getD_cons_zero List.getD_cons_succ List.set_cons_zero List.set_cons_succ List.map_cons List.map_nil List.toList_toArray Array.toList_append Option.toArray_none Option.toArray_some Array.toList_map Option.map_some Option.map_none Option.bind_some Option.bind_none List.getElem?_cons_zero List.getElem?_cons_succ List.getElem?_nil List.nil_append List.cons_append List.replicate_succ List.replicate_zero List.length_cons List.length_nil and_true true_and and_false false_and Bool.true_eq_false Bool.false_eq_true forall_const false_implies implies_true IntKind.bits if_true if_false ite_true ite_false eq_self true_implies false_or or_false or_true true_or not_true_eq_false not_false_eq_true decide_true decide_false decide_eq_true_eq decide_eq_false_iff_not beq_iff_eq bne_iff_ne ne_eq Bool.not_eq_true Bool.not_eq_false beq_eq_false_iff_ne bne_eq_false_iff_eq beq_self_eq_true bne_self_eq_false Option.some.injEq exists_eq_left' exists_eq_left ge_iff_le gt_iff_lt decide_not Bool.not_true Bool.not_false imp_self gquiet cond_true cond_false beqT beqF Bool.not_not Bool.and_false Bool.false_and Bool.or_true Bool.true_or Bool.or_false Bool.false_or Loc_at Loc_at0 Loc_upd Loc_upd0 Loc_push Loc_push0 Option.join_some Nat.add_assoc Int.toNat_natCast eI eB eS eL fl_nil gopsD_nil gopsD_plain gopsD_t gopsD_f gopsD_n onKD onWD prunD_nil prunD_plain prunD_t prunD_f prunD_n onPD fitO fitO1 sameO fitL fl_append fl_one List.length_append G.agg.injEq G.row.injEq G.ref.injEq G.val.injEq G.sl.injEq G.tup.injEq Value.int.injEq Value.bool.injEq Value.string.injEq List.cons.injEq exists_and_left exists_const List.flatten_cons List.flatten_nil Int.le_refl Nat.le_refl upd_updU Loc_out Loc_updo Bool.not_eq_true' Bool.not_eq_false' wkl_nil wkl_cons wk_any wk_val wk_agg wk_tup wk_sl wk_fn List.size_toArray renO renO1 G.ren G.rens renL rho_at rho_at0 gP_none gP_some strip_gP wok_gP one_gP G.fn.injEq wk_slnil wk_slrow wk_slrs wk_ip wk_ipref wk_row wk_rs wk_rp wk_ref locLt0 locLt Option.join_none upd_same fl_cons undef keepL Arr.len Arr.put_eq prunB_nil prunB_bar prunB_bart prunB_plain prunB_t prunB_f prunB_n onB onBP gcopy setI_len Loc_cat0 Loc_cat1 Loc_cat2 Loc_cat3 Loc_cat4 Loc_cat5 noObjs_at prunK_nil prunK_bar prunK_pass prunK_plain prunK_low prunK_pt prunK_pf prunK_lt prunK_lf onKg onKa onKp popL pickOps lows lowG prunK_shp prunK_fill popH shpOp fillOp fillG rho_low rens_app Loc_cat6 Loc_cat7 Loc_cat8 Loc_cat9 Loc_cat10 Loc_cat11 Loc_cat12 Loc_cat13 Loc_cat14 Loc_cat15 Loc_cat16 dropM tab2 tkind2 tab3 tkind3 tab4 tkind4 tab5 tkind5 tab6 tkind6 tab7 tkind7 tab8 tkind8 tab9 tkind9 tab10 tkind10 tab11 tkind11 tab12 tkind12 tab13 tkind13 tab14 tkind14 tab15 tkind15 tab16 tkind16 tab17 tkind17 tab18 tkind18 tab19 tkind19 tab21 tkind21 tab22 tkind22 tab23 tkind23 tab24 tkind24 tab25 tkind25 tab26 tkind26 tab27 tkind27 tab28 tkind28 tab29 tkind29 tab30 tkind30 tab46 tkind46 tab49 tkind49 tab52 tkind52 tab56 tkind56 tab57 tkind57 tab58 tkind58 tab62 tkind62 tab68 tkind68 tab69 tkind69 tab70 tkind70 tab71 tkind71 tab78 tkind78 tab79 tkind79 tab81 tkind81 tab82 tkind82 tab83 tkind83 tab84 tkind84 tab95 tkind95 tab99 tkind99 tab101 tkind101 tab102 tkind102 tab109 tkind109 tab110 tkind110 tab113 tkind113 tab123 tkind123 tab124 tkind124 tab132 tkind132 tab133 tkind133 tab136 tkind136 tab138 tkind138 tab139 tkind139 tab141 tkind141 tab142 tkind142 tab157 tkind157 tab159 tkind159 tab160 tkind160 tab165 tkind165 tab166 tkind166 tab167 tkind167 tab169 tkind169 tab170 tkind170 tab171 tkind171 e_S_api_Tree e0_eq_S_api_Tree wkl_eI_u64 wka_eI_u64 len_eI_u64 one_eI_u64 wkp_eI_u64 undp_eI_u64 rens_eI_u64 renp_eI_u64 und_eI_u64 wkl_e_S_api_Tree wka_e_S_api_Tree len_e_S_api_Tree one_e_S_api_Tree wkp_e_S_api_Tree undp_e_S_api_Tree rens_e_S_api_Tree renp_e_S_api_Tree und_e_S_api_Tree e_S_api_WordEdit e_S_api_Edit e_S_api_Op e_S_api_KidEdit e0_eq_S_api_Edit e0_eq_S_api_Op e0_eq_S_api_KidEdit wkl_e_S_api_WordEdit wka_e_S_api_WordEdit len_e_S_api_WordEdit one_e_S_api_WordEdit wkp_e_S_api_WordEdit undp_e_S_api_WordEdit rens_e_S_api_WordEdit renp_e_S_api_WordEdit und_e_S_api_WordEdit wkl_e_S_api_KidEdit wka_e_S_api_KidEdit len_e_S_api_KidEdit one_e_S_api_KidEdit wkp_e_S_api_KidEdit undp_e_S_api_KidEdit rens_e_S_api_KidEdit renp_e_S_api_KidEdit und_e_S_api_KidEdit wkl_e_S_api_Op wka_e_S_api_Op len_e_S_api_Op one_e_S_api_Op wkp_e_S_api_Op undp_e_S_api_Op rens_e_S_api_Op renp_e_S_api_Op und_e_S_api_Op wkl_eI_u8 wka_eI_u8 len_eI_u8 one_eI_u8 wkp_eI_u8 undp_eI_u8 rens_eI_u8 renp_eI_u8 und_eI_u8 e_S_normal_writer wkl_e_S_normal_writer wka_e_S_normal_writer len_e_S_normal_writer one_e_S_normal_writer wkp_e_S_normal_writer undp_e_S_normal_writer rens_e_S_normal_writer renp_e_S_normal_writer und_e_S_normal_writer
theorem ok_tree_trimWords {a0 : (List Int)} {r : (List Int)} {O : Objs} {n : Nat} (h : m_tree_trimWords a0 = some r) : GTo Try.prog 88 [.sl a0.length (fl (eI .u64) a0)] O n (.sl r.length (fl (eI .u64) r)) O n := by
  unfold m_tree_trimWords at h
  refine fn_of tab_ok Try.call88 Try.func88 rfl (Nat.le_of_ble_eq_true rfl) (Nat.le_refl _) fun hU => ?_
  have hN0 : O n = none := hU.fresh _ (Nat.le_refl _)
  have hN : ∀ k, O (n + k) = none := fun k => hU.fresh _ (Nat.le_add_right _ _)
  show W _ _ _ _ ⟨22, [], [(0, .sl a0.length (fl (eI .u64) a0))]⟩ (Loc O n []) _
  refine W_sq [0] (W_regionD tab_ok [] ?_)
  simp only [push_cast, seval, ↓reduceIte, cast_lit, hN0, hN]
  refine W_sq [0, 3] (W_regionD tab_ok [] ?_)
  simp only [push_cast, seval, ↓reduceIte, cast_lit, hN0, hN]
  refine W_seqK ?_
  refine W_drop [0, 3] [] ?_
  simp only [push_cast, seval, ↓reduceIte]
  obtain ⟨z7, hz7, h⟩ := bC h
  refine W_blockX (E' := ⟨22, [], [(0, .sl a0.length (fl (eI .u64) a0)), (3, .val (.int .i64 z7))]⟩) (O' := (Loc O n [])) (n0 := n) ?_ ?_
  · refine W_loopJ hz7 (fun s0_ => ⟨22, [], [(0, .sl a0.length (fl (eI .u64) a0)), (3, .val (.int .i64 s0_))]⟩) (fun s0_ => (Loc O n [])) (fun z7 => JX 0 n (⟨22, [], [(0, .sl a0.length (fl (eI .u64) a0)), (3, .val (.int .i64 z7))]⟩ : Env) (Loc O n []) n) ?_
    intro s0_ x0_ hs0_
    unfold m_tree_trimWords_L0 at hs0_
    try dsimp only
    refine W_seqK ?_
    obtain ⟨z2, hz2, hs0_⟩ := bC hs0_
    refine W_seqN (E' := ⟨22, [], [(0, .sl a0.length (fl (eI .u64) a0)), (3, .val (.int .i64 s0_)), (15, .val (.bool z2))]⟩) (O' := (Loc O n [])) (n0 := n) ?_ ?_
    · rcases Bool.eq_false_or_eq_true (decide (0 < s0_)) with c5 | c5
      · replace hz2 := condT c5 hz2
        obtain ⟨x4, hx4, ax4, bx4, cx4, hz2⟩ := bE (f := (eI .u64)) tab56 (fun _ => rfl) (by decide) hz2
        refine W_regionD tab_ok [some true, some true, some true, some true, some true, some true] ?_
        simp only [push_cast, Nat.reduceAdd, Nat.reduceSub, Nat.reduceMul, Nat.reduceLeDiff, Nat.reduceLT, Nat.reduceEqDiff, ↓reduceIte, reduceCtorEq, Int.reduceBEq, Int.reduceBNe, Nat.reduceBEq, Int.reduceLE, Int.reduceLT, Int.reduceEq, Int.reduceNe, Int.reduceNeg, Nat.reduceDiv, Nat.reduceMod, Nat.reducePow, cast_lit, c5, ax4, bx4, cx4, hN0, hN]
        have hz2 := Option.some.inj hz2; subst hz2
        refine And.intro rfl (Fit2.of (fit_loc hU rfl rfl ?_) (by omega))
        simp only [push_cast, Nat.reduceAdd, Nat.reduceSub, Nat.reduceMul, Nat.reduceLeDiff, Nat.reduceLT, Nat.reduceEqDiff, ↓reduceIte, reduceCtorEq, Int.reduceBEq, Int.reduceBNe, Nat.reduceBEq, Int.reduceLE, Int.reduceLT, Int.reduceEq, Int.reduceNe, Int.reduceNeg, Nat.reduceDiv, Nat.reduceMod, Nat.reducePow, cast_lit, c5, ax4, bx4, cx4, hN0, hN]
      · replace hz2 := condF c5 hz2
        refine W_regionD tab_ok [some false, some false, some false, some false, some false, some false] ?_
        simp only [push_cast, seval, ↓reduceIte, cast_lit, c5, hN0, hN]
        have hz2 := Option.some.inj hz2; subst hz2
        refine And.intro rfl (Fit2.of (fit_loc hU rfl rfl ?_) (by omega))
        simp only [push_cast, seval, ↓reduceIte, cast_lit, c5, hN0, hN]
    refine W_cond (t := z2) rfl (fun c6 => ?_) (fun c6 => ?_)
    · replace hs0_ := condT c6 hs0_
      refine W_skip ?_
      try simp only [gthen, gblock]
      refine W_drop [0, 3] [] ?_
      simp only [push_cast, seval, ↓reduceIte]
      refine W_block ?_
      refine W_regionD tab_ok [] ?_
      simp only [push_cast, seval, ↓reduceIte, cast_lit, hN0, hN]
      have hs0_ := Option.some.inj hs0_; subst hs0_
      refine And.intro rfl (Fit2.of (fit_loc hU rfl rfl ?_) (by omega))
      simp only [push_cast, seval, ↓reduceIte, cast_lit, hN0, hN]
    · replace hs0_ := condF c6 hs0_
      refine W_exit ?_
      try simp only [gthen, gblock, ↓reduceIte, Nat.reduceEqDiff]
      have hs0_ := Option.some.inj hs0_; subst hs0_
      refine And.intro (fun h => by cases h) (And.intro rfl (Fit2.of (fit_loc hU rfl rfl ?_) (by omega)))
      simp only [push_cast, seval, ↓reduceIte, cast_lit, hN0, hN]
  try simp only [gthen, gblock, ↓reduceIte, Nat.reduceEqDiff]
  refine W_drop [0, 3] [] ?_
  simp only [push_cast, seval, ↓reduceIte]
  obtain ⟨l9, al9, bl9, cl9, gl9, h⟩ := bS3 (lo := none) (hi := (.i64, z7)) (f := (eI .u64)) rfl rfl tkind22 tab56 (fun _ => rfl) h
  refine W_sq [2] (W_regionD tab_ok [] ?_)
  simp only [push_cast, seval, ↓reduceIte, cast_lit, al9, bl9, cl9, gl9, hN0, hN]
  refine W_ret ?_
  try simp only [gthen, gblock]
  have h := Option.some.inj h; subst h
  refine fin_loc (.inr rfl) hU [.sl l9.length (fl (eI .u64) l9)] (by omega) ?_
  simp only [push_cast, seval, ↓reduceIte, cast_lit, Try.results88, hN0, hN]
theorem ok_tree_trimKids {a0 : (List S_api_Tree)} {r : (List S_api_Tree)} {O : Objs} {n : Nat} (h : m_tree_trimKids a0 = some r) : GTo Try.prog 89 [.sl a0.length (fl e_S_api_Tree a0)] O n (.sl r.length (fl e_S_api_Tree r)) O n := by
  unfold m_tree_trimKids at h
  refine fn_of tab_ok Try.call89 Try.func89 rfl (Nat.le_of_ble_eq_true rfl) (Nat.le_refl _) fun hU => ?_
  have hN0 : O n = none := hU.fresh _ (Nat.le_refl _)
  have hN : ∀ k, O (n + k) = none := fun k => hU.fresh _ (Nat.le_add_right _ _)
  show W _ _ _ _ ⟨23, [], [(0, .sl a0.length (fl e_S_api_Tree a0))]⟩ (Loc O n []) _
  refine W_sq [0] (W_regionD tab_ok [] ?_)
  simp only [push_cast, seval, ↓reduceIte, cast_lit, hN0, hN]
  refine W_sq [0, 3] (W_regionD tab_ok [] ?_)
  simp only [push_cast, seval, ↓reduceIte, cast_lit, hN0, hN]
  refine W_seqK ?_
  refine W_drop [0, 3] [] ?_
  simp only [push_cast, seval, ↓reduceIte]
  obtain ⟨z10, hz10, h⟩ := bC h
  refine W_blockX (E' := ⟨23, [], [(0, .sl a0.length (fl e_S_api_Tree a0)), (3, .val (.int .i64 z10))]⟩) (O' := (Loc O n [])) (n0 := n) ?_ ?_
  · refine W_loopJ hz10 (fun s0_ => ⟨23, [], [(0, .sl a0.length (fl e_S_api_Tree a0)), (3, .val (.int .i64 s0_))]⟩) (fun s0_ => (Loc O n [])) (fun z10 => JX 0 n (⟨23, [], [(0, .sl a0.length (fl e_S_api_Tree a0)), (3, .val (.int .i64 z10))]⟩ : Env) (Loc O n []) n) ?_
    intro s0_ x0_ hs0_
    unfold m_tree_trimKids_L0 at hs0_
    try dsimp only
    refine W_seqK ?_
    obtain ⟨z3, hz3, hs0_⟩ := bC hs0_
    refine W_seqN (E' := ⟨23, [], [(0, .sl a0.length (fl e_S_api_Tree a0)), (3, .val (.int .i64 s0_)), (16, .val (.bool z3))]⟩) (O' := (Loc O n [])) (n0 := n) ?_ ?_
    · rcases Bool.eq_false_or_eq_true (decide (0 < s0_)) with c8 | c8
      · replace hz3 := condT c8 hz3
        obtain ⟨x6, hx6, ax6, bx6, cx6, hz3⟩ := bE (f := e_S_api_Tree) tab25 (fun _ => rfl) (by decide) hz3
        have g7 := gpart_fld0 (f := e_S_api_Tree) (sz := 3) tab3 (fun _ => rfl) (by decide) (by decide) hx6
        refine W_regionD tab_ok [some true, some true, some true, some true, some true, some true, some true] ?_
        simp only [push_cast, Nat.reduceAdd, Nat.reduceSub, Nat.reduceMul, Nat.reduceLeDiff, Nat.reduceLT, Nat.reduceEqDiff, ↓reduceIte, reduceCtorEq, Int.reduceBEq, Int.reduceBNe, Nat.reduceBEq, Int.reduceLE, Int.reduceLT, Int.reduceEq, Int.reduceNe, Int.reduceNeg, Nat.reduceDiv, Nat.reduceMod, Nat.reducePow, cast_lit, c8, ax6, bx6, cx6, g7, hN0, hN]
        have hz3 := Option.some.inj hz3; subst hz3
        refine And.intro rfl (Fit2.of (fit_loc hU rfl rfl ?_) (by omega))
        simp only [push_cast, Nat.reduceAdd, Nat.reduceSub, Nat.reduceMul, Nat.reduceLeDiff, Nat.reduceLT, Nat.reduceEqDiff, ↓reduceIte, reduceCtorEq, Int.reduceBEq, Int.reduceBNe, Nat.reduceBEq, Int.reduceLE, Int.reduceLT, Int.reduceEq, Int.reduceNe, Int.reduceNeg, Nat.reduceDiv, Nat.reduceMod, Nat.reducePow, cast_lit, c8, ax6, bx6, cx6, g7, hN0, hN]
      · replace hz3 := condF c8 hz3
        refine W_regionD tab_ok [some false, some false, some false, some false, some false, some false, some false] ?_
        simp only [push_cast, seval, ↓reduceIte, cast_lit, c8, hN0, hN]
        have hz3 := Option.some.inj hz3; subst hz3
        refine And.intro rfl (Fit2.of (fit_loc hU rfl rfl ?_) (by omega))
        simp only [push_cast, seval, ↓reduceIte, cast_lit, c8, hN0, hN]
    refine W_cond (t := z3) rfl (fun c9 => ?_) (fun c9 => ?_)
    · replace hs0_ := condT c9 hs0_
      refine W_skip ?_
      try simp only [gthen, gblock]
      refine W_drop [0, 3] [] ?_
      simp only [push_cast, seval, ↓reduceIte]
      refine W_block ?_
      refine W_regionD tab_ok [] ?_
      simp only [push_cast, seval, ↓reduceIte, cast_lit, hN0, hN]
      have hs0_ := Option.some.inj hs0_; subst hs0_
      refine And.intro rfl (Fit2.of (fit_loc hU rfl rfl ?_) (by omega))
      simp only [push_cast, seval, ↓reduceIte, cast_lit, hN0, hN]
    · replace hs0_ := condF c9 hs0_
      refine W_exit ?_
      try simp only [gthen, gblock, ↓reduceIte, Nat.reduceEqDiff]
      have hs0_ := Option.some.inj hs0_; subst hs0_
      refine And.intro (fun h => by cases h) (And.intro rfl (Fit2.of (fit_loc hU rfl rfl ?_) (by omega)))
      simp only [push_cast, seval, ↓reduceIte, cast_lit, hN0, hN]
  try simp only [gthen, gblock, ↓reduceIte, Nat.reduceEqDiff]
  refine W_drop [0, 3] [] ?_
  simp only [push_cast, seval, ↓reduceIte]
  obtain ⟨l12, al12, bl12, cl12, gl12, h⟩ := bS3 (lo := none) (hi := (.i64, z10)) (f := e_S_api_Tree) rfl rfl tkind23 tab25 (fun _ => rfl) h
  refine W_sq [2] (W_regionD tab_ok [] ?_)
  simp only [push_cast, seval, ↓reduceIte, cast_lit, al12, bl12, cl12, gl12, hN0, hN]
  refine W_ret ?_
  try simp only [gthen, gblock]
  have h := Option.some.inj h; subst h
  refine fin_loc (.inr rfl) hU [.sl l12.length (fl e_S_api_Tree l12)] (by omega) ?_
  simp only [push_cast, seval, ↓reduceIte, cast_lit, Try.results89, hN0, hN]
theorem okb_tree_Norm {r_tree_Norm : (S_api_Tree → Option S_api_Tree)} (ok_r_tree_Norm : ∀ {a0 : S_api_Tree} {r : S_api_Tree} {O : Objs} {n : Nat}, r_tree_Norm a0 = some r → GTo Try.prog 53 [.agg (c_S_api_Tree a0)] O n (.agg (c_S_api_Tree r)) O n) {a0 : S_api_Tree} {r : S_api_Tree} {O : Objs} {n : Nat} (h : b_tree_Norm r_tree_Norm a0 = some r) : GTo Try.prog 53 [.agg (c_S_api_Tree a0)] O n (.agg (c_S_api_Tree r)) O n := by
  unfold b_tree_Norm at h
  refine fn_of tab_ok Try.call53 Try.func53 rfl (Nat.le_of_ble_eq_true rfl) (Nat.le_refl _) fun hU => ?_
  have hN0 : O n = none := hU.fresh _ (Nat.le_refl _)
  have hN : ∀ k, O (n + k) = none := fun k => hU.fresh _ (Nat.le_add_right _ _)
  show W _ _ _ _ ⟨49, [], [(0, .agg (c_S_api_Tree a0))]⟩ (Loc O n []) _
  refine W_sq [1, 2] (W_regionD tab_ok [] ?_)
  simp only [push_cast, seval, ↓reduceIte, cast_lit, hN0, hN]
  refine W_seqK ?_
  refine W_sq [1, 2, 10] (W_regionD tab_ok [] ?_)
  simp only [push_cast, seval, ↓reduceIte, cast_lit, hN0, hN]
  refine W_cond (t := (a0.Kind == 0)) rfl (fun c15 => ?_) (fun c15 => ?_)
  · replace h := condT c15 h
    refine W_seqK ?_
    refine W_regionD tab_ok [] ?_
    simp only [push_cast, seval, ↓reduceIte, cast_lit, hN0, hN]
    refine W_drop [2] [false, true] ?_
    simp only [push_cast, seval, ↓reduceIte]
    refine W_ret ?_
    try simp only [gthen, gblock]
    have h := Option.some.inj h; subst h
    refine fin_loc (.inr rfl) hU [.agg [.val (.int .i64 0), .val (.slice none 0 0), .val (.slice none 0 0)]] (by omega) ?_
    simp only [push_cast, seval, ↓reduceIte, cast_lit, Try.results53, hN0, hN]
  · replace h := condF c15 h
    refine W_skip ?_
    try simp only [gthen, gblock]
    refine W_drop [1, 2] [true, true] ?_
    simp only [push_cast, seval, ↓reduceIte]
    refine W_sq [1, 2, 3, 4] (W_drawD tab_ok (by kernel_rfl) [] (by kernel_rfl) ?_)
    simp only [push_cast, seval, ↓reduceIte, cast_lit, hN0, hN]
    obtain ⟨z1, hz1, h⟩ := bC h
    refine W_seqN (E' := ⟨49, [], [(1, .ref n 0), (2, .ref (n + 1) 0), (3, .sl z1.1.length (fl (eI .u64) z1.1)), (4, .sl z1.2.length (fl e_S_api_Tree z1.2))]⟩) (O' := (Loc O n [some ⟨false, 25, 3, 1, (c_S_api_Tree a0)⟩, some ⟨false, 25, 3, 1, [.val (.int .i64 0), .val (.slice none 0 0), .val (.slice none 0 0)]⟩])) (n0 := (n + 2)) ?_ ?_
    · refine W_sq [1, 2, 3, 4, 18] (W_regionD tab_ok [] ?_)
      simp only [push_cast, seval, ↓reduceIte, cast_lit, hN0, hN]
      refine W_cond (t := (a0.Kind == 1)) rfl (fun c4 => ?_) (fun c4 => ?_)
      · replace hz1 := condT c4 hz1
        obtain ⟨y2, hy2, hz1⟩ := bC hz1
        obtain ⟨y3, hy3, hz1⟩ := bC hz1
        refine W_regionD tab_ok [] ?_
        simp only [push_cast, seval, ↓reduceIte, cast_lit, hN0, hN]
        refine (ok_tree_trimWords hy2).then ?_
        simp only [push_cast, seval, ↓reduceIte, cast_lit, hN0, hN]
        refine (ok_tree_trimKids hy3).then ?_
        simp only [push_cast, seval, ↓reduceIte, cast_lit, hN0, hN]
        have hz1 := Option.some.inj hz1; subst hz1
        refine And.intro rfl (Fit2.of (fit_loc hU rfl rfl ?_) (by omega))
        simp only [push_cast, seval, ↓reduceIte, cast_lit, hN0, hN]
      · replace hz1 := condF c4 hz1
        refine W_skip ?_
        try simp only [gthen, gblock]
        have hz1 := Option.some.inj hz1; subst hz1
        refine And.intro rfl (Fit2.of (fit_loc hU rfl rfl ?_) (by omega))
        simp only [push_cast, seval, ↓reduceIte, cast_lit, hN0, hN]
    refine W_seqK ?_
    refine W_regionD tab_ok [] ?_
    simp only [push_cast, seval, ↓reduceIte, cast_lit, hN0, hN]
    refine W_drop [2, 4, 5] [false, true, true] ?_
    simp only [push_cast, seval, ↓reduceIte]
    obtain ⟨z5, hz5, h⟩ := bC h
    refine W_seqN (E' := ⟨49, [], [(2, .ref (n + 1) 0), (4, .sl z1.2.length (fl e_S_api_Tree z1.2)), (5, .ref (n + 2) 0)]⟩) (O' := (Loc O n [none, some ⟨false, 25, 3, 1, [.val (.int .i64 0), .val (.slice none 0 0), .val (.slice none 0 0)]⟩, some ⟨false, 25, 3, 1, [.val (.int .i64 a0.Kind), .sl z1.1.length (fl (eI .u64) z1.1), .row (n + 4) z5.length]⟩, none, some ⟨true, 25, 3, z5.length, fl e_S_api_Tree z5⟩, none])) (n0 := (n + 6)) ?_ ?_
    · refine W_sq [2, 4, 5, 29] (W_regionD tab_ok [] ?_)
      simp only [push_cast, seval, ↓reduceIte, cast_lit, hN0, hN]
      refine W_cond (t := (decide (0 < (z1.2.length : Int)))) rfl (fun c7 => ?_) (fun c7 => ?_)
      · replace hz5 := condT c7 hz5
        obtain ⟨l6, al6, bl6, cl6, el6, hz5⟩ := bM2 (c := 56) rfl hz5
        have nl6 : Int.toNat (z1.2.length : Int) = List.length l6 := by rw [el6, List.length_replicate]
        have fl6 : ∀ O O' n, wkl O O' n (List.replicate (List.length l6) [.val (.int .i64 0), .val (.slice none 0 0), .val (.slice none 0 0)]).flatten (fl e_S_api_Tree l6) = True := fun O O' n => by rw [← nl6, el6]; exact eq_true (wkl_repl (by simp only [push_cast, seval, ↓reduceIte, cast_lit]) _)
        clear el6
        refine W_regionD tab_ok [] ?_
        simp only [push_cast, seval, ↓reduceIte, cast_lit, al6, bl6, cl6, fl6, nl6, hN0, hN]
        have hz5 := Option.some.inj hz5; subst hz5
        refine And.intro rfl ?_
        refine Fit2.trans (E' := (⟨49, [], [(2, .ref (n + 1) 0), (4, .sl z1.2.length (fl e_S_api_Tree z1.2)), (5, .ref (n + 2) 0)]⟩ : Env)) (O' := (Loc O n [none, some ⟨false, 25, 3, 1, [.val (.int .i64 0), .val (.slice none 0 0), .val (.slice none 0 0)]⟩, some ⟨false, 25, 3, 1, [.val (.int .i64 a0.Kind), .sl z1.1.length (fl (eI .u64) z1.1), .row (n + 3) l6.length]⟩, some ⟨true, 25, 3, l6.length, fl e_S_api_Tree l6⟩])) (n' := (n + 4)) (Fit2.of (fit_loc hU rfl rfl ?_) (by omega)) ?_
        · simp only [push_cast, seval, ↓reduceIte, cast_lit, al6, bl6, cl6, fl6, nl6, hN0, hN]
        refine ren_fit (k := 4) (k' := 6) hU [5, 1, 2, 4] [0, 1, 2, 0, 3, 0] rfl rfl rfl rfl ⟨rfl, rfl⟩ ?_
        simp only [push_cast, seval, ↓reduceIte, cast_lit, hN0, hN]
      · replace hz5 := condF c7 hz5
        refine W_skip ?_
        try simp only [gthen, gblock]
        have hz5 := Option.some.inj hz5; subst hz5
        refine And.intro rfl ?_
        refine Fit2.trans (E' := (⟨49, [], [(2, .ref (n + 1) 0), (4, .sl z1.2.length (fl e_S_api_Tree z1.2)), (5, .ref (n + 2) 0)]⟩ : Env)) (O' := (Loc O n [none, some ⟨false, 25, 3, 1, [.val (.int .i64 0), .val (.slice none 0 0), .val (.slice none 0 0)]⟩, some ⟨false, 25, 3, 1, [.val (.int .i64 a0.Kind), .sl z1.1.length (fl (eI .u64) z1.1), .val (.slice none 0 0)]⟩])) (n' := (n + 3)) (Fit2.of (fit_loc hU rfl rfl ?_) (by omega)) ?_
        · simp only [push_cast, seval, ↓reduceIte, cast_lit, hN0, hN]
        refine Fit2.trans (E' := (⟨49, [], [(2, .ref (n + 1) 0), (4, .sl z1.2.length (fl e_S_api_Tree z1.2)), (5, .ref (n + 2) 0)]⟩ : Env)) (O' := (Loc O n [none, some ⟨false, 25, 3, 1, [.val (.int .i64 0), .val (.slice none 0 0), .val (.slice none 0 0)]⟩, some ⟨false, 25, 3, 1, [.val (.int .i64 a0.Kind), .sl z1.1.length (fl (eI .u64) z1.1), .row (n + 3) 0]⟩, some ⟨true, 25, 3, 0, []⟩])) (n' := (n + 4)) ?_ ?_
        · have ha := adoptF_fit (ba := n) (E := (⟨49, [], [(2, .ref (n + 1) 0), (4, .sl z1.2.length (fl e_S_api_Tree z1.2)), (5, .ref (n + 2) 0)]⟩ : Env)) (O := (Loc O n [none, some ⟨false, 25, 3, 1, [.val (.int .i64 0), .val (.slice none 0 0), .val (.slice none 0 0)]⟩, some ⟨false, 25, 3, 1, [.val (.int .i64 a0.Kind), .sl z1.1.length (fl (eI .u64) z1.1), .val (.slice none 0 0)]⟩])) (n := (n + 3)) (p := (n + 2)) (k := 2) (q := ⟨false, 25, 3, 1, [.val (.int .i64 a0.Kind), .sl z1.1.length (fl (eI .u64) z1.1), .val (.slice none 0 0)]⟩) 25 3 (by simp only [Loc_at, Loc_at0, List.getElem?_cons_zero, List.getElem?_cons_succ, Option.join_some, upd_same]) rfl (by omega)
          simp only [Loc_push, Loc_push0, Loc_upd, Loc_upd0, List.set_cons_zero, List.set_cons_succ, List.cons_append, List.nil_append, List.length_cons, List.length_nil, Nat.zero_add, Nat.reduceAdd, Nat.reduceLT, Nat.add_assoc] at ha
          exact ha
        refine Fit2.trans (E' := (⟨49, [], [(2, .ref (n + 1) 0), (4, .sl z1.2.length (fl e_S_api_Tree z1.2)), (5, .ref (n + 2) 0)]⟩ : Env)) (O' := (Loc O n [none, some ⟨false, 25, 3, 1, [.val (.int .i64 0), .val (.slice none 0 0), .val (.slice none 0 0)]⟩, some ⟨false, 25, 3, 1, [.val (.int .i64 a0.Kind), .sl z1.1.length (fl (eI .u64) z1.1), .row (n + 3) ([] : List S_api_Tree).length]⟩, some ⟨true, 25, 3, ([] : List S_api_Tree).length, fl e_S_api_Tree ([] : List S_api_Tree)⟩])) (n' := (n + 4)) (Fit2.of (fit_loc hU rfl rfl ?_) (by omega)) ?_
        · simp only [push_cast, seval, ↓reduceIte, cast_lit, hN0, hN]
        refine ren_fit (k := 4) (k' := 6) hU [5, 1, 2, 4] [0, 1, 2, 0, 3, 0] rfl rfl rfl rfl ⟨rfl, rfl⟩ ?_
        simp only [push_cast, seval, ↓reduceIte, cast_lit, hN0, hN]
    refine W_seqK ?_
    refine W_sq [2, 5, 34, 35, 36] (W_regionD tab_ok [] ?_)
    simp only [push_cast, seval, ↓reduceIte, cast_lit, hN0, hN]
    refine W_drop [2, 5, 34, 35, 36] [false, true, true, false, true, false] ?_
    simp only [push_cast, seval, ↓reduceIte]
    obtain ⟨z14, hz14, h⟩ := bC h
    refine W_blockX (E' := ⟨49, [], [(2, .ref (n + 1) 0), (5, .ref (n + 2) 0)]⟩) (O' := (Loc O n [none, some ⟨false, 25, 3, 1, [.val (.int .i64 0), .val (.slice none 0 0), .val (.slice none 0 0)]⟩, some ⟨false, 25, 3, 1, [.val (.int .i64 a0.Kind), .sl z1.1.length (fl (eI .u64) z1.1), .row (n + 4) z14.length]⟩, none, some ⟨true, 25, 3, z14.length, fl e_S_api_Tree z14⟩, none])) (n0 := (n + 6)) ?_ ?_
    · refine W_loopJ hz14 (fun s0_ => ⟨49, [], [(2, .ref (n + 1) 0), (5, .ref (n + 2) 0), (34, .sl z1.2.length (fl e_S_api_Tree z1.2)), (35, .val (.int .i64 (z1.2.length : Int))), (36, .val (.int .i64 s0_.1))]⟩) (fun s0_ => (Loc O n [none, some ⟨false, 25, 3, 1, [.val (.int .i64 0), .val (.slice none 0 0), .val (.slice none 0 0)]⟩, some ⟨false, 25, 3, 1, [.val (.int .i64 a0.Kind), .sl z1.1.length (fl (eI .u64) z1.1), .row (n + 4) s0_.2.length]⟩, none, some ⟨true, 25, 3, s0_.2.length, fl e_S_api_Tree s0_.2⟩, none])) (fun z14 => JX 0 n (⟨49, [], [(2, .ref (n + 1) 0), (5, .ref (n + 2) 0)]⟩ : Env) (Loc O n [none, some ⟨false, 25, 3, 1, [.val (.int .i64 0), .val (.slice none 0 0), .val (.slice none 0 0)]⟩, some ⟨false, 25, 3, 1, [.val (.int .i64 a0.Kind), .sl z1.1.length (fl (eI .u64) z1.1), .row (n + 4) z14.length]⟩, none, some ⟨true, 25, 3, z14.length, fl e_S_api_Tree z14⟩, none]) (n + 6)) ?_
      intro s0_ x0_ hs0_
      unfold b_tree_Norm_L0 at hs0_
      try dsimp only
      refine W_sq [2, 5, 34, 35, 36, 37] (W_regionD tab_ok [] ?_)
      simp only [push_cast, seval, ↓reduceIte, cast_lit, hN0, hN]
      refine W_seqK ?_
      refine W_cond (t := (decide (s0_.1 < (z1.2.length : Int)))) rfl (fun c13 => ?_) (fun c13 => ?_)
      · replace hs0_ := condT c13 hs0_
        refine W_skip ?_
        try simp only [gthen, gblock]
        refine W_drop [2, 5, 34, 35, 36] [false, true, true, false, true, false] ?_
        simp only [push_cast, seval, ↓reduceIte]
        refine W_seqK ?_
        refine W_block ?_
        refine W_seqK ?_
        obtain ⟨x9, hx9, ax9, bx9, cx9, hs0_⟩ := bE (f := e_S_api_Tree) tab25 (fun _ => rfl) (by decide) hs0_
        refine W_regionD tab_ok [] ?_
        simp only [push_cast, Nat.reduceAdd, Nat.reduceSub, Nat.reduceMul, Nat.reduceLeDiff, Nat.reduceLT, Nat.reduceEqDiff, ↓reduceIte, reduceCtorEq, Int.reduceBEq, Int.reduceBNe, Nat.reduceBEq, Int.reduceLE, Int.reduceLT, Int.reduceEq, Int.reduceNe, Int.reduceNeg, Nat.reduceDiv, Nat.reduceMod, Nat.reducePow, cast_lit, ax9, bx9, cx9, hN0, hN]
        refine W_drop [2, 5, 6, 7, 34, 35, 36] [false, true, true, false, true, false, true] ?_
        simp only [push_cast, seval, ↓reduceIte]
        obtain ⟨y10, hy10, hs0_⟩ := bC hs0_
        obtain ⟨x11, hx11, ax11, bx11, cx11, hs0_⟩ := bE (f := e_S_api_Tree) tab25 (fun _ => rfl) (by decide) hs0_
        have gu12 : gplace (fl e_S_api_Tree s0_.2) [.val (.int .i64 y10.Kind), .sl y10.Words.length (fl (eI .u64) y10.Words), .sl y10.Kids.length (fl e_S_api_Tree y10.Kids)] (Int.toNat s0_.1 * 3) = some (fl e_S_api_Tree (setI s0_.2 s0_.1 y10)) := (congrArg (fun c => gplace (fl e_S_api_Tree s0_.2) c (Int.toNat s0_.1 * 3)) (show [.val (.int .i64 y10.Kind), .sl y10.Words.length (fl (eI .u64) y10.Words), .sl y10.Kids.length (fl e_S_api_Tree y10.Kids)] = e_S_api_Tree y10 from by simp only [e_S_api_Tree, e0_eq_S_api_Tree, eI, eB, eS, eL])).trans (gplace_el (f := e_S_api_Tree) (ti := ⟨.bool, 3, 0, [], false⟩) (x := y10) (fun _ => rfl) (getI_nat hx11))
        refine W_drawF tab_ok (by kernel_rfl) [false, false, false, false, false, false, true] [] (by kernel_rfl) ?_
        simp only [push_cast, Nat.reduceAdd, Nat.reduceSub, Nat.reduceMul, Nat.reduceLeDiff, Nat.reduceLT, Nat.reduceEqDiff, ↓reduceIte, reduceCtorEq, Int.reduceBEq, Int.reduceBNe, Nat.reduceBEq, Int.reduceLE, Int.reduceLT, Int.reduceEq, Int.reduceNe, Int.reduceNeg, Nat.reduceDiv, Nat.reduceMod, Nat.reducePow, cast_lit, ax11, bx11, cx11, gu12, hN0, hN]
        refine PCall.of (ok_r_tree_Norm hy10) ?_
        simp only [push_cast, Nat.reduceAdd, Nat.reduceSub, Nat.reduceMul, Nat.reduceLeDiff, Nat.reduceLT, Nat.reduceEqDiff, ↓reduceIte, reduceCtorEq, Int.reduceBEq, Int.reduceBNe, Nat.reduceBEq, Int.reduceLE, Int.reduceLT, Int.reduceEq, Int.reduceNe, Int.reduceNeg, Nat.reduceDiv, Nat.reduceMod, Nat.reducePow, cast_lit, ax11, bx11, cx11, gu12, hN0, hN]
        refine W_drop [2, 5, 34, 35, 36] [false, true, true, false, true, false, false] ?_
        simp only [push_cast, seval, ↓reduceIte]
        refine W_regionD tab_ok [] ?_
        simp only [push_cast, seval, ↓reduceIte, cast_lit, hN0, hN]
        have hs0_ := Option.some.inj hs0_; subst hs0_
        refine And.intro rfl (Fit2.of (fit_loc hU rfl rfl ?_) (by omega))
        simp only [push_cast, seval, ↓reduceIte, cast_lit, hN0, hN]
      · replace hs0_ := condF c13 hs0_
        refine W_exit ?_
        try simp only [gthen, gblock, ↓reduceIte, Nat.reduceEqDiff]
        have hs0_ := Option.some.inj hs0_; subst hs0_
        refine And.intro (fun h => by cases h) (And.intro rfl (Fit2.of (fit_loc hU rfl rfl ?_) (by omega)))
        simp only [push_cast, seval, ↓reduceIte, cast_lit, hN0, hN]
    try simp only [gthen, gblock, ↓reduceIte, Nat.reduceEqDiff]
    refine W_drop [2, 5] [false, true, true, false, true, false] ?_
    simp only [push_cast, seval, ↓reduceIte]
    refine W_seqK ?_
    refine W_regionD tab_ok [] ?_
    simp only [push_cast, seval, ↓reduceIte, cast_lit, hN0, hN]
    refine W_drop [2] [false, true, false, false, true, false] ?_
    simp only [push_cast, seval, ↓reduceIte]
    refine W_ret ?_
    try simp only [gthen, gblock]
    have h := Option.some.inj h; subst h
    refine fin_loc (.inr rfl) hU [.agg [.val (.int .i64 a0.Kind), .sl z1.1.length (fl (eI .u64) z1.1), .row (n + 4) z14.length]] (by omega) ?_
    simp only [push_cast, seval, ↓reduceIte, cast_lit, Try.results53, hN0, hN]
theorem lv_tree_Norm_ok : ∀ k, (∀ {a0 : S_api_Tree} {r : S_api_Tree} {O : Objs} {n : Nat}, (lv_tree_Norm k) a0 = some r → GTo Try.prog 53 [.agg (c_S_api_Tree a0)] O n (.agg (c_S_api_Tree r)) O n) := fun k => by
  induction k with
  | zero => exact @fun a0 r O n h => (nomatch (show (none : Option _) = some _ from h))
  | succ k ih => exact @fun a0 r O n h => okb_tree_Norm (ih)  h
theorem ok_tree_Norm {a0 : S_api_Tree} {r : S_api_Tree} {O : Objs} {n : Nat} (h : m_tree_Norm a0 = some r) : GTo Try.prog 53 [.agg (c_S_api_Tree a0)] O n (.agg (c_S_api_Tree r)) O n := by
  obtain ⟨k, hk⟩ := lim_some h
  exact (lv_tree_Norm_ok k)  hk
theorem ok_slices_Clone_api_WordEdit_api_WordEdit {a0 r : List S_api_WordEdit} {O : Objs} {n : Nat} (h : m_slices_Clone_api_WordEdit_api_WordEdit a0 = some r) : GTo Try.prog 54 [.sl a0.length (fl e_S_api_WordEdit a0)] O n (.row n r.length) (Loc O n [some ⟨true, 58, 4, r.length, fl e_S_api_WordEdit r⟩]) (n + 1) := by
  have h1 := appI_1 h
  have h2 := appI_2 h
  have h3 := appI_eq h
  rw [List.nil_append] at h3
  subst h3
  simp only [List.length_nil, Nat.zero_add] at h1 h2
  clear h
  refine fn_of tab_ok Try.call54 Try.func54 rfl (Nat.le_of_ble_eq_true rfl) (by omega) fun hU => ?_
  have hN0 : O n = none := hU.fresh _ (Nat.le_refl _)
  have hN : ∀ k, O (n + k) = none := fun k => hU.fresh _ (Nat.le_add_right _ _)
  show W _ _ _ _ ⟨8, [], [(0, .sl r.length (fl e_S_api_WordEdit r))]⟩ (Loc O n []) _
  refine W_sq [0] (W_regionD tab_ok [] ?_)
  simp only [push_cast, seval, ↓reduceIte, cast_lit, hN0, hN]
  refine W_know 0 r.length (fl e_S_api_WordEdit r) rfl (Nat.le_of_ble_eq_true rfl) (pures_fl pu_e_S_api_WordEdit _) fun A c hA => ?_
  refine W_sq [0, 4] (W_regionD tab_ok [] ?_)
  simp only [push_cast, seval, ↓reduceIte, cast_lit, hN0, hN]
  cases A with
  | none =>
    obtain rfl : r = [] := List.eq_nil_of_length_eq_zero (hA rfl)
    refine W_cond (t := true) rfl (fun _ => ?_) (fun hc => by cases hc)
    refine W_sq [2] (W_regionD tab_ok [] ?_)
    simp only [push_cast, seval, ↓reduceIte, cast_lit, hN0, hN]
    refine W_ret ?_
    try simp only [gthen, gblock]
    refine fin_locW (k := 1) (L3 := [some ⟨true, 58, 4, 0, []⟩]) (E2 := ⟨8, [], [(2, .row n 0), (2, .val (.slice none 0 0))]⟩) (n3 := (n + 1)) (.inr rfl) hU rfl [.row n 0] ?_ ?_
    · have ha := adopt_fit (ba := n) (E := ⟨8, [], [(2, .val (.slice none 0 0))]⟩) (O := (Loc O n [])) (n := n) 2 58 4 rfl (by omega)
      simp only [Loc_push0] at ha
      exact ha
    simp only [push_cast, seval, ↓reduceIte, cast_lit, Try.results54, hN0, hN]
  | some A =>
    refine W_cond (t := false) rfl (fun hc => by cases hc) (fun _ => ?_)
    refine W_skip ?_
    try simp only [gthen, gblock]
    refine And.intro rfl (And.intro (Nat.le_of_ble_eq_true rfl) ?_)
    refine W_seqK ?_
    refine W_regionD tab_ok [] ?_
    simp only [push_cast, seval, ↓reduceIte, cast_lit, h1, h2, hN0, hN]
    refine W_ret ?_
    try simp only [gthen, gblock]
    refine fin_locR (.inr rfl) hU rfl [.row n r.length] (by omega) ?_
    simp only [push_cast, seval, ↓reduceIte, cast_lit, Try.results54, hN0, hN]
theorem ok_normal_writer_lay {a0 : S_normal_writer} {r : S_normal_writer} {O : Objs} {n : Nat} {i0 j0_0 j0_1 j0_2 : Nat} (hi0 : i0 < n) (hj0_0 : j0_0 < n) (hj0_1 : j0_1 < n) (hj0_2 : j0_2 < n) (hne0_0 : i0 ≠ j0_0) (hne0_1 : i0 ≠ j0_1) (hne0_2 : i0 ≠ j0_2) (hjj0_0_0_1 : j0_0 ≠ j0_1) (hjj0_0_0_2 : j0_0 ≠ j0_2) (hjj0_1_0_2 : j0_1 ≠ j0_2) (ho0 : O i0 = some ⟨false, 110, 4, 1, [.row j0_2 a0.out.length, .val (.int .i64 a0.kept), .row j0_0 a0.gone.length, .row j0_1 a0.come.length]⟩) (hoj0_0 : O j0_0 = some ⟨true, 25, 3, a0.gone.length, fl e_S_api_Tree a0.gone⟩) (hoj0_1 : O j0_1 = some ⟨true, 25, 3, a0.come.length, fl e_S_api_Tree a0.come⟩) (hoj0_2 : O j0_2 = some ⟨true, 69, 14, a0.out.length, fl e_S_api_Op a0.out⟩) (h : m_normal_writer_lay a0 = some r) : GTo Try.prog 87 [.ref i0 0] O n (.tup []) (Loc ((((O.upd j0_0 none).upd j0_1 none).upd j0_2 none).upd i0 (some ⟨false, 110, 4, 1, [.row (n + 2) r.out.length, .val (.int .i64 r.kept), .row n r.gone.length, .row (n + 1) r.come.length]⟩)) n [some ⟨true, 25, 3, r.gone.length, fl e_S_api_Tree r.gone⟩, some ⟨true, 25, 3, r.come.length, fl e_S_api_Tree r.come⟩, some ⟨true, 69, 14, r.out.length, fl e_S_api_Op r.out⟩]) (n + 3) := by
  unfold m_normal_writer_lay at h
  refine fn_of tab_ok Try.call87 Try.func87 rfl (Nat.le_of_ble_eq_true rfl) (by omega) fun hU => ?_
  have e0 := take_fit (ba := n) (E := ⟨73, [], genv 0 [.ref i0 0]⟩) (O := (Loc O n [])) (n := n) (i := i0) (j := j0_0) (k := 2) (len := a0.gone.length) (q := ⟨false, 110, 4, 1, [.row j0_2 a0.out.length, .val (.int .i64 a0.kept), .row j0_0 a0.gone.length, .row j0_1 a0.come.length]⟩) (qj := ⟨true, 25, 3, a0.gone.length, fl e_S_api_Tree a0.gone⟩) (by rw [Loc_out _ hi0]; first | exact ho0 | exact upd_same _ _ _) rfl (by rw [Loc_out _ hj0_0]; exact hoj0_0) hne0_0 (by omega)
  simp only [Loc_updo _ _ hj0_0, Loc_updo _ _ hi0, Loc_push, Loc_push0, upd_updU, upd_in hne0_0, List.set_cons_zero, List.set_cons_succ, List.cons_append, List.nil_append, List.length_cons, List.length_nil, Nat.zero_add, Nat.reduceAdd, Nat.add_assoc] at e0
  refine W_fit2 e0 ?_
  have e1 := take_fit (ba := n) (E := ⟨73, [], genv 0 [.ref i0 0]⟩) (O := (Loc ((O.upd j0_0 none).upd i0 (some ⟨false, 110, 4, 1, [.row j0_2 a0.out.length, .val (.int .i64 a0.kept), .row n a0.gone.length, .row j0_1 a0.come.length]⟩)) n [some ⟨true, 25, 3, a0.gone.length, fl e_S_api_Tree a0.gone⟩])) (n := (n + 1)) (i := i0) (j := j0_1) (k := 3) (len := a0.come.length) (q := ⟨false, 110, 4, 1, [.row j0_2 a0.out.length, .val (.int .i64 a0.kept), .row n a0.gone.length, .row j0_1 a0.come.length]⟩) (qj := ⟨true, 25, 3, a0.come.length, fl e_S_api_Tree a0.come⟩) (by rw [Loc_out _ hi0]; first | exact ho0 | exact upd_same _ _ _) rfl (by rw [Loc_out _ hj0_1, upd_ne _ _ (Ne.symm hne0_1), upd_ne _ _ (Ne.symm hjj0_0_0_1)]; exact hoj0_1) hne0_1 (by omega)
  simp only [Loc_updo _ _ hj0_1, Loc_updo _ _ hi0, Loc_push, Loc_push0, upd_updU, upd_in hne0_1, List.set_cons_zero, List.set_cons_succ, List.cons_append, List.nil_append, List.length_cons, List.length_nil, Nat.zero_add, Nat.reduceAdd, Nat.add_assoc] at e1
  refine W_fit2 e1 ?_
  have e2 := take_fit (ba := n) (E := ⟨73, [], genv 0 [.ref i0 0]⟩) (O := (Loc (((O.upd j0_0 none).upd j0_1 none).upd i0 (some ⟨false, 110, 4, 1, [.row j0_2 a0.out.length, .val (.int .i64 a0.kept), .row n a0.gone.length, .row (n + 1) a0.come.length]⟩)) n [some ⟨true, 25, 3, a0.gone.length, fl e_S_api_Tree a0.gone⟩, some ⟨true, 25, 3, a0.come.length, fl e_S_api_Tree a0.come⟩])) (n := (n + 2)) (i := i0) (j := j0_2) (k := 0) (len := a0.out.length) (q := ⟨false, 110, 4, 1, [.row j0_2 a0.out.length, .val (.int .i64 a0.kept), .row n a0.gone.length, .row (n + 1) a0.come.length]⟩) (qj := ⟨true, 69, 14, a0.out.length, fl e_S_api_Op a0.out⟩) (by rw [Loc_out _ hi0]; first | exact ho0 | exact upd_same _ _ _) rfl (by rw [Loc_out _ hj0_2, upd_ne _ _ (Ne.symm hne0_2), upd_ne _ _ (Ne.symm hjj0_1_0_2), upd_ne _ _ (Ne.symm hjj0_0_0_2)]; exact hoj0_2) hne0_2 (by omega)
  simp only [Loc_updo _ _ hj0_2, Loc_updo _ _ hi0, Loc_push, Loc_push0, upd_updU, upd_in hne0_2, List.set_cons_zero, List.set_cons_succ, List.cons_append, List.nil_append, List.length_cons, List.length_nil, Nat.zero_add, Nat.reduceAdd, Nat.add_assoc] at e2
  refine W_fit2 e2 ?_
  have hU := (Und.drop (Und.drop (Und.drop hU j0_0) j0_1) j0_2)
  have hk0 : ∀ k, i0 < n + k := fun k => by omega
  have hN0 : ∀ o, Objs.upd (((O.upd j0_0 none).upd j0_1 none).upd j0_2 none) i0 o n = none := fun o => upd_fresh hU hi0 _ (Nat.le_refl _)
  have hN : ∀ o k, Objs.upd (((O.upd j0_0 none).upd j0_1 none).upd j0_2 none) i0 o (n + k) = none := fun o k => upd_fresh hU hi0 _ (Nat.le_add_right _ _)
  show W _ _ _ _ ⟨73, [], [(0, .ref i0 0)]⟩ (Loc ((((O.upd j0_0 none).upd j0_1 none).upd j0_2 none).upd i0 (some ⟨false, 110, 4, 1, [.row (n + 2) a0.out.length, .val (.int .i64 a0.kept), .row n a0.gone.length, .row (n + 1) a0.come.length]⟩)) n [some ⟨true, 25, 3, a0.gone.length, fl e_S_api_Tree a0.gone⟩, some ⟨true, 25, 3, a0.come.length, fl e_S_api_Tree a0.come⟩, some ⟨true, 69, 14, a0.out.length, fl e_S_api_Op a0.out⟩]) _
  obtain ⟨z1, hz1, h⟩ := bC h
  refine W_seqN (E' := ⟨73, [], [(0, .ref i0 0)]⟩) (O' := (Loc ((((O.upd j0_0 none).upd j0_1 none).upd j0_2 none).upd i0 (some ⟨false, 110, 4, 1, [.row (n + 2) z1.length, .val (.int .i64 a0.kept), .row n a0.gone.length, .row (n + 1) a0.come.length]⟩)) n [some ⟨true, 25, 3, a0.gone.length, fl e_S_api_Tree a0.gone⟩, some ⟨true, 25, 3, a0.come.length, fl e_S_api_Tree a0.come⟩, some ⟨true, 69, 14, z1.length, fl e_S_api_Op z1⟩, none])) (n0 := (n + 4)) ?_ ?_
  · refine W_sq [0, 6] (W_regionD tab_ok [] ?_)
    simp only [push_cast, seval, ↓reduceIte, cast_lit, hi0, hk0, hN0, hN]
    refine W_cond (t := (decide (0 < a0.kept))) rfl (fun c5 => ?_) (fun c5 => ?_)
    · replace hz1 := condT c5 hz1
      obtain ⟨l2, pl2, ql2, el2, hz1⟩ := bA (k := 1) rfl hz1
      obtain ⟨x3, hx3, ax3, bx3, cx3, hz1⟩ := bE (f := e_S_api_Op) tab69 (fun _ => rfl) (by decide) hz1
      have gu4 : gplace (fl e_S_api_Op a0.out ++ [.val (.int .i64 0), .val (.int .i64 0), .val (.slice none 0 0), .val (.int .i64 0), .val (.int .i64 0), .val (.slice none 0 0), .val (.slice none 0 0), .val (.int .i64 0), .val (.slice none 0 0), .val (.slice none 0 0), .val (.slice none 0 0), .val (.slice none 0 0), .val (.int .i64 0), .val (.slice none 0 0)]) [.val (.int .i64 0), .val (.int .i64 a0.kept), .val (.slice none 0 0), .val (.int .i64 0), .val (.int .i64 0), .val (.slice none 0 0), .val (.slice none 0 0), .val (.int .i64 0), .val (.slice none 0 0), .val (.slice none 0 0), .val (.slice none 0 0), .val (.slice none 0 0), .val (.int .i64 0), .val (.slice none 0 0)] (List.length a0.out * 14) = some (fl e_S_api_Op a0.out ++ [.val (.int .i64 0), .val (.int .i64 a0.kept), .val (.slice none 0 0), .val (.int .i64 0), .val (.int .i64 0), .val (.slice none 0 0), .val (.slice none 0 0), .val (.int .i64 0), .val (.slice none 0 0), .val (.slice none 0 0), .val (.slice none 0 0), .val (.slice none 0 0), .val (.int .i64 0), .val (.slice none 0 0)]) := gplace_last (f := e_S_api_Op) (sz := 14) (fun _ => rfl) rfl rfl
      refine W_drawY tab_ok (by kernel_rfl) [.low, .low, .low, .low, .low, .low, .low, .low, .low, .low, .pass, .bar, .shp, .fill true, .shp, .shp, .fill false] (fun i => i < (n + 3)) [0, 1, 2, 3, 4, 5, 6, 7, 8, 9, 10, 11, 12, 13, 14, 15, 16] [.low, .low, .low, .low, .low, .low, .low, .low, .low, .low, .pass, .bar, .shp, .fill true, .shp, .shp, .fill false] [] (by kernel_rfl) rfl ?_
      simp only [push_cast, Nat.reduceAdd, Nat.reduceSub, Nat.reduceMul, Nat.reduceLeDiff, Nat.reduceLT, Nat.reduceEqDiff, ↓reduceIte, reduceCtorEq, Int.reduceBEq, Int.reduceBNe, Nat.reduceBEq, Int.reduceLE, Int.reduceLT, Int.reduceEq, Int.reduceNe, Int.reduceNeg, Nat.reduceDiv, Nat.reduceMod, Nat.reducePow, cast_lit, pl2, ql2, el2, ax3, bx3, cx3, gu4, hi0, hk0, hN0, hN]
      repeat (with_reducible refine And.intro (by first | omega | exact agree_loc rfl | exact agree_loc0 | exact agree_ne rfl rfl) ?_)
      have hz1 := Option.some.inj hz1; subst hz1
      refine And.intro rfl (Fit2.of (fit_loco hU rfl rfl ?_) (by omega))
      simp only [push_cast, Nat.reduceAdd, Nat.reduceSub, Nat.reduceMul, Nat.reduceLeDiff, Nat.reduceLT, Nat.reduceEqDiff, ↓reduceIte, reduceCtorEq, Int.reduceBEq, Int.reduceBNe, Nat.reduceBEq, Int.reduceLE, Int.reduceLT, Int.reduceEq, Int.reduceNe, Int.reduceNeg, Nat.reduceDiv, Nat.reduceMod, Nat.reducePow, cast_lit, pl2, ql2, el2, ax3, bx3, cx3, gu4, hi0, hk0, hN0, hN]
    · replace hz1 := condF c5 hz1
      refine W_skip ?_
      try simp only [gthen, gblock]
      have hz1 := Option.some.inj hz1; subst hz1
      refine And.intro rfl (Fit2.of (fit_loco hU rfl rfl ?_) (by omega))
      simp only [push_cast, seval, ↓reduceIte, cast_lit, hi0, hk0, hN0, hN]
  obtain ⟨z6, hz6, h⟩ := bC h
  refine W_seqN (E' := ⟨73, [], [(0, .ref i0 0)]⟩) (O' := (Loc ((((O.upd j0_0 none).upd j0_1 none).upd j0_2 none).upd i0 (some ⟨false, 110, 4, 1, [.row (n + 2) z6.1.length, .val (.int .i64 a0.kept), .sl z6.2.length (fl e_S_api_Tree z6.2), .row (n + 1) a0.come.length]⟩)) n [none, some ⟨true, 25, 3, a0.come.length, fl e_S_api_Tree a0.come⟩, some ⟨true, 69, 14, z6.1.length, fl e_S_api_Op z6.1⟩, none, none])) (n0 := (n + 5)) ?_ ?_
  · refine W_sq [0, 27] (W_regionD tab_ok [] ?_)
    simp only [push_cast, seval, ↓reduceIte, cast_lit, hi0, hk0, hN0, hN]
    refine W_cond (t := (decide (0 < (a0.gone.length : Int)))) rfl (fun c12 => ?_) (fun c12 => ?_)
    · replace hz6 := condT c12 hz6
      refine W_fit ⟨73, [], [(0, .ref i0 0)]⟩ (Loc ((((O.upd j0_0 none).upd j0_1 none).upd j0_2 none).upd i0 (some ⟨false, 110, 4, 1, [.row (n + 2) z1.length, .val (.int .i64 a0.kept), .sl a0.gone.length (fl e_S_api_Tree a0.gone), .row (n + 1) a0.come.length]⟩)) n [none, some ⟨true, 25, 3, a0.come.length, fl e_S_api_Tree a0.come⟩, some ⟨true, 69, 14, z1.length, fl e_S_api_Op z1⟩, none]) (fit_loco hU rfl rfl ?_) ?_
      · simp only [push_cast, seval, ↓reduceIte, cast_lit, hi0, hk0, hN0, hN]
      obtain ⟨l9, pl9, ql9, el9, hz6⟩ := bA (k := 1) rfl hz6
      obtain ⟨x10, hx10, ax10, bx10, cx10, hz6⟩ := bE (f := e_S_api_Op) tab69 (fun _ => rfl) (by decide) hz6
      have gu11 : gplace (fl e_S_api_Op z1 ++ [.val (.int .i64 0), .val (.int .i64 0), .val (.slice none 0 0), .val (.int .i64 0), .val (.int .i64 0), .val (.slice none 0 0), .val (.slice none 0 0), .val (.int .i64 0), .val (.slice none 0 0), .val (.slice none 0 0), .val (.slice none 0 0), .val (.slice none 0 0), .val (.int .i64 0), .val (.slice none 0 0)]) [.val (.int .i64 1), .val (.int .i64 0), .sl a0.gone.length (fl e_S_api_Tree a0.gone), .val (.int .i64 0), .val (.int .i64 0), .val (.slice none 0 0), .val (.slice none 0 0), .val (.int .i64 0), .val (.slice none 0 0), .val (.slice none 0 0), .val (.slice none 0 0), .val (.slice none 0 0), .val (.int .i64 0), .val (.slice none 0 0)] (List.length z1 * 14) = some (fl e_S_api_Op z1 ++ [.val (.int .i64 1), .val (.int .i64 0), .sl a0.gone.length (fl e_S_api_Tree a0.gone), .val (.int .i64 0), .val (.int .i64 0), .val (.slice none 0 0), .val (.slice none 0 0), .val (.int .i64 0), .val (.slice none 0 0), .val (.slice none 0 0), .val (.slice none 0 0), .val (.slice none 0 0), .val (.int .i64 0), .val (.slice none 0 0)]) := gplace_last (f := e_S_api_Op) (sz := 14) (fun _ => rfl) rfl rfl
      refine W_drawY tab_ok (by kernel_rfl) [.low, .low, .low, .low, .low, .low, .low, .low, .low, .low, .pass, .bar, .shp, .fill true, .shp, .shp, .fill false] (fun i => i < (n + 4)) [0, 1, 2, 3, 4, 5, 6, 7, 8, 9, 10, 11, 12, 13, 14, 15, 16] [.low, .low, .low, .low, .low, .low, .low, .low, .low, .low, .pass, .bar, .shp, .fill true, .shp, .shp, .fill false] [] (by kernel_rfl) rfl ?_
      simp only [push_cast, Nat.reduceAdd, Nat.reduceSub, Nat.reduceMul, Nat.reduceLeDiff, Nat.reduceLT, Nat.reduceEqDiff, ↓reduceIte, reduceCtorEq, Int.reduceBEq, Int.reduceBNe, Nat.reduceBEq, Int.reduceLE, Int.reduceLT, Int.reduceEq, Int.reduceNe, Int.reduceNeg, Nat.reduceDiv, Nat.reduceMod, Nat.reducePow, cast_lit, pl9, ql9, el9, ax10, bx10, cx10, gu11, hi0, hk0, hN0, hN]
      repeat (with_reducible refine And.intro (by first | omega | exact agree_loc rfl | exact agree_loc0 | exact agree_ne rfl rfl) ?_)
      have hz6 := Option.some.inj hz6; subst hz6
      refine And.intro rfl (Fit2.of (fit_loco hU rfl rfl ?_) (by omega))
      simp only [push_cast, Nat.reduceAdd, Nat.reduceSub, Nat.reduceMul, Nat.reduceLeDiff, Nat.reduceLT, Nat.reduceEqDiff, ↓reduceIte, reduceCtorEq, Int.reduceBEq, Int.reduceBNe, Nat.reduceBEq, Int.reduceLE, Int.reduceLT, Int.reduceEq, Int.reduceNe, Int.reduceNeg, Nat.reduceDiv, Nat.reduceMod, Nat.reducePow, cast_lit, pl9, ql9, el9, ax10, bx10, cx10, gu11, hi0, hk0, hN0, hN]
    · replace hz6 := condF c12 hz6
      refine W_skip ?_
      try simp only [gthen, gblock]
      have hz6 := Option.some.inj hz6; subst hz6
      refine And.intro rfl (Fit2.of (fit_loco hU rfl rfl ?_) (by omega))
      simp only [push_cast, seval, ↓reduceIte, cast_lit, hi0, hk0, hN0, hN]
  obtain ⟨z13, hz13, h⟩ := bC h
  refine W_seqN (E' := ⟨73, [], [(0, .ref i0 0)]⟩) (O' := (Loc ((((O.upd j0_0 none).upd j0_1 none).upd j0_2 none).upd i0 (some ⟨false, 110, 4, 1, [.row (n + 2) z13.1.length, .val (.int .i64 a0.kept), .sl z6.2.length (fl e_S_api_Tree z6.2), .sl z13.2.length (fl e_S_api_Tree z13.2)]⟩)) n [none, none, some ⟨true, 69, 14, z13.1.length, fl e_S_api_Op z13.1⟩, none, none, none])) (n0 := (n + 6)) ?_ ?_
  · refine W_sq [0, 48] (W_regionD tab_ok [] ?_)
    simp only [push_cast, seval, ↓reduceIte, cast_lit, hi0, hk0, hN0, hN]
    refine W_cond (t := (decide (0 < (a0.come.length : Int)))) rfl (fun c19 => ?_) (fun c19 => ?_)
    · replace hz13 := condT c19 hz13
      refine W_fit ⟨73, [], [(0, .ref i0 0)]⟩ (Loc ((((O.upd j0_0 none).upd j0_1 none).upd j0_2 none).upd i0 (some ⟨false, 110, 4, 1, [.row (n + 2) z6.1.length, .val (.int .i64 a0.kept), .sl z6.2.length (fl e_S_api_Tree z6.2), .sl a0.come.length (fl e_S_api_Tree a0.come)]⟩)) n [none, none, some ⟨true, 69, 14, z6.1.length, fl e_S_api_Op z6.1⟩, none, none]) (fit_loco hU rfl rfl ?_) ?_
      · simp only [push_cast, seval, ↓reduceIte, cast_lit, hi0, hk0, hN0, hN]
      obtain ⟨l16, pl16, ql16, el16, hz13⟩ := bA (k := 1) rfl hz13
      obtain ⟨x17, hx17, ax17, bx17, cx17, hz13⟩ := bE (f := e_S_api_Op) tab69 (fun _ => rfl) (by decide) hz13
      have gu18 : gplace (fl e_S_api_Op z6.1 ++ [.val (.int .i64 0), .val (.int .i64 0), .val (.slice none 0 0), .val (.int .i64 0), .val (.int .i64 0), .val (.slice none 0 0), .val (.slice none 0 0), .val (.int .i64 0), .val (.slice none 0 0), .val (.slice none 0 0), .val (.slice none 0 0), .val (.slice none 0 0), .val (.int .i64 0), .val (.slice none 0 0)]) [.val (.int .i64 2), .val (.int .i64 0), .sl a0.come.length (fl e_S_api_Tree a0.come), .val (.int .i64 0), .val (.int .i64 0), .val (.slice none 0 0), .val (.slice none 0 0), .val (.int .i64 0), .val (.slice none 0 0), .val (.slice none 0 0), .val (.slice none 0 0), .val (.slice none 0 0), .val (.int .i64 0), .val (.slice none 0 0)] (List.length z6.1 * 14) = some (fl e_S_api_Op z6.1 ++ [.val (.int .i64 2), .val (.int .i64 0), .sl a0.come.length (fl e_S_api_Tree a0.come), .val (.int .i64 0), .val (.int .i64 0), .val (.slice none 0 0), .val (.slice none 0 0), .val (.int .i64 0), .val (.slice none 0 0), .val (.slice none 0 0), .val (.slice none 0 0), .val (.slice none 0 0), .val (.int .i64 0), .val (.slice none 0 0)]) := gplace_last (f := e_S_api_Op) (sz := 14) (fun _ => rfl) rfl rfl
      refine W_drawY tab_ok (by kernel_rfl) [.low, .low, .low, .low, .low, .low, .low, .low, .low, .low, .pass, .bar, .shp, .fill true, .shp, .shp, .fill false] (fun i => i < (n + 5)) [0, 1, 2, 3, 4, 5, 6, 7, 8, 9, 10, 11, 12, 13, 14, 15, 16] [.low, .low, .low, .low, .low, .low, .low, .low, .low, .low, .pass, .bar, .shp, .fill true, .shp, .shp, .fill false] [] (by kernel_rfl) rfl ?_
      simp only [push_cast, Nat.reduceAdd, Nat.reduceSub, Nat.reduceMul, Nat.reduceLeDiff, Nat.reduceLT, Nat.reduceEqDiff, ↓reduceIte, reduceCtorEq, Int.reduceBEq, Int.reduceBNe, Nat.reduceBEq, Int.reduceLE, Int.reduceLT, Int.reduceEq, Int.reduceNe, Int.reduceNeg, Nat.reduceDiv, Nat.reduceMod, Nat.reducePow, cast_lit, pl16, ql16, el16, ax17, bx17, cx17, gu18, hi0, hk0, hN0, hN]
      repeat (with_reducible refine And.intro (by first | omega | exact agree_loc rfl | exact agree_loc0 | exact agree_ne rfl rfl) ?_)
      have hz13 := Option.some.inj hz13; subst hz13
      refine And.intro rfl (Fit2.of (fit_loco hU rfl rfl ?_) (by omega))
      simp only [push_cast, Nat.reduceAdd, Nat.reduceSub, Nat.reduceMul, Nat.reduceLeDiff, Nat.reduceLT, Nat.reduceEqDiff, ↓reduceIte, reduceCtorEq, Int.reduceBEq, Int.reduceBNe, Nat.reduceBEq, Int.reduceLE, Int.reduceLT, Int.reduceEq, Int.reduceNe, Int.reduceNeg, Nat.reduceDiv, Nat.reduceMod, Nat.reducePow, cast_lit, pl16, ql16, el16, ax17, bx17, cx17, gu18, hi0, hk0, hN0, hN]
    · replace hz13 := condF c19 hz13
      refine W_skip ?_
      try simp only [gthen, gblock]
      have hz13 := Option.some.inj hz13; subst hz13
      refine And.intro rfl (Fit2.of (fit_loco hU rfl rfl ?_) (by omega))
      simp only [push_cast, seval, ↓reduceIte, cast_lit, hi0, hk0, hN0, hN]
  refine W_regionD tab_ok [] ?_
  simp only [push_cast, seval, ↓reduceIte, cast_lit, hi0, hk0, hN0, hN]
  have h := Option.some.inj h; subst h
  refine fin_locV (k := 3) (i := i0) (q1 := ⟨false, 110, 4, 1, [.row (n + 2) z13.1.length, .val (.int .i64 0), .row n ([] : List S_api_Tree).length, .row (n + 1) ([] : List S_api_Tree).length]⟩) (L3 := [some ⟨true, 25, 3, ([] : List S_api_Tree).length, fl e_S_api_Tree ([] : List S_api_Tree)⟩, some ⟨true, 25, 3, ([] : List S_api_Tree).length, fl e_S_api_Tree ([] : List S_api_Tree)⟩, some ⟨true, 69, 14, z13.1.length, fl e_S_api_Op z13.1⟩, none]) (E2 := (⟨73, [], []⟩ : Env)) (n3 := (n + 4)) (.inl rfl) hU rfl [] ?_ ?_
  · refine Fit2.trans (E' := (⟨73, [], []⟩ : Env)) (O' := (Loc ((((O.upd j0_0 none).upd j0_1 none).upd j0_2 none).upd i0 (some ⟨false, 110, 4, 1, [.row (n + 2) z13.1.length, .val (.int .i64 0), .val (.slice none 0 0), .val (.slice none 0 0)]⟩)) n [none, none, some ⟨true, 69, 14, z13.1.length, fl e_S_api_Op z13.1⟩, none, none, none])) (n' := (n + 6)) (Fit2.of (fit_loco hU rfl rfl ?_) (by omega)) ?_
    · simp only [push_cast, seval, ↓reduceIte, cast_lit, hi0, hk0, hN0, hN]
    refine Fit2.trans (E' := (⟨73, [], []⟩ : Env)) (O' := (Loc ((((O.upd j0_0 none).upd j0_1 none).upd j0_2 none).upd i0 (some ⟨false, 110, 4, 1, [.row (n + 2) z13.1.length, .val (.int .i64 0), .row (n + 6) 0, .val (.slice none 0 0)]⟩)) n [none, none, some ⟨true, 69, 14, z13.1.length, fl e_S_api_Op z13.1⟩, none, none, none, some ⟨true, 25, 3, 0, []⟩])) (n' := (n + 7)) ?_ ?_
    · have ha := adoptF_fit (ba := n) (E := (⟨73, [], []⟩ : Env)) (O := (Loc ((((O.upd j0_0 none).upd j0_1 none).upd j0_2 none).upd i0 (some ⟨false, 110, 4, 1, [.row (n + 2) z13.1.length, .val (.int .i64 0), .val (.slice none 0 0), .val (.slice none 0 0)]⟩)) n [none, none, some ⟨true, 69, 14, z13.1.length, fl e_S_api_Op z13.1⟩, none, none, none])) (n := (n + 6)) (p := i0) (k := 2) (q := ⟨false, 110, 4, 1, [.row (n + 2) z13.1.length, .val (.int .i64 0), .val (.slice none 0 0), .val (.slice none 0 0)]⟩) 25 3 (by simp only [Loc_at, Loc_at0, List.getElem?_cons_zero, List.getElem?_cons_succ, Option.join_some, upd_same, Loc_out, hi0, hk0, hN0, hN]) rfl (by omega)
      simp only [Loc_push, Loc_push0, Loc_upd, Loc_upd0, List.set_cons_zero, List.set_cons_succ, List.cons_append, List.nil_append, List.length_cons, List.length_nil, Nat.zero_add, Nat.reduceAdd, Nat.reduceLT, Nat.add_assoc, Loc_updo, upd_updU, hi0, hk0, hN0, hN] at ha
      exact ha
    refine Fit2.trans (E' := (⟨73, [], []⟩ : Env)) (O' := (Loc ((((O.upd j0_0 none).upd j0_1 none).upd j0_2 none).upd i0 (some ⟨false, 110, 4, 1, [.row (n + 2) z13.1.length, .val (.int .i64 0), .row (n + 6) ([] : List S_api_Tree).length, .val (.slice none 0 0)]⟩)) n [none, none, some ⟨true, 69, 14, z13.1.length, fl e_S_api_Op z13.1⟩, none, none, none, some ⟨true, 25, 3, ([] : List S_api_Tree).length, fl e_S_api_Tree ([] : List S_api_Tree)⟩])) (n' := (n + 7)) (Fit2.of (fit_loco hU rfl rfl ?_) (by omega)) ?_
    · simp only [push_cast, seval, ↓reduceIte, cast_lit, hi0, hk0, hN0, hN]
    refine Fit2.trans (E' := (⟨73, [], []⟩ : Env)) (O' := (Loc ((((O.upd j0_0 none).upd j0_1 none).upd j0_2 none).upd i0 (some ⟨false, 110, 4, 1, [.row (n + 2) z13.1.length, .val (.int .i64 0), .row (n + 6) ([] : List S_api_Tree).length, .row (n + 7) 0]⟩)) n [none, none, some ⟨true, 69, 14, z13.1.length, fl e_S_api_Op z13.1⟩, none, none, none, some ⟨true, 25, 3, 0, []⟩, some ⟨true, 25, 3, 0, []⟩])) (n' := (n + 8)) ?_ ?_
    · have ha := adoptF_fit (ba := n) (E := (⟨73, [], []⟩ : Env)) (O := (Loc ((((O.upd j0_0 none).upd j0_1 none).upd j0_2 none).upd i0 (some ⟨false, 110, 4, 1, [.row (n + 2) z13.1.length, .val (.int .i64 0), .row (n + 6) ([] : List S_api_Tree).length, .val (.slice none 0 0)]⟩)) n [none, none, some ⟨true, 69, 14, z13.1.length, fl e_S_api_Op z13.1⟩, none, none, none, some ⟨true, 25, 3, ([] : List S_api_Tree).length, fl e_S_api_Tree ([] : List S_api_Tree)⟩])) (n := (n + 7)) (p := i0) (k := 3) (q := ⟨false, 110, 4, 1, [.row (n + 2) z13.1.length, .val (.int .i64 0), .row (n + 6) ([] : List S_api_Tree).length, .val (.slice none 0 0)]⟩) 25 3 (by simp only [Loc_at, Loc_at0, List.getElem?_cons_zero, List.getElem?_cons_succ, Option.join_some, upd_same, Loc_out, hi0, hk0, hN0, hN]) rfl (by omega)
      simp only [Loc_push, Loc_push0, Loc_upd, Loc_upd0, List.set_cons_zero, List.set_cons_succ, List.cons_append, List.nil_append, List.length_cons, List.length_nil, Nat.zero_add, Nat.reduceAdd, Nat.reduceLT, Nat.add_assoc, Loc_updo, upd_updU, hi0, hk0, hN0, hN] at ha
      exact ha
    refine Fit2.trans (E' := (⟨73, [], []⟩ : Env)) (O' := (Loc ((((O.upd j0_0 none).upd j0_1 none).upd j0_2 none).upd i0 (some ⟨false, 110, 4, 1, [.row (n + 2) z13.1.length, .val (.int .i64 0), .row (n + 6) ([] : List S_api_Tree).length, .row (n + 7) ([] : List S_api_Tree).length]⟩)) n [none, none, some ⟨true, 69, 14, z13.1.length, fl e_S_api_Op z13.1⟩, none, none, none, some ⟨true, 25, 3, ([] : List S_api_Tree).length, fl e_S_api_Tree ([] : List S_api_Tree)⟩, some ⟨true, 25, 3, ([] : List S_api_Tree).length, fl e_S_api_Tree ([] : List S_api_Tree)⟩])) (n' := (n + 8)) (Fit2.of (fit_loco hU rfl rfl ?_) (by omega)) ?_
    · simp only [push_cast, seval, ↓reduceIte, cast_lit, hi0, hk0, hN0, hN]
    refine ren_fito (k := 8) (k' := 4) hU [3, 3, 2, 3, 3, 3, 0, 1] [6, 7, 2, 0] rfl rfl rfl rfl ⟨rfl, rfl⟩ ?_
    simp only [push_cast, seval, ↓reduceIte, cast_lit, hi0, hk0, hN0, hN]
  simp only [push_cast, seval, ↓reduceIte, cast_lit, Try.results87, hi0, hk0, hN0, hN]
theorem ok_normal_writer_keep {a0 : S_normal_writer} {a1 : Int} {r : S_normal_writer} {O : Objs} {n : Nat} {i0 j0_0 j0_1 j0_2 : Nat} (hi0 : i0 < n) (hj0_0 : j0_0 < n) (hj0_1 : j0_1 < n) (hj0_2 : j0_2 < n) (hne0_0 : i0 ≠ j0_0) (hne0_1 : i0 ≠ j0_1) (hne0_2 : i0 ≠ j0_2) (hjj0_0_0_1 : j0_0 ≠ j0_1) (hjj0_0_0_2 : j0_0 ≠ j0_2) (hjj0_1_0_2 : j0_1 ≠ j0_2) (ho0 : O i0 = some ⟨false, 110, 4, 1, [.row j0_2 a0.out.length, .val (.int .i64 a0.kept), .row j0_0 a0.gone.length, .row j0_1 a0.come.length]⟩) (hoj0_0 : O j0_0 = some ⟨true, 25, 3, a0.gone.length, fl e_S_api_Tree a0.gone⟩) (hoj0_1 : O j0_1 = some ⟨true, 25, 3, a0.come.length, fl e_S_api_Tree a0.come⟩) (hoj0_2 : O j0_2 = some ⟨true, 69, 14, a0.out.length, fl e_S_api_Op a0.out⟩) (h : m_normal_writer_keep a0 a1 = some r) : GTo Try.prog 84 [.ref i0 0, .val (.int .i64 a1)] O n (.tup []) (Loc ((((O.upd j0_0 none).upd j0_1 none).upd j0_2 none).upd i0 (some ⟨false, 110, 4, 1, [.row (n + 2) r.out.length, .val (.int .i64 r.kept), .row n r.gone.length, .row (n + 1) r.come.length]⟩)) n [some ⟨true, 25, 3, r.gone.length, fl e_S_api_Tree r.gone⟩, some ⟨true, 25, 3, r.come.length, fl e_S_api_Tree r.come⟩, some ⟨true, 69, 14, r.out.length, fl e_S_api_Op r.out⟩]) (n + 3) := by
  unfold m_normal_writer_keep at h
  refine fn_of tab_ok Try.call84 Try.func84 rfl (Nat.le_of_ble_eq_true rfl) (by omega) fun hU => ?_
  have e0 := take_fit (ba := n) (E := ⟨19, [], genv 0 [.ref i0 0, .val (.int .i64 a1)]⟩) (O := (Loc O n [])) (n := n) (i := i0) (j := j0_0) (k := 2) (len := a0.gone.length) (q := ⟨false, 110, 4, 1, [.row j0_2 a0.out.length, .val (.int .i64 a0.kept), .row j0_0 a0.gone.length, .row j0_1 a0.come.length]⟩) (qj := ⟨true, 25, 3, a0.gone.length, fl e_S_api_Tree a0.gone⟩) (by rw [Loc_out _ hi0]; first | exact ho0 | exact upd_same _ _ _) rfl (by rw [Loc_out _ hj0_0]; exact hoj0_0) hne0_0 (by omega)
  simp only [Loc_updo _ _ hj0_0, Loc_updo _ _ hi0, Loc_push, Loc_push0, upd_updU, upd_in hne0_0, List.set_cons_zero, List.set_cons_succ, List.cons_append, List.nil_append, List.length_cons, List.length_nil, Nat.zero_add, Nat.reduceAdd, Nat.add_assoc] at e0
  refine W_fit2 e0 ?_
  have e1 := take_fit (ba := n) (E := ⟨19, [], genv 0 [.ref i0 0, .val (.int .i64 a1)]⟩) (O := (Loc ((O.upd j0_0 none).upd i0 (some ⟨false, 110, 4, 1, [.row j0_2 a0.out.length, .val (.int .i64 a0.kept), .row n a0.gone.length, .row j0_1 a0.come.length]⟩)) n [some ⟨true, 25, 3, a0.gone.length, fl e_S_api_Tree a0.gone⟩])) (n := (n + 1)) (i := i0) (j := j0_1) (k := 3) (len := a0.come.length) (q := ⟨false, 110, 4, 1, [.row j0_2 a0.out.length, .val (.int .i64 a0.kept), .row n a0.gone.length, .row j0_1 a0.come.length]⟩) (qj := ⟨true, 25, 3, a0.come.length, fl e_S_api_Tree a0.come⟩) (by rw [Loc_out _ hi0]; first | exact ho0 | exact upd_same _ _ _) rfl (by rw [Loc_out _ hj0_1, upd_ne _ _ (Ne.symm hne0_1), upd_ne _ _ (Ne.symm hjj0_0_0_1)]; exact hoj0_1) hne0_1 (by omega)
  simp only [Loc_updo _ _ hj0_1, Loc_updo _ _ hi0, Loc_push, Loc_push0, upd_updU, upd_in hne0_1, List.set_cons_zero, List.set_cons_succ, List.cons_append, List.nil_append, List.length_cons, List.length_nil, Nat.zero_add, Nat.reduceAdd, Nat.add_assoc] at e1
  refine W_fit2 e1 ?_
  have e2 := take_fit (ba := n) (E := ⟨19, [], genv 0 [.ref i0 0, .val (.int .i64 a1)]⟩) (O := (Loc (((O.upd j0_0 none).upd j0_1 none).upd i0 (some ⟨false, 110, 4, 1, [.row j0_2 a0.out.length, .val (.int .i64 a0.kept), .row n a0.gone.length, .row (n + 1) a0.come.length]⟩)) n [some ⟨true, 25, 3, a0.gone.length, fl e_S_api_Tree a0.gone⟩, some ⟨true, 25, 3, a0.come.length, fl e_S_api_Tree a0.come⟩])) (n := (n + 2)) (i := i0) (j := j0_2) (k := 0) (len := a0.out.length) (q := ⟨false, 110, 4, 1, [.row j0_2 a0.out.length, .val (.int .i64 a0.kept), .row n a0.gone.length, .row (n + 1) a0.come.length]⟩) (qj := ⟨true, 69, 14, a0.out.length, fl e_S_api_Op a0.out⟩) (by rw [Loc_out _ hi0]; first | exact ho0 | exact upd_same _ _ _) rfl (by rw [Loc_out _ hj0_2, upd_ne _ _ (Ne.symm hne0_2), upd_ne _ _ (Ne.symm hjj0_1_0_2), upd_ne _ _ (Ne.symm hjj0_0_0_2)]; exact hoj0_2) hne0_2 (by omega)
  simp only [Loc_updo _ _ hj0_2, Loc_updo _ _ hi0, Loc_push, Loc_push0, upd_updU, upd_in hne0_2, List.set_cons_zero, List.set_cons_succ, List.cons_append, List.nil_append, List.length_cons, List.length_nil, Nat.zero_add, Nat.reduceAdd, Nat.add_assoc] at e2
  refine W_fit2 e2 ?_
  have hU := (Und.drop (Und.drop (Und.drop hU j0_0) j0_1) j0_2)
  have hk0 : ∀ k, i0 < n + k := fun k => by omega
  have hN0 : ∀ o, Objs.upd (((O.upd j0_0 none).upd j0_1 none).upd j0_2 none) i0 o n = none := fun o => upd_fresh hU hi0 _ (Nat.le_refl _)
  have hN : ∀ o k, Objs.upd (((O.upd j0_0 none).upd j0_1 none).upd j0_2 none) i0 o (n + k) = none := fun o k => upd_fresh hU hi0 _ (Nat.le_add_right _ _)
  show W _ _ _ _ ⟨19, [], [(0, .ref i0 0), (1, .val (.int .i64 a1))]⟩ (Loc ((((O.upd j0_0 none).upd j0_1 none).upd j0_2 none).upd i0 (some ⟨false, 110, 4, 1, [.row (n + 2) a0.out.length, .val (.int .i64 a0.kept), .row n a0.gone.length, .row (n + 1) a0.come.length]⟩)) n [some ⟨true, 25, 3, a0.gone.length, fl e_S_api_Tree a0.gone⟩, some ⟨true, 25, 3, a0.come.length, fl e_S_api_Tree a0.come⟩, some ⟨true, 69, 14, a0.out.length, fl e_S_api_Op a0.out⟩]) _
  obtain ⟨z1, hz1, h⟩ := bC h
  refine W_seqN (E' := ⟨19, [], [(0, .ref i0 0), (1, .val (.int .i64 a1))]⟩) (O' := (Loc ((((O.upd j0_0 none).upd j0_1 none).upd j0_2 none).upd i0 (some ⟨false, 110, 4, 1, [.row (n + 6) z1.1.length, .val (.int .i64 z1.2.2.2), .row (n + 7) z1.2.1.length, .row (n + 8) z1.2.2.1.length]⟩)) n [none, none, none, none, none, none, some ⟨true, 69, 14, z1.1.length, fl e_S_api_Op z1.1⟩, some ⟨true, 25, 3, z1.2.1.length, fl e_S_api_Tree z1.2.1⟩, some ⟨true, 25, 3, z1.2.2.1.length, fl e_S_api_Tree z1.2.2.1⟩])) (n0 := (n + 9)) ?_ ?_
  · refine W_sq [0, 1, 8] (W_regionD tab_ok [] ?_)
    simp only [push_cast, seval, ↓reduceIte, cast_lit, hi0, hk0, hN0, hN]
    refine W_cond (t := (a0.kept == 0)) rfl (fun c3 => ?_) (fun c3 => ?_)
    · replace hz1 := condT c3 hz1
      obtain ⟨y2, hy2, hz1⟩ := bC hz1
      refine W_regionD tab_ok [] ?_
      simp only [push_cast, seval, ↓reduceIte, cast_lit, hi0, hk0, hN0, hN]
      refine (ok_normal_writer_lay (i0 := i0) (j0_0 := n) (j0_1 := (n + 1)) (j0_2 := (n + 2)) (by omega) (by omega) (by omega) (by omega) (by omega) (by omega) (by omega) (by omega) (by omega) (by omega) (by simp only [push_cast, seval, ↓reduceIte, cast_lit, fl_nil, hi0, hk0, hN0, hN] <;> rfl) (by simp only [push_cast, seval, ↓reduceIte, cast_lit, fl_nil, hi0, hk0, hN0, hN] <;> rfl) (by simp only [push_cast, seval, ↓reduceIte, cast_lit, fl_nil, hi0, hk0, hN0, hN] <;> rfl) (by simp only [push_cast, seval, ↓reduceIte, cast_lit, fl_nil, hi0, hk0, hN0, hN] <;> rfl) hy2).then ?_
      simp only [push_cast, seval, ↓reduceIte, cast_lit, hi0, hk0, hN0, hN]
      have hz1 := Option.some.inj hz1; subst hz1
      refine And.intro rfl ?_
      refine Fit2.trans (E' := (⟨19, [], [(0, .ref i0 0), (1, .val (.int .i64 a1))]⟩ : Env)) (O' := (Loc ((((O.upd j0_0 none).upd j0_1 none).upd j0_2 none).upd i0 (some ⟨false, 110, 4, 1, [.row (n + 5) y2.out.length, .val (.int .i64 y2.kept), .row (n + 3) y2.gone.length, .row (n + 4) y2.come.length]⟩)) n [none, none, none, some ⟨true, 25, 3, y2.gone.length, fl e_S_api_Tree y2.gone⟩, some ⟨true, 25, 3, y2.come.length, fl e_S_api_Tree y2.come⟩, some ⟨true, 69, 14, y2.out.length, fl e_S_api_Op y2.out⟩])) (n' := (n + 6)) (Fit2.of (fit_loco hU rfl rfl ?_) (by omega)) ?_
      · simp only [push_cast, seval, ↓reduceIte, cast_lit, hi0, hk0, hN0, hN]
      refine ren_fito (k := 6) (k' := 9) hU [5, 5, 5, 7, 8, 6] [0, 0, 0, 0, 0, 0, 5, 3, 4] rfl rfl rfl rfl ⟨rfl, rfl⟩ ?_
      simp only [push_cast, seval, ↓reduceIte, cast_lit, hi0, hk0, hN0, hN]
    · replace hz1 := condF c3 hz1
      refine W_skip ?_
      try simp only [gthen, gblock]
      have hz1 := Option.some.inj hz1; subst hz1
      refine And.intro rfl ?_
      refine Fit2.trans (E' := (⟨19, [], [(0, .ref i0 0), (1, .val (.int .i64 a1))]⟩ : Env)) (O' := (Loc ((((O.upd j0_0 none).upd j0_1 none).upd j0_2 none).upd i0 (some ⟨false, 110, 4, 1, [.row (n + 2) a0.out.length, .val (.int .i64 a0.kept), .row n a0.gone.length, .row (n + 1) a0.come.length]⟩)) n [some ⟨true, 25, 3, a0.gone.length, fl e_S_api_Tree a0.gone⟩, some ⟨true, 25, 3, a0.come.length, fl e_S_api_Tree a0.come⟩, some ⟨true, 69, 14, a0.out.length, fl e_S_api_Op a0.out⟩])) (n' := (n + 3)) (Fit2.of (fit_loco hU rfl rfl ?_) (by omega)) ?_
      · simp only [push_cast, seval, ↓reduceIte, cast_lit, hi0, hk0, hN0, hN]
      refine ren_fito (k := 3) (k' := 9) hU [7, 8, 6] [0, 0, 0, 0, 0, 0, 2, 0, 1] rfl rfl rfl rfl ⟨rfl, rfl⟩ ?_
      simp only [push_cast, seval, ↓reduceIte, cast_lit, hi0, hk0, hN0, hN]
  refine W_regionD tab_ok [] ?_
  simp only [push_cast, seval, ↓reduceIte, cast_lit, hi0, hk0, hN0, hN]
  have h := Option.some.inj h; subst h
  refine fin_locV (k := 3) (i := i0) (q1 := ⟨false, 110, 4, 1, [.row (n + 2) z1.1.length, .val (.int .i64 (IntKind.i64.wrap (z1.2.2.2 + a1))), .row n z1.2.1.length, .row (n + 1) z1.2.2.1.length]⟩) (L3 := [some ⟨true, 25, 3, z1.2.1.length, fl e_S_api_Tree z1.2.1⟩, some ⟨true, 25, 3, z1.2.2.1.length, fl e_S_api_Tree z1.2.2.1⟩, some ⟨true, 69, 14, z1.1.length, fl e_S_api_Op z1.1⟩, none]) (E2 := (⟨19, [], []⟩ : Env)) (n3 := (n + 4)) (.inl rfl) hU rfl [] ?_ ?_
  · refine Fit2.trans (E' := (⟨19, [], []⟩ : Env)) (O' := (Loc ((((O.upd j0_0 none).upd j0_1 none).upd j0_2 none).upd i0 (some ⟨false, 110, 4, 1, [.row (n + 6) z1.1.length, .val (.int .i64 (IntKind.i64.wrap (z1.2.2.2 + a1))), .row (n + 7) z1.2.1.length, .row (n + 8) z1.2.2.1.length]⟩)) n [none, none, none, none, none, none, some ⟨true, 69, 14, z1.1.length, fl e_S_api_Op z1.1⟩, some ⟨true, 25, 3, z1.2.1.length, fl e_S_api_Tree z1.2.1⟩, some ⟨true, 25, 3, z1.2.2.1.length, fl e_S_api_Tree z1.2.2.1⟩])) (n' := (n + 9)) (Fit2.of (fit_loco hU rfl rfl ?_) (by omega)) ?_
    · simp only [push_cast, seval, ↓reduceIte, cast_lit, hi0, hk0, hN0, hN]
    refine ren_fito (k := 9) (k' := 4) hU [3, 3, 3, 3, 3, 3, 2, 0, 1] [7, 8, 6, 0] rfl rfl rfl rfl ⟨rfl, rfl⟩ ?_
    simp only [push_cast, seval, ↓reduceIte, cast_lit, hi0, hk0, hN0, hN]
  simp only [push_cast, seval, ↓reduceIte, cast_lit, Try.results84, hi0, hk0, hN0, hN]
theorem ok_normal_writer_wait_w02 {a0 : S_normal_writer} {a2 : (List S_api_Tree)} {r : S_normal_writer} {O : Objs} {n : Nat} {i0 j0_0 j0_1 j0_2 : Nat} (hi0 : i0 < n) (hj0_0 : j0_0 < n) (hj0_1 : j0_1 < n) (hj0_2 : j0_2 < n) (hne0_0 : i0 ≠ j0_0) (hne0_1 : i0 ≠ j0_1) (hne0_2 : i0 ≠ j0_2) (hjj0_0_0_1 : j0_0 ≠ j0_1) (hjj0_0_0_2 : j0_0 ≠ j0_2) (hjj0_1_0_2 : j0_1 ≠ j0_2) (ho0 : O i0 = some ⟨false, 110, 4, 1, [.row j0_2 a0.out.length, .val (.int .i64 a0.kept), .row j0_0 a0.gone.length, .row j0_1 a0.come.length]⟩) (hoj0_0 : O j0_0 = some ⟨true, 25, 3, a0.gone.length, fl e_S_api_Tree a0.gone⟩) (hoj0_1 : O j0_1 = some ⟨true, 25, 3, a0.come.length, fl e_S_api_Tree a0.come⟩) (hoj0_2 : O j0_2 = some ⟨true, 69, 14, a0.out.length, fl e_S_api_Op a0.out⟩) (h : m_normal_writer_wait_w02 a0 a2 = some r) : GTo Try.prog 85 [.ref i0 0, .ref i0 2, .sl a2.length (fl e_S_api_Tree a2)] O n (.tup []) (Loc ((((O.upd j0_0 none).upd j0_1 none).upd j0_2 none).upd i0 (some ⟨false, 110, 4, 1, [.row (n + 2) r.out.length, .val (.int .i64 r.kept), .row n r.gone.length, .row (n + 1) r.come.length]⟩)) n [some ⟨true, 25, 3, r.gone.length, fl e_S_api_Tree r.gone⟩, some ⟨true, 25, 3, r.come.length, fl e_S_api_Tree r.come⟩, some ⟨true, 69, 14, r.out.length, fl e_S_api_Op r.out⟩]) (n + 3) := by
  unfold m_normal_writer_wait_w02 at h
  refine fn_of tab_ok Try.call85 Try.func85 rfl (Nat.le_of_ble_eq_true rfl) (by omega) fun hU => ?_
  have e0 := take_fit (ba := n) (E := ⟨32, [], genv 0 [.ref i0 0, .ref i0 2, .sl a2.length (fl e_S_api_Tree a2)]⟩) (O := (Loc O n [])) (n := n) (i := i0) (j := j0_0) (k := 2) (len := a0.gone.length) (q := ⟨false, 110, 4, 1, [.row j0_2 a0.out.length, .val (.int .i64 a0.kept), .row j0_0 a0.gone.length, .row j0_1 a0.come.length]⟩) (qj := ⟨true, 25, 3, a0.gone.length, fl e_S_api_Tree a0.gone⟩) (by rw [Loc_out _ hi0]; first | exact ho0 | exact upd_same _ _ _) rfl (by rw [Loc_out _ hj0_0]; exact hoj0_0) hne0_0 (by omega)
  simp only [Loc_updo _ _ hj0_0, Loc_updo _ _ hi0, Loc_push, Loc_push0, upd_updU, upd_in hne0_0, List.set_cons_zero, List.set_cons_succ, List.cons_append, List.nil_append, List.length_cons, List.length_nil, Nat.zero_add, Nat.reduceAdd, Nat.add_assoc] at e0
  refine W_fit2 e0 ?_
  have e1 := take_fit (ba := n) (E := ⟨32, [], genv 0 [.ref i0 0, .ref i0 2, .sl a2.length (fl e_S_api_Tree a2)]⟩) (O := (Loc ((O.upd j0_0 none).upd i0 (some ⟨false, 110, 4, 1, [.row j0_2 a0.out.length, .val (.int .i64 a0.kept), .row n a0.gone.length, .row j0_1 a0.come.length]⟩)) n [some ⟨true, 25, 3, a0.gone.length, fl e_S_api_Tree a0.gone⟩])) (n := (n + 1)) (i := i0) (j := j0_1) (k := 3) (len := a0.come.length) (q := ⟨false, 110, 4, 1, [.row j0_2 a0.out.length, .val (.int .i64 a0.kept), .row n a0.gone.length, .row j0_1 a0.come.length]⟩) (qj := ⟨true, 25, 3, a0.come.length, fl e_S_api_Tree a0.come⟩) (by rw [Loc_out _ hi0]; first | exact ho0 | exact upd_same _ _ _) rfl (by rw [Loc_out _ hj0_1, upd_ne _ _ (Ne.symm hne0_1), upd_ne _ _ (Ne.symm hjj0_0_0_1)]; exact hoj0_1) hne0_1 (by omega)
  simp only [Loc_updo _ _ hj0_1, Loc_updo _ _ hi0, Loc_push, Loc_push0, upd_updU, upd_in hne0_1, List.set_cons_zero, List.set_cons_succ, List.cons_append, List.nil_append, List.length_cons, List.length_nil, Nat.zero_add, Nat.reduceAdd, Nat.add_assoc] at e1
  refine W_fit2 e1 ?_
  have e2 := take_fit (ba := n) (E := ⟨32, [], genv 0 [.ref i0 0, .ref i0 2, .sl a2.length (fl e_S_api_Tree a2)]⟩) (O := (Loc (((O.upd j0_0 none).upd j0_1 none).upd i0 (some ⟨false, 110, 4, 1, [.row j0_2 a0.out.length, .val (.int .i64 a0.kept), .row n a0.gone.length, .row (n + 1) a0.come.length]⟩)) n [some ⟨true, 25, 3, a0.gone.length, fl e_S_api_Tree a0.gone⟩, some ⟨true, 25, 3, a0.come.length, fl e_S_api_Tree a0.come⟩])) (n := (n + 2)) (i := i0) (j := j0_2) (k := 0) (len := a0.out.length) (q := ⟨false, 110, 4, 1, [.row j0_2 a0.out.length, .val (.int .i64 a0.kept), .row n a0.gone.length, .row (n + 1) a0.come.length]⟩) (qj := ⟨true, 69, 14, a0.out.length, fl e_S_api_Op a0.out⟩) (by rw [Loc_out _ hi0]; first | exact ho0 | exact upd_same _ _ _) rfl (by rw [Loc_out _ hj0_2, upd_ne _ _ (Ne.symm hne0_2), upd_ne _ _ (Ne.symm hjj0_1_0_2), upd_ne _ _ (Ne.symm hjj0_0_0_2)]; exact hoj0_2) hne0_2 (by omega)
  simp only [Loc_updo _ _ hj0_2, Loc_updo _ _ hi0, Loc_push, Loc_push0, upd_updU, upd_in hne0_2, List.set_cons_zero, List.set_cons_succ, List.cons_append, List.nil_append, List.length_cons, List.length_nil, Nat.zero_add, Nat.reduceAdd, Nat.add_assoc] at e2
  refine W_fit2 e2 ?_
  have hU := (Und.drop (Und.drop (Und.drop hU j0_0) j0_1) j0_2)
  have hk0 : ∀ k, i0 < n + k := fun k => by omega
  have hN0 : ∀ o, Objs.upd (((O.upd j0_0 none).upd j0_1 none).upd j0_2 none) i0 o n = none := fun o => upd_fresh hU hi0 _ (Nat.le_refl _)
  have hN : ∀ o k, Objs.upd (((O.upd j0_0 none).upd j0_1 none).upd j0_2 none) i0 o (n + k) = none := fun o k => upd_fresh hU hi0 _ (Nat.le_add_right _ _)
  show W _ _ _ _ ⟨32, [], [(0, .ref i0 0), (1, .ref i0 2), (2, .sl a2.length (fl e_S_api_Tree a2))]⟩ (Loc ((((O.upd j0_0 none).upd j0_1 none).upd j0_2 none).upd i0 (some ⟨false, 110, 4, 1, [.row (n + 2) a0.out.length, .val (.int .i64 a0.kept), .row n a0.gone.length, .row (n + 1) a0.come.length]⟩)) n [some ⟨true, 25, 3, a0.gone.length, fl e_S_api_Tree a0.gone⟩, some ⟨true, 25, 3, a0.come.length, fl e_S_api_Tree a0.come⟩, some ⟨true, 69, 14, a0.out.length, fl e_S_api_Op a0.out⟩]) _
  obtain ⟨z1, hz1, h⟩ := bC h
  refine W_seqN (E' := ⟨32, [], [(1, .ref i0 2), (2, .sl a2.length (fl e_S_api_Tree a2))]⟩) (O' := (Loc ((((O.upd j0_0 none).upd j0_1 none).upd j0_2 none).upd i0 (some ⟨false, 110, 4, 1, [.row (n + 6) z1.1.length, .val (.int .i64 z1.2.2.2), .row (n + 7) z1.2.1.length, .row (n + 8) z1.2.2.1.length]⟩)) n [none, none, none, none, none, none, some ⟨true, 69, 14, z1.1.length, fl e_S_api_Op z1.1⟩, some ⟨true, 25, 3, z1.2.1.length, fl e_S_api_Tree z1.2.1⟩, some ⟨true, 25, 3, z1.2.2.1.length, fl e_S_api_Tree z1.2.2.1⟩])) (n0 := (n + 9)) ?_ ?_
  · refine W_sq [0, 1, 2, 12] (W_regionD tab_ok [] ?_)
    simp only [push_cast, seval, ↓reduceIte, cast_lit, hi0, hk0, hN0, hN]
    refine W_cond (t := (decide (0 < a0.kept))) rfl (fun c3 => ?_) (fun c3 => ?_)
    · replace hz1 := condT c3 hz1
      obtain ⟨y2, hy2, hz1⟩ := bC hz1
      refine W_regionD tab_ok [] ?_
      simp only [push_cast, seval, ↓reduceIte, cast_lit, hi0, hk0, hN0, hN]
      refine (ok_normal_writer_lay (i0 := i0) (j0_0 := n) (j0_1 := (n + 1)) (j0_2 := (n + 2)) (by omega) (by omega) (by omega) (by omega) (by omega) (by omega) (by omega) (by omega) (by omega) (by omega) (by simp only [push_cast, seval, ↓reduceIte, cast_lit, fl_nil, hi0, hk0, hN0, hN] <;> rfl) (by simp only [push_cast, seval, ↓reduceIte, cast_lit, fl_nil, hi0, hk0, hN0, hN] <;> rfl) (by simp only [push_cast, seval, ↓reduceIte, cast_lit, fl_nil, hi0, hk0, hN0, hN] <;> rfl) (by simp only [push_cast, seval, ↓reduceIte, cast_lit, fl_nil, hi0, hk0, hN0, hN] <;> rfl) hy2).then ?_
      simp only [push_cast, seval, ↓reduceIte, cast_lit, hi0, hk0, hN0, hN]
      have hz1 := Option.some.inj hz1; subst hz1
      refine And.intro rfl ?_
      refine Fit2.trans (E' := (⟨32, [], [(1, .ref i0 2), (2, .sl a2.length (fl e_S_api_Tree a2))]⟩ : Env)) (O' := (Loc ((((O.upd j0_0 none).upd j0_1 none).upd j0_2 none).upd i0 (some ⟨false, 110, 4, 1, [.row (n + 5) y2.out.length, .val (.int .i64 y2.kept), .row (n + 3) y2.gone.length, .row (n + 4) y2.come.length]⟩)) n [none, none, none, some ⟨true, 25, 3, y2.gone.length, fl e_S_api_Tree y2.gone⟩, some ⟨true, 25, 3, y2.come.length, fl e_S_api_Tree y2.come⟩, some ⟨true, 69, 14, y2.out.length, fl e_S_api_Op y2.out⟩])) (n' := (n + 6)) (Fit2.of (fit_loco hU rfl rfl ?_) (by omega)) ?_
      · simp only [push_cast, seval, ↓reduceIte, cast_lit, hi0, hk0, hN0, hN]
      refine ren_fito (k := 6) (k' := 9) hU [5, 5, 5, 7, 8, 6] [0, 0, 0, 0, 0, 0, 5, 3, 4] rfl rfl rfl rfl ⟨rfl, rfl⟩ ?_
      simp only [push_cast, seval, ↓reduceIte, cast_lit, hi0, hk0, hN0, hN]
    · replace hz1 := condF c3 hz1
      refine W_skip ?_
      try simp only [gthen, gblock]
      have hz1 := Option.some.inj hz1; subst hz1
      refine And.intro rfl ?_
      refine Fit2.trans (E' := (⟨32, [], [(1, .ref i0 2), (2, .sl a2.length (fl e_S_api_Tree a2))]⟩ : Env)) (O' := (Loc ((((O.upd j0_0 none).upd j0_1 none).upd j0_2 none).upd i0 (some ⟨false, 110, 4, 1, [.row (n + 2) a0.out.length, .val (.int .i64 a0.kept), .row n a0.gone.length, .row (n + 1) a0.come.length]⟩)) n [some ⟨true, 25, 3, a0.gone.length, fl e_S_api_Tree a0.gone⟩, some ⟨true, 25, 3, a0.come.length, fl e_S_api_Tree a0.come⟩, some ⟨true, 69, 14, a0.out.length, fl e_S_api_Op a0.out⟩])) (n' := (n + 3)) (Fit2.of (fit_loco hU rfl rfl ?_) (by omega)) ?_
      · simp only [push_cast, seval, ↓reduceIte, cast_lit, hi0, hk0, hN0, hN]
      refine ren_fito (k := 3) (k' := 9) hU [7, 8, 6] [0, 0, 0, 0, 0, 0, 2, 0, 1] rfl rfl rfl rfl ⟨rfl, rfl⟩ ?_
      simp only [push_cast, seval, ↓reduceIte, cast_lit, hi0, hk0, hN0, hN]
  refine W_sq [1, 15, 16, 17] (W_regionD tab_ok [] ?_)
  simp only [push_cast, seval, ↓reduceIte, cast_lit, hi0, hk0, hN0, hN]
  refine W_drop [1, 15, 16, 17] [false, false, false, false, false, false, true, true, true] ?_
  simp only [push_cast, seval, ↓reduceIte]
  obtain ⟨z11, hz11, h⟩ := bC h
  refine W_blockX (E' := ⟨32, [], []⟩) (O' := (Loc ((((O.upd j0_0 none).upd j0_1 none).upd j0_2 none).upd i0 (some ⟨false, 110, 4, 1, [.row (n + 6) z1.1.length, .val (.int .i64 z1.2.2.2), .row (n + 7) z11.length, .row (n + 8) z1.2.2.1.length]⟩)) n [none, none, none, none, none, none, some ⟨true, 69, 14, z1.1.length, fl e_S_api_Op z1.1⟩, some ⟨true, 25, 3, z11.length, fl e_S_api_Tree z11⟩, some ⟨true, 25, 3, z1.2.2.1.length, fl e_S_api_Tree z1.2.2.1⟩])) (n0 := (n + 9)) ?_ ?_
  · refine W_loopJ hz11 (fun s0_ => ⟨32, [], [(1, .ref i0 2), (15, .sl a2.length (fl e_S_api_Tree a2)), (16, .val (.int .i64 (a2.length : Int))), (17, .val (.int .i64 s0_.1))]⟩) (fun s0_ => (Loc ((((O.upd j0_0 none).upd j0_1 none).upd j0_2 none).upd i0 (some ⟨false, 110, 4, 1, [.row (n + 6) z1.1.length, .val (.int .i64 z1.2.2.2), .row (n + 7) s0_.2.length, .row (n + 8) z1.2.2.1.length]⟩)) n [none, none, none, none, none, none, some ⟨true, 69, 14, z1.1.length, fl e_S_api_Op z1.1⟩, some ⟨true, 25, 3, s0_.2.length, fl e_S_api_Tree s0_.2⟩, some ⟨true, 25, 3, z1.2.2.1.length, fl e_S_api_Tree z1.2.2.1⟩])) (fun z11 => JX 0 n (⟨32, [], []⟩ : Env) (Loc ((((O.upd j0_0 none).upd j0_1 none).upd j0_2 none).upd i0 (some ⟨false, 110, 4, 1, [.row (n + 6) z1.1.length, .val (.int .i64 z1.2.2.2), .row (n + 7) z11.length, .row (n + 8) z1.2.2.1.length]⟩)) n [none, none, none, none, none, none, some ⟨true, 69, 14, z1.1.length, fl e_S_api_Op z1.1⟩, some ⟨true, 25, 3, z11.length, fl e_S_api_Tree z11⟩, some ⟨true, 25, 3, z1.2.2.1.length, fl e_S_api_Tree z1.2.2.1⟩]) (n + 9)) ?_
    intro s0_ x0_ hs0_
    unfold m_normal_writer_wait_w02_L0 at hs0_
    try dsimp only
    refine W_sq [1, 15, 16, 17, 18] (W_regionD tab_ok [] ?_)
    simp only [push_cast, seval, ↓reduceIte, cast_lit, hi0, hk0, hN0, hN]
    refine W_seqK ?_
    refine W_cond (t := (decide (s0_.1 < (a2.length : Int)))) rfl (fun c10 => ?_) (fun c10 => ?_)
    · replace hs0_ := condT c10 hs0_
      refine W_skip ?_
      try simp only [gthen, gblock]
      refine W_drop [1, 15, 16, 17] [false, false, false, false, false, false, true, true, true] ?_
      simp only [push_cast, seval, ↓reduceIte]
      refine W_seqK ?_
      refine W_block ?_
      refine W_seqK ?_
      obtain ⟨x5, hx5, ax5, bx5, cx5, hs0_⟩ := bE (f := e_S_api_Tree) tab25 (fun _ => rfl) (by decide) hs0_
      refine W_regionD tab_ok [] ?_
      simp only [push_cast, Nat.reduceAdd, Nat.reduceSub, Nat.reduceMul, Nat.reduceLeDiff, Nat.reduceLT, Nat.reduceEqDiff, ↓reduceIte, reduceCtorEq, Int.reduceBEq, Int.reduceBNe, Nat.reduceBEq, Int.reduceLE, Int.reduceLT, Int.reduceEq, Int.reduceNe, Int.reduceNeg, Nat.reduceDiv, Nat.reduceMod, Nat.reducePow, cast_lit, ax5, bx5, cx5, hi0, hk0, hN0, hN]
      refine W_drop [1, 7, 15, 16, 17] [false, false, false, false, false, false, true, true, true, true] ?_
      simp only [push_cast, seval, ↓reduceIte]
      obtain ⟨y6, hy6, hs0_⟩ := bC hs0_
      obtain ⟨l7, pl7, ql7, el7, hs0_⟩ := bA (k := 1) rfl hs0_
      obtain ⟨x8, hx8, ax8, bx8, cx8, hs0_⟩ := bE (f := e_S_api_Tree) tab25 (fun _ => rfl) (by decide) hs0_
      have gu9 : gplace (fl e_S_api_Tree s0_.2 ++ [.val (.int .i64 0), .val (.slice none 0 0), .val (.slice none 0 0)]) [.val (.int .i64 y6.Kind), .sl y6.Words.length (fl (eI .u64) y6.Words), .sl y6.Kids.length (fl e_S_api_Tree y6.Kids)] (List.length s0_.2 * 3) = some (fl e_S_api_Tree s0_.2 ++ [.val (.int .i64 y6.Kind), .sl y6.Words.length (fl (eI .u64) y6.Words), .sl y6.Kids.length (fl e_S_api_Tree y6.Kids)]) := gplace_last (f := e_S_api_Tree) (sz := 3) (fun _ => rfl) rfl rfl
      refine W_drawY tab_ok (by kernel_rfl) [.low, .low, .low, .low, .low, .low, .pass, .bar, .shp, .fill true, .shp, .fill false] (fun i => i < (n + 10)) [0, 1, 2, 3, 4, 5, 6, 7, 8, 9, 10, 11] [.low, .low, .low, .low, .low, .low, .pass, .bar, .shp, .fill true, .shp, .fill false] [] (by kernel_rfl) rfl ?_
      simp only [push_cast, Nat.reduceAdd, Nat.reduceSub, Nat.reduceMul, Nat.reduceLeDiff, Nat.reduceLT, Nat.reduceEqDiff, ↓reduceIte, reduceCtorEq, Int.reduceBEq, Int.reduceBNe, Nat.reduceBEq, Int.reduceLE, Int.reduceLT, Int.reduceEq, Int.reduceNe, Int.reduceNeg, Nat.reduceDiv, Nat.reduceMod, Nat.reducePow, cast_lit, pl7, ql7, el7, ax8, bx8, cx8, gu9, hi0, hk0, hN0, hN]
      repeat (with_reducible refine And.intro (by first | omega | exact agree_loc rfl | exact agree_loc0 | exact agree_ne rfl rfl) ?_)
      first | refine PCallA.of (fun _ _ => ok_tree_Norm hy6) ?_ | refine PCall.of (ok_tree_Norm hy6) ?_
      simp only [push_cast, Nat.reduceAdd, Nat.reduceSub, Nat.reduceMul, Nat.reduceLeDiff, Nat.reduceLT, Nat.reduceEqDiff, ↓reduceIte, reduceCtorEq, Int.reduceBEq, Int.reduceBNe, Nat.reduceBEq, Int.reduceLE, Int.reduceLT, Int.reduceEq, Int.reduceNe, Int.reduceNeg, Nat.reduceDiv, Nat.reduceMod, Nat.reducePow, cast_lit, pl7, ql7, el7, ax8, bx8, cx8, gu9, hi0, hk0, hN0, hN]
      repeat (with_reducible refine And.intro (by first | omega | exact agree_loc rfl | exact agree_loc0 | exact agree_ne rfl rfl) ?_)
      refine W_fit ⟨32, [], [(1, .ref i0 2), (15, .sl a2.length (fl e_S_api_Tree a2)), (16, .val (.int .i64 (a2.length : Int))), (17, .val (.int .i64 s0_.1))]⟩ (Loc ((((O.upd j0_0 none).upd j0_1 none).upd j0_2 none).upd i0 (some ⟨false, 110, 4, 1, [.row (n + 6) z1.1.length, .val (.int .i64 z1.2.2.2), .row (n + 7) (s0_.2 ++ [y6]).length, .row (n + 8) z1.2.2.1.length]⟩)) n [none, none, none, none, none, none, some ⟨true, 69, 14, z1.1.length, fl e_S_api_Op z1.1⟩, some ⟨true, 25, 3, (s0_.2 ++ [y6]).length, fl e_S_api_Tree (s0_.2 ++ [y6])⟩, some ⟨true, 25, 3, z1.2.2.1.length, fl e_S_api_Tree z1.2.2.1⟩, none, none]) (fit_loco hU rfl rfl ?_) ?_
      · simp only [push_cast, Nat.reduceAdd, Nat.reduceSub, Nat.reduceMul, Nat.reduceLeDiff, Nat.reduceLT, Nat.reduceEqDiff, ↓reduceIte, reduceCtorEq, Int.reduceBEq, Int.reduceBNe, Nat.reduceBEq, Int.reduceLE, Int.reduceLT, Int.reduceEq, Int.reduceNe, Int.reduceNeg, Nat.reduceDiv, Nat.reduceMod, Nat.reducePow, cast_lit, pl7, ql7, el7, ax8, bx8, cx8, gu9, hi0, hk0, hN0, hN]
      refine W_regionD tab_ok [] ?_
      simp only [push_cast, seval, ↓reduceIte, cast_lit, hi0, hk0, hN0, hN]
      have hs0_ := Option.some.inj hs0_; subst hs0_
      refine And.intro rfl (Fit2.of (fit_loco hU rfl rfl ?_) (by omega))
      simp only [push_cast, seval, ↓reduceIte, cast_lit, hi0, hk0, hN0, hN]
    · replace hs0_ := condF c10 hs0_
      refine W_exit ?_
      try simp only [gthen, gblock, ↓reduceIte, Nat.reduceEqDiff]
      have hs0_ := Option.some.inj hs0_; subst hs0_
      refine And.intro (fun h => by cases h) (And.intro rfl (Fit2.of (fit_loco hU rfl rfl ?_) (by omega)))
      simp only [push_cast, seval, ↓reduceIte, cast_lit, hi0, hk0, hN0, hN]
  try simp only [gthen, gblock, ↓reduceIte, Nat.reduceEqDiff]
  have h := Option.some.inj h; subst h
  refine fin_locV (k := 3) (i := i0) (q1 := ⟨false, 110, 4, 1, [.row (n + 2) z1.1.length, .val (.int .i64 z1.2.2.2), .row n z11.length, .row (n + 1) z1.2.2.1.length]⟩) (L3 := [some ⟨true, 25, 3, z11.length, fl e_S_api_Tree z11⟩, some ⟨true, 25, 3, z1.2.2.1.length, fl e_S_api_Tree z1.2.2.1⟩, some ⟨true, 69, 14, z1.1.length, fl e_S_api_Op z1.1⟩, none]) (E2 := (⟨32, [], []⟩ : Env)) (n3 := (n + 4)) (.inl rfl) hU rfl [] ?_ ?_
  · refine Fit2.trans (E' := (⟨32, [], []⟩ : Env)) (O' := (Loc ((((O.upd j0_0 none).upd j0_1 none).upd j0_2 none).upd i0 (some ⟨false, 110, 4, 1, [.row (n + 6) z1.1.length, .val (.int .i64 z1.2.2.2), .row (n + 7) z11.length, .row (n + 8) z1.2.2.1.length]⟩)) n [none, none, none, none, none, none, some ⟨true, 69, 14, z1.1.length, fl e_S_api_Op z1.1⟩, some ⟨true, 25, 3, z11.length, fl e_S_api_Tree z11⟩, some ⟨true, 25, 3, z1.2.2.1.length, fl e_S_api_Tree z1.2.2.1⟩])) (n' := (n + 9)) (Fit2.of (fit_loco hU rfl rfl ?_) (by omega)) ?_
    · simp only [push_cast, seval, ↓reduceIte, cast_lit, hi0, hk0, hN0, hN]
    refine ren_fito (k := 9) (k' := 4) hU [3, 3, 3, 3, 3, 3, 2, 0, 1] [7, 8, 6, 0] rfl rfl rfl rfl ⟨rfl, rfl⟩ ?_
    simp only [push_cast, seval, ↓reduceIte, cast_lit, hi0, hk0, hN0, hN]
  simp only [push_cast, seval, ↓reduceIte, cast_lit, Try.results85, hi0, hk0, hN0, hN]
theorem ok_normal_writer_wait_w03 {a0 : S_normal_writer} {a2 : (List S_api_Tree)} {r : S_normal_writer} {O : Objs} {n : Nat} {i0 j0_0 j0_1 j0_2 : Nat} (hi0 : i0 < n) (hj0_0 : j0_0 < n) (hj0_1 : j0_1 < n) (hj0_2 : j0_2 < n) (hne0_0 : i0 ≠ j0_0) (hne0_1 : i0 ≠ j0_1) (hne0_2 : i0 ≠ j0_2) (hjj0_0_0_1 : j0_0 ≠ j0_1) (hjj0_0_0_2 : j0_0 ≠ j0_2) (hjj0_1_0_2 : j0_1 ≠ j0_2) (ho0 : O i0 = some ⟨false, 110, 4, 1, [.row j0_2 a0.out.length, .val (.int .i64 a0.kept), .row j0_0 a0.gone.length, .row j0_1 a0.come.length]⟩) (hoj0_0 : O j0_0 = some ⟨true, 25, 3, a0.gone.length, fl e_S_api_Tree a0.gone⟩) (hoj0_1 : O j0_1 = some ⟨true, 25, 3, a0.come.length, fl e_S_api_Tree a0.come⟩) (hoj0_2 : O j0_2 = some ⟨true, 69, 14, a0.out.length, fl e_S_api_Op a0.out⟩) (h : m_normal_writer_wait_w03 a0 a2 = some r) : GTo Try.prog 85 [.ref i0 0, .ref i0 3, .sl a2.length (fl e_S_api_Tree a2)] O n (.tup []) (Loc ((((O.upd j0_0 none).upd j0_1 none).upd j0_2 none).upd i0 (some ⟨false, 110, 4, 1, [.row (n + 2) r.out.length, .val (.int .i64 r.kept), .row n r.gone.length, .row (n + 1) r.come.length]⟩)) n [some ⟨true, 25, 3, r.gone.length, fl e_S_api_Tree r.gone⟩, some ⟨true, 25, 3, r.come.length, fl e_S_api_Tree r.come⟩, some ⟨true, 69, 14, r.out.length, fl e_S_api_Op r.out⟩]) (n + 3) := by
  unfold m_normal_writer_wait_w03 at h
  refine fn_of tab_ok Try.call85 Try.func85 rfl (Nat.le_of_ble_eq_true rfl) (by omega) fun hU => ?_
  have e0 := take_fit (ba := n) (E := ⟨32, [], genv 0 [.ref i0 0, .ref i0 3, .sl a2.length (fl e_S_api_Tree a2)]⟩) (O := (Loc O n [])) (n := n) (i := i0) (j := j0_0) (k := 2) (len := a0.gone.length) (q := ⟨false, 110, 4, 1, [.row j0_2 a0.out.length, .val (.int .i64 a0.kept), .row j0_0 a0.gone.length, .row j0_1 a0.come.length]⟩) (qj := ⟨true, 25, 3, a0.gone.length, fl e_S_api_Tree a0.gone⟩) (by rw [Loc_out _ hi0]; first | exact ho0 | exact upd_same _ _ _) rfl (by rw [Loc_out _ hj0_0]; exact hoj0_0) hne0_0 (by omega)
  simp only [Loc_updo _ _ hj0_0, Loc_updo _ _ hi0, Loc_push, Loc_push0, upd_updU, upd_in hne0_0, List.set_cons_zero, List.set_cons_succ, List.cons_append, List.nil_append, List.length_cons, List.length_nil, Nat.zero_add, Nat.reduceAdd, Nat.add_assoc] at e0
  refine W_fit2 e0 ?_
  have e1 := take_fit (ba := n) (E := ⟨32, [], genv 0 [.ref i0 0, .ref i0 3, .sl a2.length (fl e_S_api_Tree a2)]⟩) (O := (Loc ((O.upd j0_0 none).upd i0 (some ⟨false, 110, 4, 1, [.row j0_2 a0.out.length, .val (.int .i64 a0.kept), .row n a0.gone.length, .row j0_1 a0.come.length]⟩)) n [some ⟨true, 25, 3, a0.gone.length, fl e_S_api_Tree a0.gone⟩])) (n := (n + 1)) (i := i0) (j := j0_1) (k := 3) (len := a0.come.length) (q := ⟨false, 110, 4, 1, [.row j0_2 a0.out.length, .val (.int .i64 a0.kept), .row n a0.gone.length, .row j0_1 a0.come.length]⟩) (qj := ⟨true, 25, 3, a0.come.length, fl e_S_api_Tree a0.come⟩) (by rw [Loc_out _ hi0]; first | exact ho0 | exact upd_same _ _ _) rfl (by rw [Loc_out _ hj0_1, upd_ne _ _ (Ne.symm hne0_1), upd_ne _ _ (Ne.symm hjj0_0_0_1)]; exact hoj0_1) hne0_1 (by omega)
  simp only [Loc_updo _ _ hj0_1, Loc_updo _ _ hi0, Loc_push, Loc_push0, upd_updU, upd_in hne0_1, List.set_cons_zero, List.set_cons_succ, List.cons_append, List.nil_append, List.length_cons, List.length_nil, Nat.zero_add, Nat.reduceAdd, Nat.add_assoc] at e1
  refine W_fit2 e1 ?_
  have e2 := take_fit (ba := n) (E := ⟨32, [], genv 0 [.ref i0 0, .ref i0 3, .sl a2.length (fl e_S_api_Tree a2)]⟩) (O := (Loc (((O.upd j0_0 none).upd j0_1 none).upd i0 (some ⟨false, 110, 4, 1, [.row j0_2 a0.out.length, .val (.int .i64 a0.kept), .row n a0.gone.length, .row (n + 1) a0.come.length]⟩)) n [some ⟨true, 25, 3, a0.gone.length, fl e_S_api_Tree a0.gone⟩, some ⟨true, 25, 3, a0.come.length, fl e_S_api_Tree a0.come⟩])) (n := (n + 2)) (i := i0) (j := j0_2) (k := 0) (len := a0.out.length) (q := ⟨false, 110, 4, 1, [.row j0_2 a0.out.length, .val (.int .i64 a0.kept), .row n a0.gone.length, .row (n + 1) a0.come.length]⟩) (qj := ⟨true, 69, 14, a0.out.length, fl e_S_api_Op a0.out⟩) (by rw [Loc_out _ hi0]; first | exact ho0 | exact upd_same _ _ _) rfl (by rw [Loc_out _ hj0_2, upd_ne _ _ (Ne.symm hne0_2), upd_ne _ _ (Ne.symm hjj0_1_0_2), upd_ne _ _ (Ne.symm hjj0_0_0_2)]; exact hoj0_2) hne0_2 (by omega)
  simp only [Loc_updo _ _ hj0_2, Loc_updo _ _ hi0, Loc_push, Loc_push0, upd_updU, upd_in hne0_2, List.set_cons_zero, List.set_cons_succ, List.cons_append, List.nil_append, List.length_cons, List.length_nil, Nat.zero_add, Nat.reduceAdd, Nat.add_assoc] at e2
  refine W_fit2 e2 ?_
  have hU := (Und.drop (Und.drop (Und.drop hU j0_0) j0_1) j0_2)
  have hk0 : ∀ k, i0 < n + k := fun k => by omega
  have hN0 : ∀ o, Objs.upd (((O.upd j0_0 none).upd j0_1 none).upd j0_2 none) i0 o n = none := fun o => upd_fresh hU hi0 _ (Nat.le_refl _)
  have hN : ∀ o k, Objs.upd (((O.upd j0_0 none).upd j0_1 none).upd j0_2 none) i0 o (n + k) = none := fun o k => upd_fresh hU hi0 _ (Nat.le_add_right _ _)
  show W _ _ _ _ ⟨32, [], [(0, .ref i0 0), (1, .ref i0 3), (2, .sl a2.length (fl e_S_api_Tree a2))]⟩ (Loc ((((O.upd j0_0 none).upd j0_1 none).upd j0_2 none).upd i0 (some ⟨false, 110, 4, 1, [.row (n + 2) a0.out.length, .val (.int .i64 a0.kept), .row n a0.gone.length, .row (n + 1) a0.come.length]⟩)) n [some ⟨true, 25, 3, a0.gone.length, fl e_S_api_Tree a0.gone⟩, some ⟨true, 25, 3, a0.come.length, fl e_S_api_Tree a0.come⟩, some ⟨true, 69, 14, a0.out.length, fl e_S_api_Op a0.out⟩]) _
  obtain ⟨z1, hz1, h⟩ := bC h
  refine W_seqN (E' := ⟨32, [], [(1, .ref i0 3), (2, .sl a2.length (fl e_S_api_Tree a2))]⟩) (O' := (Loc ((((O.upd j0_0 none).upd j0_1 none).upd j0_2 none).upd i0 (some ⟨false, 110, 4, 1, [.row (n + 6) z1.1.length, .val (.int .i64 z1.2.2.2), .row (n + 7) z1.2.1.length, .row (n + 8) z1.2.2.1.length]⟩)) n [none, none, none, none, none, none, some ⟨true, 69, 14, z1.1.length, fl e_S_api_Op z1.1⟩, some ⟨true, 25, 3, z1.2.1.length, fl e_S_api_Tree z1.2.1⟩, some ⟨true, 25, 3, z1.2.2.1.length, fl e_S_api_Tree z1.2.2.1⟩])) (n0 := (n + 9)) ?_ ?_
  · refine W_sq [0, 1, 2, 12] (W_regionD tab_ok [] ?_)
    simp only [push_cast, seval, ↓reduceIte, cast_lit, hi0, hk0, hN0, hN]
    refine W_cond (t := (decide (0 < a0.kept))) rfl (fun c3 => ?_) (fun c3 => ?_)
    · replace hz1 := condT c3 hz1
      obtain ⟨y2, hy2, hz1⟩ := bC hz1
      refine W_regionD tab_ok [] ?_
      simp only [push_cast, seval, ↓reduceIte, cast_lit, hi0, hk0, hN0, hN]
      refine (ok_normal_writer_lay (i0 := i0) (j0_0 := n) (j0_1 := (n + 1)) (j0_2 := (n + 2)) (by omega) (by omega) (by omega) (by omega) (by omega) (by omega) (by omega) (by omega) (by omega) (by omega) (by simp only [push_cast, seval, ↓reduceIte, cast_lit, fl_nil, hi0, hk0, hN0, hN] <;> rfl) (by simp only [push_cast, seval, ↓reduceIte, cast_lit, fl_nil, hi0, hk0, hN0, hN] <;> rfl) (by simp only [push_cast, seval, ↓reduceIte, cast_lit, fl_nil, hi0, hk0, hN0, hN] <;> rfl) (by simp only [push_cast, seval, ↓reduceIte, cast_lit, fl_nil, hi0, hk0, hN0, hN] <;> rfl) hy2).then ?_
      simp only [push_cast, seval, ↓reduceIte, cast_lit, hi0, hk0, hN0, hN]
      have hz1 := Option.some.inj hz1; subst hz1
      refine And.intro rfl ?_
      refine Fit2.trans (E' := (⟨32, [], [(1, .ref i0 3), (2, .sl a2.length (fl e_S_api_Tree a2))]⟩ : Env)) (O' := (Loc ((((O.upd j0_0 none).upd j0_1 none).upd j0_2 none).upd i0 (some ⟨false, 110, 4, 1, [.row (n + 5) y2.out.length, .val (.int .i64 y2.kept), .row (n + 3) y2.gone.length, .row (n + 4) y2.come.length]⟩)) n [none, none, none, some ⟨true, 25, 3, y2.gone.length, fl e_S_api_Tree y2.gone⟩, some ⟨true, 25, 3, y2.come.length, fl e_S_api_Tree y2.come⟩, some ⟨true, 69, 14, y2.out.length, fl e_S_api_Op y2.out⟩])) (n' := (n + 6)) (Fit2.of (fit_loco hU rfl rfl ?_) (by omega)) ?_
      · simp only [push_cast, seval, ↓reduceIte, cast_lit, hi0, hk0, hN0, hN]
      refine ren_fito (k := 6) (k' := 9) hU [5, 5, 5, 7, 8, 6] [0, 0, 0, 0, 0, 0, 5, 3, 4] rfl rfl rfl rfl ⟨rfl, rfl⟩ ?_
      simp only [push_cast, seval, ↓reduceIte, cast_lit, hi0, hk0, hN0, hN]
    · replace hz1 := condF c3 hz1
      refine W_skip ?_
      try simp only [gthen, gblock]
      have hz1 := Option.some.inj hz1; subst hz1
      refine And.intro rfl ?_
      refine Fit2.trans (E' := (⟨32, [], [(1, .ref i0 3), (2, .sl a2.length (fl e_S_api_Tree a2))]⟩ : Env)) (O' := (Loc ((((O.upd j0_0 none).upd j0_1 none).upd j0_2 none).upd i0 (some ⟨false, 110, 4, 1, [.row (n + 2) a0.out.length, .val (.int .i64 a0.kept), .row n a0.gone.length, .row (n + 1) a0.come.length]⟩)) n [some ⟨true, 25, 3, a0.gone.length, fl e_S_api_Tree a0.gone⟩, some ⟨true, 25, 3, a0.come.length, fl e_S_api_Tree a0.come⟩, some ⟨true, 69, 14, a0.out.length, fl e_S_api_Op a0.out⟩])) (n' := (n + 3)) (Fit2.of (fit_loco hU rfl rfl ?_) (by omega)) ?_
      · simp only [push_cast, seval, ↓reduceIte, cast_lit, hi0, hk0, hN0, hN]
      refine ren_fito (k := 3) (k' := 9) hU [7, 8, 6] [0, 0, 0, 0, 0, 0, 2, 0, 1] rfl rfl rfl rfl ⟨rfl, rfl⟩ ?_
      simp only [push_cast, seval, ↓reduceIte, cast_lit, hi0, hk0, hN0, hN]
  refine W_sq [1, 15, 16, 17] (W_regionD tab_ok [] ?_)
  simp only [push_cast, seval, ↓reduceIte, cast_lit, hi0, hk0, hN0, hN]
  refine W_drop [1, 15, 16, 17] [false, false, false, false, false, false, true, true, true] ?_
  simp only [push_cast, seval, ↓reduceIte]
  obtain ⟨z11, hz11, h⟩ := bC h
  refine W_blockX (E' := ⟨32, [], []⟩) (O' := (Loc ((((O.upd j0_0 none).upd j0_1 none).upd j0_2 none).upd i0 (some ⟨false, 110, 4, 1, [.row (n + 6) z1.1.length, .val (.int .i64 z1.2.2.2), .row (n + 7) z1.2.1.length, .row (n + 8) z11.length]⟩)) n [none, none, none, none, none, none, some ⟨true, 69, 14, z1.1.length, fl e_S_api_Op z1.1⟩, some ⟨true, 25, 3, z1.2.1.length, fl e_S_api_Tree z1.2.1⟩, some ⟨true, 25, 3, z11.length, fl e_S_api_Tree z11⟩])) (n0 := (n + 9)) ?_ ?_
  · refine W_loopJ hz11 (fun s0_ => ⟨32, [], [(1, .ref i0 3), (15, .sl a2.length (fl e_S_api_Tree a2)), (16, .val (.int .i64 (a2.length : Int))), (17, .val (.int .i64 s0_.1))]⟩) (fun s0_ => (Loc ((((O.upd j0_0 none).upd j0_1 none).upd j0_2 none).upd i0 (some ⟨false, 110, 4, 1, [.row (n + 6) z1.1.length, .val (.int .i64 z1.2.2.2), .row (n + 7) z1.2.1.length, .row (n + 8) s0_.2.length]⟩)) n [none, none, none, none, none, none, some ⟨true, 69, 14, z1.1.length, fl e_S_api_Op z1.1⟩, some ⟨true, 25, 3, z1.2.1.length, fl e_S_api_Tree z1.2.1⟩, some ⟨true, 25, 3, s0_.2.length, fl e_S_api_Tree s0_.2⟩])) (fun z11 => JX 0 n (⟨32, [], []⟩ : Env) (Loc ((((O.upd j0_0 none).upd j0_1 none).upd j0_2 none).upd i0 (some ⟨false, 110, 4, 1, [.row (n + 6) z1.1.length, .val (.int .i64 z1.2.2.2), .row (n + 7) z1.2.1.length, .row (n + 8) z11.length]⟩)) n [none, none, none, none, none, none, some ⟨true, 69, 14, z1.1.length, fl e_S_api_Op z1.1⟩, some ⟨true, 25, 3, z1.2.1.length, fl e_S_api_Tree z1.2.1⟩, some ⟨true, 25, 3, z11.length, fl e_S_api_Tree z11⟩]) (n + 9)) ?_
    intro s0_ x0_ hs0_
    unfold m_normal_writer_wait_w03_L0 at hs0_
    try dsimp only
    refine W_sq [1, 15, 16, 17, 18] (W_regionD tab_ok [] ?_)
    simp only [push_cast, seval, ↓reduceIte, cast_lit, hi0, hk0, hN0, hN]
    refine W_seqK ?_
    refine W_cond (t := (decide (s0_.1 < (a2.length : Int)))) rfl (fun c10 => ?_) (fun c10 => ?_)
    · replace hs0_ := condT c10 hs0_
      refine W_skip ?_
      try simp only [gthen, gblock]
      refine W_drop [1, 15, 16, 17] [false, false, false, false, false, false, true, true, true] ?_
      simp only [push_cast, seval, ↓reduceIte]
      refine W_seqK ?_
      refine W_block ?_
      refine W_seqK ?_
      obtain ⟨x5, hx5, ax5, bx5, cx5, hs0_⟩ := bE (f := e_S_api_Tree) tab25 (fun _ => rfl) (by decide) hs0_
      refine W_regionD tab_ok [] ?_
      simp only [push_cast, Nat.reduceAdd, Nat.reduceSub, Nat.reduceMul, Nat.reduceLeDiff, Nat.reduceLT, Nat.reduceEqDiff, ↓reduceIte, reduceCtorEq, Int.reduceBEq, Int.reduceBNe, Nat.reduceBEq, Int.reduceLE, Int.reduceLT, Int.reduceEq, Int.reduceNe, Int.reduceNeg, Nat.reduceDiv, Nat.reduceMod, Nat.reducePow, cast_lit, ax5, bx5, cx5, hi0, hk0, hN0, hN]
      refine W_drop [1, 7, 15, 16, 17] [false, false, false, false, false, false, true, true, true, true] ?_
      simp only [push_cast, seval, ↓reduceIte]
      obtain ⟨y6, hy6, hs0_⟩ := bC hs0_
      obtain ⟨l7, pl7, ql7, el7, hs0_⟩ := bA (k := 1) rfl hs0_
      obtain ⟨x8, hx8, ax8, bx8, cx8, hs0_⟩ := bE (f := e_S_api_Tree) tab25 (fun _ => rfl) (by decide) hs0_
      have gu9 : gplace (fl e_S_api_Tree s0_.2 ++ [.val (.int .i64 0), .val (.slice none 0 0), .val (.slice none 0 0)]) [.val (.int .i64 y6.Kind), .sl y6.Words.length (fl (eI .u64) y6.Words), .sl y6.Kids.length (fl e_S_api_Tree y6.Kids)] (List.length s0_.2 * 3) = some (fl e_S_api_Tree s0_.2 ++ [.val (.int .i64 y6.Kind), .sl y6.Words.length (fl (eI .u64) y6.Words), .sl y6.Kids.length (fl e_S_api_Tree y6.Kids)]) := gplace_last (f := e_S_api_Tree) (sz := 3) (fun _ => rfl) rfl rfl
      refine W_drawY tab_ok (by kernel_rfl) [.low, .low, .low, .low, .low, .low, .pass, .bar, .shp, .fill true, .shp, .fill false] (fun i => i < (n + 10)) [0, 1, 2, 3, 4, 5, 6, 7, 8, 9, 10, 11] [.low, .low, .low, .low, .low, .low, .pass, .bar, .shp, .fill true, .shp, .fill false] [] (by kernel_rfl) rfl ?_
      simp only [push_cast, Nat.reduceAdd, Nat.reduceSub, Nat.reduceMul, Nat.reduceLeDiff, Nat.reduceLT, Nat.reduceEqDiff, ↓reduceIte, reduceCtorEq, Int.reduceBEq, Int.reduceBNe, Nat.reduceBEq, Int.reduceLE, Int.reduceLT, Int.reduceEq, Int.reduceNe, Int.reduceNeg, Nat.reduceDiv, Nat.reduceMod, Nat.reducePow, cast_lit, pl7, ql7, el7, ax8, bx8, cx8, gu9, hi0, hk0, hN0, hN]
      repeat (with_reducible refine And.intro (by first | omega | exact agree_loc rfl | exact agree_loc0 | exact agree_ne rfl rfl) ?_)
      first | refine PCallA.of (fun _ _ => ok_tree_Norm hy6) ?_ | refine PCall.of (ok_tree_Norm hy6) ?_
      simp only [push_cast, Nat.reduceAdd, Nat.reduceSub, Nat.reduceMul, Nat.reduceLeDiff, Nat.reduceLT, Nat.reduceEqDiff, ↓reduceIte, reduceCtorEq, Int.reduceBEq, Int.reduceBNe, Nat.reduceBEq, Int.reduceLE, Int.reduceLT, Int.reduceEq, Int.reduceNe, Int.reduceNeg, Nat.reduceDiv, Nat.reduceMod, Nat.reducePow, cast_lit, pl7, ql7, el7, ax8, bx8, cx8, gu9, hi0, hk0, hN0, hN]
      repeat (with_reducible refine And.intro (by first | omega | exact agree_loc rfl | exact agree_loc0 | exact agree_ne rfl rfl) ?_)
      refine W_fit ⟨32, [], [(1, .ref i0 3), (15, .sl a2.length (fl e_S_api_Tree a2)), (16, .val (.int .i64 (a2.length : Int))), (17, .val (.int .i64 s0_.1))]⟩ (Loc ((((O.upd j0_0 none).upd j0_1 none).upd j0_2 none).upd i0 (some ⟨false, 110, 4, 1, [.row (n + 6) z1.1.length, .val (.int .i64 z1.2.2.2), .row (n + 7) z1.2.1.length, .row (n + 8) (s0_.2 ++ [y6]).length]⟩)) n [none, none, none, none, none, none, some ⟨true, 69, 14, z1.1.length, fl e_S_api_Op z1.1⟩, some ⟨true, 25, 3, z1.2.1.length, fl e_S_api_Tree z1.2.1⟩, some ⟨true, 25, 3, (s0_.2 ++ [y6]).length, fl e_S_api_Tree (s0_.2 ++ [y6])⟩, none, none]) (fit_loco hU rfl rfl ?_) ?_
      · simp only [push_cast, Nat.reduceAdd, Nat.reduceSub, Nat.reduceMul, Nat.reduceLeDiff, Nat.reduceLT, Nat.reduceEqDiff, ↓reduceIte, reduceCtorEq, Int.reduceBEq, Int.reduceBNe, Nat.reduceBEq, Int.reduceLE, Int.reduceLT, Int.reduceEq, Int.reduceNe, Int.reduceNeg, Nat.reduceDiv, Nat.reduceMod, Nat.reducePow, cast_lit, pl7, ql7, el7, ax8, bx8, cx8, gu9, hi0, hk0, hN0, hN]
      refine W_regionD tab_ok [] ?_
      simp only [push_cast, seval, ↓reduceIte, cast_lit, hi0, hk0, hN0, hN]
      have hs0_ := Option.some.inj hs0_; subst hs0_
      refine And.intro rfl (Fit2.of (fit_loco hU rfl rfl ?_) (by omega))
      simp only [push_cast, seval, ↓reduceIte, cast_lit, hi0, hk0, hN0, hN]
    · replace hs0_ := condF c10 hs0_
      refine W_exit ?_
      try simp only [gthen, gblock, ↓reduceIte, Nat.reduceEqDiff]
      have hs0_ := Option.some.inj hs0_; subst hs0_
      refine And.intro (fun h => by cases h) (And.intro rfl (Fit2.of (fit_loco hU rfl rfl ?_) (by omega)))
      simp only [push_cast, seval, ↓reduceIte, cast_lit, hi0, hk0, hN0, hN]
  try simp only [gthen, gblock, ↓reduceIte, Nat.reduceEqDiff]
  have h := Option.some.inj h; subst h
  refine fin_locV (k := 3) (i := i0) (q1 := ⟨false, 110, 4, 1, [.row (n + 2) z1.1.length, .val (.int .i64 z1.2.2.2), .row n z1.2.1.length, .row (n + 1) z11.length]⟩) (L3 := [some ⟨true, 25, 3, z1.2.1.length, fl e_S_api_Tree z1.2.1⟩, some ⟨true, 25, 3, z11.length, fl e_S_api_Tree z11⟩, some ⟨true, 69, 14, z1.1.length, fl e_S_api_Op z1.1⟩, none]) (E2 := (⟨32, [], []⟩ : Env)) (n3 := (n + 4)) (.inl rfl) hU rfl [] ?_ ?_
  · refine Fit2.trans (E' := (⟨32, [], []⟩ : Env)) (O' := (Loc ((((O.upd j0_0 none).upd j0_1 none).upd j0_2 none).upd i0 (some ⟨false, 110, 4, 1, [.row (n + 6) z1.1.length, .val (.int .i64 z1.2.2.2), .row (n + 7) z1.2.1.length, .row (n + 8) z11.length]⟩)) n [none, none, none, none, none, none, some ⟨true, 69, 14, z1.1.length, fl e_S_api_Op z1.1⟩, some ⟨true, 25, 3, z1.2.1.length, fl e_S_api_Tree z1.2.1⟩, some ⟨true, 25, 3, z11.length, fl e_S_api_Tree z11⟩])) (n' := (n + 9)) (Fit2.of (fit_loco hU rfl rfl ?_) (by omega)) ?_
    · simp only [push_cast, seval, ↓reduceIte, cast_lit, hi0, hk0, hN0, hN]
    refine ren_fito (k := 9) (k' := 4) hU [3, 3, 3, 3, 3, 3, 2, 0, 1] [7, 8, 6, 0] rfl rfl rfl rfl ⟨rfl, rfl⟩ ?_
    simp only [push_cast, seval, ↓reduceIte, cast_lit, hi0, hk0, hN0, hN]
  simp only [push_cast, seval, ↓reduceIte, cast_lit, Try.results85, hi0, hk0, hN0, hN]
theorem ok_normal_Idle {a0 : Int} {a1 : S_api_Edit} {r : Bool} {O : Objs} {n : Nat} (h : m_normal_Idle a0 a1 = some r) : GTo Try.prog 20 [.val (.int .i64 a0), .agg (c_S_api_Edit a1)] O n (.val (.bool r)) O n := by
  unfold m_normal_Idle at h
  refine fn_of tab_ok Try.call20 Try.func20 rfl (Nat.le_of_ble_eq_true rfl) (Nat.le_refl _) fun hU => ?_
  have hN0 : O n = none := hU.fresh _ (Nat.le_refl _)
  have hN : ∀ k, O (n + k) = none := fun k => hU.fresh _ (Nat.le_add_right _ _)
  show W _ _ _ _ ⟨27, [], [(0, .val (.int .i64 a0)), (1, .agg (c_S_api_Edit a1))]⟩ (Loc O n []) _
  refine W_sq [0, 3] (W_regionD tab_ok [] ?_)
  simp only [push_cast, seval, ↓reduceIte, cast_lit, hN0, hN]
  refine W_sq [4] (W_regionD tab_ok [none, none, none, none, none, none, none, none, none, none, none, none, none, none, none, none, none] ?_)
  simp only [push_cast, seval, ↓reduceIte, cast_lit, hN0, hN]
  repeat (with_reducible refine And.intro (by first | (intro h0; simp only [h0, and_self]; done) | (intro h0; simp only [h0, Bool.not_false, Bool.not_true, Bool.true_and, Bool.and_true, true_and, and_true, and_self, imp_self, implies_true, bne_iff_ne, ne_eq, beq_iff_eq]; done) | (intros; simp_all; done) | exact True.intro) ?_)
  refine W_ret ?_
  try simp only [gthen, gblock]
  have h := Option.some.inj h; subst h
  refine fin_loc (.inr rfl) hU [.val (.bool (cond (a1.Kind == 0) true (cond (cond (a0 == 9) (a1.Kind == 2) false) ((IntKind.i64.wrap ((a1.Words.length : Int) + (a1.Kids.length : Int))) == 0) false)))] (by omega) ?_
  simp only [push_cast, seval, ↓reduceIte, cast_lit, Try.results20, hN0, hN]
theorem ok_normal_writer_descend {a0 : S_normal_writer} {a1 : Int} {a2 : S_api_Edit} {r : S_normal_writer} {O : Objs} {n : Nat} {i0 j0_0 j0_1 j0_2 : Nat} (hi0 : i0 < n) (hj0_0 : j0_0 < n) (hj0_1 : j0_1 < n) (hj0_2 : j0_2 < n) (hne0_0 : i0 ≠ j0_0) (hne0_1 : i0 ≠ j0_1) (hne0_2 : i0 ≠ j0_2) (hjj0_0_0_1 : j0_0 ≠ j0_1) (hjj0_0_0_2 : j0_0 ≠ j0_2) (hjj0_1_0_2 : j0_1 ≠ j0_2) (ho0 : O i0 = some ⟨false, 110, 4, 1, [.row j0_2 a0.out.length, .val (.int .i64 a0.kept), .row j0_0 a0.gone.length, .row j0_1 a0.come.length]⟩) (hoj0_0 : O j0_0 = some ⟨true, 25, 3, a0.gone.length, fl e_S_api_Tree a0.gone⟩) (hoj0_1 : O j0_1 = some ⟨true, 25, 3, a0.come.length, fl e_S_api_Tree a0.come⟩) (hoj0_2 : O j0_2 = some ⟨true, 69, 14, a0.out.length, fl e_S_api_Op a0.out⟩) (h : m_normal_writer_descend a0 a1 a2 = some r) : GTo Try.prog 86 [.ref i0 0, .val (.int .i64 a1), .agg (c_S_api_Edit a2)] O n (.tup []) (Loc ((((O.upd j0_0 none).upd j0_1 none).upd j0_2 none).upd i0 (some ⟨false, 110, 4, 1, [.row (n + 2) r.out.length, .val (.int .i64 r.kept), .row n r.gone.length, .row (n + 1) r.come.length]⟩)) n [some ⟨true, 25, 3, r.gone.length, fl e_S_api_Tree r.gone⟩, some ⟨true, 25, 3, r.come.length, fl e_S_api_Tree r.come⟩, some ⟨true, 69, 14, r.out.length, fl e_S_api_Op r.out⟩]) (n + 3) := by
  unfold m_normal_writer_descend at h
  refine fn_of tab_ok Try.call86 Try.func86 rfl (Nat.le_of_ble_eq_true rfl) (by omega) fun hU => ?_
  have e0 := take_fit (ba := n) (E := ⟨25, [], genv 0 [.ref i0 0, .val (.int .i64 a1), .agg [.val (.int .i64 a2.Kind), .val (.int .i64 a2.Old.Kind), .sl a2.Old.Words.length (fl (eI .u64) a2.Old.Words), .sl a2.Old.Kids.length (fl e_S_api_Tree a2.Old.Kids), .val (.int .i64 a2.New.Kind), .sl a2.New.Words.length (fl (eI .u64) a2.New.Words), .sl a2.New.Kids.length (fl e_S_api_Tree a2.New.Kids), .sl a2.Words.length (fl e_S_api_WordEdit a2.Words), .sl a2.Kids.length (fl e_S_api_KidEdit a2.Kids), .val (.int .i64 a2.List_), .sl a2.Ops.length (fl e_S_api_Op a2.Ops)]]⟩) (O := (Loc O n [])) (n := n) (i := i0) (j := j0_0) (k := 2) (len := a0.gone.length) (q := ⟨false, 110, 4, 1, [.row j0_2 a0.out.length, .val (.int .i64 a0.kept), .row j0_0 a0.gone.length, .row j0_1 a0.come.length]⟩) (qj := ⟨true, 25, 3, a0.gone.length, fl e_S_api_Tree a0.gone⟩) (by rw [Loc_out _ hi0]; first | exact ho0 | exact upd_same _ _ _) rfl (by rw [Loc_out _ hj0_0]; exact hoj0_0) hne0_0 (by omega)
  simp only [Loc_updo _ _ hj0_0, Loc_updo _ _ hi0, Loc_push, Loc_push0, upd_updU, upd_in hne0_0, List.set_cons_zero, List.set_cons_succ, List.cons_append, List.nil_append, List.length_cons, List.length_nil, Nat.zero_add, Nat.reduceAdd, Nat.add_assoc] at e0
  refine W_fit2 e0 ?_
  have e1 := take_fit (ba := n) (E := ⟨25, [], genv 0 [.ref i0 0, .val (.int .i64 a1), .agg [.val (.int .i64 a2.Kind), .val (.int .i64 a2.Old.Kind), .sl a2.Old.Words.length (fl (eI .u64) a2.Old.Words), .sl a2.Old.Kids.length (fl e_S_api_Tree a2.Old.Kids), .val (.int .i64 a2.New.Kind), .sl a2.New.Words.length (fl (eI .u64) a2.New.Words), .sl a2.New.Kids.length (fl e_S_api_Tree a2.New.Kids), .sl a2.Words.length (fl e_S_api_WordEdit a2.Words), .sl a2.Kids.length (fl e_S_api_KidEdit a2.Kids), .val (.int .i64 a2.List_), .sl a2.Ops.length (fl e_S_api_Op a2.Ops)]]⟩) (O := (Loc ((O.upd j0_0 none).upd i0 (some ⟨false, 110, 4, 1, [.row j0_2 a0.out.length, .val (.int .i64 a0.kept), .row n a0.gone.length, .row j0_1 a0.come.length]⟩)) n [some ⟨true, 25, 3, a0.gone.length, fl e_S_api_Tree a0.gone⟩])) (n := (n + 1)) (i := i0) (j := j0_1) (k := 3) (len := a0.come.length) (q := ⟨false, 110, 4, 1, [.row j0_2 a0.out.length, .val (.int .i64 a0.kept), .row n a0.gone.length, .row j0_1 a0.come.length]⟩) (qj := ⟨true, 25, 3, a0.come.length, fl e_S_api_Tree a0.come⟩) (by rw [Loc_out _ hi0]; first | exact ho0 | exact upd_same _ _ _) rfl (by rw [Loc_out _ hj0_1, upd_ne _ _ (Ne.symm hne0_1), upd_ne _ _ (Ne.symm hjj0_0_0_1)]; exact hoj0_1) hne0_1 (by omega)
  simp only [Loc_updo _ _ hj0_1, Loc_updo _ _ hi0, Loc_push, Loc_push0, upd_updU, upd_in hne0_1, List.set_cons_zero, List.set_cons_succ, List.cons_append, List.nil_append, List.length_cons, List.length_nil, Nat.zero_add, Nat.reduceAdd, Nat.add_assoc] at e1
  refine W_fit2 e1 ?_
  have e2 := take_fit (ba := n) (E := ⟨25, [], genv 0 [.ref i0 0, .val (.int .i64 a1), .agg [.val (.int .i64 a2.Kind), .val (.int .i64 a2.Old.Kind), .sl a2.Old.Words.length (fl (eI .u64) a2.Old.Words), .sl a2.Old.Kids.length (fl e_S_api_Tree a2.Old.Kids), .val (.int .i64 a2.New.Kind), .sl a2.New.Words.length (fl (eI .u64) a2.New.Words), .sl a2.New.Kids.length (fl e_S_api_Tree a2.New.Kids), .sl a2.Words.length (fl e_S_api_WordEdit a2.Words), .sl a2.Kids.length (fl e_S_api_KidEdit a2.Kids), .val (.int .i64 a2.List_), .sl a2.Ops.length (fl e_S_api_Op a2.Ops)]]⟩) (O := (Loc (((O.upd j0_0 none).upd j0_1 none).upd i0 (some ⟨false, 110, 4, 1, [.row j0_2 a0.out.length, .val (.int .i64 a0.kept), .row n a0.gone.length, .row (n + 1) a0.come.length]⟩)) n [some ⟨true, 25, 3, a0.gone.length, fl e_S_api_Tree a0.gone⟩, some ⟨true, 25, 3, a0.come.length, fl e_S_api_Tree a0.come⟩])) (n := (n + 2)) (i := i0) (j := j0_2) (k := 0) (len := a0.out.length) (q := ⟨false, 110, 4, 1, [.row j0_2 a0.out.length, .val (.int .i64 a0.kept), .row n a0.gone.length, .row (n + 1) a0.come.length]⟩) (qj := ⟨true, 69, 14, a0.out.length, fl e_S_api_Op a0.out⟩) (by rw [Loc_out _ hi0]; first | exact ho0 | exact upd_same _ _ _) rfl (by rw [Loc_out _ hj0_2, upd_ne _ _ (Ne.symm hne0_2), upd_ne _ _ (Ne.symm hjj0_1_0_2), upd_ne _ _ (Ne.symm hjj0_0_0_2)]; exact hoj0_2) hne0_2 (by omega)
  simp only [Loc_updo _ _ hj0_2, Loc_updo _ _ hi0, Loc_push, Loc_push0, upd_updU, upd_in hne0_2, List.set_cons_zero, List.set_cons_succ, List.cons_append, List.nil_append, List.length_cons, List.length_nil, Nat.zero_add, Nat.reduceAdd, Nat.add_assoc] at e2
  refine W_fit2 e2 ?_
  have hU := (Und.drop (Und.drop (Und.drop hU j0_0) j0_1) j0_2)
  have hk0 : ∀ k, i0 < n + k := fun k => by omega
  have hN0 : ∀ o, Objs.upd (((O.upd j0_0 none).upd j0_1 none).upd j0_2 none) i0 o n = none := fun o => upd_fresh hU hi0 _ (Nat.le_refl _)
  have hN : ∀ o k, Objs.upd (((O.upd j0_0 none).upd j0_1 none).upd j0_2 none) i0 o (n + k) = none := fun o k => upd_fresh hU hi0 _ (Nat.le_add_right _ _)
  show W _ _ _ _ ⟨25, [], [(0, .ref i0 0), (1, .val (.int .i64 a1)), (2, .agg (c_S_api_Edit a2))]⟩ (Loc ((((O.upd j0_0 none).upd j0_1 none).upd j0_2 none).upd i0 (some ⟨false, 110, 4, 1, [.row (n + 2) a0.out.length, .val (.int .i64 a0.kept), .row n a0.gone.length, .row (n + 1) a0.come.length]⟩)) n [some ⟨true, 25, 3, a0.gone.length, fl e_S_api_Tree a0.gone⟩, some ⟨true, 25, 3, a0.come.length, fl e_S_api_Tree a0.come⟩, some ⟨true, 69, 14, a0.out.length, fl e_S_api_Op a0.out⟩]) _
  refine W_sq [0, 1, 5] (W_regionD tab_ok [] ?_)
  simp only [push_cast, seval, ↓reduceIte, cast_lit, hi0, hk0, hN0, hN]
  refine W_seqK ?_
  refine W_seqK ?_
  obtain ⟨y2, hy2, h⟩ := bC h
  refine W_regionD tab_ok [] ?_
  simp only [push_cast, seval, ↓reduceIte, cast_lit, hi0, hk0, hN0, hN]
  refine (ok_normal_Idle hy2).then ?_
  simp only [push_cast, seval, ↓reduceIte, cast_lit, hi0, hk0, hN0, hN]
  refine W_drop [0, 5, 8] [true, true, true, true] ?_
  simp only [push_cast, seval, ↓reduceIte]
  refine W_cond (t := y2) rfl (fun c10 => ?_) (fun c10 => ?_)
  · replace h := condT c10 h
    refine W_seqK ?_
    obtain ⟨y4, hy4, h⟩ := bC h
    refine W_regionD tab_ok [] ?_
    simp only [push_cast, seval, ↓reduceIte, cast_lit, hi0, hk0, hN0, hN]
    refine (ok_normal_writer_keep (i0 := i0) (j0_0 := n) (j0_1 := (n + 1)) (j0_2 := (n + 2)) (by omega) (by omega) (by omega) (by omega) (by omega) (by omega) (by omega) (by omega) (by omega) (by omega) (by simp only [push_cast, seval, ↓reduceIte, cast_lit, fl_nil, hi0, hk0, hN0, hN] <;> rfl) (by simp only [push_cast, seval, ↓reduceIte, cast_lit, fl_nil, hi0, hk0, hN0, hN] <;> rfl) (by simp only [push_cast, seval, ↓reduceIte, cast_lit, fl_nil, hi0, hk0, hN0, hN] <;> rfl) (by simp only [push_cast, seval, ↓reduceIte, cast_lit, fl_nil, hi0, hk0, hN0, hN] <;> rfl) hy4).then ?_
    simp only [push_cast, seval, ↓reduceIte, cast_lit, hi0, hk0, hN0, hN]
    refine W_drop [] [false, false, false, false, true, true, true] ?_
    simp only [push_cast, seval, ↓reduceIte]
    refine W_ret ?_
    try simp only [gthen, gblock]
    have h := Option.some.inj h; subst h
    refine fin_locV (k := 3) (i := i0) (q1 := ⟨false, 110, 4, 1, [.row (n + 2) y4.out.length, .val (.int .i64 y4.kept), .row n y4.gone.length, .row (n + 1) y4.come.length]⟩) (L3 := [some ⟨true, 25, 3, y4.gone.length, fl e_S_api_Tree y4.gone⟩, some ⟨true, 25, 3, y4.come.length, fl e_S_api_Tree y4.come⟩, some ⟨true, 69, 14, y4.out.length, fl e_S_api_Op y4.out⟩, none]) (E2 := (⟨25, [], []⟩ : Env)) (n3 := (n + 4)) (.inr rfl) hU rfl [] ?_ ?_
    · refine Fit2.trans (E' := (⟨25, [], []⟩ : Env)) (O' := (Loc ((((O.upd j0_0 none).upd j0_1 none).upd j0_2 none).upd i0 (some ⟨false, 110, 4, 1, [.row (n + 6) y4.out.length, .val (.int .i64 y4.kept), .row (n + 4) y4.gone.length, .row (n + 5) y4.come.length]⟩)) n [none, none, none, none, some ⟨true, 25, 3, y4.gone.length, fl e_S_api_Tree y4.gone⟩, some ⟨true, 25, 3, y4.come.length, fl e_S_api_Tree y4.come⟩, some ⟨true, 69, 14, y4.out.length, fl e_S_api_Op y4.out⟩])) (n' := (n + 7)) (Fit2.of (fit_loco hU rfl rfl ?_) (by omega)) ?_
      · simp only [push_cast, seval, ↓reduceIte, cast_lit, hi0, hk0, hN0, hN]
      refine ren_fito (k := 7) (k' := 4) hU [3, 3, 3, 3, 0, 1, 2] [4, 5, 6, 0] rfl rfl rfl rfl ⟨rfl, rfl⟩ ?_
      simp only [push_cast, seval, ↓reduceIte, cast_lit, hi0, hk0, hN0, hN]
    simp only [push_cast, seval, ↓reduceIte, cast_lit, Try.results86, hi0, hk0, hN0, hN]
  · replace h := condF c10 h
    refine W_skip ?_
    try simp only [gthen, gblock]
    refine W_drop [0, 5] [true, true, true, true] ?_
    simp only [push_cast, seval, ↓reduceIte]
    refine W_seqK ?_
    obtain ⟨y6, hy6, h⟩ := bC h
    refine W_regionD tab_ok [] ?_
    simp only [push_cast, seval, ↓reduceIte, cast_lit, hi0, hk0, hN0, hN]
    refine (ok_normal_writer_lay (i0 := i0) (j0_0 := n) (j0_1 := (n + 1)) (j0_2 := (n + 2)) (by omega) (by omega) (by omega) (by omega) (by omega) (by omega) (by omega) (by omega) (by omega) (by omega) (by simp only [push_cast, seval, ↓reduceIte, cast_lit, fl_nil, hi0, hk0, hN0, hN] <;> rfl) (by simp only [push_cast, seval, ↓reduceIte, cast_lit, fl_nil, hi0, hk0, hN0, hN] <;> rfl) (by simp only [push_cast, seval, ↓reduceIte, cast_lit, fl_nil, hi0, hk0, hN0, hN] <;> rfl) (by simp only [push_cast, seval, ↓reduceIte, cast_lit, fl_nil, hi0, hk0, hN0, hN] <;> rfl) hy6).then ?_
    simp only [push_cast, seval, ↓reduceIte, cast_lit, hi0, hk0, hN0, hN]
    refine W_drop [0, 5] [false, false, false, true, true, true, true] ?_
    simp only [push_cast, seval, ↓reduceIte]
    obtain ⟨l7, pl7, ql7, el7, h⟩ := bA (k := 1) rfl h
    obtain ⟨x8, hx8, ax8, bx8, cx8, h⟩ := bE (f := e_S_api_Op) tab69 (fun _ => rfl) (by decide) h
    have gu9 : gplace (fl e_S_api_Op y6.out ++ [.val (.int .i64 0), .val (.int .i64 0), .val (.slice none 0 0), .val (.int .i64 0), .val (.int .i64 0), .val (.slice none 0 0), .val (.slice none 0 0), .val (.int .i64 0), .val (.slice none 0 0), .val (.slice none 0 0), .val (.slice none 0 0), .val (.slice none 0 0), .val (.int .i64 0), .val (.slice none 0 0)]) [.val (.int .i64 3), .val (.int .i64 0), .val (.slice none 0 0), .val (.int .i64 a2.Kind), .val (.int .i64 a2.Old.Kind), .sl a2.Old.Words.length (fl (eI .u64) a2.Old.Words), .sl a2.Old.Kids.length (fl e_S_api_Tree a2.Old.Kids), .val (.int .i64 a2.New.Kind), .sl a2.New.Words.length (fl (eI .u64) a2.New.Words), .sl a2.New.Kids.length (fl e_S_api_Tree a2.New.Kids), .sl a2.Words.length (fl e_S_api_WordEdit a2.Words), .sl a2.Kids.length (fl e_S_api_KidEdit a2.Kids), .val (.int .i64 a2.List_), .sl a2.Ops.length (fl e_S_api_Op a2.Ops)] (List.length y6.out * 14) = some (fl e_S_api_Op y6.out ++ [.val (.int .i64 3), .val (.int .i64 0), .val (.slice none 0 0), .val (.int .i64 a2.Kind), .val (.int .i64 a2.Old.Kind), .sl a2.Old.Words.length (fl (eI .u64) a2.Old.Words), .sl a2.Old.Kids.length (fl e_S_api_Tree a2.Old.Kids), .val (.int .i64 a2.New.Kind), .sl a2.New.Words.length (fl (eI .u64) a2.New.Words), .sl a2.New.Kids.length (fl e_S_api_Tree a2.New.Kids), .sl a2.Words.length (fl e_S_api_WordEdit a2.Words), .sl a2.Kids.length (fl e_S_api_KidEdit a2.Kids), .val (.int .i64 a2.List_), .sl a2.Ops.length (fl e_S_api_Op a2.Ops)]) := gplace_last (f := e_S_api_Op) (sz := 14) (fun _ => rfl) rfl rfl
    refine W_drawY tab_ok (by kernel_rfl) [.low, .low, .low, .low, .low, .low, .low, .pass, .bar, .shp, .fill true, .shp, .shp, .fill false] (fun i => i < (n + 7)) [0, 1, 2, 3, 4, 5, 6, 7, 8, 9, 10, 11, 12, 13] [.low, .low, .low, .low, .low, .low, .low, .pass, .bar, .shp, .fill true, .shp, .shp, .fill false] [] (by kernel_rfl) rfl ?_
    simp only [push_cast, Nat.reduceAdd, Nat.reduceSub, Nat.reduceMul, Nat.reduceLeDiff, Nat.reduceLT, Nat.reduceEqDiff, ↓reduceIte, reduceCtorEq, Int.reduceBEq, Int.reduceBNe, Nat.reduceBEq, Int.reduceLE, Int.reduceLT, Int.reduceEq, Int.reduceNe, Int.reduceNeg, Nat.reduceDiv, Nat.reduceMod, Nat.reducePow, cast_lit, pl7, ql7, el7, ax8, bx8, cx8, gu9, hi0, hk0, hN0, hN]
    repeat (with_reducible refine And.intro (by first | omega | exact agree_loc rfl | exact agree_loc0 | exact agree_ne rfl rfl) ?_)
    have h := Option.some.inj h; subst h
    refine fin_locV (k := 3) (i := i0) (q1 := ⟨false, 110, 4, 1, [.row (n + 2) (y6.out ++ [(⟨3, 0, ([] : (List S_api_Tree)), a2⟩ : S_api_Op)]).length, .val (.int .i64 y6.kept), .row n y6.gone.length, .row (n + 1) y6.come.length]⟩) (L3 := [some ⟨true, 25, 3, y6.gone.length, fl e_S_api_Tree y6.gone⟩, some ⟨true, 25, 3, y6.come.length, fl e_S_api_Tree y6.come⟩, some ⟨true, 69, 14, (y6.out ++ [(⟨3, 0, ([] : (List S_api_Tree)), a2⟩ : S_api_Op)]).length, fl e_S_api_Op (y6.out ++ [(⟨3, 0, ([] : (List S_api_Tree)), a2⟩ : S_api_Op)])⟩, none]) (E2 := (⟨25, [], []⟩ : Env)) (n3 := (n + 4)) (.inl rfl) hU rfl [] ?_ ?_
    · refine Fit2.trans (E' := (⟨25, [], []⟩ : Env)) (O' := (Loc ((((O.upd j0_0 none).upd j0_1 none).upd j0_2 none).upd i0 (some ⟨false, 110, 4, 1, [.row (n + 6) (y6.out ++ [(⟨3, 0, ([] : (List S_api_Tree)), a2⟩ : S_api_Op)]).length, .val (.int .i64 y6.kept), .row (n + 4) y6.gone.length, .row (n + 5) y6.come.length]⟩)) n [none, none, none, none, some ⟨true, 25, 3, y6.gone.length, fl e_S_api_Tree y6.gone⟩, some ⟨true, 25, 3, y6.come.length, fl e_S_api_Tree y6.come⟩, some ⟨true, 69, 14, (y6.out ++ [(⟨3, 0, ([] : (List S_api_Tree)), a2⟩ : S_api_Op)]).length, fl e_S_api_Op (y6.out ++ [(⟨3, 0, ([] : (List S_api_Tree)), a2⟩ : S_api_Op)])⟩, none])) (n' := (n + 8)) (Fit2.of (fit_loco hU rfl rfl ?_) (by omega)) ?_
      · simp only [push_cast, Nat.reduceAdd, Nat.reduceSub, Nat.reduceMul, Nat.reduceLeDiff, Nat.reduceLT, Nat.reduceEqDiff, ↓reduceIte, reduceCtorEq, Int.reduceBEq, Int.reduceBNe, Nat.reduceBEq, Int.reduceLE, Int.reduceLT, Int.reduceEq, Int.reduceNe, Int.reduceNeg, Nat.reduceDiv, Nat.reduceMod, Nat.reducePow, cast_lit, pl7, ql7, el7, ax8, bx8, cx8, gu9, hi0, hk0, hN0, hN]
      refine ren_fito (k := 8) (k' := 4) hU [3, 3, 3, 3, 0, 1, 2, 3] [4, 5, 6, 0] rfl rfl rfl rfl ⟨rfl, rfl⟩ ?_
      simp only [push_cast, seval, ↓reduceIte, cast_lit, hi0, hk0, hN0, hN]
    simp only [push_cast, seval, ↓reduceIte, cast_lit, Try.results86, hi0, hk0, hN0, hN]
theorem okb_normal_Edit {r_normal_Edit : (S_api_Edit → Option S_api_Edit)} {r_normal_Ops : (Int → (List S_api_Op) → Option (List S_api_Op))} (ok_r_normal_Edit : ∀ {a0 : S_api_Edit} {r : S_api_Edit} {O : Objs} {n : Nat}, r_normal_Edit a0 = some r → GTo Try.prog 18 [.agg (c_S_api_Edit a0)] O n (.agg (c_S_api_Edit r)) O n) (ok_r_normal_Ops : ∀ {a0 : Int} {a1 : (List S_api_Op)} {r : (List S_api_Op)} {O : Objs} {n : Nat}, r_normal_Ops a0 a1 = some r → GTo Try.prog 51 [.val (.int .i64 a0), .sl a1.length (fl e_S_api_Op a1)] O n (.sl r.length (fl e_S_api_Op r)) O n) {a0 : S_api_Edit} {r : S_api_Edit} {O : Objs} {n : Nat} (h : b_normal_Edit r_normal_Edit r_normal_Ops a0 = some r) : GTo Try.prog 18 [.agg (c_S_api_Edit a0)] O n (.agg (c_S_api_Edit r)) O n := by
  unfold b_normal_Edit at h
  refine fn_of tab_ok Try.call18 Try.func18 rfl (Nat.le_of_ble_eq_true rfl) (Nat.le_refl _) fun hU => ?_
  have hN0 : O n = none := hU.fresh _ (Nat.le_refl _)
  have hN : ∀ k, O (n + k) = none := fun k => hU.fresh _ (Nat.le_add_right _ _)
  show W _ _ _ _ ⟨54, [], [(0, .agg (c_S_api_Edit a0))]⟩ (Loc O n []) _
  refine W_sq [1, 2] (W_regionD tab_ok [] ?_)
  simp only [push_cast, seval, ↓reduceIte, cast_lit, hN0, hN]
  refine W_seqK ?_
  refine W_sq [1, 2, 7] (W_regionD tab_ok [] ?_)
  simp only [push_cast, seval, ↓reduceIte, cast_lit, hN0, hN]
  refine W_block ?_
  refine W_sq [1, 2, 7, 8] (W_regionD tab_ok [] ?_)
  simp only [push_cast, seval, ↓reduceIte, cast_lit, hN0, hN]
  refine W_cond (t := (a0.Kind == 1)) rfl (fun c17 => ?_) (fun c17 => ?_)
  · replace h := condT c17 h
    refine W_seqK ?_
    obtain ⟨y3, hy3, h⟩ := bC h
    obtain ⟨y4, hy4, h⟩ := bC h
    refine W_drawF tab_ok (by kernel_rfl) [false, false, false, false, false, false, false, true] [] (by kernel_rfl) ?_
    simp only [push_cast, seval, ↓reduceIte, cast_lit, hN0, hN]
    refine PCall.of (ok_tree_Norm hy3) ?_
    simp only [push_cast, seval, ↓reduceIte, cast_lit, hN0, hN]
    refine PCall.of (ok_tree_Norm hy4) ?_
    simp only [push_cast, seval, ↓reduceIte, cast_lit, hN0, hN]
    refine W_drop [2] [false, true] ?_
    simp only [push_cast, seval, ↓reduceIte]
    refine W_ret ?_
    try simp only [gthen, gblock]
    have h := Option.some.inj h; subst h
    refine fin_loc (.inr rfl) hU [.agg [.val (.int .i64 1), .val (.int .i64 y3.Kind), .sl y3.Words.length (fl (eI .u64) y3.Words), .sl y3.Kids.length (fl e_S_api_Tree y3.Kids), .val (.int .i64 y4.Kind), .sl y4.Words.length (fl (eI .u64) y4.Words), .sl y4.Kids.length (fl e_S_api_Tree y4.Kids), .val (.slice none 0 0), .val (.slice none 0 0), .val (.int .i64 0), .val (.slice none 0 0)]] (by omega) ?_
    simp only [push_cast, seval, ↓reduceIte, cast_lit, Try.results18, hN0, hN]
  · replace h := condF c17 h
    refine W_sq [1, 2, 7, 17] (W_regionD tab_ok [] ?_)
    simp only [push_cast, seval, ↓reduceIte, cast_lit, hN0, hN]
    refine W_cond (t := (a0.Kind == 2)) rfl (fun c16 => ?_) (fun c16 => ?_)
    · replace h := condT c16 h
      refine W_seqK ?_
      obtain ⟨y6, hy6, h⟩ := bC h
      refine W_regionD tab_ok [] ?_
      simp only [push_cast, seval, ↓reduceIte, cast_lit, hN0, hN]
      refine (ok_slices_Clone_api_WordEdit_api_WordEdit  hy6).then ?_
      simp only [push_cast, seval, ↓reduceIte, cast_lit, hN0, hN]
      refine W_drop [1, 2, 3] [true, true, true, true] ?_
      simp only [push_cast, seval, ↓reduceIte]
      refine W_seqK ?_
      refine W_sq [2, 3, 24, 25, 26] (W_regionD tab_ok [] ?_)
      simp only [push_cast, seval, ↓reduceIte, cast_lit, hN0, hN]
      refine W_drop [2, 3, 24, 25, 26] [false, true, true, true] ?_
      simp only [push_cast, seval, ↓reduceIte]
      refine W_fit2 (E' := (⟨54, [], [(2, .ref (n + 1) 0), (3, .ref (n + 3) 0), (24, .sl a0.Kids.length (fl e_S_api_KidEdit a0.Kids)), (25, .val (.int .i64 (a0.Kids.length : Int))), (26, .val (.int .i64 0))]⟩ : Env)) (O' := (Loc O n [none, some ⟨false, 30, 11, 1, [.val (.int .i64 0), .val (.int .i64 0), .val (.slice none 0 0), .val (.slice none 0 0), .val (.int .i64 0), .val (.slice none 0 0), .val (.slice none 0 0), .val (.slice none 0 0), .val (.slice none 0 0), .val (.int .i64 0), .val (.slice none 0 0)]⟩, some ⟨true, 58, 4, y6.length, fl e_S_api_WordEdit y6⟩, some ⟨false, 30, 11, 1, [.val (.int .i64 2), .val (.int .i64 0), .val (.slice none 0 0), .val (.slice none 0 0), .val (.int .i64 0), .val (.slice none 0 0), .val (.slice none 0 0), .row (n + 2) y6.length, .row (n + 4) ([] : List S_api_KidEdit).length, .val (.int .i64 0), .val (.slice none 0 0)]⟩, some ⟨true, 71, 12, ([] : List S_api_KidEdit).length, fl e_S_api_KidEdit ([] : List S_api_KidEdit)⟩, none])) (n' := (n + 6)) ?_ ?_
      · refine Fit2.trans (E' := (⟨54, [], [(2, .ref (n + 1) 0), (3, .ref (n + 3) 0), (24, .sl a0.Kids.length (fl e_S_api_KidEdit a0.Kids)), (25, .val (.int .i64 (a0.Kids.length : Int))), (26, .val (.int .i64 0))]⟩ : Env)) (O' := (Loc O n [none, some ⟨false, 30, 11, 1, [.val (.int .i64 0), .val (.int .i64 0), .val (.slice none 0 0), .val (.slice none 0 0), .val (.int .i64 0), .val (.slice none 0 0), .val (.slice none 0 0), .val (.slice none 0 0), .val (.slice none 0 0), .val (.int .i64 0), .val (.slice none 0 0)]⟩, some ⟨true, 58, 4, y6.length, fl e_S_api_WordEdit y6⟩, some ⟨false, 30, 11, 1, [.val (.int .i64 2), .val (.int .i64 0), .val (.slice none 0 0), .val (.slice none 0 0), .val (.int .i64 0), .val (.slice none 0 0), .val (.slice none 0 0), .row (n + 2) y6.length, .val (.slice none 0 0), .val (.int .i64 0), .val (.slice none 0 0)]⟩])) (n' := (n + 4)) (Fit2.of (fit_loc hU rfl rfl ?_) (by omega)) ?_
        · simp only [push_cast, seval, ↓reduceIte, cast_lit, hN0, hN]
        refine Fit2.trans (E' := (⟨54, [], [(2, .ref (n + 1) 0), (3, .ref (n + 3) 0), (24, .sl a0.Kids.length (fl e_S_api_KidEdit a0.Kids)), (25, .val (.int .i64 (a0.Kids.length : Int))), (26, .val (.int .i64 0))]⟩ : Env)) (O' := (Loc O n [none, some ⟨false, 30, 11, 1, [.val (.int .i64 0), .val (.int .i64 0), .val (.slice none 0 0), .val (.slice none 0 0), .val (.int .i64 0), .val (.slice none 0 0), .val (.slice none 0 0), .val (.slice none 0 0), .val (.slice none 0 0), .val (.int .i64 0), .val (.slice none 0 0)]⟩, some ⟨true, 58, 4, y6.length, fl e_S_api_WordEdit y6⟩, some ⟨false, 30, 11, 1, [.val (.int .i64 2), .val (.int .i64 0), .val (.slice none 0 0), .val (.slice none 0 0), .val (.int .i64 0), .val (.slice none 0 0), .val (.slice none 0 0), .row (n + 2) y6.length, .row (n + 4) 0, .val (.int .i64 0), .val (.slice none 0 0)]⟩, some ⟨true, 71, 12, 0, []⟩])) (n' := (n + 5)) ?_ ?_
        · have ha := adoptF_fit (ba := n) (E := (⟨54, [], [(2, .ref (n + 1) 0), (3, .ref (n + 3) 0), (24, .sl a0.Kids.length (fl e_S_api_KidEdit a0.Kids)), (25, .val (.int .i64 (a0.Kids.length : Int))), (26, .val (.int .i64 0))]⟩ : Env)) (O := (Loc O n [none, some ⟨false, 30, 11, 1, [.val (.int .i64 0), .val (.int .i64 0), .val (.slice none 0 0), .val (.slice none 0 0), .val (.int .i64 0), .val (.slice none 0 0), .val (.slice none 0 0), .val (.slice none 0 0), .val (.slice none 0 0), .val (.int .i64 0), .val (.slice none 0 0)]⟩, some ⟨true, 58, 4, y6.length, fl e_S_api_WordEdit y6⟩, some ⟨false, 30, 11, 1, [.val (.int .i64 2), .val (.int .i64 0), .val (.slice none 0 0), .val (.slice none 0 0), .val (.int .i64 0), .val (.slice none 0 0), .val (.slice none 0 0), .row (n + 2) y6.length, .val (.slice none 0 0), .val (.int .i64 0), .val (.slice none 0 0)]⟩])) (n := (n + 4)) (p := (n + 3)) (k := 8) (q := ⟨false, 30, 11, 1, [.val (.int .i64 2), .val (.int .i64 0), .val (.slice none 0 0), .val (.slice none 0 0), .val (.int .i64 0), .val (.slice none 0 0), .val (.slice none 0 0), .row (n + 2) y6.length, .val (.slice none 0 0), .val (.int .i64 0), .val (.slice none 0 0)]⟩) 71 12 (by simp only [Loc_at, Loc_at0, List.getElem?_cons_zero, List.getElem?_cons_succ, Option.join_some, upd_same]) rfl (by omega)
          simp only [Loc_push, Loc_push0, Loc_upd, Loc_upd0, List.set_cons_zero, List.set_cons_succ, List.cons_append, List.nil_append, List.length_cons, List.length_nil, Nat.zero_add, Nat.reduceAdd, Nat.reduceLT, Nat.add_assoc] at ha
          exact ha
        refine Fit2.trans (E' := (⟨54, [], [(2, .ref (n + 1) 0), (3, .ref (n + 3) 0), (24, .sl a0.Kids.length (fl e_S_api_KidEdit a0.Kids)), (25, .val (.int .i64 (a0.Kids.length : Int))), (26, .val (.int .i64 0))]⟩ : Env)) (O' := (Loc O n [none, some ⟨false, 30, 11, 1, [.val (.int .i64 0), .val (.int .i64 0), .val (.slice none 0 0), .val (.slice none 0 0), .val (.int .i64 0), .val (.slice none 0 0), .val (.slice none 0 0), .val (.slice none 0 0), .val (.slice none 0 0), .val (.int .i64 0), .val (.slice none 0 0)]⟩, some ⟨true, 58, 4, y6.length, fl e_S_api_WordEdit y6⟩, some ⟨false, 30, 11, 1, [.val (.int .i64 2), .val (.int .i64 0), .val (.slice none 0 0), .val (.slice none 0 0), .val (.int .i64 0), .val (.slice none 0 0), .val (.slice none 0 0), .row (n + 2) y6.length, .row (n + 4) ([] : List S_api_KidEdit).length, .val (.int .i64 0), .val (.slice none 0 0)]⟩, some ⟨true, 71, 12, ([] : List S_api_KidEdit).length, fl e_S_api_KidEdit ([] : List S_api_KidEdit)⟩])) (n' := (n + 5)) (Fit2.of (fit_loc hU rfl rfl ?_) (by omega)) ?_
        · simp only [push_cast, seval, ↓reduceIte, cast_lit, hN0, hN]
        refine ren_fit (k := 5) (k' := 6) hU [5, 1, 2, 3, 4] [0, 1, 2, 3, 4, 0] rfl rfl rfl rfl ⟨rfl, rfl⟩ ?_
        simp only [push_cast, seval, ↓reduceIte, cast_lit, hN0, hN]
      obtain ⟨z12, hz12, h⟩ := bC h
      refine W_blockX (E' := ⟨54, [], [(2, .ref (n + 1) 0), (3, .ref (n + 3) 0)]⟩) (O' := (Loc O n [none, some ⟨false, 30, 11, 1, [.val (.int .i64 0), .val (.int .i64 0), .val (.slice none 0 0), .val (.slice none 0 0), .val (.int .i64 0), .val (.slice none 0 0), .val (.slice none 0 0), .val (.slice none 0 0), .val (.slice none 0 0), .val (.int .i64 0), .val (.slice none 0 0)]⟩, some ⟨true, 58, 4, y6.length, fl e_S_api_WordEdit y6⟩, some ⟨false, 30, 11, 1, [.val (.int .i64 2), .val (.int .i64 0), .val (.slice none 0 0), .val (.slice none 0 0), .val (.int .i64 0), .val (.slice none 0 0), .val (.slice none 0 0), .row (n + 2) y6.length, .row (n + 4) z12.length, .val (.int .i64 0), .val (.slice none 0 0)]⟩, some ⟨true, 71, 12, z12.length, fl e_S_api_KidEdit z12⟩, none])) (n0 := (n + 6)) ?_ ?_
      · refine W_loopJ hz12 (fun s0_ => ⟨54, [], [(2, .ref (n + 1) 0), (3, .ref (n + 3) 0), (24, .sl a0.Kids.length (fl e_S_api_KidEdit a0.Kids)), (25, .val (.int .i64 (a0.Kids.length : Int))), (26, .val (.int .i64 s0_.1))]⟩) (fun s0_ => (Loc O n [none, some ⟨false, 30, 11, 1, [.val (.int .i64 0), .val (.int .i64 0), .val (.slice none 0 0), .val (.slice none 0 0), .val (.int .i64 0), .val (.slice none 0 0), .val (.slice none 0 0), .val (.slice none 0 0), .val (.slice none 0 0), .val (.int .i64 0), .val (.slice none 0 0)]⟩, some ⟨true, 58, 4, y6.length, fl e_S_api_WordEdit y6⟩, some ⟨false, 30, 11, 1, [.val (.int .i64 2), .val (.int .i64 0), .val (.slice none 0 0), .val (.slice none 0 0), .val (.int .i64 0), .val (.slice none 0 0), .val (.slice none 0 0), .row (n + 2) y6.length, .row (n + 4) s0_.2.length, .val (.int .i64 0), .val (.slice none 0 0)]⟩, some ⟨true, 71, 12, s0_.2.length, fl e_S_api_KidEdit s0_.2⟩, none])) (fun z12 => JX 1 n (⟨54, [], [(2, .ref (n + 1) 0), (3, .ref (n + 3) 0)]⟩ : Env) (Loc O n [none, some ⟨false, 30, 11, 1, [.val (.int .i64 0), .val (.int .i64 0), .val (.slice none 0 0), .val (.slice none 0 0), .val (.int .i64 0), .val (.slice none 0 0), .val (.slice none 0 0), .val (.slice none 0 0), .val (.slice none 0 0), .val (.int .i64 0), .val (.slice none 0 0)]⟩, some ⟨true, 58, 4, y6.length, fl e_S_api_WordEdit y6⟩, some ⟨false, 30, 11, 1, [.val (.int .i64 2), .val (.int .i64 0), .val (.slice none 0 0), .val (.slice none 0 0), .val (.int .i64 0), .val (.slice none 0 0), .val (.slice none 0 0), .row (n + 2) y6.length, .row (n + 4) z12.length, .val (.int .i64 0), .val (.slice none 0 0)]⟩, some ⟨true, 71, 12, z12.length, fl e_S_api_KidEdit z12⟩, none]) (n + 6)) ?_
        intro s0_ x0_ hs0_
        unfold b_normal_Edit_L0 at hs0_
        try dsimp only
        refine W_sq [2, 3, 24, 25, 26, 27] (W_regionD tab_ok [] ?_)
        simp only [push_cast, seval, ↓reduceIte, cast_lit, hN0, hN]
        refine W_seqK ?_
        refine W_cond (t := (decide (s0_.1 < (a0.Kids.length : Int)))) rfl (fun c11 => ?_) (fun c11 => ?_)
        · replace hs0_ := condT c11 hs0_
          refine W_skip ?_
          try simp only [gthen, gblock]
          refine W_drop [2, 3, 24, 25, 26] [false, true, true, true, true, false] ?_
          simp only [push_cast, seval, ↓reduceIte]
          refine W_seqK ?_
          refine W_block ?_
          refine W_seqK ?_
          obtain ⟨x8, hx8, ax8, bx8, cx8, hs0_⟩ := bE (f := e_S_api_KidEdit) tab71 (fun _ => rfl) (by decide) hs0_
          refine W_regionD tab_ok [] ?_
          simp only [push_cast, Nat.reduceAdd, Nat.reduceSub, Nat.reduceMul, Nat.reduceLeDiff, Nat.reduceLT, Nat.reduceEqDiff, ↓reduceIte, reduceCtorEq, Int.reduceBEq, Int.reduceBNe, Nat.reduceBEq, Int.reduceLE, Int.reduceLT, Int.reduceEq, Int.reduceNe, Int.reduceNeg, Nat.reduceDiv, Nat.reduceMod, Nat.reducePow, cast_lit, ax8, bx8, cx8, hN0, hN]
          refine W_drop [2, 3, 5, 24, 25, 26] [false, true, true, true, true, false, true] ?_
          simp only [push_cast, seval, ↓reduceIte]
          obtain ⟨y9, hy9, hs0_⟩ := bC hs0_
          obtain ⟨l10, pl10, ql10, el10, hs0_⟩ := bA (k := 1) rfl hs0_
          refine W_drawY tab_ok (by kernel_rfl) [.low, .low, .plain, .plain, .plain, .plain, .plain, .plain, .pass, .bar, .plain, .bar] (fun i => i < (n + 7)) [0, 1, 2, 3, 4, 5, 6, 7, 8, 9, 10, 11] [.low, .low, .plain, .plain, .plain, .plain, .plain, .plain, .pass, .bar, .plain, .bar] [] (by kernel_rfl) rfl ?_
          simp only [push_cast, seval, ↓reduceIte, cast_lit, pl10, ql10, el10, hN0, hN]
          repeat (with_reducible refine And.intro (by first | omega | exact agree_loc rfl | exact agree_loc0 | exact agree_ne rfl rfl) ?_)
          first | refine PCallA.of (fun _ _ => ok_r_normal_Edit hy9) ?_ | refine PCall.of (ok_r_normal_Edit hy9) ?_
          simp only [push_cast, seval, ↓reduceIte, cast_lit, pl10, ql10, el10, hN0, hN]
          repeat (with_reducible refine And.intro (by first | omega | exact agree_loc rfl | exact agree_loc0 | exact agree_ne rfl rfl) ?_)
          refine W_fit ⟨54, [], [(2, .ref (n + 1) 0), (3, .ref (n + 3) 0), (24, .sl a0.Kids.length (fl e_S_api_KidEdit a0.Kids)), (25, .val (.int .i64 (a0.Kids.length : Int))), (26, .val (.int .i64 s0_.1))]⟩ (Loc O n [none, some ⟨false, 30, 11, 1, [.val (.int .i64 0), .val (.int .i64 0), .val (.slice none 0 0), .val (.slice none 0 0), .val (.int .i64 0), .val (.slice none 0 0), .val (.slice none 0 0), .val (.slice none 0 0), .val (.slice none 0 0), .val (.int .i64 0), .val (.slice none 0 0)]⟩, some ⟨true, 58, 4, y6.length, fl e_S_api_WordEdit y6⟩, some ⟨false, 30, 11, 1, [.val (.int .i64 2), .val (.int .i64 0), .val (.slice none 0 0), .val (.slice none 0 0), .val (.int .i64 0), .val (.slice none 0 0), .val (.slice none 0 0), .row (n + 2) y6.length, .row (n + 4) l10.length, .val (.int .i64 0), .val (.slice none 0 0)]⟩, some ⟨true, 71, 12, l10.length, fl e_S_api_KidEdit l10⟩, none, none, none]) (fit_loc hU rfl rfl ?_) ?_
          · simp only [push_cast, seval, ↓reduceIte, cast_lit, pl10, ql10, el10, hN0, hN]
          refine W_regionD tab_ok [] ?_
          simp only [push_cast, seval, ↓reduceIte, cast_lit, hN0, hN]
          have hs0_ := Option.some.inj hs0_; subst hs0_
          refine And.intro rfl (Fit2.of (fit_loc hU rfl rfl ?_) (by omega))
          simp only [push_cast, seval, ↓reduceIte, cast_lit, hN0, hN]
        · replace hs0_ := condF c11 hs0_
          refine W_exit ?_
          try simp only [gthen, gblock, ↓reduceIte, Nat.reduceEqDiff]
          have hs0_ := Option.some.inj hs0_; subst hs0_
          refine And.intro (fun h => by cases h) (And.intro rfl (Fit2.of (fit_loc hU rfl rfl ?_) (by omega)))
          simp only [push_cast, seval, ↓reduceIte, cast_lit, hN0, hN]
      try simp only [gthen, gblock, ↓reduceIte, Nat.reduceEqDiff]
      refine W_drop [2, 3] [false, true, true, true, true, false] ?_
      simp only [push_cast, seval, ↓reduceIte]
      refine W_seqK ?_
      refine W_regionD tab_ok [] ?_
      simp only [push_cast, seval, ↓reduceIte, cast_lit, hN0, hN]
      refine W_drop [2] [false, true, true, false, true, false] ?_
      simp only [push_cast, seval, ↓reduceIte]
      refine W_ret ?_
      try simp only [gthen, gblock]
      have h := Option.some.inj h; subst h
      refine fin_loc (.inr rfl) hU [.agg [.val (.int .i64 2), .val (.int .i64 0), .val (.slice none 0 0), .val (.slice none 0 0), .val (.int .i64 0), .val (.slice none 0 0), .val (.slice none 0 0), .row (n + 2) y6.length, .row (n + 4) z12.length, .val (.int .i64 0), .val (.slice none 0 0)]] (by omega) ?_
      simp only [push_cast, seval, ↓reduceIte, cast_lit, Try.results18, hN0, hN]
    · replace h := condF c16 h
      refine W_sq [1, 2, 43] (W_regionD tab_ok [] ?_)
      simp only [push_cast, seval, ↓reduceIte, cast_lit, hN0, hN]
      refine W_cond (t := (a0.Kind == 3)) rfl (fun c15 => ?_) (fun c15 => ?_)
      · replace h := condT c15 h
        refine W_seqK ?_
        obtain ⟨y14, hy14, h⟩ := bC h
        refine W_drawF tab_ok (by kernel_rfl) [false, false, false, false, false, false, false, false, true] [] (by kernel_rfl) ?_
        simp only [push_cast, seval, ↓reduceIte, cast_lit, hN0, hN]
        refine PCall.of (ok_r_normal_Ops hy14) ?_
        simp only [push_cast, seval, ↓reduceIte, cast_lit, hN0, hN]
        refine W_drop [2] [false, true] ?_
        simp only [push_cast, seval, ↓reduceIte]
        refine W_ret ?_
        try simp only [gthen, gblock]
        have h := Option.some.inj h; subst h
        refine fin_loc (.inr rfl) hU [.agg [.val (.int .i64 3), .val (.int .i64 0), .val (.slice none 0 0), .val (.slice none 0 0), .val (.int .i64 0), .val (.slice none 0 0), .val (.slice none 0 0), .val (.slice none 0 0), .val (.slice none 0 0), .val (.int .i64 a0.List_), .sl y14.length (fl e_S_api_Op y14)]] (by omega) ?_
        simp only [push_cast, seval, ↓reduceIte, cast_lit, Try.results18, hN0, hN]
      · replace h := condF c15 h
        refine W_skip ?_
        try simp only [gthen, gblock]
        refine W_drop [2] [false, true] ?_
        simp only [push_cast, seval, ↓reduceIte]
        refine W_seqK ?_
        refine W_regionD tab_ok [] ?_
        simp only [push_cast, seval, ↓reduceIte, cast_lit, hN0, hN]
        refine W_drop [2] [false, true] ?_
        simp only [push_cast, seval, ↓reduceIte]
        refine W_ret ?_
        try simp only [gthen, gblock]
        have h := Option.some.inj h; subst h
        refine fin_loc (.inr rfl) hU [.agg [.val (.int .i64 0), .val (.int .i64 0), .val (.slice none 0 0), .val (.slice none 0 0), .val (.int .i64 0), .val (.slice none 0 0), .val (.slice none 0 0), .val (.slice none 0 0), .val (.slice none 0 0), .val (.int .i64 0), .val (.slice none 0 0)]] (by omega) ?_
        simp only [push_cast, seval, ↓reduceIte, cast_lit, Try.results18, hN0, hN]
theorem okb_normal_Ops {r_normal_Edit : (S_api_Edit → Option S_api_Edit)} {r_normal_Ops : (Int → (List S_api_Op) → Option (List S_api_Op))} (ok_r_normal_Edit : ∀ {a0 : S_api_Edit} {r : S_api_Edit} {O : Objs} {n : Nat}, r_normal_Edit a0 = some r → GTo Try.prog 18 [.agg (c_S_api_Edit a0)] O n (.agg (c_S_api_Edit r)) O n) (ok_r_normal_Ops : ∀ {a0 : Int} {a1 : (List S_api_Op)} {r : (List S_api_Op)} {O : Objs} {n : Nat}, r_normal_Ops a0 a1 = some r → GTo Try.prog 51 [.val (.int .i64 a0), .sl a1.length (fl e_S_api_Op a1)] O n (.sl r.length (fl e_S_api_Op r)) O n) {a0 : Int} {a1 : (List S_api_Op)} {r : (List S_api_Op)} {O : Objs} {n : Nat} (h : b_normal_Ops r_normal_Edit r_normal_Ops a0 a1 = some r) : GTo Try.prog 51 [.val (.int .i64 a0), .sl a1.length (fl e_S_api_Op a1)] O n (.sl r.length (fl e_S_api_Op r)) O n := by
  unfold b_normal_Ops at h
  refine fn_of tab_ok Try.call51 Try.func51 rfl (Nat.le_of_ble_eq_true rfl) (Nat.le_refl _) fun hU => ?_
  have hN0 : O n = none := hU.fresh _ (Nat.le_refl _)
  have hN : ∀ k, O (n + k) = none := fun k => hU.fresh _ (Nat.le_add_right _ _)
  show W _ _ _ _ ⟨44, [], [(0, .val (.int .i64 a0)), (1, .sl a1.length (fl e_S_api_Op a1))]⟩ (Loc O n []) _
  refine W_sq [0, 1] (W_regionD tab_ok [] ?_)
  simp only [push_cast, seval, ↓reduceIte, cast_lit, hN0, hN]
  refine W_sq [0, 1, 5] (W_regionD tab_ok [] ?_)
  simp only [push_cast, seval, ↓reduceIte, cast_lit, hN0, hN]
  refine W_seqK ?_
  refine W_sq [0, 5, 8, 9, 10] (W_regionD tab_ok [] ?_)
  simp only [push_cast, seval, ↓reduceIte, cast_lit, hN0, hN]
  refine W_drop [0, 5, 8, 9, 10] [true] ?_
  simp only [push_cast, seval, ↓reduceIte]
  refine W_fit2 (E' := (⟨44, [], [(0, .val (.int .i64 a0)), (5, .ref n 0), (8, .sl a1.length (fl e_S_api_Op a1)), (9, .val (.int .i64 (a1.length : Int))), (10, .val (.int .i64 0))]⟩ : Env)) (O' := (Loc O n [some ⟨false, 110, 4, 1, [.row (n + 1) ([] : List S_api_Op).length, .val (.int .i64 0), .row (n + 2) ([] : List S_api_Tree).length, .row (n + 3) ([] : List S_api_Tree).length]⟩, some ⟨true, 69, 14, ([] : List S_api_Op).length, fl e_S_api_Op ([] : List S_api_Op)⟩, some ⟨true, 25, 3, ([] : List S_api_Tree).length, fl e_S_api_Tree ([] : List S_api_Tree)⟩, some ⟨true, 25, 3, ([] : List S_api_Tree).length, fl e_S_api_Tree ([] : List S_api_Tree)⟩, none])) (n' := (n + 5)) ?_ ?_
  · refine Fit2.trans (E' := (⟨44, [], [(0, .val (.int .i64 a0)), (5, .ref n 0), (8, .sl a1.length (fl e_S_api_Op a1)), (9, .val (.int .i64 (a1.length : Int))), (10, .val (.int .i64 0))]⟩ : Env)) (O' := (Loc O n [some ⟨false, 110, 4, 1, [.val (.slice none 0 0), .val (.int .i64 0), .val (.slice none 0 0), .val (.slice none 0 0)]⟩])) (n' := (n + 1)) (Fit2.of (fit_loc hU rfl rfl ?_) (by omega)) ?_
    · simp only [push_cast, seval, ↓reduceIte, cast_lit, hN0, hN]
    refine Fit2.trans (E' := (⟨44, [], [(0, .val (.int .i64 a0)), (5, .ref n 0), (8, .sl a1.length (fl e_S_api_Op a1)), (9, .val (.int .i64 (a1.length : Int))), (10, .val (.int .i64 0))]⟩ : Env)) (O' := (Loc O n [some ⟨false, 110, 4, 1, [.row (n + 1) 0, .val (.int .i64 0), .val (.slice none 0 0), .val (.slice none 0 0)]⟩, some ⟨true, 69, 14, 0, []⟩])) (n' := (n + 2)) ?_ ?_
    · have ha := adoptF_fit (ba := n) (E := (⟨44, [], [(0, .val (.int .i64 a0)), (5, .ref n 0), (8, .sl a1.length (fl e_S_api_Op a1)), (9, .val (.int .i64 (a1.length : Int))), (10, .val (.int .i64 0))]⟩ : Env)) (O := (Loc O n [some ⟨false, 110, 4, 1, [.val (.slice none 0 0), .val (.int .i64 0), .val (.slice none 0 0), .val (.slice none 0 0)]⟩])) (n := (n + 1)) (p := n) (k := 0) (q := ⟨false, 110, 4, 1, [.val (.slice none 0 0), .val (.int .i64 0), .val (.slice none 0 0), .val (.slice none 0 0)]⟩) 69 14 (by simp only [Loc_at, Loc_at0, List.getElem?_cons_zero, List.getElem?_cons_succ, Option.join_some, upd_same]) rfl (by omega)
      simp only [Loc_push, Loc_push0, Loc_upd, Loc_upd0, List.set_cons_zero, List.set_cons_succ, List.cons_append, List.nil_append, List.length_cons, List.length_nil, Nat.zero_add, Nat.reduceAdd, Nat.reduceLT, Nat.add_assoc] at ha
      exact ha
    refine Fit2.trans (E' := (⟨44, [], [(0, .val (.int .i64 a0)), (5, .ref n 0), (8, .sl a1.length (fl e_S_api_Op a1)), (9, .val (.int .i64 (a1.length : Int))), (10, .val (.int .i64 0))]⟩ : Env)) (O' := (Loc O n [some ⟨false, 110, 4, 1, [.row (n + 1) ([] : List S_api_Op).length, .val (.int .i64 0), .val (.slice none 0 0), .val (.slice none 0 0)]⟩, some ⟨true, 69, 14, ([] : List S_api_Op).length, fl e_S_api_Op ([] : List S_api_Op)⟩])) (n' := (n + 2)) (Fit2.of (fit_loc hU rfl rfl ?_) (by omega)) ?_
    · simp only [push_cast, seval, ↓reduceIte, cast_lit, hN0, hN]
    refine Fit2.trans (E' := (⟨44, [], [(0, .val (.int .i64 a0)), (5, .ref n 0), (8, .sl a1.length (fl e_S_api_Op a1)), (9, .val (.int .i64 (a1.length : Int))), (10, .val (.int .i64 0))]⟩ : Env)) (O' := (Loc O n [some ⟨false, 110, 4, 1, [.row (n + 1) ([] : List S_api_Op).length, .val (.int .i64 0), .row (n + 2) 0, .val (.slice none 0 0)]⟩, some ⟨true, 69, 14, ([] : List S_api_Op).length, fl e_S_api_Op ([] : List S_api_Op)⟩, some ⟨true, 25, 3, 0, []⟩])) (n' := (n + 3)) ?_ ?_
    · have ha := adoptF_fit (ba := n) (E := (⟨44, [], [(0, .val (.int .i64 a0)), (5, .ref n 0), (8, .sl a1.length (fl e_S_api_Op a1)), (9, .val (.int .i64 (a1.length : Int))), (10, .val (.int .i64 0))]⟩ : Env)) (O := (Loc O n [some ⟨false, 110, 4, 1, [.row (n + 1) ([] : List S_api_Op).length, .val (.int .i64 0), .val (.slice none 0 0), .val (.slice none 0 0)]⟩, some ⟨true, 69, 14, ([] : List S_api_Op).length, fl e_S_api_Op ([] : List S_api_Op)⟩])) (n := (n + 2)) (p := n) (k := 2) (q := ⟨false, 110, 4, 1, [.row (n + 1) ([] : List S_api_Op).length, .val (.int .i64 0), .val (.slice none 0 0), .val (.slice none 0 0)]⟩) 25 3 (by simp only [Loc_at, Loc_at0, List.getElem?_cons_zero, List.getElem?_cons_succ, Option.join_some, upd_same]) rfl (by omega)
      simp only [Loc_push, Loc_push0, Loc_upd, Loc_upd0, List.set_cons_zero, List.set_cons_succ, List.cons_append, List.nil_append, List.length_cons, List.length_nil, Nat.zero_add, Nat.reduceAdd, Nat.reduceLT, Nat.add_assoc] at ha
      exact ha
    refine Fit2.trans (E' := (⟨44, [], [(0, .val (.int .i64 a0)), (5, .ref n 0), (8, .sl a1.length (fl e_S_api_Op a1)), (9, .val (.int .i64 (a1.length : Int))), (10, .val (.int .i64 0))]⟩ : Env)) (O' := (Loc O n [some ⟨false, 110, 4, 1, [.row (n + 1) ([] : List S_api_Op).length, .val (.int .i64 0), .row (n + 2) ([] : List S_api_Tree).length, .val (.slice none 0 0)]⟩, some ⟨true, 69, 14, ([] : List S_api_Op).length, fl e_S_api_Op ([] : List S_api_Op)⟩, some ⟨true, 25, 3, ([] : List S_api_Tree).length, fl e_S_api_Tree ([] : List S_api_Tree)⟩])) (n' := (n + 3)) (Fit2.of (fit_loc hU rfl rfl ?_) (by omega)) ?_
    · simp only [push_cast, seval, ↓reduceIte, cast_lit, hN0, hN]
    refine Fit2.trans (E' := (⟨44, [], [(0, .val (.int .i64 a0)), (5, .ref n 0), (8, .sl a1.length (fl e_S_api_Op a1)), (9, .val (.int .i64 (a1.length : Int))), (10, .val (.int .i64 0))]⟩ : Env)) (O' := (Loc O n [some ⟨false, 110, 4, 1, [.row (n + 1) ([] : List S_api_Op).length, .val (.int .i64 0), .row (n + 2) ([] : List S_api_Tree).length, .row (n + 3) 0]⟩, some ⟨true, 69, 14, ([] : List S_api_Op).length, fl e_S_api_Op ([] : List S_api_Op)⟩, some ⟨true, 25, 3, 0, []⟩, some ⟨true, 25, 3, 0, []⟩])) (n' := (n + 4)) ?_ ?_
    · have ha := adoptF_fit (ba := n) (E := (⟨44, [], [(0, .val (.int .i64 a0)), (5, .ref n 0), (8, .sl a1.length (fl e_S_api_Op a1)), (9, .val (.int .i64 (a1.length : Int))), (10, .val (.int .i64 0))]⟩ : Env)) (O := (Loc O n [some ⟨false, 110, 4, 1, [.row (n + 1) ([] : List S_api_Op).length, .val (.int .i64 0), .row (n + 2) ([] : List S_api_Tree).length, .val (.slice none 0 0)]⟩, some ⟨true, 69, 14, ([] : List S_api_Op).length, fl e_S_api_Op ([] : List S_api_Op)⟩, some ⟨true, 25, 3, ([] : List S_api_Tree).length, fl e_S_api_Tree ([] : List S_api_Tree)⟩])) (n := (n + 3)) (p := n) (k := 3) (q := ⟨false, 110, 4, 1, [.row (n + 1) ([] : List S_api_Op).length, .val (.int .i64 0), .row (n + 2) ([] : List S_api_Tree).length, .val (.slice none 0 0)]⟩) 25 3 (by simp only [Loc_at, Loc_at0, List.getElem?_cons_zero, List.getElem?_cons_succ, Option.join_some, upd_same]) rfl (by omega)
      simp only [Loc_push, Loc_push0, Loc_upd, Loc_upd0, List.set_cons_zero, List.set_cons_succ, List.cons_append, List.nil_append, List.length_cons, List.length_nil, Nat.zero_add, Nat.reduceAdd, Nat.reduceLT, Nat.add_assoc] at ha
      exact ha
    refine Fit2.trans (E' := (⟨44, [], [(0, .val (.int .i64 a0)), (5, .ref n 0), (8, .sl a1.length (fl e_S_api_Op a1)), (9, .val (.int .i64 (a1.length : Int))), (10, .val (.int .i64 0))]⟩ : Env)) (O' := (Loc O n [some ⟨false, 110, 4, 1, [.row (n + 1) ([] : List S_api_Op).length, .val (.int .i64 0), .row (n + 2) ([] : List S_api_Tree).length, .row (n + 3) ([] : List S_api_Tree).length]⟩, some ⟨true, 69, 14, ([] : List S_api_Op).length, fl e_S_api_Op ([] : List S_api_Op)⟩, some ⟨true, 25, 3, ([] : List S_api_Tree).length, fl e_S_api_Tree ([] : List S_api_Tree)⟩, some ⟨true, 25, 3, ([] : List S_api_Tree).length, fl e_S_api_Tree ([] : List S_api_Tree)⟩])) (n' := (n + 4)) (Fit2.of (fit_loc hU rfl rfl ?_) (by omega)) ?_
    · simp only [push_cast, seval, ↓reduceIte, cast_lit, hN0, hN]
    refine ren_fit (k := 4) (k' := 5) hU [0, 1, 2, 3] [0, 1, 2, 3, 0] rfl rfl rfl rfl ⟨rfl, rfl⟩ ?_
    simp only [push_cast, seval, ↓reduceIte, cast_lit, hN0, hN]
  obtain ⟨z14, hz14, h⟩ := bC h
  refine W_blockX (E' := ⟨44, [], [(5, .ref n 0)]⟩) (O' := (Loc O n [some ⟨false, 110, 4, 1, [.row (n + 1) z14.2.1.length, .val (.int .i64 z14.1), .row (n + 2) z14.2.2.1.length, .row (n + 3) z14.2.2.2.length]⟩, some ⟨true, 69, 14, z14.2.1.length, fl e_S_api_Op z14.2.1⟩, some ⟨true, 25, 3, z14.2.2.1.length, fl e_S_api_Tree z14.2.2.1⟩, some ⟨true, 25, 3, z14.2.2.2.length, fl e_S_api_Tree z14.2.2.2⟩, none])) (n0 := (n + 5)) ?_ ?_
  · refine W_loopJ hz14 (fun s0_ => ⟨44, [], [(0, .val (.int .i64 a0)), (5, .ref n 0), (8, .sl a1.length (fl e_S_api_Op a1)), (9, .val (.int .i64 (a1.length : Int))), (10, .val (.int .i64 s0_.1))]⟩) (fun s0_ => (Loc O n [some ⟨false, 110, 4, 1, [.row (n + 1) s0_.2.2.1.length, .val (.int .i64 s0_.2.1), .row (n + 2) s0_.2.2.2.1.length, .row (n + 3) s0_.2.2.2.2.length]⟩, some ⟨true, 69, 14, s0_.2.2.1.length, fl e_S_api_Op s0_.2.2.1⟩, some ⟨true, 25, 3, s0_.2.2.2.1.length, fl e_S_api_Tree s0_.2.2.2.1⟩, some ⟨true, 25, 3, s0_.2.2.2.2.length, fl e_S_api_Tree s0_.2.2.2.2⟩, none])) (fun z14 => JX 0 n (⟨44, [], [(5, .ref n 0)]⟩ : Env) (Loc O n [some ⟨false, 110, 4, 1, [.row (n + 1) z14.2.1.length, .val (.int .i64 z14.1), .row (n + 2) z14.2.2.1.length, .row (n + 3) z14.2.2.2.length]⟩, some ⟨true, 69, 14, z14.2.1.length, fl e_S_api_Op z14.2.1⟩, some ⟨true, 25, 3, z14.2.2.1.length, fl e_S_api_Tree z14.2.2.1⟩, some ⟨true, 25, 3, z14.2.2.2.length, fl e_S_api_Tree z14.2.2.2⟩, none]) (n + 5)) ?_
    intro s0_ x0_ hs0_
    unfold b_normal_Ops_L0 at hs0_
    try dsimp only
    refine W_sq [0, 5, 8, 9, 10, 11] (W_regionD tab_ok [] ?_)
    simp only [push_cast, seval, ↓reduceIte, cast_lit, hN0, hN]
    refine W_seqK ?_
    refine W_cond (t := (decide (s0_.1 < (a1.length : Int)))) rfl (fun c13 => ?_) (fun c13 => ?_)
    · replace hs0_ := condT c13 hs0_
      refine W_skip ?_
      try simp only [gthen, gblock]
      refine W_drop [0, 5, 8, 9, 10] [true, true, true, true, false] ?_
      simp only [push_cast, seval, ↓reduceIte]
      obtain ⟨z1, hz1, hs0_⟩ := bC hs0_
      refine W_seqN (E' := ⟨44, [], [(0, .val (.int .i64 a0)), (5, .ref n 0), (8, .sl a1.length (fl e_S_api_Op a1)), (9, .val (.int .i64 (a1.length : Int))), (10, .val (.int .i64 s0_.1))]⟩) (O' := (Loc O n [some ⟨false, 110, 4, 1, [.row (n + 9) z1.2.1.length, .val (.int .i64 z1.1), .row (n + 10) z1.2.2.1.length, .row (n + 11) z1.2.2.2.length]⟩, none, none, none, none, none, none, none, none, some ⟨true, 69, 14, z1.2.1.length, fl e_S_api_Op z1.2.1⟩, some ⟨true, 25, 3, z1.2.2.1.length, fl e_S_api_Tree z1.2.2.1⟩, some ⟨true, 25, 3, z1.2.2.2.length, fl e_S_api_Tree z1.2.2.2⟩, none])) (n0 := (n + 13)) ?_ ?_
      · refine W_block ?_
        refine W_seqK ?_
        obtain ⟨x3, hx3, ax3, bx3, cx3, hz1⟩ := bE (f := e_S_api_Op) tab69 (fun _ => rfl) (by decide) hz1
        refine W_regionD tab_ok [] ?_
        simp only [push_cast, Nat.reduceAdd, Nat.reduceSub, Nat.reduceMul, Nat.reduceLeDiff, Nat.reduceLT, Nat.reduceEqDiff, ↓reduceIte, reduceCtorEq, Int.reduceBEq, Int.reduceBNe, Nat.reduceBEq, Int.reduceLE, Int.reduceLT, Int.reduceEq, Int.reduceNe, Int.reduceNeg, Nat.reduceDiv, Nat.reduceMod, Nat.reducePow, cast_lit, ax3, bx3, cx3, hN0, hN]
        refine W_drop [0, 5, 7, 8, 9, 10] [true, true, true, true, false, true] ?_
        simp only [push_cast, seval, ↓reduceIte]
        refine W_sq [0, 5, 7, 8, 9, 10, 15] (W_regionD tab_ok [] ?_)
        simp only [push_cast, seval, ↓reduceIte, cast_lit, hN0, hN]
        refine W_block ?_
        refine W_sq [0, 5, 7, 8, 9, 10, 15, 16] (W_regionD tab_ok [] ?_)
        simp only [push_cast, seval, ↓reduceIte, cast_lit, hN0, hN]
        refine W_cond (t := (x3.Kind == 0)) rfl (fun c12 => ?_) (fun c12 => ?_)
        · replace hz1 := condT c12 hz1
          obtain ⟨y4, hy4, hz1⟩ := bC hz1
          refine W_regionD tab_ok [] ?_
          simp only [push_cast, seval, ↓reduceIte, cast_lit, hN0, hN]
          refine (ok_normal_writer_keep (i0 := n) (j0_0 := (n + 2)) (j0_1 := (n + 3)) (j0_2 := (n + 1)) (by omega) (by omega) (by omega) (by omega) (by omega) (by omega) (by omega) (by omega) (by omega) (by omega) (by simp only [push_cast, seval, ↓reduceIte, cast_lit, fl_nil, hN0, hN] <;> rfl) (by simp only [push_cast, seval, ↓reduceIte, cast_lit, fl_nil, hN0, hN] <;> rfl) (by simp only [push_cast, seval, ↓reduceIte, cast_lit, fl_nil, hN0, hN] <;> rfl) (by simp only [push_cast, seval, ↓reduceIte, cast_lit, fl_nil, hN0, hN] <;> rfl) hy4).then ?_
          simp only [push_cast, seval, ↓reduceIte, cast_lit, hN0, hN]
          have hz1 := Option.some.inj hz1; subst hz1
          refine And.intro rfl ?_
          refine Fit2.trans (E' := (⟨44, [], [(0, .val (.int .i64 a0)), (5, .ref n 0), (8, .sl a1.length (fl e_S_api_Op a1)), (9, .val (.int .i64 (a1.length : Int))), (10, .val (.int .i64 s0_.1))]⟩ : Env)) (O' := (Loc O n [some ⟨false, 110, 4, 1, [.row (n + 8) y4.out.length, .val (.int .i64 y4.kept), .row (n + 6) y4.gone.length, .row (n + 7) y4.come.length]⟩, none, none, none, none, none, some ⟨true, 25, 3, y4.gone.length, fl e_S_api_Tree y4.gone⟩, some ⟨true, 25, 3, y4.come.length, fl e_S_api_Tree y4.come⟩, some ⟨true, 69, 14, y4.out.length, fl e_S_api_Op y4.out⟩])) (n' := (n + 9)) (Fit2.of (fit_loc hU rfl rfl ?_) (by omega)) ?_
          · simp only [push_cast, seval, ↓reduceIte, cast_lit, hN0, hN]
          refine ren_fit (k := 9) (k' := 13) hU [0, 12, 12, 12, 12, 12, 10, 11, 9] [0, 0, 0, 0, 0, 0, 0, 0, 0, 8, 6, 7, 0] rfl rfl rfl rfl ⟨rfl, rfl⟩ ?_
          simp only [push_cast, seval, ↓reduceIte, cast_lit, hN0, hN]
        · replace hz1 := condF c12 hz1
          refine W_sq [0, 5, 7, 8, 9, 10, 15, 21] (W_regionD tab_ok [] ?_)
          simp only [push_cast, seval, ↓reduceIte, cast_lit, hN0, hN]
          refine W_cond (t := (x3.Kind == 1)) rfl (fun c11 => ?_) (fun c11 => ?_)
          · replace hz1 := condT c11 hz1
            obtain ⟨y5, hy5, hz1⟩ := bC hz1
            refine W_regionD tab_ok [] ?_
            simp only [push_cast, seval, ↓reduceIte, cast_lit, hN0, hN]
            refine (ok_normal_writer_wait_w02 (i0 := n) (j0_0 := (n + 2)) (j0_1 := (n + 3)) (j0_2 := (n + 1)) (by omega) (by omega) (by omega) (by omega) (by omega) (by omega) (by omega) (by omega) (by omega) (by omega) (by simp only [push_cast, seval, ↓reduceIte, cast_lit, fl_nil, hN0, hN] <;> rfl) (by simp only [push_cast, seval, ↓reduceIte, cast_lit, fl_nil, hN0, hN] <;> rfl) (by simp only [push_cast, seval, ↓reduceIte, cast_lit, fl_nil, hN0, hN] <;> rfl) (by simp only [push_cast, seval, ↓reduceIte, cast_lit, fl_nil, hN0, hN] <;> rfl) hy5).then ?_
            simp only [push_cast, seval, ↓reduceIte, cast_lit, hN0, hN]
            have hz1 := Option.some.inj hz1; subst hz1
            refine And.intro rfl ?_
            refine Fit2.trans (E' := (⟨44, [], [(0, .val (.int .i64 a0)), (5, .ref n 0), (8, .sl a1.length (fl e_S_api_Op a1)), (9, .val (.int .i64 (a1.length : Int))), (10, .val (.int .i64 s0_.1))]⟩ : Env)) (O' := (Loc O n [some ⟨false, 110, 4, 1, [.row (n + 8) y5.out.length, .val (.int .i64 y5.kept), .row (n + 6) y5.gone.length, .row (n + 7) y5.come.length]⟩, none, none, none, none, none, some ⟨true, 25, 3, y5.gone.length, fl e_S_api_Tree y5.gone⟩, some ⟨true, 25, 3, y5.come.length, fl e_S_api_Tree y5.come⟩, some ⟨true, 69, 14, y5.out.length, fl e_S_api_Op y5.out⟩])) (n' := (n + 9)) (Fit2.of (fit_loc hU rfl rfl ?_) (by omega)) ?_
            · simp only [push_cast, seval, ↓reduceIte, cast_lit, hN0, hN]
            refine ren_fit (k := 9) (k' := 13) hU [0, 12, 12, 12, 12, 12, 10, 11, 9] [0, 0, 0, 0, 0, 0, 0, 0, 0, 8, 6, 7, 0] rfl rfl rfl rfl ⟨rfl, rfl⟩ ?_
            simp only [push_cast, seval, ↓reduceIte, cast_lit, hN0, hN]
          · replace hz1 := condF c11 hz1
            refine W_sq [0, 5, 7, 8, 9, 10, 15, 27] (W_regionD tab_ok [] ?_)
            simp only [push_cast, seval, ↓reduceIte, cast_lit, hN0, hN]
            refine W_cond (t := (x3.Kind == 2)) rfl (fun c10 => ?_) (fun c10 => ?_)
            · replace hz1 := condT c10 hz1
              obtain ⟨y6, hy6, hz1⟩ := bC hz1
              refine W_regionD tab_ok [] ?_
              simp only [push_cast, seval, ↓reduceIte, cast_lit, hN0, hN]
              refine (ok_normal_writer_wait_w03 (i0 := n) (j0_0 := (n + 2)) (j0_1 := (n + 3)) (j0_2 := (n + 1)) (by omega) (by omega) (by omega) (by omega) (by omega) (by omega) (by omega) (by omega) (by omega) (by omega) (by simp only [push_cast, seval, ↓reduceIte, cast_lit, fl_nil, hN0, hN] <;> rfl) (by simp only [push_cast, seval, ↓reduceIte, cast_lit, fl_nil, hN0, hN] <;> rfl) (by simp only [push_cast, seval, ↓reduceIte, cast_lit, fl_nil, hN0, hN] <;> rfl) (by simp only [push_cast, seval, ↓reduceIte, cast_lit, fl_nil, hN0, hN] <;> rfl) hy6).then ?_
              simp only [push_cast, seval, ↓reduceIte, cast_lit, hN0, hN]
              have hz1 := Option.some.inj hz1; subst hz1
              refine And.intro rfl ?_
              refine Fit2.trans (E' := (⟨44, [], [(0, .val (.int .i64 a0)), (5, .ref n 0), (8, .sl a1.length (fl e_S_api_Op a1)), (9, .val (.int .i64 (a1.length : Int))), (10, .val (.int .i64 s0_.1))]⟩ : Env)) (O' := (Loc O n [some ⟨false, 110, 4, 1, [.row (n + 8) y6.out.length, .val (.int .i64 y6.kept), .row (n + 6) y6.gone.length, .row (n + 7) y6.come.length]⟩, none, none, none, none, none, some ⟨true, 25, 3, y6.gone.length, fl e_S_api_Tree y6.gone⟩, some ⟨true, 25, 3, y6.come.length, fl e_S_api_Tree y6.come⟩, some ⟨true, 69, 14, y6.out.length, fl e_S_api_Op y6.out⟩])) (n' := (n + 9)) (Fit2.of (fit_loc hU rfl rfl ?_) (by omega)) ?_
              · simp only [push_cast, seval, ↓reduceIte, cast_lit, hN0, hN]
              refine ren_fit (k := 9) (k' := 13) hU [0, 12, 12, 12, 12, 12, 10, 11, 9] [0, 0, 0, 0, 0, 0, 0, 0, 0, 8, 6, 7, 0] rfl rfl rfl rfl ⟨rfl, rfl⟩ ?_
              simp only [push_cast, seval, ↓reduceIte, cast_lit, hN0, hN]
            · replace hz1 := condF c10 hz1
              refine W_sq [0, 5, 7, 8, 9, 10, 33] (W_regionD tab_ok [] ?_)
              simp only [push_cast, seval, ↓reduceIte, cast_lit, hN0, hN]
              refine W_cond (t := (x3.Kind == 3)) rfl (fun c9 => ?_) (fun c9 => ?_)
              · replace hz1 := condT c9 hz1
                obtain ⟨y7, hy7, hz1⟩ := bC hz1
                obtain ⟨y8, hy8, hz1⟩ := bC hz1
                refine W_regionD tab_ok [] ?_
                simp only [push_cast, seval, ↓reduceIte, cast_lit, hN0, hN]
                refine (ok_r_normal_Edit hy7).then ?_
                simp only [push_cast, seval, ↓reduceIte, cast_lit, hN0, hN]
                refine (ok_normal_writer_descend (i0 := n) (j0_0 := (n + 2)) (j0_1 := (n + 3)) (j0_2 := (n + 1)) (by omega) (by omega) (by omega) (by omega) (by omega) (by omega) (by omega) (by omega) (by omega) (by omega) (by simp only [push_cast, seval, ↓reduceIte, cast_lit, fl_nil, hN0, hN] <;> rfl) (by simp only [push_cast, seval, ↓reduceIte, cast_lit, fl_nil, hN0, hN] <;> rfl) (by simp only [push_cast, seval, ↓reduceIte, cast_lit, fl_nil, hN0, hN] <;> rfl) (by simp only [push_cast, seval, ↓reduceIte, cast_lit, fl_nil, hN0, hN] <;> rfl) hy8).then ?_
                simp only [push_cast, seval, ↓reduceIte, cast_lit, hN0, hN]
                have hz1 := Option.some.inj hz1; subst hz1
                refine And.intro rfl ?_
                refine Fit2.trans (E' := (⟨44, [], [(0, .val (.int .i64 a0)), (5, .ref n 0), (8, .sl a1.length (fl e_S_api_Op a1)), (9, .val (.int .i64 (a1.length : Int))), (10, .val (.int .i64 s0_.1))]⟩ : Env)) (O' := (Loc O n [some ⟨false, 110, 4, 1, [.row (n + 8) y8.out.length, .val (.int .i64 y8.kept), .row (n + 6) y8.gone.length, .row (n + 7) y8.come.length]⟩, none, none, none, none, none, some ⟨true, 25, 3, y8.gone.length, fl e_S_api_Tree y8.gone⟩, some ⟨true, 25, 3, y8.come.length, fl e_S_api_Tree y8.come⟩, some ⟨true, 69, 14, y8.out.length, fl e_S_api_Op y8.out⟩])) (n' := (n + 9)) (Fit2.of (fit_loc hU rfl rfl ?_) (by omega)) ?_
                · simp only [push_cast, seval, ↓reduceIte, cast_lit, hN0, hN]
                refine ren_fit (k := 9) (k' := 13) hU [0, 12, 12, 12, 12, 12, 10, 11, 9] [0, 0, 0, 0, 0, 0, 0, 0, 0, 8, 6, 7, 0] rfl rfl rfl rfl ⟨rfl, rfl⟩ ?_
                simp only [push_cast, seval, ↓reduceIte, cast_lit, hN0, hN]
              · replace hz1 := condF c9 hz1
                refine W_skip ?_
                try simp only [gthen, gblock]
                have hz1 := Option.some.inj hz1; subst hz1
                refine And.intro rfl ?_
                refine Fit2.trans (E' := (⟨44, [], [(0, .val (.int .i64 a0)), (5, .ref n 0), (8, .sl a1.length (fl e_S_api_Op a1)), (9, .val (.int .i64 (a1.length : Int))), (10, .val (.int .i64 s0_.1))]⟩ : Env)) (O' := (Loc O n [some ⟨false, 110, 4, 1, [.row (n + 1) s0_.2.2.1.length, .val (.int .i64 s0_.2.1), .row (n + 2) s0_.2.2.2.1.length, .row (n + 3) s0_.2.2.2.2.length]⟩, some ⟨true, 69, 14, s0_.2.2.1.length, fl e_S_api_Op s0_.2.2.1⟩, some ⟨true, 25, 3, s0_.2.2.2.1.length, fl e_S_api_Tree s0_.2.2.2.1⟩, some ⟨true, 25, 3, s0_.2.2.2.2.length, fl e_S_api_Tree s0_.2.2.2.2⟩, none, none])) (n' := (n + 6)) (Fit2.of (fit_loc hU rfl rfl ?_) (by omega)) ?_
                · simp only [push_cast, seval, ↓reduceIte, cast_lit, hN0, hN]
                refine ren_fit (k := 6) (k' := 13) hU [0, 9, 10, 11, 12, 12] [0, 0, 0, 0, 0, 0, 0, 0, 0, 1, 2, 3, 0] rfl rfl rfl rfl ⟨rfl, rfl⟩ ?_
                simp only [push_cast, seval, ↓reduceIte, cast_lit, hN0, hN]
      refine W_regionD tab_ok [] ?_
      simp only [push_cast, seval, ↓reduceIte, cast_lit, hN0, hN]
      have hs0_ := Option.some.inj hs0_; subst hs0_
      refine And.intro rfl ?_
      refine Fit2.trans (E' := (⟨44, [], [(0, .val (.int .i64 a0)), (5, .ref n 0), (8, .sl a1.length (fl e_S_api_Op a1)), (9, .val (.int .i64 (a1.length : Int))), (10, .val (.int .i64 (IntKind.i64.wrap (s0_.1 + 1))))]⟩ : Env)) (O' := (Loc O n [some ⟨false, 110, 4, 1, [.row (n + 9) z1.2.1.length, .val (.int .i64 z1.1), .row (n + 10) z1.2.2.1.length, .row (n + 11) z1.2.2.2.length]⟩, none, none, none, none, none, none, none, none, some ⟨true, 69, 14, z1.2.1.length, fl e_S_api_Op z1.2.1⟩, some ⟨true, 25, 3, z1.2.2.1.length, fl e_S_api_Tree z1.2.2.1⟩, some ⟨true, 25, 3, z1.2.2.2.length, fl e_S_api_Tree z1.2.2.2⟩, none])) (n' := (n + 13)) (Fit2.of (fit_loc hU rfl rfl ?_) (by omega)) ?_
      · simp only [push_cast, seval, ↓reduceIte, cast_lit, hN0, hN]
      refine ren_fit (k := 13) (k' := 5) hU [0, 4, 4, 4, 4, 4, 4, 4, 4, 1, 2, 3, 4] [0, 9, 10, 11, 0] rfl rfl rfl rfl ⟨rfl, rfl⟩ ?_
      simp only [push_cast, seval, ↓reduceIte, cast_lit, hN0, hN]
    · replace hs0_ := condF c13 hs0_
      refine W_exit ?_
      try simp only [gthen, gblock, ↓reduceIte, Nat.reduceEqDiff]
      have hs0_ := Option.some.inj hs0_; subst hs0_
      refine And.intro (fun h => by cases h) (And.intro rfl (Fit2.of (fit_loc hU rfl rfl ?_) (by omega)))
      simp only [push_cast, seval, ↓reduceIte, cast_lit, hN0, hN]
  try simp only [gthen, gblock, ↓reduceIte, Nat.reduceEqDiff]
  refine W_drop [5] [true, true, true, true, false] ?_
  simp only [push_cast, seval, ↓reduceIte]
  refine W_seqK ?_
  obtain ⟨y16, hy16, h⟩ := bC h
  refine W_regionD tab_ok [] ?_
  simp only [push_cast, seval, ↓reduceIte, cast_lit, hN0, hN]
  refine (ok_normal_writer_lay (i0 := n) (j0_0 := (n + 2)) (j0_1 := (n + 3)) (j0_2 := (n + 1)) (by omega) (by omega) (by omega) (by omega) (by omega) (by omega) (by omega) (by omega) (by omega) (by omega) (by simp only [push_cast, seval, ↓reduceIte, cast_lit, fl_nil, hN0, hN] <;> rfl) (by simp only [push_cast, seval, ↓reduceIte, cast_lit, fl_nil, hN0, hN] <;> rfl) (by simp only [push_cast, seval, ↓reduceIte, cast_lit, fl_nil, hN0, hN] <;> rfl) (by simp only [push_cast, seval, ↓reduceIte, cast_lit, fl_nil, hN0, hN] <;> rfl) hy16).then ?_
  simp only [push_cast, seval, ↓reduceIte, cast_lit, hN0, hN]
  refine W_drop [5] [true, false, false, false, false, true, true, true] ?_
  simp only [push_cast, seval, ↓reduceIte]
  refine W_sq [4] (W_regionD tab_ok [] ?_)
  simp only [push_cast, seval, ↓reduceIte, cast_lit, hN0, hN]
  refine W_ret ?_
  try simp only [gthen, gblock]
  have h := Option.some.inj h; subst h
  refine fin_loc (.inr rfl) hU [.row (n + 7) y16.out.length] (by omega) ?_
  simp only [push_cast, seval, ↓reduceIte, cast_lit, Try.results51, hN0, hN]
theorem lv_normal_Edit_ok : ∀ k, (∀ {a0 : S_api_Edit} {r : S_api_Edit} {O : Objs} {n : Nat}, (lv_normal_Edit k).1 a0 = some r → GTo Try.prog 18 [.agg (c_S_api_Edit a0)] O n (.agg (c_S_api_Edit r)) O n) ∧ (∀ {a0 : Int} {a1 : (List S_api_Op)} {r : (List S_api_Op)} {O : Objs} {n : Nat}, (lv_normal_Edit k).2 a0 a1 = some r → GTo Try.prog 51 [.val (.int .i64 a0), .sl a1.length (fl e_S_api_Op a1)] O n (.sl r.length (fl e_S_api_Op r)) O n) := fun k => by
  induction k with
  | zero => exact ⟨@fun a0 r O n h => (nomatch (show (none : Option _) = some _ from h)), @fun a0 a1 r O n h => (nomatch (show (none : Option _) = some _ from h))⟩
  | succ k ih => exact ⟨@fun a0 r O n h => okb_normal_Edit (ih.1) (ih.2)  h, @fun a0 a1 r O n h => okb_normal_Ops (ih.1) (ih.2)  h⟩
theorem ok_normal_Edit {a0 : S_api_Edit} {r : S_api_Edit} {O : Objs} {n : Nat} (h : m_normal_Edit a0 = some r) : GTo Try.prog 18 [.agg (c_S_api_Edit a0)] O n (.agg (c_S_api_Edit r)) O n := by
  obtain ⟨k, hk⟩ := lim_some h
  exact (lv_normal_Edit_ok k).1  hk
end Go.Proofs.Ytbcgiaijjaocdaa
