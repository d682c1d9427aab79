/- Part NM1 of this seat's mirrors: functions of the seat's program, and the plain functions that they are; each theorem bears its own conditions. -/
import Derived.Test.YtkdanjfmobibbaaNE
namespace Go.Proofs.Ytkdanjfmobibbaa
open Go.RowKit
set_option linter.unusedVariables false
set_option linter.unusedSimpArgs false
set_option maxRecDepth 100000
set_option maxHeartbeats 4000000
attribute [local push_cast] gfork_t gfork_f pfork_t pfork_f gthen gblock gops_nil gops_plain gops_guard onW gwantB gcalm gact gpick gpickV strip_any strip_val strip_agg strip_tup strip_sl strip_ip strip_row strip_rs strip_rp strip_ref strip_fn strip_when evS wok calmOp Op.operands Call.operands gop onK onP atK List.all_cons List.all_nil Bool.and_true Bool.true_and Bool.and_self Value.oneCell' List.take_zero List.take_succ_cons List.take_nil List.drop_zero List.drop_succ_cons List.drop_nil List.append_nil Nat.add_zero Nat.zero_add gstep gputE ev look genv gbin_ii gbin_bb gbin_ss gbin_pp gbin_rp gbin_ip gbin_ll gbin_aa geqS geqF gint gunary gconvert gload gcells gpart_lit gstore cellsOf_agg cellsOf_val cellsOf_sl cellsOf_ip cellsOf_row cellsOf_rs cellsOf_rp cellsOf_ref cellsOf_fn cellsOf_any cellsOf_tup cellsOf_when cellsOf_gP gput gplace_lit gfieldAddr gstepIn gindexAddr gindex gfield gopt bLo bHi bMx gextract galloc gbox gbuild gfill gplaces gbuildSlice gmake glen gappend gsrc gbuiltin gnil live_any live_val live_agg live_tup live_sl live_ip live_fn live_when live_ref live_rs live_rp live_row live_gP gres gone prun_nil prun_plain prun_guard pop TK.isAgg one_any one_val one_agg one_tup one_when one_sl one_ip one_row one_rs one_rp one_ref one_fn G.under G.unders List.getD_cons_zero List.getD_cons_succ List.set_cons_zero List.set_cons_succ List.map_cons List.map_nil List.toList_toArray Array.toList_append Option.toArray_none Option.toArray_some Array.toList_map Option.map_some Option.map_none Option.bind_some Option.bind_none List.getElem?_cons_zero List.getElem?_cons_succ List.getElem?_nil List.nil_append List.cons_append List.replicate_succ List.replicate_zero List.length_cons List.length_nil and_true true_and and_false false_and Bool.true_eq_false Bool.false_eq_true forall_const false_implies implies_true IntKind.bits if_true if_false ite_true ite_false eq_self true_implies false_or or_false or_true true_or not_true_eq_false not_false_eq_true decide_true decide_false decide_eq_true_eq decide_eq_false_iff_not beq_iff_eq bne_iff_ne ne_eq Bool.not_eq_true Bool.not_eq_false beq_eq_false_iff_ne bne_eq_false_iff_eq beq_self_eq_true bne_self_eq_false Option.some.injEq exists_eq_left' exists_eq_left ge_iff_le gt_iff_lt decide_not Bool.not_true Bool.not_false imp_self gquiet cond_true cond_false beqT beqF Bool.not_not Bool.and_false Bool.false_and Bool.or_true Bool.true_or Bool.or_false Bool.false_or Loc_at Loc_at0 Loc_upd Loc_upd0 Loc_push Loc_push0 Option.join_some Nat.add_assoc Int.toNat_natCast eI eB eS eL fl_nil gopsD_nil gopsD_plain gopsD_t gopsD_f gopsD_n onKD onWD prunD_nil prunD_plain prunD_t prunD_f prunD_n onPD fitO fitO1 sameO fitL fl_append fl_one List.length_append G.agg.injEq G.row.injEq G.ref.injEq G.val.injEq G.sl.injEq G.tup.injEq Value.int.injEq Value.bool.injEq Value.string.injEq List.cons.injEq exists_and_left exists_const List.flatten_cons List.flatten_nil Int.le_refl Nat.le_refl upd_updU Loc_out Loc_updo Bool.not_eq_true' Bool.not_eq_false' wkl_nil wkl_cons wk_any wk_val wk_agg wk_tup wk_sl wk_fn List.size_toArray renO renO1 G.ren G.rens renL rho_at rho_at0 gP_none gP_some strip_gP wok_gP one_gP G.fn.injEq wk_slnil wk_slrow wk_slrs wk_ip wk_ipref wk_row wk_rs wk_rp wk_ref locLt0 locLt Option.join_none upd_same fl_cons undef keepL Arr.len Arr.put_eq prunB_nil prunB_bar prunB_bart prunB_plain prunB_t prunB_f prunB_n onB onBP gcopy setI_len Loc_cat0 Loc_cat1 Loc_cat2 Loc_cat3 Loc_cat4 Loc_cat5 noObjs_at prunK_nil prunK_bar prunK_pass prunK_plain prunK_low prunK_pt prunK_pf prunK_lt prunK_lf onKg onKa onKp popL pickOps lows lowG prunK_shp prunK_fill popH shpOp fillOp fillG rho_low rens_app Loc_cat6 Loc_cat7 Loc_cat8 Loc_cat9 Loc_cat10 Loc_cat11 Loc_cat12 Loc_cat13 Loc_cat14 Loc_cat15 Loc_cat16 dropM prT kdOf tab2 tkind2 tab3 tkind3 tab4 tkind4 tab5 tkind5 tab6 tkind6 tab7 tkind7 tab8 tkind8 tab9 tkind9 tab10 tkind10 tab11 tkind11 tab12 tkind12 tab13 tkind13 tab14 tkind14 tab15 tkind15 tab16 tkind16 tab17 tkind17 tab18 tkind18 tab19 tkind19 tab21 tkind21 tab22 tkind22 tab23 tkind23 tab25 tkind25 tab28 tkind28 tab33 tkind33 tab34 tkind34 tab35 tkind35 tab38 tkind38 tab45 tkind45 tab48 tkind48 tab50 tkind50 tab55 tkind55 tab56 tkind56 tab75 tkind75 tab77 tkind77 tab79 tkind79 tab80 tkind80 tab81 tkind81 tab82 tkind82 tab83 tkind83 tab85 tkind85 tab86 tkind86 tab87 tkind87 tab88 tkind88 tab91 tkind91 tab92 tkind92 tab96 tkind96 tab139 tkind139 tab140 tkind140 tab142 tkind142 tab169 tkind169 tab173 tkind173 wkl_eI_u64 wka_eI_u64 len_eI_u64 one_eI_u64 wkp_eI_u64 undp_eI_u64 rens_eI_u64 renp_eI_u64 und_eI_u64 wkl_eI_i64 wka_eI_i64 len_eI_i64 one_eI_i64 wkp_eI_i64 undp_eI_i64 rens_eI_i64 renp_eI_i64 und_eI_i64 wkl_eL_eI_u64 wka_eL_eI_u64 len_eL_eI_u64 one_eL_eI_u64 wkp_eL_eI_u64 undp_eL_eI_u64 rens_eL_eI_u64 renp_eL_eI_u64 und_eL_eI_u64 e_S_slots_slot e_S_slots_Slots wkl_e_S_slots_slot wka_e_S_slots_slot len_e_S_slots_slot one_e_S_slots_slot wkp_e_S_slots_slot undp_e_S_slots_slot rens_e_S_slots_slot renp_e_S_slots_slot und_e_S_slots_slot wkl_e_S_slots_Slots wka_e_S_slots_Slots len_e_S_slots_Slots one_e_S_slots_Slots wkp_e_S_slots_Slots undp_e_S_slots_Slots rens_e_S_slots_Slots renp_e_S_slots_Slots und_e_S_slots_Slots e_S_centolaw35_Deed
theorem ok_slots_Slots_there_n {a1 : Int} {r : Bool} {O : Objs} {n : Nat} (h : m_slots_Slots_there_n a1 = some r) : GTo Try.prog 96 [.val (.pointer none), .val (.int .i64 a1)] O n (.val (.bool r)) O n := by
  unfold m_slots_Slots_there_n at h
  refine fn_of tab_ok Try.call96 Try.func96 rfl (Nat.le_of_ble_eq_true rfl) (Nat.le_refl _) fun hU => ?_
  have hN0 : O n = none := hU.fresh _ (Nat.le_refl _)
  have hN : ∀ k, O (n + k) = none := fun k => hU.fresh _ (Nat.le_add_right _ _)
  show W _ _ _ _ ⟨15, [], [(0, .val (.pointer none)), (1, .val (.int .i64 a1))]⟩ (Loc O n []) _
  refine W_sq [0, 1] (W_regionD tab_ok [] ?_)
  simp only [push_cast, Nat.reduceAdd, Nat.reduceSub, Nat.reduceMul, Nat.reduceLeDiff, Nat.reduceLT, Nat.reduceEqDiff, ↓reduceIte, reduceCtorEq, Int.reduceBEq, Int.reduceBNe, Nat.reduceBEq, Int.reduceLE, Int.reduceLT, Int.reduceEq, Int.reduceNe, Int.reduceNeg, Nat.reduceDiv, Nat.reduceMod, Nat.reducePow, cast_lit, hN0, hN]
  refine W_sq [4] (W_regionD tab_ok [some false, some false, some false, some false] ?_)
  simp only [push_cast, Nat.reduceAdd, Nat.reduceSub, Nat.reduceMul, Nat.reduceLeDiff, Nat.reduceLT, Nat.reduceEqDiff, ↓reduceIte, reduceCtorEq, Int.reduceBEq, Int.reduceBNe, Nat.reduceBEq, Int.reduceLE, Int.reduceLT, Int.reduceEq, Int.reduceNe, Int.reduceNeg, Nat.reduceDiv, Nat.reduceMod, Nat.reducePow, cast_lit, hN0, hN]
  refine W_ret ?_
  try simp only [gthen, gblock]
  have h := Option.some.inj h; subst h
  refine fin_loc (.inr rfl) hU [.val (.bool false)] (by omega) ?_
  simp only [push_cast, Nat.reduceAdd, Nat.reduceSub, Nat.reduceMul, Nat.reduceLeDiff, Nat.reduceLT, Nat.reduceEqDiff, ↓reduceIte, reduceCtorEq, Int.reduceBEq, Int.reduceBNe, Nat.reduceBEq, Int.reduceLE, Int.reduceLT, Int.reduceEq, Int.reduceNe, Int.reduceNeg, Nat.reduceDiv, Nat.reduceMod, Nat.reducePow, cast_lit, Try.results96, hN0, hN]

theorem ok_slots_Slots_Has_n {a1 : Int} {r : Bool} {O : Objs} {n : Nat} (h : m_slots_Slots_Has_n a1 = some r) : GTo Try.prog 61 [.val (.pointer none), .val (.int .i64 a1)] O n (.val (.bool r)) O n := by
  unfold m_slots_Slots_Has_n at h
  refine fn_of tab_ok Try.call61 Try.func61 rfl (Nat.le_of_ble_eq_true rfl) (Nat.le_refl _) fun hU => ?_
  have hN0 : O n = none := hU.fresh _ (Nat.le_refl _)
  have hN : ∀ k, O (n + k) = none := fun k => hU.fresh _ (Nat.le_add_right _ _)
  show W _ _ _ _ ⟨17, [], [(0, .val (.pointer none)), (1, .val (.int .i64 a1))]⟩ (Loc O n []) _
  refine W_sq [0, 1] (W_regionD tab_ok [] ?_)
  simp only [push_cast, Nat.reduceAdd, Nat.reduceSub, Nat.reduceMul, Nat.reduceLeDiff, Nat.reduceLT, Nat.reduceEqDiff, ↓reduceIte, reduceCtorEq, Int.reduceBEq, Int.reduceBNe, Nat.reduceBEq, Int.reduceLE, Int.reduceLT, Int.reduceEq, Int.reduceNe, Int.reduceNeg, Nat.reduceDiv, Nat.reduceMod, Nat.reducePow, cast_lit, hN0, hN]
  obtain ⟨z2, hz2, h⟩ := bC h
  refine W_seqN (E' := ⟨17, [], [(4, .val (.bool false))]⟩) (O' := (Loc O n [])) (n0 := n) ?_ ?_
  · obtain ⟨y4, hy4, hz2⟩ := bC hz2
    rcases Bool.eq_false_or_eq_true y4 with c5 | c5
    · replace hz2 := condT c5 hz2
      cases hz2
    · replace hz2 := condF c5 hz2
      refine W_regionD tab_ok [some false, some false, some false, some false, some false, some false, some false] ?_
      simp only [push_cast, Nat.reduceAdd, Nat.reduceSub, Nat.reduceMul, Nat.reduceLeDiff, Nat.reduceLT, Nat.reduceEqDiff, ↓reduceIte, reduceCtorEq, Int.reduceBEq, Int.reduceBNe, Nat.reduceBEq, Int.reduceLE, Int.reduceLT, Int.reduceEq, Int.reduceNe, Int.reduceNeg, Nat.reduceDiv, Nat.reduceMod, Nat.reducePow, cast_lit, c5, hN0, hN]
      refine (ok_slots_Slots_there_n hy4).then ?_
      simp only [push_cast, Nat.reduceAdd, Nat.reduceSub, Nat.reduceMul, Nat.reduceLeDiff, Nat.reduceLT, Nat.reduceEqDiff, ↓reduceIte, reduceCtorEq, Int.reduceBEq, Int.reduceBNe, Nat.reduceBEq, Int.reduceLE, Int.reduceLT, Int.reduceEq, Int.reduceNe, Int.reduceNeg, Nat.reduceDiv, Nat.reduceMod, Nat.reducePow, cast_lit, c5, hN0, hN]
      have hz2 := Option.some.inj hz2; subst hz2
      refine And.intro rfl (Fit2.of (fit_loc hU rfl rfl ?_) (by omega))
      simp only [push_cast, Nat.reduceAdd, Nat.reduceSub, Nat.reduceMul, Nat.reduceLeDiff, Nat.reduceLT, Nat.reduceEqDiff, ↓reduceIte, reduceCtorEq, Int.reduceBEq, Int.reduceBNe, Nat.reduceBEq, Int.reduceLE, Int.reduceLT, Int.reduceEq, Int.reduceNe, Int.reduceNeg, Nat.reduceDiv, Nat.reduceMod, Nat.reducePow, cast_lit, c5, hN0, hN]
  refine W_ret ?_
  try simp only [gthen, gblock]
  have h := Option.some.inj h; subst h
  refine fin_loc (.inr rfl) hU [.val (.bool false)] (by omega) ?_
  simp only [push_cast, Nat.reduceAdd, Nat.reduceSub, Nat.reduceMul, Nat.reduceLeDiff, Nat.reduceLT, Nat.reduceEqDiff, ↓reduceIte, reduceCtorEq, Int.reduceBEq, Int.reduceBNe, Nat.reduceBEq, Int.reduceLE, Int.reduceLT, Int.reduceEq, Int.reduceNe, Int.reduceNeg, Nat.reduceDiv, Nat.reduceMod, Nat.reducePow, cast_lit, Try.results61, hN0, hN]

theorem ok_slices_Clone_uint64_uint64 {a0 r : List Int} {O : Objs} {n : Nat} (h : m_slices_Clone_uint64_uint64 a0 = some r) : GTo Try.prog 66 [.sl a0.length (fl (eI .u64) a0)] O n (.row n r.length) (Loc O n [some ⟨true, 33, 1, r.length, fl (eI .u64) r⟩]) (n + 1) := by
  have h1 := appI_1 h
  have h2 := appI_2 h
  have h3 := appI_eq h
  rw [List.nil_append] at h3
  subst h3
  simp only [List.length_nil, Nat.zero_add] at h1 h2
  clear h
  refine fn_of tab_ok Try.call66 Try.func66 rfl (Nat.le_of_ble_eq_true rfl) (by omega) fun hU => ?_
  have hN0 : O n = none := hU.fresh _ (Nat.le_refl _)
  have hN : ∀ k, O (n + k) = none := fun k => hU.fresh _ (Nat.le_add_right _ _)
  show W _ _ _ _ ⟨8, [], [(0, .sl r.length (fl (eI .u64) r))]⟩ (Loc O n []) _
  refine W_sq [0] (W_regionD tab_ok [] ?_)
  simp only [push_cast, Nat.reduceAdd, Nat.reduceSub, Nat.reduceMul, Nat.reduceLeDiff, Nat.reduceLT, Nat.reduceEqDiff, ↓reduceIte, reduceCtorEq, Int.reduceBEq, Int.reduceBNe, Nat.reduceBEq, Int.reduceLE, Int.reduceLT, Int.reduceEq, Int.reduceNe, Int.reduceNeg, Nat.reduceDiv, Nat.reduceMod, Nat.reducePow, cast_lit, hN0, hN]
  refine W_know 0 r.length (fl (eI .u64) r) rfl (Nat.le_of_ble_eq_true rfl) (pures_fl pu_eI_u64 _) fun A c hA => ?_
  refine W_sq [0, 4] (W_regionD tab_ok [] ?_)
  simp only [push_cast, Nat.reduceAdd, Nat.reduceSub, Nat.reduceMul, Nat.reduceLeDiff, Nat.reduceLT, Nat.reduceEqDiff, ↓reduceIte, reduceCtorEq, Int.reduceBEq, Int.reduceBNe, Nat.reduceBEq, Int.reduceLE, Int.reduceLT, Int.reduceEq, Int.reduceNe, Int.reduceNeg, Nat.reduceDiv, Nat.reduceMod, Nat.reducePow, cast_lit, hN0, hN]
  cases A with
  | none =>
    obtain rfl : r = [] := List.eq_nil_of_length_eq_zero (hA rfl)
    refine W_cond (t := true) rfl (fun _ => ?_) (fun hc => by cases hc)
    refine W_sq [2] (W_regionD tab_ok [] ?_)
    simp only [push_cast, Nat.reduceAdd, Nat.reduceSub, Nat.reduceMul, Nat.reduceLeDiff, Nat.reduceLT, Nat.reduceEqDiff, ↓reduceIte, reduceCtorEq, Int.reduceBEq, Int.reduceBNe, Nat.reduceBEq, Int.reduceLE, Int.reduceLT, Int.reduceEq, Int.reduceNe, Int.reduceNeg, Nat.reduceDiv, Nat.reduceMod, Nat.reducePow, cast_lit, hN0, hN]
    refine W_ret ?_
    try simp only [gthen, gblock]
    refine fin_locW (k := 1) (L3 := [some ⟨true, 33, 1, 0, []⟩]) (E2 := ⟨8, [], [(2, .row n 0), (2, .val (.slice none 0 0))]⟩) (n3 := (n + 1)) (.inr rfl) hU rfl [.row n 0] ?_ ?_
    · have ha := adopt_fit (ba := n) (E := ⟨8, [], [(2, .val (.slice none 0 0))]⟩) (O := (Loc O n [])) (n := n) 2 33 1 rfl (by omega)
      simp only [Loc_push0] at ha
      exact ha
    simp only [push_cast, Nat.reduceAdd, Nat.reduceSub, Nat.reduceMul, Nat.reduceLeDiff, Nat.reduceLT, Nat.reduceEqDiff, ↓reduceIte, reduceCtorEq, Int.reduceBEq, Int.reduceBNe, Nat.reduceBEq, Int.reduceLE, Int.reduceLT, Int.reduceEq, Int.reduceNe, Int.reduceNeg, Nat.reduceDiv, Nat.reduceMod, Nat.reducePow, cast_lit, Try.results66, hN0, hN]
  | some A =>
    refine W_cond (t := false) rfl (fun hc => by cases hc) (fun _ => ?_)
    refine W_skip ?_
    try simp only [gthen, gblock]
    refine And.intro rfl (And.intro (Nat.le_of_ble_eq_true rfl) ?_)
    refine W_seqK ?_
    refine W_regionD tab_ok [] ?_
    simp only [push_cast, Nat.reduceAdd, Nat.reduceSub, Nat.reduceMul, Nat.reduceLeDiff, Nat.reduceLT, Nat.reduceEqDiff, ↓reduceIte, reduceCtorEq, Int.reduceBEq, Int.reduceBNe, Nat.reduceBEq, Int.reduceLE, Int.reduceLT, Int.reduceEq, Int.reduceNe, Int.reduceNeg, Nat.reduceDiv, Nat.reduceMod, Nat.reducePow, cast_lit, h1, h2, hN0, hN]
    refine W_ret ?_
    try simp only [gthen, gblock]
    refine fin_locR (.inr rfl) hU rfl [.row n r.length] (by omega) ?_
    simp only [push_cast, Nat.reduceAdd, Nat.reduceSub, Nat.reduceMul, Nat.reduceLeDiff, Nat.reduceLT, Nat.reduceEqDiff, ↓reduceIte, reduceCtorEq, Int.reduceBEq, Int.reduceBNe, Nat.reduceBEq, Int.reduceLE, Int.reduceLT, Int.reduceEq, Int.reduceNe, Int.reduceNeg, Nat.reduceDiv, Nat.reduceMod, Nat.reducePow, cast_lit, Try.results66, hN0, hN]

theorem okf_slices_Clone_uint64_uint64 {a0 r : List Int} {O : Objs} {n : Nat} (h : m_slices_Clone_uint64_uint64 a0 = some r) : GTo Try.prog 66 [.sl a0.length (fl (eI .u64) a0)] O n (.sl r.length (fl (eI .u64) r)) O n := by
  refine GTo.freeze (ok_slices_Clone_uint64_uint64 h) fun hU => ?_
  have hN0 : O n = none := hU.fresh _ (Nat.le_refl _)
  have hN : ∀ k, O (n + k) = none := fun k => hU.fresh _ (Nat.le_add_right _ _)
  simp only [push_cast, Nat.reduceAdd, Nat.reduceSub, Nat.reduceMul, Nat.reduceLeDiff, Nat.reduceLT, Nat.reduceEqDiff, ↓reduceIte, reduceCtorEq, Int.reduceBEq, Int.reduceBNe, Nat.reduceBEq, Int.reduceLE, Int.reduceLT, Int.reduceEq, Int.reduceNe, Int.reduceNeg, Nat.reduceDiv, Nat.reduceMod, Nat.reducePow, cast_lit, hN0, hN]

theorem ok_slots_Slots_Get_n {a1 : Int} {r : ((List Int) × Int)} {O : Objs} {n : Nat} (h : m_slots_Slots_Get_n a1 = some r) : GTo Try.prog 58 [.val (.pointer none), .val (.int .i64 a1)] O n (.tup [.sl r.1.length (fl (eI .u64) r.1), .val (.int .i64 r.2)]) O n := by
  unfold m_slots_Slots_Get_n at h
  refine fn_of tab_ok Try.call58 Try.func58 rfl (Nat.le_of_ble_eq_true rfl) (Nat.le_refl _) fun hU => ?_
  have hN0 : O n = none := hU.fresh _ (Nat.le_refl _)
  have hN : ∀ k, O (n + k) = none := fun k => hU.fresh _ (Nat.le_add_right _ _)
  show W _ _ _ _ ⟨18, [], [(0, .val (.pointer none)), (1, .val (.int .i64 a1))]⟩ (Loc O n []) _
  refine W_sq [0, 1] (W_regionD tab_ok [] ?_)
  simp only [push_cast, Nat.reduceAdd, Nat.reduceSub, Nat.reduceMul, Nat.reduceLeDiff, Nat.reduceLT, Nat.reduceEqDiff, ↓reduceIte, reduceCtorEq, Int.reduceBEq, Int.reduceBNe, Nat.reduceBEq, Int.reduceLE, Int.reduceLT, Int.reduceEq, Int.reduceNe, Int.reduceNeg, Nat.reduceDiv, Nat.reduceMod, Nat.reducePow, cast_lit, hN0, hN]
  refine W_seqK ?_
  refine W_seqK ?_
  obtain ⟨y2, hy2, h⟩ := bC h
  refine W_regionD tab_ok [] ?_
  simp only [push_cast, Nat.reduceAdd, Nat.reduceSub, Nat.reduceMul, Nat.reduceLeDiff, Nat.reduceLT, Nat.reduceEqDiff, ↓reduceIte, reduceCtorEq, Int.reduceBEq, Int.reduceBNe, Nat.reduceBEq, Int.reduceLE, Int.reduceLT, Int.reduceEq, Int.reduceNe, Int.reduceNeg, Nat.reduceDiv, Nat.reduceMod, Nat.reducePow, cast_lit, hN0, hN]
  refine (ok_slots_Slots_Has_n hy2).then ?_
  simp only [push_cast, Nat.reduceAdd, Nat.reduceSub, Nat.reduceMul, Nat.reduceLeDiff, Nat.reduceLT, Nat.reduceEqDiff, ↓reduceIte, reduceCtorEq, Int.reduceBEq, Int.reduceBNe, Nat.reduceBEq, Int.reduceLE, Int.reduceLT, Int.reduceEq, Int.reduceNe, Int.reduceNeg, Nat.reduceDiv, Nat.reduceMod, Nat.reducePow, cast_lit, hN0, hN]
  refine W_drop [0, 1, 9] [] ?_
  simp only [push_cast, seval, ↓reduceIte]
  refine W_cond (t := (!y2)) rfl (fun c3 => ?_) (fun c3 => ?_)
  · replace h := condT c3 h
    refine W_sq [4, 5] (W_regionD tab_ok [] ?_)
    simp only [push_cast, Nat.reduceAdd, Nat.reduceSub, Nat.reduceMul, Nat.reduceLeDiff, Nat.reduceLT, Nat.reduceEqDiff, ↓reduceIte, reduceCtorEq, Int.reduceBEq, Int.reduceBNe, Nat.reduceBEq, Int.reduceLE, Int.reduceLT, Int.reduceEq, Int.reduceNe, Int.reduceNeg, Nat.reduceDiv, Nat.reduceMod, Nat.reducePow, cast_lit, hN0, hN]
    refine W_ret ?_
    try simp only [gthen, gblock]
    have h := Option.some.inj h; subst h
    refine fin_loc (.inr rfl) hU [.val (.slice none 0 0), .val (.int .i64 15)] (by omega) ?_
    simp only [push_cast, Nat.reduceAdd, Nat.reduceSub, Nat.reduceMul, Nat.reduceLeDiff, Nat.reduceLT, Nat.reduceEqDiff, ↓reduceIte, reduceCtorEq, Int.reduceBEq, Int.reduceBNe, Nat.reduceBEq, Int.reduceLE, Int.reduceLT, Int.reduceEq, Int.reduceNe, Int.reduceNeg, Nat.reduceDiv, Nat.reduceMod, Nat.reducePow, cast_lit, Try.results58, hN0, hN]
  · replace h := condF c3 h
    refine W_skip ?_
    try simp only [gthen, gblock]
    refine W_drop [0, 1] [] ?_
    simp only [push_cast, seval, ↓reduceIte]
    refine W_seqK ?_
    cases h

theorem ok_slots_Slots_Put_n {a1 : (List Int)} {a2 : (List (List Int))} {r : Int} {O : Objs} {n : Nat} (h : m_slots_Slots_Put_n a1 a2 = some r) : GTo Try.prog 59 [.val (.pointer none), .sl a1.length (fl (eI .i64) a1), .sl a2.length (fl (eL (eI .u64)) a2)] O n (.val (.int .i64 r)) O n := by
  unfold m_slots_Slots_Put_n at h
  refine fn_of tab_ok Try.call59 Try.func59 rfl (Nat.le_of_ble_eq_true rfl) (Nat.le_refl _) fun hU => ?_
  have hN0 : O n = none := hU.fresh _ (Nat.le_refl _)
  have hN : ∀ k, O (n + k) = none := fun k => hU.fresh _ (Nat.le_add_right _ _)
  show W _ _ _ _ ⟨46, [], [(0, .val (.pointer none)), (1, .sl a1.length (fl (eI .i64) a1)), (2, .sl a2.length (fl (eL (eI .u64)) a2))]⟩ (Loc O n []) _
  refine W_sq [0, 1, 2] (W_regionD tab_ok [] ?_)
  simp only [push_cast, Nat.reduceAdd, Nat.reduceSub, Nat.reduceMul, Nat.reduceLeDiff, Nat.reduceLT, Nat.reduceEqDiff, ↓reduceIte, reduceCtorEq, Int.reduceBEq, Int.reduceBNe, Nat.reduceBEq, Int.reduceLE, Int.reduceLT, Int.reduceEq, Int.reduceNe, Int.reduceNeg, Nat.reduceDiv, Nat.reduceMod, Nat.reducePow, cast_lit, hN0, hN]
  refine W_seqK ?_
  refine W_sq [0, 1, 2, 15] (W_regionD tab_ok [] ?_)
  simp only [push_cast, Nat.reduceAdd, Nat.reduceSub, Nat.reduceMul, Nat.reduceLeDiff, Nat.reduceLT, Nat.reduceEqDiff, ↓reduceIte, reduceCtorEq, Int.reduceBEq, Int.reduceBNe, Nat.reduceBEq, Int.reduceLE, Int.reduceLT, Int.reduceEq, Int.reduceNe, Int.reduceNeg, Nat.reduceDiv, Nat.reduceMod, Nat.reducePow, cast_lit, hN0, hN]
  refine W_cond (t := ((a1.length : Int) != (a2.length : Int))) rfl (fun c14 => ?_) (fun c14 => ?_)
  · replace h := condT c14 h
    refine W_sq [6] (W_regionD tab_ok [] ?_)
    simp only [push_cast, Nat.reduceAdd, Nat.reduceSub, Nat.reduceMul, Nat.reduceLeDiff, Nat.reduceLT, Nat.reduceEqDiff, ↓reduceIte, reduceCtorEq, Int.reduceBEq, Int.reduceBNe, Nat.reduceBEq, Int.reduceLE, Int.reduceLT, Int.reduceEq, Int.reduceNe, Int.reduceNeg, Nat.reduceDiv, Nat.reduceMod, Nat.reducePow, cast_lit, hN0, hN]
    refine W_ret ?_
    try simp only [gthen, gblock]
    have h := Option.some.inj h; subst h
    refine fin_loc (.inr rfl) hU [.val (.int .i64 2)] (by omega) ?_
    simp only [push_cast, Nat.reduceAdd, Nat.reduceSub, Nat.reduceMul, Nat.reduceLeDiff, Nat.reduceLT, Nat.reduceEqDiff, ↓reduceIte, reduceCtorEq, Int.reduceBEq, Int.reduceBNe, Nat.reduceBEq, Int.reduceLE, Int.reduceLT, Int.reduceEq, Int.reduceNe, Int.reduceNeg, Nat.reduceDiv, Nat.reduceMod, Nat.reducePow, cast_lit, Try.results59, hN0, hN]
  · replace h := condF c14 h
    refine W_skip ?_
    try simp only [gthen, gblock]
    refine W_drop [0, 1, 2] [] ?_
    simp only [push_cast, seval, ↓reduceIte]
    refine W_seqK ?_
    refine W_sq [0, 1, 2, 16, 17, 18] (W_regionD tab_ok [] ?_)
    simp only [push_cast, Nat.reduceAdd, Nat.reduceSub, Nat.reduceMul, Nat.reduceLeDiff, Nat.reduceLT, Nat.reduceEqDiff, ↓reduceIte, reduceCtorEq, Int.reduceBEq, Int.reduceBNe, Nat.reduceBEq, Int.reduceLE, Int.reduceLT, Int.reduceEq, Int.reduceNe, Int.reduceNeg, Nat.reduceDiv, Nat.reduceMod, Nat.reducePow, cast_lit, hN0, hN]
    refine W_drop [0, 1, 2, 16, 17, 18] [] ?_
    simp only [push_cast, seval, ↓reduceIte]
    obtain ⟨z7, hz7, h⟩ := bC h
    refine W_sumB (J := (SumJ (fun z7 => JR n (⟨46, [], [(6, .val (.int .i64 15))]⟩ : Env) (Loc O n []) n) (fun z7 => JX 0 n (⟨46, [], [(0, .val (.pointer none)), (1, .sl a1.length (fl (eI .i64) a1)), (2, .sl a2.length (fl (eL (eI .u64)) a2))]⟩ : Env) (Loc O n []) n))) (z := z7) ?_ fun hw => ?_
    · refine W_loopJ hz7 (fun s0_ => ⟨46, [], [(0, .val (.pointer none)), (1, .sl a1.length (fl (eI .i64) a1)), (2, .sl a2.length (fl (eL (eI .u64)) a2)), (16, .sl a1.length (fl (eI .i64) a1)), (17, .val (.int .i64 (a1.length : Int))), (18, .val (.int .i64 s0_))]⟩) (fun s0_ => (Loc O n [])) (SumJ (fun z7 => JR n (⟨46, [], [(6, .val (.int .i64 15))]⟩ : Env) (Loc O n []) n) (fun z7 => JX 0 n (⟨46, [], [(0, .val (.pointer none)), (1, .sl a1.length (fl (eI .i64) a1)), (2, .sl a2.length (fl (eL (eI .u64)) a2))]⟩ : Env) (Loc O n []) n)) ?_
      intro s0_ x0_ hs0_
      unfold m_slots_Slots_Put_n_L0 at hs0_
      try dsimp only
      refine W_sq [0, 1, 2, 16, 17, 18, 19] (W_regionD tab_ok [] ?_)
      simp only [push_cast, Nat.reduceAdd, Nat.reduceSub, Nat.reduceMul, Nat.reduceLeDiff, Nat.reduceLT, Nat.reduceEqDiff, ↓reduceIte, reduceCtorEq, Int.reduceBEq, Int.reduceBNe, Nat.reduceBEq, Int.reduceLE, Int.reduceLT, Int.reduceEq, Int.reduceNe, Int.reduceNeg, Nat.reduceDiv, Nat.reduceMod, Nat.reducePow, cast_lit, hN0, hN]
      refine W_seqK ?_
      refine W_cond (t := (decide (s0_ < (a1.length : Int)))) rfl (fun c6 => ?_) (fun c6 => ?_)
      · replace hs0_ := condT c6 hs0_
        refine W_skip ?_
        try simp only [gthen, gblock]
        refine W_drop [0, 1, 2, 16, 17, 18] [] ?_
        simp only [push_cast, seval, ↓reduceIte]
        refine W_seqK ?_
        refine W_block ?_
        obtain ⟨x2, hx2, ax2, bx2, cx2, hs0_⟩ := bE (f := (eI .i64)) tab3 (fun _ => rfl) (by decide) hs0_
        refine W_sq [0, 1, 2, 8, 16, 17, 18] (W_regionD tab_ok [] ?_)
        simp only [push_cast, Nat.reduceAdd, Nat.reduceSub, Nat.reduceMul, Nat.reduceLeDiff, Nat.reduceLT, Nat.reduceEqDiff, ↓reduceIte, reduceCtorEq, Int.reduceBEq, Int.reduceBNe, Nat.reduceBEq, Int.reduceLE, Int.reduceLT, Int.reduceEq, Int.reduceNe, Int.reduceNeg, Nat.reduceDiv, Nat.reduceMod, Nat.reducePow, cast_lit, ax2, bx2, cx2, hN0, hN]
        refine W_seqK ?_
        obtain ⟨y4, hy4, hs0_⟩ := bC hs0_
        refine W_regionD tab_ok [] ?_
        simp only [push_cast, Nat.reduceAdd, Nat.reduceSub, Nat.reduceMul, Nat.reduceLeDiff, Nat.reduceLT, Nat.reduceEqDiff, ↓reduceIte, reduceCtorEq, Int.reduceBEq, Int.reduceBNe, Nat.reduceBEq, Int.reduceLE, Int.reduceLT, Int.reduceEq, Int.reduceNe, Int.reduceNeg, Nat.reduceDiv, Nat.reduceMod, Nat.reducePow, cast_lit, hN0, hN]
        refine (ok_slots_Slots_there_n hy4).then ?_
        simp only [push_cast, Nat.reduceAdd, Nat.reduceSub, Nat.reduceMul, Nat.reduceLeDiff, Nat.reduceLT, Nat.reduceEqDiff, ↓reduceIte, reduceCtorEq, Int.reduceBEq, Int.reduceBNe, Nat.reduceBEq, Int.reduceLE, Int.reduceLT, Int.reduceEq, Int.reduceNe, Int.reduceNeg, Nat.reduceDiv, Nat.reduceMod, Nat.reducePow, cast_lit, hN0, hN]
        refine W_drop [0, 1, 2, 16, 17, 18, 25] [] ?_
        simp only [push_cast, seval, ↓reduceIte]
        refine W_cond (t := (!y4)) rfl (fun c5 => ?_) (fun c5 => ?_)
        · replace hs0_ := condT c5 hs0_
          refine W_sq [6] (W_regionD tab_ok [] ?_)
          simp only [push_cast, Nat.reduceAdd, Nat.reduceSub, Nat.reduceMul, Nat.reduceLeDiff, Nat.reduceLT, Nat.reduceEqDiff, ↓reduceIte, reduceCtorEq, Int.reduceBEq, Int.reduceBNe, Nat.reduceBEq, Int.reduceLE, Int.reduceLT, Int.reduceEq, Int.reduceNe, Int.reduceNeg, Nat.reduceDiv, Nat.reduceMod, Nat.reducePow, cast_lit, hN0, hN]
          refine W_ret ?_
          try simp only [gthen, gblock]
          have hs0_ := Option.some.inj hs0_; subst hs0_
          refine And.intro (fun h => by cases h) (And.intro rfl (Fit2.of (fit_loc hU rfl rfl ?_) (by omega)))
          simp only [push_cast, Nat.reduceAdd, Nat.reduceSub, Nat.reduceMul, Nat.reduceLeDiff, Nat.reduceLT, Nat.reduceEqDiff, ↓reduceIte, reduceCtorEq, Int.reduceBEq, Int.reduceBNe, Nat.reduceBEq, Int.reduceLE, Int.reduceLT, Int.reduceEq, Int.reduceNe, Int.reduceNeg, Nat.reduceDiv, Nat.reduceMod, Nat.reducePow, cast_lit, hN0, hN]
        · replace hs0_ := condF c5 hs0_
          refine W_skip ?_
          try simp only [gthen, gblock]
          refine W_drop [0, 1, 2, 16, 17, 18] [] ?_
          simp only [push_cast, seval, ↓reduceIte]
          refine W_regionD tab_ok [] ?_
          simp only [push_cast, Nat.reduceAdd, Nat.reduceSub, Nat.reduceMul, Nat.reduceLeDiff, Nat.reduceLT, Nat.reduceEqDiff, ↓reduceIte, reduceCtorEq, Int.reduceBEq, Int.reduceBNe, Nat.reduceBEq, Int.reduceLE, Int.reduceLT, Int.reduceEq, Int.reduceNe, Int.reduceNeg, Nat.reduceDiv, Nat.reduceMod, Nat.reducePow, cast_lit, hN0, hN]
          have hs0_ := Option.some.inj hs0_; subst hs0_
          refine And.intro rfl (Fit2.of (fit_loc hU rfl rfl ?_) (by omega))
          simp only [push_cast, Nat.reduceAdd, Nat.reduceSub, Nat.reduceMul, Nat.reduceLeDiff, Nat.reduceLT, Nat.reduceEqDiff, ↓reduceIte, reduceCtorEq, Int.reduceBEq, Int.reduceBNe, Nat.reduceBEq, Int.reduceLE, Int.reduceLT, Int.reduceEq, Int.reduceNe, Int.reduceNeg, Nat.reduceDiv, Nat.reduceMod, Nat.reducePow, cast_lit, hN0, hN]
      · replace hs0_ := condF c6 hs0_
        refine W_exit ?_
        try simp only [gthen, gblock, ↓reduceIte, Nat.reduceEqDiff]
        have hs0_ := Option.some.inj hs0_; subst hs0_
        refine And.intro (fun h => by cases h) (And.intro rfl (Fit2.of (fit_loc hU rfl rfl ?_) (by omega)))
        simp only [push_cast, Nat.reduceAdd, Nat.reduceSub, Nat.reduceMul, Nat.reduceLeDiff, Nat.reduceLT, Nat.reduceEqDiff, ↓reduceIte, reduceCtorEq, Int.reduceBEq, Int.reduceBNe, Nat.reduceBEq, Int.reduceLE, Int.reduceLT, Int.reduceEq, Int.reduceNe, Int.reduceNeg, Nat.reduceDiv, Nat.reduceMod, Nat.reducePow, cast_lit, hN0, hN]
    rcases z7 with z7 | z7
    · dsimp only [SumJ] at hw h
      refine W_blockR hw ?_
      try simp only [gthen, gblock, ↓reduceIte, Nat.reduceEqDiff]
      have h := Option.some.inj h; subst h
      refine fin_loc (.inr rfl) hU [.val (.int .i64 15)] (by omega) ?_
      simp only [push_cast, Nat.reduceAdd, Nat.reduceSub, Nat.reduceMul, Nat.reduceLeDiff, Nat.reduceLT, Nat.reduceEqDiff, ↓reduceIte, reduceCtorEq, Int.reduceBEq, Int.reduceBNe, Nat.reduceBEq, Int.reduceLE, Int.reduceLT, Int.reduceEq, Int.reduceNe, Int.reduceNeg, Nat.reduceDiv, Nat.reduceMod, Nat.reducePow, cast_lit, Try.results59, hN0, hN]
    · dsimp only [SumJ] at hw h
      refine W_blockX hw ?_
      try simp only [gthen, gblock, ↓reduceIte, Nat.reduceEqDiff]
      refine W_drop [0, 1, 2] [] ?_
      simp only [push_cast, seval, ↓reduceIte]
      refine W_seqK ?_
      refine W_sq [0, 2, 27, 28, 29] (W_regionD tab_ok [] ?_)
      simp only [push_cast, Nat.reduceAdd, Nat.reduceSub, Nat.reduceMul, Nat.reduceLeDiff, Nat.reduceLT, Nat.reduceEqDiff, ↓reduceIte, reduceCtorEq, Int.reduceBEq, Int.reduceBNe, Nat.reduceBEq, Int.reduceLE, Int.reduceLT, Int.reduceEq, Int.reduceNe, Int.reduceNeg, Nat.reduceDiv, Nat.reduceMod, Nat.reducePow, cast_lit, hN0, hN]
      refine W_drop [0, 2, 27, 28, 29] [] ?_
      simp only [push_cast, seval, ↓reduceIte]
      obtain ⟨z13, hz13, h⟩ := bC h
      refine W_blockX (E' := ⟨46, [], []⟩) (O' := (Loc O n [])) (n0 := n) ?_ ?_
      · refine W_loopJ hz13 (fun s1_ => ⟨46, [], [(0, .val (.pointer none)), (2, .sl a2.length (fl (eL (eI .u64)) a2)), (27, .sl a1.length (fl (eI .i64) a1)), (28, .val (.int .i64 (a1.length : Int))), (29, .val (.int .i64 0))]⟩) (fun s1_ => (Loc O n [])) (fun z13 => JX 2 n (⟨46, [], []⟩ : Env) (Loc O n []) n) ?_
        intro s1_ x1_ hs1_
        unfold m_slots_Slots_Put_n_L1 at hs1_
        try dsimp only
        refine W_sq [0, 2, 27, 28, 29, 30] (W_regionD tab_ok [] ?_)
        simp only [push_cast, Nat.reduceAdd, Nat.reduceSub, Nat.reduceMul, Nat.reduceLeDiff, Nat.reduceLT, Nat.reduceEqDiff, ↓reduceIte, reduceCtorEq, Int.reduceBEq, Int.reduceBNe, Nat.reduceBEq, Int.reduceLE, Int.reduceLT, Int.reduceEq, Int.reduceNe, Int.reduceNeg, Nat.reduceDiv, Nat.reduceMod, Nat.reducePow, cast_lit, hN0, hN]
        refine W_seqK ?_
        refine W_cond (t := (decide (0 < (a1.length : Int)))) rfl (fun c12 => ?_) (fun c12 => ?_)
        · replace hs1_ := condT c12 hs1_
          refine W_skip ?_
          try simp only [gthen, gblock]
          refine W_drop [0, 2, 27, 28, 29] [] ?_
          simp only [push_cast, seval, ↓reduceIte]
          refine W_seqK ?_
          refine W_block ?_
          obtain ⟨x9, hx9, ax9, bx9, cx9, hs1_⟩ := bE (f := (eI .i64)) tab3 (fun _ => rfl) (by decide) hs1_
          refine W_sq [0, 2, 9, 10, 27, 28, 29] (W_regionD tab_ok [] ?_)
          simp only [push_cast, Nat.reduceAdd, Nat.reduceSub, Nat.reduceMul, Nat.reduceLeDiff, Nat.reduceLT, Nat.reduceEqDiff, ↓reduceIte, reduceCtorEq, Int.reduceBEq, Int.reduceBNe, Nat.reduceBEq, Int.reduceLE, Int.reduceLT, Int.reduceEq, Int.reduceNe, Int.reduceNeg, Nat.reduceDiv, Nat.reduceMod, Nat.reducePow, cast_lit, ax9, bx9, cx9, hN0, hN]
          obtain ⟨x10, hx10, ax10, bx10, cx10, hs1_⟩ := bE (f := (eL (eI .u64))) tab38 (fun _ => rfl) (by decide) hs1_
          obtain ⟨y11, hy11, hs1_⟩ := bC hs1_
          cases hs1_
        · replace hs1_ := condF c12 hs1_
          refine W_exit ?_
          try simp only [gthen, gblock, ↓reduceIte, Nat.reduceEqDiff]
          have hs1_ := Option.some.inj hs1_; subst hs1_
          refine And.intro (fun h => by cases h) (And.intro rfl (Fit2.of (fit_loc hU rfl rfl ?_) (by omega)))
          simp only [push_cast, Nat.reduceAdd, Nat.reduceSub, Nat.reduceMul, Nat.reduceLeDiff, Nat.reduceLT, Nat.reduceEqDiff, ↓reduceIte, reduceCtorEq, Int.reduceBEq, Int.reduceBNe, Nat.reduceBEq, Int.reduceLE, Int.reduceLT, Int.reduceEq, Int.reduceNe, Int.reduceNeg, Nat.reduceDiv, Nat.reduceMod, Nat.reducePow, cast_lit, hN0, hN]
      try simp only [gthen, gblock, ↓reduceIte, Nat.reduceEqDiff]
      refine W_drop [] [] ?_
      simp only [push_cast, seval, ↓reduceIte]
      refine W_sq [6] (W_regionD tab_ok [] ?_)
      simp only [push_cast, Nat.reduceAdd, Nat.reduceSub, Nat.reduceMul, Nat.reduceLeDiff, Nat.reduceLT, Nat.reduceEqDiff, ↓reduceIte, reduceCtorEq, Int.reduceBEq, Int.reduceBNe, Nat.reduceBEq, Int.reduceLE, Int.reduceLT, Int.reduceEq, Int.reduceNe, Int.reduceNeg, Nat.reduceDiv, Nat.reduceMod, Nat.reducePow, cast_lit, hN0, hN]
      refine W_ret ?_
      try simp only [gthen, gblock]
      have h := Option.some.inj h; subst h
      refine fin_loc (.inr rfl) hU [.val (.int .i64 0)] (by omega) ?_
      simp only [push_cast, Nat.reduceAdd, Nat.reduceSub, Nat.reduceMul, Nat.reduceLeDiff, Nat.reduceLT, Nat.reduceEqDiff, ↓reduceIte, reduceCtorEq, Int.reduceBEq, Int.reduceBNe, Nat.reduceBEq, Int.reduceLE, Int.reduceLT, Int.reduceEq, Int.reduceNe, Int.reduceNeg, Nat.reduceDiv, Nat.reduceMod, Nat.reducePow, cast_lit, Try.results59, hN0, hN]

theorem ok_slots_Slots_Drop_n {a1 : Int} {r : Int} {O : Objs} {n : Nat} (h : m_slots_Slots_Drop_n a1 = some r) : GTo Try.prog 60 [.val (.pointer none), .val (.int .i64 a1)] O n (.val (.int .i64 r)) O n := by
  unfold m_slots_Slots_Drop_n at h
  refine fn_of tab_ok Try.call60 Try.func60 rfl (Nat.le_of_ble_eq_true rfl) (Nat.le_refl _) fun hU => ?_
  have hN0 : O n = none := hU.fresh _ (Nat.le_refl _)
  have hN : ∀ k, O (n + k) = none := fun k => hU.fresh _ (Nat.le_add_right _ _)
  show W _ _ _ _ ⟨15, [], [(0, .val (.pointer none)), (1, .val (.int .i64 a1))]⟩ (Loc O n []) _
  refine W_sq [0, 1] (W_regionD tab_ok [] ?_)
  simp only [push_cast, Nat.reduceAdd, Nat.reduceSub, Nat.reduceMul, Nat.reduceLeDiff, Nat.reduceLT, Nat.reduceEqDiff, ↓reduceIte, reduceCtorEq, Int.reduceBEq, Int.reduceBNe, Nat.reduceBEq, Int.reduceLE, Int.reduceLT, Int.reduceEq, Int.reduceNe, Int.reduceNeg, Nat.reduceDiv, Nat.reduceMod, Nat.reducePow, cast_lit, hN0, hN]
  refine W_seqK ?_
  refine W_seqK ?_
  obtain ⟨y2, hy2, h⟩ := bC h
  refine W_regionD tab_ok [] ?_
  simp only [push_cast, Nat.reduceAdd, Nat.reduceSub, Nat.reduceMul, Nat.reduceLeDiff, Nat.reduceLT, Nat.reduceEqDiff, ↓reduceIte, reduceCtorEq, Int.reduceBEq, Int.reduceBNe, Nat.reduceBEq, Int.reduceLE, Int.reduceLT, Int.reduceEq, Int.reduceNe, Int.reduceNeg, Nat.reduceDiv, Nat.reduceMod, Nat.reducePow, cast_lit, hN0, hN]
  refine (ok_slots_Slots_Has_n hy2).then ?_
  simp only [push_cast, Nat.reduceAdd, Nat.reduceSub, Nat.reduceMul, Nat.reduceLeDiff, Nat.reduceLT, Nat.reduceEqDiff, ↓reduceIte, reduceCtorEq, Int.reduceBEq, Int.reduceBNe, Nat.reduceBEq, Int.reduceLE, Int.reduceLT, Int.reduceEq, Int.reduceNe, Int.reduceNeg, Nat.reduceDiv, Nat.reduceMod, Nat.reducePow, cast_lit, hN0, hN]
  refine W_drop [0, 1, 8] [] ?_
  simp only [push_cast, seval, ↓reduceIte]
  refine W_cond (t := (!y2)) rfl (fun c3 => ?_) (fun c3 => ?_)
  · replace h := condT c3 h
    refine W_sq [4] (W_regionD tab_ok [] ?_)
    simp only [push_cast, Nat.reduceAdd, Nat.reduceSub, Nat.reduceMul, Nat.reduceLeDiff, Nat.reduceLT, Nat.reduceEqDiff, ↓reduceIte, reduceCtorEq, Int.reduceBEq, Int.reduceBNe, Nat.reduceBEq, Int.reduceLE, Int.reduceLT, Int.reduceEq, Int.reduceNe, Int.reduceNeg, Nat.reduceDiv, Nat.reduceMod, Nat.reducePow, cast_lit, hN0, hN]
    refine W_ret ?_
    try simp only [gthen, gblock]
    have h := Option.some.inj h; subst h
    refine fin_loc (.inr rfl) hU [.val (.int .i64 15)] (by omega) ?_
    simp only [push_cast, Nat.reduceAdd, Nat.reduceSub, Nat.reduceMul, Nat.reduceLeDiff, Nat.reduceLT, Nat.reduceEqDiff, ↓reduceIte, reduceCtorEq, Int.reduceBEq, Int.reduceBNe, Nat.reduceBEq, Int.reduceLE, Int.reduceLT, Int.reduceEq, Int.reduceNe, Int.reduceNeg, Nat.reduceDiv, Nat.reduceMod, Nat.reducePow, cast_lit, Try.results60, hN0, hN]
  · replace h := condF c3 h
    refine W_skip ?_
    try simp only [gthen, gblock]
    refine W_drop [0, 1] [] ?_
    simp only [push_cast, seval, ↓reduceIte]
    refine W_seqK ?_
    cases h

theorem ok_slots_Slots_Full_n  {r : (List Int)} {O : Objs} {n : Nat} (h : m_slots_Slots_Full_n = some r) : GTo Try.prog 62 [.val (.pointer none)] O n (.sl r.length (fl (eI .i64) r)) O n := by
  unfold m_slots_Slots_Full_n at h
  refine fn_of tab_ok Try.call62 Try.func62 rfl (Nat.le_of_ble_eq_true rfl) (Nat.le_refl _) fun hU => ?_
  have hN0 : O n = none := hU.fresh _ (Nat.le_refl _)
  have hN : ∀ k, O (n + k) = none := fun k => hU.fresh _ (Nat.le_add_right _ _)
  show W _ _ _ _ ⟨17, [], [(0, .val (.pointer none))]⟩ (Loc O n []) _
  refine W_sq [0] (W_regionD tab_ok [] ?_)
  simp only [push_cast, Nat.reduceAdd, Nat.reduceSub, Nat.reduceMul, Nat.reduceLeDiff, Nat.reduceLT, Nat.reduceEqDiff, ↓reduceIte, reduceCtorEq, Int.reduceBEq, Int.reduceBNe, Nat.reduceBEq, Int.reduceLE, Int.reduceLT, Int.reduceEq, Int.reduceNe, Int.reduceNeg, Nat.reduceDiv, Nat.reduceMod, Nat.reducePow, cast_lit, hN0, hN]
  refine W_sq [0, 3] (W_regionD tab_ok [] ?_)
  simp only [push_cast, Nat.reduceAdd, Nat.reduceSub, Nat.reduceMul, Nat.reduceLeDiff, Nat.reduceLT, Nat.reduceEqDiff, ↓reduceIte, reduceCtorEq, Int.reduceBEq, Int.reduceBNe, Nat.reduceBEq, Int.reduceLE, Int.reduceLT, Int.reduceEq, Int.reduceNe, Int.reduceNeg, Nat.reduceDiv, Nat.reduceMod, Nat.reducePow, cast_lit, hN0, hN]
  refine W_seqK ?_
  refine W_sq [0, 3, 5] (W_regionD tab_ok [] ?_)
  simp only [push_cast, Nat.reduceAdd, Nat.reduceSub, Nat.reduceMul, Nat.reduceLeDiff, Nat.reduceLT, Nat.reduceEqDiff, ↓reduceIte, reduceCtorEq, Int.reduceBEq, Int.reduceBNe, Nat.reduceBEq, Int.reduceLE, Int.reduceLT, Int.reduceEq, Int.reduceNe, Int.reduceNeg, Nat.reduceDiv, Nat.reduceMod, Nat.reducePow, cast_lit, hN0, hN]
  refine W_drop [0, 3, 5] [] ?_
  simp only [push_cast, seval, ↓reduceIte]
  refine W_fit2 (E' := (⟨17, [], [(0, .val (.pointer none)), (3, .row n ([] : List Int).length), (5, .val (.int .i64 0))]⟩ : Env)) (O' := (Loc O n [some ⟨true, 3, 1, ([] : List Int).length, fl (eI .i64) ([] : List Int)⟩, none])) (n' := (n + 2)) ?_ ?_
  · refine Fit2.trans (E' := (⟨17, [], [(0, .val (.pointer none)), (3, .val (.slice none 0 0)), (5, .val (.int .i64 0))]⟩ : Env)) (O' := (Loc O n [])) (n' := n) (Fit2.of (fit_loc hU rfl rfl ?_) (by omega)) ?_
    · simp only [push_cast, Nat.reduceAdd, Nat.reduceSub, Nat.reduceMul, Nat.reduceLeDiff, Nat.reduceLT, Nat.reduceEqDiff, ↓reduceIte, reduceCtorEq, Int.reduceBEq, Int.reduceBNe, Nat.reduceBEq, Int.reduceLE, Int.reduceLT, Int.reduceEq, Int.reduceNe, Int.reduceNeg, Nat.reduceDiv, Nat.reduceMod, Nat.reducePow, cast_lit, hN0, hN]
    refine Fit2.trans (adopt_fit 3 3 1 rfl (by omega)) ?_
    simp only [Loc_push, Loc_push0, Loc_upd, Loc_upd0, List.set_cons_zero, List.set_cons_succ, List.cons_append, List.nil_append, List.length_cons, List.length_nil, Nat.zero_add, Nat.reduceAdd, Nat.reduceLT, Nat.add_assoc]
    refine Fit2.trans (E' := (⟨17, [], [(0, .val (.pointer none)), (3, .row n ([] : List Int).length), (5, .val (.int .i64 0))]⟩ : Env)) (O' := (Loc O n [some ⟨true, 3, 1, ([] : List Int).length, fl (eI .i64) ([] : List Int)⟩])) (n' := (n + 1)) (Fit2.of (fit_loc hU rfl rfl ?_) (by omega)) ?_
    · simp only [push_cast, Nat.reduceAdd, Nat.reduceSub, Nat.reduceMul, Nat.reduceLeDiff, Nat.reduceLT, Nat.reduceEqDiff, ↓reduceIte, reduceCtorEq, Int.reduceBEq, Int.reduceBNe, Nat.reduceBEq, Int.reduceLE, Int.reduceLT, Int.reduceEq, Int.reduceNe, Int.reduceNeg, Nat.reduceDiv, Nat.reduceMod, Nat.reducePow, cast_lit, hN0, hN]
    refine ren_fit (k := 1) (k' := 2) hU [0] [0, 0] rfl rfl rfl rfl ⟨rfl, rfl⟩ ?_
    simp only [push_cast, Nat.reduceAdd, Nat.reduceSub, Nat.reduceMul, Nat.reduceLeDiff, Nat.reduceLT, Nat.reduceEqDiff, ↓reduceIte, reduceCtorEq, Int.reduceBEq, Int.reduceBNe, Nat.reduceBEq, Int.reduceLE, Int.reduceLT, Int.reduceEq, Int.reduceNe, Int.reduceNeg, Nat.reduceDiv, Nat.reduceMod, Nat.reducePow, cast_lit, hN0, hN]
  obtain ⟨z7, hz7, h⟩ := bC h
  refine W_blockX (E' := ⟨17, [], [(3, .row n z7.length)]⟩) (O' := (Loc O n [some ⟨true, 3, 1, z7.length, fl (eI .i64) z7⟩, none])) (n0 := (n + 2)) ?_ ?_
  · refine W_loopJ hz7 (fun s0_ => ⟨17, [], [(0, .val (.pointer none)), (3, .row n s0_.2.length), (5, .val (.int .i64 s0_.1))]⟩) (fun s0_ => (Loc O n [some ⟨true, 3, 1, s0_.2.length, fl (eI .i64) s0_.2⟩, none])) (fun z7 => JX 0 n (⟨17, [], [(3, .row n z7.length)]⟩ : Env) (Loc O n [some ⟨true, 3, 1, z7.length, fl (eI .i64) z7⟩, none]) (n + 2)) ?_
    intro s0_ x0_ hs0_
    unfold m_slots_Slots_Full_n_L0 at hs0_
    try dsimp only
    refine W_sq [0, 3, 5, 6] (W_regionD tab_ok [] ?_)
    simp only [push_cast, Nat.reduceAdd, Nat.reduceSub, Nat.reduceMul, Nat.reduceLeDiff, Nat.reduceLT, Nat.reduceEqDiff, ↓reduceIte, reduceCtorEq, Int.reduceBEq, Int.reduceBNe, Nat.reduceBEq, Int.reduceLE, Int.reduceLT, Int.reduceEq, Int.reduceNe, Int.reduceNeg, Nat.reduceDiv, Nat.reduceMod, Nat.reducePow, cast_lit, hN0, hN]
    refine W_seqK ?_
    refine W_cond (t := (decide (s0_.1 < 16))) rfl (fun c6 => ?_) (fun c6 => ?_)
    · replace hs0_ := condT c6 hs0_
      refine W_skip ?_
      try simp only [gthen, gblock]
      refine W_drop [0, 3, 5] [true, false] ?_
      simp only [push_cast, seval, ↓reduceIte]
      obtain ⟨z1, hz1, hs0_⟩ := bC hs0_
      refine W_seqN (E' := ⟨17, [], [(0, .val (.pointer none)), (3, .row n z1.length), (5, .val (.int .i64 s0_.1))]⟩) (O' := (Loc O n [some ⟨true, 3, 1, z1.length, fl (eI .i64) z1⟩, none, none])) (n0 := (n + 3)) ?_ ?_
      · refine W_block ?_
        refine W_sq [0, 3, 4, 5] (W_regionD tab_ok [] ?_)
        simp only [push_cast, Nat.reduceAdd, Nat.reduceSub, Nat.reduceMul, Nat.reduceLeDiff, Nat.reduceLT, Nat.reduceEqDiff, ↓reduceIte, reduceCtorEq, Int.reduceBEq, Int.reduceBNe, Nat.reduceBEq, Int.reduceLE, Int.reduceLT, Int.reduceEq, Int.reduceNe, Int.reduceNeg, Nat.reduceDiv, Nat.reduceMod, Nat.reducePow, cast_lit, hN0, hN]
        refine W_seqK ?_
        obtain ⟨y3, hy3, hz1⟩ := bC hz1
        refine W_regionD tab_ok [] ?_
        simp only [push_cast, Nat.reduceAdd, Nat.reduceSub, Nat.reduceMul, Nat.reduceLeDiff, Nat.reduceLT, Nat.reduceEqDiff, ↓reduceIte, reduceCtorEq, Int.reduceBEq, Int.reduceBNe, Nat.reduceBEq, Int.reduceLE, Int.reduceLT, Int.reduceEq, Int.reduceNe, Int.reduceNeg, Nat.reduceDiv, Nat.reduceMod, Nat.reducePow, cast_lit, hN0, hN]
        refine (ok_slots_Slots_Has_n hy3).then ?_
        simp only [push_cast, Nat.reduceAdd, Nat.reduceSub, Nat.reduceMul, Nat.reduceLeDiff, Nat.reduceLT, Nat.reduceEqDiff, ↓reduceIte, reduceCtorEq, Int.reduceBEq, Int.reduceBNe, Nat.reduceBEq, Int.reduceLE, Int.reduceLT, Int.reduceEq, Int.reduceNe, Int.reduceNeg, Nat.reduceDiv, Nat.reduceMod, Nat.reducePow, cast_lit, hN0, hN]
        refine W_drop [0, 3, 4, 5, 10] [true, false] ?_
        simp only [push_cast, seval, ↓reduceIte]
        refine W_cond (t := y3) rfl (fun c5 => ?_) (fun c5 => ?_)
        · replace hz1 := condT c5 hz1
          obtain ⟨l4, pl4, ql4, el4, hz1⟩ := bA (k := 1) rfl hz1
          refine W_regionD tab_ok [] ?_
          simp only [push_cast, Nat.reduceAdd, Nat.reduceSub, Nat.reduceMul, Nat.reduceLeDiff, Nat.reduceLT, Nat.reduceEqDiff, ↓reduceIte, reduceCtorEq, Int.reduceBEq, Int.reduceBNe, Nat.reduceBEq, Int.reduceLE, Int.reduceLT, Int.reduceEq, Int.reduceNe, Int.reduceNeg, Nat.reduceDiv, Nat.reduceMod, Nat.reducePow, cast_lit, pl4, ql4, el4, hN0, hN]
          have hz1 := Option.some.inj hz1; subst hz1
          refine And.intro rfl (Fit2.of (fit_loc hU rfl rfl ?_) (by omega))
          simp only [push_cast, Nat.reduceAdd, Nat.reduceSub, Nat.reduceMul, Nat.reduceLeDiff, Nat.reduceLT, Nat.reduceEqDiff, ↓reduceIte, reduceCtorEq, Int.reduceBEq, Int.reduceBNe, Nat.reduceBEq, Int.reduceLE, Int.reduceLT, Int.reduceEq, Int.reduceNe, Int.reduceNeg, Nat.reduceDiv, Nat.reduceMod, Nat.reducePow, cast_lit, pl4, ql4, el4, hN0, hN]
        · replace hz1 := condF c5 hz1
          refine W_skip ?_
          try simp only [gthen, gblock]
          have hz1 := Option.some.inj hz1; subst hz1
          refine And.intro rfl (Fit2.of (fit_loc hU rfl rfl ?_) (by omega))
          simp only [push_cast, Nat.reduceAdd, Nat.reduceSub, Nat.reduceMul, Nat.reduceLeDiff, Nat.reduceLT, Nat.reduceEqDiff, ↓reduceIte, reduceCtorEq, Int.reduceBEq, Int.reduceBNe, Nat.reduceBEq, Int.reduceLE, Int.reduceLT, Int.reduceEq, Int.reduceNe, Int.reduceNeg, Nat.reduceDiv, Nat.reduceMod, Nat.reducePow, cast_lit, hN0, hN]
      refine W_regionD tab_ok [] ?_
      simp only [push_cast, Nat.reduceAdd, Nat.reduceSub, Nat.reduceMul, Nat.reduceLeDiff, Nat.reduceLT, Nat.reduceEqDiff, ↓reduceIte, reduceCtorEq, Int.reduceBEq, Int.reduceBNe, Nat.reduceBEq, Int.reduceLE, Int.reduceLT, Int.reduceEq, Int.reduceNe, Int.reduceNeg, Nat.reduceDiv, Nat.reduceMod, Nat.reducePow, cast_lit, hN0, hN]
      have hs0_ := Option.some.inj hs0_; subst hs0_
      refine And.intro rfl (Fit2.of (fit_loc hU rfl rfl ?_) (by omega))
      simp only [push_cast, Nat.reduceAdd, Nat.reduceSub, Nat.reduceMul, Nat.reduceLeDiff, Nat.reduceLT, Nat.reduceEqDiff, ↓reduceIte, reduceCtorEq, Int.reduceBEq, Int.reduceBNe, Nat.reduceBEq, Int.reduceLE, Int.reduceLT, Int.reduceEq, Int.reduceNe, Int.reduceNeg, Nat.reduceDiv, Nat.reduceMod, Nat.reducePow, cast_lit, hN0, hN]
    · replace hs0_ := condF c6 hs0_
      refine W_exit ?_
      try simp only [gthen, gblock, ↓reduceIte, Nat.reduceEqDiff]
      have hs0_ := Option.some.inj hs0_; subst hs0_
      refine And.intro (fun h => by cases h) (And.intro rfl (Fit2.of (fit_loc hU rfl rfl ?_) (by omega)))
      simp only [push_cast, Nat.reduceAdd, Nat.reduceSub, Nat.reduceMul, Nat.reduceLeDiff, Nat.reduceLT, Nat.reduceEqDiff, ↓reduceIte, reduceCtorEq, Int.reduceBEq, Int.reduceBNe, Nat.reduceBEq, Int.reduceLE, Int.reduceLT, Int.reduceEq, Int.reduceNe, Int.reduceNeg, Nat.reduceDiv, Nat.reduceMod, Nat.reducePow, cast_lit, hN0, hN]
  try simp only [gthen, gblock, ↓reduceIte, Nat.reduceEqDiff]
  refine W_drop [3] [true, false] ?_
  simp only [push_cast, seval, ↓reduceIte]
  refine W_sq [2] (W_regionD tab_ok [] ?_)
  simp only [push_cast, Nat.reduceAdd, Nat.reduceSub, Nat.reduceMul, Nat.reduceLeDiff, Nat.reduceLT, Nat.reduceEqDiff, ↓reduceIte, reduceCtorEq, Int.reduceBEq, Int.reduceBNe, Nat.reduceBEq, Int.reduceLE, Int.reduceLT, Int.reduceEq, Int.reduceNe, Int.reduceNeg, Nat.reduceDiv, Nat.reduceMod, Nat.reducePow, cast_lit, hN0, hN]
  refine W_ret ?_
  try simp only [gthen, gblock]
  have h := Option.some.inj h; subst h
  refine fin_loc (.inr rfl) hU [.row n z7.length] (by omega) ?_
  simp only [push_cast, Nat.reduceAdd, Nat.reduceSub, Nat.reduceMul, Nat.reduceLeDiff, Nat.reduceLT, Nat.reduceEqDiff, ↓reduceIte, reduceCtorEq, Int.reduceBEq, Int.reduceBNe, Nat.reduceBEq, Int.reduceLE, Int.reduceLT, Int.reduceEq, Int.reduceNe, Int.reduceNeg, Nat.reduceDiv, Nat.reduceMod, Nat.reducePow, cast_lit, Try.results62, hN0, hN]

theorem ok_slots_Slots_Twin_n  {r : (Option S_slots_Slots)} {O : Objs} {n : Nat} (h : m_slots_Slots_Twin_n = some r) : GTo Try.prog 57 [.val (.pointer none)] O n ((gP e_S_slots_Slots r)) O n := by
  unfold m_slots_Slots_Twin_n at h
  refine fn_of tab_ok Try.call57 Try.func57 rfl (Nat.le_of_ble_eq_true rfl) (Nat.le_refl _) fun hU => ?_
  have hN0 : O n = none := hU.fresh _ (Nat.le_refl _)
  have hN : ∀ k, O (n + k) = none := fun k => hU.fresh _ (Nat.le_add_right _ _)
  show W _ _ _ _ ⟨11, [], [(0, .val (.pointer none))]⟩ (Loc O n []) _
  refine W_sq [0] (W_regionD tab_ok [] ?_)
  simp only [push_cast, Nat.reduceAdd, Nat.reduceSub, Nat.reduceMul, Nat.reduceLeDiff, Nat.reduceLT, Nat.reduceEqDiff, ↓reduceIte, reduceCtorEq, Int.reduceBEq, Int.reduceBNe, Nat.reduceBEq, Int.reduceLE, Int.reduceLT, Int.reduceEq, Int.reduceNe, Int.reduceNeg, Nat.reduceDiv, Nat.reduceMod, Nat.reducePow, cast_lit, hN0, hN]
  refine W_seqK ?_
  refine W_sq [0, 4] (W_regionD tab_ok [] ?_)
  simp only [push_cast, Nat.reduceAdd, Nat.reduceSub, Nat.reduceMul, Nat.reduceLeDiff, Nat.reduceLT, Nat.reduceEqDiff, ↓reduceIte, reduceCtorEq, Int.reduceBEq, Int.reduceBNe, Nat.reduceBEq, Int.reduceLE, Int.reduceLT, Int.reduceEq, Int.reduceNe, Int.reduceNeg, Nat.reduceDiv, Nat.reduceMod, Nat.reducePow, cast_lit, hN0, hN]
  refine W_cond (t := true) rfl (fun _ => ?_) (fun hc => by cases hc)
  refine W_sq [2] (W_regionD tab_ok [] ?_)
  simp only [push_cast, Nat.reduceAdd, Nat.reduceSub, Nat.reduceMul, Nat.reduceLeDiff, Nat.reduceLT, Nat.reduceEqDiff, ↓reduceIte, reduceCtorEq, Int.reduceBEq, Int.reduceBNe, Nat.reduceBEq, Int.reduceLE, Int.reduceLT, Int.reduceEq, Int.reduceNe, Int.reduceNeg, Nat.reduceDiv, Nat.reduceMod, Nat.reducePow, cast_lit, hN0, hN]
  refine W_ret ?_
  try simp only [gthen, gblock]
  have h := Option.some.inj h; subst h
  refine fin_loc (.inr rfl) hU [.val (.pointer none)] (by omega) ?_
  simp only [push_cast, Nat.reduceAdd, Nat.reduceSub, Nat.reduceMul, Nat.reduceLeDiff, Nat.reduceLT, Nat.reduceEqDiff, ↓reduceIte, reduceCtorEq, Int.reduceBEq, Int.reduceBNe, Nat.reduceBEq, Int.reduceLE, Int.reduceLT, Int.reduceEq, Int.reduceNe, Int.reduceNeg, Nat.reduceDiv, Nat.reduceMod, Nat.reducePow, cast_lit, Try.results57, hN0, hN]

theorem ok_slots_New  {r : S_slots_Slots} {O : Objs} {n : Nat}  (h : m_slots_New = some r) : GTo Try.prog 53 [] O n (.ref n 0) (Loc O n [some ⟨false, 142, 32, 1, fl e_S_slots_slot r.all.1⟩]) (n + 1) := by
  unfold m_slots_New at h
  refine fn_of tab_ok Try.call53 Try.func53 rfl (Nat.le_of_ble_eq_true rfl) (by omega) fun hU => ?_
  have hN0 : O n = none := hU.fresh _ (Nat.le_refl _)
  have hN : ∀ k, O (n + k) = none := fun k => hU.fresh _ (Nat.le_add_right _ _)
  show W _ _ _ _ ⟨3, [], []⟩ (Loc O n []) _
  refine W_sq [] (W_regionD tab_ok [] ?_)
  simp only [push_cast, Nat.reduceAdd, Nat.reduceSub, Nat.reduceMul, Nat.reduceLeDiff, Nat.reduceLT, Nat.reduceEqDiff, ↓reduceIte, reduceCtorEq, Int.reduceBEq, Int.reduceBNe, Nat.reduceBEq, Int.reduceLE, Int.reduceLT, Int.reduceEq, Int.reduceNe, Int.reduceNeg, Nat.reduceDiv, Nat.reduceMod, Nat.reducePow, cast_lit, hN0, hN]
  refine W_seqK ?_
  obtain ⟨y2, hy2, fy2, h⟩ := bYw (f := e_S_slots_slot) (cs := [.val (.bool false), .val (.slice none 0 0), .val (.bool false), .val (.slice none 0 0), .val (.bool false), .val (.slice none 0 0), .val (.bool false), .val (.slice none 0 0), .val (.bool false), .val (.slice none 0 0), .val (.bool false), .val (.slice none 0 0), .val (.bool false), .val (.slice none 0 0), .val (.bool false), .val (.slice none 0 0), .val (.bool false), .val (.slice none 0 0), .val (.bool false), .val (.slice none 0 0), .val (.bool false), .val (.slice none 0 0), .val (.bool false), .val (.slice none 0 0), .val (.bool false), .val (.slice none 0 0), .val (.bool false), .val (.slice none 0 0), .val (.bool false), .val (.slice none 0 0), .val (.bool false), .val (.slice none 0 0)]) (fun O O' n => by simp only [push_cast, Nat.reduceAdd, Nat.reduceSub, Nat.reduceMul, Nat.reduceLeDiff, Nat.reduceLT, Nat.reduceEqDiff, ↓reduceIte, reduceCtorEq, Int.reduceBEq, Int.reduceBNe, Nat.reduceBEq, Int.reduceLE, Int.reduceLT, Int.reduceEq, Int.reduceNe, Int.reduceNeg, Nat.reduceDiv, Nat.reduceMod, Nat.reducePow, cast_lit, e_S_slots_slot]) h
  refine W_regionD tab_ok [] ?_
  simp only [push_cast, Nat.reduceAdd, Nat.reduceSub, Nat.reduceMul, Nat.reduceLeDiff, Nat.reduceLT, Nat.reduceEqDiff, ↓reduceIte, reduceCtorEq, Int.reduceBEq, Int.reduceBNe, Nat.reduceBEq, Int.reduceLE, Int.reduceLT, Int.reduceEq, Int.reduceNe, Int.reduceNeg, Nat.reduceDiv, Nat.reduceMod, Nat.reducePow, cast_lit, fy2, hN0, hN]
  refine W_fit ⟨3, [], [(0, .ref n 0)]⟩ (Loc O n [some ⟨false, 142, 32, 1, fl e_S_slots_slot y2.1⟩]) (fit_loc hU rfl rfl ?_) ?_
  · simp only [push_cast, Nat.reduceAdd, Nat.reduceSub, Nat.reduceMul, Nat.reduceLeDiff, Nat.reduceLT, Nat.reduceEqDiff, ↓reduceIte, reduceCtorEq, Int.reduceBEq, Int.reduceBNe, Nat.reduceBEq, Int.reduceLE, Int.reduceLT, Int.reduceEq, Int.reduceNe, Int.reduceNeg, Nat.reduceDiv, Nat.reduceMod, Nat.reducePow, cast_lit, fy2, hN0, hN]
  refine W_ret ?_
  try simp only [gthen, gblock]
  have h := Option.some.inj h; subst h
  refine fin_locW (k := 1) (L3 := [some ⟨false, 142, 32, 1, fl e_S_slots_slot y2.1⟩, none]) (E2 := (⟨3, [], [(0, .ref n 0)]⟩ : Env)) (n3 := (n + 2)) (.inr rfl) hU rfl [.ref n 0] ?_ ?_
  · refine Fit2.trans (E' := (⟨3, [], [(0, .ref n 0)]⟩ : Env)) (O' := (Loc O n [some ⟨false, 142, 32, 1, fl e_S_slots_slot y2.1⟩])) (n' := (n + 1)) (Fit2.of (fit_loc hU rfl rfl ?_) (by omega)) ?_
    · simp only [push_cast, Nat.reduceAdd, Nat.reduceSub, Nat.reduceMul, Nat.reduceLeDiff, Nat.reduceLT, Nat.reduceEqDiff, ↓reduceIte, reduceCtorEq, Int.reduceBEq, Int.reduceBNe, Nat.reduceBEq, Int.reduceLE, Int.reduceLT, Int.reduceEq, Int.reduceNe, Int.reduceNeg, Nat.reduceDiv, Nat.reduceMod, Nat.reducePow, cast_lit, hN0, hN]
    refine ren_fit (k := 1) (k' := 2) hU [0] [0, 0] rfl rfl rfl rfl ⟨rfl, rfl⟩ ?_
    simp only [push_cast, Nat.reduceAdd, Nat.reduceSub, Nat.reduceMul, Nat.reduceLeDiff, Nat.reduceLT, Nat.reduceEqDiff, ↓reduceIte, reduceCtorEq, Int.reduceBEq, Int.reduceBNe, Nat.reduceBEq, Int.reduceLE, Int.reduceLT, Int.reduceEq, Int.reduceNe, Int.reduceNeg, Nat.reduceDiv, Nat.reduceMod, Nat.reducePow, cast_lit, hN0, hN]
  simp only [push_cast, Nat.reduceAdd, Nat.reduceSub, Nat.reduceMul, Nat.reduceLeDiff, Nat.reduceLT, Nat.reduceEqDiff, ↓reduceIte, reduceCtorEq, Int.reduceBEq, Int.reduceBNe, Nat.reduceBEq, Int.reduceLE, Int.reduceLT, Int.reduceEq, Int.reduceNe, Int.reduceNeg, Nat.reduceDiv, Nat.reduceMod, Nat.reducePow, cast_lit, Try.results53, hN0, hN]

theorem ok_slots_Slots_there {a0 : S_slots_Slots} {a1 : Int} {r : (Bool × S_slots_Slots)} {O : Objs} {n : Nat} {i0 : Nat} (hi0 : i0 < n) (ho0 : O i0 = some ⟨false, 142, 32, 1, fl e_S_slots_slot a0.all.1⟩) (h : m_slots_Slots_there a0 a1 = some r) : GTo Try.prog 96 [.ref i0 0, .val (.int .i64 a1)] O n (.val (.bool r.1)) (Loc (O.upd i0 (some ⟨false, 142, 32, 1, fl e_S_slots_slot r.2.all.1⟩)) n []) (n + 0) := by
  unfold m_slots_Slots_there at h
  refine fn_of tab_ok Try.call96 Try.func96 rfl (Nat.le_of_ble_eq_true rfl) (by omega) fun hU => ?_
  rw [show Loc O n [] = Loc (O.upd i0 (some ⟨false, 142, 32, 1, fl e_S_slots_slot a0.all.1⟩)) n [] from by rw [upd_self (show O i0 = _ from by exact ho0)]]
  have hk0 : ∀ k, i0 < n + k := fun k => by omega
  have hN0 : ∀ o, Objs.upd O i0 o n = none := fun o => upd_fresh hU hi0 _ (Nat.le_refl _)
  have hN : ∀ o k, Objs.upd O i0 o (n + k) = none := fun o k => upd_fresh hU hi0 _ (Nat.le_add_right _ _)
  show W _ _ _ _ ⟨15, [], [(0, .ref i0 0), (1, .val (.int .i64 a1))]⟩ (Loc (O.upd i0 (some ⟨false, 142, 32, 1, fl e_S_slots_slot a0.all.1⟩)) n []) _
  refine W_sq [0, 1] (W_regionD tab_ok [] ?_)
  simp only [push_cast, Nat.reduceAdd, Nat.reduceSub, Nat.reduceMul, Nat.reduceLeDiff, Nat.reduceLT, Nat.reduceEqDiff, ↓reduceIte, reduceCtorEq, Int.reduceBEq, Int.reduceBNe, Nat.reduceBEq, Int.reduceLE, Int.reduceLT, Int.reduceEq, Int.reduceNe, Int.reduceNeg, Nat.reduceDiv, Nat.reduceMod, Nat.reducePow, cast_lit, hi0, hk0, hN0, hN]
  refine W_sq [4] (W_regionD tab_ok [some true, some true, none, none] ?_)
  simp only [push_cast, Nat.reduceAdd, Nat.reduceSub, Nat.reduceMul, Nat.reduceLeDiff, Nat.reduceLT, Nat.reduceEqDiff, ↓reduceIte, reduceCtorEq, Int.reduceBEq, Int.reduceBNe, Nat.reduceBEq, Int.reduceLE, Int.reduceLT, Int.reduceEq, Int.reduceNe, Int.reduceNeg, Nat.reduceDiv, Nat.reduceMod, Nat.reducePow, cast_lit, hi0, hk0, hN0, hN]
  repeat (with_reducible refine And.intro (by first | (intro h0; simp only [h0, and_self]; done) | (intro h0; simp only [h0, Bool.not_false, Bool.not_true, Bool.true_and, Bool.and_true, true_and, and_true, and_self, imp_self, implies_true, bne_iff_ne, ne_eq, beq_iff_eq]; done) | (intros; simp_all; done) | exact True.intro) ?_)
  refine W_ret ?_
  try simp only [gthen, gblock]
  have h := Option.some.inj h; subst h
  refine fin_locV (k := 0) (i := i0) (q1 := ⟨false, 142, 32, 1, fl e_S_slots_slot a0.all.1⟩) (L3 := [none]) (E2 := (⟨15, [], [(4, .val (.bool (cond (decide (0 ≤ a1)) (decide (a1 < 16)) false)))]⟩ : Env)) (n3 := (n + 1)) (.inr rfl) hU rfl [.val (.bool (cond (decide (0 ≤ a1)) (decide (a1 < 16)) false))] ?_ ?_
  · refine Fit2.trans (E' := (⟨15, [], [(4, .val (.bool (cond (decide (0 ≤ a1)) (decide (a1 < 16)) false)))]⟩ : Env)) (O' := (Loc (O.upd i0 (some ⟨false, 142, 32, 1, fl e_S_slots_slot a0.all.1⟩)) n [])) (n' := n) (Fit2.of (fit_loco hU rfl rfl ?_) (by omega)) ?_
    · simp only [push_cast, Nat.reduceAdd, Nat.reduceSub, Nat.reduceMul, Nat.reduceLeDiff, Nat.reduceLT, Nat.reduceEqDiff, ↓reduceIte, reduceCtorEq, Int.reduceBEq, Int.reduceBNe, Nat.reduceBEq, Int.reduceLE, Int.reduceLT, Int.reduceEq, Int.reduceNe, Int.reduceNeg, Nat.reduceDiv, Nat.reduceMod, Nat.reducePow, cast_lit, hi0, hk0, hN0, hN]
    refine ren_fito (k := 0) (k' := 1) hU [] [0] rfl rfl rfl rfl ⟨rfl, rfl⟩ ?_
    simp only [push_cast, Nat.reduceAdd, Nat.reduceSub, Nat.reduceMul, Nat.reduceLeDiff, Nat.reduceLT, Nat.reduceEqDiff, ↓reduceIte, reduceCtorEq, Int.reduceBEq, Int.reduceBNe, Nat.reduceBEq, Int.reduceLE, Int.reduceLT, Int.reduceEq, Int.reduceNe, Int.reduceNeg, Nat.reduceDiv, Nat.reduceMod, Nat.reducePow, cast_lit, hi0, hk0, hN0, hN]
  simp only [push_cast, Nat.reduceAdd, Nat.reduceSub, Nat.reduceMul, Nat.reduceLeDiff, Nat.reduceLT, Nat.reduceEqDiff, ↓reduceIte, reduceCtorEq, Int.reduceBEq, Int.reduceBNe, Nat.reduceBEq, Int.reduceLE, Int.reduceLT, Int.reduceEq, Int.reduceNe, Int.reduceNeg, Nat.reduceDiv, Nat.reduceMod, Nat.reducePow, cast_lit, Try.results96, hi0, hk0, hN0, hN]

theorem ok_slots_Slots_Put {a0 : S_slots_Slots} {a1 : (List Int)} {a2 : (List (List Int))} {r : (Int × S_slots_Slots)} {O : Objs} {n : Nat} {i0 : Nat} (hi0 : i0 < n) (ho0 : O i0 = some ⟨false, 142, 32, 1, fl e_S_slots_slot a0.all.1⟩) (h : m_slots_Slots_Put a0 a1 a2 = some r) : GTo Try.prog 59 [.ref i0 0, .sl a1.length (fl (eI .i64) a1), .sl a2.length (fl (eL (eI .u64)) a2)] O n (.val (.int .i64 r.1)) (Loc (O.upd i0 (some ⟨false, 142, 32, 1, fl e_S_slots_slot r.2.all.1⟩)) n []) (n + 0) := by
  unfold m_slots_Slots_Put at h
  refine fn_of tab_ok Try.call59 Try.func59 rfl (Nat.le_of_ble_eq_true rfl) (by omega) fun hU => ?_
  rw [show Loc O n [] = Loc (O.upd i0 (some ⟨false, 142, 32, 1, fl e_S_slots_slot a0.all.1⟩)) n [] from by rw [upd_self (show O i0 = _ from by exact ho0)]]
  have hk0 : ∀ k, i0 < n + k := fun k => by omega
  have hN0 : ∀ o, Objs.upd O i0 o n = none := fun o => upd_fresh hU hi0 _ (Nat.le_refl _)
  have hN : ∀ o k, Objs.upd O i0 o (n + k) = none := fun o k => upd_fresh hU hi0 _ (Nat.le_add_right _ _)
  show W _ _ _ _ ⟨46, [], [(0, .ref i0 0), (1, .sl a1.length (fl (eI .i64) a1)), (2, .sl a2.length (fl (eL (eI .u64)) a2))]⟩ (Loc (O.upd i0 (some ⟨false, 142, 32, 1, fl e_S_slots_slot a0.all.1⟩)) n []) _
  refine W_sq [0, 1, 2] (W_regionD tab_ok [] ?_)
  simp only [push_cast, Nat.reduceAdd, Nat.reduceSub, Nat.reduceMul, Nat.reduceLeDiff, Nat.reduceLT, Nat.reduceEqDiff, ↓reduceIte, reduceCtorEq, Int.reduceBEq, Int.reduceBNe, Nat.reduceBEq, Int.reduceLE, Int.reduceLT, Int.reduceEq, Int.reduceNe, Int.reduceNeg, Nat.reduceDiv, Nat.reduceMod, Nat.reducePow, cast_lit, hi0, hk0, hN0, hN]
  refine W_seqK ?_
  refine W_sq [0, 1, 2, 15] (W_regionD tab_ok [] ?_)
  simp only [push_cast, Nat.reduceAdd, Nat.reduceSub, Nat.reduceMul, Nat.reduceLeDiff, Nat.reduceLT, Nat.reduceEqDiff, ↓reduceIte, reduceCtorEq, Int.reduceBEq, Int.reduceBNe, Nat.reduceBEq, Int.reduceLE, Int.reduceLT, Int.reduceEq, Int.reduceNe, Int.reduceNeg, Nat.reduceDiv, Nat.reduceMod, Nat.reducePow, cast_lit, hi0, hk0, hN0, hN]
  refine W_cond (t := ((a1.length : Int) != (a2.length : Int))) rfl (fun c16 => ?_) (fun c16 => ?_)
  · replace h := condT c16 h
    refine W_sq [6] (W_regionD tab_ok [] ?_)
    simp only [push_cast, Nat.reduceAdd, Nat.reduceSub, Nat.reduceMul, Nat.reduceLeDiff, Nat.reduceLT, Nat.reduceEqDiff, ↓reduceIte, reduceCtorEq, Int.reduceBEq, Int.reduceBNe, Nat.reduceBEq, Int.reduceLE, Int.reduceLT, Int.reduceEq, Int.reduceNe, Int.reduceNeg, Nat.reduceDiv, Nat.reduceMod, Nat.reducePow, cast_lit, hi0, hk0, hN0, hN]
    refine W_ret ?_
    try simp only [gthen, gblock]
    have h := Option.some.inj h; subst h
    refine fin_locV (k := 0) (i := i0) (q1 := ⟨false, 142, 32, 1, fl e_S_slots_slot a0.all.1⟩) (L3 := [none]) (E2 := (⟨46, [], [(6, .val (.int .i64 2))]⟩ : Env)) (n3 := (n + 1)) (.inr rfl) hU rfl [.val (.int .i64 2)] ?_ ?_
    · refine Fit2.trans (E' := (⟨46, [], [(6, .val (.int .i64 2))]⟩ : Env)) (O' := (Loc (O.upd i0 (some ⟨false, 142, 32, 1, fl e_S_slots_slot a0.all.1⟩)) n [])) (n' := n) (Fit2.of (fit_loco hU rfl rfl ?_) (by omega)) ?_
      · simp only [push_cast, Nat.reduceAdd, Nat.reduceSub, Nat.reduceMul, Nat.reduceLeDiff, Nat.reduceLT, Nat.reduceEqDiff, ↓reduceIte, reduceCtorEq, Int.reduceBEq, Int.reduceBNe, Nat.reduceBEq, Int.reduceLE, Int.reduceLT, Int.reduceEq, Int.reduceNe, Int.reduceNeg, Nat.reduceDiv, Nat.reduceMod, Nat.reducePow, cast_lit, hi0, hk0, hN0, hN]
      refine ren_fito (k := 0) (k' := 1) hU [] [0] rfl rfl rfl rfl ⟨rfl, rfl⟩ ?_
      simp only [push_cast, Nat.reduceAdd, Nat.reduceSub, Nat.reduceMul, Nat.reduceLeDiff, Nat.reduceLT, Nat.reduceEqDiff, ↓reduceIte, reduceCtorEq, Int.reduceBEq, Int.reduceBNe, Nat.reduceBEq, Int.reduceLE, Int.reduceLT, Int.reduceEq, Int.reduceNe, Int.reduceNeg, Nat.reduceDiv, Nat.reduceMod, Nat.reducePow, cast_lit, hi0, hk0, hN0, hN]
    simp only [push_cast, Nat.reduceAdd, Nat.reduceSub, Nat.reduceMul, Nat.reduceLeDiff, Nat.reduceLT, Nat.reduceEqDiff, ↓reduceIte, reduceCtorEq, Int.reduceBEq, Int.reduceBNe, Nat.reduceBEq, Int.reduceLE, Int.reduceLT, Int.reduceEq, Int.reduceNe, Int.reduceNeg, Nat.reduceDiv, Nat.reduceMod, Nat.reducePow, cast_lit, Try.results59, hi0, hk0, hN0, hN]
  · replace h := condF c16 h
    refine W_skip ?_
    try simp only [gthen, gblock]
    refine W_drop [0, 1, 2] [] ?_
    simp only [push_cast, seval, ↓reduceIte]
    refine W_seqK ?_
    refine W_sq [0, 1, 2, 16, 17, 18] (W_regionD tab_ok [] ?_)
    simp only [push_cast, Nat.reduceAdd, Nat.reduceSub, Nat.reduceMul, Nat.reduceLeDiff, Nat.reduceLT, Nat.reduceEqDiff, ↓reduceIte, reduceCtorEq, Int.reduceBEq, Int.reduceBNe, Nat.reduceBEq, Int.reduceLE, Int.reduceLT, Int.reduceEq, Int.reduceNe, Int.reduceNeg, Nat.reduceDiv, Nat.reduceMod, Nat.reducePow, cast_lit, hi0, hk0, hN0, hN]
    refine W_drop [0, 1, 2, 16, 17, 18] [] ?_
    simp only [push_cast, seval, ↓reduceIte]
    obtain ⟨z7, hz7, h⟩ := bC h
    refine W_sumB (J := (SumJ (fun z7 => JR n (⟨46, [], [(6, .val (.int .i64 15))]⟩ : Env) (Loc (O.upd i0 (some ⟨false, 142, 32, 1, fl e_S_slots_slot z7.1⟩)) n []) n) (fun z7 => JX 0 n (⟨46, [], [(0, .ref i0 0), (1, .sl a1.length (fl (eI .i64) a1)), (2, .sl a2.length (fl (eL (eI .u64)) a2))]⟩ : Env) (Loc (O.upd i0 (some ⟨false, 142, 32, 1, fl e_S_slots_slot z7.1⟩)) n []) n))) (z := z7) ?_ fun hw => ?_
    · refine W_loopJ hz7 (fun s0_ => ⟨46, [], [(0, .ref i0 0), (1, .sl a1.length (fl (eI .i64) a1)), (2, .sl a2.length (fl (eL (eI .u64)) a2)), (16, .sl a1.length (fl (eI .i64) a1)), (17, .val (.int .i64 (a1.length : Int))), (18, .val (.int .i64 s0_.1))]⟩) (fun s0_ => (Loc (O.upd i0 (some ⟨false, 142, 32, 1, fl e_S_slots_slot s0_.2.1⟩)) n [])) (SumJ (fun z7 => JR n (⟨46, [], [(6, .val (.int .i64 15))]⟩ : Env) (Loc (O.upd i0 (some ⟨false, 142, 32, 1, fl e_S_slots_slot z7.1⟩)) n []) n) (fun z7 => JX 0 n (⟨46, [], [(0, .ref i0 0), (1, .sl a1.length (fl (eI .i64) a1)), (2, .sl a2.length (fl (eL (eI .u64)) a2))]⟩ : Env) (Loc (O.upd i0 (some ⟨false, 142, 32, 1, fl e_S_slots_slot z7.1⟩)) n []) n)) ?_
      intro s0_ x0_ hs0_
      unfold m_slots_Slots_Put_L0 at hs0_
      try dsimp only
      refine W_sq [0, 1, 2, 16, 17, 18, 19] (W_regionD tab_ok [] ?_)
      simp only [push_cast, Nat.reduceAdd, Nat.reduceSub, Nat.reduceMul, Nat.reduceLeDiff, Nat.reduceLT, Nat.reduceEqDiff, ↓reduceIte, reduceCtorEq, Int.reduceBEq, Int.reduceBNe, Nat.reduceBEq, Int.reduceLE, Int.reduceLT, Int.reduceEq, Int.reduceNe, Int.reduceNeg, Nat.reduceDiv, Nat.reduceMod, Nat.reducePow, cast_lit, hi0, hk0, hN0, hN]
      refine W_seqK ?_
      refine W_cond (t := (decide (s0_.1 < (a1.length : Int)))) rfl (fun c6 => ?_) (fun c6 => ?_)
      · replace hs0_ := condT c6 hs0_
        refine W_skip ?_
        try simp only [gthen, gblock]
        refine W_drop [0, 1, 2, 16, 17, 18] [] ?_
        simp only [push_cast, seval, ↓reduceIte]
        refine W_seqK ?_
        refine W_block ?_
        obtain ⟨x2, hx2, ax2, bx2, cx2, hs0_⟩ := bE (f := (eI .i64)) tab3 (fun _ => rfl) (by decide) hs0_
        refine W_sq [0, 1, 2, 8, 16, 17, 18] (W_regionD tab_ok [] ?_)
        simp only [push_cast, Nat.reduceAdd, Nat.reduceSub, Nat.reduceMul, Nat.reduceLeDiff, Nat.reduceLT, Nat.reduceEqDiff, ↓reduceIte, reduceCtorEq, Int.reduceBEq, Int.reduceBNe, Nat.reduceBEq, Int.reduceLE, Int.reduceLT, Int.reduceEq, Int.reduceNe, Int.reduceNeg, Nat.reduceDiv, Nat.reduceMod, Nat.reducePow, cast_lit, ax2, bx2, cx2, hi0, hk0, hN0, hN]
        refine W_seqK ?_
        obtain ⟨y4, hy4, hs0_⟩ := bC hs0_
        refine W_regionD tab_ok [] ?_
        simp only [push_cast, Nat.reduceAdd, Nat.reduceSub, Nat.reduceMul, Nat.reduceLeDiff, Nat.reduceLT, Nat.reduceEqDiff, ↓reduceIte, reduceCtorEq, Int.reduceBEq, Int.reduceBNe, Nat.reduceBEq, Int.reduceLE, Int.reduceLT, Int.reduceEq, Int.reduceNe, Int.reduceNeg, Nat.reduceDiv, Nat.reduceMod, Nat.reducePow, cast_lit, hi0, hk0, hN0, hN]
        refine (ok_slots_Slots_there (i0 := i0) (by omega) (by simp only [push_cast, Nat.reduceAdd, Nat.reduceSub, Nat.reduceMul, Nat.reduceLeDiff, Nat.reduceLT, Nat.reduceEqDiff, ↓reduceIte, reduceCtorEq, Int.reduceBEq, Int.reduceBNe, Nat.reduceBEq, Int.reduceLE, Int.reduceLT, Int.reduceEq, Int.reduceNe, Int.reduceNeg, Nat.reduceDiv, Nat.reduceMod, Nat.reducePow, cast_lit, fl_nil, hi0, hk0, hN0, hN] <;> rfl) hy4).then ?_
        simp only [push_cast, Nat.reduceAdd, Nat.reduceSub, Nat.reduceMul, Nat.reduceLeDiff, Nat.reduceLT, Nat.reduceEqDiff, ↓reduceIte, reduceCtorEq, Int.reduceBEq, Int.reduceBNe, Nat.reduceBEq, Int.reduceLE, Int.reduceLT, Int.reduceEq, Int.reduceNe, Int.reduceNeg, Nat.reduceDiv, Nat.reduceMod, Nat.reducePow, cast_lit, hi0, hk0, hN0, hN]
        refine W_drop [0, 1, 2, 16, 17, 18, 25] [] ?_
        simp only [push_cast, seval, ↓reduceIte]
        refine W_cond (t := (!y4.1)) rfl (fun c5 => ?_) (fun c5 => ?_)
        · replace hs0_ := condT c5 hs0_
          refine W_sq [6] (W_regionD tab_ok [] ?_)
          simp only [push_cast, Nat.reduceAdd, Nat.reduceSub, Nat.reduceMul, Nat.reduceLeDiff, Nat.reduceLT, Nat.reduceEqDiff, ↓reduceIte, reduceCtorEq, Int.reduceBEq, Int.reduceBNe, Nat.reduceBEq, Int.reduceLE, Int.reduceLT, Int.reduceEq, Int.reduceNe, Int.reduceNeg, Nat.reduceDiv, Nat.reduceMod, Nat.reducePow, cast_lit, hi0, hk0, hN0, hN]
          refine W_ret ?_
          try simp only [gthen, gblock]
          have hs0_ := Option.some.inj hs0_; subst hs0_
          refine And.intro (fun h => by cases h) (And.intro rfl (Fit2.of (fit_loco hU rfl rfl ?_) (by omega)))
          simp only [push_cast, Nat.reduceAdd, Nat.reduceSub, Nat.reduceMul, Nat.reduceLeDiff, Nat.reduceLT, Nat.reduceEqDiff, ↓reduceIte, reduceCtorEq, Int.reduceBEq, Int.reduceBNe, Nat.reduceBEq, Int.reduceLE, Int.reduceLT, Int.reduceEq, Int.reduceNe, Int.reduceNeg, Nat.reduceDiv, Nat.reduceMod, Nat.reducePow, cast_lit, hi0, hk0, hN0, hN]
        · replace hs0_ := condF c5 hs0_
          refine W_skip ?_
          try simp only [gthen, gblock]
          refine W_drop [0, 1, 2, 16, 17, 18] [] ?_
          simp only [push_cast, seval, ↓reduceIte]
          refine W_regionD tab_ok [] ?_
          simp only [push_cast, Nat.reduceAdd, Nat.reduceSub, Nat.reduceMul, Nat.reduceLeDiff, Nat.reduceLT, Nat.reduceEqDiff, ↓reduceIte, reduceCtorEq, Int.reduceBEq, Int.reduceBNe, Nat.reduceBEq, Int.reduceLE, Int.reduceLT, Int.reduceEq, Int.reduceNe, Int.reduceNeg, Nat.reduceDiv, Nat.reduceMod, Nat.reducePow, cast_lit, hi0, hk0, hN0, hN]
          have hs0_ := Option.some.inj hs0_; subst hs0_
          refine And.intro rfl (Fit2.of (fit_loco hU rfl rfl ?_) (by omega))
          simp only [push_cast, Nat.reduceAdd, Nat.reduceSub, Nat.reduceMul, Nat.reduceLeDiff, Nat.reduceLT, Nat.reduceEqDiff, ↓reduceIte, reduceCtorEq, Int.reduceBEq, Int.reduceBNe, Nat.reduceBEq, Int.reduceLE, Int.reduceLT, Int.reduceEq, Int.reduceNe, Int.reduceNeg, Nat.reduceDiv, Nat.reduceMod, Nat.reducePow, cast_lit, hi0, hk0, hN0, hN]
      · replace hs0_ := condF c6 hs0_
        refine W_exit ?_
        try simp only [gthen, gblock, ↓reduceIte, Nat.reduceEqDiff]
        have hs0_ := Option.some.inj hs0_; subst hs0_
        refine And.intro (fun h => by cases h) (And.intro rfl (Fit2.of (fit_loco hU rfl rfl ?_) (by omega)))
        simp only [push_cast, Nat.reduceAdd, Nat.reduceSub, Nat.reduceMul, Nat.reduceLeDiff, Nat.reduceLT, Nat.reduceEqDiff, ↓reduceIte, reduceCtorEq, Int.reduceBEq, Int.reduceBNe, Nat.reduceBEq, Int.reduceLE, Int.reduceLT, Int.reduceEq, Int.reduceNe, Int.reduceNeg, Nat.reduceDiv, Nat.reduceMod, Nat.reducePow, cast_lit, hi0, hk0, hN0, hN]
    rcases z7 with z7 | z7
    · dsimp only [SumJ] at hw h
      refine W_blockR hw ?_
      try simp only [gthen, gblock, ↓reduceIte, Nat.reduceEqDiff]
      have h := Option.some.inj h; subst h
      refine fin_locV (k := 0) (i := i0) (q1 := ⟨false, 142, 32, 1, fl e_S_slots_slot z7.1⟩) (L3 := [none]) (E2 := (⟨46, [], [(6, .val (.int .i64 15))]⟩ : Env)) (n3 := (n + 1)) (.inr rfl) hU rfl [.val (.int .i64 15)] ?_ ?_
      · refine Fit2.trans (E' := (⟨46, [], [(6, .val (.int .i64 15))]⟩ : Env)) (O' := (Loc (O.upd i0 (some ⟨false, 142, 32, 1, fl e_S_slots_slot z7.1⟩)) n [])) (n' := n) (Fit2.of (fit_loco hU rfl rfl ?_) (by omega)) ?_
        · simp only [push_cast, Nat.reduceAdd, Nat.reduceSub, Nat.reduceMul, Nat.reduceLeDiff, Nat.reduceLT, Nat.reduceEqDiff, ↓reduceIte, reduceCtorEq, Int.reduceBEq, Int.reduceBNe, Nat.reduceBEq, Int.reduceLE, Int.reduceLT, Int.reduceEq, Int.reduceNe, Int.reduceNeg, Nat.reduceDiv, Nat.reduceMod, Nat.reducePow, cast_lit, hi0, hk0, hN0, hN]
        refine ren_fito (k := 0) (k' := 1) hU [] [0] rfl rfl rfl rfl ⟨rfl, rfl⟩ ?_
        simp only [push_cast, Nat.reduceAdd, Nat.reduceSub, Nat.reduceMul, Nat.reduceLeDiff, Nat.reduceLT, Nat.reduceEqDiff, ↓reduceIte, reduceCtorEq, Int.reduceBEq, Int.reduceBNe, Nat.reduceBEq, Int.reduceLE, Int.reduceLT, Int.reduceEq, Int.reduceNe, Int.reduceNeg, Nat.reduceDiv, Nat.reduceMod, Nat.reducePow, cast_lit, hi0, hk0, hN0, hN]
      simp only [push_cast, Nat.reduceAdd, Nat.reduceSub, Nat.reduceMul, Nat.reduceLeDiff, Nat.reduceLT, Nat.reduceEqDiff, ↓reduceIte, reduceCtorEq, Int.reduceBEq, Int.reduceBNe, Nat.reduceBEq, Int.reduceLE, Int.reduceLT, Int.reduceEq, Int.reduceNe, Int.reduceNeg, Nat.reduceDiv, Nat.reduceMod, Nat.reducePow, cast_lit, Try.results59, hi0, hk0, hN0, hN]
    · dsimp only [SumJ] at hw h
      refine W_blockX hw ?_
      try simp only [gthen, gblock, ↓reduceIte, Nat.reduceEqDiff]
      refine W_drop [0, 1, 2] [] ?_
      simp only [push_cast, seval, ↓reduceIte]
      refine W_seqK ?_
      refine W_sq [0, 2, 27, 28, 29] (W_regionD tab_ok [] ?_)
      simp only [push_cast, Nat.reduceAdd, Nat.reduceSub, Nat.reduceMul, Nat.reduceLeDiff, Nat.reduceLT, Nat.reduceEqDiff, ↓reduceIte, reduceCtorEq, Int.reduceBEq, Int.reduceBNe, Nat.reduceBEq, Int.reduceLE, Int.reduceLT, Int.reduceEq, Int.reduceNe, Int.reduceNeg, Nat.reduceDiv, Nat.reduceMod, Nat.reducePow, cast_lit, hi0, hk0, hN0, hN]
      refine W_drop [0, 2, 27, 28, 29] [] ?_
      simp only [push_cast, seval, ↓reduceIte]
      obtain ⟨z15, hz15, h⟩ := bC h
      refine W_blockX (E' := ⟨46, [], []⟩) (O' := (Loc (O.upd i0 (some ⟨false, 142, 32, 1, fl e_S_slots_slot z15.1⟩)) n [])) (n0 := n) ?_ ?_
      · refine W_loopJ hz15 (fun s1_ => ⟨46, [], [(0, .ref i0 0), (2, .sl a2.length (fl (eL (eI .u64)) a2)), (27, .sl a1.length (fl (eI .i64) a1)), (28, .val (.int .i64 (a1.length : Int))), (29, .val (.int .i64 s1_.1))]⟩) (fun s1_ => (Loc (O.upd i0 (some ⟨false, 142, 32, 1, fl e_S_slots_slot s1_.2.1⟩)) n [])) (fun z15 => JX 2 n (⟨46, [], []⟩ : Env) (Loc (O.upd i0 (some ⟨false, 142, 32, 1, fl e_S_slots_slot z15.1⟩)) n []) n) ?_
        intro s1_ x1_ hs1_
        unfold m_slots_Slots_Put_L1 at hs1_
        try dsimp only
        refine W_sq [0, 2, 27, 28, 29, 30] (W_regionD tab_ok [] ?_)
        simp only [push_cast, Nat.reduceAdd, Nat.reduceSub, Nat.reduceMul, Nat.reduceLeDiff, Nat.reduceLT, Nat.reduceEqDiff, ↓reduceIte, reduceCtorEq, Int.reduceBEq, Int.reduceBNe, Nat.reduceBEq, Int.reduceLE, Int.reduceLT, Int.reduceEq, Int.reduceNe, Int.reduceNeg, Nat.reduceDiv, Nat.reduceMod, Nat.reducePow, cast_lit, hi0, hk0, hN0, hN]
        refine W_seqK ?_
        refine W_cond (t := (decide (s1_.1 < (a1.length : Int)))) rfl (fun c14 => ?_) (fun c14 => ?_)
        · replace hs1_ := condT c14 hs1_
          refine W_skip ?_
          try simp only [gthen, gblock]
          refine W_drop [0, 2, 27, 28, 29] [] ?_
          simp only [push_cast, seval, ↓reduceIte]
          refine W_seqK ?_
          refine W_block ?_
          obtain ⟨x9, hx9, ax9, bx9, cx9, hs1_⟩ := bE (f := (eI .i64)) tab3 (fun _ => rfl) (by decide) hs1_
          refine W_sq [0, 2, 9, 10, 27, 28, 29] (W_regionD tab_ok [] ?_)
          simp only [push_cast, Nat.reduceAdd, Nat.reduceSub, Nat.reduceMul, Nat.reduceLeDiff, Nat.reduceLT, Nat.reduceEqDiff, ↓reduceIte, reduceCtorEq, Int.reduceBEq, Int.reduceBNe, Nat.reduceBEq, Int.reduceLE, Int.reduceLT, Int.reduceEq, Int.reduceNe, Int.reduceNeg, Nat.reduceDiv, Nat.reduceMod, Nat.reducePow, cast_lit, ax9, bx9, cx9, hi0, hk0, hN0, hN]
          obtain ⟨x10, hx10, ax10, bx10, cx10, hs1_⟩ := bE (f := (eL (eI .u64))) tab38 (fun _ => rfl) (by decide) hs1_
          obtain ⟨y11, hy11, hs1_⟩ := bC hs1_
          obtain ⟨x12, hx12, ax12, bx12, cx12, hs1_⟩ := bEA (f := e_S_slots_slot) (b := 16) rfl tab139 (fun _ => rfl) (by decide) hs1_
          replace cx12 := (by have := gpart_mid (A := []) (C := []) (o := 0) (rfl) (show gpart _ _ _ _ = some (.agg (e_S_slots_slot x12)) from cx12); simpa only [List.nil_append, List.append_nil, List.append_assoc, Nat.zero_add, Nat.add_zero] using this)
          have gu13 : gplace (fl e_S_slots_slot s1_.2.1) [.val (.bool true), .sl y11.length (fl (eI .u64) y11)] (Int.toNat x9 * 2) = some (fl e_S_slots_slot (setI s1_.2.1 x9 (⟨true, y11⟩ : S_slots_slot))) := gplace_el (f := e_S_slots_slot) (ti := ⟨.bool, 2, 0, [], false⟩) (x := (⟨true, y11⟩ : S_slots_slot)) (fun _ => rfl) (getI_nat hx12)
          replace gu13 := by have := gplace_mid (A := []) (C := []) (o := 0) (rfl) gu13; simpa only [List.nil_append, List.append_nil, List.append_assoc, Nat.zero_add, Nat.add_zero] using this
          refine W_drawF tab_ok (by kernel_rfl) [false, false, false, false, false, false, false, false, false, false, false, true] [] (by kernel_rfl) ?_
          simp only [push_cast, Nat.reduceAdd, Nat.reduceSub, Nat.reduceMul, Nat.reduceLeDiff, Nat.reduceLT, Nat.reduceEqDiff, ↓reduceIte, reduceCtorEq, Int.reduceBEq, Int.reduceBNe, Nat.reduceBEq, Int.reduceLE, Int.reduceLT, Int.reduceEq, Int.reduceNe, Int.reduceNeg, Nat.reduceDiv, Nat.reduceMod, Nat.reducePow, cast_lit, ax10, bx10, cx10, ax12, bx12, cx12, gu13, hi0, hk0, hN0, hN]
          refine PCall.of (okf_slices_Clone_uint64_uint64 hy11) ?_
          simp only [push_cast, Nat.reduceAdd, Nat.reduceSub, Nat.reduceMul, Nat.reduceLeDiff, Nat.reduceLT, Nat.reduceEqDiff, ↓reduceIte, reduceCtorEq, Int.reduceBEq, Int.reduceBNe, Nat.reduceBEq, Int.reduceLE, Int.reduceLT, Int.reduceEq, Int.reduceNe, Int.reduceNeg, Nat.reduceDiv, Nat.reduceMod, Nat.reducePow, cast_lit, ax10, bx10, cx10, ax12, bx12, cx12, gu13, hi0, hk0, hN0, hN]
          refine W_drop [0, 2, 27, 28, 29] [] ?_
          simp only [push_cast, seval, ↓reduceIte]
          refine W_regionD tab_ok [] ?_
          simp only [push_cast, Nat.reduceAdd, Nat.reduceSub, Nat.reduceMul, Nat.reduceLeDiff, Nat.reduceLT, Nat.reduceEqDiff, ↓reduceIte, reduceCtorEq, Int.reduceBEq, Int.reduceBNe, Nat.reduceBEq, Int.reduceLE, Int.reduceLT, Int.reduceEq, Int.reduceNe, Int.reduceNeg, Nat.reduceDiv, Nat.reduceMod, Nat.reducePow, cast_lit, hi0, hk0, hN0, hN]
          have hs1_ := Option.some.inj hs1_; subst hs1_
          refine And.intro rfl (Fit2.of (fit_loco hU rfl rfl ?_) (by omega))
          simp only [push_cast, Nat.reduceAdd, Nat.reduceSub, Nat.reduceMul, Nat.reduceLeDiff, Nat.reduceLT, Nat.reduceEqDiff, ↓reduceIte, reduceCtorEq, Int.reduceBEq, Int.reduceBNe, Nat.reduceBEq, Int.reduceLE, Int.reduceLT, Int.reduceEq, Int.reduceNe, Int.reduceNeg, Nat.reduceDiv, Nat.reduceMod, Nat.reducePow, cast_lit, hi0, hk0, hN0, hN]
        · replace hs1_ := condF c14 hs1_
          refine W_exit ?_
          try simp only [gthen, gblock, ↓reduceIte, Nat.reduceEqDiff]
          have hs1_ := Option.some.inj hs1_; subst hs1_
          refine And.intro (fun h => by cases h) (And.intro rfl (Fit2.of (fit_loco hU rfl rfl ?_) (by omega)))
          simp only [push_cast, Nat.reduceAdd, Nat.reduceSub, Nat.reduceMul, Nat.reduceLeDiff, Nat.reduceLT, Nat.reduceEqDiff, ↓reduceIte, reduceCtorEq, Int.reduceBEq, Int.reduceBNe, Nat.reduceBEq, Int.reduceLE, Int.reduceLT, Int.reduceEq, Int.reduceNe, Int.reduceNeg, Nat.reduceDiv, Nat.reduceMod, Nat.reducePow, cast_lit, hi0, hk0, hN0, hN]
      try simp only [gthen, gblock, ↓reduceIte, Nat.reduceEqDiff]
      refine W_drop [] [] ?_
      simp only [push_cast, seval, ↓reduceIte]
      refine W_sq [6] (W_regionD tab_ok [] ?_)
      simp only [push_cast, Nat.reduceAdd, Nat.reduceSub, Nat.reduceMul, Nat.reduceLeDiff, Nat.reduceLT, Nat.reduceEqDiff, ↓reduceIte, reduceCtorEq, Int.reduceBEq, Int.reduceBNe, Nat.reduceBEq, Int.reduceLE, Int.reduceLT, Int.reduceEq, Int.reduceNe, Int.reduceNeg, Nat.reduceDiv, Nat.reduceMod, Nat.reducePow, cast_lit, hi0, hk0, hN0, hN]
      refine W_ret ?_
      try simp only [gthen, gblock]
      have h := Option.some.inj h; subst h
      refine fin_locV (k := 0) (i := i0) (q1 := ⟨false, 142, 32, 1, fl e_S_slots_slot z15.1⟩) (L3 := [none]) (E2 := (⟨46, [], [(6, .val (.int .i64 0))]⟩ : Env)) (n3 := (n + 1)) (.inr rfl) hU rfl [.val (.int .i64 0)] ?_ ?_
      · refine Fit2.trans (E' := (⟨46, [], [(6, .val (.int .i64 0))]⟩ : Env)) (O' := (Loc (O.upd i0 (some ⟨false, 142, 32, 1, fl e_S_slots_slot z15.1⟩)) n [])) (n' := n) (Fit2.of (fit_loco hU rfl rfl ?_) (by omega)) ?_
        · simp only [push_cast, Nat.reduceAdd, Nat.reduceSub, Nat.reduceMul, Nat.reduceLeDiff, Nat.reduceLT, Nat.reduceEqDiff, ↓reduceIte, reduceCtorEq, Int.reduceBEq, Int.reduceBNe, Nat.reduceBEq, Int.reduceLE, Int.reduceLT, Int.reduceEq, Int.reduceNe, Int.reduceNeg, Nat.reduceDiv, Nat.reduceMod, Nat.reducePow, cast_lit, hi0, hk0, hN0, hN]
        refine ren_fito (k := 0) (k' := 1) hU [] [0] rfl rfl rfl rfl ⟨rfl, rfl⟩ ?_
        simp only [push_cast, Nat.reduceAdd, Nat.reduceSub, Nat.reduceMul, Nat.reduceLeDiff, Nat.reduceLT, Nat.reduceEqDiff, ↓reduceIte, reduceCtorEq, Int.reduceBEq, Int.reduceBNe, Nat.reduceBEq, Int.reduceLE, Int.reduceLT, Int.reduceEq, Int.reduceNe, Int.reduceNeg, Nat.reduceDiv, Nat.reduceMod, Nat.reducePow, cast_lit, hi0, hk0, hN0, hN]
      simp only [push_cast, Nat.reduceAdd, Nat.reduceSub, Nat.reduceMul, Nat.reduceLeDiff, Nat.reduceLT, Nat.reduceEqDiff, ↓reduceIte, reduceCtorEq, Int.reduceBEq, Int.reduceBNe, Nat.reduceBEq, Int.reduceLE, Int.reduceLT, Int.reduceEq, Int.reduceNe, Int.reduceNeg, Nat.reduceDiv, Nat.reduceMod, Nat.reducePow, cast_lit, Try.results59, hi0, hk0, hN0, hN]

theorem ok_slots_Slots_Has {a0 : S_slots_Slots} {a1 : Int} {r : (Bool × S_slots_Slots)} {O : Objs} {n : Nat} {i0 : Nat} (hi0 : i0 < n) (ho0 : O i0 = some ⟨false, 142, 32, 1, fl e_S_slots_slot a0.all.1⟩) (h : m_slots_Slots_Has a0 a1 = some r) : GTo Try.prog 61 [.ref i0 0, .val (.int .i64 a1)] O n (.val (.bool r.1)) (Loc (O.upd i0 (some ⟨false, 142, 32, 1, fl e_S_slots_slot r.2.all.1⟩)) n []) (n + 0) := by
  unfold m_slots_Slots_Has at h
  refine fn_of tab_ok Try.call61 Try.func61 rfl (Nat.le_of_ble_eq_true rfl) (by omega) fun hU => ?_
  rw [show Loc O n [] = Loc (O.upd i0 (some ⟨false, 142, 32, 1, fl e_S_slots_slot a0.all.1⟩)) n [] from by rw [upd_self (show O i0 = _ from by exact ho0)]]
  have hk0 : ∀ k, i0 < n + k := fun k => by omega
  have hN0 : ∀ o, Objs.upd O i0 o n = none := fun o => upd_fresh hU hi0 _ (Nat.le_refl _)
  have hN : ∀ o k, Objs.upd O i0 o (n + k) = none := fun o k => upd_fresh hU hi0 _ (Nat.le_add_right _ _)
  show W _ _ _ _ ⟨17, [], [(0, .ref i0 0), (1, .val (.int .i64 a1))]⟩ (Loc (O.upd i0 (some ⟨false, 142, 32, 1, fl e_S_slots_slot a0.all.1⟩)) n []) _
  refine W_sq [0, 1] (W_regionD tab_ok [] ?_)
  simp only [push_cast, Nat.reduceAdd, Nat.reduceSub, Nat.reduceMul, Nat.reduceLeDiff, Nat.reduceLT, Nat.reduceEqDiff, ↓reduceIte, reduceCtorEq, Int.reduceBEq, Int.reduceBNe, Nat.reduceBEq, Int.reduceLE, Int.reduceLT, Int.reduceEq, Int.reduceNe, Int.reduceNeg, Nat.reduceDiv, Nat.reduceMod, Nat.reducePow, cast_lit, hi0, hk0, hN0, hN]
  obtain ⟨z4, hz4, h⟩ := bC h
  refine W_seqN (E' := ⟨17, [], [(4, .val (.bool z4.1))]⟩) (O' := (Loc (O.upd i0 (some ⟨false, 142, 32, 1, fl e_S_slots_slot z4.2.1⟩)) n [])) (n0 := n) ?_ ?_
  · obtain ⟨y8, hy8, hz4⟩ := bC hz4
    rcases Bool.eq_false_or_eq_true y8.1 with c11 | c11
    · replace hz4 := condT c11 hz4
      obtain ⟨x9, hx9, ax9, bx9, cx9, hz4⟩ := bEA (f := e_S_slots_slot) (b := 16) rfl tab139 (fun _ => rfl) (by decide) hz4
      replace cx9 := (by have := gpart_mid (A := []) (C := []) (o := 0) (rfl) (show gpart _ _ _ _ = some (.agg (e_S_slots_slot x9)) from cx9); simpa only [List.nil_append, List.append_nil, List.append_assoc, Nat.zero_add, Nat.add_zero] using this)
      have g10 := gpart_fld0 (f := e_S_slots_slot) (sz := 2) tab4 (fun _ => rfl) (by decide) (by decide) hx9
      refine W_regionD tab_ok [some true, some true, some true, some true, some true, some true, some true] ?_
      simp only [push_cast, Nat.reduceAdd, Nat.reduceSub, Nat.reduceMul, Nat.reduceLeDiff, Nat.reduceLT, Nat.reduceEqDiff, ↓reduceIte, reduceCtorEq, Int.reduceBEq, Int.reduceBNe, Nat.reduceBEq, Int.reduceLE, Int.reduceLT, Int.reduceEq, Int.reduceNe, Int.reduceNeg, Nat.reduceDiv, Nat.reduceMod, Nat.reducePow, cast_lit, c11, ax9, bx9, cx9, g10, hi0, hk0, hN0, hN]
      refine (ok_slots_Slots_there (i0 := i0) (by omega) (by simp only [push_cast, Nat.reduceAdd, Nat.reduceSub, Nat.reduceMul, Nat.reduceLeDiff, Nat.reduceLT, Nat.reduceEqDiff, ↓reduceIte, reduceCtorEq, Int.reduceBEq, Int.reduceBNe, Nat.reduceBEq, Int.reduceLE, Int.reduceLT, Int.reduceEq, Int.reduceNe, Int.reduceNeg, Nat.reduceDiv, Nat.reduceMod, Nat.reducePow, cast_lit, fl_nil, c11, ax9, bx9, cx9, g10, hi0, hk0, hN0, hN] <;> rfl) hy8).then ?_
      simp only [push_cast, Nat.reduceAdd, Nat.reduceSub, Nat.reduceMul, Nat.reduceLeDiff, Nat.reduceLT, Nat.reduceEqDiff, ↓reduceIte, reduceCtorEq, Int.reduceBEq, Int.reduceBNe, Nat.reduceBEq, Int.reduceLE, Int.reduceLT, Int.reduceEq, Int.reduceNe, Int.reduceNeg, Nat.reduceDiv, Nat.reduceMod, Nat.reducePow, cast_lit, c11, ax9, bx9, cx9, g10, hi0, hk0, hN0, hN]
      have hz4 := Option.some.inj hz4; subst hz4
      refine And.intro rfl (Fit2.of (fit_loco hU rfl rfl ?_) (by omega))
      simp only [push_cast, Nat.reduceAdd, Nat.reduceSub, Nat.reduceMul, Nat.reduceLeDiff, Nat.reduceLT, Nat.reduceEqDiff, ↓reduceIte, reduceCtorEq, Int.reduceBEq, Int.reduceBNe, Nat.reduceBEq, Int.reduceLE, Int.reduceLT, Int.reduceEq, Int.reduceNe, Int.reduceNeg, Nat.reduceDiv, Nat.reduceMod, Nat.reducePow, cast_lit, c11, ax9, bx9, cx9, g10, hi0, hk0, hN0, hN]
    · replace hz4 := condF c11 hz4
      refine W_regionD tab_ok [some false, some false, some false, some false, some false, some false, some false] ?_
      simp only [push_cast, Nat.reduceAdd, Nat.reduceSub, Nat.reduceMul, Nat.reduceLeDiff, Nat.reduceLT, Nat.reduceEqDiff, ↓reduceIte, reduceCtorEq, Int.reduceBEq, Int.reduceBNe, Nat.reduceBEq, Int.reduceLE, Int.reduceLT, Int.reduceEq, Int.reduceNe, Int.reduceNeg, Nat.reduceDiv, Nat.reduceMod, Nat.reducePow, cast_lit, c11, hi0, hk0, hN0, hN]
      refine (ok_slots_Slots_there (i0 := i0) (by omega) (by simp only [push_cast, Nat.reduceAdd, Nat.reduceSub, Nat.reduceMul, Nat.reduceLeDiff, Nat.reduceLT, Nat.reduceEqDiff, ↓reduceIte, reduceCtorEq, Int.reduceBEq, Int.reduceBNe, Nat.reduceBEq, Int.reduceLE, Int.reduceLT, Int.reduceEq, Int.reduceNe, Int.reduceNeg, Nat.reduceDiv, Nat.reduceMod, Nat.reducePow, cast_lit, fl_nil, c11, hi0, hk0, hN0, hN] <;> rfl) hy8).then ?_
      simp only [push_cast, Nat.reduceAdd, Nat.reduceSub, Nat.reduceMul, Nat.reduceLeDiff, Nat.reduceLT, Nat.reduceEqDiff, ↓reduceIte, reduceCtorEq, Int.reduceBEq, Int.reduceBNe, Nat.reduceBEq, Int.reduceLE, Int.reduceLT, Int.reduceEq, Int.reduceNe, Int.reduceNeg, Nat.reduceDiv, Nat.reduceMod, Nat.reducePow, cast_lit, c11, hi0, hk0, hN0, hN]
      have hz4 := Option.some.inj hz4; subst hz4
      refine And.intro rfl (Fit2.of (fit_loco hU rfl rfl ?_) (by omega))
      simp only [push_cast, Nat.reduceAdd, Nat.reduceSub, Nat.reduceMul, Nat.reduceLeDiff, Nat.reduceLT, Nat.reduceEqDiff, ↓reduceIte, reduceCtorEq, Int.reduceBEq, Int.reduceBNe, Nat.reduceBEq, Int.reduceLE, Int.reduceLT, Int.reduceEq, Int.reduceNe, Int.reduceNeg, Nat.reduceDiv, Nat.reduceMod, Nat.reducePow, cast_lit, c11, hi0, hk0, hN0, hN]
  refine W_ret ?_
  try simp only [gthen, gblock]
  have h := Option.some.inj h; subst h
  refine fin_locV (k := 0) (i := i0) (q1 := ⟨false, 142, 32, 1, fl e_S_slots_slot z4.2.1⟩) (L3 := [none]) (E2 := (⟨17, [], [(4, .val (.bool z4.1))]⟩ : Env)) (n3 := (n + 1)) (.inr rfl) hU rfl [.val (.bool z4.1)] ?_ ?_
  · refine Fit2.trans (E' := (⟨17, [], [(4, .val (.bool z4.1))]⟩ : Env)) (O' := (Loc (O.upd i0 (some ⟨false, 142, 32, 1, fl e_S_slots_slot z4.2.1⟩)) n [])) (n' := n) (Fit2.of (fit_loco hU rfl rfl ?_) (by omega)) ?_
    · simp only [push_cast, Nat.reduceAdd, Nat.reduceSub, Nat.reduceMul, Nat.reduceLeDiff, Nat.reduceLT, Nat.reduceEqDiff, ↓reduceIte, reduceCtorEq, Int.reduceBEq, Int.reduceBNe, Nat.reduceBEq, Int.reduceLE, Int.reduceLT, Int.reduceEq, Int.reduceNe, Int.reduceNeg, Nat.reduceDiv, Nat.reduceMod, Nat.reducePow, cast_lit, hi0, hk0, hN0, hN]
    refine ren_fito (k := 0) (k' := 1) hU [] [0] rfl rfl rfl rfl ⟨rfl, rfl⟩ ?_
    simp only [push_cast, Nat.reduceAdd, Nat.reduceSub, Nat.reduceMul, Nat.reduceLeDiff, Nat.reduceLT, Nat.reduceEqDiff, ↓reduceIte, reduceCtorEq, Int.reduceBEq, Int.reduceBNe, Nat.reduceBEq, Int.reduceLE, Int.reduceLT, Int.reduceEq, Int.reduceNe, Int.reduceNeg, Nat.reduceDiv, Nat.reduceMod, Nat.reducePow, cast_lit, hi0, hk0, hN0, hN]
  simp only [push_cast, Nat.reduceAdd, Nat.reduceSub, Nat.reduceMul, Nat.reduceLeDiff, Nat.reduceLT, Nat.reduceEqDiff, ↓reduceIte, reduceCtorEq, Int.reduceBEq, Int.reduceBNe, Nat.reduceBEq, Int.reduceLE, Int.reduceLT, Int.reduceEq, Int.reduceNe, Int.reduceNeg, Nat.reduceDiv, Nat.reduceMod, Nat.reducePow, cast_lit, Try.results61, hi0, hk0, hN0, hN]

theorem ok_slots_Slots_Get {a0 : S_slots_Slots} {a1 : Int} {r : ((List Int) × Int × S_slots_Slots)} {O : Objs} {n : Nat} {i0 : Nat} (hi0 : i0 < n) (ho0 : O i0 = some ⟨false, 142, 32, 1, fl e_S_slots_slot a0.all.1⟩) (h : m_slots_Slots_Get a0 a1 = some r) : GTo Try.prog 58 [.ref i0 0, .val (.int .i64 a1)] O n (.tup [.sl r.1.length (fl (eI .u64) r.1), .val (.int .i64 r.2.1)]) (Loc (O.upd i0 (some ⟨false, 142, 32, 1, fl e_S_slots_slot r.2.2.all.1⟩)) n []) (n + 0) := by
  unfold m_slots_Slots_Get at h
  refine fn_of tab_ok Try.call58 Try.func58 rfl (Nat.le_of_ble_eq_true rfl) (by omega) fun hU => ?_
  rw [show Loc O n [] = Loc (O.upd i0 (some ⟨false, 142, 32, 1, fl e_S_slots_slot a0.all.1⟩)) n [] from by rw [upd_self (show O i0 = _ from by exact ho0)]]
  have hk0 : ∀ k, i0 < n + k := fun k => by omega
  have hN0 : ∀ o, Objs.upd O i0 o n = none := fun o => upd_fresh hU hi0 _ (Nat.le_refl _)
  have hN : ∀ o k, Objs.upd O i0 o (n + k) = none := fun o k => upd_fresh hU hi0 _ (Nat.le_add_right _ _)
  show W _ _ _ _ ⟨18, [], [(0, .ref i0 0), (1, .val (.int .i64 a1))]⟩ (Loc (O.upd i0 (some ⟨false, 142, 32, 1, fl e_S_slots_slot a0.all.1⟩)) n []) _
  refine W_sq [0, 1] (W_regionD tab_ok [] ?_)
  simp only [push_cast, Nat.reduceAdd, Nat.reduceSub, Nat.reduceMul, Nat.reduceLeDiff, Nat.reduceLT, Nat.reduceEqDiff, ↓reduceIte, reduceCtorEq, Int.reduceBEq, Int.reduceBNe, Nat.reduceBEq, Int.reduceLE, Int.reduceLT, Int.reduceEq, Int.reduceNe, Int.reduceNeg, Nat.reduceDiv, Nat.reduceMod, Nat.reducePow, cast_lit, hi0, hk0, hN0, hN]
  refine W_seqK ?_
  refine W_seqK ?_
  obtain ⟨y2, hy2, h⟩ := bC h
  refine W_regionD tab_ok [] ?_
  simp only [push_cast, Nat.reduceAdd, Nat.reduceSub, Nat.reduceMul, Nat.reduceLeDiff, Nat.reduceLT, Nat.reduceEqDiff, ↓reduceIte, reduceCtorEq, Int.reduceBEq, Int.reduceBNe, Nat.reduceBEq, Int.reduceLE, Int.reduceLT, Int.reduceEq, Int.reduceNe, Int.reduceNeg, Nat.reduceDiv, Nat.reduceMod, Nat.reducePow, cast_lit, hi0, hk0, hN0, hN]
  refine (ok_slots_Slots_Has (i0 := i0) (by omega) (by simp only [push_cast, Nat.reduceAdd, Nat.reduceSub, Nat.reduceMul, Nat.reduceLeDiff, Nat.reduceLT, Nat.reduceEqDiff, ↓reduceIte, reduceCtorEq, Int.reduceBEq, Int.reduceBNe, Nat.reduceBEq, Int.reduceLE, Int.reduceLT, Int.reduceEq, Int.reduceNe, Int.reduceNeg, Nat.reduceDiv, Nat.reduceMod, Nat.reducePow, cast_lit, fl_nil, hi0, hk0, hN0, hN] <;> rfl) hy2).then ?_
  simp only [push_cast, Nat.reduceAdd, Nat.reduceSub, Nat.reduceMul, Nat.reduceLeDiff, Nat.reduceLT, Nat.reduceEqDiff, ↓reduceIte, reduceCtorEq, Int.reduceBEq, Int.reduceBNe, Nat.reduceBEq, Int.reduceLE, Int.reduceLT, Int.reduceEq, Int.reduceNe, Int.reduceNeg, Nat.reduceDiv, Nat.reduceMod, Nat.reducePow, cast_lit, hi0, hk0, hN0, hN]
  refine W_drop [0, 1, 9] [] ?_
  simp only [push_cast, seval, ↓reduceIte]
  refine W_cond (t := (!y2.1)) rfl (fun c9 => ?_) (fun c9 => ?_)
  · replace h := condT c9 h
    refine W_sq [4, 5] (W_regionD tab_ok [] ?_)
    simp only [push_cast, Nat.reduceAdd, Nat.reduceSub, Nat.reduceMul, Nat.reduceLeDiff, Nat.reduceLT, Nat.reduceEqDiff, ↓reduceIte, reduceCtorEq, Int.reduceBEq, Int.reduceBNe, Nat.reduceBEq, Int.reduceLE, Int.reduceLT, Int.reduceEq, Int.reduceNe, Int.reduceNeg, Nat.reduceDiv, Nat.reduceMod, Nat.reducePow, cast_lit, hi0, hk0, hN0, hN]
    refine W_ret ?_
    try simp only [gthen, gblock]
    have h := Option.some.inj h; subst h
    refine fin_locV (k := 0) (i := i0) (q1 := ⟨false, 142, 32, 1, fl e_S_slots_slot y2.2.all.1⟩) (L3 := [none]) (E2 := (⟨18, [], [(4, .val (.slice none 0 0)), (5, .val (.int .i64 15))]⟩ : Env)) (n3 := (n + 1)) (.inr rfl) hU rfl [.val (.slice none 0 0), .val (.int .i64 15)] ?_ ?_
    · refine Fit2.trans (E' := (⟨18, [], [(4, .val (.slice none 0 0)), (5, .val (.int .i64 15))]⟩ : Env)) (O' := (Loc (O.upd i0 (some ⟨false, 142, 32, 1, fl e_S_slots_slot y2.2.all.1⟩)) n [])) (n' := n) (Fit2.of (fit_loco hU rfl rfl ?_) (by omega)) ?_
      · simp only [push_cast, Nat.reduceAdd, Nat.reduceSub, Nat.reduceMul, Nat.reduceLeDiff, Nat.reduceLT, Nat.reduceEqDiff, ↓reduceIte, reduceCtorEq, Int.reduceBEq, Int.reduceBNe, Nat.reduceBEq, Int.reduceLE, Int.reduceLT, Int.reduceEq, Int.reduceNe, Int.reduceNeg, Nat.reduceDiv, Nat.reduceMod, Nat.reducePow, cast_lit, hi0, hk0, hN0, hN]
      refine ren_fito (k := 0) (k' := 1) hU [] [0] rfl rfl rfl rfl ⟨rfl, rfl⟩ ?_
      simp only [push_cast, Nat.reduceAdd, Nat.reduceSub, Nat.reduceMul, Nat.reduceLeDiff, Nat.reduceLT, Nat.reduceEqDiff, ↓reduceIte, reduceCtorEq, Int.reduceBEq, Int.reduceBNe, Nat.reduceBEq, Int.reduceLE, Int.reduceLT, Int.reduceEq, Int.reduceNe, Int.reduceNeg, Nat.reduceDiv, Nat.reduceMod, Nat.reducePow, cast_lit, hi0, hk0, hN0, hN]
    simp only [push_cast, Nat.reduceAdd, Nat.reduceSub, Nat.reduceMul, Nat.reduceLeDiff, Nat.reduceLT, Nat.reduceEqDiff, ↓reduceIte, reduceCtorEq, Int.reduceBEq, Int.reduceBNe, Nat.reduceBEq, Int.reduceLE, Int.reduceLT, Int.reduceEq, Int.reduceNe, Int.reduceNeg, Nat.reduceDiv, Nat.reduceMod, Nat.reducePow, cast_lit, Try.results58, hi0, hk0, hN0, hN]
  · replace h := condF c9 h
    refine W_skip ?_
    try simp only [gthen, gblock]
    refine W_drop [0, 1] [] ?_
    simp only [push_cast, seval, ↓reduceIte]
    refine W_seqK ?_
    obtain ⟨x6, hx6, ax6, bx6, cx6, h⟩ := bEA (f := e_S_slots_slot) (b := 16) rfl tab139 (fun _ => rfl) (by decide) h
    replace cx6 := (by have := gpart_mid (A := []) (C := []) (o := 0) (rfl) (show gpart _ _ _ _ = some (.agg (e_S_slots_slot x6)) from cx6); simpa only [List.nil_append, List.append_nil, List.append_assoc, Nat.zero_add, Nat.add_zero] using this)
    have g7 := gpart_fld (f := e_S_slots_slot) (off := 1) (sz := 2) tab38 (fun _ => rfl) (by decide) (by decide) hx6
    obtain ⟨y8, hy8, h⟩ := bC h
    refine W_regionD tab_ok [] ?_
    simp only [push_cast, Nat.reduceAdd, Nat.reduceSub, Nat.reduceMul, Nat.reduceLeDiff, Nat.reduceLT, Nat.reduceEqDiff, ↓reduceIte, reduceCtorEq, Int.reduceBEq, Int.reduceBNe, Nat.reduceBEq, Int.reduceLE, Int.reduceLT, Int.reduceEq, Int.reduceNe, Int.reduceNeg, Nat.reduceDiv, Nat.reduceMod, Nat.reducePow, cast_lit, ax6, bx6, cx6, g7, hi0, hk0, hN0, hN]
    refine (ok_slices_Clone_uint64_uint64  hy8).then ?_
    simp only [push_cast, Nat.reduceAdd, Nat.reduceSub, Nat.reduceMul, Nat.reduceLeDiff, Nat.reduceLT, Nat.reduceEqDiff, ↓reduceIte, reduceCtorEq, Int.reduceBEq, Int.reduceBNe, Nat.reduceBEq, Int.reduceLE, Int.reduceLT, Int.reduceEq, Int.reduceNe, Int.reduceNeg, Nat.reduceDiv, Nat.reduceMod, Nat.reducePow, cast_lit, ax6, bx6, cx6, g7, hi0, hk0, hN0, hN]
    refine W_drop [4, 5] [true] ?_
    simp only [push_cast, seval, ↓reduceIte]
    refine W_ret ?_
    try simp only [gthen, gblock]
    have h := Option.some.inj h; subst h
    refine fin_locV (k := 0) (i := i0) (q1 := ⟨false, 142, 32, 1, fl e_S_slots_slot y2.2.all.1⟩) (L3 := [some ⟨true, 33, 1, y8.length, fl (eI .u64) y8⟩, none]) (E2 := (⟨18, [], [(4, .row n y8.length), (5, .val (.int .i64 0))]⟩ : Env)) (n3 := (n + 2)) (.inr rfl) hU rfl [.row n y8.length, .val (.int .i64 0)] ?_ ?_
    · refine Fit2.trans (E' := (⟨18, [], [(4, .row n y8.length), (5, .val (.int .i64 0))]⟩ : Env)) (O' := (Loc (O.upd i0 (some ⟨false, 142, 32, 1, fl e_S_slots_slot y2.2.all.1⟩)) n [some ⟨true, 33, 1, y8.length, fl (eI .u64) y8⟩])) (n' := (n + 1)) (Fit2.of (fit_loco hU rfl rfl ?_) (by omega)) ?_
      · simp only [push_cast, Nat.reduceAdd, Nat.reduceSub, Nat.reduceMul, Nat.reduceLeDiff, Nat.reduceLT, Nat.reduceEqDiff, ↓reduceIte, reduceCtorEq, Int.reduceBEq, Int.reduceBNe, Nat.reduceBEq, Int.reduceLE, Int.reduceLT, Int.reduceEq, Int.reduceNe, Int.reduceNeg, Nat.reduceDiv, Nat.reduceMod, Nat.reducePow, cast_lit, hi0, hk0, hN0, hN]
      refine ren_fito (k := 1) (k' := 2) hU [0] [0, 0] rfl rfl rfl rfl ⟨rfl, rfl⟩ ?_
      simp only [push_cast, Nat.reduceAdd, Nat.reduceSub, Nat.reduceMul, Nat.reduceLeDiff, Nat.reduceLT, Nat.reduceEqDiff, ↓reduceIte, reduceCtorEq, Int.reduceBEq, Int.reduceBNe, Nat.reduceBEq, Int.reduceLE, Int.reduceLT, Int.reduceEq, Int.reduceNe, Int.reduceNeg, Nat.reduceDiv, Nat.reduceMod, Nat.reducePow, cast_lit, hi0, hk0, hN0, hN]
    simp only [push_cast, Nat.reduceAdd, Nat.reduceSub, Nat.reduceMul, Nat.reduceLeDiff, Nat.reduceLT, Nat.reduceEqDiff, ↓reduceIte, reduceCtorEq, Int.reduceBEq, Int.reduceBNe, Nat.reduceBEq, Int.reduceLE, Int.reduceLT, Int.reduceEq, Int.reduceNe, Int.reduceNeg, Nat.reduceDiv, Nat.reduceMod, Nat.reducePow, cast_lit, Try.results58, hi0, hk0, hN0, hN]

theorem ok_centoref01_Same {a0 : (List Int)} {a1 : (List Int)} {r : Bool} {O : Objs} {n : Nat} (h : m_centoref01_Same a0 a1 = some r) : GTo Try.prog 95 [.sl a0.length (fl (eI .u64) a0), .sl a1.length (fl (eI .u64) a1)] O n (.val (.bool r)) O n := by
  unfold m_centoref01_Same at h
  refine fn_of tab_ok Try.call95 Try.func95 rfl (Nat.le_of_ble_eq_true rfl) (Nat.le_refl _) fun hU => ?_
  have hN0 : O n = none := hU.fresh _ (Nat.le_refl _)
  have hN : ∀ k, O (n + k) = none := fun k => hU.fresh _ (Nat.le_add_right _ _)
  show W _ _ _ _ ⟨26, [], [(0, .sl a0.length (fl (eI .u64) a0)), (1, .sl a1.length (fl (eI .u64) a1))]⟩ (Loc O n []) _
  refine W_sq [0, 1] (W_regionD tab_ok [] ?_)
  simp only [push_cast, Nat.reduceAdd, Nat.reduceSub, Nat.reduceMul, Nat.reduceLeDiff, Nat.reduceLT, Nat.reduceEqDiff, ↓reduceIte, reduceCtorEq, Int.reduceBEq, Int.reduceBNe, Nat.reduceBEq, Int.reduceLE, Int.reduceLT, Int.reduceEq, Int.reduceNe, Int.reduceNeg, Nat.reduceDiv, Nat.reduceMod, Nat.reducePow, cast_lit, hN0, hN]
  refine W_seqK ?_
  refine W_sq [0, 1, 10] (W_regionD tab_ok [] ?_)
  simp only [push_cast, Nat.reduceAdd, Nat.reduceSub, Nat.reduceMul, Nat.reduceLeDiff, Nat.reduceLT, Nat.reduceEqDiff, ↓reduceIte, reduceCtorEq, Int.reduceBEq, Int.reduceBNe, Nat.reduceBEq, Int.reduceLE, Int.reduceLT, Int.reduceEq, Int.reduceNe, Int.reduceNeg, Nat.reduceDiv, Nat.reduceMod, Nat.reducePow, cast_lit, hN0, hN]
  refine W_cond (t := ((a0.length : Int) != (a1.length : Int))) rfl (fun c8 => ?_) (fun c8 => ?_)
  · replace h := condT c8 h
    refine W_sq [4] (W_regionD tab_ok [] ?_)
    simp only [push_cast, Nat.reduceAdd, Nat.reduceSub, Nat.reduceMul, Nat.reduceLeDiff, Nat.reduceLT, Nat.reduceEqDiff, ↓reduceIte, reduceCtorEq, Int.reduceBEq, Int.reduceBNe, Nat.reduceBEq, Int.reduceLE, Int.reduceLT, Int.reduceEq, Int.reduceNe, Int.reduceNeg, Nat.reduceDiv, Nat.reduceMod, Nat.reducePow, cast_lit, hN0, hN]
    refine W_ret ?_
    try simp only [gthen, gblock]
    have h := Option.some.inj h; subst h
    refine fin_loc (.inr rfl) hU [.val (.bool false)] (by omega) ?_
    simp only [push_cast, Nat.reduceAdd, Nat.reduceSub, Nat.reduceMul, Nat.reduceLeDiff, Nat.reduceLT, Nat.reduceEqDiff, ↓reduceIte, reduceCtorEq, Int.reduceBEq, Int.reduceBNe, Nat.reduceBEq, Int.reduceLE, Int.reduceLT, Int.reduceEq, Int.reduceNe, Int.reduceNeg, Nat.reduceDiv, Nat.reduceMod, Nat.reducePow, cast_lit, Try.results95, hN0, hN]
  · replace h := condF c8 h
    refine W_skip ?_
    try simp only [gthen, gblock]
    refine W_drop [0, 1] [] ?_
    simp only [push_cast, seval, ↓reduceIte]
    refine W_seqK ?_
    refine W_sq [0, 1, 5] (W_regionD tab_ok [] ?_)
    simp only [push_cast, Nat.reduceAdd, Nat.reduceSub, Nat.reduceMul, Nat.reduceLeDiff, Nat.reduceLT, Nat.reduceEqDiff, ↓reduceIte, reduceCtorEq, Int.reduceBEq, Int.reduceBNe, Nat.reduceBEq, Int.reduceLE, Int.reduceLT, Int.reduceEq, Int.reduceNe, Int.reduceNeg, Nat.reduceDiv, Nat.reduceMod, Nat.reducePow, cast_lit, hN0, hN]
    refine W_drop [0, 1, 5] [] ?_
    simp only [push_cast, seval, ↓reduceIte]
    obtain ⟨z7, hz7, h⟩ := bC h
    refine W_sumB (J := (SumJ (fun z7 => JR n (⟨26, [], [(4, .val (.bool false))]⟩ : Env) (Loc O n []) n) (fun z7 => JX 0 n (⟨26, [], []⟩ : Env) (Loc O n []) n))) (z := z7) ?_ fun hw => ?_
    · refine W_loopJ hz7 (fun s0_ => ⟨26, [], [(0, .sl a0.length (fl (eI .u64) a0)), (1, .sl a1.length (fl (eI .u64) a1)), (5, .val (.int .i64 s0_))]⟩) (fun s0_ => (Loc O n [])) (SumJ (fun z7 => JR n (⟨26, [], [(4, .val (.bool false))]⟩ : Env) (Loc O n []) n) (fun z7 => JX 0 n (⟨26, [], []⟩ : Env) (Loc O n []) n)) ?_
      intro s0_ x0_ hs0_
      unfold m_centoref01_Same_L0 at hs0_
      try dsimp only
      refine W_seqK ?_
      refine W_sq [0, 1, 5, 14] (W_regionD tab_ok [] ?_)
      simp only [push_cast, Nat.reduceAdd, Nat.reduceSub, Nat.reduceMul, Nat.reduceLeDiff, Nat.reduceLT, Nat.reduceEqDiff, ↓reduceIte, reduceCtorEq, Int.reduceBEq, Int.reduceBNe, Nat.reduceBEq, Int.reduceLE, Int.reduceLT, Int.reduceEq, Int.reduceNe, Int.reduceNeg, Nat.reduceDiv, Nat.reduceMod, Nat.reducePow, cast_lit, hN0, hN]
      refine W_cond (t := (decide (s0_ < (a0.length : Int)))) rfl (fun c6 => ?_) (fun c6 => ?_)
      · replace hs0_ := condT c6 hs0_
        refine W_skip ?_
        try simp only [gthen, gblock]
        refine W_drop [0, 1, 5] [] ?_
        simp only [push_cast, seval, ↓reduceIte]
        refine W_seqK ?_
        refine W_block ?_
        obtain ⟨x3, hx3, ax3, bx3, cx3, hs0_⟩ := bE (f := (eI .u64)) tab33 (fun _ => rfl) (by decide) hs0_
        obtain ⟨x4, hx4, ax4, bx4, cx4, hs0_⟩ := bE (f := (eI .u64)) tab33 (fun _ => rfl) (by decide) hs0_
        refine W_sq [0, 1, 5, 25] (W_drawD tab_ok (by kernel_rfl) [] (by kernel_rfl) ?_)
        simp only [push_cast, Nat.reduceAdd, Nat.reduceSub, Nat.reduceMul, Nat.reduceLeDiff, Nat.reduceLT, Nat.reduceEqDiff, ↓reduceIte, reduceCtorEq, Int.reduceBEq, Int.reduceBNe, Nat.reduceBEq, Int.reduceLE, Int.reduceLT, Int.reduceEq, Int.reduceNe, Int.reduceNeg, Nat.reduceDiv, Nat.reduceMod, Nat.reducePow, cast_lit, ax3, bx3, cx3, ax4, bx4, cx4, hN0, hN]
        refine W_cond (t := (x3 != x4)) rfl (fun c5 => ?_) (fun c5 => ?_)
        · replace hs0_ := condT c5 hs0_
          refine W_sq [4] (W_regionD tab_ok [] ?_)
          simp only [push_cast, Nat.reduceAdd, Nat.reduceSub, Nat.reduceMul, Nat.reduceLeDiff, Nat.reduceLT, Nat.reduceEqDiff, ↓reduceIte, reduceCtorEq, Int.reduceBEq, Int.reduceBNe, Nat.reduceBEq, Int.reduceLE, Int.reduceLT, Int.reduceEq, Int.reduceNe, Int.reduceNeg, Nat.reduceDiv, Nat.reduceMod, Nat.reducePow, cast_lit, hN0, hN]
          refine W_ret ?_
          try simp only [gthen, gblock]
          have hs0_ := Option.some.inj hs0_; subst hs0_
          refine And.intro (fun h => by cases h) (And.intro rfl (Fit2.of (fit_loc hU rfl rfl ?_) (by omega)))
          simp only [push_cast, Nat.reduceAdd, Nat.reduceSub, Nat.reduceMul, Nat.reduceLeDiff, Nat.reduceLT, Nat.reduceEqDiff, ↓reduceIte, reduceCtorEq, Int.reduceBEq, Int.reduceBNe, Nat.reduceBEq, Int.reduceLE, Int.reduceLT, Int.reduceEq, Int.reduceNe, Int.reduceNeg, Nat.reduceDiv, Nat.reduceMod, Nat.reducePow, cast_lit, hN0, hN]
        · replace hs0_ := condF c5 hs0_
          refine W_skip ?_
          try simp only [gthen, gblock]
          refine W_drop [0, 1, 5] [] ?_
          simp only [push_cast, seval, ↓reduceIte]
          refine W_regionD tab_ok [] ?_
          simp only [push_cast, Nat.reduceAdd, Nat.reduceSub, Nat.reduceMul, Nat.reduceLeDiff, Nat.reduceLT, Nat.reduceEqDiff, ↓reduceIte, reduceCtorEq, Int.reduceBEq, Int.reduceBNe, Nat.reduceBEq, Int.reduceLE, Int.reduceLT, Int.reduceEq, Int.reduceNe, Int.reduceNeg, Nat.reduceDiv, Nat.reduceMod, Nat.reducePow, cast_lit, hN0, hN]
          have hs0_ := Option.some.inj hs0_; subst hs0_
          refine And.intro rfl (Fit2.of (fit_loc hU rfl rfl ?_) (by omega))
          simp only [push_cast, Nat.reduceAdd, Nat.reduceSub, Nat.reduceMul, Nat.reduceLeDiff, Nat.reduceLT, Nat.reduceEqDiff, ↓reduceIte, reduceCtorEq, Int.reduceBEq, Int.reduceBNe, Nat.reduceBEq, Int.reduceLE, Int.reduceLT, Int.reduceEq, Int.reduceNe, Int.reduceNeg, Nat.reduceDiv, Nat.reduceMod, Nat.reducePow, cast_lit, hN0, hN]
      · replace hs0_ := condF c6 hs0_
        refine W_exit ?_
        try simp only [gthen, gblock, ↓reduceIte, Nat.reduceEqDiff]
        have hs0_ := Option.some.inj hs0_; subst hs0_
        refine And.intro (fun h => by cases h) (And.intro rfl (Fit2.of (fit_loc hU rfl rfl ?_) (by omega)))
        simp only [push_cast, Nat.reduceAdd, Nat.reduceSub, Nat.reduceMul, Nat.reduceLeDiff, Nat.reduceLT, Nat.reduceEqDiff, ↓reduceIte, reduceCtorEq, Int.reduceBEq, Int.reduceBNe, Nat.reduceBEq, Int.reduceLE, Int.reduceLT, Int.reduceEq, Int.reduceNe, Int.reduceNeg, Nat.reduceDiv, Nat.reduceMod, Nat.reducePow, cast_lit, hN0, hN]
    rcases z7 with z7 | z7
    · dsimp only [SumJ] at hw h
      refine W_blockR hw ?_
      try simp only [gthen, gblock, ↓reduceIte, Nat.reduceEqDiff]
      have h := Option.some.inj h; subst h
      refine fin_loc (.inr rfl) hU [.val (.bool false)] (by omega) ?_
      simp only [push_cast, Nat.reduceAdd, Nat.reduceSub, Nat.reduceMul, Nat.reduceLeDiff, Nat.reduceLT, Nat.reduceEqDiff, ↓reduceIte, reduceCtorEq, Int.reduceBEq, Int.reduceBNe, Nat.reduceBEq, Int.reduceLE, Int.reduceLT, Int.reduceEq, Int.reduceNe, Int.reduceNeg, Nat.reduceDiv, Nat.reduceMod, Nat.reducePow, cast_lit, Try.results95, hN0, hN]
    · dsimp only [SumJ] at hw h
      refine W_blockX hw ?_
      try simp only [gthen, gblock, ↓reduceIte, Nat.reduceEqDiff]
      refine W_drop [] [] ?_
      simp only [push_cast, seval, ↓reduceIte]
      refine W_sq [4] (W_regionD tab_ok [] ?_)
      simp only [push_cast, Nat.reduceAdd, Nat.reduceSub, Nat.reduceMul, Nat.reduceLeDiff, Nat.reduceLT, Nat.reduceEqDiff, ↓reduceIte, reduceCtorEq, Int.reduceBEq, Int.reduceBNe, Nat.reduceBEq, Int.reduceLE, Int.reduceLT, Int.reduceEq, Int.reduceNe, Int.reduceNeg, Nat.reduceDiv, Nat.reduceMod, Nat.reducePow, cast_lit, hN0, hN]
      refine W_ret ?_
      try simp only [gthen, gblock]
      have h := Option.some.inj h; subst h
      refine fin_loc (.inr rfl) hU [.val (.bool true)] (by omega) ?_
      simp only [push_cast, Nat.reduceAdd, Nat.reduceSub, Nat.reduceMul, Nat.reduceLeDiff, Nat.reduceLT, Nat.reduceEqDiff, ↓reduceIte, reduceCtorEq, Int.reduceBEq, Int.reduceBNe, Nat.reduceBEq, Int.reduceLE, Int.reduceLT, Int.reduceEq, Int.reduceNe, Int.reduceNeg, Nat.reduceDiv, Nat.reduceMod, Nat.reducePow, cast_lit, Try.results95, hN0, hN]

theorem ok_slots_Slots_Full {a0 : S_slots_Slots} {r : ((List Int) × S_slots_Slots)} {O : Objs} {n : Nat} {i0 : Nat} (hi0 : i0 < n) (ho0 : O i0 = some ⟨false, 142, 32, 1, fl e_S_slots_slot a0.all.1⟩) (h : m_slots_Slots_Full a0 = some r) : GTo Try.prog 62 [.ref i0 0] O n (.sl r.1.length (fl (eI .i64) r.1)) (Loc (O.upd i0 (some ⟨false, 142, 32, 1, fl e_S_slots_slot r.2.all.1⟩)) n []) (n + 0) := by
  unfold m_slots_Slots_Full at h
  refine fn_of tab_ok Try.call62 Try.func62 rfl (Nat.le_of_ble_eq_true rfl) (by omega) fun hU => ?_
  rw [show Loc O n [] = Loc (O.upd i0 (some ⟨false, 142, 32, 1, fl e_S_slots_slot a0.all.1⟩)) n [] from by rw [upd_self (show O i0 = _ from by exact ho0)]]
  have hk0 : ∀ k, i0 < n + k := fun k => by omega
  have hN0 : ∀ o, Objs.upd O i0 o n = none := fun o => upd_fresh hU hi0 _ (Nat.le_refl _)
  have hN : ∀ o k, Objs.upd O i0 o (n + k) = none := fun o k => upd_fresh hU hi0 _ (Nat.le_add_right _ _)
  show W _ _ _ _ ⟨17, [], [(0, .ref i0 0)]⟩ (Loc (O.upd i0 (some ⟨false, 142, 32, 1, fl e_S_slots_slot a0.all.1⟩)) n []) _
  refine W_sq [0] (W_regionD tab_ok [] ?_)
  simp only [push_cast, Nat.reduceAdd, Nat.reduceSub, Nat.reduceMul, Nat.reduceLeDiff, Nat.reduceLT, Nat.reduceEqDiff, ↓reduceIte, reduceCtorEq, Int.reduceBEq, Int.reduceBNe, Nat.reduceBEq, Int.reduceLE, Int.reduceLT, Int.reduceEq, Int.reduceNe, Int.reduceNeg, Nat.reduceDiv, Nat.reduceMod, Nat.reducePow, cast_lit, hi0, hk0, hN0, hN]
  refine W_sq [0, 3] (W_regionD tab_ok [] ?_)
  simp only [push_cast, Nat.reduceAdd, Nat.reduceSub, Nat.reduceMul, Nat.reduceLeDiff, Nat.reduceLT, Nat.reduceEqDiff, ↓reduceIte, reduceCtorEq, Int.reduceBEq, Int.reduceBNe, Nat.reduceBEq, Int.reduceLE, Int.reduceLT, Int.reduceEq, Int.reduceNe, Int.reduceNeg, Nat.reduceDiv, Nat.reduceMod, Nat.reducePow, cast_lit, hi0, hk0, hN0, hN]
  refine W_seqK ?_
  refine W_sq [0, 3, 5] (W_regionD tab_ok [] ?_)
  simp only [push_cast, Nat.reduceAdd, Nat.reduceSub, Nat.reduceMul, Nat.reduceLeDiff, Nat.reduceLT, Nat.reduceEqDiff, ↓reduceIte, reduceCtorEq, Int.reduceBEq, Int.reduceBNe, Nat.reduceBEq, Int.reduceLE, Int.reduceLT, Int.reduceEq, Int.reduceNe, Int.reduceNeg, Nat.reduceDiv, Nat.reduceMod, Nat.reducePow, cast_lit, hi0, hk0, hN0, hN]
  refine W_drop [0, 3, 5] [] ?_
  simp only [push_cast, seval, ↓reduceIte]
  refine W_fit2 (E' := (⟨17, [], [(0, .ref i0 0), (3, .row n ([] : List Int).length), (5, .val (.int .i64 0))]⟩ : Env)) (O' := (Loc (O.upd i0 (some ⟨false, 142, 32, 1, fl e_S_slots_slot a0.all.1⟩)) n [some ⟨true, 3, 1, ([] : List Int).length, fl (eI .i64) ([] : List Int)⟩, none])) (n' := (n + 2)) ?_ ?_
  · refine Fit2.trans (E' := (⟨17, [], [(0, .ref i0 0), (3, .val (.slice none 0 0)), (5, .val (.int .i64 0))]⟩ : Env)) (O' := (Loc (O.upd i0 (some ⟨false, 142, 32, 1, fl e_S_slots_slot a0.all.1⟩)) n [])) (n' := n) (Fit2.of (fit_loco hU rfl rfl ?_) (by omega)) ?_
    · simp only [push_cast, Nat.reduceAdd, Nat.reduceSub, Nat.reduceMul, Nat.reduceLeDiff, Nat.reduceLT, Nat.reduceEqDiff, ↓reduceIte, reduceCtorEq, Int.reduceBEq, Int.reduceBNe, Nat.reduceBEq, Int.reduceLE, Int.reduceLT, Int.reduceEq, Int.reduceNe, Int.reduceNeg, Nat.reduceDiv, Nat.reduceMod, Nat.reducePow, cast_lit, hi0, hk0, hN0, hN]
    refine Fit2.trans (adopt_fit 3 3 1 rfl (by omega)) ?_
    simp only [Loc_push, Loc_push0, Loc_upd, Loc_upd0, List.set_cons_zero, List.set_cons_succ, List.cons_append, List.nil_append, List.length_cons, List.length_nil, Nat.zero_add, Nat.reduceAdd, Nat.reduceLT, Nat.add_assoc, Loc_updo, hi0, hk0, hN0, hN]
    refine Fit2.trans (E' := (⟨17, [], [(0, .ref i0 0), (3, .row n ([] : List Int).length), (5, .val (.int .i64 0))]⟩ : Env)) (O' := (Loc (O.upd i0 (some ⟨false, 142, 32, 1, fl e_S_slots_slot a0.all.1⟩)) n [some ⟨true, 3, 1, ([] : List Int).length, fl (eI .i64) ([] : List Int)⟩])) (n' := (n + 1)) (Fit2.of (fit_loco hU rfl rfl ?_) (by omega)) ?_
    · simp only [push_cast, Nat.reduceAdd, Nat.reduceSub, Nat.reduceMul, Nat.reduceLeDiff, Nat.reduceLT, Nat.reduceEqDiff, ↓reduceIte, reduceCtorEq, Int.reduceBEq, Int.reduceBNe, Nat.reduceBEq, Int.reduceLE, Int.reduceLT, Int.reduceEq, Int.reduceNe, Int.reduceNeg, Nat.reduceDiv, Nat.reduceMod, Nat.reducePow, cast_lit, hi0, hk0, hN0, hN]
    refine ren_fito (k := 1) (k' := 2) hU [0] [0, 0] rfl rfl rfl rfl ⟨rfl, rfl⟩ ?_
    simp only [push_cast, Nat.reduceAdd, Nat.reduceSub, Nat.reduceMul, Nat.reduceLeDiff, Nat.reduceLT, Nat.reduceEqDiff, ↓reduceIte, reduceCtorEq, Int.reduceBEq, Int.reduceBNe, Nat.reduceBEq, Int.reduceLE, Int.reduceLT, Int.reduceEq, Int.reduceNe, Int.reduceNeg, Nat.reduceDiv, Nat.reduceMod, Nat.reducePow, cast_lit, hi0, hk0, hN0, hN]
  obtain ⟨z7, hz7, h⟩ := bC h
  refine W_blockX (E' := ⟨17, [], [(3, .row n z7.1.length)]⟩) (O' := (Loc (O.upd i0 (some ⟨false, 142, 32, 1, fl e_S_slots_slot z7.2.1⟩)) n [some ⟨true, 3, 1, z7.1.length, fl (eI .i64) z7.1⟩, none])) (n0 := (n + 2)) ?_ ?_
  · refine W_loopJ hz7 (fun s0_ => ⟨17, [], [(0, .ref i0 0), (3, .row n s0_.2.1.length), (5, .val (.int .i64 s0_.1))]⟩) (fun s0_ => (Loc (O.upd i0 (some ⟨false, 142, 32, 1, fl e_S_slots_slot s0_.2.2.1⟩)) n [some ⟨true, 3, 1, s0_.2.1.length, fl (eI .i64) s0_.2.1⟩, none])) (fun z7 => JX 0 n (⟨17, [], [(3, .row n z7.1.length)]⟩ : Env) (Loc (O.upd i0 (some ⟨false, 142, 32, 1, fl e_S_slots_slot z7.2.1⟩)) n [some ⟨true, 3, 1, z7.1.length, fl (eI .i64) z7.1⟩, none]) (n + 2)) ?_
    intro s0_ x0_ hs0_
    unfold m_slots_Slots_Full_L0 at hs0_
    try dsimp only
    refine W_sq [0, 3, 5, 6] (W_regionD tab_ok [] ?_)
    simp only [push_cast, Nat.reduceAdd, Nat.reduceSub, Nat.reduceMul, Nat.reduceLeDiff, Nat.reduceLT, Nat.reduceEqDiff, ↓reduceIte, reduceCtorEq, Int.reduceBEq, Int.reduceBNe, Nat.reduceBEq, Int.reduceLE, Int.reduceLT, Int.reduceEq, Int.reduceNe, Int.reduceNeg, Nat.reduceDiv, Nat.reduceMod, Nat.reducePow, cast_lit, hi0, hk0, hN0, hN]
    refine W_seqK ?_
    refine W_cond (t := (decide (s0_.1 < 16))) rfl (fun c6 => ?_) (fun c6 => ?_)
    · replace hs0_ := condT c6 hs0_
      refine W_skip ?_
      try simp only [gthen, gblock]
      refine W_drop [0, 3, 5] [true, false] ?_
      simp only [push_cast, seval, ↓reduceIte]
      obtain ⟨z1, hz1, hs0_⟩ := bC hs0_
      refine W_seqN (E' := ⟨17, [], [(0, .ref i0 0), (3, .row n z1.1.length), (5, .val (.int .i64 s0_.1))]⟩) (O' := (Loc (O.upd i0 (some ⟨false, 142, 32, 1, fl e_S_slots_slot z1.2.1⟩)) n [some ⟨true, 3, 1, z1.1.length, fl (eI .i64) z1.1⟩, none, none])) (n0 := (n + 3)) ?_ ?_
      · refine W_block ?_
        refine W_sq [0, 3, 4, 5] (W_regionD tab_ok [] ?_)
        simp only [push_cast, Nat.reduceAdd, Nat.reduceSub, Nat.reduceMul, Nat.reduceLeDiff, Nat.reduceLT, Nat.reduceEqDiff, ↓reduceIte, reduceCtorEq, Int.reduceBEq, Int.reduceBNe, Nat.reduceBEq, Int.reduceLE, Int.reduceLT, Int.reduceEq, Int.reduceNe, Int.reduceNeg, Nat.reduceDiv, Nat.reduceMod, Nat.reducePow, cast_lit, hi0, hk0, hN0, hN]
        refine W_seqK ?_
        obtain ⟨y3, hy3, hz1⟩ := bC hz1
        refine W_regionD tab_ok [] ?_
        simp only [push_cast, Nat.reduceAdd, Nat.reduceSub, Nat.reduceMul, Nat.reduceLeDiff, Nat.reduceLT, Nat.reduceEqDiff, ↓reduceIte, reduceCtorEq, Int.reduceBEq, Int.reduceBNe, Nat.reduceBEq, Int.reduceLE, Int.reduceLT, Int.reduceEq, Int.reduceNe, Int.reduceNeg, Nat.reduceDiv, Nat.reduceMod, Nat.reducePow, cast_lit, hi0, hk0, hN0, hN]
        refine (ok_slots_Slots_Has (i0 := i0) (by omega) (by simp only [push_cast, Nat.reduceAdd, Nat.reduceSub, Nat.reduceMul, Nat.reduceLeDiff, Nat.reduceLT, Nat.reduceEqDiff, ↓reduceIte, reduceCtorEq, Int.reduceBEq, Int.reduceBNe, Nat.reduceBEq, Int.reduceLE, Int.reduceLT, Int.reduceEq, Int.reduceNe, Int.reduceNeg, Nat.reduceDiv, Nat.reduceMod, Nat.reducePow, cast_lit, fl_nil, hi0, hk0, hN0, hN] <;> rfl) hy3).then ?_
        simp only [push_cast, Nat.reduceAdd, Nat.reduceSub, Nat.reduceMul, Nat.reduceLeDiff, Nat.reduceLT, Nat.reduceEqDiff, ↓reduceIte, reduceCtorEq, Int.reduceBEq, Int.reduceBNe, Nat.reduceBEq, Int.reduceLE, Int.reduceLT, Int.reduceEq, Int.reduceNe, Int.reduceNeg, Nat.reduceDiv, Nat.reduceMod, Nat.reducePow, cast_lit, hi0, hk0, hN0, hN]
        refine W_drop [0, 3, 4, 5, 10] [true, false] ?_
        simp only [push_cast, seval, ↓reduceIte]
        refine W_cond (t := y3.1) rfl (fun c5 => ?_) (fun c5 => ?_)
        · replace hz1 := condT c5 hz1
          obtain ⟨l4, pl4, ql4, el4, hz1⟩ := bA (k := 1) rfl hz1
          refine W_regionD tab_ok [] ?_
          simp only [push_cast, Nat.reduceAdd, Nat.reduceSub, Nat.reduceMul, Nat.reduceLeDiff, Nat.reduceLT, Nat.reduceEqDiff, ↓reduceIte, reduceCtorEq, Int.reduceBEq, Int.reduceBNe, Nat.reduceBEq, Int.reduceLE, Int.reduceLT, Int.reduceEq, Int.reduceNe, Int.reduceNeg, Nat.reduceDiv, Nat.reduceMod, Nat.reducePow, cast_lit, pl4, ql4, el4, hi0, hk0, hN0, hN]
          have hz1 := Option.some.inj hz1; subst hz1
          refine And.intro rfl (Fit2.of (fit_loco hU rfl rfl ?_) (by omega))
          simp only [push_cast, Nat.reduceAdd, Nat.reduceSub, Nat.reduceMul, Nat.reduceLeDiff, Nat.reduceLT, Nat.reduceEqDiff, ↓reduceIte, reduceCtorEq, Int.reduceBEq, Int.reduceBNe, Nat.reduceBEq, Int.reduceLE, Int.reduceLT, Int.reduceEq, Int.reduceNe, Int.reduceNeg, Nat.reduceDiv, Nat.reduceMod, Nat.reducePow, cast_lit, pl4, ql4, el4, hi0, hk0, hN0, hN]
        · replace hz1 := condF c5 hz1
          refine W_skip ?_
          try simp only [gthen, gblock]
          have hz1 := Option.some.inj hz1; subst hz1
          refine And.intro rfl (Fit2.of (fit_loco hU rfl rfl ?_) (by omega))
          simp only [push_cast, Nat.reduceAdd, Nat.reduceSub, Nat.reduceMul, Nat.reduceLeDiff, Nat.reduceLT, Nat.reduceEqDiff, ↓reduceIte, reduceCtorEq, Int.reduceBEq, Int.reduceBNe, Nat.reduceBEq, Int.reduceLE, Int.reduceLT, Int.reduceEq, Int.reduceNe, Int.reduceNeg, Nat.reduceDiv, Nat.reduceMod, Nat.reducePow, cast_lit, hi0, hk0, hN0, hN]
      refine W_regionD tab_ok [] ?_
      simp only [push_cast, Nat.reduceAdd, Nat.reduceSub, Nat.reduceMul, Nat.reduceLeDiff, Nat.reduceLT, Nat.reduceEqDiff, ↓reduceIte, reduceCtorEq, Int.reduceBEq, Int.reduceBNe, Nat.reduceBEq, Int.reduceLE, Int.reduceLT, Int.reduceEq, Int.reduceNe, Int.reduceNeg, Nat.reduceDiv, Nat.reduceMod, Nat.reducePow, cast_lit, hi0, hk0, hN0, hN]
      have hs0_ := Option.some.inj hs0_; subst hs0_
      refine And.intro rfl (Fit2.of (fit_loco hU rfl rfl ?_) (by omega))
      simp only [push_cast, Nat.reduceAdd, Nat.reduceSub, Nat.reduceMul, Nat.reduceLeDiff, Nat.reduceLT, Nat.reduceEqDiff, ↓reduceIte, reduceCtorEq, Int.reduceBEq, Int.reduceBNe, Nat.reduceBEq, Int.reduceLE, Int.reduceLT, Int.reduceEq, Int.reduceNe, Int.reduceNeg, Nat.reduceDiv, Nat.reduceMod, Nat.reducePow, cast_lit, hi0, hk0, hN0, hN]
    · replace hs0_ := condF c6 hs0_
      refine W_exit ?_
      try simp only [gthen, gblock, ↓reduceIte, Nat.reduceEqDiff]
      have hs0_ := Option.some.inj hs0_; subst hs0_
      refine And.intro (fun h => by cases h) (And.intro rfl (Fit2.of (fit_loco hU rfl rfl ?_) (by omega)))
      simp only [push_cast, Nat.reduceAdd, Nat.reduceSub, Nat.reduceMul, Nat.reduceLeDiff, Nat.reduceLT, Nat.reduceEqDiff, ↓reduceIte, reduceCtorEq, Int.reduceBEq, Int.reduceBNe, Nat.reduceBEq, Int.reduceLE, Int.reduceLT, Int.reduceEq, Int.reduceNe, Int.reduceNeg, Nat.reduceDiv, Nat.reduceMod, Nat.reducePow, cast_lit, hi0, hk0, hN0, hN]
  try simp only [gthen, gblock, ↓reduceIte, Nat.reduceEqDiff]
  refine W_drop [3] [true, false] ?_
  simp only [push_cast, seval, ↓reduceIte]
  refine W_sq [2] (W_regionD tab_ok [] ?_)
  simp only [push_cast, Nat.reduceAdd, Nat.reduceSub, Nat.reduceMul, Nat.reduceLeDiff, Nat.reduceLT, Nat.reduceEqDiff, ↓reduceIte, reduceCtorEq, Int.reduceBEq, Int.reduceBNe, Nat.reduceBEq, Int.reduceLE, Int.reduceLT, Int.reduceEq, Int.reduceNe, Int.reduceNeg, Nat.reduceDiv, Nat.reduceMod, Nat.reducePow, cast_lit, hi0, hk0, hN0, hN]
  refine W_ret ?_
  try simp only [gthen, gblock]
  have h := Option.some.inj h; subst h
  refine fin_locV (k := 0) (i := i0) (q1 := ⟨false, 142, 32, 1, fl e_S_slots_slot z7.2.1⟩) (L3 := [some ⟨true, 3, 1, z7.1.length, fl (eI .i64) z7.1⟩, none]) (E2 := (⟨17, [], [(2, .row n z7.1.length)]⟩ : Env)) (n3 := (n + 2)) (.inr rfl) hU rfl [.row n z7.1.length] ?_ ?_
  · refine Fit2.trans (E' := (⟨17, [], [(2, .row n z7.1.length)]⟩ : Env)) (O' := (Loc (O.upd i0 (some ⟨false, 142, 32, 1, fl e_S_slots_slot z7.2.1⟩)) n [some ⟨true, 3, 1, z7.1.length, fl (eI .i64) z7.1⟩, none])) (n' := (n + 2)) (Fit2.of (fit_loco hU rfl rfl ?_) (by omega)) ?_
    · simp only [push_cast, Nat.reduceAdd, Nat.reduceSub, Nat.reduceMul, Nat.reduceLeDiff, Nat.reduceLT, Nat.reduceEqDiff, ↓reduceIte, reduceCtorEq, Int.reduceBEq, Int.reduceBNe, Nat.reduceBEq, Int.reduceLE, Int.reduceLT, Int.reduceEq, Int.reduceNe, Int.reduceNeg, Nat.reduceDiv, Nat.reduceMod, Nat.reducePow, cast_lit, hi0, hk0, hN0, hN]
    refine ren_fito (k := 2) (k' := 2) hU [0, 1] [0, 0] rfl rfl rfl rfl ⟨rfl, rfl⟩ ?_
    simp only [push_cast, Nat.reduceAdd, Nat.reduceSub, Nat.reduceMul, Nat.reduceLeDiff, Nat.reduceLT, Nat.reduceEqDiff, ↓reduceIte, reduceCtorEq, Int.reduceBEq, Int.reduceBNe, Nat.reduceBEq, Int.reduceLE, Int.reduceLT, Int.reduceEq, Int.reduceNe, Int.reduceNeg, Nat.reduceDiv, Nat.reduceMod, Nat.reducePow, cast_lit, hi0, hk0, hN0, hN]
  simp only [push_cast, Nat.reduceAdd, Nat.reduceSub, Nat.reduceMul, Nat.reduceLeDiff, Nat.reduceLT, Nat.reduceEqDiff, ↓reduceIte, reduceCtorEq, Int.reduceBEq, Int.reduceBNe, Nat.reduceBEq, Int.reduceLE, Int.reduceLT, Int.reduceEq, Int.reduceNe, Int.reduceNeg, Nat.reduceDiv, Nat.reduceMod, Nat.reducePow, cast_lit, Try.results62, hi0, hk0, hN0, hN]

theorem ok_centoref16_SameInts {a0 : (List Int)} {a1 : (List Int)} {r : Bool} {O : Objs} {n : Nat} (h : m_centoref16_SameInts a0 a1 = some r) : GTo Try.prog 92 [.sl a0.length (fl (eI .i64) a0), .sl a1.length (fl (eI .i64) a1)] O n (.val (.bool r)) O n := by
  unfold m_centoref16_SameInts at h
  refine fn_of tab_ok Try.call92 Try.func92 rfl (Nat.le_of_ble_eq_true rfl) (Nat.le_refl _) fun hU => ?_
  have hN0 : O n = none := hU.fresh _ (Nat.le_refl _)
  have hN : ∀ k, O (n + k) = none := fun k => hU.fresh _ (Nat.le_add_right _ _)
  show W _ _ _ _ ⟨26, [], [(0, .sl a0.length (fl (eI .i64) a0)), (1, .sl a1.length (fl (eI .i64) a1))]⟩ (Loc O n []) _
  refine W_sq [0, 1] (W_regionD tab_ok [] ?_)
  simp only [push_cast, Nat.reduceAdd, Nat.reduceSub, Nat.reduceMul, Nat.reduceLeDiff, Nat.reduceLT, Nat.reduceEqDiff, ↓reduceIte, reduceCtorEq, Int.reduceBEq, Int.reduceBNe, Nat.reduceBEq, Int.reduceLE, Int.reduceLT, Int.reduceEq, Int.reduceNe, Int.reduceNeg, Nat.reduceDiv, Nat.reduceMod, Nat.reducePow, cast_lit, hN0, hN]
  refine W_seqK ?_
  refine W_sq [0, 1, 10] (W_regionD tab_ok [] ?_)
  simp only [push_cast, Nat.reduceAdd, Nat.reduceSub, Nat.reduceMul, Nat.reduceLeDiff, Nat.reduceLT, Nat.reduceEqDiff, ↓reduceIte, reduceCtorEq, Int.reduceBEq, Int.reduceBNe, Nat.reduceBEq, Int.reduceLE, Int.reduceLT, Int.reduceEq, Int.reduceNe, Int.reduceNeg, Nat.reduceDiv, Nat.reduceMod, Nat.reducePow, cast_lit, hN0, hN]
  refine W_cond (t := ((a0.length : Int) != (a1.length : Int))) rfl (fun c8 => ?_) (fun c8 => ?_)
  · replace h := condT c8 h
    refine W_sq [4] (W_regionD tab_ok [] ?_)
    simp only [push_cast, Nat.reduceAdd, Nat.reduceSub, Nat.reduceMul, Nat.reduceLeDiff, Nat.reduceLT, Nat.reduceEqDiff, ↓reduceIte, reduceCtorEq, Int.reduceBEq, Int.reduceBNe, Nat.reduceBEq, Int.reduceLE, Int.reduceLT, Int.reduceEq, Int.reduceNe, Int.reduceNeg, Nat.reduceDiv, Nat.reduceMod, Nat.reducePow, cast_lit, hN0, hN]
    refine W_ret ?_
    try simp only [gthen, gblock]
    have h := Option.some.inj h; subst h
    refine fin_loc (.inr rfl) hU [.val (.bool false)] (by omega) ?_
    simp only [push_cast, Nat.reduceAdd, Nat.reduceSub, Nat.reduceMul, Nat.reduceLeDiff, Nat.reduceLT, Nat.reduceEqDiff, ↓reduceIte, reduceCtorEq, Int.reduceBEq, Int.reduceBNe, Nat.reduceBEq, Int.reduceLE, Int.reduceLT, Int.reduceEq, Int.reduceNe, Int.reduceNeg, Nat.reduceDiv, Nat.reduceMod, Nat.reducePow, cast_lit, Try.results92, hN0, hN]
  · replace h := condF c8 h
    refine W_skip ?_
    try simp only [gthen, gblock]
    refine W_drop [0, 1] [] ?_
    simp only [push_cast, seval, ↓reduceIte]
    refine W_seqK ?_
    refine W_sq [0, 1, 5] (W_regionD tab_ok [] ?_)
    simp only [push_cast, Nat.reduceAdd, Nat.reduceSub, Nat.reduceMul, Nat.reduceLeDiff, Nat.reduceLT, Nat.reduceEqDiff, ↓reduceIte, reduceCtorEq, Int.reduceBEq, Int.reduceBNe, Nat.reduceBEq, Int.reduceLE, Int.reduceLT, Int.reduceEq, Int.reduceNe, Int.reduceNeg, Nat.reduceDiv, Nat.reduceMod, Nat.reducePow, cast_lit, hN0, hN]
    refine W_drop [0, 1, 5] [] ?_
    simp only [push_cast, seval, ↓reduceIte]
    obtain ⟨z7, hz7, h⟩ := bC h
    refine W_sumB (J := (SumJ (fun z7 => JR n (⟨26, [], [(4, .val (.bool false))]⟩ : Env) (Loc O n []) n) (fun z7 => JX 0 n (⟨26, [], []⟩ : Env) (Loc O n []) n))) (z := z7) ?_ fun hw => ?_
    · refine W_loopJ hz7 (fun s0_ => ⟨26, [], [(0, .sl a0.length (fl (eI .i64) a0)), (1, .sl a1.length (fl (eI .i64) a1)), (5, .val (.int .i64 s0_))]⟩) (fun s0_ => (Loc O n [])) (SumJ (fun z7 => JR n (⟨26, [], [(4, .val (.bool false))]⟩ : Env) (Loc O n []) n) (fun z7 => JX 0 n (⟨26, [], []⟩ : Env) (Loc O n []) n)) ?_
      intro s0_ x0_ hs0_
      unfold m_centoref16_SameInts_L0 at hs0_
      try dsimp only
      refine W_seqK ?_
      refine W_sq [0, 1, 5, 14] (W_regionD tab_ok [] ?_)
      simp only [push_cast, Nat.reduceAdd, Nat.reduceSub, Nat.reduceMul, Nat.reduceLeDiff, Nat.reduceLT, Nat.reduceEqDiff, ↓reduceIte, reduceCtorEq, Int.reduceBEq, Int.reduceBNe, Nat.reduceBEq, Int.reduceLE, Int.reduceLT, Int.reduceEq, Int.reduceNe, Int.reduceNeg, Nat.reduceDiv, Nat.reduceMod, Nat.reducePow, cast_lit, hN0, hN]
      refine W_cond (t := (decide (s0_ < (a0.length : Int)))) rfl (fun c6 => ?_) (fun c6 => ?_)
      · replace hs0_ := condT c6 hs0_
        refine W_skip ?_
        try simp only [gthen, gblock]
        refine W_drop [0, 1, 5] [] ?_
        simp only [push_cast, seval, ↓reduceIte]
        refine W_seqK ?_
        refine W_block ?_
        obtain ⟨x3, hx3, ax3, bx3, cx3, hs0_⟩ := bE (f := (eI .i64)) tab3 (fun _ => rfl) (by decide) hs0_
        obtain ⟨x4, hx4, ax4, bx4, cx4, hs0_⟩ := bE (f := (eI .i64)) tab3 (fun _ => rfl) (by decide) hs0_
        refine W_sq [0, 1, 5, 25] (W_drawD tab_ok (by kernel_rfl) [] (by kernel_rfl) ?_)
        simp only [push_cast, Nat.reduceAdd, Nat.reduceSub, Nat.reduceMul, Nat.reduceLeDiff, Nat.reduceLT, Nat.reduceEqDiff, ↓reduceIte, reduceCtorEq, Int.reduceBEq, Int.reduceBNe, Nat.reduceBEq, Int.reduceLE, Int.reduceLT, Int.reduceEq, Int.reduceNe, Int.reduceNeg, Nat.reduceDiv, Nat.reduceMod, Nat.reducePow, cast_lit, ax3, bx3, cx3, ax4, bx4, cx4, hN0, hN]
        refine W_cond (t := (x3 != x4)) rfl (fun c5 => ?_) (fun c5 => ?_)
        · replace hs0_ := condT c5 hs0_
          refine W_sq [4] (W_regionD tab_ok [] ?_)
          simp only [push_cast, Nat.reduceAdd, Nat.reduceSub, Nat.reduceMul, Nat.reduceLeDiff, Nat.reduceLT, Nat.reduceEqDiff, ↓reduceIte, reduceCtorEq, Int.reduceBEq, Int.reduceBNe, Nat.reduceBEq, Int.reduceLE, Int.reduceLT, Int.reduceEq, Int.reduceNe, Int.reduceNeg, Nat.reduceDiv, Nat.reduceMod, Nat.reducePow, cast_lit, hN0, hN]
          refine W_ret ?_
          try simp only [gthen, gblock]
          have hs0_ := Option.some.inj hs0_; subst hs0_
          refine And.intro (fun h => by cases h) (And.intro rfl (Fit2.of (fit_loc hU rfl rfl ?_) (by omega)))
          simp only [push_cast, Nat.reduceAdd, Nat.reduceSub, Nat.reduceMul, Nat.reduceLeDiff, Nat.reduceLT, Nat.reduceEqDiff, ↓reduceIte, reduceCtorEq, Int.reduceBEq, Int.reduceBNe, Nat.reduceBEq, Int.reduceLE, Int.reduceLT, Int.reduceEq, Int.reduceNe, Int.reduceNeg, Nat.reduceDiv, Nat.reduceMod, Nat.reducePow, cast_lit, hN0, hN]
        · replace hs0_ := condF c5 hs0_
          refine W_skip ?_
          try simp only [gthen, gblock]
          refine W_drop [0, 1, 5] [] ?_
          simp only [push_cast, seval, ↓reduceIte]
          refine W_regionD tab_ok [] ?_
          simp only [push_cast, Nat.reduceAdd, Nat.reduceSub, Nat.reduceMul, Nat.reduceLeDiff, Nat.reduceLT, Nat.reduceEqDiff, ↓reduceIte, reduceCtorEq, Int.reduceBEq, Int.reduceBNe, Nat.reduceBEq, Int.reduceLE, Int.reduceLT, Int.reduceEq, Int.reduceNe, Int.reduceNeg, Nat.reduceDiv, Nat.reduceMod, Nat.reducePow, cast_lit, hN0, hN]
          have hs0_ := Option.some.inj hs0_; subst hs0_
          refine And.intro rfl (Fit2.of (fit_loc hU rfl rfl ?_) (by omega))
          simp only [push_cast, Nat.reduceAdd, Nat.reduceSub, Nat.reduceMul, Nat.reduceLeDiff, Nat.reduceLT, Nat.reduceEqDiff, ↓reduceIte, reduceCtorEq, Int.reduceBEq, Int.reduceBNe, Nat.reduceBEq, Int.reduceLE, Int.reduceLT, Int.reduceEq, Int.reduceNe, Int.reduceNeg, Nat.reduceDiv, Nat.reduceMod, Nat.reducePow, cast_lit, hN0, hN]
      · replace hs0_ := condF c6 hs0_
        refine W_exit ?_
        try simp only [gthen, gblock, ↓reduceIte, Nat.reduceEqDiff]
        have hs0_ := Option.some.inj hs0_; subst hs0_
        refine And.intro (fun h => by cases h) (And.intro rfl (Fit2.of (fit_loc hU rfl rfl ?_) (by omega)))
        simp only [push_cast, Nat.reduceAdd, Nat.reduceSub, Nat.reduceMul, Nat.reduceLeDiff, Nat.reduceLT, Nat.reduceEqDiff, ↓reduceIte, reduceCtorEq, Int.reduceBEq, Int.reduceBNe, Nat.reduceBEq, Int.reduceLE, Int.reduceLT, Int.reduceEq, Int.reduceNe, Int.reduceNeg, Nat.reduceDiv, Nat.reduceMod, Nat.reducePow, cast_lit, hN0, hN]
    rcases z7 with z7 | z7
    · dsimp only [SumJ] at hw h
      refine W_blockR hw ?_
      try simp only [gthen, gblock, ↓reduceIte, Nat.reduceEqDiff]
      have h := Option.some.inj h; subst h
      refine fin_loc (.inr rfl) hU [.val (.bool false)] (by omega) ?_
      simp only [push_cast, Nat.reduceAdd, Nat.reduceSub, Nat.reduceMul, Nat.reduceLeDiff, Nat.reduceLT, Nat.reduceEqDiff, ↓reduceIte, reduceCtorEq, Int.reduceBEq, Int.reduceBNe, Nat.reduceBEq, Int.reduceLE, Int.reduceLT, Int.reduceEq, Int.reduceNe, Int.reduceNeg, Nat.reduceDiv, Nat.reduceMod, Nat.reducePow, cast_lit, Try.results92, hN0, hN]
    · dsimp only [SumJ] at hw h
      refine W_blockX hw ?_
      try simp only [gthen, gblock, ↓reduceIte, Nat.reduceEqDiff]
      refine W_drop [] [] ?_
      simp only [push_cast, seval, ↓reduceIte]
      refine W_sq [4] (W_regionD tab_ok [] ?_)
      simp only [push_cast, Nat.reduceAdd, Nat.reduceSub, Nat.reduceMul, Nat.reduceLeDiff, Nat.reduceLT, Nat.reduceEqDiff, ↓reduceIte, reduceCtorEq, Int.reduceBEq, Int.reduceBNe, Nat.reduceBEq, Int.reduceLE, Int.reduceLT, Int.reduceEq, Int.reduceNe, Int.reduceNeg, Nat.reduceDiv, Nat.reduceMod, Nat.reducePow, cast_lit, hN0, hN]
      refine W_ret ?_
      try simp only [gthen, gblock]
      have h := Option.some.inj h; subst h
      refine fin_loc (.inr rfl) hU [.val (.bool true)] (by omega) ?_
      simp only [push_cast, Nat.reduceAdd, Nat.reduceSub, Nat.reduceMul, Nat.reduceLeDiff, Nat.reduceLT, Nat.reduceEqDiff, ↓reduceIte, reduceCtorEq, Int.reduceBEq, Int.reduceBNe, Nat.reduceBEq, Int.reduceLE, Int.reduceLT, Int.reduceEq, Int.reduceNe, Int.reduceNeg, Nat.reduceDiv, Nat.reduceMod, Nat.reducePow, cast_lit, Try.results92, hN0, hN]

theorem ok_centolaw35_awake  {r : Bool} {O : Objs} {n : Nat} (h : m_centolaw35_awake = some r) : GTo Try.prog 56 [] O n (.val (.bool r)) O n := by
  unfold m_centolaw35_awake at h
  refine fn_of tab_ok Try.call56 Try.func56 rfl (Nat.le_of_ble_eq_true rfl) (Nat.le_refl _) fun hU => ?_
  have hN0 : O n = none := hU.fresh _ (Nat.le_refl _)
  have hN : ∀ k, O (n + k) = none := fun k => hU.fresh _ (Nat.le_add_right _ _)
  show W _ _ _ _ ⟨38, [], []⟩ (Loc O n []) _
  refine W_sq [] (W_regionD tab_ok [] ?_)
  simp only [push_cast, Nat.reduceAdd, Nat.reduceSub, Nat.reduceMul, Nat.reduceLeDiff, Nat.reduceLT, Nat.reduceEqDiff, ↓reduceIte, reduceCtorEq, Int.reduceBEq, Int.reduceBNe, Nat.reduceBEq, Int.reduceLE, Int.reduceLT, Int.reduceEq, Int.reduceNe, Int.reduceNeg, Nat.reduceDiv, Nat.reduceMod, Nat.reducePow, cast_lit, hN0, hN]
  refine W_seqK ?_
  obtain ⟨y2, hy2, h⟩ := bC h
  refine W_regionD tab_ok [] ?_
  simp only [push_cast, Nat.reduceAdd, Nat.reduceSub, Nat.reduceMul, Nat.reduceLeDiff, Nat.reduceLT, Nat.reduceEqDiff, ↓reduceIte, reduceCtorEq, Int.reduceBEq, Int.reduceBNe, Nat.reduceBEq, Int.reduceLE, Int.reduceLT, Int.reduceEq, Int.reduceNe, Int.reduceNeg, Nat.reduceDiv, Nat.reduceMod, Nat.reducePow, cast_lit, hN0, hN]
  refine (ok_slots_New  hy2).then ?_
  simp only [push_cast, Nat.reduceAdd, Nat.reduceSub, Nat.reduceMul, Nat.reduceLeDiff, Nat.reduceLT, Nat.reduceEqDiff, ↓reduceIte, reduceCtorEq, Int.reduceBEq, Int.reduceBNe, Nat.reduceBEq, Int.reduceLE, Int.reduceLT, Int.reduceEq, Int.reduceNe, Int.reduceNeg, Nat.reduceDiv, Nat.reduceMod, Nat.reducePow, cast_lit, hN0, hN]
  refine W_drop [1] [true] ?_
  simp only [push_cast, seval, ↓reduceIte]
  refine W_seqK ?_
  obtain ⟨y4, hy4, h⟩ := bC h
  refine W_regionD tab_ok [] ?_
  simp only [push_cast, Nat.reduceAdd, Nat.reduceSub, Nat.reduceMul, Nat.reduceLeDiff, Nat.reduceLT, Nat.reduceEqDiff, ↓reduceIte, reduceCtorEq, Int.reduceBEq, Int.reduceBNe, Nat.reduceBEq, Int.reduceLE, Int.reduceLT, Int.reduceEq, Int.reduceNe, Int.reduceNeg, Nat.reduceDiv, Nat.reduceMod, Nat.reducePow, cast_lit, hN0, hN]
  refine GCalls.dropL (l' := [some ⟨false, 142, 32, 1, fl e_S_slots_slot y2.all.1⟩, none, none, none]) hU rfl ?_ ((ok_slots_Slots_Put (i0 := n) (by omega) (by simp only [push_cast, Nat.reduceAdd, Nat.reduceSub, Nat.reduceMul, Nat.reduceLeDiff, Nat.reduceLT, Nat.reduceEqDiff, ↓reduceIte, reduceCtorEq, Int.reduceBEq, Int.reduceBNe, Nat.reduceBEq, Int.reduceLE, Int.reduceLT, Int.reduceEq, Int.reduceNe, Int.reduceNeg, Nat.reduceDiv, Nat.reduceMod, Nat.reducePow, cast_lit, fl_nil, hN0, hN] <;> rfl) hy4).then ?_)
  · simp only [push_cast, Nat.reduceAdd, Nat.reduceSub, Nat.reduceMul, Nat.reduceLeDiff, Nat.reduceLT, Nat.reduceEqDiff, ↓reduceIte, reduceCtorEq, Int.reduceBEq, Int.reduceBNe, Nat.reduceBEq, Int.reduceLE, Int.reduceLT, Int.reduceEq, Int.reduceNe, Int.reduceNeg, Nat.reduceDiv, Nat.reduceMod, Nat.reducePow, cast_lit, hN0, hN]
  simp only [push_cast, Nat.reduceAdd, Nat.reduceSub, Nat.reduceMul, Nat.reduceLeDiff, Nat.reduceLT, Nat.reduceEqDiff, ↓reduceIte, reduceCtorEq, Int.reduceBEq, Int.reduceBNe, Nat.reduceBEq, Int.reduceLE, Int.reduceLT, Int.reduceEq, Int.reduceNe, Int.reduceNeg, Nat.reduceDiv, Nat.reduceMod, Nat.reducePow, cast_lit, hN0, hN]
  refine W_drop [1, 2] [true, false, false, false] ?_
  simp only [push_cast, seval, ↓reduceIte]
  refine W_seqK ?_
  obtain ⟨y6, hy6, h⟩ := bC h
  refine W_regionD tab_ok [] ?_
  simp only [push_cast, Nat.reduceAdd, Nat.reduceSub, Nat.reduceMul, Nat.reduceLeDiff, Nat.reduceLT, Nat.reduceEqDiff, ↓reduceIte, reduceCtorEq, Int.reduceBEq, Int.reduceBNe, Nat.reduceBEq, Int.reduceLE, Int.reduceLT, Int.reduceEq, Int.reduceNe, Int.reduceNeg, Nat.reduceDiv, Nat.reduceMod, Nat.reducePow, cast_lit, hN0, hN]
  refine (ok_slots_Slots_Get (i0 := n) (by omega) (by simp only [push_cast, Nat.reduceAdd, Nat.reduceSub, Nat.reduceMul, Nat.reduceLeDiff, Nat.reduceLT, Nat.reduceEqDiff, ↓reduceIte, reduceCtorEq, Int.reduceBEq, Int.reduceBNe, Nat.reduceBEq, Int.reduceLE, Int.reduceLT, Int.reduceEq, Int.reduceNe, Int.reduceNeg, Nat.reduceDiv, Nat.reduceMod, Nat.reducePow, cast_lit, fl_nil, hN0, hN] <;> rfl) hy6).then ?_
  simp only [push_cast, Nat.reduceAdd, Nat.reduceSub, Nat.reduceMul, Nat.reduceLeDiff, Nat.reduceLT, Nat.reduceEqDiff, ↓reduceIte, reduceCtorEq, Int.reduceBEq, Int.reduceBNe, Nat.reduceBEq, Int.reduceLE, Int.reduceLT, Int.reduceEq, Int.reduceNe, Int.reduceNeg, Nat.reduceDiv, Nat.reduceMod, Nat.reducePow, cast_lit, hN0, hN]
  refine W_drop [1, 2, 3, 4] [true, false, false, false] ?_
  simp only [push_cast, seval, ↓reduceIte]
  obtain ⟨z11, hz11, h⟩ := bC h
  refine W_seqN (E' := ⟨38, [], [(0, .val (.bool z11))]⟩) (O' := (Loc O n [none, none, none, none, none, none])) (n0 := (n + 6)) ?_ ?_
  · rcases Bool.eq_false_or_eq_true (y4.1 == 0) with c20 | c20
    · replace hz11 := condT c20 hz11
      rcases Bool.eq_false_or_eq_true (y6.2.1 == 0) with c21 | c21
      · replace hz11 := condT c21 hz11
        try rw [c21] at c20
        obtain ⟨y16, hy16, hz11⟩ := bC hz11
        rcases Bool.eq_false_or_eq_true y16 with c22 | c22
        · replace hz11 := condT c22 hz11
          try rw [c22] at c20
          try rw [c22] at c21
          obtain ⟨y17, hy17, hz11⟩ := bC hz11
          obtain ⟨y18, hy18, hz11⟩ := bC hz11
          rcases Bool.eq_false_or_eq_true y18 with c23 | c23
          · replace hz11 := condT c23 hz11
            try rw [c23] at c20
            try rw [c23] at c21
            try rw [c23] at c22
            obtain ⟨y19, hy19, hz11⟩ := bC hz11
            refine W_regionD tab_ok [none, none, some true, some true, some true, some true, some true, some true, some true, some true, some true, some true] ?_
            simp only [push_cast, Nat.reduceAdd, Nat.reduceSub, Nat.reduceMul, Nat.reduceLeDiff, Nat.reduceLT, Nat.reduceEqDiff, ↓reduceIte, reduceCtorEq, Int.reduceBEq, Int.reduceBNe, Nat.reduceBEq, Int.reduceLE, Int.reduceLT, Int.reduceEq, Int.reduceNe, Int.reduceNeg, Nat.reduceDiv, Nat.reduceMod, Nat.reducePow, cast_lit, c20, c21, c22, c23, hN0, hN]
            repeat (with_reducible refine And.intro (by first | (intro h0; simp only [h0, and_self]; done) | (intro h0; simp only [h0, Bool.not_false, Bool.not_true, Bool.true_and, Bool.and_true, true_and, and_true, and_self, imp_self, implies_true, bne_iff_ne, ne_eq, beq_iff_eq]; done) | (intros; simp_all; done) | exact True.intro) ?_)
            refine GCalls.lend (ok_centoref01_Same hy16) rfl ?_ ?_
            · simp only [push_cast, Nat.reduceAdd, Nat.reduceSub, Nat.reduceMul, Nat.reduceLeDiff, Nat.reduceLT, Nat.reduceEqDiff, ↓reduceIte, reduceCtorEq, Int.reduceBEq, Int.reduceBNe, Nat.reduceBEq, Int.reduceLE, Int.reduceLT, Int.reduceEq, Int.reduceNe, Int.reduceNeg, Nat.reduceDiv, Nat.reduceMod, Nat.reducePow, cast_lit, c20, c21, c22, c23, hN0, hN]
            simp only [push_cast, Nat.reduceAdd, Nat.reduceSub, Nat.reduceMul, Nat.reduceLeDiff, Nat.reduceLT, Nat.reduceEqDiff, ↓reduceIte, reduceCtorEq, Int.reduceBEq, Int.reduceBNe, Nat.reduceBEq, Int.reduceLE, Int.reduceLT, Int.reduceEq, Int.reduceNe, Int.reduceNeg, Nat.reduceDiv, Nat.reduceMod, Nat.reducePow, cast_lit, c20, c21, c22, c23, hN0, hN]
            repeat (with_reducible refine And.intro (by first | (intro h0; simp only [h0, and_self]; done) | (intro h0; simp only [h0, Bool.not_false, Bool.not_true, Bool.true_and, Bool.and_true, true_and, and_true, and_self, imp_self, implies_true, bne_iff_ne, ne_eq, beq_iff_eq]; done) | (intros; simp_all; done) | exact True.intro) ?_)
            refine (ok_slots_Slots_Full (i0 := n) (by omega) (by simp only [push_cast, Nat.reduceAdd, Nat.reduceSub, Nat.reduceMul, Nat.reduceLeDiff, Nat.reduceLT, Nat.reduceEqDiff, ↓reduceIte, reduceCtorEq, Int.reduceBEq, Int.reduceBNe, Nat.reduceBEq, Int.reduceLE, Int.reduceLT, Int.reduceEq, Int.reduceNe, Int.reduceNeg, Nat.reduceDiv, Nat.reduceMod, Nat.reducePow, cast_lit, fl_nil, c20, c21, c22, c23, hN0, hN] <;> rfl) hy17).then ?_
            simp only [push_cast, Nat.reduceAdd, Nat.reduceSub, Nat.reduceMul, Nat.reduceLeDiff, Nat.reduceLT, Nat.reduceEqDiff, ↓reduceIte, reduceCtorEq, Int.reduceBEq, Int.reduceBNe, Nat.reduceBEq, Int.reduceLE, Int.reduceLT, Int.reduceEq, Int.reduceNe, Int.reduceNeg, Nat.reduceDiv, Nat.reduceMod, Nat.reducePow, cast_lit, c20, c21, c22, c23, hN0, hN]
            repeat (with_reducible refine And.intro (by first | (intro h0; simp only [h0, and_self]; done) | (intro h0; simp only [h0, Bool.not_false, Bool.not_true, Bool.true_and, Bool.and_true, true_and, and_true, and_self, imp_self, implies_true, bne_iff_ne, ne_eq, beq_iff_eq]; done) | (intros; simp_all; done) | exact True.intro) ?_)
            refine GCalls.lend (ok_centoref16_SameInts hy18) rfl ?_ ?_
            · simp only [push_cast, Nat.reduceAdd, Nat.reduceSub, Nat.reduceMul, Nat.reduceLeDiff, Nat.reduceLT, Nat.reduceEqDiff, ↓reduceIte, reduceCtorEq, Int.reduceBEq, Int.reduceBNe, Nat.reduceBEq, Int.reduceLE, Int.reduceLT, Int.reduceEq, Int.reduceNe, Int.reduceNeg, Nat.reduceDiv, Nat.reduceMod, Nat.reducePow, cast_lit, c20, c21, c22, c23, hN0, hN]
            simp only [push_cast, Nat.reduceAdd, Nat.reduceSub, Nat.reduceMul, Nat.reduceLeDiff, Nat.reduceLT, Nat.reduceEqDiff, ↓reduceIte, reduceCtorEq, Int.reduceBEq, Int.reduceBNe, Nat.reduceBEq, Int.reduceLE, Int.reduceLT, Int.reduceEq, Int.reduceNe, Int.reduceNeg, Nat.reduceDiv, Nat.reduceMod, Nat.reducePow, cast_lit, c20, c21, c22, c23, hN0, hN]
            repeat (with_reducible refine And.intro (by first | (intro h0; simp only [h0, and_self]; done) | (intro h0; simp only [h0, Bool.not_false, Bool.not_true, Bool.true_and, Bool.and_true, true_and, and_true, and_self, imp_self, implies_true, bne_iff_ne, ne_eq, beq_iff_eq]; done) | (intros; simp_all; done) | exact True.intro) ?_)
            refine (ok_slots_Slots_Has (i0 := n) (by omega) (by simp only [push_cast, Nat.reduceAdd, Nat.reduceSub, Nat.reduceMul, Nat.reduceLeDiff, Nat.reduceLT, Nat.reduceEqDiff, ↓reduceIte, reduceCtorEq, Int.reduceBEq, Int.reduceBNe, Nat.reduceBEq, Int.reduceLE, Int.reduceLT, Int.reduceEq, Int.reduceNe, Int.reduceNeg, Nat.reduceDiv, Nat.reduceMod, Nat.reducePow, cast_lit, fl_nil, c20, c21, c22, c23, hN0, hN] <;> rfl) hy19).then ?_
            simp only [push_cast, Nat.reduceAdd, Nat.reduceSub, Nat.reduceMul, Nat.reduceLeDiff, Nat.reduceLT, Nat.reduceEqDiff, ↓reduceIte, reduceCtorEq, Int.reduceBEq, Int.reduceBNe, Nat.reduceBEq, Int.reduceLE, Int.reduceLT, Int.reduceEq, Int.reduceNe, Int.reduceNeg, Nat.reduceDiv, Nat.reduceMod, Nat.reducePow, cast_lit, c20, c21, c22, c23, hN0, hN]
            repeat (with_reducible refine And.intro (by first | (intro h0; simp only [h0, and_self]; done) | (intro h0; simp only [h0, Bool.not_false, Bool.not_true, Bool.true_and, Bool.and_true, true_and, and_true, and_self, imp_self, implies_true, bne_iff_ne, ne_eq, beq_iff_eq]; done) | (intros; simp_all; done) | exact True.intro) ?_)
            have hz11 := Option.some.inj hz11; subst hz11
            refine And.intro rfl (Fit2.of (fit_loc hU rfl rfl ?_) (by omega))
            simp only [push_cast, Nat.reduceAdd, Nat.reduceSub, Nat.reduceMul, Nat.reduceLeDiff, Nat.reduceLT, Nat.reduceEqDiff, ↓reduceIte, reduceCtorEq, Int.reduceBEq, Int.reduceBNe, Nat.reduceBEq, Int.reduceLE, Int.reduceLT, Int.reduceEq, Int.reduceNe, Int.reduceNeg, Nat.reduceDiv, Nat.reduceMod, Nat.reducePow, cast_lit, c20, c21, c22, c23, hN0, hN]
          · replace hz11 := condF c23 hz11
            try rw [c23] at c20
            try rw [c23] at c21
            try rw [c23] at c22
            refine W_regionD tab_ok [none, none, some true, some true, some true, some true, some true, some true, some true, some false, some false, some false] ?_
            simp only [push_cast, Nat.reduceAdd, Nat.reduceSub, Nat.reduceMul, Nat.reduceLeDiff, Nat.reduceLT, Nat.reduceEqDiff, ↓reduceIte, reduceCtorEq, Int.reduceBEq, Int.reduceBNe, Nat.reduceBEq, Int.reduceLE, Int.reduceLT, Int.reduceEq, Int.reduceNe, Int.reduceNeg, Nat.reduceDiv, Nat.reduceMod, Nat.reducePow, cast_lit, c20, c21, c22, c23, hN0, hN]
            repeat (with_reducible refine And.intro (by first | (intro h0; simp only [h0, and_self]; done) | (intro h0; simp only [h0, Bool.not_false, Bool.not_true, Bool.true_and, Bool.and_true, true_and, and_true, and_self, imp_self, implies_true, bne_iff_ne, ne_eq, beq_iff_eq]; done) | (intros; simp_all; done) | exact True.intro) ?_)
            refine GCalls.lend (ok_centoref01_Same hy16) rfl ?_ ?_
            · simp only [push_cast, Nat.reduceAdd, Nat.reduceSub, Nat.reduceMul, Nat.reduceLeDiff, Nat.reduceLT, Nat.reduceEqDiff, ↓reduceIte, reduceCtorEq, Int.reduceBEq, Int.reduceBNe, Nat.reduceBEq, Int.reduceLE, Int.reduceLT, Int.reduceEq, Int.reduceNe, Int.reduceNeg, Nat.reduceDiv, Nat.reduceMod, Nat.reducePow, cast_lit, c20, c21, c22, c23, hN0, hN]
            simp only [push_cast, Nat.reduceAdd, Nat.reduceSub, Nat.reduceMul, Nat.reduceLeDiff, Nat.reduceLT, Nat.reduceEqDiff, ↓reduceIte, reduceCtorEq, Int.reduceBEq, Int.reduceBNe, Nat.reduceBEq, Int.reduceLE, Int.reduceLT, Int.reduceEq, Int.reduceNe, Int.reduceNeg, Nat.reduceDiv, Nat.reduceMod, Nat.reducePow, cast_lit, c20, c21, c22, c23, hN0, hN]
            repeat (with_reducible refine And.intro (by first | (intro h0; simp only [h0, and_self]; done) | (intro h0; simp only [h0, Bool.not_false, Bool.not_true, Bool.true_and, Bool.and_true, true_and, and_true, and_self, imp_self, implies_true, bne_iff_ne, ne_eq, beq_iff_eq]; done) | (intros; simp_all; done) | exact True.intro) ?_)
            refine (ok_slots_Slots_Full (i0 := n) (by omega) (by simp only [push_cast, Nat.reduceAdd, Nat.reduceSub, Nat.reduceMul, Nat.reduceLeDiff, Nat.reduceLT, Nat.reduceEqDiff, ↓reduceIte, reduceCtorEq, Int.reduceBEq, Int.reduceBNe, Nat.reduceBEq, Int.reduceLE, Int.reduceLT, Int.reduceEq, Int.reduceNe, Int.reduceNeg, Nat.reduceDiv, Nat.reduceMod, Nat.reducePow, cast_lit, fl_nil, c20, c21, c22, c23, hN0, hN] <;> rfl) hy17).then ?_
            simp only [push_cast, Nat.reduceAdd, Nat.reduceSub, Nat.reduceMul, Nat.reduceLeDiff, Nat.reduceLT, Nat.reduceEqDiff, ↓reduceIte, reduceCtorEq, Int.reduceBEq, Int.reduceBNe, Nat.reduceBEq, Int.reduceLE, Int.reduceLT, Int.reduceEq, Int.reduceNe, Int.reduceNeg, Nat.reduceDiv, Nat.reduceMod, Nat.reducePow, cast_lit, c20, c21, c22, c23, hN0, hN]
            repeat (with_reducible refine And.intro (by first | (intro h0; simp only [h0, and_self]; done) | (intro h0; simp only [h0, Bool.not_false, Bool.not_true, Bool.true_and, Bool.and_true, true_and, and_true, and_self, imp_self, implies_true, bne_iff_ne, ne_eq, beq_iff_eq]; done) | (intros; simp_all; done) | exact True.intro) ?_)
            refine GCalls.lend (ok_centoref16_SameInts hy18) rfl ?_ ?_
            · simp only [push_cast, Nat.reduceAdd, Nat.reduceSub, Nat.reduceMul, Nat.reduceLeDiff, Nat.reduceLT, Nat.reduceEqDiff, ↓reduceIte, reduceCtorEq, Int.reduceBEq, Int.reduceBNe, Nat.reduceBEq, Int.reduceLE, Int.reduceLT, Int.reduceEq, Int.reduceNe, Int.reduceNeg, Nat.reduceDiv, Nat.reduceMod, Nat.reducePow, cast_lit, c20, c21, c22, c23, hN0, hN]
            simp only [push_cast, Nat.reduceAdd, Nat.reduceSub, Nat.reduceMul, Nat.reduceLeDiff, Nat.reduceLT, Nat.reduceEqDiff, ↓reduceIte, reduceCtorEq, Int.reduceBEq, Int.reduceBNe, Nat.reduceBEq, Int.reduceLE, Int.reduceLT, Int.reduceEq, Int.reduceNe, Int.reduceNeg, Nat.reduceDiv, Nat.reduceMod, Nat.reducePow, cast_lit, c20, c21, c22, c23, hN0, hN]
            repeat (with_reducible refine And.intro (by first | (intro h0; simp only [h0, and_self]; done) | (intro h0; simp only [h0, Bool.not_false, Bool.not_true, Bool.true_and, Bool.and_true, true_and, and_true, and_self, imp_self, implies_true, bne_iff_ne, ne_eq, beq_iff_eq]; done) | (intros; simp_all; done) | exact True.intro) ?_)
            have hz11 := Option.some.inj hz11; subst hz11
            refine And.intro rfl (Fit2.of (fit_loc hU rfl rfl ?_) (by omega))
            simp only [push_cast, Nat.reduceAdd, Nat.reduceSub, Nat.reduceMul, Nat.reduceLeDiff, Nat.reduceLT, Nat.reduceEqDiff, ↓reduceIte, reduceCtorEq, Int.reduceBEq, Int.reduceBNe, Nat.reduceBEq, Int.reduceLE, Int.reduceLT, Int.reduceEq, Int.reduceNe, Int.reduceNeg, Nat.reduceDiv, Nat.reduceMod, Nat.reducePow, cast_lit, c20, c21, c22, c23, hN0, hN]
        · replace hz11 := condF c22 hz11
          try rw [c22] at c20
          try rw [c22] at c21
          refine W_regionD tab_ok [none, none, some true, some true, some true, some false, some false, some false, some false, some false, some false, some false] ?_
          simp only [push_cast, Nat.reduceAdd, Nat.reduceSub, Nat.reduceMul, Nat.reduceLeDiff, Nat.reduceLT, Nat.reduceEqDiff, ↓reduceIte, reduceCtorEq, Int.reduceBEq, Int.reduceBNe, Nat.reduceBEq, Int.reduceLE, Int.reduceLT, Int.reduceEq, Int.reduceNe, Int.reduceNeg, Nat.reduceDiv, Nat.reduceMod, Nat.reducePow, cast_lit, c20, c21, c22, hN0, hN]
          repeat (with_reducible refine And.intro (by first | (intro h0; simp only [h0, and_self]; done) | (intro h0; simp only [h0, Bool.not_false, Bool.not_true, Bool.true_and, Bool.and_true, true_and, and_true, and_self, imp_self, implies_true, bne_iff_ne, ne_eq, beq_iff_eq]; done) | (intros; simp_all; done) | exact True.intro) ?_)
          refine GCalls.lend (ok_centoref01_Same hy16) rfl ?_ ?_
          · simp only [push_cast, Nat.reduceAdd, Nat.reduceSub, Nat.reduceMul, Nat.reduceLeDiff, Nat.reduceLT, Nat.reduceEqDiff, ↓reduceIte, reduceCtorEq, Int.reduceBEq, Int.reduceBNe, Nat.reduceBEq, Int.reduceLE, Int.reduceLT, Int.reduceEq, Int.reduceNe, Int.reduceNeg, Nat.reduceDiv, Nat.reduceMod, Nat.reducePow, cast_lit, c20, c21, c22, hN0, hN]
          simp only [push_cast, Nat.reduceAdd, Nat.reduceSub, Nat.reduceMul, Nat.reduceLeDiff, Nat.reduceLT, Nat.reduceEqDiff, ↓reduceIte, reduceCtorEq, Int.reduceBEq, Int.reduceBNe, Nat.reduceBEq, Int.reduceLE, Int.reduceLT, Int.reduceEq, Int.reduceNe, Int.reduceNeg, Nat.reduceDiv, Nat.reduceMod, Nat.reducePow, cast_lit, c20, c21, c22, hN0, hN]
          repeat (with_reducible refine And.intro (by first | (intro h0; simp only [h0, and_self]; done) | (intro h0; simp only [h0, Bool.not_false, Bool.not_true, Bool.true_and, Bool.and_true, true_and, and_true, and_self, imp_self, implies_true, bne_iff_ne, ne_eq, beq_iff_eq]; done) | (intros; simp_all; done) | exact True.intro) ?_)
          have hz11 := Option.some.inj hz11; subst hz11
          refine And.intro rfl (Fit2.of (fit_loc hU rfl rfl ?_) (by omega))
          simp only [push_cast, Nat.reduceAdd, Nat.reduceSub, Nat.reduceMul, Nat.reduceLeDiff, Nat.reduceLT, Nat.reduceEqDiff, ↓reduceIte, reduceCtorEq, Int.reduceBEq, Int.reduceBNe, Nat.reduceBEq, Int.reduceLE, Int.reduceLT, Int.reduceEq, Int.reduceNe, Int.reduceNeg, Nat.reduceDiv, Nat.reduceMod, Nat.reducePow, cast_lit, c20, c21, c22, hN0, hN]
      · replace hz11 := condF c21 hz11
        try rw [c21] at c20
        refine W_regionD tab_ok [none, none, some false, some false, some false, some false, some false, some false, some false, some false, some false, some false] ?_
        simp only [push_cast, Nat.reduceAdd, Nat.reduceSub, Nat.reduceMul, Nat.reduceLeDiff, Nat.reduceLT, Nat.reduceEqDiff, ↓reduceIte, reduceCtorEq, Int.reduceBEq, Int.reduceBNe, Nat.reduceBEq, Int.reduceLE, Int.reduceLT, Int.reduceEq, Int.reduceNe, Int.reduceNeg, Nat.reduceDiv, Nat.reduceMod, Nat.reducePow, cast_lit, c20, c21, hN0, hN]
        repeat (with_reducible refine And.intro (by first | (intro h0; simp only [h0, and_self]; done) | (intro h0; simp only [h0, Bool.not_false, Bool.not_true, Bool.true_and, Bool.and_true, true_and, and_true, and_self, imp_self, implies_true, bne_iff_ne, ne_eq, beq_iff_eq]; done) | (intros; simp_all; done) | exact True.intro) ?_)
        have hz11 := Option.some.inj hz11; subst hz11
        refine And.intro rfl (Fit2.of (fit_loc hU rfl rfl ?_) (by omega))
        simp only [push_cast, Nat.reduceAdd, Nat.reduceSub, Nat.reduceMul, Nat.reduceLeDiff, Nat.reduceLT, Nat.reduceEqDiff, ↓reduceIte, reduceCtorEq, Int.reduceBEq, Int.reduceBNe, Nat.reduceBEq, Int.reduceLE, Int.reduceLT, Int.reduceEq, Int.reduceNe, Int.reduceNeg, Nat.reduceDiv, Nat.reduceMod, Nat.reducePow, cast_lit, c20, c21, hN0, hN]
    · replace hz11 := condF c20 hz11
      refine W_regionD tab_ok [none, none, some false, some false, some false, some false, some false, some false, some false, some false, some false, some false] ?_
      simp only [push_cast, Nat.reduceAdd, Nat.reduceSub, Nat.reduceMul, Nat.reduceLeDiff, Nat.reduceLT, Nat.reduceEqDiff, ↓reduceIte, reduceCtorEq, Int.reduceBEq, Int.reduceBNe, Nat.reduceBEq, Int.reduceLE, Int.reduceLT, Int.reduceEq, Int.reduceNe, Int.reduceNeg, Nat.reduceDiv, Nat.reduceMod, Nat.reducePow, cast_lit, c20, hN0, hN]
      repeat (with_reducible refine And.intro (by first | (intro h0; simp only [h0, and_self]; done) | (intro h0; simp only [h0, Bool.not_false, Bool.not_true, Bool.true_and, Bool.and_true, true_and, and_true, and_self, imp_self, implies_true, bne_iff_ne, ne_eq, beq_iff_eq]; done) | (intros; simp_all; done) | exact True.intro) ?_)
      have hz11 := Option.some.inj hz11; subst hz11
      refine And.intro rfl (Fit2.of (fit_loc hU rfl rfl ?_) (by omega))
      simp only [push_cast, Nat.reduceAdd, Nat.reduceSub, Nat.reduceMul, Nat.reduceLeDiff, Nat.reduceLT, Nat.reduceEqDiff, ↓reduceIte, reduceCtorEq, Int.reduceBEq, Int.reduceBNe, Nat.reduceBEq, Int.reduceLE, Int.reduceLT, Int.reduceEq, Int.reduceNe, Int.reduceNeg, Nat.reduceDiv, Nat.reduceMod, Nat.reducePow, cast_lit, c20, hN0, hN]
  refine W_ret ?_
  try simp only [gthen, gblock]
  have h := Option.some.inj h; subst h
  refine fin_loc (.inr rfl) hU [.val (.bool z11)] (by omega) ?_
  simp only [push_cast, Nat.reduceAdd, Nat.reduceSub, Nat.reduceMul, Nat.reduceLeDiff, Nat.reduceLT, Nat.reduceEqDiff, ↓reduceIte, reduceCtorEq, Int.reduceBEq, Int.reduceBNe, Nat.reduceBEq, Int.reduceLE, Int.reduceLT, Int.reduceEq, Int.reduceNe, Int.reduceNeg, Nat.reduceDiv, Nat.reduceMod, Nat.reducePow, cast_lit, Try.results56, hN0, hN]

theorem ok_centolaw35_SlotsNone {a0 : S_centolaw35_Deed} {r : Bool} {O : Objs} {n : Nat} (h : m_centolaw35_SlotsNone a0 = some r) : GTo Try.prog 14 [.agg [.val (.int .i64 a0.Kind), .val (.int .i64 a0.I), .sl a0.At.length (fl (eI .i64) a0.At), .sl a0.L.length (fl (eL (eI .u64)) a0.L)]] O n (.val (.bool r)) O n := by
  unfold m_centolaw35_SlotsNone at h
  refine fn_of tab_ok Try.call14 Try.func14 rfl (Nat.le_of_ble_eq_true rfl) (Nat.le_refl _) fun hU => ?_
  have hN0 : O n = none := hU.fresh _ (Nat.le_refl _)
  have hN : ∀ k, O (n + k) = none := fun k => hU.fresh _ (Nat.le_add_right _ _)
  show W _ _ _ _ ⟨67, [], [(0, .agg [.val (.int .i64 a0.Kind), .val (.int .i64 a0.I), .sl a0.At.length (fl (eI .i64) a0.At), .sl a0.L.length (fl (eL (eI .u64)) a0.L)])]⟩ (Loc O n []) _
  refine W_sq [1] (W_regionD tab_ok [] ?_)
  simp only [push_cast, Nat.reduceAdd, Nat.reduceSub, Nat.reduceMul, Nat.reduceLeDiff, Nat.reduceLT, Nat.reduceEqDiff, ↓reduceIte, reduceCtorEq, Int.reduceBEq, Int.reduceBNe, Nat.reduceBEq, Int.reduceLE, Int.reduceLT, Int.reduceEq, Int.reduceNe, Int.reduceNeg, Nat.reduceDiv, Nat.reduceMod, Nat.reducePow, cast_lit, hN0, hN]
  refine W_sq [1, 3] (W_regionD tab_ok [] ?_)
  simp only [push_cast, Nat.reduceAdd, Nat.reduceSub, Nat.reduceMul, Nat.reduceLeDiff, Nat.reduceLT, Nat.reduceEqDiff, ↓reduceIte, reduceCtorEq, Int.reduceBEq, Int.reduceBNe, Nat.reduceBEq, Int.reduceLE, Int.reduceLT, Int.reduceEq, Int.reduceNe, Int.reduceNeg, Nat.reduceDiv, Nat.reduceMod, Nat.reducePow, cast_lit, hN0, hN]
  refine W_seqK ?_
  obtain ⟨y2, hy2, h⟩ := bC h
  refine W_regionD tab_ok [] ?_
  simp only [push_cast, Nat.reduceAdd, Nat.reduceSub, Nat.reduceMul, Nat.reduceLeDiff, Nat.reduceLT, Nat.reduceEqDiff, ↓reduceIte, reduceCtorEq, Int.reduceBEq, Int.reduceBNe, Nat.reduceBEq, Int.reduceLE, Int.reduceLT, Int.reduceEq, Int.reduceNe, Int.reduceNeg, Nat.reduceDiv, Nat.reduceMod, Nat.reducePow, cast_lit, hN0, hN]
  refine (ok_slots_Slots_Get_n hy2).then ?_
  simp only [push_cast, Nat.reduceAdd, Nat.reduceSub, Nat.reduceMul, Nat.reduceLeDiff, Nat.reduceLT, Nat.reduceEqDiff, ↓reduceIte, reduceCtorEq, Int.reduceBEq, Int.reduceBNe, Nat.reduceBEq, Int.reduceLE, Int.reduceLT, Int.reduceEq, Int.reduceNe, Int.reduceNeg, Nat.reduceDiv, Nat.reduceMod, Nat.reducePow, cast_lit, hN0, hN]
  refine W_drop [1, 3, 5] [true] ?_
  simp only [push_cast, seval, ↓reduceIte]
  refine W_seqK ?_
  obtain ⟨y4, hy4, h⟩ := bC h
  refine W_regionD tab_ok [] ?_
  simp only [push_cast, Nat.reduceAdd, Nat.reduceSub, Nat.reduceMul, Nat.reduceLeDiff, Nat.reduceLT, Nat.reduceEqDiff, ↓reduceIte, reduceCtorEq, Int.reduceBEq, Int.reduceBNe, Nat.reduceBEq, Int.reduceLE, Int.reduceLT, Int.reduceEq, Int.reduceNe, Int.reduceNeg, Nat.reduceDiv, Nat.reduceMod, Nat.reducePow, cast_lit, hN0, hN]
  refine (ok_slots_Slots_Put_n hy4).then ?_
  simp only [push_cast, Nat.reduceAdd, Nat.reduceSub, Nat.reduceMul, Nat.reduceLeDiff, Nat.reduceLT, Nat.reduceEqDiff, ↓reduceIte, reduceCtorEq, Int.reduceBEq, Int.reduceBNe, Nat.reduceBEq, Int.reduceLE, Int.reduceLT, Int.reduceEq, Int.reduceNe, Int.reduceNeg, Nat.reduceDiv, Nat.reduceMod, Nat.reducePow, cast_lit, hN0, hN]
  refine W_drop [1, 3, 5, 6] [true] ?_
  simp only [push_cast, seval, ↓reduceIte]
  refine W_sq [1, 3, 5, 6, 7] (W_regionD tab_ok [] ?_)
  simp only [push_cast, Nat.reduceAdd, Nat.reduceSub, Nat.reduceMul, Nat.reduceLeDiff, Nat.reduceLT, Nat.reduceEqDiff, ↓reduceIte, reduceCtorEq, Int.reduceBEq, Int.reduceBNe, Nat.reduceBEq, Int.reduceLE, Int.reduceLT, Int.reduceEq, Int.reduceNe, Int.reduceNeg, Nat.reduceDiv, Nat.reduceMod, Nat.reducePow, cast_lit, hN0, hN]
  obtain ⟨z5, hz5, h⟩ := bC h
  refine W_seqN (E' := ⟨67, [], [(1, .ref n 0), (3, .val (.pointer none)), (5, .val (.int .i64 y2.2)), (6, .val (.int .i64 y4)), (7, .val (.int .i64 z5))]⟩) (O' := (Loc O n [some ⟨false, 92, 4, 1, [.val (.int .i64 a0.Kind), .val (.int .i64 a0.I), .sl a0.At.length (fl (eI .i64) a0.At), .sl a0.L.length (fl (eL (eI .u64)) a0.L)]⟩])) (n0 := (n + 1)) ?_ ?_
  · refine W_sq [1, 3, 5, 6, 7, 27] (W_regionD tab_ok [] ?_)
    simp only [push_cast, Nat.reduceAdd, Nat.reduceSub, Nat.reduceMul, Nat.reduceLeDiff, Nat.reduceLT, Nat.reduceEqDiff, ↓reduceIte, reduceCtorEq, Int.reduceBEq, Int.reduceBNe, Nat.reduceBEq, Int.reduceLE, Int.reduceLT, Int.reduceEq, Int.reduceNe, Int.reduceNeg, Nat.reduceDiv, Nat.reduceMod, Nat.reducePow, cast_lit, hN0, hN]
    refine W_cond (t := ((a0.At.length : Int) != (a0.L.length : Int))) rfl (fun c7 => ?_) (fun c7 => ?_)
    · replace hz5 := condT c7 hz5
      refine W_regionD tab_ok [] ?_
      simp only [push_cast, Nat.reduceAdd, Nat.reduceSub, Nat.reduceMul, Nat.reduceLeDiff, Nat.reduceLT, Nat.reduceEqDiff, ↓reduceIte, reduceCtorEq, Int.reduceBEq, Int.reduceBNe, Nat.reduceBEq, Int.reduceLE, Int.reduceLT, Int.reduceEq, Int.reduceNe, Int.reduceNeg, Nat.reduceDiv, Nat.reduceMod, Nat.reducePow, cast_lit, hN0, hN]
      have hz5 := Option.some.inj hz5; subst hz5
      refine And.intro rfl (Fit2.of (fit_loc hU rfl rfl ?_) (by omega))
      simp only [push_cast, Nat.reduceAdd, Nat.reduceSub, Nat.reduceMul, Nat.reduceLeDiff, Nat.reduceLT, Nat.reduceEqDiff, ↓reduceIte, reduceCtorEq, Int.reduceBEq, Int.reduceBNe, Nat.reduceBEq, Int.reduceLE, Int.reduceLT, Int.reduceEq, Int.reduceNe, Int.reduceNeg, Nat.reduceDiv, Nat.reduceMod, Nat.reducePow, cast_lit, hN0, hN]
    · replace hz5 := condF c7 hz5
      refine W_sq [1, 3, 5, 6, 7, 31] (W_regionD tab_ok [] ?_)
      simp only [push_cast, Nat.reduceAdd, Nat.reduceSub, Nat.reduceMul, Nat.reduceLeDiff, Nat.reduceLT, Nat.reduceEqDiff, ↓reduceIte, reduceCtorEq, Int.reduceBEq, Int.reduceBNe, Nat.reduceBEq, Int.reduceLE, Int.reduceLT, Int.reduceEq, Int.reduceNe, Int.reduceNeg, Nat.reduceDiv, Nat.reduceMod, Nat.reducePow, cast_lit, hN0, hN]
      refine W_cond (t := ((a0.At.length : Int) == 0)) rfl (fun c6 => ?_) (fun c6 => ?_)
      · replace hz5 := condT c6 hz5
        refine W_regionD tab_ok [] ?_
        simp only [push_cast, Nat.reduceAdd, Nat.reduceSub, Nat.reduceMul, Nat.reduceLeDiff, Nat.reduceLT, Nat.reduceEqDiff, ↓reduceIte, reduceCtorEq, Int.reduceBEq, Int.reduceBNe, Nat.reduceBEq, Int.reduceLE, Int.reduceLT, Int.reduceEq, Int.reduceNe, Int.reduceNeg, Nat.reduceDiv, Nat.reduceMod, Nat.reducePow, cast_lit, hN0, hN]
        have hz5 := Option.some.inj hz5; subst hz5
        refine And.intro rfl (Fit2.of (fit_loc hU rfl rfl ?_) (by omega))
        simp only [push_cast, Nat.reduceAdd, Nat.reduceSub, Nat.reduceMul, Nat.reduceLeDiff, Nat.reduceLT, Nat.reduceEqDiff, ↓reduceIte, reduceCtorEq, Int.reduceBEq, Int.reduceBNe, Nat.reduceBEq, Int.reduceLE, Int.reduceLT, Int.reduceEq, Int.reduceNe, Int.reduceNeg, Nat.reduceDiv, Nat.reduceMod, Nat.reducePow, cast_lit, hN0, hN]
      · replace hz5 := condF c6 hz5
        refine W_skip ?_
        try simp only [gthen, gblock]
        have hz5 := Option.some.inj hz5; subst hz5
        refine And.intro rfl (Fit2.of (fit_loc hU rfl rfl ?_) (by omega))
        simp only [push_cast, Nat.reduceAdd, Nat.reduceSub, Nat.reduceMul, Nat.reduceLeDiff, Nat.reduceLT, Nat.reduceEqDiff, ↓reduceIte, reduceCtorEq, Int.reduceBEq, Int.reduceBNe, Nat.reduceBEq, Int.reduceLE, Int.reduceLT, Int.reduceEq, Int.reduceNe, Int.reduceNeg, Nat.reduceDiv, Nat.reduceMod, Nat.reducePow, cast_lit, hN0, hN]
  obtain ⟨z14, hz14, h⟩ := bC h
  refine W_seqN (E' := ⟨67, [], [(2, .val (.bool z14))]⟩) (O' := (Loc O n [none])) (n0 := (n + 1)) ?_ ?_
  · rcases Bool.eq_false_or_eq_true (y2.2 == 15) with c27 | c27
    · replace hz14 := condT c27 hz14
      rcases Bool.eq_false_or_eq_true (y4 == z5) with c28 | c28
      · replace hz14 := condT c28 hz14
        try rw [c28] at c27
        obtain ⟨y21, hy21, hz14⟩ := bC hz14
        rcases Bool.eq_false_or_eq_true (y21 == 15) with c29 | c29
        · replace hz14 := condT c29 hz14
          try rw [c29] at c27
          try rw [c29] at c28
          obtain ⟨y22, hy22, hz14⟩ := bC hz14
          rcases Bool.eq_false_or_eq_true y22 with c30 | c30
          · replace hz14 := condT c30 hz14
            try rw [c30] at c27
            try rw [c30] at c28
            try rw [c30] at c29
            refine W_regionD tab_ok [none, none, none, some true, some true, some true, some true, some true, some true, some true, some true, some true, some true, some false, some false, some false, some false, some false, some false, some false, some false] ?_
            simp only [push_cast, Nat.reduceAdd, Nat.reduceSub, Nat.reduceMul, Nat.reduceLeDiff, Nat.reduceLT, Nat.reduceEqDiff, ↓reduceIte, reduceCtorEq, Int.reduceBEq, Int.reduceBNe, Nat.reduceBEq, Int.reduceLE, Int.reduceLT, Int.reduceEq, Int.reduceNe, Int.reduceNeg, Nat.reduceDiv, Nat.reduceMod, Nat.reducePow, cast_lit, c27, c28, c29, c30, hN0, hN]
            repeat (with_reducible refine And.intro (by first | (intro h0; simp only [h0, and_self]; done) | (intro h0; simp only [h0, Bool.not_false, Bool.not_true, Bool.true_and, Bool.and_true, true_and, and_true, and_self, imp_self, implies_true, bne_iff_ne, ne_eq, beq_iff_eq]; done) | (intros; simp_all; done) | exact True.intro) ?_)
            refine (ok_slots_Slots_Drop_n hy21).then ?_
            simp only [push_cast, Nat.reduceAdd, Nat.reduceSub, Nat.reduceMul, Nat.reduceLeDiff, Nat.reduceLT, Nat.reduceEqDiff, ↓reduceIte, reduceCtorEq, Int.reduceBEq, Int.reduceBNe, Nat.reduceBEq, Int.reduceLE, Int.reduceLT, Int.reduceEq, Int.reduceNe, Int.reduceNeg, Nat.reduceDiv, Nat.reduceMod, Nat.reducePow, cast_lit, c27, c28, c29, c30, hN0, hN]
            repeat (with_reducible refine And.intro (by first | (intro h0; simp only [h0, and_self]; done) | (intro h0; simp only [h0, Bool.not_false, Bool.not_true, Bool.true_and, Bool.and_true, true_and, and_true, and_self, imp_self, implies_true, bne_iff_ne, ne_eq, beq_iff_eq]; done) | (intros; simp_all; done) | exact True.intro) ?_)
            refine (ok_slots_Slots_Has_n hy22).then ?_
            simp only [push_cast, Nat.reduceAdd, Nat.reduceSub, Nat.reduceMul, Nat.reduceLeDiff, Nat.reduceLT, Nat.reduceEqDiff, ↓reduceIte, reduceCtorEq, Int.reduceBEq, Int.reduceBNe, Nat.reduceBEq, Int.reduceLE, Int.reduceLT, Int.reduceEq, Int.reduceNe, Int.reduceNeg, Nat.reduceDiv, Nat.reduceMod, Nat.reducePow, cast_lit, c27, c28, c29, c30, hN0, hN]
            repeat (with_reducible refine And.intro (by first | (intro h0; simp only [h0, and_self]; done) | (intro h0; simp only [h0, Bool.not_false, Bool.not_true, Bool.true_and, Bool.and_true, true_and, and_true, and_self, imp_self, implies_true, bne_iff_ne, ne_eq, beq_iff_eq]; done) | (intros; simp_all; done) | exact True.intro) ?_)
            have hz14 := Option.some.inj hz14; subst hz14
            refine And.intro rfl (Fit2.of (fit_loc hU rfl rfl ?_) (by omega))
            simp only [push_cast, Nat.reduceAdd, Nat.reduceSub, Nat.reduceMul, Nat.reduceLeDiff, Nat.reduceLT, Nat.reduceEqDiff, ↓reduceIte, reduceCtorEq, Int.reduceBEq, Int.reduceBNe, Nat.reduceBEq, Int.reduceLE, Int.reduceLT, Int.reduceEq, Int.reduceNe, Int.reduceNeg, Nat.reduceDiv, Nat.reduceMod, Nat.reducePow, cast_lit, c27, c28, c29, c30, hN0, hN]
          · replace hz14 := condF c30 hz14
            try rw [c30] at c27
            try rw [c30] at c28
            try rw [c30] at c29
            obtain ⟨y23, hy23, hz14⟩ := bC hz14
            rcases Bool.eq_false_or_eq_true ((y23.length : Int) == 0) with c31 | c31
            · replace hz14 := condT c31 hz14
              try rw [c31] at c27
              try rw [c31] at c28
              try rw [c31] at c29
              try rw [c31] at c30
              obtain ⟨y24, hy24, hz14⟩ := bC hz14
              have g25 := gbin_gP_eql (f := e_S_slots_Slots) (t := 83) tkind83 y24
              rcases Bool.eq_false_or_eq_true (Option.isNone y24) with c32 | c32
              · replace hz14 := condT c32 hz14
                try rw [c32] at c27
                try rw [c32] at c28
                try rw [c32] at c29
                try rw [c32] at c30
                try rw [c32] at c31
                obtain ⟨y26, hy26, hz14⟩ := bC hz14
                refine W_regionD tab_ok [none, none, none, some true, some true, some true, some true, some true, some true, some true, some true, some true, some true, some true, some true, some true, some true, some true, some true, some true, some true] ?_
                simp only [push_cast, Nat.reduceAdd, Nat.reduceSub, Nat.reduceMul, Nat.reduceLeDiff, Nat.reduceLT, Nat.reduceEqDiff, ↓reduceIte, reduceCtorEq, Int.reduceBEq, Int.reduceBNe, Nat.reduceBEq, Int.reduceLE, Int.reduceLT, Int.reduceEq, Int.reduceNe, Int.reduceNeg, Nat.reduceDiv, Nat.reduceMod, Nat.reducePow, cast_lit, c27, c28, c29, c30, c31, g25, c32, hN0, hN]
                repeat (with_reducible refine And.intro (by first | (intro h0; simp only [h0, and_self]; done) | (intro h0; simp only [h0, Bool.not_false, Bool.not_true, Bool.true_and, Bool.and_true, true_and, and_true, and_self, imp_self, implies_true, bne_iff_ne, ne_eq, beq_iff_eq]; done) | (intros; simp_all; done) | exact True.intro) ?_)
                refine (ok_slots_Slots_Drop_n hy21).then ?_
                simp only [push_cast, Nat.reduceAdd, Nat.reduceSub, Nat.reduceMul, Nat.reduceLeDiff, Nat.reduceLT, Nat.reduceEqDiff, ↓reduceIte, reduceCtorEq, Int.reduceBEq, Int.reduceBNe, Nat.reduceBEq, Int.reduceLE, Int.reduceLT, Int.reduceEq, Int.reduceNe, Int.reduceNeg, Nat.reduceDiv, Nat.reduceMod, Nat.reducePow, cast_lit, c27, c28, c29, c30, c31, g25, c32, hN0, hN]
                repeat (with_reducible refine And.intro (by first | (intro h0; simp only [h0, and_self]; done) | (intro h0; simp only [h0, Bool.not_false, Bool.not_true, Bool.true_and, Bool.and_true, true_and, and_true, and_self, imp_self, implies_true, bne_iff_ne, ne_eq, beq_iff_eq]; done) | (intros; simp_all; done) | exact True.intro) ?_)
                refine (ok_slots_Slots_Has_n hy22).then ?_
                simp only [push_cast, Nat.reduceAdd, Nat.reduceSub, Nat.reduceMul, Nat.reduceLeDiff, Nat.reduceLT, Nat.reduceEqDiff, ↓reduceIte, reduceCtorEq, Int.reduceBEq, Int.reduceBNe, Nat.reduceBEq, Int.reduceLE, Int.reduceLT, Int.reduceEq, Int.reduceNe, Int.reduceNeg, Nat.reduceDiv, Nat.reduceMod, Nat.reducePow, cast_lit, c27, c28, c29, c30, c31, g25, c32, hN0, hN]
                repeat (with_reducible refine And.intro (by first | (intro h0; simp only [h0, and_self]; done) | (intro h0; simp only [h0, Bool.not_false, Bool.not_true, Bool.true_and, Bool.and_true, true_and, and_true, and_self, imp_self, implies_true, bne_iff_ne, ne_eq, beq_iff_eq]; done) | (intros; simp_all; done) | exact True.intro) ?_)
                refine (ok_slots_Slots_Full_n hy23).then ?_
                simp only [push_cast, Nat.reduceAdd, Nat.reduceSub, Nat.reduceMul, Nat.reduceLeDiff, Nat.reduceLT, Nat.reduceEqDiff, ↓reduceIte, reduceCtorEq, Int.reduceBEq, Int.reduceBNe, Nat.reduceBEq, Int.reduceLE, Int.reduceLT, Int.reduceEq, Int.reduceNe, Int.reduceNeg, Nat.reduceDiv, Nat.reduceMod, Nat.reducePow, cast_lit, c27, c28, c29, c30, c31, g25, c32, hN0, hN]
                repeat (with_reducible refine And.intro (by first | (intro h0; simp only [h0, and_self]; done) | (intro h0; simp only [h0, Bool.not_false, Bool.not_true, Bool.true_and, Bool.and_true, true_and, and_true, and_self, imp_self, implies_true, bne_iff_ne, ne_eq, beq_iff_eq]; done) | (intros; simp_all; done) | exact True.intro) ?_)
                refine (ok_slots_Slots_Twin_n hy24).then ?_
                simp only [push_cast, Nat.reduceAdd, Nat.reduceSub, Nat.reduceMul, Nat.reduceLeDiff, Nat.reduceLT, Nat.reduceEqDiff, ↓reduceIte, reduceCtorEq, Int.reduceBEq, Int.reduceBNe, Nat.reduceBEq, Int.reduceLE, Int.reduceLT, Int.reduceEq, Int.reduceNe, Int.reduceNeg, Nat.reduceDiv, Nat.reduceMod, Nat.reducePow, cast_lit, c27, c28, c29, c30, c31, g25, c32, hN0, hN]
                repeat (with_reducible refine And.intro (by first | (intro h0; simp only [h0, and_self]; done) | (intro h0; simp only [h0, Bool.not_false, Bool.not_true, Bool.true_and, Bool.and_true, true_and, and_true, and_self, imp_self, implies_true, bne_iff_ne, ne_eq, beq_iff_eq]; done) | (intros; simp_all; done) | exact True.intro) ?_)
                refine (ok_centolaw35_awake hy26).then ?_
                simp only [push_cast, Nat.reduceAdd, Nat.reduceSub, Nat.reduceMul, Nat.reduceLeDiff, Nat.reduceLT, Nat.reduceEqDiff, ↓reduceIte, reduceCtorEq, Int.reduceBEq, Int.reduceBNe, Nat.reduceBEq, Int.reduceLE, Int.reduceLT, Int.reduceEq, Int.reduceNe, Int.reduceNeg, Nat.reduceDiv, Nat.reduceMod, Nat.reducePow, cast_lit, c27, c28, c29, c30, c31, g25, c32, hN0, hN]
                repeat (with_reducible refine And.intro (by first | (intro h0; simp only [h0, and_self]; done) | (intro h0; simp only [h0, Bool.not_false, Bool.not_true, Bool.true_and, Bool.and_true, true_and, and_true, and_self, imp_self, implies_true, bne_iff_ne, ne_eq, beq_iff_eq]; done) | (intros; simp_all; done) | exact True.intro) ?_)
                have hz14 := Option.some.inj hz14; subst hz14
                refine And.intro rfl (Fit2.of (fit_loc hU rfl rfl ?_) (by omega))
                simp only [push_cast, Nat.reduceAdd, Nat.reduceSub, Nat.reduceMul, Nat.reduceLeDiff, Nat.reduceLT, Nat.reduceEqDiff, ↓reduceIte, reduceCtorEq, Int.reduceBEq, Int.reduceBNe, Nat.reduceBEq, Int.reduceLE, Int.reduceLT, Int.reduceEq, Int.reduceNe, Int.reduceNeg, Nat.reduceDiv, Nat.reduceMod, Nat.reducePow, cast_lit, c27, c28, c29, c30, c31, g25, c32, hN0, hN]
              · replace hz14 := condF c32 hz14
                try rw [c32] at c27
                try rw [c32] at c28
                try rw [c32] at c29
                try rw [c32] at c30
                try rw [c32] at c31
                refine W_regionD tab_ok [none, none, none, some true, some true, some true, some true, some true, some true, some true, some true, some true, some true, some true, some true, some true, some true, some true, some true, some true, some false] ?_
                simp only [push_cast, Nat.reduceAdd, Nat.reduceSub, Nat.reduceMul, Nat.reduceLeDiff, Nat.reduceLT, Nat.reduceEqDiff, ↓reduceIte, reduceCtorEq, Int.reduceBEq, Int.reduceBNe, Nat.reduceBEq, Int.reduceLE, Int.reduceLT, Int.reduceEq, Int.reduceNe, Int.reduceNeg, Nat.reduceDiv, Nat.reduceMod, Nat.reducePow, cast_lit, c27, c28, c29, c30, c31, g25, c32, hN0, hN]
                repeat (with_reducible refine And.intro (by first | (intro h0; simp only [h0, and_self]; done) | (intro h0; simp only [h0, Bool.not_false, Bool.not_true, Bool.true_and, Bool.and_true, true_and, and_true, and_self, imp_self, implies_true, bne_iff_ne, ne_eq, beq_iff_eq]; done) | (intros; simp_all; done) | exact True.intro) ?_)
                refine (ok_slots_Slots_Drop_n hy21).then ?_
                simp only [push_cast, Nat.reduceAdd, Nat.reduceSub, Nat.reduceMul, Nat.reduceLeDiff, Nat.reduceLT, Nat.reduceEqDiff, ↓reduceIte, reduceCtorEq, Int.reduceBEq, Int.reduceBNe, Nat.reduceBEq, Int.reduceLE, Int.reduceLT, Int.reduceEq, Int.reduceNe, Int.reduceNeg, Nat.reduceDiv, Nat.reduceMod, Nat.reducePow, cast_lit, c27, c28, c29, c30, c31, g25, c32, hN0, hN]
                repeat (with_reducible refine And.intro (by first | (intro h0; simp only [h0, and_self]; done) | (intro h0; simp only [h0, Bool.not_false, Bool.not_true, Bool.true_and, Bool.and_true, true_and, and_true, and_self, imp_self, implies_true, bne_iff_ne, ne_eq, beq_iff_eq]; done) | (intros; simp_all; done) | exact True.intro) ?_)
                refine (ok_slots_Slots_Has_n hy22).then ?_
                simp only [push_cast, Nat.reduceAdd, Nat.reduceSub, Nat.reduceMul, Nat.reduceLeDiff, Nat.reduceLT, Nat.reduceEqDiff, ↓reduceIte, reduceCtorEq, Int.reduceBEq, Int.reduceBNe, Nat.reduceBEq, Int.reduceLE, Int.reduceLT, Int.reduceEq, Int.reduceNe, Int.reduceNeg, Nat.reduceDiv, Nat.reduceMod, Nat.reducePow, cast_lit, c27, c28, c29, c30, c31, g25, c32, hN0, hN]
                repeat (with_reducible refine And.intro (by first | (intro h0; simp only [h0, and_self]; done) | (intro h0; simp only [h0, Bool.not_false, Bool.not_true, Bool.true_and, Bool.and_true, true_and, and_true, and_self, imp_self, implies_true, bne_iff_ne, ne_eq, beq_iff_eq]; done) | (intros; simp_all; done) | exact True.intro) ?_)
                refine (ok_slots_Slots_Full_n hy23).then ?_
                simp only [push_cast, Nat.reduceAdd, Nat.reduceSub, Nat.reduceMul, Nat.reduceLeDiff, Nat.reduceLT, Nat.reduceEqDiff, ↓reduceIte, reduceCtorEq, Int.reduceBEq, Int.reduceBNe, Nat.reduceBEq, Int.reduceLE, Int.reduceLT, Int.reduceEq, Int.reduceNe, Int.reduceNeg, Nat.reduceDiv, Nat.reduceMod, Nat.reducePow, cast_lit, c27, c28, c29, c30, c31, g25, c32, hN0, hN]
                repeat (with_reducible refine And.intro (by first | (intro h0; simp only [h0, and_self]; done) | (intro h0; simp only [h0, Bool.not_false, Bool.not_true, Bool.true_and, Bool.and_true, true_and, and_true, and_self, imp_self, implies_true, bne_iff_ne, ne_eq, beq_iff_eq]; done) | (intros; simp_all; done) | exact True.intro) ?_)
                refine (ok_slots_Slots_Twin_n hy24).then ?_
                simp only [push_cast, Nat.reduceAdd, Nat.reduceSub, Nat.reduceMul, Nat.reduceLeDiff, Nat.reduceLT, Nat.reduceEqDiff, ↓reduceIte, reduceCtorEq, Int.reduceBEq, Int.reduceBNe, Nat.reduceBEq, Int.reduceLE, Int.reduceLT, Int.reduceEq, Int.reduceNe, Int.reduceNeg, Nat.reduceDiv, Nat.reduceMod, Nat.reducePow, cast_lit, c27, c28, c29, c30, c31, g25, c32, hN0, hN]
                repeat (with_reducible refine And.intro (by first | (intro h0; simp only [h0, and_self]; done) | (intro h0; simp only [h0, Bool.not_false, Bool.not_true, Bool.true_and, Bool.and_true, true_and, and_true, and_self, imp_self, implies_true, bne_iff_ne, ne_eq, beq_iff_eq]; done) | (intros; simp_all; done) | exact True.intro) ?_)
                have hz14 := Option.some.inj hz14; subst hz14
                refine And.intro rfl (Fit2.of (fit_loc hU rfl rfl ?_) (by omega))
                simp only [push_cast, Nat.reduceAdd, Nat.reduceSub, Nat.reduceMul, Nat.reduceLeDiff, Nat.reduceLT, Nat.reduceEqDiff, ↓reduceIte, reduceCtorEq, Int.reduceBEq, Int.reduceBNe, Nat.reduceBEq, Int.reduceLE, Int.reduceLT, Int.reduceEq, Int.reduceNe, Int.reduceNeg, Nat.reduceDiv, Nat.reduceMod, Nat.reducePow, cast_lit, c27, c28, c29, c30, c31, g25, c32, hN0, hN]
            · replace hz14 := condF c31 hz14
              try rw [c31] at c27
              try rw [c31] at c28
              try rw [c31] at c29
              try rw [c31] at c30
              refine W_regionD tab_ok [none, none, none, some true, some true, some true, some true, some true, some true, some true, some true, some true, some true, some true, some true, some true, some true, some false, some false, some false, some false] ?_
              simp only [push_cast, Nat.reduceAdd, Nat.reduceSub, Nat.reduceMul, Nat.reduceLeDiff, Nat.reduceLT, Nat.reduceEqDiff, ↓reduceIte, reduceCtorEq, Int.reduceBEq, Int.reduceBNe, Nat.reduceBEq, Int.reduceLE, Int.reduceLT, Int.reduceEq, Int.reduceNe, Int.reduceNeg, Nat.reduceDiv, Nat.reduceMod, Nat.reducePow, cast_lit, c27, c28, c29, c30, c31, hN0, hN]
              repeat (with_reducible refine And.intro (by first | (intro h0; simp only [h0, and_self]; done) | (intro h0; simp only [h0, Bool.not_false, Bool.not_true, Bool.true_and, Bool.and_true, true_and, and_true, and_self, imp_self, implies_true, bne_iff_ne, ne_eq, beq_iff_eq]; done) | (intros; simp_all; done) | exact True.intro) ?_)
              refine (ok_slots_Slots_Drop_n hy21).then ?_
              simp only [push_cast, Nat.reduceAdd, Nat.reduceSub, Nat.reduceMul, Nat.reduceLeDiff, Nat.reduceLT, Nat.reduceEqDiff, ↓reduceIte, reduceCtorEq, Int.reduceBEq, Int.reduceBNe, Nat.reduceBEq, Int.reduceLE, Int.reduceLT, Int.reduceEq, Int.reduceNe, Int.reduceNeg, Nat.reduceDiv, Nat.reduceMod, Nat.reducePow, cast_lit, c27, c28, c29, c30, c31, hN0, hN]
              repeat (with_reducible refine And.intro (by first | (intro h0; simp only [h0, and_self]; done) | (intro h0; simp only [h0, Bool.not_false, Bool.not_true, Bool.true_and, Bool.and_true, true_and, and_true, and_self, imp_self, implies_true, bne_iff_ne, ne_eq, beq_iff_eq]; done) | (intros; simp_all; done) | exact True.intro) ?_)
              refine (ok_slots_Slots_Has_n hy22).then ?_
              simp only [push_cast, Nat.reduceAdd, Nat.reduceSub, Nat.reduceMul, Nat.reduceLeDiff, Nat.reduceLT, Nat.reduceEqDiff, ↓reduceIte, reduceCtorEq, Int.reduceBEq, Int.reduceBNe, Nat.reduceBEq, Int.reduceLE, Int.reduceLT, Int.reduceEq, Int.reduceNe, Int.reduceNeg, Nat.reduceDiv, Nat.reduceMod, Nat.reducePow, cast_lit, c27, c28, c29, c30, c31, hN0, hN]
              repeat (with_reducible refine And.intro (by first | (intro h0; simp only [h0, and_self]; done) | (intro h0; simp only [h0, Bool.not_false, Bool.not_true, Bool.true_and, Bool.and_true, true_and, and_true, and_self, imp_self, implies_true, bne_iff_ne, ne_eq, beq_iff_eq]; done) | (intros; simp_all; done) | exact True.intro) ?_)
              refine (ok_slots_Slots_Full_n hy23).then ?_
              simp only [push_cast, Nat.reduceAdd, Nat.reduceSub, Nat.reduceMul, Nat.reduceLeDiff, Nat.reduceLT, Nat.reduceEqDiff, ↓reduceIte, reduceCtorEq, Int.reduceBEq, Int.reduceBNe, Nat.reduceBEq, Int.reduceLE, Int.reduceLT, Int.reduceEq, Int.reduceNe, Int.reduceNeg, Nat.reduceDiv, Nat.reduceMod, Nat.reducePow, cast_lit, c27, c28, c29, c30, c31, hN0, hN]
              repeat (with_reducible refine And.intro (by first | (intro h0; simp only [h0, and_self]; done) | (intro h0; simp only [h0, Bool.not_false, Bool.not_true, Bool.true_and, Bool.and_true, true_and, and_true, and_self, imp_self, implies_true, bne_iff_ne, ne_eq, beq_iff_eq]; done) | (intros; simp_all; done) | exact True.intro) ?_)
              have hz14 := Option.some.inj hz14; subst hz14
              refine And.intro rfl (Fit2.of (fit_loc hU rfl rfl ?_) (by omega))
              simp only [push_cast, Nat.reduceAdd, Nat.reduceSub, Nat.reduceMul, Nat.reduceLeDiff, Nat.reduceLT, Nat.reduceEqDiff, ↓reduceIte, reduceCtorEq, Int.reduceBEq, Int.reduceBNe, Nat.reduceBEq, Int.reduceLE, Int.reduceLT, Int.reduceEq, Int.reduceNe, Int.reduceNeg, Nat.reduceDiv, Nat.reduceMod, Nat.reducePow, cast_lit, c27, c28, c29, c30, c31, hN0, hN]
        · replace hz14 := condF c29 hz14
          try rw [c29] at c27
          try rw [c29] at c28
          refine W_regionD tab_ok [none, none, none, some true, some true, some true, some true, some true, some false, some false, some false, some false, some false, some false, some false, some false, some false, some false, some false, some false, some false] ?_
          simp only [push_cast, Nat.reduceAdd, Nat.reduceSub, Nat.reduceMul, Nat.reduceLeDiff, Nat.reduceLT, Nat.reduceEqDiff, ↓reduceIte, reduceCtorEq, Int.reduceBEq, Int.reduceBNe, Nat.reduceBEq, Int.reduceLE, Int.reduceLT, Int.reduceEq, Int.reduceNe, Int.reduceNeg, Nat.reduceDiv, Nat.reduceMod, Nat.reducePow, cast_lit, c27, c28, c29, hN0, hN]
          repeat (with_reducible refine And.intro (by first | (intro h0; simp only [h0, and_self]; done) | (intro h0; simp only [h0, Bool.not_false, Bool.not_true, Bool.true_and, Bool.and_true, true_and, and_true, and_self, imp_self, implies_true, bne_iff_ne, ne_eq, beq_iff_eq]; done) | (intros; simp_all; done) | exact True.intro) ?_)
          refine (ok_slots_Slots_Drop_n hy21).then ?_
          simp only [push_cast, Nat.reduceAdd, Nat.reduceSub, Nat.reduceMul, Nat.reduceLeDiff, Nat.reduceLT, Nat.reduceEqDiff, ↓reduceIte, reduceCtorEq, Int.reduceBEq, Int.reduceBNe, Nat.reduceBEq, Int.reduceLE, Int.reduceLT, Int.reduceEq, Int.reduceNe, Int.reduceNeg, Nat.reduceDiv, Nat.reduceMod, Nat.reducePow, cast_lit, c27, c28, c29, hN0, hN]
          repeat (with_reducible refine And.intro (by first | (intro h0; simp only [h0, and_self]; done) | (intro h0; simp only [h0, Bool.not_false, Bool.not_true, Bool.true_and, Bool.and_true, true_and, and_true, and_self, imp_self, implies_true, bne_iff_ne, ne_eq, beq_iff_eq]; done) | (intros; simp_all; done) | exact True.intro) ?_)
          have hz14 := Option.some.inj hz14; subst hz14
          refine And.intro rfl (Fit2.of (fit_loc hU rfl rfl ?_) (by omega))
          simp only [push_cast, Nat.reduceAdd, Nat.reduceSub, Nat.reduceMul, Nat.reduceLeDiff, Nat.reduceLT, Nat.reduceEqDiff, ↓reduceIte, reduceCtorEq, Int.reduceBEq, Int.reduceBNe, Nat.reduceBEq, Int.reduceLE, Int.reduceLT, Int.reduceEq, Int.reduceNe, Int.reduceNeg, Nat.reduceDiv, Nat.reduceMod, Nat.reducePow, cast_lit, c27, c28, c29, hN0, hN]
      · replace hz14 := condF c28 hz14
        try rw [c28] at c27
        refine W_regionD tab_ok [none, none, none, some false, some false, some false, some false, some false, some false, some false, some false, some false, some false, some false, some false, some false, some false, some false, some false, some false, some false] ?_
        simp only [push_cast, Nat.reduceAdd, Nat.reduceSub, Nat.reduceMul, Nat.reduceLeDiff, Nat.reduceLT, Nat.reduceEqDiff, ↓reduceIte, reduceCtorEq, Int.reduceBEq, Int.reduceBNe, Nat.reduceBEq, Int.reduceLE, Int.reduceLT, Int.reduceEq, Int.reduceNe, Int.reduceNeg, Nat.reduceDiv, Nat.reduceMod, Nat.reducePow, cast_lit, c27, c28, hN0, hN]
        repeat (with_reducible refine And.intro (by first | (intro h0; simp only [h0, and_self]; done) | (intro h0; simp only [h0, Bool.not_false, Bool.not_true, Bool.true_and, Bool.and_true, true_and, and_true, and_self, imp_self, implies_true, bne_iff_ne, ne_eq, beq_iff_eq]; done) | (intros; simp_all; done) | exact True.intro) ?_)
        have hz14 := Option.some.inj hz14; subst hz14
        refine And.intro rfl (Fit2.of (fit_loc hU rfl rfl ?_) (by omega))
        simp only [push_cast, Nat.reduceAdd, Nat.reduceSub, Nat.reduceMul, Nat.reduceLeDiff, Nat.reduceLT, Nat.reduceEqDiff, ↓reduceIte, reduceCtorEq, Int.reduceBEq, Int.reduceBNe, Nat.reduceBEq, Int.reduceLE, Int.reduceLT, Int.reduceEq, Int.reduceNe, Int.reduceNeg, Nat.reduceDiv, Nat.reduceMod, Nat.reducePow, cast_lit, c27, c28, hN0, hN]
    · replace hz14 := condF c27 hz14
      refine W_regionD tab_ok [none, none, none, some false, some false, some false, some false, some false, some false, some false, some false, some false, some false, some false, some false, some false, some false, some false, some false, some false, some false] ?_
      simp only [push_cast, Nat.reduceAdd, Nat.reduceSub, Nat.reduceMul, Nat.reduceLeDiff, Nat.reduceLT, Nat.reduceEqDiff, ↓reduceIte, reduceCtorEq, Int.reduceBEq, Int.reduceBNe, Nat.reduceBEq, Int.reduceLE, Int.reduceLT, Int.reduceEq, Int.reduceNe, Int.reduceNeg, Nat.reduceDiv, Nat.reduceMod, Nat.reducePow, cast_lit, c27, hN0, hN]
      repeat (with_reducible refine And.intro (by first | (intro h0; simp only [h0, and_self]; done) | (intro h0; simp only [h0, Bool.not_false, Bool.not_true, Bool.true_and, Bool.and_true, true_and, and_true, and_self, imp_self, implies_true, bne_iff_ne, ne_eq, beq_iff_eq]; done) | (intros; simp_all; done) | exact True.intro) ?_)
      have hz14 := Option.some.inj hz14; subst hz14
      refine And.intro rfl (Fit2.of (fit_loc hU rfl rfl ?_) (by omega))
      simp only [push_cast, Nat.reduceAdd, Nat.reduceSub, Nat.reduceMul, Nat.reduceLeDiff, Nat.reduceLT, Nat.reduceEqDiff, ↓reduceIte, reduceCtorEq, Int.reduceBEq, Int.reduceBNe, Nat.reduceBEq, Int.reduceLE, Int.reduceLT, Int.reduceEq, Int.reduceNe, Int.reduceNeg, Nat.reduceDiv, Nat.reduceMod, Nat.reducePow, cast_lit, c27, hN0, hN]
  refine W_ret ?_
  try simp only [gthen, gblock]
  have h := Option.some.inj h; subst h
  refine fin_loc (.inr rfl) hU [.val (.bool z14)] (by omega) ?_
  simp only [push_cast, Nat.reduceAdd, Nat.reduceSub, Nat.reduceMul, Nat.reduceLeDiff, Nat.reduceLT, Nat.reduceEqDiff, ↓reduceIte, reduceCtorEq, Int.reduceBEq, Int.reduceBNe, Nat.reduceBEq, Int.reduceLE, Int.reduceLT, Int.reduceEq, Int.reduceNe, Int.reduceNeg, Nat.reduceDiv, Nat.reduceMod, Nat.reducePow, cast_lit, Try.results14, hN0, hN]

end Go.Proofs.Ytkdanjfmobibbaa
