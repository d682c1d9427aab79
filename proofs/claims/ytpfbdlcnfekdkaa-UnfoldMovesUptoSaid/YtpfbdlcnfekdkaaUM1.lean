/- Part UM1 of this seat's mirrors: functions of the seat's program, and the plain functions that they are; each theorem bears its own conditions. -/
import Derived.Test.YtpfbdlcnfekdkaaUE
namespace Go.Proofs.Ytpfbdlcnfekdkaa
open Go.RowKit
set_option linter.unusedVariables false
set_option linter.unusedSimpArgs false
set_option maxRecDepth 100000
set_option maxHeartbeats 4000000
attribute [local push_cast] gfork_t gfork_f pfork_t pfork_f gthen gblock gops_nil gops_plain gops_guard onW gwantB gcalm gact gpick gpickV strip_any strip_val strip_agg strip_tup strip_sl strip_ip strip_row strip_rs strip_rp strip_ref strip_fn strip_when evS wok calmOp Op.operands Call.operands gop onK onP atK List.all_cons List.all_nil Bool.and_true Bool.true_and Bool.and_self Value.oneCell' List.take_zero List.take_succ_cons List.take_nil List.drop_zero List.drop_succ_cons List.drop_nil List.append_nil Nat.add_zero Nat.zero_add gstep gputE ev look genv gbin_ii gbin_bb gbin_ss gbin_pp gbin_rp gbin_ip gbin_ll gbin_aa geqS geqF gint gunary gconvert gload gcells gpart_lit gstore cellsOf_agg cellsOf_val cellsOf_sl cellsOf_ip cellsOf_row cellsOf_rs cellsOf_rp cellsOf_ref cellsOf_fn cellsOf_any cellsOf_tup cellsOf_when cellsOf_gP gput gplace_lit gfieldAddr gstepIn gindexAddr gindex gfield gopt bLo bHi bMx gextract galloc gbox gbuild gfill gplaces gbuildSlice gmake glen gappend gsrc gbuiltin gnil live_any live_val live_agg live_tup live_sl live_ip live_fn live_when live_ref live_rs live_rp live_row live_gP gres gone prun_nil prun_plain prun_guard pop TK.isAgg one_any one_val one_agg one_tup one_when one_sl one_ip one_row one_rs one_rp one_ref one_fn G.under G.unders List.getD_cons_zero List.getD_cons_succ List.set_cons_zero List.set_cons_succ List.map_cons List.map_nil List.toList_toArray Array.toList_append Option.toArray_none Option.toArray_some Array.toList_map Option.map_some Option.map_none Option.bind_some Option.bind_none List.getElem?_cons_zero List.getElem?_cons_succ List.getElem?_nil List.nil_append List.cons_append List.replicate_succ List.replicate_zero List.length_cons List.length_nil and_true true_and and_false false_and Bool.true_eq_false Bool.false_eq_true forall_const false_implies implies_true IntKind.bits if_true if_false ite_true ite_false eq_self true_implies false_or or_false or_true true_or not_true_eq_false not_false_eq_true decide_true decide_false decide_eq_true_eq decide_eq_false_iff_not beq_iff_eq bne_iff_ne ne_eq Bool.not_eq_true Bool.not_eq_false beq_eq_false_iff_ne bne_eq_false_iff_eq beq_self_eq_true bne_self_eq_false Option.some.injEq exists_eq_left' exists_eq_left ge_iff_le gt_iff_lt decide_not Bool.not_true Bool.not_false imp_self gquiet cond_true cond_false beqT beqF Bool.not_not Bool.and_false Bool.false_and Bool.or_true Bool.true_or Bool.or_false Bool.false_or Loc_at Loc_at0 Loc_upd Loc_upd0 Loc_push Loc_push0 Option.join_some Nat.add_assoc Int.toNat_natCast eI eB eS eL fl_nil gopsD_nil gopsD_plain gopsD_t gopsD_f gopsD_n onKD onWD prunD_nil prunD_plain prunD_t prunD_f prunD_n onPD fitO fitO1 sameO fitL fl_append fl_one List.length_append G.agg.injEq G.row.injEq G.ref.injEq G.val.injEq G.sl.injEq G.tup.injEq Value.int.injEq Value.bool.injEq Value.string.injEq List.cons.injEq exists_and_left exists_const List.flatten_cons List.flatten_nil Int.le_refl Nat.le_refl upd_updU Loc_out Loc_updo Bool.not_eq_true' Bool.not_eq_false' wkl_nil wkl_cons wk_any wk_val wk_agg wk_tup wk_sl wk_fn List.size_toArray renO renO1 G.ren G.rens renL rho_at rho_at0 gP_none gP_some strip_gP wok_gP one_gP G.fn.injEq wk_slnil wk_slrow wk_slrs wk_ip wk_ipref wk_row wk_rs wk_rp wk_ref locLt0 locLt Option.join_none upd_same fl_cons undef keepL Arr.len Arr.put_eq prunB_nil prunB_bar prunB_bart prunB_plain prunB_t prunB_f prunB_n onB onBP gcopy setI_len Loc_cat0 Loc_cat1 Loc_cat2 Loc_cat3 Loc_cat4 Loc_cat5 noObjs_at prunK_nil prunK_bar prunK_pass prunK_plain prunK_low prunK_pt prunK_pf prunK_lt prunK_lf onKg onKa onKp popL pickOps lows lowG prunK_shp prunK_fill popH shpOp fillOp fillG rho_low rens_app Loc_cat6 Loc_cat7 Loc_cat8 Loc_cat9 Loc_cat10 Loc_cat11 Loc_cat12 Loc_cat13 Loc_cat14 Loc_cat15 Loc_cat16 dropM prT kdOf tab2 tkind2 tab3 tkind3 tab4 tkind4 tab5 tkind5 tab6 tkind6 tab7 tkind7 tab8 tkind8 tab9 tkind9 tab10 tkind10 tab11 tkind11 tab12 tkind12 tab13 tkind13 tab14 tkind14 tab15 tkind15 tab16 tkind16 tab17 tkind17 tab18 tkind18 tab19 tkind19 tab21 tkind21 tab22 tkind22 tab23 tkind23 tab24 tkind24 tab26 tkind26 tab27 tkind27 tab28 tkind28 tab29 tkind29 tab30 tkind30 tab33 tkind33 tab46 tkind46 tab49 tkind49 tab50 tkind50 tab61 tkind61 tab62 tkind62 tab63 tkind63 tab65 tkind65 tab66 tkind66 tab74 tkind74 tab75 tkind75 tab84 tkind84 tab85 tkind85 tab87 tkind87 tab88 tkind88 tab91 tkind91 tab92 tkind92 tab93 tkind93 tab104 tkind104 tab105 tkind105 tab106 tkind106 tab112 tkind112 tab113 tkind113 tab116 tkind116 tab117 tkind117 tab119 tkind119 tab120 tkind120 tab126 tkind126 tab127 tkind127 tab149 tkind149 tab150 tkind150 tab151 tkind151 tab159 tkind159 tab169 tkind169 tab170 tkind170 e_S_api_Limits wkl_eI_u64 wka_eI_u64 len_eI_u64 one_eI_u64 wkp_eI_u64 undp_eI_u64 rens_eI_u64 renp_eI_u64 und_eI_u64 wkl_eL_eI_u64 wka_eL_eI_u64 len_eL_eI_u64 one_eL_eI_u64 wkp_eL_eI_u64 undp_eL_eI_u64 rens_eL_eI_u64 renp_eL_eI_u64 und_eL_eI_u64 e_S_arena_Arena wkl_e_S_arena_Arena wka_e_S_arena_Arena len_e_S_arena_Arena one_e_S_arena_Arena wkp_e_S_arena_Arena undp_e_S_arena_Arena rens_e_S_arena_Arena renp_e_S_arena_Arena und_e_S_arena_Arena e_S_ptr_Ptr wkl_eI_i64 wka_eI_i64 len_eI_i64 one_eI_i64 wkp_eI_i64 undp_eI_i64 rens_eI_i64 renp_eI_i64 und_eI_i64 e_S_far_Loc e_S_reader_Ref e_S_valid_checker wkl_e_S_valid_checker wka_e_S_valid_checker len_e_S_valid_checker one_e_S_valid_checker wkp_e_S_valid_checker undp_e_S_valid_checker rens_e_S_valid_checker renp_e_S_valid_checker und_e_S_valid_checker e_S_unfold_unfolder e_S_api_Tree e0_eq_S_api_Tree wkl_e_S_api_Tree wka_e_S_api_Tree len_e_S_api_Tree one_e_S_api_Tree wkp_e_S_api_Tree undp_e_S_api_Tree rens_e_S_api_Tree renp_e_S_api_Tree und_e_S_api_Tree wkl_e_S_unfold_unfolder wka_e_S_unfold_unfolder len_e_S_unfold_unfolder one_e_S_unfold_unfolder wkp_e_S_unfold_unfolder undp_e_S_unfold_unfolder rens_e_S_unfold_unfolder renp_e_S_unfold_unfolder und_e_S_unfold_unfolder
theorem ok_centolaw10_Light {a0 : S_api_Limits} {r : S_api_Limits} {O : Objs} {n : Nat} (h : m_centolaw10_Light a0 = some r) : GTo Try.prog 8 [.agg [.val (.int .i64 a0.Depth), .val (.int .i64 a0.Weight), .val (.int .i64 a0.MaxD), .val (.int .i64 a0.MaxOut)]] O n (.agg [.val (.int .i64 r.Depth), .val (.int .i64 r.Weight), .val (.int .i64 r.MaxD), .val (.int .i64 r.MaxOut)]) O n := by
  unfold m_centolaw10_Light at h
  refine fn_of tab_ok Try.call8 Try.func8 rfl (Nat.le_of_ble_eq_true rfl) (Nat.le_refl _) fun hU => ?_
  have hN0 : O n = none := hU.fresh _ (Nat.le_refl _)
  have hN : ∀ k, O (n + k) = none := fun k => hU.fresh _ (Nat.le_add_right _ _)
  show W _ _ _ _ ⟨8, [], [(0, .agg [.val (.int .i64 a0.Depth), .val (.int .i64 a0.Weight), .val (.int .i64 a0.MaxD), .val (.int .i64 a0.MaxOut)])]⟩ (Loc O n []) _
  refine W_sq [1, 2] (W_regionD tab_ok [] ?_)
  simp only [push_cast, Nat.reduceAdd, Nat.reduceSub, Nat.reduceMul, Nat.reduceLeDiff, Nat.reduceLT, Nat.reduceEqDiff, ↓reduceIte, reduceCtorEq, Int.reduceBEq, Int.reduceBNe, Nat.reduceBEq, Int.reduceLE, Int.reduceLT, Int.reduceEq, Int.reduceNe, Int.reduceNeg, Nat.reduceDiv, Nat.reduceMod, Nat.reducePow, cast_lit, hN0, hN]
  obtain ⟨z1, hz1, h⟩ := bC h
  refine W_seqN (E' := ⟨8, [], [(1, .ref n 0), (2, .ref (n + 1) 0)]⟩) (O' := (Loc O n [some ⟨false, 24, 4, 1, [.val (.int .i64 a0.Depth), .val (.int .i64 z1), .val (.int .i64 a0.MaxD), .val (.int .i64 a0.MaxOut)]⟩, some ⟨false, 24, 4, 1, [.val (.int .i64 0), .val (.int .i64 0), .val (.int .i64 0), .val (.int .i64 0)]⟩])) (n0 := (n + 2)) ?_ ?_
  · refine W_sq [1, 2, 5] (W_regionD tab_ok [] ?_)
    simp only [push_cast, Nat.reduceAdd, Nat.reduceSub, Nat.reduceMul, Nat.reduceLeDiff, Nat.reduceLT, Nat.reduceEqDiff, ↓reduceIte, reduceCtorEq, Int.reduceBEq, Int.reduceBNe, Nat.reduceBEq, Int.reduceLE, Int.reduceLT, Int.reduceEq, Int.reduceNe, Int.reduceNeg, Nat.reduceDiv, Nat.reduceMod, Nat.reducePow, cast_lit, hN0, hN]
    refine W_cond (t := (decide (3000 < a0.Weight))) rfl (fun c2 => ?_) (fun c2 => ?_)
    · replace hz1 := condT c2 hz1
      refine W_regionD tab_ok [] ?_
      simp only [push_cast, Nat.reduceAdd, Nat.reduceSub, Nat.reduceMul, Nat.reduceLeDiff, Nat.reduceLT, Nat.reduceEqDiff, ↓reduceIte, reduceCtorEq, Int.reduceBEq, Int.reduceBNe, Nat.reduceBEq, Int.reduceLE, Int.reduceLT, Int.reduceEq, Int.reduceNe, Int.reduceNeg, Nat.reduceDiv, Nat.reduceMod, Nat.reducePow, cast_lit, hN0, hN]
      have hz1 := Option.some.inj hz1; subst hz1
      refine And.intro rfl (Fit2.of (fit_loc hU rfl rfl ?_) (by omega))
      simp only [push_cast, Nat.reduceAdd, Nat.reduceSub, Nat.reduceMul, Nat.reduceLeDiff, Nat.reduceLT, Nat.reduceEqDiff, ↓reduceIte, reduceCtorEq, Int.reduceBEq, Int.reduceBNe, Nat.reduceBEq, Int.reduceLE, Int.reduceLT, Int.reduceEq, Int.reduceNe, Int.reduceNeg, Nat.reduceDiv, Nat.reduceMod, Nat.reducePow, cast_lit, hN0, hN]
    · replace hz1 := condF c2 hz1
      refine W_skip ?_
      try simp only [gthen, gblock]
      have hz1 := Option.some.inj hz1; subst hz1
      refine And.intro rfl (Fit2.of (fit_loc hU rfl rfl ?_) (by omega))
      simp only [push_cast, Nat.reduceAdd, Nat.reduceSub, Nat.reduceMul, Nat.reduceLeDiff, Nat.reduceLT, Nat.reduceEqDiff, ↓reduceIte, reduceCtorEq, Int.reduceBEq, Int.reduceBNe, Nat.reduceBEq, Int.reduceLE, Int.reduceLT, Int.reduceEq, Int.reduceNe, Int.reduceNeg, Nat.reduceDiv, Nat.reduceMod, Nat.reducePow, cast_lit, hN0, hN]
  refine W_seqK ?_
  refine W_regionD tab_ok [] ?_
  simp only [push_cast, Nat.reduceAdd, Nat.reduceSub, Nat.reduceMul, Nat.reduceLeDiff, Nat.reduceLT, Nat.reduceEqDiff, ↓reduceIte, reduceCtorEq, Int.reduceBEq, Int.reduceBNe, Nat.reduceBEq, Int.reduceLE, Int.reduceLT, Int.reduceEq, Int.reduceNe, Int.reduceNeg, Nat.reduceDiv, Nat.reduceMod, Nat.reducePow, cast_lit, hN0, hN]
  refine W_drop [2] [false, true] ?_
  simp only [push_cast, seval, ↓reduceIte]
  refine W_ret ?_
  try simp only [gthen, gblock]
  have h := Option.some.inj h; subst h
  refine fin_loc (.inr rfl) hU [.agg [.val (.int .i64 a0.Depth), .val (.int .i64 z1), .val (.int .i64 a0.MaxD), .val (.int .i64 a0.MaxOut)]] (by omega) ?_
  simp only [push_cast, Nat.reduceAdd, Nat.reduceSub, Nat.reduceMul, Nat.reduceLeDiff, Nat.reduceLT, Nat.reduceEqDiff, ↓reduceIte, reduceCtorEq, Int.reduceBEq, Int.reduceBNe, Nat.reduceBEq, Int.reduceLE, Int.reduceLT, Int.reduceEq, Int.reduceNe, Int.reduceNeg, Nat.reduceDiv, Nat.reduceMod, Nat.reducePow, cast_lit, Try.results8, hN0, hN]

theorem ok_slices_Clone_uint64_uint64 {a0 r : List Int} {O : Objs} {n : Nat} (h : m_slices_Clone_uint64_uint64 a0 = some r) : GTo Try.prog 59 [.sl a0.length (fl (eI .u64) a0)] O n (.row n r.length) (Loc O n [some ⟨true, 63, 1, r.length, fl (eI .u64) r⟩]) (n + 1) := by
  have h1 := appI_1 h
  have h2 := appI_2 h
  have h3 := appI_eq h
  rw [List.nil_append] at h3
  subst h3
  simp only [List.length_nil, Nat.zero_add] at h1 h2
  clear h
  refine fn_of tab_ok Try.call59 Try.func59 rfl (Nat.le_of_ble_eq_true rfl) (by omega) fun hU => ?_
  have hN0 : O n = none := hU.fresh _ (Nat.le_refl _)
  have hN : ∀ k, O (n + k) = none := fun k => hU.fresh _ (Nat.le_add_right _ _)
  show W _ _ _ _ ⟨8, [], [(0, .sl r.length (fl (eI .u64) r))]⟩ (Loc O n []) _
  refine W_sq [0] (W_regionD tab_ok [] ?_)
  simp only [push_cast, Nat.reduceAdd, Nat.reduceSub, Nat.reduceMul, Nat.reduceLeDiff, Nat.reduceLT, Nat.reduceEqDiff, ↓reduceIte, reduceCtorEq, Int.reduceBEq, Int.reduceBNe, Nat.reduceBEq, Int.reduceLE, Int.reduceLT, Int.reduceEq, Int.reduceNe, Int.reduceNeg, Nat.reduceDiv, Nat.reduceMod, Nat.reducePow, cast_lit, hN0, hN]
  refine W_know 0 r.length (fl (eI .u64) r) rfl (Nat.le_of_ble_eq_true rfl) (pures_fl pu_eI_u64 _) fun A c hA => ?_
  refine W_sq [0, 4] (W_regionD tab_ok [] ?_)
  simp only [push_cast, Nat.reduceAdd, Nat.reduceSub, Nat.reduceMul, Nat.reduceLeDiff, Nat.reduceLT, Nat.reduceEqDiff, ↓reduceIte, reduceCtorEq, Int.reduceBEq, Int.reduceBNe, Nat.reduceBEq, Int.reduceLE, Int.reduceLT, Int.reduceEq, Int.reduceNe, Int.reduceNeg, Nat.reduceDiv, Nat.reduceMod, Nat.reducePow, cast_lit, hN0, hN]
  cases A with
  | none =>
    obtain rfl : r = [] := List.eq_nil_of_length_eq_zero (hA rfl)
    refine W_cond (t := true) rfl (fun _ => ?_) (fun hc => by cases hc)
    refine W_sq [2] (W_regionD tab_ok [] ?_)
    simp only [push_cast, Nat.reduceAdd, Nat.reduceSub, Nat.reduceMul, Nat.reduceLeDiff, Nat.reduceLT, Nat.reduceEqDiff, ↓reduceIte, reduceCtorEq, Int.reduceBEq, Int.reduceBNe, Nat.reduceBEq, Int.reduceLE, Int.reduceLT, Int.reduceEq, Int.reduceNe, Int.reduceNeg, Nat.reduceDiv, Nat.reduceMod, Nat.reducePow, cast_lit, hN0, hN]
    refine W_ret ?_
    try simp only [gthen, gblock]
    refine fin_locW (k := 1) (L3 := [some ⟨true, 63, 1, 0, []⟩]) (E2 := ⟨8, [], [(2, .row n 0), (2, .val (.slice none 0 0))]⟩) (n3 := (n + 1)) (.inr rfl) hU rfl [.row n 0] ?_ ?_
    · have ha := adopt_fit (ba := n) (E := ⟨8, [], [(2, .val (.slice none 0 0))]⟩) (O := (Loc O n [])) (n := n) 2 63 1 rfl (by omega)
      simp only [Loc_push0] at ha
      exact ha
    simp only [push_cast, Nat.reduceAdd, Nat.reduceSub, Nat.reduceMul, Nat.reduceLeDiff, Nat.reduceLT, Nat.reduceEqDiff, ↓reduceIte, reduceCtorEq, Int.reduceBEq, Int.reduceBNe, Nat.reduceBEq, Int.reduceLE, Int.reduceLT, Int.reduceEq, Int.reduceNe, Int.reduceNeg, Nat.reduceDiv, Nat.reduceMod, Nat.reducePow, cast_lit, Try.results59, hN0, hN]
  | some A =>
    refine W_cond (t := false) rfl (fun hc => by cases hc) (fun _ => ?_)
    refine W_skip ?_
    try simp only [gthen, gblock]
    refine And.intro rfl (And.intro (Nat.le_of_ble_eq_true rfl) ?_)
    refine W_seqK ?_
    refine W_regionD tab_ok [] ?_
    simp only [push_cast, Nat.reduceAdd, Nat.reduceSub, Nat.reduceMul, Nat.reduceLeDiff, Nat.reduceLT, Nat.reduceEqDiff, ↓reduceIte, reduceCtorEq, Int.reduceBEq, Int.reduceBNe, Nat.reduceBEq, Int.reduceLE, Int.reduceLT, Int.reduceEq, Int.reduceNe, Int.reduceNeg, Nat.reduceDiv, Nat.reduceMod, Nat.reducePow, cast_lit, h1, h2, hN0, hN]
    refine W_ret ?_
    try simp only [gthen, gblock]
    refine fin_locR (.inr rfl) hU rfl [.row n r.length] (by omega) ?_
    simp only [push_cast, Nat.reduceAdd, Nat.reduceSub, Nat.reduceMul, Nat.reduceLeDiff, Nat.reduceLT, Nat.reduceEqDiff, ↓reduceIte, reduceCtorEq, Int.reduceBEq, Int.reduceBNe, Nat.reduceBEq, Int.reduceLE, Int.reduceLT, Int.reduceEq, Int.reduceNe, Int.reduceNeg, Nat.reduceDiv, Nat.reduceMod, Nat.reducePow, cast_lit, Try.results59, hN0, hN]

theorem okf_slices_Clone_uint64_uint64 {a0 r : List Int} {O : Objs} {n : Nat} (h : m_slices_Clone_uint64_uint64 a0 = some r) : GTo Try.prog 59 [.sl a0.length (fl (eI .u64) a0)] O n (.sl r.length (fl (eI .u64) r)) O n := by
  refine GTo.freeze (ok_slices_Clone_uint64_uint64 h) fun hU => ?_
  have hN0 : O n = none := hU.fresh _ (Nat.le_refl _)
  have hN : ∀ k, O (n + k) = none := fun k => hU.fresh _ (Nat.le_add_right _ _)
  simp only [push_cast, Nat.reduceAdd, Nat.reduceSub, Nat.reduceMul, Nat.reduceLeDiff, Nat.reduceLT, Nat.reduceEqDiff, ↓reduceIte, reduceCtorEq, Int.reduceBEq, Int.reduceBNe, Nat.reduceBEq, Int.reduceLE, Int.reduceLT, Int.reduceEq, Int.reduceNe, Int.reduceNeg, Nat.reduceDiv, Nat.reduceMod, Nat.reducePow, cast_lit, hN0, hN]

theorem ok_arena_clone {a0 : (List (List Int))} {r : (List (List Int))} {O : Objs} {n : Nat} (h : m_arena_clone a0 = some r) : GTo Try.prog 34 [.sl a0.length (fl (eL (eI .u64)) a0)] O n (.sl r.length (fl (eL (eI .u64)) r)) O n := by
  unfold m_arena_clone at h
  refine fn_of tab_ok Try.call34 Try.func34 rfl (Nat.le_of_ble_eq_true rfl) (Nat.le_refl _) fun hU => ?_
  have hN0 : O n = none := hU.fresh _ (Nat.le_refl _)
  have hN : ∀ k, O (n + k) = none := fun k => hU.fresh _ (Nat.le_add_right _ _)
  show W _ _ _ _ ⟨23, [], [(0, .sl a0.length (fl (eL (eI .u64)) a0))]⟩ (Loc O n []) _
  refine W_sq [0] (W_regionD tab_ok [] ?_)
  simp only [push_cast, Nat.reduceAdd, Nat.reduceSub, Nat.reduceMul, Nat.reduceLeDiff, Nat.reduceLT, Nat.reduceEqDiff, ↓reduceIte, reduceCtorEq, Int.reduceBEq, Int.reduceBNe, Nat.reduceBEq, Int.reduceLE, Int.reduceLT, Int.reduceEq, Int.reduceNe, Int.reduceNeg, Nat.reduceDiv, Nat.reduceMod, Nat.reducePow, cast_lit, hN0, hN]
  refine W_seqK ?_
  obtain ⟨l2, al2, bl2, cl2, el2, h⟩ := bM2 (c := 24) rfl h
  have nl2 : Int.toNat (a0.length : Int) = List.length l2 := by rw [el2, List.length_replicate]
  have fl2 : ∀ O O' n, wkl O O' n (List.replicate (List.length l2) [G.val (.slice none 0 0)]).flatten (fl (eL (eI .u64)) l2) = True := fun O O' n => by rw [← nl2, el2]; exact eq_true (wkl_nils _ _)
  clear el2
  refine W_regionD tab_ok [] ?_
  simp only [push_cast, Nat.reduceAdd, Nat.reduceSub, Nat.reduceMul, Nat.reduceLeDiff, Nat.reduceLT, Nat.reduceEqDiff, ↓reduceIte, reduceCtorEq, Int.reduceBEq, Int.reduceBNe, Nat.reduceBEq, Int.reduceLE, Int.reduceLT, Int.reduceEq, Int.reduceNe, Int.reduceNeg, Nat.reduceDiv, Nat.reduceMod, Nat.reducePow, cast_lit, al2, bl2, cl2, fl2, nl2, hN0, hN]
  refine W_fit ⟨23, [], [(0, .sl a0.length (fl (eL (eI .u64)) a0)), (3, .row n l2.length)]⟩ (Loc O n [some ⟨true, 26, 1, l2.length, fl (eL (eI .u64)) l2⟩]) (fit_loc hU rfl rfl ?_) ?_
  · simp only [push_cast, Nat.reduceAdd, Nat.reduceSub, Nat.reduceMul, Nat.reduceLeDiff, Nat.reduceLT, Nat.reduceEqDiff, ↓reduceIte, reduceCtorEq, Int.reduceBEq, Int.reduceBNe, Nat.reduceBEq, Int.reduceLE, Int.reduceLT, Int.reduceEq, Int.reduceNe, Int.reduceNeg, Nat.reduceDiv, Nat.reduceMod, Nat.reducePow, cast_lit, al2, bl2, cl2, fl2, nl2, hN0, hN]
  refine W_seqK ?_
  refine W_sq [3, 9, 10, 11] (W_regionD tab_ok [] ?_)
  simp only [push_cast, Nat.reduceAdd, Nat.reduceSub, Nat.reduceMul, Nat.reduceLeDiff, Nat.reduceLT, Nat.reduceEqDiff, ↓reduceIte, reduceCtorEq, Int.reduceBEq, Int.reduceBNe, Nat.reduceBEq, Int.reduceLE, Int.reduceLT, Int.reduceEq, Int.reduceNe, Int.reduceNeg, Nat.reduceDiv, Nat.reduceMod, Nat.reducePow, cast_lit, hN0, hN]
  refine W_drop [3, 9, 10, 11] [true] ?_
  simp only [push_cast, seval, ↓reduceIte]
  obtain ⟨z9, hz9, h⟩ := bC h
  refine W_blockX (E' := ⟨23, [], [(3, .row n z9.length)]⟩) (O' := (Loc O n [some ⟨true, 26, 1, z9.length, fl (eL (eI .u64)) z9⟩])) (n0 := (n + 1)) ?_ ?_
  · refine W_loopJ hz9 (fun s0_ => ⟨23, [], [(3, .row n s0_.2.length), (9, .sl a0.length (fl (eL (eI .u64)) a0)), (10, .val (.int .i64 (a0.length : Int))), (11, .val (.int .i64 s0_.1))]⟩) (fun s0_ => (Loc O n [some ⟨true, 26, 1, s0_.2.length, fl (eL (eI .u64)) s0_.2⟩])) (fun z9 => JX 0 n (⟨23, [], [(3, .row n z9.length)]⟩ : Env) (Loc O n [some ⟨true, 26, 1, z9.length, fl (eL (eI .u64)) z9⟩]) (n + 1)) ?_
    intro s0_ x0_ hs0_
    unfold m_arena_clone_L0 at hs0_
    try dsimp only
    refine W_sq [3, 9, 10, 11, 12] (W_regionD tab_ok [] ?_)
    simp only [push_cast, Nat.reduceAdd, Nat.reduceSub, Nat.reduceMul, Nat.reduceLeDiff, Nat.reduceLT, Nat.reduceEqDiff, ↓reduceIte, reduceCtorEq, Int.reduceBEq, Int.reduceBNe, Nat.reduceBEq, Int.reduceLE, Int.reduceLT, Int.reduceEq, Int.reduceNe, Int.reduceNeg, Nat.reduceDiv, Nat.reduceMod, Nat.reducePow, cast_lit, hN0, hN]
    refine W_seqK ?_
    refine W_cond (t := (decide (s0_.1 < (a0.length : Int)))) rfl (fun c8 => ?_) (fun c8 => ?_)
    · replace hs0_ := condT c8 hs0_
      refine W_skip ?_
      try simp only [gthen, gblock]
      refine W_drop [3, 9, 10, 11] [true] ?_
      simp only [push_cast, seval, ↓reduceIte]
      refine W_seqK ?_
      refine W_block ?_
      obtain ⟨x4, hx4, ax4, bx4, cx4, hs0_⟩ := bE (f := (eL (eI .u64))) tab26 (fun _ => rfl) (by decide) hs0_
      refine W_sq [3, 4, 5, 9, 10, 11] (W_regionD tab_ok [] ?_)
      simp only [push_cast, Nat.reduceAdd, Nat.reduceSub, Nat.reduceMul, Nat.reduceLeDiff, Nat.reduceLT, Nat.reduceEqDiff, ↓reduceIte, reduceCtorEq, Int.reduceBEq, Int.reduceBNe, Nat.reduceBEq, Int.reduceLE, Int.reduceLT, Int.reduceEq, Int.reduceNe, Int.reduceNeg, Nat.reduceDiv, Nat.reduceMod, Nat.reducePow, cast_lit, ax4, bx4, cx4, hN0, hN]
      obtain ⟨y5, hy5, hs0_⟩ := bC hs0_
      obtain ⟨x6, hx6, ax6, bx6, cx6, hs0_⟩ := bE (f := (eL (eI .u64))) tab26 (fun _ => rfl) (by decide) hs0_
      have gu7 : gplace (fl (eL (eI .u64)) s0_.2) [.sl y5.length (fl (eI .u64) y5)] (Int.toNat s0_.1 * 1) = some (fl (eL (eI .u64)) (setI s0_.2 s0_.1 y5)) := gplace_el (f := (eL (eI .u64))) (ti := ⟨.bool, 1, 0, [], false⟩) (x := y5) (fun _ => rfl) (getI_nat hx6)
      refine W_regionD tab_ok [] ?_
      simp only [push_cast, Nat.reduceAdd, Nat.reduceSub, Nat.reduceMul, Nat.reduceLeDiff, Nat.reduceLT, Nat.reduceEqDiff, ↓reduceIte, reduceCtorEq, Int.reduceBEq, Int.reduceBNe, Nat.reduceBEq, Int.reduceLE, Int.reduceLT, Int.reduceEq, Int.reduceNe, Int.reduceNeg, Nat.reduceDiv, Nat.reduceMod, Nat.reducePow, cast_lit, ax6, bx6, cx6, gu7, hN0, hN]
      refine (okf_slices_Clone_uint64_uint64 hy5).then ?_
      simp only [push_cast, Nat.reduceAdd, Nat.reduceSub, Nat.reduceMul, Nat.reduceLeDiff, Nat.reduceLT, Nat.reduceEqDiff, ↓reduceIte, reduceCtorEq, Int.reduceBEq, Int.reduceBNe, Nat.reduceBEq, Int.reduceLE, Int.reduceLT, Int.reduceEq, Int.reduceNe, Int.reduceNeg, Nat.reduceDiv, Nat.reduceMod, Nat.reducePow, cast_lit, ax6, bx6, cx6, gu7, hN0, hN]
      refine W_drop [3, 9, 10, 11] [true] ?_
      simp only [push_cast, seval, ↓reduceIte]
      refine W_regionD tab_ok [] ?_
      simp only [push_cast, Nat.reduceAdd, Nat.reduceSub, Nat.reduceMul, Nat.reduceLeDiff, Nat.reduceLT, Nat.reduceEqDiff, ↓reduceIte, reduceCtorEq, Int.reduceBEq, Int.reduceBNe, Nat.reduceBEq, Int.reduceLE, Int.reduceLT, Int.reduceEq, Int.reduceNe, Int.reduceNeg, Nat.reduceDiv, Nat.reduceMod, Nat.reducePow, cast_lit, hN0, hN]
      have hs0_ := Option.some.inj hs0_; subst hs0_
      refine And.intro rfl (Fit2.of (fit_loc hU rfl rfl ?_) (by omega))
      simp only [push_cast, Nat.reduceAdd, Nat.reduceSub, Nat.reduceMul, Nat.reduceLeDiff, Nat.reduceLT, Nat.reduceEqDiff, ↓reduceIte, reduceCtorEq, Int.reduceBEq, Int.reduceBNe, Nat.reduceBEq, Int.reduceLE, Int.reduceLT, Int.reduceEq, Int.reduceNe, Int.reduceNeg, Nat.reduceDiv, Nat.reduceMod, Nat.reducePow, cast_lit, hN0, hN]
    · replace hs0_ := condF c8 hs0_
      refine W_exit ?_
      try simp only [gthen, gblock, ↓reduceIte, Nat.reduceEqDiff]
      have hs0_ := Option.some.inj hs0_; subst hs0_
      refine And.intro (fun h => by cases h) (And.intro rfl (Fit2.of (fit_loc hU rfl rfl ?_) (by omega)))
      simp only [push_cast, Nat.reduceAdd, Nat.reduceSub, Nat.reduceMul, Nat.reduceLeDiff, Nat.reduceLT, Nat.reduceEqDiff, ↓reduceIte, reduceCtorEq, Int.reduceBEq, Int.reduceBNe, Nat.reduceBEq, Int.reduceLE, Int.reduceLT, Int.reduceEq, Int.reduceNe, Int.reduceNeg, Nat.reduceDiv, Nat.reduceMod, Nat.reducePow, cast_lit, hN0, hN]
  try simp only [gthen, gblock, ↓reduceIte, Nat.reduceEqDiff]
  refine W_drop [3] [true] ?_
  simp only [push_cast, seval, ↓reduceIte]
  refine W_sq [2] (W_regionD tab_ok [] ?_)
  simp only [push_cast, Nat.reduceAdd, Nat.reduceSub, Nat.reduceMul, Nat.reduceLeDiff, Nat.reduceLT, Nat.reduceEqDiff, ↓reduceIte, reduceCtorEq, Int.reduceBEq, Int.reduceBNe, Nat.reduceBEq, Int.reduceLE, Int.reduceLT, Int.reduceEq, Int.reduceNe, Int.reduceNeg, Nat.reduceDiv, Nat.reduceMod, Nat.reducePow, cast_lit, hN0, hN]
  refine W_ret ?_
  try simp only [gthen, gblock]
  have h := Option.some.inj h; subst h
  refine fin_loc (.inr rfl) hU [.row n z9.length] (by omega) ?_
  simp only [push_cast, Nat.reduceAdd, Nat.reduceSub, Nat.reduceMul, Nat.reduceLeDiff, Nat.reduceLT, Nat.reduceEqDiff, ↓reduceIte, reduceCtorEq, Int.reduceBEq, Int.reduceBNe, Nat.reduceBEq, Int.reduceLE, Int.reduceLT, Int.reduceEq, Int.reduceNe, Int.reduceNeg, Nat.reduceDiv, Nat.reduceMod, Nat.reducePow, cast_lit, Try.results34, hN0, hN]

theorem ok_arena_Of {a0 : (List (List Int))} {r : (Option S_arena_Arena)} {O : Objs} {n : Nat} (h : m_arena_Of a0 = some r) : GTo Try.prog 10 [.sl a0.length (fl (eL (eI .u64)) a0)] O n ((gP e_S_arena_Arena r)) O n := by
  unfold m_arena_Of at h
  refine fn_of tab_ok Try.call10 Try.func10 rfl (Nat.le_of_ble_eq_true rfl) (Nat.le_refl _) fun hU => ?_
  have hN0 : O n = none := hU.fresh _ (Nat.le_refl _)
  have hN : ∀ k, O (n + k) = none := fun k => hU.fresh _ (Nat.le_add_right _ _)
  show W _ _ _ _ ⟨7, [], [(0, .sl a0.length (fl (eL (eI .u64)) a0))]⟩ (Loc O n []) _
  refine W_sq [0] (W_regionD tab_ok [] ?_)
  simp only [push_cast, Nat.reduceAdd, Nat.reduceSub, Nat.reduceMul, Nat.reduceLeDiff, Nat.reduceLT, Nat.reduceEqDiff, ↓reduceIte, reduceCtorEq, Int.reduceBEq, Int.reduceBNe, Nat.reduceBEq, Int.reduceLE, Int.reduceLT, Int.reduceEq, Int.reduceNe, Int.reduceNeg, Nat.reduceDiv, Nat.reduceMod, Nat.reducePow, cast_lit, hN0, hN]
  refine W_seqK ?_
  obtain ⟨y2, hy2, h⟩ := bC h
  refine W_regionD tab_ok [] ?_
  simp only [push_cast, Nat.reduceAdd, Nat.reduceSub, Nat.reduceMul, Nat.reduceLeDiff, Nat.reduceLT, Nat.reduceEqDiff, ↓reduceIte, reduceCtorEq, Int.reduceBEq, Int.reduceBNe, Nat.reduceBEq, Int.reduceLE, Int.reduceLT, Int.reduceEq, Int.reduceNe, Int.reduceNeg, Nat.reduceDiv, Nat.reduceMod, Nat.reducePow, cast_lit, hN0, hN]
  refine (ok_arena_clone hy2).then ?_
  simp only [push_cast, Nat.reduceAdd, Nat.reduceSub, Nat.reduceMul, Nat.reduceLeDiff, Nat.reduceLT, Nat.reduceEqDiff, ↓reduceIte, reduceCtorEq, Int.reduceBEq, Int.reduceBNe, Nat.reduceBEq, Int.reduceLE, Int.reduceLT, Int.reduceEq, Int.reduceNe, Int.reduceNeg, Nat.reduceDiv, Nat.reduceMod, Nat.reducePow, cast_lit, hN0, hN]
  refine W_drop [2] [true] ?_
  simp only [push_cast, seval, ↓reduceIte]
  refine W_ret ?_
  try simp only [gthen, gblock]
  have h := Option.some.inj h; subst h
  refine fin_loc (.inr rfl) hU [.ref n 0] (by omega) ?_
  simp only [push_cast, Nat.reduceAdd, Nat.reduceSub, Nat.reduceMul, Nat.reduceLeDiff, Nat.reduceLT, Nat.reduceEqDiff, ↓reduceIte, reduceCtorEq, Int.reduceBEq, Int.reduceBNe, Nat.reduceBEq, Int.reduceLE, Int.reduceLT, Int.reduceEq, Int.reduceNe, Int.reduceNeg, Nat.reduceDiv, Nat.reduceMod, Nat.reducePow, cast_lit, Try.results10, hN0, hN]

theorem ok_valid_between {a0 : Int} {a1 : Int} {r : Int} {O : Objs} {n : Nat} (h : m_valid_between a0 a1 = some r) : GTo Try.prog 85 [.val (.int .i64 a0), .val (.int .i64 a1)] O n (.val (.int .i64 r)) O n := by
  unfold m_valid_between at h
  refine fn_of tab_ok Try.call85 Try.func85 rfl (Nat.le_of_ble_eq_true rfl) (Nat.le_refl _) fun hU => ?_
  have hN0 : O n = none := hU.fresh _ (Nat.le_refl _)
  have hN : ∀ k, O (n + k) = none := fun k => hU.fresh _ (Nat.le_add_right _ _)
  show W _ _ _ _ ⟨9, [], [(0, .val (.int .i64 a0)), (1, .val (.int .i64 a1))]⟩ (Loc O n []) _
  refine W_sq [0, 1] (W_regionD tab_ok [] ?_)
  simp only [push_cast, Nat.reduceAdd, Nat.reduceSub, Nat.reduceMul, Nat.reduceLeDiff, Nat.reduceLT, Nat.reduceEqDiff, ↓reduceIte, reduceCtorEq, Int.reduceBEq, Int.reduceBNe, Nat.reduceBEq, Int.reduceLE, Int.reduceLT, Int.reduceEq, Int.reduceNe, Int.reduceNeg, Nat.reduceDiv, Nat.reduceMod, Nat.reducePow, cast_lit, hN0, hN]
  refine W_sq [4] (W_regionD tab_ok [] ?_)
  simp only [push_cast, Nat.reduceAdd, Nat.reduceSub, Nat.reduceMul, Nat.reduceLeDiff, Nat.reduceLT, Nat.reduceEqDiff, ↓reduceIte, reduceCtorEq, Int.reduceBEq, Int.reduceBNe, Nat.reduceBEq, Int.reduceLE, Int.reduceLT, Int.reduceEq, Int.reduceNe, Int.reduceNeg, Nat.reduceDiv, Nat.reduceMod, Nat.reducePow, cast_lit, hN0, hN]
  refine W_ret ?_
  try simp only [gthen, gblock]
  have h := Option.some.inj h; subst h
  refine fin_loc (.inr rfl) hU [.val (.int .i64 (if a1 < (if a0 < 0 then 0 else a0) then a1 else (if a0 < 0 then 0 else a0)))] (by omega) ?_
  simp only [push_cast, Nat.reduceAdd, Nat.reduceSub, Nat.reduceMul, Nat.reduceLeDiff, Nat.reduceLT, Nat.reduceEqDiff, ↓reduceIte, reduceCtorEq, Int.reduceBEq, Int.reduceBNe, Nat.reduceBEq, Int.reduceLE, Int.reduceLT, Int.reduceEq, Int.reduceNe, Int.reduceNeg, Nat.reduceDiv, Nat.reduceMod, Nat.reducePow, cast_lit, Try.results85, hN0, hN]

theorem ok_valid_Limits {a0 : S_api_Limits} {r : S_api_Limits} {O : Objs} {n : Nat} (h : m_valid_Limits a0 = some r) : GTo Try.prog 54 [.agg [.val (.int .i64 a0.Depth), .val (.int .i64 a0.Weight), .val (.int .i64 a0.MaxD), .val (.int .i64 a0.MaxOut)]] O n (.agg [.val (.int .i64 r.Depth), .val (.int .i64 r.Weight), .val (.int .i64 r.MaxD), .val (.int .i64 r.MaxOut)]) O n := by
  unfold m_valid_Limits at h
  refine fn_of tab_ok Try.call54 Try.func54 rfl (Nat.le_of_ble_eq_true rfl) (Nat.le_refl _) fun hU => ?_
  have hN0 : O n = none := hU.fresh _ (Nat.le_refl _)
  have hN : ∀ k, O (n + k) = none := fun k => hU.fresh _ (Nat.le_add_right _ _)
  show W _ _ _ _ ⟨16, [], [(0, .agg [.val (.int .i64 a0.Depth), .val (.int .i64 a0.Weight), .val (.int .i64 a0.MaxD), .val (.int .i64 a0.MaxOut)])]⟩ (Loc O n []) _
  refine W_sq [1, 2] (W_regionD tab_ok [] ?_)
  simp only [push_cast, Nat.reduceAdd, Nat.reduceSub, Nat.reduceMul, Nat.reduceLeDiff, Nat.reduceLT, Nat.reduceEqDiff, ↓reduceIte, reduceCtorEq, Int.reduceBEq, Int.reduceBNe, Nat.reduceBEq, Int.reduceLE, Int.reduceLT, Int.reduceEq, Int.reduceNe, Int.reduceNeg, Nat.reduceDiv, Nat.reduceMod, Nat.reducePow, cast_lit, hN0, hN]
  refine W_seqK ?_
  obtain ⟨y5, hy5, h⟩ := bC h
  obtain ⟨y6, hy6, h⟩ := bC h
  obtain ⟨y7, hy7, h⟩ := bC h
  obtain ⟨y8, hy8, h⟩ := bC h
  refine W_drawF tab_ok (by kernel_rfl) [false, false, false, false, false, false, false, false, false, false, false, false, false, true] [] (by kernel_rfl) ?_
  simp only [push_cast, Nat.reduceAdd, Nat.reduceSub, Nat.reduceMul, Nat.reduceLeDiff, Nat.reduceLT, Nat.reduceEqDiff, ↓reduceIte, reduceCtorEq, Int.reduceBEq, Int.reduceBNe, Nat.reduceBEq, Int.reduceLE, Int.reduceLT, Int.reduceEq, Int.reduceNe, Int.reduceNeg, Nat.reduceDiv, Nat.reduceMod, Nat.reducePow, cast_lit, hN0, hN]
  refine PCall.of (ok_valid_between hy5) ?_
  simp only [push_cast, Nat.reduceAdd, Nat.reduceSub, Nat.reduceMul, Nat.reduceLeDiff, Nat.reduceLT, Nat.reduceEqDiff, ↓reduceIte, reduceCtorEq, Int.reduceBEq, Int.reduceBNe, Nat.reduceBEq, Int.reduceLE, Int.reduceLT, Int.reduceEq, Int.reduceNe, Int.reduceNeg, Nat.reduceDiv, Nat.reduceMod, Nat.reducePow, cast_lit, hN0, hN]
  refine PCall.of (ok_valid_between hy6) ?_
  simp only [push_cast, Nat.reduceAdd, Nat.reduceSub, Nat.reduceMul, Nat.reduceLeDiff, Nat.reduceLT, Nat.reduceEqDiff, ↓reduceIte, reduceCtorEq, Int.reduceBEq, Int.reduceBNe, Nat.reduceBEq, Int.reduceLE, Int.reduceLT, Int.reduceEq, Int.reduceNe, Int.reduceNeg, Nat.reduceDiv, Nat.reduceMod, Nat.reducePow, cast_lit, hN0, hN]
  refine PCall.of (ok_valid_between hy7) ?_
  simp only [push_cast, Nat.reduceAdd, Nat.reduceSub, Nat.reduceMul, Nat.reduceLeDiff, Nat.reduceLT, Nat.reduceEqDiff, ↓reduceIte, reduceCtorEq, Int.reduceBEq, Int.reduceBNe, Nat.reduceBEq, Int.reduceLE, Int.reduceLT, Int.reduceEq, Int.reduceNe, Int.reduceNeg, Nat.reduceDiv, Nat.reduceMod, Nat.reducePow, cast_lit, hN0, hN]
  refine PCall.of (ok_valid_between hy8) ?_
  simp only [push_cast, Nat.reduceAdd, Nat.reduceSub, Nat.reduceMul, Nat.reduceLeDiff, Nat.reduceLT, Nat.reduceEqDiff, ↓reduceIte, reduceCtorEq, Int.reduceBEq, Int.reduceBNe, Nat.reduceBEq, Int.reduceLE, Int.reduceLT, Int.reduceEq, Int.reduceNe, Int.reduceNeg, Nat.reduceDiv, Nat.reduceMod, Nat.reducePow, cast_lit, hN0, hN]
  refine W_drop [2] [false, true] ?_
  simp only [push_cast, seval, ↓reduceIte]
  refine W_ret ?_
  try simp only [gthen, gblock]
  have h := Option.some.inj h; subst h
  refine fin_loc (.inr rfl) hU [.agg [.val (.int .i64 y5), .val (.int .i64 y6), .val (.int .i64 y7), .val (.int .i64 y8)]] (by omega) ?_
  simp only [push_cast, Nat.reduceAdd, Nat.reduceSub, Nat.reduceMul, Nat.reduceLeDiff, Nat.reduceLT, Nat.reduceEqDiff, ↓reduceIte, reduceCtorEq, Int.reduceBEq, Int.reduceBNe, Nat.reduceBEq, Int.reduceLE, Int.reduceLT, Int.reduceEq, Int.reduceNe, Int.reduceNeg, Nat.reduceDiv, Nat.reduceMod, Nat.reducePow, cast_lit, Try.results54, hN0, hN]

theorem ok_arena_Arena_Len {a0 : (Option S_arena_Arena)} {r : Int} {O : Objs} {n : Nat} (h : m_arena_Arena_Len a0 = some r) : GTo Try.prog 137 [(gP e_S_arena_Arena a0)] O n (.val (.int .i64 r)) O n := by
  unfold m_arena_Arena_Len at h
  refine fn_of tab_ok Try.call137 Try.func137 rfl (Nat.le_of_ble_eq_true rfl) (Nat.le_refl _) fun hU => ?_
  have hN0 : O n = none := hU.fresh _ (Nat.le_refl _)
  have hN : ∀ k, O (n + k) = none := fun k => hU.fresh _ (Nat.le_add_right _ _)
  show W _ _ _ _ ⟨10, [], [(0, (gP e_S_arena_Arena a0))]⟩ (Loc O n []) _
  refine W_sq [0] (W_regionD tab_ok [] ?_)
  simp only [push_cast, Nat.reduceAdd, Nat.reduceSub, Nat.reduceMul, Nat.reduceLeDiff, Nat.reduceLT, Nat.reduceEqDiff, ↓reduceIte, reduceCtorEq, Int.reduceBEq, Int.reduceBNe, Nat.reduceBEq, Int.reduceLE, Int.reduceLT, Int.reduceEq, Int.reduceNe, Int.reduceNeg, Nat.reduceDiv, Nat.reduceMod, Nat.reducePow, cast_lit, hN0, hN]
  refine W_seqK ?_
  have g2 := gbin_gP_eql (f := e_S_arena_Arena) (t := 33) tkind33 a0
  refine W_sq [0, 4] (W_regionD tab_ok [] ?_)
  simp only [push_cast, Nat.reduceAdd, Nat.reduceSub, Nat.reduceMul, Nat.reduceLeDiff, Nat.reduceLT, Nat.reduceEqDiff, ↓reduceIte, reduceCtorEq, Int.reduceBEq, Int.reduceBNe, Nat.reduceBEq, Int.reduceLE, Int.reduceLT, Int.reduceEq, Int.reduceNe, Int.reduceNeg, Nat.reduceDiv, Nat.reduceMod, Nat.reducePow, cast_lit, g2, hN0, hN]
  refine W_cond (t := (Option.isNone a0)) rfl (fun c5 => ?_) (fun c5 => ?_)
  · replace h := condT c5 h
    refine W_sq [2] (W_regionD tab_ok [] ?_)
    simp only [push_cast, Nat.reduceAdd, Nat.reduceSub, Nat.reduceMul, Nat.reduceLeDiff, Nat.reduceLT, Nat.reduceEqDiff, ↓reduceIte, reduceCtorEq, Int.reduceBEq, Int.reduceBNe, Nat.reduceBEq, Int.reduceLE, Int.reduceLT, Int.reduceEq, Int.reduceNe, Int.reduceNeg, Nat.reduceDiv, Nat.reduceMod, Nat.reducePow, cast_lit, hN0, hN]
    refine W_ret ?_
    try simp only [gthen, gblock]
    have h := Option.some.inj h; subst h
    refine fin_loc (.inr rfl) hU [.val (.int .i64 0)] (by omega) ?_
    simp only [push_cast, Nat.reduceAdd, Nat.reduceSub, Nat.reduceMul, Nat.reduceLeDiff, Nat.reduceLT, Nat.reduceEqDiff, ↓reduceIte, reduceCtorEq, Int.reduceBEq, Int.reduceBNe, Nat.reduceBEq, Int.reduceLE, Int.reduceLT, Int.reduceEq, Int.reduceNe, Int.reduceNeg, Nat.reduceDiv, Nat.reduceMod, Nat.reducePow, cast_lit, Try.results137, hN0, hN]
  · replace h := condF c5 h
    refine W_skip ?_
    try simp only [gthen, gblock]
    refine W_drop [0] [] ?_
    simp only [push_cast, seval, ↓reduceIte]
    obtain ⟨x4, hx4, h⟩ := bC h
    refine W_sq [2] (W_regionD tab_ok [] ?_)
    simp only [push_cast, Nat.reduceAdd, Nat.reduceSub, Nat.reduceMul, Nat.reduceLeDiff, Nat.reduceLT, Nat.reduceEqDiff, ↓reduceIte, reduceCtorEq, Int.reduceBEq, Int.reduceBNe, Nat.reduceBEq, Int.reduceLE, Int.reduceLT, Int.reduceEq, Int.reduceNe, Int.reduceNeg, Nat.reduceDiv, Nat.reduceMod, Nat.reducePow, cast_lit, hx4, hN0, hN]
    refine W_ret ?_
    try simp only [gthen, gblock]
    have h := Option.some.inj h; subst h
    refine fin_loc (.inr rfl) hU [.val (.int .i64 (x4.segments.length : Int))] (by omega) ?_
    simp only [push_cast, Nat.reduceAdd, Nat.reduceSub, Nat.reduceMul, Nat.reduceLeDiff, Nat.reduceLT, Nat.reduceEqDiff, ↓reduceIte, reduceCtorEq, Int.reduceBEq, Int.reduceBNe, Nat.reduceBEq, Int.reduceLE, Int.reduceLT, Int.reduceEq, Int.reduceNe, Int.reduceNeg, Nat.reduceDiv, Nat.reduceMod, Nat.reducePow, cast_lit, Try.results137, hN0, hN]

theorem ok_arena_Arena_there {a0 : (Option S_arena_Arena)} {a1 : Int} {r : Bool} {O : Objs} {n : Nat} (h : m_arena_Arena_there a0 a1 = some r) : GTo Try.prog 135 [(gP e_S_arena_Arena a0), .val (.int .i64 a1)] O n (.val (.bool r)) O n := by
  unfold m_arena_Arena_there at h
  refine fn_of tab_ok Try.call135 Try.func135 rfl (Nat.le_of_ble_eq_true rfl) (Nat.le_refl _) fun hU => ?_
  have hN0 : O n = none := hU.fresh _ (Nat.le_refl _)
  have hN : ∀ k, O (n + k) = none := fun k => hU.fresh _ (Nat.le_add_right _ _)
  show W _ _ _ _ ⟨13, [], [(0, (gP e_S_arena_Arena a0)), (1, .val (.int .i64 a1))]⟩ (Loc O n []) _
  refine W_sq [0, 1] (W_regionD tab_ok [] ?_)
  simp only [push_cast, Nat.reduceAdd, Nat.reduceSub, Nat.reduceMul, Nat.reduceLeDiff, Nat.reduceLT, Nat.reduceEqDiff, ↓reduceIte, reduceCtorEq, Int.reduceBEq, Int.reduceBNe, Nat.reduceBEq, Int.reduceLE, Int.reduceLT, Int.reduceEq, Int.reduceNe, Int.reduceNeg, Nat.reduceDiv, Nat.reduceMod, Nat.reducePow, cast_lit, hN0, hN]
  obtain ⟨z2, hz2, h⟩ := bC h
  refine W_seqN (E' := ⟨13, [], [(4, .val (.bool z2))]⟩) (O' := (Loc O n [])) (n0 := n) ?_ ?_
  · rcases Bool.eq_false_or_eq_true (decide (0 ≤ a1)) with c5 | c5
    · replace hz2 := condT c5 hz2
      obtain ⟨y4, hy4, hz2⟩ := bC hz2
      refine W_regionD tab_ok [some true, some true, some true, some true] ?_
      simp only [push_cast, Nat.reduceAdd, Nat.reduceSub, Nat.reduceMul, Nat.reduceLeDiff, Nat.reduceLT, Nat.reduceEqDiff, ↓reduceIte, reduceCtorEq, Int.reduceBEq, Int.reduceBNe, Nat.reduceBEq, Int.reduceLE, Int.reduceLT, Int.reduceEq, Int.reduceNe, Int.reduceNeg, Nat.reduceDiv, Nat.reduceMod, Nat.reducePow, cast_lit, c5, hN0, hN]
      refine (ok_arena_Arena_Len hy4).then ?_
      simp only [push_cast, Nat.reduceAdd, Nat.reduceSub, Nat.reduceMul, Nat.reduceLeDiff, Nat.reduceLT, Nat.reduceEqDiff, ↓reduceIte, reduceCtorEq, Int.reduceBEq, Int.reduceBNe, Nat.reduceBEq, Int.reduceLE, Int.reduceLT, Int.reduceEq, Int.reduceNe, Int.reduceNeg, Nat.reduceDiv, Nat.reduceMod, Nat.reducePow, cast_lit, c5, hN0, hN]
      have hz2 := Option.some.inj hz2; subst hz2
      refine And.intro rfl (Fit2.of (fit_loc hU rfl rfl ?_) (by omega))
      simp only [push_cast, Nat.reduceAdd, Nat.reduceSub, Nat.reduceMul, Nat.reduceLeDiff, Nat.reduceLT, Nat.reduceEqDiff, ↓reduceIte, reduceCtorEq, Int.reduceBEq, Int.reduceBNe, Nat.reduceBEq, Int.reduceLE, Int.reduceLT, Int.reduceEq, Int.reduceNe, Int.reduceNeg, Nat.reduceDiv, Nat.reduceMod, Nat.reducePow, cast_lit, c5, hN0, hN]
    · replace hz2 := condF c5 hz2
      refine W_regionD tab_ok [some false, some false, some false, some false] ?_
      simp only [push_cast, Nat.reduceAdd, Nat.reduceSub, Nat.reduceMul, Nat.reduceLeDiff, Nat.reduceLT, Nat.reduceEqDiff, ↓reduceIte, reduceCtorEq, Int.reduceBEq, Int.reduceBNe, Nat.reduceBEq, Int.reduceLE, Int.reduceLT, Int.reduceEq, Int.reduceNe, Int.reduceNeg, Nat.reduceDiv, Nat.reduceMod, Nat.reducePow, cast_lit, c5, hN0, hN]
      have hz2 := Option.some.inj hz2; subst hz2
      refine And.intro rfl (Fit2.of (fit_loc hU rfl rfl ?_) (by omega))
      simp only [push_cast, Nat.reduceAdd, Nat.reduceSub, Nat.reduceMul, Nat.reduceLeDiff, Nat.reduceLT, Nat.reduceEqDiff, ↓reduceIte, reduceCtorEq, Int.reduceBEq, Int.reduceBNe, Nat.reduceBEq, Int.reduceLE, Int.reduceLT, Int.reduceEq, Int.reduceNe, Int.reduceNeg, Nat.reduceDiv, Nat.reduceMod, Nat.reducePow, cast_lit, c5, hN0, hN]
  refine W_ret ?_
  try simp only [gthen, gblock]
  have h := Option.some.inj h; subst h
  refine fin_loc (.inr rfl) hU [.val (.bool z2)] (by omega) ?_
  simp only [push_cast, Nat.reduceAdd, Nat.reduceSub, Nat.reduceMul, Nat.reduceLeDiff, Nat.reduceLT, Nat.reduceEqDiff, ↓reduceIte, reduceCtorEq, Int.reduceBEq, Int.reduceBNe, Nat.reduceBEq, Int.reduceLE, Int.reduceLT, Int.reduceEq, Int.reduceNe, Int.reduceNeg, Nat.reduceDiv, Nat.reduceMod, Nat.reducePow, cast_lit, Try.results135, hN0, hN]

theorem ok_arena_Arena_Size {a0 : (Option S_arena_Arena)} {a1 : Int} {r : Int} {O : Objs} {n : Nat} (h : m_arena_Arena_Size a0 a1 = some r) : GTo Try.prog 136 [(gP e_S_arena_Arena a0), .val (.int .i64 a1)] O n (.val (.int .i64 r)) O n := by
  unfold m_arena_Arena_Size at h
  refine fn_of tab_ok Try.call136 Try.func136 rfl (Nat.le_of_ble_eq_true rfl) (Nat.le_refl _) fun hU => ?_
  have hN0 : O n = none := hU.fresh _ (Nat.le_refl _)
  have hN : ∀ k, O (n + k) = none := fun k => hU.fresh _ (Nat.le_add_right _ _)
  show W _ _ _ _ ⟨17, [], [(0, (gP e_S_arena_Arena a0)), (1, .val (.int .i64 a1))]⟩ (Loc O n []) _
  refine W_sq [0, 1] (W_regionD tab_ok [] ?_)
  simp only [push_cast, Nat.reduceAdd, Nat.reduceSub, Nat.reduceMul, Nat.reduceLeDiff, Nat.reduceLT, Nat.reduceEqDiff, ↓reduceIte, reduceCtorEq, Int.reduceBEq, Int.reduceBNe, Nat.reduceBEq, Int.reduceLE, Int.reduceLT, Int.reduceEq, Int.reduceNe, Int.reduceNeg, Nat.reduceDiv, Nat.reduceMod, Nat.reducePow, cast_lit, hN0, hN]
  refine W_seqK ?_
  refine W_seqK ?_
  obtain ⟨y2, hy2, h⟩ := bC h
  refine W_regionD tab_ok [] ?_
  simp only [push_cast, Nat.reduceAdd, Nat.reduceSub, Nat.reduceMul, Nat.reduceLeDiff, Nat.reduceLT, Nat.reduceEqDiff, ↓reduceIte, reduceCtorEq, Int.reduceBEq, Int.reduceBNe, Nat.reduceBEq, Int.reduceLE, Int.reduceLT, Int.reduceEq, Int.reduceNe, Int.reduceNeg, Nat.reduceDiv, Nat.reduceMod, Nat.reducePow, cast_lit, hN0, hN]
  refine (ok_arena_Arena_there hy2).then ?_
  simp only [push_cast, Nat.reduceAdd, Nat.reduceSub, Nat.reduceMul, Nat.reduceLeDiff, Nat.reduceLT, Nat.reduceEqDiff, ↓reduceIte, reduceCtorEq, Int.reduceBEq, Int.reduceBNe, Nat.reduceBEq, Int.reduceLE, Int.reduceLT, Int.reduceEq, Int.reduceNe, Int.reduceNeg, Nat.reduceDiv, Nat.reduceMod, Nat.reducePow, cast_lit, hN0, hN]
  refine W_drop [0, 1, 8] [] ?_
  simp only [push_cast, seval, ↓reduceIte]
  refine W_cond (t := (!y2)) rfl (fun c7 => ?_) (fun c7 => ?_)
  · replace h := condT c7 h
    refine W_sq [4] (W_regionD tab_ok [] ?_)
    simp only [push_cast, Nat.reduceAdd, Nat.reduceSub, Nat.reduceMul, Nat.reduceLeDiff, Nat.reduceLT, Nat.reduceEqDiff, ↓reduceIte, reduceCtorEq, Int.reduceBEq, Int.reduceBNe, Nat.reduceBEq, Int.reduceLE, Int.reduceLT, Int.reduceEq, Int.reduceNe, Int.reduceNeg, Nat.reduceDiv, Nat.reduceMod, Nat.reducePow, cast_lit, hN0, hN]
    refine W_ret ?_
    try simp only [gthen, gblock]
    have h := Option.some.inj h; subst h
    refine fin_loc (.inr rfl) hU [.val (.int .i64 0)] (by omega) ?_
    simp only [push_cast, Nat.reduceAdd, Nat.reduceSub, Nat.reduceMul, Nat.reduceLeDiff, Nat.reduceLT, Nat.reduceEqDiff, ↓reduceIte, reduceCtorEq, Int.reduceBEq, Int.reduceBNe, Nat.reduceBEq, Int.reduceLE, Int.reduceLT, Int.reduceEq, Int.reduceNe, Int.reduceNeg, Nat.reduceDiv, Nat.reduceMod, Nat.reducePow, cast_lit, Try.results136, hN0, hN]
  · replace h := condF c7 h
    refine W_skip ?_
    try simp only [gthen, gblock]
    refine W_drop [0, 1] [] ?_
    simp only [push_cast, seval, ↓reduceIte]
    obtain ⟨x5, hx5, h⟩ := bC h
    obtain ⟨x6, hx6, ax6, bx6, cx6, h⟩ := bE (f := (eL (eI .u64))) tab26 (fun _ => rfl) (by decide) h
    refine W_sq [4] (W_regionD tab_ok [] ?_)
    simp only [push_cast, Nat.reduceAdd, Nat.reduceSub, Nat.reduceMul, Nat.reduceLeDiff, Nat.reduceLT, Nat.reduceEqDiff, ↓reduceIte, reduceCtorEq, Int.reduceBEq, Int.reduceBNe, Nat.reduceBEq, Int.reduceLE, Int.reduceLT, Int.reduceEq, Int.reduceNe, Int.reduceNeg, Nat.reduceDiv, Nat.reduceMod, Nat.reducePow, cast_lit, hx5, ax6, bx6, cx6, hN0, hN]
    refine W_ret ?_
    try simp only [gthen, gblock]
    have h := Option.some.inj h; subst h
    refine fin_loc (.inr rfl) hU [.val (.int .i64 (x6.length : Int))] (by omega) ?_
    simp only [push_cast, Nat.reduceAdd, Nat.reduceSub, Nat.reduceMul, Nat.reduceLeDiff, Nat.reduceLT, Nat.reduceEqDiff, ↓reduceIte, reduceCtorEq, Int.reduceBEq, Int.reduceBNe, Nat.reduceBEq, Int.reduceLE, Int.reduceLT, Int.reduceEq, Int.reduceNe, Int.reduceNeg, Nat.reduceDiv, Nat.reduceMod, Nat.reducePow, cast_lit, Try.results136, hN0, hN]

theorem ok_arena_Arena_Has {a0 : (Option S_arena_Arena)} {a1 : Int} {a2 : Int} {a3 : Int} {r : Bool} {O : Objs} {n : Nat} (h : m_arena_Arena_Has a0 a1 a2 a3 = some r) : GTo Try.prog 120 [(gP e_S_arena_Arena a0), .val (.int .i64 a1), .val (.int .i64 a2), .val (.int .i64 a3)] O n (.val (.bool r)) O n := by
  unfold m_arena_Arena_Has at h
  refine fn_of tab_ok Try.call120 Try.func120 rfl (Nat.le_of_ble_eq_true rfl) (Nat.le_refl _) fun hU => ?_
  have hN0 : O n = none := hU.fresh _ (Nat.le_refl _)
  have hN : ∀ k, O (n + k) = none := fun k => hU.fresh _ (Nat.le_add_right _ _)
  show W _ _ _ _ ⟨36, [], [(0, (gP e_S_arena_Arena a0)), (1, .val (.int .i64 a1)), (2, .val (.int .i64 a2)), (3, .val (.int .i64 a3))]⟩ (Loc O n []) _
  refine W_sq [0, 1, 2, 3] (W_regionD tab_ok [] ?_)
  simp only [push_cast, Nat.reduceAdd, Nat.reduceSub, Nat.reduceMul, Nat.reduceLeDiff, Nat.reduceLT, Nat.reduceEqDiff, ↓reduceIte, reduceCtorEq, Int.reduceBEq, Int.reduceBNe, Nat.reduceBEq, Int.reduceLE, Int.reduceLT, Int.reduceEq, Int.reduceNe, Int.reduceNeg, Nat.reduceDiv, Nat.reduceMod, Nat.reducePow, cast_lit, hN0, hN]
  obtain ⟨z4, hz4, h⟩ := bC h
  refine W_seqN (E' := ⟨36, [], [(8, .val (.bool z4))]⟩) (O' := (Loc O n [])) (n0 := n) ?_ ?_
  · obtain ⟨y8, hy8, hz4⟩ := bC hz4
    rcases Bool.eq_false_or_eq_true y8 with c11 | c11
    · replace hz4 := condT c11 hz4
      rcases Bool.eq_false_or_eq_true (decide (0 ≤ a2)) with c12 | c12
      · replace hz4 := condT c12 hz4
        try rw [c12] at c11
        rcases Bool.eq_false_or_eq_true (decide (0 ≤ a3)) with c13 | c13
        · replace hz4 := condT c13 hz4
          try rw [c13] at c11
          try rw [c13] at c12
          obtain ⟨y9, hy9, hz4⟩ := bC hz4
          rcases Bool.eq_false_or_eq_true (decide (a3 ≤ y9)) with c14 | c14
          · replace hz4 := condT c14 hz4
            try rw [c14] at c11
            try rw [c14] at c12
            try rw [c14] at c13
            obtain ⟨y10, hy10, hz4⟩ := bC hz4
            refine W_regionD tab_ok [none, none, none, none, some true, some true, some true, some true, some true, some true, some true, some true, some true, some true, some true, some true] ?_
            simp only [push_cast, Nat.reduceAdd, Nat.reduceSub, Nat.reduceMul, Nat.reduceLeDiff, Nat.reduceLT, Nat.reduceEqDiff, ↓reduceIte, reduceCtorEq, Int.reduceBEq, Int.reduceBNe, Nat.reduceBEq, Int.reduceLE, Int.reduceLT, Int.reduceEq, Int.reduceNe, Int.reduceNeg, Nat.reduceDiv, Nat.reduceMod, Nat.reducePow, cast_lit, c11, c12, c13, c14, hN0, hN]
            repeat (with_reducible refine And.intro (by first | (intro h0; simp only [h0, and_self]; done) | (intro h0; simp only [h0, Bool.not_false, Bool.not_true, Bool.true_and, Bool.and_true, true_and, and_true, and_self, imp_self, implies_true, bne_iff_ne, ne_eq, beq_iff_eq]; done) | (intros; simp_all; done) | exact True.intro) ?_)
            refine (ok_arena_Arena_there hy8).then ?_
            simp only [push_cast, Nat.reduceAdd, Nat.reduceSub, Nat.reduceMul, Nat.reduceLeDiff, Nat.reduceLT, Nat.reduceEqDiff, ↓reduceIte, reduceCtorEq, Int.reduceBEq, Int.reduceBNe, Nat.reduceBEq, Int.reduceLE, Int.reduceLT, Int.reduceEq, Int.reduceNe, Int.reduceNeg, Nat.reduceDiv, Nat.reduceMod, Nat.reducePow, cast_lit, c11, c12, c13, c14, hN0, hN]
            repeat (with_reducible refine And.intro (by first | (intro h0; simp only [h0, and_self]; done) | (intro h0; simp only [h0, Bool.not_false, Bool.not_true, Bool.true_and, Bool.and_true, true_and, and_true, and_self, imp_self, implies_true, bne_iff_ne, ne_eq, beq_iff_eq]; done) | (intros; simp_all; done) | exact True.intro) ?_)
            refine (ok_arena_Arena_Size hy9).then ?_
            simp only [push_cast, Nat.reduceAdd, Nat.reduceSub, Nat.reduceMul, Nat.reduceLeDiff, Nat.reduceLT, Nat.reduceEqDiff, ↓reduceIte, reduceCtorEq, Int.reduceBEq, Int.reduceBNe, Nat.reduceBEq, Int.reduceLE, Int.reduceLT, Int.reduceEq, Int.reduceNe, Int.reduceNeg, Nat.reduceDiv, Nat.reduceMod, Nat.reducePow, cast_lit, c11, c12, c13, c14, hN0, hN]
            repeat (with_reducible refine And.intro (by first | (intro h0; simp only [h0, and_self]; done) | (intro h0; simp only [h0, Bool.not_false, Bool.not_true, Bool.true_and, Bool.and_true, true_and, and_true, and_self, imp_self, implies_true, bne_iff_ne, ne_eq, beq_iff_eq]; done) | (intros; simp_all; done) | exact True.intro) ?_)
            refine (ok_arena_Arena_Size hy10).then ?_
            simp only [push_cast, Nat.reduceAdd, Nat.reduceSub, Nat.reduceMul, Nat.reduceLeDiff, Nat.reduceLT, Nat.reduceEqDiff, ↓reduceIte, reduceCtorEq, Int.reduceBEq, Int.reduceBNe, Nat.reduceBEq, Int.reduceLE, Int.reduceLT, Int.reduceEq, Int.reduceNe, Int.reduceNeg, Nat.reduceDiv, Nat.reduceMod, Nat.reducePow, cast_lit, c11, c12, c13, c14, hN0, hN]
            repeat (with_reducible refine And.intro (by first | (intro h0; simp only [h0, and_self]; done) | (intro h0; simp only [h0, Bool.not_false, Bool.not_true, Bool.true_and, Bool.and_true, true_and, and_true, and_self, imp_self, implies_true, bne_iff_ne, ne_eq, beq_iff_eq]; done) | (intros; simp_all; done) | exact True.intro) ?_)
            have hz4 := Option.some.inj hz4; subst hz4
            refine And.intro rfl (Fit2.of (fit_loc hU rfl rfl ?_) (by omega))
            simp only [push_cast, Nat.reduceAdd, Nat.reduceSub, Nat.reduceMul, Nat.reduceLeDiff, Nat.reduceLT, Nat.reduceEqDiff, ↓reduceIte, reduceCtorEq, Int.reduceBEq, Int.reduceBNe, Nat.reduceBEq, Int.reduceLE, Int.reduceLT, Int.reduceEq, Int.reduceNe, Int.reduceNeg, Nat.reduceDiv, Nat.reduceMod, Nat.reducePow, cast_lit, c11, c12, c13, c14, hN0, hN]
          · replace hz4 := condF c14 hz4
            try rw [c14] at c11
            try rw [c14] at c12
            try rw [c14] at c13
            refine W_regionD tab_ok [none, none, none, none, some true, some true, some true, some true, some true, some false, some false, some false, some false, some false, some false, some false] ?_
            simp only [push_cast, Nat.reduceAdd, Nat.reduceSub, Nat.reduceMul, Nat.reduceLeDiff, Nat.reduceLT, Nat.reduceEqDiff, ↓reduceIte, reduceCtorEq, Int.reduceBEq, Int.reduceBNe, Nat.reduceBEq, Int.reduceLE, Int.reduceLT, Int.reduceEq, Int.reduceNe, Int.reduceNeg, Nat.reduceDiv, Nat.reduceMod, Nat.reducePow, cast_lit, c11, c12, c13, c14, hN0, hN]
            repeat (with_reducible refine And.intro (by first | (intro h0; simp only [h0, and_self]; done) | (intro h0; simp only [h0, Bool.not_false, Bool.not_true, Bool.true_and, Bool.and_true, true_and, and_true, and_self, imp_self, implies_true, bne_iff_ne, ne_eq, beq_iff_eq]; done) | (intros; simp_all; done) | exact True.intro) ?_)
            refine (ok_arena_Arena_there hy8).then ?_
            simp only [push_cast, Nat.reduceAdd, Nat.reduceSub, Nat.reduceMul, Nat.reduceLeDiff, Nat.reduceLT, Nat.reduceEqDiff, ↓reduceIte, reduceCtorEq, Int.reduceBEq, Int.reduceBNe, Nat.reduceBEq, Int.reduceLE, Int.reduceLT, Int.reduceEq, Int.reduceNe, Int.reduceNeg, Nat.reduceDiv, Nat.reduceMod, Nat.reducePow, cast_lit, c11, c12, c13, c14, hN0, hN]
            repeat (with_reducible refine And.intro (by first | (intro h0; simp only [h0, and_self]; done) | (intro h0; simp only [h0, Bool.not_false, Bool.not_true, Bool.true_and, Bool.and_true, true_and, and_true, and_self, imp_self, implies_true, bne_iff_ne, ne_eq, beq_iff_eq]; done) | (intros; simp_all; done) | exact True.intro) ?_)
            refine (ok_arena_Arena_Size hy9).then ?_
            simp only [push_cast, Nat.reduceAdd, Nat.reduceSub, Nat.reduceMul, Nat.reduceLeDiff, Nat.reduceLT, Nat.reduceEqDiff, ↓reduceIte, reduceCtorEq, Int.reduceBEq, Int.reduceBNe, Nat.reduceBEq, Int.reduceLE, Int.reduceLT, Int.reduceEq, Int.reduceNe, Int.reduceNeg, Nat.reduceDiv, Nat.reduceMod, Nat.reducePow, cast_lit, c11, c12, c13, c14, hN0, hN]
            repeat (with_reducible refine And.intro (by first | (intro h0; simp only [h0, and_self]; done) | (intro h0; simp only [h0, Bool.not_false, Bool.not_true, Bool.true_and, Bool.and_true, true_and, and_true, and_self, imp_self, implies_true, bne_iff_ne, ne_eq, beq_iff_eq]; done) | (intros; simp_all; done) | exact True.intro) ?_)
            have hz4 := Option.some.inj hz4; subst hz4
            refine And.intro rfl (Fit2.of (fit_loc hU rfl rfl ?_) (by omega))
            simp only [push_cast, Nat.reduceAdd, Nat.reduceSub, Nat.reduceMul, Nat.reduceLeDiff, Nat.reduceLT, Nat.reduceEqDiff, ↓reduceIte, reduceCtorEq, Int.reduceBEq, Int.reduceBNe, Nat.reduceBEq, Int.reduceLE, Int.reduceLT, Int.reduceEq, Int.reduceNe, Int.reduceNeg, Nat.reduceDiv, Nat.reduceMod, Nat.reducePow, cast_lit, c11, c12, c13, c14, hN0, hN]
        · replace hz4 := condF c13 hz4
          try rw [c13] at c11
          try rw [c13] at c12
          refine W_regionD tab_ok [none, none, none, none, some false, some false, some false, some false, some false, some false, some false, some false, some false, some false, some false, some false] ?_
          simp only [push_cast, Nat.reduceAdd, Nat.reduceSub, Nat.reduceMul, Nat.reduceLeDiff, Nat.reduceLT, Nat.reduceEqDiff, ↓reduceIte, reduceCtorEq, Int.reduceBEq, Int.reduceBNe, Nat.reduceBEq, Int.reduceLE, Int.reduceLT, Int.reduceEq, Int.reduceNe, Int.reduceNeg, Nat.reduceDiv, Nat.reduceMod, Nat.reducePow, cast_lit, c11, c12, c13, hN0, hN]
          repeat (with_reducible refine And.intro (by first | (intro h0; simp only [h0, and_self]; done) | (intro h0; simp only [h0, Bool.not_false, Bool.not_true, Bool.true_and, Bool.and_true, true_and, and_true, and_self, imp_self, implies_true, bne_iff_ne, ne_eq, beq_iff_eq]; done) | (intros; simp_all; done) | exact True.intro) ?_)
          refine (ok_arena_Arena_there hy8).then ?_
          simp only [push_cast, Nat.reduceAdd, Nat.reduceSub, Nat.reduceMul, Nat.reduceLeDiff, Nat.reduceLT, Nat.reduceEqDiff, ↓reduceIte, reduceCtorEq, Int.reduceBEq, Int.reduceBNe, Nat.reduceBEq, Int.reduceLE, Int.reduceLT, Int.reduceEq, Int.reduceNe, Int.reduceNeg, Nat.reduceDiv, Nat.reduceMod, Nat.reducePow, cast_lit, c11, c12, c13, hN0, hN]
          repeat (with_reducible refine And.intro (by first | (intro h0; simp only [h0, and_self]; done) | (intro h0; simp only [h0, Bool.not_false, Bool.not_true, Bool.true_and, Bool.and_true, true_and, and_true, and_self, imp_self, implies_true, bne_iff_ne, ne_eq, beq_iff_eq]; done) | (intros; simp_all; done) | exact True.intro) ?_)
          have hz4 := Option.some.inj hz4; subst hz4
          refine And.intro rfl (Fit2.of (fit_loc hU rfl rfl ?_) (by omega))
          simp only [push_cast, Nat.reduceAdd, Nat.reduceSub, Nat.reduceMul, Nat.reduceLeDiff, Nat.reduceLT, Nat.reduceEqDiff, ↓reduceIte, reduceCtorEq, Int.reduceBEq, Int.reduceBNe, Nat.reduceBEq, Int.reduceLE, Int.reduceLT, Int.reduceEq, Int.reduceNe, Int.reduceNeg, Nat.reduceDiv, Nat.reduceMod, Nat.reducePow, cast_lit, c11, c12, c13, hN0, hN]
      · replace hz4 := condF c12 hz4
        try rw [c12] at c11
        refine W_regionD tab_ok [none, none, none, none, some false, some false, some false, some false, some false, some false, some false, some false, some false, some false, some false, some false] ?_
        simp only [push_cast, Nat.reduceAdd, Nat.reduceSub, Nat.reduceMul, Nat.reduceLeDiff, Nat.reduceLT, Nat.reduceEqDiff, ↓reduceIte, reduceCtorEq, Int.reduceBEq, Int.reduceBNe, Nat.reduceBEq, Int.reduceLE, Int.reduceLT, Int.reduceEq, Int.reduceNe, Int.reduceNeg, Nat.reduceDiv, Nat.reduceMod, Nat.reducePow, cast_lit, c11, c12, hN0, hN]
        repeat (with_reducible refine And.intro (by first | (intro h0; simp only [h0, and_self]; done) | (intro h0; simp only [h0, Bool.not_false, Bool.not_true, Bool.true_and, Bool.and_true, true_and, and_true, and_self, imp_self, implies_true, bne_iff_ne, ne_eq, beq_iff_eq]; done) | (intros; simp_all; done) | exact True.intro) ?_)
        refine (ok_arena_Arena_there hy8).then ?_
        simp only [push_cast, Nat.reduceAdd, Nat.reduceSub, Nat.reduceMul, Nat.reduceLeDiff, Nat.reduceLT, Nat.reduceEqDiff, ↓reduceIte, reduceCtorEq, Int.reduceBEq, Int.reduceBNe, Nat.reduceBEq, Int.reduceLE, Int.reduceLT, Int.reduceEq, Int.reduceNe, Int.reduceNeg, Nat.reduceDiv, Nat.reduceMod, Nat.reducePow, cast_lit, c11, c12, hN0, hN]
        repeat (with_reducible refine And.intro (by first | (intro h0; simp only [h0, and_self]; done) | (intro h0; simp only [h0, Bool.not_false, Bool.not_true, Bool.true_and, Bool.and_true, true_and, and_true, and_self, imp_self, implies_true, bne_iff_ne, ne_eq, beq_iff_eq]; done) | (intros; simp_all; done) | exact True.intro) ?_)
        have hz4 := Option.some.inj hz4; subst hz4
        refine And.intro rfl (Fit2.of (fit_loc hU rfl rfl ?_) (by omega))
        simp only [push_cast, Nat.reduceAdd, Nat.reduceSub, Nat.reduceMul, Nat.reduceLeDiff, Nat.reduceLT, Nat.reduceEqDiff, ↓reduceIte, reduceCtorEq, Int.reduceBEq, Int.reduceBNe, Nat.reduceBEq, Int.reduceLE, Int.reduceLT, Int.reduceEq, Int.reduceNe, Int.reduceNeg, Nat.reduceDiv, Nat.reduceMod, Nat.reducePow, cast_lit, c11, c12, hN0, hN]
    · replace hz4 := condF c11 hz4
      refine W_regionD tab_ok [none, none, none, none, some false, some false, some false, some false, some false, some false, some false, some false, some false, some false, some false, some false] ?_
      simp only [push_cast, Nat.reduceAdd, Nat.reduceSub, Nat.reduceMul, Nat.reduceLeDiff, Nat.reduceLT, Nat.reduceEqDiff, ↓reduceIte, reduceCtorEq, Int.reduceBEq, Int.reduceBNe, Nat.reduceBEq, Int.reduceLE, Int.reduceLT, Int.reduceEq, Int.reduceNe, Int.reduceNeg, Nat.reduceDiv, Nat.reduceMod, Nat.reducePow, cast_lit, c11, hN0, hN]
      repeat (with_reducible refine And.intro (by first | (intro h0; simp only [h0, and_self]; done) | (intro h0; simp only [h0, Bool.not_false, Bool.not_true, Bool.true_and, Bool.and_true, true_and, and_true, and_self, imp_self, implies_true, bne_iff_ne, ne_eq, beq_iff_eq]; done) | (intros; simp_all; done) | exact True.intro) ?_)
      refine (ok_arena_Arena_there hy8).then ?_
      simp only [push_cast, Nat.reduceAdd, Nat.reduceSub, Nat.reduceMul, Nat.reduceLeDiff, Nat.reduceLT, Nat.reduceEqDiff, ↓reduceIte, reduceCtorEq, Int.reduceBEq, Int.reduceBNe, Nat.reduceBEq, Int.reduceLE, Int.reduceLT, Int.reduceEq, Int.reduceNe, Int.reduceNeg, Nat.reduceDiv, Nat.reduceMod, Nat.reducePow, cast_lit, c11, hN0, hN]
      repeat (with_reducible refine And.intro (by first | (intro h0; simp only [h0, and_self]; done) | (intro h0; simp only [h0, Bool.not_false, Bool.not_true, Bool.true_and, Bool.and_true, true_and, and_true, and_self, imp_self, implies_true, bne_iff_ne, ne_eq, beq_iff_eq]; done) | (intros; simp_all; done) | exact True.intro) ?_)
      have hz4 := Option.some.inj hz4; subst hz4
      refine And.intro rfl (Fit2.of (fit_loc hU rfl rfl ?_) (by omega))
      simp only [push_cast, Nat.reduceAdd, Nat.reduceSub, Nat.reduceMul, Nat.reduceLeDiff, Nat.reduceLT, Nat.reduceEqDiff, ↓reduceIte, reduceCtorEq, Int.reduceBEq, Int.reduceBNe, Nat.reduceBEq, Int.reduceLE, Int.reduceLT, Int.reduceEq, Int.reduceNe, Int.reduceNeg, Nat.reduceDiv, Nat.reduceMod, Nat.reducePow, cast_lit, c11, hN0, hN]
  refine W_ret ?_
  try simp only [gthen, gblock]
  have h := Option.some.inj h; subst h
  refine fin_loc (.inr rfl) hU [.val (.bool z4)] (by omega) ?_
  simp only [push_cast, Nat.reduceAdd, Nat.reduceSub, Nat.reduceMul, Nat.reduceLeDiff, Nat.reduceLT, Nat.reduceEqDiff, ↓reduceIte, reduceCtorEq, Int.reduceBEq, Int.reduceBNe, Nat.reduceBEq, Int.reduceLE, Int.reduceLT, Int.reduceEq, Int.reduceNe, Int.reduceNeg, Nat.reduceDiv, Nat.reduceMod, Nat.reducePow, cast_lit, Try.results120, hN0, hN]

theorem ok_arena_Arena_Get {a0 : (Option S_arena_Arena)} {a1 : Int} {a2 : Int} {r : (Int × Bool)} {O : Objs} {n : Nat} (h : m_arena_Arena_Get a0 a1 a2 = some r) : GTo Try.prog 84 [(gP e_S_arena_Arena a0), .val (.int .i64 a1), .val (.int .i64 a2)] O n (.tup [.val (.int .u64 r.1), .val (.bool r.2)]) O n := by
  unfold m_arena_Arena_Get at h
  refine fn_of tab_ok Try.call84 Try.func84 rfl (Nat.le_of_ble_eq_true rfl) (Nat.le_refl _) fun hU => ?_
  have hN0 : O n = none := hU.fresh _ (Nat.le_refl _)
  have hN : ∀ k, O (n + k) = none := fun k => hU.fresh _ (Nat.le_add_right _ _)
  show W _ _ _ _ ⟨23, [], [(0, (gP e_S_arena_Arena a0)), (1, .val (.int .i64 a1)), (2, .val (.int .i64 a2))]⟩ (Loc O n []) _
  refine W_sq [0, 1, 2] (W_regionD tab_ok [] ?_)
  simp only [push_cast, Nat.reduceAdd, Nat.reduceSub, Nat.reduceMul, Nat.reduceLeDiff, Nat.reduceLT, Nat.reduceEqDiff, ↓reduceIte, reduceCtorEq, Int.reduceBEq, Int.reduceBNe, Nat.reduceBEq, Int.reduceLE, Int.reduceLT, Int.reduceEq, Int.reduceNe, Int.reduceNeg, Nat.reduceDiv, Nat.reduceMod, Nat.reducePow, cast_lit, hN0, hN]
  refine W_seqK ?_
  refine W_seqK ?_
  obtain ⟨y2, hy2, h⟩ := bC h
  refine W_regionD tab_ok [] ?_
  simp only [push_cast, Nat.reduceAdd, Nat.reduceSub, Nat.reduceMul, Nat.reduceLeDiff, Nat.reduceLT, Nat.reduceEqDiff, ↓reduceIte, reduceCtorEq, Int.reduceBEq, Int.reduceBNe, Nat.reduceBEq, Int.reduceLE, Int.reduceLT, Int.reduceEq, Int.reduceNe, Int.reduceNeg, Nat.reduceDiv, Nat.reduceMod, Nat.reducePow, cast_lit, hN0, hN]
  refine (ok_arena_Arena_Has hy2).then ?_
  simp only [push_cast, Nat.reduceAdd, Nat.reduceSub, Nat.reduceMul, Nat.reduceLeDiff, Nat.reduceLT, Nat.reduceEqDiff, ↓reduceIte, reduceCtorEq, Int.reduceBEq, Int.reduceBNe, Nat.reduceBEq, Int.reduceLE, Int.reduceLT, Int.reduceEq, Int.reduceNe, Int.reduceNeg, Nat.reduceDiv, Nat.reduceMod, Nat.reducePow, cast_lit, hN0, hN]
  refine W_drop [0, 1, 2, 12] [] ?_
  simp only [push_cast, seval, ↓reduceIte]
  refine W_cond (t := (!y2)) rfl (fun c9 => ?_) (fun c9 => ?_)
  · replace h := condT c9 h
    refine W_sq [6, 7] (W_regionD tab_ok [] ?_)
    simp only [push_cast, Nat.reduceAdd, Nat.reduceSub, Nat.reduceMul, Nat.reduceLeDiff, Nat.reduceLT, Nat.reduceEqDiff, ↓reduceIte, reduceCtorEq, Int.reduceBEq, Int.reduceBNe, Nat.reduceBEq, Int.reduceLE, Int.reduceLT, Int.reduceEq, Int.reduceNe, Int.reduceNeg, Nat.reduceDiv, Nat.reduceMod, Nat.reducePow, cast_lit, hN0, hN]
    refine W_ret ?_
    try simp only [gthen, gblock]
    have h := Option.some.inj h; subst h
    refine fin_loc (.inr rfl) hU [.val (.int .u64 0), .val (.bool false)] (by omega) ?_
    simp only [push_cast, Nat.reduceAdd, Nat.reduceSub, Nat.reduceMul, Nat.reduceLeDiff, Nat.reduceLT, Nat.reduceEqDiff, ↓reduceIte, reduceCtorEq, Int.reduceBEq, Int.reduceBNe, Nat.reduceBEq, Int.reduceLE, Int.reduceLT, Int.reduceEq, Int.reduceNe, Int.reduceNeg, Nat.reduceDiv, Nat.reduceMod, Nat.reducePow, cast_lit, Try.results84, hN0, hN]
  · replace h := condF c9 h
    refine W_skip ?_
    try simp only [gthen, gblock]
    refine W_drop [0, 1, 2] [] ?_
    simp only [push_cast, seval, ↓reduceIte]
    obtain ⟨x6, hx6, h⟩ := bC h
    obtain ⟨x7, hx7, ax7, bx7, cx7, h⟩ := bE (f := (eL (eI .u64))) tab26 (fun _ => rfl) (by decide) h
    obtain ⟨x8, hx8, ax8, bx8, cx8, h⟩ := bE (f := (eI .u64)) tab63 (fun _ => rfl) (by decide) h
    refine W_sq [6, 7] (W_regionD tab_ok [] ?_)
    simp only [push_cast, Nat.reduceAdd, Nat.reduceSub, Nat.reduceMul, Nat.reduceLeDiff, Nat.reduceLT, Nat.reduceEqDiff, ↓reduceIte, reduceCtorEq, Int.reduceBEq, Int.reduceBNe, Nat.reduceBEq, Int.reduceLE, Int.reduceLT, Int.reduceEq, Int.reduceNe, Int.reduceNeg, Nat.reduceDiv, Nat.reduceMod, Nat.reducePow, cast_lit, hx6, ax7, bx7, cx7, ax8, bx8, cx8, hN0, hN]
    refine W_ret ?_
    try simp only [gthen, gblock]
    have h := Option.some.inj h; subst h
    refine fin_loc (.inr rfl) hU [.val (.int .u64 x8), .val (.bool true)] (by omega) ?_
    simp only [push_cast, Nat.reduceAdd, Nat.reduceSub, Nat.reduceMul, Nat.reduceLeDiff, Nat.reduceLT, Nat.reduceEqDiff, ↓reduceIte, reduceCtorEq, Int.reduceBEq, Int.reduceBNe, Nat.reduceBEq, Int.reduceLE, Int.reduceLT, Int.reduceEq, Int.reduceNe, Int.reduceNeg, Nat.reduceDiv, Nat.reduceMod, Nat.reducePow, cast_lit, Try.results84, hN0, hN]

theorem ok_ptr_offset {a0 : Int} {r : Int} {O : Objs} {n : Nat} (h : m_ptr_offset a0 = some r) : GTo Try.prog 123 [.val (.int .u64 a0)] O n (.val (.int .i64 r)) O n := by
  unfold m_ptr_offset at h
  refine fn_of tab_ok Try.call123 Try.func123 rfl (Nat.le_of_ble_eq_true rfl) (Nat.le_refl _) fun hU => ?_
  have hN0 : O n = none := hU.fresh _ (Nat.le_refl _)
  have hN : ∀ k, O (n + k) = none := fun k => hU.fresh _ (Nat.le_add_right _ _)
  show W _ _ _ _ ⟨8, [], [(0, .val (.int .u64 a0))]⟩ (Loc O n []) _
  refine W_sq [0] (W_regionD tab_ok [] ?_)
  simp only [push_cast, Nat.reduceAdd, Nat.reduceSub, Nat.reduceMul, Nat.reduceLeDiff, Nat.reduceLT, Nat.reduceEqDiff, ↓reduceIte, reduceCtorEq, Int.reduceBEq, Int.reduceBNe, Nat.reduceBEq, Int.reduceLE, Int.reduceLT, Int.reduceEq, Int.reduceNe, Int.reduceNeg, Nat.reduceDiv, Nat.reduceMod, Nat.reducePow, cast_lit, hN0, hN]
  refine W_sq [2] (W_regionD tab_ok [] ?_)
  simp only [push_cast, Nat.reduceAdd, Nat.reduceSub, Nat.reduceMul, Nat.reduceLeDiff, Nat.reduceLT, Nat.reduceEqDiff, ↓reduceIte, reduceCtorEq, Int.reduceBEq, Int.reduceBNe, Nat.reduceBEq, Int.reduceLE, Int.reduceLT, Int.reduceEq, Int.reduceNe, Int.reduceNeg, Nat.reduceDiv, Nat.reduceMod, Nat.reducePow, cast_lit, hN0, hN]
  refine W_ret ?_
  try simp only [gthen, gblock]
  have h := Option.some.inj h; subst h
  refine fin_loc (.inr rfl) hU [.val (.int .i64 (IntKind.i64.wrap (Int.fdiv (IntKind.i32.wrap (IntKind.u32.wrap a0)) (2 ^ min (Int.toNat 2) 32))))] (by omega) ?_
  simp only [push_cast, Nat.reduceAdd, Nat.reduceSub, Nat.reduceMul, Nat.reduceLeDiff, Nat.reduceLT, Nat.reduceEqDiff, ↓reduceIte, reduceCtorEq, Int.reduceBEq, Int.reduceBNe, Nat.reduceBEq, Int.reduceLE, Int.reduceLT, Int.reduceEq, Int.reduceNe, Int.reduceNeg, Nat.reduceDiv, Nat.reduceMod, Nat.reducePow, cast_lit, Try.results123, hN0, hN]

theorem ok_ptr_field {a0 : Int} {a1 : Int} {a2 : Int} {r : Int} {O : Objs} {n : Nat} (h : m_ptr_field a0 a1 a2 = some r) : GTo Try.prog 124 [.val (.int .u64 a0), .val (.int .i64 a1), .val (.int .i64 a2)] O n (.val (.int .i64 r)) O n := by
  unfold m_ptr_field at h
  refine fn_of tab_ok Try.call124 Try.func124 rfl (Nat.le_of_ble_eq_true rfl) (Nat.le_refl _) fun hU => ?_
  have hN0 : O n = none := hU.fresh _ (Nat.le_refl _)
  have hN : ∀ k, O (n + k) = none := fun k => hU.fresh _ (Nat.le_add_right _ _)
  show W _ _ _ _ ⟨15, [], [(0, .val (.int .u64 a0)), (1, .val (.int .i64 a1)), (2, .val (.int .i64 a2))]⟩ (Loc O n []) _
  refine W_sq [0, 1, 2] (W_regionD tab_ok [] ?_)
  simp only [push_cast, Nat.reduceAdd, Nat.reduceSub, Nat.reduceMul, Nat.reduceLeDiff, Nat.reduceLT, Nat.reduceEqDiff, ↓reduceIte, reduceCtorEq, Int.reduceBEq, Int.reduceBNe, Nat.reduceBEq, Int.reduceLE, Int.reduceLT, Int.reduceEq, Int.reduceNe, Int.reduceNeg, Nat.reduceDiv, Nat.reduceMod, Nat.reducePow, cast_lit, hN0, hN]
  obtain ⟨pu3, h⟩ := bG h
  obtain ⟨pu4, h⟩ := bG h
  refine W_sq [6] (W_drawD tab_ok (by kernel_rfl) [] (by kernel_rfl) ?_)
  simp only [push_cast, Nat.reduceAdd, Nat.reduceSub, Nat.reduceMul, Nat.reduceLeDiff, Nat.reduceLT, Nat.reduceEqDiff, ↓reduceIte, reduceCtorEq, Int.reduceBEq, Int.reduceBNe, Nat.reduceBEq, Int.reduceLE, Int.reduceLT, Int.reduceEq, Int.reduceNe, Int.reduceNeg, Nat.reduceDiv, Nat.reduceMod, Nat.reducePow, cast_lit, pu3, pu4, hN0, hN]
  refine W_ret ?_
  try simp only [gthen, gblock]
  have h := Option.some.inj h; subst h
  refine fin_loc (.inr rfl) hU [.val (.int .i64 (IntKind.i64.wrap (IntKind.u64.wrap (landI .u64 (Int.fdiv a0 (2 ^ min (Int.toNat a1) 64)) (IntKind.u64.wrap ((IntKind.u64.wrap (1 * 2 ^ min (Int.toNat a2) 64)) - 1))))))] (by omega) ?_
  simp only [push_cast, Nat.reduceAdd, Nat.reduceSub, Nat.reduceMul, Nat.reduceLeDiff, Nat.reduceLT, Nat.reduceEqDiff, ↓reduceIte, reduceCtorEq, Int.reduceBEq, Int.reduceBNe, Nat.reduceBEq, Int.reduceLE, Int.reduceLT, Int.reduceEq, Int.reduceNe, Int.reduceNeg, Nat.reduceDiv, Nat.reduceMod, Nat.reducePow, cast_lit, Try.results124, hN0, hN]

theorem ok_ptr_Decode {a0 : Int} {r : S_ptr_Ptr} {O : Objs} {n : Nat} (h : m_ptr_Decode a0 = some r) : GTo Try.prog 102 [.val (.int .u64 a0)] O n (.agg [.val (.int .i64 r.Kind), .val (.int .i64 r.Off), .val (.int .i64 r.Data), .val (.int .i64 r.Ptrs), .val (.int .i64 r.Code), .val (.int .i64 r.Count), .val (.int .i64 r.Segment), .val (.bool r.Double)]) O n := by
  unfold m_ptr_Decode at h
  refine fn_of tab_ok Try.call102 Try.func102 rfl (Nat.le_of_ble_eq_true rfl) (Nat.le_refl _) fun hU => ?_
  have hN0 : O n = none := hU.fresh _ (Nat.le_refl _)
  have hN : ∀ k, O (n + k) = none := fun k => hU.fresh _ (Nat.le_add_right _ _)
  show W _ _ _ _ ⟨38, [], [(0, .val (.int .u64 a0))]⟩ (Loc O n []) _
  refine W_sq [0, 2] (W_regionD tab_ok [] ?_)
  simp only [push_cast, Nat.reduceAdd, Nat.reduceSub, Nat.reduceMul, Nat.reduceLeDiff, Nat.reduceLT, Nat.reduceEqDiff, ↓reduceIte, reduceCtorEq, Int.reduceBEq, Int.reduceBNe, Nat.reduceBEq, Int.reduceLE, Int.reduceLT, Int.reduceEq, Int.reduceNe, Int.reduceNeg, Nat.reduceDiv, Nat.reduceMod, Nat.reducePow, cast_lit, hN0, hN]
  refine W_seqK ?_
  refine W_sq [0, 2, 4] (W_regionD tab_ok [] ?_)
  simp only [push_cast, Nat.reduceAdd, Nat.reduceSub, Nat.reduceMul, Nat.reduceLeDiff, Nat.reduceLT, Nat.reduceEqDiff, ↓reduceIte, reduceCtorEq, Int.reduceBEq, Int.reduceBNe, Nat.reduceBEq, Int.reduceLE, Int.reduceLT, Int.reduceEq, Int.reduceNe, Int.reduceNeg, Nat.reduceDiv, Nat.reduceMod, Nat.reducePow, cast_lit, hN0, hN]
  refine W_cond (t := (a0 == 0)) rfl (fun c20 => ?_) (fun c20 => ?_)
  · replace h := condT c20 h
    refine W_seqK ?_
    refine W_regionD tab_ok [] ?_
    simp only [push_cast, Nat.reduceAdd, Nat.reduceSub, Nat.reduceMul, Nat.reduceLeDiff, Nat.reduceLT, Nat.reduceEqDiff, ↓reduceIte, reduceCtorEq, Int.reduceBEq, Int.reduceBNe, Nat.reduceBEq, Int.reduceLE, Int.reduceLT, Int.reduceEq, Int.reduceNe, Int.reduceNeg, Nat.reduceDiv, Nat.reduceMod, Nat.reducePow, cast_lit, hN0, hN]
    refine W_fit ⟨38, [], [(2, .ref n 0)]⟩ (Loc O n [some ⟨false, 93, 8, 1, [.val (.int .i64 0), .val (.int .i64 0), .val (.int .i64 0), .val (.int .i64 0), .val (.int .i64 0), .val (.int .i64 0), .val (.int .i64 0), .val (.bool false)]⟩]) (fit_loc hU rfl rfl ?_) ?_
    · simp only [push_cast, Nat.reduceAdd, Nat.reduceSub, Nat.reduceMul, Nat.reduceLeDiff, Nat.reduceLT, Nat.reduceEqDiff, ↓reduceIte, reduceCtorEq, Int.reduceBEq, Int.reduceBNe, Nat.reduceBEq, Int.reduceLE, Int.reduceLT, Int.reduceEq, Int.reduceNe, Int.reduceNeg, Nat.reduceDiv, Nat.reduceMod, Nat.reducePow, cast_lit, hN0, hN]
    refine W_ret ?_
    try simp only [gthen, gblock]
    have h := Option.some.inj h; subst h
    refine fin_loc (.inr rfl) hU [.agg [.val (.int .i64 0), .val (.int .i64 0), .val (.int .i64 0), .val (.int .i64 0), .val (.int .i64 0), .val (.int .i64 0), .val (.int .i64 0), .val (.bool false)]] (by omega) ?_
    simp only [push_cast, Nat.reduceAdd, Nat.reduceSub, Nat.reduceMul, Nat.reduceLeDiff, Nat.reduceLT, Nat.reduceEqDiff, ↓reduceIte, reduceCtorEq, Int.reduceBEq, Int.reduceBNe, Nat.reduceBEq, Int.reduceLE, Int.reduceLT, Int.reduceEq, Int.reduceNe, Int.reduceNeg, Nat.reduceDiv, Nat.reduceMod, Nat.reducePow, cast_lit, Try.results102, hN0, hN]
  · replace h := condF c20 h
    refine W_skip ?_
    try simp only [gthen, gblock]
    refine W_fit ⟨38, [], [(0, .val (.int .u64 a0)), (2, .ref n 0)]⟩ (Loc O n [some ⟨false, 93, 8, 1, [.val (.int .i64 0), .val (.int .i64 0), .val (.int .i64 0), .val (.int .i64 0), .val (.int .i64 0), .val (.int .i64 0), .val (.int .i64 0), .val (.bool false)]⟩]) (fit_loc hU rfl rfl ?_) ?_
    · simp only [push_cast, Nat.reduceAdd, Nat.reduceSub, Nat.reduceMul, Nat.reduceLeDiff, Nat.reduceLT, Nat.reduceEqDiff, ↓reduceIte, reduceCtorEq, Int.reduceBEq, Int.reduceBNe, Nat.reduceBEq, Int.reduceLE, Int.reduceLT, Int.reduceEq, Int.reduceNe, Int.reduceNeg, Nat.reduceDiv, Nat.reduceMod, Nat.reducePow, cast_lit, hN0, hN]
    refine W_seqK ?_
    refine W_sq [0, 2, 7] (W_regionD tab_ok [] ?_)
    simp only [push_cast, Nat.reduceAdd, Nat.reduceSub, Nat.reduceMul, Nat.reduceLeDiff, Nat.reduceLT, Nat.reduceEqDiff, ↓reduceIte, reduceCtorEq, Int.reduceBEq, Int.reduceBNe, Nat.reduceBEq, Int.reduceLE, Int.reduceLT, Int.reduceEq, Int.reduceNe, Int.reduceNeg, Nat.reduceDiv, Nat.reduceMod, Nat.reducePow, cast_lit, hN0, hN]
    refine W_block ?_
    refine W_sq [0, 2, 7, 8] (W_regionD tab_ok [] ?_)
    simp only [push_cast, Nat.reduceAdd, Nat.reduceSub, Nat.reduceMul, Nat.reduceLeDiff, Nat.reduceLT, Nat.reduceEqDiff, ↓reduceIte, reduceCtorEq, Int.reduceBEq, Int.reduceBNe, Nat.reduceBEq, Int.reduceLE, Int.reduceLT, Int.reduceEq, Int.reduceNe, Int.reduceNeg, Nat.reduceDiv, Nat.reduceMod, Nat.reducePow, cast_lit, hN0, hN]
    refine W_cond (t := ((IntKind.u64.wrap (landI .u64 a0 3)) == 0)) rfl (fun c19 => ?_) (fun c19 => ?_)
    · replace h := condT c19 h
      refine W_seqK ?_
      obtain ⟨y4, hy4, h⟩ := bC h
      obtain ⟨y5, hy5, h⟩ := bC h
      obtain ⟨y6, hy6, h⟩ := bC h
      refine W_regionD tab_ok [] ?_
      simp only [push_cast, Nat.reduceAdd, Nat.reduceSub, Nat.reduceMul, Nat.reduceLeDiff, Nat.reduceLT, Nat.reduceEqDiff, ↓reduceIte, reduceCtorEq, Int.reduceBEq, Int.reduceBNe, Nat.reduceBEq, Int.reduceLE, Int.reduceLT, Int.reduceEq, Int.reduceNe, Int.reduceNeg, Nat.reduceDiv, Nat.reduceMod, Nat.reducePow, cast_lit, hN0, hN]
      refine (ok_ptr_offset hy4).then ?_
      simp only [push_cast, Nat.reduceAdd, Nat.reduceSub, Nat.reduceMul, Nat.reduceLeDiff, Nat.reduceLT, Nat.reduceEqDiff, ↓reduceIte, reduceCtorEq, Int.reduceBEq, Int.reduceBNe, Nat.reduceBEq, Int.reduceLE, Int.reduceLT, Int.reduceEq, Int.reduceNe, Int.reduceNeg, Nat.reduceDiv, Nat.reduceMod, Nat.reducePow, cast_lit, hN0, hN]
      refine (ok_ptr_field hy5).then ?_
      simp only [push_cast, Nat.reduceAdd, Nat.reduceSub, Nat.reduceMul, Nat.reduceLeDiff, Nat.reduceLT, Nat.reduceEqDiff, ↓reduceIte, reduceCtorEq, Int.reduceBEq, Int.reduceBNe, Nat.reduceBEq, Int.reduceLE, Int.reduceLT, Int.reduceEq, Int.reduceNe, Int.reduceNeg, Nat.reduceDiv, Nat.reduceMod, Nat.reducePow, cast_lit, hN0, hN]
      refine (ok_ptr_field hy6).then ?_
      simp only [push_cast, Nat.reduceAdd, Nat.reduceSub, Nat.reduceMul, Nat.reduceLeDiff, Nat.reduceLT, Nat.reduceEqDiff, ↓reduceIte, reduceCtorEq, Int.reduceBEq, Int.reduceBNe, Nat.reduceBEq, Int.reduceLE, Int.reduceLT, Int.reduceEq, Int.reduceNe, Int.reduceNeg, Nat.reduceDiv, Nat.reduceMod, Nat.reducePow, cast_lit, hN0, hN]
      refine W_fit ⟨38, [], [(2, .ref n 0)]⟩ (Loc O n [some ⟨false, 93, 8, 1, [.val (.int .i64 1), .val (.int .i64 y4), .val (.int .i64 y5), .val (.int .i64 y6), .val (.int .i64 0), .val (.int .i64 0), .val (.int .i64 0), .val (.bool false)]⟩]) (fit_loc hU rfl rfl ?_) ?_
      · simp only [push_cast, Nat.reduceAdd, Nat.reduceSub, Nat.reduceMul, Nat.reduceLeDiff, Nat.reduceLT, Nat.reduceEqDiff, ↓reduceIte, reduceCtorEq, Int.reduceBEq, Int.reduceBNe, Nat.reduceBEq, Int.reduceLE, Int.reduceLT, Int.reduceEq, Int.reduceNe, Int.reduceNeg, Nat.reduceDiv, Nat.reduceMod, Nat.reducePow, cast_lit, hN0, hN]
      refine W_ret ?_
      try simp only [gthen, gblock]
      have h := Option.some.inj h; subst h
      refine fin_loc (.inr rfl) hU [.agg [.val (.int .i64 1), .val (.int .i64 y4), .val (.int .i64 y5), .val (.int .i64 y6), .val (.int .i64 0), .val (.int .i64 0), .val (.int .i64 0), .val (.bool false)]] (by omega) ?_
      simp only [push_cast, Nat.reduceAdd, Nat.reduceSub, Nat.reduceMul, Nat.reduceLeDiff, Nat.reduceLT, Nat.reduceEqDiff, ↓reduceIte, reduceCtorEq, Int.reduceBEq, Int.reduceBNe, Nat.reduceBEq, Int.reduceLE, Int.reduceLT, Int.reduceEq, Int.reduceNe, Int.reduceNeg, Nat.reduceDiv, Nat.reduceMod, Nat.reducePow, cast_lit, Try.results102, hN0, hN]
    · replace h := condF c19 h
      refine W_sq [0, 2, 7, 17] (W_regionD tab_ok [] ?_)
      simp only [push_cast, Nat.reduceAdd, Nat.reduceSub, Nat.reduceMul, Nat.reduceLeDiff, Nat.reduceLT, Nat.reduceEqDiff, ↓reduceIte, reduceCtorEq, Int.reduceBEq, Int.reduceBNe, Nat.reduceBEq, Int.reduceLE, Int.reduceLT, Int.reduceEq, Int.reduceNe, Int.reduceNeg, Nat.reduceDiv, Nat.reduceMod, Nat.reducePow, cast_lit, hN0, hN]
      refine W_cond (t := ((IntKind.u64.wrap (landI .u64 a0 3)) == 1)) rfl (fun c18 => ?_) (fun c18 => ?_)
      · replace h := condT c18 h
        refine W_seqK ?_
        obtain ⟨y10, hy10, h⟩ := bC h
        obtain ⟨y11, hy11, h⟩ := bC h
        obtain ⟨y12, hy12, h⟩ := bC h
        refine W_regionD tab_ok [] ?_
        simp only [push_cast, Nat.reduceAdd, Nat.reduceSub, Nat.reduceMul, Nat.reduceLeDiff, Nat.reduceLT, Nat.reduceEqDiff, ↓reduceIte, reduceCtorEq, Int.reduceBEq, Int.reduceBNe, Nat.reduceBEq, Int.reduceLE, Int.reduceLT, Int.reduceEq, Int.reduceNe, Int.reduceNeg, Nat.reduceDiv, Nat.reduceMod, Nat.reducePow, cast_lit, hN0, hN]
        refine (ok_ptr_offset hy10).then ?_
        simp only [push_cast, Nat.reduceAdd, Nat.reduceSub, Nat.reduceMul, Nat.reduceLeDiff, Nat.reduceLT, Nat.reduceEqDiff, ↓reduceIte, reduceCtorEq, Int.reduceBEq, Int.reduceBNe, Nat.reduceBEq, Int.reduceLE, Int.reduceLT, Int.reduceEq, Int.reduceNe, Int.reduceNeg, Nat.reduceDiv, Nat.reduceMod, Nat.reducePow, cast_lit, hN0, hN]
        refine (ok_ptr_field hy11).then ?_
        simp only [push_cast, Nat.reduceAdd, Nat.reduceSub, Nat.reduceMul, Nat.reduceLeDiff, Nat.reduceLT, Nat.reduceEqDiff, ↓reduceIte, reduceCtorEq, Int.reduceBEq, Int.reduceBNe, Nat.reduceBEq, Int.reduceLE, Int.reduceLT, Int.reduceEq, Int.reduceNe, Int.reduceNeg, Nat.reduceDiv, Nat.reduceMod, Nat.reducePow, cast_lit, hN0, hN]
        refine (ok_ptr_field hy12).then ?_
        simp only [push_cast, Nat.reduceAdd, Nat.reduceSub, Nat.reduceMul, Nat.reduceLeDiff, Nat.reduceLT, Nat.reduceEqDiff, ↓reduceIte, reduceCtorEq, Int.reduceBEq, Int.reduceBNe, Nat.reduceBEq, Int.reduceLE, Int.reduceLT, Int.reduceEq, Int.reduceNe, Int.reduceNeg, Nat.reduceDiv, Nat.reduceMod, Nat.reducePow, cast_lit, hN0, hN]
        refine W_fit ⟨38, [], [(2, .ref n 0)]⟩ (Loc O n [some ⟨false, 93, 8, 1, [.val (.int .i64 2), .val (.int .i64 y10), .val (.int .i64 0), .val (.int .i64 0), .val (.int .i64 y11), .val (.int .i64 y12), .val (.int .i64 0), .val (.bool false)]⟩]) (fit_loc hU rfl rfl ?_) ?_
        · simp only [push_cast, Nat.reduceAdd, Nat.reduceSub, Nat.reduceMul, Nat.reduceLeDiff, Nat.reduceLT, Nat.reduceEqDiff, ↓reduceIte, reduceCtorEq, Int.reduceBEq, Int.reduceBNe, Nat.reduceBEq, Int.reduceLE, Int.reduceLT, Int.reduceEq, Int.reduceNe, Int.reduceNeg, Nat.reduceDiv, Nat.reduceMod, Nat.reducePow, cast_lit, hN0, hN]
        refine W_ret ?_
        try simp only [gthen, gblock]
        have h := Option.some.inj h; subst h
        refine fin_loc (.inr rfl) hU [.agg [.val (.int .i64 2), .val (.int .i64 y10), .val (.int .i64 0), .val (.int .i64 0), .val (.int .i64 y11), .val (.int .i64 y12), .val (.int .i64 0), .val (.bool false)]] (by omega) ?_
        simp only [push_cast, Nat.reduceAdd, Nat.reduceSub, Nat.reduceMul, Nat.reduceLeDiff, Nat.reduceLT, Nat.reduceEqDiff, ↓reduceIte, reduceCtorEq, Int.reduceBEq, Int.reduceBNe, Nat.reduceBEq, Int.reduceLE, Int.reduceLT, Int.reduceEq, Int.reduceNe, Int.reduceNeg, Nat.reduceDiv, Nat.reduceMod, Nat.reducePow, cast_lit, Try.results102, hN0, hN]
      · replace h := condF c18 h
        refine W_sq [0, 2, 26] (W_regionD tab_ok [] ?_)
        simp only [push_cast, Nat.reduceAdd, Nat.reduceSub, Nat.reduceMul, Nat.reduceLeDiff, Nat.reduceLT, Nat.reduceEqDiff, ↓reduceIte, reduceCtorEq, Int.reduceBEq, Int.reduceBNe, Nat.reduceBEq, Int.reduceLE, Int.reduceLT, Int.reduceEq, Int.reduceNe, Int.reduceNeg, Nat.reduceDiv, Nat.reduceMod, Nat.reducePow, cast_lit, hN0, hN]
        refine W_cond (t := ((IntKind.u64.wrap (landI .u64 a0 3)) == 2)) rfl (fun c17 => ?_) (fun c17 => ?_)
        · replace h := condT c17 h
          refine W_seqK ?_
          obtain ⟨y15, hy15, h⟩ := bC h
          obtain ⟨y16, hy16, h⟩ := bC h
          refine W_regionD tab_ok [] ?_
          simp only [push_cast, Nat.reduceAdd, Nat.reduceSub, Nat.reduceMul, Nat.reduceLeDiff, Nat.reduceLT, Nat.reduceEqDiff, ↓reduceIte, reduceCtorEq, Int.reduceBEq, Int.reduceBNe, Nat.reduceBEq, Int.reduceLE, Int.reduceLT, Int.reduceEq, Int.reduceNe, Int.reduceNeg, Nat.reduceDiv, Nat.reduceMod, Nat.reducePow, cast_lit, hN0, hN]
          refine (ok_ptr_field hy15).then ?_
          simp only [push_cast, Nat.reduceAdd, Nat.reduceSub, Nat.reduceMul, Nat.reduceLeDiff, Nat.reduceLT, Nat.reduceEqDiff, ↓reduceIte, reduceCtorEq, Int.reduceBEq, Int.reduceBNe, Nat.reduceBEq, Int.reduceLE, Int.reduceLT, Int.reduceEq, Int.reduceNe, Int.reduceNeg, Nat.reduceDiv, Nat.reduceMod, Nat.reducePow, cast_lit, hN0, hN]
          refine (ok_ptr_field hy16).then ?_
          simp only [push_cast, Nat.reduceAdd, Nat.reduceSub, Nat.reduceMul, Nat.reduceLeDiff, Nat.reduceLT, Nat.reduceEqDiff, ↓reduceIte, reduceCtorEq, Int.reduceBEq, Int.reduceBNe, Nat.reduceBEq, Int.reduceLE, Int.reduceLT, Int.reduceEq, Int.reduceNe, Int.reduceNeg, Nat.reduceDiv, Nat.reduceMod, Nat.reducePow, cast_lit, hN0, hN]
          refine W_fit ⟨38, [], [(2, .ref n 0)]⟩ (Loc O n [some ⟨false, 93, 8, 1, [.val (.int .i64 3), .val (.int .i64 y15), .val (.int .i64 0), .val (.int .i64 0), .val (.int .i64 0), .val (.int .i64 0), .val (.int .i64 y16), .val (.bool ((IntKind.u64.wrap (landI .u64 (Int.fdiv a0 (2 ^ min (Int.toNat 2) 64)) 1)) == 1))]⟩]) (fit_loc hU rfl rfl ?_) ?_
          · simp only [push_cast, Nat.reduceAdd, Nat.reduceSub, Nat.reduceMul, Nat.reduceLeDiff, Nat.reduceLT, Nat.reduceEqDiff, ↓reduceIte, reduceCtorEq, Int.reduceBEq, Int.reduceBNe, Nat.reduceBEq, Int.reduceLE, Int.reduceLT, Int.reduceEq, Int.reduceNe, Int.reduceNeg, Nat.reduceDiv, Nat.reduceMod, Nat.reducePow, cast_lit, hN0, hN]
          refine W_ret ?_
          try simp only [gthen, gblock]
          have h := Option.some.inj h; subst h
          refine fin_loc (.inr rfl) hU [.agg [.val (.int .i64 3), .val (.int .i64 y15), .val (.int .i64 0), .val (.int .i64 0), .val (.int .i64 0), .val (.int .i64 0), .val (.int .i64 y16), .val (.bool ((IntKind.u64.wrap (landI .u64 (Int.fdiv a0 (2 ^ min (Int.toNat 2) 64)) 1)) == 1))]] (by omega) ?_
          simp only [push_cast, Nat.reduceAdd, Nat.reduceSub, Nat.reduceMul, Nat.reduceLeDiff, Nat.reduceLT, Nat.reduceEqDiff, ↓reduceIte, reduceCtorEq, Int.reduceBEq, Int.reduceBNe, Nat.reduceBEq, Int.reduceLE, Int.reduceLT, Int.reduceEq, Int.reduceNe, Int.reduceNeg, Nat.reduceDiv, Nat.reduceMod, Nat.reducePow, cast_lit, Try.results102, hN0, hN]
        · replace h := condF c17 h
          refine W_skip ?_
          try simp only [gthen, gblock]
          refine W_fit ⟨38, [], [(2, .ref n 0)]⟩ (Loc O n [some ⟨false, 93, 8, 1, [.val (.int .i64 0), .val (.int .i64 0), .val (.int .i64 0), .val (.int .i64 0), .val (.int .i64 0), .val (.int .i64 0), .val (.int .i64 0), .val (.bool false)]⟩]) (fit_loc hU rfl rfl ?_) ?_
          · simp only [push_cast, Nat.reduceAdd, Nat.reduceSub, Nat.reduceMul, Nat.reduceLeDiff, Nat.reduceLT, Nat.reduceEqDiff, ↓reduceIte, reduceCtorEq, Int.reduceBEq, Int.reduceBNe, Nat.reduceBEq, Int.reduceLE, Int.reduceLT, Int.reduceEq, Int.reduceNe, Int.reduceNeg, Nat.reduceDiv, Nat.reduceMod, Nat.reducePow, cast_lit, hN0, hN]
          refine W_seqK ?_
          refine W_regionD tab_ok [] ?_
          simp only [push_cast, Nat.reduceAdd, Nat.reduceSub, Nat.reduceMul, Nat.reduceLeDiff, Nat.reduceLT, Nat.reduceEqDiff, ↓reduceIte, reduceCtorEq, Int.reduceBEq, Int.reduceBNe, Nat.reduceBEq, Int.reduceLE, Int.reduceLT, Int.reduceEq, Int.reduceNe, Int.reduceNeg, Nat.reduceDiv, Nat.reduceMod, Nat.reducePow, cast_lit, hN0, hN]
          refine W_fit ⟨38, [], [(2, .ref n 0)]⟩ (Loc O n [some ⟨false, 93, 8, 1, [.val (.int .i64 4), .val (.int .i64 0), .val (.int .i64 0), .val (.int .i64 0), .val (.int .i64 0), .val (.int .i64 0), .val (.int .i64 0), .val (.bool false)]⟩]) (fit_loc hU rfl rfl ?_) ?_
          · simp only [push_cast, Nat.reduceAdd, Nat.reduceSub, Nat.reduceMul, Nat.reduceLeDiff, Nat.reduceLT, Nat.reduceEqDiff, ↓reduceIte, reduceCtorEq, Int.reduceBEq, Int.reduceBNe, Nat.reduceBEq, Int.reduceLE, Int.reduceLT, Int.reduceEq, Int.reduceNe, Int.reduceNeg, Nat.reduceDiv, Nat.reduceMod, Nat.reducePow, cast_lit, hN0, hN]
          refine W_ret ?_
          try simp only [gthen, gblock]
          have h := Option.some.inj h; subst h
          refine fin_loc (.inr rfl) hU [.agg [.val (.int .i64 4), .val (.int .i64 0), .val (.int .i64 0), .val (.int .i64 0), .val (.int .i64 0), .val (.int .i64 0), .val (.int .i64 0), .val (.bool false)]] (by omega) ?_
          simp only [push_cast, Nat.reduceAdd, Nat.reduceSub, Nat.reduceMul, Nat.reduceLeDiff, Nat.reduceLT, Nat.reduceEqDiff, ↓reduceIte, reduceCtorEq, Int.reduceBEq, Int.reduceBNe, Nat.reduceBEq, Int.reduceLE, Int.reduceLT, Int.reduceEq, Int.reduceNe, Int.reduceNeg, Nat.reduceDiv, Nat.reduceMod, Nat.reducePow, cast_lit, Try.results102, hN0, hN]

theorem ok_arena_Arena_Part {a0 : (Option S_arena_Arena)} {a1 : Int} {a2 : Int} {a3 : Int} {r : ((List Int) × Bool)} {O : Objs} {n : Nat} (h : m_arena_Arena_Part a0 a1 a2 a3 = some r) : GTo Try.prog 134 [(gP e_S_arena_Arena a0), .val (.int .i64 a1), .val (.int .i64 a2), .val (.int .i64 a3)] O n (.tup [.sl r.1.length (fl (eI .u64) r.1), .val (.bool r.2)]) O n := by
  unfold m_arena_Arena_Part at h
  refine fn_of tab_ok Try.call134 Try.func134 rfl (Nat.le_of_ble_eq_true rfl) (Nat.le_refl _) fun hU => ?_
  have hN0 : O n = none := hU.fresh _ (Nat.le_refl _)
  have hN : ∀ k, O (n + k) = none := fun k => hU.fresh _ (Nat.le_add_right _ _)
  show W _ _ _ _ ⟨29, [], [(0, (gP e_S_arena_Arena a0)), (1, .val (.int .i64 a1)), (2, .val (.int .i64 a2)), (3, .val (.int .i64 a3))]⟩ (Loc O n []) _
  refine W_sq [0, 1, 2, 3] (W_regionD tab_ok [] ?_)
  simp only [push_cast, Nat.reduceAdd, Nat.reduceSub, Nat.reduceMul, Nat.reduceLeDiff, Nat.reduceLT, Nat.reduceEqDiff, ↓reduceIte, reduceCtorEq, Int.reduceBEq, Int.reduceBNe, Nat.reduceBEq, Int.reduceLE, Int.reduceLT, Int.reduceEq, Int.reduceNe, Int.reduceNeg, Nat.reduceDiv, Nat.reduceMod, Nat.reducePow, cast_lit, hN0, hN]
  refine W_seqK ?_
  refine W_seqK ?_
  obtain ⟨y2, hy2, h⟩ := bC h
  refine W_regionD tab_ok [] ?_
  simp only [push_cast, Nat.reduceAdd, Nat.reduceSub, Nat.reduceMul, Nat.reduceLeDiff, Nat.reduceLT, Nat.reduceEqDiff, ↓reduceIte, reduceCtorEq, Int.reduceBEq, Int.reduceBNe, Nat.reduceBEq, Int.reduceLE, Int.reduceLT, Int.reduceEq, Int.reduceNe, Int.reduceNeg, Nat.reduceDiv, Nat.reduceMod, Nat.reducePow, cast_lit, hN0, hN]
  refine (ok_arena_Arena_Has hy2).then ?_
  simp only [push_cast, Nat.reduceAdd, Nat.reduceSub, Nat.reduceMul, Nat.reduceLeDiff, Nat.reduceLT, Nat.reduceEqDiff, ↓reduceIte, reduceCtorEq, Int.reduceBEq, Int.reduceBNe, Nat.reduceBEq, Int.reduceLE, Int.reduceLT, Int.reduceEq, Int.reduceNe, Int.reduceNeg, Nat.reduceDiv, Nat.reduceMod, Nat.reducePow, cast_lit, hN0, hN]
  refine W_drop [0, 1, 2, 3, 15] [] ?_
  simp only [push_cast, seval, ↓reduceIte]
  refine W_cond (t := (!y2)) rfl (fun c11 => ?_) (fun c11 => ?_)
  · replace h := condT c11 h
    refine W_sq [8, 9] (W_regionD tab_ok [] ?_)
    simp only [push_cast, Nat.reduceAdd, Nat.reduceSub, Nat.reduceMul, Nat.reduceLeDiff, Nat.reduceLT, Nat.reduceEqDiff, ↓reduceIte, reduceCtorEq, Int.reduceBEq, Int.reduceBNe, Nat.reduceBEq, Int.reduceLE, Int.reduceLT, Int.reduceEq, Int.reduceNe, Int.reduceNeg, Nat.reduceDiv, Nat.reduceMod, Nat.reducePow, cast_lit, hN0, hN]
    refine W_ret ?_
    try simp only [gthen, gblock]
    have h := Option.some.inj h; subst h
    refine fin_loc (.inr rfl) hU [.val (.slice none 0 0), .val (.bool false)] (by omega) ?_
    simp only [push_cast, Nat.reduceAdd, Nat.reduceSub, Nat.reduceMul, Nat.reduceLeDiff, Nat.reduceLT, Nat.reduceEqDiff, ↓reduceIte, reduceCtorEq, Int.reduceBEq, Int.reduceBNe, Nat.reduceBEq, Int.reduceLE, Int.reduceLT, Int.reduceEq, Int.reduceNe, Int.reduceNeg, Nat.reduceDiv, Nat.reduceMod, Nat.reducePow, cast_lit, Try.results134, hN0, hN]
  · replace h := condF c11 h
    refine W_skip ?_
    try simp only [gthen, gblock]
    refine W_drop [0, 1, 2, 3] [] ?_
    simp only [push_cast, seval, ↓reduceIte]
    refine W_seqK ?_
    obtain ⟨x7, hx7, h⟩ := bC h
    obtain ⟨x8, hx8, ax8, bx8, cx8, h⟩ := bE (f := (eL (eI .u64))) tab26 (fun _ => rfl) (by decide) h
    obtain ⟨l9, al9, bl9, cl9, gl9, h⟩ := bS (lo := (some (.i64, a2))) (hi := (some (.i64, (IntKind.i64.wrap (a2 + a3))))) (f := (eI .u64)) rfl rfl tkind26 tab63 (fun _ => rfl) h
    obtain ⟨y10, hy10, h⟩ := bC h
    refine W_regionD tab_ok [] ?_
    simp only [push_cast, Nat.reduceAdd, Nat.reduceSub, Nat.reduceMul, Nat.reduceLeDiff, Nat.reduceLT, Nat.reduceEqDiff, ↓reduceIte, reduceCtorEq, Int.reduceBEq, Int.reduceBNe, Nat.reduceBEq, Int.reduceLE, Int.reduceLT, Int.reduceEq, Int.reduceNe, Int.reduceNeg, Nat.reduceDiv, Nat.reduceMod, Nat.reducePow, cast_lit, hx7, ax8, bx8, cx8, al9, bl9, cl9, gl9, hN0, hN]
    refine (ok_slices_Clone_uint64_uint64  hy10).then ?_
    simp only [push_cast, Nat.reduceAdd, Nat.reduceSub, Nat.reduceMul, Nat.reduceLeDiff, Nat.reduceLT, Nat.reduceEqDiff, ↓reduceIte, reduceCtorEq, Int.reduceBEq, Int.reduceBNe, Nat.reduceBEq, Int.reduceLE, Int.reduceLT, Int.reduceEq, Int.reduceNe, Int.reduceNeg, Nat.reduceDiv, Nat.reduceMod, Nat.reducePow, cast_lit, hx7, ax8, bx8, cx8, al9, bl9, cl9, gl9, hN0, hN]
    refine W_drop [8, 9] [true] ?_
    simp only [push_cast, seval, ↓reduceIte]
    refine W_ret ?_
    try simp only [gthen, gblock]
    have h := Option.some.inj h; subst h
    refine fin_loc (.inr rfl) hU [.row n y10.length, .val (.bool true)] (by omega) ?_
    simp only [push_cast, Nat.reduceAdd, Nat.reduceSub, Nat.reduceMul, Nat.reduceLeDiff, Nat.reduceLT, Nat.reduceEqDiff, ↓reduceIte, reduceCtorEq, Int.reduceBEq, Int.reduceBNe, Nat.reduceBEq, Int.reduceLE, Int.reduceLT, Int.reduceEq, Int.reduceNe, Int.reduceNeg, Nat.reduceDiv, Nat.reduceMod, Nat.reducePow, cast_lit, Try.results134, hN0, hN]

theorem ok_ptr_width {a0 : Int} {r : Int} {O : Objs} {n : Nat} (h : m_ptr_width a0 = some r) : GTo Try.prog 100 [.val (.int .i64 a0)] O n (.val (.int .i64 r)) O n := by
  unfold m_ptr_width at h
  refine fn_of tab_ok Try.call100 Try.func100 rfl (Nat.le_of_ble_eq_true rfl) (Nat.le_refl _) fun hU => ?_
  have hN0 : O n = none := hU.fresh _ (Nat.le_refl _)
  have hN : ∀ k, O (n + k) = none := fun k => hU.fresh _ (Nat.le_add_right _ _)
  show W _ _ _ _ ⟨8, [], [(0, .val (.int .i64 a0))]⟩ (Loc O n []) _
  refine W_sq [0] (W_regionD tab_ok [] ?_)
  simp only [push_cast, Nat.reduceAdd, Nat.reduceSub, Nat.reduceMul, Nat.reduceLeDiff, Nat.reduceLT, Nat.reduceEqDiff, ↓reduceIte, reduceCtorEq, Int.reduceBEq, Int.reduceBNe, Nat.reduceBEq, Int.reduceLE, Int.reduceLT, Int.reduceEq, Int.reduceNe, Int.reduceNeg, Nat.reduceDiv, Nat.reduceMod, Nat.reducePow, cast_lit, hN0, hN]
  refine W_seqK ?_
  obtain ⟨y6, hy6, ey6, h⟩ := bY (f := (eI .i64)) (cs := [.val (.int .i64 0), .val (.int .i64 1), .val (.int .i64 8), .val (.int .i64 16), .val (.int .i64 32), .val (.int .i64 64), .val (.int .i64 64)]) rfl h
  have g7 := congrArg G.agg ey6
  obtain ⟨y8, hy8, ey8, h⟩ := bY (f := (eI .i64)) (cs := [.val (.int .i64 0), .val (.int .i64 0), .val (.int .i64 0), .val (.int .i64 0), .val (.int .i64 0), .val (.int .i64 0), .val (.int .i64 0)]) rfl h
  have g9 := congrArg (GObj.mk false 149 7 1) ey8
  have g10 := gplace_arr (f := (eI .i64)) y8 y6 (fun _ => rfl)
  refine W_regionD tab_ok [] ?_
  simp only [push_cast, Nat.reduceAdd, Nat.reduceSub, Nat.reduceMul, Nat.reduceLeDiff, Nat.reduceLT, Nat.reduceEqDiff, ↓reduceIte, reduceCtorEq, Int.reduceBEq, Int.reduceBNe, Nat.reduceBEq, Int.reduceLE, Int.reduceLT, Int.reduceEq, Int.reduceNe, Int.reduceNeg, Nat.reduceDiv, Nat.reduceMod, Nat.reducePow, cast_lit, g7, g9, g10, hN0, hN]
  refine W_drop [0, 3] [true] ?_
  simp only [push_cast, seval, ↓reduceIte]
  obtain ⟨x12, hx12, ax12, bx12, cx12, h⟩ := bEA (f := (eI .i64)) (b := 7) rfl tab3 (fun _ => rfl) (by decide) h
  refine W_sq [2] (W_regionD tab_ok [] ?_)
  simp only [push_cast, Nat.reduceAdd, Nat.reduceSub, Nat.reduceMul, Nat.reduceLeDiff, Nat.reduceLT, Nat.reduceEqDiff, ↓reduceIte, reduceCtorEq, Int.reduceBEq, Int.reduceBNe, Nat.reduceBEq, Int.reduceLE, Int.reduceLT, Int.reduceEq, Int.reduceNe, Int.reduceNeg, Nat.reduceDiv, Nat.reduceMod, Nat.reducePow, cast_lit, ax12, bx12, cx12, hN0, hN]
  refine W_ret ?_
  try simp only [gthen, gblock]
  have h := Option.some.inj h; subst h
  refine fin_loc (.inr rfl) hU [.val (.int .i64 x12)] (by omega) ?_
  simp only [push_cast, Nat.reduceAdd, Nat.reduceSub, Nat.reduceMul, Nat.reduceLeDiff, Nat.reduceLT, Nat.reduceEqDiff, ↓reduceIte, reduceCtorEq, Int.reduceBEq, Int.reduceBNe, Nat.reduceBEq, Int.reduceLE, Int.reduceLT, Int.reduceEq, Int.reduceNe, Int.reduceNeg, Nat.reduceDiv, Nat.reduceMod, Nat.reducePow, cast_lit, Try.results100, hN0, hN]

theorem ok_ptr_Ptr_Words {a0 : S_ptr_Ptr} {r : (Int × Bool)} {O : Objs} {n : Nat} (h : m_ptr_Ptr_Words a0 = some r) : GTo Try.prog 63 [.agg [.val (.int .i64 a0.Kind), .val (.int .i64 a0.Off), .val (.int .i64 a0.Data), .val (.int .i64 a0.Ptrs), .val (.int .i64 a0.Code), .val (.int .i64 a0.Count), .val (.int .i64 a0.Segment), .val (.bool a0.Double)]] O n (.tup [.val (.int .i64 r.1), .val (.bool r.2)]) O n := by
  unfold m_ptr_Ptr_Words at h
  refine fn_of tab_ok Try.call63 Try.func63 rfl (Nat.le_of_ble_eq_true rfl) (Nat.le_refl _) fun hU => ?_
  have hN0 : O n = none := hU.fresh _ (Nat.le_refl _)
  have hN : ∀ k, O (n + k) = none := fun k => hU.fresh _ (Nat.le_add_right _ _)
  show W _ _ _ _ ⟨57, [], [(0, .agg [.val (.int .i64 a0.Kind), .val (.int .i64 a0.Off), .val (.int .i64 a0.Data), .val (.int .i64 a0.Ptrs), .val (.int .i64 a0.Code), .val (.int .i64 a0.Count), .val (.int .i64 a0.Segment), .val (.bool a0.Double)])]⟩ (Loc O n []) _
  refine W_sq [1] (W_regionD tab_ok [] ?_)
  simp only [push_cast, Nat.reduceAdd, Nat.reduceSub, Nat.reduceMul, Nat.reduceLeDiff, Nat.reduceLT, Nat.reduceEqDiff, ↓reduceIte, reduceCtorEq, Int.reduceBEq, Int.reduceBNe, Nat.reduceBEq, Int.reduceLE, Int.reduceLT, Int.reduceEq, Int.reduceNe, Int.reduceNeg, Nat.reduceDiv, Nat.reduceMod, Nat.reducePow, cast_lit, hN0, hN]
  refine W_seqK ?_
  refine W_block ?_
  refine W_sq [1, 4] (W_regionD tab_ok [] ?_)
  simp only [push_cast, Nat.reduceAdd, Nat.reduceSub, Nat.reduceMul, Nat.reduceLeDiff, Nat.reduceLT, Nat.reduceEqDiff, ↓reduceIte, reduceCtorEq, Int.reduceBEq, Int.reduceBNe, Nat.reduceBEq, Int.reduceLE, Int.reduceLT, Int.reduceEq, Int.reduceNe, Int.reduceNeg, Nat.reduceDiv, Nat.reduceMod, Nat.reducePow, cast_lit, hN0, hN]
  refine W_cond (t := (a0.Kind == 1)) rfl (fun c5 => ?_) (fun c5 => ?_)
  · replace h := condT c5 h
    refine W_sq [2, 3] (W_regionD tab_ok [] ?_)
    simp only [push_cast, Nat.reduceAdd, Nat.reduceSub, Nat.reduceMul, Nat.reduceLeDiff, Nat.reduceLT, Nat.reduceEqDiff, ↓reduceIte, reduceCtorEq, Int.reduceBEq, Int.reduceBNe, Nat.reduceBEq, Int.reduceLE, Int.reduceLT, Int.reduceEq, Int.reduceNe, Int.reduceNeg, Nat.reduceDiv, Nat.reduceMod, Nat.reducePow, cast_lit, hN0, hN]
    refine W_ret ?_
    try simp only [gthen, gblock]
    have h := Option.some.inj h; subst h
    refine fin_loc (.inr rfl) hU [.val (.int .i64 (IntKind.i64.wrap (a0.Data + a0.Ptrs))), .val (.bool true)] (by omega) ?_
    simp only [push_cast, Nat.reduceAdd, Nat.reduceSub, Nat.reduceMul, Nat.reduceLeDiff, Nat.reduceLT, Nat.reduceEqDiff, ↓reduceIte, reduceCtorEq, Int.reduceBEq, Int.reduceBNe, Nat.reduceBEq, Int.reduceLE, Int.reduceLT, Int.reduceEq, Int.reduceNe, Int.reduceNeg, Nat.reduceDiv, Nat.reduceMod, Nat.reducePow, cast_lit, Try.results63, hN0, hN]
  · replace h := condF c5 h
    refine W_sq [1, 13] (W_regionD tab_ok [none, none, none] ?_)
    simp only [push_cast, Nat.reduceAdd, Nat.reduceSub, Nat.reduceMul, Nat.reduceLeDiff, Nat.reduceLT, Nat.reduceEqDiff, ↓reduceIte, reduceCtorEq, Int.reduceBEq, Int.reduceBNe, Nat.reduceBEq, Int.reduceLE, Int.reduceLT, Int.reduceEq, Int.reduceNe, Int.reduceNeg, Nat.reduceDiv, Nat.reduceMod, Nat.reducePow, cast_lit, hN0, hN]
    repeat (with_reducible refine And.intro (by first | (intro h0; simp only [h0, and_self]; done) | (intro h0; simp only [h0, Bool.not_false, Bool.not_true, Bool.true_and, Bool.and_true, true_and, and_true, and_self, imp_self, implies_true, bne_iff_ne, ne_eq, beq_iff_eq]; done) | (intros; simp_all; done) | exact True.intro) ?_)
    refine W_cond (t := (cond (a0.Kind == 2) (a0.Code == 7) false)) rfl (fun c4 => ?_) (fun c4 => ?_)
    · replace h := condT c4 h
      refine W_sq [2, 3] (W_regionD tab_ok [] ?_)
      simp only [push_cast, Nat.reduceAdd, Nat.reduceSub, Nat.reduceMul, Nat.reduceLeDiff, Nat.reduceLT, Nat.reduceEqDiff, ↓reduceIte, reduceCtorEq, Int.reduceBEq, Int.reduceBNe, Nat.reduceBEq, Int.reduceLE, Int.reduceLT, Int.reduceEq, Int.reduceNe, Int.reduceNeg, Nat.reduceDiv, Nat.reduceMod, Nat.reducePow, cast_lit, hN0, hN]
      refine W_ret ?_
      try simp only [gthen, gblock]
      have h := Option.some.inj h; subst h
      refine fin_loc (.inr rfl) hU [.val (.int .i64 (IntKind.i64.wrap (a0.Count + 1))), .val (.bool true)] (by omega) ?_
      simp only [push_cast, Nat.reduceAdd, Nat.reduceSub, Nat.reduceMul, Nat.reduceLeDiff, Nat.reduceLT, Nat.reduceEqDiff, ↓reduceIte, reduceCtorEq, Int.reduceBEq, Int.reduceBNe, Nat.reduceBEq, Int.reduceLE, Int.reduceLT, Int.reduceEq, Int.reduceNe, Int.reduceNeg, Nat.reduceDiv, Nat.reduceMod, Nat.reducePow, cast_lit, Try.results63, hN0, hN]
    · replace h := condF c4 h
      refine W_sq [1, 25] (W_regionD tab_ok [none, none, none, none, none, none, none, none, none, none, none, none] ?_)
      simp only [push_cast, Nat.reduceAdd, Nat.reduceSub, Nat.reduceMul, Nat.reduceLeDiff, Nat.reduceLT, Nat.reduceEqDiff, ↓reduceIte, reduceCtorEq, Int.reduceBEq, Int.reduceBNe, Nat.reduceBEq, Int.reduceLE, Int.reduceLT, Int.reduceEq, Int.reduceNe, Int.reduceNeg, Nat.reduceDiv, Nat.reduceMod, Nat.reducePow, cast_lit, hN0, hN]
      repeat (with_reducible refine And.intro (by first | (intro h0; simp only [h0, and_self]; done) | (intro h0; simp only [h0, Bool.not_false, Bool.not_true, Bool.true_and, Bool.and_true, true_and, and_true, and_self, imp_self, implies_true, bne_iff_ne, ne_eq, beq_iff_eq]; done) | (intros; simp_all; done) | exact True.intro) ?_)
      refine W_cond (t := (cond (cond (cond (cond (a0.Kind == 2) (decide (0 ≤ a0.Code)) false) (decide (a0.Code < 7)) false) (decide (0 ≤ a0.Count)) false) (decide (a0.Count ≤ 536870911)) false)) rfl (fun c3 => ?_) (fun c3 => ?_)
      · replace h := condT c3 h
        refine W_seqK ?_
        obtain ⟨y2, hy2, h⟩ := bC h
        refine W_drawD tab_ok (by kernel_rfl) [] (by kernel_rfl) ?_
        simp only [push_cast, Nat.reduceAdd, Nat.reduceSub, Nat.reduceMul, Nat.reduceLeDiff, Nat.reduceLT, Nat.reduceEqDiff, ↓reduceIte, reduceCtorEq, Int.reduceBEq, Int.reduceBNe, Nat.reduceBEq, Int.reduceLE, Int.reduceLT, Int.reduceEq, Int.reduceNe, Int.reduceNeg, Nat.reduceDiv, Nat.reduceMod, Nat.reducePow, cast_lit, hN0, hN]
        refine PCall.of (ok_ptr_width hy2) ?_
        simp only [push_cast, Nat.reduceAdd, Nat.reduceSub, Nat.reduceMul, Nat.reduceLeDiff, Nat.reduceLT, Nat.reduceEqDiff, ↓reduceIte, reduceCtorEq, Int.reduceBEq, Int.reduceBNe, Nat.reduceBEq, Int.reduceLE, Int.reduceLT, Int.reduceEq, Int.reduceNe, Int.reduceNeg, Nat.reduceDiv, Nat.reduceMod, Nat.reducePow, cast_lit, hN0, hN]
        refine W_drop [2, 3] [false] ?_
        simp only [push_cast, seval, ↓reduceIte]
        refine W_ret ?_
        try simp only [gthen, gblock]
        have h := Option.some.inj h; subst h
        refine fin_loc (.inr rfl) hU [.val (.int .i64 (IntKind.i64.wrap (Int.tdiv (IntKind.i64.wrap ((IntKind.i64.wrap (a0.Count * y2)) + 63)) 64))), .val (.bool true)] (by omega) ?_
        simp only [push_cast, Nat.reduceAdd, Nat.reduceSub, Nat.reduceMul, Nat.reduceLeDiff, Nat.reduceLT, Nat.reduceEqDiff, ↓reduceIte, reduceCtorEq, Int.reduceBEq, Int.reduceBNe, Nat.reduceBEq, Int.reduceLE, Int.reduceLT, Int.reduceEq, Int.reduceNe, Int.reduceNeg, Nat.reduceDiv, Nat.reduceMod, Nat.reducePow, cast_lit, Try.results63, hN0, hN]
      · replace h := condF c3 h
        refine W_skip ?_
        try simp only [gthen, gblock]
        refine W_drop [] [false] ?_
        simp only [push_cast, seval, ↓reduceIte]
        refine W_sq [2, 3] (W_regionD tab_ok [] ?_)
        simp only [push_cast, Nat.reduceAdd, Nat.reduceSub, Nat.reduceMul, Nat.reduceLeDiff, Nat.reduceLT, Nat.reduceEqDiff, ↓reduceIte, reduceCtorEq, Int.reduceBEq, Int.reduceBNe, Nat.reduceBEq, Int.reduceLE, Int.reduceLT, Int.reduceEq, Int.reduceNe, Int.reduceNeg, Nat.reduceDiv, Nat.reduceMod, Nat.reducePow, cast_lit, hN0, hN]
        refine W_ret ?_
        try simp only [gthen, gblock]
        have h := Option.some.inj h; subst h
        refine fin_loc (.inr rfl) hU [.val (.int .i64 0), .val (.bool false)] (by omega) ?_
        simp only [push_cast, Nat.reduceAdd, Nat.reduceSub, Nat.reduceMul, Nat.reduceLeDiff, Nat.reduceLT, Nat.reduceEqDiff, ↓reduceIte, reduceCtorEq, Int.reduceBEq, Int.reduceBNe, Nat.reduceBEq, Int.reduceLE, Int.reduceLT, Int.reduceEq, Int.reduceNe, Int.reduceNeg, Nat.reduceDiv, Nat.reduceMod, Nat.reducePow, cast_lit, Try.results63, hN0, hN]

theorem ok_far_target {a0 : (Option S_arena_Arena)} {a1 : S_ptr_Ptr} {a2 : Int} {a3 : Int} {r : (S_far_Loc × Int)} {O : Objs} {n : Nat} (h : m_far_target a0 a1 a2 a3 = some r) : GTo Try.prog 117 [(gP e_S_arena_Arena a0), .agg [.val (.int .i64 a1.Kind), .val (.int .i64 a1.Off), .val (.int .i64 a1.Data), .val (.int .i64 a1.Ptrs), .val (.int .i64 a1.Code), .val (.int .i64 a1.Count), .val (.int .i64 a1.Segment), .val (.bool a1.Double)], .val (.int .i64 a2), .val (.int .i64 a3)] O n (.tup [.agg [.val (.int .i64 r.1.P.Kind), .val (.int .i64 r.1.P.Off), .val (.int .i64 r.1.P.Data), .val (.int .i64 r.1.P.Ptrs), .val (.int .i64 r.1.P.Code), .val (.int .i64 r.1.P.Count), .val (.int .i64 r.1.P.Segment), .val (.bool r.1.P.Double), .val (.int .i64 r.1.Segment), .val (.int .i64 r.1.At)], .val (.int .i64 r.2)]) O n := by
  unfold m_far_target at h
  refine fn_of tab_ok Try.call117 Try.func117 rfl (Nat.le_of_ble_eq_true rfl) (Nat.le_refl _) fun hU => ?_
  have hN0 : O n = none := hU.fresh _ (Nat.le_refl _)
  have hN : ∀ k, O (n + k) = none := fun k => hU.fresh _ (Nat.le_add_right _ _)
  show W _ _ _ _ ⟨36, [], [(0, (gP e_S_arena_Arena a0)), (1, .agg [.val (.int .i64 a1.Kind), .val (.int .i64 a1.Off), .val (.int .i64 a1.Data), .val (.int .i64 a1.Ptrs), .val (.int .i64 a1.Code), .val (.int .i64 a1.Count), .val (.int .i64 a1.Segment), .val (.bool a1.Double)]), (2, .val (.int .i64 a2)), (3, .val (.int .i64 a3))]⟩ (Loc O n []) _
  refine W_sq [0, 2, 3, 5, 8] (W_regionD tab_ok [] ?_)
  simp only [push_cast, Nat.reduceAdd, Nat.reduceSub, Nat.reduceMul, Nat.reduceLeDiff, Nat.reduceLT, Nat.reduceEqDiff, ↓reduceIte, reduceCtorEq, Int.reduceBEq, Int.reduceBNe, Nat.reduceBEq, Int.reduceLE, Int.reduceLT, Int.reduceEq, Int.reduceNe, Int.reduceNeg, Nat.reduceDiv, Nat.reduceMod, Nat.reducePow, cast_lit, hN0, hN]
  refine W_seqK ?_
  refine W_sq [0, 2, 3, 5, 8, 14] (W_regionD tab_ok [] ?_)
  simp only [push_cast, Nat.reduceAdd, Nat.reduceSub, Nat.reduceMul, Nat.reduceLeDiff, Nat.reduceLT, Nat.reduceEqDiff, ↓reduceIte, reduceCtorEq, Int.reduceBEq, Int.reduceBNe, Nat.reduceBEq, Int.reduceLE, Int.reduceLT, Int.reduceEq, Int.reduceNe, Int.reduceNeg, Nat.reduceDiv, Nat.reduceMod, Nat.reducePow, cast_lit, hN0, hN]
  refine W_cond (t := (a1.Kind == 4)) rfl (fun c7 => ?_) (fun c7 => ?_)
  · replace h := condT c7 h
    refine W_seqK ?_
    refine W_regionD tab_ok [] ?_
    simp only [push_cast, Nat.reduceAdd, Nat.reduceSub, Nat.reduceMul, Nat.reduceLeDiff, Nat.reduceLT, Nat.reduceEqDiff, ↓reduceIte, reduceCtorEq, Int.reduceBEq, Int.reduceBNe, Nat.reduceBEq, Int.reduceLE, Int.reduceLT, Int.reduceEq, Int.reduceNe, Int.reduceNeg, Nat.reduceDiv, Nat.reduceMod, Nat.reducePow, cast_lit, hN0, hN]
    refine W_drop [8, 9] [false, true] ?_
    simp only [push_cast, seval, ↓reduceIte]
    refine W_ret ?_
    try simp only [gthen, gblock]
    have h := Option.some.inj h; subst h
    refine fin_loc (.inr rfl) hU [.agg [.val (.int .i64 0), .val (.int .i64 0), .val (.int .i64 0), .val (.int .i64 0), .val (.int .i64 0), .val (.int .i64 0), .val (.int .i64 0), .val (.bool false), .val (.int .i64 0), .val (.int .i64 0)], .val (.int .i64 9)] (by omega) ?_
    simp only [push_cast, Nat.reduceAdd, Nat.reduceSub, Nat.reduceMul, Nat.reduceLeDiff, Nat.reduceLT, Nat.reduceEqDiff, ↓reduceIte, reduceCtorEq, Int.reduceBEq, Int.reduceBNe, Nat.reduceBEq, Int.reduceLE, Int.reduceLT, Int.reduceEq, Int.reduceNe, Int.reduceNeg, Nat.reduceDiv, Nat.reduceMod, Nat.reducePow, cast_lit, Try.results117, hN0, hN]
  · replace h := condF c7 h
    refine W_skip ?_
    try simp only [gthen, gblock]
    refine W_drop [0, 2, 3, 5, 8] [true, true] ?_
    simp only [push_cast, seval, ↓reduceIte]
    refine W_seqK ?_
    obtain ⟨y2, hy2, h⟩ := bC h
    refine W_regionD tab_ok [] ?_
    simp only [push_cast, Nat.reduceAdd, Nat.reduceSub, Nat.reduceMul, Nat.reduceLeDiff, Nat.reduceLT, Nat.reduceEqDiff, ↓reduceIte, reduceCtorEq, Int.reduceBEq, Int.reduceBNe, Nat.reduceBEq, Int.reduceLE, Int.reduceLT, Int.reduceEq, Int.reduceNe, Int.reduceNeg, Nat.reduceDiv, Nat.reduceMod, Nat.reducePow, cast_lit, hN0, hN]
    refine (ok_ptr_Ptr_Words hy2).then ?_
    simp only [push_cast, Nat.reduceAdd, Nat.reduceSub, Nat.reduceMul, Nat.reduceLeDiff, Nat.reduceLT, Nat.reduceEqDiff, ↓reduceIte, reduceCtorEq, Int.reduceBEq, Int.reduceBNe, Nat.reduceBEq, Int.reduceLE, Int.reduceLT, Int.reduceEq, Int.reduceNe, Int.reduceNeg, Nat.reduceDiv, Nat.reduceMod, Nat.reducePow, cast_lit, hN0, hN]
    refine W_drop [0, 2, 3, 5, 8, 10, 11] [true, true] ?_
    simp only [push_cast, seval, ↓reduceIte]
    refine W_seqK ?_
    refine W_sq [0, 2, 3, 5, 8, 10, 22] (W_regionD tab_ok [] ?_)
    simp only [push_cast, Nat.reduceAdd, Nat.reduceSub, Nat.reduceMul, Nat.reduceLeDiff, Nat.reduceLT, Nat.reduceEqDiff, ↓reduceIte, reduceCtorEq, Int.reduceBEq, Int.reduceBNe, Nat.reduceBEq, Int.reduceLE, Int.reduceLT, Int.reduceEq, Int.reduceNe, Int.reduceNeg, Nat.reduceDiv, Nat.reduceMod, Nat.reducePow, cast_lit, hN0, hN]
    refine W_cond (t := (!y2.2)) rfl (fun c6 => ?_) (fun c6 => ?_)
    · replace h := condT c6 h
      refine W_seqK ?_
      refine W_regionD tab_ok [] ?_
      simp only [push_cast, Nat.reduceAdd, Nat.reduceSub, Nat.reduceMul, Nat.reduceLeDiff, Nat.reduceLT, Nat.reduceEqDiff, ↓reduceIte, reduceCtorEq, Int.reduceBEq, Int.reduceBNe, Nat.reduceBEq, Int.reduceLE, Int.reduceLT, Int.reduceEq, Int.reduceNe, Int.reduceNeg, Nat.reduceDiv, Nat.reduceMod, Nat.reducePow, cast_lit, hN0, hN]
      refine W_drop [8, 9] [false, true] ?_
      simp only [push_cast, seval, ↓reduceIte]
      refine W_ret ?_
      try simp only [gthen, gblock]
      have h := Option.some.inj h; subst h
      refine fin_loc (.inr rfl) hU [.agg [.val (.int .i64 0), .val (.int .i64 0), .val (.int .i64 0), .val (.int .i64 0), .val (.int .i64 0), .val (.int .i64 0), .val (.int .i64 0), .val (.bool false), .val (.int .i64 0), .val (.int .i64 0)], .val (.int .i64 8)] (by omega) ?_
      simp only [push_cast, Nat.reduceAdd, Nat.reduceSub, Nat.reduceMul, Nat.reduceLeDiff, Nat.reduceLT, Nat.reduceEqDiff, ↓reduceIte, reduceCtorEq, Int.reduceBEq, Int.reduceBNe, Nat.reduceBEq, Int.reduceLE, Int.reduceLT, Int.reduceEq, Int.reduceNe, Int.reduceNeg, Nat.reduceDiv, Nat.reduceMod, Nat.reducePow, cast_lit, Try.results117, hN0, hN]
    · replace h := condF c6 h
      refine W_skip ?_
      try simp only [gthen, gblock]
      refine W_drop [0, 2, 3, 5, 8, 10] [true, true] ?_
      simp only [push_cast, seval, ↓reduceIte]
      refine W_seqK ?_
      refine W_seqK ?_
      obtain ⟨y4, hy4, h⟩ := bC h
      refine W_regionD tab_ok [] ?_
      simp only [push_cast, Nat.reduceAdd, Nat.reduceSub, Nat.reduceMul, Nat.reduceLeDiff, Nat.reduceLT, Nat.reduceEqDiff, ↓reduceIte, reduceCtorEq, Int.reduceBEq, Int.reduceBNe, Nat.reduceBEq, Int.reduceLE, Int.reduceLT, Int.reduceEq, Int.reduceNe, Int.reduceNeg, Nat.reduceDiv, Nat.reduceMod, Nat.reducePow, cast_lit, hN0, hN]
      refine (ok_arena_Arena_Has hy4).then ?_
      simp only [push_cast, Nat.reduceAdd, Nat.reduceSub, Nat.reduceMul, Nat.reduceLeDiff, Nat.reduceLT, Nat.reduceEqDiff, ↓reduceIte, reduceCtorEq, Int.reduceBEq, Int.reduceBNe, Nat.reduceBEq, Int.reduceLE, Int.reduceLT, Int.reduceEq, Int.reduceNe, Int.reduceNeg, Nat.reduceDiv, Nat.reduceMod, Nat.reducePow, cast_lit, hN0, hN]
      refine W_drop [2, 3, 5, 8, 29] [true, true] ?_
      simp only [push_cast, seval, ↓reduceIte]
      refine W_cond (t := (!y4)) rfl (fun c5 => ?_) (fun c5 => ?_)
      · replace h := condT c5 h
        refine W_seqK ?_
        refine W_regionD tab_ok [] ?_
        simp only [push_cast, Nat.reduceAdd, Nat.reduceSub, Nat.reduceMul, Nat.reduceLeDiff, Nat.reduceLT, Nat.reduceEqDiff, ↓reduceIte, reduceCtorEq, Int.reduceBEq, Int.reduceBNe, Nat.reduceBEq, Int.reduceLE, Int.reduceLT, Int.reduceEq, Int.reduceNe, Int.reduceNeg, Nat.reduceDiv, Nat.reduceMod, Nat.reducePow, cast_lit, hN0, hN]
        refine W_drop [8, 9] [false, true] ?_
        simp only [push_cast, seval, ↓reduceIte]
        refine W_ret ?_
        try simp only [gthen, gblock]
        have h := Option.some.inj h; subst h
        refine fin_loc (.inr rfl) hU [.agg [.val (.int .i64 0), .val (.int .i64 0), .val (.int .i64 0), .val (.int .i64 0), .val (.int .i64 0), .val (.int .i64 0), .val (.int .i64 0), .val (.bool false), .val (.int .i64 0), .val (.int .i64 0)], .val (.int .i64 7)] (by omega) ?_
        simp only [push_cast, Nat.reduceAdd, Nat.reduceSub, Nat.reduceMul, Nat.reduceLeDiff, Nat.reduceLT, Nat.reduceEqDiff, ↓reduceIte, reduceCtorEq, Int.reduceBEq, Int.reduceBNe, Nat.reduceBEq, Int.reduceLE, Int.reduceLT, Int.reduceEq, Int.reduceNe, Int.reduceNeg, Nat.reduceDiv, Nat.reduceMod, Nat.reducePow, cast_lit, Try.results117, hN0, hN]
      · replace h := condF c5 h
        refine W_skip ?_
        try simp only [gthen, gblock]
        refine W_drop [2, 3, 5, 8] [true, true] ?_
        simp only [push_cast, seval, ↓reduceIte]
        refine W_seqK ?_
        refine W_regionD tab_ok [] ?_
        simp only [push_cast, Nat.reduceAdd, Nat.reduceSub, Nat.reduceMul, Nat.reduceLeDiff, Nat.reduceLT, Nat.reduceEqDiff, ↓reduceIte, reduceCtorEq, Int.reduceBEq, Int.reduceBNe, Nat.reduceBEq, Int.reduceLE, Int.reduceLT, Int.reduceEq, Int.reduceNe, Int.reduceNeg, Nat.reduceDiv, Nat.reduceMod, Nat.reducePow, cast_lit, hN0, hN]
        refine W_drop [2, 3, 5, 8] [true, true] ?_
        simp only [push_cast, seval, ↓reduceIte]
        refine W_seqK ?_
        refine W_regionD tab_ok [] ?_
        simp only [push_cast, Nat.reduceAdd, Nat.reduceSub, Nat.reduceMul, Nat.reduceLeDiff, Nat.reduceLT, Nat.reduceEqDiff, ↓reduceIte, reduceCtorEq, Int.reduceBEq, Int.reduceBNe, Nat.reduceBEq, Int.reduceLE, Int.reduceLT, Int.reduceEq, Int.reduceNe, Int.reduceNeg, Nat.reduceDiv, Nat.reduceMod, Nat.reducePow, cast_lit, hN0, hN]
        refine W_drop [8, 9] [false, true] ?_
        simp only [push_cast, seval, ↓reduceIte]
        refine W_ret ?_
        try simp only [gthen, gblock]
        have h := Option.some.inj h; subst h
        refine fin_loc (.inr rfl) hU [.agg [.val (.int .i64 a1.Kind), .val (.int .i64 0), .val (.int .i64 a1.Data), .val (.int .i64 a1.Ptrs), .val (.int .i64 a1.Code), .val (.int .i64 a1.Count), .val (.int .i64 a1.Segment), .val (.bool a1.Double), .val (.int .i64 a2), .val (.int .i64 a3)], .val (.int .i64 0)] (by omega) ?_
        simp only [push_cast, Nat.reduceAdd, Nat.reduceSub, Nat.reduceMul, Nat.reduceLeDiff, Nat.reduceLT, Nat.reduceEqDiff, ↓reduceIte, reduceCtorEq, Int.reduceBEq, Int.reduceBNe, Nat.reduceBEq, Int.reduceLE, Int.reduceLT, Int.reduceEq, Int.reduceNe, Int.reduceNeg, Nat.reduceDiv, Nat.reduceMod, Nat.reducePow, cast_lit, Try.results117, hN0, hN]

theorem ok_far_double {a0 : (Option S_arena_Arena)} {a1 : Int} {a2 : Int} {r : (S_far_Loc × Int)} {O : Objs} {n : Nat} (h : m_far_double a0 a1 a2 = some r) : GTo Try.prog 115 [(gP e_S_arena_Arena a0), .val (.int .i64 a1), .val (.int .i64 a2)] O n (.tup [.agg [.val (.int .i64 r.1.P.Kind), .val (.int .i64 r.1.P.Off), .val (.int .i64 r.1.P.Data), .val (.int .i64 r.1.P.Ptrs), .val (.int .i64 r.1.P.Code), .val (.int .i64 r.1.P.Count), .val (.int .i64 r.1.P.Segment), .val (.bool r.1.P.Double), .val (.int .i64 r.1.Segment), .val (.int .i64 r.1.At)], .val (.int .i64 r.2)]) O n := by
  unfold m_far_double at h
  refine fn_of tab_ok Try.call115 Try.func115 rfl (Nat.le_of_ble_eq_true rfl) (Nat.le_refl _) fun hU => ?_
  have hN0 : O n = none := hU.fresh _ (Nat.le_refl _)
  have hN : ∀ k, O (n + k) = none := fun k => hU.fresh _ (Nat.le_add_right _ _)
  show W _ _ _ _ ⟨56, [], [(0, (gP e_S_arena_Arena a0)), (1, .val (.int .i64 a1)), (2, .val (.int .i64 a2))]⟩ (Loc O n []) _
  refine W_sq [0, 1, 2, 6] (W_regionD tab_ok [] ?_)
  simp only [push_cast, Nat.reduceAdd, Nat.reduceSub, Nat.reduceMul, Nat.reduceLeDiff, Nat.reduceLT, Nat.reduceEqDiff, ↓reduceIte, reduceCtorEq, Int.reduceBEq, Int.reduceBNe, Nat.reduceBEq, Int.reduceLE, Int.reduceLT, Int.reduceEq, Int.reduceNe, Int.reduceNeg, Nat.reduceDiv, Nat.reduceMod, Nat.reducePow, cast_lit, hN0, hN]
  refine W_seqK ?_
  obtain ⟨y2, hy2, h⟩ := bC h
  refine W_regionD tab_ok [] ?_
  simp only [push_cast, Nat.reduceAdd, Nat.reduceSub, Nat.reduceMul, Nat.reduceLeDiff, Nat.reduceLT, Nat.reduceEqDiff, ↓reduceIte, reduceCtorEq, Int.reduceBEq, Int.reduceBNe, Nat.reduceBEq, Int.reduceLE, Int.reduceLT, Int.reduceEq, Int.reduceNe, Int.reduceNeg, Nat.reduceDiv, Nat.reduceMod, Nat.reducePow, cast_lit, hN0, hN]
  refine (ok_arena_Arena_Part hy2).then ?_
  simp only [push_cast, Nat.reduceAdd, Nat.reduceSub, Nat.reduceMul, Nat.reduceLeDiff, Nat.reduceLT, Nat.reduceEqDiff, ↓reduceIte, reduceCtorEq, Int.reduceBEq, Int.reduceBNe, Nat.reduceBEq, Int.reduceLE, Int.reduceLT, Int.reduceEq, Int.reduceNe, Int.reduceNeg, Nat.reduceDiv, Nat.reduceMod, Nat.reducePow, cast_lit, hN0, hN]
  refine W_drop [0, 6, 8, 9] [true] ?_
  simp only [push_cast, seval, ↓reduceIte]
  refine W_seqK ?_
  refine W_sq [0, 6, 8, 20] (W_regionD tab_ok [] ?_)
  simp only [push_cast, Nat.reduceAdd, Nat.reduceSub, Nat.reduceMul, Nat.reduceLeDiff, Nat.reduceLT, Nat.reduceEqDiff, ↓reduceIte, reduceCtorEq, Int.reduceBEq, Int.reduceBNe, Nat.reduceBEq, Int.reduceLE, Int.reduceLT, Int.reduceEq, Int.reduceNe, Int.reduceNeg, Nat.reduceDiv, Nat.reduceMod, Nat.reducePow, cast_lit, hN0, hN]
  refine W_cond (t := (!y2.2)) rfl (fun c11 => ?_) (fun c11 => ?_)
  · replace h := condT c11 h
    refine W_seqK ?_
    refine W_regionD tab_ok [] ?_
    simp only [push_cast, Nat.reduceAdd, Nat.reduceSub, Nat.reduceMul, Nat.reduceLeDiff, Nat.reduceLT, Nat.reduceEqDiff, ↓reduceIte, reduceCtorEq, Int.reduceBEq, Int.reduceBNe, Nat.reduceBEq, Int.reduceLE, Int.reduceLT, Int.reduceEq, Int.reduceNe, Int.reduceNeg, Nat.reduceDiv, Nat.reduceMod, Nat.reducePow, cast_lit, hN0, hN]
    refine W_drop [6, 7] [true] ?_
    simp only [push_cast, seval, ↓reduceIte]
    refine W_ret ?_
    try simp only [gthen, gblock]
    have h := Option.some.inj h; subst h
    refine fin_loc (.inr rfl) hU [.agg [.val (.int .i64 0), .val (.int .i64 0), .val (.int .i64 0), .val (.int .i64 0), .val (.int .i64 0), .val (.int .i64 0), .val (.int .i64 0), .val (.bool false), .val (.int .i64 0), .val (.int .i64 0)], .val (.int .i64 7)] (by omega) ?_
    simp only [push_cast, Nat.reduceAdd, Nat.reduceSub, Nat.reduceMul, Nat.reduceLeDiff, Nat.reduceLT, Nat.reduceEqDiff, ↓reduceIte, reduceCtorEq, Int.reduceBEq, Int.reduceBNe, Nat.reduceBEq, Int.reduceLE, Int.reduceLT, Int.reduceEq, Int.reduceNe, Int.reduceNeg, Nat.reduceDiv, Nat.reduceMod, Nat.reducePow, cast_lit, Try.results115, hN0, hN]
  · replace h := condF c11 h
    refine W_skip ?_
    try simp only [gthen, gblock]
    refine W_drop [0, 6, 8] [true] ?_
    simp only [push_cast, seval, ↓reduceIte]
    obtain ⟨x3, hx3, ax3, bx3, cx3, h⟩ := bE (f := (eI .u64)) tab63 (fun _ => rfl) (by decide) h
    obtain ⟨y4, hy4, h⟩ := bC h
    obtain ⟨x5, hx5, ax5, bx5, cx5, h⟩ := bE (f := (eI .u64)) tab63 (fun _ => rfl) (by decide) h
    obtain ⟨y6, hy6, h⟩ := bC h
    refine W_seqN (E' := ⟨56, [], [(0, (gP e_S_arena_Arena a0)), (6, .ref n 0), (10, .ref (n + 1) 0), (11, .ref (n + 2) 0)]⟩) (O' := (Loc O n [some ⟨false, 120, 10, 1, [.val (.int .i64 0), .val (.int .i64 0), .val (.int .i64 0), .val (.int .i64 0), .val (.int .i64 0), .val (.int .i64 0), .val (.int .i64 0), .val (.bool false), .val (.int .i64 0), .val (.int .i64 0)]⟩, some ⟨false, 93, 8, 1, [.val (.int .i64 y4.Kind), .val (.int .i64 y4.Off), .val (.int .i64 y4.Data), .val (.int .i64 y4.Ptrs), .val (.int .i64 y4.Code), .val (.int .i64 y4.Count), .val (.int .i64 y4.Segment), .val (.bool y4.Double)]⟩, some ⟨false, 93, 8, 1, [.val (.int .i64 y6.Kind), .val (.int .i64 y6.Off), .val (.int .i64 y6.Data), .val (.int .i64 y6.Ptrs), .val (.int .i64 y6.Code), .val (.int .i64 y6.Count), .val (.int .i64 y6.Segment), .val (.bool y6.Double)]⟩])) (n0 := (n + 3)) ?_ ?_
    · refine W_drawX tab_ok (by kernel_rfl) [.low, .low, .low, .low, .low, .low, .low, .low, .pass, .pass, .pass, .pass] (fun i => i < (n + 1)) 8 9 [0, 1, 2, 3, 4, 5, 6, 7] [10, 11] [.low, .low, .low, .low, .low, .low, .low, .low] [.pass, .pass, .pass, .pass] [.pass, .pass, .pass, .pass] [] (by kernel_rfl) rfl rfl rfl ?_
      simp only [push_cast, Nat.reduceAdd, Nat.reduceSub, Nat.reduceMul, Nat.reduceLeDiff, Nat.reduceLT, Nat.reduceEqDiff, ↓reduceIte, reduceCtorEq, Int.reduceBEq, Int.reduceBNe, Nat.reduceBEq, Int.reduceLE, Int.reduceLT, Int.reduceEq, Int.reduceNe, Int.reduceNeg, Nat.reduceDiv, Nat.reduceMod, Nat.reducePow, cast_lit, ax3, bx3, cx3, ax5, bx5, cx5, hN0, hN]
      repeat (with_reducible refine And.intro (by omega) ?_)
      first | refine PCallA.of (fun _ _ => ok_ptr_Decode hy4) ?_ | refine PCall.of (ok_ptr_Decode hy4) ?_
      simp only [push_cast, Nat.reduceAdd, Nat.reduceSub, Nat.reduceMul, Nat.reduceLeDiff, Nat.reduceLT, Nat.reduceEqDiff, ↓reduceIte, reduceCtorEq, Int.reduceBEq, Int.reduceBNe, Nat.reduceBEq, Int.reduceLE, Int.reduceLT, Int.reduceEq, Int.reduceNe, Int.reduceNeg, Nat.reduceDiv, Nat.reduceMod, Nat.reducePow, cast_lit, ax3, bx3, cx3, ax5, bx5, cx5, hN0, hN]
      repeat (with_reducible refine And.intro (by omega) ?_)
      first | refine PCallA.of (fun _ _ => ok_ptr_Decode hy6) ?_ | refine PCall.of (ok_ptr_Decode hy6) ?_
      simp only [push_cast, Nat.reduceAdd, Nat.reduceSub, Nat.reduceMul, Nat.reduceLeDiff, Nat.reduceLT, Nat.reduceEqDiff, ↓reduceIte, reduceCtorEq, Int.reduceBEq, Int.reduceBNe, Nat.reduceBEq, Int.reduceLE, Int.reduceLT, Int.reduceEq, Int.reduceNe, Int.reduceNeg, Nat.reduceDiv, Nat.reduceMod, Nat.reducePow, cast_lit, ax3, bx3, cx3, ax5, bx5, cx5, hN0, hN]
      repeat (with_reducible refine And.intro (by omega) ?_)
      refine And.intro ?_ ?_
      · simp only [push_cast, Nat.reduceAdd, Nat.reduceSub, Nat.reduceMul, Nat.reduceLeDiff, Nat.reduceLT, Nat.reduceEqDiff, ↓reduceIte, reduceCtorEq, Int.reduceBEq, Int.reduceBNe, Nat.reduceBEq, Int.reduceLE, Int.reduceLT, Int.reduceEq, Int.reduceNe, Int.reduceNeg, Nat.reduceDiv, Nat.reduceMod, Nat.reducePow, cast_lit, ax3, bx3, cx3, ax5, bx5, cx5, hN0, hN]
        repeat (with_reducible refine And.intro (by first | exact agree_loc rfl | exact agree_loc0) ?_)
        refine And.intro rfl (Fit2.of (fit_loc hU rfl rfl ?_) (by omega))
        simp only [push_cast, Nat.reduceAdd, Nat.reduceSub, Nat.reduceMul, Nat.reduceLeDiff, Nat.reduceLT, Nat.reduceEqDiff, ↓reduceIte, reduceCtorEq, Int.reduceBEq, Int.reduceBNe, Nat.reduceBEq, Int.reduceLE, Int.reduceLT, Int.reduceEq, Int.reduceNe, Int.reduceNeg, Nat.reduceDiv, Nat.reduceMod, Nat.reducePow, cast_lit, ax3, bx3, cx3, ax5, bx5, cx5, hN0, hN]
      · simp only [push_cast, Nat.reduceAdd, Nat.reduceSub, Nat.reduceMul, Nat.reduceLeDiff, Nat.reduceLT, Nat.reduceEqDiff, ↓reduceIte, reduceCtorEq, Int.reduceBEq, Int.reduceBNe, Nat.reduceBEq, Int.reduceLE, Int.reduceLT, Int.reduceEq, Int.reduceNe, Int.reduceNeg, Nat.reduceDiv, Nat.reduceMod, Nat.reducePow, cast_lit, ax3, bx3, cx3, ax5, bx5, cx5, hN0, hN]
        repeat (with_reducible refine And.intro (by first | exact agree_loc rfl | exact agree_loc0) ?_)
        refine And.intro rfl ?_
        refine Fit2.trans (E' := (⟨56, [], [(0, (gP e_S_arena_Arena a0)), (6, .ref n 0), (10, .ref (n + 2) 0), (11, .ref (n + 1) 0)]⟩ : Env)) (O' := (Loc O n [some ⟨false, 120, 10, 1, [.val (.int .i64 0), .val (.int .i64 0), .val (.int .i64 0), .val (.int .i64 0), .val (.int .i64 0), .val (.int .i64 0), .val (.int .i64 0), .val (.bool false), .val (.int .i64 0), .val (.int .i64 0)]⟩, some ⟨false, 93, 8, 1, [.val (.int .i64 y6.Kind), .val (.int .i64 y6.Off), .val (.int .i64 y6.Data), .val (.int .i64 y6.Ptrs), .val (.int .i64 y6.Code), .val (.int .i64 y6.Count), .val (.int .i64 y6.Segment), .val (.bool y6.Double)]⟩, some ⟨false, 93, 8, 1, [.val (.int .i64 y4.Kind), .val (.int .i64 y4.Off), .val (.int .i64 y4.Data), .val (.int .i64 y4.Ptrs), .val (.int .i64 y4.Code), .val (.int .i64 y4.Count), .val (.int .i64 y4.Segment), .val (.bool y4.Double)]⟩])) (n' := (n + 3)) (Fit2.of (fit_loc hU rfl rfl ?_) (by omega)) ?_
        · simp only [push_cast, Nat.reduceAdd, Nat.reduceSub, Nat.reduceMul, Nat.reduceLeDiff, Nat.reduceLT, Nat.reduceEqDiff, ↓reduceIte, reduceCtorEq, Int.reduceBEq, Int.reduceBNe, Nat.reduceBEq, Int.reduceLE, Int.reduceLT, Int.reduceEq, Int.reduceNe, Int.reduceNeg, Nat.reduceDiv, Nat.reduceMod, Nat.reducePow, cast_lit, ax3, bx3, cx3, ax5, bx5, cx5, hN0, hN]
        refine ren_fit (k := 3) (k' := 3) hU [0, 2, 1] [0, 2, 1] rfl rfl rfl rfl ⟨rfl, rfl⟩ ?_
        simp only [push_cast, Nat.reduceAdd, Nat.reduceSub, Nat.reduceMul, Nat.reduceLeDiff, Nat.reduceLT, Nat.reduceEqDiff, ↓reduceIte, reduceCtorEq, Int.reduceBEq, Int.reduceBNe, Nat.reduceBEq, Int.reduceLE, Int.reduceLT, Int.reduceEq, Int.reduceNe, Int.reduceNeg, Nat.reduceDiv, Nat.reduceMod, Nat.reducePow, cast_lit, hN0, hN]
    refine W_seqK ?_
    refine W_sq [0, 6, 10, 11, 36] (W_regionD tab_ok [none, none] ?_)
    simp only [push_cast, Nat.reduceAdd, Nat.reduceSub, Nat.reduceMul, Nat.reduceLeDiff, Nat.reduceLT, Nat.reduceEqDiff, ↓reduceIte, reduceCtorEq, Int.reduceBEq, Int.reduceBNe, Nat.reduceBEq, Int.reduceLE, Int.reduceLT, Int.reduceEq, Int.reduceNe, Int.reduceNeg, Nat.reduceDiv, Nat.reduceMod, Nat.reducePow, cast_lit, hN0, hN]
    repeat (with_reducible refine And.intro (by first | (intro h0; simp only [h0, and_self]; done) | (intro h0; simp only [h0, Bool.not_false, Bool.not_true, Bool.true_and, Bool.and_true, true_and, and_true, and_self, imp_self, implies_true, bne_iff_ne, ne_eq, beq_iff_eq]; done) | (intros; simp_all; done) | exact True.intro) ?_)
    refine W_cond (t := (cond (y4.Kind != 3) true y4.Double)) rfl (fun c10 => ?_) (fun c10 => ?_)
    · replace h := condT c10 h
      refine W_seqK ?_
      refine W_regionD tab_ok [] ?_
      simp only [push_cast, Nat.reduceAdd, Nat.reduceSub, Nat.reduceMul, Nat.reduceLeDiff, Nat.reduceLT, Nat.reduceEqDiff, ↓reduceIte, reduceCtorEq, Int.reduceBEq, Int.reduceBNe, Nat.reduceBEq, Int.reduceLE, Int.reduceLT, Int.reduceEq, Int.reduceNe, Int.reduceNeg, Nat.reduceDiv, Nat.reduceMod, Nat.reducePow, cast_lit, hN0, hN]
      refine W_drop [6, 7] [true, false, false] ?_
      simp only [push_cast, seval, ↓reduceIte]
      refine W_ret ?_
      try simp only [gthen, gblock]
      have h := Option.some.inj h; subst h
      refine fin_loc (.inr rfl) hU [.agg [.val (.int .i64 0), .val (.int .i64 0), .val (.int .i64 0), .val (.int .i64 0), .val (.int .i64 0), .val (.int .i64 0), .val (.int .i64 0), .val (.bool false), .val (.int .i64 0), .val (.int .i64 0)], .val (.int .i64 8)] (by omega) ?_
      simp only [push_cast, Nat.reduceAdd, Nat.reduceSub, Nat.reduceMul, Nat.reduceLeDiff, Nat.reduceLT, Nat.reduceEqDiff, ↓reduceIte, reduceCtorEq, Int.reduceBEq, Int.reduceBNe, Nat.reduceBEq, Int.reduceLE, Int.reduceLT, Int.reduceEq, Int.reduceNe, Int.reduceNeg, Nat.reduceDiv, Nat.reduceMod, Nat.reducePow, cast_lit, Try.results115, hN0, hN]
    · replace h := condF c10 h
      refine W_skip ?_
      try simp only [gthen, gblock]
      refine W_drop [0, 6, 10, 11] [true, true, true] ?_
      simp only [push_cast, seval, ↓reduceIte]
      refine W_seqK ?_
      refine W_sq [0, 6, 10, 11, 45] (W_regionD tab_ok [none, none, none] ?_)
      simp only [push_cast, Nat.reduceAdd, Nat.reduceSub, Nat.reduceMul, Nat.reduceLeDiff, Nat.reduceLT, Nat.reduceEqDiff, ↓reduceIte, reduceCtorEq, Int.reduceBEq, Int.reduceBNe, Nat.reduceBEq, Int.reduceLE, Int.reduceLT, Int.reduceEq, Int.reduceNe, Int.reduceNeg, Nat.reduceDiv, Nat.reduceMod, Nat.reducePow, cast_lit, hN0, hN]
      repeat (with_reducible refine And.intro (by first | (intro h0; simp only [h0, and_self]; done) | (intro h0; simp only [h0, Bool.not_false, Bool.not_true, Bool.true_and, Bool.and_true, true_and, and_true, and_self, imp_self, implies_true, bne_iff_ne, ne_eq, beq_iff_eq]; done) | (intros; simp_all; done) | exact True.intro) ?_)
      refine W_cond (t := (cond (y6.Kind != 4) (y6.Off != 0) false)) rfl (fun c9 => ?_) (fun c9 => ?_)
      · replace h := condT c9 h
        refine W_seqK ?_
        refine W_regionD tab_ok [] ?_
        simp only [push_cast, Nat.reduceAdd, Nat.reduceSub, Nat.reduceMul, Nat.reduceLeDiff, Nat.reduceLT, Nat.reduceEqDiff, ↓reduceIte, reduceCtorEq, Int.reduceBEq, Int.reduceBNe, Nat.reduceBEq, Int.reduceLE, Int.reduceLT, Int.reduceEq, Int.reduceNe, Int.reduceNeg, Nat.reduceDiv, Nat.reduceMod, Nat.reducePow, cast_lit, hN0, hN]
        refine W_drop [6, 7] [true, false, false] ?_
        simp only [push_cast, seval, ↓reduceIte]
        refine W_ret ?_
        try simp only [gthen, gblock]
        have h := Option.some.inj h; subst h
        refine fin_loc (.inr rfl) hU [.agg [.val (.int .i64 0), .val (.int .i64 0), .val (.int .i64 0), .val (.int .i64 0), .val (.int .i64 0), .val (.int .i64 0), .val (.int .i64 0), .val (.bool false), .val (.int .i64 0), .val (.int .i64 0)], .val (.int .i64 8)] (by omega) ?_
        simp only [push_cast, Nat.reduceAdd, Nat.reduceSub, Nat.reduceMul, Nat.reduceLeDiff, Nat.reduceLT, Nat.reduceEqDiff, ↓reduceIte, reduceCtorEq, Int.reduceBEq, Int.reduceBNe, Nat.reduceBEq, Int.reduceLE, Int.reduceLT, Int.reduceEq, Int.reduceNe, Int.reduceNeg, Nat.reduceDiv, Nat.reduceMod, Nat.reducePow, cast_lit, Try.results115, hN0, hN]
      · replace h := condF c9 h
        refine W_skip ?_
        try simp only [gthen, gblock]
        refine W_drop [0, 6, 10, 11] [true, true, true] ?_
        simp only [push_cast, seval, ↓reduceIte]
        refine W_seqK ?_
        obtain ⟨y8, hy8, h⟩ := bC h
        refine W_regionD tab_ok [] ?_
        simp only [push_cast, Nat.reduceAdd, Nat.reduceSub, Nat.reduceMul, Nat.reduceLeDiff, Nat.reduceLT, Nat.reduceEqDiff, ↓reduceIte, reduceCtorEq, Int.reduceBEq, Int.reduceBNe, Nat.reduceBEq, Int.reduceLE, Int.reduceLT, Int.reduceEq, Int.reduceNe, Int.reduceNeg, Nat.reduceDiv, Nat.reduceMod, Nat.reducePow, cast_lit, hN0, hN]
        refine (ok_far_target hy8).then ?_
        simp only [push_cast, Nat.reduceAdd, Nat.reduceSub, Nat.reduceMul, Nat.reduceLeDiff, Nat.reduceLT, Nat.reduceEqDiff, ↓reduceIte, reduceCtorEq, Int.reduceBEq, Int.reduceBNe, Nat.reduceBEq, Int.reduceLE, Int.reduceLT, Int.reduceEq, Int.reduceNe, Int.reduceNeg, Nat.reduceDiv, Nat.reduceMod, Nat.reducePow, cast_lit, hN0, hN]
        refine W_drop [6, 7] [true, false, false] ?_
        simp only [push_cast, seval, ↓reduceIte]
        refine W_ret ?_
        try simp only [gthen, gblock]
        have h := Option.some.inj h; subst h
        refine fin_loc (.inr rfl) hU [.agg [.val (.int .i64 y8.1.P.Kind), .val (.int .i64 y8.1.P.Off), .val (.int .i64 y8.1.P.Data), .val (.int .i64 y8.1.P.Ptrs), .val (.int .i64 y8.1.P.Code), .val (.int .i64 y8.1.P.Count), .val (.int .i64 y8.1.P.Segment), .val (.bool y8.1.P.Double), .val (.int .i64 y8.1.Segment), .val (.int .i64 y8.1.At)], .val (.int .i64 y8.2)] (by omega) ?_
        simp only [push_cast, Nat.reduceAdd, Nat.reduceSub, Nat.reduceMul, Nat.reduceLeDiff, Nat.reduceLT, Nat.reduceEqDiff, ↓reduceIte, reduceCtorEq, Int.reduceBEq, Int.reduceBNe, Nat.reduceBEq, Int.reduceLE, Int.reduceLT, Int.reduceEq, Int.reduceNe, Int.reduceNeg, Nat.reduceDiv, Nat.reduceMod, Nat.reducePow, cast_lit, Try.results115, hN0, hN]

theorem ok_far_single {a0 : (Option S_arena_Arena)} {a1 : Int} {a2 : Int} {r : (S_far_Loc × Int)} {O : Objs} {n : Nat} (h : m_far_single a0 a1 a2 = some r) : GTo Try.prog 116 [(gP e_S_arena_Arena a0), .val (.int .i64 a1), .val (.int .i64 a2)] O n (.tup [.agg [.val (.int .i64 r.1.P.Kind), .val (.int .i64 r.1.P.Off), .val (.int .i64 r.1.P.Data), .val (.int .i64 r.1.P.Ptrs), .val (.int .i64 r.1.P.Code), .val (.int .i64 r.1.P.Count), .val (.int .i64 r.1.P.Segment), .val (.bool r.1.P.Double), .val (.int .i64 r.1.Segment), .val (.int .i64 r.1.At)], .val (.int .i64 r.2)]) O n := by
  unfold m_far_single at h
  refine fn_of tab_ok Try.call116 Try.func116 rfl (Nat.le_of_ble_eq_true rfl) (Nat.le_refl _) fun hU => ?_
  have hN0 : O n = none := hU.fresh _ (Nat.le_refl _)
  have hN : ∀ k, O (n + k) = none := fun k => hU.fresh _ (Nat.le_add_right _ _)
  show W _ _ _ _ ⟨34, [], [(0, (gP e_S_arena_Arena a0)), (1, .val (.int .i64 a1)), (2, .val (.int .i64 a2))]⟩ (Loc O n []) _
  refine W_sq [0, 1, 2, 6] (W_regionD tab_ok [] ?_)
  simp only [push_cast, Nat.reduceAdd, Nat.reduceSub, Nat.reduceMul, Nat.reduceLeDiff, Nat.reduceLT, Nat.reduceEqDiff, ↓reduceIte, reduceCtorEq, Int.reduceBEq, Int.reduceBNe, Nat.reduceBEq, Int.reduceLE, Int.reduceLT, Int.reduceEq, Int.reduceNe, Int.reduceNeg, Nat.reduceDiv, Nat.reduceMod, Nat.reducePow, cast_lit, hN0, hN]
  refine W_seqK ?_
  obtain ⟨y2, hy2, h⟩ := bC h
  refine W_regionD tab_ok [] ?_
  simp only [push_cast, Nat.reduceAdd, Nat.reduceSub, Nat.reduceMul, Nat.reduceLeDiff, Nat.reduceLT, Nat.reduceEqDiff, ↓reduceIte, reduceCtorEq, Int.reduceBEq, Int.reduceBNe, Nat.reduceBEq, Int.reduceLE, Int.reduceLT, Int.reduceEq, Int.reduceNe, Int.reduceNeg, Nat.reduceDiv, Nat.reduceMod, Nat.reducePow, cast_lit, hN0, hN]
  refine (ok_arena_Arena_Get hy2).then ?_
  simp only [push_cast, Nat.reduceAdd, Nat.reduceSub, Nat.reduceMul, Nat.reduceLeDiff, Nat.reduceLT, Nat.reduceEqDiff, ↓reduceIte, reduceCtorEq, Int.reduceBEq, Int.reduceBNe, Nat.reduceBEq, Int.reduceLE, Int.reduceLT, Int.reduceEq, Int.reduceNe, Int.reduceNeg, Nat.reduceDiv, Nat.reduceMod, Nat.reducePow, cast_lit, hN0, hN]
  refine W_drop [0, 1, 2, 6, 8, 9] [true] ?_
  simp only [push_cast, seval, ↓reduceIte]
  refine W_seqK ?_
  refine W_sq [0, 1, 2, 6, 8, 19] (W_regionD tab_ok [] ?_)
  simp only [push_cast, Nat.reduceAdd, Nat.reduceSub, Nat.reduceMul, Nat.reduceLeDiff, Nat.reduceLT, Nat.reduceEqDiff, ↓reduceIte, reduceCtorEq, Int.reduceBEq, Int.reduceBNe, Nat.reduceBEq, Int.reduceLE, Int.reduceLT, Int.reduceEq, Int.reduceNe, Int.reduceNeg, Nat.reduceDiv, Nat.reduceMod, Nat.reducePow, cast_lit, hN0, hN]
  refine W_cond (t := (!y2.2)) rfl (fun c7 => ?_) (fun c7 => ?_)
  · replace h := condT c7 h
    refine W_seqK ?_
    refine W_regionD tab_ok [] ?_
    simp only [push_cast, Nat.reduceAdd, Nat.reduceSub, Nat.reduceMul, Nat.reduceLeDiff, Nat.reduceLT, Nat.reduceEqDiff, ↓reduceIte, reduceCtorEq, Int.reduceBEq, Int.reduceBNe, Nat.reduceBEq, Int.reduceLE, Int.reduceLT, Int.reduceEq, Int.reduceNe, Int.reduceNeg, Nat.reduceDiv, Nat.reduceMod, Nat.reducePow, cast_lit, hN0, hN]
    refine W_drop [6, 7] [true] ?_
    simp only [push_cast, seval, ↓reduceIte]
    refine W_ret ?_
    try simp only [gthen, gblock]
    have h := Option.some.inj h; subst h
    refine fin_loc (.inr rfl) hU [.agg [.val (.int .i64 0), .val (.int .i64 0), .val (.int .i64 0), .val (.int .i64 0), .val (.int .i64 0), .val (.int .i64 0), .val (.int .i64 0), .val (.bool false), .val (.int .i64 0), .val (.int .i64 0)], .val (.int .i64 7)] (by omega) ?_
    simp only [push_cast, Nat.reduceAdd, Nat.reduceSub, Nat.reduceMul, Nat.reduceLeDiff, Nat.reduceLT, Nat.reduceEqDiff, ↓reduceIte, reduceCtorEq, Int.reduceBEq, Int.reduceBNe, Nat.reduceBEq, Int.reduceLE, Int.reduceLT, Int.reduceEq, Int.reduceNe, Int.reduceNeg, Nat.reduceDiv, Nat.reduceMod, Nat.reducePow, cast_lit, Try.results116, hN0, hN]
  · replace h := condF c7 h
    refine W_skip ?_
    try simp only [gthen, gblock]
    refine W_drop [0, 1, 2, 6, 8] [true] ?_
    simp only [push_cast, seval, ↓reduceIte]
    refine W_seqK ?_
    obtain ⟨y4, hy4, h⟩ := bC h
    refine W_regionD tab_ok [] ?_
    simp only [push_cast, Nat.reduceAdd, Nat.reduceSub, Nat.reduceMul, Nat.reduceLeDiff, Nat.reduceLT, Nat.reduceEqDiff, ↓reduceIte, reduceCtorEq, Int.reduceBEq, Int.reduceBNe, Nat.reduceBEq, Int.reduceLE, Int.reduceLT, Int.reduceEq, Int.reduceNe, Int.reduceNeg, Nat.reduceDiv, Nat.reduceMod, Nat.reducePow, cast_lit, hN0, hN]
    refine (ok_ptr_Decode hy4).then ?_
    simp only [push_cast, Nat.reduceAdd, Nat.reduceSub, Nat.reduceMul, Nat.reduceLeDiff, Nat.reduceLT, Nat.reduceEqDiff, ↓reduceIte, reduceCtorEq, Int.reduceBEq, Int.reduceBNe, Nat.reduceBEq, Int.reduceLE, Int.reduceLT, Int.reduceEq, Int.reduceNe, Int.reduceNeg, Nat.reduceDiv, Nat.reduceMod, Nat.reducePow, cast_lit, hN0, hN]
    refine W_drop [0, 1, 2, 6, 10] [true, true] ?_
    simp only [push_cast, seval, ↓reduceIte]
    refine W_seqK ?_
    obtain ⟨y6, hy6, h⟩ := bC h
    refine W_regionD tab_ok [] ?_
    simp only [push_cast, Nat.reduceAdd, Nat.reduceSub, Nat.reduceMul, Nat.reduceLeDiff, Nat.reduceLT, Nat.reduceEqDiff, ↓reduceIte, reduceCtorEq, Int.reduceBEq, Int.reduceBNe, Nat.reduceBEq, Int.reduceLE, Int.reduceLT, Int.reduceEq, Int.reduceNe, Int.reduceNeg, Nat.reduceDiv, Nat.reduceMod, Nat.reducePow, cast_lit, hN0, hN]
    refine (ok_far_target hy6).then ?_
    simp only [push_cast, Nat.reduceAdd, Nat.reduceSub, Nat.reduceMul, Nat.reduceLeDiff, Nat.reduceLT, Nat.reduceEqDiff, ↓reduceIte, reduceCtorEq, Int.reduceBEq, Int.reduceBNe, Nat.reduceBEq, Int.reduceLE, Int.reduceLT, Int.reduceEq, Int.reduceNe, Int.reduceNeg, Nat.reduceDiv, Nat.reduceMod, Nat.reducePow, cast_lit, hN0, hN]
    refine W_drop [6, 7] [true, false] ?_
    simp only [push_cast, seval, ↓reduceIte]
    refine W_ret ?_
    try simp only [gthen, gblock]
    have h := Option.some.inj h; subst h
    refine fin_loc (.inr rfl) hU [.agg [.val (.int .i64 y6.1.P.Kind), .val (.int .i64 y6.1.P.Off), .val (.int .i64 y6.1.P.Data), .val (.int .i64 y6.1.P.Ptrs), .val (.int .i64 y6.1.P.Code), .val (.int .i64 y6.1.P.Count), .val (.int .i64 y6.1.P.Segment), .val (.bool y6.1.P.Double), .val (.int .i64 y6.1.Segment), .val (.int .i64 y6.1.At)], .val (.int .i64 y6.2)] (by omega) ?_
    simp only [push_cast, Nat.reduceAdd, Nat.reduceSub, Nat.reduceMul, Nat.reduceLeDiff, Nat.reduceLT, Nat.reduceEqDiff, ↓reduceIte, reduceCtorEq, Int.reduceBEq, Int.reduceBNe, Nat.reduceBEq, Int.reduceLE, Int.reduceLT, Int.reduceEq, Int.reduceNe, Int.reduceNeg, Nat.reduceDiv, Nat.reduceMod, Nat.reducePow, cast_lit, Try.results116, hN0, hN]

theorem ok_far_Follow {a0 : (Option S_arena_Arena)} {a1 : Int} {a2 : Int} {r : (S_far_Loc × Int)} {O : Objs} {n : Nat} (h : m_far_Follow a0 a1 a2 = some r) : GTo Try.prog 81 [(gP e_S_arena_Arena a0), .val (.int .i64 a1), .val (.int .i64 a2)] O n (.tup [.agg [.val (.int .i64 r.1.P.Kind), .val (.int .i64 r.1.P.Off), .val (.int .i64 r.1.P.Data), .val (.int .i64 r.1.P.Ptrs), .val (.int .i64 r.1.P.Code), .val (.int .i64 r.1.P.Count), .val (.int .i64 r.1.P.Segment), .val (.bool r.1.P.Double), .val (.int .i64 r.1.Segment), .val (.int .i64 r.1.At)], .val (.int .i64 r.2)]) O n := by
  unfold m_far_Follow at h
  refine fn_of tab_ok Try.call81 Try.func81 rfl (Nat.le_of_ble_eq_true rfl) (Nat.le_refl _) fun hU => ?_
  have hN0 : O n = none := hU.fresh _ (Nat.le_refl _)
  have hN : ∀ k, O (n + k) = none := fun k => hU.fresh _ (Nat.le_add_right _ _)
  show W _ _ _ _ ⟨67, [], [(0, (gP e_S_arena_Arena a0)), (1, .val (.int .i64 a1)), (2, .val (.int .i64 a2))]⟩ (Loc O n []) _
  refine W_sq [0, 1, 2, 6] (W_regionD tab_ok [] ?_)
  simp only [push_cast, Nat.reduceAdd, Nat.reduceSub, Nat.reduceMul, Nat.reduceLeDiff, Nat.reduceLT, Nat.reduceEqDiff, ↓reduceIte, reduceCtorEq, Int.reduceBEq, Int.reduceBNe, Nat.reduceBEq, Int.reduceLE, Int.reduceLT, Int.reduceEq, Int.reduceNe, Int.reduceNeg, Nat.reduceDiv, Nat.reduceMod, Nat.reducePow, cast_lit, hN0, hN]
  refine W_seqK ?_
  obtain ⟨y2, hy2, h⟩ := bC h
  refine W_regionD tab_ok [] ?_
  simp only [push_cast, Nat.reduceAdd, Nat.reduceSub, Nat.reduceMul, Nat.reduceLeDiff, Nat.reduceLT, Nat.reduceEqDiff, ↓reduceIte, reduceCtorEq, Int.reduceBEq, Int.reduceBNe, Nat.reduceBEq, Int.reduceLE, Int.reduceLT, Int.reduceEq, Int.reduceNe, Int.reduceNeg, Nat.reduceDiv, Nat.reduceMod, Nat.reducePow, cast_lit, hN0, hN]
  refine (ok_arena_Arena_Get hy2).then ?_
  simp only [push_cast, Nat.reduceAdd, Nat.reduceSub, Nat.reduceMul, Nat.reduceLeDiff, Nat.reduceLT, Nat.reduceEqDiff, ↓reduceIte, reduceCtorEq, Int.reduceBEq, Int.reduceBNe, Nat.reduceBEq, Int.reduceLE, Int.reduceLT, Int.reduceEq, Int.reduceNe, Int.reduceNeg, Nat.reduceDiv, Nat.reduceMod, Nat.reducePow, cast_lit, hN0, hN]
  refine W_drop [0, 1, 2, 6, 8, 9] [true] ?_
  simp only [push_cast, seval, ↓reduceIte]
  refine W_seqK ?_
  refine W_sq [0, 1, 2, 6, 8, 19] (W_regionD tab_ok [] ?_)
  simp only [push_cast, Nat.reduceAdd, Nat.reduceSub, Nat.reduceMul, Nat.reduceLeDiff, Nat.reduceLT, Nat.reduceEqDiff, ↓reduceIte, reduceCtorEq, Int.reduceBEq, Int.reduceBNe, Nat.reduceBEq, Int.reduceLE, Int.reduceLT, Int.reduceEq, Int.reduceNe, Int.reduceNeg, Nat.reduceDiv, Nat.reduceMod, Nat.reducePow, cast_lit, hN0, hN]
  refine W_cond (t := (!y2.2)) rfl (fun c14 => ?_) (fun c14 => ?_)
  · replace h := condT c14 h
    refine W_seqK ?_
    refine W_regionD tab_ok [] ?_
    simp only [push_cast, Nat.reduceAdd, Nat.reduceSub, Nat.reduceMul, Nat.reduceLeDiff, Nat.reduceLT, Nat.reduceEqDiff, ↓reduceIte, reduceCtorEq, Int.reduceBEq, Int.reduceBNe, Nat.reduceBEq, Int.reduceLE, Int.reduceLT, Int.reduceEq, Int.reduceNe, Int.reduceNeg, Nat.reduceDiv, Nat.reduceMod, Nat.reducePow, cast_lit, hN0, hN]
    refine W_drop [6, 7] [true] ?_
    simp only [push_cast, seval, ↓reduceIte]
    refine W_ret ?_
    try simp only [gthen, gblock]
    have h := Option.some.inj h; subst h
    refine fin_loc (.inr rfl) hU [.agg [.val (.int .i64 0), .val (.int .i64 0), .val (.int .i64 0), .val (.int .i64 0), .val (.int .i64 0), .val (.int .i64 0), .val (.int .i64 0), .val (.bool false), .val (.int .i64 0), .val (.int .i64 0)], .val (.int .i64 7)] (by omega) ?_
    simp only [push_cast, Nat.reduceAdd, Nat.reduceSub, Nat.reduceMul, Nat.reduceLeDiff, Nat.reduceLT, Nat.reduceEqDiff, ↓reduceIte, reduceCtorEq, Int.reduceBEq, Int.reduceBNe, Nat.reduceBEq, Int.reduceLE, Int.reduceLT, Int.reduceEq, Int.reduceNe, Int.reduceNeg, Nat.reduceDiv, Nat.reduceMod, Nat.reducePow, cast_lit, Try.results81, hN0, hN]
  · replace h := condF c14 h
    refine W_skip ?_
    try simp only [gthen, gblock]
    refine W_drop [0, 1, 2, 6, 8] [true] ?_
    simp only [push_cast, seval, ↓reduceIte]
    refine W_seqK ?_
    obtain ⟨y4, hy4, h⟩ := bC h
    refine W_regionD tab_ok [] ?_
    simp only [push_cast, Nat.reduceAdd, Nat.reduceSub, Nat.reduceMul, Nat.reduceLeDiff, Nat.reduceLT, Nat.reduceEqDiff, ↓reduceIte, reduceCtorEq, Int.reduceBEq, Int.reduceBNe, Nat.reduceBEq, Int.reduceLE, Int.reduceLT, Int.reduceEq, Int.reduceNe, Int.reduceNeg, Nat.reduceDiv, Nat.reduceMod, Nat.reducePow, cast_lit, hN0, hN]
    refine (ok_ptr_Decode hy4).then ?_
    simp only [push_cast, Nat.reduceAdd, Nat.reduceSub, Nat.reduceMul, Nat.reduceLeDiff, Nat.reduceLT, Nat.reduceEqDiff, ↓reduceIte, reduceCtorEq, Int.reduceBEq, Int.reduceBNe, Nat.reduceBEq, Int.reduceLE, Int.reduceLT, Int.reduceEq, Int.reduceNe, Int.reduceNeg, Nat.reduceDiv, Nat.reduceMod, Nat.reducePow, cast_lit, hN0, hN]
    refine W_drop [0, 1, 2, 6, 10] [true, true] ?_
    simp only [push_cast, seval, ↓reduceIte]
    refine W_seqK ?_
    refine W_block ?_
    refine W_sq [0, 1, 2, 6, 10, 23] (W_regionD tab_ok [] ?_)
    simp only [push_cast, Nat.reduceAdd, Nat.reduceSub, Nat.reduceMul, Nat.reduceLeDiff, Nat.reduceLT, Nat.reduceEqDiff, ↓reduceIte, reduceCtorEq, Int.reduceBEq, Int.reduceBNe, Nat.reduceBEq, Int.reduceLE, Int.reduceLT, Int.reduceEq, Int.reduceNe, Int.reduceNeg, Nat.reduceDiv, Nat.reduceMod, Nat.reducePow, cast_lit, hN0, hN]
    refine W_cond (t := (y4.Kind == 0)) rfl (fun c13 => ?_) (fun c13 => ?_)
    · replace h := condT c13 h
      refine W_seqK ?_
      refine W_regionD tab_ok [] ?_
      simp only [push_cast, Nat.reduceAdd, Nat.reduceSub, Nat.reduceMul, Nat.reduceLeDiff, Nat.reduceLT, Nat.reduceEqDiff, ↓reduceIte, reduceCtorEq, Int.reduceBEq, Int.reduceBNe, Nat.reduceBEq, Int.reduceLE, Int.reduceLT, Int.reduceEq, Int.reduceNe, Int.reduceNeg, Nat.reduceDiv, Nat.reduceMod, Nat.reducePow, cast_lit, hN0, hN]
      refine W_drop [6, 7] [true, false] ?_
      simp only [push_cast, seval, ↓reduceIte]
      refine W_ret ?_
      try simp only [gthen, gblock]
      have h := Option.some.inj h; subst h
      refine fin_loc (.inr rfl) hU [.agg [.val (.int .i64 0), .val (.int .i64 0), .val (.int .i64 0), .val (.int .i64 0), .val (.int .i64 0), .val (.int .i64 0), .val (.int .i64 0), .val (.bool false), .val (.int .i64 0), .val (.int .i64 0)], .val (.int .i64 0)] (by omega) ?_
      simp only [push_cast, Nat.reduceAdd, Nat.reduceSub, Nat.reduceMul, Nat.reduceLeDiff, Nat.reduceLT, Nat.reduceEqDiff, ↓reduceIte, reduceCtorEq, Int.reduceBEq, Int.reduceBNe, Nat.reduceBEq, Int.reduceLE, Int.reduceLT, Int.reduceEq, Int.reduceNe, Int.reduceNeg, Nat.reduceDiv, Nat.reduceMod, Nat.reducePow, cast_lit, Try.results81, hN0, hN]
    · replace h := condF c13 h
      refine W_sq [0, 1, 2, 6, 10, 28] (W_regionD tab_ok [none, none] ?_)
      simp only [push_cast, Nat.reduceAdd, Nat.reduceSub, Nat.reduceMul, Nat.reduceLeDiff, Nat.reduceLT, Nat.reduceEqDiff, ↓reduceIte, reduceCtorEq, Int.reduceBEq, Int.reduceBNe, Nat.reduceBEq, Int.reduceLE, Int.reduceLT, Int.reduceEq, Int.reduceNe, Int.reduceNeg, Nat.reduceDiv, Nat.reduceMod, Nat.reducePow, cast_lit, hN0, hN]
      repeat (with_reducible refine And.intro (by first | (intro h0; simp only [h0, and_self]; done) | (intro h0; simp only [h0, Bool.not_false, Bool.not_true, Bool.true_and, Bool.and_true, true_and, and_true, and_self, imp_self, implies_true, bne_iff_ne, ne_eq, beq_iff_eq]; done) | (intros; simp_all; done) | exact True.intro) ?_)
      refine W_cond (t := (cond (y4.Kind == 3) y4.Double false)) rfl (fun c12 => ?_) (fun c12 => ?_)
      · replace h := condT c12 h
        refine W_seqK ?_
        obtain ⟨y6, hy6, h⟩ := bC h
        refine W_regionD tab_ok [] ?_
        simp only [push_cast, Nat.reduceAdd, Nat.reduceSub, Nat.reduceMul, Nat.reduceLeDiff, Nat.reduceLT, Nat.reduceEqDiff, ↓reduceIte, reduceCtorEq, Int.reduceBEq, Int.reduceBNe, Nat.reduceBEq, Int.reduceLE, Int.reduceLT, Int.reduceEq, Int.reduceNe, Int.reduceNeg, Nat.reduceDiv, Nat.reduceMod, Nat.reducePow, cast_lit, hN0, hN]
        refine (ok_far_double hy6).then ?_
        simp only [push_cast, Nat.reduceAdd, Nat.reduceSub, Nat.reduceMul, Nat.reduceLeDiff, Nat.reduceLT, Nat.reduceEqDiff, ↓reduceIte, reduceCtorEq, Int.reduceBEq, Int.reduceBNe, Nat.reduceBEq, Int.reduceLE, Int.reduceLT, Int.reduceEq, Int.reduceNe, Int.reduceNeg, Nat.reduceDiv, Nat.reduceMod, Nat.reducePow, cast_lit, hN0, hN]
        refine W_drop [6, 7] [true, false] ?_
        simp only [push_cast, seval, ↓reduceIte]
        refine W_ret ?_
        try simp only [gthen, gblock]
        have h := Option.some.inj h; subst h
        refine fin_loc (.inr rfl) hU [.agg [.val (.int .i64 y6.1.P.Kind), .val (.int .i64 y6.1.P.Off), .val (.int .i64 y6.1.P.Data), .val (.int .i64 y6.1.P.Ptrs), .val (.int .i64 y6.1.P.Code), .val (.int .i64 y6.1.P.Count), .val (.int .i64 y6.1.P.Segment), .val (.bool y6.1.P.Double), .val (.int .i64 y6.1.Segment), .val (.int .i64 y6.1.At)], .val (.int .i64 y6.2)] (by omega) ?_
        simp only [push_cast, Nat.reduceAdd, Nat.reduceSub, Nat.reduceMul, Nat.reduceLeDiff, Nat.reduceLT, Nat.reduceEqDiff, ↓reduceIte, reduceCtorEq, Int.reduceBEq, Int.reduceBNe, Nat.reduceBEq, Int.reduceLE, Int.reduceLT, Int.reduceEq, Int.reduceNe, Int.reduceNeg, Nat.reduceDiv, Nat.reduceMod, Nat.reducePow, cast_lit, Try.results81, hN0, hN]
      · replace h := condF c12 h
        refine W_sq [0, 1, 2, 6, 10, 44] (W_regionD tab_ok [] ?_)
        simp only [push_cast, Nat.reduceAdd, Nat.reduceSub, Nat.reduceMul, Nat.reduceLeDiff, Nat.reduceLT, Nat.reduceEqDiff, ↓reduceIte, reduceCtorEq, Int.reduceBEq, Int.reduceBNe, Nat.reduceBEq, Int.reduceLE, Int.reduceLT, Int.reduceEq, Int.reduceNe, Int.reduceNeg, Nat.reduceDiv, Nat.reduceMod, Nat.reducePow, cast_lit, hN0, hN]
        refine W_cond (t := (y4.Kind == 3)) rfl (fun c11 => ?_) (fun c11 => ?_)
        · replace h := condT c11 h
          refine W_seqK ?_
          obtain ⟨y8, hy8, h⟩ := bC h
          refine W_regionD tab_ok [] ?_
          simp only [push_cast, Nat.reduceAdd, Nat.reduceSub, Nat.reduceMul, Nat.reduceLeDiff, Nat.reduceLT, Nat.reduceEqDiff, ↓reduceIte, reduceCtorEq, Int.reduceBEq, Int.reduceBNe, Nat.reduceBEq, Int.reduceLE, Int.reduceLT, Int.reduceEq, Int.reduceNe, Int.reduceNeg, Nat.reduceDiv, Nat.reduceMod, Nat.reducePow, cast_lit, hN0, hN]
          refine (ok_far_single hy8).then ?_
          simp only [push_cast, Nat.reduceAdd, Nat.reduceSub, Nat.reduceMul, Nat.reduceLeDiff, Nat.reduceLT, Nat.reduceEqDiff, ↓reduceIte, reduceCtorEq, Int.reduceBEq, Int.reduceBNe, Nat.reduceBEq, Int.reduceLE, Int.reduceLT, Int.reduceEq, Int.reduceNe, Int.reduceNeg, Nat.reduceDiv, Nat.reduceMod, Nat.reducePow, cast_lit, hN0, hN]
          refine W_drop [6, 7] [true, false] ?_
          simp only [push_cast, seval, ↓reduceIte]
          refine W_ret ?_
          try simp only [gthen, gblock]
          have h := Option.some.inj h; subst h
          refine fin_loc (.inr rfl) hU [.agg [.val (.int .i64 y8.1.P.Kind), .val (.int .i64 y8.1.P.Off), .val (.int .i64 y8.1.P.Data), .val (.int .i64 y8.1.P.Ptrs), .val (.int .i64 y8.1.P.Code), .val (.int .i64 y8.1.P.Count), .val (.int .i64 y8.1.P.Segment), .val (.bool y8.1.P.Double), .val (.int .i64 y8.1.Segment), .val (.int .i64 y8.1.At)], .val (.int .i64 y8.2)] (by omega) ?_
          simp only [push_cast, Nat.reduceAdd, Nat.reduceSub, Nat.reduceMul, Nat.reduceLeDiff, Nat.reduceLT, Nat.reduceEqDiff, ↓reduceIte, reduceCtorEq, Int.reduceBEq, Int.reduceBNe, Nat.reduceBEq, Int.reduceLE, Int.reduceLT, Int.reduceEq, Int.reduceNe, Int.reduceNeg, Nat.reduceDiv, Nat.reduceMod, Nat.reducePow, cast_lit, Try.results81, hN0, hN]
        · replace h := condF c11 h
          refine W_skip ?_
          try simp only [gthen, gblock]
          refine W_drop [0, 1, 2, 6, 10] [true, true] ?_
          simp only [push_cast, seval, ↓reduceIte]
          refine W_seqK ?_
          obtain ⟨y10, hy10, h⟩ := bC h
          refine W_regionD tab_ok [] ?_
          simp only [push_cast, Nat.reduceAdd, Nat.reduceSub, Nat.reduceMul, Nat.reduceLeDiff, Nat.reduceLT, Nat.reduceEqDiff, ↓reduceIte, reduceCtorEq, Int.reduceBEq, Int.reduceBNe, Nat.reduceBEq, Int.reduceLE, Int.reduceLT, Int.reduceEq, Int.reduceNe, Int.reduceNeg, Nat.reduceDiv, Nat.reduceMod, Nat.reducePow, cast_lit, hN0, hN]
          refine (ok_far_target hy10).then ?_
          simp only [push_cast, Nat.reduceAdd, Nat.reduceSub, Nat.reduceMul, Nat.reduceLeDiff, Nat.reduceLT, Nat.reduceEqDiff, ↓reduceIte, reduceCtorEq, Int.reduceBEq, Int.reduceBNe, Nat.reduceBEq, Int.reduceLE, Int.reduceLT, Int.reduceEq, Int.reduceNe, Int.reduceNeg, Nat.reduceDiv, Nat.reduceMod, Nat.reducePow, cast_lit, hN0, hN]
          refine W_drop [6, 7] [true, false] ?_
          simp only [push_cast, seval, ↓reduceIte]
          refine W_ret ?_
          try simp only [gthen, gblock]
          have h := Option.some.inj h; subst h
          refine fin_loc (.inr rfl) hU [.agg [.val (.int .i64 y10.1.P.Kind), .val (.int .i64 y10.1.P.Off), .val (.int .i64 y10.1.P.Data), .val (.int .i64 y10.1.P.Ptrs), .val (.int .i64 y10.1.P.Code), .val (.int .i64 y10.1.P.Count), .val (.int .i64 y10.1.P.Segment), .val (.bool y10.1.P.Double), .val (.int .i64 y10.1.Segment), .val (.int .i64 y10.1.At)], .val (.int .i64 y10.2)] (by omega) ?_
          simp only [push_cast, Nat.reduceAdd, Nat.reduceSub, Nat.reduceMul, Nat.reduceLeDiff, Nat.reduceLT, Nat.reduceEqDiff, ↓reduceIte, reduceCtorEq, Int.reduceBEq, Int.reduceBNe, Nat.reduceBEq, Int.reduceLE, Int.reduceLT, Int.reduceEq, Int.reduceNe, Int.reduceNeg, Nat.reduceDiv, Nat.reduceMod, Nat.reducePow, cast_lit, Try.results81, hN0, hN]

theorem ok_reader_composite {a0 : S_reader_Ref} {r : (S_reader_Ref × Int)} {O : Objs} {n : Nat} (h : m_reader_composite a0 = some r) : GTo Try.prog 82 [.agg [(gP e_S_arena_Arena a0.a), .val (.int .i64 a0.kind), .val (.int .i64 a0.segment), .val (.int .i64 a0.at_), .val (.int .i64 a0.words), .val (.int .i64 a0.ptrs), .val (.int .i64 a0.count), .val (.int .i64 a0.code), .val (.int .i64 a0.index)]] O n (.tup [.agg [(gP e_S_arena_Arena r.1.a), .val (.int .i64 r.1.kind), .val (.int .i64 r.1.segment), .val (.int .i64 r.1.at_), .val (.int .i64 r.1.words), .val (.int .i64 r.1.ptrs), .val (.int .i64 r.1.count), .val (.int .i64 r.1.code), .val (.int .i64 r.1.index)], .val (.int .i64 r.2)]) O n := by
  unfold m_reader_composite at h
  refine fn_of tab_ok Try.call82 Try.func82 rfl (Nat.le_of_ble_eq_true rfl) (Nat.le_refl _) fun hU => ?_
  have hN0 : O n = none := hU.fresh _ (Nat.le_refl _)
  have hN : ∀ k, O (n + k) = none := fun k => hU.fresh _ (Nat.le_add_right _ _)
  show W _ _ _ _ ⟨56, [], [(0, .agg [(gP e_S_arena_Arena a0.a), .val (.int .i64 a0.kind), .val (.int .i64 a0.segment), .val (.int .i64 a0.at_), .val (.int .i64 a0.words), .val (.int .i64 a0.ptrs), .val (.int .i64 a0.count), .val (.int .i64 a0.code), .val (.int .i64 a0.index)])]⟩ (Loc O n []) _
  refine W_sq [1, 2] (W_regionD tab_ok [] ?_)
  simp only [push_cast, Nat.reduceAdd, Nat.reduceSub, Nat.reduceMul, Nat.reduceLeDiff, Nat.reduceLT, Nat.reduceEqDiff, ↓reduceIte, reduceCtorEq, Int.reduceBEq, Int.reduceBNe, Nat.reduceBEq, Int.reduceLE, Int.reduceLT, Int.reduceEq, Int.reduceNe, Int.reduceNeg, Nat.reduceDiv, Nat.reduceMod, Nat.reducePow, cast_lit, hN0, hN]
  refine W_seqK ?_
  obtain ⟨y2, hy2, h⟩ := bC h
  refine W_regionD tab_ok [] ?_
  simp only [push_cast, Nat.reduceAdd, Nat.reduceSub, Nat.reduceMul, Nat.reduceLeDiff, Nat.reduceLT, Nat.reduceEqDiff, ↓reduceIte, reduceCtorEq, Int.reduceBEq, Int.reduceBNe, Nat.reduceBEq, Int.reduceLE, Int.reduceLT, Int.reduceEq, Int.reduceNe, Int.reduceNeg, Nat.reduceDiv, Nat.reduceMod, Nat.reducePow, cast_lit, hN0, hN]
  refine (ok_arena_Arena_Get hy2).then ?_
  simp only [push_cast, Nat.reduceAdd, Nat.reduceSub, Nat.reduceMul, Nat.reduceLeDiff, Nat.reduceLT, Nat.reduceEqDiff, ↓reduceIte, reduceCtorEq, Int.reduceBEq, Int.reduceBNe, Nat.reduceBEq, Int.reduceLE, Int.reduceLT, Int.reduceEq, Int.reduceNe, Int.reduceNeg, Nat.reduceDiv, Nat.reduceMod, Nat.reducePow, cast_lit, hN0, hN]
  refine W_drop [1, 2, 4] [true, true] ?_
  simp only [push_cast, seval, ↓reduceIte]
  refine W_seqK ?_
  obtain ⟨y4, hy4, h⟩ := bC h
  refine W_regionD tab_ok [] ?_
  simp only [push_cast, Nat.reduceAdd, Nat.reduceSub, Nat.reduceMul, Nat.reduceLeDiff, Nat.reduceLT, Nat.reduceEqDiff, ↓reduceIte, reduceCtorEq, Int.reduceBEq, Int.reduceBNe, Nat.reduceBEq, Int.reduceLE, Int.reduceLT, Int.reduceEq, Int.reduceNe, Int.reduceNeg, Nat.reduceDiv, Nat.reduceMod, Nat.reducePow, cast_lit, hN0, hN]
  refine (ok_ptr_Decode hy4).then ?_
  simp only [push_cast, Nat.reduceAdd, Nat.reduceSub, Nat.reduceMul, Nat.reduceLeDiff, Nat.reduceLT, Nat.reduceEqDiff, ↓reduceIte, reduceCtorEq, Int.reduceBEq, Int.reduceBNe, Nat.reduceBEq, Int.reduceLE, Int.reduceLT, Int.reduceEq, Int.reduceNe, Int.reduceNeg, Nat.reduceDiv, Nat.reduceMod, Nat.reducePow, cast_lit, hN0, hN]
  refine W_drop [1, 2, 6] [true, true, true] ?_
  simp only [push_cast, seval, ↓reduceIte]
  refine W_seqK ?_
  refine W_sq [1, 2, 6, 44] (W_regionD tab_ok [none, none, none, none, none, none, none, none, none, none, none, none, none, none, none, none, none] ?_)
  simp only [push_cast, Nat.reduceAdd, Nat.reduceSub, Nat.reduceMul, Nat.reduceLeDiff, Nat.reduceLT, Nat.reduceEqDiff, ↓reduceIte, reduceCtorEq, Int.reduceBEq, Int.reduceBNe, Nat.reduceBEq, Int.reduceLE, Int.reduceLT, Int.reduceEq, Int.reduceNe, Int.reduceNeg, Nat.reduceDiv, Nat.reduceMod, Nat.reducePow, cast_lit, hN0, hN]
  repeat (with_reducible refine And.intro (by first | (intro h0; simp only [h0, and_self]; done) | (intro h0; simp only [h0, Bool.not_false, Bool.not_true, Bool.true_and, Bool.and_true, true_and, and_true, and_self, imp_self, implies_true, bne_iff_ne, ne_eq, beq_iff_eq]; done) | (intros; simp_all; done) | exact True.intro) ?_)
  refine W_cond (t := (cond (cond (cond (y4.Kind != 0) (y4.Kind != 1) false) true (decide (y4.Off < 0))) true (decide (a0.count < (IntKind.i64.wrap (y4.Off * (IntKind.i64.wrap (y4.Data + y4.Ptrs)))))))) rfl (fun c5 => ?_) (fun c5 => ?_)
  · replace h := condT c5 h
    refine W_seqK ?_
    refine W_regionD tab_ok [] ?_
    simp only [push_cast, Nat.reduceAdd, Nat.reduceSub, Nat.reduceMul, Nat.reduceLeDiff, Nat.reduceLT, Nat.reduceEqDiff, ↓reduceIte, reduceCtorEq, Int.reduceBEq, Int.reduceBNe, Nat.reduceBEq, Int.reduceLE, Int.reduceLT, Int.reduceEq, Int.reduceNe, Int.reduceNeg, Nat.reduceDiv, Nat.reduceMod, Nat.reducePow, cast_lit, hN0, hN]
    refine W_drop [2, 3] [false, true, false] ?_
    simp only [push_cast, seval, ↓reduceIte]
    refine W_ret ?_
    try simp only [gthen, gblock]
    have h := Option.some.inj h; subst h
    refine fin_loc (.inr rfl) hU [.agg [.val (.pointer none), .val (.int .i64 0), .val (.int .i64 0), .val (.int .i64 0), .val (.int .i64 0), .val (.int .i64 0), .val (.int .i64 0), .val (.int .i64 0), .val (.int .i64 0)], .val (.int .i64 8)] (by omega) ?_
    simp only [push_cast, Nat.reduceAdd, Nat.reduceSub, Nat.reduceMul, Nat.reduceLeDiff, Nat.reduceLT, Nat.reduceEqDiff, ↓reduceIte, reduceCtorEq, Int.reduceBEq, Int.reduceBNe, Nat.reduceBEq, Int.reduceLE, Int.reduceLT, Int.reduceEq, Int.reduceNe, Int.reduceNeg, Nat.reduceDiv, Nat.reduceMod, Nat.reducePow, cast_lit, Try.results82, hN0, hN]
  · replace h := condF c5 h
    refine W_skip ?_
    try simp only [gthen, gblock]
    refine W_drop [1, 2, 6] [true, true, true] ?_
    simp only [push_cast, seval, ↓reduceIte]
    refine W_seqK ?_
    refine W_drawY tab_ok (by kernel_rfl) [.plain, .plain, .low, .low, .low, .low, .plain, .pass, .plain, .pass, .plain, .bar] (fun i => i ≠ n + 0) [0, 1, 2, 3, 4, 5, 6, 7, 8, 9, 10, 11] [.plain, .plain, .low, .low, .low, .low, .plain, .pass, .plain, .pass, .plain, .bar] [] (by kernel_rfl) rfl ?_
    simp only [push_cast, Nat.reduceAdd, Nat.reduceSub, Nat.reduceMul, Nat.reduceLeDiff, Nat.reduceLT, Nat.reduceEqDiff, ↓reduceIte, reduceCtorEq, Int.reduceBEq, Int.reduceBNe, Nat.reduceBEq, Int.reduceLE, Int.reduceLT, Int.reduceEq, Int.reduceNe, Int.reduceNeg, Nat.reduceDiv, Nat.reduceMod, Nat.reducePow, cast_lit, hN0, hN]
    repeat (with_reducible refine And.intro (by first | omega | exact agree_loc rfl | exact agree_loc0 | exact agree_ne0 rfl | exact agree_ne rfl rfl | exact agree_ltne rfl | exact agree_ltne0 rfl) ?_)
    refine W_drop [1, 2] [true, true, false] ?_
    simp only [push_cast, seval, ↓reduceIte]
    refine W_seqK ?_
    refine W_regionD tab_ok [] ?_
    simp only [push_cast, Nat.reduceAdd, Nat.reduceSub, Nat.reduceMul, Nat.reduceLeDiff, Nat.reduceLT, Nat.reduceEqDiff, ↓reduceIte, reduceCtorEq, Int.reduceBEq, Int.reduceBNe, Nat.reduceBEq, Int.reduceLE, Int.reduceLT, Int.reduceEq, Int.reduceNe, Int.reduceNeg, Nat.reduceDiv, Nat.reduceMod, Nat.reducePow, cast_lit, hN0, hN]
    refine W_drop [2, 3] [false, true, false] ?_
    simp only [push_cast, seval, ↓reduceIte]
    refine W_ret ?_
    try simp only [gthen, gblock]
    have h := Option.some.inj h; subst h
    refine fin_loc (.inr rfl) hU [.agg [(gP e_S_arena_Arena a0.a), .val (.int .i64 a0.kind), .val (.int .i64 a0.segment), .val (.int .i64 a0.at_), .val (.int .i64 y4.Data), .val (.int .i64 y4.Ptrs), .val (.int .i64 y4.Off), .val (.int .i64 a0.code), .val (.int .i64 a0.index)], .val (.int .i64 0)] (by omega) ?_
    simp only [push_cast, Nat.reduceAdd, Nat.reduceSub, Nat.reduceMul, Nat.reduceLeDiff, Nat.reduceLT, Nat.reduceEqDiff, ↓reduceIte, reduceCtorEq, Int.reduceBEq, Int.reduceBNe, Nat.reduceBEq, Int.reduceLE, Int.reduceLT, Int.reduceEq, Int.reduceNe, Int.reduceNeg, Nat.reduceDiv, Nat.reduceMod, Nat.reducePow, cast_lit, Try.results82, hN0, hN]

theorem ok_reader_At {a0 : (Option S_arena_Arena)} {a1 : Int} {a2 : Int} {r : (S_reader_Ref × Int)} {O : Objs} {n : Nat} (h : m_reader_At a0 a1 a2 = some r) : GTo Try.prog 49 [(gP e_S_arena_Arena a0), .val (.int .i64 a1), .val (.int .i64 a2)] O n (.tup [.agg [(gP e_S_arena_Arena r.1.a), .val (.int .i64 r.1.kind), .val (.int .i64 r.1.segment), .val (.int .i64 r.1.at_), .val (.int .i64 r.1.words), .val (.int .i64 r.1.ptrs), .val (.int .i64 r.1.count), .val (.int .i64 r.1.code), .val (.int .i64 r.1.index)], .val (.int .i64 r.2)]) O n := by
  unfold m_reader_At at h
  refine fn_of tab_ok Try.call49 Try.func49 rfl (Nat.le_of_ble_eq_true rfl) (Nat.le_refl _) fun hU => ?_
  have hN0 : O n = none := hU.fresh _ (Nat.le_refl _)
  have hN : ∀ k, O (n + k) = none := fun k => hU.fresh _ (Nat.le_add_right _ _)
  show W _ _ _ _ ⟨66, [], [(0, (gP e_S_arena_Arena a0)), (1, .val (.int .i64 a1)), (2, .val (.int .i64 a2))]⟩ (Loc O n []) _
  refine W_sq [0, 1, 2, 6] (W_regionD tab_ok [] ?_)
  simp only [push_cast, Nat.reduceAdd, Nat.reduceSub, Nat.reduceMul, Nat.reduceLeDiff, Nat.reduceLT, Nat.reduceEqDiff, ↓reduceIte, reduceCtorEq, Int.reduceBEq, Int.reduceBNe, Nat.reduceBEq, Int.reduceLE, Int.reduceLT, Int.reduceEq, Int.reduceNe, Int.reduceNeg, Nat.reduceDiv, Nat.reduceMod, Nat.reducePow, cast_lit, hN0, hN]
  refine W_seqK ?_
  obtain ⟨y2, hy2, h⟩ := bC h
  refine W_regionD tab_ok [] ?_
  simp only [push_cast, Nat.reduceAdd, Nat.reduceSub, Nat.reduceMul, Nat.reduceLeDiff, Nat.reduceLT, Nat.reduceEqDiff, ↓reduceIte, reduceCtorEq, Int.reduceBEq, Int.reduceBNe, Nat.reduceBEq, Int.reduceLE, Int.reduceLT, Int.reduceEq, Int.reduceNe, Int.reduceNeg, Nat.reduceDiv, Nat.reduceMod, Nat.reducePow, cast_lit, hN0, hN]
  refine (ok_far_Follow hy2).then ?_
  simp only [push_cast, Nat.reduceAdd, Nat.reduceSub, Nat.reduceMul, Nat.reduceLeDiff, Nat.reduceLT, Nat.reduceEqDiff, ↓reduceIte, reduceCtorEq, Int.reduceBEq, Int.reduceBNe, Nat.reduceBEq, Int.reduceLE, Int.reduceLT, Int.reduceEq, Int.reduceNe, Int.reduceNeg, Nat.reduceDiv, Nat.reduceMod, Nat.reducePow, cast_lit, hN0, hN]
  refine W_drop [0, 6, 8, 9] [true, true] ?_
  simp only [push_cast, seval, ↓reduceIte]
  refine W_seqK ?_
  refine W_sq [0, 6, 8, 9, 25] (W_regionD tab_ok [none, none, none, none] ?_)
  simp only [push_cast, Nat.reduceAdd, Nat.reduceSub, Nat.reduceMul, Nat.reduceLeDiff, Nat.reduceLT, Nat.reduceEqDiff, ↓reduceIte, reduceCtorEq, Int.reduceBEq, Int.reduceBNe, Nat.reduceBEq, Int.reduceLE, Int.reduceLT, Int.reduceEq, Int.reduceNe, Int.reduceNeg, Nat.reduceDiv, Nat.reduceMod, Nat.reducePow, cast_lit, hN0, hN]
  repeat (with_reducible refine And.intro (by first | (intro h0; simp only [h0, and_self]; done) | (intro h0; simp only [h0, Bool.not_false, Bool.not_true, Bool.true_and, Bool.and_true, true_and, and_true, and_self, imp_self, implies_true, bne_iff_ne, ne_eq, beq_iff_eq]; done) | (intros; simp_all; done) | exact True.intro) ?_)
  refine W_cond (t := (cond (y2.2 != 0) true (y2.1.P.Kind == 0))) rfl (fun c7 => ?_) (fun c7 => ?_)
  · replace h := condT c7 h
    refine W_seqK ?_
    refine W_regionD tab_ok [] ?_
    simp only [push_cast, Nat.reduceAdd, Nat.reduceSub, Nat.reduceMul, Nat.reduceLeDiff, Nat.reduceLT, Nat.reduceEqDiff, ↓reduceIte, reduceCtorEq, Int.reduceBEq, Int.reduceBNe, Nat.reduceBEq, Int.reduceLE, Int.reduceLT, Int.reduceEq, Int.reduceNe, Int.reduceNeg, Nat.reduceDiv, Nat.reduceMod, Nat.reducePow, cast_lit, hN0, hN]
    refine W_drop [6, 7] [true, false] ?_
    simp only [push_cast, seval, ↓reduceIte]
    refine W_ret ?_
    try simp only [gthen, gblock]
    have h := Option.some.inj h; subst h
    refine fin_loc (.inr rfl) hU [.agg [.val (.pointer none), .val (.int .i64 0), .val (.int .i64 0), .val (.int .i64 0), .val (.int .i64 0), .val (.int .i64 0), .val (.int .i64 0), .val (.int .i64 0), .val (.int .i64 0)], .val (.int .i64 y2.2)] (by omega) ?_
    simp only [push_cast, Nat.reduceAdd, Nat.reduceSub, Nat.reduceMul, Nat.reduceLeDiff, Nat.reduceLT, Nat.reduceEqDiff, ↓reduceIte, reduceCtorEq, Int.reduceBEq, Int.reduceBNe, Nat.reduceBEq, Int.reduceLE, Int.reduceLT, Int.reduceEq, Int.reduceNe, Int.reduceNeg, Nat.reduceDiv, Nat.reduceMod, Nat.reducePow, cast_lit, Try.results49, hN0, hN]
  · replace h := condF c7 h
    refine W_skip ?_
    try simp only [gthen, gblock]
    refine W_drop [0, 6, 8] [true, true] ?_
    simp only [push_cast, seval, ↓reduceIte]
    refine W_seqK ?_
    refine W_regionD tab_ok [] ?_
    simp only [push_cast, Nat.reduceAdd, Nat.reduceSub, Nat.reduceMul, Nat.reduceLeDiff, Nat.reduceLT, Nat.reduceEqDiff, ↓reduceIte, reduceCtorEq, Int.reduceBEq, Int.reduceBNe, Nat.reduceBEq, Int.reduceLE, Int.reduceLT, Int.reduceEq, Int.reduceNe, Int.reduceNeg, Nat.reduceDiv, Nat.reduceMod, Nat.reducePow, cast_lit, hN0, hN]
    refine W_drop [6, 8, 10] [true, true, true] ?_
    simp only [push_cast, seval, ↓reduceIte]
    refine W_seqK ?_
    refine W_sq [6, 8, 10, 37] (W_regionD tab_ok [] ?_)
    simp only [push_cast, Nat.reduceAdd, Nat.reduceSub, Nat.reduceMul, Nat.reduceLeDiff, Nat.reduceLT, Nat.reduceEqDiff, ↓reduceIte, reduceCtorEq, Int.reduceBEq, Int.reduceBNe, Nat.reduceBEq, Int.reduceLE, Int.reduceLT, Int.reduceEq, Int.reduceNe, Int.reduceNeg, Nat.reduceDiv, Nat.reduceMod, Nat.reducePow, cast_lit, hN0, hN]
    refine W_cond (t := (y2.1.P.Kind == 1)) rfl (fun c6 => ?_) (fun c6 => ?_)
    · replace h := condT c6 h
      refine W_seqK ?_
      refine W_drawY tab_ok (by kernel_rfl) [.low, .low, .low, .low, .low, .low, .plain, .pass, .plain, .pass, .plain, .bar] (fun i => i ≠ n + 2) [0, 1, 2, 3, 4, 5, 6, 7, 8, 9, 10, 11] [.low, .low, .low, .low, .low, .low, .plain, .pass, .plain, .pass, .plain, .bar] [] (by kernel_rfl) rfl ?_
      simp only [push_cast, Nat.reduceAdd, Nat.reduceSub, Nat.reduceMul, Nat.reduceLeDiff, Nat.reduceLT, Nat.reduceEqDiff, ↓reduceIte, reduceCtorEq, Int.reduceBEq, Int.reduceBNe, Nat.reduceBEq, Int.reduceLE, Int.reduceLT, Int.reduceEq, Int.reduceNe, Int.reduceNeg, Nat.reduceDiv, Nat.reduceMod, Nat.reducePow, cast_lit, hN0, hN]
      repeat (with_reducible refine And.intro (by first | omega | exact agree_loc rfl | exact agree_loc0 | exact agree_ne0 rfl | exact agree_ne rfl rfl | exact agree_ltne rfl | exact agree_ltne0 rfl) ?_)
      refine W_drop [6, 10] [true, false, true] ?_
      simp only [push_cast, seval, ↓reduceIte]
      refine W_seqK ?_
      refine W_regionD tab_ok [] ?_
      simp only [push_cast, Nat.reduceAdd, Nat.reduceSub, Nat.reduceMul, Nat.reduceLeDiff, Nat.reduceLT, Nat.reduceEqDiff, ↓reduceIte, reduceCtorEq, Int.reduceBEq, Int.reduceBNe, Nat.reduceBEq, Int.reduceLE, Int.reduceLT, Int.reduceEq, Int.reduceNe, Int.reduceNeg, Nat.reduceDiv, Nat.reduceMod, Nat.reducePow, cast_lit, hN0, hN]
      refine W_drop [6, 7] [true, false, false] ?_
      simp only [push_cast, seval, ↓reduceIte]
      refine W_ret ?_
      try simp only [gthen, gblock]
      have h := Option.some.inj h; subst h
      refine fin_loc (.inr rfl) hU [.agg [(gP e_S_arena_Arena a0), .val (.int .i64 1), .val (.int .i64 y2.1.Segment), .val (.int .i64 y2.1.At), .val (.int .i64 y2.1.P.Data), .val (.int .i64 y2.1.P.Ptrs), .val (.int .i64 0), .val (.int .i64 0), .val (.int .i64 0)], .val (.int .i64 0)] (by omega) ?_
      simp only [push_cast, Nat.reduceAdd, Nat.reduceSub, Nat.reduceMul, Nat.reduceLeDiff, Nat.reduceLT, Nat.reduceEqDiff, ↓reduceIte, reduceCtorEq, Int.reduceBEq, Int.reduceBNe, Nat.reduceBEq, Int.reduceLE, Int.reduceLT, Int.reduceEq, Int.reduceNe, Int.reduceNeg, Nat.reduceDiv, Nat.reduceMod, Nat.reducePow, cast_lit, Try.results49, hN0, hN]
    · replace h := condF c6 h
      refine W_skip ?_
      try simp only [gthen, gblock]
      refine W_drop [6, 8, 10] [true, true, true] ?_
      simp only [push_cast, seval, ↓reduceIte]
      refine W_seqK ?_
      refine W_drawY tab_ok (by kernel_rfl) [.plain, .plain, .plain, .plain, .low, .low, .low, .plain, .pass, .plain, .bar] (fun i => i ≠ n + 2) [0, 1, 2, 3, 4, 5, 6, 7, 8, 9, 10] [.plain, .plain, .plain, .plain, .low, .low, .low, .plain, .pass, .plain, .bar] [] (by kernel_rfl) rfl ?_
      simp only [push_cast, Nat.reduceAdd, Nat.reduceSub, Nat.reduceMul, Nat.reduceLeDiff, Nat.reduceLT, Nat.reduceEqDiff, ↓reduceIte, reduceCtorEq, Int.reduceBEq, Int.reduceBNe, Nat.reduceBEq, Int.reduceLE, Int.reduceLT, Int.reduceEq, Int.reduceNe, Int.reduceNeg, Nat.reduceDiv, Nat.reduceMod, Nat.reducePow, cast_lit, hN0, hN]
      repeat (with_reducible refine And.intro (by first | omega | exact agree_loc rfl | exact agree_loc0 | exact agree_ne0 rfl | exact agree_ne rfl rfl | exact agree_ltne rfl | exact agree_ltne0 rfl) ?_)
      refine W_drop [6, 8, 10] [true, true, true] ?_
      simp only [push_cast, seval, ↓reduceIte]
      refine W_seqK ?_
      refine W_sq [6, 10, 60] (W_regionD tab_ok [] ?_)
      simp only [push_cast, Nat.reduceAdd, Nat.reduceSub, Nat.reduceMul, Nat.reduceLeDiff, Nat.reduceLT, Nat.reduceEqDiff, ↓reduceIte, reduceCtorEq, Int.reduceBEq, Int.reduceBNe, Nat.reduceBEq, Int.reduceLE, Int.reduceLT, Int.reduceEq, Int.reduceNe, Int.reduceNeg, Nat.reduceDiv, Nat.reduceMod, Nat.reducePow, cast_lit, hN0, hN]
      refine W_cond (t := (y2.1.P.Code == 7)) rfl (fun c5 => ?_) (fun c5 => ?_)
      · replace h := condT c5 h
        refine W_seqK ?_
        obtain ⟨y4, hy4, h⟩ := bC h
        refine W_regionD tab_ok [] ?_
        simp only [push_cast, Nat.reduceAdd, Nat.reduceSub, Nat.reduceMul, Nat.reduceLeDiff, Nat.reduceLT, Nat.reduceEqDiff, ↓reduceIte, reduceCtorEq, Int.reduceBEq, Int.reduceBNe, Nat.reduceBEq, Int.reduceLE, Int.reduceLT, Int.reduceEq, Int.reduceNe, Int.reduceNeg, Nat.reduceDiv, Nat.reduceMod, Nat.reducePow, cast_lit, hN0, hN]
        refine (ok_reader_composite hy4).then ?_
        simp only [push_cast, Nat.reduceAdd, Nat.reduceSub, Nat.reduceMul, Nat.reduceLeDiff, Nat.reduceLT, Nat.reduceEqDiff, ↓reduceIte, reduceCtorEq, Int.reduceBEq, Int.reduceBNe, Nat.reduceBEq, Int.reduceLE, Int.reduceLT, Int.reduceEq, Int.reduceNe, Int.reduceNeg, Nat.reduceDiv, Nat.reduceMod, Nat.reducePow, cast_lit, hN0, hN]
        refine W_drop [6, 7] [true, false, false] ?_
        simp only [push_cast, seval, ↓reduceIte]
        refine W_ret ?_
        try simp only [gthen, gblock]
        have h := Option.some.inj h; subst h
        refine fin_loc (.inr rfl) hU [.agg [(gP e_S_arena_Arena y4.1.a), .val (.int .i64 y4.1.kind), .val (.int .i64 y4.1.segment), .val (.int .i64 y4.1.at_), .val (.int .i64 y4.1.words), .val (.int .i64 y4.1.ptrs), .val (.int .i64 y4.1.count), .val (.int .i64 y4.1.code), .val (.int .i64 y4.1.index)], .val (.int .i64 y4.2)] (by omega) ?_
        simp only [push_cast, Nat.reduceAdd, Nat.reduceSub, Nat.reduceMul, Nat.reduceLeDiff, Nat.reduceLT, Nat.reduceEqDiff, ↓reduceIte, reduceCtorEq, Int.reduceBEq, Int.reduceBNe, Nat.reduceBEq, Int.reduceLE, Int.reduceLT, Int.reduceEq, Int.reduceNe, Int.reduceNeg, Nat.reduceDiv, Nat.reduceMod, Nat.reducePow, cast_lit, Try.results49, hN0, hN]
      · replace h := condF c5 h
        refine W_skip ?_
        try simp only [gthen, gblock]
        refine W_drop [6, 10] [true, false, true] ?_
        simp only [push_cast, seval, ↓reduceIte]
        refine W_seqK ?_
        refine W_regionD tab_ok [] ?_
        simp only [push_cast, Nat.reduceAdd, Nat.reduceSub, Nat.reduceMul, Nat.reduceLeDiff, Nat.reduceLT, Nat.reduceEqDiff, ↓reduceIte, reduceCtorEq, Int.reduceBEq, Int.reduceBNe, Nat.reduceBEq, Int.reduceLE, Int.reduceLT, Int.reduceEq, Int.reduceNe, Int.reduceNeg, Nat.reduceDiv, Nat.reduceMod, Nat.reducePow, cast_lit, hN0, hN]
        refine W_drop [6, 7] [true, false, false] ?_
        simp only [push_cast, seval, ↓reduceIte]
        refine W_ret ?_
        try simp only [gthen, gblock]
        have h := Option.some.inj h; subst h
        refine fin_loc (.inr rfl) hU [.agg [(gP e_S_arena_Arena a0), .val (.int .i64 (IntKind.i64.wrap (y2.1.P.Code + 2))), .val (.int .i64 y2.1.Segment), .val (.int .i64 y2.1.At), .val (.int .i64 0), .val (.int .i64 0), .val (.int .i64 y2.1.P.Count), .val (.int .i64 0), .val (.int .i64 0)], .val (.int .i64 0)] (by omega) ?_
        simp only [push_cast, Nat.reduceAdd, Nat.reduceSub, Nat.reduceMul, Nat.reduceLeDiff, Nat.reduceLT, Nat.reduceEqDiff, ↓reduceIte, reduceCtorEq, Int.reduceBEq, Int.reduceBNe, Nat.reduceBEq, Int.reduceLE, Int.reduceLT, Int.reduceEq, Int.reduceNe, Int.reduceNeg, Nat.reduceDiv, Nat.reduceMod, Nat.reducePow, cast_lit, Try.results49, hN0, hN]

theorem ok_reader_Root {a0 : (Option S_arena_Arena)} {r : (S_reader_Ref × Int)} {O : Objs} {n : Nat} (h : m_reader_Root a0 = some r) : GTo Try.prog 27 [(gP e_S_arena_Arena a0)] O n (.tup [.agg [(gP e_S_arena_Arena r.1.a), .val (.int .i64 r.1.kind), .val (.int .i64 r.1.segment), .val (.int .i64 r.1.at_), .val (.int .i64 r.1.words), .val (.int .i64 r.1.ptrs), .val (.int .i64 r.1.count), .val (.int .i64 r.1.code), .val (.int .i64 r.1.index)], .val (.int .i64 r.2)]) O n := by
  unfold m_reader_Root at h
  refine fn_of tab_ok Try.call27 Try.func27 rfl (Nat.le_of_ble_eq_true rfl) (Nat.le_refl _) fun hU => ?_
  have hN0 : O n = none := hU.fresh _ (Nat.le_refl _)
  have hN : ∀ k, O (n + k) = none := fun k => hU.fresh _ (Nat.le_add_right _ _)
  show W _ _ _ _ ⟨8, [], [(0, (gP e_S_arena_Arena a0))]⟩ (Loc O n []) _
  refine W_sq [0, 2] (W_regionD tab_ok [] ?_)
  simp only [push_cast, Nat.reduceAdd, Nat.reduceSub, Nat.reduceMul, Nat.reduceLeDiff, Nat.reduceLT, Nat.reduceEqDiff, ↓reduceIte, reduceCtorEq, Int.reduceBEq, Int.reduceBNe, Nat.reduceBEq, Int.reduceLE, Int.reduceLT, Int.reduceEq, Int.reduceNe, Int.reduceNeg, Nat.reduceDiv, Nat.reduceMod, Nat.reducePow, cast_lit, hN0, hN]
  refine W_seqK ?_
  obtain ⟨y2, hy2, h⟩ := bC h
  refine W_regionD tab_ok [] ?_
  simp only [push_cast, Nat.reduceAdd, Nat.reduceSub, Nat.reduceMul, Nat.reduceLeDiff, Nat.reduceLT, Nat.reduceEqDiff, ↓reduceIte, reduceCtorEq, Int.reduceBEq, Int.reduceBNe, Nat.reduceBEq, Int.reduceLE, Int.reduceLT, Int.reduceEq, Int.reduceNe, Int.reduceNeg, Nat.reduceDiv, Nat.reduceMod, Nat.reducePow, cast_lit, hN0, hN]
  refine (ok_reader_At hy2).then ?_
  simp only [push_cast, Nat.reduceAdd, Nat.reduceSub, Nat.reduceMul, Nat.reduceLeDiff, Nat.reduceLT, Nat.reduceEqDiff, ↓reduceIte, reduceCtorEq, Int.reduceBEq, Int.reduceBNe, Nat.reduceBEq, Int.reduceLE, Int.reduceLT, Int.reduceEq, Int.reduceNe, Int.reduceNeg, Nat.reduceDiv, Nat.reduceMod, Nat.reducePow, cast_lit, hN0, hN]
  refine W_drop [2, 3] [true] ?_
  simp only [push_cast, seval, ↓reduceIte]
  refine W_ret ?_
  try simp only [gthen, gblock]
  have h := Option.some.inj h; subst h
  refine fin_loc (.inr rfl) hU [.agg [(gP e_S_arena_Arena y2.1.a), .val (.int .i64 y2.1.kind), .val (.int .i64 y2.1.segment), .val (.int .i64 y2.1.at_), .val (.int .i64 y2.1.words), .val (.int .i64 y2.1.ptrs), .val (.int .i64 y2.1.count), .val (.int .i64 y2.1.code), .val (.int .i64 y2.1.index)], .val (.int .i64 y2.2)] (by omega) ?_
  simp only [push_cast, Nat.reduceAdd, Nat.reduceSub, Nat.reduceMul, Nat.reduceLeDiff, Nat.reduceLT, Nat.reduceEqDiff, ↓reduceIte, reduceCtorEq, Int.reduceBEq, Int.reduceBNe, Nat.reduceBEq, Int.reduceLE, Int.reduceLT, Int.reduceEq, Int.reduceNe, Int.reduceNeg, Nat.reduceDiv, Nat.reduceMod, Nat.reducePow, cast_lit, Try.results27, hN0, hN]

theorem ok_reader_Ref_Kind {a0 : S_reader_Ref} {r : Int} {O : Objs} {n : Nat} (h : m_reader_Ref_Kind a0 = some r) : GTo Try.prog 51 [.agg [(gP e_S_arena_Arena a0.a), .val (.int .i64 a0.kind), .val (.int .i64 a0.segment), .val (.int .i64 a0.at_), .val (.int .i64 a0.words), .val (.int .i64 a0.ptrs), .val (.int .i64 a0.count), .val (.int .i64 a0.code), .val (.int .i64 a0.index)]] O n (.val (.int .i64 r)) O n := by
  unfold m_reader_Ref_Kind at h
  refine fn_of tab_ok Try.call51 Try.func51 rfl (Nat.le_of_ble_eq_true rfl) (Nat.le_refl _) fun hU => ?_
  have hN0 : O n = none := hU.fresh _ (Nat.le_refl _)
  have hN : ∀ k, O (n + k) = none := fun k => hU.fresh _ (Nat.le_add_right _ _)
  show W _ _ _ _ ⟨5, [], [(0, .agg [(gP e_S_arena_Arena a0.a), .val (.int .i64 a0.kind), .val (.int .i64 a0.segment), .val (.int .i64 a0.at_), .val (.int .i64 a0.words), .val (.int .i64 a0.ptrs), .val (.int .i64 a0.count), .val (.int .i64 a0.code), .val (.int .i64 a0.index)])]⟩ (Loc O n []) _
  refine W_sq [1] (W_regionD tab_ok [] ?_)
  simp only [push_cast, Nat.reduceAdd, Nat.reduceSub, Nat.reduceMul, Nat.reduceLeDiff, Nat.reduceLT, Nat.reduceEqDiff, ↓reduceIte, reduceCtorEq, Int.reduceBEq, Int.reduceBNe, Nat.reduceBEq, Int.reduceLE, Int.reduceLT, Int.reduceEq, Int.reduceNe, Int.reduceNeg, Nat.reduceDiv, Nat.reduceMod, Nat.reducePow, cast_lit, hN0, hN]
  refine W_sq [2] (W_regionD tab_ok [] ?_)
  simp only [push_cast, Nat.reduceAdd, Nat.reduceSub, Nat.reduceMul, Nat.reduceLeDiff, Nat.reduceLT, Nat.reduceEqDiff, ↓reduceIte, reduceCtorEq, Int.reduceBEq, Int.reduceBNe, Nat.reduceBEq, Int.reduceLE, Int.reduceLT, Int.reduceEq, Int.reduceNe, Int.reduceNeg, Nat.reduceDiv, Nat.reduceMod, Nat.reducePow, cast_lit, hN0, hN]
  refine W_ret ?_
  try simp only [gthen, gblock]
  have h := Option.some.inj h; subst h
  refine fin_loc (.inr rfl) hU [.val (.int .i64 a0.kind)] (by omega) ?_
  simp only [push_cast, Nat.reduceAdd, Nat.reduceSub, Nat.reduceMul, Nat.reduceLeDiff, Nat.reduceLT, Nat.reduceEqDiff, ↓reduceIte, reduceCtorEq, Int.reduceBEq, Int.reduceBNe, Nat.reduceBEq, Int.reduceLE, Int.reduceLT, Int.reduceEq, Int.reduceNe, Int.reduceNeg, Nat.reduceDiv, Nat.reduceMod, Nat.reducePow, cast_lit, Try.results51, hN0, hN]

theorem ok_reader_Ref_Kids {a0 : S_reader_Ref} {r : Int} {O : Objs} {n : Nat} (h : m_reader_Ref_Kids a0 = some r) : GTo Try.prog 50 [.agg [(gP e_S_arena_Arena a0.a), .val (.int .i64 a0.kind), .val (.int .i64 a0.segment), .val (.int .i64 a0.at_), .val (.int .i64 a0.words), .val (.int .i64 a0.ptrs), .val (.int .i64 a0.count), .val (.int .i64 a0.code), .val (.int .i64 a0.index)]] O n (.val (.int .i64 r)) O n := by
  unfold m_reader_Ref_Kids at h
  refine fn_of tab_ok Try.call50 Try.func50 rfl (Nat.le_of_ble_eq_true rfl) (Nat.le_refl _) fun hU => ?_
  have hN0 : O n = none := hU.fresh _ (Nat.le_refl _)
  have hN : ∀ k, O (n + k) = none := fun k => hU.fresh _ (Nat.le_add_right _ _)
  show W _ _ _ _ ⟨10, [], [(0, .agg [(gP e_S_arena_Arena a0.a), .val (.int .i64 a0.kind), .val (.int .i64 a0.segment), .val (.int .i64 a0.at_), .val (.int .i64 a0.words), .val (.int .i64 a0.ptrs), .val (.int .i64 a0.count), .val (.int .i64 a0.code), .val (.int .i64 a0.index)])]⟩ (Loc O n []) _
  refine W_sq [1] (W_regionD tab_ok [] ?_)
  simp only [push_cast, Nat.reduceAdd, Nat.reduceSub, Nat.reduceMul, Nat.reduceLeDiff, Nat.reduceLT, Nat.reduceEqDiff, ↓reduceIte, reduceCtorEq, Int.reduceBEq, Int.reduceBNe, Nat.reduceBEq, Int.reduceLE, Int.reduceLT, Int.reduceEq, Int.reduceNe, Int.reduceNeg, Nat.reduceDiv, Nat.reduceMod, Nat.reducePow, cast_lit, hN0, hN]
  refine W_seqK ?_
  refine W_sq [1, 5] (W_regionD tab_ok [] ?_)
  simp only [push_cast, Nat.reduceAdd, Nat.reduceSub, Nat.reduceMul, Nat.reduceLeDiff, Nat.reduceLT, Nat.reduceEqDiff, ↓reduceIte, reduceCtorEq, Int.reduceBEq, Int.reduceBNe, Nat.reduceBEq, Int.reduceLE, Int.reduceLT, Int.reduceEq, Int.reduceNe, Int.reduceNeg, Nat.reduceDiv, Nat.reduceMod, Nat.reducePow, cast_lit, hN0, hN]
  refine W_cond (t := (a0.kind == 1)) rfl (fun c1 => ?_) (fun c1 => ?_)
  · replace h := condT c1 h
    refine W_sq [2] (W_regionD tab_ok [] ?_)
    simp only [push_cast, Nat.reduceAdd, Nat.reduceSub, Nat.reduceMul, Nat.reduceLeDiff, Nat.reduceLT, Nat.reduceEqDiff, ↓reduceIte, reduceCtorEq, Int.reduceBEq, Int.reduceBNe, Nat.reduceBEq, Int.reduceLE, Int.reduceLT, Int.reduceEq, Int.reduceNe, Int.reduceNeg, Nat.reduceDiv, Nat.reduceMod, Nat.reducePow, cast_lit, hN0, hN]
    refine W_ret ?_
    try simp only [gthen, gblock]
    have h := Option.some.inj h; subst h
    refine fin_loc (.inr rfl) hU [.val (.int .i64 a0.ptrs)] (by omega) ?_
    simp only [push_cast, Nat.reduceAdd, Nat.reduceSub, Nat.reduceMul, Nat.reduceLeDiff, Nat.reduceLT, Nat.reduceEqDiff, ↓reduceIte, reduceCtorEq, Int.reduceBEq, Int.reduceBNe, Nat.reduceBEq, Int.reduceLE, Int.reduceLT, Int.reduceEq, Int.reduceNe, Int.reduceNeg, Nat.reduceDiv, Nat.reduceMod, Nat.reducePow, cast_lit, Try.results50, hN0, hN]
  · replace h := condF c1 h
    refine W_skip ?_
    try simp only [gthen, gblock]
    refine W_drop [1] [true] ?_
    simp only [push_cast, seval, ↓reduceIte]
    refine W_sq [2] (W_regionD tab_ok [] ?_)
    simp only [push_cast, Nat.reduceAdd, Nat.reduceSub, Nat.reduceMul, Nat.reduceLeDiff, Nat.reduceLT, Nat.reduceEqDiff, ↓reduceIte, reduceCtorEq, Int.reduceBEq, Int.reduceBNe, Nat.reduceBEq, Int.reduceLE, Int.reduceLT, Int.reduceEq, Int.reduceNe, Int.reduceNeg, Nat.reduceDiv, Nat.reduceMod, Nat.reducePow, cast_lit, hN0, hN]
    refine W_ret ?_
    try simp only [gthen, gblock]
    have h := Option.some.inj h; subst h
    refine fin_loc (.inr rfl) hU [.val (.int .i64 a0.count)] (by omega) ?_
    simp only [push_cast, Nat.reduceAdd, Nat.reduceSub, Nat.reduceMul, Nat.reduceLeDiff, Nat.reduceLT, Nat.reduceEqDiff, ↓reduceIte, reduceCtorEq, Int.reduceBEq, Int.reduceBNe, Nat.reduceBEq, Int.reduceLE, Int.reduceLT, Int.reduceEq, Int.reduceNe, Int.reduceNeg, Nat.reduceDiv, Nat.reduceMod, Nat.reducePow, cast_lit, Try.results50, hN0, hN]

theorem ok_valid_levels {a0 : S_reader_Ref} {r : Int} {O : Objs} {n : Nat} (h : m_valid_levels a0 = some r) : GTo Try.prog 86 [.agg [(gP e_S_arena_Arena a0.a), .val (.int .i64 a0.kind), .val (.int .i64 a0.segment), .val (.int .i64 a0.at_), .val (.int .i64 a0.words), .val (.int .i64 a0.ptrs), .val (.int .i64 a0.count), .val (.int .i64 a0.code), .val (.int .i64 a0.index)]] O n (.val (.int .i64 r)) O n := by
  unfold m_valid_levels at h
  refine fn_of tab_ok Try.call86 Try.func86 rfl (Nat.le_of_ble_eq_true rfl) (Nat.le_refl _) fun hU => ?_
  have hN0 : O n = none := hU.fresh _ (Nat.le_refl _)
  have hN : ∀ k, O (n + k) = none := fun k => hU.fresh _ (Nat.le_add_right _ _)
  show W _ _ _ _ ⟨16, [], [(0, .agg [(gP e_S_arena_Arena a0.a), .val (.int .i64 a0.kind), .val (.int .i64 a0.segment), .val (.int .i64 a0.at_), .val (.int .i64 a0.words), .val (.int .i64 a0.ptrs), .val (.int .i64 a0.count), .val (.int .i64 a0.code), .val (.int .i64 a0.index)])]⟩ (Loc O n []) _
  refine W_sq [1] (W_regionD tab_ok [] ?_)
  simp only [push_cast, Nat.reduceAdd, Nat.reduceSub, Nat.reduceMul, Nat.reduceLeDiff, Nat.reduceLT, Nat.reduceEqDiff, ↓reduceIte, reduceCtorEq, Int.reduceBEq, Int.reduceBNe, Nat.reduceBEq, Int.reduceLE, Int.reduceLT, Int.reduceEq, Int.reduceNe, Int.reduceNeg, Nat.reduceDiv, Nat.reduceMod, Nat.reducePow, cast_lit, hN0, hN]
  refine W_seqK ?_
  refine W_block ?_
  refine W_seqK ?_
  obtain ⟨y2, hy2, h⟩ := bC h
  refine W_regionD tab_ok [] ?_
  simp only [push_cast, Nat.reduceAdd, Nat.reduceSub, Nat.reduceMul, Nat.reduceLeDiff, Nat.reduceLT, Nat.reduceEqDiff, ↓reduceIte, reduceCtorEq, Int.reduceBEq, Int.reduceBNe, Nat.reduceBEq, Int.reduceLE, Int.reduceLT, Int.reduceEq, Int.reduceNe, Int.reduceNeg, Nat.reduceDiv, Nat.reduceMod, Nat.reducePow, cast_lit, hN0, hN]
  refine (ok_reader_Ref_Kind hy2).then ?_
  simp only [push_cast, Nat.reduceAdd, Nat.reduceSub, Nat.reduceMul, Nat.reduceLeDiff, Nat.reduceLT, Nat.reduceEqDiff, ↓reduceIte, reduceCtorEq, Int.reduceBEq, Int.reduceBNe, Nat.reduceBEq, Int.reduceLE, Int.reduceLT, Int.reduceEq, Int.reduceNe, Int.reduceNeg, Nat.reduceDiv, Nat.reduceMod, Nat.reducePow, cast_lit, hN0, hN]
  refine W_drop [1, 3] [true] ?_
  simp only [push_cast, seval, ↓reduceIte]
  refine W_cond (t := (y2 == 0)) rfl (fun c12 => ?_) (fun c12 => ?_)
  · replace h := condT c12 h
    refine W_sq [2] (W_regionD tab_ok [] ?_)
    simp only [push_cast, Nat.reduceAdd, Nat.reduceSub, Nat.reduceMul, Nat.reduceLeDiff, Nat.reduceLT, Nat.reduceEqDiff, ↓reduceIte, reduceCtorEq, Int.reduceBEq, Int.reduceBNe, Nat.reduceBEq, Int.reduceLE, Int.reduceLT, Int.reduceEq, Int.reduceNe, Int.reduceNeg, Nat.reduceDiv, Nat.reduceMod, Nat.reducePow, cast_lit, hN0, hN]
    refine W_ret ?_
    try simp only [gthen, gblock]
    have h := Option.some.inj h; subst h
    refine fin_loc (.inr rfl) hU [.val (.int .i64 0)] (by omega) ?_
    simp only [push_cast, Nat.reduceAdd, Nat.reduceSub, Nat.reduceMul, Nat.reduceLeDiff, Nat.reduceLT, Nat.reduceEqDiff, ↓reduceIte, reduceCtorEq, Int.reduceBEq, Int.reduceBNe, Nat.reduceBEq, Int.reduceLE, Int.reduceLT, Int.reduceEq, Int.reduceNe, Int.reduceNeg, Nat.reduceDiv, Nat.reduceMod, Nat.reducePow, cast_lit, Try.results86, hN0, hN]
  · replace h := condF c12 h
    obtain ⟨z5, hz5, h⟩ := bC h
    refine W_seqN (E' := ⟨16, [], [(7, .val (.bool z5))]⟩) (O' := (Loc O n [none])) (n0 := (n + 1)) ?_ ?_
    · obtain ⟨y8, hy8, hz5⟩ := bC hz5
      rcases Bool.eq_false_or_eq_true (y8 == 9) with c10 | c10
      · replace hz5 := condT c10 hz5
        obtain ⟨y9, hy9, hz5⟩ := bC hz5
        refine W_regionD tab_ok [some true, some true, some true] ?_
        simp only [push_cast, Nat.reduceAdd, Nat.reduceSub, Nat.reduceMul, Nat.reduceLeDiff, Nat.reduceLT, Nat.reduceEqDiff, ↓reduceIte, reduceCtorEq, Int.reduceBEq, Int.reduceBNe, Nat.reduceBEq, Int.reduceLE, Int.reduceLT, Int.reduceEq, Int.reduceNe, Int.reduceNeg, Nat.reduceDiv, Nat.reduceMod, Nat.reducePow, cast_lit, c10, hN0, hN]
        refine (ok_reader_Ref_Kind hy8).then ?_
        simp only [push_cast, Nat.reduceAdd, Nat.reduceSub, Nat.reduceMul, Nat.reduceLeDiff, Nat.reduceLT, Nat.reduceEqDiff, ↓reduceIte, reduceCtorEq, Int.reduceBEq, Int.reduceBNe, Nat.reduceBEq, Int.reduceLE, Int.reduceLT, Int.reduceEq, Int.reduceNe, Int.reduceNeg, Nat.reduceDiv, Nat.reduceMod, Nat.reducePow, cast_lit, c10, hN0, hN]
        refine (ok_reader_Ref_Kids hy9).then ?_
        simp only [push_cast, Nat.reduceAdd, Nat.reduceSub, Nat.reduceMul, Nat.reduceLeDiff, Nat.reduceLT, Nat.reduceEqDiff, ↓reduceIte, reduceCtorEq, Int.reduceBEq, Int.reduceBNe, Nat.reduceBEq, Int.reduceLE, Int.reduceLT, Int.reduceEq, Int.reduceNe, Int.reduceNeg, Nat.reduceDiv, Nat.reduceMod, Nat.reducePow, cast_lit, c10, hN0, hN]
        have hz5 := Option.some.inj hz5; subst hz5
        refine And.intro rfl (Fit2.of (fit_loc hU rfl rfl ?_) (by omega))
        simp only [push_cast, Nat.reduceAdd, Nat.reduceSub, Nat.reduceMul, Nat.reduceLeDiff, Nat.reduceLT, Nat.reduceEqDiff, ↓reduceIte, reduceCtorEq, Int.reduceBEq, Int.reduceBNe, Nat.reduceBEq, Int.reduceLE, Int.reduceLT, Int.reduceEq, Int.reduceNe, Int.reduceNeg, Nat.reduceDiv, Nat.reduceMod, Nat.reducePow, cast_lit, c10, hN0, hN]
      · replace hz5 := condF c10 hz5
        refine W_regionD tab_ok [some false, some false, some false] ?_
        simp only [push_cast, Nat.reduceAdd, Nat.reduceSub, Nat.reduceMul, Nat.reduceLeDiff, Nat.reduceLT, Nat.reduceEqDiff, ↓reduceIte, reduceCtorEq, Int.reduceBEq, Int.reduceBNe, Nat.reduceBEq, Int.reduceLE, Int.reduceLT, Int.reduceEq, Int.reduceNe, Int.reduceNeg, Nat.reduceDiv, Nat.reduceMod, Nat.reducePow, cast_lit, c10, hN0, hN]
        refine (ok_reader_Ref_Kind hy8).then ?_
        simp only [push_cast, Nat.reduceAdd, Nat.reduceSub, Nat.reduceMul, Nat.reduceLeDiff, Nat.reduceLT, Nat.reduceEqDiff, ↓reduceIte, reduceCtorEq, Int.reduceBEq, Int.reduceBNe, Nat.reduceBEq, Int.reduceLE, Int.reduceLT, Int.reduceEq, Int.reduceNe, Int.reduceNeg, Nat.reduceDiv, Nat.reduceMod, Nat.reducePow, cast_lit, c10, hN0, hN]
        have hz5 := Option.some.inj hz5; subst hz5
        refine And.intro rfl (Fit2.of (fit_loc hU rfl rfl ?_) (by omega))
        simp only [push_cast, Nat.reduceAdd, Nat.reduceSub, Nat.reduceMul, Nat.reduceLeDiff, Nat.reduceLT, Nat.reduceEqDiff, ↓reduceIte, reduceCtorEq, Int.reduceBEq, Int.reduceBNe, Nat.reduceBEq, Int.reduceLE, Int.reduceLT, Int.reduceEq, Int.reduceNe, Int.reduceNeg, Nat.reduceDiv, Nat.reduceMod, Nat.reducePow, cast_lit, c10, hN0, hN]
    refine W_cond (t := z5) rfl (fun c11 => ?_) (fun c11 => ?_)
    · replace h := condT c11 h
      refine W_sq [2] (W_regionD tab_ok [] ?_)
      simp only [push_cast, Nat.reduceAdd, Nat.reduceSub, Nat.reduceMul, Nat.reduceLeDiff, Nat.reduceLT, Nat.reduceEqDiff, ↓reduceIte, reduceCtorEq, Int.reduceBEq, Int.reduceBNe, Nat.reduceBEq, Int.reduceLE, Int.reduceLT, Int.reduceEq, Int.reduceNe, Int.reduceNeg, Nat.reduceDiv, Nat.reduceMod, Nat.reducePow, cast_lit, hN0, hN]
      refine W_ret ?_
      try simp only [gthen, gblock]
      have h := Option.some.inj h; subst h
      refine fin_loc (.inr rfl) hU [.val (.int .i64 2)] (by omega) ?_
      simp only [push_cast, Nat.reduceAdd, Nat.reduceSub, Nat.reduceMul, Nat.reduceLeDiff, Nat.reduceLT, Nat.reduceEqDiff, ↓reduceIte, reduceCtorEq, Int.reduceBEq, Int.reduceBNe, Nat.reduceBEq, Int.reduceLE, Int.reduceLT, Int.reduceEq, Int.reduceNe, Int.reduceNeg, Nat.reduceDiv, Nat.reduceMod, Nat.reducePow, cast_lit, Try.results86, hN0, hN]
    · replace h := condF c11 h
      refine W_skip ?_
      try simp only [gthen, gblock]
      refine W_drop [] [false] ?_
      simp only [push_cast, seval, ↓reduceIte]
      refine W_sq [2] (W_regionD tab_ok [] ?_)
      simp only [push_cast, Nat.reduceAdd, Nat.reduceSub, Nat.reduceMul, Nat.reduceLeDiff, Nat.reduceLT, Nat.reduceEqDiff, ↓reduceIte, reduceCtorEq, Int.reduceBEq, Int.reduceBNe, Nat.reduceBEq, Int.reduceLE, Int.reduceLT, Int.reduceEq, Int.reduceNe, Int.reduceNeg, Nat.reduceDiv, Nat.reduceMod, Nat.reducePow, cast_lit, hN0, hN]
      refine W_ret ?_
      try simp only [gthen, gblock]
      have h := Option.some.inj h; subst h
      refine fin_loc (.inr rfl) hU [.val (.int .i64 1)] (by omega) ?_
      simp only [push_cast, Nat.reduceAdd, Nat.reduceSub, Nat.reduceMul, Nat.reduceLeDiff, Nat.reduceLT, Nat.reduceEqDiff, ↓reduceIte, reduceCtorEq, Int.reduceBEq, Int.reduceBNe, Nat.reduceBEq, Int.reduceLE, Int.reduceLT, Int.reduceEq, Int.reduceNe, Int.reduceNeg, Nat.reduceDiv, Nat.reduceMod, Nat.reducePow, cast_lit, Try.results86, hN0, hN]

theorem ok_reader_Ref_Words {a0 : S_reader_Ref} {r : Int} {O : Objs} {n : Nat} (h : m_reader_Ref_Words a0 = some r) : GTo Try.prog 52 [.agg [(gP e_S_arena_Arena a0.a), .val (.int .i64 a0.kind), .val (.int .i64 a0.segment), .val (.int .i64 a0.at_), .val (.int .i64 a0.words), .val (.int .i64 a0.ptrs), .val (.int .i64 a0.count), .val (.int .i64 a0.code), .val (.int .i64 a0.index)]] O n (.val (.int .i64 r)) O n := by
  unfold m_reader_Ref_Words at h
  refine fn_of tab_ok Try.call52 Try.func52 rfl (Nat.le_of_ble_eq_true rfl) (Nat.le_refl _) fun hU => ?_
  have hN0 : O n = none := hU.fresh _ (Nat.le_refl _)
  have hN : ∀ k, O (n + k) = none := fun k => hU.fresh _ (Nat.le_add_right _ _)
  show W _ _ _ _ ⟨11, [], [(0, .agg [(gP e_S_arena_Arena a0.a), .val (.int .i64 a0.kind), .val (.int .i64 a0.segment), .val (.int .i64 a0.at_), .val (.int .i64 a0.words), .val (.int .i64 a0.ptrs), .val (.int .i64 a0.count), .val (.int .i64 a0.code), .val (.int .i64 a0.index)])]⟩ (Loc O n []) _
  refine W_sq [1] (W_regionD tab_ok [] ?_)
  simp only [push_cast, Nat.reduceAdd, Nat.reduceSub, Nat.reduceMul, Nat.reduceLeDiff, Nat.reduceLT, Nat.reduceEqDiff, ↓reduceIte, reduceCtorEq, Int.reduceBEq, Int.reduceBNe, Nat.reduceBEq, Int.reduceLE, Int.reduceLT, Int.reduceEq, Int.reduceNe, Int.reduceNeg, Nat.reduceDiv, Nat.reduceMod, Nat.reducePow, cast_lit, hN0, hN]
  refine W_seqK ?_
  refine W_sq [1, 4] (W_regionD tab_ok [] ?_)
  simp only [push_cast, Nat.reduceAdd, Nat.reduceSub, Nat.reduceMul, Nat.reduceLeDiff, Nat.reduceLT, Nat.reduceEqDiff, ↓reduceIte, reduceCtorEq, Int.reduceBEq, Int.reduceBNe, Nat.reduceBEq, Int.reduceLE, Int.reduceLT, Int.reduceEq, Int.reduceNe, Int.reduceNeg, Nat.reduceDiv, Nat.reduceMod, Nat.reducePow, cast_lit, hN0, hN]
  refine W_block ?_
  refine W_sq [1, 4, 5] (W_regionD tab_ok [] ?_)
  simp only [push_cast, Nat.reduceAdd, Nat.reduceSub, Nat.reduceMul, Nat.reduceLeDiff, Nat.reduceLT, Nat.reduceEqDiff, ↓reduceIte, reduceCtorEq, Int.reduceBEq, Int.reduceBNe, Nat.reduceBEq, Int.reduceLE, Int.reduceLT, Int.reduceEq, Int.reduceNe, Int.reduceNeg, Nat.reduceDiv, Nat.reduceMod, Nat.reducePow, cast_lit, hN0, hN]
  refine W_cond (t := (a0.kind == 1)) rfl (fun c2 => ?_) (fun c2 => ?_)
  · replace h := condT c2 h
    refine W_sq [2] (W_regionD tab_ok [] ?_)
    simp only [push_cast, Nat.reduceAdd, Nat.reduceSub, Nat.reduceMul, Nat.reduceLeDiff, Nat.reduceLT, Nat.reduceEqDiff, ↓reduceIte, reduceCtorEq, Int.reduceBEq, Int.reduceBNe, Nat.reduceBEq, Int.reduceLE, Int.reduceLT, Int.reduceEq, Int.reduceNe, Int.reduceNeg, Nat.reduceDiv, Nat.reduceMod, Nat.reducePow, cast_lit, hN0, hN]
    refine W_ret ?_
    try simp only [gthen, gblock]
    have h := Option.some.inj h; subst h
    refine fin_loc (.inr rfl) hU [.val (.int .i64 a0.words)] (by omega) ?_
    simp only [push_cast, Nat.reduceAdd, Nat.reduceSub, Nat.reduceMul, Nat.reduceLeDiff, Nat.reduceLT, Nat.reduceEqDiff, ↓reduceIte, reduceCtorEq, Int.reduceBEq, Int.reduceBNe, Nat.reduceBEq, Int.reduceLE, Int.reduceLT, Int.reduceEq, Int.reduceNe, Int.reduceNeg, Nat.reduceDiv, Nat.reduceMod, Nat.reducePow, cast_lit, Try.results52, hN0, hN]
  · replace h := condF c2 h
    refine W_sq [9] (W_regionD tab_ok [] ?_)
    simp only [push_cast, Nat.reduceAdd, Nat.reduceSub, Nat.reduceMul, Nat.reduceLeDiff, Nat.reduceLT, Nat.reduceEqDiff, ↓reduceIte, reduceCtorEq, Int.reduceBEq, Int.reduceBNe, Nat.reduceBEq, Int.reduceLE, Int.reduceLT, Int.reduceEq, Int.reduceNe, Int.reduceNeg, Nat.reduceDiv, Nat.reduceMod, Nat.reducePow, cast_lit, hN0, hN]
    refine W_cond (t := (a0.kind == 10)) rfl (fun c1 => ?_) (fun c1 => ?_)
    · replace h := condT c1 h
      refine W_sq [2] (W_regionD tab_ok [] ?_)
      simp only [push_cast, Nat.reduceAdd, Nat.reduceSub, Nat.reduceMul, Nat.reduceLeDiff, Nat.reduceLT, Nat.reduceEqDiff, ↓reduceIte, reduceCtorEq, Int.reduceBEq, Int.reduceBNe, Nat.reduceBEq, Int.reduceLE, Int.reduceLT, Int.reduceEq, Int.reduceNe, Int.reduceNeg, Nat.reduceDiv, Nat.reduceMod, Nat.reducePow, cast_lit, hN0, hN]
      refine W_ret ?_
      try simp only [gthen, gblock]
      have h := Option.some.inj h; subst h
      refine fin_loc (.inr rfl) hU [.val (.int .i64 1)] (by omega) ?_
      simp only [push_cast, Nat.reduceAdd, Nat.reduceSub, Nat.reduceMul, Nat.reduceLeDiff, Nat.reduceLT, Nat.reduceEqDiff, ↓reduceIte, reduceCtorEq, Int.reduceBEq, Int.reduceBNe, Nat.reduceBEq, Int.reduceLE, Int.reduceLT, Int.reduceEq, Int.reduceNe, Int.reduceNeg, Nat.reduceDiv, Nat.reduceMod, Nat.reducePow, cast_lit, Try.results52, hN0, hN]
    · replace h := condF c1 h
      refine W_skip ?_
      try simp only [gthen, gblock]
      refine W_drop [] [false] ?_
      simp only [push_cast, seval, ↓reduceIte]
      refine W_sq [2] (W_regionD tab_ok [] ?_)
      simp only [push_cast, Nat.reduceAdd, Nat.reduceSub, Nat.reduceMul, Nat.reduceLeDiff, Nat.reduceLT, Nat.reduceEqDiff, ↓reduceIte, reduceCtorEq, Int.reduceBEq, Int.reduceBNe, Nat.reduceBEq, Int.reduceLE, Int.reduceLT, Int.reduceEq, Int.reduceNe, Int.reduceNeg, Nat.reduceDiv, Nat.reduceMod, Nat.reducePow, cast_lit, hN0, hN]
      refine W_ret ?_
      try simp only [gthen, gblock]
      have h := Option.some.inj h; subst h
      refine fin_loc (.inr rfl) hU [.val (.int .i64 0)] (by omega) ?_
      simp only [push_cast, Nat.reduceAdd, Nat.reduceSub, Nat.reduceMul, Nat.reduceLeDiff, Nat.reduceLT, Nat.reduceEqDiff, ↓reduceIte, reduceCtorEq, Int.reduceBEq, Int.reduceBNe, Nat.reduceBEq, Int.reduceLE, Int.reduceLT, Int.reduceEq, Int.reduceNe, Int.reduceNeg, Nat.reduceDiv, Nat.reduceMod, Nat.reducePow, cast_lit, Try.results52, hN0, hN]

theorem ok_reader_Ref_Frame {a0 : S_reader_Ref} {r : (Int × Int)} {O : Objs} {n : Nat} (h : m_reader_Ref_Frame a0 = some r) : GTo Try.prog 121 [.agg [(gP e_S_arena_Arena a0.a), .val (.int .i64 a0.kind), .val (.int .i64 a0.segment), .val (.int .i64 a0.at_), .val (.int .i64 a0.words), .val (.int .i64 a0.ptrs), .val (.int .i64 a0.count), .val (.int .i64 a0.code), .val (.int .i64 a0.index)]] O n (.tup [.val (.int .i64 r.1), .val (.int .i64 r.2)]) O n := by
  unfold m_reader_Ref_Frame at h
  refine fn_of tab_ok Try.call121 Try.func121 rfl (Nat.le_of_ble_eq_true rfl) (Nat.le_refl _) fun hU => ?_
  have hN0 : O n = none := hU.fresh _ (Nat.le_refl _)
  have hN : ∀ k, O (n + k) = none := fun k => hU.fresh _ (Nat.le_add_right _ _)
  show W _ _ _ _ ⟨11, [], [(0, .agg [(gP e_S_arena_Arena a0.a), .val (.int .i64 a0.kind), .val (.int .i64 a0.segment), .val (.int .i64 a0.at_), .val (.int .i64 a0.words), .val (.int .i64 a0.ptrs), .val (.int .i64 a0.count), .val (.int .i64 a0.code), .val (.int .i64 a0.index)])]⟩ (Loc O n []) _
  refine W_sq [1] (W_regionD tab_ok [] ?_)
  simp only [push_cast, Nat.reduceAdd, Nat.reduceSub, Nat.reduceMul, Nat.reduceLeDiff, Nat.reduceLT, Nat.reduceEqDiff, ↓reduceIte, reduceCtorEq, Int.reduceBEq, Int.reduceBNe, Nat.reduceBEq, Int.reduceLE, Int.reduceLT, Int.reduceEq, Int.reduceNe, Int.reduceNeg, Nat.reduceDiv, Nat.reduceMod, Nat.reducePow, cast_lit, hN0, hN]
  refine W_seqK ?_
  refine W_sq [1, 6] (W_regionD tab_ok [] ?_)
  simp only [push_cast, Nat.reduceAdd, Nat.reduceSub, Nat.reduceMul, Nat.reduceLeDiff, Nat.reduceLT, Nat.reduceEqDiff, ↓reduceIte, reduceCtorEq, Int.reduceBEq, Int.reduceBNe, Nat.reduceBEq, Int.reduceLE, Int.reduceLT, Int.reduceEq, Int.reduceNe, Int.reduceNeg, Nat.reduceDiv, Nat.reduceMod, Nat.reducePow, cast_lit, hN0, hN]
  refine W_cond (t := (a0.kind != 9)) rfl (fun c1 => ?_) (fun c1 => ?_)
  · replace h := condT c1 h
    refine W_sq [2, 3] (W_regionD tab_ok [] ?_)
    simp only [push_cast, Nat.reduceAdd, Nat.reduceSub, Nat.reduceMul, Nat.reduceLeDiff, Nat.reduceLT, Nat.reduceEqDiff, ↓reduceIte, reduceCtorEq, Int.reduceBEq, Int.reduceBNe, Nat.reduceBEq, Int.reduceLE, Int.reduceLT, Int.reduceEq, Int.reduceNe, Int.reduceNeg, Nat.reduceDiv, Nat.reduceMod, Nat.reducePow, cast_lit, hN0, hN]
    refine W_ret ?_
    try simp only [gthen, gblock]
    have h := Option.some.inj h; subst h
    refine fin_loc (.inr rfl) hU [.val (.int .i64 0), .val (.int .i64 0)] (by omega) ?_
    simp only [push_cast, Nat.reduceAdd, Nat.reduceSub, Nat.reduceMul, Nat.reduceLeDiff, Nat.reduceLT, Nat.reduceEqDiff, ↓reduceIte, reduceCtorEq, Int.reduceBEq, Int.reduceBNe, Nat.reduceBEq, Int.reduceLE, Int.reduceLT, Int.reduceEq, Int.reduceNe, Int.reduceNeg, Nat.reduceDiv, Nat.reduceMod, Nat.reducePow, cast_lit, Try.results121, hN0, hN]
  · replace h := condF c1 h
    refine W_skip ?_
    try simp only [gthen, gblock]
    refine W_drop [1] [true] ?_
    simp only [push_cast, seval, ↓reduceIte]
    refine W_sq [2, 3] (W_drawD tab_ok (by kernel_rfl) [] (by kernel_rfl) ?_)
    simp only [push_cast, Nat.reduceAdd, Nat.reduceSub, Nat.reduceMul, Nat.reduceLeDiff, Nat.reduceLT, Nat.reduceEqDiff, ↓reduceIte, reduceCtorEq, Int.reduceBEq, Int.reduceBNe, Nat.reduceBEq, Int.reduceLE, Int.reduceLT, Int.reduceEq, Int.reduceNe, Int.reduceNeg, Nat.reduceDiv, Nat.reduceMod, Nat.reducePow, cast_lit, hN0, hN]
    refine W_ret ?_
    try simp only [gthen, gblock]
    have h := Option.some.inj h; subst h
    refine fin_loc (.inr rfl) hU [.val (.int .i64 a0.words), .val (.int .i64 a0.ptrs)] (by omega) ?_
    simp only [push_cast, Nat.reduceAdd, Nat.reduceSub, Nat.reduceMul, Nat.reduceLeDiff, Nat.reduceLT, Nat.reduceEqDiff, ↓reduceIte, reduceCtorEq, Int.reduceBEq, Int.reduceBNe, Nat.reduceBEq, Int.reduceLE, Int.reduceLT, Int.reduceEq, Int.reduceNe, Int.reduceNeg, Nat.reduceDiv, Nat.reduceMod, Nat.reducePow, cast_lit, Try.results121, hN0, hN]

theorem ok_valid_weight {a0 : S_reader_Ref} {r : Int} {O : Objs} {n : Nat} (h : m_valid_weight a0 = some r) : GTo Try.prog 87 [.agg [(gP e_S_arena_Arena a0.a), .val (.int .i64 a0.kind), .val (.int .i64 a0.segment), .val (.int .i64 a0.at_), .val (.int .i64 a0.words), .val (.int .i64 a0.ptrs), .val (.int .i64 a0.count), .val (.int .i64 a0.code), .val (.int .i64 a0.index)]] O n (.val (.int .i64 r)) O n := by
  unfold m_valid_weight at h
  refine fn_of tab_ok Try.call87 Try.func87 rfl (Nat.le_of_ble_eq_true rfl) (Nat.le_refl _) fun hU => ?_
  have hN0 : O n = none := hU.fresh _ (Nat.le_refl _)
  have hN : ∀ k, O (n + k) = none := fun k => hU.fresh _ (Nat.le_add_right _ _)
  show W _ _ _ _ ⟨35, [], [(0, .agg [(gP e_S_arena_Arena a0.a), .val (.int .i64 a0.kind), .val (.int .i64 a0.segment), .val (.int .i64 a0.at_), .val (.int .i64 a0.words), .val (.int .i64 a0.ptrs), .val (.int .i64 a0.count), .val (.int .i64 a0.code), .val (.int .i64 a0.index)])]⟩ (Loc O n []) _
  refine W_sq [1] (W_regionD tab_ok [] ?_)
  simp only [push_cast, Nat.reduceAdd, Nat.reduceSub, Nat.reduceMul, Nat.reduceLeDiff, Nat.reduceLT, Nat.reduceEqDiff, ↓reduceIte, reduceCtorEq, Int.reduceBEq, Int.reduceBNe, Nat.reduceBEq, Int.reduceLE, Int.reduceLT, Int.reduceEq, Int.reduceNe, Int.reduceNeg, Nat.reduceDiv, Nat.reduceMod, Nat.reducePow, cast_lit, hN0, hN]
  refine W_seqK ?_
  refine W_seqK ?_
  obtain ⟨y2, hy2, h⟩ := bC h
  refine W_regionD tab_ok [] ?_
  simp only [push_cast, Nat.reduceAdd, Nat.reduceSub, Nat.reduceMul, Nat.reduceLeDiff, Nat.reduceLT, Nat.reduceEqDiff, ↓reduceIte, reduceCtorEq, Int.reduceBEq, Int.reduceBNe, Nat.reduceBEq, Int.reduceLE, Int.reduceLT, Int.reduceEq, Int.reduceNe, Int.reduceNeg, Nat.reduceDiv, Nat.reduceMod, Nat.reducePow, cast_lit, hN0, hN]
  refine (ok_reader_Ref_Kind hy2).then ?_
  simp only [push_cast, Nat.reduceAdd, Nat.reduceSub, Nat.reduceMul, Nat.reduceLeDiff, Nat.reduceLT, Nat.reduceEqDiff, ↓reduceIte, reduceCtorEq, Int.reduceBEq, Int.reduceBNe, Nat.reduceBEq, Int.reduceLE, Int.reduceLT, Int.reduceEq, Int.reduceNe, Int.reduceNeg, Nat.reduceDiv, Nat.reduceMod, Nat.reducePow, cast_lit, hN0, hN]
  refine W_drop [1, 6] [true] ?_
  simp only [push_cast, seval, ↓reduceIte]
  refine W_block ?_
  refine W_sq [1, 6, 7] (W_regionD tab_ok [] ?_)
  simp only [push_cast, Nat.reduceAdd, Nat.reduceSub, Nat.reduceMul, Nat.reduceLeDiff, Nat.reduceLT, Nat.reduceEqDiff, ↓reduceIte, reduceCtorEq, Int.reduceBEq, Int.reduceBNe, Nat.reduceBEq, Int.reduceLE, Int.reduceLT, Int.reduceEq, Int.reduceNe, Int.reduceNeg, Nat.reduceDiv, Nat.reduceMod, Nat.reducePow, cast_lit, hN0, hN]
  refine W_cond (t := (y2 == 0)) rfl (fun c15 => ?_) (fun c15 => ?_)
  · replace h := condT c15 h
    refine W_sq [2] (W_regionD tab_ok [] ?_)
    simp only [push_cast, Nat.reduceAdd, Nat.reduceSub, Nat.reduceMul, Nat.reduceLeDiff, Nat.reduceLT, Nat.reduceEqDiff, ↓reduceIte, reduceCtorEq, Int.reduceBEq, Int.reduceBNe, Nat.reduceBEq, Int.reduceLE, Int.reduceLT, Int.reduceEq, Int.reduceNe, Int.reduceNeg, Nat.reduceDiv, Nat.reduceMod, Nat.reducePow, cast_lit, hN0, hN]
    refine W_ret ?_
    try simp only [gthen, gblock]
    have h := Option.some.inj h; subst h
    refine fin_loc (.inr rfl) hU [.val (.int .i64 0)] (by omega) ?_
    simp only [push_cast, Nat.reduceAdd, Nat.reduceSub, Nat.reduceMul, Nat.reduceLeDiff, Nat.reduceLT, Nat.reduceEqDiff, ↓reduceIte, reduceCtorEq, Int.reduceBEq, Int.reduceBNe, Nat.reduceBEq, Int.reduceLE, Int.reduceLT, Int.reduceEq, Int.reduceNe, Int.reduceNeg, Nat.reduceDiv, Nat.reduceMod, Nat.reducePow, cast_lit, Try.results87, hN0, hN]
  · replace h := condF c15 h
    refine W_sq [1, 6, 9] (W_regionD tab_ok [] ?_)
    simp only [push_cast, Nat.reduceAdd, Nat.reduceSub, Nat.reduceMul, Nat.reduceLeDiff, Nat.reduceLT, Nat.reduceEqDiff, ↓reduceIte, reduceCtorEq, Int.reduceBEq, Int.reduceBNe, Nat.reduceBEq, Int.reduceLE, Int.reduceLT, Int.reduceEq, Int.reduceNe, Int.reduceNeg, Nat.reduceDiv, Nat.reduceMod, Nat.reducePow, cast_lit, hN0, hN]
    refine W_cond (t := (y2 == 1)) rfl (fun c14 => ?_) (fun c14 => ?_)
    · replace h := condT c14 h
      refine W_seqK ?_
      obtain ⟨y5, hy5, h⟩ := bC h
      obtain ⟨y6, hy6, h⟩ := bC h
      refine W_drawD tab_ok (by kernel_rfl) [] (by kernel_rfl) ?_
      simp only [push_cast, Nat.reduceAdd, Nat.reduceSub, Nat.reduceMul, Nat.reduceLeDiff, Nat.reduceLT, Nat.reduceEqDiff, ↓reduceIte, reduceCtorEq, Int.reduceBEq, Int.reduceBNe, Nat.reduceBEq, Int.reduceLE, Int.reduceLT, Int.reduceEq, Int.reduceNe, Int.reduceNeg, Nat.reduceDiv, Nat.reduceMod, Nat.reducePow, cast_lit, hN0, hN]
      refine PCall.of (ok_reader_Ref_Words hy5) ?_
      simp only [push_cast, Nat.reduceAdd, Nat.reduceSub, Nat.reduceMul, Nat.reduceLeDiff, Nat.reduceLT, Nat.reduceEqDiff, ↓reduceIte, reduceCtorEq, Int.reduceBEq, Int.reduceBNe, Nat.reduceBEq, Int.reduceLE, Int.reduceLT, Int.reduceEq, Int.reduceNe, Int.reduceNeg, Nat.reduceDiv, Nat.reduceMod, Nat.reducePow, cast_lit, hN0, hN]
      refine PCall.of (ok_reader_Ref_Kids hy6) ?_
      simp only [push_cast, Nat.reduceAdd, Nat.reduceSub, Nat.reduceMul, Nat.reduceLeDiff, Nat.reduceLT, Nat.reduceEqDiff, ↓reduceIte, reduceCtorEq, Int.reduceBEq, Int.reduceBNe, Nat.reduceBEq, Int.reduceLE, Int.reduceLT, Int.reduceEq, Int.reduceNe, Int.reduceNeg, Nat.reduceDiv, Nat.reduceMod, Nat.reducePow, cast_lit, hN0, hN]
      refine W_drop [2] [false] ?_
      simp only [push_cast, seval, ↓reduceIte]
      refine W_ret ?_
      try simp only [gthen, gblock]
      have h := Option.some.inj h; subst h
      refine fin_loc (.inr rfl) hU [.val (.int .i64 (IntKind.i64.wrap ((IntKind.i64.wrap (1 + y5)) + y6)))] (by omega) ?_
      simp only [push_cast, Nat.reduceAdd, Nat.reduceSub, Nat.reduceMul, Nat.reduceLeDiff, Nat.reduceLT, Nat.reduceEqDiff, ↓reduceIte, reduceCtorEq, Int.reduceBEq, Int.reduceBNe, Nat.reduceBEq, Int.reduceLE, Int.reduceLT, Int.reduceEq, Int.reduceNe, Int.reduceNeg, Nat.reduceDiv, Nat.reduceMod, Nat.reducePow, cast_lit, Try.results87, hN0, hN]
    · replace h := condF c14 h
      refine W_sq [1, 17] (W_regionD tab_ok [] ?_)
      simp only [push_cast, Nat.reduceAdd, Nat.reduceSub, Nat.reduceMul, Nat.reduceLeDiff, Nat.reduceLT, Nat.reduceEqDiff, ↓reduceIte, reduceCtorEq, Int.reduceBEq, Int.reduceBNe, Nat.reduceBEq, Int.reduceLE, Int.reduceLT, Int.reduceEq, Int.reduceNe, Int.reduceNeg, Nat.reduceDiv, Nat.reduceMod, Nat.reducePow, cast_lit, hN0, hN]
      refine W_cond (t := (y2 == 9)) rfl (fun c13 => ?_) (fun c13 => ?_)
      · replace h := condT c13 h
        refine W_seqK ?_
        obtain ⟨y8, hy8, h⟩ := bC h
        refine W_regionD tab_ok [] ?_
        simp only [push_cast, Nat.reduceAdd, Nat.reduceSub, Nat.reduceMul, Nat.reduceLeDiff, Nat.reduceLT, Nat.reduceEqDiff, ↓reduceIte, reduceCtorEq, Int.reduceBEq, Int.reduceBNe, Nat.reduceBEq, Int.reduceLE, Int.reduceLT, Int.reduceEq, Int.reduceNe, Int.reduceNeg, Nat.reduceDiv, Nat.reduceMod, Nat.reducePow, cast_lit, hN0, hN]
        refine (ok_reader_Ref_Frame hy8).then ?_
        simp only [push_cast, Nat.reduceAdd, Nat.reduceSub, Nat.reduceMul, Nat.reduceLeDiff, Nat.reduceLT, Nat.reduceEqDiff, ↓reduceIte, reduceCtorEq, Int.reduceBEq, Int.reduceBNe, Nat.reduceBEq, Int.reduceLE, Int.reduceLT, Int.reduceEq, Int.reduceNe, Int.reduceNeg, Nat.reduceDiv, Nat.reduceMod, Nat.reducePow, cast_lit, hN0, hN]
        refine W_drop [1, 3, 4] [true] ?_
        simp only [push_cast, seval, ↓reduceIte]
        refine W_seqK ?_
        obtain ⟨y10, hy10, h⟩ := bC h
        refine W_regionD tab_ok [] ?_
        simp only [push_cast, Nat.reduceAdd, Nat.reduceSub, Nat.reduceMul, Nat.reduceLeDiff, Nat.reduceLT, Nat.reduceEqDiff, ↓reduceIte, reduceCtorEq, Int.reduceBEq, Int.reduceBNe, Nat.reduceBEq, Int.reduceLE, Int.reduceLT, Int.reduceEq, Int.reduceNe, Int.reduceNeg, Nat.reduceDiv, Nat.reduceMod, Nat.reducePow, cast_lit, hN0, hN]
        refine (ok_reader_Ref_Kids hy10).then ?_
        simp only [push_cast, Nat.reduceAdd, Nat.reduceSub, Nat.reduceMul, Nat.reduceLeDiff, Nat.reduceLT, Nat.reduceEqDiff, ↓reduceIte, reduceCtorEq, Int.reduceBEq, Int.reduceBNe, Nat.reduceBEq, Int.reduceLE, Int.reduceLT, Int.reduceEq, Int.reduceNe, Int.reduceNeg, Nat.reduceDiv, Nat.reduceMod, Nat.reducePow, cast_lit, hN0, hN]
        refine W_drop [2] [false] ?_
        simp only [push_cast, seval, ↓reduceIte]
        refine W_ret ?_
        try simp only [gthen, gblock]
        have h := Option.some.inj h; subst h
        refine fin_loc (.inr rfl) hU [.val (.int .i64 (IntKind.i64.wrap (1 + (IntKind.i64.wrap (y10 * (IntKind.i64.wrap ((IntKind.i64.wrap (1 + y8.1)) + y8.2)))))))] (by omega) ?_
        simp only [push_cast, Nat.reduceAdd, Nat.reduceSub, Nat.reduceMul, Nat.reduceLeDiff, Nat.reduceLT, Nat.reduceEqDiff, ↓reduceIte, reduceCtorEq, Int.reduceBEq, Int.reduceBNe, Nat.reduceBEq, Int.reduceLE, Int.reduceLT, Int.reduceEq, Int.reduceNe, Int.reduceNeg, Nat.reduceDiv, Nat.reduceMod, Nat.reducePow, cast_lit, Try.results87, hN0, hN]
      · replace h := condF c13 h
        refine W_skip ?_
        try simp only [gthen, gblock]
        refine W_drop [1] [true] ?_
        simp only [push_cast, seval, ↓reduceIte]
        refine W_seqK ?_
        obtain ⟨y12, hy12, h⟩ := bC h
        refine W_regionD tab_ok [] ?_
        simp only [push_cast, Nat.reduceAdd, Nat.reduceSub, Nat.reduceMul, Nat.reduceLeDiff, Nat.reduceLT, Nat.reduceEqDiff, ↓reduceIte, reduceCtorEq, Int.reduceBEq, Int.reduceBNe, Nat.reduceBEq, Int.reduceLE, Int.reduceLT, Int.reduceEq, Int.reduceNe, Int.reduceNeg, Nat.reduceDiv, Nat.reduceMod, Nat.reducePow, cast_lit, hN0, hN]
        refine (ok_reader_Ref_Kids hy12).then ?_
        simp only [push_cast, Nat.reduceAdd, Nat.reduceSub, Nat.reduceMul, Nat.reduceLeDiff, Nat.reduceLT, Nat.reduceEqDiff, ↓reduceIte, reduceCtorEq, Int.reduceBEq, Int.reduceBNe, Nat.reduceBEq, Int.reduceLE, Int.reduceLT, Int.reduceEq, Int.reduceNe, Int.reduceNeg, Nat.reduceDiv, Nat.reduceMod, Nat.reducePow, cast_lit, hN0, hN]
        refine W_drop [2] [false] ?_
        simp only [push_cast, seval, ↓reduceIte]
        refine W_ret ?_
        try simp only [gthen, gblock]
        have h := Option.some.inj h; subst h
        refine fin_loc (.inr rfl) hU [.val (.int .i64 (IntKind.i64.wrap (1 + y12)))] (by omega) ?_
        simp only [push_cast, Nat.reduceAdd, Nat.reduceSub, Nat.reduceMul, Nat.reduceLeDiff, Nat.reduceLT, Nat.reduceEqDiff, ↓reduceIte, reduceCtorEq, Int.reduceBEq, Int.reduceBNe, Nat.reduceBEq, Int.reduceLE, Int.reduceLT, Int.reduceEq, Int.reduceNe, Int.reduceNeg, Nat.reduceDiv, Nat.reduceMod, Nat.reducePow, cast_lit, Try.results87, hN0, hN]

theorem ok_reader_Ref_Kid {a0 : S_reader_Ref} {a1 : Int} {r : (S_reader_Ref × Int)} {O : Objs} {n : Nat} (h : m_reader_Ref_Kid a0 a1 = some r) : GTo Try.prog 28 [.agg [(gP e_S_arena_Arena a0.a), .val (.int .i64 a0.kind), .val (.int .i64 a0.segment), .val (.int .i64 a0.at_), .val (.int .i64 a0.words), .val (.int .i64 a0.ptrs), .val (.int .i64 a0.count), .val (.int .i64 a0.code), .val (.int .i64 a0.index)], .val (.int .i64 a1)] O n (.tup [.agg [(gP e_S_arena_Arena r.1.a), .val (.int .i64 r.1.kind), .val (.int .i64 r.1.segment), .val (.int .i64 r.1.at_), .val (.int .i64 r.1.words), .val (.int .i64 r.1.ptrs), .val (.int .i64 r.1.count), .val (.int .i64 r.1.code), .val (.int .i64 r.1.index)], .val (.int .i64 r.2)]) O n := by
  unfold m_reader_Ref_Kid at h
  refine fn_of tab_ok Try.call28 Try.func28 rfl (Nat.le_of_ble_eq_true rfl) (Nat.le_refl _) fun hU => ?_
  have hN0 : O n = none := hU.fresh _ (Nat.le_refl _)
  have hN : ∀ k, O (n + k) = none := fun k => hU.fresh _ (Nat.le_add_right _ _)
  show W _ _ _ _ ⟨81, [], [(0, .agg [(gP e_S_arena_Arena a0.a), .val (.int .i64 a0.kind), .val (.int .i64 a0.segment), .val (.int .i64 a0.at_), .val (.int .i64 a0.words), .val (.int .i64 a0.ptrs), .val (.int .i64 a0.count), .val (.int .i64 a0.code), .val (.int .i64 a0.index)]), (1, .val (.int .i64 a1))]⟩ (Loc O n []) _
  refine W_sq [1, 2, 4] (W_regionD tab_ok [] ?_)
  simp only [push_cast, Nat.reduceAdd, Nat.reduceSub, Nat.reduceMul, Nat.reduceLeDiff, Nat.reduceLT, Nat.reduceEqDiff, ↓reduceIte, reduceCtorEq, Int.reduceBEq, Int.reduceBNe, Nat.reduceBEq, Int.reduceLE, Int.reduceLT, Int.reduceEq, Int.reduceNe, Int.reduceNeg, Nat.reduceDiv, Nat.reduceMod, Nat.reducePow, cast_lit, hN0, hN]
  refine W_seqK ?_
  obtain ⟨z2, hz2, h⟩ := bC h
  refine W_seqN (E' := ⟨81, [], [(1, .val (.int .i64 a1)), (2, .ref n 0), (4, .ref (n + 1) 0), (14, .val (.bool z2))]⟩) (O' := (Loc O n [some ⟨false, 50, 9, 1, [(gP e_S_arena_Arena a0.a), .val (.int .i64 a0.kind), .val (.int .i64 a0.segment), .val (.int .i64 a0.at_), .val (.int .i64 a0.words), .val (.int .i64 a0.ptrs), .val (.int .i64 a0.count), .val (.int .i64 a0.code), .val (.int .i64 a0.index)]⟩, some ⟨false, 50, 9, 1, [.val (.pointer none), .val (.int .i64 0), .val (.int .i64 0), .val (.int .i64 0), .val (.int .i64 0), .val (.int .i64 0), .val (.int .i64 0), .val (.int .i64 0), .val (.int .i64 0)]⟩])) (n0 := (n + 2)) ?_ ?_
  · rcases Bool.eq_false_or_eq_true (decide (a1 < 0)) with c5 | c5
    · replace hz2 := condT c5 hz2
      refine W_regionD tab_ok [some false, some false, some false, some false] ?_
      simp only [push_cast, Nat.reduceAdd, Nat.reduceSub, Nat.reduceMul, Nat.reduceLeDiff, Nat.reduceLT, Nat.reduceEqDiff, ↓reduceIte, reduceCtorEq, Int.reduceBEq, Int.reduceBNe, Nat.reduceBEq, Int.reduceLE, Int.reduceLT, Int.reduceEq, Int.reduceNe, Int.reduceNeg, Nat.reduceDiv, Nat.reduceMod, Nat.reducePow, cast_lit, c5, hN0, hN]
      have hz2 := Option.some.inj hz2; subst hz2
      refine And.intro rfl (Fit2.of (fit_loc hU rfl rfl ?_) (by omega))
      simp only [push_cast, Nat.reduceAdd, Nat.reduceSub, Nat.reduceMul, Nat.reduceLeDiff, Nat.reduceLT, Nat.reduceEqDiff, ↓reduceIte, reduceCtorEq, Int.reduceBEq, Int.reduceBNe, Nat.reduceBEq, Int.reduceLE, Int.reduceLT, Int.reduceEq, Int.reduceNe, Int.reduceNeg, Nat.reduceDiv, Nat.reduceMod, Nat.reducePow, cast_lit, c5, hN0, hN]
    · replace hz2 := condF c5 hz2
      obtain ⟨y4, hy4, hz2⟩ := bC hz2
      refine W_regionD tab_ok [some true, some true, some true, some true] ?_
      simp only [push_cast, Nat.reduceAdd, Nat.reduceSub, Nat.reduceMul, Nat.reduceLeDiff, Nat.reduceLT, Nat.reduceEqDiff, ↓reduceIte, reduceCtorEq, Int.reduceBEq, Int.reduceBNe, Nat.reduceBEq, Int.reduceLE, Int.reduceLT, Int.reduceEq, Int.reduceNe, Int.reduceNeg, Nat.reduceDiv, Nat.reduceMod, Nat.reducePow, cast_lit, c5, hN0, hN]
      refine (ok_reader_Ref_Kids hy4).then ?_
      simp only [push_cast, Nat.reduceAdd, Nat.reduceSub, Nat.reduceMul, Nat.reduceLeDiff, Nat.reduceLT, Nat.reduceEqDiff, ↓reduceIte, reduceCtorEq, Int.reduceBEq, Int.reduceBNe, Nat.reduceBEq, Int.reduceLE, Int.reduceLT, Int.reduceEq, Int.reduceNe, Int.reduceNeg, Nat.reduceDiv, Nat.reduceMod, Nat.reducePow, cast_lit, c5, hN0, hN]
      have hz2 := Option.some.inj hz2; subst hz2
      refine And.intro rfl (Fit2.of (fit_loc hU rfl rfl ?_) (by omega))
      simp only [push_cast, Nat.reduceAdd, Nat.reduceSub, Nat.reduceMul, Nat.reduceLeDiff, Nat.reduceLT, Nat.reduceEqDiff, ↓reduceIte, reduceCtorEq, Int.reduceBEq, Int.reduceBNe, Nat.reduceBEq, Int.reduceLE, Int.reduceLT, Int.reduceEq, Int.reduceNe, Int.reduceNeg, Nat.reduceDiv, Nat.reduceMod, Nat.reducePow, cast_lit, c5, hN0, hN]
  refine W_cond (t := z2) rfl (fun c13 => ?_) (fun c13 => ?_)
  · replace h := condT c13 h
    refine W_seqK ?_
    refine W_regionD tab_ok [] ?_
    simp only [push_cast, Nat.reduceAdd, Nat.reduceSub, Nat.reduceMul, Nat.reduceLeDiff, Nat.reduceLT, Nat.reduceEqDiff, ↓reduceIte, reduceCtorEq, Int.reduceBEq, Int.reduceBNe, Nat.reduceBEq, Int.reduceLE, Int.reduceLT, Int.reduceEq, Int.reduceNe, Int.reduceNeg, Nat.reduceDiv, Nat.reduceMod, Nat.reducePow, cast_lit, hN0, hN]
    refine W_drop [4, 5] [false, true] ?_
    simp only [push_cast, seval, ↓reduceIte]
    refine W_ret ?_
    try simp only [gthen, gblock]
    have h := Option.some.inj h; subst h
    refine fin_loc (.inr rfl) hU [.agg [.val (.pointer none), .val (.int .i64 0), .val (.int .i64 0), .val (.int .i64 0), .val (.int .i64 0), .val (.int .i64 0), .val (.int .i64 0), .val (.int .i64 0), .val (.int .i64 0)], .val (.int .i64 0)] (by omega) ?_
    simp only [push_cast, Nat.reduceAdd, Nat.reduceSub, Nat.reduceMul, Nat.reduceLeDiff, Nat.reduceLT, Nat.reduceEqDiff, ↓reduceIte, reduceCtorEq, Int.reduceBEq, Int.reduceBNe, Nat.reduceBEq, Int.reduceLE, Int.reduceLT, Int.reduceEq, Int.reduceNe, Int.reduceNeg, Nat.reduceDiv, Nat.reduceMod, Nat.reducePow, cast_lit, Try.results28, hN0, hN]
  · replace h := condF c13 h
    refine W_skip ?_
    try simp only [gthen, gblock]
    refine W_drop [1, 2, 4] [true, true] ?_
    simp only [push_cast, seval, ↓reduceIte]
    refine W_seqK ?_
    refine W_sq [1, 2, 4, 17] (W_regionD tab_ok [] ?_)
    simp only [push_cast, Nat.reduceAdd, Nat.reduceSub, Nat.reduceMul, Nat.reduceLeDiff, Nat.reduceLT, Nat.reduceEqDiff, ↓reduceIte, reduceCtorEq, Int.reduceBEq, Int.reduceBNe, Nat.reduceBEq, Int.reduceLE, Int.reduceLT, Int.reduceEq, Int.reduceNe, Int.reduceNeg, Nat.reduceDiv, Nat.reduceMod, Nat.reducePow, cast_lit, hN0, hN]
    refine W_block ?_
    refine W_sq [1, 2, 4, 17, 18] (W_regionD tab_ok [] ?_)
    simp only [push_cast, Nat.reduceAdd, Nat.reduceSub, Nat.reduceMul, Nat.reduceLeDiff, Nat.reduceLT, Nat.reduceEqDiff, ↓reduceIte, reduceCtorEq, Int.reduceBEq, Int.reduceBNe, Nat.reduceBEq, Int.reduceLE, Int.reduceLT, Int.reduceEq, Int.reduceNe, Int.reduceNeg, Nat.reduceDiv, Nat.reduceMod, Nat.reducePow, cast_lit, hN0, hN]
    refine W_cond (t := (a0.kind == 1)) rfl (fun c12 => ?_) (fun c12 => ?_)
    · replace h := condT c12 h
      refine W_seqK ?_
      obtain ⟨y7, hy7, h⟩ := bC h
      refine W_regionD tab_ok [] ?_
      simp only [push_cast, Nat.reduceAdd, Nat.reduceSub, Nat.reduceMul, Nat.reduceLeDiff, Nat.reduceLT, Nat.reduceEqDiff, ↓reduceIte, reduceCtorEq, Int.reduceBEq, Int.reduceBNe, Nat.reduceBEq, Int.reduceLE, Int.reduceLT, Int.reduceEq, Int.reduceNe, Int.reduceNeg, Nat.reduceDiv, Nat.reduceMod, Nat.reducePow, cast_lit, hN0, hN]
      refine (ok_reader_At hy7).then ?_
      simp only [push_cast, Nat.reduceAdd, Nat.reduceSub, Nat.reduceMul, Nat.reduceLeDiff, Nat.reduceLT, Nat.reduceEqDiff, ↓reduceIte, reduceCtorEq, Int.reduceBEq, Int.reduceBNe, Nat.reduceBEq, Int.reduceLE, Int.reduceLT, Int.reduceEq, Int.reduceNe, Int.reduceNeg, Nat.reduceDiv, Nat.reduceMod, Nat.reducePow, cast_lit, hN0, hN]
      refine W_drop [4, 5] [false, true] ?_
      simp only [push_cast, seval, ↓reduceIte]
      refine W_ret ?_
      try simp only [gthen, gblock]
      have h := Option.some.inj h; subst h
      refine fin_loc (.inr rfl) hU [.agg [(gP e_S_arena_Arena y7.1.a), .val (.int .i64 y7.1.kind), .val (.int .i64 y7.1.segment), .val (.int .i64 y7.1.at_), .val (.int .i64 y7.1.words), .val (.int .i64 y7.1.ptrs), .val (.int .i64 y7.1.count), .val (.int .i64 y7.1.code), .val (.int .i64 y7.1.index)], .val (.int .i64 y7.2)] (by omega) ?_
      simp only [push_cast, Nat.reduceAdd, Nat.reduceSub, Nat.reduceMul, Nat.reduceLeDiff, Nat.reduceLT, Nat.reduceEqDiff, ↓reduceIte, reduceCtorEq, Int.reduceBEq, Int.reduceBNe, Nat.reduceBEq, Int.reduceLE, Int.reduceLT, Int.reduceEq, Int.reduceNe, Int.reduceNeg, Nat.reduceDiv, Nat.reduceMod, Nat.reducePow, cast_lit, Try.results28, hN0, hN]
    · replace h := condF c12 h
      refine W_sq [1, 2, 4, 17, 34] (W_regionD tab_ok [] ?_)
      simp only [push_cast, Nat.reduceAdd, Nat.reduceSub, Nat.reduceMul, Nat.reduceLeDiff, Nat.reduceLT, Nat.reduceEqDiff, ↓reduceIte, reduceCtorEq, Int.reduceBEq, Int.reduceBNe, Nat.reduceBEq, Int.reduceLE, Int.reduceLT, Int.reduceEq, Int.reduceNe, Int.reduceNeg, Nat.reduceDiv, Nat.reduceMod, Nat.reducePow, cast_lit, hN0, hN]
      refine W_cond (t := (a0.kind == 8)) rfl (fun c11 => ?_) (fun c11 => ?_)
      · replace h := condT c11 h
        refine W_seqK ?_
        obtain ⟨y9, hy9, h⟩ := bC h
        refine W_regionD tab_ok [] ?_
        simp only [push_cast, Nat.reduceAdd, Nat.reduceSub, Nat.reduceMul, Nat.reduceLeDiff, Nat.reduceLT, Nat.reduceEqDiff, ↓reduceIte, reduceCtorEq, Int.reduceBEq, Int.reduceBNe, Nat.reduceBEq, Int.reduceLE, Int.reduceLT, Int.reduceEq, Int.reduceNe, Int.reduceNeg, Nat.reduceDiv, Nat.reduceMod, Nat.reducePow, cast_lit, hN0, hN]
        refine (ok_reader_At hy9).then ?_
        simp only [push_cast, Nat.reduceAdd, Nat.reduceSub, Nat.reduceMul, Nat.reduceLeDiff, Nat.reduceLT, Nat.reduceEqDiff, ↓reduceIte, reduceCtorEq, Int.reduceBEq, Int.reduceBNe, Nat.reduceBEq, Int.reduceLE, Int.reduceLT, Int.reduceEq, Int.reduceNe, Int.reduceNeg, Nat.reduceDiv, Nat.reduceMod, Nat.reducePow, cast_lit, hN0, hN]
        refine W_drop [4, 5] [false, true] ?_
        simp only [push_cast, seval, ↓reduceIte]
        refine W_ret ?_
        try simp only [gthen, gblock]
        have h := Option.some.inj h; subst h
        refine fin_loc (.inr rfl) hU [.agg [(gP e_S_arena_Arena y9.1.a), .val (.int .i64 y9.1.kind), .val (.int .i64 y9.1.segment), .val (.int .i64 y9.1.at_), .val (.int .i64 y9.1.words), .val (.int .i64 y9.1.ptrs), .val (.int .i64 y9.1.count), .val (.int .i64 y9.1.code), .val (.int .i64 y9.1.index)], .val (.int .i64 y9.2)] (by omega) ?_
        simp only [push_cast, Nat.reduceAdd, Nat.reduceSub, Nat.reduceMul, Nat.reduceLeDiff, Nat.reduceLT, Nat.reduceEqDiff, ↓reduceIte, reduceCtorEq, Int.reduceBEq, Int.reduceBNe, Nat.reduceBEq, Int.reduceLE, Int.reduceLT, Int.reduceEq, Int.reduceNe, Int.reduceNeg, Nat.reduceDiv, Nat.reduceMod, Nat.reducePow, cast_lit, Try.results28, hN0, hN]
      · replace h := condF c11 h
        refine W_sq [1, 2, 4, 47] (W_regionD tab_ok [] ?_)
        simp only [push_cast, Nat.reduceAdd, Nat.reduceSub, Nat.reduceMul, Nat.reduceLeDiff, Nat.reduceLT, Nat.reduceEqDiff, ↓reduceIte, reduceCtorEq, Int.reduceBEq, Int.reduceBNe, Nat.reduceBEq, Int.reduceLE, Int.reduceLT, Int.reduceEq, Int.reduceNe, Int.reduceNeg, Nat.reduceDiv, Nat.reduceMod, Nat.reducePow, cast_lit, hN0, hN]
        refine W_cond (t := (a0.kind == 9)) rfl (fun c10 => ?_) (fun c10 => ?_)
        · replace h := condT c10 h
          refine W_sq [2, 4, 6] (W_regionD tab_ok [] ?_)
          simp only [push_cast, Nat.reduceAdd, Nat.reduceSub, Nat.reduceMul, Nat.reduceLeDiff, Nat.reduceLT, Nat.reduceEqDiff, ↓reduceIte, reduceCtorEq, Int.reduceBEq, Int.reduceBNe, Nat.reduceBEq, Int.reduceLE, Int.reduceLT, Int.reduceEq, Int.reduceNe, Int.reduceNeg, Nat.reduceDiv, Nat.reduceMod, Nat.reducePow, cast_lit, hN0, hN]
          refine W_seqK ?_
          refine W_regionD tab_ok [] ?_
          simp only [push_cast, Nat.reduceAdd, Nat.reduceSub, Nat.reduceMul, Nat.reduceLeDiff, Nat.reduceLT, Nat.reduceEqDiff, ↓reduceIte, reduceCtorEq, Int.reduceBEq, Int.reduceBNe, Nat.reduceBEq, Int.reduceLE, Int.reduceLT, Int.reduceEq, Int.reduceNe, Int.reduceNeg, Nat.reduceDiv, Nat.reduceMod, Nat.reducePow, cast_lit, hN0, hN]
          refine W_drop [4, 5] [false, true] ?_
          simp only [push_cast, seval, ↓reduceIte]
          refine W_ret ?_
          try simp only [gthen, gblock]
          have h := Option.some.inj h; subst h
          refine fin_loc (.inr rfl) hU [.agg [(gP e_S_arena_Arena a0.a), .val (.int .i64 1), .val (.int .i64 a0.segment), .val (.int .i64 (IntKind.i64.wrap ((IntKind.i64.wrap (a0.at_ + 1)) + (IntKind.i64.wrap (a1 * (IntKind.i64.wrap (a0.words + a0.ptrs))))))), .val (.int .i64 a0.words), .val (.int .i64 a0.ptrs), .val (.int .i64 0), .val (.int .i64 0), .val (.int .i64 0)], .val (.int .i64 0)] (by omega) ?_
          simp only [push_cast, Nat.reduceAdd, Nat.reduceSub, Nat.reduceMul, Nat.reduceLeDiff, Nat.reduceLT, Nat.reduceEqDiff, ↓reduceIte, reduceCtorEq, Int.reduceBEq, Int.reduceBNe, Nat.reduceBEq, Int.reduceLE, Int.reduceLT, Int.reduceEq, Int.reduceNe, Int.reduceNeg, Nat.reduceDiv, Nat.reduceMod, Nat.reducePow, cast_lit, Try.results28, hN0, hN]
        · replace h := condF c10 h
          refine W_skip ?_
          try simp only [gthen, gblock]
          refine W_drop [1, 2, 4] [true, true] ?_
          simp only [push_cast, seval, ↓reduceIte]
          refine W_seqK ?_
          refine W_regionD tab_ok [] ?_
          simp only [push_cast, Nat.reduceAdd, Nat.reduceSub, Nat.reduceMul, Nat.reduceLeDiff, Nat.reduceLT, Nat.reduceEqDiff, ↓reduceIte, reduceCtorEq, Int.reduceBEq, Int.reduceBNe, Nat.reduceBEq, Int.reduceLE, Int.reduceLT, Int.reduceEq, Int.reduceNe, Int.reduceNeg, Nat.reduceDiv, Nat.reduceMod, Nat.reducePow, cast_lit, hN0, hN]
          refine W_drop [4, 5] [false, true] ?_
          simp only [push_cast, seval, ↓reduceIte]
          refine W_ret ?_
          try simp only [gthen, gblock]
          have h := Option.some.inj h; subst h
          refine fin_loc (.inr rfl) hU [.agg [(gP e_S_arena_Arena a0.a), .val (.int .i64 10), .val (.int .i64 a0.segment), .val (.int .i64 a0.at_), .val (.int .i64 0), .val (.int .i64 0), .val (.int .i64 0), .val (.int .i64 (IntKind.i64.wrap (a0.kind - 2))), .val (.int .i64 a1)], .val (.int .i64 0)] (by omega) ?_
          simp only [push_cast, Nat.reduceAdd, Nat.reduceSub, Nat.reduceMul, Nat.reduceLeDiff, Nat.reduceLT, Nat.reduceEqDiff, ↓reduceIte, reduceCtorEq, Int.reduceBEq, Int.reduceBNe, Nat.reduceBEq, Int.reduceLE, Int.reduceLT, Int.reduceEq, Int.reduceNe, Int.reduceNeg, Nat.reduceDiv, Nat.reduceMod, Nat.reducePow, cast_lit, Try.results28, hN0, hN]

end Go.Proofs.Ytpfbdlcnfekdkaa
