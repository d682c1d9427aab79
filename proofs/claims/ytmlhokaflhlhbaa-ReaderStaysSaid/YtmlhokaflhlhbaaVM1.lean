/- Part VM1 of this seat's mirrors: functions of the seat's program, and the plain functions that they are; each theorem bears its own conditions. -/
import Derived.Test.YtmlhokaflhlhbaaVE
namespace Go.Proofs.Ytmlhokaflhlhbaa
open Go.RowKit
set_option linter.unusedVariables false
set_option linter.unusedSimpArgs false
set_option maxRecDepth 100000
set_option maxHeartbeats 4000000
attribute [local push_cast] c_S_api_Limits c_S_api_Tree c_S_centoref09_Ref c_S_ptr_Ptr c_S_reader_Ref gfork_t gfork_f pfork_t pfork_f gthen gblock gops_nil gops_plain gops_guard onW gwantB gcalm gact gpick gpickV strip_any strip_val strip_agg strip_tup strip_sl strip_ip strip_row strip_rs strip_rp strip_ref strip_fn strip_when evS wok calmOp Op.operands Call.operands gop onK onP atK List.all_cons List.all_nil Bool.and_true Bool.true_and Bool.and_self Value.oneCell' List.take_zero List.take_succ_cons List.take_nil List.drop_zero List.drop_succ_cons List.drop_nil List.append_nil Nat.add_zero Nat.zero_add gstep gputE ev look genv gbin_ii gbin_bb gbin_ss gbin_pp gbin_rp gbin_ip gbin_ll gbin_aa geqS geqF gint gunary gconvert gload gcells gpart_lit gstore cellsOf_agg cellsOf_val cellsOf_sl cellsOf_ip cellsOf_row cellsOf_rs cellsOf_rp cellsOf_ref cellsOf_fn cellsOf_any cellsOf_tup cellsOf_when cellsOf_gP gput gplace_lit gfieldAddr gstepIn gindexAddr gindex gfield gopt bLo bHi bMx gextract galloc gbox gbuild gfill gplaces gbuildSlice gmake glen gappend gsrc gbuiltin gnil live_any live_val live_agg live_tup live_sl live_ip live_fn live_when live_ref live_rs live_rp live_row live_gP gres gone prun_nil prun_plain prun_guard pop TK.isAgg one_any one_val one_agg one_tup one_when one_sl one_ip one_row one_rs one_rp one_ref one_fn G.under G.unders List.getD_cons_zero List.getD_cons_succ List.set_cons_zero List.set_cons_succ List.map_cons List.map_nil List.toList_toArray Array.toList_append Option.toArray_none Option.toArray_some Array.toList_map Option.map_some Option.map_none Option.bind_some Option.bind_none List.getElem?_cons_zero List.getElem?_cons_succ List.getElem?_nil List.nil_append List.cons_append List.replicate_succ List.replicate_zero List.length_cons List.length_nil and_true true_and and_false false_and Bool.true_eq_false Bool.false_eq_true forall_const false_implies implies_true IntKind.bits if_true if_false ite_true ite_false eq_self true_implies false_or or_false or_true true_or not_true_eq_false not_false_eq_true decide_true decide_false decide_eq_true_eq decide_eq_false_iff_not beq_iff_eq bne_iff_ne ne_eq Bool.not_eq_true Bool.not_eq_false beq_eq_false_iff_ne bne_eq_false_iff_eq beq_self_eq_true bne_self_eq_false Option.some.injEq exists_eq_left' exists_eq_left ge_iff_le gt_iff_lt decide_not Bool.not_true Bool.not_false imp_self gquiet cond_true cond_false beqT beqF Bool.not_not Bool.and_false Bool.false_and Bool.or_true Bool.true_or Bool.or_false Bool.false_or Loc_at Loc_at0 Loc_upd Loc_upd0 Loc_push Loc_push0 Option.join_some Nat.add_assoc Int.toNat_natCast eI eB eS eL fl_nil gopsD_nil gopsD_plain gopsD_t gopsD_f gopsD_n onKD onWD prunD_nil prunD_plain prunD_t prunD_f prunD_n onPD fitO fitO1 sameO fitL fl_append fl_one List.length_append G.agg.injEq G.row.injEq G.ref.injEq G.val.injEq G.sl.injEq G.tup.injEq Value.int.injEq Value.bool.injEq Value.string.injEq List.cons.injEq exists_and_left exists_const List.flatten_cons List.flatten_nil Int.le_refl Nat.le_refl upd_updU Loc_out Loc_updo Bool.not_eq_true' Bool.not_eq_false' wkl_nil wkl_cons wk_any wk_val wk_agg wk_tup wk_sl wk_fn List.size_toArray renO renO1 G.ren G.rens renL rho_at rho_at0 gP_none gP_some strip_gP wok_gP one_gP G.fn.injEq wk_slnil wk_slrow wk_slrs wk_ip wk_ipref wk_row wk_rs wk_rp wk_ref locLt0 locLt Option.join_none upd_same fl_cons undef keepL Arr.len Arr.put_eq prunB_nil prunB_bar prunB_bart prunB_plain prunB_t prunB_f prunB_n onB onBP gcopy setI_len Loc_cat0 Loc_cat1 Loc_cat2 Loc_cat3 Loc_cat4 Loc_cat5 noObjs_at prunK_nil prunK_bar prunK_pass prunK_plain prunK_low prunK_pt prunK_pf prunK_lt prunK_lf onKg onKa onKp popL pickOps lows lowG prunK_shp prunK_fill popH shpOp fillOp fillG rho_low rens_app Loc_cat6 Loc_cat7 Loc_cat8 Loc_cat9 Loc_cat10 Loc_cat11 Loc_cat12 Loc_cat13 Loc_cat14 Loc_cat15 Loc_cat16 dropM prT kdOf tab2 tkind2 tab3 tkind3 tab4 tkind4 tab5 tkind5 tab6 tkind6 tab7 tkind7 tab8 tkind8 tab9 tkind9 tab10 tkind10 tab11 tkind11 tab12 tkind12 tab13 tkind13 tab14 tkind14 tab15 tkind15 tab16 tkind16 tab17 tkind17 tab18 tkind18 tab19 tkind19 tab21 tkind21 tab22 tkind22 tab23 tkind23 tab24 tkind24 tab26 tkind26 tab27 tkind27 tab28 tkind28 tab31 tkind31 tab32 tkind32 tab33 tkind33 tab42 tkind42 tab51 tkind51 tab52 tkind52 tab56 tkind56 tab57 tkind57 tab58 tkind58 tab66 tkind66 tab67 tkind67 tab80 tkind80 tab81 tkind81 tab82 tkind82 tab83 tkind83 tab84 tkind84 tab85 tkind85 tab89 tkind89 tab90 tkind90 tab91 tkind91 tab106 tkind106 tab107 tkind107 tab111 tkind111 tab112 tkind112 tab114 tkind114 tab115 tkind115 tab126 tkind126 tab129 tkind129 tab131 tkind131 tab138 tkind138 tab140 tkind140 tab142 tkind142 tab143 tkind143 tab147 tkind147 tab148 tkind148 tab151 tkind151 tab152 tkind152 wkl_eI_u64 wka_eI_u64 len_eI_u64 one_eI_u64 wkp_eI_u64 undp_eI_u64 rens_eI_u64 renp_eI_u64 und_eI_u64 wkl_eL_eI_u64 wka_eL_eI_u64 len_eL_eI_u64 one_eL_eI_u64 wkp_eL_eI_u64 undp_eL_eI_u64 rens_eL_eI_u64 renp_eL_eI_u64 und_eL_eI_u64 e_S_arena_Arena wkl_e_S_arena_Arena wka_e_S_arena_Arena len_e_S_arena_Arena one_e_S_arena_Arena wkp_e_S_arena_Arena undp_e_S_arena_Arena rens_e_S_arena_Arena renp_e_S_arena_Arena und_e_S_arena_Arena e_S_ptr_Ptr wkl_eI_i64 wka_eI_i64 len_eI_i64 one_eI_i64 wkp_eI_i64 undp_eI_i64 rens_eI_i64 renp_eI_i64 und_eI_i64 e_S_far_Loc e_S_reader_Ref e_S_centoref06_Loc e_S_centoref09_Ref e_S_api_Limits e_S_valid_checker wkl_e_S_valid_checker wka_e_S_valid_checker len_e_S_valid_checker one_e_S_valid_checker wkp_e_S_valid_checker undp_e_S_valid_checker rens_e_S_valid_checker renp_e_S_valid_checker und_e_S_valid_checker e_S_api_Tree e0_eq_S_api_Tree wkl_e_S_api_Tree wka_e_S_api_Tree len_e_S_api_Tree one_e_S_api_Tree wkp_e_S_api_Tree undp_e_S_api_Tree rens_e_S_api_Tree renp_e_S_api_Tree und_e_S_api_Tree
theorem ok_slices_Clone_uint64_uint64 {a0 r : List Int} {O : Objs} {n : Nat} (h : m_slices_Clone_uint64_uint64 a0 = some r) : GTo Try.prog 70 [.sl a0.length (fl (eI .u64) a0)] O n (.row n r.length) (Loc O n [some ⟨true, 31, 1, r.length, fl (eI .u64) r⟩]) (n + 1) := by
  have h1 := appI_1 h
  have h2 := appI_2 h
  have h3 := appI_eq h
  rw [List.nil_append] at h3
  subst h3
  simp only [List.length_nil, Nat.zero_add] at h1 h2
  clear h
  refine fn_of tab_ok Try.call70 Try.func70 rfl (Nat.le_of_ble_eq_true rfl) (by omega) fun hU => ?_
  have hN0 : O n = none := hU.fresh _ (Nat.le_refl _)
  have hN : ∀ k, O (n + k) = none := fun k => hU.fresh _ (Nat.le_add_right _ _)
  show W _ _ _ _ ⟨8, [], [(0, .sl r.length (fl (eI .u64) r))]⟩ (Loc O n []) _
  refine W_sq [0] (W_regionD tab_ok [] ?_)
  simp only [push_cast, seval, ↓reduceIte, cast_lit, hN0, hN]
  refine W_know 0 r.length (fl (eI .u64) r) rfl (Nat.le_of_ble_eq_true rfl) (pures_fl pu_eI_u64 _) fun A c hA => ?_
  refine W_sq [0, 4] (W_regionD tab_ok [] ?_)
  simp only [push_cast, seval, ↓reduceIte, cast_lit, hN0, hN]
  cases A with
  | none =>
    obtain rfl : r = [] := List.eq_nil_of_length_eq_zero (hA rfl)
    refine W_cond (t := true) rfl (fun _ => ?_) (fun hc => by cases hc)
    refine W_sq [2] (W_regionD tab_ok [] ?_)
    simp only [push_cast, seval, ↓reduceIte, cast_lit, hN0, hN]
    refine W_ret ?_
    try simp only [gthen, gblock]
    refine fin_locW (k := 1) (L3 := [some ⟨true, 31, 1, 0, []⟩]) (E2 := ⟨8, [], [(2, .row n 0), (2, .val (.slice none 0 0))]⟩) (n3 := (n + 1)) (.inr rfl) hU rfl [.row n 0] ?_ ?_
    · have ha := adopt_fit (ba := n) (E := ⟨8, [], [(2, .val (.slice none 0 0))]⟩) (O := (Loc O n [])) (n := n) 2 31 1 rfl (by omega)
      simp only [Loc_push0] at ha
      exact ha
    simp only [push_cast, seval, ↓reduceIte, cast_lit, Try.results70, hN0, hN]
  | some A =>
    refine W_cond (t := false) rfl (fun hc => by cases hc) (fun _ => ?_)
    refine W_skip ?_
    try simp only [gthen, gblock]
    refine And.intro rfl (And.intro (Nat.le_of_ble_eq_true rfl) ?_)
    refine W_seqK ?_
    refine W_regionD tab_ok [] ?_
    simp only [push_cast, seval, ↓reduceIte, cast_lit, h1, h2, hN0, hN]
    refine W_ret ?_
    try simp only [gthen, gblock]
    refine fin_locR (.inr rfl) hU rfl [.row n r.length] (by omega) ?_
    simp only [push_cast, seval, ↓reduceIte, cast_lit, Try.results70, hN0, hN]
theorem okf_slices_Clone_uint64_uint64 {a0 r : List Int} {O : Objs} {n : Nat} (h : m_slices_Clone_uint64_uint64 a0 = some r) : GTo Try.prog 70 [.sl a0.length (fl (eI .u64) a0)] O n (.sl r.length (fl (eI .u64) r)) O n := by
  refine GTo.freeze (ok_slices_Clone_uint64_uint64 h) fun hU => ?_
  have hN0 : O n = none := hU.fresh _ (Nat.le_refl _)
  have hN : ∀ k, O (n + k) = none := fun k => hU.fresh _ (Nat.le_add_right _ _)
  simp only [push_cast, seval, ↓reduceIte, cast_lit, hN0, hN]
theorem ok_arena_clone {a0 : (List (List Int))} {r : (List (List Int))} {O : Objs} {n : Nat} (h : m_arena_clone a0 = some r) : GTo Try.prog 47 [.sl a0.length (fl (eL (eI .u64)) a0)] O n (.sl r.length (fl (eL (eI .u64)) r)) O n := by
  unfold m_arena_clone at h
  refine fn_of tab_ok Try.call47 Try.func47 rfl (Nat.le_of_ble_eq_true rfl) (Nat.le_refl _) fun hU => ?_
  have hN0 : O n = none := hU.fresh _ (Nat.le_refl _)
  have hN : ∀ k, O (n + k) = none := fun k => hU.fresh _ (Nat.le_add_right _ _)
  show W _ _ _ _ ⟨23, [], [(0, .sl a0.length (fl (eL (eI .u64)) a0))]⟩ (Loc O n []) _
  refine W_sq [0] (W_regionD tab_ok [] ?_)
  simp only [push_cast, seval, ↓reduceIte, cast_lit, hN0, hN]
  refine W_seqK ?_
  obtain ⟨l2, al2, bl2, cl2, el2, h⟩ := bM2 (c := 24) rfl h
  have nl2 : Int.toNat (a0.length : Int) = List.length l2 := by rw [el2, List.length_replicate]
  have fl2 : ∀ O O' n, wkl O O' n (List.replicate (List.length l2) [G.val (.slice none 0 0)]).flatten (fl (eL (eI .u64)) l2) = True := fun O O' n => by rw [← nl2, el2]; exact eq_true (wkl_nils _ _)
  clear el2
  refine W_regionD tab_ok [] ?_
  simp only [push_cast, seval, ↓reduceIte, cast_lit, al2, bl2, cl2, fl2, nl2, hN0, hN]
  refine W_fit ⟨23, [], [(0, .sl a0.length (fl (eL (eI .u64)) a0)), (3, .row n l2.length)]⟩ (Loc O n [some ⟨true, 42, 1, l2.length, fl (eL (eI .u64)) l2⟩]) (fit_loc hU rfl rfl ?_) ?_
  · simp only [push_cast, seval, ↓reduceIte, cast_lit, al2, bl2, cl2, fl2, nl2, hN0, hN]
  refine W_seqK ?_
  refine W_sq [3, 9, 10, 11] (W_regionD tab_ok [] ?_)
  simp only [push_cast, seval, ↓reduceIte, cast_lit, hN0, hN]
  refine W_drop [3, 9, 10, 11] [true] ?_
  simp only [push_cast, seval, ↓reduceIte]
  obtain ⟨z9, hz9, h⟩ := bC h
  refine W_blockX (E' := ⟨23, [], [(3, .row n z9.length)]⟩) (O' := (Loc O n [some ⟨true, 42, 1, z9.length, fl (eL (eI .u64)) z9⟩])) (n0 := (n + 1)) ?_ ?_
  · refine W_loopJ hz9 (fun s0_ => ⟨23, [], [(3, .row n s0_.2.length), (9, .sl a0.length (fl (eL (eI .u64)) a0)), (10, .val (.int .i64 (a0.length : Int))), (11, .val (.int .i64 s0_.1))]⟩) (fun s0_ => (Loc O n [some ⟨true, 42, 1, s0_.2.length, fl (eL (eI .u64)) s0_.2⟩])) (fun z9 => JX 0 n (⟨23, [], [(3, .row n z9.length)]⟩ : Env) (Loc O n [some ⟨true, 42, 1, z9.length, fl (eL (eI .u64)) z9⟩]) (n + 1)) ?_
    intro s0_ x0_ hs0_
    unfold m_arena_clone_L0 at hs0_
    try dsimp only
    refine W_sq [3, 9, 10, 11, 12] (W_regionD tab_ok [] ?_)
    simp only [push_cast, seval, ↓reduceIte, cast_lit, hN0, hN]
    refine W_seqK ?_
    refine W_cond (t := (decide (s0_.1 < (a0.length : Int)))) rfl (fun c8 => ?_) (fun c8 => ?_)
    · replace hs0_ := condT c8 hs0_
      refine W_skip ?_
      try simp only [gthen, gblock]
      refine W_drop [3, 9, 10, 11] [true] ?_
      simp only [push_cast, seval, ↓reduceIte]
      refine W_seqK ?_
      refine W_block ?_
      obtain ⟨x4, hx4, ax4, bx4, cx4, hs0_⟩ := bE (f := (eL (eI .u64))) tab42 (fun _ => rfl) (by decide) hs0_
      refine W_sq [3, 4, 5, 9, 10, 11] (W_regionD tab_ok [] ?_)
      simp only [push_cast, Nat.reduceAdd, Nat.reduceSub, Nat.reduceMul, Nat.reduceLeDiff, Nat.reduceLT, Nat.reduceEqDiff, ↓reduceIte, reduceCtorEq, Int.reduceBEq, Int.reduceBNe, Nat.reduceBEq, Int.reduceLE, Int.reduceLT, Int.reduceEq, Int.reduceNe, Int.reduceNeg, Nat.reduceDiv, Nat.reduceMod, Nat.reducePow, cast_lit, ax4, bx4, cx4, hN0, hN]
      obtain ⟨y5, hy5, hs0_⟩ := bC hs0_
      obtain ⟨x6, hx6, ax6, bx6, cx6, hs0_⟩ := bE (f := (eL (eI .u64))) tab42 (fun _ => rfl) (by decide) hs0_
      have gu7 : gplace (fl (eL (eI .u64)) s0_.2) [.sl y5.length (fl (eI .u64) y5)] (Int.toNat s0_.1 * 1) = some (fl (eL (eI .u64)) (setI s0_.2 s0_.1 y5)) := gplace_el (f := (eL (eI .u64))) (ti := ⟨.bool, 1, 0, [], false⟩) (x := y5) (fun _ => rfl) (getI_nat hx6)
      refine W_regionD tab_ok [] ?_
      simp only [push_cast, Nat.reduceAdd, Nat.reduceSub, Nat.reduceMul, Nat.reduceLeDiff, Nat.reduceLT, Nat.reduceEqDiff, ↓reduceIte, reduceCtorEq, Int.reduceBEq, Int.reduceBNe, Nat.reduceBEq, Int.reduceLE, Int.reduceLT, Int.reduceEq, Int.reduceNe, Int.reduceNeg, Nat.reduceDiv, Nat.reduceMod, Nat.reducePow, cast_lit, ax6, bx6, cx6, gu7, hN0, hN]
      refine (okf_slices_Clone_uint64_uint64 hy5).then ?_
      simp only [push_cast, Nat.reduceAdd, Nat.reduceSub, Nat.reduceMul, Nat.reduceLeDiff, Nat.reduceLT, Nat.reduceEqDiff, ↓reduceIte, reduceCtorEq, Int.reduceBEq, Int.reduceBNe, Nat.reduceBEq, Int.reduceLE, Int.reduceLT, Int.reduceEq, Int.reduceNe, Int.reduceNeg, Nat.reduceDiv, Nat.reduceMod, Nat.reducePow, cast_lit, ax6, bx6, cx6, gu7, hN0, hN]
      refine W_drop [3, 9, 10, 11] [true] ?_
      simp only [push_cast, seval, ↓reduceIte]
      refine W_regionD tab_ok [] ?_
      simp only [push_cast, seval, ↓reduceIte, cast_lit, hN0, hN]
      have hs0_ := Option.some.inj hs0_; subst hs0_
      refine And.intro rfl (Fit2.of (fit_loc hU rfl rfl ?_) (by omega))
      simp only [push_cast, seval, ↓reduceIte, cast_lit, hN0, hN]
    · replace hs0_ := condF c8 hs0_
      refine W_exit ?_
      try simp only [gthen, gblock, ↓reduceIte, Nat.reduceEqDiff]
      have hs0_ := Option.some.inj hs0_; subst hs0_
      refine And.intro (fun h => by cases h) (And.intro rfl (Fit2.of (fit_loc hU rfl rfl ?_) (by omega)))
      simp only [push_cast, seval, ↓reduceIte, cast_lit, hN0, hN]
  try simp only [gthen, gblock, ↓reduceIte, Nat.reduceEqDiff]
  refine W_drop [3] [true] ?_
  simp only [push_cast, seval, ↓reduceIte]
  refine W_sq [2] (W_regionD tab_ok [] ?_)
  simp only [push_cast, seval, ↓reduceIte, cast_lit, hN0, hN]
  refine W_ret ?_
  try simp only [gthen, gblock]
  have h := Option.some.inj h; subst h
  refine fin_loc (.inr rfl) hU [.row n z9.length] (by omega) ?_
  simp only [push_cast, seval, ↓reduceIte, cast_lit, Try.results47, hN0, hN]
theorem ok_arena_Of {a0 : (List (List Int))} {r : (Option S_arena_Arena)} {O : Objs} {n : Nat} (h : m_arena_Of a0 = some r) : GTo Try.prog 15 [.sl a0.length (fl (eL (eI .u64)) a0)] O n ((gP e_S_arena_Arena r)) O n := by
  unfold m_arena_Of at h
  refine fn_of tab_ok Try.call15 Try.func15 rfl (Nat.le_of_ble_eq_true rfl) (Nat.le_refl _) fun hU => ?_
  have hN0 : O n = none := hU.fresh _ (Nat.le_refl _)
  have hN : ∀ k, O (n + k) = none := fun k => hU.fresh _ (Nat.le_add_right _ _)
  show W _ _ _ _ ⟨7, [], [(0, .sl a0.length (fl (eL (eI .u64)) a0))]⟩ (Loc O n []) _
  refine W_sq [0] (W_regionD tab_ok [] ?_)
  simp only [push_cast, seval, ↓reduceIte, cast_lit, hN0, hN]
  refine W_seqK ?_
  obtain ⟨y2, hy2, h⟩ := bC h
  refine W_regionD tab_ok [] ?_
  simp only [push_cast, seval, ↓reduceIte, cast_lit, hN0, hN]
  refine (ok_arena_clone hy2).then ?_
  simp only [push_cast, seval, ↓reduceIte, cast_lit, hN0, hN]
  refine W_drop [2] [true] ?_
  simp only [push_cast, seval, ↓reduceIte]
  refine W_ret ?_
  try simp only [gthen, gblock]
  have h := Option.some.inj h; subst h
  refine fin_loc (.inr rfl) hU [.ref n 0] (by omega) ?_
  simp only [push_cast, seval, ↓reduceIte, cast_lit, Try.results15, hN0, hN]
theorem ok_arena_Arena_Len {a0 : (Option S_arena_Arena)} {r : Int} {O : Objs} {n : Nat} (h : m_arena_Arena_Len a0 = some r) : GTo Try.prog 106 [(gP e_S_arena_Arena a0)] O n (.val (.int .i64 r)) O n := by
  unfold m_arena_Arena_Len at h
  refine fn_of tab_ok Try.call106 Try.func106 rfl (Nat.le_of_ble_eq_true rfl) (Nat.le_refl _) fun hU => ?_
  have hN0 : O n = none := hU.fresh _ (Nat.le_refl _)
  have hN : ∀ k, O (n + k) = none := fun k => hU.fresh _ (Nat.le_add_right _ _)
  show W _ _ _ _ ⟨10, [], [(0, (gP e_S_arena_Arena a0))]⟩ (Loc O n []) _
  refine W_sq [0] (W_regionD tab_ok [] ?_)
  simp only [push_cast, seval, ↓reduceIte, cast_lit, hN0, hN]
  refine W_seqK ?_
  have g2 := gbin_gP_eql (f := e_S_arena_Arena) (t := 24) tkind24 a0
  refine W_sq [0, 4] (W_regionD tab_ok [] ?_)
  simp only [push_cast, seval, ↓reduceIte, cast_lit, g2, hN0, hN]
  refine W_cond (t := (Option.isNone a0)) rfl (fun c5 => ?_) (fun c5 => ?_)
  · replace h := condT c5 h
    refine W_sq [2] (W_regionD tab_ok [] ?_)
    simp only [push_cast, seval, ↓reduceIte, cast_lit, hN0, hN]
    refine W_ret ?_
    try simp only [gthen, gblock]
    have h := Option.some.inj h; subst h
    refine fin_loc (.inr rfl) hU [.val (.int .i64 0)] (by omega) ?_
    simp only [push_cast, seval, ↓reduceIte, cast_lit, Try.results106, hN0, hN]
  · replace h := condF c5 h
    refine W_skip ?_
    try simp only [gthen, gblock]
    refine W_drop [0] [] ?_
    simp only [push_cast, seval, ↓reduceIte]
    obtain ⟨x4, hx4, h⟩ := bC h
    refine W_sq [2] (W_regionD tab_ok [] ?_)
    simp only [push_cast, seval, ↓reduceIte, cast_lit, hx4, hN0, hN]
    refine W_ret ?_
    try simp only [gthen, gblock]
    have h := Option.some.inj h; subst h
    refine fin_loc (.inr rfl) hU [.val (.int .i64 (x4.segments.length : Int))] (by omega) ?_
    simp only [push_cast, seval, ↓reduceIte, cast_lit, Try.results106, hN0, hN]
theorem ok_arena_Arena_there {a0 : (Option S_arena_Arena)} {a1 : Int} {r : Bool} {O : Objs} {n : Nat} (h : m_arena_Arena_there a0 a1 = some r) : GTo Try.prog 100 [(gP e_S_arena_Arena a0), .val (.int .i64 a1)] O n (.val (.bool r)) O n := by
  unfold m_arena_Arena_there at h
  refine fn_of tab_ok Try.call100 Try.func100 rfl (Nat.le_of_ble_eq_true rfl) (Nat.le_refl _) fun hU => ?_
  have hN0 : O n = none := hU.fresh _ (Nat.le_refl _)
  have hN : ∀ k, O (n + k) = none := fun k => hU.fresh _ (Nat.le_add_right _ _)
  show W _ _ _ _ ⟨13, [], [(0, (gP e_S_arena_Arena a0)), (1, .val (.int .i64 a1))]⟩ (Loc O n []) _
  refine W_sq [0, 1] (W_regionD tab_ok [] ?_)
  simp only [push_cast, seval, ↓reduceIte, cast_lit, hN0, hN]
  obtain ⟨z2, hz2, h⟩ := bC h
  refine W_seqN (E' := ⟨13, [], [(4, .val (.bool z2))]⟩) (O' := (Loc O n [])) (n0 := n) ?_ ?_
  · rcases Bool.eq_false_or_eq_true (decide (0 ≤ a1)) with c5 | c5
    · replace hz2 := condT c5 hz2
      obtain ⟨y4, hy4, hz2⟩ := bC hz2
      refine W_regionD tab_ok [some true, some true, some true, some true] ?_
      simp only [push_cast, seval, ↓reduceIte, cast_lit, c5, hN0, hN]
      refine (ok_arena_Arena_Len hy4).then ?_
      simp only [push_cast, seval, ↓reduceIte, cast_lit, c5, hN0, hN]
      have hz2 := Option.some.inj hz2; subst hz2
      refine And.intro rfl (Fit2.of (fit_loc hU rfl rfl ?_) (by omega))
      simp only [push_cast, seval, ↓reduceIte, cast_lit, c5, hN0, hN]
    · replace hz2 := condF c5 hz2
      refine W_regionD tab_ok [some false, some false, some false, some false] ?_
      simp only [push_cast, seval, ↓reduceIte, cast_lit, c5, hN0, hN]
      have hz2 := Option.some.inj hz2; subst hz2
      refine And.intro rfl (Fit2.of (fit_loc hU rfl rfl ?_) (by omega))
      simp only [push_cast, seval, ↓reduceIte, cast_lit, c5, hN0, hN]
  refine W_ret ?_
  try simp only [gthen, gblock]
  have h := Option.some.inj h; subst h
  refine fin_loc (.inr rfl) hU [.val (.bool z2)] (by omega) ?_
  simp only [push_cast, seval, ↓reduceIte, cast_lit, Try.results100, hN0, hN]
theorem ok_arena_Arena_Size {a0 : (Option S_arena_Arena)} {a1 : Int} {r : Int} {O : Objs} {n : Nat} (h : m_arena_Arena_Size a0 a1 = some r) : GTo Try.prog 101 [(gP e_S_arena_Arena a0), .val (.int .i64 a1)] O n (.val (.int .i64 r)) O n := by
  unfold m_arena_Arena_Size at h
  refine fn_of tab_ok Try.call101 Try.func101 rfl (Nat.le_of_ble_eq_true rfl) (Nat.le_refl _) fun hU => ?_
  have hN0 : O n = none := hU.fresh _ (Nat.le_refl _)
  have hN : ∀ k, O (n + k) = none := fun k => hU.fresh _ (Nat.le_add_right _ _)
  show W _ _ _ _ ⟨17, [], [(0, (gP e_S_arena_Arena a0)), (1, .val (.int .i64 a1))]⟩ (Loc O n []) _
  refine W_sq [0, 1] (W_regionD tab_ok [] ?_)
  simp only [push_cast, seval, ↓reduceIte, cast_lit, hN0, hN]
  refine W_seqK ?_
  refine W_seqK ?_
  obtain ⟨y2, hy2, h⟩ := bC h
  refine W_regionD tab_ok [] ?_
  simp only [push_cast, seval, ↓reduceIte, cast_lit, hN0, hN]
  refine (ok_arena_Arena_there hy2).then ?_
  simp only [push_cast, seval, ↓reduceIte, cast_lit, hN0, hN]
  refine W_drop [0, 1, 8] [] ?_
  simp only [push_cast, seval, ↓reduceIte]
  refine W_cond (t := (!y2)) rfl (fun c7 => ?_) (fun c7 => ?_)
  · replace h := condT c7 h
    refine W_sq [4] (W_regionD tab_ok [] ?_)
    simp only [push_cast, seval, ↓reduceIte, cast_lit, hN0, hN]
    refine W_ret ?_
    try simp only [gthen, gblock]
    have h := Option.some.inj h; subst h
    refine fin_loc (.inr rfl) hU [.val (.int .i64 0)] (by omega) ?_
    simp only [push_cast, seval, ↓reduceIte, cast_lit, Try.results101, hN0, hN]
  · replace h := condF c7 h
    refine W_skip ?_
    try simp only [gthen, gblock]
    refine W_drop [0, 1] [] ?_
    simp only [push_cast, seval, ↓reduceIte]
    obtain ⟨x5, hx5, h⟩ := bC h
    obtain ⟨x6, hx6, ax6, bx6, cx6, h⟩ := bE (f := (eL (eI .u64))) tab42 (fun _ => rfl) (by decide) h
    refine W_sq [4] (W_regionD tab_ok [] ?_)
    simp only [push_cast, Nat.reduceAdd, Nat.reduceSub, Nat.reduceMul, Nat.reduceLeDiff, Nat.reduceLT, Nat.reduceEqDiff, ↓reduceIte, reduceCtorEq, Int.reduceBEq, Int.reduceBNe, Nat.reduceBEq, Int.reduceLE, Int.reduceLT, Int.reduceEq, Int.reduceNe, Int.reduceNeg, Nat.reduceDiv, Nat.reduceMod, Nat.reducePow, cast_lit, hx5, ax6, bx6, cx6, hN0, hN]
    refine W_ret ?_
    try simp only [gthen, gblock]
    have h := Option.some.inj h; subst h
    refine fin_loc (.inr rfl) hU [.val (.int .i64 (x6.length : Int))] (by omega) ?_
    simp only [push_cast, seval, ↓reduceIte, cast_lit, Try.results101, hN0, hN]
theorem ok_arena_Arena_Has {a0 : (Option S_arena_Arena)} {a1 : Int} {a2 : Int} {a3 : Int} {r : Bool} {O : Objs} {n : Nat} (h : m_arena_Arena_Has a0 a1 a2 a3 = some r) : GTo Try.prog 82 [(gP e_S_arena_Arena a0), .val (.int .i64 a1), .val (.int .i64 a2), .val (.int .i64 a3)] O n (.val (.bool r)) O n := by
  unfold m_arena_Arena_Has at h
  refine fn_of tab_ok Try.call82 Try.func82 rfl (Nat.le_of_ble_eq_true rfl) (Nat.le_refl _) fun hU => ?_
  have hN0 : O n = none := hU.fresh _ (Nat.le_refl _)
  have hN : ∀ k, O (n + k) = none := fun k => hU.fresh _ (Nat.le_add_right _ _)
  show W _ _ _ _ ⟨36, [], [(0, (gP e_S_arena_Arena a0)), (1, .val (.int .i64 a1)), (2, .val (.int .i64 a2)), (3, .val (.int .i64 a3))]⟩ (Loc O n []) _
  refine W_sq [0, 1, 2, 3] (W_regionD tab_ok [] ?_)
  simp only [push_cast, seval, ↓reduceIte, cast_lit, hN0, hN]
  obtain ⟨z4, hz4, h⟩ := bC h
  refine W_seqN (E' := ⟨36, [], [(8, .val (.bool z4))]⟩) (O' := (Loc O n [])) (n0 := n) ?_ ?_
  · obtain ⟨y8, hy8, hz4⟩ := bC hz4
    rcases Bool.eq_false_or_eq_true y8 with c11 | c11
    · replace hz4 := condT c11 hz4
      rcases Bool.eq_false_or_eq_true (decide (0 ≤ a2)) with c12 | c12
      · replace hz4 := condT c12 hz4
        try rw [c12] at c11
        rcases Bool.eq_false_or_eq_true (decide (0 ≤ a3)) with c13 | c13
        · replace hz4 := condT c13 hz4
          try rw [c13] at c11
          try rw [c13] at c12
          obtain ⟨y9, hy9, hz4⟩ := bC hz4
          rcases Bool.eq_false_or_eq_true (decide (a3 ≤ y9)) with c14 | c14
          · replace hz4 := condT c14 hz4
            try rw [c14] at c11
            try rw [c14] at c12
            try rw [c14] at c13
            obtain ⟨y10, hy10, hz4⟩ := bC hz4
            refine W_regionD tab_ok [none, none, none, none, some true, some true, some true, some true, some true, some true, some true, some true, some true, some true, some true, some true] ?_
            simp only [push_cast, seval, ↓reduceIte, cast_lit, c11, c12, c13, c14, hN0, hN]
            repeat (with_reducible refine And.intro (by first | (intro h0; simp only [h0, and_self]; done) | (intro h0; simp only [h0, Bool.not_false, Bool.not_true, Bool.true_and, Bool.and_true, true_and, and_true, and_self, imp_self, implies_true, bne_iff_ne, ne_eq, beq_iff_eq]; done) | (intros; simp_all; done) | exact True.intro) ?_)
            refine (ok_arena_Arena_there hy8).then ?_
            simp only [push_cast, seval, ↓reduceIte, cast_lit, c11, c12, c13, c14, hN0, hN]
            repeat (with_reducible refine And.intro (by first | (intro h0; simp only [h0, and_self]; done) | (intro h0; simp only [h0, Bool.not_false, Bool.not_true, Bool.true_and, Bool.and_true, true_and, and_true, and_self, imp_self, implies_true, bne_iff_ne, ne_eq, beq_iff_eq]; done) | (intros; simp_all; done) | exact True.intro) ?_)
            refine (ok_arena_Arena_Size hy9).then ?_
            simp only [push_cast, seval, ↓reduceIte, cast_lit, c11, c12, c13, c14, hN0, hN]
            repeat (with_reducible refine And.intro (by first | (intro h0; simp only [h0, and_self]; done) | (intro h0; simp only [h0, Bool.not_false, Bool.not_true, Bool.true_and, Bool.and_true, true_and, and_true, and_self, imp_self, implies_true, bne_iff_ne, ne_eq, beq_iff_eq]; done) | (intros; simp_all; done) | exact True.intro) ?_)
            refine (ok_arena_Arena_Size hy10).then ?_
            simp only [push_cast, seval, ↓reduceIte, cast_lit, c11, c12, c13, c14, hN0, hN]
            repeat (with_reducible refine And.intro (by first | (intro h0; simp only [h0, and_self]; done) | (intro h0; simp only [h0, Bool.not_false, Bool.not_true, Bool.true_and, Bool.and_true, true_and, and_true, and_self, imp_self, implies_true, bne_iff_ne, ne_eq, beq_iff_eq]; done) | (intros; simp_all; done) | exact True.intro) ?_)
            have hz4 := Option.some.inj hz4; subst hz4
            refine And.intro rfl (Fit2.of (fit_loc hU rfl rfl ?_) (by omega))
            simp only [push_cast, seval, ↓reduceIte, cast_lit, c11, c12, c13, c14, hN0, hN]
          · replace hz4 := condF c14 hz4
            try rw [c14] at c11
            try rw [c14] at c12
            try rw [c14] at c13
            refine W_regionD tab_ok [none, none, none, none, some true, some true, some true, some true, some true, some false, some false, some false, some false, some false, some false, some false] ?_
            simp only [push_cast, seval, ↓reduceIte, cast_lit, c11, c12, c13, c14, hN0, hN]
            repeat (with_reducible refine And.intro (by first | (intro h0; simp only [h0, and_self]; done) | (intro h0; simp only [h0, Bool.not_false, Bool.not_true, Bool.true_and, Bool.and_true, true_and, and_true, and_self, imp_self, implies_true, bne_iff_ne, ne_eq, beq_iff_eq]; done) | (intros; simp_all; done) | exact True.intro) ?_)
            refine (ok_arena_Arena_there hy8).then ?_
            simp only [push_cast, seval, ↓reduceIte, cast_lit, c11, c12, c13, c14, hN0, hN]
            repeat (with_reducible refine And.intro (by first | (intro h0; simp only [h0, and_self]; done) | (intro h0; simp only [h0, Bool.not_false, Bool.not_true, Bool.true_and, Bool.and_true, true_and, and_true, and_self, imp_self, implies_true, bne_iff_ne, ne_eq, beq_iff_eq]; done) | (intros; simp_all; done) | exact True.intro) ?_)
            refine (ok_arena_Arena_Size hy9).then ?_
            simp only [push_cast, seval, ↓reduceIte, cast_lit, c11, c12, c13, c14, hN0, hN]
            repeat (with_reducible refine And.intro (by first | (intro h0; simp only [h0, and_self]; done) | (intro h0; simp only [h0, Bool.not_false, Bool.not_true, Bool.true_and, Bool.and_true, true_and, and_true, and_self, imp_self, implies_true, bne_iff_ne, ne_eq, beq_iff_eq]; done) | (intros; simp_all; done) | exact True.intro) ?_)
            have hz4 := Option.some.inj hz4; subst hz4
            refine And.intro rfl (Fit2.of (fit_loc hU rfl rfl ?_) (by omega))
            simp only [push_cast, seval, ↓reduceIte, cast_lit, c11, c12, c13, c14, hN0, hN]
        · replace hz4 := condF c13 hz4
          try rw [c13] at c11
          try rw [c13] at c12
          refine W_regionD tab_ok [none, none, none, none, some false, some false, some false, some false, some false, some false, some false, some false, some false, some false, some false, some false] ?_
          simp only [push_cast, seval, ↓reduceIte, cast_lit, c11, c12, c13, hN0, hN]
          repeat (with_reducible refine And.intro (by first | (intro h0; simp only [h0, and_self]; done) | (intro h0; simp only [h0, Bool.not_false, Bool.not_true, Bool.true_and, Bool.and_true, true_and, and_true, and_self, imp_self, implies_true, bne_iff_ne, ne_eq, beq_iff_eq]; done) | (intros; simp_all; done) | exact True.intro) ?_)
          refine (ok_arena_Arena_there hy8).then ?_
          simp only [push_cast, seval, ↓reduceIte, cast_lit, c11, c12, c13, hN0, hN]
          repeat (with_reducible refine And.intro (by first | (intro h0; simp only [h0, and_self]; done) | (intro h0; simp only [h0, Bool.not_false, Bool.not_true, Bool.true_and, Bool.and_true, true_and, and_true, and_self, imp_self, implies_true, bne_iff_ne, ne_eq, beq_iff_eq]; done) | (intros; simp_all; done) | exact True.intro) ?_)
          have hz4 := Option.some.inj hz4; subst hz4
          refine And.intro rfl (Fit2.of (fit_loc hU rfl rfl ?_) (by omega))
          simp only [push_cast, seval, ↓reduceIte, cast_lit, c11, c12, c13, hN0, hN]
      · replace hz4 := condF c12 hz4
        try rw [c12] at c11
        refine W_regionD tab_ok [none, none, none, none, some false, some false, some false, some false, some false, some false, some false, some false, some false, some false, some false, some false] ?_
        simp only [push_cast, seval, ↓reduceIte, cast_lit, c11, c12, hN0, hN]
        repeat (with_reducible refine And.intro (by first | (intro h0; simp only [h0, and_self]; done) | (intro h0; simp only [h0, Bool.not_false, Bool.not_true, Bool.true_and, Bool.and_true, true_and, and_true, and_self, imp_self, implies_true, bne_iff_ne, ne_eq, beq_iff_eq]; done) | (intros; simp_all; done) | exact True.intro) ?_)
        refine (ok_arena_Arena_there hy8).then ?_
        simp only [push_cast, seval, ↓reduceIte, cast_lit, c11, c12, hN0, hN]
        repeat (with_reducible refine And.intro (by first | (intro h0; simp only [h0, and_self]; done) | (intro h0; simp only [h0, Bool.not_false, Bool.not_true, Bool.true_and, Bool.and_true, true_and, and_true, and_self, imp_self, implies_true, bne_iff_ne, ne_eq, beq_iff_eq]; done) | (intros; simp_all; done) | exact True.intro) ?_)
        have hz4 := Option.some.inj hz4; subst hz4
        refine And.intro rfl (Fit2.of (fit_loc hU rfl rfl ?_) (by omega))
        simp only [push_cast, seval, ↓reduceIte, cast_lit, c11, c12, hN0, hN]
    · replace hz4 := condF c11 hz4
      refine W_regionD tab_ok [none, none, none, none, some false, some false, some false, some false, some false, some false, some false, some false, some false, some false, some false, some false] ?_
      simp only [push_cast, seval, ↓reduceIte, cast_lit, c11, hN0, hN]
      repeat (with_reducible refine And.intro (by first | (intro h0; simp only [h0, and_self]; done) | (intro h0; simp only [h0, Bool.not_false, Bool.not_true, Bool.true_and, Bool.and_true, true_and, and_true, and_self, imp_self, implies_true, bne_iff_ne, ne_eq, beq_iff_eq]; done) | (intros; simp_all; done) | exact True.intro) ?_)
      refine (ok_arena_Arena_there hy8).then ?_
      simp only [push_cast, seval, ↓reduceIte, cast_lit, c11, hN0, hN]
      repeat (with_reducible refine And.intro (by first | (intro h0; simp only [h0, and_self]; done) | (intro h0; simp only [h0, Bool.not_false, Bool.not_true, Bool.true_and, Bool.and_true, true_and, and_true, and_self, imp_self, implies_true, bne_iff_ne, ne_eq, beq_iff_eq]; done) | (intros; simp_all; done) | exact True.intro) ?_)
      have hz4 := Option.some.inj hz4; subst hz4
      refine And.intro rfl (Fit2.of (fit_loc hU rfl rfl ?_) (by omega))
      simp only [push_cast, seval, ↓reduceIte, cast_lit, c11, hN0, hN]
  refine W_ret ?_
  try simp only [gthen, gblock]
  have h := Option.some.inj h; subst h
  refine fin_loc (.inr rfl) hU [.val (.bool z4)] (by omega) ?_
  simp only [push_cast, seval, ↓reduceIte, cast_lit, Try.results82, hN0, hN]
theorem ok_arena_Arena_Get {a0 : (Option S_arena_Arena)} {a1 : Int} {a2 : Int} {r : (Int × Bool)} {O : Objs} {n : Nat} (h : m_arena_Arena_Get a0 a1 a2 = some r) : GTo Try.prog 60 [(gP e_S_arena_Arena a0), .val (.int .i64 a1), .val (.int .i64 a2)] O n (.tup [.val (.int .u64 r.1), .val (.bool r.2)]) O n := by
  unfold m_arena_Arena_Get at h
  refine fn_of tab_ok Try.call60 Try.func60 rfl (Nat.le_of_ble_eq_true rfl) (Nat.le_refl _) fun hU => ?_
  have hN0 : O n = none := hU.fresh _ (Nat.le_refl _)
  have hN : ∀ k, O (n + k) = none := fun k => hU.fresh _ (Nat.le_add_right _ _)
  show W _ _ _ _ ⟨23, [], [(0, (gP e_S_arena_Arena a0)), (1, .val (.int .i64 a1)), (2, .val (.int .i64 a2))]⟩ (Loc O n []) _
  refine W_sq [0, 1, 2] (W_regionD tab_ok [] ?_)
  simp only [push_cast, seval, ↓reduceIte, cast_lit, hN0, hN]
  refine W_seqK ?_
  refine W_seqK ?_
  obtain ⟨y2, hy2, h⟩ := bC h
  refine W_regionD tab_ok [] ?_
  simp only [push_cast, seval, ↓reduceIte, cast_lit, hN0, hN]
  refine (ok_arena_Arena_Has hy2).then ?_
  simp only [push_cast, seval, ↓reduceIte, cast_lit, hN0, hN]
  refine W_drop [0, 1, 2, 12] [] ?_
  simp only [push_cast, seval, ↓reduceIte]
  refine W_cond (t := (!y2)) rfl (fun c9 => ?_) (fun c9 => ?_)
  · replace h := condT c9 h
    refine W_sq [6, 7] (W_regionD tab_ok [] ?_)
    simp only [push_cast, seval, ↓reduceIte, cast_lit, hN0, hN]
    refine W_ret ?_
    try simp only [gthen, gblock]
    have h := Option.some.inj h; subst h
    refine fin_loc (.inr rfl) hU [.val (.int .u64 0), .val (.bool false)] (by omega) ?_
    simp only [push_cast, seval, ↓reduceIte, cast_lit, Try.results60, hN0, hN]
  · replace h := condF c9 h
    refine W_skip ?_
    try simp only [gthen, gblock]
    refine W_drop [0, 1, 2] [] ?_
    simp only [push_cast, seval, ↓reduceIte]
    obtain ⟨x6, hx6, h⟩ := bC h
    obtain ⟨x7, hx7, ax7, bx7, cx7, h⟩ := bE (f := (eL (eI .u64))) tab42 (fun _ => rfl) (by decide) h
    obtain ⟨x8, hx8, ax8, bx8, cx8, h⟩ := bE (f := (eI .u64)) tab31 (fun _ => rfl) (by decide) h
    refine W_sq [6, 7] (W_regionD tab_ok [] ?_)
    simp only [push_cast, Nat.reduceAdd, Nat.reduceSub, Nat.reduceMul, Nat.reduceLeDiff, Nat.reduceLT, Nat.reduceEqDiff, ↓reduceIte, reduceCtorEq, Int.reduceBEq, Int.reduceBNe, Nat.reduceBEq, Int.reduceLE, Int.reduceLT, Int.reduceEq, Int.reduceNe, Int.reduceNeg, Nat.reduceDiv, Nat.reduceMod, Nat.reducePow, cast_lit, hx6, ax7, bx7, cx7, ax8, bx8, cx8, hN0, hN]
    refine W_ret ?_
    try simp only [gthen, gblock]
    have h := Option.some.inj h; subst h
    refine fin_loc (.inr rfl) hU [.val (.int .u64 x8), .val (.bool true)] (by omega) ?_
    simp only [push_cast, seval, ↓reduceIte, cast_lit, Try.results60, hN0, hN]
theorem ok_ptr_offset {a0 : Int} {r : Int} {O : Objs} {n : Nat} (h : m_ptr_offset a0 = some r) : GTo Try.prog 95 [.val (.int .u64 a0)] O n (.val (.int .i64 r)) O n := by
  unfold m_ptr_offset at h
  refine fn_of tab_ok Try.call95 Try.func95 rfl (Nat.le_of_ble_eq_true rfl) (Nat.le_refl _) fun hU => ?_
  have hN0 : O n = none := hU.fresh _ (Nat.le_refl _)
  have hN : ∀ k, O (n + k) = none := fun k => hU.fresh _ (Nat.le_add_right _ _)
  show W _ _ _ _ ⟨8, [], [(0, .val (.int .u64 a0))]⟩ (Loc O n []) _
  refine W_sq [0] (W_regionD tab_ok [] ?_)
  simp only [push_cast, seval, ↓reduceIte, cast_lit, hN0, hN]
  refine W_sq [2] (W_regionD tab_ok [] ?_)
  simp only [push_cast, seval, ↓reduceIte, cast_lit, hN0, hN]
  refine W_ret ?_
  try simp only [gthen, gblock]
  have h := Option.some.inj h; subst h
  refine fin_loc (.inr rfl) hU [.val (.int .i64 (IntKind.i64.wrap (Int.fdiv (IntKind.i32.wrap (IntKind.u32.wrap a0)) (2 ^ min (Int.toNat 2) 32))))] (by omega) ?_
  simp only [push_cast, seval, ↓reduceIte, cast_lit, Try.results95, hN0, hN]
theorem ok_ptr_field {a0 : Int} {a1 : Int} {a2 : Int} {r : Int} {O : Objs} {n : Nat} (h : m_ptr_field a0 a1 a2 = some r) : GTo Try.prog 96 [.val (.int .u64 a0), .val (.int .i64 a1), .val (.int .i64 a2)] O n (.val (.int .i64 r)) O n := by
  unfold m_ptr_field at h
  refine fn_of tab_ok Try.call96 Try.func96 rfl (Nat.le_of_ble_eq_true rfl) (Nat.le_refl _) fun hU => ?_
  have hN0 : O n = none := hU.fresh _ (Nat.le_refl _)
  have hN : ∀ k, O (n + k) = none := fun k => hU.fresh _ (Nat.le_add_right _ _)
  show W _ _ _ _ ⟨15, [], [(0, .val (.int .u64 a0)), (1, .val (.int .i64 a1)), (2, .val (.int .i64 a2))]⟩ (Loc O n []) _
  refine W_sq [0, 1, 2] (W_regionD tab_ok [] ?_)
  simp only [push_cast, seval, ↓reduceIte, cast_lit, hN0, hN]
  obtain ⟨pu3, h⟩ := bG h
  obtain ⟨pu4, h⟩ := bG h
  refine W_sq [6] (W_drawD tab_ok (by kernel_rfl) [] (by kernel_rfl) ?_)
  simp only [push_cast, seval, ↓reduceIte, cast_lit, pu3, pu4, hN0, hN]
  refine W_ret ?_
  try simp only [gthen, gblock]
  have h := Option.some.inj h; subst h
  refine fin_loc (.inr rfl) hU [.val (.int .i64 (IntKind.i64.wrap (IntKind.u64.wrap (landI .u64 (Int.fdiv a0 (2 ^ min (Int.toNat a1) 64)) (IntKind.u64.wrap ((IntKind.u64.wrap (1 * 2 ^ min (Int.toNat a2) 64)) - 1))))))] (by omega) ?_
  simp only [push_cast, seval, ↓reduceIte, cast_lit, Try.results96, hN0, hN]
theorem ok_ptr_Decode {a0 : Int} {r : S_ptr_Ptr} {O : Objs} {n : Nat} (h : m_ptr_Decode a0 = some r) : GTo Try.prog 71 [.val (.int .u64 a0)] O n (.agg (c_S_ptr_Ptr r)) O n := by
  unfold m_ptr_Decode at h
  refine fn_of tab_ok Try.call71 Try.func71 rfl (Nat.le_of_ble_eq_true rfl) (Nat.le_refl _) fun hU => ?_
  have hN0 : O n = none := hU.fresh _ (Nat.le_refl _)
  have hN : ∀ k, O (n + k) = none := fun k => hU.fresh _ (Nat.le_add_right _ _)
  show W _ _ _ _ ⟨38, [], [(0, .val (.int .u64 a0))]⟩ (Loc O n []) _
  refine W_sq [0, 2] (W_regionD tab_ok [] ?_)
  simp only [push_cast, seval, ↓reduceIte, cast_lit, hN0, hN]
  refine W_seqK ?_
  refine W_sq [0, 2, 4] (W_regionD tab_ok [] ?_)
  simp only [push_cast, seval, ↓reduceIte, cast_lit, hN0, hN]
  refine W_cond (t := (a0 == 0)) rfl (fun c20 => ?_) (fun c20 => ?_)
  · replace h := condT c20 h
    refine W_seqK ?_
    refine W_regionD tab_ok [] ?_
    simp only [push_cast, seval, ↓reduceIte, cast_lit, hN0, hN]
    refine W_drop [2] [true] ?_
    simp only [push_cast, seval, ↓reduceIte]
    refine W_ret ?_
    try simp only [gthen, gblock]
    have h := Option.some.inj h; subst h
    refine fin_loc (.inr rfl) hU [.agg [.val (.int .i64 0), .val (.int .i64 0), .val (.int .i64 0), .val (.int .i64 0), .val (.int .i64 0), .val (.int .i64 0), .val (.int .i64 0), .val (.bool false)]] (by omega) ?_
    simp only [push_cast, seval, ↓reduceIte, cast_lit, Try.results71, hN0, hN]
  · replace h := condF c20 h
    refine W_skip ?_
    try simp only [gthen, gblock]
    refine W_drop [0, 2] [true] ?_
    simp only [push_cast, seval, ↓reduceIte]
    refine W_seqK ?_
    refine W_sq [0, 2, 7] (W_regionD tab_ok [] ?_)
    simp only [push_cast, seval, ↓reduceIte, cast_lit, hN0, hN]
    refine W_block ?_
    refine W_sq [0, 2, 7, 8] (W_regionD tab_ok [] ?_)
    simp only [push_cast, seval, ↓reduceIte, cast_lit, hN0, hN]
    refine W_cond (t := ((IntKind.u64.wrap (landI .u64 a0 3)) == 0)) rfl (fun c19 => ?_) (fun c19 => ?_)
    · replace h := condT c19 h
      refine W_seqK ?_
      obtain ⟨y4, hy4, h⟩ := bC h
      obtain ⟨y5, hy5, h⟩ := bC h
      obtain ⟨y6, hy6, h⟩ := bC h
      refine W_regionD tab_ok [] ?_
      simp only [push_cast, seval, ↓reduceIte, cast_lit, hN0, hN]
      refine (ok_ptr_offset hy4).then ?_
      simp only [push_cast, seval, ↓reduceIte, cast_lit, hN0, hN]
      refine (ok_ptr_field hy5).then ?_
      simp only [push_cast, seval, ↓reduceIte, cast_lit, hN0, hN]
      refine (ok_ptr_field hy6).then ?_
      simp only [push_cast, seval, ↓reduceIte, cast_lit, hN0, hN]
      refine W_drop [2] [true] ?_
      simp only [push_cast, seval, ↓reduceIte]
      refine W_ret ?_
      try simp only [gthen, gblock]
      have h := Option.some.inj h; subst h
      refine fin_loc (.inr rfl) hU [.agg [.val (.int .i64 1), .val (.int .i64 y4), .val (.int .i64 y5), .val (.int .i64 y6), .val (.int .i64 0), .val (.int .i64 0), .val (.int .i64 0), .val (.bool false)]] (by omega) ?_
      simp only [push_cast, seval, ↓reduceIte, cast_lit, Try.results71, hN0, hN]
    · replace h := condF c19 h
      refine W_sq [0, 2, 7, 17] (W_regionD tab_ok [] ?_)
      simp only [push_cast, seval, ↓reduceIte, cast_lit, hN0, hN]
      refine W_cond (t := ((IntKind.u64.wrap (landI .u64 a0 3)) == 1)) rfl (fun c18 => ?_) (fun c18 => ?_)
      · replace h := condT c18 h
        refine W_seqK ?_
        obtain ⟨y10, hy10, h⟩ := bC h
        obtain ⟨y11, hy11, h⟩ := bC h
        obtain ⟨y12, hy12, h⟩ := bC h
        refine W_regionD tab_ok [] ?_
        simp only [push_cast, seval, ↓reduceIte, cast_lit, hN0, hN]
        refine (ok_ptr_offset hy10).then ?_
        simp only [push_cast, seval, ↓reduceIte, cast_lit, hN0, hN]
        refine (ok_ptr_field hy11).then ?_
        simp only [push_cast, seval, ↓reduceIte, cast_lit, hN0, hN]
        refine (ok_ptr_field hy12).then ?_
        simp only [push_cast, seval, ↓reduceIte, cast_lit, hN0, hN]
        refine W_drop [2] [true] ?_
        simp only [push_cast, seval, ↓reduceIte]
        refine W_ret ?_
        try simp only [gthen, gblock]
        have h := Option.some.inj h; subst h
        refine fin_loc (.inr rfl) hU [.agg [.val (.int .i64 2), .val (.int .i64 y10), .val (.int .i64 0), .val (.int .i64 0), .val (.int .i64 y11), .val (.int .i64 y12), .val (.int .i64 0), .val (.bool false)]] (by omega) ?_
        simp only [push_cast, seval, ↓reduceIte, cast_lit, Try.results71, hN0, hN]
      · replace h := condF c18 h
        refine W_sq [0, 2, 26] (W_regionD tab_ok [] ?_)
        simp only [push_cast, seval, ↓reduceIte, cast_lit, hN0, hN]
        refine W_cond (t := ((IntKind.u64.wrap (landI .u64 a0 3)) == 2)) rfl (fun c17 => ?_) (fun c17 => ?_)
        · replace h := condT c17 h
          refine W_seqK ?_
          obtain ⟨y15, hy15, h⟩ := bC h
          obtain ⟨y16, hy16, h⟩ := bC h
          refine W_regionD tab_ok [] ?_
          simp only [push_cast, seval, ↓reduceIte, cast_lit, hN0, hN]
          refine (ok_ptr_field hy15).then ?_
          simp only [push_cast, seval, ↓reduceIte, cast_lit, hN0, hN]
          refine (ok_ptr_field hy16).then ?_
          simp only [push_cast, seval, ↓reduceIte, cast_lit, hN0, hN]
          refine W_drop [2] [true] ?_
          simp only [push_cast, seval, ↓reduceIte]
          refine W_ret ?_
          try simp only [gthen, gblock]
          have h := Option.some.inj h; subst h
          refine fin_loc (.inr rfl) hU [.agg [.val (.int .i64 3), .val (.int .i64 y15), .val (.int .i64 0), .val (.int .i64 0), .val (.int .i64 0), .val (.int .i64 0), .val (.int .i64 y16), .val (.bool ((IntKind.u64.wrap (landI .u64 (Int.fdiv a0 (2 ^ min (Int.toNat 2) 64)) 1)) == 1))]] (by omega) ?_
          simp only [push_cast, seval, ↓reduceIte, cast_lit, Try.results71, hN0, hN]
        · replace h := condF c17 h
          refine W_skip ?_
          try simp only [gthen, gblock]
          refine W_drop [2] [true] ?_
          simp only [push_cast, seval, ↓reduceIte]
          refine W_seqK ?_
          refine W_regionD tab_ok [] ?_
          simp only [push_cast, seval, ↓reduceIte, cast_lit, hN0, hN]
          refine W_drop [2] [true] ?_
          simp only [push_cast, seval, ↓reduceIte]
          refine W_ret ?_
          try simp only [gthen, gblock]
          have h := Option.some.inj h; subst h
          refine fin_loc (.inr rfl) hU [.agg [.val (.int .i64 4), .val (.int .i64 0), .val (.int .i64 0), .val (.int .i64 0), .val (.int .i64 0), .val (.int .i64 0), .val (.int .i64 0), .val (.bool false)]] (by omega) ?_
          simp only [push_cast, seval, ↓reduceIte, cast_lit, Try.results71, hN0, hN]
theorem ok_arena_Arena_Part {a0 : (Option S_arena_Arena)} {a1 : Int} {a2 : Int} {a3 : Int} {r : ((List Int) × Bool)} {O : Objs} {n : Nat} (h : m_arena_Arena_Part a0 a1 a2 a3 = some r) : GTo Try.prog 97 [(gP e_S_arena_Arena a0), .val (.int .i64 a1), .val (.int .i64 a2), .val (.int .i64 a3)] O n (.tup [.sl r.1.length (fl (eI .u64) r.1), .val (.bool r.2)]) O n := by
  unfold m_arena_Arena_Part at h
  refine fn_of tab_ok Try.call97 Try.func97 rfl (Nat.le_of_ble_eq_true rfl) (Nat.le_refl _) fun hU => ?_
  have hN0 : O n = none := hU.fresh _ (Nat.le_refl _)
  have hN : ∀ k, O (n + k) = none := fun k => hU.fresh _ (Nat.le_add_right _ _)
  show W _ _ _ _ ⟨29, [], [(0, (gP e_S_arena_Arena a0)), (1, .val (.int .i64 a1)), (2, .val (.int .i64 a2)), (3, .val (.int .i64 a3))]⟩ (Loc O n []) _
  refine W_sq [0, 1, 2, 3] (W_regionD tab_ok [] ?_)
  simp only [push_cast, seval, ↓reduceIte, cast_lit, hN0, hN]
  refine W_seqK ?_
  refine W_seqK ?_
  obtain ⟨y2, hy2, h⟩ := bC h
  refine W_regionD tab_ok [] ?_
  simp only [push_cast, seval, ↓reduceIte, cast_lit, hN0, hN]
  refine (ok_arena_Arena_Has hy2).then ?_
  simp only [push_cast, seval, ↓reduceIte, cast_lit, hN0, hN]
  refine W_drop [0, 1, 2, 3, 15] [] ?_
  simp only [push_cast, seval, ↓reduceIte]
  refine W_cond (t := (!y2)) rfl (fun c11 => ?_) (fun c11 => ?_)
  · replace h := condT c11 h
    refine W_sq [8, 9] (W_regionD tab_ok [] ?_)
    simp only [push_cast, seval, ↓reduceIte, cast_lit, hN0, hN]
    refine W_ret ?_
    try simp only [gthen, gblock]
    have h := Option.some.inj h; subst h
    refine fin_loc (.inr rfl) hU [.val (.slice none 0 0), .val (.bool false)] (by omega) ?_
    simp only [push_cast, seval, ↓reduceIte, cast_lit, Try.results97, hN0, hN]
  · replace h := condF c11 h
    refine W_skip ?_
    try simp only [gthen, gblock]
    refine W_drop [0, 1, 2, 3] [] ?_
    simp only [push_cast, seval, ↓reduceIte]
    refine W_seqK ?_
    obtain ⟨x7, hx7, h⟩ := bC h
    obtain ⟨x8, hx8, ax8, bx8, cx8, h⟩ := bE (f := (eL (eI .u64))) tab42 (fun _ => rfl) (by decide) h
    obtain ⟨l9, al9, bl9, cl9, gl9, h⟩ := bS (lo := (some (.i64, a2))) (hi := (some (.i64, (IntKind.i64.wrap (a2 + a3))))) (f := (eI .u64)) rfl rfl tkind42 tab31 (fun _ => rfl) h
    obtain ⟨y10, hy10, h⟩ := bC h
    refine W_regionD tab_ok [] ?_
    simp only [push_cast, Nat.reduceAdd, Nat.reduceSub, Nat.reduceMul, Nat.reduceLeDiff, Nat.reduceLT, Nat.reduceEqDiff, ↓reduceIte, reduceCtorEq, Int.reduceBEq, Int.reduceBNe, Nat.reduceBEq, Int.reduceLE, Int.reduceLT, Int.reduceEq, Int.reduceNe, Int.reduceNeg, Nat.reduceDiv, Nat.reduceMod, Nat.reducePow, cast_lit, hx7, ax8, bx8, cx8, al9, bl9, cl9, gl9, hN0, hN]
    refine (ok_slices_Clone_uint64_uint64  hy10).then ?_
    simp only [push_cast, Nat.reduceAdd, Nat.reduceSub, Nat.reduceMul, Nat.reduceLeDiff, Nat.reduceLT, Nat.reduceEqDiff, ↓reduceIte, reduceCtorEq, Int.reduceBEq, Int.reduceBNe, Nat.reduceBEq, Int.reduceLE, Int.reduceLT, Int.reduceEq, Int.reduceNe, Int.reduceNeg, Nat.reduceDiv, Nat.reduceMod, Nat.reducePow, cast_lit, hx7, ax8, bx8, cx8, al9, bl9, cl9, gl9, hN0, hN]
    refine W_drop [8, 9] [true] ?_
    simp only [push_cast, seval, ↓reduceIte]
    refine W_ret ?_
    try simp only [gthen, gblock]
    have h := Option.some.inj h; subst h
    refine fin_loc (.inr rfl) hU [.row n y10.length, .val (.bool true)] (by omega) ?_
    simp only [push_cast, seval, ↓reduceIte, cast_lit, Try.results97, hN0, hN]
theorem ok_ptr_width {a0 : Int} {r : Int} {O : Objs} {n : Nat} (h : m_ptr_width a0 = some r) : GTo Try.prog 105 [.val (.int .i64 a0)] O n (.val (.int .i64 r)) O n := by
  unfold m_ptr_width at h
  refine fn_of tab_ok Try.call105 Try.func105 rfl (Nat.le_of_ble_eq_true rfl) (Nat.le_refl _) fun hU => ?_
  have hN0 : O n = none := hU.fresh _ (Nat.le_refl _)
  have hN : ∀ k, O (n + k) = none := fun k => hU.fresh _ (Nat.le_add_right _ _)
  show W _ _ _ _ ⟨8, [], [(0, .val (.int .i64 a0))]⟩ (Loc O n []) _
  refine W_sq [0] (W_regionD tab_ok [] ?_)
  simp only [push_cast, seval, ↓reduceIte, cast_lit, hN0, hN]
  refine W_seqK ?_
  obtain ⟨y6, hy6, ey6, h⟩ := bY (f := (eI .i64)) (cs := [.val (.int .i64 0), .val (.int .i64 1), .val (.int .i64 8), .val (.int .i64 16), .val (.int .i64 32), .val (.int .i64 64), .val (.int .i64 64)]) rfl h
  have g7 := congrArg G.agg ey6
  obtain ⟨y8, hy8, ey8, h⟩ := bY (f := (eI .i64)) (cs := [.val (.int .i64 0), .val (.int .i64 0), .val (.int .i64 0), .val (.int .i64 0), .val (.int .i64 0), .val (.int .i64 0), .val (.int .i64 0)]) rfl h
  have g9 := congrArg (GObj.mk false 140 7 1) ey8
  have g10 := gplace_arr (f := (eI .i64)) y8 y6 (fun _ => rfl)
  refine W_regionD tab_ok [] ?_
  simp only [push_cast, seval, ↓reduceIte, cast_lit, g7, g9, g10, hN0, hN]
  refine W_drop [0, 3] [true] ?_
  simp only [push_cast, seval, ↓reduceIte]
  obtain ⟨x12, hx12, ax12, bx12, cx12, h⟩ := bEA (f := (eI .i64)) (b := 7) rfl tab3 (fun _ => rfl) (by decide) h
  refine W_sq [2] (W_regionD tab_ok [] ?_)
  simp only [push_cast, Nat.reduceAdd, Nat.reduceSub, Nat.reduceMul, Nat.reduceLeDiff, Nat.reduceLT, Nat.reduceEqDiff, ↓reduceIte, reduceCtorEq, Int.reduceBEq, Int.reduceBNe, Nat.reduceBEq, Int.reduceLE, Int.reduceLT, Int.reduceEq, Int.reduceNe, Int.reduceNeg, Nat.reduceDiv, Nat.reduceMod, Nat.reducePow, cast_lit, ax12, bx12, cx12, hN0, hN]
  refine W_ret ?_
  try simp only [gthen, gblock]
  have h := Option.some.inj h; subst h
  refine fin_loc (.inr rfl) hU [.val (.int .i64 x12)] (by omega) ?_
  simp only [push_cast, seval, ↓reduceIte, cast_lit, Try.results105, hN0, hN]
theorem ok_ptr_Ptr_Words {a0 : S_ptr_Ptr} {r : (Int × Bool)} {O : Objs} {n : Nat} (h : m_ptr_Ptr_Words a0 = some r) : GTo Try.prog 98 [.agg (c_S_ptr_Ptr a0)] O n (.tup [.val (.int .i64 r.1), .val (.bool r.2)]) O n := by
  unfold m_ptr_Ptr_Words at h
  refine fn_of tab_ok Try.call98 Try.func98 rfl (Nat.le_of_ble_eq_true rfl) (Nat.le_refl _) fun hU => ?_
  have hN0 : O n = none := hU.fresh _ (Nat.le_refl _)
  have hN : ∀ k, O (n + k) = none := fun k => hU.fresh _ (Nat.le_add_right _ _)
  show W _ _ _ _ ⟨57, [], [(0, .agg (c_S_ptr_Ptr a0))]⟩ (Loc O n []) _
  refine W_sq [1] (W_regionD tab_ok [] ?_)
  simp only [push_cast, seval, ↓reduceIte, cast_lit, hN0, hN]
  refine W_seqK ?_
  refine W_block ?_
  refine W_sq [1, 4] (W_regionD tab_ok [] ?_)
  simp only [push_cast, seval, ↓reduceIte, cast_lit, hN0, hN]
  refine W_cond (t := (a0.Kind == 1)) rfl (fun c5 => ?_) (fun c5 => ?_)
  · replace h := condT c5 h
    refine W_sq [2, 3] (W_regionD tab_ok [] ?_)
    simp only [push_cast, seval, ↓reduceIte, cast_lit, hN0, hN]
    refine W_ret ?_
    try simp only [gthen, gblock]
    have h := Option.some.inj h; subst h
    refine fin_loc (.inr rfl) hU [.val (.int .i64 (IntKind.i64.wrap (a0.Data + a0.Ptrs))), .val (.bool true)] (by omega) ?_
    simp only [push_cast, seval, ↓reduceIte, cast_lit, Try.results98, hN0, hN]
  · replace h := condF c5 h
    refine W_sq [1, 13] (W_regionD tab_ok [none, none, none] ?_)
    simp only [push_cast, seval, ↓reduceIte, cast_lit, hN0, hN]
    repeat (with_reducible refine And.intro (by first | (intro h0; simp only [h0, and_self]; done) | (intro h0; simp only [h0, Bool.not_false, Bool.not_true, Bool.true_and, Bool.and_true, true_and, and_true, and_self, imp_self, implies_true, bne_iff_ne, ne_eq, beq_iff_eq]; done) | (intros; simp_all; done) | exact True.intro) ?_)
    refine W_cond (t := (cond (a0.Kind == 2) (a0.Code == 7) false)) rfl (fun c4 => ?_) (fun c4 => ?_)
    · replace h := condT c4 h
      refine W_sq [2, 3] (W_regionD tab_ok [] ?_)
      simp only [push_cast, seval, ↓reduceIte, cast_lit, hN0, hN]
      refine W_ret ?_
      try simp only [gthen, gblock]
      have h := Option.some.inj h; subst h
      refine fin_loc (.inr rfl) hU [.val (.int .i64 (IntKind.i64.wrap (a0.Count + 1))), .val (.bool true)] (by omega) ?_
      simp only [push_cast, seval, ↓reduceIte, cast_lit, Try.results98, hN0, hN]
    · replace h := condF c4 h
      refine W_sq [1, 25] (W_regionD tab_ok [none, none, none, none, none, none, none, none, none, none, none, none] ?_)
      simp only [push_cast, seval, ↓reduceIte, cast_lit, hN0, hN]
      repeat (with_reducible refine And.intro (by first | (intro h0; simp only [h0, and_self]; done) | (intro h0; simp only [h0, Bool.not_false, Bool.not_true, Bool.true_and, Bool.and_true, true_and, and_true, and_self, imp_self, implies_true, bne_iff_ne, ne_eq, beq_iff_eq]; done) | (intros; simp_all; done) | exact True.intro) ?_)
      refine W_cond (t := (cond (cond (cond (cond (a0.Kind == 2) (decide (0 ≤ a0.Code)) false) (decide (a0.Code < 7)) false) (decide (0 ≤ a0.Count)) false) (decide (a0.Count ≤ 536870911)) false)) rfl (fun c3 => ?_) (fun c3 => ?_)
      · replace h := condT c3 h
        refine W_seqK ?_
        obtain ⟨y2, hy2, h⟩ := bC h
        refine W_drawD tab_ok (by kernel_rfl) [] (by kernel_rfl) ?_
        simp only [push_cast, seval, ↓reduceIte, cast_lit, hN0, hN]
        refine PCall.of (ok_ptr_width hy2) ?_
        simp only [push_cast, seval, ↓reduceIte, cast_lit, hN0, hN]
        refine W_drop [2, 3] [false] ?_
        simp only [push_cast, seval, ↓reduceIte]
        refine W_ret ?_
        try simp only [gthen, gblock]
        have h := Option.some.inj h; subst h
        refine fin_loc (.inr rfl) hU [.val (.int .i64 (IntKind.i64.wrap (Int.tdiv (IntKind.i64.wrap ((IntKind.i64.wrap (a0.Count * y2)) + 63)) 64))), .val (.bool true)] (by omega) ?_
        simp only [push_cast, seval, ↓reduceIte, cast_lit, Try.results98, hN0, hN]
      · replace h := condF c3 h
        refine W_skip ?_
        try simp only [gthen, gblock]
        refine W_drop [] [false] ?_
        simp only [push_cast, seval, ↓reduceIte]
        refine W_sq [2, 3] (W_regionD tab_ok [] ?_)
        simp only [push_cast, seval, ↓reduceIte, cast_lit, hN0, hN]
        refine W_ret ?_
        try simp only [gthen, gblock]
        have h := Option.some.inj h; subst h
        refine fin_loc (.inr rfl) hU [.val (.int .i64 0), .val (.bool false)] (by omega) ?_
        simp only [push_cast, seval, ↓reduceIte, cast_lit, Try.results98, hN0, hN]
theorem ok_far_target {a0 : (Option S_arena_Arena)} {a1 : S_ptr_Ptr} {a2 : Int} {a3 : Int} {r : (S_far_Loc × Int)} {O : Objs} {n : Nat} (h : m_far_target a0 a1 a2 a3 = some r) : GTo Try.prog 74 [(gP e_S_arena_Arena a0), .agg (c_S_ptr_Ptr a1), .val (.int .i64 a2), .val (.int .i64 a3)] O n (.tup [.agg [.val (.int .i64 r.1.P.Kind), .val (.int .i64 r.1.P.Off), .val (.int .i64 r.1.P.Data), .val (.int .i64 r.1.P.Ptrs), .val (.int .i64 r.1.P.Code), .val (.int .i64 r.1.P.Count), .val (.int .i64 r.1.P.Segment), .val (.bool r.1.P.Double), .val (.int .i64 r.1.Segment), .val (.int .i64 r.1.At)], .val (.int .i64 r.2)]) O n := by
  unfold m_far_target at h
  refine fn_of tab_ok Try.call74 Try.func74 rfl (Nat.le_of_ble_eq_true rfl) (Nat.le_refl _) fun hU => ?_
  have hN0 : O n = none := hU.fresh _ (Nat.le_refl _)
  have hN : ∀ k, O (n + k) = none := fun k => hU.fresh _ (Nat.le_add_right _ _)
  show W _ _ _ _ ⟨36, [], [(0, (gP e_S_arena_Arena a0)), (1, .agg (c_S_ptr_Ptr a1)), (2, .val (.int .i64 a2)), (3, .val (.int .i64 a3))]⟩ (Loc O n []) _
  refine W_sq [0, 2, 3, 5, 8] (W_regionD tab_ok [] ?_)
  simp only [push_cast, seval, ↓reduceIte, cast_lit, hN0, hN]
  refine W_seqK ?_
  refine W_sq [0, 2, 3, 5, 8, 14] (W_regionD tab_ok [] ?_)
  simp only [push_cast, seval, ↓reduceIte, cast_lit, hN0, hN]
  refine W_cond (t := (a1.Kind == 4)) rfl (fun c7 => ?_) (fun c7 => ?_)
  · replace h := condT c7 h
    refine W_seqK ?_
    refine W_regionD tab_ok [] ?_
    simp only [push_cast, seval, ↓reduceIte, cast_lit, hN0, hN]
    refine W_drop [8, 9] [false, true] ?_
    simp only [push_cast, seval, ↓reduceIte]
    refine W_ret ?_
    try simp only [gthen, gblock]
    have h := Option.some.inj h; subst h
    refine fin_loc (.inr rfl) hU [.agg [.val (.int .i64 0), .val (.int .i64 0), .val (.int .i64 0), .val (.int .i64 0), .val (.int .i64 0), .val (.int .i64 0), .val (.int .i64 0), .val (.bool false), .val (.int .i64 0), .val (.int .i64 0)], .val (.int .i64 9)] (by omega) ?_
    simp only [push_cast, seval, ↓reduceIte, cast_lit, Try.results74, hN0, hN]
  · replace h := condF c7 h
    refine W_skip ?_
    try simp only [gthen, gblock]
    refine W_drop [0, 2, 3, 5, 8] [true, true] ?_
    simp only [push_cast, seval, ↓reduceIte]
    refine W_seqK ?_
    obtain ⟨y2, hy2, h⟩ := bC h
    refine W_regionD tab_ok [] ?_
    simp only [push_cast, seval, ↓reduceIte, cast_lit, hN0, hN]
    refine (ok_ptr_Ptr_Words hy2).then ?_
    simp only [push_cast, seval, ↓reduceIte, cast_lit, hN0, hN]
    refine W_drop [0, 2, 3, 5, 8, 10, 11] [true, true] ?_
    simp only [push_cast, seval, ↓reduceIte]
    refine W_seqK ?_
    refine W_sq [0, 2, 3, 5, 8, 10, 22] (W_regionD tab_ok [] ?_)
    simp only [push_cast, seval, ↓reduceIte, cast_lit, hN0, hN]
    refine W_cond (t := (!y2.2)) rfl (fun c6 => ?_) (fun c6 => ?_)
    · replace h := condT c6 h
      refine W_seqK ?_
      refine W_regionD tab_ok [] ?_
      simp only [push_cast, seval, ↓reduceIte, cast_lit, hN0, hN]
      refine W_drop [8, 9] [false, true] ?_
      simp only [push_cast, seval, ↓reduceIte]
      refine W_ret ?_
      try simp only [gthen, gblock]
      have h := Option.some.inj h; subst h
      refine fin_loc (.inr rfl) hU [.agg [.val (.int .i64 0), .val (.int .i64 0), .val (.int .i64 0), .val (.int .i64 0), .val (.int .i64 0), .val (.int .i64 0), .val (.int .i64 0), .val (.bool false), .val (.int .i64 0), .val (.int .i64 0)], .val (.int .i64 8)] (by omega) ?_
      simp only [push_cast, seval, ↓reduceIte, cast_lit, Try.results74, hN0, hN]
    · replace h := condF c6 h
      refine W_skip ?_
      try simp only [gthen, gblock]
      refine W_drop [0, 2, 3, 5, 8, 10] [true, true] ?_
      simp only [push_cast, seval, ↓reduceIte]
      refine W_seqK ?_
      refine W_seqK ?_
      obtain ⟨y4, hy4, h⟩ := bC h
      refine W_regionD tab_ok [] ?_
      simp only [push_cast, seval, ↓reduceIte, cast_lit, hN0, hN]
      refine (ok_arena_Arena_Has hy4).then ?_
      simp only [push_cast, seval, ↓reduceIte, cast_lit, hN0, hN]
      refine W_drop [2, 3, 5, 8, 29] [true, true] ?_
      simp only [push_cast, seval, ↓reduceIte]
      refine W_cond (t := (!y4)) rfl (fun c5 => ?_) (fun c5 => ?_)
      · replace h := condT c5 h
        refine W_seqK ?_
        refine W_regionD tab_ok [] ?_
        simp only [push_cast, seval, ↓reduceIte, cast_lit, hN0, hN]
        refine W_drop [8, 9] [false, true] ?_
        simp only [push_cast, seval, ↓reduceIte]
        refine W_ret ?_
        try simp only [gthen, gblock]
        have h := Option.some.inj h; subst h
        refine fin_loc (.inr rfl) hU [.agg [.val (.int .i64 0), .val (.int .i64 0), .val (.int .i64 0), .val (.int .i64 0), .val (.int .i64 0), .val (.int .i64 0), .val (.int .i64 0), .val (.bool false), .val (.int .i64 0), .val (.int .i64 0)], .val (.int .i64 7)] (by omega) ?_
        simp only [push_cast, seval, ↓reduceIte, cast_lit, Try.results74, hN0, hN]
      · replace h := condF c5 h
        refine W_skip ?_
        try simp only [gthen, gblock]
        refine W_drop [2, 3, 5, 8] [true, true] ?_
        simp only [push_cast, seval, ↓reduceIte]
        refine W_seqK ?_
        refine W_regionD tab_ok [] ?_
        simp only [push_cast, seval, ↓reduceIte, cast_lit, hN0, hN]
        refine W_drop [2, 3, 5, 8] [true, true] ?_
        simp only [push_cast, seval, ↓reduceIte]
        refine W_seqK ?_
        refine W_regionD tab_ok [] ?_
        simp only [push_cast, seval, ↓reduceIte, cast_lit, hN0, hN]
        refine W_drop [8, 9] [false, true] ?_
        simp only [push_cast, seval, ↓reduceIte]
        refine W_ret ?_
        try simp only [gthen, gblock]
        have h := Option.some.inj h; subst h
        refine fin_loc (.inr rfl) hU [.agg [.val (.int .i64 a1.Kind), .val (.int .i64 0), .val (.int .i64 a1.Data), .val (.int .i64 a1.Ptrs), .val (.int .i64 a1.Code), .val (.int .i64 a1.Count), .val (.int .i64 a1.Segment), .val (.bool a1.Double), .val (.int .i64 a2), .val (.int .i64 a3)], .val (.int .i64 0)] (by omega) ?_
        simp only [push_cast, seval, ↓reduceIte, cast_lit, Try.results74, hN0, hN]
theorem ok_far_double {a0 : (Option S_arena_Arena)} {a1 : Int} {a2 : Int} {r : (S_far_Loc × Int)} {O : Objs} {n : Nat} (h : m_far_double a0 a1 a2 = some r) : GTo Try.prog 72 [(gP e_S_arena_Arena a0), .val (.int .i64 a1), .val (.int .i64 a2)] O n (.tup [.agg [.val (.int .i64 r.1.P.Kind), .val (.int .i64 r.1.P.Off), .val (.int .i64 r.1.P.Data), .val (.int .i64 r.1.P.Ptrs), .val (.int .i64 r.1.P.Code), .val (.int .i64 r.1.P.Count), .val (.int .i64 r.1.P.Segment), .val (.bool r.1.P.Double), .val (.int .i64 r.1.Segment), .val (.int .i64 r.1.At)], .val (.int .i64 r.2)]) O n := by
  unfold m_far_double at h
  refine fn_of tab_ok Try.call72 Try.func72 rfl (Nat.le_of_ble_eq_true rfl) (Nat.le_refl _) fun hU => ?_
  have hN0 : O n = none := hU.fresh _ (Nat.le_refl _)
  have hN : ∀ k, O (n + k) = none := fun k => hU.fresh _ (Nat.le_add_right _ _)
  show W _ _ _ _ ⟨56, [], [(0, (gP e_S_arena_Arena a0)), (1, .val (.int .i64 a1)), (2, .val (.int .i64 a2))]⟩ (Loc O n []) _
  refine W_sq [0, 1, 2, 6] (W_regionD tab_ok [] ?_)
  simp only [push_cast, seval, ↓reduceIte, cast_lit, hN0, hN]
  refine W_seqK ?_
  obtain ⟨y2, hy2, h⟩ := bC h
  refine W_regionD tab_ok [] ?_
  simp only [push_cast, seval, ↓reduceIte, cast_lit, hN0, hN]
  refine (ok_arena_Arena_Part hy2).then ?_
  simp only [push_cast, seval, ↓reduceIte, cast_lit, hN0, hN]
  refine W_drop [0, 6, 8, 9] [true] ?_
  simp only [push_cast, seval, ↓reduceIte]
  refine W_seqK ?_
  refine W_sq [0, 6, 8, 20] (W_regionD tab_ok [] ?_)
  simp only [push_cast, seval, ↓reduceIte, cast_lit, hN0, hN]
  refine W_cond (t := (!y2.2)) rfl (fun c11 => ?_) (fun c11 => ?_)
  · replace h := condT c11 h
    refine W_seqK ?_
    refine W_regionD tab_ok [] ?_
    simp only [push_cast, seval, ↓reduceIte, cast_lit, hN0, hN]
    refine W_drop [6, 7] [true] ?_
    simp only [push_cast, seval, ↓reduceIte]
    refine W_ret ?_
    try simp only [gthen, gblock]
    have h := Option.some.inj h; subst h
    refine fin_loc (.inr rfl) hU [.agg [.val (.int .i64 0), .val (.int .i64 0), .val (.int .i64 0), .val (.int .i64 0), .val (.int .i64 0), .val (.int .i64 0), .val (.int .i64 0), .val (.bool false), .val (.int .i64 0), .val (.int .i64 0)], .val (.int .i64 7)] (by omega) ?_
    simp only [push_cast, seval, ↓reduceIte, cast_lit, Try.results72, hN0, hN]
  · replace h := condF c11 h
    refine W_skip ?_
    try simp only [gthen, gblock]
    refine W_drop [0, 6, 8] [true] ?_
    simp only [push_cast, seval, ↓reduceIte]
    obtain ⟨x3, hx3, ax3, bx3, cx3, h⟩ := bE (f := (eI .u64)) tab31 (fun _ => rfl) (by decide) h
    obtain ⟨y4, hy4, h⟩ := bC h
    obtain ⟨x5, hx5, ax5, bx5, cx5, h⟩ := bE (f := (eI .u64)) tab31 (fun _ => rfl) (by decide) h
    obtain ⟨y6, hy6, h⟩ := bC h
    refine W_seqN (E' := ⟨56, [], [(0, (gP e_S_arena_Arena a0)), (6, .ref n 0), (10, .ref (n + 1) 0), (11, .ref (n + 2) 0)]⟩) (O' := (Loc O n [some ⟨false, 85, 10, 1, [.val (.int .i64 0), .val (.int .i64 0), .val (.int .i64 0), .val (.int .i64 0), .val (.int .i64 0), .val (.int .i64 0), .val (.int .i64 0), .val (.bool false), .val (.int .i64 0), .val (.int .i64 0)]⟩, some ⟨false, 83, 8, 1, (c_S_ptr_Ptr y4)⟩, some ⟨false, 83, 8, 1, (c_S_ptr_Ptr y6)⟩])) (n0 := (n + 3)) ?_ ?_
    · refine W_drawX tab_ok (by kernel_rfl) [.low, .low, .low, .low, .low, .low, .low, .low, .pass, .pass, .pass, .pass] (fun i => i < (n + 1)) 8 9 [0, 1, 2, 3, 4, 5, 6, 7] [10, 11] [.low, .low, .low, .low, .low, .low, .low, .low] [.pass, .pass, .pass, .pass] [.pass, .pass, .pass, .pass] [] (by kernel_rfl) rfl rfl rfl ?_
      simp only [push_cast, Nat.reduceAdd, Nat.reduceSub, Nat.reduceMul, Nat.reduceLeDiff, Nat.reduceLT, Nat.reduceEqDiff, ↓reduceIte, reduceCtorEq, Int.reduceBEq, Int.reduceBNe, Nat.reduceBEq, Int.reduceLE, Int.reduceLT, Int.reduceEq, Int.reduceNe, Int.reduceNeg, Nat.reduceDiv, Nat.reduceMod, Nat.reducePow, cast_lit, ax3, bx3, cx3, ax5, bx5, cx5, hN0, hN]
      repeat (with_reducible refine And.intro (by omega) ?_)
      first | refine PCallA.of (fun _ _ => ok_ptr_Decode hy4) ?_ | refine PCall.of (ok_ptr_Decode hy4) ?_
      simp only [push_cast, Nat.reduceAdd, Nat.reduceSub, Nat.reduceMul, Nat.reduceLeDiff, Nat.reduceLT, Nat.reduceEqDiff, ↓reduceIte, reduceCtorEq, Int.reduceBEq, Int.reduceBNe, Nat.reduceBEq, Int.reduceLE, Int.reduceLT, Int.reduceEq, Int.reduceNe, Int.reduceNeg, Nat.reduceDiv, Nat.reduceMod, Nat.reducePow, cast_lit, ax3, bx3, cx3, ax5, bx5, cx5, hN0, hN]
      repeat (with_reducible refine And.intro (by omega) ?_)
      first | refine PCallA.of (fun _ _ => ok_ptr_Decode hy6) ?_ | refine PCall.of (ok_ptr_Decode hy6) ?_
      simp only [push_cast, Nat.reduceAdd, Nat.reduceSub, Nat.reduceMul, Nat.reduceLeDiff, Nat.reduceLT, Nat.reduceEqDiff, ↓reduceIte, reduceCtorEq, Int.reduceBEq, Int.reduceBNe, Nat.reduceBEq, Int.reduceLE, Int.reduceLT, Int.reduceEq, Int.reduceNe, Int.reduceNeg, Nat.reduceDiv, Nat.reduceMod, Nat.reducePow, cast_lit, ax3, bx3, cx3, ax5, bx5, cx5, hN0, hN]
      repeat (with_reducible refine And.intro (by omega) ?_)
      refine And.intro ?_ ?_
      · simp only [push_cast, Nat.reduceAdd, Nat.reduceSub, Nat.reduceMul, Nat.reduceLeDiff, Nat.reduceLT, Nat.reduceEqDiff, ↓reduceIte, reduceCtorEq, Int.reduceBEq, Int.reduceBNe, Nat.reduceBEq, Int.reduceLE, Int.reduceLT, Int.reduceEq, Int.reduceNe, Int.reduceNeg, Nat.reduceDiv, Nat.reduceMod, Nat.reducePow, cast_lit, ax3, bx3, cx3, ax5, bx5, cx5, hN0, hN]
        repeat (with_reducible refine And.intro (by first | exact agree_loc rfl | exact agree_loc0) ?_)
        refine And.intro rfl (Fit2.of (fit_loc hU rfl rfl ?_) (by omega))
        simp only [push_cast, Nat.reduceAdd, Nat.reduceSub, Nat.reduceMul, Nat.reduceLeDiff, Nat.reduceLT, Nat.reduceEqDiff, ↓reduceIte, reduceCtorEq, Int.reduceBEq, Int.reduceBNe, Nat.reduceBEq, Int.reduceLE, Int.reduceLT, Int.reduceEq, Int.reduceNe, Int.reduceNeg, Nat.reduceDiv, Nat.reduceMod, Nat.reducePow, cast_lit, ax3, bx3, cx3, ax5, bx5, cx5, hN0, hN]
      · simp only [push_cast, Nat.reduceAdd, Nat.reduceSub, Nat.reduceMul, Nat.reduceLeDiff, Nat.reduceLT, Nat.reduceEqDiff, ↓reduceIte, reduceCtorEq, Int.reduceBEq, Int.reduceBNe, Nat.reduceBEq, Int.reduceLE, Int.reduceLT, Int.reduceEq, Int.reduceNe, Int.reduceNeg, Nat.reduceDiv, Nat.reduceMod, Nat.reducePow, cast_lit, ax3, bx3, cx3, ax5, bx5, cx5, hN0, hN]
        repeat (with_reducible refine And.intro (by first | exact agree_loc rfl | exact agree_loc0) ?_)
        refine And.intro rfl ?_
        refine Fit2.trans (E' := (⟨56, [], [(0, (gP e_S_arena_Arena a0)), (6, .ref n 0), (10, .ref (n + 2) 0), (11, .ref (n + 1) 0)]⟩ : Env)) (O' := (Loc O n [some ⟨false, 85, 10, 1, [.val (.int .i64 0), .val (.int .i64 0), .val (.int .i64 0), .val (.int .i64 0), .val (.int .i64 0), .val (.int .i64 0), .val (.int .i64 0), .val (.bool false), .val (.int .i64 0), .val (.int .i64 0)]⟩, some ⟨false, 83, 8, 1, (c_S_ptr_Ptr y6)⟩, some ⟨false, 83, 8, 1, (c_S_ptr_Ptr y4)⟩])) (n' := (n + 3)) (Fit2.of (fit_loc hU rfl rfl ?_) (by omega)) ?_
        · simp only [push_cast, Nat.reduceAdd, Nat.reduceSub, Nat.reduceMul, Nat.reduceLeDiff, Nat.reduceLT, Nat.reduceEqDiff, ↓reduceIte, reduceCtorEq, Int.reduceBEq, Int.reduceBNe, Nat.reduceBEq, Int.reduceLE, Int.reduceLT, Int.reduceEq, Int.reduceNe, Int.reduceNeg, Nat.reduceDiv, Nat.reduceMod, Nat.reducePow, cast_lit, ax3, bx3, cx3, ax5, bx5, cx5, hN0, hN]
        refine ren_fit (k := 3) (k' := 3) hU [0, 2, 1] [0, 2, 1] rfl rfl rfl rfl ⟨rfl, rfl⟩ ?_
        simp only [push_cast, seval, ↓reduceIte, cast_lit, hN0, hN]
    refine W_seqK ?_
    refine W_sq [0, 6, 10, 11, 36] (W_regionD tab_ok [none, none] ?_)
    simp only [push_cast, seval, ↓reduceIte, cast_lit, hN0, hN]
    repeat (with_reducible refine And.intro (by first | (intro h0; simp only [h0, and_self]; done) | (intro h0; simp only [h0, Bool.not_false, Bool.not_true, Bool.true_and, Bool.and_true, true_and, and_true, and_self, imp_self, implies_true, bne_iff_ne, ne_eq, beq_iff_eq]; done) | (intros; simp_all; done) | exact True.intro) ?_)
    refine W_cond (t := (cond (y4.Kind != 3) true y4.Double)) rfl (fun c10 => ?_) (fun c10 => ?_)
    · replace h := condT c10 h
      refine W_seqK ?_
      refine W_regionD tab_ok [] ?_
      simp only [push_cast, seval, ↓reduceIte, cast_lit, hN0, hN]
      refine W_drop [6, 7] [true, false, false] ?_
      simp only [push_cast, seval, ↓reduceIte]
      refine W_ret ?_
      try simp only [gthen, gblock]
      have h := Option.some.inj h; subst h
      refine fin_loc (.inr rfl) hU [.agg [.val (.int .i64 0), .val (.int .i64 0), .val (.int .i64 0), .val (.int .i64 0), .val (.int .i64 0), .val (.int .i64 0), .val (.int .i64 0), .val (.bool false), .val (.int .i64 0), .val (.int .i64 0)], .val (.int .i64 8)] (by omega) ?_
      simp only [push_cast, seval, ↓reduceIte, cast_lit, Try.results72, hN0, hN]
    · replace h := condF c10 h
      refine W_skip ?_
      try simp only [gthen, gblock]
      refine W_drop [0, 6, 10, 11] [true, true, true] ?_
      simp only [push_cast, seval, ↓reduceIte]
      refine W_seqK ?_
      refine W_sq [0, 6, 10, 11, 45] (W_regionD tab_ok [none, none, none] ?_)
      simp only [push_cast, seval, ↓reduceIte, cast_lit, hN0, hN]
      repeat (with_reducible refine And.intro (by first | (intro h0; simp only [h0, and_self]; done) | (intro h0; simp only [h0, Bool.not_false, Bool.not_true, Bool.true_and, Bool.and_true, true_and, and_true, and_self, imp_self, implies_true, bne_iff_ne, ne_eq, beq_iff_eq]; done) | (intros; simp_all; done) | exact True.intro) ?_)
      refine W_cond (t := (cond (y6.Kind != 4) (y6.Off != 0) false)) rfl (fun c9 => ?_) (fun c9 => ?_)
      · replace h := condT c9 h
        refine W_seqK ?_
        refine W_regionD tab_ok [] ?_
        simp only [push_cast, seval, ↓reduceIte, cast_lit, hN0, hN]
        refine W_drop [6, 7] [true, false, false] ?_
        simp only [push_cast, seval, ↓reduceIte]
        refine W_ret ?_
        try simp only [gthen, gblock]
        have h := Option.some.inj h; subst h
        refine fin_loc (.inr rfl) hU [.agg [.val (.int .i64 0), .val (.int .i64 0), .val (.int .i64 0), .val (.int .i64 0), .val (.int .i64 0), .val (.int .i64 0), .val (.int .i64 0), .val (.bool false), .val (.int .i64 0), .val (.int .i64 0)], .val (.int .i64 8)] (by omega) ?_
        simp only [push_cast, seval, ↓reduceIte, cast_lit, Try.results72, hN0, hN]
      · replace h := condF c9 h
        refine W_skip ?_
        try simp only [gthen, gblock]
        refine W_drop [0, 6, 10, 11] [true, true, true] ?_
        simp only [push_cast, seval, ↓reduceIte]
        refine W_seqK ?_
        obtain ⟨y8, hy8, h⟩ := bC h
        refine W_regionD tab_ok [] ?_
        simp only [push_cast, seval, ↓reduceIte, cast_lit, hN0, hN]
        refine (ok_far_target hy8).then ?_
        simp only [push_cast, seval, ↓reduceIte, cast_lit, hN0, hN]
        refine W_drop [6, 7] [true, false, false] ?_
        simp only [push_cast, seval, ↓reduceIte]
        refine W_ret ?_
        try simp only [gthen, gblock]
        have h := Option.some.inj h; subst h
        refine fin_loc (.inr rfl) hU [.agg [.val (.int .i64 y8.1.P.Kind), .val (.int .i64 y8.1.P.Off), .val (.int .i64 y8.1.P.Data), .val (.int .i64 y8.1.P.Ptrs), .val (.int .i64 y8.1.P.Code), .val (.int .i64 y8.1.P.Count), .val (.int .i64 y8.1.P.Segment), .val (.bool y8.1.P.Double), .val (.int .i64 y8.1.Segment), .val (.int .i64 y8.1.At)], .val (.int .i64 y8.2)] (by omega) ?_
        simp only [push_cast, seval, ↓reduceIte, cast_lit, Try.results72, hN0, hN]
theorem ok_far_single {a0 : (Option S_arena_Arena)} {a1 : Int} {a2 : Int} {r : (S_far_Loc × Int)} {O : Objs} {n : Nat} (h : m_far_single a0 a1 a2 = some r) : GTo Try.prog 73 [(gP e_S_arena_Arena a0), .val (.int .i64 a1), .val (.int .i64 a2)] O n (.tup [.agg [.val (.int .i64 r.1.P.Kind), .val (.int .i64 r.1.P.Off), .val (.int .i64 r.1.P.Data), .val (.int .i64 r.1.P.Ptrs), .val (.int .i64 r.1.P.Code), .val (.int .i64 r.1.P.Count), .val (.int .i64 r.1.P.Segment), .val (.bool r.1.P.Double), .val (.int .i64 r.1.Segment), .val (.int .i64 r.1.At)], .val (.int .i64 r.2)]) O n := by
  unfold m_far_single at h
  refine fn_of tab_ok Try.call73 Try.func73 rfl (Nat.le_of_ble_eq_true rfl) (Nat.le_refl _) fun hU => ?_
  have hN0 : O n = none := hU.fresh _ (Nat.le_refl _)
  have hN : ∀ k, O (n + k) = none := fun k => hU.fresh _ (Nat.le_add_right _ _)
  show W _ _ _ _ ⟨34, [], [(0, (gP e_S_arena_Arena a0)), (1, .val (.int .i64 a1)), (2, .val (.int .i64 a2))]⟩ (Loc O n []) _
  refine W_sq [0, 1, 2, 6] (W_regionD tab_ok [] ?_)
  simp only [push_cast, seval, ↓reduceIte, cast_lit, hN0, hN]
  refine W_seqK ?_
  obtain ⟨y2, hy2, h⟩ := bC h
  refine W_regionD tab_ok [] ?_
  simp only [push_cast, seval, ↓reduceIte, cast_lit, hN0, hN]
  refine (ok_arena_Arena_Get hy2).then ?_
  simp only [push_cast, seval, ↓reduceIte, cast_lit, hN0, hN]
  refine W_drop [0, 1, 2, 6, 8, 9] [true] ?_
  simp only [push_cast, seval, ↓reduceIte]
  refine W_seqK ?_
  refine W_sq [0, 1, 2, 6, 8, 19] (W_regionD tab_ok [] ?_)
  simp only [push_cast, seval, ↓reduceIte, cast_lit, hN0, hN]
  refine W_cond (t := (!y2.2)) rfl (fun c7 => ?_) (fun c7 => ?_)
  · replace h := condT c7 h
    refine W_seqK ?_
    refine W_regionD tab_ok [] ?_
    simp only [push_cast, seval, ↓reduceIte, cast_lit, hN0, hN]
    refine W_drop [6, 7] [true] ?_
    simp only [push_cast, seval, ↓reduceIte]
    refine W_ret ?_
    try simp only [gthen, gblock]
    have h := Option.some.inj h; subst h
    refine fin_loc (.inr rfl) hU [.agg [.val (.int .i64 0), .val (.int .i64 0), .val (.int .i64 0), .val (.int .i64 0), .val (.int .i64 0), .val (.int .i64 0), .val (.int .i64 0), .val (.bool false), .val (.int .i64 0), .val (.int .i64 0)], .val (.int .i64 7)] (by omega) ?_
    simp only [push_cast, seval, ↓reduceIte, cast_lit, Try.results73, hN0, hN]
  · replace h := condF c7 h
    refine W_skip ?_
    try simp only [gthen, gblock]
    refine W_drop [0, 1, 2, 6, 8] [true] ?_
    simp only [push_cast, seval, ↓reduceIte]
    refine W_seqK ?_
    obtain ⟨y4, hy4, h⟩ := bC h
    refine W_regionD tab_ok [] ?_
    simp only [push_cast, seval, ↓reduceIte, cast_lit, hN0, hN]
    refine (ok_ptr_Decode hy4).then ?_
    simp only [push_cast, seval, ↓reduceIte, cast_lit, hN0, hN]
    refine W_drop [0, 1, 2, 6, 10] [true, true] ?_
    simp only [push_cast, seval, ↓reduceIte]
    refine W_seqK ?_
    obtain ⟨y6, hy6, h⟩ := bC h
    refine W_regionD tab_ok [] ?_
    simp only [push_cast, seval, ↓reduceIte, cast_lit, hN0, hN]
    refine (ok_far_target hy6).then ?_
    simp only [push_cast, seval, ↓reduceIte, cast_lit, hN0, hN]
    refine W_drop [6, 7] [true, false] ?_
    simp only [push_cast, seval, ↓reduceIte]
    refine W_ret ?_
    try simp only [gthen, gblock]
    have h := Option.some.inj h; subst h
    refine fin_loc (.inr rfl) hU [.agg [.val (.int .i64 y6.1.P.Kind), .val (.int .i64 y6.1.P.Off), .val (.int .i64 y6.1.P.Data), .val (.int .i64 y6.1.P.Ptrs), .val (.int .i64 y6.1.P.Code), .val (.int .i64 y6.1.P.Count), .val (.int .i64 y6.1.P.Segment), .val (.bool y6.1.P.Double), .val (.int .i64 y6.1.Segment), .val (.int .i64 y6.1.At)], .val (.int .i64 y6.2)] (by omega) ?_
    simp only [push_cast, seval, ↓reduceIte, cast_lit, Try.results73, hN0, hN]
theorem ok_far_Follow {a0 : (Option S_arena_Arena)} {a1 : Int} {a2 : Int} {r : (S_far_Loc × Int)} {O : Objs} {n : Nat} (h : m_far_Follow a0 a1 a2 = some r) : GTo Try.prog 48 [(gP e_S_arena_Arena a0), .val (.int .i64 a1), .val (.int .i64 a2)] O n (.tup [.agg [.val (.int .i64 r.1.P.Kind), .val (.int .i64 r.1.P.Off), .val (.int .i64 r.1.P.Data), .val (.int .i64 r.1.P.Ptrs), .val (.int .i64 r.1.P.Code), .val (.int .i64 r.1.P.Count), .val (.int .i64 r.1.P.Segment), .val (.bool r.1.P.Double), .val (.int .i64 r.1.Segment), .val (.int .i64 r.1.At)], .val (.int .i64 r.2)]) O n := by
  unfold m_far_Follow at h
  refine fn_of tab_ok Try.call48 Try.func48 rfl (Nat.le_of_ble_eq_true rfl) (Nat.le_refl _) fun hU => ?_
  have hN0 : O n = none := hU.fresh _ (Nat.le_refl _)
  have hN : ∀ k, O (n + k) = none := fun k => hU.fresh _ (Nat.le_add_right _ _)
  show W _ _ _ _ ⟨67, [], [(0, (gP e_S_arena_Arena a0)), (1, .val (.int .i64 a1)), (2, .val (.int .i64 a2))]⟩ (Loc O n []) _
  refine W_sq [0, 1, 2, 6] (W_regionD tab_ok [] ?_)
  simp only [push_cast, seval, ↓reduceIte, cast_lit, hN0, hN]
  refine W_seqK ?_
  obtain ⟨y2, hy2, h⟩ := bC h
  refine W_regionD tab_ok [] ?_
  simp only [push_cast, seval, ↓reduceIte, cast_lit, hN0, hN]
  refine (ok_arena_Arena_Get hy2).then ?_
  simp only [push_cast, seval, ↓reduceIte, cast_lit, hN0, hN]
  refine W_drop [0, 1, 2, 6, 8, 9] [true] ?_
  simp only [push_cast, seval, ↓reduceIte]
  refine W_seqK ?_
  refine W_sq [0, 1, 2, 6, 8, 19] (W_regionD tab_ok [] ?_)
  simp only [push_cast, seval, ↓reduceIte, cast_lit, hN0, hN]
  refine W_cond (t := (!y2.2)) rfl (fun c14 => ?_) (fun c14 => ?_)
  · replace h := condT c14 h
    refine W_seqK ?_
    refine W_regionD tab_ok [] ?_
    simp only [push_cast, seval, ↓reduceIte, cast_lit, hN0, hN]
    refine W_drop [6, 7] [true] ?_
    simp only [push_cast, seval, ↓reduceIte]
    refine W_ret ?_
    try simp only [gthen, gblock]
    have h := Option.some.inj h; subst h
    refine fin_loc (.inr rfl) hU [.agg [.val (.int .i64 0), .val (.int .i64 0), .val (.int .i64 0), .val (.int .i64 0), .val (.int .i64 0), .val (.int .i64 0), .val (.int .i64 0), .val (.bool false), .val (.int .i64 0), .val (.int .i64 0)], .val (.int .i64 7)] (by omega) ?_
    simp only [push_cast, seval, ↓reduceIte, cast_lit, Try.results48, hN0, hN]
  · replace h := condF c14 h
    refine W_skip ?_
    try simp only [gthen, gblock]
    refine W_drop [0, 1, 2, 6, 8] [true] ?_
    simp only [push_cast, seval, ↓reduceIte]
    refine W_seqK ?_
    obtain ⟨y4, hy4, h⟩ := bC h
    refine W_regionD tab_ok [] ?_
    simp only [push_cast, seval, ↓reduceIte, cast_lit, hN0, hN]
    refine (ok_ptr_Decode hy4).then ?_
    simp only [push_cast, seval, ↓reduceIte, cast_lit, hN0, hN]
    refine W_drop [0, 1, 2, 6, 10] [true, true] ?_
    simp only [push_cast, seval, ↓reduceIte]
    refine W_seqK ?_
    refine W_block ?_
    refine W_sq [0, 1, 2, 6, 10, 23] (W_regionD tab_ok [] ?_)
    simp only [push_cast, seval, ↓reduceIte, cast_lit, hN0, hN]
    refine W_cond (t := (y4.Kind == 0)) rfl (fun c13 => ?_) (fun c13 => ?_)
    · replace h := condT c13 h
      refine W_seqK ?_
      refine W_regionD tab_ok [] ?_
      simp only [push_cast, seval, ↓reduceIte, cast_lit, hN0, hN]
      refine W_drop [6, 7] [true, false] ?_
      simp only [push_cast, seval, ↓reduceIte]
      refine W_ret ?_
      try simp only [gthen, gblock]
      have h := Option.some.inj h; subst h
      refine fin_loc (.inr rfl) hU [.agg [.val (.int .i64 0), .val (.int .i64 0), .val (.int .i64 0), .val (.int .i64 0), .val (.int .i64 0), .val (.int .i64 0), .val (.int .i64 0), .val (.bool false), .val (.int .i64 0), .val (.int .i64 0)], .val (.int .i64 0)] (by omega) ?_
      simp only [push_cast, seval, ↓reduceIte, cast_lit, Try.results48, hN0, hN]
    · replace h := condF c13 h
      refine W_sq [0, 1, 2, 6, 10, 28] (W_regionD tab_ok [none, none] ?_)
      simp only [push_cast, seval, ↓reduceIte, cast_lit, hN0, hN]
      repeat (with_reducible refine And.intro (by first | (intro h0; simp only [h0, and_self]; done) | (intro h0; simp only [h0, Bool.not_false, Bool.not_true, Bool.true_and, Bool.and_true, true_and, and_true, and_self, imp_self, implies_true, bne_iff_ne, ne_eq, beq_iff_eq]; done) | (intros; simp_all; done) | exact True.intro) ?_)
      refine W_cond (t := (cond (y4.Kind == 3) y4.Double false)) rfl (fun c12 => ?_) (fun c12 => ?_)
      · replace h := condT c12 h
        refine W_seqK ?_
        obtain ⟨y6, hy6, h⟩ := bC h
        refine W_regionD tab_ok [] ?_
        simp only [push_cast, seval, ↓reduceIte, cast_lit, hN0, hN]
        refine (ok_far_double hy6).then ?_
        simp only [push_cast, seval, ↓reduceIte, cast_lit, hN0, hN]
        refine W_drop [6, 7] [true, false] ?_
        simp only [push_cast, seval, ↓reduceIte]
        refine W_ret ?_
        try simp only [gthen, gblock]
        have h := Option.some.inj h; subst h
        refine fin_loc (.inr rfl) hU [.agg [.val (.int .i64 y6.1.P.Kind), .val (.int .i64 y6.1.P.Off), .val (.int .i64 y6.1.P.Data), .val (.int .i64 y6.1.P.Ptrs), .val (.int .i64 y6.1.P.Code), .val (.int .i64 y6.1.P.Count), .val (.int .i64 y6.1.P.Segment), .val (.bool y6.1.P.Double), .val (.int .i64 y6.1.Segment), .val (.int .i64 y6.1.At)], .val (.int .i64 y6.2)] (by omega) ?_
        simp only [push_cast, seval, ↓reduceIte, cast_lit, Try.results48, hN0, hN]
      · replace h := condF c12 h
        refine W_sq [0, 1, 2, 6, 10, 44] (W_regionD tab_ok [] ?_)
        simp only [push_cast, seval, ↓reduceIte, cast_lit, hN0, hN]
        refine W_cond (t := (y4.Kind == 3)) rfl (fun c11 => ?_) (fun c11 => ?_)
        · replace h := condT c11 h
          refine W_seqK ?_
          obtain ⟨y8, hy8, h⟩ := bC h
          refine W_regionD tab_ok [] ?_
          simp only [push_cast, seval, ↓reduceIte, cast_lit, hN0, hN]
          refine (ok_far_single hy8).then ?_
          simp only [push_cast, seval, ↓reduceIte, cast_lit, hN0, hN]
          refine W_drop [6, 7] [true, false] ?_
          simp only [push_cast, seval, ↓reduceIte]
          refine W_ret ?_
          try simp only [gthen, gblock]
          have h := Option.some.inj h; subst h
          refine fin_loc (.inr rfl) hU [.agg [.val (.int .i64 y8.1.P.Kind), .val (.int .i64 y8.1.P.Off), .val (.int .i64 y8.1.P.Data), .val (.int .i64 y8.1.P.Ptrs), .val (.int .i64 y8.1.P.Code), .val (.int .i64 y8.1.P.Count), .val (.int .i64 y8.1.P.Segment), .val (.bool y8.1.P.Double), .val (.int .i64 y8.1.Segment), .val (.int .i64 y8.1.At)], .val (.int .i64 y8.2)] (by omega) ?_
          simp only [push_cast, seval, ↓reduceIte, cast_lit, Try.results48, hN0, hN]
        · replace h := condF c11 h
          refine W_skip ?_
          try simp only [gthen, gblock]
          refine W_drop [0, 1, 2, 6, 10] [true, true] ?_
          simp only [push_cast, seval, ↓reduceIte]
          refine W_seqK ?_
          obtain ⟨y10, hy10, h⟩ := bC h
          refine W_regionD tab_ok [] ?_
          simp only [push_cast, seval, ↓reduceIte, cast_lit, hN0, hN]
          refine (ok_far_target hy10).then ?_
          simp only [push_cast, seval, ↓reduceIte, cast_lit, hN0, hN]
          refine W_drop [6, 7] [true, false] ?_
          simp only [push_cast, seval, ↓reduceIte]
          refine W_ret ?_
          try simp only [gthen, gblock]
          have h := Option.some.inj h; subst h
          refine fin_loc (.inr rfl) hU [.agg [.val (.int .i64 y10.1.P.Kind), .val (.int .i64 y10.1.P.Off), .val (.int .i64 y10.1.P.Data), .val (.int .i64 y10.1.P.Ptrs), .val (.int .i64 y10.1.P.Code), .val (.int .i64 y10.1.P.Count), .val (.int .i64 y10.1.P.Segment), .val (.bool y10.1.P.Double), .val (.int .i64 y10.1.Segment), .val (.int .i64 y10.1.At)], .val (.int .i64 y10.2)] (by omega) ?_
          simp only [push_cast, seval, ↓reduceIte, cast_lit, Try.results48, hN0, hN]
theorem ok_reader_composite {a0 : S_reader_Ref} {r : (S_reader_Ref × Int)} {O : Objs} {n : Nat} (h : m_reader_composite a0 = some r) : GTo Try.prog 49 [.agg (c_S_reader_Ref a0)] O n (.tup [.agg (c_S_reader_Ref r.1), .val (.int .i64 r.2)]) O n := by
  unfold m_reader_composite at h
  refine fn_of tab_ok Try.call49 Try.func49 rfl (Nat.le_of_ble_eq_true rfl) (Nat.le_refl _) fun hU => ?_
  have hN0 : O n = none := hU.fresh _ (Nat.le_refl _)
  have hN : ∀ k, O (n + k) = none := fun k => hU.fresh _ (Nat.le_add_right _ _)
  show W _ _ _ _ ⟨56, [], [(0, .agg (c_S_reader_Ref a0))]⟩ (Loc O n []) _
  refine W_sq [1, 2] (W_regionD tab_ok [] ?_)
  simp only [push_cast, seval, ↓reduceIte, cast_lit, hN0, hN]
  refine W_seqK ?_
  obtain ⟨y2, hy2, h⟩ := bC h
  refine W_regionD tab_ok [] ?_
  simp only [push_cast, seval, ↓reduceIte, cast_lit, hN0, hN]
  refine (ok_arena_Arena_Get hy2).then ?_
  simp only [push_cast, seval, ↓reduceIte, cast_lit, hN0, hN]
  refine W_drop [1, 2, 4] [true, true] ?_
  simp only [push_cast, seval, ↓reduceIte]
  refine W_seqK ?_
  obtain ⟨y4, hy4, h⟩ := bC h
  refine W_regionD tab_ok [] ?_
  simp only [push_cast, seval, ↓reduceIte, cast_lit, hN0, hN]
  refine (ok_ptr_Decode hy4).then ?_
  simp only [push_cast, seval, ↓reduceIte, cast_lit, hN0, hN]
  refine W_drop [1, 2, 6] [true, true, true] ?_
  simp only [push_cast, seval, ↓reduceIte]
  refine W_seqK ?_
  refine W_sq [1, 2, 6, 44] (W_regionD tab_ok [none, none, none, none, none, none, none, none, none, none, none, none, none, none, none, none, none] ?_)
  simp only [push_cast, seval, ↓reduceIte, cast_lit, hN0, hN]
  repeat (with_reducible refine And.intro (by first | (intro h0; simp only [h0, and_self]; done) | (intro h0; simp only [h0, Bool.not_false, Bool.not_true, Bool.true_and, Bool.and_true, true_and, and_true, and_self, imp_self, implies_true, bne_iff_ne, ne_eq, beq_iff_eq]; done) | (intros; simp_all; done) | exact True.intro) ?_)
  refine W_cond (t := (cond (cond (cond (y4.Kind != 0) (y4.Kind != 1) false) true (decide (y4.Off < 0))) true (decide (a0.count < (IntKind.i64.wrap (y4.Off * (IntKind.i64.wrap (y4.Data + y4.Ptrs)))))))) rfl (fun c5 => ?_) (fun c5 => ?_)
  · replace h := condT c5 h
    refine W_seqK ?_
    refine W_regionD tab_ok [] ?_
    simp only [push_cast, seval, ↓reduceIte, cast_lit, hN0, hN]
    refine W_drop [2, 3] [false, true, false] ?_
    simp only [push_cast, seval, ↓reduceIte]
    refine W_ret ?_
    try simp only [gthen, gblock]
    have h := Option.some.inj h; subst h
    refine fin_loc (.inr rfl) hU [.agg [.val (.pointer none), .val (.int .i64 0), .val (.int .i64 0), .val (.int .i64 0), .val (.int .i64 0), .val (.int .i64 0), .val (.int .i64 0), .val (.int .i64 0), .val (.int .i64 0)], .val (.int .i64 8)] (by omega) ?_
    simp only [push_cast, seval, ↓reduceIte, cast_lit, Try.results49, hN0, hN]
  · replace h := condF c5 h
    refine W_skip ?_
    try simp only [gthen, gblock]
    refine W_drop [1, 2, 6] [true, true, true] ?_
    simp only [push_cast, seval, ↓reduceIte]
    refine W_seqK ?_
    refine W_drawY tab_ok (by kernel_rfl) [.plain, .plain, .low, .low, .low, .low, .plain, .pass, .plain, .pass, .plain, .bar] (fun i => i ≠ n + 0) [0, 1, 2, 3, 4, 5, 6, 7, 8, 9, 10, 11] [.plain, .plain, .low, .low, .low, .low, .plain, .pass, .plain, .pass, .plain, .bar] [] (by kernel_rfl) rfl ?_
    simp only [push_cast, seval, ↓reduceIte, cast_lit, hN0, hN]
    repeat (with_reducible refine And.intro (by first | omega | exact agree_loc rfl | exact agree_loc0 | exact agree_ne0 rfl | exact agree_ne rfl rfl) ?_)
    refine W_drop [1, 2] [true, true, false] ?_
    simp only [push_cast, seval, ↓reduceIte]
    refine W_seqK ?_
    refine W_regionD tab_ok [] ?_
    simp only [push_cast, seval, ↓reduceIte, cast_lit, hN0, hN]
    refine W_drop [2, 3] [false, true, false] ?_
    simp only [push_cast, seval, ↓reduceIte]
    refine W_ret ?_
    try simp only [gthen, gblock]
    have h := Option.some.inj h; subst h
    refine fin_loc (.inr rfl) hU [.agg [(gP e_S_arena_Arena a0.a), .val (.int .i64 a0.kind), .val (.int .i64 a0.segment), .val (.int .i64 a0.at_), .val (.int .i64 y4.Data), .val (.int .i64 y4.Ptrs), .val (.int .i64 y4.Off), .val (.int .i64 a0.code), .val (.int .i64 a0.index)], .val (.int .i64 0)] (by omega) ?_
    simp only [push_cast, seval, ↓reduceIte, cast_lit, Try.results49, hN0, hN]
theorem ok_reader_At {a0 : (Option S_arena_Arena)} {a1 : Int} {a2 : Int} {r : (S_reader_Ref × Int)} {O : Objs} {n : Nat} (h : m_reader_At a0 a1 a2 = some r) : GTo Try.prog 16 [(gP e_S_arena_Arena a0), .val (.int .i64 a1), .val (.int .i64 a2)] O n (.tup [.agg (c_S_reader_Ref r.1), .val (.int .i64 r.2)]) O n := by
  unfold m_reader_At at h
  refine fn_of tab_ok Try.call16 Try.func16 rfl (Nat.le_of_ble_eq_true rfl) (Nat.le_refl _) fun hU => ?_
  have hN0 : O n = none := hU.fresh _ (Nat.le_refl _)
  have hN : ∀ k, O (n + k) = none := fun k => hU.fresh _ (Nat.le_add_right _ _)
  show W _ _ _ _ ⟨66, [], [(0, (gP e_S_arena_Arena a0)), (1, .val (.int .i64 a1)), (2, .val (.int .i64 a2))]⟩ (Loc O n []) _
  refine W_sq [0, 1, 2, 6] (W_regionD tab_ok [] ?_)
  simp only [push_cast, seval, ↓reduceIte, cast_lit, hN0, hN]
  refine W_seqK ?_
  obtain ⟨y2, hy2, h⟩ := bC h
  refine W_regionD tab_ok [] ?_
  simp only [push_cast, seval, ↓reduceIte, cast_lit, hN0, hN]
  refine (ok_far_Follow hy2).then ?_
  simp only [push_cast, seval, ↓reduceIte, cast_lit, hN0, hN]
  refine W_drop [0, 6, 8, 9] [true, true] ?_
  simp only [push_cast, seval, ↓reduceIte]
  refine W_seqK ?_
  refine W_sq [0, 6, 8, 9, 25] (W_regionD tab_ok [none, none, none, none] ?_)
  simp only [push_cast, seval, ↓reduceIte, cast_lit, hN0, hN]
  repeat (with_reducible refine And.intro (by first | (intro h0; simp only [h0, and_self]; done) | (intro h0; simp only [h0, Bool.not_false, Bool.not_true, Bool.true_and, Bool.and_true, true_and, and_true, and_self, imp_self, implies_true, bne_iff_ne, ne_eq, beq_iff_eq]; done) | (intros; simp_all; done) | exact True.intro) ?_)
  refine W_cond (t := (cond (y2.2 != 0) true (y2.1.P.Kind == 0))) rfl (fun c7 => ?_) (fun c7 => ?_)
  · replace h := condT c7 h
    refine W_seqK ?_
    refine W_regionD tab_ok [] ?_
    simp only [push_cast, seval, ↓reduceIte, cast_lit, hN0, hN]
    refine W_drop [6, 7] [true, false] ?_
    simp only [push_cast, seval, ↓reduceIte]
    refine W_ret ?_
    try simp only [gthen, gblock]
    have h := Option.some.inj h; subst h
    refine fin_loc (.inr rfl) hU [.agg [.val (.pointer none), .val (.int .i64 0), .val (.int .i64 0), .val (.int .i64 0), .val (.int .i64 0), .val (.int .i64 0), .val (.int .i64 0), .val (.int .i64 0), .val (.int .i64 0)], .val (.int .i64 y2.2)] (by omega) ?_
    simp only [push_cast, seval, ↓reduceIte, cast_lit, Try.results16, hN0, hN]
  · replace h := condF c7 h
    refine W_skip ?_
    try simp only [gthen, gblock]
    refine W_drop [0, 6, 8] [true, true] ?_
    simp only [push_cast, seval, ↓reduceIte]
    refine W_seqK ?_
    refine W_regionD tab_ok [] ?_
    simp only [push_cast, seval, ↓reduceIte, cast_lit, hN0, hN]
    refine W_drop [6, 8, 10] [true, true, true] ?_
    simp only [push_cast, seval, ↓reduceIte]
    refine W_seqK ?_
    refine W_sq [6, 8, 10, 37] (W_regionD tab_ok [] ?_)
    simp only [push_cast, seval, ↓reduceIte, cast_lit, hN0, hN]
    refine W_cond (t := (y2.1.P.Kind == 1)) rfl (fun c6 => ?_) (fun c6 => ?_)
    · replace h := condT c6 h
      refine W_seqK ?_
      refine W_drawY tab_ok (by kernel_rfl) [.low, .low, .low, .low, .low, .low, .plain, .pass, .plain, .pass, .plain, .bar] (fun i => i ≠ n + 2) [0, 1, 2, 3, 4, 5, 6, 7, 8, 9, 10, 11] [.low, .low, .low, .low, .low, .low, .plain, .pass, .plain, .pass, .plain, .bar] [] (by kernel_rfl) rfl ?_
      simp only [push_cast, seval, ↓reduceIte, cast_lit, hN0, hN]
      repeat (with_reducible refine And.intro (by first | omega | exact agree_loc rfl | exact agree_loc0 | exact agree_ne0 rfl | exact agree_ne rfl rfl) ?_)
      refine W_drop [6, 10] [true, false, true] ?_
      simp only [push_cast, seval, ↓reduceIte]
      refine W_seqK ?_
      refine W_regionD tab_ok [] ?_
      simp only [push_cast, seval, ↓reduceIte, cast_lit, hN0, hN]
      refine W_drop [6, 7] [true, false, false] ?_
      simp only [push_cast, seval, ↓reduceIte]
      refine W_ret ?_
      try simp only [gthen, gblock]
      have h := Option.some.inj h; subst h
      refine fin_loc (.inr rfl) hU [.agg [(gP e_S_arena_Arena a0), .val (.int .i64 1), .val (.int .i64 y2.1.Segment), .val (.int .i64 y2.1.At), .val (.int .i64 y2.1.P.Data), .val (.int .i64 y2.1.P.Ptrs), .val (.int .i64 0), .val (.int .i64 0), .val (.int .i64 0)], .val (.int .i64 0)] (by omega) ?_
      simp only [push_cast, seval, ↓reduceIte, cast_lit, Try.results16, hN0, hN]
    · replace h := condF c6 h
      refine W_skip ?_
      try simp only [gthen, gblock]
      refine W_drop [6, 8, 10] [true, true, true] ?_
      simp only [push_cast, seval, ↓reduceIte]
      refine W_seqK ?_
      refine W_drawY tab_ok (by kernel_rfl) [.plain, .plain, .plain, .plain, .low, .low, .low, .plain, .pass, .plain, .bar] (fun i => i ≠ n + 2) [0, 1, 2, 3, 4, 5, 6, 7, 8, 9, 10] [.plain, .plain, .plain, .plain, .low, .low, .low, .plain, .pass, .plain, .bar] [] (by kernel_rfl) rfl ?_
      simp only [push_cast, seval, ↓reduceIte, cast_lit, hN0, hN]
      repeat (with_reducible refine And.intro (by first | omega | exact agree_loc rfl | exact agree_loc0 | exact agree_ne0 rfl | exact agree_ne rfl rfl) ?_)
      refine W_drop [6, 8, 10] [true, true, true] ?_
      simp only [push_cast, seval, ↓reduceIte]
      refine W_seqK ?_
      refine W_sq [6, 10, 60] (W_regionD tab_ok [] ?_)
      simp only [push_cast, seval, ↓reduceIte, cast_lit, hN0, hN]
      refine W_cond (t := (y2.1.P.Code == 7)) rfl (fun c5 => ?_) (fun c5 => ?_)
      · replace h := condT c5 h
        refine W_seqK ?_
        obtain ⟨y4, hy4, h⟩ := bC h
        refine W_regionD tab_ok [] ?_
        simp only [push_cast, seval, ↓reduceIte, cast_lit, hN0, hN]
        refine (ok_reader_composite hy4).then ?_
        simp only [push_cast, seval, ↓reduceIte, cast_lit, hN0, hN]
        refine W_drop [6, 7] [true, false, false] ?_
        simp only [push_cast, seval, ↓reduceIte]
        refine W_ret ?_
        try simp only [gthen, gblock]
        have h := Option.some.inj h; subst h
        refine fin_loc (.inr rfl) hU [.agg (c_S_reader_Ref y4.1), .val (.int .i64 y4.2)] (by omega) ?_
        simp only [push_cast, seval, ↓reduceIte, cast_lit, Try.results16, hN0, hN]
      · replace h := condF c5 h
        refine W_skip ?_
        try simp only [gthen, gblock]
        refine W_drop [6, 10] [true, false, true] ?_
        simp only [push_cast, seval, ↓reduceIte]
        refine W_seqK ?_
        refine W_regionD tab_ok [] ?_
        simp only [push_cast, seval, ↓reduceIte, cast_lit, hN0, hN]
        refine W_drop [6, 7] [true, false, false] ?_
        simp only [push_cast, seval, ↓reduceIte]
        refine W_ret ?_
        try simp only [gthen, gblock]
        have h := Option.some.inj h; subst h
        refine fin_loc (.inr rfl) hU [.agg [(gP e_S_arena_Arena a0), .val (.int .i64 (IntKind.i64.wrap (y2.1.P.Code + 2))), .val (.int .i64 y2.1.Segment), .val (.int .i64 y2.1.At), .val (.int .i64 0), .val (.int .i64 0), .val (.int .i64 y2.1.P.Count), .val (.int .i64 0), .val (.int .i64 0)], .val (.int .i64 0)] (by omega) ?_
        simp only [push_cast, seval, ↓reduceIte, cast_lit, Try.results16, hN0, hN]
theorem ok_reader_Root {a0 : (Option S_arena_Arena)} {r : (S_reader_Ref × Int)} {O : Objs} {n : Nat} (h : m_reader_Root a0 = some r) : GTo Try.prog 24 [(gP e_S_arena_Arena a0)] O n (.tup [.agg (c_S_reader_Ref r.1), .val (.int .i64 r.2)]) O n := by
  unfold m_reader_Root at h
  refine fn_of tab_ok Try.call24 Try.func24 rfl (Nat.le_of_ble_eq_true rfl) (Nat.le_refl _) fun hU => ?_
  have hN0 : O n = none := hU.fresh _ (Nat.le_refl _)
  have hN : ∀ k, O (n + k) = none := fun k => hU.fresh _ (Nat.le_add_right _ _)
  show W _ _ _ _ ⟨8, [], [(0, (gP e_S_arena_Arena a0))]⟩ (Loc O n []) _
  refine W_sq [0, 2] (W_regionD tab_ok [] ?_)
  simp only [push_cast, seval, ↓reduceIte, cast_lit, hN0, hN]
  refine W_seqK ?_
  obtain ⟨y2, hy2, h⟩ := bC h
  refine W_regionD tab_ok [] ?_
  simp only [push_cast, seval, ↓reduceIte, cast_lit, hN0, hN]
  refine (ok_reader_At hy2).then ?_
  simp only [push_cast, seval, ↓reduceIte, cast_lit, hN0, hN]
  refine W_drop [2, 3] [true] ?_
  simp only [push_cast, seval, ↓reduceIte]
  refine W_ret ?_
  try simp only [gthen, gblock]
  have h := Option.some.inj h; subst h
  refine fin_loc (.inr rfl) hU [.agg (c_S_reader_Ref y2.1), .val (.int .i64 y2.2)] (by omega) ?_
  simp only [push_cast, seval, ↓reduceIte, cast_lit, Try.results24, hN0, hN]
theorem ok_reader_Ref_Kind {a0 : S_reader_Ref} {r : Int} {O : Objs} {n : Nat} (h : m_reader_Ref_Kind a0 = some r) : GTo Try.prog 25 [.agg (c_S_reader_Ref a0)] O n (.val (.int .i64 r)) O n := by
  unfold m_reader_Ref_Kind at h
  refine fn_of tab_ok Try.call25 Try.func25 rfl (Nat.le_of_ble_eq_true rfl) (Nat.le_refl _) fun hU => ?_
  have hN0 : O n = none := hU.fresh _ (Nat.le_refl _)
  have hN : ∀ k, O (n + k) = none := fun k => hU.fresh _ (Nat.le_add_right _ _)
  show W _ _ _ _ ⟨5, [], [(0, .agg (c_S_reader_Ref a0))]⟩ (Loc O n []) _
  refine W_sq [1] (W_regionD tab_ok [] ?_)
  simp only [push_cast, seval, ↓reduceIte, cast_lit, hN0, hN]
  refine W_sq [2] (W_regionD tab_ok [] ?_)
  simp only [push_cast, seval, ↓reduceIte, cast_lit, hN0, hN]
  refine W_ret ?_
  try simp only [gthen, gblock]
  have h := Option.some.inj h; subst h
  refine fin_loc (.inr rfl) hU [.val (.int .i64 a0.kind)] (by omega) ?_
  simp only [push_cast, seval, ↓reduceIte, cast_lit, Try.results25, hN0, hN]
theorem ok_reader_Ref_Kids {a0 : S_reader_Ref} {r : Int} {O : Objs} {n : Nat} (h : m_reader_Ref_Kids a0 = some r) : GTo Try.prog 26 [.agg (c_S_reader_Ref a0)] O n (.val (.int .i64 r)) O n := by
  unfold m_reader_Ref_Kids at h
  refine fn_of tab_ok Try.call26 Try.func26 rfl (Nat.le_of_ble_eq_true rfl) (Nat.le_refl _) fun hU => ?_
  have hN0 : O n = none := hU.fresh _ (Nat.le_refl _)
  have hN : ∀ k, O (n + k) = none := fun k => hU.fresh _ (Nat.le_add_right _ _)
  show W _ _ _ _ ⟨10, [], [(0, .agg (c_S_reader_Ref a0))]⟩ (Loc O n []) _
  refine W_sq [1] (W_regionD tab_ok [] ?_)
  simp only [push_cast, seval, ↓reduceIte, cast_lit, hN0, hN]
  refine W_seqK ?_
  refine W_sq [1, 5] (W_regionD tab_ok [] ?_)
  simp only [push_cast, seval, ↓reduceIte, cast_lit, hN0, hN]
  refine W_cond (t := (a0.kind == 1)) rfl (fun c1 => ?_) (fun c1 => ?_)
  · replace h := condT c1 h
    refine W_sq [2] (W_regionD tab_ok [] ?_)
    simp only [push_cast, seval, ↓reduceIte, cast_lit, hN0, hN]
    refine W_ret ?_
    try simp only [gthen, gblock]
    have h := Option.some.inj h; subst h
    refine fin_loc (.inr rfl) hU [.val (.int .i64 a0.ptrs)] (by omega) ?_
    simp only [push_cast, seval, ↓reduceIte, cast_lit, Try.results26, hN0, hN]
  · replace h := condF c1 h
    refine W_skip ?_
    try simp only [gthen, gblock]
    refine W_drop [1] [true] ?_
    simp only [push_cast, seval, ↓reduceIte]
    refine W_sq [2] (W_regionD tab_ok [] ?_)
    simp only [push_cast, seval, ↓reduceIte, cast_lit, hN0, hN]
    refine W_ret ?_
    try simp only [gthen, gblock]
    have h := Option.some.inj h; subst h
    refine fin_loc (.inr rfl) hU [.val (.int .i64 a0.count)] (by omega) ?_
    simp only [push_cast, seval, ↓reduceIte, cast_lit, Try.results26, hN0, hN]
theorem ok_reader_Ref_Kid {a0 : S_reader_Ref} {a1 : Int} {r : (S_reader_Ref × Int)} {O : Objs} {n : Nat} (h : m_reader_Ref_Kid a0 a1 = some r) : GTo Try.prog 20 [.agg (c_S_reader_Ref a0), .val (.int .i64 a1)] O n (.tup [.agg (c_S_reader_Ref r.1), .val (.int .i64 r.2)]) O n := by
  unfold m_reader_Ref_Kid at h
  refine fn_of tab_ok Try.call20 Try.func20 rfl (Nat.le_of_ble_eq_true rfl) (Nat.le_refl _) fun hU => ?_
  have hN0 : O n = none := hU.fresh _ (Nat.le_refl _)
  have hN : ∀ k, O (n + k) = none := fun k => hU.fresh _ (Nat.le_add_right _ _)
  show W _ _ _ _ ⟨81, [], [(0, .agg (c_S_reader_Ref a0)), (1, .val (.int .i64 a1))]⟩ (Loc O n []) _
  refine W_sq [1, 2, 4] (W_regionD tab_ok [] ?_)
  simp only [push_cast, seval, ↓reduceIte, cast_lit, hN0, hN]
  refine W_seqK ?_
  obtain ⟨z2, hz2, h⟩ := bC h
  refine W_seqN (E' := ⟨81, [], [(1, .val (.int .i64 a1)), (2, .ref n 0), (4, .ref (n + 1) 0), (14, .val (.bool z2))]⟩) (O' := (Loc O n [some ⟨false, 27, 9, 1, (c_S_reader_Ref a0)⟩, some ⟨false, 27, 9, 1, [.val (.pointer none), .val (.int .i64 0), .val (.int .i64 0), .val (.int .i64 0), .val (.int .i64 0), .val (.int .i64 0), .val (.int .i64 0), .val (.int .i64 0), .val (.int .i64 0)]⟩])) (n0 := (n + 2)) ?_ ?_
  · rcases Bool.eq_false_or_eq_true (decide (a1 < 0)) with c5 | c5
    · replace hz2 := condT c5 hz2
      refine W_regionD tab_ok [some false, some false, some false, some false] ?_
      simp only [push_cast, seval, ↓reduceIte, cast_lit, c5, hN0, hN]
      have hz2 := Option.some.inj hz2; subst hz2
      refine And.intro rfl (Fit2.of (fit_loc hU rfl rfl ?_) (by omega))
      simp only [push_cast, seval, ↓reduceIte, cast_lit, c5, hN0, hN]
    · replace hz2 := condF c5 hz2
      obtain ⟨y4, hy4, hz2⟩ := bC hz2
      refine W_regionD tab_ok [some true, some true, some true, some true] ?_
      simp only [push_cast, seval, ↓reduceIte, cast_lit, c5, hN0, hN]
      refine (ok_reader_Ref_Kids hy4).then ?_
      simp only [push_cast, seval, ↓reduceIte, cast_lit, c5, hN0, hN]
      have hz2 := Option.some.inj hz2; subst hz2
      refine And.intro rfl (Fit2.of (fit_loc hU rfl rfl ?_) (by omega))
      simp only [push_cast, seval, ↓reduceIte, cast_lit, c5, hN0, hN]
  refine W_cond (t := z2) rfl (fun c13 => ?_) (fun c13 => ?_)
  · replace h := condT c13 h
    refine W_seqK ?_
    refine W_regionD tab_ok [] ?_
    simp only [push_cast, seval, ↓reduceIte, cast_lit, hN0, hN]
    refine W_drop [4, 5] [false, true] ?_
    simp only [push_cast, seval, ↓reduceIte]
    refine W_ret ?_
    try simp only [gthen, gblock]
    have h := Option.some.inj h; subst h
    refine fin_loc (.inr rfl) hU [.agg [.val (.pointer none), .val (.int .i64 0), .val (.int .i64 0), .val (.int .i64 0), .val (.int .i64 0), .val (.int .i64 0), .val (.int .i64 0), .val (.int .i64 0), .val (.int .i64 0)], .val (.int .i64 0)] (by omega) ?_
    simp only [push_cast, seval, ↓reduceIte, cast_lit, Try.results20, hN0, hN]
  · replace h := condF c13 h
    refine W_skip ?_
    try simp only [gthen, gblock]
    refine W_drop [1, 2, 4] [true, true] ?_
    simp only [push_cast, seval, ↓reduceIte]
    refine W_seqK ?_
    refine W_sq [1, 2, 4, 17] (W_regionD tab_ok [] ?_)
    simp only [push_cast, seval, ↓reduceIte, cast_lit, hN0, hN]
    refine W_block ?_
    refine W_sq [1, 2, 4, 17, 18] (W_regionD tab_ok [] ?_)
    simp only [push_cast, seval, ↓reduceIte, cast_lit, hN0, hN]
    refine W_cond (t := (a0.kind == 1)) rfl (fun c12 => ?_) (fun c12 => ?_)
    · replace h := condT c12 h
      refine W_seqK ?_
      obtain ⟨y7, hy7, h⟩ := bC h
      refine W_regionD tab_ok [] ?_
      simp only [push_cast, seval, ↓reduceIte, cast_lit, hN0, hN]
      refine (ok_reader_At hy7).then ?_
      simp only [push_cast, seval, ↓reduceIte, cast_lit, hN0, hN]
      refine W_drop [4, 5] [false, true] ?_
      simp only [push_cast, seval, ↓reduceIte]
      refine W_ret ?_
      try simp only [gthen, gblock]
      have h := Option.some.inj h; subst h
      refine fin_loc (.inr rfl) hU [.agg (c_S_reader_Ref y7.1), .val (.int .i64 y7.2)] (by omega) ?_
      simp only [push_cast, seval, ↓reduceIte, cast_lit, Try.results20, hN0, hN]
    · replace h := condF c12 h
      refine W_sq [1, 2, 4, 17, 34] (W_regionD tab_ok [] ?_)
      simp only [push_cast, seval, ↓reduceIte, cast_lit, hN0, hN]
      refine W_cond (t := (a0.kind == 8)) rfl (fun c11 => ?_) (fun c11 => ?_)
      · replace h := condT c11 h
        refine W_seqK ?_
        obtain ⟨y9, hy9, h⟩ := bC h
        refine W_regionD tab_ok [] ?_
        simp only [push_cast, seval, ↓reduceIte, cast_lit, hN0, hN]
        refine (ok_reader_At hy9).then ?_
        simp only [push_cast, seval, ↓reduceIte, cast_lit, hN0, hN]
        refine W_drop [4, 5] [false, true] ?_
        simp only [push_cast, seval, ↓reduceIte]
        refine W_ret ?_
        try simp only [gthen, gblock]
        have h := Option.some.inj h; subst h
        refine fin_loc (.inr rfl) hU [.agg (c_S_reader_Ref y9.1), .val (.int .i64 y9.2)] (by omega) ?_
        simp only [push_cast, seval, ↓reduceIte, cast_lit, Try.results20, hN0, hN]
      · replace h := condF c11 h
        refine W_sq [1, 2, 4, 47] (W_regionD tab_ok [] ?_)
        simp only [push_cast, seval, ↓reduceIte, cast_lit, hN0, hN]
        refine W_cond (t := (a0.kind == 9)) rfl (fun c10 => ?_) (fun c10 => ?_)
        · replace h := condT c10 h
          refine W_sq [2, 4, 6] (W_regionD tab_ok [] ?_)
          simp only [push_cast, seval, ↓reduceIte, cast_lit, hN0, hN]
          refine W_seqK ?_
          refine W_regionD tab_ok [] ?_
          simp only [push_cast, seval, ↓reduceIte, cast_lit, hN0, hN]
          refine W_drop [4, 5] [false, true] ?_
          simp only [push_cast, seval, ↓reduceIte]
          refine W_ret ?_
          try simp only [gthen, gblock]
          have h := Option.some.inj h; subst h
          refine fin_loc (.inr rfl) hU [.agg [(gP e_S_arena_Arena a0.a), .val (.int .i64 1), .val (.int .i64 a0.segment), .val (.int .i64 (IntKind.i64.wrap ((IntKind.i64.wrap (a0.at_ + 1)) + (IntKind.i64.wrap (a1 * (IntKind.i64.wrap (a0.words + a0.ptrs))))))), .val (.int .i64 a0.words), .val (.int .i64 a0.ptrs), .val (.int .i64 0), .val (.int .i64 0), .val (.int .i64 0)], .val (.int .i64 0)] (by omega) ?_
          simp only [push_cast, seval, ↓reduceIte, cast_lit, Try.results20, hN0, hN]
        · replace h := condF c10 h
          refine W_skip ?_
          try simp only [gthen, gblock]
          refine W_drop [1, 2, 4] [true, true] ?_
          simp only [push_cast, seval, ↓reduceIte]
          refine W_seqK ?_
          refine W_regionD tab_ok [] ?_
          simp only [push_cast, seval, ↓reduceIte, cast_lit, hN0, hN]
          refine W_drop [4, 5] [false, true] ?_
          simp only [push_cast, seval, ↓reduceIte]
          refine W_ret ?_
          try simp only [gthen, gblock]
          have h := Option.some.inj h; subst h
          refine fin_loc (.inr rfl) hU [.agg [(gP e_S_arena_Arena a0.a), .val (.int .i64 10), .val (.int .i64 a0.segment), .val (.int .i64 a0.at_), .val (.int .i64 0), .val (.int .i64 0), .val (.int .i64 0), .val (.int .i64 (IntKind.i64.wrap (a0.kind - 2))), .val (.int .i64 a1)], .val (.int .i64 0)] (by omega) ?_
          simp only [push_cast, seval, ↓reduceIte, cast_lit, Try.results20, hN0, hN]
theorem ok_reader_Ref_Words {a0 : S_reader_Ref} {r : Int} {O : Objs} {n : Nat} (h : m_reader_Ref_Words a0 = some r) : GTo Try.prog 53 [.agg (c_S_reader_Ref a0)] O n (.val (.int .i64 r)) O n := by
  unfold m_reader_Ref_Words at h
  refine fn_of tab_ok Try.call53 Try.func53 rfl (Nat.le_of_ble_eq_true rfl) (Nat.le_refl _) fun hU => ?_
  have hN0 : O n = none := hU.fresh _ (Nat.le_refl _)
  have hN : ∀ k, O (n + k) = none := fun k => hU.fresh _ (Nat.le_add_right _ _)
  show W _ _ _ _ ⟨11, [], [(0, .agg (c_S_reader_Ref a0))]⟩ (Loc O n []) _
  refine W_sq [1] (W_regionD tab_ok [] ?_)
  simp only [push_cast, seval, ↓reduceIte, cast_lit, hN0, hN]
  refine W_seqK ?_
  refine W_sq [1, 4] (W_regionD tab_ok [] ?_)
  simp only [push_cast, seval, ↓reduceIte, cast_lit, hN0, hN]
  refine W_block ?_
  refine W_sq [1, 4, 5] (W_regionD tab_ok [] ?_)
  simp only [push_cast, seval, ↓reduceIte, cast_lit, hN0, hN]
  refine W_cond (t := (a0.kind == 1)) rfl (fun c2 => ?_) (fun c2 => ?_)
  · replace h := condT c2 h
    refine W_sq [2] (W_regionD tab_ok [] ?_)
    simp only [push_cast, seval, ↓reduceIte, cast_lit, hN0, hN]
    refine W_ret ?_
    try simp only [gthen, gblock]
    have h := Option.some.inj h; subst h
    refine fin_loc (.inr rfl) hU [.val (.int .i64 a0.words)] (by omega) ?_
    simp only [push_cast, seval, ↓reduceIte, cast_lit, Try.results53, hN0, hN]
  · replace h := condF c2 h
    refine W_sq [9] (W_regionD tab_ok [] ?_)
    simp only [push_cast, seval, ↓reduceIte, cast_lit, hN0, hN]
    refine W_cond (t := (a0.kind == 10)) rfl (fun c1 => ?_) (fun c1 => ?_)
    · replace h := condT c1 h
      refine W_sq [2] (W_regionD tab_ok [] ?_)
      simp only [push_cast, seval, ↓reduceIte, cast_lit, hN0, hN]
      refine W_ret ?_
      try simp only [gthen, gblock]
      have h := Option.some.inj h; subst h
      refine fin_loc (.inr rfl) hU [.val (.int .i64 1)] (by omega) ?_
      simp only [push_cast, seval, ↓reduceIte, cast_lit, Try.results53, hN0, hN]
    · replace h := condF c1 h
      refine W_skip ?_
      try simp only [gthen, gblock]
      refine W_drop [] [false] ?_
      simp only [push_cast, seval, ↓reduceIte]
      refine W_sq [2] (W_regionD tab_ok [] ?_)
      simp only [push_cast, seval, ↓reduceIte, cast_lit, hN0, hN]
      refine W_ret ?_
      try simp only [gthen, gblock]
      have h := Option.some.inj h; subst h
      refine fin_loc (.inr rfl) hU [.val (.int .i64 0)] (by omega) ?_
      simp only [push_cast, seval, ↓reduceIte, cast_lit, Try.results53, hN0, hN]
theorem ok_word_Width {a0 : Int} {r : (Int × Bool)} {O : Objs} {n : Nat} (h : m_word_Width a0 = some r) : GTo Try.prog 80 [.val (.int .i64 a0)] O n (.tup [.val (.int .i64 r.1), .val (.bool r.2)]) O n := by
  unfold m_word_Width at h
  refine fn_of tab_ok Try.call80 Try.func80 rfl (Nat.le_of_ble_eq_true rfl) (Nat.le_refl _) fun hU => ?_
  have hN0 : O n = none := hU.fresh _ (Nat.le_refl _)
  have hN : ∀ k, O (n + k) = none := fun k => hU.fresh _ (Nat.le_add_right _ _)
  show W _ _ _ _ ⟨15, [], [(0, .val (.int .i64 a0))]⟩ (Loc O n []) _
  refine W_sq [0] (W_regionD tab_ok [] ?_)
  simp only [push_cast, seval, ↓reduceIte, cast_lit, hN0, hN]
  refine W_seqK ?_
  obtain ⟨y6, hy6, ey6, h⟩ := bY (f := (eI .i64)) (cs := [.val (.int .i64 0), .val (.int .i64 1), .val (.int .i64 8), .val (.int .i64 16), .val (.int .i64 32), .val (.int .i64 64)]) rfl h
  have g7 := congrArg G.agg ey6
  obtain ⟨y8, hy8, ey8, h⟩ := bY (f := (eI .i64)) (cs := [.val (.int .i64 0), .val (.int .i64 0), .val (.int .i64 0), .val (.int .i64 0), .val (.int .i64 0), .val (.int .i64 0)]) rfl h
  have g9 := congrArg (GObj.mk false 138 6 1) ey8
  have g10 := gplace_arr (f := (eI .i64)) y8 y6 (fun _ => rfl)
  refine W_regionD tab_ok [] ?_
  simp only [push_cast, seval, ↓reduceIte, cast_lit, g7, g9, g10, hN0, hN]
  refine W_drop [0, 4] [true] ?_
  simp only [push_cast, seval, ↓reduceIte]
  refine W_seqK ?_
  refine W_sq [0, 4, 11] (W_regionD tab_ok [none, none] ?_)
  simp only [push_cast, seval, ↓reduceIte, cast_lit, hN0, hN]
  repeat (with_reducible refine And.intro (by first | (intro h0; simp only [h0, and_self]; done) | (intro h0; simp only [h0, Bool.not_false, Bool.not_true, Bool.true_and, Bool.and_true, true_and, and_true, and_self, imp_self, implies_true, bne_iff_ne, ne_eq, beq_iff_eq]; done) | (intros; simp_all; done) | exact True.intro) ?_)
  refine W_cond (t := (cond (decide (a0 < 0)) true (decide (6 ≤ a0)))) rfl (fun c13 => ?_) (fun c13 => ?_)
  · replace h := condT c13 h
    refine W_sq [2, 3] (W_regionD tab_ok [] ?_)
    simp only [push_cast, seval, ↓reduceIte, cast_lit, hN0, hN]
    refine W_ret ?_
    try simp only [gthen, gblock]
    have h := Option.some.inj h; subst h
    refine fin_loc (.inr rfl) hU [.val (.int .i64 0), .val (.bool false)] (by omega) ?_
    simp only [push_cast, seval, ↓reduceIte, cast_lit, Try.results80, hN0, hN]
  · replace h := condF c13 h
    refine W_skip ?_
    try simp only [gthen, gblock]
    refine W_drop [0, 4] [true] ?_
    simp only [push_cast, seval, ↓reduceIte]
    obtain ⟨x12, hx12, ax12, bx12, cx12, h⟩ := bEA (f := (eI .i64)) (b := 6) rfl tab3 (fun _ => rfl) (by decide) h
    refine W_sq [2, 3] (W_regionD tab_ok [] ?_)
    simp only [push_cast, Nat.reduceAdd, Nat.reduceSub, Nat.reduceMul, Nat.reduceLeDiff, Nat.reduceLT, Nat.reduceEqDiff, ↓reduceIte, reduceCtorEq, Int.reduceBEq, Int.reduceBNe, Nat.reduceBEq, Int.reduceLE, Int.reduceLT, Int.reduceEq, Int.reduceNe, Int.reduceNeg, Nat.reduceDiv, Nat.reduceMod, Nat.reducePow, cast_lit, ax12, bx12, cx12, hN0, hN]
    refine W_ret ?_
    try simp only [gthen, gblock]
    have h := Option.some.inj h; subst h
    refine fin_loc (.inr rfl) hU [.val (.int .i64 x12), .val (.bool true)] (by omega) ?_
    simp only [push_cast, seval, ↓reduceIte, cast_lit, Try.results80, hN0, hN]
theorem ok_word_Get {a0 : (List Int)} {a1 : Int} {a2 : Int} {r : Int} {O : Objs} {n : Nat} (h : m_word_Get a0 a1 a2 = some r) : GTo Try.prog 81 [.sl a0.length (fl (eI .u64) a0), .val (.int .i64 a1), .val (.int .i64 a2)] O n (.val (.int .u64 r)) O n := by
  unfold m_word_Get at h
  refine fn_of tab_ok Try.call81 Try.func81 rfl (Nat.le_of_ble_eq_true rfl) (Nat.le_refl _) fun hU => ?_
  have hN0 : O n = none := hU.fresh _ (Nat.le_refl _)
  have hN : ∀ k, O (n + k) = none := fun k => hU.fresh _ (Nat.le_add_right _ _)
  show W _ _ _ _ ⟨45, [], [(0, .sl a0.length (fl (eI .u64) a0)), (1, .val (.int .i64 a1)), (2, .val (.int .i64 a2))]⟩ (Loc O n []) _
  refine W_sq [0, 1, 2] (W_regionD tab_ok [] ?_)
  simp only [push_cast, seval, ↓reduceIte, cast_lit, hN0, hN]
  refine W_seqK ?_
  obtain ⟨y2, hy2, h⟩ := bC h
  refine W_regionD tab_ok [] ?_
  simp only [push_cast, seval, ↓reduceIte, cast_lit, hN0, hN]
  refine (ok_word_Width hy2).then ?_
  simp only [push_cast, seval, ↓reduceIte, cast_lit, hN0, hN]
  refine W_drop [0, 2, 7] [] ?_
  simp only [push_cast, seval, ↓reduceIte]
  refine W_seqK ?_
  refine W_sq [0, 2, 7, 20] (W_regionD tab_ok [none, none] ?_)
  simp only [push_cast, seval, ↓reduceIte, cast_lit, hN0, hN]
  repeat (with_reducible refine And.intro (by first | (intro h0; simp only [h0, and_self]; done) | (intro h0; simp only [h0, Bool.not_false, Bool.not_true, Bool.true_and, Bool.and_true, true_and, and_true, and_self, imp_self, implies_true, bne_iff_ne, ne_eq, beq_iff_eq]; done) | (intros; simp_all; done) | exact True.intro) ?_)
  refine W_cond (t := (cond (y2.1 == 0) true (decide (a2 < 0)))) rfl (fun c18 => ?_) (fun c18 => ?_)
  · replace h := condT c18 h
    refine W_sq [6] (W_regionD tab_ok [] ?_)
    simp only [push_cast, seval, ↓reduceIte, cast_lit, hN0, hN]
    refine W_ret ?_
    try simp only [gthen, gblock]
    have h := Option.some.inj h; subst h
    refine fin_loc (.inr rfl) hU [.val (.int .u64 0)] (by omega) ?_
    simp only [push_cast, seval, ↓reduceIte, cast_lit, Try.results81, hN0, hN]
  · replace h := condF c18 h
    refine W_skip ?_
    try simp only [gthen, gblock]
    refine W_drop [0, 2, 7] [] ?_
    simp only [push_cast, seval, ↓reduceIte]
    obtain ⟨pu4, h⟩ := bG h
    refine W_sq [0, 2, 7, 9] (W_regionD tab_ok [] ?_)
    simp only [push_cast, seval, ↓reduceIte, cast_lit, pu4, hN0, hN]
    refine W_seqK ?_
    obtain ⟨pu6, h⟩ := bG h
    refine W_sq [0, 2, 7, 9, 28] (W_regionD tab_ok [] ?_)
    simp only [push_cast, seval, ↓reduceIte, cast_lit, pu6, hN0, hN]
    refine W_cond (t := (decide ((a0.length : Int) ≤ (IntKind.i64.wrap (Int.tdiv a2 (IntKind.i64.wrap (Int.tdiv 64 y2.1))))))) rfl (fun c17 => ?_) (fun c17 => ?_)
    · replace h := condT c17 h
      refine W_sq [6] (W_regionD tab_ok [] ?_)
      simp only [push_cast, seval, ↓reduceIte, cast_lit, hN0, hN]
      refine W_ret ?_
      try simp only [gthen, gblock]
      have h := Option.some.inj h; subst h
      refine fin_loc (.inr rfl) hU [.val (.int .u64 0)] (by omega) ?_
      simp only [push_cast, seval, ↓reduceIte, cast_lit, Try.results81, hN0, hN]
    · replace h := condF c17 h
      refine W_skip ?_
      try simp only [gthen, gblock]
      refine W_drop [0, 2, 7, 9] [] ?_
      simp only [push_cast, seval, ↓reduceIte]
      obtain ⟨pu12, h⟩ := bG h
      obtain ⟨x13, hx13, ax13, bx13, cx13, h⟩ := bE (f := (eI .u64)) tab31 (fun _ => rfl) (by decide) h
      obtain ⟨pu14, h⟩ := bG h
      obtain ⟨pu15, h⟩ := bG h
      obtain ⟨pu16, h⟩ := bG h
      refine W_sq [6] (W_drawD tab_ok (by kernel_rfl) [] (by kernel_rfl) ?_)
      simp only [push_cast, Nat.reduceAdd, Nat.reduceSub, Nat.reduceMul, Nat.reduceLeDiff, Nat.reduceLT, Nat.reduceEqDiff, ↓reduceIte, reduceCtorEq, Int.reduceBEq, Int.reduceBNe, Nat.reduceBEq, Int.reduceLE, Int.reduceLT, Int.reduceEq, Int.reduceNe, Int.reduceNeg, Nat.reduceDiv, Nat.reduceMod, Nat.reducePow, cast_lit, pu12, ax13, bx13, cx13, pu14, pu15, pu16, hN0, hN]
      refine W_ret ?_
      try simp only [gthen, gblock]
      have h := Option.some.inj h; subst h
      refine fin_loc (.inr rfl) hU [.val (.int .u64 (IntKind.u64.wrap (landI .u64 (Int.fdiv x13 (2 ^ min (Int.toNat (IntKind.i64.wrap ((Int.tmod a2 (IntKind.i64.wrap (Int.tdiv 64 y2.1))) * y2.1))) 64)) (IntKind.u64.wrap ((IntKind.u64.wrap (1 * 2 ^ min (Int.toNat y2.1) 64)) - 1)))))] (by omega) ?_
      simp only [push_cast, seval, ↓reduceIte, cast_lit, Try.results81, hN0, hN]
theorem ok_reader_Ref_number {a0 : S_reader_Ref} {r : Int} {O : Objs} {n : Nat} (h : m_reader_Ref_number a0 = some r) : GTo Try.prog 59 [.agg (c_S_reader_Ref a0)] O n (.val (.int .u64 r)) O n := by
  unfold m_reader_Ref_number at h
  refine fn_of tab_ok Try.call59 Try.func59 rfl (Nat.le_of_ble_eq_true rfl) (Nat.le_refl _) fun hU => ?_
  have hN0 : O n = none := hU.fresh _ (Nat.le_refl _)
  have hN : ∀ k, O (n + k) = none := fun k => hU.fresh _ (Nat.le_add_right _ _)
  show W _ _ _ _ ⟨42, [], [(0, .agg (c_S_reader_Ref a0))]⟩ (Loc O n []) _
  refine W_sq [1] (W_regionD tab_ok [] ?_)
  simp only [push_cast, seval, ↓reduceIte, cast_lit, hN0, hN]
  refine W_seqK ?_
  obtain ⟨y2, hy2, h⟩ := bC h
  refine W_regionD tab_ok [] ?_
  simp only [push_cast, seval, ↓reduceIte, cast_lit, hN0, hN]
  refine (ok_word_Width hy2).then ?_
  simp only [push_cast, seval, ↓reduceIte, cast_lit, hN0, hN]
  refine W_drop [1, 3] [true] ?_
  simp only [push_cast, seval, ↓reduceIte]
  refine W_seqK ?_
  refine W_sq [1, 3, 15] (W_regionD tab_ok [] ?_)
  simp only [push_cast, seval, ↓reduceIte, cast_lit, hN0, hN]
  refine W_cond (t := (y2.1 == 0)) rfl (fun c13 => ?_) (fun c13 => ?_)
  · replace h := condT c13 h
    refine W_sq [2] (W_regionD tab_ok [] ?_)
    simp only [push_cast, seval, ↓reduceIte, cast_lit, hN0, hN]
    refine W_ret ?_
    try simp only [gthen, gblock]
    have h := Option.some.inj h; subst h
    refine fin_loc (.inr rfl) hU [.val (.int .u64 0)] (by omega) ?_
    simp only [push_cast, seval, ↓reduceIte, cast_lit, Try.results59, hN0, hN]
  · replace h := condF c13 h
    refine W_skip ?_
    try simp only [gthen, gblock]
    refine W_drop [1, 3] [true] ?_
    simp only [push_cast, seval, ↓reduceIte]
    obtain ⟨pu4, h⟩ := bG h
    refine W_sq [1, 5] (W_regionD tab_ok [] ?_)
    simp only [push_cast, seval, ↓reduceIte, cast_lit, pu4, hN0, hN]
    refine W_seqK ?_
    obtain ⟨pu7, h⟩ := bG h
    obtain ⟨y8, hy8, h⟩ := bC h
    refine W_drawD tab_ok (by kernel_rfl) [] (by kernel_rfl) ?_
    simp only [push_cast, seval, ↓reduceIte, cast_lit, pu7, hN0, hN]
    refine PCall.of (ok_arena_Arena_Get hy8) ?_
    simp only [push_cast, seval, ↓reduceIte, cast_lit, pu7, hN0, hN]
    refine W_drop [1, 5, 6] [true] ?_
    simp only [push_cast, seval, ↓reduceIte]
    refine W_seqK ?_
    obtain ⟨pu11, h⟩ := bG h
    obtain ⟨y12, hy12, h⟩ := bC h
    refine W_drawY tab_ok (by kernel_rfl) [.plain, .pass, .low, .low, .low, .low, .low, .low, .bar, .plain] (fun i => i < (n + 1)) [0, 2, 3, 4, 5, 6, 7, 1, 8, 9] [.plain, .low, .low, .low, .low, .low, .low, .pass, .bar, .plain] [] (by kernel_rfl) rfl ?_
    simp only [push_cast, seval, ↓reduceIte, cast_lit, pu11, hN0, hN]
    repeat (with_reducible refine And.intro (by first | omega | exact agree_loc rfl | exact agree_loc0 | exact agree_ne0 rfl | exact agree_ne rfl rfl) ?_)
    refine GCalls.lend (ok_word_Get hy12) rfl ?_ ?_
    · simp only [push_cast, seval, ↓reduceIte, cast_lit, pu11, hN0, hN]
    simp only [push_cast, seval, ↓reduceIte, cast_lit, pu11, hN0, hN]
    repeat (with_reducible refine And.intro (by first | omega | exact agree_loc rfl | exact agree_loc0 | exact agree_ne0 rfl | exact agree_ne rfl rfl) ?_)
    refine W_fit ⟨42, [], [(2, .val (.int .u64 y12))]⟩ (Loc O n [none, none]) (fit_loc hU rfl rfl ?_) ?_
    · simp only [push_cast, seval, ↓reduceIte, cast_lit, pu11, hN0, hN]
    refine W_ret ?_
    try simp only [gthen, gblock]
    have h := Option.some.inj h; subst h
    refine fin_loc (.inr rfl) hU [.val (.int .u64 y12)] (by omega) ?_
    simp only [push_cast, seval, ↓reduceIte, cast_lit, Try.results59, hN0, hN]
theorem ok_reader_Ref_Word {a0 : S_reader_Ref} {a1 : Int} {r : Int} {O : Objs} {n : Nat} (h : m_reader_Ref_Word a0 a1 = some r) : GTo Try.prog 27 [.agg (c_S_reader_Ref a0), .val (.int .i64 a1)] O n (.val (.int .u64 r)) O n := by
  unfold m_reader_Ref_Word at h
  refine fn_of tab_ok Try.call27 Try.func27 rfl (Nat.le_of_ble_eq_true rfl) (Nat.le_refl _) fun hU => ?_
  have hN0 : O n = none := hU.fresh _ (Nat.le_refl _)
  have hN : ∀ k, O (n + k) = none := fun k => hU.fresh _ (Nat.le_add_right _ _)
  show W _ _ _ _ ⟨33, [], [(0, .agg (c_S_reader_Ref a0)), (1, .val (.int .i64 a1))]⟩ (Loc O n []) _
  refine W_sq [1, 2] (W_regionD tab_ok [] ?_)
  simp only [push_cast, seval, ↓reduceIte, cast_lit, hN0, hN]
  refine W_seqK ?_
  obtain ⟨z2, hz2, h⟩ := bC h
  refine W_seqN (E' := ⟨33, [], [(1, .val (.int .i64 a1)), (2, .ref n 0), (14, .val (.bool z2))]⟩) (O' := (Loc O n [some ⟨false, 27, 9, 1, (c_S_reader_Ref a0)⟩])) (n0 := (n + 1)) ?_ ?_
  · rcases Bool.eq_false_or_eq_true (decide (a1 < 0)) with c5 | c5
    · replace hz2 := condT c5 hz2
      refine W_regionD tab_ok [some false, some false, some false, some false] ?_
      simp only [push_cast, seval, ↓reduceIte, cast_lit, c5, hN0, hN]
      have hz2 := Option.some.inj hz2; subst hz2
      refine And.intro rfl (Fit2.of (fit_loc hU rfl rfl ?_) (by omega))
      simp only [push_cast, seval, ↓reduceIte, cast_lit, c5, hN0, hN]
    · replace hz2 := condF c5 hz2
      obtain ⟨y4, hy4, hz2⟩ := bC hz2
      refine W_regionD tab_ok [some true, some true, some true, some true] ?_
      simp only [push_cast, seval, ↓reduceIte, cast_lit, c5, hN0, hN]
      refine (ok_reader_Ref_Words hy4).then ?_
      simp only [push_cast, seval, ↓reduceIte, cast_lit, c5, hN0, hN]
      have hz2 := Option.some.inj hz2; subst hz2
      refine And.intro rfl (Fit2.of (fit_loc hU rfl rfl ?_) (by omega))
      simp only [push_cast, seval, ↓reduceIte, cast_lit, c5, hN0, hN]
  refine W_cond (t := z2) rfl (fun c11 => ?_) (fun c11 => ?_)
  · replace h := condT c11 h
    refine W_sq [4] (W_regionD tab_ok [] ?_)
    simp only [push_cast, seval, ↓reduceIte, cast_lit, hN0, hN]
    refine W_ret ?_
    try simp only [gthen, gblock]
    have h := Option.some.inj h; subst h
    refine fin_loc (.inr rfl) hU [.val (.int .u64 0)] (by omega) ?_
    simp only [push_cast, seval, ↓reduceIte, cast_lit, Try.results27, hN0, hN]
  · replace h := condF c11 h
    refine W_skip ?_
    try simp only [gthen, gblock]
    refine W_drop [1, 2] [true] ?_
    simp only [push_cast, seval, ↓reduceIte]
    refine W_seqK ?_
    refine W_sq [1, 2, 17] (W_regionD tab_ok [] ?_)
    simp only [push_cast, seval, ↓reduceIte, cast_lit, hN0, hN]
    refine W_cond (t := (a0.kind == 10)) rfl (fun c10 => ?_) (fun c10 => ?_)
    · replace h := condT c10 h
      refine W_seqK ?_
      obtain ⟨y7, hy7, h⟩ := bC h
      refine W_regionD tab_ok [] ?_
      simp only [push_cast, seval, ↓reduceIte, cast_lit, hN0, hN]
      refine (ok_reader_Ref_number hy7).then ?_
      simp only [push_cast, seval, ↓reduceIte, cast_lit, hN0, hN]
      refine W_drop [4] [false] ?_
      simp only [push_cast, seval, ↓reduceIte]
      refine W_ret ?_
      try simp only [gthen, gblock]
      have h := Option.some.inj h; subst h
      refine fin_loc (.inr rfl) hU [.val (.int .u64 y7)] (by omega) ?_
      simp only [push_cast, seval, ↓reduceIte, cast_lit, Try.results27, hN0, hN]
    · replace h := condF c10 h
      refine W_skip ?_
      try simp only [gthen, gblock]
      refine W_drop [1, 2] [true] ?_
      simp only [push_cast, seval, ↓reduceIte]
      refine W_seqK ?_
      obtain ⟨y9, hy9, h⟩ := bC h
      refine W_regionD tab_ok [] ?_
      simp only [push_cast, seval, ↓reduceIte, cast_lit, hN0, hN]
      refine (ok_arena_Arena_Get hy9).then ?_
      simp only [push_cast, seval, ↓reduceIte, cast_lit, hN0, hN]
      refine W_drop [5] [false] ?_
      simp only [push_cast, seval, ↓reduceIte]
      refine W_sq [4] (W_regionD tab_ok [] ?_)
      simp only [push_cast, seval, ↓reduceIte, cast_lit, hN0, hN]
      refine W_ret ?_
      try simp only [gthen, gblock]
      have h := Option.some.inj h; subst h
      refine fin_loc (.inr rfl) hU [.val (.int .u64 y9.1)] (by omega) ?_
      simp only [push_cast, seval, ↓reduceIte, cast_lit, Try.results27, hN0, hN]
theorem ok_arena_Arena_Segments {a0 : (Option S_arena_Arena)} {r : (List (List Int))} {O : Objs} {n : Nat} (h : m_arena_Arena_Segments a0 = some r) : GTo Try.prog 29 [(gP e_S_arena_Arena a0)] O n (.sl r.length (fl (eL (eI .u64)) r)) O n := by
  unfold m_arena_Arena_Segments at h
  refine fn_of tab_ok Try.call29 Try.func29 rfl (Nat.le_of_ble_eq_true rfl) (Nat.le_refl _) fun hU => ?_
  have hN0 : O n = none := hU.fresh _ (Nat.le_refl _)
  have hN : ∀ k, O (n + k) = none := fun k => hU.fresh _ (Nat.le_add_right _ _)
  show W _ _ _ _ ⟨10, [], [(0, (gP e_S_arena_Arena a0))]⟩ (Loc O n []) _
  refine W_sq [0] (W_regionD tab_ok [] ?_)
  simp only [push_cast, seval, ↓reduceIte, cast_lit, hN0, hN]
  refine W_seqK ?_
  have g2 := gbin_gP_eql (f := e_S_arena_Arena) (t := 24) tkind24 a0
  refine W_sq [0, 4] (W_regionD tab_ok [] ?_)
  simp only [push_cast, seval, ↓reduceIte, cast_lit, g2, hN0, hN]
  refine W_cond (t := (Option.isNone a0)) rfl (fun c7 => ?_) (fun c7 => ?_)
  · replace h := condT c7 h
    refine W_sq [2] (W_regionD tab_ok [] ?_)
    simp only [push_cast, seval, ↓reduceIte, cast_lit, hN0, hN]
    refine W_ret ?_
    try simp only [gthen, gblock]
    have h := Option.some.inj h; subst h
    refine fin_loc (.inr rfl) hU [.val (.slice none 0 0)] (by omega) ?_
    simp only [push_cast, seval, ↓reduceIte, cast_lit, Try.results29, hN0, hN]
  · replace h := condF c7 h
    refine W_skip ?_
    try simp only [gthen, gblock]
    refine W_drop [0] [] ?_
    simp only [push_cast, seval, ↓reduceIte]
    refine W_seqK ?_
    obtain ⟨x5, hx5, h⟩ := bC h
    obtain ⟨y6, hy6, h⟩ := bC h
    refine W_regionD tab_ok [] ?_
    simp only [push_cast, seval, ↓reduceIte, cast_lit, hx5, hN0, hN]
    refine (ok_arena_clone hy6).then ?_
    simp only [push_cast, seval, ↓reduceIte, cast_lit, hx5, hN0, hN]
    refine W_drop [2] [] ?_
    simp only [push_cast, seval, ↓reduceIte]
    refine W_ret ?_
    try simp only [gthen, gblock]
    have h := Option.some.inj h; subst h
    refine fin_loc (.inr rfl) hU [.sl y6.length (fl (eL (eI .u64)) y6)] (by omega) ?_
    simp only [push_cast, seval, ↓reduceIte, cast_lit, Try.results29, hN0, hN]
theorem ok_centoref01_Same {a0 : (List Int)} {a1 : (List Int)} {r : Bool} {O : Objs} {n : Nat} (h : m_centoref01_Same a0 a1 = some r) : GTo Try.prog 61 [.sl a0.length (fl (eI .u64) a0), .sl a1.length (fl (eI .u64) a1)] O n (.val (.bool r)) O n := by
  unfold m_centoref01_Same at h
  refine fn_of tab_ok Try.call61 Try.func61 rfl (Nat.le_of_ble_eq_true rfl) (Nat.le_refl _) fun hU => ?_
  have hN0 : O n = none := hU.fresh _ (Nat.le_refl _)
  have hN : ∀ k, O (n + k) = none := fun k => hU.fresh _ (Nat.le_add_right _ _)
  show W _ _ _ _ ⟨26, [], [(0, .sl a0.length (fl (eI .u64) a0)), (1, .sl a1.length (fl (eI .u64) a1))]⟩ (Loc O n []) _
  refine W_sq [0, 1] (W_regionD tab_ok [] ?_)
  simp only [push_cast, seval, ↓reduceIte, cast_lit, hN0, hN]
  refine W_seqK ?_
  refine W_sq [0, 1, 10] (W_regionD tab_ok [] ?_)
  simp only [push_cast, seval, ↓reduceIte, cast_lit, hN0, hN]
  refine W_cond (t := ((a0.length : Int) != (a1.length : Int))) rfl (fun c8 => ?_) (fun c8 => ?_)
  · replace h := condT c8 h
    refine W_sq [4] (W_regionD tab_ok [] ?_)
    simp only [push_cast, seval, ↓reduceIte, cast_lit, hN0, hN]
    refine W_ret ?_
    try simp only [gthen, gblock]
    have h := Option.some.inj h; subst h
    refine fin_loc (.inr rfl) hU [.val (.bool false)] (by omega) ?_
    simp only [push_cast, seval, ↓reduceIte, cast_lit, Try.results61, hN0, hN]
  · replace h := condF c8 h
    refine W_skip ?_
    try simp only [gthen, gblock]
    refine W_drop [0, 1] [] ?_
    simp only [push_cast, seval, ↓reduceIte]
    refine W_seqK ?_
    refine W_sq [0, 1, 5] (W_regionD tab_ok [] ?_)
    simp only [push_cast, seval, ↓reduceIte, cast_lit, hN0, hN]
    refine W_drop [0, 1, 5] [] ?_
    simp only [push_cast, seval, ↓reduceIte]
    obtain ⟨z7, hz7, h⟩ := bC h
    refine W_sumB (J := (SumJ (fun z7 => JR n (⟨26, [], [(4, .val (.bool false))]⟩ : Env) (Loc O n []) n) (fun z7 => JX 0 n (⟨26, [], []⟩ : Env) (Loc O n []) n))) (z := z7) ?_ fun hw => ?_
    · refine W_loopJ hz7 (fun s0_ => ⟨26, [], [(0, .sl a0.length (fl (eI .u64) a0)), (1, .sl a1.length (fl (eI .u64) a1)), (5, .val (.int .i64 s0_))]⟩) (fun s0_ => (Loc O n [])) (SumJ (fun z7 => JR n (⟨26, [], [(4, .val (.bool false))]⟩ : Env) (Loc O n []) n) (fun z7 => JX 0 n (⟨26, [], []⟩ : Env) (Loc O n []) n)) ?_
      intro s0_ x0_ hs0_
      unfold m_centoref01_Same_L0 at hs0_
      try dsimp only
      refine W_seqK ?_
      refine W_sq [0, 1, 5, 14] (W_regionD tab_ok [] ?_)
      simp only [push_cast, seval, ↓reduceIte, cast_lit, hN0, hN]
      refine W_cond (t := (decide (s0_ < (a0.length : Int)))) rfl (fun c6 => ?_) (fun c6 => ?_)
      · replace hs0_ := condT c6 hs0_
        refine W_skip ?_
        try simp only [gthen, gblock]
        refine W_drop [0, 1, 5] [] ?_
        simp only [push_cast, seval, ↓reduceIte]
        refine W_seqK ?_
        refine W_block ?_
        obtain ⟨x3, hx3, ax3, bx3, cx3, hs0_⟩ := bE (f := (eI .u64)) tab31 (fun _ => rfl) (by decide) hs0_
        obtain ⟨x4, hx4, ax4, bx4, cx4, hs0_⟩ := bE (f := (eI .u64)) tab31 (fun _ => rfl) (by decide) hs0_
        refine W_sq [0, 1, 5, 25] (W_drawD tab_ok (by kernel_rfl) [] (by kernel_rfl) ?_)
        simp only [push_cast, Nat.reduceAdd, Nat.reduceSub, Nat.reduceMul, Nat.reduceLeDiff, Nat.reduceLT, Nat.reduceEqDiff, ↓reduceIte, reduceCtorEq, Int.reduceBEq, Int.reduceBNe, Nat.reduceBEq, Int.reduceLE, Int.reduceLT, Int.reduceEq, Int.reduceNe, Int.reduceNeg, Nat.reduceDiv, Nat.reduceMod, Nat.reducePow, cast_lit, ax3, bx3, cx3, ax4, bx4, cx4, hN0, hN]
        refine W_cond (t := (x3 != x4)) rfl (fun c5 => ?_) (fun c5 => ?_)
        · replace hs0_ := condT c5 hs0_
          refine W_sq [4] (W_regionD tab_ok [] ?_)
          simp only [push_cast, seval, ↓reduceIte, cast_lit, hN0, hN]
          refine W_ret ?_
          try simp only [gthen, gblock]
          have hs0_ := Option.some.inj hs0_; subst hs0_
          refine And.intro (fun h => by cases h) (And.intro rfl (Fit2.of (fit_loc hU rfl rfl ?_) (by omega)))
          simp only [push_cast, seval, ↓reduceIte, cast_lit, hN0, hN]
        · replace hs0_ := condF c5 hs0_
          refine W_skip ?_
          try simp only [gthen, gblock]
          refine W_drop [0, 1, 5] [] ?_
          simp only [push_cast, seval, ↓reduceIte]
          refine W_regionD tab_ok [] ?_
          simp only [push_cast, seval, ↓reduceIte, cast_lit, hN0, hN]
          have hs0_ := Option.some.inj hs0_; subst hs0_
          refine And.intro rfl (Fit2.of (fit_loc hU rfl rfl ?_) (by omega))
          simp only [push_cast, seval, ↓reduceIte, cast_lit, hN0, hN]
      · replace hs0_ := condF c6 hs0_
        refine W_exit ?_
        try simp only [gthen, gblock, ↓reduceIte, Nat.reduceEqDiff]
        have hs0_ := Option.some.inj hs0_; subst hs0_
        refine And.intro (fun h => by cases h) (And.intro rfl (Fit2.of (fit_loc hU rfl rfl ?_) (by omega)))
        simp only [push_cast, seval, ↓reduceIte, cast_lit, hN0, hN]
    rcases z7 with z7 | z7
    · dsimp only [SumJ] at hw h
      refine W_blockR hw ?_
      try simp only [gthen, gblock, ↓reduceIte, Nat.reduceEqDiff]
      have h := Option.some.inj h; subst h
      refine fin_loc (.inr rfl) hU [.val (.bool false)] (by omega) ?_
      simp only [push_cast, seval, ↓reduceIte, cast_lit, Try.results61, hN0, hN]
    · dsimp only [SumJ] at hw h
      refine W_blockX hw ?_
      try simp only [gthen, gblock, ↓reduceIte, Nat.reduceEqDiff]
      refine W_drop [] [] ?_
      simp only [push_cast, seval, ↓reduceIte]
      refine W_sq [4] (W_regionD tab_ok [] ?_)
      simp only [push_cast, seval, ↓reduceIte, cast_lit, hN0, hN]
      refine W_ret ?_
      try simp only [gthen, gblock]
      have h := Option.some.inj h; subst h
      refine fin_loc (.inr rfl) hU [.val (.bool true)] (by omega) ?_
      simp only [push_cast, seval, ↓reduceIte, cast_lit, Try.results61, hN0, hN]
theorem ok_centoref03_Same {a0 : (List (List Int))} {a1 : (List (List Int))} {r : Bool} {O : Objs} {n : Nat} (h : m_centoref03_Same a0 a1 = some r) : GTo Try.prog 28 [.sl a0.length (fl (eL (eI .u64)) a0), .sl a1.length (fl (eL (eI .u64)) a1)] O n (.val (.bool r)) O n := by
  unfold m_centoref03_Same at h
  refine fn_of tab_ok Try.call28 Try.func28 rfl (Nat.le_of_ble_eq_true rfl) (Nat.le_refl _) fun hU => ?_
  have hN0 : O n = none := hU.fresh _ (Nat.le_refl _)
  have hN : ∀ k, O (n + k) = none := fun k => hU.fresh _ (Nat.le_add_right _ _)
  show W _ _ _ _ ⟨27, [], [(0, .sl a0.length (fl (eL (eI .u64)) a0)), (1, .sl a1.length (fl (eL (eI .u64)) a1))]⟩ (Loc O n []) _
  refine W_sq [0, 1] (W_regionD tab_ok [] ?_)
  simp only [push_cast, seval, ↓reduceIte, cast_lit, hN0, hN]
  refine W_seqK ?_
  refine W_sq [0, 1, 10] (W_regionD tab_ok [] ?_)
  simp only [push_cast, seval, ↓reduceIte, cast_lit, hN0, hN]
  refine W_cond (t := ((a0.length : Int) != (a1.length : Int))) rfl (fun c10 => ?_) (fun c10 => ?_)
  · replace h := condT c10 h
    refine W_sq [4] (W_regionD tab_ok [] ?_)
    simp only [push_cast, seval, ↓reduceIte, cast_lit, hN0, hN]
    refine W_ret ?_
    try simp only [gthen, gblock]
    have h := Option.some.inj h; subst h
    refine fin_loc (.inr rfl) hU [.val (.bool false)] (by omega) ?_
    simp only [push_cast, seval, ↓reduceIte, cast_lit, Try.results28, hN0, hN]
  · replace h := condF c10 h
    refine W_skip ?_
    try simp only [gthen, gblock]
    refine W_drop [0, 1] [] ?_
    simp only [push_cast, seval, ↓reduceIte]
    refine W_seqK ?_
    refine W_sq [0, 1, 5] (W_regionD tab_ok [] ?_)
    simp only [push_cast, seval, ↓reduceIte, cast_lit, hN0, hN]
    refine W_drop [0, 1, 5] [] ?_
    simp only [push_cast, seval, ↓reduceIte]
    obtain ⟨z9, hz9, h⟩ := bC h
    refine W_sumB (J := (SumJ (fun z9 => JR n (⟨27, [], [(4, .val (.bool false))]⟩ : Env) (Loc O n []) n) (fun z9 => JX 0 n (⟨27, [], []⟩ : Env) (Loc O n []) n))) (z := z9) ?_ fun hw => ?_
    · refine W_loopJ hz9 (fun s0_ => ⟨27, [], [(0, .sl a0.length (fl (eL (eI .u64)) a0)), (1, .sl a1.length (fl (eL (eI .u64)) a1)), (5, .val (.int .i64 s0_))]⟩) (fun s0_ => (Loc O n [])) (SumJ (fun z9 => JR n (⟨27, [], [(4, .val (.bool false))]⟩ : Env) (Loc O n []) n) (fun z9 => JX 0 n (⟨27, [], []⟩ : Env) (Loc O n []) n)) ?_
      intro s0_ x0_ hs0_
      unfold m_centoref03_Same_L0 at hs0_
      try dsimp only
      refine W_seqK ?_
      refine W_sq [0, 1, 5, 14] (W_regionD tab_ok [] ?_)
      simp only [push_cast, seval, ↓reduceIte, cast_lit, hN0, hN]
      refine W_cond (t := (decide (s0_ < (a0.length : Int)))) rfl (fun c8 => ?_) (fun c8 => ?_)
      · replace hs0_ := condT c8 hs0_
        refine W_skip ?_
        try simp only [gthen, gblock]
        refine W_drop [0, 1, 5] [] ?_
        simp only [push_cast, seval, ↓reduceIte]
        refine W_seqK ?_
        refine W_block ?_
        refine W_seqK ?_
        obtain ⟨x4, hx4, ax4, bx4, cx4, hs0_⟩ := bE (f := (eL (eI .u64))) tab42 (fun _ => rfl) (by decide) hs0_
        obtain ⟨x5, hx5, ax5, bx5, cx5, hs0_⟩ := bE (f := (eL (eI .u64))) tab42 (fun _ => rfl) (by decide) hs0_
        obtain ⟨y6, hy6, hs0_⟩ := bC hs0_
        refine W_drawD tab_ok (by kernel_rfl) [] (by kernel_rfl) ?_
        simp only [push_cast, Nat.reduceAdd, Nat.reduceSub, Nat.reduceMul, Nat.reduceLeDiff, Nat.reduceLT, Nat.reduceEqDiff, ↓reduceIte, reduceCtorEq, Int.reduceBEq, Int.reduceBNe, Nat.reduceBEq, Int.reduceLE, Int.reduceLT, Int.reduceEq, Int.reduceNe, Int.reduceNeg, Nat.reduceDiv, Nat.reduceMod, Nat.reducePow, cast_lit, ax4, bx4, cx4, ax5, bx5, cx5, hN0, hN]
        refine PCall.of (ok_centoref01_Same hy6) ?_
        simp only [push_cast, Nat.reduceAdd, Nat.reduceSub, Nat.reduceMul, Nat.reduceLeDiff, Nat.reduceLT, Nat.reduceEqDiff, ↓reduceIte, reduceCtorEq, Int.reduceBEq, Int.reduceBNe, Nat.reduceBEq, Int.reduceLE, Int.reduceLT, Int.reduceEq, Int.reduceNe, Int.reduceNeg, Nat.reduceDiv, Nat.reduceMod, Nat.reducePow, cast_lit, ax4, bx4, cx4, ax5, bx5, cx5, hN0, hN]
        refine W_drop [0, 1, 5, 26] [] ?_
        simp only [push_cast, seval, ↓reduceIte]
        refine W_cond (t := (!y6)) rfl (fun c7 => ?_) (fun c7 => ?_)
        · replace hs0_ := condT c7 hs0_
          refine W_sq [4] (W_regionD tab_ok [] ?_)
          simp only [push_cast, seval, ↓reduceIte, cast_lit, hN0, hN]
          refine W_ret ?_
          try simp only [gthen, gblock]
          have hs0_ := Option.some.inj hs0_; subst hs0_
          refine And.intro (fun h => by cases h) (And.intro rfl (Fit2.of (fit_loc hU rfl rfl ?_) (by omega)))
          simp only [push_cast, seval, ↓reduceIte, cast_lit, hN0, hN]
        · replace hs0_ := condF c7 hs0_
          refine W_skip ?_
          try simp only [gthen, gblock]
          refine W_drop [0, 1, 5] [] ?_
          simp only [push_cast, seval, ↓reduceIte]
          refine W_regionD tab_ok [] ?_
          simp only [push_cast, seval, ↓reduceIte, cast_lit, hN0, hN]
          have hs0_ := Option.some.inj hs0_; subst hs0_
          refine And.intro rfl (Fit2.of (fit_loc hU rfl rfl ?_) (by omega))
          simp only [push_cast, seval, ↓reduceIte, cast_lit, hN0, hN]
      · replace hs0_ := condF c8 hs0_
        refine W_exit ?_
        try simp only [gthen, gblock, ↓reduceIte, Nat.reduceEqDiff]
        have hs0_ := Option.some.inj hs0_; subst hs0_
        refine And.intro (fun h => by cases h) (And.intro rfl (Fit2.of (fit_loc hU rfl rfl ?_) (by omega)))
        simp only [push_cast, seval, ↓reduceIte, cast_lit, hN0, hN]
    rcases z9 with z9 | z9
    · dsimp only [SumJ] at hw h
      refine W_blockR hw ?_
      try simp only [gthen, gblock, ↓reduceIte, Nat.reduceEqDiff]
      have h := Option.some.inj h; subst h
      refine fin_loc (.inr rfl) hU [.val (.bool false)] (by omega) ?_
      simp only [push_cast, seval, ↓reduceIte, cast_lit, Try.results28, hN0, hN]
    · dsimp only [SumJ] at hw h
      refine W_blockX hw ?_
      try simp only [gthen, gblock, ↓reduceIte, Nat.reduceEqDiff]
      refine W_drop [] [] ?_
      simp only [push_cast, seval, ↓reduceIte]
      refine W_sq [4] (W_regionD tab_ok [] ?_)
      simp only [push_cast, seval, ↓reduceIte, cast_lit, hN0, hN]
      refine W_ret ?_
      try simp only [gthen, gblock]
      have h := Option.some.inj h; subst h
      refine fin_loc (.inr rfl) hU [.val (.bool true)] (by omega) ?_
      simp only [push_cast, seval, ↓reduceIte, cast_lit, Try.results28, hN0, hN]
end Go.Proofs.Ytmlhokaflhlhbaa
