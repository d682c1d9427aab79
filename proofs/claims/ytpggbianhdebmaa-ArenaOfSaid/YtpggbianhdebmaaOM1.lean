/- Part M1: functions of the program and the plain functions that they are; each theorem bears its own conditions. -/
import Derived.Test.YtpggbianhdebmaaOE
namespace Go.Proofs.Ytpggbianhdebmaa
open Go.RowKit
set_option linter.unusedVariables false
set_option linter.unusedSimpArgs false
set_option maxRecDepth 100000
set_option maxHeartbeats 4000000
attribute [local push_cast] gfork_t gfork_f pfork_t pfork_f gthen gblock gops_nil gops_plain gops_guard onW gwantB gcalm gact gpick gpickV strip_any strip_val strip_agg strip_tup strip_sl strip_ip strip_row strip_rs strip_rp strip_rl strip_ref strip_fn strip_when evS wok calmOp Op.operands Call.operands gop onK onP atK List.all_cons List.all_nil Bool.and_true Bool.true_and Bool.and_self Value.oneCell' List.take_zero List.take_succ_cons List.take_nil List.drop_zero List.drop_succ_cons List.drop_nil List.append_nil Nat.add_zero Nat.zero_add gstep gputE ev look genv gbin_ii gbin_bb gbin_ss gbin_pp gbin_rp gbin_ip gbin_ll gbin_aa geqS geqF gint gunary gconvert gload gcells gpart_lit gstore cellsOf_agg cellsOf_val cellsOf_sl cellsOf_ip cellsOf_row cellsOf_rs cellsOf_rp cellsOf_rl cellsOf_ref cellsOf_fn cellsOf_any cellsOf_tup cellsOf_when cellsOf_gP gput gplace_lit gfieldAddr gstepIn gindexAddr gindex gfield gopt bLo bHi bMx gextract galloc gbox gbuild gfill gplaces gbuildSlice gmake glen gappend gappendN gsrc gbuiltin gnil live_any live_val live_agg live_tup live_sl live_ip live_fn live_when live_ref live_rs live_rp live_rl live_row len_any len_val len_agg len_tup len_sl len_ip len_fn len_row len_rl len_rs live_gP gres gone prun_nil prun_plain prun_guard pop TK.isAgg one_any one_val one_agg one_tup one_when one_sl one_ip one_row one_rs one_rp one_rl one_ref one_fn G.under G.unders List.getD_cons_zero List.getD_cons_succ List.set_cons_zero List.set_cons_succ List.map_cons List.map_nil List.toList_toArray Array.toList_append Option.toArray_none Option.toArray_some Array.toList_map Option.map_some Option.map_none Option.bind_some Option.bind_none List.getElem?_cons_zero List.getElem?_cons_succ List.getElem?_nil List.nil_append List.cons_append List.replicate_succ List.replicate_zero List.length_cons List.length_nil and_true true_and and_false false_and Bool.true_eq_false Bool.false_eq_true forall_const false_implies implies_true IntKind.bits if_true if_false ite_true ite_false eq_self true_implies false_or or_false or_true true_or not_true_eq_false not_false_eq_true decide_true decide_false decide_eq_true_eq decide_eq_false_iff_not beq_iff_eq bne_iff_ne ne_eq Bool.not_eq_true Bool.not_eq_false beq_eq_false_iff_ne bne_eq_false_iff_eq beq_self_eq_true bne_self_eq_false Option.some.injEq exists_eq_left' exists_eq_left ge_iff_le gt_iff_lt decide_not Bool.not_true Bool.not_false imp_self gquiet cond_true cond_false beqT beqF Bool.not_not Bool.and_false Bool.false_and Bool.or_true Bool.true_or Bool.or_false Bool.false_or Loc_at Loc_at0 Loc_upd Loc_upd0 Loc_push Loc_push0 Option.join_some Nat.add_assoc Int.toNat_natCast eI eB eS eL fl_nil gopsD_nil gopsD_plain gopsD_t gopsD_f gopsD_n onKD onWD prunD_nil prunD_plain prunD_t prunD_f prunD_n onPD fitO fitO1 sameO fitL fl_append fl_one List.length_append G.agg.injEq G.row.injEq G.ref.injEq G.val.injEq G.sl.injEq G.tup.injEq Value.int.injEq Value.bool.injEq Value.string.injEq List.cons.injEq exists_and_left exists_const List.flatten_cons List.flatten_nil Int.le_refl Nat.le_refl upd_updU Loc_out Loc_updo Bool.not_eq_true' Bool.not_eq_false' wkl_nil wkl_cons wk_any wk_val wk_agg wk_tup wk_sl wk_fn List.size_toArray renO renO1 G.ren G.rens renL rho_at rho_at0 gP_none gP_some strip_gP wok_gP one_gP G.fn.injEq wk_slnil wk_slrow wk_slrs wk_ip wk_ipref wk_row wk_rs wk_rp wk_rl wk_ref locLt0 locLt Option.join_none upd_same fl_cons undef keepL Arr.len Arr.put_eq prunB_nil prunB_bar prunB_bart prunB_plain prunB_t prunB_f prunB_n onB onBP gcopy setI_len cpyAt_len Loc_cat0 Loc_cat1 Loc_cat2 Loc_cat3 Loc_cat4 Loc_cat5 noObjs_at prunK_nil prunK_bar prunK_pass prunK_plain prunK_low prunK_pt prunK_pf prunK_lt prunK_lf onKg onKa onKp popL pickOps lows lowG prunK_shp prunK_fill popH shpOp fillOp fillG rho_low rens_app Loc_cat6 Loc_cat7 Loc_cat8 Loc_cat9 Loc_cat10 Loc_cat11 Loc_cat12 Loc_cat13 Loc_cat14 Loc_cat15 Loc_cat16 Loc_cat17 Loc_cat18 Loc_cat19 Loc_cat20 Loc_cat21 Loc_cat22 dropM prT kdOf tab2 tkind2 tab3 tkind3 tab4 tkind4 tab5 tkind5 tab6 tkind6 tab7 tkind7 tab8 tkind8 tab9 tkind9 tab10 tkind10 tab11 tkind11 tab12 tkind12 tab13 tkind13 tab14 tkind14 tab15 tkind15 tab16 tkind16 tab17 tkind17 tab18 tkind18 tab19 tkind19 tab21 tkind21 tab22 tkind22 tab23 tkind23 tab25 tkind25 tab27 tkind27 tab28 tkind28 tab29 tkind29 tab32 tkind32 tab33 tkind33 tab34 tkind34 tab40 tkind40 tab45 tkind45 tab46 tkind46 tab49 tkind49 tab58 tkind58 tab59 tkind59 tab69 tkind69 tab70 tkind70 tab74 tkind74 tab75 tkind75 tab76 tkind76 tab78 tkind78 tab79 tkind79 tab80 tkind80 wkl_eI_u64 wka_eI_u64 len_eI_u64 one_eI_u64 wkp_eI_u64 undp_eI_u64 rens_eI_u64 renp_eI_u64 und_eI_u64 wkl_eL_eI_u64 wka_eL_eI_u64 len_eL_eI_u64 one_eL_eI_u64 wkp_eL_eI_u64 undp_eL_eI_u64 rens_eL_eI_u64 renp_eL_eI_u64 und_eL_eI_u64 e_S_arena_Arena wkl_e_S_arena_Arena wka_e_S_arena_Arena len_e_S_arena_Arena one_e_S_arena_Arena wkp_e_S_arena_Arena undp_e_S_arena_Arena rens_e_S_arena_Arena renp_e_S_arena_Arena und_e_S_arena_Arena
theorem ok_slices_Clone_uint64_uint64 {a0 r : List Int} {O : Objs} {n : Nat} (h : m_slices_Clone_uint64_uint64 a0 = some r) : GTo Try.prog 30 [.sl a0.length (fl (eI .u64) a0)] O n (.row n r.length) (Loc O n [some ⟨true, 27, 1, r.length, fl (eI .u64) r⟩]) (n + 1) := by
  have h1 := appI_1 h
  have h2 := appI_2 h
  have h3 := appI_eq h
  rw [List.nil_append] at h3
  subst h3
  simp only [List.length_nil, Nat.zero_add] at h1 h2
  clear h
  refine fn_of tab_ok Try.call30 Try.func30 rfl (Nat.le_of_ble_eq_true rfl) (by omega) fun hU => ?_
  have hN0 : O n = none := hU.fresh _ (Nat.le_refl _)
  have hN : ∀ k, O (n + k) = none := fun k => hU.fresh _ (Nat.le_add_right _ _)
  show W _ _ _ _ ⟨8, [], [(0, .sl r.length (fl (eI .u64) r))]⟩ (Loc O n []) _
  refine W_sq [0] (W_regionD tab_ok [] ?_)
  simp only [push_cast, seval, ↓reduceIte, cast_lit, hN0, hN]
  refine W_know 0 r.length (fl (eI .u64) r) rfl (Nat.le_of_ble_eq_true rfl) (pures_fl pu_eI_u64 _) fun A c hA => ?_
  refine W_sq [0, 4] (W_regionD tab_ok [] ?_)
  simp only [push_cast, seval, ↓reduceIte, cast_lit, hN0, hN]
  cases A with
  | none =>
    obtain rfl : r = [] := List.eq_nil_of_length_eq_zero (hA rfl)
    refine W_cond (t := true) rfl (fun _ => ?_) (fun hc => by cases hc)
    refine W_sq [2] (W_regionD tab_ok [] ?_)
    simp only [push_cast, seval, ↓reduceIte, cast_lit, hN0, hN]
    refine W_ret ?_
    try simp only [gthen, gblock]
    refine fin_locW (k := 1) (L3 := [some ⟨true, 27, 1, 0, []⟩]) (E2 := ⟨8, [], [(2, .row n 0), (2, .val (.slice none 0 0))]⟩) (n3 := (n + 1)) (.inr rfl) hU rfl [.row n 0] ?_ ?_
    · have ha := adopt_fit (ba := n) (E := ⟨8, [], [(2, .val (.slice none 0 0))]⟩) (O := (Loc O n [])) (n := n) 2 27 1 rfl (by omega)
      simp only [Loc_push0] at ha
      exact ha
    simp only [push_cast, seval, ↓reduceIte, cast_lit, Try.results30, hN0, hN]
  | some A =>
    refine W_cond (t := false) rfl (fun hc => by cases hc) (fun _ => ?_)
    refine W_skip ?_
    try simp only [gthen, gblock]
    refine And.intro rfl (And.intro (Nat.le_of_ble_eq_true rfl) ?_)
    refine W_seqK ?_
    refine W_regionD tab_ok [] ?_
    simp only [push_cast, seval, ↓reduceIte, cast_lit, h1, h2, hN0, hN]
    refine W_ret ?_
    try simp only [gthen, gblock]
    refine fin_locR (.inr rfl) hU rfl [.row n r.length] (by omega) ?_
    simp only [push_cast, seval, ↓reduceIte, cast_lit, Try.results30, hN0, hN]


theorem okf_slices_Clone_uint64_uint64 {a0 r : List Int} {O : Objs} {n : Nat} (h : m_slices_Clone_uint64_uint64 a0 = some r) : GTo Try.prog 30 [.sl a0.length (fl (eI .u64) a0)] O n (.sl r.length (fl (eI .u64) r)) O n := by
  refine GTo.freeze (ok_slices_Clone_uint64_uint64 h) fun hU => ?_
  have hN0 : O n = none := hU.fresh _ (Nat.le_refl _)
  have hN : ∀ k, O (n + k) = none := fun k => hU.fresh _ (Nat.le_add_right _ _)
  simp only [push_cast, seval, ↓reduceIte, cast_lit, hN0, hN]


theorem ok_arena_clone {a0 : (List (List Int))} {r : (List (List Int))} {O : Objs} {n : Nat}  (h : m_arena_clone a0 = some r) : GTo Try.prog 27 [.sl a0.length (fl (eL (eI .u64)) a0)] O n (.row n r.length) (Loc O n [some ⟨true, 40, 1, r.length, fl (eL (eI .u64)) r⟩]) (n + 1) := by
  unfold m_arena_clone at h
  refine fn_of tab_ok Try.call27 Try.func27 rfl (Nat.le_of_ble_eq_true rfl) (by omega) fun hU => ?_
  have hN0 : O n = none := hU.fresh _ (Nat.le_refl _)
  have hN : ∀ k, O (n + k) = none := fun k => hU.fresh _ (Nat.le_add_right _ _)
  show W _ _ _ _ ⟨23, [], [(0, .sl a0.length (fl (eL (eI .u64)) a0))]⟩ (Loc O n []) _
  refine W_sq [0] (W_regionD tab_ok [] ?_)
  simp only [push_cast, seval, ↓reduceIte, cast_lit, hN0, hN]
  refine W_seqK ?_
  obtain ⟨l2, al2, bl2, cl2, el2, h⟩ := bM2 (c := 24) rfl h
  have nl2 : Int.toNat (a0.length : Int) = List.length l2 := by rw [el2, List.length_replicate]
  have fl2 : ∀ O O' n, wkl O O' n (List.replicate (List.length l2) [G.val (.slice none 0 0)]).flatten (fl (eL (eI .u64)) l2) = True := fun O O' n => by rw [← nl2, el2]; exact eq_true (wkl_nils _ _)
  clear el2
  refine W_regionD tab_ok [] ?_
  simp only [push_cast, seval, ↓reduceIte, cast_lit, al2, bl2, cl2, fl2, nl2, hN0, hN]
  refine W_fit ⟨23, [], [(0, .sl a0.length (fl (eL (eI .u64)) a0)), (3, .row n l2.length)]⟩ (Loc O n [some ⟨true, 40, 1, l2.length, fl (eL (eI .u64)) l2⟩]) (fit_loc hU rfl rfl ?_) ?_
  · simp only [push_cast, seval, ↓reduceIte, cast_lit, al2, bl2, cl2, fl2, nl2, hN0, hN]
  refine W_seqK ?_
  refine W_sq [3, 9, 10, 11] (W_regionD tab_ok [] ?_)
  simp only [push_cast, seval, ↓reduceIte, cast_lit, hN0, hN]
  refine W_drop [3, 9, 10, 11] [true] ?_
  simp only [push_cast, seval, ↓reduceIte]
  obtain ⟨z9, hz9, h⟩ := bC h
  refine W_blockX (E' := ⟨23, [], [(3, .row n z9.length)]⟩) (O' := (Loc O n [some ⟨true, 40, 1, z9.length, fl (eL (eI .u64)) z9⟩])) (n0 := (n + 1)) ?_ ?_
  · refine W_loopJ hz9 (fun s0_ => ⟨23, [], [(3, .row n s0_.2.length), (9, .sl a0.length (fl (eL (eI .u64)) a0)), (10, .val (.int .i64 (a0.length : Int))), (11, .val (.int .i64 s0_.1))]⟩) (fun s0_ => (Loc O n [some ⟨true, 40, 1, s0_.2.length, fl (eL (eI .u64)) s0_.2⟩])) (fun z9 => JX 0 n (⟨23, [], [(3, .row n z9.length)]⟩ : Env) (Loc O n [some ⟨true, 40, 1, z9.length, fl (eL (eI .u64)) z9⟩]) (n + 1)) ?_
    intro s0_ x0_ hs0_
    unfold m_arena_clone_L0 at hs0_
    try dsimp only
    refine W_sq [3, 9, 10, 11, 12] (W_regionD tab_ok [] ?_)
    simp only [push_cast, seval, ↓reduceIte, cast_lit, hN0, hN]
    refine W_seqK ?_
    refine W_cond (t := (decide (s0_.1 < (a0.length : Int)))) rfl (fun c8 => ?_) (fun c8 => ?_)
    · replace hs0_ := condT c8 hs0_
      refine W_skip ?_
      try simp only [gthen, gblock]
      refine W_drop [3, 9, 10, 11] [true] ?_
      simp only [push_cast, seval, ↓reduceIte]
      refine W_seqK ?_
      refine W_block ?_
      obtain ⟨x4, hx4, ax4, bx4, cx4, hs0_⟩ := bE (f := (eL (eI .u64))) tab40 (fun _ => rfl) (by decide) hs0_
      refine W_sq [3, 4, 5, 9, 10, 11] (W_regionD tab_ok [] ?_)
      simp only [push_cast, Nat.reduceAdd, Nat.reduceSub, Nat.reduceMul, Nat.reduceLeDiff, Nat.reduceLT, Nat.reduceEqDiff, ↓reduceIte, reduceCtorEq, Int.reduceBEq, Int.reduceBNe, Nat.reduceBEq, Int.reduceLE, Int.reduceLT, Int.reduceEq, Int.reduceNe, Int.reduceNeg, Nat.reduceDiv, Nat.reduceMod, Nat.reducePow, cast_lit, ax4, bx4, cx4, hN0, hN]
      obtain ⟨y5, hy5, hs0_⟩ := bC hs0_
      obtain ⟨x6, hx6, ax6, bx6, cx6, hs0_⟩ := bE (f := (eL (eI .u64))) tab40 (fun _ => rfl) (by decide) hs0_
      have gu7 : gplace (fl (eL (eI .u64)) s0_.2) [.sl y5.length (fl (eI .u64) y5)] (Int.toNat s0_.1 * 1) = some (fl (eL (eI .u64)) (setI s0_.2 s0_.1 y5)) := gplace_el (f := (eL (eI .u64))) (ti := ⟨.bool, 1, 0, [], false⟩) (x := y5) (fun _ => rfl) (getI_nat hx6)
      refine W_regionD tab_ok [] ?_
      simp only [push_cast, Nat.reduceAdd, Nat.reduceSub, Nat.reduceMul, Nat.reduceLeDiff, Nat.reduceLT, Nat.reduceEqDiff, ↓reduceIte, reduceCtorEq, Int.reduceBEq, Int.reduceBNe, Nat.reduceBEq, Int.reduceLE, Int.reduceLT, Int.reduceEq, Int.reduceNe, Int.reduceNeg, Nat.reduceDiv, Nat.reduceMod, Nat.reducePow, cast_lit, ax6, bx6, cx6, gu7, hN0, hN]
      refine (okf_slices_Clone_uint64_uint64 hy5).then ?_
      simp only [push_cast, Nat.reduceAdd, Nat.reduceSub, Nat.reduceMul, Nat.reduceLeDiff, Nat.reduceLT, Nat.reduceEqDiff, ↓reduceIte, reduceCtorEq, Int.reduceBEq, Int.reduceBNe, Nat.reduceBEq, Int.reduceLE, Int.reduceLT, Int.reduceEq, Int.reduceNe, Int.reduceNeg, Nat.reduceDiv, Nat.reduceMod, Nat.reducePow, cast_lit, ax6, bx6, cx6, gu7, hN0, hN]
      refine W_drop [3, 9, 10, 11] [true] ?_
      simp only [push_cast, seval, ↓reduceIte]
      refine W_regionD tab_ok [] ?_
      simp only [push_cast, seval, ↓reduceIte, cast_lit, hN0, hN]
      have hs0_ := Option.some.inj hs0_; subst hs0_
      refine And.intro rfl (Fit2.of (fit_loc hU rfl rfl ?_) (by omega))
      simp only [push_cast, seval, ↓reduceIte, cast_lit, hN0, hN]
    · replace hs0_ := condF c8 hs0_
      refine W_exit ?_
      try simp only [gthen, gblock, ↓reduceIte, Nat.reduceEqDiff]
      have hs0_ := Option.some.inj hs0_; subst hs0_
      refine And.intro (fun h => by cases h) (And.intro rfl (Fit2.of (fit_loc hU rfl rfl ?_) (by omega)))
      simp only [push_cast, seval, ↓reduceIte, cast_lit, hN0, hN]
  try simp only [gthen, gblock, ↓reduceIte, Nat.reduceEqDiff]
  refine W_drop [3] [true] ?_
  simp only [push_cast, seval, ↓reduceIte]
  refine W_sq [2] (W_regionD tab_ok [] ?_)
  simp only [push_cast, seval, ↓reduceIte, cast_lit, hN0, hN]
  refine W_ret ?_
  try simp only [gthen, gblock]
  have h := Option.some.inj h; subst h
  refine fin_locW (k := 1) (L3 := [some ⟨true, 40, 1, z9.length, fl (eL (eI .u64)) z9⟩, none]) (E2 := (⟨23, [], [(2, .row n z9.length)]⟩ : Env)) (n3 := (n + 2)) (.inr rfl) hU rfl [.row n z9.length] ?_ ?_
  · refine Fit2.trans (E' := (⟨23, [], [(2, .row n z9.length)]⟩ : Env)) (O' := (Loc O n [some ⟨true, 40, 1, z9.length, fl (eL (eI .u64)) z9⟩])) (n' := (n + 1)) (Fit2.of (fit_loc hU rfl rfl ?_) (by omega)) ?_
    · simp only [push_cast, seval, ↓reduceIte, cast_lit, hN0, hN]
    refine ren_fit (k := 1) (k' := 2) hU [0] [0, 0] rfl rfl rfl rfl ⟨rfl, rfl⟩ ?_
    simp only [push_cast, seval, ↓reduceIte, cast_lit, hN0, hN]
  simp only [push_cast, seval, ↓reduceIte, cast_lit, Try.results27, hN0, hN]


theorem okf_arena_clone {a0 : (List (List Int))} {r : (List (List Int))} {O : Objs} {n : Nat} (h : m_arena_clone a0 = some r) : GTo Try.prog 27 [.sl a0.length (fl (eL (eI .u64)) a0)] O n (.sl r.length (fl (eL (eI .u64)) r)) O n := by
  refine GTo.freeze (ok_arena_clone h) fun hU => ?_
  have hN0 : O n = none := hU.fresh _ (Nat.le_refl _)
  have hN : ∀ k, O (n + k) = none := fun k => hU.fresh _ (Nat.le_add_right _ _)
  simp only [push_cast, seval, ↓reduceIte, cast_lit, hN0, hN]


theorem ok_arena_Of {a0 : (List (List Int))} {r : S_arena_Arena} {O : Objs} {n : Nat}  (h : m_arena_Of a0 = some r) : GTo Try.prog 20 [.sl a0.length (fl (eL (eI .u64)) a0)] O n (.ref n 0) (Loc O n [some ⟨false, 59, 3, 1, [.row (n + 1) r.segments.length, .val (.int .i64 r.size), .val (.int .i64 r.left)]⟩, some ⟨true, 40, 1, r.segments.length, fl (eL (eI .u64)) r.segments⟩]) (n + 2) := by
  unfold m_arena_Of at h
  refine fn_of tab_ok Try.call20 Try.func20 rfl (Nat.le_of_ble_eq_true rfl) (by omega) fun hU => ?_
  have hN0 : O n = none := hU.fresh _ (Nat.le_refl _)
  have hN : ∀ k, O (n + k) = none := fun k => hU.fresh _ (Nat.le_add_right _ _)
  show W _ _ _ _ ⟨7, [], [(0, .sl a0.length (fl (eL (eI .u64)) a0))]⟩ (Loc O n []) _
  refine W_sq [0] (W_regionD tab_ok [] ?_)
  simp only [push_cast, seval, ↓reduceIte, cast_lit, hN0, hN]
  refine W_seqK ?_
  obtain ⟨y2, hy2, h⟩ := bC h
  refine W_regionD tab_ok [] ?_
  simp only [push_cast, seval, ↓reduceIte, cast_lit, hN0, hN]
  refine (ok_arena_clone  hy2).then ?_
  simp only [push_cast, seval, ↓reduceIte, cast_lit, hN0, hN]
  refine W_drop [2] [true, true] ?_
  simp only [push_cast, seval, ↓reduceIte]
  refine W_ret ?_
  try simp only [gthen, gblock]
  have h := Option.some.inj h; subst h
  refine fin_locW (k := 2) (L3 := [some ⟨false, 59, 3, 1, [.row (n + 1) y2.length, .val (.int .i64 0), .val (.int .i64 0)]⟩, some ⟨true, 40, 1, y2.length, fl (eL (eI .u64)) y2⟩, none]) (E2 := (⟨7, [], [(2, .ref n 0)]⟩ : Env)) (n3 := (n + 3)) (.inr rfl) hU rfl [.ref n 0] ?_ ?_
  · refine Fit2.trans (E' := (⟨7, [], [(2, .ref (n + 1) 0)]⟩ : Env)) (O' := (Loc O n [some ⟨true, 40, 1, y2.length, fl (eL (eI .u64)) y2⟩, some ⟨false, 59, 3, 1, [.row n y2.length, .val (.int .i64 0), .val (.int .i64 0)]⟩])) (n' := (n + 2)) (Fit2.of (fit_loc hU rfl rfl ?_) (by omega)) ?_
    · simp only [push_cast, seval, ↓reduceIte, cast_lit, hN0, hN]
    refine ren_fit (k := 2) (k' := 3) hU [1, 0] [1, 0, 0] rfl rfl rfl rfl ⟨rfl, rfl⟩ ?_
    simp only [push_cast, seval, ↓reduceIte, cast_lit, hN0, hN]
  simp only [push_cast, seval, ↓reduceIte, cast_lit, Try.results20, hN0, hN]


theorem ok_centoref01_Same {a0 : (List Int)} {a1 : (List Int)} {r : Bool} {O : Objs} {n : Nat} (h : m_centoref01_Same a0 a1 = some r) : GTo Try.prog 26 [.sl a0.length (fl (eI .u64) a0), .sl a1.length (fl (eI .u64) a1)] O n (.val (.bool r)) O n := by
  unfold m_centoref01_Same at h
  refine fn_of tab_ok Try.call26 Try.func26 rfl (Nat.le_of_ble_eq_true rfl) (Nat.le_refl _) fun hU => ?_
  have hN0 : O n = none := hU.fresh _ (Nat.le_refl _)
  have hN : ∀ k, O (n + k) = none := fun k => hU.fresh _ (Nat.le_add_right _ _)
  show W _ _ _ _ ⟨26, [], [(0, .sl a0.length (fl (eI .u64) a0)), (1, .sl a1.length (fl (eI .u64) a1))]⟩ (Loc O n []) _
  refine W_sq [0, 1] (W_regionD tab_ok [] ?_)
  simp only [push_cast, seval, ↓reduceIte, cast_lit, hN0, hN]
  refine W_seqK ?_
  refine W_sq [0, 1, 10] (W_regionD tab_ok [] ?_)
  simp only [push_cast, seval, ↓reduceIte, cast_lit, hN0, hN]
  refine W_cond (t := ((a0.length : Int) != (a1.length : Int))) rfl (fun c8 => ?_) (fun c8 => ?_)
  · replace h := condT c8 h
    refine W_sq [4] (W_regionD tab_ok [] ?_)
    simp only [push_cast, seval, ↓reduceIte, cast_lit, hN0, hN]
    refine W_ret ?_
    try simp only [gthen, gblock]
    have h := Option.some.inj h; subst h
    refine fin_loc (.inr rfl) hU [.val (.bool false)] (by omega) ?_
    simp only [push_cast, seval, ↓reduceIte, cast_lit, Try.results26, hN0, hN]
  · replace h := condF c8 h
    refine W_skip ?_
    try simp only [gthen, gblock]
    refine W_drop [0, 1] [] ?_
    simp only [push_cast, seval, ↓reduceIte]
    refine W_seqK ?_
    refine W_sq [0, 1, 5] (W_regionD tab_ok [] ?_)
    simp only [push_cast, seval, ↓reduceIte, cast_lit, hN0, hN]
    refine W_drop [0, 1, 5] [] ?_
    simp only [push_cast, seval, ↓reduceIte]
    obtain ⟨z7, hz7, h⟩ := bC h
    refine W_sumB (J := (SumJ (fun z7 => JR n (⟨26, [], [(4, .val (.bool false))]⟩ : Env) (Loc O n []) n) (fun z7 => JX 0 n (⟨26, [], []⟩ : Env) (Loc O n []) n))) (z := z7) ?_ fun hw => ?_
    · refine W_loopJ hz7 (fun s0_ => ⟨26, [], [(0, .sl a0.length (fl (eI .u64) a0)), (1, .sl a1.length (fl (eI .u64) a1)), (5, .val (.int .i64 s0_))]⟩) (fun s0_ => (Loc O n [])) (SumJ (fun z7 => JR n (⟨26, [], [(4, .val (.bool false))]⟩ : Env) (Loc O n []) n) (fun z7 => JX 0 n (⟨26, [], []⟩ : Env) (Loc O n []) n)) ?_
      intro s0_ x0_ hs0_
      unfold m_centoref01_Same_L0 at hs0_
      try dsimp only
      refine W_seqK ?_
      refine W_sq [0, 1, 5, 14] (W_regionD tab_ok [] ?_)
      simp only [push_cast, seval, ↓reduceIte, cast_lit, hN0, hN]
      refine W_cond (t := (decide (s0_ < (a0.length : Int)))) rfl (fun c6 => ?_) (fun c6 => ?_)
      · replace hs0_ := condT c6 hs0_
        refine W_skip ?_
        try simp only [gthen, gblock]
        refine W_drop [0, 1, 5] [] ?_
        simp only [push_cast, seval, ↓reduceIte]
        refine W_seqK ?_
        refine W_block ?_
        obtain ⟨x3, hx3, ax3, bx3, cx3, hs0_⟩ := bE (f := (eI .u64)) tab27 (fun _ => rfl) (by decide) hs0_
        obtain ⟨x4, hx4, ax4, bx4, cx4, hs0_⟩ := bE (f := (eI .u64)) tab27 (fun _ => rfl) (by decide) hs0_
        refine W_sq [0, 1, 5, 25] (W_drawD tab_ok (by kernel_rfl) [] (by kernel_rfl) ?_)
        simp only [push_cast, Nat.reduceAdd, Nat.reduceSub, Nat.reduceMul, Nat.reduceLeDiff, Nat.reduceLT, Nat.reduceEqDiff, ↓reduceIte, reduceCtorEq, Int.reduceBEq, Int.reduceBNe, Nat.reduceBEq, Int.reduceLE, Int.reduceLT, Int.reduceEq, Int.reduceNe, Int.reduceNeg, Nat.reduceDiv, Nat.reduceMod, Nat.reducePow, cast_lit, ax3, bx3, cx3, ax4, bx4, cx4, hN0, hN]
        refine W_cond (t := (x3 != x4)) rfl (fun c5 => ?_) (fun c5 => ?_)
        · replace hs0_ := condT c5 hs0_
          refine W_sq [4] (W_regionD tab_ok [] ?_)
          simp only [push_cast, seval, ↓reduceIte, cast_lit, hN0, hN]
          refine W_ret ?_
          try simp only [gthen, gblock]
          have hs0_ := Option.some.inj hs0_; subst hs0_
          refine And.intro (fun h => by cases h) (And.intro rfl (Fit2.of (fit_loc hU rfl rfl ?_) (by omega)))
          simp only [push_cast, seval, ↓reduceIte, cast_lit, hN0, hN]
        · replace hs0_ := condF c5 hs0_
          refine W_skip ?_
          try simp only [gthen, gblock]
          refine W_drop [0, 1, 5] [] ?_
          simp only [push_cast, seval, ↓reduceIte]
          refine W_regionD tab_ok [] ?_
          simp only [push_cast, seval, ↓reduceIte, cast_lit, hN0, hN]
          have hs0_ := Option.some.inj hs0_; subst hs0_
          refine And.intro rfl (Fit2.of (fit_loc hU rfl rfl ?_) (by omega))
          simp only [push_cast, seval, ↓reduceIte, cast_lit, hN0, hN]
      · replace hs0_ := condF c6 hs0_
        refine W_exit ?_
        try simp only [gthen, gblock, ↓reduceIte, Nat.reduceEqDiff]
        have hs0_ := Option.some.inj hs0_; subst hs0_
        refine And.intro (fun h => by cases h) (And.intro rfl (Fit2.of (fit_loc hU rfl rfl ?_) (by omega)))
        simp only [push_cast, seval, ↓reduceIte, cast_lit, hN0, hN]
    rcases z7 with z7 | z7
    · dsimp only [SumJ] at hw h
      refine W_blockR hw ?_
      try simp only [gthen, gblock, ↓reduceIte, Nat.reduceEqDiff]
      have h := Option.some.inj h; subst h
      refine fin_loc (.inr rfl) hU [.val (.bool false)] (by omega) ?_
      simp only [push_cast, seval, ↓reduceIte, cast_lit, Try.results26, hN0, hN]
    · dsimp only [SumJ] at hw h
      refine W_blockX hw ?_
      try simp only [gthen, gblock, ↓reduceIte, Nat.reduceEqDiff]
      refine W_drop [] [] ?_
      simp only [push_cast, seval, ↓reduceIte]
      refine W_sq [4] (W_regionD tab_ok [] ?_)
      simp only [push_cast, seval, ↓reduceIte, cast_lit, hN0, hN]
      refine W_ret ?_
      try simp only [gthen, gblock]
      have h := Option.some.inj h; subst h
      refine fin_loc (.inr rfl) hU [.val (.bool true)] (by omega) ?_
      simp only [push_cast, seval, ↓reduceIte, cast_lit, Try.results26, hN0, hN]


theorem ok_centoref03_Same {a0 : (List (List Int))} {a1 : (List (List Int))} {r : Bool} {O : Objs} {n : Nat} (h : m_centoref03_Same a0 a1 = some r) : GTo Try.prog 12 [.sl a0.length (fl (eL (eI .u64)) a0), .sl a1.length (fl (eL (eI .u64)) a1)] O n (.val (.bool r)) O n := by
  unfold m_centoref03_Same at h
  refine fn_of tab_ok Try.call12 Try.func12 rfl (Nat.le_of_ble_eq_true rfl) (Nat.le_refl _) fun hU => ?_
  have hN0 : O n = none := hU.fresh _ (Nat.le_refl _)
  have hN : ∀ k, O (n + k) = none := fun k => hU.fresh _ (Nat.le_add_right _ _)
  show W _ _ _ _ ⟨27, [], [(0, .sl a0.length (fl (eL (eI .u64)) a0)), (1, .sl a1.length (fl (eL (eI .u64)) a1))]⟩ (Loc O n []) _
  refine W_sq [0, 1] (W_regionD tab_ok [] ?_)
  simp only [push_cast, seval, ↓reduceIte, cast_lit, hN0, hN]
  refine W_seqK ?_
  refine W_sq [0, 1, 10] (W_regionD tab_ok [] ?_)
  simp only [push_cast, seval, ↓reduceIte, cast_lit, hN0, hN]
  refine W_cond (t := ((a0.length : Int) != (a1.length : Int))) rfl (fun c10 => ?_) (fun c10 => ?_)
  · replace h := condT c10 h
    refine W_sq [4] (W_regionD tab_ok [] ?_)
    simp only [push_cast, seval, ↓reduceIte, cast_lit, hN0, hN]
    refine W_ret ?_
    try simp only [gthen, gblock]
    have h := Option.some.inj h; subst h
    refine fin_loc (.inr rfl) hU [.val (.bool false)] (by omega) ?_
    simp only [push_cast, seval, ↓reduceIte, cast_lit, Try.results12, hN0, hN]
  · replace h := condF c10 h
    refine W_skip ?_
    try simp only [gthen, gblock]
    refine W_drop [0, 1] [] ?_
    simp only [push_cast, seval, ↓reduceIte]
    refine W_seqK ?_
    refine W_sq [0, 1, 5] (W_regionD tab_ok [] ?_)
    simp only [push_cast, seval, ↓reduceIte, cast_lit, hN0, hN]
    refine W_drop [0, 1, 5] [] ?_
    simp only [push_cast, seval, ↓reduceIte]
    obtain ⟨z9, hz9, h⟩ := bC h
    refine W_sumB (J := (SumJ (fun z9 => JR n (⟨27, [], [(4, .val (.bool false))]⟩ : Env) (Loc O n []) n) (fun z9 => JX 0 n (⟨27, [], []⟩ : Env) (Loc O n []) n))) (z := z9) ?_ fun hw => ?_
    · refine W_loopJ hz9 (fun s0_ => ⟨27, [], [(0, .sl a0.length (fl (eL (eI .u64)) a0)), (1, .sl a1.length (fl (eL (eI .u64)) a1)), (5, .val (.int .i64 s0_))]⟩) (fun s0_ => (Loc O n [])) (SumJ (fun z9 => JR n (⟨27, [], [(4, .val (.bool false))]⟩ : Env) (Loc O n []) n) (fun z9 => JX 0 n (⟨27, [], []⟩ : Env) (Loc O n []) n)) ?_
      intro s0_ x0_ hs0_
      unfold m_centoref03_Same_L0 at hs0_
      try dsimp only
      refine W_seqK ?_
      refine W_sq [0, 1, 5, 14] (W_regionD tab_ok [] ?_)
      simp only [push_cast, seval, ↓reduceIte, cast_lit, hN0, hN]
      refine W_cond (t := (decide (s0_ < (a0.length : Int)))) rfl (fun c8 => ?_) (fun c8 => ?_)
      · replace hs0_ := condT c8 hs0_
        refine W_skip ?_
        try simp only [gthen, gblock]
        refine W_drop [0, 1, 5] [] ?_
        simp only [push_cast, seval, ↓reduceIte]
        refine W_seqK ?_
        refine W_block ?_
        refine W_seqK ?_
        obtain ⟨x4, hx4, ax4, bx4, cx4, hs0_⟩ := bE (f := (eL (eI .u64))) tab40 (fun _ => rfl) (by decide) hs0_
        obtain ⟨x5, hx5, ax5, bx5, cx5, hs0_⟩ := bE (f := (eL (eI .u64))) tab40 (fun _ => rfl) (by decide) hs0_
        obtain ⟨y6, hy6, hs0_⟩ := bC hs0_
        refine W_drawD tab_ok (by kernel_rfl) [] (by kernel_rfl) ?_
        simp only [push_cast, Nat.reduceAdd, Nat.reduceSub, Nat.reduceMul, Nat.reduceLeDiff, Nat.reduceLT, Nat.reduceEqDiff, ↓reduceIte, reduceCtorEq, Int.reduceBEq, Int.reduceBNe, Nat.reduceBEq, Int.reduceLE, Int.reduceLT, Int.reduceEq, Int.reduceNe, Int.reduceNeg, Nat.reduceDiv, Nat.reduceMod, Nat.reducePow, cast_lit, ax4, bx4, cx4, ax5, bx5, cx5, hN0, hN]
        refine PCall.of (ok_centoref01_Same hy6) ?_
        simp only [push_cast, Nat.reduceAdd, Nat.reduceSub, Nat.reduceMul, Nat.reduceLeDiff, Nat.reduceLT, Nat.reduceEqDiff, ↓reduceIte, reduceCtorEq, Int.reduceBEq, Int.reduceBNe, Nat.reduceBEq, Int.reduceLE, Int.reduceLT, Int.reduceEq, Int.reduceNe, Int.reduceNeg, Nat.reduceDiv, Nat.reduceMod, Nat.reducePow, cast_lit, ax4, bx4, cx4, ax5, bx5, cx5, hN0, hN]
        refine W_drop [0, 1, 5, 26] [] ?_
        simp only [push_cast, seval, ↓reduceIte]
        refine W_cond (t := (!y6)) rfl (fun c7 => ?_) (fun c7 => ?_)
        · replace hs0_ := condT c7 hs0_
          refine W_sq [4] (W_regionD tab_ok [] ?_)
          simp only [push_cast, seval, ↓reduceIte, cast_lit, hN0, hN]
          refine W_ret ?_
          try simp only [gthen, gblock]
          have hs0_ := Option.some.inj hs0_; subst hs0_
          refine And.intro (fun h => by cases h) (And.intro rfl (Fit2.of (fit_loc hU rfl rfl ?_) (by omega)))
          simp only [push_cast, seval, ↓reduceIte, cast_lit, hN0, hN]
        · replace hs0_ := condF c7 hs0_
          refine W_skip ?_
          try simp only [gthen, gblock]
          refine W_drop [0, 1, 5] [] ?_
          simp only [push_cast, seval, ↓reduceIte]
          refine W_regionD tab_ok [] ?_
          simp only [push_cast, seval, ↓reduceIte, cast_lit, hN0, hN]
          have hs0_ := Option.some.inj hs0_; subst hs0_
          refine And.intro rfl (Fit2.of (fit_loc hU rfl rfl ?_) (by omega))
          simp only [push_cast, seval, ↓reduceIte, cast_lit, hN0, hN]
      · replace hs0_ := condF c8 hs0_
        refine W_exit ?_
        try simp only [gthen, gblock, ↓reduceIte, Nat.reduceEqDiff]
        have hs0_ := Option.some.inj hs0_; subst hs0_
        refine And.intro (fun h => by cases h) (And.intro rfl (Fit2.of (fit_loc hU rfl rfl ?_) (by omega)))
        simp only [push_cast, seval, ↓reduceIte, cast_lit, hN0, hN]
    rcases z9 with z9 | z9
    · dsimp only [SumJ] at hw h
      refine W_blockR hw ?_
      try simp only [gthen, gblock, ↓reduceIte, Nat.reduceEqDiff]
      have h := Option.some.inj h; subst h
      refine fin_loc (.inr rfl) hU [.val (.bool false)] (by omega) ?_
      simp only [push_cast, seval, ↓reduceIte, cast_lit, Try.results12, hN0, hN]
    · dsimp only [SumJ] at hw h
      refine W_blockX hw ?_
      try simp only [gthen, gblock, ↓reduceIte, Nat.reduceEqDiff]
      refine W_drop [] [] ?_
      simp only [push_cast, seval, ↓reduceIte]
      refine W_sq [4] (W_regionD tab_ok [] ?_)
      simp only [push_cast, seval, ↓reduceIte, cast_lit, hN0, hN]
      refine W_ret ?_
      try simp only [gthen, gblock]
      have h := Option.some.inj h; subst h
      refine fin_loc (.inr rfl) hU [.val (.bool true)] (by omega) ?_
      simp only [push_cast, seval, ↓reduceIte, cast_lit, Try.results12, hN0, hN]


theorem ok_arena_Arena_fits {a0 : S_arena_Arena} {a1 : Int} {a2 : Int} {r : (Bool × S_arena_Arena)} {O : Objs} {n : Nat} {i0 j0_0 : Nat} (hi0 : i0 < n) (hj0_0 : j0_0 < n) (hne0_0 : i0 ≠ j0_0) (ho0 : O i0 = some ⟨false, 59, 3, 1, [.row j0_0 a0.segments.length, .val (.int .i64 a0.size), .val (.int .i64 a0.left)]⟩) (hoj0_0 : O j0_0 = some ⟨true, 40, 1, a0.segments.length, fl (eL (eI .u64)) a0.segments⟩) (h : m_arena_Arena_fits a0 a1 a2 = some r) : GTo Try.prog 31 [.ref i0 0, .val (.int .i64 a1), .val (.int .i64 a2)] O n (.val (.bool r.1)) (Loc ((O.upd j0_0 none).upd i0 (some ⟨false, 59, 3, 1, [.row n r.2.segments.length, .val (.int .i64 r.2.size), .val (.int .i64 r.2.left)]⟩)) n [some ⟨true, 40, 1, r.2.segments.length, fl (eL (eI .u64)) r.2.segments⟩]) (n + 1) := by
  unfold m_arena_Arena_fits at h
  refine fn_of tab_ok Try.call31 Try.func31 rfl (Nat.le_of_ble_eq_true rfl) (by omega) fun hU => ?_
  have e0 := take_fit (ba := n) (E := ⟨22, [], genv 0 [.ref i0 0, .val (.int .i64 a1), .val (.int .i64 a2)]⟩) (O := (Loc O n [])) (n := n) (i := i0) (j := j0_0) (k := 0) (len := a0.segments.length) (q := ⟨false, 59, 3, 1, [.row j0_0 a0.segments.length, .val (.int .i64 a0.size), .val (.int .i64 a0.left)]⟩) (qj := ⟨true, 40, 1, a0.segments.length, fl (eL (eI .u64)) a0.segments⟩) (by rw [Loc_out _ hi0]; first | exact ho0 | exact upd_same _ _ _) rfl (by rw [Loc_out _ hj0_0]; exact hoj0_0) hne0_0 (by omega)
  simp only [Loc_updo _ _ hj0_0, Loc_updo _ _ hi0, Loc_push, Loc_push0, upd_updU, upd_in hne0_0, List.set_cons_zero, List.set_cons_succ, List.cons_append, List.nil_append, List.length_cons, List.length_nil, Nat.zero_add, Nat.reduceAdd, Nat.add_assoc] at e0
  refine W_fit2 e0 ?_
  have hU := (Und.drop hU j0_0)
  have hk0 : ∀ k, i0 < n + k := fun k => by omega
  have hN0 : ∀ o, Objs.upd (O.upd j0_0 none) i0 o n = none := fun o => upd_fresh hU hi0 _ (Nat.le_refl _)
  have hN : ∀ o k, Objs.upd (O.upd j0_0 none) i0 o (n + k) = none := fun o k => upd_fresh hU hi0 _ (Nat.le_add_right _ _)
  show W _ _ _ _ ⟨22, [], [(0, .ref i0 0), (1, .val (.int .i64 a1)), (2, .val (.int .i64 a2))]⟩ (Loc ((O.upd j0_0 none).upd i0 (some ⟨false, 59, 3, 1, [.row n a0.segments.length, .val (.int .i64 a0.size), .val (.int .i64 a0.left)]⟩)) n [some ⟨true, 40, 1, a0.segments.length, fl (eL (eI .u64)) a0.segments⟩]) _
  refine W_sq [0, 1, 2] (W_regionD tab_ok [] ?_)
  simp only [push_cast, seval, ↓reduceIte, cast_lit, hi0, hk0, hN0, hN]
  obtain ⟨x2, hx2, ax2, bx2, cx2, h⟩ := bE (f := (eL (eI .u64))) tab40 (fun _ => rfl) (by decide) h
  refine W_sq [6] (W_drawD tab_ok (by kernel_rfl) [] (by kernel_rfl) ?_)
  simp only [push_cast, Nat.reduceAdd, Nat.reduceSub, Nat.reduceMul, Nat.reduceLeDiff, Nat.reduceLT, Nat.reduceEqDiff, ↓reduceIte, reduceCtorEq, Int.reduceBEq, Int.reduceBNe, Nat.reduceBEq, Int.reduceLE, Int.reduceLT, Int.reduceEq, Int.reduceNe, Int.reduceNeg, Nat.reduceDiv, Nat.reduceMod, Nat.reducePow, cast_lit, ax2, bx2, cx2, hi0, hk0, hN0, hN]
  refine W_ret ?_
  try simp only [gthen, gblock]
  have h := Option.some.inj h; subst h
  refine fin_locV (k := 1) (i := i0) (q1 := ⟨false, 59, 3, 1, [.row n a0.segments.length, .val (.int .i64 a0.size), .val (.int .i64 a0.left)]⟩) (L3 := [some ⟨true, 40, 1, a0.segments.length, fl (eL (eI .u64)) a0.segments⟩, none]) (E2 := (⟨22, [], [(6, .val (.bool (decide (a2 ≤ (IntKind.i64.wrap (a0.size - (x2.length : Int)))))))]⟩ : Env)) (n3 := (n + 2)) (.inr rfl) hU rfl [.val (.bool (decide (a2 ≤ (IntKind.i64.wrap (a0.size - (x2.length : Int))))))] ?_ ?_
  · refine Fit2.trans (E' := (⟨22, [], [(6, .val (.bool (decide (a2 ≤ (IntKind.i64.wrap (a0.size - (x2.length : Int)))))))]⟩ : Env)) (O' := (Loc ((O.upd j0_0 none).upd i0 (some ⟨false, 59, 3, 1, [.row n a0.segments.length, .val (.int .i64 a0.size), .val (.int .i64 a0.left)]⟩)) n [some ⟨true, 40, 1, a0.segments.length, fl (eL (eI .u64)) a0.segments⟩])) (n' := (n + 1)) (Fit2.of (fit_loco hU rfl rfl ?_) (by omega)) ?_
    · simp only [push_cast, seval, ↓reduceIte, cast_lit, hi0, hk0, hN0, hN]
    refine ren_fito (k := 1) (k' := 2) hU [0] [0, 0] rfl rfl rfl rfl ⟨rfl, rfl⟩ ?_
    simp only [push_cast, seval, ↓reduceIte, cast_lit, hi0, hk0, hN0, hN]
  simp only [push_cast, seval, ↓reduceIte, cast_lit, Try.results31, hi0, hk0, hN0, hN]


theorem ok_arena_Arena_grow {a0 : S_arena_Arena} {a1 : Int} {a2 : Int} {r : (Int × S_arena_Arena)} {O : Objs} {n : Nat} {i0 j0_0 : Nat} (hi0 : i0 < n) (hj0_0 : j0_0 < n) (hne0_0 : i0 ≠ j0_0) (ho0 : O i0 = some ⟨false, 59, 3, 1, [.row j0_0 a0.segments.length, .val (.int .i64 a0.size), .val (.int .i64 a0.left)]⟩) (hoj0_0 : O j0_0 = some ⟨true, 40, 1, a0.segments.length, fl (eL (eI .u64)) a0.segments⟩) (h : m_arena_Arena_grow a0 a1 a2 = some r) : GTo Try.prog 32 [.ref i0 0, .val (.int .i64 a1), .val (.int .i64 a2)] O n (.val (.int .i64 r.1)) (Loc ((O.upd j0_0 none).upd i0 (some ⟨false, 59, 3, 1, [.row n r.2.segments.length, .val (.int .i64 r.2.size), .val (.int .i64 r.2.left)]⟩)) n [some ⟨true, 40, 1, r.2.segments.length, fl (eL (eI .u64)) r.2.segments⟩]) (n + 1) := by
  unfold m_arena_Arena_grow at h
  by_cases hz : a2 = 0
  rotate_left
  · rw [if_neg hz] at h; cases h
  rw [if_pos hz] at h
  subst hz
  refine fn_of tab_ok Try.call32 Try.func32 rfl (Nat.le_of_ble_eq_true rfl) (by omega) fun hU => ?_
  have e0 := take_fit (ba := n) (E := ⟨40, [], genv 0 [.ref i0 0, .val (.int .i64 a1), .val (.int .i64 (0 : Int))]⟩) (O := (Loc O n [])) (n := n) (i := i0) (j := j0_0) (k := 0) (len := a0.segments.length) (q := ⟨false, 59, 3, 1, [.row j0_0 a0.segments.length, .val (.int .i64 a0.size), .val (.int .i64 a0.left)]⟩) (qj := ⟨true, 40, 1, a0.segments.length, fl (eL (eI .u64)) a0.segments⟩) (by rw [Loc_out _ hi0]; first | exact ho0 | exact upd_same _ _ _) rfl (by rw [Loc_out _ hj0_0]; exact hoj0_0) hne0_0 (by omega)
  simp only [Loc_updo _ _ hj0_0, Loc_updo _ _ hi0, Loc_push, Loc_push0, upd_updU, upd_in hne0_0, List.set_cons_zero, List.set_cons_succ, List.cons_append, List.nil_append, List.length_cons, List.length_nil, Nat.zero_add, Nat.reduceAdd, Nat.add_assoc] at e0
  refine W_fit2 e0 ?_
  have hU := (Und.drop hU j0_0)
  have hk0 : ∀ k, i0 < n + k := fun k => by omega
  have hN0 : ∀ o, Objs.upd (O.upd j0_0 none) i0 o n = none := fun o => upd_fresh hU hi0 _ (Nat.le_refl _)
  have hN : ∀ o k, Objs.upd (O.upd j0_0 none) i0 o (n + k) = none := fun o k => upd_fresh hU hi0 _ (Nat.le_add_right _ _)
  show W _ _ _ _ ⟨40, [], [(0, .ref i0 0), (1, .val (.int .i64 a1)), (2, .val (.int .i64 (0 : Int)))]⟩ (Loc ((O.upd j0_0 none).upd i0 (some ⟨false, 59, 3, 1, [.row n a0.segments.length, .val (.int .i64 a0.size), .val (.int .i64 a0.left)]⟩)) n [some ⟨true, 40, 1, a0.segments.length, fl (eL (eI .u64)) a0.segments⟩]) _
  refine W_sq [0, 1, 2] (W_regionD tab_ok [] ?_)
  simp only [push_cast, seval, ↓reduceIte, cast_lit, hi0, hk0, hN0, hN]
  obtain ⟨x2, hx2, ax2, bx2, cx2, h⟩ := bE (f := (eL (eI .u64))) tab40 (fun _ => rfl) (by decide) h
  refine W_sq [0, 1, 2, 7] (W_regionD tab_ok [] ?_)
  simp only [push_cast, Nat.reduceAdd, Nat.reduceSub, Nat.reduceMul, Nat.reduceLeDiff, Nat.reduceLT, Nat.reduceEqDiff, ↓reduceIte, reduceCtorEq, Int.reduceBEq, Int.reduceBNe, Nat.reduceBEq, Int.reduceLE, Int.reduceLT, Int.reduceEq, Int.reduceNe, Int.reduceNeg, Nat.reduceDiv, Nat.reduceMod, Nat.reducePow, cast_lit, ax2, bx2, cx2, hi0, hk0, hN0, hN]
  refine W_seqK ?_
  obtain ⟨x6, hx6, ax6, bx6, cx6, h⟩ := bE (f := (eL (eI .u64))) tab40 (fun _ => rfl) (by decide) h
  have gu8 : gplace (fl (eL (eI .u64)) a0.segments) [.sl x6.length (fl (eI .u64) x6)] (Int.toNat a1 * 1) = some (fl (eL (eI .u64)) (setI a0.segments a1 x6)) := gplace_el (f := (eL (eI .u64))) (ti := ⟨.bool, 1, 0, [], false⟩) (x := x6) (fun _ => rfl) (getI_nat hx6)
  refine W_drawY tab_ok (by kernel_rfl) [.plain, .low, .low, .low, .plain, .plain, .plain, .plain, .plain, .plain, .plain, .plain, .plain, .pass, .plain, .bar] (fun t => t = i0) [0, 1, 2, 3, 4, 5, 6, 7, 8, 9, 10, 11, 12, 13, 14, 15] [.plain, .low, .low, .low, .plain, .plain, .plain, .plain, .plain, .plain, .plain, .plain, .plain, .pass, .plain, .bar] [] (by kernel_rfl) rfl ?_
  simp only [push_cast, Nat.reduceAdd, Nat.reduceSub, Nat.reduceMul, Nat.reduceLeDiff, Nat.reduceLT, Nat.reduceEqDiff, ↓reduceIte, reduceCtorEq, Int.reduceBEq, Int.reduceBNe, Nat.reduceBEq, Int.reduceLE, Int.reduceLT, Int.reduceEq, Int.reduceNe, Int.reduceNeg, Nat.reduceDiv, Nat.reduceMod, Nat.reducePow, cast_lit, ax6, bx6, cx6, gu8, hi0, hk0, hN0, hN]
  refine And.intro (fun _ _ => rfl) ?_
  refine W_drop [0, 2, 7] [true] ?_
  simp only [push_cast, seval, ↓reduceIte]
  refine W_seqK ?_
  refine W_regionD tab_ok [] ?_
  simp only [push_cast, seval, ↓reduceIte, cast_lit, hi0, hk0, hN0, hN]
  refine W_drop [7] [true] ?_
  simp only [push_cast, seval, ↓reduceIte]
  refine W_sq [6] (W_regionD tab_ok [] ?_)
  simp only [push_cast, seval, ↓reduceIte, cast_lit, hi0, hk0, hN0, hN]
  refine W_ret ?_
  try simp only [gthen, gblock]
  have h := Option.some.inj h; subst h
  refine fin_locV (k := 1) (i := i0) (q1 := ⟨false, 59, 3, 1, [.row n (setI a0.segments a1 x6).length, .val (.int .i64 a0.size), .val (.int .i64 (IntKind.i64.wrap (a0.left - (0 : Int))))]⟩) (L3 := [some ⟨true, 40, 1, (setI a0.segments a1 x6).length, fl (eL (eI .u64)) (setI a0.segments a1 x6)⟩, none]) (E2 := (⟨40, [], [(6, .val (.int .i64 (x2.length : Int)))]⟩ : Env)) (n3 := (n + 2)) (.inr rfl) hU rfl [.val (.int .i64 (x2.length : Int))] ?_ ?_
  · refine Fit2.trans (E' := (⟨40, [], [(6, .val (.int .i64 (x2.length : Int)))]⟩ : Env)) (O' := (Loc ((O.upd j0_0 none).upd i0 (some ⟨false, 59, 3, 1, [.row n (setI a0.segments a1 x6).length, .val (.int .i64 a0.size), .val (.int .i64 (IntKind.i64.wrap (a0.left - (0 : Int))))]⟩)) n [some ⟨true, 40, 1, (setI a0.segments a1 x6).length, fl (eL (eI .u64)) (setI a0.segments a1 x6)⟩])) (n' := (n + 1)) (Fit2.of (fit_loco hU rfl rfl ?_) (by omega)) ?_
    · simp only [push_cast, seval, ↓reduceIte, cast_lit, hi0, hk0, hN0, hN]
    refine ren_fito (k := 1) (k' := 2) hU [0] [0, 0] rfl rfl rfl rfl ⟨rfl, rfl⟩ ?_
    simp only [push_cast, seval, ↓reduceIte, cast_lit, hi0, hk0, hN0, hN]
  simp only [push_cast, seval, ↓reduceIte, cast_lit, Try.results32, hi0, hk0, hN0, hN]


theorem ok_arena_Arena_Give {a0 : S_arena_Arena} {a1 : Int} {r : (Int × Int × Bool × S_arena_Arena)} {O : Objs} {n : Nat} {i0 j0_0 : Nat} (hi0 : i0 < n) (hj0_0 : j0_0 < n) (hne0_0 : i0 ≠ j0_0) (ho0 : O i0 = some ⟨false, 59, 3, 1, [.row j0_0 a0.segments.length, .val (.int .i64 a0.size), .val (.int .i64 a0.left)]⟩) (hoj0_0 : O j0_0 = some ⟨true, 40, 1, a0.segments.length, fl (eL (eI .u64)) a0.segments⟩) (h : m_arena_Arena_Give a0 a1 = some r) : GTo Try.prog 19 [.ref i0 0, .val (.int .i64 a1)] O n (.tup [.val (.int .i64 r.1), .val (.int .i64 r.2.1), .val (.bool r.2.2.1)]) (Loc ((O.upd j0_0 none).upd i0 (some ⟨false, 59, 3, 1, [.row n r.2.2.2.segments.length, .val (.int .i64 r.2.2.2.size), .val (.int .i64 r.2.2.2.left)]⟩)) n [some ⟨true, 40, 1, r.2.2.2.segments.length, fl (eL (eI .u64)) r.2.2.2.segments⟩]) (n + 1) := by
  unfold m_arena_Arena_Give at h
  refine fn_of tab_ok Try.call19 Try.func19 rfl (Nat.le_of_ble_eq_true rfl) (by omega) fun hU => ?_
  have e0 := take_fit (ba := n) (E := ⟨61, [], genv 0 [.ref i0 0, .val (.int .i64 a1)]⟩) (O := (Loc O n [])) (n := n) (i := i0) (j := j0_0) (k := 0) (len := a0.segments.length) (q := ⟨false, 59, 3, 1, [.row j0_0 a0.segments.length, .val (.int .i64 a0.size), .val (.int .i64 a0.left)]⟩) (qj := ⟨true, 40, 1, a0.segments.length, fl (eL (eI .u64)) a0.segments⟩) (by rw [Loc_out _ hi0]; first | exact ho0 | exact upd_same _ _ _) rfl (by rw [Loc_out _ hj0_0]; exact hoj0_0) hne0_0 (by omega)
  simp only [Loc_updo _ _ hj0_0, Loc_updo _ _ hi0, Loc_push, Loc_push0, upd_updU, upd_in hne0_0, List.set_cons_zero, List.set_cons_succ, List.cons_append, List.nil_append, List.length_cons, List.length_nil, Nat.zero_add, Nat.reduceAdd, Nat.add_assoc] at e0
  refine W_fit2 e0 ?_
  have hU := (Und.drop hU j0_0)
  have hk0 : ∀ k, i0 < n + k := fun k => by omega
  have hN0 : ∀ o, Objs.upd (O.upd j0_0 none) i0 o n = none := fun o => upd_fresh hU hi0 _ (Nat.le_refl _)
  have hN : ∀ o k, Objs.upd (O.upd j0_0 none) i0 o (n + k) = none := fun o k => upd_fresh hU hi0 _ (Nat.le_add_right _ _)
  show W _ _ _ _ ⟨61, [], [(0, .ref i0 0), (1, .val (.int .i64 a1))]⟩ (Loc ((O.upd j0_0 none).upd i0 (some ⟨false, 59, 3, 1, [.row n a0.segments.length, .val (.int .i64 a0.size), .val (.int .i64 a0.left)]⟩)) n [some ⟨true, 40, 1, a0.segments.length, fl (eL (eI .u64)) a0.segments⟩]) _
  refine W_sq [0, 1] (W_regionD tab_ok [] ?_)
  simp only [push_cast, seval, ↓reduceIte, cast_lit, hi0, hk0, hN0, hN]
  refine W_seqK ?_
  obtain ⟨z1, hz1, h⟩ := bC h
  refine W_seqN (E' := ⟨61, [], [(0, .ref i0 0), (1, .val (.int .i64 a1)), (21, .val (.bool z1))]⟩) (O' := (Loc ((O.upd j0_0 none).upd i0 (some ⟨false, 59, 3, 1, [.row n a0.segments.length, .val (.int .i64 a0.size), .val (.int .i64 a0.left)]⟩)) n [some ⟨true, 40, 1, a0.segments.length, fl (eL (eI .u64)) a0.segments⟩])) (n0 := (n + 1)) ?_ ?_
  · rcases Bool.eq_false_or_eq_true (decide (a1 < 0)) with c2 | c2
    · replace hz1 := condT c2 hz1
      refine W_regionD tab_ok [some true, some true, some false, some false, some false, some false, some false, some false] ?_
      simp only [push_cast, seval, ↓reduceIte, cast_lit, c2, hi0, hk0, hN0, hN]
      have hz1 := Option.some.inj hz1; subst hz1
      refine And.intro rfl (Fit2.of (fit_loco hU rfl rfl ?_) (by omega))
      simp only [push_cast, seval, ↓reduceIte, cast_lit, c2, hi0, hk0, hN0, hN]
    · replace hz1 := condF c2 hz1
      refine W_regionD tab_ok [some true, some true, some true, some true, some true, some true, some true, some true] ?_
      simp only [push_cast, seval, ↓reduceIte, cast_lit, c2, hi0, hk0, hN0, hN]
      have hz1 := Option.some.inj hz1; subst hz1
      refine And.intro rfl (Fit2.of (fit_loco hU rfl rfl ?_) (by omega))
      simp only [push_cast, seval, ↓reduceIte, cast_lit, c2, hi0, hk0, hN0, hN]
  refine W_cond (t := z1) rfl (fun c15 => ?_) (fun c15 => ?_)
  · replace h := condT c15 h
    refine W_sq [4, 5, 6] (W_regionD tab_ok [] ?_)
    simp only [push_cast, seval, ↓reduceIte, cast_lit, hi0, hk0, hN0, hN]
    refine W_ret ?_
    try simp only [gthen, gblock]
    have h := Option.some.inj h; subst h
    refine fin_locV (k := 1) (i := i0) (q1 := ⟨false, 59, 3, 1, [.row n a0.segments.length, .val (.int .i64 a0.size), .val (.int .i64 a0.left)]⟩) (L3 := [some ⟨true, 40, 1, a0.segments.length, fl (eL (eI .u64)) a0.segments⟩, none]) (E2 := (⟨61, [], [(4, .val (.int .i64 0)), (5, .val (.int .i64 0)), (6, .val (.bool false))]⟩ : Env)) (n3 := (n + 2)) (.inr rfl) hU rfl [.val (.int .i64 0), .val (.int .i64 0), .val (.bool false)] ?_ ?_
    · refine Fit2.trans (E' := (⟨61, [], [(4, .val (.int .i64 0)), (5, .val (.int .i64 0)), (6, .val (.bool false))]⟩ : Env)) (O' := (Loc ((O.upd j0_0 none).upd i0 (some ⟨false, 59, 3, 1, [.row n a0.segments.length, .val (.int .i64 a0.size), .val (.int .i64 a0.left)]⟩)) n [some ⟨true, 40, 1, a0.segments.length, fl (eL (eI .u64)) a0.segments⟩])) (n' := (n + 1)) (Fit2.of (fit_loco hU rfl rfl ?_) (by omega)) ?_
      · simp only [push_cast, seval, ↓reduceIte, cast_lit, hi0, hk0, hN0, hN]
      refine ren_fito (k := 1) (k' := 2) hU [0] [0, 0] rfl rfl rfl rfl ⟨rfl, rfl⟩ ?_
      simp only [push_cast, seval, ↓reduceIte, cast_lit, hi0, hk0, hN0, hN]
    simp only [push_cast, seval, ↓reduceIte, cast_lit, Try.results19, hi0, hk0, hN0, hN]
  · replace h := condF c15 h
    refine W_skip ?_
    try simp only [gthen, gblock]
    refine W_drop [0, 1] [true] ?_
    simp only [push_cast, seval, ↓reduceIte]
    refine W_sq [0, 1, 7] (W_regionD tab_ok [] ?_)
    simp only [push_cast, seval, ↓reduceIte, cast_lit, hi0, hk0, hN0, hN]
    obtain ⟨z3, hz3, h⟩ := bC h
    refine W_seqN (E' := ⟨61, [], [(0, .ref i0 0), (1, .val (.int .i64 a1)), (7, .val (.int .i64 z3.1))]⟩) (O' := (Loc ((O.upd j0_0 none).upd i0 (some ⟨false, 59, 3, 1, [.row (n + 2) z3.2.1.length, .val (.int .i64 z3.2.2.1), .val (.int .i64 z3.2.2.2)]⟩)) n [none, none, some ⟨true, 40, 1, z3.2.1.length, fl (eL (eI .u64)) z3.2.1⟩, none])) (n0 := (n + 4)) ?_ ?_
    · obtain ⟨z5, hz5, hz3⟩ := bC hz3
      refine W_seqN (E' := ⟨61, [], [(0, .ref i0 0), (1, .val (.int .i64 a1)), (7, .val (.int .i64 (IntKind.i64.wrap ((a0.segments.length : Int) - 1)))), (44, .val (.bool z5.1))]⟩) (O' := (Loc ((O.upd j0_0 none).upd i0 (some ⟨false, 59, 3, 1, [.row (n + 2) z5.2.1.length, .val (.int .i64 z5.2.2.1), .val (.int .i64 z5.2.2.2)]⟩)) n [none, none, some ⟨true, 40, 1, z5.2.1.length, fl (eL (eI .u64)) z5.2.1⟩])) (n0 := (n + 3)) ?_ ?_
      · rcases Bool.eq_false_or_eq_true (decide ((IntKind.i64.wrap ((a0.segments.length : Int) - 1)) < 0)) with c8 | c8
        · replace hz5 := condT c8 hz5
          refine W_regionD tab_ok [some false, some false, some false, some false, some false, some false, some false, some false, some false, some false, some false, some false, some false] ?_
          simp only [push_cast, seval, ↓reduceIte, cast_lit, c8, hi0, hk0, hN0, hN]
          have hz5 := Option.some.inj hz5; subst hz5
          refine And.intro rfl ?_
          refine Fit2.trans (E' := (⟨61, [], [(0, .ref i0 0), (1, .val (.int .i64 a1)), (7, .val (.int .i64 (IntKind.i64.wrap ((a0.segments.length : Int) - 1)))), (44, .val (.bool true))]⟩ : Env)) (O' := (Loc ((O.upd j0_0 none).upd i0 (some ⟨false, 59, 3, 1, [.row n a0.segments.length, .val (.int .i64 a0.size), .val (.int .i64 a0.left)]⟩)) n [some ⟨true, 40, 1, a0.segments.length, fl (eL (eI .u64)) a0.segments⟩])) (n' := (n + 1)) (Fit2.of (fit_loco hU rfl rfl ?_) (by omega)) ?_
          · simp only [push_cast, seval, ↓reduceIte, cast_lit, c8, hi0, hk0, hN0, hN]
          refine ren_fito (k := 1) (k' := 3) hU [2] [0, 0, 0] rfl rfl rfl rfl ⟨rfl, rfl⟩ ?_
          simp only [push_cast, seval, ↓reduceIte, cast_lit, hi0, hk0, hN0, hN]
        · replace hz5 := condF c8 hz5
          obtain ⟨y7, hy7, hz5⟩ := bC hz5
          rcases Bool.eq_false_or_eq_true y7.1 with c9 | c9
          · replace hz5 := condT c9 hz5
            try rw [c9] at c8
            refine W_regionD tab_ok [some true, some true, some true, some true, some true, some true, some false, some false, some false, some false, some false, some false, some true] ?_
            simp only [push_cast, seval, ↓reduceIte, cast_lit, c8, c9, hi0, hk0, hN0, hN]
            refine (ok_arena_Arena_fits (i0 := i0) (j0_0 := n) (by omega) (by omega) (by omega) (by simp only [push_cast, seval, ↓reduceIte, cast_lit, fl_nil, c8, c9, hi0, hk0, hN0, hN] <;> rfl) (by simp only [push_cast, seval, ↓reduceIte, cast_lit, fl_nil, c8, c9, hi0, hk0, hN0, hN] <;> rfl) hy7).then ?_
            simp only [push_cast, seval, ↓reduceIte, cast_lit, c8, c9, hi0, hk0, hN0, hN]
            have hz5 := Option.some.inj hz5; subst hz5
            refine And.intro rfl ?_
            refine Fit2.trans (E' := (⟨61, [], [(0, .ref i0 0), (1, .val (.int .i64 a1)), (7, .val (.int .i64 (IntKind.i64.wrap ((a0.segments.length : Int) - 1)))), (44, .val (.bool (cond (decide ((IntKind.i64.wrap ((a0.segments.length : Int) - 1)) < 0)) true false)))]⟩ : Env)) (O' := (Loc ((O.upd j0_0 none).upd i0 (some ⟨false, 59, 3, 1, [.row (n + 1) y7.2.segments.length, .val (.int .i64 y7.2.size), .val (.int .i64 y7.2.left)]⟩)) n [none, some ⟨true, 40, 1, y7.2.segments.length, fl (eL (eI .u64)) y7.2.segments⟩])) (n' := (n + 2)) (Fit2.of (fit_loco hU rfl rfl ?_) (by omega)) ?_
            · simp only [push_cast, seval, ↓reduceIte, cast_lit, c8, c9, hi0, hk0, hN0, hN]
            refine ren_fito (k := 2) (k' := 3) hU [1, 2] [0, 0, 1] rfl rfl rfl rfl ⟨rfl, rfl⟩ ?_
            simp only [push_cast, seval, ↓reduceIte, cast_lit, hi0, hk0, hN0, hN]
          · replace hz5 := condF c9 hz5
            try rw [c9] at c8
            refine W_regionD tab_ok [some true, some true, some true, some true, some true, some true, some true, some true, some true, some true, some true, some true, some true] ?_
            simp only [push_cast, seval, ↓reduceIte, cast_lit, c8, c9, hi0, hk0, hN0, hN]
            refine (ok_arena_Arena_fits (i0 := i0) (j0_0 := n) (by omega) (by omega) (by omega) (by simp only [push_cast, seval, ↓reduceIte, cast_lit, fl_nil, c8, c9, hi0, hk0, hN0, hN] <;> rfl) (by simp only [push_cast, seval, ↓reduceIte, cast_lit, fl_nil, c8, c9, hi0, hk0, hN0, hN] <;> rfl) hy7).then ?_
            simp only [push_cast, seval, ↓reduceIte, cast_lit, c8, c9, hi0, hk0, hN0, hN]
            have hz5 := Option.some.inj hz5; subst hz5
            refine And.intro rfl ?_
            refine Fit2.trans (E' := (⟨61, [], [(0, .ref i0 0), (1, .val (.int .i64 a1)), (7, .val (.int .i64 (IntKind.i64.wrap ((a0.segments.length : Int) - 1)))), (44, .val (.bool (cond (decide ((IntKind.i64.wrap ((a0.segments.length : Int) - 1)) < 0)) true (cond (!y7.1) (decide ((y7.2.segments.length : Int) < 16)) false))))]⟩ : Env)) (O' := (Loc ((O.upd j0_0 none).upd i0 (some ⟨false, 59, 3, 1, [.row (n + 1) y7.2.segments.length, .val (.int .i64 y7.2.size), .val (.int .i64 y7.2.left)]⟩)) n [none, some ⟨true, 40, 1, y7.2.segments.length, fl (eL (eI .u64)) y7.2.segments⟩])) (n' := (n + 2)) (Fit2.of (fit_loco hU rfl rfl ?_) (by omega)) ?_
            · simp only [push_cast, seval, ↓reduceIte, cast_lit, c8, c9, hi0, hk0, hN0, hN]
            refine ren_fito (k := 2) (k' := 3) hU [1, 2] [0, 0, 1] rfl rfl rfl rfl ⟨rfl, rfl⟩ ?_
            simp only [push_cast, seval, ↓reduceIte, cast_lit, hi0, hk0, hN0, hN]
      refine W_cond (t := z5.1) rfl (fun c12 => ?_) (fun c12 => ?_)
      · replace hz3 := condT c12 hz3
        refine W_seqK ?_
        obtain ⟨l11, pl11, ql11, el11, hz3⟩ := bA (k := 1) rfl hz3
        refine W_regionD tab_ok [] ?_
        simp only [push_cast, seval, ↓reduceIte, cast_lit, pl11, ql11, el11, hi0, hk0, hN0, hN]
        refine W_fit ⟨61, [], [(0, .ref i0 0), (1, .val (.int .i64 a1)), (7, .val (.int .i64 (IntKind.i64.wrap ((a0.segments.length : Int) - 1))))]⟩ (Loc ((O.upd j0_0 none).upd i0 (some ⟨false, 59, 3, 1, [.row (n + 2) l11.length, .val (.int .i64 z5.2.2.1), .val (.int .i64 z5.2.2.2)]⟩)) n [none, none, some ⟨true, 40, 1, l11.length, fl (eL (eI .u64)) l11⟩, none]) (fit_loco hU rfl rfl ?_) ?_
        · simp only [push_cast, seval, ↓reduceIte, cast_lit, pl11, ql11, el11, hi0, hk0, hN0, hN]
        refine W_regionD tab_ok [] ?_
        simp only [push_cast, seval, ↓reduceIte, cast_lit, hi0, hk0, hN0, hN]
        have hz3 := Option.some.inj hz3; subst hz3
        refine And.intro rfl (Fit2.of (fit_loco hU rfl rfl ?_) (by omega))
        simp only [push_cast, seval, ↓reduceIte, cast_lit, hi0, hk0, hN0, hN]
      · replace hz3 := condF c12 hz3
        refine W_skip ?_
        try simp only [gthen, gblock]
        have hz3 := Option.some.inj hz3; subst hz3
        refine And.intro rfl (Fit2.of (fit_loco hU rfl rfl ?_) (by omega))
        simp only [push_cast, seval, ↓reduceIte, cast_lit, hi0, hk0, hN0, hN]
    refine W_seqK ?_
    obtain ⟨y14, hy14, h⟩ := bC h
    refine W_regionD tab_ok [] ?_
    simp only [push_cast, seval, ↓reduceIte, cast_lit, hi0, hk0, hN0, hN]
    refine (ok_arena_Arena_grow (i0 := i0) (j0_0 := (n + 2)) (by omega) (by omega) (by omega) (by simp only [push_cast, seval, ↓reduceIte, cast_lit, fl_nil, hi0, hk0, hN0, hN] <;> rfl) (by simp only [push_cast, seval, ↓reduceIte, cast_lit, fl_nil, hi0, hk0, hN0, hN] <;> rfl) hy14).then ?_
    simp only [push_cast, seval, ↓reduceIte, cast_lit, hi0, hk0, hN0, hN]
    refine W_drop [4, 5, 6] [false, false, false, false, true] ?_
    simp only [push_cast, seval, ↓reduceIte]
    refine W_ret ?_
    try simp only [gthen, gblock]
    have h := Option.some.inj h; subst h
    refine fin_locV (k := 1) (i := i0) (q1 := ⟨false, 59, 3, 1, [.row n y14.2.segments.length, .val (.int .i64 y14.2.size), .val (.int .i64 y14.2.left)]⟩) (L3 := [some ⟨true, 40, 1, y14.2.segments.length, fl (eL (eI .u64)) y14.2.segments⟩, none]) (E2 := (⟨61, [], [(4, .val (.int .i64 z3.1)), (5, .val (.int .i64 y14.1)), (6, .val (.bool true))]⟩ : Env)) (n3 := (n + 2)) (.inr rfl) hU rfl [.val (.int .i64 z3.1), .val (.int .i64 y14.1), .val (.bool true)] ?_ ?_
    · refine Fit2.trans (E' := (⟨61, [], [(4, .val (.int .i64 z3.1)), (5, .val (.int .i64 y14.1)), (6, .val (.bool true))]⟩ : Env)) (O' := (Loc ((O.upd j0_0 none).upd i0 (some ⟨false, 59, 3, 1, [.row (n + 4) y14.2.segments.length, .val (.int .i64 y14.2.size), .val (.int .i64 y14.2.left)]⟩)) n [none, none, none, none, some ⟨true, 40, 1, y14.2.segments.length, fl (eL (eI .u64)) y14.2.segments⟩])) (n' := (n + 5)) (Fit2.of (fit_loco hU rfl rfl ?_) (by omega)) ?_
      · simp only [push_cast, seval, ↓reduceIte, cast_lit, hi0, hk0, hN0, hN]
      refine ren_fito (k := 5) (k' := 2) hU [1, 1, 1, 1, 0] [4, 0] rfl rfl rfl rfl ⟨rfl, rfl⟩ ?_
      simp only [push_cast, seval, ↓reduceIte, cast_lit, hi0, hk0, hN0, hN]
    simp only [push_cast, seval, ↓reduceIte, cast_lit, Try.results19, hi0, hk0, hN0, hN]


theorem ok_arena_Arena_Len {a0 : S_arena_Arena} {r : (Int × S_arena_Arena)} {O : Objs} {n : Nat} {i0 j0_0 : Nat} (hi0 : i0 < n) (hj0_0 : j0_0 < n) (hne0_0 : i0 ≠ j0_0) (ho0 : O i0 = some ⟨false, 59, 3, 1, [.row j0_0 a0.segments.length, .val (.int .i64 a0.size), .val (.int .i64 a0.left)]⟩) (hoj0_0 : O j0_0 = some ⟨true, 40, 1, a0.segments.length, fl (eL (eI .u64)) a0.segments⟩) (h : m_arena_Arena_Len a0 = some r) : GTo Try.prog 11 [.ref i0 0] O n (.val (.int .i64 r.1)) (Loc ((O.upd j0_0 none).upd i0 (some ⟨false, 59, 3, 1, [.row n r.2.segments.length, .val (.int .i64 r.2.size), .val (.int .i64 r.2.left)]⟩)) n [some ⟨true, 40, 1, r.2.segments.length, fl (eL (eI .u64)) r.2.segments⟩]) (n + 1) := by
  unfold m_arena_Arena_Len at h
  refine fn_of tab_ok Try.call11 Try.func11 rfl (Nat.le_of_ble_eq_true rfl) (by omega) fun hU => ?_
  have e0 := take_fit (ba := n) (E := ⟨10, [], genv 0 [.ref i0 0]⟩) (O := (Loc O n [])) (n := n) (i := i0) (j := j0_0) (k := 0) (len := a0.segments.length) (q := ⟨false, 59, 3, 1, [.row j0_0 a0.segments.length, .val (.int .i64 a0.size), .val (.int .i64 a0.left)]⟩) (qj := ⟨true, 40, 1, a0.segments.length, fl (eL (eI .u64)) a0.segments⟩) (by rw [Loc_out _ hi0]; first | exact ho0 | exact upd_same _ _ _) rfl (by rw [Loc_out _ hj0_0]; exact hoj0_0) hne0_0 (by omega)
  simp only [Loc_updo _ _ hj0_0, Loc_updo _ _ hi0, Loc_push, Loc_push0, upd_updU, upd_in hne0_0, List.set_cons_zero, List.set_cons_succ, List.cons_append, List.nil_append, List.length_cons, List.length_nil, Nat.zero_add, Nat.reduceAdd, Nat.add_assoc] at e0
  refine W_fit2 e0 ?_
  have hU := (Und.drop hU j0_0)
  have hk0 : ∀ k, i0 < n + k := fun k => by omega
  have hN0 : ∀ o, Objs.upd (O.upd j0_0 none) i0 o n = none := fun o => upd_fresh hU hi0 _ (Nat.le_refl _)
  have hN : ∀ o k, Objs.upd (O.upd j0_0 none) i0 o (n + k) = none := fun o k => upd_fresh hU hi0 _ (Nat.le_add_right _ _)
  show W _ _ _ _ ⟨10, [], [(0, .ref i0 0)]⟩ (Loc ((O.upd j0_0 none).upd i0 (some ⟨false, 59, 3, 1, [.row n a0.segments.length, .val (.int .i64 a0.size), .val (.int .i64 a0.left)]⟩)) n [some ⟨true, 40, 1, a0.segments.length, fl (eL (eI .u64)) a0.segments⟩]) _
  refine W_sq [0] (W_regionD tab_ok [] ?_)
  simp only [push_cast, seval, ↓reduceIte, cast_lit, hi0, hk0, hN0, hN]
  refine W_seqK ?_
  refine W_sq [0, 4] (W_regionD tab_ok [] ?_)
  simp only [push_cast, seval, ↓reduceIte, cast_lit, hi0, hk0, hN0, hN]
  refine W_cond (t := false) rfl (fun hc => by cases hc) (fun _ => ?_)
  refine W_skip ?_
  try simp only [gthen, gblock]
  refine W_drop [0] [true] ?_
  simp only [push_cast, seval, ↓reduceIte]
  refine W_sq [2] (W_regionD tab_ok [] ?_)
  simp only [push_cast, seval, ↓reduceIte, cast_lit, hi0, hk0, hN0, hN]
  refine W_ret ?_
  try simp only [gthen, gblock]
  have h := Option.some.inj h; subst h
  refine fin_locV (k := 1) (i := i0) (q1 := ⟨false, 59, 3, 1, [.row n a0.segments.length, .val (.int .i64 a0.size), .val (.int .i64 a0.left)]⟩) (L3 := [some ⟨true, 40, 1, a0.segments.length, fl (eL (eI .u64)) a0.segments⟩, none]) (E2 := (⟨10, [], [(2, .val (.int .i64 (a0.segments.length : Int)))]⟩ : Env)) (n3 := (n + 2)) (.inr rfl) hU rfl [.val (.int .i64 (a0.segments.length : Int))] ?_ ?_
  · refine Fit2.trans (E' := (⟨10, [], [(2, .val (.int .i64 (a0.segments.length : Int)))]⟩ : Env)) (O' := (Loc ((O.upd j0_0 none).upd i0 (some ⟨false, 59, 3, 1, [.row n a0.segments.length, .val (.int .i64 a0.size), .val (.int .i64 a0.left)]⟩)) n [some ⟨true, 40, 1, a0.segments.length, fl (eL (eI .u64)) a0.segments⟩])) (n' := (n + 1)) (Fit2.of (fit_loco hU rfl rfl ?_) (by omega)) ?_
    · simp only [push_cast, seval, ↓reduceIte, cast_lit, hi0, hk0, hN0, hN]
    refine ren_fito (k := 1) (k' := 2) hU [0] [0, 0] rfl rfl rfl rfl ⟨rfl, rfl⟩ ?_
    simp only [push_cast, seval, ↓reduceIte, cast_lit, hi0, hk0, hN0, hN]
  simp only [push_cast, seval, ↓reduceIte, cast_lit, Try.results11, hi0, hk0, hN0, hN]


theorem ok_arena_Arena_there {a0 : S_arena_Arena} {a1 : Int} {r : (Bool × S_arena_Arena)} {O : Objs} {n : Nat} {i0 j0_0 : Nat} (hi0 : i0 < n) (hj0_0 : j0_0 < n) (hne0_0 : i0 ≠ j0_0) (ho0 : O i0 = some ⟨false, 59, 3, 1, [.row j0_0 a0.segments.length, .val (.int .i64 a0.size), .val (.int .i64 a0.left)]⟩) (hoj0_0 : O j0_0 = some ⟨true, 40, 1, a0.segments.length, fl (eL (eI .u64)) a0.segments⟩) (h : m_arena_Arena_there a0 a1 = some r) : GTo Try.prog 28 [.ref i0 0, .val (.int .i64 a1)] O n (.val (.bool r.1)) (Loc ((O.upd j0_0 none).upd i0 (some ⟨false, 59, 3, 1, [.row n r.2.segments.length, .val (.int .i64 r.2.size), .val (.int .i64 r.2.left)]⟩)) n [some ⟨true, 40, 1, r.2.segments.length, fl (eL (eI .u64)) r.2.segments⟩]) (n + 1) := by
  unfold m_arena_Arena_there at h
  refine fn_of tab_ok Try.call28 Try.func28 rfl (Nat.le_of_ble_eq_true rfl) (by omega) fun hU => ?_
  have e0 := take_fit (ba := n) (E := ⟨13, [], genv 0 [.ref i0 0, .val (.int .i64 a1)]⟩) (O := (Loc O n [])) (n := n) (i := i0) (j := j0_0) (k := 0) (len := a0.segments.length) (q := ⟨false, 59, 3, 1, [.row j0_0 a0.segments.length, .val (.int .i64 a0.size), .val (.int .i64 a0.left)]⟩) (qj := ⟨true, 40, 1, a0.segments.length, fl (eL (eI .u64)) a0.segments⟩) (by rw [Loc_out _ hi0]; first | exact ho0 | exact upd_same _ _ _) rfl (by rw [Loc_out _ hj0_0]; exact hoj0_0) hne0_0 (by omega)
  simp only [Loc_updo _ _ hj0_0, Loc_updo _ _ hi0, Loc_push, Loc_push0, upd_updU, upd_in hne0_0, List.set_cons_zero, List.set_cons_succ, List.cons_append, List.nil_append, List.length_cons, List.length_nil, Nat.zero_add, Nat.reduceAdd, Nat.add_assoc] at e0
  refine W_fit2 e0 ?_
  have hU := (Und.drop hU j0_0)
  have hk0 : ∀ k, i0 < n + k := fun k => by omega
  have hN0 : ∀ o, Objs.upd (O.upd j0_0 none) i0 o n = none := fun o => upd_fresh hU hi0 _ (Nat.le_refl _)
  have hN : ∀ o k, Objs.upd (O.upd j0_0 none) i0 o (n + k) = none := fun o k => upd_fresh hU hi0 _ (Nat.le_add_right _ _)
  show W _ _ _ _ ⟨13, [], [(0, .ref i0 0), (1, .val (.int .i64 a1))]⟩ (Loc ((O.upd j0_0 none).upd i0 (some ⟨false, 59, 3, 1, [.row n a0.segments.length, .val (.int .i64 a0.size), .val (.int .i64 a0.left)]⟩)) n [some ⟨true, 40, 1, a0.segments.length, fl (eL (eI .u64)) a0.segments⟩]) _
  refine W_sq [0, 1] (W_regionD tab_ok [] ?_)
  simp only [push_cast, seval, ↓reduceIte, cast_lit, hi0, hk0, hN0, hN]
  obtain ⟨z2, hz2, h⟩ := bC h
  refine W_seqN (E' := ⟨13, [], [(4, .val (.bool z2.1))]⟩) (O' := (Loc ((O.upd j0_0 none).upd i0 (some ⟨false, 59, 3, 1, [.row (n + 2) z2.2.1.length, .val (.int .i64 z2.2.2.1), .val (.int .i64 z2.2.2.2)]⟩)) n [none, none, some ⟨true, 40, 1, z2.2.1.length, fl (eL (eI .u64)) z2.2.1⟩])) (n0 := (n + 3)) ?_ ?_
  · rcases Bool.eq_false_or_eq_true (decide (0 ≤ a1)) with c5 | c5
    · replace hz2 := condT c5 hz2
      obtain ⟨y4, hy4, hz2⟩ := bC hz2
      refine W_regionD tab_ok [some true, some true, some true, some true] ?_
      simp only [push_cast, seval, ↓reduceIte, cast_lit, c5, hi0, hk0, hN0, hN]
      refine (ok_arena_Arena_Len (i0 := i0) (j0_0 := n) (by omega) (by omega) (by omega) (by simp only [push_cast, seval, ↓reduceIte, cast_lit, fl_nil, c5, hi0, hk0, hN0, hN] <;> rfl) (by simp only [push_cast, seval, ↓reduceIte, cast_lit, fl_nil, c5, hi0, hk0, hN0, hN] <;> rfl) hy4).then ?_
      simp only [push_cast, seval, ↓reduceIte, cast_lit, c5, hi0, hk0, hN0, hN]
      have hz2 := Option.some.inj hz2; subst hz2
      refine And.intro rfl ?_
      refine Fit2.trans (E' := (⟨13, [], [(4, .val (.bool (cond (decide (0 ≤ a1)) (decide (a1 < y4.1)) false)))]⟩ : Env)) (O' := (Loc ((O.upd j0_0 none).upd i0 (some ⟨false, 59, 3, 1, [.row (n + 1) y4.2.segments.length, .val (.int .i64 y4.2.size), .val (.int .i64 y4.2.left)]⟩)) n [none, some ⟨true, 40, 1, y4.2.segments.length, fl (eL (eI .u64)) y4.2.segments⟩])) (n' := (n + 2)) (Fit2.of (fit_loco hU rfl rfl ?_) (by omega)) ?_
      · simp only [push_cast, seval, ↓reduceIte, cast_lit, c5, hi0, hk0, hN0, hN]
      refine ren_fito (k := 2) (k' := 3) hU [1, 2] [0, 0, 1] rfl rfl rfl rfl ⟨rfl, rfl⟩ ?_
      simp only [push_cast, seval, ↓reduceIte, cast_lit, hi0, hk0, hN0, hN]
    · replace hz2 := condF c5 hz2
      refine W_regionD tab_ok [some false, some false, some false, some false] ?_
      simp only [push_cast, seval, ↓reduceIte, cast_lit, c5, hi0, hk0, hN0, hN]
      have hz2 := Option.some.inj hz2; subst hz2
      refine And.intro rfl ?_
      refine Fit2.trans (E' := (⟨13, [], [(4, .val (.bool false))]⟩ : Env)) (O' := (Loc ((O.upd j0_0 none).upd i0 (some ⟨false, 59, 3, 1, [.row n a0.segments.length, .val (.int .i64 a0.size), .val (.int .i64 a0.left)]⟩)) n [some ⟨true, 40, 1, a0.segments.length, fl (eL (eI .u64)) a0.segments⟩])) (n' := (n + 1)) (Fit2.of (fit_loco hU rfl rfl ?_) (by omega)) ?_
      · simp only [push_cast, seval, ↓reduceIte, cast_lit, c5, hi0, hk0, hN0, hN]
      refine ren_fito (k := 1) (k' := 3) hU [2] [0, 0, 0] rfl rfl rfl rfl ⟨rfl, rfl⟩ ?_
      simp only [push_cast, seval, ↓reduceIte, cast_lit, hi0, hk0, hN0, hN]
  refine W_ret ?_
  try simp only [gthen, gblock]
  have h := Option.some.inj h; subst h
  refine fin_locV (k := 1) (i := i0) (q1 := ⟨false, 59, 3, 1, [.row n z2.2.1.length, .val (.int .i64 z2.2.2.1), .val (.int .i64 z2.2.2.2)]⟩) (L3 := [some ⟨true, 40, 1, z2.2.1.length, fl (eL (eI .u64)) z2.2.1⟩, none]) (E2 := (⟨13, [], [(4, .val (.bool z2.1))]⟩ : Env)) (n3 := (n + 2)) (.inr rfl) hU rfl [.val (.bool z2.1)] ?_ ?_
  · refine Fit2.trans (E' := (⟨13, [], [(4, .val (.bool z2.1))]⟩ : Env)) (O' := (Loc ((O.upd j0_0 none).upd i0 (some ⟨false, 59, 3, 1, [.row (n + 2) z2.2.1.length, .val (.int .i64 z2.2.2.1), .val (.int .i64 z2.2.2.2)]⟩)) n [none, none, some ⟨true, 40, 1, z2.2.1.length, fl (eL (eI .u64)) z2.2.1⟩])) (n' := (n + 3)) (Fit2.of (fit_loco hU rfl rfl ?_) (by omega)) ?_
    · simp only [push_cast, seval, ↓reduceIte, cast_lit, hi0, hk0, hN0, hN]
    refine ren_fito (k := 3) (k' := 2) hU [1, 1, 0] [2, 0] rfl rfl rfl rfl ⟨rfl, rfl⟩ ?_
    simp only [push_cast, seval, ↓reduceIte, cast_lit, hi0, hk0, hN0, hN]
  simp only [push_cast, seval, ↓reduceIte, cast_lit, Try.results28, hi0, hk0, hN0, hN]


theorem ok_arena_Arena_In {a0 : S_arena_Arena} {a1 : Int} {a2 : Int} {r : (Int × Bool × S_arena_Arena)} {O : Objs} {n : Nat} {i0 j0_0 : Nat} (hi0 : i0 < n) (hj0_0 : j0_0 < n) (hne0_0 : i0 ≠ j0_0) (ho0 : O i0 = some ⟨false, 59, 3, 1, [.row j0_0 a0.segments.length, .val (.int .i64 a0.size), .val (.int .i64 a0.left)]⟩) (hoj0_0 : O j0_0 = some ⟨true, 40, 1, a0.segments.length, fl (eL (eI .u64)) a0.segments⟩) (h : m_arena_Arena_In a0 a1 a2 = some r) : GTo Try.prog 21 [.ref i0 0, .val (.int .i64 a1), .val (.int .i64 a2)] O n (.tup [.val (.int .i64 r.1), .val (.bool r.2.1)]) (Loc ((O.upd j0_0 none).upd i0 (some ⟨false, 59, 3, 1, [.row n r.2.2.segments.length, .val (.int .i64 r.2.2.size), .val (.int .i64 r.2.2.left)]⟩)) n [some ⟨true, 40, 1, r.2.2.segments.length, fl (eL (eI .u64)) r.2.2.segments⟩]) (n + 1) := by
  unfold m_arena_Arena_In at h
  refine fn_of tab_ok Try.call21 Try.func21 rfl (Nat.le_of_ble_eq_true rfl) (by omega) fun hU => ?_
  have e0 := take_fit (ba := n) (E := ⟨35, [], genv 0 [.ref i0 0, .val (.int .i64 a1), .val (.int .i64 a2)]⟩) (O := (Loc O n [])) (n := n) (i := i0) (j := j0_0) (k := 0) (len := a0.segments.length) (q := ⟨false, 59, 3, 1, [.row j0_0 a0.segments.length, .val (.int .i64 a0.size), .val (.int .i64 a0.left)]⟩) (qj := ⟨true, 40, 1, a0.segments.length, fl (eL (eI .u64)) a0.segments⟩) (by rw [Loc_out _ hi0]; first | exact ho0 | exact upd_same _ _ _) rfl (by rw [Loc_out _ hj0_0]; exact hoj0_0) hne0_0 (by omega)
  simp only [Loc_updo _ _ hj0_0, Loc_updo _ _ hi0, Loc_push, Loc_push0, upd_updU, upd_in hne0_0, List.set_cons_zero, List.set_cons_succ, List.cons_append, List.nil_append, List.length_cons, List.length_nil, Nat.zero_add, Nat.reduceAdd, Nat.add_assoc] at e0
  refine W_fit2 e0 ?_
  have hU := (Und.drop hU j0_0)
  have hk0 : ∀ k, i0 < n + k := fun k => by omega
  have hN0 : ∀ o, Objs.upd (O.upd j0_0 none) i0 o n = none := fun o => upd_fresh hU hi0 _ (Nat.le_refl _)
  have hN : ∀ o k, Objs.upd (O.upd j0_0 none) i0 o (n + k) = none := fun o k => upd_fresh hU hi0 _ (Nat.le_add_right _ _)
  show W _ _ _ _ ⟨35, [], [(0, .ref i0 0), (1, .val (.int .i64 a1)), (2, .val (.int .i64 a2))]⟩ (Loc ((O.upd j0_0 none).upd i0 (some ⟨false, 59, 3, 1, [.row n a0.segments.length, .val (.int .i64 a0.size), .val (.int .i64 a0.left)]⟩)) n [some ⟨true, 40, 1, a0.segments.length, fl (eL (eI .u64)) a0.segments⟩]) _
  refine W_sq [0, 1, 2] (W_regionD tab_ok [] ?_)
  simp only [push_cast, seval, ↓reduceIte, cast_lit, hi0, hk0, hN0, hN]
  refine W_seqK ?_
  obtain ⟨z3, hz3, h⟩ := bC h
  refine W_seqN (E' := ⟨35, [], [(0, .ref i0 0), (1, .val (.int .i64 a1)), (2, .val (.int .i64 a2)), (30, .val (.bool z3.1))]⟩) (O' := (Loc ((O.upd j0_0 none).upd i0 (some ⟨false, 59, 3, 1, [.row (n + 3) z3.2.1.length, .val (.int .i64 z3.2.2.1), .val (.int .i64 z3.2.2.2)]⟩)) n [none, none, none, some ⟨true, 40, 1, z3.2.1.length, fl (eL (eI .u64)) z3.2.1⟩])) (n0 := (n + 4)) ?_ ?_
  · obtain ⟨y6, hy6, hz3⟩ := bC hz3
    rcases Bool.eq_false_or_eq_true y6.1 with c8 | c8
    · replace hz3 := condT c8 hz3
      rcases Bool.eq_false_or_eq_true (decide (a2 < 0)) with c9 | c9
      · replace hz3 := condT c9 hz3
        try rw [c9] at c8
        refine W_regionD tab_ok [none, none, some false, some false, some false, some false, some false, some false, some false, some false, some false, some false, some false] ?_
        simp only [push_cast, seval, ↓reduceIte, cast_lit, c8, c9, hi0, hk0, hN0, hN]
        repeat (with_reducible refine And.intro (by first | (intro h0; simp only [h0, and_self]; done) | (intro h0; simp only [h0, Bool.not_false, Bool.not_true, Bool.true_and, Bool.and_true, true_and, and_true, and_self, imp_self, implies_true, bne_iff_ne, ne_eq, beq_iff_eq]; done) | (intros; simp_all; done) | exact True.intro) ?_)
        refine (ok_arena_Arena_there (i0 := i0) (j0_0 := n) (by omega) (by omega) (by omega) (by simp only [push_cast, seval, ↓reduceIte, cast_lit, fl_nil, c8, c9, hi0, hk0, hN0, hN] <;> rfl) (by simp only [push_cast, seval, ↓reduceIte, cast_lit, fl_nil, c8, c9, hi0, hk0, hN0, hN] <;> rfl) hy6).then ?_
        simp only [push_cast, seval, ↓reduceIte, cast_lit, c8, c9, hi0, hk0, hN0, hN]
        repeat (with_reducible refine And.intro (by first | (intro h0; simp only [h0, and_self]; done) | (intro h0; simp only [h0, Bool.not_false, Bool.not_true, Bool.true_and, Bool.and_true, true_and, and_true, and_self, imp_self, implies_true, bne_iff_ne, ne_eq, beq_iff_eq]; done) | (intros; simp_all; done) | exact True.intro) ?_)
        have hz3 := Option.some.inj hz3; subst hz3
        refine And.intro rfl ?_
        refine Fit2.trans (E' := (⟨35, [], [(0, .ref i0 0), (1, .val (.int .i64 a1)), (2, .val (.int .i64 a2)), (30, .val (.bool true))]⟩ : Env)) (O' := (Loc ((O.upd j0_0 none).upd i0 (some ⟨false, 59, 3, 1, [.row (n + 1) y6.2.segments.length, .val (.int .i64 y6.2.size), .val (.int .i64 y6.2.left)]⟩)) n [none, some ⟨true, 40, 1, y6.2.segments.length, fl (eL (eI .u64)) y6.2.segments⟩])) (n' := (n + 2)) (Fit2.of (fit_loco hU rfl rfl ?_) (by omega)) ?_
        · simp only [push_cast, seval, ↓reduceIte, cast_lit, c8, c9, hi0, hk0, hN0, hN]
        refine ren_fito (k := 2) (k' := 4) hU [2, 3] [0, 0, 0, 1] rfl rfl rfl rfl ⟨rfl, rfl⟩ ?_
        simp only [push_cast, seval, ↓reduceIte, cast_lit, hi0, hk0, hN0, hN]
      · replace hz3 := condF c9 hz3
        try rw [c9] at c8
        rcases Bool.eq_false_or_eq_true (decide (y6.2.left < a2)) with c10 | c10
        · replace hz3 := condT c10 hz3
          try rw [c10] at c8
          try rw [c10] at c9
          refine W_regionD tab_ok [none, none, some true, some true, some true, some true, some true, some true, some false, some false, some false, some false, some false] ?_
          simp only [push_cast, seval, ↓reduceIte, cast_lit, c8, c9, c10, hi0, hk0, hN0, hN]
          repeat (with_reducible refine And.intro (by first | (intro h0; simp only [h0, and_self]; done) | (intro h0; simp only [h0, Bool.not_false, Bool.not_true, Bool.true_and, Bool.and_true, true_and, and_true, and_self, imp_self, implies_true, bne_iff_ne, ne_eq, beq_iff_eq]; done) | (intros; simp_all; done) | exact True.intro) ?_)
          refine (ok_arena_Arena_there (i0 := i0) (j0_0 := n) (by omega) (by omega) (by omega) (by simp only [push_cast, seval, ↓reduceIte, cast_lit, fl_nil, c8, c9, c10, hi0, hk0, hN0, hN] <;> rfl) (by simp only [push_cast, seval, ↓reduceIte, cast_lit, fl_nil, c8, c9, c10, hi0, hk0, hN0, hN] <;> rfl) hy6).then ?_
          simp only [push_cast, seval, ↓reduceIte, cast_lit, c8, c9, c10, hi0, hk0, hN0, hN]
          repeat (with_reducible refine And.intro (by first | (intro h0; simp only [h0, and_self]; done) | (intro h0; simp only [h0, Bool.not_false, Bool.not_true, Bool.true_and, Bool.and_true, true_and, and_true, and_self, imp_self, implies_true, bne_iff_ne, ne_eq, beq_iff_eq]; done) | (intros; simp_all; done) | exact True.intro) ?_)
          have hz3 := Option.some.inj hz3; subst hz3
          refine And.intro rfl ?_
          refine Fit2.trans (E' := (⟨35, [], [(0, .ref i0 0), (1, .val (.int .i64 a1)), (2, .val (.int .i64 a2)), (30, .val (.bool true))]⟩ : Env)) (O' := (Loc ((O.upd j0_0 none).upd i0 (some ⟨false, 59, 3, 1, [.row (n + 1) y6.2.segments.length, .val (.int .i64 y6.2.size), .val (.int .i64 y6.2.left)]⟩)) n [none, some ⟨true, 40, 1, y6.2.segments.length, fl (eL (eI .u64)) y6.2.segments⟩])) (n' := (n + 2)) (Fit2.of (fit_loco hU rfl rfl ?_) (by omega)) ?_
          · simp only [push_cast, seval, ↓reduceIte, cast_lit, c8, c9, c10, hi0, hk0, hN0, hN]
          refine ren_fito (k := 2) (k' := 4) hU [2, 3] [0, 0, 0, 1] rfl rfl rfl rfl ⟨rfl, rfl⟩ ?_
          simp only [push_cast, seval, ↓reduceIte, cast_lit, hi0, hk0, hN0, hN]
        · replace hz3 := condF c10 hz3
          try rw [c10] at c8
          try rw [c10] at c9
          obtain ⟨y7, hy7, hz3⟩ := bC hz3
          refine W_regionD tab_ok [none, none, some true, some true, some true, some true, some true, some true, some true, some true, some true, some true, some true] ?_
          simp only [push_cast, seval, ↓reduceIte, cast_lit, c8, c9, c10, hi0, hk0, hN0, hN]
          repeat (with_reducible refine And.intro (by first | (intro h0; simp only [h0, and_self]; done) | (intro h0; simp only [h0, Bool.not_false, Bool.not_true, Bool.true_and, Bool.and_true, true_and, and_true, and_self, imp_self, implies_true, bne_iff_ne, ne_eq, beq_iff_eq]; done) | (intros; simp_all; done) | exact True.intro) ?_)
          refine (ok_arena_Arena_there (i0 := i0) (j0_0 := n) (by omega) (by omega) (by omega) (by simp only [push_cast, seval, ↓reduceIte, cast_lit, fl_nil, c8, c9, c10, hi0, hk0, hN0, hN] <;> rfl) (by simp only [push_cast, seval, ↓reduceIte, cast_lit, fl_nil, c8, c9, c10, hi0, hk0, hN0, hN] <;> rfl) hy6).then ?_
          simp only [push_cast, seval, ↓reduceIte, cast_lit, c8, c9, c10, hi0, hk0, hN0, hN]
          repeat (with_reducible refine And.intro (by first | (intro h0; simp only [h0, and_self]; done) | (intro h0; simp only [h0, Bool.not_false, Bool.not_true, Bool.true_and, Bool.and_true, true_and, and_true, and_self, imp_self, implies_true, bne_iff_ne, ne_eq, beq_iff_eq]; done) | (intros; simp_all; done) | exact True.intro) ?_)
          refine (ok_arena_Arena_fits (i0 := i0) (j0_0 := (n + 1)) (by omega) (by omega) (by omega) (by simp only [push_cast, seval, ↓reduceIte, cast_lit, fl_nil, c8, c9, c10, hi0, hk0, hN0, hN] <;> rfl) (by simp only [push_cast, seval, ↓reduceIte, cast_lit, fl_nil, c8, c9, c10, hi0, hk0, hN0, hN] <;> rfl) hy7).then ?_
          simp only [push_cast, seval, ↓reduceIte, cast_lit, c8, c9, c10, hi0, hk0, hN0, hN]
          repeat (with_reducible refine And.intro (by first | (intro h0; simp only [h0, and_self]; done) | (intro h0; simp only [h0, Bool.not_false, Bool.not_true, Bool.true_and, Bool.and_true, true_and, and_true, and_self, imp_self, implies_true, bne_iff_ne, ne_eq, beq_iff_eq]; done) | (intros; simp_all; done) | exact True.intro) ?_)
          have hz3 := Option.some.inj hz3; subst hz3
          refine And.intro rfl ?_
          refine Fit2.trans (E' := (⟨35, [], [(0, .ref i0 0), (1, .val (.int .i64 a1)), (2, .val (.int .i64 a2)), (30, .val (.bool (cond (cond (cond (!y6.1) true (decide (a2 < 0))) true (decide (y6.2.left < a2))) true (!y7.1))))]⟩ : Env)) (O' := (Loc ((O.upd j0_0 none).upd i0 (some ⟨false, 59, 3, 1, [.row (n + 2) y7.2.segments.length, .val (.int .i64 y7.2.size), .val (.int .i64 y7.2.left)]⟩)) n [none, none, some ⟨true, 40, 1, y7.2.segments.length, fl (eL (eI .u64)) y7.2.segments⟩])) (n' := (n + 3)) (Fit2.of (fit_loco hU rfl rfl ?_) (by omega)) ?_
          · simp only [push_cast, seval, ↓reduceIte, cast_lit, c8, c9, c10, hi0, hk0, hN0, hN]
          refine ren_fito (k := 3) (k' := 4) hU [2, 2, 3] [0, 0, 0, 2] rfl rfl rfl rfl ⟨rfl, rfl⟩ ?_
          simp only [push_cast, seval, ↓reduceIte, cast_lit, hi0, hk0, hN0, hN]
    · replace hz3 := condF c8 hz3
      refine W_regionD tab_ok [none, none, some false, some false, some false, some false, some false, some false, some false, some false, some false, some false, some false] ?_
      simp only [push_cast, seval, ↓reduceIte, cast_lit, c8, hi0, hk0, hN0, hN]
      repeat (with_reducible refine And.intro (by first | (intro h0; simp only [h0, and_self]; done) | (intro h0; simp only [h0, Bool.not_false, Bool.not_true, Bool.true_and, Bool.and_true, true_and, and_true, and_self, imp_self, implies_true, bne_iff_ne, ne_eq, beq_iff_eq]; done) | (intros; simp_all; done) | exact True.intro) ?_)
      refine (ok_arena_Arena_there (i0 := i0) (j0_0 := n) (by omega) (by omega) (by omega) (by simp only [push_cast, seval, ↓reduceIte, cast_lit, fl_nil, c8, hi0, hk0, hN0, hN] <;> rfl) (by simp only [push_cast, seval, ↓reduceIte, cast_lit, fl_nil, c8, hi0, hk0, hN0, hN] <;> rfl) hy6).then ?_
      simp only [push_cast, seval, ↓reduceIte, cast_lit, c8, hi0, hk0, hN0, hN]
      repeat (with_reducible refine And.intro (by first | (intro h0; simp only [h0, and_self]; done) | (intro h0; simp only [h0, Bool.not_false, Bool.not_true, Bool.true_and, Bool.and_true, true_and, and_true, and_self, imp_self, implies_true, bne_iff_ne, ne_eq, beq_iff_eq]; done) | (intros; simp_all; done) | exact True.intro) ?_)
      have hz3 := Option.some.inj hz3; subst hz3
      refine And.intro rfl ?_
      refine Fit2.trans (E' := (⟨35, [], [(0, .ref i0 0), (1, .val (.int .i64 a1)), (2, .val (.int .i64 a2)), (30, .val (.bool true))]⟩ : Env)) (O' := (Loc ((O.upd j0_0 none).upd i0 (some ⟨false, 59, 3, 1, [.row (n + 1) y6.2.segments.length, .val (.int .i64 y6.2.size), .val (.int .i64 y6.2.left)]⟩)) n [none, some ⟨true, 40, 1, y6.2.segments.length, fl (eL (eI .u64)) y6.2.segments⟩])) (n' := (n + 2)) (Fit2.of (fit_loco hU rfl rfl ?_) (by omega)) ?_
      · simp only [push_cast, seval, ↓reduceIte, cast_lit, c8, hi0, hk0, hN0, hN]
      refine ren_fito (k := 2) (k' := 4) hU [2, 3] [0, 0, 0, 1] rfl rfl rfl rfl ⟨rfl, rfl⟩ ?_
      simp only [push_cast, seval, ↓reduceIte, cast_lit, hi0, hk0, hN0, hN]
  refine W_cond (t := z3.1) rfl (fun c13 => ?_) (fun c13 => ?_)
  · replace h := condT c13 h
    refine W_sq [6, 7] (W_regionD tab_ok [] ?_)
    simp only [push_cast, seval, ↓reduceIte, cast_lit, hi0, hk0, hN0, hN]
    refine W_ret ?_
    try simp only [gthen, gblock]
    have h := Option.some.inj h; subst h
    refine fin_locV (k := 1) (i := i0) (q1 := ⟨false, 59, 3, 1, [.row n z3.2.1.length, .val (.int .i64 z3.2.2.1), .val (.int .i64 z3.2.2.2)]⟩) (L3 := [some ⟨true, 40, 1, z3.2.1.length, fl (eL (eI .u64)) z3.2.1⟩, none]) (E2 := (⟨35, [], [(6, .val (.int .i64 0)), (7, .val (.bool false))]⟩ : Env)) (n3 := (n + 2)) (.inr rfl) hU rfl [.val (.int .i64 0), .val (.bool false)] ?_ ?_
    · refine Fit2.trans (E' := (⟨35, [], [(6, .val (.int .i64 0)), (7, .val (.bool false))]⟩ : Env)) (O' := (Loc ((O.upd j0_0 none).upd i0 (some ⟨false, 59, 3, 1, [.row (n + 3) z3.2.1.length, .val (.int .i64 z3.2.2.1), .val (.int .i64 z3.2.2.2)]⟩)) n [none, none, none, some ⟨true, 40, 1, z3.2.1.length, fl (eL (eI .u64)) z3.2.1⟩])) (n' := (n + 4)) (Fit2.of (fit_loco hU rfl rfl ?_) (by omega)) ?_
      · simp only [push_cast, seval, ↓reduceIte, cast_lit, hi0, hk0, hN0, hN]
      refine ren_fito (k := 4) (k' := 2) hU [1, 1, 1, 0] [3, 0] rfl rfl rfl rfl ⟨rfl, rfl⟩ ?_
      simp only [push_cast, seval, ↓reduceIte, cast_lit, hi0, hk0, hN0, hN]
    simp only [push_cast, seval, ↓reduceIte, cast_lit, Try.results21, hi0, hk0, hN0, hN]
  · replace h := condF c13 h
    refine W_skip ?_
    try simp only [gthen, gblock]
    refine W_drop [0, 1, 2] [false, false, false, true] ?_
    simp only [push_cast, seval, ↓reduceIte]
    refine W_seqK ?_
    obtain ⟨y12, hy12, h⟩ := bC h
    refine W_regionD tab_ok [] ?_
    simp only [push_cast, seval, ↓reduceIte, cast_lit, hi0, hk0, hN0, hN]
    refine (ok_arena_Arena_grow (i0 := i0) (j0_0 := (n + 3)) (by omega) (by omega) (by omega) (by simp only [push_cast, seval, ↓reduceIte, cast_lit, fl_nil, hi0, hk0, hN0, hN] <;> rfl) (by simp only [push_cast, seval, ↓reduceIte, cast_lit, fl_nil, hi0, hk0, hN0, hN] <;> rfl) hy12).then ?_
    simp only [push_cast, seval, ↓reduceIte, cast_lit, hi0, hk0, hN0, hN]
    refine W_drop [6, 7] [false, false, false, false, true] ?_
    simp only [push_cast, seval, ↓reduceIte]
    refine W_ret ?_
    try simp only [gthen, gblock]
    have h := Option.some.inj h; subst h
    refine fin_locV (k := 1) (i := i0) (q1 := ⟨false, 59, 3, 1, [.row n y12.2.segments.length, .val (.int .i64 y12.2.size), .val (.int .i64 y12.2.left)]⟩) (L3 := [some ⟨true, 40, 1, y12.2.segments.length, fl (eL (eI .u64)) y12.2.segments⟩, none]) (E2 := (⟨35, [], [(6, .val (.int .i64 y12.1)), (7, .val (.bool true))]⟩ : Env)) (n3 := (n + 2)) (.inr rfl) hU rfl [.val (.int .i64 y12.1), .val (.bool true)] ?_ ?_
    · refine Fit2.trans (E' := (⟨35, [], [(6, .val (.int .i64 y12.1)), (7, .val (.bool true))]⟩ : Env)) (O' := (Loc ((O.upd j0_0 none).upd i0 (some ⟨false, 59, 3, 1, [.row (n + 4) y12.2.segments.length, .val (.int .i64 y12.2.size), .val (.int .i64 y12.2.left)]⟩)) n [none, none, none, none, some ⟨true, 40, 1, y12.2.segments.length, fl (eL (eI .u64)) y12.2.segments⟩])) (n' := (n + 5)) (Fit2.of (fit_loco hU rfl rfl ?_) (by omega)) ?_
      · simp only [push_cast, seval, ↓reduceIte, cast_lit, hi0, hk0, hN0, hN]
      refine ren_fito (k := 5) (k' := 2) hU [1, 1, 1, 1, 0] [4, 0] rfl rfl rfl rfl ⟨rfl, rfl⟩ ?_
      simp only [push_cast, seval, ↓reduceIte, cast_lit, hi0, hk0, hN0, hN]
    simp only [push_cast, seval, ↓reduceIte, cast_lit, Try.results21, hi0, hk0, hN0, hN]


theorem ok_arena_Arena_Left {a0 : (Option S_arena_Arena)} {r : Int} {O : Objs} {n : Nat} (h : m_arena_Arena_Left a0 = some r) : GTo Try.prog 10 [(gP e_S_arena_Arena a0)] O n (.val (.int .i64 r)) O n := by
  unfold m_arena_Arena_Left at h
  refine fn_of tab_ok Try.call10 Try.func10 rfl (Nat.le_of_ble_eq_true rfl) (Nat.le_refl _) fun hU => ?_
  have hN0 : O n = none := hU.fresh _ (Nat.le_refl _)
  have hN : ∀ k, O (n + k) = none := fun k => hU.fresh _ (Nat.le_add_right _ _)
  show W _ _ _ _ ⟨9, [], [(0, (gP e_S_arena_Arena a0))]⟩ (Loc O n []) _
  refine W_sq [0] (W_regionD tab_ok [] ?_)
  simp only [push_cast, seval, ↓reduceIte, cast_lit, hN0, hN]
  refine W_seqK ?_
  have g2 := gbin_gP_eql (f := e_S_arena_Arena) (t := 23) tkind23 a0
  refine W_sq [0, 4] (W_regionD tab_ok [] ?_)
  simp only [push_cast, seval, ↓reduceIte, cast_lit, g2, hN0, hN]
  refine W_cond (t := (Option.isNone a0)) rfl (fun c5 => ?_) (fun c5 => ?_)
  · replace h := condT c5 h
    refine W_sq [2] (W_regionD tab_ok [] ?_)
    simp only [push_cast, seval, ↓reduceIte, cast_lit, hN0, hN]
    refine W_ret ?_
    try simp only [gthen, gblock]
    have h := Option.some.inj h; subst h
    refine fin_loc (.inr rfl) hU [.val (.int .i64 0)] (by omega) ?_
    simp only [push_cast, seval, ↓reduceIte, cast_lit, Try.results10, hN0, hN]
  · replace h := condF c5 h
    refine W_skip ?_
    try simp only [gthen, gblock]
    refine W_drop [0] [] ?_
    simp only [push_cast, seval, ↓reduceIte]
    obtain ⟨x4, hx4, h⟩ := bC h
    refine W_sq [2] (W_regionD tab_ok [] ?_)
    simp only [push_cast, seval, ↓reduceIte, cast_lit, hx4, hN0, hN]
    refine W_ret ?_
    try simp only [gthen, gblock]
    have h := Option.some.inj h; subst h
    refine fin_loc (.inr rfl) hU [.val (.int .i64 x4.left)] (by omega) ?_
    simp only [push_cast, seval, ↓reduceIte, cast_lit, Try.results10, hN0, hN]


theorem ok_arena_New {a0 : Int} {a1 : Int} {r : S_arena_Arena} {O : Objs} {n : Nat}  (h : m_arena_New a0 a1 = some r) : GTo Try.prog 7 [.val (.int .i64 a0), .val (.int .i64 a1)] O n (.ref n 0) (Loc O n [some ⟨false, 59, 3, 1, [.row (n + 1) r.segments.length, .val (.int .i64 r.size), .val (.int .i64 r.left)]⟩, some ⟨true, 40, 1, r.segments.length, fl (eL (eI .u64)) r.segments⟩]) (n + 2) := by
  unfold m_arena_New at h
  refine fn_of tab_ok Try.call7 Try.func7 rfl (Nat.le_of_ble_eq_true rfl) (by omega) fun hU => ?_
  have hN0 : O n = none := hU.fresh _ (Nat.le_refl _)
  have hN : ∀ k, O (n + k) = none := fun k => hU.fresh _ (Nat.le_add_right _ _)
  show W _ _ _ _ ⟨12, [], [(0, .val (.int .i64 a0)), (1, .val (.int .i64 a1))]⟩ (Loc O n []) _
  refine W_sq [0, 1] (W_regionD tab_ok [] ?_)
  simp only [push_cast, seval, ↓reduceIte, cast_lit, hN0, hN]
  refine W_sq [4] (W_regionD tab_ok [] ?_)
  simp only [push_cast, seval, ↓reduceIte, cast_lit, hN0, hN]
  refine W_ret ?_
  try simp only [gthen, gblock]
  have h := Option.some.inj h; subst h
  refine fin_locW (k := 2) (L3 := [some ⟨false, 59, 3, 1, [.row (n + 1) ([] : List (List Int)).length, .val (.int .i64 (if a0 < 1 then 1 else a0)), .val (.int .i64 (if 131072 < (if a1 < 0 then 0 else a1) then 131072 else (if a1 < 0 then 0 else a1)))]⟩, some ⟨true, 40, 1, ([] : List (List Int)).length, fl (eL (eI .u64)) ([] : List (List Int))⟩, none]) (E2 := (⟨12, [], [(4, .ref n 0)]⟩ : Env)) (n3 := (n + 3)) (.inr rfl) hU rfl [.ref n 0] ?_ ?_
  · refine Fit2.trans (E' := (⟨12, [], [(4, .ref n 0)]⟩ : Env)) (O' := (Loc O n [some ⟨false, 59, 3, 1, [.val (.slice none 0 0), .val (.int .i64 (if a0 < 1 then 1 else a0)), .val (.int .i64 (if 131072 < (if a1 < 0 then 0 else a1) then 131072 else (if a1 < 0 then 0 else a1)))]⟩])) (n' := (n + 1)) (Fit2.of (fit_loc hU rfl rfl ?_) (by omega)) ?_
    · simp only [push_cast, seval, ↓reduceIte, cast_lit, hN0, hN]
    refine Fit2.trans (adoptF_fit (p := n) (k := 0) (q := ⟨false, 59, 3, 1, [.val (.slice none 0 0), .val (.int .i64 (if a0 < 1 then 1 else a0)), .val (.int .i64 (if 131072 < (if a1 < 0 then 0 else a1) then 131072 else (if a1 < 0 then 0 else a1)))]⟩) 40 1 (by simp only [Loc_at, Loc_at0, List.getElem?_cons_zero, List.getElem?_cons_succ, Option.join_some, List.length_nil, upd_same]) rfl (by omega)) ?_
    simp only [Loc_push, Loc_push0, Loc_upd, Loc_upd0, List.set_cons_zero, List.set_cons_succ, List.cons_append, List.nil_append, List.length_cons, List.length_nil, Nat.zero_add, Nat.reduceAdd, Nat.reduceLT, Nat.add_assoc]
    refine ren_fit (k := 2) (k' := 3) hU [0, 1] [0, 1, 0] rfl rfl rfl rfl ⟨rfl, rfl⟩ ?_
    simp only [push_cast, seval, ↓reduceIte, cast_lit, hN0, hN]
  simp only [push_cast, seval, ↓reduceIte, cast_lit, Try.results7, hN0, hN]



end Go.Proofs.Ytpggbianhdebmaa
