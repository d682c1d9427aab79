/- Part EM2 of this seat's mirrors: functions of the seat's program, and the plain functions that they are; each theorem bears its own conditions. -/
import Derived.Test.YtgffgbdnbjbmoaaEE
import Derived.Test.YtgffgbdnbjbmoaaEM1
namespace Go.Proofs.Ytgffgbdnbjbmoaa
open Go.RowKit
set_option linter.unusedVariables false
set_option linter.unusedSimpArgs false
set_option maxRecDepth 100000
set_option maxHeartbeats 4000000
attribute [local push_cast] Try.results25 Try.results27 Try.results41 Try.results42 Try.results43 Try.results62 Try.results63 Try.results64 Try.results69 Try.results73 Try.results74 Try.results75 Try.results76 Try.results79 Try.results8 Try.results80 Try.results81 Try.results82 Try.results83 Try.results84 Try.results85 Try.results86 Try.results87 vI vB nV sL oR c_S_api_Limits c_S_api_Tree c_S_centoref09_Ref c_S_ptr_Ptr c_S_reader_Ref gfork_t gfork_f pfork_t pfork_f gthen gblock gops_nil gops_plain gops_guard onW gwantB gcalm gact gpick gpickV strip_any strip_val strip_agg strip_tup strip_sl strip_ip strip_row strip_rs strip_rp strip_rl strip_ref strip_fn strip_when evS wok calmOp Op.operands Call.operands gop onK onP atK List.all_cons List.all_nil Bool.and_true Bool.true_and Bool.and_self Value.oneCell' List.take_zero List.take_succ_cons List.take_nil List.drop_zero List.drop_succ_cons List.drop_nil List.append_nil Nat.add_zero Nat.zero_add gstep gputE ev look genv gbin_ii gbin_bb gbin_ss gbin_pp gbin_rp gbin_ip gbin_ll gbin_aa geqS geqF gint gunary gconvert gload gcells gpart_lit gstore cellsOf_agg cellsOf_val cellsOf_sl cellsOf_ip cellsOf_row cellsOf_rs cellsOf_rp cellsOf_rl cellsOf_ref cellsOf_fn cellsOf_any cellsOf_tup cellsOf_when cellsOf_gP gput gplace_lit gfieldAddr gstepIn gindexAddr gindex gfield gopt bLo bHi bMx gextract galloc gbox gbuild gfill gplaces gbuildSlice gmake glen gappend gappendN gsrc gbuiltin gnil live_any live_val live_agg live_tup live_sl live_ip live_fn live_when live_ref live_rs live_rp live_rl live_row live_gP gres gone prun_nil prun_plain prun_guard pop TK.isAgg one_any one_val one_agg one_tup one_when one_sl one_ip one_row one_rs one_rp one_rl one_ref one_fn G.under G.unders List.getD_cons_zero List.getD_cons_succ List.set_cons_zero List.set_cons_succ List.map_cons List.map_nil List.toList_toArray Array.toList_append Option.toArray_none Option.toArray_some Array.toList_map Option.map_some Option.map_none Option.bind_some Option.bind_none List.getElem?_cons_zero List.getElem?_cons_succ List.getElem?_nil List.nil_append List.cons_append List.replicate_succ List.replicate_zero List.length_cons List.length_nil and_true true_and and_false false_and Bool.true_eq_false Bool.false_eq_true forall_const false_implies implies_true IntKind.bits if_true if_false ite_true ite_false eq_self true_implies false_or or_false or_true true_or not_true_eq_false not_false_eq_true decide_true decide_false decide_eq_true_eq decide_eq_false_iff_not beq_iff_eq bne_iff_ne ne_eq Bool.not_eq_true Bool.not_eq_false beq_eq_false_iff_ne bne_eq_false_iff_eq beq_self_eq_true bne_self_eq_false Option.some.injEq exists_eq_left' exists_eq_left ge_iff_le gt_iff_lt decide_not Bool.not_true Bool.not_false imp_self gquiet cond_true cond_false beqT beqF Bool.not_not Bool.and_false Bool.false_and Bool.or_true Bool.true_or Bool.or_false Bool.false_or Loc_at Loc_at0 Loc_upd Loc_upd0 Loc_push Loc_push0 Option.join_some Nat.add_assoc Int.toNat_natCast eI eB eS eL fl_nil gopsD_nil gopsD_plain gopsD_t gopsD_f gopsD_n onKD onWD prunD_nil prunD_plain prunD_t prunD_f prunD_n onPD fitO fitO1 sameO fitL fl_append fl_one List.length_append G.agg.injEq G.row.injEq G.ref.injEq G.val.injEq G.sl.injEq G.tup.injEq Value.int.injEq Value.bool.injEq Value.string.injEq List.cons.injEq exists_and_left exists_const List.flatten_cons List.flatten_nil Int.le_refl Nat.le_refl upd_updU Loc_out Loc_updo Bool.not_eq_true' Bool.not_eq_false' wkl_nil wkl_cons wk_any wk_val wk_agg wk_tup wk_sl wk_fn List.size_toArray renO renO1 G.ren G.rens renL rho_at rho_at0 gP_none gP_some strip_gP wok_gP one_gP G.fn.injEq wk_slnil wk_slrow wk_slrs wk_ip wk_ipref wk_row wk_rs wk_rp wk_rl wk_ref locLt0 locLt Option.join_none upd_same fl_cons undef keepL Arr.len Arr.put_eq prunB_nil prunB_bar prunB_bart prunB_plain prunB_t prunB_f prunB_n onB onBP gcopy setI_len cpyAt_len Loc_cat0 Loc_cat1 Loc_cat2 Loc_cat3 Loc_cat4 Loc_cat5 noObjs_at prunK_nil prunK_bar prunK_pass prunK_plain prunK_low prunK_pt prunK_pf prunK_lt prunK_lf onKg onKa onKp popL pickOps lows lowG prunK_shp prunK_fill popH shpOp fillOp fillG rho_low rens_app Loc_cat6 Loc_cat7 Loc_cat8 Loc_cat9 Loc_cat10 Loc_cat11 Loc_cat12 Loc_cat13 Loc_cat14 Loc_cat15 Loc_cat16 dropM prT kdOf tab2 tkind2 tab3 tkind3 tab4 tkind4 tab5 tkind5 tab6 tkind6 tab7 tkind7 tab8 tkind8 tab9 tkind9 tab10 tkind10 tab11 tkind11 tab12 tkind12 tab13 tkind13 tab14 tkind14 tab15 tkind15 tab16 tkind16 tab17 tkind17 tab18 tkind18 tab19 tkind19 tab21 tkind21 tab22 tkind22 tab23 tkind23 tab24 tkind24 tab26 tkind26 tab27 tkind27 tab28 tkind28 tab29 tkind29 tab33 tkind33 tab34 tkind34 tab35 tkind35 tab37 tkind37 tab40 tkind40 tab45 tkind45 tab46 tkind46 tab54 tkind54 tab55 tkind55 tab63 tkind63 tab64 tkind64 tab71 tkind71 tab72 tkind72 tab73 tkind73 tab74 tkind74 tab77 tkind77 tab78 tkind78 tab79 tkind79 tab81 tkind81 tab82 tkind82 tab85 tkind85 tab86 tkind86 tab87 tkind87 tab88 tkind88 tab96 tkind96 tab97 tkind97 tab98 tkind98 tab101 tkind101 tab116 tkind116 tab117 tkind117 tab118 tkind118 tab135 tkind135 tab137 tkind137 tab138 tkind138 tab140 tkind140 tab141 tkind141 tab145 tkind145 tab146 tkind146 tab148 tkind148 tab149 tkind149 e_S_api_Limits wkl_eI_u64 wka_eI_u64 len_eI_u64 one_eI_u64 wkp_eI_u64 undp_eI_u64 rens_eI_u64 renp_eI_u64 und_eI_u64 wkl_eL_eI_u64 wka_eL_eI_u64 len_eL_eI_u64 one_eL_eI_u64 wkp_eL_eI_u64 undp_eL_eI_u64 rens_eL_eI_u64 renp_eL_eI_u64 und_eL_eI_u64 e_S_ptr_Ptr e_S_centoref06_Loc e_S_centoref09_Ref e_S_api_Tree e0_eq_S_api_Tree wkl_e_S_api_Tree wka_e_S_api_Tree len_e_S_api_Tree one_e_S_api_Tree wkp_e_S_api_Tree undp_e_S_api_Tree rens_e_S_api_Tree renp_e_S_api_Tree und_e_S_api_Tree e_S_arena_Arena wkl_e_S_arena_Arena wka_e_S_arena_Arena len_e_S_arena_Arena one_e_S_arena_Arena wkp_e_S_arena_Arena undp_e_S_arena_Arena rens_e_S_arena_Arena renp_e_S_arena_Arena und_e_S_arena_Arena wkl_eI_i64 wka_eI_i64 len_eI_i64 one_eI_i64 wkp_eI_i64 undp_eI_i64 rens_eI_i64 renp_eI_i64 und_eI_i64 e_S_far_Loc e_S_reader_Ref e_S_equal_comparer wkl_e_S_equal_comparer wka_e_S_equal_comparer len_e_S_equal_comparer one_e_S_equal_comparer wkp_e_S_equal_comparer undp_e_S_equal_comparer rens_e_S_equal_comparer renp_e_S_equal_comparer und_e_S_equal_comparer e_S_equal_hasher wkl_e_S_equal_hasher wka_e_S_equal_hasher len_e_S_equal_hasher one_e_S_equal_hasher wkp_e_S_equal_hasher undp_e_S_equal_hasher rens_e_S_equal_hasher renp_e_S_equal_hasher und_e_S_equal_hasher
def oT_r_centoref10_Meaning (r_centoref10_Meaning : ((List (List Int)) → S_centoref09_Ref → Int → Int → Option (S_api_Tree × Int × Int))) : Prop := ∀ {a0 : (List (List Int))} {a1 : S_centoref09_Ref} {a2 : Int} {a3 : Int} {r : (S_api_Tree × Int × Int)} {O : Objs} {n : Nat}, r_centoref10_Meaning a0 a1 a2 a3 = some r → GTo Try.prog 25 [(sL (eL (eI .u64)) a0), .agg (c_S_centoref09_Ref a1), (vI a2), (vI a3)] O n (.tup [.agg (c_S_api_Tree r.1), (vI r.2.1), (vI r.2.2)]) O n
def oT_r_centoref10_kids (r_centoref10_kids : ((List (List Int)) → S_centoref09_Ref → Int → Int → Option (S_api_Tree × Int × Int))) : Prop := ∀ {a0 : (List (List Int))} {a1 : S_centoref09_Ref} {a2 : Int} {a3 : Int} {r : (S_api_Tree × Int × Int)} {O : Objs} {n : Nat}, r_centoref10_kids a0 a1 a2 a3 = some r → GTo Try.prog 41 [(sL (eL (eI .u64)) a0), .agg (c_S_centoref09_Ref a1), (vI a2), (vI a3)] O n (.tup [.agg (c_S_api_Tree r.1), (vI r.2.1), (vI r.2.2)]) O n
theorem okb_centoref10_Meaning {r_centoref10_Meaning : ((List (List Int)) → S_centoref09_Ref → Int → Int → Option (S_api_Tree × Int × Int))} {r_centoref10_kids : ((List (List Int)) → S_centoref09_Ref → Int → Int → Option (S_api_Tree × Int × Int))} (ok_r_centoref10_Meaning : oT_r_centoref10_Meaning r_centoref10_Meaning) (ok_r_centoref10_kids : oT_r_centoref10_kids r_centoref10_kids) {a0 : (List (List Int))} {a1 : S_centoref09_Ref} {a2 : Int} {a3 : Int} {r : (S_api_Tree × Int × Int)} {O : Objs} {n : Nat} (h : b_centoref10_Meaning r_centoref10_Meaning r_centoref10_kids a0 a1 a2 a3 = some r) : GTo Try.prog 25 [(sL (eL (eI .u64)) a0), .agg (c_S_centoref09_Ref a1), (vI a2), (vI a3)] O n (.tup [.agg (c_S_api_Tree r.1), (vI r.2.1), (vI r.2.2)]) O n := by
  unfold b_centoref10_Meaning at h
  refine zFn Try.call25 Try.func25 fun hU hN0 hN => ?_
  show W _ _ _ _ ⟨149, [], [(0, (sL (eL (eI .u64)) a0)), (1, .agg (c_S_centoref09_Ref a1)), (2, (vI a2)), (3, (vI a3))]⟩ (Loc O n []) _
  refine zQ [0, 2, 3, 5, 8] ?_
  refine W_seqK ?_
  obtain ⟨y2, hy2, h⟩ := bC h
  refine W_drawY tab_ok (by kernel_rfl) [.low, .low, .low, .plain, .low, .plain, .pass, .bar] (fun i => i < (n + 2)) [0, 1, 2, 3, 4, 5, 6, 7] [.low, .low, .low, .plain, .low, .plain, .pass, .bar] [] (by kernel_rfl) rfl ?_
  refine zS ?_
  refine zO ?_
  first | refine PCallA.of (fun _ _ => ok_centoref09_Ref_Words hy2) ?_ | refine PCall.of (ok_centoref09_Ref_Words hy2) ?_
  refine zS ?_
  refine zO ?_
  refine zDs [0, 2, 3, 5, 8, 11] [true, true, true] ?_
  refine zQ [0, 2, 3, 5, 8, 11, 25] ?_
  refine W_cond (t := (a1.Kind == 0)) rfl (fun c27 => ?_) (fun c27 => ?_)
  · replace h := condT c27 h
    refine W_seqK ?_
    refine zRd [8, 9, 10] [false, true, false] ?_
    exact zRet [.agg [(vI a1.Kind), (sL (eI .u64) y2), nV], (vI a3), (vI 0)]
  · replace h := condF c27 h
    refine zKd [0, 2, 3, 5, 8, 11] [true, true, true] ?_
    refine W_seqK ?_
    refine zQD [0, 2, 3, 5, 8, 11, 43] [none, none, none, none, none, none, none, none, none, none, none, none] ?_
    refine W_cond (t := (cond (decide (a2 < 1)) true (cond (cond (a1.Kind == 9) (decide (0 < a1.Count)) false) (decide (a2 < 2)) false))) rfl (fun c26 => ?_) (fun c26 => ?_)
    · replace h := condT c26 h
      refine W_seqK ?_
      refine zRd [8, 9, 10] [false, true, false] ?_
      exact zRet [.agg [(vI a1.Kind), (sL (eI .u64) y2), nV], (vI a3), (vI 3)]
    · replace h := condF c26 h
      refine zKd [0, 2, 3, 5, 8, 11] [true, true, true] ?_
      refine W_seqK ?_
      obtain ⟨y4, hy4, h⟩ := bC h
      refine zCd (ok_centoref09_Ref_Kids hy4) [0, 2, 3, 5, 8, 11, 12] [true, true, true] ?_
      obtain ⟨z5, hz5, h⟩ := bC h
      refine W_seqN (E' := ⟨149, [], [(0, (sL (eL (eI .u64)) a0)), (2, (vI a2)), (3, (vI a3)), (5, .ref n 0), (8, .ref (n + 1) 0), (11, .ref (n + 2) 0), (12, (vI z5))]⟩) (O' := (Loc O n [some ⟨false, 64, 7, 1, (c_S_centoref09_Ref a1)⟩, some ⟨false, 29, 3, 1, [(vI 0), nV, nV]⟩, some ⟨false, 29, 3, 1, [(vI a1.Kind), (sL (eI .u64) y2), nV]⟩])) (n0 := (n + 3)) ?_ ?_
      · refine zQ [0, 2, 3, 5, 8, 11, 12, 51] ?_
        refine W_cond (t := (a1.Kind == 1)) rfl (fun c6 => ?_) (fun c6 => ?_)
        · replace hz5 := condT c6 hz5
          refine zR ?_
          exact zEn hz5
        · replace hz5 := condF c6 hz5
          refine zK ?_
          exact zEn hz5
      obtain ⟨z7, hz7, h⟩ := bC h
      refine W_seqN (E' := ⟨149, [], [(0, (sL (eL (eI .u64)) a0)), (2, (vI a2)), (3, (vI a3)), (5, .ref n 0), (8, .ref (n + 1) 0), (11, .ref (n + 2) 0), (12, (vI z7))]⟩) (O' := (Loc O n [some ⟨false, 64, 7, 1, (c_S_centoref09_Ref a1)⟩, some ⟨false, 29, 3, 1, [(vI 0), nV, nV]⟩, some ⟨false, 29, 3, 1, [(vI a1.Kind), (sL (eI .u64) y2), nV]⟩])) (n0 := (n + 3)) ?_ ?_
      · refine zQ [0, 2, 3, 5, 8, 11, 12, 60] ?_
        refine W_cond (t := (a1.Kind == 9)) rfl (fun c8 => ?_) (fun c8 => ?_)
        · replace hz7 := condT c8 hz7
          refine zR ?_
          exact zEn hz7
        · replace hz7 := condF c8 hz7
          refine zK ?_
          exact zEn hz7
      refine W_seqK ?_
      refine zQ [0, 2, 3, 5, 8, 11, 12, 73] ?_
      refine W_cond (t := (decide (a3 < z7))) rfl (fun c25 => ?_) (fun c25 => ?_)
      · replace h := condT c25 h
        refine W_seqK ?_
        refine zRd [8, 9, 10] [false, true, false] ?_
        exact zRet [.agg [(vI a1.Kind), (sL (eI .u64) y2), nV], (vI a3), (vI 3)]
      · replace h := condF c25 h
        refine zKd [0, 2, 3, 5, 8, 11, 12] [true, true, true] ?_
        refine zQ [0, 2, 3, 5, 8, 11] ?_
        refine W_seqK ?_
        refine zQd [0, 2, 3, 5, 8, 11, 13] [0, 2, 3, 5, 8, 11, 13] [true, true, true] ?_
        refine W_fit2 (E' := (⟨149, [], [(0, (sL (eL (eI .u64)) a0)), (2, (vI a2)), (3, (vI (IntKind.i64.wrap (a3 - z7)))), (5, .ref n 0), (8, .ref (n + 1) 0), (11, .ref (n + 2) 0), (13, (vI 0))]⟩ : Env)) (O' := (Loc O n [some ⟨false, 64, 7, 1, (c_S_centoref09_Ref a1)⟩, some ⟨false, 29, 3, 1, [(vI 0), nV, nV]⟩, some ⟨false, 29, 3, 1, [(vI a1.Kind), (sL (eI .u64) y2), .row (n + 3) ([] : List S_api_Tree).length]⟩, some (oR 29 3 e_S_api_Tree ([] : List S_api_Tree)), none])) (n' := (n + 5)) ?_ ?_
        · refine Fit2.trans (E' := (⟨149, [], [(0, (sL (eL (eI .u64)) a0)), (2, (vI a2)), (3, (vI (IntKind.i64.wrap (a3 - z7)))), (5, .ref n 0), (8, .ref (n + 1) 0), (11, .ref (n + 2) 0), (13, (vI 0))]⟩ : Env)) (O' := (Loc O n [some ⟨false, 64, 7, 1, (c_S_centoref09_Ref a1)⟩, some ⟨false, 29, 3, 1, [(vI 0), nV, nV]⟩, some ⟨false, 29, 3, 1, [(vI a1.Kind), (sL (eI .u64) y2), nV]⟩])) (n' := (n + 3)) (Fit2.of (fit_loc hU rfl rfl ?_) (by omega)) ?_
          · exact zSe
          refine Fit2.trans (adoptF_fit (p := (n + 2)) (k := 2) (q := ⟨false, 29, 3, 1, [(vI a1.Kind), (sL (eI .u64) y2), nV]⟩) 29 3 (by simp only [Loc_at, Loc_at0, List.getElem?_cons_zero, List.getElem?_cons_succ, Option.join_some, List.length_nil, upd_same]) rfl (by omega)) ?_
          simp only [Loc_push, Loc_push0, Loc_upd, Loc_upd0, List.set_cons_zero, List.set_cons_succ, List.cons_append, List.nil_append, List.length_cons, List.length_nil, Nat.zero_add, Nat.reduceAdd, Nat.reduceLT, Nat.add_assoc]
          refine ren_fit (k := 4) (k' := 5) hU [0, 1, 2, 3] [0, 1, 2, 3, 0] rfl rfl rfl rfl ⟨rfl, rfl⟩ ?_
          exact zSe
        obtain ⟨z24, hz24, h⟩ := bC h
        refine W_sumB (J := (SumJ (fun z24 => JR n (⟨149, [], [(8, .ref (n + 1) 0), (9, (vI z24.1)), (10, (vI z24.2.1))]⟩ : Env) (Loc O n [none, some ⟨false, 29, 3, 1, [(vI a1.Kind), (sL (eI .u64) y2), (sL e_S_api_Tree z24.2.2)]⟩, none]) (n + 3)) (fun z24 => JX 0 n (⟨149, [], [(3, (vI z24.1)), (8, .ref (n + 1) 0), (11, .ref (n + 2) 0)]⟩ : Env) (Loc O n [none, some ⟨false, 29, 3, 1, [(vI 0), nV, nV]⟩, some ⟨false, 29, 3, 1, [(vI a1.Kind), (sL (eI .u64) y2), .row (n + 3) z24.2.length]⟩, some (oR 29 3 e_S_api_Tree z24.2), none]) (n + 5)))) (z := z24) ?_ fun hw => ?_
        · refine W_loopJ hz24 (fun s0_ => ⟨149, [], [(0, (sL (eL (eI .u64)) a0)), (2, (vI a2)), (3, (vI s0_.1)), (5, .ref n 0), (8, .ref (n + 1) 0), (11, .ref (n + 2) 0), (13, (vI s0_.2.1))]⟩) (fun s0_ => (Loc O n [some ⟨false, 64, 7, 1, (c_S_centoref09_Ref a1)⟩, some ⟨false, 29, 3, 1, [(vI 0), nV, nV]⟩, some ⟨false, 29, 3, 1, [(vI a1.Kind), (sL (eI .u64) y2), .row (n + 3) s0_.2.2.length]⟩, some (oR 29 3 e_S_api_Tree s0_.2.2), none])) (SumJ (fun z24 => JR n (⟨149, [], [(8, .ref (n + 1) 0), (9, (vI z24.1)), (10, (vI z24.2.1))]⟩ : Env) (Loc O n [none, some ⟨false, 29, 3, 1, [(vI a1.Kind), (sL (eI .u64) y2), (sL e_S_api_Tree z24.2.2)]⟩, none]) (n + 3)) (fun z24 => JX 0 n (⟨149, [], [(3, (vI z24.1)), (8, .ref (n + 1) 0), (11, .ref (n + 2) 0)]⟩ : Env) (Loc O n [none, some ⟨false, 29, 3, 1, [(vI 0), nV, nV]⟩, some ⟨false, 29, 3, 1, [(vI a1.Kind), (sL (eI .u64) y2), .row (n + 3) z24.2.length]⟩, some (oR 29 3 e_S_api_Tree z24.2), none]) (n + 5))) ?_
          intro s0_ x0_ hs0_
          unfold b_centoref10_Meaning_L0 at hs0_
          try dsimp only
          refine W_seqK ?_
          refine W_seqK ?_
          obtain ⟨y10, hy10, hs0_⟩ := bC hs0_
          refine zCd (ok_centoref09_Ref_Kids hy10) [0, 2, 3, 5, 8, 11, 13, 82] [true, true, true, true, false] ?_
          refine W_cond (t := (decide (s0_.2.1 < y10))) rfl (fun c23 => ?_) (fun c23 => ?_)
          · replace hs0_ := condT c23 hs0_
            refine zKd [0, 2, 3, 5, 8, 11, 13] [true, true, true, true, false] ?_
            refine W_seqK ?_
            refine W_block ?_
            refine W_seqK ?_
            obtain ⟨y12, hy12, hs0_⟩ := bC hs0_
            refine zCd (ok_centoref09_Ref_Kid hy12) [0, 2, 3, 5, 8, 11, 13, 14, 15] [true, true, true, true, false, true] ?_
            refine W_seqK ?_
            refine zQ [0, 2, 3, 5, 8, 11, 13, 14, 15, 93] ?_
            refine W_cond (t := (y12.2 != 0)) rfl (fun c22 => ?_) (fun c22 => ?_)
            · replace hs0_ := condT c22 hs0_
              refine W_seqK ?_
              refine zRd [8, 9, 10] [false, true, false, true, false, false] ?_
              refine zW ?_
              exact zEy hs0_
            · replace hs0_ := condF c22 hs0_
              refine zKd [0, 2, 3, 5, 8, 11, 13, 14, 15] [true, true, true, true, false, true] ?_
              refine W_seqK ?_
              obtain ⟨y14, hy14, hs0_⟩ := bC hs0_
              refine W_drawY tab_ok (by kernel_rfl) [.low, .low, .low, .plain, .low, .plain, .pass, .bar] (fun i => i < (n + 6)) [0, 1, 2, 3, 4, 5, 6, 7] [.low, .low, .low, .plain, .low, .plain, .pass, .bar] [] (by kernel_rfl) rfl ?_
              refine zS ?_
              refine zO ?_
              first | refine PCallA.of (fun _ _ => ok_centoref09_Ref_Words hy14) ?_ | refine PCall.of (ok_centoref09_Ref_Words hy14) ?_
              refine zS ?_
              refine zO ?_
              refine zD [0, 2, 3, 5, 8, 11, 13, 14, 15, 16] [true, true, true, true, false, true, true] ?_
              obtain ⟨z15, hz15, hs0_⟩ := bC hs0_
              refine W_seqN (E' := ⟨149, [], [(0, (sL (eL (eI .u64)) a0)), (2, (vI a2)), (3, (vI z15.1)), (5, .ref n 0), (8, .ref (n + 1) 0), (11, .ref (n + 2) 0), (13, (vI s0_.2.1)), (15, (vI z15.2.1)), (16, .ref (n + 6) 0)]⟩) (O' := (Loc O n [some ⟨false, 64, 7, 1, (c_S_centoref09_Ref a1)⟩, some ⟨false, 29, 3, 1, [(vI 0), nV, nV]⟩, some ⟨false, 29, 3, 1, [(vI a1.Kind), (sL (eI .u64) y2), .row (n + 3) s0_.2.2.length]⟩, some (oR 29 3 e_S_api_Tree s0_.2.2), none, none, some ⟨false, 29, 3, 1, [(vI z15.2.2.1), (sL (eI .u64) z15.2.2.2.1), (sL e_S_api_Tree z15.2.2.2.2)]⟩])) (n0 := (n + 7)) ?_ ?_
              · refine W_block ?_
                refine zQ [0, 2, 3, 5, 8, 11, 13, 14, 15, 16, 103] ?_
                refine W_cond (t := (a1.Kind == 9)) rfl (fun c19 => ?_) (fun c19 => ?_)
                · replace hz15 := condT c19 hz15
                  obtain ⟨y16, hy16, hz15⟩ := bC hz15
                  refine zC (ok_r_centoref10_kids hy16) ?_
                  exact zEn hz15
                · replace hz15 := condF c19 hz15
                  refine zQD [0, 2, 3, 5, 8, 11, 13, 14, 15, 16, 117] [none, none, none] ?_
                  refine W_cond (t := (cond (a1.Kind == 1) true (a1.Kind == 8))) rfl (fun c18 => ?_) (fun c18 => ?_)
                  · replace hz15 := condT c18 hz15
                    obtain ⟨y17, hy17, hz15⟩ := bC hz15
                    refine zC (ok_r_centoref10_Meaning hy17) ?_
                    exact zEn hz15
                  · replace hz15 := condF c18 hz15
                    refine zK ?_
                    exact zEn hz15
              refine W_seqK ?_
              refine zQ [0, 2, 3, 5, 8, 11, 13, 15, 16, 137] ?_
              refine W_cond (t := (z15.2.1 != 0)) rfl (fun c21 => ?_) (fun c21 => ?_)
              · replace hs0_ := condT c21 hs0_
                refine W_seqK ?_
                refine zRd [8, 9, 10] [false, true, false, true, false, false, false] ?_
                refine zW ?_
                exact zEy hs0_
              · replace hs0_ := condF c21 hs0_
                refine zKd [0, 2, 3, 5, 8, 11, 13, 16] [true, true, true, true, false, false, true] ?_
                obtain ⟨l20, pl20, ql20, el20, hs0_⟩ := bA (k := 1) rfl hs0_
                refine zRox3 [] pl20 ql20 el20 ?_
                refine W_fit ⟨149, [], [(0, (sL (eL (eI .u64)) a0)), (2, (vI a2)), (3, (vI z15.1)), (5, .ref n 0), (8, .ref (n + 1) 0), (11, .ref (n + 2) 0), (13, (vI s0_.2.1))]⟩ (Loc O n [some ⟨false, 64, 7, 1, (c_S_centoref09_Ref a1)⟩, some ⟨false, 29, 3, 1, [(vI 0), nV, nV]⟩, some ⟨false, 29, 3, 1, [(vI a1.Kind), (sL (eI .u64) y2), .row (n + 3) l20.length]⟩, some (oR 29 3 e_S_api_Tree l20), none, none, none, none]) (fit_loc hU rfl rfl ?_) ?_
                · exact zXe3 pl20 ql20 el20
                refine zR ?_
                exact zEn hs0_
          · replace hs0_ := condF c23 hs0_
            exact zEx hs0_
        rcases z24 with z24 | z24
        · dsimp only [SumJ] at hw h
          refine W_blockR hw ?_
          try simp only [gthen, gblock, ↓reduceIte, Nat.reduceEqDiff]
          exact zFin [.agg [(vI a1.Kind), (sL (eI .u64) y2), (sL e_S_api_Tree z24.2.2)], (vI z24.1), (vI z24.2.1)]
        · dsimp only [SumJ] at hw h
          refine W_blockX hw ?_
          try simp only [gthen, gblock, ↓reduceIte, Nat.reduceEqDiff]
          refine zDs [3, 8, 11] [false, true, true, true, false] ?_
          refine zRd [8, 9, 10] [false, true, false, true, false] ?_
          exact zRet [.agg [(vI a1.Kind), (sL (eI .u64) y2), .row (n + 3) z24.2.length], (vI z24.1), (vI 0)]

theorem okb_centoref10_kids {r_centoref10_Meaning : ((List (List Int)) → S_centoref09_Ref → Int → Int → Option (S_api_Tree × Int × Int))} {r_centoref10_kids : ((List (List Int)) → S_centoref09_Ref → Int → Int → Option (S_api_Tree × Int × Int))} (ok_r_centoref10_Meaning : oT_r_centoref10_Meaning r_centoref10_Meaning) (ok_r_centoref10_kids : oT_r_centoref10_kids r_centoref10_kids) {a0 : (List (List Int))} {a1 : S_centoref09_Ref} {a2 : Int} {a3 : Int} {r : (S_api_Tree × Int × Int)} {O : Objs} {n : Nat} (h : b_centoref10_kids r_centoref10_Meaning r_centoref10_kids a0 a1 a2 a3 = some r) : GTo Try.prog 41 [(sL (eL (eI .u64)) a0), .agg (c_S_centoref09_Ref a1), (vI a2), (vI a3)] O n (.tup [.agg (c_S_api_Tree r.1), (vI r.2.1), (vI r.2.2)]) O n := by
  unfold b_centoref10_kids at h
  refine zFn Try.call41 Try.func41 fun hU hN0 hN => ?_
  show W _ _ _ _ ⟨63, [], [(0, (sL (eL (eI .u64)) a0)), (1, .agg (c_S_centoref09_Ref a1)), (2, (vI a2)), (3, (vI a3))]⟩ (Loc O n []) _
  refine zQ [0, 2, 3, 5, 8] ?_
  refine W_seqK ?_
  obtain ⟨y2, hy2, h⟩ := bC h
  refine zCd (ok_centoref09_Ref_Words hy2) [0, 2, 3, 5, 8, 11] [true, true, true] ?_
  refine W_seqK ?_
  refine zQd [0, 2, 3, 5, 8, 11, 12] [0, 2, 3, 5, 8, 11, 12] [true, true, true] ?_
  refine W_fit2 (E' := (⟨63, [], [(0, (sL (eL (eI .u64)) a0)), (2, (vI a2)), (3, (vI a3)), (5, .ref n 0), (8, .ref (n + 1) 0), (11, .ref (n + 2) 0), (12, (vI 0))]⟩ : Env)) (O' := (Loc O n [some ⟨false, 64, 7, 1, (c_S_centoref09_Ref a1)⟩, some ⟨false, 29, 3, 1, [(vI 0), nV, nV]⟩, some ⟨false, 29, 3, 1, [(vI 1), (sL (eI .u64) y2), .row (n + 3) ([] : List S_api_Tree).length]⟩, some (oR 29 3 e_S_api_Tree ([] : List S_api_Tree)), none])) (n' := (n + 5)) ?_ ?_
  · refine Fit2.trans (E' := (⟨63, [], [(0, (sL (eL (eI .u64)) a0)), (2, (vI a2)), (3, (vI a3)), (5, .ref n 0), (8, .ref (n + 1) 0), (11, .ref (n + 2) 0), (12, (vI 0))]⟩ : Env)) (O' := (Loc O n [some ⟨false, 64, 7, 1, (c_S_centoref09_Ref a1)⟩, some ⟨false, 29, 3, 1, [(vI 0), nV, nV]⟩, some ⟨false, 29, 3, 1, [(vI 1), (sL (eI .u64) y2), nV]⟩])) (n' := (n + 3)) (Fit2.of (fit_loc hU rfl rfl ?_) (by omega)) ?_
    · exact zSe
    refine Fit2.trans (adoptF_fit (p := (n + 2)) (k := 2) (q := ⟨false, 29, 3, 1, [(vI 1), (sL (eI .u64) y2), nV]⟩) 29 3 (by simp only [Loc_at, Loc_at0, List.getElem?_cons_zero, List.getElem?_cons_succ, Option.join_some, List.length_nil, upd_same]) rfl (by omega)) ?_
    simp only [Loc_push, Loc_push0, Loc_upd, Loc_upd0, List.set_cons_zero, List.set_cons_succ, List.cons_append, List.nil_append, List.length_cons, List.length_nil, Nat.zero_add, Nat.reduceAdd, Nat.reduceLT, Nat.add_assoc]
    refine ren_fit (k := 4) (k' := 5) hU [0, 1, 2, 3] [0, 1, 2, 3, 0] rfl rfl rfl rfl ⟨rfl, rfl⟩ ?_
    exact zSe
  obtain ⟨z11, hz11, h⟩ := bC h
  refine W_sumB (J := (SumJ (fun z11 => JR n (⟨63, [], [(8, .ref (n + 1) 0), (9, (vI z11.1)), (10, (vI z11.2.1))]⟩ : Env) (Loc O n [none, some ⟨false, 29, 3, 1, [(vI 1), (sL (eI .u64) y2), (sL e_S_api_Tree z11.2.2)]⟩, none]) (n + 3)) (fun z11 => JX 0 n (⟨63, [], [(3, (vI z11.1)), (8, .ref (n + 1) 0), (11, .ref (n + 2) 0)]⟩ : Env) (Loc O n [none, some ⟨false, 29, 3, 1, [(vI 0), nV, nV]⟩, some ⟨false, 29, 3, 1, [(vI 1), (sL (eI .u64) y2), .row (n + 3) z11.2.length]⟩, some (oR 29 3 e_S_api_Tree z11.2), none]) (n + 5)))) (z := z11) ?_ fun hw => ?_
  · refine W_loopJ hz11 (fun s0_ => ⟨63, [], [(0, (sL (eL (eI .u64)) a0)), (2, (vI a2)), (3, (vI s0_.1)), (5, .ref n 0), (8, .ref (n + 1) 0), (11, .ref (n + 2) 0), (12, (vI s0_.2.1))]⟩) (fun s0_ => (Loc O n [some ⟨false, 64, 7, 1, (c_S_centoref09_Ref a1)⟩, some ⟨false, 29, 3, 1, [(vI 0), nV, nV]⟩, some ⟨false, 29, 3, 1, [(vI 1), (sL (eI .u64) y2), .row (n + 3) s0_.2.2.length]⟩, some (oR 29 3 e_S_api_Tree s0_.2.2), none])) (SumJ (fun z11 => JR n (⟨63, [], [(8, .ref (n + 1) 0), (9, (vI z11.1)), (10, (vI z11.2.1))]⟩ : Env) (Loc O n [none, some ⟨false, 29, 3, 1, [(vI 1), (sL (eI .u64) y2), (sL e_S_api_Tree z11.2.2)]⟩, none]) (n + 3)) (fun z11 => JX 0 n (⟨63, [], [(3, (vI z11.1)), (8, .ref (n + 1) 0), (11, .ref (n + 2) 0)]⟩ : Env) (Loc O n [none, some ⟨false, 29, 3, 1, [(vI 0), nV, nV]⟩, some ⟨false, 29, 3, 1, [(vI 1), (sL (eI .u64) y2), .row (n + 3) z11.2.length]⟩, some (oR 29 3 e_S_api_Tree z11.2), none]) (n + 5))) ?_
    intro s0_ x0_ hs0_
    unfold b_centoref10_kids_L0 at hs0_
    try dsimp only
    refine W_seqK ?_
    refine zQ [0, 2, 3, 5, 8, 11, 12, 25] ?_
    refine W_cond (t := (decide (s0_.2.1 < a1.Ptrs))) rfl (fun c10 => ?_) (fun c10 => ?_)
    · replace hs0_ := condT c10 hs0_
      refine zKd [0, 2, 3, 5, 8, 11, 12] [true, true, true, true, false] ?_
      refine W_seqK ?_
      refine W_block ?_
      refine W_seqK ?_
      obtain ⟨y4, hy4, hs0_⟩ := bC hs0_
      refine zCd (ok_centoref09_Ref_Kid hy4) [0, 2, 3, 5, 8, 11, 12, 13, 14] [true, true, true, true, false, true] ?_
      refine W_seqK ?_
      refine zQ [0, 2, 3, 5, 8, 11, 12, 13, 14, 36] ?_
      refine W_cond (t := (y4.2 != 0)) rfl (fun c9 => ?_) (fun c9 => ?_)
      · replace hs0_ := condT c9 hs0_
        refine W_seqK ?_
        refine zRd [8, 9, 10] [false, true, false, true, false, false] ?_
        refine zW ?_
        exact zEy hs0_
      · replace hs0_ := condF c9 hs0_
        refine zKd [0, 2, 3, 5, 8, 11, 12, 13] [true, true, true, true, false, true] ?_
        refine W_seqK ?_
        obtain ⟨y6, hy6, hs0_⟩ := bC hs0_
        refine zCd (ok_r_centoref10_Meaning hy6) [0, 2, 5, 8, 11, 12, 15, 16, 17] [true, true, true, true, false, false, true] ?_
        refine W_seqK ?_
        refine zQ [0, 2, 5, 8, 11, 12, 15, 16, 17, 50] ?_
        refine W_cond (t := (y6.2.2 != 0)) rfl (fun c8 => ?_) (fun c8 => ?_)
        · replace hs0_ := condT c8 hs0_
          refine W_seqK ?_
          refine zRd [8, 9, 10] [false, true, false, true, false, false, false] ?_
          refine zW ?_
          exact zEy hs0_
        · replace hs0_ := condF c8 hs0_
          refine zKd [0, 2, 5, 8, 11, 12, 15, 16] [true, true, true, true, false, false, true] ?_
          refine zQ [0, 2, 3, 5, 8, 11, 12, 15] ?_
          obtain ⟨l7, pl7, ql7, el7, hs0_⟩ := bA (k := 1) rfl hs0_
          refine zRox3 [] pl7 ql7 el7 ?_
          refine W_fit ⟨63, [], [(0, (sL (eL (eI .u64)) a0)), (2, (vI a2)), (3, (vI y6.2.1)), (5, .ref n 0), (8, .ref (n + 1) 0), (11, .ref (n + 2) 0), (12, (vI s0_.2.1))]⟩ (Loc O n [some ⟨false, 64, 7, 1, (c_S_centoref09_Ref a1)⟩, some ⟨false, 29, 3, 1, [(vI 0), nV, nV]⟩, some ⟨false, 29, 3, 1, [(vI 1), (sL (eI .u64) y2), .row (n + 3) l7.length]⟩, some (oR 29 3 e_S_api_Tree l7), none, none, none, none]) (fit_loc hU rfl rfl ?_) ?_
          · exact zXe3 pl7 ql7 el7
          refine zR ?_
          exact zEn hs0_
    · replace hs0_ := condF c10 hs0_
      exact zEx hs0_
  rcases z11 with z11 | z11
  · dsimp only [SumJ] at hw h
    refine W_blockR hw ?_
    try simp only [gthen, gblock, ↓reduceIte, Nat.reduceEqDiff]
    exact zFin [.agg [(vI 1), (sL (eI .u64) y2), (sL e_S_api_Tree z11.2.2)], (vI z11.1), (vI z11.2.1)]
  · dsimp only [SumJ] at hw h
    refine W_blockX hw ?_
    try simp only [gthen, gblock, ↓reduceIte, Nat.reduceEqDiff]
    refine zDs [3, 8, 11] [false, true, true, true, false] ?_
    refine zRd [8, 9, 10] [false, true, false, true, false] ?_
    exact zRet [.agg [(vI 1), (sL (eI .u64) y2), .row (n + 3) z11.2.length], (vI z11.1), (vI 0)]

theorem lv_centoref10_Meaning_ok : ∀ k, (oT_r_centoref10_Meaning ((lv_centoref10_Meaning k).1)) ∧ (oT_r_centoref10_kids ((lv_centoref10_Meaning k).2)) := fun k => by
  induction k with
  | zero => exact ⟨@fun a0 a1 a2 a3 r O n h => (nomatch (show (none : Option _) = some _ from h)), @fun a0 a1 a2 a3 r O n h => (nomatch (show (none : Option _) = some _ from h))⟩
  | succ k ih => exact ⟨@fun a0 a1 a2 a3 r O n h => okb_centoref10_Meaning (ih.1) (ih.2)  h, @fun a0 a1 a2 a3 r O n h => okb_centoref10_kids (ih.1) (ih.2)  h⟩

theorem ok_centoref10_Meaning {a0 : (List (List Int))} {a1 : S_centoref09_Ref} {a2 : Int} {a3 : Int} {r : (S_api_Tree × Int × Int)} {O : Objs} {n : Nat} (h : m_centoref10_Meaning a0 a1 a2 a3 = some r) : GTo Try.prog 25 [(sL (eL (eI .u64)) a0), .agg (c_S_centoref09_Ref a1), (vI a2), (vI a3)] O n (.tup [.agg (c_S_api_Tree r.1), (vI r.2.1), (vI r.2.2)]) O n := by
  obtain ⟨k, hk⟩ := lim_some h
  exact (lv_centoref10_Meaning_ok k).1  hk

theorem ok_centoref10_kids {a0 : (List (List Int))} {a1 : S_centoref09_Ref} {a2 : Int} {a3 : Int} {r : (S_api_Tree × Int × Int)} {O : Objs} {n : Nat} (h : m_centoref10_kids a0 a1 a2 a3 = some r) : GTo Try.prog 41 [(sL (eL (eI .u64)) a0), .agg (c_S_centoref09_Ref a1), (vI a2), (vI a3)] O n (.tup [.agg (c_S_api_Tree r.1), (vI r.2.1), (vI r.2.2)]) O n := by
  obtain ⟨k, hk⟩ := lim_some h
  exact (lv_centoref10_Meaning_ok k).2  hk

theorem ok_centoref10_Unfold {a0 : (List (List Int))} {a1 : S_api_Limits} {r : (S_api_Tree × Int × Int)} {O : Objs} {n : Nat} (h : m_centoref10_Unfold a0 a1 = some r) : GTo Try.prog 8 [(sL (eL (eI .u64)) a0), .agg (c_S_api_Limits a1)] O n (.tup [.agg (c_S_api_Tree r.1), (vI r.2.1), (vI r.2.2)]) O n := by
  unfold m_centoref10_Unfold at h
  refine zFn Try.call8 Try.func8 fun hU hN0 hN => ?_
  show W _ _ _ _ ⟨43, [], [(0, (sL (eL (eI .u64)) a0)), (1, .agg (c_S_api_Limits a1))]⟩ (Loc O n []) _
  refine zQ [0, 3, 4] ?_
  refine W_seqK ?_
  obtain ⟨y2, hy2, h⟩ := bC h
  refine zCd (ok_centoref10_Limits hy2) [0, 3, 4] [true, true] ?_
  refine W_seqK ?_
  obtain ⟨y4, hy4, h⟩ := bC h
  refine zCd (ok_centoref09_At hy4) [0, 3, 4, 7, 8] [true, true, true] ?_
  refine W_seqK ?_
  refine zQ [0, 3, 4, 7, 8, 20] ?_
  refine W_cond (t := (y4.2 != 0)) rfl (fun c8 => ?_) (fun c8 => ?_)
  · replace h := condT c8 h
    refine W_seqK ?_
    refine zRd [4, 5, 6] [false, true, false] ?_
    exact zRet [.agg [(vI 0), nV, nV], (vI 0), (vI y4.2)]
  · replace h := condF c8 h
    refine zKd [0, 3, 4, 7] [true, true, true] ?_
    refine W_seqK ?_
    obtain ⟨y6, hy6, h⟩ := bC h
    refine zCd (ok_centoref10_Meaning hy6) [3, 4, 9, 10, 11] [true, true, false, true] ?_
    refine W_seqK ?_
    refine zQ [3, 4, 9, 10, 11, 35] ?_
    refine W_cond (t := (y6.2.2 != 0)) rfl (fun c7 => ?_) (fun c7 => ?_)
    · replace h := condT c7 h
      refine W_seqK ?_
      refine zRd [4, 5, 6] [false, true, false, false] ?_
      exact zRet [.agg [(vI 0), nV, nV], (vI 0), (vI y6.2.2)]
    · replace h := condF c7 h
      refine zKd [3, 4, 9, 10] [true, true, false, true] ?_
      refine W_seqK ?_
      refine W_drawY tab_ok (by kernel_rfl) [.plain, .low, .low, .plain, .low, .pass, .plain, .plain] (fun i => i ≠ n + 1) [0, 1, 2, 3, 4, 5, 6, 7] [.plain, .low, .low, .plain, .low, .pass, .plain, .plain] [] (by kernel_rfl) rfl ?_
      refine zS ?_
      refine zO ?_
      refine zD [4, 5, 6] [false, true, false, false] ?_
      exact zRet [.agg (c_S_api_Tree y6.1), (vI (IntKind.i64.wrap (y2.Weight - y6.2.1))), (vI 0)]

theorem ok_slices_Clone_uint64_uint64 {a0 r : List Int} {O : Objs} {n : Nat} (h : m_slices_Clone_uint64_uint64 a0 = some r) : GTo Try.prog 64 [(sL (eI .u64) a0)] O n (.row n r.length) (Loc O n [some (oR 40 1 (eI .u64) r)]) (n + 1) := by
  have h1 := appI_1 h
  have h2 := appI_2 h
  have h3 := appI_eq h
  rw [List.nil_append] at h3
  subst h3
  simp only [List.length_nil, Nat.zero_add] at h1 h2
  clear h
  refine zFn Try.call64 Try.func64 fun hU hN0 hN => ?_
  show W _ _ _ _ ⟨8, [], [(0, (sL (eI .u64) r))]⟩ (Loc O n []) _
  refine zQ [0] ?_
  refine W_know 0 r.length (fl (eI .u64) r) rfl (Nat.le_of_ble_eq_true rfl) (pures_fl pu_eI_u64 _) fun A c hA => ?_
  refine zQ [0, 4] ?_
  cases A with
  | none =>
    obtain rfl : r = [] := List.eq_nil_of_length_eq_zero (hA rfl)
    refine W_cond (t := true) rfl (fun _ => ?_) (fun hc => by cases hc)
    refine zQ [2] ?_
    refine zW ?_
    refine fin_locW (k := 1) (L3 := [some ⟨true, 40, 1, 0, []⟩]) (E2 := ⟨8, [], [(2, .row n 0), (2, nV)]⟩) (n3 := (n + 1)) (.inr rfl) hU rfl [.row n 0] ?_ ?_
    · have ha := adopt_fit (ba := n) (E := ⟨8, [], [(2, .val (.slice none 0 0))]⟩) (O := (Loc O n [])) (n := n) 2 40 1 rfl (by omega)
      simp only [Loc_push0] at ha
      exact ha
    simp only [push_cast, seval, ↓reduceIte, cast_lit, Try.results64, hN0, hN]
  | some A =>
    refine W_cond (t := false) rfl (fun hc => by cases hc) (fun _ => ?_)
    refine zK ?_
    refine And.intro rfl (And.intro (Nat.le_of_ble_eq_true rfl) ?_)
    refine W_seqK ?_
    refine W_regionD tab_ok [] ?_
    simp only [push_cast, seval, ↓reduceIte, cast_lit, h1, h2, hN0, hN]
    refine zW ?_
    refine fin_locR (.inr rfl) hU rfl [.row n r.length] (by omega) ?_
    simp only [push_cast, seval, ↓reduceIte, cast_lit, Try.results64, hN0, hN]

theorem okf_slices_Clone_uint64_uint64 {a0 r : List Int} {O : Objs} {n : Nat} (h : m_slices_Clone_uint64_uint64 a0 = some r) : GTo Try.prog 64 [(sL (eI .u64) a0)] O n ((sL (eI .u64) r)) O n := by
  refine GTo.freeze (ok_slices_Clone_uint64_uint64 h) fun hU => ?_
  have hN0 : O n = none := hU.fresh _ (Nat.le_refl _)
  have hN : ∀ k, O (n + k) = none := fun k => hU.fresh _ (Nat.le_add_right _ _)
  exact zSe

theorem ok_arena_clone {a0 : (List (List Int))} {r : (List (List Int))} {O : Objs} {n : Nat} (h : m_arena_clone a0 = some r) : GTo Try.prog 43 [(sL (eL (eI .u64)) a0)] O n ((sL (eL (eI .u64)) r)) O n := by
  unfold m_arena_clone at h
  refine zFn Try.call43 Try.func43 fun hU hN0 hN => ?_
  show W _ _ _ _ ⟨23, [], [(0, (sL (eL (eI .u64)) a0))]⟩ (Loc O n []) _
  refine zQ [0] ?_
  refine W_seqK ?_
  obtain ⟨l2, al2, bl2, cl2, el2, h⟩ := bM2 (c := 24) rfl h
  have nl2 : Int.toNat (a0.length : Int) = List.length l2 := by rw [el2, List.length_replicate]
  have fl2 : ∀ O O' n, wkl O O' n (List.replicate (List.length l2) [G.val (.slice none 0 0)]).flatten (fl (eL (eI .u64)) l2) = True := fun O O' n => by rw [← nl2, el2]; exact eq_true (wkl_nils _ _)
  clear el2
  refine W_regionD tab_ok [] ?_
  simp only [push_cast, seval, ↓reduceIte, cast_lit, al2, bl2, cl2, fl2, nl2, hN0, hN]
  refine W_fit ⟨23, [], [(0, (sL (eL (eI .u64)) a0)), (3, .row n l2.length)]⟩ (Loc O n [some (oR 26 1 (eL (eI .u64)) l2)]) (fit_loc hU rfl rfl ?_) ?_
  · simp only [push_cast, seval, ↓reduceIte, cast_lit, al2, bl2, cl2, fl2, nl2, hN0, hN]
  refine W_seqK ?_
  refine zQd [3, 9, 10, 11] [3, 9, 10, 11] [true] ?_
  obtain ⟨z9, hz9, h⟩ := bC h
  refine W_blockX (E' := ⟨23, [], [(3, .row n z9.length)]⟩) (O' := (Loc O n [some (oR 26 1 (eL (eI .u64)) z9)])) (n0 := (n + 1)) ?_ ?_
  · refine W_loopJ hz9 (fun s0_ => ⟨23, [], [(3, .row n s0_.2.length), (9, (sL (eL (eI .u64)) a0)), (10, (vI (a0.length : Int))), (11, (vI s0_.1))]⟩) (fun s0_ => (Loc O n [some (oR 26 1 (eL (eI .u64)) s0_.2)])) (fun z9 => JX 0 n (⟨23, [], [(3, .row n z9.length)]⟩ : Env) (Loc O n [some (oR 26 1 (eL (eI .u64)) z9)]) (n + 1)) ?_
    intro s0_ x0_ hs0_
    unfold m_arena_clone_L0 at hs0_
    try dsimp only
    refine zQ [3, 9, 10, 11, 12] ?_
    refine W_seqK ?_
    refine W_cond (t := (decide (s0_.1 < (a0.length : Int)))) rfl (fun c8 => ?_) (fun c8 => ?_)
    · replace hs0_ := condT c8 hs0_
      refine zKd [3, 9, 10, 11] [true] ?_
      refine W_seqK ?_
      refine W_block ?_
      obtain ⟨x4, hx4, ax4, bx4, cx4, hs0_⟩ := bE (f := (eL (eI .u64))) tab26 (fun _ => rfl) (by decide) hs0_
      refine W_sq [3, 4, 5, 9, 10, 11] (W_regionD tab_ok [] ?_)
      refine zF3 ax4 bx4 cx4 ?_
      obtain ⟨y5, hy5, hs0_⟩ := bC hs0_
      obtain ⟨x6, hx6, ax6, bx6, cx6, hs0_⟩ := bE (f := (eL (eI .u64))) tab26 (fun _ => rfl) (by decide) hs0_
      have gu7 : gplace (fl (eL (eI .u64)) s0_.2) [.sl y5.length (fl (eI .u64) y5)] (Int.toNat s0_.1 * 1) = some (fl (eL (eI .u64)) (setI s0_.2 s0_.1 y5)) := gplace_el (f := (eL (eI .u64))) (ti := ⟨.bool, 1, 0, [], false⟩) (x := y5) (fun _ => rfl) (getI_nat hx6)
      refine zRof4 [] ax6 bx6 cx6 gu7 ?_
      refine (okf_slices_Clone_uint64_uint64 hy5).then ?_
      refine zF4 ax6 bx6 cx6 gu7 ?_
      refine zD [3, 9, 10, 11] [true] ?_
      refine zR ?_
      exact zEn hs0_
    · replace hs0_ := condF c8 hs0_
      exact zEx hs0_
  try simp only [gthen, gblock, ↓reduceIte, Nat.reduceEqDiff]
  refine zD [3] [true] ?_
  refine zQ [2] ?_
  exact zRet [.row n z9.length]

theorem ok_arena_Of {a0 : (List (List Int))} {r : (Option S_arena_Arena)} {O : Objs} {n : Nat} (h : m_arena_Of a0 = some r) : GTo Try.prog 27 [(sL (eL (eI .u64)) a0)] O n ((gP e_S_arena_Arena r)) O n := by
  unfold m_arena_Of at h
  refine zFn Try.call27 Try.func27 fun hU hN0 hN => ?_
  show W _ _ _ _ ⟨7, [], [(0, (sL (eL (eI .u64)) a0))]⟩ (Loc O n []) _
  refine zQ [0] ?_
  refine W_seqK ?_
  obtain ⟨y2, hy2, h⟩ := bC h
  refine zCd (ok_arena_clone hy2) [2] [true] ?_
  exact zRet [.ref n 0]

theorem ok_arena_Arena_Len {a0 : (Option S_arena_Arena)} {r : Int} {O : Objs} {n : Nat} (h : m_arena_Arena_Len a0 = some r) : GTo Try.prog 87 [(gP e_S_arena_Arena a0)] O n ((vI r)) O n := by
  unfold m_arena_Arena_Len at h
  refine zFn Try.call87 Try.func87 fun hU hN0 hN => ?_
  show W _ _ _ _ ⟨10, [], [(0, (gP e_S_arena_Arena a0))]⟩ (Loc O n []) _
  refine zQ [0] ?_
  refine W_seqK ?_
  have g2 := gbin_gP_eql (f := e_S_arena_Arena) (t := 33) tkind33 a0
  refine zQx1 [0, 4] g2 ?_
  refine W_cond (t := (Option.isNone a0)) rfl (fun c5 => ?_) (fun c5 => ?_)
  · replace h := condT c5 h
    refine zQ [2] ?_
    exact zRet [(vI 0)]
  · replace h := condF c5 h
    refine zKd [0] [] ?_
    obtain ⟨x4, hx4, h⟩ := bC h
    refine W_sq [2] (W_regionD tab_ok [] ?_)
    simp only [push_cast, seval, ↓reduceIte, cast_lit, hx4, hN0, hN]
    exact zRet [(vI (x4.segments.length : Int))]

theorem ok_arena_Arena_there {a0 : (Option S_arena_Arena)} {a1 : Int} {r : Bool} {O : Objs} {n : Nat} (h : m_arena_Arena_there a0 a1 = some r) : GTo Try.prog 84 [(gP e_S_arena_Arena a0), (vI a1)] O n ((vB r)) O n := by
  unfold m_arena_Arena_there at h
  refine zFn Try.call84 Try.func84 fun hU hN0 hN => ?_
  show W _ _ _ _ ⟨13, [], [(0, (gP e_S_arena_Arena a0)), (1, (vI a1))]⟩ (Loc O n []) _
  refine zQ [0, 1] ?_
  obtain ⟨z2, hz2, h⟩ := bC h
  refine W_seqN (E' := ⟨13, [], [(4, (vB z2))]⟩) (O' := (Loc O n [])) (n0 := n) ?_ ?_
  · rcases Bool.eq_false_or_eq_true (decide (0 ≤ a1)) with c5 | c5
    · replace hz2 := condT c5 hz2
      obtain ⟨y4, hy4, hz2⟩ := bC hz2
      refine zRox1 [some true, some true, some true, some true] c5 ?_
      refine (ok_arena_Arena_Len hy4).then ?_
      refine zX1 c5 ?_
      exact zEnx1 hz2 c5
    · replace hz2 := condF c5 hz2
      refine zRox1 [some false, some false, some false, some false] c5 ?_
      exact zEnx1 hz2 c5
  exact zRet [(vB z2)]

theorem ok_arena_Arena_Size {a0 : (Option S_arena_Arena)} {a1 : Int} {r : Int} {O : Objs} {n : Nat} (h : m_arena_Arena_Size a0 a1 = some r) : GTo Try.prog 85 [(gP e_S_arena_Arena a0), (vI a1)] O n ((vI r)) O n := by
  unfold m_arena_Arena_Size at h
  refine zFn Try.call85 Try.func85 fun hU hN0 hN => ?_
  show W _ _ _ _ ⟨17, [], [(0, (gP e_S_arena_Arena a0)), (1, (vI a1))]⟩ (Loc O n []) _
  refine zQ [0, 1] ?_
  refine W_seqK ?_
  refine W_seqK ?_
  obtain ⟨y2, hy2, h⟩ := bC h
  refine zCd (ok_arena_Arena_there hy2) [0, 1, 8] [] ?_
  refine W_cond (t := (!y2)) rfl (fun c7 => ?_) (fun c7 => ?_)
  · replace h := condT c7 h
    refine zQ [4] ?_
    exact zRet [(vI 0)]
  · replace h := condF c7 h
    refine zKd [0, 1] [] ?_
    obtain ⟨x5, hx5, h⟩ := bC h
    obtain ⟨x6, hx6, ax6, bx6, cx6, h⟩ := bE (f := (eL (eI .u64))) tab26 (fun _ => rfl) (by decide) h
    refine W_sq [4] (W_regionD tab_ok [] ?_)
    refine zF4 hx5 ax6 bx6 cx6 ?_
    exact zRet [(vI (x6.length : Int))]

theorem ok_arena_Arena_Has {a0 : (Option S_arena_Arena)} {a1 : Int} {a2 : Int} {a3 : Int} {r : Bool} {O : Objs} {n : Nat} (h : m_arena_Arena_Has a0 a1 a2 a3 = some r) : GTo Try.prog 79 [(gP e_S_arena_Arena a0), (vI a1), (vI a2), (vI a3)] O n ((vB r)) O n := by
  unfold m_arena_Arena_Has at h
  refine zFn Try.call79 Try.func79 fun hU hN0 hN => ?_
  show W _ _ _ _ ⟨36, [], [(0, (gP e_S_arena_Arena a0)), (1, (vI a1)), (2, (vI a2)), (3, (vI a3))]⟩ (Loc O n []) _
  refine zQ [0, 1, 2, 3] ?_
  obtain ⟨z4, hz4, h⟩ := bC h
  refine W_seqN (E' := ⟨36, [], [(8, (vB z4))]⟩) (O' := (Loc O n [])) (n0 := n) ?_ ?_
  · obtain ⟨y8, hy8, hz4⟩ := bC hz4
    rcases Bool.eq_false_or_eq_true y8 with c11 | c11
    · replace hz4 := condT c11 hz4
      rcases Bool.eq_false_or_eq_true (decide (0 ≤ a2)) with c12 | c12
      · replace hz4 := condT c12 hz4
        try rw [c12] at c11
        rcases Bool.eq_false_or_eq_true (decide (0 ≤ a3)) with c13 | c13
        · replace hz4 := condT c13 hz4
          try rw [c13] at c11
          try rw [c13] at c12
          obtain ⟨y9, hy9, hz4⟩ := bC hz4
          rcases Bool.eq_false_or_eq_true (decide (a3 ≤ y9)) with c14 | c14
          · replace hz4 := condT c14 hz4
            try rw [c14] at c11
            try rw [c14] at c12
            try rw [c14] at c13
            obtain ⟨y10, hy10, hz4⟩ := bC hz4
            refine zRox4 [none, none, none, none, some true, some true, some true, some true, some true, some true, some true, some true, some true, some true, some true, some true] c11 c12 c13 c14 ?_
            refine zG ?_
            refine (ok_arena_Arena_there hy8).then ?_
            refine zX4 c11 c12 c13 c14 ?_
            refine zG ?_
            refine (ok_arena_Arena_Size hy9).then ?_
            refine zX4 c11 c12 c13 c14 ?_
            refine zG ?_
            refine (ok_arena_Arena_Size hy10).then ?_
            refine zX4 c11 c12 c13 c14 ?_
            refine zG ?_
            exact zEnx4 hz4 c11 c12 c13 c14
          · replace hz4 := condF c14 hz4
            try rw [c14] at c11
            try rw [c14] at c12
            try rw [c14] at c13
            refine zRox4 [none, none, none, none, some true, some true, some true, some true, some true, some false, some false, some false, some false, some false, some false, some false] c11 c12 c13 c14 ?_
            refine zG ?_
            refine (ok_arena_Arena_there hy8).then ?_
            refine zX4 c11 c12 c13 c14 ?_
            refine zG ?_
            refine (ok_arena_Arena_Size hy9).then ?_
            refine zX4 c11 c12 c13 c14 ?_
            refine zG ?_
            exact zEnx4 hz4 c11 c12 c13 c14
        · replace hz4 := condF c13 hz4
          try rw [c13] at c11
          try rw [c13] at c12
          refine zRox3 [none, none, none, none, some false, some false, some false, some false, some false, some false, some false, some false, some false, some false, some false, some false] c11 c12 c13 ?_
          refine zG ?_
          refine (ok_arena_Arena_there hy8).then ?_
          refine zX3 c11 c12 c13 ?_
          refine zG ?_
          exact zEnx3 hz4 c11 c12 c13
      · replace hz4 := condF c12 hz4
        try rw [c12] at c11
        refine zRox2 [none, none, none, none, some false, some false, some false, some false, some false, some false, some false, some false, some false, some false, some false, some false] c11 c12 ?_
        refine zG ?_
        refine (ok_arena_Arena_there hy8).then ?_
        refine zX2 c11 c12 ?_
        refine zG ?_
        exact zEnx2 hz4 c11 c12
    · replace hz4 := condF c11 hz4
      refine zRox1 [none, none, none, none, some false, some false, some false, some false, some false, some false, some false, some false, some false, some false, some false, some false] c11 ?_
      refine zG ?_
      refine (ok_arena_Arena_there hy8).then ?_
      refine zX1 c11 ?_
      refine zG ?_
      exact zEnx1 hz4 c11
  exact zRet [(vB z4)]

theorem ok_arena_Arena_Get {a0 : (Option S_arena_Arena)} {a1 : Int} {a2 : Int} {r : (Int × Bool)} {O : Objs} {n : Nat} (h : m_arena_Arena_Get a0 a1 a2 = some r) : GTo Try.prog 69 [(gP e_S_arena_Arena a0), (vI a1), (vI a2)] O n (.tup [.val (.int .u64 r.1), (vB r.2)]) O n := by
  unfold m_arena_Arena_Get at h
  refine zFn Try.call69 Try.func69 fun hU hN0 hN => ?_
  show W _ _ _ _ ⟨23, [], [(0, (gP e_S_arena_Arena a0)), (1, (vI a1)), (2, (vI a2))]⟩ (Loc O n []) _
  refine zQ [0, 1, 2] ?_
  refine W_seqK ?_
  refine W_seqK ?_
  obtain ⟨y2, hy2, h⟩ := bC h
  refine zCd (ok_arena_Arena_Has hy2) [0, 1, 2, 12] [] ?_
  refine W_cond (t := (!y2)) rfl (fun c9 => ?_) (fun c9 => ?_)
  · replace h := condT c9 h
    refine zQ [6, 7] ?_
    exact zRet [.val (.int .u64 0), (vB false)]
  · replace h := condF c9 h
    refine zKd [0, 1, 2] [] ?_
    obtain ⟨x6, hx6, h⟩ := bC h
    obtain ⟨x7, hx7, ax7, bx7, cx7, h⟩ := bE (f := (eL (eI .u64))) tab26 (fun _ => rfl) (by decide) h
    obtain ⟨x8, hx8, ax8, bx8, cx8, h⟩ := bE (f := (eI .u64)) tab40 (fun _ => rfl) (by decide) h
    refine W_sq [6, 7] (W_regionD tab_ok [] ?_)
    refine zF7 hx6 ax7 bx7 cx7 ax8 bx8 cx8 ?_
    exact zRet [.val (.int .u64 x8), (vB true)]

theorem ok_ptr_offset {a0 : Int} {r : Int} {O : Objs} {n : Nat} (h : m_ptr_offset a0 = some r) : GTo Try.prog 80 [.val (.int .u64 a0)] O n ((vI r)) O n := by
  unfold m_ptr_offset at h
  refine zFn Try.call80 Try.func80 fun hU hN0 hN => ?_
  show W _ _ _ _ ⟨8, [], [(0, .val (.int .u64 a0))]⟩ (Loc O n []) _
  refine zQ [0] ?_
  refine zQ [2] ?_
  exact zRet [(vI (IntKind.i64.wrap (Int.fdiv (IntKind.i32.wrap (IntKind.u32.wrap a0)) (2 ^ min (Int.toNat 2) 32))))]

theorem ok_ptr_field {a0 : Int} {a1 : Int} {a2 : Int} {r : Int} {O : Objs} {n : Nat} (h : m_ptr_field a0 a1 a2 = some r) : GTo Try.prog 81 [.val (.int .u64 a0), (vI a1), (vI a2)] O n ((vI r)) O n := by
  unfold m_ptr_field at h
  refine zFn Try.call81 Try.func81 fun hU hN0 hN => ?_
  show W _ _ _ _ ⟨15, [], [(0, .val (.int .u64 a0)), (1, (vI a1)), (2, (vI a2))]⟩ (Loc O n []) _
  refine zQ [0, 1, 2] ?_
  obtain ⟨pu3, h⟩ := bG h
  obtain ⟨pu4, h⟩ := bG h
  refine W_sq [6] (W_drawD tab_ok (by kernel_rfl) [] (by kernel_rfl) ?_)
  simp only [push_cast, seval, ↓reduceIte, cast_lit, pu3, pu4, hN0, hN]
  exact zRet [(vI (IntKind.i64.wrap (IntKind.u64.wrap (landI .u64 (Int.fdiv a0 (2 ^ min (Int.toNat a1) 64)) (IntKind.u64.wrap ((IntKind.u64.wrap (1 * 2 ^ min (Int.toNat a2) 64)) - 1))))))]

theorem ok_ptr_Decode {a0 : Int} {r : S_ptr_Ptr} {O : Objs} {n : Nat} (h : m_ptr_Decode a0 = some r) : GTo Try.prog 73 [.val (.int .u64 a0)] O n (.agg (c_S_ptr_Ptr r)) O n := by
  unfold m_ptr_Decode at h
  refine zFn Try.call73 Try.func73 fun hU hN0 hN => ?_
  show W _ _ _ _ ⟨38, [], [(0, .val (.int .u64 a0))]⟩ (Loc O n []) _
  refine zQ [0, 2] ?_
  refine W_seqK ?_
  refine zQ [0, 2, 4] ?_
  refine W_cond (t := (a0 == 0)) rfl (fun c20 => ?_) (fun c20 => ?_)
  · replace h := condT c20 h
    refine W_seqK ?_
    refine zR ?_
    refine W_fit ⟨38, [], [(2, .ref n 0)]⟩ (Loc O n [some ⟨false, 116, 8, 1, [(vI 0), (vI 0), (vI 0), (vI 0), (vI 0), (vI 0), (vI 0), (vB false)]⟩]) (fit_loc hU rfl rfl ?_) ?_
    · exact zSe
    exact zRet [.agg [(vI 0), (vI 0), (vI 0), (vI 0), (vI 0), (vI 0), (vI 0), (vB false)]]
  · replace h := condF c20 h
    refine zK ?_
    refine W_fit ⟨38, [], [(0, .val (.int .u64 a0)), (2, .ref n 0)]⟩ (Loc O n [some ⟨false, 116, 8, 1, [(vI 0), (vI 0), (vI 0), (vI 0), (vI 0), (vI 0), (vI 0), (vB false)]⟩]) (fit_loc hU rfl rfl ?_) ?_
    · exact zSe
    refine W_seqK ?_
    refine zQ [0, 2, 7] ?_
    refine W_block ?_
    refine zQ [0, 2, 7, 8] ?_
    refine W_cond (t := ((IntKind.u64.wrap (landI .u64 a0 3)) == 0)) rfl (fun c19 => ?_) (fun c19 => ?_)
    · replace h := condT c19 h
      refine W_seqK ?_
      obtain ⟨y4, hy4, h⟩ := bC h
      obtain ⟨y5, hy5, h⟩ := bC h
      obtain ⟨y6, hy6, h⟩ := bC h
      refine zC (ok_ptr_offset hy4) ?_
      refine zTs (ok_ptr_field hy5) ?_
      refine zTs (ok_ptr_field hy6) ?_
      refine W_fit ⟨38, [], [(2, .ref n 0)]⟩ (Loc O n [some ⟨false, 116, 8, 1, [(vI 1), (vI y4), (vI y5), (vI y6), (vI 0), (vI 0), (vI 0), (vB false)]⟩]) (fit_loc hU rfl rfl ?_) ?_
      · exact zSe
      exact zRet [.agg [(vI 1), (vI y4), (vI y5), (vI y6), (vI 0), (vI 0), (vI 0), (vB false)]]
    · replace h := condF c19 h
      refine zQ [0, 2, 7, 17] ?_
      refine W_cond (t := ((IntKind.u64.wrap (landI .u64 a0 3)) == 1)) rfl (fun c18 => ?_) (fun c18 => ?_)
      · replace h := condT c18 h
        refine W_seqK ?_
        obtain ⟨y10, hy10, h⟩ := bC h
        obtain ⟨y11, hy11, h⟩ := bC h
        obtain ⟨y12, hy12, h⟩ := bC h
        refine zC (ok_ptr_offset hy10) ?_
        refine zTs (ok_ptr_field hy11) ?_
        refine zTs (ok_ptr_field hy12) ?_
        refine W_fit ⟨38, [], [(2, .ref n 0)]⟩ (Loc O n [some ⟨false, 116, 8, 1, [(vI 2), (vI y10), (vI 0), (vI 0), (vI y11), (vI y12), (vI 0), (vB false)]⟩]) (fit_loc hU rfl rfl ?_) ?_
        · exact zSe
        exact zRet [.agg [(vI 2), (vI y10), (vI 0), (vI 0), (vI y11), (vI y12), (vI 0), (vB false)]]
      · replace h := condF c18 h
        refine zQ [0, 2, 26] ?_
        refine W_cond (t := ((IntKind.u64.wrap (landI .u64 a0 3)) == 2)) rfl (fun c17 => ?_) (fun c17 => ?_)
        · replace h := condT c17 h
          refine W_seqK ?_
          obtain ⟨y15, hy15, h⟩ := bC h
          obtain ⟨y16, hy16, h⟩ := bC h
          refine zC (ok_ptr_field hy15) ?_
          refine zTs (ok_ptr_field hy16) ?_
          refine W_fit ⟨38, [], [(2, .ref n 0)]⟩ (Loc O n [some ⟨false, 116, 8, 1, [(vI 3), (vI y15), (vI 0), (vI 0), (vI 0), (vI 0), (vI y16), (vB ((IntKind.u64.wrap (landI .u64 (Int.fdiv a0 (2 ^ min (Int.toNat 2) 64)) 1)) == 1))]⟩]) (fit_loc hU rfl rfl ?_) ?_
          · exact zSe
          exact zRet [.agg [(vI 3), (vI y15), (vI 0), (vI 0), (vI 0), (vI 0), (vI y16), (vB ((IntKind.u64.wrap (landI .u64 (Int.fdiv a0 (2 ^ min (Int.toNat 2) 64)) 1)) == 1))]]
        · replace h := condF c17 h
          refine zK ?_
          refine W_fit ⟨38, [], [(2, .ref n 0)]⟩ (Loc O n [some ⟨false, 116, 8, 1, [(vI 0), (vI 0), (vI 0), (vI 0), (vI 0), (vI 0), (vI 0), (vB false)]⟩]) (fit_loc hU rfl rfl ?_) ?_
          · exact zSe
          refine W_seqK ?_
          refine zR ?_
          refine W_fit ⟨38, [], [(2, .ref n 0)]⟩ (Loc O n [some ⟨false, 116, 8, 1, [(vI 4), (vI 0), (vI 0), (vI 0), (vI 0), (vI 0), (vI 0), (vB false)]⟩]) (fit_loc hU rfl rfl ?_) ?_
          · exact zSe
          exact zRet [.agg [(vI 4), (vI 0), (vI 0), (vI 0), (vI 0), (vI 0), (vI 0), (vB false)]]

theorem ok_arena_Arena_Part {a0 : (Option S_arena_Arena)} {a1 : Int} {a2 : Int} {a3 : Int} {r : ((List Int) × Bool)} {O : Objs} {n : Nat} (h : m_arena_Arena_Part a0 a1 a2 a3 = some r) : GTo Try.prog 82 [(gP e_S_arena_Arena a0), (vI a1), (vI a2), (vI a3)] O n (.tup [(sL (eI .u64) r.1), (vB r.2)]) O n := by
  unfold m_arena_Arena_Part at h
  refine zFn Try.call82 Try.func82 fun hU hN0 hN => ?_
  show W _ _ _ _ ⟨29, [], [(0, (gP e_S_arena_Arena a0)), (1, (vI a1)), (2, (vI a2)), (3, (vI a3))]⟩ (Loc O n []) _
  refine zQ [0, 1, 2, 3] ?_
  refine W_seqK ?_
  refine W_seqK ?_
  obtain ⟨y2, hy2, h⟩ := bC h
  refine zCd (ok_arena_Arena_Has hy2) [0, 1, 2, 3, 15] [] ?_
  refine W_cond (t := (!y2)) rfl (fun c11 => ?_) (fun c11 => ?_)
  · replace h := condT c11 h
    refine zQ [8, 9] ?_
    exact zRet [nV, (vB false)]
  · replace h := condF c11 h
    refine zKd [0, 1, 2, 3] [] ?_
    refine W_seqK ?_
    obtain ⟨x7, hx7, h⟩ := bC h
    obtain ⟨x8, hx8, ax8, bx8, cx8, h⟩ := bE (f := (eL (eI .u64))) tab26 (fun _ => rfl) (by decide) h
    obtain ⟨l9, al9, bl9, cl9, gl9, h⟩ := bS (lo := (some (.i64, a2))) (hi := (some (.i64, (IntKind.i64.wrap (a2 + a3))))) (f := (eI .u64)) rfl rfl tkind26 tab40 (fun _ => rfl) h
    obtain ⟨y10, hy10, h⟩ := bC h
    refine zRof8 [] hx7 ax8 bx8 cx8 al9 bl9 cl9 gl9 ?_
    refine (ok_slices_Clone_uint64_uint64  hy10).then ?_
    refine zF8 hx7 ax8 bx8 cx8 al9 bl9 cl9 gl9 ?_
    refine zD [8, 9] [true] ?_
    exact zRet [.row n y10.length, (vB true)]

theorem ok_ptr_width {a0 : Int} {r : Int} {O : Objs} {n : Nat} (h : m_ptr_width a0 = some r) : GTo Try.prog 86 [(vI a0)] O n ((vI r)) O n := by
  unfold m_ptr_width at h
  refine zFn Try.call86 Try.func86 fun hU hN0 hN => ?_
  show W _ _ _ _ ⟨8, [], [(0, (vI a0))]⟩ (Loc O n []) _
  refine zQ [0] ?_
  refine W_seqK ?_
  obtain ⟨y6, hy6, ey6, h⟩ := bY (f := (eI .i64)) (cs := [.val (.int .i64 0), .val (.int .i64 1), .val (.int .i64 8), .val (.int .i64 16), .val (.int .i64 32), .val (.int .i64 64), .val (.int .i64 64)]) rfl h
  have g7 := congrArg G.agg ey6
  obtain ⟨y8, hy8, ey8, h⟩ := bY (f := (eI .i64)) (cs := [.val (.int .i64 0), .val (.int .i64 0), .val (.int .i64 0), .val (.int .i64 0), .val (.int .i64 0), .val (.int .i64 0), .val (.int .i64 0)]) rfl h
  have g9 := congrArg (GObj.mk false 138 7 1) ey8
  have g10 := gplace_arr (f := (eI .i64)) y8 y6 (fun _ => rfl)
  refine zRox3 [] g7 g9 g10 ?_
  refine zD [0, 3] [true] ?_
  obtain ⟨x12, hx12, ax12, bx12, cx12, h⟩ := bEA (f := (eI .i64)) (b := 7) rfl tab3 (fun _ => rfl) (by decide) h
  refine W_sq [2] (W_regionD tab_ok [] ?_)
  refine zF3 ax12 bx12 cx12 ?_
  exact zRet [(vI x12)]

theorem ok_ptr_Ptr_Words {a0 : S_ptr_Ptr} {r : (Int × Bool)} {O : Objs} {n : Nat} (h : m_ptr_Ptr_Words a0 = some r) : GTo Try.prog 83 [.agg (c_S_ptr_Ptr a0)] O n (.tup [(vI r.1), (vB r.2)]) O n := by
  unfold m_ptr_Ptr_Words at h
  refine zFn Try.call83 Try.func83 fun hU hN0 hN => ?_
  show W _ _ _ _ ⟨57, [], [(0, .agg (c_S_ptr_Ptr a0))]⟩ (Loc O n []) _
  refine zQ [1] ?_
  refine W_seqK ?_
  refine W_block ?_
  refine zQ [1, 4] ?_
  refine W_cond (t := (a0.Kind == 1)) rfl (fun c5 => ?_) (fun c5 => ?_)
  · replace h := condT c5 h
    refine zQ [2, 3] ?_
    exact zRet [(vI (IntKind.i64.wrap (a0.Data + a0.Ptrs))), (vB true)]
  · replace h := condF c5 h
    refine zQD [1, 13] [none, none, none] ?_
    refine W_cond (t := (cond (a0.Kind == 2) (a0.Code == 7) false)) rfl (fun c4 => ?_) (fun c4 => ?_)
    · replace h := condT c4 h
      refine zQ [2, 3] ?_
      exact zRet [(vI (IntKind.i64.wrap (a0.Count + 1))), (vB true)]
    · replace h := condF c4 h
      refine zQD [1, 25] [none, none, none, none, none, none, none, none, none, none, none, none] ?_
      refine W_cond (t := (cond (cond (cond (cond (a0.Kind == 2) (decide (0 ≤ a0.Code)) false) (decide (a0.Code < 7)) false) (decide (0 ≤ a0.Count)) false) (decide (a0.Count ≤ 536870911)) false)) rfl (fun c3 => ?_) (fun c3 => ?_)
      · replace h := condT c3 h
        refine W_seqK ?_
        obtain ⟨y2, hy2, h⟩ := bC h
        refine W_drawD tab_ok (by kernel_rfl) [] (by kernel_rfl) ?_
        refine zS ?_
        refine PCall.of (ok_ptr_width hy2) ?_
        refine zS ?_
        refine zD [2, 3] [false] ?_
        exact zRet [(vI (IntKind.i64.wrap (Int.tdiv (IntKind.i64.wrap ((IntKind.i64.wrap (a0.Count * y2)) + 63)) 64))), (vB true)]
      · replace h := condF c3 h
        refine zKd [] [false] ?_
        refine zQ [2, 3] ?_
        exact zRet [(vI 0), (vB false)]

theorem ok_far_target {a0 : (Option S_arena_Arena)} {a1 : S_ptr_Ptr} {a2 : Int} {a3 : Int} {r : (S_far_Loc × Int)} {O : Objs} {n : Nat} (h : m_far_target a0 a1 a2 a3 = some r) : GTo Try.prog 76 [(gP e_S_arena_Arena a0), .agg (c_S_ptr_Ptr a1), (vI a2), (vI a3)] O n (.tup [.agg [(vI r.1.P.Kind), (vI r.1.P.Off), (vI r.1.P.Data), (vI r.1.P.Ptrs), (vI r.1.P.Code), (vI r.1.P.Count), (vI r.1.P.Segment), (vB r.1.P.Double), (vI r.1.Segment), (vI r.1.At)], (vI r.2)]) O n := by
  unfold m_far_target at h
  refine zFn Try.call76 Try.func76 fun hU hN0 hN => ?_
  show W _ _ _ _ ⟨36, [], [(0, (gP e_S_arena_Arena a0)), (1, .agg (c_S_ptr_Ptr a1)), (2, (vI a2)), (3, (vI a3))]⟩ (Loc O n []) _
  refine zQ [0, 2, 3, 5, 8] ?_
  refine W_seqK ?_
  refine zQ [0, 2, 3, 5, 8, 14] ?_
  refine W_cond (t := (a1.Kind == 4)) rfl (fun c7 => ?_) (fun c7 => ?_)
  · replace h := condT c7 h
    refine W_seqK ?_
    refine zRd [8, 9] [false, true] ?_
    exact zRet [.agg [(vI 0), (vI 0), (vI 0), (vI 0), (vI 0), (vI 0), (vI 0), (vB false), (vI 0), (vI 0)], (vI 9)]
  · replace h := condF c7 h
    refine zKd [0, 2, 3, 5, 8] [true, true] ?_
    refine W_seqK ?_
    obtain ⟨y2, hy2, h⟩ := bC h
    refine zCd (ok_ptr_Ptr_Words hy2) [0, 2, 3, 5, 8, 10, 11] [true, true] ?_
    refine W_seqK ?_
    refine zQ [0, 2, 3, 5, 8, 10, 22] ?_
    refine W_cond (t := (!y2.2)) rfl (fun c6 => ?_) (fun c6 => ?_)
    · replace h := condT c6 h
      refine W_seqK ?_
      refine zRd [8, 9] [false, true] ?_
      exact zRet [.agg [(vI 0), (vI 0), (vI 0), (vI 0), (vI 0), (vI 0), (vI 0), (vB false), (vI 0), (vI 0)], (vI 8)]
    · replace h := condF c6 h
      refine zKd [0, 2, 3, 5, 8, 10] [true, true] ?_
      refine W_seqK ?_
      refine W_seqK ?_
      obtain ⟨y4, hy4, h⟩ := bC h
      refine zCd (ok_arena_Arena_Has hy4) [2, 3, 5, 8, 29] [true, true] ?_
      refine W_cond (t := (!y4)) rfl (fun c5 => ?_) (fun c5 => ?_)
      · replace h := condT c5 h
        refine W_seqK ?_
        refine zRd [8, 9] [false, true] ?_
        exact zRet [.agg [(vI 0), (vI 0), (vI 0), (vI 0), (vI 0), (vI 0), (vI 0), (vB false), (vI 0), (vI 0)], (vI 7)]
      · replace h := condF c5 h
        refine zKd [2, 3, 5, 8] [true, true] ?_
        refine W_seqK ?_
        refine zRd [2, 3, 5, 8] [true, true] ?_
        refine W_seqK ?_
        refine zRd [8, 9] [false, true] ?_
        exact zRet [.agg [(vI a1.Kind), (vI 0), (vI a1.Data), (vI a1.Ptrs), (vI a1.Code), (vI a1.Count), (vI a1.Segment), (vB a1.Double), (vI a2), (vI a3)], (vI 0)]

theorem ok_far_double {a0 : (Option S_arena_Arena)} {a1 : Int} {a2 : Int} {r : (S_far_Loc × Int)} {O : Objs} {n : Nat} (h : m_far_double a0 a1 a2 = some r) : GTo Try.prog 74 [(gP e_S_arena_Arena a0), (vI a1), (vI a2)] O n (.tup [.agg [(vI r.1.P.Kind), (vI r.1.P.Off), (vI r.1.P.Data), (vI r.1.P.Ptrs), (vI r.1.P.Code), (vI r.1.P.Count), (vI r.1.P.Segment), (vB r.1.P.Double), (vI r.1.Segment), (vI r.1.At)], (vI r.2)]) O n := by
  unfold m_far_double at h
  refine zFn Try.call74 Try.func74 fun hU hN0 hN => ?_
  show W _ _ _ _ ⟨56, [], [(0, (gP e_S_arena_Arena a0)), (1, (vI a1)), (2, (vI a2))]⟩ (Loc O n []) _
  refine zQ [0, 1, 2, 6] ?_
  refine W_seqK ?_
  obtain ⟨y2, hy2, h⟩ := bC h
  refine zCd (ok_arena_Arena_Part hy2) [0, 6, 8, 9] [true] ?_
  refine W_seqK ?_
  refine zQ [0, 6, 8, 20] ?_
  refine W_cond (t := (!y2.2)) rfl (fun c11 => ?_) (fun c11 => ?_)
  · replace h := condT c11 h
    refine W_seqK ?_
    refine zRd [6, 7] [true] ?_
    exact zRet [.agg [(vI 0), (vI 0), (vI 0), (vI 0), (vI 0), (vI 0), (vI 0), (vB false), (vI 0), (vI 0)], (vI 7)]
  · replace h := condF c11 h
    refine zKd [0, 6, 8] [true] ?_
    obtain ⟨x3, hx3, ax3, bx3, cx3, h⟩ := bE (f := (eI .u64)) tab40 (fun _ => rfl) (by decide) h
    obtain ⟨y4, hy4, h⟩ := bC h
    obtain ⟨x5, hx5, ax5, bx5, cx5, h⟩ := bE (f := (eI .u64)) tab40 (fun _ => rfl) (by decide) h
    obtain ⟨y6, hy6, h⟩ := bC h
    refine W_seqN (E' := ⟨56, [], [(0, (gP e_S_arena_Arena a0)), (6, .ref n 0), (10, .ref (n + 1) 0), (11, .ref (n + 2) 0)]⟩) (O' := (Loc O n [some ⟨false, 118, 10, 1, [(vI 0), (vI 0), (vI 0), (vI 0), (vI 0), (vI 0), (vI 0), (vB false), (vI 0), (vI 0)]⟩, some ⟨false, 116, 8, 1, (c_S_ptr_Ptr y4)⟩, some ⟨false, 116, 8, 1, (c_S_ptr_Ptr y6)⟩])) (n0 := (n + 3)) ?_ ?_
    · refine W_drawX tab_ok (by kernel_rfl) [.low, .low, .low, .low, .low, .low, .low, .low, .pass, .pass, .pass, .pass] (fun i => i < (n + 1)) 8 9 [0, 1, 2, 3, 4, 5, 6, 7] [10, 11] [.low, .low, .low, .low, .low, .low, .low, .low] [.pass, .pass, .pass, .pass] [.pass, .pass, .pass, .pass] [] (by kernel_rfl) rfl rfl rfl ?_
      refine zF6 ax3 bx3 cx3 ax5 bx5 cx5 ?_
      repeat (with_reducible refine And.intro (by omega) ?_)
      first | refine PCallA.of (fun _ _ => ok_ptr_Decode hy4) ?_ | refine PCall.of (ok_ptr_Decode hy4) ?_
      refine zF6 ax3 bx3 cx3 ax5 bx5 cx5 ?_
      repeat (with_reducible refine And.intro (by omega) ?_)
      first | refine PCallA.of (fun _ _ => ok_ptr_Decode hy6) ?_ | refine PCall.of (ok_ptr_Decode hy6) ?_
      refine zF6 ax3 bx3 cx3 ax5 bx5 cx5 ?_
      repeat (with_reducible refine And.intro (by omega) ?_)
      refine And.intro ?_ ?_
      · refine zF6 ax3 bx3 cx3 ax5 bx5 cx5 ?_
        repeat (with_reducible refine And.intro (by first | exact agree_loc rfl | exact agree_loc0) ?_)
        exact zEff6 ax3 bx3 cx3 ax5 bx5 cx5
      · refine zF6 ax3 bx3 cx3 ax5 bx5 cx5 ?_
        repeat (with_reducible refine And.intro (by first | exact agree_loc rfl | exact agree_loc0) ?_)
        refine And.intro rfl ?_
        refine Fit2.trans (E' := (⟨56, [], [(0, (gP e_S_arena_Arena a0)), (6, .ref n 0), (10, .ref (n + 2) 0), (11, .ref (n + 1) 0)]⟩ : Env)) (O' := (Loc O n [some ⟨false, 118, 10, 1, [(vI 0), (vI 0), (vI 0), (vI 0), (vI 0), (vI 0), (vI 0), (vB false), (vI 0), (vI 0)]⟩, some ⟨false, 116, 8, 1, (c_S_ptr_Ptr y6)⟩, some ⟨false, 116, 8, 1, (c_S_ptr_Ptr y4)⟩])) (n' := (n + 3)) (Fit2.of (fit_loc hU rfl rfl ?_) (by omega)) ?_
        · exact zFe6 ax3 bx3 cx3 ax5 bx5 cx5
        refine ren_fit (k := 3) (k' := 3) hU [0, 2, 1] [0, 2, 1] rfl rfl rfl rfl ⟨rfl, rfl⟩ ?_
        exact zSe
    refine W_seqK ?_
    refine zQD [0, 6, 10, 11, 36] [none, none] ?_
    refine W_cond (t := (cond (y4.Kind != 3) true y4.Double)) rfl (fun c10 => ?_) (fun c10 => ?_)
    · replace h := condT c10 h
      refine W_seqK ?_
      refine zRd [6, 7] [true, false, false] ?_
      exact zRet [.agg [(vI 0), (vI 0), (vI 0), (vI 0), (vI 0), (vI 0), (vI 0), (vB false), (vI 0), (vI 0)], (vI 8)]
    · replace h := condF c10 h
      refine zKd [0, 6, 10, 11] [true, true, true] ?_
      refine W_seqK ?_
      refine zQD [0, 6, 10, 11, 45] [none, none, none] ?_
      refine W_cond (t := (cond (y6.Kind != 4) (y6.Off != 0) false)) rfl (fun c9 => ?_) (fun c9 => ?_)
      · replace h := condT c9 h
        refine W_seqK ?_
        refine zRd [6, 7] [true, false, false] ?_
        exact zRet [.agg [(vI 0), (vI 0), (vI 0), (vI 0), (vI 0), (vI 0), (vI 0), (vB false), (vI 0), (vI 0)], (vI 8)]
      · replace h := condF c9 h
        refine zKd [0, 6, 10, 11] [true, true, true] ?_
        refine W_seqK ?_
        obtain ⟨y8, hy8, h⟩ := bC h
        refine zCd (ok_far_target hy8) [6, 7] [true, false, false] ?_
        exact zRet [.agg [(vI y8.1.P.Kind), (vI y8.1.P.Off), (vI y8.1.P.Data), (vI y8.1.P.Ptrs), (vI y8.1.P.Code), (vI y8.1.P.Count), (vI y8.1.P.Segment), (vB y8.1.P.Double), (vI y8.1.Segment), (vI y8.1.At)], (vI y8.2)]

theorem ok_far_single {a0 : (Option S_arena_Arena)} {a1 : Int} {a2 : Int} {r : (S_far_Loc × Int)} {O : Objs} {n : Nat} (h : m_far_single a0 a1 a2 = some r) : GTo Try.prog 75 [(gP e_S_arena_Arena a0), (vI a1), (vI a2)] O n (.tup [.agg [(vI r.1.P.Kind), (vI r.1.P.Off), (vI r.1.P.Data), (vI r.1.P.Ptrs), (vI r.1.P.Code), (vI r.1.P.Count), (vI r.1.P.Segment), (vB r.1.P.Double), (vI r.1.Segment), (vI r.1.At)], (vI r.2)]) O n := by
  unfold m_far_single at h
  refine zFn Try.call75 Try.func75 fun hU hN0 hN => ?_
  show W _ _ _ _ ⟨34, [], [(0, (gP e_S_arena_Arena a0)), (1, (vI a1)), (2, (vI a2))]⟩ (Loc O n []) _
  refine zQ [0, 1, 2, 6] ?_
  refine W_seqK ?_
  obtain ⟨y2, hy2, h⟩ := bC h
  refine zCd (ok_arena_Arena_Get hy2) [0, 1, 2, 6, 8, 9] [true] ?_
  refine W_seqK ?_
  refine zQ [0, 1, 2, 6, 8, 19] ?_
  refine W_cond (t := (!y2.2)) rfl (fun c7 => ?_) (fun c7 => ?_)
  · replace h := condT c7 h
    refine W_seqK ?_
    refine zRd [6, 7] [true] ?_
    exact zRet [.agg [(vI 0), (vI 0), (vI 0), (vI 0), (vI 0), (vI 0), (vI 0), (vB false), (vI 0), (vI 0)], (vI 7)]
  · replace h := condF c7 h
    refine zKd [0, 1, 2, 6, 8] [true] ?_
    refine W_seqK ?_
    obtain ⟨y4, hy4, h⟩ := bC h
    refine zCd (ok_ptr_Decode hy4) [0, 1, 2, 6, 10] [true, true] ?_
    refine W_seqK ?_
    obtain ⟨y6, hy6, h⟩ := bC h
    refine zCd (ok_far_target hy6) [6, 7] [true, false] ?_
    exact zRet [.agg [(vI y6.1.P.Kind), (vI y6.1.P.Off), (vI y6.1.P.Data), (vI y6.1.P.Ptrs), (vI y6.1.P.Code), (vI y6.1.P.Count), (vI y6.1.P.Segment), (vB y6.1.P.Double), (vI y6.1.Segment), (vI y6.1.At)], (vI y6.2)]

theorem ok_far_Follow {a0 : (Option S_arena_Arena)} {a1 : Int} {a2 : Int} {r : (S_far_Loc × Int)} {O : Objs} {n : Nat} (h : m_far_Follow a0 a1 a2 = some r) : GTo Try.prog 62 [(gP e_S_arena_Arena a0), (vI a1), (vI a2)] O n (.tup [.agg [(vI r.1.P.Kind), (vI r.1.P.Off), (vI r.1.P.Data), (vI r.1.P.Ptrs), (vI r.1.P.Code), (vI r.1.P.Count), (vI r.1.P.Segment), (vB r.1.P.Double), (vI r.1.Segment), (vI r.1.At)], (vI r.2)]) O n := by
  unfold m_far_Follow at h
  refine zFn Try.call62 Try.func62 fun hU hN0 hN => ?_
  show W _ _ _ _ ⟨67, [], [(0, (gP e_S_arena_Arena a0)), (1, (vI a1)), (2, (vI a2))]⟩ (Loc O n []) _
  refine zQ [0, 1, 2, 6] ?_
  refine W_seqK ?_
  obtain ⟨y2, hy2, h⟩ := bC h
  refine zCd (ok_arena_Arena_Get hy2) [0, 1, 2, 6, 8, 9] [true] ?_
  refine W_seqK ?_
  refine zQ [0, 1, 2, 6, 8, 19] ?_
  refine W_cond (t := (!y2.2)) rfl (fun c14 => ?_) (fun c14 => ?_)
  · replace h := condT c14 h
    refine W_seqK ?_
    refine zRd [6, 7] [true] ?_
    exact zRet [.agg [(vI 0), (vI 0), (vI 0), (vI 0), (vI 0), (vI 0), (vI 0), (vB false), (vI 0), (vI 0)], (vI 7)]
  · replace h := condF c14 h
    refine zKd [0, 1, 2, 6, 8] [true] ?_
    refine W_seqK ?_
    obtain ⟨y4, hy4, h⟩ := bC h
    refine zCd (ok_ptr_Decode hy4) [0, 1, 2, 6, 10] [true, true] ?_
    refine W_seqK ?_
    refine W_block ?_
    refine zQ [0, 1, 2, 6, 10, 23] ?_
    refine W_cond (t := (y4.Kind == 0)) rfl (fun c13 => ?_) (fun c13 => ?_)
    · replace h := condT c13 h
      refine W_seqK ?_
      refine zRd [6, 7] [true, false] ?_
      exact zRet [.agg [(vI 0), (vI 0), (vI 0), (vI 0), (vI 0), (vI 0), (vI 0), (vB false), (vI 0), (vI 0)], (vI 0)]
    · replace h := condF c13 h
      refine zQD [0, 1, 2, 6, 10, 28] [none, none] ?_
      refine W_cond (t := (cond (y4.Kind == 3) y4.Double false)) rfl (fun c12 => ?_) (fun c12 => ?_)
      · replace h := condT c12 h
        refine W_seqK ?_
        obtain ⟨y6, hy6, h⟩ := bC h
        refine zCd (ok_far_double hy6) [6, 7] [true, false] ?_
        exact zRet [.agg [(vI y6.1.P.Kind), (vI y6.1.P.Off), (vI y6.1.P.Data), (vI y6.1.P.Ptrs), (vI y6.1.P.Code), (vI y6.1.P.Count), (vI y6.1.P.Segment), (vB y6.1.P.Double), (vI y6.1.Segment), (vI y6.1.At)], (vI y6.2)]
      · replace h := condF c12 h
        refine zQ [0, 1, 2, 6, 10, 44] ?_
        refine W_cond (t := (y4.Kind == 3)) rfl (fun c11 => ?_) (fun c11 => ?_)
        · replace h := condT c11 h
          refine W_seqK ?_
          obtain ⟨y8, hy8, h⟩ := bC h
          refine zCd (ok_far_single hy8) [6, 7] [true, false] ?_
          exact zRet [.agg [(vI y8.1.P.Kind), (vI y8.1.P.Off), (vI y8.1.P.Data), (vI y8.1.P.Ptrs), (vI y8.1.P.Code), (vI y8.1.P.Count), (vI y8.1.P.Segment), (vB y8.1.P.Double), (vI y8.1.Segment), (vI y8.1.At)], (vI y8.2)]
        · replace h := condF c11 h
          refine zKd [0, 1, 2, 6, 10] [true, true] ?_
          refine W_seqK ?_
          obtain ⟨y10, hy10, h⟩ := bC h
          refine zCd (ok_far_target hy10) [6, 7] [true, false] ?_
          exact zRet [.agg [(vI y10.1.P.Kind), (vI y10.1.P.Off), (vI y10.1.P.Data), (vI y10.1.P.Ptrs), (vI y10.1.P.Code), (vI y10.1.P.Count), (vI y10.1.P.Segment), (vB y10.1.P.Double), (vI y10.1.Segment), (vI y10.1.At)], (vI y10.2)]

theorem ok_reader_composite {a0 : S_reader_Ref} {r : (S_reader_Ref × Int)} {O : Objs} {n : Nat} (h : m_reader_composite a0 = some r) : GTo Try.prog 63 [.agg (c_S_reader_Ref a0)] O n (.tup [.agg (c_S_reader_Ref r.1), (vI r.2)]) O n := by
  unfold m_reader_composite at h
  refine zFn Try.call63 Try.func63 fun hU hN0 hN => ?_
  show W _ _ _ _ ⟨56, [], [(0, .agg (c_S_reader_Ref a0))]⟩ (Loc O n []) _
  refine zQ [1, 2] ?_
  refine W_seqK ?_
  obtain ⟨y2, hy2, h⟩ := bC h
  refine zCd (ok_arena_Arena_Get hy2) [1, 2, 4] [true, true] ?_
  refine W_seqK ?_
  obtain ⟨y4, hy4, h⟩ := bC h
  refine zCd (ok_ptr_Decode hy4) [1, 2, 6] [true, true, true] ?_
  refine W_seqK ?_
  refine zQD [1, 2, 6, 44] [none, none, none, none, none, none, none, none, none, none, none, none, none, none, none, none, none] ?_
  refine W_cond (t := (cond (cond (cond (y4.Kind != 0) (y4.Kind != 1) false) true (decide (y4.Off < 0))) true (decide (a0.count < (IntKind.i64.wrap (y4.Off * (IntKind.i64.wrap (y4.Data + y4.Ptrs)))))))) rfl (fun c5 => ?_) (fun c5 => ?_)
  · replace h := condT c5 h
    refine W_seqK ?_
    refine zRd [2, 3] [false, true, false] ?_
    exact zRet [.agg [.val (.pointer none), (vI 0), (vI 0), (vI 0), (vI 0), (vI 0), (vI 0), (vI 0), (vI 0)], (vI 8)]
  · replace h := condF c5 h
    refine zKd [1, 2, 6] [true, true, true] ?_
    refine W_seqK ?_
    refine W_drawY tab_ok (by kernel_rfl) [.plain, .plain, .low, .low, .low, .low, .plain, .pass, .plain, .pass, .plain, .bar] (fun i => i ≠ n + 0) [0, 1, 2, 3, 4, 5, 6, 7, 8, 9, 10, 11] [.plain, .plain, .low, .low, .low, .low, .plain, .pass, .plain, .pass, .plain, .bar] [] (by kernel_rfl) rfl ?_
    refine zS ?_
    refine zO ?_
    refine zDs [1, 2] [true, true, false] ?_
    refine zRd [2, 3] [false, true, false] ?_
    exact zRet [.agg [(gP e_S_arena_Arena a0.a), (vI a0.kind), (vI a0.segment), (vI a0.at_), (vI y4.Data), (vI y4.Ptrs), (vI y4.Off), (vI a0.code), (vI a0.index)], (vI 0)]

theorem ok_reader_At {a0 : (Option S_arena_Arena)} {a1 : Int} {a2 : Int} {r : (S_reader_Ref × Int)} {O : Objs} {n : Nat} (h : m_reader_At a0 a1 a2 = some r) : GTo Try.prog 42 [(gP e_S_arena_Arena a0), (vI a1), (vI a2)] O n (.tup [.agg (c_S_reader_Ref r.1), (vI r.2)]) O n := by
  unfold m_reader_At at h
  refine zFn Try.call42 Try.func42 fun hU hN0 hN => ?_
  show W _ _ _ _ ⟨66, [], [(0, (gP e_S_arena_Arena a0)), (1, (vI a1)), (2, (vI a2))]⟩ (Loc O n []) _
  refine zQ [0, 1, 2, 6] ?_
  refine W_seqK ?_
  obtain ⟨y2, hy2, h⟩ := bC h
  refine zCd (ok_far_Follow hy2) [0, 6, 8, 9] [true, true] ?_
  refine W_seqK ?_
  refine zQD [0, 6, 8, 9, 25] [none, none, none, none] ?_
  refine W_cond (t := (cond (y2.2 != 0) true (y2.1.P.Kind == 0))) rfl (fun c7 => ?_) (fun c7 => ?_)
  · replace h := condT c7 h
    refine W_seqK ?_
    refine zRd [6, 7] [true, false] ?_
    exact zRet [.agg [.val (.pointer none), (vI 0), (vI 0), (vI 0), (vI 0), (vI 0), (vI 0), (vI 0), (vI 0)], (vI y2.2)]
  · replace h := condF c7 h
    refine zKd [0, 6, 8] [true, true] ?_
    refine W_seqK ?_
    refine zRd [6, 8, 10] [true, true, true] ?_
    refine W_seqK ?_
    refine zQ [6, 8, 10, 37] ?_
    refine W_cond (t := (y2.1.P.Kind == 1)) rfl (fun c6 => ?_) (fun c6 => ?_)
    · replace h := condT c6 h
      refine W_seqK ?_
      refine W_drawY tab_ok (by kernel_rfl) [.low, .low, .low, .low, .low, .low, .plain, .pass, .plain, .pass, .plain, .bar] (fun i => i ≠ n + 2) [0, 1, 2, 3, 4, 5, 6, 7, 8, 9, 10, 11] [.low, .low, .low, .low, .low, .low, .plain, .pass, .plain, .pass, .plain, .bar] [] (by kernel_rfl) rfl ?_
      refine zS ?_
      refine zO ?_
      refine zDs [6, 10] [true, false, true] ?_
      refine zRd [6, 7] [true, false, false] ?_
      exact zRet [.agg [(gP e_S_arena_Arena a0), (vI 1), (vI y2.1.Segment), (vI y2.1.At), (vI y2.1.P.Data), (vI y2.1.P.Ptrs), (vI 0), (vI 0), (vI 0)], (vI 0)]
    · replace h := condF c6 h
      refine zKd [6, 8, 10] [true, true, true] ?_
      refine W_seqK ?_
      refine W_drawY tab_ok (by kernel_rfl) [.plain, .plain, .plain, .plain, .low, .low, .low, .plain, .pass, .plain, .bar] (fun i => i ≠ n + 2) [0, 1, 2, 3, 4, 5, 6, 7, 8, 9, 10] [.plain, .plain, .plain, .plain, .low, .low, .low, .plain, .pass, .plain, .bar] [] (by kernel_rfl) rfl ?_
      refine zS ?_
      refine zO ?_
      refine zDs [6, 8, 10] [true, true, true] ?_
      refine zQ [6, 10, 60] ?_
      refine W_cond (t := (y2.1.P.Code == 7)) rfl (fun c5 => ?_) (fun c5 => ?_)
      · replace h := condT c5 h
        refine W_seqK ?_
        obtain ⟨y4, hy4, h⟩ := bC h
        refine zCd (ok_reader_composite hy4) [6, 7] [true, false, false] ?_
        exact zRet [.agg (c_S_reader_Ref y4.1), (vI y4.2)]
      · replace h := condF c5 h
        refine zKd [6, 10] [true, false, true] ?_
        refine W_seqK ?_
        refine zRd [6, 7] [true, false, false] ?_
        exact zRet [.agg [(gP e_S_arena_Arena a0), (vI (IntKind.i64.wrap (y2.1.P.Code + 2))), (vI y2.1.Segment), (vI y2.1.At), (vI 0), (vI 0), (vI y2.1.P.Count), (vI 0), (vI 0)], (vI 0)]

end Go.Proofs.Ytgffgbdnbjbmoaa
