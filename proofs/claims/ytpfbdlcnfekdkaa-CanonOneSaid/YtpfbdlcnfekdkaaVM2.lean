/- Part VM2 of this seat's mirrors: functions of the seat's program, and the plain functions that they are; each theorem bears its own conditions. -/
import Derived.Test.YtpfbdlcnfekdkaaVE
import Derived.Test.YtpfbdlcnfekdkaaVM1
namespace Go.Proofs.Ytpfbdlcnfekdkaa
open Go.RowKit
set_option linter.unusedVariables false
set_option linter.unusedSimpArgs false
set_option maxRecDepth 100000
set_option maxHeartbeats 4000000
attribute [local push_cast] Try.results103 Try.results104 Try.results105 Try.results126 Try.results14 Try.results15 Try.results17 Try.results18 Try.results38 Try.results40 Try.results41 Try.results65 Try.results70 vI vB nV sL oR c_S_api_Tree c_S_ptr_Ptr gfork_t gfork_f pfork_t pfork_f gthen gblock gops_nil gops_plain gops_guard onW gwantB gcalm gact gpick gpickV strip_any strip_val strip_agg strip_tup strip_sl strip_ip strip_row strip_rs strip_rp strip_rl strip_ref strip_fn strip_when evS wok calmOp Op.operands Call.operands gop onK onP atK List.all_cons List.all_nil Bool.and_true Bool.true_and Bool.and_self Value.oneCell' List.take_zero List.take_succ_cons List.take_nil List.drop_zero List.drop_succ_cons List.drop_nil List.append_nil Nat.add_zero Nat.zero_add gstep gputE ev look genv gbin_ii gbin_bb gbin_ss gbin_pp gbin_rp gbin_ip gbin_ll gbin_aa geqS geqF gint gunary gconvert gload gcells gpart_lit gstore cellsOf_agg cellsOf_val cellsOf_sl cellsOf_ip cellsOf_row cellsOf_rs cellsOf_rp cellsOf_rl cellsOf_ref cellsOf_fn cellsOf_any cellsOf_tup cellsOf_when cellsOf_gP gput gplace_lit gfieldAddr gstepIn gindexAddr gindex gfield gopt bLo bHi bMx gextract galloc gbox gbuild gfill gplaces gbuildSlice gmake glen gappend gsrc gbuiltin gnil live_any live_val live_agg live_tup live_sl live_ip live_fn live_when live_ref live_rs live_rp live_rl live_row live_gP gres gone prun_nil prun_plain prun_guard pop TK.isAgg one_any one_val one_agg one_tup one_when one_sl one_ip one_row one_rs one_rp one_rl one_ref one_fn G.under G.unders List.getD_cons_zero List.getD_cons_succ List.set_cons_zero List.set_cons_succ List.map_cons List.map_nil List.toList_toArray Array.toList_append Option.toArray_none Option.toArray_some Array.toList_map Option.map_some Option.map_none Option.bind_some Option.bind_none List.getElem?_cons_zero List.getElem?_cons_succ List.getElem?_nil List.nil_append List.cons_append List.replicate_succ List.replicate_zero List.length_cons List.length_nil and_true true_and and_false false_and Bool.true_eq_false Bool.false_eq_true forall_const false_implies implies_true IntKind.bits if_true if_false ite_true ite_false eq_self true_implies false_or or_false or_true true_or not_true_eq_false not_false_eq_true decide_true decide_false decide_eq_true_eq decide_eq_false_iff_not beq_iff_eq bne_iff_ne ne_eq Bool.not_eq_true Bool.not_eq_false beq_eq_false_iff_ne bne_eq_false_iff_eq beq_self_eq_true bne_self_eq_false Option.some.injEq exists_eq_left' exists_eq_left ge_iff_le gt_iff_lt decide_not Bool.not_true Bool.not_false imp_self gquiet cond_true cond_false beqT beqF Bool.not_not Bool.and_false Bool.false_and Bool.or_true Bool.true_or Bool.or_false Bool.false_or Loc_at Loc_at0 Loc_upd Loc_upd0 Loc_push Loc_push0 Option.join_some Nat.add_assoc Int.toNat_natCast eI eB eS eL fl_nil gopsD_nil gopsD_plain gopsD_t gopsD_f gopsD_n onKD onWD prunD_nil prunD_plain prunD_t prunD_f prunD_n onPD fitO fitO1 sameO fitL fl_append fl_one List.length_append G.agg.injEq G.row.injEq G.ref.injEq G.val.injEq G.sl.injEq G.tup.injEq Value.int.injEq Value.bool.injEq Value.string.injEq List.cons.injEq exists_and_left exists_const List.flatten_cons List.flatten_nil Int.le_refl Nat.le_refl upd_updU Loc_out Loc_updo Bool.not_eq_true' Bool.not_eq_false' wkl_nil wkl_cons wk_any wk_val wk_agg wk_tup wk_sl wk_fn List.size_toArray renO renO1 G.ren G.rens renL rho_at rho_at0 gP_none gP_some strip_gP wok_gP one_gP G.fn.injEq wk_slnil wk_slrow wk_slrs wk_ip wk_ipref wk_row wk_rs wk_rp wk_rl wk_ref locLt0 locLt Option.join_none upd_same fl_cons undef keepL Arr.len Arr.put_eq prunB_nil prunB_bar prunB_bart prunB_plain prunB_t prunB_f prunB_n onB onBP gcopy setI_len cpyAt_len Loc_cat0 Loc_cat1 Loc_cat2 Loc_cat3 Loc_cat4 Loc_cat5 noObjs_at prunK_nil prunK_bar prunK_pass prunK_plain prunK_low prunK_pt prunK_pf prunK_lt prunK_lf onKg onKa onKp popL pickOps lows lowG prunK_shp prunK_fill popH shpOp fillOp fillG rho_low rens_app Loc_cat6 Loc_cat7 Loc_cat8 Loc_cat9 Loc_cat10 Loc_cat11 Loc_cat12 Loc_cat13 Loc_cat14 Loc_cat15 Loc_cat16 dropM prT kdOf tab2 tkind2 tab3 tkind3 tab4 tkind4 tab5 tkind5 tab6 tkind6 tab7 tkind7 tab8 tkind8 tab9 tkind9 tab10 tkind10 tab11 tkind11 tab12 tkind12 tab13 tkind13 tab14 tkind14 tab15 tkind15 tab16 tkind16 tab17 tkind17 tab18 tkind18 tab19 tkind19 tab21 tkind21 tab22 tkind22 tab23 tkind23 tab24 tkind24 tab26 tkind26 tab27 tkind27 tab28 tkind28 tab29 tkind29 tab30 tkind30 tab33 tkind33 tab46 tkind46 tab49 tkind49 tab50 tkind50 tab61 tkind61 tab62 tkind62 tab63 tkind63 tab65 tkind65 tab66 tkind66 tab74 tkind74 tab75 tkind75 tab84 tkind84 tab85 tkind85 tab87 tkind87 tab88 tkind88 tab91 tkind91 tab92 tkind92 tab93 tkind93 tab104 tkind104 tab105 tkind105 tab106 tkind106 tab112 tkind112 tab113 tkind113 tab116 tkind116 tab117 tkind117 tab119 tkind119 tab120 tkind120 tab126 tkind126 tab127 tkind127 tab141 tkind141 tab142 tkind142 tab149 tkind149 tab150 tkind150 tab151 tkind151 tab159 tkind159 tab161 tkind161 tab162 tkind162 tab166 tkind166 tab167 tkind167 tab169 tkind169 tab170 tkind170 tab171 tkind171 e_S_api_Tree e0_eq_S_api_Tree wkl_eI_u64 wka_eI_u64 len_eI_u64 one_eI_u64 wkp_eI_u64 undp_eI_u64 rens_eI_u64 renp_eI_u64 und_eI_u64 wkl_e_S_api_Tree wka_e_S_api_Tree len_e_S_api_Tree one_e_S_api_Tree wkp_e_S_api_Tree undp_e_S_api_Tree rens_e_S_api_Tree renp_e_S_api_Tree und_e_S_api_Tree wkl_eI_i64 wka_eI_i64 len_eI_i64 one_eI_i64 wkp_eI_i64 undp_eI_i64 rens_eI_i64 renp_eI_i64 und_eI_i64 e_S_ptr_Ptr e_S_canon_layer
theorem ok_word_Put {a0 : Int} {a1 : (List Int)} {r : ((List Int) × Bool)} {O : Objs} {n : Nat} (h : m_word_Put a0 a1 = some r) : GTo Try.prog 126 [(vI a0), (sL (eI .u64) a1)] O n (.tup [(sL (eI .u64) r.1), (vB r.2)]) O n := by
  unfold m_word_Put at h
  refine zFn Try.call126 Try.func126 fun hU hN0 hN => ?_
  show W _ _ _ _ ⟨68, [], [(0, (vI a0)), (1, (sL (eI .u64) a1))]⟩ (Loc O n []) _
  refine zQ [0, 1] ?_
  refine W_seqK ?_
  obtain ⟨y2, hy2, h⟩ := bC h
  refine zCd (ok_word_Width hy2) [0, 1, 6, 7] [] ?_
  refine W_seqK ?_
  refine zQd [0, 1, 6, 7, 19, 20, 21] [0, 1, 6, 7, 19, 20, 21] [] ?_
  obtain ⟨z8, hz8, h⟩ := bC h
  refine W_blockX (E' := ⟨68, [], [(0, (vI a0)), (1, (sL (eI .u64) a1)), (6, (vI y2.1)), (7, (vB z8))]⟩) (O' := (Loc O n [])) (n0 := n) ?_ ?_
  · refine W_loopJ hz8 (fun s0_ => ⟨68, [], [(0, (vI a0)), (1, (sL (eI .u64) a1)), (6, (vI y2.1)), (7, (vB s0_.1)), (19, (sL (eI .u64) a1)), (20, (vI (a1.length : Int))), (21, (vI s0_.2))]⟩) (fun s0_ => (Loc O n [])) (fun z8 => JX 0 n (⟨68, [], [(0, (vI a0)), (1, (sL (eI .u64) a1)), (6, (vI y2.1)), (7, (vB z8))]⟩ : Env) (Loc O n []) n) ?_
    intro s0_ x0_ hs0_
    unfold m_word_Put_L0 at hs0_
    try dsimp only
    refine zQ [0, 1, 6, 7, 19, 20, 21, 22] ?_
    refine W_seqK ?_
    refine W_cond (t := (decide (s0_.2 < (a1.length : Int)))) rfl (fun c7 => ?_) (fun c7 => ?_)
    · replace hs0_ := condT c7 hs0_
      refine zKd [0, 1, 6, 7, 19, 20, 21] [] ?_
      refine W_seqK ?_
      refine W_block ?_
      obtain ⟨x4, hx4, ax4, bx4, cx4, hs0_⟩ := bE (f := (eI .u64)) tab63 (fun _ => rfl) (by decide) hs0_
      refine W_sq [0, 1, 6, 7, 9, 19, 20, 21] (W_regionD tab_ok [] ?_)
      refine zF3 ax4 bx4 cx4 ?_
      rcases Bool.eq_false_or_eq_true s0_.1 with c6 | c6
      · replace hs0_ := condT c6 hs0_
        obtain ⟨y5, hy5, hs0_⟩ := bC hs0_
        refine zRox1 [some true, some true, some true] c6 ?_
        refine (ok_word_Fits hy5).then ?_
        refine zX1 c6 ?_
        refine zD [0, 1, 6, 7, 19, 20, 21] [] ?_
        refine zR ?_
        exact zEnx1 hs0_ c6
      · replace hs0_ := condF c6 hs0_
        refine zRox1 [some false, some false, some false] c6 ?_
        refine zD [0, 1, 6, 7, 19, 20, 21] [] ?_
        refine zR ?_
        exact zEn hs0_
    · replace hs0_ := condF c7 hs0_
      exact zEx hs0_
  try simp only [gthen, gblock, ↓reduceIte, Nat.reduceEqDiff]
  refine zDs [0, 1, 6, 7] [] ?_
  refine zQ [0, 1, 6, 33] ?_
  refine W_cond (t := (!z8)) rfl (fun c26 => ?_) (fun c26 => ?_)
  · replace h := condT c26 h
    refine zQ [4, 5] ?_
    exact zRet [nV, (vB false)]
  · replace h := condF c26 h
    refine zKd [0, 1, 6] [] ?_
    refine W_seqK ?_
    obtain ⟨y11, hy11, h⟩ := bC h
    obtain ⟨l12, al12, bl12, cl12, el12, h⟩ := bM2 (c := 8) rfl h
    have nl12 : Int.toNat y11 = List.length l12 := by rw [el12, List.length_replicate]
    have fl12 : (List.replicate (List.length l12) [.val (.int .u64 0)]).flatten = fl (eI .u64) l12 := by rw [← nl12, el12]; exact (fl_replicate (f := (eI .u64)) _ _).symm
    clear el12
    refine W_regionD tab_ok [] ?_
    simp only [push_cast, seval, ↓reduceIte, cast_lit, al12, bl12, cl12, fl12, nl12, hN0, hN]
    refine (ok_word_Room hy11).then ?_
    simp only [push_cast, seval, ↓reduceIte, cast_lit, al12, bl12, cl12, fl12, nl12, hN0, hN]
    refine W_fit ⟨68, [], [(1, (sL (eI .u64) a1)), (6, (vI y2.1)), (10, .row n l12.length)]⟩ (Loc O n [some (oR 63 1 (eI .u64) l12)]) (fit_loc hU rfl rfl ?_) ?_
    · simp only [push_cast, seval, ↓reduceIte, cast_lit, al12, bl12, cl12, fl12, nl12, hN0, hN]
    refine W_seqK ?_
    refine zQ [1, 6, 10, 40] ?_
    refine W_cond (t := (y2.1 == 0)) rfl (fun c25 => ?_) (fun c25 => ?_)
    · replace h := condT c25 h
      refine zQ [4, 5] ?_
      exact zRet [.row n l12.length, (vB true)]
    · replace h := condF c25 h
      refine zKd [1, 6, 10] [true] ?_
      obtain ⟨pu14, h⟩ := bG h
      refine W_sq [1, 6, 10, 11] (W_regionD tab_ok [] ?_)
      simp only [push_cast, seval, ↓reduceIte, cast_lit, pu14, hN0, hN]
      refine W_seqK ?_
      refine zQd [6, 10, 11, 44, 45, 46] [6, 10, 11, 44, 45, 46] [true] ?_
      obtain ⟨z24, hz24, h⟩ := bC h
      refine W_blockX (E' := ⟨68, [], [(10, .row n z24.length)]⟩) (O' := (Loc O n [some (oR 63 1 (eI .u64) z24)])) (n0 := (n + 1)) ?_ ?_
      · refine W_loopJ hz24 (fun s1_ => ⟨68, [], [(6, (vI y2.1)), (10, .row n s1_.2.length), (11, (vI (IntKind.i64.wrap (Int.tdiv 64 y2.1)))), (44, (sL (eI .u64) a1)), (45, (vI (a1.length : Int))), (46, (vI s1_.1))]⟩) (fun s1_ => (Loc O n [some (oR 63 1 (eI .u64) s1_.2)])) (fun z24 => JX 2 n (⟨68, [], [(10, .row n z24.length)]⟩ : Env) (Loc O n [some (oR 63 1 (eI .u64) z24)]) (n + 1)) ?_
        intro s1_ x1_ hs1_
        unfold m_word_Put_L1 at hs1_
        try dsimp only
        refine zQ [6, 10, 11, 44, 45, 46, 47] ?_
        refine W_seqK ?_
        refine W_cond (t := (decide (s1_.1 < (a1.length : Int)))) rfl (fun c23 => ?_) (fun c23 => ?_)
        · replace hs1_ := condT c23 hs1_
          refine zKd [6, 10, 11, 44, 45, 46] [true] ?_
          refine W_seqK ?_
          refine W_block ?_
          obtain ⟨x16, hx16, ax16, bx16, cx16, hs1_⟩ := bE (f := (eI .u64)) tab63 (fun _ => rfl) (by decide) hs1_
          refine W_sq [6, 10, 11, 12, 13, 44, 45, 46] (W_regionD tab_ok [] ?_)
          refine zF3 ax16 bx16 cx16 ?_
          obtain ⟨pu17, hs1_⟩ := bG hs1_
          obtain ⟨x18, hx18, ax18, bx18, cx18, hs1_⟩ := bE (f := (eI .u64)) tab63 (fun _ => rfl) (by decide) hs1_
          obtain ⟨pu19, hs1_⟩ := bG hs1_
          obtain ⟨pu20, hs1_⟩ := bG hs1_
          have gu22 : gplace (fl (eI .u64) s1_.2) [.val (.int .u64 (IntKind.u64.wrap (lorI .u64 x18 (IntKind.u64.wrap (x16 * 2 ^ min (Int.toNat (IntKind.i64.wrap ((Int.tmod s1_.1 (IntKind.i64.wrap (Int.tdiv 64 y2.1))) * y2.1))) 64)))))] (Int.toNat (IntKind.i64.wrap (Int.tdiv s1_.1 (IntKind.i64.wrap (Int.tdiv 64 y2.1)))) * 1) = some (fl (eI .u64) (setI s1_.2 (IntKind.i64.wrap (Int.tdiv s1_.1 (IntKind.i64.wrap (Int.tdiv 64 y2.1)))) (IntKind.u64.wrap (lorI .u64 x18 (IntKind.u64.wrap (x16 * 2 ^ min (Int.toNat (IntKind.i64.wrap ((Int.tmod s1_.1 (IntKind.i64.wrap (Int.tdiv 64 y2.1))) * y2.1))) 64)))))) := gplace_el (f := (eI .u64)) (ti := ⟨.bool, 1, 0, [], false⟩) (x := (IntKind.u64.wrap (lorI .u64 x18 (IntKind.u64.wrap (x16 * 2 ^ min (Int.toNat (IntKind.i64.wrap ((Int.tmod s1_.1 (IntKind.i64.wrap (Int.tdiv 64 y2.1))) * y2.1))) 64))))) (fun _ => rfl) (getI_nat hx18)
          refine W_drawF tab_ok (by kernel_rfl) [false, false, false, false, false, false, false, false, false, false, false, false, false, false, false, true] [] (by kernel_rfl) ?_
          refine zF7 pu17 ax18 bx18 cx18 pu19 pu20 gu22 ?_
          refine zD [6, 10, 11, 44, 45, 46] [true] ?_
          refine zR ?_
          exact zEn hs1_
        · replace hs1_ := condF c23 hs1_
          exact zEx hs1_
      try simp only [gthen, gblock, ↓reduceIte, Nat.reduceEqDiff]
      refine zD [10] [true] ?_
      refine zQ [4, 5] ?_
      exact zRet [.row n z24.length, (vB true)]

theorem ok_canon_numbers {a0 : S_api_Tree} {r : (List Int)} {O : Objs} {n : Nat} (h : m_canon_numbers a0 = some r) : GTo Try.prog 105 [.agg (c_S_api_Tree a0)] O n ((sL (eI .u64) r)) O n := by
  unfold m_canon_numbers at h
  refine zFn Try.call105 Try.func105 fun hU hN0 hN => ?_
  show W _ _ _ _ ⟨30, [], [(0, .agg (c_S_api_Tree a0))]⟩ (Loc O n []) _
  refine zQ [1] ?_
  refine zQ [1, 3] ?_
  refine W_seqK ?_
  refine zQd [1, 3, 9, 10, 11] [1, 3, 9, 10, 11] [true] ?_
  refine W_fit2 (E' := (⟨30, [], [(1, .ref n 0), (3, .row (n + 1) ([] : List Int).length), (9, (sL e_S_api_Tree a0.Kids)), (10, (vI (a0.Kids.length : Int))), (11, (vI 0))]⟩ : Env)) (O' := (Loc O n [some ⟨false, 29, 3, 1, (c_S_api_Tree a0)⟩, some (oR 63 1 (eI .u64) ([] : List Int)), none])) (n' := (n + 3)) ?_ ?_
  · refine Fit2.trans (E' := (⟨30, [], [(1, .ref n 0), (3, nV), (9, (sL e_S_api_Tree a0.Kids)), (10, (vI (a0.Kids.length : Int))), (11, (vI 0))]⟩ : Env)) (O' := (Loc O n [some ⟨false, 29, 3, 1, (c_S_api_Tree a0)⟩])) (n' := (n + 1)) (Fit2.of (fit_loc hU rfl rfl ?_) (by omega)) ?_
    · exact zSe
    refine Fit2.trans (adopt_fit 3 63 1 rfl (by omega)) ?_
    simp only [Loc_push, Loc_push0, Loc_upd, Loc_upd0, List.set_cons_zero, List.set_cons_succ, List.cons_append, List.nil_append, List.length_cons, List.length_nil, Nat.zero_add, Nat.reduceAdd, Nat.reduceLT, Nat.add_assoc]
    refine Fit2.trans (E' := (⟨30, [], [(1, .ref n 0), (3, .row (n + 1) ([] : List Int).length), (9, (sL e_S_api_Tree a0.Kids)), (10, (vI (a0.Kids.length : Int))), (11, (vI 0))]⟩ : Env)) (O' := (Loc O n [some ⟨false, 29, 3, 1, (c_S_api_Tree a0)⟩, some (oR 63 1 (eI .u64) ([] : List Int))])) (n' := (n + 2)) (Fit2.of (fit_loc hU rfl rfl ?_) (by omega)) ?_
    · exact zSe
    refine ren_fit (k := 2) (k' := 3) hU [0, 1] [0, 1, 0] rfl rfl rfl rfl ⟨rfl, rfl⟩ ?_
    exact zSe
  obtain ⟨z6, hz6, h⟩ := bC h
  refine W_blockX (E' := ⟨30, [], [(1, .ref n 0), (3, .row (n + 1) z6.length)]⟩) (O' := (Loc O n [some ⟨false, 29, 3, 1, (c_S_api_Tree a0)⟩, some (oR 63 1 (eI .u64) z6), none])) (n0 := (n + 3)) ?_ ?_
  · refine W_loopJ hz6 (fun s0_ => ⟨30, [], [(1, .ref n 0), (3, .row (n + 1) s0_.2.length), (9, (sL e_S_api_Tree a0.Kids)), (10, (vI (a0.Kids.length : Int))), (11, (vI s0_.1))]⟩) (fun s0_ => (Loc O n [some ⟨false, 29, 3, 1, (c_S_api_Tree a0)⟩, some (oR 63 1 (eI .u64) s0_.2), none])) (fun z6 => JX 0 n (⟨30, [], [(1, .ref n 0), (3, .row (n + 1) z6.length)]⟩ : Env) (Loc O n [some ⟨false, 29, 3, 1, (c_S_api_Tree a0)⟩, some (oR 63 1 (eI .u64) z6), none]) (n + 3)) ?_
    intro s0_ x0_ hs0_
    unfold m_canon_numbers_L0 at hs0_
    try dsimp only
    refine zQ [1, 3, 9, 10, 11, 12] ?_
    refine W_seqK ?_
    refine W_cond (t := (decide (s0_.1 < (a0.Kids.length : Int)))) rfl (fun c5 => ?_) (fun c5 => ?_)
    · replace hs0_ := condT c5 hs0_
      refine zKd [1, 3, 9, 10, 11] [true, true, false] ?_
      refine W_seqK ?_
      refine W_block ?_
      refine W_seqK ?_
      obtain ⟨x2, hx2, ax2, bx2, cx2, hs0_⟩ := bE (f := e_S_api_Tree) tab29 (fun _ => rfl) (by decide) hs0_
      refine zRof3 [] ax2 bx2 cx2 ?_
      refine zD [1, 3, 5, 9, 10, 11] [true, true, false, true] ?_
      obtain ⟨y3, hy3, hs0_⟩ := bC hs0_
      obtain ⟨l4, pl4, ql4, el4, hs0_⟩ := bA (k := 1) rfl hs0_
      refine zRox3 [] pl4 ql4 el4 ?_
      refine (ok_tree_Word hy3).then ?_
      refine zX3 pl4 ql4 el4 ?_
      refine W_fit ⟨30, [], [(1, .ref n 0), (3, .row (n + 1) l4.length), (9, (sL e_S_api_Tree a0.Kids)), (10, (vI (a0.Kids.length : Int))), (11, (vI s0_.1))]⟩ (Loc O n [some ⟨false, 29, 3, 1, (c_S_api_Tree a0)⟩, some (oR 63 1 (eI .u64) l4), none, none, none]) (fit_loc hU rfl rfl ?_) ?_
      · exact zXe3 pl4 ql4 el4
      refine zR ?_
      exact zEn hs0_
    · replace hs0_ := condF c5 hs0_
      exact zEx hs0_
  try simp only [gthen, gblock, ↓reduceIte, Nat.reduceEqDiff]
  refine zD [1, 3] [true, true, false] ?_
  refine W_fit ⟨30, [], [(1, .ref n 0), (3, (sL (eI .u64) z6))]⟩ (Loc O n [some ⟨false, 29, 3, 1, (c_S_api_Tree a0)⟩, none, none]) (fit_loc hU rfl rfl ?_) ?_
  · exact zSe
  refine W_seqK ?_
  obtain ⟨y8, hy8, h⟩ := bC h
  refine zCd (ok_word_Put hy8) [6] [false, false, false] ?_
  refine zQ [2] ?_
  exact zRet [(sL (eI .u64) y8.1)]

def oT_r_canon_layer_point (r_canon_layer_point : (S_canon_layer → Int → S_api_Tree → Option S_canon_layer)) : Prop := ∀ {a0 : S_canon_layer} {a1 : Int} {a2 : S_api_Tree} {r : S_canon_layer} {O : Objs} {n : Nat} {i0 j0_0 : Nat}, i0 < n → j0_0 < n → i0 ≠ j0_0 → O i0 = some ⟨false, 66, 2, 1, [.row j0_0 a0.words.length, (vI a0.next)]⟩ → O j0_0 = some (oR 63 1 (eI .u64) a0.words) → r_canon_layer_point a0 a1 a2 = some r → GTo Try.prog 38 [.ref i0 0, (vI a1), .agg (c_S_api_Tree a2)] O n (.tup []) (Loc ((O.upd j0_0 none).upd i0 (some ⟨false, 66, 2, 1, [.row n r.words.length, (vI r.next)]⟩)) n [some (oR 63 1 (eI .u64) r.words)]) (n + 1)
def oT_r_canon_layer_content (r_canon_layer_content : (S_canon_layer → Int → S_api_Tree → Option S_canon_layer)) : Prop := ∀ {a0 : S_canon_layer} {a1 : Int} {a2 : S_api_Tree} {r : S_canon_layer} {O : Objs} {n : Nat} {i0 j0_0 : Nat}, i0 < n → j0_0 < n → i0 ≠ j0_0 → O i0 = some ⟨false, 66, 2, 1, [.row j0_0 a0.words.length, (vI a0.next)]⟩ → O j0_0 = some (oR 63 1 (eI .u64) a0.words) → r_canon_layer_content a0 a1 a2 = some r → GTo Try.prog 65 [.ref i0 0, (vI a1), .agg (c_S_api_Tree a2)] O n (.tup []) (Loc ((O.upd j0_0 none).upd i0 (some ⟨false, 66, 2, 1, [.row n r.words.length, (vI r.next)]⟩)) n [some (oR 63 1 (eI .u64) r.words)]) (n + 1)
def oT_r_canon_layer_pointAll (r_canon_layer_pointAll : (S_canon_layer → Int → (List S_api_Tree) → Option S_canon_layer)) : Prop := ∀ {a0 : S_canon_layer} {a1 : Int} {a2 : (List S_api_Tree)} {r : S_canon_layer} {O : Objs} {n : Nat} {i0 j0_0 : Nat}, i0 < n → j0_0 < n → i0 ≠ j0_0 → O i0 = some ⟨false, 66, 2, 1, [.row j0_0 a0.words.length, (vI a0.next)]⟩ → O j0_0 = some (oR 63 1 (eI .u64) a0.words) → r_canon_layer_pointAll a0 a1 a2 = some r → GTo Try.prog 103 [.ref i0 0, (vI a1), (sL e_S_api_Tree a2)] O n (.tup []) (Loc ((O.upd j0_0 none).upd i0 (some ⟨false, 66, 2, 1, [.row n r.words.length, (vI r.next)]⟩)) n [some (oR 63 1 (eI .u64) r.words)]) (n + 1)
def oT_r_canon_layer_structs (r_canon_layer_structs : (S_canon_layer → Int → S_api_Tree → Option S_canon_layer)) : Prop := ∀ {a0 : S_canon_layer} {a1 : Int} {a2 : S_api_Tree} {r : S_canon_layer} {O : Objs} {n : Nat} {i0 j0_0 : Nat}, i0 < n → j0_0 < n → i0 ≠ j0_0 → O i0 = some ⟨false, 66, 2, 1, [.row j0_0 a0.words.length, (vI a0.next)]⟩ → O j0_0 = some (oR 63 1 (eI .u64) a0.words) → r_canon_layer_structs a0 a1 a2 = some r → GTo Try.prog 104 [.ref i0 0, (vI a1), .agg (c_S_api_Tree a2)] O n (.tup []) (Loc ((O.upd j0_0 none).upd i0 (some ⟨false, 66, 2, 1, [.row n r.words.length, (vI r.next)]⟩)) n [some (oR 63 1 (eI .u64) r.words)]) (n + 1)
theorem okb_canon_layer_point {r_canon_layer_point : (S_canon_layer → Int → S_api_Tree → Option S_canon_layer)} {r_canon_layer_content : (S_canon_layer → Int → S_api_Tree → Option S_canon_layer)} {r_canon_layer_pointAll : (S_canon_layer → Int → (List S_api_Tree) → Option S_canon_layer)} {r_canon_layer_structs : (S_canon_layer → Int → S_api_Tree → Option S_canon_layer)} (ok_r_canon_layer_point : oT_r_canon_layer_point r_canon_layer_point) (ok_r_canon_layer_content : oT_r_canon_layer_content r_canon_layer_content) (ok_r_canon_layer_pointAll : oT_r_canon_layer_pointAll r_canon_layer_pointAll) (ok_r_canon_layer_structs : oT_r_canon_layer_structs r_canon_layer_structs) {a0 : S_canon_layer} {a1 : Int} {a2 : S_api_Tree} {r : S_canon_layer} {O : Objs} {n : Nat} {i0 j0_0 : Nat} (hi0 : i0 < n) (hj0_0 : j0_0 < n) (hne0_0 : i0 ≠ j0_0) (ho0 : O i0 = some ⟨false, 66, 2, 1, [.row j0_0 a0.words.length, (vI a0.next)]⟩) (hoj0_0 : O j0_0 = some (oR 63 1 (eI .u64) a0.words)) (h : b_canon_layer_point r_canon_layer_point r_canon_layer_content r_canon_layer_pointAll r_canon_layer_structs a0 a1 a2 = some r) : GTo Try.prog 38 [.ref i0 0, (vI a1), .agg (c_S_api_Tree a2)] O n (.tup []) (Loc ((O.upd j0_0 none).upd i0 (some ⟨false, 66, 2, 1, [.row n r.words.length, (vI r.next)]⟩)) n [some (oR 63 1 (eI .u64) r.words)]) (n + 1) := by
  unfold b_canon_layer_point at h
  refine fn_of tab_ok Try.call38 Try.func38 rfl (Nat.le_of_ble_eq_true rfl) (by omega) fun hU => ?_
  have e0 := take_fit (ba := n) (E := ⟨60, [], genv 0 [.ref i0 0, .val (.int .i64 a1), .agg [.val (.int .i64 a2.Kind), .sl a2.Words.length (fl (eI .u64) a2.Words), .sl a2.Kids.length (fl e_S_api_Tree a2.Kids)]]⟩) (O := (Loc O n [])) (n := n) (i := i0) (j := j0_0) (k := 0) (len := a0.words.length) (q := ⟨false, 66, 2, 1, [.row j0_0 a0.words.length, .val (.int .i64 a0.next)]⟩) (qj := ⟨true, 63, 1, a0.words.length, fl (eI .u64) a0.words⟩) (by rw [Loc_out _ hi0]; first | exact ho0 | exact upd_same _ _ _) rfl (by rw [Loc_out _ hj0_0]; exact hoj0_0) hne0_0 (by omega)
  simp only [Loc_updo _ _ hj0_0, Loc_updo _ _ hi0, Loc_push, Loc_push0, upd_updU, upd_in hne0_0, List.set_cons_zero, List.set_cons_succ, List.cons_append, List.nil_append, List.length_cons, List.length_nil, Nat.zero_add, Nat.reduceAdd, Nat.add_assoc] at e0
  refine W_fit2 e0 ?_
  have hU := (Und.drop hU j0_0)
  have hk0 : ∀ k, i0 < n + k := fun k => by omega
  have hN0 : ∀ o, Objs.upd (O.upd j0_0 none) i0 o n = none := fun o => upd_fresh hU hi0 _ (Nat.le_refl _)
  have hN : ∀ o k, Objs.upd (O.upd j0_0 none) i0 o (n + k) = none := fun o k => upd_fresh hU hi0 _ (Nat.le_add_right _ _)
  show W _ _ _ _ ⟨60, [], [(0, .ref i0 0), (1, (vI a1)), (2, .agg (c_S_api_Tree a2))]⟩ (Loc ((O.upd j0_0 none).upd i0 (some ⟨false, 66, 2, 1, [.row n a0.words.length, (vI a0.next)]⟩)) n [some (oR 63 1 (eI .u64) a0.words)]) _
  refine zQx2 [0, 1, 5] hi0 hk0 ?_
  refine W_seqK ?_
  refine zQx2 [0, 1, 5, 12] hi0 hk0 ?_
  refine W_cond (t := (a2.Kind == 0)) rfl (fun c14 => ?_) (fun c14 => ?_)
  · replace h := condT c14 h
    refine zW ?_
    have h := Option.some.inj h; subst h
    refine fin_locV (k := 1) (i := i0) (q1 := ⟨false, 66, 2, 1, [.row n a0.words.length, (vI a0.next)]⟩) (L3 := [some (oR 63 1 (eI .u64) a0.words), none]) (E2 := (⟨60, [], []⟩ : Env)) (n3 := (n + 2)) (.inr rfl) hU rfl [] ?_ ?_
    · refine Fit2.trans (E' := (⟨60, [], []⟩ : Env)) (O' := (Loc ((O.upd j0_0 none).upd i0 (some ⟨false, 66, 2, 1, [.row n a0.words.length, (vI a0.next)]⟩)) n [some (oR 63 1 (eI .u64) a0.words), none])) (n' := (n + 2)) (Fit2.of (fit_loco hU rfl rfl ?_) (by omega)) ?_
      · exact zXe2 hi0 hk0
      refine ren_fito (k := 2) (k' := 2) hU [0, 1] [0, 0] rfl rfl rfl rfl ⟨rfl, rfl⟩ ?_
      exact zXe2 hi0 hk0
    simp only [push_cast, seval, ↓reduceIte, cast_lit, Try.results38, hi0, hk0, hN0, hN]
  · replace h := condF c14 h
    refine zKd [0, 1, 5] [true, true] ?_
    refine W_seqK ?_
    obtain ⟨y2, hy2, h⟩ := bC h
    refine zRox2 [] hi0 hk0 ?_
    refine (ok_canon_shape hy2).then ?_
    refine zX2 hi0 hk0 ?_
    refine zD [0, 1, 5, 6] [true, true, true] ?_
    refine zQx2 [0, 1, 5, 6, 7] hi0 hk0 ?_
    refine W_seqK ?_
    obtain ⟨y4, hy4, h⟩ := bC h
    refine zRox2 [] hi0 hk0 ?_
    refine (ok_ptr_Ptr_Words hy4).then ?_
    refine zX2 hi0 hk0 ?_
    refine zDs [0, 1, 5, 6, 7, 8] [true, true, true] ?_
    refine zRox2 [] hi0 hk0 ?_
    refine zD [0, 1, 5, 6, 7, 8] [true, true, true] ?_
    obtain ⟨z5, hz5, h⟩ := bC h
    refine W_seqN (E' := ⟨60, [], [(0, .ref i0 0), (1, (vI a1)), (5, .ref (n + 1) 0), (6, .ref (n + 2) 0), (7, (vI a0.next)), (8, (vI y4.1))]⟩) (O' := (Loc ((O.upd j0_0 none).upd i0 (some ⟨false, 66, 2, 1, [.row n a0.words.length, (vI a0.next)]⟩)) n [some (oR 63 1 (eI .u64) a0.words), some ⟨false, 29, 3, 1, (c_S_api_Tree a2)⟩, some ⟨false, 93, 8, 1, [(vI y2.Kind), (vI z5), (vI y2.Data), (vI y2.Ptrs), (vI y2.Code), (vI y2.Count), (vI y2.Segment), (vB y2.Double)]⟩])) (n0 := (n + 3)) ?_ ?_
    · refine W_sq [0, 1, 5, 6, 7, 8, 35] (W_regionD tab_ok [none, none] ?_)
      refine zX2 hi0 hk0 ?_
      refine zG ?_
      refine W_cond (t := (cond (y2.Kind == 1) (y4.1 == 0) false)) rfl (fun c6 => ?_) (fun c6 => ?_)
      · replace hz5 := condT c6 hz5
        refine zRox2 [] hi0 hk0 ?_
        have hz5 := Option.some.inj hz5; subst hz5
        refine And.intro rfl (Fit2.of (fit_loco hU rfl rfl ?_) (by omega))
        exact zXe2 hi0 hk0
      · replace hz5 := condF c6 hz5
        refine zK ?_
        have hz5 := Option.some.inj hz5; subst hz5
        refine And.intro rfl (Fit2.of (fit_loco hU rfl rfl ?_) (by omega))
        exact zXe2 hi0 hk0
    refine W_seqK ?_
    obtain ⟨y10, hy10, h⟩ := bC h
    obtain ⟨x11, hx11, ax11, bx11, cx11, h⟩ := bE (f := (eI .u64)) tab63 (fun _ => rfl) (by decide) h
    have gu12 : gplace (fl (eI .u64) a0.words) [.val (.int .u64 y10.1)] (Int.toNat a1 * 1) = some (fl (eI .u64) (setI a0.words a1 y10.1)) := gplace_el (f := (eI .u64)) (ti := ⟨.bool, 1, 0, [], false⟩) (x := y10.1) (fun _ => rfl) (getI_nat hx11)
    refine W_drawF tab_ok (by kernel_rfl) [false, false, false, false, false, false, false, false, false, false, false, true] [] (by kernel_rfl) ?_
    refine zF6 ax11 bx11 cx11 gu12 hi0 hk0 ?_
    refine PCall.of (ok_ptr_Encode hy10) ?_
    refine zF6 ax11 bx11 cx11 gu12 hi0 hk0 ?_
    refine zDs [0, 5, 7, 8] [true, true, false] ?_
    refine zRox2 [] hi0 hk0 ?_
    refine zD [0, 5, 7] [true, true, false] ?_
    obtain ⟨y13, hy13, h⟩ := bC h
    refine zRox2 [] hi0 hk0 ?_
    refine (ok_r_canon_layer_content (i0 := i0) (j0_0 := n) (by omega) (by omega) (by omega) (by simp only [push_cast, seval, ↓reduceIte, cast_lit, fl_nil, hi0, hk0, hN0, hN] <;> rfl) (by simp only [push_cast, seval, ↓reduceIte, cast_lit, fl_nil, hi0, hk0, hN0, hN] <;> rfl) hy13).then ?_
    refine zX2 hi0 hk0 ?_
    have h := Option.some.inj h; subst h
    refine fin_locV (k := 1) (i := i0) (q1 := ⟨false, 66, 2, 1, [.row n y13.words.length, (vI y13.next)]⟩) (L3 := [some (oR 63 1 (eI .u64) y13.words), none]) (E2 := (⟨60, [], []⟩ : Env)) (n3 := (n + 2)) (.inl rfl) hU rfl [] ?_ ?_
    · refine Fit2.trans (E' := (⟨60, [], []⟩ : Env)) (O' := (Loc ((O.upd j0_0 none).upd i0 (some ⟨false, 66, 2, 1, [.row (n + 3) y13.words.length, (vI y13.next)]⟩)) n [none, none, none, some (oR 63 1 (eI .u64) y13.words)])) (n' := (n + 4)) (Fit2.of (fit_loco hU rfl rfl ?_) (by omega)) ?_
      · exact zXe2 hi0 hk0
      refine ren_fito (k := 4) (k' := 2) hU [1, 1, 1, 0] [3, 0] rfl rfl rfl rfl ⟨rfl, rfl⟩ ?_
      exact zXe2 hi0 hk0
    simp only [push_cast, seval, ↓reduceIte, cast_lit, Try.results38, hi0, hk0, hN0, hN]

theorem okb_canon_layer_content {r_canon_layer_point : (S_canon_layer → Int → S_api_Tree → Option S_canon_layer)} {r_canon_layer_content : (S_canon_layer → Int → S_api_Tree → Option S_canon_layer)} {r_canon_layer_pointAll : (S_canon_layer → Int → (List S_api_Tree) → Option S_canon_layer)} {r_canon_layer_structs : (S_canon_layer → Int → S_api_Tree → Option S_canon_layer)} (ok_r_canon_layer_point : oT_r_canon_layer_point r_canon_layer_point) (ok_r_canon_layer_content : oT_r_canon_layer_content r_canon_layer_content) (ok_r_canon_layer_pointAll : oT_r_canon_layer_pointAll r_canon_layer_pointAll) (ok_r_canon_layer_structs : oT_r_canon_layer_structs r_canon_layer_structs) {a0 : S_canon_layer} {a1 : Int} {a2 : S_api_Tree} {r : S_canon_layer} {O : Objs} {n : Nat} {i0 j0_0 : Nat} (hi0 : i0 < n) (hj0_0 : j0_0 < n) (hne0_0 : i0 ≠ j0_0) (ho0 : O i0 = some ⟨false, 66, 2, 1, [.row j0_0 a0.words.length, (vI a0.next)]⟩) (hoj0_0 : O j0_0 = some (oR 63 1 (eI .u64) a0.words)) (h : b_canon_layer_content r_canon_layer_point r_canon_layer_content r_canon_layer_pointAll r_canon_layer_structs a0 a1 a2 = some r) : GTo Try.prog 65 [.ref i0 0, (vI a1), .agg (c_S_api_Tree a2)] O n (.tup []) (Loc ((O.upd j0_0 none).upd i0 (some ⟨false, 66, 2, 1, [.row n r.words.length, (vI r.next)]⟩)) n [some (oR 63 1 (eI .u64) r.words)]) (n + 1) := by
  unfold b_canon_layer_content at h
  refine fn_of tab_ok Try.call65 Try.func65 rfl (Nat.le_of_ble_eq_true rfl) (by omega) fun hU => ?_
  have e0 := take_fit (ba := n) (E := ⟨47, [], genv 0 [.ref i0 0, .val (.int .i64 a1), .agg [.val (.int .i64 a2.Kind), .sl a2.Words.length (fl (eI .u64) a2.Words), .sl a2.Kids.length (fl e_S_api_Tree a2.Kids)]]⟩) (O := (Loc O n [])) (n := n) (i := i0) (j := j0_0) (k := 0) (len := a0.words.length) (q := ⟨false, 66, 2, 1, [.row j0_0 a0.words.length, .val (.int .i64 a0.next)]⟩) (qj := ⟨true, 63, 1, a0.words.length, fl (eI .u64) a0.words⟩) (by rw [Loc_out _ hi0]; first | exact ho0 | exact upd_same _ _ _) rfl (by rw [Loc_out _ hj0_0]; exact hoj0_0) hne0_0 (by omega)
  simp only [Loc_updo _ _ hj0_0, Loc_updo _ _ hi0, Loc_push, Loc_push0, upd_updU, upd_in hne0_0, List.set_cons_zero, List.set_cons_succ, List.cons_append, List.nil_append, List.length_cons, List.length_nil, Nat.zero_add, Nat.reduceAdd, Nat.add_assoc] at e0
  refine W_fit2 e0 ?_
  have hU := (Und.drop hU j0_0)
  have hk0 : ∀ k, i0 < n + k := fun k => by omega
  have hN0 : ∀ o, Objs.upd (O.upd j0_0 none) i0 o n = none := fun o => upd_fresh hU hi0 _ (Nat.le_refl _)
  have hN : ∀ o k, Objs.upd (O.upd j0_0 none) i0 o (n + k) = none := fun o k => upd_fresh hU hi0 _ (Nat.le_add_right _ _)
  show W _ _ _ _ ⟨47, [], [(0, .ref i0 0), (1, (vI a1)), (2, .agg (c_S_api_Tree a2))]⟩ (Loc ((O.upd j0_0 none).upd i0 (some ⟨false, 66, 2, 1, [.row n a0.words.length, (vI a0.next)]⟩)) n [some (oR 63 1 (eI .u64) a0.words)]) _
  refine zQx2 [0, 1, 5] hi0 hk0 ?_
  refine zQx2 [0, 1, 5, 7] hi0 hk0 ?_
  refine W_block ?_
  refine zQx2 [0, 1, 5, 7, 17] hi0 hk0 ?_
  refine W_cond (t := (a2.Kind == 1)) rfl (fun c11 => ?_) (fun c11 => ?_)
  · replace h := condT c11 h
    obtain ⟨pu1, h⟩ := bG h
    have su1 := fun j => gslice_rowlo (T := tab) (j := j) tkind26 tab63 pu1
    have g2 := gplace_cpyAt (f := (eI .u64)) a0.words a2.Words a1 (fun _ => rfl) pu1.2.1 pu1.2.2
    have mg2 := Nat.mul_one (List.length a2.Words)
    obtain ⟨y3, hy3, h⟩ := bC h
    refine W_drawY tab_ok (by kernel_rfl) [.plain, .plain, .plain, .plain, .plain, .plain, .plain, .plain, .plain, .plain, .pass, .plain, .low, .low, .bar] (fun i => i < (n + 2) ∧ ¬ i = n) [0, 1, 2, 3, 4, 5, 6, 7, 8, 9, 12, 13, 10, 11, 14] [.plain, .plain, .plain, .plain, .plain, .plain, .plain, .plain, .plain, .plain, .low, .low, .pass, .plain, .bar] [] (by kernel_rfl) rfl ?_
    simp only [push_cast, seval, ↓reduceIte, cast_lit, pu1.1, pu1.2.1, pu1.2.2, su1, g2, mg2, hi0, hk0, hN0, hN]
    refine zO ?_
    refine (ok_r_canon_layer_pointAll (i0 := i0) (j0_0 := n) (by omega) (by omega) (by omega) (by simp only [push_cast, seval, ↓reduceIte, cast_lit, fl_nil, pu1.1, pu1.2.1, pu1.2.2, su1, g2, mg2, hi0, hk0, hN0, hN] <;> rfl) (by simp only [push_cast, seval, ↓reduceIte, cast_lit, fl_nil, pu1.1, pu1.2.1, pu1.2.2, su1, g2, mg2, hi0, hk0, hN0, hN] <;> rfl) hy3).then ?_
    simp only [push_cast, seval, ↓reduceIte, cast_lit, pu1.1, pu1.2.1, pu1.2.2, su1, g2, mg2, hi0, hk0, hN0, hN]
    refine zO ?_
    have h := Option.some.inj h; subst h
    refine fin_locV (k := 1) (i := i0) (q1 := ⟨false, 66, 2, 1, [.row n y3.words.length, (vI y3.next)]⟩) (L3 := [some (oR 63 1 (eI .u64) y3.words), none]) (E2 := (⟨47, [], []⟩ : Env)) (n3 := (n + 2)) (.inl rfl) hU rfl [] ?_ ?_
    · refine Fit2.trans (E' := (⟨47, [], []⟩ : Env)) (O' := (Loc ((O.upd j0_0 none).upd i0 (some ⟨false, 66, 2, 1, [.row (n + 2) y3.words.length, (vI y3.next)]⟩)) n [none, none, some (oR 63 1 (eI .u64) y3.words)])) (n' := (n + 3)) (Fit2.of (fit_loco hU rfl rfl ?_) (by omega)) ?_
      · simp only [push_cast, seval, ↓reduceIte, cast_lit, pu1.1, pu1.2.1, pu1.2.2, su1, g2, mg2, hi0, hk0, hN0, hN]
      refine ren_fito (k := 3) (k' := 2) hU [1, 1, 0] [2, 0] rfl rfl rfl rfl ⟨rfl, rfl⟩ ?_
      exact zXe2 hi0 hk0
    simp only [push_cast, seval, ↓reduceIte, cast_lit, Try.results65, hi0, hk0, hN0, hN]
  · replace h := condF c11 h
    refine zQx2 [0, 1, 5, 7, 34] hi0 hk0 ?_
    refine W_cond (t := (a2.Kind == 8)) rfl (fun c10 => ?_) (fun c10 => ?_)
    · replace h := condT c10 h
      obtain ⟨y4, hy4, h⟩ := bC h
      refine zRox2 [] hi0 hk0 ?_
      refine (ok_r_canon_layer_pointAll (i0 := i0) (j0_0 := n) (by omega) (by omega) (by omega) (by simp only [push_cast, seval, ↓reduceIte, cast_lit, fl_nil, hi0, hk0, hN0, hN] <;> rfl) (by simp only [push_cast, seval, ↓reduceIte, cast_lit, fl_nil, hi0, hk0, hN0, hN] <;> rfl) hy4).then ?_
      refine zX2 hi0 hk0 ?_
      have h := Option.some.inj h; subst h
      refine fin_locV (k := 1) (i := i0) (q1 := ⟨false, 66, 2, 1, [.row n y4.words.length, (vI y4.next)]⟩) (L3 := [some (oR 63 1 (eI .u64) y4.words), none]) (E2 := (⟨47, [], []⟩ : Env)) (n3 := (n + 2)) (.inl rfl) hU rfl [] ?_ ?_
      · refine Fit2.trans (E' := (⟨47, [], []⟩ : Env)) (O' := (Loc ((O.upd j0_0 none).upd i0 (some ⟨false, 66, 2, 1, [.row (n + 2) y4.words.length, (vI y4.next)]⟩)) n [none, none, some (oR 63 1 (eI .u64) y4.words)])) (n' := (n + 3)) (Fit2.of (fit_loco hU rfl rfl ?_) (by omega)) ?_
        · exact zXe2 hi0 hk0
        refine ren_fito (k := 3) (k' := 2) hU [1, 1, 0] [2, 0] rfl rfl rfl rfl ⟨rfl, rfl⟩ ?_
        exact zXe2 hi0 hk0
      simp only [push_cast, seval, ↓reduceIte, cast_lit, Try.results65, hi0, hk0, hN0, hN]
    · replace h := condF c10 h
      refine zQx2 [0, 1, 5, 41] hi0 hk0 ?_
      refine W_cond (t := (a2.Kind == 9)) rfl (fun c9 => ?_) (fun c9 => ?_)
      · replace h := condT c9 h
        obtain ⟨y5, hy5, h⟩ := bC h
        refine zRox2 [] hi0 hk0 ?_
        refine (ok_r_canon_layer_structs (i0 := i0) (j0_0 := n) (by omega) (by omega) (by omega) (by simp only [push_cast, seval, ↓reduceIte, cast_lit, fl_nil, hi0, hk0, hN0, hN] <;> rfl) (by simp only [push_cast, seval, ↓reduceIte, cast_lit, fl_nil, hi0, hk0, hN0, hN] <;> rfl) hy5).then ?_
        refine zX2 hi0 hk0 ?_
        have h := Option.some.inj h; subst h
        refine fin_locV (k := 1) (i := i0) (q1 := ⟨false, 66, 2, 1, [.row n y5.words.length, (vI y5.next)]⟩) (L3 := [some (oR 63 1 (eI .u64) y5.words), none]) (E2 := (⟨47, [], []⟩ : Env)) (n3 := (n + 2)) (.inl rfl) hU rfl [] ?_ ?_
        · refine Fit2.trans (E' := (⟨47, [], []⟩ : Env)) (O' := (Loc ((O.upd j0_0 none).upd i0 (some ⟨false, 66, 2, 1, [.row (n + 2) y5.words.length, (vI y5.next)]⟩)) n [none, none, some (oR 63 1 (eI .u64) y5.words)])) (n' := (n + 3)) (Fit2.of (fit_loco hU rfl rfl ?_) (by omega)) ?_
          · exact zXe2 hi0 hk0
          refine ren_fito (k := 3) (k' := 2) hU [1, 1, 0] [2, 0] rfl rfl rfl rfl ⟨rfl, rfl⟩ ?_
          exact zXe2 hi0 hk0
        simp only [push_cast, seval, ↓reduceIte, cast_lit, Try.results65, hi0, hk0, hN0, hN]
      · replace h := condF c9 h
        obtain ⟨pu6, h⟩ := bG h
        have su6 := fun j => gslice_rowlo (T := tab) (j := j) tkind26 tab63 pu6
        obtain ⟨y7, hy7, h⟩ := bC h
        have g8 := gplace_cpyAt (f := (eI .u64)) a0.words y7 a1 (fun _ => rfl) pu6.2.1 pu6.2.2
        have mg8 := Nat.mul_one (List.length y7)
        refine W_drawF tab_ok (by kernel_rfl) [false, false, false, false, false, false, false, false, true] [] (by kernel_rfl) ?_
        simp only [push_cast, seval, ↓reduceIte, cast_lit, pu6.1, pu6.2.1, pu6.2.2, su6, g8, mg8, hi0, hk0, hN0, hN]
        refine PCall.of (ok_canon_numbers hy7) ?_
        simp only [push_cast, seval, ↓reduceIte, cast_lit, pu6.1, pu6.2.1, pu6.2.2, su6, g8, mg8, hi0, hk0, hN0, hN]
        have h := Option.some.inj h; subst h
        refine fin_locV (k := 1) (i := i0) (q1 := ⟨false, 66, 2, 1, [.row n (cpyAt a0.words a1 y7).length, (vI a0.next)]⟩) (L3 := [some (oR 63 1 (eI .u64) (cpyAt a0.words a1 y7)), none]) (E2 := (⟨47, [], []⟩ : Env)) (n3 := (n + 2)) (.inl rfl) hU rfl [] ?_ ?_
        · refine Fit2.trans (E' := (⟨47, [], []⟩ : Env)) (O' := (Loc ((O.upd j0_0 none).upd i0 (some ⟨false, 66, 2, 1, [.row n (cpyAt a0.words a1 y7).length, (vI a0.next)]⟩)) n [some (oR 63 1 (eI .u64) (cpyAt a0.words a1 y7)), none])) (n' := (n + 2)) (Fit2.of (fit_loco hU rfl rfl ?_) (by omega)) ?_
          · simp only [push_cast, seval, ↓reduceIte, cast_lit, pu6.1, pu6.2.1, pu6.2.2, su6, g8, mg8, hi0, hk0, hN0, hN]
          refine ren_fito (k := 2) (k' := 2) hU [0, 1] [0, 0] rfl rfl rfl rfl ⟨rfl, rfl⟩ ?_
          exact zXe2 hi0 hk0
        simp only [push_cast, seval, ↓reduceIte, cast_lit, Try.results65, hi0, hk0, hN0, hN]

theorem okb_canon_layer_pointAll {r_canon_layer_point : (S_canon_layer → Int → S_api_Tree → Option S_canon_layer)} {r_canon_layer_content : (S_canon_layer → Int → S_api_Tree → Option S_canon_layer)} {r_canon_layer_pointAll : (S_canon_layer → Int → (List S_api_Tree) → Option S_canon_layer)} {r_canon_layer_structs : (S_canon_layer → Int → S_api_Tree → Option S_canon_layer)} (ok_r_canon_layer_point : oT_r_canon_layer_point r_canon_layer_point) (ok_r_canon_layer_content : oT_r_canon_layer_content r_canon_layer_content) (ok_r_canon_layer_pointAll : oT_r_canon_layer_pointAll r_canon_layer_pointAll) (ok_r_canon_layer_structs : oT_r_canon_layer_structs r_canon_layer_structs) {a0 : S_canon_layer} {a1 : Int} {a2 : (List S_api_Tree)} {r : S_canon_layer} {O : Objs} {n : Nat} {i0 j0_0 : Nat} (hi0 : i0 < n) (hj0_0 : j0_0 < n) (hne0_0 : i0 ≠ j0_0) (ho0 : O i0 = some ⟨false, 66, 2, 1, [.row j0_0 a0.words.length, (vI a0.next)]⟩) (hoj0_0 : O j0_0 = some (oR 63 1 (eI .u64) a0.words)) (h : b_canon_layer_pointAll r_canon_layer_point r_canon_layer_content r_canon_layer_pointAll r_canon_layer_structs a0 a1 a2 = some r) : GTo Try.prog 103 [.ref i0 0, (vI a1), (sL e_S_api_Tree a2)] O n (.tup []) (Loc ((O.upd j0_0 none).upd i0 (some ⟨false, 66, 2, 1, [.row n r.words.length, (vI r.next)]⟩)) n [some (oR 63 1 (eI .u64) r.words)]) (n + 1) := by
  unfold b_canon_layer_pointAll at h
  refine fn_of tab_ok Try.call103 Try.func103 rfl (Nat.le_of_ble_eq_true rfl) (by omega) fun hU => ?_
  have e0 := take_fit (ba := n) (E := ⟨22, [], genv 0 [.ref i0 0, .val (.int .i64 a1), .sl a2.length (fl e_S_api_Tree a2)]⟩) (O := (Loc O n [])) (n := n) (i := i0) (j := j0_0) (k := 0) (len := a0.words.length) (q := ⟨false, 66, 2, 1, [.row j0_0 a0.words.length, .val (.int .i64 a0.next)]⟩) (qj := ⟨true, 63, 1, a0.words.length, fl (eI .u64) a0.words⟩) (by rw [Loc_out _ hi0]; first | exact ho0 | exact upd_same _ _ _) rfl (by rw [Loc_out _ hj0_0]; exact hoj0_0) hne0_0 (by omega)
  simp only [Loc_updo _ _ hj0_0, Loc_updo _ _ hi0, Loc_push, Loc_push0, upd_updU, upd_in hne0_0, List.set_cons_zero, List.set_cons_succ, List.cons_append, List.nil_append, List.length_cons, List.length_nil, Nat.zero_add, Nat.reduceAdd, Nat.add_assoc] at e0
  refine W_fit2 e0 ?_
  have hU := (Und.drop hU j0_0)
  have hk0 : ∀ k, i0 < n + k := fun k => by omega
  have hN0 : ∀ o, Objs.upd (O.upd j0_0 none) i0 o n = none := fun o => upd_fresh hU hi0 _ (Nat.le_refl _)
  have hN : ∀ o k, Objs.upd (O.upd j0_0 none) i0 o (n + k) = none := fun o k => upd_fresh hU hi0 _ (Nat.le_add_right _ _)
  show W _ _ _ _ ⟨22, [], [(0, .ref i0 0), (1, (vI a1)), (2, (sL e_S_api_Tree a2))]⟩ (Loc ((O.upd j0_0 none).upd i0 (some ⟨false, 66, 2, 1, [.row n a0.words.length, (vI a0.next)]⟩)) n [some (oR 63 1 (eI .u64) a0.words)]) _
  refine zQx2 [0, 1, 8, 9, 10] hi0 hk0 ?_
  refine zD [0, 1, 8, 9, 10] [true] ?_
  refine W_fit2 (E' := (⟨22, [], [(0, .ref i0 0), (1, (vI a1)), (8, (sL e_S_api_Tree a2)), (9, (vI (a2.length : Int))), (10, (vI 0))]⟩ : Env)) (O' := (Loc ((O.upd j0_0 none).upd i0 (some ⟨false, 66, 2, 1, [.row (n + 1) a0.words.length, (vI a0.next)]⟩)) n [none, some (oR 63 1 (eI .u64) a0.words)])) (n' := (n + 2)) ?_ ?_
  · refine Fit2.trans (E' := (⟨22, [], [(0, .ref i0 0), (1, (vI a1)), (8, (sL e_S_api_Tree a2)), (9, (vI (a2.length : Int))), (10, (vI 0))]⟩ : Env)) (O' := (Loc ((O.upd j0_0 none).upd i0 (some ⟨false, 66, 2, 1, [.row n a0.words.length, (vI a0.next)]⟩)) n [some (oR 63 1 (eI .u64) a0.words)])) (n' := (n + 1)) (Fit2.of (fit_loco hU rfl rfl ?_) (by omega)) ?_
    · exact zXe2 hi0 hk0
    refine ren_fito (k := 1) (k' := 2) hU [1] [0, 0] rfl rfl rfl rfl ⟨rfl, rfl⟩ ?_
    exact zXe2 hi0 hk0
  obtain ⟨z5, hz5, h⟩ := bC h
  refine W_blockX (E' := ⟨22, [], []⟩) (O' := (Loc ((O.upd j0_0 none).upd i0 (some ⟨false, 66, 2, 1, [.row (n + 1) z5.1.length, (vI z5.2)]⟩)) n [none, some (oR 63 1 (eI .u64) z5.1)])) (n0 := (n + 2)) ?_ ?_
  · refine W_loopJ hz5 (fun s0_ => ⟨22, [], [(0, .ref i0 0), (1, (vI a1)), (8, (sL e_S_api_Tree a2)), (9, (vI (a2.length : Int))), (10, (vI s0_.1))]⟩) (fun s0_ => (Loc ((O.upd j0_0 none).upd i0 (some ⟨false, 66, 2, 1, [.row (n + 1) s0_.2.1.length, (vI s0_.2.2)]⟩)) n [none, some (oR 63 1 (eI .u64) s0_.2.1)])) (fun z5 => JX 0 n (⟨22, [], []⟩ : Env) (Loc ((O.upd j0_0 none).upd i0 (some ⟨false, 66, 2, 1, [.row (n + 1) z5.1.length, (vI z5.2)]⟩)) n [none, some (oR 63 1 (eI .u64) z5.1)]) (n + 2)) ?_
    intro s0_ x0_ hs0_
    unfold b_canon_layer_pointAll_L0 at hs0_
    try dsimp only
    refine zQx2 [0, 1, 8, 9, 10, 11] hi0 hk0 ?_
    refine W_seqK ?_
    refine W_cond (t := (decide (s0_.1 < (a2.length : Int)))) rfl (fun c4 => ?_) (fun c4 => ?_)
    · replace hs0_ := condT c4 hs0_
      refine zKd [0, 1, 8, 9, 10] [false, true] ?_
      refine W_seqK ?_
      refine W_block ?_
      refine W_seqK ?_
      obtain ⟨x2, hx2, ax2, bx2, cx2, hs0_⟩ := bE (f := e_S_api_Tree) tab29 (fun _ => rfl) (by decide) hs0_
      refine zRof5 [] ax2 bx2 cx2 hi0 hk0 ?_
      refine zD [0, 1, 6, 7, 8, 9, 10] [false, true, true] ?_
      obtain ⟨y3, hy3, hs0_⟩ := bC hs0_
      refine zRox2 [] hi0 hk0 ?_
      refine (ok_r_canon_layer_point (i0 := i0) (j0_0 := (n + 1)) (by omega) (by omega) (by omega) (by simp only [push_cast, seval, ↓reduceIte, cast_lit, fl_nil, hi0, hk0, hN0, hN] <;> rfl) (by simp only [push_cast, seval, ↓reduceIte, cast_lit, fl_nil, hi0, hk0, hN0, hN] <;> rfl) hy3).then ?_
      refine zX2 hi0 hk0 ?_
      refine zD [0, 1, 8, 9, 10] [false, false, false, true] ?_
      refine zRox2 [] hi0 hk0 ?_
      have hs0_ := Option.some.inj hs0_; subst hs0_
      refine And.intro rfl ?_
      refine Fit2.trans (E' := (⟨22, [], [(0, .ref i0 0), (1, (vI a1)), (8, (sL e_S_api_Tree a2)), (9, (vI (a2.length : Int))), (10, (vI (IntKind.i64.wrap (s0_.1 + 1))))]⟩ : Env)) (O' := (Loc ((O.upd j0_0 none).upd i0 (some ⟨false, 66, 2, 1, [.row (n + 3) y3.words.length, (vI y3.next)]⟩)) n [none, none, none, some (oR 63 1 (eI .u64) y3.words)])) (n' := (n + 4)) (Fit2.of (fit_loco hU rfl rfl ?_) (by omega)) ?_
      · exact zXe2 hi0 hk0
      refine ren_fito (k := 4) (k' := 2) hU [0, 0, 0, 1] [0, 3] rfl rfl rfl rfl ⟨rfl, rfl⟩ ?_
      exact zXe2 hi0 hk0
    · replace hs0_ := condF c4 hs0_
      refine zXt ?_
      have hs0_ := Option.some.inj hs0_; subst hs0_
      refine And.intro (fun h => by cases h) (And.intro rfl (Fit2.of (fit_loco hU rfl rfl ?_) (by omega)))
      exact zXe2 hi0 hk0
  try simp only [gthen, gblock, ↓reduceIte, Nat.reduceEqDiff]
  have h := Option.some.inj h; subst h
  refine fin_locV (k := 1) (i := i0) (q1 := ⟨false, 66, 2, 1, [.row n z5.1.length, (vI z5.2)]⟩) (L3 := [some (oR 63 1 (eI .u64) z5.1), none]) (E2 := (⟨22, [], []⟩ : Env)) (n3 := (n + 2)) (.inl rfl) hU rfl [] ?_ ?_
  · refine Fit2.trans (E' := (⟨22, [], []⟩ : Env)) (O' := (Loc ((O.upd j0_0 none).upd i0 (some ⟨false, 66, 2, 1, [.row (n + 1) z5.1.length, (vI z5.2)]⟩)) n [none, some (oR 63 1 (eI .u64) z5.1)])) (n' := (n + 2)) (Fit2.of (fit_loco hU rfl rfl ?_) (by omega)) ?_
    · exact zXe2 hi0 hk0
    refine ren_fito (k := 2) (k' := 2) hU [1, 0] [1, 0] rfl rfl rfl rfl ⟨rfl, rfl⟩ ?_
    exact zXe2 hi0 hk0
  simp only [push_cast, seval, ↓reduceIte, cast_lit, Try.results103, hi0, hk0, hN0, hN]

theorem okb_canon_layer_structs {r_canon_layer_point : (S_canon_layer → Int → S_api_Tree → Option S_canon_layer)} {r_canon_layer_content : (S_canon_layer → Int → S_api_Tree → Option S_canon_layer)} {r_canon_layer_pointAll : (S_canon_layer → Int → (List S_api_Tree) → Option S_canon_layer)} {r_canon_layer_structs : (S_canon_layer → Int → S_api_Tree → Option S_canon_layer)} (ok_r_canon_layer_point : oT_r_canon_layer_point r_canon_layer_point) (ok_r_canon_layer_content : oT_r_canon_layer_content r_canon_layer_content) (ok_r_canon_layer_pointAll : oT_r_canon_layer_pointAll r_canon_layer_pointAll) (ok_r_canon_layer_structs : oT_r_canon_layer_structs r_canon_layer_structs) {a0 : S_canon_layer} {a1 : Int} {a2 : S_api_Tree} {r : S_canon_layer} {O : Objs} {n : Nat} {i0 j0_0 : Nat} (hi0 : i0 < n) (hj0_0 : j0_0 < n) (hne0_0 : i0 ≠ j0_0) (ho0 : O i0 = some ⟨false, 66, 2, 1, [.row j0_0 a0.words.length, (vI a0.next)]⟩) (hoj0_0 : O j0_0 = some (oR 63 1 (eI .u64) a0.words)) (h : b_canon_layer_structs r_canon_layer_point r_canon_layer_content r_canon_layer_pointAll r_canon_layer_structs a0 a1 a2 = some r) : GTo Try.prog 104 [.ref i0 0, (vI a1), .agg (c_S_api_Tree a2)] O n (.tup []) (Loc ((O.upd j0_0 none).upd i0 (some ⟨false, 66, 2, 1, [.row n r.words.length, (vI r.next)]⟩)) n [some (oR 63 1 (eI .u64) r.words)]) (n + 1) := by
  unfold b_canon_layer_structs at h
  refine fn_of tab_ok Try.call104 Try.func104 rfl (Nat.le_of_ble_eq_true rfl) (by omega) fun hU => ?_
  have e0 := take_fit (ba := n) (E := ⟨85, [], genv 0 [.ref i0 0, .val (.int .i64 a1), .agg [.val (.int .i64 a2.Kind), .sl a2.Words.length (fl (eI .u64) a2.Words), .sl a2.Kids.length (fl e_S_api_Tree a2.Kids)]]⟩) (O := (Loc O n [])) (n := n) (i := i0) (j := j0_0) (k := 0) (len := a0.words.length) (q := ⟨false, 66, 2, 1, [.row j0_0 a0.words.length, .val (.int .i64 a0.next)]⟩) (qj := ⟨true, 63, 1, a0.words.length, fl (eI .u64) a0.words⟩) (by rw [Loc_out _ hi0]; first | exact ho0 | exact upd_same _ _ _) rfl (by rw [Loc_out _ hj0_0]; exact hoj0_0) hne0_0 (by omega)
  simp only [Loc_updo _ _ hj0_0, Loc_updo _ _ hi0, Loc_push, Loc_push0, upd_updU, upd_in hne0_0, List.set_cons_zero, List.set_cons_succ, List.cons_append, List.nil_append, List.length_cons, List.length_nil, Nat.zero_add, Nat.reduceAdd, Nat.add_assoc] at e0
  refine W_fit2 e0 ?_
  have hU := (Und.drop hU j0_0)
  have hk0 : ∀ k, i0 < n + k := fun k => by omega
  have hN0 : ∀ o, Objs.upd (O.upd j0_0 none) i0 o n = none := fun o => upd_fresh hU hi0 _ (Nat.le_refl _)
  have hN : ∀ o k, Objs.upd (O.upd j0_0 none) i0 o (n + k) = none := fun o k => upd_fresh hU hi0 _ (Nat.le_add_right _ _)
  show W _ _ _ _ ⟨85, [], [(0, .ref i0 0), (1, (vI a1)), (2, .agg (c_S_api_Tree a2))]⟩ (Loc ((O.upd j0_0 none).upd i0 (some ⟨false, 66, 2, 1, [.row n a0.words.length, (vI a0.next)]⟩)) n [some (oR 63 1 (eI .u64) a0.words)]) _
  refine zQx2 [0, 1, 5] hi0 hk0 ?_
  refine W_seqK ?_
  obtain ⟨y2, hy2, h⟩ := bC h
  refine zRox2 [] hi0 hk0 ?_
  refine (ok_tree_Frame hy2).then ?_
  refine zX2 hi0 hk0 ?_
  refine zD [0, 1, 5, 6, 7] [true, true] ?_
  obtain ⟨z3, hz3, h⟩ := bC h
  refine W_seqN (E' := ⟨85, [], [(0, .ref i0 0), (1, (vI a1)), (5, .ref (n + 1) 0), (6, (vI y2.1)), (7, (vI y2.2))]⟩) (O' := (Loc ((O.upd j0_0 none).upd i0 (some ⟨false, 66, 2, 1, [.row n z3.length, (vI a0.next)]⟩)) n [some (oR 63 1 (eI .u64) z3), some ⟨false, 29, 3, 1, (c_S_api_Tree a2)⟩])) (n0 := (n + 2)) ?_ ?_
  · refine zQx2 [0, 1, 5, 6, 7, 20] hi0 hk0 ?_
    refine W_cond (t := (decide (0 < (a2.Kids.length : Int)))) rfl (fun c7 => ?_) (fun c7 => ?_)
    · replace hz3 := condT c7 hz3
      obtain ⟨y4, hy4, hz3⟩ := bC hz3
      obtain ⟨x5, hx5, ax5, bx5, cx5, hz3⟩ := bE (f := (eI .u64)) tab63 (fun _ => rfl) (by decide) hz3
      have gu6 : gplace (fl (eI .u64) a0.words) [.val (.int .u64 y4.1)] (Int.toNat a1 * 1) = some (fl (eI .u64) (setI a0.words a1 y4.1)) := gplace_el (f := (eI .u64)) (ti := ⟨.bool, 1, 0, [], false⟩) (x := y4.1) (fun _ => rfl) (getI_nat hx5)
      refine W_drawF tab_ok (by kernel_rfl) [false, false, false, false, false, false, false, false, false, false, false, false, false, false, false, false, true] [] (by kernel_rfl) ?_
      refine zF6 ax5 bx5 cx5 gu6 hi0 hk0 ?_
      refine PCall.of (ok_ptr_Encode hy4) ?_
      refine zF6 ax5 bx5 cx5 gu6 hi0 hk0 ?_
      have hz3 := Option.some.inj hz3; subst hz3
      refine And.intro rfl (Fit2.of (fit_loco hU rfl rfl ?_) (by omega))
      exact zFe6 ax5 bx5 cx5 gu6 hi0 hk0
    · replace hz3 := condF c7 hz3
      refine zK ?_
      have hz3 := Option.some.inj hz3; subst hz3
      refine And.intro rfl (Fit2.of (fit_loco hU rfl rfl ?_) (by omega))
      exact zXe2 hi0 hk0
  refine zQx2 [0, 1, 5, 6, 7] hi0 hk0 ?_
  refine W_seqK ?_
  refine zQx2 [0, 1, 5, 6, 7, 40, 41, 42] hi0 hk0 ?_
  refine zD [0, 1, 5, 6, 7, 40, 41, 42] [true, true] ?_
  obtain ⟨z13, hz13, h⟩ := bC h
  refine W_blockX (E' := ⟨85, [], [(0, .ref i0 0), (1, (vI (IntKind.i64.wrap (a1 + 1)))), (5, .ref (n + 1) 0), (6, (vI y2.1)), (7, (vI y2.2))]⟩) (O' := (Loc ((O.upd j0_0 none).upd i0 (some ⟨false, 66, 2, 1, [.row n z13.length, (vI a0.next)]⟩)) n [some (oR 63 1 (eI .u64) z13), some ⟨false, 29, 3, 1, (c_S_api_Tree a2)⟩])) (n0 := (n + 2)) ?_ ?_
  · refine W_loopJ hz13 (fun s0_ => ⟨85, [], [(0, .ref i0 0), (1, (vI (IntKind.i64.wrap (a1 + 1)))), (5, .ref (n + 1) 0), (6, (vI y2.1)), (7, (vI y2.2)), (40, (sL e_S_api_Tree a2.Kids)), (41, (vI (a2.Kids.length : Int))), (42, (vI s0_.1))]⟩) (fun s0_ => (Loc ((O.upd j0_0 none).upd i0 (some ⟨false, 66, 2, 1, [.row n s0_.2.length, (vI a0.next)]⟩)) n [some (oR 63 1 (eI .u64) s0_.2), some ⟨false, 29, 3, 1, (c_S_api_Tree a2)⟩])) (fun z13 => JX 0 n (⟨85, [], [(0, .ref i0 0), (1, (vI (IntKind.i64.wrap (a1 + 1)))), (5, .ref (n + 1) 0), (6, (vI y2.1)), (7, (vI y2.2))]⟩ : Env) (Loc ((O.upd j0_0 none).upd i0 (some ⟨false, 66, 2, 1, [.row n z13.length, (vI a0.next)]⟩)) n [some (oR 63 1 (eI .u64) z13), some ⟨false, 29, 3, 1, (c_S_api_Tree a2)⟩]) (n + 2)) ?_
    intro s0_ x0_ hs0_
    unfold b_canon_layer_structs_L0 at hs0_
    try dsimp only
    refine zQx2 [0, 1, 5, 6, 7, 40, 41, 42, 43] hi0 hk0 ?_
    refine W_seqK ?_
    refine W_cond (t := (decide (s0_.1 < (a2.Kids.length : Int)))) rfl (fun c12 => ?_) (fun c12 => ?_)
    · replace hs0_ := condT c12 hs0_
      refine zKd [0, 1, 5, 6, 7, 40, 41, 42] [true, true] ?_
      refine W_seqK ?_
      refine W_block ?_
      refine W_seqK ?_
      obtain ⟨x9, hx9, ax9, bx9, cx9, hs0_⟩ := bE (f := e_S_api_Tree) tab29 (fun _ => rfl) (by decide) hs0_
      refine zRof5 [] ax9 bx9 cx9 hi0 hk0 ?_
      refine zD [0, 1, 5, 6, 7, 8, 9, 40, 41, 42] [true, true, true] ?_
      obtain ⟨pu10, hs0_⟩ := bG hs0_
      have su10 := fun j => gslice_rowlo (T := tab) (j := j) tkind26 tab63 pu10
      have g11 := gplace_cpyAt (f := (eI .u64)) s0_.2 x9.Words (IntKind.i64.wrap ((IntKind.i64.wrap (a1 + 1)) + (IntKind.i64.wrap (s0_.1 * (IntKind.i64.wrap (y2.1 + y2.2)))))) (fun _ => rfl) pu10.2.1 pu10.2.2
      have mg11 := Nat.mul_one (List.length x9.Words)
      refine W_drawF tab_ok (by kernel_rfl) [false, false, false, false, false, false, false, false, false, false, false, false, false, false, true] [] (by kernel_rfl) ?_
      simp only [push_cast, seval, ↓reduceIte, cast_lit, pu10.1, pu10.2.1, pu10.2.2, su10, g11, mg11, hi0, hk0, hN0, hN]
      refine zD [0, 1, 5, 6, 7, 40, 41, 42] [true, true, false] ?_
      refine zRox2 [] hi0 hk0 ?_
      have hs0_ := Option.some.inj hs0_; subst hs0_
      refine And.intro rfl (Fit2.of (fit_loco hU rfl rfl ?_) (by omega))
      exact zXe2 hi0 hk0
    · replace hs0_ := condF c12 hs0_
      refine zXt ?_
      have hs0_ := Option.some.inj hs0_; subst hs0_
      refine And.intro (fun h => by cases h) (And.intro rfl (Fit2.of (fit_loco hU rfl rfl ?_) (by omega)))
      exact zXe2 hi0 hk0
  try simp only [gthen, gblock, ↓reduceIte, Nat.reduceEqDiff]
  refine zD [0, 1, 5, 6, 7] [true, true] ?_
  refine zQx2 [0, 1, 6, 7, 64, 65, 66] hi0 hk0 ?_
  refine zD [0, 1, 6, 7, 64, 65, 66] [true, false] ?_
  refine W_fit2 (E' := (⟨85, [], [(0, .ref i0 0), (1, (vI (IntKind.i64.wrap (a1 + 1)))), (6, (vI y2.1)), (7, (vI y2.2)), (64, (sL e_S_api_Tree a2.Kids)), (65, (vI (a2.Kids.length : Int))), (66, (vI 0))]⟩ : Env)) (O' := (Loc ((O.upd j0_0 none).upd i0 (some ⟨false, 66, 2, 1, [.row (n + 2) z13.length, (vI a0.next)]⟩)) n [none, none, some (oR 63 1 (eI .u64) z13)])) (n' := (n + 3)) ?_ ?_
  · refine Fit2.trans (E' := (⟨85, [], [(0, .ref i0 0), (1, (vI (IntKind.i64.wrap (a1 + 1)))), (6, (vI y2.1)), (7, (vI y2.2)), (64, (sL e_S_api_Tree a2.Kids)), (65, (vI (a2.Kids.length : Int))), (66, (vI 0))]⟩ : Env)) (O' := (Loc ((O.upd j0_0 none).upd i0 (some ⟨false, 66, 2, 1, [.row n z13.length, (vI a0.next)]⟩)) n [some (oR 63 1 (eI .u64) z13), none])) (n' := (n + 2)) (Fit2.of (fit_loco hU rfl rfl ?_) (by omega)) ?_
    · exact zXe2 hi0 hk0
    refine ren_fito (k := 2) (k' := 3) hU [2, 1] [0, 0, 0] rfl rfl rfl rfl ⟨rfl, rfl⟩ ?_
    exact zXe2 hi0 hk0
  obtain ⟨z18, hz18, h⟩ := bC h
  refine W_blockX (E' := ⟨85, [], []⟩) (O' := (Loc ((O.upd j0_0 none).upd i0 (some ⟨false, 66, 2, 1, [.row (n + 2) z18.1.length, (vI z18.2)]⟩)) n [none, none, some (oR 63 1 (eI .u64) z18.1)])) (n0 := (n + 3)) ?_ ?_
  · refine W_loopJ hz18 (fun s1_ => ⟨85, [], [(0, .ref i0 0), (1, (vI (IntKind.i64.wrap (a1 + 1)))), (6, (vI y2.1)), (7, (vI y2.2)), (64, (sL e_S_api_Tree a2.Kids)), (65, (vI (a2.Kids.length : Int))), (66, (vI s1_.1))]⟩) (fun s1_ => (Loc ((O.upd j0_0 none).upd i0 (some ⟨false, 66, 2, 1, [.row (n + 2) s1_.2.1.length, (vI s1_.2.2)]⟩)) n [none, none, some (oR 63 1 (eI .u64) s1_.2.1)])) (fun z18 => JX 2 n (⟨85, [], []⟩ : Env) (Loc ((O.upd j0_0 none).upd i0 (some ⟨false, 66, 2, 1, [.row (n + 2) z18.1.length, (vI z18.2)]⟩)) n [none, none, some (oR 63 1 (eI .u64) z18.1)]) (n + 3)) ?_
    intro s1_ x1_ hs1_
    unfold b_canon_layer_structs_L1 at hs1_
    try dsimp only
    refine zQx2 [0, 1, 6, 7, 64, 65, 66, 67] hi0 hk0 ?_
    refine W_seqK ?_
    refine W_cond (t := (decide (s1_.1 < (a2.Kids.length : Int)))) rfl (fun c17 => ?_) (fun c17 => ?_)
    · replace hs1_ := condT c17 hs1_
      refine zKd [0, 1, 6, 7, 64, 65, 66] [false, false, true] ?_
      refine W_seqK ?_
      refine W_block ?_
      refine W_seqK ?_
      obtain ⟨x15, hx15, ax15, bx15, cx15, hs1_⟩ := bE (f := e_S_api_Tree) tab29 (fun _ => rfl) (by decide) hs1_
      refine zRof5 [] ax15 bx15 cx15 hi0 hk0 ?_
      refine zD [0, 1, 6, 7, 10, 11, 64, 65, 66] [false, false, true, true] ?_
      obtain ⟨y16, hy16, hs1_⟩ := bC hs1_
      refine zRox2 [] hi0 hk0 ?_
      refine (ok_r_canon_layer_pointAll (i0 := i0) (j0_0 := (n + 2)) (by omega) (by omega) (by omega) (by simp only [push_cast, seval, ↓reduceIte, cast_lit, fl_nil, hi0, hk0, hN0, hN] <;> rfl) (by simp only [push_cast, seval, ↓reduceIte, cast_lit, fl_nil, hi0, hk0, hN0, hN] <;> rfl) hy16).then ?_
      refine zX2 hi0 hk0 ?_
      refine zD [0, 1, 6, 7, 64, 65, 66] [false, false, false, false, true] ?_
      refine zRox2 [] hi0 hk0 ?_
      have hs1_ := Option.some.inj hs1_; subst hs1_
      refine And.intro rfl ?_
      refine Fit2.trans (E' := (⟨85, [], [(0, .ref i0 0), (1, (vI (IntKind.i64.wrap (a1 + 1)))), (6, (vI y2.1)), (7, (vI y2.2)), (64, (sL e_S_api_Tree a2.Kids)), (65, (vI (a2.Kids.length : Int))), (66, (vI (IntKind.i64.wrap (s1_.1 + 1))))]⟩ : Env)) (O' := (Loc ((O.upd j0_0 none).upd i0 (some ⟨false, 66, 2, 1, [.row (n + 4) y16.words.length, (vI y16.next)]⟩)) n [none, none, none, none, some (oR 63 1 (eI .u64) y16.words)])) (n' := (n + 5)) (Fit2.of (fit_loco hU rfl rfl ?_) (by omega)) ?_
      · exact zXe2 hi0 hk0
      refine ren_fito (k := 5) (k' := 3) hU [1, 1, 1, 1, 2] [0, 0, 4] rfl rfl rfl rfl ⟨rfl, rfl⟩ ?_
      exact zXe2 hi0 hk0
    · replace hs1_ := condF c17 hs1_
      refine zXt ?_
      have hs1_ := Option.some.inj hs1_; subst hs1_
      refine And.intro (fun h => by cases h) (And.intro rfl (Fit2.of (fit_loco hU rfl rfl ?_) (by omega)))
      exact zXe2 hi0 hk0
  try simp only [gthen, gblock, ↓reduceIte, Nat.reduceEqDiff]
  have h := Option.some.inj h; subst h
  refine fin_locV (k := 1) (i := i0) (q1 := ⟨false, 66, 2, 1, [.row n z18.1.length, (vI z18.2)]⟩) (L3 := [some (oR 63 1 (eI .u64) z18.1), none]) (E2 := (⟨85, [], []⟩ : Env)) (n3 := (n + 2)) (.inl rfl) hU rfl [] ?_ ?_
  · refine Fit2.trans (E' := (⟨85, [], []⟩ : Env)) (O' := (Loc ((O.upd j0_0 none).upd i0 (some ⟨false, 66, 2, 1, [.row (n + 2) z18.1.length, (vI z18.2)]⟩)) n [none, none, some (oR 63 1 (eI .u64) z18.1)])) (n' := (n + 3)) (Fit2.of (fit_loco hU rfl rfl ?_) (by omega)) ?_
    · exact zXe2 hi0 hk0
    refine ren_fito (k := 3) (k' := 2) hU [1, 1, 0] [2, 0] rfl rfl rfl rfl ⟨rfl, rfl⟩ ?_
    exact zXe2 hi0 hk0
  simp only [push_cast, seval, ↓reduceIte, cast_lit, Try.results104, hi0, hk0, hN0, hN]

theorem lv_canon_layer_point_ok : ∀ k, (oT_r_canon_layer_point ((lv_canon_layer_point k).1)) ∧ (oT_r_canon_layer_content ((lv_canon_layer_point k).2.1)) ∧ (oT_r_canon_layer_pointAll ((lv_canon_layer_point k).2.2.1)) ∧ (oT_r_canon_layer_structs ((lv_canon_layer_point k).2.2.2)) := fun k => by
  induction k with
  | zero => exact ⟨@fun a0 a1 a2 r O n i0 j0_0 hi0 hj0_0 hne0_0 ho0 hoj0_0 h => (nomatch (show (none : Option _) = some _ from h)), @fun a0 a1 a2 r O n i0 j0_0 hi0 hj0_0 hne0_0 ho0 hoj0_0 h => (nomatch (show (none : Option _) = some _ from h)), @fun a0 a1 a2 r O n i0 j0_0 hi0 hj0_0 hne0_0 ho0 hoj0_0 h => (nomatch (show (none : Option _) = some _ from h)), @fun a0 a1 a2 r O n i0 j0_0 hi0 hj0_0 hne0_0 ho0 hoj0_0 h => (nomatch (show (none : Option _) = some _ from h))⟩
  | succ k ih => exact ⟨@fun a0 a1 a2 r O n i0 j0_0 hi0 hj0_0 hne0_0 ho0 hoj0_0 h => okb_canon_layer_point (ih.1) (ih.2.1) (ih.2.2.1) (ih.2.2.2) hi0 hj0_0 hne0_0 ho0 hoj0_0 h, @fun a0 a1 a2 r O n i0 j0_0 hi0 hj0_0 hne0_0 ho0 hoj0_0 h => okb_canon_layer_content (ih.1) (ih.2.1) (ih.2.2.1) (ih.2.2.2) hi0 hj0_0 hne0_0 ho0 hoj0_0 h, @fun a0 a1 a2 r O n i0 j0_0 hi0 hj0_0 hne0_0 ho0 hoj0_0 h => okb_canon_layer_pointAll (ih.1) (ih.2.1) (ih.2.2.1) (ih.2.2.2) hi0 hj0_0 hne0_0 ho0 hoj0_0 h, @fun a0 a1 a2 r O n i0 j0_0 hi0 hj0_0 hne0_0 ho0 hoj0_0 h => okb_canon_layer_structs (ih.1) (ih.2.1) (ih.2.2.1) (ih.2.2.2) hi0 hj0_0 hne0_0 ho0 hoj0_0 h⟩

theorem ok_canon_layer_point {a0 : S_canon_layer} {a1 : Int} {a2 : S_api_Tree} {r : S_canon_layer} {O : Objs} {n : Nat} {i0 j0_0 : Nat} (hi0 : i0 < n) (hj0_0 : j0_0 < n) (hne0_0 : i0 ≠ j0_0) (ho0 : O i0 = some ⟨false, 66, 2, 1, [.row j0_0 a0.words.length, (vI a0.next)]⟩) (hoj0_0 : O j0_0 = some (oR 63 1 (eI .u64) a0.words)) (h : m_canon_layer_point a0 a1 a2 = some r) : GTo Try.prog 38 [.ref i0 0, (vI a1), .agg (c_S_api_Tree a2)] O n (.tup []) (Loc ((O.upd j0_0 none).upd i0 (some ⟨false, 66, 2, 1, [.row n r.words.length, (vI r.next)]⟩)) n [some (oR 63 1 (eI .u64) r.words)]) (n + 1) := by
  obtain ⟨k, hk⟩ := lim_some h
  exact (lv_canon_layer_point_ok k).1 hi0 hj0_0 hne0_0 ho0 hoj0_0 hk

theorem ok_canon_layer_content {a0 : S_canon_layer} {a1 : Int} {a2 : S_api_Tree} {r : S_canon_layer} {O : Objs} {n : Nat} {i0 j0_0 : Nat} (hi0 : i0 < n) (hj0_0 : j0_0 < n) (hne0_0 : i0 ≠ j0_0) (ho0 : O i0 = some ⟨false, 66, 2, 1, [.row j0_0 a0.words.length, (vI a0.next)]⟩) (hoj0_0 : O j0_0 = some (oR 63 1 (eI .u64) a0.words)) (h : m_canon_layer_content a0 a1 a2 = some r) : GTo Try.prog 65 [.ref i0 0, (vI a1), .agg (c_S_api_Tree a2)] O n (.tup []) (Loc ((O.upd j0_0 none).upd i0 (some ⟨false, 66, 2, 1, [.row n r.words.length, (vI r.next)]⟩)) n [some (oR 63 1 (eI .u64) r.words)]) (n + 1) := by
  obtain ⟨k, hk⟩ := lim_some h
  exact (lv_canon_layer_point_ok k).2.1 hi0 hj0_0 hne0_0 ho0 hoj0_0 hk

theorem ok_canon_layer_pointAll {a0 : S_canon_layer} {a1 : Int} {a2 : (List S_api_Tree)} {r : S_canon_layer} {O : Objs} {n : Nat} {i0 j0_0 : Nat} (hi0 : i0 < n) (hj0_0 : j0_0 < n) (hne0_0 : i0 ≠ j0_0) (ho0 : O i0 = some ⟨false, 66, 2, 1, [.row j0_0 a0.words.length, (vI a0.next)]⟩) (hoj0_0 : O j0_0 = some (oR 63 1 (eI .u64) a0.words)) (h : m_canon_layer_pointAll a0 a1 a2 = some r) : GTo Try.prog 103 [.ref i0 0, (vI a1), (sL e_S_api_Tree a2)] O n (.tup []) (Loc ((O.upd j0_0 none).upd i0 (some ⟨false, 66, 2, 1, [.row n r.words.length, (vI r.next)]⟩)) n [some (oR 63 1 (eI .u64) r.words)]) (n + 1) := by
  obtain ⟨k, hk⟩ := lim_some h
  exact (lv_canon_layer_point_ok k).2.2.1 hi0 hj0_0 hne0_0 ho0 hoj0_0 hk

theorem ok_canon_layer_structs {a0 : S_canon_layer} {a1 : Int} {a2 : S_api_Tree} {r : S_canon_layer} {O : Objs} {n : Nat} {i0 j0_0 : Nat} (hi0 : i0 < n) (hj0_0 : j0_0 < n) (hne0_0 : i0 ≠ j0_0) (ho0 : O i0 = some ⟨false, 66, 2, 1, [.row j0_0 a0.words.length, (vI a0.next)]⟩) (hoj0_0 : O j0_0 = some (oR 63 1 (eI .u64) a0.words)) (h : m_canon_layer_structs a0 a1 a2 = some r) : GTo Try.prog 104 [.ref i0 0, (vI a1), .agg (c_S_api_Tree a2)] O n (.tup []) (Loc ((O.upd j0_0 none).upd i0 (some ⟨false, 66, 2, 1, [.row n r.words.length, (vI r.next)]⟩)) n [some (oR 63 1 (eI .u64) r.words)]) (n + 1) := by
  obtain ⟨k, hk⟩ := lim_some h
  exact (lv_canon_layer_point_ok k).2.2.2 hi0 hj0_0 hne0_0 ho0 hoj0_0 hk

theorem ok_canon_Encode {a0 : S_api_Tree} {a1 : Int} {r : ((List Int) × Bool)} {O : Objs} {n : Nat} (h : m_canon_Encode a0 a1 = some r) : GTo Try.prog 15 [.agg (c_S_api_Tree a0), (vI a1)] O n (.tup [(sL (eI .u64) r.1), (vB r.2)]) O n := by
  unfold m_canon_Encode at h
  refine zFn Try.call15 Try.func15 fun hU hN0 hN => ?_
  show W _ _ _ _ ⟨35, [], [(0, .agg (c_S_api_Tree a0)), (1, (vI a1))]⟩ (Loc O n []) _
  refine zQ [1, 2] ?_
  refine W_seqK ?_
  obtain ⟨z2, hz2, h⟩ := bC h
  refine W_seqN (E' := ⟨35, [], [(1, (vI a1)), (2, .ref n 0), (15, (vB z2))]⟩) (O' := (Loc O n [some ⟨false, 29, 3, 1, (c_S_api_Tree a0)⟩])) (n0 := (n + 1)) ?_ ?_
  · rcases Bool.eq_false_or_eq_true (a0.Kind == 10) with c5 | c5
    · replace hz2 := condT c5 hz2
      refine zRox1 [some false, some false, some false] c5 ?_
      exact zEnx1 hz2 c5
    · replace hz2 := condF c5 hz2
      obtain ⟨y4, hy4, hz2⟩ := bC hz2
      refine zRox1 [some true, some true, some true] c5 ?_
      refine (ok_tree_Right hy4).then ?_
      refine zX1 c5 ?_
      exact zEnx1 hz2 c5
  refine W_cond (t := z2) rfl (fun c15 => ?_) (fun c15 => ?_)
  · replace h := condT c15 h
    refine zQ [4, 5] ?_
    exact zRet [nV, (vB false)]
  · replace h := condF c15 h
    refine zKd [1, 2] [true] ?_
    refine W_seqK ?_
    obtain ⟨y7, hy7, h⟩ := bC h
    refine zCd (ok_tree_Norm hy7) [1, 2] [true] ?_
    refine W_seqK ?_
    obtain ⟨y9, hy9, h⟩ := bC h
    refine zCd (ok_tree_Size hy9) [1, 2, 6] [true] ?_
    refine W_seqK ?_
    refine zQD [2, 6, 27] [none, none] ?_
    refine W_cond (t := (cond (decide (a1 < (IntKind.i64.wrap (1 + y9)))) true (decide (131072 < (IntKind.i64.wrap (1 + y9)))))) rfl (fun c14 => ?_) (fun c14 => ?_)
    · replace h := condT c14 h
      refine zQ [4, 5] ?_
      exact zRet [nV, (vB false)]
    · replace h := condF c14 h
      refine zKd [2, 6] [true] ?_
      refine W_seqK ?_
      obtain ⟨l11, al11, bl11, cl11, el11, h⟩ := bM2 (c := 8) rfl h
      have nl11 : Int.toNat (IntKind.i64.wrap (1 + y9)) = List.length l11 := by rw [el11, List.length_replicate]
      have fl11 : (List.replicate (List.length l11) [.val (.int .u64 0)]).flatten = fl (eI .u64) l11 := by rw [← nl11, el11]; exact (fl_replicate (f := (eI .u64)) _ _).symm
      clear el11
      refine W_regionD tab_ok [] ?_
      simp only [push_cast, seval, ↓reduceIte, cast_lit, al11, bl11, cl11, fl11, nl11, hN0, hN]
      refine W_fit ⟨35, [], [(2, .ref n 0), (7, .ref (n + 2) 0)]⟩ (Loc O n [some ⟨false, 29, 3, 1, (c_S_api_Tree y7)⟩, some (oR 63 1 (eI .u64) l11), some ⟨false, 66, 2, 1, [.row (n + 1) l11.length, (vI 1)]⟩]) (fit_loc hU rfl rfl ?_) ?_
      · simp only [push_cast, seval, ↓reduceIte, cast_lit, al11, bl11, cl11, fl11, nl11, hN0, hN]
      refine W_seqK ?_
      obtain ⟨y13, hy13, h⟩ := bC h
      refine zR ?_
      refine (ok_canon_layer_point (i0 := (n + 2)) (j0_0 := (n + 1)) (by omega) (by omega) (by omega) (by simp only [push_cast, seval, ↓reduceIte, cast_lit, fl_nil, hN0, hN] <;> rfl) (by simp only [push_cast, seval, ↓reduceIte, cast_lit, fl_nil, hN0, hN] <;> rfl) hy13).then ?_
      refine zS ?_
      refine zD [7] [false, false, true, true] ?_
      refine zQ [4, 5] ?_
      exact zRet [.row (n + 3) y13.words.length, (vB true)]

theorem ok_centoref01_Same {a0 : (List Int)} {a1 : (List Int)} {r : Bool} {O : Objs} {n : Nat} (h : m_centoref01_Same a0 a1 = some r) : GTo Try.prog 17 [(sL (eI .u64) a0), (sL (eI .u64) a1)] O n ((vB r)) O n := by
  unfold m_centoref01_Same at h
  refine zFn Try.call17 Try.func17 fun hU hN0 hN => ?_
  show W _ _ _ _ ⟨26, [], [(0, (sL (eI .u64) a0)), (1, (sL (eI .u64) a1))]⟩ (Loc O n []) _
  refine zQ [0, 1] ?_
  refine W_seqK ?_
  refine zQ [0, 1, 10] ?_
  refine W_cond (t := ((a0.length : Int) != (a1.length : Int))) rfl (fun c8 => ?_) (fun c8 => ?_)
  · replace h := condT c8 h
    refine zQ [4] ?_
    exact zRet [(vB false)]
  · replace h := condF c8 h
    refine zKd [0, 1] [] ?_
    refine W_seqK ?_
    refine zQd [0, 1, 5] [0, 1, 5] [] ?_
    obtain ⟨z7, hz7, h⟩ := bC h
    refine W_sumB (J := (SumJ (fun z7 => JR n (⟨26, [], [(4, (vB false))]⟩ : Env) (Loc O n []) n) (fun z7 => JX 0 n (⟨26, [], []⟩ : Env) (Loc O n []) n))) (z := z7) ?_ fun hw => ?_
    · refine W_loopJ hz7 (fun s0_ => ⟨26, [], [(0, (sL (eI .u64) a0)), (1, (sL (eI .u64) a1)), (5, (vI s0_))]⟩) (fun s0_ => (Loc O n [])) (SumJ (fun z7 => JR n (⟨26, [], [(4, (vB false))]⟩ : Env) (Loc O n []) n) (fun z7 => JX 0 n (⟨26, [], []⟩ : Env) (Loc O n []) n)) ?_
      intro s0_ x0_ hs0_
      unfold m_centoref01_Same_L0 at hs0_
      try dsimp only
      refine W_seqK ?_
      refine zQ [0, 1, 5, 14] ?_
      refine W_cond (t := (decide (s0_ < (a0.length : Int)))) rfl (fun c6 => ?_) (fun c6 => ?_)
      · replace hs0_ := condT c6 hs0_
        refine zKd [0, 1, 5] [] ?_
        refine W_seqK ?_
        refine W_block ?_
        obtain ⟨x3, hx3, ax3, bx3, cx3, hs0_⟩ := bE (f := (eI .u64)) tab63 (fun _ => rfl) (by decide) hs0_
        obtain ⟨x4, hx4, ax4, bx4, cx4, hs0_⟩ := bE (f := (eI .u64)) tab63 (fun _ => rfl) (by decide) hs0_
        refine W_sq [0, 1, 5, 25] (W_drawD tab_ok (by kernel_rfl) [] (by kernel_rfl) ?_)
        refine zF6 ax3 bx3 cx3 ax4 bx4 cx4 ?_
        refine W_cond (t := (x3 != x4)) rfl (fun c5 => ?_) (fun c5 => ?_)
        · replace hs0_ := condT c5 hs0_
          refine zQ [4] ?_
          refine zW ?_
          exact zEy hs0_
        · replace hs0_ := condF c5 hs0_
          refine zKd [0, 1, 5] [] ?_
          refine zR ?_
          exact zEn hs0_
      · replace hs0_ := condF c6 hs0_
        exact zEx hs0_
    rcases z7 with z7 | z7
    · dsimp only [SumJ] at hw h
      refine W_blockR hw ?_
      try simp only [gthen, gblock, ↓reduceIte, Nat.reduceEqDiff]
      exact zFin [(vB false)]
    · dsimp only [SumJ] at hw h
      refine W_blockX hw ?_
      try simp only [gthen, gblock, ↓reduceIte, Nat.reduceEqDiff]
      refine zD [] [] ?_
      refine zQ [4] ?_
      exact zRet [(vB true)]

theorem ok_centolaw12_awake  {r : Bool} {O : Objs} {n : Nat} (h : m_centolaw12_awake = some r) : GTo Try.prog 14 [] O n ((vB r)) O n := by
  unfold m_centolaw12_awake at h
  refine zFn Try.call14 Try.func14 fun hU hN0 hN => ?_
  show W _ _ _ _ ⟨19, [], []⟩ (Loc O n []) _
  refine zQ [] ?_
  refine W_seqK ?_
  obtain ⟨y2, hy2, h⟩ := bC h
  refine zR ?_
  refine GCalls.dropL (l' := [none, none, none]) hU rfl ?_ ((ok_canon_Encode hy2).then ?_)
  · exact zSe
  refine zS ?_
  refine zD [1, 2] [false, false, false] ?_
  obtain ⟨z4, hz4, h⟩ := bC h
  refine W_seqN (E' := ⟨19, [], [(0, (vB z4))]⟩) (O' := (Loc O n [none, none, none, none])) (n0 := (n + 4)) ?_ ?_
  · rcases Bool.eq_false_or_eq_true y2.2 with c7 | c7
    · replace hz4 := condT c7 hz4
      obtain ⟨y6, hy6, hz4⟩ := bC hz4
      refine zRox1 [some true, some true, some true] c7 ?_
      refine GCalls.lend (ok_centoref01_Same hy6) rfl ?_ ?_
      · exact zXe1 c7
      refine zX1 c7 ?_
      exact zEnx1 hz4 c7
    · replace hz4 := condF c7 hz4
      refine zRox1 [some false, some false, some false] c7 ?_
      exact zEnx1 hz4 c7
  exact zRet [(vB z4)]

theorem ok_centoref01_Width {a0 : Int} {r : Int} {O : Objs} {n : Nat} (h : m_centoref01_Width a0 = some r) : GTo Try.prog 70 [(vI a0)] O n ((vI r)) O n := by
  unfold m_centoref01_Width at h
  refine zFn Try.call70 Try.func70 fun hU hN0 hN => ?_
  show W _ _ _ _ ⟨16, [], [(0, (vI a0))]⟩ (Loc O n []) _
  refine zQ [0] ?_
  refine W_seqK ?_
  refine zQ [3] ?_
  refine W_block ?_
  refine zQ [3, 4] ?_
  refine W_cond (t := (a0 == 0)) rfl (fun c6 => ?_) (fun c6 => ?_)
  · replace h := condT c6 h
    refine zQ [2] ?_
    exact zRet [(vI 0)]
  · replace h := condF c6 h
    refine zQ [3, 6] ?_
    refine W_cond (t := (a0 == 1)) rfl (fun c5 => ?_) (fun c5 => ?_)
    · replace h := condT c5 h
      refine zQ [2] ?_
      exact zRet [(vI 1)]
    · replace h := condF c5 h
      refine zQ [3, 8] ?_
      refine W_cond (t := (a0 == 2)) rfl (fun c4 => ?_) (fun c4 => ?_)
      · replace h := condT c4 h
        refine zQ [2] ?_
        exact zRet [(vI 8)]
      · replace h := condF c4 h
        refine zQ [3, 10] ?_
        refine W_cond (t := (a0 == 3)) rfl (fun c3 => ?_) (fun c3 => ?_)
        · replace h := condT c3 h
          refine zQ [2] ?_
          exact zRet [(vI 16)]
        · replace h := condF c3 h
          refine zQ [3, 12] ?_
          refine W_cond (t := (a0 == 4)) rfl (fun c2 => ?_) (fun c2 => ?_)
          · replace h := condT c2 h
            refine zQ [2] ?_
            exact zRet [(vI 32)]
          · replace h := condF c2 h
            refine zQ [14] ?_
            refine W_cond (t := (a0 == 5)) rfl (fun c1 => ?_) (fun c1 => ?_)
            · replace h := condT c1 h
              refine zQ [2] ?_
              exact zRet [(vI 64)]
            · replace h := condF c1 h
              refine zKd [] [] ?_
              refine zQ [2] ?_
              exact zRet [(vI (-1))]

theorem ok_centoref01_Fits {a0 : Int} {a1 : Int} {r : Bool} {O : Objs} {n : Nat} (h : m_centoref01_Fits a0 a1 = some r) : GTo Try.prog 40 [(vI a0), .val (.int .u64 a1)] O n ((vB r)) O n := by
  unfold m_centoref01_Fits at h
  refine zFn Try.call40 Try.func40 fun hU hN0 hN => ?_
  show W _ _ _ _ ⟨20, [], [(0, (vI a0)), (1, .val (.int .u64 a1))]⟩ (Loc O n []) _
  refine zQ [0, 1] ?_
  refine W_seqK ?_
  obtain ⟨y2, hy2, h⟩ := bC h
  refine zCd (ok_centoref01_Width hy2) [1, 5] [] ?_
  refine W_seqK ?_
  refine zQ [1, 5, 10] ?_
  refine W_cond (t := (decide (y2 < 0))) rfl (fun c5 => ?_) (fun c5 => ?_)
  · replace h := condT c5 h
    refine zQ [4] ?_
    exact zRet [(vB false)]
  · replace h := condF c5 h
    refine zKd [1, 5] [] ?_
    refine W_seqK ?_
    refine zQd [1, 5, 6] [1, 5, 6] [] ?_
    obtain ⟨z4, hz4, h⟩ := bC h
    refine W_blockX (E' := ⟨20, [], [(1, .val (.int .u64 z4))]⟩) (O' := (Loc O n [])) (n0 := n) ?_ ?_
    · refine W_loopJ hz4 (fun s0_ => ⟨20, [], [(1, .val (.int .u64 s0_.1)), (5, (vI y2)), (6, (vI s0_.2))]⟩) (fun s0_ => (Loc O n [])) (fun z4 => JX 0 n (⟨20, [], [(1, .val (.int .u64 z4))]⟩ : Env) (Loc O n []) n) ?_
      intro s0_ x0_ hs0_
      unfold m_centoref01_Fits_L0 at hs0_
      try dsimp only
      refine W_seqK ?_
      refine zQ [1, 5, 6, 13] ?_
      refine W_cond (t := (decide (s0_.2 < y2))) rfl (fun c3 => ?_) (fun c3 => ?_)
      · replace hs0_ := condT c3 hs0_
        refine zKd [1, 5, 6] [] ?_
        refine W_seqK ?_
        refine W_block ?_
        refine zRd [1, 5, 6] [] ?_
        refine zR ?_
        exact zEn hs0_
      · replace hs0_ := condF c3 hs0_
        exact zEx hs0_
    try simp only [gthen, gblock, ↓reduceIte, Nat.reduceEqDiff]
    refine zD [1] [] ?_
    refine zQ [4] ?_
    exact zRet [(vB (z4 == 0))]

def oT_r_centoref07_Right (r_centoref07_Right : (S_api_Tree → Int → Option Bool)) : Prop := ∀ {a0 : S_api_Tree} {a1 : Int} {r : Bool} {O : Objs} {n : Nat}, r_centoref07_Right a0 a1 = some r → GTo Try.prog 18 [.agg (c_S_api_Tree a0), (vI a1)] O n ((vB r)) O n
theorem okb_centoref07_Right {r_centoref07_Right : (S_api_Tree → Int → Option Bool)} (ok_r_centoref07_Right : oT_r_centoref07_Right r_centoref07_Right) {a0 : S_api_Tree} {a1 : Int} {r : Bool} {O : Objs} {n : Nat} (h : b_centoref07_Right r_centoref07_Right a0 a1 = some r) : GTo Try.prog 18 [.agg (c_S_api_Tree a0), (vI a1)] O n ((vB r)) O n := by
  unfold b_centoref07_Right at h
  refine zFn Try.call18 Try.func18 fun hU hN0 hN => ?_
  show W _ _ _ _ ⟨132, [], [(0, .agg (c_S_api_Tree a0)), (1, (vI a1))]⟩ (Loc O n []) _
  refine zQ [1, 2] ?_
  refine W_seqK ?_
  refine zQ [1, 2, 10] ?_
  refine W_cond (t := (a0.Kind == 0)) rfl (fun c32 => ?_) (fun c32 => ?_)
  · replace h := condT c32 h
    refine zQD [4] [none, none, none, none] ?_
    exact zRet [(vB (cond ((a0.Words.length : Int) == 0) ((a0.Kids.length : Int) == 0) false))]
  · replace h := condF c32 h
    refine zKd [1, 2] [true] ?_
    refine W_seqK ?_
    refine zQ [1, 2, 23] ?_
    refine W_cond (t := (a0.Kind == 10)) rfl (fun c31 => ?_) (fun c31 => ?_)
    · replace h := condT c31 h
      refine zQD [4] [none, none, none, none] ?_
      exact zRet [(vB (cond ((a0.Words.length : Int) == 1) ((a0.Kids.length : Int) == 0) false))]
    · replace h := condF c31 h
      refine zKd [1, 2] [true] ?_
      refine W_seqK ?_
      refine zQD [1, 2, 68] [none, none, none, none, none, none, none, none, none, none, none, none, none, none, none, none, none, none, none, none, none, none] ?_
      refine W_cond (t := (cond (cond (cond (cond (cond (decide (a0.Kind < 0)) true (decide (10 < a0.Kind))) true (a1 == 0)) true (decide (65536 ≤ (a0.Words.length : Int)))) true (cond (a0.Kind == 1) (decide (65536 ≤ (a0.Kids.length : Int))) false)) true (decide (1048576 ≤ (a0.Kids.length : Int))))) rfl (fun c30 => ?_) (fun c30 => ?_)
      · replace h := condT c30 h
        refine zQ [4] ?_
        exact zRet [(vB false)]
      · replace h := condF c30 h
        refine zKd [1, 2] [true] ?_
        refine W_seqK ?_
        refine zQD [1, 2, 77] [none, none, none, none] ?_
        refine W_cond (t := (cond (decide (1 < a0.Kind)) (decide (0 < (a0.Words.length : Int))) false)) rfl (fun c29 => ?_) (fun c29 => ?_)
        · replace h := condT c29 h
          refine zQ [4] ?_
          exact zRet [(vB false)]
        · replace h := condF c29 h
          refine zKd [1, 2] [true] ?_
          refine W_seqK ?_
          refine zQd [1, 2, 5] [1, 2, 5] [true] ?_
          obtain ⟨z28, hz28, h⟩ := bC h
          refine W_sumB (J := (SumJ (fun z28 => JR n (⟨132, [], [(4, (vB false))]⟩ : Env) (Loc O n [none]) (n + 1)) (fun z28 => JX 0 n (⟨132, [], []⟩ : Env) (Loc O n [none]) (n + 1)))) (z := z28) ?_ fun hw => ?_
          · refine W_loopJ hz28 (fun s0_ => ⟨132, [], [(1, (vI a1)), (2, .ref n 0), (5, (vI s0_))]⟩) (fun s0_ => (Loc O n [some ⟨false, 29, 3, 1, (c_S_api_Tree a0)⟩])) (SumJ (fun z28 => JR n (⟨132, [], [(4, (vB false))]⟩ : Env) (Loc O n [none]) (n + 1)) (fun z28 => JX 0 n (⟨132, [], []⟩ : Env) (Loc O n [none]) (n + 1))) ?_
            intro s0_ x0_ hs0_
            unfold b_centoref07_Right_L0 at hs0_
            try dsimp only
            refine W_seqK ?_
            refine zQ [1, 2, 5, 82] ?_
            refine W_cond (t := (decide (s0_ < (a0.Kids.length : Int)))) rfl (fun c27 => ?_) (fun c27 => ?_)
            · replace hs0_ := condT c27 hs0_
              refine zKd [1, 2, 5] [true] ?_
              refine W_seqK ?_
              refine W_block ?_
              refine W_seqK ?_
              obtain ⟨x2, hx2, ax2, bx2, cx2, hs0_⟩ := bE (f := e_S_api_Tree) tab29 (fun _ => rfl) (by decide) hs0_
              refine zRof3 [] ax2 bx2 cx2 ?_
              refine zDs [1, 2, 5, 6] [true, true] ?_
              refine W_seqK ?_
              obtain ⟨y4, hy4, hs0_⟩ := bC hs0_
              refine zCd (ok_r_centoref07_Right hy4) [1, 2, 5, 6, 94] [true, true] ?_
              refine W_cond (t := (!y4)) rfl (fun c26 => ?_) (fun c26 => ?_)
              · replace hs0_ := condT c26 hs0_
                refine zQ [4] ?_
                refine zW ?_
                exact zEy hs0_
              · replace hs0_ := condF c26 hs0_
                refine zKd [1, 2, 5, 6] [true, true] ?_
                refine zQD [1, 2, 5, 6, 7] [none, none, none] ?_
                obtain ⟨z9, hz9, hs0_⟩ := bC hs0_
                refine W_seqN (E' := ⟨132, [], [(1, (vI a1)), (2, .ref n 0), (5, (vI s0_)), (131, (vB z9))]⟩) (O' := (Loc O n [some ⟨false, 29, 3, 1, (c_S_api_Tree a0)⟩, none])) (n0 := (n + 2)) ?_ ?_
                · rcases Bool.eq_false_or_eq_true ((cond (decide (2 ≤ a0.Kind)) (decide (a0.Kind ≤ 7)) false) != (x2.Kind == 10)) with c18 | c18
                  · replace hz9 := condT c18 hz9
                    refine W_drawD tab_ok (by kernel_rfl) [none, none, none, none, none, none, none, none, some false, some false, some false, some false, some false, some false, some false, some false, some false, some false, some false, some false] (by kernel_rfl) ?_
                    refine zX1 c18 ?_
                    refine zG ?_
                    exact zEnx1 hz9 c18
                  · replace hz9 := condF c18 hz9
                    rcases Bool.eq_false_or_eq_true (a0.Kind == 9) with c19 | c19
                    · replace hz9 := condT c19 hz9
                      try rw [c19] at c18
                      try simp only [Bool.cond_true, Bool.cond_false, Bool.true_bne, Bool.false_bne, Bool.true_beq, Bool.false_beq, Bool.not_eq_true', Bool.not_eq_false'] at c18
                      rcases Bool.eq_false_or_eq_true (x2.Kind != 1) with c20 | c20
                      · replace hz9 := condT c20 hz9
                        try rw [c20] at c18
                        try rw [c20] at c19
                        try simp only [Bool.cond_true, Bool.cond_false, Bool.true_bne, Bool.false_bne, Bool.true_beq, Bool.false_beq, Bool.not_eq_true', Bool.not_eq_false'] at c18
                        refine W_drawD tab_ok (by kernel_rfl) [none, none, none, none, none, none, none, none, some false, some false, some false, some false, some false, some false, some false, some false, some false, some false, some false, some false] (by kernel_rfl) ?_
                        refine zX3 c18 c19 c20 ?_
                        refine zG ?_
                        exact zEnx3 hz9 c18 c19 c20
                      · replace hz9 := condF c20 hz9
                        try rw [c20] at c18
                        try rw [c20] at c19
                        try simp only [Bool.cond_true, Bool.cond_false, Bool.true_bne, Bool.false_bne, Bool.true_beq, Bool.false_beq, Bool.not_eq_true', Bool.not_eq_false'] at c18
                        rcases Bool.eq_false_or_eq_true (decide (2 ≤ a0.Kind)) with c21 | c21
                        · replace hz9 := condT c21 hz9
                          try rw [c21] at c18
                          try rw [c21] at c19
                          try rw [c21] at c20
                          try simp only [Bool.cond_true, Bool.cond_false, Bool.true_bne, Bool.false_bne, Bool.true_beq, Bool.false_beq, Bool.not_eq_true', Bool.not_eq_false'] at c18
                          rcases Bool.eq_false_or_eq_true (decide (a0.Kind ≤ 7)) with c22 | c22
                          · replace hz9 := condT c22 hz9
                            try rw [c22] at c18
                            try rw [c22] at c19
                            try rw [c22] at c20
                            try rw [c22] at c21
                            try simp only [Bool.cond_true, Bool.cond_false, Bool.true_bne, Bool.false_bne, Bool.true_beq, Bool.false_beq, Bool.not_eq_true', Bool.not_eq_false'] at c18
                            obtain ⟨x14, hx14, ax14, bx14, cx14, hz9⟩ := bE (f := (eI .u64)) tab63 (fun _ => rfl) (by decide) hz9
                            obtain ⟨y15, hy15, hz9⟩ := bC hz9
                            refine W_drawD tab_ok (by kernel_rfl) [none, none, none, none, none, none, none, none, some true, some true, some true, some true, some true, some true, some true, some true, some true, some true, some true, some true] (by kernel_rfl) ?_
                            refine zF8 c18 c19 c20 c21 c22 ax14 bx14 cx14 ?_
                            refine zG ?_
                            refine PCall.of (ok_centoref01_Fits hy15) ?_
                            refine zF8 c18 c19 c20 c21 c22 ax14 bx14 cx14 ?_
                            refine zG ?_
                            exact zEnf8 hz9 c18 c19 c20 c21 c22 ax14 bx14 cx14
                          · replace hz9 := condF c22 hz9
                            try rw [c22] at c18
                            try rw [c22] at c19
                            try rw [c22] at c20
                            try rw [c22] at c21
                            try simp only [Bool.cond_true, Bool.cond_false, Bool.true_bne, Bool.false_bne, Bool.true_beq, Bool.false_beq, Bool.not_eq_true', Bool.not_eq_false'] at c18
                            refine W_drawD tab_ok (by kernel_rfl) [none, none, none, none, none, none, none, none, some true, some true, some false, some false, some false, some false, some false, some false, some false, some false, some false, some true] (by kernel_rfl) ?_
                            refine zX5 c18 c19 c20 c21 c22 ?_
                            refine zG ?_
                            exact zEnx5 hz9 c18 c19 c20 c21 c22
                        · replace hz9 := condF c21 hz9
                          try rw [c21] at c18
                          try rw [c21] at c19
                          try rw [c21] at c20
                          try simp only [Bool.cond_true, Bool.cond_false, Bool.true_bne, Bool.false_bne, Bool.true_beq, Bool.false_beq, Bool.not_eq_true', Bool.not_eq_false'] at c18
                          refine W_drawD tab_ok (by kernel_rfl) [none, none, none, none, none, none, none, none, some true, some true, some false, some false, some false, some false, some false, some false, some false, some false, some false, some true] (by kernel_rfl) ?_
                          refine zX4 c18 c19 c20 c21 ?_
                          refine zG ?_
                          exact zEnx4 hz9 c18 c19 c20 c21
                    · replace hz9 := condF c19 hz9
                      try rw [c19] at c18
                      try simp only [Bool.cond_true, Bool.cond_false, Bool.true_bne, Bool.false_bne, Bool.true_beq, Bool.false_beq, Bool.not_eq_true', Bool.not_eq_false'] at c18
                      rcases Bool.eq_false_or_eq_true (decide (2 ≤ a0.Kind)) with c23 | c23
                      · replace hz9 := condT c23 hz9
                        try rw [c23] at c18
                        try rw [c23] at c19
                        try simp only [Bool.cond_true, Bool.cond_false, Bool.true_bne, Bool.false_bne, Bool.true_beq, Bool.false_beq, Bool.not_eq_true', Bool.not_eq_false'] at c18
                        rcases Bool.eq_false_or_eq_true (decide (a0.Kind ≤ 7)) with c24 | c24
                        · replace hz9 := condT c24 hz9
                          try rw [c24] at c18
                          try rw [c24] at c19
                          try rw [c24] at c23
                          try simp only [Bool.cond_true, Bool.cond_false, Bool.true_bne, Bool.false_bne, Bool.true_beq, Bool.false_beq, Bool.not_eq_true', Bool.not_eq_false'] at c18
                          obtain ⟨x16, hx16, ax16, bx16, cx16, hz9⟩ := bE (f := (eI .u64)) tab63 (fun _ => rfl) (by decide) hz9
                          obtain ⟨y17, hy17, hz9⟩ := bC hz9
                          refine W_drawD tab_ok (by kernel_rfl) [none, none, none, none, none, none, none, none, some true, some true, some true, some true, some true, some true, some true, some true, some true, some true, some true, some true] (by kernel_rfl) ?_
                          refine zF7 c18 c19 c23 c24 ax16 bx16 cx16 ?_
                          refine zG ?_
                          refine PCall.of (ok_centoref01_Fits hy17) ?_
                          refine zF7 c18 c19 c23 c24 ax16 bx16 cx16 ?_
                          refine zG ?_
                          exact zEnf7 hz9 c18 c19 c23 c24 ax16 bx16 cx16
                        · replace hz9 := condF c24 hz9
                          try rw [c24] at c18
                          try rw [c24] at c19
                          try rw [c24] at c23
                          try simp only [Bool.cond_true, Bool.cond_false, Bool.true_bne, Bool.false_bne, Bool.true_beq, Bool.false_beq, Bool.not_eq_true', Bool.not_eq_false'] at c18
                          refine W_drawD tab_ok (by kernel_rfl) [none, none, none, none, none, none, none, none, some true, some true, some false, some false, some false, some false, some false, some false, some false, some false, some false, some true] (by kernel_rfl) ?_
                          refine zX4 c18 c19 c23 c24 ?_
                          refine zG ?_
                          exact zEnx4 hz9 c18 c19 c23 c24
                      · replace hz9 := condF c23 hz9
                        try rw [c23] at c18
                        try rw [c23] at c19
                        try simp only [Bool.cond_true, Bool.cond_false, Bool.true_bne, Bool.false_bne, Bool.true_beq, Bool.false_beq, Bool.not_eq_true', Bool.not_eq_false'] at c18
                        refine W_drawD tab_ok (by kernel_rfl) [none, none, none, none, none, none, none, none, some true, some true, some false, some false, some false, some false, some false, some false, some false, some false, some false, some true] (by kernel_rfl) ?_
                        refine zX3 c18 c19 c23 ?_
                        refine zG ?_
                        exact zEnx3 hz9 c18 c19 c23
                refine W_cond (t := z9) rfl (fun c25 => ?_) (fun c25 => ?_)
                · replace hs0_ := condT c25 hs0_
                  refine zQ [4] ?_
                  refine zW ?_
                  exact zEy hs0_
                · replace hs0_ := condF c25 hs0_
                  refine zKd [1, 2, 5] [true, false] ?_
                  refine zR ?_
                  exact zEn hs0_
            · replace hs0_ := condF c27 hs0_
              exact zEx hs0_
          rcases z28 with z28 | z28
          · dsimp only [SumJ] at hw h
            refine W_blockR hw ?_
            try simp only [gthen, gblock, ↓reduceIte, Nat.reduceEqDiff]
            exact zFin [(vB false)]
          · dsimp only [SumJ] at hw h
            refine W_blockX hw ?_
            try simp only [gthen, gblock, ↓reduceIte, Nat.reduceEqDiff]
            refine zD [] [false] ?_
            refine zQ [4] ?_
            exact zRet [(vB true)]

theorem lv_centoref07_Right_ok : ∀ k, (oT_r_centoref07_Right (lv_centoref07_Right k)) := fun k => by
  induction k with
  | zero => exact @fun a0 a1 r O n h => (nomatch (show (none : Option _) = some _ from h))
  | succ k ih => exact @fun a0 a1 r O n h => okb_centoref07_Right (ih)  h

theorem ok_centoref07_Right {a0 : S_api_Tree} {a1 : Int} {r : Bool} {O : Objs} {n : Nat} (h : m_centoref07_Right a0 a1 = some r) : GTo Try.prog 18 [.agg (c_S_api_Tree a0), (vI a1)] O n ((vB r)) O n := by
  obtain ⟨k, hk⟩ := lim_some h
  exact (lv_centoref07_Right_ok k)  hk

theorem ok_centoref07_Trim {a0 : (List Int)} {r : (List Int)} {O : Objs} {n : Nat} (h : m_centoref07_Trim a0 = some r) : GTo Try.prog 41 [(sL (eI .u64) a0)] O n ((sL (eI .u64) r)) O n := by
  unfold m_centoref07_Trim at h
  refine zFn Try.call41 Try.func41 fun hU hN0 hN => ?_
  show W _ _ _ _ ⟨24, [], [(0, (sL (eI .u64) a0))]⟩ (Loc O n []) _
  refine zQ [0] ?_
  refine zQ [0, 3] ?_
  refine W_seqK ?_
  refine zD [0, 3] [] ?_
  obtain ⟨z7, hz7, h⟩ := bC h
  refine W_blockX (E' := ⟨24, [], [(0, (sL (eI .u64) a0)), (3, (vI z7))]⟩) (O' := (Loc O n [])) (n0 := n) ?_ ?_
  · refine W_loopJ hz7 (fun s0_ => ⟨24, [], [(0, (sL (eI .u64) a0)), (3, (vI s0_))]⟩) (fun s0_ => (Loc O n [])) (fun z7 => JX 0 n (⟨24, [], [(0, (sL (eI .u64) a0)), (3, (vI z7))]⟩ : Env) (Loc O n []) n) ?_
    intro s0_ x0_ hs0_
    unfold m_centoref07_Trim_L0 at hs0_
    try dsimp only
    refine W_seqK ?_
    obtain ⟨z2, hz2, hs0_⟩ := bC hs0_
    refine W_seqN (E' := ⟨24, [], [(0, (sL (eI .u64) a0)), (3, (vI s0_)), (16, (vB z2))]⟩) (O' := (Loc O n [])) (n0 := n) ?_ ?_
    · rcases Bool.eq_false_or_eq_true (decide (0 < s0_)) with c5 | c5
      · replace hz2 := condT c5 hz2
        obtain ⟨x4, hx4, ax4, bx4, cx4, hz2⟩ := bE (f := (eI .u64)) tab63 (fun _ => rfl) (by decide) hz2
        refine zRof4 [some true, some true, some true, some true, some true, some true] c5 ax4 bx4 cx4 ?_
        exact zEnf4 hz2 c5 ax4 bx4 cx4
      · replace hz2 := condF c5 hz2
        refine zRox1 [some false, some false, some false, some false, some false, some false] c5 ?_
        exact zEnx1 hz2 c5
    refine W_cond (t := z2) rfl (fun c6 => ?_) (fun c6 => ?_)
    · replace hs0_ := condT c6 hs0_
      refine zKd [0, 3] [] ?_
      refine W_block ?_
      refine zR ?_
      exact zEn hs0_
    · replace hs0_ := condF c6 hs0_
      exact zEx hs0_
  try simp only [gthen, gblock, ↓reduceIte, Nat.reduceEqDiff]
  refine zD [0, 3] [] ?_
  refine zQ [0, 3, 4] ?_
  refine W_seqK ?_
  obtain ⟨l10, al10, bl10, cl10, gl10, h⟩ := bS (lo := none) (hi := (some (.i64, z7))) (f := (eI .u64)) rfl rfl tkind26 tab63 (fun _ => rfl) h
  obtain ⟨l11, pl11, ql11, el11, h⟩ := bA0 (k := l10.length) rfl h
  refine zRox7 [] al10 bl10 cl10 gl10 pl11 ql11 el11 ?_
  refine W_fit ⟨24, [], [(2, .row n l11.length)]⟩ (Loc O n [some (oR 63 1 (eI .u64) l11)]) (fit_loc hU rfl rfl ?_) ?_
  · simp only [push_cast, seval, ↓reduceIte, cast_lit, al10, bl10, cl10, gl10, pl11, ql11, el11, hN0, hN]
  exact zRet [.row n l11.length]

end Go.Proofs.Ytpfbdlcnfekdkaa
