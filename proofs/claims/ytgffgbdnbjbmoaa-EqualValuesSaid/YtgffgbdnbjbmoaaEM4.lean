/- Part EM4 of this seat's mirrors: functions of the seat's program, and the plain functions that they are; each theorem bears its own conditions. -/
import Derived.Test.YtgffgbdnbjbmoaaEE
import Derived.Test.YtgffgbdnbjbmoaaEM3
namespace Go.Proofs.Ytgffgbdnbjbmoaa
open Go.RowKit
set_option linter.unusedVariables false
set_option linter.unusedSimpArgs false
set_option maxRecDepth 100000
set_option maxHeartbeats 4000000
attribute [local push_cast] Try.results13 Try.results3 Try.results30 Try.results31 Try.results51 vI vB nV sL oR c_S_api_Limits c_S_api_Tree c_S_centoref09_Ref c_S_ptr_Ptr c_S_reader_Ref gfork_t gfork_f pfork_t pfork_f gthen gblock gops_nil gops_plain gops_guard onW gwantB gcalm gact gpick gpickV strip_any strip_val strip_agg strip_tup strip_sl strip_ip strip_row strip_rs strip_rp strip_rl strip_ref strip_fn strip_when evS wok calmOp Op.operands Call.operands gop onK onP atK List.all_cons List.all_nil Bool.and_true Bool.true_and Bool.and_self Value.oneCell' List.take_zero List.take_succ_cons List.take_nil List.drop_zero List.drop_succ_cons List.drop_nil List.append_nil Nat.add_zero Nat.zero_add gstep gputE ev look genv gbin_ii gbin_bb gbin_ss gbin_pp gbin_rp gbin_ip gbin_ll gbin_aa geqS geqF gint gunary gconvert gload gcells gpart_lit gstore cellsOf_agg cellsOf_val cellsOf_sl cellsOf_ip cellsOf_row cellsOf_rs cellsOf_rp cellsOf_rl cellsOf_ref cellsOf_fn cellsOf_any cellsOf_tup cellsOf_when cellsOf_gP gput gplace_lit gfieldAddr gstepIn gindexAddr gindex gfield gopt bLo bHi bMx gextract galloc gbox gbuild gfill gplaces gbuildSlice gmake glen gappend gappendN gsrc gbuiltin gnil live_any live_val live_agg live_tup live_sl live_ip live_fn live_when live_ref live_rs live_rp live_rl live_row live_gP gres gone prun_nil prun_plain prun_guard pop TK.isAgg one_any one_val one_agg one_tup one_when one_sl one_ip one_row one_rs one_rp one_rl one_ref one_fn G.under G.unders List.getD_cons_zero List.getD_cons_succ List.set_cons_zero List.set_cons_succ List.map_cons List.map_nil List.toList_toArray Array.toList_append Option.toArray_none Option.toArray_some Array.toList_map Option.map_some Option.map_none Option.bind_some Option.bind_none List.getElem?_cons_zero List.getElem?_cons_succ List.getElem?_nil List.nil_append List.cons_append List.replicate_succ List.replicate_zero List.length_cons List.length_nil and_true true_and and_false false_and Bool.true_eq_false Bool.false_eq_true forall_const false_implies implies_true IntKind.bits if_true if_false ite_true ite_false eq_self true_implies false_or or_false or_true true_or not_true_eq_false not_false_eq_true decide_true decide_false decide_eq_true_eq decide_eq_false_iff_not beq_iff_eq bne_iff_ne ne_eq Bool.not_eq_true Bool.not_eq_false beq_eq_false_iff_ne bne_eq_false_iff_eq beq_self_eq_true bne_self_eq_false Option.some.injEq exists_eq_left' exists_eq_left ge_iff_le gt_iff_lt decide_not Bool.not_true Bool.not_false imp_self gquiet cond_true cond_false beqT beqF Bool.not_not Bool.and_false Bool.false_and Bool.or_true Bool.true_or Bool.or_false Bool.false_or Loc_at Loc_at0 Loc_upd Loc_upd0 Loc_push Loc_push0 Option.join_some Nat.add_assoc Int.toNat_natCast eI eB eS eL fl_nil gopsD_nil gopsD_plain gopsD_t gopsD_f gopsD_n onKD onWD prunD_nil prunD_plain prunD_t prunD_f prunD_n onPD fitO fitO1 sameO fitL fl_append fl_one List.length_append G.agg.injEq G.row.injEq G.ref.injEq G.val.injEq G.sl.injEq G.tup.injEq Value.int.injEq Value.bool.injEq Value.string.injEq List.cons.injEq exists_and_left exists_const List.flatten_cons List.flatten_nil Int.le_refl Nat.le_refl upd_updU Loc_out Loc_updo Bool.not_eq_true' Bool.not_eq_false' wkl_nil wkl_cons wk_any wk_val wk_agg wk_tup wk_sl wk_fn List.size_toArray renO renO1 G.ren G.rens renL rho_at rho_at0 gP_none gP_some strip_gP wok_gP one_gP G.fn.injEq wk_slnil wk_slrow wk_slrs wk_ip wk_ipref wk_row wk_rs wk_rp wk_rl wk_ref locLt0 locLt Option.join_none upd_same fl_cons undef keepL Arr.len Arr.put_eq prunB_nil prunB_bar prunB_bart prunB_plain prunB_t prunB_f prunB_n onB onBP gcopy setI_len cpyAt_len Loc_cat0 Loc_cat1 Loc_cat2 Loc_cat3 Loc_cat4 Loc_cat5 noObjs_at prunK_nil prunK_bar prunK_pass prunK_plain prunK_low prunK_pt prunK_pf prunK_lt prunK_lf onKg onKa onKp popL pickOps lows lowG prunK_shp prunK_fill popH shpOp fillOp fillG rho_low rens_app Loc_cat6 Loc_cat7 Loc_cat8 Loc_cat9 Loc_cat10 Loc_cat11 Loc_cat12 Loc_cat13 Loc_cat14 Loc_cat15 Loc_cat16 dropM prT kdOf tab2 tkind2 tab3 tkind3 tab4 tkind4 tab5 tkind5 tab6 tkind6 tab7 tkind7 tab8 tkind8 tab9 tkind9 tab10 tkind10 tab11 tkind11 tab12 tkind12 tab13 tkind13 tab14 tkind14 tab15 tkind15 tab16 tkind16 tab17 tkind17 tab18 tkind18 tab19 tkind19 tab21 tkind21 tab22 tkind22 tab23 tkind23 tab24 tkind24 tab26 tkind26 tab27 tkind27 tab28 tkind28 tab29 tkind29 tab33 tkind33 tab34 tkind34 tab35 tkind35 tab37 tkind37 tab40 tkind40 tab45 tkind45 tab46 tkind46 tab54 tkind54 tab55 tkind55 tab63 tkind63 tab64 tkind64 tab71 tkind71 tab72 tkind72 tab73 tkind73 tab74 tkind74 tab77 tkind77 tab78 tkind78 tab79 tkind79 tab81 tkind81 tab82 tkind82 tab85 tkind85 tab86 tkind86 tab87 tkind87 tab88 tkind88 tab96 tkind96 tab97 tkind97 tab98 tkind98 tab101 tkind101 tab116 tkind116 tab117 tkind117 tab118 tkind118 tab135 tkind135 tab137 tkind137 tab138 tkind138 tab140 tkind140 tab141 tkind141 tab145 tkind145 tab146 tkind146 tab148 tkind148 tab149 tkind149 e_S_api_Limits wkl_eI_u64 wka_eI_u64 len_eI_u64 one_eI_u64 wkp_eI_u64 undp_eI_u64 rens_eI_u64 renp_eI_u64 und_eI_u64 wkl_eL_eI_u64 wka_eL_eI_u64 len_eL_eI_u64 one_eL_eI_u64 wkp_eL_eI_u64 undp_eL_eI_u64 rens_eL_eI_u64 renp_eL_eI_u64 und_eL_eI_u64 e_S_ptr_Ptr e_S_centoref06_Loc e_S_centoref09_Ref e_S_api_Tree e0_eq_S_api_Tree wkl_e_S_api_Tree wka_e_S_api_Tree len_e_S_api_Tree one_e_S_api_Tree wkp_e_S_api_Tree undp_e_S_api_Tree rens_e_S_api_Tree renp_e_S_api_Tree und_e_S_api_Tree e_S_arena_Arena wkl_e_S_arena_Arena wka_e_S_arena_Arena len_e_S_arena_Arena one_e_S_arena_Arena wkp_e_S_arena_Arena undp_e_S_arena_Arena rens_e_S_arena_Arena renp_e_S_arena_Arena und_e_S_arena_Arena wkl_eI_i64 wka_eI_i64 len_eI_i64 one_eI_i64 wkp_eI_i64 undp_eI_i64 rens_eI_i64 renp_eI_i64 und_eI_i64 e_S_far_Loc e_S_reader_Ref e_S_equal_comparer wkl_e_S_equal_comparer wka_e_S_equal_comparer len_e_S_equal_comparer one_e_S_equal_comparer wkp_e_S_equal_comparer undp_e_S_equal_comparer rens_e_S_equal_comparer renp_e_S_equal_comparer und_e_S_equal_comparer e_S_equal_hasher wkl_e_S_equal_hasher wka_e_S_equal_hasher len_e_S_equal_hasher one_e_S_equal_hasher wkp_e_S_equal_hasher undp_e_S_equal_hasher rens_e_S_equal_hasher renp_e_S_equal_hasher und_e_S_equal_hasher
def oT_r_centoref07_Norm (r_centoref07_Norm : (S_api_Tree → Option S_api_Tree)) : Prop := ∀ {a0 : S_api_Tree} {r : S_api_Tree} {O : Objs} {n : Nat}, r_centoref07_Norm a0 = some r → GTo Try.prog 31 [.agg (c_S_api_Tree a0)] O n (.agg (c_S_api_Tree r)) O n
theorem okb_centoref07_Norm {r_centoref07_Norm : (S_api_Tree → Option S_api_Tree)} (ok_r_centoref07_Norm : oT_r_centoref07_Norm r_centoref07_Norm) {a0 : S_api_Tree} {r : S_api_Tree} {O : Objs} {n : Nat} (h : b_centoref07_Norm r_centoref07_Norm a0 = some r) : GTo Try.prog 31 [.agg (c_S_api_Tree a0)] O n (.agg (c_S_api_Tree r)) O n := by
  unfold b_centoref07_Norm at h
  refine zFn Try.call31 Try.func31 fun hU hN0 hN => ?_
  show W _ _ _ _ ⟨53, [], [(0, .agg (c_S_api_Tree a0))]⟩ (Loc O n []) _
  refine zQ [1, 2] ?_
  refine W_seqK ?_
  refine zQ [1, 2, 10] ?_
  refine W_cond (t := (a0.Kind == 0)) rfl (fun c19 => ?_) (fun c19 => ?_)
  · replace h := condT c19 h
    refine W_seqK ?_
    refine zRd [2] [false, true] ?_
    exact zRet [.agg [(vI 0), nV, nV]]
  · replace h := condF c19 h
    refine zKd [1, 2] [true, true] ?_
    refine zQ [1, 2, 3] ?_
    refine zQ [1, 2, 3, 4] ?_
    refine W_seqK ?_
    refine zQd [1, 2, 3, 4, 5] [1, 2, 3, 4, 5] [true, true] ?_
    refine W_fit2 (E' := (⟨53, [], [(1, .ref n 0), (2, .ref (n + 1) 0), (3, .row (n + 2) ([] : List S_api_Tree).length), (4, (vI 0)), (5, (vI 0))]⟩ : Env)) (O' := (Loc O n [some ⟨false, 29, 3, 1, (c_S_api_Tree a0)⟩, some ⟨false, 29, 3, 1, [(vI 0), nV, nV]⟩, some (oR 29 3 e_S_api_Tree ([] : List S_api_Tree)), none])) (n' := (n + 4)) ?_ ?_
    · refine Fit2.trans (E' := (⟨53, [], [(1, .ref n 0), (2, .ref (n + 1) 0), (3, nV), (4, (vI 0)), (5, (vI 0))]⟩ : Env)) (O' := (Loc O n [some ⟨false, 29, 3, 1, (c_S_api_Tree a0)⟩, some ⟨false, 29, 3, 1, [(vI 0), nV, nV]⟩])) (n' := (n + 2)) (Fit2.of (fit_loc hU rfl rfl ?_) (by omega)) ?_
      · exact zSe
      refine Fit2.trans (adopt_fit 3 29 3 rfl (by omega)) ?_
      simp only [Loc_push, Loc_push0, Loc_upd, Loc_upd0, List.set_cons_zero, List.set_cons_succ, List.cons_append, List.nil_append, List.length_cons, List.length_nil, Nat.zero_add, Nat.reduceAdd, Nat.reduceLT, Nat.add_assoc]
      refine Fit2.trans (E' := (⟨53, [], [(1, .ref n 0), (2, .ref (n + 1) 0), (3, .row (n + 2) ([] : List S_api_Tree).length), (4, (vI 0)), (5, (vI 0))]⟩ : Env)) (O' := (Loc O n [some ⟨false, 29, 3, 1, (c_S_api_Tree a0)⟩, some ⟨false, 29, 3, 1, [(vI 0), nV, nV]⟩, some (oR 29 3 e_S_api_Tree ([] : List S_api_Tree))])) (n' := (n + 3)) (Fit2.of (fit_loc hU rfl rfl ?_) (by omega)) ?_
      · exact zSe
      refine ren_fit (k := 3) (k' := 4) hU [0, 1, 2] [0, 1, 2, 0] rfl rfl rfl rfl ⟨rfl, rfl⟩ ?_
      exact zSe
    obtain ⟨z10, hz10, h⟩ := bC h
    refine W_blockX (E' := ⟨53, [], [(1, .ref n 0), (2, .ref (n + 1) 0), (3, .row (n + 2) z10.2.length), (4, (vI z10.1))]⟩) (O' := (Loc O n [some ⟨false, 29, 3, 1, (c_S_api_Tree a0)⟩, some ⟨false, 29, 3, 1, [(vI 0), nV, nV]⟩, some (oR 29 3 e_S_api_Tree z10.2), none])) (n0 := (n + 4)) ?_ ?_
    · refine W_loopJ hz10 (fun s0_ => ⟨53, [], [(1, .ref n 0), (2, .ref (n + 1) 0), (3, .row (n + 2) s0_.2.2.length), (4, (vI s0_.1)), (5, (vI s0_.2.1))]⟩) (fun s0_ => (Loc O n [some ⟨false, 29, 3, 1, (c_S_api_Tree a0)⟩, some ⟨false, 29, 3, 1, [(vI 0), nV, nV]⟩, some (oR 29 3 e_S_api_Tree s0_.2.2), none])) (fun z10 => JX 0 n (⟨53, [], [(1, .ref n 0), (2, .ref (n + 1) 0), (3, .row (n + 2) z10.2.length), (4, (vI z10.1))]⟩ : Env) (Loc O n [some ⟨false, 29, 3, 1, (c_S_api_Tree a0)⟩, some ⟨false, 29, 3, 1, [(vI 0), nV, nV]⟩, some (oR 29 3 e_S_api_Tree z10.2), none]) (n + 4)) ?_
      intro s0_ x0_ hs0_
      unfold b_centoref07_Norm_L0 at hs0_
      try dsimp only
      refine W_seqK ?_
      refine zQ [1, 2, 3, 4, 5, 16] ?_
      refine W_cond (t := (decide (s0_.2.1 < (a0.Kids.length : Int)))) rfl (fun c9 => ?_) (fun c9 => ?_)
      · replace hs0_ := condT c9 hs0_
        refine zKd [1, 2, 3, 4, 5] [true, true, true, false] ?_
        obtain ⟨z1, hz1, hs0_⟩ := bC hs0_
        refine W_seqN (E' := ⟨53, [], [(1, .ref n 0), (2, .ref (n + 1) 0), (3, .row (n + 2) z1.2.length), (4, (vI z1.1)), (5, (vI s0_.2.1))]⟩) (O' := (Loc O n [some ⟨false, 29, 3, 1, (c_S_api_Tree a0)⟩, some ⟨false, 29, 3, 1, [(vI 0), nV, nV]⟩, some (oR 29 3 e_S_api_Tree z1.2), none, none, none])) (n0 := (n + 6)) ?_ ?_
        · refine W_block ?_
          refine W_seqK ?_
          obtain ⟨x4, hx4, ax4, bx4, cx4, hz1⟩ := bE (f := e_S_api_Tree) tab29 (fun _ => rfl) (by decide) hz1
          obtain ⟨y5, hy5, hz1⟩ := bC hz1
          refine zRof3 [] ax4 bx4 cx4 ?_
          refine (ok_r_centoref07_Norm hy5).then ?_
          refine zF3 ax4 bx4 cx4 ?_
          refine zDs [1, 2, 3, 4, 5, 6] [true, true, true, false, true] ?_
          obtain ⟨l7, pl7, ql7, el7, hz1⟩ := bA (k := 1) rfl hz1
          refine zRox3 [] pl7 ql7 el7 ?_
          refine W_fit ⟨53, [], [(1, .ref n 0), (2, .ref (n + 1) 0), (3, .row (n + 2) l7.length), (4, (vI s0_.1)), (5, (vI s0_.2.1)), (6, .ref (n + 4) 0)]⟩ (Loc O n [some ⟨false, 29, 3, 1, (c_S_api_Tree a0)⟩, some ⟨false, 29, 3, 1, [(vI 0), nV, nV]⟩, some (oR 29 3 e_S_api_Tree l7), none, some ⟨false, 29, 3, 1, (c_S_api_Tree y5)⟩, none]) (fit_loc hU rfl rfl ?_) ?_
          · exact zXe3 pl7 ql7 el7
          refine zQ [1, 2, 3, 4, 5, 31] ?_
          refine W_cond (t := (y5.Kind != 0)) rfl (fun c8 => ?_) (fun c8 => ?_)
          · replace hz1 := condT c8 hz1
            refine zR ?_
            exact zEn hz1
          · replace hz1 := condF c8 hz1
            refine zK ?_
            exact zEn hz1
        refine zR ?_
        exact zEn hs0_
      · replace hs0_ := condF c9 hs0_
        exact zEx hs0_
    try simp only [gthen, gblock, ↓reduceIte, Nat.reduceEqDiff]
    refine zDs [1, 2, 3, 4] [true, true, true, false] ?_
    refine zQ [1, 2, 3, 4, 36] ?_
    refine W_cond (t := (a0.Kind == 1)) rfl (fun c18 => ?_) (fun c18 => ?_)
    · replace h := condT c18 h
      refine W_fit ⟨53, [], [(1, .ref n 0), (2, .ref (n + 1) 0), (3, (sL e_S_api_Tree z10.2)), (4, (vI z10.1))]⟩ (Loc O n [some ⟨false, 29, 3, 1, (c_S_api_Tree a0)⟩, some ⟨false, 29, 3, 1, [(vI 0), nV, nV]⟩, none, none]) (fit_loc hU rfl rfl ?_) ?_
      · exact zSe
      refine W_seqK ?_
      obtain ⟨y14, hy14, h⟩ := bC h
      obtain ⟨l15, al15, bl15, cl15, gl15, h⟩ := bS (lo := none) (hi := (some (.i64, z10.1))) (f := e_S_api_Tree) rfl rfl tkind27 tab29 (fun _ => rfl) h
      refine W_drawF tab_ok (by kernel_rfl) [false, false, false, false, false, false, false, true] [] (by kernel_rfl) ?_
      refine zX4 al15 bl15 cl15 gl15 ?_
      refine PCall.of (ok_centoref07_Trim hy14) ?_
      refine zX4 al15 bl15 cl15 gl15 ?_
      refine zD [2] [false, true, false, false] ?_
      exact zRet [.agg [(vI 1), (sL (eI .u64) y14), (sL e_S_api_Tree l15)]]
    · replace h := condF c18 h
      refine zKd [1, 2, 3] [true, true, true, false] ?_
      refine zQ [1, 2, 3, 7] ?_
      refine W_seqK ?_
      obtain ⟨l17, pl17, ql17, el17, h⟩ := bA0 (k := a0.Words.length) rfl h
      refine zRox3 [] pl17 ql17 el17 ?_
      refine W_fit ⟨53, [], [(1, .ref n 0), (2, .ref (n + 1) 0), (3, .row (n + 2) z10.2.length), (7, .row (n + 4) l17.length)]⟩ (Loc O n [some ⟨false, 29, 3, 1, (c_S_api_Tree a0)⟩, some ⟨false, 29, 3, 1, [(vI 0), nV, nV]⟩, some (oR 29 3 e_S_api_Tree z10.2), none, some (oR 40 1 (eI .u64) l17)]) (fit_loc hU rfl rfl ?_) ?_
      · exact zXe3 pl17 ql17 el17
      refine W_seqK ?_
      refine zRd [2] [false, true, true, false, true] ?_
      exact zRet [.agg [(vI a0.Kind), .row (n + 4) l17.length, .row (n + 2) z10.2.length]]

theorem lv_centoref07_Norm_ok : ∀ k, (oT_r_centoref07_Norm (lv_centoref07_Norm k)) := fun k => by
  induction k with
  | zero => exact @fun a0 r O n h => (nomatch (show (none : Option _) = some _ from h))
  | succ k ih => exact @fun a0 r O n h => okb_centoref07_Norm (ih)  h

theorem ok_centoref07_Norm {a0 : S_api_Tree} {r : S_api_Tree} {O : Objs} {n : Nat} (h : m_centoref07_Norm a0 = some r) : GTo Try.prog 31 [.agg (c_S_api_Tree a0)] O n (.agg (c_S_api_Tree r)) O n := by
  obtain ⟨k, hk⟩ := lim_some h
  exact (lv_centoref07_Norm_ok k)  hk

theorem ok_centoref01_Same {a0 : (List Int)} {a1 : (List Int)} {r : Bool} {O : Objs} {n : Nat} (h : m_centoref01_Same a0 a1 = some r) : GTo Try.prog 51 [(sL (eI .u64) a0), (sL (eI .u64) a1)] O n ((vB r)) O n := by
  unfold m_centoref01_Same at h
  refine zFn Try.call51 Try.func51 fun hU hN0 hN => ?_
  show W _ _ _ _ ⟨26, [], [(0, (sL (eI .u64) a0)), (1, (sL (eI .u64) a1))]⟩ (Loc O n []) _
  refine zQ [0, 1] ?_
  refine W_seqK ?_
  refine zQ [0, 1, 10] ?_
  refine W_cond (t := ((a0.length : Int) != (a1.length : Int))) rfl (fun c8 => ?_) (fun c8 => ?_)
  · replace h := condT c8 h
    refine zQ [4] ?_
    exact zRet [(vB false)]
  · replace h := condF c8 h
    refine zKd [0, 1] [] ?_
    refine W_seqK ?_
    refine zQd [0, 1, 5] [0, 1, 5] [] ?_
    obtain ⟨z7, hz7, h⟩ := bC h
    refine W_sumB (J := (SumJ (fun z7 => JR n (⟨26, [], [(4, (vB false))]⟩ : Env) (Loc O n []) n) (fun z7 => JX 0 n (⟨26, [], []⟩ : Env) (Loc O n []) n))) (z := z7) ?_ fun hw => ?_
    · refine W_loopJ hz7 (fun s0_ => ⟨26, [], [(0, (sL (eI .u64) a0)), (1, (sL (eI .u64) a1)), (5, (vI s0_))]⟩) (fun s0_ => (Loc O n [])) (SumJ (fun z7 => JR n (⟨26, [], [(4, (vB false))]⟩ : Env) (Loc O n []) n) (fun z7 => JX 0 n (⟨26, [], []⟩ : Env) (Loc O n []) n)) ?_
      intro s0_ x0_ hs0_
      unfold m_centoref01_Same_L0 at hs0_
      try dsimp only
      refine W_seqK ?_
      refine zQ [0, 1, 5, 14] ?_
      refine W_cond (t := (decide (s0_ < (a0.length : Int)))) rfl (fun c6 => ?_) (fun c6 => ?_)
      · replace hs0_ := condT c6 hs0_
        refine zKd [0, 1, 5] [] ?_
        refine W_seqK ?_
        refine W_block ?_
        obtain ⟨x3, hx3, ax3, bx3, cx3, hs0_⟩ := bE (f := (eI .u64)) tab40 (fun _ => rfl) (by decide) hs0_
        obtain ⟨x4, hx4, ax4, bx4, cx4, hs0_⟩ := bE (f := (eI .u64)) tab40 (fun _ => rfl) (by decide) hs0_
        refine W_sq [0, 1, 5, 25] (W_drawD tab_ok (by kernel_rfl) [] (by kernel_rfl) ?_)
        refine zF6 ax3 bx3 cx3 ax4 bx4 cx4 ?_
        refine W_cond (t := (x3 != x4)) rfl (fun c5 => ?_) (fun c5 => ?_)
        · replace hs0_ := condT c5 hs0_
          refine zQ [4] ?_
          refine zW ?_
          exact zEy hs0_
        · replace hs0_ := condF c5 hs0_
          refine zKd [0, 1, 5] [] ?_
          refine zR ?_
          exact zEn hs0_
      · replace hs0_ := condF c6 hs0_
        exact zEx hs0_
    rcases z7 with z7 | z7
    · dsimp only [SumJ] at hw h
      refine W_blockR hw ?_
      try simp only [gthen, gblock, ↓reduceIte, Nat.reduceEqDiff]
      exact zFin [(vB false)]
    · dsimp only [SumJ] at hw h
      refine W_blockX hw ?_
      try simp only [gthen, gblock, ↓reduceIte, Nat.reduceEqDiff]
      refine zD [] [] ?_
      refine zQ [4] ?_
      exact zRet [(vB true)]

def oT_r_centoref07_Same (r_centoref07_Same : (S_api_Tree → S_api_Tree → Option Bool)) : Prop := ∀ {a0 : S_api_Tree} {a1 : S_api_Tree} {r : Bool} {O : Objs} {n : Nat}, r_centoref07_Same a0 a1 = some r → GTo Try.prog 30 [.agg (c_S_api_Tree a0), .agg (c_S_api_Tree a1)] O n ((vB r)) O n
theorem okb_centoref07_Same {r_centoref07_Same : (S_api_Tree → S_api_Tree → Option Bool)} (ok_r_centoref07_Same : oT_r_centoref07_Same r_centoref07_Same) {a0 : S_api_Tree} {a1 : S_api_Tree} {r : Bool} {O : Objs} {n : Nat} (h : b_centoref07_Same r_centoref07_Same a0 a1 = some r) : GTo Try.prog 30 [.agg (c_S_api_Tree a0), .agg (c_S_api_Tree a1)] O n ((vB r)) O n := by
  unfold b_centoref07_Same at h
  refine zFn Try.call30 Try.func30 fun hU hN0 hN => ?_
  show W _ _ _ _ ⟨47, [], [(0, .agg (c_S_api_Tree a0)), (1, .agg (c_S_api_Tree a1))]⟩ (Loc O n []) _
  refine zQ [2, 3] ?_
  refine W_seqK ?_
  obtain ⟨z2, hz2, h⟩ := bC h
  refine W_seqN (E' := ⟨47, [], [(2, .ref n 0), (3, .ref (n + 1) 0), (27, (vB z2))]⟩) (O' := (Loc O n [some ⟨false, 29, 3, 1, (c_S_api_Tree a0)⟩, some ⟨false, 29, 3, 1, (c_S_api_Tree a1)⟩])) (n0 := (n + 2)) ?_ ?_
  · rcases Bool.eq_false_or_eq_true (a0.Kind != a1.Kind) with c5 | c5
    · replace hz2 := condT c5 hz2
      refine zRox1 [some false, some false, some false, some false, some false, some false, some false, some false, some false, some false, some false, some false, some false] c5 ?_
      exact zEnx1 hz2 c5
    · replace hz2 := condF c5 hz2
      obtain ⟨y4, hy4, hz2⟩ := bC hz2
      refine zRox1 [some true, some true, some true, some true, some true, some true, none, none, none, none, none, none, none] c5 ?_
      refine zG ?_
      refine (ok_centoref01_Same hy4).then ?_
      refine zX1 c5 ?_
      refine zG ?_
      exact zEnx1 hz2 c5
  refine W_cond (t := z2) rfl (fun c15 => ?_) (fun c15 => ?_)
  · replace h := condT c15 h
    refine zQ [4] ?_
    exact zRet [(vB false)]
  · replace h := condF c15 h
    refine zKd [2, 3] [true, true] ?_
    refine W_seqK ?_
    refine zQd [2, 3, 5] [2, 3, 5] [true, true] ?_
    obtain ⟨z14, hz14, h⟩ := bC h
    refine W_sumB (J := (SumJ (fun z14 => JR n (⟨47, [], [(4, (vB false))]⟩ : Env) (Loc O n [none, none]) (n + 2)) (fun z14 => JX 0 n (⟨47, [], []⟩ : Env) (Loc O n [none, none]) (n + 2)))) (z := z14) ?_ fun hw => ?_
    · refine W_loopJ hz14 (fun s0_ => ⟨47, [], [(2, .ref n 0), (3, .ref (n + 1) 0), (5, (vI s0_))]⟩) (fun s0_ => (Loc O n [some ⟨false, 29, 3, 1, (c_S_api_Tree a0)⟩, some ⟨false, 29, 3, 1, (c_S_api_Tree a1)⟩])) (SumJ (fun z14 => JR n (⟨47, [], [(4, (vB false))]⟩ : Env) (Loc O n [none, none]) (n + 2)) (fun z14 => JX 0 n (⟨47, [], []⟩ : Env) (Loc O n [none, none]) (n + 2))) ?_
      intro s0_ x0_ hs0_
      unfold b_centoref07_Same_L0 at hs0_
      try dsimp only
      refine W_seqK ?_
      refine zQ [2, 3, 5, 32] ?_
      refine W_cond (t := (decide (s0_ < (a0.Kids.length : Int)))) rfl (fun c13 => ?_) (fun c13 => ?_)
      · replace hs0_ := condT c13 hs0_
        refine zKd [2, 3, 5] [true, true] ?_
        refine W_seqK ?_
        refine W_block ?_
        refine W_seqK ?_
        obtain ⟨x9, hx9, ax9, bx9, cx9, hs0_⟩ := bE (f := e_S_api_Tree) tab29 (fun _ => rfl) (by decide) hs0_
        obtain ⟨x10, hx10, ax10, bx10, cx10, hs0_⟩ := bE (f := e_S_api_Tree) tab29 (fun _ => rfl) (by decide) hs0_
        obtain ⟨y11, hy11, hs0_⟩ := bC hs0_
        refine W_drawD tab_ok (by kernel_rfl) [] (by kernel_rfl) ?_
        refine zF6 ax9 bx9 cx9 ax10 bx10 cx10 ?_
        refine PCall.of (ok_r_centoref07_Same hy11) ?_
        refine zF6 ax9 bx9 cx9 ax10 bx10 cx10 ?_
        refine zD [2, 3, 5, 46] [true, true] ?_
        refine W_cond (t := (!y11)) rfl (fun c12 => ?_) (fun c12 => ?_)
        · replace hs0_ := condT c12 hs0_
          refine zQ [4] ?_
          refine zW ?_
          exact zEy hs0_
        · replace hs0_ := condF c12 hs0_
          refine zKd [2, 3, 5] [true, true] ?_
          refine zR ?_
          exact zEn hs0_
      · replace hs0_ := condF c13 hs0_
        exact zEx hs0_
    rcases z14 with z14 | z14
    · dsimp only [SumJ] at hw h
      refine W_blockR hw ?_
      try simp only [gthen, gblock, ↓reduceIte, Nat.reduceEqDiff]
      exact zFin [(vB false)]
    · dsimp only [SumJ] at hw h
      refine W_blockX hw ?_
      try simp only [gthen, gblock, ↓reduceIte, Nat.reduceEqDiff]
      refine zD [] [false, false] ?_
      refine zQ [4] ?_
      exact zRet [(vB true)]

theorem lv_centoref07_Same_ok : ∀ k, (oT_r_centoref07_Same (lv_centoref07_Same k)) := fun k => by
  induction k with
  | zero => exact @fun a0 a1 r O n h => (nomatch (show (none : Option _) = some _ from h))
  | succ k ih => exact @fun a0 a1 r O n h => okb_centoref07_Same (ih)  h

theorem ok_centoref07_Same {a0 : S_api_Tree} {a1 : S_api_Tree} {r : Bool} {O : Objs} {n : Nat} (h : m_centoref07_Same a0 a1 = some r) : GTo Try.prog 30 [.agg (c_S_api_Tree a0), .agg (c_S_api_Tree a1)] O n ((vB r)) O n := by
  obtain ⟨k, hk⟩ := lim_some h
  exact (lv_centoref07_Same_ok k)  hk

theorem ok_centoref07_Equal {a0 : S_api_Tree} {a1 : S_api_Tree} {r : Bool} {O : Objs} {n : Nat} (h : m_centoref07_Equal a0 a1 = some r) : GTo Try.prog 13 [.agg (c_S_api_Tree a0), .agg (c_S_api_Tree a1)] O n ((vB r)) O n := by
  unfold m_centoref07_Equal at h
  refine zFn Try.call13 Try.func13 fun hU hN0 hN => ?_
  show W _ _ _ _ ⟨10, [], [(0, .agg (c_S_api_Tree a0)), (1, .agg (c_S_api_Tree a1))]⟩ (Loc O n []) _
  refine zQ [2, 3] ?_
  refine W_seqK ?_
  obtain ⟨y4, hy4, h⟩ := bC h
  obtain ⟨y5, hy5, h⟩ := bC h
  obtain ⟨y6, hy6, h⟩ := bC h
  refine W_drawD tab_ok (by kernel_rfl) [] (by kernel_rfl) ?_
  refine zS ?_
  refine PCall.of (ok_centoref07_Norm hy4) ?_
  refine zS ?_
  refine PCall.of (ok_centoref07_Norm hy5) ?_
  refine zS ?_
  refine PCall.of (ok_centoref07_Same hy6) ?_
  refine zS ?_
  refine zD [4] [false, false] ?_
  exact zRet [(vB y6)]

theorem ok_centolaw15_EqualValues {a0 : (List (List Int))} {a1 : (List (List Int))} {a2 : S_api_Limits} {r : Bool} {O : Objs} {n : Nat} (h : m_centolaw15_EqualValues a0 a1 a2 = some r) : GTo Try.prog 3 [(sL (eL (eI .u64)) a0), (sL (eL (eI .u64)) a1), .agg (c_S_api_Limits a2)] O n ((vB r)) O n := by
  unfold m_centolaw15_EqualValues at h
  refine zFn Try.call3 Try.func3 fun hU hN0 hN => ?_
  show W _ _ _ _ ⟨91, [], [(0, (sL (eL (eI .u64)) a0)), (1, (sL (eL (eI .u64)) a1)), (2, .agg (c_S_api_Limits a2))]⟩ (Loc O n []) _
  refine zQ [0, 1, 5] ?_
  refine W_seqK ?_
  obtain ⟨y2, hy2, h⟩ := bC h
  refine zCd (ok_centolaw10_Light hy2) [0, 1, 5] [true] ?_
  refine W_seqK ?_
  obtain ⟨y4, hy4, h⟩ := bC h
  refine zCd (ok_centoref10_Unfold hy4) [0, 1, 5, 7, 9] [true, true] ?_
  refine W_seqK ?_
  obtain ⟨y6, hy6, h⟩ := bC h
  refine zCd (ok_centoref10_Unfold hy6) [0, 1, 7, 9, 10, 12] [false, true, true] ?_
  refine W_seqK ?_
  refine zQD [0, 1, 7, 10, 42] [none, none] ?_
  refine W_cond (t := (cond (y4.2.2 != 0) true (y6.2.2 != 0))) rfl (fun c31 => ?_) (fun c31 => ?_)
  · replace h := condT c31 h
    refine W_seqK ?_
    obtain ⟨y8, hy8, h⟩ := bC h
    refine zCd (ok_centolaw15_awake hy8) [6] [false, false, false] ?_
    exact zRet [(vB y8)]
  · replace h := condF c31 h
    refine zKd [0, 1, 7, 10] [false, true, true] ?_
    refine W_seqK ?_
    obtain ⟨y11, hy11, h⟩ := bC h
    obtain ⟨y12, hy12, h⟩ := bC h
    refine zC (ok_centolaw15_root hy11) ?_
    refine zTs (ok_centolaw15_root hy12) ?_
    refine zDs [7, 10, 13, 14] [false, true, true, true, true] ?_
    obtain ⟨y14, hy14, h⟩ := bC h
    refine zCd (ok_equal_Values hy14) [7, 10, 13, 14, 15, 16] [false, true, true, true, true] ?_
    refine W_seqK ?_
    obtain ⟨y16, hy16, h⟩ := bC h
    refine zCd (ok_equal_Hash hy16) [7, 10, 14, 15, 16, 17, 18] [false, true, true, false, true] ?_
    refine W_seqK ?_
    obtain ⟨y18, hy18, h⟩ := bC h
    refine zCd (ok_equal_Hash hy18) [7, 10, 15, 16, 17, 18, 19, 20] [false, true, true, false, false] ?_
    refine W_seqK ?_
    refine W_seqK ?_
    obtain ⟨y20, hy20, h⟩ := bC h
    refine zRo [none, none, none, none, none, none] ?_
    refine zG ?_
    refine zTs (ok_centoref07_Equal hy20) ?_
    refine zG ?_
    refine zD [15, 17, 19, 80] [false, false, false, false, false] ?_
    refine W_cond (t := (cond (cond (cond (y14.1 != y20) true (y14.2 != 0)) true (y16.2 != 0)) true (y18.2 != 0))) rfl (fun c30 => ?_) (fun c30 => ?_)
    · replace h := condT c30 h
      refine zQ [6] ?_
      exact zRet [(vB false)]
    · replace h := condF c30 h
      refine zKd [15, 17, 19] [false, false, false, false, false] ?_
      obtain ⟨z23, hz23, h⟩ := bC h
      refine W_seqN (E' := ⟨91, [], [(6, (vB z23))]⟩) (O' := (Loc O n [none, none, none, none, none])) (n0 := (n + 5)) ?_ ?_
      · rcases Bool.eq_false_or_eq_true y14.1 with c28 | c28
        · replace hz23 := condT c28 hz23
          rcases Bool.eq_false_or_eq_true (y16.1 == y18.1) with c29 | c29
          · replace hz23 := condT c29 hz23
            try rw [c29] at c28
            try (rw [c28] at c29; simp at c29)
            all_goals
              obtain ⟨y26, hy26, hz23⟩ := bC hz23
              refine zRox2 [none, none, none, some true] c28 c29 ?_
              refine zG ?_
              refine (ok_centolaw15_awake hy26).then ?_
              refine zX2 c28 c29 ?_
              refine zG ?_
              exact zEnx2 hz23 c28 c29
          · replace hz23 := condF c29 hz23
            try rw [c29] at c28
            try (rw [c28] at c29; simp at c29)
            all_goals
              refine zRox2 [none, none, none, some false] c28 c29 ?_
              refine zG ?_
              exact zEnx2 hz23 c28 c29
        · replace hz23 := condF c28 hz23
          obtain ⟨y27, hy27, hz23⟩ := bC hz23
          refine zRox1 [none, none, none, some true] c28 ?_
          refine zG ?_
          refine (ok_centolaw15_awake hy27).then ?_
          refine zX1 c28 ?_
          refine zG ?_
          exact zEnx1 hz23 c28
      exact zRet [(vB z23)]

end Go.Proofs.Ytgffgbdnbjbmoaa
