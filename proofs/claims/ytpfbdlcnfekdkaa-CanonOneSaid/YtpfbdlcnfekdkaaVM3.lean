/- Part VM3 of this seat's mirrors: functions of the seat's program, and the plain functions that they are; each theorem bears its own conditions. -/
import Derived.Test.YtpfbdlcnfekdkaaVE
import Derived.Test.YtpfbdlcnfekdkaaVM2
namespace Go.Proofs.Ytpfbdlcnfekdkaa
open Go.RowKit
set_option linter.unusedVariables false
set_option linter.unusedSimpArgs false
set_option maxRecDepth 100000
set_option maxHeartbeats 4000000
attribute [local push_cast] Try.results16 Try.results19 Try.results20 Try.results39 Try.results4 Try.results42 Try.results43 Try.results66 Try.results67 Try.results68 Try.results69 vI vB nV sL oR c_S_api_Tree c_S_ptr_Ptr gfork_t gfork_f pfork_t pfork_f gthen gblock gops_nil gops_plain gops_guard onW gwantB gcalm gact gpick gpickV strip_any strip_val strip_agg strip_tup strip_sl strip_ip strip_row strip_rs strip_rp strip_rl strip_ref strip_fn strip_when evS wok calmOp Op.operands Call.operands gop onK onP atK List.all_cons List.all_nil Bool.and_true Bool.true_and Bool.and_self Value.oneCell' List.take_zero List.take_succ_cons List.take_nil List.drop_zero List.drop_succ_cons List.drop_nil List.append_nil Nat.add_zero Nat.zero_add gstep gputE ev look genv gbin_ii gbin_bb gbin_ss gbin_pp gbin_rp gbin_ip gbin_ll gbin_aa geqS geqF gint gunary gconvert gload gcells gpart_lit gstore cellsOf_agg cellsOf_val cellsOf_sl cellsOf_ip cellsOf_row cellsOf_rs cellsOf_rp cellsOf_rl cellsOf_ref cellsOf_fn cellsOf_any cellsOf_tup cellsOf_when cellsOf_gP gput gplace_lit gfieldAddr gstepIn gindexAddr gindex gfield gopt bLo bHi bMx gextract galloc gbox gbuild gfill gplaces gbuildSlice gmake glen gappend gsrc gbuiltin gnil live_any live_val live_agg live_tup live_sl live_ip live_fn live_when live_ref live_rs live_rp live_rl live_row live_gP gres gone prun_nil prun_plain prun_guard pop TK.isAgg one_any one_val one_agg one_tup one_when one_sl one_ip one_row one_rs one_rp one_rl one_ref one_fn G.under G.unders List.getD_cons_zero List.getD_cons_succ List.set_cons_zero List.set_cons_succ List.map_cons List.map_nil List.toList_toArray Array.toList_append Option.toArray_none Option.toArray_some Array.toList_map Option.map_some Option.map_none Option.bind_some Option.bind_none List.getElem?_cons_zero List.getElem?_cons_succ List.getElem?_nil List.nil_append List.cons_append List.replicate_succ List.replicate_zero List.length_cons List.length_nil and_true true_and and_false false_and Bool.true_eq_false Bool.false_eq_true forall_const false_implies implies_true IntKind.bits if_true if_false ite_true ite_false eq_self true_implies false_or or_false or_true true_or not_true_eq_false not_false_eq_true decide_true decide_false decide_eq_true_eq decide_eq_false_iff_not beq_iff_eq bne_iff_ne ne_eq Bool.not_eq_true Bool.not_eq_false beq_eq_false_iff_ne bne_eq_false_iff_eq beq_self_eq_true bne_self_eq_false Option.some.injEq exists_eq_left' exists_eq_left ge_iff_le gt_iff_lt decide_not Bool.not_true Bool.not_false imp_self gquiet cond_true cond_false beqT beqF Bool.not_not Bool.and_false Bool.false_and Bool.or_true Bool.true_or Bool.or_false Bool.false_or Loc_at Loc_at0 Loc_upd Loc_upd0 Loc_push Loc_push0 Option.join_some Nat.add_assoc Int.toNat_natCast eI eB eS eL fl_nil gopsD_nil gopsD_plain gopsD_t gopsD_f gopsD_n onKD onWD prunD_nil prunD_plain prunD_t prunD_f prunD_n onPD fitO fitO1 sameO fitL fl_append fl_one List.length_append G.agg.injEq G.row.injEq G.ref.injEq G.val.injEq G.sl.injEq G.tup.injEq Value.int.injEq Value.bool.injEq Value.string.injEq List.cons.injEq exists_and_left exists_const List.flatten_cons List.flatten_nil Int.le_refl Nat.le_refl upd_updU Loc_out Loc_updo Bool.not_eq_true' Bool.not_eq_false' wkl_nil wkl_cons wk_any wk_val wk_agg wk_tup wk_sl wk_fn List.size_toArray renO renO1 G.ren G.rens renL rho_at rho_at0 gP_none gP_some strip_gP wok_gP one_gP G.fn.injEq wk_slnil wk_slrow wk_slrs wk_ip wk_ipref wk_row wk_rs wk_rp wk_rl wk_ref locLt0 locLt Option.join_none upd_same fl_cons undef keepL Arr.len Arr.put_eq prunB_nil prunB_bar prunB_bart prunB_plain prunB_t prunB_f prunB_n onB onBP gcopy setI_len cpyAt_len Loc_cat0 Loc_cat1 Loc_cat2 Loc_cat3 Loc_cat4 Loc_cat5 noObjs_at prunK_nil prunK_bar prunK_pass prunK_plain prunK_low prunK_pt prunK_pf prunK_lt prunK_lf onKg onKa onKp popL pickOps lows lowG prunK_shp prunK_fill popH shpOp fillOp fillG rho_low rens_app Loc_cat6 Loc_cat7 Loc_cat8 Loc_cat9 Loc_cat10 Loc_cat11 Loc_cat12 Loc_cat13 Loc_cat14 Loc_cat15 Loc_cat16 dropM prT kdOf tab2 tkind2 tab3 tkind3 tab4 tkind4 tab5 tkind5 tab6 tkind6 tab7 tkind7 tab8 tkind8 tab9 tkind9 tab10 tkind10 tab11 tkind11 tab12 tkind12 tab13 tkind13 tab14 tkind14 tab15 tkind15 tab16 tkind16 tab17 tkind17 tab18 tkind18 tab19 tkind19 tab21 tkind21 tab22 tkind22 tab23 tkind23 tab24 tkind24 tab26 tkind26 tab27 tkind27 tab28 tkind28 tab29 tkind29 tab30 tkind30 tab33 tkind33 tab46 tkind46 tab49 tkind49 tab50 tkind50 tab61 tkind61 tab62 tkind62 tab63 tkind63 tab65 tkind65 tab66 tkind66 tab74 tkind74 tab75 tkind75 tab84 tkind84 tab85 tkind85 tab87 tkind87 tab88 tkind88 tab91 tkind91 tab92 tkind92 tab93 tkind93 tab104 tkind104 tab105 tkind105 tab106 tkind106 tab112 tkind112 tab113 tkind113 tab116 tkind116 tab117 tkind117 tab119 tkind119 tab120 tkind120 tab126 tkind126 tab127 tkind127 tab141 tkind141 tab142 tkind142 tab149 tkind149 tab150 tkind150 tab151 tkind151 tab159 tkind159 tab161 tkind161 tab162 tkind162 tab166 tkind166 tab167 tkind167 tab169 tkind169 tab170 tkind170 tab171 tkind171 e_S_api_Tree e0_eq_S_api_Tree wkl_eI_u64 wka_eI_u64 len_eI_u64 one_eI_u64 wkp_eI_u64 undp_eI_u64 rens_eI_u64 renp_eI_u64 und_eI_u64 wkl_e_S_api_Tree wka_e_S_api_Tree len_e_S_api_Tree one_e_S_api_Tree wkp_e_S_api_Tree undp_e_S_api_Tree rens_e_S_api_Tree renp_e_S_api_Tree und_e_S_api_Tree wkl_eI_i64 wka_eI_i64 len_eI_i64 one_eI_i64 wkp_eI_i64 undp_eI_i64 rens_eI_i64 renp_eI_i64 und_eI_i64 e_S_ptr_Ptr e_S_canon_layer
def oT_r_centoref07_Norm (r_centoref07_Norm : (S_api_Tree → Option S_api_Tree)) : Prop := ∀ {a0 : S_api_Tree} {r : S_api_Tree} {O : Objs} {n : Nat}, r_centoref07_Norm a0 = some r → GTo Try.prog 19 [.agg (c_S_api_Tree a0)] O n (.agg (c_S_api_Tree r)) O n
theorem okb_centoref07_Norm {r_centoref07_Norm : (S_api_Tree → Option S_api_Tree)} (ok_r_centoref07_Norm : oT_r_centoref07_Norm r_centoref07_Norm) {a0 : S_api_Tree} {r : S_api_Tree} {O : Objs} {n : Nat} (h : b_centoref07_Norm r_centoref07_Norm a0 = some r) : GTo Try.prog 19 [.agg (c_S_api_Tree a0)] O n (.agg (c_S_api_Tree r)) O n := by
  unfold b_centoref07_Norm at h
  refine zFn Try.call19 Try.func19 fun hU hN0 hN => ?_
  show W _ _ _ _ ⟨53, [], [(0, .agg (c_S_api_Tree a0))]⟩ (Loc O n []) _
  refine zQ [1, 2] ?_
  refine W_seqK ?_
  refine zQ [1, 2, 10] ?_
  refine W_cond (t := (a0.Kind == 0)) rfl (fun c19 => ?_) (fun c19 => ?_)
  · replace h := condT c19 h
    refine W_seqK ?_
    refine zRd [2] [false, true] ?_
    exact zRet [.agg [(vI 0), nV, nV]]
  · replace h := condF c19 h
    refine zKd [1, 2] [true, true] ?_
    refine zQ [1, 2, 3] ?_
    refine zQ [1, 2, 3, 4] ?_
    refine W_seqK ?_
    refine zQd [1, 2, 3, 4, 5] [1, 2, 3, 4, 5] [true, true] ?_
    refine W_fit2 (E' := (⟨53, [], [(1, .ref n 0), (2, .ref (n + 1) 0), (3, .row (n + 2) ([] : List S_api_Tree).length), (4, (vI 0)), (5, (vI 0))]⟩ : Env)) (O' := (Loc O n [some ⟨false, 29, 3, 1, (c_S_api_Tree a0)⟩, some ⟨false, 29, 3, 1, [(vI 0), nV, nV]⟩, some (oR 29 3 e_S_api_Tree ([] : List S_api_Tree)), none])) (n' := (n + 4)) ?_ ?_
    · refine Fit2.trans (E' := (⟨53, [], [(1, .ref n 0), (2, .ref (n + 1) 0), (3, nV), (4, (vI 0)), (5, (vI 0))]⟩ : Env)) (O' := (Loc O n [some ⟨false, 29, 3, 1, (c_S_api_Tree a0)⟩, some ⟨false, 29, 3, 1, [(vI 0), nV, nV]⟩])) (n' := (n + 2)) (Fit2.of (fit_loc hU rfl rfl ?_) (by omega)) ?_
      · exact zSe
      refine Fit2.trans (adopt_fit 3 29 3 rfl (by omega)) ?_
      simp only [Loc_push, Loc_push0, Loc_upd, Loc_upd0, List.set_cons_zero, List.set_cons_succ, List.cons_append, List.nil_append, List.length_cons, List.length_nil, Nat.zero_add, Nat.reduceAdd, Nat.reduceLT, Nat.add_assoc]
      refine Fit2.trans (E' := (⟨53, [], [(1, .ref n 0), (2, .ref (n + 1) 0), (3, .row (n + 2) ([] : List S_api_Tree).length), (4, (vI 0)), (5, (vI 0))]⟩ : Env)) (O' := (Loc O n [some ⟨false, 29, 3, 1, (c_S_api_Tree a0)⟩, some ⟨false, 29, 3, 1, [(vI 0), nV, nV]⟩, some (oR 29 3 e_S_api_Tree ([] : List S_api_Tree))])) (n' := (n + 3)) (Fit2.of (fit_loc hU rfl rfl ?_) (by omega)) ?_
      · exact zSe
      refine ren_fit (k := 3) (k' := 4) hU [0, 1, 2] [0, 1, 2, 0] rfl rfl rfl rfl ⟨rfl, rfl⟩ ?_
      exact zSe
    obtain ⟨z10, hz10, h⟩ := bC h
    refine W_blockX (E' := ⟨53, [], [(1, .ref n 0), (2, .ref (n + 1) 0), (3, .row (n + 2) z10.2.length), (4, (vI z10.1))]⟩) (O' := (Loc O n [some ⟨false, 29, 3, 1, (c_S_api_Tree a0)⟩, some ⟨false, 29, 3, 1, [(vI 0), nV, nV]⟩, some (oR 29 3 e_S_api_Tree z10.2), none])) (n0 := (n + 4)) ?_ ?_
    · refine W_loopJ hz10 (fun s0_ => ⟨53, [], [(1, .ref n 0), (2, .ref (n + 1) 0), (3, .row (n + 2) s0_.2.2.length), (4, (vI s0_.1)), (5, (vI s0_.2.1))]⟩) (fun s0_ => (Loc O n [some ⟨false, 29, 3, 1, (c_S_api_Tree a0)⟩, some ⟨false, 29, 3, 1, [(vI 0), nV, nV]⟩, some (oR 29 3 e_S_api_Tree s0_.2.2), none])) (fun z10 => JX 0 n (⟨53, [], [(1, .ref n 0), (2, .ref (n + 1) 0), (3, .row (n + 2) z10.2.length), (4, (vI z10.1))]⟩ : Env) (Loc O n [some ⟨false, 29, 3, 1, (c_S_api_Tree a0)⟩, some ⟨false, 29, 3, 1, [(vI 0), nV, nV]⟩, some (oR 29 3 e_S_api_Tree z10.2), none]) (n + 4)) ?_
      intro s0_ x0_ hs0_
      unfold b_centoref07_Norm_L0 at hs0_
      try dsimp only
      refine W_seqK ?_
      refine zQ [1, 2, 3, 4, 5, 16] ?_
      refine W_cond (t := (decide (s0_.2.1 < (a0.Kids.length : Int)))) rfl (fun c9 => ?_) (fun c9 => ?_)
      · replace hs0_ := condT c9 hs0_
        refine zKd [1, 2, 3, 4, 5] [true, true, true, false] ?_
        obtain ⟨z1, hz1, hs0_⟩ := bC hs0_
        refine W_seqN (E' := ⟨53, [], [(1, .ref n 0), (2, .ref (n + 1) 0), (3, .row (n + 2) z1.2.length), (4, (vI z1.1)), (5, (vI s0_.2.1))]⟩) (O' := (Loc O n [some ⟨false, 29, 3, 1, (c_S_api_Tree a0)⟩, some ⟨false, 29, 3, 1, [(vI 0), nV, nV]⟩, some (oR 29 3 e_S_api_Tree z1.2), none, none, none])) (n0 := (n + 6)) ?_ ?_
        · refine W_block ?_
          refine W_seqK ?_
          obtain ⟨x4, hx4, ax4, bx4, cx4, hz1⟩ := bE (f := e_S_api_Tree) tab29 (fun _ => rfl) (by decide) hz1
          obtain ⟨y5, hy5, hz1⟩ := bC hz1
          refine zRof3 [] ax4 bx4 cx4 ?_
          refine (ok_r_centoref07_Norm hy5).then ?_
          refine zF3 ax4 bx4 cx4 ?_
          refine zDs [1, 2, 3, 4, 5, 6] [true, true, true, false, true] ?_
          obtain ⟨l7, pl7, ql7, el7, hz1⟩ := bA (k := 1) rfl hz1
          refine zRox3 [] pl7 ql7 el7 ?_
          refine W_fit ⟨53, [], [(1, .ref n 0), (2, .ref (n + 1) 0), (3, .row (n + 2) l7.length), (4, (vI s0_.1)), (5, (vI s0_.2.1)), (6, .ref (n + 4) 0)]⟩ (Loc O n [some ⟨false, 29, 3, 1, (c_S_api_Tree a0)⟩, some ⟨false, 29, 3, 1, [(vI 0), nV, nV]⟩, some (oR 29 3 e_S_api_Tree l7), none, some ⟨false, 29, 3, 1, (c_S_api_Tree y5)⟩, none]) (fit_loc hU rfl rfl ?_) ?_
          · exact zXe3 pl7 ql7 el7
          refine zQ [1, 2, 3, 4, 5, 31] ?_
          refine W_cond (t := (y5.Kind != 0)) rfl (fun c8 => ?_) (fun c8 => ?_)
          · replace hz1 := condT c8 hz1
            refine zR ?_
            exact zEn hz1
          · replace hz1 := condF c8 hz1
            refine zK ?_
            exact zEn hz1
        refine zR ?_
        exact zEn hs0_
      · replace hs0_ := condF c9 hs0_
        exact zEx hs0_
    try simp only [gthen, gblock, ↓reduceIte, Nat.reduceEqDiff]
    refine zDs [1, 2, 3, 4] [true, true, true, false] ?_
    refine zQ [1, 2, 3, 4, 36] ?_
    refine W_cond (t := (a0.Kind == 1)) rfl (fun c18 => ?_) (fun c18 => ?_)
    · replace h := condT c18 h
      refine W_fit ⟨53, [], [(1, .ref n 0), (2, .ref (n + 1) 0), (3, (sL e_S_api_Tree z10.2)), (4, (vI z10.1))]⟩ (Loc O n [some ⟨false, 29, 3, 1, (c_S_api_Tree a0)⟩, some ⟨false, 29, 3, 1, [(vI 0), nV, nV]⟩, none, none]) (fit_loc hU rfl rfl ?_) ?_
      · exact zSe
      refine W_seqK ?_
      obtain ⟨y14, hy14, h⟩ := bC h
      obtain ⟨l15, al15, bl15, cl15, gl15, h⟩ := bS (lo := none) (hi := (some (.i64, z10.1))) (f := e_S_api_Tree) rfl rfl tkind27 tab29 (fun _ => rfl) h
      refine W_drawF tab_ok (by kernel_rfl) [false, false, false, false, false, false, false, true] [] (by kernel_rfl) ?_
      refine zX4 al15 bl15 cl15 gl15 ?_
      refine PCall.of (ok_centoref07_Trim hy14) ?_
      refine zX4 al15 bl15 cl15 gl15 ?_
      refine zD [2] [false, true, false, false] ?_
      exact zRet [.agg [(vI 1), (sL (eI .u64) y14), (sL e_S_api_Tree l15)]]
    · replace h := condF c18 h
      refine zKd [1, 2, 3] [true, true, true, false] ?_
      refine zQ [1, 2, 3, 7] ?_
      refine W_seqK ?_
      obtain ⟨l17, pl17, ql17, el17, h⟩ := bA0 (k := a0.Words.length) rfl h
      refine zRox3 [] pl17 ql17 el17 ?_
      refine W_fit ⟨53, [], [(1, .ref n 0), (2, .ref (n + 1) 0), (3, .row (n + 2) z10.2.length), (7, .row (n + 4) l17.length)]⟩ (Loc O n [some ⟨false, 29, 3, 1, (c_S_api_Tree a0)⟩, some ⟨false, 29, 3, 1, [(vI 0), nV, nV]⟩, some (oR 29 3 e_S_api_Tree z10.2), none, some (oR 63 1 (eI .u64) l17)]) (fit_loc hU rfl rfl ?_) ?_
      · exact zXe3 pl17 ql17 el17
      refine W_seqK ?_
      refine zRd [2] [false, true, true, false, true] ?_
      exact zRet [.agg [(vI a0.Kind), .row (n + 4) l17.length, .row (n + 2) z10.2.length]]

theorem lv_centoref07_Norm_ok : ∀ k, (oT_r_centoref07_Norm (lv_centoref07_Norm k)) := fun k => by
  induction k with
  | zero => exact @fun a0 r O n h => (nomatch (show (none : Option _) = some _ from h))
  | succ k ih => exact @fun a0 r O n h => okb_centoref07_Norm (ih)  h

theorem ok_centoref07_Norm {a0 : S_api_Tree} {r : S_api_Tree} {O : Objs} {n : Nat} (h : m_centoref07_Norm a0 = some r) : GTo Try.prog 19 [.agg (c_S_api_Tree a0)] O n (.agg (c_S_api_Tree r)) O n := by
  obtain ⟨k, hk⟩ := lim_some h
  exact (lv_centoref07_Norm_ok k)  hk

theorem ok_centoref01_Room {a0 : Int} {a1 : Int} {r : Int} {O : Objs} {n : Nat} (h : m_centoref01_Room a0 a1 = some r) : GTo Try.prog 42 [(vI a0), (vI a1)] O n ((vI r)) O n := by
  unfold m_centoref01_Room at h
  refine zFn Try.call42 Try.func42 fun hU hN0 hN => ?_
  show W _ _ _ _ ⟨31, [], [(0, (vI a0)), (1, (vI a1))]⟩ (Loc O n []) _
  refine zQ [0, 1] ?_
  refine W_seqK ?_
  refine W_seqK ?_
  obtain ⟨y2, hy2, h⟩ := bC h
  refine zRo [none, none, none, none] ?_
  refine zG ?_
  refine zTs (ok_centoref01_Width hy2) ?_
  refine zG ?_
  refine zD [0, 1, 16] [] ?_
  refine W_cond (t := (cond (cond (decide (y2 < 1)) true (decide (a1 < 0))) true (decide (1099511627776 < a1)))) rfl (fun c14 => ?_) (fun c14 => ?_)
  · replace h := condT c14 h
    refine zQ [4] ?_
    exact zRet [(vI 0)]
  · replace h := condF c14 h
    refine zKd [0, 1] [] ?_
    refine W_seqK ?_
    obtain ⟨y5, hy5, h⟩ := bC h
    obtain ⟨pu6, h⟩ := bG h
    refine W_regionD tab_ok [] ?_
    simp only [push_cast, seval, ↓reduceIte, cast_lit, pu6, hN0, hN]
    refine (ok_centoref01_Width hy5).then ?_
    simp only [push_cast, seval, ↓reduceIte, cast_lit, pu6, hN0, hN]
    refine zDs [1, 5] [] ?_
    obtain ⟨pu8, h⟩ := bG h
    refine W_sq [1, 5, 23] (W_regionD tab_ok [] ?_)
    simp only [push_cast, seval, ↓reduceIte, cast_lit, pu8, hN0, hN]
    refine W_cond (t := (decide (0 < (Int.tmod a1 (IntKind.i64.wrap (Int.tdiv 64 y5)))))) rfl (fun c13 => ?_) (fun c13 => ?_)
    · replace h := condT c13 h
      obtain ⟨pu10, h⟩ := bG h
      refine W_sq [4] (W_regionD tab_ok [] ?_)
      simp only [push_cast, seval, ↓reduceIte, cast_lit, pu10, hN0, hN]
      exact zRet [(vI (IntKind.i64.wrap ((IntKind.i64.wrap (Int.tdiv a1 (IntKind.i64.wrap (Int.tdiv 64 y5)))) + 1)))]
    · replace h := condF c13 h
      refine zKd [1, 5] [] ?_
      obtain ⟨pu12, h⟩ := bG h
      refine W_sq [4] (W_regionD tab_ok [] ?_)
      simp only [push_cast, seval, ↓reduceIte, cast_lit, pu12, hN0, hN]
      exact zRet [(vI (IntKind.i64.wrap (Int.tdiv a1 (IntKind.i64.wrap (Int.tdiv 64 y5)))))]

theorem ok_centoref07_Frame {a0 : S_api_Tree} {r : (Int × Int)} {O : Objs} {n : Nat} (h : m_centoref07_Frame a0 = some r) : GTo Try.prog 43 [.agg (c_S_api_Tree a0)] O n (.tup [(vI r.1), (vI r.2)]) O n := by
  unfold m_centoref07_Frame at h
  refine zFn Try.call43 Try.func43 fun hU hN0 hN => ?_
  show W _ _ _ _ ⟨48, [], [(0, .agg (c_S_api_Tree a0))]⟩ (Loc O n []) _
  refine zQ [1] ?_
  refine zQ [1, 4, 5] ?_
  refine W_seqK ?_
  refine zQd [1, 4, 5, 6] [1, 4, 5, 6] [true] ?_
  obtain ⟨z18, hz18, h⟩ := bC h
  refine W_blockX (E' := ⟨48, [], [(4, (vI z18.1)), (5, (vI z18.2))]⟩) (O' := (Loc O n [none])) (n0 := (n + 1)) ?_ ?_
  · refine W_loopJ hz18 (fun s0_ => ⟨48, [], [(1, .ref n 0), (4, (vI s0_.1)), (5, (vI s0_.2.1)), (6, (vI s0_.2.2))]⟩) (fun s0_ => (Loc O n [some ⟨false, 29, 3, 1, (c_S_api_Tree a0)⟩])) (fun z18 => JX 0 n (⟨48, [], [(4, (vI z18.1)), (5, (vI z18.2))]⟩ : Env) (Loc O n [none]) (n + 1)) ?_
    intro s0_ x0_ hs0_
    unfold m_centoref07_Frame_L0 at hs0_
    try dsimp only
    refine W_seqK ?_
    refine zQ [1, 4, 5, 6, 11] ?_
    refine W_cond (t := (decide (s0_.2.2 < (a0.Kids.length : Int)))) rfl (fun c17 => ?_) (fun c17 => ?_)
    · replace hs0_ := condT c17 hs0_
      refine zKd [1, 4, 5, 6] [true] ?_
      obtain ⟨z1, hz1, hs0_⟩ := bC hs0_
      refine W_seqN (E' := ⟨48, [], [(1, .ref n 0), (4, (vI z1.1)), (5, (vI z1.2)), (6, (vI s0_.2.2))]⟩) (O' := (Loc O n [some ⟨false, 29, 3, 1, (c_S_api_Tree a0)⟩])) (n0 := (n + 1)) ?_ ?_
      · refine W_block ?_
        obtain ⟨z2, hz2, hz1⟩ := bC hz1
        refine W_seqN (E' := ⟨48, [], [(1, .ref n 0), (4, (vI z2)), (5, (vI s0_.2.1)), (6, (vI s0_.2.2))]⟩) (O' := (Loc O n [some ⟨false, 29, 3, 1, (c_S_api_Tree a0)⟩])) (n0 := (n + 1)) ?_ ?_
        · obtain ⟨x5, hx5, ax5, bx5, cx5, hz2⟩ := bE (f := e_S_api_Tree) tab29 (fun _ => rfl) (by decide) hz2
          have g6 := gpart_fld (f := e_S_api_Tree) (off := 1) (sz := 3) tab26 (fun _ => rfl) (by decide) (by decide) hx5
          refine W_sq [1, 4, 5, 6, 22] (W_regionD tab_ok [] ?_)
          refine zF4 ax5 bx5 cx5 g6 ?_
          refine W_cond (t := (decide (s0_.1 < (x5.Words.length : Int)))) rfl (fun c9 => ?_) (fun c9 => ?_)
          · replace hz2 := condT c9 hz2
            obtain ⟨x7, hx7, ax7, bx7, cx7, hz2⟩ := bE (f := e_S_api_Tree) tab29 (fun _ => rfl) (by decide) hz2
            have g8 := gpart_fld (f := e_S_api_Tree) (off := 1) (sz := 3) tab26 (fun _ => rfl) (by decide) (by decide) hx7
            refine zRof4 [] ax7 bx7 cx7 g8 ?_
            exact zEnf4 hz2 ax7 bx7 cx7 g8
          · replace hz2 := condF c9 hz2
            refine zK ?_
            exact zEn hz2
        obtain ⟨x12, hx12, ax12, bx12, cx12, hz1⟩ := bE (f := e_S_api_Tree) tab29 (fun _ => rfl) (by decide) hz1
        have g13 := gpart_fld (f := e_S_api_Tree) (off := 2) (sz := 3) tab27 (fun _ => rfl) (by decide) (by decide) hx12
        refine W_sq [1, 4, 5, 6, 38] (W_regionD tab_ok [] ?_)
        refine zF4 ax12 bx12 cx12 g13 ?_
        refine W_cond (t := (decide (s0_.2.1 < (x12.Kids.length : Int)))) rfl (fun c16 => ?_) (fun c16 => ?_)
        · replace hz1 := condT c16 hz1
          obtain ⟨x14, hx14, ax14, bx14, cx14, hz1⟩ := bE (f := e_S_api_Tree) tab29 (fun _ => rfl) (by decide) hz1
          have g15 := gpart_fld (f := e_S_api_Tree) (off := 2) (sz := 3) tab27 (fun _ => rfl) (by decide) (by decide) hx14
          refine zRof4 [] ax14 bx14 cx14 g15 ?_
          exact zEnf4 hz1 ax14 bx14 cx14 g15
        · replace hz1 := condF c16 hz1
          refine zK ?_
          exact zEn hz1
      refine zR ?_
      exact zEn hs0_
    · replace hs0_ := condF c17 hs0_
      exact zEx hs0_
  try simp only [gthen, gblock, ↓reduceIte, Nat.reduceEqDiff]
  refine zD [4, 5] [false] ?_
  refine zQ [2, 3] ?_
  exact zRet [(vI z18.1), (vI z18.2)]

def oT_r_centoref07_Size (r_centoref07_Size : (S_api_Tree → Option Int)) : Prop := ∀ {a0 : S_api_Tree} {r : Int} {O : Objs} {n : Nat}, r_centoref07_Size a0 = some r → GTo Try.prog 20 [.agg (c_S_api_Tree a0)] O n ((vI r)) O n
theorem okb_centoref07_Size {r_centoref07_Size : (S_api_Tree → Option Int)} (ok_r_centoref07_Size : oT_r_centoref07_Size r_centoref07_Size) {a0 : S_api_Tree} {r : Int} {O : Objs} {n : Nat} (h : b_centoref07_Size r_centoref07_Size a0 = some r) : GTo Try.prog 20 [.agg (c_S_api_Tree a0)] O n ((vI r)) O n := by
  unfold b_centoref07_Size at h
  refine zFn Try.call20 Try.func20 fun hU hN0 hN => ?_
  show W _ _ _ _ ⟨101, [], [(0, .agg (c_S_api_Tree a0))]⟩ (Loc O n []) _
  refine zQ [1] ?_
  refine zQ [1, 3] ?_
  obtain ⟨z1, hz1, h⟩ := bC h
  refine W_sum (J := (SumJ (fun z1 => JN n (⟨101, [], [(1, .ref n 0), (3, (vI z1))]⟩ : Env) (Loc O n [some ⟨false, 29, 3, 1, (c_S_api_Tree a0)⟩]) (n + 1)) (fun z1 => JR n (⟨101, [], [(2, (vI z1))]⟩ : Env) (Loc O n [none]) (n + 1)))) (z := z1) ?_ fun hw => ?_
  · refine zQ [1, 3, 10] ?_
    refine W_block ?_
    refine zQ [1, 3, 10, 11] ?_
    refine W_cond (t := (a0.Kind == 1)) rfl (fun c27 => ?_) (fun c27 => ?_)
    · replace hz1 := condT c27 hz1
      refine zR ?_
      exact zEn hz1
    · replace hz1 := condF c27 hz1
      refine zQ [1, 3, 10, 20] ?_
      refine W_cond (t := (a0.Kind == 8)) rfl (fun c26 => ?_) (fun c26 => ?_)
      · replace hz1 := condT c26 hz1
        refine zR ?_
        exact zEn hz1
      · replace hz1 := condF c26 hz1
        obtain ⟨z2, hz2, hz1⟩ := bC hz1
        refine W_seqN (E' := ⟨101, [], [(1, .ref n 0), (3, (vI 0)), (10, (vI a0.Kind)), (25, (vB z2))]⟩) (O' := (Loc O n [some ⟨false, 29, 3, 1, (c_S_api_Tree a0)⟩])) (n0 := (n + 1)) ?_ ?_
        · refine zQ [1, 3, 10, 25] ?_
          refine W_cond (t := (a0.Kind == 2)) rfl (fun c7 => ?_) (fun c7 => ?_)
          · replace hz2 := condT c7 hz2
            refine zK ?_
            exact zEn hz2
          · replace hz2 := condF c7 hz2
            refine zQ [1, 3, 10, 25] ?_
            refine W_cond (t := (a0.Kind == 3)) rfl (fun c6 => ?_) (fun c6 => ?_)
            · replace hz2 := condT c6 hz2
              refine zK ?_
              exact zEn hz2
            · replace hz2 := condF c6 hz2
              refine zQ [1, 3, 10, 25] ?_
              refine W_cond (t := (a0.Kind == 4)) rfl (fun c5 => ?_) (fun c5 => ?_)
              · replace hz2 := condT c5 hz2
                refine zK ?_
                exact zEn hz2
              · replace hz2 := condF c5 hz2
                refine zQ [1, 3, 10, 25] ?_
                refine W_cond (t := (a0.Kind == 5)) rfl (fun c4 => ?_) (fun c4 => ?_)
                · replace hz2 := condT c4 hz2
                  refine zK ?_
                  exact zEn hz2
                · replace hz2 := condF c4 hz2
                  refine zQ [1, 3, 10, 25] ?_
                  refine W_cond (t := (a0.Kind == 6)) rfl (fun c3 => ?_) (fun c3 => ?_)
                  · replace hz2 := condT c3 hz2
                    refine zK ?_
                    exact zEn hz2
                  · replace hz2 := condF c3 hz2
                    refine zR ?_
                    exact zEn hz2
        refine W_cond (t := z2) rfl (fun c25 => ?_) (fun c25 => ?_)
        · replace hz1 := condT c25 hz1
          refine W_seqK ?_
          obtain ⟨y9, hy9, hz1⟩ := bC hz1
          refine zCd (ok_centoref01_Room hy9) [2] [false] ?_
          refine zW ?_
          exact zEn hz1
        · replace hz1 := condF c25 hz1
          refine zQ [1, 3, 39] ?_
          refine W_cond (t := (a0.Kind == 9)) rfl (fun c24 => ?_) (fun c24 => ?_)
          · replace hz1 := condT c24 hz1
            refine W_seqK ?_
            obtain ⟨y11, hy11, hz1⟩ := bC hz1
            refine zCd (ok_centoref07_Frame hy11) [1, 4, 5] [true] ?_
            refine zQ [1, 3] ?_
            refine W_seqK ?_
            refine zQd [1, 3, 6] [1, 3, 6] [true] ?_
            obtain ⟨z23, hz23, hz1⟩ := bC hz1
            refine W_blockX (E' := ⟨101, [], [(3, (vI z23))]⟩) (O' := (Loc O n [none])) (n0 := (n + 1)) ?_ ?_
            · refine W_loopJ hz23 (fun s0_ => ⟨101, [], [(1, .ref n 0), (3, (vI s0_.1)), (6, (vI s0_.2))]⟩) (fun s0_ => (Loc O n [some ⟨false, 29, 3, 1, (c_S_api_Tree a0)⟩])) (fun z23 => JX 1 n (⟨101, [], [(3, (vI z23))]⟩ : Env) (Loc O n [none]) (n + 1)) ?_
              intro s0_ x0_ hs0_
              unfold b_centoref07_Size_L0 at hs0_
              try dsimp only
              refine W_seqK ?_
              refine zQ [1, 3, 6, 58] ?_
              refine W_cond (t := (decide (s0_.2 < (a0.Kids.length : Int)))) rfl (fun c22 => ?_) (fun c22 => ?_)
              · replace hs0_ := condT c22 hs0_
                refine zKd [1, 3, 6] [true] ?_
                refine W_seqK ?_
                refine W_block ?_
                refine zQd [1, 3, 6, 7] [1, 3, 6, 7] [true] ?_
                obtain ⟨z21, hz21, hs0_⟩ := bC hs0_
                refine W_blockX (E' := ⟨101, [], [(1, .ref n 0), (3, (vI z21)), (6, (vI s0_.2))]⟩) (O' := (Loc O n [some ⟨false, 29, 3, 1, (c_S_api_Tree a0)⟩])) (n0 := (n + 1)) ?_ ?_
                · refine W_loopJ hz21 (fun s1_ => ⟨101, [], [(1, .ref n 0), (3, (vI s1_.1)), (6, (vI s0_.2)), (7, (vI s1_.2))]⟩) (fun s1_ => (Loc O n [some ⟨false, 29, 3, 1, (c_S_api_Tree a0)⟩])) (fun z21 => JX 3 n (⟨101, [], [(1, .ref n 0), (3, (vI z21)), (6, (vI s0_.2))]⟩ : Env) (Loc O n [some ⟨false, 29, 3, 1, (c_S_api_Tree a0)⟩]) (n + 1)) ?_
                  intro s1_ x1_ hs1_
                  unfold b_centoref07_Size_L1 at hs1_
                  try dsimp only
                  refine W_seqK ?_
                  obtain ⟨x14, hx14, ax14, bx14, cx14, hs1_⟩ := bE (f := e_S_api_Tree) tab29 (fun _ => rfl) (by decide) hs1_
                  have g15 := gpart_fld (f := e_S_api_Tree) (off := 2) (sz := 3) tab27 (fun _ => rfl) (by decide) (by decide) hx14
                  refine W_sq [1, 3, 6, 7, 69] (W_regionD tab_ok [] ?_)
                  refine zF4 ax14 bx14 cx14 g15 ?_
                  refine W_cond (t := (decide (s1_.2 < (x14.Kids.length : Int)))) rfl (fun c20 => ?_) (fun c20 => ?_)
                  · replace hs1_ := condT c20 hs1_
                    refine zKd [1, 3, 6, 7] [true] ?_
                    refine W_seqK ?_
                    refine W_block ?_
                    obtain ⟨x16, hx16, ax16, bx16, cx16, hs1_⟩ := bE (f := e_S_api_Tree) tab29 (fun _ => rfl) (by decide) hs1_
                    have g17 := gpart_fld (f := e_S_api_Tree) (off := 2) (sz := 3) tab27 (fun _ => rfl) (by decide) (by decide) hx16
                    obtain ⟨x18, hx18, ax18, bx18, cx18, hs1_⟩ := bE (f := e_S_api_Tree) tab29 (fun _ => rfl) (by decide) hs1_
                    obtain ⟨y19, hy19, hs1_⟩ := bC hs1_
                    refine zRof7 [] ax16 bx16 cx16 g17 ax18 bx18 cx18 ?_
                    refine (ok_r_centoref07_Size hy19).then ?_
                    refine zF7 ax16 bx16 cx16 g17 ax18 bx18 cx18 ?_
                    refine zD [1, 3, 6, 7] [true] ?_
                    refine zR ?_
                    exact zEn hs1_
                  · replace hs1_ := condF c20 hs1_
                    exact zEx hs1_
                try simp only [gthen, gblock, ↓reduceIte, Nat.reduceEqDiff]
                refine zD [1, 3, 6] [true] ?_
                refine zR ?_
                exact zEn hs0_
              · replace hs0_ := condF c22 hs0_
                exact zEx hs0_
            try simp only [gthen, gblock, ↓reduceIte, Nat.reduceEqDiff]
            refine zD [3] [false] ?_
            refine zQ [2] ?_
            refine zW ?_
            exact zEn hz1
          · replace hz1 := condF c24 hz1
            refine zK ?_
            exact zEn hz1
  rcases z1 with z1 | z1
  · dsimp only [SumJ] at hw h
    refine W_seqN hw ?_
    refine W_seqK ?_
    refine zQd [1, 3, 8] [1, 3, 8] [true] ?_
    obtain ⟨z31, hz31, h⟩ := bC h
    refine W_blockX (E' := ⟨101, [], [(3, (vI z31))]⟩) (O' := (Loc O n [none])) (n0 := (n + 1)) ?_ ?_
    · refine W_loopJ hz31 (fun s2_ => ⟨101, [], [(1, .ref n 0), (3, (vI s2_.1)), (8, (vI s2_.2))]⟩) (fun s2_ => (Loc O n [some ⟨false, 29, 3, 1, (c_S_api_Tree a0)⟩])) (fun z31 => JX 5 n (⟨101, [], [(3, (vI z31))]⟩ : Env) (Loc O n [none]) (n + 1)) ?_
      intro s2_ x2_ hs2_
      unfold b_centoref07_Size_L2 at hs2_
      try dsimp only
      refine W_seqK ?_
      refine zQ [1, 3, 8, 89] ?_
      refine W_cond (t := (decide (s2_.2 < (a0.Kids.length : Int)))) rfl (fun c30 => ?_) (fun c30 => ?_)
      · replace hs2_ := condT c30 hs2_
        refine zKd [1, 3, 8] [true] ?_
        refine W_seqK ?_
        refine W_block ?_
        obtain ⟨x28, hx28, ax28, bx28, cx28, hs2_⟩ := bE (f := e_S_api_Tree) tab29 (fun _ => rfl) (by decide) hs2_
        obtain ⟨y29, hy29, hs2_⟩ := bC hs2_
        refine zRof3 [] ax28 bx28 cx28 ?_
        refine (ok_r_centoref07_Size hy29).then ?_
        refine zF3 ax28 bx28 cx28 ?_
        refine zD [1, 3, 8] [true] ?_
        refine zR ?_
        exact zEn hs2_
      · replace hs2_ := condF c30 hs2_
        exact zEx hs2_
    try simp only [gthen, gblock, ↓reduceIte, Nat.reduceEqDiff]
    refine zD [3] [false] ?_
    refine zQ [2] ?_
    exact zRet [(vI z31)]
  · dsimp only [SumJ] at hw h
    refine W_seqR hw ?_
    try simp only [gthen, gblock]
    exact zFin [(vI z1)]

theorem lv_centoref07_Size_ok : ∀ k, (oT_r_centoref07_Size (lv_centoref07_Size k)) := fun k => by
  induction k with
  | zero => exact @fun a0 r O n h => (nomatch (show (none : Option _) = some _ from h))
  | succ k ih => exact @fun a0 r O n h => okb_centoref07_Size (ih)  h

theorem ok_centoref07_Size {a0 : S_api_Tree} {r : Int} {O : Objs} {n : Nat} (h : m_centoref07_Size a0 = some r) : GTo Try.prog 20 [.agg (c_S_api_Tree a0)] O n ((vI r)) O n := by
  obtain ⟨k, hk⟩ := lim_some h
  exact (lv_centoref07_Size_ok k)  hk

theorem ok_centoref12_pointer {a0 : Int} {a1 : Int} {a2 : Int} {a3 : Int} {r : Int} {O : Objs} {n : Nat} (h : m_centoref12_pointer a0 a1 a2 a3 = some r) : GTo Try.prog 66 [(vI a0), (vI a1), (vI a2), .val (.int .u64 a3)] O n (.val (.int .u64 r)) O n := by
  unfold m_centoref12_pointer at h
  refine zFn Try.call66 Try.func66 fun hU hN0 hN => ?_
  show W _ _ _ _ ⟨26, [], [(0, (vI a0)), (1, (vI a1)), (2, (vI a2)), (3, .val (.int .u64 a3))]⟩ (Loc O n []) _
  refine zQ [0, 1, 2, 3] ?_
  refine zQ [2, 3, 9] ?_
  obtain ⟨z1, hz1, h⟩ := bC h
  refine W_seqN (E' := ⟨26, [], [(2, (vI a2)), (3, .val (.int .u64 a3)), (9, (vI z1))]⟩) (O' := (Loc O n [])) (n0 := n) ?_ ?_
  · refine zQ [2, 3, 9, 15] ?_
    refine W_cond (t := (decide ((IntKind.i64.wrap ((IntKind.i64.wrap (a1 - a0)) - 1)) < 0))) rfl (fun c2 => ?_) (fun c2 => ?_)
    · replace hz1 := condT c2 hz1
      refine zR ?_
      exact zEn hz1
    · replace hz1 := condF c2 hz1
      refine zK ?_
      exact zEn hz1
  refine zQ [8] ?_
  exact zRet [.val (.int .u64 (IntKind.u64.wrap ((IntKind.u64.wrap (IntKind.i64.wrap ((IntKind.i64.wrap (4 * z1)) + a2))) + (IntKind.u64.wrap (a3 * 4294967296)))))]

theorem ok_centoref12_add {a0 : (List Int)} {a1 : Int} {r : (List Int)} {O : Objs} {n : Nat} {t0 : Nat} (ht0 : t0 < n) (hot0 : O t0 = some (oR 63 1 (eI .u64) a0)) (h : m_centoref12_add a0 a1 = some r) : GTo Try.prog 67 [.row t0 a0.length, (vI a1)] O n (.row n r.length) (Loc (O.upd t0 none) n [some (oR 63 1 (eI .u64) r)]) (n + 1) := by
  unfold m_centoref12_add at h
  refine fn_of tab_ok Try.call67 Try.func67 rfl (Nat.le_of_ble_eq_true rfl) (by omega) fun hU => ?_
  have e0 := takeS_fit (ba := n) (E := ⟨15, [], [(0, .row t0 a0.length), (1, .val (.int .i64 a1))]⟩) (O := (Loc O n [])) (n := n) (j := t0) (len := a0.length) (q := ⟨true, 63, 1, a0.length, fl (eI .u64) a0⟩) 0 rfl (by rw [Loc_out _ ht0]; exact hot0) (by omega)
  simp only [Loc_updo _ _ ht0, Loc_push, Loc_push0, List.cons_append, List.nil_append, List.length_cons, List.length_nil, Nat.zero_add, Nat.reduceAdd, Nat.add_assoc] at e0
  refine W_fit2 e0 ?_
  have hU := (Und.drop hU t0)
  have hN0 : (O.upd t0 none) n = none := hU.fresh _ (Nat.le_refl _)
  have hN : ∀ k, (O.upd t0 none) (n + k) = none := fun k => hU.fresh _ (Nat.le_add_right _ _)
  show W _ _ _ _ ⟨15, [], [(0, .row n a0.length), (0, .row t0 a0.length), (1, (vI a1))]⟩ (Loc (O.upd t0 none) n [some (oR 63 1 (eI .u64) a0)]) _
  refine zQ [0, 1] ?_
  refine W_seqK ?_
  refine zQd [0, 1, 5] [0, 1, 5] [true] ?_
  obtain ⟨z3, hz3, h⟩ := bC h
  refine W_blockX (E' := ⟨15, [], [(0, .row n z3.length)]⟩) (O' := (Loc (O.upd t0 none) n [some (oR 63 1 (eI .u64) z3)])) (n0 := (n + 1)) ?_ ?_
  · refine W_loopJ hz3 (fun s0_ => ⟨15, [], [(0, .row n s0_.2.length), (1, (vI a1)), (5, (vI s0_.1))]⟩) (fun s0_ => (Loc (O.upd t0 none) n [some (oR 63 1 (eI .u64) s0_.2)])) (fun z3 => JX 0 n (⟨15, [], [(0, .row n z3.length)]⟩ : Env) (Loc (O.upd t0 none) n [some (oR 63 1 (eI .u64) z3)]) (n + 1)) ?_
    intro s0_ x0_ hs0_
    unfold m_centoref12_add_L0 at hs0_
    try dsimp only
    refine W_seqK ?_
    refine zQ [0, 1, 5, 8] ?_
    refine W_cond (t := (decide (s0_.1 < a1))) rfl (fun c2 => ?_) (fun c2 => ?_)
    · replace hs0_ := condT c2 hs0_
      refine zKd [0, 1, 5] [true] ?_
      refine W_seqK ?_
      refine W_block ?_
      obtain ⟨l1, pl1, ql1, el1, hs0_⟩ := bA (k := 1) rfl hs0_
      refine zRox3 [] pl1 ql1 el1 ?_
      refine W_fit ⟨15, [], [(0, .row n l1.length), (1, (vI a1)), (5, (vI s0_.1))]⟩ (Loc (O.upd t0 none) n [some (oR 63 1 (eI .u64) l1), none]) (fit_loc hU rfl rfl ?_) ?_
      · exact zXe3 pl1 ql1 el1
      refine zR ?_
      exact zEn hs0_
    · replace hs0_ := condF c2 hs0_
      exact zEx hs0_
  try simp only [gthen, gblock, ↓reduceIte, Nat.reduceEqDiff]
  refine zD [0] [true] ?_
  refine zQ [4] ?_
  refine zW ?_
  have h := Option.some.inj h; subst h
  refine fin_locW (k := 1) (L3 := [some (oR 63 1 (eI .u64) z3), none]) (E2 := (⟨15, [], [(4, .row n z3.length)]⟩ : Env)) (n3 := (n + 2)) (.inr rfl) hU rfl [.row n z3.length] ?_ ?_
  · refine Fit2.trans (E' := (⟨15, [], [(4, .row n z3.length)]⟩ : Env)) (O' := (Loc (O.upd t0 none) n [some (oR 63 1 (eI .u64) z3)])) (n' := (n + 1)) (Fit2.of (fit_loc hU rfl rfl ?_) (by omega)) ?_
    · exact zSe
    refine ren_fit (k := 1) (k' := 2) hU [0] [0, 0] rfl rfl rfl rfl ⟨rfl, rfl⟩ ?_
    exact zSe
  simp only [push_cast, seval, ↓reduceIte, cast_lit, Try.results67, hN0, hN]

theorem ok_centoref12_atoms {a0 : S_api_Tree} {r : (List Int)} {O : Objs} {n : Nat} (h : m_centoref12_atoms a0 = some r) : GTo Try.prog 69 [.agg (c_S_api_Tree a0)] O n ((sL (eI .u64) r)) O n := by
  unfold m_centoref12_atoms at h
  refine zFn Try.call69 Try.func69 fun hU hN0 hN => ?_
  show W _ _ _ _ ⟨24, [], [(0, .agg (c_S_api_Tree a0))]⟩ (Loc O n []) _
  refine zQ [1] ?_
  refine zQ [1, 3] ?_
  refine W_seqK ?_
  refine zQd [1, 3, 4] [1, 3, 4] [true] ?_
  refine W_fit2 (E' := (⟨24, [], [(1, .ref n 0), (3, .row (n + 1) ([] : List Int).length), (4, (vI 0))]⟩ : Env)) (O' := (Loc O n [some ⟨false, 29, 3, 1, (c_S_api_Tree a0)⟩, some (oR 63 1 (eI .u64) ([] : List Int)), none])) (n' := (n + 3)) ?_ ?_
  · refine Fit2.trans (E' := (⟨24, [], [(1, .ref n 0), (3, nV), (4, (vI 0))]⟩ : Env)) (O' := (Loc O n [some ⟨false, 29, 3, 1, (c_S_api_Tree a0)⟩])) (n' := (n + 1)) (Fit2.of (fit_loc hU rfl rfl ?_) (by omega)) ?_
    · exact zSe
    refine Fit2.trans (adopt_fit 3 63 1 rfl (by omega)) ?_
    simp only [Loc_push, Loc_push0, Loc_upd, Loc_upd0, List.set_cons_zero, List.set_cons_succ, List.cons_append, List.nil_append, List.length_cons, List.length_nil, Nat.zero_add, Nat.reduceAdd, Nat.reduceLT, Nat.add_assoc]
    refine Fit2.trans (E' := (⟨24, [], [(1, .ref n 0), (3, .row (n + 1) ([] : List Int).length), (4, (vI 0))]⟩ : Env)) (O' := (Loc O n [some ⟨false, 29, 3, 1, (c_S_api_Tree a0)⟩, some (oR 63 1 (eI .u64) ([] : List Int))])) (n' := (n + 2)) (Fit2.of (fit_loc hU rfl rfl ?_) (by omega)) ?_
    · exact zSe
    refine ren_fit (k := 2) (k' := 3) hU [0, 1] [0, 1, 0] rfl rfl rfl rfl ⟨rfl, rfl⟩ ?_
    exact zSe
  obtain ⟨z6, hz6, h⟩ := bC h
  refine W_blockX (E' := ⟨24, [], [(3, .row (n + 1) z6.length)]⟩) (O' := (Loc O n [none, some (oR 63 1 (eI .u64) z6), none])) (n0 := (n + 3)) ?_ ?_
  · refine W_loopJ hz6 (fun s0_ => ⟨24, [], [(1, .ref n 0), (3, .row (n + 1) s0_.2.length), (4, (vI s0_.1))]⟩) (fun s0_ => (Loc O n [some ⟨false, 29, 3, 1, (c_S_api_Tree a0)⟩, some (oR 63 1 (eI .u64) s0_.2), none])) (fun z6 => JX 0 n (⟨24, [], [(3, .row (n + 1) z6.length)]⟩ : Env) (Loc O n [none, some (oR 63 1 (eI .u64) z6), none]) (n + 3)) ?_
    intro s0_ x0_ hs0_
    unfold m_centoref12_atoms_L0 at hs0_
    try dsimp only
    refine W_seqK ?_
    refine zQ [1, 3, 4, 9] ?_
    refine W_cond (t := (decide (s0_.1 < (a0.Kids.length : Int)))) rfl (fun c5 => ?_) (fun c5 => ?_)
    · replace hs0_ := condT c5 hs0_
      refine zKd [1, 3, 4] [true, true, false] ?_
      refine W_seqK ?_
      refine W_block ?_
      obtain ⟨x1, hx1, ax1, bx1, cx1, hs0_⟩ := bE (f := e_S_api_Tree) tab29 (fun _ => rfl) (by decide) hs0_
      have g2 := gpart_fld (f := e_S_api_Tree) (off := 1) (sz := 3) tab26 (fun _ => rfl) (by decide) (by decide) hx1
      obtain ⟨x3, hx3, ax3, bx3, cx3, hs0_⟩ := bE (f := (eI .u64)) tab63 (fun _ => rfl) (by decide) hs0_
      obtain ⟨l4, pl4, ql4, el4, hs0_⟩ := bA (k := 1) rfl hs0_
      refine zRf10 ax1 bx1 cx1 g2 ax3 bx3 cx3 pl4 ql4 el4 ?_
      refine W_fit ⟨24, [], [(1, .ref n 0), (3, .row (n + 1) l4.length), (4, (vI s0_.1))]⟩ (Loc O n [some ⟨false, 29, 3, 1, (c_S_api_Tree a0)⟩, some (oR 63 1 (eI .u64) l4), none, none]) (fit_loc hU rfl rfl ?_) ?_
      · exact zFe10 ax1 bx1 cx1 g2 ax3 bx3 cx3 pl4 ql4 el4
      refine zR ?_
      exact zEn hs0_
    · replace hs0_ := condF c5 hs0_
      exact zEx hs0_
  try simp only [gthen, gblock, ↓reduceIte, Nat.reduceEqDiff]
  refine zD [3] [false, true, false] ?_
  refine zQ [2] ?_
  exact zRet [.row (n + 1) z6.length]

theorem ok_centoref01_Put {a0 : Int} {a1 : (List Int)} {r : ((List Int) × Bool)} {O : Objs} {n : Nat} (h : m_centoref01_Put a0 a1 = some r) : GTo Try.prog 68 [(vI a0), (sL (eI .u64) a1)] O n (.tup [(sL (eI .u64) r.1), (vB r.2)]) O n := by
  unfold m_centoref01_Put at h
  refine zFn Try.call68 Try.func68 fun hU hN0 hN => ?_
  show W _ _ _ _ ⟨62, [], [(0, (vI a0)), (1, (sL (eI .u64) a1))]⟩ (Loc O n []) _
  refine zQ [0, 1] ?_
  refine W_seqK ?_
  obtain ⟨y2, hy2, h⟩ := bC h
  refine zCd (ok_centoref01_Width hy2) [0, 1, 6] [] ?_
  refine W_seqK ?_
  refine zQ [0, 1, 6, 14] ?_
  refine W_cond (t := (decide (y2 < 0))) rfl (fun c21 => ?_) (fun c21 => ?_)
  · replace h := condT c21 h
    refine zQ [4, 5] ?_
    exact zRet [nV, (vB false)]
  · replace h := condF c21 h
    refine zKd [0, 1, 6] [] ?_
    refine W_seqK ?_
    obtain ⟨y5, hy5, h⟩ := bC h
    obtain ⟨l6, al6, bl6, cl6, el6, h⟩ := bM2 (c := 8) rfl h
    have nl6 : Int.toNat y5 = List.length l6 := by rw [el6, List.length_replicate]
    have fl6 : (List.replicate (List.length l6) [.val (.int .u64 0)]).flatten = fl (eI .u64) l6 := by rw [← nl6, el6]; exact (fl_replicate (f := (eI .u64)) _ _).symm
    clear el6
    refine W_regionD tab_ok [] ?_
    simp only [push_cast, seval, ↓reduceIte, cast_lit, al6, bl6, cl6, fl6, nl6, hN0, hN]
    refine (ok_centoref01_Room hy5).then ?_
    simp only [push_cast, seval, ↓reduceIte, cast_lit, al6, bl6, cl6, fl6, nl6, hN0, hN]
    refine W_fit ⟨62, [], [(0, (vI a0)), (1, (sL (eI .u64) a1)), (6, (vI y2)), (7, .row n l6.length)]⟩ (Loc O n [some (oR 63 1 (eI .u64) l6)]) (fit_loc hU rfl rfl ?_) ?_
    · simp only [push_cast, seval, ↓reduceIte, cast_lit, al6, bl6, cl6, fl6, nl6, hN0, hN]
    refine W_seqK ?_
    refine zQd [0, 1, 6, 7, 8] [0, 1, 6, 7, 8] [true] ?_
    obtain ⟨z20, hz20, h⟩ := bC h
    refine W_sumB (J := (SumJ (fun z20 => JR n (⟨62, [], [(4, nV), (5, (vB false))]⟩ : Env) (Loc O n [none]) (n + 1)) (fun z20 => JX 0 n (⟨62, [], [(7, .row n z20.length)]⟩ : Env) (Loc O n [some (oR 63 1 (eI .u64) z20)]) (n + 1)))) (z := z20) ?_ fun hw => ?_
    · refine W_loopJ hz20 (fun s0_ => ⟨62, [], [(0, (vI a0)), (1, (sL (eI .u64) a1)), (6, (vI y2)), (7, .row n s0_.2.length), (8, (vI s0_.1))]⟩) (fun s0_ => (Loc O n [some (oR 63 1 (eI .u64) s0_.2)])) (SumJ (fun z20 => JR n (⟨62, [], [(4, nV), (5, (vB false))]⟩ : Env) (Loc O n [none]) (n + 1)) (fun z20 => JX 0 n (⟨62, [], [(7, .row n z20.length)]⟩ : Env) (Loc O n [some (oR 63 1 (eI .u64) z20)]) (n + 1))) ?_
      intro s0_ x0_ hs0_
      unfold m_centoref01_Put_L0 at hs0_
      try dsimp only
      refine W_seqK ?_
      refine zQ [0, 1, 6, 7, 8, 23] ?_
      refine W_cond (t := (decide (s0_.1 < (a1.length : Int)))) rfl (fun c19 => ?_) (fun c19 => ?_)
      · replace hs0_ := condT c19 hs0_
        refine zKd [0, 1, 6, 7, 8] [true] ?_
        obtain ⟨z7, hz7, hs0_⟩ := bC hs0_
        refine W_sum (J := (SumJ (fun z7 => JN n (⟨62, [], [(0, (vI a0)), (1, (sL (eI .u64) a1)), (6, (vI y2)), (7, .row n z7.length), (8, (vI s0_.1))]⟩ : Env) (Loc O n [some (oR 63 1 (eI .u64) z7)]) (n + 1)) (fun z7 => JR n (⟨62, [], [(4, nV), (5, (vB false))]⟩ : Env) (Loc O n [none]) (n + 1)))) (z := z7) ?_ fun hw => ?_
        · refine W_block ?_
          obtain ⟨x9, hx9, ax9, bx9, cx9, hz7⟩ := bE (f := (eI .u64)) tab63 (fun _ => rfl) (by decide) hz7
          refine W_sq [0, 1, 6, 7, 8, 9] (W_regionD tab_ok [] ?_)
          refine zF3 ax9 bx9 cx9 ?_
          refine W_seqK ?_
          refine W_seqK ?_
          obtain ⟨y11, hy11, hz7⟩ := bC hz7
          refine zCd (ok_centoref01_Fits hy11) [0, 1, 6, 7, 8, 9, 33] [true] ?_
          refine W_cond (t := (!y11)) rfl (fun c18 => ?_) (fun c18 => ?_)
          · replace hz7 := condT c18 hz7
            refine zQ [4, 5] ?_
            refine zW ?_
            exact zEn hz7
          · replace hz7 := condF c18 hz7
            refine zKd [0, 1, 6, 7, 8, 9] [true] ?_
            refine W_seqK ?_
            refine zQd [0, 1, 6, 7, 8, 9, 10] [0, 1, 6, 7, 8, 9, 10] [true] ?_
            obtain ⟨z13, hz13, hz7⟩ := bC hz7
            refine W_blockX (E' := ⟨62, [], [(0, (vI a0)), (1, (sL (eI .u64) a1)), (6, (vI y2)), (7, .row n s0_.2.length), (8, (vI s0_.1)), (9, .val (.int .u64 z13))]⟩) (O' := (Loc O n [some (oR 63 1 (eI .u64) s0_.2)])) (n0 := (n + 1)) ?_ ?_
            · refine W_loopJ hz13 (fun s1_ => ⟨62, [], [(0, (vI a0)), (1, (sL (eI .u64) a1)), (6, (vI y2)), (7, .row n s0_.2.length), (8, (vI s0_.1)), (9, .val (.int .u64 s1_.1)), (10, (vI s1_.2))]⟩) (fun s1_ => (Loc O n [some (oR 63 1 (eI .u64) s0_.2)])) (fun z13 => JX 2 n (⟨62, [], [(0, (vI a0)), (1, (sL (eI .u64) a1)), (6, (vI y2)), (7, .row n s0_.2.length), (8, (vI s0_.1)), (9, .val (.int .u64 z13))]⟩ : Env) (Loc O n [some (oR 63 1 (eI .u64) s0_.2)]) (n + 1)) ?_
              intro s1_ x1_ hs1_
              unfold m_centoref01_Put_L1 at hs1_
              try dsimp only
              refine W_seqK ?_
              refine zQ [0, 1, 6, 7, 8, 9, 10, 39] ?_
              refine W_cond (t := (decide (s1_.2 < (Int.tmod (IntKind.i64.wrap (s0_.1 * y2)) 64)))) rfl (fun c12 => ?_) (fun c12 => ?_)
              · replace hs1_ := condT c12 hs1_
                refine zKd [0, 1, 6, 7, 8, 9, 10] [true] ?_
                refine W_seqK ?_
                refine W_block ?_
                refine zRd [0, 1, 6, 7, 8, 9, 10] [true] ?_
                refine zR ?_
                exact zEn hs1_
              · replace hs1_ := condF c12 hs1_
                exact zEx hs1_
            try simp only [gthen, gblock, ↓reduceIte, Nat.reduceEqDiff]
            refine zD [0, 1, 6, 7, 8, 9] [true] ?_
            refine zQ [0, 1, 6, 7, 8, 9, 45] ?_
            refine W_cond (t := (decide (0 < y2))) rfl (fun c17 => ?_) (fun c17 => ?_)
            · replace hz7 := condT c17 hz7
              obtain ⟨x14, hx14, ax14, bx14, cx14, hz7⟩ := bE (f := (eI .u64)) tab63 (fun _ => rfl) (by decide) hz7
              have gu16 : gplace (fl (eI .u64) s0_.2) [.val (.int .u64 (IntKind.u64.wrap (x14 + z13)))] (Int.toNat (IntKind.i64.wrap (Int.tdiv (IntKind.i64.wrap (s0_.1 * y2)) 64)) * 1) = some (fl (eI .u64) (setI s0_.2 (IntKind.i64.wrap (Int.tdiv (IntKind.i64.wrap (s0_.1 * y2)) 64)) (IntKind.u64.wrap (x14 + z13)))) := gplace_el (f := (eI .u64)) (ti := ⟨.bool, 1, 0, [], false⟩) (x := (IntKind.u64.wrap (x14 + z13))) (fun _ => rfl) (getI_nat hx14)
              refine zRof4 [] ax14 bx14 cx14 gu16 ?_
              exact zEnf4 hz7 ax14 bx14 cx14 gu16
            · replace hz7 := condF c17 hz7
              refine zK ?_
              exact zEn hz7
        rcases z7 with z7 | z7
        · dsimp only [SumJ] at hw hs0_
          refine W_seqN hw ?_
          refine zR ?_
          exact zEn hs0_
        · dsimp only [SumJ] at hw hs0_
          refine W_seqR hw ?_
          try simp only [gthen, gblock]
          exact zEy hs0_
      · replace hs0_ := condF c19 hs0_
        exact zEx hs0_
    rcases z20 with z20 | z20
    · dsimp only [SumJ] at hw h
      refine W_blockR hw ?_
      try simp only [gthen, gblock, ↓reduceIte, Nat.reduceEqDiff]
      exact zFin [nV, (vB false)]
    · dsimp only [SumJ] at hw h
      refine W_blockX hw ?_
      try simp only [gthen, gblock, ↓reduceIte, Nat.reduceEqDiff]
      refine zD [7] [true] ?_
      refine zQ [4, 5] ?_
      exact zRet [.row n z20.length, (vB true)]

def oT_r_centoref12_Lay (r_centoref12_Lay : ((List Int) → Int → S_api_Tree → Option (List Int))) : Prop := ∀ {a0 : (List Int)} {a1 : Int} {a2 : S_api_Tree} {r : (List Int)} {O : Objs} {n : Nat} {t0 : Nat}, t0 < n → O t0 = some (oR 63 1 (eI .u64) a0) → r_centoref12_Lay a0 a1 a2 = some r → GTo Try.prog 39 [.row t0 a0.length, (vI a1), .agg (c_S_api_Tree a2)] O n (.row n r.length) (Loc (O.upd t0 none) n [some (oR 63 1 (eI .u64) r)]) (n + 1)
theorem okb_centoref12_Lay {r_centoref12_Lay : ((List Int) → Int → S_api_Tree → Option (List Int))} (ok_r_centoref12_Lay : oT_r_centoref12_Lay r_centoref12_Lay) {a0 : (List Int)} {a1 : Int} {a2 : S_api_Tree} {r : (List Int)} {O : Objs} {n : Nat} {t0 : Nat} (ht0 : t0 < n) (hot0 : O t0 = some (oR 63 1 (eI .u64) a0)) (h : b_centoref12_Lay r_centoref12_Lay a0 a1 a2 = some r) : GTo Try.prog 39 [.row t0 a0.length, (vI a1), .agg (c_S_api_Tree a2)] O n (.row n r.length) (Loc (O.upd t0 none) n [some (oR 63 1 (eI .u64) r)]) (n + 1) := by
  unfold b_centoref12_Lay at h
  refine fn_of tab_ok Try.call39 Try.func39 rfl (Nat.le_of_ble_eq_true rfl) (by omega) fun hU => ?_
  have e0 := takeS_fit (ba := n) (E := ⟨252, [], [(0, .row t0 a0.length), (1, .val (.int .i64 a1)), (2, .agg [.val (.int .i64 a2.Kind), .sl a2.Words.length (fl (eI .u64) a2.Words), .sl a2.Kids.length (fl e_S_api_Tree a2.Kids)])]⟩) (O := (Loc O n [])) (n := n) (j := t0) (len := a0.length) (q := ⟨true, 63, 1, a0.length, fl (eI .u64) a0⟩) 0 rfl (by rw [Loc_out _ ht0]; exact hot0) (by omega)
  simp only [Loc_updo _ _ ht0, Loc_push, Loc_push0, List.cons_append, List.nil_append, List.length_cons, List.length_nil, Nat.zero_add, Nat.reduceAdd, Nat.add_assoc] at e0
  refine W_fit2 e0 ?_
  have hU := (Und.drop hU t0)
  have hN0 : (O.upd t0 none) n = none := hU.fresh _ (Nat.le_refl _)
  have hN : ∀ k, (O.upd t0 none) (n + k) = none := fun k => hU.fresh _ (Nat.le_add_right _ _)
  show W _ _ _ _ ⟨252, [], [(0, .row n a0.length), (0, .row t0 a0.length), (1, (vI a1)), (2, .agg (c_S_api_Tree a2))]⟩ (Loc (O.upd t0 none) n [some (oR 63 1 (eI .u64) a0)]) _
  refine zQ [0, 1, 5] ?_
  refine zQ [0, 1, 5, 7] ?_
  refine W_seqK ?_
  refine zQ [0, 1, 5, 7, 21] ?_
  refine W_block ?_
  refine zQ [0, 1, 5, 7, 21, 22] ?_
  refine W_cond (t := (a2.Kind == 0)) rfl (fun c77 => ?_) (fun c77 => ?_)
  · replace h := condT c77 h
    refine zQ [6] ?_
    refine zW ?_
    have h := Option.some.inj h; subst h
    refine fin_locW (k := 1) (L3 := [some (oR 63 1 (eI .u64) a0), none]) (E2 := (⟨252, [], [(6, .row n a0.length)]⟩ : Env)) (n3 := (n + 2)) (.inr rfl) hU rfl [.row n a0.length] ?_ ?_
    · refine Fit2.trans (E' := (⟨252, [], [(6, .row n a0.length)]⟩ : Env)) (O' := (Loc (O.upd t0 none) n [some (oR 63 1 (eI .u64) a0), none])) (n' := (n + 2)) (Fit2.of (fit_loc hU rfl rfl ?_) (by omega)) ?_
      · exact zSe
      refine ren_fit (k := 2) (k' := 2) hU [0, 1] [0, 0] rfl rfl rfl rfl ⟨rfl, rfl⟩ ?_
      exact zSe
    simp only [push_cast, seval, ↓reduceIte, cast_lit, Try.results39, hN0, hN]
  · replace h := condF c77 h
    refine zQ [0, 1, 5, 7, 21, 25] ?_
    refine W_cond (t := (a2.Kind == 1)) rfl (fun c76 => ?_) (fun c76 => ?_)
    · replace h := condT c76 h
      obtain ⟨z1, hz1, h⟩ := bC h
      refine W_seqN (E' := ⟨252, [], [(0, .row n a0.length), (1, (vI a1)), (5, .ref (n + 1) 0), (7, (vI z1))]⟩) (O' := (Loc (O.upd t0 none) n [some (oR 63 1 (eI .u64) a0), some ⟨false, 29, 3, 1, (c_S_api_Tree a2)⟩])) (n0 := (n + 2)) ?_ ?_
      · refine zQ [0, 1, 5, 7, 34] ?_
        refine W_cond (t := ((IntKind.i64.wrap ((a2.Words.length : Int) + (a2.Kids.length : Int))) == 0)) rfl (fun c2 => ?_) (fun c2 => ?_)
        · replace hz1 := condT c2 hz1
          refine zR ?_
          exact zEn hz1
        · replace hz1 := condF c2 hz1
          refine zK ?_
          exact zEn hz1
      refine W_seqK ?_
      obtain ⟨y6, hy6, h⟩ := bC h
      obtain ⟨x7, hx7, ax7, bx7, cx7, h⟩ := bE (f := (eI .u64)) tab63 (fun _ => rfl) (by decide) h
      have gu8 : gplace (fl (eI .u64) a0) [.val (.int .u64 y6)] (Int.toNat a1 * 1) = some (fl (eI .u64) (setI a0 a1 y6)) := gplace_el (f := (eI .u64)) (ti := ⟨.bool, 1, 0, [], false⟩) (x := y6) (fun _ => rfl) (getI_nat hx7)
      refine zRof4 [] ax7 bx7 cx7 gu8 ?_
      refine (ok_centoref12_pointer hy6).then ?_
      refine zF4 ax7 bx7 cx7 gu8 ?_
      refine zDs [0, 5, 7] [true, true] ?_
      obtain ⟨l10, pl10, ql10, el10, h⟩ := bA (k := a2.Words.length) rfl h
      simp only [setI_len, cpyAt_len] at pl10 ql10
      refine zRox3 [] pl10 ql10 el10 ?_
      refine W_fit ⟨252, [], [(0, .row n l10.length), (5, .ref (n + 1) 0), (7, (vI z1))]⟩ (Loc (O.upd t0 none) n [some (oR 63 1 (eI .u64) l10), some ⟨false, 29, 3, 1, (c_S_api_Tree a2)⟩]) (fit_loc hU rfl rfl ?_) ?_
      · exact zXe3 pl10 ql10 el10
      refine W_seqK ?_
      obtain ⟨y12, hy12, h⟩ := bC h
      refine zR ?_
      refine (ok_centoref12_add (t0 := n) (by omega) (by simp only [push_cast, seval, ↓reduceIte, cast_lit, fl_nil, hN0, hN] <;> rfl) hy12).then ?_
      refine zS ?_
      refine zDs [0, 5, 7] [false, true, true] ?_
      refine zQd [0, 5, 7, 8] [0, 5, 7, 8] [false, true, true] ?_
      refine W_fit2 (E' := (⟨252, [], [(0, .row (n + 3) y12.length), (5, .ref (n + 1) 0), (7, (vI z1)), (8, (vI 0))]⟩ : Env)) (O' := (Loc (O.upd t0 none) n [none, some ⟨false, 29, 3, 1, (c_S_api_Tree a2)⟩, none, some (oR 63 1 (eI .u64) y12), none])) (n' := (n + 5)) ?_ ?_
      · refine Fit2.trans (E' := (⟨252, [], [(0, .row (n + 2) y12.length), (5, .ref (n + 1) 0), (7, (vI z1)), (8, (vI 0))]⟩ : Env)) (O' := (Loc (O.upd t0 none) n [none, some ⟨false, 29, 3, 1, (c_S_api_Tree a2)⟩, some (oR 63 1 (eI .u64) y12)])) (n' := (n + 3)) (Fit2.of (fit_loc hU rfl rfl ?_) (by omega)) ?_
        · exact zSe
        refine ren_fit (k := 3) (k' := 5) hU [4, 1, 3] [0, 1, 0, 2, 0] rfl rfl rfl rfl ⟨rfl, rfl⟩ ?_
        exact zSe
      obtain ⟨z16, hz16, h⟩ := bC h
      refine W_blockX (E' := ⟨252, [], [(0, .row (n + 3) z16.length)]⟩) (O' := (Loc (O.upd t0 none) n [none, none, none, some (oR 63 1 (eI .u64) z16), none])) (n0 := (n + 5)) ?_ ?_
      · refine W_loopJ hz16 (fun s0_ => ⟨252, [], [(0, .row (n + 3) s0_.2.length), (5, .ref (n + 1) 0), (7, (vI z1)), (8, (vI s0_.1))]⟩) (fun s0_ => (Loc (O.upd t0 none) n [none, some ⟨false, 29, 3, 1, (c_S_api_Tree a2)⟩, none, some (oR 63 1 (eI .u64) s0_.2), none])) (fun z16 => JX 1 n (⟨252, [], [(0, .row (n + 3) z16.length)]⟩ : Env) (Loc (O.upd t0 none) n [none, none, none, some (oR 63 1 (eI .u64) z16), none]) (n + 5)) ?_
        intro s0_ x0_ hs0_
        unfold b_centoref12_Lay_L0 at hs0_
        try dsimp only
        refine W_seqK ?_
        refine zQ [0, 5, 7, 8, 65] ?_
        refine W_cond (t := (decide (s0_.1 < (a2.Kids.length : Int)))) rfl (fun c15 => ?_) (fun c15 => ?_)
        · replace hs0_ := condT c15 hs0_
          refine zKd [0, 5, 7, 8] [false, true, false, true, false] ?_
          refine W_seqK ?_
          refine W_block ?_
          obtain ⟨x13, hx13, ax13, bx13, cx13, hs0_⟩ := bE (f := e_S_api_Tree) tab29 (fun _ => rfl) (by decide) hs0_
          obtain ⟨y14, hy14, hs0_⟩ := bC hs0_
          refine W_drawF tab_ok (by kernel_rfl) [false, false, false, false, false, false, false, false, false, false, false, false, false, true, false] [] (by kernel_rfl) ?_
          refine zF3 ax13 bx13 cx13 ?_
          refine (ok_r_centoref12_Lay (t0 := (n + 3)) (by omega) (by simp only [push_cast, Nat.reduceAdd, Nat.reduceSub, Nat.reduceMul, Nat.reduceLeDiff, Nat.reduceLT, Nat.reduceEqDiff, ↓reduceIte, reduceCtorEq, Int.reduceBEq, Int.reduceBNe, Nat.reduceBEq, Int.reduceLE, Int.reduceLT, Int.reduceEq, Int.reduceNe, Int.reduceNeg, Nat.reduceDiv, Nat.reduceMod, Nat.reducePow, cast_lit, fl_nil, ax13, bx13, cx13, hN0, hN] <;> rfl) hy14).then ?_
          refine zF3 ax13 bx13 cx13 ?_
          refine zD [0, 5, 7, 8] [false, true, false, false, false, true] ?_
          refine zR ?_
          have hs0_ := Option.some.inj hs0_; subst hs0_
          refine And.intro rfl ?_
          refine Fit2.trans (E' := (⟨252, [], [(0, .row (n + 5) y14.length), (5, .ref (n + 1) 0), (7, (vI z1)), (8, (vI (IntKind.i64.wrap (s0_.1 + 1))))]⟩ : Env)) (O' := (Loc (O.upd t0 none) n [none, some ⟨false, 29, 3, 1, (c_S_api_Tree a2)⟩, none, none, none, some (oR 63 1 (eI .u64) y14)])) (n' := (n + 6)) (Fit2.of (fit_loc hU rfl rfl ?_) (by omega)) ?_
          · exact zSe
          refine ren_fit (k := 6) (k' := 5) hU [4, 1, 4, 4, 4, 3] [0, 1, 0, 5, 0] rfl rfl rfl rfl ⟨rfl, rfl⟩ ?_
          exact zSe
        · replace hs0_ := condF c15 hs0_
          exact zEx hs0_
      try simp only [gthen, gblock, ↓reduceIte, Nat.reduceEqDiff]
      refine zD [0] [false, false, false, true, false] ?_
      refine zQ [6] ?_
      refine zW ?_
      have h := Option.some.inj h; subst h
      refine fin_locW (k := 1) (L3 := [some (oR 63 1 (eI .u64) z16), none]) (E2 := (⟨252, [], [(6, .row n z16.length)]⟩ : Env)) (n3 := (n + 2)) (.inr rfl) hU rfl [.row n z16.length] ?_ ?_
      · refine Fit2.trans (E' := (⟨252, [], [(6, .row (n + 3) z16.length)]⟩ : Env)) (O' := (Loc (O.upd t0 none) n [none, none, none, some (oR 63 1 (eI .u64) z16), none])) (n' := (n + 5)) (Fit2.of (fit_loc hU rfl rfl ?_) (by omega)) ?_
        · exact zSe
        refine ren_fit (k := 5) (k' := 2) hU [1, 1, 1, 0, 1] [3, 0] rfl rfl rfl rfl ⟨rfl, rfl⟩ ?_
        exact zSe
      simp only [push_cast, seval, ↓reduceIte, cast_lit, Try.results39, hN0, hN]
    · replace h := condF c76 h
      refine zQ [0, 1, 5, 7, 21, 83] ?_
      refine W_cond (t := (a2.Kind == 8)) rfl (fun c75 => ?_) (fun c75 => ?_)
      · replace h := condT c75 h
        refine W_seqK ?_
        obtain ⟨y20, hy20, h⟩ := bC h
        obtain ⟨x21, hx21, ax21, bx21, cx21, h⟩ := bE (f := (eI .u64)) tab63 (fun _ => rfl) (by decide) h
        have gu22 : gplace (fl (eI .u64) a0) [.val (.int .u64 y20)] (Int.toNat a1 * 1) = some (fl (eI .u64) (setI a0 a1 y20)) := gplace_el (f := (eI .u64)) (ti := ⟨.bool, 1, 0, [], false⟩) (x := y20) (fun _ => rfl) (getI_nat hx21)
        refine zRof4 [] ax21 bx21 cx21 gu22 ?_
        refine (ok_centoref12_pointer hy20).then ?_
        refine zF4 ax21 bx21 cx21 gu22 ?_
        refine zDs [0, 5, 7] [true, true] ?_
        obtain ⟨y24, hy24, h⟩ := bC h
        refine zR ?_
        refine GCalls.argsW ?_ ((ok_centoref12_add (t0 := n) (by omega) (by simp only [push_cast, seval, ↓reduceIte, cast_lit, fl_nil, hN0, hN] <;> rfl) hy24).then ?_)
        · exact zSe
        refine zS ?_
        refine zDs [0, 5, 7] [false, true, true] ?_
        refine zQd [0, 5, 7, 9] [0, 5, 7, 9] [false, true, true] ?_
        refine W_fit2 (E' := (⟨252, [], [(0, .row (n + 3) y24.length), (5, .ref (n + 1) 0), (7, (vI (a0.length : Int))), (9, (vI 0))]⟩ : Env)) (O' := (Loc (O.upd t0 none) n [none, some ⟨false, 29, 3, 1, (c_S_api_Tree a2)⟩, none, some (oR 63 1 (eI .u64) y24), none])) (n' := (n + 5)) ?_ ?_
        · refine Fit2.trans (E' := (⟨252, [], [(0, .row (n + 2) y24.length), (5, .ref (n + 1) 0), (7, (vI (a0.length : Int))), (9, (vI 0))]⟩ : Env)) (O' := (Loc (O.upd t0 none) n [none, some ⟨false, 29, 3, 1, (c_S_api_Tree a2)⟩, some (oR 63 1 (eI .u64) y24)])) (n' := (n + 3)) (Fit2.of (fit_loc hU rfl rfl ?_) (by omega)) ?_
          · exact zSe
          refine ren_fit (k := 3) (k' := 5) hU [4, 1, 3] [0, 1, 0, 2, 0] rfl rfl rfl rfl ⟨rfl, rfl⟩ ?_
          exact zSe
        obtain ⟨z28, hz28, h⟩ := bC h
        refine W_blockX (E' := ⟨252, [], [(0, .row (n + 3) z28.length)]⟩) (O' := (Loc (O.upd t0 none) n [none, none, none, some (oR 63 1 (eI .u64) z28), none])) (n0 := (n + 5)) ?_ ?_
        · refine W_loopJ hz28 (fun s1_ => ⟨252, [], [(0, .row (n + 3) s1_.2.length), (5, .ref (n + 1) 0), (7, (vI (a0.length : Int))), (9, (vI s1_.1))]⟩) (fun s1_ => (Loc (O.upd t0 none) n [none, some ⟨false, 29, 3, 1, (c_S_api_Tree a2)⟩, none, some (oR 63 1 (eI .u64) s1_.2), none])) (fun z28 => JX 3 n (⟨252, [], [(0, .row (n + 3) z28.length)]⟩ : Env) (Loc (O.upd t0 none) n [none, none, none, some (oR 63 1 (eI .u64) z28), none]) (n + 5)) ?_
          intro s1_ x1_ hs1_
          unfold b_centoref12_Lay_L1 at hs1_
          try dsimp only
          refine W_seqK ?_
          refine zQ [0, 5, 7, 9, 106] ?_
          refine W_cond (t := (decide (s1_.1 < (a2.Kids.length : Int)))) rfl (fun c27 => ?_) (fun c27 => ?_)
          · replace hs1_ := condT c27 hs1_
            refine zKd [0, 5, 7, 9] [false, true, false, true, false] ?_
            refine W_seqK ?_
            refine W_block ?_
            obtain ⟨x25, hx25, ax25, bx25, cx25, hs1_⟩ := bE (f := e_S_api_Tree) tab29 (fun _ => rfl) (by decide) hs1_
            obtain ⟨y26, hy26, hs1_⟩ := bC hs1_
            refine zRof3 [] ax25 bx25 cx25 ?_
            refine (ok_r_centoref12_Lay (t0 := (n + 3)) (by omega) (by simp only [push_cast, Nat.reduceAdd, Nat.reduceSub, Nat.reduceMul, Nat.reduceLeDiff, Nat.reduceLT, Nat.reduceEqDiff, ↓reduceIte, reduceCtorEq, Int.reduceBEq, Int.reduceBNe, Nat.reduceBEq, Int.reduceLE, Int.reduceLT, Int.reduceEq, Int.reduceNe, Int.reduceNeg, Nat.reduceDiv, Nat.reduceMod, Nat.reducePow, cast_lit, fl_nil, ax25, bx25, cx25, hN0, hN] <;> rfl) hy26).then ?_
            refine zF3 ax25 bx25 cx25 ?_
            refine zD [0, 5, 7, 9] [false, true, false, false, false, true] ?_
            refine zR ?_
            have hs1_ := Option.some.inj hs1_; subst hs1_
            refine And.intro rfl ?_
            refine Fit2.trans (E' := (⟨252, [], [(0, .row (n + 5) y26.length), (5, .ref (n + 1) 0), (7, (vI (a0.length : Int))), (9, (vI (IntKind.i64.wrap (s1_.1 + 1))))]⟩ : Env)) (O' := (Loc (O.upd t0 none) n [none, some ⟨false, 29, 3, 1, (c_S_api_Tree a2)⟩, none, none, none, some (oR 63 1 (eI .u64) y26)])) (n' := (n + 6)) (Fit2.of (fit_loc hU rfl rfl ?_) (by omega)) ?_
            · exact zSe
            refine ren_fit (k := 6) (k' := 5) hU [4, 1, 4, 4, 4, 3] [0, 1, 0, 5, 0] rfl rfl rfl rfl ⟨rfl, rfl⟩ ?_
            exact zSe
          · replace hs1_ := condF c27 hs1_
            exact zEx hs1_
        try simp only [gthen, gblock, ↓reduceIte, Nat.reduceEqDiff]
        refine zD [0] [false, false, false, true, false] ?_
        refine zQ [6] ?_
        refine zW ?_
        have h := Option.some.inj h; subst h
        refine fin_locW (k := 1) (L3 := [some (oR 63 1 (eI .u64) z28), none]) (E2 := (⟨252, [], [(6, .row n z28.length)]⟩ : Env)) (n3 := (n + 2)) (.inr rfl) hU rfl [.row n z28.length] ?_ ?_
        · refine Fit2.trans (E' := (⟨252, [], [(6, .row (n + 3) z28.length)]⟩ : Env)) (O' := (Loc (O.upd t0 none) n [none, none, none, some (oR 63 1 (eI .u64) z28), none])) (n' := (n + 5)) (Fit2.of (fit_loc hU rfl rfl ?_) (by omega)) ?_
          · exact zSe
          refine ren_fit (k := 5) (k' := 2) hU [1, 1, 1, 0, 1] [3, 0] rfl rfl rfl rfl ⟨rfl, rfl⟩ ?_
          exact zSe
        simp only [push_cast, seval, ↓reduceIte, cast_lit, Try.results39, hN0, hN]
      · replace h := condF c75 h
        refine zQ [0, 1, 5, 7, 120] ?_
        refine W_cond (t := (a2.Kind == 9)) rfl (fun c74 => ?_) (fun c74 => ?_)
        · replace h := condT c74 h
          refine W_seqK ?_
          obtain ⟨y30, hy30, h⟩ := bC h
          refine zCd (ok_centoref07_Frame hy30) [0, 1, 5, 7, 10, 11] [true, true] ?_
          refine zQ [0, 1, 5, 7, 10, 11, 12] ?_
          refine W_seqK ?_
          obtain ⟨y34, hy34, h⟩ := bC h
          obtain ⟨x35, hx35, ax35, bx35, cx35, h⟩ := bE (f := (eI .u64)) tab63 (fun _ => rfl) (by decide) h
          have gu36 : gplace (fl (eI .u64) a0) [.val (.int .u64 y34)] (Int.toNat a1 * 1) = some (fl (eI .u64) (setI a0 a1 y34)) := gplace_el (f := (eI .u64)) (ti := ⟨.bool, 1, 0, [], false⟩) (x := y34) (fun _ => rfl) (getI_nat hx35)
          refine zRof4 [] ax35 bx35 cx35 gu36 ?_
          refine (ok_centoref12_pointer hy34).then ?_
          refine zF4 ax35 bx35 cx35 gu36 ?_
          refine zDs [0, 5, 7, 10, 11, 12] [true, true] ?_
          obtain ⟨l38, pl38, ql38, el38, h⟩ := bA (k := 1) rfl h
          simp only [setI_len, cpyAt_len] at pl38 ql38
          refine zRox3 [] pl38 ql38 el38 ?_
          refine W_fit ⟨252, [], [(0, .row n l38.length), (5, .ref (n + 1) 0), (7, (vI (a0.length : Int))), (10, (vI y30.1)), (11, (vI y30.2)), (12, (vI (a2.Kids.length : Int)))]⟩ (Loc (O.upd t0 none) n [some (oR 63 1 (eI .u64) l38), some ⟨false, 29, 3, 1, (c_S_api_Tree a2)⟩, none]) (fit_loc hU rfl rfl ?_) ?_
          · exact zXe3 pl38 ql38 el38
          refine W_seqK ?_
          refine zQd [0, 5, 7, 10, 11, 12, 13] [0, 5, 7, 10, 11, 12, 13] [true, true, false] ?_
          refine W_fit2 (E' := (⟨252, [], [(0, .row (n + 3) l38.length), (5, .ref (n + 1) 0), (7, (vI (a0.length : Int))), (10, (vI y30.1)), (11, (vI y30.2)), (12, (vI (a2.Kids.length : Int))), (13, (vI 0))]⟩ : Env)) (O' := (Loc (O.upd t0 none) n [none, some ⟨false, 29, 3, 1, (c_S_api_Tree a2)⟩, none, some (oR 63 1 (eI .u64) l38), none])) (n' := (n + 5)) ?_ ?_
          · refine Fit2.trans (E' := (⟨252, [], [(0, .row n l38.length), (5, .ref (n + 1) 0), (7, (vI (a0.length : Int))), (10, (vI y30.1)), (11, (vI y30.2)), (12, (vI (a2.Kids.length : Int))), (13, (vI 0))]⟩ : Env)) (O' := (Loc (O.upd t0 none) n [some (oR 63 1 (eI .u64) l38), some ⟨false, 29, 3, 1, (c_S_api_Tree a2)⟩, none])) (n' := (n + 3)) (Fit2.of (fit_loc hU rfl rfl ?_) (by omega)) ?_
            · exact zSe
            refine ren_fit (k := 3) (k' := 5) hU [3, 1, 4] [0, 1, 0, 0, 0] rfl rfl rfl rfl ⟨rfl, rfl⟩ ?_
            exact zSe
          obtain ⟨z49, hz49, h⟩ := bC h
          refine W_blockX (E' := ⟨252, [], [(0, .row (n + 3) z49.length), (5, .ref (n + 1) 0), (7, (vI (a0.length : Int))), (10, (vI y30.1)), (11, (vI y30.2)), (12, (vI (a2.Kids.length : Int)))]⟩) (O' := (Loc (O.upd t0 none) n [none, some ⟨false, 29, 3, 1, (c_S_api_Tree a2)⟩, none, some (oR 63 1 (eI .u64) z49), none])) (n0 := (n + 5)) ?_ ?_
          · refine W_loopJ hz49 (fun s2_ => ⟨252, [], [(0, .row (n + 3) s2_.2.length), (5, .ref (n + 1) 0), (7, (vI (a0.length : Int))), (10, (vI y30.1)), (11, (vI y30.2)), (12, (vI (a2.Kids.length : Int))), (13, (vI s2_.1))]⟩) (fun s2_ => (Loc (O.upd t0 none) n [none, some ⟨false, 29, 3, 1, (c_S_api_Tree a2)⟩, none, some (oR 63 1 (eI .u64) s2_.2), none])) (fun z49 => JX 5 n (⟨252, [], [(0, .row (n + 3) z49.length), (5, .ref (n + 1) 0), (7, (vI (a0.length : Int))), (10, (vI y30.1)), (11, (vI y30.2)), (12, (vI (a2.Kids.length : Int)))]⟩ : Env) (Loc (O.upd t0 none) n [none, some ⟨false, 29, 3, 1, (c_S_api_Tree a2)⟩, none, some (oR 63 1 (eI .u64) z49), none]) (n + 5)) ?_
            intro s2_ x2_ hs2_
            unfold b_centoref12_Lay_L2 at hs2_
            try dsimp only
            refine W_seqK ?_
            refine zQ [0, 5, 7, 10, 11, 12, 13, 160] ?_
            refine W_cond (t := (decide (s2_.1 < (a2.Kids.length : Int)))) rfl (fun c48 => ?_) (fun c48 => ?_)
            · replace hs2_ := condT c48 hs2_
              refine zKd [0, 5, 7, 10, 11, 12, 13] [false, true, false, true, false] ?_
              refine W_seqK ?_
              refine W_block ?_
              refine W_seqK ?_
              obtain ⟨x42, hx42, ax42, bx42, cx42, hs2_⟩ := bE (f := e_S_api_Tree) tab29 (fun _ => rfl) (by decide) hs2_
              have g43 := gpart_fld (f := e_S_api_Tree) (off := 1) (sz := 3) tab26 (fun _ => rfl) (by decide) (by decide) hx42
              obtain ⟨l44, pl44, ql44, el44, hs2_⟩ := bA (k := x42.Words.length) rfl hs2_
              refine zRof7 [] ax42 bx42 cx42 g43 pl44 ql44 el44 ?_
              refine W_fit ⟨252, [], [(0, .row (n + 3) l44.length), (5, .ref (n + 1) 0), (7, (vI (a0.length : Int))), (10, (vI y30.1)), (11, (vI y30.2)), (12, (vI (a2.Kids.length : Int))), (13, (vI s2_.1))]⟩ (Loc (O.upd t0 none) n [none, some ⟨false, 29, 3, 1, (c_S_api_Tree a2)⟩, none, some (oR 63 1 (eI .u64) l44), none]) (fit_loc hU rfl rfl ?_) ?_
              · exact zFe7 ax42 bx42 cx42 g43 pl44 ql44 el44
              obtain ⟨x45, hx45, ax45, bx45, cx45, hs2_⟩ := bE (f := e_S_api_Tree) tab29 (fun _ => rfl) (by decide) hs2_
              have g46 := gpart_fld (f := e_S_api_Tree) (off := 1) (sz := 3) tab26 (fun _ => rfl) (by decide) (by decide) hx45
              obtain ⟨y47, hy47, hs2_⟩ := bC hs2_
              refine zRof4 [] ax45 bx45 cx45 g46 ?_
              refine (ok_centoref12_add (t0 := (n + 3)) (by omega) (by simp only [push_cast, Nat.reduceAdd, Nat.reduceSub, Nat.reduceMul, Nat.reduceLeDiff, Nat.reduceLT, Nat.reduceEqDiff, ↓reduceIte, reduceCtorEq, Int.reduceBEq, Int.reduceBNe, Nat.reduceBEq, Int.reduceLE, Int.reduceLT, Int.reduceEq, Int.reduceNe, Int.reduceNeg, Nat.reduceDiv, Nat.reduceMod, Nat.reducePow, cast_lit, fl_nil, ax45, bx45, cx45, g46, hN0, hN] <;> rfl) hy47).then ?_
              refine zF4 ax45 bx45 cx45 g46 ?_
              refine zD [0, 5, 7, 10, 11, 12, 13] [false, true, false, false, false, true] ?_
              refine zR ?_
              have hs2_ := Option.some.inj hs2_; subst hs2_
              refine And.intro rfl ?_
              refine Fit2.trans (E' := (⟨252, [], [(0, .row (n + 5) y47.length), (5, .ref (n + 1) 0), (7, (vI (a0.length : Int))), (10, (vI y30.1)), (11, (vI y30.2)), (12, (vI (a2.Kids.length : Int))), (13, (vI (IntKind.i64.wrap (s2_.1 + 1))))]⟩ : Env)) (O' := (Loc (O.upd t0 none) n [none, some ⟨false, 29, 3, 1, (c_S_api_Tree a2)⟩, none, none, none, some (oR 63 1 (eI .u64) y47)])) (n' := (n + 6)) (Fit2.of (fit_loc hU rfl rfl ?_) (by omega)) ?_
              · exact zSe
              refine ren_fit (k := 6) (k' := 5) hU [4, 1, 4, 4, 4, 3] [0, 1, 0, 5, 0] rfl rfl rfl rfl ⟨rfl, rfl⟩ ?_
              exact zSe
            · replace hs2_ := condF c48 hs2_
              exact zEx hs2_
          try simp only [gthen, gblock, ↓reduceIte, Nat.reduceEqDiff]
          refine zDs [0, 5, 7, 10, 11, 12] [false, true, false, true, false] ?_
          refine zQd [0, 5, 7, 10, 11, 12, 14] [0, 5, 7, 10, 11, 12, 14] [false, true, false, true, false] ?_
          refine W_fit2 (E' := (⟨252, [], [(0, .row (n + 5) z49.length), (5, .ref (n + 1) 0), (7, (vI (a0.length : Int))), (10, (vI y30.1)), (11, (vI y30.2)), (12, (vI (a2.Kids.length : Int))), (14, (vI 0))]⟩ : Env)) (O' := (Loc (O.upd t0 none) n [none, some ⟨false, 29, 3, 1, (c_S_api_Tree a2)⟩, none, none, none, some (oR 63 1 (eI .u64) z49), none])) (n' := (n + 7)) ?_ ?_
          · refine Fit2.trans (E' := (⟨252, [], [(0, .row (n + 3) z49.length), (5, .ref (n + 1) 0), (7, (vI (a0.length : Int))), (10, (vI y30.1)), (11, (vI y30.2)), (12, (vI (a2.Kids.length : Int))), (14, (vI 0))]⟩ : Env)) (O' := (Loc (O.upd t0 none) n [none, some ⟨false, 29, 3, 1, (c_S_api_Tree a2)⟩, none, some (oR 63 1 (eI .u64) z49), none])) (n' := (n + 5)) (Fit2.of (fit_loc hU rfl rfl ?_) (by omega)) ?_
            · exact zSe
            refine ren_fit (k := 5) (k' := 7) hU [6, 1, 6, 5, 6] [0, 1, 0, 0, 0, 3, 0] rfl rfl rfl rfl ⟨rfl, rfl⟩ ?_
            exact zSe
          obtain ⟨z61, hz61, h⟩ := bC h
          refine W_blockX (E' := ⟨252, [], [(0, .row (n + 5) z61.length)]⟩) (O' := (Loc (O.upd t0 none) n [none, none, none, none, none, some (oR 63 1 (eI .u64) z61), none])) (n0 := (n + 7)) ?_ ?_
          · refine W_loopJ hz61 (fun s3_ => ⟨252, [], [(0, .row (n + 5) s3_.2.length), (5, .ref (n + 1) 0), (7, (vI (a0.length : Int))), (10, (vI y30.1)), (11, (vI y30.2)), (12, (vI (a2.Kids.length : Int))), (14, (vI s3_.1))]⟩) (fun s3_ => (Loc (O.upd t0 none) n [none, some ⟨false, 29, 3, 1, (c_S_api_Tree a2)⟩, none, none, none, some (oR 63 1 (eI .u64) s3_.2), none])) (fun z61 => JX 7 n (⟨252, [], [(0, .row (n + 5) z61.length)]⟩ : Env) (Loc (O.upd t0 none) n [none, none, none, none, none, some (oR 63 1 (eI .u64) z61), none]) (n + 7)) ?_
            intro s3_ x3_ hs3_
            unfold b_centoref12_Lay_L3 at hs3_
            try dsimp only
            refine W_seqK ?_
            refine zQ [0, 5, 7, 10, 11, 12, 14, 186] ?_
            refine W_cond (t := (decide (s3_.1 < (a2.Kids.length : Int)))) rfl (fun c60 => ?_) (fun c60 => ?_)
            · replace hs3_ := condT c60 hs3_
              refine zKd [0, 5, 7, 10, 11, 12, 14] [false, true, false, false, false, true, false] ?_
              refine W_seqK ?_
              refine W_block ?_
              refine zQd [0, 5, 7, 10, 11, 12, 14, 15] [0, 5, 7, 10, 11, 12, 14, 15] [false, true, false, false, false, true, false] ?_
              refine W_fit2 (E' := (⟨252, [], [(0, .row (n + 7) s3_.2.length), (5, .ref (n + 1) 0), (7, (vI (a0.length : Int))), (10, (vI y30.1)), (11, (vI y30.2)), (12, (vI (a2.Kids.length : Int))), (14, (vI s3_.1)), (15, (vI 0))]⟩ : Env)) (O' := (Loc (O.upd t0 none) n [none, some ⟨false, 29, 3, 1, (c_S_api_Tree a2)⟩, none, none, none, none, none, some (oR 63 1 (eI .u64) s3_.2), none])) (n' := (n + 9)) ?_ ?_
              · refine Fit2.trans (E' := (⟨252, [], [(0, .row (n + 5) s3_.2.length), (5, .ref (n + 1) 0), (7, (vI (a0.length : Int))), (10, (vI y30.1)), (11, (vI y30.2)), (12, (vI (a2.Kids.length : Int))), (14, (vI s3_.1)), (15, (vI 0))]⟩ : Env)) (O' := (Loc (O.upd t0 none) n [none, some ⟨false, 29, 3, 1, (c_S_api_Tree a2)⟩, none, none, none, some (oR 63 1 (eI .u64) s3_.2), none])) (n' := (n + 7)) (Fit2.of (fit_loc hU rfl rfl ?_) (by omega)) ?_
                · exact zSe
                refine ren_fit (k := 7) (k' := 9) hU [8, 1, 8, 8, 8, 7, 8] [0, 1, 0, 0, 0, 0, 0, 5, 0] rfl rfl rfl rfl ⟨rfl, rfl⟩ ?_
                exact zSe
              obtain ⟨z59, hz59, hs3_⟩ := bC hs3_
              refine W_blockX (E' := ⟨252, [], [(0, .row (n + 7) z59.length), (5, .ref (n + 1) 0), (7, (vI (a0.length : Int))), (10, (vI y30.1)), (11, (vI y30.2)), (12, (vI (a2.Kids.length : Int))), (14, (vI s3_.1))]⟩) (O' := (Loc (O.upd t0 none) n [none, some ⟨false, 29, 3, 1, (c_S_api_Tree a2)⟩, none, none, none, none, none, some (oR 63 1 (eI .u64) z59), none])) (n0 := (n + 9)) ?_ ?_
              · refine W_loopJ hz59 (fun s4_ => ⟨252, [], [(0, .row (n + 7) s4_.2.length), (5, .ref (n + 1) 0), (7, (vI (a0.length : Int))), (10, (vI y30.1)), (11, (vI y30.2)), (12, (vI (a2.Kids.length : Int))), (14, (vI s3_.1)), (15, (vI s4_.1))]⟩) (fun s4_ => (Loc (O.upd t0 none) n [none, some ⟨false, 29, 3, 1, (c_S_api_Tree a2)⟩, none, none, none, none, none, some (oR 63 1 (eI .u64) s4_.2), none])) (fun z59 => JX 9 n (⟨252, [], [(0, .row (n + 7) z59.length), (5, .ref (n + 1) 0), (7, (vI (a0.length : Int))), (10, (vI y30.1)), (11, (vI y30.2)), (12, (vI (a2.Kids.length : Int))), (14, (vI s3_.1))]⟩ : Env) (Loc (O.upd t0 none) n [none, some ⟨false, 29, 3, 1, (c_S_api_Tree a2)⟩, none, none, none, none, none, some (oR 63 1 (eI .u64) z59), none]) (n + 9)) ?_
                intro s4_ x4_ hs4_
                unfold b_centoref12_Lay_L4 at hs4_
                try dsimp only
                refine W_seqK ?_
                obtain ⟨x52, hx52, ax52, bx52, cx52, hs4_⟩ := bE (f := e_S_api_Tree) tab29 (fun _ => rfl) (by decide) hs4_
                have g53 := gpart_fld (f := e_S_api_Tree) (off := 2) (sz := 3) tab27 (fun _ => rfl) (by decide) (by decide) hx52
                refine W_sq [0, 5, 7, 10, 11, 12, 14, 15, 197] (W_regionD tab_ok [] ?_)
                refine zF4 ax52 bx52 cx52 g53 ?_
                refine W_cond (t := (decide (s4_.1 < (x52.Kids.length : Int)))) rfl (fun c58 => ?_) (fun c58 => ?_)
                · replace hs4_ := condT c58 hs4_
                  refine zKd [0, 5, 7, 10, 11, 12, 14, 15] [false, true, false, false, false, false, false, true, false] ?_
                  refine W_seqK ?_
                  refine W_block ?_
                  obtain ⟨x54, hx54, ax54, bx54, cx54, hs4_⟩ := bE (f := e_S_api_Tree) tab29 (fun _ => rfl) (by decide) hs4_
                  have g55 := gpart_fld (f := e_S_api_Tree) (off := 2) (sz := 3) tab27 (fun _ => rfl) (by decide) (by decide) hx54
                  obtain ⟨x56, hx56, ax56, bx56, cx56, hs4_⟩ := bE (f := e_S_api_Tree) tab29 (fun _ => rfl) (by decide) hs4_
                  obtain ⟨y57, hy57, hs4_⟩ := bC hs4_
                  refine zRof7 [] ax54 bx54 cx54 g55 ax56 bx56 cx56 ?_
                  refine (ok_r_centoref12_Lay (t0 := (n + 7)) (by omega) (by simp only [push_cast, Nat.reduceAdd, Nat.reduceSub, Nat.reduceMul, Nat.reduceLeDiff, Nat.reduceLT, Nat.reduceEqDiff, ↓reduceIte, reduceCtorEq, Int.reduceBEq, Int.reduceBNe, Nat.reduceBEq, Int.reduceLE, Int.reduceLT, Int.reduceEq, Int.reduceNe, Int.reduceNeg, Nat.reduceDiv, Nat.reduceMod, Nat.reducePow, cast_lit, fl_nil, ax54, bx54, cx54, g55, ax56, bx56, cx56, hN0, hN] <;> rfl) hy57).then ?_
                  refine zF7 ax54 bx54 cx54 g55 ax56 bx56 cx56 ?_
                  refine zD [0, 5, 7, 10, 11, 12, 14, 15] [false, true, false, false, false, false, false, false, false, true] ?_
                  refine zR ?_
                  have hs4_ := Option.some.inj hs4_; subst hs4_
                  refine And.intro rfl ?_
                  refine Fit2.trans (E' := (⟨252, [], [(0, .row (n + 9) y57.length), (5, .ref (n + 1) 0), (7, (vI (a0.length : Int))), (10, (vI y30.1)), (11, (vI y30.2)), (12, (vI (a2.Kids.length : Int))), (14, (vI s3_.1)), (15, (vI (IntKind.i64.wrap (s4_.1 + 1))))]⟩ : Env)) (O' := (Loc (O.upd t0 none) n [none, some ⟨false, 29, 3, 1, (c_S_api_Tree a2)⟩, none, none, none, none, none, none, none, some (oR 63 1 (eI .u64) y57)])) (n' := (n + 10)) (Fit2.of (fit_loc hU rfl rfl ?_) (by omega)) ?_
                  · exact zSe
                  refine ren_fit (k := 10) (k' := 9) hU [8, 1, 8, 8, 8, 8, 8, 8, 8, 7] [0, 1, 0, 0, 0, 0, 0, 9, 0] rfl rfl rfl rfl ⟨rfl, rfl⟩ ?_
                  exact zSe
                · replace hs4_ := condF c58 hs4_
                  exact zEx hs4_
              try simp only [gthen, gblock, ↓reduceIte, Nat.reduceEqDiff]
              refine zD [0, 5, 7, 10, 11, 12, 14] [false, true, false, false, false, false, false, true, false] ?_
              refine zR ?_
              have hs3_ := Option.some.inj hs3_; subst hs3_
              refine And.intro rfl ?_
              refine Fit2.trans (E' := (⟨252, [], [(0, .row (n + 7) z59.length), (5, .ref (n + 1) 0), (7, (vI (a0.length : Int))), (10, (vI y30.1)), (11, (vI y30.2)), (12, (vI (a2.Kids.length : Int))), (14, (vI (IntKind.i64.wrap (s3_.1 + 1))))]⟩ : Env)) (O' := (Loc (O.upd t0 none) n [none, some ⟨false, 29, 3, 1, (c_S_api_Tree a2)⟩, none, none, none, none, none, some (oR 63 1 (eI .u64) z59), none])) (n' := (n + 9)) (Fit2.of (fit_loc hU rfl rfl ?_) (by omega)) ?_
              · exact zSe
              refine ren_fit (k := 9) (k' := 7) hU [6, 1, 6, 6, 6, 6, 6, 5, 6] [0, 1, 0, 0, 0, 7, 0] rfl rfl rfl rfl ⟨rfl, rfl⟩ ?_
              exact zSe
            · replace hs3_ := condF c60 hs3_
              exact zEx hs3_
          try simp only [gthen, gblock, ↓reduceIte, Nat.reduceEqDiff]
          refine zD [0] [false, false, false, false, false, true, false] ?_
          refine zQ [6] ?_
          refine zW ?_
          have h := Option.some.inj h; subst h
          refine fin_locW (k := 1) (L3 := [some (oR 63 1 (eI .u64) z61), none]) (E2 := (⟨252, [], [(6, .row n z61.length)]⟩ : Env)) (n3 := (n + 2)) (.inr rfl) hU rfl [.row n z61.length] ?_ ?_
          · refine Fit2.trans (E' := (⟨252, [], [(6, .row (n + 5) z61.length)]⟩ : Env)) (O' := (Loc (O.upd t0 none) n [none, none, none, none, none, some (oR 63 1 (eI .u64) z61), none])) (n' := (n + 7)) (Fit2.of (fit_loc hU rfl rfl ?_) (by omega)) ?_
            · exact zSe
            refine ren_fit (k := 7) (k' := 2) hU [1, 1, 1, 1, 1, 0, 1] [5, 0] rfl rfl rfl rfl ⟨rfl, rfl⟩ ?_
            exact zSe
          simp only [push_cast, seval, ↓reduceIte, cast_lit, Try.results39, hN0, hN]
        · replace h := condF c74 h
          refine zKd [0, 1, 5, 7] [true, true] ?_
          refine W_seqK ?_
          obtain ⟨y64, hy64, h⟩ := bC h
          obtain ⟨y65, hy65, h⟩ := bC h
          refine W_drawD tab_ok (by kernel_rfl) [] (by kernel_rfl) ?_
          refine zS ?_
          refine PCall.of (ok_centoref12_atoms hy64) ?_
          refine zS ?_
          refine PCall.of (ok_centoref01_Put hy65) ?_
          refine zS ?_
          refine zDs [0, 1, 5, 7, 16] [true, true] ?_
          obtain ⟨y69, hy69, h⟩ := bC h
          obtain ⟨x70, hx70, ax70, bx70, cx70, h⟩ := bE (f := (eI .u64)) tab63 (fun _ => rfl) (by decide) h
          have gu71 : gplace (fl (eI .u64) a0) [.val (.int .u64 y69)] (Int.toNat a1 * 1) = some (fl (eI .u64) (setI a0 a1 y69)) := gplace_el (f := (eI .u64)) (ti := ⟨.bool, 1, 0, [], false⟩) (x := y69) (fun _ => rfl) (getI_nat hx70)
          refine zRof4 [] ax70 bx70 cx70 gu71 ?_
          refine (ok_centoref12_pointer hy69).then ?_
          refine zF4 ax70 bx70 cx70 gu71 ?_
          refine zDs [0, 16] [true, false] ?_
          obtain ⟨l73, pl73, ql73, el73, h⟩ := bA (k := y65.1.length) rfl h
          simp only [setI_len, cpyAt_len] at pl73 ql73
          refine zRox3 [] pl73 ql73 el73 ?_
          refine W_fit ⟨252, [], [(6, .row n l73.length)]⟩ (Loc (O.upd t0 none) n [some (oR 63 1 (eI .u64) l73), none]) (fit_loc hU rfl rfl ?_) ?_
          · exact zXe3 pl73 ql73 el73
          refine zW ?_
          have h := Option.some.inj h; subst h
          refine fin_locW (k := 1) (L3 := [some (oR 63 1 (eI .u64) l73), none]) (E2 := (⟨252, [], [(6, .row n l73.length)]⟩ : Env)) (n3 := (n + 2)) (.inr rfl) hU rfl [.row n l73.length] ?_ ?_
          · refine Fit2.trans (E' := (⟨252, [], [(6, .row n l73.length)]⟩ : Env)) (O' := (Loc (O.upd t0 none) n [some (oR 63 1 (eI .u64) l73), none])) (n' := (n + 2)) (Fit2.of (fit_loc hU rfl rfl ?_) (by omega)) ?_
            · exact zSe
            refine ren_fit (k := 2) (k' := 2) hU [0, 1] [0, 0] rfl rfl rfl rfl ⟨rfl, rfl⟩ ?_
            exact zSe
          simp only [push_cast, seval, ↓reduceIte, cast_lit, Try.results39, hN0, hN]

theorem lv_centoref12_Lay_ok : ∀ k, (oT_r_centoref12_Lay (lv_centoref12_Lay k)) := fun k => by
  induction k with
  | zero => exact @fun a0 a1 a2 r O n t0 ht0 hot0 h => (nomatch (show (none : Option _) = some _ from h))
  | succ k ih => exact @fun a0 a1 a2 r O n t0 ht0 hot0 h => okb_centoref12_Lay (ih) ht0 hot0 h

theorem ok_centoref12_Lay {a0 : (List Int)} {a1 : Int} {a2 : S_api_Tree} {r : (List Int)} {O : Objs} {n : Nat} {t0 : Nat} (ht0 : t0 < n) (hot0 : O t0 = some (oR 63 1 (eI .u64) a0)) (h : m_centoref12_Lay a0 a1 a2 = some r) : GTo Try.prog 39 [.row t0 a0.length, (vI a1), .agg (c_S_api_Tree a2)] O n (.row n r.length) (Loc (O.upd t0 none) n [some (oR 63 1 (eI .u64) r)]) (n + 1) := by
  obtain ⟨k, hk⟩ := lim_some h
  exact (lv_centoref12_Lay_ok k) ht0 hot0 hk

theorem ok_centoref12_Encode {a0 : S_api_Tree} {a1 : Int} {r : ((List Int) × Bool)} {O : Objs} {n : Nat} (h : m_centoref12_Encode a0 a1 = some r) : GTo Try.prog 16 [.agg (c_S_api_Tree a0), (vI a1)] O n (.tup [(sL (eI .u64) r.1), (vB r.2)]) O n := by
  unfold m_centoref12_Encode at h
  refine zFn Try.call16 Try.func16 fun hU hN0 hN => ?_
  show W _ _ _ _ ⟨28, [], [(0, .agg (c_S_api_Tree a0)), (1, (vI a1))]⟩ (Loc O n []) _
  refine zQ [1, 2] ?_
  refine W_seqK ?_
  refine W_seqK ?_
  obtain ⟨y2, hy2, h⟩ := bC h
  refine zRo [none, none, none] ?_
  refine zG ?_
  refine zTs (ok_centoref07_Right hy2) ?_
  refine zG ?_
  refine zD [1, 2, 13] [true] ?_
  refine W_cond (t := (cond (!y2) true (a0.Kind == 10))) rfl (fun c16 => ?_) (fun c16 => ?_)
  · replace h := condT c16 h
    refine zQ [4, 5] ?_
    exact zRet [nV, (vB false)]
  · replace h := condF c16 h
    refine zKd [1, 2] [true] ?_
    refine W_seqK ?_
    obtain ⟨y4, hy4, h⟩ := bC h
    refine zCd (ok_centoref07_Norm hy4) [1, 2] [true] ?_
    refine W_seqK ?_
    obtain ⟨z7, hz7, h⟩ := bC h
    refine W_seqN (E' := ⟨28, [], [(2, .ref n 0), (24, (vB z7))]⟩) (O' := (Loc O n [some ⟨false, 29, 3, 1, (c_S_api_Tree y4)⟩])) (n0 := (n + 1)) ?_ ?_
    · obtain ⟨y10, hy10, hz7⟩ := bC hz7
      rcases Bool.eq_false_or_eq_true (decide (a1 ≤ y10)) with c12 | c12
      · replace hz7 := condT c12 hz7
        refine zRox1 [some false, some false, some false] c12 ?_
        refine (ok_centoref07_Size hy10).then ?_
        refine zX1 c12 ?_
        exact zEnx1 hz7 c12
      · replace hz7 := condF c12 hz7
        obtain ⟨y11, hy11, hz7⟩ := bC hz7
        refine zRox1 [some true, some true, some true] c12 ?_
        refine (ok_centoref07_Size hy10).then ?_
        refine zX1 c12 ?_
        refine (ok_centoref07_Size hy11).then ?_
        refine zX1 c12 ?_
        exact zEnx1 hz7 c12
    refine W_cond (t := z7) rfl (fun c15 => ?_) (fun c15 => ?_)
    · replace h := condT c15 h
      refine zQ [4, 5] ?_
      exact zRet [nV, (vB false)]
    · replace h := condF c15 h
      refine zKd [2] [true] ?_
      refine W_seqK ?_
      obtain ⟨y14, hy14, h⟩ := bC h
      refine zR ?_
      refine (ok_centoref12_Lay (t0 := (n + 1)) (by omega) (by simp only [push_cast, seval, ↓reduceIte, cast_lit, fl_nil, hN0, hN] <;> rfl) hy14).then ?_
      refine zS ?_
      refine zD [4, 5] [false, false, true] ?_
      exact zRet [.row (n + 2) y14.length, (vB true)]

theorem ok_centolaw12_CanonEncodes {a0 : S_api_Tree} {a1 : Int} {r : Bool} {O : Objs} {n : Nat} (h : m_centolaw12_CanonEncodes a0 a1 = some r) : GTo Try.prog 4 [.agg (c_S_api_Tree a0), (vI a1)] O n ((vB r)) O n := by
  unfold m_centolaw12_CanonEncodes at h
  refine zFn Try.call4 Try.func4 fun hU hN0 hN => ?_
  show W _ _ _ _ ⟨36, [], [(0, .agg (c_S_api_Tree a0)), (1, (vI a1))]⟩ (Loc O n []) _
  refine zQ [1, 2] ?_
  refine W_seqK ?_
  refine W_seqK ?_
  obtain ⟨y2, hy2, h⟩ := bC h
  refine zCd (ok_centoref07_Few hy2) [1, 2, 11] [true] ?_
  refine W_cond (t := (!y2)) rfl (fun c18 => ?_) (fun c18 => ?_)
  · replace h := condT c18 h
    refine W_seqK ?_
    obtain ⟨y4, hy4, h⟩ := bC h
    refine zCd (ok_centolaw12_awake hy4) [4] [false] ?_
    exact zRet [(vB y4)]
  · replace h := condF c18 h
    refine zKd [1, 2] [true] ?_
    refine W_seqK ?_
    obtain ⟨y6, hy6, h⟩ := bC h
    refine zCd (ok_canon_Encode hy6) [1, 2, 5, 6] [true] ?_
    refine W_seqK ?_
    obtain ⟨y8, hy8, h⟩ := bC h
    refine zCd (ok_centoref12_Encode hy8) [5, 6, 7, 8] [false] ?_
    obtain ⟨z11, hz11, h⟩ := bC h
    refine W_seqN (E' := ⟨36, [], [(4, (vB z11))]⟩) (O' := (Loc O n [none])) (n0 := (n + 1)) ?_ ?_
    · obtain ⟨y14, hy14, hz11⟩ := bC hz11
      rcases Bool.eq_false_or_eq_true y14 with c16 | c16
      · replace hz11 := condT c16 hz11
        rcases Bool.eq_false_or_eq_true (y6.2 == y8.2) with c17 | c17
        · replace hz11 := condT c17 hz11
          try rw [c17] at c16
          try (rw [c16] at c17; simp at c17)
          all_goals
            obtain ⟨y15, hy15, hz11⟩ := bC hz11
            refine zRox2 [none, none, none, some true] c16 c17 ?_
            refine zG ?_
            refine (ok_centoref01_Same hy14).then ?_
            refine zX2 c16 c17 ?_
            refine zG ?_
            refine (ok_centolaw12_awake hy15).then ?_
            refine zX2 c16 c17 ?_
            refine zG ?_
            exact zEnx2 hz11 c16 c17
        · replace hz11 := condF c17 hz11
          try rw [c17] at c16
          try (rw [c16] at c17; simp at c17)
          all_goals
            refine zRox2 [none, none, none, some false] c16 c17 ?_
            refine zG ?_
            refine (ok_centoref01_Same hy14).then ?_
            refine zX2 c16 c17 ?_
            refine zG ?_
            exact zEnx2 hz11 c16 c17
      · replace hz11 := condF c16 hz11
        refine zRox1 [none, none, none, some false] c16 ?_
        refine zG ?_
        refine (ok_centoref01_Same hy14).then ?_
        refine zX1 c16 ?_
        refine zG ?_
        exact zEnx1 hz11 c16
    exact zRet [(vB z11)]

end Go.Proofs.Ytpfbdlcnfekdkaa
