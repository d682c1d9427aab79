/- Part VM4 of this seat's mirrors: functions of the seat's program, and the plain functions that they are; each theorem bears its own conditions. -/
import Derived.Test.YtpfbdlcnfekdkaaVE
import Derived.Test.YtpfbdlcnfekdkaaVM3
namespace Go.Proofs.Ytpfbdlcnfekdkaa
open Go.RowKit
set_option linter.unusedVariables false
set_option linter.unusedSimpArgs false
set_option maxRecDepth 100000
set_option maxHeartbeats 4000000
attribute [local push_cast] Try.results11 Try.results24 Try.results6 vI vB nV sL oR c_S_api_Tree c_S_ptr_Ptr gfork_t gfork_f pfork_t pfork_f gthen gblock gops_nil gops_plain gops_guard onW gwantB gcalm gact gpick gpickV strip_any strip_val strip_agg strip_tup strip_sl strip_ip strip_row strip_rs strip_rp strip_rl strip_ref strip_fn strip_when evS wok calmOp Op.operands Call.operands gop onK onP atK List.all_cons List.all_nil Bool.and_true Bool.true_and Bool.and_self Value.oneCell' List.take_zero List.take_succ_cons List.take_nil List.drop_zero List.drop_succ_cons List.drop_nil List.append_nil Nat.add_zero Nat.zero_add gstep gputE ev look genv gbin_ii gbin_bb gbin_ss gbin_pp gbin_rp gbin_ip gbin_ll gbin_aa geqS geqF gint gunary gconvert gload gcells gpart_lit gstore cellsOf_agg cellsOf_val cellsOf_sl cellsOf_ip cellsOf_row cellsOf_rs cellsOf_rp cellsOf_rl cellsOf_ref cellsOf_fn cellsOf_any cellsOf_tup cellsOf_when cellsOf_gP gput gplace_lit gfieldAddr gstepIn gindexAddr gindex gfield gopt bLo bHi bMx gextract galloc gbox gbuild gfill gplaces gbuildSlice gmake glen gappend gsrc gbuiltin gnil live_any live_val live_agg live_tup live_sl live_ip live_fn live_when live_ref live_rs live_rp live_rl live_row live_gP gres gone prun_nil prun_plain prun_guard pop TK.isAgg one_any one_val one_agg one_tup one_when one_sl one_ip one_row one_rs one_rp one_rl one_ref one_fn G.under G.unders List.getD_cons_zero List.getD_cons_succ List.set_cons_zero List.set_cons_succ List.map_cons List.map_nil List.toList_toArray Array.toList_append Option.toArray_none Option.toArray_some Array.toList_map Option.map_some Option.map_none Option.bind_some Option.bind_none List.getElem?_cons_zero List.getElem?_cons_succ List.getElem?_nil List.nil_append List.cons_append List.replicate_succ List.replicate_zero List.length_cons List.length_nil and_true true_and and_false false_and Bool.true_eq_false Bool.false_eq_true forall_const false_implies implies_true IntKind.bits if_true if_false ite_true ite_false eq_self true_implies false_or or_false or_true true_or not_true_eq_false not_false_eq_true decide_true decide_false decide_eq_true_eq decide_eq_false_iff_not beq_iff_eq bne_iff_ne ne_eq Bool.not_eq_true Bool.not_eq_false beq_eq_false_iff_ne bne_eq_false_iff_eq beq_self_eq_true bne_self_eq_false Option.some.injEq exists_eq_left' exists_eq_left ge_iff_le gt_iff_lt decide_not Bool.not_true Bool.not_false imp_self gquiet cond_true cond_false beqT beqF Bool.not_not Bool.and_false Bool.false_and Bool.or_true Bool.true_or Bool.or_false Bool.false_or Loc_at Loc_at0 Loc_upd Loc_upd0 Loc_push Loc_push0 Option.join_some Nat.add_assoc Int.toNat_natCast eI eB eS eL fl_nil gopsD_nil gopsD_plain gopsD_t gopsD_f gopsD_n onKD onWD prunD_nil prunD_plain prunD_t prunD_f prunD_n onPD fitO fitO1 sameO fitL fl_append fl_one List.length_append G.agg.injEq G.row.injEq G.ref.injEq G.val.injEq G.sl.injEq G.tup.injEq Value.int.injEq Value.bool.injEq Value.string.injEq List.cons.injEq exists_and_left exists_const List.flatten_cons List.flatten_nil Int.le_refl Nat.le_refl upd_updU Loc_out Loc_updo Bool.not_eq_true' Bool.not_eq_false' wkl_nil wkl_cons wk_any wk_val wk_agg wk_tup wk_sl wk_fn List.size_toArray renO renO1 G.ren G.rens renL rho_at rho_at0 gP_none gP_some strip_gP wok_gP one_gP G.fn.injEq wk_slnil wk_slrow wk_slrs wk_ip wk_ipref wk_row wk_rs wk_rp wk_rl wk_ref locLt0 locLt Option.join_none upd_same fl_cons undef keepL Arr.len Arr.put_eq prunB_nil prunB_bar prunB_bart prunB_plain prunB_t prunB_f prunB_n onB onBP gcopy setI_len cpyAt_len Loc_cat0 Loc_cat1 Loc_cat2 Loc_cat3 Loc_cat4 Loc_cat5 noObjs_at prunK_nil prunK_bar prunK_pass prunK_plain prunK_low prunK_pt prunK_pf prunK_lt prunK_lf onKg onKa onKp popL pickOps lows lowG prunK_shp prunK_fill popH shpOp fillOp fillG rho_low rens_app Loc_cat6 Loc_cat7 Loc_cat8 Loc_cat9 Loc_cat10 Loc_cat11 Loc_cat12 Loc_cat13 Loc_cat14 Loc_cat15 Loc_cat16 dropM prT kdOf tab2 tkind2 tab3 tkind3 tab4 tkind4 tab5 tkind5 tab6 tkind6 tab7 tkind7 tab8 tkind8 tab9 tkind9 tab10 tkind10 tab11 tkind11 tab12 tkind12 tab13 tkind13 tab14 tkind14 tab15 tkind15 tab16 tkind16 tab17 tkind17 tab18 tkind18 tab19 tkind19 tab21 tkind21 tab22 tkind22 tab23 tkind23 tab24 tkind24 tab26 tkind26 tab27 tkind27 tab28 tkind28 tab29 tkind29 tab30 tkind30 tab33 tkind33 tab46 tkind46 tab49 tkind49 tab50 tkind50 tab61 tkind61 tab62 tkind62 tab63 tkind63 tab65 tkind65 tab66 tkind66 tab74 tkind74 tab75 tkind75 tab84 tkind84 tab85 tkind85 tab87 tkind87 tab88 tkind88 tab91 tkind91 tab92 tkind92 tab93 tkind93 tab104 tkind104 tab105 tkind105 tab106 tkind106 tab112 tkind112 tab113 tkind113 tab116 tkind116 tab117 tkind117 tab119 tkind119 tab120 tkind120 tab126 tkind126 tab127 tkind127 tab141 tkind141 tab142 tkind142 tab149 tkind149 tab150 tkind150 tab151 tkind151 tab159 tkind159 tab161 tkind161 tab162 tkind162 tab166 tkind166 tab167 tkind167 tab169 tkind169 tab170 tkind170 tab171 tkind171 e_S_api_Tree e0_eq_S_api_Tree wkl_eI_u64 wka_eI_u64 len_eI_u64 one_eI_u64 wkp_eI_u64 undp_eI_u64 rens_eI_u64 renp_eI_u64 und_eI_u64 wkl_e_S_api_Tree wka_e_S_api_Tree len_e_S_api_Tree one_e_S_api_Tree wkp_e_S_api_Tree undp_e_S_api_Tree rens_e_S_api_Tree renp_e_S_api_Tree und_e_S_api_Tree wkl_eI_i64 wka_eI_i64 len_eI_i64 one_eI_i64 wkp_eI_i64 undp_eI_i64 rens_eI_i64 renp_eI_i64 und_eI_i64 e_S_ptr_Ptr e_S_canon_layer
def oT_r_centoref07_Same (r_centoref07_Same : (S_api_Tree → S_api_Tree → Option Bool)) : Prop := ∀ {a0 : S_api_Tree} {a1 : S_api_Tree} {r : Bool} {O : Objs} {n : Nat}, r_centoref07_Same a0 a1 = some r → GTo Try.prog 11 [.agg (c_S_api_Tree a0), .agg (c_S_api_Tree a1)] O n ((vB r)) O n
theorem okb_centoref07_Same {r_centoref07_Same : (S_api_Tree → S_api_Tree → Option Bool)} (ok_r_centoref07_Same : oT_r_centoref07_Same r_centoref07_Same) {a0 : S_api_Tree} {a1 : S_api_Tree} {r : Bool} {O : Objs} {n : Nat} (h : b_centoref07_Same r_centoref07_Same a0 a1 = some r) : GTo Try.prog 11 [.agg (c_S_api_Tree a0), .agg (c_S_api_Tree a1)] O n ((vB r)) O n := by
  unfold b_centoref07_Same at h
  refine zFn Try.call11 Try.func11 fun hU hN0 hN => ?_
  show W _ _ _ _ ⟨47, [], [(0, .agg (c_S_api_Tree a0)), (1, .agg (c_S_api_Tree a1))]⟩ (Loc O n []) _
  refine zQ [2, 3] ?_
  refine W_seqK ?_
  obtain ⟨z2, hz2, h⟩ := bC h
  refine W_seqN (E' := ⟨47, [], [(2, .ref n 0), (3, .ref (n + 1) 0), (27, (vB z2))]⟩) (O' := (Loc O n [some ⟨false, 29, 3, 1, (c_S_api_Tree a0)⟩, some ⟨false, 29, 3, 1, (c_S_api_Tree a1)⟩])) (n0 := (n + 2)) ?_ ?_
  · rcases Bool.eq_false_or_eq_true (a0.Kind != a1.Kind) with c5 | c5
    · replace hz2 := condT c5 hz2
      refine zRox1 [some false, some false, some false, some false, some false, some false, some false, some false, some false, some false, some false, some false, some false] c5 ?_
      exact zEnx1 hz2 c5
    · replace hz2 := condF c5 hz2
      obtain ⟨y4, hy4, hz2⟩ := bC hz2
      refine zRox1 [some true, some true, some true, some true, some true, some true, none, none, none, none, none, none, none] c5 ?_
      refine zG ?_
      refine (ok_centoref01_Same hy4).then ?_
      refine zX1 c5 ?_
      refine zG ?_
      exact zEnx1 hz2 c5
  refine W_cond (t := z2) rfl (fun c15 => ?_) (fun c15 => ?_)
  · replace h := condT c15 h
    refine zQ [4] ?_
    exact zRet [(vB false)]
  · replace h := condF c15 h
    refine zKd [2, 3] [true, true] ?_
    refine W_seqK ?_
    refine zQd [2, 3, 5] [2, 3, 5] [true, true] ?_
    obtain ⟨z14, hz14, h⟩ := bC h
    refine W_sumB (J := (SumJ (fun z14 => JR n (⟨47, [], [(4, (vB false))]⟩ : Env) (Loc O n [none, none]) (n + 2)) (fun z14 => JX 0 n (⟨47, [], []⟩ : Env) (Loc O n [none, none]) (n + 2)))) (z := z14) ?_ fun hw => ?_
    · refine W_loopJ hz14 (fun s0_ => ⟨47, [], [(2, .ref n 0), (3, .ref (n + 1) 0), (5, (vI s0_))]⟩) (fun s0_ => (Loc O n [some ⟨false, 29, 3, 1, (c_S_api_Tree a0)⟩, some ⟨false, 29, 3, 1, (c_S_api_Tree a1)⟩])) (SumJ (fun z14 => JR n (⟨47, [], [(4, (vB false))]⟩ : Env) (Loc O n [none, none]) (n + 2)) (fun z14 => JX 0 n (⟨47, [], []⟩ : Env) (Loc O n [none, none]) (n + 2))) ?_
      intro s0_ x0_ hs0_
      unfold b_centoref07_Same_L0 at hs0_
      try dsimp only
      refine W_seqK ?_
      refine zQ [2, 3, 5, 32] ?_
      refine W_cond (t := (decide (s0_ < (a0.Kids.length : Int)))) rfl (fun c13 => ?_) (fun c13 => ?_)
      · replace hs0_ := condT c13 hs0_
        refine zKd [2, 3, 5] [true, true] ?_
        refine W_seqK ?_
        refine W_block ?_
        refine W_seqK ?_
        obtain ⟨x9, hx9, ax9, bx9, cx9, hs0_⟩ := bE (f := e_S_api_Tree) tab29 (fun _ => rfl) (by decide) hs0_
        obtain ⟨x10, hx10, ax10, bx10, cx10, hs0_⟩ := bE (f := e_S_api_Tree) tab29 (fun _ => rfl) (by decide) hs0_
        obtain ⟨y11, hy11, hs0_⟩ := bC hs0_
        refine W_drawD tab_ok (by kernel_rfl) [] (by kernel_rfl) ?_
        refine zF6 ax9 bx9 cx9 ax10 bx10 cx10 ?_
        refine PCall.of (ok_r_centoref07_Same hy11) ?_
        refine zF6 ax9 bx9 cx9 ax10 bx10 cx10 ?_
        refine zD [2, 3, 5, 46] [true, true] ?_
        refine W_cond (t := (!y11)) rfl (fun c12 => ?_) (fun c12 => ?_)
        · replace hs0_ := condT c12 hs0_
          refine zQ [4] ?_
          refine zW ?_
          exact zEy hs0_
        · replace hs0_ := condF c12 hs0_
          refine zKd [2, 3, 5] [true, true] ?_
          refine zR ?_
          exact zEn hs0_
      · replace hs0_ := condF c13 hs0_
        exact zEx hs0_
    rcases z14 with z14 | z14
    · dsimp only [SumJ] at hw h
      refine W_blockR hw ?_
      try simp only [gthen, gblock, ↓reduceIte, Nat.reduceEqDiff]
      exact zFin [(vB false)]
    · dsimp only [SumJ] at hw h
      refine W_blockX hw ?_
      try simp only [gthen, gblock, ↓reduceIte, Nat.reduceEqDiff]
      refine zD [] [false, false] ?_
      refine zQ [4] ?_
      exact zRet [(vB true)]

theorem lv_centoref07_Same_ok : ∀ k, (oT_r_centoref07_Same (lv_centoref07_Same k)) := fun k => by
  induction k with
  | zero => exact @fun a0 a1 r O n h => (nomatch (show (none : Option _) = some _ from h))
  | succ k ih => exact @fun a0 a1 r O n h => okb_centoref07_Same (ih)  h

theorem ok_centoref07_Same {a0 : S_api_Tree} {a1 : S_api_Tree} {r : Bool} {O : Objs} {n : Nat} (h : m_centoref07_Same a0 a1 = some r) : GTo Try.prog 11 [.agg (c_S_api_Tree a0), .agg (c_S_api_Tree a1)] O n ((vB r)) O n := by
  obtain ⟨k, hk⟩ := lim_some h
  exact (lv_centoref07_Same_ok k)  hk

theorem ok_centoref07_Equal {a0 : S_api_Tree} {a1 : S_api_Tree} {r : Bool} {O : Objs} {n : Nat} (h : m_centoref07_Equal a0 a1 = some r) : GTo Try.prog 24 [.agg (c_S_api_Tree a0), .agg (c_S_api_Tree a1)] O n ((vB r)) O n := by
  unfold m_centoref07_Equal at h
  refine zFn Try.call24 Try.func24 fun hU hN0 hN => ?_
  show W _ _ _ _ ⟨10, [], [(0, .agg (c_S_api_Tree a0)), (1, .agg (c_S_api_Tree a1))]⟩ (Loc O n []) _
  refine zQ [2, 3] ?_
  refine W_seqK ?_
  obtain ⟨y4, hy4, h⟩ := bC h
  obtain ⟨y5, hy5, h⟩ := bC h
  obtain ⟨y6, hy6, h⟩ := bC h
  refine W_drawD tab_ok (by kernel_rfl) [] (by kernel_rfl) ?_
  refine zS ?_
  refine PCall.of (ok_centoref07_Norm hy4) ?_
  refine zS ?_
  refine PCall.of (ok_centoref07_Norm hy5) ?_
  refine zS ?_
  refine PCall.of (ok_centoref07_Same hy6) ?_
  refine zS ?_
  refine zD [4] [false, false] ?_
  exact zRet [(vB y6)]

theorem ok_centolaw12_CanonOne {a0 : S_api_Tree} {a1 : S_api_Tree} {r : Bool} {O : Objs} {n : Nat} (h : m_centolaw12_CanonOne a0 a1 = some r) : GTo Try.prog 6 [.agg (c_S_api_Tree a0), .agg (c_S_api_Tree a1)] O n ((vB r)) O n := by
  unfold m_centolaw12_CanonOne at h
  refine zFn Try.call6 Try.func6 fun hU hN0 hN => ?_
  show W _ _ _ _ ⟨45, [], [(0, .agg (c_S_api_Tree a0)), (1, .agg (c_S_api_Tree a1))]⟩ (Loc O n []) _
  refine zQ [2, 3] ?_
  refine W_seqK ?_
  obtain ⟨z3, hz3, h⟩ := bC h
  refine W_seqN (E' := ⟨45, [], [(2, .ref n 0), (3, .ref (n + 1) 0), (16, (vB z3))]⟩) (O' := (Loc O n [some ⟨false, 29, 3, 1, (c_S_api_Tree a0)⟩, some ⟨false, 29, 3, 1, (c_S_api_Tree a1)⟩])) (n0 := (n + 2)) ?_ ?_
  · obtain ⟨y6, hy6, hz3⟩ := bC hz3
    rcases Bool.eq_false_or_eq_true y6 with c8 | c8
    · replace hz3 := condT c8 hz3
      obtain ⟨y7, hy7, hz3⟩ := bC hz3
      refine zRox1 [some true, some true, some true] c8 ?_
      refine (ok_centoref07_Few hy6).then ?_
      refine zX1 c8 ?_
      refine (ok_centoref07_Few hy7).then ?_
      refine zX1 c8 ?_
      exact zEnx1 hz3 c8
    · replace hz3 := condF c8 hz3
      refine zRox1 [some false, some false, some false] c8 ?_
      refine (ok_centoref07_Few hy6).then ?_
      refine zX1 c8 ?_
      exact zEnx1 hz3 c8
  refine W_cond (t := z3) rfl (fun c29 => ?_) (fun c29 => ?_)
  · replace h := condT c29 h
    refine W_seqK ?_
    obtain ⟨y10, hy10, h⟩ := bC h
    refine zCd (ok_centolaw12_awake hy10) [4] [false, false] ?_
    exact zRet [(vB y10)]
  · replace h := condF c29 h
    refine zKd [2, 3] [true, true] ?_
    refine W_seqK ?_
    obtain ⟨y12, hy12, h⟩ := bC h
    refine zCd (ok_canon_Encode hy12) [2, 3, 5, 6] [true, true] ?_
    refine W_seqK ?_
    obtain ⟨y14, hy14, h⟩ := bC h
    refine zCd (ok_canon_Encode hy14) [2, 3, 5, 6, 7, 8] [true, true] ?_
    refine W_seqK ?_
    refine zQD [2, 3, 5, 7, 33] [none, none] ?_
    refine W_cond (t := (cond (!y12.2) true (!y14.2))) rfl (fun c28 => ?_) (fun c28 => ?_)
    · replace h := condT c28 h
      refine W_seqK ?_
      obtain ⟨y16, hy16, h⟩ := bC h
      refine zCd (ok_centolaw12_awake hy16) [4] [false, false] ?_
      exact zRet [(vB y16)]
    · replace h := condF c28 h
      refine zKd [2, 3, 5, 7] [true, true] ?_
      obtain ⟨z20, hz20, h⟩ := bC h
      refine W_seqN (E' := ⟨45, [], [(4, (vB z20))]⟩) (O' := (Loc O n [none, none])) (n0 := (n + 2)) ?_ ?_
      · obtain ⟨y24, hy24, hz20⟩ := bC hz20
        obtain ⟨y25, hy25, hz20⟩ := bC hz20
        rcases Bool.eq_false_or_eq_true (y24 == y25) with c27 | c27
        · replace hz20 := condT c27 hz20
          all_goals
            obtain ⟨y26, hy26, hz20⟩ := bC hz20
            refine W_drawD tab_ok (by kernel_rfl) [some true] (by kernel_rfl) ?_
            refine zX1 c27 ?_
            refine PCall.of (ok_centoref01_Same hy24) ?_
            refine zX1 c27 ?_
            refine PCall.of (ok_centoref07_Equal hy25) ?_
            refine zX1 c27 ?_
            refine PCall.of (ok_centolaw12_awake hy26) ?_
            refine zX1 c27 ?_
            exact zEnx1 hz20 c27
        · replace hz20 := condF c27 hz20
          all_goals
            refine W_drawD tab_ok (by kernel_rfl) [some false] (by kernel_rfl) ?_
            refine zX1 c27 ?_
            refine PCall.of (ok_centoref01_Same hy24) ?_
            refine zX1 c27 ?_
            refine PCall.of (ok_centoref07_Equal hy25) ?_
            refine zX1 c27 ?_
            exact zEnx1 hz20 c27
      exact zRet [(vB z20)]

end Go.Proofs.Ytpfbdlcnfekdkaa
