/- Part VM1 of this seat's mirrors: functions of the seat's program, and the plain functions that they are; each theorem bears its own conditions. -/
import Derived.Test.YtpfbdlcnfekdkaaVE
namespace Go.Proofs.Ytpfbdlcnfekdkaa
open Go.RowKit
set_option linter.unusedVariables false
set_option linter.unusedSimpArgs false
set_option maxRecDepth 100000
set_option maxHeartbeats 4000000
attribute [local push_cast] Try.results100 Try.results101 Try.results102 Try.results118 Try.results122 Try.results123 Try.results124 Try.results125 Try.results13 Try.results33 Try.results35 Try.results36 Try.results37 Try.results57 Try.results58 Try.results60 Try.results61 Try.results62 Try.results63 Try.results64 Try.results92 Try.results93 Try.results94 Try.results95 Try.results96 Try.results97 Try.results98 Try.results99 vI vB nV sL oR c_S_api_Tree c_S_ptr_Ptr gfork_t gfork_f pfork_t pfork_f gthen gblock gops_nil gops_plain gops_guard onW gwantB gcalm gact gpick gpickV strip_any strip_val strip_agg strip_tup strip_sl strip_ip strip_row strip_rs strip_rp strip_rl strip_ref strip_fn strip_when evS wok calmOp Op.operands Call.operands gop onK onP atK List.all_cons List.all_nil Bool.and_true Bool.true_and Bool.and_self Value.oneCell' List.take_zero List.take_succ_cons List.take_nil List.drop_zero List.drop_succ_cons List.drop_nil List.append_nil Nat.add_zero Nat.zero_add gstep gputE ev look genv gbin_ii gbin_bb gbin_ss gbin_pp gbin_rp gbin_ip gbin_ll gbin_aa geqS geqF gint gunary gconvert gload gcells gpart_lit gstore cellsOf_agg cellsOf_val cellsOf_sl cellsOf_ip cellsOf_row cellsOf_rs cellsOf_rp cellsOf_rl cellsOf_ref cellsOf_fn cellsOf_any cellsOf_tup cellsOf_when cellsOf_gP gput gplace_lit gfieldAddr gstepIn gindexAddr gindex gfield gopt bLo bHi bMx gextract galloc gbox gbuild gfill gplaces gbuildSlice gmake glen gappend gsrc gbuiltin gnil live_any live_val live_agg live_tup live_sl live_ip live_fn live_when live_ref live_rs live_rp live_rl live_row live_gP gres gone prun_nil prun_plain prun_guard pop TK.isAgg one_any one_val one_agg one_tup one_when one_sl one_ip one_row one_rs one_rp one_rl one_ref one_fn G.under G.unders List.getD_cons_zero List.getD_cons_succ List.set_cons_zero List.set_cons_succ List.map_cons List.map_nil List.toList_toArray Array.toList_append Option.toArray_none Option.toArray_some Array.toList_map Option.map_some Option.map_none Option.bind_some Option.bind_none List.getElem?_cons_zero List.getElem?_cons_succ List.getElem?_nil List.nil_append List.cons_append List.replicate_succ List.replicate_zero List.length_cons List.length_nil and_true true_and and_false false_and Bool.true_eq_false Bool.false_eq_true forall_const false_implies implies_true IntKind.bits if_true if_false ite_true ite_false eq_self true_implies false_or or_false or_true true_or not_true_eq_false not_false_eq_true decide_true decide_false decide_eq_true_eq decide_eq_false_iff_not beq_iff_eq bne_iff_ne ne_eq Bool.not_eq_true Bool.not_eq_false beq_eq_false_iff_ne bne_eq_false_iff_eq beq_self_eq_true bne_self_eq_false Option.some.injEq exists_eq_left' exists_eq_left ge_iff_le gt_iff_lt decide_not Bool.not_true Bool.not_false imp_self gquiet cond_true cond_false beqT beqF Bool.not_not Bool.and_false Bool.false_and Bool.or_true Bool.true_or Bool.or_false Bool.false_or Loc_at Loc_at0 Loc_upd Loc_upd0 Loc_push Loc_push0 Option.join_some Nat.add_assoc Int.toNat_natCast eI eB eS eL fl_nil gopsD_nil gopsD_plain gopsD_t gopsD_f gopsD_n onKD onWD prunD_nil prunD_plain prunD_t prunD_f prunD_n onPD fitO fitO1 sameO fitL fl_append fl_one List.length_append G.agg.injEq G.row.injEq G.ref.injEq G.val.injEq G.sl.injEq G.tup.injEq Value.int.injEq Value.bool.injEq Value.string.injEq List.cons.injEq exists_and_left exists_const List.flatten_cons List.flatten_nil Int.le_refl Nat.le_refl upd_updU Loc_out Loc_updo Bool.not_eq_true' Bool.not_eq_false' wkl_nil wkl_cons wk_any wk_val wk_agg wk_tup wk_sl wk_fn List.size_toArray renO renO1 G.ren G.rens renL rho_at rho_at0 gP_none gP_some strip_gP wok_gP one_gP G.fn.injEq wk_slnil wk_slrow wk_slrs wk_ip wk_ipref wk_row wk_rs wk_rp wk_rl wk_ref locLt0 locLt Option.join_none upd_same fl_cons undef keepL Arr.len Arr.put_eq prunB_nil prunB_bar prunB_bart prunB_plain prunB_t prunB_f prunB_n onB onBP gcopy setI_len cpyAt_len Loc_cat0 Loc_cat1 Loc_cat2 Loc_cat3 Loc_cat4 Loc_cat5 noObjs_at prunK_nil prunK_bar prunK_pass prunK_plain prunK_low prunK_pt prunK_pf prunK_lt prunK_lf onKg onKa onKp popL pickOps lows lowG prunK_shp prunK_fill popH shpOp fillOp fillG rho_low rens_app Loc_cat6 Loc_cat7 Loc_cat8 Loc_cat9 Loc_cat10 Loc_cat11 Loc_cat12 Loc_cat13 Loc_cat14 Loc_cat15 Loc_cat16 dropM prT kdOf tab2 tkind2 tab3 tkind3 tab4 tkind4 tab5 tkind5 tab6 tkind6 tab7 tkind7 tab8 tkind8 tab9 tkind9 tab10 tkind10 tab11 tkind11 tab12 tkind12 tab13 tkind13 tab14 tkind14 tab15 tkind15 tab16 tkind16 tab17 tkind17 tab18 tkind18 tab19 tkind19 tab21 tkind21 tab22 tkind22 tab23 tkind23 tab24 tkind24 tab26 tkind26 tab27 tkind27 tab28 tkind28 tab29 tkind29 tab30 tkind30 tab33 tkind33 tab46 tkind46 tab49 tkind49 tab50 tkind50 tab61 tkind61 tab62 tkind62 tab63 tkind63 tab65 tkind65 tab66 tkind66 tab74 tkind74 tab75 tkind75 tab84 tkind84 tab85 tkind85 tab87 tkind87 tab88 tkind88 tab91 tkind91 tab92 tkind92 tab93 tkind93 tab104 tkind104 tab105 tkind105 tab106 tkind106 tab112 tkind112 tab113 tkind113 tab116 tkind116 tab117 tkind117 tab119 tkind119 tab120 tkind120 tab126 tkind126 tab127 tkind127 tab141 tkind141 tab142 tkind142 tab149 tkind149 tab150 tkind150 tab151 tkind151 tab159 tkind159 tab161 tkind161 tab162 tkind162 tab166 tkind166 tab167 tkind167 tab169 tkind169 tab170 tkind170 tab171 tkind171 e_S_api_Tree e0_eq_S_api_Tree wkl_eI_u64 wka_eI_u64 len_eI_u64 one_eI_u64 wkp_eI_u64 undp_eI_u64 rens_eI_u64 renp_eI_u64 und_eI_u64 wkl_e_S_api_Tree wka_e_S_api_Tree len_e_S_api_Tree one_e_S_api_Tree wkp_e_S_api_Tree undp_e_S_api_Tree rens_e_S_api_Tree renp_e_S_api_Tree und_e_S_api_Tree wkl_eI_i64 wka_eI_i64 len_eI_i64 one_eI_i64 wkp_eI_i64 undp_eI_i64 rens_eI_i64 renp_eI_i64 und_eI_i64 e_S_ptr_Ptr e_S_canon_layer
def oT_r_centoref07_Shallow (r_centoref07_Shallow : (S_api_Tree → Int → Int → Option Int)) : Prop := ∀ {a0 : S_api_Tree} {a1 : Int} {a2 : Int} {r : Int} {O : Objs} {n : Nat}, r_centoref07_Shallow a0 a1 a2 = some r → GTo Try.prog 35 [.agg (c_S_api_Tree a0), (vI a1), (vI a2)] O n ((vI r)) O n
theorem okb_centoref07_Shallow {r_centoref07_Shallow : (S_api_Tree → Int → Int → Option Int)} (ok_r_centoref07_Shallow : oT_r_centoref07_Shallow r_centoref07_Shallow) {a0 : S_api_Tree} {a1 : Int} {a2 : Int} {r : Int} {O : Objs} {n : Nat} (h : b_centoref07_Shallow r_centoref07_Shallow a0 a1 a2 = some r) : GTo Try.prog 35 [.agg (c_S_api_Tree a0), (vI a1), (vI a2)] O n ((vI r)) O n := by
  unfold b_centoref07_Shallow at h
  refine zFn Try.call35 Try.func35 fun hU hN0 hN => ?_
  show W _ _ _ _ ⟨41, [], [(0, .agg (c_S_api_Tree a0)), (1, (vI a1)), (2, (vI a2))]⟩ (Loc O n []) _
  refine zQ [1, 2, 3] ?_
  refine zQ [1, 2, 3] ?_
  refine W_seqK ?_
  refine zQD [1, 2, 3, 19] [none, none] ?_
  refine W_cond (t := (cond (a1 == 0) true (decide ((IntKind.i64.wrap ((IntKind.i64.wrap (a2 - 1)) - (a0.Words.length : Int))) < 0)))) rfl (fun c5 => ?_) (fun c5 => ?_)
  · replace h := condT c5 h
    refine zQ [6] ?_
    exact zRet [(vI (-1))]
  · replace h := condF c5 h
    refine zKd [1, 2, 3] [true] ?_
    refine W_seqK ?_
    refine zQd [1, 2, 3, 7] [1, 2, 3, 7] [true] ?_
    obtain ⟨z4, hz4, h⟩ := bC h
    refine W_blockX (E' := ⟨41, [], [(2, (vI z4))]⟩) (O' := (Loc O n [none])) (n0 := (n + 1)) ?_ ?_
    · refine W_loopJ hz4 (fun s0_ => ⟨41, [], [(1, (vI a1)), (2, (vI s0_.1)), (3, .ref n 0), (7, (vI s0_.2))]⟩) (fun s0_ => (Loc O n [some ⟨false, 29, 3, 1, (c_S_api_Tree a0)⟩])) (fun z4 => JX 0 n (⟨41, [], [(2, (vI z4))]⟩ : Env) (Loc O n [none]) (n + 1)) ?_
      intro s0_ x0_ hs0_
      unfold b_centoref07_Shallow_L0 at hs0_
      try dsimp only
      refine W_seqK ?_
      refine zQD [1, 2, 3, 7, 28] [none, none] ?_
      refine W_cond (t := (cond (decide (s0_.2 < (a0.Kids.length : Int))) (decide (0 ≤ s0_.1)) false)) rfl (fun c3 => ?_) (fun c3 => ?_)
      · replace hs0_ := condT c3 hs0_
        refine zKd [1, 2, 3, 7] [true] ?_
        refine W_seqK ?_
        refine W_block ?_
        obtain ⟨x1, hx1, ax1, bx1, cx1, hs0_⟩ := bE (f := e_S_api_Tree) tab29 (fun _ => rfl) (by decide) hs0_
        obtain ⟨y2, hy2, hs0_⟩ := bC hs0_
        refine zRof3 [] ax1 bx1 cx1 ?_
        refine (ok_r_centoref07_Shallow hy2).then ?_
        refine zF3 ax1 bx1 cx1 ?_
        refine zD [1, 2, 3, 7] [true] ?_
        refine zR ?_
        exact zEn hs0_
      · replace hs0_ := condF c3 hs0_
        exact zEx hs0_
    try simp only [gthen, gblock, ↓reduceIte, Nat.reduceEqDiff]
    refine zD [2] [false] ?_
    refine zQ [6] ?_
    exact zRet [(vI z4)]

theorem lv_centoref07_Shallow_ok : ∀ k, (oT_r_centoref07_Shallow (lv_centoref07_Shallow k)) := fun k => by
  induction k with
  | zero => exact @fun a0 a1 a2 r O n h => (nomatch (show (none : Option _) = some _ from h))
  | succ k ih => exact @fun a0 a1 a2 r O n h => okb_centoref07_Shallow (ih)  h

theorem ok_centoref07_Shallow {a0 : S_api_Tree} {a1 : Int} {a2 : Int} {r : Int} {O : Objs} {n : Nat} (h : m_centoref07_Shallow a0 a1 a2 = some r) : GTo Try.prog 35 [.agg (c_S_api_Tree a0), (vI a1), (vI a2)] O n ((vI r)) O n := by
  obtain ⟨k, hk⟩ := lim_some h
  exact (lv_centoref07_Shallow_ok k)  hk

theorem ok_centoref07_Few {a0 : S_api_Tree} {r : Bool} {O : Objs} {n : Nat} (h : m_centoref07_Few a0 = some r) : GTo Try.prog 13 [.agg (c_S_api_Tree a0)] O n ((vB r)) O n := by
  unfold m_centoref07_Few at h
  refine zFn Try.call13 Try.func13 fun hU hN0 hN => ?_
  show W _ _ _ _ ⟨6, [], [(0, .agg (c_S_api_Tree a0))]⟩ (Loc O n []) _
  refine zQ [1] ?_
  refine W_seqK ?_
  obtain ⟨y2, hy2, h⟩ := bC h
  refine zCd (ok_centoref07_Shallow hy2) [2] [false] ?_
  exact zRet [(vB (decide (0 ≤ y2)))]

theorem ok_tree_List {a0 : Int} {r : Bool} {O : Objs} {n : Nat} (h : m_tree_List a0 = some r) : GTo Try.prog 93 [(vI a0)] O n ((vB r)) O n := by
  unfold m_tree_List at h
  refine zFn Try.call93 Try.func93 fun hU hN0 hN => ?_
  show W _ _ _ _ ⟨9, [], [(0, (vI a0))]⟩ (Loc O n []) _
  refine zQ [0] ?_
  refine zQD [2] [none, none] ?_
  exact zRet [(vB (cond (decide (2 ≤ a0)) (decide (a0 ≤ 9)) false))]

theorem ok_tree_allStructs {a0 : (List S_api_Tree)} {r : Bool} {O : Objs} {n : Nat} (h : m_tree_allStructs a0 = some r) : GTo Try.prog 94 [(sL e_S_api_Tree a0)] O n ((vB r)) O n := by
  unfold m_tree_allStructs at h
  refine zFn Try.call94 Try.func94 fun hU hN0 hN => ?_
  show W _ _ _ _ ⟨15, [], [(0, (sL e_S_api_Tree a0))]⟩ (Loc O n []) _
  refine zQ [0] ?_
  refine W_seqK ?_
  refine zQd [5, 6, 7] [5, 6, 7] [] ?_
  obtain ⟨z5, hz5, h⟩ := bC h
  refine W_sumB (J := (SumJ (fun z5 => JR n (⟨15, [], [(2, (vB false))]⟩ : Env) (Loc O n []) n) (fun z5 => JX 0 n (⟨15, [], []⟩ : Env) (Loc O n []) n))) (z := z5) ?_ fun hw => ?_
  · refine W_loopJ hz5 (fun s0_ => ⟨15, [], [(5, (sL e_S_api_Tree a0)), (6, (vI (a0.length : Int))), (7, (vI s0_))]⟩) (fun s0_ => (Loc O n [])) (SumJ (fun z5 => JR n (⟨15, [], [(2, (vB false))]⟩ : Env) (Loc O n []) n) (fun z5 => JX 0 n (⟨15, [], []⟩ : Env) (Loc O n []) n)) ?_
    intro s0_ x0_ hs0_
    unfold m_tree_allStructs_L0 at hs0_
    try dsimp only
    refine zQ [5, 6, 7, 8] ?_
    refine W_seqK ?_
    refine W_cond (t := (decide (s0_ < (a0.length : Int)))) rfl (fun c4 => ?_) (fun c4 => ?_)
    · replace hs0_ := condT c4 hs0_
      refine zKd [5, 6, 7] [] ?_
      refine W_seqK ?_
      refine W_block ?_
      refine W_seqK ?_
      obtain ⟨x2, hx2, ax2, bx2, cx2, hs0_⟩ := bE (f := e_S_api_Tree) tab29 (fun _ => rfl) (by decide) hs0_
      refine zRof3 [] ax2 bx2 cx2 ?_
      refine zD [4, 5, 6, 7] [true] ?_
      refine zQ [5, 6, 7, 13] ?_
      refine W_cond (t := (x2.Kind != 1)) rfl (fun c3 => ?_) (fun c3 => ?_)
      · replace hs0_ := condT c3 hs0_
        refine zQ [2] ?_
        refine zW ?_
        exact zEy hs0_
      · replace hs0_ := condF c3 hs0_
        refine zKd [5, 6, 7] [false] ?_
        refine zR ?_
        exact zEn hs0_
    · replace hs0_ := condF c4 hs0_
      exact zEx hs0_
  rcases z5 with z5 | z5
  · dsimp only [SumJ] at hw h
    refine W_blockR hw ?_
    try simp only [gthen, gblock, ↓reduceIte, Nat.reduceEqDiff]
    exact zFin [(vB false)]
  · dsimp only [SumJ] at hw h
    refine W_blockX hw ?_
    try simp only [gthen, gblock, ↓reduceIte, Nat.reduceEqDiff]
    refine zD [] [] ?_
    refine zQ [2] ?_
    exact zRet [(vB true)]

theorem ok_word_Width {a0 : Int} {r : (Int × Bool)} {O : Objs} {n : Nat} (h : m_word_Width a0 = some r) : GTo Try.prog 118 [(vI a0)] O n (.tup [(vI r.1), (vB r.2)]) O n := by
  unfold m_word_Width at h
  refine zFn Try.call118 Try.func118 fun hU hN0 hN => ?_
  show W _ _ _ _ ⟨15, [], [(0, (vI a0))]⟩ (Loc O n []) _
  refine zQ [0] ?_
  refine W_seqK ?_
  obtain ⟨y6, hy6, ey6, h⟩ := bY (f := (eI .i64)) (cs := [.val (.int .i64 0), .val (.int .i64 1), .val (.int .i64 8), .val (.int .i64 16), .val (.int .i64 32), .val (.int .i64 64)]) rfl h
  have g7 := congrArg G.agg ey6
  obtain ⟨y8, hy8, ey8, h⟩ := bY (f := (eI .i64)) (cs := [.val (.int .i64 0), .val (.int .i64 0), .val (.int .i64 0), .val (.int .i64 0), .val (.int .i64 0), .val (.int .i64 0)]) rfl h
  have g9 := congrArg (GObj.mk false 159 6 1) ey8
  have g10 := gplace_arr (f := (eI .i64)) y8 y6 (fun _ => rfl)
  refine zRox3 [] g7 g9 g10 ?_
  refine zDs [0, 4] [true] ?_
  refine zQD [0, 4, 11] [none, none] ?_
  refine W_cond (t := (cond (decide (a0 < 0)) true (decide (6 ≤ a0)))) rfl (fun c13 => ?_) (fun c13 => ?_)
  · replace h := condT c13 h
    refine zQ [2, 3] ?_
    exact zRet [(vI 0), (vB false)]
  · replace h := condF c13 h
    refine zKd [0, 4] [true] ?_
    obtain ⟨x12, hx12, ax12, bx12, cx12, h⟩ := bEA (f := (eI .i64)) (b := 6) rfl tab3 (fun _ => rfl) (by decide) h
    refine W_sq [2, 3] (W_regionD tab_ok [] ?_)
    refine zF3 ax12 bx12 cx12 ?_
    exact zRet [(vI x12), (vB true)]

theorem ok_word_Fits {a0 : Int} {a1 : Int} {r : Bool} {O : Objs} {n : Nat} (h : m_word_Fits a0 a1 = some r) : GTo Try.prog 122 [(vI a0), .val (.int .u64 a1)] O n ((vB r)) O n := by
  unfold m_word_Fits at h
  refine zFn Try.call122 Try.func122 fun hU hN0 hN => ?_
  show W _ _ _ _ ⟨19, [], [(0, (vI a0)), (1, .val (.int .u64 a1))]⟩ (Loc O n []) _
  refine zQ [0, 1] ?_
  refine W_seqK ?_
  obtain ⟨y2, hy2, h⟩ := bC h
  refine zCd (ok_word_Width hy2) [1, 5, 6] [] ?_
  obtain ⟨z4, hz4, h⟩ := bC h
  refine W_seqN (E' := ⟨19, [], [(4, (vB z4))]⟩) (O' := (Loc O n [])) (n0 := n) ?_ ?_
  · rcases Bool.eq_false_or_eq_true y2.2 with c7 | c7
    · replace hz4 := condT c7 hz4
      obtain ⟨pu6, hz4⟩ := bG hz4
      refine W_regionD tab_ok [some true, some true, some true, some true] ?_
      simp only [push_cast, seval, ↓reduceIte, cast_lit, c7, pu6, hN0, hN]
      have hz4 := Option.some.inj hz4; subst hz4
      refine And.intro rfl (Fit2.of (fit_loc hU rfl rfl ?_) (by omega))
      simp only [push_cast, seval, ↓reduceIte, cast_lit, c7, pu6, hN0, hN]
    · replace hz4 := condF c7 hz4
      refine zRox1 [some false, some false, some false, some false] c7 ?_
      exact zEnx1 hz4 c7
  exact zRet [(vB z4)]

def oT_r_tree_Right (r_tree_Right : (S_api_Tree → Option Bool)) : Prop := ∀ {a0 : S_api_Tree} {r : Bool} {O : Objs} {n : Nat}, r_tree_Right a0 = some r → GTo Try.prog 36 [.agg (c_S_api_Tree a0)] O n ((vB r)) O n
def oT_r_tree_right (r_tree_right : (S_api_Tree → Int → Option Bool)) : Prop := ∀ {a0 : S_api_Tree} {a1 : Int} {r : Bool} {O : Objs} {n : Nat}, r_tree_right a0 a1 = some r → GTo Try.prog 60 [.agg (c_S_api_Tree a0), (vI a1)] O n ((vB r)) O n
def oT_r_tree_allRight (r_tree_allRight : ((List S_api_Tree) → Int → Option Bool)) : Prop := ∀ {a0 : (List S_api_Tree)} {a1 : Int} {r : Bool} {O : Objs} {n : Nat}, r_tree_allRight a0 a1 = some r → GTo Try.prog 92 [(sL e_S_api_Tree a0), (vI a1)] O n ((vB r)) O n
def oT_r_tree_allAtoms (r_tree_allAtoms : ((List S_api_Tree) → Int → Option Bool)) : Prop := ∀ {a0 : (List S_api_Tree)} {a1 : Int} {r : Bool} {O : Objs} {n : Nat}, r_tree_allAtoms a0 a1 = some r → GTo Try.prog 95 [(sL e_S_api_Tree a0), (vI a1)] O n ((vB r)) O n
theorem okb_tree_Right {r_tree_Right : (S_api_Tree → Option Bool)} {r_tree_right : (S_api_Tree → Int → Option Bool)} {r_tree_allRight : ((List S_api_Tree) → Int → Option Bool)} {r_tree_allAtoms : ((List S_api_Tree) → Int → Option Bool)} (ok_r_tree_Right : oT_r_tree_Right r_tree_Right) (ok_r_tree_right : oT_r_tree_right r_tree_right) (ok_r_tree_allRight : oT_r_tree_allRight r_tree_allRight) (ok_r_tree_allAtoms : oT_r_tree_allAtoms r_tree_allAtoms) {a0 : S_api_Tree} {r : Bool} {O : Objs} {n : Nat} (h : b_tree_Right r_tree_Right r_tree_right r_tree_allRight r_tree_allAtoms a0 = some r) : GTo Try.prog 36 [.agg (c_S_api_Tree a0)] O n ((vB r)) O n := by
  unfold b_tree_Right at h
  refine zFn Try.call36 Try.func36 fun hU hN0 hN => ?_
  show W _ _ _ _ ⟨18, [], [(0, .agg (c_S_api_Tree a0))]⟩ (Loc O n []) _
  refine zQ [1] ?_
  refine W_seqK ?_
  refine zQ [1, 5] ?_
  refine W_cond (t := (a0.Kind == 10)) rfl (fun c3 => ?_) (fun c3 => ?_)
  · replace h := condT c3 h
    refine zQD [2] [none, none, none, none] ?_
    exact zRet [(vB (cond ((a0.Words.length : Int) == 1) ((a0.Kids.length : Int) == 0) false))]
  · replace h := condF c3 h
    refine zKd [1] [true] ?_
    refine W_seqK ?_
    obtain ⟨y2, hy2, h⟩ := bC h
    refine zCd (ok_r_tree_right hy2) [2] [false] ?_
    exact zRet [(vB y2)]

theorem okb_tree_right {r_tree_Right : (S_api_Tree → Option Bool)} {r_tree_right : (S_api_Tree → Int → Option Bool)} {r_tree_allRight : ((List S_api_Tree) → Int → Option Bool)} {r_tree_allAtoms : ((List S_api_Tree) → Int → Option Bool)} (ok_r_tree_Right : oT_r_tree_Right r_tree_Right) (ok_r_tree_right : oT_r_tree_right r_tree_right) (ok_r_tree_allRight : oT_r_tree_allRight r_tree_allRight) (ok_r_tree_allAtoms : oT_r_tree_allAtoms r_tree_allAtoms) {a0 : S_api_Tree} {a1 : Int} {r : Bool} {O : Objs} {n : Nat} (h : b_tree_right r_tree_Right r_tree_right r_tree_allRight r_tree_allAtoms a0 a1 = some r) : GTo Try.prog 60 [.agg (c_S_api_Tree a0), (vI a1)] O n ((vB r)) O n := by
  unfold b_tree_right at h
  refine zFn Try.call60 Try.func60 fun hU hN0 hN => ?_
  show W _ _ _ _ ⟨83, [], [(0, .agg (c_S_api_Tree a0)), (1, (vI a1))]⟩ (Loc O n []) _
  refine zQ [1, 2] ?_
  refine W_seqK ?_
  refine zQ [1, 2, 7] ?_
  refine W_cond (t := (a0.Kind == 0)) rfl (fun c26 => ?_) (fun c26 => ?_)
  · replace h := condT c26 h
    refine zQD [4] [none, none, none, none] ?_
    exact zRet [(vB (cond ((a0.Words.length : Int) == 0) ((a0.Kids.length : Int) == 0) false))]
  · replace h := condF c26 h
    refine zKd [1, 2] [true] ?_
    refine W_seqK ?_
    refine zQ [1, 2, 19] ?_
    refine W_cond (t := (a1 == 0)) rfl (fun c25 => ?_) (fun c25 => ?_)
    · replace h := condT c25 h
      refine zQ [4] ?_
      exact zRet [(vB false)]
    · replace h := condF c25 h
      refine zKd [1, 2] [true] ?_
      refine W_seqK ?_
      refine zQ [1, 2, 22] ?_
      refine W_cond (t := (a0.Kind == 1)) rfl (fun c24 => ?_) (fun c24 => ?_)
      · replace h := condT c24 h
        obtain ⟨z2, hz2, h⟩ := bC h
        refine W_seqN (E' := ⟨83, [], [(4, (vB z2))]⟩) (O' := (Loc O n [none])) (n0 := (n + 1)) ?_ ?_
        · rcases Bool.eq_false_or_eq_true (decide ((a0.Words.length : Int) < 65536)) with c5 | c5
          · replace hz2 := condT c5 hz2
            rcases Bool.eq_false_or_eq_true (decide ((a0.Kids.length : Int) < 65536)) with c6 | c6
            · replace hz2 := condT c6 hz2
              try rw [c6] at c5
              obtain ⟨y4, hy4, hz2⟩ := bC hz2
              refine zRox2 [none, none, none, none, some true, some true, some true, some true, some true] c5 c6 ?_
              refine zG ?_
              refine (ok_r_tree_allRight hy4).then ?_
              refine zX2 c5 c6 ?_
              refine zG ?_
              exact zEnx2 hz2 c5 c6
            · replace hz2 := condF c6 hz2
              try rw [c6] at c5
              refine zRox2 [none, none, none, none, some false, some false, some false, some false, some false] c5 c6 ?_
              refine zG ?_
              exact zEnx2 hz2 c5 c6
          · replace hz2 := condF c5 hz2
            refine zRox1 [none, none, none, none, some false, some false, some false, some false, some false] c5 ?_
            refine zG ?_
            exact zEnx1 hz2 c5
        exact zRet [(vB z2)]
      · replace h := condF c24 h
        refine zKd [1, 2] [true] ?_
        refine W_seqK ?_
        refine W_seqK ?_
        obtain ⟨y8, hy8, h⟩ := bC h
        refine zRo [none, none, none, none, none, none, none, none] ?_
        refine zG ?_
        refine zTs (ok_tree_List hy8) ?_
        refine zG ?_
        refine zD [1, 2, 55] [true] ?_
        refine W_cond (t := (cond (cond (!y8) true (decide (0 < (a0.Words.length : Int)))) true (decide (1048576 ≤ (a0.Kids.length : Int))))) rfl (fun c23 => ?_) (fun c23 => ?_)
        · replace h := condT c23 h
          refine zQ [4] ?_
          exact zRet [(vB false)]
        · replace h := condF c23 h
          refine zKd [1, 2] [true] ?_
          refine W_seqK ?_
          refine zQ [1, 2, 57] ?_
          refine W_block ?_
          refine zQ [1, 2, 57, 58] ?_
          refine W_cond (t := (a0.Kind == 8)) rfl (fun c22 => ?_) (fun c22 => ?_)
          · replace h := condT c22 h
            refine W_seqK ?_
            obtain ⟨y10, hy10, h⟩ := bC h
            refine zCd (ok_r_tree_allRight hy10) [4] [false] ?_
            exact zRet [(vB y10)]
          · replace h := condF c22 h
            refine zQ [1, 2, 65] ?_
            refine W_cond (t := (a0.Kind == 9)) rfl (fun c21 => ?_) (fun c21 => ?_)
            · replace h := condT c21 h
              obtain ⟨z13, hz13, h⟩ := bC h
              refine W_seqN (E' := ⟨83, [], [(4, (vB z13))]⟩) (O' := (Loc O n [none])) (n0 := (n + 1)) ?_ ?_
              · obtain ⟨y16, hy16, hz13⟩ := bC hz13
                rcases Bool.eq_false_or_eq_true y16 with c18 | c18
                · replace hz13 := condT c18 hz13
                  obtain ⟨y17, hy17, hz13⟩ := bC hz13
                  refine zRox1 [some true, some true, some true, some true, some true] c18 ?_
                  refine (ok_tree_allStructs hy16).then ?_
                  refine zX1 c18 ?_
                  refine (ok_r_tree_allRight hy17).then ?_
                  refine zX1 c18 ?_
                  exact zEnx1 hz13 c18
                · replace hz13 := condF c18 hz13
                  refine zRox1 [some false, some false, some false, some false, some false] c18 ?_
                  refine (ok_tree_allStructs hy16).then ?_
                  refine zX1 c18 ?_
                  exact zEnx1 hz13 c18
              exact zRet [(vB z13)]
            · replace h := condF c21 h
              refine zKd [2] [true] ?_
              refine W_seqK ?_
              obtain ⟨y20, hy20, h⟩ := bC h
              refine zCd (ok_r_tree_allAtoms hy20) [4] [false] ?_
              exact zRet [(vB y20)]

theorem okb_tree_allRight {r_tree_Right : (S_api_Tree → Option Bool)} {r_tree_right : (S_api_Tree → Int → Option Bool)} {r_tree_allRight : ((List S_api_Tree) → Int → Option Bool)} {r_tree_allAtoms : ((List S_api_Tree) → Int → Option Bool)} (ok_r_tree_Right : oT_r_tree_Right r_tree_Right) (ok_r_tree_right : oT_r_tree_right r_tree_right) (ok_r_tree_allRight : oT_r_tree_allRight r_tree_allRight) (ok_r_tree_allAtoms : oT_r_tree_allAtoms r_tree_allAtoms) {a0 : (List S_api_Tree)} {a1 : Int} {r : Bool} {O : Objs} {n : Nat} (h : b_tree_allRight r_tree_Right r_tree_right r_tree_allRight r_tree_allAtoms a0 a1 = some r) : GTo Try.prog 92 [(sL e_S_api_Tree a0), (vI a1)] O n ((vB r)) O n := by
  unfold b_tree_allRight at h
  refine zFn Try.call92 Try.func92 fun hU hN0 hN => ?_
  show W _ _ _ _ ⟨18, [], [(0, (sL e_S_api_Tree a0)), (1, (vI a1))]⟩ (Loc O n []) _
  refine zQ [0, 1] ?_
  refine W_seqK ?_
  refine zQd [1, 7, 8, 9] [1, 7, 8, 9] [] ?_
  obtain ⟨z7, hz7, h⟩ := bC h
  refine W_sumB (J := (SumJ (fun z7 => JR n (⟨18, [], [(4, (vB false))]⟩ : Env) (Loc O n []) n) (fun z7 => JX 0 n (⟨18, [], []⟩ : Env) (Loc O n []) n))) (z := z7) ?_ fun hw => ?_
  · refine W_loopJ hz7 (fun s0_ => ⟨18, [], [(1, (vI a1)), (7, (sL e_S_api_Tree a0)), (8, (vI (a0.length : Int))), (9, (vI s0_))]⟩) (fun s0_ => (Loc O n [])) (SumJ (fun z7 => JR n (⟨18, [], [(4, (vB false))]⟩ : Env) (Loc O n []) n) (fun z7 => JX 0 n (⟨18, [], []⟩ : Env) (Loc O n []) n)) ?_
    intro s0_ x0_ hs0_
    unfold b_tree_allRight_L0 at hs0_
    try dsimp only
    refine zQ [1, 7, 8, 9, 10] ?_
    refine W_seqK ?_
    refine W_cond (t := (decide (s0_ < (a0.length : Int)))) rfl (fun c6 => ?_) (fun c6 => ?_)
    · replace hs0_ := condT c6 hs0_
      refine zKd [1, 7, 8, 9] [] ?_
      refine W_seqK ?_
      refine W_block ?_
      refine W_seqK ?_
      obtain ⟨x2, hx2, ax2, bx2, cx2, hs0_⟩ := bE (f := e_S_api_Tree) tab29 (fun _ => rfl) (by decide) hs0_
      refine zRof3 [] ax2 bx2 cx2 ?_
      refine zDs [1, 6, 7, 8, 9] [true] ?_
      obtain ⟨y4, hy4, hs0_⟩ := bC hs0_
      refine zCd (ok_r_tree_right hy4) [1, 7, 8, 9, 16] [false] ?_
      refine W_cond (t := (!y4)) rfl (fun c5 => ?_) (fun c5 => ?_)
      · replace hs0_ := condT c5 hs0_
        refine zQ [4] ?_
        refine zW ?_
        exact zEy hs0_
      · replace hs0_ := condF c5 hs0_
        refine zKd [1, 7, 8, 9] [false] ?_
        refine zR ?_
        exact zEn hs0_
    · replace hs0_ := condF c6 hs0_
      exact zEx hs0_
  rcases z7 with z7 | z7
  · dsimp only [SumJ] at hw h
    refine W_blockR hw ?_
    try simp only [gthen, gblock, ↓reduceIte, Nat.reduceEqDiff]
    exact zFin [(vB false)]
  · dsimp only [SumJ] at hw h
    refine W_blockX hw ?_
    try simp only [gthen, gblock, ↓reduceIte, Nat.reduceEqDiff]
    refine zD [] [] ?_
    refine zQ [4] ?_
    exact zRet [(vB true)]

theorem okb_tree_allAtoms {r_tree_Right : (S_api_Tree → Option Bool)} {r_tree_right : (S_api_Tree → Int → Option Bool)} {r_tree_allRight : ((List S_api_Tree) → Int → Option Bool)} {r_tree_allAtoms : ((List S_api_Tree) → Int → Option Bool)} (ok_r_tree_Right : oT_r_tree_Right r_tree_Right) (ok_r_tree_right : oT_r_tree_right r_tree_right) (ok_r_tree_allRight : oT_r_tree_allRight r_tree_allRight) (ok_r_tree_allAtoms : oT_r_tree_allAtoms r_tree_allAtoms) {a0 : (List S_api_Tree)} {a1 : Int} {r : Bool} {O : Objs} {n : Nat} (h : b_tree_allAtoms r_tree_Right r_tree_right r_tree_allRight r_tree_allAtoms a0 a1 = some r) : GTo Try.prog 95 [(sL e_S_api_Tree a0), (vI a1)] O n ((vB r)) O n := by
  unfold b_tree_allAtoms at h
  refine zFn Try.call95 Try.func95 fun hU hN0 hN => ?_
  show W _ _ _ _ ⟨31, [], [(0, (sL e_S_api_Tree a0)), (1, (vI a1))]⟩ (Loc O n []) _
  refine zQ [0, 1] ?_
  refine W_seqK ?_
  refine zQd [1, 7, 8, 9] [1, 7, 8, 9] [] ?_
  obtain ⟨z17, hz17, h⟩ := bC h
  refine W_sumB (J := (SumJ (fun z17 => JR n (⟨31, [], [(4, (vB false))]⟩ : Env) (Loc O n []) n) (fun z17 => JX 0 n (⟨31, [], []⟩ : Env) (Loc O n []) n))) (z := z17) ?_ fun hw => ?_
  · refine W_loopJ hz17 (fun s0_ => ⟨31, [], [(1, (vI a1)), (7, (sL e_S_api_Tree a0)), (8, (vI (a0.length : Int))), (9, (vI s0_))]⟩) (fun s0_ => (Loc O n [])) (SumJ (fun z17 => JR n (⟨31, [], [(4, (vB false))]⟩ : Env) (Loc O n []) n) (fun z17 => JX 0 n (⟨31, [], []⟩ : Env) (Loc O n []) n)) ?_
    intro s0_ x0_ hs0_
    unfold b_tree_allAtoms_L0 at hs0_
    try dsimp only
    refine zQ [1, 7, 8, 9, 10] ?_
    refine W_seqK ?_
    refine W_cond (t := (decide (s0_ < (a0.length : Int)))) rfl (fun c16 => ?_) (fun c16 => ?_)
    · replace hs0_ := condT c16 hs0_
      refine zKd [1, 7, 8, 9] [] ?_
      refine W_seqK ?_
      refine W_block ?_
      refine W_seqK ?_
      obtain ⟨x2, hx2, ax2, bx2, cx2, hs0_⟩ := bE (f := e_S_api_Tree) tab29 (fun _ => rfl) (by decide) hs0_
      refine zRof3 [] ax2 bx2 cx2 ?_
      refine zD [1, 6, 7, 8, 9] [true] ?_
      obtain ⟨z6, hz6, hs0_⟩ := bC hs0_
      refine W_seqN (E' := ⟨31, [], [(1, (vI a1)), (7, (sL e_S_api_Tree a0)), (8, (vI (a0.length : Int))), (9, (vI s0_)), (29, (vB z6))]⟩) (O' := (Loc O n [none])) (n0 := (n + 1)) ?_ ?_
      · rcases Bool.eq_false_or_eq_true (x2.Kind != 10) with c13 | c13
        · replace hz6 := condT c13 hz6
          refine zRox1 [some false, some false, some false, some false, some false, some false, some false, some false, some false, some false] c13 ?_
          exact zEnx1 hz6 c13
        · replace hz6 := condF c13 hz6
          obtain ⟨y10, hy10, hz6⟩ := bC hz6
          rcases Bool.eq_false_or_eq_true y10 with c14 | c14
          · replace hz6 := condT c14 hz6
            try rw [c14] at c13
            obtain ⟨x11, hx11, ax11, bx11, cx11, hz6⟩ := bE (f := (eI .u64)) tab63 (fun _ => rfl) (by decide) hz6
            obtain ⟨y12, hy12, hz6⟩ := bC hz6
            refine zRof5 [some true, some true, some true, some true, some true, some true, some true, some true, some true, some true] c13 c14 ax11 bx11 cx11 ?_
            refine (ok_r_tree_Right hy10).then ?_
            refine zF5 c13 c14 ax11 bx11 cx11 ?_
            refine (ok_word_Fits hy12).then ?_
            refine zF5 c13 c14 ax11 bx11 cx11 ?_
            exact zEnf5 hz6 c13 c14 ax11 bx11 cx11
          · replace hz6 := condF c14 hz6
            try rw [c14] at c13
            refine zRox2 [some true, some true, some true, some false, some false, some false, some false, some false, some false, some false] c13 c14 ?_
            refine (ok_r_tree_Right hy10).then ?_
            refine zX2 c13 c14 ?_
            exact zEnx2 hz6 c13 c14
      refine W_cond (t := z6) rfl (fun c15 => ?_) (fun c15 => ?_)
      · replace hs0_ := condT c15 hs0_
        refine zQ [4] ?_
        refine zW ?_
        exact zEy hs0_
      · replace hs0_ := condF c15 hs0_
        refine zKd [1, 7, 8, 9] [false] ?_
        refine zR ?_
        exact zEn hs0_
    · replace hs0_ := condF c16 hs0_
      exact zEx hs0_
  rcases z17 with z17 | z17
  · dsimp only [SumJ] at hw h
    refine W_blockR hw ?_
    try simp only [gthen, gblock, ↓reduceIte, Nat.reduceEqDiff]
    exact zFin [(vB false)]
  · dsimp only [SumJ] at hw h
    refine W_blockX hw ?_
    try simp only [gthen, gblock, ↓reduceIte, Nat.reduceEqDiff]
    refine zD [] [] ?_
    refine zQ [4] ?_
    exact zRet [(vB true)]

theorem lv_tree_Right_ok : ∀ k, (oT_r_tree_Right ((lv_tree_Right k).1)) ∧ (oT_r_tree_right ((lv_tree_Right k).2.1)) ∧ (oT_r_tree_allRight ((lv_tree_Right k).2.2.1)) ∧ (oT_r_tree_allAtoms ((lv_tree_Right k).2.2.2)) := fun k => by
  induction k with
  | zero => exact ⟨@fun a0 r O n h => (nomatch (show (none : Option _) = some _ from h)), @fun a0 a1 r O n h => (nomatch (show (none : Option _) = some _ from h)), @fun a0 a1 r O n h => (nomatch (show (none : Option _) = some _ from h)), @fun a0 a1 r O n h => (nomatch (show (none : Option _) = some _ from h))⟩
  | succ k ih => exact ⟨@fun a0 r O n h => okb_tree_Right (ih.1) (ih.2.1) (ih.2.2.1) (ih.2.2.2)  h, @fun a0 a1 r O n h => okb_tree_right (ih.1) (ih.2.1) (ih.2.2.1) (ih.2.2.2)  h, @fun a0 a1 r O n h => okb_tree_allRight (ih.1) (ih.2.1) (ih.2.2.1) (ih.2.2.2)  h, @fun a0 a1 r O n h => okb_tree_allAtoms (ih.1) (ih.2.1) (ih.2.2.1) (ih.2.2.2)  h⟩

theorem ok_tree_Right {a0 : S_api_Tree} {r : Bool} {O : Objs} {n : Nat} (h : m_tree_Right a0 = some r) : GTo Try.prog 36 [.agg (c_S_api_Tree a0)] O n ((vB r)) O n := by
  obtain ⟨k, hk⟩ := lim_some h
  exact (lv_tree_Right_ok k).1  hk

theorem ok_tree_right {a0 : S_api_Tree} {a1 : Int} {r : Bool} {O : Objs} {n : Nat} (h : m_tree_right a0 a1 = some r) : GTo Try.prog 60 [.agg (c_S_api_Tree a0), (vI a1)] O n ((vB r)) O n := by
  obtain ⟨k, hk⟩ := lim_some h
  exact (lv_tree_Right_ok k).2.1  hk

theorem ok_tree_allRight {a0 : (List S_api_Tree)} {a1 : Int} {r : Bool} {O : Objs} {n : Nat} (h : m_tree_allRight a0 a1 = some r) : GTo Try.prog 92 [(sL e_S_api_Tree a0), (vI a1)] O n ((vB r)) O n := by
  obtain ⟨k, hk⟩ := lim_some h
  exact (lv_tree_Right_ok k).2.2.1  hk

theorem ok_tree_allAtoms {a0 : (List S_api_Tree)} {a1 : Int} {r : Bool} {O : Objs} {n : Nat} (h : m_tree_allAtoms a0 a1 = some r) : GTo Try.prog 95 [(sL e_S_api_Tree a0), (vI a1)] O n ((vB r)) O n := by
  obtain ⟨k, hk⟩ := lim_some h
  exact (lv_tree_Right_ok k).2.2.2  hk

theorem ok_tree_trimWords {a0 : (List Int)} {r : (List Int)} {O : Objs} {n : Nat} (h : m_tree_trimWords a0 = some r) : GTo Try.prog 57 [(sL (eI .u64) a0)] O n ((sL (eI .u64) r)) O n := by
  unfold m_tree_trimWords at h
  refine zFn Try.call57 Try.func57 fun hU hN0 hN => ?_
  show W _ _ _ _ ⟨22, [], [(0, (sL (eI .u64) a0))]⟩ (Loc O n []) _
  refine zQ [0] ?_
  refine zQ [0, 3] ?_
  refine W_seqK ?_
  refine zD [0, 3] [] ?_
  obtain ⟨z7, hz7, h⟩ := bC h
  refine W_blockX (E' := ⟨22, [], [(0, (sL (eI .u64) a0)), (3, (vI z7))]⟩) (O' := (Loc O n [])) (n0 := n) ?_ ?_
  · refine W_loopJ hz7 (fun s0_ => ⟨22, [], [(0, (sL (eI .u64) a0)), (3, (vI s0_))]⟩) (fun s0_ => (Loc O n [])) (fun z7 => JX 0 n (⟨22, [], [(0, (sL (eI .u64) a0)), (3, (vI z7))]⟩ : Env) (Loc O n []) n) ?_
    intro s0_ x0_ hs0_
    unfold m_tree_trimWords_L0 at hs0_
    try dsimp only
    refine W_seqK ?_
    obtain ⟨z2, hz2, hs0_⟩ := bC hs0_
    refine W_seqN (E' := ⟨22, [], [(0, (sL (eI .u64) a0)), (3, (vI s0_)), (15, (vB z2))]⟩) (O' := (Loc O n [])) (n0 := n) ?_ ?_
    · rcases Bool.eq_false_or_eq_true (decide (0 < s0_)) with c5 | c5
      · replace hz2 := condT c5 hz2
        obtain ⟨x4, hx4, ax4, bx4, cx4, hz2⟩ := bE (f := (eI .u64)) tab63 (fun _ => rfl) (by decide) hz2
        refine zRof4 [some true, some true, some true, some true, some true, some true] c5 ax4 bx4 cx4 ?_
        exact zEnf4 hz2 c5 ax4 bx4 cx4
      · replace hz2 := condF c5 hz2
        refine zRox1 [some false, some false, some false, some false, some false, some false] c5 ?_
        exact zEnx1 hz2 c5
    refine W_cond (t := z2) rfl (fun c6 => ?_) (fun c6 => ?_)
    · replace hs0_ := condT c6 hs0_
      refine zKd [0, 3] [] ?_
      refine W_block ?_
      refine zR ?_
      exact zEn hs0_
    · replace hs0_ := condF c6 hs0_
      exact zEx hs0_
  try simp only [gthen, gblock, ↓reduceIte, Nat.reduceEqDiff]
  refine zD [0, 3] [] ?_
  obtain ⟨l9, al9, bl9, cl9, gl9, h⟩ := bS3 (lo := none) (hi := (.i64, z7)) (f := (eI .u64)) rfl rfl tkind26 tab63 (fun _ => rfl) h
  refine zQx4 [2] al9 bl9 cl9 gl9 ?_
  exact zRet [(sL (eI .u64) l9)]

theorem ok_tree_trimKids {a0 : (List S_api_Tree)} {r : (List S_api_Tree)} {O : Objs} {n : Nat} (h : m_tree_trimKids a0 = some r) : GTo Try.prog 58 [(sL e_S_api_Tree a0)] O n ((sL e_S_api_Tree r)) O n := by
  unfold m_tree_trimKids at h
  refine zFn Try.call58 Try.func58 fun hU hN0 hN => ?_
  show W _ _ _ _ ⟨23, [], [(0, (sL e_S_api_Tree a0))]⟩ (Loc O n []) _
  refine zQ [0] ?_
  refine zQ [0, 3] ?_
  refine W_seqK ?_
  refine zD [0, 3] [] ?_
  obtain ⟨z10, hz10, h⟩ := bC h
  refine W_blockX (E' := ⟨23, [], [(0, (sL e_S_api_Tree a0)), (3, (vI z10))]⟩) (O' := (Loc O n [])) (n0 := n) ?_ ?_
  · refine W_loopJ hz10 (fun s0_ => ⟨23, [], [(0, (sL e_S_api_Tree a0)), (3, (vI s0_))]⟩) (fun s0_ => (Loc O n [])) (fun z10 => JX 0 n (⟨23, [], [(0, (sL e_S_api_Tree a0)), (3, (vI z10))]⟩ : Env) (Loc O n []) n) ?_
    intro s0_ x0_ hs0_
    unfold m_tree_trimKids_L0 at hs0_
    try dsimp only
    refine W_seqK ?_
    obtain ⟨z3, hz3, hs0_⟩ := bC hs0_
    refine W_seqN (E' := ⟨23, [], [(0, (sL e_S_api_Tree a0)), (3, (vI s0_)), (16, (vB z3))]⟩) (O' := (Loc O n [])) (n0 := n) ?_ ?_
    · rcases Bool.eq_false_or_eq_true (decide (0 < s0_)) with c8 | c8
      · replace hz3 := condT c8 hz3
        obtain ⟨x6, hx6, ax6, bx6, cx6, hz3⟩ := bE (f := e_S_api_Tree) tab29 (fun _ => rfl) (by decide) hz3
        have g7 := gpart_fld0 (f := e_S_api_Tree) (sz := 3) tab3 (fun _ => rfl) (by decide) (by decide) hx6
        refine zRof5 [some true, some true, some true, some true, some true, some true, some true] c8 ax6 bx6 cx6 g7 ?_
        exact zEnf5 hz3 c8 ax6 bx6 cx6 g7
      · replace hz3 := condF c8 hz3
        refine zRox1 [some false, some false, some false, some false, some false, some false, some false] c8 ?_
        exact zEnx1 hz3 c8
    refine W_cond (t := z3) rfl (fun c9 => ?_) (fun c9 => ?_)
    · replace hs0_ := condT c9 hs0_
      refine zKd [0, 3] [] ?_
      refine W_block ?_
      refine zR ?_
      exact zEn hs0_
    · replace hs0_ := condF c9 hs0_
      exact zEx hs0_
  try simp only [gthen, gblock, ↓reduceIte, Nat.reduceEqDiff]
  refine zD [0, 3] [] ?_
  obtain ⟨l12, al12, bl12, cl12, gl12, h⟩ := bS3 (lo := none) (hi := (.i64, z10)) (f := e_S_api_Tree) rfl rfl tkind27 tab29 (fun _ => rfl) h
  refine zQx4 [2] al12 bl12 cl12 gl12 ?_
  exact zRet [(sL e_S_api_Tree l12)]

def oT_r_tree_Norm (r_tree_Norm : (S_api_Tree → Option S_api_Tree)) : Prop := ∀ {a0 : S_api_Tree} {r : S_api_Tree} {O : Objs} {n : Nat}, r_tree_Norm a0 = some r → GTo Try.prog 33 [.agg (c_S_api_Tree a0)] O n (.agg (c_S_api_Tree r)) O n
theorem okb_tree_Norm {r_tree_Norm : (S_api_Tree → Option S_api_Tree)} (ok_r_tree_Norm : oT_r_tree_Norm r_tree_Norm) {a0 : S_api_Tree} {r : S_api_Tree} {O : Objs} {n : Nat} (h : b_tree_Norm r_tree_Norm a0 = some r) : GTo Try.prog 33 [.agg (c_S_api_Tree a0)] O n (.agg (c_S_api_Tree r)) O n := by
  unfold b_tree_Norm at h
  refine zFn Try.call33 Try.func33 fun hU hN0 hN => ?_
  show W _ _ _ _ ⟨49, [], [(0, .agg (c_S_api_Tree a0))]⟩ (Loc O n []) _
  refine zQ [1, 2] ?_
  refine W_seqK ?_
  refine zQ [1, 2, 10] ?_
  refine W_cond (t := (a0.Kind == 0)) rfl (fun c15 => ?_) (fun c15 => ?_)
  · replace h := condT c15 h
    refine W_seqK ?_
    refine zRd [2] [false, true] ?_
    exact zRet [.agg [(vI 0), nV, nV]]
  · replace h := condF c15 h
    refine zKd [1, 2] [true, true] ?_
    refine W_sq [1, 2, 3, 4] (W_drawD tab_ok (by kernel_rfl) [] (by kernel_rfl) ?_)
    refine zS ?_
    obtain ⟨z1, hz1, h⟩ := bC h
    refine W_seqN (E' := ⟨49, [], [(1, .ref n 0), (2, .ref (n + 1) 0), (3, (sL (eI .u64) z1.1)), (4, (sL e_S_api_Tree z1.2))]⟩) (O' := (Loc O n [some ⟨false, 29, 3, 1, (c_S_api_Tree a0)⟩, some ⟨false, 29, 3, 1, [(vI 0), nV, nV]⟩])) (n0 := (n + 2)) ?_ ?_
    · refine zQ [1, 2, 3, 4, 18] ?_
      refine W_cond (t := (a0.Kind == 1)) rfl (fun c4 => ?_) (fun c4 => ?_)
      · replace hz1 := condT c4 hz1
        obtain ⟨y2, hy2, hz1⟩ := bC hz1
        obtain ⟨y3, hy3, hz1⟩ := bC hz1
        refine zC (ok_tree_trimWords hy2) ?_
        refine zTs (ok_tree_trimKids hy3) ?_
        exact zEn hz1
      · replace hz1 := condF c4 hz1
        refine zK ?_
        exact zEn hz1
    refine W_seqK ?_
    refine zRd [2, 4, 5] [false, true, true] ?_
    obtain ⟨z5, hz5, h⟩ := bC h
    refine W_seqN (E' := ⟨49, [], [(2, .ref (n + 1) 0), (4, (sL e_S_api_Tree z1.2)), (5, .ref (n + 2) 0)]⟩) (O' := (Loc O n [none, some ⟨false, 29, 3, 1, [(vI 0), nV, nV]⟩, some ⟨false, 29, 3, 1, [(vI a0.Kind), (sL (eI .u64) z1.1), .row (n + 4) z5.length]⟩, none, some (oR 29 3 e_S_api_Tree z5), none])) (n0 := (n + 6)) ?_ ?_
    · refine zQ [2, 4, 5, 29] ?_
      refine W_cond (t := (decide (0 < (z1.2.length : Int)))) rfl (fun c7 => ?_) (fun c7 => ?_)
      · replace hz5 := condT c7 hz5
        obtain ⟨l6, al6, bl6, cl6, el6, hz5⟩ := bM2 (c := 56) rfl hz5
        have nl6 : Int.toNat (z1.2.length : Int) = List.length l6 := by rw [el6, List.length_replicate]
        have fl6 : ∀ O O' n, wkl O O' n (List.replicate (List.length l6) [.val (.int .i64 0), .val (.slice none 0 0), .val (.slice none 0 0)]).flatten (fl e_S_api_Tree l6) = True := fun O O' n => by rw [← nl6, el6]; exact eq_true (wkl_repl (by simp only [push_cast, seval, ↓reduceIte, cast_lit]) _)
        clear el6
        refine W_regionD tab_ok [] ?_
        simp only [push_cast, seval, ↓reduceIte, cast_lit, al6, bl6, cl6, fl6, nl6, hN0, hN]
        have hz5 := Option.some.inj hz5; subst hz5
        refine And.intro rfl ?_
        refine Fit2.trans (E' := (⟨49, [], [(2, .ref (n + 1) 0), (4, (sL e_S_api_Tree z1.2)), (5, .ref (n + 2) 0)]⟩ : Env)) (O' := (Loc O n [none, some ⟨false, 29, 3, 1, [(vI 0), nV, nV]⟩, some ⟨false, 29, 3, 1, [(vI a0.Kind), (sL (eI .u64) z1.1), .row (n + 3) l6.length]⟩, some (oR 29 3 e_S_api_Tree l6)])) (n' := (n + 4)) (Fit2.of (fit_loc hU rfl rfl ?_) (by omega)) ?_
        · simp only [push_cast, seval, ↓reduceIte, cast_lit, al6, bl6, cl6, fl6, nl6, hN0, hN]
        refine ren_fit (k := 4) (k' := 6) hU [5, 1, 2, 4] [0, 1, 2, 0, 3, 0] rfl rfl rfl rfl ⟨rfl, rfl⟩ ?_
        exact zSe
      · replace hz5 := condF c7 hz5
        refine zK ?_
        have hz5 := Option.some.inj hz5; subst hz5
        refine And.intro rfl ?_
        refine Fit2.trans (E' := (⟨49, [], [(2, .ref (n + 1) 0), (4, (sL e_S_api_Tree z1.2)), (5, .ref (n + 2) 0)]⟩ : Env)) (O' := (Loc O n [none, some ⟨false, 29, 3, 1, [(vI 0), nV, nV]⟩, some ⟨false, 29, 3, 1, [(vI a0.Kind), (sL (eI .u64) z1.1), nV]⟩])) (n' := (n + 3)) (Fit2.of (fit_loc hU rfl rfl ?_) (by omega)) ?_
        · exact zSe
        refine Fit2.trans (adoptF_fit (p := (n + 2)) (k := 2) (q := ⟨false, 29, 3, 1, [(vI a0.Kind), (sL (eI .u64) z1.1), nV]⟩) 29 3 (by simp only [Loc_at, Loc_at0, List.getElem?_cons_zero, List.getElem?_cons_succ, Option.join_some, List.length_nil, upd_same]) rfl (by omega)) ?_
        simp only [Loc_push, Loc_push0, Loc_upd, Loc_upd0, List.set_cons_zero, List.set_cons_succ, List.cons_append, List.nil_append, List.length_cons, List.length_nil, Nat.zero_add, Nat.reduceAdd, Nat.reduceLT, Nat.add_assoc]
        refine ren_fit (k := 4) (k' := 6) hU [5, 1, 2, 4] [0, 1, 2, 0, 3, 0] rfl rfl rfl rfl ⟨rfl, rfl⟩ ?_
        exact zSe
    refine W_seqK ?_
    refine zQd [2, 5, 34, 35, 36] [2, 5, 34, 35, 36] [false, true, true, false, true, false] ?_
    obtain ⟨z14, hz14, h⟩ := bC h
    refine W_blockX (E' := ⟨49, [], [(2, .ref (n + 1) 0), (5, .ref (n + 2) 0)]⟩) (O' := (Loc O n [none, some ⟨false, 29, 3, 1, [(vI 0), nV, nV]⟩, some ⟨false, 29, 3, 1, [(vI a0.Kind), (sL (eI .u64) z1.1), .row (n + 4) z14.length]⟩, none, some (oR 29 3 e_S_api_Tree z14), none])) (n0 := (n + 6)) ?_ ?_
    · refine W_loopJ hz14 (fun s0_ => ⟨49, [], [(2, .ref (n + 1) 0), (5, .ref (n + 2) 0), (34, (sL e_S_api_Tree z1.2)), (35, (vI (z1.2.length : Int))), (36, (vI s0_.1))]⟩) (fun s0_ => (Loc O n [none, some ⟨false, 29, 3, 1, [(vI 0), nV, nV]⟩, some ⟨false, 29, 3, 1, [(vI a0.Kind), (sL (eI .u64) z1.1), .row (n + 4) s0_.2.length]⟩, none, some (oR 29 3 e_S_api_Tree s0_.2), none])) (fun z14 => JX 0 n (⟨49, [], [(2, .ref (n + 1) 0), (5, .ref (n + 2) 0)]⟩ : Env) (Loc O n [none, some ⟨false, 29, 3, 1, [(vI 0), nV, nV]⟩, some ⟨false, 29, 3, 1, [(vI a0.Kind), (sL (eI .u64) z1.1), .row (n + 4) z14.length]⟩, none, some (oR 29 3 e_S_api_Tree z14), none]) (n + 6)) ?_
      intro s0_ x0_ hs0_
      unfold b_tree_Norm_L0 at hs0_
      try dsimp only
      refine zQ [2, 5, 34, 35, 36, 37] ?_
      refine W_seqK ?_
      refine W_cond (t := (decide (s0_.1 < (z1.2.length : Int)))) rfl (fun c13 => ?_) (fun c13 => ?_)
      · replace hs0_ := condT c13 hs0_
        refine zKd [2, 5, 34, 35, 36] [false, true, true, false, true, false] ?_
        refine W_seqK ?_
        refine W_block ?_
        refine W_seqK ?_
        obtain ⟨x9, hx9, ax9, bx9, cx9, hs0_⟩ := bE (f := e_S_api_Tree) tab29 (fun _ => rfl) (by decide) hs0_
        refine zRof3 [] ax9 bx9 cx9 ?_
        refine zD [2, 5, 6, 7, 34, 35, 36] [false, true, true, false, true, false, true] ?_
        obtain ⟨y10, hy10, hs0_⟩ := bC hs0_
        obtain ⟨x11, hx11, ax11, bx11, cx11, hs0_⟩ := bE (f := e_S_api_Tree) tab29 (fun _ => rfl) (by decide) hs0_
        have gu12 : gplace (fl e_S_api_Tree s0_.2) [.val (.int .i64 y10.Kind), .sl y10.Words.length (fl (eI .u64) y10.Words), .sl y10.Kids.length (fl e_S_api_Tree y10.Kids)] (Int.toNat s0_.1 * 3) = some (fl e_S_api_Tree (setI s0_.2 s0_.1 y10)) := (congrArg (fun c => gplace (fl e_S_api_Tree s0_.2) c (Int.toNat s0_.1 * 3)) (show [.val (.int .i64 y10.Kind), .sl y10.Words.length (fl (eI .u64) y10.Words), .sl y10.Kids.length (fl e_S_api_Tree y10.Kids)] = e_S_api_Tree y10 from by simp only [e_S_api_Tree, e0_eq_S_api_Tree, eI, eB, eS, eL])).trans (gplace_el (f := e_S_api_Tree) (ti := ⟨.bool, 3, 0, [], false⟩) (x := y10) (fun _ => rfl) (getI_nat hx11))
        refine W_drawF tab_ok (by kernel_rfl) [false, false, false, false, false, false, true] [] (by kernel_rfl) ?_
        refine zF4 ax11 bx11 cx11 gu12 ?_
        refine PCall.of (ok_r_tree_Norm hy10) ?_
        refine zF4 ax11 bx11 cx11 gu12 ?_
        refine zD [2, 5, 34, 35, 36] [false, true, true, false, true, false, false] ?_
        refine zR ?_
        exact zEn hs0_
      · replace hs0_ := condF c13 hs0_
        exact zEx hs0_
    try simp only [gthen, gblock, ↓reduceIte, Nat.reduceEqDiff]
    refine zDs [2, 5] [false, true, true, false, true, false] ?_
    refine zRd [2] [false, true, false, false, true, false] ?_
    exact zRet [.agg [(vI a0.Kind), (sL (eI .u64) z1.1), .row (n + 4) z14.length]]

theorem lv_tree_Norm_ok : ∀ k, (oT_r_tree_Norm (lv_tree_Norm k)) := fun k => by
  induction k with
  | zero => exact @fun a0 r O n h => (nomatch (show (none : Option _) = some _ from h))
  | succ k ih => exact @fun a0 r O n h => okb_tree_Norm (ih)  h

theorem ok_tree_Norm {a0 : S_api_Tree} {r : S_api_Tree} {O : Objs} {n : Nat} (h : m_tree_Norm a0 = some r) : GTo Try.prog 33 [.agg (c_S_api_Tree a0)] O n (.agg (c_S_api_Tree r)) O n := by
  obtain ⟨k, hk⟩ := lim_some h
  exact (lv_tree_Norm_ok k)  hk

theorem ok_tree_Data {a0 : Int} {r : Bool} {O : Objs} {n : Nat} (h : m_tree_Data a0 = some r) : GTo Try.prog 97 [(vI a0)] O n ((vB r)) O n := by
  unfold m_tree_Data at h
  refine zFn Try.call97 Try.func97 fun hU hN0 hN => ?_
  show W _ _ _ _ ⟨9, [], [(0, (vI a0))]⟩ (Loc O n []) _
  refine zQ [0] ?_
  refine zQD [2] [none, none] ?_
  exact zRet [(vB (cond (decide (2 ≤ a0)) (decide (a0 ≤ 7)) false))]

theorem ok_word_Room {a0 : Int} {a1 : Int} {r : Int} {O : Objs} {n : Nat} (h : m_word_Room a0 a1 = some r) : GTo Try.prog 98 [(vI a0), (vI a1)] O n ((vI r)) O n := by
  unfold m_word_Room at h
  refine zFn Try.call98 Try.func98 fun hU hN0 hN => ?_
  show W _ _ _ _ ⟨27, [], [(0, (vI a0)), (1, (vI a1))]⟩ (Loc O n []) _
  refine zQ [0, 1] ?_
  refine W_seqK ?_
  obtain ⟨y2, hy2, h⟩ := bC h
  refine zCd (ok_word_Width hy2) [1, 5, 6] [] ?_
  refine W_seqK ?_
  refine zQD [1, 5, 21] [none, none, none, none] ?_
  refine W_cond (t := (cond (cond (!y2.2) true (decide (a1 < 0))) true (decide (1099511627776 < a1)))) rfl (fun c3 => ?_) (fun c3 => ?_)
  · replace h := condT c3 h
    refine zQ [4] ?_
    exact zRet [(vI 0)]
  · replace h := condF c3 h
    refine zKd [1, 5] [] ?_
    refine zQ [4] ?_
    exact zRet [(vI (IntKind.i64.wrap (Int.tdiv (IntKind.i64.wrap ((IntKind.i64.wrap (a1 * y2.1)) + 63)) 64)))]

theorem ok_tree_Frame {a0 : S_api_Tree} {r : (Int × Int)} {O : Objs} {n : Nat} (h : m_tree_Frame a0 = some r) : GTo Try.prog 99 [.agg (c_S_api_Tree a0)] O n (.tup [(vI r.1), (vI r.2)]) O n := by
  unfold m_tree_Frame at h
  refine zFn Try.call99 Try.func99 fun hU hN0 hN => ?_
  show W _ _ _ _ ⟨28, [], [(0, .agg (c_S_api_Tree a0))]⟩ (Loc O n []) _
  refine zQ [1] ?_
  refine zQ [1, 4, 5] ?_
  refine W_seqK ?_
  refine zQd [4, 5, 9, 10, 11] [4, 5, 9, 10, 11] [false] ?_
  obtain ⟨z4, hz4, h⟩ := bC h
  refine W_blockX (E' := ⟨28, [], [(4, (vI z4.1)), (5, (vI z4.2))]⟩) (O' := (Loc O n [none])) (n0 := (n + 1)) ?_ ?_
  · refine W_loopJ hz4 (fun s0_ => ⟨28, [], [(4, (vI s0_.1)), (5, (vI s0_.2.1)), (9, (sL e_S_api_Tree a0.Kids)), (10, (vI (a0.Kids.length : Int))), (11, (vI s0_.2.2))]⟩) (fun s0_ => (Loc O n [none])) (fun z4 => JX 0 n (⟨28, [], [(4, (vI z4.1)), (5, (vI z4.2))]⟩ : Env) (Loc O n [none]) (n + 1)) ?_
    intro s0_ x0_ hs0_
    unfold m_tree_Frame_L0 at hs0_
    try dsimp only
    refine zQ [4, 5, 9, 10, 11, 12] ?_
    refine W_seqK ?_
    refine W_cond (t := (decide (s0_.2.2 < (a0.Kids.length : Int)))) rfl (fun c3 => ?_) (fun c3 => ?_)
    · replace hs0_ := condT c3 hs0_
      refine zKd [4, 5, 9, 10, 11] [false] ?_
      refine W_seqK ?_
      refine W_block ?_
      refine W_seqK ?_
      obtain ⟨x2, hx2, ax2, bx2, cx2, hs0_⟩ := bE (f := e_S_api_Tree) tab29 (fun _ => rfl) (by decide) hs0_
      refine zRof3 [] ax2 bx2 cx2 ?_
      refine zD [4, 5, 7, 9, 10, 11] [false, true] ?_
      refine W_drawD tab_ok (by kernel_rfl) [] (by kernel_rfl) ?_
      refine zS ?_
      refine zD [4, 5, 9, 10, 11] [false, false] ?_
      refine zR ?_
      exact zEn hs0_
    · replace hs0_ := condF c3 hs0_
      exact zEx hs0_
  try simp only [gthen, gblock, ↓reduceIte, Nat.reduceEqDiff]
  refine zD [4, 5] [false] ?_
  refine zQ [2, 3] ?_
  exact zRet [(vI z4.1), (vI z4.2)]

def oT_r_tree_size (r_tree_size : (S_api_Tree → Option Int)) : Prop := ∀ {a0 : S_api_Tree} {r : Int} {O : Objs} {n : Nat}, r_tree_size a0 = some r → GTo Try.prog 61 [.agg (c_S_api_Tree a0)] O n ((vI r)) O n
def oT_r_tree_sizes (r_tree_sizes : ((List S_api_Tree) → Option Int)) : Prop := ∀ {a0 : (List S_api_Tree)} {r : Int} {O : Objs} {n : Nat}, r_tree_sizes a0 = some r → GTo Try.prog 96 [(sL e_S_api_Tree a0)] O n ((vI r)) O n
theorem okb_tree_size {r_tree_size : (S_api_Tree → Option Int)} {r_tree_sizes : ((List S_api_Tree) → Option Int)} (ok_r_tree_size : oT_r_tree_size r_tree_size) (ok_r_tree_sizes : oT_r_tree_sizes r_tree_sizes) {a0 : S_api_Tree} {r : Int} {O : Objs} {n : Nat} (h : b_tree_size r_tree_size r_tree_sizes a0 = some r) : GTo Try.prog 61 [.agg (c_S_api_Tree a0)] O n ((vI r)) O n := by
  unfold b_tree_size at h
  refine zFn Try.call61 Try.func61 fun hU hN0 hN => ?_
  show W _ _ _ _ ⟨76, [], [(0, .agg (c_S_api_Tree a0))]⟩ (Loc O n []) _
  refine zQ [1] ?_
  refine W_seqK ?_
  refine W_block ?_
  refine zQ [1, 8] ?_
  refine W_cond (t := (a0.Kind == 1)) rfl (fun c19 => ?_) (fun c19 => ?_)
  · replace h := condT c19 h
    refine W_seqK ?_
    obtain ⟨y2, hy2, h⟩ := bC h
    refine W_drawD tab_ok (by kernel_rfl) [] (by kernel_rfl) ?_
    refine zS ?_
    refine PCall.of (ok_r_tree_sizes hy2) ?_
    refine zS ?_
    refine zD [2] [false] ?_
    exact zRet [(vI (IntKind.i64.wrap ((IntKind.i64.wrap ((a0.Words.length : Int) + (a0.Kids.length : Int))) + y2)))]
  · replace h := condF c19 h
    refine W_seqK ?_
    obtain ⟨y4, hy4, h⟩ := bC h
    refine zCd (ok_tree_Data hy4) [1, 23] [true] ?_
    refine W_cond (t := y4) rfl (fun c18 => ?_) (fun c18 => ?_)
    · replace h := condT c18 h
      refine W_seqK ?_
      obtain ⟨y6, hy6, h⟩ := bC h
      refine zCd (ok_word_Room hy6) [2] [false] ?_
      exact zRet [(vI y6)]
    · replace h := condF c18 h
      refine zQ [1, 34] ?_
      refine W_cond (t := (a0.Kind == 8)) rfl (fun c17 => ?_) (fun c17 => ?_)
      · replace h := condT c17 h
        refine W_seqK ?_
        obtain ⟨y8, hy8, h⟩ := bC h
        refine W_drawD tab_ok (by kernel_rfl) [] (by kernel_rfl) ?_
        refine zS ?_
        refine PCall.of (ok_r_tree_sizes hy8) ?_
        refine zS ?_
        refine zD [2] [false] ?_
        exact zRet [(vI (IntKind.i64.wrap ((a0.Kids.length : Int) + y8)))]
      · replace h := condF c17 h
        refine zQ [1, 45] ?_
        refine W_cond (t := (a0.Kind == 9)) rfl (fun c16 => ?_) (fun c16 => ?_)
        · replace h := condT c16 h
          refine W_seqK ?_
          obtain ⟨y10, hy10, h⟩ := bC h
          refine zCd (ok_tree_Frame hy10) [1, 3, 4] [true] ?_
          refine zQ [1, 5] ?_
          refine W_seqK ?_
          refine zQd [5, 63, 64, 65] [5, 63, 64, 65] [false] ?_
          obtain ⟨z15, hz15, h⟩ := bC h
          refine W_blockX (E' := ⟨76, [], [(5, (vI z15))]⟩) (O' := (Loc O n [none])) (n0 := (n + 1)) ?_ ?_
          · refine W_loopJ hz15 (fun s0_ => ⟨76, [], [(5, (vI s0_.1)), (63, (sL e_S_api_Tree a0.Kids)), (64, (vI (a0.Kids.length : Int))), (65, (vI s0_.2))]⟩) (fun s0_ => (Loc O n [none])) (fun z15 => JX 1 n (⟨76, [], [(5, (vI z15))]⟩ : Env) (Loc O n [none]) (n + 1)) ?_
            intro s0_ x0_ hs0_
            unfold b_tree_size_L0 at hs0_
            try dsimp only
            refine zQ [5, 63, 64, 65, 66] ?_
            refine W_seqK ?_
            refine W_cond (t := (decide (s0_.2 < (a0.Kids.length : Int)))) rfl (fun c14 => ?_) (fun c14 => ?_)
            · replace hs0_ := condT c14 hs0_
              refine zKd [5, 63, 64, 65] [false] ?_
              refine W_seqK ?_
              refine W_block ?_
              refine W_seqK ?_
              obtain ⟨x12, hx12, ax12, bx12, cx12, hs0_⟩ := bE (f := e_S_api_Tree) tab29 (fun _ => rfl) (by decide) hs0_
              refine zRof3 [] ax12 bx12 cx12 ?_
              refine zD [5, 7, 63, 64, 65] [false, true] ?_
              obtain ⟨y13, hy13, hs0_⟩ := bC hs0_
              refine zCd (ok_r_tree_sizes hy13) [5, 63, 64, 65] [false, false] ?_
              refine zR ?_
              exact zEn hs0_
            · replace hs0_ := condF c14 hs0_
              exact zEx hs0_
          try simp only [gthen, gblock, ↓reduceIte, Nat.reduceEqDiff]
          refine zD [5] [false] ?_
          refine zQ [2] ?_
          exact zRet [(vI z15)]
        · replace h := condF c16 h
          refine zKd [] [false] ?_
          refine zQ [2] ?_
          exact zRet [(vI 0)]

theorem okb_tree_sizes {r_tree_size : (S_api_Tree → Option Int)} {r_tree_sizes : ((List S_api_Tree) → Option Int)} (ok_r_tree_size : oT_r_tree_size r_tree_size) (ok_r_tree_sizes : oT_r_tree_sizes r_tree_sizes) {a0 : (List S_api_Tree)} {r : Int} {O : Objs} {n : Nat} (h : b_tree_sizes r_tree_size r_tree_sizes a0 = some r) : GTo Try.prog 96 [(sL e_S_api_Tree a0)] O n ((vI r)) O n := by
  unfold b_tree_sizes at h
  refine zFn Try.call96 Try.func96 fun hU hN0 hN => ?_
  show W _ _ _ _ ⟨18, [], [(0, (sL e_S_api_Tree a0))]⟩ (Loc O n []) _
  refine zQ [0] ?_
  refine zQ [0, 3] ?_
  refine W_seqK ?_
  refine zQd [3, 6, 7, 8] [3, 6, 7, 8] [] ?_
  obtain ⟨z5, hz5, h⟩ := bC h
  refine W_blockX (E' := ⟨18, [], [(3, (vI z5))]⟩) (O' := (Loc O n [])) (n0 := n) ?_ ?_
  · refine W_loopJ hz5 (fun s0_ => ⟨18, [], [(3, (vI s0_.1)), (6, (sL e_S_api_Tree a0)), (7, (vI (a0.length : Int))), (8, (vI s0_.2))]⟩) (fun s0_ => (Loc O n [])) (fun z5 => JX 0 n (⟨18, [], [(3, (vI z5))]⟩ : Env) (Loc O n []) n) ?_
    intro s0_ x0_ hs0_
    unfold b_tree_sizes_L0 at hs0_
    try dsimp only
    refine zQ [3, 6, 7, 8, 9] ?_
    refine W_seqK ?_
    refine W_cond (t := (decide (s0_.2 < (a0.length : Int)))) rfl (fun c4 => ?_) (fun c4 => ?_)
    · replace hs0_ := condT c4 hs0_
      refine zKd [3, 6, 7, 8] [] ?_
      refine W_seqK ?_
      refine W_block ?_
      refine W_seqK ?_
      obtain ⟨x2, hx2, ax2, bx2, cx2, hs0_⟩ := bE (f := e_S_api_Tree) tab29 (fun _ => rfl) (by decide) hs0_
      refine zRof3 [] ax2 bx2 cx2 ?_
      refine zD [3, 5, 6, 7, 8] [true] ?_
      obtain ⟨y3, hy3, hs0_⟩ := bC hs0_
      refine zCd (ok_r_tree_size hy3) [3, 6, 7, 8] [false] ?_
      refine zR ?_
      exact zEn hs0_
    · replace hs0_ := condF c4 hs0_
      exact zEx hs0_
  try simp only [gthen, gblock, ↓reduceIte, Nat.reduceEqDiff]
  refine zD [3] [] ?_
  refine zQ [2] ?_
  exact zRet [(vI z5)]

theorem lv_tree_size_ok : ∀ k, (oT_r_tree_size ((lv_tree_size k).1)) ∧ (oT_r_tree_sizes ((lv_tree_size k).2)) := fun k => by
  induction k with
  | zero => exact ⟨@fun a0 r O n h => (nomatch (show (none : Option _) = some _ from h)), @fun a0 r O n h => (nomatch (show (none : Option _) = some _ from h))⟩
  | succ k ih => exact ⟨@fun a0 r O n h => okb_tree_size (ih.1) (ih.2)  h, @fun a0 r O n h => okb_tree_sizes (ih.1) (ih.2)  h⟩

theorem ok_tree_size {a0 : S_api_Tree} {r : Int} {O : Objs} {n : Nat} (h : m_tree_size a0 = some r) : GTo Try.prog 61 [.agg (c_S_api_Tree a0)] O n ((vI r)) O n := by
  obtain ⟨k, hk⟩ := lim_some h
  exact (lv_tree_size_ok k).1  hk

theorem ok_tree_sizes {a0 : (List S_api_Tree)} {r : Int} {O : Objs} {n : Nat} (h : m_tree_sizes a0 = some r) : GTo Try.prog 96 [(sL e_S_api_Tree a0)] O n ((vI r)) O n := by
  obtain ⟨k, hk⟩ := lim_some h
  exact (lv_tree_size_ok k).2  hk

theorem ok_tree_Size {a0 : S_api_Tree} {r : Int} {O : Objs} {n : Nat} (h : m_tree_Size a0 = some r) : GTo Try.prog 37 [.agg (c_S_api_Tree a0)] O n ((vI r)) O n := by
  unfold m_tree_Size at h
  refine zFn Try.call37 Try.func37 fun hU hN0 hN => ?_
  show W _ _ _ _ ⟨6, [], [(0, .agg (c_S_api_Tree a0))]⟩ (Loc O n []) _
  refine zQ [1] ?_
  refine W_seqK ?_
  obtain ⟨y3, hy3, h⟩ := bC h
  obtain ⟨y4, hy4, h⟩ := bC h
  refine zC (ok_tree_Norm hy3) ?_
  refine zTs (ok_tree_size hy4) ?_
  refine zD [2] [false] ?_
  exact zRet [(vI y4)]

theorem ok_canon_shape {a0 : S_api_Tree} {r : S_ptr_Ptr} {O : Objs} {n : Nat} (h : m_canon_shape a0 = some r) : GTo Try.prog 62 [.agg (c_S_api_Tree a0)] O n (.agg (c_S_ptr_Ptr r)) O n := by
  unfold m_canon_shape at h
  refine zFn Try.call62 Try.func62 fun hU hN0 hN => ?_
  show W _ _ _ _ ⟨38, [], [(0, .agg (c_S_api_Tree a0))]⟩ (Loc O n []) _
  refine zQ [1, 2] ?_
  refine W_seqK ?_
  refine zQ [1, 2, 6] ?_
  refine W_block ?_
  refine zQ [1, 2, 6, 7] ?_
  refine W_cond (t := (a0.Kind == 1)) rfl (fun c4 => ?_) (fun c4 => ?_)
  · replace h := condT c4 h
    refine W_seqK ?_
    refine zRd [2] [false, true] ?_
    exact zRet [.agg [(vI 1), (vI 0), (vI (a0.Words.length : Int)), (vI (a0.Kids.length : Int)), (vI 0), (vI 0), (vI 0), (vB false)]]
  · replace h := condF c4 h
    refine zQ [1, 2, 16] ?_
    refine W_cond (t := (a0.Kind == 9)) rfl (fun c3 => ?_) (fun c3 => ?_)
    · replace h := condT c3 h
      refine W_seqK ?_
      obtain ⟨y2, hy2, h⟩ := bC h
      refine zCd (ok_tree_Frame hy2) [1, 2, 3, 4] [true, true] ?_
      refine W_seqK ?_
      refine zRd [2] [false, true] ?_
      exact zRet [.agg [(vI 2), (vI 0), (vI 0), (vI 0), (vI 7), (vI (IntKind.i64.wrap ((a0.Kids.length : Int) * (IntKind.i64.wrap (y2.1 + y2.2))))), (vI 0), (vB false)]]
    · replace h := condF c3 h
      refine zKd [1, 2] [true, true] ?_
      refine W_seqK ?_
      refine zRd [2] [false, true] ?_
      exact zRet [.agg [(vI 2), (vI 0), (vI 0), (vI 0), (vI (IntKind.i64.wrap (a0.Kind - 2))), (vI (a0.Kids.length : Int)), (vI 0), (vB false)]]

theorem ok_ptr_width {a0 : Int} {r : Int} {O : Objs} {n : Nat} (h : m_ptr_width a0 = some r) : GTo Try.prog 100 [(vI a0)] O n ((vI r)) O n := by
  unfold m_ptr_width at h
  refine zFn Try.call100 Try.func100 fun hU hN0 hN => ?_
  show W _ _ _ _ ⟨8, [], [(0, (vI a0))]⟩ (Loc O n []) _
  refine zQ [0] ?_
  refine W_seqK ?_
  obtain ⟨y6, hy6, ey6, h⟩ := bY (f := (eI .i64)) (cs := [.val (.int .i64 0), .val (.int .i64 1), .val (.int .i64 8), .val (.int .i64 16), .val (.int .i64 32), .val (.int .i64 64), .val (.int .i64 64)]) rfl h
  have g7 := congrArg G.agg ey6
  obtain ⟨y8, hy8, ey8, h⟩ := bY (f := (eI .i64)) (cs := [.val (.int .i64 0), .val (.int .i64 0), .val (.int .i64 0), .val (.int .i64 0), .val (.int .i64 0), .val (.int .i64 0), .val (.int .i64 0)]) rfl h
  have g9 := congrArg (GObj.mk false 149 7 1) ey8
  have g10 := gplace_arr (f := (eI .i64)) y8 y6 (fun _ => rfl)
  refine zRox3 [] g7 g9 g10 ?_
  refine zD [0, 3] [true] ?_
  obtain ⟨x12, hx12, ax12, bx12, cx12, h⟩ := bEA (f := (eI .i64)) (b := 7) rfl tab3 (fun _ => rfl) (by decide) h
  refine W_sq [2] (W_regionD tab_ok [] ?_)
  refine zF3 ax12 bx12 cx12 ?_
  exact zRet [(vI x12)]

theorem ok_ptr_Ptr_Words {a0 : S_ptr_Ptr} {r : (Int × Bool)} {O : Objs} {n : Nat} (h : m_ptr_Ptr_Words a0 = some r) : GTo Try.prog 63 [.agg (c_S_ptr_Ptr a0)] O n (.tup [(vI r.1), (vB r.2)]) O n := by
  unfold m_ptr_Ptr_Words at h
  refine zFn Try.call63 Try.func63 fun hU hN0 hN => ?_
  show W _ _ _ _ ⟨57, [], [(0, .agg (c_S_ptr_Ptr a0))]⟩ (Loc O n []) _
  refine zQ [1] ?_
  refine W_seqK ?_
  refine W_block ?_
  refine zQ [1, 4] ?_
  refine W_cond (t := (a0.Kind == 1)) rfl (fun c5 => ?_) (fun c5 => ?_)
  · replace h := condT c5 h
    refine zQ [2, 3] ?_
    exact zRet [(vI (IntKind.i64.wrap (a0.Data + a0.Ptrs))), (vB true)]
  · replace h := condF c5 h
    refine zQD [1, 13] [none, none, none] ?_
    refine W_cond (t := (cond (a0.Kind == 2) (a0.Code == 7) false)) rfl (fun c4 => ?_) (fun c4 => ?_)
    · replace h := condT c4 h
      refine zQ [2, 3] ?_
      exact zRet [(vI (IntKind.i64.wrap (a0.Count + 1))), (vB true)]
    · replace h := condF c4 h
      refine zQD [1, 25] [none, none, none, none, none, none, none, none, none, none, none, none] ?_
      refine W_cond (t := (cond (cond (cond (cond (a0.Kind == 2) (decide (0 ≤ a0.Code)) false) (decide (a0.Code < 7)) false) (decide (0 ≤ a0.Count)) false) (decide (a0.Count ≤ 536870911)) false)) rfl (fun c3 => ?_) (fun c3 => ?_)
      · replace h := condT c3 h
        refine W_seqK ?_
        obtain ⟨y2, hy2, h⟩ := bC h
        refine W_drawD tab_ok (by kernel_rfl) [] (by kernel_rfl) ?_
        refine zS ?_
        refine PCall.of (ok_ptr_width hy2) ?_
        refine zS ?_
        refine zD [2, 3] [false] ?_
        exact zRet [(vI (IntKind.i64.wrap (Int.tdiv (IntKind.i64.wrap ((IntKind.i64.wrap (a0.Count * y2)) + 63)) 64))), (vB true)]
      · replace h := condF c3 h
        refine zKd [] [false] ?_
        refine zQ [2, 3] ?_
        exact zRet [(vI 0), (vB false)]

theorem ok_ptr_lay {a0 : S_ptr_Ptr} {r : Int} {O : Objs} {n : Nat} (h : m_ptr_lay a0 = some r) : GTo Try.prog 101 [.agg (c_S_ptr_Ptr a0)] O n (.val (.int .u64 r)) O n := by
  unfold m_ptr_lay at h
  refine zFn Try.call101 Try.func101 fun hU hN0 hN => ?_
  show W _ _ _ _ ⟨58, [], [(0, .agg (c_S_ptr_Ptr a0))]⟩ (Loc O n []) _
  refine zQ [1] ?_
  refine W_seqK ?_
  refine zQ [1, 5] ?_
  refine W_block ?_
  refine zQ [1, 5, 6] ?_
  refine W_cond (t := (a0.Kind == 1)) rfl (fun c5 => ?_) (fun c5 => ?_)
  · replace h := condT c5 h
    refine zQ [2] ?_
    exact zRet [.val (.int .u64 (IntKind.u64.wrap (lorI .u64 (IntKind.u64.wrap (lorI .u64 (IntKind.u64.wrap (IntKind.u32.wrap ((IntKind.u32.wrap a0.Off) * 2 ^ min (Int.toNat 2) 32))) (IntKind.u64.wrap ((IntKind.u64.wrap a0.Data) * 2 ^ min (Int.toNat 32) 64)))) (IntKind.u64.wrap ((IntKind.u64.wrap a0.Ptrs) * 2 ^ min (Int.toNat 48) 64)))))]
  · replace h := condF c5 h
    refine zQ [1, 5, 23] ?_
    refine W_cond (t := (a0.Kind == 2)) rfl (fun c4 => ?_) (fun c4 => ?_)
    · replace h := condT c4 h
      refine zQ [2] ?_
      exact zRet [.val (.int .u64 (IntKind.u64.wrap (lorI .u64 (IntKind.u64.wrap (lorI .u64 (IntKind.u64.wrap (lorI .u64 1 (IntKind.u64.wrap (IntKind.u32.wrap ((IntKind.u32.wrap a0.Off) * 2 ^ min (Int.toNat 2) 32))))) (IntKind.u64.wrap ((IntKind.u64.wrap a0.Code) * 2 ^ min (Int.toNat 32) 64)))) (IntKind.u64.wrap ((IntKind.u64.wrap a0.Count) * 2 ^ min (Int.toNat 35) 64)))))]
    · replace h := condF c4 h
      refine zQ [1, 41] ?_
      refine W_cond (t := (a0.Kind == 3)) rfl (fun c3 => ?_) (fun c3 => ?_)
      · replace h := condT c3 h
        refine zQ [1, 3] ?_
        obtain ⟨z1, hz1, h⟩ := bC h
        refine W_seqN (E' := ⟨58, [], [(3, .val (.int .u64 z1))]⟩) (O' := (Loc O n [none])) (n0 := (n + 1)) ?_ ?_
        · refine zQ [3, 54] ?_
          refine W_cond (t := a0.Double) rfl (fun c2 => ?_) (fun c2 => ?_)
          · replace hz1 := condT c2 hz1
            refine zR ?_
            exact zEn hz1
          · replace hz1 := condF c2 hz1
            refine zK ?_
            exact zEn hz1
        refine zQ [2] ?_
        exact zRet [.val (.int .u64 z1)]
      · replace h := condF c3 h
        refine zKd [] [false] ?_
        refine zQ [2] ?_
        exact zRet [.val (.int .u64 0)]

theorem ok_ptr_offset {a0 : Int} {r : Int} {O : Objs} {n : Nat} (h : m_ptr_offset a0 = some r) : GTo Try.prog 123 [.val (.int .u64 a0)] O n ((vI r)) O n := by
  unfold m_ptr_offset at h
  refine zFn Try.call123 Try.func123 fun hU hN0 hN => ?_
  show W _ _ _ _ ⟨8, [], [(0, .val (.int .u64 a0))]⟩ (Loc O n []) _
  refine zQ [0] ?_
  refine zQ [2] ?_
  exact zRet [(vI (IntKind.i64.wrap (Int.fdiv (IntKind.i32.wrap (IntKind.u32.wrap a0)) (2 ^ min (Int.toNat 2) 32))))]

theorem ok_ptr_field {a0 : Int} {a1 : Int} {a2 : Int} {r : Int} {O : Objs} {n : Nat} (h : m_ptr_field a0 a1 a2 = some r) : GTo Try.prog 124 [.val (.int .u64 a0), (vI a1), (vI a2)] O n ((vI r)) O n := by
  unfold m_ptr_field at h
  refine zFn Try.call124 Try.func124 fun hU hN0 hN => ?_
  show W _ _ _ _ ⟨15, [], [(0, .val (.int .u64 a0)), (1, (vI a1)), (2, (vI a2))]⟩ (Loc O n []) _
  refine zQ [0, 1, 2] ?_
  obtain ⟨pu3, h⟩ := bG h
  obtain ⟨pu4, h⟩ := bG h
  refine W_sq [6] (W_drawD tab_ok (by kernel_rfl) [] (by kernel_rfl) ?_)
  simp only [push_cast, seval, ↓reduceIte, cast_lit, pu3, pu4, hN0, hN]
  exact zRet [(vI (IntKind.i64.wrap (IntKind.u64.wrap (landI .u64 (Int.fdiv a0 (2 ^ min (Int.toNat a1) 64)) (IntKind.u64.wrap ((IntKind.u64.wrap (1 * 2 ^ min (Int.toNat a2) 64)) - 1))))))]

theorem ok_ptr_Decode {a0 : Int} {r : S_ptr_Ptr} {O : Objs} {n : Nat} (h : m_ptr_Decode a0 = some r) : GTo Try.prog 102 [.val (.int .u64 a0)] O n (.agg (c_S_ptr_Ptr r)) O n := by
  unfold m_ptr_Decode at h
  refine zFn Try.call102 Try.func102 fun hU hN0 hN => ?_
  show W _ _ _ _ ⟨38, [], [(0, .val (.int .u64 a0))]⟩ (Loc O n []) _
  refine zQ [0, 2] ?_
  refine W_seqK ?_
  refine zQ [0, 2, 4] ?_
  refine W_cond (t := (a0 == 0)) rfl (fun c20 => ?_) (fun c20 => ?_)
  · replace h := condT c20 h
    refine W_seqK ?_
    refine zR ?_
    refine W_fit ⟨38, [], [(2, .ref n 0)]⟩ (Loc O n [some ⟨false, 93, 8, 1, [(vI 0), (vI 0), (vI 0), (vI 0), (vI 0), (vI 0), (vI 0), (vB false)]⟩]) (fit_loc hU rfl rfl ?_) ?_
    · exact zSe
    exact zRet [.agg [(vI 0), (vI 0), (vI 0), (vI 0), (vI 0), (vI 0), (vI 0), (vB false)]]
  · replace h := condF c20 h
    refine zK ?_
    refine W_fit ⟨38, [], [(0, .val (.int .u64 a0)), (2, .ref n 0)]⟩ (Loc O n [some ⟨false, 93, 8, 1, [(vI 0), (vI 0), (vI 0), (vI 0), (vI 0), (vI 0), (vI 0), (vB false)]⟩]) (fit_loc hU rfl rfl ?_) ?_
    · exact zSe
    refine W_seqK ?_
    refine zQ [0, 2, 7] ?_
    refine W_block ?_
    refine zQ [0, 2, 7, 8] ?_
    refine W_cond (t := ((IntKind.u64.wrap (landI .u64 a0 3)) == 0)) rfl (fun c19 => ?_) (fun c19 => ?_)
    · replace h := condT c19 h
      refine W_seqK ?_
      obtain ⟨y4, hy4, h⟩ := bC h
      obtain ⟨y5, hy5, h⟩ := bC h
      obtain ⟨y6, hy6, h⟩ := bC h
      refine zC (ok_ptr_offset hy4) ?_
      refine zTs (ok_ptr_field hy5) ?_
      refine zTs (ok_ptr_field hy6) ?_
      refine W_fit ⟨38, [], [(2, .ref n 0)]⟩ (Loc O n [some ⟨false, 93, 8, 1, [(vI 1), (vI y4), (vI y5), (vI y6), (vI 0), (vI 0), (vI 0), (vB false)]⟩]) (fit_loc hU rfl rfl ?_) ?_
      · exact zSe
      exact zRet [.agg [(vI 1), (vI y4), (vI y5), (vI y6), (vI 0), (vI 0), (vI 0), (vB false)]]
    · replace h := condF c19 h
      refine zQ [0, 2, 7, 17] ?_
      refine W_cond (t := ((IntKind.u64.wrap (landI .u64 a0 3)) == 1)) rfl (fun c18 => ?_) (fun c18 => ?_)
      · replace h := condT c18 h
        refine W_seqK ?_
        obtain ⟨y10, hy10, h⟩ := bC h
        obtain ⟨y11, hy11, h⟩ := bC h
        obtain ⟨y12, hy12, h⟩ := bC h
        refine zC (ok_ptr_offset hy10) ?_
        refine zTs (ok_ptr_field hy11) ?_
        refine zTs (ok_ptr_field hy12) ?_
        refine W_fit ⟨38, [], [(2, .ref n 0)]⟩ (Loc O n [some ⟨false, 93, 8, 1, [(vI 2), (vI y10), (vI 0), (vI 0), (vI y11), (vI y12), (vI 0), (vB false)]⟩]) (fit_loc hU rfl rfl ?_) ?_
        · exact zSe
        exact zRet [.agg [(vI 2), (vI y10), (vI 0), (vI 0), (vI y11), (vI y12), (vI 0), (vB false)]]
      · replace h := condF c18 h
        refine zQ [0, 2, 26] ?_
        refine W_cond (t := ((IntKind.u64.wrap (landI .u64 a0 3)) == 2)) rfl (fun c17 => ?_) (fun c17 => ?_)
        · replace h := condT c17 h
          refine W_seqK ?_
          obtain ⟨y15, hy15, h⟩ := bC h
          obtain ⟨y16, hy16, h⟩ := bC h
          refine zC (ok_ptr_field hy15) ?_
          refine zTs (ok_ptr_field hy16) ?_
          refine W_fit ⟨38, [], [(2, .ref n 0)]⟩ (Loc O n [some ⟨false, 93, 8, 1, [(vI 3), (vI y15), (vI 0), (vI 0), (vI 0), (vI 0), (vI y16), (vB ((IntKind.u64.wrap (landI .u64 (Int.fdiv a0 (2 ^ min (Int.toNat 2) 64)) 1)) == 1))]⟩]) (fit_loc hU rfl rfl ?_) ?_
          · exact zSe
          exact zRet [.agg [(vI 3), (vI y15), (vI 0), (vI 0), (vI 0), (vI 0), (vI y16), (vB ((IntKind.u64.wrap (landI .u64 (Int.fdiv a0 (2 ^ min (Int.toNat 2) 64)) 1)) == 1))]]
        · replace h := condF c17 h
          refine zK ?_
          refine W_fit ⟨38, [], [(2, .ref n 0)]⟩ (Loc O n [some ⟨false, 93, 8, 1, [(vI 0), (vI 0), (vI 0), (vI 0), (vI 0), (vI 0), (vI 0), (vB false)]⟩]) (fit_loc hU rfl rfl ?_) ?_
          · exact zSe
          refine W_seqK ?_
          refine zR ?_
          refine W_fit ⟨38, [], [(2, .ref n 0)]⟩ (Loc O n [some ⟨false, 93, 8, 1, [(vI 4), (vI 0), (vI 0), (vI 0), (vI 0), (vI 0), (vI 0), (vB false)]⟩]) (fit_loc hU rfl rfl ?_) ?_
          · exact zSe
          exact zRet [.agg [(vI 4), (vI 0), (vI 0), (vI 0), (vI 0), (vI 0), (vI 0), (vB false)]]

theorem ok_ptr_Encode {a0 : S_ptr_Ptr} {r : (Int × Bool)} {O : Objs} {n : Nat} (h : m_ptr_Encode a0 = some r) : GTo Try.prog 64 [.agg (c_S_ptr_Ptr a0)] O n (.tup [.val (.int .u64 r.1), (vB r.2)]) O n := by
  unfold m_ptr_Encode at h
  refine zFn Try.call64 Try.func64 fun hU hN0 hN => ?_
  show W _ _ _ _ ⟨17, [], [(0, .agg (c_S_ptr_Ptr a0))]⟩ (Loc O n []) _
  refine zQ [1] ?_
  refine W_seqK ?_
  obtain ⟨y2, hy2, h⟩ := bC h
  refine zCd (ok_ptr_lay hy2) [1, 4] [true] ?_
  obtain ⟨z4, hz4, h⟩ := bC h
  refine W_seqN (E' := ⟨17, [], [(2, .val (.int .u64 y2)), (3, (vB z4))]⟩) (O' := (Loc O n [none])) (n0 := (n + 1)) ?_ ?_
  · rcases Bool.eq_false_or_eq_true (a0.Kind != 4) with c7 | c7
    · replace hz4 := condT c7 hz4
      obtain ⟨y6, hy6, hz4⟩ := bC hz4
      refine W_drawD tab_ok (by kernel_rfl) [some true, some true, some true, some true] (by kernel_rfl) ?_
      refine zX1 c7 ?_
      refine PCall.of (ok_ptr_Decode hy6) ?_
      refine zX1 c7 ?_
      exact zEnx1 hz4 c7
    · replace hz4 := condF c7 hz4
      refine W_drawD tab_ok (by kernel_rfl) [some false, some false, some false, some false] (by kernel_rfl) ?_
      refine zX1 c7 ?_
      exact zEnx1 hz4 c7
  exact zRet [.val (.int .u64 y2), (vB z4)]

theorem ok_tree_Word {a0 : S_api_Tree} {a1 : Int} {r : Int} {O : Objs} {n : Nat} (h : m_tree_Word a0 a1 = some r) : GTo Try.prog 125 [.agg (c_S_api_Tree a0), (vI a1)] O n (.val (.int .u64 r)) O n := by
  unfold m_tree_Word at h
  refine zFn Try.call125 Try.func125 fun hU hN0 hN => ?_
  show W _ _ _ _ ⟨19, [], [(0, .agg (c_S_api_Tree a0)), (1, (vI a1))]⟩ (Loc O n []) _
  refine zQ [1, 2] ?_
  refine W_seqK ?_
  refine zQD [1, 2, 13] [none, none, none, none, none] ?_
  refine W_cond (t := (cond (decide (a1 < 0)) true (decide ((a0.Words.length : Int) ≤ a1)))) rfl (fun c3 => ?_) (fun c3 => ?_)
  · replace h := condT c3 h
    refine zQ [4] ?_
    exact zRet [.val (.int .u64 0)]
  · replace h := condF c3 h
    refine zKd [1, 2] [true] ?_
    obtain ⟨x2, hx2, ax2, bx2, cx2, h⟩ := bE (f := (eI .u64)) tab63 (fun _ => rfl) (by decide) h
    refine W_sq [4] (W_regionD tab_ok [] ?_)
    refine zF3 ax2 bx2 cx2 ?_
    exact zRet [.val (.int .u64 x2)]

end Go.Proofs.Ytpfbdlcnfekdkaa
