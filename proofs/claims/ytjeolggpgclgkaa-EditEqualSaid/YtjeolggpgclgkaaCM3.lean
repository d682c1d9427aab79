/- Part CM3 of this seat's mirrors: functions of the seat's program, and the plain functions that they are; each theorem bears its own conditions. -/
import Derived.Test.YtjeolggpgclgkaaCE
import Derived.Test.YtjeolggpgclgkaaCM2
namespace Go.Proofs.Ytjeolggpgclgkaa
open Go.RowKit
set_option linter.unusedVariables false
set_option linter.unusedSimpArgs false
set_option maxRecDepth 100000
set_option maxHeartbeats 1000000
attribute [local push_cast] gfork_t gfork_f pfork_t pfork_f gthen gblock gops_nil gops_plain gops_guard onW gwantB gcalm gact gpick gpickV strip evS wok calmOp Op.operands Call.operands gop onK onP atK List.all_cons List.all_nil Bool.and_true Bool.true_and Bool.and_self Value.oneCell' List.take_zero List.take_succ_cons List.take_nil List.drop_zero List.drop_succ_cons List.drop_nil List.append_nil Nat.add_zero Nat.zero_add gstep gputE ev look genv gbin geqS geqF gint gunary gconvert gload gcells gpart_lit gstore gcellsOf gput gplace_lit gfieldAddr gstepIn gindexAddr gindex gfield gopt bLo bHi bMx gextract galloc gbox gbuild gfill gplaces gbuildSlice gmake glen gappend gsrc gbuiltin gnil isLive gres gone prun_nil prun_plain prun_guard pop TK.isAgg G.one G.under G.unders List.getD_cons_zero List.getD_cons_succ List.set_cons_zero List.set_cons_succ List.map_cons List.map_nil List.toList_toArray Array.toList_append Option.toArray_none Option.toArray_some Array.toList_map Option.map_some Option.map_none Option.bind_some Option.bind_none List.getElem?_cons_zero List.getElem?_cons_succ List.getElem?_nil List.nil_append List.cons_append List.replicate_succ List.replicate_zero List.length_cons List.length_nil and_true true_and and_false false_and Bool.true_eq_false Bool.false_eq_true forall_const false_implies implies_true IntKind.bits if_true if_false ite_true ite_false eq_self true_implies false_or or_false or_true true_or not_true_eq_false not_false_eq_true decide_true decide_false decide_eq_true_eq decide_eq_false_iff_not beq_iff_eq bne_iff_ne ne_eq Bool.not_eq_true Bool.not_eq_false beq_eq_false_iff_ne bne_eq_false_iff_eq beq_self_eq_true bne_self_eq_false Option.some.injEq exists_eq_left' exists_eq_left ge_iff_le gt_iff_lt decide_not Bool.not_true Bool.not_false imp_self gquiet cond_true cond_false beqT beqF Bool.not_not Bool.and_false Bool.false_and Bool.or_true Bool.true_or Bool.or_false Bool.false_or Loc_at Loc_at0 Loc_upd Loc_upd0 Loc_push Loc_push0 Option.join_some Nat.add_assoc Int.toNat_natCast eI eB eS eL fl_nil gopsD_nil gopsD_plain gopsD_t gopsD_f gopsD_n onKD onWD prunD_nil prunD_plain prunD_t prunD_f prunD_n onPD fitO fitO1 sameO fitL fl_append fl_one List.length_append G.agg.injEq G.row.injEq G.ref.injEq G.val.injEq G.sl.injEq G.tup.injEq Value.int.injEq Value.bool.injEq Value.string.injEq List.cons.injEq exists_and_left exists_const List.flatten_cons List.flatten_nil Int.le_refl Nat.le_refl upd_updU Loc_out Loc_updo Bool.not_eq_true' Bool.not_eq_false' wkl_nil wkl_cons wk_any wk_val wk_agg wk_tup wk_sl wk_fn List.size_toArray renO renO1 G.ren G.rens renL rho_at rho_at0 gP_none gP_some strip_gP wok_gP one_gP G.fn.injEq wk_slnil wk_slrow wk_slrs wk_ip wk_ipref wk_row wk_rs wk_rp wk_ref locLt0 locLt Option.join_none upd_same fl_cons undef keepL Arr.len Arr.put_eq prunB_nil prunB_bar prunB_bart prunB_plain prunB_t prunB_f prunB_n onB onBP gcopy setI_len Loc_cat0 Loc_cat1 Loc_cat2 Loc_cat3 Loc_cat4 Loc_cat5 noObjs_at prunK_nil prunK_bar prunK_pass prunK_plain prunK_low prunK_pt prunK_pf prunK_lt prunK_lf onKg onKa onKp popL pickOps lows lowG tab2 tkind2 tab3 tkind3 tab4 tkind4 tab5 tkind5 tab6 tkind6 tab7 tkind7 tab8 tkind8 tab9 tkind9 tab10 tkind10 tab11 tkind11 tab12 tkind12 tab13 tkind13 tab14 tkind14 tab15 tkind15 tab16 tkind16 tab17 tkind17 tab18 tkind18 tab19 tkind19 tab21 tkind21 tab22 tkind22 tab23 tkind23 tab24 tkind24 tab25 tkind25 tab33 tkind33 tab35 tkind35 tab40 tkind40 tab42 tkind42 tab43 tkind43 tab49 tkind49 tab50 tkind50 tab51 tkind51 tab52 tkind52 tab53 tkind53 tab60 tkind60 tab61 tkind61 tab62 tkind62 tab63 tkind63 tab71 tkind71 tab77 tkind77 tab78 tkind78 tab85 tkind85 tab86 tkind86 tab95 tkind95 tab97 tkind97 tab98 tkind98 tab99 tkind99 tab110 tkind110 tab111 tkind111 tab114 tkind114 tab116 tkind116 tab117 tkind117 tab125 tkind125 tab129 tkind129 tab131 tkind131 tab133 tkind133 tab134 tkind134 tab144 tkind144 tab148 tkind148 tab151 tkind151 tab158 tkind158 tab160 tkind160 tab161 tkind161 tab165 tkind165 tab167 tkind167 tab170 tkind170 tab171 tkind171 tab175 tkind175 tab176 tkind176 tab178 tkind178 tab179 tkind179 tab180 tkind180 e_S_api_Tree e0_eq_S_api_Tree wkl_eI_u64 wka_eI_u64 len_eI_u64 one_eI_u64 wkp_eI_u64 undp_eI_u64 rens_eI_u64 renp_eI_u64 und_eI_u64 wkl_e_S_api_Tree wka_e_S_api_Tree len_e_S_api_Tree one_e_S_api_Tree wkp_e_S_api_Tree undp_e_S_api_Tree rens_e_S_api_Tree renp_e_S_api_Tree und_e_S_api_Tree e_S_api_WordEdit e_S_api_Edit e_S_api_KidEdit e_S_api_Op e0_eq_S_api_Edit e0_eq_S_api_KidEdit e0_eq_S_api_Op wkl_e_S_api_WordEdit wka_e_S_api_WordEdit len_e_S_api_WordEdit one_e_S_api_WordEdit wkp_e_S_api_WordEdit undp_e_S_api_WordEdit rens_e_S_api_WordEdit renp_e_S_api_WordEdit und_e_S_api_WordEdit wkl_e_S_api_KidEdit wka_e_S_api_KidEdit len_e_S_api_KidEdit one_e_S_api_KidEdit wkp_e_S_api_KidEdit undp_e_S_api_KidEdit rens_e_S_api_KidEdit renp_e_S_api_KidEdit und_e_S_api_KidEdit wkl_e_S_api_Op wka_e_S_api_Op len_e_S_api_Op one_e_S_api_Op wkp_e_S_api_Op undp_e_S_api_Op rens_e_S_api_Op renp_e_S_api_Op und_e_S_api_Op wkl_eI_i64 wka_eI_i64 len_eI_i64 one_eI_i64 wkp_eI_i64 undp_eI_i64 rens_eI_i64 renp_eI_i64 und_eI_i64
theorem ok_tree_trimKids {a0 : (List S_api_Tree)} {r : (List S_api_Tree)} {O : Objs} {n : Nat} (h : m_tree_trimKids a0 = some r) : GTo Try.prog 64 [.sl a0.length (fl e_S_api_Tree a0)] O n (.sl r.length (fl e_S_api_Tree r)) O n := by
  unfold m_tree_trimKids at h
  refine fn_of tab_ok Try.call64 Try.func64 rfl (Nat.le_of_ble_eq_true rfl) (Nat.le_refl _) fun hU => ?_
  have hN0 : O n = none := hU.fresh _ (Nat.le_refl _)
  have hN : ∀ k, O (n + k) = none := fun k => hU.fresh _ (Nat.le_add_right _ _)
  show W _ _ _ _ ⟨23, [], [(0, .sl a0.length (fl e_S_api_Tree a0))]⟩ (Loc O n []) _
  refine W_sq [0] (W_regionD tab_ok [] ?_)
  simp only [push_cast, seval, ↓reduceIte, cast_lit, hN0, hN]
  refine W_sq [0, 3] (W_regionD tab_ok [] ?_)
  simp only [push_cast, seval, ↓reduceIte, cast_lit, hN0, hN]
  refine W_seqK ?_
  refine W_fit ⟨23, [], [(0, .sl a0.length (fl e_S_api_Tree a0)), (3, .val (.int .i64 (a0.length : Int)))]⟩ (Loc O n []) (fit_loc hU rfl rfl ?_) ?_
  · simp only [push_cast, seval, ↓reduceIte, cast_lit, hN0, hN]
  obtain ⟨z8, hz8, h⟩ := bC h
  refine W_blockX (E' := ⟨23, [], [(0, .sl a0.length (fl e_S_api_Tree a0)), (3, .val (.int .i64 z8))]⟩) (O' := (Loc O n [])) (n0 := n) ?_ ?_
  · refine W_loopJ hz8 (fun s0_ => ⟨23, [], [(0, .sl a0.length (fl e_S_api_Tree a0)), (3, .val (.int .i64 s0_))]⟩) (fun s0_ => (Loc O n [])) (fun z8 => JX 0 n (⟨23, [], [(0, .sl a0.length (fl e_S_api_Tree a0)), (3, .val (.int .i64 z8))]⟩ : Env) (Loc O n []) n) ?_
    intro s0_ x0_ hs0_
    unfold m_tree_trimKids_L0 at hs0_
    try dsimp only
    refine W_seqK ?_
    obtain ⟨z3, hz3, hs0_⟩ := bC hs0_
    refine W_seqN (E' := ⟨23, [], [(0, .sl a0.length (fl e_S_api_Tree a0)), (3, .val (.int .i64 s0_)), (16, .val (.bool z3))]⟩) (O' := (Loc O n [])) (n0 := n) ?_ ?_
    · rcases Bool.eq_false_or_eq_true (decide (0 < s0_)) with c6 | c6
      · replace hz3 := condT c6 hz3
        obtain ⟨x4, hx4, ax4, bx4, cx4, hz3⟩ := bE (f := e_S_api_Tree) tab25 (fun _ => rfl) (by decide) hz3
        have g5 := gpart_fld0 (f := e_S_api_Tree) (sz := 3) tab3 (fun _ => rfl) (by decide) (by decide) hx4
        refine W_regionD tab_ok [some true, some true, some true, some true, some true, some true, some true] ?_
        simp only [push_cast, Nat.reduceAdd, Nat.reduceSub, Nat.reduceMul, Nat.reduceLeDiff, Nat.reduceLT, Nat.reduceEqDiff, ↓reduceIte, reduceCtorEq, Int.reduceBEq, Int.reduceBNe, Nat.reduceBEq, Int.reduceLE, Int.reduceLT, Int.reduceEq, Int.reduceNe, Int.reduceNeg, Nat.reduceDiv, Nat.reduceMod, Nat.reducePow, cast_lit, c6, ax4, bx4, cx4, g5, hN0, hN]
        have hz3 := Option.some.inj hz3; subst hz3
        refine And.intro rfl (Fit2.of (fit_loc hU rfl rfl ?_) (by omega))
        simp only [push_cast, Nat.reduceAdd, Nat.reduceSub, Nat.reduceMul, Nat.reduceLeDiff, Nat.reduceLT, Nat.reduceEqDiff, ↓reduceIte, reduceCtorEq, Int.reduceBEq, Int.reduceBNe, Nat.reduceBEq, Int.reduceLE, Int.reduceLT, Int.reduceEq, Int.reduceNe, Int.reduceNeg, Nat.reduceDiv, Nat.reduceMod, Nat.reducePow, cast_lit, c6, ax4, bx4, cx4, g5, hN0, hN]
      · replace hz3 := condF c6 hz3
        refine W_regionD tab_ok [some false, some false, some false, some false, some false, some false, some false] ?_
        simp only [push_cast, seval, ↓reduceIte, cast_lit, c6, hN0, hN]
        have hz3 := Option.some.inj hz3; subst hz3
        refine And.intro rfl (Fit2.of (fit_loc hU rfl rfl ?_) (by omega))
        simp only [push_cast, seval, ↓reduceIte, cast_lit, c6, hN0, hN]
    refine W_cond (t := z3) rfl (fun c7 => ?_) (fun c7 => ?_)
    · replace hs0_ := condT c7 hs0_
      refine W_skip ?_
      try simp only [gthen, gblock]
      refine W_fit ⟨23, [], [(0, .sl a0.length (fl e_S_api_Tree a0)), (3, .val (.int .i64 s0_))]⟩ (Loc O n []) (fit_loc hU rfl rfl ?_) ?_
      · simp only [push_cast, seval, ↓reduceIte, cast_lit, hN0, hN]
      refine W_block ?_
      refine W_regionD tab_ok [] ?_
      simp only [push_cast, seval, ↓reduceIte, cast_lit, hN0, hN]
      have hs0_ := Option.some.inj hs0_; subst hs0_
      refine And.intro rfl (Fit2.of (fit_loc hU rfl rfl ?_) (by omega))
      simp only [push_cast, seval, ↓reduceIte, cast_lit, hN0, hN]
    · replace hs0_ := condF c7 hs0_
      refine W_exit ?_
      try simp only [gthen, gblock, ↓reduceIte, Nat.reduceEqDiff]
      have hs0_ := Option.some.inj hs0_; subst hs0_
      refine And.intro (fun h => by cases h) (And.intro rfl (Fit2.of (fit_loc hU rfl rfl ?_) (by omega)))
      simp only [push_cast, seval, ↓reduceIte, cast_lit, hN0, hN]
  try simp only [gthen, gblock, ↓reduceIte, Nat.reduceEqDiff]
  refine W_fit ⟨23, [], [(0, .sl a0.length (fl e_S_api_Tree a0)), (3, .val (.int .i64 z8))]⟩ (Loc O n []) (fit_loc hU rfl rfl ?_) ?_
  · simp only [push_cast, seval, ↓reduceIte, cast_lit, hN0, hN]
  obtain ⟨l10, al10, bl10, cl10, gl10, h⟩ := bS3 (lo := none) (hi := (.i64, z8)) (f := e_S_api_Tree) rfl rfl tkind23 tab25 (fun _ => rfl) h
  refine W_sq [2] (W_regionD tab_ok [] ?_)
  simp only [push_cast, seval, ↓reduceIte, cast_lit, al10, bl10, cl10, gl10, hN0, hN]
  refine W_ret ?_
  try simp only [gthen, gblock]
  have h := Option.some.inj h; subst h
  refine fin_loc (.inr rfl) hU [.sl l10.length (fl e_S_api_Tree l10)] (by omega) ?_
  simp only [push_cast, seval, ↓reduceIte, cast_lit, Try.results64, hN0, hN]

theorem okb_tree_Equal {r_tree_Equal : (S_api_Tree → S_api_Tree → Option Bool)} {r_slices_EqualFunc_api_Tree_api_Tree_api_Tree_api_Tree_f24 : ((List S_api_Tree) → (List S_api_Tree) → Option Bool)} (ok_r_tree_Equal : ∀ {a0 : S_api_Tree} {a1 : S_api_Tree} {r : Bool} {O : Objs} {n : Nat}, r_tree_Equal a0 a1 = some r → GTo Try.prog 24 [.agg [.val (.int .i64 a0.Kind), .sl a0.Words.length (fl (eI .u64) a0.Words), .sl a0.Kids.length (fl e_S_api_Tree a0.Kids)], .agg [.val (.int .i64 a1.Kind), .sl a1.Words.length (fl (eI .u64) a1.Words), .sl a1.Kids.length (fl e_S_api_Tree a1.Kids)]] O n (.val (.bool r)) O n) (ok_r_slices_EqualFunc_api_Tree_api_Tree_api_Tree_api_Tree_f24 : ∀ {a0 : (List S_api_Tree)} {a1 : (List S_api_Tree)} {r : Bool} {O : Objs} {n : Nat}, r_slices_EqualFunc_api_Tree_api_Tree_api_Tree_api_Tree_f24 a0 a1 = some r → GTo Try.prog 66 [.sl a0.length (fl e_S_api_Tree a0), .sl a1.length (fl e_S_api_Tree a1), .fn 24 0 []] O n (.val (.bool r)) O n) {a0 : S_api_Tree} {a1 : S_api_Tree} {r : Bool} {O : Objs} {n : Nat} (h : b_tree_Equal r_tree_Equal r_slices_EqualFunc_api_Tree_api_Tree_api_Tree_api_Tree_f24 a0 a1 = some r) : GTo Try.prog 24 [.agg [.val (.int .i64 a0.Kind), .sl a0.Words.length (fl (eI .u64) a0.Words), .sl a0.Kids.length (fl e_S_api_Tree a0.Kids)], .agg [.val (.int .i64 a1.Kind), .sl a1.Words.length (fl (eI .u64) a1.Words), .sl a1.Kids.length (fl e_S_api_Tree a1.Kids)]] O n (.val (.bool r)) O n := by
  unfold b_tree_Equal at h
  refine fn_of tab_ok Try.call24 Try.func24 rfl (Nat.le_of_ble_eq_true rfl) (Nat.le_refl _) fun hU => ?_
  have hN0 : O n = none := hU.fresh _ (Nat.le_refl _)
  have hN : ∀ k, O (n + k) = none := fun k => hU.fresh _ (Nat.le_add_right _ _)
  show W _ _ _ _ ⟨44, [], [(0, .agg [.val (.int .i64 a0.Kind), .sl a0.Words.length (fl (eI .u64) a0.Words), .sl a0.Kids.length (fl e_S_api_Tree a0.Kids)]), (1, .agg [.val (.int .i64 a1.Kind), .sl a1.Words.length (fl (eI .u64) a1.Words), .sl a1.Kids.length (fl e_S_api_Tree a1.Kids)])]⟩ (Loc O n []) _
  refine W_sq [2, 3] (W_regionD tab_ok [] ?_)
  simp only [push_cast, seval, ↓reduceIte, cast_lit, hN0, hN]
  refine W_seqK ?_
  refine W_sq [2, 3, 9] (W_regionD tab_ok [] ?_)
  simp only [push_cast, seval, ↓reduceIte, cast_lit, hN0, hN]
  refine W_cond (t := (a0.Kind != a1.Kind)) rfl (fun c23 => ?_) (fun c23 => ?_)
  · replace h := condT c23 h
    refine W_sq [4] (W_regionD tab_ok [] ?_)
    simp only [push_cast, seval, ↓reduceIte, cast_lit, hN0, hN]
    refine W_ret ?_
    try simp only [gthen, gblock]
    have h := Option.some.inj h; subst h
    refine fin_loc (.inr rfl) hU [.val (.bool false)] (by omega) ?_
    simp only [push_cast, seval, ↓reduceIte, cast_lit, Try.results24, hN0, hN]
  · replace h := condF c23 h
    refine W_skip ?_
    try simp only [gthen, gblock]
    refine W_fit ⟨44, [], [(2, .ref n 0), (3, .ref (n + 1) 0)]⟩ (Loc O n [some ⟨false, 25, 3, 1, [.val (.int .i64 a0.Kind), .sl a0.Words.length (fl (eI .u64) a0.Words), .sl a0.Kids.length (fl e_S_api_Tree a0.Kids)]⟩, some ⟨false, 25, 3, 1, [.val (.int .i64 a1.Kind), .sl a1.Words.length (fl (eI .u64) a1.Words), .sl a1.Kids.length (fl e_S_api_Tree a1.Kids)]⟩]) (fit_loc hU rfl rfl ?_) ?_
    · simp only [push_cast, seval, ↓reduceIte, cast_lit, hN0, hN]
    refine W_seqK ?_
    refine W_sq [2, 3, 11] (W_regionD tab_ok [] ?_)
    simp only [push_cast, seval, ↓reduceIte, cast_lit, hN0, hN]
    refine W_block ?_
    refine W_sq [2, 3, 11, 12] (W_regionD tab_ok [] ?_)
    simp only [push_cast, seval, ↓reduceIte, cast_lit, hN0, hN]
    refine W_cond (t := (a0.Kind == 0)) rfl (fun c22 => ?_) (fun c22 => ?_)
    · replace h := condT c22 h
      refine W_sq [4] (W_regionD tab_ok [] ?_)
      simp only [push_cast, seval, ↓reduceIte, cast_lit, hN0, hN]
      refine W_ret ?_
      try simp only [gthen, gblock]
      have h := Option.some.inj h; subst h
      refine fin_loc (.inr rfl) hU [.val (.bool true)] (by omega) ?_
      simp only [push_cast, seval, ↓reduceIte, cast_lit, Try.results24, hN0, hN]
    · replace h := condF c22 h
      refine W_sq [2, 3, 14] (W_regionD tab_ok [] ?_)
      simp only [push_cast, seval, ↓reduceIte, cast_lit, hN0, hN]
      refine W_cond (t := (a0.Kind == 1)) rfl (fun c21 => ?_) (fun c21 => ?_)
      · replace h := condT c21 h
        obtain ⟨z7, hz7, h⟩ := bC h
        refine W_seqN (E' := ⟨44, [], [(4, .val (.bool z7))]⟩) (O' := (Loc O n [none, none])) (n0 := (n + 2)) ?_ ?_
        · obtain ⟨y8, hy8, hz7⟩ := bC hz7
          obtain ⟨y9, hy9, hz7⟩ := bC hz7
          obtain ⟨y10, hy10, hz7⟩ := bC hz7
          rcases Bool.eq_false_or_eq_true y10 with c14 | c14
          · replace hz7 := condT c14 hz7
            obtain ⟨y11, hy11, hz7⟩ := bC hz7
            obtain ⟨y12, hy12, hz7⟩ := bC hz7
            obtain ⟨y13, hy13, hz7⟩ := bC hz7
            refine W_drawD tab_ok (by kernel_rfl) [some true, some true, some true, some true, some true, some true, some true] (by kernel_rfl) ?_
            simp only [push_cast, seval, ↓reduceIte, cast_lit, c14, hN0, hN]
            refine PCall.of (ok_tree_trimWords hy8) ?_
            simp only [push_cast, seval, ↓reduceIte, cast_lit, c14, hN0, hN]
            refine PCall.of (ok_tree_trimWords hy9) ?_
            simp only [push_cast, seval, ↓reduceIte, cast_lit, c14, hN0, hN]
            refine PCall.of (ok_slices_Equal_uint64_uint64 hy10) ?_
            simp only [push_cast, seval, ↓reduceIte, cast_lit, c14, hN0, hN]
            refine PCall.of (ok_tree_trimKids hy11) ?_
            simp only [push_cast, seval, ↓reduceIte, cast_lit, c14, hN0, hN]
            refine PCall.of (ok_tree_trimKids hy12) ?_
            simp only [push_cast, seval, ↓reduceIte, cast_lit, c14, hN0, hN]
            refine PCall.of (ok_r_slices_EqualFunc_api_Tree_api_Tree_api_Tree_api_Tree_f24 hy13) ?_
            simp only [push_cast, seval, ↓reduceIte, cast_lit, c14, hN0, hN]
            have hz7 := Option.some.inj hz7; subst hz7
            refine And.intro rfl (Fit2.of (fit_loc hU rfl rfl ?_) (by omega))
            simp only [push_cast, seval, ↓reduceIte, cast_lit, c14, hN0, hN]
          · replace hz7 := condF c14 hz7
            refine W_drawD tab_ok (by kernel_rfl) [some false, some false, some false, some false, some false, some false, some false] (by kernel_rfl) ?_
            simp only [push_cast, seval, ↓reduceIte, cast_lit, c14, hN0, hN]
            refine PCall.of (ok_tree_trimWords hy8) ?_
            simp only [push_cast, seval, ↓reduceIte, cast_lit, c14, hN0, hN]
            refine PCall.of (ok_tree_trimWords hy9) ?_
            simp only [push_cast, seval, ↓reduceIte, cast_lit, c14, hN0, hN]
            refine PCall.of (ok_slices_Equal_uint64_uint64 hy10) ?_
            simp only [push_cast, seval, ↓reduceIte, cast_lit, c14, hN0, hN]
            have hz7 := Option.some.inj hz7; subst hz7
            refine And.intro rfl (Fit2.of (fit_loc hU rfl rfl ?_) (by omega))
            simp only [push_cast, seval, ↓reduceIte, cast_lit, c14, hN0, hN]
        refine W_ret ?_
        try simp only [gthen, gblock]
        have h := Option.some.inj h; subst h
        refine fin_loc (.inr rfl) hU [.val (.bool z7)] (by omega) ?_
        simp only [push_cast, seval, ↓reduceIte, cast_lit, Try.results24, hN0, hN]
      · replace h := condF c21 h
        refine W_skip ?_
        try simp only [gthen, gblock]
        refine W_fit ⟨44, [], [(2, .ref n 0), (3, .ref (n + 1) 0)]⟩ (Loc O n [some ⟨false, 25, 3, 1, [.val (.int .i64 a0.Kind), .sl a0.Words.length (fl (eI .u64) a0.Words), .sl a0.Kids.length (fl e_S_api_Tree a0.Kids)]⟩, some ⟨false, 25, 3, 1, [.val (.int .i64 a1.Kind), .sl a1.Words.length (fl (eI .u64) a1.Words), .sl a1.Kids.length (fl e_S_api_Tree a1.Kids)]⟩]) (fit_loc hU rfl rfl ?_) ?_
        · simp only [push_cast, seval, ↓reduceIte, cast_lit, hN0, hN]
        obtain ⟨z17, hz17, h⟩ := bC h
        refine W_seqN (E' := ⟨44, [], [(4, .val (.bool z17))]⟩) (O' := (Loc O n [none, none])) (n0 := (n + 2)) ?_ ?_
        · obtain ⟨y18, hy18, hz17⟩ := bC hz17
          rcases Bool.eq_false_or_eq_true y18 with c20 | c20
          · replace hz17 := condT c20 hz17
            obtain ⟨y19, hy19, hz17⟩ := bC hz17
            refine W_regionD tab_ok [some true, some true, some true, some true, some true] ?_
            simp only [push_cast, seval, ↓reduceIte, cast_lit, c20, hN0, hN]
            refine (ok_slices_Equal_uint64_uint64 hy18).then ?_
            simp only [push_cast, seval, ↓reduceIte, cast_lit, c20, hN0, hN]
            refine (ok_r_slices_EqualFunc_api_Tree_api_Tree_api_Tree_api_Tree_f24 hy19).then ?_
            simp only [push_cast, seval, ↓reduceIte, cast_lit, c20, hN0, hN]
            have hz17 := Option.some.inj hz17; subst hz17
            refine And.intro rfl (Fit2.of (fit_loc hU rfl rfl ?_) (by omega))
            simp only [push_cast, seval, ↓reduceIte, cast_lit, c20, hN0, hN]
          · replace hz17 := condF c20 hz17
            refine W_regionD tab_ok [some false, some false, some false, some false, some false] ?_
            simp only [push_cast, seval, ↓reduceIte, cast_lit, c20, hN0, hN]
            refine (ok_slices_Equal_uint64_uint64 hy18).then ?_
            simp only [push_cast, seval, ↓reduceIte, cast_lit, c20, hN0, hN]
            have hz17 := Option.some.inj hz17; subst hz17
            refine And.intro rfl (Fit2.of (fit_loc hU rfl rfl ?_) (by omega))
            simp only [push_cast, seval, ↓reduceIte, cast_lit, c20, hN0, hN]
        refine W_ret ?_
        try simp only [gthen, gblock]
        have h := Option.some.inj h; subst h
        refine fin_loc (.inr rfl) hU [.val (.bool z17)] (by omega) ?_
        simp only [push_cast, seval, ↓reduceIte, cast_lit, Try.results24, hN0, hN]

theorem okb_slices_EqualFunc_api_Tree_api_Tree_api_Tree_api_Tree_f24 {r_tree_Equal : (S_api_Tree → S_api_Tree → Option Bool)} {r_slices_EqualFunc_api_Tree_api_Tree_api_Tree_api_Tree_f24 : ((List S_api_Tree) → (List S_api_Tree) → Option Bool)} (ok_r_tree_Equal : ∀ {a0 : S_api_Tree} {a1 : S_api_Tree} {r : Bool} {O : Objs} {n : Nat}, r_tree_Equal a0 a1 = some r → GTo Try.prog 24 [.agg [.val (.int .i64 a0.Kind), .sl a0.Words.length (fl (eI .u64) a0.Words), .sl a0.Kids.length (fl e_S_api_Tree a0.Kids)], .agg [.val (.int .i64 a1.Kind), .sl a1.Words.length (fl (eI .u64) a1.Words), .sl a1.Kids.length (fl e_S_api_Tree a1.Kids)]] O n (.val (.bool r)) O n) (ok_r_slices_EqualFunc_api_Tree_api_Tree_api_Tree_api_Tree_f24 : ∀ {a0 : (List S_api_Tree)} {a1 : (List S_api_Tree)} {r : Bool} {O : Objs} {n : Nat}, r_slices_EqualFunc_api_Tree_api_Tree_api_Tree_api_Tree_f24 a0 a1 = some r → GTo Try.prog 66 [.sl a0.length (fl e_S_api_Tree a0), .sl a1.length (fl e_S_api_Tree a1), .fn 24 0 []] O n (.val (.bool r)) O n) {a0 : (List S_api_Tree)} {a1 : (List S_api_Tree)} {r : Bool} {O : Objs} {n : Nat} (h : b_slices_EqualFunc_api_Tree_api_Tree_api_Tree_api_Tree_f24 r_tree_Equal r_slices_EqualFunc_api_Tree_api_Tree_api_Tree_api_Tree_f24 a0 a1 = some r) : GTo Try.prog 66 [.sl a0.length (fl e_S_api_Tree a0), .sl a1.length (fl e_S_api_Tree a1), .fn 24 0 []] O n (.val (.bool r)) O n := by
  unfold b_slices_EqualFunc_api_Tree_api_Tree_api_Tree_api_Tree_f24 at h
  refine fn_of tab_ok Try.call66 Try.func66 rfl (Nat.le_of_ble_eq_true rfl) (Nat.le_refl _) fun hU => ?_
  have hN0 : O n = none := hU.fresh _ (Nat.le_refl _)
  have hN : ∀ k, O (n + k) = none := fun k => hU.fresh _ (Nat.le_add_right _ _)
  show W _ _ _ _ ⟨32, [], [(0, .sl a0.length (fl e_S_api_Tree a0)), (1, .sl a1.length (fl e_S_api_Tree a1)), (2, .fn 24 0 [])]⟩ (Loc O n []) _
  refine W_sq [0, 1, 2] (W_regionD tab_ok [] ?_)
  simp only [push_cast, seval, ↓reduceIte, cast_lit, hN0, hN]
  refine W_seqK ?_
  refine W_sq [0, 1, 2, 14] (W_regionD tab_ok [] ?_)
  simp only [push_cast, seval, ↓reduceIte, cast_lit, hN0, hN]
  refine W_cond (t := ((a0.length : Int) != (a1.length : Int))) rfl (fun c10 => ?_) (fun c10 => ?_)
  · replace h := condT c10 h
    refine W_sq [6] (W_regionD tab_ok [] ?_)
    simp only [push_cast, seval, ↓reduceIte, cast_lit, hN0, hN]
    refine W_ret ?_
    try simp only [gthen, gblock]
    have h := Option.some.inj h; subst h
    refine fin_loc (.inr rfl) hU [.val (.bool false)] (by omega) ?_
    simp only [push_cast, seval, ↓reduceIte, cast_lit, Try.results66, hN0, hN]
  · replace h := condF c10 h
    refine W_skip ?_
    try simp only [gthen, gblock]
    refine W_fit ⟨32, [], [(0, .sl a0.length (fl e_S_api_Tree a0)), (1, .sl a1.length (fl e_S_api_Tree a1)), (2, .fn 24 0 [])]⟩ (Loc O n []) (fit_loc hU rfl rfl ?_) ?_
    · simp only [push_cast, seval, ↓reduceIte, cast_lit, hN0, hN]
    refine W_seqK ?_
    refine W_sq [1, 2, 15, 16, 17] (W_regionD tab_ok [] ?_)
    simp only [push_cast, seval, ↓reduceIte, cast_lit, hN0, hN]
    refine W_fit ⟨32, [], [(1, .sl a1.length (fl e_S_api_Tree a1)), (2, .fn 24 0 []), (15, .sl a0.length (fl e_S_api_Tree a0)), (16, .val (.int .i64 (a0.length : Int))), (17, .val (.int .i64 0))]⟩ (Loc O n []) (fit_loc hU rfl rfl ?_) ?_
    · simp only [push_cast, seval, ↓reduceIte, cast_lit, hN0, hN]
    obtain ⟨z9, hz9, h⟩ := bC h
    refine W_sumB (J := (SumJ (fun z9 => JR n (⟨32, [], [(6, .val (.bool false))]⟩ : Env) (Loc O n []) n) (fun z9 => JX 0 n (⟨32, [], []⟩ : Env) (Loc O n []) n))) (z := z9) ?_ fun hw => ?_
    · refine W_loopJ hz9 (fun s0_ => ⟨32, [], [(1, .sl a1.length (fl e_S_api_Tree a1)), (2, .fn 24 0 []), (15, .sl a0.length (fl e_S_api_Tree a0)), (16, .val (.int .i64 (a0.length : Int))), (17, .val (.int .i64 s0_))]⟩) (fun s0_ => (Loc O n [])) (SumJ (fun z9 => JR n (⟨32, [], [(6, .val (.bool false))]⟩ : Env) (Loc O n []) n) (fun z9 => JX 0 n (⟨32, [], []⟩ : Env) (Loc O n []) n)) ?_
      intro s0_ x0_ hs0_
      unfold b_slices_EqualFunc_api_Tree_api_Tree_api_Tree_api_Tree_f24_L0 at hs0_
      try dsimp only
      refine W_sq [1, 2, 15, 16, 17, 18] (W_regionD tab_ok [] ?_)
      simp only [push_cast, seval, ↓reduceIte, cast_lit, hN0, hN]
      refine W_seqK ?_
      refine W_cond (t := (decide (s0_ < (a0.length : Int)))) rfl (fun c8 => ?_) (fun c8 => ?_)
      · replace hs0_ := condT c8 hs0_
        refine W_skip ?_
        try simp only [gthen, gblock]
        refine W_fit ⟨32, [], [(1, .sl a1.length (fl e_S_api_Tree a1)), (2, .fn 24 0 []), (15, .sl a0.length (fl e_S_api_Tree a0)), (16, .val (.int .i64 (a0.length : Int))), (17, .val (.int .i64 s0_))]⟩ (Loc O n []) (fit_loc hU rfl rfl ?_) ?_
        · simp only [push_cast, seval, ↓reduceIte, cast_lit, hN0, hN]
        refine W_seqK ?_
        refine W_block ?_
        refine W_seqK ?_
        obtain ⟨x2, hx2, ax2, bx2, cx2, hs0_⟩ := bE (f := e_S_api_Tree) tab25 (fun _ => rfl) (by decide) hs0_
        refine W_regionD tab_ok [] ?_
        simp only [push_cast, Nat.reduceAdd, Nat.reduceSub, Nat.reduceMul, Nat.reduceLeDiff, Nat.reduceLT, Nat.reduceEqDiff, ↓reduceIte, reduceCtorEq, Int.reduceBEq, Int.reduceBNe, Nat.reduceBEq, Int.reduceLE, Int.reduceLT, Int.reduceEq, Int.reduceNe, Int.reduceNeg, Nat.reduceDiv, Nat.reduceMod, Nat.reducePow, cast_lit, ax2, bx2, cx2, hN0, hN]
        refine W_fit ⟨32, [], [(1, .sl a1.length (fl e_S_api_Tree a1)), (2, .fn 24 0 []), (7, .val (.int .i64 s0_)), (8, .ref n 0), (15, .sl a0.length (fl e_S_api_Tree a0)), (16, .val (.int .i64 (a0.length : Int))), (17, .val (.int .i64 s0_))]⟩ (Loc O n [some ⟨false, 25, 3, 1, [.val (.int .i64 x2.Kind), .sl x2.Words.length (fl (eI .u64) x2.Words), .sl x2.Kids.length (fl e_S_api_Tree x2.Kids)]⟩]) (fit_loc hU rfl rfl ?_) ?_
        · simp only [push_cast, Nat.reduceAdd, Nat.reduceSub, Nat.reduceMul, Nat.reduceLeDiff, Nat.reduceLT, Nat.reduceEqDiff, ↓reduceIte, reduceCtorEq, Int.reduceBEq, Int.reduceBNe, Nat.reduceBEq, Int.reduceLE, Int.reduceLT, Int.reduceEq, Int.reduceNe, Int.reduceNeg, Nat.reduceDiv, Nat.reduceMod, Nat.reducePow, cast_lit, ax2, bx2, cx2, hN0, hN]
        refine W_seqK ?_
        obtain ⟨x4, hx4, ax4, bx4, cx4, hs0_⟩ := bE (f := e_S_api_Tree) tab25 (fun _ => rfl) (by decide) hs0_
        refine W_regionD tab_ok [] ?_
        simp only [push_cast, Nat.reduceAdd, Nat.reduceSub, Nat.reduceMul, Nat.reduceLeDiff, Nat.reduceLT, Nat.reduceEqDiff, ↓reduceIte, reduceCtorEq, Int.reduceBEq, Int.reduceBNe, Nat.reduceBEq, Int.reduceLE, Int.reduceLT, Int.reduceEq, Int.reduceNe, Int.reduceNeg, Nat.reduceDiv, Nat.reduceMod, Nat.reducePow, cast_lit, ax4, bx4, cx4, hN0, hN]
        refine W_fit ⟨32, [], [(1, .sl a1.length (fl e_S_api_Tree a1)), (2, .fn 24 0 []), (8, .ref n 0), (9, .ref (n + 1) 0), (15, .sl a0.length (fl e_S_api_Tree a0)), (16, .val (.int .i64 (a0.length : Int))), (17, .val (.int .i64 s0_))]⟩ (Loc O n [some ⟨false, 25, 3, 1, [.val (.int .i64 x2.Kind), .sl x2.Words.length (fl (eI .u64) x2.Words), .sl x2.Kids.length (fl e_S_api_Tree x2.Kids)]⟩, some ⟨false, 25, 3, 1, [.val (.int .i64 x4.Kind), .sl x4.Words.length (fl (eI .u64) x4.Words), .sl x4.Kids.length (fl e_S_api_Tree x4.Kids)]⟩]) (fit_loc hU rfl rfl ?_) ?_
        · simp only [push_cast, Nat.reduceAdd, Nat.reduceSub, Nat.reduceMul, Nat.reduceLeDiff, Nat.reduceLT, Nat.reduceEqDiff, ↓reduceIte, reduceCtorEq, Int.reduceBEq, Int.reduceBNe, Nat.reduceBEq, Int.reduceLE, Int.reduceLT, Int.reduceEq, Int.reduceNe, Int.reduceNeg, Nat.reduceDiv, Nat.reduceMod, Nat.reducePow, cast_lit, ax4, bx4, cx4, hN0, hN]
        refine W_seqK ?_
        obtain ⟨y6, hy6, hs0_⟩ := bC hs0_
        refine W_regionD tab_ok [] ?_
        simp only [push_cast, seval, ↓reduceIte, cast_lit, hN0, hN]
        refine (ok_r_tree_Equal hy6).then ?_
        simp only [push_cast, seval, ↓reduceIte, cast_lit, hN0, hN]
        refine W_fit ⟨32, [], [(1, .sl a1.length (fl e_S_api_Tree a1)), (2, .fn 24 0 []), (15, .sl a0.length (fl e_S_api_Tree a0)), (16, .val (.int .i64 (a0.length : Int))), (17, .val (.int .i64 s0_)), (30, .val (.bool (!y6)))]⟩ (Loc O n [none, none]) (fit_loc hU rfl rfl ?_) ?_
        · simp only [push_cast, seval, ↓reduceIte, cast_lit, hN0, hN]
        refine W_cond (t := (!y6)) rfl (fun c7 => ?_) (fun c7 => ?_)
        · replace hs0_ := condT c7 hs0_
          refine W_sq [6] (W_regionD tab_ok [] ?_)
          simp only [push_cast, seval, ↓reduceIte, cast_lit, hN0, hN]
          refine W_ret ?_
          try simp only [gthen, gblock]
          have hs0_ := Option.some.inj hs0_; subst hs0_
          refine And.intro (fun h => by cases h) (And.intro rfl (Fit2.of (fit_loc hU rfl rfl ?_) (by omega)))
          simp only [push_cast, seval, ↓reduceIte, cast_lit, hN0, hN]
        · replace hs0_ := condF c7 hs0_
          refine W_skip ?_
          try simp only [gthen, gblock]
          refine W_fit ⟨32, [], [(1, .sl a1.length (fl e_S_api_Tree a1)), (2, .fn 24 0 []), (15, .sl a0.length (fl e_S_api_Tree a0)), (16, .val (.int .i64 (a0.length : Int))), (17, .val (.int .i64 s0_))]⟩ (Loc O n [none, none]) (fit_loc hU rfl rfl ?_) ?_
          · simp only [push_cast, seval, ↓reduceIte, cast_lit, hN0, hN]
          refine W_regionD tab_ok [] ?_
          simp only [push_cast, seval, ↓reduceIte, cast_lit, hN0, hN]
          have hs0_ := Option.some.inj hs0_; subst hs0_
          refine And.intro rfl (Fit2.of (fit_loc hU rfl rfl ?_) (by omega))
          simp only [push_cast, seval, ↓reduceIte, cast_lit, hN0, hN]
      · replace hs0_ := condF c8 hs0_
        refine W_exit ?_
        try simp only [gthen, gblock, ↓reduceIte, Nat.reduceEqDiff]
        have hs0_ := Option.some.inj hs0_; subst hs0_
        refine And.intro (fun h => by cases h) (And.intro rfl (Fit2.of (fit_loc hU rfl rfl ?_) (by omega)))
        simp only [push_cast, seval, ↓reduceIte, cast_lit, hN0, hN]
    rcases z9 with z9 | z9
    · dsimp only [SumJ] at hw h
      refine W_blockR hw ?_
      try simp only [gthen, gblock, ↓reduceIte, Nat.reduceEqDiff]
      have h := Option.some.inj h; subst h
      refine fin_loc (.inr rfl) hU [.val (.bool false)] (by omega) ?_
      simp only [push_cast, seval, ↓reduceIte, cast_lit, Try.results66, hN0, hN]
    · dsimp only [SumJ] at hw h
      refine W_blockX hw ?_
      try simp only [gthen, gblock, ↓reduceIte, Nat.reduceEqDiff]
      refine W_fit ⟨32, [], []⟩ (Loc O n []) (fit_loc hU rfl rfl ?_) ?_
      · simp only [push_cast, seval, ↓reduceIte, cast_lit, hN0, hN]
      refine W_sq [6] (W_regionD tab_ok [] ?_)
      simp only [push_cast, seval, ↓reduceIte, cast_lit, hN0, hN]
      refine W_ret ?_
      try simp only [gthen, gblock]
      have h := Option.some.inj h; subst h
      refine fin_loc (.inr rfl) hU [.val (.bool true)] (by omega) ?_
      simp only [push_cast, seval, ↓reduceIte, cast_lit, Try.results66, hN0, hN]

theorem lv_tree_Equal_ok : ∀ k, (∀ {a0 : S_api_Tree} {a1 : S_api_Tree} {r : Bool} {O : Objs} {n : Nat}, (lv_tree_Equal k).1 a0 a1 = some r → GTo Try.prog 24 [.agg [.val (.int .i64 a0.Kind), .sl a0.Words.length (fl (eI .u64) a0.Words), .sl a0.Kids.length (fl e_S_api_Tree a0.Kids)], .agg [.val (.int .i64 a1.Kind), .sl a1.Words.length (fl (eI .u64) a1.Words), .sl a1.Kids.length (fl e_S_api_Tree a1.Kids)]] O n (.val (.bool r)) O n) ∧ (∀ {a0 : (List S_api_Tree)} {a1 : (List S_api_Tree)} {r : Bool} {O : Objs} {n : Nat}, (lv_tree_Equal k).2 a0 a1 = some r → GTo Try.prog 66 [.sl a0.length (fl e_S_api_Tree a0), .sl a1.length (fl e_S_api_Tree a1), .fn 24 0 []] O n (.val (.bool r)) O n) := fun k => by
  induction k with
  | zero => exact ⟨@fun a0 a1 r O n h => (nomatch (show (none : Option _) = some _ from h)), @fun a0 a1 r O n h => (nomatch (show (none : Option _) = some _ from h))⟩
  | succ k ih => exact ⟨@fun a0 a1 r O n h => okb_tree_Equal (ih.1) (ih.2)  h, @fun a0 a1 r O n h => okb_slices_EqualFunc_api_Tree_api_Tree_api_Tree_api_Tree_f24 (ih.1) (ih.2)  h⟩

theorem ok_tree_Equal {a0 : S_api_Tree} {a1 : S_api_Tree} {r : Bool} {O : Objs} {n : Nat} (h : m_tree_Equal a0 a1 = some r) : GTo Try.prog 24 [.agg [.val (.int .i64 a0.Kind), .sl a0.Words.length (fl (eI .u64) a0.Words), .sl a0.Kids.length (fl e_S_api_Tree a0.Kids)], .agg [.val (.int .i64 a1.Kind), .sl a1.Words.length (fl (eI .u64) a1.Words), .sl a1.Kids.length (fl e_S_api_Tree a1.Kids)]] O n (.val (.bool r)) O n := by
  obtain ⟨k, hk⟩ := lim_some h
  exact (lv_tree_Equal_ok k).1  hk

theorem ok_slices_EqualFunc_api_Tree_api_Tree_api_Tree_api_Tree_f24 {a0 : (List S_api_Tree)} {a1 : (List S_api_Tree)} {r : Bool} {O : Objs} {n : Nat} (h : m_slices_EqualFunc_api_Tree_api_Tree_api_Tree_api_Tree_f24 a0 a1 = some r) : GTo Try.prog 66 [.sl a0.length (fl e_S_api_Tree a0), .sl a1.length (fl e_S_api_Tree a1), .fn 24 0 []] O n (.val (.bool r)) O n := by
  obtain ⟨k, hk⟩ := lim_some h
  exact (lv_tree_Equal_ok k).2  hk

theorem ok_slices_Equal_api_WordEdit_api_WordEdit {a0 : (List S_api_WordEdit)} {a1 : (List S_api_WordEdit)} {r : Bool} {O : Objs} {n : Nat} (h : m_slices_Equal_api_WordEdit_api_WordEdit a0 a1 = some r) : GTo Try.prog 78 [.sl a0.length (fl e_S_api_WordEdit a0), .sl a1.length (fl e_S_api_WordEdit a1)] O n (.val (.bool r)) O n := by
  unfold m_slices_Equal_api_WordEdit_api_WordEdit at h
  refine fn_of tab_ok Try.call78 Try.func78 rfl (Nat.le_of_ble_eq_true rfl) (Nat.le_refl _) fun hU => ?_
  have hN0 : O n = none := hU.fresh _ (Nat.le_refl _)
  have hN : ∀ k, O (n + k) = none := fun k => hU.fresh _ (Nat.le_add_right _ _)
  show W _ _ _ _ ⟨26, [], [(0, .sl a0.length (fl e_S_api_WordEdit a0)), (1, .sl a1.length (fl e_S_api_WordEdit a1))]⟩ (Loc O n []) _
  refine W_sq [0, 1] (W_regionD tab_ok [] ?_)
  simp only [push_cast, seval, ↓reduceIte, cast_lit, hN0, hN]
  refine W_seqK ?_
  refine W_sq [0, 1, 10] (W_regionD tab_ok [] ?_)
  simp only [push_cast, seval, ↓reduceIte, cast_lit, hN0, hN]
  refine W_cond (t := ((a0.length : Int) != (a1.length : Int))) rfl (fun c8 => ?_) (fun c8 => ?_)
  · replace h := condT c8 h
    refine W_sq [4] (W_regionD tab_ok [] ?_)
    simp only [push_cast, seval, ↓reduceIte, cast_lit, hN0, hN]
    refine W_ret ?_
    try simp only [gthen, gblock]
    have h := Option.some.inj h; subst h
    refine fin_loc (.inr rfl) hU [.val (.bool false)] (by omega) ?_
    simp only [push_cast, seval, ↓reduceIte, cast_lit, Try.results78, hN0, hN]
  · replace h := condF c8 h
    refine W_skip ?_
    try simp only [gthen, gblock]
    refine W_fit ⟨26, [], [(0, .sl a0.length (fl e_S_api_WordEdit a0)), (1, .sl a1.length (fl e_S_api_WordEdit a1))]⟩ (Loc O n []) (fit_loc hU rfl rfl ?_) ?_
    · simp only [push_cast, seval, ↓reduceIte, cast_lit, hN0, hN]
    refine W_seqK ?_
    refine W_sq [0, 1, 12, 13] (W_regionD tab_ok [] ?_)
    simp only [push_cast, seval, ↓reduceIte, cast_lit, hN0, hN]
    refine W_fit ⟨26, [], [(0, .sl a0.length (fl e_S_api_WordEdit a0)), (1, .sl a1.length (fl e_S_api_WordEdit a1)), (12, .val (.int .i64 (a0.length : Int))), (13, .val (.int .i64 0))]⟩ (Loc O n []) (fit_loc hU rfl rfl ?_) ?_
    · simp only [push_cast, seval, ↓reduceIte, cast_lit, hN0, hN]
    obtain ⟨z7, hz7, h⟩ := bC h
    refine W_sumB (J := (SumJ (fun z7 => JR n (⟨26, [], [(4, .val (.bool false))]⟩ : Env) (Loc O n []) n) (fun z7 => JX 0 n (⟨26, [], []⟩ : Env) (Loc O n []) n))) (z := z7) ?_ fun hw => ?_
    · refine W_loopJ hz7 (fun s0_ => ⟨26, [], [(0, .sl a0.length (fl e_S_api_WordEdit a0)), (1, .sl a1.length (fl e_S_api_WordEdit a1)), (12, .val (.int .i64 (a0.length : Int))), (13, .val (.int .i64 s0_))]⟩) (fun s0_ => (Loc O n [])) (SumJ (fun z7 => JR n (⟨26, [], [(4, .val (.bool false))]⟩ : Env) (Loc O n []) n) (fun z7 => JX 0 n (⟨26, [], []⟩ : Env) (Loc O n []) n)) ?_
      intro s0_ x0_ hs0_
      unfold m_slices_Equal_api_WordEdit_api_WordEdit_L0 at hs0_
      try dsimp only
      refine W_sq [0, 1, 12, 13, 14] (W_regionD tab_ok [] ?_)
      simp only [push_cast, seval, ↓reduceIte, cast_lit, hN0, hN]
      refine W_seqK ?_
      refine W_cond (t := (decide (s0_ < (a0.length : Int)))) rfl (fun c6 => ?_) (fun c6 => ?_)
      · replace hs0_ := condT c6 hs0_
        refine W_skip ?_
        try simp only [gthen, gblock]
        refine W_fit ⟨26, [], [(0, .sl a0.length (fl e_S_api_WordEdit a0)), (1, .sl a1.length (fl e_S_api_WordEdit a1)), (12, .val (.int .i64 (a0.length : Int))), (13, .val (.int .i64 s0_))]⟩ (Loc O n []) (fit_loc hU rfl rfl ?_) ?_
        · simp only [push_cast, seval, ↓reduceIte, cast_lit, hN0, hN]
        refine W_seqK ?_
        refine W_block ?_
        refine W_sq [0, 1, 5, 12, 13] (W_regionD tab_ok [] ?_)
        simp only [push_cast, seval, ↓reduceIte, cast_lit, hN0, hN]
        obtain ⟨x3, hx3, ax3, bx3, cx3, hs0_⟩ := bE (f := e_S_api_WordEdit) tab86 (fun _ => rfl) (by decide) hs0_
        obtain ⟨x4, hx4, ax4, bx4, cx4, hs0_⟩ := bE (f := e_S_api_WordEdit) tab86 (fun _ => rfl) (by decide) hs0_
        refine W_sq [0, 1, 12, 13, 24] (W_drawD tab_ok (by kernel_rfl) [] (by kernel_rfl) ?_)
        simp only [push_cast, Nat.reduceAdd, Nat.reduceSub, Nat.reduceMul, Nat.reduceLeDiff, Nat.reduceLT, Nat.reduceEqDiff, ↓reduceIte, reduceCtorEq, Int.reduceBEq, Int.reduceBNe, Nat.reduceBEq, Int.reduceLE, Int.reduceLT, Int.reduceEq, Int.reduceNe, Int.reduceNeg, Nat.reduceDiv, Nat.reduceMod, Nat.reducePow, cast_lit, ax3, bx3, cx3, ax4, bx4, cx4, hN0, hN]
        refine W_cond (t := (!((x3.At == x4.At) && ((x3.Mask == x4.Mask) && ((x3.Old == x4.Old) && (x3.New == x4.New)))))) rfl (fun c5 => ?_) (fun c5 => ?_)
        · replace hs0_ := condT c5 hs0_
          refine W_sq [4] (W_regionD tab_ok [] ?_)
          simp only [push_cast, seval, ↓reduceIte, cast_lit, hN0, hN]
          refine W_ret ?_
          try simp only [gthen, gblock]
          have hs0_ := Option.some.inj hs0_; subst hs0_
          refine And.intro (fun h => by cases h) (And.intro rfl (Fit2.of (fit_loc hU rfl rfl ?_) (by omega)))
          simp only [push_cast, seval, ↓reduceIte, cast_lit, hN0, hN]
        · replace hs0_ := condF c5 hs0_
          refine W_skip ?_
          try simp only [gthen, gblock]
          refine W_fit ⟨26, [], [(0, .sl a0.length (fl e_S_api_WordEdit a0)), (1, .sl a1.length (fl e_S_api_WordEdit a1)), (12, .val (.int .i64 (a0.length : Int))), (13, .val (.int .i64 s0_))]⟩ (Loc O n []) (fit_loc hU rfl rfl ?_) ?_
          · simp only [push_cast, seval, ↓reduceIte, cast_lit, hN0, hN]
          refine W_regionD tab_ok [] ?_
          simp only [push_cast, seval, ↓reduceIte, cast_lit, hN0, hN]
          have hs0_ := Option.some.inj hs0_; subst hs0_
          refine And.intro rfl (Fit2.of (fit_loc hU rfl rfl ?_) (by omega))
          simp only [push_cast, seval, ↓reduceIte, cast_lit, hN0, hN]
      · replace hs0_ := condF c6 hs0_
        refine W_exit ?_
        try simp only [gthen, gblock, ↓reduceIte, Nat.reduceEqDiff]
        have hs0_ := Option.some.inj hs0_; subst hs0_
        refine And.intro (fun h => by cases h) (And.intro rfl (Fit2.of (fit_loc hU rfl rfl ?_) (by omega)))
        simp only [push_cast, seval, ↓reduceIte, cast_lit, hN0, hN]
    rcases z7 with z7 | z7
    · dsimp only [SumJ] at hw h
      refine W_blockR hw ?_
      try simp only [gthen, gblock, ↓reduceIte, Nat.reduceEqDiff]
      have h := Option.some.inj h; subst h
      refine fin_loc (.inr rfl) hU [.val (.bool false)] (by omega) ?_
      simp only [push_cast, seval, ↓reduceIte, cast_lit, Try.results78, hN0, hN]
    · dsimp only [SumJ] at hw h
      refine W_blockX hw ?_
      try simp only [gthen, gblock, ↓reduceIte, Nat.reduceEqDiff]
      refine W_fit ⟨26, [], []⟩ (Loc O n []) (fit_loc hU rfl rfl ?_) ?_
      · simp only [push_cast, seval, ↓reduceIte, cast_lit, hN0, hN]
      refine W_sq [4] (W_regionD tab_ok [] ?_)
      simp only [push_cast, seval, ↓reduceIte, cast_lit, hN0, hN]
      refine W_ret ?_
      try simp only [gthen, gblock]
      have h := Option.some.inj h; subst h
      refine fin_loc (.inr rfl) hU [.val (.bool true)] (by omega) ?_
      simp only [push_cast, seval, ↓reduceIte, cast_lit, Try.results78, hN0, hN]

theorem okb_edit_Equal {r_edit_Equal : (S_api_Edit → S_api_Edit → Option Bool)} {r_slices_EqualFunc_api_KidEdit_api_KidEdit_api_KidEdit_api_KidEdit_f80 : ((List S_api_KidEdit) → (List S_api_KidEdit) → Option Bool)} {r_edit_equalKids : (S_api_KidEdit → S_api_KidEdit → Option Bool)} {r_slices_EqualFunc_api_Op_api_Op_api_Op_api_Op_f82 : ((List S_api_Op) → (List S_api_Op) → Option Bool)} {r_edit_equalOps : (S_api_Op → S_api_Op → Option Bool)} (ok_r_edit_Equal : ∀ {a0 : S_api_Edit} {a1 : S_api_Edit} {r : Bool} {O : Objs} {n : Nat}, r_edit_Equal a0 a1 = some r → GTo Try.prog 48 [.agg [.val (.int .i64 a0.Kind), .val (.int .i64 a0.Old.Kind), .sl a0.Old.Words.length (fl (eI .u64) a0.Old.Words), .sl a0.Old.Kids.length (fl e_S_api_Tree a0.Old.Kids), .val (.int .i64 a0.New.Kind), .sl a0.New.Words.length (fl (eI .u64) a0.New.Words), .sl a0.New.Kids.length (fl e_S_api_Tree a0.New.Kids), .sl a0.Words.length (fl e_S_api_WordEdit a0.Words), .sl a0.Kids.length (fl e_S_api_KidEdit a0.Kids), .val (.int .i64 a0.List_), .sl a0.Ops.length (fl e_S_api_Op a0.Ops)], .agg [.val (.int .i64 a1.Kind), .val (.int .i64 a1.Old.Kind), .sl a1.Old.Words.length (fl (eI .u64) a1.Old.Words), .sl a1.Old.Kids.length (fl e_S_api_Tree a1.Old.Kids), .val (.int .i64 a1.New.Kind), .sl a1.New.Words.length (fl (eI .u64) a1.New.Words), .sl a1.New.Kids.length (fl e_S_api_Tree a1.New.Kids), .sl a1.Words.length (fl e_S_api_WordEdit a1.Words), .sl a1.Kids.length (fl e_S_api_KidEdit a1.Kids), .val (.int .i64 a1.List_), .sl a1.Ops.length (fl e_S_api_Op a1.Ops)]] O n (.val (.bool r)) O n) (ok_r_slices_EqualFunc_api_KidEdit_api_KidEdit_api_KidEdit_api_KidEdit_f80 : ∀ {a0 : (List S_api_KidEdit)} {a1 : (List S_api_KidEdit)} {r : Bool} {O : Objs} {n : Nat}, r_slices_EqualFunc_api_KidEdit_api_KidEdit_api_KidEdit_api_KidEdit_f80 a0 a1 = some r → GTo Try.prog 79 [.sl a0.length (fl e_S_api_KidEdit a0), .sl a1.length (fl e_S_api_KidEdit a1), .fn 80 0 []] O n (.val (.bool r)) O n) (ok_r_edit_equalKids : ∀ {a0 : S_api_KidEdit} {a1 : S_api_KidEdit} {r : Bool} {O : Objs} {n : Nat}, r_edit_equalKids a0 a1 = some r → GTo Try.prog 80 [.agg [.val (.int .i64 a0.At), .val (.int .i64 a0.E.Kind), .val (.int .i64 a0.E.Old.Kind), .sl a0.E.Old.Words.length (fl (eI .u64) a0.E.Old.Words), .sl a0.E.Old.Kids.length (fl e_S_api_Tree a0.E.Old.Kids), .val (.int .i64 a0.E.New.Kind), .sl a0.E.New.Words.length (fl (eI .u64) a0.E.New.Words), .sl a0.E.New.Kids.length (fl e_S_api_Tree a0.E.New.Kids), .sl a0.E.Words.length (fl e_S_api_WordEdit a0.E.Words), .sl a0.E.Kids.length (fl e_S_api_KidEdit a0.E.Kids), .val (.int .i64 a0.E.List_), .sl a0.E.Ops.length (fl e_S_api_Op a0.E.Ops)], .agg [.val (.int .i64 a1.At), .val (.int .i64 a1.E.Kind), .val (.int .i64 a1.E.Old.Kind), .sl a1.E.Old.Words.length (fl (eI .u64) a1.E.Old.Words), .sl a1.E.Old.Kids.length (fl e_S_api_Tree a1.E.Old.Kids), .val (.int .i64 a1.E.New.Kind), .sl a1.E.New.Words.length (fl (eI .u64) a1.E.New.Words), .sl a1.E.New.Kids.length (fl e_S_api_Tree a1.E.New.Kids), .sl a1.E.Words.length (fl e_S_api_WordEdit a1.E.Words), .sl a1.E.Kids.length (fl e_S_api_KidEdit a1.E.Kids), .val (.int .i64 a1.E.List_), .sl a1.E.Ops.length (fl e_S_api_Op a1.E.Ops)]] O n (.val (.bool r)) O n) (ok_r_slices_EqualFunc_api_Op_api_Op_api_Op_api_Op_f82 : ∀ {a0 : (List S_api_Op)} {a1 : (List S_api_Op)} {r : Bool} {O : Objs} {n : Nat}, r_slices_EqualFunc_api_Op_api_Op_api_Op_api_Op_f82 a0 a1 = some r → GTo Try.prog 81 [.sl a0.length (fl e_S_api_Op a0), .sl a1.length (fl e_S_api_Op a1), .fn 82 0 []] O n (.val (.bool r)) O n) (ok_r_edit_equalOps : ∀ {a0 : S_api_Op} {a1 : S_api_Op} {r : Bool} {O : Objs} {n : Nat}, r_edit_equalOps a0 a1 = some r → GTo Try.prog 82 [.agg [.val (.int .i64 a0.Kind), .val (.int .i64 a0.N), .sl a0.L.length (fl e_S_api_Tree a0.L), .val (.int .i64 a0.E.Kind), .val (.int .i64 a0.E.Old.Kind), .sl a0.E.Old.Words.length (fl (eI .u64) a0.E.Old.Words), .sl a0.E.Old.Kids.length (fl e_S_api_Tree a0.E.Old.Kids), .val (.int .i64 a0.E.New.Kind), .sl a0.E.New.Words.length (fl (eI .u64) a0.E.New.Words), .sl a0.E.New.Kids.length (fl e_S_api_Tree a0.E.New.Kids), .sl a0.E.Words.length (fl e_S_api_WordEdit a0.E.Words), .sl a0.E.Kids.length (fl e_S_api_KidEdit a0.E.Kids), .val (.int .i64 a0.E.List_), .sl a0.E.Ops.length (fl e_S_api_Op a0.E.Ops)], .agg [.val (.int .i64 a1.Kind), .val (.int .i64 a1.N), .sl a1.L.length (fl e_S_api_Tree a1.L), .val (.int .i64 a1.E.Kind), .val (.int .i64 a1.E.Old.Kind), .sl a1.E.Old.Words.length (fl (eI .u64) a1.E.Old.Words), .sl a1.E.Old.Kids.length (fl e_S_api_Tree a1.E.Old.Kids), .val (.int .i64 a1.E.New.Kind), .sl a1.E.New.Words.length (fl (eI .u64) a1.E.New.Words), .sl a1.E.New.Kids.length (fl e_S_api_Tree a1.E.New.Kids), .sl a1.E.Words.length (fl e_S_api_WordEdit a1.E.Words), .sl a1.E.Kids.length (fl e_S_api_KidEdit a1.E.Kids), .val (.int .i64 a1.E.List_), .sl a1.E.Ops.length (fl e_S_api_Op a1.E.Ops)]] O n (.val (.bool r)) O n) {a0 : S_api_Edit} {a1 : S_api_Edit} {r : Bool} {O : Objs} {n : Nat} (h : b_edit_Equal r_edit_Equal r_slices_EqualFunc_api_KidEdit_api_KidEdit_api_KidEdit_api_KidEdit_f80 r_edit_equalKids r_slices_EqualFunc_api_Op_api_Op_api_Op_api_Op_f82 r_edit_equalOps a0 a1 = some r) : GTo Try.prog 48 [.agg [.val (.int .i64 a0.Kind), .val (.int .i64 a0.Old.Kind), .sl a0.Old.Words.length (fl (eI .u64) a0.Old.Words), .sl a0.Old.Kids.length (fl e_S_api_Tree a0.Old.Kids), .val (.int .i64 a0.New.Kind), .sl a0.New.Words.length (fl (eI .u64) a0.New.Words), .sl a0.New.Kids.length (fl e_S_api_Tree a0.New.Kids), .sl a0.Words.length (fl e_S_api_WordEdit a0.Words), .sl a0.Kids.length (fl e_S_api_KidEdit a0.Kids), .val (.int .i64 a0.List_), .sl a0.Ops.length (fl e_S_api_Op a0.Ops)], .agg [.val (.int .i64 a1.Kind), .val (.int .i64 a1.Old.Kind), .sl a1.Old.Words.length (fl (eI .u64) a1.Old.Words), .sl a1.Old.Kids.length (fl e_S_api_Tree a1.Old.Kids), .val (.int .i64 a1.New.Kind), .sl a1.New.Words.length (fl (eI .u64) a1.New.Words), .sl a1.New.Kids.length (fl e_S_api_Tree a1.New.Kids), .sl a1.Words.length (fl e_S_api_WordEdit a1.Words), .sl a1.Kids.length (fl e_S_api_KidEdit a1.Kids), .val (.int .i64 a1.List_), .sl a1.Ops.length (fl e_S_api_Op a1.Ops)]] O n (.val (.bool r)) O n := by
  unfold b_edit_Equal at h
  refine fn_of tab_ok Try.call48 Try.func48 rfl (Nat.le_of_ble_eq_true rfl) (Nat.le_refl _) fun hU => ?_
  have hN0 : O n = none := hU.fresh _ (Nat.le_refl _)
  have hN : ∀ k, O (n + k) = none := fun k => hU.fresh _ (Nat.le_add_right _ _)
  show W _ _ _ _ ⟨52, [], [(0, .agg [.val (.int .i64 a0.Kind), .val (.int .i64 a0.Old.Kind), .sl a0.Old.Words.length (fl (eI .u64) a0.Old.Words), .sl a0.Old.Kids.length (fl e_S_api_Tree a0.Old.Kids), .val (.int .i64 a0.New.Kind), .sl a0.New.Words.length (fl (eI .u64) a0.New.Words), .sl a0.New.Kids.length (fl e_S_api_Tree a0.New.Kids), .sl a0.Words.length (fl e_S_api_WordEdit a0.Words), .sl a0.Kids.length (fl e_S_api_KidEdit a0.Kids), .val (.int .i64 a0.List_), .sl a0.Ops.length (fl e_S_api_Op a0.Ops)]), (1, .agg [.val (.int .i64 a1.Kind), .val (.int .i64 a1.Old.Kind), .sl a1.Old.Words.length (fl (eI .u64) a1.Old.Words), .sl a1.Old.Kids.length (fl e_S_api_Tree a1.Old.Kids), .val (.int .i64 a1.New.Kind), .sl a1.New.Words.length (fl (eI .u64) a1.New.Words), .sl a1.New.Kids.length (fl e_S_api_Tree a1.New.Kids), .sl a1.Words.length (fl e_S_api_WordEdit a1.Words), .sl a1.Kids.length (fl e_S_api_KidEdit a1.Kids), .val (.int .i64 a1.List_), .sl a1.Ops.length (fl e_S_api_Op a1.Ops)])]⟩ (Loc O n []) _
  refine W_sq [2, 3] (W_regionD tab_ok [] ?_)
  simp only [push_cast, seval, ↓reduceIte, cast_lit, hN0, hN]
  obtain ⟨z6, hz6, h⟩ := bC h
  refine W_seqN (E' := ⟨52, [], [(4, .val (.bool z6))]⟩) (O' := (Loc O n [none, none])) (n0 := (n + 2)) ?_ ?_
  · rcases Bool.eq_false_or_eq_true (a0.Kind == a1.Kind) with c12 | c12
    · replace hz6 := condT c12 hz6
      rcases Bool.eq_false_or_eq_true (a0.List_ == a1.List_) with c13 | c13
      · replace hz6 := condT c13 hz6
        try rw [c13] at c12
        obtain ⟨y7, hy7, hz6⟩ := bC hz6
        rcases Bool.eq_false_or_eq_true y7 with c14 | c14
        · replace hz6 := condT c14 hz6
          try rw [c14] at c12
          try rw [c14] at c13
          obtain ⟨y8, hy8, hz6⟩ := bC hz6
          rcases Bool.eq_false_or_eq_true y8 with c15 | c15
          · replace hz6 := condT c15 hz6
            try rw [c15] at c12
            try rw [c15] at c13
            try rw [c15] at c14
            obtain ⟨y9, hy9, hz6⟩ := bC hz6
            rcases Bool.eq_false_or_eq_true y9 with c16 | c16
            · replace hz6 := condT c16 hz6
              try rw [c16] at c12
              try rw [c16] at c13
              try rw [c16] at c14
              try rw [c16] at c15
              obtain ⟨y10, hy10, hz6⟩ := bC hz6
              rcases Bool.eq_false_or_eq_true y10 with c17 | c17
              · replace hz6 := condT c17 hz6
                try rw [c17] at c12
                try rw [c17] at c13
                try rw [c17] at c14
                try rw [c17] at c15
                try rw [c17] at c16
                obtain ⟨y11, hy11, hz6⟩ := bC hz6
                refine W_regionD tab_ok [none, none, none, none, none, some true, some true, some true, some true, some true, some true, some true, some true, some true, some true, some true, some true, some true, some true, some true, some true, some true, some true, some true, some true, some true, some true, some true, some true, some true] ?_
                simp only [push_cast, seval, ↓reduceIte, cast_lit, c12, c13, c14, c15, c16, c17, hN0, hN]
                repeat (with_reducible refine And.intro (by first | (intro h0; simp only [h0, and_self]; done) | (intro h0; simp only [h0, Bool.not_false, Bool.not_true, Bool.true_and, Bool.and_true, true_and, and_true, and_self, imp_self, implies_true, bne_iff_ne, ne_eq, beq_iff_eq]; done) | (intros; simp_all; done) | exact True.intro) ?_)
                refine (ok_tree_Equal hy7).then ?_
                simp only [push_cast, seval, ↓reduceIte, cast_lit, c12, c13, c14, c15, c16, c17, hN0, hN]
                repeat (with_reducible refine And.intro (by first | (intro h0; simp only [h0, and_self]; done) | (intro h0; simp only [h0, Bool.not_false, Bool.not_true, Bool.true_and, Bool.and_true, true_and, and_true, and_self, imp_self, implies_true, bne_iff_ne, ne_eq, beq_iff_eq]; done) | (intros; simp_all; done) | exact True.intro) ?_)
                refine (ok_tree_Equal hy8).then ?_
                simp only [push_cast, seval, ↓reduceIte, cast_lit, c12, c13, c14, c15, c16, c17, hN0, hN]
                repeat (with_reducible refine And.intro (by first | (intro h0; simp only [h0, and_self]; done) | (intro h0; simp only [h0, Bool.not_false, Bool.not_true, Bool.true_and, Bool.and_true, true_and, and_true, and_self, imp_self, implies_true, bne_iff_ne, ne_eq, beq_iff_eq]; done) | (intros; simp_all; done) | exact True.intro) ?_)
                refine (ok_slices_Equal_api_WordEdit_api_WordEdit hy9).then ?_
                simp only [push_cast, seval, ↓reduceIte, cast_lit, c12, c13, c14, c15, c16, c17, hN0, hN]
                repeat (with_reducible refine And.intro (by first | (intro h0; simp only [h0, and_self]; done) | (intro h0; simp only [h0, Bool.not_false, Bool.not_true, Bool.true_and, Bool.and_true, true_and, and_true, and_self, imp_self, implies_true, bne_iff_ne, ne_eq, beq_iff_eq]; done) | (intros; simp_all; done) | exact True.intro) ?_)
                refine (ok_r_slices_EqualFunc_api_KidEdit_api_KidEdit_api_KidEdit_api_KidEdit_f80 hy10).then ?_
                simp only [push_cast, seval, ↓reduceIte, cast_lit, c12, c13, c14, c15, c16, c17, hN0, hN]
                repeat (with_reducible refine And.intro (by first | (intro h0; simp only [h0, and_self]; done) | (intro h0; simp only [h0, Bool.not_false, Bool.not_true, Bool.true_and, Bool.and_true, true_and, and_true, and_self, imp_self, implies_true, bne_iff_ne, ne_eq, beq_iff_eq]; done) | (intros; simp_all; done) | exact True.intro) ?_)
                refine (ok_r_slices_EqualFunc_api_Op_api_Op_api_Op_api_Op_f82 hy11).then ?_
                simp only [push_cast, seval, ↓reduceIte, cast_lit, c12, c13, c14, c15, c16, c17, hN0, hN]
                repeat (with_reducible refine And.intro (by first | (intro h0; simp only [h0, and_self]; done) | (intro h0; simp only [h0, Bool.not_false, Bool.not_true, Bool.true_and, Bool.and_true, true_and, and_true, and_self, imp_self, implies_true, bne_iff_ne, ne_eq, beq_iff_eq]; done) | (intros; simp_all; done) | exact True.intro) ?_)
                have hz6 := Option.some.inj hz6; subst hz6
                refine And.intro rfl (Fit2.of (fit_loc hU rfl rfl ?_) (by omega))
                simp only [push_cast, seval, ↓reduceIte, cast_lit, c12, c13, c14, c15, c16, c17, hN0, hN]
              · replace hz6 := condF c17 hz6
                try rw [c17] at c12
                try rw [c17] at c13
                try rw [c17] at c14
                try rw [c17] at c15
                try rw [c17] at c16
                refine W_regionD tab_ok [none, none, none, none, none, some true, some true, some true, some true, some true, some true, some true, some true, some true, some true, some true, some true, some true, some true, some true, some true, some true, some true, some true, some true, some false, some false, some false, some false, some false] ?_
                simp only [push_cast, seval, ↓reduceIte, cast_lit, c12, c13, c14, c15, c16, c17, hN0, hN]
                repeat (with_reducible refine And.intro (by first | (intro h0; simp only [h0, and_self]; done) | (intro h0; simp only [h0, Bool.not_false, Bool.not_true, Bool.true_and, Bool.and_true, true_and, and_true, and_self, imp_self, implies_true, bne_iff_ne, ne_eq, beq_iff_eq]; done) | (intros; simp_all; done) | exact True.intro) ?_)
                refine (ok_tree_Equal hy7).then ?_
                simp only [push_cast, seval, ↓reduceIte, cast_lit, c12, c13, c14, c15, c16, c17, hN0, hN]
                repeat (with_reducible refine And.intro (by first | (intro h0; simp only [h0, and_self]; done) | (intro h0; simp only [h0, Bool.not_false, Bool.not_true, Bool.true_and, Bool.and_true, true_and, and_true, and_self, imp_self, implies_true, bne_iff_ne, ne_eq, beq_iff_eq]; done) | (intros; simp_all; done) | exact True.intro) ?_)
                refine (ok_tree_Equal hy8).then ?_
                simp only [push_cast, seval, ↓reduceIte, cast_lit, c12, c13, c14, c15, c16, c17, hN0, hN]
                repeat (with_reducible refine And.intro (by first | (intro h0; simp only [h0, and_self]; done) | (intro h0; simp only [h0, Bool.not_false, Bool.not_true, Bool.true_and, Bool.and_true, true_and, and_true, and_self, imp_self, implies_true, bne_iff_ne, ne_eq, beq_iff_eq]; done) | (intros; simp_all; done) | exact True.intro) ?_)
                refine (ok_slices_Equal_api_WordEdit_api_WordEdit hy9).then ?_
                simp only [push_cast, seval, ↓reduceIte, cast_lit, c12, c13, c14, c15, c16, c17, hN0, hN]
                repeat (with_reducible refine And.intro (by first | (intro h0; simp only [h0, and_self]; done) | (intro h0; simp only [h0, Bool.not_false, Bool.not_true, Bool.true_and, Bool.and_true, true_and, and_true, and_self, imp_self, implies_true, bne_iff_ne, ne_eq, beq_iff_eq]; done) | (intros; simp_all; done) | exact True.intro) ?_)
                refine (ok_r_slices_EqualFunc_api_KidEdit_api_KidEdit_api_KidEdit_api_KidEdit_f80 hy10).then ?_
                simp only [push_cast, seval, ↓reduceIte, cast_lit, c12, c13, c14, c15, c16, c17, hN0, hN]
                repeat (with_reducible refine And.intro (by first | (intro h0; simp only [h0, and_self]; done) | (intro h0; simp only [h0, Bool.not_false, Bool.not_true, Bool.true_and, Bool.and_true, true_and, and_true, and_self, imp_self, implies_true, bne_iff_ne, ne_eq, beq_iff_eq]; done) | (intros; simp_all; done) | exact True.intro) ?_)
                have hz6 := Option.some.inj hz6; subst hz6
                refine And.intro rfl (Fit2.of (fit_loc hU rfl rfl ?_) (by omega))
                simp only [push_cast, seval, ↓reduceIte, cast_lit, c12, c13, c14, c15, c16, c17, hN0, hN]
            · replace hz6 := condF c16 hz6
              try rw [c16] at c12
              try rw [c16] at c13
              try rw [c16] at c14
              try rw [c16] at c15
              refine W_regionD tab_ok [none, none, none, none, none, some true, some true, some true, some true, some true, some true, some true, some true, some true, some true, some true, some true, some true, some true, some true, some false, some false, some false, some false, some false, some false, some false, some false, some false, some false] ?_
              simp only [push_cast, seval, ↓reduceIte, cast_lit, c12, c13, c14, c15, c16, hN0, hN]
              repeat (with_reducible refine And.intro (by first | (intro h0; simp only [h0, and_self]; done) | (intro h0; simp only [h0, Bool.not_false, Bool.not_true, Bool.true_and, Bool.and_true, true_and, and_true, and_self, imp_self, implies_true, bne_iff_ne, ne_eq, beq_iff_eq]; done) | (intros; simp_all; done) | exact True.intro) ?_)
              refine (ok_tree_Equal hy7).then ?_
              simp only [push_cast, seval, ↓reduceIte, cast_lit, c12, c13, c14, c15, c16, hN0, hN]
              repeat (with_reducible refine And.intro (by first | (intro h0; simp only [h0, and_self]; done) | (intro h0; simp only [h0, Bool.not_false, Bool.not_true, Bool.true_and, Bool.and_true, true_and, and_true, and_self, imp_self, implies_true, bne_iff_ne, ne_eq, beq_iff_eq]; done) | (intros; simp_all; done) | exact True.intro) ?_)
              refine (ok_tree_Equal hy8).then ?_
              simp only [push_cast, seval, ↓reduceIte, cast_lit, c12, c13, c14, c15, c16, hN0, hN]
              repeat (with_reducible refine And.intro (by first | (intro h0; simp only [h0, and_self]; done) | (intro h0; simp only [h0, Bool.not_false, Bool.not_true, Bool.true_and, Bool.and_true, true_and, and_true, and_self, imp_self, implies_true, bne_iff_ne, ne_eq, beq_iff_eq]; done) | (intros; simp_all; done) | exact True.intro) ?_)
              refine (ok_slices_Equal_api_WordEdit_api_WordEdit hy9).then ?_
              simp only [push_cast, seval, ↓reduceIte, cast_lit, c12, c13, c14, c15, c16, hN0, hN]
              repeat (with_reducible refine And.intro (by first | (intro h0; simp only [h0, and_self]; done) | (intro h0; simp only [h0, Bool.not_false, Bool.not_true, Bool.true_and, Bool.and_true, true_and, and_true, and_self, imp_self, implies_true, bne_iff_ne, ne_eq, beq_iff_eq]; done) | (intros; simp_all; done) | exact True.intro) ?_)
              have hz6 := Option.some.inj hz6; subst hz6
              refine And.intro rfl (Fit2.of (fit_loc hU rfl rfl ?_) (by omega))
              simp only [push_cast, seval, ↓reduceIte, cast_lit, c12, c13, c14, c15, c16, hN0, hN]
          · replace hz6 := condF c15 hz6
            try rw [c15] at c12
            try rw [c15] at c13
            try rw [c15] at c14
            refine W_regionD tab_ok [none, none, none, none, none, some true, some true, some true, some true, some true, some true, some true, some true, some true, some true, some false, some false, some false, some false, some false, some false, some false, some false, some false, some false, some false, some false, some false, some false, some false] ?_
            simp only [push_cast, seval, ↓reduceIte, cast_lit, c12, c13, c14, c15, hN0, hN]
            repeat (with_reducible refine And.intro (by first | (intro h0; simp only [h0, and_self]; done) | (intro h0; simp only [h0, Bool.not_false, Bool.not_true, Bool.true_and, Bool.and_true, true_and, and_true, and_self, imp_self, implies_true, bne_iff_ne, ne_eq, beq_iff_eq]; done) | (intros; simp_all; done) | exact True.intro) ?_)
            refine (ok_tree_Equal hy7).then ?_
            simp only [push_cast, seval, ↓reduceIte, cast_lit, c12, c13, c14, c15, hN0, hN]
            repeat (with_reducible refine And.intro (by first | (intro h0; simp only [h0, and_self]; done) | (intro h0; simp only [h0, Bool.not_false, Bool.not_true, Bool.true_and, Bool.and_true, true_and, and_true, and_self, imp_self, implies_true, bne_iff_ne, ne_eq, beq_iff_eq]; done) | (intros; simp_all; done) | exact True.intro) ?_)
            refine (ok_tree_Equal hy8).then ?_
            simp only [push_cast, seval, ↓reduceIte, cast_lit, c12, c13, c14, c15, hN0, hN]
            repeat (with_reducible refine And.intro (by first | (intro h0; simp only [h0, and_self]; done) | (intro h0; simp only [h0, Bool.not_false, Bool.not_true, Bool.true_and, Bool.and_true, true_and, and_true, and_self, imp_self, implies_true, bne_iff_ne, ne_eq, beq_iff_eq]; done) | (intros; simp_all; done) | exact True.intro) ?_)
            have hz6 := Option.some.inj hz6; subst hz6
            refine And.intro rfl (Fit2.of (fit_loc hU rfl rfl ?_) (by omega))
            simp only [push_cast, seval, ↓reduceIte, cast_lit, c12, c13, c14, c15, hN0, hN]
        · replace hz6 := condF c14 hz6
          try rw [c14] at c12
          try rw [c14] at c13
          refine W_regionD tab_ok [none, none, none, none, none, some true, some true, some true, some true, some true, some false, some false, some false, some false, some false, some false, some false, some false, some false, some false, some false, some false, some false, some false, some false, some false, some false, some false, some false, some false] ?_
          simp only [push_cast, seval, ↓reduceIte, cast_lit, c12, c13, c14, hN0, hN]
          repeat (with_reducible refine And.intro (by first | (intro h0; simp only [h0, and_self]; done) | (intro h0; simp only [h0, Bool.not_false, Bool.not_true, Bool.true_and, Bool.and_true, true_and, and_true, and_self, imp_self, implies_true, bne_iff_ne, ne_eq, beq_iff_eq]; done) | (intros; simp_all; done) | exact True.intro) ?_)
          refine (ok_tree_Equal hy7).then ?_
          simp only [push_cast, seval, ↓reduceIte, cast_lit, c12, c13, c14, hN0, hN]
          repeat (with_reducible refine And.intro (by first | (intro h0; simp only [h0, and_self]; done) | (intro h0; simp only [h0, Bool.not_false, Bool.not_true, Bool.true_and, Bool.and_true, true_and, and_true, and_self, imp_self, implies_true, bne_iff_ne, ne_eq, beq_iff_eq]; done) | (intros; simp_all; done) | exact True.intro) ?_)
          have hz6 := Option.some.inj hz6; subst hz6
          refine And.intro rfl (Fit2.of (fit_loc hU rfl rfl ?_) (by omega))
          simp only [push_cast, seval, ↓reduceIte, cast_lit, c12, c13, c14, hN0, hN]
      · replace hz6 := condF c13 hz6
        try rw [c13] at c12
        refine W_regionD tab_ok [none, none, none, none, none, some false, some false, some false, some false, some false, some false, some false, some false, some false, some false, some false, some false, some false, some false, some false, some false, some false, some false, some false, some false, some false, some false, some false, some false, some false] ?_
        simp only [push_cast, seval, ↓reduceIte, cast_lit, c12, c13, hN0, hN]
        repeat (with_reducible refine And.intro (by first | (intro h0; simp only [h0, and_self]; done) | (intro h0; simp only [h0, Bool.not_false, Bool.not_true, Bool.true_and, Bool.and_true, true_and, and_true, and_self, imp_self, implies_true, bne_iff_ne, ne_eq, beq_iff_eq]; done) | (intros; simp_all; done) | exact True.intro) ?_)
        have hz6 := Option.some.inj hz6; subst hz6
        refine And.intro rfl (Fit2.of (fit_loc hU rfl rfl ?_) (by omega))
        simp only [push_cast, seval, ↓reduceIte, cast_lit, c12, c13, hN0, hN]
    · replace hz6 := condF c12 hz6
      refine W_regionD tab_ok [none, none, none, none, none, some false, some false, some false, some false, some false, some false, some false, some false, some false, some false, some false, some false, some false, some false, some false, some false, some false, some false, some false, some false, some false, some false, some false, some false, some false] ?_
      simp only [push_cast, seval, ↓reduceIte, cast_lit, c12, hN0, hN]
      repeat (with_reducible refine And.intro (by first | (intro h0; simp only [h0, and_self]; done) | (intro h0; simp only [h0, Bool.not_false, Bool.not_true, Bool.true_and, Bool.and_true, true_and, and_true, and_self, imp_self, implies_true, bne_iff_ne, ne_eq, beq_iff_eq]; done) | (intros; simp_all; done) | exact True.intro) ?_)
      have hz6 := Option.some.inj hz6; subst hz6
      refine And.intro rfl (Fit2.of (fit_loc hU rfl rfl ?_) (by omega))
      simp only [push_cast, seval, ↓reduceIte, cast_lit, c12, hN0, hN]
  refine W_ret ?_
  try simp only [gthen, gblock]
  have h := Option.some.inj h; subst h
  refine fin_loc (.inr rfl) hU [.val (.bool z6)] (by omega) ?_
  simp only [push_cast, seval, ↓reduceIte, cast_lit, Try.results48, hN0, hN]

theorem okb_slices_EqualFunc_api_KidEdit_api_KidEdit_api_KidEdit_api_KidEdit_f80 {r_edit_Equal : (S_api_Edit → S_api_Edit → Option Bool)} {r_slices_EqualFunc_api_KidEdit_api_KidEdit_api_KidEdit_api_KidEdit_f80 : ((List S_api_KidEdit) → (List S_api_KidEdit) → Option Bool)} {r_edit_equalKids : (S_api_KidEdit → S_api_KidEdit → Option Bool)} {r_slices_EqualFunc_api_Op_api_Op_api_Op_api_Op_f82 : ((List S_api_Op) → (List S_api_Op) → Option Bool)} {r_edit_equalOps : (S_api_Op → S_api_Op → Option Bool)} (ok_r_edit_Equal : ∀ {a0 : S_api_Edit} {a1 : S_api_Edit} {r : Bool} {O : Objs} {n : Nat}, r_edit_Equal a0 a1 = some r → GTo Try.prog 48 [.agg [.val (.int .i64 a0.Kind), .val (.int .i64 a0.Old.Kind), .sl a0.Old.Words.length (fl (eI .u64) a0.Old.Words), .sl a0.Old.Kids.length (fl e_S_api_Tree a0.Old.Kids), .val (.int .i64 a0.New.Kind), .sl a0.New.Words.length (fl (eI .u64) a0.New.Words), .sl a0.New.Kids.length (fl e_S_api_Tree a0.New.Kids), .sl a0.Words.length (fl e_S_api_WordEdit a0.Words), .sl a0.Kids.length (fl e_S_api_KidEdit a0.Kids), .val (.int .i64 a0.List_), .sl a0.Ops.length (fl e_S_api_Op a0.Ops)], .agg [.val (.int .i64 a1.Kind), .val (.int .i64 a1.Old.Kind), .sl a1.Old.Words.length (fl (eI .u64) a1.Old.Words), .sl a1.Old.Kids.length (fl e_S_api_Tree a1.Old.Kids), .val (.int .i64 a1.New.Kind), .sl a1.New.Words.length (fl (eI .u64) a1.New.Words), .sl a1.New.Kids.length (fl e_S_api_Tree a1.New.Kids), .sl a1.Words.length (fl e_S_api_WordEdit a1.Words), .sl a1.Kids.length (fl e_S_api_KidEdit a1.Kids), .val (.int .i64 a1.List_), .sl a1.Ops.length (fl e_S_api_Op a1.Ops)]] O n (.val (.bool r)) O n) (ok_r_slices_EqualFunc_api_KidEdit_api_KidEdit_api_KidEdit_api_KidEdit_f80 : ∀ {a0 : (List S_api_KidEdit)} {a1 : (List S_api_KidEdit)} {r : Bool} {O : Objs} {n : Nat}, r_slices_EqualFunc_api_KidEdit_api_KidEdit_api_KidEdit_api_KidEdit_f80 a0 a1 = some r → GTo Try.prog 79 [.sl a0.length (fl e_S_api_KidEdit a0), .sl a1.length (fl e_S_api_KidEdit a1), .fn 80 0 []] O n (.val (.bool r)) O n) (ok_r_edit_equalKids : ∀ {a0 : S_api_KidEdit} {a1 : S_api_KidEdit} {r : Bool} {O : Objs} {n : Nat}, r_edit_equalKids a0 a1 = some r → GTo Try.prog 80 [.agg [.val (.int .i64 a0.At), .val (.int .i64 a0.E.Kind), .val (.int .i64 a0.E.Old.Kind), .sl a0.E.Old.Words.length (fl (eI .u64) a0.E.Old.Words), .sl a0.E.Old.Kids.length (fl e_S_api_Tree a0.E.Old.Kids), .val (.int .i64 a0.E.New.Kind), .sl a0.E.New.Words.length (fl (eI .u64) a0.E.New.Words), .sl a0.E.New.Kids.length (fl e_S_api_Tree a0.E.New.Kids), .sl a0.E.Words.length (fl e_S_api_WordEdit a0.E.Words), .sl a0.E.Kids.length (fl e_S_api_KidEdit a0.E.Kids), .val (.int .i64 a0.E.List_), .sl a0.E.Ops.length (fl e_S_api_Op a0.E.Ops)], .agg [.val (.int .i64 a1.At), .val (.int .i64 a1.E.Kind), .val (.int .i64 a1.E.Old.Kind), .sl a1.E.Old.Words.length (fl (eI .u64) a1.E.Old.Words), .sl a1.E.Old.Kids.length (fl e_S_api_Tree a1.E.Old.Kids), .val (.int .i64 a1.E.New.Kind), .sl a1.E.New.Words.length (fl (eI .u64) a1.E.New.Words), .sl a1.E.New.Kids.length (fl e_S_api_Tree a1.E.New.Kids), .sl a1.E.Words.length (fl e_S_api_WordEdit a1.E.Words), .sl a1.E.Kids.length (fl e_S_api_KidEdit a1.E.Kids), .val (.int .i64 a1.E.List_), .sl a1.E.Ops.length (fl e_S_api_Op a1.E.Ops)]] O n (.val (.bool r)) O n) (ok_r_slices_EqualFunc_api_Op_api_Op_api_Op_api_Op_f82 : ∀ {a0 : (List S_api_Op)} {a1 : (List S_api_Op)} {r : Bool} {O : Objs} {n : Nat}, r_slices_EqualFunc_api_Op_api_Op_api_Op_api_Op_f82 a0 a1 = some r → GTo Try.prog 81 [.sl a0.length (fl e_S_api_Op a0), .sl a1.length (fl e_S_api_Op a1), .fn 82 0 []] O n (.val (.bool r)) O n) (ok_r_edit_equalOps : ∀ {a0 : S_api_Op} {a1 : S_api_Op} {r : Bool} {O : Objs} {n : Nat}, r_edit_equalOps a0 a1 = some r → GTo Try.prog 82 [.agg [.val (.int .i64 a0.Kind), .val (.int .i64 a0.N), .sl a0.L.length (fl e_S_api_Tree a0.L), .val (.int .i64 a0.E.Kind), .val (.int .i64 a0.E.Old.Kind), .sl a0.E.Old.Words.length (fl (eI .u64) a0.E.Old.Words), .sl a0.E.Old.Kids.length (fl e_S_api_Tree a0.E.Old.Kids), .val (.int .i64 a0.E.New.Kind), .sl a0.E.New.Words.length (fl (eI .u64) a0.E.New.Words), .sl a0.E.New.Kids.length (fl e_S_api_Tree a0.E.New.Kids), .sl a0.E.Words.length (fl e_S_api_WordEdit a0.E.Words), .sl a0.E.Kids.length (fl e_S_api_KidEdit a0.E.Kids), .val (.int .i64 a0.E.List_), .sl a0.E.Ops.length (fl e_S_api_Op a0.E.Ops)], .agg [.val (.int .i64 a1.Kind), .val (.int .i64 a1.N), .sl a1.L.length (fl e_S_api_Tree a1.L), .val (.int .i64 a1.E.Kind), .val (.int .i64 a1.E.Old.Kind), .sl a1.E.Old.Words.length (fl (eI .u64) a1.E.Old.Words), .sl a1.E.Old.Kids.length (fl e_S_api_Tree a1.E.Old.Kids), .val (.int .i64 a1.E.New.Kind), .sl a1.E.New.Words.length (fl (eI .u64) a1.E.New.Words), .sl a1.E.New.Kids.length (fl e_S_api_Tree a1.E.New.Kids), .sl a1.E.Words.length (fl e_S_api_WordEdit a1.E.Words), .sl a1.E.Kids.length (fl e_S_api_KidEdit a1.E.Kids), .val (.int .i64 a1.E.List_), .sl a1.E.Ops.length (fl e_S_api_Op a1.E.Ops)]] O n (.val (.bool r)) O n) {a0 : (List S_api_KidEdit)} {a1 : (List S_api_KidEdit)} {r : Bool} {O : Objs} {n : Nat} (h : b_slices_EqualFunc_api_KidEdit_api_KidEdit_api_KidEdit_api_KidEdit_f80 r_edit_Equal r_slices_EqualFunc_api_KidEdit_api_KidEdit_api_KidEdit_api_KidEdit_f80 r_edit_equalKids r_slices_EqualFunc_api_Op_api_Op_api_Op_api_Op_f82 r_edit_equalOps a0 a1 = some r) : GTo Try.prog 79 [.sl a0.length (fl e_S_api_KidEdit a0), .sl a1.length (fl e_S_api_KidEdit a1), .fn 80 0 []] O n (.val (.bool r)) O n := by
  unfold b_slices_EqualFunc_api_KidEdit_api_KidEdit_api_KidEdit_api_KidEdit_f80 at h
  refine fn_of tab_ok Try.call79 Try.func79 rfl (Nat.le_of_ble_eq_true rfl) (Nat.le_refl _) fun hU => ?_
  have hN0 : O n = none := hU.fresh _ (Nat.le_refl _)
  have hN : ∀ k, O (n + k) = none := fun k => hU.fresh _ (Nat.le_add_right _ _)
  show W _ _ _ _ ⟨32, [], [(0, .sl a0.length (fl e_S_api_KidEdit a0)), (1, .sl a1.length (fl e_S_api_KidEdit a1)), (2, .fn 80 0 [])]⟩ (Loc O n []) _
  refine W_sq [0, 1, 2] (W_regionD tab_ok [] ?_)
  simp only [push_cast, seval, ↓reduceIte, cast_lit, hN0, hN]
  refine W_seqK ?_
  refine W_sq [0, 1, 2, 14] (W_regionD tab_ok [] ?_)
  simp only [push_cast, seval, ↓reduceIte, cast_lit, hN0, hN]
  refine W_cond (t := ((a0.length : Int) != (a1.length : Int))) rfl (fun c10 => ?_) (fun c10 => ?_)
  · replace h := condT c10 h
    refine W_sq [6] (W_regionD tab_ok [] ?_)
    simp only [push_cast, seval, ↓reduceIte, cast_lit, hN0, hN]
    refine W_ret ?_
    try simp only [gthen, gblock]
    have h := Option.some.inj h; subst h
    refine fin_loc (.inr rfl) hU [.val (.bool false)] (by omega) ?_
    simp only [push_cast, seval, ↓reduceIte, cast_lit, Try.results79, hN0, hN]
  · replace h := condF c10 h
    refine W_skip ?_
    try simp only [gthen, gblock]
    refine W_fit ⟨32, [], [(0, .sl a0.length (fl e_S_api_KidEdit a0)), (1, .sl a1.length (fl e_S_api_KidEdit a1)), (2, .fn 80 0 [])]⟩ (Loc O n []) (fit_loc hU rfl rfl ?_) ?_
    · simp only [push_cast, seval, ↓reduceIte, cast_lit, hN0, hN]
    refine W_seqK ?_
    refine W_sq [1, 2, 15, 16, 17] (W_regionD tab_ok [] ?_)
    simp only [push_cast, seval, ↓reduceIte, cast_lit, hN0, hN]
    refine W_fit ⟨32, [], [(1, .sl a1.length (fl e_S_api_KidEdit a1)), (2, .fn 80 0 []), (15, .sl a0.length (fl e_S_api_KidEdit a0)), (16, .val (.int .i64 (a0.length : Int))), (17, .val (.int .i64 0))]⟩ (Loc O n []) (fit_loc hU rfl rfl ?_) ?_
    · simp only [push_cast, seval, ↓reduceIte, cast_lit, hN0, hN]
    obtain ⟨z9, hz9, h⟩ := bC h
    refine W_sumB (J := (SumJ (fun z9 => JR n (⟨32, [], [(6, .val (.bool false))]⟩ : Env) (Loc O n []) n) (fun z9 => JX 0 n (⟨32, [], []⟩ : Env) (Loc O n []) n))) (z := z9) ?_ fun hw => ?_
    · refine W_loopJ hz9 (fun s0_ => ⟨32, [], [(1, .sl a1.length (fl e_S_api_KidEdit a1)), (2, .fn 80 0 []), (15, .sl a0.length (fl e_S_api_KidEdit a0)), (16, .val (.int .i64 (a0.length : Int))), (17, .val (.int .i64 s0_))]⟩) (fun s0_ => (Loc O n [])) (SumJ (fun z9 => JR n (⟨32, [], [(6, .val (.bool false))]⟩ : Env) (Loc O n []) n) (fun z9 => JX 0 n (⟨32, [], []⟩ : Env) (Loc O n []) n)) ?_
      intro s0_ x0_ hs0_
      unfold b_slices_EqualFunc_api_KidEdit_api_KidEdit_api_KidEdit_api_KidEdit_f80_L0 at hs0_
      try dsimp only
      refine W_sq [1, 2, 15, 16, 17, 18] (W_regionD tab_ok [] ?_)
      simp only [push_cast, seval, ↓reduceIte, cast_lit, hN0, hN]
      refine W_seqK ?_
      refine W_cond (t := (decide (s0_ < (a0.length : Int)))) rfl (fun c8 => ?_) (fun c8 => ?_)
      · replace hs0_ := condT c8 hs0_
        refine W_skip ?_
        try simp only [gthen, gblock]
        refine W_fit ⟨32, [], [(1, .sl a1.length (fl e_S_api_KidEdit a1)), (2, .fn 80 0 []), (15, .sl a0.length (fl e_S_api_KidEdit a0)), (16, .val (.int .i64 (a0.length : Int))), (17, .val (.int .i64 s0_))]⟩ (Loc O n []) (fit_loc hU rfl rfl ?_) ?_
        · simp only [push_cast, seval, ↓reduceIte, cast_lit, hN0, hN]
        refine W_seqK ?_
        refine W_block ?_
        refine W_seqK ?_
        obtain ⟨x2, hx2, ax2, bx2, cx2, hs0_⟩ := bE (f := e_S_api_KidEdit) tab61 (fun _ => rfl) (by decide) hs0_
        refine W_regionD tab_ok [] ?_
        simp only [push_cast, Nat.reduceAdd, Nat.reduceSub, Nat.reduceMul, Nat.reduceLeDiff, Nat.reduceLT, Nat.reduceEqDiff, ↓reduceIte, reduceCtorEq, Int.reduceBEq, Int.reduceBNe, Nat.reduceBEq, Int.reduceLE, Int.reduceLT, Int.reduceEq, Int.reduceNe, Int.reduceNeg, Nat.reduceDiv, Nat.reduceMod, Nat.reducePow, cast_lit, ax2, bx2, cx2, hN0, hN]
        refine W_fit ⟨32, [], [(1, .sl a1.length (fl e_S_api_KidEdit a1)), (2, .fn 80 0 []), (7, .val (.int .i64 s0_)), (8, .ref n 0), (15, .sl a0.length (fl e_S_api_KidEdit a0)), (16, .val (.int .i64 (a0.length : Int))), (17, .val (.int .i64 s0_))]⟩ (Loc O n [some ⟨false, 61, 12, 1, [.val (.int .i64 x2.At), .val (.int .i64 x2.E.Kind), .val (.int .i64 x2.E.Old.Kind), .sl x2.E.Old.Words.length (fl (eI .u64) x2.E.Old.Words), .sl x2.E.Old.Kids.length (fl e_S_api_Tree x2.E.Old.Kids), .val (.int .i64 x2.E.New.Kind), .sl x2.E.New.Words.length (fl (eI .u64) x2.E.New.Words), .sl x2.E.New.Kids.length (fl e_S_api_Tree x2.E.New.Kids), .sl x2.E.Words.length (fl e_S_api_WordEdit x2.E.Words), .sl x2.E.Kids.length (fl e_S_api_KidEdit x2.E.Kids), .val (.int .i64 x2.E.List_), .sl x2.E.Ops.length (fl e_S_api_Op x2.E.Ops)]⟩]) (fit_loc hU rfl rfl ?_) ?_
        · simp only [push_cast, Nat.reduceAdd, Nat.reduceSub, Nat.reduceMul, Nat.reduceLeDiff, Nat.reduceLT, Nat.reduceEqDiff, ↓reduceIte, reduceCtorEq, Int.reduceBEq, Int.reduceBNe, Nat.reduceBEq, Int.reduceLE, Int.reduceLT, Int.reduceEq, Int.reduceNe, Int.reduceNeg, Nat.reduceDiv, Nat.reduceMod, Nat.reducePow, cast_lit, ax2, bx2, cx2, hN0, hN]
        refine W_seqK ?_
        obtain ⟨x4, hx4, ax4, bx4, cx4, hs0_⟩ := bE (f := e_S_api_KidEdit) tab61 (fun _ => rfl) (by decide) hs0_
        refine W_regionD tab_ok [] ?_
        simp only [push_cast, Nat.reduceAdd, Nat.reduceSub, Nat.reduceMul, Nat.reduceLeDiff, Nat.reduceLT, Nat.reduceEqDiff, ↓reduceIte, reduceCtorEq, Int.reduceBEq, Int.reduceBNe, Nat.reduceBEq, Int.reduceLE, Int.reduceLT, Int.reduceEq, Int.reduceNe, Int.reduceNeg, Nat.reduceDiv, Nat.reduceMod, Nat.reducePow, cast_lit, ax4, bx4, cx4, hN0, hN]
        refine W_fit ⟨32, [], [(1, .sl a1.length (fl e_S_api_KidEdit a1)), (2, .fn 80 0 []), (8, .ref n 0), (9, .ref (n + 1) 0), (15, .sl a0.length (fl e_S_api_KidEdit a0)), (16, .val (.int .i64 (a0.length : Int))), (17, .val (.int .i64 s0_))]⟩ (Loc O n [some ⟨false, 61, 12, 1, [.val (.int .i64 x2.At), .val (.int .i64 x2.E.Kind), .val (.int .i64 x2.E.Old.Kind), .sl x2.E.Old.Words.length (fl (eI .u64) x2.E.Old.Words), .sl x2.E.Old.Kids.length (fl e_S_api_Tree x2.E.Old.Kids), .val (.int .i64 x2.E.New.Kind), .sl x2.E.New.Words.length (fl (eI .u64) x2.E.New.Words), .sl x2.E.New.Kids.length (fl e_S_api_Tree x2.E.New.Kids), .sl x2.E.Words.length (fl e_S_api_WordEdit x2.E.Words), .sl x2.E.Kids.length (fl e_S_api_KidEdit x2.E.Kids), .val (.int .i64 x2.E.List_), .sl x2.E.Ops.length (fl e_S_api_Op x2.E.Ops)]⟩, some ⟨false, 61, 12, 1, [.val (.int .i64 x4.At), .val (.int .i64 x4.E.Kind), .val (.int .i64 x4.E.Old.Kind), .sl x4.E.Old.Words.length (fl (eI .u64) x4.E.Old.Words), .sl x4.E.Old.Kids.length (fl e_S_api_Tree x4.E.Old.Kids), .val (.int .i64 x4.E.New.Kind), .sl x4.E.New.Words.length (fl (eI .u64) x4.E.New.Words), .sl x4.E.New.Kids.length (fl e_S_api_Tree x4.E.New.Kids), .sl x4.E.Words.length (fl e_S_api_WordEdit x4.E.Words), .sl x4.E.Kids.length (fl e_S_api_KidEdit x4.E.Kids), .val (.int .i64 x4.E.List_), .sl x4.E.Ops.length (fl e_S_api_Op x4.E.Ops)]⟩]) (fit_loc hU rfl rfl ?_) ?_
        · simp only [push_cast, Nat.reduceAdd, Nat.reduceSub, Nat.reduceMul, Nat.reduceLeDiff, Nat.reduceLT, Nat.reduceEqDiff, ↓reduceIte, reduceCtorEq, Int.reduceBEq, Int.reduceBNe, Nat.reduceBEq, Int.reduceLE, Int.reduceLT, Int.reduceEq, Int.reduceNe, Int.reduceNeg, Nat.reduceDiv, Nat.reduceMod, Nat.reducePow, cast_lit, ax4, bx4, cx4, hN0, hN]
        refine W_seqK ?_
        obtain ⟨y6, hy6, hs0_⟩ := bC hs0_
        refine W_regionD tab_ok [] ?_
        simp only [push_cast, seval, ↓reduceIte, cast_lit, hN0, hN]
        refine (ok_r_edit_equalKids hy6).then ?_
        simp only [push_cast, seval, ↓reduceIte, cast_lit, hN0, hN]
        refine W_fit ⟨32, [], [(1, .sl a1.length (fl e_S_api_KidEdit a1)), (2, .fn 80 0 []), (15, .sl a0.length (fl e_S_api_KidEdit a0)), (16, .val (.int .i64 (a0.length : Int))), (17, .val (.int .i64 s0_)), (30, .val (.bool (!y6)))]⟩ (Loc O n [none, none]) (fit_loc hU rfl rfl ?_) ?_
        · simp only [push_cast, seval, ↓reduceIte, cast_lit, hN0, hN]
        refine W_cond (t := (!y6)) rfl (fun c7 => ?_) (fun c7 => ?_)
        · replace hs0_ := condT c7 hs0_
          refine W_sq [6] (W_regionD tab_ok [] ?_)
          simp only [push_cast, seval, ↓reduceIte, cast_lit, hN0, hN]
          refine W_ret ?_
          try simp only [gthen, gblock]
          have hs0_ := Option.some.inj hs0_; subst hs0_
          refine And.intro (fun h => by cases h) (And.intro rfl (Fit2.of (fit_loc hU rfl rfl ?_) (by omega)))
          simp only [push_cast, seval, ↓reduceIte, cast_lit, hN0, hN]
        · replace hs0_ := condF c7 hs0_
          refine W_skip ?_
          try simp only [gthen, gblock]
          refine W_fit ⟨32, [], [(1, .sl a1.length (fl e_S_api_KidEdit a1)), (2, .fn 80 0 []), (15, .sl a0.length (fl e_S_api_KidEdit a0)), (16, .val (.int .i64 (a0.length : Int))), (17, .val (.int .i64 s0_))]⟩ (Loc O n [none, none]) (fit_loc hU rfl rfl ?_) ?_
          · simp only [push_cast, seval, ↓reduceIte, cast_lit, hN0, hN]
          refine W_regionD tab_ok [] ?_
          simp only [push_cast, seval, ↓reduceIte, cast_lit, hN0, hN]
          have hs0_ := Option.some.inj hs0_; subst hs0_
          refine And.intro rfl (Fit2.of (fit_loc hU rfl rfl ?_) (by omega))
          simp only [push_cast, seval, ↓reduceIte, cast_lit, hN0, hN]
      · replace hs0_ := condF c8 hs0_
        refine W_exit ?_
        try simp only [gthen, gblock, ↓reduceIte, Nat.reduceEqDiff]
        have hs0_ := Option.some.inj hs0_; subst hs0_
        refine And.intro (fun h => by cases h) (And.intro rfl (Fit2.of (fit_loc hU rfl rfl ?_) (by omega)))
        simp only [push_cast, seval, ↓reduceIte, cast_lit, hN0, hN]
    rcases z9 with z9 | z9
    · dsimp only [SumJ] at hw h
      refine W_blockR hw ?_
      try simp only [gthen, gblock, ↓reduceIte, Nat.reduceEqDiff]
      have h := Option.some.inj h; subst h
      refine fin_loc (.inr rfl) hU [.val (.bool false)] (by omega) ?_
      simp only [push_cast, seval, ↓reduceIte, cast_lit, Try.results79, hN0, hN]
    · dsimp only [SumJ] at hw h
      refine W_blockX hw ?_
      try simp only [gthen, gblock, ↓reduceIte, Nat.reduceEqDiff]
      refine W_fit ⟨32, [], []⟩ (Loc O n []) (fit_loc hU rfl rfl ?_) ?_
      · simp only [push_cast, seval, ↓reduceIte, cast_lit, hN0, hN]
      refine W_sq [6] (W_regionD tab_ok [] ?_)
      simp only [push_cast, seval, ↓reduceIte, cast_lit, hN0, hN]
      refine W_ret ?_
      try simp only [gthen, gblock]
      have h := Option.some.inj h; subst h
      refine fin_loc (.inr rfl) hU [.val (.bool true)] (by omega) ?_
      simp only [push_cast, seval, ↓reduceIte, cast_lit, Try.results79, hN0, hN]

theorem okb_edit_equalKids {r_edit_Equal : (S_api_Edit → S_api_Edit → Option Bool)} {r_slices_EqualFunc_api_KidEdit_api_KidEdit_api_KidEdit_api_KidEdit_f80 : ((List S_api_KidEdit) → (List S_api_KidEdit) → Option Bool)} {r_edit_equalKids : (S_api_KidEdit → S_api_KidEdit → Option Bool)} {r_slices_EqualFunc_api_Op_api_Op_api_Op_api_Op_f82 : ((List S_api_Op) → (List S_api_Op) → Option Bool)} {r_edit_equalOps : (S_api_Op → S_api_Op → Option Bool)} (ok_r_edit_Equal : ∀ {a0 : S_api_Edit} {a1 : S_api_Edit} {r : Bool} {O : Objs} {n : Nat}, r_edit_Equal a0 a1 = some r → GTo Try.prog 48 [.agg [.val (.int .i64 a0.Kind), .val (.int .i64 a0.Old.Kind), .sl a0.Old.Words.length (fl (eI .u64) a0.Old.Words), .sl a0.Old.Kids.length (fl e_S_api_Tree a0.Old.Kids), .val (.int .i64 a0.New.Kind), .sl a0.New.Words.length (fl (eI .u64) a0.New.Words), .sl a0.New.Kids.length (fl e_S_api_Tree a0.New.Kids), .sl a0.Words.length (fl e_S_api_WordEdit a0.Words), .sl a0.Kids.length (fl e_S_api_KidEdit a0.Kids), .val (.int .i64 a0.List_), .sl a0.Ops.length (fl e_S_api_Op a0.Ops)], .agg [.val (.int .i64 a1.Kind), .val (.int .i64 a1.Old.Kind), .sl a1.Old.Words.length (fl (eI .u64) a1.Old.Words), .sl a1.Old.Kids.length (fl e_S_api_Tree a1.Old.Kids), .val (.int .i64 a1.New.Kind), .sl a1.New.Words.length (fl (eI .u64) a1.New.Words), .sl a1.New.Kids.length (fl e_S_api_Tree a1.New.Kids), .sl a1.Words.length (fl e_S_api_WordEdit a1.Words), .sl a1.Kids.length (fl e_S_api_KidEdit a1.Kids), .val (.int .i64 a1.List_), .sl a1.Ops.length (fl e_S_api_Op a1.Ops)]] O n (.val (.bool r)) O n) (ok_r_slices_EqualFunc_api_KidEdit_api_KidEdit_api_KidEdit_api_KidEdit_f80 : ∀ {a0 : (List S_api_KidEdit)} {a1 : (List S_api_KidEdit)} {r : Bool} {O : Objs} {n : Nat}, r_slices_EqualFunc_api_KidEdit_api_KidEdit_api_KidEdit_api_KidEdit_f80 a0 a1 = some r → GTo Try.prog 79 [.sl a0.length (fl e_S_api_KidEdit a0), .sl a1.length (fl e_S_api_KidEdit a1), .fn 80 0 []] O n (.val (.bool r)) O n) (ok_r_edit_equalKids : ∀ {a0 : S_api_KidEdit} {a1 : S_api_KidEdit} {r : Bool} {O : Objs} {n : Nat}, r_edit_equalKids a0 a1 = some r → GTo Try.prog 80 [.agg [.val (.int .i64 a0.At), .val (.int .i64 a0.E.Kind), .val (.int .i64 a0.E.Old.Kind), .sl a0.E.Old.Words.length (fl (eI .u64) a0.E.Old.Words), .sl a0.E.Old.Kids.length (fl e_S_api_Tree a0.E.Old.Kids), .val (.int .i64 a0.E.New.Kind), .sl a0.E.New.Words.length (fl (eI .u64) a0.E.New.Words), .sl a0.E.New.Kids.length (fl e_S_api_Tree a0.E.New.Kids), .sl a0.E.Words.length (fl e_S_api_WordEdit a0.E.Words), .sl a0.E.Kids.length (fl e_S_api_KidEdit a0.E.Kids), .val (.int .i64 a0.E.List_), .sl a0.E.Ops.length (fl e_S_api_Op a0.E.Ops)], .agg [.val (.int .i64 a1.At), .val (.int .i64 a1.E.Kind), .val (.int .i64 a1.E.Old.Kind), .sl a1.E.Old.Words.length (fl (eI .u64) a1.E.Old.Words), .sl a1.E.Old.Kids.length (fl e_S_api_Tree a1.E.Old.Kids), .val (.int .i64 a1.E.New.Kind), .sl a1.E.New.Words.length (fl (eI .u64) a1.E.New.Words), .sl a1.E.New.Kids.length (fl e_S_api_Tree a1.E.New.Kids), .sl a1.E.Words.length (fl e_S_api_WordEdit a1.E.Words), .sl a1.E.Kids.length (fl e_S_api_KidEdit a1.E.Kids), .val (.int .i64 a1.E.List_), .sl a1.E.Ops.length (fl e_S_api_Op a1.E.Ops)]] O n (.val (.bool r)) O n) (ok_r_slices_EqualFunc_api_Op_api_Op_api_Op_api_Op_f82 : ∀ {a0 : (List S_api_Op)} {a1 : (List S_api_Op)} {r : Bool} {O : Objs} {n : Nat}, r_slices_EqualFunc_api_Op_api_Op_api_Op_api_Op_f82 a0 a1 = some r → GTo Try.prog 81 [.sl a0.length (fl e_S_api_Op a0), .sl a1.length (fl e_S_api_Op a1), .fn 82 0 []] O n (.val (.bool r)) O n) (ok_r_edit_equalOps : ∀ {a0 : S_api_Op} {a1 : S_api_Op} {r : Bool} {O : Objs} {n : Nat}, r_edit_equalOps a0 a1 = some r → GTo Try.prog 82 [.agg [.val (.int .i64 a0.Kind), .val (.int .i64 a0.N), .sl a0.L.length (fl e_S_api_Tree a0.L), .val (.int .i64 a0.E.Kind), .val (.int .i64 a0.E.Old.Kind), .sl a0.E.Old.Words.length (fl (eI .u64) a0.E.Old.Words), .sl a0.E.Old.Kids.length (fl e_S_api_Tree a0.E.Old.Kids), .val (.int .i64 a0.E.New.Kind), .sl a0.E.New.Words.length (fl (eI .u64) a0.E.New.Words), .sl a0.E.New.Kids.length (fl e_S_api_Tree a0.E.New.Kids), .sl a0.E.Words.length (fl e_S_api_WordEdit a0.E.Words), .sl a0.E.Kids.length (fl e_S_api_KidEdit a0.E.Kids), .val (.int .i64 a0.E.List_), .sl a0.E.Ops.length (fl e_S_api_Op a0.E.Ops)], .agg [.val (.int .i64 a1.Kind), .val (.int .i64 a1.N), .sl a1.L.length (fl e_S_api_Tree a1.L), .val (.int .i64 a1.E.Kind), .val (.int .i64 a1.E.Old.Kind), .sl a1.E.Old.Words.length (fl (eI .u64) a1.E.Old.Words), .sl a1.E.Old.Kids.length (fl e_S_api_Tree a1.E.Old.Kids), .val (.int .i64 a1.E.New.Kind), .sl a1.E.New.Words.length (fl (eI .u64) a1.E.New.Words), .sl a1.E.New.Kids.length (fl e_S_api_Tree a1.E.New.Kids), .sl a1.E.Words.length (fl e_S_api_WordEdit a1.E.Words), .sl a1.E.Kids.length (fl e_S_api_KidEdit a1.E.Kids), .val (.int .i64 a1.E.List_), .sl a1.E.Ops.length (fl e_S_api_Op a1.E.Ops)]] O n (.val (.bool r)) O n) {a0 : S_api_KidEdit} {a1 : S_api_KidEdit} {r : Bool} {O : Objs} {n : Nat} (h : b_edit_equalKids r_edit_Equal r_slices_EqualFunc_api_KidEdit_api_KidEdit_api_KidEdit_api_KidEdit_f80 r_edit_equalKids r_slices_EqualFunc_api_Op_api_Op_api_Op_api_Op_f82 r_edit_equalOps a0 a1 = some r) : GTo Try.prog 80 [.agg [.val (.int .i64 a0.At), .val (.int .i64 a0.E.Kind), .val (.int .i64 a0.E.Old.Kind), .sl a0.E.Old.Words.length (fl (eI .u64) a0.E.Old.Words), .sl a0.E.Old.Kids.length (fl e_S_api_Tree a0.E.Old.Kids), .val (.int .i64 a0.E.New.Kind), .sl a0.E.New.Words.length (fl (eI .u64) a0.E.New.Words), .sl a0.E.New.Kids.length (fl e_S_api_Tree a0.E.New.Kids), .sl a0.E.Words.length (fl e_S_api_WordEdit a0.E.Words), .sl a0.E.Kids.length (fl e_S_api_KidEdit a0.E.Kids), .val (.int .i64 a0.E.List_), .sl a0.E.Ops.length (fl e_S_api_Op a0.E.Ops)], .agg [.val (.int .i64 a1.At), .val (.int .i64 a1.E.Kind), .val (.int .i64 a1.E.Old.Kind), .sl a1.E.Old.Words.length (fl (eI .u64) a1.E.Old.Words), .sl a1.E.Old.Kids.length (fl e_S_api_Tree a1.E.Old.Kids), .val (.int .i64 a1.E.New.Kind), .sl a1.E.New.Words.length (fl (eI .u64) a1.E.New.Words), .sl a1.E.New.Kids.length (fl e_S_api_Tree a1.E.New.Kids), .sl a1.E.Words.length (fl e_S_api_WordEdit a1.E.Words), .sl a1.E.Kids.length (fl e_S_api_KidEdit a1.E.Kids), .val (.int .i64 a1.E.List_), .sl a1.E.Ops.length (fl e_S_api_Op a1.E.Ops)]] O n (.val (.bool r)) O n := by
  unfold b_edit_equalKids at h
  refine fn_of tab_ok Try.call80 Try.func80 rfl (Nat.le_of_ble_eq_true rfl) (Nat.le_refl _) fun hU => ?_
  have hN0 : O n = none := hU.fresh _ (Nat.le_refl _)
  have hN : ∀ k, O (n + k) = none := fun k => hU.fresh _ (Nat.le_add_right _ _)
  show W _ _ _ _ ⟨17, [], [(0, .agg [.val (.int .i64 a0.At), .val (.int .i64 a0.E.Kind), .val (.int .i64 a0.E.Old.Kind), .sl a0.E.Old.Words.length (fl (eI .u64) a0.E.Old.Words), .sl a0.E.Old.Kids.length (fl e_S_api_Tree a0.E.Old.Kids), .val (.int .i64 a0.E.New.Kind), .sl a0.E.New.Words.length (fl (eI .u64) a0.E.New.Words), .sl a0.E.New.Kids.length (fl e_S_api_Tree a0.E.New.Kids), .sl a0.E.Words.length (fl e_S_api_WordEdit a0.E.Words), .sl a0.E.Kids.length (fl e_S_api_KidEdit a0.E.Kids), .val (.int .i64 a0.E.List_), .sl a0.E.Ops.length (fl e_S_api_Op a0.E.Ops)]), (1, .agg [.val (.int .i64 a1.At), .val (.int .i64 a1.E.Kind), .val (.int .i64 a1.E.Old.Kind), .sl a1.E.Old.Words.length (fl (eI .u64) a1.E.Old.Words), .sl a1.E.Old.Kids.length (fl e_S_api_Tree a1.E.Old.Kids), .val (.int .i64 a1.E.New.Kind), .sl a1.E.New.Words.length (fl (eI .u64) a1.E.New.Words), .sl a1.E.New.Kids.length (fl e_S_api_Tree a1.E.New.Kids), .sl a1.E.Words.length (fl e_S_api_WordEdit a1.E.Words), .sl a1.E.Kids.length (fl e_S_api_KidEdit a1.E.Kids), .val (.int .i64 a1.E.List_), .sl a1.E.Ops.length (fl e_S_api_Op a1.E.Ops)])]⟩ (Loc O n []) _
  refine W_sq [2, 3] (W_regionD tab_ok [] ?_)
  simp only [push_cast, seval, ↓reduceIte, cast_lit, hN0, hN]
  obtain ⟨z2, hz2, h⟩ := bC h
  refine W_seqN (E' := ⟨17, [], [(4, .val (.bool z2))]⟩) (O' := (Loc O n [none, none])) (n0 := (n + 2)) ?_ ?_
  · rcases Bool.eq_false_or_eq_true (a0.At == a1.At) with c4 | c4
    · replace hz2 := condT c4 hz2
      obtain ⟨y3, hy3, hz2⟩ := bC hz2
      refine W_regionD tab_ok [some true, some true, some true, some true, some true] ?_
      simp only [push_cast, seval, ↓reduceIte, cast_lit, c4, hN0, hN]
      refine (ok_r_edit_Equal hy3).then ?_
      simp only [push_cast, seval, ↓reduceIte, cast_lit, c4, hN0, hN]
      have hz2 := Option.some.inj hz2; subst hz2
      refine And.intro rfl (Fit2.of (fit_loc hU rfl rfl ?_) (by omega))
      simp only [push_cast, seval, ↓reduceIte, cast_lit, c4, hN0, hN]
    · replace hz2 := condF c4 hz2
      refine W_regionD tab_ok [some false, some false, some false, some false, some false] ?_
      simp only [push_cast, seval, ↓reduceIte, cast_lit, c4, hN0, hN]
      have hz2 := Option.some.inj hz2; subst hz2
      refine And.intro rfl (Fit2.of (fit_loc hU rfl rfl ?_) (by omega))
      simp only [push_cast, seval, ↓reduceIte, cast_lit, c4, hN0, hN]
  refine W_ret ?_
  try simp only [gthen, gblock]
  have h := Option.some.inj h; subst h
  refine fin_loc (.inr rfl) hU [.val (.bool z2)] (by omega) ?_
  simp only [push_cast, seval, ↓reduceIte, cast_lit, Try.results80, hN0, hN]

theorem okb_slices_EqualFunc_api_Op_api_Op_api_Op_api_Op_f82 {r_edit_Equal : (S_api_Edit → S_api_Edit → Option Bool)} {r_slices_EqualFunc_api_KidEdit_api_KidEdit_api_KidEdit_api_KidEdit_f80 : ((List S_api_KidEdit) → (List S_api_KidEdit) → Option Bool)} {r_edit_equalKids : (S_api_KidEdit → S_api_KidEdit → Option Bool)} {r_slices_EqualFunc_api_Op_api_Op_api_Op_api_Op_f82 : ((List S_api_Op) → (List S_api_Op) → Option Bool)} {r_edit_equalOps : (S_api_Op → S_api_Op → Option Bool)} (ok_r_edit_Equal : ∀ {a0 : S_api_Edit} {a1 : S_api_Edit} {r : Bool} {O : Objs} {n : Nat}, r_edit_Equal a0 a1 = some r → GTo Try.prog 48 [.agg [.val (.int .i64 a0.Kind), .val (.int .i64 a0.Old.Kind), .sl a0.Old.Words.length (fl (eI .u64) a0.Old.Words), .sl a0.Old.Kids.length (fl e_S_api_Tree a0.Old.Kids), .val (.int .i64 a0.New.Kind), .sl a0.New.Words.length (fl (eI .u64) a0.New.Words), .sl a0.New.Kids.length (fl e_S_api_Tree a0.New.Kids), .sl a0.Words.length (fl e_S_api_WordEdit a0.Words), .sl a0.Kids.length (fl e_S_api_KidEdit a0.Kids), .val (.int .i64 a0.List_), .sl a0.Ops.length (fl e_S_api_Op a0.Ops)], .agg [.val (.int .i64 a1.Kind), .val (.int .i64 a1.Old.Kind), .sl a1.Old.Words.length (fl (eI .u64) a1.Old.Words), .sl a1.Old.Kids.length (fl e_S_api_Tree a1.Old.Kids), .val (.int .i64 a1.New.Kind), .sl a1.New.Words.length (fl (eI .u64) a1.New.Words), .sl a1.New.Kids.length (fl e_S_api_Tree a1.New.Kids), .sl a1.Words.length (fl e_S_api_WordEdit a1.Words), .sl a1.Kids.length (fl e_S_api_KidEdit a1.Kids), .val (.int .i64 a1.List_), .sl a1.Ops.length (fl e_S_api_Op a1.Ops)]] O n (.val (.bool r)) O n) (ok_r_slices_EqualFunc_api_KidEdit_api_KidEdit_api_KidEdit_api_KidEdit_f80 : ∀ {a0 : (List S_api_KidEdit)} {a1 : (List S_api_KidEdit)} {r : Bool} {O : Objs} {n : Nat}, r_slices_EqualFunc_api_KidEdit_api_KidEdit_api_KidEdit_api_KidEdit_f80 a0 a1 = some r → GTo Try.prog 79 [.sl a0.length (fl e_S_api_KidEdit a0), .sl a1.length (fl e_S_api_KidEdit a1), .fn 80 0 []] O n (.val (.bool r)) O n) (ok_r_edit_equalKids : ∀ {a0 : S_api_KidEdit} {a1 : S_api_KidEdit} {r : Bool} {O : Objs} {n : Nat}, r_edit_equalKids a0 a1 = some r → GTo Try.prog 80 [.agg [.val (.int .i64 a0.At), .val (.int .i64 a0.E.Kind), .val (.int .i64 a0.E.Old.Kind), .sl a0.E.Old.Words.length (fl (eI .u64) a0.E.Old.Words), .sl a0.E.Old.Kids.length (fl e_S_api_Tree a0.E.Old.Kids), .val (.int .i64 a0.E.New.Kind), .sl a0.E.New.Words.length (fl (eI .u64) a0.E.New.Words), .sl a0.E.New.Kids.length (fl e_S_api_Tree a0.E.New.Kids), .sl a0.E.Words.length (fl e_S_api_WordEdit a0.E.Words), .sl a0.E.Kids.length (fl e_S_api_KidEdit a0.E.Kids), .val (.int .i64 a0.E.List_), .sl a0.E.Ops.length (fl e_S_api_Op a0.E.Ops)], .agg [.val (.int .i64 a1.At), .val (.int .i64 a1.E.Kind), .val (.int .i64 a1.E.Old.Kind), .sl a1.E.Old.Words.length (fl (eI .u64) a1.E.Old.Words), .sl a1.E.Old.Kids.length (fl e_S_api_Tree a1.E.Old.Kids), .val (.int .i64 a1.E.New.Kind), .sl a1.E.New.Words.length (fl (eI .u64) a1.E.New.Words), .sl a1.E.New.Kids.length (fl e_S_api_Tree a1.E.New.Kids), .sl a1.E.Words.length (fl e_S_api_WordEdit a1.E.Words), .sl a1.E.Kids.length (fl e_S_api_KidEdit a1.E.Kids), .val (.int .i64 a1.E.List_), .sl a1.E.Ops.length (fl e_S_api_Op a1.E.Ops)]] O n (.val (.bool r)) O n) (ok_r_slices_EqualFunc_api_Op_api_Op_api_Op_api_Op_f82 : ∀ {a0 : (List S_api_Op)} {a1 : (List S_api_Op)} {r : Bool} {O : Objs} {n : Nat}, r_slices_EqualFunc_api_Op_api_Op_api_Op_api_Op_f82 a0 a1 = some r → GTo Try.prog 81 [.sl a0.length (fl e_S_api_Op a0), .sl a1.length (fl e_S_api_Op a1), .fn 82 0 []] O n (.val (.bool r)) O n) (ok_r_edit_equalOps : ∀ {a0 : S_api_Op} {a1 : S_api_Op} {r : Bool} {O : Objs} {n : Nat}, r_edit_equalOps a0 a1 = some r → GTo Try.prog 82 [.agg [.val (.int .i64 a0.Kind), .val (.int .i64 a0.N), .sl a0.L.length (fl e_S_api_Tree a0.L), .val (.int .i64 a0.E.Kind), .val (.int .i64 a0.E.Old.Kind), .sl a0.E.Old.Words.length (fl (eI .u64) a0.E.Old.Words), .sl a0.E.Old.Kids.length (fl e_S_api_Tree a0.E.Old.Kids), .val (.int .i64 a0.E.New.Kind), .sl a0.E.New.Words.length (fl (eI .u64) a0.E.New.Words), .sl a0.E.New.Kids.length (fl e_S_api_Tree a0.E.New.Kids), .sl a0.E.Words.length (fl e_S_api_WordEdit a0.E.Words), .sl a0.E.Kids.length (fl e_S_api_KidEdit a0.E.Kids), .val (.int .i64 a0.E.List_), .sl a0.E.Ops.length (fl e_S_api_Op a0.E.Ops)], .agg [.val (.int .i64 a1.Kind), .val (.int .i64 a1.N), .sl a1.L.length (fl e_S_api_Tree a1.L), .val (.int .i64 a1.E.Kind), .val (.int .i64 a1.E.Old.Kind), .sl a1.E.Old.Words.length (fl (eI .u64) a1.E.Old.Words), .sl a1.E.Old.Kids.length (fl e_S_api_Tree a1.E.Old.Kids), .val (.int .i64 a1.E.New.Kind), .sl a1.E.New.Words.length (fl (eI .u64) a1.E.New.Words), .sl a1.E.New.Kids.length (fl e_S_api_Tree a1.E.New.Kids), .sl a1.E.Words.length (fl e_S_api_WordEdit a1.E.Words), .sl a1.E.Kids.length (fl e_S_api_KidEdit a1.E.Kids), .val (.int .i64 a1.E.List_), .sl a1.E.Ops.length (fl e_S_api_Op a1.E.Ops)]] O n (.val (.bool r)) O n) {a0 : (List S_api_Op)} {a1 : (List S_api_Op)} {r : Bool} {O : Objs} {n : Nat} (h : b_slices_EqualFunc_api_Op_api_Op_api_Op_api_Op_f82 r_edit_Equal r_slices_EqualFunc_api_KidEdit_api_KidEdit_api_KidEdit_api_KidEdit_f80 r_edit_equalKids r_slices_EqualFunc_api_Op_api_Op_api_Op_api_Op_f82 r_edit_equalOps a0 a1 = some r) : GTo Try.prog 81 [.sl a0.length (fl e_S_api_Op a0), .sl a1.length (fl e_S_api_Op a1), .fn 82 0 []] O n (.val (.bool r)) O n := by
  unfold b_slices_EqualFunc_api_Op_api_Op_api_Op_api_Op_f82 at h
  refine fn_of tab_ok Try.call81 Try.func81 rfl (Nat.le_of_ble_eq_true rfl) (Nat.le_refl _) fun hU => ?_
  have hN0 : O n = none := hU.fresh _ (Nat.le_refl _)
  have hN : ∀ k, O (n + k) = none := fun k => hU.fresh _ (Nat.le_add_right _ _)
  show W _ _ _ _ ⟨32, [], [(0, .sl a0.length (fl e_S_api_Op a0)), (1, .sl a1.length (fl e_S_api_Op a1)), (2, .fn 82 0 [])]⟩ (Loc O n []) _
  refine W_sq [0, 1, 2] (W_regionD tab_ok [] ?_)
  simp only [push_cast, seval, ↓reduceIte, cast_lit, hN0, hN]
  refine W_seqK ?_
  refine W_sq [0, 1, 2, 14] (W_regionD tab_ok [] ?_)
  simp only [push_cast, seval, ↓reduceIte, cast_lit, hN0, hN]
  refine W_cond (t := ((a0.length : Int) != (a1.length : Int))) rfl (fun c10 => ?_) (fun c10 => ?_)
  · replace h := condT c10 h
    refine W_sq [6] (W_regionD tab_ok [] ?_)
    simp only [push_cast, seval, ↓reduceIte, cast_lit, hN0, hN]
    refine W_ret ?_
    try simp only [gthen, gblock]
    have h := Option.some.inj h; subst h
    refine fin_loc (.inr rfl) hU [.val (.bool false)] (by omega) ?_
    simp only [push_cast, seval, ↓reduceIte, cast_lit, Try.results81, hN0, hN]
  · replace h := condF c10 h
    refine W_skip ?_
    try simp only [gthen, gblock]
    refine W_fit ⟨32, [], [(0, .sl a0.length (fl e_S_api_Op a0)), (1, .sl a1.length (fl e_S_api_Op a1)), (2, .fn 82 0 [])]⟩ (Loc O n []) (fit_loc hU rfl rfl ?_) ?_
    · simp only [push_cast, seval, ↓reduceIte, cast_lit, hN0, hN]
    refine W_seqK ?_
    refine W_sq [1, 2, 15, 16, 17] (W_regionD tab_ok [] ?_)
    simp only [push_cast, seval, ↓reduceIte, cast_lit, hN0, hN]
    refine W_fit ⟨32, [], [(1, .sl a1.length (fl e_S_api_Op a1)), (2, .fn 82 0 []), (15, .sl a0.length (fl e_S_api_Op a0)), (16, .val (.int .i64 (a0.length : Int))), (17, .val (.int .i64 0))]⟩ (Loc O n []) (fit_loc hU rfl rfl ?_) ?_
    · simp only [push_cast, seval, ↓reduceIte, cast_lit, hN0, hN]
    obtain ⟨z9, hz9, h⟩ := bC h
    refine W_sumB (J := (SumJ (fun z9 => JR n (⟨32, [], [(6, .val (.bool false))]⟩ : Env) (Loc O n []) n) (fun z9 => JX 0 n (⟨32, [], []⟩ : Env) (Loc O n []) n))) (z := z9) ?_ fun hw => ?_
    · refine W_loopJ hz9 (fun s0_ => ⟨32, [], [(1, .sl a1.length (fl e_S_api_Op a1)), (2, .fn 82 0 []), (15, .sl a0.length (fl e_S_api_Op a0)), (16, .val (.int .i64 (a0.length : Int))), (17, .val (.int .i64 s0_))]⟩) (fun s0_ => (Loc O n [])) (SumJ (fun z9 => JR n (⟨32, [], [(6, .val (.bool false))]⟩ : Env) (Loc O n []) n) (fun z9 => JX 0 n (⟨32, [], []⟩ : Env) (Loc O n []) n)) ?_
      intro s0_ x0_ hs0_
      unfold b_slices_EqualFunc_api_Op_api_Op_api_Op_api_Op_f82_L0 at hs0_
      try dsimp only
      refine W_sq [1, 2, 15, 16, 17, 18] (W_regionD tab_ok [] ?_)
      simp only [push_cast, seval, ↓reduceIte, cast_lit, hN0, hN]
      refine W_seqK ?_
      refine W_cond (t := (decide (s0_ < (a0.length : Int)))) rfl (fun c8 => ?_) (fun c8 => ?_)
      · replace hs0_ := condT c8 hs0_
        refine W_skip ?_
        try simp only [gthen, gblock]
        refine W_fit ⟨32, [], [(1, .sl a1.length (fl e_S_api_Op a1)), (2, .fn 82 0 []), (15, .sl a0.length (fl e_S_api_Op a0)), (16, .val (.int .i64 (a0.length : Int))), (17, .val (.int .i64 s0_))]⟩ (Loc O n []) (fit_loc hU rfl rfl ?_) ?_
        · simp only [push_cast, seval, ↓reduceIte, cast_lit, hN0, hN]
        refine W_seqK ?_
        refine W_block ?_
        refine W_seqK ?_
        obtain ⟨x2, hx2, ax2, bx2, cx2, hs0_⟩ := bE (f := e_S_api_Op) tab63 (fun _ => rfl) (by decide) hs0_
        refine W_regionD tab_ok [] ?_
        simp only [push_cast, Nat.reduceAdd, Nat.reduceSub, Nat.reduceMul, Nat.reduceLeDiff, Nat.reduceLT, Nat.reduceEqDiff, ↓reduceIte, reduceCtorEq, Int.reduceBEq, Int.reduceBNe, Nat.reduceBEq, Int.reduceLE, Int.reduceLT, Int.reduceEq, Int.reduceNe, Int.reduceNeg, Nat.reduceDiv, Nat.reduceMod, Nat.reducePow, cast_lit, ax2, bx2, cx2, hN0, hN]
        refine W_fit ⟨32, [], [(1, .sl a1.length (fl e_S_api_Op a1)), (2, .fn 82 0 []), (7, .val (.int .i64 s0_)), (8, .ref n 0), (15, .sl a0.length (fl e_S_api_Op a0)), (16, .val (.int .i64 (a0.length : Int))), (17, .val (.int .i64 s0_))]⟩ (Loc O n [some ⟨false, 63, 14, 1, [.val (.int .i64 x2.Kind), .val (.int .i64 x2.N), .sl x2.L.length (fl e_S_api_Tree x2.L), .val (.int .i64 x2.E.Kind), .val (.int .i64 x2.E.Old.Kind), .sl x2.E.Old.Words.length (fl (eI .u64) x2.E.Old.Words), .sl x2.E.Old.Kids.length (fl e_S_api_Tree x2.E.Old.Kids), .val (.int .i64 x2.E.New.Kind), .sl x2.E.New.Words.length (fl (eI .u64) x2.E.New.Words), .sl x2.E.New.Kids.length (fl e_S_api_Tree x2.E.New.Kids), .sl x2.E.Words.length (fl e_S_api_WordEdit x2.E.Words), .sl x2.E.Kids.length (fl e_S_api_KidEdit x2.E.Kids), .val (.int .i64 x2.E.List_), .sl x2.E.Ops.length (fl e_S_api_Op x2.E.Ops)]⟩]) (fit_loc hU rfl rfl ?_) ?_
        · simp only [push_cast, Nat.reduceAdd, Nat.reduceSub, Nat.reduceMul, Nat.reduceLeDiff, Nat.reduceLT, Nat.reduceEqDiff, ↓reduceIte, reduceCtorEq, Int.reduceBEq, Int.reduceBNe, Nat.reduceBEq, Int.reduceLE, Int.reduceLT, Int.reduceEq, Int.reduceNe, Int.reduceNeg, Nat.reduceDiv, Nat.reduceMod, Nat.reducePow, cast_lit, ax2, bx2, cx2, hN0, hN]
        refine W_seqK ?_
        obtain ⟨x4, hx4, ax4, bx4, cx4, hs0_⟩ := bE (f := e_S_api_Op) tab63 (fun _ => rfl) (by decide) hs0_
        refine W_regionD tab_ok [] ?_
        simp only [push_cast, Nat.reduceAdd, Nat.reduceSub, Nat.reduceMul, Nat.reduceLeDiff, Nat.reduceLT, Nat.reduceEqDiff, ↓reduceIte, reduceCtorEq, Int.reduceBEq, Int.reduceBNe, Nat.reduceBEq, Int.reduceLE, Int.reduceLT, Int.reduceEq, Int.reduceNe, Int.reduceNeg, Nat.reduceDiv, Nat.reduceMod, Nat.reducePow, cast_lit, ax4, bx4, cx4, hN0, hN]
        refine W_fit ⟨32, [], [(1, .sl a1.length (fl e_S_api_Op a1)), (2, .fn 82 0 []), (8, .ref n 0), (9, .ref (n + 1) 0), (15, .sl a0.length (fl e_S_api_Op a0)), (16, .val (.int .i64 (a0.length : Int))), (17, .val (.int .i64 s0_))]⟩ (Loc O n [some ⟨false, 63, 14, 1, [.val (.int .i64 x2.Kind), .val (.int .i64 x2.N), .sl x2.L.length (fl e_S_api_Tree x2.L), .val (.int .i64 x2.E.Kind), .val (.int .i64 x2.E.Old.Kind), .sl x2.E.Old.Words.length (fl (eI .u64) x2.E.Old.Words), .sl x2.E.Old.Kids.length (fl e_S_api_Tree x2.E.Old.Kids), .val (.int .i64 x2.E.New.Kind), .sl x2.E.New.Words.length (fl (eI .u64) x2.E.New.Words), .sl x2.E.New.Kids.length (fl e_S_api_Tree x2.E.New.Kids), .sl x2.E.Words.length (fl e_S_api_WordEdit x2.E.Words), .sl x2.E.Kids.length (fl e_S_api_KidEdit x2.E.Kids), .val (.int .i64 x2.E.List_), .sl x2.E.Ops.length (fl e_S_api_Op x2.E.Ops)]⟩, some ⟨false, 63, 14, 1, [.val (.int .i64 x4.Kind), .val (.int .i64 x4.N), .sl x4.L.length (fl e_S_api_Tree x4.L), .val (.int .i64 x4.E.Kind), .val (.int .i64 x4.E.Old.Kind), .sl x4.E.Old.Words.length (fl (eI .u64) x4.E.Old.Words), .sl x4.E.Old.Kids.length (fl e_S_api_Tree x4.E.Old.Kids), .val (.int .i64 x4.E.New.Kind), .sl x4.E.New.Words.length (fl (eI .u64) x4.E.New.Words), .sl x4.E.New.Kids.length (fl e_S_api_Tree x4.E.New.Kids), .sl x4.E.Words.length (fl e_S_api_WordEdit x4.E.Words), .sl x4.E.Kids.length (fl e_S_api_KidEdit x4.E.Kids), .val (.int .i64 x4.E.List_), .sl x4.E.Ops.length (fl e_S_api_Op x4.E.Ops)]⟩]) (fit_loc hU rfl rfl ?_) ?_
        · simp only [push_cast, Nat.reduceAdd, Nat.reduceSub, Nat.reduceMul, Nat.reduceLeDiff, Nat.reduceLT, Nat.reduceEqDiff, ↓reduceIte, reduceCtorEq, Int.reduceBEq, Int.reduceBNe, Nat.reduceBEq, Int.reduceLE, Int.reduceLT, Int.reduceEq, Int.reduceNe, Int.reduceNeg, Nat.reduceDiv, Nat.reduceMod, Nat.reducePow, cast_lit, ax4, bx4, cx4, hN0, hN]
        refine W_seqK ?_
        obtain ⟨y6, hy6, hs0_⟩ := bC hs0_
        refine W_regionD tab_ok [] ?_
        simp only [push_cast, seval, ↓reduceIte, cast_lit, hN0, hN]
        refine (ok_r_edit_equalOps hy6).then ?_
        simp only [push_cast, seval, ↓reduceIte, cast_lit, hN0, hN]
        refine W_fit ⟨32, [], [(1, .sl a1.length (fl e_S_api_Op a1)), (2, .fn 82 0 []), (15, .sl a0.length (fl e_S_api_Op a0)), (16, .val (.int .i64 (a0.length : Int))), (17, .val (.int .i64 s0_)), (30, .val (.bool (!y6)))]⟩ (Loc O n [none, none]) (fit_loc hU rfl rfl ?_) ?_
        · simp only [push_cast, seval, ↓reduceIte, cast_lit, hN0, hN]
        refine W_cond (t := (!y6)) rfl (fun c7 => ?_) (fun c7 => ?_)
        · replace hs0_ := condT c7 hs0_
          refine W_sq [6] (W_regionD tab_ok [] ?_)
          simp only [push_cast, seval, ↓reduceIte, cast_lit, hN0, hN]
          refine W_ret ?_
          try simp only [gthen, gblock]
          have hs0_ := Option.some.inj hs0_; subst hs0_
          refine And.intro (fun h => by cases h) (And.intro rfl (Fit2.of (fit_loc hU rfl rfl ?_) (by omega)))
          simp only [push_cast, seval, ↓reduceIte, cast_lit, hN0, hN]
        · replace hs0_ := condF c7 hs0_
          refine W_skip ?_
          try simp only [gthen, gblock]
          refine W_fit ⟨32, [], [(1, .sl a1.length (fl e_S_api_Op a1)), (2, .fn 82 0 []), (15, .sl a0.length (fl e_S_api_Op a0)), (16, .val (.int .i64 (a0.length : Int))), (17, .val (.int .i64 s0_))]⟩ (Loc O n [none, none]) (fit_loc hU rfl rfl ?_) ?_
          · simp only [push_cast, seval, ↓reduceIte, cast_lit, hN0, hN]
          refine W_regionD tab_ok [] ?_
          simp only [push_cast, seval, ↓reduceIte, cast_lit, hN0, hN]
          have hs0_ := Option.some.inj hs0_; subst hs0_
          refine And.intro rfl (Fit2.of (fit_loc hU rfl rfl ?_) (by omega))
          simp only [push_cast, seval, ↓reduceIte, cast_lit, hN0, hN]
      · replace hs0_ := condF c8 hs0_
        refine W_exit ?_
        try simp only [gthen, gblock, ↓reduceIte, Nat.reduceEqDiff]
        have hs0_ := Option.some.inj hs0_; subst hs0_
        refine And.intro (fun h => by cases h) (And.intro rfl (Fit2.of (fit_loc hU rfl rfl ?_) (by omega)))
        simp only [push_cast, seval, ↓reduceIte, cast_lit, hN0, hN]
    rcases z9 with z9 | z9
    · dsimp only [SumJ] at hw h
      refine W_blockR hw ?_
      try simp only [gthen, gblock, ↓reduceIte, Nat.reduceEqDiff]
      have h := Option.some.inj h; subst h
      refine fin_loc (.inr rfl) hU [.val (.bool false)] (by omega) ?_
      simp only [push_cast, seval, ↓reduceIte, cast_lit, Try.results81, hN0, hN]
    · dsimp only [SumJ] at hw h
      refine W_blockX hw ?_
      try simp only [gthen, gblock, ↓reduceIte, Nat.reduceEqDiff]
      refine W_fit ⟨32, [], []⟩ (Loc O n []) (fit_loc hU rfl rfl ?_) ?_
      · simp only [push_cast, seval, ↓reduceIte, cast_lit, hN0, hN]
      refine W_sq [6] (W_regionD tab_ok [] ?_)
      simp only [push_cast, seval, ↓reduceIte, cast_lit, hN0, hN]
      refine W_ret ?_
      try simp only [gthen, gblock]
      have h := Option.some.inj h; subst h
      refine fin_loc (.inr rfl) hU [.val (.bool true)] (by omega) ?_
      simp only [push_cast, seval, ↓reduceIte, cast_lit, Try.results81, hN0, hN]

theorem okb_edit_equalOps {r_edit_Equal : (S_api_Edit → S_api_Edit → Option Bool)} {r_slices_EqualFunc_api_KidEdit_api_KidEdit_api_KidEdit_api_KidEdit_f80 : ((List S_api_KidEdit) → (List S_api_KidEdit) → Option Bool)} {r_edit_equalKids : (S_api_KidEdit → S_api_KidEdit → Option Bool)} {r_slices_EqualFunc_api_Op_api_Op_api_Op_api_Op_f82 : ((List S_api_Op) → (List S_api_Op) → Option Bool)} {r_edit_equalOps : (S_api_Op → S_api_Op → Option Bool)} (ok_r_edit_Equal : ∀ {a0 : S_api_Edit} {a1 : S_api_Edit} {r : Bool} {O : Objs} {n : Nat}, r_edit_Equal a0 a1 = some r → GTo Try.prog 48 [.agg [.val (.int .i64 a0.Kind), .val (.int .i64 a0.Old.Kind), .sl a0.Old.Words.length (fl (eI .u64) a0.Old.Words), .sl a0.Old.Kids.length (fl e_S_api_Tree a0.Old.Kids), .val (.int .i64 a0.New.Kind), .sl a0.New.Words.length (fl (eI .u64) a0.New.Words), .sl a0.New.Kids.length (fl e_S_api_Tree a0.New.Kids), .sl a0.Words.length (fl e_S_api_WordEdit a0.Words), .sl a0.Kids.length (fl e_S_api_KidEdit a0.Kids), .val (.int .i64 a0.List_), .sl a0.Ops.length (fl e_S_api_Op a0.Ops)], .agg [.val (.int .i64 a1.Kind), .val (.int .i64 a1.Old.Kind), .sl a1.Old.Words.length (fl (eI .u64) a1.Old.Words), .sl a1.Old.Kids.length (fl e_S_api_Tree a1.Old.Kids), .val (.int .i64 a1.New.Kind), .sl a1.New.Words.length (fl (eI .u64) a1.New.Words), .sl a1.New.Kids.length (fl e_S_api_Tree a1.New.Kids), .sl a1.Words.length (fl e_S_api_WordEdit a1.Words), .sl a1.Kids.length (fl e_S_api_KidEdit a1.Kids), .val (.int .i64 a1.List_), .sl a1.Ops.length (fl e_S_api_Op a1.Ops)]] O n (.val (.bool r)) O n) (ok_r_slices_EqualFunc_api_KidEdit_api_KidEdit_api_KidEdit_api_KidEdit_f80 : ∀ {a0 : (List S_api_KidEdit)} {a1 : (List S_api_KidEdit)} {r : Bool} {O : Objs} {n : Nat}, r_slices_EqualFunc_api_KidEdit_api_KidEdit_api_KidEdit_api_KidEdit_f80 a0 a1 = some r → GTo Try.prog 79 [.sl a0.length (fl e_S_api_KidEdit a0), .sl a1.length (fl e_S_api_KidEdit a1), .fn 80 0 []] O n (.val (.bool r)) O n) (ok_r_edit_equalKids : ∀ {a0 : S_api_KidEdit} {a1 : S_api_KidEdit} {r : Bool} {O : Objs} {n : Nat}, r_edit_equalKids a0 a1 = some r → GTo Try.prog 80 [.agg [.val (.int .i64 a0.At), .val (.int .i64 a0.E.Kind), .val (.int .i64 a0.E.Old.Kind), .sl a0.E.Old.Words.length (fl (eI .u64) a0.E.Old.Words), .sl a0.E.Old.Kids.length (fl e_S_api_Tree a0.E.Old.Kids), .val (.int .i64 a0.E.New.Kind), .sl a0.E.New.Words.length (fl (eI .u64) a0.E.New.Words), .sl a0.E.New.Kids.length (fl e_S_api_Tree a0.E.New.Kids), .sl a0.E.Words.length (fl e_S_api_WordEdit a0.E.Words), .sl a0.E.Kids.length (fl e_S_api_KidEdit a0.E.Kids), .val (.int .i64 a0.E.List_), .sl a0.E.Ops.length (fl e_S_api_Op a0.E.Ops)], .agg [.val (.int .i64 a1.At), .val (.int .i64 a1.E.Kind), .val (.int .i64 a1.E.Old.Kind), .sl a1.E.Old.Words.length (fl (eI .u64) a1.E.Old.Words), .sl a1.E.Old.Kids.length (fl e_S_api_Tree a1.E.Old.Kids), .val (.int .i64 a1.E.New.Kind), .sl a1.E.New.Words.length (fl (eI .u64) a1.E.New.Words), .sl a1.E.New.Kids.length (fl e_S_api_Tree a1.E.New.Kids), .sl a1.E.Words.length (fl e_S_api_WordEdit a1.E.Words), .sl a1.E.Kids.length (fl e_S_api_KidEdit a1.E.Kids), .val (.int .i64 a1.E.List_), .sl a1.E.Ops.length (fl e_S_api_Op a1.E.Ops)]] O n (.val (.bool r)) O n) (ok_r_slices_EqualFunc_api_Op_api_Op_api_Op_api_Op_f82 : ∀ {a0 : (List S_api_Op)} {a1 : (List S_api_Op)} {r : Bool} {O : Objs} {n : Nat}, r_slices_EqualFunc_api_Op_api_Op_api_Op_api_Op_f82 a0 a1 = some r → GTo Try.prog 81 [.sl a0.length (fl e_S_api_Op a0), .sl a1.length (fl e_S_api_Op a1), .fn 82 0 []] O n (.val (.bool r)) O n) (ok_r_edit_equalOps : ∀ {a0 : S_api_Op} {a1 : S_api_Op} {r : Bool} {O : Objs} {n : Nat}, r_edit_equalOps a0 a1 = some r → GTo Try.prog 82 [.agg [.val (.int .i64 a0.Kind), .val (.int .i64 a0.N), .sl a0.L.length (fl e_S_api_Tree a0.L), .val (.int .i64 a0.E.Kind), .val (.int .i64 a0.E.Old.Kind), .sl a0.E.Old.Words.length (fl (eI .u64) a0.E.Old.Words), .sl a0.E.Old.Kids.length (fl e_S_api_Tree a0.E.Old.Kids), .val (.int .i64 a0.E.New.Kind), .sl a0.E.New.Words.length (fl (eI .u64) a0.E.New.Words), .sl a0.E.New.Kids.length (fl e_S_api_Tree a0.E.New.Kids), .sl a0.E.Words.length (fl e_S_api_WordEdit a0.E.Words), .sl a0.E.Kids.length (fl e_S_api_KidEdit a0.E.Kids), .val (.int .i64 a0.E.List_), .sl a0.E.Ops.length (fl e_S_api_Op a0.E.Ops)], .agg [.val (.int .i64 a1.Kind), .val (.int .i64 a1.N), .sl a1.L.length (fl e_S_api_Tree a1.L), .val (.int .i64 a1.E.Kind), .val (.int .i64 a1.E.Old.Kind), .sl a1.E.Old.Words.length (fl (eI .u64) a1.E.Old.Words), .sl a1.E.Old.Kids.length (fl e_S_api_Tree a1.E.Old.Kids), .val (.int .i64 a1.E.New.Kind), .sl a1.E.New.Words.length (fl (eI .u64) a1.E.New.Words), .sl a1.E.New.Kids.length (fl e_S_api_Tree a1.E.New.Kids), .sl a1.E.Words.length (fl e_S_api_WordEdit a1.E.Words), .sl a1.E.Kids.length (fl e_S_api_KidEdit a1.E.Kids), .val (.int .i64 a1.E.List_), .sl a1.E.Ops.length (fl e_S_api_Op a1.E.Ops)]] O n (.val (.bool r)) O n) {a0 : S_api_Op} {a1 : S_api_Op} {r : Bool} {O : Objs} {n : Nat} (h : b_edit_equalOps r_edit_Equal r_slices_EqualFunc_api_KidEdit_api_KidEdit_api_KidEdit_api_KidEdit_f80 r_edit_equalKids r_slices_EqualFunc_api_Op_api_Op_api_Op_api_Op_f82 r_edit_equalOps a0 a1 = some r) : GTo Try.prog 82 [.agg [.val (.int .i64 a0.Kind), .val (.int .i64 a0.N), .sl a0.L.length (fl e_S_api_Tree a0.L), .val (.int .i64 a0.E.Kind), .val (.int .i64 a0.E.Old.Kind), .sl a0.E.Old.Words.length (fl (eI .u64) a0.E.Old.Words), .sl a0.E.Old.Kids.length (fl e_S_api_Tree a0.E.Old.Kids), .val (.int .i64 a0.E.New.Kind), .sl a0.E.New.Words.length (fl (eI .u64) a0.E.New.Words), .sl a0.E.New.Kids.length (fl e_S_api_Tree a0.E.New.Kids), .sl a0.E.Words.length (fl e_S_api_WordEdit a0.E.Words), .sl a0.E.Kids.length (fl e_S_api_KidEdit a0.E.Kids), .val (.int .i64 a0.E.List_), .sl a0.E.Ops.length (fl e_S_api_Op a0.E.Ops)], .agg [.val (.int .i64 a1.Kind), .val (.int .i64 a1.N), .sl a1.L.length (fl e_S_api_Tree a1.L), .val (.int .i64 a1.E.Kind), .val (.int .i64 a1.E.Old.Kind), .sl a1.E.Old.Words.length (fl (eI .u64) a1.E.Old.Words), .sl a1.E.Old.Kids.length (fl e_S_api_Tree a1.E.Old.Kids), .val (.int .i64 a1.E.New.Kind), .sl a1.E.New.Words.length (fl (eI .u64) a1.E.New.Words), .sl a1.E.New.Kids.length (fl e_S_api_Tree a1.E.New.Kids), .sl a1.E.Words.length (fl e_S_api_WordEdit a1.E.Words), .sl a1.E.Kids.length (fl e_S_api_KidEdit a1.E.Kids), .val (.int .i64 a1.E.List_), .sl a1.E.Ops.length (fl e_S_api_Op a1.E.Ops)]] O n (.val (.bool r)) O n := by
  unfold b_edit_equalOps at h
  refine fn_of tab_ok Try.call82 Try.func82 rfl (Nat.le_of_ble_eq_true rfl) (Nat.le_refl _) fun hU => ?_
  have hN0 : O n = none := hU.fresh _ (Nat.le_refl _)
  have hN : ∀ k, O (n + k) = none := fun k => hU.fresh _ (Nat.le_add_right _ _)
  show W _ _ _ _ ⟨31, [], [(0, .agg [.val (.int .i64 a0.Kind), .val (.int .i64 a0.N), .sl a0.L.length (fl e_S_api_Tree a0.L), .val (.int .i64 a0.E.Kind), .val (.int .i64 a0.E.Old.Kind), .sl a0.E.Old.Words.length (fl (eI .u64) a0.E.Old.Words), .sl a0.E.Old.Kids.length (fl e_S_api_Tree a0.E.Old.Kids), .val (.int .i64 a0.E.New.Kind), .sl a0.E.New.Words.length (fl (eI .u64) a0.E.New.Words), .sl a0.E.New.Kids.length (fl e_S_api_Tree a0.E.New.Kids), .sl a0.E.Words.length (fl e_S_api_WordEdit a0.E.Words), .sl a0.E.Kids.length (fl e_S_api_KidEdit a0.E.Kids), .val (.int .i64 a0.E.List_), .sl a0.E.Ops.length (fl e_S_api_Op a0.E.Ops)]), (1, .agg [.val (.int .i64 a1.Kind), .val (.int .i64 a1.N), .sl a1.L.length (fl e_S_api_Tree a1.L), .val (.int .i64 a1.E.Kind), .val (.int .i64 a1.E.Old.Kind), .sl a1.E.Old.Words.length (fl (eI .u64) a1.E.Old.Words), .sl a1.E.Old.Kids.length (fl e_S_api_Tree a1.E.Old.Kids), .val (.int .i64 a1.E.New.Kind), .sl a1.E.New.Words.length (fl (eI .u64) a1.E.New.Words), .sl a1.E.New.Kids.length (fl e_S_api_Tree a1.E.New.Kids), .sl a1.E.Words.length (fl e_S_api_WordEdit a1.E.Words), .sl a1.E.Kids.length (fl e_S_api_KidEdit a1.E.Kids), .val (.int .i64 a1.E.List_), .sl a1.E.Ops.length (fl e_S_api_Op a1.E.Ops)])]⟩ (Loc O n []) _
  refine W_sq [2, 3] (W_regionD tab_ok [] ?_)
  simp only [push_cast, seval, ↓reduceIte, cast_lit, hN0, hN]
  obtain ⟨z3, hz3, h⟩ := bC h
  refine W_seqN (E' := ⟨31, [], [(4, .val (.bool z3))]⟩) (O' := (Loc O n [none, none])) (n0 := (n + 2)) ?_ ?_
  · rcases Bool.eq_false_or_eq_true (a0.Kind == a1.Kind) with c6 | c6
    · replace hz3 := condT c6 hz3
      rcases Bool.eq_false_or_eq_true (a0.N == a1.N) with c7 | c7
      · replace hz3 := condT c7 hz3
        try rw [c7] at c6
        obtain ⟨y4, hy4, hz3⟩ := bC hz3
        rcases Bool.eq_false_or_eq_true y4 with c8 | c8
        · replace hz3 := condT c8 hz3
          try rw [c8] at c6
          try rw [c8] at c7
          obtain ⟨y5, hy5, hz3⟩ := bC hz3
          refine W_regionD tab_ok [none, none, none, none, none, some true, some true, some true, some true, some true, some true, some true, some true, some true, some true] ?_
          simp only [push_cast, seval, ↓reduceIte, cast_lit, c6, c7, c8, hN0, hN]
          repeat (with_reducible refine And.intro (by first | (intro h0; simp only [h0, and_self]; done) | (intro h0; simp only [h0, Bool.not_false, Bool.not_true, Bool.true_and, Bool.and_true, true_and, and_true, and_self, imp_self, implies_true, bne_iff_ne, ne_eq, beq_iff_eq]; done) | (intros; simp_all; done) | exact True.intro) ?_)
          refine (ok_slices_EqualFunc_api_Tree_api_Tree_api_Tree_api_Tree_f24 hy4).then ?_
          simp only [push_cast, seval, ↓reduceIte, cast_lit, c6, c7, c8, hN0, hN]
          repeat (with_reducible refine And.intro (by first | (intro h0; simp only [h0, and_self]; done) | (intro h0; simp only [h0, Bool.not_false, Bool.not_true, Bool.true_and, Bool.and_true, true_and, and_true, and_self, imp_self, implies_true, bne_iff_ne, ne_eq, beq_iff_eq]; done) | (intros; simp_all; done) | exact True.intro) ?_)
          refine (ok_r_edit_Equal hy5).then ?_
          simp only [push_cast, seval, ↓reduceIte, cast_lit, c6, c7, c8, hN0, hN]
          repeat (with_reducible refine And.intro (by first | (intro h0; simp only [h0, and_self]; done) | (intro h0; simp only [h0, Bool.not_false, Bool.not_true, Bool.true_and, Bool.and_true, true_and, and_true, and_self, imp_self, implies_true, bne_iff_ne, ne_eq, beq_iff_eq]; done) | (intros; simp_all; done) | exact True.intro) ?_)
          have hz3 := Option.some.inj hz3; subst hz3
          refine And.intro rfl (Fit2.of (fit_loc hU rfl rfl ?_) (by omega))
          simp only [push_cast, seval, ↓reduceIte, cast_lit, c6, c7, c8, hN0, hN]
        · replace hz3 := condF c8 hz3
          try rw [c8] at c6
          try rw [c8] at c7
          refine W_regionD tab_ok [none, none, none, none, none, some true, some true, some true, some true, some true, some false, some false, some false, some false, some false] ?_
          simp only [push_cast, seval, ↓reduceIte, cast_lit, c6, c7, c8, hN0, hN]
          repeat (with_reducible refine And.intro (by first | (intro h0; simp only [h0, and_self]; done) | (intro h0; simp only [h0, Bool.not_false, Bool.not_true, Bool.true_and, Bool.and_true, true_and, and_true, and_self, imp_self, implies_true, bne_iff_ne, ne_eq, beq_iff_eq]; done) | (intros; simp_all; done) | exact True.intro) ?_)
          refine (ok_slices_EqualFunc_api_Tree_api_Tree_api_Tree_api_Tree_f24 hy4).then ?_
          simp only [push_cast, seval, ↓reduceIte, cast_lit, c6, c7, c8, hN0, hN]
          repeat (with_reducible refine And.intro (by first | (intro h0; simp only [h0, and_self]; done) | (intro h0; simp only [h0, Bool.not_false, Bool.not_true, Bool.true_and, Bool.and_true, true_and, and_true, and_self, imp_self, implies_true, bne_iff_ne, ne_eq, beq_iff_eq]; done) | (intros; simp_all; done) | exact True.intro) ?_)
          have hz3 := Option.some.inj hz3; subst hz3
          refine And.intro rfl (Fit2.of (fit_loc hU rfl rfl ?_) (by omega))
          simp only [push_cast, seval, ↓reduceIte, cast_lit, c6, c7, c8, hN0, hN]
      · replace hz3 := condF c7 hz3
        try rw [c7] at c6
        refine W_regionD tab_ok [none, none, none, none, none, some false, some false, some false, some false, some false, some false, some false, some false, some false, some false] ?_
        simp only [push_cast, seval, ↓reduceIte, cast_lit, c6, c7, hN0, hN]
        repeat (with_reducible refine And.intro (by first | (intro h0; simp only [h0, and_self]; done) | (intro h0; simp only [h0, Bool.not_false, Bool.not_true, Bool.true_and, Bool.and_true, true_and, and_true, and_self, imp_self, implies_true, bne_iff_ne, ne_eq, beq_iff_eq]; done) | (intros; simp_all; done) | exact True.intro) ?_)
        have hz3 := Option.some.inj hz3; subst hz3
        refine And.intro rfl (Fit2.of (fit_loc hU rfl rfl ?_) (by omega))
        simp only [push_cast, seval, ↓reduceIte, cast_lit, c6, c7, hN0, hN]
    · replace hz3 := condF c6 hz3
      refine W_regionD tab_ok [none, none, none, none, none, some false, some false, some false, some false, some false, some false, some false, some false, some false, some false] ?_
      simp only [push_cast, seval, ↓reduceIte, cast_lit, c6, hN0, hN]
      repeat (with_reducible refine And.intro (by first | (intro h0; simp only [h0, and_self]; done) | (intro h0; simp only [h0, Bool.not_false, Bool.not_true, Bool.true_and, Bool.and_true, true_and, and_true, and_self, imp_self, implies_true, bne_iff_ne, ne_eq, beq_iff_eq]; done) | (intros; simp_all; done) | exact True.intro) ?_)
      have hz3 := Option.some.inj hz3; subst hz3
      refine And.intro rfl (Fit2.of (fit_loc hU rfl rfl ?_) (by omega))
      simp only [push_cast, seval, ↓reduceIte, cast_lit, c6, hN0, hN]
  refine W_ret ?_
  try simp only [gthen, gblock]
  have h := Option.some.inj h; subst h
  refine fin_loc (.inr rfl) hU [.val (.bool z3)] (by omega) ?_
  simp only [push_cast, seval, ↓reduceIte, cast_lit, Try.results82, hN0, hN]

theorem lv_edit_Equal_ok : ∀ k, (∀ {a0 : S_api_Edit} {a1 : S_api_Edit} {r : Bool} {O : Objs} {n : Nat}, (lv_edit_Equal k).1 a0 a1 = some r → GTo Try.prog 48 [.agg [.val (.int .i64 a0.Kind), .val (.int .i64 a0.Old.Kind), .sl a0.Old.Words.length (fl (eI .u64) a0.Old.Words), .sl a0.Old.Kids.length (fl e_S_api_Tree a0.Old.Kids), .val (.int .i64 a0.New.Kind), .sl a0.New.Words.length (fl (eI .u64) a0.New.Words), .sl a0.New.Kids.length (fl e_S_api_Tree a0.New.Kids), .sl a0.Words.length (fl e_S_api_WordEdit a0.Words), .sl a0.Kids.length (fl e_S_api_KidEdit a0.Kids), .val (.int .i64 a0.List_), .sl a0.Ops.length (fl e_S_api_Op a0.Ops)], .agg [.val (.int .i64 a1.Kind), .val (.int .i64 a1.Old.Kind), .sl a1.Old.Words.length (fl (eI .u64) a1.Old.Words), .sl a1.Old.Kids.length (fl e_S_api_Tree a1.Old.Kids), .val (.int .i64 a1.New.Kind), .sl a1.New.Words.length (fl (eI .u64) a1.New.Words), .sl a1.New.Kids.length (fl e_S_api_Tree a1.New.Kids), .sl a1.Words.length (fl e_S_api_WordEdit a1.Words), .sl a1.Kids.length (fl e_S_api_KidEdit a1.Kids), .val (.int .i64 a1.List_), .sl a1.Ops.length (fl e_S_api_Op a1.Ops)]] O n (.val (.bool r)) O n) ∧ (∀ {a0 : (List S_api_KidEdit)} {a1 : (List S_api_KidEdit)} {r : Bool} {O : Objs} {n : Nat}, (lv_edit_Equal k).2.1 a0 a1 = some r → GTo Try.prog 79 [.sl a0.length (fl e_S_api_KidEdit a0), .sl a1.length (fl e_S_api_KidEdit a1), .fn 80 0 []] O n (.val (.bool r)) O n) ∧ (∀ {a0 : S_api_KidEdit} {a1 : S_api_KidEdit} {r : Bool} {O : Objs} {n : Nat}, (lv_edit_Equal k).2.2.1 a0 a1 = some r → GTo Try.prog 80 [.agg [.val (.int .i64 a0.At), .val (.int .i64 a0.E.Kind), .val (.int .i64 a0.E.Old.Kind), .sl a0.E.Old.Words.length (fl (eI .u64) a0.E.Old.Words), .sl a0.E.Old.Kids.length (fl e_S_api_Tree a0.E.Old.Kids), .val (.int .i64 a0.E.New.Kind), .sl a0.E.New.Words.length (fl (eI .u64) a0.E.New.Words), .sl a0.E.New.Kids.length (fl e_S_api_Tree a0.E.New.Kids), .sl a0.E.Words.length (fl e_S_api_WordEdit a0.E.Words), .sl a0.E.Kids.length (fl e_S_api_KidEdit a0.E.Kids), .val (.int .i64 a0.E.List_), .sl a0.E.Ops.length (fl e_S_api_Op a0.E.Ops)], .agg [.val (.int .i64 a1.At), .val (.int .i64 a1.E.Kind), .val (.int .i64 a1.E.Old.Kind), .sl a1.E.Old.Words.length (fl (eI .u64) a1.E.Old.Words), .sl a1.E.Old.Kids.length (fl e_S_api_Tree a1.E.Old.Kids), .val (.int .i64 a1.E.New.Kind), .sl a1.E.New.Words.length (fl (eI .u64) a1.E.New.Words), .sl a1.E.New.Kids.length (fl e_S_api_Tree a1.E.New.Kids), .sl a1.E.Words.length (fl e_S_api_WordEdit a1.E.Words), .sl a1.E.Kids.length (fl e_S_api_KidEdit a1.E.Kids), .val (.int .i64 a1.E.List_), .sl a1.E.Ops.length (fl e_S_api_Op a1.E.Ops)]] O n (.val (.bool r)) O n) ∧ (∀ {a0 : (List S_api_Op)} {a1 : (List S_api_Op)} {r : Bool} {O : Objs} {n : Nat}, (lv_edit_Equal k).2.2.2.1 a0 a1 = some r → GTo Try.prog 81 [.sl a0.length (fl e_S_api_Op a0), .sl a1.length (fl e_S_api_Op a1), .fn 82 0 []] O n (.val (.bool r)) O n) ∧ (∀ {a0 : S_api_Op} {a1 : S_api_Op} {r : Bool} {O : Objs} {n : Nat}, (lv_edit_Equal k).2.2.2.2 a0 a1 = some r → GTo Try.prog 82 [.agg [.val (.int .i64 a0.Kind), .val (.int .i64 a0.N), .sl a0.L.length (fl e_S_api_Tree a0.L), .val (.int .i64 a0.E.Kind), .val (.int .i64 a0.E.Old.Kind), .sl a0.E.Old.Words.length (fl (eI .u64) a0.E.Old.Words), .sl a0.E.Old.Kids.length (fl e_S_api_Tree a0.E.Old.Kids), .val (.int .i64 a0.E.New.Kind), .sl a0.E.New.Words.length (fl (eI .u64) a0.E.New.Words), .sl a0.E.New.Kids.length (fl e_S_api_Tree a0.E.New.Kids), .sl a0.E.Words.length (fl e_S_api_WordEdit a0.E.Words), .sl a0.E.Kids.length (fl e_S_api_KidEdit a0.E.Kids), .val (.int .i64 a0.E.List_), .sl a0.E.Ops.length (fl e_S_api_Op a0.E.Ops)], .agg [.val (.int .i64 a1.Kind), .val (.int .i64 a1.N), .sl a1.L.length (fl e_S_api_Tree a1.L), .val (.int .i64 a1.E.Kind), .val (.int .i64 a1.E.Old.Kind), .sl a1.E.Old.Words.length (fl (eI .u64) a1.E.Old.Words), .sl a1.E.Old.Kids.length (fl e_S_api_Tree a1.E.Old.Kids), .val (.int .i64 a1.E.New.Kind), .sl a1.E.New.Words.length (fl (eI .u64) a1.E.New.Words), .sl a1.E.New.Kids.length (fl e_S_api_Tree a1.E.New.Kids), .sl a1.E.Words.length (fl e_S_api_WordEdit a1.E.Words), .sl a1.E.Kids.length (fl e_S_api_KidEdit a1.E.Kids), .val (.int .i64 a1.E.List_), .sl a1.E.Ops.length (fl e_S_api_Op a1.E.Ops)]] O n (.val (.bool r)) O n) := fun k => by
  induction k with
  | zero => exact ⟨@fun a0 a1 r O n h => (nomatch (show (none : Option _) = some _ from h)), @fun a0 a1 r O n h => (nomatch (show (none : Option _) = some _ from h)), @fun a0 a1 r O n h => (nomatch (show (none : Option _) = some _ from h)), @fun a0 a1 r O n h => (nomatch (show (none : Option _) = some _ from h)), @fun a0 a1 r O n h => (nomatch (show (none : Option _) = some _ from h))⟩
  | succ k ih => exact ⟨@fun a0 a1 r O n h => okb_edit_Equal (ih.1) (ih.2.1) (ih.2.2.1) (ih.2.2.2.1) (ih.2.2.2.2)  h, @fun a0 a1 r O n h => okb_slices_EqualFunc_api_KidEdit_api_KidEdit_api_KidEdit_api_KidEdit_f80 (ih.1) (ih.2.1) (ih.2.2.1) (ih.2.2.2.1) (ih.2.2.2.2)  h, @fun a0 a1 r O n h => okb_edit_equalKids (ih.1) (ih.2.1) (ih.2.2.1) (ih.2.2.2.1) (ih.2.2.2.2)  h, @fun a0 a1 r O n h => okb_slices_EqualFunc_api_Op_api_Op_api_Op_api_Op_f82 (ih.1) (ih.2.1) (ih.2.2.1) (ih.2.2.2.1) (ih.2.2.2.2)  h, @fun a0 a1 r O n h => okb_edit_equalOps (ih.1) (ih.2.1) (ih.2.2.1) (ih.2.2.2.1) (ih.2.2.2.2)  h⟩

theorem ok_edit_Equal {a0 : S_api_Edit} {a1 : S_api_Edit} {r : Bool} {O : Objs} {n : Nat} (h : m_edit_Equal a0 a1 = some r) : GTo Try.prog 48 [.agg [.val (.int .i64 a0.Kind), .val (.int .i64 a0.Old.Kind), .sl a0.Old.Words.length (fl (eI .u64) a0.Old.Words), .sl a0.Old.Kids.length (fl e_S_api_Tree a0.Old.Kids), .val (.int .i64 a0.New.Kind), .sl a0.New.Words.length (fl (eI .u64) a0.New.Words), .sl a0.New.Kids.length (fl e_S_api_Tree a0.New.Kids), .sl a0.Words.length (fl e_S_api_WordEdit a0.Words), .sl a0.Kids.length (fl e_S_api_KidEdit a0.Kids), .val (.int .i64 a0.List_), .sl a0.Ops.length (fl e_S_api_Op a0.Ops)], .agg [.val (.int .i64 a1.Kind), .val (.int .i64 a1.Old.Kind), .sl a1.Old.Words.length (fl (eI .u64) a1.Old.Words), .sl a1.Old.Kids.length (fl e_S_api_Tree a1.Old.Kids), .val (.int .i64 a1.New.Kind), .sl a1.New.Words.length (fl (eI .u64) a1.New.Words), .sl a1.New.Kids.length (fl e_S_api_Tree a1.New.Kids), .sl a1.Words.length (fl e_S_api_WordEdit a1.Words), .sl a1.Kids.length (fl e_S_api_KidEdit a1.Kids), .val (.int .i64 a1.List_), .sl a1.Ops.length (fl e_S_api_Op a1.Ops)]] O n (.val (.bool r)) O n := by
  obtain ⟨k, hk⟩ := lim_some h
  exact (lv_edit_Equal_ok k).1  hk

theorem ok_slices_EqualFunc_api_KidEdit_api_KidEdit_api_KidEdit_api_KidEdit_f80 {a0 : (List S_api_KidEdit)} {a1 : (List S_api_KidEdit)} {r : Bool} {O : Objs} {n : Nat} (h : m_slices_EqualFunc_api_KidEdit_api_KidEdit_api_KidEdit_api_KidEdit_f80 a0 a1 = some r) : GTo Try.prog 79 [.sl a0.length (fl e_S_api_KidEdit a0), .sl a1.length (fl e_S_api_KidEdit a1), .fn 80 0 []] O n (.val (.bool r)) O n := by
  obtain ⟨k, hk⟩ := lim_some h
  exact (lv_edit_Equal_ok k).2.1  hk

theorem ok_edit_equalKids {a0 : S_api_KidEdit} {a1 : S_api_KidEdit} {r : Bool} {O : Objs} {n : Nat} (h : m_edit_equalKids a0 a1 = some r) : GTo Try.prog 80 [.agg [.val (.int .i64 a0.At), .val (.int .i64 a0.E.Kind), .val (.int .i64 a0.E.Old.Kind), .sl a0.E.Old.Words.length (fl (eI .u64) a0.E.Old.Words), .sl a0.E.Old.Kids.length (fl e_S_api_Tree a0.E.Old.Kids), .val (.int .i64 a0.E.New.Kind), .sl a0.E.New.Words.length (fl (eI .u64) a0.E.New.Words), .sl a0.E.New.Kids.length (fl e_S_api_Tree a0.E.New.Kids), .sl a0.E.Words.length (fl e_S_api_WordEdit a0.E.Words), .sl a0.E.Kids.length (fl e_S_api_KidEdit a0.E.Kids), .val (.int .i64 a0.E.List_), .sl a0.E.Ops.length (fl e_S_api_Op a0.E.Ops)], .agg [.val (.int .i64 a1.At), .val (.int .i64 a1.E.Kind), .val (.int .i64 a1.E.Old.Kind), .sl a1.E.Old.Words.length (fl (eI .u64) a1.E.Old.Words), .sl a1.E.Old.Kids.length (fl e_S_api_Tree a1.E.Old.Kids), .val (.int .i64 a1.E.New.Kind), .sl a1.E.New.Words.length (fl (eI .u64) a1.E.New.Words), .sl a1.E.New.Kids.length (fl e_S_api_Tree a1.E.New.Kids), .sl a1.E.Words.length (fl e_S_api_WordEdit a1.E.Words), .sl a1.E.Kids.length (fl e_S_api_KidEdit a1.E.Kids), .val (.int .i64 a1.E.List_), .sl a1.E.Ops.length (fl e_S_api_Op a1.E.Ops)]] O n (.val (.bool r)) O n := by
  obtain ⟨k, hk⟩ := lim_some h
  exact (lv_edit_Equal_ok k).2.2.1  hk

theorem ok_slices_EqualFunc_api_Op_api_Op_api_Op_api_Op_f82 {a0 : (List S_api_Op)} {a1 : (List S_api_Op)} {r : Bool} {O : Objs} {n : Nat} (h : m_slices_EqualFunc_api_Op_api_Op_api_Op_api_Op_f82 a0 a1 = some r) : GTo Try.prog 81 [.sl a0.length (fl e_S_api_Op a0), .sl a1.length (fl e_S_api_Op a1), .fn 82 0 []] O n (.val (.bool r)) O n := by
  obtain ⟨k, hk⟩ := lim_some h
  exact (lv_edit_Equal_ok k).2.2.2.1  hk

theorem ok_edit_equalOps {a0 : S_api_Op} {a1 : S_api_Op} {r : Bool} {O : Objs} {n : Nat} (h : m_edit_equalOps a0 a1 = some r) : GTo Try.prog 82 [.agg [.val (.int .i64 a0.Kind), .val (.int .i64 a0.N), .sl a0.L.length (fl e_S_api_Tree a0.L), .val (.int .i64 a0.E.Kind), .val (.int .i64 a0.E.Old.Kind), .sl a0.E.Old.Words.length (fl (eI .u64) a0.E.Old.Words), .sl a0.E.Old.Kids.length (fl e_S_api_Tree a0.E.Old.Kids), .val (.int .i64 a0.E.New.Kind), .sl a0.E.New.Words.length (fl (eI .u64) a0.E.New.Words), .sl a0.E.New.Kids.length (fl e_S_api_Tree a0.E.New.Kids), .sl a0.E.Words.length (fl e_S_api_WordEdit a0.E.Words), .sl a0.E.Kids.length (fl e_S_api_KidEdit a0.E.Kids), .val (.int .i64 a0.E.List_), .sl a0.E.Ops.length (fl e_S_api_Op a0.E.Ops)], .agg [.val (.int .i64 a1.Kind), .val (.int .i64 a1.N), .sl a1.L.length (fl e_S_api_Tree a1.L), .val (.int .i64 a1.E.Kind), .val (.int .i64 a1.E.Old.Kind), .sl a1.E.Old.Words.length (fl (eI .u64) a1.E.Old.Words), .sl a1.E.Old.Kids.length (fl e_S_api_Tree a1.E.Old.Kids), .val (.int .i64 a1.E.New.Kind), .sl a1.E.New.Words.length (fl (eI .u64) a1.E.New.Words), .sl a1.E.New.Kids.length (fl e_S_api_Tree a1.E.New.Kids), .sl a1.E.Words.length (fl e_S_api_WordEdit a1.E.Words), .sl a1.E.Kids.length (fl e_S_api_KidEdit a1.E.Kids), .val (.int .i64 a1.E.List_), .sl a1.E.Ops.length (fl e_S_api_Op a1.E.Ops)]] O n (.val (.bool r)) O n := by
  obtain ⟨k, hk⟩ := lim_some h
  exact (lv_edit_Equal_ok k).2.2.2.2  hk

theorem ok_centoref07_Trim {a0 : (List Int)} {r : (List Int)} {O : Objs} {n : Nat} (h : m_centoref07_Trim a0 = some r) : GTo Try.prog 62 [.sl a0.length (fl (eI .u64) a0)] O n (.sl r.length (fl (eI .u64) r)) O n := by
  unfold m_centoref07_Trim at h
  refine fn_of tab_ok Try.call62 Try.func62 rfl (Nat.le_of_ble_eq_true rfl) (Nat.le_refl _) fun hU => ?_
  have hN0 : O n = none := hU.fresh _ (Nat.le_refl _)
  have hN : ∀ k, O (n + k) = none := fun k => hU.fresh _ (Nat.le_add_right _ _)
  show W _ _ _ _ ⟨24, [], [(0, .sl a0.length (fl (eI .u64) a0))]⟩ (Loc O n []) _
  refine W_sq [0] (W_regionD tab_ok [] ?_)
  simp only [push_cast, seval, ↓reduceIte, cast_lit, hN0, hN]
  refine W_sq [0, 3] (W_regionD tab_ok [] ?_)
  simp only [push_cast, seval, ↓reduceIte, cast_lit, hN0, hN]
  refine W_seqK ?_
  refine W_fit ⟨24, [], [(0, .sl a0.length (fl (eI .u64) a0)), (3, .val (.int .i64 (a0.length : Int)))]⟩ (Loc O n []) (fit_loc hU rfl rfl ?_) ?_
  · simp only [push_cast, seval, ↓reduceIte, cast_lit, hN0, hN]
  obtain ⟨z6, hz6, h⟩ := bC h
  refine W_blockX (E' := ⟨24, [], [(0, .sl a0.length (fl (eI .u64) a0)), (3, .val (.int .i64 z6))]⟩) (O' := (Loc O n [])) (n0 := n) ?_ ?_
  · refine W_loopJ hz6 (fun s0_ => ⟨24, [], [(0, .sl a0.length (fl (eI .u64) a0)), (3, .val (.int .i64 s0_))]⟩) (fun s0_ => (Loc O n [])) (fun z6 => JX 0 n (⟨24, [], [(0, .sl a0.length (fl (eI .u64) a0)), (3, .val (.int .i64 z6))]⟩ : Env) (Loc O n []) n) ?_
    intro s0_ x0_ hs0_
    unfold m_centoref07_Trim_L0 at hs0_
    try dsimp only
    refine W_seqK ?_
    obtain ⟨z2, hz2, hs0_⟩ := bC hs0_
    refine W_seqN (E' := ⟨24, [], [(0, .sl a0.length (fl (eI .u64) a0)), (3, .val (.int .i64 s0_)), (16, .val (.bool z2))]⟩) (O' := (Loc O n [])) (n0 := n) ?_ ?_
    · rcases Bool.eq_false_or_eq_true (decide (0 < s0_)) with c4 | c4
      · replace hz2 := condT c4 hz2
        obtain ⟨x3, hx3, ax3, bx3, cx3, hz2⟩ := bE (f := (eI .u64)) tab71 (fun _ => rfl) (by decide) hz2
        refine W_regionD tab_ok [some true, some true, some true, some true, some true, some true] ?_
        simp only [push_cast, Nat.reduceAdd, Nat.reduceSub, Nat.reduceMul, Nat.reduceLeDiff, Nat.reduceLT, Nat.reduceEqDiff, ↓reduceIte, reduceCtorEq, Int.reduceBEq, Int.reduceBNe, Nat.reduceBEq, Int.reduceLE, Int.reduceLT, Int.reduceEq, Int.reduceNe, Int.reduceNeg, Nat.reduceDiv, Nat.reduceMod, Nat.reducePow, cast_lit, c4, ax3, bx3, cx3, hN0, hN]
        have hz2 := Option.some.inj hz2; subst hz2
        refine And.intro rfl (Fit2.of (fit_loc hU rfl rfl ?_) (by omega))
        simp only [push_cast, Nat.reduceAdd, Nat.reduceSub, Nat.reduceMul, Nat.reduceLeDiff, Nat.reduceLT, Nat.reduceEqDiff, ↓reduceIte, reduceCtorEq, Int.reduceBEq, Int.reduceBNe, Nat.reduceBEq, Int.reduceLE, Int.reduceLT, Int.reduceEq, Int.reduceNe, Int.reduceNeg, Nat.reduceDiv, Nat.reduceMod, Nat.reducePow, cast_lit, c4, ax3, bx3, cx3, hN0, hN]
      · replace hz2 := condF c4 hz2
        refine W_regionD tab_ok [some false, some false, some false, some false, some false, some false] ?_
        simp only [push_cast, seval, ↓reduceIte, cast_lit, c4, hN0, hN]
        have hz2 := Option.some.inj hz2; subst hz2
        refine And.intro rfl (Fit2.of (fit_loc hU rfl rfl ?_) (by omega))
        simp only [push_cast, seval, ↓reduceIte, cast_lit, c4, hN0, hN]
    refine W_cond (t := z2) rfl (fun c5 => ?_) (fun c5 => ?_)
    · replace hs0_ := condT c5 hs0_
      refine W_skip ?_
      try simp only [gthen, gblock]
      refine W_fit ⟨24, [], [(0, .sl a0.length (fl (eI .u64) a0)), (3, .val (.int .i64 s0_))]⟩ (Loc O n []) (fit_loc hU rfl rfl ?_) ?_
      · simp only [push_cast, seval, ↓reduceIte, cast_lit, hN0, hN]
      refine W_block ?_
      refine W_regionD tab_ok [] ?_
      simp only [push_cast, seval, ↓reduceIte, cast_lit, hN0, hN]
      have hs0_ := Option.some.inj hs0_; subst hs0_
      refine And.intro rfl (Fit2.of (fit_loc hU rfl rfl ?_) (by omega))
      simp only [push_cast, seval, ↓reduceIte, cast_lit, hN0, hN]
    · replace hs0_ := condF c5 hs0_
      refine W_exit ?_
      try simp only [gthen, gblock, ↓reduceIte, Nat.reduceEqDiff]
      have hs0_ := Option.some.inj hs0_; subst hs0_
      refine And.intro (fun h => by cases h) (And.intro rfl (Fit2.of (fit_loc hU rfl rfl ?_) (by omega)))
      simp only [push_cast, seval, ↓reduceIte, cast_lit, hN0, hN]
  try simp only [gthen, gblock, ↓reduceIte, Nat.reduceEqDiff]
  refine W_fit ⟨24, [], [(0, .sl a0.length (fl (eI .u64) a0)), (3, .val (.int .i64 z6))]⟩ (Loc O n []) (fit_loc hU rfl rfl ?_) ?_
  · simp only [push_cast, seval, ↓reduceIte, cast_lit, hN0, hN]
  refine W_sq [0, 3, 4] (W_regionD tab_ok [] ?_)
  simp only [push_cast, seval, ↓reduceIte, cast_lit, hN0, hN]
  refine W_seqK ?_
  obtain ⟨l9, al9, bl9, cl9, gl9, h⟩ := bS (lo := none) (hi := (some (.i64, z6))) (f := (eI .u64)) rfl rfl tkind22 tab71 (fun _ => rfl) h
  obtain ⟨l10, pl10, ql10, el10, h⟩ := bA0 (k := l9.length) rfl h
  refine W_regionD tab_ok [] ?_
  simp only [push_cast, seval, ↓reduceIte, cast_lit, al9, bl9, cl9, gl9, pl10, ql10, el10, hN0, hN]
  refine W_fit ⟨24, [], [(2, .row n l10.length)]⟩ (Loc O n [some ⟨true, 71, 1, l10.length, fl (eI .u64) l10⟩]) (fit_loc hU rfl rfl ?_) ?_
  · simp only [push_cast, seval, ↓reduceIte, cast_lit, al9, bl9, cl9, gl9, pl10, ql10, el10, hN0, hN]
  refine W_ret ?_
  try simp only [gthen, gblock]
  have h := Option.some.inj h; subst h
  refine fin_loc (.inr rfl) hU [.row n l10.length] (by omega) ?_
  simp only [push_cast, seval, ↓reduceIte, cast_lit, Try.results62, hN0, hN]

theorem okb_centoref07_Norm {r_centoref07_Norm : (S_api_Tree → Option S_api_Tree)} (ok_r_centoref07_Norm : ∀ {a0 : S_api_Tree} {r : S_api_Tree} {O : Objs} {n : Nat}, r_centoref07_Norm a0 = some r → GTo Try.prog 21 [.agg [.val (.int .i64 a0.Kind), .sl a0.Words.length (fl (eI .u64) a0.Words), .sl a0.Kids.length (fl e_S_api_Tree a0.Kids)]] O n (.agg [.val (.int .i64 r.Kind), .sl r.Words.length (fl (eI .u64) r.Words), .sl r.Kids.length (fl e_S_api_Tree r.Kids)]) O n) {a0 : S_api_Tree} {r : S_api_Tree} {O : Objs} {n : Nat} (h : b_centoref07_Norm r_centoref07_Norm a0 = some r) : GTo Try.prog 21 [.agg [.val (.int .i64 a0.Kind), .sl a0.Words.length (fl (eI .u64) a0.Words), .sl a0.Kids.length (fl e_S_api_Tree a0.Kids)]] O n (.agg [.val (.int .i64 r.Kind), .sl r.Words.length (fl (eI .u64) r.Words), .sl r.Kids.length (fl e_S_api_Tree r.Kids)]) O n := by
  unfold b_centoref07_Norm at h
  refine fn_of tab_ok Try.call21 Try.func21 rfl (Nat.le_of_ble_eq_true rfl) (Nat.le_refl _) fun hU => ?_
  have hN0 : O n = none := hU.fresh _ (Nat.le_refl _)
  have hN : ∀ k, O (n + k) = none := fun k => hU.fresh _ (Nat.le_add_right _ _)
  show W _ _ _ _ ⟨53, [], [(0, .agg [.val (.int .i64 a0.Kind), .sl a0.Words.length (fl (eI .u64) a0.Words), .sl a0.Kids.length (fl e_S_api_Tree a0.Kids)])]⟩ (Loc O n []) _
  refine W_sq [1, 2] (W_regionD tab_ok [] ?_)
  simp only [push_cast, seval, ↓reduceIte, cast_lit, hN0, hN]
  refine W_seqK ?_
  refine W_sq [1, 2, 10] (W_regionD tab_ok [] ?_)
  simp only [push_cast, seval, ↓reduceIte, cast_lit, hN0, hN]
  refine W_cond (t := (a0.Kind == 0)) rfl (fun c19 => ?_) (fun c19 => ?_)
  · replace h := condT c19 h
    refine W_seqK ?_
    refine W_regionD tab_ok [] ?_
    simp only [push_cast, seval, ↓reduceIte, cast_lit, hN0, hN]
    refine W_fit ⟨53, [], [(2, .ref (n + 1) 0)]⟩ (Loc O n [none, some ⟨false, 25, 3, 1, [.val (.int .i64 0), .val (.slice none 0 0), .val (.slice none 0 0)]⟩]) (fit_loc hU rfl rfl ?_) ?_
    · simp only [push_cast, seval, ↓reduceIte, cast_lit, hN0, hN]
    refine W_ret ?_
    try simp only [gthen, gblock]
    have h := Option.some.inj h; subst h
    refine fin_loc (.inr rfl) hU [.agg [.val (.int .i64 0), .val (.slice none 0 0), .val (.slice none 0 0)]] (by omega) ?_
    simp only [push_cast, seval, ↓reduceIte, cast_lit, Try.results21, hN0, hN]
  · replace h := condF c19 h
    refine W_skip ?_
    try simp only [gthen, gblock]
    refine W_fit ⟨53, [], [(1, .ref n 0), (2, .ref (n + 1) 0)]⟩ (Loc O n [some ⟨false, 25, 3, 1, [.val (.int .i64 a0.Kind), .sl a0.Words.length (fl (eI .u64) a0.Words), .sl a0.Kids.length (fl e_S_api_Tree a0.Kids)]⟩, some ⟨false, 25, 3, 1, [.val (.int .i64 0), .val (.slice none 0 0), .val (.slice none 0 0)]⟩]) (fit_loc hU rfl rfl ?_) ?_
    · simp only [push_cast, seval, ↓reduceIte, cast_lit, hN0, hN]
    refine W_sq [1, 2, 3] (W_regionD tab_ok [] ?_)
    simp only [push_cast, seval, ↓reduceIte, cast_lit, hN0, hN]
    refine W_sq [1, 2, 3, 4] (W_regionD tab_ok [] ?_)
    simp only [push_cast, seval, ↓reduceIte, cast_lit, hN0, hN]
    refine W_seqK ?_
    refine W_sq [1, 2, 3, 4, 5] (W_regionD tab_ok [] ?_)
    simp only [push_cast, seval, ↓reduceIte, cast_lit, hN0, hN]
    refine W_fit ⟨53, [], [(1, .ref n 0), (2, .ref (n + 1) 0), (3, .val (.slice none 0 0)), (4, .val (.int .i64 0)), (5, .val (.int .i64 0))]⟩ (Loc O n [some ⟨false, 25, 3, 1, [.val (.int .i64 a0.Kind), .sl a0.Words.length (fl (eI .u64) a0.Words), .sl a0.Kids.length (fl e_S_api_Tree a0.Kids)]⟩, some ⟨false, 25, 3, 1, [.val (.int .i64 0), .val (.slice none 0 0), .val (.slice none 0 0)]⟩]) (fit_loc hU rfl rfl ?_) ?_
    · simp only [push_cast, seval, ↓reduceIte, cast_lit, hN0, hN]
    refine W_fit2 (E' := (⟨53, [], [(1, .ref n 0), (2, .ref (n + 1) 0), (3, .row (n + 2) ([] : List S_api_Tree).length), (4, .val (.int .i64 0)), (5, .val (.int .i64 0))]⟩ : Env)) (O' := (Loc O n [some ⟨false, 25, 3, 1, [.val (.int .i64 a0.Kind), .sl a0.Words.length (fl (eI .u64) a0.Words), .sl a0.Kids.length (fl e_S_api_Tree a0.Kids)]⟩, some ⟨false, 25, 3, 1, [.val (.int .i64 0), .val (.slice none 0 0), .val (.slice none 0 0)]⟩, some ⟨true, 25, 3, ([] : List S_api_Tree).length, fl e_S_api_Tree ([] : List S_api_Tree)⟩, none])) (n' := (n + 4)) ?_ ?_
    · refine Fit2.trans (E' := (⟨53, [], [(1, .ref n 0), (2, .ref (n + 1) 0), (3, .val (.slice none 0 0)), (4, .val (.int .i64 0)), (5, .val (.int .i64 0))]⟩ : Env)) (O' := (Loc O n [some ⟨false, 25, 3, 1, [.val (.int .i64 a0.Kind), .sl a0.Words.length (fl (eI .u64) a0.Words), .sl a0.Kids.length (fl e_S_api_Tree a0.Kids)]⟩, some ⟨false, 25, 3, 1, [.val (.int .i64 0), .val (.slice none 0 0), .val (.slice none 0 0)]⟩])) (n' := (n + 2)) (Fit2.of (fit_loc hU rfl rfl ?_) (by omega)) ?_
      · simp only [push_cast, seval, ↓reduceIte, cast_lit, hN0, hN]
      refine Fit2.trans (E' := (⟨53, [], [(3, .row (n + 2) 0), (1, .ref n 0), (2, .ref (n + 1) 0), (3, .val (.slice none 0 0)), (4, .val (.int .i64 0)), (5, .val (.int .i64 0))]⟩ : Env)) (O' := (Loc O n [some ⟨false, 25, 3, 1, [.val (.int .i64 a0.Kind), .sl a0.Words.length (fl (eI .u64) a0.Words), .sl a0.Kids.length (fl e_S_api_Tree a0.Kids)]⟩, some ⟨false, 25, 3, 1, [.val (.int .i64 0), .val (.slice none 0 0), .val (.slice none 0 0)]⟩, some ⟨true, 25, 3, 0, []⟩])) (n' := (n + 3)) ?_ ?_
      · have ha := adopt_fit (ba := n) (E := (⟨53, [], [(1, .ref n 0), (2, .ref (n + 1) 0), (3, .val (.slice none 0 0)), (4, .val (.int .i64 0)), (5, .val (.int .i64 0))]⟩ : Env)) (O := (Loc O n [some ⟨false, 25, 3, 1, [.val (.int .i64 a0.Kind), .sl a0.Words.length (fl (eI .u64) a0.Words), .sl a0.Kids.length (fl e_S_api_Tree a0.Kids)]⟩, some ⟨false, 25, 3, 1, [.val (.int .i64 0), .val (.slice none 0 0), .val (.slice none 0 0)]⟩])) (n := (n + 2)) 3 25 3 rfl (by omega)
        simp only [Loc_push, Loc_push0, Loc_upd, Loc_upd0, List.set_cons_zero, List.set_cons_succ, List.cons_append, List.nil_append, List.length_cons, List.length_nil, Nat.zero_add, Nat.reduceAdd, Nat.reduceLT, Nat.add_assoc] at ha
        exact ha
      refine Fit2.trans (E' := (⟨53, [], [(1, .ref n 0), (2, .ref (n + 1) 0), (3, .row (n + 2) ([] : List S_api_Tree).length), (4, .val (.int .i64 0)), (5, .val (.int .i64 0))]⟩ : Env)) (O' := (Loc O n [some ⟨false, 25, 3, 1, [.val (.int .i64 a0.Kind), .sl a0.Words.length (fl (eI .u64) a0.Words), .sl a0.Kids.length (fl e_S_api_Tree a0.Kids)]⟩, some ⟨false, 25, 3, 1, [.val (.int .i64 0), .val (.slice none 0 0), .val (.slice none 0 0)]⟩, some ⟨true, 25, 3, ([] : List S_api_Tree).length, fl e_S_api_Tree ([] : List S_api_Tree)⟩])) (n' := (n + 3)) (Fit2.of (fit_loc hU rfl rfl ?_) (by omega)) ?_
      · simp only [push_cast, seval, ↓reduceIte, cast_lit, hN0, hN]
      refine ren_fit (k := 3) (k' := 4) hU [0, 1, 2] [0, 1, 2, 0] rfl rfl rfl rfl ⟨rfl, rfl⟩ ?_
      simp only [push_cast, seval, ↓reduceIte, cast_lit, hN0, hN]
    obtain ⟨z10, hz10, h⟩ := bC h
    refine W_blockX (E' := ⟨53, [], [(1, .ref n 0), (2, .ref (n + 1) 0), (3, .row (n + 2) z10.2.length), (4, .val (.int .i64 z10.1))]⟩) (O' := (Loc O n [some ⟨false, 25, 3, 1, [.val (.int .i64 a0.Kind), .sl a0.Words.length (fl (eI .u64) a0.Words), .sl a0.Kids.length (fl e_S_api_Tree a0.Kids)]⟩, some ⟨false, 25, 3, 1, [.val (.int .i64 0), .val (.slice none 0 0), .val (.slice none 0 0)]⟩, some ⟨true, 25, 3, z10.2.length, fl e_S_api_Tree z10.2⟩, none])) (n0 := (n + 4)) ?_ ?_
    · refine W_loopJ hz10 (fun s0_ => ⟨53, [], [(1, .ref n 0), (2, .ref (n + 1) 0), (3, .row (n + 2) s0_.2.2.length), (4, .val (.int .i64 s0_.1)), (5, .val (.int .i64 s0_.2.1))]⟩) (fun s0_ => (Loc O n [some ⟨false, 25, 3, 1, [.val (.int .i64 a0.Kind), .sl a0.Words.length (fl (eI .u64) a0.Words), .sl a0.Kids.length (fl e_S_api_Tree a0.Kids)]⟩, some ⟨false, 25, 3, 1, [.val (.int .i64 0), .val (.slice none 0 0), .val (.slice none 0 0)]⟩, some ⟨true, 25, 3, s0_.2.2.length, fl e_S_api_Tree s0_.2.2⟩, none])) (fun z10 => JX 0 n (⟨53, [], [(1, .ref n 0), (2, .ref (n + 1) 0), (3, .row (n + 2) z10.2.length), (4, .val (.int .i64 z10.1))]⟩ : Env) (Loc O n [some ⟨false, 25, 3, 1, [.val (.int .i64 a0.Kind), .sl a0.Words.length (fl (eI .u64) a0.Words), .sl a0.Kids.length (fl e_S_api_Tree a0.Kids)]⟩, some ⟨false, 25, 3, 1, [.val (.int .i64 0), .val (.slice none 0 0), .val (.slice none 0 0)]⟩, some ⟨true, 25, 3, z10.2.length, fl e_S_api_Tree z10.2⟩, none]) (n + 4)) ?_
      intro s0_ x0_ hs0_
      unfold b_centoref07_Norm_L0 at hs0_
      try dsimp only
      refine W_seqK ?_
      refine W_sq [1, 2, 3, 4, 5, 16] (W_regionD tab_ok [] ?_)
      simp only [push_cast, seval, ↓reduceIte, cast_lit, hN0, hN]
      refine W_cond (t := (decide (s0_.2.1 < (a0.Kids.length : Int)))) rfl (fun c9 => ?_) (fun c9 => ?_)
      · replace hs0_ := condT c9 hs0_
        refine W_skip ?_
        try simp only [gthen, gblock]
        refine W_fit ⟨53, [], [(1, .ref n 0), (2, .ref (n + 1) 0), (3, .row (n + 2) s0_.2.2.length), (4, .val (.int .i64 s0_.1)), (5, .val (.int .i64 s0_.2.1))]⟩ (Loc O n [some ⟨false, 25, 3, 1, [.val (.int .i64 a0.Kind), .sl a0.Words.length (fl (eI .u64) a0.Words), .sl a0.Kids.length (fl e_S_api_Tree a0.Kids)]⟩, some ⟨false, 25, 3, 1, [.val (.int .i64 0), .val (.slice none 0 0), .val (.slice none 0 0)]⟩, some ⟨true, 25, 3, s0_.2.2.length, fl e_S_api_Tree s0_.2.2⟩, none]) (fit_loc hU rfl rfl ?_) ?_
        · simp only [push_cast, seval, ↓reduceIte, cast_lit, hN0, hN]
        obtain ⟨z1, hz1, hs0_⟩ := bC hs0_
        refine W_seqN (E' := ⟨53, [], [(1, .ref n 0), (2, .ref (n + 1) 0), (3, .row (n + 2) z1.2.length), (4, .val (.int .i64 z1.1)), (5, .val (.int .i64 s0_.2.1))]⟩) (O' := (Loc O n [some ⟨false, 25, 3, 1, [.val (.int .i64 a0.Kind), .sl a0.Words.length (fl (eI .u64) a0.Words), .sl a0.Kids.length (fl e_S_api_Tree a0.Kids)]⟩, some ⟨false, 25, 3, 1, [.val (.int .i64 0), .val (.slice none 0 0), .val (.slice none 0 0)]⟩, some ⟨true, 25, 3, z1.2.length, fl e_S_api_Tree z1.2⟩, none, none, none])) (n0 := (n + 6)) ?_ ?_
        · refine W_block ?_
          refine W_seqK ?_
          obtain ⟨x4, hx4, ax4, bx4, cx4, hz1⟩ := bE (f := e_S_api_Tree) tab25 (fun _ => rfl) (by decide) hz1
          obtain ⟨y5, hy5, hz1⟩ := bC hz1
          refine W_regionD tab_ok [] ?_
          simp only [push_cast, Nat.reduceAdd, Nat.reduceSub, Nat.reduceMul, Nat.reduceLeDiff, Nat.reduceLT, Nat.reduceEqDiff, ↓reduceIte, reduceCtorEq, Int.reduceBEq, Int.reduceBNe, Nat.reduceBEq, Int.reduceLE, Int.reduceLT, Int.reduceEq, Int.reduceNe, Int.reduceNeg, Nat.reduceDiv, Nat.reduceMod, Nat.reducePow, cast_lit, ax4, bx4, cx4, hN0, hN]
          refine (ok_r_centoref07_Norm hy5).then ?_
          simp only [push_cast, Nat.reduceAdd, Nat.reduceSub, Nat.reduceMul, Nat.reduceLeDiff, Nat.reduceLT, Nat.reduceEqDiff, ↓reduceIte, reduceCtorEq, Int.reduceBEq, Int.reduceBNe, Nat.reduceBEq, Int.reduceLE, Int.reduceLT, Int.reduceEq, Int.reduceNe, Int.reduceNeg, Nat.reduceDiv, Nat.reduceMod, Nat.reducePow, cast_lit, ax4, bx4, cx4, hN0, hN]
          refine W_fit ⟨53, [], [(1, .ref n 0), (2, .ref (n + 1) 0), (3, .row (n + 2) s0_.2.2.length), (4, .val (.int .i64 s0_.1)), (5, .val (.int .i64 s0_.2.1)), (6, .ref (n + 4) 0)]⟩ (Loc O n [some ⟨false, 25, 3, 1, [.val (.int .i64 a0.Kind), .sl a0.Words.length (fl (eI .u64) a0.Words), .sl a0.Kids.length (fl e_S_api_Tree a0.Kids)]⟩, some ⟨false, 25, 3, 1, [.val (.int .i64 0), .val (.slice none 0 0), .val (.slice none 0 0)]⟩, some ⟨true, 25, 3, s0_.2.2.length, fl e_S_api_Tree s0_.2.2⟩, none, some ⟨false, 25, 3, 1, [.val (.int .i64 y5.Kind), .sl y5.Words.length (fl (eI .u64) y5.Words), .sl y5.Kids.length (fl e_S_api_Tree y5.Kids)]⟩]) (fit_loc hU rfl rfl ?_) ?_
          · simp only [push_cast, Nat.reduceAdd, Nat.reduceSub, Nat.reduceMul, Nat.reduceLeDiff, Nat.reduceLT, Nat.reduceEqDiff, ↓reduceIte, reduceCtorEq, Int.reduceBEq, Int.reduceBNe, Nat.reduceBEq, Int.reduceLE, Int.reduceLT, Int.reduceEq, Int.reduceNe, Int.reduceNeg, Nat.reduceDiv, Nat.reduceMod, Nat.reducePow, cast_lit, ax4, bx4, cx4, hN0, hN]
          refine W_seqK ?_
          obtain ⟨l7, pl7, ql7, el7, hz1⟩ := bA (k := 1) rfl hz1
          refine W_regionD tab_ok [] ?_
          simp only [push_cast, seval, ↓reduceIte, cast_lit, pl7, ql7, el7, hN0, hN]
          refine W_fit ⟨53, [], [(1, .ref n 0), (2, .ref (n + 1) 0), (3, .row (n + 2) l7.length), (4, .val (.int .i64 s0_.1)), (5, .val (.int .i64 s0_.2.1)), (6, .ref (n + 4) 0)]⟩ (Loc O n [some ⟨false, 25, 3, 1, [.val (.int .i64 a0.Kind), .sl a0.Words.length (fl (eI .u64) a0.Words), .sl a0.Kids.length (fl e_S_api_Tree a0.Kids)]⟩, some ⟨false, 25, 3, 1, [.val (.int .i64 0), .val (.slice none 0 0), .val (.slice none 0 0)]⟩, some ⟨true, 25, 3, l7.length, fl e_S_api_Tree l7⟩, none, some ⟨false, 25, 3, 1, [.val (.int .i64 y5.Kind), .sl y5.Words.length (fl (eI .u64) y5.Words), .sl y5.Kids.length (fl e_S_api_Tree y5.Kids)]⟩, none]) (fit_loc hU rfl rfl ?_) ?_
          · simp only [push_cast, seval, ↓reduceIte, cast_lit, pl7, ql7, el7, hN0, hN]
          refine W_sq [1, 2, 3, 4, 5, 31] (W_regionD tab_ok [] ?_)
          simp only [push_cast, seval, ↓reduceIte, cast_lit, hN0, hN]
          refine W_cond (t := (y5.Kind != 0)) rfl (fun c8 => ?_) (fun c8 => ?_)
          · replace hz1 := condT c8 hz1
            refine W_regionD tab_ok [] ?_
            simp only [push_cast, seval, ↓reduceIte, cast_lit, hN0, hN]
            have hz1 := Option.some.inj hz1; subst hz1
            refine And.intro rfl (Fit2.of (fit_loc hU rfl rfl ?_) (by omega))
            simp only [push_cast, seval, ↓reduceIte, cast_lit, hN0, hN]
          · replace hz1 := condF c8 hz1
            refine W_skip ?_
            try simp only [gthen, gblock]
            have hz1 := Option.some.inj hz1; subst hz1
            refine And.intro rfl (Fit2.of (fit_loc hU rfl rfl ?_) (by omega))
            simp only [push_cast, seval, ↓reduceIte, cast_lit, hN0, hN]
        refine W_regionD tab_ok [] ?_
        simp only [push_cast, seval, ↓reduceIte, cast_lit, hN0, hN]
        have hs0_ := Option.some.inj hs0_; subst hs0_
        refine And.intro rfl (Fit2.of (fit_loc hU rfl rfl ?_) (by omega))
        simp only [push_cast, seval, ↓reduceIte, cast_lit, hN0, hN]
      · replace hs0_ := condF c9 hs0_
        refine W_exit ?_
        try simp only [gthen, gblock, ↓reduceIte, Nat.reduceEqDiff]
        have hs0_ := Option.some.inj hs0_; subst hs0_
        refine And.intro (fun h => by cases h) (And.intro rfl (Fit2.of (fit_loc hU rfl rfl ?_) (by omega)))
        simp only [push_cast, seval, ↓reduceIte, cast_lit, hN0, hN]
    try simp only [gthen, gblock, ↓reduceIte, Nat.reduceEqDiff]
    refine W_fit ⟨53, [], [(1, .ref n 0), (2, .ref (n + 1) 0), (3, .row (n + 2) z10.2.length), (4, .val (.int .i64 z10.1))]⟩ (Loc O n [some ⟨false, 25, 3, 1, [.val (.int .i64 a0.Kind), .sl a0.Words.length (fl (eI .u64) a0.Words), .sl a0.Kids.length (fl e_S_api_Tree a0.Kids)]⟩, some ⟨false, 25, 3, 1, [.val (.int .i64 0), .val (.slice none 0 0), .val (.slice none 0 0)]⟩, some ⟨true, 25, 3, z10.2.length, fl e_S_api_Tree z10.2⟩, none]) (fit_loc hU rfl rfl ?_) ?_
    · simp only [push_cast, seval, ↓reduceIte, cast_lit, hN0, hN]
    refine W_seqK ?_
    refine W_sq [1, 2, 3, 4, 36] (W_regionD tab_ok [] ?_)
    simp only [push_cast, seval, ↓reduceIte, cast_lit, hN0, hN]
    refine W_cond (t := (a0.Kind == 1)) rfl (fun c18 => ?_) (fun c18 => ?_)
    · replace h := condT c18 h
      refine W_fit ⟨53, [], [(1, .ref n 0), (2, .ref (n + 1) 0), (3, .sl z10.2.length (fl e_S_api_Tree z10.2)), (4, .val (.int .i64 z10.1))]⟩ (Loc O n [some ⟨false, 25, 3, 1, [.val (.int .i64 a0.Kind), .sl a0.Words.length (fl (eI .u64) a0.Words), .sl a0.Kids.length (fl e_S_api_Tree a0.Kids)]⟩, some ⟨false, 25, 3, 1, [.val (.int .i64 0), .val (.slice none 0 0), .val (.slice none 0 0)]⟩, none, none]) (fit_loc hU rfl rfl ?_) ?_
      · simp only [push_cast, seval, ↓reduceIte, cast_lit, hN0, hN]
      refine W_seqK ?_
      obtain ⟨y14, hy14, h⟩ := bC h
      obtain ⟨l15, al15, bl15, cl15, gl15, h⟩ := bS (lo := none) (hi := (some (.i64, z10.1))) (f := e_S_api_Tree) rfl rfl tkind23 tab25 (fun _ => rfl) h
      refine W_drawF tab_ok (by kernel_rfl) [false, false, false, false, false, false, false, true] [] (by kernel_rfl) ?_
      simp only [push_cast, seval, ↓reduceIte, cast_lit, al15, bl15, cl15, gl15, hN0, hN]
      refine PCall.of (ok_centoref07_Trim hy14) ?_
      simp only [push_cast, seval, ↓reduceIte, cast_lit, al15, bl15, cl15, gl15, hN0, hN]
      refine W_fit ⟨53, [], [(2, .ref (n + 1) 0)]⟩ (Loc O n [none, some ⟨false, 25, 3, 1, [.val (.int .i64 1), .sl y14.length (fl (eI .u64) y14), .sl l15.length (fl e_S_api_Tree l15)]⟩, none, none]) (fit_loc hU rfl rfl ?_) ?_
      · simp only [push_cast, seval, ↓reduceIte, cast_lit, al15, bl15, cl15, gl15, hN0, hN]
      refine W_ret ?_
      try simp only [gthen, gblock]
      have h := Option.some.inj h; subst h
      refine fin_loc (.inr rfl) hU [.agg [.val (.int .i64 1), .sl y14.length (fl (eI .u64) y14), .sl l15.length (fl e_S_api_Tree l15)]] (by omega) ?_
      simp only [push_cast, seval, ↓reduceIte, cast_lit, Try.results21, hN0, hN]
    · replace h := condF c18 h
      refine W_skip ?_
      try simp only [gthen, gblock]
      refine W_fit ⟨53, [], [(1, .ref n 0), (2, .ref (n + 1) 0), (3, .row (n + 2) z10.2.length)]⟩ (Loc O n [some ⟨false, 25, 3, 1, [.val (.int .i64 a0.Kind), .sl a0.Words.length (fl (eI .u64) a0.Words), .sl a0.Kids.length (fl e_S_api_Tree a0.Kids)]⟩, some ⟨false, 25, 3, 1, [.val (.int .i64 0), .val (.slice none 0 0), .val (.slice none 0 0)]⟩, some ⟨true, 25, 3, z10.2.length, fl e_S_api_Tree z10.2⟩, none]) (fit_loc hU rfl rfl ?_) ?_
      · simp only [push_cast, seval, ↓reduceIte, cast_lit, hN0, hN]
      refine W_sq [1, 2, 3, 7] (W_regionD tab_ok [] ?_)
      simp only [push_cast, seval, ↓reduceIte, cast_lit, hN0, hN]
      refine W_seqK ?_
      obtain ⟨l17, pl17, ql17, el17, h⟩ := bA0 (k := a0.Words.length) rfl h
      refine W_regionD tab_ok [] ?_
      simp only [push_cast, seval, ↓reduceIte, cast_lit, pl17, ql17, el17, hN0, hN]
      refine W_fit ⟨53, [], [(1, .ref n 0), (2, .ref (n + 1) 0), (3, .row (n + 2) z10.2.length), (7, .row (n + 4) l17.length)]⟩ (Loc O n [some ⟨false, 25, 3, 1, [.val (.int .i64 a0.Kind), .sl a0.Words.length (fl (eI .u64) a0.Words), .sl a0.Kids.length (fl e_S_api_Tree a0.Kids)]⟩, some ⟨false, 25, 3, 1, [.val (.int .i64 0), .val (.slice none 0 0), .val (.slice none 0 0)]⟩, some ⟨true, 25, 3, z10.2.length, fl e_S_api_Tree z10.2⟩, none, some ⟨true, 71, 1, l17.length, fl (eI .u64) l17⟩]) (fit_loc hU rfl rfl ?_) ?_
      · simp only [push_cast, seval, ↓reduceIte, cast_lit, pl17, ql17, el17, hN0, hN]
      refine W_seqK ?_
      refine W_regionD tab_ok [] ?_
      simp only [push_cast, seval, ↓reduceIte, cast_lit, hN0, hN]
      refine W_fit ⟨53, [], [(2, .ref (n + 1) 0)]⟩ (Loc O n [none, some ⟨false, 25, 3, 1, [.val (.int .i64 a0.Kind), .row (n + 4) l17.length, .row (n + 2) z10.2.length]⟩, some ⟨true, 25, 3, z10.2.length, fl e_S_api_Tree z10.2⟩, none, some ⟨true, 71, 1, l17.length, fl (eI .u64) l17⟩]) (fit_loc hU rfl rfl ?_) ?_
      · simp only [push_cast, seval, ↓reduceIte, cast_lit, hN0, hN]
      refine W_ret ?_
      try simp only [gthen, gblock]
      have h := Option.some.inj h; subst h
      refine fin_loc (.inr rfl) hU [.agg [.val (.int .i64 a0.Kind), .row (n + 4) l17.length, .row (n + 2) z10.2.length]] (by omega) ?_
      simp only [push_cast, seval, ↓reduceIte, cast_lit, Try.results21, hN0, hN]

theorem lv_centoref07_Norm_ok : ∀ k, (∀ {a0 : S_api_Tree} {r : S_api_Tree} {O : Objs} {n : Nat}, (lv_centoref07_Norm k) a0 = some r → GTo Try.prog 21 [.agg [.val (.int .i64 a0.Kind), .sl a0.Words.length (fl (eI .u64) a0.Words), .sl a0.Kids.length (fl e_S_api_Tree a0.Kids)]] O n (.agg [.val (.int .i64 r.Kind), .sl r.Words.length (fl (eI .u64) r.Words), .sl r.Kids.length (fl e_S_api_Tree r.Kids)]) O n) := fun k => by
  induction k with
  | zero => exact @fun a0 r O n h => (nomatch (show (none : Option _) = some _ from h))
  | succ k ih => exact @fun a0 r O n h => okb_centoref07_Norm (ih)  h

theorem ok_centoref07_Norm {a0 : S_api_Tree} {r : S_api_Tree} {O : Objs} {n : Nat} (h : m_centoref07_Norm a0 = some r) : GTo Try.prog 21 [.agg [.val (.int .i64 a0.Kind), .sl a0.Words.length (fl (eI .u64) a0.Words), .sl a0.Kids.length (fl e_S_api_Tree a0.Kids)]] O n (.agg [.val (.int .i64 r.Kind), .sl r.Words.length (fl (eI .u64) r.Words), .sl r.Kids.length (fl e_S_api_Tree r.Kids)]) O n := by
  obtain ⟨k, hk⟩ := lim_some h
  exact (lv_centoref07_Norm_ok k)  hk

theorem ok_centoref01_Same {a0 : (List Int)} {a1 : (List Int)} {r : Bool} {O : Objs} {n : Nat} (h : m_centoref01_Same a0 a1 = some r) : GTo Try.prog 59 [.sl a0.length (fl (eI .u64) a0), .sl a1.length (fl (eI .u64) a1)] O n (.val (.bool r)) O n := by
  unfold m_centoref01_Same at h
  refine fn_of tab_ok Try.call59 Try.func59 rfl (Nat.le_of_ble_eq_true rfl) (Nat.le_refl _) fun hU => ?_
  have hN0 : O n = none := hU.fresh _ (Nat.le_refl _)
  have hN : ∀ k, O (n + k) = none := fun k => hU.fresh _ (Nat.le_add_right _ _)
  show W _ _ _ _ ⟨26, [], [(0, .sl a0.length (fl (eI .u64) a0)), (1, .sl a1.length (fl (eI .u64) a1))]⟩ (Loc O n []) _
  refine W_sq [0, 1] (W_regionD tab_ok [] ?_)
  simp only [push_cast, seval, ↓reduceIte, cast_lit, hN0, hN]
  refine W_seqK ?_
  refine W_sq [0, 1, 10] (W_regionD tab_ok [] ?_)
  simp only [push_cast, seval, ↓reduceIte, cast_lit, hN0, hN]
  refine W_cond (t := ((a0.length : Int) != (a1.length : Int))) rfl (fun c8 => ?_) (fun c8 => ?_)
  · replace h := condT c8 h
    refine W_sq [4] (W_regionD tab_ok [] ?_)
    simp only [push_cast, seval, ↓reduceIte, cast_lit, hN0, hN]
    refine W_ret ?_
    try simp only [gthen, gblock]
    have h := Option.some.inj h; subst h
    refine fin_loc (.inr rfl) hU [.val (.bool false)] (by omega) ?_
    simp only [push_cast, seval, ↓reduceIte, cast_lit, Try.results59, hN0, hN]
  · replace h := condF c8 h
    refine W_skip ?_
    try simp only [gthen, gblock]
    refine W_fit ⟨26, [], [(0, .sl a0.length (fl (eI .u64) a0)), (1, .sl a1.length (fl (eI .u64) a1))]⟩ (Loc O n []) (fit_loc hU rfl rfl ?_) ?_
    · simp only [push_cast, seval, ↓reduceIte, cast_lit, hN0, hN]
    refine W_seqK ?_
    refine W_sq [0, 1, 5] (W_regionD tab_ok [] ?_)
    simp only [push_cast, seval, ↓reduceIte, cast_lit, hN0, hN]
    refine W_fit ⟨26, [], [(0, .sl a0.length (fl (eI .u64) a0)), (1, .sl a1.length (fl (eI .u64) a1)), (5, .val (.int .i64 0))]⟩ (Loc O n []) (fit_loc hU rfl rfl ?_) ?_
    · simp only [push_cast, seval, ↓reduceIte, cast_lit, hN0, hN]
    obtain ⟨z7, hz7, h⟩ := bC h
    refine W_sumB (J := (SumJ (fun z7 => JR n (⟨26, [], [(4, .val (.bool false))]⟩ : Env) (Loc O n []) n) (fun z7 => JX 0 n (⟨26, [], []⟩ : Env) (Loc O n []) n))) (z := z7) ?_ fun hw => ?_
    · refine W_loopJ hz7 (fun s0_ => ⟨26, [], [(0, .sl a0.length (fl (eI .u64) a0)), (1, .sl a1.length (fl (eI .u64) a1)), (5, .val (.int .i64 s0_))]⟩) (fun s0_ => (Loc O n [])) (SumJ (fun z7 => JR n (⟨26, [], [(4, .val (.bool false))]⟩ : Env) (Loc O n []) n) (fun z7 => JX 0 n (⟨26, [], []⟩ : Env) (Loc O n []) n)) ?_
      intro s0_ x0_ hs0_
      unfold m_centoref01_Same_L0 at hs0_
      try dsimp only
      refine W_seqK ?_
      refine W_sq [0, 1, 5, 14] (W_regionD tab_ok [] ?_)
      simp only [push_cast, seval, ↓reduceIte, cast_lit, hN0, hN]
      refine W_cond (t := (decide (s0_ < (a0.length : Int)))) rfl (fun c6 => ?_) (fun c6 => ?_)
      · replace hs0_ := condT c6 hs0_
        refine W_skip ?_
        try simp only [gthen, gblock]
        refine W_fit ⟨26, [], [(0, .sl a0.length (fl (eI .u64) a0)), (1, .sl a1.length (fl (eI .u64) a1)), (5, .val (.int .i64 s0_))]⟩ (Loc O n []) (fit_loc hU rfl rfl ?_) ?_
        · simp only [push_cast, seval, ↓reduceIte, cast_lit, hN0, hN]
        refine W_seqK ?_
        refine W_block ?_
        obtain ⟨x3, hx3, ax3, bx3, cx3, hs0_⟩ := bE (f := (eI .u64)) tab71 (fun _ => rfl) (by decide) hs0_
        obtain ⟨x4, hx4, ax4, bx4, cx4, hs0_⟩ := bE (f := (eI .u64)) tab71 (fun _ => rfl) (by decide) hs0_
        refine W_sq [0, 1, 5, 25] (W_drawD tab_ok (by kernel_rfl) [] (by kernel_rfl) ?_)
        simp only [push_cast, Nat.reduceAdd, Nat.reduceSub, Nat.reduceMul, Nat.reduceLeDiff, Nat.reduceLT, Nat.reduceEqDiff, ↓reduceIte, reduceCtorEq, Int.reduceBEq, Int.reduceBNe, Nat.reduceBEq, Int.reduceLE, Int.reduceLT, Int.reduceEq, Int.reduceNe, Int.reduceNeg, Nat.reduceDiv, Nat.reduceMod, Nat.reducePow, cast_lit, ax3, bx3, cx3, ax4, bx4, cx4, hN0, hN]
        refine W_cond (t := (x3 != x4)) rfl (fun c5 => ?_) (fun c5 => ?_)
        · replace hs0_ := condT c5 hs0_
          refine W_sq [4] (W_regionD tab_ok [] ?_)
          simp only [push_cast, seval, ↓reduceIte, cast_lit, hN0, hN]
          refine W_ret ?_
          try simp only [gthen, gblock]
          have hs0_ := Option.some.inj hs0_; subst hs0_
          refine And.intro (fun h => by cases h) (And.intro rfl (Fit2.of (fit_loc hU rfl rfl ?_) (by omega)))
          simp only [push_cast, seval, ↓reduceIte, cast_lit, hN0, hN]
        · replace hs0_ := condF c5 hs0_
          refine W_skip ?_
          try simp only [gthen, gblock]
          refine W_fit ⟨26, [], [(0, .sl a0.length (fl (eI .u64) a0)), (1, .sl a1.length (fl (eI .u64) a1)), (5, .val (.int .i64 s0_))]⟩ (Loc O n []) (fit_loc hU rfl rfl ?_) ?_
          · simp only [push_cast, seval, ↓reduceIte, cast_lit, hN0, hN]
          refine W_regionD tab_ok [] ?_
          simp only [push_cast, seval, ↓reduceIte, cast_lit, hN0, hN]
          have hs0_ := Option.some.inj hs0_; subst hs0_
          refine And.intro rfl (Fit2.of (fit_loc hU rfl rfl ?_) (by omega))
          simp only [push_cast, seval, ↓reduceIte, cast_lit, hN0, hN]
      · replace hs0_ := condF c6 hs0_
        refine W_exit ?_
        try simp only [gthen, gblock, ↓reduceIte, Nat.reduceEqDiff]
        have hs0_ := Option.some.inj hs0_; subst hs0_
        refine And.intro (fun h => by cases h) (And.intro rfl (Fit2.of (fit_loc hU rfl rfl ?_) (by omega)))
        simp only [push_cast, seval, ↓reduceIte, cast_lit, hN0, hN]
    rcases z7 with z7 | z7
    · dsimp only [SumJ] at hw h
      refine W_blockR hw ?_
      try simp only [gthen, gblock, ↓reduceIte, Nat.reduceEqDiff]
      have h := Option.some.inj h; subst h
      refine fin_loc (.inr rfl) hU [.val (.bool false)] (by omega) ?_
      simp only [push_cast, seval, ↓reduceIte, cast_lit, Try.results59, hN0, hN]
    · dsimp only [SumJ] at hw h
      refine W_blockX hw ?_
      try simp only [gthen, gblock, ↓reduceIte, Nat.reduceEqDiff]
      refine W_fit ⟨26, [], []⟩ (Loc O n []) (fit_loc hU rfl rfl ?_) ?_
      · simp only [push_cast, seval, ↓reduceIte, cast_lit, hN0, hN]
      refine W_sq [4] (W_regionD tab_ok [] ?_)
      simp only [push_cast, seval, ↓reduceIte, cast_lit, hN0, hN]
      refine W_ret ?_
      try simp only [gthen, gblock]
      have h := Option.some.inj h; subst h
      refine fin_loc (.inr rfl) hU [.val (.bool true)] (by omega) ?_
      simp only [push_cast, seval, ↓reduceIte, cast_lit, Try.results59, hN0, hN]

end Go.Proofs.Ytjeolggpgclgkaa
