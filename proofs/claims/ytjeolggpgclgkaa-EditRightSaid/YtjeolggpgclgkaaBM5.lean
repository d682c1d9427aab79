/- Part BM5 of this seat's mirrors: functions of the seat's program, and the plain functions that they are; each theorem bears its own conditions. -/
import Derived.Test.YtjeolggpgclgkaaBE
import Derived.Test.YtjeolggpgclgkaaBM4
namespace Go.Proofs.Ytjeolggpgclgkaa
open Go.RowKit
set_option linter.unusedVariables false
set_option linter.unusedSimpArgs false
set_option maxRecDepth 100000
set_option maxHeartbeats 1000000
attribute [local push_cast] gfork_t gfork_f pfork_t pfork_f gthen gblock gops_nil gops_plain gops_guard onW gwantB gcalm gact gpick gpickV strip evS wok calmOp Op.operands Call.operands gop onK onP atK List.all_cons List.all_nil Bool.and_true Bool.true_and Bool.and_self Value.oneCell' List.take_zero List.take_succ_cons List.take_nil List.drop_zero List.drop_succ_cons List.drop_nil List.append_nil Nat.add_zero Nat.zero_add gstep gputE ev look genv gbin geqS geqF gint gunary gconvert gload gcells gpart_lit gstore gcellsOf gput gplace_lit gfieldAddr gstepIn gindexAddr gindex gfield gopt bLo bHi bMx gextract galloc gbox gbuild gfill gplaces gbuildSlice gmake glen gappend gsrc gbuiltin gnil isLive gres gone prun_nil prun_plain prun_guard pop TK.isAgg G.one G.under G.unders List.getD_cons_zero List.getD_cons_succ List.set_cons_zero List.set_cons_succ List.map_cons List.map_nil List.toList_toArray Array.toList_append Option.toArray_none Option.toArray_some Array.toList_map Option.map_some Option.map_none Option.bind_some Option.bind_none List.getElem?_cons_zero List.getElem?_cons_succ List.getElem?_nil List.nil_append List.cons_append List.replicate_succ List.replicate_zero List.length_cons List.length_nil and_true true_and and_false false_and Bool.true_eq_false Bool.false_eq_true forall_const false_implies implies_true IntKind.bits if_true if_false ite_true ite_false eq_self true_implies false_or or_false or_true true_or not_true_eq_false not_false_eq_true decide_true decide_false decide_eq_true_eq decide_eq_false_iff_not beq_iff_eq bne_iff_ne ne_eq Bool.not_eq_true Bool.not_eq_false beq_eq_false_iff_ne bne_eq_false_iff_eq beq_self_eq_true bne_self_eq_false Option.some.injEq exists_eq_left' exists_eq_left ge_iff_le gt_iff_lt decide_not Bool.not_true Bool.not_false imp_self gquiet cond_true cond_false beqT beqF Bool.not_not Bool.and_false Bool.false_and Bool.or_true Bool.true_or Bool.or_false Bool.false_or Loc_at Loc_at0 Loc_upd Loc_upd0 Loc_push Loc_push0 Option.join_some Nat.add_assoc Int.toNat_natCast eI eB eS eL fl_nil gopsD_nil gopsD_plain gopsD_t gopsD_f gopsD_n onKD onWD prunD_nil prunD_plain prunD_t prunD_f prunD_n onPD fitO fitO1 sameO fitL fl_append fl_one List.length_append G.agg.injEq G.row.injEq G.ref.injEq G.val.injEq G.sl.injEq G.tup.injEq Value.int.injEq Value.bool.injEq Value.string.injEq List.cons.injEq exists_and_left exists_const List.flatten_cons List.flatten_nil Int.le_refl Nat.le_refl upd_updU Loc_out Loc_updo Bool.not_eq_true' Bool.not_eq_false' wkl_nil wkl_cons wk_any wk_val wk_agg wk_tup wk_sl wk_fn List.size_toArray renO renO1 G.ren G.rens renL rho_at rho_at0 gP_none gP_some strip_gP wok_gP one_gP G.fn.injEq wk_slnil wk_slrow wk_slrs wk_ip wk_ipref wk_row wk_rs wk_rp wk_ref locLt0 locLt Option.join_none upd_same fl_cons undef keepL Arr.len Arr.put_eq prunB_nil prunB_bar prunB_bart prunB_plain prunB_t prunB_f prunB_n onB onBP gcopy setI_len Loc_cat0 Loc_cat1 Loc_cat2 Loc_cat3 Loc_cat4 Loc_cat5 noObjs_at tab2 tkind2 tab3 tkind3 tab4 tkind4 tab5 tkind5 tab6 tkind6 tab7 tkind7 tab8 tkind8 tab9 tkind9 tab10 tkind10 tab11 tkind11 tab12 tkind12 tab13 tkind13 tab14 tkind14 tab15 tkind15 tab16 tkind16 tab17 tkind17 tab18 tkind18 tab19 tkind19 tab21 tkind21 tab22 tkind22 tab23 tkind23 tab24 tkind24 tab25 tkind25 tab33 tkind33 tab35 tkind35 tab40 tkind40 tab42 tkind42 tab43 tkind43 tab49 tkind49 tab50 tkind50 tab51 tkind51 tab52 tkind52 tab53 tkind53 tab60 tkind60 tab61 tkind61 tab62 tkind62 tab63 tkind63 tab71 tkind71 tab77 tkind77 tab78 tkind78 tab85 tkind85 tab86 tkind86 tab95 tkind95 tab97 tkind97 tab98 tkind98 tab99 tkind99 tab110 tkind110 tab111 tkind111 tab114 tkind114 tab116 tkind116 tab117 tkind117 tab125 tkind125 tab129 tkind129 tab131 tkind131 tab133 tkind133 tab134 tkind134 tab144 tkind144 tab148 tkind148 tab151 tkind151 tab158 tkind158 tab160 tkind160 tab161 tkind161 tab165 tkind165 tab167 tkind167 tab170 tkind170 tab171 tkind171 tab175 tkind175 tab176 tkind176 tab178 tkind178 tab179 tkind179 tab180 tkind180 e_S_api_Tree e0_eq_S_api_Tree wkl_eI_u64 wka_eI_u64 len_eI_u64 one_eI_u64 wkp_eI_u64 undp_eI_u64 rens_eI_u64 renp_eI_u64 und_eI_u64 wkl_e_S_api_Tree wka_e_S_api_Tree len_e_S_api_Tree one_e_S_api_Tree wkp_e_S_api_Tree undp_e_S_api_Tree rens_e_S_api_Tree renp_e_S_api_Tree und_e_S_api_Tree e_S_api_WordEdit e_S_api_Edit e_S_api_KidEdit e_S_api_Op e0_eq_S_api_Edit e0_eq_S_api_KidEdit e0_eq_S_api_Op wkl_e_S_api_WordEdit wka_e_S_api_WordEdit len_e_S_api_WordEdit one_e_S_api_WordEdit wkp_e_S_api_WordEdit undp_e_S_api_WordEdit rens_e_S_api_WordEdit renp_e_S_api_WordEdit und_e_S_api_WordEdit wkl_e_S_api_KidEdit wka_e_S_api_KidEdit len_e_S_api_KidEdit one_e_S_api_KidEdit wkp_e_S_api_KidEdit undp_e_S_api_KidEdit rens_e_S_api_KidEdit renp_e_S_api_KidEdit und_e_S_api_KidEdit wkl_e_S_api_Op wka_e_S_api_Op len_e_S_api_Op one_e_S_api_Op wkp_e_S_api_Op undp_e_S_api_Op rens_e_S_api_Op renp_e_S_api_Op und_e_S_api_Op wkl_eI_i64 wka_eI_i64 len_eI_i64 one_eI_i64 wkp_eI_i64 undp_eI_i64 rens_eI_i64 renp_eI_i64 und_eI_i64 wkl_eI_u8 wka_eI_u8 len_eI_u8 one_eI_u8 wkp_eI_u8 undp_eI_u8 rens_eI_u8 renp_eI_u8 und_eI_u8
theorem ok_centolaw20_EditParts {a0 : S_api_Edit} {r : Bool} {O : Objs} {n : Nat} (h : m_centolaw20_EditParts a0 = some r) : GTo Try.prog 9 [.agg [.val (.int .i64 a0.Kind), .val (.int .i64 a0.Old.Kind), .sl a0.Old.Words.length (fl (eI .u64) a0.Old.Words), .sl a0.Old.Kids.length (fl e_S_api_Tree a0.Old.Kids), .val (.int .i64 a0.New.Kind), .sl a0.New.Words.length (fl (eI .u64) a0.New.Words), .sl a0.New.Kids.length (fl e_S_api_Tree a0.New.Kids), .sl a0.Words.length (fl e_S_api_WordEdit a0.Words), .sl a0.Kids.length (fl e_S_api_KidEdit a0.Kids), .val (.int .i64 a0.List_), .sl a0.Ops.length (fl e_S_api_Op a0.Ops)]] O n (.val (.bool r)) O n := by
  unfold m_centolaw20_EditParts at h
  refine fn_of tab_ok Try.call9 Try.func9 rfl (Nat.le_of_ble_eq_true rfl) (Nat.le_refl _) fun hU => ?_
  have hN0 : O n = none := hU.fresh _ (Nat.le_refl _)
  have hN : ∀ k, O (n + k) = none := fun k => hU.fresh _ (Nat.le_add_right _ _)
  show W _ _ _ _ ⟨78, [], [(0, .agg [.val (.int .i64 a0.Kind), .val (.int .i64 a0.Old.Kind), .sl a0.Old.Words.length (fl (eI .u64) a0.Old.Words), .sl a0.Old.Kids.length (fl e_S_api_Tree a0.Old.Kids), .val (.int .i64 a0.New.Kind), .sl a0.New.Words.length (fl (eI .u64) a0.New.Words), .sl a0.New.Kids.length (fl e_S_api_Tree a0.New.Kids), .sl a0.Words.length (fl e_S_api_WordEdit a0.Words), .sl a0.Kids.length (fl e_S_api_KidEdit a0.Kids), .val (.int .i64 a0.List_), .sl a0.Ops.length (fl e_S_api_Op a0.Ops)])]⟩ (Loc O n []) _
  refine W_sq [1] (W_regionD tab_ok [] ?_)
  simp only [push_cast, seval, ↓reduceIte, cast_lit, hN0, hN]
  refine W_seqK ?_
  obtain ⟨z3, hz3, h⟩ := bC h
  refine W_seqN (E' := ⟨78, [], [(1, .ref n 0), (12, .val (.bool z3))]⟩) (O' := (Loc O n [some ⟨false, 53, 11, 1, [.val (.int .i64 a0.Kind), .val (.int .i64 a0.Old.Kind), .sl a0.Old.Words.length (fl (eI .u64) a0.Old.Words), .sl a0.Old.Kids.length (fl e_S_api_Tree a0.Old.Kids), .val (.int .i64 a0.New.Kind), .sl a0.New.Words.length (fl (eI .u64) a0.New.Words), .sl a0.New.Kids.length (fl e_S_api_Tree a0.New.Kids), .sl a0.Words.length (fl e_S_api_WordEdit a0.Words), .sl a0.Kids.length (fl e_S_api_KidEdit a0.Kids), .val (.int .i64 a0.List_), .sl a0.Ops.length (fl e_S_api_Op a0.Ops)]⟩])) (n0 := (n + 1)) ?_ ?_
  · obtain ⟨y4, hy4, hz3⟩ := bC hz3
    rcases Bool.eq_false_or_eq_true y4 with c6 | c6
    · replace hz3 := condT c6 hz3
      obtain ⟨y5, hy5, hz3⟩ := bC hz3
      refine W_regionD tab_ok [some true, some true, some true] ?_
      simp only [push_cast, seval, ↓reduceIte, cast_lit, c6, hN0, hN]
      refine (ok_centoref20_Few hy4).then ?_
      simp only [push_cast, seval, ↓reduceIte, cast_lit, c6, hN0, hN]
      refine (ok_edit_Right hy5).then ?_
      simp only [push_cast, seval, ↓reduceIte, cast_lit, c6, hN0, hN]
      have hz3 := Option.some.inj hz3; subst hz3
      refine And.intro rfl (Fit2.of (fit_loc hU rfl rfl ?_) (by omega))
      simp only [push_cast, seval, ↓reduceIte, cast_lit, c6, hN0, hN]
    · replace hz3 := condF c6 hz3
      refine W_regionD tab_ok [some false, some false, some false] ?_
      simp only [push_cast, seval, ↓reduceIte, cast_lit, c6, hN0, hN]
      refine (ok_centoref20_Few hy4).then ?_
      simp only [push_cast, seval, ↓reduceIte, cast_lit, c6, hN0, hN]
      have hz3 := Option.some.inj hz3; subst hz3
      refine And.intro rfl (Fit2.of (fit_loc hU rfl rfl ?_) (by omega))
      simp only [push_cast, seval, ↓reduceIte, cast_lit, c6, hN0, hN]
  refine W_cond (t := z3) rfl (fun c49 => ?_) (fun c49 => ?_)
  · replace h := condT c49 h
    refine W_seqK ?_
    obtain ⟨y8, hy8, h⟩ := bC h
    refine W_regionD tab_ok [] ?_
    simp only [push_cast, seval, ↓reduceIte, cast_lit, hN0, hN]
    refine (ok_centolaw20_awake hy8).then ?_
    simp only [push_cast, seval, ↓reduceIte, cast_lit, hN0, hN]
    refine W_fit ⟨78, [], [(2, .val (.bool y8))]⟩ (Loc O n [none]) (fit_loc hU rfl rfl ?_) ?_
    · simp only [push_cast, seval, ↓reduceIte, cast_lit, hN0, hN]
    refine W_ret ?_
    try simp only [gthen, gblock]
    have h := Option.some.inj h; subst h
    refine fin_loc (.inr rfl) hU [.val (.bool y8)] (by omega) ?_
    simp only [push_cast, seval, ↓reduceIte, cast_lit, Try.results9, hN0, hN]
  · replace h := condF c49 h
    refine W_skip ?_
    try simp only [gthen, gblock]
    refine W_fit ⟨78, [], [(1, .ref n 0)]⟩ (Loc O n [some ⟨false, 53, 11, 1, [.val (.int .i64 a0.Kind), .val (.int .i64 a0.Old.Kind), .sl a0.Old.Words.length (fl (eI .u64) a0.Old.Words), .sl a0.Old.Kids.length (fl e_S_api_Tree a0.Old.Kids), .val (.int .i64 a0.New.Kind), .sl a0.New.Words.length (fl (eI .u64) a0.New.Words), .sl a0.New.Kids.length (fl e_S_api_Tree a0.New.Kids), .sl a0.Words.length (fl e_S_api_WordEdit a0.Words), .sl a0.Kids.length (fl e_S_api_KidEdit a0.Kids), .val (.int .i64 a0.List_), .sl a0.Ops.length (fl e_S_api_Op a0.Ops)]⟩]) (fit_loc hU rfl rfl ?_) ?_
    · simp only [push_cast, seval, ↓reduceIte, cast_lit, hN0, hN]
    refine W_seqK ?_
    refine W_sq [1, 3] (W_regionD tab_ok [] ?_)
    simp only [push_cast, seval, ↓reduceIte, cast_lit, hN0, hN]
    refine W_fit ⟨78, [], [(1, .ref n 0), (3, .val (.int .i64 0))]⟩ (Loc O n [some ⟨false, 53, 11, 1, [.val (.int .i64 a0.Kind), .val (.int .i64 a0.Old.Kind), .sl a0.Old.Words.length (fl (eI .u64) a0.Old.Words), .sl a0.Old.Kids.length (fl e_S_api_Tree a0.Old.Kids), .val (.int .i64 a0.New.Kind), .sl a0.New.Words.length (fl (eI .u64) a0.New.Words), .sl a0.New.Kids.length (fl e_S_api_Tree a0.New.Kids), .sl a0.Words.length (fl e_S_api_WordEdit a0.Words), .sl a0.Kids.length (fl e_S_api_KidEdit a0.Kids), .val (.int .i64 a0.List_), .sl a0.Ops.length (fl e_S_api_Op a0.Ops)]⟩]) (fit_loc hU rfl rfl ?_) ?_
    · simp only [push_cast, seval, ↓reduceIte, cast_lit, hN0, hN]
    obtain ⟨z23, hz23, h⟩ := bC h
    refine W_sumB (J := (SumJ (fun z23 => JR n (⟨78, [], [(2, .val (.bool false))]⟩ : Env) (Loc O n [none]) (n + 1)) (fun z23 => JX 0 n (⟨78, [], [(1, .ref n 0)]⟩ : Env) (Loc O n [some ⟨false, 53, 11, 1, [.val (.int .i64 a0.Kind), .val (.int .i64 a0.Old.Kind), .sl a0.Old.Words.length (fl (eI .u64) a0.Old.Words), .sl a0.Old.Kids.length (fl e_S_api_Tree a0.Old.Kids), .val (.int .i64 a0.New.Kind), .sl a0.New.Words.length (fl (eI .u64) a0.New.Words), .sl a0.New.Kids.length (fl e_S_api_Tree a0.New.Kids), .sl a0.Words.length (fl e_S_api_WordEdit a0.Words), .sl a0.Kids.length (fl e_S_api_KidEdit a0.Kids), .val (.int .i64 a0.List_), .sl a0.Ops.length (fl e_S_api_Op a0.Ops)]⟩]) (n + 1)))) (z := z23) ?_ fun hw => ?_
    · refine W_loopJ hz23 (fun s0_ => ⟨78, [], [(1, .ref n 0), (3, .val (.int .i64 s0_))]⟩) (fun s0_ => (Loc O n [some ⟨false, 53, 11, 1, [.val (.int .i64 a0.Kind), .val (.int .i64 a0.Old.Kind), .sl a0.Old.Words.length (fl (eI .u64) a0.Old.Words), .sl a0.Old.Kids.length (fl e_S_api_Tree a0.Old.Kids), .val (.int .i64 a0.New.Kind), .sl a0.New.Words.length (fl (eI .u64) a0.New.Words), .sl a0.New.Kids.length (fl e_S_api_Tree a0.New.Kids), .sl a0.Words.length (fl e_S_api_WordEdit a0.Words), .sl a0.Kids.length (fl e_S_api_KidEdit a0.Kids), .val (.int .i64 a0.List_), .sl a0.Ops.length (fl e_S_api_Op a0.Ops)]⟩])) (SumJ (fun z23 => JR n (⟨78, [], [(2, .val (.bool false))]⟩ : Env) (Loc O n [none]) (n + 1)) (fun z23 => JX 0 n (⟨78, [], [(1, .ref n 0)]⟩ : Env) (Loc O n [some ⟨false, 53, 11, 1, [.val (.int .i64 a0.Kind), .val (.int .i64 a0.Old.Kind), .sl a0.Old.Words.length (fl (eI .u64) a0.Old.Words), .sl a0.Old.Kids.length (fl e_S_api_Tree a0.Old.Kids), .val (.int .i64 a0.New.Kind), .sl a0.New.Words.length (fl (eI .u64) a0.New.Words), .sl a0.New.Kids.length (fl e_S_api_Tree a0.New.Kids), .sl a0.Words.length (fl e_S_api_WordEdit a0.Words), .sl a0.Kids.length (fl e_S_api_KidEdit a0.Kids), .val (.int .i64 a0.List_), .sl a0.Ops.length (fl e_S_api_Op a0.Ops)]⟩]) (n + 1))) ?_
      intro s0_ x0_ hs0_
      unfold m_centolaw20_EditParts_L0 at hs0_
      try dsimp only
      refine W_seqK ?_
      refine W_sq [1, 3, 18] (W_regionD tab_ok [] ?_)
      simp only [push_cast, seval, ↓reduceIte, cast_lit, hN0, hN]
      refine W_cond (t := (decide (s0_ < (a0.Kids.length : Int)))) rfl (fun c22 => ?_) (fun c22 => ?_)
      · replace hs0_ := condT c22 hs0_
        refine W_skip ?_
        try simp only [gthen, gblock]
        refine W_fit ⟨78, [], [(1, .ref n 0), (3, .val (.int .i64 s0_))]⟩ (Loc O n [some ⟨false, 53, 11, 1, [.val (.int .i64 a0.Kind), .val (.int .i64 a0.Old.Kind), .sl a0.Old.Words.length (fl (eI .u64) a0.Old.Words), .sl a0.Old.Kids.length (fl e_S_api_Tree a0.Old.Kids), .val (.int .i64 a0.New.Kind), .sl a0.New.Words.length (fl (eI .u64) a0.New.Words), .sl a0.New.Kids.length (fl e_S_api_Tree a0.New.Kids), .sl a0.Words.length (fl e_S_api_WordEdit a0.Words), .sl a0.Kids.length (fl e_S_api_KidEdit a0.Kids), .val (.int .i64 a0.List_), .sl a0.Ops.length (fl e_S_api_Op a0.Ops)]⟩]) (fit_loc hU rfl rfl ?_) ?_
        · simp only [push_cast, seval, ↓reduceIte, cast_lit, hN0, hN]
        refine W_seqK ?_
        refine W_block ?_
        obtain ⟨z14, hz14, hs0_⟩ := bC hs0_
        refine W_seqN (E' := ⟨78, [], [(1, .ref n 0), (3, .val (.int .i64 s0_)), (38, .val (.bool z14))]⟩) (O' := (Loc O n [some ⟨false, 53, 11, 1, [.val (.int .i64 a0.Kind), .val (.int .i64 a0.Old.Kind), .sl a0.Old.Words.length (fl (eI .u64) a0.Old.Words), .sl a0.Old.Kids.length (fl e_S_api_Tree a0.Old.Kids), .val (.int .i64 a0.New.Kind), .sl a0.New.Words.length (fl (eI .u64) a0.New.Words), .sl a0.New.Kids.length (fl e_S_api_Tree a0.New.Kids), .sl a0.Words.length (fl e_S_api_WordEdit a0.Words), .sl a0.Kids.length (fl e_S_api_KidEdit a0.Kids), .val (.int .i64 a0.List_), .sl a0.Ops.length (fl e_S_api_Op a0.Ops)]⟩])) (n0 := (n + 1)) ?_ ?_
        · obtain ⟨x15, hx15, ax15, bx15, cx15, hz14⟩ := bE (f := e_S_api_KidEdit) tab61 (fun _ => rfl) (by decide) hz14
          have g16 := gpart_fld (f := e_S_api_KidEdit) (off := 1) (sz := 12) tab53 (fun _ => rfl) (by decide) (by decide) hx15
          obtain ⟨y17, hy17, hz14⟩ := bC hz14
          rcases Bool.eq_false_or_eq_true y17 with c20 | c20
          · replace hz14 := condT c20 hz14
            have g19 := gpart_fld (f := e_S_api_KidEdit) (off := 1) (sz := 12) tab3 (fun _ => rfl) (by decide) (by decide) hx15
            refine W_regionD tab_ok [some true, some true, some true, some true, some true, some true, some true, some true] ?_
            simp only [push_cast, Nat.reduceAdd, Nat.reduceSub, Nat.reduceMul, Nat.reduceLeDiff, Nat.reduceLT, Nat.reduceEqDiff, ↓reduceIte, reduceCtorEq, Int.reduceBEq, Int.reduceBNe, Nat.reduceBEq, Int.reduceLE, Int.reduceLT, Int.reduceEq, Int.reduceNe, Int.reduceNeg, Nat.reduceDiv, Nat.reduceMod, Nat.reducePow, cast_lit, ax15, bx15, cx15, g16, c20, g19, hN0, hN]
            refine (ok_edit_Right hy17).then ?_
            simp only [push_cast, Nat.reduceAdd, Nat.reduceSub, Nat.reduceMul, Nat.reduceLeDiff, Nat.reduceLT, Nat.reduceEqDiff, ↓reduceIte, reduceCtorEq, Int.reduceBEq, Int.reduceBNe, Nat.reduceBEq, Int.reduceLE, Int.reduceLT, Int.reduceEq, Int.reduceNe, Int.reduceNeg, Nat.reduceDiv, Nat.reduceMod, Nat.reducePow, cast_lit, ax15, bx15, cx15, g16, c20, g19, hN0, hN]
            have hz14 := Option.some.inj hz14; subst hz14
            refine And.intro rfl (Fit2.of (fit_loc hU rfl rfl ?_) (by omega))
            simp only [push_cast, Nat.reduceAdd, Nat.reduceSub, Nat.reduceMul, Nat.reduceLeDiff, Nat.reduceLT, Nat.reduceEqDiff, ↓reduceIte, reduceCtorEq, Int.reduceBEq, Int.reduceBNe, Nat.reduceBEq, Int.reduceLE, Int.reduceLT, Int.reduceEq, Int.reduceNe, Int.reduceNeg, Nat.reduceDiv, Nat.reduceMod, Nat.reducePow, cast_lit, ax15, bx15, cx15, g16, c20, g19, hN0, hN]
          · replace hz14 := condF c20 hz14
            refine W_regionD tab_ok [some false, some false, some false, some false, some false, some false, some false, some false] ?_
            simp only [push_cast, Nat.reduceAdd, Nat.reduceSub, Nat.reduceMul, Nat.reduceLeDiff, Nat.reduceLT, Nat.reduceEqDiff, ↓reduceIte, reduceCtorEq, Int.reduceBEq, Int.reduceBNe, Nat.reduceBEq, Int.reduceLE, Int.reduceLT, Int.reduceEq, Int.reduceNe, Int.reduceNeg, Nat.reduceDiv, Nat.reduceMod, Nat.reducePow, cast_lit, ax15, bx15, cx15, g16, c20, hN0, hN]
            refine (ok_edit_Right hy17).then ?_
            simp only [push_cast, Nat.reduceAdd, Nat.reduceSub, Nat.reduceMul, Nat.reduceLeDiff, Nat.reduceLT, Nat.reduceEqDiff, ↓reduceIte, reduceCtorEq, Int.reduceBEq, Int.reduceBNe, Nat.reduceBEq, Int.reduceLE, Int.reduceLT, Int.reduceEq, Int.reduceNe, Int.reduceNeg, Nat.reduceDiv, Nat.reduceMod, Nat.reducePow, cast_lit, ax15, bx15, cx15, g16, c20, hN0, hN]
            have hz14 := Option.some.inj hz14; subst hz14
            refine And.intro rfl (Fit2.of (fit_loc hU rfl rfl ?_) (by omega))
            simp only [push_cast, Nat.reduceAdd, Nat.reduceSub, Nat.reduceMul, Nat.reduceLeDiff, Nat.reduceLT, Nat.reduceEqDiff, ↓reduceIte, reduceCtorEq, Int.reduceBEq, Int.reduceBNe, Nat.reduceBEq, Int.reduceLE, Int.reduceLT, Int.reduceEq, Int.reduceNe, Int.reduceNeg, Nat.reduceDiv, Nat.reduceMod, Nat.reducePow, cast_lit, ax15, bx15, cx15, g16, c20, hN0, hN]
        refine W_cond (t := z14) rfl (fun c21 => ?_) (fun c21 => ?_)
        · replace hs0_ := condT c21 hs0_
          refine W_sq [2] (W_regionD tab_ok [] ?_)
          simp only [push_cast, seval, ↓reduceIte, cast_lit, hN0, hN]
          refine W_ret ?_
          try simp only [gthen, gblock]
          have hs0_ := Option.some.inj hs0_; subst hs0_
          refine And.intro (fun h => by cases h) (And.intro rfl (Fit2.of (fit_loc hU rfl rfl ?_) (by omega)))
          simp only [push_cast, seval, ↓reduceIte, cast_lit, hN0, hN]
        · replace hs0_ := condF c21 hs0_
          refine W_skip ?_
          try simp only [gthen, gblock]
          refine W_fit ⟨78, [], [(1, .ref n 0), (3, .val (.int .i64 s0_))]⟩ (Loc O n [some ⟨false, 53, 11, 1, [.val (.int .i64 a0.Kind), .val (.int .i64 a0.Old.Kind), .sl a0.Old.Words.length (fl (eI .u64) a0.Old.Words), .sl a0.Old.Kids.length (fl e_S_api_Tree a0.Old.Kids), .val (.int .i64 a0.New.Kind), .sl a0.New.Words.length (fl (eI .u64) a0.New.Words), .sl a0.New.Kids.length (fl e_S_api_Tree a0.New.Kids), .sl a0.Words.length (fl e_S_api_WordEdit a0.Words), .sl a0.Kids.length (fl e_S_api_KidEdit a0.Kids), .val (.int .i64 a0.List_), .sl a0.Ops.length (fl e_S_api_Op a0.Ops)]⟩]) (fit_loc hU rfl rfl ?_) ?_
          · simp only [push_cast, seval, ↓reduceIte, cast_lit, hN0, hN]
          refine W_regionD tab_ok [] ?_
          simp only [push_cast, seval, ↓reduceIte, cast_lit, hN0, hN]
          have hs0_ := Option.some.inj hs0_; subst hs0_
          refine And.intro rfl (Fit2.of (fit_loc hU rfl rfl ?_) (by omega))
          simp only [push_cast, seval, ↓reduceIte, cast_lit, hN0, hN]
      · replace hs0_ := condF c22 hs0_
        refine W_exit ?_
        try simp only [gthen, gblock, ↓reduceIte, Nat.reduceEqDiff]
        have hs0_ := Option.some.inj hs0_; subst hs0_
        refine And.intro (fun h => by cases h) (And.intro rfl (Fit2.of (fit_loc hU rfl rfl ?_) (by omega)))
        simp only [push_cast, seval, ↓reduceIte, cast_lit, hN0, hN]
    rcases z23 with z23 | z23
    · dsimp only [SumJ] at hw h
      refine W_blockR hw ?_
      try simp only [gthen, gblock, ↓reduceIte, Nat.reduceEqDiff]
      have h := Option.some.inj h; subst h
      refine fin_loc (.inr rfl) hU [.val (.bool false)] (by omega) ?_
      simp only [push_cast, seval, ↓reduceIte, cast_lit, Try.results9, hN0, hN]
    · dsimp only [SumJ] at hw h
      refine W_blockX hw ?_
      try simp only [gthen, gblock, ↓reduceIte, Nat.reduceEqDiff]
      refine W_fit ⟨78, [], [(1, .ref n 0)]⟩ (Loc O n [some ⟨false, 53, 11, 1, [.val (.int .i64 a0.Kind), .val (.int .i64 a0.Old.Kind), .sl a0.Old.Words.length (fl (eI .u64) a0.Old.Words), .sl a0.Old.Kids.length (fl e_S_api_Tree a0.Old.Kids), .val (.int .i64 a0.New.Kind), .sl a0.New.Words.length (fl (eI .u64) a0.New.Words), .sl a0.New.Kids.length (fl e_S_api_Tree a0.New.Kids), .sl a0.Words.length (fl e_S_api_WordEdit a0.Words), .sl a0.Kids.length (fl e_S_api_KidEdit a0.Kids), .val (.int .i64 a0.List_), .sl a0.Ops.length (fl e_S_api_Op a0.Ops)]⟩]) (fit_loc hU rfl rfl ?_) ?_
      · simp only [push_cast, seval, ↓reduceIte, cast_lit, hN0, hN]
      refine W_seqK ?_
      refine W_sq [1, 4] (W_regionD tab_ok [] ?_)
      simp only [push_cast, seval, ↓reduceIte, cast_lit, hN0, hN]
      refine W_fit ⟨78, [], [(1, .ref n 0), (4, .val (.int .i64 0))]⟩ (Loc O n [some ⟨false, 53, 11, 1, [.val (.int .i64 a0.Kind), .val (.int .i64 a0.Old.Kind), .sl a0.Old.Words.length (fl (eI .u64) a0.Old.Words), .sl a0.Old.Kids.length (fl e_S_api_Tree a0.Old.Kids), .val (.int .i64 a0.New.Kind), .sl a0.New.Words.length (fl (eI .u64) a0.New.Words), .sl a0.New.Kids.length (fl e_S_api_Tree a0.New.Kids), .sl a0.Words.length (fl e_S_api_WordEdit a0.Words), .sl a0.Kids.length (fl e_S_api_KidEdit a0.Kids), .val (.int .i64 a0.List_), .sl a0.Ops.length (fl e_S_api_Op a0.Ops)]⟩]) (fit_loc hU rfl rfl ?_) ?_
      · simp only [push_cast, seval, ↓reduceIte, cast_lit, hN0, hN]
      obtain ⟨z42, hz42, h⟩ := bC h
      refine W_sumB (J := (SumJ (fun z42 => JR n (⟨78, [], [(2, .val (.bool false))]⟩ : Env) (Loc O n [none]) (n + 1)) (fun z42 => JX 2 n (⟨78, [], [(1, .ref n 0)]⟩ : Env) (Loc O n [some ⟨false, 53, 11, 1, [.val (.int .i64 a0.Kind), .val (.int .i64 a0.Old.Kind), .sl a0.Old.Words.length (fl (eI .u64) a0.Old.Words), .sl a0.Old.Kids.length (fl e_S_api_Tree a0.Old.Kids), .val (.int .i64 a0.New.Kind), .sl a0.New.Words.length (fl (eI .u64) a0.New.Words), .sl a0.New.Kids.length (fl e_S_api_Tree a0.New.Kids), .sl a0.Words.length (fl e_S_api_WordEdit a0.Words), .sl a0.Kids.length (fl e_S_api_KidEdit a0.Kids), .val (.int .i64 a0.List_), .sl a0.Ops.length (fl e_S_api_Op a0.Ops)]⟩]) (n + 1)))) (z := z42) ?_ fun hw => ?_
      · refine W_loopJ hz42 (fun s1_ => ⟨78, [], [(1, .ref n 0), (4, .val (.int .i64 s1_))]⟩) (fun s1_ => (Loc O n [some ⟨false, 53, 11, 1, [.val (.int .i64 a0.Kind), .val (.int .i64 a0.Old.Kind), .sl a0.Old.Words.length (fl (eI .u64) a0.Old.Words), .sl a0.Old.Kids.length (fl e_S_api_Tree a0.Old.Kids), .val (.int .i64 a0.New.Kind), .sl a0.New.Words.length (fl (eI .u64) a0.New.Words), .sl a0.New.Kids.length (fl e_S_api_Tree a0.New.Kids), .sl a0.Words.length (fl e_S_api_WordEdit a0.Words), .sl a0.Kids.length (fl e_S_api_KidEdit a0.Kids), .val (.int .i64 a0.List_), .sl a0.Ops.length (fl e_S_api_Op a0.Ops)]⟩])) (SumJ (fun z42 => JR n (⟨78, [], [(2, .val (.bool false))]⟩ : Env) (Loc O n [none]) (n + 1)) (fun z42 => JX 2 n (⟨78, [], [(1, .ref n 0)]⟩ : Env) (Loc O n [some ⟨false, 53, 11, 1, [.val (.int .i64 a0.Kind), .val (.int .i64 a0.Old.Kind), .sl a0.Old.Words.length (fl (eI .u64) a0.Old.Words), .sl a0.Old.Kids.length (fl e_S_api_Tree a0.Old.Kids), .val (.int .i64 a0.New.Kind), .sl a0.New.Words.length (fl (eI .u64) a0.New.Words), .sl a0.New.Kids.length (fl e_S_api_Tree a0.New.Kids), .sl a0.Words.length (fl e_S_api_WordEdit a0.Words), .sl a0.Kids.length (fl e_S_api_KidEdit a0.Kids), .val (.int .i64 a0.List_), .sl a0.Ops.length (fl e_S_api_Op a0.Ops)]⟩]) (n + 1))) ?_
        intro s1_ x1_ hs1_
        unfold m_centolaw20_EditParts_L1 at hs1_
        try dsimp only
        refine W_seqK ?_
        refine W_sq [1, 4, 43] (W_regionD tab_ok [] ?_)
        simp only [push_cast, seval, ↓reduceIte, cast_lit, hN0, hN]
        refine W_cond (t := (decide (s1_ < (a0.Ops.length : Int)))) rfl (fun c41 => ?_) (fun c41 => ?_)
        · replace hs1_ := condT c41 hs1_
          refine W_skip ?_
          try simp only [gthen, gblock]
          refine W_fit ⟨78, [], [(1, .ref n 0), (4, .val (.int .i64 s1_))]⟩ (Loc O n [some ⟨false, 53, 11, 1, [.val (.int .i64 a0.Kind), .val (.int .i64 a0.Old.Kind), .sl a0.Old.Words.length (fl (eI .u64) a0.Old.Words), .sl a0.Old.Kids.length (fl e_S_api_Tree a0.Old.Kids), .val (.int .i64 a0.New.Kind), .sl a0.New.Words.length (fl (eI .u64) a0.New.Words), .sl a0.New.Kids.length (fl e_S_api_Tree a0.New.Kids), .sl a0.Words.length (fl e_S_api_WordEdit a0.Words), .sl a0.Kids.length (fl e_S_api_KidEdit a0.Kids), .val (.int .i64 a0.List_), .sl a0.Ops.length (fl e_S_api_Op a0.Ops)]⟩]) (fit_loc hU rfl rfl ?_) ?_
          · simp only [push_cast, seval, ↓reduceIte, cast_lit, hN0, hN]
          refine W_seqK ?_
          refine W_block ?_
          obtain ⟨z31, hz31, hs1_⟩ := bC hs1_
          refine W_seqN (E' := ⟨78, [], [(1, .ref n 0), (4, .val (.int .i64 s1_)), (71, .val (.bool z31))]⟩) (O' := (Loc O n [some ⟨false, 53, 11, 1, [.val (.int .i64 a0.Kind), .val (.int .i64 a0.Old.Kind), .sl a0.Old.Words.length (fl (eI .u64) a0.Old.Words), .sl a0.Old.Kids.length (fl e_S_api_Tree a0.Old.Kids), .val (.int .i64 a0.New.Kind), .sl a0.New.Words.length (fl (eI .u64) a0.New.Words), .sl a0.New.Kids.length (fl e_S_api_Tree a0.New.Kids), .sl a0.Words.length (fl e_S_api_WordEdit a0.Words), .sl a0.Kids.length (fl e_S_api_KidEdit a0.Kids), .val (.int .i64 a0.List_), .sl a0.Ops.length (fl e_S_api_Op a0.Ops)]⟩])) (n0 := (n + 1)) ?_ ?_
          · obtain ⟨x32, hx32, ax32, bx32, cx32, hz31⟩ := bE (f := e_S_api_Op) tab63 (fun _ => rfl) (by decide) hz31
            have g33 := gpart_fld (f := e_S_api_Op) (off := 3) (sz := 14) tab53 (fun _ => rfl) (by decide) (by decide) hx32
            obtain ⟨y34, hy34, hz31⟩ := bC hz31
            rcases Bool.eq_false_or_eq_true y34 with c39 | c39
            · replace hz31 := condT c39 hz31
              have g36 := gpart_fld0 (f := e_S_api_Op) (sz := 14) tab3 (fun _ => rfl) (by decide) (by decide) hx32
              have g38 := gpart_fld (f := e_S_api_Op) (off := 3) (sz := 14) tab3 (fun _ => rfl) (by decide) (by decide) hx32
              refine W_drawD tab_ok (by kernel_rfl) [some true, some true, some true, some true, some true, some true, some true, some true, some true, some true, some true, some true, some true, some true, some true, some true] (by kernel_rfl) ?_
              simp only [push_cast, Nat.reduceAdd, Nat.reduceSub, Nat.reduceMul, Nat.reduceLeDiff, Nat.reduceLT, Nat.reduceEqDiff, ↓reduceIte, reduceCtorEq, Int.reduceBEq, Int.reduceBNe, Nat.reduceBEq, Int.reduceLE, Int.reduceLT, Int.reduceEq, Int.reduceNe, Int.reduceNeg, Nat.reduceDiv, Nat.reduceMod, Nat.reducePow, cast_lit, ax32, bx32, cx32, g33, c39, g36, g38, hN0, hN]
              refine PCall.of (ok_edit_Right hy34) ?_
              simp only [push_cast, Nat.reduceAdd, Nat.reduceSub, Nat.reduceMul, Nat.reduceLeDiff, Nat.reduceLT, Nat.reduceEqDiff, ↓reduceIte, reduceCtorEq, Int.reduceBEq, Int.reduceBNe, Nat.reduceBEq, Int.reduceLE, Int.reduceLT, Int.reduceEq, Int.reduceNe, Int.reduceNeg, Nat.reduceDiv, Nat.reduceMod, Nat.reducePow, cast_lit, ax32, bx32, cx32, g33, c39, g36, g38, hN0, hN]
              have hz31 := Option.some.inj hz31; subst hz31
              refine And.intro rfl (Fit2.of (fit_loc hU rfl rfl ?_) (by omega))
              simp only [push_cast, Nat.reduceAdd, Nat.reduceSub, Nat.reduceMul, Nat.reduceLeDiff, Nat.reduceLT, Nat.reduceEqDiff, ↓reduceIte, reduceCtorEq, Int.reduceBEq, Int.reduceBNe, Nat.reduceBEq, Int.reduceLE, Int.reduceLT, Int.reduceEq, Int.reduceNe, Int.reduceNeg, Nat.reduceDiv, Nat.reduceMod, Nat.reducePow, cast_lit, ax32, bx32, cx32, g33, c39, g36, g38, hN0, hN]
            · replace hz31 := condF c39 hz31
              refine W_drawD tab_ok (by kernel_rfl) [some false, some false, some false, some false, some false, some false, some false, some false, some false, some false, some false, some false, some false, some false, some false, some false] (by kernel_rfl) ?_
              simp only [push_cast, Nat.reduceAdd, Nat.reduceSub, Nat.reduceMul, Nat.reduceLeDiff, Nat.reduceLT, Nat.reduceEqDiff, ↓reduceIte, reduceCtorEq, Int.reduceBEq, Int.reduceBNe, Nat.reduceBEq, Int.reduceLE, Int.reduceLT, Int.reduceEq, Int.reduceNe, Int.reduceNeg, Nat.reduceDiv, Nat.reduceMod, Nat.reducePow, cast_lit, ax32, bx32, cx32, g33, c39, hN0, hN]
              refine PCall.of (ok_edit_Right hy34) ?_
              simp only [push_cast, Nat.reduceAdd, Nat.reduceSub, Nat.reduceMul, Nat.reduceLeDiff, Nat.reduceLT, Nat.reduceEqDiff, ↓reduceIte, reduceCtorEq, Int.reduceBEq, Int.reduceBNe, Nat.reduceBEq, Int.reduceLE, Int.reduceLT, Int.reduceEq, Int.reduceNe, Int.reduceNeg, Nat.reduceDiv, Nat.reduceMod, Nat.reducePow, cast_lit, ax32, bx32, cx32, g33, c39, hN0, hN]
              have hz31 := Option.some.inj hz31; subst hz31
              refine And.intro rfl (Fit2.of (fit_loc hU rfl rfl ?_) (by omega))
              simp only [push_cast, Nat.reduceAdd, Nat.reduceSub, Nat.reduceMul, Nat.reduceLeDiff, Nat.reduceLT, Nat.reduceEqDiff, ↓reduceIte, reduceCtorEq, Int.reduceBEq, Int.reduceBNe, Nat.reduceBEq, Int.reduceLE, Int.reduceLT, Int.reduceEq, Int.reduceNe, Int.reduceNeg, Nat.reduceDiv, Nat.reduceMod, Nat.reducePow, cast_lit, ax32, bx32, cx32, g33, c39, hN0, hN]
          refine W_cond (t := z31) rfl (fun c40 => ?_) (fun c40 => ?_)
          · replace hs1_ := condT c40 hs1_
            refine W_sq [2] (W_regionD tab_ok [] ?_)
            simp only [push_cast, seval, ↓reduceIte, cast_lit, hN0, hN]
            refine W_ret ?_
            try simp only [gthen, gblock]
            have hs1_ := Option.some.inj hs1_; subst hs1_
            refine And.intro (fun h => by cases h) (And.intro rfl (Fit2.of (fit_loc hU rfl rfl ?_) (by omega)))
            simp only [push_cast, seval, ↓reduceIte, cast_lit, hN0, hN]
          · replace hs1_ := condF c40 hs1_
            refine W_skip ?_
            try simp only [gthen, gblock]
            refine W_fit ⟨78, [], [(1, .ref n 0), (4, .val (.int .i64 s1_))]⟩ (Loc O n [some ⟨false, 53, 11, 1, [.val (.int .i64 a0.Kind), .val (.int .i64 a0.Old.Kind), .sl a0.Old.Words.length (fl (eI .u64) a0.Old.Words), .sl a0.Old.Kids.length (fl e_S_api_Tree a0.Old.Kids), .val (.int .i64 a0.New.Kind), .sl a0.New.Words.length (fl (eI .u64) a0.New.Words), .sl a0.New.Kids.length (fl e_S_api_Tree a0.New.Kids), .sl a0.Words.length (fl e_S_api_WordEdit a0.Words), .sl a0.Kids.length (fl e_S_api_KidEdit a0.Kids), .val (.int .i64 a0.List_), .sl a0.Ops.length (fl e_S_api_Op a0.Ops)]⟩]) (fit_loc hU rfl rfl ?_) ?_
            · simp only [push_cast, seval, ↓reduceIte, cast_lit, hN0, hN]
            refine W_regionD tab_ok [] ?_
            simp only [push_cast, seval, ↓reduceIte, cast_lit, hN0, hN]
            have hs1_ := Option.some.inj hs1_; subst hs1_
            refine And.intro rfl (Fit2.of (fit_loc hU rfl rfl ?_) (by omega))
            simp only [push_cast, seval, ↓reduceIte, cast_lit, hN0, hN]
        · replace hs1_ := condF c41 hs1_
          refine W_exit ?_
          try simp only [gthen, gblock, ↓reduceIte, Nat.reduceEqDiff]
          have hs1_ := Option.some.inj hs1_; subst hs1_
          refine And.intro (fun h => by cases h) (And.intro rfl (Fit2.of (fit_loc hU rfl rfl ?_) (by omega)))
          simp only [push_cast, seval, ↓reduceIte, cast_lit, hN0, hN]
      rcases z42 with z42 | z42
      · dsimp only [SumJ] at hw h
        refine W_blockR hw ?_
        try simp only [gthen, gblock, ↓reduceIte, Nat.reduceEqDiff]
        have h := Option.some.inj h; subst h
        refine fin_loc (.inr rfl) hU [.val (.bool false)] (by omega) ?_
        simp only [push_cast, seval, ↓reduceIte, cast_lit, Try.results9, hN0, hN]
      · dsimp only [SumJ] at hw h
        refine W_blockX hw ?_
        try simp only [gthen, gblock, ↓reduceIte, Nat.reduceEqDiff]
        refine W_fit ⟨78, [], [(1, .ref n 0)]⟩ (Loc O n [some ⟨false, 53, 11, 1, [.val (.int .i64 a0.Kind), .val (.int .i64 a0.Old.Kind), .sl a0.Old.Words.length (fl (eI .u64) a0.Old.Words), .sl a0.Old.Kids.length (fl e_S_api_Tree a0.Old.Kids), .val (.int .i64 a0.New.Kind), .sl a0.New.Words.length (fl (eI .u64) a0.New.Words), .sl a0.New.Kids.length (fl e_S_api_Tree a0.New.Kids), .sl a0.Words.length (fl e_S_api_WordEdit a0.Words), .sl a0.Kids.length (fl e_S_api_KidEdit a0.Kids), .val (.int .i64 a0.List_), .sl a0.Ops.length (fl e_S_api_Op a0.Ops)]⟩]) (fit_loc hU rfl rfl ?_) ?_
        · simp only [push_cast, seval, ↓reduceIte, cast_lit, hN0, hN]
        obtain ⟨z45, hz45, h⟩ := bC h
        refine W_seqN (E' := ⟨78, [], [(2, .val (.bool z45))]⟩) (O' := (Loc O n [none])) (n0 := (n + 1)) ?_ ?_
        · obtain ⟨y46, hy46, hz45⟩ := bC hz45
          rcases Bool.eq_false_or_eq_true (decide (1 ≤ y46)) with c48 | c48
          · replace hz45 := condT c48 hz45
            obtain ⟨y47, hy47, hz45⟩ := bC hz45
            refine W_regionD tab_ok [some true] ?_
            simp only [push_cast, seval, ↓reduceIte, cast_lit, c48, hN0, hN]
            refine (ok_edit_Count hy46).then ?_
            simp only [push_cast, seval, ↓reduceIte, cast_lit, c48, hN0, hN]
            refine (ok_centolaw20_awake hy47).then ?_
            simp only [push_cast, seval, ↓reduceIte, cast_lit, c48, hN0, hN]
            have hz45 := Option.some.inj hz45; subst hz45
            refine And.intro rfl (Fit2.of (fit_loc hU rfl rfl ?_) (by omega))
            simp only [push_cast, seval, ↓reduceIte, cast_lit, c48, hN0, hN]
          · replace hz45 := condF c48 hz45
            refine W_regionD tab_ok [some false] ?_
            simp only [push_cast, seval, ↓reduceIte, cast_lit, c48, hN0, hN]
            refine (ok_edit_Count hy46).then ?_
            simp only [push_cast, seval, ↓reduceIte, cast_lit, c48, hN0, hN]
            have hz45 := Option.some.inj hz45; subst hz45
            refine And.intro rfl (Fit2.of (fit_loc hU rfl rfl ?_) (by omega))
            simp only [push_cast, seval, ↓reduceIte, cast_lit, c48, hN0, hN]
        refine W_ret ?_
        try simp only [gthen, gblock]
        have h := Option.some.inj h; subst h
        refine fin_loc (.inr rfl) hU [.val (.bool z45)] (by omega) ?_
        simp only [push_cast, seval, ↓reduceIte, cast_lit, Try.results9, hN0, hN]

end Go.Proofs.Ytjeolggpgclgkaa
