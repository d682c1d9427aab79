/- Part BM4 of this seat's mirrors: functions of the seat's program, and the plain functions that they are; each theorem bears its own conditions. -/
import Derived.Test.YtjeolggpgclgkaaBE
import Derived.Test.YtjeolggpgclgkaaBM3
namespace Go.Proofs.Ytjeolggpgclgkaa
open Go.RowKit
set_option linter.unusedVariables false
set_option linter.unusedSimpArgs false
set_option maxRecDepth 100000
set_option maxHeartbeats 1000000
attribute [local push_cast] gfork_t gfork_f pfork_t pfork_f gthen gblock gops_nil gops_plain gops_guard onW gwantB gcalm gact gpick gpickV strip evS wok calmOp Op.operands Call.operands gop onK onP atK List.all_cons List.all_nil Bool.and_true Bool.true_and Bool.and_self Value.oneCell' List.take_zero List.take_succ_cons List.take_nil List.drop_zero List.drop_succ_cons List.drop_nil List.append_nil Nat.add_zero Nat.zero_add gstep gputE ev look genv gbin geqS geqF gint gunary gconvert gload gcells gpart_lit gstore gcellsOf gput gplace_lit gfieldAddr gstepIn gindexAddr gindex gfield gopt bLo bHi bMx gextract galloc gbox gbuild gfill gplaces gbuildSlice gmake glen gappend gsrc gbuiltin gnil isLive gres gone prun_nil prun_plain prun_guard pop TK.isAgg G.one G.under G.unders List.getD_cons_zero List.getD_cons_succ List.set_cons_zero List.set_cons_succ List.map_cons List.map_nil List.toList_toArray Array.toList_append Option.toArray_none Option.toArray_some Array.toList_map Option.map_some Option.map_none Option.bind_some Option.bind_none List.getElem?_cons_zero List.getElem?_cons_succ List.getElem?_nil List.nil_append List.cons_append List.replicate_succ List.replicate_zero List.length_cons List.length_nil and_true true_and and_false false_and Bool.true_eq_false Bool.false_eq_true forall_const false_implies implies_true IntKind.bits if_true if_false ite_true ite_false eq_self true_implies false_or or_false or_true true_or not_true_eq_false not_false_eq_true decide_true decide_false decide_eq_true_eq decide_eq_false_iff_not beq_iff_eq bne_iff_ne ne_eq Bool.not_eq_true Bool.not_eq_false beq_eq_false_iff_ne bne_eq_false_iff_eq beq_self_eq_true bne_self_eq_false Option.some.injEq exists_eq_left' exists_eq_left ge_iff_le gt_iff_lt decide_not Bool.not_true Bool.not_false imp_self gquiet cond_true cond_false beqT beqF Bool.not_not Bool.and_false Bool.false_and Bool.or_true Bool.true_or Bool.or_false Bool.false_or Loc_at Loc_at0 Loc_upd Loc_upd0 Loc_push Loc_push0 Option.join_some Nat.add_assoc Int.toNat_natCast eI eB eS eL fl_nil gopsD_nil gopsD_plain gopsD_t gopsD_f gopsD_n onKD onWD prunD_nil prunD_plain prunD_t prunD_f prunD_n onPD fitO fitO1 sameO fitL fl_append fl_one List.length_append G.agg.injEq G.row.injEq G.ref.injEq G.val.injEq G.sl.injEq G.tup.injEq Value.int.injEq Value.bool.injEq Value.string.injEq List.cons.injEq exists_and_left exists_const List.flatten_cons List.flatten_nil Int.le_refl Nat.le_refl upd_updU Loc_out Loc_updo Bool.not_eq_true' Bool.not_eq_false' wkl_nil wkl_cons wk_any wk_val wk_agg wk_tup wk_sl wk_fn List.size_toArray renO renO1 G.ren G.rens renL rho_at rho_at0 gP_none gP_some strip_gP wok_gP one_gP G.fn.injEq wk_slnil wk_slrow wk_slrs wk_ip wk_ipref wk_row wk_rs wk_rp wk_ref locLt0 locLt Option.join_none upd_same fl_cons undef keepL Arr.len Arr.put_eq prunB_nil prunB_bar prunB_bart prunB_plain prunB_t prunB_f prunB_n onB onBP gcopy setI_len Loc_cat0 Loc_cat1 Loc_cat2 Loc_cat3 Loc_cat4 Loc_cat5 noObjs_at tab2 tkind2 tab3 tkind3 tab4 tkind4 tab5 tkind5 tab6 tkind6 tab7 tkind7 tab8 tkind8 tab9 tkind9 tab10 tkind10 tab11 tkind11 tab12 tkind12 tab13 tkind13 tab14 tkind14 tab15 tkind15 tab16 tkind16 tab17 tkind17 tab18 tkind18 tab19 tkind19 tab21 tkind21 tab22 tkind22 tab23 tkind23 tab24 tkind24 tab25 tkind25 tab33 tkind33 tab35 tkind35 tab40 tkind40 tab42 tkind42 tab43 tkind43 tab49 tkind49 tab50 tkind50 tab51 tkind51 tab52 tkind52 tab53 tkind53 tab60 tkind60 tab61 tkind61 tab62 tkind62 tab63 tkind63 tab71 tkind71 tab77 tkind77 tab78 tkind78 tab85 tkind85 tab86 tkind86 tab95 tkind95 tab97 tkind97 tab98 tkind98 tab99 tkind99 tab110 tkind110 tab111 tkind111 tab114 tkind114 tab116 tkind116 tab117 tkind117 tab125 tkind125 tab129 tkind129 tab131 tkind131 tab133 tkind133 tab134 tkind134 tab144 tkind144 tab148 tkind148 tab151 tkind151 tab158 tkind158 tab160 tkind160 tab161 tkind161 tab165 tkind165 tab167 tkind167 tab170 tkind170 tab171 tkind171 tab175 tkind175 tab176 tkind176 tab178 tkind178 tab179 tkind179 tab180 tkind180 e_S_api_Tree e0_eq_S_api_Tree wkl_eI_u64 wka_eI_u64 len_eI_u64 one_eI_u64 wkp_eI_u64 undp_eI_u64 rens_eI_u64 renp_eI_u64 und_eI_u64 wkl_e_S_api_Tree wka_e_S_api_Tree len_e_S_api_Tree one_e_S_api_Tree wkp_e_S_api_Tree undp_e_S_api_Tree rens_e_S_api_Tree renp_e_S_api_Tree und_e_S_api_Tree e_S_api_WordEdit e_S_api_Edit e_S_api_KidEdit e_S_api_Op e0_eq_S_api_Edit e0_eq_S_api_KidEdit e0_eq_S_api_Op wkl_e_S_api_WordEdit wka_e_S_api_WordEdit len_e_S_api_WordEdit one_e_S_api_WordEdit wkp_e_S_api_WordEdit undp_e_S_api_WordEdit rens_e_S_api_WordEdit renp_e_S_api_WordEdit und_e_S_api_WordEdit wkl_e_S_api_KidEdit wka_e_S_api_KidEdit len_e_S_api_KidEdit one_e_S_api_KidEdit wkp_e_S_api_KidEdit undp_e_S_api_KidEdit rens_e_S_api_KidEdit renp_e_S_api_KidEdit und_e_S_api_KidEdit wkl_e_S_api_Op wka_e_S_api_Op len_e_S_api_Op one_e_S_api_Op wkp_e_S_api_Op undp_e_S_api_Op rens_e_S_api_Op renp_e_S_api_Op und_e_S_api_Op wkl_eI_i64 wka_eI_i64 len_eI_i64 one_eI_i64 wkp_eI_i64 undp_eI_i64 rens_eI_i64 renp_eI_i64 und_eI_i64 wkl_eI_u8 wka_eI_u8 len_eI_u8 one_eI_u8 wkp_eI_u8 undp_eI_u8 rens_eI_u8 renp_eI_u8 und_eI_u8
theorem okb_centoref20_Right {r_centoref20_Right : (S_api_Edit → Int → Option Bool)} {r_centoref20_op : (Int → S_api_Op → Int → Option Bool)} (ok_r_centoref20_Right : ∀ {a0 : S_api_Edit} {a1 : Int} {r : Bool} {O : Objs} {n : Nat}, r_centoref20_Right a0 a1 = some r → GTo Try.prog 45 [.agg [.val (.int .i64 a0.Kind), .val (.int .i64 a0.Old.Kind), .sl a0.Old.Words.length (fl (eI .u64) a0.Old.Words), .sl a0.Old.Kids.length (fl e_S_api_Tree a0.Old.Kids), .val (.int .i64 a0.New.Kind), .sl a0.New.Words.length (fl (eI .u64) a0.New.Words), .sl a0.New.Kids.length (fl e_S_api_Tree a0.New.Kids), .sl a0.Words.length (fl e_S_api_WordEdit a0.Words), .sl a0.Kids.length (fl e_S_api_KidEdit a0.Kids), .val (.int .i64 a0.List_), .sl a0.Ops.length (fl e_S_api_Op a0.Ops)], .val (.int .i64 a1)] O n (.val (.bool r)) O n) (ok_r_centoref20_op : ∀ {a0 : Int} {a1 : S_api_Op} {a2 : Int} {r : Bool} {O : Objs} {n : Nat}, r_centoref20_op a0 a1 a2 = some r → GTo Try.prog 77 [.val (.int .i64 a0), .agg [.val (.int .i64 a1.Kind), .val (.int .i64 a1.N), .sl a1.L.length (fl e_S_api_Tree a1.L), .val (.int .i64 a1.E.Kind), .val (.int .i64 a1.E.Old.Kind), .sl a1.E.Old.Words.length (fl (eI .u64) a1.E.Old.Words), .sl a1.E.Old.Kids.length (fl e_S_api_Tree a1.E.Old.Kids), .val (.int .i64 a1.E.New.Kind), .sl a1.E.New.Words.length (fl (eI .u64) a1.E.New.Words), .sl a1.E.New.Kids.length (fl e_S_api_Tree a1.E.New.Kids), .sl a1.E.Words.length (fl e_S_api_WordEdit a1.E.Words), .sl a1.E.Kids.length (fl e_S_api_KidEdit a1.E.Kids), .val (.int .i64 a1.E.List_), .sl a1.E.Ops.length (fl e_S_api_Op a1.E.Ops)], .val (.int .i64 a2)] O n (.val (.bool r)) O n) {a0 : S_api_Edit} {a1 : Int} {r : Bool} {O : Objs} {n : Nat} (h : b_centoref20_Right r_centoref20_Right r_centoref20_op a0 a1 = some r) : GTo Try.prog 45 [.agg [.val (.int .i64 a0.Kind), .val (.int .i64 a0.Old.Kind), .sl a0.Old.Words.length (fl (eI .u64) a0.Old.Words), .sl a0.Old.Kids.length (fl e_S_api_Tree a0.Old.Kids), .val (.int .i64 a0.New.Kind), .sl a0.New.Words.length (fl (eI .u64) a0.New.Words), .sl a0.New.Kids.length (fl e_S_api_Tree a0.New.Kids), .sl a0.Words.length (fl e_S_api_WordEdit a0.Words), .sl a0.Kids.length (fl e_S_api_KidEdit a0.Kids), .val (.int .i64 a0.List_), .sl a0.Ops.length (fl e_S_api_Op a0.Ops)], .val (.int .i64 a1)] O n (.val (.bool r)) O n := by
  unfold b_centoref20_Right at h
  refine fn_of tab_ok Try.call45 Try.func45 rfl (Nat.le_of_ble_eq_true rfl) (Nat.le_refl _) fun hU => ?_
  have hN0 : O n = none := hU.fresh _ (Nat.le_refl _)
  have hN : ∀ k, O (n + k) = none := fun k => hU.fresh _ (Nat.le_add_right _ _)
  show W _ _ _ _ ⟨216, [], [(0, .agg [.val (.int .i64 a0.Kind), .val (.int .i64 a0.Old.Kind), .sl a0.Old.Words.length (fl (eI .u64) a0.Old.Words), .sl a0.Old.Kids.length (fl e_S_api_Tree a0.Old.Kids), .val (.int .i64 a0.New.Kind), .sl a0.New.Words.length (fl (eI .u64) a0.New.Words), .sl a0.New.Kids.length (fl e_S_api_Tree a0.New.Kids), .sl a0.Words.length (fl e_S_api_WordEdit a0.Words), .sl a0.Kids.length (fl e_S_api_KidEdit a0.Kids), .val (.int .i64 a0.List_), .sl a0.Ops.length (fl e_S_api_Op a0.Ops)]), (1, .val (.int .i64 a1))]⟩ (Loc O n []) _
  refine W_sq [1, 2] (W_regionD tab_ok [] ?_)
  simp only [push_cast, seval, ↓reduceIte, cast_lit, hN0, hN]
  refine W_seqK ?_
  refine W_sq [1, 2, 24] (W_regionD tab_ok [none, none, none, none, none, none] ?_)
  simp only [push_cast, seval, ↓reduceIte, cast_lit, hN0, hN]
  repeat (with_reducible refine And.intro (by first | (intro h0; simp only [h0, and_self]; done) | (intro h0; simp only [h0, Bool.not_false, Bool.not_true, Bool.true_and, Bool.and_true, true_and, and_true, and_self, imp_self, implies_true, bne_iff_ne, ne_eq, beq_iff_eq]; done) | (intros; simp_all; done) | exact True.intro) ?_)
  refine W_cond (t := (cond (cond (a1 == 0) true (decide (a0.Kind < 0))) true (decide (3 < a0.Kind)))) rfl (fun c51 => ?_) (fun c51 => ?_)
  · replace h := condT c51 h
    refine W_sq [4] (W_regionD tab_ok [] ?_)
    simp only [push_cast, seval, ↓reduceIte, cast_lit, hN0, hN]
    refine W_ret ?_
    try simp only [gthen, gblock]
    have h := Option.some.inj h; subst h
    refine fin_loc (.inr rfl) hU [.val (.bool false)] (by omega) ?_
    simp only [push_cast, seval, ↓reduceIte, cast_lit, Try.results45, hN0, hN]
  · replace h := condF c51 h
    refine W_skip ?_
    try simp only [gthen, gblock]
    refine W_fit ⟨216, [], [(1, .val (.int .i64 a1)), (2, .ref n 0)]⟩ (Loc O n [some ⟨false, 53, 11, 1, [.val (.int .i64 a0.Kind), .val (.int .i64 a0.Old.Kind), .sl a0.Old.Words.length (fl (eI .u64) a0.Old.Words), .sl a0.Old.Kids.length (fl e_S_api_Tree a0.Old.Kids), .val (.int .i64 a0.New.Kind), .sl a0.New.Words.length (fl (eI .u64) a0.New.Words), .sl a0.New.Kids.length (fl e_S_api_Tree a0.New.Kids), .sl a0.Words.length (fl e_S_api_WordEdit a0.Words), .sl a0.Kids.length (fl e_S_api_KidEdit a0.Kids), .val (.int .i64 a0.List_), .sl a0.Ops.length (fl e_S_api_Op a0.Ops)]⟩]) (fit_loc hU rfl rfl ?_) ?_
    · simp only [push_cast, seval, ↓reduceIte, cast_lit, hN0, hN]
    refine W_seqK ?_
    obtain ⟨z3, hz3, h⟩ := bC h
    refine W_seqN (E' := ⟨216, [], [(1, .val (.int .i64 a1)), (2, .ref n 0), (69, .val (.bool z3))]⟩) (O' := (Loc O n [some ⟨false, 53, 11, 1, [.val (.int .i64 a0.Kind), .val (.int .i64 a0.Old.Kind), .sl a0.Old.Words.length (fl (eI .u64) a0.Old.Words), .sl a0.Old.Kids.length (fl e_S_api_Tree a0.Old.Kids), .val (.int .i64 a0.New.Kind), .sl a0.New.Words.length (fl (eI .u64) a0.New.Words), .sl a0.New.Kids.length (fl e_S_api_Tree a0.New.Kids), .sl a0.Words.length (fl e_S_api_WordEdit a0.Words), .sl a0.Kids.length (fl e_S_api_KidEdit a0.Kids), .val (.int .i64 a0.List_), .sl a0.Ops.length (fl e_S_api_Op a0.Ops)]⟩])) (n0 := (n + 1)) ?_ ?_
    · rcases Bool.eq_false_or_eq_true (a0.Kind != 1) with c6 | c6
      · replace hz3 := condT c6 hz3
        obtain ⟨y4, hy4, hz3⟩ := bC hz3
        rcases Bool.eq_false_or_eq_true y4 with c7 | c7
        · replace hz3 := condT c7 hz3
          try rw [c7] at c6
          obtain ⟨y5, hy5, hz3⟩ := bC hz3
          refine W_regionD tab_ok [some true, some true, some true, some true, some true, some true, some true, some true, some true, none, none, none, none, none, none, none, none, none, none, none, none, none, none, none, none, none, none, none, none, none, none, none, none, none, none, none] ?_
          simp only [push_cast, seval, ↓reduceIte, cast_lit, c6, c7, hN0, hN]
          repeat (with_reducible refine And.intro (by first | (intro h0; simp only [h0, and_self]; done) | (intro h0; simp only [h0, Bool.not_false, Bool.not_true, Bool.true_and, Bool.and_true, true_and, and_true, and_self, imp_self, implies_true, bne_iff_ne, ne_eq, beq_iff_eq]; done) | (intros; simp_all; done) | exact True.intro) ?_)
          refine (ok_centoref20_none hy4).then ?_
          simp only [push_cast, seval, ↓reduceIte, cast_lit, c6, c7, hN0, hN]
          repeat (with_reducible refine And.intro (by first | (intro h0; simp only [h0, and_self]; done) | (intro h0; simp only [h0, Bool.not_false, Bool.not_true, Bool.true_and, Bool.and_true, true_and, and_true, and_self, imp_self, implies_true, bne_iff_ne, ne_eq, beq_iff_eq]; done) | (intros; simp_all; done) | exact True.intro) ?_)
          refine (ok_centoref20_none hy5).then ?_
          simp only [push_cast, seval, ↓reduceIte, cast_lit, c6, c7, hN0, hN]
          repeat (with_reducible refine And.intro (by first | (intro h0; simp only [h0, and_self]; done) | (intro h0; simp only [h0, Bool.not_false, Bool.not_true, Bool.true_and, Bool.and_true, true_and, and_true, and_self, imp_self, implies_true, bne_iff_ne, ne_eq, beq_iff_eq]; done) | (intros; simp_all; done) | exact True.intro) ?_)
          have hz3 := Option.some.inj hz3; subst hz3
          refine And.intro rfl (Fit2.of (fit_loc hU rfl rfl ?_) (by omega))
          simp only [push_cast, seval, ↓reduceIte, cast_lit, c6, c7, hN0, hN]
        · replace hz3 := condF c7 hz3
          try rw [c7] at c6
          refine W_regionD tab_ok [some true, some true, some true, some true, some false, some false, some false, some true, some true, some false, some false, some false, some false, some false, some false, some false, some false, some false, some false, some false, some false, some false, some false, some false, some false, some false, some false, some false, some false, some false, some false, some false, some false, some false, some false, some false] ?_
          simp only [push_cast, seval, ↓reduceIte, cast_lit, c6, c7, hN0, hN]
          refine (ok_centoref20_none hy4).then ?_
          simp only [push_cast, seval, ↓reduceIte, cast_lit, c6, c7, hN0, hN]
          have hz3 := Option.some.inj hz3; subst hz3
          refine And.intro rfl (Fit2.of (fit_loc hU rfl rfl ?_) (by omega))
          simp only [push_cast, seval, ↓reduceIte, cast_lit, c6, c7, hN0, hN]
      · replace hz3 := condF c6 hz3
        refine W_regionD tab_ok [some false, some false, some false, some false, some false, some false, some false, some false, some false, some true, some true, some true, some true, none, none, none, none, none, none, none, none, some true, none, none, none, none, none, none, none, none, none, none, none, none, none, none] ?_
        simp only [push_cast, seval, ↓reduceIte, cast_lit, c6, hN0, hN]
        repeat (with_reducible refine And.intro (by first | (intro h0; simp only [h0, and_self]; done) | (intro h0; simp only [h0, Bool.not_false, Bool.not_true, Bool.true_and, Bool.and_true, true_and, and_true, and_self, imp_self, implies_true, bne_iff_ne, ne_eq, beq_iff_eq]; done) | (intros; simp_all; done) | exact True.intro) ?_)
        have hz3 := Option.some.inj hz3; subst hz3
        refine And.intro rfl (Fit2.of (fit_loc hU rfl rfl ?_) (by omega))
        simp only [push_cast, seval, ↓reduceIte, cast_lit, c6, hN0, hN]
    refine W_cond (t := z3) rfl (fun c50 => ?_) (fun c50 => ?_)
    · replace h := condT c50 h
      refine W_sq [4] (W_regionD tab_ok [] ?_)
      simp only [push_cast, seval, ↓reduceIte, cast_lit, hN0, hN]
      refine W_ret ?_
      try simp only [gthen, gblock]
      have h := Option.some.inj h; subst h
      refine fin_loc (.inr rfl) hU [.val (.bool false)] (by omega) ?_
      simp only [push_cast, seval, ↓reduceIte, cast_lit, Try.results45, hN0, hN]
    · replace h := condF c50 h
      refine W_skip ?_
      try simp only [gthen, gblock]
      refine W_fit ⟨216, [], [(1, .val (.int .i64 a1)), (2, .ref n 0)]⟩ (Loc O n [some ⟨false, 53, 11, 1, [.val (.int .i64 a0.Kind), .val (.int .i64 a0.Old.Kind), .sl a0.Old.Words.length (fl (eI .u64) a0.Old.Words), .sl a0.Old.Kids.length (fl e_S_api_Tree a0.Old.Kids), .val (.int .i64 a0.New.Kind), .sl a0.New.Words.length (fl (eI .u64) a0.New.Words), .sl a0.New.Kids.length (fl e_S_api_Tree a0.New.Kids), .sl a0.Words.length (fl e_S_api_WordEdit a0.Words), .sl a0.Kids.length (fl e_S_api_KidEdit a0.Kids), .val (.int .i64 a0.List_), .sl a0.Ops.length (fl e_S_api_Op a0.Ops)]⟩]) (fit_loc hU rfl rfl ?_) ?_
      · simp only [push_cast, seval, ↓reduceIte, cast_lit, hN0, hN]
      refine W_seqK ?_
      refine W_sq [1, 2, 72] (W_regionD tab_ok [] ?_)
      simp only [push_cast, seval, ↓reduceIte, cast_lit, hN0, hN]
      refine W_cond (t := (a0.Kind == 1)) rfl (fun c49 => ?_) (fun c49 => ?_)
      · replace h := condT c49 h
        obtain ⟨z10, hz10, h⟩ := bC h
        refine W_seqN (E' := ⟨216, [], [(4, .val (.bool z10))]⟩) (O' := (Loc O n [none])) (n0 := (n + 1)) ?_ ?_
        · obtain ⟨y11, hy11, hz10⟩ := bC hz10
          rcases Bool.eq_false_or_eq_true y11 with c13 | c13
          · replace hz10 := condT c13 hz10
            obtain ⟨y12, hy12, hz10⟩ := bC hz10
            refine W_regionD tab_ok [some true, some true, some true, none, none, none, none, none, none, none, none] ?_
            simp only [push_cast, seval, ↓reduceIte, cast_lit, c13, hN0, hN]
            repeat (with_reducible refine And.intro (by first | (intro h0; simp only [h0, and_self]; done) | (intro h0; simp only [h0, Bool.not_false, Bool.not_true, Bool.true_and, Bool.and_true, true_and, and_true, and_self, imp_self, implies_true, bne_iff_ne, ne_eq, beq_iff_eq]; done) | (intros; simp_all; done) | exact True.intro) ?_)
            refine (ok_centoref07_Right hy11).then ?_
            simp only [push_cast, seval, ↓reduceIte, cast_lit, c13, hN0, hN]
            repeat (with_reducible refine And.intro (by first | (intro h0; simp only [h0, and_self]; done) | (intro h0; simp only [h0, Bool.not_false, Bool.not_true, Bool.true_and, Bool.and_true, true_and, and_true, and_self, imp_self, implies_true, bne_iff_ne, ne_eq, beq_iff_eq]; done) | (intros; simp_all; done) | exact True.intro) ?_)
            refine (ok_centoref07_Right hy12).then ?_
            simp only [push_cast, seval, ↓reduceIte, cast_lit, c13, hN0, hN]
            repeat (with_reducible refine And.intro (by first | (intro h0; simp only [h0, and_self]; done) | (intro h0; simp only [h0, Bool.not_false, Bool.not_true, Bool.true_and, Bool.and_true, true_and, and_true, and_self, imp_self, implies_true, bne_iff_ne, ne_eq, beq_iff_eq]; done) | (intros; simp_all; done) | exact True.intro) ?_)
            have hz10 := Option.some.inj hz10; subst hz10
            refine And.intro rfl (Fit2.of (fit_loc hU rfl rfl ?_) (by omega))
            simp only [push_cast, seval, ↓reduceIte, cast_lit, c13, hN0, hN]
          · replace hz10 := condF c13 hz10
            refine W_regionD tab_ok [some false, some false, some false, some false, some false, some false, some false, some false, some false, some false, some false] ?_
            simp only [push_cast, seval, ↓reduceIte, cast_lit, c13, hN0, hN]
            refine (ok_centoref07_Right hy11).then ?_
            simp only [push_cast, seval, ↓reduceIte, cast_lit, c13, hN0, hN]
            have hz10 := Option.some.inj hz10; subst hz10
            refine And.intro rfl (Fit2.of (fit_loc hU rfl rfl ?_) (by omega))
            simp only [push_cast, seval, ↓reduceIte, cast_lit, c13, hN0, hN]
        refine W_ret ?_
        try simp only [gthen, gblock]
        have h := Option.some.inj h; subst h
        refine fin_loc (.inr rfl) hU [.val (.bool z10)] (by omega) ?_
        simp only [push_cast, seval, ↓reduceIte, cast_lit, Try.results45, hN0, hN]
      · replace h := condF c49 h
        refine W_skip ?_
        try simp only [gthen, gblock]
        refine W_fit ⟨216, [], [(1, .val (.int .i64 a1)), (2, .ref n 0)]⟩ (Loc O n [some ⟨false, 53, 11, 1, [.val (.int .i64 a0.Kind), .val (.int .i64 a0.Old.Kind), .sl a0.Old.Words.length (fl (eI .u64) a0.Old.Words), .sl a0.Old.Kids.length (fl e_S_api_Tree a0.Old.Kids), .val (.int .i64 a0.New.Kind), .sl a0.New.Words.length (fl (eI .u64) a0.New.Words), .sl a0.New.Kids.length (fl e_S_api_Tree a0.New.Kids), .sl a0.Words.length (fl e_S_api_WordEdit a0.Words), .sl a0.Kids.length (fl e_S_api_KidEdit a0.Kids), .val (.int .i64 a0.List_), .sl a0.Ops.length (fl e_S_api_Op a0.Ops)]⟩]) (fit_loc hU rfl rfl ?_) ?_
        · simp only [push_cast, seval, ↓reduceIte, cast_lit, hN0, hN]
        refine W_sq [1, 2, 5] (W_regionD tab_ok [] ?_)
        simp only [push_cast, seval, ↓reduceIte, cast_lit, hN0, hN]
        refine W_seqK ?_
        refine W_sq [1, 2, 5, 6] (W_regionD tab_ok [] ?_)
        simp only [push_cast, seval, ↓reduceIte, cast_lit, hN0, hN]
        refine W_fit ⟨216, [], [(1, .val (.int .i64 a1)), (2, .ref n 0), (5, .val (.int .i64 (-1))), (6, .val (.int .i64 0))]⟩ (Loc O n [some ⟨false, 53, 11, 1, [.val (.int .i64 a0.Kind), .val (.int .i64 a0.Old.Kind), .sl a0.Old.Words.length (fl (eI .u64) a0.Old.Words), .sl a0.Old.Kids.length (fl e_S_api_Tree a0.Old.Kids), .val (.int .i64 a0.New.Kind), .sl a0.New.Words.length (fl (eI .u64) a0.New.Words), .sl a0.New.Kids.length (fl e_S_api_Tree a0.New.Kids), .sl a0.Words.length (fl e_S_api_WordEdit a0.Words), .sl a0.Kids.length (fl e_S_api_KidEdit a0.Kids), .val (.int .i64 a0.List_), .sl a0.Ops.length (fl e_S_api_Op a0.Ops)]⟩]) (fit_loc hU rfl rfl ?_) ?_
        · simp only [push_cast, seval, ↓reduceIte, cast_lit, hN0, hN]
        obtain ⟨z27, hz27, h⟩ := bC h
        refine W_sumB (J := (SumJ (fun z27 => JR n (⟨216, [], [(4, .val (.bool false))]⟩ : Env) (Loc O n [none]) (n + 1)) (fun z27 => JX 0 n (⟨216, [], [(1, .val (.int .i64 a1)), (2, .ref n 0)]⟩ : Env) (Loc O n [some ⟨false, 53, 11, 1, [.val (.int .i64 a0.Kind), .val (.int .i64 a0.Old.Kind), .sl a0.Old.Words.length (fl (eI .u64) a0.Old.Words), .sl a0.Old.Kids.length (fl e_S_api_Tree a0.Old.Kids), .val (.int .i64 a0.New.Kind), .sl a0.New.Words.length (fl (eI .u64) a0.New.Words), .sl a0.New.Kids.length (fl e_S_api_Tree a0.New.Kids), .sl a0.Words.length (fl e_S_api_WordEdit a0.Words), .sl a0.Kids.length (fl e_S_api_KidEdit a0.Kids), .val (.int .i64 a0.List_), .sl a0.Ops.length (fl e_S_api_Op a0.Ops)]⟩]) (n + 1)))) (z := z27) ?_ fun hw => ?_
        · refine W_loopJ hz27 (fun s0_ => ⟨216, [], [(1, .val (.int .i64 a1)), (2, .ref n 0), (5, .val (.int .i64 s0_.1)), (6, .val (.int .i64 s0_.2))]⟩) (fun s0_ => (Loc O n [some ⟨false, 53, 11, 1, [.val (.int .i64 a0.Kind), .val (.int .i64 a0.Old.Kind), .sl a0.Old.Words.length (fl (eI .u64) a0.Old.Words), .sl a0.Old.Kids.length (fl e_S_api_Tree a0.Old.Kids), .val (.int .i64 a0.New.Kind), .sl a0.New.Words.length (fl (eI .u64) a0.New.Words), .sl a0.New.Kids.length (fl e_S_api_Tree a0.New.Kids), .sl a0.Words.length (fl e_S_api_WordEdit a0.Words), .sl a0.Kids.length (fl e_S_api_KidEdit a0.Kids), .val (.int .i64 a0.List_), .sl a0.Ops.length (fl e_S_api_Op a0.Ops)]⟩])) (SumJ (fun z27 => JR n (⟨216, [], [(4, .val (.bool false))]⟩ : Env) (Loc O n [none]) (n + 1)) (fun z27 => JX 0 n (⟨216, [], [(1, .val (.int .i64 a1)), (2, .ref n 0)]⟩ : Env) (Loc O n [some ⟨false, 53, 11, 1, [.val (.int .i64 a0.Kind), .val (.int .i64 a0.Old.Kind), .sl a0.Old.Words.length (fl (eI .u64) a0.Old.Words), .sl a0.Old.Kids.length (fl e_S_api_Tree a0.Old.Kids), .val (.int .i64 a0.New.Kind), .sl a0.New.Words.length (fl (eI .u64) a0.New.Words), .sl a0.New.Kids.length (fl e_S_api_Tree a0.New.Kids), .sl a0.Words.length (fl e_S_api_WordEdit a0.Words), .sl a0.Kids.length (fl e_S_api_KidEdit a0.Kids), .val (.int .i64 a0.List_), .sl a0.Ops.length (fl e_S_api_Op a0.Ops)]⟩]) (n + 1))) ?_
          intro s0_ x0_ hs0_
          unfold b_centoref20_Right_L0 at hs0_
          try dsimp only
          refine W_seqK ?_
          refine W_sq [1, 2, 5, 6, 97] (W_regionD tab_ok [] ?_)
          simp only [push_cast, seval, ↓reduceIte, cast_lit, hN0, hN]
          refine W_cond (t := (decide (s0_.2 < (a0.Words.length : Int)))) rfl (fun c26 => ?_) (fun c26 => ?_)
          · replace hs0_ := condT c26 hs0_
            refine W_skip ?_
            try simp only [gthen, gblock]
            refine W_fit ⟨216, [], [(1, .val (.int .i64 a1)), (2, .ref n 0), (5, .val (.int .i64 s0_.1)), (6, .val (.int .i64 s0_.2))]⟩ (Loc O n [some ⟨false, 53, 11, 1, [.val (.int .i64 a0.Kind), .val (.int .i64 a0.Old.Kind), .sl a0.Old.Words.length (fl (eI .u64) a0.Old.Words), .sl a0.Old.Kids.length (fl e_S_api_Tree a0.Old.Kids), .val (.int .i64 a0.New.Kind), .sl a0.New.Words.length (fl (eI .u64) a0.New.Words), .sl a0.New.Kids.length (fl e_S_api_Tree a0.New.Kids), .sl a0.Words.length (fl e_S_api_WordEdit a0.Words), .sl a0.Kids.length (fl e_S_api_KidEdit a0.Kids), .val (.int .i64 a0.List_), .sl a0.Ops.length (fl e_S_api_Op a0.Ops)]⟩]) (fit_loc hU rfl rfl ?_) ?_
            · simp only [push_cast, seval, ↓reduceIte, cast_lit, hN0, hN]
            refine W_seqK ?_
            refine W_block ?_
            refine W_seqK ?_
            obtain ⟨x15, hx15, ax15, bx15, cx15, hs0_⟩ := bE (f := e_S_api_WordEdit) tab86 (fun _ => rfl) (by decide) hs0_
            refine W_regionD tab_ok [] ?_
            simp only [push_cast, Nat.reduceAdd, Nat.reduceSub, Nat.reduceMul, Nat.reduceLeDiff, Nat.reduceLT, Nat.reduceEqDiff, ↓reduceIte, reduceCtorEq, Int.reduceBEq, Int.reduceBNe, Nat.reduceBEq, Int.reduceLE, Int.reduceLT, Int.reduceEq, Int.reduceNe, Int.reduceNeg, Nat.reduceDiv, Nat.reduceMod, Nat.reducePow, cast_lit, ax15, bx15, cx15, hN0, hN]
            refine W_fit ⟨216, [], [(1, .val (.int .i64 a1)), (2, .ref n 0), (5, .val (.int .i64 s0_.1)), (6, .val (.int .i64 s0_.2)), (7, .ref (n + 1) 0)]⟩ (Loc O n [some ⟨false, 53, 11, 1, [.val (.int .i64 a0.Kind), .val (.int .i64 a0.Old.Kind), .sl a0.Old.Words.length (fl (eI .u64) a0.Old.Words), .sl a0.Old.Kids.length (fl e_S_api_Tree a0.Old.Kids), .val (.int .i64 a0.New.Kind), .sl a0.New.Words.length (fl (eI .u64) a0.New.Words), .sl a0.New.Kids.length (fl e_S_api_Tree a0.New.Kids), .sl a0.Words.length (fl e_S_api_WordEdit a0.Words), .sl a0.Kids.length (fl e_S_api_KidEdit a0.Kids), .val (.int .i64 a0.List_), .sl a0.Ops.length (fl e_S_api_Op a0.Ops)]⟩, some ⟨false, 86, 4, 1, [.val (.int .i64 x15.At), .val (.int .u8 x15.Mask), .val (.int .u64 x15.Old), .val (.int .u64 x15.New)]⟩]) (fit_loc hU rfl rfl ?_) ?_
            · simp only [push_cast, Nat.reduceAdd, Nat.reduceSub, Nat.reduceMul, Nat.reduceLeDiff, Nat.reduceLT, Nat.reduceEqDiff, ↓reduceIte, reduceCtorEq, Int.reduceBEq, Int.reduceBNe, Nat.reduceBEq, Int.reduceLE, Int.reduceLT, Int.reduceEq, Int.reduceNe, Int.reduceNeg, Nat.reduceDiv, Nat.reduceMod, Nat.reducePow, cast_lit, ax15, bx15, cx15, hN0, hN]
            refine W_seqK ?_
            obtain ⟨z18, hz18, hs0_⟩ := bC hs0_
            refine W_seqN (E' := ⟨216, [], [(1, .val (.int .i64 a1)), (2, .ref n 0), (6, .val (.int .i64 s0_.2)), (7, .ref (n + 1) 0), (134, .val (.bool z18))]⟩) (O' := (Loc O n [some ⟨false, 53, 11, 1, [.val (.int .i64 a0.Kind), .val (.int .i64 a0.Old.Kind), .sl a0.Old.Words.length (fl (eI .u64) a0.Old.Words), .sl a0.Old.Kids.length (fl e_S_api_Tree a0.Old.Kids), .val (.int .i64 a0.New.Kind), .sl a0.New.Words.length (fl (eI .u64) a0.New.Words), .sl a0.New.Kids.length (fl e_S_api_Tree a0.New.Kids), .sl a0.Words.length (fl e_S_api_WordEdit a0.Words), .sl a0.Kids.length (fl e_S_api_KidEdit a0.Kids), .val (.int .i64 a0.List_), .sl a0.Ops.length (fl e_S_api_Op a0.Ops)]⟩, some ⟨false, 86, 4, 1, [.val (.int .i64 x15.At), .val (.int .u8 x15.Mask), .val (.int .u64 x15.Old), .val (.int .u64 x15.New)]⟩])) (n0 := (n + 2)) ?_ ?_
            · rcases Bool.eq_false_or_eq_true (decide (x15.At ≤ s0_.1)) with c21 | c21
              · replace hz18 := condT c21 hz18
                refine W_regionD tab_ok [none, none, none, none, none, none, some false, some false, some false, some false, some false, some false, some false, some false, some false, some false, some false, some false] ?_
                simp only [push_cast, seval, ↓reduceIte, cast_lit, c21, hN0, hN]
                repeat (with_reducible refine And.intro (by first | (intro h0; simp only [h0, and_self]; done) | (intro h0; simp only [h0, Bool.not_false, Bool.not_true, Bool.true_and, Bool.and_true, true_and, and_true, and_self, imp_self, implies_true, bne_iff_ne, ne_eq, beq_iff_eq]; done) | (intros; simp_all; done) | exact True.intro) ?_)
                have hz18 := Option.some.inj hz18; subst hz18
                refine And.intro rfl (Fit2.of (fit_loc hU rfl rfl ?_) (by omega))
                simp only [push_cast, seval, ↓reduceIte, cast_lit, c21, hN0, hN]
              · replace hz18 := condF c21 hz18
                rcases Bool.eq_false_or_eq_true (decide (65534 < x15.At)) with c22 | c22
                · replace hz18 := condT c22 hz18
                  try rw [c22] at c21
                  refine W_regionD tab_ok [none, none, none, none, none, none, some false, some false, some false, some false, some false, some false, some false, some false, some false, some false, some false, some false] ?_
                  simp only [push_cast, seval, ↓reduceIte, cast_lit, c21, c22, hN0, hN]
                  repeat (with_reducible refine And.intro (by first | (intro h0; simp only [h0, and_self]; done) | (intro h0; simp only [h0, Bool.not_false, Bool.not_true, Bool.true_and, Bool.and_true, true_and, and_true, and_self, imp_self, implies_true, bne_iff_ne, ne_eq, beq_iff_eq]; done) | (intros; simp_all; done) | exact True.intro) ?_)
                  have hz18 := Option.some.inj hz18; subst hz18
                  refine And.intro rfl (Fit2.of (fit_loc hU rfl rfl ?_) (by omega))
                  simp only [push_cast, seval, ↓reduceIte, cast_lit, c21, c22, hN0, hN]
                · replace hz18 := condF c22 hz18
                  try rw [c22] at c21
                  rcases Bool.eq_false_or_eq_true (x15.Mask == 0) with c23 | c23
                  · replace hz18 := condT c23 hz18
                    try rw [c23] at c21
                    try rw [c23] at c22
                    refine W_regionD tab_ok [none, none, none, none, none, none, some false, some false, some false, some false, some false, some false, some false, some false, some false, some false, some false, some false] ?_
                    simp only [push_cast, seval, ↓reduceIte, cast_lit, c21, c22, c23, hN0, hN]
                    repeat (with_reducible refine And.intro (by first | (intro h0; simp only [h0, and_self]; done) | (intro h0; simp only [h0, Bool.not_false, Bool.not_true, Bool.true_and, Bool.and_true, true_and, and_true, and_self, imp_self, implies_true, bne_iff_ne, ne_eq, beq_iff_eq]; done) | (intros; simp_all; done) | exact True.intro) ?_)
                    have hz18 := Option.some.inj hz18; subst hz18
                    refine And.intro rfl (Fit2.of (fit_loc hU rfl rfl ?_) (by omega))
                    simp only [push_cast, seval, ↓reduceIte, cast_lit, c21, c22, c23, hN0, hN]
                  · replace hz18 := condF c23 hz18
                    try rw [c23] at c21
                    try rw [c23] at c22
                    obtain ⟨y19, hy19, hz18⟩ := bC hz18
                    rcases Bool.eq_false_or_eq_true y19 with c24 | c24
                    · replace hz18 := condT c24 hz18
                      try rw [c24] at c21
                      try rw [c24] at c22
                      try rw [c24] at c23
                      obtain ⟨y20, hy20, hz18⟩ := bC hz18
                      refine W_regionD tab_ok [none, none, none, none, none, none, some true, some true, some true, some true, some true, some true, some true, some true, some true, some true, some true, some true] ?_
                      simp only [push_cast, seval, ↓reduceIte, cast_lit, c21, c22, c23, c24, hN0, hN]
                      repeat (with_reducible refine And.intro (by first | (intro h0; simp only [h0, and_self]; done) | (intro h0; simp only [h0, Bool.not_false, Bool.not_true, Bool.true_and, Bool.and_true, true_and, and_true, and_self, imp_self, implies_true, bne_iff_ne, ne_eq, beq_iff_eq]; done) | (intros; simp_all; done) | exact True.intro) ?_)
                      refine (ok_centoref20_within hy19).then ?_
                      simp only [push_cast, seval, ↓reduceIte, cast_lit, c21, c22, c23, c24, hN0, hN]
                      repeat (with_reducible refine And.intro (by first | (intro h0; simp only [h0, and_self]; done) | (intro h0; simp only [h0, Bool.not_false, Bool.not_true, Bool.true_and, Bool.and_true, true_and, and_true, and_self, imp_self, implies_true, bne_iff_ne, ne_eq, beq_iff_eq]; done) | (intros; simp_all; done) | exact True.intro) ?_)
                      refine (ok_centoref20_within hy20).then ?_
                      simp only [push_cast, seval, ↓reduceIte, cast_lit, c21, c22, c23, c24, hN0, hN]
                      repeat (with_reducible refine And.intro (by first | (intro h0; simp only [h0, and_self]; done) | (intro h0; simp only [h0, Bool.not_false, Bool.not_true, Bool.true_and, Bool.and_true, true_and, and_true, and_self, imp_self, implies_true, bne_iff_ne, ne_eq, beq_iff_eq]; done) | (intros; simp_all; done) | exact True.intro) ?_)
                      have hz18 := Option.some.inj hz18; subst hz18
                      refine And.intro rfl (Fit2.of (fit_loc hU rfl rfl ?_) (by omega))
                      simp only [push_cast, seval, ↓reduceIte, cast_lit, c21, c22, c23, c24, hN0, hN]
                    · replace hz18 := condF c24 hz18
                      try rw [c24] at c21
                      try rw [c24] at c22
                      try rw [c24] at c23
                      refine W_regionD tab_ok [none, none, none, none, none, none, some true, some true, some true, some true, some true, some true, some false, some false, some false, some false, some false, some false] ?_
                      simp only [push_cast, seval, ↓reduceIte, cast_lit, c21, c22, c23, c24, hN0, hN]
                      repeat (with_reducible refine And.intro (by first | (intro h0; simp only [h0, and_self]; done) | (intro h0; simp only [h0, Bool.not_false, Bool.not_true, Bool.true_and, Bool.and_true, true_and, and_true, and_self, imp_self, implies_true, bne_iff_ne, ne_eq, beq_iff_eq]; done) | (intros; simp_all; done) | exact True.intro) ?_)
                      refine (ok_centoref20_within hy19).then ?_
                      simp only [push_cast, seval, ↓reduceIte, cast_lit, c21, c22, c23, c24, hN0, hN]
                      repeat (with_reducible refine And.intro (by first | (intro h0; simp only [h0, and_self]; done) | (intro h0; simp only [h0, Bool.not_false, Bool.not_true, Bool.true_and, Bool.and_true, true_and, and_true, and_self, imp_self, implies_true, bne_iff_ne, ne_eq, beq_iff_eq]; done) | (intros; simp_all; done) | exact True.intro) ?_)
                      have hz18 := Option.some.inj hz18; subst hz18
                      refine And.intro rfl (Fit2.of (fit_loc hU rfl rfl ?_) (by omega))
                      simp only [push_cast, seval, ↓reduceIte, cast_lit, c21, c22, c23, c24, hN0, hN]
            refine W_cond (t := z18) rfl (fun c25 => ?_) (fun c25 => ?_)
            · replace hs0_ := condT c25 hs0_
              refine W_sq [4] (W_regionD tab_ok [] ?_)
              simp only [push_cast, seval, ↓reduceIte, cast_lit, hN0, hN]
              refine W_ret ?_
              try simp only [gthen, gblock]
              have hs0_ := Option.some.inj hs0_; subst hs0_
              refine And.intro (fun h => by cases h) (And.intro rfl (Fit2.of (fit_loc hU rfl rfl ?_) (by omega)))
              simp only [push_cast, seval, ↓reduceIte, cast_lit, hN0, hN]
            · replace hs0_ := condF c25 hs0_
              refine W_skip ?_
              try simp only [gthen, gblock]
              refine W_fit ⟨216, [], [(1, .val (.int .i64 a1)), (2, .ref n 0), (6, .val (.int .i64 s0_.2)), (7, .ref (n + 1) 0)]⟩ (Loc O n [some ⟨false, 53, 11, 1, [.val (.int .i64 a0.Kind), .val (.int .i64 a0.Old.Kind), .sl a0.Old.Words.length (fl (eI .u64) a0.Old.Words), .sl a0.Old.Kids.length (fl e_S_api_Tree a0.Old.Kids), .val (.int .i64 a0.New.Kind), .sl a0.New.Words.length (fl (eI .u64) a0.New.Words), .sl a0.New.Kids.length (fl e_S_api_Tree a0.New.Kids), .sl a0.Words.length (fl e_S_api_WordEdit a0.Words), .sl a0.Kids.length (fl e_S_api_KidEdit a0.Kids), .val (.int .i64 a0.List_), .sl a0.Ops.length (fl e_S_api_Op a0.Ops)]⟩, some ⟨false, 86, 4, 1, [.val (.int .i64 x15.At), .val (.int .u8 x15.Mask), .val (.int .u64 x15.Old), .val (.int .u64 x15.New)]⟩]) (fit_loc hU rfl rfl ?_) ?_
              · simp only [push_cast, seval, ↓reduceIte, cast_lit, hN0, hN]
              refine W_regionD tab_ok [] ?_
              simp only [push_cast, seval, ↓reduceIte, cast_lit, hN0, hN]
              refine W_fit ⟨216, [], [(1, .val (.int .i64 a1)), (2, .ref n 0), (5, .val (.int .i64 x15.At)), (6, .val (.int .i64 s0_.2))]⟩ (Loc O n [some ⟨false, 53, 11, 1, [.val (.int .i64 a0.Kind), .val (.int .i64 a0.Old.Kind), .sl a0.Old.Words.length (fl (eI .u64) a0.Old.Words), .sl a0.Old.Kids.length (fl e_S_api_Tree a0.Old.Kids), .val (.int .i64 a0.New.Kind), .sl a0.New.Words.length (fl (eI .u64) a0.New.Words), .sl a0.New.Kids.length (fl e_S_api_Tree a0.New.Kids), .sl a0.Words.length (fl e_S_api_WordEdit a0.Words), .sl a0.Kids.length (fl e_S_api_KidEdit a0.Kids), .val (.int .i64 a0.List_), .sl a0.Ops.length (fl e_S_api_Op a0.Ops)]⟩, none]) (fit_loc hU rfl rfl ?_) ?_
              · simp only [push_cast, seval, ↓reduceIte, cast_lit, hN0, hN]
              refine W_regionD tab_ok [] ?_
              simp only [push_cast, seval, ↓reduceIte, cast_lit, hN0, hN]
              have hs0_ := Option.some.inj hs0_; subst hs0_
              refine And.intro rfl (Fit2.of (fit_loc hU rfl rfl ?_) (by omega))
              simp only [push_cast, seval, ↓reduceIte, cast_lit, hN0, hN]
          · replace hs0_ := condF c26 hs0_
            refine W_exit ?_
            try simp only [gthen, gblock, ↓reduceIte, Nat.reduceEqDiff]
            have hs0_ := Option.some.inj hs0_; subst hs0_
            refine And.intro (fun h => by cases h) (And.intro rfl (Fit2.of (fit_loc hU rfl rfl ?_) (by omega)))
            simp only [push_cast, seval, ↓reduceIte, cast_lit, hN0, hN]
        rcases z27 with z27 | z27
        · dsimp only [SumJ] at hw h
          refine W_blockR hw ?_
          try simp only [gthen, gblock, ↓reduceIte, Nat.reduceEqDiff]
          have h := Option.some.inj h; subst h
          refine fin_loc (.inr rfl) hU [.val (.bool false)] (by omega) ?_
          simp only [push_cast, seval, ↓reduceIte, cast_lit, Try.results45, hN0, hN]
        · dsimp only [SumJ] at hw h
          refine W_blockX hw ?_
          try simp only [gthen, gblock, ↓reduceIte, Nat.reduceEqDiff]
          refine W_fit ⟨216, [], [(1, .val (.int .i64 a1)), (2, .ref n 0)]⟩ (Loc O n [some ⟨false, 53, 11, 1, [.val (.int .i64 a0.Kind), .val (.int .i64 a0.Old.Kind), .sl a0.Old.Words.length (fl (eI .u64) a0.Old.Words), .sl a0.Old.Kids.length (fl e_S_api_Tree a0.Old.Kids), .val (.int .i64 a0.New.Kind), .sl a0.New.Words.length (fl (eI .u64) a0.New.Words), .sl a0.New.Kids.length (fl e_S_api_Tree a0.New.Kids), .sl a0.Words.length (fl e_S_api_WordEdit a0.Words), .sl a0.Kids.length (fl e_S_api_KidEdit a0.Kids), .val (.int .i64 a0.List_), .sl a0.Ops.length (fl e_S_api_Op a0.Ops)]⟩]) (fit_loc hU rfl rfl ?_) ?_
          · simp only [push_cast, seval, ↓reduceIte, cast_lit, hN0, hN]
          refine W_sq [1, 2, 5] (W_regionD tab_ok [] ?_)
          simp only [push_cast, seval, ↓reduceIte, cast_lit, hN0, hN]
          refine W_seqK ?_
          refine W_sq [1, 2, 5, 8] (W_regionD tab_ok [] ?_)
          simp only [push_cast, seval, ↓reduceIte, cast_lit, hN0, hN]
          refine W_fit ⟨216, [], [(1, .val (.int .i64 a1)), (2, .ref n 0), (5, .val (.int .i64 (-1))), (8, .val (.int .i64 0))]⟩ (Loc O n [some ⟨false, 53, 11, 1, [.val (.int .i64 a0.Kind), .val (.int .i64 a0.Old.Kind), .sl a0.Old.Words.length (fl (eI .u64) a0.Old.Words), .sl a0.Old.Kids.length (fl e_S_api_Tree a0.Old.Kids), .val (.int .i64 a0.New.Kind), .sl a0.New.Words.length (fl (eI .u64) a0.New.Words), .sl a0.New.Kids.length (fl e_S_api_Tree a0.New.Kids), .sl a0.Words.length (fl e_S_api_WordEdit a0.Words), .sl a0.Kids.length (fl e_S_api_KidEdit a0.Kids), .val (.int .i64 a0.List_), .sl a0.Ops.length (fl e_S_api_Op a0.Ops)]⟩]) (fit_loc hU rfl rfl ?_) ?_
          · simp only [push_cast, seval, ↓reduceIte, cast_lit, hN0, hN]
          obtain ⟨z38, hz38, h⟩ := bC h
          refine W_sumB (J := (SumJ (fun z38 => JR n (⟨216, [], [(4, .val (.bool false))]⟩ : Env) (Loc O n [none]) (n + 1)) (fun z38 => JX 2 n (⟨216, [], [(1, .val (.int .i64 a1)), (2, .ref n 0)]⟩ : Env) (Loc O n [some ⟨false, 53, 11, 1, [.val (.int .i64 a0.Kind), .val (.int .i64 a0.Old.Kind), .sl a0.Old.Words.length (fl (eI .u64) a0.Old.Words), .sl a0.Old.Kids.length (fl e_S_api_Tree a0.Old.Kids), .val (.int .i64 a0.New.Kind), .sl a0.New.Words.length (fl (eI .u64) a0.New.Words), .sl a0.New.Kids.length (fl e_S_api_Tree a0.New.Kids), .sl a0.Words.length (fl e_S_api_WordEdit a0.Words), .sl a0.Kids.length (fl e_S_api_KidEdit a0.Kids), .val (.int .i64 a0.List_), .sl a0.Ops.length (fl e_S_api_Op a0.Ops)]⟩]) (n + 1)))) (z := z38) ?_ fun hw => ?_
          · refine W_loopJ hz38 (fun s1_ => ⟨216, [], [(1, .val (.int .i64 a1)), (2, .ref n 0), (5, .val (.int .i64 s1_.1)), (8, .val (.int .i64 s1_.2))]⟩) (fun s1_ => (Loc O n [some ⟨false, 53, 11, 1, [.val (.int .i64 a0.Kind), .val (.int .i64 a0.Old.Kind), .sl a0.Old.Words.length (fl (eI .u64) a0.Old.Words), .sl a0.Old.Kids.length (fl e_S_api_Tree a0.Old.Kids), .val (.int .i64 a0.New.Kind), .sl a0.New.Words.length (fl (eI .u64) a0.New.Words), .sl a0.New.Kids.length (fl e_S_api_Tree a0.New.Kids), .sl a0.Words.length (fl e_S_api_WordEdit a0.Words), .sl a0.Kids.length (fl e_S_api_KidEdit a0.Kids), .val (.int .i64 a0.List_), .sl a0.Ops.length (fl e_S_api_Op a0.Ops)]⟩])) (SumJ (fun z38 => JR n (⟨216, [], [(4, .val (.bool false))]⟩ : Env) (Loc O n [none]) (n + 1)) (fun z38 => JX 2 n (⟨216, [], [(1, .val (.int .i64 a1)), (2, .ref n 0)]⟩ : Env) (Loc O n [some ⟨false, 53, 11, 1, [.val (.int .i64 a0.Kind), .val (.int .i64 a0.Old.Kind), .sl a0.Old.Words.length (fl (eI .u64) a0.Old.Words), .sl a0.Old.Kids.length (fl e_S_api_Tree a0.Old.Kids), .val (.int .i64 a0.New.Kind), .sl a0.New.Words.length (fl (eI .u64) a0.New.Words), .sl a0.New.Kids.length (fl e_S_api_Tree a0.New.Kids), .sl a0.Words.length (fl e_S_api_WordEdit a0.Words), .sl a0.Kids.length (fl e_S_api_KidEdit a0.Kids), .val (.int .i64 a0.List_), .sl a0.Ops.length (fl e_S_api_Op a0.Ops)]⟩]) (n + 1))) ?_
            intro s1_ x1_ hs1_
            unfold b_centoref20_Right_L1 at hs1_
            try dsimp only
            refine W_seqK ?_
            refine W_sq [1, 2, 5, 8, 141] (W_regionD tab_ok [] ?_)
            simp only [push_cast, seval, ↓reduceIte, cast_lit, hN0, hN]
            refine W_cond (t := (decide (s1_.2 < (a0.Kids.length : Int)))) rfl (fun c37 => ?_) (fun c37 => ?_)
            · replace hs1_ := condT c37 hs1_
              refine W_skip ?_
              try simp only [gthen, gblock]
              refine W_fit ⟨216, [], [(1, .val (.int .i64 a1)), (2, .ref n 0), (5, .val (.int .i64 s1_.1)), (8, .val (.int .i64 s1_.2))]⟩ (Loc O n [some ⟨false, 53, 11, 1, [.val (.int .i64 a0.Kind), .val (.int .i64 a0.Old.Kind), .sl a0.Old.Words.length (fl (eI .u64) a0.Old.Words), .sl a0.Old.Kids.length (fl e_S_api_Tree a0.Old.Kids), .val (.int .i64 a0.New.Kind), .sl a0.New.Words.length (fl (eI .u64) a0.New.Words), .sl a0.New.Kids.length (fl e_S_api_Tree a0.New.Kids), .sl a0.Words.length (fl e_S_api_WordEdit a0.Words), .sl a0.Kids.length (fl e_S_api_KidEdit a0.Kids), .val (.int .i64 a0.List_), .sl a0.Ops.length (fl e_S_api_Op a0.Ops)]⟩]) (fit_loc hU rfl rfl ?_) ?_
              · simp only [push_cast, seval, ↓reduceIte, cast_lit, hN0, hN]
              refine W_seqK ?_
              refine W_block ?_
              refine W_seqK ?_
              obtain ⟨x29, hx29, ax29, bx29, cx29, hs1_⟩ := bE (f := e_S_api_KidEdit) tab61 (fun _ => rfl) (by decide) hs1_
              refine W_regionD tab_ok [] ?_
              simp only [push_cast, Nat.reduceAdd, Nat.reduceSub, Nat.reduceMul, Nat.reduceLeDiff, Nat.reduceLT, Nat.reduceEqDiff, ↓reduceIte, reduceCtorEq, Int.reduceBEq, Int.reduceBNe, Nat.reduceBEq, Int.reduceLE, Int.reduceLT, Int.reduceEq, Int.reduceNe, Int.reduceNeg, Nat.reduceDiv, Nat.reduceMod, Nat.reducePow, cast_lit, ax29, bx29, cx29, hN0, hN]
              refine W_fit ⟨216, [], [(1, .val (.int .i64 a1)), (2, .ref n 0), (5, .val (.int .i64 s1_.1)), (8, .val (.int .i64 s1_.2)), (9, .ref (n + 1) 0)]⟩ (Loc O n [some ⟨false, 53, 11, 1, [.val (.int .i64 a0.Kind), .val (.int .i64 a0.Old.Kind), .sl a0.Old.Words.length (fl (eI .u64) a0.Old.Words), .sl a0.Old.Kids.length (fl e_S_api_Tree a0.Old.Kids), .val (.int .i64 a0.New.Kind), .sl a0.New.Words.length (fl (eI .u64) a0.New.Words), .sl a0.New.Kids.length (fl e_S_api_Tree a0.New.Kids), .sl a0.Words.length (fl e_S_api_WordEdit a0.Words), .sl a0.Kids.length (fl e_S_api_KidEdit a0.Kids), .val (.int .i64 a0.List_), .sl a0.Ops.length (fl e_S_api_Op a0.Ops)]⟩, some ⟨false, 61, 12, 1, [.val (.int .i64 x29.At), .val (.int .i64 x29.E.Kind), .val (.int .i64 x29.E.Old.Kind), .sl x29.E.Old.Words.length (fl (eI .u64) x29.E.Old.Words), .sl x29.E.Old.Kids.length (fl e_S_api_Tree x29.E.Old.Kids), .val (.int .i64 x29.E.New.Kind), .sl x29.E.New.Words.length (fl (eI .u64) x29.E.New.Words), .sl x29.E.New.Kids.length (fl e_S_api_Tree x29.E.New.Kids), .sl x29.E.Words.length (fl e_S_api_WordEdit x29.E.Words), .sl x29.E.Kids.length (fl e_S_api_KidEdit x29.E.Kids), .val (.int .i64 x29.E.List_), .sl x29.E.Ops.length (fl e_S_api_Op x29.E.Ops)]⟩]) (fit_loc hU rfl rfl ?_) ?_
              · simp only [push_cast, Nat.reduceAdd, Nat.reduceSub, Nat.reduceMul, Nat.reduceLeDiff, Nat.reduceLT, Nat.reduceEqDiff, ↓reduceIte, reduceCtorEq, Int.reduceBEq, Int.reduceBNe, Nat.reduceBEq, Int.reduceLE, Int.reduceLT, Int.reduceEq, Int.reduceNe, Int.reduceNeg, Nat.reduceDiv, Nat.reduceMod, Nat.reducePow, cast_lit, ax29, bx29, cx29, hN0, hN]
              refine W_seqK ?_
              obtain ⟨z31, hz31, hs1_⟩ := bC hs1_
              refine W_seqN (E' := ⟨216, [], [(1, .val (.int .i64 a1)), (2, .ref n 0), (8, .val (.int .i64 s1_.2)), (9, .ref (n + 1) 0), (171, .val (.bool z31))]⟩) (O' := (Loc O n [some ⟨false, 53, 11, 1, [.val (.int .i64 a0.Kind), .val (.int .i64 a0.Old.Kind), .sl a0.Old.Words.length (fl (eI .u64) a0.Old.Words), .sl a0.Old.Kids.length (fl e_S_api_Tree a0.Old.Kids), .val (.int .i64 a0.New.Kind), .sl a0.New.Words.length (fl (eI .u64) a0.New.Words), .sl a0.New.Kids.length (fl e_S_api_Tree a0.New.Kids), .sl a0.Words.length (fl e_S_api_WordEdit a0.Words), .sl a0.Kids.length (fl e_S_api_KidEdit a0.Kids), .val (.int .i64 a0.List_), .sl a0.Ops.length (fl e_S_api_Op a0.Ops)]⟩, some ⟨false, 61, 12, 1, [.val (.int .i64 x29.At), .val (.int .i64 x29.E.Kind), .val (.int .i64 x29.E.Old.Kind), .sl x29.E.Old.Words.length (fl (eI .u64) x29.E.Old.Words), .sl x29.E.Old.Kids.length (fl e_S_api_Tree x29.E.Old.Kids), .val (.int .i64 x29.E.New.Kind), .sl x29.E.New.Words.length (fl (eI .u64) x29.E.New.Words), .sl x29.E.New.Kids.length (fl e_S_api_Tree x29.E.New.Kids), .sl x29.E.Words.length (fl e_S_api_WordEdit x29.E.Words), .sl x29.E.Kids.length (fl e_S_api_KidEdit x29.E.Kids), .val (.int .i64 x29.E.List_), .sl x29.E.Ops.length (fl e_S_api_Op x29.E.Ops)]⟩])) (n0 := (n + 2)) ?_ ?_
              · rcases Bool.eq_false_or_eq_true (decide (x29.At ≤ s1_.1)) with c33 | c33
                · replace hz31 := condT c33 hz31
                  refine W_regionD tab_ok [none, none, none, none, none, none, none, some false, some false, some false, some false, some false, some false] ?_
                  simp only [push_cast, seval, ↓reduceIte, cast_lit, c33, hN0, hN]
                  repeat (with_reducible refine And.intro (by first | (intro h0; simp only [h0, and_self]; done) | (intro h0; simp only [h0, Bool.not_false, Bool.not_true, Bool.true_and, Bool.and_true, true_and, and_true, and_self, imp_self, implies_true, bne_iff_ne, ne_eq, beq_iff_eq]; done) | (intros; simp_all; done) | exact True.intro) ?_)
                  have hz31 := Option.some.inj hz31; subst hz31
                  refine And.intro rfl (Fit2.of (fit_loc hU rfl rfl ?_) (by omega))
                  simp only [push_cast, seval, ↓reduceIte, cast_lit, c33, hN0, hN]
                · replace hz31 := condF c33 hz31
                  rcases Bool.eq_false_or_eq_true (decide (65534 < x29.At)) with c34 | c34
                  · replace hz31 := condT c34 hz31
                    try rw [c34] at c33
                    refine W_regionD tab_ok [none, none, none, none, none, none, none, some false, some false, some false, some false, some false, some false] ?_
                    simp only [push_cast, seval, ↓reduceIte, cast_lit, c33, c34, hN0, hN]
                    repeat (with_reducible refine And.intro (by first | (intro h0; simp only [h0, and_self]; done) | (intro h0; simp only [h0, Bool.not_false, Bool.not_true, Bool.true_and, Bool.and_true, true_and, and_true, and_self, imp_self, implies_true, bne_iff_ne, ne_eq, beq_iff_eq]; done) | (intros; simp_all; done) | exact True.intro) ?_)
                    have hz31 := Option.some.inj hz31; subst hz31
                    refine And.intro rfl (Fit2.of (fit_loc hU rfl rfl ?_) (by omega))
                    simp only [push_cast, seval, ↓reduceIte, cast_lit, c33, c34, hN0, hN]
                  · replace hz31 := condF c34 hz31
                    try rw [c34] at c33
                    rcases Bool.eq_false_or_eq_true (x29.E.Kind == 0) with c35 | c35
                    · replace hz31 := condT c35 hz31
                      try rw [c35] at c33
                      try rw [c35] at c34
                      refine W_regionD tab_ok [none, none, none, none, none, none, none, some false, some false, some false, some false, some false, some false] ?_
                      simp only [push_cast, seval, ↓reduceIte, cast_lit, c33, c34, c35, hN0, hN]
                      repeat (with_reducible refine And.intro (by first | (intro h0; simp only [h0, and_self]; done) | (intro h0; simp only [h0, Bool.not_false, Bool.not_true, Bool.true_and, Bool.and_true, true_and, and_true, and_self, imp_self, implies_true, bne_iff_ne, ne_eq, beq_iff_eq]; done) | (intros; simp_all; done) | exact True.intro) ?_)
                      have hz31 := Option.some.inj hz31; subst hz31
                      refine And.intro rfl (Fit2.of (fit_loc hU rfl rfl ?_) (by omega))
                      simp only [push_cast, seval, ↓reduceIte, cast_lit, c33, c34, c35, hN0, hN]
                    · replace hz31 := condF c35 hz31
                      try rw [c35] at c33
                      try rw [c35] at c34
                      obtain ⟨y32, hy32, hz31⟩ := bC hz31
                      refine W_regionD tab_ok [none, none, none, none, none, none, none, some true, some true, some true, some true, some true, some true] ?_
                      simp only [push_cast, seval, ↓reduceIte, cast_lit, c33, c34, c35, hN0, hN]
                      repeat (with_reducible refine And.intro (by first | (intro h0; simp only [h0, and_self]; done) | (intro h0; simp only [h0, Bool.not_false, Bool.not_true, Bool.true_and, Bool.and_true, true_and, and_true, and_self, imp_self, implies_true, bne_iff_ne, ne_eq, beq_iff_eq]; done) | (intros; simp_all; done) | exact True.intro) ?_)
                      refine (ok_r_centoref20_Right hy32).then ?_
                      simp only [push_cast, seval, ↓reduceIte, cast_lit, c33, c34, c35, hN0, hN]
                      repeat (with_reducible refine And.intro (by first | (intro h0; simp only [h0, and_self]; done) | (intro h0; simp only [h0, Bool.not_false, Bool.not_true, Bool.true_and, Bool.and_true, true_and, and_true, and_self, imp_self, implies_true, bne_iff_ne, ne_eq, beq_iff_eq]; done) | (intros; simp_all; done) | exact True.intro) ?_)
                      have hz31 := Option.some.inj hz31; subst hz31
                      refine And.intro rfl (Fit2.of (fit_loc hU rfl rfl ?_) (by omega))
                      simp only [push_cast, seval, ↓reduceIte, cast_lit, c33, c34, c35, hN0, hN]
              refine W_cond (t := z31) rfl (fun c36 => ?_) (fun c36 => ?_)
              · replace hs1_ := condT c36 hs1_
                refine W_sq [4] (W_regionD tab_ok [] ?_)
                simp only [push_cast, seval, ↓reduceIte, cast_lit, hN0, hN]
                refine W_ret ?_
                try simp only [gthen, gblock]
                have hs1_ := Option.some.inj hs1_; subst hs1_
                refine And.intro (fun h => by cases h) (And.intro rfl (Fit2.of (fit_loc hU rfl rfl ?_) (by omega)))
                simp only [push_cast, seval, ↓reduceIte, cast_lit, hN0, hN]
              · replace hs1_ := condF c36 hs1_
                refine W_skip ?_
                try simp only [gthen, gblock]
                refine W_fit ⟨216, [], [(1, .val (.int .i64 a1)), (2, .ref n 0), (8, .val (.int .i64 s1_.2)), (9, .ref (n + 1) 0)]⟩ (Loc O n [some ⟨false, 53, 11, 1, [.val (.int .i64 a0.Kind), .val (.int .i64 a0.Old.Kind), .sl a0.Old.Words.length (fl (eI .u64) a0.Old.Words), .sl a0.Old.Kids.length (fl e_S_api_Tree a0.Old.Kids), .val (.int .i64 a0.New.Kind), .sl a0.New.Words.length (fl (eI .u64) a0.New.Words), .sl a0.New.Kids.length (fl e_S_api_Tree a0.New.Kids), .sl a0.Words.length (fl e_S_api_WordEdit a0.Words), .sl a0.Kids.length (fl e_S_api_KidEdit a0.Kids), .val (.int .i64 a0.List_), .sl a0.Ops.length (fl e_S_api_Op a0.Ops)]⟩, some ⟨false, 61, 12, 1, [.val (.int .i64 x29.At), .val (.int .i64 x29.E.Kind), .val (.int .i64 x29.E.Old.Kind), .sl x29.E.Old.Words.length (fl (eI .u64) x29.E.Old.Words), .sl x29.E.Old.Kids.length (fl e_S_api_Tree x29.E.Old.Kids), .val (.int .i64 x29.E.New.Kind), .sl x29.E.New.Words.length (fl (eI .u64) x29.E.New.Words), .sl x29.E.New.Kids.length (fl e_S_api_Tree x29.E.New.Kids), .sl x29.E.Words.length (fl e_S_api_WordEdit x29.E.Words), .sl x29.E.Kids.length (fl e_S_api_KidEdit x29.E.Kids), .val (.int .i64 x29.E.List_), .sl x29.E.Ops.length (fl e_S_api_Op x29.E.Ops)]⟩]) (fit_loc hU rfl rfl ?_) ?_
                · simp only [push_cast, seval, ↓reduceIte, cast_lit, hN0, hN]
                refine W_regionD tab_ok [] ?_
                simp only [push_cast, seval, ↓reduceIte, cast_lit, hN0, hN]
                refine W_fit ⟨216, [], [(1, .val (.int .i64 a1)), (2, .ref n 0), (5, .val (.int .i64 x29.At)), (8, .val (.int .i64 s1_.2))]⟩ (Loc O n [some ⟨false, 53, 11, 1, [.val (.int .i64 a0.Kind), .val (.int .i64 a0.Old.Kind), .sl a0.Old.Words.length (fl (eI .u64) a0.Old.Words), .sl a0.Old.Kids.length (fl e_S_api_Tree a0.Old.Kids), .val (.int .i64 a0.New.Kind), .sl a0.New.Words.length (fl (eI .u64) a0.New.Words), .sl a0.New.Kids.length (fl e_S_api_Tree a0.New.Kids), .sl a0.Words.length (fl e_S_api_WordEdit a0.Words), .sl a0.Kids.length (fl e_S_api_KidEdit a0.Kids), .val (.int .i64 a0.List_), .sl a0.Ops.length (fl e_S_api_Op a0.Ops)]⟩, none]) (fit_loc hU rfl rfl ?_) ?_
                · simp only [push_cast, seval, ↓reduceIte, cast_lit, hN0, hN]
                refine W_regionD tab_ok [] ?_
                simp only [push_cast, seval, ↓reduceIte, cast_lit, hN0, hN]
                have hs1_ := Option.some.inj hs1_; subst hs1_
                refine And.intro rfl (Fit2.of (fit_loc hU rfl rfl ?_) (by omega))
                simp only [push_cast, seval, ↓reduceIte, cast_lit, hN0, hN]
            · replace hs1_ := condF c37 hs1_
              refine W_exit ?_
              try simp only [gthen, gblock, ↓reduceIte, Nat.reduceEqDiff]
              have hs1_ := Option.some.inj hs1_; subst hs1_
              refine And.intro (fun h => by cases h) (And.intro rfl (Fit2.of (fit_loc hU rfl rfl ?_) (by omega)))
              simp only [push_cast, seval, ↓reduceIte, cast_lit, hN0, hN]
          rcases z38 with z38 | z38
          · dsimp only [SumJ] at hw h
            refine W_blockR hw ?_
            try simp only [gthen, gblock, ↓reduceIte, Nat.reduceEqDiff]
            have h := Option.some.inj h; subst h
            refine fin_loc (.inr rfl) hU [.val (.bool false)] (by omega) ?_
            simp only [push_cast, seval, ↓reduceIte, cast_lit, Try.results45, hN0, hN]
          · dsimp only [SumJ] at hw h
            refine W_blockX hw ?_
            try simp only [gthen, gblock, ↓reduceIte, Nat.reduceEqDiff]
            refine W_fit ⟨216, [], [(1, .val (.int .i64 a1)), (2, .ref n 0)]⟩ (Loc O n [some ⟨false, 53, 11, 1, [.val (.int .i64 a0.Kind), .val (.int .i64 a0.Old.Kind), .sl a0.Old.Words.length (fl (eI .u64) a0.Old.Words), .sl a0.Old.Kids.length (fl e_S_api_Tree a0.Old.Kids), .val (.int .i64 a0.New.Kind), .sl a0.New.Words.length (fl (eI .u64) a0.New.Words), .sl a0.New.Kids.length (fl e_S_api_Tree a0.New.Kids), .sl a0.Words.length (fl e_S_api_WordEdit a0.Words), .sl a0.Kids.length (fl e_S_api_KidEdit a0.Kids), .val (.int .i64 a0.List_), .sl a0.Ops.length (fl e_S_api_Op a0.Ops)]⟩]) (fit_loc hU rfl rfl ?_) ?_
            · simp only [push_cast, seval, ↓reduceIte, cast_lit, hN0, hN]
            refine W_seqK ?_
            refine W_sq [1, 2, 186] (W_regionD tab_ok [none, none, none, none, none, none, none, none] ?_)
            simp only [push_cast, seval, ↓reduceIte, cast_lit, hN0, hN]
            repeat (with_reducible refine And.intro (by first | (intro h0; simp only [h0, and_self]; done) | (intro h0; simp only [h0, Bool.not_false, Bool.not_true, Bool.true_and, Bool.and_true, true_and, and_true, and_self, imp_self, implies_true, bne_iff_ne, ne_eq, beq_iff_eq]; done) | (intros; simp_all; done) | exact True.intro) ?_)
            refine W_cond (t := (cond (a0.Kind == 3) (cond (decide (a0.List_ < 2)) true (decide (9 < a0.List_))) false)) rfl (fun c48 => ?_) (fun c48 => ?_)
            · replace h := condT c48 h
              refine W_sq [4] (W_regionD tab_ok [] ?_)
              simp only [push_cast, seval, ↓reduceIte, cast_lit, hN0, hN]
              refine W_ret ?_
              try simp only [gthen, gblock]
              have h := Option.some.inj h; subst h
              refine fin_loc (.inr rfl) hU [.val (.bool false)] (by omega) ?_
              simp only [push_cast, seval, ↓reduceIte, cast_lit, Try.results45, hN0, hN]
            · replace h := condF c48 h
              refine W_skip ?_
              try simp only [gthen, gblock]
              refine W_fit ⟨216, [], [(1, .val (.int .i64 a1)), (2, .ref n 0)]⟩ (Loc O n [some ⟨false, 53, 11, 1, [.val (.int .i64 a0.Kind), .val (.int .i64 a0.Old.Kind), .sl a0.Old.Words.length (fl (eI .u64) a0.Old.Words), .sl a0.Old.Kids.length (fl e_S_api_Tree a0.Old.Kids), .val (.int .i64 a0.New.Kind), .sl a0.New.Words.length (fl (eI .u64) a0.New.Words), .sl a0.New.Kids.length (fl e_S_api_Tree a0.New.Kids), .sl a0.Words.length (fl e_S_api_WordEdit a0.Words), .sl a0.Kids.length (fl e_S_api_KidEdit a0.Kids), .val (.int .i64 a0.List_), .sl a0.Ops.length (fl e_S_api_Op a0.Ops)]⟩]) (fit_loc hU rfl rfl ?_) ?_
              · simp only [push_cast, seval, ↓reduceIte, cast_lit, hN0, hN]
              refine W_seqK ?_
              refine W_sq [1, 2, 10] (W_regionD tab_ok [] ?_)
              simp only [push_cast, seval, ↓reduceIte, cast_lit, hN0, hN]
              refine W_fit ⟨216, [], [(1, .val (.int .i64 a1)), (2, .ref n 0), (10, .val (.int .i64 0))]⟩ (Loc O n [some ⟨false, 53, 11, 1, [.val (.int .i64 a0.Kind), .val (.int .i64 a0.Old.Kind), .sl a0.Old.Words.length (fl (eI .u64) a0.Old.Words), .sl a0.Old.Kids.length (fl e_S_api_Tree a0.Old.Kids), .val (.int .i64 a0.New.Kind), .sl a0.New.Words.length (fl (eI .u64) a0.New.Words), .sl a0.New.Kids.length (fl e_S_api_Tree a0.New.Kids), .sl a0.Words.length (fl e_S_api_WordEdit a0.Words), .sl a0.Kids.length (fl e_S_api_KidEdit a0.Kids), .val (.int .i64 a0.List_), .sl a0.Ops.length (fl e_S_api_Op a0.Ops)]⟩]) (fit_loc hU rfl rfl ?_) ?_
              · simp only [push_cast, seval, ↓reduceIte, cast_lit, hN0, hN]
              obtain ⟨z45, hz45, h⟩ := bC h
              refine W_sumB (J := (SumJ (fun z45 => JR n (⟨216, [], [(4, .val (.bool false))]⟩ : Env) (Loc O n [none]) (n + 1)) (fun z45 => JX 4 n (⟨216, [], [(2, .ref n 0)]⟩ : Env) (Loc O n [some ⟨false, 53, 11, 1, [.val (.int .i64 a0.Kind), .val (.int .i64 a0.Old.Kind), .sl a0.Old.Words.length (fl (eI .u64) a0.Old.Words), .sl a0.Old.Kids.length (fl e_S_api_Tree a0.Old.Kids), .val (.int .i64 a0.New.Kind), .sl a0.New.Words.length (fl (eI .u64) a0.New.Words), .sl a0.New.Kids.length (fl e_S_api_Tree a0.New.Kids), .sl a0.Words.length (fl e_S_api_WordEdit a0.Words), .sl a0.Kids.length (fl e_S_api_KidEdit a0.Kids), .val (.int .i64 a0.List_), .sl a0.Ops.length (fl e_S_api_Op a0.Ops)]⟩]) (n + 1)))) (z := z45) ?_ fun hw => ?_
              · refine W_loopJ hz45 (fun s2_ => ⟨216, [], [(1, .val (.int .i64 a1)), (2, .ref n 0), (10, .val (.int .i64 s2_))]⟩) (fun s2_ => (Loc O n [some ⟨false, 53, 11, 1, [.val (.int .i64 a0.Kind), .val (.int .i64 a0.Old.Kind), .sl a0.Old.Words.length (fl (eI .u64) a0.Old.Words), .sl a0.Old.Kids.length (fl e_S_api_Tree a0.Old.Kids), .val (.int .i64 a0.New.Kind), .sl a0.New.Words.length (fl (eI .u64) a0.New.Words), .sl a0.New.Kids.length (fl e_S_api_Tree a0.New.Kids), .sl a0.Words.length (fl e_S_api_WordEdit a0.Words), .sl a0.Kids.length (fl e_S_api_KidEdit a0.Kids), .val (.int .i64 a0.List_), .sl a0.Ops.length (fl e_S_api_Op a0.Ops)]⟩])) (SumJ (fun z45 => JR n (⟨216, [], [(4, .val (.bool false))]⟩ : Env) (Loc O n [none]) (n + 1)) (fun z45 => JX 4 n (⟨216, [], [(2, .ref n 0)]⟩ : Env) (Loc O n [some ⟨false, 53, 11, 1, [.val (.int .i64 a0.Kind), .val (.int .i64 a0.Old.Kind), .sl a0.Old.Words.length (fl (eI .u64) a0.Old.Words), .sl a0.Old.Kids.length (fl e_S_api_Tree a0.Old.Kids), .val (.int .i64 a0.New.Kind), .sl a0.New.Words.length (fl (eI .u64) a0.New.Words), .sl a0.New.Kids.length (fl e_S_api_Tree a0.New.Kids), .sl a0.Words.length (fl e_S_api_WordEdit a0.Words), .sl a0.Kids.length (fl e_S_api_KidEdit a0.Kids), .val (.int .i64 a0.List_), .sl a0.Ops.length (fl e_S_api_Op a0.Ops)]⟩]) (n + 1))) ?_
                intro s2_ x2_ hs2_
                unfold b_centoref20_Right_L2 at hs2_
                try dsimp only
                refine W_seqK ?_
                refine W_sq [1, 2, 10, 191] (W_regionD tab_ok [] ?_)
                simp only [push_cast, seval, ↓reduceIte, cast_lit, hN0, hN]
                refine W_cond (t := (decide (s2_ < (a0.Ops.length : Int)))) rfl (fun c44 => ?_) (fun c44 => ?_)
                · replace hs2_ := condT c44 hs2_
                  refine W_skip ?_
                  try simp only [gthen, gblock]
                  refine W_fit ⟨216, [], [(1, .val (.int .i64 a1)), (2, .ref n 0), (10, .val (.int .i64 s2_))]⟩ (Loc O n [some ⟨false, 53, 11, 1, [.val (.int .i64 a0.Kind), .val (.int .i64 a0.Old.Kind), .sl a0.Old.Words.length (fl (eI .u64) a0.Old.Words), .sl a0.Old.Kids.length (fl e_S_api_Tree a0.Old.Kids), .val (.int .i64 a0.New.Kind), .sl a0.New.Words.length (fl (eI .u64) a0.New.Words), .sl a0.New.Kids.length (fl e_S_api_Tree a0.New.Kids), .sl a0.Words.length (fl e_S_api_WordEdit a0.Words), .sl a0.Kids.length (fl e_S_api_KidEdit a0.Kids), .val (.int .i64 a0.List_), .sl a0.Ops.length (fl e_S_api_Op a0.Ops)]⟩]) (fit_loc hU rfl rfl ?_) ?_
                  · simp only [push_cast, seval, ↓reduceIte, cast_lit, hN0, hN]
                  refine W_seqK ?_
                  refine W_block ?_
                  refine W_seqK ?_
                  obtain ⟨x41, hx41, ax41, bx41, cx41, hs2_⟩ := bE (f := e_S_api_Op) tab63 (fun _ => rfl) (by decide) hs2_
                  obtain ⟨y42, hy42, hs2_⟩ := bC hs2_
                  refine W_drawD tab_ok (by kernel_rfl) [] (by kernel_rfl) ?_
                  simp only [push_cast, Nat.reduceAdd, Nat.reduceSub, Nat.reduceMul, Nat.reduceLeDiff, Nat.reduceLT, Nat.reduceEqDiff, ↓reduceIte, reduceCtorEq, Int.reduceBEq, Int.reduceBNe, Nat.reduceBEq, Int.reduceLE, Int.reduceLT, Int.reduceEq, Int.reduceNe, Int.reduceNeg, Nat.reduceDiv, Nat.reduceMod, Nat.reducePow, cast_lit, ax41, bx41, cx41, hN0, hN]
                  refine PCall.of (ok_r_centoref20_op hy42) ?_
                  simp only [push_cast, Nat.reduceAdd, Nat.reduceSub, Nat.reduceMul, Nat.reduceLeDiff, Nat.reduceLT, Nat.reduceEqDiff, ↓reduceIte, reduceCtorEq, Int.reduceBEq, Int.reduceBNe, Nat.reduceBEq, Int.reduceLE, Int.reduceLT, Int.reduceEq, Int.reduceNe, Int.reduceNeg, Nat.reduceDiv, Nat.reduceMod, Nat.reducePow, cast_lit, ax41, bx41, cx41, hN0, hN]
                  refine W_fit ⟨216, [], [(1, .val (.int .i64 a1)), (2, .ref n 0), (10, .val (.int .i64 s2_)), (204, .val (.bool (!y42)))]⟩ (Loc O n [some ⟨false, 53, 11, 1, [.val (.int .i64 a0.Kind), .val (.int .i64 a0.Old.Kind), .sl a0.Old.Words.length (fl (eI .u64) a0.Old.Words), .sl a0.Old.Kids.length (fl e_S_api_Tree a0.Old.Kids), .val (.int .i64 a0.New.Kind), .sl a0.New.Words.length (fl (eI .u64) a0.New.Words), .sl a0.New.Kids.length (fl e_S_api_Tree a0.New.Kids), .sl a0.Words.length (fl e_S_api_WordEdit a0.Words), .sl a0.Kids.length (fl e_S_api_KidEdit a0.Kids), .val (.int .i64 a0.List_), .sl a0.Ops.length (fl e_S_api_Op a0.Ops)]⟩]) (fit_loc hU rfl rfl ?_) ?_
                  · simp only [push_cast, Nat.reduceAdd, Nat.reduceSub, Nat.reduceMul, Nat.reduceLeDiff, Nat.reduceLT, Nat.reduceEqDiff, ↓reduceIte, reduceCtorEq, Int.reduceBEq, Int.reduceBNe, Nat.reduceBEq, Int.reduceLE, Int.reduceLT, Int.reduceEq, Int.reduceNe, Int.reduceNeg, Nat.reduceDiv, Nat.reduceMod, Nat.reducePow, cast_lit, ax41, bx41, cx41, hN0, hN]
                  refine W_cond (t := (!y42)) rfl (fun c43 => ?_) (fun c43 => ?_)
                  · replace hs2_ := condT c43 hs2_
                    refine W_sq [4] (W_regionD tab_ok [] ?_)
                    simp only [push_cast, seval, ↓reduceIte, cast_lit, hN0, hN]
                    refine W_ret ?_
                    try simp only [gthen, gblock]
                    have hs2_ := Option.some.inj hs2_; subst hs2_
                    refine And.intro (fun h => by cases h) (And.intro rfl (Fit2.of (fit_loc hU rfl rfl ?_) (by omega)))
                    simp only [push_cast, seval, ↓reduceIte, cast_lit, hN0, hN]
                  · replace hs2_ := condF c43 hs2_
                    refine W_skip ?_
                    try simp only [gthen, gblock]
                    refine W_fit ⟨216, [], [(1, .val (.int .i64 a1)), (2, .ref n 0), (10, .val (.int .i64 s2_))]⟩ (Loc O n [some ⟨false, 53, 11, 1, [.val (.int .i64 a0.Kind), .val (.int .i64 a0.Old.Kind), .sl a0.Old.Words.length (fl (eI .u64) a0.Old.Words), .sl a0.Old.Kids.length (fl e_S_api_Tree a0.Old.Kids), .val (.int .i64 a0.New.Kind), .sl a0.New.Words.length (fl (eI .u64) a0.New.Words), .sl a0.New.Kids.length (fl e_S_api_Tree a0.New.Kids), .sl a0.Words.length (fl e_S_api_WordEdit a0.Words), .sl a0.Kids.length (fl e_S_api_KidEdit a0.Kids), .val (.int .i64 a0.List_), .sl a0.Ops.length (fl e_S_api_Op a0.Ops)]⟩]) (fit_loc hU rfl rfl ?_) ?_
                    · simp only [push_cast, seval, ↓reduceIte, cast_lit, hN0, hN]
                    refine W_regionD tab_ok [] ?_
                    simp only [push_cast, seval, ↓reduceIte, cast_lit, hN0, hN]
                    have hs2_ := Option.some.inj hs2_; subst hs2_
                    refine And.intro rfl (Fit2.of (fit_loc hU rfl rfl ?_) (by omega))
                    simp only [push_cast, seval, ↓reduceIte, cast_lit, hN0, hN]
                · replace hs2_ := condF c44 hs2_
                  refine W_exit ?_
                  try simp only [gthen, gblock, ↓reduceIte, Nat.reduceEqDiff]
                  have hs2_ := Option.some.inj hs2_; subst hs2_
                  refine And.intro (fun h => by cases h) (And.intro rfl (Fit2.of (fit_loc hU rfl rfl ?_) (by omega)))
                  simp only [push_cast, seval, ↓reduceIte, cast_lit, hN0, hN]
              rcases z45 with z45 | z45
              · dsimp only [SumJ] at hw h
                refine W_blockR hw ?_
                try simp only [gthen, gblock, ↓reduceIte, Nat.reduceEqDiff]
                have h := Option.some.inj h; subst h
                refine fin_loc (.inr rfl) hU [.val (.bool false)] (by omega) ?_
                simp only [push_cast, seval, ↓reduceIte, cast_lit, Try.results45, hN0, hN]
              · dsimp only [SumJ] at hw h
                refine W_blockX hw ?_
                try simp only [gthen, gblock, ↓reduceIte, Nat.reduceEqDiff]
                refine W_fit ⟨216, [], [(2, .ref n 0)]⟩ (Loc O n [some ⟨false, 53, 11, 1, [.val (.int .i64 a0.Kind), .val (.int .i64 a0.Old.Kind), .sl a0.Old.Words.length (fl (eI .u64) a0.Old.Words), .sl a0.Old.Kids.length (fl e_S_api_Tree a0.Old.Kids), .val (.int .i64 a0.New.Kind), .sl a0.New.Words.length (fl (eI .u64) a0.New.Words), .sl a0.New.Kids.length (fl e_S_api_Tree a0.New.Kids), .sl a0.Words.length (fl e_S_api_WordEdit a0.Words), .sl a0.Kids.length (fl e_S_api_KidEdit a0.Kids), .val (.int .i64 a0.List_), .sl a0.Ops.length (fl e_S_api_Op a0.Ops)]⟩]) (fit_loc hU rfl rfl ?_) ?_
                · simp only [push_cast, seval, ↓reduceIte, cast_lit, hN0, hN]
                refine W_seqK ?_
                obtain ⟨y47, hy47, h⟩ := bC h
                refine W_regionD tab_ok [] ?_
                simp only [push_cast, seval, ↓reduceIte, cast_lit, hN0, hN]
                refine (ok_centoref20_Lengths hy47).then ?_
                simp only [push_cast, seval, ↓reduceIte, cast_lit, hN0, hN]
                refine W_fit ⟨216, [], [(11, .val (.int .i64 y47.1)), (12, .val (.int .i64 y47.2))]⟩ (Loc O n [none]) (fit_loc hU rfl rfl ?_) ?_
                · simp only [push_cast, seval, ↓reduceIte, cast_lit, hN0, hN]
                refine W_sq [4] (W_regionD tab_ok [none, none] ?_)
                simp only [push_cast, seval, ↓reduceIte, cast_lit, hN0, hN]
                repeat (with_reducible refine And.intro (by first | (intro h0; simp only [h0, and_self]; done) | (intro h0; simp only [h0, Bool.not_false, Bool.not_true, Bool.true_and, Bool.and_true, true_and, and_true, and_self, imp_self, implies_true, bne_iff_ne, ne_eq, beq_iff_eq]; done) | (intros; simp_all; done) | exact True.intro) ?_)
                refine W_ret ?_
                try simp only [gthen, gblock]
                have h := Option.some.inj h; subst h
                refine fin_loc (.inr rfl) hU [.val (.bool (cond (decide (y47.1 < 1048576)) (decide (y47.2 < 1048576)) false))] (by omega) ?_
                simp only [push_cast, seval, ↓reduceIte, cast_lit, Try.results45, hN0, hN]

theorem okb_centoref20_op {r_centoref20_Right : (S_api_Edit → Int → Option Bool)} {r_centoref20_op : (Int → S_api_Op → Int → Option Bool)} (ok_r_centoref20_Right : ∀ {a0 : S_api_Edit} {a1 : Int} {r : Bool} {O : Objs} {n : Nat}, r_centoref20_Right a0 a1 = some r → GTo Try.prog 45 [.agg [.val (.int .i64 a0.Kind), .val (.int .i64 a0.Old.Kind), .sl a0.Old.Words.length (fl (eI .u64) a0.Old.Words), .sl a0.Old.Kids.length (fl e_S_api_Tree a0.Old.Kids), .val (.int .i64 a0.New.Kind), .sl a0.New.Words.length (fl (eI .u64) a0.New.Words), .sl a0.New.Kids.length (fl e_S_api_Tree a0.New.Kids), .sl a0.Words.length (fl e_S_api_WordEdit a0.Words), .sl a0.Kids.length (fl e_S_api_KidEdit a0.Kids), .val (.int .i64 a0.List_), .sl a0.Ops.length (fl e_S_api_Op a0.Ops)], .val (.int .i64 a1)] O n (.val (.bool r)) O n) (ok_r_centoref20_op : ∀ {a0 : Int} {a1 : S_api_Op} {a2 : Int} {r : Bool} {O : Objs} {n : Nat}, r_centoref20_op a0 a1 a2 = some r → GTo Try.prog 77 [.val (.int .i64 a0), .agg [.val (.int .i64 a1.Kind), .val (.int .i64 a1.N), .sl a1.L.length (fl e_S_api_Tree a1.L), .val (.int .i64 a1.E.Kind), .val (.int .i64 a1.E.Old.Kind), .sl a1.E.Old.Words.length (fl (eI .u64) a1.E.Old.Words), .sl a1.E.Old.Kids.length (fl e_S_api_Tree a1.E.Old.Kids), .val (.int .i64 a1.E.New.Kind), .sl a1.E.New.Words.length (fl (eI .u64) a1.E.New.Words), .sl a1.E.New.Kids.length (fl e_S_api_Tree a1.E.New.Kids), .sl a1.E.Words.length (fl e_S_api_WordEdit a1.E.Words), .sl a1.E.Kids.length (fl e_S_api_KidEdit a1.E.Kids), .val (.int .i64 a1.E.List_), .sl a1.E.Ops.length (fl e_S_api_Op a1.E.Ops)], .val (.int .i64 a2)] O n (.val (.bool r)) O n) {a0 : Int} {a1 : S_api_Op} {a2 : Int} {r : Bool} {O : Objs} {n : Nat} (h : b_centoref20_op r_centoref20_Right r_centoref20_op a0 a1 a2 = some r) : GTo Try.prog 77 [.val (.int .i64 a0), .agg [.val (.int .i64 a1.Kind), .val (.int .i64 a1.N), .sl a1.L.length (fl e_S_api_Tree a1.L), .val (.int .i64 a1.E.Kind), .val (.int .i64 a1.E.Old.Kind), .sl a1.E.Old.Words.length (fl (eI .u64) a1.E.Old.Words), .sl a1.E.Old.Kids.length (fl e_S_api_Tree a1.E.Old.Kids), .val (.int .i64 a1.E.New.Kind), .sl a1.E.New.Words.length (fl (eI .u64) a1.E.New.Words), .sl a1.E.New.Kids.length (fl e_S_api_Tree a1.E.New.Kids), .sl a1.E.Words.length (fl e_S_api_WordEdit a1.E.Words), .sl a1.E.Kids.length (fl e_S_api_KidEdit a1.E.Kids), .val (.int .i64 a1.E.List_), .sl a1.E.Ops.length (fl e_S_api_Op a1.E.Ops)], .val (.int .i64 a2)] O n (.val (.bool r)) O n := by
  unfold b_centoref20_op at h
  refine fn_of tab_ok Try.call77 Try.func77 rfl (Nat.le_of_ble_eq_true rfl) (Nat.le_refl _) fun hU => ?_
  have hN0 : O n = none := hU.fresh _ (Nat.le_refl _)
  have hN : ∀ k, O (n + k) = none := fun k => hU.fresh _ (Nat.le_add_right _ _)
  show W _ _ _ _ ⟨121, [], [(0, .val (.int .i64 a0)), (1, .agg [.val (.int .i64 a1.Kind), .val (.int .i64 a1.N), .sl a1.L.length (fl e_S_api_Tree a1.L), .val (.int .i64 a1.E.Kind), .val (.int .i64 a1.E.Old.Kind), .sl a1.E.Old.Words.length (fl (eI .u64) a1.E.Old.Words), .sl a1.E.Old.Kids.length (fl e_S_api_Tree a1.E.Old.Kids), .val (.int .i64 a1.E.New.Kind), .sl a1.E.New.Words.length (fl (eI .u64) a1.E.New.Words), .sl a1.E.New.Kids.length (fl e_S_api_Tree a1.E.New.Kids), .sl a1.E.Words.length (fl e_S_api_WordEdit a1.E.Words), .sl a1.E.Kids.length (fl e_S_api_KidEdit a1.E.Kids), .val (.int .i64 a1.E.List_), .sl a1.E.Ops.length (fl e_S_api_Op a1.E.Ops)]), (2, .val (.int .i64 a2))]⟩ (Loc O n []) _
  refine W_sq [0, 2, 4] (W_regionD tab_ok [] ?_)
  simp only [push_cast, seval, ↓reduceIte, cast_lit, hN0, hN]
  refine W_seqK ?_
  refine W_sq [0, 2, 4, 10] (W_regionD tab_ok [] ?_)
  simp only [push_cast, seval, ↓reduceIte, cast_lit, hN0, hN]
  refine W_cond (t := (a1.Kind == 0)) rfl (fun c27 => ?_) (fun c27 => ?_)
  · replace h := condT c27 h
    obtain ⟨z2, hz2, h⟩ := bC h
    refine W_seqN (E' := ⟨121, [], [(6, .val (.bool z2))]⟩) (O' := (Loc O n [none])) (n0 := (n + 1)) ?_ ?_
    · rcases Bool.eq_false_or_eq_true (decide (1 ≤ a1.N)) with c4 | c4
      · replace hz2 := condT c4 hz2
        rcases Bool.eq_false_or_eq_true (decide (a1.N ≤ 1048576)) with c5 | c5
        · replace hz2 := condT c5 hz2
          try rw [c5] at c4
          rcases Bool.eq_false_or_eq_true ((a1.L.length : Int) == 0) with c6 | c6
          · replace hz2 := condT c6 hz2
            try rw [c6] at c4
            try rw [c6] at c5
            obtain ⟨y3, hy3, hz2⟩ := bC hz2
            refine W_regionD tab_ok [none, none, none, none, none, none, none, some true, some true, some true] ?_
            simp only [push_cast, seval, ↓reduceIte, cast_lit, c4, c5, c6, hN0, hN]
            repeat (with_reducible refine And.intro (by first | (intro h0; simp only [h0, and_self]; done) | (intro h0; simp only [h0, Bool.not_false, Bool.not_true, Bool.true_and, Bool.and_true, true_and, and_true, and_self, imp_self, implies_true, bne_iff_ne, ne_eq, beq_iff_eq]; done) | (intros; simp_all; done) | exact True.intro) ?_)
            refine (ok_centoref20_same hy3).then ?_
            simp only [push_cast, seval, ↓reduceIte, cast_lit, c4, c5, c6, hN0, hN]
            repeat (with_reducible refine And.intro (by first | (intro h0; simp only [h0, and_self]; done) | (intro h0; simp only [h0, Bool.not_false, Bool.not_true, Bool.true_and, Bool.and_true, true_and, and_true, and_self, imp_self, implies_true, bne_iff_ne, ne_eq, beq_iff_eq]; done) | (intros; simp_all; done) | exact True.intro) ?_)
            have hz2 := Option.some.inj hz2; subst hz2
            refine And.intro rfl (Fit2.of (fit_loc hU rfl rfl ?_) (by omega))
            simp only [push_cast, seval, ↓reduceIte, cast_lit, c4, c5, c6, hN0, hN]
          · replace hz2 := condF c6 hz2
            try rw [c6] at c4
            try rw [c6] at c5
            refine W_regionD tab_ok [none, none, none, none, none, none, none, some false, some false, some false] ?_
            simp only [push_cast, seval, ↓reduceIte, cast_lit, c4, c5, c6, hN0, hN]
            repeat (with_reducible refine And.intro (by first | (intro h0; simp only [h0, and_self]; done) | (intro h0; simp only [h0, Bool.not_false, Bool.not_true, Bool.true_and, Bool.and_true, true_and, and_true, and_self, imp_self, implies_true, bne_iff_ne, ne_eq, beq_iff_eq]; done) | (intros; simp_all; done) | exact True.intro) ?_)
            have hz2 := Option.some.inj hz2; subst hz2
            refine And.intro rfl (Fit2.of (fit_loc hU rfl rfl ?_) (by omega))
            simp only [push_cast, seval, ↓reduceIte, cast_lit, c4, c5, c6, hN0, hN]
        · replace hz2 := condF c5 hz2
          try rw [c5] at c4
          refine W_regionD tab_ok [none, none, none, none, none, none, none, some false, some false, some false] ?_
          simp only [push_cast, seval, ↓reduceIte, cast_lit, c4, c5, hN0, hN]
          repeat (with_reducible refine And.intro (by first | (intro h0; simp only [h0, and_self]; done) | (intro h0; simp only [h0, Bool.not_false, Bool.not_true, Bool.true_and, Bool.and_true, true_and, and_true, and_self, imp_self, implies_true, bne_iff_ne, ne_eq, beq_iff_eq]; done) | (intros; simp_all; done) | exact True.intro) ?_)
          have hz2 := Option.some.inj hz2; subst hz2
          refine And.intro rfl (Fit2.of (fit_loc hU rfl rfl ?_) (by omega))
          simp only [push_cast, seval, ↓reduceIte, cast_lit, c4, c5, hN0, hN]
      · replace hz2 := condF c4 hz2
        refine W_regionD tab_ok [none, none, none, none, none, none, none, some false, some false, some false] ?_
        simp only [push_cast, seval, ↓reduceIte, cast_lit, c4, hN0, hN]
        repeat (with_reducible refine And.intro (by first | (intro h0; simp only [h0, and_self]; done) | (intro h0; simp only [h0, Bool.not_false, Bool.not_true, Bool.true_and, Bool.and_true, true_and, and_true, and_self, imp_self, implies_true, bne_iff_ne, ne_eq, beq_iff_eq]; done) | (intros; simp_all; done) | exact True.intro) ?_)
        have hz2 := Option.some.inj hz2; subst hz2
        refine And.intro rfl (Fit2.of (fit_loc hU rfl rfl ?_) (by omega))
        simp only [push_cast, seval, ↓reduceIte, cast_lit, c4, hN0, hN]
    refine W_ret ?_
    try simp only [gthen, gblock]
    have h := Option.some.inj h; subst h
    refine fin_loc (.inr rfl) hU [.val (.bool z2)] (by omega) ?_
    simp only [push_cast, seval, ↓reduceIte, cast_lit, Try.results77, hN0, hN]
  · replace h := condF c27 h
    refine W_skip ?_
    try simp only [gthen, gblock]
    refine W_fit ⟨121, [], [(0, .val (.int .i64 a0)), (2, .val (.int .i64 a2)), (4, .ref n 0)]⟩ (Loc O n [some ⟨false, 63, 14, 1, [.val (.int .i64 a1.Kind), .val (.int .i64 a1.N), .sl a1.L.length (fl e_S_api_Tree a1.L), .val (.int .i64 a1.E.Kind), .val (.int .i64 a1.E.Old.Kind), .sl a1.E.Old.Words.length (fl (eI .u64) a1.E.Old.Words), .sl a1.E.Old.Kids.length (fl e_S_api_Tree a1.E.Old.Kids), .val (.int .i64 a1.E.New.Kind), .sl a1.E.New.Words.length (fl (eI .u64) a1.E.New.Words), .sl a1.E.New.Kids.length (fl e_S_api_Tree a1.E.New.Kids), .sl a1.E.Words.length (fl e_S_api_WordEdit a1.E.Words), .sl a1.E.Kids.length (fl e_S_api_KidEdit a1.E.Kids), .val (.int .i64 a1.E.List_), .sl a1.E.Ops.length (fl e_S_api_Op a1.E.Ops)]⟩]) (fit_loc hU rfl rfl ?_) ?_
    · simp only [push_cast, seval, ↓reduceIte, cast_lit, hN0, hN]
    refine W_seqK ?_
    refine W_sq [0, 2, 4, 42] (W_regionD tab_ok [none, none, none, none, none, none] ?_)
    simp only [push_cast, seval, ↓reduceIte, cast_lit, hN0, hN]
    repeat (with_reducible refine And.intro (by first | (intro h0; simp only [h0, and_self]; done) | (intro h0; simp only [h0, Bool.not_false, Bool.not_true, Bool.true_and, Bool.and_true, true_and, and_true, and_self, imp_self, implies_true, bne_iff_ne, ne_eq, beq_iff_eq]; done) | (intros; simp_all; done) | exact True.intro) ?_)
    refine W_cond (t := (cond (cond (a1.N != 0) true (decide (a1.Kind < 0))) true (decide (3 < a1.Kind)))) rfl (fun c26 => ?_) (fun c26 => ?_)
    · replace h := condT c26 h
      refine W_sq [6] (W_regionD tab_ok [] ?_)
      simp only [push_cast, seval, ↓reduceIte, cast_lit, hN0, hN]
      refine W_ret ?_
      try simp only [gthen, gblock]
      have h := Option.some.inj h; subst h
      refine fin_loc (.inr rfl) hU [.val (.bool false)] (by omega) ?_
      simp only [push_cast, seval, ↓reduceIte, cast_lit, Try.results77, hN0, hN]
    · replace h := condF c26 h
      refine W_skip ?_
      try simp only [gthen, gblock]
      refine W_fit ⟨121, [], [(0, .val (.int .i64 a0)), (2, .val (.int .i64 a2)), (4, .ref n 0)]⟩ (Loc O n [some ⟨false, 63, 14, 1, [.val (.int .i64 a1.Kind), .val (.int .i64 a1.N), .sl a1.L.length (fl e_S_api_Tree a1.L), .val (.int .i64 a1.E.Kind), .val (.int .i64 a1.E.Old.Kind), .sl a1.E.Old.Words.length (fl (eI .u64) a1.E.Old.Words), .sl a1.E.Old.Kids.length (fl e_S_api_Tree a1.E.Old.Kids), .val (.int .i64 a1.E.New.Kind), .sl a1.E.New.Words.length (fl (eI .u64) a1.E.New.Words), .sl a1.E.New.Kids.length (fl e_S_api_Tree a1.E.New.Kids), .sl a1.E.Words.length (fl e_S_api_WordEdit a1.E.Words), .sl a1.E.Kids.length (fl e_S_api_KidEdit a1.E.Kids), .val (.int .i64 a1.E.List_), .sl a1.E.Ops.length (fl e_S_api_Op a1.E.Ops)]⟩]) (fit_loc hU rfl rfl ?_) ?_
      · simp only [push_cast, seval, ↓reduceIte, cast_lit, hN0, hN]
      refine W_seqK ?_
      refine W_sq [0, 2, 4, 45] (W_regionD tab_ok [] ?_)
      simp only [push_cast, seval, ↓reduceIte, cast_lit, hN0, hN]
      refine W_cond (t := (decide (a1.Kind < 3))) rfl (fun c25 => ?_) (fun c25 => ?_)
      · replace h := condT c25 h
        refine W_seqK ?_
        refine W_sq [0, 4, 7] (W_regionD tab_ok [] ?_)
        simp only [push_cast, seval, ↓reduceIte, cast_lit, hN0, hN]
        refine W_fit ⟨121, [], [(0, .val (.int .i64 a0)), (4, .ref n 0), (7, .val (.int .i64 0))]⟩ (Loc O n [some ⟨false, 63, 14, 1, [.val (.int .i64 a1.Kind), .val (.int .i64 a1.N), .sl a1.L.length (fl e_S_api_Tree a1.L), .val (.int .i64 a1.E.Kind), .val (.int .i64 a1.E.Old.Kind), .sl a1.E.Old.Words.length (fl (eI .u64) a1.E.Old.Words), .sl a1.E.Old.Kids.length (fl e_S_api_Tree a1.E.Old.Kids), .val (.int .i64 a1.E.New.Kind), .sl a1.E.New.Words.length (fl (eI .u64) a1.E.New.Words), .sl a1.E.New.Kids.length (fl e_S_api_Tree a1.E.New.Kids), .sl a1.E.Words.length (fl e_S_api_WordEdit a1.E.Words), .sl a1.E.Kids.length (fl e_S_api_KidEdit a1.E.Kids), .val (.int .i64 a1.E.List_), .sl a1.E.Ops.length (fl e_S_api_Op a1.E.Ops)]⟩]) (fit_loc hU rfl rfl ?_) ?_
        · simp only [push_cast, seval, ↓reduceIte, cast_lit, hN0, hN]
        obtain ⟨z13, hz13, h⟩ := bC h
        refine W_sumB (J := (SumJ (fun z13 => JR n (⟨121, [], [(6, .val (.bool false))]⟩ : Env) (Loc O n [none]) (n + 1)) (fun z13 => JX 0 n (⟨121, [], [(4, .ref n 0)]⟩ : Env) (Loc O n [some ⟨false, 63, 14, 1, [.val (.int .i64 a1.Kind), .val (.int .i64 a1.N), .sl a1.L.length (fl e_S_api_Tree a1.L), .val (.int .i64 a1.E.Kind), .val (.int .i64 a1.E.Old.Kind), .sl a1.E.Old.Words.length (fl (eI .u64) a1.E.Old.Words), .sl a1.E.Old.Kids.length (fl e_S_api_Tree a1.E.Old.Kids), .val (.int .i64 a1.E.New.Kind), .sl a1.E.New.Words.length (fl (eI .u64) a1.E.New.Words), .sl a1.E.New.Kids.length (fl e_S_api_Tree a1.E.New.Kids), .sl a1.E.Words.length (fl e_S_api_WordEdit a1.E.Words), .sl a1.E.Kids.length (fl e_S_api_KidEdit a1.E.Kids), .val (.int .i64 a1.E.List_), .sl a1.E.Ops.length (fl e_S_api_Op a1.E.Ops)]⟩]) (n + 1)))) (z := z13) ?_ fun hw => ?_
        · refine W_loopJ hz13 (fun s0_ => ⟨121, [], [(0, .val (.int .i64 a0)), (4, .ref n 0), (7, .val (.int .i64 s0_))]⟩) (fun s0_ => (Loc O n [some ⟨false, 63, 14, 1, [.val (.int .i64 a1.Kind), .val (.int .i64 a1.N), .sl a1.L.length (fl e_S_api_Tree a1.L), .val (.int .i64 a1.E.Kind), .val (.int .i64 a1.E.Old.Kind), .sl a1.E.Old.Words.length (fl (eI .u64) a1.E.Old.Words), .sl a1.E.Old.Kids.length (fl e_S_api_Tree a1.E.Old.Kids), .val (.int .i64 a1.E.New.Kind), .sl a1.E.New.Words.length (fl (eI .u64) a1.E.New.Words), .sl a1.E.New.Kids.length (fl e_S_api_Tree a1.E.New.Kids), .sl a1.E.Words.length (fl e_S_api_WordEdit a1.E.Words), .sl a1.E.Kids.length (fl e_S_api_KidEdit a1.E.Kids), .val (.int .i64 a1.E.List_), .sl a1.E.Ops.length (fl e_S_api_Op a1.E.Ops)]⟩])) (SumJ (fun z13 => JR n (⟨121, [], [(6, .val (.bool false))]⟩ : Env) (Loc O n [none]) (n + 1)) (fun z13 => JX 0 n (⟨121, [], [(4, .ref n 0)]⟩ : Env) (Loc O n [some ⟨false, 63, 14, 1, [.val (.int .i64 a1.Kind), .val (.int .i64 a1.N), .sl a1.L.length (fl e_S_api_Tree a1.L), .val (.int .i64 a1.E.Kind), .val (.int .i64 a1.E.Old.Kind), .sl a1.E.Old.Words.length (fl (eI .u64) a1.E.Old.Words), .sl a1.E.Old.Kids.length (fl e_S_api_Tree a1.E.Old.Kids), .val (.int .i64 a1.E.New.Kind), .sl a1.E.New.Words.length (fl (eI .u64) a1.E.New.Words), .sl a1.E.New.Kids.length (fl e_S_api_Tree a1.E.New.Kids), .sl a1.E.Words.length (fl e_S_api_WordEdit a1.E.Words), .sl a1.E.Kids.length (fl e_S_api_KidEdit a1.E.Kids), .val (.int .i64 a1.E.List_), .sl a1.E.Ops.length (fl e_S_api_Op a1.E.Ops)]⟩]) (n + 1))) ?_
          intro s0_ x0_ hs0_
          unfold b_centoref20_op_L0 at hs0_
          try dsimp only
          refine W_seqK ?_
          refine W_sq [0, 4, 7, 50] (W_regionD tab_ok [] ?_)
          simp only [push_cast, seval, ↓reduceIte, cast_lit, hN0, hN]
          refine W_cond (t := (decide (s0_ < (a1.L.length : Int)))) rfl (fun c12 => ?_) (fun c12 => ?_)
          · replace hs0_ := condT c12 hs0_
            refine W_skip ?_
            try simp only [gthen, gblock]
            refine W_fit ⟨121, [], [(0, .val (.int .i64 a0)), (4, .ref n 0), (7, .val (.int .i64 s0_))]⟩ (Loc O n [some ⟨false, 63, 14, 1, [.val (.int .i64 a1.Kind), .val (.int .i64 a1.N), .sl a1.L.length (fl e_S_api_Tree a1.L), .val (.int .i64 a1.E.Kind), .val (.int .i64 a1.E.Old.Kind), .sl a1.E.Old.Words.length (fl (eI .u64) a1.E.Old.Words), .sl a1.E.Old.Kids.length (fl e_S_api_Tree a1.E.Old.Kids), .val (.int .i64 a1.E.New.Kind), .sl a1.E.New.Words.length (fl (eI .u64) a1.E.New.Words), .sl a1.E.New.Kids.length (fl e_S_api_Tree a1.E.New.Kids), .sl a1.E.Words.length (fl e_S_api_WordEdit a1.E.Words), .sl a1.E.Kids.length (fl e_S_api_KidEdit a1.E.Kids), .val (.int .i64 a1.E.List_), .sl a1.E.Ops.length (fl e_S_api_Op a1.E.Ops)]⟩]) (fit_loc hU rfl rfl ?_) ?_
            · simp only [push_cast, seval, ↓reduceIte, cast_lit, hN0, hN]
            refine W_seqK ?_
            refine W_block ?_
            refine W_seqK ?_
            obtain ⟨l9, al9, bl9, cl9, gl9, hs0_⟩ := bS (lo := (some (.i64, s0_))) (hi := (some (.i64, (IntKind.i64.wrap (s0_ + 1))))) (f := e_S_api_Tree) rfl rfl tkind23 tab25 (fun _ => rfl) hs0_
            obtain ⟨y10, hy10, hs0_⟩ := bC hs0_
            refine W_regionD tab_ok [] ?_
            simp only [push_cast, seval, ↓reduceIte, cast_lit, al9, bl9, cl9, gl9, hN0, hN]
            refine GCalls.argsW ?_ ((ok_centoref07_Right hy10).then ?_)
            · simp only [push_cast, seval, ↓reduceIte, cast_lit, al9, bl9, cl9, gl9, hN0, hN]
            simp only [push_cast, seval, ↓reduceIte, cast_lit, al9, bl9, cl9, gl9, hN0, hN]
            refine W_fit ⟨121, [], [(0, .val (.int .i64 a0)), (4, .ref n 0), (7, .val (.int .i64 s0_)), (62, .val (.bool (!y10)))]⟩ (Loc O n [some ⟨false, 63, 14, 1, [.val (.int .i64 a1.Kind), .val (.int .i64 a1.N), .sl a1.L.length (fl e_S_api_Tree a1.L), .val (.int .i64 a1.E.Kind), .val (.int .i64 a1.E.Old.Kind), .sl a1.E.Old.Words.length (fl (eI .u64) a1.E.Old.Words), .sl a1.E.Old.Kids.length (fl e_S_api_Tree a1.E.Old.Kids), .val (.int .i64 a1.E.New.Kind), .sl a1.E.New.Words.length (fl (eI .u64) a1.E.New.Words), .sl a1.E.New.Kids.length (fl e_S_api_Tree a1.E.New.Kids), .sl a1.E.Words.length (fl e_S_api_WordEdit a1.E.Words), .sl a1.E.Kids.length (fl e_S_api_KidEdit a1.E.Kids), .val (.int .i64 a1.E.List_), .sl a1.E.Ops.length (fl e_S_api_Op a1.E.Ops)]⟩]) (fit_loc hU rfl rfl ?_) ?_
            · simp only [push_cast, seval, ↓reduceIte, cast_lit, al9, bl9, cl9, gl9, hN0, hN]
            refine W_cond (t := (!y10)) rfl (fun c11 => ?_) (fun c11 => ?_)
            · replace hs0_ := condT c11 hs0_
              refine W_sq [6] (W_regionD tab_ok [] ?_)
              simp only [push_cast, seval, ↓reduceIte, cast_lit, hN0, hN]
              refine W_ret ?_
              try simp only [gthen, gblock]
              have hs0_ := Option.some.inj hs0_; subst hs0_
              refine And.intro (fun h => by cases h) (And.intro rfl (Fit2.of (fit_loc hU rfl rfl ?_) (by omega)))
              simp only [push_cast, seval, ↓reduceIte, cast_lit, hN0, hN]
            · replace hs0_ := condF c11 hs0_
              refine W_skip ?_
              try simp only [gthen, gblock]
              refine W_fit ⟨121, [], [(0, .val (.int .i64 a0)), (4, .ref n 0), (7, .val (.int .i64 s0_))]⟩ (Loc O n [some ⟨false, 63, 14, 1, [.val (.int .i64 a1.Kind), .val (.int .i64 a1.N), .sl a1.L.length (fl e_S_api_Tree a1.L), .val (.int .i64 a1.E.Kind), .val (.int .i64 a1.E.Old.Kind), .sl a1.E.Old.Words.length (fl (eI .u64) a1.E.Old.Words), .sl a1.E.Old.Kids.length (fl e_S_api_Tree a1.E.Old.Kids), .val (.int .i64 a1.E.New.Kind), .sl a1.E.New.Words.length (fl (eI .u64) a1.E.New.Words), .sl a1.E.New.Kids.length (fl e_S_api_Tree a1.E.New.Kids), .sl a1.E.Words.length (fl e_S_api_WordEdit a1.E.Words), .sl a1.E.Kids.length (fl e_S_api_KidEdit a1.E.Kids), .val (.int .i64 a1.E.List_), .sl a1.E.Ops.length (fl e_S_api_Op a1.E.Ops)]⟩]) (fit_loc hU rfl rfl ?_) ?_
              · simp only [push_cast, seval, ↓reduceIte, cast_lit, hN0, hN]
              refine W_regionD tab_ok [] ?_
              simp only [push_cast, seval, ↓reduceIte, cast_lit, hN0, hN]
              have hs0_ := Option.some.inj hs0_; subst hs0_
              refine And.intro rfl (Fit2.of (fit_loc hU rfl rfl ?_) (by omega))
              simp only [push_cast, seval, ↓reduceIte, cast_lit, hN0, hN]
          · replace hs0_ := condF c12 hs0_
            refine W_exit ?_
            try simp only [gthen, gblock, ↓reduceIte, Nat.reduceEqDiff]
            have hs0_ := Option.some.inj hs0_; subst hs0_
            refine And.intro (fun h => by cases h) (And.intro rfl (Fit2.of (fit_loc hU rfl rfl ?_) (by omega)))
            simp only [push_cast, seval, ↓reduceIte, cast_lit, hN0, hN]
        rcases z13 with z13 | z13
        · dsimp only [SumJ] at hw h
          refine W_blockR hw ?_
          try simp only [gthen, gblock, ↓reduceIte, Nat.reduceEqDiff]
          have h := Option.some.inj h; subst h
          refine fin_loc (.inr rfl) hU [.val (.bool false)] (by omega) ?_
          simp only [push_cast, seval, ↓reduceIte, cast_lit, Try.results77, hN0, hN]
        · dsimp only [SumJ] at hw h
          refine W_blockX hw ?_
          try simp only [gthen, gblock, ↓reduceIte, Nat.reduceEqDiff]
          refine W_fit ⟨121, [], [(4, .ref n 0)]⟩ (Loc O n [some ⟨false, 63, 14, 1, [.val (.int .i64 a1.Kind), .val (.int .i64 a1.N), .sl a1.L.length (fl e_S_api_Tree a1.L), .val (.int .i64 a1.E.Kind), .val (.int .i64 a1.E.Old.Kind), .sl a1.E.Old.Words.length (fl (eI .u64) a1.E.Old.Words), .sl a1.E.Old.Kids.length (fl e_S_api_Tree a1.E.Old.Kids), .val (.int .i64 a1.E.New.Kind), .sl a1.E.New.Words.length (fl (eI .u64) a1.E.New.Words), .sl a1.E.New.Kids.length (fl e_S_api_Tree a1.E.New.Kids), .sl a1.E.Words.length (fl e_S_api_WordEdit a1.E.Words), .sl a1.E.Kids.length (fl e_S_api_KidEdit a1.E.Kids), .val (.int .i64 a1.E.List_), .sl a1.E.Ops.length (fl e_S_api_Op a1.E.Ops)]⟩]) (fit_loc hU rfl rfl ?_) ?_
          · simp only [push_cast, seval, ↓reduceIte, cast_lit, hN0, hN]
          obtain ⟨z15, hz15, h⟩ := bC h
          refine W_seqN (E' := ⟨121, [], [(6, .val (.bool z15))]⟩) (O' := (Loc O n [none])) (n0 := (n + 1)) ?_ ?_
          · rcases Bool.eq_false_or_eq_true (decide (0 < (a1.L.length : Int))) with c17 | c17
            · replace hz15 := condT c17 hz15
              obtain ⟨y16, hy16, hz15⟩ := bC hz15
              refine W_regionD tab_ok [some true, some true, some true] ?_
              simp only [push_cast, seval, ↓reduceIte, cast_lit, c17, hN0, hN]
              refine (ok_centoref20_same hy16).then ?_
              simp only [push_cast, seval, ↓reduceIte, cast_lit, c17, hN0, hN]
              have hz15 := Option.some.inj hz15; subst hz15
              refine And.intro rfl (Fit2.of (fit_loc hU rfl rfl ?_) (by omega))
              simp only [push_cast, seval, ↓reduceIte, cast_lit, c17, hN0, hN]
            · replace hz15 := condF c17 hz15
              refine W_regionD tab_ok [some false, some false, some false] ?_
              simp only [push_cast, seval, ↓reduceIte, cast_lit, c17, hN0, hN]
              have hz15 := Option.some.inj hz15; subst hz15
              refine And.intro rfl (Fit2.of (fit_loc hU rfl rfl ?_) (by omega))
              simp only [push_cast, seval, ↓reduceIte, cast_lit, c17, hN0, hN]
          refine W_ret ?_
          try simp only [gthen, gblock]
          have h := Option.some.inj h; subst h
          refine fin_loc (.inr rfl) hU [.val (.bool z15)] (by omega) ?_
          simp only [push_cast, seval, ↓reduceIte, cast_lit, Try.results77, hN0, hN]
      · replace h := condF c25 h
        refine W_skip ?_
        try simp only [gthen, gblock]
        refine W_fit ⟨121, [], [(0, .val (.int .i64 a0)), (2, .val (.int .i64 a2)), (4, .ref n 0)]⟩ (Loc O n [some ⟨false, 63, 14, 1, [.val (.int .i64 a1.Kind), .val (.int .i64 a1.N), .sl a1.L.length (fl e_S_api_Tree a1.L), .val (.int .i64 a1.E.Kind), .val (.int .i64 a1.E.Old.Kind), .sl a1.E.Old.Words.length (fl (eI .u64) a1.E.Old.Words), .sl a1.E.Old.Kids.length (fl e_S_api_Tree a1.E.Old.Kids), .val (.int .i64 a1.E.New.Kind), .sl a1.E.New.Words.length (fl (eI .u64) a1.E.New.Words), .sl a1.E.New.Kids.length (fl e_S_api_Tree a1.E.New.Kids), .sl a1.E.Words.length (fl e_S_api_WordEdit a1.E.Words), .sl a1.E.Kids.length (fl e_S_api_KidEdit a1.E.Kids), .val (.int .i64 a1.E.List_), .sl a1.E.Ops.length (fl e_S_api_Op a1.E.Ops)]⟩]) (fit_loc hU rfl rfl ?_) ?_
        · simp only [push_cast, seval, ↓reduceIte, cast_lit, hN0, hN]
        refine W_seqK ?_
        obtain ⟨z19, hz19, h⟩ := bC h
        refine W_seqN (E' := ⟨121, [], [(0, .val (.int .i64 a0)), (4, .ref n 0), (92, .val (.bool z19))]⟩) (O' := (Loc O n [some ⟨false, 63, 14, 1, [.val (.int .i64 a1.Kind), .val (.int .i64 a1.N), .sl a1.L.length (fl e_S_api_Tree a1.L), .val (.int .i64 a1.E.Kind), .val (.int .i64 a1.E.Old.Kind), .sl a1.E.Old.Words.length (fl (eI .u64) a1.E.Old.Words), .sl a1.E.Old.Kids.length (fl e_S_api_Tree a1.E.Old.Kids), .val (.int .i64 a1.E.New.Kind), .sl a1.E.New.Words.length (fl (eI .u64) a1.E.New.Words), .sl a1.E.New.Kids.length (fl e_S_api_Tree a1.E.New.Kids), .sl a1.E.Words.length (fl e_S_api_WordEdit a1.E.Words), .sl a1.E.Kids.length (fl e_S_api_KidEdit a1.E.Kids), .val (.int .i64 a1.E.List_), .sl a1.E.Ops.length (fl e_S_api_Op a1.E.Ops)]⟩])) (n0 := (n + 1)) ?_ ?_
        · rcases Bool.eq_false_or_eq_true (decide (0 < (a1.L.length : Int))) with c21 | c21
          · replace hz19 := condT c21 hz19
            refine W_regionD tab_ok [none, none, none, none, none, none, some false, some false, some false, some false, some false] ?_
            simp only [push_cast, seval, ↓reduceIte, cast_lit, c21, hN0, hN]
            repeat (with_reducible refine And.intro (by first | (intro h0; simp only [h0, and_self]; done) | (intro h0; simp only [h0, Bool.not_false, Bool.not_true, Bool.true_and, Bool.and_true, true_and, and_true, and_self, imp_self, implies_true, bne_iff_ne, ne_eq, beq_iff_eq]; done) | (intros; simp_all; done) | exact True.intro) ?_)
            have hz19 := Option.some.inj hz19; subst hz19
            refine And.intro rfl (Fit2.of (fit_loc hU rfl rfl ?_) (by omega))
            simp only [push_cast, seval, ↓reduceIte, cast_lit, c21, hN0, hN]
          · replace hz19 := condF c21 hz19
            rcases Bool.eq_false_or_eq_true (a1.E.Kind == 0) with c22 | c22
            · replace hz19 := condT c22 hz19
              try rw [c22] at c21
              refine W_regionD tab_ok [none, none, none, none, none, none, some false, some false, some false, some false, some false] ?_
              simp only [push_cast, seval, ↓reduceIte, cast_lit, c21, c22, hN0, hN]
              repeat (with_reducible refine And.intro (by first | (intro h0; simp only [h0, and_self]; done) | (intro h0; simp only [h0, Bool.not_false, Bool.not_true, Bool.true_and, Bool.and_true, true_and, and_true, and_self, imp_self, implies_true, bne_iff_ne, ne_eq, beq_iff_eq]; done) | (intros; simp_all; done) | exact True.intro) ?_)
              have hz19 := Option.some.inj hz19; subst hz19
              refine And.intro rfl (Fit2.of (fit_loc hU rfl rfl ?_) (by omega))
              simp only [push_cast, seval, ↓reduceIte, cast_lit, c21, c22, hN0, hN]
            · replace hz19 := condF c22 hz19
              try rw [c22] at c21
              rcases Bool.eq_false_or_eq_true (decide (a0 ≤ 7)) with c23 | c23
              · replace hz19 := condT c23 hz19
                try rw [c23] at c21
                try rw [c23] at c22
                refine W_regionD tab_ok [none, none, none, none, none, none, some false, some false, some false, some false, some false] ?_
                simp only [push_cast, seval, ↓reduceIte, cast_lit, c21, c22, c23, hN0, hN]
                repeat (with_reducible refine And.intro (by first | (intro h0; simp only [h0, and_self]; done) | (intro h0; simp only [h0, Bool.not_false, Bool.not_true, Bool.true_and, Bool.and_true, true_and, and_true, and_self, imp_self, implies_true, bne_iff_ne, ne_eq, beq_iff_eq]; done) | (intros; simp_all; done) | exact True.intro) ?_)
                have hz19 := Option.some.inj hz19; subst hz19
                refine And.intro rfl (Fit2.of (fit_loc hU rfl rfl ?_) (by omega))
                simp only [push_cast, seval, ↓reduceIte, cast_lit, c21, c22, c23, hN0, hN]
              · replace hz19 := condF c23 hz19
                try rw [c23] at c21
                try rw [c23] at c22
                obtain ⟨y20, hy20, hz19⟩ := bC hz19
                refine W_regionD tab_ok [none, none, none, none, none, none, some true, some true, some true, some true, some true] ?_
                simp only [push_cast, seval, ↓reduceIte, cast_lit, c21, c22, c23, hN0, hN]
                repeat (with_reducible refine And.intro (by first | (intro h0; simp only [h0, and_self]; done) | (intro h0; simp only [h0, Bool.not_false, Bool.not_true, Bool.true_and, Bool.and_true, true_and, and_true, and_self, imp_self, implies_true, bne_iff_ne, ne_eq, beq_iff_eq]; done) | (intros; simp_all; done) | exact True.intro) ?_)
                refine (ok_r_centoref20_Right hy20).then ?_
                simp only [push_cast, seval, ↓reduceIte, cast_lit, c21, c22, c23, hN0, hN]
                repeat (with_reducible refine And.intro (by first | (intro h0; simp only [h0, and_self]; done) | (intro h0; simp only [h0, Bool.not_false, Bool.not_true, Bool.true_and, Bool.and_true, true_and, and_true, and_self, imp_self, implies_true, bne_iff_ne, ne_eq, beq_iff_eq]; done) | (intros; simp_all; done) | exact True.intro) ?_)
                have hz19 := Option.some.inj hz19; subst hz19
                refine And.intro rfl (Fit2.of (fit_loc hU rfl rfl ?_) (by omega))
                simp only [push_cast, seval, ↓reduceIte, cast_lit, c21, c22, c23, hN0, hN]
        refine W_cond (t := z19) rfl (fun c24 => ?_) (fun c24 => ?_)
        · replace h := condT c24 h
          refine W_sq [6] (W_regionD tab_ok [] ?_)
          simp only [push_cast, seval, ↓reduceIte, cast_lit, hN0, hN]
          refine W_ret ?_
          try simp only [gthen, gblock]
          have h := Option.some.inj h; subst h
          refine fin_loc (.inr rfl) hU [.val (.bool false)] (by omega) ?_
          simp only [push_cast, seval, ↓reduceIte, cast_lit, Try.results77, hN0, hN]
        · replace h := condF c24 h
          refine W_skip ?_
          try simp only [gthen, gblock]
          refine W_fit ⟨121, [], [(0, .val (.int .i64 a0)), (4, .ref n 0)]⟩ (Loc O n [some ⟨false, 63, 14, 1, [.val (.int .i64 a1.Kind), .val (.int .i64 a1.N), .sl a1.L.length (fl e_S_api_Tree a1.L), .val (.int .i64 a1.E.Kind), .val (.int .i64 a1.E.Old.Kind), .sl a1.E.Old.Words.length (fl (eI .u64) a1.E.Old.Words), .sl a1.E.Old.Kids.length (fl e_S_api_Tree a1.E.Old.Kids), .val (.int .i64 a1.E.New.Kind), .sl a1.E.New.Words.length (fl (eI .u64) a1.E.New.Words), .sl a1.E.New.Kids.length (fl e_S_api_Tree a1.E.New.Kids), .sl a1.E.Words.length (fl e_S_api_WordEdit a1.E.Words), .sl a1.E.Kids.length (fl e_S_api_KidEdit a1.E.Kids), .val (.int .i64 a1.E.List_), .sl a1.E.Ops.length (fl e_S_api_Op a1.E.Ops)]⟩]) (fit_loc hU rfl rfl ?_) ?_
          · simp only [push_cast, seval, ↓reduceIte, cast_lit, hN0, hN]
          refine W_sq [6] (W_regionD tab_ok [none, none, none, none, none, none, none, none, none, none, none, none, none, none, none, none, none, none, none, none, none, none] ?_)
          simp only [push_cast, seval, ↓reduceIte, cast_lit, hN0, hN]
          repeat (with_reducible refine And.intro (by first | (intro h0; simp only [h0, and_self]; done) | (intro h0; simp only [h0, Bool.not_false, Bool.not_true, Bool.true_and, Bool.and_true, true_and, and_true, and_self, imp_self, implies_true, bne_iff_ne, ne_eq, beq_iff_eq]; done) | (intros; simp_all; done) | exact True.intro) ?_)
          refine W_ret ?_
          try simp only [gthen, gblock]
          have h := Option.some.inj h; subst h
          refine fin_loc (.inr rfl) hU [.val (.bool (cond (cond (a0 == 8) true (a1.E.Kind == 2)) true (cond (cond (a1.E.Kind == 1) (a1.E.Old.Kind == 1) false) (a1.E.New.Kind == 1) false)))] (by omega) ?_
          simp only [push_cast, seval, ↓reduceIte, cast_lit, Try.results77, hN0, hN]

theorem lv_centoref20_Right_ok : ∀ k, (∀ {a0 : S_api_Edit} {a1 : Int} {r : Bool} {O : Objs} {n : Nat}, (lv_centoref20_Right k).1 a0 a1 = some r → GTo Try.prog 45 [.agg [.val (.int .i64 a0.Kind), .val (.int .i64 a0.Old.Kind), .sl a0.Old.Words.length (fl (eI .u64) a0.Old.Words), .sl a0.Old.Kids.length (fl e_S_api_Tree a0.Old.Kids), .val (.int .i64 a0.New.Kind), .sl a0.New.Words.length (fl (eI .u64) a0.New.Words), .sl a0.New.Kids.length (fl e_S_api_Tree a0.New.Kids), .sl a0.Words.length (fl e_S_api_WordEdit a0.Words), .sl a0.Kids.length (fl e_S_api_KidEdit a0.Kids), .val (.int .i64 a0.List_), .sl a0.Ops.length (fl e_S_api_Op a0.Ops)], .val (.int .i64 a1)] O n (.val (.bool r)) O n) ∧ (∀ {a0 : Int} {a1 : S_api_Op} {a2 : Int} {r : Bool} {O : Objs} {n : Nat}, (lv_centoref20_Right k).2 a0 a1 a2 = some r → GTo Try.prog 77 [.val (.int .i64 a0), .agg [.val (.int .i64 a1.Kind), .val (.int .i64 a1.N), .sl a1.L.length (fl e_S_api_Tree a1.L), .val (.int .i64 a1.E.Kind), .val (.int .i64 a1.E.Old.Kind), .sl a1.E.Old.Words.length (fl (eI .u64) a1.E.Old.Words), .sl a1.E.Old.Kids.length (fl e_S_api_Tree a1.E.Old.Kids), .val (.int .i64 a1.E.New.Kind), .sl a1.E.New.Words.length (fl (eI .u64) a1.E.New.Words), .sl a1.E.New.Kids.length (fl e_S_api_Tree a1.E.New.Kids), .sl a1.E.Words.length (fl e_S_api_WordEdit a1.E.Words), .sl a1.E.Kids.length (fl e_S_api_KidEdit a1.E.Kids), .val (.int .i64 a1.E.List_), .sl a1.E.Ops.length (fl e_S_api_Op a1.E.Ops)], .val (.int .i64 a2)] O n (.val (.bool r)) O n) := fun k => by
  induction k with
  | zero => exact ⟨@fun a0 a1 r O n h => (nomatch (show (none : Option _) = some _ from h)), @fun a0 a1 a2 r O n h => (nomatch (show (none : Option _) = some _ from h))⟩
  | succ k ih => exact ⟨@fun a0 a1 r O n h => okb_centoref20_Right (ih.1) (ih.2)  h, @fun a0 a1 a2 r O n h => okb_centoref20_op (ih.1) (ih.2)  h⟩

theorem ok_centoref20_Right {a0 : S_api_Edit} {a1 : Int} {r : Bool} {O : Objs} {n : Nat} (h : m_centoref20_Right a0 a1 = some r) : GTo Try.prog 45 [.agg [.val (.int .i64 a0.Kind), .val (.int .i64 a0.Old.Kind), .sl a0.Old.Words.length (fl (eI .u64) a0.Old.Words), .sl a0.Old.Kids.length (fl e_S_api_Tree a0.Old.Kids), .val (.int .i64 a0.New.Kind), .sl a0.New.Words.length (fl (eI .u64) a0.New.Words), .sl a0.New.Kids.length (fl e_S_api_Tree a0.New.Kids), .sl a0.Words.length (fl e_S_api_WordEdit a0.Words), .sl a0.Kids.length (fl e_S_api_KidEdit a0.Kids), .val (.int .i64 a0.List_), .sl a0.Ops.length (fl e_S_api_Op a0.Ops)], .val (.int .i64 a1)] O n (.val (.bool r)) O n := by
  obtain ⟨k, hk⟩ := lim_some h
  exact (lv_centoref20_Right_ok k).1  hk

theorem ok_centoref20_op {a0 : Int} {a1 : S_api_Op} {a2 : Int} {r : Bool} {O : Objs} {n : Nat} (h : m_centoref20_op a0 a1 a2 = some r) : GTo Try.prog 77 [.val (.int .i64 a0), .agg [.val (.int .i64 a1.Kind), .val (.int .i64 a1.N), .sl a1.L.length (fl e_S_api_Tree a1.L), .val (.int .i64 a1.E.Kind), .val (.int .i64 a1.E.Old.Kind), .sl a1.E.Old.Words.length (fl (eI .u64) a1.E.Old.Words), .sl a1.E.Old.Kids.length (fl e_S_api_Tree a1.E.Old.Kids), .val (.int .i64 a1.E.New.Kind), .sl a1.E.New.Words.length (fl (eI .u64) a1.E.New.Words), .sl a1.E.New.Kids.length (fl e_S_api_Tree a1.E.New.Kids), .sl a1.E.Words.length (fl e_S_api_WordEdit a1.E.Words), .sl a1.E.Kids.length (fl e_S_api_KidEdit a1.E.Kids), .val (.int .i64 a1.E.List_), .sl a1.E.Ops.length (fl e_S_api_Op a1.E.Ops)], .val (.int .i64 a2)] O n (.val (.bool r)) O n := by
  obtain ⟨k, hk⟩ := lim_some h
  exact (lv_centoref20_Right_ok k).2  hk

theorem okb_edit_Count {r_edit_Count : (S_api_Edit → Option Int)} (ok_r_edit_Count : ∀ {a0 : S_api_Edit} {r : Int} {O : Objs} {n : Nat}, r_edit_Count a0 = some r → GTo Try.prog 46 [.agg [.val (.int .i64 a0.Kind), .val (.int .i64 a0.Old.Kind), .sl a0.Old.Words.length (fl (eI .u64) a0.Old.Words), .sl a0.Old.Kids.length (fl e_S_api_Tree a0.Old.Kids), .val (.int .i64 a0.New.Kind), .sl a0.New.Words.length (fl (eI .u64) a0.New.Words), .sl a0.New.Kids.length (fl e_S_api_Tree a0.New.Kids), .sl a0.Words.length (fl e_S_api_WordEdit a0.Words), .sl a0.Kids.length (fl e_S_api_KidEdit a0.Kids), .val (.int .i64 a0.List_), .sl a0.Ops.length (fl e_S_api_Op a0.Ops)]] O n (.val (.int .i64 r)) O n) {a0 : S_api_Edit} {r : Int} {O : Objs} {n : Nat} (h : b_edit_Count r_edit_Count a0 = some r) : GTo Try.prog 46 [.agg [.val (.int .i64 a0.Kind), .val (.int .i64 a0.Old.Kind), .sl a0.Old.Words.length (fl (eI .u64) a0.Old.Words), .sl a0.Old.Kids.length (fl e_S_api_Tree a0.Old.Kids), .val (.int .i64 a0.New.Kind), .sl a0.New.Words.length (fl (eI .u64) a0.New.Words), .sl a0.New.Kids.length (fl e_S_api_Tree a0.New.Kids), .sl a0.Words.length (fl e_S_api_WordEdit a0.Words), .sl a0.Kids.length (fl e_S_api_KidEdit a0.Kids), .val (.int .i64 a0.List_), .sl a0.Ops.length (fl e_S_api_Op a0.Ops)]] O n (.val (.int .i64 r)) O n := by
  unfold b_edit_Count at h
  refine fn_of tab_ok Try.call46 Try.func46 rfl (Nat.le_of_ble_eq_true rfl) (Nat.le_refl _) fun hU => ?_
  have hN0 : O n = none := hU.fresh _ (Nat.le_refl _)
  have hN : ∀ k, O (n + k) = none := fun k => hU.fresh _ (Nat.le_add_right _ _)
  show W _ _ _ _ ⟨46, [], [(0, .agg [.val (.int .i64 a0.Kind), .val (.int .i64 a0.Old.Kind), .sl a0.Old.Words.length (fl (eI .u64) a0.Old.Words), .sl a0.Old.Kids.length (fl e_S_api_Tree a0.Old.Kids), .val (.int .i64 a0.New.Kind), .sl a0.New.Words.length (fl (eI .u64) a0.New.Words), .sl a0.New.Kids.length (fl e_S_api_Tree a0.New.Kids), .sl a0.Words.length (fl e_S_api_WordEdit a0.Words), .sl a0.Kids.length (fl e_S_api_KidEdit a0.Kids), .val (.int .i64 a0.List_), .sl a0.Ops.length (fl e_S_api_Op a0.Ops)])]⟩ (Loc O n []) _
  refine W_sq [1] (W_regionD tab_ok [] ?_)
  simp only [push_cast, seval, ↓reduceIte, cast_lit, hN0, hN]
  refine W_sq [1, 3] (W_regionD tab_ok [] ?_)
  simp only [push_cast, seval, ↓reduceIte, cast_lit, hN0, hN]
  refine W_seqK ?_
  refine W_sq [1, 3, 17, 18, 19] (W_regionD tab_ok [] ?_)
  simp only [push_cast, seval, ↓reduceIte, cast_lit, hN0, hN]
  refine W_fit ⟨46, [], [(1, .ref n 0), (3, .val (.int .i64 (IntKind.i64.wrap ((IntKind.i64.wrap (1 + (a0.Words.length : Int))) + (a0.Ops.length : Int))))), (17, .sl a0.Kids.length (fl e_S_api_KidEdit a0.Kids)), (18, .val (.int .i64 (a0.Kids.length : Int))), (19, .val (.int .i64 0))]⟩ (Loc O n [some ⟨false, 53, 11, 1, [.val (.int .i64 a0.Kind), .val (.int .i64 a0.Old.Kind), .sl a0.Old.Words.length (fl (eI .u64) a0.Old.Words), .sl a0.Old.Kids.length (fl e_S_api_Tree a0.Old.Kids), .val (.int .i64 a0.New.Kind), .sl a0.New.Words.length (fl (eI .u64) a0.New.Words), .sl a0.New.Kids.length (fl e_S_api_Tree a0.New.Kids), .sl a0.Words.length (fl e_S_api_WordEdit a0.Words), .sl a0.Kids.length (fl e_S_api_KidEdit a0.Kids), .val (.int .i64 a0.List_), .sl a0.Ops.length (fl e_S_api_Op a0.Ops)]⟩]) (fit_loc hU rfl rfl ?_) ?_
  · simp only [push_cast, seval, ↓reduceIte, cast_lit, hN0, hN]
  obtain ⟨z5, hz5, h⟩ := bC h
  refine W_blockX (E' := ⟨46, [], [(1, .ref n 0), (3, .val (.int .i64 z5))]⟩) (O' := (Loc O n [some ⟨false, 53, 11, 1, [.val (.int .i64 a0.Kind), .val (.int .i64 a0.Old.Kind), .sl a0.Old.Words.length (fl (eI .u64) a0.Old.Words), .sl a0.Old.Kids.length (fl e_S_api_Tree a0.Old.Kids), .val (.int .i64 a0.New.Kind), .sl a0.New.Words.length (fl (eI .u64) a0.New.Words), .sl a0.New.Kids.length (fl e_S_api_Tree a0.New.Kids), .sl a0.Words.length (fl e_S_api_WordEdit a0.Words), .sl a0.Kids.length (fl e_S_api_KidEdit a0.Kids), .val (.int .i64 a0.List_), .sl a0.Ops.length (fl e_S_api_Op a0.Ops)]⟩])) (n0 := (n + 1)) ?_ ?_
  · refine W_loopJ hz5 (fun s0_ => ⟨46, [], [(1, .ref n 0), (3, .val (.int .i64 s0_.1)), (17, .sl a0.Kids.length (fl e_S_api_KidEdit a0.Kids)), (18, .val (.int .i64 (a0.Kids.length : Int))), (19, .val (.int .i64 s0_.2))]⟩) (fun s0_ => (Loc O n [some ⟨false, 53, 11, 1, [.val (.int .i64 a0.Kind), .val (.int .i64 a0.Old.Kind), .sl a0.Old.Words.length (fl (eI .u64) a0.Old.Words), .sl a0.Old.Kids.length (fl e_S_api_Tree a0.Old.Kids), .val (.int .i64 a0.New.Kind), .sl a0.New.Words.length (fl (eI .u64) a0.New.Words), .sl a0.New.Kids.length (fl e_S_api_Tree a0.New.Kids), .sl a0.Words.length (fl e_S_api_WordEdit a0.Words), .sl a0.Kids.length (fl e_S_api_KidEdit a0.Kids), .val (.int .i64 a0.List_), .sl a0.Ops.length (fl e_S_api_Op a0.Ops)]⟩])) (fun z5 => JX 0 n (⟨46, [], [(1, .ref n 0), (3, .val (.int .i64 z5))]⟩ : Env) (Loc O n [some ⟨false, 53, 11, 1, [.val (.int .i64 a0.Kind), .val (.int .i64 a0.Old.Kind), .sl a0.Old.Words.length (fl (eI .u64) a0.Old.Words), .sl a0.Old.Kids.length (fl e_S_api_Tree a0.Old.Kids), .val (.int .i64 a0.New.Kind), .sl a0.New.Words.length (fl (eI .u64) a0.New.Words), .sl a0.New.Kids.length (fl e_S_api_Tree a0.New.Kids), .sl a0.Words.length (fl e_S_api_WordEdit a0.Words), .sl a0.Kids.length (fl e_S_api_KidEdit a0.Kids), .val (.int .i64 a0.List_), .sl a0.Ops.length (fl e_S_api_Op a0.Ops)]⟩]) (n + 1)) ?_
    intro s0_ x0_ hs0_
    unfold b_edit_Count_L0 at hs0_
    try dsimp only
    refine W_sq [1, 3, 17, 18, 19, 20] (W_regionD tab_ok [] ?_)
    simp only [push_cast, seval, ↓reduceIte, cast_lit, hN0, hN]
    refine W_seqK ?_
    refine W_cond (t := (decide (s0_.2 < (a0.Kids.length : Int)))) rfl (fun c4 => ?_) (fun c4 => ?_)
    · replace hs0_ := condT c4 hs0_
      refine W_skip ?_
      try simp only [gthen, gblock]
      refine W_fit ⟨46, [], [(1, .ref n 0), (3, .val (.int .i64 s0_.1)), (17, .sl a0.Kids.length (fl e_S_api_KidEdit a0.Kids)), (18, .val (.int .i64 (a0.Kids.length : Int))), (19, .val (.int .i64 s0_.2))]⟩ (Loc O n [some ⟨false, 53, 11, 1, [.val (.int .i64 a0.Kind), .val (.int .i64 a0.Old.Kind), .sl a0.Old.Words.length (fl (eI .u64) a0.Old.Words), .sl a0.Old.Kids.length (fl e_S_api_Tree a0.Old.Kids), .val (.int .i64 a0.New.Kind), .sl a0.New.Words.length (fl (eI .u64) a0.New.Words), .sl a0.New.Kids.length (fl e_S_api_Tree a0.New.Kids), .sl a0.Words.length (fl e_S_api_WordEdit a0.Words), .sl a0.Kids.length (fl e_S_api_KidEdit a0.Kids), .val (.int .i64 a0.List_), .sl a0.Ops.length (fl e_S_api_Op a0.Ops)]⟩]) (fit_loc hU rfl rfl ?_) ?_
      · simp only [push_cast, seval, ↓reduceIte, cast_lit, hN0, hN]
      refine W_seqK ?_
      refine W_block ?_
      refine W_seqK ?_
      obtain ⟨x2, hx2, ax2, bx2, cx2, hs0_⟩ := bE (f := e_S_api_KidEdit) tab61 (fun _ => rfl) (by decide) hs0_
      refine W_regionD tab_ok [] ?_
      simp only [push_cast, Nat.reduceAdd, Nat.reduceSub, Nat.reduceMul, Nat.reduceLeDiff, Nat.reduceLT, Nat.reduceEqDiff, ↓reduceIte, reduceCtorEq, Int.reduceBEq, Int.reduceBNe, Nat.reduceBEq, Int.reduceLE, Int.reduceLT, Int.reduceEq, Int.reduceNe, Int.reduceNeg, Nat.reduceDiv, Nat.reduceMod, Nat.reducePow, cast_lit, ax2, bx2, cx2, hN0, hN]
      refine W_fit ⟨46, [], [(1, .ref n 0), (3, .val (.int .i64 s0_.1)), (5, .ref (n + 1) 0), (17, .sl a0.Kids.length (fl e_S_api_KidEdit a0.Kids)), (18, .val (.int .i64 (a0.Kids.length : Int))), (19, .val (.int .i64 s0_.2))]⟩ (Loc O n [some ⟨false, 53, 11, 1, [.val (.int .i64 a0.Kind), .val (.int .i64 a0.Old.Kind), .sl a0.Old.Words.length (fl (eI .u64) a0.Old.Words), .sl a0.Old.Kids.length (fl e_S_api_Tree a0.Old.Kids), .val (.int .i64 a0.New.Kind), .sl a0.New.Words.length (fl (eI .u64) a0.New.Words), .sl a0.New.Kids.length (fl e_S_api_Tree a0.New.Kids), .sl a0.Words.length (fl e_S_api_WordEdit a0.Words), .sl a0.Kids.length (fl e_S_api_KidEdit a0.Kids), .val (.int .i64 a0.List_), .sl a0.Ops.length (fl e_S_api_Op a0.Ops)]⟩, some ⟨false, 61, 12, 1, [.val (.int .i64 x2.At), .val (.int .i64 x2.E.Kind), .val (.int .i64 x2.E.Old.Kind), .sl x2.E.Old.Words.length (fl (eI .u64) x2.E.Old.Words), .sl x2.E.Old.Kids.length (fl e_S_api_Tree x2.E.Old.Kids), .val (.int .i64 x2.E.New.Kind), .sl x2.E.New.Words.length (fl (eI .u64) x2.E.New.Words), .sl x2.E.New.Kids.length (fl e_S_api_Tree x2.E.New.Kids), .sl x2.E.Words.length (fl e_S_api_WordEdit x2.E.Words), .sl x2.E.Kids.length (fl e_S_api_KidEdit x2.E.Kids), .val (.int .i64 x2.E.List_), .sl x2.E.Ops.length (fl e_S_api_Op x2.E.Ops)]⟩]) (fit_loc hU rfl rfl ?_) ?_
      · simp only [push_cast, Nat.reduceAdd, Nat.reduceSub, Nat.reduceMul, Nat.reduceLeDiff, Nat.reduceLT, Nat.reduceEqDiff, ↓reduceIte, reduceCtorEq, Int.reduceBEq, Int.reduceBNe, Nat.reduceBEq, Int.reduceLE, Int.reduceLT, Int.reduceEq, Int.reduceNe, Int.reduceNeg, Nat.reduceDiv, Nat.reduceMod, Nat.reducePow, cast_lit, ax2, bx2, cx2, hN0, hN]
      obtain ⟨y3, hy3, hs0_⟩ := bC hs0_
      refine W_regionD tab_ok [] ?_
      simp only [push_cast, seval, ↓reduceIte, cast_lit, hN0, hN]
      refine (ok_r_edit_Count hy3).then ?_
      simp only [push_cast, seval, ↓reduceIte, cast_lit, hN0, hN]
      refine W_fit ⟨46, [], [(1, .ref n 0), (3, .val (.int .i64 (IntKind.i64.wrap (s0_.1 + y3)))), (17, .sl a0.Kids.length (fl e_S_api_KidEdit a0.Kids)), (18, .val (.int .i64 (a0.Kids.length : Int))), (19, .val (.int .i64 s0_.2))]⟩ (Loc O n [some ⟨false, 53, 11, 1, [.val (.int .i64 a0.Kind), .val (.int .i64 a0.Old.Kind), .sl a0.Old.Words.length (fl (eI .u64) a0.Old.Words), .sl a0.Old.Kids.length (fl e_S_api_Tree a0.Old.Kids), .val (.int .i64 a0.New.Kind), .sl a0.New.Words.length (fl (eI .u64) a0.New.Words), .sl a0.New.Kids.length (fl e_S_api_Tree a0.New.Kids), .sl a0.Words.length (fl e_S_api_WordEdit a0.Words), .sl a0.Kids.length (fl e_S_api_KidEdit a0.Kids), .val (.int .i64 a0.List_), .sl a0.Ops.length (fl e_S_api_Op a0.Ops)]⟩, none]) (fit_loc hU rfl rfl ?_) ?_
      · simp only [push_cast, seval, ↓reduceIte, cast_lit, hN0, hN]
      refine W_regionD tab_ok [] ?_
      simp only [push_cast, seval, ↓reduceIte, cast_lit, hN0, hN]
      have hs0_ := Option.some.inj hs0_; subst hs0_
      refine And.intro rfl (Fit2.of (fit_loc hU rfl rfl ?_) (by omega))
      simp only [push_cast, seval, ↓reduceIte, cast_lit, hN0, hN]
    · replace hs0_ := condF c4 hs0_
      refine W_exit ?_
      try simp only [gthen, gblock, ↓reduceIte, Nat.reduceEqDiff]
      have hs0_ := Option.some.inj hs0_; subst hs0_
      refine And.intro (fun h => by cases h) (And.intro rfl (Fit2.of (fit_loc hU rfl rfl ?_) (by omega)))
      simp only [push_cast, seval, ↓reduceIte, cast_lit, hN0, hN]
  try simp only [gthen, gblock, ↓reduceIte, Nat.reduceEqDiff]
  refine W_fit ⟨46, [], [(1, .ref n 0), (3, .val (.int .i64 z5))]⟩ (Loc O n [some ⟨false, 53, 11, 1, [.val (.int .i64 a0.Kind), .val (.int .i64 a0.Old.Kind), .sl a0.Old.Words.length (fl (eI .u64) a0.Old.Words), .sl a0.Old.Kids.length (fl e_S_api_Tree a0.Old.Kids), .val (.int .i64 a0.New.Kind), .sl a0.New.Words.length (fl (eI .u64) a0.New.Words), .sl a0.New.Kids.length (fl e_S_api_Tree a0.New.Kids), .sl a0.Words.length (fl e_S_api_WordEdit a0.Words), .sl a0.Kids.length (fl e_S_api_KidEdit a0.Kids), .val (.int .i64 a0.List_), .sl a0.Ops.length (fl e_S_api_Op a0.Ops)]⟩]) (fit_loc hU rfl rfl ?_) ?_
  · simp only [push_cast, seval, ↓reduceIte, cast_lit, hN0, hN]
  refine W_seqK ?_
  refine W_sq [3, 30, 31, 32] (W_regionD tab_ok [] ?_)
  simp only [push_cast, seval, ↓reduceIte, cast_lit, hN0, hN]
  refine W_fit ⟨46, [], [(3, .val (.int .i64 z5)), (30, .sl a0.Ops.length (fl e_S_api_Op a0.Ops)), (31, .val (.int .i64 (a0.Ops.length : Int))), (32, .val (.int .i64 0))]⟩ (Loc O n [none]) (fit_loc hU rfl rfl ?_) ?_
  · simp only [push_cast, seval, ↓reduceIte, cast_lit, hN0, hN]
  obtain ⟨z12, hz12, h⟩ := bC h
  refine W_blockX (E' := ⟨46, [], [(3, .val (.int .i64 z12))]⟩) (O' := (Loc O n [none])) (n0 := (n + 1)) ?_ ?_
  · refine W_loopJ hz12 (fun s1_ => ⟨46, [], [(3, .val (.int .i64 s1_.1)), (30, .sl a0.Ops.length (fl e_S_api_Op a0.Ops)), (31, .val (.int .i64 (a0.Ops.length : Int))), (32, .val (.int .i64 s1_.2))]⟩) (fun s1_ => (Loc O n [none])) (fun z12 => JX 2 n (⟨46, [], [(3, .val (.int .i64 z12))]⟩ : Env) (Loc O n [none]) (n + 1)) ?_
    intro s1_ x1_ hs1_
    unfold b_edit_Count_L1 at hs1_
    try dsimp only
    refine W_sq [3, 30, 31, 32, 33] (W_regionD tab_ok [] ?_)
    simp only [push_cast, seval, ↓reduceIte, cast_lit, hN0, hN]
    refine W_seqK ?_
    refine W_cond (t := (decide (s1_.2 < (a0.Ops.length : Int)))) rfl (fun c11 => ?_) (fun c11 => ?_)
    · replace hs1_ := condT c11 hs1_
      refine W_skip ?_
      try simp only [gthen, gblock]
      refine W_fit ⟨46, [], [(3, .val (.int .i64 s1_.1)), (30, .sl a0.Ops.length (fl e_S_api_Op a0.Ops)), (31, .val (.int .i64 (a0.Ops.length : Int))), (32, .val (.int .i64 s1_.2))]⟩ (Loc O n [none]) (fit_loc hU rfl rfl ?_) ?_
      · simp only [push_cast, seval, ↓reduceIte, cast_lit, hN0, hN]
      obtain ⟨z6, hz6, hs1_⟩ := bC hs1_
      refine W_seqN (E' := ⟨46, [], [(3, .val (.int .i64 z6)), (30, .sl a0.Ops.length (fl e_S_api_Op a0.Ops)), (31, .val (.int .i64 (a0.Ops.length : Int))), (32, .val (.int .i64 s1_.2))]⟩) (O' := (Loc O n [none, none])) (n0 := (n + 2)) ?_ ?_
      · refine W_block ?_
        refine W_seqK ?_
        obtain ⟨x8, hx8, ax8, bx8, cx8, hz6⟩ := bE (f := e_S_api_Op) tab63 (fun _ => rfl) (by decide) hz6
        refine W_regionD tab_ok [] ?_
        simp only [push_cast, Nat.reduceAdd, Nat.reduceSub, Nat.reduceMul, Nat.reduceLeDiff, Nat.reduceLT, Nat.reduceEqDiff, ↓reduceIte, reduceCtorEq, Int.reduceBEq, Int.reduceBNe, Nat.reduceBEq, Int.reduceLE, Int.reduceLT, Int.reduceEq, Int.reduceNe, Int.reduceNeg, Nat.reduceDiv, Nat.reduceMod, Nat.reducePow, cast_lit, ax8, bx8, cx8, hN0, hN]
        refine W_fit ⟨46, [], [(3, .val (.int .i64 s1_.1)), (7, .ref (n + 1) 0), (30, .sl a0.Ops.length (fl e_S_api_Op a0.Ops)), (31, .val (.int .i64 (a0.Ops.length : Int))), (32, .val (.int .i64 s1_.2))]⟩ (Loc O n [none, some ⟨false, 63, 14, 1, [.val (.int .i64 x8.Kind), .val (.int .i64 x8.N), .sl x8.L.length (fl e_S_api_Tree x8.L), .val (.int .i64 x8.E.Kind), .val (.int .i64 x8.E.Old.Kind), .sl x8.E.Old.Words.length (fl (eI .u64) x8.E.Old.Words), .sl x8.E.Old.Kids.length (fl e_S_api_Tree x8.E.Old.Kids), .val (.int .i64 x8.E.New.Kind), .sl x8.E.New.Words.length (fl (eI .u64) x8.E.New.Words), .sl x8.E.New.Kids.length (fl e_S_api_Tree x8.E.New.Kids), .sl x8.E.Words.length (fl e_S_api_WordEdit x8.E.Words), .sl x8.E.Kids.length (fl e_S_api_KidEdit x8.E.Kids), .val (.int .i64 x8.E.List_), .sl x8.E.Ops.length (fl e_S_api_Op x8.E.Ops)]⟩]) (fit_loc hU rfl rfl ?_) ?_
        · simp only [push_cast, Nat.reduceAdd, Nat.reduceSub, Nat.reduceMul, Nat.reduceLeDiff, Nat.reduceLT, Nat.reduceEqDiff, ↓reduceIte, reduceCtorEq, Int.reduceBEq, Int.reduceBNe, Nat.reduceBEq, Int.reduceLE, Int.reduceLT, Int.reduceEq, Int.reduceNe, Int.reduceNeg, Nat.reduceDiv, Nat.reduceMod, Nat.reducePow, cast_lit, ax8, bx8, cx8, hN0, hN]
        refine W_sq [3, 7, 30, 31, 32, 38] (W_regionD tab_ok [] ?_)
        simp only [push_cast, seval, ↓reduceIte, cast_lit, hN0, hN]
        refine W_cond (t := (x8.Kind == 3)) rfl (fun c10 => ?_) (fun c10 => ?_)
        · replace hz6 := condT c10 hz6
          obtain ⟨y9, hy9, hz6⟩ := bC hz6
          refine W_regionD tab_ok [] ?_
          simp only [push_cast, seval, ↓reduceIte, cast_lit, hN0, hN]
          refine (ok_r_edit_Count hy9).then ?_
          simp only [push_cast, seval, ↓reduceIte, cast_lit, hN0, hN]
          have hz6 := Option.some.inj hz6; subst hz6
          refine And.intro rfl (Fit2.of (fit_loc hU rfl rfl ?_) (by omega))
          simp only [push_cast, seval, ↓reduceIte, cast_lit, hN0, hN]
        · replace hz6 := condF c10 hz6
          refine W_skip ?_
          try simp only [gthen, gblock]
          have hz6 := Option.some.inj hz6; subst hz6
          refine And.intro rfl (Fit2.of (fit_loc hU rfl rfl ?_) (by omega))
          simp only [push_cast, seval, ↓reduceIte, cast_lit, hN0, hN]
      refine W_regionD tab_ok [] ?_
      simp only [push_cast, seval, ↓reduceIte, cast_lit, hN0, hN]
      have hs1_ := Option.some.inj hs1_; subst hs1_
      refine And.intro rfl (Fit2.of (fit_loc hU rfl rfl ?_) (by omega))
      simp only [push_cast, seval, ↓reduceIte, cast_lit, hN0, hN]
    · replace hs1_ := condF c11 hs1_
      refine W_exit ?_
      try simp only [gthen, gblock, ↓reduceIte, Nat.reduceEqDiff]
      have hs1_ := Option.some.inj hs1_; subst hs1_
      refine And.intro (fun h => by cases h) (And.intro rfl (Fit2.of (fit_loc hU rfl rfl ?_) (by omega)))
      simp only [push_cast, seval, ↓reduceIte, cast_lit, hN0, hN]
  try simp only [gthen, gblock, ↓reduceIte, Nat.reduceEqDiff]
  refine W_fit ⟨46, [], [(3, .val (.int .i64 z12))]⟩ (Loc O n [none]) (fit_loc hU rfl rfl ?_) ?_
  · simp only [push_cast, seval, ↓reduceIte, cast_lit, hN0, hN]
  refine W_sq [2] (W_regionD tab_ok [] ?_)
  simp only [push_cast, seval, ↓reduceIte, cast_lit, hN0, hN]
  refine W_ret ?_
  try simp only [gthen, gblock]
  have h := Option.some.inj h; subst h
  refine fin_loc (.inr rfl) hU [.val (.int .i64 z12)] (by omega) ?_
  simp only [push_cast, seval, ↓reduceIte, cast_lit, Try.results46, hN0, hN]

theorem lv_edit_Count_ok : ∀ k, (∀ {a0 : S_api_Edit} {r : Int} {O : Objs} {n : Nat}, (lv_edit_Count k) a0 = some r → GTo Try.prog 46 [.agg [.val (.int .i64 a0.Kind), .val (.int .i64 a0.Old.Kind), .sl a0.Old.Words.length (fl (eI .u64) a0.Old.Words), .sl a0.Old.Kids.length (fl e_S_api_Tree a0.Old.Kids), .val (.int .i64 a0.New.Kind), .sl a0.New.Words.length (fl (eI .u64) a0.New.Words), .sl a0.New.Kids.length (fl e_S_api_Tree a0.New.Kids), .sl a0.Words.length (fl e_S_api_WordEdit a0.Words), .sl a0.Kids.length (fl e_S_api_KidEdit a0.Kids), .val (.int .i64 a0.List_), .sl a0.Ops.length (fl e_S_api_Op a0.Ops)]] O n (.val (.int .i64 r)) O n) := fun k => by
  induction k with
  | zero => exact @fun a0 r O n h => (nomatch (show (none : Option _) = some _ from h))
  | succ k ih => exact @fun a0 r O n h => okb_edit_Count (ih)  h

theorem ok_edit_Count {a0 : S_api_Edit} {r : Int} {O : Objs} {n : Nat} (h : m_edit_Count a0 = some r) : GTo Try.prog 46 [.agg [.val (.int .i64 a0.Kind), .val (.int .i64 a0.Old.Kind), .sl a0.Old.Words.length (fl (eI .u64) a0.Old.Words), .sl a0.Old.Kids.length (fl e_S_api_Tree a0.Old.Kids), .val (.int .i64 a0.New.Kind), .sl a0.New.Words.length (fl (eI .u64) a0.New.Words), .sl a0.New.Kids.length (fl e_S_api_Tree a0.New.Kids), .sl a0.Words.length (fl e_S_api_WordEdit a0.Words), .sl a0.Kids.length (fl e_S_api_KidEdit a0.Kids), .val (.int .i64 a0.List_), .sl a0.Ops.length (fl e_S_api_Op a0.Ops)]] O n (.val (.int .i64 r)) O n := by
  obtain ⟨k, hk⟩ := lim_some h
  exact (lv_edit_Count_ok k)  hk

theorem okb_centoref20_Count {r_centoref20_Count : (S_api_Edit → Option Int)} (ok_r_centoref20_Count : ∀ {a0 : S_api_Edit} {r : Int} {O : Objs} {n : Nat}, r_centoref20_Count a0 = some r → GTo Try.prog 47 [.agg [.val (.int .i64 a0.Kind), .val (.int .i64 a0.Old.Kind), .sl a0.Old.Words.length (fl (eI .u64) a0.Old.Words), .sl a0.Old.Kids.length (fl e_S_api_Tree a0.Old.Kids), .val (.int .i64 a0.New.Kind), .sl a0.New.Words.length (fl (eI .u64) a0.New.Words), .sl a0.New.Kids.length (fl e_S_api_Tree a0.New.Kids), .sl a0.Words.length (fl e_S_api_WordEdit a0.Words), .sl a0.Kids.length (fl e_S_api_KidEdit a0.Kids), .val (.int .i64 a0.List_), .sl a0.Ops.length (fl e_S_api_Op a0.Ops)]] O n (.val (.int .i64 r)) O n) {a0 : S_api_Edit} {r : Int} {O : Objs} {n : Nat} (h : b_centoref20_Count r_centoref20_Count a0 = some r) : GTo Try.prog 47 [.agg [.val (.int .i64 a0.Kind), .val (.int .i64 a0.Old.Kind), .sl a0.Old.Words.length (fl (eI .u64) a0.Old.Words), .sl a0.Old.Kids.length (fl e_S_api_Tree a0.Old.Kids), .val (.int .i64 a0.New.Kind), .sl a0.New.Words.length (fl (eI .u64) a0.New.Words), .sl a0.New.Kids.length (fl e_S_api_Tree a0.New.Kids), .sl a0.Words.length (fl e_S_api_WordEdit a0.Words), .sl a0.Kids.length (fl e_S_api_KidEdit a0.Kids), .val (.int .i64 a0.List_), .sl a0.Ops.length (fl e_S_api_Op a0.Ops)]] O n (.val (.int .i64 r)) O n := by
  unfold b_centoref20_Count at h
  refine fn_of tab_ok Try.call47 Try.func47 rfl (Nat.le_of_ble_eq_true rfl) (Nat.le_refl _) fun hU => ?_
  have hN0 : O n = none := hU.fresh _ (Nat.le_refl _)
  have hN : ∀ k, O (n + k) = none := fun k => hU.fresh _ (Nat.le_add_right _ _)
  show W _ _ _ _ ⟨54, [], [(0, .agg [.val (.int .i64 a0.Kind), .val (.int .i64 a0.Old.Kind), .sl a0.Old.Words.length (fl (eI .u64) a0.Old.Words), .sl a0.Old.Kids.length (fl e_S_api_Tree a0.Old.Kids), .val (.int .i64 a0.New.Kind), .sl a0.New.Words.length (fl (eI .u64) a0.New.Words), .sl a0.New.Kids.length (fl e_S_api_Tree a0.New.Kids), .sl a0.Words.length (fl e_S_api_WordEdit a0.Words), .sl a0.Kids.length (fl e_S_api_KidEdit a0.Kids), .val (.int .i64 a0.List_), .sl a0.Ops.length (fl e_S_api_Op a0.Ops)])]⟩ (Loc O n []) _
  refine W_sq [1] (W_regionD tab_ok [] ?_)
  simp only [push_cast, seval, ↓reduceIte, cast_lit, hN0, hN]
  refine W_sq [1, 3] (W_regionD tab_ok [] ?_)
  simp only [push_cast, seval, ↓reduceIte, cast_lit, hN0, hN]
  refine W_seqK ?_
  refine W_sq [1, 3, 4] (W_regionD tab_ok [] ?_)
  simp only [push_cast, seval, ↓reduceIte, cast_lit, hN0, hN]
  refine W_fit ⟨54, [], [(1, .ref n 0), (3, .val (.int .i64 (IntKind.i64.wrap ((IntKind.i64.wrap (1 + (a0.Words.length : Int))) + (a0.Ops.length : Int))))), (4, .val (.int .i64 0))]⟩ (Loc O n [some ⟨false, 53, 11, 1, [.val (.int .i64 a0.Kind), .val (.int .i64 a0.Old.Kind), .sl a0.Old.Words.length (fl (eI .u64) a0.Old.Words), .sl a0.Old.Kids.length (fl e_S_api_Tree a0.Old.Kids), .val (.int .i64 a0.New.Kind), .sl a0.New.Words.length (fl (eI .u64) a0.New.Words), .sl a0.New.Kids.length (fl e_S_api_Tree a0.New.Kids), .sl a0.Words.length (fl e_S_api_WordEdit a0.Words), .sl a0.Kids.length (fl e_S_api_KidEdit a0.Kids), .val (.int .i64 a0.List_), .sl a0.Ops.length (fl e_S_api_Op a0.Ops)]⟩]) (fit_loc hU rfl rfl ?_) ?_
  · simp only [push_cast, seval, ↓reduceIte, cast_lit, hN0, hN]
  obtain ⟨z5, hz5, h⟩ := bC h
  refine W_blockX (E' := ⟨54, [], [(1, .ref n 0), (3, .val (.int .i64 z5))]⟩) (O' := (Loc O n [some ⟨false, 53, 11, 1, [.val (.int .i64 a0.Kind), .val (.int .i64 a0.Old.Kind), .sl a0.Old.Words.length (fl (eI .u64) a0.Old.Words), .sl a0.Old.Kids.length (fl e_S_api_Tree a0.Old.Kids), .val (.int .i64 a0.New.Kind), .sl a0.New.Words.length (fl (eI .u64) a0.New.Words), .sl a0.New.Kids.length (fl e_S_api_Tree a0.New.Kids), .sl a0.Words.length (fl e_S_api_WordEdit a0.Words), .sl a0.Kids.length (fl e_S_api_KidEdit a0.Kids), .val (.int .i64 a0.List_), .sl a0.Ops.length (fl e_S_api_Op a0.Ops)]⟩])) (n0 := (n + 1)) ?_ ?_
  · refine W_loopJ hz5 (fun s0_ => ⟨54, [], [(1, .ref n 0), (3, .val (.int .i64 s0_.1)), (4, .val (.int .i64 s0_.2))]⟩) (fun s0_ => (Loc O n [some ⟨false, 53, 11, 1, [.val (.int .i64 a0.Kind), .val (.int .i64 a0.Old.Kind), .sl a0.Old.Words.length (fl (eI .u64) a0.Old.Words), .sl a0.Old.Kids.length (fl e_S_api_Tree a0.Old.Kids), .val (.int .i64 a0.New.Kind), .sl a0.New.Words.length (fl (eI .u64) a0.New.Words), .sl a0.New.Kids.length (fl e_S_api_Tree a0.New.Kids), .sl a0.Words.length (fl e_S_api_WordEdit a0.Words), .sl a0.Kids.length (fl e_S_api_KidEdit a0.Kids), .val (.int .i64 a0.List_), .sl a0.Ops.length (fl e_S_api_Op a0.Ops)]⟩])) (fun z5 => JX 0 n (⟨54, [], [(1, .ref n 0), (3, .val (.int .i64 z5))]⟩ : Env) (Loc O n [some ⟨false, 53, 11, 1, [.val (.int .i64 a0.Kind), .val (.int .i64 a0.Old.Kind), .sl a0.Old.Words.length (fl (eI .u64) a0.Old.Words), .sl a0.Old.Kids.length (fl e_S_api_Tree a0.Old.Kids), .val (.int .i64 a0.New.Kind), .sl a0.New.Words.length (fl (eI .u64) a0.New.Words), .sl a0.New.Kids.length (fl e_S_api_Tree a0.New.Kids), .sl a0.Words.length (fl e_S_api_WordEdit a0.Words), .sl a0.Kids.length (fl e_S_api_KidEdit a0.Kids), .val (.int .i64 a0.List_), .sl a0.Ops.length (fl e_S_api_Op a0.Ops)]⟩]) (n + 1)) ?_
    intro s0_ x0_ hs0_
    unfold b_centoref20_Count_L0 at hs0_
    try dsimp only
    refine W_seqK ?_
    refine W_sq [1, 3, 4, 18] (W_regionD tab_ok [] ?_)
    simp only [push_cast, seval, ↓reduceIte, cast_lit, hN0, hN]
    refine W_cond (t := (decide (s0_.2 < (a0.Kids.length : Int)))) rfl (fun c4 => ?_) (fun c4 => ?_)
    · replace hs0_ := condT c4 hs0_
      refine W_skip ?_
      try simp only [gthen, gblock]
      refine W_fit ⟨54, [], [(1, .ref n 0), (3, .val (.int .i64 s0_.1)), (4, .val (.int .i64 s0_.2))]⟩ (Loc O n [some ⟨false, 53, 11, 1, [.val (.int .i64 a0.Kind), .val (.int .i64 a0.Old.Kind), .sl a0.Old.Words.length (fl (eI .u64) a0.Old.Words), .sl a0.Old.Kids.length (fl e_S_api_Tree a0.Old.Kids), .val (.int .i64 a0.New.Kind), .sl a0.New.Words.length (fl (eI .u64) a0.New.Words), .sl a0.New.Kids.length (fl e_S_api_Tree a0.New.Kids), .sl a0.Words.length (fl e_S_api_WordEdit a0.Words), .sl a0.Kids.length (fl e_S_api_KidEdit a0.Kids), .val (.int .i64 a0.List_), .sl a0.Ops.length (fl e_S_api_Op a0.Ops)]⟩]) (fit_loc hU rfl rfl ?_) ?_
      · simp only [push_cast, seval, ↓reduceIte, cast_lit, hN0, hN]
      refine W_seqK ?_
      refine W_block ?_
      obtain ⟨x1, hx1, ax1, bx1, cx1, hs0_⟩ := bE (f := e_S_api_KidEdit) tab61 (fun _ => rfl) (by decide) hs0_
      have g2 := gpart_fld (f := e_S_api_KidEdit) (off := 1) (sz := 12) tab53 (fun _ => rfl) (by decide) (by decide) hx1
      obtain ⟨y3, hy3, hs0_⟩ := bC hs0_
      refine W_regionD tab_ok [] ?_
      simp only [push_cast, Nat.reduceAdd, Nat.reduceSub, Nat.reduceMul, Nat.reduceLeDiff, Nat.reduceLT, Nat.reduceEqDiff, ↓reduceIte, reduceCtorEq, Int.reduceBEq, Int.reduceBNe, Nat.reduceBEq, Int.reduceLE, Int.reduceLT, Int.reduceEq, Int.reduceNe, Int.reduceNeg, Nat.reduceDiv, Nat.reduceMod, Nat.reducePow, cast_lit, ax1, bx1, cx1, g2, hN0, hN]
      refine (ok_r_centoref20_Count hy3).then ?_
      simp only [push_cast, Nat.reduceAdd, Nat.reduceSub, Nat.reduceMul, Nat.reduceLeDiff, Nat.reduceLT, Nat.reduceEqDiff, ↓reduceIte, reduceCtorEq, Int.reduceBEq, Int.reduceBNe, Nat.reduceBEq, Int.reduceLE, Int.reduceLT, Int.reduceEq, Int.reduceNe, Int.reduceNeg, Nat.reduceDiv, Nat.reduceMod, Nat.reducePow, cast_lit, ax1, bx1, cx1, g2, hN0, hN]
      refine W_fit ⟨54, [], [(1, .ref n 0), (3, .val (.int .i64 (IntKind.i64.wrap (s0_.1 + y3)))), (4, .val (.int .i64 s0_.2))]⟩ (Loc O n [some ⟨false, 53, 11, 1, [.val (.int .i64 a0.Kind), .val (.int .i64 a0.Old.Kind), .sl a0.Old.Words.length (fl (eI .u64) a0.Old.Words), .sl a0.Old.Kids.length (fl e_S_api_Tree a0.Old.Kids), .val (.int .i64 a0.New.Kind), .sl a0.New.Words.length (fl (eI .u64) a0.New.Words), .sl a0.New.Kids.length (fl e_S_api_Tree a0.New.Kids), .sl a0.Words.length (fl e_S_api_WordEdit a0.Words), .sl a0.Kids.length (fl e_S_api_KidEdit a0.Kids), .val (.int .i64 a0.List_), .sl a0.Ops.length (fl e_S_api_Op a0.Ops)]⟩]) (fit_loc hU rfl rfl ?_) ?_
      · simp only [push_cast, Nat.reduceAdd, Nat.reduceSub, Nat.reduceMul, Nat.reduceLeDiff, Nat.reduceLT, Nat.reduceEqDiff, ↓reduceIte, reduceCtorEq, Int.reduceBEq, Int.reduceBNe, Nat.reduceBEq, Int.reduceLE, Int.reduceLT, Int.reduceEq, Int.reduceNe, Int.reduceNeg, Nat.reduceDiv, Nat.reduceMod, Nat.reducePow, cast_lit, ax1, bx1, cx1, g2, hN0, hN]
      refine W_regionD tab_ok [] ?_
      simp only [push_cast, seval, ↓reduceIte, cast_lit, hN0, hN]
      have hs0_ := Option.some.inj hs0_; subst hs0_
      refine And.intro rfl (Fit2.of (fit_loc hU rfl rfl ?_) (by omega))
      simp only [push_cast, seval, ↓reduceIte, cast_lit, hN0, hN]
    · replace hs0_ := condF c4 hs0_
      refine W_exit ?_
      try simp only [gthen, gblock, ↓reduceIte, Nat.reduceEqDiff]
      have hs0_ := Option.some.inj hs0_; subst hs0_
      refine And.intro (fun h => by cases h) (And.intro rfl (Fit2.of (fit_loc hU rfl rfl ?_) (by omega)))
      simp only [push_cast, seval, ↓reduceIte, cast_lit, hN0, hN]
  try simp only [gthen, gblock, ↓reduceIte, Nat.reduceEqDiff]
  refine W_fit ⟨54, [], [(1, .ref n 0), (3, .val (.int .i64 z5))]⟩ (Loc O n [some ⟨false, 53, 11, 1, [.val (.int .i64 a0.Kind), .val (.int .i64 a0.Old.Kind), .sl a0.Old.Words.length (fl (eI .u64) a0.Old.Words), .sl a0.Old.Kids.length (fl e_S_api_Tree a0.Old.Kids), .val (.int .i64 a0.New.Kind), .sl a0.New.Words.length (fl (eI .u64) a0.New.Words), .sl a0.New.Kids.length (fl e_S_api_Tree a0.New.Kids), .sl a0.Words.length (fl e_S_api_WordEdit a0.Words), .sl a0.Kids.length (fl e_S_api_KidEdit a0.Kids), .val (.int .i64 a0.List_), .sl a0.Ops.length (fl e_S_api_Op a0.Ops)]⟩]) (fit_loc hU rfl rfl ?_) ?_
  · simp only [push_cast, seval, ↓reduceIte, cast_lit, hN0, hN]
  refine W_seqK ?_
  refine W_sq [1, 3, 5] (W_regionD tab_ok [] ?_)
  simp only [push_cast, seval, ↓reduceIte, cast_lit, hN0, hN]
  refine W_fit ⟨54, [], [(1, .ref n 0), (3, .val (.int .i64 z5)), (5, .val (.int .i64 0))]⟩ (Loc O n [some ⟨false, 53, 11, 1, [.val (.int .i64 a0.Kind), .val (.int .i64 a0.Old.Kind), .sl a0.Old.Words.length (fl (eI .u64) a0.Old.Words), .sl a0.Old.Kids.length (fl e_S_api_Tree a0.Old.Kids), .val (.int .i64 a0.New.Kind), .sl a0.New.Words.length (fl (eI .u64) a0.New.Words), .sl a0.New.Kids.length (fl e_S_api_Tree a0.New.Kids), .sl a0.Words.length (fl e_S_api_WordEdit a0.Words), .sl a0.Kids.length (fl e_S_api_KidEdit a0.Kids), .val (.int .i64 a0.List_), .sl a0.Ops.length (fl e_S_api_Op a0.Ops)]⟩]) (fit_loc hU rfl rfl ?_) ?_
  · simp only [push_cast, seval, ↓reduceIte, cast_lit, hN0, hN]
  obtain ⟨z16, hz16, h⟩ := bC h
  refine W_blockX (E' := ⟨54, [], [(3, .val (.int .i64 z16))]⟩) (O' := (Loc O n [none])) (n0 := (n + 1)) ?_ ?_
  · refine W_loopJ hz16 (fun s1_ => ⟨54, [], [(1, .ref n 0), (3, .val (.int .i64 s1_.1)), (5, .val (.int .i64 s1_.2))]⟩) (fun s1_ => (Loc O n [some ⟨false, 53, 11, 1, [.val (.int .i64 a0.Kind), .val (.int .i64 a0.Old.Kind), .sl a0.Old.Words.length (fl (eI .u64) a0.Old.Words), .sl a0.Old.Kids.length (fl e_S_api_Tree a0.Old.Kids), .val (.int .i64 a0.New.Kind), .sl a0.New.Words.length (fl (eI .u64) a0.New.Words), .sl a0.New.Kids.length (fl e_S_api_Tree a0.New.Kids), .sl a0.Words.length (fl e_S_api_WordEdit a0.Words), .sl a0.Kids.length (fl e_S_api_KidEdit a0.Kids), .val (.int .i64 a0.List_), .sl a0.Ops.length (fl e_S_api_Op a0.Ops)]⟩])) (fun z16 => JX 2 n (⟨54, [], [(3, .val (.int .i64 z16))]⟩ : Env) (Loc O n [none]) (n + 1)) ?_
    intro s1_ x1_ hs1_
    unfold b_centoref20_Count_L1 at hs1_
    try dsimp only
    refine W_seqK ?_
    refine W_sq [1, 3, 5, 34] (W_regionD tab_ok [] ?_)
    simp only [push_cast, seval, ↓reduceIte, cast_lit, hN0, hN]
    refine W_cond (t := (decide (s1_.2 < (a0.Ops.length : Int)))) rfl (fun c15 => ?_) (fun c15 => ?_)
    · replace hs1_ := condT c15 hs1_
      refine W_skip ?_
      try simp only [gthen, gblock]
      refine W_fit ⟨54, [], [(1, .ref n 0), (3, .val (.int .i64 s1_.1)), (5, .val (.int .i64 s1_.2))]⟩ (Loc O n [some ⟨false, 53, 11, 1, [.val (.int .i64 a0.Kind), .val (.int .i64 a0.Old.Kind), .sl a0.Old.Words.length (fl (eI .u64) a0.Old.Words), .sl a0.Old.Kids.length (fl e_S_api_Tree a0.Old.Kids), .val (.int .i64 a0.New.Kind), .sl a0.New.Words.length (fl (eI .u64) a0.New.Words), .sl a0.New.Kids.length (fl e_S_api_Tree a0.New.Kids), .sl a0.Words.length (fl e_S_api_WordEdit a0.Words), .sl a0.Kids.length (fl e_S_api_KidEdit a0.Kids), .val (.int .i64 a0.List_), .sl a0.Ops.length (fl e_S_api_Op a0.Ops)]⟩]) (fit_loc hU rfl rfl ?_) ?_
      · simp only [push_cast, seval, ↓reduceIte, cast_lit, hN0, hN]
      obtain ⟨z6, hz6, hs1_⟩ := bC hs1_
      refine W_seqN (E' := ⟨54, [], [(1, .ref n 0), (3, .val (.int .i64 z6)), (5, .val (.int .i64 s1_.2))]⟩) (O' := (Loc O n [some ⟨false, 53, 11, 1, [.val (.int .i64 a0.Kind), .val (.int .i64 a0.Old.Kind), .sl a0.Old.Words.length (fl (eI .u64) a0.Old.Words), .sl a0.Old.Kids.length (fl e_S_api_Tree a0.Old.Kids), .val (.int .i64 a0.New.Kind), .sl a0.New.Words.length (fl (eI .u64) a0.New.Words), .sl a0.New.Kids.length (fl e_S_api_Tree a0.New.Kids), .sl a0.Words.length (fl e_S_api_WordEdit a0.Words), .sl a0.Kids.length (fl e_S_api_KidEdit a0.Kids), .val (.int .i64 a0.List_), .sl a0.Ops.length (fl e_S_api_Op a0.Ops)]⟩])) (n0 := (n + 1)) ?_ ?_
      · refine W_block ?_
        obtain ⟨x9, hx9, ax9, bx9, cx9, hz6⟩ := bE (f := e_S_api_Op) tab63 (fun _ => rfl) (by decide) hz6
        have g10 := gpart_fld0 (f := e_S_api_Op) (sz := 14) tab3 (fun _ => rfl) (by decide) (by decide) hx9
        refine W_sq [1, 3, 5, 43] (W_regionD tab_ok [] ?_)
        simp only [push_cast, Nat.reduceAdd, Nat.reduceSub, Nat.reduceMul, Nat.reduceLeDiff, Nat.reduceLT, Nat.reduceEqDiff, ↓reduceIte, reduceCtorEq, Int.reduceBEq, Int.reduceBNe, Nat.reduceBEq, Int.reduceLE, Int.reduceLT, Int.reduceEq, Int.reduceNe, Int.reduceNeg, Nat.reduceDiv, Nat.reduceMod, Nat.reducePow, cast_lit, ax9, bx9, cx9, g10, hN0, hN]
        refine W_cond (t := (x9.Kind == 3)) rfl (fun c14 => ?_) (fun c14 => ?_)
        · replace hz6 := condT c14 hz6
          obtain ⟨x11, hx11, ax11, bx11, cx11, hz6⟩ := bE (f := e_S_api_Op) tab63 (fun _ => rfl) (by decide) hz6
          have g12 := gpart_fld (f := e_S_api_Op) (off := 3) (sz := 14) tab53 (fun _ => rfl) (by decide) (by decide) hx11
          obtain ⟨y13, hy13, hz6⟩ := bC hz6
          refine W_regionD tab_ok [] ?_
          simp only [push_cast, Nat.reduceAdd, Nat.reduceSub, Nat.reduceMul, Nat.reduceLeDiff, Nat.reduceLT, Nat.reduceEqDiff, ↓reduceIte, reduceCtorEq, Int.reduceBEq, Int.reduceBNe, Nat.reduceBEq, Int.reduceLE, Int.reduceLT, Int.reduceEq, Int.reduceNe, Int.reduceNeg, Nat.reduceDiv, Nat.reduceMod, Nat.reducePow, cast_lit, ax11, bx11, cx11, g12, hN0, hN]
          refine (ok_r_centoref20_Count hy13).then ?_
          simp only [push_cast, Nat.reduceAdd, Nat.reduceSub, Nat.reduceMul, Nat.reduceLeDiff, Nat.reduceLT, Nat.reduceEqDiff, ↓reduceIte, reduceCtorEq, Int.reduceBEq, Int.reduceBNe, Nat.reduceBEq, Int.reduceLE, Int.reduceLT, Int.reduceEq, Int.reduceNe, Int.reduceNeg, Nat.reduceDiv, Nat.reduceMod, Nat.reducePow, cast_lit, ax11, bx11, cx11, g12, hN0, hN]
          have hz6 := Option.some.inj hz6; subst hz6
          refine And.intro rfl (Fit2.of (fit_loc hU rfl rfl ?_) (by omega))
          simp only [push_cast, Nat.reduceAdd, Nat.reduceSub, Nat.reduceMul, Nat.reduceLeDiff, Nat.reduceLT, Nat.reduceEqDiff, ↓reduceIte, reduceCtorEq, Int.reduceBEq, Int.reduceBNe, Nat.reduceBEq, Int.reduceLE, Int.reduceLT, Int.reduceEq, Int.reduceNe, Int.reduceNeg, Nat.reduceDiv, Nat.reduceMod, Nat.reducePow, cast_lit, ax11, bx11, cx11, g12, hN0, hN]
        · replace hz6 := condF c14 hz6
          refine W_skip ?_
          try simp only [gthen, gblock]
          have hz6 := Option.some.inj hz6; subst hz6
          refine And.intro rfl (Fit2.of (fit_loc hU rfl rfl ?_) (by omega))
          simp only [push_cast, seval, ↓reduceIte, cast_lit, hN0, hN]
      refine W_regionD tab_ok [] ?_
      simp only [push_cast, seval, ↓reduceIte, cast_lit, hN0, hN]
      have hs1_ := Option.some.inj hs1_; subst hs1_
      refine And.intro rfl (Fit2.of (fit_loc hU rfl rfl ?_) (by omega))
      simp only [push_cast, seval, ↓reduceIte, cast_lit, hN0, hN]
    · replace hs1_ := condF c15 hs1_
      refine W_exit ?_
      try simp only [gthen, gblock, ↓reduceIte, Nat.reduceEqDiff]
      have hs1_ := Option.some.inj hs1_; subst hs1_
      refine And.intro (fun h => by cases h) (And.intro rfl (Fit2.of (fit_loc hU rfl rfl ?_) (by omega)))
      simp only [push_cast, seval, ↓reduceIte, cast_lit, hN0, hN]
  try simp only [gthen, gblock, ↓reduceIte, Nat.reduceEqDiff]
  refine W_fit ⟨54, [], [(3, .val (.int .i64 z16))]⟩ (Loc O n [none]) (fit_loc hU rfl rfl ?_) ?_
  · simp only [push_cast, seval, ↓reduceIte, cast_lit, hN0, hN]
  refine W_sq [2] (W_regionD tab_ok [] ?_)
  simp only [push_cast, seval, ↓reduceIte, cast_lit, hN0, hN]
  refine W_ret ?_
  try simp only [gthen, gblock]
  have h := Option.some.inj h; subst h
  refine fin_loc (.inr rfl) hU [.val (.int .i64 z16)] (by omega) ?_
  simp only [push_cast, seval, ↓reduceIte, cast_lit, Try.results47, hN0, hN]

theorem lv_centoref20_Count_ok : ∀ k, (∀ {a0 : S_api_Edit} {r : Int} {O : Objs} {n : Nat}, (lv_centoref20_Count k) a0 = some r → GTo Try.prog 47 [.agg [.val (.int .i64 a0.Kind), .val (.int .i64 a0.Old.Kind), .sl a0.Old.Words.length (fl (eI .u64) a0.Old.Words), .sl a0.Old.Kids.length (fl e_S_api_Tree a0.Old.Kids), .val (.int .i64 a0.New.Kind), .sl a0.New.Words.length (fl (eI .u64) a0.New.Words), .sl a0.New.Kids.length (fl e_S_api_Tree a0.New.Kids), .sl a0.Words.length (fl e_S_api_WordEdit a0.Words), .sl a0.Kids.length (fl e_S_api_KidEdit a0.Kids), .val (.int .i64 a0.List_), .sl a0.Ops.length (fl e_S_api_Op a0.Ops)]] O n (.val (.int .i64 r)) O n) := fun k => by
  induction k with
  | zero => exact @fun a0 r O n h => (nomatch (show (none : Option _) = some _ from h))
  | succ k ih => exact @fun a0 r O n h => okb_centoref20_Count (ih)  h

theorem ok_centoref20_Count {a0 : S_api_Edit} {r : Int} {O : Objs} {n : Nat} (h : m_centoref20_Count a0 = some r) : GTo Try.prog 47 [.agg [.val (.int .i64 a0.Kind), .val (.int .i64 a0.Old.Kind), .sl a0.Old.Words.length (fl (eI .u64) a0.Old.Words), .sl a0.Old.Kids.length (fl e_S_api_Tree a0.Old.Kids), .val (.int .i64 a0.New.Kind), .sl a0.New.Words.length (fl (eI .u64) a0.New.Words), .sl a0.New.Kids.length (fl e_S_api_Tree a0.New.Kids), .sl a0.Words.length (fl e_S_api_WordEdit a0.Words), .sl a0.Kids.length (fl e_S_api_KidEdit a0.Kids), .val (.int .i64 a0.List_), .sl a0.Ops.length (fl e_S_api_Op a0.Ops)]] O n (.val (.int .i64 r)) O n := by
  obtain ⟨k, hk⟩ := lim_some h
  exact (lv_centoref20_Count_ok k)  hk

theorem ok_centolaw20_EditRight {a0 : S_api_Edit} {r : Bool} {O : Objs} {n : Nat} (h : m_centolaw20_EditRight a0 = some r) : GTo Try.prog 7 [.agg [.val (.int .i64 a0.Kind), .val (.int .i64 a0.Old.Kind), .sl a0.Old.Words.length (fl (eI .u64) a0.Old.Words), .sl a0.Old.Kids.length (fl e_S_api_Tree a0.Old.Kids), .val (.int .i64 a0.New.Kind), .sl a0.New.Words.length (fl (eI .u64) a0.New.Words), .sl a0.New.Kids.length (fl e_S_api_Tree a0.New.Kids), .sl a0.Words.length (fl e_S_api_WordEdit a0.Words), .sl a0.Kids.length (fl e_S_api_KidEdit a0.Kids), .val (.int .i64 a0.List_), .sl a0.Ops.length (fl e_S_api_Op a0.Ops)]] O n (.val (.bool r)) O n := by
  unfold m_centolaw20_EditRight at h
  refine fn_of tab_ok Try.call7 Try.func7 rfl (Nat.le_of_ble_eq_true rfl) (Nat.le_refl _) fun hU => ?_
  have hN0 : O n = none := hU.fresh _ (Nat.le_refl _)
  have hN : ∀ k, O (n + k) = none := fun k => hU.fresh _ (Nat.le_add_right _ _)
  show W _ _ _ _ ⟨49, [], [(0, .agg [.val (.int .i64 a0.Kind), .val (.int .i64 a0.Old.Kind), .sl a0.Old.Words.length (fl (eI .u64) a0.Old.Words), .sl a0.Old.Kids.length (fl e_S_api_Tree a0.Old.Kids), .val (.int .i64 a0.New.Kind), .sl a0.New.Words.length (fl (eI .u64) a0.New.Words), .sl a0.New.Kids.length (fl e_S_api_Tree a0.New.Kids), .sl a0.Words.length (fl e_S_api_WordEdit a0.Words), .sl a0.Kids.length (fl e_S_api_KidEdit a0.Kids), .val (.int .i64 a0.List_), .sl a0.Ops.length (fl e_S_api_Op a0.Ops)])]⟩ (Loc O n []) _
  refine W_sq [1] (W_regionD tab_ok [] ?_)
  simp only [push_cast, seval, ↓reduceIte, cast_lit, hN0, hN]
  refine W_seqK ?_
  refine W_seqK ?_
  obtain ⟨y2, hy2, h⟩ := bC h
  refine W_regionD tab_ok [] ?_
  simp only [push_cast, seval, ↓reduceIte, cast_lit, hN0, hN]
  refine (ok_centoref20_Few hy2).then ?_
  simp only [push_cast, seval, ↓reduceIte, cast_lit, hN0, hN]
  refine W_fit ⟨49, [], [(1, .ref n 0), (9, .val (.bool (!y2)))]⟩ (Loc O n [some ⟨false, 53, 11, 1, [.val (.int .i64 a0.Kind), .val (.int .i64 a0.Old.Kind), .sl a0.Old.Words.length (fl (eI .u64) a0.Old.Words), .sl a0.Old.Kids.length (fl e_S_api_Tree a0.Old.Kids), .val (.int .i64 a0.New.Kind), .sl a0.New.Words.length (fl (eI .u64) a0.New.Words), .sl a0.New.Kids.length (fl e_S_api_Tree a0.New.Kids), .sl a0.Words.length (fl e_S_api_WordEdit a0.Words), .sl a0.Kids.length (fl e_S_api_KidEdit a0.Kids), .val (.int .i64 a0.List_), .sl a0.Ops.length (fl e_S_api_Op a0.Ops)]⟩]) (fit_loc hU rfl rfl ?_) ?_
  · simp only [push_cast, seval, ↓reduceIte, cast_lit, hN0, hN]
  refine W_cond (t := (!y2)) rfl (fun c30 => ?_) (fun c30 => ?_)
  · replace h := condT c30 h
    refine W_seqK ?_
    obtain ⟨y4, hy4, h⟩ := bC h
    refine W_regionD tab_ok [] ?_
    simp only [push_cast, seval, ↓reduceIte, cast_lit, hN0, hN]
    refine (ok_centolaw20_awake hy4).then ?_
    simp only [push_cast, seval, ↓reduceIte, cast_lit, hN0, hN]
    refine W_fit ⟨49, [], [(2, .val (.bool y4))]⟩ (Loc O n [none]) (fit_loc hU rfl rfl ?_) ?_
    · simp only [push_cast, seval, ↓reduceIte, cast_lit, hN0, hN]
    refine W_ret ?_
    try simp only [gthen, gblock]
    have h := Option.some.inj h; subst h
    refine fin_loc (.inr rfl) hU [.val (.bool y4)] (by omega) ?_
    simp only [push_cast, seval, ↓reduceIte, cast_lit, Try.results7, hN0, hN]
  · replace h := condF c30 h
    refine W_skip ?_
    try simp only [gthen, gblock]
    refine W_fit ⟨49, [], [(1, .ref n 0)]⟩ (Loc O n [some ⟨false, 53, 11, 1, [.val (.int .i64 a0.Kind), .val (.int .i64 a0.Old.Kind), .sl a0.Old.Words.length (fl (eI .u64) a0.Old.Words), .sl a0.Old.Kids.length (fl e_S_api_Tree a0.Old.Kids), .val (.int .i64 a0.New.Kind), .sl a0.New.Words.length (fl (eI .u64) a0.New.Words), .sl a0.New.Kids.length (fl e_S_api_Tree a0.New.Kids), .sl a0.Words.length (fl e_S_api_WordEdit a0.Words), .sl a0.Kids.length (fl e_S_api_KidEdit a0.Kids), .val (.int .i64 a0.List_), .sl a0.Ops.length (fl e_S_api_Op a0.Ops)]⟩]) (fit_loc hU rfl rfl ?_) ?_
    · simp only [push_cast, seval, ↓reduceIte, cast_lit, hN0, hN]
    refine W_seqK ?_
    obtain ⟨y6, hy6, h⟩ := bC h
    refine W_regionD tab_ok [] ?_
    simp only [push_cast, seval, ↓reduceIte, cast_lit, hN0, hN]
    refine (ok_edit_Lengths hy6).then ?_
    simp only [push_cast, seval, ↓reduceIte, cast_lit, hN0, hN]
    refine W_fit ⟨49, [], [(1, .ref n 0), (3, .val (.int .i64 y6.1)), (4, .val (.int .i64 y6.2))]⟩ (Loc O n [some ⟨false, 53, 11, 1, [.val (.int .i64 a0.Kind), .val (.int .i64 a0.Old.Kind), .sl a0.Old.Words.length (fl (eI .u64) a0.Old.Words), .sl a0.Old.Kids.length (fl e_S_api_Tree a0.Old.Kids), .val (.int .i64 a0.New.Kind), .sl a0.New.Words.length (fl (eI .u64) a0.New.Words), .sl a0.New.Kids.length (fl e_S_api_Tree a0.New.Kids), .sl a0.Words.length (fl e_S_api_WordEdit a0.Words), .sl a0.Kids.length (fl e_S_api_KidEdit a0.Kids), .val (.int .i64 a0.List_), .sl a0.Ops.length (fl e_S_api_Op a0.Ops)]⟩]) (fit_loc hU rfl rfl ?_) ?_
    · simp only [push_cast, seval, ↓reduceIte, cast_lit, hN0, hN]
    refine W_seqK ?_
    obtain ⟨y8, hy8, h⟩ := bC h
    refine W_regionD tab_ok [] ?_
    simp only [push_cast, seval, ↓reduceIte, cast_lit, hN0, hN]
    refine (ok_centoref20_Lengths hy8).then ?_
    simp only [push_cast, seval, ↓reduceIte, cast_lit, hN0, hN]
    refine W_fit ⟨49, [], [(1, .ref n 0), (3, .val (.int .i64 y6.1)), (4, .val (.int .i64 y6.2)), (5, .val (.int .i64 y8.1)), (6, .val (.int .i64 y8.2))]⟩ (Loc O n [some ⟨false, 53, 11, 1, [.val (.int .i64 a0.Kind), .val (.int .i64 a0.Old.Kind), .sl a0.Old.Words.length (fl (eI .u64) a0.Old.Words), .sl a0.Old.Kids.length (fl e_S_api_Tree a0.Old.Kids), .val (.int .i64 a0.New.Kind), .sl a0.New.Words.length (fl (eI .u64) a0.New.Words), .sl a0.New.Kids.length (fl e_S_api_Tree a0.New.Kids), .sl a0.Words.length (fl e_S_api_WordEdit a0.Words), .sl a0.Kids.length (fl e_S_api_KidEdit a0.Kids), .val (.int .i64 a0.List_), .sl a0.Ops.length (fl e_S_api_Op a0.Ops)]⟩]) (fit_loc hU rfl rfl ?_) ?_
    · simp only [push_cast, seval, ↓reduceIte, cast_lit, hN0, hN]
    refine W_seqK ?_
    obtain ⟨z13, hz13, h⟩ := bC h
    refine W_seqN (E' := ⟨49, [], [(1, .ref n 0), (3, .val (.int .i64 y6.1)), (4, .val (.int .i64 y6.2)), (5, .val (.int .i64 y8.1)), (6, .val (.int .i64 y8.2)), (32, .val (.bool z13))]⟩) (O' := (Loc O n [some ⟨false, 53, 11, 1, [.val (.int .i64 a0.Kind), .val (.int .i64 a0.Old.Kind), .sl a0.Old.Words.length (fl (eI .u64) a0.Old.Words), .sl a0.Old.Kids.length (fl e_S_api_Tree a0.Old.Kids), .val (.int .i64 a0.New.Kind), .sl a0.New.Words.length (fl (eI .u64) a0.New.Words), .sl a0.New.Kids.length (fl e_S_api_Tree a0.New.Kids), .sl a0.Words.length (fl e_S_api_WordEdit a0.Words), .sl a0.Kids.length (fl e_S_api_KidEdit a0.Kids), .val (.int .i64 a0.List_), .sl a0.Ops.length (fl e_S_api_Op a0.Ops)]⟩])) (n0 := (n + 1)) ?_ ?_
    · obtain ⟨y14, hy14, hz13⟩ := bC hz13
      obtain ⟨y15, hy15, hz13⟩ := bC hz13
      rcases Bool.eq_false_or_eq_true (y14 != y15) with c18 | c18
      · replace hz13 := condT c18 hz13
        refine W_drawD tab_ok (by kernel_rfl) [some false, some false, some false, some false, some false] (by kernel_rfl) ?_
        simp only [push_cast, seval, ↓reduceIte, cast_lit, c18, hN0, hN]
        refine PCall.of (ok_edit_Right hy14) ?_
        simp only [push_cast, seval, ↓reduceIte, cast_lit, c18, hN0, hN]
        refine PCall.of (ok_centoref20_Right hy15) ?_
        simp only [push_cast, seval, ↓reduceIte, cast_lit, c18, hN0, hN]
        have hz13 := Option.some.inj hz13; subst hz13
        refine And.intro rfl (Fit2.of (fit_loc hU rfl rfl ?_) (by omega))
        simp only [push_cast, seval, ↓reduceIte, cast_lit, c18, hN0, hN]
      · replace hz13 := condF c18 hz13
        obtain ⟨y16, hy16, hz13⟩ := bC hz13
        obtain ⟨y17, hy17, hz13⟩ := bC hz13
        refine W_drawD tab_ok (by kernel_rfl) [some true, some true, some true, some true, some true] (by kernel_rfl) ?_
        simp only [push_cast, seval, ↓reduceIte, cast_lit, c18, hN0, hN]
        refine PCall.of (ok_edit_Right hy14) ?_
        simp only [push_cast, seval, ↓reduceIte, cast_lit, c18, hN0, hN]
        refine PCall.of (ok_centoref20_Right hy15) ?_
        simp only [push_cast, seval, ↓reduceIte, cast_lit, c18, hN0, hN]
        refine PCall.of (ok_edit_Count hy16) ?_
        simp only [push_cast, seval, ↓reduceIte, cast_lit, c18, hN0, hN]
        refine PCall.of (ok_centoref20_Count hy17) ?_
        simp only [push_cast, seval, ↓reduceIte, cast_lit, c18, hN0, hN]
        have hz13 := Option.some.inj hz13; subst hz13
        refine And.intro rfl (Fit2.of (fit_loc hU rfl rfl ?_) (by omega))
        simp only [push_cast, seval, ↓reduceIte, cast_lit, c18, hN0, hN]
    refine W_cond (t := z13) rfl (fun c29 => ?_) (fun c29 => ?_)
    · replace h := condT c29 h
      refine W_sq [2] (W_regionD tab_ok [] ?_)
      simp only [push_cast, seval, ↓reduceIte, cast_lit, hN0, hN]
      refine W_ret ?_
      try simp only [gthen, gblock]
      have h := Option.some.inj h; subst h
      refine fin_loc (.inr rfl) hU [.val (.bool false)] (by omega) ?_
      simp only [push_cast, seval, ↓reduceIte, cast_lit, Try.results7, hN0, hN]
    · replace h := condF c29 h
      refine W_skip ?_
      try simp only [gthen, gblock]
      refine W_fit ⟨49, [], [(1, .ref n 0), (3, .val (.int .i64 y6.1)), (4, .val (.int .i64 y6.2)), (5, .val (.int .i64 y8.1)), (6, .val (.int .i64 y8.2))]⟩ (Loc O n [some ⟨false, 53, 11, 1, [.val (.int .i64 a0.Kind), .val (.int .i64 a0.Old.Kind), .sl a0.Old.Words.length (fl (eI .u64) a0.Old.Words), .sl a0.Old.Kids.length (fl e_S_api_Tree a0.Old.Kids), .val (.int .i64 a0.New.Kind), .sl a0.New.Words.length (fl (eI .u64) a0.New.Words), .sl a0.New.Kids.length (fl e_S_api_Tree a0.New.Kids), .sl a0.Words.length (fl e_S_api_WordEdit a0.Words), .sl a0.Kids.length (fl e_S_api_KidEdit a0.Kids), .val (.int .i64 a0.List_), .sl a0.Ops.length (fl e_S_api_Op a0.Ops)]⟩]) (fit_loc hU rfl rfl ?_) ?_
      · simp only [push_cast, seval, ↓reduceIte, cast_lit, hN0, hN]
      obtain ⟨z22, hz22, h⟩ := bC h
      refine W_seqN (E' := ⟨49, [], [(2, .val (.bool z22))]⟩) (O' := (Loc O n [none])) (n0 := (n + 1)) ?_ ?_
      · obtain ⟨y23, hy23, hz22⟩ := bC hz22
        rcases Bool.eq_false_or_eq_true y23 with c26 | c26
        · replace hz22 := condT c26 hz22
          rcases Bool.eq_false_or_eq_true (y6.1 == y8.1) with c27 | c27
          · replace hz22 := condT c27 hz22
            try rw [c27] at c26
            rcases Bool.eq_false_or_eq_true (y6.2 == y8.2) with c28 | c28
            · replace hz22 := condT c28 hz22
              try rw [c28] at c26
              try rw [c28] at c27
              obtain ⟨y24, hy24, hz22⟩ := bC hz22
              refine W_regionD tab_ok [none, none, none, none, none, none, none, none, some true] ?_
              simp only [push_cast, seval, ↓reduceIte, cast_lit, c26, c27, c28, hN0, hN]
              repeat (with_reducible refine And.intro (by first | (intro h0; simp only [h0, and_self]; done) | (intro h0; simp only [h0, Bool.not_false, Bool.not_true, Bool.true_and, Bool.and_true, true_and, and_true, and_self, imp_self, implies_true, bne_iff_ne, ne_eq, beq_iff_eq]; done) | (intros; simp_all; done) | exact True.intro) ?_)
              refine (ok_centoref20_Right hy23).then ?_
              simp only [push_cast, seval, ↓reduceIte, cast_lit, c26, c27, c28, hN0, hN]
              repeat (with_reducible refine And.intro (by first | (intro h0; simp only [h0, and_self]; done) | (intro h0; simp only [h0, Bool.not_false, Bool.not_true, Bool.true_and, Bool.and_true, true_and, and_true, and_self, imp_self, implies_true, bne_iff_ne, ne_eq, beq_iff_eq]; done) | (intros; simp_all; done) | exact True.intro) ?_)
              refine (ok_centolaw20_awake hy24).then ?_
              simp only [push_cast, seval, ↓reduceIte, cast_lit, c26, c27, c28, hN0, hN]
              repeat (with_reducible refine And.intro (by first | (intro h0; simp only [h0, and_self]; done) | (intro h0; simp only [h0, Bool.not_false, Bool.not_true, Bool.true_and, Bool.and_true, true_and, and_true, and_self, imp_self, implies_true, bne_iff_ne, ne_eq, beq_iff_eq]; done) | (intros; simp_all; done) | exact True.intro) ?_)
              have hz22 := Option.some.inj hz22; subst hz22
              refine And.intro rfl (Fit2.of (fit_loc hU rfl rfl ?_) (by omega))
              simp only [push_cast, seval, ↓reduceIte, cast_lit, c26, c27, c28, hN0, hN]
            · replace hz22 := condF c28 hz22
              try rw [c28] at c26
              try rw [c28] at c27
              refine W_regionD tab_ok [none, none, none, none, none, none, none, none, some false] ?_
              simp only [push_cast, seval, ↓reduceIte, cast_lit, c26, c27, c28, hN0, hN]
              repeat (with_reducible refine And.intro (by first | (intro h0; simp only [h0, and_self]; done) | (intro h0; simp only [h0, Bool.not_false, Bool.not_true, Bool.true_and, Bool.and_true, true_and, and_true, and_self, imp_self, implies_true, bne_iff_ne, ne_eq, beq_iff_eq]; done) | (intros; simp_all; done) | exact True.intro) ?_)
              refine (ok_centoref20_Right hy23).then ?_
              simp only [push_cast, seval, ↓reduceIte, cast_lit, c26, c27, c28, hN0, hN]
              repeat (with_reducible refine And.intro (by first | (intro h0; simp only [h0, and_self]; done) | (intro h0; simp only [h0, Bool.not_false, Bool.not_true, Bool.true_and, Bool.and_true, true_and, and_true, and_self, imp_self, implies_true, bne_iff_ne, ne_eq, beq_iff_eq]; done) | (intros; simp_all; done) | exact True.intro) ?_)
              have hz22 := Option.some.inj hz22; subst hz22
              refine And.intro rfl (Fit2.of (fit_loc hU rfl rfl ?_) (by omega))
              simp only [push_cast, seval, ↓reduceIte, cast_lit, c26, c27, c28, hN0, hN]
          · replace hz22 := condF c27 hz22
            try rw [c27] at c26
            refine W_regionD tab_ok [none, none, none, none, none, none, none, none, some false] ?_
            simp only [push_cast, seval, ↓reduceIte, cast_lit, c26, c27, hN0, hN]
            repeat (with_reducible refine And.intro (by first | (intro h0; simp only [h0, and_self]; done) | (intro h0; simp only [h0, Bool.not_false, Bool.not_true, Bool.true_and, Bool.and_true, true_and, and_true, and_self, imp_self, implies_true, bne_iff_ne, ne_eq, beq_iff_eq]; done) | (intros; simp_all; done) | exact True.intro) ?_)
            refine (ok_centoref20_Right hy23).then ?_
            simp only [push_cast, seval, ↓reduceIte, cast_lit, c26, c27, hN0, hN]
            repeat (with_reducible refine And.intro (by first | (intro h0; simp only [h0, and_self]; done) | (intro h0; simp only [h0, Bool.not_false, Bool.not_true, Bool.true_and, Bool.and_true, true_and, and_true, and_self, imp_self, implies_true, bne_iff_ne, ne_eq, beq_iff_eq]; done) | (intros; simp_all; done) | exact True.intro) ?_)
            have hz22 := Option.some.inj hz22; subst hz22
            refine And.intro rfl (Fit2.of (fit_loc hU rfl rfl ?_) (by omega))
            simp only [push_cast, seval, ↓reduceIte, cast_lit, c26, c27, hN0, hN]
        · replace hz22 := condF c26 hz22
          obtain ⟨y25, hy25, hz22⟩ := bC hz22
          refine W_regionD tab_ok [none, none, none, none, none, none, none, none, some true] ?_
          simp only [push_cast, seval, ↓reduceIte, cast_lit, c26, hN0, hN]
          repeat (with_reducible refine And.intro (by first | (intro h0; simp only [h0, and_self]; done) | (intro h0; simp only [h0, Bool.not_false, Bool.not_true, Bool.true_and, Bool.and_true, true_and, and_true, and_self, imp_self, implies_true, bne_iff_ne, ne_eq, beq_iff_eq]; done) | (intros; simp_all; done) | exact True.intro) ?_)
          refine (ok_centoref20_Right hy23).then ?_
          simp only [push_cast, seval, ↓reduceIte, cast_lit, c26, hN0, hN]
          repeat (with_reducible refine And.intro (by first | (intro h0; simp only [h0, and_self]; done) | (intro h0; simp only [h0, Bool.not_false, Bool.not_true, Bool.true_and, Bool.and_true, true_and, and_true, and_self, imp_self, implies_true, bne_iff_ne, ne_eq, beq_iff_eq]; done) | (intros; simp_all; done) | exact True.intro) ?_)
          refine (ok_centolaw20_awake hy25).then ?_
          simp only [push_cast, seval, ↓reduceIte, cast_lit, c26, hN0, hN]
          repeat (with_reducible refine And.intro (by first | (intro h0; simp only [h0, and_self]; done) | (intro h0; simp only [h0, Bool.not_false, Bool.not_true, Bool.true_and, Bool.and_true, true_and, and_true, and_self, imp_self, implies_true, bne_iff_ne, ne_eq, beq_iff_eq]; done) | (intros; simp_all; done) | exact True.intro) ?_)
          have hz22 := Option.some.inj hz22; subst hz22
          refine And.intro rfl (Fit2.of (fit_loc hU rfl rfl ?_) (by omega))
          simp only [push_cast, seval, ↓reduceIte, cast_lit, c26, hN0, hN]
      refine W_ret ?_
      try simp only [gthen, gblock]
      have h := Option.some.inj h; subst h
      refine fin_loc (.inr rfl) hU [.val (.bool z22)] (by omega) ?_
      simp only [push_cast, seval, ↓reduceIte, cast_lit, Try.results7, hN0, hN]

end Go.Proofs.Ytjeolggpgclgkaa
