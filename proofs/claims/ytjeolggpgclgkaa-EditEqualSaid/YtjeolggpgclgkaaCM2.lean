/- Part CM2 of this seat's mirrors: functions of the seat's program, and the plain functions that they are; each theorem bears its own conditions. -/
import Derived.Test.YtjeolggpgclgkaaCE
import Derived.Test.YtjeolggpgclgkaaCM1
namespace Go.Proofs.Ytjeolggpgclgkaa
open Go.RowKit
set_option linter.unusedVariables false
set_option linter.unusedSimpArgs false
set_option maxRecDepth 100000
set_option maxHeartbeats 1000000
attribute [local push_cast] gfork_t gfork_f pfork_t pfork_f gthen gblock gops_nil gops_plain gops_guard onW gwantB gcalm gact gpick gpickV strip evS wok calmOp Op.operands Call.operands gop onK onP atK List.all_cons List.all_nil Bool.and_true Bool.true_and Bool.and_self Value.oneCell' List.take_zero List.take_succ_cons List.take_nil List.drop_zero List.drop_succ_cons List.drop_nil List.append_nil Nat.add_zero Nat.zero_add gstep gputE ev look genv gbin geqS geqF gint gunary gconvert gload gcells gpart_lit gstore gcellsOf gput gplace_lit gfieldAddr gstepIn gindexAddr gindex gfield gopt bLo bHi bMx gextract galloc gbox gbuild gfill gplaces gbuildSlice gmake glen gappend gsrc gbuiltin gnil isLive gres gone prun_nil prun_plain prun_guard pop TK.isAgg G.one G.under G.unders List.getD_cons_zero List.getD_cons_succ List.set_cons_zero List.set_cons_succ List.map_cons List.map_nil List.toList_toArray Array.toList_append Option.toArray_none Option.toArray_some Array.toList_map Option.map_some Option.map_none Option.bind_some Option.bind_none List.getElem?_cons_zero List.getElem?_cons_succ List.getElem?_nil List.nil_append List.cons_append List.replicate_succ List.replicate_zero List.length_cons List.length_nil and_true true_and and_false false_and Bool.true_eq_false Bool.false_eq_true forall_const false_implies implies_true IntKind.bits if_true if_false ite_true ite_false eq_self true_implies false_or or_false or_true true_or not_true_eq_false not_false_eq_true decide_true decide_false decide_eq_true_eq decide_eq_false_iff_not beq_iff_eq bne_iff_ne ne_eq Bool.not_eq_true Bool.not_eq_false beq_eq_false_iff_ne bne_eq_false_iff_eq beq_self_eq_true bne_self_eq_false Option.some.injEq exists_eq_left' exists_eq_left ge_iff_le gt_iff_lt decide_not Bool.not_true Bool.not_false imp_self gquiet cond_true cond_false beqT beqF Bool.not_not Bool.and_false Bool.false_and Bool.or_true Bool.true_or Bool.or_false Bool.false_or Loc_at Loc_at0 Loc_upd Loc_upd0 Loc_push Loc_push0 Option.join_some Nat.add_assoc Int.toNat_natCast eI eB eS eL fl_nil gopsD_nil gopsD_plain gopsD_t gopsD_f gopsD_n onKD onWD prunD_nil prunD_plain prunD_t prunD_f prunD_n onPD fitO fitO1 sameO fitL fl_append fl_one List.length_append G.agg.injEq G.row.injEq G.ref.injEq G.val.injEq G.sl.injEq G.tup.injEq Value.int.injEq Value.bool.injEq Value.string.injEq List.cons.injEq exists_and_left exists_const List.flatten_cons List.flatten_nil Int.le_refl Nat.le_refl upd_updU Loc_out Loc_updo Bool.not_eq_true' Bool.not_eq_false' wkl_nil wkl_cons wk_any wk_val wk_agg wk_tup wk_sl wk_fn List.size_toArray renO renO1 G.ren G.rens renL rho_at rho_at0 gP_none gP_some strip_gP wok_gP one_gP G.fn.injEq wk_slnil wk_slrow wk_slrs wk_ip wk_ipref wk_row wk_rs wk_rp wk_ref locLt0 locLt Option.join_none upd_same fl_cons undef keepL Arr.len Arr.put_eq prunB_nil prunB_bar prunB_bart prunB_plain prunB_t prunB_f prunB_n onB onBP gcopy setI_len Loc_cat0 Loc_cat1 Loc_cat2 Loc_cat3 Loc_cat4 Loc_cat5 noObjs_at prunK_nil prunK_bar prunK_pass prunK_plain prunK_low prunK_pt prunK_pf prunK_lt prunK_lf onKg onKa onKp popL pickOps lows lowG tab2 tkind2 tab3 tkind3 tab4 tkind4 tab5 tkind5 tab6 tkind6 tab7 tkind7 tab8 tkind8 tab9 tkind9 tab10 tkind10 tab11 tkind11 tab12 tkind12 tab13 tkind13 tab14 tkind14 tab15 tkind15 tab16 tkind16 tab17 tkind17 tab18 tkind18 tab19 tkind19 tab21 tkind21 tab22 tkind22 tab23 tkind23 tab24 tkind24 tab25 tkind25 tab33 tkind33 tab35 tkind35 tab40 tkind40 tab42 tkind42 tab43 tkind43 tab49 tkind49 tab50 tkind50 tab51 tkind51 tab52 tkind52 tab53 tkind53 tab60 tkind60 tab61 tkind61 tab62 tkind62 tab63 tkind63 tab71 tkind71 tab77 tkind77 tab78 tkind78 tab85 tkind85 tab86 tkind86 tab95 tkind95 tab97 tkind97 tab98 tkind98 tab99 tkind99 tab110 tkind110 tab111 tkind111 tab114 tkind114 tab116 tkind116 tab117 tkind117 tab125 tkind125 tab129 tkind129 tab131 tkind131 tab133 tkind133 tab134 tkind134 tab144 tkind144 tab148 tkind148 tab151 tkind151 tab158 tkind158 tab160 tkind160 tab161 tkind161 tab165 tkind165 tab167 tkind167 tab170 tkind170 tab171 tkind171 tab175 tkind175 tab176 tkind176 tab178 tkind178 tab179 tkind179 tab180 tkind180 e_S_api_Tree e0_eq_S_api_Tree wkl_eI_u64 wka_eI_u64 len_eI_u64 one_eI_u64 wkp_eI_u64 undp_eI_u64 rens_eI_u64 renp_eI_u64 und_eI_u64 wkl_e_S_api_Tree wka_e_S_api_Tree len_e_S_api_Tree one_e_S_api_Tree wkp_e_S_api_Tree undp_e_S_api_Tree rens_e_S_api_Tree renp_e_S_api_Tree und_e_S_api_Tree e_S_api_WordEdit e_S_api_Edit e_S_api_KidEdit e_S_api_Op e0_eq_S_api_Edit e0_eq_S_api_KidEdit e0_eq_S_api_Op wkl_e_S_api_WordEdit wka_e_S_api_WordEdit len_e_S_api_WordEdit one_e_S_api_WordEdit wkp_e_S_api_WordEdit undp_e_S_api_WordEdit rens_e_S_api_WordEdit renp_e_S_api_WordEdit und_e_S_api_WordEdit wkl_e_S_api_KidEdit wka_e_S_api_KidEdit len_e_S_api_KidEdit one_e_S_api_KidEdit wkp_e_S_api_KidEdit undp_e_S_api_KidEdit rens_e_S_api_KidEdit renp_e_S_api_KidEdit und_e_S_api_KidEdit wkl_e_S_api_Op wka_e_S_api_Op len_e_S_api_Op one_e_S_api_Op wkp_e_S_api_Op undp_e_S_api_Op rens_e_S_api_Op renp_e_S_api_Op und_e_S_api_Op wkl_eI_i64 wka_eI_i64 len_eI_i64 one_eI_i64 wkp_eI_i64 undp_eI_i64 rens_eI_i64 renp_eI_i64 und_eI_i64
theorem okb_edit_Right {r_edit_Right : (S_api_Edit → Option Bool)} {r_edit_right : (S_api_Edit → Int → Option Bool)} {r_edit_rightKids : ((List S_api_KidEdit) → Int → Option Bool)} {r_edit_rightOps : (S_api_Edit → Int → Option Bool)} {r_edit_rightOp : (Int → S_api_Op → Int → Option Bool)} {r_edit_rightOp_1 : (Bool → Bool → Bool → S_api_Op → Option Bool)} (ok_r_edit_Right : ∀ {a0 : S_api_Edit} {r : Bool} {O : Objs} {n : Nat}, r_edit_Right a0 = some r → GTo Try.prog 44 [.agg [.val (.int .i64 a0.Kind), .val (.int .i64 a0.Old.Kind), .sl a0.Old.Words.length (fl (eI .u64) a0.Old.Words), .sl a0.Old.Kids.length (fl e_S_api_Tree a0.Old.Kids), .val (.int .i64 a0.New.Kind), .sl a0.New.Words.length (fl (eI .u64) a0.New.Words), .sl a0.New.Kids.length (fl e_S_api_Tree a0.New.Kids), .sl a0.Words.length (fl e_S_api_WordEdit a0.Words), .sl a0.Kids.length (fl e_S_api_KidEdit a0.Kids), .val (.int .i64 a0.List_), .sl a0.Ops.length (fl e_S_api_Op a0.Ops)]] O n (.val (.bool r)) O n) (ok_r_edit_right : ∀ {a0 : S_api_Edit} {a1 : Int} {r : Bool} {O : Objs} {n : Nat}, r_edit_right a0 a1 = some r → GTo Try.prog 74 [.agg [.val (.int .i64 a0.Kind), .val (.int .i64 a0.Old.Kind), .sl a0.Old.Words.length (fl (eI .u64) a0.Old.Words), .sl a0.Old.Kids.length (fl e_S_api_Tree a0.Old.Kids), .val (.int .i64 a0.New.Kind), .sl a0.New.Words.length (fl (eI .u64) a0.New.Words), .sl a0.New.Kids.length (fl e_S_api_Tree a0.New.Kids), .sl a0.Words.length (fl e_S_api_WordEdit a0.Words), .sl a0.Kids.length (fl e_S_api_KidEdit a0.Kids), .val (.int .i64 a0.List_), .sl a0.Ops.length (fl e_S_api_Op a0.Ops)], .val (.int .i64 a1)] O n (.val (.bool r)) O n) (ok_r_edit_rightKids : ∀ {a0 : (List S_api_KidEdit)} {a1 : Int} {r : Bool} {O : Objs} {n : Nat}, r_edit_rightKids a0 a1 = some r → GTo Try.prog 98 [.sl a0.length (fl e_S_api_KidEdit a0), .val (.int .i64 a1)] O n (.val (.bool r)) O n) (ok_r_edit_rightOps : ∀ {a0 : S_api_Edit} {a1 : Int} {r : Bool} {O : Objs} {n : Nat}, r_edit_rightOps a0 a1 = some r → GTo Try.prog 99 [.agg [.val (.int .i64 a0.Kind), .val (.int .i64 a0.Old.Kind), .sl a0.Old.Words.length (fl (eI .u64) a0.Old.Words), .sl a0.Old.Kids.length (fl e_S_api_Tree a0.Old.Kids), .val (.int .i64 a0.New.Kind), .sl a0.New.Words.length (fl (eI .u64) a0.New.Words), .sl a0.New.Kids.length (fl e_S_api_Tree a0.New.Kids), .sl a0.Words.length (fl e_S_api_WordEdit a0.Words), .sl a0.Kids.length (fl e_S_api_KidEdit a0.Kids), .val (.int .i64 a0.List_), .sl a0.Ops.length (fl e_S_api_Op a0.Ops)], .val (.int .i64 a1)] O n (.val (.bool r)) O n) (ok_r_edit_rightOp : ∀ {a0 : Int} {a1 : S_api_Op} {a2 : Int} {r : Bool} {O : Objs} {n : Nat}, r_edit_rightOp a0 a1 a2 = some r → GTo Try.prog 117 [.val (.int .i64 a0), .agg [.val (.int .i64 a1.Kind), .val (.int .i64 a1.N), .sl a1.L.length (fl e_S_api_Tree a1.L), .val (.int .i64 a1.E.Kind), .val (.int .i64 a1.E.Old.Kind), .sl a1.E.Old.Words.length (fl (eI .u64) a1.E.Old.Words), .sl a1.E.Old.Kids.length (fl e_S_api_Tree a1.E.Old.Kids), .val (.int .i64 a1.E.New.Kind), .sl a1.E.New.Words.length (fl (eI .u64) a1.E.New.Words), .sl a1.E.New.Kids.length (fl e_S_api_Tree a1.E.New.Kids), .sl a1.E.Words.length (fl e_S_api_WordEdit a1.E.Words), .sl a1.E.Kids.length (fl e_S_api_KidEdit a1.E.Kids), .val (.int .i64 a1.E.List_), .sl a1.E.Ops.length (fl e_S_api_Op a1.E.Ops)], .val (.int .i64 a2)] O n (.val (.bool r)) O n) (ok_r_edit_rightOp_1 : ∀ {a0 : Bool} {a1 : Bool} {a2 : Bool} {a3 : S_api_Op} {r : Bool} {O : Objs} {n : Nat}, r_edit_rightOp_1 a0 a1 a2 a3 = some r → GTo Try.prog 136 [.val (.bool a0), .val (.bool a1), .val (.bool a2), .ip [.val (.int .i64 a3.Kind), .val (.int .i64 a3.N), .sl a3.L.length (fl e_S_api_Tree a3.L), .val (.int .i64 a3.E.Kind), .val (.int .i64 a3.E.Old.Kind), .sl a3.E.Old.Words.length (fl (eI .u64) a3.E.Old.Words), .sl a3.E.Old.Kids.length (fl e_S_api_Tree a3.E.Old.Kids), .val (.int .i64 a3.E.New.Kind), .sl a3.E.New.Words.length (fl (eI .u64) a3.E.New.Words), .sl a3.E.New.Kids.length (fl e_S_api_Tree a3.E.New.Kids), .sl a3.E.Words.length (fl e_S_api_WordEdit a3.E.Words), .sl a3.E.Kids.length (fl e_S_api_KidEdit a3.E.Kids), .val (.int .i64 a3.E.List_), .sl a3.E.Ops.length (fl e_S_api_Op a3.E.Ops)] 0] O n (.val (.bool r)) O n) {a0 : S_api_Edit} {r : Bool} {O : Objs} {n : Nat} (h : b_edit_Right r_edit_Right r_edit_right r_edit_rightKids r_edit_rightOps r_edit_rightOp r_edit_rightOp_1 a0 = some r) : GTo Try.prog 44 [.agg [.val (.int .i64 a0.Kind), .val (.int .i64 a0.Old.Kind), .sl a0.Old.Words.length (fl (eI .u64) a0.Old.Words), .sl a0.Old.Kids.length (fl e_S_api_Tree a0.Old.Kids), .val (.int .i64 a0.New.Kind), .sl a0.New.Words.length (fl (eI .u64) a0.New.Words), .sl a0.New.Kids.length (fl e_S_api_Tree a0.New.Kids), .sl a0.Words.length (fl e_S_api_WordEdit a0.Words), .sl a0.Kids.length (fl e_S_api_KidEdit a0.Kids), .val (.int .i64 a0.List_), .sl a0.Ops.length (fl e_S_api_Op a0.Ops)]] O n (.val (.bool r)) O n := by
  unfold b_edit_Right at h
  refine fn_of tab_ok Try.call44 Try.func44 rfl (Nat.le_of_ble_eq_true rfl) (Nat.le_refl _) fun hU => ?_
  have hN0 : O n = none := hU.fresh _ (Nat.le_refl _)
  have hN : ∀ k, O (n + k) = none := fun k => hU.fresh _ (Nat.le_add_right _ _)
  show W _ _ _ _ ⟨5, [], [(0, .agg [.val (.int .i64 a0.Kind), .val (.int .i64 a0.Old.Kind), .sl a0.Old.Words.length (fl (eI .u64) a0.Old.Words), .sl a0.Old.Kids.length (fl e_S_api_Tree a0.Old.Kids), .val (.int .i64 a0.New.Kind), .sl a0.New.Words.length (fl (eI .u64) a0.New.Words), .sl a0.New.Kids.length (fl e_S_api_Tree a0.New.Kids), .sl a0.Words.length (fl e_S_api_WordEdit a0.Words), .sl a0.Kids.length (fl e_S_api_KidEdit a0.Kids), .val (.int .i64 a0.List_), .sl a0.Ops.length (fl e_S_api_Op a0.Ops)])]⟩ (Loc O n []) _
  refine W_sq [1] (W_regionD tab_ok [] ?_)
  simp only [push_cast, seval, ↓reduceIte, cast_lit, hN0, hN]
  refine W_seqK ?_
  obtain ⟨y2, hy2, h⟩ := bC h
  refine W_regionD tab_ok [] ?_
  simp only [push_cast, seval, ↓reduceIte, cast_lit, hN0, hN]
  refine (ok_r_edit_right hy2).then ?_
  simp only [push_cast, seval, ↓reduceIte, cast_lit, hN0, hN]
  refine W_fit ⟨5, [], [(2, .val (.bool y2))]⟩ (Loc O n [none]) (fit_loc hU rfl rfl ?_) ?_
  · simp only [push_cast, seval, ↓reduceIte, cast_lit, hN0, hN]
  refine W_ret ?_
  try simp only [gthen, gblock]
  have h := Option.some.inj h; subst h
  refine fin_loc (.inr rfl) hU [.val (.bool y2)] (by omega) ?_
  simp only [push_cast, seval, ↓reduceIte, cast_lit, Try.results44, hN0, hN]

theorem okb_edit_right {r_edit_Right : (S_api_Edit → Option Bool)} {r_edit_right : (S_api_Edit → Int → Option Bool)} {r_edit_rightKids : ((List S_api_KidEdit) → Int → Option Bool)} {r_edit_rightOps : (S_api_Edit → Int → Option Bool)} {r_edit_rightOp : (Int → S_api_Op → Int → Option Bool)} {r_edit_rightOp_1 : (Bool → Bool → Bool → S_api_Op → Option Bool)} (ok_r_edit_Right : ∀ {a0 : S_api_Edit} {r : Bool} {O : Objs} {n : Nat}, r_edit_Right a0 = some r → GTo Try.prog 44 [.agg [.val (.int .i64 a0.Kind), .val (.int .i64 a0.Old.Kind), .sl a0.Old.Words.length (fl (eI .u64) a0.Old.Words), .sl a0.Old.Kids.length (fl e_S_api_Tree a0.Old.Kids), .val (.int .i64 a0.New.Kind), .sl a0.New.Words.length (fl (eI .u64) a0.New.Words), .sl a0.New.Kids.length (fl e_S_api_Tree a0.New.Kids), .sl a0.Words.length (fl e_S_api_WordEdit a0.Words), .sl a0.Kids.length (fl e_S_api_KidEdit a0.Kids), .val (.int .i64 a0.List_), .sl a0.Ops.length (fl e_S_api_Op a0.Ops)]] O n (.val (.bool r)) O n) (ok_r_edit_right : ∀ {a0 : S_api_Edit} {a1 : Int} {r : Bool} {O : Objs} {n : Nat}, r_edit_right a0 a1 = some r → GTo Try.prog 74 [.agg [.val (.int .i64 a0.Kind), .val (.int .i64 a0.Old.Kind), .sl a0.Old.Words.length (fl (eI .u64) a0.Old.Words), .sl a0.Old.Kids.length (fl e_S_api_Tree a0.Old.Kids), .val (.int .i64 a0.New.Kind), .sl a0.New.Words.length (fl (eI .u64) a0.New.Words), .sl a0.New.Kids.length (fl e_S_api_Tree a0.New.Kids), .sl a0.Words.length (fl e_S_api_WordEdit a0.Words), .sl a0.Kids.length (fl e_S_api_KidEdit a0.Kids), .val (.int .i64 a0.List_), .sl a0.Ops.length (fl e_S_api_Op a0.Ops)], .val (.int .i64 a1)] O n (.val (.bool r)) O n) (ok_r_edit_rightKids : ∀ {a0 : (List S_api_KidEdit)} {a1 : Int} {r : Bool} {O : Objs} {n : Nat}, r_edit_rightKids a0 a1 = some r → GTo Try.prog 98 [.sl a0.length (fl e_S_api_KidEdit a0), .val (.int .i64 a1)] O n (.val (.bool r)) O n) (ok_r_edit_rightOps : ∀ {a0 : S_api_Edit} {a1 : Int} {r : Bool} {O : Objs} {n : Nat}, r_edit_rightOps a0 a1 = some r → GTo Try.prog 99 [.agg [.val (.int .i64 a0.Kind), .val (.int .i64 a0.Old.Kind), .sl a0.Old.Words.length (fl (eI .u64) a0.Old.Words), .sl a0.Old.Kids.length (fl e_S_api_Tree a0.Old.Kids), .val (.int .i64 a0.New.Kind), .sl a0.New.Words.length (fl (eI .u64) a0.New.Words), .sl a0.New.Kids.length (fl e_S_api_Tree a0.New.Kids), .sl a0.Words.length (fl e_S_api_WordEdit a0.Words), .sl a0.Kids.length (fl e_S_api_KidEdit a0.Kids), .val (.int .i64 a0.List_), .sl a0.Ops.length (fl e_S_api_Op a0.Ops)], .val (.int .i64 a1)] O n (.val (.bool r)) O n) (ok_r_edit_rightOp : ∀ {a0 : Int} {a1 : S_api_Op} {a2 : Int} {r : Bool} {O : Objs} {n : Nat}, r_edit_rightOp a0 a1 a2 = some r → GTo Try.prog 117 [.val (.int .i64 a0), .agg [.val (.int .i64 a1.Kind), .val (.int .i64 a1.N), .sl a1.L.length (fl e_S_api_Tree a1.L), .val (.int .i64 a1.E.Kind), .val (.int .i64 a1.E.Old.Kind), .sl a1.E.Old.Words.length (fl (eI .u64) a1.E.Old.Words), .sl a1.E.Old.Kids.length (fl e_S_api_Tree a1.E.Old.Kids), .val (.int .i64 a1.E.New.Kind), .sl a1.E.New.Words.length (fl (eI .u64) a1.E.New.Words), .sl a1.E.New.Kids.length (fl e_S_api_Tree a1.E.New.Kids), .sl a1.E.Words.length (fl e_S_api_WordEdit a1.E.Words), .sl a1.E.Kids.length (fl e_S_api_KidEdit a1.E.Kids), .val (.int .i64 a1.E.List_), .sl a1.E.Ops.length (fl e_S_api_Op a1.E.Ops)], .val (.int .i64 a2)] O n (.val (.bool r)) O n) (ok_r_edit_rightOp_1 : ∀ {a0 : Bool} {a1 : Bool} {a2 : Bool} {a3 : S_api_Op} {r : Bool} {O : Objs} {n : Nat}, r_edit_rightOp_1 a0 a1 a2 a3 = some r → GTo Try.prog 136 [.val (.bool a0), .val (.bool a1), .val (.bool a2), .ip [.val (.int .i64 a3.Kind), .val (.int .i64 a3.N), .sl a3.L.length (fl e_S_api_Tree a3.L), .val (.int .i64 a3.E.Kind), .val (.int .i64 a3.E.Old.Kind), .sl a3.E.Old.Words.length (fl (eI .u64) a3.E.Old.Words), .sl a3.E.Old.Kids.length (fl e_S_api_Tree a3.E.Old.Kids), .val (.int .i64 a3.E.New.Kind), .sl a3.E.New.Words.length (fl (eI .u64) a3.E.New.Words), .sl a3.E.New.Kids.length (fl e_S_api_Tree a3.E.New.Kids), .sl a3.E.Words.length (fl e_S_api_WordEdit a3.E.Words), .sl a3.E.Kids.length (fl e_S_api_KidEdit a3.E.Kids), .val (.int .i64 a3.E.List_), .sl a3.E.Ops.length (fl e_S_api_Op a3.E.Ops)] 0] O n (.val (.bool r)) O n) {a0 : S_api_Edit} {a1 : Int} {r : Bool} {O : Objs} {n : Nat} (h : b_edit_right r_edit_Right r_edit_right r_edit_rightKids r_edit_rightOps r_edit_rightOp r_edit_rightOp_1 a0 a1 = some r) : GTo Try.prog 74 [.agg [.val (.int .i64 a0.Kind), .val (.int .i64 a0.Old.Kind), .sl a0.Old.Words.length (fl (eI .u64) a0.Old.Words), .sl a0.Old.Kids.length (fl e_S_api_Tree a0.Old.Kids), .val (.int .i64 a0.New.Kind), .sl a0.New.Words.length (fl (eI .u64) a0.New.Words), .sl a0.New.Kids.length (fl e_S_api_Tree a0.New.Kids), .sl a0.Words.length (fl e_S_api_WordEdit a0.Words), .sl a0.Kids.length (fl e_S_api_KidEdit a0.Kids), .val (.int .i64 a0.List_), .sl a0.Ops.length (fl e_S_api_Op a0.Ops)], .val (.int .i64 a1)] O n (.val (.bool r)) O n := by
  unfold b_edit_right at h
  refine fn_of tab_ok Try.call74 Try.func74 rfl (Nat.le_of_ble_eq_true rfl) (Nat.le_refl _) fun hU => ?_
  have hN0 : O n = none := hU.fresh _ (Nat.le_refl _)
  have hN : ∀ k, O (n + k) = none := fun k => hU.fresh _ (Nat.le_add_right _ _)
  show W _ _ _ _ ⟨55, [], [(0, .agg [.val (.int .i64 a0.Kind), .val (.int .i64 a0.Old.Kind), .sl a0.Old.Words.length (fl (eI .u64) a0.Old.Words), .sl a0.Old.Kids.length (fl e_S_api_Tree a0.Old.Kids), .val (.int .i64 a0.New.Kind), .sl a0.New.Words.length (fl (eI .u64) a0.New.Words), .sl a0.New.Kids.length (fl e_S_api_Tree a0.New.Kids), .sl a0.Words.length (fl e_S_api_WordEdit a0.Words), .sl a0.Kids.length (fl e_S_api_KidEdit a0.Kids), .val (.int .i64 a0.List_), .sl a0.Ops.length (fl e_S_api_Op a0.Ops)]), (1, .val (.int .i64 a1))]⟩ (Loc O n []) _
  refine W_sq [1, 2] (W_regionD tab_ok [] ?_)
  simp only [push_cast, seval, ↓reduceIte, cast_lit, hN0, hN]
  refine W_seqK ?_
  refine W_sq [1, 2, 7] (W_regionD tab_ok [] ?_)
  simp only [push_cast, seval, ↓reduceIte, cast_lit, hN0, hN]
  refine W_cond (t := (a1 == 0)) rfl (fun c31 => ?_) (fun c31 => ?_)
  · replace h := condT c31 h
    refine W_sq [4] (W_regionD tab_ok [] ?_)
    simp only [push_cast, seval, ↓reduceIte, cast_lit, hN0, hN]
    refine W_ret ?_
    try simp only [gthen, gblock]
    have h := Option.some.inj h; subst h
    refine fin_loc (.inr rfl) hU [.val (.bool false)] (by omega) ?_
    simp only [push_cast, seval, ↓reduceIte, cast_lit, Try.results74, hN0, hN]
  · replace h := condF c31 h
    refine W_skip ?_
    try simp only [gthen, gblock]
    refine W_fit ⟨55, [], [(1, .val (.int .i64 a1)), (2, .ref n 0)]⟩ (Loc O n [some ⟨false, 53, 11, 1, [.val (.int .i64 a0.Kind), .val (.int .i64 a0.Old.Kind), .sl a0.Old.Words.length (fl (eI .u64) a0.Old.Words), .sl a0.Old.Kids.length (fl e_S_api_Tree a0.Old.Kids), .val (.int .i64 a0.New.Kind), .sl a0.New.Words.length (fl (eI .u64) a0.New.Words), .sl a0.New.Kids.length (fl e_S_api_Tree a0.New.Kids), .sl a0.Words.length (fl e_S_api_WordEdit a0.Words), .sl a0.Kids.length (fl e_S_api_KidEdit a0.Kids), .val (.int .i64 a0.List_), .sl a0.Ops.length (fl e_S_api_Op a0.Ops)]⟩]) (fit_loc hU rfl rfl ?_) ?_
    · simp only [push_cast, seval, ↓reduceIte, cast_lit, hN0, hN]
    refine W_fit ⟨55, [], [(1, .val (.int .i64 a1)), (2, .ip [.val (.int .i64 a0.Kind), .val (.int .i64 a0.Old.Kind), .sl a0.Old.Words.length (fl (eI .u64) a0.Old.Words), .sl a0.Old.Kids.length (fl e_S_api_Tree a0.Old.Kids), .val (.int .i64 a0.New.Kind), .sl a0.New.Words.length (fl (eI .u64) a0.New.Words), .sl a0.New.Kids.length (fl e_S_api_Tree a0.New.Kids), .sl a0.Words.length (fl e_S_api_WordEdit a0.Words), .sl a0.Kids.length (fl e_S_api_KidEdit a0.Kids), .val (.int .i64 a0.List_), .sl a0.Ops.length (fl e_S_api_Op a0.Ops)] 0)]⟩ (Loc O n [none]) (fit_loc hU rfl rfl ?_) ?_
    · simp only [push_cast, seval, ↓reduceIte, cast_lit, hN0, hN]
    refine W_sq [1, 2, 5] (W_regionD tab_ok [] ?_)
    simp only [push_cast, seval, ↓reduceIte, cast_lit, hN0, hN]
    refine W_seqK ?_
    refine W_sq [1, 2, 5, 10] (W_regionD tab_ok [] ?_)
    simp only [push_cast, seval, ↓reduceIte, cast_lit, hN0, hN]
    refine W_block ?_
    refine W_sq [1, 2, 5, 10, 11] (W_regionD tab_ok [] ?_)
    simp only [push_cast, seval, ↓reduceIte, cast_lit, hN0, hN]
    refine W_cond (t := (a0.Kind == 0)) rfl (fun c30 => ?_) (fun c30 => ?_)
    · replace h := condT c30 h
      refine W_seqK ?_
      obtain ⟨y2, hy2, h⟩ := bC h
      refine W_regionD tab_ok [] ?_
      simp only [push_cast, seval, ↓reduceIte, cast_lit, hN0, hN]
      refine GCalls.argsW ?_ ((ok_edit_right_1 hy2).then ?_)
      · simp only [push_cast, seval, ↓reduceIte, cast_lit, hN0, hN]
      simp only [push_cast, seval, ↓reduceIte, cast_lit, hN0, hN]
      refine W_fit ⟨55, [], [(4, .val (.bool y2))]⟩ (Loc O n [none]) (fit_loc hU rfl rfl ?_) ?_
      · simp only [push_cast, seval, ↓reduceIte, cast_lit, hN0, hN]
      refine W_ret ?_
      try simp only [gthen, gblock]
      have h := Option.some.inj h; subst h
      refine fin_loc (.inr rfl) hU [.val (.bool y2)] (by omega) ?_
      simp only [push_cast, seval, ↓reduceIte, cast_lit, Try.results74, hN0, hN]
    · replace h := condF c30 h
      refine W_sq [1, 2, 5, 10, 15] (W_regionD tab_ok [] ?_)
      simp only [push_cast, seval, ↓reduceIte, cast_lit, hN0, hN]
      refine W_cond (t := (a0.Kind == 1)) rfl (fun c29 => ?_) (fun c29 => ?_)
      · replace h := condT c29 h
        obtain ⟨z6, hz6, h⟩ := bC h
        refine W_seqN (E' := ⟨55, [], [(4, .val (.bool z6))]⟩) (O' := (Loc O n [none])) (n0 := (n + 1)) ?_ ?_
        · obtain ⟨y7, hy7, hz6⟩ := bC hz6
          rcases Bool.eq_false_or_eq_true y7 with c10 | c10
          · replace hz6 := condT c10 hz6
            obtain ⟨y8, hy8, hz6⟩ := bC hz6
            rcases Bool.eq_false_or_eq_true y8 with c11 | c11
            · replace hz6 := condT c11 hz6
              try rw [c11] at c10
              obtain ⟨y9, hy9, hz6⟩ := bC hz6
              refine W_regionD tab_ok [some true, some true, some true, some true, some true, some true] ?_
              simp only [push_cast, seval, ↓reduceIte, cast_lit, c10, c11, hN0, hN]
              refine GCalls.argsW ?_ ((ok_edit_right_1 hy7).then ?_)
              · simp only [push_cast, seval, ↓reduceIte, cast_lit, c10, c11, hN0, hN]
              simp only [push_cast, seval, ↓reduceIte, cast_lit, c10, c11, hN0, hN]
              refine (ok_edit_whole hy8).then ?_
              simp only [push_cast, seval, ↓reduceIte, cast_lit, c10, c11, hN0, hN]
              refine (ok_edit_whole hy9).then ?_
              simp only [push_cast, seval, ↓reduceIte, cast_lit, c10, c11, hN0, hN]
              have hz6 := Option.some.inj hz6; subst hz6
              refine And.intro rfl (Fit2.of (fit_loc hU rfl rfl ?_) (by omega))
              simp only [push_cast, seval, ↓reduceIte, cast_lit, c10, c11, hN0, hN]
            · replace hz6 := condF c11 hz6
              try rw [c11] at c10
              refine W_regionD tab_ok [some true, some true, some true, some false, some false, some false] ?_
              simp only [push_cast, seval, ↓reduceIte, cast_lit, c10, c11, hN0, hN]
              refine GCalls.argsW ?_ ((ok_edit_right_1 hy7).then ?_)
              · simp only [push_cast, seval, ↓reduceIte, cast_lit, c10, c11, hN0, hN]
              simp only [push_cast, seval, ↓reduceIte, cast_lit, c10, c11, hN0, hN]
              refine (ok_edit_whole hy8).then ?_
              simp only [push_cast, seval, ↓reduceIte, cast_lit, c10, c11, hN0, hN]
              have hz6 := Option.some.inj hz6; subst hz6
              refine And.intro rfl (Fit2.of (fit_loc hU rfl rfl ?_) (by omega))
              simp only [push_cast, seval, ↓reduceIte, cast_lit, c10, c11, hN0, hN]
          · replace hz6 := condF c10 hz6
            refine W_regionD tab_ok [some false, some false, some false, some false, some false, some false] ?_
            simp only [push_cast, seval, ↓reduceIte, cast_lit, c10, hN0, hN]
            refine GCalls.argsW ?_ ((ok_edit_right_1 hy7).then ?_)
            · simp only [push_cast, seval, ↓reduceIte, cast_lit, c10, hN0, hN]
            simp only [push_cast, seval, ↓reduceIte, cast_lit, c10, hN0, hN]
            have hz6 := Option.some.inj hz6; subst hz6
            refine And.intro rfl (Fit2.of (fit_loc hU rfl rfl ?_) (by omega))
            simp only [push_cast, seval, ↓reduceIte, cast_lit, c10, hN0, hN]
        refine W_ret ?_
        try simp only [gthen, gblock]
        have h := Option.some.inj h; subst h
        refine fin_loc (.inr rfl) hU [.val (.bool z6)] (by omega) ?_
        simp only [push_cast, seval, ↓reduceIte, cast_lit, Try.results74, hN0, hN]
      · replace h := condF c29 h
        refine W_sq [1, 2, 5, 10, 29] (W_regionD tab_ok [] ?_)
        simp only [push_cast, seval, ↓reduceIte, cast_lit, hN0, hN]
        refine W_cond (t := (a0.Kind == 2)) rfl (fun c28 => ?_) (fun c28 => ?_)
        · replace h := condT c28 h
          obtain ⟨z15, hz15, h⟩ := bC h
          refine W_seqN (E' := ⟨55, [], [(4, .val (.bool z15))]⟩) (O' := (Loc O n [none])) (n0 := (n + 1)) ?_ ?_
          · obtain ⟨y16, hy16, hz15⟩ := bC hz15
            rcases Bool.eq_false_or_eq_true y16 with c19 | c19
            · replace hz15 := condT c19 hz15
              obtain ⟨y17, hy17, hz15⟩ := bC hz15
              rcases Bool.eq_false_or_eq_true y17 with c20 | c20
              · replace hz15 := condT c20 hz15
                try rw [c20] at c19
                obtain ⟨y18, hy18, hz15⟩ := bC hz15
                refine W_regionD tab_ok [some true, some true, some true, some true, some true, some true, some true, some true] ?_
                simp only [push_cast, seval, ↓reduceIte, cast_lit, c19, c20, hN0, hN]
                refine GCalls.argsW ?_ ((ok_edit_right_1 hy16).then ?_)
                · simp only [push_cast, seval, ↓reduceIte, cast_lit, c19, c20, hN0, hN]
                simp only [push_cast, seval, ↓reduceIte, cast_lit, c19, c20, hN0, hN]
                refine (ok_edit_rightWords hy17).then ?_
                simp only [push_cast, seval, ↓reduceIte, cast_lit, c19, c20, hN0, hN]
                refine (ok_r_edit_rightKids hy18).then ?_
                simp only [push_cast, seval, ↓reduceIte, cast_lit, c19, c20, hN0, hN]
                have hz15 := Option.some.inj hz15; subst hz15
                refine And.intro rfl (Fit2.of (fit_loc hU rfl rfl ?_) (by omega))
                simp only [push_cast, seval, ↓reduceIte, cast_lit, c19, c20, hN0, hN]
              · replace hz15 := condF c20 hz15
                try rw [c20] at c19
                refine W_regionD tab_ok [some true, some true, some true, some false, some false, some false, some false, some false] ?_
                simp only [push_cast, seval, ↓reduceIte, cast_lit, c19, c20, hN0, hN]
                refine GCalls.argsW ?_ ((ok_edit_right_1 hy16).then ?_)
                · simp only [push_cast, seval, ↓reduceIte, cast_lit, c19, c20, hN0, hN]
                simp only [push_cast, seval, ↓reduceIte, cast_lit, c19, c20, hN0, hN]
                refine (ok_edit_rightWords hy17).then ?_
                simp only [push_cast, seval, ↓reduceIte, cast_lit, c19, c20, hN0, hN]
                have hz15 := Option.some.inj hz15; subst hz15
                refine And.intro rfl (Fit2.of (fit_loc hU rfl rfl ?_) (by omega))
                simp only [push_cast, seval, ↓reduceIte, cast_lit, c19, c20, hN0, hN]
            · replace hz15 := condF c19 hz15
              refine W_regionD tab_ok [some false, some false, some false, some false, some false, some false, some false, some false] ?_
              simp only [push_cast, seval, ↓reduceIte, cast_lit, c19, hN0, hN]
              refine GCalls.argsW ?_ ((ok_edit_right_1 hy16).then ?_)
              · simp only [push_cast, seval, ↓reduceIte, cast_lit, c19, hN0, hN]
              simp only [push_cast, seval, ↓reduceIte, cast_lit, c19, hN0, hN]
              have hz15 := Option.some.inj hz15; subst hz15
              refine And.intro rfl (Fit2.of (fit_loc hU rfl rfl ?_) (by omega))
              simp only [push_cast, seval, ↓reduceIte, cast_lit, c19, hN0, hN]
          refine W_ret ?_
          try simp only [gthen, gblock]
          have h := Option.some.inj h; subst h
          refine fin_loc (.inr rfl) hU [.val (.bool z15)] (by omega) ?_
          simp only [push_cast, seval, ↓reduceIte, cast_lit, Try.results74, hN0, hN]
        · replace h := condF c28 h
          refine W_sq [1, 2, 5, 45] (W_regionD tab_ok [] ?_)
          simp only [push_cast, seval, ↓reduceIte, cast_lit, hN0, hN]
          refine W_cond (t := (a0.Kind == 3)) rfl (fun c27 => ?_) (fun c27 => ?_)
          · replace h := condT c27 h
            obtain ⟨z23, hz23, h⟩ := bC h
            refine W_seqN (E' := ⟨55, [], [(4, .val (.bool z23))]⟩) (O' := (Loc O n [none])) (n0 := (n + 1)) ?_ ?_
            · obtain ⟨y24, hy24, hz23⟩ := bC hz23
              rcases Bool.eq_false_or_eq_true y24 with c26 | c26
              · replace hz23 := condT c26 hz23
                obtain ⟨y25, hy25, hz23⟩ := bC hz23
                refine W_regionD tab_ok [some true, some true, some true, some true] ?_
                simp only [push_cast, seval, ↓reduceIte, cast_lit, c26, hN0, hN]
                refine GCalls.argsW ?_ ((ok_edit_right_1 hy24).then ?_)
                · simp only [push_cast, seval, ↓reduceIte, cast_lit, c26, hN0, hN]
                simp only [push_cast, seval, ↓reduceIte, cast_lit, c26, hN0, hN]
                refine (ok_r_edit_rightOps hy25).then ?_
                simp only [push_cast, seval, ↓reduceIte, cast_lit, c26, hN0, hN]
                have hz23 := Option.some.inj hz23; subst hz23
                refine And.intro rfl (Fit2.of (fit_loc hU rfl rfl ?_) (by omega))
                simp only [push_cast, seval, ↓reduceIte, cast_lit, c26, hN0, hN]
              · replace hz23 := condF c26 hz23
                refine W_regionD tab_ok [some false, some false, some false, some false] ?_
                simp only [push_cast, seval, ↓reduceIte, cast_lit, c26, hN0, hN]
                refine GCalls.argsW ?_ ((ok_edit_right_1 hy24).then ?_)
                · simp only [push_cast, seval, ↓reduceIte, cast_lit, c26, hN0, hN]
                simp only [push_cast, seval, ↓reduceIte, cast_lit, c26, hN0, hN]
                have hz23 := Option.some.inj hz23; subst hz23
                refine And.intro rfl (Fit2.of (fit_loc hU rfl rfl ?_) (by omega))
                simp only [push_cast, seval, ↓reduceIte, cast_lit, c26, hN0, hN]
            refine W_ret ?_
            try simp only [gthen, gblock]
            have h := Option.some.inj h; subst h
            refine fin_loc (.inr rfl) hU [.val (.bool z23)] (by omega) ?_
            simp only [push_cast, seval, ↓reduceIte, cast_lit, Try.results74, hN0, hN]
          · replace h := condF c27 h
            refine W_skip ?_
            try simp only [gthen, gblock]
            refine W_fit ⟨55, [], []⟩ (Loc O n [none]) (fit_loc hU rfl rfl ?_) ?_
            · simp only [push_cast, seval, ↓reduceIte, cast_lit, hN0, hN]
            refine W_sq [4] (W_regionD tab_ok [] ?_)
            simp only [push_cast, seval, ↓reduceIte, cast_lit, hN0, hN]
            refine W_ret ?_
            try simp only [gthen, gblock]
            have h := Option.some.inj h; subst h
            refine fin_loc (.inr rfl) hU [.val (.bool false)] (by omega) ?_
            simp only [push_cast, seval, ↓reduceIte, cast_lit, Try.results74, hN0, hN]

theorem okb_edit_rightKids {r_edit_Right : (S_api_Edit → Option Bool)} {r_edit_right : (S_api_Edit → Int → Option Bool)} {r_edit_rightKids : ((List S_api_KidEdit) → Int → Option Bool)} {r_edit_rightOps : (S_api_Edit → Int → Option Bool)} {r_edit_rightOp : (Int → S_api_Op → Int → Option Bool)} {r_edit_rightOp_1 : (Bool → Bool → Bool → S_api_Op → Option Bool)} (ok_r_edit_Right : ∀ {a0 : S_api_Edit} {r : Bool} {O : Objs} {n : Nat}, r_edit_Right a0 = some r → GTo Try.prog 44 [.agg [.val (.int .i64 a0.Kind), .val (.int .i64 a0.Old.Kind), .sl a0.Old.Words.length (fl (eI .u64) a0.Old.Words), .sl a0.Old.Kids.length (fl e_S_api_Tree a0.Old.Kids), .val (.int .i64 a0.New.Kind), .sl a0.New.Words.length (fl (eI .u64) a0.New.Words), .sl a0.New.Kids.length (fl e_S_api_Tree a0.New.Kids), .sl a0.Words.length (fl e_S_api_WordEdit a0.Words), .sl a0.Kids.length (fl e_S_api_KidEdit a0.Kids), .val (.int .i64 a0.List_), .sl a0.Ops.length (fl e_S_api_Op a0.Ops)]] O n (.val (.bool r)) O n) (ok_r_edit_right : ∀ {a0 : S_api_Edit} {a1 : Int} {r : Bool} {O : Objs} {n : Nat}, r_edit_right a0 a1 = some r → GTo Try.prog 74 [.agg [.val (.int .i64 a0.Kind), .val (.int .i64 a0.Old.Kind), .sl a0.Old.Words.length (fl (eI .u64) a0.Old.Words), .sl a0.Old.Kids.length (fl e_S_api_Tree a0.Old.Kids), .val (.int .i64 a0.New.Kind), .sl a0.New.Words.length (fl (eI .u64) a0.New.Words), .sl a0.New.Kids.length (fl e_S_api_Tree a0.New.Kids), .sl a0.Words.length (fl e_S_api_WordEdit a0.Words), .sl a0.Kids.length (fl e_S_api_KidEdit a0.Kids), .val (.int .i64 a0.List_), .sl a0.Ops.length (fl e_S_api_Op a0.Ops)], .val (.int .i64 a1)] O n (.val (.bool r)) O n) (ok_r_edit_rightKids : ∀ {a0 : (List S_api_KidEdit)} {a1 : Int} {r : Bool} {O : Objs} {n : Nat}, r_edit_rightKids a0 a1 = some r → GTo Try.prog 98 [.sl a0.length (fl e_S_api_KidEdit a0), .val (.int .i64 a1)] O n (.val (.bool r)) O n) (ok_r_edit_rightOps : ∀ {a0 : S_api_Edit} {a1 : Int} {r : Bool} {O : Objs} {n : Nat}, r_edit_rightOps a0 a1 = some r → GTo Try.prog 99 [.agg [.val (.int .i64 a0.Kind), .val (.int .i64 a0.Old.Kind), .sl a0.Old.Words.length (fl (eI .u64) a0.Old.Words), .sl a0.Old.Kids.length (fl e_S_api_Tree a0.Old.Kids), .val (.int .i64 a0.New.Kind), .sl a0.New.Words.length (fl (eI .u64) a0.New.Words), .sl a0.New.Kids.length (fl e_S_api_Tree a0.New.Kids), .sl a0.Words.length (fl e_S_api_WordEdit a0.Words), .sl a0.Kids.length (fl e_S_api_KidEdit a0.Kids), .val (.int .i64 a0.List_), .sl a0.Ops.length (fl e_S_api_Op a0.Ops)], .val (.int .i64 a1)] O n (.val (.bool r)) O n) (ok_r_edit_rightOp : ∀ {a0 : Int} {a1 : S_api_Op} {a2 : Int} {r : Bool} {O : Objs} {n : Nat}, r_edit_rightOp a0 a1 a2 = some r → GTo Try.prog 117 [.val (.int .i64 a0), .agg [.val (.int .i64 a1.Kind), .val (.int .i64 a1.N), .sl a1.L.length (fl e_S_api_Tree a1.L), .val (.int .i64 a1.E.Kind), .val (.int .i64 a1.E.Old.Kind), .sl a1.E.Old.Words.length (fl (eI .u64) a1.E.Old.Words), .sl a1.E.Old.Kids.length (fl e_S_api_Tree a1.E.Old.Kids), .val (.int .i64 a1.E.New.Kind), .sl a1.E.New.Words.length (fl (eI .u64) a1.E.New.Words), .sl a1.E.New.Kids.length (fl e_S_api_Tree a1.E.New.Kids), .sl a1.E.Words.length (fl e_S_api_WordEdit a1.E.Words), .sl a1.E.Kids.length (fl e_S_api_KidEdit a1.E.Kids), .val (.int .i64 a1.E.List_), .sl a1.E.Ops.length (fl e_S_api_Op a1.E.Ops)], .val (.int .i64 a2)] O n (.val (.bool r)) O n) (ok_r_edit_rightOp_1 : ∀ {a0 : Bool} {a1 : Bool} {a2 : Bool} {a3 : S_api_Op} {r : Bool} {O : Objs} {n : Nat}, r_edit_rightOp_1 a0 a1 a2 a3 = some r → GTo Try.prog 136 [.val (.bool a0), .val (.bool a1), .val (.bool a2), .ip [.val (.int .i64 a3.Kind), .val (.int .i64 a3.N), .sl a3.L.length (fl e_S_api_Tree a3.L), .val (.int .i64 a3.E.Kind), .val (.int .i64 a3.E.Old.Kind), .sl a3.E.Old.Words.length (fl (eI .u64) a3.E.Old.Words), .sl a3.E.Old.Kids.length (fl e_S_api_Tree a3.E.Old.Kids), .val (.int .i64 a3.E.New.Kind), .sl a3.E.New.Words.length (fl (eI .u64) a3.E.New.Words), .sl a3.E.New.Kids.length (fl e_S_api_Tree a3.E.New.Kids), .sl a3.E.Words.length (fl e_S_api_WordEdit a3.E.Words), .sl a3.E.Kids.length (fl e_S_api_KidEdit a3.E.Kids), .val (.int .i64 a3.E.List_), .sl a3.E.Ops.length (fl e_S_api_Op a3.E.Ops)] 0] O n (.val (.bool r)) O n) {a0 : (List S_api_KidEdit)} {a1 : Int} {r : Bool} {O : Objs} {n : Nat} (h : b_edit_rightKids r_edit_Right r_edit_right r_edit_rightKids r_edit_rightOps r_edit_rightOp r_edit_rightOp_1 a0 a1 = some r) : GTo Try.prog 98 [.sl a0.length (fl e_S_api_KidEdit a0), .val (.int .i64 a1)] O n (.val (.bool r)) O n := by
  unfold b_edit_rightKids at h
  refine fn_of tab_ok Try.call98 Try.func98 rfl (Nat.le_of_ble_eq_true rfl) (Nat.le_refl _) fun hU => ?_
  have hN0 : O n = none := hU.fresh _ (Nat.le_refl _)
  have hN : ∀ k, O (n + k) = none := fun k => hU.fresh _ (Nat.le_add_right _ _)
  show W _ _ _ _ ⟨39, [], [(0, .sl a0.length (fl e_S_api_KidEdit a0)), (1, .val (.int .i64 a1))]⟩ (Loc O n []) _
  refine W_sq [0, 1] (W_regionD tab_ok [] ?_)
  simp only [push_cast, seval, ↓reduceIte, cast_lit, hN0, hN]
  refine W_sq [0, 1, 5] (W_regionD tab_ok [] ?_)
  simp only [push_cast, seval, ↓reduceIte, cast_lit, hN0, hN]
  refine W_seqK ?_
  refine W_sq [1, 5, 8, 9, 10] (W_regionD tab_ok [] ?_)
  simp only [push_cast, seval, ↓reduceIte, cast_lit, hN0, hN]
  refine W_fit ⟨39, [], [(1, .val (.int .i64 a1)), (5, .val (.int .i64 (-1))), (8, .sl a0.length (fl e_S_api_KidEdit a0)), (9, .val (.int .i64 (a0.length : Int))), (10, .val (.int .i64 0))]⟩ (Loc O n []) (fit_loc hU rfl rfl ?_) ?_
  · simp only [push_cast, seval, ↓reduceIte, cast_lit, hN0, hN]
  obtain ⟨z11, hz11, h⟩ := bC h
  refine W_sumB (J := (SumJ (fun z11 => JR n (⟨39, [], [(4, .val (.bool false))]⟩ : Env) (Loc O n []) n) (fun z11 => JX 0 n (⟨39, [], []⟩ : Env) (Loc O n []) n))) (z := z11) ?_ fun hw => ?_
  · refine W_loopJ hz11 (fun s0_ => ⟨39, [], [(1, .val (.int .i64 a1)), (5, .val (.int .i64 s0_.1)), (8, .sl a0.length (fl e_S_api_KidEdit a0)), (9, .val (.int .i64 (a0.length : Int))), (10, .val (.int .i64 s0_.2))]⟩) (fun s0_ => (Loc O n [])) (SumJ (fun z11 => JR n (⟨39, [], [(4, .val (.bool false))]⟩ : Env) (Loc O n []) n) (fun z11 => JX 0 n (⟨39, [], []⟩ : Env) (Loc O n []) n)) ?_
    intro s0_ x0_ hs0_
    unfold b_edit_rightKids_L0 at hs0_
    try dsimp only
    refine W_sq [1, 5, 8, 9, 10, 11] (W_regionD tab_ok [] ?_)
    simp only [push_cast, seval, ↓reduceIte, cast_lit, hN0, hN]
    refine W_seqK ?_
    refine W_cond (t := (decide (s0_.2 < (a0.length : Int)))) rfl (fun c10 => ?_) (fun c10 => ?_)
    · replace hs0_ := condT c10 hs0_
      refine W_skip ?_
      try simp only [gthen, gblock]
      refine W_fit ⟨39, [], [(1, .val (.int .i64 a1)), (5, .val (.int .i64 s0_.1)), (8, .sl a0.length (fl e_S_api_KidEdit a0)), (9, .val (.int .i64 (a0.length : Int))), (10, .val (.int .i64 s0_.2))]⟩ (Loc O n []) (fit_loc hU rfl rfl ?_) ?_
      · simp only [push_cast, seval, ↓reduceIte, cast_lit, hN0, hN]
      refine W_seqK ?_
      refine W_block ?_
      refine W_seqK ?_
      obtain ⟨x2, hx2, ax2, bx2, cx2, hs0_⟩ := bE (f := e_S_api_KidEdit) tab61 (fun _ => rfl) (by decide) hs0_
      refine W_regionD tab_ok [] ?_
      simp only [push_cast, Nat.reduceAdd, Nat.reduceSub, Nat.reduceMul, Nat.reduceLeDiff, Nat.reduceLT, Nat.reduceEqDiff, ↓reduceIte, reduceCtorEq, Int.reduceBEq, Int.reduceBNe, Nat.reduceBEq, Int.reduceLE, Int.reduceLT, Int.reduceEq, Int.reduceNe, Int.reduceNeg, Nat.reduceDiv, Nat.reduceMod, Nat.reducePow, cast_lit, ax2, bx2, cx2, hN0, hN]
      refine W_fit ⟨39, [], [(1, .val (.int .i64 a1)), (5, .val (.int .i64 s0_.1)), (7, .ref n 0), (8, .sl a0.length (fl e_S_api_KidEdit a0)), (9, .val (.int .i64 (a0.length : Int))), (10, .val (.int .i64 s0_.2))]⟩ (Loc O n [some ⟨false, 61, 12, 1, [.val (.int .i64 x2.At), .val (.int .i64 x2.E.Kind), .val (.int .i64 x2.E.Old.Kind), .sl x2.E.Old.Words.length (fl (eI .u64) x2.E.Old.Words), .sl x2.E.Old.Kids.length (fl e_S_api_Tree x2.E.Old.Kids), .val (.int .i64 x2.E.New.Kind), .sl x2.E.New.Words.length (fl (eI .u64) x2.E.New.Words), .sl x2.E.New.Kids.length (fl e_S_api_Tree x2.E.New.Kids), .sl x2.E.Words.length (fl e_S_api_WordEdit x2.E.Words), .sl x2.E.Kids.length (fl e_S_api_KidEdit x2.E.Kids), .val (.int .i64 x2.E.List_), .sl x2.E.Ops.length (fl e_S_api_Op x2.E.Ops)]⟩]) (fit_loc hU rfl rfl ?_) ?_
      · simp only [push_cast, Nat.reduceAdd, Nat.reduceSub, Nat.reduceMul, Nat.reduceLeDiff, Nat.reduceLT, Nat.reduceEqDiff, ↓reduceIte, reduceCtorEq, Int.reduceBEq, Int.reduceBNe, Nat.reduceBEq, Int.reduceLE, Int.reduceLT, Int.reduceEq, Int.reduceNe, Int.reduceNeg, Nat.reduceDiv, Nat.reduceMod, Nat.reducePow, cast_lit, ax2, bx2, cx2, hN0, hN]
      refine W_seqK ?_
      obtain ⟨z4, hz4, hs0_⟩ := bC hs0_
      refine W_seqN (E' := ⟨39, [], [(1, .val (.int .i64 a1)), (7, .ref n 0), (8, .sl a0.length (fl e_S_api_KidEdit a0)), (9, .val (.int .i64 (a0.length : Int))), (10, .val (.int .i64 s0_.2)), (35, .val (.bool z4))]⟩) (O' := (Loc O n [some ⟨false, 61, 12, 1, [.val (.int .i64 x2.At), .val (.int .i64 x2.E.Kind), .val (.int .i64 x2.E.Old.Kind), .sl x2.E.Old.Words.length (fl (eI .u64) x2.E.Old.Words), .sl x2.E.Old.Kids.length (fl e_S_api_Tree x2.E.Old.Kids), .val (.int .i64 x2.E.New.Kind), .sl x2.E.New.Words.length (fl (eI .u64) x2.E.New.Words), .sl x2.E.New.Kids.length (fl e_S_api_Tree x2.E.New.Kids), .sl x2.E.Words.length (fl e_S_api_WordEdit x2.E.Words), .sl x2.E.Kids.length (fl e_S_api_KidEdit x2.E.Kids), .val (.int .i64 x2.E.List_), .sl x2.E.Ops.length (fl e_S_api_Op x2.E.Ops)]⟩])) (n0 := (n + 1)) ?_ ?_
      · rcases Bool.eq_false_or_eq_true (decide (x2.At ≤ s0_.1)) with c6 | c6
        · replace hz4 := condT c6 hz4
          refine W_regionD tab_ok [none, none, none, none, none, none, none, some false, some false, some false, some false, some false] ?_
          simp only [push_cast, seval, ↓reduceIte, cast_lit, c6, hN0, hN]
          repeat (with_reducible refine And.intro (by first | (intro h0; simp only [h0, and_self]; done) | (intro h0; simp only [h0, Bool.not_false, Bool.not_true, Bool.true_and, Bool.and_true, true_and, and_true, and_self, imp_self, implies_true, bne_iff_ne, ne_eq, beq_iff_eq]; done) | (intros; simp_all; done) | exact True.intro) ?_)
          have hz4 := Option.some.inj hz4; subst hz4
          refine And.intro rfl (Fit2.of (fit_loc hU rfl rfl ?_) (by omega))
          simp only [push_cast, seval, ↓reduceIte, cast_lit, c6, hN0, hN]
        · replace hz4 := condF c6 hz4
          rcases Bool.eq_false_or_eq_true (decide (65534 < x2.At)) with c7 | c7
          · replace hz4 := condT c7 hz4
            try rw [c7] at c6
            refine W_regionD tab_ok [none, none, none, none, none, none, none, some false, some false, some false, some false, some false] ?_
            simp only [push_cast, seval, ↓reduceIte, cast_lit, c6, c7, hN0, hN]
            repeat (with_reducible refine And.intro (by first | (intro h0; simp only [h0, and_self]; done) | (intro h0; simp only [h0, Bool.not_false, Bool.not_true, Bool.true_and, Bool.and_true, true_and, and_true, and_self, imp_self, implies_true, bne_iff_ne, ne_eq, beq_iff_eq]; done) | (intros; simp_all; done) | exact True.intro) ?_)
            have hz4 := Option.some.inj hz4; subst hz4
            refine And.intro rfl (Fit2.of (fit_loc hU rfl rfl ?_) (by omega))
            simp only [push_cast, seval, ↓reduceIte, cast_lit, c6, c7, hN0, hN]
          · replace hz4 := condF c7 hz4
            try rw [c7] at c6
            rcases Bool.eq_false_or_eq_true (x2.E.Kind == 0) with c8 | c8
            · replace hz4 := condT c8 hz4
              try rw [c8] at c6
              try rw [c8] at c7
              refine W_regionD tab_ok [none, none, none, none, none, none, none, some false, some false, some false, some false, some false] ?_
              simp only [push_cast, seval, ↓reduceIte, cast_lit, c6, c7, c8, hN0, hN]
              repeat (with_reducible refine And.intro (by first | (intro h0; simp only [h0, and_self]; done) | (intro h0; simp only [h0, Bool.not_false, Bool.not_true, Bool.true_and, Bool.and_true, true_and, and_true, and_self, imp_self, implies_true, bne_iff_ne, ne_eq, beq_iff_eq]; done) | (intros; simp_all; done) | exact True.intro) ?_)
              have hz4 := Option.some.inj hz4; subst hz4
              refine And.intro rfl (Fit2.of (fit_loc hU rfl rfl ?_) (by omega))
              simp only [push_cast, seval, ↓reduceIte, cast_lit, c6, c7, c8, hN0, hN]
            · replace hz4 := condF c8 hz4
              try rw [c8] at c6
              try rw [c8] at c7
              obtain ⟨y5, hy5, hz4⟩ := bC hz4
              refine W_regionD tab_ok [none, none, none, none, none, none, none, some true, some true, some true, some true, some true] ?_
              simp only [push_cast, seval, ↓reduceIte, cast_lit, c6, c7, c8, hN0, hN]
              repeat (with_reducible refine And.intro (by first | (intro h0; simp only [h0, and_self]; done) | (intro h0; simp only [h0, Bool.not_false, Bool.not_true, Bool.true_and, Bool.and_true, true_and, and_true, and_self, imp_self, implies_true, bne_iff_ne, ne_eq, beq_iff_eq]; done) | (intros; simp_all; done) | exact True.intro) ?_)
              refine (ok_r_edit_right hy5).then ?_
              simp only [push_cast, seval, ↓reduceIte, cast_lit, c6, c7, c8, hN0, hN]
              repeat (with_reducible refine And.intro (by first | (intro h0; simp only [h0, and_self]; done) | (intro h0; simp only [h0, Bool.not_false, Bool.not_true, Bool.true_and, Bool.and_true, true_and, and_true, and_self, imp_self, implies_true, bne_iff_ne, ne_eq, beq_iff_eq]; done) | (intros; simp_all; done) | exact True.intro) ?_)
              have hz4 := Option.some.inj hz4; subst hz4
              refine And.intro rfl (Fit2.of (fit_loc hU rfl rfl ?_) (by omega))
              simp only [push_cast, seval, ↓reduceIte, cast_lit, c6, c7, c8, hN0, hN]
      refine W_cond (t := z4) rfl (fun c9 => ?_) (fun c9 => ?_)
      · replace hs0_ := condT c9 hs0_
        refine W_sq [4] (W_regionD tab_ok [] ?_)
        simp only [push_cast, seval, ↓reduceIte, cast_lit, hN0, hN]
        refine W_ret ?_
        try simp only [gthen, gblock]
        have hs0_ := Option.some.inj hs0_; subst hs0_
        refine And.intro (fun h => by cases h) (And.intro rfl (Fit2.of (fit_loc hU rfl rfl ?_) (by omega)))
        simp only [push_cast, seval, ↓reduceIte, cast_lit, hN0, hN]
      · replace hs0_ := condF c9 hs0_
        refine W_skip ?_
        try simp only [gthen, gblock]
        refine W_fit ⟨39, [], [(1, .val (.int .i64 a1)), (7, .ref n 0), (8, .sl a0.length (fl e_S_api_KidEdit a0)), (9, .val (.int .i64 (a0.length : Int))), (10, .val (.int .i64 s0_.2))]⟩ (Loc O n [some ⟨false, 61, 12, 1, [.val (.int .i64 x2.At), .val (.int .i64 x2.E.Kind), .val (.int .i64 x2.E.Old.Kind), .sl x2.E.Old.Words.length (fl (eI .u64) x2.E.Old.Words), .sl x2.E.Old.Kids.length (fl e_S_api_Tree x2.E.Old.Kids), .val (.int .i64 x2.E.New.Kind), .sl x2.E.New.Words.length (fl (eI .u64) x2.E.New.Words), .sl x2.E.New.Kids.length (fl e_S_api_Tree x2.E.New.Kids), .sl x2.E.Words.length (fl e_S_api_WordEdit x2.E.Words), .sl x2.E.Kids.length (fl e_S_api_KidEdit x2.E.Kids), .val (.int .i64 x2.E.List_), .sl x2.E.Ops.length (fl e_S_api_Op x2.E.Ops)]⟩]) (fit_loc hU rfl rfl ?_) ?_
        · simp only [push_cast, seval, ↓reduceIte, cast_lit, hN0, hN]
        refine W_regionD tab_ok [] ?_
        simp only [push_cast, seval, ↓reduceIte, cast_lit, hN0, hN]
        refine W_fit ⟨39, [], [(1, .val (.int .i64 a1)), (5, .val (.int .i64 x2.At)), (8, .sl a0.length (fl e_S_api_KidEdit a0)), (9, .val (.int .i64 (a0.length : Int))), (10, .val (.int .i64 s0_.2))]⟩ (Loc O n [none]) (fit_loc hU rfl rfl ?_) ?_
        · simp only [push_cast, seval, ↓reduceIte, cast_lit, hN0, hN]
        refine W_regionD tab_ok [] ?_
        simp only [push_cast, seval, ↓reduceIte, cast_lit, hN0, hN]
        have hs0_ := Option.some.inj hs0_; subst hs0_
        refine And.intro rfl (Fit2.of (fit_loc hU rfl rfl ?_) (by omega))
        simp only [push_cast, seval, ↓reduceIte, cast_lit, hN0, hN]
    · replace hs0_ := condF c10 hs0_
      refine W_exit ?_
      try simp only [gthen, gblock, ↓reduceIte, Nat.reduceEqDiff]
      have hs0_ := Option.some.inj hs0_; subst hs0_
      refine And.intro (fun h => by cases h) (And.intro rfl (Fit2.of (fit_loc hU rfl rfl ?_) (by omega)))
      simp only [push_cast, seval, ↓reduceIte, cast_lit, hN0, hN]
  rcases z11 with z11 | z11
  · dsimp only [SumJ] at hw h
    refine W_blockR hw ?_
    try simp only [gthen, gblock, ↓reduceIte, Nat.reduceEqDiff]
    have h := Option.some.inj h; subst h
    refine fin_loc (.inr rfl) hU [.val (.bool false)] (by omega) ?_
    simp only [push_cast, seval, ↓reduceIte, cast_lit, Try.results98, hN0, hN]
  · dsimp only [SumJ] at hw h
    refine W_blockX hw ?_
    try simp only [gthen, gblock, ↓reduceIte, Nat.reduceEqDiff]
    refine W_fit ⟨39, [], []⟩ (Loc O n []) (fit_loc hU rfl rfl ?_) ?_
    · simp only [push_cast, seval, ↓reduceIte, cast_lit, hN0, hN]
    refine W_sq [4] (W_regionD tab_ok [] ?_)
    simp only [push_cast, seval, ↓reduceIte, cast_lit, hN0, hN]
    refine W_ret ?_
    try simp only [gthen, gblock]
    have h := Option.some.inj h; subst h
    refine fin_loc (.inr rfl) hU [.val (.bool true)] (by omega) ?_
    simp only [push_cast, seval, ↓reduceIte, cast_lit, Try.results98, hN0, hN]

theorem okb_edit_rightOps {r_edit_Right : (S_api_Edit → Option Bool)} {r_edit_right : (S_api_Edit → Int → Option Bool)} {r_edit_rightKids : ((List S_api_KidEdit) → Int → Option Bool)} {r_edit_rightOps : (S_api_Edit → Int → Option Bool)} {r_edit_rightOp : (Int → S_api_Op → Int → Option Bool)} {r_edit_rightOp_1 : (Bool → Bool → Bool → S_api_Op → Option Bool)} (ok_r_edit_Right : ∀ {a0 : S_api_Edit} {r : Bool} {O : Objs} {n : Nat}, r_edit_Right a0 = some r → GTo Try.prog 44 [.agg [.val (.int .i64 a0.Kind), .val (.int .i64 a0.Old.Kind), .sl a0.Old.Words.length (fl (eI .u64) a0.Old.Words), .sl a0.Old.Kids.length (fl e_S_api_Tree a0.Old.Kids), .val (.int .i64 a0.New.Kind), .sl a0.New.Words.length (fl (eI .u64) a0.New.Words), .sl a0.New.Kids.length (fl e_S_api_Tree a0.New.Kids), .sl a0.Words.length (fl e_S_api_WordEdit a0.Words), .sl a0.Kids.length (fl e_S_api_KidEdit a0.Kids), .val (.int .i64 a0.List_), .sl a0.Ops.length (fl e_S_api_Op a0.Ops)]] O n (.val (.bool r)) O n) (ok_r_edit_right : ∀ {a0 : S_api_Edit} {a1 : Int} {r : Bool} {O : Objs} {n : Nat}, r_edit_right a0 a1 = some r → GTo Try.prog 74 [.agg [.val (.int .i64 a0.Kind), .val (.int .i64 a0.Old.Kind), .sl a0.Old.Words.length (fl (eI .u64) a0.Old.Words), .sl a0.Old.Kids.length (fl e_S_api_Tree a0.Old.Kids), .val (.int .i64 a0.New.Kind), .sl a0.New.Words.length (fl (eI .u64) a0.New.Words), .sl a0.New.Kids.length (fl e_S_api_Tree a0.New.Kids), .sl a0.Words.length (fl e_S_api_WordEdit a0.Words), .sl a0.Kids.length (fl e_S_api_KidEdit a0.Kids), .val (.int .i64 a0.List_), .sl a0.Ops.length (fl e_S_api_Op a0.Ops)], .val (.int .i64 a1)] O n (.val (.bool r)) O n) (ok_r_edit_rightKids : ∀ {a0 : (List S_api_KidEdit)} {a1 : Int} {r : Bool} {O : Objs} {n : Nat}, r_edit_rightKids a0 a1 = some r → GTo Try.prog 98 [.sl a0.length (fl e_S_api_KidEdit a0), .val (.int .i64 a1)] O n (.val (.bool r)) O n) (ok_r_edit_rightOps : ∀ {a0 : S_api_Edit} {a1 : Int} {r : Bool} {O : Objs} {n : Nat}, r_edit_rightOps a0 a1 = some r → GTo Try.prog 99 [.agg [.val (.int .i64 a0.Kind), .val (.int .i64 a0.Old.Kind), .sl a0.Old.Words.length (fl (eI .u64) a0.Old.Words), .sl a0.Old.Kids.length (fl e_S_api_Tree a0.Old.Kids), .val (.int .i64 a0.New.Kind), .sl a0.New.Words.length (fl (eI .u64) a0.New.Words), .sl a0.New.Kids.length (fl e_S_api_Tree a0.New.Kids), .sl a0.Words.length (fl e_S_api_WordEdit a0.Words), .sl a0.Kids.length (fl e_S_api_KidEdit a0.Kids), .val (.int .i64 a0.List_), .sl a0.Ops.length (fl e_S_api_Op a0.Ops)], .val (.int .i64 a1)] O n (.val (.bool r)) O n) (ok_r_edit_rightOp : ∀ {a0 : Int} {a1 : S_api_Op} {a2 : Int} {r : Bool} {O : Objs} {n : Nat}, r_edit_rightOp a0 a1 a2 = some r → GTo Try.prog 117 [.val (.int .i64 a0), .agg [.val (.int .i64 a1.Kind), .val (.int .i64 a1.N), .sl a1.L.length (fl e_S_api_Tree a1.L), .val (.int .i64 a1.E.Kind), .val (.int .i64 a1.E.Old.Kind), .sl a1.E.Old.Words.length (fl (eI .u64) a1.E.Old.Words), .sl a1.E.Old.Kids.length (fl e_S_api_Tree a1.E.Old.Kids), .val (.int .i64 a1.E.New.Kind), .sl a1.E.New.Words.length (fl (eI .u64) a1.E.New.Words), .sl a1.E.New.Kids.length (fl e_S_api_Tree a1.E.New.Kids), .sl a1.E.Words.length (fl e_S_api_WordEdit a1.E.Words), .sl a1.E.Kids.length (fl e_S_api_KidEdit a1.E.Kids), .val (.int .i64 a1.E.List_), .sl a1.E.Ops.length (fl e_S_api_Op a1.E.Ops)], .val (.int .i64 a2)] O n (.val (.bool r)) O n) (ok_r_edit_rightOp_1 : ∀ {a0 : Bool} {a1 : Bool} {a2 : Bool} {a3 : S_api_Op} {r : Bool} {O : Objs} {n : Nat}, r_edit_rightOp_1 a0 a1 a2 a3 = some r → GTo Try.prog 136 [.val (.bool a0), .val (.bool a1), .val (.bool a2), .ip [.val (.int .i64 a3.Kind), .val (.int .i64 a3.N), .sl a3.L.length (fl e_S_api_Tree a3.L), .val (.int .i64 a3.E.Kind), .val (.int .i64 a3.E.Old.Kind), .sl a3.E.Old.Words.length (fl (eI .u64) a3.E.Old.Words), .sl a3.E.Old.Kids.length (fl e_S_api_Tree a3.E.Old.Kids), .val (.int .i64 a3.E.New.Kind), .sl a3.E.New.Words.length (fl (eI .u64) a3.E.New.Words), .sl a3.E.New.Kids.length (fl e_S_api_Tree a3.E.New.Kids), .sl a3.E.Words.length (fl e_S_api_WordEdit a3.E.Words), .sl a3.E.Kids.length (fl e_S_api_KidEdit a3.E.Kids), .val (.int .i64 a3.E.List_), .sl a3.E.Ops.length (fl e_S_api_Op a3.E.Ops)] 0] O n (.val (.bool r)) O n) {a0 : S_api_Edit} {a1 : Int} {r : Bool} {O : Objs} {n : Nat} (h : b_edit_rightOps r_edit_Right r_edit_right r_edit_rightKids r_edit_rightOps r_edit_rightOp r_edit_rightOp_1 a0 a1 = some r) : GTo Try.prog 99 [.agg [.val (.int .i64 a0.Kind), .val (.int .i64 a0.Old.Kind), .sl a0.Old.Words.length (fl (eI .u64) a0.Old.Words), .sl a0.Old.Kids.length (fl e_S_api_Tree a0.Old.Kids), .val (.int .i64 a0.New.Kind), .sl a0.New.Words.length (fl (eI .u64) a0.New.Words), .sl a0.New.Kids.length (fl e_S_api_Tree a0.New.Kids), .sl a0.Words.length (fl e_S_api_WordEdit a0.Words), .sl a0.Kids.length (fl e_S_api_KidEdit a0.Kids), .val (.int .i64 a0.List_), .sl a0.Ops.length (fl e_S_api_Op a0.Ops)], .val (.int .i64 a1)] O n (.val (.bool r)) O n := by
  unfold b_edit_rightOps at h
  refine fn_of tab_ok Try.call99 Try.func99 rfl (Nat.le_of_ble_eq_true rfl) (Nat.le_refl _) fun hU => ?_
  have hN0 : O n = none := hU.fresh _ (Nat.le_refl _)
  have hN : ∀ k, O (n + k) = none := fun k => hU.fresh _ (Nat.le_add_right _ _)
  show W _ _ _ _ ⟨38, [], [(0, .agg [.val (.int .i64 a0.Kind), .val (.int .i64 a0.Old.Kind), .sl a0.Old.Words.length (fl (eI .u64) a0.Old.Words), .sl a0.Old.Kids.length (fl e_S_api_Tree a0.Old.Kids), .val (.int .i64 a0.New.Kind), .sl a0.New.Words.length (fl (eI .u64) a0.New.Words), .sl a0.New.Kids.length (fl e_S_api_Tree a0.New.Kids), .sl a0.Words.length (fl e_S_api_WordEdit a0.Words), .sl a0.Kids.length (fl e_S_api_KidEdit a0.Kids), .val (.int .i64 a0.List_), .sl a0.Ops.length (fl e_S_api_Op a0.Ops)]), (1, .val (.int .i64 a1))]⟩ (Loc O n []) _
  refine W_sq [1, 2] (W_regionD tab_ok [] ?_)
  simp only [push_cast, seval, ↓reduceIte, cast_lit, hN0, hN]
  refine W_seqK ?_
  refine W_seqK ?_
  obtain ⟨y2, hy2, h⟩ := bC h
  refine W_regionD tab_ok [] ?_
  simp only [push_cast, seval, ↓reduceIte, cast_lit, hN0, hN]
  refine (ok_tree_List hy2).then ?_
  simp only [push_cast, seval, ↓reduceIte, cast_lit, hN0, hN]
  refine W_fit ⟨38, [], [(1, .val (.int .i64 a1)), (2, .ref n 0), (12, .val (.bool (!y2)))]⟩ (Loc O n [some ⟨false, 53, 11, 1, [.val (.int .i64 a0.Kind), .val (.int .i64 a0.Old.Kind), .sl a0.Old.Words.length (fl (eI .u64) a0.Old.Words), .sl a0.Old.Kids.length (fl e_S_api_Tree a0.Old.Kids), .val (.int .i64 a0.New.Kind), .sl a0.New.Words.length (fl (eI .u64) a0.New.Words), .sl a0.New.Kids.length (fl e_S_api_Tree a0.New.Kids), .sl a0.Words.length (fl e_S_api_WordEdit a0.Words), .sl a0.Kids.length (fl e_S_api_KidEdit a0.Kids), .val (.int .i64 a0.List_), .sl a0.Ops.length (fl e_S_api_Op a0.Ops)]⟩]) (fit_loc hU rfl rfl ?_) ?_
  · simp only [push_cast, seval, ↓reduceIte, cast_lit, hN0, hN]
  refine W_cond (t := (!y2)) rfl (fun c12 => ?_) (fun c12 => ?_)
  · replace h := condT c12 h
    refine W_sq [4] (W_regionD tab_ok [] ?_)
    simp only [push_cast, seval, ↓reduceIte, cast_lit, hN0, hN]
    refine W_ret ?_
    try simp only [gthen, gblock]
    have h := Option.some.inj h; subst h
    refine fin_loc (.inr rfl) hU [.val (.bool false)] (by omega) ?_
    simp only [push_cast, seval, ↓reduceIte, cast_lit, Try.results99, hN0, hN]
  · replace h := condF c12 h
    refine W_skip ?_
    try simp only [gthen, gblock]
    refine W_fit ⟨38, [], [(1, .val (.int .i64 a1)), (2, .ref n 0)]⟩ (Loc O n [some ⟨false, 53, 11, 1, [.val (.int .i64 a0.Kind), .val (.int .i64 a0.Old.Kind), .sl a0.Old.Words.length (fl (eI .u64) a0.Old.Words), .sl a0.Old.Kids.length (fl e_S_api_Tree a0.Old.Kids), .val (.int .i64 a0.New.Kind), .sl a0.New.Words.length (fl (eI .u64) a0.New.Words), .sl a0.New.Kids.length (fl e_S_api_Tree a0.New.Kids), .sl a0.Words.length (fl e_S_api_WordEdit a0.Words), .sl a0.Kids.length (fl e_S_api_KidEdit a0.Kids), .val (.int .i64 a0.List_), .sl a0.Ops.length (fl e_S_api_Op a0.Ops)]⟩]) (fit_loc hU rfl rfl ?_) ?_
    · simp only [push_cast, seval, ↓reduceIte, cast_lit, hN0, hN]
    refine W_seqK ?_
    refine W_sq [1, 2, 14, 15, 16] (W_regionD tab_ok [] ?_)
    simp only [push_cast, seval, ↓reduceIte, cast_lit, hN0, hN]
    refine W_fit ⟨38, [], [(1, .val (.int .i64 a1)), (2, .ref n 0), (14, .sl a0.Ops.length (fl e_S_api_Op a0.Ops)), (15, .val (.int .i64 (a0.Ops.length : Int))), (16, .val (.int .i64 0))]⟩ (Loc O n [some ⟨false, 53, 11, 1, [.val (.int .i64 a0.Kind), .val (.int .i64 a0.Old.Kind), .sl a0.Old.Words.length (fl (eI .u64) a0.Old.Words), .sl a0.Old.Kids.length (fl e_S_api_Tree a0.Old.Kids), .val (.int .i64 a0.New.Kind), .sl a0.New.Words.length (fl (eI .u64) a0.New.Words), .sl a0.New.Kids.length (fl e_S_api_Tree a0.New.Kids), .sl a0.Words.length (fl e_S_api_WordEdit a0.Words), .sl a0.Kids.length (fl e_S_api_KidEdit a0.Kids), .val (.int .i64 a0.List_), .sl a0.Ops.length (fl e_S_api_Op a0.Ops)]⟩]) (fit_loc hU rfl rfl ?_) ?_
    · simp only [push_cast, seval, ↓reduceIte, cast_lit, hN0, hN]
    obtain ⟨z9, hz9, h⟩ := bC h
    refine W_sumB (J := (SumJ (fun z9 => JR n (⟨38, [], [(4, .val (.bool false))]⟩ : Env) (Loc O n [none]) (n + 1)) (fun z9 => JX 0 n (⟨38, [], [(2, .ref n 0)]⟩ : Env) (Loc O n [some ⟨false, 53, 11, 1, [.val (.int .i64 a0.Kind), .val (.int .i64 a0.Old.Kind), .sl a0.Old.Words.length (fl (eI .u64) a0.Old.Words), .sl a0.Old.Kids.length (fl e_S_api_Tree a0.Old.Kids), .val (.int .i64 a0.New.Kind), .sl a0.New.Words.length (fl (eI .u64) a0.New.Words), .sl a0.New.Kids.length (fl e_S_api_Tree a0.New.Kids), .sl a0.Words.length (fl e_S_api_WordEdit a0.Words), .sl a0.Kids.length (fl e_S_api_KidEdit a0.Kids), .val (.int .i64 a0.List_), .sl a0.Ops.length (fl e_S_api_Op a0.Ops)]⟩]) (n + 1)))) (z := z9) ?_ fun hw => ?_
    · refine W_loopJ hz9 (fun s0_ => ⟨38, [], [(1, .val (.int .i64 a1)), (2, .ref n 0), (14, .sl a0.Ops.length (fl e_S_api_Op a0.Ops)), (15, .val (.int .i64 (a0.Ops.length : Int))), (16, .val (.int .i64 s0_))]⟩) (fun s0_ => (Loc O n [some ⟨false, 53, 11, 1, [.val (.int .i64 a0.Kind), .val (.int .i64 a0.Old.Kind), .sl a0.Old.Words.length (fl (eI .u64) a0.Old.Words), .sl a0.Old.Kids.length (fl e_S_api_Tree a0.Old.Kids), .val (.int .i64 a0.New.Kind), .sl a0.New.Words.length (fl (eI .u64) a0.New.Words), .sl a0.New.Kids.length (fl e_S_api_Tree a0.New.Kids), .sl a0.Words.length (fl e_S_api_WordEdit a0.Words), .sl a0.Kids.length (fl e_S_api_KidEdit a0.Kids), .val (.int .i64 a0.List_), .sl a0.Ops.length (fl e_S_api_Op a0.Ops)]⟩])) (SumJ (fun z9 => JR n (⟨38, [], [(4, .val (.bool false))]⟩ : Env) (Loc O n [none]) (n + 1)) (fun z9 => JX 0 n (⟨38, [], [(2, .ref n 0)]⟩ : Env) (Loc O n [some ⟨false, 53, 11, 1, [.val (.int .i64 a0.Kind), .val (.int .i64 a0.Old.Kind), .sl a0.Old.Words.length (fl (eI .u64) a0.Old.Words), .sl a0.Old.Kids.length (fl e_S_api_Tree a0.Old.Kids), .val (.int .i64 a0.New.Kind), .sl a0.New.Words.length (fl (eI .u64) a0.New.Words), .sl a0.New.Kids.length (fl e_S_api_Tree a0.New.Kids), .sl a0.Words.length (fl e_S_api_WordEdit a0.Words), .sl a0.Kids.length (fl e_S_api_KidEdit a0.Kids), .val (.int .i64 a0.List_), .sl a0.Ops.length (fl e_S_api_Op a0.Ops)]⟩]) (n + 1))) ?_
      intro s0_ x0_ hs0_
      unfold b_edit_rightOps_L0 at hs0_
      try dsimp only
      refine W_sq [1, 2, 14, 15, 16, 17] (W_regionD tab_ok [] ?_)
      simp only [push_cast, seval, ↓reduceIte, cast_lit, hN0, hN]
      refine W_seqK ?_
      refine W_cond (t := (decide (s0_ < (a0.Ops.length : Int)))) rfl (fun c8 => ?_) (fun c8 => ?_)
      · replace hs0_ := condT c8 hs0_
        refine W_skip ?_
        try simp only [gthen, gblock]
        refine W_fit ⟨38, [], [(1, .val (.int .i64 a1)), (2, .ref n 0), (14, .sl a0.Ops.length (fl e_S_api_Op a0.Ops)), (15, .val (.int .i64 (a0.Ops.length : Int))), (16, .val (.int .i64 s0_))]⟩ (Loc O n [some ⟨false, 53, 11, 1, [.val (.int .i64 a0.Kind), .val (.int .i64 a0.Old.Kind), .sl a0.Old.Words.length (fl (eI .u64) a0.Old.Words), .sl a0.Old.Kids.length (fl e_S_api_Tree a0.Old.Kids), .val (.int .i64 a0.New.Kind), .sl a0.New.Words.length (fl (eI .u64) a0.New.Words), .sl a0.New.Kids.length (fl e_S_api_Tree a0.New.Kids), .sl a0.Words.length (fl e_S_api_WordEdit a0.Words), .sl a0.Kids.length (fl e_S_api_KidEdit a0.Kids), .val (.int .i64 a0.List_), .sl a0.Ops.length (fl e_S_api_Op a0.Ops)]⟩]) (fit_loc hU rfl rfl ?_) ?_
        · simp only [push_cast, seval, ↓reduceIte, cast_lit, hN0, hN]
        refine W_seqK ?_
        refine W_block ?_
        refine W_seqK ?_
        obtain ⟨x4, hx4, ax4, bx4, cx4, hs0_⟩ := bE (f := e_S_api_Op) tab63 (fun _ => rfl) (by decide) hs0_
        refine W_regionD tab_ok [] ?_
        simp only [push_cast, Nat.reduceAdd, Nat.reduceSub, Nat.reduceMul, Nat.reduceLeDiff, Nat.reduceLT, Nat.reduceEqDiff, ↓reduceIte, reduceCtorEq, Int.reduceBEq, Int.reduceBNe, Nat.reduceBEq, Int.reduceLE, Int.reduceLT, Int.reduceEq, Int.reduceNe, Int.reduceNeg, Nat.reduceDiv, Nat.reduceMod, Nat.reducePow, cast_lit, ax4, bx4, cx4, hN0, hN]
        refine W_fit ⟨38, [], [(1, .val (.int .i64 a1)), (2, .ref n 0), (6, .ref (n + 1) 0), (14, .sl a0.Ops.length (fl e_S_api_Op a0.Ops)), (15, .val (.int .i64 (a0.Ops.length : Int))), (16, .val (.int .i64 s0_))]⟩ (Loc O n [some ⟨false, 53, 11, 1, [.val (.int .i64 a0.Kind), .val (.int .i64 a0.Old.Kind), .sl a0.Old.Words.length (fl (eI .u64) a0.Old.Words), .sl a0.Old.Kids.length (fl e_S_api_Tree a0.Old.Kids), .val (.int .i64 a0.New.Kind), .sl a0.New.Words.length (fl (eI .u64) a0.New.Words), .sl a0.New.Kids.length (fl e_S_api_Tree a0.New.Kids), .sl a0.Words.length (fl e_S_api_WordEdit a0.Words), .sl a0.Kids.length (fl e_S_api_KidEdit a0.Kids), .val (.int .i64 a0.List_), .sl a0.Ops.length (fl e_S_api_Op a0.Ops)]⟩, some ⟨false, 63, 14, 1, [.val (.int .i64 x4.Kind), .val (.int .i64 x4.N), .sl x4.L.length (fl e_S_api_Tree x4.L), .val (.int .i64 x4.E.Kind), .val (.int .i64 x4.E.Old.Kind), .sl x4.E.Old.Words.length (fl (eI .u64) x4.E.Old.Words), .sl x4.E.Old.Kids.length (fl e_S_api_Tree x4.E.Old.Kids), .val (.int .i64 x4.E.New.Kind), .sl x4.E.New.Words.length (fl (eI .u64) x4.E.New.Words), .sl x4.E.New.Kids.length (fl e_S_api_Tree x4.E.New.Kids), .sl x4.E.Words.length (fl e_S_api_WordEdit x4.E.Words), .sl x4.E.Kids.length (fl e_S_api_KidEdit x4.E.Kids), .val (.int .i64 x4.E.List_), .sl x4.E.Ops.length (fl e_S_api_Op x4.E.Ops)]⟩]) (fit_loc hU rfl rfl ?_) ?_
        · simp only [push_cast, Nat.reduceAdd, Nat.reduceSub, Nat.reduceMul, Nat.reduceLeDiff, Nat.reduceLT, Nat.reduceEqDiff, ↓reduceIte, reduceCtorEq, Int.reduceBEq, Int.reduceBNe, Nat.reduceBEq, Int.reduceLE, Int.reduceLT, Int.reduceEq, Int.reduceNe, Int.reduceNeg, Nat.reduceDiv, Nat.reduceMod, Nat.reducePow, cast_lit, ax4, bx4, cx4, hN0, hN]
        refine W_seqK ?_
        obtain ⟨y6, hy6, hs0_⟩ := bC hs0_
        refine W_regionD tab_ok [] ?_
        simp only [push_cast, seval, ↓reduceIte, cast_lit, hN0, hN]
        refine (ok_r_edit_rightOp hy6).then ?_
        simp only [push_cast, seval, ↓reduceIte, cast_lit, hN0, hN]
        refine W_fit ⟨38, [], [(1, .val (.int .i64 a1)), (2, .ref n 0), (14, .sl a0.Ops.length (fl e_S_api_Op a0.Ops)), (15, .val (.int .i64 (a0.Ops.length : Int))), (16, .val (.int .i64 s0_)), (25, .val (.bool (!y6)))]⟩ (Loc O n [some ⟨false, 53, 11, 1, [.val (.int .i64 a0.Kind), .val (.int .i64 a0.Old.Kind), .sl a0.Old.Words.length (fl (eI .u64) a0.Old.Words), .sl a0.Old.Kids.length (fl e_S_api_Tree a0.Old.Kids), .val (.int .i64 a0.New.Kind), .sl a0.New.Words.length (fl (eI .u64) a0.New.Words), .sl a0.New.Kids.length (fl e_S_api_Tree a0.New.Kids), .sl a0.Words.length (fl e_S_api_WordEdit a0.Words), .sl a0.Kids.length (fl e_S_api_KidEdit a0.Kids), .val (.int .i64 a0.List_), .sl a0.Ops.length (fl e_S_api_Op a0.Ops)]⟩, none]) (fit_loc hU rfl rfl ?_) ?_
        · simp only [push_cast, seval, ↓reduceIte, cast_lit, hN0, hN]
        refine W_cond (t := (!y6)) rfl (fun c7 => ?_) (fun c7 => ?_)
        · replace hs0_ := condT c7 hs0_
          refine W_sq [4] (W_regionD tab_ok [] ?_)
          simp only [push_cast, seval, ↓reduceIte, cast_lit, hN0, hN]
          refine W_ret ?_
          try simp only [gthen, gblock]
          have hs0_ := Option.some.inj hs0_; subst hs0_
          refine And.intro (fun h => by cases h) (And.intro rfl (Fit2.of (fit_loc hU rfl rfl ?_) (by omega)))
          simp only [push_cast, seval, ↓reduceIte, cast_lit, hN0, hN]
        · replace hs0_ := condF c7 hs0_
          refine W_skip ?_
          try simp only [gthen, gblock]
          refine W_fit ⟨38, [], [(1, .val (.int .i64 a1)), (2, .ref n 0), (14, .sl a0.Ops.length (fl e_S_api_Op a0.Ops)), (15, .val (.int .i64 (a0.Ops.length : Int))), (16, .val (.int .i64 s0_))]⟩ (Loc O n [some ⟨false, 53, 11, 1, [.val (.int .i64 a0.Kind), .val (.int .i64 a0.Old.Kind), .sl a0.Old.Words.length (fl (eI .u64) a0.Old.Words), .sl a0.Old.Kids.length (fl e_S_api_Tree a0.Old.Kids), .val (.int .i64 a0.New.Kind), .sl a0.New.Words.length (fl (eI .u64) a0.New.Words), .sl a0.New.Kids.length (fl e_S_api_Tree a0.New.Kids), .sl a0.Words.length (fl e_S_api_WordEdit a0.Words), .sl a0.Kids.length (fl e_S_api_KidEdit a0.Kids), .val (.int .i64 a0.List_), .sl a0.Ops.length (fl e_S_api_Op a0.Ops)]⟩, none]) (fit_loc hU rfl rfl ?_) ?_
          · simp only [push_cast, seval, ↓reduceIte, cast_lit, hN0, hN]
          refine W_regionD tab_ok [] ?_
          simp only [push_cast, seval, ↓reduceIte, cast_lit, hN0, hN]
          have hs0_ := Option.some.inj hs0_; subst hs0_
          refine And.intro rfl (Fit2.of (fit_loc hU rfl rfl ?_) (by omega))
          simp only [push_cast, seval, ↓reduceIte, cast_lit, hN0, hN]
      · replace hs0_ := condF c8 hs0_
        refine W_exit ?_
        try simp only [gthen, gblock, ↓reduceIte, Nat.reduceEqDiff]
        have hs0_ := Option.some.inj hs0_; subst hs0_
        refine And.intro (fun h => by cases h) (And.intro rfl (Fit2.of (fit_loc hU rfl rfl ?_) (by omega)))
        simp only [push_cast, seval, ↓reduceIte, cast_lit, hN0, hN]
    rcases z9 with z9 | z9
    · dsimp only [SumJ] at hw h
      refine W_blockR hw ?_
      try simp only [gthen, gblock, ↓reduceIte, Nat.reduceEqDiff]
      have h := Option.some.inj h; subst h
      refine fin_loc (.inr rfl) hU [.val (.bool false)] (by omega) ?_
      simp only [push_cast, seval, ↓reduceIte, cast_lit, Try.results99, hN0, hN]
    · dsimp only [SumJ] at hw h
      refine W_blockX hw ?_
      try simp only [gthen, gblock, ↓reduceIte, Nat.reduceEqDiff]
      refine W_fit ⟨38, [], [(2, .ref n 0)]⟩ (Loc O n [some ⟨false, 53, 11, 1, [.val (.int .i64 a0.Kind), .val (.int .i64 a0.Old.Kind), .sl a0.Old.Words.length (fl (eI .u64) a0.Old.Words), .sl a0.Old.Kids.length (fl e_S_api_Tree a0.Old.Kids), .val (.int .i64 a0.New.Kind), .sl a0.New.Words.length (fl (eI .u64) a0.New.Words), .sl a0.New.Kids.length (fl e_S_api_Tree a0.New.Kids), .sl a0.Words.length (fl e_S_api_WordEdit a0.Words), .sl a0.Kids.length (fl e_S_api_KidEdit a0.Kids), .val (.int .i64 a0.List_), .sl a0.Ops.length (fl e_S_api_Op a0.Ops)]⟩]) (fit_loc hU rfl rfl ?_) ?_
      · simp only [push_cast, seval, ↓reduceIte, cast_lit, hN0, hN]
      refine W_seqK ?_
      obtain ⟨y11, hy11, h⟩ := bC h
      refine W_regionD tab_ok [] ?_
      simp only [push_cast, seval, ↓reduceIte, cast_lit, hN0, hN]
      refine (ok_edit_Lengths hy11).then ?_
      simp only [push_cast, seval, ↓reduceIte, cast_lit, hN0, hN]
      refine W_fit ⟨38, [], [(7, .val (.int .i64 y11.1)), (8, .val (.int .i64 y11.2))]⟩ (Loc O n [none]) (fit_loc hU rfl rfl ?_) ?_
      · simp only [push_cast, seval, ↓reduceIte, cast_lit, hN0, hN]
      refine W_sq [4] (W_regionD tab_ok [none, none] ?_)
      simp only [push_cast, seval, ↓reduceIte, cast_lit, hN0, hN]
      repeat (with_reducible refine And.intro (by first | (intro h0; simp only [h0, and_self]; done) | (intro h0; simp only [h0, Bool.not_false, Bool.not_true, Bool.true_and, Bool.and_true, true_and, and_true, and_self, imp_self, implies_true, bne_iff_ne, ne_eq, beq_iff_eq]; done) | (intros; simp_all; done) | exact True.intro) ?_)
      refine W_ret ?_
      try simp only [gthen, gblock]
      have h := Option.some.inj h; subst h
      refine fin_loc (.inr rfl) hU [.val (.bool (cond (decide (y11.1 < 1048576)) (decide (y11.2 < 1048576)) false))] (by omega) ?_
      simp only [push_cast, seval, ↓reduceIte, cast_lit, Try.results99, hN0, hN]

theorem okb_edit_rightOp {r_edit_Right : (S_api_Edit → Option Bool)} {r_edit_right : (S_api_Edit → Int → Option Bool)} {r_edit_rightKids : ((List S_api_KidEdit) → Int → Option Bool)} {r_edit_rightOps : (S_api_Edit → Int → Option Bool)} {r_edit_rightOp : (Int → S_api_Op → Int → Option Bool)} {r_edit_rightOp_1 : (Bool → Bool → Bool → S_api_Op → Option Bool)} (ok_r_edit_Right : ∀ {a0 : S_api_Edit} {r : Bool} {O : Objs} {n : Nat}, r_edit_Right a0 = some r → GTo Try.prog 44 [.agg [.val (.int .i64 a0.Kind), .val (.int .i64 a0.Old.Kind), .sl a0.Old.Words.length (fl (eI .u64) a0.Old.Words), .sl a0.Old.Kids.length (fl e_S_api_Tree a0.Old.Kids), .val (.int .i64 a0.New.Kind), .sl a0.New.Words.length (fl (eI .u64) a0.New.Words), .sl a0.New.Kids.length (fl e_S_api_Tree a0.New.Kids), .sl a0.Words.length (fl e_S_api_WordEdit a0.Words), .sl a0.Kids.length (fl e_S_api_KidEdit a0.Kids), .val (.int .i64 a0.List_), .sl a0.Ops.length (fl e_S_api_Op a0.Ops)]] O n (.val (.bool r)) O n) (ok_r_edit_right : ∀ {a0 : S_api_Edit} {a1 : Int} {r : Bool} {O : Objs} {n : Nat}, r_edit_right a0 a1 = some r → GTo Try.prog 74 [.agg [.val (.int .i64 a0.Kind), .val (.int .i64 a0.Old.Kind), .sl a0.Old.Words.length (fl (eI .u64) a0.Old.Words), .sl a0.Old.Kids.length (fl e_S_api_Tree a0.Old.Kids), .val (.int .i64 a0.New.Kind), .sl a0.New.Words.length (fl (eI .u64) a0.New.Words), .sl a0.New.Kids.length (fl e_S_api_Tree a0.New.Kids), .sl a0.Words.length (fl e_S_api_WordEdit a0.Words), .sl a0.Kids.length (fl e_S_api_KidEdit a0.Kids), .val (.int .i64 a0.List_), .sl a0.Ops.length (fl e_S_api_Op a0.Ops)], .val (.int .i64 a1)] O n (.val (.bool r)) O n) (ok_r_edit_rightKids : ∀ {a0 : (List S_api_KidEdit)} {a1 : Int} {r : Bool} {O : Objs} {n : Nat}, r_edit_rightKids a0 a1 = some r → GTo Try.prog 98 [.sl a0.length (fl e_S_api_KidEdit a0), .val (.int .i64 a1)] O n (.val (.bool r)) O n) (ok_r_edit_rightOps : ∀ {a0 : S_api_Edit} {a1 : Int} {r : Bool} {O : Objs} {n : Nat}, r_edit_rightOps a0 a1 = some r → GTo Try.prog 99 [.agg [.val (.int .i64 a0.Kind), .val (.int .i64 a0.Old.Kind), .sl a0.Old.Words.length (fl (eI .u64) a0.Old.Words), .sl a0.Old.Kids.length (fl e_S_api_Tree a0.Old.Kids), .val (.int .i64 a0.New.Kind), .sl a0.New.Words.length (fl (eI .u64) a0.New.Words), .sl a0.New.Kids.length (fl e_S_api_Tree a0.New.Kids), .sl a0.Words.length (fl e_S_api_WordEdit a0.Words), .sl a0.Kids.length (fl e_S_api_KidEdit a0.Kids), .val (.int .i64 a0.List_), .sl a0.Ops.length (fl e_S_api_Op a0.Ops)], .val (.int .i64 a1)] O n (.val (.bool r)) O n) (ok_r_edit_rightOp : ∀ {a0 : Int} {a1 : S_api_Op} {a2 : Int} {r : Bool} {O : Objs} {n : Nat}, r_edit_rightOp a0 a1 a2 = some r → GTo Try.prog 117 [.val (.int .i64 a0), .agg [.val (.int .i64 a1.Kind), .val (.int .i64 a1.N), .sl a1.L.length (fl e_S_api_Tree a1.L), .val (.int .i64 a1.E.Kind), .val (.int .i64 a1.E.Old.Kind), .sl a1.E.Old.Words.length (fl (eI .u64) a1.E.Old.Words), .sl a1.E.Old.Kids.length (fl e_S_api_Tree a1.E.Old.Kids), .val (.int .i64 a1.E.New.Kind), .sl a1.E.New.Words.length (fl (eI .u64) a1.E.New.Words), .sl a1.E.New.Kids.length (fl e_S_api_Tree a1.E.New.Kids), .sl a1.E.Words.length (fl e_S_api_WordEdit a1.E.Words), .sl a1.E.Kids.length (fl e_S_api_KidEdit a1.E.Kids), .val (.int .i64 a1.E.List_), .sl a1.E.Ops.length (fl e_S_api_Op a1.E.Ops)], .val (.int .i64 a2)] O n (.val (.bool r)) O n) (ok_r_edit_rightOp_1 : ∀ {a0 : Bool} {a1 : Bool} {a2 : Bool} {a3 : S_api_Op} {r : Bool} {O : Objs} {n : Nat}, r_edit_rightOp_1 a0 a1 a2 a3 = some r → GTo Try.prog 136 [.val (.bool a0), .val (.bool a1), .val (.bool a2), .ip [.val (.int .i64 a3.Kind), .val (.int .i64 a3.N), .sl a3.L.length (fl e_S_api_Tree a3.L), .val (.int .i64 a3.E.Kind), .val (.int .i64 a3.E.Old.Kind), .sl a3.E.Old.Words.length (fl (eI .u64) a3.E.Old.Words), .sl a3.E.Old.Kids.length (fl e_S_api_Tree a3.E.Old.Kids), .val (.int .i64 a3.E.New.Kind), .sl a3.E.New.Words.length (fl (eI .u64) a3.E.New.Words), .sl a3.E.New.Kids.length (fl e_S_api_Tree a3.E.New.Kids), .sl a3.E.Words.length (fl e_S_api_WordEdit a3.E.Words), .sl a3.E.Kids.length (fl e_S_api_KidEdit a3.E.Kids), .val (.int .i64 a3.E.List_), .sl a3.E.Ops.length (fl e_S_api_Op a3.E.Ops)] 0] O n (.val (.bool r)) O n) {a0 : Int} {a1 : S_api_Op} {a2 : Int} {r : Bool} {O : Objs} {n : Nat} (h : b_edit_rightOp r_edit_Right r_edit_right r_edit_rightKids r_edit_rightOps r_edit_rightOp r_edit_rightOp_1 a0 a1 a2 = some r) : GTo Try.prog 117 [.val (.int .i64 a0), .agg [.val (.int .i64 a1.Kind), .val (.int .i64 a1.N), .sl a1.L.length (fl e_S_api_Tree a1.L), .val (.int .i64 a1.E.Kind), .val (.int .i64 a1.E.Old.Kind), .sl a1.E.Old.Words.length (fl (eI .u64) a1.E.Old.Words), .sl a1.E.Old.Kids.length (fl e_S_api_Tree a1.E.Old.Kids), .val (.int .i64 a1.E.New.Kind), .sl a1.E.New.Words.length (fl (eI .u64) a1.E.New.Words), .sl a1.E.New.Kids.length (fl e_S_api_Tree a1.E.New.Kids), .sl a1.E.Words.length (fl e_S_api_WordEdit a1.E.Words), .sl a1.E.Kids.length (fl e_S_api_KidEdit a1.E.Kids), .val (.int .i64 a1.E.List_), .sl a1.E.Ops.length (fl e_S_api_Op a1.E.Ops)], .val (.int .i64 a2)] O n (.val (.bool r)) O n := by
  unfold b_edit_rightOp at h
  refine fn_of tab_ok Try.call117 Try.func117 rfl (Nat.le_of_ble_eq_true rfl) (Nat.le_refl _) fun hU => ?_
  have hN0 : O n = none := hU.fresh _ (Nat.le_refl _)
  have hN : ∀ k, O (n + k) = none := fun k => hU.fresh _ (Nat.le_add_right _ _)
  show W _ _ _ _ ⟨60, [], [(0, .val (.int .i64 a0)), (1, .agg [.val (.int .i64 a1.Kind), .val (.int .i64 a1.N), .sl a1.L.length (fl e_S_api_Tree a1.L), .val (.int .i64 a1.E.Kind), .val (.int .i64 a1.E.Old.Kind), .sl a1.E.Old.Words.length (fl (eI .u64) a1.E.Old.Words), .sl a1.E.Old.Kids.length (fl e_S_api_Tree a1.E.Old.Kids), .val (.int .i64 a1.E.New.Kind), .sl a1.E.New.Words.length (fl (eI .u64) a1.E.New.Words), .sl a1.E.New.Kids.length (fl e_S_api_Tree a1.E.New.Kids), .sl a1.E.Words.length (fl e_S_api_WordEdit a1.E.Words), .sl a1.E.Kids.length (fl e_S_api_KidEdit a1.E.Kids), .val (.int .i64 a1.E.List_), .sl a1.E.Ops.length (fl e_S_api_Op a1.E.Ops)]), (2, .val (.int .i64 a2))]⟩ (Loc O n []) _
  refine W_sq [0, 2, 4] (W_regionD tab_ok [] ?_)
  simp only [push_cast, seval, ↓reduceIte, cast_lit, hN0, hN]
  refine W_fit ⟨60, [], [(0, .val (.int .i64 a0)), (2, .val (.int .i64 a2)), (4, .ip [.val (.int .i64 a1.Kind), .val (.int .i64 a1.N), .sl a1.L.length (fl e_S_api_Tree a1.L), .val (.int .i64 a1.E.Kind), .val (.int .i64 a1.E.Old.Kind), .sl a1.E.Old.Words.length (fl (eI .u64) a1.E.Old.Words), .sl a1.E.Old.Kids.length (fl e_S_api_Tree a1.E.Old.Kids), .val (.int .i64 a1.E.New.Kind), .sl a1.E.New.Words.length (fl (eI .u64) a1.E.New.Words), .sl a1.E.New.Kids.length (fl e_S_api_Tree a1.E.New.Kids), .sl a1.E.Words.length (fl e_S_api_WordEdit a1.E.Words), .sl a1.E.Kids.length (fl e_S_api_KidEdit a1.E.Kids), .val (.int .i64 a1.E.List_), .sl a1.E.Ops.length (fl e_S_api_Op a1.E.Ops)] 0)]⟩ (Loc O n [none]) (fit_loc hU rfl rfl ?_) ?_
  · simp only [push_cast, seval, ↓reduceIte, cast_lit, hN0, hN]
  refine W_sq [0, 2, 4, 7] (W_regionD tab_ok [] ?_)
  simp only [push_cast, seval, ↓reduceIte, cast_lit, hN0, hN]
  refine W_seqK ?_
  refine W_sq [0, 2, 4, 7, 10] (W_regionD tab_ok [] ?_)
  simp only [push_cast, seval, ↓reduceIte, cast_lit, hN0, hN]
  refine W_block ?_
  refine W_seqK ?_
  refine W_block ?_
  obtain ⟨z1, hz1, h⟩ := bC h
  refine W_sum (J := (SumJ (fun z1 => JN n (⟨60, [], [(0, .val (.int .i64 a0)), (4, .ip [.val (.int .i64 a1.Kind), .val (.int .i64 a1.N), .sl a1.L.length (fl e_S_api_Tree a1.L), .val (.int .i64 a1.E.Kind), .val (.int .i64 a1.E.Old.Kind), .sl a1.E.Old.Words.length (fl (eI .u64) a1.E.Old.Words), .sl a1.E.Old.Kids.length (fl e_S_api_Tree a1.E.Old.Kids), .val (.int .i64 a1.E.New.Kind), .sl a1.E.New.Words.length (fl (eI .u64) a1.E.New.Words), .sl a1.E.New.Kids.length (fl e_S_api_Tree a1.E.New.Kids), .sl a1.E.Words.length (fl e_S_api_WordEdit a1.E.Words), .sl a1.E.Kids.length (fl e_S_api_KidEdit a1.E.Kids), .val (.int .i64 a1.E.List_), .sl a1.E.Ops.length (fl e_S_api_Op a1.E.Ops)] 0), (7, .fn 136 0 [.ip [.val (.int .i64 a1.Kind), .val (.int .i64 a1.N), .sl a1.L.length (fl e_S_api_Tree a1.L), .val (.int .i64 a1.E.Kind), .val (.int .i64 a1.E.Old.Kind), .sl a1.E.Old.Words.length (fl (eI .u64) a1.E.Old.Words), .sl a1.E.Old.Kids.length (fl e_S_api_Tree a1.E.Old.Kids), .val (.int .i64 a1.E.New.Kind), .sl a1.E.New.Words.length (fl (eI .u64) a1.E.New.Words), .sl a1.E.New.Kids.length (fl e_S_api_Tree a1.E.New.Kids), .sl a1.E.Words.length (fl e_S_api_WordEdit a1.E.Words), .sl a1.E.Kids.length (fl e_S_api_KidEdit a1.E.Kids), .val (.int .i64 a1.E.List_), .sl a1.E.Ops.length (fl e_S_api_Op a1.E.Ops)] 0])]⟩ : Env) (Loc O n [none]) (n + 1)) (SumJ (fun z1 => JR n (⟨60, [], [(6, .val (.bool z1))]⟩ : Env) (Loc O n [none]) (n + 1)) (SumJ (fun z1 => JX 4 n (⟨60, [], [(0, .val (.int .i64 a0)), (2, .val (.int .i64 a2)), (4, .ip [.val (.int .i64 a1.Kind), .val (.int .i64 a1.N), .sl a1.L.length (fl e_S_api_Tree a1.L), .val (.int .i64 a1.E.Kind), .val (.int .i64 a1.E.Old.Kind), .sl a1.E.Old.Words.length (fl (eI .u64) a1.E.Old.Words), .sl a1.E.Old.Kids.length (fl e_S_api_Tree a1.E.Old.Kids), .val (.int .i64 a1.E.New.Kind), .sl a1.E.New.Words.length (fl (eI .u64) a1.E.New.Words), .sl a1.E.New.Kids.length (fl e_S_api_Tree a1.E.New.Kids), .sl a1.E.Words.length (fl e_S_api_WordEdit a1.E.Words), .sl a1.E.Kids.length (fl e_S_api_KidEdit a1.E.Kids), .val (.int .i64 a1.E.List_), .sl a1.E.Ops.length (fl e_S_api_Op a1.E.Ops)] 0), (7, .fn 136 0 [.ip [.val (.int .i64 a1.Kind), .val (.int .i64 a1.N), .sl a1.L.length (fl e_S_api_Tree a1.L), .val (.int .i64 a1.E.Kind), .val (.int .i64 a1.E.Old.Kind), .sl a1.E.Old.Words.length (fl (eI .u64) a1.E.Old.Words), .sl a1.E.Old.Kids.length (fl e_S_api_Tree a1.E.Old.Kids), .val (.int .i64 a1.E.New.Kind), .sl a1.E.New.Words.length (fl (eI .u64) a1.E.New.Words), .sl a1.E.New.Kids.length (fl e_S_api_Tree a1.E.New.Kids), .sl a1.E.Words.length (fl e_S_api_WordEdit a1.E.Words), .sl a1.E.Kids.length (fl e_S_api_KidEdit a1.E.Kids), .val (.int .i64 a1.E.List_), .sl a1.E.Ops.length (fl e_S_api_Op a1.E.Ops)] 0])]⟩ : Env) (Loc O n [none]) (n + 1)) (fun z1 => JX 0 n (⟨60, [], []⟩ : Env) (Loc O n [none]) (n + 1)))))) (z := z1) ?_ fun hw => ?_
  · refine W_block ?_
    refine W_block ?_
    refine W_seqK ?_
    refine W_block ?_
    refine W_seqK ?_
    refine W_seqK ?_
    refine W_sq [0, 2, 4, 7, 10, 11] (W_regionD tab_ok [] ?_)
    simp only [push_cast, seval, ↓reduceIte, cast_lit, hN0, hN]
    refine W_cond (t := (a1.Kind == 0)) rfl (fun c7 => ?_) (fun c7 => ?_)
    · replace hz1 := condT c7 hz1
      refine W_exit ?_
      try simp only [gthen, gblock, ↓reduceIte, Nat.reduceEqDiff]
      refine W_fit ⟨60, [], [(4, .ip [.val (.int .i64 a1.Kind), .val (.int .i64 a1.N), .sl a1.L.length (fl e_S_api_Tree a1.L), .val (.int .i64 a1.E.Kind), .val (.int .i64 a1.E.Old.Kind), .sl a1.E.Old.Words.length (fl (eI .u64) a1.E.Old.Words), .sl a1.E.Old.Kids.length (fl e_S_api_Tree a1.E.Old.Kids), .val (.int .i64 a1.E.New.Kind), .sl a1.E.New.Words.length (fl (eI .u64) a1.E.New.Words), .sl a1.E.New.Kids.length (fl e_S_api_Tree a1.E.New.Kids), .sl a1.E.Words.length (fl e_S_api_WordEdit a1.E.Words), .sl a1.E.Kids.length (fl e_S_api_KidEdit a1.E.Kids), .val (.int .i64 a1.E.List_), .sl a1.E.Ops.length (fl e_S_api_Op a1.E.Ops)] 0), (7, .fn 136 0 [.ip [.val (.int .i64 a1.Kind), .val (.int .i64 a1.N), .sl a1.L.length (fl e_S_api_Tree a1.L), .val (.int .i64 a1.E.Kind), .val (.int .i64 a1.E.Old.Kind), .sl a1.E.Old.Words.length (fl (eI .u64) a1.E.Old.Words), .sl a1.E.Old.Kids.length (fl e_S_api_Tree a1.E.Old.Kids), .val (.int .i64 a1.E.New.Kind), .sl a1.E.New.Words.length (fl (eI .u64) a1.E.New.Words), .sl a1.E.New.Kids.length (fl e_S_api_Tree a1.E.New.Kids), .sl a1.E.Words.length (fl e_S_api_WordEdit a1.E.Words), .sl a1.E.Kids.length (fl e_S_api_KidEdit a1.E.Kids), .val (.int .i64 a1.E.List_), .sl a1.E.Ops.length (fl e_S_api_Op a1.E.Ops)] 0])]⟩ (Loc O n [none]) (fit_loc hU rfl rfl ?_) ?_
      · simp only [push_cast, seval, ↓reduceIte, cast_lit, hN0, hN]
      refine W_seqK ?_
      refine W_seqK ?_
      obtain ⟨y3, hy3, hz1⟩ := bC hz1
      refine W_regionD tab_ok [none, none, none, none, none, none] ?_
      simp only [push_cast, seval, ↓reduceIte, cast_lit, hN0, hN]
      repeat (with_reducible refine And.intro (by first | (intro h0; simp only [h0, and_self]; done) | (intro h0; simp only [h0, Bool.not_false, Bool.not_true, Bool.true_and, Bool.and_true, true_and, and_true, and_self, imp_self, implies_true, bne_iff_ne, ne_eq, beq_iff_eq]; done) | (intros; simp_all; done) | exact True.intro) ?_)
      refine GCalls.argsW ?_ ((ok_r_edit_rightOp_1 hy3).then ?_)
      · simp only [push_cast, seval, ↓reduceIte, cast_lit, hN0, hN]
      simp only [push_cast, seval, ↓reduceIte, cast_lit, hN0, hN]
      repeat (with_reducible refine And.intro (by first | (intro h0; simp only [h0, and_self]; done) | (intro h0; simp only [h0, Bool.not_false, Bool.not_true, Bool.true_and, Bool.and_true, true_and, and_true, and_self, imp_self, implies_true, bne_iff_ne, ne_eq, beq_iff_eq]; done) | (intros; simp_all; done) | exact True.intro) ?_)
      refine W_fit ⟨60, [], [(6, .val (.bool (cond (cond y3 (decide (1 ≤ a1.N)) false) (decide (a1.N ≤ 1048576)) false)))]⟩ (Loc O n [none]) (fit_loc hU rfl rfl ?_) ?_
      · simp only [push_cast, seval, ↓reduceIte, cast_lit, hN0, hN]
      refine W_ret ?_
      try simp only [gthen, gblock]
      have hz1 := Option.some.inj hz1; subst hz1
      refine And.intro rfl (Fit2.of (fit_loc hU rfl rfl ?_) (by omega))
      simp only [push_cast, seval, ↓reduceIte, cast_lit, hN0, hN]
    · replace hz1 := condF c7 hz1
      refine W_skip ?_
      try simp only [gthen, gblock]
      refine W_fit ⟨60, [], [(0, .val (.int .i64 a0)), (2, .val (.int .i64 a2)), (4, .ip [.val (.int .i64 a1.Kind), .val (.int .i64 a1.N), .sl a1.L.length (fl e_S_api_Tree a1.L), .val (.int .i64 a1.E.Kind), .val (.int .i64 a1.E.Old.Kind), .sl a1.E.Old.Words.length (fl (eI .u64) a1.E.Old.Words), .sl a1.E.Old.Kids.length (fl e_S_api_Tree a1.E.Old.Kids), .val (.int .i64 a1.E.New.Kind), .sl a1.E.New.Words.length (fl (eI .u64) a1.E.New.Words), .sl a1.E.New.Kids.length (fl e_S_api_Tree a1.E.New.Kids), .sl a1.E.Words.length (fl e_S_api_WordEdit a1.E.Words), .sl a1.E.Kids.length (fl e_S_api_KidEdit a1.E.Kids), .val (.int .i64 a1.E.List_), .sl a1.E.Ops.length (fl e_S_api_Op a1.E.Ops)] 0), (7, .fn 136 0 [.ip [.val (.int .i64 a1.Kind), .val (.int .i64 a1.N), .sl a1.L.length (fl e_S_api_Tree a1.L), .val (.int .i64 a1.E.Kind), .val (.int .i64 a1.E.Old.Kind), .sl a1.E.Old.Words.length (fl (eI .u64) a1.E.Old.Words), .sl a1.E.Old.Kids.length (fl e_S_api_Tree a1.E.Old.Kids), .val (.int .i64 a1.E.New.Kind), .sl a1.E.New.Words.length (fl (eI .u64) a1.E.New.Words), .sl a1.E.New.Kids.length (fl e_S_api_Tree a1.E.New.Kids), .sl a1.E.Words.length (fl e_S_api_WordEdit a1.E.Words), .sl a1.E.Kids.length (fl e_S_api_KidEdit a1.E.Kids), .val (.int .i64 a1.E.List_), .sl a1.E.Ops.length (fl e_S_api_Op a1.E.Ops)] 0]), (10, .val (.int .i64 a1.Kind))]⟩ (Loc O n [none]) (fit_loc hU rfl rfl ?_) ?_
      · simp only [push_cast, seval, ↓reduceIte, cast_lit, hN0, hN]
      refine W_seqK ?_
      refine W_sq [0, 2, 4, 7, 10, 13] (W_regionD tab_ok [] ?_)
      simp only [push_cast, seval, ↓reduceIte, cast_lit, hN0, hN]
      refine W_cond (t := (a1.Kind == 1)) rfl (fun c6 => ?_) (fun c6 => ?_)
      · replace hz1 := condT c6 hz1
        refine W_exit ?_
        try simp only [gthen, gblock, ↓reduceIte, Nat.reduceEqDiff]
        have hz1 := Option.some.inj hz1; subst hz1
        refine And.intro rfl (Fit2.of (fit_loc hU rfl rfl ?_) (by omega))
        simp only [push_cast, seval, ↓reduceIte, cast_lit, hN0, hN]
      · replace hz1 := condF c6 hz1
        refine W_skip ?_
        try simp only [gthen, gblock]
        refine W_fit ⟨60, [], [(0, .val (.int .i64 a0)), (2, .val (.int .i64 a2)), (4, .ip [.val (.int .i64 a1.Kind), .val (.int .i64 a1.N), .sl a1.L.length (fl e_S_api_Tree a1.L), .val (.int .i64 a1.E.Kind), .val (.int .i64 a1.E.Old.Kind), .sl a1.E.Old.Words.length (fl (eI .u64) a1.E.Old.Words), .sl a1.E.Old.Kids.length (fl e_S_api_Tree a1.E.Old.Kids), .val (.int .i64 a1.E.New.Kind), .sl a1.E.New.Words.length (fl (eI .u64) a1.E.New.Words), .sl a1.E.New.Kids.length (fl e_S_api_Tree a1.E.New.Kids), .sl a1.E.Words.length (fl e_S_api_WordEdit a1.E.Words), .sl a1.E.Kids.length (fl e_S_api_KidEdit a1.E.Kids), .val (.int .i64 a1.E.List_), .sl a1.E.Ops.length (fl e_S_api_Op a1.E.Ops)] 0), (7, .fn 136 0 [.ip [.val (.int .i64 a1.Kind), .val (.int .i64 a1.N), .sl a1.L.length (fl e_S_api_Tree a1.L), .val (.int .i64 a1.E.Kind), .val (.int .i64 a1.E.Old.Kind), .sl a1.E.Old.Words.length (fl (eI .u64) a1.E.Old.Words), .sl a1.E.Old.Kids.length (fl e_S_api_Tree a1.E.Old.Kids), .val (.int .i64 a1.E.New.Kind), .sl a1.E.New.Words.length (fl (eI .u64) a1.E.New.Words), .sl a1.E.New.Kids.length (fl e_S_api_Tree a1.E.New.Kids), .sl a1.E.Words.length (fl e_S_api_WordEdit a1.E.Words), .sl a1.E.Kids.length (fl e_S_api_KidEdit a1.E.Kids), .val (.int .i64 a1.E.List_), .sl a1.E.Ops.length (fl e_S_api_Op a1.E.Ops)] 0]), (10, .val (.int .i64 a1.Kind))]⟩ (Loc O n [none]) (fit_loc hU rfl rfl ?_) ?_
        · simp only [push_cast, seval, ↓reduceIte, cast_lit, hN0, hN]
        refine W_seqK ?_
        refine W_sq [0, 2, 4, 7, 10, 15] (W_regionD tab_ok [] ?_)
        simp only [push_cast, seval, ↓reduceIte, cast_lit, hN0, hN]
        refine W_cond (t := (a1.Kind == 2)) rfl (fun c5 => ?_) (fun c5 => ?_)
        · replace hz1 := condT c5 hz1
          refine W_exit ?_
          try simp only [gthen, gblock, ↓reduceIte, Nat.reduceEqDiff]
          have hz1 := Option.some.inj hz1; subst hz1
          refine And.intro rfl (Fit2.of (fit_loc hU rfl rfl ?_) (by omega))
          simp only [push_cast, seval, ↓reduceIte, cast_lit, hN0, hN]
        · replace hz1 := condF c5 hz1
          refine W_skip ?_
          try simp only [gthen, gblock]
          refine W_fit ⟨60, [], [(0, .val (.int .i64 a0)), (2, .val (.int .i64 a2)), (4, .ip [.val (.int .i64 a1.Kind), .val (.int .i64 a1.N), .sl a1.L.length (fl e_S_api_Tree a1.L), .val (.int .i64 a1.E.Kind), .val (.int .i64 a1.E.Old.Kind), .sl a1.E.Old.Words.length (fl (eI .u64) a1.E.Old.Words), .sl a1.E.Old.Kids.length (fl e_S_api_Tree a1.E.Old.Kids), .val (.int .i64 a1.E.New.Kind), .sl a1.E.New.Words.length (fl (eI .u64) a1.E.New.Words), .sl a1.E.New.Kids.length (fl e_S_api_Tree a1.E.New.Kids), .sl a1.E.Words.length (fl e_S_api_WordEdit a1.E.Words), .sl a1.E.Kids.length (fl e_S_api_KidEdit a1.E.Kids), .val (.int .i64 a1.E.List_), .sl a1.E.Ops.length (fl e_S_api_Op a1.E.Ops)] 0), (7, .fn 136 0 [.ip [.val (.int .i64 a1.Kind), .val (.int .i64 a1.N), .sl a1.L.length (fl e_S_api_Tree a1.L), .val (.int .i64 a1.E.Kind), .val (.int .i64 a1.E.Old.Kind), .sl a1.E.Old.Words.length (fl (eI .u64) a1.E.Old.Words), .sl a1.E.Old.Kids.length (fl e_S_api_Tree a1.E.Old.Kids), .val (.int .i64 a1.E.New.Kind), .sl a1.E.New.Words.length (fl (eI .u64) a1.E.New.Words), .sl a1.E.New.Kids.length (fl e_S_api_Tree a1.E.New.Kids), .sl a1.E.Words.length (fl e_S_api_WordEdit a1.E.Words), .sl a1.E.Kids.length (fl e_S_api_KidEdit a1.E.Kids), .val (.int .i64 a1.E.List_), .sl a1.E.Ops.length (fl e_S_api_Op a1.E.Ops)] 0]), (10, .val (.int .i64 a1.Kind))]⟩ (Loc O n [none]) (fit_loc hU rfl rfl ?_) ?_
          · simp only [push_cast, seval, ↓reduceIte, cast_lit, hN0, hN]
          refine W_sq [0, 2, 4, 7, 17] (W_regionD tab_ok [] ?_)
          simp only [push_cast, seval, ↓reduceIte, cast_lit, hN0, hN]
          refine W_cond (t := (a1.Kind == 3)) rfl (fun c4 => ?_) (fun c4 => ?_)
          · replace hz1 := condT c4 hz1
            refine W_exit ?_
            try simp only [gthen, gblock, ↓reduceIte, Nat.reduceEqDiff]
            have hz1 := Option.some.inj hz1; subst hz1
            refine And.intro rfl (Fit2.of (fit_loc hU rfl rfl ?_) (by omega))
            simp only [push_cast, seval, ↓reduceIte, cast_lit, hN0, hN]
          · replace hz1 := condF c4 hz1
            refine W_skip ?_
            try simp only [gthen, gblock]
            refine W_fit ⟨60, [], []⟩ (Loc O n [none]) (fit_loc hU rfl rfl ?_) ?_
            · simp only [push_cast, seval, ↓reduceIte, cast_lit, hN0, hN]
            refine W_exit ?_
            try simp only [gthen, gblock, ↓reduceIte, Nat.reduceEqDiff]
            have hz1 := Option.some.inj hz1; subst hz1
            refine And.intro rfl (Fit2.of (fit_loc hU rfl rfl ?_) (by omega))
            simp only [push_cast, seval, ↓reduceIte, cast_lit, hN0, hN]
  rcases z1 with z1 | z1
  · dsimp only [SumJ] at hw h
    refine W_seqN hw ?_
    refine W_seqK ?_
    obtain ⟨z10, hz10, h⟩ := bC h
    refine W_seqN (E' := ⟨60, [], [(6, .val (.bool z10))]⟩) (O' := (Loc O n [none])) (n0 := (n + 1)) ?_ ?_
    · obtain ⟨y11, hy11, hz10⟩ := bC hz10
      rcases Bool.eq_false_or_eq_true y11 with c13 | c13
      · replace hz10 := condT c13 hz10
        rcases Bool.eq_false_or_eq_true (decide (0 < (a1.L.length : Int))) with c14 | c14
        · replace hz10 := condT c14 hz10
          try rw [c14] at c13
          obtain ⟨y12, hy12, hz10⟩ := bC hz10
          refine W_regionD tab_ok [none, none, none, none, some true, some true, some true, some true, some true] ?_
          simp only [push_cast, seval, ↓reduceIte, cast_lit, c13, c14, hN0, hN]
          repeat (with_reducible refine And.intro (by first | (intro h0; simp only [h0, and_self]; done) | (intro h0; simp only [h0, Bool.not_false, Bool.not_true, Bool.true_and, Bool.and_true, true_and, and_true, and_self, imp_self, implies_true, bne_iff_ne, ne_eq, beq_iff_eq]; done) | (intros; simp_all; done) | exact True.intro) ?_)
          refine GCalls.argsW ?_ ((ok_r_edit_rightOp_1 hy11).then ?_)
          · simp only [push_cast, seval, ↓reduceIte, cast_lit, c13, c14, hN0, hN]
          simp only [push_cast, seval, ↓reduceIte, cast_lit, c13, c14, hN0, hN]
          repeat (with_reducible refine And.intro (by first | (intro h0; simp only [h0, and_self]; done) | (intro h0; simp only [h0, Bool.not_false, Bool.not_true, Bool.true_and, Bool.and_true, true_and, and_true, and_self, imp_self, implies_true, bne_iff_ne, ne_eq, beq_iff_eq]; done) | (intros; simp_all; done) | exact True.intro) ?_)
          refine GCalls.argsW ?_ ((ok_tree_Right hy12).then ?_)
          · simp only [push_cast, seval, ↓reduceIte, cast_lit, c13, c14, hN0, hN]
          simp only [push_cast, seval, ↓reduceIte, cast_lit, c13, c14, hN0, hN]
          repeat (with_reducible refine And.intro (by first | (intro h0; simp only [h0, and_self]; done) | (intro h0; simp only [h0, Bool.not_false, Bool.not_true, Bool.true_and, Bool.and_true, true_and, and_true, and_self, imp_self, implies_true, bne_iff_ne, ne_eq, beq_iff_eq]; done) | (intros; simp_all; done) | exact True.intro) ?_)
          have hz10 := Option.some.inj hz10; subst hz10
          refine And.intro rfl (Fit2.of (fit_loc hU rfl rfl ?_) (by omega))
          simp only [push_cast, seval, ↓reduceIte, cast_lit, c13, c14, hN0, hN]
        · replace hz10 := condF c14 hz10
          try rw [c14] at c13
          refine W_regionD tab_ok [none, none, none, none, some false, some false, some false, some false, some false] ?_
          simp only [push_cast, seval, ↓reduceIte, cast_lit, c13, c14, hN0, hN]
          repeat (with_reducible refine And.intro (by first | (intro h0; simp only [h0, and_self]; done) | (intro h0; simp only [h0, Bool.not_false, Bool.not_true, Bool.true_and, Bool.and_true, true_and, and_true, and_self, imp_self, implies_true, bne_iff_ne, ne_eq, beq_iff_eq]; done) | (intros; simp_all; done) | exact True.intro) ?_)
          refine GCalls.argsW ?_ ((ok_r_edit_rightOp_1 hy11).then ?_)
          · simp only [push_cast, seval, ↓reduceIte, cast_lit, c13, c14, hN0, hN]
          simp only [push_cast, seval, ↓reduceIte, cast_lit, c13, c14, hN0, hN]
          repeat (with_reducible refine And.intro (by first | (intro h0; simp only [h0, and_self]; done) | (intro h0; simp only [h0, Bool.not_false, Bool.not_true, Bool.true_and, Bool.and_true, true_and, and_true, and_self, imp_self, implies_true, bne_iff_ne, ne_eq, beq_iff_eq]; done) | (intros; simp_all; done) | exact True.intro) ?_)
          have hz10 := Option.some.inj hz10; subst hz10
          refine And.intro rfl (Fit2.of (fit_loc hU rfl rfl ?_) (by omega))
          simp only [push_cast, seval, ↓reduceIte, cast_lit, c13, c14, hN0, hN]
      · replace hz10 := condF c13 hz10
        refine W_regionD tab_ok [none, none, none, none, some false, some false, some false, some false, some false] ?_
        simp only [push_cast, seval, ↓reduceIte, cast_lit, c13, hN0, hN]
        repeat (with_reducible refine And.intro (by first | (intro h0; simp only [h0, and_self]; done) | (intro h0; simp only [h0, Bool.not_false, Bool.not_true, Bool.true_and, Bool.and_true, true_and, and_true, and_self, imp_self, implies_true, bne_iff_ne, ne_eq, beq_iff_eq]; done) | (intros; simp_all; done) | exact True.intro) ?_)
        refine GCalls.argsW ?_ ((ok_r_edit_rightOp_1 hy11).then ?_)
        · simp only [push_cast, seval, ↓reduceIte, cast_lit, c13, hN0, hN]
        simp only [push_cast, seval, ↓reduceIte, cast_lit, c13, hN0, hN]
        repeat (with_reducible refine And.intro (by first | (intro h0; simp only [h0, and_self]; done) | (intro h0; simp only [h0, Bool.not_false, Bool.not_true, Bool.true_and, Bool.and_true, true_and, and_true, and_self, imp_self, implies_true, bne_iff_ne, ne_eq, beq_iff_eq]; done) | (intros; simp_all; done) | exact True.intro) ?_)
        have hz10 := Option.some.inj hz10; subst hz10
        refine And.intro rfl (Fit2.of (fit_loc hU rfl rfl ?_) (by omega))
        simp only [push_cast, seval, ↓reduceIte, cast_lit, c13, hN0, hN]
    refine W_ret ?_
    try simp only [gthen, gblock]
    have h := Option.some.inj h; subst h
    refine fin_loc (.inr rfl) hU [.val (.bool z10)] (by omega) ?_
    simp only [push_cast, seval, ↓reduceIte, cast_lit, Try.results117, hN0, hN]
  · rcases z1 with z1 | z1
    · dsimp only [SumJ] at hw h
      refine W_seqR hw ?_
      try simp only [gthen, gblock]
      have h := Option.some.inj h; subst h
      refine fin_loc (.inr rfl) hU [.val (.bool z1)] (by omega) ?_
      simp only [push_cast, seval, ↓reduceIte, cast_lit, Try.results117, hN0, hN]
    · rcases z1 with z1 | z1
      · dsimp only [SumJ] at hw h
        refine W_seqX hw ?_
        try simp only [gthen, gblock, ↓reduceIte, Nat.reduceEqDiff]
        refine W_fit ⟨60, [], [(0, .val (.int .i64 a0)), (2, .val (.int .i64 a2)), (4, .ip [.val (.int .i64 a1.Kind), .val (.int .i64 a1.N), .sl a1.L.length (fl e_S_api_Tree a1.L), .val (.int .i64 a1.E.Kind), .val (.int .i64 a1.E.Old.Kind), .sl a1.E.Old.Words.length (fl (eI .u64) a1.E.Old.Words), .sl a1.E.Old.Kids.length (fl e_S_api_Tree a1.E.Old.Kids), .val (.int .i64 a1.E.New.Kind), .sl a1.E.New.Words.length (fl (eI .u64) a1.E.New.Words), .sl a1.E.New.Kids.length (fl e_S_api_Tree a1.E.New.Kids), .sl a1.E.Words.length (fl e_S_api_WordEdit a1.E.Words), .sl a1.E.Kids.length (fl e_S_api_KidEdit a1.E.Kids), .val (.int .i64 a1.E.List_), .sl a1.E.Ops.length (fl e_S_api_Op a1.E.Ops)] 0), (7, .fn 136 0 [.ip [.val (.int .i64 a1.Kind), .val (.int .i64 a1.N), .sl a1.L.length (fl e_S_api_Tree a1.L), .val (.int .i64 a1.E.Kind), .val (.int .i64 a1.E.Old.Kind), .sl a1.E.Old.Words.length (fl (eI .u64) a1.E.Old.Words), .sl a1.E.Old.Kids.length (fl e_S_api_Tree a1.E.Old.Kids), .val (.int .i64 a1.E.New.Kind), .sl a1.E.New.Words.length (fl (eI .u64) a1.E.New.Words), .sl a1.E.New.Kids.length (fl e_S_api_Tree a1.E.New.Kids), .sl a1.E.Words.length (fl e_S_api_WordEdit a1.E.Words), .sl a1.E.Kids.length (fl e_S_api_KidEdit a1.E.Kids), .val (.int .i64 a1.E.List_), .sl a1.E.Ops.length (fl e_S_api_Op a1.E.Ops)] 0])]⟩ (Loc O n [none]) (fit_loc hU rfl rfl ?_) ?_
        · simp only [push_cast, seval, ↓reduceIte, cast_lit, hN0, hN]
        refine W_seqK ?_
        obtain ⟨z18, hz18, h⟩ := bC h
        refine W_seqN (E' := ⟨60, [], [(6, .val (.bool z18))]⟩) (O' := (Loc O n [none])) (n0 := (n + 1)) ?_ ?_
        · obtain ⟨y19, hy19, hz18⟩ := bC hz18
          rcases Bool.eq_false_or_eq_true y19 with c22 | c22
          · replace hz18 := condT c22 hz18
            obtain ⟨y20, hy20, hz18⟩ := bC hz18
            rcases Bool.eq_false_or_eq_true y20 with c23 | c23
            · replace hz18 := condT c23 hz18
              try rw [c23] at c22
              obtain ⟨y21, hy21, hz18⟩ := bC hz18
              refine W_regionD tab_ok [some true, some true, some true, some true, some true, some true, some true, some true] ?_
              simp only [push_cast, seval, ↓reduceIte, cast_lit, c22, c23, hN0, hN]
              refine GCalls.argsW ?_ ((ok_r_edit_rightOp_1 hy19).then ?_)
              · simp only [push_cast, seval, ↓reduceIte, cast_lit, c22, c23, hN0, hN]
              simp only [push_cast, seval, ↓reduceIte, cast_lit, c22, c23, hN0, hN]
              refine (ok_edit_descends hy20).then ?_
              simp only [push_cast, seval, ↓reduceIte, cast_lit, c22, c23, hN0, hN]
              refine (ok_r_edit_right hy21).then ?_
              simp only [push_cast, seval, ↓reduceIte, cast_lit, c22, c23, hN0, hN]
              have hz18 := Option.some.inj hz18; subst hz18
              refine And.intro rfl (Fit2.of (fit_loc hU rfl rfl ?_) (by omega))
              simp only [push_cast, seval, ↓reduceIte, cast_lit, c22, c23, hN0, hN]
            · replace hz18 := condF c23 hz18
              try rw [c23] at c22
              refine W_regionD tab_ok [some true, some true, some true, some true, some false, some false, some false, some false] ?_
              simp only [push_cast, seval, ↓reduceIte, cast_lit, c22, c23, hN0, hN]
              refine GCalls.argsW ?_ ((ok_r_edit_rightOp_1 hy19).then ?_)
              · simp only [push_cast, seval, ↓reduceIte, cast_lit, c22, c23, hN0, hN]
              simp only [push_cast, seval, ↓reduceIte, cast_lit, c22, c23, hN0, hN]
              refine (ok_edit_descends hy20).then ?_
              simp only [push_cast, seval, ↓reduceIte, cast_lit, c22, c23, hN0, hN]
              have hz18 := Option.some.inj hz18; subst hz18
              refine And.intro rfl (Fit2.of (fit_loc hU rfl rfl ?_) (by omega))
              simp only [push_cast, seval, ↓reduceIte, cast_lit, c22, c23, hN0, hN]
          · replace hz18 := condF c22 hz18
            refine W_regionD tab_ok [some false, some false, some false, some false, some false, some false, some false, some false] ?_
            simp only [push_cast, seval, ↓reduceIte, cast_lit, c22, hN0, hN]
            refine GCalls.argsW ?_ ((ok_r_edit_rightOp_1 hy19).then ?_)
            · simp only [push_cast, seval, ↓reduceIte, cast_lit, c22, hN0, hN]
            simp only [push_cast, seval, ↓reduceIte, cast_lit, c22, hN0, hN]
            have hz18 := Option.some.inj hz18; subst hz18
            refine And.intro rfl (Fit2.of (fit_loc hU rfl rfl ?_) (by omega))
            simp only [push_cast, seval, ↓reduceIte, cast_lit, c22, hN0, hN]
        refine W_ret ?_
        try simp only [gthen, gblock]
        have h := Option.some.inj h; subst h
        refine fin_loc (.inr rfl) hU [.val (.bool z18)] (by omega) ?_
        simp only [push_cast, seval, ↓reduceIte, cast_lit, Try.results117, hN0, hN]
      · dsimp only [SumJ] at hw h
        refine W_seqX hw ?_
        try simp only [gthen, gblock, ↓reduceIte, Nat.reduceEqDiff]
        refine W_fit ⟨60, [], []⟩ (Loc O n [none]) (fit_loc hU rfl rfl ?_) ?_
        · simp only [push_cast, seval, ↓reduceIte, cast_lit, hN0, hN]
        refine W_sq [6] (W_regionD tab_ok [] ?_)
        simp only [push_cast, seval, ↓reduceIte, cast_lit, hN0, hN]
        refine W_ret ?_
        try simp only [gthen, gblock]
        have h := Option.some.inj h; subst h
        refine fin_loc (.inr rfl) hU [.val (.bool false)] (by omega) ?_
        simp only [push_cast, seval, ↓reduceIte, cast_lit, Try.results117, hN0, hN]

theorem okb_edit_rightOp_1 {r_edit_Right : (S_api_Edit → Option Bool)} {r_edit_right : (S_api_Edit → Int → Option Bool)} {r_edit_rightKids : ((List S_api_KidEdit) → Int → Option Bool)} {r_edit_rightOps : (S_api_Edit → Int → Option Bool)} {r_edit_rightOp : (Int → S_api_Op → Int → Option Bool)} {r_edit_rightOp_1 : (Bool → Bool → Bool → S_api_Op → Option Bool)} (ok_r_edit_Right : ∀ {a0 : S_api_Edit} {r : Bool} {O : Objs} {n : Nat}, r_edit_Right a0 = some r → GTo Try.prog 44 [.agg [.val (.int .i64 a0.Kind), .val (.int .i64 a0.Old.Kind), .sl a0.Old.Words.length (fl (eI .u64) a0.Old.Words), .sl a0.Old.Kids.length (fl e_S_api_Tree a0.Old.Kids), .val (.int .i64 a0.New.Kind), .sl a0.New.Words.length (fl (eI .u64) a0.New.Words), .sl a0.New.Kids.length (fl e_S_api_Tree a0.New.Kids), .sl a0.Words.length (fl e_S_api_WordEdit a0.Words), .sl a0.Kids.length (fl e_S_api_KidEdit a0.Kids), .val (.int .i64 a0.List_), .sl a0.Ops.length (fl e_S_api_Op a0.Ops)]] O n (.val (.bool r)) O n) (ok_r_edit_right : ∀ {a0 : S_api_Edit} {a1 : Int} {r : Bool} {O : Objs} {n : Nat}, r_edit_right a0 a1 = some r → GTo Try.prog 74 [.agg [.val (.int .i64 a0.Kind), .val (.int .i64 a0.Old.Kind), .sl a0.Old.Words.length (fl (eI .u64) a0.Old.Words), .sl a0.Old.Kids.length (fl e_S_api_Tree a0.Old.Kids), .val (.int .i64 a0.New.Kind), .sl a0.New.Words.length (fl (eI .u64) a0.New.Words), .sl a0.New.Kids.length (fl e_S_api_Tree a0.New.Kids), .sl a0.Words.length (fl e_S_api_WordEdit a0.Words), .sl a0.Kids.length (fl e_S_api_KidEdit a0.Kids), .val (.int .i64 a0.List_), .sl a0.Ops.length (fl e_S_api_Op a0.Ops)], .val (.int .i64 a1)] O n (.val (.bool r)) O n) (ok_r_edit_rightKids : ∀ {a0 : (List S_api_KidEdit)} {a1 : Int} {r : Bool} {O : Objs} {n : Nat}, r_edit_rightKids a0 a1 = some r → GTo Try.prog 98 [.sl a0.length (fl e_S_api_KidEdit a0), .val (.int .i64 a1)] O n (.val (.bool r)) O n) (ok_r_edit_rightOps : ∀ {a0 : S_api_Edit} {a1 : Int} {r : Bool} {O : Objs} {n : Nat}, r_edit_rightOps a0 a1 = some r → GTo Try.prog 99 [.agg [.val (.int .i64 a0.Kind), .val (.int .i64 a0.Old.Kind), .sl a0.Old.Words.length (fl (eI .u64) a0.Old.Words), .sl a0.Old.Kids.length (fl e_S_api_Tree a0.Old.Kids), .val (.int .i64 a0.New.Kind), .sl a0.New.Words.length (fl (eI .u64) a0.New.Words), .sl a0.New.Kids.length (fl e_S_api_Tree a0.New.Kids), .sl a0.Words.length (fl e_S_api_WordEdit a0.Words), .sl a0.Kids.length (fl e_S_api_KidEdit a0.Kids), .val (.int .i64 a0.List_), .sl a0.Ops.length (fl e_S_api_Op a0.Ops)], .val (.int .i64 a1)] O n (.val (.bool r)) O n) (ok_r_edit_rightOp : ∀ {a0 : Int} {a1 : S_api_Op} {a2 : Int} {r : Bool} {O : Objs} {n : Nat}, r_edit_rightOp a0 a1 a2 = some r → GTo Try.prog 117 [.val (.int .i64 a0), .agg [.val (.int .i64 a1.Kind), .val (.int .i64 a1.N), .sl a1.L.length (fl e_S_api_Tree a1.L), .val (.int .i64 a1.E.Kind), .val (.int .i64 a1.E.Old.Kind), .sl a1.E.Old.Words.length (fl (eI .u64) a1.E.Old.Words), .sl a1.E.Old.Kids.length (fl e_S_api_Tree a1.E.Old.Kids), .val (.int .i64 a1.E.New.Kind), .sl a1.E.New.Words.length (fl (eI .u64) a1.E.New.Words), .sl a1.E.New.Kids.length (fl e_S_api_Tree a1.E.New.Kids), .sl a1.E.Words.length (fl e_S_api_WordEdit a1.E.Words), .sl a1.E.Kids.length (fl e_S_api_KidEdit a1.E.Kids), .val (.int .i64 a1.E.List_), .sl a1.E.Ops.length (fl e_S_api_Op a1.E.Ops)], .val (.int .i64 a2)] O n (.val (.bool r)) O n) (ok_r_edit_rightOp_1 : ∀ {a0 : Bool} {a1 : Bool} {a2 : Bool} {a3 : S_api_Op} {r : Bool} {O : Objs} {n : Nat}, r_edit_rightOp_1 a0 a1 a2 a3 = some r → GTo Try.prog 136 [.val (.bool a0), .val (.bool a1), .val (.bool a2), .ip [.val (.int .i64 a3.Kind), .val (.int .i64 a3.N), .sl a3.L.length (fl e_S_api_Tree a3.L), .val (.int .i64 a3.E.Kind), .val (.int .i64 a3.E.Old.Kind), .sl a3.E.Old.Words.length (fl (eI .u64) a3.E.Old.Words), .sl a3.E.Old.Kids.length (fl e_S_api_Tree a3.E.Old.Kids), .val (.int .i64 a3.E.New.Kind), .sl a3.E.New.Words.length (fl (eI .u64) a3.E.New.Words), .sl a3.E.New.Kids.length (fl e_S_api_Tree a3.E.New.Kids), .sl a3.E.Words.length (fl e_S_api_WordEdit a3.E.Words), .sl a3.E.Kids.length (fl e_S_api_KidEdit a3.E.Kids), .val (.int .i64 a3.E.List_), .sl a3.E.Ops.length (fl e_S_api_Op a3.E.Ops)] 0] O n (.val (.bool r)) O n) {a0 : Bool} {a1 : Bool} {a2 : Bool} {a3 : S_api_Op} {r : Bool} {O : Objs} {n : Nat} (h : b_edit_rightOp_1 r_edit_Right r_edit_right r_edit_rightKids r_edit_rightOps r_edit_rightOp r_edit_rightOp_1 a0 a1 a2 a3 = some r) : GTo Try.prog 136 [.val (.bool a0), .val (.bool a1), .val (.bool a2), .ip [.val (.int .i64 a3.Kind), .val (.int .i64 a3.N), .sl a3.L.length (fl e_S_api_Tree a3.L), .val (.int .i64 a3.E.Kind), .val (.int .i64 a3.E.Old.Kind), .sl a3.E.Old.Words.length (fl (eI .u64) a3.E.Old.Words), .sl a3.E.Old.Kids.length (fl e_S_api_Tree a3.E.Old.Kids), .val (.int .i64 a3.E.New.Kind), .sl a3.E.New.Words.length (fl (eI .u64) a3.E.New.Words), .sl a3.E.New.Kids.length (fl e_S_api_Tree a3.E.New.Kids), .sl a3.E.Words.length (fl e_S_api_WordEdit a3.E.Words), .sl a3.E.Kids.length (fl e_S_api_KidEdit a3.E.Kids), .val (.int .i64 a3.E.List_), .sl a3.E.Ops.length (fl e_S_api_Op a3.E.Ops)] 0] O n (.val (.bool r)) O n := by
  unfold b_edit_rightOp_1 at h
  refine fn_of tab_ok Try.call136 Try.func136 rfl (Nat.le_of_ble_eq_true rfl) (Nat.le_refl _) fun hU => ?_
  have hN0 : O n = none := hU.fresh _ (Nat.le_refl _)
  have hN : ∀ k, O (n + k) = none := fun k => hU.fresh _ (Nat.le_add_right _ _)
  show W _ _ _ _ ⟨41, [], [(0, .val (.bool a0)), (1, .val (.bool a1)), (2, .val (.bool a2)), (3, .ip [.val (.int .i64 a3.Kind), .val (.int .i64 a3.N), .sl a3.L.length (fl e_S_api_Tree a3.L), .val (.int .i64 a3.E.Kind), .val (.int .i64 a3.E.Old.Kind), .sl a3.E.Old.Words.length (fl (eI .u64) a3.E.Old.Words), .sl a3.E.Old.Kids.length (fl e_S_api_Tree a3.E.Old.Kids), .val (.int .i64 a3.E.New.Kind), .sl a3.E.New.Words.length (fl (eI .u64) a3.E.New.Words), .sl a3.E.New.Kids.length (fl e_S_api_Tree a3.E.New.Kids), .sl a3.E.Words.length (fl e_S_api_WordEdit a3.E.Words), .sl a3.E.Kids.length (fl e_S_api_KidEdit a3.E.Kids), .val (.int .i64 a3.E.List_), .sl a3.E.Ops.length (fl e_S_api_Op a3.E.Ops)] 0)]⟩ (Loc O n []) _
  refine W_sq [0, 1, 2, 3] (W_regionD tab_ok [] ?_)
  simp only [push_cast, seval, ↓reduceIte, cast_lit, hN0, hN]
  obtain ⟨z5, hz5, h⟩ := bC h
  refine W_seqN (E' := ⟨41, [], [(7, .val (.bool z5))]⟩) (O' := (Loc O n [])) (n0 := n) ?_ ?_
  · rcases Bool.eq_false_or_eq_true a0 with c10 | c10
    · replace hz5 := condT c10 hz5
      rcases Bool.eq_false_or_eq_true (a3.N != 0) with c11 | c11
      · replace hz5 := condT c11 hz5
        try rw [c11] at c10
        refine W_regionD tab_ok [none, none, none, none, none, none, none, none, none, none, none, some false, some false, some false, some false, some false, some false, some false, some false, some false, some false, some false, some false, some false, some false] ?_
        simp only [push_cast, seval, ↓reduceIte, cast_lit, c10, c11, hN0, hN]
        repeat (with_reducible refine And.intro (by first | (intro h0; simp only [h0, and_self]; done) | (intro h0; simp only [h0, Bool.not_false, Bool.not_true, Bool.true_and, Bool.and_true, true_and, and_true, and_self, imp_self, implies_true, bne_iff_ne, ne_eq, beq_iff_eq]; done) | (intros; simp_all; done) | exact True.intro) ?_)
        have hz5 := Option.some.inj hz5; subst hz5
        refine And.intro rfl (Fit2.of (fit_loc hU rfl rfl ?_) (by omega))
        simp only [push_cast, seval, ↓reduceIte, cast_lit, c10, c11, hN0, hN]
      · replace hz5 := condF c11 hz5
        try rw [c11] at c10
        rcases Bool.eq_false_or_eq_true a1 with c12 | c12
        · replace hz5 := condT c12 hz5
          try rw [c12] at c10
          try rw [c12] at c11
          rcases Bool.eq_false_or_eq_true (decide (0 < (a3.L.length : Int))) with c13 | c13
          · replace hz5 := condT c13 hz5
            try rw [c13] at c10
            try rw [c13] at c11
            try rw [c13] at c12
            refine W_regionD tab_ok [none, none, none, none, none, none, none, none, none, none, none, some false, some false, some false, some false, some false, some false, some false, some false, some false, some false, some false, some false, some false, some false] ?_
            simp only [push_cast, seval, ↓reduceIte, cast_lit, c10, c11, c12, c13, hN0, hN]
            repeat (with_reducible refine And.intro (by first | (intro h0; simp only [h0, and_self]; done) | (intro h0; simp only [h0, Bool.not_false, Bool.not_true, Bool.true_and, Bool.and_true, true_and, and_true, and_self, imp_self, implies_true, bne_iff_ne, ne_eq, beq_iff_eq]; done) | (intros; simp_all; done) | exact True.intro) ?_)
            have hz5 := Option.some.inj hz5; subst hz5
            refine And.intro rfl (Fit2.of (fit_loc hU rfl rfl ?_) (by omega))
            simp only [push_cast, seval, ↓reduceIte, cast_lit, c10, c11, c12, c13, hN0, hN]
          · replace hz5 := condF c13 hz5
            try rw [c13] at c10
            try rw [c13] at c11
            try rw [c13] at c12
            rcases Bool.eq_false_or_eq_true a2 with c14 | c14
            · replace hz5 := condT c14 hz5
              try rw [c14] at c10
              try rw [c14] at c11
              try rw [c14] at c12
              try rw [c14] at c13
              rcases Bool.eq_false_or_eq_true (a3.E.Kind != 0) with c15 | c15
              · replace hz5 := condT c15 hz5
                try rw [c15] at c10
                try rw [c15] at c11
                try rw [c15] at c12
                try rw [c15] at c13
                try rw [c15] at c14
                refine W_regionD tab_ok [none, none, none, none, none, none, none, none, none, none, none, some true, some true, some true, some true, some true, some true, some true, some false, some false, some false, some false, some true, some true, some true] ?_
                simp only [push_cast, seval, ↓reduceIte, cast_lit, c10, c11, c12, c13, c14, c15, hN0, hN]
                repeat (with_reducible refine And.intro (by first | (intro h0; simp only [h0, and_self]; done) | (intro h0; simp only [h0, Bool.not_false, Bool.not_true, Bool.true_and, Bool.and_true, true_and, and_true, and_self, imp_self, implies_true, bne_iff_ne, ne_eq, beq_iff_eq]; done) | (intros; simp_all; done) | exact True.intro) ?_)
                have hz5 := Option.some.inj hz5; subst hz5
                refine And.intro rfl (Fit2.of (fit_loc hU rfl rfl ?_) (by omega))
                simp only [push_cast, seval, ↓reduceIte, cast_lit, c10, c11, c12, c13, c14, c15, hN0, hN]
              · replace hz5 := condF c15 hz5
                try rw [c15] at c10
                try rw [c15] at c11
                try rw [c15] at c12
                try rw [c15] at c13
                try rw [c15] at c14
                obtain ⟨y6, hy6, hz5⟩ := bC hz5
                refine W_regionD tab_ok [none, none, none, none, none, none, none, none, none, none, none, some true, some true, some true, some true, some true, some true, some true, some true, some true, some true, some true, some true, some true, some true] ?_
                simp only [push_cast, seval, ↓reduceIte, cast_lit, c10, c11, c12, c13, c14, c15, hN0, hN]
                repeat (with_reducible refine And.intro (by first | (intro h0; simp only [h0, and_self]; done) | (intro h0; simp only [h0, Bool.not_false, Bool.not_true, Bool.true_and, Bool.and_true, true_and, and_true, and_self, imp_self, implies_true, bne_iff_ne, ne_eq, beq_iff_eq]; done) | (intros; simp_all; done) | exact True.intro) ?_)
                refine (ok_r_edit_Right hy6).then ?_
                simp only [push_cast, seval, ↓reduceIte, cast_lit, c10, c11, c12, c13, c14, c15, hN0, hN]
                repeat (with_reducible refine And.intro (by first | (intro h0; simp only [h0, and_self]; done) | (intro h0; simp only [h0, Bool.not_false, Bool.not_true, Bool.true_and, Bool.and_true, true_and, and_true, and_self, imp_self, implies_true, bne_iff_ne, ne_eq, beq_iff_eq]; done) | (intros; simp_all; done) | exact True.intro) ?_)
                have hz5 := Option.some.inj hz5; subst hz5
                refine And.intro rfl (Fit2.of (fit_loc hU rfl rfl ?_) (by omega))
                simp only [push_cast, seval, ↓reduceIte, cast_lit, c10, c11, c12, c13, c14, c15, hN0, hN]
            · replace hz5 := condF c14 hz5
              try rw [c14] at c10
              try rw [c14] at c11
              try rw [c14] at c12
              try rw [c14] at c13
              refine W_regionD tab_ok [none, none, none, none, none, none, none, none, none, none, none, some true, some true, some false, some false, some false, some false, some false, some false, some false, some false, some false, some false, some true, some true] ?_
              simp only [push_cast, seval, ↓reduceIte, cast_lit, c10, c11, c12, c13, c14, hN0, hN]
              repeat (with_reducible refine And.intro (by first | (intro h0; simp only [h0, and_self]; done) | (intro h0; simp only [h0, Bool.not_false, Bool.not_true, Bool.true_and, Bool.and_true, true_and, and_true, and_self, imp_self, implies_true, bne_iff_ne, ne_eq, beq_iff_eq]; done) | (intros; simp_all; done) | exact True.intro) ?_)
              have hz5 := Option.some.inj hz5; subst hz5
              refine And.intro rfl (Fit2.of (fit_loc hU rfl rfl ?_) (by omega))
              simp only [push_cast, seval, ↓reduceIte, cast_lit, c10, c11, c12, c13, c14, hN0, hN]
        · replace hz5 := condF c12 hz5
          try rw [c12] at c10
          try rw [c12] at c11
          rcases Bool.eq_false_or_eq_true a2 with c16 | c16
          · replace hz5 := condT c16 hz5
            try rw [c16] at c10
            try rw [c16] at c11
            try rw [c16] at c12
            rcases Bool.eq_false_or_eq_true (a3.E.Kind != 0) with c17 | c17
            · replace hz5 := condT c17 hz5
              try rw [c17] at c10
              try rw [c17] at c11
              try rw [c17] at c12
              try rw [c17] at c16
              refine W_regionD tab_ok [none, none, none, none, none, none, none, none, none, none, none, some true, some true, some true, some true, some true, some true, some true, some false, some false, some false, some false, some true, some true, some true] ?_
              simp only [push_cast, seval, ↓reduceIte, cast_lit, c10, c11, c12, c16, c17, hN0, hN]
              repeat (with_reducible refine And.intro (by first | (intro h0; simp only [h0, and_self]; done) | (intro h0; simp only [h0, Bool.not_false, Bool.not_true, Bool.true_and, Bool.and_true, true_and, and_true, and_self, imp_self, implies_true, bne_iff_ne, ne_eq, beq_iff_eq]; done) | (intros; simp_all; done) | exact True.intro) ?_)
              have hz5 := Option.some.inj hz5; subst hz5
              refine And.intro rfl (Fit2.of (fit_loc hU rfl rfl ?_) (by omega))
              simp only [push_cast, seval, ↓reduceIte, cast_lit, c10, c11, c12, c16, c17, hN0, hN]
            · replace hz5 := condF c17 hz5
              try rw [c17] at c10
              try rw [c17] at c11
              try rw [c17] at c12
              try rw [c17] at c16
              obtain ⟨y7, hy7, hz5⟩ := bC hz5
              refine W_regionD tab_ok [none, none, none, none, none, none, none, none, none, none, none, some true, some true, some true, some true, some true, some true, some true, some true, some true, some true, some true, some true, some true, some true] ?_
              simp only [push_cast, seval, ↓reduceIte, cast_lit, c10, c11, c12, c16, c17, hN0, hN]
              repeat (with_reducible refine And.intro (by first | (intro h0; simp only [h0, and_self]; done) | (intro h0; simp only [h0, Bool.not_false, Bool.not_true, Bool.true_and, Bool.and_true, true_and, and_true, and_self, imp_self, implies_true, bne_iff_ne, ne_eq, beq_iff_eq]; done) | (intros; simp_all; done) | exact True.intro) ?_)
              refine (ok_r_edit_Right hy7).then ?_
              simp only [push_cast, seval, ↓reduceIte, cast_lit, c10, c11, c12, c16, c17, hN0, hN]
              repeat (with_reducible refine And.intro (by first | (intro h0; simp only [h0, and_self]; done) | (intro h0; simp only [h0, Bool.not_false, Bool.not_true, Bool.true_and, Bool.and_true, true_and, and_true, and_self, imp_self, implies_true, bne_iff_ne, ne_eq, beq_iff_eq]; done) | (intros; simp_all; done) | exact True.intro) ?_)
              have hz5 := Option.some.inj hz5; subst hz5
              refine And.intro rfl (Fit2.of (fit_loc hU rfl rfl ?_) (by omega))
              simp only [push_cast, seval, ↓reduceIte, cast_lit, c10, c11, c12, c16, c17, hN0, hN]
          · replace hz5 := condF c16 hz5
            try rw [c16] at c10
            try rw [c16] at c11
            try rw [c16] at c12
            refine W_regionD tab_ok [none, none, none, none, none, none, none, none, none, none, none, some true, some true, some false, some false, some false, some false, some false, some false, some false, some false, some false, some false, some true, some true] ?_
            simp only [push_cast, seval, ↓reduceIte, cast_lit, c10, c11, c12, c16, hN0, hN]
            repeat (with_reducible refine And.intro (by first | (intro h0; simp only [h0, and_self]; done) | (intro h0; simp only [h0, Bool.not_false, Bool.not_true, Bool.true_and, Bool.and_true, true_and, and_true, and_self, imp_self, implies_true, bne_iff_ne, ne_eq, beq_iff_eq]; done) | (intros; simp_all; done) | exact True.intro) ?_)
            have hz5 := Option.some.inj hz5; subst hz5
            refine And.intro rfl (Fit2.of (fit_loc hU rfl rfl ?_) (by omega))
            simp only [push_cast, seval, ↓reduceIte, cast_lit, c10, c11, c12, c16, hN0, hN]
    · replace hz5 := condF c10 hz5
      rcases Bool.eq_false_or_eq_true a1 with c18 | c18
      · replace hz5 := condT c18 hz5
        try rw [c18] at c10
        rcases Bool.eq_false_or_eq_true (decide (0 < (a3.L.length : Int))) with c19 | c19
        · replace hz5 := condT c19 hz5
          try rw [c19] at c10
          try rw [c19] at c18
          refine W_regionD tab_ok [none, none, none, none, none, none, none, none, none, none, none, some false, some false, some false, some false, some false, some false, some false, some false, some false, some false, some false, some false, some false, some false] ?_
          simp only [push_cast, seval, ↓reduceIte, cast_lit, c10, c18, c19, hN0, hN]
          repeat (with_reducible refine And.intro (by first | (intro h0; simp only [h0, and_self]; done) | (intro h0; simp only [h0, Bool.not_false, Bool.not_true, Bool.true_and, Bool.and_true, true_and, and_true, and_self, imp_self, implies_true, bne_iff_ne, ne_eq, beq_iff_eq]; done) | (intros; simp_all; done) | exact True.intro) ?_)
          have hz5 := Option.some.inj hz5; subst hz5
          refine And.intro rfl (Fit2.of (fit_loc hU rfl rfl ?_) (by omega))
          simp only [push_cast, seval, ↓reduceIte, cast_lit, c10, c18, c19, hN0, hN]
        · replace hz5 := condF c19 hz5
          try rw [c19] at c10
          try rw [c19] at c18
          rcases Bool.eq_false_or_eq_true a2 with c20 | c20
          · replace hz5 := condT c20 hz5
            try rw [c20] at c10
            try rw [c20] at c18
            try rw [c20] at c19
            rcases Bool.eq_false_or_eq_true (a3.E.Kind != 0) with c21 | c21
            · replace hz5 := condT c21 hz5
              try rw [c21] at c10
              try rw [c21] at c18
              try rw [c21] at c19
              try rw [c21] at c20
              refine W_regionD tab_ok [none, none, none, none, none, none, none, none, none, none, none, some true, some true, some true, some true, some true, some true, some true, some false, some false, some false, some false, some true, some true, some true] ?_
              simp only [push_cast, seval, ↓reduceIte, cast_lit, c10, c18, c19, c20, c21, hN0, hN]
              repeat (with_reducible refine And.intro (by first | (intro h0; simp only [h0, and_self]; done) | (intro h0; simp only [h0, Bool.not_false, Bool.not_true, Bool.true_and, Bool.and_true, true_and, and_true, and_self, imp_self, implies_true, bne_iff_ne, ne_eq, beq_iff_eq]; done) | (intros; simp_all; done) | exact True.intro) ?_)
              have hz5 := Option.some.inj hz5; subst hz5
              refine And.intro rfl (Fit2.of (fit_loc hU rfl rfl ?_) (by omega))
              simp only [push_cast, seval, ↓reduceIte, cast_lit, c10, c18, c19, c20, c21, hN0, hN]
            · replace hz5 := condF c21 hz5
              try rw [c21] at c10
              try rw [c21] at c18
              try rw [c21] at c19
              try rw [c21] at c20
              obtain ⟨y8, hy8, hz5⟩ := bC hz5
              refine W_regionD tab_ok [none, none, none, none, none, none, none, none, none, none, none, some true, some true, some true, some true, some true, some true, some true, some true, some true, some true, some true, some true, some true, some true] ?_
              simp only [push_cast, seval, ↓reduceIte, cast_lit, c10, c18, c19, c20, c21, hN0, hN]
              repeat (with_reducible refine And.intro (by first | (intro h0; simp only [h0, and_self]; done) | (intro h0; simp only [h0, Bool.not_false, Bool.not_true, Bool.true_and, Bool.and_true, true_and, and_true, and_self, imp_self, implies_true, bne_iff_ne, ne_eq, beq_iff_eq]; done) | (intros; simp_all; done) | exact True.intro) ?_)
              refine (ok_r_edit_Right hy8).then ?_
              simp only [push_cast, seval, ↓reduceIte, cast_lit, c10, c18, c19, c20, c21, hN0, hN]
              repeat (with_reducible refine And.intro (by first | (intro h0; simp only [h0, and_self]; done) | (intro h0; simp only [h0, Bool.not_false, Bool.not_true, Bool.true_and, Bool.and_true, true_and, and_true, and_self, imp_self, implies_true, bne_iff_ne, ne_eq, beq_iff_eq]; done) | (intros; simp_all; done) | exact True.intro) ?_)
              have hz5 := Option.some.inj hz5; subst hz5
              refine And.intro rfl (Fit2.of (fit_loc hU rfl rfl ?_) (by omega))
              simp only [push_cast, seval, ↓reduceIte, cast_lit, c10, c18, c19, c20, c21, hN0, hN]
          · replace hz5 := condF c20 hz5
            try rw [c20] at c10
            try rw [c20] at c18
            try rw [c20] at c19
            refine W_regionD tab_ok [none, none, none, none, none, none, none, none, none, none, none, some true, some true, some false, some false, some false, some false, some false, some false, some false, some false, some false, some false, some true, some true] ?_
            simp only [push_cast, seval, ↓reduceIte, cast_lit, c10, c18, c19, c20, hN0, hN]
            repeat (with_reducible refine And.intro (by first | (intro h0; simp only [h0, and_self]; done) | (intro h0; simp only [h0, Bool.not_false, Bool.not_true, Bool.true_and, Bool.and_true, true_and, and_true, and_self, imp_self, implies_true, bne_iff_ne, ne_eq, beq_iff_eq]; done) | (intros; simp_all; done) | exact True.intro) ?_)
            have hz5 := Option.some.inj hz5; subst hz5
            refine And.intro rfl (Fit2.of (fit_loc hU rfl rfl ?_) (by omega))
            simp only [push_cast, seval, ↓reduceIte, cast_lit, c10, c18, c19, c20, hN0, hN]
      · replace hz5 := condF c18 hz5
        try rw [c18] at c10
        rcases Bool.eq_false_or_eq_true a2 with c22 | c22
        · replace hz5 := condT c22 hz5
          try rw [c22] at c10
          try rw [c22] at c18
          rcases Bool.eq_false_or_eq_true (a3.E.Kind != 0) with c23 | c23
          · replace hz5 := condT c23 hz5
            try rw [c23] at c10
            try rw [c23] at c18
            try rw [c23] at c22
            refine W_regionD tab_ok [none, none, none, none, none, none, none, none, none, none, none, some true, some true, some true, some true, some true, some true, some true, some false, some false, some false, some false, some true, some true, some true] ?_
            simp only [push_cast, seval, ↓reduceIte, cast_lit, c10, c18, c22, c23, hN0, hN]
            repeat (with_reducible refine And.intro (by first | (intro h0; simp only [h0, and_self]; done) | (intro h0; simp only [h0, Bool.not_false, Bool.not_true, Bool.true_and, Bool.and_true, true_and, and_true, and_self, imp_self, implies_true, bne_iff_ne, ne_eq, beq_iff_eq]; done) | (intros; simp_all; done) | exact True.intro) ?_)
            have hz5 := Option.some.inj hz5; subst hz5
            refine And.intro rfl (Fit2.of (fit_loc hU rfl rfl ?_) (by omega))
            simp only [push_cast, seval, ↓reduceIte, cast_lit, c10, c18, c22, c23, hN0, hN]
          · replace hz5 := condF c23 hz5
            try rw [c23] at c10
            try rw [c23] at c18
            try rw [c23] at c22
            obtain ⟨y9, hy9, hz5⟩ := bC hz5
            refine W_regionD tab_ok [none, none, none, none, none, none, none, none, none, none, none, some true, some true, some true, some true, some true, some true, some true, some true, some true, some true, some true, some true, some true, some true] ?_
            simp only [push_cast, seval, ↓reduceIte, cast_lit, c10, c18, c22, c23, hN0, hN]
            repeat (with_reducible refine And.intro (by first | (intro h0; simp only [h0, and_self]; done) | (intro h0; simp only [h0, Bool.not_false, Bool.not_true, Bool.true_and, Bool.and_true, true_and, and_true, and_self, imp_self, implies_true, bne_iff_ne, ne_eq, beq_iff_eq]; done) | (intros; simp_all; done) | exact True.intro) ?_)
            refine (ok_r_edit_Right hy9).then ?_
            simp only [push_cast, seval, ↓reduceIte, cast_lit, c10, c18, c22, c23, hN0, hN]
            repeat (with_reducible refine And.intro (by first | (intro h0; simp only [h0, and_self]; done) | (intro h0; simp only [h0, Bool.not_false, Bool.not_true, Bool.true_and, Bool.and_true, true_and, and_true, and_self, imp_self, implies_true, bne_iff_ne, ne_eq, beq_iff_eq]; done) | (intros; simp_all; done) | exact True.intro) ?_)
            have hz5 := Option.some.inj hz5; subst hz5
            refine And.intro rfl (Fit2.of (fit_loc hU rfl rfl ?_) (by omega))
            simp only [push_cast, seval, ↓reduceIte, cast_lit, c10, c18, c22, c23, hN0, hN]
        · replace hz5 := condF c22 hz5
          try rw [c22] at c10
          try rw [c22] at c18
          refine W_regionD tab_ok [none, none, none, none, none, none, none, none, none, none, none, some true, some true, some false, some false, some false, some false, some false, some false, some false, some false, some false, some false, some true, some true] ?_
          simp only [push_cast, seval, ↓reduceIte, cast_lit, c10, c18, c22, hN0, hN]
          repeat (with_reducible refine And.intro (by first | (intro h0; simp only [h0, and_self]; done) | (intro h0; simp only [h0, Bool.not_false, Bool.not_true, Bool.true_and, Bool.and_true, true_and, and_true, and_self, imp_self, implies_true, bne_iff_ne, ne_eq, beq_iff_eq]; done) | (intros; simp_all; done) | exact True.intro) ?_)
          have hz5 := Option.some.inj hz5; subst hz5
          refine And.intro rfl (Fit2.of (fit_loc hU rfl rfl ?_) (by omega))
          simp only [push_cast, seval, ↓reduceIte, cast_lit, c10, c18, c22, hN0, hN]
  refine W_ret ?_
  try simp only [gthen, gblock]
  have h := Option.some.inj h; subst h
  refine fin_loc (.inr rfl) hU [.val (.bool z5)] (by omega) ?_
  simp only [push_cast, seval, ↓reduceIte, cast_lit, Try.results136, hN0, hN]

theorem lv_edit_Right_ok : ∀ k, (∀ {a0 : S_api_Edit} {r : Bool} {O : Objs} {n : Nat}, (lv_edit_Right k).1 a0 = some r → GTo Try.prog 44 [.agg [.val (.int .i64 a0.Kind), .val (.int .i64 a0.Old.Kind), .sl a0.Old.Words.length (fl (eI .u64) a0.Old.Words), .sl a0.Old.Kids.length (fl e_S_api_Tree a0.Old.Kids), .val (.int .i64 a0.New.Kind), .sl a0.New.Words.length (fl (eI .u64) a0.New.Words), .sl a0.New.Kids.length (fl e_S_api_Tree a0.New.Kids), .sl a0.Words.length (fl e_S_api_WordEdit a0.Words), .sl a0.Kids.length (fl e_S_api_KidEdit a0.Kids), .val (.int .i64 a0.List_), .sl a0.Ops.length (fl e_S_api_Op a0.Ops)]] O n (.val (.bool r)) O n) ∧ (∀ {a0 : S_api_Edit} {a1 : Int} {r : Bool} {O : Objs} {n : Nat}, (lv_edit_Right k).2.1 a0 a1 = some r → GTo Try.prog 74 [.agg [.val (.int .i64 a0.Kind), .val (.int .i64 a0.Old.Kind), .sl a0.Old.Words.length (fl (eI .u64) a0.Old.Words), .sl a0.Old.Kids.length (fl e_S_api_Tree a0.Old.Kids), .val (.int .i64 a0.New.Kind), .sl a0.New.Words.length (fl (eI .u64) a0.New.Words), .sl a0.New.Kids.length (fl e_S_api_Tree a0.New.Kids), .sl a0.Words.length (fl e_S_api_WordEdit a0.Words), .sl a0.Kids.length (fl e_S_api_KidEdit a0.Kids), .val (.int .i64 a0.List_), .sl a0.Ops.length (fl e_S_api_Op a0.Ops)], .val (.int .i64 a1)] O n (.val (.bool r)) O n) ∧ (∀ {a0 : (List S_api_KidEdit)} {a1 : Int} {r : Bool} {O : Objs} {n : Nat}, (lv_edit_Right k).2.2.1 a0 a1 = some r → GTo Try.prog 98 [.sl a0.length (fl e_S_api_KidEdit a0), .val (.int .i64 a1)] O n (.val (.bool r)) O n) ∧ (∀ {a0 : S_api_Edit} {a1 : Int} {r : Bool} {O : Objs} {n : Nat}, (lv_edit_Right k).2.2.2.1 a0 a1 = some r → GTo Try.prog 99 [.agg [.val (.int .i64 a0.Kind), .val (.int .i64 a0.Old.Kind), .sl a0.Old.Words.length (fl (eI .u64) a0.Old.Words), .sl a0.Old.Kids.length (fl e_S_api_Tree a0.Old.Kids), .val (.int .i64 a0.New.Kind), .sl a0.New.Words.length (fl (eI .u64) a0.New.Words), .sl a0.New.Kids.length (fl e_S_api_Tree a0.New.Kids), .sl a0.Words.length (fl e_S_api_WordEdit a0.Words), .sl a0.Kids.length (fl e_S_api_KidEdit a0.Kids), .val (.int .i64 a0.List_), .sl a0.Ops.length (fl e_S_api_Op a0.Ops)], .val (.int .i64 a1)] O n (.val (.bool r)) O n) ∧ (∀ {a0 : Int} {a1 : S_api_Op} {a2 : Int} {r : Bool} {O : Objs} {n : Nat}, (lv_edit_Right k).2.2.2.2.1 a0 a1 a2 = some r → GTo Try.prog 117 [.val (.int .i64 a0), .agg [.val (.int .i64 a1.Kind), .val (.int .i64 a1.N), .sl a1.L.length (fl e_S_api_Tree a1.L), .val (.int .i64 a1.E.Kind), .val (.int .i64 a1.E.Old.Kind), .sl a1.E.Old.Words.length (fl (eI .u64) a1.E.Old.Words), .sl a1.E.Old.Kids.length (fl e_S_api_Tree a1.E.Old.Kids), .val (.int .i64 a1.E.New.Kind), .sl a1.E.New.Words.length (fl (eI .u64) a1.E.New.Words), .sl a1.E.New.Kids.length (fl e_S_api_Tree a1.E.New.Kids), .sl a1.E.Words.length (fl e_S_api_WordEdit a1.E.Words), .sl a1.E.Kids.length (fl e_S_api_KidEdit a1.E.Kids), .val (.int .i64 a1.E.List_), .sl a1.E.Ops.length (fl e_S_api_Op a1.E.Ops)], .val (.int .i64 a2)] O n (.val (.bool r)) O n) ∧ (∀ {a0 : Bool} {a1 : Bool} {a2 : Bool} {a3 : S_api_Op} {r : Bool} {O : Objs} {n : Nat}, (lv_edit_Right k).2.2.2.2.2 a0 a1 a2 a3 = some r → GTo Try.prog 136 [.val (.bool a0), .val (.bool a1), .val (.bool a2), .ip [.val (.int .i64 a3.Kind), .val (.int .i64 a3.N), .sl a3.L.length (fl e_S_api_Tree a3.L), .val (.int .i64 a3.E.Kind), .val (.int .i64 a3.E.Old.Kind), .sl a3.E.Old.Words.length (fl (eI .u64) a3.E.Old.Words), .sl a3.E.Old.Kids.length (fl e_S_api_Tree a3.E.Old.Kids), .val (.int .i64 a3.E.New.Kind), .sl a3.E.New.Words.length (fl (eI .u64) a3.E.New.Words), .sl a3.E.New.Kids.length (fl e_S_api_Tree a3.E.New.Kids), .sl a3.E.Words.length (fl e_S_api_WordEdit a3.E.Words), .sl a3.E.Kids.length (fl e_S_api_KidEdit a3.E.Kids), .val (.int .i64 a3.E.List_), .sl a3.E.Ops.length (fl e_S_api_Op a3.E.Ops)] 0] O n (.val (.bool r)) O n) := fun k => by
  induction k with
  | zero => exact ⟨@fun a0 r O n h => (nomatch (show (none : Option _) = some _ from h)), @fun a0 a1 r O n h => (nomatch (show (none : Option _) = some _ from h)), @fun a0 a1 r O n h => (nomatch (show (none : Option _) = some _ from h)), @fun a0 a1 r O n h => (nomatch (show (none : Option _) = some _ from h)), @fun a0 a1 a2 r O n h => (nomatch (show (none : Option _) = some _ from h)), @fun a0 a1 a2 a3 r O n h => (nomatch (show (none : Option _) = some _ from h))⟩
  | succ k ih => exact ⟨@fun a0 r O n h => okb_edit_Right (ih.1) (ih.2.1) (ih.2.2.1) (ih.2.2.2.1) (ih.2.2.2.2.1) (ih.2.2.2.2.2)  h, @fun a0 a1 r O n h => okb_edit_right (ih.1) (ih.2.1) (ih.2.2.1) (ih.2.2.2.1) (ih.2.2.2.2.1) (ih.2.2.2.2.2)  h, @fun a0 a1 r O n h => okb_edit_rightKids (ih.1) (ih.2.1) (ih.2.2.1) (ih.2.2.2.1) (ih.2.2.2.2.1) (ih.2.2.2.2.2)  h, @fun a0 a1 r O n h => okb_edit_rightOps (ih.1) (ih.2.1) (ih.2.2.1) (ih.2.2.2.1) (ih.2.2.2.2.1) (ih.2.2.2.2.2)  h, @fun a0 a1 a2 r O n h => okb_edit_rightOp (ih.1) (ih.2.1) (ih.2.2.1) (ih.2.2.2.1) (ih.2.2.2.2.1) (ih.2.2.2.2.2)  h, @fun a0 a1 a2 a3 r O n h => okb_edit_rightOp_1 (ih.1) (ih.2.1) (ih.2.2.1) (ih.2.2.2.1) (ih.2.2.2.2.1) (ih.2.2.2.2.2)  h⟩

theorem ok_edit_Right {a0 : S_api_Edit} {r : Bool} {O : Objs} {n : Nat} (h : m_edit_Right a0 = some r) : GTo Try.prog 44 [.agg [.val (.int .i64 a0.Kind), .val (.int .i64 a0.Old.Kind), .sl a0.Old.Words.length (fl (eI .u64) a0.Old.Words), .sl a0.Old.Kids.length (fl e_S_api_Tree a0.Old.Kids), .val (.int .i64 a0.New.Kind), .sl a0.New.Words.length (fl (eI .u64) a0.New.Words), .sl a0.New.Kids.length (fl e_S_api_Tree a0.New.Kids), .sl a0.Words.length (fl e_S_api_WordEdit a0.Words), .sl a0.Kids.length (fl e_S_api_KidEdit a0.Kids), .val (.int .i64 a0.List_), .sl a0.Ops.length (fl e_S_api_Op a0.Ops)]] O n (.val (.bool r)) O n := by
  obtain ⟨k, hk⟩ := lim_some h
  exact (lv_edit_Right_ok k).1  hk

theorem ok_edit_right {a0 : S_api_Edit} {a1 : Int} {r : Bool} {O : Objs} {n : Nat} (h : m_edit_right a0 a1 = some r) : GTo Try.prog 74 [.agg [.val (.int .i64 a0.Kind), .val (.int .i64 a0.Old.Kind), .sl a0.Old.Words.length (fl (eI .u64) a0.Old.Words), .sl a0.Old.Kids.length (fl e_S_api_Tree a0.Old.Kids), .val (.int .i64 a0.New.Kind), .sl a0.New.Words.length (fl (eI .u64) a0.New.Words), .sl a0.New.Kids.length (fl e_S_api_Tree a0.New.Kids), .sl a0.Words.length (fl e_S_api_WordEdit a0.Words), .sl a0.Kids.length (fl e_S_api_KidEdit a0.Kids), .val (.int .i64 a0.List_), .sl a0.Ops.length (fl e_S_api_Op a0.Ops)], .val (.int .i64 a1)] O n (.val (.bool r)) O n := by
  obtain ⟨k, hk⟩ := lim_some h
  exact (lv_edit_Right_ok k).2.1  hk

theorem ok_edit_rightKids {a0 : (List S_api_KidEdit)} {a1 : Int} {r : Bool} {O : Objs} {n : Nat} (h : m_edit_rightKids a0 a1 = some r) : GTo Try.prog 98 [.sl a0.length (fl e_S_api_KidEdit a0), .val (.int .i64 a1)] O n (.val (.bool r)) O n := by
  obtain ⟨k, hk⟩ := lim_some h
  exact (lv_edit_Right_ok k).2.2.1  hk

theorem ok_edit_rightOps {a0 : S_api_Edit} {a1 : Int} {r : Bool} {O : Objs} {n : Nat} (h : m_edit_rightOps a0 a1 = some r) : GTo Try.prog 99 [.agg [.val (.int .i64 a0.Kind), .val (.int .i64 a0.Old.Kind), .sl a0.Old.Words.length (fl (eI .u64) a0.Old.Words), .sl a0.Old.Kids.length (fl e_S_api_Tree a0.Old.Kids), .val (.int .i64 a0.New.Kind), .sl a0.New.Words.length (fl (eI .u64) a0.New.Words), .sl a0.New.Kids.length (fl e_S_api_Tree a0.New.Kids), .sl a0.Words.length (fl e_S_api_WordEdit a0.Words), .sl a0.Kids.length (fl e_S_api_KidEdit a0.Kids), .val (.int .i64 a0.List_), .sl a0.Ops.length (fl e_S_api_Op a0.Ops)], .val (.int .i64 a1)] O n (.val (.bool r)) O n := by
  obtain ⟨k, hk⟩ := lim_some h
  exact (lv_edit_Right_ok k).2.2.2.1  hk

theorem ok_edit_rightOp {a0 : Int} {a1 : S_api_Op} {a2 : Int} {r : Bool} {O : Objs} {n : Nat} (h : m_edit_rightOp a0 a1 a2 = some r) : GTo Try.prog 117 [.val (.int .i64 a0), .agg [.val (.int .i64 a1.Kind), .val (.int .i64 a1.N), .sl a1.L.length (fl e_S_api_Tree a1.L), .val (.int .i64 a1.E.Kind), .val (.int .i64 a1.E.Old.Kind), .sl a1.E.Old.Words.length (fl (eI .u64) a1.E.Old.Words), .sl a1.E.Old.Kids.length (fl e_S_api_Tree a1.E.Old.Kids), .val (.int .i64 a1.E.New.Kind), .sl a1.E.New.Words.length (fl (eI .u64) a1.E.New.Words), .sl a1.E.New.Kids.length (fl e_S_api_Tree a1.E.New.Kids), .sl a1.E.Words.length (fl e_S_api_WordEdit a1.E.Words), .sl a1.E.Kids.length (fl e_S_api_KidEdit a1.E.Kids), .val (.int .i64 a1.E.List_), .sl a1.E.Ops.length (fl e_S_api_Op a1.E.Ops)], .val (.int .i64 a2)] O n (.val (.bool r)) O n := by
  obtain ⟨k, hk⟩ := lim_some h
  exact (lv_edit_Right_ok k).2.2.2.2.1  hk

theorem ok_edit_rightOp_1 {a0 : Bool} {a1 : Bool} {a2 : Bool} {a3 : S_api_Op} {r : Bool} {O : Objs} {n : Nat} (h : m_edit_rightOp_1 a0 a1 a2 a3 = some r) : GTo Try.prog 136 [.val (.bool a0), .val (.bool a1), .val (.bool a2), .ip [.val (.int .i64 a3.Kind), .val (.int .i64 a3.N), .sl a3.L.length (fl e_S_api_Tree a3.L), .val (.int .i64 a3.E.Kind), .val (.int .i64 a3.E.Old.Kind), .sl a3.E.Old.Words.length (fl (eI .u64) a3.E.Old.Words), .sl a3.E.Old.Kids.length (fl e_S_api_Tree a3.E.Old.Kids), .val (.int .i64 a3.E.New.Kind), .sl a3.E.New.Words.length (fl (eI .u64) a3.E.New.Words), .sl a3.E.New.Kids.length (fl e_S_api_Tree a3.E.New.Kids), .sl a3.E.Words.length (fl e_S_api_WordEdit a3.E.Words), .sl a3.E.Kids.length (fl e_S_api_KidEdit a3.E.Kids), .val (.int .i64 a3.E.List_), .sl a3.E.Ops.length (fl e_S_api_Op a3.E.Ops)] 0] O n (.val (.bool r)) O n := by
  obtain ⟨k, hk⟩ := lim_some h
  exact (lv_edit_Right_ok k).2.2.2.2.2  hk

theorem ok_centolaw20_awake  {r : Bool} {O : Objs} {n : Nat} (h : m_centolaw20_awake = some r) : GTo Try.prog 41 [] O n (.val (.bool r)) O n := by
  unfold m_centolaw20_awake at h
  refine fn_of tab_ok Try.call41 Try.func41 rfl (Nat.le_of_ble_eq_true rfl) (Nat.le_refl _) fun hU => ?_
  have hN0 : O n = none := hU.fresh _ (Nat.le_refl _)
  have hN : ∀ k, O (n + k) = none := fun k => hU.fresh _ (Nat.le_add_right _ _)
  show W _ _ _ _ ⟨33, [], []⟩ (Loc O n []) _
  refine W_sq [] (W_regionD tab_ok [] ?_)
  simp only [push_cast, seval, ↓reduceIte, cast_lit, hN0, hN]
  refine W_sq [1] (W_regionD tab_ok [] ?_)
  simp only [push_cast, seval, ↓reduceIte, cast_lit, hN0, hN]
  refine W_seqK ?_
  obtain ⟨y4, hy4, h⟩ := bC h
  obtain ⟨y5, hy5, h⟩ := bC h
  obtain ⟨y6, hy6, h⟩ := bC h
  refine W_regionD tab_ok [] ?_
  simp only [push_cast, seval, ↓reduceIte, cast_lit, hN0, hN]
  refine (ok_centolaw20_awake_1 hy4).then ?_
  simp only [push_cast, seval, ↓reduceIte, cast_lit, hN0, hN]
  refine (ok_centolaw20_awake_1 hy5).then ?_
  simp only [push_cast, seval, ↓reduceIte, cast_lit, hN0, hN]
  refine (ok_centolaw20_awake_1 hy6).then ?_
  simp only [push_cast, seval, ↓reduceIte, cast_lit, hN0, hN]
  refine W_fit ⟨33, [], [(2, .ref (n + 3) 0)]⟩ (Loc O n [none, none, some ⟨true, 63, 14, ([(⟨0, 2, ([] : (List S_api_Tree)), (⟨0, (⟨0, ([] : (List Int)), ([] : (List S_api_Tree))⟩ : S_api_Tree), (⟨0, ([] : (List Int)), ([] : (List S_api_Tree))⟩ : S_api_Tree), ([] : (List S_api_WordEdit)), ([] : (List S_api_KidEdit)), 0, ([] : (List S_api_Op))⟩ : S_api_Edit)⟩ : S_api_Op), (⟨1, 0, ([y4] : List S_api_Tree), (⟨0, (⟨0, ([] : (List Int)), ([] : (List S_api_Tree))⟩ : S_api_Tree), (⟨0, ([] : (List Int)), ([] : (List S_api_Tree))⟩ : S_api_Tree), ([] : (List S_api_WordEdit)), ([] : (List S_api_KidEdit)), 0, ([] : (List S_api_Op))⟩ : S_api_Edit)⟩ : S_api_Op), (⟨2, 0, ([y5, y6] : List S_api_Tree), (⟨0, (⟨0, ([] : (List Int)), ([] : (List S_api_Tree))⟩ : S_api_Tree), (⟨0, ([] : (List Int)), ([] : (List S_api_Tree))⟩ : S_api_Tree), ([] : (List S_api_WordEdit)), ([] : (List S_api_KidEdit)), 0, ([] : (List S_api_Op))⟩ : S_api_Edit)⟩ : S_api_Op)] : List S_api_Op).length, fl e_S_api_Op ([(⟨0, 2, ([] : (List S_api_Tree)), (⟨0, (⟨0, ([] : (List Int)), ([] : (List S_api_Tree))⟩ : S_api_Tree), (⟨0, ([] : (List Int)), ([] : (List S_api_Tree))⟩ : S_api_Tree), ([] : (List S_api_WordEdit)), ([] : (List S_api_KidEdit)), 0, ([] : (List S_api_Op))⟩ : S_api_Edit)⟩ : S_api_Op), (⟨1, 0, ([y4] : List S_api_Tree), (⟨0, (⟨0, ([] : (List Int)), ([] : (List S_api_Tree))⟩ : S_api_Tree), (⟨0, ([] : (List Int)), ([] : (List S_api_Tree))⟩ : S_api_Tree), ([] : (List S_api_WordEdit)), ([] : (List S_api_KidEdit)), 0, ([] : (List S_api_Op))⟩ : S_api_Edit)⟩ : S_api_Op), (⟨2, 0, ([y5, y6] : List S_api_Tree), (⟨0, (⟨0, ([] : (List Int)), ([] : (List S_api_Tree))⟩ : S_api_Tree), (⟨0, ([] : (List Int)), ([] : (List S_api_Tree))⟩ : S_api_Tree), ([] : (List S_api_WordEdit)), ([] : (List S_api_KidEdit)), 0, ([] : (List S_api_Op))⟩ : S_api_Edit)⟩ : S_api_Op)] : List S_api_Op)⟩, some ⟨false, 53, 11, 1, [.val (.int .i64 3), .val (.int .i64 0), .val (.slice none 0 0), .val (.slice none 0 0), .val (.int .i64 0), .val (.slice none 0 0), .val (.slice none 0 0), .val (.slice none 0 0), .val (.slice none 0 0), .val (.int .i64 4), .row (n + 2) ([(⟨0, 2, ([] : (List S_api_Tree)), (⟨0, (⟨0, ([] : (List Int)), ([] : (List S_api_Tree))⟩ : S_api_Tree), (⟨0, ([] : (List Int)), ([] : (List S_api_Tree))⟩ : S_api_Tree), ([] : (List S_api_WordEdit)), ([] : (List S_api_KidEdit)), 0, ([] : (List S_api_Op))⟩ : S_api_Edit)⟩ : S_api_Op), (⟨1, 0, ([y4] : List S_api_Tree), (⟨0, (⟨0, ([] : (List Int)), ([] : (List S_api_Tree))⟩ : S_api_Tree), (⟨0, ([] : (List Int)), ([] : (List S_api_Tree))⟩ : S_api_Tree), ([] : (List S_api_WordEdit)), ([] : (List S_api_KidEdit)), 0, ([] : (List S_api_Op))⟩ : S_api_Edit)⟩ : S_api_Op), (⟨2, 0, ([y5, y6] : List S_api_Tree), (⟨0, (⟨0, ([] : (List Int)), ([] : (List S_api_Tree))⟩ : S_api_Tree), (⟨0, ([] : (List Int)), ([] : (List S_api_Tree))⟩ : S_api_Tree), ([] : (List S_api_WordEdit)), ([] : (List S_api_KidEdit)), 0, ([] : (List S_api_Op))⟩ : S_api_Edit)⟩ : S_api_Op)] : List S_api_Op).length]⟩]) (fit_loc hU rfl rfl ?_) ?_
  · simp only [push_cast, seval, ↓reduceIte, cast_lit, hN0, hN]
  refine W_seqK ?_
  obtain ⟨y8, hy8, h⟩ := bC h
  refine W_regionD tab_ok [] ?_
  simp only [push_cast, seval, ↓reduceIte, cast_lit, hN0, hN]
  refine GCalls.lend (ok_edit_Lengths hy8) rfl ?_ ?_
  · simp only [push_cast, seval, ↓reduceIte, cast_lit, hN0, hN]
  simp only [push_cast, seval, ↓reduceIte, cast_lit, hN0, hN]
  refine W_fit ⟨33, [], [(2, .ref (n + 3) 0), (3, .val (.int .i64 y8.1)), (4, .val (.int .i64 y8.2))]⟩ (Loc O n [none, none, some ⟨true, 63, 14, ([(⟨0, 2, ([] : (List S_api_Tree)), (⟨0, (⟨0, ([] : (List Int)), ([] : (List S_api_Tree))⟩ : S_api_Tree), (⟨0, ([] : (List Int)), ([] : (List S_api_Tree))⟩ : S_api_Tree), ([] : (List S_api_WordEdit)), ([] : (List S_api_KidEdit)), 0, ([] : (List S_api_Op))⟩ : S_api_Edit)⟩ : S_api_Op), (⟨1, 0, ([y4] : List S_api_Tree), (⟨0, (⟨0, ([] : (List Int)), ([] : (List S_api_Tree))⟩ : S_api_Tree), (⟨0, ([] : (List Int)), ([] : (List S_api_Tree))⟩ : S_api_Tree), ([] : (List S_api_WordEdit)), ([] : (List S_api_KidEdit)), 0, ([] : (List S_api_Op))⟩ : S_api_Edit)⟩ : S_api_Op), (⟨2, 0, ([y5, y6] : List S_api_Tree), (⟨0, (⟨0, ([] : (List Int)), ([] : (List S_api_Tree))⟩ : S_api_Tree), (⟨0, ([] : (List Int)), ([] : (List S_api_Tree))⟩ : S_api_Tree), ([] : (List S_api_WordEdit)), ([] : (List S_api_KidEdit)), 0, ([] : (List S_api_Op))⟩ : S_api_Edit)⟩ : S_api_Op)] : List S_api_Op).length, fl e_S_api_Op ([(⟨0, 2, ([] : (List S_api_Tree)), (⟨0, (⟨0, ([] : (List Int)), ([] : (List S_api_Tree))⟩ : S_api_Tree), (⟨0, ([] : (List Int)), ([] : (List S_api_Tree))⟩ : S_api_Tree), ([] : (List S_api_WordEdit)), ([] : (List S_api_KidEdit)), 0, ([] : (List S_api_Op))⟩ : S_api_Edit)⟩ : S_api_Op), (⟨1, 0, ([y4] : List S_api_Tree), (⟨0, (⟨0, ([] : (List Int)), ([] : (List S_api_Tree))⟩ : S_api_Tree), (⟨0, ([] : (List Int)), ([] : (List S_api_Tree))⟩ : S_api_Tree), ([] : (List S_api_WordEdit)), ([] : (List S_api_KidEdit)), 0, ([] : (List S_api_Op))⟩ : S_api_Edit)⟩ : S_api_Op), (⟨2, 0, ([y5, y6] : List S_api_Tree), (⟨0, (⟨0, ([] : (List Int)), ([] : (List S_api_Tree))⟩ : S_api_Tree), (⟨0, ([] : (List Int)), ([] : (List S_api_Tree))⟩ : S_api_Tree), ([] : (List S_api_WordEdit)), ([] : (List S_api_KidEdit)), 0, ([] : (List S_api_Op))⟩ : S_api_Edit)⟩ : S_api_Op)] : List S_api_Op)⟩, some ⟨false, 53, 11, 1, [.val (.int .i64 3), .val (.int .i64 0), .val (.slice none 0 0), .val (.slice none 0 0), .val (.int .i64 0), .val (.slice none 0 0), .val (.slice none 0 0), .val (.slice none 0 0), .val (.slice none 0 0), .val (.int .i64 4), .row (n + 2) ([(⟨0, 2, ([] : (List S_api_Tree)), (⟨0, (⟨0, ([] : (List Int)), ([] : (List S_api_Tree))⟩ : S_api_Tree), (⟨0, ([] : (List Int)), ([] : (List S_api_Tree))⟩ : S_api_Tree), ([] : (List S_api_WordEdit)), ([] : (List S_api_KidEdit)), 0, ([] : (List S_api_Op))⟩ : S_api_Edit)⟩ : S_api_Op), (⟨1, 0, ([y4] : List S_api_Tree), (⟨0, (⟨0, ([] : (List Int)), ([] : (List S_api_Tree))⟩ : S_api_Tree), (⟨0, ([] : (List Int)), ([] : (List S_api_Tree))⟩ : S_api_Tree), ([] : (List S_api_WordEdit)), ([] : (List S_api_KidEdit)), 0, ([] : (List S_api_Op))⟩ : S_api_Edit)⟩ : S_api_Op), (⟨2, 0, ([y5, y6] : List S_api_Tree), (⟨0, (⟨0, ([] : (List Int)), ([] : (List S_api_Tree))⟩ : S_api_Tree), (⟨0, ([] : (List Int)), ([] : (List S_api_Tree))⟩ : S_api_Tree), ([] : (List S_api_WordEdit)), ([] : (List S_api_KidEdit)), 0, ([] : (List S_api_Op))⟩ : S_api_Edit)⟩ : S_api_Op)] : List S_api_Op).length]⟩]) (fit_loc hU rfl rfl ?_) ?_
  · simp only [push_cast, seval, ↓reduceIte, cast_lit, hN0, hN]
  refine W_seqK ?_
  obtain ⟨y10, hy10, h⟩ := bC h
  refine W_regionD tab_ok [none, none, none, none] ?_
  simp only [push_cast, seval, ↓reduceIte, cast_lit, hN0, hN]
  repeat (with_reducible refine And.intro (by first | (intro h0; simp only [h0, and_self]; done) | (intro h0; simp only [h0, Bool.not_false, Bool.not_true, Bool.true_and, Bool.and_true, true_and, and_true, and_self, imp_self, implies_true, bne_iff_ne, ne_eq, beq_iff_eq]; done) | (intros; simp_all; done) | exact True.intro) ?_)
  refine GCalls.lend (ok_edit_Right hy10) rfl ?_ ?_
  · simp only [push_cast, seval, ↓reduceIte, cast_lit, hN0, hN]
  simp only [push_cast, seval, ↓reduceIte, cast_lit, hN0, hN]
  repeat (with_reducible refine And.intro (by first | (intro h0; simp only [h0, and_self]; done) | (intro h0; simp only [h0, Bool.not_false, Bool.not_true, Bool.true_and, Bool.and_true, true_and, and_true, and_self, imp_self, implies_true, bne_iff_ne, ne_eq, beq_iff_eq]; done) | (intros; simp_all; done) | exact True.intro) ?_)
  refine W_fit ⟨33, [], [(0, .val (.bool (cond (cond y10 (y8.1 == 3) false) (y8.2 == 4) false)))]⟩ (Loc O n [none, none, none, none]) (fit_loc hU rfl rfl ?_) ?_
  · simp only [push_cast, seval, ↓reduceIte, cast_lit, hN0, hN]
  refine W_ret ?_
  try simp only [gthen, gblock]
  have h := Option.some.inj h; subst h
  refine fin_loc (.inr rfl) hU [.val (.bool (cond (cond y10 (y8.1 == 3) false) (y8.2 == 4) false))] (by omega) ?_
  simp only [push_cast, seval, ↓reduceIte, cast_lit, Try.results41, hN0, hN]

theorem ok_tree_trimWords {a0 : (List Int)} {r : (List Int)} {O : Objs} {n : Nat} (h : m_tree_trimWords a0 = some r) : GTo Try.prog 63 [.sl a0.length (fl (eI .u64) a0)] O n (.sl r.length (fl (eI .u64) r)) O n := by
  unfold m_tree_trimWords at h
  refine fn_of tab_ok Try.call63 Try.func63 rfl (Nat.le_of_ble_eq_true rfl) (Nat.le_refl _) fun hU => ?_
  have hN0 : O n = none := hU.fresh _ (Nat.le_refl _)
  have hN : ∀ k, O (n + k) = none := fun k => hU.fresh _ (Nat.le_add_right _ _)
  show W _ _ _ _ ⟨22, [], [(0, .sl a0.length (fl (eI .u64) a0))]⟩ (Loc O n []) _
  refine W_sq [0] (W_regionD tab_ok [] ?_)
  simp only [push_cast, seval, ↓reduceIte, cast_lit, hN0, hN]
  refine W_sq [0, 3] (W_regionD tab_ok [] ?_)
  simp only [push_cast, seval, ↓reduceIte, cast_lit, hN0, hN]
  refine W_seqK ?_
  refine W_fit ⟨22, [], [(0, .sl a0.length (fl (eI .u64) a0)), (3, .val (.int .i64 (a0.length : Int)))]⟩ (Loc O n []) (fit_loc hU rfl rfl ?_) ?_
  · simp only [push_cast, seval, ↓reduceIte, cast_lit, hN0, hN]
  obtain ⟨z6, hz6, h⟩ := bC h
  refine W_blockX (E' := ⟨22, [], [(0, .sl a0.length (fl (eI .u64) a0)), (3, .val (.int .i64 z6))]⟩) (O' := (Loc O n [])) (n0 := n) ?_ ?_
  · refine W_loopJ hz6 (fun s0_ => ⟨22, [], [(0, .sl a0.length (fl (eI .u64) a0)), (3, .val (.int .i64 s0_))]⟩) (fun s0_ => (Loc O n [])) (fun z6 => JX 0 n (⟨22, [], [(0, .sl a0.length (fl (eI .u64) a0)), (3, .val (.int .i64 z6))]⟩ : Env) (Loc O n []) n) ?_
    intro s0_ x0_ hs0_
    unfold m_tree_trimWords_L0 at hs0_
    try dsimp only
    refine W_seqK ?_
    obtain ⟨z2, hz2, hs0_⟩ := bC hs0_
    refine W_seqN (E' := ⟨22, [], [(0, .sl a0.length (fl (eI .u64) a0)), (3, .val (.int .i64 s0_)), (15, .val (.bool z2))]⟩) (O' := (Loc O n [])) (n0 := n) ?_ ?_
    · rcases Bool.eq_false_or_eq_true (decide (0 < s0_)) with c4 | c4
      · replace hz2 := condT c4 hz2
        obtain ⟨x3, hx3, ax3, bx3, cx3, hz2⟩ := bE (f := (eI .u64)) tab71 (fun _ => rfl) (by decide) hz2
        refine W_regionD tab_ok [some true, some true, some true, some true, some true, some true] ?_
        simp only [push_cast, Nat.reduceAdd, Nat.reduceSub, Nat.reduceMul, Nat.reduceLeDiff, Nat.reduceLT, Nat.reduceEqDiff, ↓reduceIte, reduceCtorEq, Int.reduceBEq, Int.reduceBNe, Nat.reduceBEq, Int.reduceLE, Int.reduceLT, Int.reduceEq, Int.reduceNe, Int.reduceNeg, Nat.reduceDiv, Nat.reduceMod, Nat.reducePow, cast_lit, c4, ax3, bx3, cx3, hN0, hN]
        have hz2 := Option.some.inj hz2; subst hz2
        refine And.intro rfl (Fit2.of (fit_loc hU rfl rfl ?_) (by omega))
        simp only [push_cast, Nat.reduceAdd, Nat.reduceSub, Nat.reduceMul, Nat.reduceLeDiff, Nat.reduceLT, Nat.reduceEqDiff, ↓reduceIte, reduceCtorEq, Int.reduceBEq, Int.reduceBNe, Nat.reduceBEq, Int.reduceLE, Int.reduceLT, Int.reduceEq, Int.reduceNe, Int.reduceNeg, Nat.reduceDiv, Nat.reduceMod, Nat.reducePow, cast_lit, c4, ax3, bx3, cx3, hN0, hN]
      · replace hz2 := condF c4 hz2
        refine W_regionD tab_ok [some false, some false, some false, some false, some false, some false] ?_
        simp only [push_cast, seval, ↓reduceIte, cast_lit, c4, hN0, hN]
        have hz2 := Option.some.inj hz2; subst hz2
        refine And.intro rfl (Fit2.of (fit_loc hU rfl rfl ?_) (by omega))
        simp only [push_cast, seval, ↓reduceIte, cast_lit, c4, hN0, hN]
    refine W_cond (t := z2) rfl (fun c5 => ?_) (fun c5 => ?_)
    · replace hs0_ := condT c5 hs0_
      refine W_skip ?_
      try simp only [gthen, gblock]
      refine W_fit ⟨22, [], [(0, .sl a0.length (fl (eI .u64) a0)), (3, .val (.int .i64 s0_))]⟩ (Loc O n []) (fit_loc hU rfl rfl ?_) ?_
      · simp only [push_cast, seval, ↓reduceIte, cast_lit, hN0, hN]
      refine W_block ?_
      refine W_regionD tab_ok [] ?_
      simp only [push_cast, seval, ↓reduceIte, cast_lit, hN0, hN]
      have hs0_ := Option.some.inj hs0_; subst hs0_
      refine And.intro rfl (Fit2.of (fit_loc hU rfl rfl ?_) (by omega))
      simp only [push_cast, seval, ↓reduceIte, cast_lit, hN0, hN]
    · replace hs0_ := condF c5 hs0_
      refine W_exit ?_
      try simp only [gthen, gblock, ↓reduceIte, Nat.reduceEqDiff]
      have hs0_ := Option.some.inj hs0_; subst hs0_
      refine And.intro (fun h => by cases h) (And.intro rfl (Fit2.of (fit_loc hU rfl rfl ?_) (by omega)))
      simp only [push_cast, seval, ↓reduceIte, cast_lit, hN0, hN]
  try simp only [gthen, gblock, ↓reduceIte, Nat.reduceEqDiff]
  refine W_fit ⟨22, [], [(0, .sl a0.length (fl (eI .u64) a0)), (3, .val (.int .i64 z6))]⟩ (Loc O n []) (fit_loc hU rfl rfl ?_) ?_
  · simp only [push_cast, seval, ↓reduceIte, cast_lit, hN0, hN]
  obtain ⟨l8, al8, bl8, cl8, gl8, h⟩ := bS3 (lo := none) (hi := (.i64, z6)) (f := (eI .u64)) rfl rfl tkind22 tab71 (fun _ => rfl) h
  refine W_sq [2] (W_regionD tab_ok [] ?_)
  simp only [push_cast, seval, ↓reduceIte, cast_lit, al8, bl8, cl8, gl8, hN0, hN]
  refine W_ret ?_
  try simp only [gthen, gblock]
  have h := Option.some.inj h; subst h
  refine fin_loc (.inr rfl) hU [.sl l8.length (fl (eI .u64) l8)] (by omega) ?_
  simp only [push_cast, seval, ↓reduceIte, cast_lit, Try.results63, hN0, hN]

theorem ok_slices_Equal_uint64_uint64 {a0 : (List Int)} {a1 : (List Int)} {r : Bool} {O : Objs} {n : Nat} (h : m_slices_Equal_uint64_uint64 a0 a1 = some r) : GTo Try.prog 65 [.sl a0.length (fl (eI .u64) a0), .sl a1.length (fl (eI .u64) a1)] O n (.val (.bool r)) O n := by
  unfold m_slices_Equal_uint64_uint64 at h
  refine fn_of tab_ok Try.call65 Try.func65 rfl (Nat.le_of_ble_eq_true rfl) (Nat.le_refl _) fun hU => ?_
  have hN0 : O n = none := hU.fresh _ (Nat.le_refl _)
  have hN : ∀ k, O (n + k) = none := fun k => hU.fresh _ (Nat.le_add_right _ _)
  show W _ _ _ _ ⟨26, [], [(0, .sl a0.length (fl (eI .u64) a0)), (1, .sl a1.length (fl (eI .u64) a1))]⟩ (Loc O n []) _
  refine W_sq [0, 1] (W_regionD tab_ok [] ?_)
  simp only [push_cast, seval, ↓reduceIte, cast_lit, hN0, hN]
  refine W_seqK ?_
  refine W_sq [0, 1, 10] (W_regionD tab_ok [] ?_)
  simp only [push_cast, seval, ↓reduceIte, cast_lit, hN0, hN]
  refine W_cond (t := ((a0.length : Int) != (a1.length : Int))) rfl (fun c8 => ?_) (fun c8 => ?_)
  · replace h := condT c8 h
    refine W_sq [4] (W_regionD tab_ok [] ?_)
    simp only [push_cast, seval, ↓reduceIte, cast_lit, hN0, hN]
    refine W_ret ?_
    try simp only [gthen, gblock]
    have h := Option.some.inj h; subst h
    refine fin_loc (.inr rfl) hU [.val (.bool false)] (by omega) ?_
    simp only [push_cast, seval, ↓reduceIte, cast_lit, Try.results65, hN0, hN]
  · replace h := condF c8 h
    refine W_skip ?_
    try simp only [gthen, gblock]
    refine W_fit ⟨26, [], [(0, .sl a0.length (fl (eI .u64) a0)), (1, .sl a1.length (fl (eI .u64) a1))]⟩ (Loc O n []) (fit_loc hU rfl rfl ?_) ?_
    · simp only [push_cast, seval, ↓reduceIte, cast_lit, hN0, hN]
    refine W_seqK ?_
    refine W_sq [0, 1, 12, 13] (W_regionD tab_ok [] ?_)
    simp only [push_cast, seval, ↓reduceIte, cast_lit, hN0, hN]
    refine W_fit ⟨26, [], [(0, .sl a0.length (fl (eI .u64) a0)), (1, .sl a1.length (fl (eI .u64) a1)), (12, .val (.int .i64 (a0.length : Int))), (13, .val (.int .i64 0))]⟩ (Loc O n []) (fit_loc hU rfl rfl ?_) ?_
    · simp only [push_cast, seval, ↓reduceIte, cast_lit, hN0, hN]
    obtain ⟨z7, hz7, h⟩ := bC h
    refine W_sumB (J := (SumJ (fun z7 => JR n (⟨26, [], [(4, .val (.bool false))]⟩ : Env) (Loc O n []) n) (fun z7 => JX 0 n (⟨26, [], []⟩ : Env) (Loc O n []) n))) (z := z7) ?_ fun hw => ?_
    · refine W_loopJ hz7 (fun s0_ => ⟨26, [], [(0, .sl a0.length (fl (eI .u64) a0)), (1, .sl a1.length (fl (eI .u64) a1)), (12, .val (.int .i64 (a0.length : Int))), (13, .val (.int .i64 s0_))]⟩) (fun s0_ => (Loc O n [])) (SumJ (fun z7 => JR n (⟨26, [], [(4, .val (.bool false))]⟩ : Env) (Loc O n []) n) (fun z7 => JX 0 n (⟨26, [], []⟩ : Env) (Loc O n []) n)) ?_
      intro s0_ x0_ hs0_
      unfold m_slices_Equal_uint64_uint64_L0 at hs0_
      try dsimp only
      refine W_sq [0, 1, 12, 13, 14] (W_regionD tab_ok [] ?_)
      simp only [push_cast, seval, ↓reduceIte, cast_lit, hN0, hN]
      refine W_seqK ?_
      refine W_cond (t := (decide (s0_ < (a0.length : Int)))) rfl (fun c6 => ?_) (fun c6 => ?_)
      · replace hs0_ := condT c6 hs0_
        refine W_skip ?_
        try simp only [gthen, gblock]
        refine W_fit ⟨26, [], [(0, .sl a0.length (fl (eI .u64) a0)), (1, .sl a1.length (fl (eI .u64) a1)), (12, .val (.int .i64 (a0.length : Int))), (13, .val (.int .i64 s0_))]⟩ (Loc O n []) (fit_loc hU rfl rfl ?_) ?_
        · simp only [push_cast, seval, ↓reduceIte, cast_lit, hN0, hN]
        refine W_seqK ?_
        refine W_block ?_
        refine W_sq [0, 1, 5, 12, 13] (W_regionD tab_ok [] ?_)
        simp only [push_cast, seval, ↓reduceIte, cast_lit, hN0, hN]
        obtain ⟨x3, hx3, ax3, bx3, cx3, hs0_⟩ := bE (f := (eI .u64)) tab71 (fun _ => rfl) (by decide) hs0_
        obtain ⟨x4, hx4, ax4, bx4, cx4, hs0_⟩ := bE (f := (eI .u64)) tab71 (fun _ => rfl) (by decide) hs0_
        refine W_sq [0, 1, 12, 13, 24] (W_drawD tab_ok (by kernel_rfl) [] (by kernel_rfl) ?_)
        simp only [push_cast, Nat.reduceAdd, Nat.reduceSub, Nat.reduceMul, Nat.reduceLeDiff, Nat.reduceLT, Nat.reduceEqDiff, ↓reduceIte, reduceCtorEq, Int.reduceBEq, Int.reduceBNe, Nat.reduceBEq, Int.reduceLE, Int.reduceLT, Int.reduceEq, Int.reduceNe, Int.reduceNeg, Nat.reduceDiv, Nat.reduceMod, Nat.reducePow, cast_lit, ax3, bx3, cx3, ax4, bx4, cx4, hN0, hN]
        refine W_cond (t := (x3 != x4)) rfl (fun c5 => ?_) (fun c5 => ?_)
        · replace hs0_ := condT c5 hs0_
          refine W_sq [4] (W_regionD tab_ok [] ?_)
          simp only [push_cast, seval, ↓reduceIte, cast_lit, hN0, hN]
          refine W_ret ?_
          try simp only [gthen, gblock]
          have hs0_ := Option.some.inj hs0_; subst hs0_
          refine And.intro (fun h => by cases h) (And.intro rfl (Fit2.of (fit_loc hU rfl rfl ?_) (by omega)))
          simp only [push_cast, seval, ↓reduceIte, cast_lit, hN0, hN]
        · replace hs0_ := condF c5 hs0_
          refine W_skip ?_
          try simp only [gthen, gblock]
          refine W_fit ⟨26, [], [(0, .sl a0.length (fl (eI .u64) a0)), (1, .sl a1.length (fl (eI .u64) a1)), (12, .val (.int .i64 (a0.length : Int))), (13, .val (.int .i64 s0_))]⟩ (Loc O n []) (fit_loc hU rfl rfl ?_) ?_
          · simp only [push_cast, seval, ↓reduceIte, cast_lit, hN0, hN]
          refine W_regionD tab_ok [] ?_
          simp only [push_cast, seval, ↓reduceIte, cast_lit, hN0, hN]
          have hs0_ := Option.some.inj hs0_; subst hs0_
          refine And.intro rfl (Fit2.of (fit_loc hU rfl rfl ?_) (by omega))
          simp only [push_cast, seval, ↓reduceIte, cast_lit, hN0, hN]
      · replace hs0_ := condF c6 hs0_
        refine W_exit ?_
        try simp only [gthen, gblock, ↓reduceIte, Nat.reduceEqDiff]
        have hs0_ := Option.some.inj hs0_; subst hs0_
        refine And.intro (fun h => by cases h) (And.intro rfl (Fit2.of (fit_loc hU rfl rfl ?_) (by omega)))
        simp only [push_cast, seval, ↓reduceIte, cast_lit, hN0, hN]
    rcases z7 with z7 | z7
    · dsimp only [SumJ] at hw h
      refine W_blockR hw ?_
      try simp only [gthen, gblock, ↓reduceIte, Nat.reduceEqDiff]
      have h := Option.some.inj h; subst h
      refine fin_loc (.inr rfl) hU [.val (.bool false)] (by omega) ?_
      simp only [push_cast, seval, ↓reduceIte, cast_lit, Try.results65, hN0, hN]
    · dsimp only [SumJ] at hw h
      refine W_blockX hw ?_
      try simp only [gthen, gblock, ↓reduceIte, Nat.reduceEqDiff]
      refine W_fit ⟨26, [], []⟩ (Loc O n []) (fit_loc hU rfl rfl ?_) ?_
      · simp only [push_cast, seval, ↓reduceIte, cast_lit, hN0, hN]
      refine W_sq [4] (W_regionD tab_ok [] ?_)
      simp only [push_cast, seval, ↓reduceIte, cast_lit, hN0, hN]
      refine W_ret ?_
      try simp only [gthen, gblock]
      have h := Option.some.inj h; subst h
      refine fin_loc (.inr rfl) hU [.val (.bool true)] (by omega) ?_
      simp only [push_cast, seval, ↓reduceIte, cast_lit, Try.results65, hN0, hN]

end Go.Proofs.Ytjeolggpgclgkaa
