/- Part KP: the law; each theorem bears its own conditions. -/
import Derived.Test.YtpggbianhdebmaaKL
namespace Go.Proofs.Ytpggbianhdebmaa
open Go.RowKit
set_option linter.unusedVariables false
set_option linter.unusedSimpArgs false
set_option maxRecDepth 100000
set_option maxHeartbeats 4000000
attribute [local push_cast] gfork_t gfork_f pfork_t pfork_f gthen gblock gops_nil gops_plain gops_guard onW gwantB gcalm gact gpick gpickV strip_any strip_val strip_agg strip_tup strip_sl strip_ip strip_row strip_rs strip_rp strip_rl strip_ref strip_fn strip_when evS wok calmOp Op.operands Call.operands gop onK onP atK List.all_cons List.all_nil Bool.and_true Bool.true_and Bool.and_self Value.oneCell' List.take_zero List.take_succ_cons List.take_nil List.drop_zero List.drop_succ_cons List.drop_nil List.append_nil Nat.add_zero Nat.zero_add gstep gputE ev look genv gbin_ii gbin_bb gbin_ss gbin_pp gbin_rp gbin_ip gbin_ll gbin_aa geqS geqF gint gunary gconvert gload gcells gpart_lit gstore cellsOf_agg cellsOf_val cellsOf_sl cellsOf_ip cellsOf_row cellsOf_rs cellsOf_rp cellsOf_rl cellsOf_ref cellsOf_fn cellsOf_any cellsOf_tup cellsOf_when cellsOf_gP gput gplace_lit gfieldAddr gstepIn gindexAddr gindex gfield gopt bLo bHi bMx gextract galloc gbox gbuild gfill gplaces gbuildSlice gmake glen gappend gappendN gsrc gbuiltin gnil live_any live_val live_agg live_tup live_sl live_ip live_fn live_when live_ref live_rs live_rp live_rl live_row len_any len_val len_agg len_tup len_sl len_ip len_fn len_row len_rl len_rs live_gP gres gone prun_nil prun_plain prun_guard pop TK.isAgg one_any one_val one_agg one_tup one_when one_sl one_ip one_row one_rs one_rp one_rl one_ref one_fn G.under G.unders List.getD_cons_zero List.getD_cons_succ List.set_cons_zero List.set_cons_succ List.map_cons List.map_nil List.toList_toArray Array.toList_append Option.toArray_none Option.toArray_some Array.toList_map Option.map_some Option.map_none Option.bind_some Option.bind_none List.getElem?_cons_zero List.getElem?_cons_succ List.getElem?_nil List.nil_append List.cons_append List.replicate_succ List.replicate_zero List.length_cons List.length_nil and_true true_and and_false false_and Bool.true_eq_false Bool.false_eq_true forall_const false_implies implies_true IntKind.bits if_true if_false ite_true ite_false eq_self true_implies false_or or_false or_true true_or not_true_eq_false not_false_eq_true decide_true decide_false decide_eq_true_eq decide_eq_false_iff_not beq_iff_eq bne_iff_ne ne_eq Bool.not_eq_true Bool.not_eq_false beq_eq_false_iff_ne bne_eq_false_iff_eq beq_self_eq_true bne_self_eq_false Option.some.injEq exists_eq_left' exists_eq_left ge_iff_le gt_iff_lt decide_not Bool.not_true Bool.not_false imp_self gquiet cond_true cond_false beqT beqF Bool.not_not Bool.and_false Bool.false_and Bool.or_true Bool.true_or Bool.or_false Bool.false_or Loc_at Loc_at0 Loc_upd Loc_upd0 Loc_push Loc_push0 Option.join_some Nat.add_assoc Int.toNat_natCast eI eB eS eL fl_nil gopsD_nil gopsD_plain gopsD_t gopsD_f gopsD_n onKD onWD prunD_nil prunD_plain prunD_t prunD_f prunD_n onPD fitO fitO1 sameO fitL fl_append fl_one List.length_append G.agg.injEq G.row.injEq G.ref.injEq G.val.injEq G.sl.injEq G.tup.injEq Value.int.injEq Value.bool.injEq Value.string.injEq List.cons.injEq exists_and_left exists_const List.flatten_cons List.flatten_nil Int.le_refl Nat.le_refl upd_updU Loc_out Loc_updo Bool.not_eq_true' Bool.not_eq_false' wkl_nil wkl_cons wk_any wk_val wk_agg wk_tup wk_sl wk_fn List.size_toArray renO renO1 G.ren G.rens renL rho_at rho_at0 gP_none gP_some strip_gP wok_gP one_gP G.fn.injEq wk_slnil wk_slrow wk_slrs wk_ip wk_ipref wk_row wk_rs wk_rp wk_rl wk_ref locLt0 locLt Option.join_none upd_same fl_cons undef keepL Arr.len Arr.put_eq prunB_nil prunB_bar prunB_bart prunB_plain prunB_t prunB_f prunB_n onB onBP gcopy setI_len cpyAt_len Loc_cat0 Loc_cat1 Loc_cat2 Loc_cat3 Loc_cat4 Loc_cat5 noObjs_at prunK_nil prunK_bar prunK_pass prunK_plain prunK_low prunK_pt prunK_pf prunK_lt prunK_lf onKg onKa onKp popL pickOps lows lowG prunK_shp prunK_fill popH shpOp fillOp fillG rho_low rens_app Loc_cat6 Loc_cat7 Loc_cat8 Loc_cat9 Loc_cat10 Loc_cat11 Loc_cat12 Loc_cat13 Loc_cat14 Loc_cat15 Loc_cat16 Loc_cat17 Loc_cat18 Loc_cat19 Loc_cat20 Loc_cat21 Loc_cat22 dropM prT kdOf tab2 tkind2 tab3 tkind3 tab4 tkind4 tab5 tkind5 tab6 tkind6 tab7 tkind7 tab8 tkind8 tab9 tkind9 tab10 tkind10 tab11 tkind11 tab12 tkind12 tab13 tkind13 tab14 tkind14 tab15 tkind15 tab16 tkind16 tab17 tkind17 tab18 tkind18 tab19 tkind19 tab21 tkind21 tab22 tkind22 tab23 tkind23 tab25 tkind25 tab27 tkind27 tab28 tkind28 tab29 tkind29 tab32 tkind32 tab33 tkind33 tab34 tkind34 tab40 tkind40 tab45 tkind45 tab46 tkind46 tab49 tkind49 tab58 tkind58 tab59 tkind59 tab69 tkind69 tab70 tkind70 tab74 tkind74 tab75 tkind75 tab76 tkind76 tab78 tkind78 tab79 tkind79 tab80 tkind80 e_S_arena_Arena wkl_eI_u64 wka_eI_u64 len_eI_u64 one_eI_u64 wkp_eI_u64 undp_eI_u64 rens_eI_u64 renp_eI_u64 und_eI_u64 wkl_eL_eI_u64 wka_eL_eI_u64 len_eL_eI_u64 one_eL_eI_u64 wkp_eL_eI_u64 undp_eL_eI_u64 rens_eL_eI_u64 renp_eL_eI_u64 und_eL_eI_u64 wkl_e_S_arena_Arena wka_e_S_arena_Arena len_e_S_arena_Arena one_e_S_arena_Arena wkp_e_S_arena_Arena undp_e_S_arena_Arena rens_e_S_arena_Arena renp_e_S_arena_Arena und_e_S_arena_Arena e_S_Three wkl_eI_i64 wka_eI_i64 len_eI_i64 one_eI_i64 wkp_eI_i64 undp_eI_i64 rens_eI_i64 renp_eI_i64 und_eI_i64 wkl_e_S_Three wka_e_S_Three len_e_S_Three one_e_S_Three wkp_e_S_Three undp_e_S_Three rens_e_S_Three renp_e_S_Three und_e_S_Three
theorem land31 (x : Int) : 0 ≤ landI .i64 x 31 ∧ landI .i64 x 31 ≤ 31 := by
  unfold landI
  refine ⟨Int.natCast_nonneg _, ?_⟩
  rw [BitVec.toNat_and]
  have h : (BitVec.ofInt IntKind.i64.bits 31).toNat = 31 := by decide
  rw [h]
  have := @Nat.and_le_right (BitVec.ofInt IntKind.i64.bits x).toNat 31
  omega
theorem k31 (x : Int) : IntKind.i64.wrap (landI .i64 x 31) = landI .i64 x 31 := by have := land31 x; exact i64w (by omega)
theorem Len_ok (A : S_arena_Arena) : m_arena_Arena_Len (some A) = some (A.segments.length : Int) := rfl
theorem there_ok (A : S_arena_Arena) {s : Int} (h0 : 0 ≤ s) (h : s < A.segments.length) : m_arena_Arena_there (some A) s = some true := by
  unfold m_arena_Arena_there; rw [Len_ok]; simp [h0, h]
theorem Size_ok (A : S_arena_Arena) {s : Int} {t : List Int} (hx : getI A.segments s = some t) (h0 : 0 ≤ s) (h : s < A.segments.length) : m_arena_Arena_Size (some A) s = some (t.length : Int) := by
  unfold m_arena_Arena_Size; rw [there_ok A h0 h]; simp [hx]
theorem Has_ok (A : S_arena_Arena) {s at_ k : Int} {t : List Int} (hx : getI A.segments s = some t) (h0 : 0 ≤ s) (h : s < A.segments.length) (h1 : 0 ≤ at_) (h2 : 0 ≤ k) (h3 : at_ + k ≤ t.length) (hb : (t.length : Int) ≤ 1000000) : m_arena_Arena_Has (some A) s at_ k = some true := by
  unfold m_arena_Arena_Has
  rw [there_ok A h0 h, Size_ok A hx h0 h]
  have h4 : k ≤ (t.length : Int) := by omega
  have h5 : IntKind.i64.wrap ((t.length : Int) - k) = (t.length : Int) - k := i64w (by omega)
  have h6 : at_ ≤ (t.length : Int) - k := by omega
  simp [h1, h2, h4, h5, h6]
theorem give_eq {a : S_arena_Arena} {k : Int} (h1 : a.segments.length ≤ 16) (h2 : ∀ s ∈ a.segments, s.length ≤ 900000) (h3 : k ≤ 100000) : m_arena_Arena_Give a k = some ((giveR a.segments a.size a.left k).1, (giveR a.segments a.size a.left k).2.1, (giveR a.segments a.size a.left k).2.2.1, ⟨(giveR a.segments a.size a.left k).2.2.2.1, a.size, (giveR a.segments a.size a.left k).2.2.2.2⟩) := by
  unfold m_arena_Arena_Give; rw [if_pos ⟨h1, h2, h3⟩]
abbrev LS := Int × Int × Int × List S_Three × List (List Int)
theorem L1_ok (s0 : LS) (x5 : Int) (y7 : Int × Int × Bool × S_arena_Arena) (hl : s0.2.2.2.1.length ≤ 1000)
    (h : ∀ x ∈ s0.2.2.2.1, cond (cond (cond (cond (x.f0 == y7.1) (decide (0 < (IntKind.i64.wrap (landI .i64 x5 31)))) false) (decide (0 < x.f2)) false) (decide (y7.2.1 < (IntKind.i64.wrap (x.f1 + x.f2)))) false) (decide (x.f1 < (IntKind.i64.wrap (y7.2.1 + (IntKind.i64.wrap (landI .i64 x5 31)))))) false = false) :
    runLoop (m_centolaw05_ArenaApart_L1 s0 x5 y7) 0 = some (.inr ()) := by
  refine runLoop_eq (fun (s : Int) => 0 ≤ s ∧ s ≤ (s0.2.2.2.1.length : Int)) (fun s => ((s0.2.2.2.1.length : Int) - s).toNat) (fun s ⟨i0, i1⟩ => ?_) 0 ⟨by omega, by omega⟩
  unfold m_centolaw05_ArenaApart_L1
  by_cases c : s < (s0.2.2.2.1.length : Int)
  · left
    have hx : s0.2.2.2.1[s.toNat]? = some (s0.2.2.2.1[s.toNat]'(by omega)) := List.getElem?_eq_getElem _
    have hm : s0.2.2.2.1[s.toNat]'(by omega) ∈ s0.2.2.2.1 := List.getElem_mem _
    generalize s0.2.2.2.1[s.toNat]'(by omega) = x at hx hm
    have hg : getI s0.2.2.2.1 s = some x := by unfold getI; rw [if_pos i0]; exact hx
    have hw : IntKind.i64.wrap (s + 1) = s + 1 := i64w (by omega)
    refine ⟨s + 1, ?_, ⟨by omega, by omega⟩, by omega⟩
    rw [decide_eq_true c, hg, Option.bind_some, h x hm, hw]; rfl
  · right
    rw [decide_eq_false c]; rfl
def Inv5 (s : LS) : Prop := 0 ≤ s.1 ∧ s.1 ≤ 60 ∧ (1 ≤ s.2.1 ∧ s.2.1 ≤ 9223372036854775807) ∧ (0 ≤ s.2.2.1 ∧ s.2.2.1 ≤ 131072) ∧ s.2.2.2.2.length ≤ 16 ∧ (∀ t ∈ s.2.2.2.2, (t.length : Int) ≤ 31 * s.1) ∧ (s.2.2.2.1.length : Int) ≤ s.1 ∧
  ∀ g ∈ s.2.2.2.1, (0 ≤ g.f2 ∧ g.f2 ≤ 31) ∧ 0 ≤ g.f1 ∧ ∃ (p : Nat) (t : List Int), g.f0 = (p : Int) ∧ s.2.2.2.2[p]? = some t ∧ g.f1 + g.f2 ≤ t.length
theorem zl_len5 (s : List Int) {k : Int} (h : 0 ≤ k) : ((zl s k).length : Int) = (s.length : Int) + k := by
  rw [zl_len]; omega
/-- what follows what Give gives -/
theorem L0_go (a2 : List Int) (s : LS) (hi : Inv5 s) (x5 : Int) (c : cond (decide (s.1 < (a2.length : Int))) (decide (s.1 < 60)) false = true) (hx : getI a2 s.1 = some x5) (y7 : Int × Int × Bool × S_arena_Arena)
    (hy : m_arena_Arena_Give (⟨s.2.2.2.2, s.2.1, s.2.2.1⟩ : S_arena_Arena) (IntKind.i64.wrap (landI .i64 x5 31)) = some y7) (hok : y7.2.2.1 = true) (h1 : runLoop (m_centolaw05_ArenaApart_L1 s x5 y7) 0 = some (.inr ()))
    (h2 : m_arena_Arena_Has (some (⟨y7.2.2.2.segments, y7.2.2.2.size, y7.2.2.2.left⟩ : S_arena_Arena)) y7.1 y7.2.1 (IntKind.i64.wrap (landI .i64 x5 31)) = some true) (h3 : y7.2.2.2.segments.length ≤ 16) :
    m_centolaw05_ArenaApart_L0 a2 s = some (.inl (s.1 + 1, y7.2.2.2.size, y7.2.2.2.left, s.2.2.2.1 ++ [(⟨y7.1, y7.2.1, IntKind.i64.wrap (landI .i64 x5 31)⟩ : S_Three)], y7.2.2.2.segments)) := by
  obtain ⟨i0, i1, _, _, _, _, i5, _⟩ := hi
  unfold m_centolaw05_ArenaApart_L0
  have hw : IntKind.i64.wrap (s.1 + 1) = s.1 + 1 := i64w (by omega)
  have hlen : decide (16 < ((⟨y7.2.2.2.segments, y7.2.2.2.size, y7.2.2.2.left⟩ : S_arena_Arena).segments.length : Int)) = false := decide_eq_false (by show ¬ (16 < (y7.2.2.2.segments.length : Int)); omega)
  have happ : appI 24 s.2.2.2.1 ([(⟨y7.1, y7.2.1, (IntKind.i64.wrap (landI .i64 x5 31))⟩ : S_Three)] : List S_Three) = some (s.2.2.2.1 ++ [(⟨y7.1, y7.2.1, (IntKind.i64.wrap (landI .i64 x5 31))⟩ : S_Three)]) := appI_ok (by simp only [List.length_cons, List.length_nil]; omega) (by simp only [List.length_cons, List.length_nil]; omega)
  rw [c, hx, Option.bind_some, hy, Option.bind_some, hok, h1, Option.bind_some]
  simp only [cond_true, cond_false, Bool.not_true, h2, Option.bind_some, Len_ok, hlen, happ, hw]
theorem L0_no (a2 : List Int) (s : LS) (hi : Inv5 s) (x5 : Int) (c : cond (decide (s.1 < (a2.length : Int))) (decide (s.1 < 60)) false = true) (hx : getI a2 s.1 = some x5) (y7 : Int × Int × Bool × S_arena_Arena)
    (hy : m_arena_Arena_Give (⟨s.2.2.2.2, s.2.1, s.2.2.1⟩ : S_arena_Arena) (IntKind.i64.wrap (landI .i64 x5 31)) = some y7) (hok : y7.2.2.1 = false) :
    m_centolaw05_ArenaApart_L0 a2 s = some (.inl (s.1 + 1, y7.2.2.2.size, y7.2.2.2.left, s.2.2.2.1, y7.2.2.2.segments)) := by
  obtain ⟨i0, i1, _⟩ := hi
  unfold m_centolaw05_ArenaApart_L0
  have hw : IntKind.i64.wrap (s.1 + 1) = s.1 + 1 := i64w (by omega)
  rw [c, hx, Option.bind_some, hy, Option.bind_some, hok]
  simp only [cond_true, cond_false, Bool.not_false, Option.bind_some, hw]

end Go.Proofs.Ytpggbianhdebmaa
