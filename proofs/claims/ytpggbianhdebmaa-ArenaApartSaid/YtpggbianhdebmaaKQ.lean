/- Part KQ: the law; each theorem bears its own conditions. -/
import Derived.Test.YtpggbianhdebmaaKP
namespace Go.Proofs.Ytpggbianhdebmaa
open Go.RowKit
set_option linter.unusedVariables false
set_option linter.unusedSimpArgs false
set_option maxRecDepth 100000
set_option maxHeartbeats 4000000
attribute [local push_cast] gfork_t gfork_f pfork_t pfork_f gthen gblock gops_nil gops_plain gops_guard onW gwantB gcalm gact gpick gpickV strip_any strip_val strip_agg strip_tup strip_sl strip_ip strip_row strip_rs strip_rp strip_rl strip_ref strip_fn strip_when evS wok calmOp Op.operands Call.operands gop onK onP atK List.all_cons List.all_nil Bool.and_true Bool.true_and Bool.and_self Value.oneCell' List.take_zero List.take_succ_cons List.take_nil List.drop_zero List.drop_succ_cons List.drop_nil List.append_nil Nat.add_zero Nat.zero_add gstep gputE ev look genv gbin_ii gbin_bb gbin_ss gbin_pp gbin_rp gbin_ip gbin_ll gbin_aa geqS geqF gint gunary gconvert gload gcells gpart_lit gstore cellsOf_agg cellsOf_val cellsOf_sl cellsOf_ip cellsOf_row cellsOf_rs cellsOf_rp cellsOf_rl cellsOf_ref cellsOf_fn cellsOf_any cellsOf_tup cellsOf_when cellsOf_gP gput gplace_lit gfieldAddr gstepIn gindexAddr gindex gfield gopt bLo bHi bMx gextract galloc gbox gbuild gfill gplaces gbuildSlice gmake glen gappend gappendN gsrc gbuiltin gnil live_any live_val live_agg live_tup live_sl live_ip live_fn live_when live_ref live_rs live_rp live_rl live_row len_any len_val len_agg len_tup len_sl len_ip len_fn len_row len_rl len_rs live_gP gres gone prun_nil prun_plain prun_guard pop TK.isAgg one_any one_val one_agg one_tup one_when one_sl one_ip one_row one_rs one_rp one_rl one_ref one_fn G.under G.unders List.getD_cons_zero List.getD_cons_succ List.set_cons_zero List.set_cons_succ List.map_cons List.map_nil List.toList_toArray Array.toList_append Option.toArray_none Option.toArray_some Array.toList_map Option.map_some Option.map_none Option.bind_some Option.bind_none List.getElem?_cons_zero List.getElem?_cons_succ List.getElem?_nil List.nil_append List.cons_append List.replicate_succ List.replicate_zero List.length_cons List.length_nil and_true true_and and_false false_and Bool.true_eq_false Bool.false_eq_true forall_const false_implies implies_true IntKind.bits if_true if_false ite_true ite_false eq_self true_implies false_or or_false or_true true_or not_true_eq_false not_false_eq_true decide_true decide_false decide_eq_true_eq decide_eq_false_iff_not beq_iff_eq bne_iff_ne ne_eq Bool.not_eq_true Bool.not_eq_false beq_eq_false_iff_ne bne_eq_false_iff_eq beq_self_eq_true bne_self_eq_false Option.some.injEq exists_eq_left' exists_eq_left ge_iff_le gt_iff_lt decide_not Bool.not_true Bool.not_false imp_self gquiet cond_true cond_false beqT beqF Bool.not_not Bool.and_false Bool.false_and Bool.or_true Bool.true_or Bool.or_false Bool.false_or Loc_at Loc_at0 Loc_upd Loc_upd0 Loc_push Loc_push0 Option.join_some Nat.add_assoc Int.toNat_natCast eI eB eS eL fl_nil gopsD_nil gopsD_plain gopsD_t gopsD_f gopsD_n onKD onWD prunD_nil prunD_plain prunD_t prunD_f prunD_n onPD fitO fitO1 sameO fitL fl_append fl_one List.length_append G.agg.injEq G.row.injEq G.ref.injEq G.val.injEq G.sl.injEq G.tup.injEq Value.int.injEq Value.bool.injEq Value.string.injEq List.cons.injEq exists_and_left exists_const List.flatten_cons List.flatten_nil Int.le_refl Nat.le_refl upd_updU Loc_out Loc_updo Bool.not_eq_true' Bool.not_eq_false' wkl_nil wkl_cons wk_any wk_val wk_agg wk_tup wk_sl wk_fn List.size_toArray renO renO1 G.ren G.rens renL rho_at rho_at0 gP_none gP_some strip_gP wok_gP one_gP G.fn.injEq wk_slnil wk_slrow wk_slrs wk_ip wk_ipref wk_row wk_rs wk_rp wk_rl wk_ref locLt0 locLt Option.join_none upd_same fl_cons undef keepL Arr.len Arr.put_eq prunB_nil prunB_bar prunB_bart prunB_plain prunB_t prunB_f prunB_n onB onBP gcopy setI_len cpyAt_len Loc_cat0 Loc_cat1 Loc_cat2 Loc_cat3 Loc_cat4 Loc_cat5 noObjs_at prunK_nil prunK_bar prunK_pass prunK_plain prunK_low prunK_pt prunK_pf prunK_lt prunK_lf onKg onKa onKp popL pickOps lows lowG prunK_shp prunK_fill popH shpOp fillOp fillG rho_low rens_app Loc_cat6 Loc_cat7 Loc_cat8 Loc_cat9 Loc_cat10 Loc_cat11 Loc_cat12 Loc_cat13 Loc_cat14 Loc_cat15 Loc_cat16 Loc_cat17 Loc_cat18 Loc_cat19 Loc_cat20 Loc_cat21 Loc_cat22 dropM prT kdOf tab2 tkind2 tab3 tkind3 tab4 tkind4 tab5 tkind5 tab6 tkind6 tab7 tkind7 tab8 tkind8 tab9 tkind9 tab10 tkind10 tab11 tkind11 tab12 tkind12 tab13 tkind13 tab14 tkind14 tab15 tkind15 tab16 tkind16 tab17 tkind17 tab18 tkind18 tab19 tkind19 tab21 tkind21 tab22 tkind22 tab23 tkind23 tab25 tkind25 tab27 tkind27 tab28 tkind28 tab29 tkind29 tab32 tkind32 tab33 tkind33 tab34 tkind34 tab40 tkind40 tab45 tkind45 tab46 tkind46 tab49 tkind49 tab58 tkind58 tab59 tkind59 tab69 tkind69 tab70 tkind70 tab74 tkind74 tab75 tkind75 tab76 tkind76 tab78 tkind78 tab79 tkind79 tab80 tkind80 e_S_arena_Arena wkl_eI_u64 wka_eI_u64 len_eI_u64 one_eI_u64 wkp_eI_u64 undp_eI_u64 rens_eI_u64 renp_eI_u64 und_eI_u64 wkl_eL_eI_u64 wka_eL_eI_u64 len_eL_eI_u64 one_eL_eI_u64 wkp_eL_eI_u64 undp_eL_eI_u64 rens_eL_eI_u64 renp_eL_eI_u64 und_eL_eI_u64 wkl_e_S_arena_Arena wka_e_S_arena_Arena len_e_S_arena_Arena one_e_S_arena_Arena wkp_e_S_arena_Arena undp_e_S_arena_Arena rens_e_S_arena_Arena renp_e_S_arena_Arena und_e_S_arena_Arena e_S_Three wkl_eI_i64 wka_eI_i64 len_eI_i64 one_eI_i64 wkp_eI_i64 undp_eI_i64 rens_eI_i64 renp_eI_i64 und_eI_i64 wkl_e_S_Three wka_e_S_Three len_e_S_Three one_e_S_Three wkp_e_S_Three undp_e_S_Three rens_e_S_Three renp_e_S_Three und_e_S_Three
theorem L0_step (a2 : List Int) (s : LS) (hi : Inv5 s) : (∃ s', m_centolaw05_ArenaApart_L0 a2 s = some (.inl s') ∧ Inv5 s' ∧ (60 - s'.1).toNat < (60 - s.1).toNat) ∨ m_centolaw05_ArenaApart_L0 a2 s = some (.inr (.inr ())) := by
  have hi0 := hi
  obtain ⟨i0, i1, ⟨z0, z1⟩, ⟨l0, l1⟩, i2, i3, i4, i5⟩ := hi
  by_cases c : cond (decide (s.1 < (a2.length : Int))) (decide (s.1 < 60)) false = true
  · left
    have hc : s.1 < (a2.length : Int) ∧ s.1 < 60 := by
      cases h1 : decide (s.1 < (a2.length : Int)) with
      | false => rw [h1] at c; cases c
      | true => rw [h1] at c; exact ⟨of_decide_eq_true h1, of_decide_eq_true c⟩
    obtain ⟨x5, hx⟩ : ∃ x, getI a2 s.1 = some x := ⟨a2[s.1.toNat]'(by omega), by unfold getI; rw [if_pos i0]; exact List.getElem?_eq_getElem _⟩
    have hk := land31 x5
    have hkw := k31 x5
    have hg : ∀ t ∈ s.2.2.2.2, t.length ≤ 900000 := fun t ht => by have := i3 t ht; omega
    have hgive := give_eq (a := ⟨s.2.2.2.2, s.2.1, s.2.2.1⟩) (k := IntKind.i64.wrap (landI .i64 x5 31)) i2 hg (by rw [hkw]; omega)
    generalize hK : landI .i64 x5 31 = k at *
    simp only [hkw] at hgive
    unfold giveR at hgive
    by_cases d1 : k < 0 ∨ s.2.2.1 < k
    · rw [if_pos d1] at hgive
      refine ⟨_, L0_no a2 s hi0 x5 c hx _ (by rw [hK, hkw]; exact hgive) rfl, ⟨by show 0 ≤ s.1 + 1; omega, by show s.1 + 1 ≤ 60; omega, ⟨z0, z1⟩, ⟨l0, l1⟩, i2, fun t ht => ?_, ?_, i5⟩, ?_⟩
      · have := i3 t ht; show (t.length : Int) ≤ 31 * (s.1 + 1); omega
      · show (s.2.2.2.1.length : Int) ≤ s.1 + 1; omega
      · show (60 - (s.1 + 1)).toNat < _; omega
    · have hle : k ≤ s.2.2.1 := by omega
      have hlw : IntKind.i64.wrap (s.2.2.1 - k) = s.2.2.1 - k := i64w (by omega)
      rw [if_neg d1] at hgive
      by_cases d2 : s.2.2.2.2.length = 0 ∨ s.2.2.2.2.length < 16 ∧ ¬ k ≤ IntKind.i64.wrap (s.2.1 - ((lastS s.2.2.2.2).length : Int))
      · rw [if_pos d2] at hgive
        have hlt : s.2.2.2.2.length < 16 := by
          rcases d2 with h | h
          · omega
          · exact h.1
        have hz := zl_len5 [] hk.1
        have hget : getI (s.2.2.2.2 ++ [zl [] k]) (s.2.2.2.2.length : Int) = some (zl [] k) := by
          unfold getI; rw [if_pos (by omega), Int.toNat_natCast, List.getElem?_append_right (Nat.le_refl _)]; simp
        have hL1 := L1_ok s x5 ((s.2.2.2.2.length : Int), 0, true, ⟨s.2.2.2.2 ++ [zl [] k], s.2.1, IntKind.i64.wrap (s.2.2.1 - k)⟩) (by omega) (fun x hx => by
          obtain ⟨_, _, p, t, hp, ht, _⟩ := i5 x hx
          obtain ⟨hl, _⟩ := List.getElem?_eq_some_iff.1 ht
          have : (x.f0 == (s.2.2.2.2.length : Int)) = false := by rw [beq_eq_false_iff_ne, hp]; omega
          show cond (cond (cond (cond (x.f0 == (s.2.2.2.2.length : Int)) _ false) _ false) _ false) _ false = false
          rw [this]; rfl)
        have hHas := Has_ok ⟨s.2.2.2.2 ++ [zl [] k], s.2.1, IntKind.i64.wrap (s.2.2.1 - k)⟩ (s := (s.2.2.2.2.length : Int)) (at_ := 0) (k := k) hget (by omega) (by simp; omega) (by omega) hk.1 (by rw [hz]; simp) (by rw [hz]; simp; omega)
        have hgo := L0_go a2 s hi0 x5 c hx _ (by rw [hK, hkw]; exact hgive) rfl hL1 (by rw [hK, hkw]; exact hHas) (by show (s.2.2.2.2 ++ [zl [] k]).length ≤ 16; simp; omega)
        rw [hK, hkw] at hgo
        refine ⟨_, hgo, ⟨by show 0 ≤ s.1 + 1; omega, by show s.1 + 1 ≤ 60; omega, ⟨z0, z1⟩, ?_, ?_, fun t ht => ?_, ?_, fun g hg => ?_⟩, ?_⟩
        · show 0 ≤ IntKind.i64.wrap (s.2.2.1 - k) ∧ IntKind.i64.wrap (s.2.2.1 - k) ≤ 131072; rw [hlw]; omega
        · show (s.2.2.2.2 ++ [zl [] k]).length ≤ 16; simp; omega
        · show (t.length : Int) ≤ 31 * (s.1 + 1)
          rcases List.mem_append.1 ht with h | h
          · have := i3 t h; omega
          · rw [List.mem_singleton.1 h, hz]; simp; omega
        · show ((s.2.2.2.1 ++ [_]).length : Int) ≤ s.1 + 1; simp; omega
        · rcases List.mem_append.1 hg with h | h
          · obtain ⟨q1, q2, p, t, q3, q4, q5⟩ := i5 g h
            obtain ⟨hl, _⟩ := List.getElem?_eq_some_iff.1 q4
            exact ⟨q1, q2, p, t, q3, (List.getElem?_append_left hl).trans q4, q5⟩
          · rw [List.mem_singleton.1 h]
            refine ⟨hk, Int.le_refl _, s.2.2.2.2.length, zl [] k, rfl, ?_, ?_⟩
            · show (s.2.2.2.2 ++ [zl [] k])[s.2.2.2.2.length]? = _; rw [List.getElem?_append_right (Nat.le_refl _)]; simp
            · show 0 + k ≤ _; rw [hz]; simp
        · show (60 - (s.1 + 1)).toNat < _; omega
      · rw [if_neg d2] at hgive
        have hne : s.2.2.2.2.length ≠ 0 := fun h => d2 (.inl h)
        have hla := last_at hne
        have hmem : lastS s.2.2.2.2 ∈ s.2.2.2.2 := List.mem_of_getElem? hla
        have hbl := i3 _ hmem
        have hz := zl_len5 (lastS s.2.2.2.2) hk.1
        generalize hT : lastS s.2.2.2.2 = T at *
        have hp : s.2.2.2.2.length - 1 < s.2.2.2.2.length := by omega
        have hi1 : (((s.2.2.2.2.length : Int) - 1).toNat) = s.2.2.2.2.length - 1 := by omega
        have hset : (s.2.2.2.2.set (s.2.2.2.2.length - 1) (zl T k))[s.2.2.2.2.length - 1]? = some (zl T k) := by rw [List.getElem?_set, if_pos rfl, if_pos hp]
        have hget : getI (s.2.2.2.2.set (s.2.2.2.2.length - 1) (zl T k)) ((s.2.2.2.2.length : Int) - 1) = some (zl T k) := by
          unfold getI; rw [if_pos (by omega), hi1]; exact hset
        have hL1 := L1_ok s x5 ((s.2.2.2.2.length : Int) - 1, (T.length : Int), true, ⟨s.2.2.2.2.set (s.2.2.2.2.length - 1) (zl T k), s.2.1, IntKind.i64.wrap (s.2.2.1 - k)⟩) (by omega) (fun x hx => by
          obtain ⟨⟨q0, q1⟩, q2, p, t, hp, ht, q5⟩ := i5 x hx
          obtain ⟨hl, _⟩ := List.getElem?_eq_some_iff.1 ht
          show cond (cond (cond (cond (x.f0 == (s.2.2.2.2.length : Int) - 1) _ false) _ false) (decide ((T.length : Int) < IntKind.i64.wrap (x.f1 + x.f2))) false) _ false = false
          have htl := i3 t (List.mem_of_getElem? ht)
          by_cases e : x.f0 = (s.2.2.2.2.length : Int) - 1
          · have e2 : p = s.2.2.2.2.length - 1 := by omega
            rw [e2, hla] at ht
            have := Option.some.inj ht; subst this
            have hw : IntKind.i64.wrap (x.f1 + x.f2) = x.f1 + x.f2 := i64w (by omega)
            rw [hw, decide_eq_false (by omega : ¬ (T.length : Int) < x.f1 + x.f2)]
            have hcf : ∀ b d : Bool, cond (cond b false false) d false = false := by decide
            exact hcf _ _
          · rw [beq_eq_false_iff_ne.2 e]; rfl)
        have hHas := Has_ok ⟨s.2.2.2.2.set (s.2.2.2.2.length - 1) (zl T k), s.2.1, IntKind.i64.wrap (s.2.2.1 - k)⟩ (s := (s.2.2.2.2.length : Int) - 1) (at_ := (T.length : Int)) (k := k) hget (by omega) (by simp; omega) (by omega) hk.1 (by rw [hz]; exact Int.le_refl _) (by rw [hz]; omega)
        have hgo := L0_go a2 s hi0 x5 c hx _ (by rw [hK, hkw]; exact hgive) rfl hL1 (by rw [hK, hkw]; exact hHas) (by show (s.2.2.2.2.set _ _).length ≤ 16; rw [List.length_set]; exact i2)
        rw [hK, hkw] at hgo
        refine ⟨_, hgo, ⟨by show 0 ≤ s.1 + 1; omega, by show s.1 + 1 ≤ 60; omega, ⟨z0, z1⟩, ?_, ?_, fun t ht => ?_, ?_, fun g hg => ?_⟩, ?_⟩
        · show 0 ≤ IntKind.i64.wrap (s.2.2.1 - k) ∧ IntKind.i64.wrap (s.2.2.1 - k) ≤ 131072; rw [hlw]; omega
        · show (s.2.2.2.2.set _ _).length ≤ 16; rw [List.length_set]; exact i2
        · show (t.length : Int) ≤ 31 * (s.1 + 1)
          rcases List.mem_or_eq_of_mem_set ht with h | h
          · have := i3 t h; omega
          · rw [h, hz]; omega
        · show ((s.2.2.2.1 ++ [_]).length : Int) ≤ s.1 + 1; simp; omega
        · rcases List.mem_append.1 hg with h | h
          · obtain ⟨q1, q2, p, t, q3, q4, q5⟩ := i5 g h
            by_cases e2 : p = s.2.2.2.2.length - 1
            · subst e2
              rw [hla] at q4
              have := Option.some.inj q4; subst this
              exact ⟨q1, q2, _, zl T k, q3, hset, by rw [hz]; omega⟩
            · refine ⟨q1, q2, p, t, q3, ?_, q5⟩
              show (s.2.2.2.2.set _ _)[p]? = _
              rw [List.getElem?_set, if_neg (fun h => e2 h.symm)]; exact q4
          · rw [List.mem_singleton.1 h]
            refine ⟨hk, by show 0 ≤ (T.length : Int); omega, s.2.2.2.2.length - 1, zl T k, by show (s.2.2.2.2.length : Int) - 1 = _; omega, hset, ?_⟩
            show (T.length : Int) + k ≤ _; rw [hz]; exact Int.le_refl _
        · show (60 - (s.1 + 1)).toNat < _; omega
  · right
    unfold m_centolaw05_ArenaApart_L0
    have : cond (decide (s.1 < (a2.length : Int))) (decide (s.1 < 60)) false = false := Bool.eq_false_iff.2 c
    rw [this]; rfl
theorem arenaApart_p (a0 a1 : Int) (h0 : -9223372036854775808 ≤ a0 ∧ a0 ≤ 9223372036854775807) (a2 : List Int) : m_centolaw05_ArenaApart a0 a1 a2 = some true := by
  unfold m_centolaw05_ArenaApart m_arena_New
  simp only [Option.bind_some]
  have hsz : 1 ≤ (if a0 < 1 then 1 else a0) ∧ (if a0 < 1 then 1 else a0) ≤ 9223372036854775807 := by
    by_cases h : a0 < 1
    · simp only [if_pos h]; omega
    · simp only [if_neg h]; omega
  have hlf : 0 ≤ (if 131072 < (if a1 < 0 then 0 else a1) then 131072 else (if a1 < 0 then 0 else a1)) ∧ (if 131072 < (if a1 < 0 then 0 else a1) then 131072 else (if a1 < 0 then 0 else a1)) ≤ 131072 := by
    have : 0 ≤ (if a1 < 0 then 0 else a1) := by
      by_cases h : a1 < 0
      · rw [if_pos h]; omega
      · rw [if_neg h]; omega
    generalize (if a1 < 0 then 0 else a1) = b at *
    by_cases h : 131072 < b
    · simp only [if_pos h]; omega
    · simp only [if_neg h]; omega
  generalize (if a0 < 1 then 1 else a0) = sz at *
  generalize (if 131072 < (if a1 < 0 then 0 else a1) then 131072 else (if a1 < 0 then 0 else a1)) = lf at *
  have := runLoop_eq (step := m_centolaw05_ArenaApart_L0 a2) (r := .inr ()) Inv5 (fun s => (60 - s.1).toNat) (L0_step a2) (0, sz, lf, ([] : List S_Three), ([] : List (List Int)))
    ⟨Int.le_refl _, by show (0 : Int) ≤ 60; omega, hsz, hlf, by show (0 : Nat) ≤ 16; omega, (fun t ht => by cases ht), Int.le_refl _, (fun g hg => by cases hg)⟩
  rw [this]; rfl

end Go.Proofs.Ytpggbianhdebmaa
