/- Part OP: the law; each theorem bears its own conditions. -/
import Derived.Test.YtpggbianhdebmaaOL
namespace Go.Proofs.Ytpggbianhdebmaa
open Go.RowKit
set_option linter.unusedVariables false
set_option linter.unusedSimpArgs false
set_option maxRecDepth 100000
set_option maxHeartbeats 4000000
attribute [local push_cast] gfork_t gfork_f pfork_t pfork_f gthen gblock gops_nil gops_plain gops_guard onW gwantB gcalm gact gpick gpickV strip_any strip_val strip_agg strip_tup strip_sl strip_ip strip_row strip_rs strip_rp strip_rl strip_ref strip_fn strip_when evS wok calmOp Op.operands Call.operands gop onK onP atK List.all_cons List.all_nil Bool.and_true Bool.true_and Bool.and_self Value.oneCell' List.take_zero List.take_succ_cons List.take_nil List.drop_zero List.drop_succ_cons List.drop_nil List.append_nil Nat.add_zero Nat.zero_add gstep gputE ev look genv gbin_ii gbin_bb gbin_ss gbin_pp gbin_rp gbin_ip gbin_ll gbin_aa geqS geqF gint gunary gconvert gload gcells gpart_lit gstore cellsOf_agg cellsOf_val cellsOf_sl cellsOf_ip cellsOf_row cellsOf_rs cellsOf_rp cellsOf_rl cellsOf_ref cellsOf_fn cellsOf_any cellsOf_tup cellsOf_when cellsOf_gP gput gplace_lit gfieldAddr gstepIn gindexAddr gindex gfield gopt bLo bHi bMx gextract galloc gbox gbuild gfill gplaces gbuildSlice gmake glen gappend gappendN gsrc gbuiltin gnil live_any live_val live_agg live_tup live_sl live_ip live_fn live_when live_ref live_rs live_rp live_rl live_row len_any len_val len_agg len_tup len_sl len_ip len_fn len_row len_rl len_rs live_gP gres gone prun_nil prun_plain prun_guard pop TK.isAgg one_any one_val one_agg one_tup one_when one_sl one_ip one_row one_rs one_rp one_rl one_ref one_fn G.under G.unders List.getD_cons_zero List.getD_cons_succ List.set_cons_zero List.set_cons_succ List.map_cons List.map_nil List.toList_toArray Array.toList_append Option.toArray_none Option.toArray_some Array.toList_map Option.map_some Option.map_none Option.bind_some Option.bind_none List.getElem?_cons_zero List.getElem?_cons_succ List.getElem?_nil List.nil_append List.cons_append List.replicate_succ List.replicate_zero List.length_cons List.length_nil and_true true_and and_false false_and Bool.true_eq_false Bool.false_eq_true forall_const false_implies implies_true IntKind.bits if_true if_false ite_true ite_false eq_self true_implies false_or or_false or_true true_or not_true_eq_false not_false_eq_true decide_true decide_false decide_eq_true_eq decide_eq_false_iff_not beq_iff_eq bne_iff_ne ne_eq Bool.not_eq_true Bool.not_eq_false beq_eq_false_iff_ne bne_eq_false_iff_eq beq_self_eq_true bne_self_eq_false Option.some.injEq exists_eq_left' exists_eq_left ge_iff_le gt_iff_lt decide_not Bool.not_true Bool.not_false imp_self gquiet cond_true cond_false beqT beqF Bool.not_not Bool.and_false Bool.false_and Bool.or_true Bool.true_or Bool.or_false Bool.false_or Loc_at Loc_at0 Loc_upd Loc_upd0 Loc_push Loc_push0 Option.join_some Nat.add_assoc Int.toNat_natCast eI eB eS eL fl_nil gopsD_nil gopsD_plain gopsD_t gopsD_f gopsD_n onKD onWD prunD_nil prunD_plain prunD_t prunD_f prunD_n onPD fitO fitO1 sameO fitL fl_append fl_one List.length_append G.agg.injEq G.row.injEq G.ref.injEq G.val.injEq G.sl.injEq G.tup.injEq Value.int.injEq Value.bool.injEq Value.string.injEq List.cons.injEq exists_and_left exists_const List.flatten_cons List.flatten_nil Int.le_refl Nat.le_refl upd_updU Loc_out Loc_updo Bool.not_eq_true' Bool.not_eq_false' wkl_nil wkl_cons wk_any wk_val wk_agg wk_tup wk_sl wk_fn List.size_toArray renO renO1 G.ren G.rens renL rho_at rho_at0 gP_none gP_some strip_gP wok_gP one_gP G.fn.injEq wk_slnil wk_slrow wk_slrs wk_ip wk_ipref wk_row wk_rs wk_rp wk_rl wk_ref locLt0 locLt Option.join_none upd_same fl_cons undef keepL Arr.len Arr.put_eq prunB_nil prunB_bar prunB_bart prunB_plain prunB_t prunB_f prunB_n onB onBP gcopy setI_len cpyAt_len Loc_cat0 Loc_cat1 Loc_cat2 Loc_cat3 Loc_cat4 Loc_cat5 noObjs_at prunK_nil prunK_bar prunK_pass prunK_plain prunK_low prunK_pt prunK_pf prunK_lt prunK_lf onKg onKa onKp popL pickOps lows lowG prunK_shp prunK_fill popH shpOp fillOp fillG rho_low rens_app Loc_cat6 Loc_cat7 Loc_cat8 Loc_cat9 Loc_cat10 Loc_cat11 Loc_cat12 Loc_cat13 Loc_cat14 Loc_cat15 Loc_cat16 Loc_cat17 Loc_cat18 Loc_cat19 Loc_cat20 Loc_cat21 Loc_cat22 dropM prT kdOf tab2 tkind2 tab3 tkind3 tab4 tkind4 tab5 tkind5 tab6 tkind6 tab7 tkind7 tab8 tkind8 tab9 tkind9 tab10 tkind10 tab11 tkind11 tab12 tkind12 tab13 tkind13 tab14 tkind14 tab15 tkind15 tab16 tkind16 tab17 tkind17 tab18 tkind18 tab19 tkind19 tab21 tkind21 tab22 tkind22 tab23 tkind23 tab25 tkind25 tab27 tkind27 tab28 tkind28 tab29 tkind29 tab32 tkind32 tab33 tkind33 tab34 tkind34 tab40 tkind40 tab45 tkind45 tab46 tkind46 tab49 tkind49 tab58 tkind58 tab59 tkind59 tab69 tkind69 tab70 tkind70 tab74 tkind74 tab75 tkind75 tab76 tkind76 tab78 tkind78 tab79 tkind79 tab80 tkind80 wkl_eI_u64 wka_eI_u64 len_eI_u64 one_eI_u64 wkp_eI_u64 undp_eI_u64 rens_eI_u64 renp_eI_u64 und_eI_u64 wkl_eL_eI_u64 wka_eL_eI_u64 len_eL_eI_u64 one_eL_eI_u64 wkp_eL_eI_u64 undp_eL_eI_u64 rens_eL_eI_u64 renp_eL_eI_u64 und_eL_eI_u64 e_S_arena_Arena wkl_e_S_arena_Arena wka_e_S_arena_Arena len_e_S_arena_Arena one_e_S_arena_Arena wkp_e_S_arena_Arena undp_e_S_arena_Arena rens_e_S_arena_Arena renp_e_S_arena_Arena und_e_S_arena_Arena
def WO (l : List (List Int)) : Prop := l.length * 24 ≤ 140737488351232 ∧ ∀ x ∈ l, x.length * 8 ≤ 140737488351232
theorem slclone_p {x : List Int} (h : x.length * 8 ≤ 140737488351232) : m_slices_Clone_uint64_uint64 x = some x := by
  unfold m_slices_Clone_uint64_uint64
  rw [appI_ok (by simp; omega) (by simp; omega), List.nil_append]
theorem take_set {l : List (List Int)} {i : Nat} {x : List Int} (h : l[i]? = some x) (hi : i < l.length) : setI (l.take i ++ List.replicate (l.length - i) ([] : List Int)) (i : Int) x = l.take (i + 1) ++ List.replicate (l.length - (i + 1)) [] := by
  unfold setI
  have hl : (l.take i).length = i := by rw [List.length_take]; omega
  rw [Int.toNat_natCast, List.set_append_right _ _ (by omega), hl, Nat.sub_self, show l.length - i = (l.length - (i + 1)) + 1 by omega, List.replicate_succ, List.set_cons_zero, List.take_add_one, h]
  simp
theorem clone_p {l : List (List Int)} (h : WO l) : m_arena_clone l = some l := by
  unfold m_arena_clone
  rw [makeI_ok (by omega) (by have := h.1; omega) (by have := h.1; omega), Option.bind_some, Int.toNat_natCast]
  have key := runLoop_eq (step := m_arena_clone_L0 l) (r := l) (fun s => ∃ i : Nat, s.1 = (i : Int) ∧ i ≤ l.length ∧ s.2 = l.take i ++ List.replicate (l.length - i) []) (fun s => ((l.length : Int) - s.1).toNat) (fun s hs => by
    obtain ⟨i, h1, h2, h3⟩ := hs
    unfold m_arena_clone_L0
    by_cases c : s.1 < (l.length : Int)
    · left
      have hi : i < l.length := by omega
      obtain ⟨x, hx⟩ : ∃ x, l[i]? = some x := ⟨_, List.getElem?_eq_getElem hi⟩
      have hg : getI l s.1 = some x := by rw [h1]; exact getI_of hx
      have hg2 : getI s.2 s.1 = some [] := by
        rw [h1, h3]
        refine getI_of ?_
        rw [List.getElem?_append_right (by rw [List.length_take]; omega), List.length_take, show i - min i l.length = 0 by omega, show l.length - i = (l.length - (i + 1)) + 1 by omega, List.replicate_succ]; rfl
      have hb := h.2 x (List.mem_of_getElem? hx)
      have hw : IntKind.i64.wrap (s.1 + 1) = s.1 + 1 := i64w (by have := h.1; omega)
      refine ⟨(s.1 + 1, setI s.2 s.1 x), ?_, ⟨i + 1, by show s.1 + 1 = _; omega, by omega, ?_⟩, by show ((l.length : Int) - (s.1 + 1)).toNat < _; omega⟩
      · rw [decide_eq_true c, hg, Option.bind_some, slclone_p hb, Option.bind_some, hg2, Option.bind_some, hw]; rfl
      · show setI s.2 s.1 x = _
        rw [h1, h3]; exact take_set hx hi
    · right
      have e : i = l.length := by omega
      rw [decide_eq_false c, h3, e]
      simp) (0, List.replicate l.length []) ⟨0, rfl, Nat.zero_le _, by simp⟩
  rw [key]; rfl
theorem own_p {l : List (List Int)} (h : WO l) : runLoop (m_centolaw05_ArenaOf_L0 l) (0, []) = some l := by
  refine runLoop_eq (step := m_centolaw05_ArenaOf_L0 l) (r := l) (fun s => ∃ i : Nat, s.1 = (i : Int) ∧ i ≤ l.length ∧ s.2 = l.take i) (fun s => ((l.length : Int) - s.1).toNat) (fun s hs => ?_) (0, []) ⟨0, rfl, Nat.zero_le _, rfl⟩
  obtain ⟨i, h1, h2, h3⟩ := hs
  unfold m_centolaw05_ArenaOf_L0
  by_cases c : s.1 < (l.length : Int)
  · left
    have hi : i < l.length := by omega
    obtain ⟨x, hx⟩ : ∃ x, l[i]? = some x := ⟨_, List.getElem?_eq_getElem hi⟩
    have hg : getI l s.1 = some x := by rw [h1]; exact getI_of hx
    have hb := h.2 x (List.mem_of_getElem? hx)
    have hw : IntKind.i64.wrap (s.1 + 1) = s.1 + 1 := i64w (by have := h.1; omega)
    have hsl : s.2.length = i := by rw [h3, List.length_take]; omega
    refine ⟨(s.1 + 1, s.2 ++ [x]), ?_, ⟨i + 1, by show s.1 + 1 = _; omega, by omega, ?_⟩, by show ((l.length : Int) - (s.1 + 1)).toNat < _; omega⟩
    · have e1 : appI 8 ([] : List Int) x = some x := slclone_p hb
      have e2 : appI 24 s.2 [x] = some (s.2 ++ [x]) := appI_ok (by simp only [List.length_cons, List.length_nil]; have := h.1; omega) (by simp only [List.length_cons, List.length_nil]; have := h.1; omega)
      rw [decide_eq_true c, hg, Option.bind_some, e1, Option.bind_some, e2, Option.bind_some, hw]; rfl
    · show s.2 ++ [x] = _
      rw [h3, List.take_add_one, hx]; rfl
  · right
    have e : i = l.length := by omega
    rw [decide_eq_false c, h3, e, List.take_length]; rfl
theorem same1_p {x : List Int} (h : x.length * 8 ≤ 140737488351232) : m_centoref01_Same x x = some true := by
  unfold m_centoref01_Same
  have hn : ((x.length : Int) != (x.length : Int)) = false := by simp
  rw [hn]
  have key := runLoop_eq (step := m_centoref01_Same_L0 x x) (r := .inr ()) (fun (s : Int) => 0 ≤ s ∧ s ≤ (x.length : Int)) (fun s => ((x.length : Int) - s).toNat) (fun s ⟨i0, i1⟩ => by
    unfold m_centoref01_Same_L0
    by_cases c : s < (x.length : Int)
    · left
      obtain ⟨y, hy⟩ : ∃ y, getI x s = some y := ⟨x[s.toNat]'(by omega), by unfold getI; rw [if_pos i0]; exact List.getElem?_eq_getElem _⟩
      have hw : IntKind.i64.wrap (s + 1) = s + 1 := i64w (by omega)
      have hne : (y != y) = false := by simp
      exact ⟨s + 1, by rw [decide_eq_true c, hy, Option.bind_some, Option.bind_some, hne, hw]; rfl, ⟨by omega, by omega⟩, by omega⟩
    · right; rw [decide_eq_false c]; rfl) 0 ⟨by omega, by omega⟩
  rw [key]; rfl
theorem same3_p {l : List (List Int)} (h : WO l) : m_centoref03_Same l l = some true := by
  unfold m_centoref03_Same
  have hn : ((l.length : Int) != (l.length : Int)) = false := by simp
  rw [hn]
  have key := runLoop_eq (step := m_centoref03_Same_L0 l l) (r := .inr ()) (fun (s : Int) => 0 ≤ s ∧ s ≤ (l.length : Int)) (fun s => ((l.length : Int) - s).toNat) (fun s ⟨i0, i1⟩ => by
    unfold m_centoref03_Same_L0
    by_cases c : s < (l.length : Int)
    · left
      have hy : getI l s = some (l[s.toNat]'(by omega)) := by unfold getI; rw [if_pos i0]; exact List.getElem?_eq_getElem _
      have hm : l[s.toNat]'(by omega) ∈ l := List.getElem_mem _
      generalize l[s.toNat]'(by omega) = y at hy hm
      have hw : IntKind.i64.wrap (s + 1) = s + 1 := i64w (by have := h.1; omega)
      exact ⟨s + 1, by rw [decide_eq_true c, hy, Option.bind_some, Option.bind_some, same1_p (h.2 y hm), Option.bind_some, hw]; rfl, ⟨by omega, by omega⟩, by omega⟩
    · right; rw [decide_eq_false c]; rfl) 0 ⟨by omega, by omega⟩
  rw [key]; rfl
theorem grow_p {A : S_arena_Arena} {s : Int} (h0 : 0 ≤ s) (h1 : s < A.segments.length) (hl : A.left = 0) : ∃ y, m_arena_Arena_grow A s 0 = some y ∧ y.2.left = 0 ∧ y.2.segments.length = A.segments.length := by
  unfold m_arena_Arena_grow
  obtain ⟨x, hx⟩ : ∃ x, getI A.segments s = some x := ⟨A.segments[s.toNat]'(by omega), by unfold getI; rw [if_pos h0]; exact List.getElem?_eq_getElem _⟩
  rw [if_pos rfl, hx, Option.bind_some, Option.bind_some, hl]
  exact ⟨_, rfl, (show IntKind.i64.wrap (0 - 0) = 0 by decide), by simp [setI]⟩
theorem give_p {A : S_arena_Arena} (hb : A.segments.length * 24 ≤ 140737488351232) (hl : A.left = 0) (k : Int) : ∃ y, m_arena_Arena_Give A k = some y ∧ (y.2.2.1 = true → k = 0) ∧ y.2.2.2.left = 0 := by
  unfold m_arena_Arena_Give
  rw [hl]
  by_cases h0 : k < 0
  · rw [decide_eq_true h0]; exact ⟨_, rfl, (fun h => by cases h), rfl⟩
  · rw [decide_eq_false h0]
    by_cases h1 : 0 < k
    · rw [decide_eq_true h1]; exact ⟨_, rfl, (fun h => by cases h), rfl⟩
    · rw [decide_eq_false h1]
      have hk : k = 0 := by omega
      subst hk
      have hw : IntKind.i64.wrap ((A.segments.length : Int) - 1) = (A.segments.length : Int) - 1 := i64w (by omega)
      have hw2 : IntKind.i64.wrap ((A.segments.length : Int) - 1 + 1) = (A.segments.length : Int) := by rw [i64w (by omega)]; omega
      have happ : appI 24 A.segments ([([] : List Int)] : List (List Int)) = some (A.segments ++ [[]]) := appI_ok (by simp only [List.length_cons, List.length_nil]; omega) (by simp only [List.length_cons, List.length_nil]; omega)
      have hnew : ∃ y, m_arena_Arena_grow (⟨A.segments ++ [[]], A.size, 0⟩ : S_arena_Arena) (A.segments.length : Int) 0 = some y ∧ y.2.left = 0 ∧ _ := grow_p (A := ⟨A.segments ++ [[]], A.size, 0⟩) (by omega) (by simp; omega) rfl
      obtain ⟨yn, hyn, hyl, _⟩ := hnew
      simp only [cond_false, Option.bind_some, hw]
      by_cases h2 : (A.segments.length : Int) - 1 < 0
      · rw [decide_eq_true h2]
        simp only [cond_true, Option.bind_some, happ, hw2, hyn]
        exact ⟨_, rfl, (fun _ => by trivial), hyl⟩
      · rw [decide_eq_false h2]
        obtain ⟨x, hx⟩ : ∃ x, getI A.segments ((A.segments.length : Int) - 1) = some x := ⟨A.segments[((A.segments.length : Int) - 1).toNat]'(by omega), by unfold getI; rw [if_pos (by omega)]; exact List.getElem?_eq_getElem _⟩
        obtain ⟨yo, hyo, hyol, _⟩ := grow_p (A := ⟨A.segments, A.size, 0⟩) (s := (A.segments.length : Int) - 1) (by omega) (by show _ < (A.segments.length : Int); omega) rfl
        have hf : m_arena_Arena_fits (⟨A.segments, A.size, 0⟩ : S_arena_Arena) ((A.segments.length : Int) - 1) 0 = some (decide (0 ≤ IntKind.i64.wrap (A.size - (x.length : Int))), ⟨A.segments, A.size, 0⟩) := by
          unfold m_arena_Arena_fits
          rw [show (⟨A.segments, A.size, 0⟩ : S_arena_Arena).segments = A.segments from rfl, hx]; rfl
        simp only [cond_false, Option.bind_some, hf]
        cases decide (0 ≤ IntKind.i64.wrap (A.size - (x.length : Int))) with
        | true =>
          simp only [cond_true, cond_false, Option.bind_some, hyo]
          exact ⟨_, rfl, (fun _ => by trivial), hyol⟩
        | false =>
          simp only [cond_true, cond_false, Option.bind_some, Bool.not_false]
          cases decide ((A.segments.length : Int) < 16) with
          | true =>
            simp only [cond_true, Option.bind_some, happ, hw2, hyn]
            exact ⟨_, rfl, (fun _ => by trivial), hyl⟩
          | false =>
            simp only [cond_false, Option.bind_some, hyo]
            exact ⟨_, rfl, (fun _ => by trivial), hyol⟩
theorem in_p {A : S_arena_Arena} (hl : A.left = 0) (s k : Int) : ∃ y, m_arena_Arena_In A s k = some y ∧ (y.2.1 = true → k = 0) ∧ y.2.2.left = 0 := by
  unfold m_arena_Arena_In m_arena_Arena_there m_arena_Arena_Len
  rw [hl]
  by_cases h0 : 0 ≤ s
  · rw [decide_eq_true h0]
    by_cases h1 : s < (A.segments.length : Int)
    · simp only [cond_true, Option.bind_some, decide_eq_true h1]
      by_cases h2 : k < 0
      · rw [decide_eq_true h2]; exact ⟨_, rfl, (fun h => by cases h), rfl⟩
      · rw [decide_eq_false h2]
        by_cases h3 : 0 < k
        · rw [decide_eq_true h3]; exact ⟨_, rfl, (fun h => by cases h), rfl⟩
        · rw [decide_eq_false h3]
          have hk : k = 0 := by omega
          subst hk
          obtain ⟨x, hx⟩ : ∃ x, getI A.segments s = some x := ⟨A.segments[s.toNat]'(by omega), by unfold getI; rw [if_pos h0]; exact List.getElem?_eq_getElem _⟩
          obtain ⟨yo, hyo, hyol, _⟩ := grow_p (A := ⟨A.segments, A.size, 0⟩) (s := s) h0 h1 rfl
          have hf : m_arena_Arena_fits (⟨A.segments, A.size, 0⟩ : S_arena_Arena) s 0 = some (decide (0 ≤ IntKind.i64.wrap (A.size - (x.length : Int))), ⟨A.segments, A.size, 0⟩) := by
            unfold m_arena_Arena_fits
            rw [show (⟨A.segments, A.size, 0⟩ : S_arena_Arena).segments = A.segments from rfl, hx]; rfl
          simp only [cond_false, Option.bind_some, hf, Bool.not_true]
          cases decide (0 ≤ IntKind.i64.wrap (A.size - (x.length : Int))) with
          | true =>
            simp only [cond_false, Bool.not_true, hyo, Option.bind_some]
            exact ⟨_, rfl, (fun _ => by trivial), hyol⟩
          | false => exact ⟨_, rfl, (fun h => by cases h), rfl⟩
    · simp only [cond_true, Option.bind_some, decide_eq_false h1]
      exact ⟨_, rfl, (fun h => by cases h), rfl⟩
  · rw [decide_eq_false h0]
    exact ⟨_, rfl, (fun h => by cases h), rfl⟩
theorem arenaOf_p {l : List (List Int)} (h : WO l) (a1 a2 a3 : Int) : m_centolaw05_ArenaOf l a1 a2 a3 = some true := by
  unfold m_centolaw05_ArenaOf m_arena_Of
  rw [own_p h, Option.bind_some, clone_p h, Option.bind_some, Option.bind_some]
  have hz : ((cond (decide (0 ≤ a1)) (cond (decide (a1 < (l.length : Int))) (cond (decide (0 ≤ a2)) ((getI l a1).bind fun x12 => some (cond (cond (cond (decide (0 ≤ a1)) (decide (a1 < (l.length : Int))) false) (decide (0 ≤ a2)) false) (decide (a2 < (x12.length : Int))) false)) (some false)) (some false)) (some false)).bind fun (z10 : Bool) => cond z10 ((getI l a1).bind fun x16 => (getI x16 a2).bind fun x18 => some ()) (some ())) = some () := by
    by_cases h0 : 0 ≤ a1
    · rw [decide_eq_true h0]
      by_cases h1 : a1 < (l.length : Int)
      · rw [decide_eq_true h1]
        by_cases h2 : 0 ≤ a2
        · rw [decide_eq_true h2]
          obtain ⟨x, hx⟩ : ∃ x, getI l a1 = some x := ⟨l[a1.toNat]'(by omega), by unfold getI; rw [if_pos h0]; exact List.getElem?_eq_getElem _⟩
          simp only [cond_true, hx, Option.bind_some]
          by_cases h3 : a2 < (x.length : Int)
          · rw [decide_eq_true h3]
            obtain ⟨y, hy⟩ : ∃ y, getI x a2 = some y := ⟨x[a2.toNat]'(by omega), by unfold getI; rw [if_pos h2]; exact List.getElem?_eq_getElem _⟩
            simp only [cond_true, hy, Option.bind_some]
          · rw [decide_eq_false h3]; rfl
        · rw [decide_eq_false h2]; rfl
      · rw [decide_eq_false h1]; rfl
    · rw [decide_eq_false h0]; rfl
  rw [hz, Option.bind_some]
  show ((m_arena_clone l).bind fun y20 => _) = _
  rw [clone_p h, Option.bind_some, same3_p h, Option.bind_some]
  obtain ⟨y, hy, hy1, hy2⟩ := give_p (A := ⟨l, 0, 0⟩) h.1 rfl a3
  show ((m_arena_Arena_Give (⟨l, 0, 0⟩ : S_arena_Arena) a3).bind fun y23 => _) = _
  rw [hy, Option.bind_some]
  obtain ⟨w, hw, hw1, hw2⟩ := in_p (A := ⟨y.2.2.2.segments, y.2.2.2.size, y.2.2.2.left⟩) hy2 a1 a3
  rw [hw, Option.bind_some]
  have hleft : m_arena_Arena_Left (some (⟨w.2.2.segments, w.2.2.size, w.2.2.left⟩ : S_arena_Arena)) = some 0 := by
    unfold m_arena_Arena_Left
    show some w.2.2.left = some 0
    rw [hw2]
  simp only [cond_true, hleft, Option.bind_some, m_centolaw05_awake]
  cases e1 : y.2.2.1 <;> cases e2 : w.2.1
  · simp
  · have := hw1 e2; subst this; simp
  · have := hy1 e1; subst this; simp
  · have := hy1 e1; subst this; simp
theorem wf_wo (l : List (List Int)) (h : l.length * 24 ≤ 140737488351232 ∧ ∀ x ∈ l, x.length * 8 ≤ 140737488351232 ∧ ∀ w ∈ x, (Lit.int .u64 w).wf = true) : WO l := ⟨h.1, fun x hx => (h.2 x hx).1⟩

end Go.Proofs.Ytpggbianhdebmaa
