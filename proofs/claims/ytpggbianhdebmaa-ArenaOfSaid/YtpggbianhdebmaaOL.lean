/- Part OL: the law; each theorem bears its own conditions. -/
import Derived.Test.YtpggbianhdebmaaOY
namespace Go.Proofs.Ytpggbianhdebmaa
open Go.RowKit
set_option linter.unusedVariables false
set_option linter.unusedSimpArgs false
set_option maxRecDepth 100000
set_option maxHeartbeats 4000000
attribute [local push_cast] gfork_t gfork_f pfork_t pfork_f gthen gblock gops_nil gops_plain gops_guard onW gwantB gcalm gact gpick gpickV strip_any strip_val strip_agg strip_tup strip_sl strip_ip strip_row strip_rs strip_rp strip_rl strip_ref strip_fn strip_when evS wok calmOp Op.operands Call.operands gop onK onP atK List.all_cons List.all_nil Bool.and_true Bool.true_and Bool.and_self Value.oneCell' List.take_zero List.take_succ_cons List.take_nil List.drop_zero List.drop_succ_cons List.drop_nil List.append_nil Nat.add_zero Nat.zero_add gstep gputE ev look genv gbin_ii gbin_bb gbin_ss gbin_pp gbin_rp gbin_ip gbin_ll gbin_aa geqS geqF gint gunary gconvert gload gcells gpart_lit gstore cellsOf_agg cellsOf_val cellsOf_sl cellsOf_ip cellsOf_row cellsOf_rs cellsOf_rp cellsOf_rl cellsOf_ref cellsOf_fn cellsOf_any cellsOf_tup cellsOf_when cellsOf_gP gput gplace_lit gfieldAddr gstepIn gindexAddr gindex gfield gopt bLo bHi bMx gextract galloc gbox gbuild gfill gplaces gbuildSlice gmake glen gappend gappendN gsrc gbuiltin gnil live_any live_val live_agg live_tup live_sl live_ip live_fn live_when live_ref live_rs live_rp live_rl live_row len_any len_val len_agg len_tup len_sl len_ip len_fn len_row len_rl len_rs live_gP gres gone prun_nil prun_plain prun_guard pop TK.isAgg one_any one_val one_agg one_tup one_when one_sl one_ip one_row one_rs one_rp one_rl one_ref one_fn G.under G.unders List.getD_cons_zero List.getD_cons_succ List.set_cons_zero List.set_cons_succ List.map_cons List.map_nil List.toList_toArray Array.toList_append Option.toArray_none Option.toArray_some Array.toList_map Option.map_some Option.map_none Option.bind_some Option.bind_none List.getElem?_cons_zero List.getElem?_cons_succ List.getElem?_nil List.nil_append List.cons_append List.replicate_succ List.replicate_zero List.length_cons List.length_nil and_true true_and and_false false_and Bool.true_eq_false Bool.false_eq_true forall_const false_implies implies_true IntKind.bits if_true if_false ite_true ite_false eq_self true_implies false_or or_false or_true true_or not_true_eq_false not_false_eq_true decide_true decide_false decide_eq_true_eq decide_eq_false_iff_not beq_iff_eq bne_iff_ne ne_eq Bool.not_eq_true Bool.not_eq_false beq_eq_false_iff_ne bne_eq_false_iff_eq beq_self_eq_true bne_self_eq_false Option.some.injEq exists_eq_left' exists_eq_left ge_iff_le gt_iff_lt decide_not Bool.not_true Bool.not_false imp_self gquiet cond_true cond_false beqT beqF Bool.not_not Bool.and_false Bool.false_and Bool.or_true Bool.true_or Bool.or_false Bool.false_or Loc_at Loc_at0 Loc_upd Loc_upd0 Loc_push Loc_push0 Option.join_some Nat.add_assoc Int.toNat_natCast eI eB eS eL fl_nil gopsD_nil gopsD_plain gopsD_t gopsD_f gopsD_n onKD onWD prunD_nil prunD_plain prunD_t prunD_f prunD_n onPD fitO fitO1 sameO fitL fl_append fl_one List.length_append G.agg.injEq G.row.injEq G.ref.injEq G.val.injEq G.sl.injEq G.tup.injEq Value.int.injEq Value.bool.injEq Value.string.injEq List.cons.injEq exists_and_left exists_const List.flatten_cons List.flatten_nil Int.le_refl Nat.le_refl upd_updU Loc_out Loc_updo Bool.not_eq_true' Bool.not_eq_false' wkl_nil wkl_cons wk_any wk_val wk_agg wk_tup wk_sl wk_fn List.size_toArray renO renO1 G.ren G.rens renL rho_at rho_at0 gP_none gP_some strip_gP wok_gP one_gP G.fn.injEq wk_slnil wk_slrow wk_slrs wk_ip wk_ipref wk_row wk_rs wk_rp wk_rl wk_ref locLt0 locLt Option.join_none upd_same fl_cons undef keepL Arr.len Arr.put_eq prunB_nil prunB_bar prunB_bart prunB_plain prunB_t prunB_f prunB_n onB onBP gcopy setI_len cpyAt_len Loc_cat0 Loc_cat1 Loc_cat2 Loc_cat3 Loc_cat4 Loc_cat5 noObjs_at prunK_nil prunK_bar prunK_pass prunK_plain prunK_low prunK_pt prunK_pf prunK_lt prunK_lf onKg onKa onKp popL pickOps lows lowG prunK_shp prunK_fill popH shpOp fillOp fillG rho_low rens_app Loc_cat6 Loc_cat7 Loc_cat8 Loc_cat9 Loc_cat10 Loc_cat11 Loc_cat12 Loc_cat13 Loc_cat14 Loc_cat15 Loc_cat16 Loc_cat17 Loc_cat18 Loc_cat19 Loc_cat20 Loc_cat21 Loc_cat22 dropM prT kdOf tab2 tkind2 tab3 tkind3 tab4 tkind4 tab5 tkind5 tab6 tkind6 tab7 tkind7 tab8 tkind8 tab9 tkind9 tab10 tkind10 tab11 tkind11 tab12 tkind12 tab13 tkind13 tab14 tkind14 tab15 tkind15 tab16 tkind16 tab17 tkind17 tab18 tkind18 tab19 tkind19 tab21 tkind21 tab22 tkind22 tab23 tkind23 tab25 tkind25 tab27 tkind27 tab28 tkind28 tab29 tkind29 tab32 tkind32 tab33 tkind33 tab34 tkind34 tab40 tkind40 tab45 tkind45 tab46 tkind46 tab49 tkind49 tab58 tkind58 tab59 tkind59 tab69 tkind69 tab70 tkind70 tab74 tkind74 tab75 tkind75 tab76 tkind76 tab78 tkind78 tab79 tkind79 tab80 tkind80 wkl_eI_u64 wka_eI_u64 len_eI_u64 one_eI_u64 wkp_eI_u64 undp_eI_u64 rens_eI_u64 renp_eI_u64 und_eI_u64 wkl_eL_eI_u64 wka_eL_eI_u64 len_eL_eI_u64 one_eL_eI_u64 wkp_eL_eI_u64 undp_eL_eI_u64 rens_eL_eI_u64 renp_eL_eI_u64 und_eL_eI_u64 e_S_arena_Arena wkl_e_S_arena_Arena wka_e_S_arena_Arena len_e_S_arena_Arena one_e_S_arena_Arena wkp_e_S_arena_Arena undp_e_S_arena_Arena rens_e_S_arena_Arena renp_e_S_arena_Arena und_e_S_arena_Arena
def mx (B : Nat) (s : Int) (xs : List (List Int)) : List MR := xs.mapIdx fun j x => (if (j : Int) = s then some B else none, x)
def rB (s : Int) (xs : List (List Int)) : Option GObj := if 0 ≤ s then xs[s.toNat]?.map fun x => ⟨true, 27, 1, x.length, fl (eI .u64) x⟩ else none
theorem mx_len (B : Nat) (s : Int) (xs : List (List Int)) : (mx B s xs).length = xs.length := by simp [mx]
theorem mx_map (B : Nat) (s : Int) (xs : List (List Int)) : (mx B s xs).map (·.2) = xs := by
  apply List.ext_getElem?
  intro i
  unfold mx
  rw [List.getElem?_map, List.getElem?_mapIdx]
  cases xs[i]? <;> rfl
theorem mx_at (B : Nat) (s : Int) (xs : List (List Int)) (p : Nat) : (mx B s xs)[p]? = xs[p]?.map fun x => (if (p : Int) = s then some B else none, x) := by simp [mx]
theorem mx_snoc (B : Nat) (s : Int) (xs : List (List Int)) (z : List Int) : mx B s (xs ++ [z]) = mx B s xs ++ [(if (xs.length : Int) = s then some B else none, z)] := by simp [mx, List.mapIdx_append]
theorem mx_mem {B : Nat} {s : Int} {xs : List (List Int)} {x : MR} {v : Nat} (h : x ∈ mx B s xs) (hv : x.1 = some v) : v = B ∧ rB s xs = some ⟨true, 27, 1, x.2.length, fl (eI .u64) x.2⟩ := by
  obtain ⟨p, hp⟩ := List.getElem?_of_mem h
  rw [mx_at] at hp
  cases e : xs[p]? with
  | none => rw [e] at hp; cases hp
  | some z =>
    rw [e] at hp
    have := Option.some.inj hp; subst this
    by_cases c : (p : Int) = s
    · simp only [if_pos c] at hv
      refine ⟨(Option.some.inj hv).symm, ?_⟩
      subst c
      unfold rB
      rw [if_pos (Int.natCast_nonneg _), Int.toNat_natCast, e]; rfl
    · simp only [if_neg c] at hv; cases hv
theorem und_eM {k : Nat} : ∀ L : List MR, (∀ x ∈ L, ∀ v, x.1 = some v → v < k) → G.unders k (fl eM L) = true
  | [], _ => by simp [fl, G.unders]
  | x :: L, h => by
    have h2 := und_eM L (fun y hy => h y (List.mem_cons_of_mem _ hy))
    show (G.under k (eM1 x) && G.unders k (fl eM L)) = true
    rw [h2, Bool.and_true]
    unfold eM1
    cases hv : x.1 with
    | none => simp [G.under, und_eI_u64]
    | some v => simpa [G.under] using h x List.mem_cons_self v hv
theorem rB_cases (s : Int) (xs : List (List Int)) : rB s xs = none ∨ ∃ x, rB s xs = some ⟨true, 27, 1, x.length, fl (eI .u64) x⟩ := by
  unfold rB
  by_cases h : 0 ≤ s
  · rw [if_pos h]
    cases xs[s.toNat]? with
    | none => exact .inl rfl
    | some x => exact .inr ⟨x, rfl⟩
  · rw [if_neg h]; exact .inl rfl
theorem rB_fit (Z Z' : Objs) (k : Nat) (s : Int) (xs : List (List Int)) : fitO1 Z Z' k (rB s xs) (rB s xs) = True := by
  unfold rB
  by_cases h : 0 ≤ s
  · rw [if_pos h]
    cases xs[s.toNat]? with
    | none => simp [fitO1]
    | some x => exact eq_true ⟨⟨rfl, rfl, rfl, rfl⟩, wkl_eI_u64 _⟩
  · rw [if_neg h]; simp [fitO1]
theorem rB_snoc {s : Int} {xs : List (List Int)} (z : List Int) (h : ¬ (xs.length : Int) = s) : rB s (xs ++ [z]) = rB s xs := by
  unfold rB
  by_cases h0 : 0 ≤ s
  · rw [if_pos h0, if_pos h0]
    by_cases h1 : s.toNat < xs.length
    · rw [List.getElem?_append_left h1]
    · rw [List.getElem?_eq_none (by simp; omega), List.getElem?_eq_none (by omega)]
  · rw [if_neg h0, if_neg h0]
theorem rB_at {s : Int} {xs : List (List Int)} {x : List Int} (h : getI xs s = some x) : rB s xs = some ⟨true, 27, 1, x.length, fl (eI .u64) x⟩ := by
  unfold getI at h
  unfold rB
  by_cases h0 : 0 ≤ s
  · rw [if_pos h0] at h ⊢; rw [h]; rfl
  · rw [if_neg h0] at h; cases h
theorem rB_new {s : Int} {xs : List (List Int)} (h : (xs.length : Int) = s) : rB s xs = none := by
  unfold rB
  rw [if_pos (by omega), List.getElem?_eq_none (by omega)]; rfl
theorem fl_eM_snoc (L : List MR) (x : MR) : fl eM (L ++ [x]) = fl eM L ++ [eM1 x] := by unfold fl; simp [eM]
theorem rens_mx {ρ : Nat → Nat} {B : Nat} {s : Int} {xs : List (List Int)} (h : (xs.length : Int) = s) : G.rens ρ (fl eM (mx B s xs)) = fl eM (mx B s xs) := by
  have key : ∀ L : List MR, (∀ x ∈ L, x.1 = none) → G.rens ρ (fl eM L) = fl eM L := fun L => by
    induction L with
    | nil => intro _; rfl
    | cons x L ih =>
      intro hx
      show G.rens ρ (eM1 x :: fl eM L) = eM1 x :: fl eM L
      rw [G.rens, ih fun y hy => hx y (List.mem_cons_of_mem _ hy)]
      have hn := hx x List.mem_cons_self
      unfold eM1
      rw [hn]
      simp only [G.ren, rens_eI_u64]
  refine key _ fun x hx => ?_
  cases hv : x.1 with
  | none => rfl
  | some v =>
    have := (mx_mem hx hv).2
    rw [rB_new h] at this; cases this
theorem mx_get {B : Nat} {s : Int} {xs : List (List Int)} {x : List Int} (h : getI xs s = some x) : getI (mx B s xs) s = some (some B, x) := by
  unfold getI at h ⊢
  by_cases h0 : 0 ≤ s
  · rw [if_pos h0] at h ⊢
    rw [mx_at, h, Option.map_some, if_pos (by omega)]
  · rw [if_neg h0] at h; cases h
theorem ok_centolaw05_ArenaOf {a0 : (List (List Int))} {a1 : Int} {a2 : Int} {a3 : Int} {r : Bool} {O : Objs} {n : Nat} (h : m_centolaw05_ArenaOf a0 a1 a2 a3 = some r) : GTo Try.prog 5 [.sl a0.length (fl (eL (eI .u64)) a0), .val (.int .i64 a1), .val (.int .i64 a2), .val (.int .i64 a3)] O n (.val (.bool r)) O n := by
  unfold m_centolaw05_ArenaOf at h
  refine fn_of tab_ok Try.call5 Try.func5 rfl (Nat.le_of_ble_eq_true rfl) (Nat.le_refl _) fun hU => ?_
  have hN0 : O n = none := hU.fresh _ (Nat.le_refl _)
  have hN : ∀ k, O (n + k) = none := fun k => hU.fresh _ (Nat.le_add_right _ _)
  have hwM : ∀ Z Z' k xs, wkl Z Z' (n + 2 + k) (fl eM (mx (n + 1) a1 xs)) (fl eM (mx (n + 1) a1 xs)) = True := fun Z Z' k xs => eq_true (wkl_refl _ (und_eM _ fun x hx v hv => by have := (mx_mem hx hv).1; omega))
  have hw2 := fun Z Z' xs => hwM Z Z' 0 xs
  have hw3 := fun Z Z' xs => hwM Z Z' 1 xs
  have hw4 := fun Z Z' xs => hwM Z Z' 2 xs
  simp only [Nat.add_zero, Nat.add_assoc, Nat.reduceAdd] at hw2 hw3 hw4
  show W _ _ _ _ ⟨113, [], [(0, .sl a0.length (fl (eL (eI .u64)) a0)), (1, .val (.int .i64 a1)), (2, .val (.int .i64 a2)), (3, .val (.int .i64 a3))]⟩ (Loc O n []) _
  refine W_sq [0, 1, 2, 3] (W_regionD tab_ok [] ?_)
  simp only [push_cast, seval, ↓reduceIte, cast_lit, hN0, hN]
  refine W_sq [0, 1, 2, 3, 9] (W_regionD tab_ok [] ?_)
  simp only [push_cast, seval, ↓reduceIte, cast_lit, hN0, hN]
  refine W_seqK ?_
  refine W_sq [0, 1, 2, 3, 9, 10] (W_regionD tab_ok [] ?_)
  simp only [push_cast, seval, ↓reduceIte, cast_lit, hN0, hN]
  refine W_drop [0, 1, 2, 3, 9, 10] [] ?_
  simp only [push_cast, seval, ↓reduceIte]
  refine W_fit2 (E' := ⟨113, [], [(0, .sl a0.length (fl (eL (eI .u64)) a0)), (1, .val (.int .i64 a1)), (2, .val (.int .i64 a2)), (3, .val (.int .i64 a3)), (9, .row n ([] : List (List Int)).length), (10, .val (.int .i64 0))]⟩) (O' := (Loc O n [some ⟨true, 40, 1, ([] : List (List Int)).length, fl eM (mx (n + 1) a1 ([] : List (List Int)))⟩, rB a1 ([] : List (List Int))])) (n' := (n + 2)) ?_ ?_
  · refine Fit2.trans (adopt_fit 9 40 1 rfl (by omega)) ?_
    simp only [Loc_push, Loc_push0, Loc_upd, Loc_upd0, List.set_cons_zero, List.set_cons_succ, List.cons_append, List.nil_append, List.length_cons, List.length_nil, Nat.zero_add, Nat.reduceAdd, Nat.reduceLT, Nat.add_assoc]
    have h0 : rB a1 [] = none := by unfold rB; split <;> rfl
    rw [h0]
    refine Fit2.trans (E' := ⟨113, [], [(0, .sl a0.length (fl (eL (eI .u64)) a0)), (1, .val (.int .i64 a1)), (2, .val (.int .i64 a2)), (3, .val (.int .i64 a3)), (9, .row n ([] : List (List Int)).length), (10, .val (.int .i64 0))]⟩) (O' := (Loc O n [some ⟨true, 40, 1, 0, []⟩])) (n' := (n + 1)) (Fit2.of (fit_loc hU rfl rfl ?_) (by omega)) ?_
    · simp only [push_cast, seval, ↓reduceIte, cast_lit, hN0, hN]
    refine ren_fit (k := 1) (k' := 2) hU [0] [0, 0] rfl rfl rfl rfl ⟨rfl, rfl⟩ ?_
    simp only [push_cast, seval, ↓reduceIte, cast_lit, hN0, hN]
    rfl
  obtain ⟨z5, hz5, h⟩ := bC h
  refine W_blockX (E' := ⟨113, [], [(0, .sl a0.length (fl (eL (eI .u64)) a0)), (1, .val (.int .i64 a1)), (2, .val (.int .i64 a2)), (3, .val (.int .i64 a3)), (9, .row n z5.length)]⟩) (O' := (Loc O n [some ⟨true, 40, 1, z5.length, fl eM (mx (n + 1) a1 z5)⟩, rB a1 z5])) (n0 := (n + 2)) ?_ ?_
  · refine W_loopJ hz5 (fun s0_ => ⟨113, [], [(0, .sl a0.length (fl (eL (eI .u64)) a0)), (1, .val (.int .i64 a1)), (2, .val (.int .i64 a2)), (3, .val (.int .i64 a3)), (9, .row n s0_.2.length), (10, .val (.int .i64 s0_.1))]⟩) (fun s0_ => (Loc O n [some ⟨true, 40, 1, s0_.2.length, fl eM (mx (n + 1) a1 s0_.2)⟩, rB a1 s0_.2])) (fun z5 => JX 0 n (⟨113, [], [(0, .sl a0.length (fl (eL (eI .u64)) a0)), (1, .val (.int .i64 a1)), (2, .val (.int .i64 a2)), (3, .val (.int .i64 a3)), (9, .row n z5.length)]⟩ : Env) (Loc O n [some ⟨true, 40, 1, z5.length, fl eM (mx (n + 1) a1 z5)⟩, rB a1 z5]) (n + 2)) ?_
    intro s0_ x0_ hs0_
    unfold m_centolaw05_ArenaOf_L0 at hs0_
    try dsimp only
    refine W_seqK ?_
    refine W_sq [0, 1, 2, 3, 9, 10, 21] (W_regionD tab_ok [] ?_)
    simp only [push_cast, seval, ↓reduceIte, cast_lit, hN0, hN]
    refine W_cond (t := (decide (s0_.1 < (a0.length : Int)))) rfl (fun c4 => ?_) (fun c4 => ?_)
    · replace hs0_ := condT c4 hs0_
      refine W_skip ?_
      try simp only [gthen, gblock]
      refine W_drop [0, 1, 2, 3, 9, 10] [true, true] ?_
      simp only [push_cast, seval, ↓reduceIte]
      refine W_seqK ?_
      refine W_block ?_
      obtain ⟨x1, hx1, ax1, bx1, cx1, hs0_⟩ := bE (f := (eL (eI .u64))) tab40 (fun _ => rfl) (by decide) hs0_
      obtain ⟨l2, pl2, ql2, el2, hs0_⟩ := bA (k := x1.length) rfl hs0_
      simp only [List.length_cons, List.length_nil, Nat.zero_add, Nat.reduceAdd] at pl2 ql2
      obtain ⟨l3, pl3, ql3, el3, hs0_⟩ := bA (k := 1) rfl hs0_
      refine W_regionD tab_ok [] ?_
      simp only [push_cast, Nat.reduceAdd, Nat.reduceSub, Nat.reduceMul, Nat.reduceLeDiff, Nat.reduceLT, Nat.reduceEqDiff, ↓reduceIte, reduceCtorEq, Int.reduceBEq, Int.reduceBNe, Nat.reduceBEq, Int.reduceLE, Int.reduceLT, Int.reduceEq, Int.reduceNe, Int.reduceNeg, Nat.reduceDiv, Nat.reduceMod, Nat.reducePow, cast_lit, hN0, hN, ax1, bx1, cx1, pl2, ql2, pl3, ql3]
      obtain rfl : l2 = x1 := by rw [el2]; rfl
      subst el3
      refine W_fit2 (E' := ⟨113, [], [(0, .sl a0.length (fl (eL (eI .u64)) a0)), (1, .val (.int .i64 a1)), (2, .val (.int .i64 a2)), (3, .val (.int .i64 a3)), (9, .row n (s0_.2 ++ [l2]).length), (10, .val (.int .i64 s0_.1))]⟩) (O' := (Loc O n [some ⟨true, 40, 1, (s0_.2 ++ [l2]).length, fl eM (mx (n + 1) a1 (s0_.2 ++ [l2]))⟩, rB a1 (s0_.2 ++ [l2])])) (n' := n + 2) ?_ ?_
      · by_cases hB : (s0_.2.length : Int) = a1
        · have hmx := mx_snoc (n + 1) a1 s0_.2 l2
          rw [if_pos hB] at hmx
          have hr1 : rB a1 (s0_.2 ++ [l2]) = some ⟨true, 27, 1, l2.length, fl (eI .u64) l2⟩ := rB_at (by unfold getI; rw [if_pos (by omega), List.getElem?_append_right (by omega), show a1.toNat - s0_.2.length = 0 by omega]; rfl)
          have hlen : (s0_.2 ++ [l2]).length = s0_.2.length + 1 := by simp
          rw [hmx, fl_eM_snoc, hr1, rB_new hB, hlen]
          obtain ⟨D, hD⟩ : ∃ D, D = fl eM (mx (n + 1) a1 s0_.2) ++ [.row (n + 2) l2.length] := ⟨_, rfl⟩
          have hD1 : G.unders (n + 3) D = true := by
            rw [hD]; exact unders_app _ _ (und_eM _ fun x hx v hv => by have := (mx_mem hx hv).1; omega) (by simp [G.unders, G.under])
          have hD2 : ∀ Z Z', wkl Z Z' (n + 4) D D = True := fun Z Z' => eq_true (wkl_refl _ (unders_mono (Nat.le_succ _) _ hD1))
          have hD3 : ∀ ρ : Nat → Nat, G.rens ρ D = fl eM (mx (n + 1) a1 s0_.2) ++ [.row (ρ (n + 2)) l2.length] := fun ρ => by
            have happ : ∀ a b : List G, G.rens ρ (a ++ b) = G.rens ρ a ++ G.rens ρ b := fun a b => by
              induction a with
              | nil => rfl
              | cons x a ih => simp only [List.cons_append, G.rens, ih]
            rw [hD, happ, rens_mx hB]; rfl
          have hD4 : fl eM (mx (n + 1) a1 s0_.2) ++ [eM1 (some (n + 1), l2)] = fl eM (mx (n + 1) a1 s0_.2) ++ [.row (n + 1) l2.length] := rfl
          rw [← hD, hD4]
          have hwN : ∀ Z Z', wkl Z Z' (n + 2) (fl eM (mx (n + 1) a1 s0_.2) ++ [.row (n + 1) l2.length]) (fl eM (mx (n + 1) a1 s0_.2) ++ [.row (n + 1) l2.length]) = True := fun Z Z' =>
            eq_true (wkl_refl _ (unders_app _ _ (und_eM _ fun x hx v hv => by have := (mx_mem hx hv).1; omega) (by simp [G.unders, G.under])))
          refine Fit2.trans (E' := ⟨113, [], [(0, .sl a0.length (fl (eL (eI .u64)) a0)), (1, .val (.int .i64 a1)), (2, .val (.int .i64 a2)), (3, .val (.int .i64 a3)), (9, .row n (s0_.2.length + 1)), (10, .val (.int .i64 s0_.1))]⟩) (O' := (Loc O n [some ⟨true, 40, 1, s0_.2.length + 1, D⟩, none, some ⟨true, 27, 1, l2.length, fl (eI .u64) l2⟩, none])) (n' := n + 4) (Fit2.of (fit_loc hU rfl rfl ?_) (by omega)) ?_
          · simp only [push_cast, seval, ↓reduceIte, cast_lit, hN0, hN, hD2]
          refine Fit2.trans (E' := ⟨113, [], [(0, .sl a0.length (fl (eL (eI .u64)) a0)), (1, .val (.int .i64 a1)), (2, .val (.int .i64 a2)), (3, .val (.int .i64 a3)), (9, .row n (s0_.2.length + 1)), (10, .val (.int .i64 s0_.1))]⟩) (O' := (Loc O n [some ⟨true, 40, 1, s0_.2.length + 1, fl eM (mx (n + 1) a1 s0_.2) ++ [.row (n + 1) l2.length]⟩, some ⟨true, 27, 1, l2.length, fl (eI .u64) l2⟩, none, none])) (n' := n + 4) (ren_fit (k := 4) (k' := 4) hU [0, 2, 1, 3] [0, 2, 1, 3] rfl rfl rfl rfl ⟨rfl, rfl⟩ ?_) (Fit2.of (fit_loc hU rfl rfl ?_) (by omega))
          · simp only [push_cast, seval, ↓reduceIte, cast_lit, hN0, hN, hD3]
          · simp only [push_cast, seval, ↓reduceIte, cast_lit, hN0, hN, hwN]
        · have hmx := mx_snoc (n + 1) a1 s0_.2 l2
          rw [if_neg hB] at hmx
          have hlen : (s0_.2 ++ [l2]).length = s0_.2.length + 1 := by simp
          rw [hmx, fl_eM_snoc, rB_snoc l2 hB, hlen]
          obtain ⟨D, hD⟩ : ∃ D, D = fl eM (mx (n + 1) a1 s0_.2) ++ [.row (n + 2) l2.length] := ⟨_, rfl⟩
          obtain ⟨D', hD'⟩ : ∃ D', D' = fl eM (mx (n + 1) a1 s0_.2) ++ [eM1 (none, l2)] := ⟨_, rfl⟩
          have hDw : ∀ (Z Z' : Objs), Z' (n + 2) = none → Z (n + 2) = some ⟨true, 27, 1, l2.length, fl (eI .u64) l2⟩ → wkl Z Z' (n + 2) D D' := fun Z Z' z1 z2 => by
            rw [hD, hD']
            refine wkl_app _ _ _ _ (wkl_refl _ (und_eM _ fun x hx v hv => by have := (mx_mem hx hv).1; omega)) ?_
            unfold wkl
            refine ⟨_, _, rfl, ?_, by simp [wkl]⟩
            show wk Z Z' (n + 2) (.row (n + 2) l2.length) (.sl l2.length (fl (eI .u64) l2))
            unfold wk
            exact ⟨rfl, z1, _, z2, rfl, rfl, wkl_eI_u64 _⟩
          rw [← hD, ← hD']
          refine (Fit2.of (fit_loc hU rfl rfl ?_) (by omega))
          rcases rB_cases a1 s0_.2 with hb | ⟨xb, hb⟩
          · simp only [push_cast, seval, ↓reduceIte, cast_lit, hN0, hN, hb]
            exact hDw _ _ (by rw [Loc_at]; rfl) (by rw [Loc_at]; rfl)
          · simp only [push_cast, seval, ↓reduceIte, cast_lit, hN0, hN, hb]
            exact hDw _ _ (by rw [Loc_at]; rfl) (by rw [Loc_at]; rfl)
      refine W_regionD tab_ok [] ?_
      simp only [push_cast, seval, ↓reduceIte, cast_lit, hN0, hN]
      have hs0_ := Option.some.inj hs0_; subst hs0_
      refine And.intro rfl (Fit2.of (fit_loc hU rfl rfl ?_) (by omega))
      rcases rB_cases a1 (s0_.2 ++ [l2]) with hb | ⟨xb, hb⟩ <;> simp only [push_cast, seval, ↓reduceIte, cast_lit, hN0, hN, hw2, hb]
    · replace hs0_ := condF c4 hs0_
      refine W_exit ?_
      try simp only [gthen, gblock, ↓reduceIte, Nat.reduceEqDiff]
      have hs0_ := Option.some.inj hs0_; subst hs0_
      refine And.intro (fun h => by cases h) (And.intro rfl (Fit2.of (fit_loc hU rfl rfl ?_) (by omega)))
      rcases rB_cases a1 s0_.2 with hb | ⟨xb, hb⟩ <;> simp only [push_cast, seval, ↓reduceIte, cast_lit, hN0, hN, hw2, hb]
  try simp only [gthen, gblock, ↓reduceIte, Nat.reduceEqDiff]
  refine W_drop [0, 1, 2, 3, 9] [true, true] ?_
  simp only [push_cast, seval, ↓reduceIte]
  refine W_seqK ?_
  obtain ⟨y7, hy7, h⟩ := bC h
  refine W_regionD tab_ok [] ?_
  simp only [push_cast, seval, ↓reduceIte, cast_lit, hN0, hN]
  have hg := of_mixed (O := Loc O n [some ⟨true, 40, 1, z5.length, fl eM (mx (n + 1) a1 z5)⟩, rB a1 z5]) (n := n + 2) (j := n) (L := mx (n + 1) a1 z5) (by omega) (by rw [Loc_at0, mx_len]; rfl) (fun x hx v hv => by
    obtain ⟨rfl, h2⟩ := mx_mem hx hv
    exact ⟨by omega, by rw [Loc_at]; exact h2⟩) (by rw [mx_map]; exact hy7)
  simp only [mx_len] at hg
  refine hg.then ?_
  simp only [push_cast, seval, ↓reduceIte, cast_lit, hN0, hN]
  refine W_drop [0, 1, 2, 3, 9, 11] [true, true, true, true] ?_
  simp only [push_cast, seval, ↓reduceIte]
  obtain ⟨z8, hz8, h⟩ := bC h
  refine W_seqN (E' := ⟨113, [], [(0, .sl a0.length (fl (eL (eI .u64)) a0)), (1, .val (.int .i64 a1)), (3, .val (.int .i64 a3)), (11, .ref (n + 2) 0)]⟩) (O' := (Loc O n [none, none, some ⟨false, 59, 3, 1, [.row (n + 3) y7.segments.length, .val (.int .i64 y7.size), .val (.int .i64 y7.left)]⟩, some ⟨true, 40, 1, y7.segments.length, fl (eL (eI .u64)) y7.segments⟩])) (n0 := (n + 4)) ?_ ?_
  · obtain ⟨z10, hz10, hz8⟩ := bC hz8
    refine W_seqN (E' := ⟨113, [], [(0, .sl a0.length (fl (eL (eI .u64)) a0)), (1, .val (.int .i64 a1)), (2, .val (.int .i64 a2)), (3, .val (.int .i64 a3)), (9, .row n z5.length), (11, .ref (n + 2) 0), (55, .val (.bool z10))]⟩) (O' := (Loc O n [some ⟨true, 40, 1, z5.length, fl eM (mx (n + 1) a1 z5)⟩, rB a1 z5, some ⟨false, 59, 3, 1, [.row (n + 3) y7.segments.length, .val (.int .i64 y7.size), .val (.int .i64 y7.left)]⟩, some ⟨true, 40, 1, y7.segments.length, fl (eL (eI .u64)) y7.segments⟩])) (n0 := (n + 4)) ?_ ?_
    · rcases Bool.eq_false_or_eq_true (decide (0 ≤ a1)) with c13 | c13
      · replace hz10 := condT c13 hz10
        rcases Bool.eq_false_or_eq_true (decide (a1 < (z5.length : Int))) with c14 | c14
        · replace hz10 := condT c14 hz10
          try rw [c14] at c13
          rcases Bool.eq_false_or_eq_true (decide (0 ≤ a2)) with c15 | c15
          · replace hz10 := condT c15 hz10
            try rw [c15] at c13
            try rw [c15] at c14
            obtain ⟨x12, hx12, hz10⟩ := bC hz10
            obtain ⟨q, hq, ax12, bx12, cx12, _⟩ := bE (f := eM) (K := fun y => some y) (r := (some (n + 1), x12)) tab40 (fun _ => rfl) (by decide) (by rw [mx_get (B := n + 1) hx12]; rfl)
            obtain rfl : q = (some (n + 1), x12) := Option.some.inj (hq.symm.trans (mx_get hx12))
            rw [mx_len] at bx12
            have hE12 : (eM (some (n + 1), x12))[0]? = some (.row (n + 1) x12.length) := rfl
            have hlr : ∀ Z i k, lenOk Z (.row i k) = True := fun Z i k => by simp [lenOk]
            refine W_regionD tab_ok [none, none, none, none, none, none, some true, some true, some true, some true, some true, some true, some true] ?_
            simp only [push_cast, Nat.reduceAdd, Nat.reduceSub, Nat.reduceMul, Nat.reduceLeDiff, Nat.reduceLT, Nat.reduceEqDiff, ↓reduceIte, reduceCtorEq, Int.reduceBEq, Int.reduceBNe, Nat.reduceBEq, Int.reduceLE, Int.reduceLT, Int.reduceEq, Int.reduceNe, Int.reduceNeg, Nat.reduceDiv, Nat.reduceMod, Nat.reducePow, cast_lit, hN0, hN, c13, c14, c15, ax12, bx12, cx12, hE12, len_eM, one_eM, mx_len, hlr]
            repeat (with_reducible refine And.intro (by first | (intro h0; simp only [h0, and_self]; done) | (intro h0; simp only [h0, Bool.not_false, Bool.not_true, Bool.true_and, Bool.and_true, true_and, and_true, and_self, imp_self, implies_true, bne_iff_ne, ne_eq, beq_iff_eq]; done) | (intros; simp_all; done) | exact True.intro) ?_)
            have hz10 := Option.some.inj hz10; subst hz10
            refine And.intro rfl (Fit2.of (fit_loc hU rfl rfl ?_) (by omega))
            rcases rB_cases a1 z5 with hb | ⟨xb, hb⟩ <;> simp only [push_cast, seval, ↓reduceIte, cast_lit, hN0, hN, c13, c14, c15, hw4, hb]
          · replace hz10 := condF c15 hz10
            try rw [c15] at c13
            try rw [c15] at c14
            refine W_regionD tab_ok [none, none, none, none, none, none, some false, some false, some false, some false, some false, some false, some false] ?_
            simp only [push_cast, seval, ↓reduceIte, cast_lit, hN0, hN, c13, c14, c15]
            repeat (with_reducible refine And.intro (by first | (intro h0; simp only [h0, and_self]; done) | (intro h0; simp only [h0, Bool.not_false, Bool.not_true, Bool.true_and, Bool.and_true, true_and, and_true, and_self, imp_self, implies_true, bne_iff_ne, ne_eq, beq_iff_eq]; done) | (intros; simp_all; done) | exact True.intro) ?_)
            have hz10 := Option.some.inj hz10; subst hz10
            refine And.intro rfl (Fit2.of (fit_loc hU rfl rfl ?_) (by omega))
            rcases rB_cases a1 z5 with hb | ⟨xb, hb⟩ <;> simp only [push_cast, seval, ↓reduceIte, cast_lit, hN0, hN, c13, c14, c15, hw4, hb]
        · replace hz10 := condF c14 hz10
          try rw [c14] at c13
          refine W_regionD tab_ok [none, none, none, none, none, none, some false, some false, some false, some false, some false, some false, some false] ?_
          simp only [push_cast, seval, ↓reduceIte, cast_lit, hN0, hN, c13, c14]
          repeat (with_reducible refine And.intro (by first | (intro h0; simp only [h0, and_self]; done) | (intro h0; simp only [h0, Bool.not_false, Bool.not_true, Bool.true_and, Bool.and_true, true_and, and_true, and_self, imp_self, implies_true, bne_iff_ne, ne_eq, beq_iff_eq]; done) | (intros; simp_all; done) | exact True.intro) ?_)
          have hz10 := Option.some.inj hz10; subst hz10
          refine And.intro rfl (Fit2.of (fit_loc hU rfl rfl ?_) (by omega))
          rcases rB_cases a1 z5 with hb | ⟨xb, hb⟩ <;> simp only [push_cast, seval, ↓reduceIte, cast_lit, hN0, hN, c13, c14, hw4, hb]
      · replace hz10 := condF c13 hz10
        refine W_regionD tab_ok [none, none, none, none, none, none, some false, some false, some false, some false, some false, some false, some false] ?_
        simp only [push_cast, seval, ↓reduceIte, cast_lit, hN0, hN, c13]
        repeat (with_reducible refine And.intro (by first | (intro h0; simp only [h0, and_self]; done) | (intro h0; simp only [h0, Bool.not_false, Bool.not_true, Bool.true_and, Bool.and_true, true_and, and_true, and_self, imp_self, implies_true, bne_iff_ne, ne_eq, beq_iff_eq]; done) | (intros; simp_all; done) | exact True.intro) ?_)
        have hz10 := Option.some.inj hz10; subst hz10
        refine And.intro rfl (Fit2.of (fit_loc hU rfl rfl ?_) (by omega))
        rcases rB_cases a1 z5 with hb | ⟨xb, hb⟩ <;> simp only [push_cast, seval, ↓reduceIte, cast_lit, hN0, hN, c13, hw4, hb]
    refine W_cond (t := z10) rfl (fun c19 => ?_) (fun c19 => ?_)
    · replace hz8 := condT c19 hz8
      obtain ⟨x16, hx16, hz8⟩ := bC hz8
      obtain ⟨q, hq, ax16, bx16, cx16, _⟩ := bE (f := eM) (K := fun y => some y) (r := (some (n + 1), x16)) tab40 (fun _ => rfl) (by decide) (by rw [mx_get (B := n + 1) hx16]; rfl)
      obtain rfl : q = (some (n + 1), x16) := Option.some.inj (hq.symm.trans (mx_get hx16))
      rw [mx_len] at bx16
      have hE16 : (eM (some (n + 1), x16))[0]? = some (.row (n + 1) x16.length) := rfl
      obtain ⟨x18, hx18, ax18, bx18, cx18, hz8⟩ := bE (f := (eI .u64)) tab27 (fun _ => rfl) (by decide) hz8
      have gu : gplace (fl (eI .u64) x16) [.val (.int .u64 (IntKind.u64.wrap (x18 + 1)))] (Int.toNat a2 * 1) = some (fl (eI .u64) (setI x16 a2 (IntKind.u64.wrap (x18 + 1)))) := gplace_el (f := (eI .u64)) (ti := ⟨.bool, 1, 0, [], false⟩) (x := IntKind.u64.wrap (x18 + 1)) (fun _ => rfl) (getI_nat hx18)
      rw [rB_at hx16]
      refine W_drawF tab_ok (by kernel_rfl) [false, false, false, false, false, false, false, false, false, false, false, false, false, false, true] [] (by kernel_rfl) ?_
      simp only [push_cast, Nat.reduceAdd, Nat.reduceSub, Nat.reduceMul, Nat.reduceLeDiff, Nat.reduceLT, Nat.reduceEqDiff, ↓reduceIte, reduceCtorEq, Int.reduceBEq, Int.reduceBNe, Nat.reduceBEq, Int.reduceLE, Int.reduceLT, Int.reduceEq, Int.reduceNe, Int.reduceNeg, Nat.reduceDiv, Nat.reduceMod, Nat.reducePow, cast_lit, hN0, hN, ax16, bx16, cx16, hE16, ax18, bx18, cx18, len_eM, one_eM, mx_len, gu]
      have hz8 := Option.some.inj hz8; subst hz8
      refine And.intro rfl (Fit2.of (fit_loc hU rfl rfl ?_) (by omega))
      simp only [push_cast, seval, ↓reduceIte, cast_lit, hN0, hN]
    · replace hz8 := condF c19 hz8
      refine W_skip ?_
      try simp only [gthen, gblock]
      have hz8 := Option.some.inj hz8; subst hz8
      refine And.intro rfl (Fit2.of (fit_loc hU rfl rfl ?_) (by omega))
      simp only [push_cast, seval, ↓reduceIte, cast_lit, hN0, hN]
  refine W_seqK ?_
  obtain ⟨y20, hy20, h⟩ := bC h
  obtain ⟨y21, hy21, h⟩ := bC h
  refine W_regionD tab_ok [] ?_
  simp only [push_cast, seval, ↓reduceIte, cast_lit, hN0, hN]
  have hg := segs_own (O := Loc O n [none, none, some ⟨false, 59, 3, 1, [.row (n + 3) y7.segments.length, .val (.int .i64 y7.size), .val (.int .i64 y7.left)]⟩, some ⟨true, 40, 1, y7.segments.length, fl (eL (eI .u64)) y7.segments⟩]) (n := n + 4) (i := n + 2) (j := n + 3) (L := y7.segments.map fun s => (none, s)) (size := y7.size) (left := y7.left) (by omega) (by rw [Loc_at, List.length_map]; rfl) (by omega) (by rw [Loc_at, List.length_map, eM_none]; rfl) (fun x hx v hv => by
    obtain ⟨s, _, rfl⟩ := List.mem_map.1 hx
    cases hv) (by rw [map_none]; exact hy20)
  refine hg.then ?_
  simp only [push_cast, seval, ↓reduceIte, cast_lit, hN0, hN]
  refine (ok_centoref03_Same hy21).then ?_
  simp only [push_cast, seval, ↓reduceIte, cast_lit, hN0, hN]

  refine W_drop [1, 3, 11, 12] [false, false, true, true] ?_
  simp only [push_cast, seval, ↓reduceIte]
  refine W_seqK ?_
  obtain ⟨y23, hy23, h⟩ := bC h
  refine W_regionD tab_ok [] ?_
  simp only [push_cast, seval, ↓reduceIte, cast_lit, hN0, hN]
  refine (ok_arena_Arena_Give (i0 := (n + 2)) (j0_0 := (n + 3)) (by omega) (by omega) (by omega) (by simp only [push_cast, seval, ↓reduceIte, cast_lit, fl_nil, hN0, hN] <;> rfl) (by simp only [push_cast, seval, ↓reduceIte, cast_lit, fl_nil, hN0, hN] <;> rfl) hy23).then ?_
  simp only [push_cast, seval, ↓reduceIte, cast_lit, hN0, hN]
  refine W_drop [1, 3, 11, 12, 15] [false, false, true, false, true] ?_
  simp only [push_cast, seval, ↓reduceIte]
  refine W_seqK ?_
  obtain ⟨y25, hy25, h⟩ := bC h
  refine W_regionD tab_ok [] ?_
  simp only [push_cast, seval, ↓reduceIte, cast_lit, hN0, hN]
  refine (ok_arena_Arena_In (i0 := (n + 2)) (j0_0 := (n + 4)) (by omega) (by omega) (by omega) (by simp only [push_cast, seval, ↓reduceIte, cast_lit, fl_nil, hN0, hN] <;> rfl) (by simp only [push_cast, seval, ↓reduceIte, cast_lit, fl_nil, hN0, hN] <;> rfl) hy25).then ?_
  simp only [push_cast, seval, ↓reduceIte, cast_lit, hN0, hN]
  refine W_drop [3, 11, 12, 15, 17] [false, false, true, false, false, true] ?_
  simp only [push_cast, seval, ↓reduceIte]
  obtain ⟨z31, hz31, h⟩ := bC h
  refine W_seqN (E' := ⟨113, [], [(8, .val (.bool z31))]⟩) (O' := (Loc O n [none, none, none, none, none, none])) (n0 := (n + 6)) ?_ ?_
  · rcases Bool.eq_false_or_eq_true y21 with c42 | c42
    · replace hz31 := condT c42 hz31
      obtain ⟨y37, hy37, hz31⟩ := bC hz31
      rcases Bool.eq_false_or_eq_true (y37 == 0) with c43 | c43
      · replace hz31 := condT c43 hz31
        try rw [c43] at c42
        rcases Bool.eq_false_or_eq_true y23.2.2.1 with c44 | c44
        · replace hz31 := condT c44 hz31
          try rw [c44] at c42
          try rw [c44] at c43
          rcases Bool.eq_false_or_eq_true (a3 == 0) with c45 | c45
          · replace hz31 := condT c45 hz31
            try rw [c45] at c42
            try rw [c45] at c43
            try rw [c45] at c44
            rcases Bool.eq_false_or_eq_true y25.2.1 with c46 | c46
            · replace hz31 := condT c46 hz31
              try rw [c46] at c42
              try rw [c46] at c43
              try rw [c46] at c44
              try rw [c46] at c45
              obtain ⟨y38, hy38, hz31⟩ := bC hz31
              refine W_regionD tab_ok [some true, some true, some true, none, none, none, none, none, none, none, none, none, none, none, none, some true] ?_
              simp only [push_cast, seval, ↓reduceIte, cast_lit, c42, c43, c44, c45, c46, hN0, hN]
              repeat (with_reducible refine And.intro (by first | (intro h0; simp only [h0, and_self]; done) | (intro h0; simp only [h0, Bool.not_false, Bool.not_true, Bool.true_and, Bool.and_true, true_and, and_true, and_self, imp_self, implies_true, bne_iff_ne, ne_eq, beq_iff_eq]; done) | (intros; simp_all; done) | exact True.intro) ?_)
              refine GCalls.lend (ok_arena_Arena_Left hy37) rfl ?_ ?_
              · simp only [push_cast, seval, ↓reduceIte, cast_lit, c42, c43, c44, c45, c46, hN0, hN]
              simp only [push_cast, seval, ↓reduceIte, cast_lit, c42, c43, c44, c45, c46, hN0, hN]
              repeat (with_reducible refine And.intro (by first | (intro h0; simp only [h0, and_self]; done) | (intro h0; simp only [h0, Bool.not_false, Bool.not_true, Bool.true_and, Bool.and_true, true_and, and_true, and_self, imp_self, implies_true, bne_iff_ne, ne_eq, beq_iff_eq]; done) | (intros; simp_all; done) | exact True.intro) ?_)
              refine (ok_centolaw05_awake hy38).then ?_
              simp only [push_cast, seval, ↓reduceIte, cast_lit, c42, c43, c44, c45, c46, hN0, hN]
              repeat (with_reducible refine And.intro (by first | (intro h0; simp only [h0, and_self]; done) | (intro h0; simp only [h0, Bool.not_false, Bool.not_true, Bool.true_and, Bool.and_true, true_and, and_true, and_self, imp_self, implies_true, bne_iff_ne, ne_eq, beq_iff_eq]; done) | (intros; simp_all; done) | exact True.intro) ?_)
              have hz31 := Option.some.inj hz31; subst hz31
              refine And.intro rfl (Fit2.of (fit_loc hU rfl rfl ?_) (by omega))
              simp only [push_cast, seval, ↓reduceIte, cast_lit, c42, c43, c44, c45, c46, hN0, hN]
            · replace hz31 := condF c46 hz31
              try rw [c46] at c42
              try rw [c46] at c43
              try rw [c46] at c44
              try rw [c46] at c45
              obtain ⟨y39, hy39, hz31⟩ := bC hz31
              refine W_regionD tab_ok [some true, some true, some true, none, none, none, none, none, none, none, none, none, none, none, none, some true] ?_
              simp only [push_cast, seval, ↓reduceIte, cast_lit, c42, c43, c44, c45, c46, hN0, hN]
              repeat (with_reducible refine And.intro (by first | (intro h0; simp only [h0, and_self]; done) | (intro h0; simp only [h0, Bool.not_false, Bool.not_true, Bool.true_and, Bool.and_true, true_and, and_true, and_self, imp_self, implies_true, bne_iff_ne, ne_eq, beq_iff_eq]; done) | (intros; simp_all; done) | exact True.intro) ?_)
              refine GCalls.lend (ok_arena_Arena_Left hy37) rfl ?_ ?_
              · simp only [push_cast, seval, ↓reduceIte, cast_lit, c42, c43, c44, c45, c46, hN0, hN]
              simp only [push_cast, seval, ↓reduceIte, cast_lit, c42, c43, c44, c45, c46, hN0, hN]
              repeat (with_reducible refine And.intro (by first | (intro h0; simp only [h0, and_self]; done) | (intro h0; simp only [h0, Bool.not_false, Bool.not_true, Bool.true_and, Bool.and_true, true_and, and_true, and_self, imp_self, implies_true, bne_iff_ne, ne_eq, beq_iff_eq]; done) | (intros; simp_all; done) | exact True.intro) ?_)
              refine (ok_centolaw05_awake hy39).then ?_
              simp only [push_cast, seval, ↓reduceIte, cast_lit, c42, c43, c44, c45, c46, hN0, hN]
              repeat (with_reducible refine And.intro (by first | (intro h0; simp only [h0, and_self]; done) | (intro h0; simp only [h0, Bool.not_false, Bool.not_true, Bool.true_and, Bool.and_true, true_and, and_true, and_self, imp_self, implies_true, bne_iff_ne, ne_eq, beq_iff_eq]; done) | (intros; simp_all; done) | exact True.intro) ?_)
              have hz31 := Option.some.inj hz31; subst hz31
              refine And.intro rfl (Fit2.of (fit_loc hU rfl rfl ?_) (by omega))
              simp only [push_cast, seval, ↓reduceIte, cast_lit, c42, c43, c44, c45, c46, hN0, hN]
          · replace hz31 := condF c45 hz31
            try rw [c45] at c42
            try rw [c45] at c43
            try rw [c45] at c44
            refine W_regionD tab_ok [some true, some true, some true, none, none, none, none, none, none, none, none, none, none, none, none, some false] ?_
            simp only [push_cast, seval, ↓reduceIte, cast_lit, c42, c43, c44, c45, hN0, hN]
            repeat (with_reducible refine And.intro (by first | (intro h0; simp only [h0, and_self]; done) | (intro h0; simp only [h0, Bool.not_false, Bool.not_true, Bool.true_and, Bool.and_true, true_and, and_true, and_self, imp_self, implies_true, bne_iff_ne, ne_eq, beq_iff_eq]; done) | (intros; simp_all; done) | exact True.intro) ?_)
            refine GCalls.lend (ok_arena_Arena_Left hy37) rfl ?_ ?_
            · simp only [push_cast, seval, ↓reduceIte, cast_lit, c42, c43, c44, c45, hN0, hN]
            simp only [push_cast, seval, ↓reduceIte, cast_lit, c42, c43, c44, c45, hN0, hN]
            repeat (with_reducible refine And.intro (by first | (intro h0; simp only [h0, and_self]; done) | (intro h0; simp only [h0, Bool.not_false, Bool.not_true, Bool.true_and, Bool.and_true, true_and, and_true, and_self, imp_self, implies_true, bne_iff_ne, ne_eq, beq_iff_eq]; done) | (intros; simp_all; done) | exact True.intro) ?_)
            have hz31 := Option.some.inj hz31; subst hz31
            refine And.intro rfl (Fit2.of (fit_loc hU rfl rfl ?_) (by omega))
            simp only [push_cast, seval, ↓reduceIte, cast_lit, c42, c43, c44, c45, hN0, hN]
        · replace hz31 := condF c44 hz31
          try rw [c44] at c42
          try rw [c44] at c43
          rcases Bool.eq_false_or_eq_true y25.2.1 with c47 | c47
          · replace hz31 := condT c47 hz31
            try rw [c47] at c42
            try rw [c47] at c43
            try rw [c47] at c44
            rcases Bool.eq_false_or_eq_true (a3 == 0) with c48 | c48
            · replace hz31 := condT c48 hz31
              try rw [c48] at c42
              try rw [c48] at c43
              try rw [c48] at c44
              try rw [c48] at c47
              obtain ⟨y40, hy40, hz31⟩ := bC hz31
              refine W_regionD tab_ok [some true, some true, some true, none, none, none, none, none, none, none, none, none, none, none, none, some true] ?_
              simp only [push_cast, seval, ↓reduceIte, cast_lit, c42, c43, c44, c47, c48, hN0, hN]
              repeat (with_reducible refine And.intro (by first | (intro h0; simp only [h0, and_self]; done) | (intro h0; simp only [h0, Bool.not_false, Bool.not_true, Bool.true_and, Bool.and_true, true_and, and_true, and_self, imp_self, implies_true, bne_iff_ne, ne_eq, beq_iff_eq]; done) | (intros; simp_all; done) | exact True.intro) ?_)
              refine GCalls.lend (ok_arena_Arena_Left hy37) rfl ?_ ?_
              · simp only [push_cast, seval, ↓reduceIte, cast_lit, c42, c43, c44, c47, c48, hN0, hN]
              simp only [push_cast, seval, ↓reduceIte, cast_lit, c42, c43, c44, c47, c48, hN0, hN]
              repeat (with_reducible refine And.intro (by first | (intro h0; simp only [h0, and_self]; done) | (intro h0; simp only [h0, Bool.not_false, Bool.not_true, Bool.true_and, Bool.and_true, true_and, and_true, and_self, imp_self, implies_true, bne_iff_ne, ne_eq, beq_iff_eq]; done) | (intros; simp_all; done) | exact True.intro) ?_)
              refine (ok_centolaw05_awake hy40).then ?_
              simp only [push_cast, seval, ↓reduceIte, cast_lit, c42, c43, c44, c47, c48, hN0, hN]
              repeat (with_reducible refine And.intro (by first | (intro h0; simp only [h0, and_self]; done) | (intro h0; simp only [h0, Bool.not_false, Bool.not_true, Bool.true_and, Bool.and_true, true_and, and_true, and_self, imp_self, implies_true, bne_iff_ne, ne_eq, beq_iff_eq]; done) | (intros; simp_all; done) | exact True.intro) ?_)
              have hz31 := Option.some.inj hz31; subst hz31
              refine And.intro rfl (Fit2.of (fit_loc hU rfl rfl ?_) (by omega))
              simp only [push_cast, seval, ↓reduceIte, cast_lit, c42, c43, c44, c47, c48, hN0, hN]
            · replace hz31 := condF c48 hz31
              try rw [c48] at c42
              try rw [c48] at c43
              try rw [c48] at c44
              try rw [c48] at c47
              refine W_regionD tab_ok [some true, some true, some true, none, none, none, none, none, none, none, none, none, none, none, none, some false] ?_
              simp only [push_cast, seval, ↓reduceIte, cast_lit, c42, c43, c44, c47, c48, hN0, hN]
              repeat (with_reducible refine And.intro (by first | (intro h0; simp only [h0, and_self]; done) | (intro h0; simp only [h0, Bool.not_false, Bool.not_true, Bool.true_and, Bool.and_true, true_and, and_true, and_self, imp_self, implies_true, bne_iff_ne, ne_eq, beq_iff_eq]; done) | (intros; simp_all; done) | exact True.intro) ?_)
              refine GCalls.lend (ok_arena_Arena_Left hy37) rfl ?_ ?_
              · simp only [push_cast, seval, ↓reduceIte, cast_lit, c42, c43, c44, c47, c48, hN0, hN]
              simp only [push_cast, seval, ↓reduceIte, cast_lit, c42, c43, c44, c47, c48, hN0, hN]
              repeat (with_reducible refine And.intro (by first | (intro h0; simp only [h0, and_self]; done) | (intro h0; simp only [h0, Bool.not_false, Bool.not_true, Bool.true_and, Bool.and_true, true_and, and_true, and_self, imp_self, implies_true, bne_iff_ne, ne_eq, beq_iff_eq]; done) | (intros; simp_all; done) | exact True.intro) ?_)
              have hz31 := Option.some.inj hz31; subst hz31
              refine And.intro rfl (Fit2.of (fit_loc hU rfl rfl ?_) (by omega))
              simp only [push_cast, seval, ↓reduceIte, cast_lit, c42, c43, c44, c47, c48, hN0, hN]
          · replace hz31 := condF c47 hz31
            try rw [c47] at c42
            try rw [c47] at c43
            try rw [c47] at c44
            obtain ⟨y41, hy41, hz31⟩ := bC hz31
            refine W_regionD tab_ok [some true, some true, some true, none, none, none, none, none, none, none, none, none, none, none, none, some true] ?_
            simp only [push_cast, seval, ↓reduceIte, cast_lit, c42, c43, c44, c47, hN0, hN]
            repeat (with_reducible refine And.intro (by first | (intro h0; simp only [h0, and_self]; done) | (intro h0; simp only [h0, Bool.not_false, Bool.not_true, Bool.true_and, Bool.and_true, true_and, and_true, and_self, imp_self, implies_true, bne_iff_ne, ne_eq, beq_iff_eq]; done) | (intros; simp_all; done) | exact True.intro) ?_)
            refine GCalls.lend (ok_arena_Arena_Left hy37) rfl ?_ ?_
            · simp only [push_cast, seval, ↓reduceIte, cast_lit, c42, c43, c44, c47, hN0, hN]
            simp only [push_cast, seval, ↓reduceIte, cast_lit, c42, c43, c44, c47, hN0, hN]
            repeat (with_reducible refine And.intro (by first | (intro h0; simp only [h0, and_self]; done) | (intro h0; simp only [h0, Bool.not_false, Bool.not_true, Bool.true_and, Bool.and_true, true_and, and_true, and_self, imp_self, implies_true, bne_iff_ne, ne_eq, beq_iff_eq]; done) | (intros; simp_all; done) | exact True.intro) ?_)
            refine (ok_centolaw05_awake hy41).then ?_
            simp only [push_cast, seval, ↓reduceIte, cast_lit, c42, c43, c44, c47, hN0, hN]
            repeat (with_reducible refine And.intro (by first | (intro h0; simp only [h0, and_self]; done) | (intro h0; simp only [h0, Bool.not_false, Bool.not_true, Bool.true_and, Bool.and_true, true_and, and_true, and_self, imp_self, implies_true, bne_iff_ne, ne_eq, beq_iff_eq]; done) | (intros; simp_all; done) | exact True.intro) ?_)
            have hz31 := Option.some.inj hz31; subst hz31
            refine And.intro rfl (Fit2.of (fit_loc hU rfl rfl ?_) (by omega))
            simp only [push_cast, seval, ↓reduceIte, cast_lit, c42, c43, c44, c47, hN0, hN]
      · replace hz31 := condF c43 hz31
        try rw [c43] at c42
        refine W_regionD tab_ok [some true, some true, some true, none, none, none, none, none, none, none, none, none, none, none, none, some false] ?_
        simp only [push_cast, seval, ↓reduceIte, cast_lit, c42, c43, hN0, hN]
        repeat (with_reducible refine And.intro (by first | (intro h0; simp only [h0, and_self]; done) | (intro h0; simp only [h0, Bool.not_false, Bool.not_true, Bool.true_and, Bool.and_true, true_and, and_true, and_self, imp_self, implies_true, bne_iff_ne, ne_eq, beq_iff_eq]; done) | (intros; simp_all; done) | exact True.intro) ?_)
        refine GCalls.lend (ok_arena_Arena_Left hy37) rfl ?_ ?_
        · simp only [push_cast, seval, ↓reduceIte, cast_lit, c42, c43, hN0, hN]
        simp only [push_cast, seval, ↓reduceIte, cast_lit, c42, c43, hN0, hN]
        repeat (with_reducible refine And.intro (by first | (intro h0; simp only [h0, and_self]; done) | (intro h0; simp only [h0, Bool.not_false, Bool.not_true, Bool.true_and, Bool.and_true, true_and, and_true, and_self, imp_self, implies_true, bne_iff_ne, ne_eq, beq_iff_eq]; done) | (intros; simp_all; done) | exact True.intro) ?_)
        have hz31 := Option.some.inj hz31; subst hz31
        refine And.intro rfl (Fit2.of (fit_loc hU rfl rfl ?_) (by omega))
        simp only [push_cast, seval, ↓reduceIte, cast_lit, c42, c43, hN0, hN]
    · replace hz31 := condF c42 hz31
      refine W_regionD tab_ok [some false, some false, some false, some false, some false, some false, some false, some false, some false, some false, some false, some false, some false, some false, some false, some false] ?_
      simp only [push_cast, seval, ↓reduceIte, cast_lit, c42, hN0, hN]
      have hz31 := Option.some.inj hz31; subst hz31
      refine And.intro rfl (Fit2.of (fit_loc hU rfl rfl ?_) (by omega))
      simp only [push_cast, seval, ↓reduceIte, cast_lit, c42, hN0, hN]
  refine W_ret ?_
  try simp only [gthen, gblock]
  have h := Option.some.inj h; subst h
  refine fin_loc (.inr rfl) hU [.val (.bool z31)] (by omega) ?_
  simp only [push_cast, seval, ↓reduceIte, cast_lit, Try.results5, hN0, hN]

end Go.Proofs.Ytpggbianhdebmaa
