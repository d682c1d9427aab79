/- Part KL: the law; each theorem bears its own conditions. -/
import Derived.Test.YtpggbianhdebmaaKB
namespace Go.Proofs.Ytpggbianhdebmaa
open Go.RowKit
set_option linter.unusedVariables false
set_option linter.unusedSimpArgs false
set_option maxRecDepth 100000
set_option maxHeartbeats 4000000
attribute [local push_cast] gfork_t gfork_f pfork_t pfork_f gthen gblock gops_nil gops_plain gops_guard onW gwantB gcalm gact gpick gpickV strip_any strip_val strip_agg strip_tup strip_sl strip_ip strip_row strip_rs strip_rp strip_rl strip_ref strip_fn strip_when evS wok calmOp Op.operands Call.operands gop onK onP atK List.all_cons List.all_nil Bool.and_true Bool.true_and Bool.and_self Value.oneCell' List.take_zero List.take_succ_cons List.take_nil List.drop_zero List.drop_succ_cons List.drop_nil List.append_nil Nat.add_zero Nat.zero_add gstep gputE ev look genv gbin_ii gbin_bb gbin_ss gbin_pp gbin_rp gbin_ip gbin_ll gbin_aa geqS geqF gint gunary gconvert gload gcells gpart_lit gstore cellsOf_agg cellsOf_val cellsOf_sl cellsOf_ip cellsOf_row cellsOf_rs cellsOf_rp cellsOf_rl cellsOf_ref cellsOf_fn cellsOf_any cellsOf_tup cellsOf_when cellsOf_gP gput gplace_lit gfieldAddr gstepIn gindexAddr gindex gfield gopt bLo bHi bMx gextract galloc gbox gbuild gfill gplaces gbuildSlice gmake glen gappend gappendN gsrc gbuiltin gnil live_any live_val live_agg live_tup live_sl live_ip live_fn live_when live_ref live_rs live_rp live_rl live_row len_any len_val len_agg len_tup len_sl len_ip len_fn len_row len_rl len_rs live_gP gres gone prun_nil prun_plain prun_guard pop TK.isAgg one_any one_val one_agg one_tup one_when one_sl one_ip one_row one_rs one_rp one_rl one_ref one_fn G.under G.unders List.getD_cons_zero List.getD_cons_succ List.set_cons_zero List.set_cons_succ List.map_cons List.map_nil List.toList_toArray Array.toList_append Option.toArray_none Option.toArray_some Array.toList_map Option.map_some Option.map_none Option.bind_some Option.bind_none List.getElem?_cons_zero List.getElem?_cons_succ List.getElem?_nil List.nil_append List.cons_append List.replicate_succ List.replicate_zero List.length_cons List.length_nil and_true true_and and_false false_and Bool.true_eq_false Bool.false_eq_true forall_const false_implies implies_true IntKind.bits if_true if_false ite_true ite_false eq_self true_implies false_or or_false or_true true_or not_true_eq_false not_false_eq_true decide_true decide_false decide_eq_true_eq decide_eq_false_iff_not beq_iff_eq bne_iff_ne ne_eq Bool.not_eq_true Bool.not_eq_false beq_eq_false_iff_ne bne_eq_false_iff_eq beq_self_eq_true bne_self_eq_false Option.some.injEq exists_eq_left' exists_eq_left ge_iff_le gt_iff_lt decide_not Bool.not_true Bool.not_false imp_self gquiet cond_true cond_false beqT beqF Bool.not_not Bool.and_false Bool.false_and Bool.or_true Bool.true_or Bool.or_false Bool.false_or Loc_at Loc_at0 Loc_upd Loc_upd0 Loc_push Loc_push0 Option.join_some Nat.add_assoc Int.toNat_natCast eI eB eS eL fl_nil gopsD_nil gopsD_plain gopsD_t gopsD_f gopsD_n onKD onWD prunD_nil prunD_plain prunD_t prunD_f prunD_n onPD fitO fitO1 sameO fitL fl_append fl_one List.length_append G.agg.injEq G.row.injEq G.ref.injEq G.val.injEq G.sl.injEq G.tup.injEq Value.int.injEq Value.bool.injEq Value.string.injEq List.cons.injEq exists_and_left exists_const List.flatten_cons List.flatten_nil Int.le_refl Nat.le_refl upd_updU Loc_out Loc_updo Bool.not_eq_true' Bool.not_eq_false' wkl_nil wkl_cons wk_any wk_val wk_agg wk_tup wk_sl wk_fn List.size_toArray renO renO1 G.ren G.rens renL rho_at rho_at0 gP_none gP_some strip_gP wok_gP one_gP G.fn.injEq wk_slnil wk_slrow wk_slrs wk_ip wk_ipref wk_row wk_rs wk_rp wk_rl wk_ref locLt0 locLt Option.join_none upd_same fl_cons undef keepL Arr.len Arr.put_eq prunB_nil prunB_bar prunB_bart prunB_plain prunB_t prunB_f prunB_n onB onBP gcopy setI_len cpyAt_len Loc_cat0 Loc_cat1 Loc_cat2 Loc_cat3 Loc_cat4 Loc_cat5 noObjs_at prunK_nil prunK_bar prunK_pass prunK_plain prunK_low prunK_pt prunK_pf prunK_lt prunK_lf onKg onKa onKp popL pickOps lows lowG prunK_shp prunK_fill popH shpOp fillOp fillG rho_low rens_app Loc_cat6 Loc_cat7 Loc_cat8 Loc_cat9 Loc_cat10 Loc_cat11 Loc_cat12 Loc_cat13 Loc_cat14 Loc_cat15 Loc_cat16 Loc_cat17 Loc_cat18 Loc_cat19 Loc_cat20 Loc_cat21 Loc_cat22 dropM prT kdOf tab2 tkind2 tab3 tkind3 tab4 tkind4 tab5 tkind5 tab6 tkind6 tab7 tkind7 tab8 tkind8 tab9 tkind9 tab10 tkind10 tab11 tkind11 tab12 tkind12 tab13 tkind13 tab14 tkind14 tab15 tkind15 tab16 tkind16 tab17 tkind17 tab18 tkind18 tab19 tkind19 tab21 tkind21 tab22 tkind22 tab23 tkind23 tab25 tkind25 tab27 tkind27 tab28 tkind28 tab29 tkind29 tab32 tkind32 tab33 tkind33 tab34 tkind34 tab40 tkind40 tab45 tkind45 tab46 tkind46 tab49 tkind49 tab58 tkind58 tab59 tkind59 tab69 tkind69 tab70 tkind70 tab74 tkind74 tab75 tkind75 tab76 tkind76 tab78 tkind78 tab79 tkind79 tab80 tkind80 e_S_arena_Arena wkl_eI_u64 wka_eI_u64 len_eI_u64 one_eI_u64 wkp_eI_u64 undp_eI_u64 rens_eI_u64 renp_eI_u64 und_eI_u64 wkl_eL_eI_u64 wka_eL_eI_u64 len_eL_eI_u64 one_eL_eI_u64 wkp_eL_eI_u64 undp_eL_eI_u64 rens_eL_eI_u64 renp_eL_eI_u64 und_eL_eI_u64 wkl_e_S_arena_Arena wka_e_S_arena_Arena len_e_S_arena_Arena one_e_S_arena_Arena wkp_e_S_arena_Arena undp_e_S_arena_Arena rens_e_S_arena_Arena renp_e_S_arena_Arena und_e_S_arena_Arena e_S_Three wkl_eI_i64 wka_eI_i64 len_eI_i64 one_eI_i64 wkp_eI_i64 undp_eI_i64 rens_eI_i64 renp_eI_i64 und_eI_i64 wkl_e_S_Three wka_e_S_Three len_e_S_Three one_e_S_Three wkp_e_S_Three undp_e_S_Three rens_e_S_Three renp_e_S_Three und_e_S_Three
theorem drop_fit {O Z : Objs} {n n1 : Nat} {E E' : Env} (hU : Und O n) (hZ : ∀ i, i < n → Z i = O i) (hn : E'.n = E.n) (h : fitL Z O n E.l E'.l) : Fit2 n E Z n1 E' O n :=
  Fit2.of ⟨hn, less_of hU (fun t o ht => by
    rcases Nat.lt_or_ge t n with h | h
    · rw [hZ t h]; exact ht
    · rw [hU.fresh t h] at ht; exact absurd ht (by simp)), h⟩ (Nat.le_refl _)
theorem W_undI {P : Program} {ba n : Nat} {c : Code} {Q : GQ} {E : Env} {O : Objs} (h : Und O n → W P ba c Q E O n) : W P ba c Q E O n := fun hb w m a hM hE => h ⟨hM.fresh, fun i o hi => by obtain ⟨vs, hv, _⟩ := hM.obj i o hi; exact unders_of _ _ hv⟩ hb w m a hM hE
theorem giveB {X : Objs} {N n : Nat} {segs : List (List Int)} (p : Nat) (z : List Int) (l : List (Option GObj)) (hN : N = n + 16) (hp : p < segs.length) (h16 : segs.length ≤ 16) : (Loc (XO X n segs) N l).upd (n + p) (some ⟨true, 27, 1, z.length, fl (eI .u64) z⟩) = Loc (XO X n (segs.set p z)) N l := by
  rw [Loc_updo _ _ (by omega), XO_set z hp h16]
theorem wk_deep {Z : Objs} : ∀ L : List NR, (∀ x ∈ L, Z x.1 = some ⟨true, 27, 1, x.2.length, fl (eI .u64) x.2⟩) → wkl Z noObjs 0 (fl eN L) (fl (eL (eI .u64)) (L.map (·.2)))
  | [], _ => by simp [fl, wkl]
  | x :: L, h => by
    show wkl Z noObjs 0 (.row x.1 x.2.length :: fl eN L) (.sl x.2.length (fl (eI .u64) x.2) :: fl (eL (eI .u64)) (L.map (·.2)))
    unfold wkl
    refine ⟨_, _, rfl, ?_, wk_deep L fun y hy => h y (List.mem_cons_of_mem _ hy)⟩
    unfold wk
    exact ⟨rfl, rfl, _, h x List.mem_cons_self, rfl, rfl, wkl_eI_u64 _⟩
theorem num_map (n : Nat) (segs : List (List Int)) : (num n segs).map (·.2) = segs := by
  apply List.ext_getElem?
  intro i
  rw [List.getElem?_map, num_at]
  cases segs[i]? <;> rfl
theorem lend_wk {Z : Objs} {n i j : Nat} {segs : List (List Int)} {size left : Int} (hi : Z i = some ⟨false, 59, 3, 1, [.row j segs.length, .val (.int .i64 size), .val (.int .i64 left)]⟩)
    (hj : Z j = some ⟨true, 40, 1, segs.length, fl eN (num n segs)⟩) (h : ∀ x ∈ num n segs, Z x.1 = some ⟨true, 27, 1, x.2.length, fl (eI .u64) x.2⟩) : wk Z noObjs 0 (.ref i 0) (gP e_S_arena_Arena (some ⟨segs, size, left⟩)) := by
  show wk Z noObjs 0 (.ref i 0) (.ip (e_S_arena_Arena ⟨segs, size, left⟩) 0)
  unfold wk
  refine ⟨rfl, rfl, _, hi, rfl, ?_⟩
  show wkl Z noObjs 0 _ [.sl segs.length (fl (eL (eI .u64)) segs), .val (.int .i64 size), .val (.int .i64 left)]
  unfold wkl
  refine ⟨_, _, rfl, ?_, wkl_pure rfl⟩
  unfold wk
  refine ⟨rfl, rfl, _, hj, rfl, rfl, ?_⟩
  have := wk_deep (num n segs) h
  rwa [num_map] at this
theorem XO_num {O : Objs} {n : Nat} {segs : List (List Int)} (h : segs.length ≤ 16) : ∀ x ∈ num n segs, XO O n segs x.1 = some ⟨true, 27, 1, x.2.length, fl (eI .u64) x.2⟩ := by
  intro x hx
  obtain ⟨p, hp⟩ := List.getElem?_of_mem hx
  rw [num_at] at hp
  cases e : segs[p]? with
  | none => rw [e] at hp; cases hp
  | some s =>
    rw [e] at hp
    obtain ⟨hl, _⟩ := List.getElem?_eq_some_iff.1 e
    have := Option.some.inj hp; subst this
    show XO O n segs (n + p) = _
    rw [XO_at p (by omega), e]; rfl
theorem giveM_cases {a : S_arena_Arena} {k : Int} {y : Int × Int × Bool × S_arena_Arena} (h : m_arena_Arena_Give a k = some y) : a.segments.length ≤ 16 ∧ (∀ s ∈ a.segments, s.length ≤ 900000) ∧ k ≤ 100000 ∧
    (((k < 0 ∨ a.left < k) ∧ y = (0, 0, false, a)) ∨
     (0 ≤ k ∧ k ≤ a.left ∧ (a.segments.length = 0 ∨ a.segments.length < 16 ∧ ¬ k ≤ IntKind.i64.wrap (a.size - ((lastS a.segments).length : Int))) ∧ y = ((a.segments.length : Int), 0, true, ⟨a.segments ++ [zl [] k], a.size, IntKind.i64.wrap (a.left - k)⟩)) ∨
     (0 ≤ k ∧ k ≤ a.left ∧ a.segments.length ≠ 0 ∧ (k ≤ IntKind.i64.wrap (a.size - ((lastS a.segments).length : Int)) ∨ 16 ≤ a.segments.length) ∧ y = ((a.segments.length : Int) - 1, ((lastS a.segments).length : Int), true, ⟨a.segments.set (a.segments.length - 1) (zl (lastS a.segments) k), a.size, IntKind.i64.wrap (a.left - k)⟩))) := by
  unfold m_arena_Arena_Give at h
  by_cases hg : a.segments.length ≤ 16 ∧ (∀ s ∈ a.segments, s.length ≤ 900000) ∧ k ≤ 100000
  · rw [if_pos hg] at h
    refine ⟨hg.1, hg.2.1, hg.2.2, ?_⟩
    have hy := (Option.some.inj h).symm
    unfold giveR at hy
    by_cases h1 : k < 0 ∨ a.left < k
    · rw [if_pos h1] at hy; exact .inl ⟨h1, hy⟩
    · rw [if_neg h1] at hy
      by_cases h2 : a.segments.length = 0 ∨ a.segments.length < 16 ∧ ¬ k ≤ IntKind.i64.wrap (a.size - ((lastS a.segments).length : Int))
      · rw [if_pos h2] at hy; exact .inr (.inl ⟨by omega, by omega, h2, hy⟩)
      · rw [if_neg h2] at hy
        refine .inr (.inr ⟨by omega, by omega, fun h => h2 (.inl h), ?_, hy⟩)
        by_cases h3 : k ≤ IntKind.i64.wrap (a.size - ((lastS a.segments).length : Int))
        · exact .inl h3
        · right
          by_cases h4 : a.segments.length < 16
          · exact absurd (.inr ⟨h4, h3⟩) h2
          · omega
  · rw [if_neg hg] at h; cases h
theorem giveM_len {a : S_arena_Arena} {k : Int} {y : Int × Int × Bool × S_arena_Arena} (h : m_arena_Arena_Give a k = some y) : y.2.2.2.segments.length ≤ 16 := by
  obtain ⟨g1, _, _, ⟨_, rfl⟩ | ⟨_, _, hk, rfl⟩ | ⟨_, _, _, _, rfl⟩⟩ := giveM_cases h
  · exact g1
  · show (a.segments ++ [zl [] k]).length ≤ 16
    rw [List.length_append, List.length_singleton]
    rcases hk with h | h
    · omega
    · have := h.1; omega
  · show (a.segments.set _ _).length ≤ 16
    rw [List.length_set]; exact g1
theorem last_at {segs : List (List Int)} (h : segs.length ≠ 0) : segs[segs.length - 1]? = some (lastS segs) := by
  unfold lastS
  cases e : segs[segs.length - 1]? with
  | none => rw [List.getElem?_eq_none_iff] at e; omega
  | some s => rfl
theorem ok_centolaw05_ArenaApart {a0 : Int} {a1 : Int} {a2 : (List Int)} {r : Bool} {O : Objs} {n : Nat} (h : m_centolaw05_ArenaApart a0 a1 a2 = some r) : GTo Try.prog 4 [.val (.int .i64 a0), .val (.int .i64 a1), .sl a2.length (fl (eI .i64) a2)] O n (.val (.bool r)) O n := by
  unfold m_centolaw05_ArenaApart at h
  refine fn_of tab_ok Try.call4 Try.func4 rfl (Nat.le_of_ble_eq_true rfl) (Nat.le_refl _) fun hU => ?_
  obtain ⟨N, hNn⟩ : ∃ N, N = n + 16 := ⟨_, rfl⟩
  have hX : ∀ segs, Und (XO O n segs) N := fun segs => by subst hNn; exact XO_und hU segs
  have hN0 : ∀ segs, XO O n segs N = none := fun segs => (hX segs).fresh _ (Nat.le_refl _)
  have hN : ∀ segs k, XO O n segs (N + k) = none := fun segs k => (hX segs).fresh _ (Nat.le_add_right _ _)
  have hlow : ∀ segs l i, i < n → Loc (XO O n segs) N l i = O i := fun segs l i hi => by rw [Loc_out _ (by omega), XO_lt hi]
  show W _ _ _ _ ⟨102, [], [(0, .val (.int .i64 a0)), (1, .val (.int .i64 a1)), (2, .sl a2.length (fl (eI .i64) a2))]⟩ (Loc O n []) _
  rw [Loc_nil hU.fresh]
  refine W_fit2 (raise_fit hU (by omega : n ≤ N) ?_) ?_
  · simp only [push_cast, seval, ↓reduceIte, cast_lit]
  have hX0 : Loc (XO O n []) N [] = O := by rw [Loc_nil (hX []).fresh, XO_nil hU]
  have h2 : ∀ {E c Q}, W Try.prog n c Q E (Loc (XO O n []) N []) N → W Try.prog n c Q E O N := fun h => by rw [hX0] at h; exact h
  refine h2 ?_
  refine W_sq [0, 1, 2] (W_regionD tab_ok [] ?_)
  simp only [push_cast, seval, ↓reduceIte, cast_lit, hN0, hN]
  refine W_seqK ?_
  obtain ⟨y2, hy2, h⟩ := bC h
  refine W_regionD tab_ok [] ?_
  simp only [push_cast, seval, ↓reduceIte, cast_lit, hN0, hN]
  refine (ok_arena_New hy2).then ?_
  have hs2 : y2.segments = [] := by rw [← Option.some.inj hy2]
  obtain ⟨sg, sz, lf⟩ := y2
  obtain rfl : sg = [] := hs2
  simp only [push_cast, seval, ↓reduceIte, cast_lit, hN0, hN]
  refine W_drop [2, 7] [true, true] ?_
  simp only [push_cast, seval, ↓reduceIte]
  refine W_sq [2, 7, 8] (W_regionD tab_ok [] ?_)
  simp only [push_cast, seval, ↓reduceIte, cast_lit, hN0, hN]
  refine W_seqK ?_
  refine W_sq [2, 7, 8, 9] (W_regionD tab_ok [] ?_)
  simp only [push_cast, seval, ↓reduceIte, cast_lit, hN0, hN]
  refine W_drop [2, 7, 8, 9] [true, true] ?_
  simp only [push_cast, seval, ↓reduceIte]
  refine W_fit2 (E' := ⟨102, [], [(2, .sl a2.length (fl (eI .i64) a2)), (7, .ref N 0), (8, .row (N + 2) ([] : List S_Three).length), (9, .val (.int .i64 0))]⟩) (O' := (Loc (XO O n ([] : List (List Int))) N [some ⟨false, 59, 3, 1, [.row (N + 1) ([] : List (List Int)).length, .val (.int .i64 sz), .val (.int .i64 lf)]⟩, some ⟨true, 40, 1, ([] : List (List Int)).length, fl eN (num n ([] : List (List Int)))⟩, some ⟨true, 49, 3, ([] : List S_Three).length, fl e_S_Three ([] : List S_Three)⟩])) (n' := (N + 3)) ?_ ?_
  · refine Fit2.trans (adopt_fit 8 49 3 rfl (by omega)) ?_
    simp only [Loc_push, Loc_push0, Loc_upd, Loc_upd0, List.set_cons_zero, List.set_cons_succ, List.cons_append, List.nil_append, List.length_cons, List.length_nil, Nat.zero_add, Nat.reduceAdd, Nat.reduceLT, Nat.add_assoc]
    refine (Fit2.of (fit_loc (hX _) rfl rfl ?_) (by omega))
    simp only [push_cast, seval, ↓reduceIte, cast_lit, hN0, hN]
    exact wkl_pure (cs := []) rfl
  obtain ⟨z25, hz25, h⟩ := bC h
  refine W_sumB (J := (SumJ (fun z25 => JR n (⟨102, [], [(6, .val (.bool false))]⟩ : Env) O n) (fun z25 => JX 0 n (⟨102, [], []⟩ : Env) O n))) (z := z25) ?_ fun hw => ?_
  · refine W_loopJ hz25 (fun s0_ => ⟨102, [], [(2, .sl a2.length (fl (eI .i64) a2)), (7, .ref N 0), (8, .row (N + 2) s0_.2.2.2.1.length), (9, .val (.int .i64 s0_.1))]⟩) (fun s0_ => (Loc (XO O n s0_.2.2.2.2) N [some ⟨false, 59, 3, 1, [.row (N + 1) s0_.2.2.2.2.length, .val (.int .i64 s0_.2.1), .val (.int .i64 s0_.2.2.1)]⟩, some ⟨true, 40, 1, s0_.2.2.2.2.length, fl eN (num n s0_.2.2.2.2)⟩, some ⟨true, 49, 3, s0_.2.2.2.1.length, fl e_S_Three s0_.2.2.2.1⟩])) (SumJ (fun z25 => JR n (⟨102, [], [(6, .val (.bool false))]⟩ : Env) O n) (fun z25 => JX 0 n (⟨102, [], []⟩ : Env) O n)) ?_
    intro s0_ x0_ hs0_
    unfold m_centolaw05_ArenaApart_L0 at hs0_
    try dsimp only
    refine W_seqK ?_
    refine W_sq [2, 7, 8, 9, 26] (W_regionD tab_ok [none, none] ?_)
    simp only [push_cast, seval, ↓reduceIte, cast_lit, hN0, hN]
    repeat (with_reducible refine And.intro (by first | (intro h0; simp only [h0, and_self]; done) | (intro h0; simp only [h0, Bool.not_false, Bool.not_true, Bool.true_and, Bool.and_true, true_and, and_true, and_self, imp_self, implies_true, bne_iff_ne, ne_eq, beq_iff_eq]; done) | (intros; simp_all; done) | exact True.intro) ?_)
    refine W_cond (t := (cond (decide (s0_.1 < (a2.length : Int))) (decide (s0_.1 < 60)) false)) rfl (fun c24 => ?_) (fun c24 => ?_)
    · replace hs0_ := condT c24 hs0_
      refine W_skip ?_
      try simp only [gthen, gblock]
      refine W_drop [2, 7, 8, 9] [true, true, true] ?_
      simp only [push_cast, seval, ↓reduceIte]
      obtain ⟨z3, hz3, hs0_⟩ := bC hs0_
      refine W_sum (J := (SumJ (fun z3 => JN n (⟨102, [], [(2, .sl a2.length (fl (eI .i64) a2)), (7, .ref N 0), (8, .row (N + 2) z3.2.2.1.length), (9, .val (.int .i64 s0_.1))]⟩ : Env) (Loc (XO O n z3.2.2.2) N [some ⟨false, 59, 3, 1, [.row (N + 1) z3.2.2.2.length, .val (.int .i64 z3.1), .val (.int .i64 z3.2.1)]⟩, some ⟨true, 40, 1, z3.2.2.2.length, fl eN (num n z3.2.2.2)⟩, some ⟨true, 49, 3, z3.2.2.1.length, fl e_S_Three z3.2.2.1⟩]) (N + 3)) (fun z3 => JR n (⟨102, [], [(6, .val (.bool false))]⟩ : Env) O n))) (z := z3) ?_ fun hw => ?_
      · refine W_block ?_
        obtain ⟨x5, hx5, ax5, bx5, cx5, hz3⟩ := bE (f := (eI .i64)) tab3 (fun _ => rfl) (by decide) hz3
        refine W_sq [2, 7, 8, 9, 10] (W_regionD tab_ok [] ?_)
        simp only [push_cast, Nat.reduceAdd, Nat.reduceSub, Nat.reduceMul, Nat.reduceLeDiff, Nat.reduceLT, Nat.reduceEqDiff, ↓reduceIte, reduceCtorEq, Int.reduceBEq, Int.reduceBNe, Nat.reduceBEq, Int.reduceLE, Int.reduceLT, Int.reduceEq, Int.reduceNe, Int.reduceNeg, Nat.reduceDiv, Nat.reduceMod, Nat.reducePow, cast_lit, hN0, hN, ax5, bx5, cx5]
        obtain ⟨y7, hy7, hz3⟩ := bC hz3
        refine W_seqN (E' := ⟨102, [], [(2, .sl a2.length (fl (eI .i64) a2)), (7, .ref N 0), (8, .row (N + 2) s0_.2.2.2.1.length), (9, .val (.int .i64 s0_.1)), (10, .val (.int .i64 (IntKind.i64.wrap (landI .i64 x5 31)))), (11, .val (.int .i64 y7.1)), (12, .val (.int .i64 y7.2.1)), (13, .val (.bool y7.2.2.1))]⟩) (O' := (Loc (XO O n y7.2.2.2.segments) N [some ⟨false, 59, 3, 1, [.row (N + 1) y7.2.2.2.segments.length, .val (.int .i64 y7.2.2.2.size), .val (.int .i64 y7.2.2.2.left)]⟩, some ⟨true, 40, 1, y7.2.2.2.segments.length, fl eN (num n y7.2.2.2.segments)⟩, some ⟨true, 49, 3, s0_.2.2.2.1.length, fl e_S_Three s0_.2.2.2.1⟩])) (n0 := N + 3) ?_ ?_
        · refine W_undI fun hund => ?_
          have hwo : G.unders (N + 3) (fl eN (num n s0_.2.2.2.2)) = true := hund.und (N + 1) _ (by rw [Loc_at]; rfl)
          have hw1 : ∀ Z Z', wkl Z Z' (N + 3) (fl eN (num n s0_.2.2.2.2)) (fl eN (num n s0_.2.2.2.2)) = True := fun Z Z' => eq_true (wkl_refl _ hwo)
          obtain ⟨g1, g2, g3, ⟨hk, rfl⟩ | ⟨hk, hk2, hk3, rfl⟩ | ⟨hk, hk2, hk3, hk4, rfl⟩⟩ := giveM_cases hy7
          · refine W_regionD tab_ok [] ?_
            simp only [push_cast, seval, ↓reduceIte, cast_lit, hN0, hN]
            have g := give_no (O := (Loc (XO O n s0_.2.2.2.2) N [some ⟨false, 59, 3, 1, [.row (N + 1) s0_.2.2.2.2.length, .val (.int .i64 s0_.2.1), .val (.int .i64 s0_.2.2.1)]⟩, some ⟨true, 40, 1, s0_.2.2.2.2.length, fl eN (num n s0_.2.2.2.2)⟩, some ⟨true, 49, 3, s0_.2.2.2.1.length, fl e_S_Three s0_.2.2.2.1⟩])) (n := N + 3) (i := N) (j := N + 1) (L := num n s0_.2.2.2.2) (size := s0_.2.1) (left := s0_.2.2.1) (k := (IntKind.i64.wrap (landI .i64 x5 31))) (by omega) (by omega) (by rw [num_len, Loc_at0]; rfl) (by rw [num_len, Loc_at]; rfl) hk
            refine g.then ?_
            simp only [push_cast, seval, ↓reduceIte, cast_lit, hN0, hN]
            refine And.intro rfl (Fit2.of (fit_loc (hX _) rfl rfl ?_) (by omega))
            simp only [push_cast, seval, ↓reduceIte, cast_lit, hN0, hN, hw1]
          · refine W_regionD tab_ok [] ?_
            simp only [push_cast, seval, ↓reduceIte, cast_lit, hN0, hN]
            have hf : (num n s0_.2.2.2.2).length = 0 ∨ (num n s0_.2.2.2.2).length < 16 ∧ ∃ x, getI (num n s0_.2.2.2.2) (((num n s0_.2.2.2.2).length : Int) - 1) = some x ∧ ¬ (IntKind.i64.wrap (landI .i64 x5 31)) ≤ IntKind.i64.wrap (s0_.2.1 - (x.2.length : Int)) := by
              rw [num_len]
              by_cases h0 : s0_.2.2.2.2.length = 0
              · exact .inl h0
              · have hk4 := hk3.resolve_left h0
                refine .inr ⟨hk4.1, (n + (s0_.2.2.2.2.length - 1), lastS s0_.2.2.2.2), ?_, hk4.2⟩
                unfold getI
                rw [if_pos (by omega), num_at, show (((s0_.2.2.2.2.length : Int) - 1).toNat) = s0_.2.2.2.2.length - 1 by omega, last_at h0]; rfl
            have g := give_new (O := (Loc (XO O n s0_.2.2.2.2) N [some ⟨false, 59, 3, 1, [.row (N + 1) s0_.2.2.2.2.length, .val (.int .i64 s0_.2.1), .val (.int .i64 s0_.2.2.1)]⟩, some ⟨true, 40, 1, s0_.2.2.2.2.length, fl eN (num n s0_.2.2.2.2)⟩, some ⟨true, 49, 3, s0_.2.2.2.1.length, fl e_S_Three s0_.2.2.2.1⟩])) (n := N + 3) (i := N) (j := N + 1) (L := num n s0_.2.2.2.2) (size := s0_.2.1) (left := s0_.2.2.1) (k := (IntKind.i64.wrap (landI .i64 x5 31))) (by omega) (by omega) (fun y hy => by have := num_lt g1 y hy; omega) (by omega) (by rw [num_len, Loc_at0]; rfl) (by rw [num_len, Loc_at]; rfl) hk hk2 (by omega) (by rw [num_len]; exact Nat.le_trans g1 (by decide)) hf
            simp only [List.length_append, List.length_cons, List.length_nil, Nat.zero_add, num_len] at g
            refine g.then ?_
            simp only [push_cast, seval, ↓reduceIte, cast_lit, hN0, hN]
            have hlt : s0_.2.2.2.2.length < 16 := by
              rcases hk3 with h | h
              · show s0_.2.2.2.2.length < 16; have : s0_.2.2.2.2.length = 0 := h; omega
              · exact h.1
            refine And.intro rfl ?_
            refine Fit2.trans (E' := ⟨102, [], [(2, .sl a2.length (fl (eI .i64) a2)), (7, .ref N 0), (8, .row (N + 2) s0_.2.2.2.1.length), (9, .val (.int .i64 s0_.1)), (10, .val (.int .i64 (IntKind.i64.wrap (landI .i64 x5 31)))), (11, .val (.int .i64 (s0_.2.2.2.2.length : Int))), (12, .val (.int .i64 0)), (13, .val (.bool true))]⟩) (O' := (Loc (XO O n s0_.2.2.2.2) N [some ⟨false, 59, 3, 1, [.row (N + 1) (s0_.2.2.2.2.length + 1), .val (.int .i64 s0_.2.1), .val (.int .i64 (IntKind.i64.wrap (s0_.2.2.1 - (IntKind.i64.wrap (landI .i64 x5 31)))))]⟩, some ⟨true, 40, 1, s0_.2.2.2.2.length + 1, fl eN (num n s0_.2.2.2.2 ++ [(N + 3, zl [] (IntKind.i64.wrap (landI .i64 x5 31)))])⟩, some ⟨true, 49, 3, s0_.2.2.2.1.length, fl e_S_Three s0_.2.2.2.1⟩, some ⟨true, 27, 1, (zl [] (IntKind.i64.wrap (landI .i64 x5 31))).length, fl (eI .u64) (zl [] (IntKind.i64.wrap (landI .i64 x5 31)))⟩])) (n' := N + 3 + 1) (Fit2.of (fit_loc (hX _) rfl rfl ?_) (by omega)) (Fit2.trans (settle_fit (segs := s0_.2.2.2.2) (z := zl [] (IntKind.i64.wrap (landI .i64 x5 31))) (size := s0_.2.1) (left := IntKind.i64.wrap (s0_.2.2.1 - (IntKind.i64.wrap (landI .i64 x5 31)))) (gk := s0_.2.2.2.1.length) (cs := fl e_S_Three s0_.2.2.2.1) hU hNn hlt (fun ρ => rens_e_S_Three _) ?_) (Fit2.of (fit_loc (hX _) rfl rfl ?_) (by omega)))
            · simp only [fl_snoc]
              obtain ⟨D, hD⟩ : ∃ D, D = fl eN (num n s0_.2.2.2.2 ++ [(N + 3, zl [] (IntKind.i64.wrap (landI .i64 x5 31)))]) := ⟨_, rfl⟩
              have hDw : ∀ Z Z', wkl Z Z' (N + 4) D D = True := fun Z Z' => by
                rw [hD]
                exact eq_true (wkl_refl _ (und_eN _ fun y hy => by
                  rcases List.mem_append.1 hy with h | h
                  · have := num_lt g1 y h; omega
                  · rw [List.mem_singleton.1 h]; exact Nat.lt_succ_self _))
              simp only [← hD]
              simp only [push_cast, seval, ↓reduceIte, cast_lit, hN0, hN, hDw]
            · have e0 : sw (n + s0_.2.2.2.2.length) (N + 3) N = N := sw_ne (by omega) (by omega)
              have e2 : sw (n + s0_.2.2.2.2.length) (N + 3) (N + 2) = N + 2 := sw_ne (by omega) (by omega)
              simp only [renL, G.ren, rens_eI_i64, e0, e2]
            · have hw9 : ∀ Z Z', wkl Z Z' (N + 3) (fl eN (num n (s0_.2.2.2.2 ++ [zl [] (IntKind.i64.wrap (landI .i64 x5 31))]))) (fl eN (num n (s0_.2.2.2.2 ++ [zl [] (IntKind.i64.wrap (landI .i64 x5 31))]))) = True := fun Z Z' =>
                eq_true (wkl_refl _ (und_eN _ fun y hy => by have := num_lt (by rw [List.length_append, List.length_singleton]; omega) y hy; omega))
              simp only [push_cast, seval, ↓reduceIte, cast_lit, hN0, hN, hw9]
          · refine W_regionD tab_ok [] ?_
            simp only [push_cast, seval, ↓reduceIte, cast_lit, hN0, hN]
            have hp : s0_.2.2.2.2.length - 1 < s0_.2.2.2.2.length := Nat.sub_lt (Nat.pos_of_ne_zero hk3) Nat.one_pos
            have g16 : s0_.2.2.2.2.length ≤ 16 := g1
            have hi1 : (((s0_.2.2.2.2.length : Int) - 1).toNat) = s0_.2.2.2.2.length - 1 := by omega
            have hla := last_at hk3
            have hmem : lastS s0_.2.2.2.2 ∈ s0_.2.2.2.2 := List.mem_of_getElem? hla
            have hbl := g2 _ hmem
            have g3' : (IntKind.i64.wrap (landI .i64 x5 31)) ≤ 100000 := g3
            have hset : setI (num n s0_.2.2.2.2) ((s0_.2.2.2.2.length : Int) - 1) (n + (s0_.2.2.2.2.length - 1), zl (lastS s0_.2.2.2.2) (IntKind.i64.wrap (landI .i64 x5 31))) = num n (s0_.2.2.2.2.set (s0_.2.2.2.2.length - 1) (zl (lastS s0_.2.2.2.2) (IntKind.i64.wrap (landI .i64 x5 31)))) := by
              unfold setI; rw [hi1, num_set]
            have g := give_in (O := (Loc (XO O n s0_.2.2.2.2) N [some ⟨false, 59, 3, 1, [.row (N + 1) s0_.2.2.2.2.length, .val (.int .i64 s0_.2.1), .val (.int .i64 s0_.2.2.1)]⟩, some ⟨true, 40, 1, s0_.2.2.2.2.length, fl eN (num n s0_.2.2.2.2)⟩, some ⟨true, 49, 3, s0_.2.2.2.1.length, fl e_S_Three s0_.2.2.2.1⟩])) (n := N + 3) (i := N) (j := N + 1) (L := num n s0_.2.2.2.2) (size := s0_.2.1) (left := s0_.2.2.1) (k := (IntKind.i64.wrap (landI .i64 x5 31))) (x := (n + (s0_.2.2.2.2.length - 1), lastS s0_.2.2.2.2)) (by omega) (by omega) (fun y hy => by have := num_lt g1 y hy; omega) (by omega) (by show N ≠ n + (s0_.2.2.2.2.length - 1); omega) (by show N + 1 ≠ n + (s0_.2.2.2.2.length - 1); omega) (by rw [num_len, Loc_at0]; rfl) (by rw [num_len, Loc_at]; rfl)
              (by unfold getI; rw [num_len, if_pos (by omega), num_at, hi1, hla]; rfl)
              (by show Loc _ _ _ (n + (s0_.2.2.2.2.length - 1)) = _; rw [Loc_out _ (by omega), XO_at _ (by omega), hla]; rfl) hk hk2 (by show ((lastS s0_.2.2.2.2).length : Int) + _ ≤ _; omega) (by rw [num_len]; exact Nat.le_trans g1 (by decide)) (by rw [num_len]; exact hk4)
            simp only [num_len] at g
            rw [giveB (s0_.2.2.2.2.length - 1) (zl (lastS s0_.2.2.2.2) (IntKind.i64.wrap (landI .i64 x5 31))) _ hNn hp g1, hset] at g
            refine g.then ?_
            simp only [push_cast, seval, ↓reduceIte, cast_lit, hN0, hN]
            refine And.intro rfl (Fit2.of (fit_loc (hX _) rfl rfl ?_) (by omega))
            have hw8 : ∀ Z Z', wkl Z Z' (N + 3) (fl eN (num n (s0_.2.2.2.2.set (s0_.2.2.2.2.length - 1) (zl (lastS s0_.2.2.2.2) (IntKind.i64.wrap (landI .i64 x5 31)))))) (fl eN (num n (s0_.2.2.2.2.set (s0_.2.2.2.2.length - 1) (zl (lastS s0_.2.2.2.2) (IntKind.i64.wrap (landI .i64 x5 31)))))) = True := fun Z Z' =>
              eq_true (wkl_refl _ (und_eN _ fun y hy => by have := num_lt (by rw [List.length_set]; exact g1) y hy; omega))
            simp only [push_cast, seval, ↓reduceIte, cast_lit, hN0, hN, hw8, num_len, List.length_set]
        refine W_undI fun hund7 => ?_
        have hwo7 : G.unders (N + 3) (fl eN (num n y7.2.2.2.segments)) = true := hund7.und (N + 1) _ (by rw [Loc_at]; rfl)
        have hw7 : ∀ Z Z', wkl Z Z' (N + 3) (fl eN (num n y7.2.2.2.segments)) (fl eN (num n y7.2.2.2.segments)) = True := fun Z Z' => eq_true (wkl_refl _ hwo7)
        have hw7' : ∀ Z Z' k, wkl Z Z' (N + 3 + k) (fl eN (num n y7.2.2.2.segments)) (fl eN (num n y7.2.2.2.segments)) = True := fun Z Z' k => eq_true (wkl_refl _ (unders_mono (Nat.le_add_right _ _) _ hwo7))
        have h16 := giveM_len hy7
        have HL : wk (Loc (XO O n y7.2.2.2.segments) N [some ⟨false, 59, 3, 1, [.row (N + 1) y7.2.2.2.segments.length, .val (.int .i64 y7.2.2.2.size), .val (.int .i64 y7.2.2.2.left)]⟩, some ⟨true, 40, 1, y7.2.2.2.segments.length, fl eN (num n y7.2.2.2.segments)⟩, some ⟨true, 49, 3, s0_.2.2.2.1.length, fl e_S_Three s0_.2.2.2.1⟩]) noObjs 0 (.ref N 0) (gP e_S_arena_Arena (some ⟨y7.2.2.2.segments, y7.2.2.2.size, y7.2.2.2.left⟩)) :=
          lend_wk (i := N) (j := N + 1) (n := n) (by rw [Loc_at0]; rfl) (by rw [Loc_at]; rfl) fun x hx => by rw [Loc_out _ (by have := num_lt h16 x hx; omega)]; exact XO_num h16 x hx
        refine W_seqK ?_
        refine W_sq [2, 7, 8, 9, 10, 11, 12, 42] (W_regionD tab_ok [] ?_)
        simp only [push_cast, seval, ↓reduceIte, cast_lit, hN0, hN]
        refine W_cond (t := (!y7.2.2.1)) rfl (fun c23 => ?_) (fun c23 => ?_)
        · replace hz3 := condT c23 hz3
          refine W_exit ?_
          try simp only [gthen, gblock, ↓reduceIte, Nat.reduceEqDiff]
          have hz3 := Option.some.inj hz3; subst hz3
          refine And.intro rfl (Fit2.of (fit_loc (hX _) rfl rfl ?_) (by omega))
          simp only [push_cast, seval, ↓reduceIte, cast_lit, hN0, hN, hw7]
        · replace hz3 := condF c23 hz3
          refine W_skip ?_
          try simp only [gthen, gblock]
          refine W_drop [2, 7, 8, 9, 10, 11, 12] [true, true, true] ?_
          simp only [push_cast, seval, ↓reduceIte]
          refine W_seqK ?_
          refine W_sq [2, 7, 8, 9, 10, 11, 12, 14] (W_regionD tab_ok [] ?_)
          simp only [push_cast, seval, ↓reduceIte, cast_lit, hN0, hN]
          refine W_drop [2, 7, 8, 9, 10, 11, 12, 14] [true, true, true] ?_
          simp only [push_cast, seval, ↓reduceIte]
          obtain ⟨z12, hz12, hz3⟩ := bC hz3
          refine W_sumB (J := (SumJ (fun z12 => JR n (⟨102, [], [(6, .val (.bool false))]⟩ : Env) O n) (fun z12 => JX 2 n (⟨102, [], [(2, .sl a2.length (fl (eI .i64) a2)), (7, .ref N 0), (8, .row (N + 2) s0_.2.2.2.1.length), (9, .val (.int .i64 s0_.1)), (10, .val (.int .i64 (IntKind.i64.wrap (landI .i64 x5 31)))), (11, .val (.int .i64 y7.1)), (12, .val (.int .i64 y7.2.1))]⟩ : Env) (Loc (XO O n y7.2.2.2.segments) N [some ⟨false, 59, 3, 1, [.row (N + 1) y7.2.2.2.segments.length, .val (.int .i64 y7.2.2.2.size), .val (.int .i64 y7.2.2.2.left)]⟩, some ⟨true, 40, 1, y7.2.2.2.segments.length, fl eN (num n y7.2.2.2.segments)⟩, some ⟨true, 49, 3, s0_.2.2.2.1.length, fl e_S_Three s0_.2.2.2.1⟩]) (N + 3)))) (z := z12) ?_ fun hw => ?_
          · refine W_loopJ hz12 (fun s1_ => ⟨102, [], [(2, .sl a2.length (fl (eI .i64) a2)), (7, .ref N 0), (8, .row (N + 2) s0_.2.2.2.1.length), (9, .val (.int .i64 s0_.1)), (10, .val (.int .i64 (IntKind.i64.wrap (landI .i64 x5 31)))), (11, .val (.int .i64 y7.1)), (12, .val (.int .i64 y7.2.1)), (14, .val (.int .i64 s1_))]⟩) (fun s1_ => (Loc (XO O n y7.2.2.2.segments) N [some ⟨false, 59, 3, 1, [.row (N + 1) y7.2.2.2.segments.length, .val (.int .i64 y7.2.2.2.size), .val (.int .i64 y7.2.2.2.left)]⟩, some ⟨true, 40, 1, y7.2.2.2.segments.length, fl eN (num n y7.2.2.2.segments)⟩, some ⟨true, 49, 3, s0_.2.2.2.1.length, fl e_S_Three s0_.2.2.2.1⟩])) (SumJ (fun z12 => JR n (⟨102, [], [(6, .val (.bool false))]⟩ : Env) O n) (fun z12 => JX 2 n (⟨102, [], [(2, .sl a2.length (fl (eI .i64) a2)), (7, .ref N 0), (8, .row (N + 2) s0_.2.2.2.1.length), (9, .val (.int .i64 s0_.1)), (10, .val (.int .i64 (IntKind.i64.wrap (landI .i64 x5 31)))), (11, .val (.int .i64 y7.1)), (12, .val (.int .i64 y7.2.1))]⟩ : Env) (Loc (XO O n y7.2.2.2.segments) N [some ⟨false, 59, 3, 1, [.row (N + 1) y7.2.2.2.segments.length, .val (.int .i64 y7.2.2.2.size), .val (.int .i64 y7.2.2.2.left)]⟩, some ⟨true, 40, 1, y7.2.2.2.segments.length, fl eN (num n y7.2.2.2.segments)⟩, some ⟨true, 49, 3, s0_.2.2.2.1.length, fl e_S_Three s0_.2.2.2.1⟩]) (N + 3))) ?_
            intro s1_ x1_ hs1_
            unfold m_centolaw05_ArenaApart_L1 at hs1_
            try dsimp only
            refine W_seqK ?_
            refine W_sq [2, 7, 8, 9, 10, 11, 12, 14, 46] (W_regionD tab_ok [] ?_)
            simp only [push_cast, seval, ↓reduceIte, cast_lit, hN0, hN]
            refine W_cond (t := (decide (s1_ < (s0_.2.2.2.1.length : Int)))) rfl (fun c11 => ?_) (fun c11 => ?_)
            · replace hs1_ := condT c11 hs1_
              refine W_skip ?_
              try simp only [gthen, gblock]
              refine W_drop [2, 7, 8, 9, 10, 11, 12, 14] [true, true, true] ?_
              simp only [push_cast, seval, ↓reduceIte]
              refine W_seqK ?_
              refine W_block ?_
              refine W_seqK ?_
              obtain ⟨x9, hx9, ax9, bx9, cx9, hs1_⟩ := bE (f := e_S_Three) tab49 (fun _ => rfl) (by decide) hs1_
              refine W_regionD tab_ok [] ?_
              simp only [push_cast, Nat.reduceAdd, Nat.reduceSub, Nat.reduceMul, Nat.reduceLeDiff, Nat.reduceLT, Nat.reduceEqDiff, ↓reduceIte, reduceCtorEq, Int.reduceBEq, Int.reduceBNe, Nat.reduceBEq, Int.reduceLE, Int.reduceLT, Int.reduceEq, Int.reduceNe, Int.reduceNeg, Nat.reduceDiv, Nat.reduceMod, Nat.reducePow, cast_lit, hN0, hN, ax9, bx9, cx9]
              refine W_drop [2, 7, 8, 9, 10, 11, 12, 14, 15] [true, true, true, true] ?_
              simp only [push_cast, seval, ↓reduceIte]
              refine W_sq [2, 7, 8, 9, 10, 11, 12, 14, 82] (W_regionD tab_ok [none, none, none, none, none, none, none, none, none, none, none, none, none, none, none, none, none, none] ?_)
              simp only [push_cast, seval, ↓reduceIte, cast_lit, hN0, hN]
              repeat (with_reducible refine And.intro (by first | (intro h0; simp only [h0, and_self]; done) | (intro h0; simp only [h0, Bool.not_false, Bool.not_true, Bool.true_and, Bool.and_true, true_and, and_true, and_self, imp_self, implies_true, bne_iff_ne, ne_eq, beq_iff_eq]; done) | (intros; simp_all; done) | exact True.intro) ?_)
              refine W_cond (t := (cond (cond (cond (cond (x9.f0 == y7.1) (decide (0 < (IntKind.i64.wrap (landI .i64 x5 31)))) false) (decide (0 < x9.f2)) false) (decide (y7.2.1 < (IntKind.i64.wrap (x9.f1 + x9.f2)))) false) (decide (x9.f1 < (IntKind.i64.wrap (y7.2.1 + (IntKind.i64.wrap (landI .i64 x5 31)))))) false)) rfl (fun c10 => ?_) (fun c10 => ?_)
              · replace hs1_ := condT c10 hs1_
                refine W_sq [6] (W_regionD tab_ok [] ?_)
                simp only [push_cast, seval, ↓reduceIte, cast_lit, hN0, hN]
                refine W_ret ?_
                try simp only [gthen, gblock]
                have hs1_ := Option.some.inj hs1_; subst hs1_
                refine And.intro (fun h => by cases h) (And.intro rfl (drop_fit hU (hlow _ _) rfl ?_))
                simp only [push_cast, seval, ↓reduceIte, cast_lit, hN0, hN]
              · replace hs1_ := condF c10 hs1_
                refine W_skip ?_
                try simp only [gthen, gblock]
                refine W_drop [2, 7, 8, 9, 10, 11, 12, 14] [true, true, true, false] ?_
                simp only [push_cast, seval, ↓reduceIte]
                refine W_regionD tab_ok [] ?_
                simp only [push_cast, seval, ↓reduceIte, cast_lit, hN0, hN]
                have hs1_ := Option.some.inj hs1_; subst hs1_
                refine And.intro rfl (Fit2.of (fit_loc (hX _) rfl rfl ?_) (by omega))
                simp only [push_cast, seval, ↓reduceIte, cast_lit, hN0, hN, hw7]
            · replace hs1_ := condF c11 hs1_
              refine W_exit ?_
              try simp only [gthen, gblock, ↓reduceIte, Nat.reduceEqDiff]
              have hs1_ := Option.some.inj hs1_; subst hs1_
              refine And.intro (fun h => by cases h) (And.intro rfl (Fit2.of (fit_loc (hX _) rfl rfl ?_) (by omega)))
              simp only [push_cast, seval, ↓reduceIte, cast_lit, hN0, hN, hw7]
          rcases z12 with z12 | z12
          · dsimp only [SumJ] at hw hz3
            refine W_blockR hw ?_
            try simp only [gthen, gblock, ↓reduceIte, Nat.reduceEqDiff]
            have hz3 := Option.some.inj hz3; subst hz3
            refine And.intro rfl (fit_envB hU (Nat.le_refl _) rfl ?_)
            simp only [push_cast, seval, ↓reduceIte, cast_lit, hN0, hN]
          · dsimp only [SumJ] at hw hz3
            refine W_blockX hw ?_
            try simp only [gthen, gblock, ↓reduceIte, Nat.reduceEqDiff]
            refine W_drop [2, 7, 8, 9, 10, 11, 12] [true, true, true] ?_
            simp only [push_cast, seval, ↓reduceIte]
            refine W_seqK ?_
            obtain ⟨z15, hz15, hz3⟩ := bC hz3
            refine W_seqN (E' := ⟨102, [], [(2, .sl a2.length (fl (eI .i64) a2)), (7, .ref N 0), (8, .row (N + 2) s0_.2.2.2.1.length), (9, .val (.int .i64 s0_.1)), (10, .val (.int .i64 (IntKind.i64.wrap (landI .i64 x5 31)))), (11, .val (.int .i64 y7.1)), (12, .val (.int .i64 y7.2.1)), (93, .val (.bool z15))]⟩) (O' := (Loc (XO O n y7.2.2.2.segments) N [some ⟨false, 59, 3, 1, [.row (N + 1) y7.2.2.2.segments.length, .val (.int .i64 y7.2.2.2.size), .val (.int .i64 y7.2.2.2.left)]⟩, some ⟨true, 40, 1, y7.2.2.2.segments.length, fl eN (num n y7.2.2.2.segments)⟩, some ⟨true, 49, 3, s0_.2.2.2.1.length, fl e_S_Three s0_.2.2.2.1⟩])) (n0 := (N + 3)) ?_ ?_
            · obtain ⟨y18, hy18, hz15⟩ := bC hz15
              rcases Bool.eq_false_or_eq_true y18 with c20 | c20
              · replace hz15 := condT c20 hz15
                obtain ⟨y19, hy19, hz15⟩ := bC hz15
                refine W_regionD tab_ok [some true, some true, some true] ?_
                simp only [push_cast, seval, ↓reduceIte, cast_lit, hN0, hN, c20]
                refine GCalls.lend (ok_arena_Arena_Has hy18) rfl (by unfold wkl; exact ⟨_, _, rfl, HL, wkl_pure rfl⟩) ?_
                simp only [push_cast, seval, ↓reduceIte, cast_lit, hN0, hN, c20]
                refine GCalls.lend (ok_arena_Arena_Len hy19) rfl (by unfold wkl; exact ⟨_, _, rfl, HL, wkl_pure rfl⟩) ?_
                simp only [push_cast, seval, ↓reduceIte, cast_lit, hN0, hN, c20]
                have hz15 := Option.some.inj hz15; subst hz15
                refine And.intro rfl (Fit2.of (fit_loc (hX _) rfl rfl ?_) (by omega))
                simp only [push_cast, seval, ↓reduceIte, cast_lit, hN0, hN, hw7, c20]
              · replace hz15 := condF c20 hz15
                refine W_regionD tab_ok [some false, some false, some false] ?_
                simp only [push_cast, seval, ↓reduceIte, cast_lit, hN0, hN, c20]
                refine GCalls.lend (ok_arena_Arena_Has hy18) rfl (by unfold wkl; exact ⟨_, _, rfl, HL, wkl_pure rfl⟩) ?_
                simp only [push_cast, seval, ↓reduceIte, cast_lit, hN0, hN, c20]
                have hz15 := Option.some.inj hz15; subst hz15
                refine And.intro rfl (Fit2.of (fit_loc (hX _) rfl rfl ?_) (by omega))
                simp only [push_cast, seval, ↓reduceIte, cast_lit, hN0, hN, hw7, c20]
            refine W_cond (t := z15) rfl (fun c22 => ?_) (fun c22 => ?_)
            · replace hz3 := condT c22 hz3
              refine W_sq [6] (W_regionD tab_ok [] ?_)
              simp only [push_cast, seval, ↓reduceIte, cast_lit, hN0, hN]
              refine W_ret ?_
              try simp only [gthen, gblock]
              have hz3 := Option.some.inj hz3; subst hz3
              refine And.intro rfl (drop_fit hU (hlow _ _) rfl ?_)
              simp only [push_cast, seval, ↓reduceIte, cast_lit, hN0, hN]
            · replace hz3 := condF c22 hz3
              refine W_skip ?_
              try simp only [gthen, gblock]
              refine W_drop [2, 7, 8, 9, 10, 11, 12] [true, true, true] ?_
              simp only [push_cast, seval, ↓reduceIte]
              obtain ⟨l21, pl21, ql21, el21, hz3⟩ := bA (k := 1) rfl hz3
              refine W_regionD tab_ok [] ?_
              simp only [push_cast, seval, ↓reduceIte, cast_lit, hN0, hN, pl21, ql21, el21]
              have hz3 := Option.some.inj hz3; subst hz3
              refine And.intro rfl (Fit2.of (fit_loc (hX _) rfl rfl ?_) (by omega))
              simp only [push_cast, seval, ↓reduceIte, cast_lit, hN0, hN, pl21, ql21, el21, hw7]
      rcases z3 with z3 | z3
      · dsimp only [SumJ] at hw hs0_
        refine W_seqN hw ?_
        refine W_undI fun hund3 => ?_
        have hwo3 : G.unders (N + 3) (fl eN (num n z3.2.2.2)) = true := hund3.und (N + 1) _ (by rw [Loc_at]; rfl)
        have hw3 : ∀ Z Z', wkl Z Z' (N + 3) (fl eN (num n z3.2.2.2)) (fl eN (num n z3.2.2.2)) = True := fun Z Z' => eq_true (wkl_refl _ hwo3)
        refine W_regionD tab_ok [] ?_
        simp only [push_cast, seval, ↓reduceIte, cast_lit, hN0, hN]
        have hs0_ := Option.some.inj hs0_; subst hs0_
        refine And.intro rfl (Fit2.of (fit_loc (hX _) rfl rfl ?_) (by omega))
        simp only [push_cast, seval, ↓reduceIte, cast_lit, hN0, hN, hw3]
      · dsimp only [SumJ] at hw hs0_
        refine W_seqR hw ?_
        try simp only [gthen, gblock]
        have hs0_ := Option.some.inj hs0_; subst hs0_
        refine And.intro (fun h => by cases h) (And.intro rfl (fit_envB hU (Nat.le_refl _) rfl ?_))
        simp only [push_cast, seval, ↓reduceIte, cast_lit, hN0, hN]
    · replace hs0_ := condF c24 hs0_
      refine W_exit ?_
      try simp only [gthen, gblock, ↓reduceIte, Nat.reduceEqDiff]
      have hs0_ := Option.some.inj hs0_; subst hs0_
      refine And.intro (fun h => by cases h) (And.intro rfl (drop_fit hU (hlow _ _) rfl ?_))
      simp only [push_cast, seval, ↓reduceIte, cast_lit, hN0, hN]
  rcases z25 with z25 | z25
  · dsimp only [SumJ] at hw h
    refine W_blockR hw ?_
    try simp only [gthen, gblock, ↓reduceIte, Nat.reduceEqDiff]
    have h := Option.some.inj h; subst h
    refine fin_plain (P := Try.prog) (.inr rfl) hU [.val (.bool false)] (Nat.le_refl _) ?_
    simp only [push_cast, seval, ↓reduceIte, cast_lit, Try.results4, hN0, hN]
  · dsimp only [SumJ] at hw h
    refine W_blockX hw ?_
    try simp only [gthen, gblock, ↓reduceIte, Nat.reduceEqDiff]
    refine W_seqK ?_
    obtain ⟨y27, hy27, h⟩ := bC h
    refine W_regionD tab_ok [] ?_
    simp only [push_cast, seval, ↓reduceIte, cast_lit, hN0, hN]
    refine (ok_centolaw05_awake hy27).then ?_
    simp only [push_cast, seval, ↓reduceIte, cast_lit, hN0, hN]
    refine W_ret ?_
    try simp only [gthen, gblock]
    have h := Option.some.inj h; subst h
    refine fin_plain (P := Try.prog) (.inr rfl) hU [.val (.bool y27)] (Nat.le_refl _) ?_
    simp only [push_cast, seval, ↓reduceIte, cast_lit, Try.results4, hN0, hN]

end Go.Proofs.Ytpggbianhdebmaa
