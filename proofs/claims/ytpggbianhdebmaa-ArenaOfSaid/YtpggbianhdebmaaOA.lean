/- Part A: arenas whose segments are rows of their own; each theorem bears its own conditions. -/
import Derived.Test.YtpggbianhdebmaaOE
namespace Go.Proofs.Ytpggbianhdebmaa
open Go.RowKit
set_option linter.unusedVariables false
set_option linter.unusedSimpArgs false
set_option maxRecDepth 100000
set_option maxHeartbeats 4000000
attribute [local push_cast] gfork_t gfork_f pfork_t pfork_f gthen gblock gops_nil gops_plain gops_guard onW gwantB gcalm gact gpick gpickV strip_any strip_val strip_agg strip_tup strip_sl strip_ip strip_row strip_rs strip_rp strip_rl strip_ref strip_fn strip_when evS wok calmOp Op.operands Call.operands gop onK onP atK List.all_cons List.all_nil Bool.and_true Bool.true_and Bool.and_self Value.oneCell' List.take_zero List.take_succ_cons List.take_nil List.drop_zero List.drop_succ_cons List.drop_nil List.append_nil Nat.add_zero Nat.zero_add gstep gputE ev look genv gbin_ii gbin_bb gbin_ss gbin_pp gbin_rp gbin_ip gbin_ll gbin_aa geqS geqF gint gunary gconvert gload gcells gpart_lit gstore cellsOf_agg cellsOf_val cellsOf_sl cellsOf_ip cellsOf_row cellsOf_rs cellsOf_rp cellsOf_rl cellsOf_ref cellsOf_fn cellsOf_any cellsOf_tup cellsOf_when cellsOf_gP gput gplace_lit gfieldAddr gstepIn gindexAddr gindex gfield gopt bLo bHi bMx gextract galloc gbox gbuild gfill gplaces gbuildSlice gmake glen gappend gappendN gsrc gbuiltin gnil live_any live_val live_agg live_tup live_sl live_ip live_fn live_when live_ref live_rs live_rp live_rl live_row len_any len_val len_agg len_tup len_sl len_ip len_fn len_row len_rl len_rs live_gP gres gone prun_nil prun_plain prun_guard pop TK.isAgg one_any one_val one_agg one_tup one_when one_sl one_ip one_row one_rs one_rp one_rl one_ref one_fn G.under G.unders List.getD_cons_zero List.getD_cons_succ List.set_cons_zero List.set_cons_succ List.map_cons List.map_nil List.toList_toArray Array.toList_append Option.toArray_none Option.toArray_some Array.toList_map Option.map_some Option.map_none Option.bind_some Option.bind_none List.getElem?_cons_zero List.getElem?_cons_succ List.getElem?_nil List.nil_append List.cons_append List.replicate_succ List.replicate_zero List.length_cons List.length_nil and_true true_and and_false false_and Bool.true_eq_false Bool.false_eq_true forall_const false_implies implies_true IntKind.bits if_true if_false ite_true ite_false eq_self true_implies false_or or_false or_true true_or not_true_eq_false not_false_eq_true decide_true decide_false decide_eq_true_eq decide_eq_false_iff_not beq_iff_eq bne_iff_ne ne_eq Bool.not_eq_true Bool.not_eq_false beq_eq_false_iff_ne bne_eq_false_iff_eq beq_self_eq_true bne_self_eq_false Option.some.injEq exists_eq_left' exists_eq_left ge_iff_le gt_iff_lt decide_not Bool.not_true Bool.not_false imp_self gquiet cond_true cond_false beqT beqF Bool.not_not Bool.and_false Bool.false_and Bool.or_true Bool.true_or Bool.or_false Bool.false_or Loc_at Loc_at0 Loc_upd Loc_upd0 Loc_push Loc_push0 Option.join_some Nat.add_assoc Int.toNat_natCast eI eB eS eL fl_nil gopsD_nil gopsD_plain gopsD_t gopsD_f gopsD_n onKD onWD prunD_nil prunD_plain prunD_t prunD_f prunD_n onPD fitO fitO1 sameO fitL fl_append fl_one List.length_append G.agg.injEq G.row.injEq G.ref.injEq G.val.injEq G.sl.injEq G.tup.injEq Value.int.injEq Value.bool.injEq Value.string.injEq List.cons.injEq exists_and_left exists_const List.flatten_cons List.flatten_nil Int.le_refl Nat.le_refl upd_updU Loc_out Loc_updo Bool.not_eq_true' Bool.not_eq_false' wkl_nil wkl_cons wk_any wk_val wk_agg wk_tup wk_sl wk_fn List.size_toArray renO renO1 G.ren G.rens renL rho_at rho_at0 gP_none gP_some strip_gP wok_gP one_gP G.fn.injEq wk_slnil wk_slrow wk_slrs wk_ip wk_ipref wk_row wk_rs wk_rp wk_rl wk_ref locLt0 locLt Option.join_none upd_same fl_cons undef keepL Arr.len Arr.put_eq prunB_nil prunB_bar prunB_bart prunB_plain prunB_t prunB_f prunB_n onB onBP gcopy setI_len cpyAt_len Loc_cat0 Loc_cat1 Loc_cat2 Loc_cat3 Loc_cat4 Loc_cat5 noObjs_at prunK_nil prunK_bar prunK_pass prunK_plain prunK_low prunK_pt prunK_pf prunK_lt prunK_lf onKg onKa onKp popL pickOps lows lowG prunK_shp prunK_fill popH shpOp fillOp fillG rho_low rens_app Loc_cat6 Loc_cat7 Loc_cat8 Loc_cat9 Loc_cat10 Loc_cat11 Loc_cat12 Loc_cat13 Loc_cat14 Loc_cat15 Loc_cat16 Loc_cat17 Loc_cat18 Loc_cat19 Loc_cat20 Loc_cat21 Loc_cat22 dropM prT kdOf tab2 tkind2 tab3 tkind3 tab4 tkind4 tab5 tkind5 tab6 tkind6 tab7 tkind7 tab8 tkind8 tab9 tkind9 tab10 tkind10 tab11 tkind11 tab12 tkind12 tab13 tkind13 tab14 tkind14 tab15 tkind15 tab16 tkind16 tab17 tkind17 tab18 tkind18 tab19 tkind19 tab21 tkind21 tab22 tkind22 tab23 tkind23 tab25 tkind25 tab27 tkind27 tab28 tkind28 tab29 tkind29 tab32 tkind32 tab33 tkind33 tab34 tkind34 tab40 tkind40 tab45 tkind45 tab46 tkind46 tab49 tkind49 tab58 tkind58 tab59 tkind59 tab69 tkind69 tab70 tkind70 tab74 tkind74 tab75 tkind75 tab76 tkind76 tab78 tkind78 tab79 tkind79 tab80 tkind80 wkl_eI_u64 wka_eI_u64 len_eI_u64 one_eI_u64 wkp_eI_u64 undp_eI_u64 rens_eI_u64 renp_eI_u64 und_eI_u64 wkl_eL_eI_u64 wka_eL_eI_u64 len_eL_eI_u64 one_eL_eI_u64 wkp_eL_eI_u64 undp_eL_eI_u64 rens_eL_eI_u64 renp_eL_eI_u64 und_eL_eI_u64 e_S_arena_Arena wkl_e_S_arena_Arena wka_e_S_arena_Arena len_e_S_arena_Arena one_e_S_arena_Arena wkp_e_S_arena_Arena undp_e_S_arena_Arena rens_e_S_arena_Arena renp_e_S_arena_Arena und_e_S_arena_Arena
abbrev NR := Nat × List Int
def eN (x : NR) : List G := [.row x.1 x.2.length]
theorem len_eN (xs : List NR) : (fl eN xs).length = xs.length * 1 := fl_length (f := eN) (k := 1) (fun _ => rfl) xs
theorem one_eN (xs : List NR) : (fl eN xs).all G.one = true := all_one_fl (fun x => by simp [eN, G.one]) xs
theorem und_eN {k : Nat} : ∀ (xs : List NR), (∀ x ∈ xs, x.1 < k) → G.unders k (fl eN xs) = true
  | [], _ => by simp [fl, G.unders]
  | x :: xs, h => by
    have h1 := h x (by simp)
    have h2 := und_eN xs (fun y hy => h y (by simp [hy]))
    show (G.under k (.row x.1 x.2.length) && G.unders k (fl eN xs)) = true
    rw [h2, Bool.and_true]
    simpa [G.under] using h1
theorem Und.set {X : Objs} {n i : Nat} (hU : Und X n) {q : GObj} (hi : i < n) (hq : G.unders n q.cells = true) : Und (X.upd i (some q)) n := by
  refine ⟨fun k hk => ?_, fun k o ho => ?_⟩
  · rw [upd_ne _ _ (by omega)]; exact hU.fresh k hk
  · by_cases e : k = i
    · subst e; rw [upd_same] at ho; injection ho with ho; subst ho; exact hq
    · rw [upd_ne _ _ e] at ho; exact hU.und k o ho
theorem fin_plain {P : Program} {T : Tab} {X : Objs} {E : Env} {n n' ba : Nat} {r : G} {rs : List ResultVar} {e : Exit} (he : e = .normal ∨ e = .ret) (hU : Und X n) (gs : List G) (hb : ba ≤ n') (h : gres T X E rs = some gs ∧ wk X X n (gone gs) r) : Fin T rs r ba X n e E X n' := by
  have := fin_loc (l := []) (n' := n') he hU gs hb (by rw [Loc_nil hU.fresh]; exact h)
  rwa [Loc_nil hU.fresh] at this
theorem less_self {O : Objs} {n : Nat} (hU : Und O n) : LessO O O n := ⟨hU.fresh, fun i o ho => ⟨o, ho, rfl, rfl, rfl, rfl, wkl_refl _ (hU.und i o ho)⟩⟩
theorem fit_env {O : Objs} {n : Nat} {E E' : Env} (hU : Und O n) (hn : E'.n = E.n) (h : fitL O O n E.l E'.l) : Fit2 n E O n E' O n := Fit2.of ⟨hn, less_self hU, h⟩ (Nat.le_refl _)
theorem fit_envB {O : Objs} {n ba : Nat} {E E' : Env} (hU : Und O n) (hb : ba ≤ n) (hn : E'.n = E.n) (h : fitL O O n E.l E'.l) : Fit2 ba E O n E' O n := Fit2.of ⟨hn, less_self hU, h⟩ hb
theorem less_of {O O' : Objs} {n : Nat} (hU : Und O' n) (h : ∀ t o, O' t = some o → O t = some o) : LessO O O' n := ⟨hU.fresh, fun i o ho => ⟨o, h i o ho, rfl, rfl, rfl, rfl, wkl_refl _ (hU.und i o ho)⟩⟩
theorem Und.more {O : Objs} {n n' : Nat} (hU : Und O n) (h : n ≤ n') : Und O n' := ⟨fun i hi => hU.fresh i (by omega), fun i o ho => unders_mono h _ (hU.und i o ho)⟩
theorem fl_snoc (L : List NR) (x : NR) : fl eN L ++ eN x = fl eN (L ++ [x]) := by unfold fl; simp
theorem unders_app {n : Nat} : ∀ (a b : List G), G.unders n a = true → G.unders n b = true → G.unders n (a ++ b) = true
  | [], b, _, h => h
  | x :: a, b, h, k => by
    simp only [List.cons_append, G.unders, Bool.and_eq_true] at h ⊢
    exact ⟨h.1, unders_app a b h.2 k⟩

def zl (s : List Int) (k : Int) : List Int := s ++ List.replicate k.toNat 0
theorem fl_zl (s : List Int) (k : Int) : fl (eI .u64) s ++ (List.replicate k.toNat [G.val (.int .u64 0)]).flatten = fl (eI .u64) (zl s k) := by
  unfold zl fl
  rw [List.map_append, List.flatten_append, List.map_replicate]
  rfl
theorem zl_len (s : List Int) {k : Int} : (zl s k).length = s.length + k.toNat := by simp [zl]
theorem grow_ok {O : Objs} {n i j : Nat} {L : List NR} {size left s k : Int} {x : NR} (hi : i < n) (hj : j < n) (hν : ∀ y ∈ L, y.1 < n) (hij : i ≠ j) (hiν : i ≠ x.1) (hjν : j ≠ x.1)
    (ho : O i = some ⟨false, 59, 3, 1, [.row j L.length, .val (.int .i64 size), .val (.int .i64 left)]⟩) (hoj : O j = some ⟨true, 40, 1, L.length, fl eN L⟩) (hx : getI L s = some x)
    (hox : O x.1 = some ⟨true, 27, 1, x.2.length, fl (eI .u64) x.2⟩) (hk : 0 ≤ k) (hb : (x.2.length : Int) + k ≤ 1000000) :
    GTo Try.prog 32 [.ref i 0, .val (.int .i64 s), .val (.int .i64 k)] O n (.val (.int .i64 (x.2.length : Int)))
      (((O.upd x.1 (some ⟨true, 27, 1, (zl x.2 k).length, fl (eI .u64) (zl x.2 k)⟩)).upd j (some ⟨true, 40, 1, (setI L s (x.1, zl x.2 k)).length, fl eN (setI L s (x.1, zl x.2 k))⟩)).upd i (some ⟨false, 59, 3, 1, [.row j L.length, .val (.int .i64 size), .val (.int .i64 (IntKind.i64.wrap (left - k)))]⟩)) n := by
  refine fn_of tab_ok Try.call32 Try.func32 rfl (Nat.le_of_ble_eq_true rfl) (by omega) fun hU => ?_
  have hxm : x ∈ L := by
    unfold getI at hx
    split at hx
    · exact List.mem_of_getElem? hx
    · cases hx
  have hx1 := hν x hxm
  have hk0 : ∀ k, i < n + k := fun k => by omega
  have hN0 : O n = none := hU.fresh _ (Nat.le_refl _)
  have hN : ∀ k, O (n + k) = none := fun k => hU.fresh _ (Nat.le_add_right _ _)
  show W _ _ _ _ ⟨40, [], [(0, .ref i 0), (1, .val (.int .i64 s)), (2, .val (.int .i64 k))]⟩ (Loc O n []) _
  rw [Loc_nil hU.fresh]
  refine W_sq [0, 1, 2] (W_regionD tab_ok [] ?_)
  simp only [push_cast, seval, ↓reduceIte, cast_lit, hi, hk0, hN0, hN]
  obtain ⟨x2, hx2, ax2, bx2, cx2, h⟩ := bE (f := eN) (K := fun y => some y) (r := x) tab40 (fun _ => rfl) (by decide) (by rw [hx]; rfl)
  obtain rfl : x2 = x := Option.some.inj (hx2.symm.trans hx)
  have hE : (eN x2)[0]? = some (.row x2.1 x2.2.length) := rfl
  refine W_sq [0, 1, 2, 7] (W_regionD tab_ok [] ?_)
  simp only [push_cast, Nat.reduceAdd, Nat.reduceSub, Nat.reduceMul, Nat.reduceLeDiff, Nat.reduceLT, Nat.reduceEqDiff, ↓reduceIte, reduceCtorEq, Int.reduceBEq, Int.reduceBNe, Nat.reduceBEq, Int.reduceLE, Int.reduceLT, Int.reduceEq, Int.reduceNe, Int.reduceNeg, Nat.reduceDiv, Nat.reduceMod, Nat.reducePow, cast_lit, ax2, bx2, cx2, hi, hk0, hN0, hN, ho, hoj, hj, len_eN, one_eN, hE, lenOk, hox, hx1]
  refine W_seqK ?_
  have gu : gplace (fl eN L) [.row x2.1 (zl x2.2 k).length] (Int.toNat s * 1) = some (fl eN (setI L s (x2.1, zl x2.2 k))) := gplace_el (f := eN) (ti := ⟨.bool, 1, 0, [], false⟩) (x := (x2.1, zl x2.2 k)) (fun _ => rfl) (getI_nat hx)
  refine W_drawY tab_ok (by kernel_rfl) [.plain, .low, .low, .low, .plain, .plain, .plain, .plain, .plain, .plain, .plain, .plain, .plain, .pass, .plain, .bar] (fun t => t = i) [0, 1, 2, 3, 4, 5, 6, 7, 8, 9, 10, 11, 12, 13, 14, 15] [.plain, .low, .low, .low, .plain, .plain, .plain, .plain, .plain, .plain, .plain, .plain, .plain, .pass, .plain, .bar] [] (by kernel_rfl) rfl ?_
  simp only [push_cast, Nat.reduceAdd, Nat.reduceSub, Nat.reduceMul, Nat.reduceLeDiff, Nat.reduceLT, Nat.reduceEqDiff, ↓reduceIte, reduceCtorEq, Int.reduceBEq, Int.reduceBNe, Nat.reduceBEq, Int.reduceLE, Int.reduceLT, Int.reduceEq, Int.reduceNe, Int.reduceNeg, Nat.reduceDiv, Nat.reduceMod, Nat.reducePow, cast_lit, ax2, bx2, cx2, hi, hk0, hN0, hN, ho, hoj, hj, len_eN, one_eN, hE, lenOk, hox, hx1, gu]
  have e1 : x2.2.length + k.toNat = (zl x2.2 k).length := by simp [zl]
  have hoj' : ∀ o, O.upd x2.1 o j = some ⟨true, 40, 1, L.length, fl eN L⟩ := fun o => (upd_ne O o hjν).trans hoj
  have ho' : ∀ o, O.upd x2.1 o i = some ⟨false, 59, 3, 1, [.row j L.length, .val (.int .i64 size), .val (.int .i64 left)]⟩ := fun o => (upd_ne O o hiν).trans ho
  simp only [fl_zl, e1]
  refine ⟨⟨hk, by rw [zl_len]; omega, by rw [zl_len]; omega⟩, fun t ht => by subst ht; rw [ho' _, ho], ⟨_, hoj' _, rfl, rfl⟩, ?_⟩
  simp only [hoj', gu, push_cast, seval, ↓reduceIte]
  have ho2 : ∀ o o', (O.upd x2.1 o).upd j o' i = some ⟨false, 59, 3, 1, [.row j L.length, .val (.int .i64 size), .val (.int .i64 left)]⟩ := fun o o' => (upd_ne _ o' hij).trans (ho' o)
  refine W_sq [0, 2, 7] (W_regionD tab_ok [] ?_)
  simp only [push_cast, seval, ↓reduceIte, cast_lit, hi, ho2]
  refine W_sq [6] (W_regionD tab_ok [] ?_)
  simp only [push_cast, seval, ↓reduceIte, cast_lit]
  refine W_ret ?_
  refine fin_plain (P := Try.prog) (.inr rfl) (((hU.set hx1 (und_eI_u64 _)).set hj (und_eN _ fun y hy => ?_)).set hi ?_) [.val (.int .i64 (x2.2.length : Int))] (Nat.le_refl _) ?_
  · rcases List.mem_or_eq_of_mem_set hy with h | h
    · exact hν y h
    · subst h; exact hx1
  · simp [G.unders, G.under, hj]
  · simp only [push_cast, seval, ↓reduceIte, cast_lit, Try.results32]

theorem fits_ok {O : Objs} {n i j : Nat} {L : List NR} {size left s k : Int} {x : NR} (hi : i < n) (hj : j < n)
    (ho : O i = some ⟨false, 59, 3, 1, [.row j L.length, .val (.int .i64 size), .val (.int .i64 left)]⟩) (hoj : O j = some ⟨true, 40, 1, L.length, fl eN L⟩) (hx : getI L s = some x) :
    GTo Try.prog 31 [.ref i 0, .val (.int .i64 s), .val (.int .i64 k)] O n (.val (.bool (decide (k ≤ IntKind.i64.wrap (size - (x.2.length : Int)))))) O n := by
  refine fn_of tab_ok Try.call31 Try.func31 rfl (Nat.le_of_ble_eq_true rfl) (by omega) fun hU => ?_
  show W _ _ _ _ ⟨22, [], [(0, .ref i 0), (1, .val (.int .i64 s)), (2, .val (.int .i64 k))]⟩ (Loc O n []) _
  rw [Loc_nil hU.fresh]
  refine W_sq [0, 1, 2] (W_regionD tab_ok [] ?_)
  simp only [push_cast, seval, ↓reduceIte, cast_lit, hi]
  obtain ⟨x2, hx2, ax2, bx2, cx2, h⟩ := bE (f := eN) (K := fun y => some y) (r := x) tab40 (fun _ => rfl) (by decide) (by rw [hx]; rfl)
  obtain rfl : x2 = x := Option.some.inj (hx2.symm.trans hx)
  have hE : (eN x2)[0]? = some (.row x2.1 x2.2.length) := rfl
  have hlr : ∀ i k, lenOk O (.row i k) = True := fun i k => by simp [lenOk]
  refine W_sq [6] (W_drawD tab_ok (by kernel_rfl) [] (by kernel_rfl) ?_)
  simp only [push_cast, Nat.reduceAdd, Nat.reduceSub, Nat.reduceMul, Nat.reduceLeDiff, Nat.reduceLT, Nat.reduceEqDiff, ↓reduceIte, reduceCtorEq, Int.reduceBEq, Int.reduceBNe, Nat.reduceBEq, Int.reduceLE, Int.reduceLT, Int.reduceEq, Int.reduceNe, Int.reduceNeg, Nat.reduceDiv, Nat.reduceMod, Nat.reducePow, cast_lit, ax2, bx2, cx2, hi, ho, hoj, hj, len_eN, one_eN, hE, hlr]
  refine W_ret ?_
  refine fin_plain (P := Try.prog) (.inr rfl) hU [.val (.bool (decide (k ≤ IntKind.i64.wrap (size - (x2.2.length : Int)))))] (Nat.le_refl _) ?_
  simp only [push_cast, seval, ↓reduceIte, cast_lit, Try.results31]

theorem give_no {O : Objs} {n i j : Nat} {L : List NR} {size left k : Int} (hi : i < n) (hj : j < n)
    (ho : O i = some ⟨false, 59, 3, 1, [.row j L.length, .val (.int .i64 size), .val (.int .i64 left)]⟩) (hoj : O j = some ⟨true, 40, 1, L.length, fl eN L⟩) (hk : k < 0 ∨ left < k) :
    GTo Try.prog 19 [.ref i 0, .val (.int .i64 k)] O n (.tup [.val (.int .i64 0), .val (.int .i64 0), .val (.bool false)]) O n := by
  refine fn_of tab_ok Try.call19 Try.func19 rfl (Nat.le_of_ble_eq_true rfl) (by omega) fun hU => ?_
  have hlr : ∀ i k, lenOk O (.row i k) = True := fun i k => by simp [lenOk]
  have hN0 : O n = none := hU.fresh _ (Nat.le_refl _)
  have hN : ∀ k, O (n + k) = none := fun k => hU.fresh _ (Nat.le_add_right _ _)
  show W _ _ _ _ ⟨61, [], [(0, .ref i 0), (1, .val (.int .i64 k))]⟩ (Loc O n []) _
  rw [Loc_nil hU.fresh]
  refine W_sq [0, 1] (W_regionD tab_ok [] ?_)
  simp only [push_cast, seval, ↓reduceIte, cast_lit, hi, hj, ho, hoj, hlr]
  refine W_seqK ?_
  refine W_seqN (E' := ⟨61, [], [(0, .ref i 0), (1, .val (.int .i64 k)), (21, .val (.bool true))]⟩) (O' := O) (n0 := n) ?_ ?_
  · by_cases c : k < 0
    · have c2 : decide (k < 0) = true := decide_eq_true c
      refine W_regionD tab_ok [some true, some true, some false, some false, some false, some false, some false, some false] ?_
      simp only [push_cast, seval, ↓reduceIte, cast_lit, hi, hj, ho, hoj, hlr, c2]
      refine And.intro rfl (fit_env hU rfl ?_)
      simp only [push_cast, seval, ↓reduceIte, cast_lit, hi, hj, ho, hoj, hlr]
    · have c2 : decide (k < 0) = false := decide_eq_false c
      have c3 : decide (left < k) = true := decide_eq_true (hk.resolve_left c)
      refine W_regionD tab_ok [some true, some true, some true, some true, some true, some true, some true, some true] ?_
      simp only [push_cast, seval, ↓reduceIte, cast_lit, hi, hj, ho, hoj, hlr, c2, c3]
      refine And.intro rfl (fit_env hU rfl ?_)
      simp only [push_cast, seval, ↓reduceIte, cast_lit, hi, hj, ho, hoj, hlr]
  refine W_cond (t := true) rfl (fun c15 => ?_) (fun c15 => by cases c15)
  refine W_sq [4, 5, 6] (W_regionD tab_ok [] ?_)
  simp only [push_cast, seval, ↓reduceIte, cast_lit]
  refine W_ret ?_
  try simp only [gthen, gblock]
  refine fin_plain (P := Try.prog) (.inr rfl) hU [.val (.int .i64 0), .val (.int .i64 0), .val (.bool false)] (Nat.le_refl _) ?_
  simp only [push_cast, seval, ↓reduceIte, cast_lit, Try.results19]

theorem give_in {O : Objs} {n i j : Nat} {L : List NR} {size left k : Int} {x : NR} (hi : i < n) (hj : j < n) (hν : ∀ y ∈ L, y.1 < n) (hij : i ≠ j) (hiν : i ≠ x.1) (hjν : j ≠ x.1)
    (ho : O i = some ⟨false, 59, 3, 1, [.row j L.length, .val (.int .i64 size), .val (.int .i64 left)]⟩) (hoj : O j = some ⟨true, 40, 1, L.length, fl eN L⟩) (hx : getI L ((L.length : Int) - 1) = some x)
    (hox : O x.1 = some ⟨true, 27, 1, x.2.length, fl (eI .u64) x.2⟩) (hk : 0 ≤ k) (hk2 : k ≤ left) (hb : (x.2.length : Int) + k ≤ 1000000) (hL : L.length ≤ 1000000)
    (hf : k ≤ IntKind.i64.wrap (size - (x.2.length : Int)) ∨ 16 ≤ L.length) :
    GTo Try.prog 19 [.ref i 0, .val (.int .i64 k)] O n (.tup [.val (.int .i64 ((L.length : Int) - 1)), .val (.int .i64 (x.2.length : Int)), .val (.bool true)])
      (((O.upd x.1 (some ⟨true, 27, 1, (zl x.2 k).length, fl (eI .u64) (zl x.2 k)⟩)).upd j (some ⟨true, 40, 1, (setI L ((L.length : Int) - 1) (x.1, zl x.2 k)).length, fl eN (setI L ((L.length : Int) - 1) (x.1, zl x.2 k))⟩)).upd i (some ⟨false, 59, 3, 1, [.row j L.length, .val (.int .i64 size), .val (.int .i64 (IntKind.i64.wrap (left - k)))]⟩)) n := by
  have hxm : x ∈ L := by
    unfold getI at hx
    split at hx
    · exact List.mem_of_getElem? hx
    · cases hx
  have hx1 := hν x hxm
  have h0 : 0 < L.length := List.length_pos_of_mem hxm
  refine fn_of tab_ok Try.call19 Try.func19 rfl (Nat.le_of_ble_eq_true rfl) (by omega) fun hU => ?_
  have hlr : ∀ i k, lenOk O (.row i k) = True := fun i k => by simp [lenOk]
  have hN0 : O n = none := hU.fresh _ (Nat.le_refl _)
  have hN : ∀ k, O (n + k) = none := fun k => hU.fresh _ (Nat.le_add_right _ _)
  show W _ _ _ _ ⟨61, [], [(0, .ref i 0), (1, .val (.int .i64 k))]⟩ (Loc O n []) _
  rw [Loc_nil hU.fresh]
  refine W_sq [0, 1] (W_regionD tab_ok [] ?_)
  simp only [push_cast, seval, ↓reduceIte, cast_lit, hi, hj, ho, hoj, hlr]
  refine W_seqK ?_
  refine W_seqN (E' := ⟨61, [], [(0, .ref i 0), (1, .val (.int .i64 k)), (21, .val (.bool false))]⟩) (O' := O) (n0 := n) ?_ ?_
  · have c2 : decide (k < 0) = false := decide_eq_false (by omega)
    have c3 : decide (left < k) = false := decide_eq_false (by omega)
    refine W_regionD tab_ok [some true, some true, some true, some true, some true, some true, some true, some true] ?_
    simp only [push_cast, seval, ↓reduceIte, cast_lit, hi, hj, ho, hoj, hlr, c2, c3]
    refine And.intro rfl (fit_env hU rfl ?_)
    simp only [push_cast, seval, ↓reduceIte, cast_lit, hi, hj, ho, hoj, hlr]
  refine W_cond (t := false) rfl (fun c15 => by cases c15) (fun c15 => ?_)
  refine W_skip ?_
  try simp only [gthen, gblock]
  have hw : IntKind.i64.wrap ((L.length : Int) - 1) = (L.length : Int) - 1 := i64w (by omega)
  refine W_sq [0, 1, 7] (W_regionD tab_ok [] ?_)
  simp only [push_cast, seval, ↓reduceIte, cast_lit, hi, hj, ho, hoj, hlr, hw]
  refine W_seqN (E' := ⟨61, [], [(0, .ref i 0), (1, .val (.int .i64 k)), (7, .val (.int .i64 ((L.length : Int) - 1)))]⟩) (O' := O) (n0 := n) ?_ ?_
  · have c8 : decide ((L.length : Int) - 1 < 0) = false := decide_eq_false (by omega)
    refine W_seqN (E' := ⟨61, [], [(0, .ref i 0), (1, .val (.int .i64 k)), (7, .val (.int .i64 ((L.length : Int) - 1))), (44, .val (.bool false))]⟩) (O' := O) (n0 := n) ?_ ?_
    · by_cases c : k ≤ IntKind.i64.wrap (size - (x.2.length : Int))
      · have c9 : decide (k ≤ IntKind.i64.wrap (size - (x.2.length : Int))) = true := decide_eq_true c
        refine W_regionD tab_ok [some true, some true, some true, some true, some true, some true, some false, some false, some false, some false, some false, some false, some true] ?_
        simp only [push_cast, seval, ↓reduceIte, cast_lit, hi, hj, ho, hoj, hlr, c8, c9]
        refine (fits_ok hi hj ho hoj hx).then ?_
        simp only [push_cast, seval, ↓reduceIte, cast_lit, hi, hj, ho, hoj, hlr, c8, c9]
        refine And.intro rfl (fit_env hU rfl ?_)
        simp only [push_cast, seval, ↓reduceIte, cast_lit, hi, hj, ho, hoj, hlr]
      · have c9 : decide (k ≤ IntKind.i64.wrap (size - (x.2.length : Int))) = false := decide_eq_false c
        have c10 : decide ((L.length : Int) < 16) = false := decide_eq_false (by have := hf.resolve_left c; omega)
        refine W_regionD tab_ok [some true, some true, some true, some true, some true, some true, some true, some true, some true, some true, some true, some true, some true] ?_
        simp only [push_cast, seval, ↓reduceIte, cast_lit, hi, hj, ho, hoj, hlr, c8, c9, c10]
        refine (fits_ok hi hj ho hoj hx).then ?_
        simp only [push_cast, seval, ↓reduceIte, cast_lit, hi, hj, ho, hoj, hlr, c8, c9, c10]
        refine And.intro rfl (fit_env hU rfl ?_)
        simp only [push_cast, seval, ↓reduceIte, cast_lit, hi, hj, ho, hoj, hlr]
    refine W_cond (t := false) rfl (fun c15 => by cases c15) (fun c15 => ?_)
    refine W_skip ?_
    refine And.intro rfl (fit_env hU rfl ?_)
    simp only [push_cast, seval, ↓reduceIte, cast_lit, hi, hj, ho, hoj, hlr]
  refine W_seqK ?_
  refine W_regionD tab_ok [] ?_
  simp only [push_cast, seval, ↓reduceIte, cast_lit, hi, hj, ho, hoj, hlr]
  refine (grow_ok hi hj hν hij hiν hjν ho hoj hx hox hk hb).then ?_
  simp only [push_cast, seval, ↓reduceIte, cast_lit]
  refine W_ret ?_
  try simp only [gthen, gblock]
  refine fin_plain (P := Try.prog) (.inr rfl) (((hU.set hx1 (und_eI_u64 _)).set hj (und_eN _ fun y hy => ?_)).set hi ?_) [.val (.int .i64 ((L.length : Int) - 1)), .val (.int .i64 (x.2.length : Int)), .val (.bool true)] (Nat.le_refl _) ?_
  · rcases List.mem_or_eq_of_mem_set hy with h | h
    · exact hν y h
    · subst h; exact hx1
  · simp [G.unders, G.under, hj]
  · simp only [push_cast, seval, ↓reduceIte, cast_lit, Try.results19]

theorem upd_adopt {O : Objs} {n i j : Nat} {a b b0 c d e f : Option GObj} (hin : i ≠ n) (hjn : j ≠ n) (hij : i ≠ j) : (((((((O.upd j e).upd i f).upd n d).upd j b0).upd n a).upd j b).upd i c) = ((O.upd n a).upd j b).upd i c := by
  funext t
  unfold Objs.upd
  by_cases h1 : t = i
  · rw [if_pos h1, if_pos h1]
  · by_cases h2 : t = j
    · simp only [if_neg h1, if_pos h2]
    · by_cases h3 : t = n
      · simp only [if_neg h1, if_neg h2, if_pos h3]
      · simp only [if_neg h1, if_neg h2, if_neg h3]
theorem give_new {O : Objs} {n i j : Nat} {L : List NR} {size left k : Int} (hi : i < n) (hj : j < n) (hν : ∀ y ∈ L, y.1 < n) (hij : i ≠ j)
    (ho : O i = some ⟨false, 59, 3, 1, [.row j L.length, .val (.int .i64 size), .val (.int .i64 left)]⟩) (hoj : O j = some ⟨true, 40, 1, L.length, fl eN L⟩) (hk : 0 ≤ k) (hk2 : k ≤ left) (hb : k ≤ 1000000) (hL : L.length ≤ 1000000)
    (hf : L.length = 0 ∨ L.length < 16 ∧ ∃ x, getI L ((L.length : Int) - 1) = some x ∧ ¬ k ≤ IntKind.i64.wrap (size - (x.2.length : Int))) :
    GTo Try.prog 19 [.ref i 0, .val (.int .i64 k)] O n (.tup [.val (.int .i64 (L.length : Int)), .val (.int .i64 0), .val (.bool true)])
      (((O.upd n (some ⟨true, 27, 1, (zl [] k).length, fl (eI .u64) (zl [] k)⟩)).upd j (some ⟨true, 40, 1, (L ++ [(n, zl [] k)]).length, fl eN (L ++ [(n, zl [] k)])⟩)).upd i (some ⟨false, 59, 3, 1, [.row j (L ++ [(n, zl [] k)]).length, .val (.int .i64 size), .val (.int .i64 (IntKind.i64.wrap (left - k)))]⟩)) (n + 1) := by
  refine fn_of tab_ok Try.call19 Try.func19 rfl (Nat.le_of_ble_eq_true rfl) (by omega) fun hU => ?_
  have hlr : ∀ i k, lenOk O (.row i k) = True := fun i k => by simp [lenOk]
  have hN0 : O n = none := hU.fresh _ (Nat.le_refl _)
  have hN : ∀ k, O (n + k) = none := fun k => hU.fresh _ (Nat.le_add_right _ _)
  show W _ _ _ _ ⟨61, [], [(0, .ref i 0), (1, .val (.int .i64 k))]⟩ (Loc O n []) _
  rw [Loc_nil hU.fresh]
  refine W_sq [0, 1] (W_regionD tab_ok [] ?_)
  simp only [push_cast, seval, ↓reduceIte, cast_lit, hi, hj, ho, hoj, hlr]
  refine W_seqK ?_
  refine W_seqN (E' := ⟨61, [], [(0, .ref i 0), (1, .val (.int .i64 k)), (21, .val (.bool false))]⟩) (O' := O) (n0 := n) ?_ ?_
  · have c2 : decide (k < 0) = false := decide_eq_false (by omega)
    have c3 : decide (left < k) = false := decide_eq_false (by omega)
    refine W_regionD tab_ok [some true, some true, some true, some true, some true, some true, some true, some true] ?_
    simp only [push_cast, seval, ↓reduceIte, cast_lit, hi, hj, ho, hoj, hlr, c2, c3]
    refine And.intro rfl (fit_env hU rfl ?_)
    simp only [push_cast, seval, ↓reduceIte, cast_lit, hi, hj, ho, hoj, hlr]
  refine W_cond (t := false) rfl (fun c15 => by cases c15) (fun c15 => ?_)
  refine W_skip ?_
  try simp only [gthen, gblock]
  have hw : IntKind.i64.wrap ((L.length : Int) - 1) = (L.length : Int) - 1 := i64w (by omega)
  refine W_sq [0, 1, 7] (W_regionD tab_ok [] ?_)
  simp only [push_cast, seval, ↓reduceIte, cast_lit, hi, hj, ho, hoj, hlr, hw]
  refine W_seqN (E' := ⟨61, [], [(0, .ref i 0), (1, .val (.int .i64 k)), (7, .val (.int .i64 (L.length : Int)))]⟩) (O' := (((O.upd j (some ⟨true, 40, 1, L.length + 1, fl eN L ++ [.val (.slice none 0 0)]⟩)).upd i (some ⟨false, 59, 3, 1, [.row j (L.length + 1), .val (.int .i64 size), .val (.int .i64 left)]⟩)).upd n (some ⟨true, 27, 1, 0, []⟩)).upd j (some ⟨true, 40, 1, L.length + 1, fl eN (L ++ [(n, [])])⟩)) (n0 := n + 1) ?_ ?_
  · refine W_seqN (E' := ⟨61, [], [(0, .ref i 0), (1, .val (.int .i64 k)), (7, .val (.int .i64 ((L.length : Int) - 1))), (44, .val (.bool true))]⟩) (O' := O) (n0 := n) ?_ ?_
    · by_cases c : L.length = 0
      · have c8 : decide ((L.length : Int) - 1 < 0) = true := decide_eq_true (by omega)
        refine W_regionD tab_ok [some false, some false, some false, some false, some false, some false, some false, some false, some false, some false, some false, some false, some false] ?_
        simp only [push_cast, seval, ↓reduceIte, cast_lit, hi, hj, ho, hoj, hlr, c8]
        refine And.intro rfl (fit_env hU rfl ?_)
        simp only [push_cast, seval, ↓reduceIte, cast_lit, hi, hj, ho, hoj, hlr]
      · obtain ⟨hlt, x, hx, hnf⟩ := hf.resolve_left c
        have c8 : decide ((L.length : Int) - 1 < 0) = false := decide_eq_false (by omega)
        have c9 : decide (k ≤ IntKind.i64.wrap (size - (x.2.length : Int))) = false := decide_eq_false hnf
        have c10 : decide ((L.length : Int) < 16) = true := decide_eq_true (by omega)
        refine W_regionD tab_ok [some true, some true, some true, some true, some true, some true, some true, some true, some true, some true, some true, some true, some true] ?_
        simp only [push_cast, seval, ↓reduceIte, cast_lit, hi, hj, ho, hoj, hlr, c8, c9, c10]
        refine (fits_ok hi hj ho hoj hx).then ?_
        simp only [push_cast, seval, ↓reduceIte, cast_lit, hi, hj, ho, hoj, hlr, c8, c9, c10]
        refine And.intro rfl (fit_env hU rfl ?_)
        simp only [push_cast, seval, ↓reduceIte, cast_lit, hi, hj, ho, hoj, hlr]
    refine W_cond (t := true) rfl (fun c15 => ?_) (fun c15 => by cases c15)
    refine W_seqK ?_
    have h5 : ∀ o, O.upd n o j = some ⟨true, 40, 1, L.length, fl eN L⟩ := fun o => (upd_ne O o (by omega)).trans hoj
    have h6 : ∀ o o', (O.upd n o).upd j o' i = some ⟨false, 59, 3, 1, [.row j L.length, .val (.int .i64 size), .val (.int .i64 left)]⟩ := fun o o' => (upd_ne _ o' hij).trans ((upd_ne O o (by omega)).trans ho)
    refine W_regionD tab_ok [] ?_
    simp only [push_cast, seval, ↓reduceIte, cast_lit, hi, hj, ho, hoj, hlr, hN0, hN, h5, h6]
    refine ⟨⟨by omega, by omega⟩, ?_⟩
    have hU1 : Und ((O.upd j (some ⟨true, 40, 1, L.length + 1, fl eN L ++ [.val (.slice none 0 0)]⟩)).upd i (some ⟨false, 59, 3, 1, [.row j (L.length + 1), .val (.int .i64 size), .val (.int .i64 left)]⟩)) n :=
      (hU.set hj (unders_app _ _ (und_eN _ hν) (by simp [G.unders, G.under]))).set hi (by simp [G.unders, G.under, hj])
    refine W_fit2 (E' := ⟨61, [], [(0, .ref i 0), (1, .val (.int .i64 k)), (7, .val (.int .i64 ((L.length : Int) - 1)))]⟩) (O' := ((O.upd j (some ⟨true, 40, 1, L.length + 1, fl eN L ++ [.val (.slice none 0 0)]⟩)).upd i (some ⟨false, 59, 3, 1, [.row j (L.length + 1), .val (.int .i64 size), .val (.int .i64 left)]⟩))) (n' := n) (Fit2.of ⟨rfl, less_of hU1 fun t o ht => ?_, ?_⟩ (Nat.le_refl _)) ?_
    · by_cases e1 : t = i
      · subst e1; rw [upd_same] at ht ⊢; exact ht
      · rw [upd_ne _ _ e1] at ht ⊢
        by_cases e2 : t = j
        · subst e2; rw [upd_same] at ht ⊢; exact ht
        · rw [upd_ne _ _ e2] at ht ⊢
          by_cases e3 : t = n
          · subst e3; rw [hN0] at ht; cases ht
          · rw [upd_ne _ _ e3]; exact ht
    · simp only [push_cast, seval, ↓reduceIte, cast_lit, hi, hj]
    refine W_adoptF (p := j) (k := L.length) (q := ⟨true, 40, 1, L.length + 1, fl eN L ++ [.val (.slice none 0 0)]⟩) 27 1 (by rw [upd_ne _ _ (Ne.symm hij), upd_same]) (by rw [List.getElem?_append_right (by rw [len_eN]; omega), len_eN]; simp) ?_
    have hset : (fl eN L ++ [G.val (.slice none 0 0)]).set L.length (.row n 0) = fl eN (L ++ [(n, [])]) := by
      rw [List.set_append_right _ _ (by rw [len_eN]; omega), len_eN, ← fl_snoc]; simp [eN]
    simp only [hset]
    have hlt : ∀ y ∈ L ++ [(n, ([] : List Int))], y.1 < n + 1 := fun y hy => by
      rcases List.mem_append.1 hy with h | h
      · have := hν y h; omega
      · rw [List.mem_singleton.1 h]; exact Nat.lt_succ_self _
    have hU2 := ((hU1.more (Nat.le_succ n)).set (q := ⟨true, 27, 1, 0, []⟩) (Nat.lt_succ_self n) (by simp [G.unders])).set (q := ⟨true, 40, 1, L.length + 1, fl eN (L ++ [(n, [])])⟩) (i := j) (by omega) (und_eN _ hlt)
    have hi1 : i < n + 1 := by omega
    refine W_regionD tab_ok [] ?_
    have hw2 : IntKind.i64.wrap ((L.length : Int) - 1 + 1) = (L.length : Int) := by rw [i64w (by omega)]; omega
    simp only [push_cast, seval, ↓reduceIte, cast_lit, hw2]
    simp only [fl_snoc]
    refine And.intro rfl (fit_envB hU2 (Nat.le_succ n) rfl ?_)
    simp only [push_cast, seval, ↓reduceIte, cast_lit, hi1]
  refine W_seqK ?_
  have hi1 : i < n + 1 := by omega
  refine W_regionD tab_ok [] ?_
  simp only [push_cast, seval, ↓reduceIte, cast_lit, hi1]
  simp only [fl_snoc]
  have hin : i ≠ n := by omega
  have hjn : j ≠ n := by omega
  have hlt : ∀ y ∈ L ++ [(n, ([] : List Int))], y.1 < n + 1 := fun y hy => by
    rcases List.mem_append.1 hy with h | h
    · have := hν y h; omega
    · rw [List.mem_singleton.1 h]; exact Nat.lt_succ_self _
  have hlen : (L ++ [(n, ([] : List Int))]).length = L.length + 1 := by simp
  have hget : getI (L ++ [(n, ([] : List Int))]) (L.length : Int) = some (n, []) := by
    unfold getI; rw [if_pos (by omega), Int.toNat_natCast, List.getElem?_append_right (Nat.le_refl _)]; simp
  have g := grow_ok (O := (((O.upd j (some ⟨true, 40, 1, L.length + 1, fl eN L ++ [.val (.slice none 0 0)]⟩)).upd i (some ⟨false, 59, 3, 1, [.row j (L.length + 1), .val (.int .i64 size), .val (.int .i64 left)]⟩)).upd n (some ⟨true, 27, 1, 0, []⟩)).upd j (some ⟨true, 40, 1, L.length + 1, fl eN (L ++ [(n, [])])⟩)) (n := n + 1) (i := i) (j := j) (L := L ++ [(n, [])]) (size := size) (left := left) (s := (L.length : Int)) (k := k) (x := (n, [])) (by omega) (by omega) hlt hij hin hjn
    (by rw [upd_ne _ _ hij, upd_ne _ _ hin, upd_same, hlen]) (by rw [upd_same, hlen]) hget (by rw [upd_ne _ _ (Ne.symm hjn), upd_same]; rfl) hk (by simp; omega)
  refine g.then ?_
  simp only [push_cast, seval, ↓reduceIte, cast_lit]
  have hs : setI (L ++ [(n, ([] : List Int))]) (L.length : Int) (n, zl [] k) = L ++ [(n, zl [] k)] := by
    unfold setI; rw [Int.toNat_natCast, List.set_append_right _ _ (Nat.le_refl _)]; simp
  have hlt2 : ∀ y ∈ L ++ [(n, zl [] k)], y.1 < n + 1 := fun y hy => by
    rcases List.mem_append.1 hy with h | h
    · have := hν y h; omega
    · rw [List.mem_singleton.1 h]; exact Nat.lt_succ_self _
  simp only [hs, fl_snoc, upd_adopt hin hjn hij]
  refine W_ret ?_
  try simp only [gthen, gblock]
  refine fin_plain (P := Try.prog) (.inr rfl) ((((hU.more (Nat.le_succ n)).set (Nat.lt_succ_self n) (und_eI_u64 _)).set (by omega) (und_eN _ hlt2)).set (by omega) ?_) [.val (.int .i64 (L.length : Int)), .val (.int .i64 0), .val (.bool true)] (Nat.le_succ _) ?_
  · have : j < n + 1 := by omega
    simp [G.unders, G.under, this]
  · simp only [push_cast, seval, ↓reduceIte, cast_lit, Try.results19]


end Go.Proofs.Ytpggbianhdebmaa
