/- Part VM1 of this seat's mirrors: functions of the seat's program, and the plain functions that they are; each theorem bears its own conditions. -/
import Derived.Test.YtmlhokaflhlhbaaVE
namespace Go.Proofs.Ytmlhokaflhlhbaa
open Go.RowKit
set_option linter.unusedVariables false
set_option linter.unusedSimpArgs false
set_option maxRecDepth 100000
set_option maxHeartbeats 4000000
attribute [local push_cast] J6 Vi Zy Z4 Zl Zf6 Zf5 Zgw Zgv Zi Zd Zc7 Gs Gr onW Ye K9 Km Zga Zfb Zb3 Zb8 Zb2 Zb7 Zd1 Zdy Zb6 Zd0 Zdz Zb4 Zdw Zak evS wok Yu Op.operands Call.operands gop onK onP atK List.all_cons List.all_nil Bool.and_true Bool.true_and Bool.and_self Value.oneCell' List.take_zero List.take_succ_cons List.take_nil List.drop_zero List.drop_succ_cons List.drop_nil List.append_nil Nat.add_zero Nat.zero_add Qu Zz ev Yy Zll Zfw Zfv Zf1 Zfz Zf0 Zfx Zfy Zfu Zih Zi4 Zlm Za8 Kr Zaz K4 Zbn U1 Ub Ug Gn Gk Ue Gm Gl Ud Gi Uc Uf Vj Gj Zc9 Gt Jt Za0 Ju Zcd Za7 Zju bLo bHi bMx Ks Zcc Zmm Za6 Zcm V9 Q0 Zix Zmq Zax Zmt Kq Znp Zdc Zdg Zdb Zdf Zgi Zgf Zgd Zbp Zdd Zgh Zgg Zde Zge Zcs Zik Zdr Zaf Zae pop TK.isAgg Zgp Zgt Zgo Zgs Zdk Zka Zj7 Zgr Zj9 Zj8 Zgq Zj6 G.under G.unders List.getD_cons_zero List.getD_cons_succ List.set_cons_zero List.set_cons_succ List.map_cons List.map_nil List.toList_toArray Array.toList_append Option.toArray_none Option.toArray_some Array.toList_map Option.map_some Option.map_none Option.bind_some Option.bind_none List.getElem?_cons_zero List.getElem?_cons_succ List.getElem?_nil List.nil_append List.cons_append List.replicate_succ List.replicate_zero List.length_cons List.length_nil and_true true_and and_false false_and Bool.true_eq_false Bool.false_eq_true forall_const false_implies implies_true IntKind.bits if_true if_false ite_true ite_false eq_self true_implies false_or or_false or_true true_or not_true_eq_false not_false_eq_true decide_true decide_false decide_eq_true_eq decide_eq_false_iff_not beq_iff_eq bne_iff_ne ne_eq Bool.not_eq_true Bool.not_eq_false beq_eq_false_iff_ne bne_eq_false_iff_eq beq_self_eq_true bne_self_eq_false Option.some.injEq exists_eq_left' exists_eq_left ge_iff_le gt_iff_lt decide_not Bool.not_true Bool.not_false imp_self Zjx cond_true cond_false Zrr Zrq Bool.not_not Bool.and_false Bool.false_and Bool.or_true Bool.true_or Bool.or_false Bool.false_or Za4 Zfk Zeo Zc4 Zbi U8 Option.join_some Nat.add_assoc Int.toNat_natCast eI eB eS eL Zif Ga Ul Zf9 Zf7 Zf8 Zn1 Zpu Ge Ur Zg3 Zg1 Zg2 Zlu Ze9 Zjo Zg8 Zlj Vy Zig List.length_append G.agg.injEq G.row.injEq G.ref.injEq G.val.injEq G.sl.injEq G.tup.injEq Value.int.injEq Value.bool.injEq Value.string.injEq List.cons.injEq exists_and_left exists_const List.flatten_cons List.flatten_nil Int.le_refl Nat.le_refl Zek Vg Zc5 Bool.not_eq_true' Bool.not_eq_false' Zic Zaq Zlc Zlg Zlb Zlf Zpe Zpa List.size_toArray Zi5 Zi2 G.ren G.rens Zlw Zcg Zg7 Zfr Zfs Zdx Zlh G0 G.fn.injEq Zb9 Zen Zia Zpb Zem Zle Zpd Zpc Zld Zj1 Znw Option.join_none Xs Js undef Zcn Arr.len Arr.put_eq Gd Zbs Zaa Uq Zg0 Zgy Zgz onB Zn0 Ziv Zdv Zcu Zcv Zcw Zcx Zcy Zcz Zbq Zbw Zbu Zad Us Zbv Zdq Zdp Zdo Zdn Zpt Zq7 Zlt Zkc X0 Zlo Zgj Zby Zac Zm1 Zha Za5 Zcl Za1 Zbz Zc0 Zc1 Zc2 Zc3 Zbb Zbc Zbd Zbe Zbf Zbg Zbh Uh prT Vm Zsi Zk0 Zoq Zk1 Zsj Zk2 Zsk Zk3 Zsl Zk4 Zsm Zk5 Zsn Zk6 Zso Zk7 Zn9 Zhb Zoa Zhc Zob Zhd Zoc Zhe Zod Zhf Zoe Zhg Zof Zhh Zog Zhi Zoh Zhj Zoi Zhk Zoj Zhl Zok Zhm Zol Zhn Zom Zew Zon Zho Zoo Zhp Zop Zhq Vw Zhr Zor Zhs Zos Zht Vx Za3 Zot Zhu Zou Zhv Zov Zhw Zow Zhx Zox Zhy Zoy Zhz Zoz Zh0 Zo0 Zh1 Zo1 Zh2 Zo2 Zh3 Zo3 Zh4 Zo4 Zh5 Zo5 Zh6 Zo6 Zh7 Zo7 Zh8 Zo8 Zh9 Zkj Zd3 Zkk Zd4 Zkl Zd5 Zkm Zd6 Zkn Zd7 Zko Zd8 Zkp Zd9 Zkq Zea Zkr Zeb Zks Zec Zkt Zed Zku Zee Zkv Zef Zkw Zeg Zkx Zeh Zky Zei Zkz Zej Zas Zap Gw Gz Zav U0 Ux Uv Zam K1 K0 Kt Kx K2 Kb Ka J9 Kz Ze Qd Qc X8 Qa Qe X5 X4 X3 Qb Uj Zar Zao Gv Gy Zau Uz Uw Uu Zal Ui J8 Qj Qk J7 Zu Xu Xt Xp Xq Xv Xh Xf Xe Xr Z3 Qg Jj Ji Ja Je Jk Q5 Q4 Q3 Jh
theorem Jn {a0 r : List Int} {O : Objs} {n : Nat} (h : Z9 a0 = some r) : GTo Try.prog 70 [.sl a0.length (fl (eI .u64) a0)] O n (.row n r.length) (Z5 O n [some ⟨true, 31, 1, r.length, fl (eI .u64) r⟩]) (n + 1) := by
 have h1 := Zrn h
 have h2 := Zro h
 have h3 := Zp5 h
 rw [List.nil_append] at h3
 subst h3
 simp only [List.length_nil, Nat.zero_add] at h1 h2
 clear h
 refine Ym Zc Try.call70 Try.func70 rfl (Nat.le_of_ble_eq_true rfl) (by omega) fun hU => ?_
 have hN0 : O n = none := hU.fresh _ (Nat.le_refl _)
 have hN : ∀ k, O (n + k) = none := fun k => hU.fresh _ (Nat.le_add_right _ _)
 show W _ _ _ _ ⟨8, [], [(0, .sl r.length (fl (eI .u64) r))]⟩ (Z5 O n []) _
 refine Zn [0] (Zb Zc [] ?_)
 simp only [push_cast, seval, ↓reduceIte, Za, hN0, hN]
 refine Ztj 0 r.length (fl (eI .u64) r) rfl (Nat.le_of_ble_eq_true rfl) (Z7 Qi _) fun A c hA => ?_
 refine Zn [0, 4] (Zb Zc [] ?_)
 simp only [push_cast, seval, ↓reduceIte, Za, hN0, hN]
 cases A with
 | none =>
  obtain rfl : r = [] := List.eq_nil_of_length_eq_zero (hA rfl)
  refine Zo (t := true) rfl (fun _ => ?_) (fun hc => by cases hc)
  refine Zn [2] (Zb Zc [] ?_)
  simp only [push_cast, seval, ↓reduceIte, Za, hN0, hN]
  refine Zq ?_
  try simp only [Zi, Zd]
  refine Zrx (k := 1) (L3 := [some ⟨true, 31, 1, 0, []⟩]) (E2 := ⟨8, [], [(2, .row n 0), (2, .val (.slice none 0 0))]⟩) (n3 := (n + 1)) (.inr rfl) hU rfl [.row n 0] ?_ ?_
  ·have ha := Zqp (ba := n) (E := ⟨8, [], [(2, .val (.slice none 0 0))]⟩) (O := (Z5 O n [])) (n := n) 2 31 1 rfl (by omega)
   simp only [U8] at ha
   exact ha
  simp only [push_cast, seval, ↓reduceIte, Za, Try.results70, hN0, hN]
 | some A =>
  refine Zo (t := false) rfl (fun hc => by cases hc) (fun _ => ?_)
  refine Zw ?_
  try simp only [Zi, Zd]
  refine And.intro rfl (And.intro (Nat.le_of_ble_eq_true rfl) ?_)
  refine Zg ?_
  refine Zb Zc [] ?_
  simp only [push_cast, seval, ↓reduceIte, Za, h1, h2, hN0, hN]
  refine Zq ?_
  try simp only [Zi, Zd]
  refine Zrw (.inr rfl) hU rfl [.row n r.length] (by omega) ?_
  simp only [push_cast, seval, ↓reduceIte, Za, Try.results70, hN0, hN]
theorem V3 {a0 r : List Int} {O : Objs} {n : Nat} (h : Z9 a0 = some r) : GTo Try.prog 70 [.sl a0.length (fl (eI .u64) a0)] O n (.sl r.length (fl (eI .u64) r)) O n := by
 refine GTo.freeze (Jn h) fun hU => ?_
 have hN0 : O n = none := hU.fresh _ (Nat.le_refl _)
 have hN : ∀ k, O (n + k) = none := fun k => hU.fresh _ (Nat.le_add_right _ _)
 simp only [push_cast, seval, ↓reduceIte, Za, hN0, hN]
theorem Zj4 {a0 : (List (List Int))} {r : (List (List Int))} {O : Objs} {n : Nat} (h : Kv a0 = some r) : GTo Try.prog 47 [.sl a0.length (fl (eL (eI .u64)) a0)] O n (.sl r.length (fl (eL (eI .u64)) r)) O n := by
 unfold Kv at h
 refine Ym Zc Try.call47 Try.func47 rfl (Nat.le_of_ble_eq_true rfl) (Nat.le_refl _) fun hU => ?_
 have hN0 : O n = none := hU.fresh _ (Nat.le_refl _)
 have hN : ∀ k, O (n + k) = none := fun k => hU.fresh _ (Nat.le_add_right _ _)
 show W _ _ _ _ ⟨23, [], [(0, .sl a0.length (fl (eL (eI .u64)) a0))]⟩ (Z5 O n []) _
 refine Zn [0] (Zb Zc [] ?_)
 simp only [push_cast, seval, ↓reduceIte, Za, hN0, hN]
 refine Zg ?_
 obtain ⟨l2, al2, bl2, cl2, el2, h⟩ := bM2 (c := 24) rfl h
 have nl2 : Int.toNat (a0.length : Int) = List.length l2 := by rw [el2, List.length_replicate]
 have fl2 : ∀ O O' n, Vf O O' n (List.replicate (List.length l2) [G.val (.slice none 0 0)]).flatten (fl (eL (eI .u64)) l2) = True := fun O O' n => by rw [← nl2, el2]; exact eq_true (Zpf _ _)
 clear el2
 refine Zb Zc [] ?_
 simp only [push_cast, seval, ↓reduceIte, Za, al2, bl2, cl2, fl2, nl2, hN0, hN]
 refine Zp4 ⟨23, [], [(0, .sl a0.length (fl (eL (eI .u64)) a0)), (3, .row n l2.length)]⟩ (Z5 O n [some ⟨true, 42, 1, l2.length, fl (eL (eI .u64)) l2⟩]) (Zp hU rfl rfl ?_) ?_
 ·simp only [push_cast, seval, ↓reduceIte, Za, al2, bl2, cl2, fl2, nl2, hN0, hN]
 refine Zg ?_
 refine Zn [3, 9, 10, 11] (Zb Zc [] ?_)
 simp only [push_cast, seval, ↓reduceIte, Za, hN0, hN]
 refine Zf [3, 9, 10, 11] [true] ?_
 simp only [push_cast, seval, ↓reduceIte]
 obtain ⟨z9, hz9, h⟩ := bC h
 refine Gg (E' := ⟨23, [], [(3, .row n z9.length)]⟩) (O' := (Z5 O n [some ⟨true, 42, 1, z9.length, fl (eL (eI .u64)) z9⟩])) (n0 := (n + 1)) ?_ ?_
 ·refine Zcb hz9 (fun s0_ => ⟨23, [], [(3, .row n s0_.2.length), (9, .sl a0.length (fl (eL (eI .u64)) a0)), (10, .val (.int .i64 (a0.length : Int))), (11, .val (.int .i64 s0_.1))]⟩) (fun s0_ => (Z5 O n [some ⟨true, 42, 1, s0_.2.length, fl (eL (eI .u64)) s0_.2⟩])) (fun z9 => JX 0 n (⟨23, [], [(3, .row n z9.length)]⟩ : Env) (Z5 O n [some ⟨true, 42, 1, z9.length, fl (eL (eI .u64)) z9⟩]) (n + 1)) ?_
  intro s0_ x0_ hs0_
  unfold Qh at hs0_
  try dsimp only
  refine Zn [3, 9, 10, 11, 12] (Zb Zc [] ?_)
  simp only [push_cast, seval, ↓reduceIte, Za, hN0, hN]
  refine Zg ?_
  refine Zo (t := (decide (s0_.1 < (a0.length : Int)))) rfl (fun c8 => ?_) (fun c8 => ?_)
  ·replace hs0_ := Zs c8 hs0_
   refine Zw ?_
   try simp only [Zi, Zd]
   refine Zf [3, 9, 10, 11] [true] ?_
   simp only [push_cast, seval, ↓reduceIte]
   refine Zg ?_
   refine Qz ?_
   obtain ⟨x4, hx4, ax4, bx4, cx4, hs0_⟩ := bE (f := (eL (eI .u64))) Vx (fun _ => rfl) (by decide) hs0_
   refine Zn [3, 4, 5, 9, 10, 11] (Zb Zc [] ?_)
   simp only [push_cast, Nat.reduceAdd, Nat.reduceSub, Nat.reduceMul, Nat.reduceLeDiff, Nat.reduceLT, Nat.reduceEqDiff, ↓reduceIte, reduceCtorEq, Int.reduceBEq, Int.reduceBNe, Nat.reduceBEq, Int.reduceLE, Int.reduceLT, Int.reduceEq, Int.reduceNe, Int.reduceNeg, Nat.reduceDiv, Nat.reduceMod, Nat.reducePow, Za, ax4, bx4, cx4, hN0, hN]
   obtain ⟨y5, hy5, hs0_⟩ := bC hs0_
   obtain ⟨x6, hx6, ax6, bx6, cx6, hs0_⟩ := bE (f := (eL (eI .u64))) Vx (fun _ => rfl) (by decide) hs0_
   have gu7 : V0 (fl (eL (eI .u64)) s0_.2) [.sl y5.length (fl (eI .u64) y5)] (Int.toNat s0_.1 * 1) = some (fl (eL (eI .u64)) (Zki s0_.2 s0_.1 y5)) := Zqz (f := (eL (eI .u64))) (ti := ⟨.bool, 1, 0, [], false⟩) (x := y5) (fun _ => rfl) (Zjs hx6)
   refine Zb Zc [] ?_
   simp only [push_cast, Nat.reduceAdd, Nat.reduceSub, Nat.reduceMul, Nat.reduceLeDiff, Nat.reduceLT, Nat.reduceEqDiff, ↓reduceIte, reduceCtorEq, Int.reduceBEq, Int.reduceBNe, Nat.reduceBEq, Int.reduceLE, Int.reduceLT, Int.reduceEq, Int.reduceNe, Int.reduceNeg, Nat.reduceDiv, Nat.reduceMod, Nat.reducePow, Za, ax6, bx6, cx6, gu7, hN0, hN]
   refine (V3 hy5).then ?_
   simp only [push_cast, Nat.reduceAdd, Nat.reduceSub, Nat.reduceMul, Nat.reduceLeDiff, Nat.reduceLT, Nat.reduceEqDiff, ↓reduceIte, reduceCtorEq, Int.reduceBEq, Int.reduceBNe, Nat.reduceBEq, Int.reduceLE, Int.reduceLT, Int.reduceEq, Int.reduceNe, Int.reduceNeg, Nat.reduceDiv, Nat.reduceMod, Nat.reducePow, Za, ax6, bx6, cx6, gu7, hN0, hN]
   refine Zf [3, 9, 10, 11] [true] ?_
   simp only [push_cast, seval, ↓reduceIte]
   refine Zb Zc [] ?_
   simp only [push_cast, seval, ↓reduceIte, Za, hN0, hN]
   have hs0_ := Option.some.inj hs0_; subst hs0_
   refine And.intro rfl (Fit2.of (Zp hU rfl rfl ?_) (by omega))
   simp only [push_cast, seval, ↓reduceIte, Za, hN0, hN]
  replace hs0_ := Zr c8 hs0_
  refine Ze7 ?_
  try simp only [Zi, Zd, ↓reduceIte, Nat.reduceEqDiff]
  have hs0_ := Option.some.inj hs0_; subst hs0_
  refine And.intro (fun h => by cases h) (And.intro rfl (Fit2.of (Zp hU rfl rfl ?_) (by omega)))
  simp only [push_cast, seval, ↓reduceIte, Za, hN0, hN]
 try simp only [Zi, Zd, ↓reduceIte, Nat.reduceEqDiff]
 refine Zf [3] [true] ?_
 simp only [push_cast, seval, ↓reduceIte]
 refine Zn [2] (Zb Zc [] ?_)
 simp only [push_cast, seval, ↓reduceIte, Za, hN0, hN]
 refine Zq ?_
 try simp only [Zi, Zd]
 have h := Option.some.inj h; subst h
 refine Zk (.inr rfl) hU [.row n z9.length] (by omega) ?_
 simp only [push_cast, seval, ↓reduceIte, Za, Try.results47, hN0, hN]
theorem Zi1 {a0 : (List (List Int))} {r : (Option Zj)} {O : Objs} {n : Nat} (h : V1 a0 = some r) : GTo Try.prog 15 [.sl a0.length (fl (eL (eI .u64)) a0)] O n ((gP Ze r)) O n := by
 unfold V1 at h
 refine Ym Zc Try.call15 Try.func15 rfl (Nat.le_of_ble_eq_true rfl) (Nat.le_refl _) fun hU => ?_
 have hN0 : O n = none := hU.fresh _ (Nat.le_refl _)
 have hN : ∀ k, O (n + k) = none := fun k => hU.fresh _ (Nat.le_add_right _ _)
 show W _ _ _ _ ⟨7, [], [(0, .sl a0.length (fl (eL (eI .u64)) a0))]⟩ (Z5 O n []) _
 refine Zn [0] (Zb Zc [] ?_)
 simp only [push_cast, seval, ↓reduceIte, Za, hN0, hN]
 refine Zg ?_
 obtain ⟨y2, hy2, h⟩ := bC h
 refine Zb Zc [] ?_
 simp only [push_cast, seval, ↓reduceIte, Za, hN0, hN]
 refine (Zj4 hy2).then ?_
 simp only [push_cast, seval, ↓reduceIte, Za, hN0, hN]
 refine Zf [2] [true] ?_
 simp only [push_cast, seval, ↓reduceIte]
 refine Zq ?_
 try simp only [Zi, Zd]
 have h := Option.some.inj h; subst h
 refine Zk (.inr rfl) hU [.ref n 0] (by omega) ?_
 simp only [push_cast, seval, ↓reduceIte, Za, Try.results15, hN0, hN]
theorem Zfg {a0 : (Option Zj)} {r : Int} {O : Objs} {n : Nat} (h : J5 a0 = some r) : GTo Try.prog 106 [(gP Ze a0)] O n (.val (.int .i64 r)) O n := by
 unfold J5 at h
 refine Ym Zc Try.call106 Try.func106 rfl (Nat.le_of_ble_eq_true rfl) (Nat.le_refl _) fun hU => ?_
 have hN0 : O n = none := hU.fresh _ (Nat.le_refl _)
 have hN : ∀ k, O (n + k) = none := fun k => hU.fresh _ (Nat.le_add_right _ _)
 show W _ _ _ _ ⟨10, [], [(0, (gP Ze a0))]⟩ (Z5 O n []) _
 refine Zn [0] (Zb Zc [] ?_)
 simp only [push_cast, seval, ↓reduceIte, Za, hN0, hN]
 refine Zg ?_
 have g2 := Znk (f := Ze) (t := 24) Zew a0
 refine Zn [0, 4] (Zb Zc [] ?_)
 simp only [push_cast, seval, ↓reduceIte, Za, g2, hN0, hN]
 refine Zo (t := (Option.isNone a0)) rfl (fun c5 => ?_) (fun c5 => ?_)
 ·replace h := Zs c5 h
  refine Zn [2] (Zb Zc [] ?_)
  simp only [push_cast, seval, ↓reduceIte, Za, hN0, hN]
  refine Zq ?_
  try simp only [Zi, Zd]
  have h := Option.some.inj h; subst h
  refine Zk (.inr rfl) hU [.val (.int .i64 0)] (by omega) ?_
  simp only [push_cast, seval, ↓reduceIte, Za, Try.results106, hN0, hN]
 replace h := Zr c5 h
 refine Zw ?_
 try simp only [Zi, Zd]
 refine Zf [0] [] ?_
 simp only [push_cast, seval, ↓reduceIte]
 obtain ⟨x4, hx4, h⟩ := bC h
 refine Zn [2] (Zb Zc [] ?_)
 simp only [push_cast, seval, ↓reduceIte, Za, hx4, hN0, hN]
 refine Zq ?_
 try simp only [Zi, Zd]
 have h := Option.some.inj h; subst h
 refine Zk (.inr rfl) hU [.val (.int .i64 (x4.segments.length : Int))] (by omega) ?_
 simp only [push_cast, seval, ↓reduceIte, Za, Try.results106, hN0, hN]
theorem Y5 {a0 : (Option Zj)} {a1 : Int} {r : Bool} {O : Objs} {n : Nat} (h : Xi a0 a1 = some r) : GTo Try.prog 100 [(gP Ze a0), .val (.int .i64 a1)] O n (.val (.bool r)) O n := by
 unfold Xi at h
 refine Ym Zc Try.call100 Try.func100 rfl (Nat.le_of_ble_eq_true rfl) (Nat.le_refl _) fun hU => ?_
 have hN0 : O n = none := hU.fresh _ (Nat.le_refl _)
 have hN : ∀ k, O (n + k) = none := fun k => hU.fresh _ (Nat.le_add_right _ _)
 show W _ _ _ _ ⟨13, [], [(0, (gP Ze a0)), (1, .val (.int .i64 a1))]⟩ (Z5 O n []) _
 refine Zn [0, 1] (Zb Zc [] ?_)
 simp only [push_cast, seval, ↓reduceIte, Za, hN0, hN]
 obtain ⟨z2, hz2, h⟩ := bC h
 refine Q6 (E' := ⟨13, [], [(4, .val (.bool z2))]⟩) (O' := (Z5 O n [])) (n0 := n) ?_ ?_
 ·rcases Bool.eq_false_or_eq_true (decide (0 ≤ a1)) with c5 | c5
  ·replace hz2 := Zs c5 hz2
   obtain ⟨y4, hy4, hz2⟩ := bC hz2
   refine Zb Zc [some true, some true, some true, some true] ?_
   simp only [push_cast, seval, ↓reduceIte, Za, c5, hN0, hN]
   refine (Zfg hy4).then ?_
   simp only [push_cast, seval, ↓reduceIte, Za, c5, hN0, hN]
   have hz2 := Option.some.inj hz2; subst hz2
   refine And.intro rfl (Fit2.of (Zp hU rfl rfl ?_) (by omega))
   simp only [push_cast, seval, ↓reduceIte, Za, c5, hN0, hN]
  replace hz2 := Zr c5 hz2
  refine Zb Zc [some false, some false, some false, some false] ?_
  simp only [push_cast, seval, ↓reduceIte, Za, c5, hN0, hN]
  have hz2 := Option.some.inj hz2; subst hz2
  refine And.intro rfl (Fit2.of (Zp hU rfl rfl ?_) (by omega))
  simp only [push_cast, seval, ↓reduceIte, Za, c5, hN0, hN]
 refine Zq ?_
 try simp only [Zi, Zd]
 have h := Option.some.inj h; subst h
 refine Zk (.inr rfl) hU [.val (.bool z2)] (by omega) ?_
 simp only [push_cast, seval, ↓reduceIte, Za, Try.results100, hN0, hN]
theorem Ko {a0 : (Option Zj)} {a1 : Int} {r : Int} {O : Objs} {n : Nat} (h : Xw a0 a1 = some r) : GTo Try.prog 101 [(gP Ze a0), .val (.int .i64 a1)] O n (.val (.int .i64 r)) O n := by
 unfold Xw at h
 refine Ym Zc Try.call101 Try.func101 rfl (Nat.le_of_ble_eq_true rfl) (Nat.le_refl _) fun hU => ?_
 have hN0 : O n = none := hU.fresh _ (Nat.le_refl _)
 have hN : ∀ k, O (n + k) = none := fun k => hU.fresh _ (Nat.le_add_right _ _)
 show W _ _ _ _ ⟨17, [], [(0, (gP Ze a0)), (1, .val (.int .i64 a1))]⟩ (Z5 O n []) _
 refine Zn [0, 1] (Zb Zc [] ?_)
 simp only [push_cast, seval, ↓reduceIte, Za, hN0, hN]
 refine Zg ?_
 refine Zg ?_
 obtain ⟨y2, hy2, h⟩ := bC h
 refine Zb Zc [] ?_
 simp only [push_cast, seval, ↓reduceIte, Za, hN0, hN]
 refine (Y5 hy2).then ?_
 simp only [push_cast, seval, ↓reduceIte, Za, hN0, hN]
 refine Zf [0, 1, 8] [] ?_
 simp only [push_cast, seval, ↓reduceIte]
 refine Zo (t := (!y2)) rfl (fun c7 => ?_) (fun c7 => ?_)
 ·replace h := Zs c7 h
  refine Zn [4] (Zb Zc [] ?_)
  simp only [push_cast, seval, ↓reduceIte, Za, hN0, hN]
  refine Zq ?_
  try simp only [Zi, Zd]
  have h := Option.some.inj h; subst h
  refine Zk (.inr rfl) hU [.val (.int .i64 0)] (by omega) ?_
  simp only [push_cast, seval, ↓reduceIte, Za, Try.results101, hN0, hN]
 replace h := Zr c7 h
 refine Zw ?_
 try simp only [Zi, Zd]
 refine Zf [0, 1] [] ?_
 simp only [push_cast, seval, ↓reduceIte]
 obtain ⟨x5, hx5, h⟩ := bC h
 obtain ⟨x6, hx6, ax6, bx6, cx6, h⟩ := bE (f := (eL (eI .u64))) Vx (fun _ => rfl) (by decide) h
 refine Zn [4] (Zb Zc [] ?_)
 simp only [push_cast, Nat.reduceAdd, Nat.reduceSub, Nat.reduceMul, Nat.reduceLeDiff, Nat.reduceLT, Nat.reduceEqDiff, ↓reduceIte, reduceCtorEq, Int.reduceBEq, Int.reduceBNe, Nat.reduceBEq, Int.reduceLE, Int.reduceLT, Int.reduceEq, Int.reduceNe, Int.reduceNeg, Nat.reduceDiv, Nat.reduceMod, Nat.reducePow, Za, hx5, ax6, bx6, cx6, hN0, hN]
 refine Zq ?_
 try simp only [Zi, Zd]
 have h := Option.some.inj h; subst h
 refine Zk (.inr rfl) hU [.val (.int .i64 (x6.length : Int))] (by omega) ?_
 simp only [push_cast, seval, ↓reduceIte, Za, Try.results101, hN0, hN]
theorem K6 {a0 : (Option Zj)} {a1 : Int} {a2 : Int} {a3 : Int} {r : Bool} {O : Objs} {n : Nat} (h : Xa a0 a1 a2 a3 = some r) : GTo Try.prog 82 [(gP Ze a0), .val (.int .i64 a1), .val (.int .i64 a2), .val (.int .i64 a3)] O n (.val (.bool r)) O n := by
 unfold Xa at h
 refine Ym Zc Try.call82 Try.func82 rfl (Nat.le_of_ble_eq_true rfl) (Nat.le_refl _) fun hU => ?_
 have hN0 : O n = none := hU.fresh _ (Nat.le_refl _)
 have hN : ∀ k, O (n + k) = none := fun k => hU.fresh _ (Nat.le_add_right _ _)
 show W _ _ _ _ ⟨36, [], [(0, (gP Ze a0)), (1, .val (.int .i64 a1)), (2, .val (.int .i64 a2)), (3, .val (.int .i64 a3))]⟩ (Z5 O n []) _
 refine Zn [0, 1, 2, 3] (Zb Zc [] ?_)
 simp only [push_cast, seval, ↓reduceIte, Za, hN0, hN]
 obtain ⟨z4, hz4, h⟩ := bC h
 refine Q6 (E' := ⟨36, [], [(8, .val (.bool z4))]⟩) (O' := (Z5 O n [])) (n0 := n) ?_ ?_
 ·obtain ⟨y8, hy8, hz4⟩ := bC hz4
  rcases Bool.eq_false_or_eq_true y8 with c11 | c11
  ·replace hz4 := Zs c11 hz4
   rcases Bool.eq_false_or_eq_true (decide (0 ≤ a2)) with c12 | c12
   ·replace hz4 := Zs c12 hz4
    try rw [c12] at c11
    rcases Bool.eq_false_or_eq_true (decide (0 ≤ a3)) with c13 | c13
    ·replace hz4 := Zs c13 hz4
     try rw [c13] at c11
     try rw [c13] at c12
     obtain ⟨y9, hy9, hz4⟩ := bC hz4
     rcases Bool.eq_false_or_eq_true (decide (a3 ≤ y9)) with c14 | c14
     ·replace hz4 := Zs c14 hz4
      try rw [c14] at c11
      try rw [c14] at c12
      try rw [c14] at c13
      obtain ⟨y10, hy10, hz4⟩ := bC hz4
      refine Zb Zc [none, none, none, none, some true, some true, some true, some true, some true, some true, some true, some true, some true, some true, some true, some true] ?_
      simp only [push_cast, seval, ↓reduceIte, Za, c11, c12, c13, c14, hN0, hN]
      repeat (with_reducible refine And.intro (by first | (intro h0; simp only [h0, and_self]; done) | (intro h0; simp only [h0, Bool.not_false, Bool.not_true, Bool.true_and, Bool.and_true, true_and, and_true, and_self, imp_self, implies_true, bne_iff_ne, ne_eq, beq_iff_eq]; done) | (intros; simp_all; done) | exact True.intro) ?_)
      refine (Y5 hy8).then ?_
      simp only [push_cast, seval, ↓reduceIte, Za, c11, c12, c13, c14, hN0, hN]
      repeat (with_reducible refine And.intro (by first | (intro h0; simp only [h0, and_self]; done) | (intro h0; simp only [h0, Bool.not_false, Bool.not_true, Bool.true_and, Bool.and_true, true_and, and_true, and_self, imp_self, implies_true, bne_iff_ne, ne_eq, beq_iff_eq]; done) | (intros; simp_all; done) | exact True.intro) ?_)
      refine (Ko hy9).then ?_
      simp only [push_cast, seval, ↓reduceIte, Za, c11, c12, c13, c14, hN0, hN]
      repeat (with_reducible refine And.intro (by first | (intro h0; simp only [h0, and_self]; done) | (intro h0; simp only [h0, Bool.not_false, Bool.not_true, Bool.true_and, Bool.and_true, true_and, and_true, and_self, imp_self, implies_true, bne_iff_ne, ne_eq, beq_iff_eq]; done) | (intros; simp_all; done) | exact True.intro) ?_)
      refine (Ko hy10).then ?_
      simp only [push_cast, seval, ↓reduceIte, Za, c11, c12, c13, c14, hN0, hN]
      repeat (with_reducible refine And.intro (by first | (intro h0; simp only [h0, and_self]; done) | (intro h0; simp only [h0, Bool.not_false, Bool.not_true, Bool.true_and, Bool.and_true, true_and, and_true, and_self, imp_self, implies_true, bne_iff_ne, ne_eq, beq_iff_eq]; done) | (intros; simp_all; done) | exact True.intro) ?_)
      have hz4 := Option.some.inj hz4; subst hz4
      refine And.intro rfl (Fit2.of (Zp hU rfl rfl ?_) (by omega))
      simp only [push_cast, seval, ↓reduceIte, Za, c11, c12, c13, c14, hN0, hN]
     replace hz4 := Zr c14 hz4
     try rw [c14] at c11
     try rw [c14] at c12
     try rw [c14] at c13
     refine Zb Zc [none, none, none, none, some true, some true, some true, some true, some true, some false, some false, some false, some false, some false, some false, some false] ?_
     simp only [push_cast, seval, ↓reduceIte, Za, c11, c12, c13, c14, hN0, hN]
     repeat (with_reducible refine And.intro (by first | (intro h0; simp only [h0, and_self]; done) | (intro h0; simp only [h0, Bool.not_false, Bool.not_true, Bool.true_and, Bool.and_true, true_and, and_true, and_self, imp_self, implies_true, bne_iff_ne, ne_eq, beq_iff_eq]; done) | (intros; simp_all; done) | exact True.intro) ?_)
     refine (Y5 hy8).then ?_
     simp only [push_cast, seval, ↓reduceIte, Za, c11, c12, c13, c14, hN0, hN]
     repeat (with_reducible refine And.intro (by first | (intro h0; simp only [h0, and_self]; done) | (intro h0; simp only [h0, Bool.not_false, Bool.not_true, Bool.true_and, Bool.and_true, true_and, and_true, and_self, imp_self, implies_true, bne_iff_ne, ne_eq, beq_iff_eq]; done) | (intros; simp_all; done) | exact True.intro) ?_)
     refine (Ko hy9).then ?_
     simp only [push_cast, seval, ↓reduceIte, Za, c11, c12, c13, c14, hN0, hN]
     repeat (with_reducible refine And.intro (by first | (intro h0; simp only [h0, and_self]; done) | (intro h0; simp only [h0, Bool.not_false, Bool.not_true, Bool.true_and, Bool.and_true, true_and, and_true, and_self, imp_self, implies_true, bne_iff_ne, ne_eq, beq_iff_eq]; done) | (intros; simp_all; done) | exact True.intro) ?_)
     have hz4 := Option.some.inj hz4; subst hz4
     refine And.intro rfl (Fit2.of (Zp hU rfl rfl ?_) (by omega))
     simp only [push_cast, seval, ↓reduceIte, Za, c11, c12, c13, c14, hN0, hN]
    replace hz4 := Zr c13 hz4
    try rw [c13] at c11
    try rw [c13] at c12
    refine Zb Zc [none, none, none, none, some false, some false, some false, some false, some false, some false, some false, some false, some false, some false, some false, some false] ?_
    simp only [push_cast, seval, ↓reduceIte, Za, c11, c12, c13, hN0, hN]
    repeat (with_reducible refine And.intro (by first | (intro h0; simp only [h0, and_self]; done) | (intro h0; simp only [h0, Bool.not_false, Bool.not_true, Bool.true_and, Bool.and_true, true_and, and_true, and_self, imp_self, implies_true, bne_iff_ne, ne_eq, beq_iff_eq]; done) | (intros; simp_all; done) | exact True.intro) ?_)
    refine (Y5 hy8).then ?_
    simp only [push_cast, seval, ↓reduceIte, Za, c11, c12, c13, hN0, hN]
    repeat (with_reducible refine And.intro (by first | (intro h0; simp only [h0, and_self]; done) | (intro h0; simp only [h0, Bool.not_false, Bool.not_true, Bool.true_and, Bool.and_true, true_and, and_true, and_self, imp_self, implies_true, bne_iff_ne, ne_eq, beq_iff_eq]; done) | (intros; simp_all; done) | exact True.intro) ?_)
    have hz4 := Option.some.inj hz4; subst hz4
    refine And.intro rfl (Fit2.of (Zp hU rfl rfl ?_) (by omega))
    simp only [push_cast, seval, ↓reduceIte, Za, c11, c12, c13, hN0, hN]
   replace hz4 := Zr c12 hz4
   try rw [c12] at c11
   refine Zb Zc [none, none, none, none, some false, some false, some false, some false, some false, some false, some false, some false, some false, some false, some false, some false] ?_
   simp only [push_cast, seval, ↓reduceIte, Za, c11, c12, hN0, hN]
   repeat (with_reducible refine And.intro (by first | (intro h0; simp only [h0, and_self]; done) | (intro h0; simp only [h0, Bool.not_false, Bool.not_true, Bool.true_and, Bool.and_true, true_and, and_true, and_self, imp_self, implies_true, bne_iff_ne, ne_eq, beq_iff_eq]; done) | (intros; simp_all; done) | exact True.intro) ?_)
   refine (Y5 hy8).then ?_
   simp only [push_cast, seval, ↓reduceIte, Za, c11, c12, hN0, hN]
   repeat (with_reducible refine And.intro (by first | (intro h0; simp only [h0, and_self]; done) | (intro h0; simp only [h0, Bool.not_false, Bool.not_true, Bool.true_and, Bool.and_true, true_and, and_true, and_self, imp_self, implies_true, bne_iff_ne, ne_eq, beq_iff_eq]; done) | (intros; simp_all; done) | exact True.intro) ?_)
   have hz4 := Option.some.inj hz4; subst hz4
   refine And.intro rfl (Fit2.of (Zp hU rfl rfl ?_) (by omega))
   simp only [push_cast, seval, ↓reduceIte, Za, c11, c12, hN0, hN]
  replace hz4 := Zr c11 hz4
  refine Zb Zc [none, none, none, none, some false, some false, some false, some false, some false, some false, some false, some false, some false, some false, some false, some false] ?_
  simp only [push_cast, seval, ↓reduceIte, Za, c11, hN0, hN]
  repeat (with_reducible refine And.intro (by first | (intro h0; simp only [h0, and_self]; done) | (intro h0; simp only [h0, Bool.not_false, Bool.not_true, Bool.true_and, Bool.and_true, true_and, and_true, and_self, imp_self, implies_true, bne_iff_ne, ne_eq, beq_iff_eq]; done) | (intros; simp_all; done) | exact True.intro) ?_)
  refine (Y5 hy8).then ?_
  simp only [push_cast, seval, ↓reduceIte, Za, c11, hN0, hN]
  repeat (with_reducible refine And.intro (by first | (intro h0; simp only [h0, and_self]; done) | (intro h0; simp only [h0, Bool.not_false, Bool.not_true, Bool.true_and, Bool.and_true, true_and, and_true, and_self, imp_self, implies_true, bne_iff_ne, ne_eq, beq_iff_eq]; done) | (intros; simp_all; done) | exact True.intro) ?_)
  have hz4 := Option.some.inj hz4; subst hz4
  refine And.intro rfl (Fit2.of (Zp hU rfl rfl ?_) (by omega))
  simp only [push_cast, seval, ↓reduceIte, Za, c11, hN0, hN]
 refine Zq ?_
 try simp only [Zi, Zd]
 have h := Option.some.inj h; subst h
 refine Zk (.inr rfl) hU [.val (.bool z4)] (by omega) ?_
 simp only [push_cast, seval, ↓reduceIte, Za, Try.results82, hN0, hN]
theorem Qr {a0 : (Option Zj)} {a1 : Int} {a2 : Int} {r : (Int × Bool)} {O : Objs} {n : Nat} (h : Yl a0 a1 a2 = some r) : GTo Try.prog 60 [(gP Ze a0), .val (.int .i64 a1), .val (.int .i64 a2)] O n (.tup [.val (.int .u64 r.1), .val (.bool r.2)]) O n := by
 unfold Yl at h
 refine Ym Zc Try.call60 Try.func60 rfl (Nat.le_of_ble_eq_true rfl) (Nat.le_refl _) fun hU => ?_
 have hN0 : O n = none := hU.fresh _ (Nat.le_refl _)
 have hN : ∀ k, O (n + k) = none := fun k => hU.fresh _ (Nat.le_add_right _ _)
 show W _ _ _ _ ⟨23, [], [(0, (gP Ze a0)), (1, .val (.int .i64 a1)), (2, .val (.int .i64 a2))]⟩ (Z5 O n []) _
 refine Zn [0, 1, 2] (Zb Zc [] ?_)
 simp only [push_cast, seval, ↓reduceIte, Za, hN0, hN]
 refine Zg ?_
 refine Zg ?_
 obtain ⟨y2, hy2, h⟩ := bC h
 refine Zb Zc [] ?_
 simp only [push_cast, seval, ↓reduceIte, Za, hN0, hN]
 refine (K6 hy2).then ?_
 simp only [push_cast, seval, ↓reduceIte, Za, hN0, hN]
 refine Zf [0, 1, 2, 12] [] ?_
 simp only [push_cast, seval, ↓reduceIte]
 refine Zo (t := (!y2)) rfl (fun c9 => ?_) (fun c9 => ?_)
 ·replace h := Zs c9 h
  refine Zn [6, 7] (Zb Zc [] ?_)
  simp only [push_cast, seval, ↓reduceIte, Za, hN0, hN]
  refine Zq ?_
  try simp only [Zi, Zd]
  have h := Option.some.inj h; subst h
  refine Zk (.inr rfl) hU [.val (.int .u64 0), .val (.bool false)] (by omega) ?_
  simp only [push_cast, seval, ↓reduceIte, Za, Try.results60, hN0, hN]
 replace h := Zr c9 h
 refine Zw ?_
 try simp only [Zi, Zd]
 refine Zf [0, 1, 2] [] ?_
 simp only [push_cast, seval, ↓reduceIte]
 obtain ⟨x6, hx6, h⟩ := bC h
 obtain ⟨x7, hx7, ax7, bx7, cx7, h⟩ := bE (f := (eL (eI .u64))) Vx (fun _ => rfl) (by decide) h
 obtain ⟨x8, hx8, ax8, bx8, cx8, h⟩ := bE (f := (eI .u64)) Vw (fun _ => rfl) (by decide) h
 refine Zn [6, 7] (Zb Zc [] ?_)
 simp only [push_cast, Nat.reduceAdd, Nat.reduceSub, Nat.reduceMul, Nat.reduceLeDiff, Nat.reduceLT, Nat.reduceEqDiff, ↓reduceIte, reduceCtorEq, Int.reduceBEq, Int.reduceBNe, Nat.reduceBEq, Int.reduceLE, Int.reduceLT, Int.reduceEq, Int.reduceNe, Int.reduceNeg, Nat.reduceDiv, Nat.reduceMod, Nat.reducePow, Za, hx6, ax7, bx7, cx7, ax8, bx8, cx8, hN0, hN]
 refine Zq ?_
 try simp only [Zi, Zd]
 have h := Option.some.inj h; subst h
 refine Zk (.inr rfl) hU [.val (.int .u64 x8), .val (.bool true)] (by omega) ?_
 simp only [push_cast, seval, ↓reduceIte, Za, Try.results60, hN0, hN]
theorem Ze5 {a0 : Int} {r : Int} {O : Objs} {n : Nat} (h : Vq a0 = some r) : GTo Try.prog 95 [.val (.int .u64 a0)] O n (.val (.int .i64 r)) O n := by
 unfold Vq at h
 refine Ym Zc Try.call95 Try.func95 rfl (Nat.le_of_ble_eq_true rfl) (Nat.le_refl _) fun hU => ?_
 have hN0 : O n = none := hU.fresh _ (Nat.le_refl _)
 have hN : ∀ k, O (n + k) = none := fun k => hU.fresh _ (Nat.le_add_right _ _)
 show W _ _ _ _ ⟨8, [], [(0, .val (.int .u64 a0))]⟩ (Z5 O n []) _
 refine Zn [0] (Zb Zc [] ?_)
 simp only [push_cast, seval, ↓reduceIte, Za, hN0, hN]
 refine Zn [2] (Zb Zc [] ?_)
 simp only [push_cast, seval, ↓reduceIte, Za, hN0, hN]
 refine Zq ?_
 try simp only [Zi, Zd]
 have h := Option.some.inj h; subst h
 refine Zk (.inr rfl) hU [.val (.int .i64 (IntKind.i64.wrap (Int.fdiv (IntKind.i32.wrap (IntKind.u32.wrap a0)) (2 ^ min (Int.toNat 2) 32))))] (by omega) ?_
 simp only [push_cast, seval, ↓reduceIte, Za, Try.results95, hN0, hN]
theorem Kh {a0 : Int} {a1 : Int} {a2 : Int} {r : Int} {O : Objs} {n : Nat} (h : Yj a0 a1 a2 = some r) : GTo Try.prog 96 [.val (.int .u64 a0), .val (.int .i64 a1), .val (.int .i64 a2)] O n (.val (.int .i64 r)) O n := by
 unfold Yj at h
 refine Ym Zc Try.call96 Try.func96 rfl (Nat.le_of_ble_eq_true rfl) (Nat.le_refl _) fun hU => ?_
 have hN0 : O n = none := hU.fresh _ (Nat.le_refl _)
 have hN : ∀ k, O (n + k) = none := fun k => hU.fresh _ (Nat.le_add_right _ _)
 show W _ _ _ _ ⟨15, [], [(0, .val (.int .u64 a0)), (1, .val (.int .i64 a1)), (2, .val (.int .i64 a2))]⟩ (Z5 O n []) _
 refine Zn [0, 1, 2] (Zb Zc [] ?_)
 simp only [push_cast, seval, ↓reduceIte, Za, hN0, hN]
 obtain ⟨pu3, h⟩ := bG h
 obtain ⟨pu4, h⟩ := bG h
 refine Zn [6] (Jq Zc (by kernel_rfl) [] (by kernel_rfl) ?_)
 simp only [push_cast, seval, ↓reduceIte, Za, pu3, pu4, hN0, hN]
 refine Zq ?_
 try simp only [Zi, Zd]
 have h := Option.some.inj h; subst h
 refine Zk (.inr rfl) hU [.val (.int .i64 (IntKind.i64.wrap (IntKind.u64.wrap (Kl .u64 (Int.fdiv a0 (2 ^ min (Int.toNat a1) 64)) (IntKind.u64.wrap ((IntKind.u64.wrap (1 * 2 ^ min (Int.toNat a2) 64)) - 1))))))] (by omega) ?_
 simp only [push_cast, seval, ↓reduceIte, Za, Try.results96, hN0, hN]
theorem Q9 {a0 : Int} {r : Zx} {O : Objs} {n : Nat} (h : Xz a0 = some r) : GTo Try.prog 71 [.val (.int .u64 a0)] O n (.agg (Z4 r)) O n := by
 unfold Xz at h
 refine Ym Zc Try.call71 Try.func71 rfl (Nat.le_of_ble_eq_true rfl) (Nat.le_refl _) fun hU => ?_
 have hN0 : O n = none := hU.fresh _ (Nat.le_refl _)
 have hN : ∀ k, O (n + k) = none := fun k => hU.fresh _ (Nat.le_add_right _ _)
 show W _ _ _ _ ⟨38, [], [(0, .val (.int .u64 a0))]⟩ (Z5 O n []) _
 refine Zn [0, 2] (Zb Zc [] ?_)
 simp only [push_cast, seval, ↓reduceIte, Za, hN0, hN]
 refine Zg ?_
 refine Zn [0, 2, 4] (Zb Zc [] ?_)
 simp only [push_cast, seval, ↓reduceIte, Za, hN0, hN]
 refine Zo (t := (a0 == 0)) rfl (fun c20 => ?_) (fun c20 => ?_)
 ·replace h := Zs c20 h
  refine Zg ?_
  refine Zb Zc [] ?_
  simp only [push_cast, seval, ↓reduceIte, Za, hN0, hN]
  refine Zf [2] [true] ?_
  simp only [push_cast, seval, ↓reduceIte]
  refine Zq ?_
  try simp only [Zi, Zd]
  have h := Option.some.inj h; subst h
  refine Zk (.inr rfl) hU [.agg [.val (.int .i64 0), .val (.int .i64 0), .val (.int .i64 0), .val (.int .i64 0), .val (.int .i64 0), .val (.int .i64 0), .val (.int .i64 0), .val (.bool false)]] (by omega) ?_
  simp only [push_cast, seval, ↓reduceIte, Za, Try.results71, hN0, hN]
 replace h := Zr c20 h
 refine Zw ?_
 try simp only [Zi, Zd]
 refine Zf [0, 2] [true] ?_
 simp only [push_cast, seval, ↓reduceIte]
 refine Zg ?_
 refine Zn [0, 2, 7] (Zb Zc [] ?_)
 simp only [push_cast, seval, ↓reduceIte, Za, hN0, hN]
 refine Qz ?_
 refine Zn [0, 2, 7, 8] (Zb Zc [] ?_)
 simp only [push_cast, seval, ↓reduceIte, Za, hN0, hN]
 refine Zo (t := ((IntKind.u64.wrap (Kl .u64 a0 3)) == 0)) rfl (fun c19 => ?_) (fun c19 => ?_)
 ·replace h := Zs c19 h
  refine Zg ?_
  obtain ⟨y4, hy4, h⟩ := bC h
  obtain ⟨y5, hy5, h⟩ := bC h
  obtain ⟨y6, hy6, h⟩ := bC h
  refine Zb Zc [] ?_
  simp only [push_cast, seval, ↓reduceIte, Za, hN0, hN]
  refine (Ze5 hy4).then ?_
  simp only [push_cast, seval, ↓reduceIte, Za, hN0, hN]
  refine (Kh hy5).then ?_
  simp only [push_cast, seval, ↓reduceIte, Za, hN0, hN]
  refine (Kh hy6).then ?_
  simp only [push_cast, seval, ↓reduceIte, Za, hN0, hN]
  refine Zf [2] [true] ?_
  simp only [push_cast, seval, ↓reduceIte]
  refine Zq ?_
  try simp only [Zi, Zd]
  have h := Option.some.inj h; subst h
  refine Zk (.inr rfl) hU [.agg [.val (.int .i64 1), .val (.int .i64 y4), .val (.int .i64 y5), .val (.int .i64 y6), .val (.int .i64 0), .val (.int .i64 0), .val (.int .i64 0), .val (.bool false)]] (by omega) ?_
  simp only [push_cast, seval, ↓reduceIte, Za, Try.results71, hN0, hN]
 replace h := Zr c19 h
 refine Zn [0, 2, 7, 17] (Zb Zc [] ?_)
 simp only [push_cast, seval, ↓reduceIte, Za, hN0, hN]
 refine Zo (t := ((IntKind.u64.wrap (Kl .u64 a0 3)) == 1)) rfl (fun c18 => ?_) (fun c18 => ?_)
 ·replace h := Zs c18 h
  refine Zg ?_
  obtain ⟨y10, hy10, h⟩ := bC h
  obtain ⟨y11, hy11, h⟩ := bC h
  obtain ⟨y12, hy12, h⟩ := bC h
  refine Zb Zc [] ?_
  simp only [push_cast, seval, ↓reduceIte, Za, hN0, hN]
  refine (Ze5 hy10).then ?_
  simp only [push_cast, seval, ↓reduceIte, Za, hN0, hN]
  refine (Kh hy11).then ?_
  simp only [push_cast, seval, ↓reduceIte, Za, hN0, hN]
  refine (Kh hy12).then ?_
  simp only [push_cast, seval, ↓reduceIte, Za, hN0, hN]
  refine Zf [2] [true] ?_
  simp only [push_cast, seval, ↓reduceIte]
  refine Zq ?_
  try simp only [Zi, Zd]
  have h := Option.some.inj h; subst h
  refine Zk (.inr rfl) hU [.agg [.val (.int .i64 2), .val (.int .i64 y10), .val (.int .i64 0), .val (.int .i64 0), .val (.int .i64 y11), .val (.int .i64 y12), .val (.int .i64 0), .val (.bool false)]] (by omega) ?_
  simp only [push_cast, seval, ↓reduceIte, Za, Try.results71, hN0, hN]
 replace h := Zr c18 h
 refine Zn [0, 2, 26] (Zb Zc [] ?_)
 simp only [push_cast, seval, ↓reduceIte, Za, hN0, hN]
 refine Zo (t := ((IntKind.u64.wrap (Kl .u64 a0 3)) == 2)) rfl (fun c17 => ?_) (fun c17 => ?_)
 ·replace h := Zs c17 h
  refine Zg ?_
  obtain ⟨y15, hy15, h⟩ := bC h
  obtain ⟨y16, hy16, h⟩ := bC h
  refine Zb Zc [] ?_
  simp only [push_cast, seval, ↓reduceIte, Za, hN0, hN]
  refine (Kh hy15).then ?_
  simp only [push_cast, seval, ↓reduceIte, Za, hN0, hN]
  refine (Kh hy16).then ?_
  simp only [push_cast, seval, ↓reduceIte, Za, hN0, hN]
  refine Zf [2] [true] ?_
  simp only [push_cast, seval, ↓reduceIte]
  refine Zq ?_
  try simp only [Zi, Zd]
  have h := Option.some.inj h; subst h
  refine Zk (.inr rfl) hU [.agg [.val (.int .i64 3), .val (.int .i64 y15), .val (.int .i64 0), .val (.int .i64 0), .val (.int .i64 0), .val (.int .i64 0), .val (.int .i64 y16), .val (.bool ((IntKind.u64.wrap (Kl .u64 (Int.fdiv a0 (2 ^ min (Int.toNat 2) 64)) 1)) == 1))]] (by omega) ?_
  simp only [push_cast, seval, ↓reduceIte, Za, Try.results71, hN0, hN]
 replace h := Zr c17 h
 refine Zw ?_
 try simp only [Zi, Zd]
 refine Zf [2] [true] ?_
 simp only [push_cast, seval, ↓reduceIte]
 refine Zg ?_
 refine Zb Zc [] ?_
 simp only [push_cast, seval, ↓reduceIte, Za, hN0, hN]
 refine Zf [2] [true] ?_
 simp only [push_cast, seval, ↓reduceIte]
 refine Zq ?_
 try simp only [Zi, Zd]
 have h := Option.some.inj h; subst h
 refine Zk (.inr rfl) hU [.agg [.val (.int .i64 4), .val (.int .i64 0), .val (.int .i64 0), .val (.int .i64 0), .val (.int .i64 0), .val (.int .i64 0), .val (.int .i64 0), .val (.bool false)]] (by omega) ?_
 simp only [push_cast, seval, ↓reduceIte, Za, Try.results71, hN0, hN]
theorem Zey {a0 : (Option Zj)} {a1 : Int} {a2 : Int} {a3 : Int} {r : ((List Int) × Bool)} {O : Objs} {n : Nat} (h : Qm a0 a1 a2 a3 = some r) : GTo Try.prog 97 [(gP Ze a0), .val (.int .i64 a1), .val (.int .i64 a2), .val (.int .i64 a3)] O n (.tup [.sl r.1.length (fl (eI .u64) r.1), .val (.bool r.2)]) O n := by
 unfold Qm at h
 refine Ym Zc Try.call97 Try.func97 rfl (Nat.le_of_ble_eq_true rfl) (Nat.le_refl _) fun hU => ?_
 have hN0 : O n = none := hU.fresh _ (Nat.le_refl _)
 have hN : ∀ k, O (n + k) = none := fun k => hU.fresh _ (Nat.le_add_right _ _)
 show W _ _ _ _ ⟨29, [], [(0, (gP Ze a0)), (1, .val (.int .i64 a1)), (2, .val (.int .i64 a2)), (3, .val (.int .i64 a3))]⟩ (Z5 O n []) _
 refine Zn [0, 1, 2, 3] (Zb Zc [] ?_)
 simp only [push_cast, seval, ↓reduceIte, Za, hN0, hN]
 refine Zg ?_
 refine Zg ?_
 obtain ⟨y2, hy2, h⟩ := bC h
 refine Zb Zc [] ?_
 simp only [push_cast, seval, ↓reduceIte, Za, hN0, hN]
 refine (K6 hy2).then ?_
 simp only [push_cast, seval, ↓reduceIte, Za, hN0, hN]
 refine Zf [0, 1, 2, 3, 15] [] ?_
 simp only [push_cast, seval, ↓reduceIte]
 refine Zo (t := (!y2)) rfl (fun c11 => ?_) (fun c11 => ?_)
 ·replace h := Zs c11 h
  refine Zn [8, 9] (Zb Zc [] ?_)
  simp only [push_cast, seval, ↓reduceIte, Za, hN0, hN]
  refine Zq ?_
  try simp only [Zi, Zd]
  have h := Option.some.inj h; subst h
  refine Zk (.inr rfl) hU [.val (.slice none 0 0), .val (.bool false)] (by omega) ?_
  simp only [push_cast, seval, ↓reduceIte, Za, Try.results97, hN0, hN]
 replace h := Zr c11 h
 refine Zw ?_
 try simp only [Zi, Zd]
 refine Zf [0, 1, 2, 3] [] ?_
 simp only [push_cast, seval, ↓reduceIte]
 refine Zg ?_
 obtain ⟨x7, hx7, h⟩ := bC h
 obtain ⟨x8, hx8, ax8, bx8, cx8, h⟩ := bE (f := (eL (eI .u64))) Vx (fun _ => rfl) (by decide) h
 obtain ⟨l9, al9, bl9, cl9, gl9, h⟩ := bS (lo := (some (.i64, a2))) (hi := (some (.i64, (IntKind.i64.wrap (a2 + a3))))) (f := (eI .u64)) rfl rfl Za3 Vw (fun _ => rfl) h
 obtain ⟨y10, hy10, h⟩ := bC h
 refine Zb Zc [] ?_
 simp only [push_cast, Nat.reduceAdd, Nat.reduceSub, Nat.reduceMul, Nat.reduceLeDiff, Nat.reduceLT, Nat.reduceEqDiff, ↓reduceIte, reduceCtorEq, Int.reduceBEq, Int.reduceBNe, Nat.reduceBEq, Int.reduceLE, Int.reduceLT, Int.reduceEq, Int.reduceNe, Int.reduceNeg, Nat.reduceDiv, Nat.reduceMod, Nat.reducePow, Za, hx7, ax8, bx8, cx8, al9, bl9, cl9, gl9, hN0, hN]
 refine (Jn  hy10).then ?_
 simp only [push_cast, Nat.reduceAdd, Nat.reduceSub, Nat.reduceMul, Nat.reduceLeDiff, Nat.reduceLT, Nat.reduceEqDiff, ↓reduceIte, reduceCtorEq, Int.reduceBEq, Int.reduceBNe, Nat.reduceBEq, Int.reduceLE, Int.reduceLT, Int.reduceEq, Int.reduceNe, Int.reduceNeg, Nat.reduceDiv, Nat.reduceMod, Nat.reducePow, Za, hx7, ax8, bx8, cx8, al9, bl9, cl9, gl9, hN0, hN]
 refine Zf [8, 9] [true] ?_
 simp only [push_cast, seval, ↓reduceIte]
 refine Zq ?_
 try simp only [Zi, Zd]
 have h := Option.some.inj h; subst h
 refine Zk (.inr rfl) hU [.row n y10.length, .val (.bool true)] (by omega) ?_
 simp only [push_cast, seval, ↓reduceIte, Za, Try.results97, hN0, hN]
theorem Zmz {a0 : Int} {r : Int} {O : Objs} {n : Nat} (h : Up a0 = some r) : GTo Try.prog 105 [.val (.int .i64 a0)] O n (.val (.int .i64 r)) O n := by
 unfold Up at h
 refine Ym Zc Try.call105 Try.func105 rfl (Nat.le_of_ble_eq_true rfl) (Nat.le_refl _) fun hU => ?_
 have hN0 : O n = none := hU.fresh _ (Nat.le_refl _)
 have hN : ∀ k, O (n + k) = none := fun k => hU.fresh _ (Nat.le_add_right _ _)
 show W _ _ _ _ ⟨8, [], [(0, .val (.int .i64 a0))]⟩ (Z5 O n []) _
 refine Zn [0] (Zb Zc [] ?_)
 simp only [push_cast, seval, ↓reduceIte, Za, hN0, hN]
 refine Zg ?_
 obtain ⟨y6, hy6, ey6, h⟩ := bY (f := (eI .i64)) (cs := [.val (.int .i64 0), .val (.int .i64 1), .val (.int .i64 8), .val (.int .i64 16), .val (.int .i64 32), .val (.int .i64 64), .val (.int .i64 64)]) rfl h
 have g7 := congrArg G.agg ey6
 obtain ⟨y8, hy8, ey8, h⟩ := bY (f := (eI .i64)) (cs := [.val (.int .i64 0), .val (.int .i64 0), .val (.int .i64 0), .val (.int .i64 0), .val (.int .i64 0), .val (.int .i64 0), .val (.int .i64 0)]) rfl h
 have g9 := congrArg (GObj.mk false 140 7 1) ey8
 have g10 := Zjv (f := (eI .i64)) y8 y6 (fun _ => rfl)
 refine Zb Zc [] ?_
 simp only [push_cast, seval, ↓reduceIte, Za, g7, g9, g10, hN0, hN]
 refine Zf [0, 3] [true] ?_
 simp only [push_cast, seval, ↓reduceIte]
 obtain ⟨x12, hx12, ax12, bx12, cx12, h⟩ := bEA (f := (eI .i64)) (b := 7) rfl Zoq (fun _ => rfl) (by decide) h
 refine Zn [2] (Zb Zc [] ?_)
 simp only [push_cast, Nat.reduceAdd, Nat.reduceSub, Nat.reduceMul, Nat.reduceLeDiff, Nat.reduceLT, Nat.reduceEqDiff, ↓reduceIte, reduceCtorEq, Int.reduceBEq, Int.reduceBNe, Nat.reduceBEq, Int.reduceLE, Int.reduceLT, Int.reduceEq, Int.reduceNe, Int.reduceNeg, Nat.reduceDiv, Nat.reduceMod, Nat.reducePow, Za, ax12, bx12, cx12, hN0, hN]
 refine Zq ?_
 try simp only [Zi, Zd]
 have h := Option.some.inj h; subst h
 refine Zk (.inr rfl) hU [.val (.int .i64 x12)] (by omega) ?_
 simp only [push_cast, seval, ↓reduceIte, Za, Try.results105, hN0, hN]
theorem Zil {a0 : Zx} {r : (Int × Bool)} {O : Objs} {n : Nat} (h : Jz a0 = some r) : GTo Try.prog 98 [.agg (Z4 a0)] O n (.tup [.val (.int .i64 r.1), .val (.bool r.2)]) O n := by
 unfold Jz at h
 refine Ym Zc Try.call98 Try.func98 rfl (Nat.le_of_ble_eq_true rfl) (Nat.le_refl _) fun hU => ?_
 have hN0 : O n = none := hU.fresh _ (Nat.le_refl _)
 have hN : ∀ k, O (n + k) = none := fun k => hU.fresh _ (Nat.le_add_right _ _)
 show W _ _ _ _ ⟨57, [], [(0, .agg (Z4 a0))]⟩ (Z5 O n []) _
 refine Zn [1] (Zb Zc [] ?_)
 simp only [push_cast, seval, ↓reduceIte, Za, hN0, hN]
 refine Zg ?_
 refine Qz ?_
 refine Zn [1, 4] (Zb Zc [] ?_)
 simp only [push_cast, seval, ↓reduceIte, Za, hN0, hN]
 refine Zo (t := (a0.Kind == 1)) rfl (fun c5 => ?_) (fun c5 => ?_)
 ·replace h := Zs c5 h
  refine Zn [2, 3] (Zb Zc [] ?_)
  simp only [push_cast, seval, ↓reduceIte, Za, hN0, hN]
  refine Zq ?_
  try simp only [Zi, Zd]
  have h := Option.some.inj h; subst h
  refine Zk (.inr rfl) hU [.val (.int .i64 (IntKind.i64.wrap (a0.Data + a0.Ptrs))), .val (.bool true)] (by omega) ?_
  simp only [push_cast, seval, ↓reduceIte, Za, Try.results98, hN0, hN]
 replace h := Zr c5 h
 refine Zn [1, 13] (Zb Zc [none, none, none] ?_)
 simp only [push_cast, seval, ↓reduceIte, Za, hN0, hN]
 repeat (with_reducible refine And.intro (by first | (intro h0; simp only [h0, and_self]; done) | (intro h0; simp only [h0, Bool.not_false, Bool.not_true, Bool.true_and, Bool.and_true, true_and, and_true, and_self, imp_self, implies_true, bne_iff_ne, ne_eq, beq_iff_eq]; done) | (intros; simp_all; done) | exact True.intro) ?_)
 refine Zo (t := (cond (a0.Kind == 2) (a0.Code == 7) false)) rfl (fun c4 => ?_) (fun c4 => ?_)
 ·replace h := Zs c4 h
  refine Zn [2, 3] (Zb Zc [] ?_)
  simp only [push_cast, seval, ↓reduceIte, Za, hN0, hN]
  refine Zq ?_
  try simp only [Zi, Zd]
  have h := Option.some.inj h; subst h
  refine Zk (.inr rfl) hU [.val (.int .i64 (IntKind.i64.wrap (a0.Count + 1))), .val (.bool true)] (by omega) ?_
  simp only [push_cast, seval, ↓reduceIte, Za, Try.results98, hN0, hN]
 replace h := Zr c4 h
 refine Zn [1, 25] (Zb Zc [none, none, none, none, none, none, none, none, none, none, none, none] ?_)
 simp only [push_cast, seval, ↓reduceIte, Za, hN0, hN]
 repeat (with_reducible refine And.intro (by first | (intro h0; simp only [h0, and_self]; done) | (intro h0; simp only [h0, Bool.not_false, Bool.not_true, Bool.true_and, Bool.and_true, true_and, and_true, and_self, imp_self, implies_true, bne_iff_ne, ne_eq, beq_iff_eq]; done) | (intros; simp_all; done) | exact True.intro) ?_)
 refine Zo (t := (cond (cond (cond (cond (a0.Kind == 2) (decide (0 ≤ a0.Code)) false) (decide (a0.Code < 7)) false) (decide (0 ≤ a0.Count)) false) (decide (a0.Count ≤ 536870911)) false)) rfl (fun c3 => ?_) (fun c3 => ?_)
 ·replace h := Zs c3 h
  refine Zg ?_
  obtain ⟨y2, hy2, h⟩ := bC h
  refine Jq Zc (by kernel_rfl) [] (by kernel_rfl) ?_
  simp only [push_cast, seval, ↓reduceIte, Za, hN0, hN]
  refine PCall.of (Zmz hy2) ?_
  simp only [push_cast, seval, ↓reduceIte, Za, hN0, hN]
  refine Zf [2, 3] [false] ?_
  simp only [push_cast, seval, ↓reduceIte]
  refine Zq ?_
  try simp only [Zi, Zd]
  have h := Option.some.inj h; subst h
  refine Zk (.inr rfl) hU [.val (.int .i64 (IntKind.i64.wrap (Int.tdiv (IntKind.i64.wrap ((IntKind.i64.wrap (a0.Count * y2)) + 63)) 64))), .val (.bool true)] (by omega) ?_
  simp only [push_cast, seval, ↓reduceIte, Za, Try.results98, hN0, hN]
 replace h := Zr c3 h
 refine Zw ?_
 try simp only [Zi, Zd]
 refine Zf [] [false] ?_
 simp only [push_cast, seval, ↓reduceIte]
 refine Zn [2, 3] (Zb Zc [] ?_)
 simp only [push_cast, seval, ↓reduceIte, Za, hN0, hN]
 refine Zq ?_
 try simp only [Zi, Zd]
 have h := Option.some.inj h; subst h
 refine Zk (.inr rfl) hU [.val (.int .i64 0), .val (.bool false)] (by omega) ?_
 simp only [push_cast, seval, ↓reduceIte, Za, Try.results98, hN0, hN]
theorem Za9 {a0 : (Option Zj)} {a1 : Zx} {a2 : Int} {a3 : Int} {r : (Yb × Int)} {O : Objs} {n : Nat} (h : Jv a0 a1 a2 a3 = some r) : GTo Try.prog 74 [(gP Ze a0), .agg (Z4 a1), .val (.int .i64 a2), .val (.int .i64 a3)] O n (.tup [.agg [.val (.int .i64 r.1.P.Kind), .val (.int .i64 r.1.P.Off), .val (.int .i64 r.1.P.Data), .val (.int .i64 r.1.P.Ptrs), .val (.int .i64 r.1.P.Code), .val (.int .i64 r.1.P.Count), .val (.int .i64 r.1.P.Segment), .val (.bool r.1.P.Double), .val (.int .i64 r.1.Segment), .val (.int .i64 r.1.At)], .val (.int .i64 r.2)]) O n := by
 unfold Jv at h
 refine Ym Zc Try.call74 Try.func74 rfl (Nat.le_of_ble_eq_true rfl) (Nat.le_refl _) fun hU => ?_
 have hN0 : O n = none := hU.fresh _ (Nat.le_refl _)
 have hN : ∀ k, O (n + k) = none := fun k => hU.fresh _ (Nat.le_add_right _ _)
 show W _ _ _ _ ⟨36, [], [(0, (gP Ze a0)), (1, .agg (Z4 a1)), (2, .val (.int .i64 a2)), (3, .val (.int .i64 a3))]⟩ (Z5 O n []) _
 refine Zn [0, 2, 3, 5, 8] (Zb Zc [] ?_)
 simp only [push_cast, seval, ↓reduceIte, Za, hN0, hN]
 refine Zg ?_
 refine Zn [0, 2, 3, 5, 8, 14] (Zb Zc [] ?_)
 simp only [push_cast, seval, ↓reduceIte, Za, hN0, hN]
 refine Zo (t := (a1.Kind == 4)) rfl (fun c7 => ?_) (fun c7 => ?_)
 ·replace h := Zs c7 h
  refine Zg ?_
  refine Zb Zc [] ?_
  simp only [push_cast, seval, ↓reduceIte, Za, hN0, hN]
  refine Zf [8, 9] [false, true] ?_
  simp only [push_cast, seval, ↓reduceIte]
  refine Zq ?_
  try simp only [Zi, Zd]
  have h := Option.some.inj h; subst h
  refine Zk (.inr rfl) hU [.agg [.val (.int .i64 0), .val (.int .i64 0), .val (.int .i64 0), .val (.int .i64 0), .val (.int .i64 0), .val (.int .i64 0), .val (.int .i64 0), .val (.bool false), .val (.int .i64 0), .val (.int .i64 0)], .val (.int .i64 9)] (by omega) ?_
  simp only [push_cast, seval, ↓reduceIte, Za, Try.results74, hN0, hN]
 replace h := Zr c7 h
 refine Zw ?_
 try simp only [Zi, Zd]
 refine Zf [0, 2, 3, 5, 8] [true, true] ?_
 simp only [push_cast, seval, ↓reduceIte]
 refine Zg ?_
 obtain ⟨y2, hy2, h⟩ := bC h
 refine Zb Zc [] ?_
 simp only [push_cast, seval, ↓reduceIte, Za, hN0, hN]
 refine (Zil hy2).then ?_
 simp only [push_cast, seval, ↓reduceIte, Za, hN0, hN]
 refine Zf [0, 2, 3, 5, 8, 10, 11] [true, true] ?_
 simp only [push_cast, seval, ↓reduceIte]
 refine Zg ?_
 refine Zn [0, 2, 3, 5, 8, 10, 22] (Zb Zc [] ?_)
 simp only [push_cast, seval, ↓reduceIte, Za, hN0, hN]
 refine Zo (t := (!y2.2)) rfl (fun c6 => ?_) (fun c6 => ?_)
 ·replace h := Zs c6 h
  refine Zg ?_
  refine Zb Zc [] ?_
  simp only [push_cast, seval, ↓reduceIte, Za, hN0, hN]
  refine Zf [8, 9] [false, true] ?_
  simp only [push_cast, seval, ↓reduceIte]
  refine Zq ?_
  try simp only [Zi, Zd]
  have h := Option.some.inj h; subst h
  refine Zk (.inr rfl) hU [.agg [.val (.int .i64 0), .val (.int .i64 0), .val (.int .i64 0), .val (.int .i64 0), .val (.int .i64 0), .val (.int .i64 0), .val (.int .i64 0), .val (.bool false), .val (.int .i64 0), .val (.int .i64 0)], .val (.int .i64 8)] (by omega) ?_
  simp only [push_cast, seval, ↓reduceIte, Za, Try.results74, hN0, hN]
 replace h := Zr c6 h
 refine Zw ?_
 try simp only [Zi, Zd]
 refine Zf [0, 2, 3, 5, 8, 10] [true, true] ?_
 simp only [push_cast, seval, ↓reduceIte]
 refine Zg ?_
 refine Zg ?_
 obtain ⟨y4, hy4, h⟩ := bC h
 refine Zb Zc [] ?_
 simp only [push_cast, seval, ↓reduceIte, Za, hN0, hN]
 refine (K6 hy4).then ?_
 simp only [push_cast, seval, ↓reduceIte, Za, hN0, hN]
 refine Zf [2, 3, 5, 8, 29] [true, true] ?_
 simp only [push_cast, seval, ↓reduceIte]
 refine Zo (t := (!y4)) rfl (fun c5 => ?_) (fun c5 => ?_)
 ·replace h := Zs c5 h
  refine Zg ?_
  refine Zb Zc [] ?_
  simp only [push_cast, seval, ↓reduceIte, Za, hN0, hN]
  refine Zf [8, 9] [false, true] ?_
  simp only [push_cast, seval, ↓reduceIte]
  refine Zq ?_
  try simp only [Zi, Zd]
  have h := Option.some.inj h; subst h
  refine Zk (.inr rfl) hU [.agg [.val (.int .i64 0), .val (.int .i64 0), .val (.int .i64 0), .val (.int .i64 0), .val (.int .i64 0), .val (.int .i64 0), .val (.int .i64 0), .val (.bool false), .val (.int .i64 0), .val (.int .i64 0)], .val (.int .i64 7)] (by omega) ?_
  simp only [push_cast, seval, ↓reduceIte, Za, Try.results74, hN0, hN]
 replace h := Zr c5 h
 refine Zw ?_
 try simp only [Zi, Zd]
 refine Zf [2, 3, 5, 8] [true, true] ?_
 simp only [push_cast, seval, ↓reduceIte]
 refine Zg ?_
 refine Zb Zc [] ?_
 simp only [push_cast, seval, ↓reduceIte, Za, hN0, hN]
 refine Zf [2, 3, 5, 8] [true, true] ?_
 simp only [push_cast, seval, ↓reduceIte]
 refine Zg ?_
 refine Zb Zc [] ?_
 simp only [push_cast, seval, ↓reduceIte, Za, hN0, hN]
 refine Zf [8, 9] [false, true] ?_
 simp only [push_cast, seval, ↓reduceIte]
 refine Zq ?_
 try simp only [Zi, Zd]
 have h := Option.some.inj h; subst h
 refine Zk (.inr rfl) hU [.agg [.val (.int .i64 a1.Kind), .val (.int .i64 0), .val (.int .i64 a1.Data), .val (.int .i64 a1.Ptrs), .val (.int .i64 a1.Code), .val (.int .i64 a1.Count), .val (.int .i64 a1.Segment), .val (.bool a1.Double), .val (.int .i64 a2), .val (.int .i64 a3)], .val (.int .i64 0)] (by omega) ?_
 simp only [push_cast, seval, ↓reduceIte, Za, Try.results74, hN0, hN]
theorem Zlr {a0 : (Option Zj)} {a1 : Int} {a2 : Int} {r : (Yb × Int)} {O : Objs} {n : Nat} (h : Vo a0 a1 a2 = some r) : GTo Try.prog 72 [(gP Ze a0), .val (.int .i64 a1), .val (.int .i64 a2)] O n (.tup [.agg [.val (.int .i64 r.1.P.Kind), .val (.int .i64 r.1.P.Off), .val (.int .i64 r.1.P.Data), .val (.int .i64 r.1.P.Ptrs), .val (.int .i64 r.1.P.Code), .val (.int .i64 r.1.P.Count), .val (.int .i64 r.1.P.Segment), .val (.bool r.1.P.Double), .val (.int .i64 r.1.Segment), .val (.int .i64 r.1.At)], .val (.int .i64 r.2)]) O n := by
 unfold Vo at h
 refine Ym Zc Try.call72 Try.func72 rfl (Nat.le_of_ble_eq_true rfl) (Nat.le_refl _) fun hU => ?_
 have hN0 : O n = none := hU.fresh _ (Nat.le_refl _)
 have hN : ∀ k, O (n + k) = none := fun k => hU.fresh _ (Nat.le_add_right _ _)
 show W _ _ _ _ ⟨56, [], [(0, (gP Ze a0)), (1, .val (.int .i64 a1)), (2, .val (.int .i64 a2))]⟩ (Z5 O n []) _
 refine Zn [0, 1, 2, 6] (Zb Zc [] ?_)
 simp only [push_cast, seval, ↓reduceIte, Za, hN0, hN]
 refine Zg ?_
 obtain ⟨y2, hy2, h⟩ := bC h
 refine Zb Zc [] ?_
 simp only [push_cast, seval, ↓reduceIte, Za, hN0, hN]
 refine (Zey hy2).then ?_
 simp only [push_cast, seval, ↓reduceIte, Za, hN0, hN]
 refine Zf [0, 6, 8, 9] [true] ?_
 simp only [push_cast, seval, ↓reduceIte]
 refine Zg ?_
 refine Zn [0, 6, 8, 20] (Zb Zc [] ?_)
 simp only [push_cast, seval, ↓reduceIte, Za, hN0, hN]
 refine Zo (t := (!y2.2)) rfl (fun c11 => ?_) (fun c11 => ?_)
 ·replace h := Zs c11 h
  refine Zg ?_
  refine Zb Zc [] ?_
  simp only [push_cast, seval, ↓reduceIte, Za, hN0, hN]
  refine Zf [6, 7] [true] ?_
  simp only [push_cast, seval, ↓reduceIte]
  refine Zq ?_
  try simp only [Zi, Zd]
  have h := Option.some.inj h; subst h
  refine Zk (.inr rfl) hU [.agg [.val (.int .i64 0), .val (.int .i64 0), .val (.int .i64 0), .val (.int .i64 0), .val (.int .i64 0), .val (.int .i64 0), .val (.int .i64 0), .val (.bool false), .val (.int .i64 0), .val (.int .i64 0)], .val (.int .i64 7)] (by omega) ?_
  simp only [push_cast, seval, ↓reduceIte, Za, Try.results72, hN0, hN]
 replace h := Zr c11 h
 refine Zw ?_
 try simp only [Zi, Zd]
 refine Zf [0, 6, 8] [true] ?_
 simp only [push_cast, seval, ↓reduceIte]
 obtain ⟨x3, hx3, ax3, bx3, cx3, h⟩ := bE (f := (eI .u64)) Vw (fun _ => rfl) (by decide) h
 obtain ⟨y4, hy4, h⟩ := bC h
 obtain ⟨x5, hx5, ax5, bx5, cx5, h⟩ := bE (f := (eI .u64)) Vw (fun _ => rfl) (by decide) h
 obtain ⟨y6, hy6, h⟩ := bC h
 refine Q6 (E' := ⟨56, [], [(0, (gP Ze a0)), (6, .ref n 0), (10, .ref (n + 1) 0), (11, .ref (n + 2) 0)]⟩) (O' := (Z5 O n [some ⟨false, 85, 10, 1, [.val (.int .i64 0), .val (.int .i64 0), .val (.int .i64 0), .val (.int .i64 0), .val (.int .i64 0), .val (.int .i64 0), .val (.int .i64 0), .val (.bool false), .val (.int .i64 0), .val (.int .i64 0)]⟩, some ⟨false, 83, 8, 1, (Z4 y4)⟩, some ⟨false, 83, 8, 1, (Z4 y6)⟩])) (n0 := (n + 3)) ?_ ?_
 ·refine Zp3 Zc (by kernel_rfl) [.low, .low, .low, .low, .low, .low, .low, .low, .pass, .pass, .pass, .pass] (fun i => i < (n + 1)) 8 9 [0, 1, 2, 3, 4, 5, 6, 7] [10, 11] [.low, .low, .low, .low, .low, .low, .low, .low] [.pass, .pass, .pass, .pass] [.pass, .pass, .pass, .pass] [] (by kernel_rfl) rfl rfl rfl ?_
  simp only [push_cast, Nat.reduceAdd, Nat.reduceSub, Nat.reduceMul, Nat.reduceLeDiff, Nat.reduceLT, Nat.reduceEqDiff, ↓reduceIte, reduceCtorEq, Int.reduceBEq, Int.reduceBNe, Nat.reduceBEq, Int.reduceLE, Int.reduceLT, Int.reduceEq, Int.reduceNe, Int.reduceNeg, Nat.reduceDiv, Nat.reduceMod, Nat.reducePow, Za, ax3, bx3, cx3, ax5, bx5, cx5, hN0, hN]
  repeat (with_reducible refine And.intro (by omega) ?_)
  first | refine PCallA.of (fun _ _ => Q9 hy4) ?_ | refine PCall.of (Q9 hy4) ?_
  simp only [push_cast, Nat.reduceAdd, Nat.reduceSub, Nat.reduceMul, Nat.reduceLeDiff, Nat.reduceLT, Nat.reduceEqDiff, ↓reduceIte, reduceCtorEq, Int.reduceBEq, Int.reduceBNe, Nat.reduceBEq, Int.reduceLE, Int.reduceLT, Int.reduceEq, Int.reduceNe, Int.reduceNeg, Nat.reduceDiv, Nat.reduceMod, Nat.reducePow, Za, ax3, bx3, cx3, ax5, bx5, cx5, hN0, hN]
  repeat (with_reducible refine And.intro (by omega) ?_)
  first | refine PCallA.of (fun _ _ => Q9 hy6) ?_ | refine PCall.of (Q9 hy6) ?_
  simp only [push_cast, Nat.reduceAdd, Nat.reduceSub, Nat.reduceMul, Nat.reduceLeDiff, Nat.reduceLT, Nat.reduceEqDiff, ↓reduceIte, reduceCtorEq, Int.reduceBEq, Int.reduceBNe, Nat.reduceBEq, Int.reduceLE, Int.reduceLT, Int.reduceEq, Int.reduceNe, Int.reduceNeg, Nat.reduceDiv, Nat.reduceMod, Nat.reducePow, Za, ax3, bx3, cx3, ax5, bx5, cx5, hN0, hN]
  repeat (with_reducible refine And.intro (by omega) ?_)
  refine And.intro ?_ ?_
  ·simp only [push_cast, Nat.reduceAdd, Nat.reduceSub, Nat.reduceMul, Nat.reduceLeDiff, Nat.reduceLT, Nat.reduceEqDiff, ↓reduceIte, reduceCtorEq, Int.reduceBEq, Int.reduceBNe, Nat.reduceBEq, Int.reduceLE, Int.reduceLT, Int.reduceEq, Int.reduceNe, Int.reduceNeg, Nat.reduceDiv, Nat.reduceMod, Nat.reducePow, Za, ax3, bx3, cx3, ax5, bx5, cx5, hN0, hN]
   repeat (with_reducible refine And.intro (by first | exact Kf rfl | exact Jr) ?_)
   refine And.intro rfl (Fit2.of (Zp hU rfl rfl ?_) (by omega))
   simp only [push_cast, Nat.reduceAdd, Nat.reduceSub, Nat.reduceMul, Nat.reduceLeDiff, Nat.reduceLT, Nat.reduceEqDiff, ↓reduceIte, reduceCtorEq, Int.reduceBEq, Int.reduceBNe, Nat.reduceBEq, Int.reduceLE, Int.reduceLT, Int.reduceEq, Int.reduceNe, Int.reduceNeg, Nat.reduceDiv, Nat.reduceMod, Nat.reducePow, Za, ax3, bx3, cx3, ax5, bx5, cx5, hN0, hN]
  simp only [push_cast, Nat.reduceAdd, Nat.reduceSub, Nat.reduceMul, Nat.reduceLeDiff, Nat.reduceLT, Nat.reduceEqDiff, ↓reduceIte, reduceCtorEq, Int.reduceBEq, Int.reduceBNe, Nat.reduceBEq, Int.reduceLE, Int.reduceLT, Int.reduceEq, Int.reduceNe, Int.reduceNeg, Nat.reduceDiv, Nat.reduceMod, Nat.reducePow, Za, ax3, bx3, cx3, ax5, bx5, cx5, hN0, hN]
  repeat (with_reducible refine And.intro (by first | exact Kf rfl | exact Jr) ?_)
  refine And.intro rfl ?_
  refine Fit2.trans (E' := (⟨56, [], [(0, (gP Ze a0)), (6, .ref n 0), (10, .ref (n + 2) 0), (11, .ref (n + 1) 0)]⟩ : Env)) (O' := (Z5 O n [some ⟨false, 85, 10, 1, [.val (.int .i64 0), .val (.int .i64 0), .val (.int .i64 0), .val (.int .i64 0), .val (.int .i64 0), .val (.int .i64 0), .val (.int .i64 0), .val (.bool false), .val (.int .i64 0), .val (.int .i64 0)]⟩, some ⟨false, 83, 8, 1, (Z4 y6)⟩, some ⟨false, 83, 8, 1, (Z4 y4)⟩])) (n' := (n + 3)) (Fit2.of (Zp hU rfl rfl ?_) (by omega)) ?_
  ·simp only [push_cast, Nat.reduceAdd, Nat.reduceSub, Nat.reduceMul, Nat.reduceLeDiff, Nat.reduceLT, Nat.reduceEqDiff, ↓reduceIte, reduceCtorEq, Int.reduceBEq, Int.reduceBNe, Nat.reduceBEq, Int.reduceLE, Int.reduceLT, Int.reduceEq, Int.reduceNe, Int.reduceNeg, Nat.reduceDiv, Nat.reduceMod, Nat.reducePow, Za, ax3, bx3, cx3, ax5, bx5, cx5, hN0, hN]
  refine Zqf (k := 3) (k' := 3) hU [0, 2, 1] [0, 2, 1] rfl rfl rfl rfl ⟨rfl, rfl⟩ ?_
  simp only [push_cast, seval, ↓reduceIte, Za, hN0, hN]
 refine Zg ?_
 refine Zn [0, 6, 10, 11, 36] (Zb Zc [none, none] ?_)
 simp only [push_cast, seval, ↓reduceIte, Za, hN0, hN]
 repeat (with_reducible refine And.intro (by first | (intro h0; simp only [h0, and_self]; done) | (intro h0; simp only [h0, Bool.not_false, Bool.not_true, Bool.true_and, Bool.and_true, true_and, and_true, and_self, imp_self, implies_true, bne_iff_ne, ne_eq, beq_iff_eq]; done) | (intros; simp_all; done) | exact True.intro) ?_)
 refine Zo (t := (cond (y4.Kind != 3) true y4.Double)) rfl (fun c10 => ?_) (fun c10 => ?_)
 ·replace h := Zs c10 h
  refine Zg ?_
  refine Zb Zc [] ?_
  simp only [push_cast, seval, ↓reduceIte, Za, hN0, hN]
  refine Zf [6, 7] [true, false, false] ?_
  simp only [push_cast, seval, ↓reduceIte]
  refine Zq ?_
  try simp only [Zi, Zd]
  have h := Option.some.inj h; subst h
  refine Zk (.inr rfl) hU [.agg [.val (.int .i64 0), .val (.int .i64 0), .val (.int .i64 0), .val (.int .i64 0), .val (.int .i64 0), .val (.int .i64 0), .val (.int .i64 0), .val (.bool false), .val (.int .i64 0), .val (.int .i64 0)], .val (.int .i64 8)] (by omega) ?_
  simp only [push_cast, seval, ↓reduceIte, Za, Try.results72, hN0, hN]
 replace h := Zr c10 h
 refine Zw ?_
 try simp only [Zi, Zd]
 refine Zf [0, 6, 10, 11] [true, true, true] ?_
 simp only [push_cast, seval, ↓reduceIte]
 refine Zg ?_
 refine Zn [0, 6, 10, 11, 45] (Zb Zc [none, none, none] ?_)
 simp only [push_cast, seval, ↓reduceIte, Za, hN0, hN]
 repeat (with_reducible refine And.intro (by first | (intro h0; simp only [h0, and_self]; done) | (intro h0; simp only [h0, Bool.not_false, Bool.not_true, Bool.true_and, Bool.and_true, true_and, and_true, and_self, imp_self, implies_true, bne_iff_ne, ne_eq, beq_iff_eq]; done) | (intros; simp_all; done) | exact True.intro) ?_)
 refine Zo (t := (cond (y6.Kind != 4) (y6.Off != 0) false)) rfl (fun c9 => ?_) (fun c9 => ?_)
 ·replace h := Zs c9 h
  refine Zg ?_
  refine Zb Zc [] ?_
  simp only [push_cast, seval, ↓reduceIte, Za, hN0, hN]
  refine Zf [6, 7] [true, false, false] ?_
  simp only [push_cast, seval, ↓reduceIte]
  refine Zq ?_
  try simp only [Zi, Zd]
  have h := Option.some.inj h; subst h
  refine Zk (.inr rfl) hU [.agg [.val (.int .i64 0), .val (.int .i64 0), .val (.int .i64 0), .val (.int .i64 0), .val (.int .i64 0), .val (.int .i64 0), .val (.int .i64 0), .val (.bool false), .val (.int .i64 0), .val (.int .i64 0)], .val (.int .i64 8)] (by omega) ?_
  simp only [push_cast, seval, ↓reduceIte, Za, Try.results72, hN0, hN]
 replace h := Zr c9 h
 refine Zw ?_
 try simp only [Zi, Zd]
 refine Zf [0, 6, 10, 11] [true, true, true] ?_
 simp only [push_cast, seval, ↓reduceIte]
 refine Zg ?_
 obtain ⟨y8, hy8, h⟩ := bC h
 refine Zb Zc [] ?_
 simp only [push_cast, seval, ↓reduceIte, Za, hN0, hN]
 refine (Za9 hy8).then ?_
 simp only [push_cast, seval, ↓reduceIte, Za, hN0, hN]
 refine Zf [6, 7] [true, false, false] ?_
 simp only [push_cast, seval, ↓reduceIte]
 refine Zq ?_
 try simp only [Zi, Zd]
 have h := Option.some.inj h; subst h
 refine Zk (.inr rfl) hU [.agg [.val (.int .i64 y8.1.P.Kind), .val (.int .i64 y8.1.P.Off), .val (.int .i64 y8.1.P.Data), .val (.int .i64 y8.1.P.Ptrs), .val (.int .i64 y8.1.P.Code), .val (.int .i64 y8.1.P.Count), .val (.int .i64 y8.1.P.Segment), .val (.bool y8.1.P.Double), .val (.int .i64 y8.1.Segment), .val (.int .i64 y8.1.At)], .val (.int .i64 y8.2)] (by omega) ?_
 simp only [push_cast, seval, ↓reduceIte, Za, Try.results72, hN0, hN]
theorem Zls {a0 : (Option Zj)} {a1 : Int} {a2 : Int} {r : (Yb × Int)} {O : Objs} {n : Nat} (h : Vp a0 a1 a2 = some r) : GTo Try.prog 73 [(gP Ze a0), .val (.int .i64 a1), .val (.int .i64 a2)] O n (.tup [.agg [.val (.int .i64 r.1.P.Kind), .val (.int .i64 r.1.P.Off), .val (.int .i64 r.1.P.Data), .val (.int .i64 r.1.P.Ptrs), .val (.int .i64 r.1.P.Code), .val (.int .i64 r.1.P.Count), .val (.int .i64 r.1.P.Segment), .val (.bool r.1.P.Double), .val (.int .i64 r.1.Segment), .val (.int .i64 r.1.At)], .val (.int .i64 r.2)]) O n := by
 unfold Vp at h
 refine Ym Zc Try.call73 Try.func73 rfl (Nat.le_of_ble_eq_true rfl) (Nat.le_refl _) fun hU => ?_
 have hN0 : O n = none := hU.fresh _ (Nat.le_refl _)
 have hN : ∀ k, O (n + k) = none := fun k => hU.fresh _ (Nat.le_add_right _ _)
 show W _ _ _ _ ⟨34, [], [(0, (gP Ze a0)), (1, .val (.int .i64 a1)), (2, .val (.int .i64 a2))]⟩ (Z5 O n []) _
 refine Zn [0, 1, 2, 6] (Zb Zc [] ?_)
 simp only [push_cast, seval, ↓reduceIte, Za, hN0, hN]
 refine Zg ?_
 obtain ⟨y2, hy2, h⟩ := bC h
 refine Zb Zc [] ?_
 simp only [push_cast, seval, ↓reduceIte, Za, hN0, hN]
 refine (Qr hy2).then ?_
 simp only [push_cast, seval, ↓reduceIte, Za, hN0, hN]
 refine Zf [0, 1, 2, 6, 8, 9] [true] ?_
 simp only [push_cast, seval, ↓reduceIte]
 refine Zg ?_
 refine Zn [0, 1, 2, 6, 8, 19] (Zb Zc [] ?_)
 simp only [push_cast, seval, ↓reduceIte, Za, hN0, hN]
 refine Zo (t := (!y2.2)) rfl (fun c7 => ?_) (fun c7 => ?_)
 ·replace h := Zs c7 h
  refine Zg ?_
  refine Zb Zc [] ?_
  simp only [push_cast, seval, ↓reduceIte, Za, hN0, hN]
  refine Zf [6, 7] [true] ?_
  simp only [push_cast, seval, ↓reduceIte]
  refine Zq ?_
  try simp only [Zi, Zd]
  have h := Option.some.inj h; subst h
  refine Zk (.inr rfl) hU [.agg [.val (.int .i64 0), .val (.int .i64 0), .val (.int .i64 0), .val (.int .i64 0), .val (.int .i64 0), .val (.int .i64 0), .val (.int .i64 0), .val (.bool false), .val (.int .i64 0), .val (.int .i64 0)], .val (.int .i64 7)] (by omega) ?_
  simp only [push_cast, seval, ↓reduceIte, Za, Try.results73, hN0, hN]
 replace h := Zr c7 h
 refine Zw ?_
 try simp only [Zi, Zd]
 refine Zf [0, 1, 2, 6, 8] [true] ?_
 simp only [push_cast, seval, ↓reduceIte]
 refine Zg ?_
 obtain ⟨y4, hy4, h⟩ := bC h
 refine Zb Zc [] ?_
 simp only [push_cast, seval, ↓reduceIte, Za, hN0, hN]
 refine (Q9 hy4).then ?_
 simp only [push_cast, seval, ↓reduceIte, Za, hN0, hN]
 refine Zf [0, 1, 2, 6, 10] [true, true] ?_
 simp only [push_cast, seval, ↓reduceIte]
 refine Zg ?_
 obtain ⟨y6, hy6, h⟩ := bC h
 refine Zb Zc [] ?_
 simp only [push_cast, seval, ↓reduceIte, Za, hN0, hN]
 refine (Za9 hy6).then ?_
 simp only [push_cast, seval, ↓reduceIte, Za, hN0, hN]
 refine Zf [6, 7] [true, false] ?_
 simp only [push_cast, seval, ↓reduceIte]
 refine Zq ?_
 try simp only [Zi, Zd]
 have h := Option.some.inj h; subst h
 refine Zk (.inr rfl) hU [.agg [.val (.int .i64 y6.1.P.Kind), .val (.int .i64 y6.1.P.Off), .val (.int .i64 y6.1.P.Data), .val (.int .i64 y6.1.P.Ptrs), .val (.int .i64 y6.1.P.Code), .val (.int .i64 y6.1.P.Count), .val (.int .i64 y6.1.P.Segment), .val (.bool y6.1.P.Double), .val (.int .i64 y6.1.Segment), .val (.int .i64 y6.1.At)], .val (.int .i64 y6.2)] (by omega) ?_
 simp only [push_cast, seval, ↓reduceIte, Za, Try.results73, hN0, hN]
theorem Zlq {a0 : (Option Zj)} {a1 : Int} {a2 : Int} {r : (Yb × Int)} {O : Objs} {n : Nat} (h : Vn a0 a1 a2 = some r) : GTo Try.prog 48 [(gP Ze a0), .val (.int .i64 a1), .val (.int .i64 a2)] O n (.tup [.agg [.val (.int .i64 r.1.P.Kind), .val (.int .i64 r.1.P.Off), .val (.int .i64 r.1.P.Data), .val (.int .i64 r.1.P.Ptrs), .val (.int .i64 r.1.P.Code), .val (.int .i64 r.1.P.Count), .val (.int .i64 r.1.P.Segment), .val (.bool r.1.P.Double), .val (.int .i64 r.1.Segment), .val (.int .i64 r.1.At)], .val (.int .i64 r.2)]) O n := by
 unfold Vn at h
 refine Ym Zc Try.call48 Try.func48 rfl (Nat.le_of_ble_eq_true rfl) (Nat.le_refl _) fun hU => ?_
 have hN0 : O n = none := hU.fresh _ (Nat.le_refl _)
 have hN : ∀ k, O (n + k) = none := fun k => hU.fresh _ (Nat.le_add_right _ _)
 show W _ _ _ _ ⟨67, [], [(0, (gP Ze a0)), (1, .val (.int .i64 a1)), (2, .val (.int .i64 a2))]⟩ (Z5 O n []) _
 refine Zn [0, 1, 2, 6] (Zb Zc [] ?_)
 simp only [push_cast, seval, ↓reduceIte, Za, hN0, hN]
 refine Zg ?_
 obtain ⟨y2, hy2, h⟩ := bC h
 refine Zb Zc [] ?_
 simp only [push_cast, seval, ↓reduceIte, Za, hN0, hN]
 refine (Qr hy2).then ?_
 simp only [push_cast, seval, ↓reduceIte, Za, hN0, hN]
 refine Zf [0, 1, 2, 6, 8, 9] [true] ?_
 simp only [push_cast, seval, ↓reduceIte]
 refine Zg ?_
 refine Zn [0, 1, 2, 6, 8, 19] (Zb Zc [] ?_)
 simp only [push_cast, seval, ↓reduceIte, Za, hN0, hN]
 refine Zo (t := (!y2.2)) rfl (fun c14 => ?_) (fun c14 => ?_)
 ·replace h := Zs c14 h
  refine Zg ?_
  refine Zb Zc [] ?_
  simp only [push_cast, seval, ↓reduceIte, Za, hN0, hN]
  refine Zf [6, 7] [true] ?_
  simp only [push_cast, seval, ↓reduceIte]
  refine Zq ?_
  try simp only [Zi, Zd]
  have h := Option.some.inj h; subst h
  refine Zk (.inr rfl) hU [.agg [.val (.int .i64 0), .val (.int .i64 0), .val (.int .i64 0), .val (.int .i64 0), .val (.int .i64 0), .val (.int .i64 0), .val (.int .i64 0), .val (.bool false), .val (.int .i64 0), .val (.int .i64 0)], .val (.int .i64 7)] (by omega) ?_
  simp only [push_cast, seval, ↓reduceIte, Za, Try.results48, hN0, hN]
 replace h := Zr c14 h
 refine Zw ?_
 try simp only [Zi, Zd]
 refine Zf [0, 1, 2, 6, 8] [true] ?_
 simp only [push_cast, seval, ↓reduceIte]
 refine Zg ?_
 obtain ⟨y4, hy4, h⟩ := bC h
 refine Zb Zc [] ?_
 simp only [push_cast, seval, ↓reduceIte, Za, hN0, hN]
 refine (Q9 hy4).then ?_
 simp only [push_cast, seval, ↓reduceIte, Za, hN0, hN]
 refine Zf [0, 1, 2, 6, 10] [true, true] ?_
 simp only [push_cast, seval, ↓reduceIte]
 refine Zg ?_
 refine Qz ?_
 refine Zn [0, 1, 2, 6, 10, 23] (Zb Zc [] ?_)
 simp only [push_cast, seval, ↓reduceIte, Za, hN0, hN]
 refine Zo (t := (y4.Kind == 0)) rfl (fun c13 => ?_) (fun c13 => ?_)
 ·replace h := Zs c13 h
  refine Zg ?_
  refine Zb Zc [] ?_
  simp only [push_cast, seval, ↓reduceIte, Za, hN0, hN]
  refine Zf [6, 7] [true, false] ?_
  simp only [push_cast, seval, ↓reduceIte]
  refine Zq ?_
  try simp only [Zi, Zd]
  have h := Option.some.inj h; subst h
  refine Zk (.inr rfl) hU [.agg [.val (.int .i64 0), .val (.int .i64 0), .val (.int .i64 0), .val (.int .i64 0), .val (.int .i64 0), .val (.int .i64 0), .val (.int .i64 0), .val (.bool false), .val (.int .i64 0), .val (.int .i64 0)], .val (.int .i64 0)] (by omega) ?_
  simp only [push_cast, seval, ↓reduceIte, Za, Try.results48, hN0, hN]
 replace h := Zr c13 h
 refine Zn [0, 1, 2, 6, 10, 28] (Zb Zc [none, none] ?_)
 simp only [push_cast, seval, ↓reduceIte, Za, hN0, hN]
 repeat (with_reducible refine And.intro (by first | (intro h0; simp only [h0, and_self]; done) | (intro h0; simp only [h0, Bool.not_false, Bool.not_true, Bool.true_and, Bool.and_true, true_and, and_true, and_self, imp_self, implies_true, bne_iff_ne, ne_eq, beq_iff_eq]; done) | (intros; simp_all; done) | exact True.intro) ?_)
 refine Zo (t := (cond (y4.Kind == 3) y4.Double false)) rfl (fun c12 => ?_) (fun c12 => ?_)
 ·replace h := Zs c12 h
  refine Zg ?_
  obtain ⟨y6, hy6, h⟩ := bC h
  refine Zb Zc [] ?_
  simp only [push_cast, seval, ↓reduceIte, Za, hN0, hN]
  refine (Zlr hy6).then ?_
  simp only [push_cast, seval, ↓reduceIte, Za, hN0, hN]
  refine Zf [6, 7] [true, false] ?_
  simp only [push_cast, seval, ↓reduceIte]
  refine Zq ?_
  try simp only [Zi, Zd]
  have h := Option.some.inj h; subst h
  refine Zk (.inr rfl) hU [.agg [.val (.int .i64 y6.1.P.Kind), .val (.int .i64 y6.1.P.Off), .val (.int .i64 y6.1.P.Data), .val (.int .i64 y6.1.P.Ptrs), .val (.int .i64 y6.1.P.Code), .val (.int .i64 y6.1.P.Count), .val (.int .i64 y6.1.P.Segment), .val (.bool y6.1.P.Double), .val (.int .i64 y6.1.Segment), .val (.int .i64 y6.1.At)], .val (.int .i64 y6.2)] (by omega) ?_
  simp only [push_cast, seval, ↓reduceIte, Za, Try.results48, hN0, hN]
 replace h := Zr c12 h
 refine Zn [0, 1, 2, 6, 10, 44] (Zb Zc [] ?_)
 simp only [push_cast, seval, ↓reduceIte, Za, hN0, hN]
 refine Zo (t := (y4.Kind == 3)) rfl (fun c11 => ?_) (fun c11 => ?_)
 ·replace h := Zs c11 h
  refine Zg ?_
  obtain ⟨y8, hy8, h⟩ := bC h
  refine Zb Zc [] ?_
  simp only [push_cast, seval, ↓reduceIte, Za, hN0, hN]
  refine (Zls hy8).then ?_
  simp only [push_cast, seval, ↓reduceIte, Za, hN0, hN]
  refine Zf [6, 7] [true, false] ?_
  simp only [push_cast, seval, ↓reduceIte]
  refine Zq ?_
  try simp only [Zi, Zd]
  have h := Option.some.inj h; subst h
  refine Zk (.inr rfl) hU [.agg [.val (.int .i64 y8.1.P.Kind), .val (.int .i64 y8.1.P.Off), .val (.int .i64 y8.1.P.Data), .val (.int .i64 y8.1.P.Ptrs), .val (.int .i64 y8.1.P.Code), .val (.int .i64 y8.1.P.Count), .val (.int .i64 y8.1.P.Segment), .val (.bool y8.1.P.Double), .val (.int .i64 y8.1.Segment), .val (.int .i64 y8.1.At)], .val (.int .i64 y8.2)] (by omega) ?_
  simp only [push_cast, seval, ↓reduceIte, Za, Try.results48, hN0, hN]
 replace h := Zr c11 h
 refine Zw ?_
 try simp only [Zi, Zd]
 refine Zf [0, 1, 2, 6, 10] [true, true] ?_
 simp only [push_cast, seval, ↓reduceIte]
 refine Zg ?_
 obtain ⟨y10, hy10, h⟩ := bC h
 refine Zb Zc [] ?_
 simp only [push_cast, seval, ↓reduceIte, Za, hN0, hN]
 refine (Za9 hy10).then ?_
 simp only [push_cast, seval, ↓reduceIte, Za, hN0, hN]
 refine Zf [6, 7] [true, false] ?_
 simp only [push_cast, seval, ↓reduceIte]
 refine Zq ?_
 try simp only [Zi, Zd]
 have h := Option.some.inj h; subst h
 refine Zk (.inr rfl) hU [.agg [.val (.int .i64 y10.1.P.Kind), .val (.int .i64 y10.1.P.Off), .val (.int .i64 y10.1.P.Data), .val (.int .i64 y10.1.P.Ptrs), .val (.int .i64 y10.1.P.Code), .val (.int .i64 y10.1.P.Count), .val (.int .i64 y10.1.P.Segment), .val (.bool y10.1.P.Double), .val (.int .i64 y10.1.Segment), .val (.int .i64 y10.1.At)], .val (.int .i64 y10.2)] (by omega) ?_
 simp only [push_cast, seval, ↓reduceIte, Za, Try.results48, hN0, hN]
theorem Ze3 {a0 : Zh} {r : (Zh × Int)} {O : Objs} {n : Nat} (h : Jw a0 = some r) : GTo Try.prog 49 [.agg (Zl a0)] O n (.tup [.agg (Zl r.1), .val (.int .i64 r.2)]) O n := by
 unfold Jw at h
 refine Ym Zc Try.call49 Try.func49 rfl (Nat.le_of_ble_eq_true rfl) (Nat.le_refl _) fun hU => ?_
 have hN0 : O n = none := hU.fresh _ (Nat.le_refl _)
 have hN : ∀ k, O (n + k) = none := fun k => hU.fresh _ (Nat.le_add_right _ _)
 show W _ _ _ _ ⟨56, [], [(0, .agg (Zl a0))]⟩ (Z5 O n []) _
 refine Zn [1, 2] (Zb Zc [] ?_)
 simp only [push_cast, seval, ↓reduceIte, Za, hN0, hN]
 refine Zg ?_
 obtain ⟨y2, hy2, h⟩ := bC h
 refine Zb Zc [] ?_
 simp only [push_cast, seval, ↓reduceIte, Za, hN0, hN]
 refine (Qr hy2).then ?_
 simp only [push_cast, seval, ↓reduceIte, Za, hN0, hN]
 refine Zf [1, 2, 4] [true, true] ?_
 simp only [push_cast, seval, ↓reduceIte]
 refine Zg ?_
 obtain ⟨y4, hy4, h⟩ := bC h
 refine Zb Zc [] ?_
 simp only [push_cast, seval, ↓reduceIte, Za, hN0, hN]
 refine (Q9 hy4).then ?_
 simp only [push_cast, seval, ↓reduceIte, Za, hN0, hN]
 refine Zf [1, 2, 6] [true, true, true] ?_
 simp only [push_cast, seval, ↓reduceIte]
 refine Zg ?_
 refine Zn [1, 2, 6, 44] (Zb Zc [none, none, none, none, none, none, none, none, none, none, none, none, none, none, none, none, none] ?_)
 simp only [push_cast, seval, ↓reduceIte, Za, hN0, hN]
 repeat (with_reducible refine And.intro (by first | (intro h0; simp only [h0, and_self]; done) | (intro h0; simp only [h0, Bool.not_false, Bool.not_true, Bool.true_and, Bool.and_true, true_and, and_true, and_self, imp_self, implies_true, bne_iff_ne, ne_eq, beq_iff_eq]; done) | (intros; simp_all; done) | exact True.intro) ?_)
 refine Zo (t := (cond (cond (cond (y4.Kind != 0) (y4.Kind != 1) false) true (decide (y4.Off < 0))) true (decide (a0.count < (IntKind.i64.wrap (y4.Off * (IntKind.i64.wrap (y4.Data + y4.Ptrs)))))))) rfl (fun c5 => ?_) (fun c5 => ?_)
 ·replace h := Zs c5 h
  refine Zg ?_
  refine Zb Zc [] ?_
  simp only [push_cast, seval, ↓reduceIte, Za, hN0, hN]
  refine Zf [2, 3] [false, true, false] ?_
  simp only [push_cast, seval, ↓reduceIte]
  refine Zq ?_
  try simp only [Zi, Zd]
  have h := Option.some.inj h; subst h
  refine Zk (.inr rfl) hU [.agg [.val (.pointer none), .val (.int .i64 0), .val (.int .i64 0), .val (.int .i64 0), .val (.int .i64 0), .val (.int .i64 0), .val (.int .i64 0), .val (.int .i64 0), .val (.int .i64 0)], .val (.int .i64 8)] (by omega) ?_
  simp only [push_cast, seval, ↓reduceIte, Za, Try.results49, hN0, hN]
 replace h := Zr c5 h
 refine Zw ?_
 try simp only [Zi, Zd]
 refine Zf [1, 2, 6] [true, true, true] ?_
 simp only [push_cast, seval, ↓reduceIte]
 refine Zg ?_
 refine Zi7 Zc (by kernel_rfl) [.plain, .plain, .low, .low, .low, .low, .plain, .pass, .plain, .pass, .plain, .bar] (fun i => i ≠ n + 0) [0, 1, 2, 3, 4, 5, 6, 7, 8, 9, 10, 11] [.plain, .plain, .low, .low, .low, .low, .plain, .pass, .plain, .pass, .plain, .bar] [] (by kernel_rfl) rfl ?_
 simp only [push_cast, seval, ↓reduceIte, Za, hN0, hN]
 repeat (with_reducible refine And.intro (by first | omega | exact Kf rfl | exact Jr | exact Zbk rfl | exact Zbj rfl rfl) ?_)
 refine Zf [1, 2] [true, true, false] ?_
 simp only [push_cast, seval, ↓reduceIte]
 refine Zg ?_
 refine Zb Zc [] ?_
 simp only [push_cast, seval, ↓reduceIte, Za, hN0, hN]
 refine Zf [2, 3] [false, true, false] ?_
 simp only [push_cast, seval, ↓reduceIte]
 refine Zq ?_
 try simp only [Zi, Zd]
 have h := Option.some.inj h; subst h
 refine Zk (.inr rfl) hU [.agg [(gP Ze a0.a), .val (.int .i64 a0.kind), .val (.int .i64 a0.segment), .val (.int .i64 a0.at_), .val (.int .i64 y4.Data), .val (.int .i64 y4.Ptrs), .val (.int .i64 y4.Off), .val (.int .i64 a0.code), .val (.int .i64 a0.index)], .val (.int .i64 0)] (by omega) ?_
 simp only [push_cast, seval, ↓reduceIte, Za, Try.results49, hN0, hN]
theorem U7 {a0 : (Option Zj)} {a1 : Int} {a2 : Int} {r : (Zh × Int)} {O : Objs} {n : Nat} (h : Jm a0 a1 a2 = some r) : GTo Try.prog 16 [(gP Ze a0), .val (.int .i64 a1), .val (.int .i64 a2)] O n (.tup [.agg (Zl r.1), .val (.int .i64 r.2)]) O n := by
 unfold Jm at h
 refine Ym Zc Try.call16 Try.func16 rfl (Nat.le_of_ble_eq_true rfl) (Nat.le_refl _) fun hU => ?_
 have hN0 : O n = none := hU.fresh _ (Nat.le_refl _)
 have hN : ∀ k, O (n + k) = none := fun k => hU.fresh _ (Nat.le_add_right _ _)
 show W _ _ _ _ ⟨66, [], [(0, (gP Ze a0)), (1, .val (.int .i64 a1)), (2, .val (.int .i64 a2))]⟩ (Z5 O n []) _
 refine Zn [0, 1, 2, 6] (Zb Zc [] ?_)
 simp only [push_cast, seval, ↓reduceIte, Za, hN0, hN]
 refine Zg ?_
 obtain ⟨y2, hy2, h⟩ := bC h
 refine Zb Zc [] ?_
 simp only [push_cast, seval, ↓reduceIte, Za, hN0, hN]
 refine (Zlq hy2).then ?_
 simp only [push_cast, seval, ↓reduceIte, Za, hN0, hN]
 refine Zf [0, 6, 8, 9] [true, true] ?_
 simp only [push_cast, seval, ↓reduceIte]
 refine Zg ?_
 refine Zn [0, 6, 8, 9, 25] (Zb Zc [none, none, none, none] ?_)
 simp only [push_cast, seval, ↓reduceIte, Za, hN0, hN]
 repeat (with_reducible refine And.intro (by first | (intro h0; simp only [h0, and_self]; done) | (intro h0; simp only [h0, Bool.not_false, Bool.not_true, Bool.true_and, Bool.and_true, true_and, and_true, and_self, imp_self, implies_true, bne_iff_ne, ne_eq, beq_iff_eq]; done) | (intros; simp_all; done) | exact True.intro) ?_)
 refine Zo (t := (cond (y2.2 != 0) true (y2.1.P.Kind == 0))) rfl (fun c7 => ?_) (fun c7 => ?_)
 ·replace h := Zs c7 h
  refine Zg ?_
  refine Zb Zc [] ?_
  simp only [push_cast, seval, ↓reduceIte, Za, hN0, hN]
  refine Zf [6, 7] [true, false] ?_
  simp only [push_cast, seval, ↓reduceIte]
  refine Zq ?_
  try simp only [Zi, Zd]
  have h := Option.some.inj h; subst h
  refine Zk (.inr rfl) hU [.agg [.val (.pointer none), .val (.int .i64 0), .val (.int .i64 0), .val (.int .i64 0), .val (.int .i64 0), .val (.int .i64 0), .val (.int .i64 0), .val (.int .i64 0), .val (.int .i64 0)], .val (.int .i64 y2.2)] (by omega) ?_
  simp only [push_cast, seval, ↓reduceIte, Za, Try.results16, hN0, hN]
 replace h := Zr c7 h
 refine Zw ?_
 try simp only [Zi, Zd]
 refine Zf [0, 6, 8] [true, true] ?_
 simp only [push_cast, seval, ↓reduceIte]
 refine Zg ?_
 refine Zb Zc [] ?_
 simp only [push_cast, seval, ↓reduceIte, Za, hN0, hN]
 refine Zf [6, 8, 10] [true, true, true] ?_
 simp only [push_cast, seval, ↓reduceIte]
 refine Zg ?_
 refine Zn [6, 8, 10, 37] (Zb Zc [] ?_)
 simp only [push_cast, seval, ↓reduceIte, Za, hN0, hN]
 refine Zo (t := (y2.1.P.Kind == 1)) rfl (fun c6 => ?_) (fun c6 => ?_)
 ·replace h := Zs c6 h
  refine Zg ?_
  refine Zi7 Zc (by kernel_rfl) [.low, .low, .low, .low, .low, .low, .plain, .pass, .plain, .pass, .plain, .bar] (fun i => i ≠ n + 2) [0, 1, 2, 3, 4, 5, 6, 7, 8, 9, 10, 11] [.low, .low, .low, .low, .low, .low, .plain, .pass, .plain, .pass, .plain, .bar] [] (by kernel_rfl) rfl ?_
  simp only [push_cast, seval, ↓reduceIte, Za, hN0, hN]
  repeat (with_reducible refine And.intro (by first | omega | exact Kf rfl | exact Jr | exact Zbk rfl | exact Zbj rfl rfl) ?_)
  refine Zf [6, 10] [true, false, true] ?_
  simp only [push_cast, seval, ↓reduceIte]
  refine Zg ?_
  refine Zb Zc [] ?_
  simp only [push_cast, seval, ↓reduceIte, Za, hN0, hN]
  refine Zf [6, 7] [true, false, false] ?_
  simp only [push_cast, seval, ↓reduceIte]
  refine Zq ?_
  try simp only [Zi, Zd]
  have h := Option.some.inj h; subst h
  refine Zk (.inr rfl) hU [.agg [(gP Ze a0), .val (.int .i64 1), .val (.int .i64 y2.1.Segment), .val (.int .i64 y2.1.At), .val (.int .i64 y2.1.P.Data), .val (.int .i64 y2.1.P.Ptrs), .val (.int .i64 0), .val (.int .i64 0), .val (.int .i64 0)], .val (.int .i64 0)] (by omega) ?_
  simp only [push_cast, seval, ↓reduceIte, Za, Try.results16, hN0, hN]
 replace h := Zr c6 h
 refine Zw ?_
 try simp only [Zi, Zd]
 refine Zf [6, 8, 10] [true, true, true] ?_
 simp only [push_cast, seval, ↓reduceIte]
 refine Zg ?_
 refine Zi7 Zc (by kernel_rfl) [.plain, .plain, .plain, .plain, .low, .low, .low, .plain, .pass, .plain, .bar] (fun i => i ≠ n + 2) [0, 1, 2, 3, 4, 5, 6, 7, 8, 9, 10] [.plain, .plain, .plain, .plain, .low, .low, .low, .plain, .pass, .plain, .bar] [] (by kernel_rfl) rfl ?_
 simp only [push_cast, seval, ↓reduceIte, Za, hN0, hN]
 repeat (with_reducible refine And.intro (by first | omega | exact Kf rfl | exact Jr | exact Zbk rfl | exact Zbj rfl rfl) ?_)
 refine Zf [6, 8, 10] [true, true, true] ?_
 simp only [push_cast, seval, ↓reduceIte]
 refine Zg ?_
 refine Zn [6, 10, 60] (Zb Zc [] ?_)
 simp only [push_cast, seval, ↓reduceIte, Za, hN0, hN]
 refine Zo (t := (y2.1.P.Code == 7)) rfl (fun c5 => ?_) (fun c5 => ?_)
 ·replace h := Zs c5 h
  refine Zg ?_
  obtain ⟨y4, hy4, h⟩ := bC h
  refine Zb Zc [] ?_
  simp only [push_cast, seval, ↓reduceIte, Za, hN0, hN]
  refine (Ze3 hy4).then ?_
  simp only [push_cast, seval, ↓reduceIte, Za, hN0, hN]
  refine Zf [6, 7] [true, false, false] ?_
  simp only [push_cast, seval, ↓reduceIte]
  refine Zq ?_
  try simp only [Zi, Zd]
  have h := Option.some.inj h; subst h
  refine Zk (.inr rfl) hU [.agg (Zl y4.1), .val (.int .i64 y4.2)] (by omega) ?_
  simp only [push_cast, seval, ↓reduceIte, Za, Try.results16, hN0, hN]
 replace h := Zr c5 h
 refine Zw ?_
 try simp only [Zi, Zd]
 refine Zf [6, 10] [true, false, true] ?_
 simp only [push_cast, seval, ↓reduceIte]
 refine Zg ?_
 refine Zb Zc [] ?_
 simp only [push_cast, seval, ↓reduceIte, Za, hN0, hN]
 refine Zf [6, 7] [true, false, false] ?_
 simp only [push_cast, seval, ↓reduceIte]
 refine Zq ?_
 try simp only [Zi, Zd]
 have h := Option.some.inj h; subst h
 refine Zk (.inr rfl) hU [.agg [(gP Ze a0), .val (.int .i64 (IntKind.i64.wrap (y2.1.P.Code + 2))), .val (.int .i64 y2.1.Segment), .val (.int .i64 y2.1.At), .val (.int .i64 0), .val (.int .i64 0), .val (.int .i64 y2.1.P.Count), .val (.int .i64 0), .val (.int .i64 0)], .val (.int .i64 0)] (by omega) ?_
 simp only [push_cast, seval, ↓reduceIte, Za, Try.results16, hN0, hN]
theorem Zj5 {a0 : (Option Zj)} {r : (Zh × Int)} {O : Objs} {n : Nat} (h : Kw a0 = some r) : GTo Try.prog 24 [(gP Ze a0)] O n (.tup [.agg (Zl r.1), .val (.int .i64 r.2)]) O n := by
 unfold Kw at h
 refine Ym Zc Try.call24 Try.func24 rfl (Nat.le_of_ble_eq_true rfl) (Nat.le_refl _) fun hU => ?_
 have hN0 : O n = none := hU.fresh _ (Nat.le_refl _)
 have hN : ∀ k, O (n + k) = none := fun k => hU.fresh _ (Nat.le_add_right _ _)
 show W _ _ _ _ ⟨8, [], [(0, (gP Ze a0))]⟩ (Z5 O n []) _
 refine Zn [0, 2] (Zb Zc [] ?_)
 simp only [push_cast, seval, ↓reduceIte, Za, hN0, hN]
 refine Zg ?_
 obtain ⟨y2, hy2, h⟩ := bC h
 refine Zb Zc [] ?_
 simp only [push_cast, seval, ↓reduceIte, Za, hN0, hN]
 refine (U7 hy2).then ?_
 simp only [push_cast, seval, ↓reduceIte, Za, hN0, hN]
 refine Zf [2, 3] [true] ?_
 simp only [push_cast, seval, ↓reduceIte]
 refine Zq ?_
 try simp only [Zi, Zd]
 have h := Option.some.inj h; subst h
 refine Zk (.inr rfl) hU [.agg (Zl y2.1), .val (.int .i64 y2.2)] (by omega) ?_
 simp only [push_cast, seval, ↓reduceIte, Za, Try.results24, hN0, hN]
theorem Y3 {a0 : Zh} {r : Int} {O : Objs} {n : Nat} (h : Q1 a0 = some r) : GTo Try.prog 25 [.agg (Zl a0)] O n (.val (.int .i64 r)) O n := by
 unfold Q1 at h
 refine Ym Zc Try.call25 Try.func25 rfl (Nat.le_of_ble_eq_true rfl) (Nat.le_refl _) fun hU => ?_
 have hN0 : O n = none := hU.fresh _ (Nat.le_refl _)
 have hN : ∀ k, O (n + k) = none := fun k => hU.fresh _ (Nat.le_add_right _ _)
 show W _ _ _ _ ⟨5, [], [(0, .agg (Zl a0))]⟩ (Z5 O n []) _
 refine Zn [1] (Zb Zc [] ?_)
 simp only [push_cast, seval, ↓reduceIte, Za, hN0, hN]
 refine Zn [2] (Zb Zc [] ?_)
 simp only [push_cast, seval, ↓reduceIte, Za, hN0, hN]
 refine Zq ?_
 try simp only [Zi, Zd]
 have h := Option.some.inj h; subst h
 refine Zk (.inr rfl) hU [.val (.int .i64 a0.kind)] (by omega) ?_
 simp only [push_cast, seval, ↓reduceIte, Za, Try.results25, hN0, hN]
theorem K7 {a0 : Zh} {r : Int} {O : Objs} {n : Nat} (h : Xc a0 = some r) : GTo Try.prog 26 [.agg (Zl a0)] O n (.val (.int .i64 r)) O n := by
 unfold Xc at h
 refine Ym Zc Try.call26 Try.func26 rfl (Nat.le_of_ble_eq_true rfl) (Nat.le_refl _) fun hU => ?_
 have hN0 : O n = none := hU.fresh _ (Nat.le_refl _)
 have hN : ∀ k, O (n + k) = none := fun k => hU.fresh _ (Nat.le_add_right _ _)
 show W _ _ _ _ ⟨10, [], [(0, .agg (Zl a0))]⟩ (Z5 O n []) _
 refine Zn [1] (Zb Zc [] ?_)
 simp only [push_cast, seval, ↓reduceIte, Za, hN0, hN]
 refine Zg ?_
 refine Zn [1, 5] (Zb Zc [] ?_)
 simp only [push_cast, seval, ↓reduceIte, Za, hN0, hN]
 refine Zo (t := (a0.kind == 1)) rfl (fun c1 => ?_) (fun c1 => ?_)
 ·replace h := Zs c1 h
  refine Zn [2] (Zb Zc [] ?_)
  simp only [push_cast, seval, ↓reduceIte, Za, hN0, hN]
  refine Zq ?_
  try simp only [Zi, Zd]
  have h := Option.some.inj h; subst h
  refine Zk (.inr rfl) hU [.val (.int .i64 a0.ptrs)] (by omega) ?_
  simp only [push_cast, seval, ↓reduceIte, Za, Try.results26, hN0, hN]
 replace h := Zr c1 h
 refine Zw ?_
 try simp only [Zi, Zd]
 refine Zf [1] [true] ?_
 simp only [push_cast, seval, ↓reduceIte]
 refine Zn [2] (Zb Zc [] ?_)
 simp only [push_cast, seval, ↓reduceIte, Za, hN0, hN]
 refine Zq ?_
 try simp only [Zi, Zd]
 have h := Option.some.inj h; subst h
 refine Zk (.inr rfl) hU [.val (.int .i64 a0.count)] (by omega) ?_
 simp only [push_cast, seval, ↓reduceIte, Za, Try.results26, hN0, hN]
theorem Zgn {a0 : Zh} {a1 : Int} {r : (Zh × Int)} {O : Objs} {n : Nat} (h : Jd a0 a1 = some r) : GTo Try.prog 20 [.agg (Zl a0), .val (.int .i64 a1)] O n (.tup [.agg (Zl r.1), .val (.int .i64 r.2)]) O n := by
 unfold Jd at h
 refine Ym Zc Try.call20 Try.func20 rfl (Nat.le_of_ble_eq_true rfl) (Nat.le_refl _) fun hU => ?_
 have hN0 : O n = none := hU.fresh _ (Nat.le_refl _)
 have hN : ∀ k, O (n + k) = none := fun k => hU.fresh _ (Nat.le_add_right _ _)
 show W _ _ _ _ ⟨81, [], [(0, .agg (Zl a0)), (1, .val (.int .i64 a1))]⟩ (Z5 O n []) _
 refine Zn [1, 2, 4] (Zb Zc [] ?_)
 simp only [push_cast, seval, ↓reduceIte, Za, hN0, hN]
 refine Zg ?_
 obtain ⟨z2, hz2, h⟩ := bC h
 refine Q6 (E' := ⟨81, [], [(1, .val (.int .i64 a1)), (2, .ref n 0), (4, .ref (n + 1) 0), (14, .val (.bool z2))]⟩) (O' := (Z5 O n [some ⟨false, 27, 9, 1, (Zl a0)⟩, some ⟨false, 27, 9, 1, [.val (.pointer none), .val (.int .i64 0), .val (.int .i64 0), .val (.int .i64 0), .val (.int .i64 0), .val (.int .i64 0), .val (.int .i64 0), .val (.int .i64 0), .val (.int .i64 0)]⟩])) (n0 := (n + 2)) ?_ ?_
 ·rcases Bool.eq_false_or_eq_true (decide (a1 < 0)) with c5 | c5
  ·replace hz2 := Zs c5 hz2
   refine Zb Zc [some false, some false, some false, some false] ?_
   simp only [push_cast, seval, ↓reduceIte, Za, c5, hN0, hN]
   have hz2 := Option.some.inj hz2; subst hz2
   refine And.intro rfl (Fit2.of (Zp hU rfl rfl ?_) (by omega))
   simp only [push_cast, seval, ↓reduceIte, Za, c5, hN0, hN]
  replace hz2 := Zr c5 hz2
  obtain ⟨y4, hy4, hz2⟩ := bC hz2
  refine Zb Zc [some true, some true, some true, some true] ?_
  simp only [push_cast, seval, ↓reduceIte, Za, c5, hN0, hN]
  refine (K7 hy4).then ?_
  simp only [push_cast, seval, ↓reduceIte, Za, c5, hN0, hN]
  have hz2 := Option.some.inj hz2; subst hz2
  refine And.intro rfl (Fit2.of (Zp hU rfl rfl ?_) (by omega))
  simp only [push_cast, seval, ↓reduceIte, Za, c5, hN0, hN]
 refine Zo (t := z2) rfl (fun c13 => ?_) (fun c13 => ?_)
 ·replace h := Zs c13 h
  refine Zg ?_
  refine Zb Zc [] ?_
  simp only [push_cast, seval, ↓reduceIte, Za, hN0, hN]
  refine Zf [4, 5] [false, true] ?_
  simp only [push_cast, seval, ↓reduceIte]
  refine Zq ?_
  try simp only [Zi, Zd]
  have h := Option.some.inj h; subst h
  refine Zk (.inr rfl) hU [.agg [.val (.pointer none), .val (.int .i64 0), .val (.int .i64 0), .val (.int .i64 0), .val (.int .i64 0), .val (.int .i64 0), .val (.int .i64 0), .val (.int .i64 0), .val (.int .i64 0)], .val (.int .i64 0)] (by omega) ?_
  simp only [push_cast, seval, ↓reduceIte, Za, Try.results20, hN0, hN]
 replace h := Zr c13 h
 refine Zw ?_
 try simp only [Zi, Zd]
 refine Zf [1, 2, 4] [true, true] ?_
 simp only [push_cast, seval, ↓reduceIte]
 refine Zg ?_
 refine Zn [1, 2, 4, 17] (Zb Zc [] ?_)
 simp only [push_cast, seval, ↓reduceIte, Za, hN0, hN]
 refine Qz ?_
 refine Zn [1, 2, 4, 17, 18] (Zb Zc [] ?_)
 simp only [push_cast, seval, ↓reduceIte, Za, hN0, hN]
 refine Zo (t := (a0.kind == 1)) rfl (fun c12 => ?_) (fun c12 => ?_)
 ·replace h := Zs c12 h
  refine Zg ?_
  obtain ⟨y7, hy7, h⟩ := bC h
  refine Zb Zc [] ?_
  simp only [push_cast, seval, ↓reduceIte, Za, hN0, hN]
  refine (U7 hy7).then ?_
  simp only [push_cast, seval, ↓reduceIte, Za, hN0, hN]
  refine Zf [4, 5] [false, true] ?_
  simp only [push_cast, seval, ↓reduceIte]
  refine Zq ?_
  try simp only [Zi, Zd]
  have h := Option.some.inj h; subst h
  refine Zk (.inr rfl) hU [.agg (Zl y7.1), .val (.int .i64 y7.2)] (by omega) ?_
  simp only [push_cast, seval, ↓reduceIte, Za, Try.results20, hN0, hN]
 replace h := Zr c12 h
 refine Zn [1, 2, 4, 17, 34] (Zb Zc [] ?_)
 simp only [push_cast, seval, ↓reduceIte, Za, hN0, hN]
 refine Zo (t := (a0.kind == 8)) rfl (fun c11 => ?_) (fun c11 => ?_)
 ·replace h := Zs c11 h
  refine Zg ?_
  obtain ⟨y9, hy9, h⟩ := bC h
  refine Zb Zc [] ?_
  simp only [push_cast, seval, ↓reduceIte, Za, hN0, hN]
  refine (U7 hy9).then ?_
  simp only [push_cast, seval, ↓reduceIte, Za, hN0, hN]
  refine Zf [4, 5] [false, true] ?_
  simp only [push_cast, seval, ↓reduceIte]
  refine Zq ?_
  try simp only [Zi, Zd]
  have h := Option.some.inj h; subst h
  refine Zk (.inr rfl) hU [.agg (Zl y9.1), .val (.int .i64 y9.2)] (by omega) ?_
  simp only [push_cast, seval, ↓reduceIte, Za, Try.results20, hN0, hN]
 replace h := Zr c11 h
 refine Zn [1, 2, 4, 47] (Zb Zc [] ?_)
 simp only [push_cast, seval, ↓reduceIte, Za, hN0, hN]
 refine Zo (t := (a0.kind == 9)) rfl (fun c10 => ?_) (fun c10 => ?_)
 ·replace h := Zs c10 h
  refine Zn [2, 4, 6] (Zb Zc [] ?_)
  simp only [push_cast, seval, ↓reduceIte, Za, hN0, hN]
  refine Zg ?_
  refine Zb Zc [] ?_
  simp only [push_cast, seval, ↓reduceIte, Za, hN0, hN]
  refine Zf [4, 5] [false, true] ?_
  simp only [push_cast, seval, ↓reduceIte]
  refine Zq ?_
  try simp only [Zi, Zd]
  have h := Option.some.inj h; subst h
  refine Zk (.inr rfl) hU [.agg [(gP Ze a0.a), .val (.int .i64 1), .val (.int .i64 a0.segment), .val (.int .i64 (IntKind.i64.wrap ((IntKind.i64.wrap (a0.at_ + 1)) + (IntKind.i64.wrap (a1 * (IntKind.i64.wrap (a0.words + a0.ptrs))))))), .val (.int .i64 a0.words), .val (.int .i64 a0.ptrs), .val (.int .i64 0), .val (.int .i64 0), .val (.int .i64 0)], .val (.int .i64 0)] (by omega) ?_
  simp only [push_cast, seval, ↓reduceIte, Za, Try.results20, hN0, hN]
 replace h := Zr c10 h
 refine Zw ?_
 try simp only [Zi, Zd]
 refine Zf [1, 2, 4] [true, true] ?_
 simp only [push_cast, seval, ↓reduceIte]
 refine Zg ?_
 refine Zb Zc [] ?_
 simp only [push_cast, seval, ↓reduceIte, Za, hN0, hN]
 refine Zf [4, 5] [false, true] ?_
 simp only [push_cast, seval, ↓reduceIte]
 refine Zq ?_
 try simp only [Zi, Zd]
 have h := Option.some.inj h; subst h
 refine Zk (.inr rfl) hU [.agg [(gP Ze a0.a), .val (.int .i64 10), .val (.int .i64 a0.segment), .val (.int .i64 a0.at_), .val (.int .i64 0), .val (.int .i64 0), .val (.int .i64 0), .val (.int .i64 (IntKind.i64.wrap (a0.kind - 2))), .val (.int .i64 a1)], .val (.int .i64 0)] (by omega) ?_
 simp only [push_cast, seval, ↓reduceIte, Za, Try.results20, hN0, hN]
theorem Xm {a0 : Zh} {r : Int} {O : Objs} {n : Nat} (h : Y2 a0 = some r) : GTo Try.prog 53 [.agg (Zl a0)] O n (.val (.int .i64 r)) O n := by
 unfold Y2 at h
 refine Ym Zc Try.call53 Try.func53 rfl (Nat.le_of_ble_eq_true rfl) (Nat.le_refl _) fun hU => ?_
 have hN0 : O n = none := hU.fresh _ (Nat.le_refl _)
 have hN : ∀ k, O (n + k) = none := fun k => hU.fresh _ (Nat.le_add_right _ _)
 show W _ _ _ _ ⟨11, [], [(0, .agg (Zl a0))]⟩ (Z5 O n []) _
 refine Zn [1] (Zb Zc [] ?_)
 simp only [push_cast, seval, ↓reduceIte, Za, hN0, hN]
 refine Zg ?_
 refine Zn [1, 4] (Zb Zc [] ?_)
 simp only [push_cast, seval, ↓reduceIte, Za, hN0, hN]
 refine Qz ?_
 refine Zn [1, 4, 5] (Zb Zc [] ?_)
 simp only [push_cast, seval, ↓reduceIte, Za, hN0, hN]
 refine Zo (t := (a0.kind == 1)) rfl (fun c2 => ?_) (fun c2 => ?_)
 ·replace h := Zs c2 h
  refine Zn [2] (Zb Zc [] ?_)
  simp only [push_cast, seval, ↓reduceIte, Za, hN0, hN]
  refine Zq ?_
  try simp only [Zi, Zd]
  have h := Option.some.inj h; subst h
  refine Zk (.inr rfl) hU [.val (.int .i64 a0.words)] (by omega) ?_
  simp only [push_cast, seval, ↓reduceIte, Za, Try.results53, hN0, hN]
 replace h := Zr c2 h
 refine Zn [9] (Zb Zc [] ?_)
 simp only [push_cast, seval, ↓reduceIte, Za, hN0, hN]
 refine Zo (t := (a0.kind == 10)) rfl (fun c1 => ?_) (fun c1 => ?_)
 ·replace h := Zs c1 h
  refine Zn [2] (Zb Zc [] ?_)
  simp only [push_cast, seval, ↓reduceIte, Za, hN0, hN]
  refine Zq ?_
  try simp only [Zi, Zd]
  have h := Option.some.inj h; subst h
  refine Zk (.inr rfl) hU [.val (.int .i64 1)] (by omega) ?_
  simp only [push_cast, seval, ↓reduceIte, Za, Try.results53, hN0, hN]
 replace h := Zr c1 h
 refine Zw ?_
 try simp only [Zi, Zd]
 refine Zf [] [false] ?_
 simp only [push_cast, seval, ↓reduceIte]
 refine Zn [2] (Zb Zc [] ?_)
 simp only [push_cast, seval, ↓reduceIte, Za, hN0, hN]
 refine Zq ?_
 try simp only [Zi, Zd]
 have h := Option.some.inj h; subst h
 refine Zk (.inr rfl) hU [.val (.int .i64 0)] (by omega) ?_
 simp only [push_cast, seval, ↓reduceIte, Za, Try.results53, hN0, hN]
theorem Ze6 {a0 : Int} {r : (Int × Bool)} {O : Objs} {n : Nat} (h : Kg a0 = some r) : GTo Try.prog 80 [.val (.int .i64 a0)] O n (.tup [.val (.int .i64 r.1), .val (.bool r.2)]) O n := by
 unfold Kg at h
 refine Ym Zc Try.call80 Try.func80 rfl (Nat.le_of_ble_eq_true rfl) (Nat.le_refl _) fun hU => ?_
 have hN0 : O n = none := hU.fresh _ (Nat.le_refl _)
 have hN : ∀ k, O (n + k) = none := fun k => hU.fresh _ (Nat.le_add_right _ _)
 show W _ _ _ _ ⟨15, [], [(0, .val (.int .i64 a0))]⟩ (Z5 O n []) _
 refine Zn [0] (Zb Zc [] ?_)
 simp only [push_cast, seval, ↓reduceIte, Za, hN0, hN]
 refine Zg ?_
 obtain ⟨y6, hy6, ey6, h⟩ := bY (f := (eI .i64)) (cs := [.val (.int .i64 0), .val (.int .i64 1), .val (.int .i64 8), .val (.int .i64 16), .val (.int .i64 32), .val (.int .i64 64)]) rfl h
 have g7 := congrArg G.agg ey6
 obtain ⟨y8, hy8, ey8, h⟩ := bY (f := (eI .i64)) (cs := [.val (.int .i64 0), .val (.int .i64 0), .val (.int .i64 0), .val (.int .i64 0), .val (.int .i64 0), .val (.int .i64 0)]) rfl h
 have g9 := congrArg (GObj.mk false 138 6 1) ey8
 have g10 := Zjv (f := (eI .i64)) y8 y6 (fun _ => rfl)
 refine Zb Zc [] ?_
 simp only [push_cast, seval, ↓reduceIte, Za, g7, g9, g10, hN0, hN]
 refine Zf [0, 4] [true] ?_
 simp only [push_cast, seval, ↓reduceIte]
 refine Zg ?_
 refine Zn [0, 4, 11] (Zb Zc [none, none] ?_)
 simp only [push_cast, seval, ↓reduceIte, Za, hN0, hN]
 repeat (with_reducible refine And.intro (by first | (intro h0; simp only [h0, and_self]; done) | (intro h0; simp only [h0, Bool.not_false, Bool.not_true, Bool.true_and, Bool.and_true, true_and, and_true, and_self, imp_self, implies_true, bne_iff_ne, ne_eq, beq_iff_eq]; done) | (intros; simp_all; done) | exact True.intro) ?_)
 refine Zo (t := (cond (decide (a0 < 0)) true (decide (6 ≤ a0)))) rfl (fun c13 => ?_) (fun c13 => ?_)
 ·replace h := Zs c13 h
  refine Zn [2, 3] (Zb Zc [] ?_)
  simp only [push_cast, seval, ↓reduceIte, Za, hN0, hN]
  refine Zq ?_
  try simp only [Zi, Zd]
  have h := Option.some.inj h; subst h
  refine Zk (.inr rfl) hU [.val (.int .i64 0), .val (.bool false)] (by omega) ?_
  simp only [push_cast, seval, ↓reduceIte, Za, Try.results80, hN0, hN]
 replace h := Zr c13 h
 refine Zw ?_
 try simp only [Zi, Zd]
 refine Zf [0, 4] [true] ?_
 simp only [push_cast, seval, ↓reduceIte]
 obtain ⟨x12, hx12, ax12, bx12, cx12, h⟩ := bEA (f := (eI .i64)) (b := 6) rfl Zoq (fun _ => rfl) (by decide) h
 refine Zn [2, 3] (Zb Zc [] ?_)
 simp only [push_cast, Nat.reduceAdd, Nat.reduceSub, Nat.reduceMul, Nat.reduceLeDiff, Nat.reduceLT, Nat.reduceEqDiff, ↓reduceIte, reduceCtorEq, Int.reduceBEq, Int.reduceBNe, Nat.reduceBEq, Int.reduceLE, Int.reduceLT, Int.reduceEq, Int.reduceNe, Int.reduceNeg, Nat.reduceDiv, Nat.reduceMod, Nat.reducePow, Za, ax12, bx12, cx12, hN0, hN]
 refine Zq ?_
 try simp only [Zi, Zd]
 have h := Option.some.inj h; subst h
 refine Zk (.inr rfl) hU [.val (.int .i64 x12), .val (.bool true)] (by omega) ?_
 simp only [push_cast, seval, ↓reduceIte, Za, Try.results80, hN0, hN]
theorem Znz {a0 : (List Int)} {a1 : Int} {a2 : Int} {r : Int} {O : Objs} {n : Nat} (h : Gx a0 a1 a2 = some r) : GTo Try.prog 81 [.sl a0.length (fl (eI .u64) a0), .val (.int .i64 a1), .val (.int .i64 a2)] O n (.val (.int .u64 r)) O n := by
 unfold Gx at h
 refine Ym Zc Try.call81 Try.func81 rfl (Nat.le_of_ble_eq_true rfl) (Nat.le_refl _) fun hU => ?_
 have hN0 : O n = none := hU.fresh _ (Nat.le_refl _)
 have hN : ∀ k, O (n + k) = none := fun k => hU.fresh _ (Nat.le_add_right _ _)
 show W _ _ _ _ ⟨45, [], [(0, .sl a0.length (fl (eI .u64) a0)), (1, .val (.int .i64 a1)), (2, .val (.int .i64 a2))]⟩ (Z5 O n []) _
 refine Zn [0, 1, 2] (Zb Zc [] ?_)
 simp only [push_cast, seval, ↓reduceIte, Za, hN0, hN]
 refine Zg ?_
 obtain ⟨y2, hy2, h⟩ := bC h
 refine Zb Zc [] ?_
 simp only [push_cast, seval, ↓reduceIte, Za, hN0, hN]
 refine (Ze6 hy2).then ?_
 simp only [push_cast, seval, ↓reduceIte, Za, hN0, hN]
 refine Zf [0, 2, 7] [] ?_
 simp only [push_cast, seval, ↓reduceIte]
 refine Zg ?_
 refine Zn [0, 2, 7, 20] (Zb Zc [none, none] ?_)
 simp only [push_cast, seval, ↓reduceIte, Za, hN0, hN]
 repeat (with_reducible refine And.intro (by first | (intro h0; simp only [h0, and_self]; done) | (intro h0; simp only [h0, Bool.not_false, Bool.not_true, Bool.true_and, Bool.and_true, true_and, and_true, and_self, imp_self, implies_true, bne_iff_ne, ne_eq, beq_iff_eq]; done) | (intros; simp_all; done) | exact True.intro) ?_)
 refine Zo (t := (cond (y2.1 == 0) true (decide (a2 < 0)))) rfl (fun c18 => ?_) (fun c18 => ?_)
 ·replace h := Zs c18 h
  refine Zn [6] (Zb Zc [] ?_)
  simp only [push_cast, seval, ↓reduceIte, Za, hN0, hN]
  refine Zq ?_
  try simp only [Zi, Zd]
  have h := Option.some.inj h; subst h
  refine Zk (.inr rfl) hU [.val (.int .u64 0)] (by omega) ?_
  simp only [push_cast, seval, ↓reduceIte, Za, Try.results81, hN0, hN]
 replace h := Zr c18 h
 refine Zw ?_
 try simp only [Zi, Zd]
 refine Zf [0, 2, 7] [] ?_
 simp only [push_cast, seval, ↓reduceIte]
 obtain ⟨pu4, h⟩ := bG h
 refine Zn [0, 2, 7, 9] (Zb Zc [] ?_)
 simp only [push_cast, seval, ↓reduceIte, Za, pu4, hN0, hN]
 refine Zg ?_
 obtain ⟨pu6, h⟩ := bG h
 refine Zn [0, 2, 7, 9, 28] (Zb Zc [] ?_)
 simp only [push_cast, seval, ↓reduceIte, Za, pu6, hN0, hN]
 refine Zo (t := (decide ((a0.length : Int) ≤ (IntKind.i64.wrap (Int.tdiv a2 (IntKind.i64.wrap (Int.tdiv 64 y2.1))))))) rfl (fun c17 => ?_) (fun c17 => ?_)
 ·replace h := Zs c17 h
  refine Zn [6] (Zb Zc [] ?_)
  simp only [push_cast, seval, ↓reduceIte, Za, hN0, hN]
  refine Zq ?_
  try simp only [Zi, Zd]
  have h := Option.some.inj h; subst h
  refine Zk (.inr rfl) hU [.val (.int .u64 0)] (by omega) ?_
  simp only [push_cast, seval, ↓reduceIte, Za, Try.results81, hN0, hN]
 replace h := Zr c17 h
 refine Zw ?_
 try simp only [Zi, Zd]
 refine Zf [0, 2, 7, 9] [] ?_
 simp only [push_cast, seval, ↓reduceIte]
 obtain ⟨pu12, h⟩ := bG h
 obtain ⟨x13, hx13, ax13, bx13, cx13, h⟩ := bE (f := (eI .u64)) Vw (fun _ => rfl) (by decide) h
 obtain ⟨pu14, h⟩ := bG h
 obtain ⟨pu15, h⟩ := bG h
 obtain ⟨pu16, h⟩ := bG h
 refine Zn [6] (Jq Zc (by kernel_rfl) [] (by kernel_rfl) ?_)
 simp only [push_cast, Nat.reduceAdd, Nat.reduceSub, Nat.reduceMul, Nat.reduceLeDiff, Nat.reduceLT, Nat.reduceEqDiff, ↓reduceIte, reduceCtorEq, Int.reduceBEq, Int.reduceBNe, Nat.reduceBEq, Int.reduceLE, Int.reduceLT, Int.reduceEq, Int.reduceNe, Int.reduceNeg, Nat.reduceDiv, Nat.reduceMod, Nat.reducePow, Za, pu12, ax13, bx13, cx13, pu14, pu15, pu16, hN0, hN]
 refine Zq ?_
 try simp only [Zi, Zd]
 have h := Option.some.inj h; subst h
 refine Zk (.inr rfl) hU [.val (.int .u64 (IntKind.u64.wrap (Kl .u64 (Int.fdiv x13 (2 ^ min (Int.toNat (IntKind.i64.wrap ((Int.tmod a2 (IntKind.i64.wrap (Int.tdiv 64 y2.1))) * y2.1))) 64)) (IntKind.u64.wrap ((IntKind.u64.wrap (1 * 2 ^ min (Int.toNat y2.1) 64)) - 1)))))] (by omega) ?_
 simp only [push_cast, seval, ↓reduceIte, Za, Try.results81, hN0, hN]
theorem Zdi {a0 : Zh} {r : Int} {O : Objs} {n : Nat} (h : X9 a0 = some r) : GTo Try.prog 59 [.agg (Zl a0)] O n (.val (.int .u64 r)) O n := by
 unfold X9 at h
 refine Ym Zc Try.call59 Try.func59 rfl (Nat.le_of_ble_eq_true rfl) (Nat.le_refl _) fun hU => ?_
 have hN0 : O n = none := hU.fresh _ (Nat.le_refl _)
 have hN : ∀ k, O (n + k) = none := fun k => hU.fresh _ (Nat.le_add_right _ _)
 show W _ _ _ _ ⟨42, [], [(0, .agg (Zl a0))]⟩ (Z5 O n []) _
 refine Zn [1] (Zb Zc [] ?_)
 simp only [push_cast, seval, ↓reduceIte, Za, hN0, hN]
 refine Zg ?_
 obtain ⟨y2, hy2, h⟩ := bC h
 refine Zb Zc [] ?_
 simp only [push_cast, seval, ↓reduceIte, Za, hN0, hN]
 refine (Ze6 hy2).then ?_
 simp only [push_cast, seval, ↓reduceIte, Za, hN0, hN]
 refine Zf [1, 3] [true] ?_
 simp only [push_cast, seval, ↓reduceIte]
 refine Zg ?_
 refine Zn [1, 3, 15] (Zb Zc [] ?_)
 simp only [push_cast, seval, ↓reduceIte, Za, hN0, hN]
 refine Zo (t := (y2.1 == 0)) rfl (fun c13 => ?_) (fun c13 => ?_)
 ·replace h := Zs c13 h
  refine Zn [2] (Zb Zc [] ?_)
  simp only [push_cast, seval, ↓reduceIte, Za, hN0, hN]
  refine Zq ?_
  try simp only [Zi, Zd]
  have h := Option.some.inj h; subst h
  refine Zk (.inr rfl) hU [.val (.int .u64 0)] (by omega) ?_
  simp only [push_cast, seval, ↓reduceIte, Za, Try.results59, hN0, hN]
 replace h := Zr c13 h
 refine Zw ?_
 try simp only [Zi, Zd]
 refine Zf [1, 3] [true] ?_
 simp only [push_cast, seval, ↓reduceIte]
 obtain ⟨pu4, h⟩ := bG h
 refine Zn [1, 5] (Zb Zc [] ?_)
 simp only [push_cast, seval, ↓reduceIte, Za, pu4, hN0, hN]
 refine Zg ?_
 obtain ⟨pu7, h⟩ := bG h
 obtain ⟨y8, hy8, h⟩ := bC h
 refine Jq Zc (by kernel_rfl) [] (by kernel_rfl) ?_
 simp only [push_cast, seval, ↓reduceIte, Za, pu7, hN0, hN]
 refine PCall.of (Qr hy8) ?_
 simp only [push_cast, seval, ↓reduceIte, Za, pu7, hN0, hN]
 refine Zf [1, 5, 6] [true] ?_
 simp only [push_cast, seval, ↓reduceIte]
 refine Zg ?_
 obtain ⟨pu11, h⟩ := bG h
 obtain ⟨y12, hy12, h⟩ := bC h
 refine Zi7 Zc (by kernel_rfl) [.plain, .pass, .low, .low, .low, .low, .low, .low, .bar, .plain] (fun i => i < (n + 1)) [0, 2, 3, 4, 5, 6, 7, 1, 8, 9] [.plain, .low, .low, .low, .low, .low, .low, .pass, .bar, .plain] [] (by kernel_rfl) rfl ?_
 simp only [push_cast, seval, ↓reduceIte, Za, pu11, hN0, hN]
 repeat (with_reducible refine And.intro (by first | omega | exact Kf rfl | exact Jr | exact Zbk rfl | exact Zbj rfl rfl) ?_)
 refine GCalls.lend (Znz hy12) rfl ?_ ?_
 ·simp only [push_cast, seval, ↓reduceIte, Za, pu11, hN0, hN]
 simp only [push_cast, seval, ↓reduceIte, Za, pu11, hN0, hN]
 repeat (with_reducible refine And.intro (by first | omega | exact Kf rfl | exact Jr | exact Zbk rfl | exact Zbj rfl rfl) ?_)
 refine Zp4 ⟨42, [], [(2, .val (.int .u64 y12))]⟩ (Z5 O n [none, none]) (Zp hU rfl rfl ?_) ?_
 ·simp only [push_cast, seval, ↓reduceIte, Za, pu11, hN0, hN]
 refine Zq ?_
 try simp only [Zi, Zd]
 have h := Option.some.inj h; subst h
 refine Zk (.inr rfl) hU [.val (.int .u64 y12)] (by omega) ?_
 simp only [push_cast, seval, ↓reduceIte, Za, Try.results59, hN0, hN]
theorem Xx {a0 : Zh} {a1 : Int} {r : Int} {O : Objs} {n : Nat} (h : Yv a0 a1 = some r) : GTo Try.prog 27 [.agg (Zl a0), .val (.int .i64 a1)] O n (.val (.int .u64 r)) O n := by
 unfold Yv at h
 refine Ym Zc Try.call27 Try.func27 rfl (Nat.le_of_ble_eq_true rfl) (Nat.le_refl _) fun hU => ?_
 have hN0 : O n = none := hU.fresh _ (Nat.le_refl _)
 have hN : ∀ k, O (n + k) = none := fun k => hU.fresh _ (Nat.le_add_right _ _)
 show W _ _ _ _ ⟨33, [], [(0, .agg (Zl a0)), (1, .val (.int .i64 a1))]⟩ (Z5 O n []) _
 refine Zn [1, 2] (Zb Zc [] ?_)
 simp only [push_cast, seval, ↓reduceIte, Za, hN0, hN]
 refine Zg ?_
 obtain ⟨z2, hz2, h⟩ := bC h
 refine Q6 (E' := ⟨33, [], [(1, .val (.int .i64 a1)), (2, .ref n 0), (14, .val (.bool z2))]⟩) (O' := (Z5 O n [some ⟨false, 27, 9, 1, (Zl a0)⟩])) (n0 := (n + 1)) ?_ ?_
 ·rcases Bool.eq_false_or_eq_true (decide (a1 < 0)) with c5 | c5
  ·replace hz2 := Zs c5 hz2
   refine Zb Zc [some false, some false, some false, some false] ?_
   simp only [push_cast, seval, ↓reduceIte, Za, c5, hN0, hN]
   have hz2 := Option.some.inj hz2; subst hz2
   refine And.intro rfl (Fit2.of (Zp hU rfl rfl ?_) (by omega))
   simp only [push_cast, seval, ↓reduceIte, Za, c5, hN0, hN]
  replace hz2 := Zr c5 hz2
  obtain ⟨y4, hy4, hz2⟩ := bC hz2
  refine Zb Zc [some true, some true, some true, some true] ?_
  simp only [push_cast, seval, ↓reduceIte, Za, c5, hN0, hN]
  refine (Xm hy4).then ?_
  simp only [push_cast, seval, ↓reduceIte, Za, c5, hN0, hN]
  have hz2 := Option.some.inj hz2; subst hz2
  refine And.intro rfl (Fit2.of (Zp hU rfl rfl ?_) (by omega))
  simp only [push_cast, seval, ↓reduceIte, Za, c5, hN0, hN]
 refine Zo (t := z2) rfl (fun c11 => ?_) (fun c11 => ?_)
 ·replace h := Zs c11 h
  refine Zn [4] (Zb Zc [] ?_)
  simp only [push_cast, seval, ↓reduceIte, Za, hN0, hN]
  refine Zq ?_
  try simp only [Zi, Zd]
  have h := Option.some.inj h; subst h
  refine Zk (.inr rfl) hU [.val (.int .u64 0)] (by omega) ?_
  simp only [push_cast, seval, ↓reduceIte, Za, Try.results27, hN0, hN]
 replace h := Zr c11 h
 refine Zw ?_
 try simp only [Zi, Zd]
 refine Zf [1, 2] [true] ?_
 simp only [push_cast, seval, ↓reduceIte]
 refine Zg ?_
 refine Zn [1, 2, 17] (Zb Zc [] ?_)
 simp only [push_cast, seval, ↓reduceIte, Za, hN0, hN]
 refine Zo (t := (a0.kind == 10)) rfl (fun c10 => ?_) (fun c10 => ?_)
 ·replace h := Zs c10 h
  refine Zg ?_
  obtain ⟨y7, hy7, h⟩ := bC h
  refine Zb Zc [] ?_
  simp only [push_cast, seval, ↓reduceIte, Za, hN0, hN]
  refine (Zdi hy7).then ?_
  simp only [push_cast, seval, ↓reduceIte, Za, hN0, hN]
  refine Zf [4] [false] ?_
  simp only [push_cast, seval, ↓reduceIte]
  refine Zq ?_
  try simp only [Zi, Zd]
  have h := Option.some.inj h; subst h
  refine Zk (.inr rfl) hU [.val (.int .u64 y7)] (by omega) ?_
  simp only [push_cast, seval, ↓reduceIte, Za, Try.results27, hN0, hN]
 replace h := Zr c10 h
 refine Zw ?_
 try simp only [Zi, Zd]
 refine Zf [1, 2] [true] ?_
 simp only [push_cast, seval, ↓reduceIte]
 refine Zg ?_
 obtain ⟨y9, hy9, h⟩ := bC h
 refine Zb Zc [] ?_
 simp only [push_cast, seval, ↓reduceIte, Za, hN0, hN]
 refine (Qr hy9).then ?_
 simp only [push_cast, seval, ↓reduceIte, Za, hN0, hN]
 refine Zf [5] [false] ?_
 simp only [push_cast, seval, ↓reduceIte]
 refine Zn [4] (Zb Zc [] ?_)
 simp only [push_cast, seval, ↓reduceIte, Za, hN0, hN]
 refine Zq ?_
 try simp only [Zi, Zd]
 have h := Option.some.inj h; subst h
 refine Zk (.inr rfl) hU [.val (.int .u64 y9.1)] (by omega) ?_
 simp only [push_cast, seval, ↓reduceIte, Za, Try.results27, hN0, hN]
end Go.Proofs.Ytmlhokaflhlhbaa
