/- Part VM3 of this seat's mirrors: functions of the seat's program, and the plain functions that they are; each theorem bears its own conditions. -/
import Derived.Test.YtmlhokaflhlhbaaVE
import Derived.Test.YtmlhokaflhlhbaaVM2
namespace Go.Proofs.Ytmlhokaflhlhbaa
open Go.RowKit
set_option linter.unusedVariables false
set_option linter.unusedSimpArgs false
set_option maxRecDepth 100000
set_option maxHeartbeats 4000000
attribute [local push_cast] J6 Vi Zy Z4 Zl Zf6 Zf5 Zgw Zgv Zi Zd Zc7 Gs Gr onW Ye K9 Km Zga Zfb Zb3 Zb8 Zb2 Zb7 Zd1 Zdy Zb6 Zd0 Zdz Zb4 Zdw Zak evS wok Yu Op.operands Call.operands gop onK onP atK List.all_cons List.all_nil Bool.and_true Bool.true_and Bool.and_self Value.oneCell' List.take_zero List.take_succ_cons List.take_nil List.drop_zero List.drop_succ_cons List.drop_nil List.append_nil Nat.add_zero Nat.zero_add Qu Zz ev Yy Zll Zfw Zfv Zf1 Zfz Zf0 Zfx Zfy Zfu Zih Zi4 Zlm Za8 Kr Zaz K4 Zbn U1 Ub Ug Gn Gk Ue Gm Gl Ud Gi Uc Uf Vj Gj Zc9 Gt Jt Za0 Ju Zcd Za7 Zju bLo bHi bMx Ks Zcc Zmm Za6 Zcm V9 Q0 Zix Zmq Zax Zmt Kq Znp Zdc Zdg Zdb Zdf Zgi Zgf Zgd Zbp Zdd Zgh Zgg Zde Zge Zcs Zik Zdr Zaf Zae pop TK.isAgg Zgp Zgt Zgo Zgs Zdk Zka Zj7 Zgr Zj9 Zj8 Zgq Zj6 G.under G.unders List.getD_cons_zero List.getD_cons_succ List.set_cons_zero List.set_cons_succ List.map_cons List.map_nil List.toList_toArray Array.toList_append Option.toArray_none Option.toArray_some Array.toList_map Option.map_some Option.map_none Option.bind_some Option.bind_none List.getElem?_cons_zero List.getElem?_cons_succ List.getElem?_nil List.nil_append List.cons_append List.replicate_succ List.replicate_zero List.length_cons List.length_nil and_true true_and and_false false_and Bool.true_eq_false Bool.false_eq_true forall_const false_implies implies_true IntKind.bits if_true if_false ite_true ite_false eq_self true_implies false_or or_false or_true true_or not_true_eq_false not_false_eq_true decide_true decide_false decide_eq_true_eq decide_eq_false_iff_not beq_iff_eq bne_iff_ne ne_eq Bool.not_eq_true Bool.not_eq_false beq_eq_false_iff_ne bne_eq_false_iff_eq beq_self_eq_true bne_self_eq_false Option.some.injEq exists_eq_left' exists_eq_left ge_iff_le gt_iff_lt decide_not Bool.not_true Bool.not_false imp_self Zjx cond_true cond_false Zrr Zrq Bool.not_not Bool.and_false Bool.false_and Bool.or_true Bool.true_or Bool.or_false Bool.false_or Za4 Zfk Zeo Zc4 Zbi U8 Option.join_some Nat.add_assoc Int.toNat_natCast eI eB eS eL Zif Ga Ul Zf9 Zf7 Zf8 Zn1 Zpu Ge Ur Zg3 Zg1 Zg2 Zlu Ze9 Zjo Zg8 Zlj Vy Zig List.length_append G.agg.injEq G.row.injEq G.ref.injEq G.val.injEq G.sl.injEq G.tup.injEq Value.int.injEq Value.bool.injEq Value.string.injEq List.cons.injEq exists_and_left exists_const List.flatten_cons List.flatten_nil Int.le_refl Nat.le_refl Zek Vg Zc5 Bool.not_eq_true' Bool.not_eq_false' Zic Zaq Zlc Zlg Zlb Zlf Zpe Zpa List.size_toArray Zi5 Zi2 G.ren G.rens Zlw Zcg Zg7 Zfr Zfs Zdx Zlh G0 G.fn.injEq Zb9 Zen Zia Zpb Zem Zle Zpd Zpc Zld Zj1 Znw Option.join_none Xs Js undef Zcn Arr.len Arr.put_eq Gd Zbs Zaa Uq Zg0 Zgy Zgz onB Zn0 Ziv Zdv Zcu Zcv Zcw Zcx Zcy Zcz Zbq Zbw Zbu Zad Us Zbv Zdq Zdp Zdo Zdn Zpt Zq7 Zlt Zkc X0 Zlo Zgj Zby Zac Zm1 Zha Za5 Zcl Za1 Zbz Zc0 Zc1 Zc2 Zc3 Zbb Zbc Zbd Zbe Zbf Zbg Zbh Uh prT Vm Zsi Zk0 Zoq Zk1 Zsj Zk2 Zsk Zk3 Zsl Zk4 Zsm Zk5 Zsn Zk6 Zso Zk7 Zn9 Zhb Zoa Zhc Zob Zhd Zoc Zhe Zod Zhf Zoe Zhg Zof Zhh Zog Zhi Zoh Zhj Zoi Zhk Zoj Zhl Zok Zhm Zol Zhn Zom Zew Zon Zho Zoo Zhp Zop Zhq Vw Zhr Zor Zhs Zos Zht Vx Za3 Zot Zhu Zou Zhv Zov Zhw Zow Zhx Zox Zhy Zoy Zhz Zoz Zh0 Zo0 Zh1 Zo1 Zh2 Zo2 Zh3 Zo3 Zh4 Zo4 Zh5 Zo5 Zh6 Zo6 Zh7 Zo7 Zh8 Zo8 Zh9 Zkj Zd3 Zkk Zd4 Zkl Zd5 Zkm Zd6 Zkn Zd7 Zko Zd8 Zkp Zd9 Zkq Zea Zkr Zeb Zks Zec Zkt Zed Zku Zee Zkv Zef Zkw Zeg Zkx Zeh Zky Zei Zkz Zej Zas Zap Gw Gz Zav U0 Ux Uv Zam K1 K0 Kt Kx K2 Kb Ka J9 Kz Ze Qd Qc X8 Qa Qe X5 X4 X3 Qb Uj Zar Zao Gv Gy Zau Uz Uw Uu Zal Ui J8 Qj Qk J7 Zu Xu Xt Xp Xq Xv Xh Xf Xe Xr Z3 Qg Jj Ji Ja Je Jk Q5 Q4 Q3 Jh
theorem Zdh {a0 : (List (List Int))} {a1 : Int} {a2 : Int} {r : (Zv × Int)} {O : Objs} {n : Nat} (h : Xl a0 a1 a2 = some r) : GTo Try.prog 50 [.sl a0.length (fl (eL (eI .u64)) a0), .val (.int .i64 a1), .val (.int .i64 a2)] O n (.tup [.agg [.val (.int .i64 r.1.P.Kind), .val (.int .i64 r.1.P.Off), .val (.int .i64 r.1.P.Data), .val (.int .i64 r.1.P.Ptrs), .val (.int .i64 r.1.P.Code), .val (.int .i64 r.1.P.Count), .val (.int .i64 r.1.P.Segment), .val (.bool r.1.P.Double), .val (.int .i64 r.1.Segment), .val (.int .i64 r.1.At)], .val (.int .i64 r.2)]) O n := by
 unfold Xl at h
 refine Ym Zc Try.call50 Try.func50 rfl (Nat.le_of_ble_eq_true rfl) (Nat.le_refl _) fun hU => ?_
 have hN0 : O n = none := hU.fresh _ (Nat.le_refl _)
 have hN : ∀ k, O (n + k) = none := fun k => hU.fresh _ (Nat.le_add_right _ _)
 show W _ _ _ _ ⟨147, [], [(0, .sl a0.length (fl (eL (eI .u64)) a0)), (1, .val (.int .i64 a1)), (2, .val (.int .i64 a2))]⟩ (Z5 O n []) _
 refine Zn [0, 1, 2, 6] (Zb Zc [] ?_)
 simp only [push_cast, seval, ↓reduceIte, Za, hN0, hN]
 refine Zg ?_
 refine Zg ?_
 obtain ⟨y2, hy2, h⟩ := bC h
 refine Zb Zc [] ?_
 simp only [push_cast, seval, ↓reduceIte, Za, hN0, hN]
 refine (Q2 hy2).then ?_
 simp only [push_cast, seval, ↓reduceIte, Za, hN0, hN]
 refine Zf [0, 1, 2, 6, 17] [true] ?_
 simp only [push_cast, seval, ↓reduceIte]
 refine Zo (t := (!y2)) rfl (fun c47 => ?_) (fun c47 => ?_)
 ·replace h := Zs c47 h
  refine Zg ?_
  refine Zb Zc [] ?_
  simp only [push_cast, seval, ↓reduceIte, Za, hN0, hN]
  refine Zf [6, 7] [true] ?_
  simp only [push_cast, seval, ↓reduceIte]
  refine Zq ?_
  try simp only [Zi, Zd]
  have h := Option.some.inj h; subst h
  refine Zk (.inr rfl) hU [.agg [.val (.int .i64 0), .val (.int .i64 0), .val (.int .i64 0), .val (.int .i64 0), .val (.int .i64 0), .val (.int .i64 0), .val (.int .i64 0), .val (.bool false), .val (.int .i64 0), .val (.int .i64 0)], .val (.int .i64 7)] (by omega) ?_
  simp only [push_cast, seval, ↓reduceIte, Za, Try.results50, hN0, hN]
 replace h := Zr c47 h
 refine Zw ?_
 try simp only [Zi, Zd]
 refine Zf [0, 1, 2, 6] [true] ?_
 simp only [push_cast, seval, ↓reduceIte]
 refine Zg ?_
 obtain ⟨x6, hx6, ax6, bx6, cx6, h⟩ := bE (f := (eL (eI .u64))) Vx (fun _ => rfl) (by decide) h
 obtain ⟨x7, hx7, ax7, bx7, cx7, h⟩ := bE (f := (eI .u64)) Vw (fun _ => rfl) (by decide) h
 obtain ⟨y8, hy8, h⟩ := bC h
 refine Zb Zc [] ?_
 simp only [push_cast, Nat.reduceAdd, Nat.reduceSub, Nat.reduceMul, Nat.reduceLeDiff, Nat.reduceLT, Nat.reduceEqDiff, ↓reduceIte, reduceCtorEq, Int.reduceBEq, Int.reduceBNe, Nat.reduceBEq, Int.reduceLE, Int.reduceLT, Int.reduceEq, Int.reduceNe, Int.reduceNeg, Nat.reduceDiv, Nat.reduceMod, Nat.reducePow, Za, ax6, bx6, cx6, ax7, bx7, cx7, hN0, hN]
 refine (Yp hy8).then ?_
 simp only [push_cast, Nat.reduceAdd, Nat.reduceSub, Nat.reduceMul, Nat.reduceLeDiff, Nat.reduceLT, Nat.reduceEqDiff, ↓reduceIte, reduceCtorEq, Int.reduceBEq, Int.reduceBNe, Nat.reduceBEq, Int.reduceLE, Int.reduceLT, Int.reduceEq, Int.reduceNe, Int.reduceNeg, Nat.reduceDiv, Nat.reduceMod, Nat.reducePow, Za, ax6, bx6, cx6, ax7, bx7, cx7, hN0, hN]
 refine Zf [0, 1, 2, 6, 8] [true, true] ?_
 simp only [push_cast, seval, ↓reduceIte]
 refine Zg ?_
 refine Zn [0, 1, 2, 6, 8, 29] (Zb Zc [] ?_)
 simp only [push_cast, seval, ↓reduceIte, Za, hN0, hN]
 refine Zo (t := (y8.Kind == 0)) rfl (fun c46 => ?_) (fun c46 => ?_)
 ·replace h := Zs c46 h
  refine Zg ?_
  refine Zb Zc [] ?_
  simp only [push_cast, seval, ↓reduceIte, Za, hN0, hN]
  refine Zf [6, 7] [true, false] ?_
  simp only [push_cast, seval, ↓reduceIte]
  refine Zq ?_
  try simp only [Zi, Zd]
  have h := Option.some.inj h; subst h
  refine Zk (.inr rfl) hU [.agg [.val (.int .i64 0), .val (.int .i64 0), .val (.int .i64 0), .val (.int .i64 0), .val (.int .i64 0), .val (.int .i64 0), .val (.int .i64 0), .val (.bool false), .val (.int .i64 0), .val (.int .i64 0)], .val (.int .i64 0)] (by omega) ?_
  simp only [push_cast, seval, ↓reduceIte, Za, Try.results50, hN0, hN]
 replace h := Zr c46 h
 refine Zw ?_
 try simp only [Zi, Zd]
 refine Zf [0, 1, 2, 6, 8] [true, true] ?_
 simp only [push_cast, seval, ↓reduceIte]
 refine Zg ?_
 refine Zn [0, 1, 2, 6, 8, 37] (Zb Zc [none, none] ?_)
 simp only [push_cast, seval, ↓reduceIte, Za, hN0, hN]
 repeat (with_reducible refine And.intro (by first | (intro h0; simp only [h0, and_self]; done) | (intro h0; simp only [h0, Bool.not_false, Bool.not_true, Bool.true_and, Bool.and_true, true_and, and_true, and_self, imp_self, implies_true, bne_iff_ne, ne_eq, beq_iff_eq]; done) | (intros; simp_all; done) | exact True.intro) ?_)
 refine Zo (t := (cond (y8.Kind == 3) y8.Double false)) rfl (fun c45 => ?_) (fun c45 => ?_)
 ·replace h := Zs c45 h
  refine Zg ?_
  obtain ⟨z11, hz11, h⟩ := bC h
  refine Q6 (E' := ⟨147, [], [(0, .sl a0.length (fl (eL (eI .u64)) a0)), (6, .ref n 0), (8, .ref (n + 1) 0), (54, .val (.bool z11))]⟩) (O' := (Z5 O n [some ⟨false, 91, 10, 1, [.val (.int .i64 0), .val (.int .i64 0), .val (.int .i64 0), .val (.int .i64 0), .val (.int .i64 0), .val (.int .i64 0), .val (.int .i64 0), .val (.bool false), .val (.int .i64 0), .val (.int .i64 0)]⟩, some ⟨false, 89, 8, 1, (Z4 y8)⟩])) (n0 := (n + 2)) ?_ ?_
  ·obtain ⟨y14, hy14, hz11⟩ := bC hz11
   rcases Bool.eq_false_or_eq_true y14 with c16 | c16
   ·replace hz11 := Zs c16 hz11
    obtain ⟨y15, hy15, hz11⟩ := bC hz11
    refine Zb Zc [some true, some true, some true, some true, some true, some true, some true, some true] ?_
    simp only [push_cast, seval, ↓reduceIte, Za, c16, hN0, hN]
    refine (Q2 hy14).then ?_
    simp only [push_cast, seval, ↓reduceIte, Za, c16, hN0, hN]
    refine (Q2 hy15).then ?_
    simp only [push_cast, seval, ↓reduceIte, Za, c16, hN0, hN]
    have hz11 := Option.some.inj hz11; subst hz11
    refine And.intro rfl (Fit2.of (Zp hU rfl rfl ?_) (by omega))
    simp only [push_cast, seval, ↓reduceIte, Za, c16, hN0, hN]
   replace hz11 := Zr c16 hz11
   refine Zb Zc [some false, some false, some false, some false, some false, some false, some false, some false] ?_
   simp only [push_cast, seval, ↓reduceIte, Za, c16, hN0, hN]
   refine (Q2 hy14).then ?_
   simp only [push_cast, seval, ↓reduceIte, Za, c16, hN0, hN]
   have hz11 := Option.some.inj hz11; subst hz11
   refine And.intro rfl (Fit2.of (Zp hU rfl rfl ?_) (by omega))
   simp only [push_cast, seval, ↓reduceIte, Za, c16, hN0, hN]
  refine Zo (t := z11) rfl (fun c31 => ?_) (fun c31 => ?_)
  ·replace h := Zs c31 h
   refine Zg ?_
   refine Zb Zc [] ?_
   simp only [push_cast, seval, ↓reduceIte, Za, hN0, hN]
   refine Zf [6, 7] [true, false] ?_
   simp only [push_cast, seval, ↓reduceIte]
   refine Zq ?_
   try simp only [Zi, Zd]
   have h := Option.some.inj h; subst h
   refine Zk (.inr rfl) hU [.agg [.val (.int .i64 0), .val (.int .i64 0), .val (.int .i64 0), .val (.int .i64 0), .val (.int .i64 0), .val (.int .i64 0), .val (.int .i64 0), .val (.bool false), .val (.int .i64 0), .val (.int .i64 0)], .val (.int .i64 7)] (by omega) ?_
   simp only [push_cast, seval, ↓reduceIte, Za, Try.results50, hN0, hN]
  replace h := Zr c31 h
  refine Zw ?_
  try simp only [Zi, Zd]
  refine Zf [0, 6, 8] [true, true] ?_
  simp only [push_cast, seval, ↓reduceIte]
  obtain ⟨x17, hx17, ax17, bx17, cx17, h⟩ := bE (f := (eL (eI .u64))) Vx (fun _ => rfl) (by decide) h
  obtain ⟨x18, hx18, ax18, bx18, cx18, h⟩ := bE (f := (eI .u64)) Vw (fun _ => rfl) (by decide) h
  obtain ⟨y19, hy19, h⟩ := bC h
  obtain ⟨x21, hx21, ax21, bx21, cx21, h⟩ := bE (f := (eI .u64)) Vw (fun _ => rfl) (by decide) h
  obtain ⟨y22, hy22, h⟩ := bC h
  refine Q6 (E' := ⟨147, [], [(0, .sl a0.length (fl (eL (eI .u64)) a0)), (6, .ref n 0), (9, .ref (n + 2) 0), (10, .ref (n + 3) 0)]⟩) (O' := (Z5 O n [some ⟨false, 91, 10, 1, [.val (.int .i64 0), .val (.int .i64 0), .val (.int .i64 0), .val (.int .i64 0), .val (.int .i64 0), .val (.int .i64 0), .val (.int .i64 0), .val (.bool false), .val (.int .i64 0), .val (.int .i64 0)]⟩, none, some ⟨false, 89, 8, 1, (Z4 y19)⟩, some ⟨false, 89, 8, 1, (Z4 y22)⟩])) (n0 := (n + 4)) ?_ ?_
  ·refine Zp3 Zc (by kernel_rfl) [.low, .low, .low, .low, .low, .low, .low, .low, .low, .low, .low, .low, .low, .low, .low, .low, .low, .low, .low, .low, .low, .pass, .pass, .pass, .pass] (fun i => i < (n + 2)) 21 22 [0, 1, 2, 3, 4, 5, 6, 7, 8, 9, 10, 11, 12, 13, 14, 15, 16, 17, 18, 19, 20] [23, 24] [.low, .low, .low, .low, .low, .low, .low, .low, .low, .low, .low, .low, .low, .low, .low, .low, .low, .low, .low, .low, .low] [.pass, .pass, .pass, .pass] [.pass, .pass, .pass, .pass] [] (by kernel_rfl) rfl rfl rfl ?_
   simp only [push_cast, Nat.reduceAdd, Nat.reduceSub, Nat.reduceMul, Nat.reduceLeDiff, Nat.reduceLT, Nat.reduceEqDiff, ↓reduceIte, reduceCtorEq, Int.reduceBEq, Int.reduceBNe, Nat.reduceBEq, Int.reduceLE, Int.reduceLT, Int.reduceEq, Int.reduceNe, Int.reduceNeg, Nat.reduceDiv, Nat.reduceMod, Nat.reducePow, Za, ax17, bx17, cx17, ax18, bx18, cx18, ax21, bx21, cx21, hN0, hN]
   repeat (with_reducible refine And.intro (by omega) ?_)
   first | refine PCallA.of (fun _ _ => Yp hy19) ?_ | refine PCall.of (Yp hy19) ?_
   simp only [push_cast, Nat.reduceAdd, Nat.reduceSub, Nat.reduceMul, Nat.reduceLeDiff, Nat.reduceLT, Nat.reduceEqDiff, ↓reduceIte, reduceCtorEq, Int.reduceBEq, Int.reduceBNe, Nat.reduceBEq, Int.reduceLE, Int.reduceLT, Int.reduceEq, Int.reduceNe, Int.reduceNeg, Nat.reduceDiv, Nat.reduceMod, Nat.reducePow, Za, ax17, bx17, cx17, ax18, bx18, cx18, ax21, bx21, cx21, hN0, hN]
   repeat (with_reducible refine And.intro (by omega) ?_)
   first | refine PCallA.of (fun _ _ => Yp hy22) ?_ | refine PCall.of (Yp hy22) ?_
   simp only [push_cast, Nat.reduceAdd, Nat.reduceSub, Nat.reduceMul, Nat.reduceLeDiff, Nat.reduceLT, Nat.reduceEqDiff, ↓reduceIte, reduceCtorEq, Int.reduceBEq, Int.reduceBNe, Nat.reduceBEq, Int.reduceLE, Int.reduceLT, Int.reduceEq, Int.reduceNe, Int.reduceNeg, Nat.reduceDiv, Nat.reduceMod, Nat.reducePow, Za, ax17, bx17, cx17, ax18, bx18, cx18, ax21, bx21, cx21, hN0, hN]
   repeat (with_reducible refine And.intro (by omega) ?_)
   refine And.intro ?_ ?_
   ·simp only [push_cast, Nat.reduceAdd, Nat.reduceSub, Nat.reduceMul, Nat.reduceLeDiff, Nat.reduceLT, Nat.reduceEqDiff, ↓reduceIte, reduceCtorEq, Int.reduceBEq, Int.reduceBNe, Nat.reduceBEq, Int.reduceLE, Int.reduceLT, Int.reduceEq, Int.reduceNe, Int.reduceNeg, Nat.reduceDiv, Nat.reduceMod, Nat.reducePow, Za, ax17, bx17, cx17, ax18, bx18, cx18, ax21, bx21, cx21, hN0, hN]
    repeat (with_reducible refine And.intro (by first | exact Kf rfl | exact Jr) ?_)
    refine And.intro rfl (Fit2.of (Zp hU rfl rfl ?_) (by omega))
    simp only [push_cast, Nat.reduceAdd, Nat.reduceSub, Nat.reduceMul, Nat.reduceLeDiff, Nat.reduceLT, Nat.reduceEqDiff, ↓reduceIte, reduceCtorEq, Int.reduceBEq, Int.reduceBNe, Nat.reduceBEq, Int.reduceLE, Int.reduceLT, Int.reduceEq, Int.reduceNe, Int.reduceNeg, Nat.reduceDiv, Nat.reduceMod, Nat.reducePow, Za, ax17, bx17, cx17, ax18, bx18, cx18, ax21, bx21, cx21, hN0, hN]
   simp only [push_cast, Nat.reduceAdd, Nat.reduceSub, Nat.reduceMul, Nat.reduceLeDiff, Nat.reduceLT, Nat.reduceEqDiff, ↓reduceIte, reduceCtorEq, Int.reduceBEq, Int.reduceBNe, Nat.reduceBEq, Int.reduceLE, Int.reduceLT, Int.reduceEq, Int.reduceNe, Int.reduceNeg, Nat.reduceDiv, Nat.reduceMod, Nat.reducePow, Za, ax17, bx17, cx17, ax18, bx18, cx18, ax21, bx21, cx21, hN0, hN]
   repeat (with_reducible refine And.intro (by first | exact Kf rfl | exact Jr) ?_)
   refine And.intro rfl ?_
   refine Fit2.trans (E' := (⟨147, [], [(0, .sl a0.length (fl (eL (eI .u64)) a0)), (6, .ref n 0), (9, .ref (n + 3) 0), (10, .ref (n + 2) 0)]⟩ : Env)) (O' := (Z5 O n [some ⟨false, 91, 10, 1, [.val (.int .i64 0), .val (.int .i64 0), .val (.int .i64 0), .val (.int .i64 0), .val (.int .i64 0), .val (.int .i64 0), .val (.int .i64 0), .val (.bool false), .val (.int .i64 0), .val (.int .i64 0)]⟩, none, some ⟨false, 89, 8, 1, (Z4 y22)⟩, some ⟨false, 89, 8, 1, (Z4 y19)⟩])) (n' := (n + 4)) (Fit2.of (Zp hU rfl rfl ?_) (by omega)) ?_
   ·simp only [push_cast, Nat.reduceAdd, Nat.reduceSub, Nat.reduceMul, Nat.reduceLeDiff, Nat.reduceLT, Nat.reduceEqDiff, ↓reduceIte, reduceCtorEq, Int.reduceBEq, Int.reduceBNe, Nat.reduceBEq, Int.reduceLE, Int.reduceLT, Int.reduceEq, Int.reduceNe, Int.reduceNeg, Nat.reduceDiv, Nat.reduceMod, Nat.reducePow, Za, ax17, bx17, cx17, ax18, bx18, cx18, ax21, bx21, cx21, hN0, hN]
   refine Zqf (k := 4) (k' := 4) hU [0, 1, 3, 2] [0, 1, 3, 2] rfl rfl rfl rfl ⟨rfl, rfl⟩ ?_
   simp only [push_cast, seval, ↓reduceIte, Za, hN0, hN]
  refine Zg ?_
  refine Zn [0, 6, 9, 10, 83] (Zb Zc [none, none] ?_)
  simp only [push_cast, seval, ↓reduceIte, Za, hN0, hN]
  repeat (with_reducible refine And.intro (by first | (intro h0; simp only [h0, and_self]; done) | (intro h0; simp only [h0, Bool.not_false, Bool.not_true, Bool.true_and, Bool.and_true, true_and, and_true, and_self, imp_self, implies_true, bne_iff_ne, ne_eq, beq_iff_eq]; done) | (intros; simp_all; done) | exact True.intro) ?_)
  refine Zo (t := (cond (y19.Kind != 3) true y19.Double)) rfl (fun c30 => ?_) (fun c30 => ?_)
  ·replace h := Zs c30 h
   refine Zg ?_
   refine Zb Zc [] ?_
   simp only [push_cast, seval, ↓reduceIte, Za, hN0, hN]
   refine Zf [6, 7] [true, false, false, false] ?_
   simp only [push_cast, seval, ↓reduceIte]
   refine Zq ?_
   try simp only [Zi, Zd]
   have h := Option.some.inj h; subst h
   refine Zk (.inr rfl) hU [.agg [.val (.int .i64 0), .val (.int .i64 0), .val (.int .i64 0), .val (.int .i64 0), .val (.int .i64 0), .val (.int .i64 0), .val (.int .i64 0), .val (.bool false), .val (.int .i64 0), .val (.int .i64 0)], .val (.int .i64 8)] (by omega) ?_
   simp only [push_cast, seval, ↓reduceIte, Za, Try.results50, hN0, hN]
  replace h := Zr c30 h
  refine Zw ?_
  try simp only [Zi, Zd]
  refine Zf [0, 6, 9, 10] [true, false, true, true] ?_
  simp only [push_cast, seval, ↓reduceIte]
  refine Zg ?_
  obtain ⟨y24, hy24, h⟩ := bC h
  refine Zb Zc [] ?_
  simp only [push_cast, seval, ↓reduceIte, Za, hN0, hN]
  refine (U5 hy24).then ?_
  simp only [push_cast, seval, ↓reduceIte, Za, hN0, hN]
  refine Zf [0, 6, 9, 10, 11] [true, false, true, true] ?_
  simp only [push_cast, seval, ↓reduceIte]
  obtain ⟨z25, hz25, h⟩ := bC h
  refine Q6 (E' := ⟨147, [], [(0, .sl a0.length (fl (eL (eI .u64)) a0)), (6, .ref n 0), (9, .ref (n + 2) 0), (10, .ref (n + 3) 0), (11, .val (.int .i64 z25))]⟩) (O' := (Z5 O n [some ⟨false, 91, 10, 1, [.val (.int .i64 0), .val (.int .i64 0), .val (.int .i64 0), .val (.int .i64 0), .val (.int .i64 0), .val (.int .i64 0), .val (.int .i64 0), .val (.bool false), .val (.int .i64 0), .val (.int .i64 0)]⟩, none, some ⟨false, 89, 8, 1, (Z4 y19)⟩, some ⟨false, 89, 8, 1, (Z4 y22)⟩])) (n0 := (n + 4)) ?_ ?_
  ·refine Zn [0, 6, 9, 10, 11, 93] (Zb Zc [none, none, none] ?_)
   simp only [push_cast, seval, ↓reduceIte, Za, hN0, hN]
   repeat (with_reducible refine And.intro (by first | (intro h0; simp only [h0, and_self]; done) | (intro h0; simp only [h0, Bool.not_false, Bool.not_true, Bool.true_and, Bool.and_true, true_and, and_true, and_self, imp_self, implies_true, bne_iff_ne, ne_eq, beq_iff_eq]; done) | (intros; simp_all; done) | exact True.intro) ?_)
   refine Zo (t := (cond (y24 == 0) (y22.Off != 0) false)) rfl (fun c26 => ?_) (fun c26 => ?_)
   ·replace hz25 := Zs c26 hz25
    refine Zb Zc [] ?_
    simp only [push_cast, seval, ↓reduceIte, Za, hN0, hN]
    have hz25 := Option.some.inj hz25; subst hz25
    refine And.intro rfl (Fit2.of (Zp hU rfl rfl ?_) (by omega))
    simp only [push_cast, seval, ↓reduceIte, Za, hN0, hN]
   replace hz25 := Zr c26 hz25
   refine Zw ?_
   try simp only [Zi, Zd]
   have hz25 := Option.some.inj hz25; subst hz25
   refine And.intro rfl (Fit2.of (Zp hU rfl rfl ?_) (by omega))
   simp only [push_cast, seval, ↓reduceIte, Za, hN0, hN]
  refine Zg ?_
  refine Zn [0, 6, 9, 10, 11, 95] (Zb Zc [] ?_)
  simp only [push_cast, seval, ↓reduceIte, Za, hN0, hN]
  refine Zo (t := (z25 != 0)) rfl (fun c29 => ?_) (fun c29 => ?_)
  ·replace h := Zs c29 h
   refine Zg ?_
   refine Zb Zc [] ?_
   simp only [push_cast, seval, ↓reduceIte, Za, hN0, hN]
   refine Zf [6, 7] [true, false, false, false] ?_
   simp only [push_cast, seval, ↓reduceIte]
   refine Zq ?_
   try simp only [Zi, Zd]
   have h := Option.some.inj h; subst h
   refine Zk (.inr rfl) hU [.agg [.val (.int .i64 0), .val (.int .i64 0), .val (.int .i64 0), .val (.int .i64 0), .val (.int .i64 0), .val (.int .i64 0), .val (.int .i64 0), .val (.bool false), .val (.int .i64 0), .val (.int .i64 0)], .val (.int .i64 z25)] (by omega) ?_
   simp only [push_cast, seval, ↓reduceIte, Za, Try.results50, hN0, hN]
  replace h := Zr c29 h
  refine Zw ?_
  try simp only [Zi, Zd]
  refine Zf [0, 6, 9, 10] [true, false, true, true] ?_
  simp only [push_cast, seval, ↓reduceIte]
  refine Zg ?_
  obtain ⟨y28, hy28, h⟩ := bC h
  refine Zb Zc [] ?_
  simp only [push_cast, seval, ↓reduceIte, Za, hN0, hN]
  refine (U6 hy28).then ?_
  simp only [push_cast, seval, ↓reduceIte, Za, hN0, hN]
  refine Zf [6, 7] [true, false, false, false] ?_
  simp only [push_cast, seval, ↓reduceIte]
  refine Zq ?_
  try simp only [Zi, Zd]
  have h := Option.some.inj h; subst h
  refine Zk (.inr rfl) hU [.agg [.val (.int .i64 y28.1.P.Kind), .val (.int .i64 y28.1.P.Off), .val (.int .i64 y28.1.P.Data), .val (.int .i64 y28.1.P.Ptrs), .val (.int .i64 y28.1.P.Code), .val (.int .i64 y28.1.P.Count), .val (.int .i64 y28.1.P.Segment), .val (.bool y28.1.P.Double), .val (.int .i64 y28.1.Segment), .val (.int .i64 y28.1.At)], .val (.int .i64 y28.2)] (by omega) ?_
  simp only [push_cast, seval, ↓reduceIte, Za, Try.results50, hN0, hN]
 replace h := Zr c45 h
 refine Zw ?_
 try simp only [Zi, Zd]
 refine Zf [0, 1, 2, 6, 8] [true, true] ?_
 simp only [push_cast, seval, ↓reduceIte]
 obtain ⟨z32, hz32, h⟩ := bC h
 refine Ztc (J := (Zfm (fun z32 => JN n (⟨147, [], [(0, .sl a0.length (fl (eL (eI .u64)) a0)), (1, .val (.int .i64 z32.1)), (2, .val (.int .i64 z32.2.1)), (6, .ref n 0), (8, .ref (n + 1) 0)]⟩ : Env) (Z5 O n [some ⟨false, 91, 10, 1, [.val (.int .i64 0), .val (.int .i64 0), .val (.int .i64 0), .val (.int .i64 0), .val (.int .i64 0), .val (.int .i64 0), .val (.int .i64 0), .val (.bool false), .val (.int .i64 0), .val (.int .i64 0)]⟩, some ⟨false, 89, 8, 1, [.val (.int .i64 z32.2.2.1), .val (.int .i64 z32.2.2.2.1), .val (.int .i64 z32.2.2.2.2.1), .val (.int .i64 z32.2.2.2.2.2.1), .val (.int .i64 z32.2.2.2.2.2.2.1), .val (.int .i64 z32.2.2.2.2.2.2.2.1), .val (.int .i64 z32.2.2.2.2.2.2.2.2.1), .val (.bool z32.2.2.2.2.2.2.2.2.2)]⟩]) (n + 2)) (fun z32 => JR n (⟨147, [], [(6, .ref n 0), (7, .val (.int .i64 7))]⟩ : Env) (Z5 O n [some ⟨false, 91, 10, 1, [.val (.int .i64 0), .val (.int .i64 0), .val (.int .i64 0), .val (.int .i64 0), .val (.int .i64 0), .val (.int .i64 0), .val (.int .i64 0), .val (.bool false), .val (.int .i64 0), .val (.int .i64 0)]⟩, none]) (n + 2)))) (z := z32) ?_ fun hw => ?_
 ·refine Zn [0, 1, 2, 6, 8, 110] (Zb Zc [] ?_)
  simp only [push_cast, seval, ↓reduceIte, Za, hN0, hN]
  refine Zo (t := (y8.Kind == 3)) rfl (fun c39 => ?_) (fun c39 => ?_)
  ·replace hz32 := Zs c39 hz32
   refine Zn [0, 1, 6, 8] (Zb Zc [] ?_)
   simp only [push_cast, seval, ↓reduceIte, Za, hN0, hN]
   refine Zn [0, 1, 2, 6, 8] (Zb Zc [] ?_)
   simp only [push_cast, seval, ↓reduceIte, Za, hN0, hN]
   refine Zg ?_
   refine Zg ?_
   obtain ⟨y34, hy34, hz32⟩ := bC hz32
   refine Zb Zc [] ?_
   simp only [push_cast, seval, ↓reduceIte, Za, hN0, hN]
   refine (Q2 hy34).then ?_
   simp only [push_cast, seval, ↓reduceIte, Za, hN0, hN]
   refine Zf [0, 1, 2, 6, 8, 119] [true, true] ?_
   simp only [push_cast, seval, ↓reduceIte]
   refine Zo (t := (!y34)) rfl (fun c38 => ?_) (fun c38 => ?_)
   ·replace hz32 := Zs c38 hz32
    refine Zg ?_
    refine Zb Zc [] ?_
    simp only [push_cast, seval, ↓reduceIte, Za, hN0, hN]
    refine Zf [6, 7] [true, false] ?_
    simp only [push_cast, seval, ↓reduceIte]
    refine Zq ?_
    try simp only [Zi, Zd]
    have hz32 := Option.some.inj hz32; subst hz32
    refine And.intro rfl (Fit2.of (Zp hU rfl rfl ?_) (by omega))
    simp only [push_cast, seval, ↓reduceIte, Za, hN0, hN]
   replace hz32 := Zr c38 hz32
   refine Zw ?_
   try simp only [Zi, Zd]
   refine Zf [0, 1, 2, 6, 8] [true, true] ?_
   simp only [push_cast, seval, ↓reduceIte]
   obtain ⟨x35, hx35, ax35, bx35, cx35, hz32⟩ := bE (f := (eL (eI .u64))) Vx (fun _ => rfl) (by decide) hz32
   obtain ⟨x36, hx36, ax36, bx36, cx36, hz32⟩ := bE (f := (eI .u64)) Vw (fun _ => rfl) (by decide) hz32
   obtain ⟨y37, hy37, hz32⟩ := bC hz32
   refine Zb Zc [] ?_
   simp only [push_cast, Nat.reduceAdd, Nat.reduceSub, Nat.reduceMul, Nat.reduceLeDiff, Nat.reduceLT, Nat.reduceEqDiff, ↓reduceIte, reduceCtorEq, Int.reduceBEq, Int.reduceBNe, Nat.reduceBEq, Int.reduceLE, Int.reduceLT, Int.reduceEq, Int.reduceNe, Int.reduceNeg, Nat.reduceDiv, Nat.reduceMod, Nat.reducePow, Za, ax35, bx35, cx35, ax36, bx36, cx36, hN0, hN]
   refine (Yp hy37).then ?_
   simp only [push_cast, Nat.reduceAdd, Nat.reduceSub, Nat.reduceMul, Nat.reduceLeDiff, Nat.reduceLT, Nat.reduceEqDiff, ↓reduceIte, reduceCtorEq, Int.reduceBEq, Int.reduceBNe, Nat.reduceBEq, Int.reduceLE, Int.reduceLT, Int.reduceEq, Int.reduceNe, Int.reduceNeg, Nat.reduceDiv, Nat.reduceMod, Nat.reducePow, Za, ax35, bx35, cx35, ax36, bx36, cx36, hN0, hN]
   have hz32 := Option.some.inj hz32; subst hz32
   refine And.intro rfl (Fit2.of (Zp hU rfl rfl ?_) (by omega))
   simp only [push_cast, Nat.reduceAdd, Nat.reduceSub, Nat.reduceMul, Nat.reduceLeDiff, Nat.reduceLT, Nat.reduceEqDiff, ↓reduceIte, reduceCtorEq, Int.reduceBEq, Int.reduceBNe, Nat.reduceBEq, Int.reduceLE, Int.reduceLT, Int.reduceEq, Int.reduceNe, Int.reduceNeg, Nat.reduceDiv, Nat.reduceMod, Nat.reducePow, Za, ax35, bx35, cx35, ax36, bx36, cx36, hN0, hN]
  replace hz32 := Zr c39 hz32
  refine Zw ?_
  try simp only [Zi, Zd]
  have hz32 := Option.some.inj hz32; subst hz32
  refine And.intro rfl (Fit2.of (Zp hU rfl rfl ?_) (by omega))
  simp only [push_cast, seval, ↓reduceIte, Za, hN0, hN]
 rcases z32 with z32 | z32
 ·dsimp only [Zfm] at hw h
  refine Q6 hw ?_
  refine Zg ?_
  obtain ⟨y41, hy41, h⟩ := bC h
  refine Zb Zc [] ?_
  simp only [push_cast, seval, ↓reduceIte, Za, hN0, hN]
  refine (U5 hy41).then ?_
  simp only [push_cast, seval, ↓reduceIte, Za, hN0, hN]
  refine Zf [0, 1, 2, 6, 8, 12] [true, true] ?_
  simp only [push_cast, seval, ↓reduceIte]
  refine Zg ?_
  refine Zn [0, 1, 2, 6, 8, 12, 132] (Zb Zc [] ?_)
  simp only [push_cast, seval, ↓reduceIte, Za, hN0, hN]
  refine Zo (t := (y41 != 0)) rfl (fun c44 => ?_) (fun c44 => ?_)
  ·replace h := Zs c44 h
   refine Zg ?_
   refine Zb Zc [] ?_
   simp only [push_cast, seval, ↓reduceIte, Za, hN0, hN]
   refine Zf [6, 7] [true, false] ?_
   simp only [push_cast, seval, ↓reduceIte]
   refine Zq ?_
   try simp only [Zi, Zd]
   have h := Option.some.inj h; subst h
   refine Zk (.inr rfl) hU [.agg [.val (.int .i64 0), .val (.int .i64 0), .val (.int .i64 0), .val (.int .i64 0), .val (.int .i64 0), .val (.int .i64 0), .val (.int .i64 0), .val (.bool false), .val (.int .i64 0), .val (.int .i64 0)], .val (.int .i64 y41)] (by omega) ?_
   simp only [push_cast, seval, ↓reduceIte, Za, Try.results50, hN0, hN]
  replace h := Zr c44 h
  refine Zw ?_
  try simp only [Zi, Zd]
  refine Zf [0, 1, 2, 6, 8] [true, true] ?_
  simp only [push_cast, seval, ↓reduceIte]
  refine Zg ?_
  obtain ⟨y43, hy43, h⟩ := bC h
  refine Zb Zc [] ?_
  simp only [push_cast, seval, ↓reduceIte, Za, hN0, hN]
  refine (U6 hy43).then ?_
  simp only [push_cast, seval, ↓reduceIte, Za, hN0, hN]
  refine Zf [6, 7] [true, false] ?_
  simp only [push_cast, seval, ↓reduceIte]
  refine Zq ?_
  try simp only [Zi, Zd]
  have h := Option.some.inj h; subst h
  refine Zk (.inr rfl) hU [.agg [.val (.int .i64 y43.1.P.Kind), .val (.int .i64 y43.1.P.Off), .val (.int .i64 y43.1.P.Data), .val (.int .i64 y43.1.P.Ptrs), .val (.int .i64 y43.1.P.Code), .val (.int .i64 y43.1.P.Count), .val (.int .i64 y43.1.P.Segment), .val (.bool y43.1.P.Double), .val (.int .i64 y43.1.Segment), .val (.int .i64 y43.1.At)], .val (.int .i64 y43.2)] (by omega) ?_
  simp only [push_cast, seval, ↓reduceIte, Za, Try.results50, hN0, hN]
 dsimp only [Zfm] at hw h
 refine Zrh hw ?_
 try simp only [Zi, Zd]
 have h := Option.some.inj h; subst h
 refine Zk (.inr rfl) hU [.agg [.val (.int .i64 0), .val (.int .i64 0), .val (.int .i64 0), .val (.int .i64 0), .val (.int .i64 0), .val (.int .i64 0), .val (.int .i64 0), .val (.bool false), .val (.int .i64 0), .val (.int .i64 0)], .val (.int .i64 7)] (by omega) ?_
 simp only [push_cast, seval, ↓reduceIte, Za, Try.results50, hN0, hN]
theorem V2 {a0 : (List (List Int))} {a1 : Int} {a2 : Int} {r : (Zm × Int)} {O : Objs} {n : Nat} (h : Xn a0 a1 a2 = some r) : GTo Try.prog 17 [.sl a0.length (fl (eL (eI .u64)) a0), .val (.int .i64 a1), .val (.int .i64 a2)] O n (.tup [.agg (Zy r.1), .val (.int .i64 r.2)]) O n := by
 unfold Xn at h
 refine Ym Zc Try.call17 Try.func17 rfl (Nat.le_of_ble_eq_true rfl) (Nat.le_refl _) fun hU => ?_
 have hN0 : O n = none := hU.fresh _ (Nat.le_refl _)
 have hN : ∀ k, O (n + k) = none := fun k => hU.fresh _ (Nat.le_add_right _ _)
 show W _ _ _ _ ⟨110, [], [(0, .sl a0.length (fl (eL (eI .u64)) a0)), (1, .val (.int .i64 a1)), (2, .val (.int .i64 a2))]⟩ (Z5 O n []) _
 refine Zn [0, 1, 2, 6] (Zb Zc [] ?_)
 simp only [push_cast, seval, ↓reduceIte, Za, hN0, hN]
 refine Zg ?_
 obtain ⟨y2, hy2, h⟩ := bC h
 refine Zb Zc [] ?_
 simp only [push_cast, seval, ↓reduceIte, Za, hN0, hN]
 refine (Zdh hy2).then ?_
 simp only [push_cast, seval, ↓reduceIte, Za, hN0, hN]
 refine Zf [0, 6, 8, 9] [true, true] ?_
 simp only [push_cast, seval, ↓reduceIte]
 refine Zg ?_
 refine Zn [0, 6, 8, 9, 26] (Zb Zc [none, none, none, none] ?_)
 simp only [push_cast, seval, ↓reduceIte, Za, hN0, hN]
 repeat (with_reducible refine And.intro (by first | (intro h0; simp only [h0, and_self]; done) | (intro h0; simp only [h0, Bool.not_false, Bool.not_true, Bool.true_and, Bool.and_true, true_and, and_true, and_self, imp_self, implies_true, bne_iff_ne, ne_eq, beq_iff_eq]; done) | (intros; simp_all; done) | exact True.intro) ?_)
 refine Zo (t := (cond (y2.2 != 0) true (y2.1.P.Kind == 0))) rfl (fun c12 => ?_) (fun c12 => ?_)
 ·replace h := Zs c12 h
  refine Zg ?_
  refine Zb Zc [] ?_
  simp only [push_cast, seval, ↓reduceIte, Za, hN0, hN]
  refine Zf [6, 7] [true, false] ?_
  simp only [push_cast, seval, ↓reduceIte]
  refine Zq ?_
  try simp only [Zi, Zd]
  have h := Option.some.inj h; subst h
  refine Zk (.inr rfl) hU [.agg [.val (.int .i64 0), .val (.int .i64 0), .val (.int .i64 0), .val (.int .i64 0), .val (.int .i64 0), .val (.int .i64 0), .val (.int .u64 0)], .val (.int .i64 y2.2)] (by omega) ?_
  simp only [push_cast, seval, ↓reduceIte, Za, Try.results17, hN0, hN]
 replace h := Zr c12 h
 refine Zw ?_
 try simp only [Zi, Zd]
 refine Zf [0, 6, 8] [true, true] ?_
 simp only [push_cast, seval, ↓reduceIte]
 refine Zg ?_
 refine Zn [0, 6, 8, 32] (Zb Zc [] ?_)
 simp only [push_cast, seval, ↓reduceIte, Za, hN0, hN]
 refine Zo (t := (y2.1.P.Kind == 1)) rfl (fun c11 => ?_) (fun c11 => ?_)
 ·replace h := Zs c11 h
  refine Zg ?_
  refine Zb Zc [] ?_
  simp only [push_cast, seval, ↓reduceIte, Za, hN0, hN]
  refine Zf [6, 7] [true, false] ?_
  simp only [push_cast, seval, ↓reduceIte]
  refine Zq ?_
  try simp only [Zi, Zd]
  have h := Option.some.inj h; subst h
  refine Zk (.inr rfl) hU [.agg [.val (.int .i64 1), .val (.int .i64 y2.1.Segment), .val (.int .i64 y2.1.At), .val (.int .i64 y2.1.P.Data), .val (.int .i64 y2.1.P.Ptrs), .val (.int .i64 0), .val (.int .u64 0)], .val (.int .i64 0)] (by omega) ?_
  simp only [push_cast, seval, ↓reduceIte, Za, Try.results17, hN0, hN]
 replace h := Zr c11 h
 refine Zw ?_
 try simp only [Zi, Zd]
 refine Zf [0, 6, 8] [true, true] ?_
 simp only [push_cast, seval, ↓reduceIte]
 refine Zg ?_
 refine Zn [0, 6, 8, 47] (Zb Zc [] ?_)
 simp only [push_cast, seval, ↓reduceIte, Za, hN0, hN]
 refine Zo (t := (decide (y2.1.P.Code < 7))) rfl (fun c10 => ?_) (fun c10 => ?_)
 ·replace h := Zs c10 h
  refine Zg ?_
  refine Zb Zc [] ?_
  simp only [push_cast, seval, ↓reduceIte, Za, hN0, hN]
  refine Zf [6, 7] [true, false] ?_
  simp only [push_cast, seval, ↓reduceIte]
  refine Zq ?_
  try simp only [Zi, Zd]
  have h := Option.some.inj h; subst h
  refine Zk (.inr rfl) hU [.agg [.val (.int .i64 (IntKind.i64.wrap (2 + y2.1.P.Code))), .val (.int .i64 y2.1.Segment), .val (.int .i64 y2.1.At), .val (.int .i64 0), .val (.int .i64 0), .val (.int .i64 y2.1.P.Count), .val (.int .u64 0)], .val (.int .i64 0)] (by omega) ?_
  simp only [push_cast, seval, ↓reduceIte, Za, Try.results17, hN0, hN]
 replace h := Zr c10 h
 refine Zw ?_
 try simp only [Zi, Zd]
 refine Zf [0, 6, 8] [true, true] ?_
 simp only [push_cast, seval, ↓reduceIte]
 obtain ⟨x5, hx5, ax5, bx5, cx5, h⟩ := bE (f := (eL (eI .u64))) Vx (fun _ => rfl) (by decide) h
 obtain ⟨x6, hx6, ax6, bx6, cx6, h⟩ := bE (f := (eI .u64)) Vw (fun _ => rfl) (by decide) h
 refine Zn [6, 8, 10] (Jq Zc (by kernel_rfl) [] (by kernel_rfl) ?_)
 simp only [push_cast, Nat.reduceAdd, Nat.reduceSub, Nat.reduceMul, Nat.reduceLeDiff, Nat.reduceLT, Nat.reduceEqDiff, ↓reduceIte, reduceCtorEq, Int.reduceBEq, Int.reduceBNe, Nat.reduceBEq, Int.reduceLE, Int.reduceLT, Int.reduceEq, Int.reduceNe, Int.reduceNeg, Nat.reduceDiv, Nat.reduceMod, Nat.reducePow, Za, ax5, bx5, cx5, ax6, bx6, cx6, hN0, hN]
 refine Zg ?_
 obtain ⟨y8, hy8, h⟩ := bC h
 refine Zb Zc [] ?_
 simp only [push_cast, seval, ↓reduceIte, Za, hN0, hN]
 refine (Yp hy8).then ?_
 simp only [push_cast, seval, ↓reduceIte, Za, hN0, hN]
 refine Zf [6, 8, 10, 11] [true, true, true] ?_
 simp only [push_cast, seval, ↓reduceIte]
 refine Zg ?_
 refine Zn [6, 8, 11, 96] (Zb Zc [none, none, none, none, none, none, none, none, none, none, none, none, none, none, none, none, none, none] ?_)
 simp only [push_cast, seval, ↓reduceIte, Za, hN0, hN]
 repeat (with_reducible refine And.intro (by first | (intro h0; simp only [h0, and_self]; done) | (intro h0; simp only [h0, Bool.not_false, Bool.not_true, Bool.true_and, Bool.and_true, true_and, and_true, and_self, imp_self, implies_true, bne_iff_ne, ne_eq, beq_iff_eq]; done) | (intros; simp_all; done) | exact True.intro) ?_)
 refine Zo (t := (cond (cond (cond (x6 != 0) (y8.Kind != 1) false) true (decide (y8.Off < 0))) true (decide (y2.1.P.Count < (IntKind.i64.wrap (y8.Off * (IntKind.i64.wrap (y8.Data + y8.Ptrs)))))))) rfl (fun c9 => ?_) (fun c9 => ?_)
 ·replace h := Zs c9 h
  refine Zg ?_
  refine Zb Zc [] ?_
  simp only [push_cast, seval, ↓reduceIte, Za, hN0, hN]
  refine Zf [6, 7] [true, false, false] ?_
  simp only [push_cast, seval, ↓reduceIte]
  refine Zq ?_
  try simp only [Zi, Zd]
  have h := Option.some.inj h; subst h
  refine Zk (.inr rfl) hU [.agg [.val (.int .i64 0), .val (.int .i64 0), .val (.int .i64 0), .val (.int .i64 0), .val (.int .i64 0), .val (.int .i64 0), .val (.int .u64 0)], .val (.int .i64 8)] (by omega) ?_
  simp only [push_cast, seval, ↓reduceIte, Za, Try.results17, hN0, hN]
 replace h := Zr c9 h
 refine Zw ?_
 try simp only [Zi, Zd]
 refine Zf [6, 8, 11] [true, true, true] ?_
 simp only [push_cast, seval, ↓reduceIte]
 refine Zg ?_
 refine Zb Zc [] ?_
 simp only [push_cast, seval, ↓reduceIte, Za, hN0, hN]
 refine Zf [6, 7] [true, false, false] ?_
 simp only [push_cast, seval, ↓reduceIte]
 refine Zq ?_
 try simp only [Zi, Zd]
 have h := Option.some.inj h; subst h
 refine Zk (.inr rfl) hU [.agg [.val (.int .i64 9), .val (.int .i64 y2.1.Segment), .val (.int .i64 (IntKind.i64.wrap (y2.1.At + 1))), .val (.int .i64 y8.Data), .val (.int .i64 y8.Ptrs), .val (.int .i64 y8.Off), .val (.int .u64 0)], .val (.int .i64 0)] (by omega) ?_
 simp only [push_cast, seval, ↓reduceIte, Za, Try.results17, hN0, hN]
theorem Zbr {a0 : Zm} {a1 : (List (List Int))} {r : (List Int)} {O : Objs} {n : Nat} (h : Xb a0 a1 = some r) : GTo Try.prog 52 [.agg (Zy a0), .sl a1.length (fl (eL (eI .u64)) a1)] O n (.sl r.length (fl (eI .u64) r)) O n := by
 unfold Xb at h
 refine Ym Zc Try.call52 Try.func52 rfl (Nat.le_of_ble_eq_true rfl) (Nat.le_refl _) fun hU => ?_
 have hN0 : O n = none := hU.fresh _ (Nat.le_refl _)
 have hN : ∀ k, O (n + k) = none := fun k => hU.fresh _ (Nat.le_add_right _ _)
 show W _ _ _ _ ⟨30, [], [(0, .agg (Zy a0)), (1, .sl a1.length (fl (eL (eI .u64)) a1))]⟩ (Z5 O n []) _
 refine Zn [1, 2] (Zb Zc [] ?_)
 simp only [push_cast, seval, ↓reduceIte, Za, hN0, hN]
 refine Zg ?_
 refine Zn [1, 2, 8] (Zb Zc [] ?_)
 simp only [push_cast, seval, ↓reduceIte, Za, hN0, hN]
 refine Zo (t := (a0.Kind == 10)) rfl (fun c8 => ?_) (fun c8 => ?_)
 ·replace h := Zs c8 h
  refine Zg ?_
  refine Zb Zc [] ?_
  simp only [push_cast, seval, ↓reduceIte, Za, hN0, hN]
  refine Zp4 ⟨30, [], [(4, .row (n + 1) ([a0.N] : List Int).length)]⟩ (Z5 O n [none, some ⟨true, 31, 1, ([a0.N] : List Int).length, fl (eI .u64) ([a0.N] : List Int)⟩]) (Zp hU rfl rfl ?_) ?_
  ·simp only [push_cast, seval, ↓reduceIte, Za, hN0, hN]
  refine Zq ?_
  try simp only [Zi, Zd]
  have h := Option.some.inj h; subst h
  refine Zk (.inr rfl) hU [.row (n + 1) ([a0.N] : List Int).length] (by omega) ?_
  simp only [push_cast, seval, ↓reduceIte, Za, Try.results52, hN0, hN]
 replace h := Zr c8 h
 refine Zw ?_
 try simp only [Zi, Zd]
 refine Zf [1, 2] [true] ?_
 simp only [push_cast, seval, ↓reduceIte]
 refine Zg ?_
 refine Zn [1, 2, 14] (Zb Zc [] ?_)
 simp only [push_cast, seval, ↓reduceIte, Za, hN0, hN]
 refine Zo (t := (a0.Kind != 1)) rfl (fun c7 => ?_) (fun c7 => ?_)
 ·replace h := Zs c7 h
  refine Zn [4] (Zb Zc [] ?_)
  simp only [push_cast, seval, ↓reduceIte, Za, hN0, hN]
  refine Zq ?_
  try simp only [Zi, Zd]
  have h := Option.some.inj h; subst h
  refine Zk (.inr rfl) hU [.val (.slice none 0 0)] (by omega) ?_
  simp only [push_cast, seval, ↓reduceIte, Za, Try.results52, hN0, hN]
 replace h := Zr c7 h
 refine Zw ?_
 try simp only [Zi, Zd]
 refine Zf [1, 2] [true] ?_
 simp only [push_cast, seval, ↓reduceIte]
 refine Zn [1, 2, 5] (Zb Zc [] ?_)
 simp only [push_cast, seval, ↓reduceIte, Za, hN0, hN]
 refine Zg ?_
 obtain ⟨x4, hx4, ax4, bx4, cx4, h⟩ := bE (f := (eL (eI .u64))) Vx (fun _ => rfl) (by decide) h
 obtain ⟨l5, al5, bl5, cl5, gl5, h⟩ := bS (lo := (some (.i64, a0.At))) (hi := (some (.i64, (IntKind.i64.wrap (a0.At + a0.Data))))) (f := (eI .u64)) rfl rfl Za3 Vw (fun _ => rfl) h
 obtain ⟨l6, pl6, ql6, el6, h⟩ := bA0 (k := l5.length) rfl h
 refine Zp2 Zc (by kernel_rfl) [false, false, false, false, false, false, false, false, false, false, false, false, false, false, true, false] [] (by kernel_rfl) ?_
 simp only [push_cast, Nat.reduceAdd, Nat.reduceSub, Nat.reduceMul, Nat.reduceLeDiff, Nat.reduceLT, Nat.reduceEqDiff, ↓reduceIte, reduceCtorEq, Int.reduceBEq, Int.reduceBNe, Nat.reduceBEq, Int.reduceLE, Int.reduceLT, Int.reduceEq, Int.reduceNe, Int.reduceNeg, Nat.reduceDiv, Nat.reduceMod, Nat.reducePow, Za, ax4, bx4, cx4, al5, bl5, cl5, gl5, pl6, ql6, el6, hN0, hN]
 refine Zp4 ⟨30, [], [(4, .row (n + 1) l6.length)]⟩ (Z5 O n [none, some ⟨true, 31, 1, l6.length, fl (eI .u64) l6⟩]) (Zp hU rfl rfl ?_) ?_
 ·simp only [push_cast, Nat.reduceAdd, Nat.reduceSub, Nat.reduceMul, Nat.reduceLeDiff, Nat.reduceLT, Nat.reduceEqDiff, ↓reduceIte, reduceCtorEq, Int.reduceBEq, Int.reduceBNe, Nat.reduceBEq, Int.reduceLE, Int.reduceLT, Int.reduceEq, Int.reduceNe, Int.reduceNeg, Nat.reduceDiv, Nat.reduceMod, Nat.reducePow, Za, ax4, bx4, cx4, al5, bl5, cl5, gl5, pl6, ql6, el6, hN0, hN]
 refine Zq ?_
 try simp only [Zi, Zd]
 have h := Option.some.inj h; subst h
 refine Zk (.inr rfl) hU [.row (n + 1) l6.length] (by omega) ?_
 simp only [push_cast, seval, ↓reduceIte, Za, Try.results52, hN0, hN]
theorem Jx {a0 : Zm} {r : Int} {O : Objs} {n : Nat} (h : Yk a0 = some r) : GTo Try.prog 19 [.agg (Zy a0)] O n (.val (.int .i64 r)) O n := by
 unfold Yk at h
 refine Ym Zc Try.call19 Try.func19 rfl (Nat.le_of_ble_eq_true rfl) (Nat.le_refl _) fun hU => ?_
 have hN0 : O n = none := hU.fresh _ (Nat.le_refl _)
 have hN : ∀ k, O (n + k) = none := fun k => hU.fresh _ (Nat.le_add_right _ _)
 show W _ _ _ _ ⟨10, [], [(0, .agg (Zy a0))]⟩ (Z5 O n []) _
 refine Zn [1] (Zb Zc [] ?_)
 simp only [push_cast, seval, ↓reduceIte, Za, hN0, hN]
 refine Zg ?_
 refine Zn [1, 5] (Zb Zc [] ?_)
 simp only [push_cast, seval, ↓reduceIte, Za, hN0, hN]
 refine Zo (t := (a0.Kind == 1)) rfl (fun c1 => ?_) (fun c1 => ?_)
 ·replace h := Zs c1 h
  refine Zn [2] (Zb Zc [] ?_)
  simp only [push_cast, seval, ↓reduceIte, Za, hN0, hN]
  refine Zq ?_
  try simp only [Zi, Zd]
  have h := Option.some.inj h; subst h
  refine Zk (.inr rfl) hU [.val (.int .i64 a0.Ptrs)] (by omega) ?_
  simp only [push_cast, seval, ↓reduceIte, Za, Try.results19, hN0, hN]
 replace h := Zr c1 h
 refine Zw ?_
 try simp only [Zi, Zd]
 refine Zf [1] [true] ?_
 simp only [push_cast, seval, ↓reduceIte]
 refine Zn [2] (Zb Zc [] ?_)
 simp only [push_cast, seval, ↓reduceIte, Za, hN0, hN]
 refine Zq ?_
 try simp only [Zi, Zd]
 have h := Option.some.inj h; subst h
 refine Zk (.inr rfl) hU [.val (.int .i64 a0.Count)] (by omega) ?_
 simp only [push_cast, seval, ↓reduceIte, Za, Try.results19, hN0, hN]
theorem Ze2 {a0 : Zh} {r : (Int × Int)} {O : Objs} {n : Nat} (h : Qq a0 = some r) : GTo Try.prog 54 [.agg (Zl a0)] O n (.tup [.val (.int .i64 r.1), .val (.int .i64 r.2)]) O n := by
 unfold Qq at h
 refine Ym Zc Try.call54 Try.func54 rfl (Nat.le_of_ble_eq_true rfl) (Nat.le_refl _) fun hU => ?_
 have hN0 : O n = none := hU.fresh _ (Nat.le_refl _)
 have hN : ∀ k, O (n + k) = none := fun k => hU.fresh _ (Nat.le_add_right _ _)
 show W _ _ _ _ ⟨11, [], [(0, .agg (Zl a0))]⟩ (Z5 O n []) _
 refine Zn [1] (Zb Zc [] ?_)
 simp only [push_cast, seval, ↓reduceIte, Za, hN0, hN]
 refine Zg ?_
 refine Zn [1, 6] (Zb Zc [] ?_)
 simp only [push_cast, seval, ↓reduceIte, Za, hN0, hN]
 refine Zo (t := (a0.kind != 9)) rfl (fun c1 => ?_) (fun c1 => ?_)
 ·replace h := Zs c1 h
  refine Zn [2, 3] (Zb Zc [] ?_)
  simp only [push_cast, seval, ↓reduceIte, Za, hN0, hN]
  refine Zq ?_
  try simp only [Zi, Zd]
  have h := Option.some.inj h; subst h
  refine Zk (.inr rfl) hU [.val (.int .i64 0), .val (.int .i64 0)] (by omega) ?_
  simp only [push_cast, seval, ↓reduceIte, Za, Try.results54, hN0, hN]
 replace h := Zr c1 h
 refine Zw ?_
 try simp only [Zi, Zd]
 refine Zf [1] [true] ?_
 simp only [push_cast, seval, ↓reduceIte]
 refine Zn [2, 3] (Jq Zc (by kernel_rfl) [] (by kernel_rfl) ?_)
 simp only [push_cast, seval, ↓reduceIte, Za, hN0, hN]
 refine Zq ?_
 try simp only [Zi, Zd]
 have h := Option.some.inj h; subst h
 refine Zk (.inr rfl) hU [.val (.int .i64 a0.words), .val (.int .i64 a0.ptrs)] (by omega) ?_
 simp only [push_cast, seval, ↓reduceIte, Za, Try.results54, hN0, hN]
theorem Kp {a0 : Zh} {a1 : Zm} {a2 : (List (List Int))} {r : Bool} {O : Objs} {n : Nat} (h : Yz a0 a1 a2 = some r) : GTo Try.prog 18 [.agg (Zl a0), .agg (Zy a1), .sl a2.length (fl (eL (eI .u64)) a2)] O n (.val (.bool r)) O n := by
 unfold Yz at h
 refine Ym Zc Try.call18 Try.func18 rfl (Nat.le_of_ble_eq_true rfl) (Nat.le_refl _) fun hU => ?_
 have hN0 : O n = none := hU.fresh _ (Nat.le_refl _)
 have hN : ∀ k, O (n + k) = none := fun k => hU.fresh _ (Nat.le_add_right _ _)
 show W _ _ _ _ ⟨92, [], [(0, .agg (Zl a0)), (1, .agg (Zy a1)), (2, .sl a2.length (fl (eL (eI .u64)) a2))]⟩ (Z5 O n []) _
 refine Zn [2, 3, 4] (Zb Zc [] ?_)
 simp only [push_cast, seval, ↓reduceIte, Za, hN0, hN]
 refine Zg ?_
 obtain ⟨y2, hy2, h⟩ := bC h
 refine Zb Zc [] ?_
 simp only [push_cast, seval, ↓reduceIte, Za, hN0, hN]
 refine (Zbr hy2).then ?_
 simp only [push_cast, seval, ↓reduceIte, Za, hN0, hN]
 refine Zf [3, 4, 7] [true, true] ?_
 simp only [push_cast, seval, ↓reduceIte]
 refine Zg ?_
 obtain ⟨z7, hz7, h⟩ := bC h
 refine Q6 (E' := ⟨92, [], [(3, .ref n 0), (4, .ref (n + 1) 0), (7, .sl y2.length (fl (eI .u64) y2)), (32, .val (.bool z7))]⟩) (O' := (Z5 O n [some ⟨false, 27, 9, 1, (Zl a0)⟩, some ⟨false, 33, 7, 1, (Zy a1)⟩])) (n0 := (n + 2)) ?_ ?_
 ·obtain ⟨y12, hy12, hz7⟩ := bC hz7
  rcases Bool.eq_false_or_eq_true (y12 != a1.Kind) with c16 | c16
  ·replace hz7 := Zs c16 hz7
   refine Jq Zc (by kernel_rfl) [some false, some false, some false, some false, some false, some false, some false, some false, some false, some false] (by kernel_rfl) ?_
   simp only [push_cast, seval, ↓reduceIte, Za, c16, hN0, hN]
   refine PCall.of (Y3 hy12) ?_
   simp only [push_cast, seval, ↓reduceIte, Za, c16, hN0, hN]
   have hz7 := Option.some.inj hz7; subst hz7
   refine And.intro rfl (Fit2.of (Zp hU rfl rfl ?_) (by omega))
   simp only [push_cast, seval, ↓reduceIte, Za, c16, hN0, hN]
  replace hz7 := Zr c16 hz7
  obtain ⟨y13, hy13, hz7⟩ := bC hz7
  rcases Bool.eq_false_or_eq_true (y13 != (y2.length : Int)) with c17 | c17
  ·replace hz7 := Zs c17 hz7
   try rw [c17] at c16
   refine Jq Zc (by kernel_rfl) [some true, some true, some true, some true, some true, some false, some false, some false, some false, some false] (by kernel_rfl) ?_
   simp only [push_cast, seval, ↓reduceIte, Za, c16, c17, hN0, hN]
   refine PCall.of (Y3 hy12) ?_
   simp only [push_cast, seval, ↓reduceIte, Za, c16, c17, hN0, hN]
   refine PCall.of (Xm hy13) ?_
   simp only [push_cast, seval, ↓reduceIte, Za, c16, c17, hN0, hN]
   have hz7 := Option.some.inj hz7; subst hz7
   refine And.intro rfl (Fit2.of (Zp hU rfl rfl ?_) (by omega))
   simp only [push_cast, seval, ↓reduceIte, Za, c16, c17, hN0, hN]
  replace hz7 := Zr c17 hz7
  try rw [c17] at c16
  obtain ⟨y14, hy14, hz7⟩ := bC hz7
  obtain ⟨y15, hy15, hz7⟩ := bC hz7
  refine Jq Zc (by kernel_rfl) [some true, some true, some true, some true, some true, some true, some true, some true, some true, some true] (by kernel_rfl) ?_
  simp only [push_cast, seval, ↓reduceIte, Za, c16, c17, hN0, hN]
  refine PCall.of (Y3 hy12) ?_
  simp only [push_cast, seval, ↓reduceIte, Za, c16, c17, hN0, hN]
  refine PCall.of (Xm hy13) ?_
  simp only [push_cast, seval, ↓reduceIte, Za, c16, c17, hN0, hN]
  refine PCall.of (K7 hy14) ?_
  simp only [push_cast, seval, ↓reduceIte, Za, c16, c17, hN0, hN]
  refine PCall.of (Jx hy15) ?_
  simp only [push_cast, seval, ↓reduceIte, Za, c16, c17, hN0, hN]
  have hz7 := Option.some.inj hz7; subst hz7
  refine And.intro rfl (Fit2.of (Zp hU rfl rfl ?_) (by omega))
  simp only [push_cast, seval, ↓reduceIte, Za, c16, c17, hN0, hN]
 refine Zo (t := z7) rfl (fun c36 => ?_) (fun c36 => ?_)
 ·replace h := Zs c36 h
  refine Zn [6] (Zb Zc [] ?_)
  simp only [push_cast, seval, ↓reduceIte, Za, hN0, hN]
  refine Zq ?_
  try simp only [Zi, Zd]
  have h := Option.some.inj h; subst h
  refine Zk (.inr rfl) hU [.val (.bool false)] (by omega) ?_
  simp only [push_cast, seval, ↓reduceIte, Za, Try.results18, hN0, hN]
 replace h := Zr c36 h
 refine Zw ?_
 try simp only [Zi, Zd]
 refine Zf [3, 4, 7] [true, true] ?_
 simp only [push_cast, seval, ↓reduceIte]
 refine Zg ?_
 obtain ⟨y19, hy19, h⟩ := bC h
 refine Zb Zc [] ?_
 simp only [push_cast, seval, ↓reduceIte, Za, hN0, hN]
 refine (Ze2 hy19).then ?_
 simp only [push_cast, seval, ↓reduceIte, Za, hN0, hN]
 refine Zf [3, 4, 7, 8, 9] [true, true] ?_
 simp only [push_cast, seval, ↓reduceIte]
 refine Zg ?_
 refine Zn [3, 7, 63] (Zb Zc [none, none, none, none, none, none, none, none, none, none, none, none, none, none, none, none, none, none, none] ?_)
 simp only [push_cast, seval, ↓reduceIte, Za, hN0, hN]
 repeat (with_reducible refine And.intro (by first | (intro h0; simp only [h0, and_self]; done) | (intro h0; simp only [h0, Bool.not_false, Bool.not_true, Bool.true_and, Bool.and_true, true_and, and_true, and_self, imp_self, implies_true, bne_iff_ne, ne_eq, beq_iff_eq]; done) | (intros; simp_all; done) | exact True.intro) ?_)
 refine Zo (t := (cond (cond (a1.Kind == 9) (cond (y19.1 != a1.Data) true (y19.2 != a1.Ptrs)) false) true (cond (a1.Kind != 9) ((IntKind.i64.wrap (y19.1 + y19.2)) != 0) false))) rfl (fun c35 => ?_) (fun c35 => ?_)
 ·replace h := Zs c35 h
  refine Zn [6] (Zb Zc [] ?_)
  simp only [push_cast, seval, ↓reduceIte, Za, hN0, hN]
  refine Zq ?_
  try simp only [Zi, Zd]
  have h := Option.some.inj h; subst h
  refine Zk (.inr rfl) hU [.val (.bool false)] (by omega) ?_
  simp only [push_cast, seval, ↓reduceIte, Za, Try.results18, hN0, hN]
 replace h := Zr c35 h
 refine Zw ?_
 try simp only [Zi, Zd]
 refine Zf [3, 7] [true, false] ?_
 simp only [push_cast, seval, ↓reduceIte]
 refine Zg ?_
 refine Zn [3, 7, 10] (Zb Zc [] ?_)
 simp only [push_cast, seval, ↓reduceIte, Za, hN0, hN]
 refine Zf [3, 7, 10] [true, false] ?_
 simp only [push_cast, seval, ↓reduceIte]
 obtain ⟨z26, hz26, h⟩ := bC h
 refine Zri (J := (Zfm (fun z26 => JR n (⟨92, [], [(6, .val (.bool false))]⟩ : Env) (Z5 O n [none, none]) (n + 2)) (fun z26 => JX 0 n (⟨92, [], [(3, .ref n 0), (7, .sl y2.length (fl (eI .u64) y2))]⟩ : Env) (Z5 O n [some ⟨false, 27, 9, 1, (Zl a0)⟩, none]) (n + 2)))) (z := z26) ?_ fun hw => ?_
 ·refine Zcb hz26 (fun s0_ => ⟨92, [], [(3, .ref n 0), (7, .sl y2.length (fl (eI .u64) y2)), (10, .val (.int .i64 s0_))]⟩) (fun s0_ => (Z5 O n [some ⟨false, 27, 9, 1, (Zl a0)⟩, none])) (Zfm (fun z26 => JR n (⟨92, [], [(6, .val (.bool false))]⟩ : Env) (Z5 O n [none, none]) (n + 2)) (fun z26 => JX 0 n (⟨92, [], [(3, .ref n 0), (7, .sl y2.length (fl (eI .u64) y2))]⟩ : Env) (Z5 O n [some ⟨false, 27, 9, 1, (Zl a0)⟩, none]) (n + 2))) ?_
  intro s0_ x0_ hs0_
  unfold Yw at hs0_
  try dsimp only
  refine Zg ?_
  refine Zn [3, 7, 10, 71] (Zb Zc [none, none] ?_)
  simp only [push_cast, seval, ↓reduceIte, Za, hN0, hN]
  repeat (with_reducible refine And.intro (by first | (intro h0; simp only [h0, and_self]; done) | (intro h0; simp only [h0, Bool.not_false, Bool.not_true, Bool.true_and, Bool.and_true, true_and, and_true, and_self, imp_self, implies_true, bne_iff_ne, ne_eq, beq_iff_eq]; done) | (intros; simp_all; done) | exact True.intro) ?_)
  refine Zo (t := (cond (decide (s0_ < (y2.length : Int))) (decide (s0_ < 200)) false)) rfl (fun c25 => ?_) (fun c25 => ?_)
  ·replace hs0_ := Zs c25 hs0_
   refine Zw ?_
   try simp only [Zi, Zd]
   refine Zf [3, 7, 10] [true, false] ?_
   simp only [push_cast, seval, ↓reduceIte]
   refine Zg ?_
   refine Qz ?_
   refine Zg ?_
   obtain ⟨y22, hy22, hs0_⟩ := bC hs0_
   obtain ⟨x23, hx23, ax23, bx23, cx23, hs0_⟩ := bE (f := (eI .u64)) Vw (fun _ => rfl) (by decide) hs0_
   refine Jq Zc (by kernel_rfl) [] (by kernel_rfl) ?_
   simp only [push_cast, Nat.reduceAdd, Nat.reduceSub, Nat.reduceMul, Nat.reduceLeDiff, Nat.reduceLT, Nat.reduceEqDiff, ↓reduceIte, reduceCtorEq, Int.reduceBEq, Int.reduceBNe, Nat.reduceBEq, Int.reduceLE, Int.reduceLT, Int.reduceEq, Int.reduceNe, Int.reduceNeg, Nat.reduceDiv, Nat.reduceMod, Nat.reducePow, Za, ax23, bx23, cx23, hN0, hN]
   refine PCall.of (Xx hy22) ?_
   simp only [push_cast, Nat.reduceAdd, Nat.reduceSub, Nat.reduceMul, Nat.reduceLeDiff, Nat.reduceLT, Nat.reduceEqDiff, ↓reduceIte, reduceCtorEq, Int.reduceBEq, Int.reduceBNe, Nat.reduceBEq, Int.reduceLE, Int.reduceLT, Int.reduceEq, Int.reduceNe, Int.reduceNeg, Nat.reduceDiv, Nat.reduceMod, Nat.reducePow, Za, ax23, bx23, cx23, hN0, hN]
   refine Zf [3, 7, 10, 81] [true, false] ?_
   simp only [push_cast, seval, ↓reduceIte]
   refine Zo (t := (y22 != x23)) rfl (fun c24 => ?_) (fun c24 => ?_)
   ·replace hs0_ := Zs c24 hs0_
    refine Zn [6] (Zb Zc [] ?_)
    simp only [push_cast, seval, ↓reduceIte, Za, hN0, hN]
    refine Zq ?_
    try simp only [Zi, Zd]
    have hs0_ := Option.some.inj hs0_; subst hs0_
    refine And.intro (fun h => by cases h) (And.intro rfl (Fit2.of (Zp hU rfl rfl ?_) (by omega)))
    simp only [push_cast, seval, ↓reduceIte, Za, hN0, hN]
   replace hs0_ := Zr c24 hs0_
   refine Zw ?_
   try simp only [Zi, Zd]
   refine Zf [3, 7, 10] [true, false] ?_
   simp only [push_cast, seval, ↓reduceIte]
   refine Zb Zc [] ?_
   simp only [push_cast, seval, ↓reduceIte, Za, hN0, hN]
   have hs0_ := Option.some.inj hs0_; subst hs0_
   refine And.intro rfl (Fit2.of (Zp hU rfl rfl ?_) (by omega))
   simp only [push_cast, seval, ↓reduceIte, Za, hN0, hN]
  replace hs0_ := Zr c25 hs0_
  refine Ze7 ?_
  try simp only [Zi, Zd, ↓reduceIte, Nat.reduceEqDiff]
  have hs0_ := Option.some.inj hs0_; subst hs0_
  refine And.intro (fun h => by cases h) (And.intro rfl (Fit2.of (Zp hU rfl rfl ?_) (by omega)))
  simp only [push_cast, seval, ↓reduceIte, Za, hN0, hN]
 rcases z26 with z26 | z26
 ·dsimp only [Zfm] at hw h
  refine Znb hw ?_
  try simp only [Zi, Zd, ↓reduceIte, Nat.reduceEqDiff]
  have h := Option.some.inj h; subst h
  refine Zk (.inr rfl) hU [.val (.bool false)] (by omega) ?_
  simp only [push_cast, seval, ↓reduceIte, Za, Try.results18, hN0, hN]
 dsimp only [Zfm] at hw h
 refine Gg hw ?_
 try simp only [Zi, Zd, ↓reduceIte, Nat.reduceEqDiff]
 refine Zf [3, 7] [true, false] ?_
 simp only [push_cast, seval, ↓reduceIte]
 obtain ⟨z29, hz29, h⟩ := bC h
 refine Q6 (E' := ⟨92, [], [(6, .val (.bool z29))]⟩) (O' := (Z5 O n [none, none])) (n0 := (n + 2)) ?_ ?_
 ·obtain ⟨y32, hy32, hz29⟩ := bC hz29
  rcases Bool.eq_false_or_eq_true (y32 == 0) with c34 | c34
  ·replace hz29 := Zs c34 hz29
   obtain ⟨y33, hy33, hz29⟩ := bC hz29
   refine Zb Zc [some true, some true, some true, some true, some true] ?_
   simp only [push_cast, seval, ↓reduceIte, Za, c34, hN0, hN]
   refine (Xx hy32).then ?_
   simp only [push_cast, seval, ↓reduceIte, Za, c34, hN0, hN]
   refine (Xx hy33).then ?_
   simp only [push_cast, seval, ↓reduceIte, Za, c34, hN0, hN]
   have hz29 := Option.some.inj hz29; subst hz29
   refine And.intro rfl (Fit2.of (Zp hU rfl rfl ?_) (by omega))
   simp only [push_cast, seval, ↓reduceIte, Za, c34, hN0, hN]
  replace hz29 := Zr c34 hz29
  refine Zb Zc [some false, some false, some false, some false, some false] ?_
  simp only [push_cast, seval, ↓reduceIte, Za, c34, hN0, hN]
  refine (Xx hy32).then ?_
  simp only [push_cast, seval, ↓reduceIte, Za, c34, hN0, hN]
  have hz29 := Option.some.inj hz29; subst hz29
  refine And.intro rfl (Fit2.of (Zp hU rfl rfl ?_) (by omega))
  simp only [push_cast, seval, ↓reduceIte, Za, c34, hN0, hN]
 refine Zq ?_
 try simp only [Zi, Zd]
 have h := Option.some.inj h; subst h
 refine Zk (.inr rfl) hU [.val (.bool z29)] (by omega) ?_
 simp only [push_cast, seval, ↓reduceIte, Za, Try.results18, hN0, hN]
theorem Zgl {a0 : (List Int)} {a1 : Int} {r : Int} {O : Objs} {n : Nat} (h : Jb a0 a1 = some r) : GTo Try.prog 79 [.sl a0.length (fl (eI .u64) a0), .val (.int .i64 a1)] O n (.val (.int .u64 r)) O n := by
 unfold Jb at h
 refine Ym Zc Try.call79 Try.func79 rfl (Nat.le_of_ble_eq_true rfl) (Nat.le_refl _) fun hU => ?_
 have hN0 : O n = none := hU.fresh _ (Nat.le_refl _)
 have hN : ∀ k, O (n + k) = none := fun k => hU.fresh _ (Nat.le_add_right _ _)
 show W _ _ _ _ ⟨31, [], [(0, .sl a0.length (fl (eI .u64) a0)), (1, .val (.int .i64 a1))]⟩ (Z5 O n []) _
 refine Zn [0, 1] (Zb Zc [] ?_)
 simp only [push_cast, seval, ↓reduceIte, Za, hN0, hN]
 refine Zg ?_
 refine Zn [0, 1, 15] (Zb Zc [none, none, none, none, none] ?_)
 simp only [push_cast, seval, ↓reduceIte, Za, hN0, hN]
 repeat (with_reducible refine And.intro (by first | (intro h0; simp only [h0, and_self]; done) | (intro h0; simp only [h0, Bool.not_false, Bool.not_true, Bool.true_and, Bool.and_true, true_and, and_true, and_self, imp_self, implies_true, bne_iff_ne, ne_eq, beq_iff_eq]; done) | (intros; simp_all; done) | exact True.intro) ?_)
 refine Zo (t := (cond (decide (a1 < 0)) true (decide ((a0.length : Int) ≤ (IntKind.i64.wrap (Int.tdiv a1 64)))))) rfl (fun c5 => ?_) (fun c5 => ?_)
 ·replace h := Zs c5 h
  refine Zn [4] (Zb Zc [] ?_)
  simp only [push_cast, seval, ↓reduceIte, Za, hN0, hN]
  refine Zq ?_
  try simp only [Zi, Zd]
  have h := Option.some.inj h; subst h
  refine Zk (.inr rfl) hU [.val (.int .u64 0)] (by omega) ?_
  simp only [push_cast, seval, ↓reduceIte, Za, Try.results79, hN0, hN]
 replace h := Zr c5 h
 refine Zw ?_
 try simp only [Zi, Zd]
 refine Zf [0, 1] [] ?_
 simp only [push_cast, seval, ↓reduceIte]
 obtain ⟨x2, hx2, ax2, bx2, cx2, h⟩ := bE (f := (eI .u64)) Vw (fun _ => rfl) (by decide) h
 refine Zn [1, 5] (Zb Zc [] ?_)
 simp only [push_cast, Nat.reduceAdd, Nat.reduceSub, Nat.reduceMul, Nat.reduceLeDiff, Nat.reduceLT, Nat.reduceEqDiff, ↓reduceIte, reduceCtorEq, Int.reduceBEq, Int.reduceBNe, Nat.reduceBEq, Int.reduceLE, Int.reduceLT, Int.reduceEq, Int.reduceNe, Int.reduceNeg, Nat.reduceDiv, Nat.reduceMod, Nat.reducePow, Za, ax2, bx2, cx2, hN0, hN]
 refine Zg ?_
 refine Zn [1, 5, 6] (Zb Zc [] ?_)
 simp only [push_cast, seval, ↓reduceIte, Za, hN0, hN]
 refine Zf [1, 5, 6] [] ?_
 simp only [push_cast, seval, ↓reduceIte]
 obtain ⟨z4, hz4, h⟩ := bC h
 refine Gg (E' := ⟨31, [], [(5, .val (.int .u64 z4))]⟩) (O' := (Z5 O n [])) (n0 := n) ?_ ?_
 ·refine Zcb hz4 (fun s0_ => ⟨31, [], [(1, .val (.int .i64 a1)), (5, .val (.int .u64 s0_.1)), (6, .val (.int .i64 s0_.2))]⟩) (fun s0_ => (Z5 O n [])) (fun z4 => JX 0 n (⟨31, [], [(5, .val (.int .u64 z4))]⟩ : Env) (Z5 O n []) n) ?_
  intro s0_ x0_ hs0_
  unfold Xj at hs0_
  try dsimp only
  refine Zg ?_
  refine Zn [1, 5, 6, 24] (Zb Zc [] ?_)
  simp only [push_cast, seval, ↓reduceIte, Za, hN0, hN]
  refine Zo (t := (decide (s0_.2 < (Int.tmod a1 64)))) rfl (fun c3 => ?_) (fun c3 => ?_)
  ·replace hs0_ := Zs c3 hs0_
   refine Zw ?_
   try simp only [Zi, Zd]
   refine Zf [1, 5, 6] [] ?_
   simp only [push_cast, seval, ↓reduceIte]
   refine Zg ?_
   refine Qz ?_
   refine Zb Zc [] ?_
   simp only [push_cast, seval, ↓reduceIte, Za, hN0, hN]
   refine Zf [1, 5, 6] [] ?_
   simp only [push_cast, seval, ↓reduceIte]
   refine Zb Zc [] ?_
   simp only [push_cast, seval, ↓reduceIte, Za, hN0, hN]
   have hs0_ := Option.some.inj hs0_; subst hs0_
   refine And.intro rfl (Fit2.of (Zp hU rfl rfl ?_) (by omega))
   simp only [push_cast, seval, ↓reduceIte, Za, hN0, hN]
  replace hs0_ := Zr c3 hs0_
  refine Ze7 ?_
  try simp only [Zi, Zd, ↓reduceIte, Nat.reduceEqDiff]
  have hs0_ := Option.some.inj hs0_; subst hs0_
  refine And.intro (fun h => by cases h) (And.intro rfl (Fit2.of (Zp hU rfl rfl ?_) (by omega)))
  simp only [push_cast, seval, ↓reduceIte, Za, hN0, hN]
 try simp only [Zi, Zd, ↓reduceIte, Nat.reduceEqDiff]
 refine Zf [5] [] ?_
 simp only [push_cast, seval, ↓reduceIte]
 refine Zn [4] (Zb Zc [] ?_)
 simp only [push_cast, seval, ↓reduceIte, Za, hN0, hN]
 refine Zq ?_
 try simp only [Zi, Zd]
 have h := Option.some.inj h; subst h
 refine Zk (.inr rfl) hU [.val (.int .u64 (Int.tmod z4 2))] (by omega) ?_
 simp only [push_cast, seval, ↓reduceIte, Za, Try.results79, hN0, hN]
theorem Zgm {a0 : (List Int)} {a1 : Int} {a2 : Int} {r : Int} {O : Objs} {n : Nat} (h : Jc a0 a1 a2 = some r) : GTo Try.prog 55 [.sl a0.length (fl (eI .u64) a0), .val (.int .i64 a1), .val (.int .i64 a2)] O n (.val (.int .u64 r)) O n := by
 unfold Jc at h
 refine Ym Zc Try.call55 Try.func55 rfl (Nat.le_of_ble_eq_true rfl) (Nat.le_refl _) fun hU => ?_
 have hN0 : O n = none := hU.fresh _ (Nat.le_refl _)
 have hN : ∀ k, O (n + k) = none := fun k => hU.fresh _ (Nat.le_add_right _ _)
 show W _ _ _ _ ⟨39, [], [(0, .sl a0.length (fl (eI .u64) a0)), (1, .val (.int .i64 a1)), (2, .val (.int .i64 a2))]⟩ (Z5 O n []) _
 refine Zn [0, 1, 2] (Zb Zc [] ?_)
 simp only [push_cast, seval, ↓reduceIte, Za, hN0, hN]
 refine Zg ?_
 obtain ⟨y2, hy2, h⟩ := bC h
 refine Zb Zc [] ?_
 simp only [push_cast, seval, ↓reduceIte, Za, hN0, hN]
 refine (Ze0 hy2).then ?_
 simp only [push_cast, seval, ↓reduceIte, Za, hN0, hN]
 refine Zf [0, 2, 7] [] ?_
 simp only [push_cast, seval, ↓reduceIte]
 refine Zg ?_
 refine Zn [0, 2, 7, 21] (Zb Zc [none, none, none, none] ?_)
 simp only [push_cast, seval, ↓reduceIte, Za, hN0, hN]
 repeat (with_reducible refine And.intro (by first | (intro h0; simp only [h0, and_self]; done) | (intro h0; simp only [h0, Bool.not_false, Bool.not_true, Bool.true_and, Bool.and_true, true_and, and_true, and_self, imp_self, implies_true, bne_iff_ne, ne_eq, beq_iff_eq]; done) | (intros; simp_all; done) | exact True.intro) ?_)
 refine Zo (t := (cond (cond (decide (y2 < 1)) true (decide (a2 < 0))) true (decide (1099511627776 < a2)))) rfl (fun c6 => ?_) (fun c6 => ?_)
 ·replace h := Zs c6 h
  refine Zn [6] (Zb Zc [] ?_)
  simp only [push_cast, seval, ↓reduceIte, Za, hN0, hN]
  refine Zq ?_
  try simp only [Zi, Zd]
  have h := Option.some.inj h; subst h
  refine Zk (.inr rfl) hU [.val (.int .u64 0)] (by omega) ?_
  simp only [push_cast, seval, ↓reduceIte, Za, Try.results55, hN0, hN]
 replace h := Zr c6 h
 refine Zw ?_
 try simp only [Zi, Zd]
 refine Zf [0, 2, 7] [] ?_
 simp only [push_cast, seval, ↓reduceIte]
 refine Zn [0, 2, 7, 8] (Zb Zc [] ?_)
 simp only [push_cast, seval, ↓reduceIte, Za, hN0, hN]
 refine Zg ?_
 refine Zn [0, 2, 7, 8, 9] (Zb Zc [] ?_)
 simp only [push_cast, seval, ↓reduceIte, Za, hN0, hN]
 refine Zf [0, 2, 7, 8, 9] [] ?_
 simp only [push_cast, seval, ↓reduceIte]
 obtain ⟨z5, hz5, h⟩ := bC h
 refine Gg (E' := ⟨39, [], [(8, .val (.int .u64 z5))]⟩) (O' := (Z5 O n [])) (n0 := n) ?_ ?_
 ·refine Zcb hz5 (fun s0_ => ⟨39, [], [(0, .sl a0.length (fl (eI .u64) a0)), (2, .val (.int .i64 a2)), (7, .val (.int .i64 y2)), (8, .val (.int .u64 s0_.1)), (9, .val (.int .i64 s0_.2))]⟩) (fun s0_ => (Z5 O n [])) (fun z5 => JX 0 n (⟨39, [], [(8, .val (.int .u64 z5))]⟩ : Env) (Z5 O n []) n) ?_
  intro s0_ x0_ hs0_
  unfold Xk at hs0_
  try dsimp only
  refine Zg ?_
  refine Zn [0, 2, 7, 8, 9, 25] (Zb Zc [] ?_)
  simp only [push_cast, seval, ↓reduceIte, Za, hN0, hN]
  refine Zo (t := (decide (0 ≤ s0_.2))) rfl (fun c4 => ?_) (fun c4 => ?_)
  ·replace hs0_ := Zs c4 hs0_
   refine Zw ?_
   try simp only [Zi, Zd]
   refine Zf [0, 2, 7, 8, 9] [] ?_
   simp only [push_cast, seval, ↓reduceIte]
   refine Zg ?_
   refine Qz ?_
   obtain ⟨y3, hy3, hs0_⟩ := bC hs0_
   refine Zb Zc [] ?_
   simp only [push_cast, seval, ↓reduceIte, Za, hN0, hN]
   refine (Zgl hy3).then ?_
   simp only [push_cast, seval, ↓reduceIte, Za, hN0, hN]
   refine Zf [0, 2, 7, 8, 9] [] ?_
   simp only [push_cast, seval, ↓reduceIte]
   refine Zb Zc [] ?_
   simp only [push_cast, seval, ↓reduceIte, Za, hN0, hN]
   have hs0_ := Option.some.inj hs0_; subst hs0_
   refine And.intro rfl (Fit2.of (Zp hU rfl rfl ?_) (by omega))
   simp only [push_cast, seval, ↓reduceIte, Za, hN0, hN]
  replace hs0_ := Zr c4 hs0_
  refine Ze7 ?_
  try simp only [Zi, Zd, ↓reduceIte, Nat.reduceEqDiff]
  have hs0_ := Option.some.inj hs0_; subst hs0_
  refine And.intro (fun h => by cases h) (And.intro rfl (Fit2.of (Zp hU rfl rfl ?_) (by omega)))
  simp only [push_cast, seval, ↓reduceIte, Za, hN0, hN]
 try simp only [Zi, Zd, ↓reduceIte, Nat.reduceEqDiff]
 refine Zf [8] [] ?_
 simp only [push_cast, seval, ↓reduceIte]
 refine Zn [6] (Zb Zc [] ?_)
 simp only [push_cast, seval, ↓reduceIte, Za, hN0, hN]
 refine Zq ?_
 try simp only [Zi, Zd]
 have h := Option.some.inj h; subst h
 refine Zk (.inr rfl) hU [.val (.int .u64 z5)] (by omega) ?_
 simp only [push_cast, seval, ↓reduceIte, Za, Try.results55, hN0, hN]
theorem Zct {a0 : Zm} {a1 : (List (List Int))} {a2 : Int} {r : (Zm × Int)} {O : Objs} {n : Nat} (h : X2 a0 a1 a2 = some r) : GTo Try.prog 21 [.agg (Zy a0), .sl a1.length (fl (eL (eI .u64)) a1), .val (.int .i64 a2)] O n (.tup [.agg (Zy r.1), .val (.int .i64 r.2)]) O n := by
 unfold X2 at h
 refine Ym Zc Try.call21 Try.func21 rfl (Nat.le_of_ble_eq_true rfl) (Nat.le_refl _) fun hU => ?_
 have hN0 : O n = none := hU.fresh _ (Nat.le_refl _)
 have hN : ∀ k, O (n + k) = none := fun k => hU.fresh _ (Nat.le_add_right _ _)
 show W _ _ _ _ ⟨80, [], [(0, .agg (Zy a0)), (1, .sl a1.length (fl (eL (eI .u64)) a1)), (2, .val (.int .i64 a2))]⟩ (Z5 O n []) _
 refine Zn [1, 2, 3, 6] (Zb Zc [] ?_)
 simp only [push_cast, seval, ↓reduceIte, Za, hN0, hN]
 refine Zg ?_
 obtain ⟨z2, hz2, h⟩ := bC h
 refine Q6 (E' := ⟨80, [], [(1, .sl a1.length (fl (eL (eI .u64)) a1)), (2, .val (.int .i64 a2)), (3, .ref n 0), (6, .ref (n + 1) 0), (15, .val (.bool z2))]⟩) (O' := (Z5 O n [some ⟨false, 33, 7, 1, (Zy a0)⟩, some ⟨false, 33, 7, 1, [.val (.int .i64 0), .val (.int .i64 0), .val (.int .i64 0), .val (.int .i64 0), .val (.int .i64 0), .val (.int .i64 0), .val (.int .u64 0)]⟩])) (n0 := (n + 2)) ?_ ?_
 ·rcases Bool.eq_false_or_eq_true (decide (a2 < 0)) with c5 | c5
  ·replace hz2 := Zs c5 hz2
   refine Zb Zc [some false, some false, some false, some false] ?_
   simp only [push_cast, seval, ↓reduceIte, Za, c5, hN0, hN]
   have hz2 := Option.some.inj hz2; subst hz2
   refine And.intro rfl (Fit2.of (Zp hU rfl rfl ?_) (by omega))
   simp only [push_cast, seval, ↓reduceIte, Za, c5, hN0, hN]
  replace hz2 := Zr c5 hz2
  obtain ⟨y4, hy4, hz2⟩ := bC hz2
  refine Zb Zc [some true, some true, some true, some true] ?_
  simp only [push_cast, seval, ↓reduceIte, Za, c5, hN0, hN]
  refine (Jx hy4).then ?_
  simp only [push_cast, seval, ↓reduceIte, Za, c5, hN0, hN]
  have hz2 := Option.some.inj hz2; subst hz2
  refine And.intro rfl (Fit2.of (Zp hU rfl rfl ?_) (by omega))
  simp only [push_cast, seval, ↓reduceIte, Za, c5, hN0, hN]
 refine Zo (t := z2) rfl (fun c19 => ?_) (fun c19 => ?_)
 ·replace h := Zs c19 h
  refine Zg ?_
  refine Zb Zc [] ?_
  simp only [push_cast, seval, ↓reduceIte, Za, hN0, hN]
  refine Zf [6, 7] [false, true] ?_
  simp only [push_cast, seval, ↓reduceIte]
  refine Zq ?_
  try simp only [Zi, Zd]
  have h := Option.some.inj h; subst h
  refine Zk (.inr rfl) hU [.agg [.val (.int .i64 0), .val (.int .i64 0), .val (.int .i64 0), .val (.int .i64 0), .val (.int .i64 0), .val (.int .i64 0), .val (.int .u64 0)], .val (.int .i64 0)] (by omega) ?_
  simp only [push_cast, seval, ↓reduceIte, Za, Try.results21, hN0, hN]
 replace h := Zr c19 h
 refine Zw ?_
 try simp only [Zi, Zd]
 refine Zf [1, 2, 3, 6] [true, true] ?_
 simp only [push_cast, seval, ↓reduceIte]
 refine Zg ?_
 refine Zn [1, 2, 3, 6, 19] (Zb Zc [] ?_)
 simp only [push_cast, seval, ↓reduceIte, Za, hN0, hN]
 refine Zo (t := (a0.Kind == 1)) rfl (fun c18 => ?_) (fun c18 => ?_)
 ·replace h := Zs c18 h
  refine Zg ?_
  obtain ⟨y7, hy7, h⟩ := bC h
  refine Zb Zc [] ?_
  simp only [push_cast, seval, ↓reduceIte, Za, hN0, hN]
  refine (V2 hy7).then ?_
  simp only [push_cast, seval, ↓reduceIte, Za, hN0, hN]
  refine Zf [6, 7] [false, true] ?_
  simp only [push_cast, seval, ↓reduceIte]
  refine Zq ?_
  try simp only [Zi, Zd]
  have h := Option.some.inj h; subst h
  refine Zk (.inr rfl) hU [.agg (Zy y7.1), .val (.int .i64 y7.2)] (by omega) ?_
  simp only [push_cast, seval, ↓reduceIte, Za, Try.results21, hN0, hN]
 replace h := Zr c18 h
 refine Zw ?_
 try simp only [Zi, Zd]
 refine Zf [1, 2, 3, 6] [true, true] ?_
 simp only [push_cast, seval, ↓reduceIte]
 refine Zg ?_
 refine Zn [1, 2, 3, 6, 35] (Zb Zc [] ?_)
 simp only [push_cast, seval, ↓reduceIte, Za, hN0, hN]
 refine Zo (t := (a0.Kind == 8)) rfl (fun c17 => ?_) (fun c17 => ?_)
 ·replace h := Zs c17 h
  refine Zg ?_
  obtain ⟨y9, hy9, h⟩ := bC h
  refine Zb Zc [] ?_
  simp only [push_cast, seval, ↓reduceIte, Za, hN0, hN]
  refine (V2 hy9).then ?_
  simp only [push_cast, seval, ↓reduceIte, Za, hN0, hN]
  refine Zf [6, 7] [false, true] ?_
  simp only [push_cast, seval, ↓reduceIte]
  refine Zq ?_
  try simp only [Zi, Zd]
  have h := Option.some.inj h; subst h
  refine Zk (.inr rfl) hU [.agg (Zy y9.1), .val (.int .i64 y9.2)] (by omega) ?_
  simp only [push_cast, seval, ↓reduceIte, Za, Try.results21, hN0, hN]
 replace h := Zr c17 h
 refine Zw ?_
 try simp only [Zi, Zd]
 refine Zf [1, 2, 3, 6] [true, true] ?_
 simp only [push_cast, seval, ↓reduceIte]
 refine Zg ?_
 refine Zn [1, 2, 3, 6, 48] (Zb Zc [] ?_)
 simp only [push_cast, seval, ↓reduceIte, Za, hN0, hN]
 refine Zo (t := (a0.Kind == 9)) rfl (fun c16 => ?_) (fun c16 => ?_)
 ·replace h := Zs c16 h
  refine Zg ?_
  refine Zb Zc [] ?_
  simp only [push_cast, seval, ↓reduceIte, Za, hN0, hN]
  refine Zf [6, 7] [false, true] ?_
  simp only [push_cast, seval, ↓reduceIte]
  refine Zq ?_
  try simp only [Zi, Zd]
  have h := Option.some.inj h; subst h
  refine Zk (.inr rfl) hU [.agg [.val (.int .i64 1), .val (.int .i64 a0.S), .val (.int .i64 (IntKind.i64.wrap (a0.At + (IntKind.i64.wrap (a2 * (IntKind.i64.wrap (a0.Data + a0.Ptrs))))))), .val (.int .i64 a0.Data), .val (.int .i64 a0.Ptrs), .val (.int .i64 0), .val (.int .u64 0)], .val (.int .i64 0)] (by omega) ?_
  simp only [push_cast, seval, ↓reduceIte, Za, Try.results21, hN0, hN]
 replace h := Zr c16 h
 refine Zw ?_
 try simp only [Zi, Zd]
 refine Zf [1, 2, 3, 6] [true, true] ?_
 simp only [push_cast, seval, ↓reduceIte]
 refine Zg ?_
 obtain ⟨x13, hx13, ax13, bx13, cx13, h⟩ := bE (f := (eL (eI .u64))) Vx (fun _ => rfl) (by decide) h
 obtain ⟨l14, al14, bl14, cl14, gl14, h⟩ := bS (lo := (some (.i64, a0.At))) (hi := none) (f := (eI .u64)) rfl rfl Za3 Vw (fun _ => rfl) h
 obtain ⟨y15, hy15, h⟩ := bC h
 refine Zp2 Zc (by kernel_rfl) [false, false, false, false, false, false, false, false, false, false, false, false, false, false, true, false] [] (by kernel_rfl) ?_
 simp only [push_cast, Nat.reduceAdd, Nat.reduceSub, Nat.reduceMul, Nat.reduceLeDiff, Nat.reduceLT, Nat.reduceEqDiff, ↓reduceIte, reduceCtorEq, Int.reduceBEq, Int.reduceBNe, Nat.reduceBEq, Int.reduceLE, Int.reduceLT, Int.reduceEq, Int.reduceNe, Int.reduceNeg, Nat.reduceDiv, Nat.reduceMod, Nat.reducePow, Za, ax13, bx13, cx13, al14, bl14, cl14, gl14, hN0, hN]
 refine PCall.of (Zgm hy15) ?_
 simp only [push_cast, Nat.reduceAdd, Nat.reduceSub, Nat.reduceMul, Nat.reduceLeDiff, Nat.reduceLT, Nat.reduceEqDiff, ↓reduceIte, reduceCtorEq, Int.reduceBEq, Int.reduceBNe, Nat.reduceBEq, Int.reduceLE, Int.reduceLT, Int.reduceEq, Int.reduceNe, Int.reduceNeg, Nat.reduceDiv, Nat.reduceMod, Nat.reducePow, Za, ax13, bx13, cx13, al14, bl14, cl14, gl14, hN0, hN]
 refine Zf [6, 7] [false, true] ?_
 simp only [push_cast, seval, ↓reduceIte]
 refine Zq ?_
 try simp only [Zi, Zd]
 have h := Option.some.inj h; subst h
 refine Zk (.inr rfl) hU [.agg [.val (.int .i64 10), .val (.int .i64 0), .val (.int .i64 0), .val (.int .i64 0), .val (.int .i64 0), .val (.int .i64 0), .val (.int .u64 y15)], .val (.int .i64 0)] (by omega) ?_
 simp only [push_cast, seval, ↓reduceIte, Za, Try.results21, hN0, hN]
theorem Zaw {a0 : (List (List Int))} {a1 : Int} {a2 : Int} {a3 : (List Int)} {r : Bool} {O : Objs} {n : Nat} (h : Xy a0 a1 a2 a3 = some r) : GTo Try.prog 3 [.sl a0.length (fl (eL (eI .u64)) a0), .val (.int .i64 a1), .val (.int .i64 a2), .sl a3.length (fl (eI .i64) a3)] O n (.val (.bool r)) O n := by
 unfold Xy at h
 refine Ym Zc Try.call3 Try.func3 rfl (Nat.le_of_ble_eq_true rfl) (Nat.le_refl _) fun hU => ?_
 have hN0 : O n = none := hU.fresh _ (Nat.le_refl _)
 have hN : ∀ k, O (n + k) = none := fun k => hU.fresh _ (Nat.le_add_right _ _)
 show W _ _ _ _ ⟨97, [], [(0, .sl a0.length (fl (eL (eI .u64)) a0)), (1, .val (.int .i64 a1)), (2, .val (.int .i64 a2)), (3, .sl a3.length (fl (eI .i64) a3))]⟩ (Z5 O n []) _
 refine Zn [0, 1, 2, 3] (Zb Zc [] ?_)
 simp only [push_cast, seval, ↓reduceIte, Za, hN0, hN]
 refine Zg ?_
 obtain ⟨y2, hy2, h⟩ := bC h
 refine Zb Zc [] ?_
 simp only [push_cast, seval, ↓reduceIte, Za, hN0, hN]
 refine (Zi1 hy2).then ?_
 simp only [push_cast, seval, ↓reduceIte, Za, hN0, hN]
 refine Zf [0, 1, 2, 3, 9] [] ?_
 simp only [push_cast, seval, ↓reduceIte]
 refine Zg ?_
 obtain ⟨y4, hy4, h⟩ := bC h
 refine Zb Zc [] ?_
 simp only [push_cast, seval, ↓reduceIte, Za, hN0, hN]
 refine (U7 hy4).then ?_
 simp only [push_cast, seval, ↓reduceIte, Za, hN0, hN]
 refine Zf [0, 1, 2, 3, 10, 11] [true] ?_
 simp only [push_cast, seval, ↓reduceIte]
 refine Zg ?_
 obtain ⟨y6, hy6, h⟩ := bC h
 refine Zb Zc [] ?_
 simp only [push_cast, seval, ↓reduceIte, Za, hN0, hN]
 refine (V2 hy6).then ?_
 simp only [push_cast, seval, ↓reduceIte, Za, hN0, hN]
 refine Zf [0, 3, 10, 11, 12, 13] [true, true] ?_
 simp only [push_cast, seval, ↓reduceIte]
 refine Zg ?_
 refine Zn [0, 3, 10, 11, 12, 13, 14] (Zb Zc [] ?_)
 simp only [push_cast, seval, ↓reduceIte, Za, hN0, hN]
 refine Zf [0, 3, 10, 11, 12, 13, 14] [true, true] ?_
 simp only [push_cast, seval, ↓reduceIte]
 obtain ⟨z24, hz24, h⟩ := bC h
 refine Zri (J := (Zfm (fun z24 => JR n (⟨97, [], [(8, .val (.bool false))]⟩ : Env) (Z5 O n [none, none]) (n + 2)) (fun z24 => JX 0 n (⟨97, [], [(0, .sl a0.length (fl (eL (eI .u64)) a0)), (10, .ref n 0), (11, .val (.int .i64 z24.1)), (12, .ref (n + 1) 0), (13, .val (.int .i64 z24.2.1))]⟩ : Env) (Z5 O n [some ⟨false, 27, 9, 1, [(gP Ze z24.2.2.1), .val (.int .i64 z24.2.2.2.1), .val (.int .i64 z24.2.2.2.2.1), .val (.int .i64 z24.2.2.2.2.2.1), .val (.int .i64 z24.2.2.2.2.2.2.1), .val (.int .i64 z24.2.2.2.2.2.2.2.1), .val (.int .i64 z24.2.2.2.2.2.2.2.2.1), .val (.int .i64 z24.2.2.2.2.2.2.2.2.2.1), .val (.int .i64 z24.2.2.2.2.2.2.2.2.2.2.1)]⟩, some ⟨false, 33, 7, 1, [.val (.int .i64 z24.2.2.2.2.2.2.2.2.2.2.2.1), .val (.int .i64 z24.2.2.2.2.2.2.2.2.2.2.2.2.1), .val (.int .i64 z24.2.2.2.2.2.2.2.2.2.2.2.2.2.1), .val (.int .i64 z24.2.2.2.2.2.2.2.2.2.2.2.2.2.2.1), .val (.int .i64 z24.2.2.2.2.2.2.2.2.2.2.2.2.2.2.2.1), .val (.int .i64 z24.2.2.2.2.2.2.2.2.2.2.2.2.2.2.2.2.1), .val (.int .u64 z24.2.2.2.2.2.2.2.2.2.2.2.2.2.2.2.2.2)]⟩]) (n + 2)))) (z := z24) ?_ fun hw => ?_
 ·refine Zcb hz24 (fun s0_ => ⟨97, [], [(0, .sl a0.length (fl (eL (eI .u64)) a0)), (3, .sl a3.length (fl (eI .i64) a3)), (10, .ref n 0), (11, .val (.int .i64 s0_.1)), (12, .ref (n + 1) 0), (13, .val (.int .i64 s0_.2.1)), (14, .val (.int .i64 s0_.2.2.1))]⟩) (fun s0_ => (Z5 O n [some ⟨false, 27, 9, 1, [(gP Ze s0_.2.2.2.1), .val (.int .i64 s0_.2.2.2.2.1), .val (.int .i64 s0_.2.2.2.2.2.1), .val (.int .i64 s0_.2.2.2.2.2.2.1), .val (.int .i64 s0_.2.2.2.2.2.2.2.1), .val (.int .i64 s0_.2.2.2.2.2.2.2.2.1), .val (.int .i64 s0_.2.2.2.2.2.2.2.2.2.1), .val (.int .i64 s0_.2.2.2.2.2.2.2.2.2.2.1), .val (.int .i64 s0_.2.2.2.2.2.2.2.2.2.2.2.1)]⟩, some ⟨false, 33, 7, 1, [.val (.int .i64 s0_.2.2.2.2.2.2.2.2.2.2.2.2.1), .val (.int .i64 s0_.2.2.2.2.2.2.2.2.2.2.2.2.2.1), .val (.int .i64 s0_.2.2.2.2.2.2.2.2.2.2.2.2.2.2.1), .val (.int .i64 s0_.2.2.2.2.2.2.2.2.2.2.2.2.2.2.2.1), .val (.int .i64 s0_.2.2.2.2.2.2.2.2.2.2.2.2.2.2.2.2.1), .val (.int .i64 s0_.2.2.2.2.2.2.2.2.2.2.2.2.2.2.2.2.2.1), .val (.int .u64 s0_.2.2.2.2.2.2.2.2.2.2.2.2.2.2.2.2.2.2)]⟩])) (Zfm (fun z24 => JR n (⟨97, [], [(8, .val (.bool false))]⟩ : Env) (Z5 O n [none, none]) (n + 2)) (fun z24 => JX 0 n (⟨97, [], [(0, .sl a0.length (fl (eL (eI .u64)) a0)), (10, .ref n 0), (11, .val (.int .i64 z24.1)), (12, .ref (n + 1) 0), (13, .val (.int .i64 z24.2.1))]⟩ : Env) (Z5 O n [some ⟨false, 27, 9, 1, [(gP Ze z24.2.2.1), .val (.int .i64 z24.2.2.2.1), .val (.int .i64 z24.2.2.2.2.1), .val (.int .i64 z24.2.2.2.2.2.1), .val (.int .i64 z24.2.2.2.2.2.2.1), .val (.int .i64 z24.2.2.2.2.2.2.2.1), .val (.int .i64 z24.2.2.2.2.2.2.2.2.1), .val (.int .i64 z24.2.2.2.2.2.2.2.2.2.1), .val (.int .i64 z24.2.2.2.2.2.2.2.2.2.2.1)]⟩, some ⟨false, 33, 7, 1, [.val (.int .i64 z24.2.2.2.2.2.2.2.2.2.2.2.1), .val (.int .i64 z24.2.2.2.2.2.2.2.2.2.2.2.2.1), .val (.int .i64 z24.2.2.2.2.2.2.2.2.2.2.2.2.2.1), .val (.int .i64 z24.2.2.2.2.2.2.2.2.2.2.2.2.2.2.1), .val (.int .i64 z24.2.2.2.2.2.2.2.2.2.2.2.2.2.2.2.1), .val (.int .i64 z24.2.2.2.2.2.2.2.2.2.2.2.2.2.2.2.2.1), .val (.int .u64 z24.2.2.2.2.2.2.2.2.2.2.2.2.2.2.2.2.2)]⟩]) (n + 2))) ?_
  intro s0_ x0_ hs0_
  unfold Z6 at hs0_
  try dsimp only
  refine Zg ?_
  refine Zn [0, 3, 10, 11, 12, 13, 14, 40] (Zb Zc [none, none] ?_)
  simp only [push_cast, seval, ↓reduceIte, Za, hN0, hN]
  repeat (with_reducible refine And.intro (by first | (intro h0; simp only [h0, and_self]; done) | (intro h0; simp only [h0, Bool.not_false, Bool.not_true, Bool.true_and, Bool.and_true, true_and, and_true, and_self, imp_self, implies_true, bne_iff_ne, ne_eq, beq_iff_eq]; done) | (intros; simp_all; done) | exact True.intro) ?_)
  refine Zo (t := (cond (decide (s0_.2.2.1 < (a3.length : Int))) (decide (s0_.2.2.1 < 30)) false)) rfl (fun c23 => ?_) (fun c23 => ?_)
  ·replace hs0_ := Zs c23 hs0_
   refine Zw ?_
   try simp only [Zi, Zd]
   refine Zf [0, 3, 10, 11, 12, 13, 14] [true, true] ?_
   simp only [push_cast, seval, ↓reduceIte]
   refine Zg ?_
   refine Qz ?_
   refine Zg ?_
   obtain ⟨z8, hz8, hs0_⟩ := bC hs0_
   refine Q6 (E' := ⟨97, [], [(0, .sl a0.length (fl (eL (eI .u64)) a0)), (3, .sl a3.length (fl (eI .i64) a3)), (10, .ref n 0), (12, .ref (n + 1) 0), (14, .val (.int .i64 s0_.2.2.1)), (52, .val (.bool z8))]⟩) (O' := (Z5 O n [some ⟨false, 27, 9, 1, [(gP Ze s0_.2.2.2.1), .val (.int .i64 s0_.2.2.2.2.1), .val (.int .i64 s0_.2.2.2.2.2.1), .val (.int .i64 s0_.2.2.2.2.2.2.1), .val (.int .i64 s0_.2.2.2.2.2.2.2.1), .val (.int .i64 s0_.2.2.2.2.2.2.2.2.1), .val (.int .i64 s0_.2.2.2.2.2.2.2.2.2.1), .val (.int .i64 s0_.2.2.2.2.2.2.2.2.2.2.1), .val (.int .i64 s0_.2.2.2.2.2.2.2.2.2.2.2.1)]⟩, some ⟨false, 33, 7, 1, [.val (.int .i64 s0_.2.2.2.2.2.2.2.2.2.2.2.2.1), .val (.int .i64 s0_.2.2.2.2.2.2.2.2.2.2.2.2.2.1), .val (.int .i64 s0_.2.2.2.2.2.2.2.2.2.2.2.2.2.2.1), .val (.int .i64 s0_.2.2.2.2.2.2.2.2.2.2.2.2.2.2.2.1), .val (.int .i64 s0_.2.2.2.2.2.2.2.2.2.2.2.2.2.2.2.2.1), .val (.int .i64 s0_.2.2.2.2.2.2.2.2.2.2.2.2.2.2.2.2.2.1), .val (.int .u64 s0_.2.2.2.2.2.2.2.2.2.2.2.2.2.2.2.2.2.2)]⟩])) (n0 := (n + 2)) ?_ ?_
   ·rcases Bool.eq_false_or_eq_true (s0_.1 != s0_.2.1) with c11 | c11
    ·replace hz8 := Zs c11 hz8
     refine Zb Zc [some false, some false, some false, some false, some false] ?_
     simp only [push_cast, seval, ↓reduceIte, Za, c11, hN0, hN]
     have hz8 := Option.some.inj hz8; subst hz8
     refine And.intro rfl (Fit2.of (Zp hU rfl rfl ?_) (by omega))
     simp only [push_cast, seval, ↓reduceIte, Za, c11, hN0, hN]
    replace hz8 := Zr c11 hz8
    obtain ⟨y10, hy10, hz8⟩ := bC hz8
    refine Zb Zc [some true, some true, some true, some true, some true] ?_
    simp only [push_cast, seval, ↓reduceIte, Za, c11, hN0, hN]
    refine (Kp hy10).then ?_
    simp only [push_cast, seval, ↓reduceIte, Za, c11, hN0, hN]
    have hz8 := Option.some.inj hz8; subst hz8
    refine And.intro rfl (Fit2.of (Zp hU rfl rfl ?_) (by omega))
    simp only [push_cast, seval, ↓reduceIte, Za, c11, hN0, hN]
   refine Zo (t := z8) rfl (fun c22 => ?_) (fun c22 => ?_)
   ·replace hs0_ := Zs c22 hs0_
    refine Zn [8] (Zb Zc [] ?_)
    simp only [push_cast, seval, ↓reduceIte, Za, hN0, hN]
    refine Zq ?_
    try simp only [Zi, Zd]
    have hs0_ := Option.some.inj hs0_; subst hs0_
    refine And.intro (fun h => by cases h) (And.intro rfl (Fit2.of (Zp hU rfl rfl ?_) (by omega)))
    simp only [push_cast, seval, ↓reduceIte, Za, hN0, hN]
   replace hs0_ := Zr c22 hs0_
   refine Zw ?_
   try simp only [Zi, Zd]
   refine Zf [0, 3, 10, 12, 14] [true, true] ?_
   simp only [push_cast, seval, ↓reduceIte]
   obtain ⟨x13, hx13, ax13, bx13, cx13, hs0_⟩ := bE (f := (eI .i64)) Zoq (fun _ => rfl) (by decide) hs0_
   refine Zn [0, 3, 10, 12, 14, 15] (Zb Zc [] ?_)
   simp only [push_cast, Nat.reduceAdd, Nat.reduceSub, Nat.reduceMul, Nat.reduceLeDiff, Nat.reduceLT, Nat.reduceEqDiff, ↓reduceIte, reduceCtorEq, Int.reduceBEq, Int.reduceBNe, Nat.reduceBEq, Int.reduceLE, Int.reduceLT, Int.reduceEq, Int.reduceNe, Int.reduceNeg, Nat.reduceDiv, Nat.reduceMod, Nat.reducePow, Za, ax13, bx13, cx13, hN0, hN]
   obtain ⟨z14, hz14, hs0_⟩ := bC hs0_
   refine Q6 (E' := ⟨97, [], [(0, .sl a0.length (fl (eL (eI .u64)) a0)), (3, .sl a3.length (fl (eI .i64) a3)), (10, .ref n 0), (12, .ref (n + 1) 0), (14, .val (.int .i64 s0_.2.2.1)), (15, .val (.int .i64 z14))]⟩) (O' := (Z5 O n [some ⟨false, 27, 9, 1, [(gP Ze s0_.2.2.2.1), .val (.int .i64 s0_.2.2.2.2.1), .val (.int .i64 s0_.2.2.2.2.2.1), .val (.int .i64 s0_.2.2.2.2.2.2.1), .val (.int .i64 s0_.2.2.2.2.2.2.2.1), .val (.int .i64 s0_.2.2.2.2.2.2.2.2.1), .val (.int .i64 s0_.2.2.2.2.2.2.2.2.2.1), .val (.int .i64 s0_.2.2.2.2.2.2.2.2.2.2.1), .val (.int .i64 s0_.2.2.2.2.2.2.2.2.2.2.2.1)]⟩, some ⟨false, 33, 7, 1, [.val (.int .i64 s0_.2.2.2.2.2.2.2.2.2.2.2.2.1), .val (.int .i64 s0_.2.2.2.2.2.2.2.2.2.2.2.2.2.1), .val (.int .i64 s0_.2.2.2.2.2.2.2.2.2.2.2.2.2.2.1), .val (.int .i64 s0_.2.2.2.2.2.2.2.2.2.2.2.2.2.2.2.1), .val (.int .i64 s0_.2.2.2.2.2.2.2.2.2.2.2.2.2.2.2.2.1), .val (.int .i64 s0_.2.2.2.2.2.2.2.2.2.2.2.2.2.2.2.2.2.1), .val (.int .u64 s0_.2.2.2.2.2.2.2.2.2.2.2.2.2.2.2.2.2.2)]⟩])) (n0 := (n + 2)) ?_ ?_
   ·refine Zg ?_
    obtain ⟨y16, hy16, hz14⟩ := bC hz14
    refine Zb Zc [] ?_
    simp only [push_cast, seval, ↓reduceIte, Za, hN0, hN]
    refine (Jx hy16).then ?_
    simp only [push_cast, seval, ↓reduceIte, Za, hN0, hN]
    refine Zf [0, 3, 10, 12, 14, 15, 16] [true, true] ?_
    simp only [push_cast, seval, ↓reduceIte]
    refine Zn [0, 3, 10, 12, 14, 15, 16, 68] (Zb Zc [none, none, none, none] ?_)
    simp only [push_cast, seval, ↓reduceIte, Za, hN0, hN]
    repeat (with_reducible refine And.intro (by first | (intro h0; simp only [h0, and_self]; done) | (intro h0; simp only [h0, Bool.not_false, Bool.not_true, Bool.true_and, Bool.and_true, true_and, and_true, and_self, imp_self, implies_true, bne_iff_ne, ne_eq, beq_iff_eq]; done) | (intros; simp_all; done) | exact True.intro) ?_)
    refine Zo (t := (cond (cond (decide (0 < y16)) (decide (0 ≤ x13)) false) (decide (x13 < 1000)) false)) rfl (fun c18 => ?_) (fun c18 => ?_)
    ·replace hz14 := Zs c18 hz14
     obtain ⟨pu17, hz14⟩ := bG hz14
     refine Zb Zc [] ?_
     simp only [push_cast, seval, ↓reduceIte, Za, pu17, hN0, hN]
     have hz14 := Option.some.inj hz14; subst hz14
     refine And.intro rfl (Fit2.of (Zp hU rfl rfl ?_) (by omega))
     simp only [push_cast, seval, ↓reduceIte, Za, pu17, hN0, hN]
    replace hz14 := Zr c18 hz14
    refine Zw ?_
    try simp only [Zi, Zd]
    have hz14 := Option.some.inj hz14; subst hz14
    refine And.intro rfl (Fit2.of (Zp hU rfl rfl ?_) (by omega))
    simp only [push_cast, seval, ↓reduceIte, Za, hN0, hN]
   refine Zg ?_
   obtain ⟨y20, hy20, hs0_⟩ := bC hs0_
   refine Zb Zc [] ?_
   simp only [push_cast, seval, ↓reduceIte, Za, hN0, hN]
   refine (Zgn hy20).then ?_
   simp only [push_cast, seval, ↓reduceIte, Za, hN0, hN]
   refine Zf [0, 3, 10, 11, 12, 14, 15] [true, true] ?_
   simp only [push_cast, seval, ↓reduceIte]
   obtain ⟨y21, hy21, hs0_⟩ := bC hs0_
   refine Zb Zc [] ?_
   simp only [push_cast, seval, ↓reduceIte, Za, hN0, hN]
   refine (Zct hy21).then ?_
   simp only [push_cast, seval, ↓reduceIte, Za, hN0, hN]
   refine Zf [0, 3, 10, 11, 12, 13, 14] [true, true] ?_
   simp only [push_cast, seval, ↓reduceIte]
   refine Zb Zc [] ?_
   simp only [push_cast, seval, ↓reduceIte, Za, hN0, hN]
   have hs0_ := Option.some.inj hs0_; subst hs0_
   refine And.intro rfl (Fit2.of (Zp hU rfl rfl ?_) (by omega))
   simp only [push_cast, seval, ↓reduceIte, Za, hN0, hN]
  replace hs0_ := Zr c23 hs0_
  refine Ze7 ?_
  try simp only [Zi, Zd, ↓reduceIte, Nat.reduceEqDiff]
  have hs0_ := Option.some.inj hs0_; subst hs0_
  refine And.intro (fun h => by cases h) (And.intro rfl (Fit2.of (Zp hU rfl rfl ?_) (by omega)))
  simp only [push_cast, seval, ↓reduceIte, Za, hN0, hN]
 rcases z24 with z24 | z24
 ·dsimp only [Zfm] at hw h
  refine Znb hw ?_
  try simp only [Zi, Zd, ↓reduceIte, Nat.reduceEqDiff]
  have h := Option.some.inj h; subst h
  refine Zk (.inr rfl) hU [.val (.bool false)] (by omega) ?_
  simp only [push_cast, seval, ↓reduceIte, Za, Try.results3, hN0, hN]
 dsimp only [Zfm] at hw h
 refine Gg hw ?_
 try simp only [Zi, Zd, ↓reduceIte, Nat.reduceEqDiff]
 refine Zf [0, 10, 11, 12, 13] [true, true] ?_
 simp only [push_cast, seval, ↓reduceIte]
 obtain ⟨z27, hz27, h⟩ := bC h
 refine Q6 (E' := ⟨97, [], [(8, .val (.bool z27))]⟩) (O' := (Z5 O n [none, none])) (n0 := (n + 2)) ?_ ?_
 ·rcases Bool.eq_false_or_eq_true (z24.1 == z24.2.1) with c32 | c32
  ·replace hz27 := Zs c32 hz27
   obtain ⟨y30, hy30, hz27⟩ := bC hz27
   rcases Bool.eq_false_or_eq_true y30 with c33 | c33
   ·replace hz27 := Zs c33 hz27
    try rw [c33] at c32
    obtain ⟨y31, hy31, hz27⟩ := bC hz27
    refine Zb Zc [some true, some true, some true, some true, some true] ?_
    simp only [push_cast, seval, ↓reduceIte, Za, c32, c33, hN0, hN]
    refine (Kp hy30).then ?_
    simp only [push_cast, seval, ↓reduceIte, Za, c32, c33, hN0, hN]
    refine (Zez hy31).then ?_
    simp only [push_cast, seval, ↓reduceIte, Za, c32, c33, hN0, hN]
    have hz27 := Option.some.inj hz27; subst hz27
    refine And.intro rfl (Fit2.of (Zp hU rfl rfl ?_) (by omega))
    simp only [push_cast, seval, ↓reduceIte, Za, c32, c33, hN0, hN]
   replace hz27 := Zr c33 hz27
   try rw [c33] at c32
   refine Zb Zc [some true, some true, some true, some true, some false] ?_
   simp only [push_cast, seval, ↓reduceIte, Za, c32, c33, hN0, hN]
   refine (Kp hy30).then ?_
   simp only [push_cast, seval, ↓reduceIte, Za, c32, c33, hN0, hN]
   have hz27 := Option.some.inj hz27; subst hz27
   refine And.intro rfl (Fit2.of (Zp hU rfl rfl ?_) (by omega))
   simp only [push_cast, seval, ↓reduceIte, Za, c32, c33, hN0, hN]
  replace hz27 := Zr c32 hz27
  refine Zb Zc [some false, some false, some false, some false, some false] ?_
  simp only [push_cast, seval, ↓reduceIte, Za, c32, hN0, hN]
  have hz27 := Option.some.inj hz27; subst hz27
  refine And.intro rfl (Fit2.of (Zp hU rfl rfl ?_) (by omega))
  simp only [push_cast, seval, ↓reduceIte, Za, c32, hN0, hN]
 refine Zq ?_
 try simp only [Zi, Zd]
 have h := Option.some.inj h; subst h
 refine Zk (.inr rfl) hU [.val (.bool z27)] (by omega) ?_
 simp only [push_cast, seval, ↓reduceIte, Za, Try.results3, hN0, hN]
end Go.Proofs.Ytmlhokaflhlhbaa
