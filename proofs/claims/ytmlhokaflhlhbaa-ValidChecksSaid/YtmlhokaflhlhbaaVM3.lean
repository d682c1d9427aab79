/- Part VM3 of this seat's mirrors: functions of the seat's program, and the plain functions that they are; each theorem bears its own conditions. -/
import Derived.Test.YtmlhokaflhlhbaaVE
import Derived.Test.YtmlhokaflhlhbaaVM2
namespace Go.Proofs.Ytmlhokaflhlhbaa
open Go.RowKit
set_option linter.unusedVariables false
set_option linter.unusedSimpArgs false
set_option maxRecDepth 100000
set_option maxHeartbeats 4000000
attribute [local push_cast] Ye Yq Zn Yf Zq Zhy Zhx Zim Zil Zi Zf Zet Zbb Zba onW Yv Ua Vk Zh3 Zg2 Zdi Zdn Zdh Zdm Zfq Zfn Zdl Zfp Zfo Zdj Zfl Zbu evS wok Xd Op.operands Call.operands gop onK onP atK List.all_cons List.all_nil Bool.and_true Bool.true_and Bool.and_self Value.oneCell' List.take_zero List.take_succ_cons List.take_nil List.drop_zero List.drop_succ_cons List.drop_nil List.append_nil Nat.add_zero Nat.zero_add Jj Z8 ev Xf Zne Zhp Zho Zhu Zhs Zht Zhq Zhr Zhn Zj9 Zkv Znf Zcl Vo Zcd V3 Zc0 Zaj Gf Gk Za6 Za3 Gi Za5 Za4 Gh Za1 Gg Gj Ui Za2 Zev Zbc Kt Zce Ku Zdu Zck Zlm bLo bHi bMx Vp Zdt Zoi Zcj Zd8 Gb Jt Zkm Zon Zcb Zor Vn Zpq Zey Ze2 Zex Ze1 Zh9 Zh6 Zh4 Zc4 Zez Zh8 Zh7 Ze0 Zh5 Zdv Zhz Zfe Zbp Zbo pop TK.isAgg Zif Zij Zie Zii Ze8 Zl3 Zl0 Zih Zl2 Zl1 Zig Zlz G.under G.unders List.getD_cons_zero List.getD_cons_succ List.set_cons_zero List.set_cons_succ List.map_cons List.map_nil List.toList_toArray Array.toList_append Option.toArray_none Option.toArray_some Array.toList_map Option.map_some Option.map_none Option.bind_some Option.bind_none List.getElem?_cons_zero List.getElem?_cons_succ List.getElem?_nil List.nil_append List.cons_append List.replicate_succ List.replicate_zero List.length_cons List.length_nil and_true true_and and_false false_and Bool.true_eq_false Bool.false_eq_true forall_const false_implies implies_true IntKind.bits if_true if_false ite_true ite_false eq_self true_implies false_or or_false or_true true_or not_true_eq_false not_false_eq_true decide_true decide_false decide_eq_true_eq decide_eq_false_iff_not beq_iff_eq bne_iff_ne ne_eq Bool.not_eq_true Bool.not_eq_false beq_eq_false_iff_ne bne_eq_false_iff_eq beq_self_eq_true bne_self_eq_false Option.some.injEq exists_eq_left' exists_eq_left ge_iff_le gt_iff_lt decide_not Bool.not_true Bool.not_false imp_self Zlo cond_true cond_false Zt1 Zt0 Bool.not_not Bool.and_false Bool.false_and Bool.or_true Bool.true_or Bool.or_false Bool.false_or Vj Zdq Zca Zaz Gd V8 Option.join_some Nat.add_assoc Int.toNat_natCast eI eB eS eL Za7 Zat Gr Zh2 Zh0 Zh1 Zp5 Zr4 Zav Gy Zit Zir Zis Znn Zes Zlg Zfj Zlf U1 Zj8 List.length_append G.agg.injEq G.row.injEq G.ref.injEq G.val.injEq G.sl.injEq G.tup.injEq Value.int.injEq Value.bool.injEq Value.string.injEq List.cons.injEq exists_and_left exists_const List.flatten_cons List.flatten_nil Int.le_refl Nat.le_refl Zf9 Js Zeq Bool.not_eq_true' Bool.not_eq_false' Zj3 Zb0 Zm7 Znb Zm6 Zna Zrj Zrf List.size_toArray Ziv Ziw G.ren G.rens Zkx Zam Ziz Zhk Zhl Zfm Znc Zbj G.fn.injEq Zdo Zgb Zj1 Zrg Zga Zm9 Zri Zrh Zm8 Zlu Zp0 Option.join_none Xc Ks undef Zd9 Arr.len Arr.put_eq Zau Zc7 Zbk Gx Ziq Zio Zip onB Zp4 Zkk Zfk Zeg Zeh Zei Zej Zek Zel Zc5 Zdb Zc9 Zbn Gz Zda Zfd Zfc Zfb Zfa Zr3 Zth Znm Zl5 Qh Znh Zia Zdd Zbm Zoy Zi1 Zci Zd7 Uu Zde Zem Zen Zeo Zep Zcq Zcr Zcs Zct Zcu Zcv Zcw Gl prT Um Zu1 Zmu Ztq Zmv Zu2 Zmw Zu3 Zmx Zu4 Zmy Zu5 Zmz Zu6 Zm0 Zu7 Zm1 Zqf Zi2 Zqg Zi3 Zqh Zi4 Zqi Zi5 Zqj Zi6 Zqk Zi7 Zql Zi8 Zqm Zi9 Zqn Zja Zqo Zjb Zqp Zjc Zqq Zjd Zqr Zje Zqs Zgn Zqt Zjf Zqu Zjg Zqv Zjh Zag Zji Zqw Zjj Zqx Zjk U0 Zch Zqy Zjl Zqz Zjm Zq0 Zjn Zq1 Zjo Zq2 Zjp Zq3 Zjq Zq4 Zjr Zq5 Zjs Zq6 Zjt Zq7 Zju Zq8 Zjv Zq9 Zjw Zra Zjx Zrb Zjy Zrc Zjz Zrd Zj0 Zmd Zfs Zme Zft Zmf Zfu Zmg Zfv Zmh Zfw Zmi Zfx Zmj Zfy Zmk Zfz Zml Zf0 Zmm Zf1 Zmn Zf2 Zmo Zf3 Zmp Zf4 Zmq Zf5 Zmr Zf6 Zms Zf7 Zmt Zf8 Zb2 Zbz Zbf Zbi Zb5 Zai Zae Zac Zbw Vz Vy Vq Vv V0 Vb Va K9 Vx Zj Qz Qy Qt Qw Q0 Qn Ql Qk Qx Gn Zb1 Zby Zbe Zbh Zb4 Zah Zad Zab Zbv Gm K5 Q6 Q7 Xv Z3 Qb Qa X7 X8 Qc X2 X0 Xz X9 Zu Q1 Km Kl Ka Kg Ko J0 Jy Jx Kj
theorem Ze4 {a0 : (List (List Int))} {a1 : Int} {a2 : Int} {r : (Z4 × Int)} {O : Objs} {n : Nat} (h : X6 a0 a1 a2 = some r) : GTo Try.prog 50 [.sl a0.length (fl (eL (eI .u64)) a0), .val (.int .i64 a1), .val (.int .i64 a2)] O n (.tup [.agg [.val (.int .i64 r.1.P.Kind), .val (.int .i64 r.1.P.Off), .val (.int .i64 r.1.P.Data), .val (.int .i64 r.1.P.Ptrs), .val (.int .i64 r.1.P.Code), .val (.int .i64 r.1.P.Count), .val (.int .i64 r.1.P.Segment), .val (.bool r.1.P.Double), .val (.int .i64 r.1.Segment), .val (.int .i64 r.1.At)], .val (.int .i64 r.2)]) O n := by
 unfold X6 at h
 refine Yp Zc Try.call50 Try.func50 rfl (Nat.le_of_ble_eq_true rfl) (Nat.le_refl _) fun hU => ?_
 have hN0 : O n = none := hU.fresh _ (Nat.le_refl _)
 have hN : ∀ k, O (n + k) = none := fun k => hU.fresh _ (Nat.le_add_right _ _)
 show W _ _ _ _ ⟨147, [], [(0, .sl a0.length (fl (eL (eI .u64)) a0)), (1, .val (.int .i64 a1)), (2, .val (.int .i64 a2))]⟩ (Z5 O n []) _
 refine Zr [0, 1, 2, 6] (Zb Zc [] ?_)
 simp only [push_cast, seval, ↓reduceIte, Za, hN0, hN]
 refine Zh ?_
 refine Zh ?_
 obtain ⟨y2, hy2, h⟩ := bC h
 refine Zb Zc [] ?_
 simp only [push_cast, seval, ↓reduceIte, Za, hN0, hN]
 refine (Ju hy2).then ?_
 simp only [push_cast, seval, ↓reduceIte, Za, hN0, hN]
 refine Zg [0, 1, 2, 6, 17] [true] ?_
 simp only [push_cast, seval, ↓reduceIte]
 refine Zs (t := (!y2)) rfl (fun c47 => ?_) (fun c47 => ?_)
 ·replace h := Zw c47 h
  refine Zh ?_
  refine Zb Zc [] ?_
  simp only [push_cast, seval, ↓reduceIte, Za, hN0, hN]
  refine Zg [6, 7] [true] ?_
  simp only [push_cast, seval, ↓reduceIte]
  refine Zt ?_
  try simp only [Zi, Zf]
  have h := Option.some.inj h; subst h
  refine Zl (.inr rfl) hU [.agg [.val (.int .i64 0), .val (.int .i64 0), .val (.int .i64 0), .val (.int .i64 0), .val (.int .i64 0), .val (.int .i64 0), .val (.int .i64 0), .val (.bool false), .val (.int .i64 0), .val (.int .i64 0)], .val (.int .i64 7)] (by omega) ?_
  simp only [push_cast, seval, ↓reduceIte, Za, Try.results50, hN0, hN]
 replace h := Zv c47 h
 refine Zz ?_
 try simp only [Zi, Zf]
 refine Zg [0, 1, 2, 6] [true] ?_
 simp only [push_cast, seval, ↓reduceIte]
 refine Zh ?_
 obtain ⟨x6, hx6, ax6, bx6, cx6, h⟩ := bE (f := (eL (eI .u64))) U0 (fun _ => rfl) (by decide) h
 obtain ⟨x7, hx7, ax7, bx7, cx7, h⟩ := bE (f := (eI .u64)) Zag (fun _ => rfl) (by decide) h
 obtain ⟨y8, hy8, h⟩ := bC h
 refine Zb Zc [] ?_
 simp only [push_cast, Nat.reduceAdd, Nat.reduceSub, Nat.reduceMul, Nat.reduceLeDiff, Nat.reduceLT, Nat.reduceEqDiff, ↓reduceIte, reduceCtorEq, Int.reduceBEq, Int.reduceBNe, Nat.reduceBEq, Int.reduceLE, Int.reduceLT, Int.reduceEq, Int.reduceNe, Int.reduceNeg, Nat.reduceDiv, Nat.reduceMod, Nat.reducePow, Za, ax6, bx6, cx6, ax7, bx7, cx7, hN0, hN]
 refine (Y9 hy8).then ?_
 simp only [push_cast, Nat.reduceAdd, Nat.reduceSub, Nat.reduceMul, Nat.reduceLeDiff, Nat.reduceLT, Nat.reduceEqDiff, ↓reduceIte, reduceCtorEq, Int.reduceBEq, Int.reduceBNe, Nat.reduceBEq, Int.reduceLE, Int.reduceLT, Int.reduceEq, Int.reduceNe, Int.reduceNeg, Nat.reduceDiv, Nat.reduceMod, Nat.reducePow, Za, ax6, bx6, cx6, ax7, bx7, cx7, hN0, hN]
 refine Zg [0, 1, 2, 6, 8] [true, true] ?_
 simp only [push_cast, seval, ↓reduceIte]
 refine Zh ?_
 refine Zr [0, 1, 2, 6, 8, 29] (Zb Zc [] ?_)
 simp only [push_cast, seval, ↓reduceIte, Za, hN0, hN]
 refine Zs (t := (y8.Kind == 0)) rfl (fun c46 => ?_) (fun c46 => ?_)
 ·replace h := Zw c46 h
  refine Zh ?_
  refine Zb Zc [] ?_
  simp only [push_cast, seval, ↓reduceIte, Za, hN0, hN]
  refine Zg [6, 7] [true, false] ?_
  simp only [push_cast, seval, ↓reduceIte]
  refine Zt ?_
  try simp only [Zi, Zf]
  have h := Option.some.inj h; subst h
  refine Zl (.inr rfl) hU [.agg [.val (.int .i64 0), .val (.int .i64 0), .val (.int .i64 0), .val (.int .i64 0), .val (.int .i64 0), .val (.int .i64 0), .val (.int .i64 0), .val (.bool false), .val (.int .i64 0), .val (.int .i64 0)], .val (.int .i64 0)] (by omega) ?_
  simp only [push_cast, seval, ↓reduceIte, Za, Try.results50, hN0, hN]
 replace h := Zv c46 h
 refine Zz ?_
 try simp only [Zi, Zf]
 refine Zg [0, 1, 2, 6, 8] [true, true] ?_
 simp only [push_cast, seval, ↓reduceIte]
 refine Zh ?_
 refine Zr [0, 1, 2, 6, 8, 37] (Zb Zc [none, none] ?_)
 simp only [push_cast, seval, ↓reduceIte, Za, hN0, hN]
 repeat (with_reducible refine And.intro (by first | (intro h0; simp only [h0, and_self]; done) | (intro h0; simp only [h0, Bool.not_false, Bool.not_true, Bool.true_and, Bool.and_true, true_and, and_true, and_self, imp_self, implies_true, bne_iff_ne, ne_eq, beq_iff_eq]; done) | (intros; simp_all; done) | exact True.intro) ?_)
 refine Zs (t := (cond (y8.Kind == 3) y8.Double false)) rfl (fun c45 => ?_) (fun c45 => ?_)
 ·replace h := Zw c45 h
  refine Zh ?_
  obtain ⟨z11, hz11, h⟩ := bC h
  refine Jk (E' := ⟨147, [], [(0, .sl a0.length (fl (eL (eI .u64)) a0)), (6, .ref n 0), (8, .ref (n + 1) 0), (54, .val (.bool z11))]⟩) (O' := (Z5 O n [some ⟨false, 91, 10, 1, [.val (.int .i64 0), .val (.int .i64 0), .val (.int .i64 0), .val (.int .i64 0), .val (.int .i64 0), .val (.int .i64 0), .val (.int .i64 0), .val (.bool false), .val (.int .i64 0), .val (.int .i64 0)]⟩, some ⟨false, 89, 8, 1, (Yf y8)⟩])) (n0 := (n + 2)) ?_ ?_
  ·obtain ⟨y14, hy14, hz11⟩ := bC hz11
   rcases Bool.eq_false_or_eq_true y14 with c16 | c16
   ·replace hz11 := Zw c16 hz11
    obtain ⟨y15, hy15, hz11⟩ := bC hz11
    refine Zb Zc [some true, some true, some true, some true, some true, some true, some true, some true] ?_
    simp only [push_cast, seval, ↓reduceIte, Za, c16, hN0, hN]
    refine (Ju hy14).then ?_
    simp only [push_cast, seval, ↓reduceIte, Za, c16, hN0, hN]
    refine (Ju hy15).then ?_
    simp only [push_cast, seval, ↓reduceIte, Za, c16, hN0, hN]
    have hz11 := Option.some.inj hz11; subst hz11
    refine And.intro rfl (Fit2.of (Zx hU rfl rfl ?_) (by omega))
    simp only [push_cast, seval, ↓reduceIte, Za, c16, hN0, hN]
   replace hz11 := Zv c16 hz11
   refine Zb Zc [some false, some false, some false, some false, some false, some false, some false, some false] ?_
   simp only [push_cast, seval, ↓reduceIte, Za, c16, hN0, hN]
   refine (Ju hy14).then ?_
   simp only [push_cast, seval, ↓reduceIte, Za, c16, hN0, hN]
   have hz11 := Option.some.inj hz11; subst hz11
   refine And.intro rfl (Fit2.of (Zx hU rfl rfl ?_) (by omega))
   simp only [push_cast, seval, ↓reduceIte, Za, c16, hN0, hN]
  refine Zs (t := z11) rfl (fun c31 => ?_) (fun c31 => ?_)
  ·replace h := Zw c31 h
   refine Zh ?_
   refine Zb Zc [] ?_
   simp only [push_cast, seval, ↓reduceIte, Za, hN0, hN]
   refine Zg [6, 7] [true, false] ?_
   simp only [push_cast, seval, ↓reduceIte]
   refine Zt ?_
   try simp only [Zi, Zf]
   have h := Option.some.inj h; subst h
   refine Zl (.inr rfl) hU [.agg [.val (.int .i64 0), .val (.int .i64 0), .val (.int .i64 0), .val (.int .i64 0), .val (.int .i64 0), .val (.int .i64 0), .val (.int .i64 0), .val (.bool false), .val (.int .i64 0), .val (.int .i64 0)], .val (.int .i64 7)] (by omega) ?_
   simp only [push_cast, seval, ↓reduceIte, Za, Try.results50, hN0, hN]
  replace h := Zv c31 h
  refine Zz ?_
  try simp only [Zi, Zf]
  refine Zg [0, 6, 8] [true, true] ?_
  simp only [push_cast, seval, ↓reduceIte]
  obtain ⟨x17, hx17, ax17, bx17, cx17, h⟩ := bE (f := (eL (eI .u64))) U0 (fun _ => rfl) (by decide) h
  obtain ⟨x18, hx18, ax18, bx18, cx18, h⟩ := bE (f := (eI .u64)) Zag (fun _ => rfl) (by decide) h
  obtain ⟨y19, hy19, h⟩ := bC h
  obtain ⟨x21, hx21, ax21, bx21, cx21, h⟩ := bE (f := (eI .u64)) Zag (fun _ => rfl) (by decide) h
  obtain ⟨y22, hy22, h⟩ := bC h
  refine Jk (E' := ⟨147, [], [(0, .sl a0.length (fl (eL (eI .u64)) a0)), (6, .ref n 0), (9, .ref (n + 2) 0), (10, .ref (n + 3) 0)]⟩) (O' := (Z5 O n [some ⟨false, 91, 10, 1, [.val (.int .i64 0), .val (.int .i64 0), .val (.int .i64 0), .val (.int .i64 0), .val (.int .i64 0), .val (.int .i64 0), .val (.int .i64 0), .val (.bool false), .val (.int .i64 0), .val (.int .i64 0)]⟩, none, some ⟨false, 89, 8, 1, (Yf y19)⟩, some ⟨false, 89, 8, 1, (Yf y22)⟩])) (n0 := (n + 4)) ?_ ?_
  ·refine Zsg Zc (by kernel_rfl) [.low, .low, .low, .low, .low, .low, .low, .low, .low, .low, .low, .low, .low, .low, .low, .low, .low, .low, .low, .low, .low, .pass, .pass, .pass, .pass] (fun i => i < (n + 2)) 21 22 [0, 1, 2, 3, 4, 5, 6, 7, 8, 9, 10, 11, 12, 13, 14, 15, 16, 17, 18, 19, 20] [23, 24] [.low, .low, .low, .low, .low, .low, .low, .low, .low, .low, .low, .low, .low, .low, .low, .low, .low, .low, .low, .low, .low] [.pass, .pass, .pass, .pass] [.pass, .pass, .pass, .pass] [] (by kernel_rfl) rfl rfl rfl ?_
   simp only [push_cast, Nat.reduceAdd, Nat.reduceSub, Nat.reduceMul, Nat.reduceLeDiff, Nat.reduceLT, Nat.reduceEqDiff, ↓reduceIte, reduceCtorEq, Int.reduceBEq, Int.reduceBNe, Nat.reduceBEq, Int.reduceLE, Int.reduceLT, Int.reduceEq, Int.reduceNe, Int.reduceNeg, Nat.reduceDiv, Nat.reduceMod, Nat.reducePow, Za, ax17, bx17, cx17, ax18, bx18, cx18, ax21, bx21, cx21, hN0, hN]
   repeat (with_reducible refine And.intro (by omega) ?_)
   first | refine PCallA.of (fun _ _ => Y9 hy19) ?_ | refine PCall.of (Y9 hy19) ?_
   simp only [push_cast, Nat.reduceAdd, Nat.reduceSub, Nat.reduceMul, Nat.reduceLeDiff, Nat.reduceLT, Nat.reduceEqDiff, ↓reduceIte, reduceCtorEq, Int.reduceBEq, Int.reduceBNe, Nat.reduceBEq, Int.reduceLE, Int.reduceLT, Int.reduceEq, Int.reduceNe, Int.reduceNeg, Nat.reduceDiv, Nat.reduceMod, Nat.reducePow, Za, ax17, bx17, cx17, ax18, bx18, cx18, ax21, bx21, cx21, hN0, hN]
   repeat (with_reducible refine And.intro (by omega) ?_)
   first | refine PCallA.of (fun _ _ => Y9 hy22) ?_ | refine PCall.of (Y9 hy22) ?_
   simp only [push_cast, Nat.reduceAdd, Nat.reduceSub, Nat.reduceMul, Nat.reduceLeDiff, Nat.reduceLT, Nat.reduceEqDiff, ↓reduceIte, reduceCtorEq, Int.reduceBEq, Int.reduceBNe, Nat.reduceBEq, Int.reduceLE, Int.reduceLT, Int.reduceEq, Int.reduceNe, Int.reduceNeg, Nat.reduceDiv, Nat.reduceMod, Nat.reducePow, Za, ax17, bx17, cx17, ax18, bx18, cx18, ax21, bx21, cx21, hN0, hN]
   repeat (with_reducible refine And.intro (by omega) ?_)
   refine And.intro ?_ ?_
   ·simp only [push_cast, Nat.reduceAdd, Nat.reduceSub, Nat.reduceMul, Nat.reduceLeDiff, Nat.reduceLT, Nat.reduceEqDiff, ↓reduceIte, reduceCtorEq, Int.reduceBEq, Int.reduceBNe, Nat.reduceBEq, Int.reduceLE, Int.reduceLT, Int.reduceEq, Int.reduceNe, Int.reduceNeg, Nat.reduceDiv, Nat.reduceMod, Nat.reducePow, Za, ax17, bx17, cx17, ax18, bx18, cx18, ax21, bx21, cx21, hN0, hN]
    repeat (with_reducible refine And.intro (by first | exact Jm rfl | exact Qq) ?_)
    refine And.intro rfl (Fit2.of (Zx hU rfl rfl ?_) (by omega))
    simp only [push_cast, Nat.reduceAdd, Nat.reduceSub, Nat.reduceMul, Nat.reduceLeDiff, Nat.reduceLT, Nat.reduceEqDiff, ↓reduceIte, reduceCtorEq, Int.reduceBEq, Int.reduceBNe, Nat.reduceBEq, Int.reduceLE, Int.reduceLT, Int.reduceEq, Int.reduceNe, Int.reduceNeg, Nat.reduceDiv, Nat.reduceMod, Nat.reducePow, Za, ax17, bx17, cx17, ax18, bx18, cx18, ax21, bx21, cx21, hN0, hN]
   simp only [push_cast, Nat.reduceAdd, Nat.reduceSub, Nat.reduceMul, Nat.reduceLeDiff, Nat.reduceLT, Nat.reduceEqDiff, ↓reduceIte, reduceCtorEq, Int.reduceBEq, Int.reduceBNe, Nat.reduceBEq, Int.reduceLE, Int.reduceLT, Int.reduceEq, Int.reduceNe, Int.reduceNeg, Nat.reduceDiv, Nat.reduceMod, Nat.reducePow, Za, ax17, bx17, cx17, ax18, bx18, cx18, ax21, bx21, cx21, hN0, hN]
   repeat (with_reducible refine And.intro (by first | exact Jm rfl | exact Qq) ?_)
   refine And.intro rfl ?_
   refine Fit2.trans (E' := (⟨147, [], [(0, .sl a0.length (fl (eL (eI .u64)) a0)), (6, .ref n 0), (9, .ref (n + 3) 0), (10, .ref (n + 2) 0)]⟩ : Env)) (O' := (Z5 O n [some ⟨false, 91, 10, 1, [.val (.int .i64 0), .val (.int .i64 0), .val (.int .i64 0), .val (.int .i64 0), .val (.int .i64 0), .val (.int .i64 0), .val (.int .i64 0), .val (.bool false), .val (.int .i64 0), .val (.int .i64 0)]⟩, none, some ⟨false, 89, 8, 1, (Yf y22)⟩, some ⟨false, 89, 8, 1, (Yf y19)⟩])) (n' := (n + 4)) (Fit2.of (Zx hU rfl rfl ?_) (by omega)) ?_
   ·simp only [push_cast, Nat.reduceAdd, Nat.reduceSub, Nat.reduceMul, Nat.reduceLeDiff, Nat.reduceLT, Nat.reduceEqDiff, ↓reduceIte, reduceCtorEq, Int.reduceBEq, Int.reduceBNe, Nat.reduceBEq, Int.reduceLE, Int.reduceLT, Int.reduceEq, Int.reduceNe, Int.reduceNeg, Nat.reduceDiv, Nat.reduceMod, Nat.reducePow, Za, ax17, bx17, cx17, ax18, bx18, cx18, ax21, bx21, cx21, hN0, hN]
   refine Zk4 (k := 4) (k' := 4) hU [0, 1, 3, 2] [0, 1, 3, 2] rfl rfl rfl rfl ⟨rfl, rfl⟩ ?_
   simp only [push_cast, seval, ↓reduceIte, Za, hN0, hN]
  refine Zh ?_
  refine Zr [0, 6, 9, 10, 83] (Zb Zc [none, none] ?_)
  simp only [push_cast, seval, ↓reduceIte, Za, hN0, hN]
  repeat (with_reducible refine And.intro (by first | (intro h0; simp only [h0, and_self]; done) | (intro h0; simp only [h0, Bool.not_false, Bool.not_true, Bool.true_and, Bool.and_true, true_and, and_true, and_self, imp_self, implies_true, bne_iff_ne, ne_eq, beq_iff_eq]; done) | (intros; simp_all; done) | exact True.intro) ?_)
  refine Zs (t := (cond (y19.Kind != 3) true y19.Double)) rfl (fun c30 => ?_) (fun c30 => ?_)
  ·replace h := Zw c30 h
   refine Zh ?_
   refine Zb Zc [] ?_
   simp only [push_cast, seval, ↓reduceIte, Za, hN0, hN]
   refine Zg [6, 7] [true, false, false, false] ?_
   simp only [push_cast, seval, ↓reduceIte]
   refine Zt ?_
   try simp only [Zi, Zf]
   have h := Option.some.inj h; subst h
   refine Zl (.inr rfl) hU [.agg [.val (.int .i64 0), .val (.int .i64 0), .val (.int .i64 0), .val (.int .i64 0), .val (.int .i64 0), .val (.int .i64 0), .val (.int .i64 0), .val (.bool false), .val (.int .i64 0), .val (.int .i64 0)], .val (.int .i64 8)] (by omega) ?_
   simp only [push_cast, seval, ↓reduceIte, Za, Try.results50, hN0, hN]
  replace h := Zv c30 h
  refine Zz ?_
  try simp only [Zi, Zf]
  refine Zg [0, 6, 9, 10] [true, false, true, true] ?_
  simp only [push_cast, seval, ↓reduceIte]
  refine Zh ?_
  obtain ⟨y24, hy24, h⟩ := bC h
  refine Zb Zc [] ?_
  simp only [push_cast, seval, ↓reduceIte, Za, hN0, hN]
  refine (Zao hy24).then ?_
  simp only [push_cast, seval, ↓reduceIte, Za, hN0, hN]
  refine Zg [0, 6, 9, 10, 11] [true, false, true, true] ?_
  simp only [push_cast, seval, ↓reduceIte]
  obtain ⟨z25, hz25, h⟩ := bC h
  refine Jk (E' := ⟨147, [], [(0, .sl a0.length (fl (eL (eI .u64)) a0)), (6, .ref n 0), (9, .ref (n + 2) 0), (10, .ref (n + 3) 0), (11, .val (.int .i64 z25))]⟩) (O' := (Z5 O n [some ⟨false, 91, 10, 1, [.val (.int .i64 0), .val (.int .i64 0), .val (.int .i64 0), .val (.int .i64 0), .val (.int .i64 0), .val (.int .i64 0), .val (.int .i64 0), .val (.bool false), .val (.int .i64 0), .val (.int .i64 0)]⟩, none, some ⟨false, 89, 8, 1, (Yf y19)⟩, some ⟨false, 89, 8, 1, (Yf y22)⟩])) (n0 := (n + 4)) ?_ ?_
  ·refine Zr [0, 6, 9, 10, 11, 93] (Zb Zc [none, none, none] ?_)
   simp only [push_cast, seval, ↓reduceIte, Za, hN0, hN]
   repeat (with_reducible refine And.intro (by first | (intro h0; simp only [h0, and_self]; done) | (intro h0; simp only [h0, Bool.not_false, Bool.not_true, Bool.true_and, Bool.and_true, true_and, and_true, and_self, imp_self, implies_true, bne_iff_ne, ne_eq, beq_iff_eq]; done) | (intros; simp_all; done) | exact True.intro) ?_)
   refine Zs (t := (cond (y24 == 0) (y22.Off != 0) false)) rfl (fun c26 => ?_) (fun c26 => ?_)
   ·replace hz25 := Zw c26 hz25
    refine Zb Zc [] ?_
    simp only [push_cast, seval, ↓reduceIte, Za, hN0, hN]
    have hz25 := Option.some.inj hz25; subst hz25
    refine And.intro rfl (Fit2.of (Zx hU rfl rfl ?_) (by omega))
    simp only [push_cast, seval, ↓reduceIte, Za, hN0, hN]
   replace hz25 := Zv c26 hz25
   refine Zz ?_
   try simp only [Zi, Zf]
   have hz25 := Option.some.inj hz25; subst hz25
   refine And.intro rfl (Fit2.of (Zx hU rfl rfl ?_) (by omega))
   simp only [push_cast, seval, ↓reduceIte, Za, hN0, hN]
  refine Zh ?_
  refine Zr [0, 6, 9, 10, 11, 95] (Zb Zc [] ?_)
  simp only [push_cast, seval, ↓reduceIte, Za, hN0, hN]
  refine Zs (t := (z25 != 0)) rfl (fun c29 => ?_) (fun c29 => ?_)
  ·replace h := Zw c29 h
   refine Zh ?_
   refine Zb Zc [] ?_
   simp only [push_cast, seval, ↓reduceIte, Za, hN0, hN]
   refine Zg [6, 7] [true, false, false, false] ?_
   simp only [push_cast, seval, ↓reduceIte]
   refine Zt ?_
   try simp only [Zi, Zf]
   have h := Option.some.inj h; subst h
   refine Zl (.inr rfl) hU [.agg [.val (.int .i64 0), .val (.int .i64 0), .val (.int .i64 0), .val (.int .i64 0), .val (.int .i64 0), .val (.int .i64 0), .val (.int .i64 0), .val (.bool false), .val (.int .i64 0), .val (.int .i64 0)], .val (.int .i64 z25)] (by omega) ?_
   simp only [push_cast, seval, ↓reduceIte, Za, Try.results50, hN0, hN]
  replace h := Zv c29 h
  refine Zz ?_
  try simp only [Zi, Zf]
  refine Zg [0, 6, 9, 10] [true, false, true, true] ?_
  simp only [push_cast, seval, ↓reduceIte]
  refine Zh ?_
  obtain ⟨y28, hy28, h⟩ := bC h
  refine Zb Zc [] ?_
  simp only [push_cast, seval, ↓reduceIte, Za, hN0, hN]
  refine (Zap hy28).then ?_
  simp only [push_cast, seval, ↓reduceIte, Za, hN0, hN]
  refine Zg [6, 7] [true, false, false, false] ?_
  simp only [push_cast, seval, ↓reduceIte]
  refine Zt ?_
  try simp only [Zi, Zf]
  have h := Option.some.inj h; subst h
  refine Zl (.inr rfl) hU [.agg [.val (.int .i64 y28.1.P.Kind), .val (.int .i64 y28.1.P.Off), .val (.int .i64 y28.1.P.Data), .val (.int .i64 y28.1.P.Ptrs), .val (.int .i64 y28.1.P.Code), .val (.int .i64 y28.1.P.Count), .val (.int .i64 y28.1.P.Segment), .val (.bool y28.1.P.Double), .val (.int .i64 y28.1.Segment), .val (.int .i64 y28.1.At)], .val (.int .i64 y28.2)] (by omega) ?_
  simp only [push_cast, seval, ↓reduceIte, Za, Try.results50, hN0, hN]
 replace h := Zv c45 h
 refine Zz ?_
 try simp only [Zi, Zf]
 refine Zg [0, 1, 2, 6, 8] [true, true] ?_
 simp only [push_cast, seval, ↓reduceIte]
 obtain ⟨z32, hz32, h⟩ := bC h
 refine Zvx (J := (Zb6 (fun z32 => JN n (⟨147, [], [(0, .sl a0.length (fl (eL (eI .u64)) a0)), (1, .val (.int .i64 z32.1)), (2, .val (.int .i64 z32.2.1)), (6, .ref n 0), (8, .ref (n + 1) 0)]⟩ : Env) (Z5 O n [some ⟨false, 91, 10, 1, [.val (.int .i64 0), .val (.int .i64 0), .val (.int .i64 0), .val (.int .i64 0), .val (.int .i64 0), .val (.int .i64 0), .val (.int .i64 0), .val (.bool false), .val (.int .i64 0), .val (.int .i64 0)]⟩, some ⟨false, 89, 8, 1, [.val (.int .i64 z32.2.2.1), .val (.int .i64 z32.2.2.2.1), .val (.int .i64 z32.2.2.2.2.1), .val (.int .i64 z32.2.2.2.2.2.1), .val (.int .i64 z32.2.2.2.2.2.2.1), .val (.int .i64 z32.2.2.2.2.2.2.2.1), .val (.int .i64 z32.2.2.2.2.2.2.2.2.1), .val (.bool z32.2.2.2.2.2.2.2.2.2)]⟩]) (n + 2)) (fun z32 => JR n (⟨147, [], [(6, .ref n 0), (7, .val (.int .i64 7))]⟩ : Env) (Z5 O n [some ⟨false, 91, 10, 1, [.val (.int .i64 0), .val (.int .i64 0), .val (.int .i64 0), .val (.int .i64 0), .val (.int .i64 0), .val (.int .i64 0), .val (.int .i64 0), .val (.bool false), .val (.int .i64 0), .val (.int .i64 0)]⟩, none]) (n + 2)))) (z := z32) ?_ fun hw => ?_
 ·refine Zr [0, 1, 2, 6, 8, 110] (Zb Zc [] ?_)
  simp only [push_cast, seval, ↓reduceIte, Za, hN0, hN]
  refine Zs (t := (y8.Kind == 3)) rfl (fun c39 => ?_) (fun c39 => ?_)
  ·replace hz32 := Zw c39 hz32
   refine Zr [0, 1, 6, 8] (Zb Zc [] ?_)
   simp only [push_cast, seval, ↓reduceIte, Za, hN0, hN]
   refine Zr [0, 1, 2, 6, 8] (Zb Zc [] ?_)
   simp only [push_cast, seval, ↓reduceIte, Za, hN0, hN]
   refine Zh ?_
   refine Zh ?_
   obtain ⟨y34, hy34, hz32⟩ := bC hz32
   refine Zb Zc [] ?_
   simp only [push_cast, seval, ↓reduceIte, Za, hN0, hN]
   refine (Ju hy34).then ?_
   simp only [push_cast, seval, ↓reduceIte, Za, hN0, hN]
   refine Zg [0, 1, 2, 6, 8, 119] [true, true] ?_
   simp only [push_cast, seval, ↓reduceIte]
   refine Zs (t := (!y34)) rfl (fun c38 => ?_) (fun c38 => ?_)
   ·replace hz32 := Zw c38 hz32
    refine Zh ?_
    refine Zb Zc [] ?_
    simp only [push_cast, seval, ↓reduceIte, Za, hN0, hN]
    refine Zg [6, 7] [true, false] ?_
    simp only [push_cast, seval, ↓reduceIte]
    refine Zt ?_
    try simp only [Zi, Zf]
    have hz32 := Option.some.inj hz32; subst hz32
    refine And.intro rfl (Fit2.of (Zx hU rfl rfl ?_) (by omega))
    simp only [push_cast, seval, ↓reduceIte, Za, hN0, hN]
   replace hz32 := Zv c38 hz32
   refine Zz ?_
   try simp only [Zi, Zf]
   refine Zg [0, 1, 2, 6, 8] [true, true] ?_
   simp only [push_cast, seval, ↓reduceIte]
   obtain ⟨x35, hx35, ax35, bx35, cx35, hz32⟩ := bE (f := (eL (eI .u64))) U0 (fun _ => rfl) (by decide) hz32
   obtain ⟨x36, hx36, ax36, bx36, cx36, hz32⟩ := bE (f := (eI .u64)) Zag (fun _ => rfl) (by decide) hz32
   obtain ⟨y37, hy37, hz32⟩ := bC hz32
   refine Zb Zc [] ?_
   simp only [push_cast, Nat.reduceAdd, Nat.reduceSub, Nat.reduceMul, Nat.reduceLeDiff, Nat.reduceLT, Nat.reduceEqDiff, ↓reduceIte, reduceCtorEq, Int.reduceBEq, Int.reduceBNe, Nat.reduceBEq, Int.reduceLE, Int.reduceLT, Int.reduceEq, Int.reduceNe, Int.reduceNeg, Nat.reduceDiv, Nat.reduceMod, Nat.reducePow, Za, ax35, bx35, cx35, ax36, bx36, cx36, hN0, hN]
   refine (Y9 hy37).then ?_
   simp only [push_cast, Nat.reduceAdd, Nat.reduceSub, Nat.reduceMul, Nat.reduceLeDiff, Nat.reduceLT, Nat.reduceEqDiff, ↓reduceIte, reduceCtorEq, Int.reduceBEq, Int.reduceBNe, Nat.reduceBEq, Int.reduceLE, Int.reduceLT, Int.reduceEq, Int.reduceNe, Int.reduceNeg, Nat.reduceDiv, Nat.reduceMod, Nat.reducePow, Za, ax35, bx35, cx35, ax36, bx36, cx36, hN0, hN]
   have hz32 := Option.some.inj hz32; subst hz32
   refine And.intro rfl (Fit2.of (Zx hU rfl rfl ?_) (by omega))
   simp only [push_cast, Nat.reduceAdd, Nat.reduceSub, Nat.reduceMul, Nat.reduceLeDiff, Nat.reduceLT, Nat.reduceEqDiff, ↓reduceIte, reduceCtorEq, Int.reduceBEq, Int.reduceBNe, Nat.reduceBEq, Int.reduceLE, Int.reduceLT, Int.reduceEq, Int.reduceNe, Int.reduceNeg, Nat.reduceDiv, Nat.reduceMod, Nat.reducePow, Za, ax35, bx35, cx35, ax36, bx36, cx36, hN0, hN]
  replace hz32 := Zv c39 hz32
  refine Zz ?_
  try simp only [Zi, Zf]
  have hz32 := Option.some.inj hz32; subst hz32
  refine And.intro rfl (Fit2.of (Zx hU rfl rfl ?_) (by omega))
  simp only [push_cast, seval, ↓reduceIte, Za, hN0, hN]
 rcases z32 with z32 | z32
 ·dsimp only [Zb6] at hw h
  refine Jk hw ?_
  refine Zh ?_
  obtain ⟨y41, hy41, h⟩ := bC h
  refine Zb Zc [] ?_
  simp only [push_cast, seval, ↓reduceIte, Za, hN0, hN]
  refine (Zao hy41).then ?_
  simp only [push_cast, seval, ↓reduceIte, Za, hN0, hN]
  refine Zg [0, 1, 2, 6, 8, 12] [true, true] ?_
  simp only [push_cast, seval, ↓reduceIte]
  refine Zh ?_
  refine Zr [0, 1, 2, 6, 8, 12, 132] (Zb Zc [] ?_)
  simp only [push_cast, seval, ↓reduceIte, Za, hN0, hN]
  refine Zs (t := (y41 != 0)) rfl (fun c44 => ?_) (fun c44 => ?_)
  ·replace h := Zw c44 h
   refine Zh ?_
   refine Zb Zc [] ?_
   simp only [push_cast, seval, ↓reduceIte, Za, hN0, hN]
   refine Zg [6, 7] [true, false] ?_
   simp only [push_cast, seval, ↓reduceIte]
   refine Zt ?_
   try simp only [Zi, Zf]
   have h := Option.some.inj h; subst h
   refine Zl (.inr rfl) hU [.agg [.val (.int .i64 0), .val (.int .i64 0), .val (.int .i64 0), .val (.int .i64 0), .val (.int .i64 0), .val (.int .i64 0), .val (.int .i64 0), .val (.bool false), .val (.int .i64 0), .val (.int .i64 0)], .val (.int .i64 y41)] (by omega) ?_
   simp only [push_cast, seval, ↓reduceIte, Za, Try.results50, hN0, hN]
  replace h := Zv c44 h
  refine Zz ?_
  try simp only [Zi, Zf]
  refine Zg [0, 1, 2, 6, 8] [true, true] ?_
  simp only [push_cast, seval, ↓reduceIte]
  refine Zh ?_
  obtain ⟨y43, hy43, h⟩ := bC h
  refine Zb Zc [] ?_
  simp only [push_cast, seval, ↓reduceIte, Za, hN0, hN]
  refine (Zap hy43).then ?_
  simp only [push_cast, seval, ↓reduceIte, Za, hN0, hN]
  refine Zg [6, 7] [true, false] ?_
  simp only [push_cast, seval, ↓reduceIte]
  refine Zt ?_
  try simp only [Zi, Zf]
  have h := Option.some.inj h; subst h
  refine Zl (.inr rfl) hU [.agg [.val (.int .i64 y43.1.P.Kind), .val (.int .i64 y43.1.P.Off), .val (.int .i64 y43.1.P.Data), .val (.int .i64 y43.1.P.Ptrs), .val (.int .i64 y43.1.P.Code), .val (.int .i64 y43.1.P.Count), .val (.int .i64 y43.1.P.Segment), .val (.bool y43.1.P.Double), .val (.int .i64 y43.1.Segment), .val (.int .i64 y43.1.At)], .val (.int .i64 y43.2)] (by omega) ?_
  simp only [push_cast, seval, ↓reduceIte, Za, Try.results50, hN0, hN]
 dsimp only [Zb6] at hw h
 refine Ztu hw ?_
 try simp only [Zi, Zf]
 have h := Option.some.inj h; subst h
 refine Zl (.inr rfl) hU [.agg [.val (.int .i64 0), .val (.int .i64 0), .val (.int .i64 0), .val (.int .i64 0), .val (.int .i64 0), .val (.int .i64 0), .val (.int .i64 0), .val (.bool false), .val (.int .i64 0), .val (.int .i64 0)], .val (.int .i64 7)] (by omega) ?_
 simp only [push_cast, seval, ↓reduceIte, Za, Try.results50, hN0, hN]
theorem U5 {a0 : (List (List Int))} {a1 : Int} {a2 : Int} {r : (Zm × Int)} {O : Objs} {n : Nat} (h : Qr a0 a1 a2 = some r) : GTo Try.prog 17 [.sl a0.length (fl (eL (eI .u64)) a0), .val (.int .i64 a1), .val (.int .i64 a2)] O n (.tup [.agg (Zn r.1), .val (.int .i64 r.2)]) O n := by
 unfold Qr at h
 refine Yp Zc Try.call17 Try.func17 rfl (Nat.le_of_ble_eq_true rfl) (Nat.le_refl _) fun hU => ?_
 have hN0 : O n = none := hU.fresh _ (Nat.le_refl _)
 have hN : ∀ k, O (n + k) = none := fun k => hU.fresh _ (Nat.le_add_right _ _)
 show W _ _ _ _ ⟨110, [], [(0, .sl a0.length (fl (eL (eI .u64)) a0)), (1, .val (.int .i64 a1)), (2, .val (.int .i64 a2))]⟩ (Z5 O n []) _
 refine Zr [0, 1, 2, 6] (Zb Zc [] ?_)
 simp only [push_cast, seval, ↓reduceIte, Za, hN0, hN]
 refine Zh ?_
 obtain ⟨y2, hy2, h⟩ := bC h
 refine Zb Zc [] ?_
 simp only [push_cast, seval, ↓reduceIte, Za, hN0, hN]
 refine (Ze4 hy2).then ?_
 simp only [push_cast, seval, ↓reduceIte, Za, hN0, hN]
 refine Zg [0, 6, 8, 9] [true, true] ?_
 simp only [push_cast, seval, ↓reduceIte]
 refine Zh ?_
 refine Zr [0, 6, 8, 9, 26] (Zb Zc [none, none, none, none] ?_)
 simp only [push_cast, seval, ↓reduceIte, Za, hN0, hN]
 repeat (with_reducible refine And.intro (by first | (intro h0; simp only [h0, and_self]; done) | (intro h0; simp only [h0, Bool.not_false, Bool.not_true, Bool.true_and, Bool.and_true, true_and, and_true, and_self, imp_self, implies_true, bne_iff_ne, ne_eq, beq_iff_eq]; done) | (intros; simp_all; done) | exact True.intro) ?_)
 refine Zs (t := (cond (y2.2 != 0) true (y2.1.P.Kind == 0))) rfl (fun c12 => ?_) (fun c12 => ?_)
 ·replace h := Zw c12 h
  refine Zh ?_
  refine Zb Zc [] ?_
  simp only [push_cast, seval, ↓reduceIte, Za, hN0, hN]
  refine Zg [6, 7] [true, false] ?_
  simp only [push_cast, seval, ↓reduceIte]
  refine Zt ?_
  try simp only [Zi, Zf]
  have h := Option.some.inj h; subst h
  refine Zl (.inr rfl) hU [.agg [.val (.int .i64 0), .val (.int .i64 0), .val (.int .i64 0), .val (.int .i64 0), .val (.int .i64 0), .val (.int .i64 0), .val (.int .u64 0)], .val (.int .i64 y2.2)] (by omega) ?_
  simp only [push_cast, seval, ↓reduceIte, Za, Try.results17, hN0, hN]
 replace h := Zv c12 h
 refine Zz ?_
 try simp only [Zi, Zf]
 refine Zg [0, 6, 8] [true, true] ?_
 simp only [push_cast, seval, ↓reduceIte]
 refine Zh ?_
 refine Zr [0, 6, 8, 32] (Zb Zc [] ?_)
 simp only [push_cast, seval, ↓reduceIte, Za, hN0, hN]
 refine Zs (t := (y2.1.P.Kind == 1)) rfl (fun c11 => ?_) (fun c11 => ?_)
 ·replace h := Zw c11 h
  refine Zh ?_
  refine Zb Zc [] ?_
  simp only [push_cast, seval, ↓reduceIte, Za, hN0, hN]
  refine Zg [6, 7] [true, false] ?_
  simp only [push_cast, seval, ↓reduceIte]
  refine Zt ?_
  try simp only [Zi, Zf]
  have h := Option.some.inj h; subst h
  refine Zl (.inr rfl) hU [.agg [.val (.int .i64 1), .val (.int .i64 y2.1.Segment), .val (.int .i64 y2.1.At), .val (.int .i64 y2.1.P.Data), .val (.int .i64 y2.1.P.Ptrs), .val (.int .i64 0), .val (.int .u64 0)], .val (.int .i64 0)] (by omega) ?_
  simp only [push_cast, seval, ↓reduceIte, Za, Try.results17, hN0, hN]
 replace h := Zv c11 h
 refine Zz ?_
 try simp only [Zi, Zf]
 refine Zg [0, 6, 8] [true, true] ?_
 simp only [push_cast, seval, ↓reduceIte]
 refine Zh ?_
 refine Zr [0, 6, 8, 47] (Zb Zc [] ?_)
 simp only [push_cast, seval, ↓reduceIte, Za, hN0, hN]
 refine Zs (t := (decide (y2.1.P.Code < 7))) rfl (fun c10 => ?_) (fun c10 => ?_)
 ·replace h := Zw c10 h
  refine Zh ?_
  refine Zb Zc [] ?_
  simp only [push_cast, seval, ↓reduceIte, Za, hN0, hN]
  refine Zg [6, 7] [true, false] ?_
  simp only [push_cast, seval, ↓reduceIte]
  refine Zt ?_
  try simp only [Zi, Zf]
  have h := Option.some.inj h; subst h
  refine Zl (.inr rfl) hU [.agg [.val (.int .i64 (IntKind.i64.wrap (2 + y2.1.P.Code))), .val (.int .i64 y2.1.Segment), .val (.int .i64 y2.1.At), .val (.int .i64 0), .val (.int .i64 0), .val (.int .i64 y2.1.P.Count), .val (.int .u64 0)], .val (.int .i64 0)] (by omega) ?_
  simp only [push_cast, seval, ↓reduceIte, Za, Try.results17, hN0, hN]
 replace h := Zv c10 h
 refine Zz ?_
 try simp only [Zi, Zf]
 refine Zg [0, 6, 8] [true, true] ?_
 simp only [push_cast, seval, ↓reduceIte]
 obtain ⟨x5, hx5, ax5, bx5, cx5, h⟩ := bE (f := (eL (eI .u64))) U0 (fun _ => rfl) (by decide) h
 obtain ⟨x6, hx6, ax6, bx6, cx6, h⟩ := bE (f := (eI .u64)) Zag (fun _ => rfl) (by decide) h
 refine Zr [6, 8, 10] (Vd Zc (by kernel_rfl) [] (by kernel_rfl) ?_)
 simp only [push_cast, Nat.reduceAdd, Nat.reduceSub, Nat.reduceMul, Nat.reduceLeDiff, Nat.reduceLT, Nat.reduceEqDiff, ↓reduceIte, reduceCtorEq, Int.reduceBEq, Int.reduceBNe, Nat.reduceBEq, Int.reduceLE, Int.reduceLT, Int.reduceEq, Int.reduceNe, Int.reduceNeg, Nat.reduceDiv, Nat.reduceMod, Nat.reducePow, Za, ax5, bx5, cx5, ax6, bx6, cx6, hN0, hN]
 refine Zh ?_
 obtain ⟨y8, hy8, h⟩ := bC h
 refine Zb Zc [] ?_
 simp only [push_cast, seval, ↓reduceIte, Za, hN0, hN]
 refine (Y9 hy8).then ?_
 simp only [push_cast, seval, ↓reduceIte, Za, hN0, hN]
 refine Zg [6, 8, 10, 11] [true, true, true] ?_
 simp only [push_cast, seval, ↓reduceIte]
 refine Zh ?_
 refine Zr [6, 8, 11, 96] (Zb Zc [none, none, none, none, none, none, none, none, none, none, none, none, none, none, none, none, none, none] ?_)
 simp only [push_cast, seval, ↓reduceIte, Za, hN0, hN]
 repeat (with_reducible refine And.intro (by first | (intro h0; simp only [h0, and_self]; done) | (intro h0; simp only [h0, Bool.not_false, Bool.not_true, Bool.true_and, Bool.and_true, true_and, and_true, and_self, imp_self, implies_true, bne_iff_ne, ne_eq, beq_iff_eq]; done) | (intros; simp_all; done) | exact True.intro) ?_)
 refine Zs (t := (cond (cond (cond (x6 != 0) (y8.Kind != 1) false) true (decide (y8.Off < 0))) true (decide (y2.1.P.Count < (IntKind.i64.wrap (y8.Off * (IntKind.i64.wrap (y8.Data + y8.Ptrs)))))))) rfl (fun c9 => ?_) (fun c9 => ?_)
 ·replace h := Zw c9 h
  refine Zh ?_
  refine Zb Zc [] ?_
  simp only [push_cast, seval, ↓reduceIte, Za, hN0, hN]
  refine Zg [6, 7] [true, false, false] ?_
  simp only [push_cast, seval, ↓reduceIte]
  refine Zt ?_
  try simp only [Zi, Zf]
  have h := Option.some.inj h; subst h
  refine Zl (.inr rfl) hU [.agg [.val (.int .i64 0), .val (.int .i64 0), .val (.int .i64 0), .val (.int .i64 0), .val (.int .i64 0), .val (.int .i64 0), .val (.int .u64 0)], .val (.int .i64 8)] (by omega) ?_
  simp only [push_cast, seval, ↓reduceIte, Za, Try.results17, hN0, hN]
 replace h := Zv c9 h
 refine Zz ?_
 try simp only [Zi, Zf]
 refine Zg [6, 8, 11] [true, true, true] ?_
 simp only [push_cast, seval, ↓reduceIte]
 refine Zh ?_
 refine Zb Zc [] ?_
 simp only [push_cast, seval, ↓reduceIte, Za, hN0, hN]
 refine Zg [6, 7] [true, false, false] ?_
 simp only [push_cast, seval, ↓reduceIte]
 refine Zt ?_
 try simp only [Zi, Zf]
 have h := Option.some.inj h; subst h
 refine Zl (.inr rfl) hU [.agg [.val (.int .i64 9), .val (.int .i64 y2.1.Segment), .val (.int .i64 (IntKind.i64.wrap (y2.1.At + 1))), .val (.int .i64 y8.Data), .val (.int .i64 y8.Ptrs), .val (.int .i64 y8.Off), .val (.int .u64 0)], .val (.int .i64 0)] (by omega) ?_
 simp only [push_cast, seval, ↓reduceIte, Za, Try.results17, hN0, hN]
theorem Xr {a0 : Zm} {a1 : (List (List Int))} {r : (List Int)} {O : Objs} {n : Nat} (h : Yy a0 a1 = some r) : GTo Try.prog 52 [.agg (Zn a0), .sl a1.length (fl (eL (eI .u64)) a1)] O n (.sl r.length (fl (eI .u64) r)) O n := by
 unfold Yy at h
 refine Yp Zc Try.call52 Try.func52 rfl (Nat.le_of_ble_eq_true rfl) (Nat.le_refl _) fun hU => ?_
 have hN0 : O n = none := hU.fresh _ (Nat.le_refl _)
 have hN : ∀ k, O (n + k) = none := fun k => hU.fresh _ (Nat.le_add_right _ _)
 show W _ _ _ _ ⟨30, [], [(0, .agg (Zn a0)), (1, .sl a1.length (fl (eL (eI .u64)) a1))]⟩ (Z5 O n []) _
 refine Zr [1, 2] (Zb Zc [] ?_)
 simp only [push_cast, seval, ↓reduceIte, Za, hN0, hN]
 refine Zh ?_
 refine Zr [1, 2, 8] (Zb Zc [] ?_)
 simp only [push_cast, seval, ↓reduceIte, Za, hN0, hN]
 refine Zs (t := (a0.Kind == 10)) rfl (fun c8 => ?_) (fun c8 => ?_)
 ·replace h := Zw c8 h
  refine Zh ?_
  refine Zb Zc [] ?_
  simp only [push_cast, seval, ↓reduceIte, Za, hN0, hN]
  refine Zo8 ⟨30, [], [(4, .row (n + 1) ([a0.N] : List Int).length)]⟩ (Z5 O n [none, some ⟨true, 31, 1, ([a0.N] : List Int).length, fl (eI .u64) ([a0.N] : List Int)⟩]) (Zx hU rfl rfl ?_) ?_
  ·simp only [push_cast, seval, ↓reduceIte, Za, hN0, hN]
  refine Zt ?_
  try simp only [Zi, Zf]
  have h := Option.some.inj h; subst h
  refine Zl (.inr rfl) hU [.row (n + 1) ([a0.N] : List Int).length] (by omega) ?_
  simp only [push_cast, seval, ↓reduceIte, Za, Try.results52, hN0, hN]
 replace h := Zv c8 h
 refine Zz ?_
 try simp only [Zi, Zf]
 refine Zg [1, 2] [true] ?_
 simp only [push_cast, seval, ↓reduceIte]
 refine Zh ?_
 refine Zr [1, 2, 14] (Zb Zc [] ?_)
 simp only [push_cast, seval, ↓reduceIte, Za, hN0, hN]
 refine Zs (t := (a0.Kind != 1)) rfl (fun c7 => ?_) (fun c7 => ?_)
 ·replace h := Zw c7 h
  refine Zr [4] (Zb Zc [] ?_)
  simp only [push_cast, seval, ↓reduceIte, Za, hN0, hN]
  refine Zt ?_
  try simp only [Zi, Zf]
  have h := Option.some.inj h; subst h
  refine Zl (.inr rfl) hU [.val (.slice none 0 0)] (by omega) ?_
  simp only [push_cast, seval, ↓reduceIte, Za, Try.results52, hN0, hN]
 replace h := Zv c7 h
 refine Zz ?_
 try simp only [Zi, Zf]
 refine Zg [1, 2] [true] ?_
 simp only [push_cast, seval, ↓reduceIte]
 refine Zr [1, 2, 5] (Zb Zc [] ?_)
 simp only [push_cast, seval, ↓reduceIte, Za, hN0, hN]
 refine Zh ?_
 obtain ⟨x4, hx4, ax4, bx4, cx4, h⟩ := bE (f := (eL (eI .u64))) U0 (fun _ => rfl) (by decide) h
 obtain ⟨l5, al5, bl5, cl5, gl5, h⟩ := bS (lo := (some (.i64, a0.At))) (hi := (some (.i64, (IntKind.i64.wrap (a0.At + a0.Data))))) (f := (eI .u64)) rfl rfl Zch Zag (fun _ => rfl) h
 obtain ⟨l6, pl6, ql6, el6, h⟩ := bA0 (k := l5.length) rfl h
 refine Zhd Zc (by kernel_rfl) [false, false, false, false, false, false, false, false, false, false, false, false, false, false, true, false] [] (by kernel_rfl) ?_
 simp only [push_cast, Nat.reduceAdd, Nat.reduceSub, Nat.reduceMul, Nat.reduceLeDiff, Nat.reduceLT, Nat.reduceEqDiff, ↓reduceIte, reduceCtorEq, Int.reduceBEq, Int.reduceBNe, Nat.reduceBEq, Int.reduceLE, Int.reduceLT, Int.reduceEq, Int.reduceNe, Int.reduceNeg, Nat.reduceDiv, Nat.reduceMod, Nat.reducePow, Za, ax4, bx4, cx4, al5, bl5, cl5, gl5, pl6, ql6, el6, hN0, hN]
 refine Zo8 ⟨30, [], [(4, .row (n + 1) l6.length)]⟩ (Z5 O n [none, some ⟨true, 31, 1, l6.length, fl (eI .u64) l6⟩]) (Zx hU rfl rfl ?_) ?_
 ·simp only [push_cast, Nat.reduceAdd, Nat.reduceSub, Nat.reduceMul, Nat.reduceLeDiff, Nat.reduceLT, Nat.reduceEqDiff, ↓reduceIte, reduceCtorEq, Int.reduceBEq, Int.reduceBNe, Nat.reduceBEq, Int.reduceLE, Int.reduceLT, Int.reduceEq, Int.reduceNe, Int.reduceNeg, Nat.reduceDiv, Nat.reduceMod, Nat.reducePow, Za, ax4, bx4, cx4, al5, bl5, cl5, gl5, pl6, ql6, el6, hN0, hN]
 refine Zt ?_
 try simp only [Zi, Zf]
 have h := Option.some.inj h; subst h
 refine Zl (.inr rfl) hU [.row (n + 1) l6.length] (by omega) ?_
 simp only [push_cast, seval, ↓reduceIte, Za, Try.results52, hN0, hN]
theorem Ky {a0 : Zm} {r : Int} {O : Objs} {n : Nat} (h : Y3 a0 = some r) : GTo Try.prog 19 [.agg (Zn a0)] O n (.val (.int .i64 r)) O n := by
 unfold Y3 at h
 refine Yp Zc Try.call19 Try.func19 rfl (Nat.le_of_ble_eq_true rfl) (Nat.le_refl _) fun hU => ?_
 have hN0 : O n = none := hU.fresh _ (Nat.le_refl _)
 have hN : ∀ k, O (n + k) = none := fun k => hU.fresh _ (Nat.le_add_right _ _)
 show W _ _ _ _ ⟨10, [], [(0, .agg (Zn a0))]⟩ (Z5 O n []) _
 refine Zr [1] (Zb Zc [] ?_)
 simp only [push_cast, seval, ↓reduceIte, Za, hN0, hN]
 refine Zh ?_
 refine Zr [1, 5] (Zb Zc [] ?_)
 simp only [push_cast, seval, ↓reduceIte, Za, hN0, hN]
 refine Zs (t := (a0.Kind == 1)) rfl (fun c1 => ?_) (fun c1 => ?_)
 ·replace h := Zw c1 h
  refine Zr [2] (Zb Zc [] ?_)
  simp only [push_cast, seval, ↓reduceIte, Za, hN0, hN]
  refine Zt ?_
  try simp only [Zi, Zf]
  have h := Option.some.inj h; subst h
  refine Zl (.inr rfl) hU [.val (.int .i64 a0.Ptrs)] (by omega) ?_
  simp only [push_cast, seval, ↓reduceIte, Za, Try.results19, hN0, hN]
 replace h := Zv c1 h
 refine Zz ?_
 try simp only [Zi, Zf]
 refine Zg [1] [true] ?_
 simp only [push_cast, seval, ↓reduceIte]
 refine Zr [2] (Zb Zc [] ?_)
 simp only [push_cast, seval, ↓reduceIte, Za, hN0, hN]
 refine Zt ?_
 try simp only [Zi, Zf]
 have h := Option.some.inj h; subst h
 refine Zl (.inr rfl) hU [.val (.int .i64 a0.Count)] (by omega) ?_
 simp only [push_cast, seval, ↓reduceIte, Za, Try.results19, hN0, hN]
theorem Zgt {a0 : Zd} {r : (Int × Int)} {O : Objs} {n : Nat} (h : Kw a0 = some r) : GTo Try.prog 54 [.agg (Zq a0)] O n (.tup [.val (.int .i64 r.1), .val (.int .i64 r.2)]) O n := by
 unfold Kw at h
 refine Yp Zc Try.call54 Try.func54 rfl (Nat.le_of_ble_eq_true rfl) (Nat.le_refl _) fun hU => ?_
 have hN0 : O n = none := hU.fresh _ (Nat.le_refl _)
 have hN : ∀ k, O (n + k) = none := fun k => hU.fresh _ (Nat.le_add_right _ _)
 show W _ _ _ _ ⟨11, [], [(0, .agg (Zq a0))]⟩ (Z5 O n []) _
 refine Zr [1] (Zb Zc [] ?_)
 simp only [push_cast, seval, ↓reduceIte, Za, hN0, hN]
 refine Zh ?_
 refine Zr [1, 6] (Zb Zc [] ?_)
 simp only [push_cast, seval, ↓reduceIte, Za, hN0, hN]
 refine Zs (t := (a0.kind != 9)) rfl (fun c1 => ?_) (fun c1 => ?_)
 ·replace h := Zw c1 h
  refine Zr [2, 3] (Zb Zc [] ?_)
  simp only [push_cast, seval, ↓reduceIte, Za, hN0, hN]
  refine Zt ?_
  try simp only [Zi, Zf]
  have h := Option.some.inj h; subst h
  refine Zl (.inr rfl) hU [.val (.int .i64 0), .val (.int .i64 0)] (by omega) ?_
  simp only [push_cast, seval, ↓reduceIte, Za, Try.results54, hN0, hN]
 replace h := Zv c1 h
 refine Zz ?_
 try simp only [Zi, Zf]
 refine Zg [1] [true] ?_
 simp only [push_cast, seval, ↓reduceIte]
 refine Zr [2, 3] (Vd Zc (by kernel_rfl) [] (by kernel_rfl) ?_)
 simp only [push_cast, seval, ↓reduceIte, Za, hN0, hN]
 refine Zt ?_
 try simp only [Zi, Zf]
 have h := Option.some.inj h; subst h
 refine Zl (.inr rfl) hU [.val (.int .i64 a0.words), .val (.int .i64 a0.ptrs)] (by omega) ?_
 simp only [push_cast, seval, ↓reduceIte, Za, Try.results54, hN0, hN]
theorem Zic {a0 : (List Int)} {a1 : Int} {r : Int} {O : Objs} {n : Nat} (h : Kb a0 a1 = some r) : GTo Try.prog 79 [.sl a0.length (fl (eI .u64) a0), .val (.int .i64 a1)] O n (.val (.int .u64 r)) O n := by
 unfold Kb at h
 refine Yp Zc Try.call79 Try.func79 rfl (Nat.le_of_ble_eq_true rfl) (Nat.le_refl _) fun hU => ?_
 have hN0 : O n = none := hU.fresh _ (Nat.le_refl _)
 have hN : ∀ k, O (n + k) = none := fun k => hU.fresh _ (Nat.le_add_right _ _)
 show W _ _ _ _ ⟨31, [], [(0, .sl a0.length (fl (eI .u64) a0)), (1, .val (.int .i64 a1))]⟩ (Z5 O n []) _
 refine Zr [0, 1] (Zb Zc [] ?_)
 simp only [push_cast, seval, ↓reduceIte, Za, hN0, hN]
 refine Zh ?_
 refine Zr [0, 1, 15] (Zb Zc [none, none, none, none, none] ?_)
 simp only [push_cast, seval, ↓reduceIte, Za, hN0, hN]
 repeat (with_reducible refine And.intro (by first | (intro h0; simp only [h0, and_self]; done) | (intro h0; simp only [h0, Bool.not_false, Bool.not_true, Bool.true_and, Bool.and_true, true_and, and_true, and_self, imp_self, implies_true, bne_iff_ne, ne_eq, beq_iff_eq]; done) | (intros; simp_all; done) | exact True.intro) ?_)
 refine Zs (t := (cond (decide (a1 < 0)) true (decide ((a0.length : Int) ≤ (IntKind.i64.wrap (Int.tdiv a1 64)))))) rfl (fun c5 => ?_) (fun c5 => ?_)
 ·replace h := Zw c5 h
  refine Zr [4] (Zb Zc [] ?_)
  simp only [push_cast, seval, ↓reduceIte, Za, hN0, hN]
  refine Zt ?_
  try simp only [Zi, Zf]
  have h := Option.some.inj h; subst h
  refine Zl (.inr rfl) hU [.val (.int .u64 0)] (by omega) ?_
  simp only [push_cast, seval, ↓reduceIte, Za, Try.results79, hN0, hN]
 replace h := Zv c5 h
 refine Zz ?_
 try simp only [Zi, Zf]
 refine Zg [0, 1] [] ?_
 simp only [push_cast, seval, ↓reduceIte]
 obtain ⟨x2, hx2, ax2, bx2, cx2, h⟩ := bE (f := (eI .u64)) Zag (fun _ => rfl) (by decide) h
 refine Zr [1, 5] (Zb Zc [] ?_)
 simp only [push_cast, Nat.reduceAdd, Nat.reduceSub, Nat.reduceMul, Nat.reduceLeDiff, Nat.reduceLT, Nat.reduceEqDiff, ↓reduceIte, reduceCtorEq, Int.reduceBEq, Int.reduceBNe, Nat.reduceBEq, Int.reduceLE, Int.reduceLT, Int.reduceEq, Int.reduceNe, Int.reduceNeg, Nat.reduceDiv, Nat.reduceMod, Nat.reducePow, Za, ax2, bx2, cx2, hN0, hN]
 refine Zh ?_
 refine Zr [1, 5, 6] (Zb Zc [] ?_)
 simp only [push_cast, seval, ↓reduceIte, Za, hN0, hN]
 refine Zg [1, 5, 6] [] ?_
 simp only [push_cast, seval, ↓reduceIte]
 obtain ⟨z4, hz4, h⟩ := bC h
 refine Ug (E' := ⟨31, [], [(5, .val (.int .u64 z4))]⟩) (O' := (Z5 O n [])) (n0 := n) ?_ ?_
 ·refine Zaq hz4 (fun s0_ => ⟨31, [], [(1, .val (.int .i64 a1)), (5, .val (.int .u64 s0_.1)), (6, .val (.int .i64 s0_.2))]⟩) (fun s0_ => (Z5 O n [])) (fun z4 => JX 0 n (⟨31, [], [(5, .val (.int .u64 z4))]⟩ : Env) (Z5 O n []) n) ?_
  intro s0_ x0_ hs0_
  unfold X4 at hs0_
  try dsimp only
  refine Zh ?_
  refine Zr [1, 5, 6, 24] (Zb Zc [] ?_)
  simp only [push_cast, seval, ↓reduceIte, Za, hN0, hN]
  refine Zs (t := (decide (s0_.2 < (Int.tmod a1 64)))) rfl (fun c3 => ?_) (fun c3 => ?_)
  ·replace hs0_ := Zw c3 hs0_
   refine Zz ?_
   try simp only [Zi, Zf]
   refine Zg [1, 5, 6] [] ?_
   simp only [push_cast, seval, ↓reduceIte]
   refine Zh ?_
   refine Xu ?_
   refine Zb Zc [] ?_
   simp only [push_cast, seval, ↓reduceIte, Za, hN0, hN]
   refine Zg [1, 5, 6] [] ?_
   simp only [push_cast, seval, ↓reduceIte]
   refine Zb Zc [] ?_
   simp only [push_cast, seval, ↓reduceIte, Za, hN0, hN]
   have hs0_ := Option.some.inj hs0_; subst hs0_
   refine And.intro rfl (Fit2.of (Zx hU rfl rfl ?_) (by omega))
   simp only [push_cast, seval, ↓reduceIte, Za, hN0, hN]
  replace hs0_ := Zv c3 hs0_
  refine Zdr ?_
  try simp only [Zi, Zf, ↓reduceIte, Nat.reduceEqDiff]
  have hs0_ := Option.some.inj hs0_; subst hs0_
  refine And.intro (fun h => by cases h) (And.intro rfl (Fit2.of (Zx hU rfl rfl ?_) (by omega)))
  simp only [push_cast, seval, ↓reduceIte, Za, hN0, hN]
 try simp only [Zi, Zf, ↓reduceIte, Nat.reduceEqDiff]
 refine Zg [5] [] ?_
 simp only [push_cast, seval, ↓reduceIte]
 refine Zr [4] (Zb Zc [] ?_)
 simp only [push_cast, seval, ↓reduceIte, Za, hN0, hN]
 refine Zt ?_
 try simp only [Zi, Zf]
 have h := Option.some.inj h; subst h
 refine Zl (.inr rfl) hU [.val (.int .u64 (Int.tmod z4 2))] (by omega) ?_
 simp only [push_cast, seval, ↓reduceIte, Za, Try.results79, hN0, hN]
theorem Zid {a0 : (List Int)} {a1 : Int} {a2 : Int} {r : Int} {O : Objs} {n : Nat} (h : Kc a0 a1 a2 = some r) : GTo Try.prog 55 [.sl a0.length (fl (eI .u64) a0), .val (.int .i64 a1), .val (.int .i64 a2)] O n (.val (.int .u64 r)) O n := by
 unfold Kc at h
 refine Yp Zc Try.call55 Try.func55 rfl (Nat.le_of_ble_eq_true rfl) (Nat.le_refl _) fun hU => ?_
 have hN0 : O n = none := hU.fresh _ (Nat.le_refl _)
 have hN : ∀ k, O (n + k) = none := fun k => hU.fresh _ (Nat.le_add_right _ _)
 show W _ _ _ _ ⟨39, [], [(0, .sl a0.length (fl (eI .u64) a0)), (1, .val (.int .i64 a1)), (2, .val (.int .i64 a2))]⟩ (Z5 O n []) _
 refine Zr [0, 1, 2] (Zb Zc [] ?_)
 simp only [push_cast, seval, ↓reduceIte, Za, hN0, hN]
 refine Zh ?_
 obtain ⟨y2, hy2, h⟩ := bC h
 refine Zb Zc [] ?_
 simp only [push_cast, seval, ↓reduceIte, Za, hN0, hN]
 refine (Zgr hy2).then ?_
 simp only [push_cast, seval, ↓reduceIte, Za, hN0, hN]
 refine Zg [0, 2, 7] [] ?_
 simp only [push_cast, seval, ↓reduceIte]
 refine Zh ?_
 refine Zr [0, 2, 7, 21] (Zb Zc [none, none, none, none] ?_)
 simp only [push_cast, seval, ↓reduceIte, Za, hN0, hN]
 repeat (with_reducible refine And.intro (by first | (intro h0; simp only [h0, and_self]; done) | (intro h0; simp only [h0, Bool.not_false, Bool.not_true, Bool.true_and, Bool.and_true, true_and, and_true, and_self, imp_self, implies_true, bne_iff_ne, ne_eq, beq_iff_eq]; done) | (intros; simp_all; done) | exact True.intro) ?_)
 refine Zs (t := (cond (cond (decide (y2 < 1)) true (decide (a2 < 0))) true (decide (1099511627776 < a2)))) rfl (fun c6 => ?_) (fun c6 => ?_)
 ·replace h := Zw c6 h
  refine Zr [6] (Zb Zc [] ?_)
  simp only [push_cast, seval, ↓reduceIte, Za, hN0, hN]
  refine Zt ?_
  try simp only [Zi, Zf]
  have h := Option.some.inj h; subst h
  refine Zl (.inr rfl) hU [.val (.int .u64 0)] (by omega) ?_
  simp only [push_cast, seval, ↓reduceIte, Za, Try.results55, hN0, hN]
 replace h := Zv c6 h
 refine Zz ?_
 try simp only [Zi, Zf]
 refine Zg [0, 2, 7] [] ?_
 simp only [push_cast, seval, ↓reduceIte]
 refine Zr [0, 2, 7, 8] (Zb Zc [] ?_)
 simp only [push_cast, seval, ↓reduceIte, Za, hN0, hN]
 refine Zh ?_
 refine Zr [0, 2, 7, 8, 9] (Zb Zc [] ?_)
 simp only [push_cast, seval, ↓reduceIte, Za, hN0, hN]
 refine Zg [0, 2, 7, 8, 9] [] ?_
 simp only [push_cast, seval, ↓reduceIte]
 obtain ⟨z5, hz5, h⟩ := bC h
 refine Ug (E' := ⟨39, [], [(8, .val (.int .u64 z5))]⟩) (O' := (Z5 O n [])) (n0 := n) ?_ ?_
 ·refine Zaq hz5 (fun s0_ => ⟨39, [], [(0, .sl a0.length (fl (eI .u64) a0)), (2, .val (.int .i64 a2)), (7, .val (.int .i64 y2)), (8, .val (.int .u64 s0_.1)), (9, .val (.int .i64 s0_.2))]⟩) (fun s0_ => (Z5 O n [])) (fun z5 => JX 0 n (⟨39, [], [(8, .val (.int .u64 z5))]⟩ : Env) (Z5 O n []) n) ?_
  intro s0_ x0_ hs0_
  unfold X5 at hs0_
  try dsimp only
  refine Zh ?_
  refine Zr [0, 2, 7, 8, 9, 25] (Zb Zc [] ?_)
  simp only [push_cast, seval, ↓reduceIte, Za, hN0, hN]
  refine Zs (t := (decide (0 ≤ s0_.2))) rfl (fun c4 => ?_) (fun c4 => ?_)
  ·replace hs0_ := Zw c4 hs0_
   refine Zz ?_
   try simp only [Zi, Zf]
   refine Zg [0, 2, 7, 8, 9] [] ?_
   simp only [push_cast, seval, ↓reduceIte]
   refine Zh ?_
   refine Xu ?_
   obtain ⟨y3, hy3, hs0_⟩ := bC hs0_
   refine Zb Zc [] ?_
   simp only [push_cast, seval, ↓reduceIte, Za, hN0, hN]
   refine (Zic hy3).then ?_
   simp only [push_cast, seval, ↓reduceIte, Za, hN0, hN]
   refine Zg [0, 2, 7, 8, 9] [] ?_
   simp only [push_cast, seval, ↓reduceIte]
   refine Zb Zc [] ?_
   simp only [push_cast, seval, ↓reduceIte, Za, hN0, hN]
   have hs0_ := Option.some.inj hs0_; subst hs0_
   refine And.intro rfl (Fit2.of (Zx hU rfl rfl ?_) (by omega))
   simp only [push_cast, seval, ↓reduceIte, Za, hN0, hN]
  replace hs0_ := Zv c4 hs0_
  refine Zdr ?_
  try simp only [Zi, Zf, ↓reduceIte, Nat.reduceEqDiff]
  have hs0_ := Option.some.inj hs0_; subst hs0_
  refine And.intro (fun h => by cases h) (And.intro rfl (Fit2.of (Zx hU rfl rfl ?_) (by omega)))
  simp only [push_cast, seval, ↓reduceIte, Za, hN0, hN]
 try simp only [Zi, Zf, ↓reduceIte, Nat.reduceEqDiff]
 refine Zg [8] [] ?_
 simp only [push_cast, seval, ↓reduceIte]
 refine Zr [6] (Zb Zc [] ?_)
 simp only [push_cast, seval, ↓reduceIte, Za, hN0, hN]
 refine Zt ?_
 try simp only [Zi, Zf]
 have h := Option.some.inj h; subst h
 refine Zl (.inr rfl) hU [.val (.int .u64 z5)] (by omega) ?_
 simp only [push_cast, seval, ↓reduceIte, Za, Try.results55, hN0, hN]
theorem Uz {a0 : Zm} {a1 : (List (List Int))} {a2 : Int} {r : (Zm × Int)} {O : Objs} {n : Nat} (h : Xp a0 a1 a2 = some r) : GTo Try.prog 21 [.agg (Zn a0), .sl a1.length (fl (eL (eI .u64)) a1), .val (.int .i64 a2)] O n (.tup [.agg (Zn r.1), .val (.int .i64 r.2)]) O n := by
 unfold Xp at h
 refine Yp Zc Try.call21 Try.func21 rfl (Nat.le_of_ble_eq_true rfl) (Nat.le_refl _) fun hU => ?_
 have hN0 : O n = none := hU.fresh _ (Nat.le_refl _)
 have hN : ∀ k, O (n + k) = none := fun k => hU.fresh _ (Nat.le_add_right _ _)
 show W _ _ _ _ ⟨80, [], [(0, .agg (Zn a0)), (1, .sl a1.length (fl (eL (eI .u64)) a1)), (2, .val (.int .i64 a2))]⟩ (Z5 O n []) _
 refine Zr [1, 2, 3, 6] (Zb Zc [] ?_)
 simp only [push_cast, seval, ↓reduceIte, Za, hN0, hN]
 refine Zh ?_
 obtain ⟨z2, hz2, h⟩ := bC h
 refine Jk (E' := ⟨80, [], [(1, .sl a1.length (fl (eL (eI .u64)) a1)), (2, .val (.int .i64 a2)), (3, .ref n 0), (6, .ref (n + 1) 0), (15, .val (.bool z2))]⟩) (O' := (Z5 O n [some ⟨false, 33, 7, 1, (Zn a0)⟩, some ⟨false, 33, 7, 1, [.val (.int .i64 0), .val (.int .i64 0), .val (.int .i64 0), .val (.int .i64 0), .val (.int .i64 0), .val (.int .i64 0), .val (.int .u64 0)]⟩])) (n0 := (n + 2)) ?_ ?_
 ·rcases Bool.eq_false_or_eq_true (decide (a2 < 0)) with c5 | c5
  ·replace hz2 := Zw c5 hz2
   refine Zb Zc [some false, some false, some false, some false] ?_
   simp only [push_cast, seval, ↓reduceIte, Za, c5, hN0, hN]
   have hz2 := Option.some.inj hz2; subst hz2
   refine And.intro rfl (Fit2.of (Zx hU rfl rfl ?_) (by omega))
   simp only [push_cast, seval, ↓reduceIte, Za, c5, hN0, hN]
  replace hz2 := Zv c5 hz2
  obtain ⟨y4, hy4, hz2⟩ := bC hz2
  refine Zb Zc [some true, some true, some true, some true] ?_
  simp only [push_cast, seval, ↓reduceIte, Za, c5, hN0, hN]
  refine (Ky hy4).then ?_
  simp only [push_cast, seval, ↓reduceIte, Za, c5, hN0, hN]
  have hz2 := Option.some.inj hz2; subst hz2
  refine And.intro rfl (Fit2.of (Zx hU rfl rfl ?_) (by omega))
  simp only [push_cast, seval, ↓reduceIte, Za, c5, hN0, hN]
 refine Zs (t := z2) rfl (fun c19 => ?_) (fun c19 => ?_)
 ·replace h := Zw c19 h
  refine Zh ?_
  refine Zb Zc [] ?_
  simp only [push_cast, seval, ↓reduceIte, Za, hN0, hN]
  refine Zg [6, 7] [false, true] ?_
  simp only [push_cast, seval, ↓reduceIte]
  refine Zt ?_
  try simp only [Zi, Zf]
  have h := Option.some.inj h; subst h
  refine Zl (.inr rfl) hU [.agg [.val (.int .i64 0), .val (.int .i64 0), .val (.int .i64 0), .val (.int .i64 0), .val (.int .i64 0), .val (.int .i64 0), .val (.int .u64 0)], .val (.int .i64 0)] (by omega) ?_
  simp only [push_cast, seval, ↓reduceIte, Za, Try.results21, hN0, hN]
 replace h := Zv c19 h
 refine Zz ?_
 try simp only [Zi, Zf]
 refine Zg [1, 2, 3, 6] [true, true] ?_
 simp only [push_cast, seval, ↓reduceIte]
 refine Zh ?_
 refine Zr [1, 2, 3, 6, 19] (Zb Zc [] ?_)
 simp only [push_cast, seval, ↓reduceIte, Za, hN0, hN]
 refine Zs (t := (a0.Kind == 1)) rfl (fun c18 => ?_) (fun c18 => ?_)
 ·replace h := Zw c18 h
  refine Zh ?_
  obtain ⟨y7, hy7, h⟩ := bC h
  refine Zb Zc [] ?_
  simp only [push_cast, seval, ↓reduceIte, Za, hN0, hN]
  refine (U5 hy7).then ?_
  simp only [push_cast, seval, ↓reduceIte, Za, hN0, hN]
  refine Zg [6, 7] [false, true] ?_
  simp only [push_cast, seval, ↓reduceIte]
  refine Zt ?_
  try simp only [Zi, Zf]
  have h := Option.some.inj h; subst h
  refine Zl (.inr rfl) hU [.agg (Zn y7.1), .val (.int .i64 y7.2)] (by omega) ?_
  simp only [push_cast, seval, ↓reduceIte, Za, Try.results21, hN0, hN]
 replace h := Zv c18 h
 refine Zz ?_
 try simp only [Zi, Zf]
 refine Zg [1, 2, 3, 6] [true, true] ?_
 simp only [push_cast, seval, ↓reduceIte]
 refine Zh ?_
 refine Zr [1, 2, 3, 6, 35] (Zb Zc [] ?_)
 simp only [push_cast, seval, ↓reduceIte, Za, hN0, hN]
 refine Zs (t := (a0.Kind == 8)) rfl (fun c17 => ?_) (fun c17 => ?_)
 ·replace h := Zw c17 h
  refine Zh ?_
  obtain ⟨y9, hy9, h⟩ := bC h
  refine Zb Zc [] ?_
  simp only [push_cast, seval, ↓reduceIte, Za, hN0, hN]
  refine (U5 hy9).then ?_
  simp only [push_cast, seval, ↓reduceIte, Za, hN0, hN]
  refine Zg [6, 7] [false, true] ?_
  simp only [push_cast, seval, ↓reduceIte]
  refine Zt ?_
  try simp only [Zi, Zf]
  have h := Option.some.inj h; subst h
  refine Zl (.inr rfl) hU [.agg (Zn y9.1), .val (.int .i64 y9.2)] (by omega) ?_
  simp only [push_cast, seval, ↓reduceIte, Za, Try.results21, hN0, hN]
 replace h := Zv c17 h
 refine Zz ?_
 try simp only [Zi, Zf]
 refine Zg [1, 2, 3, 6] [true, true] ?_
 simp only [push_cast, seval, ↓reduceIte]
 refine Zh ?_
 refine Zr [1, 2, 3, 6, 48] (Zb Zc [] ?_)
 simp only [push_cast, seval, ↓reduceIte, Za, hN0, hN]
 refine Zs (t := (a0.Kind == 9)) rfl (fun c16 => ?_) (fun c16 => ?_)
 ·replace h := Zw c16 h
  refine Zh ?_
  refine Zb Zc [] ?_
  simp only [push_cast, seval, ↓reduceIte, Za, hN0, hN]
  refine Zg [6, 7] [false, true] ?_
  simp only [push_cast, seval, ↓reduceIte]
  refine Zt ?_
  try simp only [Zi, Zf]
  have h := Option.some.inj h; subst h
  refine Zl (.inr rfl) hU [.agg [.val (.int .i64 1), .val (.int .i64 a0.S), .val (.int .i64 (IntKind.i64.wrap (a0.At + (IntKind.i64.wrap (a2 * (IntKind.i64.wrap (a0.Data + a0.Ptrs))))))), .val (.int .i64 a0.Data), .val (.int .i64 a0.Ptrs), .val (.int .i64 0), .val (.int .u64 0)], .val (.int .i64 0)] (by omega) ?_
  simp only [push_cast, seval, ↓reduceIte, Za, Try.results21, hN0, hN]
 replace h := Zv c16 h
 refine Zz ?_
 try simp only [Zi, Zf]
 refine Zg [1, 2, 3, 6] [true, true] ?_
 simp only [push_cast, seval, ↓reduceIte]
 refine Zh ?_
 obtain ⟨x13, hx13, ax13, bx13, cx13, h⟩ := bE (f := (eL (eI .u64))) U0 (fun _ => rfl) (by decide) h
 obtain ⟨l14, al14, bl14, cl14, gl14, h⟩ := bS (lo := (some (.i64, a0.At))) (hi := none) (f := (eI .u64)) rfl rfl Zch Zag (fun _ => rfl) h
 obtain ⟨y15, hy15, h⟩ := bC h
 refine Zhd Zc (by kernel_rfl) [false, false, false, false, false, false, false, false, false, false, false, false, false, false, true, false] [] (by kernel_rfl) ?_
 simp only [push_cast, Nat.reduceAdd, Nat.reduceSub, Nat.reduceMul, Nat.reduceLeDiff, Nat.reduceLT, Nat.reduceEqDiff, ↓reduceIte, reduceCtorEq, Int.reduceBEq, Int.reduceBNe, Nat.reduceBEq, Int.reduceLE, Int.reduceLT, Int.reduceEq, Int.reduceNe, Int.reduceNeg, Nat.reduceDiv, Nat.reduceMod, Nat.reducePow, Za, ax13, bx13, cx13, al14, bl14, cl14, gl14, hN0, hN]
 refine PCall.of (Zid hy15) ?_
 simp only [push_cast, Nat.reduceAdd, Nat.reduceSub, Nat.reduceMul, Nat.reduceLeDiff, Nat.reduceLT, Nat.reduceEqDiff, ↓reduceIte, reduceCtorEq, Int.reduceBEq, Int.reduceBNe, Nat.reduceBEq, Int.reduceLE, Int.reduceLT, Int.reduceEq, Int.reduceNe, Int.reduceNeg, Nat.reduceDiv, Nat.reduceMod, Nat.reducePow, Za, ax13, bx13, cx13, al14, bl14, cl14, gl14, hN0, hN]
 refine Zg [6, 7] [false, true] ?_
 simp only [push_cast, seval, ↓reduceIte]
 refine Zt ?_
 try simp only [Zi, Zf]
 have h := Option.some.inj h; subst h
 refine Zl (.inr rfl) hU [.agg [.val (.int .i64 10), .val (.int .i64 0), .val (.int .i64 0), .val (.int .i64 0), .val (.int .i64 0), .val (.int .i64 0), .val (.int .u64 y15)], .val (.int .i64 0)] (by omega) ?_
 simp only [push_cast, seval, ↓reduceIte, Za, Try.results21, hN0, hN]
theorem Vf {a0 : Int} {a1 : Int} {r : Int} {O : Objs} {n : Nat} (h : Jo a0 a1 = some r) : GTo Try.prog 64 [.val (.int .i64 a0), .val (.int .i64 a1)] O n (.val (.int .i64 r)) O n := by
 unfold Jo at h
 refine Yp Zc Try.call64 Try.func64 rfl (Nat.le_of_ble_eq_true rfl) (Nat.le_refl _) fun hU => ?_
 have hN0 : O n = none := hU.fresh _ (Nat.le_refl _)
 have hN : ∀ k, O (n + k) = none := fun k => hU.fresh _ (Nat.le_add_right _ _)
 show W _ _ _ _ ⟨9, [], [(0, .val (.int .i64 a0)), (1, .val (.int .i64 a1))]⟩ (Z5 O n []) _
 refine Zr [0, 1] (Zb Zc [] ?_)
 simp only [push_cast, seval, ↓reduceIte, Za, hN0, hN]
 refine Zr [4] (Zb Zc [] ?_)
 simp only [push_cast, seval, ↓reduceIte, Za, hN0, hN]
 refine Zt ?_
 try simp only [Zi, Zf]
 have h := Option.some.inj h; subst h
 refine Zl (.inr rfl) hU [.val (.int .i64 (if a1 < (if a0 < 0 then 0 else a0) then a1 else (if a0 < 0 then 0 else a0)))] (by omega) ?_
 simp only [push_cast, seval, ↓reduceIte, Za, Try.results64, hN0, hN]
theorem Zkw {a0 : Zy} {r : Zy} {O : Objs} {n : Nat} (h : Ur a0 = some r) : GTo Try.prog 36 [.agg (Ye a0)] O n (.agg (Ye r)) O n := by
 unfold Ur at h
 refine Yp Zc Try.call36 Try.func36 rfl (Nat.le_of_ble_eq_true rfl) (Nat.le_refl _) fun hU => ?_
 have hN0 : O n = none := hU.fresh _ (Nat.le_refl _)
 have hN : ∀ k, O (n + k) = none := fun k => hU.fresh _ (Nat.le_add_right _ _)
 show W _ _ _ _ ⟨16, [], [(0, .agg (Ye a0))]⟩ (Z5 O n []) _
 refine Zr [1, 2] (Zb Zc [] ?_)
 simp only [push_cast, seval, ↓reduceIte, Za, hN0, hN]
 refine Zh ?_
 obtain ⟨y5, hy5, h⟩ := bC h
 obtain ⟨y6, hy6, h⟩ := bC h
 obtain ⟨y7, hy7, h⟩ := bC h
 obtain ⟨y8, hy8, h⟩ := bC h
 refine Zhd Zc (by kernel_rfl) [false, false, false, false, false, false, false, false, false, false, false, false, false, true] [] (by kernel_rfl) ?_
 simp only [push_cast, seval, ↓reduceIte, Za, hN0, hN]
 refine PCall.of (Vf hy5) ?_
 simp only [push_cast, seval, ↓reduceIte, Za, hN0, hN]
 refine PCall.of (Vf hy6) ?_
 simp only [push_cast, seval, ↓reduceIte, Za, hN0, hN]
 refine PCall.of (Vf hy7) ?_
 simp only [push_cast, seval, ↓reduceIte, Za, hN0, hN]
 refine PCall.of (Vf hy8) ?_
 simp only [push_cast, seval, ↓reduceIte, Za, hN0, hN]
 refine Zg [2] [false, true] ?_
 simp only [push_cast, seval, ↓reduceIte]
 refine Zt ?_
 try simp only [Zi, Zf]
 have h := Option.some.inj h; subst h
 refine Zl (.inr rfl) hU [.agg [.val (.int .i64 y5), .val (.int .i64 y6), .val (.int .i64 y7), .val (.int .i64 y8)]] (by omega) ?_
 simp only [push_cast, seval, ↓reduceIte, Za, Try.results36, hN0, hN]
theorem Jv {a0 : Int} {a1 : Int} {r : Int} {O : Objs} {n : Nat} (h : Y1 a0 a1 = some r) : GTo Try.prog 65 [.val (.int .i64 a0), .val (.int .i64 a1)] O n (.val (.int .i64 r)) O n := by
 unfold Y1 at h
 refine Yp Zc Try.call65 Try.func65 rfl (Nat.le_of_ble_eq_true rfl) (Nat.le_refl _) fun hU => ?_
 have hN0 : O n = none := hU.fresh _ (Nat.le_refl _)
 have hN : ∀ k, O (n + k) = none := fun k => hU.fresh _ (Nat.le_add_right _ _)
 show W _ _ _ _ ⟨12, [], [(0, .val (.int .i64 a0)), (1, .val (.int .i64 a1))]⟩ (Z5 O n []) _
 refine Zr [0, 1] (Zb Zc [] ?_)
 simp only [push_cast, seval, ↓reduceIte, Za, hN0, hN]
 refine Zh ?_
 refine Zr [0, 1, 6] (Zb Zc [] ?_)
 simp only [push_cast, seval, ↓reduceIte, Za, hN0, hN]
 refine Zs (t := (decide (a0 < 0))) rfl (fun c2 => ?_) (fun c2 => ?_)
 ·replace h := Zw c2 h
  refine Zr [4] (Zb Zc [] ?_)
  simp only [push_cast, seval, ↓reduceIte, Za, hN0, hN]
  refine Zt ?_
  try simp only [Zi, Zf]
  have h := Option.some.inj h; subst h
  refine Zl (.inr rfl) hU [.val (.int .i64 0)] (by omega) ?_
  simp only [push_cast, seval, ↓reduceIte, Za, Try.results65, hN0, hN]
 replace h := Zv c2 h
 refine Zz ?_
 try simp only [Zi, Zf]
 refine Zg [0, 1] [] ?_
 simp only [push_cast, seval, ↓reduceIte]
 refine Zh ?_
 refine Zr [0, 1, 9] (Zb Zc [] ?_)
 simp only [push_cast, seval, ↓reduceIte, Za, hN0, hN]
 refine Zs (t := (decide (a1 < a0))) rfl (fun c1 => ?_) (fun c1 => ?_)
 ·replace h := Zw c1 h
  refine Zr [4] (Zb Zc [] ?_)
  simp only [push_cast, seval, ↓reduceIte, Za, hN0, hN]
  refine Zt ?_
  try simp only [Zi, Zf]
  have h := Option.some.inj h; subst h
  refine Zl (.inr rfl) hU [.val (.int .i64 a1)] (by omega) ?_
  simp only [push_cast, seval, ↓reduceIte, Za, Try.results65, hN0, hN]
 replace h := Zv c1 h
 refine Zz ?_
 try simp only [Zi, Zf]
 refine Zg [0] [] ?_
 simp only [push_cast, seval, ↓reduceIte]
 refine Zr [4] (Zb Zc [] ?_)
 simp only [push_cast, seval, ↓reduceIte, Za, hN0, hN]
 refine Zt ?_
 try simp only [Zi, Zf]
 have h := Option.some.inj h; subst h
 refine Zl (.inr rfl) hU [.val (.int .i64 a0)] (by omega) ?_
 simp only [push_cast, seval, ↓reduceIte, Za, Try.results65, hN0, hN]
theorem Ze5 {a0 : Zy} {r : Zy} {O : Objs} {n : Nat} (h : Qu a0 = some r) : GTo Try.prog 38 [.agg (Ye a0)] O n (.agg (Ye r)) O n := by
 unfold Qu at h
 refine Yp Zc Try.call38 Try.func38 rfl (Nat.le_of_ble_eq_true rfl) (Nat.le_refl _) fun hU => ?_
 have hN0 : O n = none := hU.fresh _ (Nat.le_refl _)
 have hN : ∀ k, O (n + k) = none := fun k => hU.fresh _ (Nat.le_add_right _ _)
 show W _ _ _ _ ⟨16, [], [(0, .agg (Ye a0))]⟩ (Z5 O n []) _
 refine Zr [1, 2] (Zb Zc [] ?_)
 simp only [push_cast, seval, ↓reduceIte, Za, hN0, hN]
 refine Zh ?_
 obtain ⟨y5, hy5, h⟩ := bC h
 obtain ⟨y6, hy6, h⟩ := bC h
 obtain ⟨y7, hy7, h⟩ := bC h
 obtain ⟨y8, hy8, h⟩ := bC h
 refine Zhd Zc (by kernel_rfl) [false, false, false, false, false, false, false, false, false, false, false, false, false, true] [] (by kernel_rfl) ?_
 simp only [push_cast, seval, ↓reduceIte, Za, hN0, hN]
 refine PCall.of (Jv hy5) ?_
 simp only [push_cast, seval, ↓reduceIte, Za, hN0, hN]
 refine PCall.of (Jv hy6) ?_
 simp only [push_cast, seval, ↓reduceIte, Za, hN0, hN]
 refine PCall.of (Jv hy7) ?_
 simp only [push_cast, seval, ↓reduceIte, Za, hN0, hN]
 refine PCall.of (Jv hy8) ?_
 simp only [push_cast, seval, ↓reduceIte, Za, hN0, hN]
 refine Zg [2] [false, true] ?_
 simp only [push_cast, seval, ↓reduceIte]
 refine Zt ?_
 try simp only [Zi, Zf]
 have h := Option.some.inj h; subst h
 refine Zl (.inr rfl) hU [.agg [.val (.int .i64 y5), .val (.int .i64 y6), .val (.int .i64 y7), .val (.int .i64 y8)]] (by omega) ?_
 simp only [push_cast, seval, ↓reduceIte, Za, Try.results38, hN0, hN]
theorem Zea {a0 : Zd} {r : Int} {O : Objs} {n : Nat} (h : K8 a0 = some r) : GTo Try.prog 83 [.agg (Zq a0)] O n (.val (.int .i64 r)) O n := by
 unfold K8 at h
 refine Yp Zc Try.call83 Try.func83 rfl (Nat.le_of_ble_eq_true rfl) (Nat.le_refl _) fun hU => ?_
 have hN0 : O n = none := hU.fresh _ (Nat.le_refl _)
 have hN : ∀ k, O (n + k) = none := fun k => hU.fresh _ (Nat.le_add_right _ _)
 show W _ _ _ _ ⟨16, [], [(0, .agg (Zq a0))]⟩ (Z5 O n []) _
 refine Zr [1] (Zb Zc [] ?_)
 simp only [push_cast, seval, ↓reduceIte, Za, hN0, hN]
 refine Zh ?_
 refine Xu ?_
 refine Zh ?_
 obtain ⟨y2, hy2, h⟩ := bC h
 refine Zb Zc [] ?_
 simp only [push_cast, seval, ↓reduceIte, Za, hN0, hN]
 refine (Jg hy2).then ?_
 simp only [push_cast, seval, ↓reduceIte, Za, hN0, hN]
 refine Zg [1, 3] [true] ?_
 simp only [push_cast, seval, ↓reduceIte]
 refine Zs (t := (y2 == 0)) rfl (fun c12 => ?_) (fun c12 => ?_)
 ·replace h := Zw c12 h
  refine Zr [2] (Zb Zc [] ?_)
  simp only [push_cast, seval, ↓reduceIte, Za, hN0, hN]
  refine Zt ?_
  try simp only [Zi, Zf]
  have h := Option.some.inj h; subst h
  refine Zl (.inr rfl) hU [.val (.int .i64 0)] (by omega) ?_
  simp only [push_cast, seval, ↓reduceIte, Za, Try.results83, hN0, hN]
 replace h := Zv c12 h
 obtain ⟨z5, hz5, h⟩ := bC h
 refine Jk (E' := ⟨16, [], [(7, .val (.bool z5))]⟩) (O' := (Z5 O n [none])) (n0 := (n + 1)) ?_ ?_
 ·obtain ⟨y8, hy8, hz5⟩ := bC hz5
  rcases Bool.eq_false_or_eq_true (y8 == 9) with c10 | c10
  ·replace hz5 := Zw c10 hz5
   obtain ⟨y9, hy9, hz5⟩ := bC hz5
   refine Zb Zc [some true, some true, some true] ?_
   simp only [push_cast, seval, ↓reduceIte, Za, c10, hN0, hN]
   refine (Jg hy8).then ?_
   simp only [push_cast, seval, ↓reduceIte, Za, c10, hN0, hN]
   refine (Xi hy9).then ?_
   simp only [push_cast, seval, ↓reduceIte, Za, c10, hN0, hN]
   have hz5 := Option.some.inj hz5; subst hz5
   refine And.intro rfl (Fit2.of (Zx hU rfl rfl ?_) (by omega))
   simp only [push_cast, seval, ↓reduceIte, Za, c10, hN0, hN]
  replace hz5 := Zv c10 hz5
  refine Zb Zc [some false, some false, some false] ?_
  simp only [push_cast, seval, ↓reduceIte, Za, c10, hN0, hN]
  refine (Jg hy8).then ?_
  simp only [push_cast, seval, ↓reduceIte, Za, c10, hN0, hN]
  have hz5 := Option.some.inj hz5; subst hz5
  refine And.intro rfl (Fit2.of (Zx hU rfl rfl ?_) (by omega))
  simp only [push_cast, seval, ↓reduceIte, Za, c10, hN0, hN]
 refine Zs (t := z5) rfl (fun c11 => ?_) (fun c11 => ?_)
 ·replace h := Zw c11 h
  refine Zr [2] (Zb Zc [] ?_)
  simp only [push_cast, seval, ↓reduceIte, Za, hN0, hN]
  refine Zt ?_
  try simp only [Zi, Zf]
  have h := Option.some.inj h; subst h
  refine Zl (.inr rfl) hU [.val (.int .i64 2)] (by omega) ?_
  simp only [push_cast, seval, ↓reduceIte, Za, Try.results83, hN0, hN]
 replace h := Zv c11 h
 refine Zz ?_
 try simp only [Zi, Zf]
 refine Zg [] [false] ?_
 simp only [push_cast, seval, ↓reduceIte]
 refine Zr [2] (Zb Zc [] ?_)
 simp only [push_cast, seval, ↓reduceIte, Za, hN0, hN]
 refine Zt ?_
 try simp only [Zi, Zf]
 have h := Option.some.inj h; subst h
 refine Zl (.inr rfl) hU [.val (.int .i64 1)] (by omega) ?_
 simp only [push_cast, seval, ↓reduceIte, Za, Try.results83, hN0, hN]
theorem Zeb {a0 : Zd} {r : Int} {O : Objs} {n : Nat} (h : Ke a0 = some r) : GTo Try.prog 84 [.agg (Zq a0)] O n (.val (.int .i64 r)) O n := by
 unfold Ke at h
 refine Yp Zc Try.call84 Try.func84 rfl (Nat.le_of_ble_eq_true rfl) (Nat.le_refl _) fun hU => ?_
 have hN0 : O n = none := hU.fresh _ (Nat.le_refl _)
 have hN : ∀ k, O (n + k) = none := fun k => hU.fresh _ (Nat.le_add_right _ _)
 show W _ _ _ _ ⟨35, [], [(0, .agg (Zq a0))]⟩ (Z5 O n []) _
 refine Zr [1] (Zb Zc [] ?_)
 simp only [push_cast, seval, ↓reduceIte, Za, hN0, hN]
 refine Zh ?_
 refine Zh ?_
 obtain ⟨y2, hy2, h⟩ := bC h
 refine Zb Zc [] ?_
 simp only [push_cast, seval, ↓reduceIte, Za, hN0, hN]
 refine (Jg hy2).then ?_
 simp only [push_cast, seval, ↓reduceIte, Za, hN0, hN]
 refine Zg [1, 6] [true] ?_
 simp only [push_cast, seval, ↓reduceIte]
 refine Xu ?_
 refine Zr [1, 6, 7] (Zb Zc [] ?_)
 simp only [push_cast, seval, ↓reduceIte, Za, hN0, hN]
 refine Zs (t := (y2 == 0)) rfl (fun c15 => ?_) (fun c15 => ?_)
 ·replace h := Zw c15 h
  refine Zr [2] (Zb Zc [] ?_)
  simp only [push_cast, seval, ↓reduceIte, Za, hN0, hN]
  refine Zt ?_
  try simp only [Zi, Zf]
  have h := Option.some.inj h; subst h
  refine Zl (.inr rfl) hU [.val (.int .i64 0)] (by omega) ?_
  simp only [push_cast, seval, ↓reduceIte, Za, Try.results84, hN0, hN]
 replace h := Zv c15 h
 refine Zr [1, 6, 9] (Zb Zc [] ?_)
 simp only [push_cast, seval, ↓reduceIte, Za, hN0, hN]
 refine Zs (t := (y2 == 1)) rfl (fun c14 => ?_) (fun c14 => ?_)
 ·replace h := Zw c14 h
  refine Zh ?_
  obtain ⟨y5, hy5, h⟩ := bC h
  obtain ⟨y6, hy6, h⟩ := bC h
  refine Vd Zc (by kernel_rfl) [] (by kernel_rfl) ?_
  simp only [push_cast, seval, ↓reduceIte, Za, hN0, hN]
  refine PCall.of (Zgu hy5) ?_
  simp only [push_cast, seval, ↓reduceIte, Za, hN0, hN]
  refine PCall.of (Xi hy6) ?_
  simp only [push_cast, seval, ↓reduceIte, Za, hN0, hN]
  refine Zg [2] [false] ?_
  simp only [push_cast, seval, ↓reduceIte]
  refine Zt ?_
  try simp only [Zi, Zf]
  have h := Option.some.inj h; subst h
  refine Zl (.inr rfl) hU [.val (.int .i64 (IntKind.i64.wrap ((IntKind.i64.wrap (1 + y5)) + y6)))] (by omega) ?_
  simp only [push_cast, seval, ↓reduceIte, Za, Try.results84, hN0, hN]
 replace h := Zv c14 h
 refine Zr [1, 17] (Zb Zc [] ?_)
 simp only [push_cast, seval, ↓reduceIte, Za, hN0, hN]
 refine Zs (t := (y2 == 9)) rfl (fun c13 => ?_) (fun c13 => ?_)
 ·replace h := Zw c13 h
  refine Zh ?_
  obtain ⟨y8, hy8, h⟩ := bC h
  refine Zb Zc [] ?_
  simp only [push_cast, seval, ↓reduceIte, Za, hN0, hN]
  refine (Zgt hy8).then ?_
  simp only [push_cast, seval, ↓reduceIte, Za, hN0, hN]
  refine Zg [1, 3, 4] [true] ?_
  simp only [push_cast, seval, ↓reduceIte]
  refine Zh ?_
  obtain ⟨y10, hy10, h⟩ := bC h
  refine Zb Zc [] ?_
  simp only [push_cast, seval, ↓reduceIte, Za, hN0, hN]
  refine (Xi hy10).then ?_
  simp only [push_cast, seval, ↓reduceIte, Za, hN0, hN]
  refine Zg [2] [false] ?_
  simp only [push_cast, seval, ↓reduceIte]
  refine Zt ?_
  try simp only [Zi, Zf]
  have h := Option.some.inj h; subst h
  refine Zl (.inr rfl) hU [.val (.int .i64 (IntKind.i64.wrap (1 + (IntKind.i64.wrap (y10 * (IntKind.i64.wrap ((IntKind.i64.wrap (1 + y8.1)) + y8.2)))))))] (by omega) ?_
  simp only [push_cast, seval, ↓reduceIte, Za, Try.results84, hN0, hN]
 replace h := Zv c13 h
 refine Zz ?_
 try simp only [Zi, Zf]
 refine Zg [1] [true] ?_
 simp only [push_cast, seval, ↓reduceIte]
 refine Zh ?_
 obtain ⟨y12, hy12, h⟩ := bC h
 refine Zb Zc [] ?_
 simp only [push_cast, seval, ↓reduceIte, Za, hN0, hN]
 refine (Xi hy12).then ?_
 simp only [push_cast, seval, ↓reduceIte, Za, hN0, hN]
 refine Zg [2] [false] ?_
 simp only [push_cast, seval, ↓reduceIte]
 refine Zt ?_
 try simp only [Zi, Zf]
 have h := Option.some.inj h; subst h
 refine Zl (.inr rfl) hU [.val (.int .i64 (IntKind.i64.wrap (1 + y12)))] (by omega) ?_
 simp only [push_cast, seval, ↓reduceIte, Za, Try.results84, hN0, hN]
end Go.Proofs.Ytmlhokaflhlhbaa
