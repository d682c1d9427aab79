/- Part VM3 of this seat's mirrors: functions of the seat's program, and the plain functions that they are; each theorem bears its own conditions. -/
import Derived.Test.YtmlhokaflhlhbaaVE
import Derived.Test.YtmlhokaflhlhbaaVM2
namespace Go.Proofs.Ytmlhokaflhlhbaa
open Go.RowKit
set_option linter.unusedVariables false
set_option linter.unusedSimpArgs false
set_option maxRecDepth 100000
set_option maxHeartbeats 4000000
attribute [local push_cast] Yg Zz Zn Yh Zp Zi3 Zi2 Zjs Zjr Zi Zf Zfx Zb2 Zb1 onW Yw U1 Ua Zi8 Zh6 Zed Zei Zec Zeh Zgx Zgu Zeg Zgw Zgv Zee Zgs Zcm evS wok Xi Op.operands Call.operands gop onK onP atK List.all_cons List.all_nil Bool.and_true Bool.true_and Bool.and_self Value.oneCell' List.take_zero List.take_succ_cons List.take_nil List.drop_zero List.drop_succ_cons List.drop_nil List.append_nil Nat.add_zero Nat.zero_add J8 Z8 ev Xn Zoq Ziu Zit Ziz Zix Ziy Ziv Ziw Zis Zlf Zl4 Zor Zdb Uf Zc3 Ut Zds Zba Zah Zam Zbx Zbu Zak Zbw Zbv Zaj Zbs Zai Zal U8 Zbt Zfz Zb3 Vh Zc4 Vi Zep Zda Zmy bLo bHi bMx Ug Zeo Zpy Zc9 Ze6 Zad Ki Zlu Zp2 Zc1 Zp6 Ue Zq6 Zf4 Zf8 Zf3 Zf7 Zje Zjb Zi9 Zdw Zf5 Zjd Zjc Zf6 Zja Zeq Zi4 Zgl Zch Zcg pop TK.isAgg Zjl Zjp Zjk Zjo Zgf Znf Znc Zjn Zne Znd Zjm Znb G.under G.unders List.getD_cons_zero List.getD_cons_succ List.set_cons_zero List.set_cons_succ List.map_cons List.map_nil List.toList_toArray Array.toList_append Option.toArray_none Option.toArray_some Array.toList_map Option.map_some Option.map_none Option.bind_some Option.bind_none List.getElem?_cons_zero List.getElem?_cons_succ List.getElem?_nil List.nil_append List.cons_append List.replicate_succ List.replicate_zero List.length_cons List.length_nil and_true true_and and_false false_and Bool.true_eq_false Bool.false_eq_true forall_const false_implies implies_true IntKind.bits if_true if_false ite_true ite_false eq_self true_implies false_or or_false or_true true_or not_true_eq_false not_false_eq_true decide_true decide_false decide_eq_true_eq decide_eq_false_iff_not beq_iff_eq bne_iff_ne ne_eq Bool.not_eq_true Bool.not_eq_false beq_eq_false_iff_ne bne_eq_false_iff_eq beq_self_eq_true bne_self_eq_false Option.some.injEq exists_eq_left' exists_eq_left ge_iff_le gt_iff_lt decide_not Bool.not_true Bool.not_false imp_self Zm0 cond_true cond_false Zvz Zvy Bool.not_not Bool.and_false Bool.false_and Bool.or_true Bool.true_or Bool.or_false Bool.false_or V9 Zem Zc0 Zbq Zae Uz Option.join_some Nat.add_assoc Int.toNat_natCast eI eB eS eL Zby Zbk Zas Zi7 Zi5 Zi6 Zrk Ztn Zbm Zaz Zjz Zjx Zjy Zoz Zfw Zmr Zgq Zmq Gu Zle List.length_append G.agg.injEq G.row.injEq G.ref.injEq G.val.injEq G.sl.injEq G.tup.injEq Value.int.injEq Value.bool.injEq Value.string.injEq List.cons.injEq exists_and_left exists_const List.flatten_cons List.flatten_nil Int.le_refl Nat.le_refl Zhg Kh Zfr Bool.not_eq_true' Bool.not_eq_false' Zla Zcs Zoj Zon Zoi Zom Zsy Zsu List.size_toArray Zj1 Zj2 G.ren G.rens Zl6 Zbc Zj5 Zip Ziq Zgt Zoo Zcb G.fn.injEq Zej Zhj Zk8 Zsv Zhi Zol Zsx Zsw Zok Zm6 Zrf Option.join_none Xh Vg undef Ze7 Arr.len Arr.put_eq Zbl Zd1 Zcc Zay Zjw Zju Zjv onB Zrj Zls Zgr Zfh Zfi Zfj Zfk Zfl Zfm Zdz Zd5 Zd3 Zcf Za0 Zd4 Zgk Zgj Zgi Zgh Ztm Zvc Zoy Znh Qw Zot Zjf Zd7 Zce Zqd Zj7 Zc8 Ze5 Gj Zd8 Zfn Zfo Zfp Zfq Zdg Zdh Zdi Zdj Zdk Zdl Zdm Zan prT Gc Zw4 Zn6 Zvn Zn7 Zw5 Zn8 Zw6 Zn9 Zw7 Zoa Zw8 Zob Zw9 Zoc Zxa Zod Zrv Zj8 Zrw Zj9 Zrx Zka Zry Zkb Zrz Zkc Zr0 Zkd Zr1 Zke Zr2 Zkf Zr3 Zkg Zr4 Zkh Zr5 Zki Zr6 Zkj Zr7 Zkk Zr8 Zhu Zr9 Zkl Zsa Zkm Zsb Zkn Gp Zko Zsc Zkp Zsd Zkq Gs Zc7 Zse Zkr Zsf Zks Zsg Zkt Zsh Zku Zl3 Zkv Zsi Zkw Zsj Zkx Zsk Zky Zsl Zkz Zsm Zk0 Zsn Zk1 Zso Zk2 Zsp Zk3 Zsq Zk4 Zsr Zk5 Zss Zk6 Znp Zgz Znq Zg0 Znr Zg1 Zns Zg2 Znt Zg3 Znu Zg4 Znv Zg5 Znw Zg6 Znx Zg7 Zny Zg8 Znz Zg9 Zn0 Zha Zn1 Zhb Zn2 Zhc Zn3 Zhd Zn4 Zhe Zn5 Zhf Zcu Zcr Zb6 Zca Zcx Za9 Za6 Za4 Zco Up Uo Uh Ul Uq V2 V1 V0 Un Zk Jk Jj Jd Jh Jl Q2 Q1 Q0 Ji Zap Zct Zcq Zb5 Zb9 Zcw Za8 Za5 Za3 Zcn Zao Vu Jv Jw X3 Z3 Ql Qk Qh Qi Qm Qa X8 X7 Qj Zw Jo Vc Vb K0 K6 Vd Ks Kq Kp K9
theorem Zf9 {a0 : (List (List Int))} {a1 : Int} {a2 : Int} {r : (Z5 × Int)} {O : Objs} {n : Nat} (h : Qe a0 a1 a2 = some r) : GTo Try.prog 50 [.sl a0.length (fl (eL (eI .u64)) a0), .val (.int .i64 a1), .val (.int .i64 a2)] O n (.tup [.agg [.val (.int .i64 r.1.P.Kind), .val (.int .i64 r.1.P.Off), .val (.int .i64 r.1.P.Data), .val (.int .i64 r.1.P.Ptrs), .val (.int .i64 r.1.P.Code), .val (.int .i64 r.1.P.Count), .val (.int .i64 r.1.P.Segment), .val (.bool r.1.P.Double), .val (.int .i64 r.1.Segment), .val (.int .i64 r.1.At)], .val (.int .i64 r.2)]) O n := by
 unfold Qe at h
 refine Yn Zc Try.call50 Try.func50 rfl (Nat.le_of_ble_eq_true rfl) (Nat.le_refl _) fun hU => ?_
 have hN0 : O n = none := hU.fresh _ (Nat.le_refl _)
 have hN : ∀ k, O (n + k) = none := fun k => hU.fresh _ (Nat.le_add_right _ _)
 show W _ _ _ _ ⟨147, [], [(0, .sl a0.length (fl (eL (eI .u64)) a0)), (1, .val (.int .i64 a1)), (2, .val (.int .i64 a2))]⟩ (Z4 O n []) _
 refine Zq [0, 1, 2, 6] (Zb Zc [] ?_)
 simp only [push_cast, seval, ↓reduceIte, Za, hN0, hN]
 refine Zh ?_
 refine Zh ?_
 obtain ⟨y2, hy2, h⟩ := bC h
 refine Zb Zc [] ?_
 simp only [push_cast, seval, ↓reduceIte, Za, hN0, hN]
 refine (Kl hy2).then ?_
 simp only [push_cast, seval, ↓reduceIte, Za, hN0, hN]
 refine Zg [0, 1, 2, 6, 17] [true] ?_
 simp only [push_cast, seval, ↓reduceIte]
 refine Zr (t := (!y2)) rfl (fun c47 => ?_) (fun c47 => ?_)
 ·replace h := Zv c47 h
  refine Zh ?_
  refine Zb Zc [] ?_
  simp only [push_cast, seval, ↓reduceIte, Za, hN0, hN]
  refine Zg [6, 7] [true] ?_
  simp only [push_cast, seval, ↓reduceIte]
  refine Zt ?_
  try simp only [Zi, Zf]
  have h := Option.some.inj h; subst h
  refine Zl (.inr rfl) hU [.agg [.val (.int .i64 0), .val (.int .i64 0), .val (.int .i64 0), .val (.int .i64 0), .val (.int .i64 0), .val (.int .i64 0), .val (.int .i64 0), .val (.bool false), .val (.int .i64 0), .val (.int .i64 0)], .val (.int .i64 7)] (by omega) ?_
  simp only [push_cast, seval, ↓reduceIte, Za, Try.results50, hN0, hN]
 replace h := Zu c47 h
 refine Zx ?_
 try simp only [Zi, Zf]
 refine Zg [0, 1, 2, 6] [true] ?_
 simp only [push_cast, seval, ↓reduceIte]
 refine Zh ?_
 obtain ⟨x6, hx6, ax6, bx6, cx6, h⟩ := bE (f := (eL (eI .u64))) Gs (fun _ => rfl) (by decide) h
 obtain ⟨x7, hx7, ax7, bx7, cx7, h⟩ := bE (f := (eI .u64)) Gp (fun _ => rfl) (by decide) h
 obtain ⟨y8, hy8, h⟩ := bC h
 refine Zb Zc [] ?_
 simp only [push_cast, Nat.reduceAdd, Nat.reduceSub, Nat.reduceMul, Nat.reduceLeDiff, Nat.reduceLT, Nat.reduceEqDiff, ↓reduceIte, reduceCtorEq, Int.reduceBEq, Int.reduceBNe, Nat.reduceBEq, Int.reduceLE, Int.reduceLT, Int.reduceEq, Int.reduceNe, Int.reduceNeg, Nat.reduceDiv, Nat.reduceMod, Nat.reducePow, Za, ax6, bx6, cx6, ax7, bx7, cx7, hN0, hN]
 refine (Xb hy8).then ?_
 simp only [push_cast, Nat.reduceAdd, Nat.reduceSub, Nat.reduceMul, Nat.reduceLeDiff, Nat.reduceLT, Nat.reduceEqDiff, ↓reduceIte, reduceCtorEq, Int.reduceBEq, Int.reduceBNe, Nat.reduceBEq, Int.reduceLE, Int.reduceLT, Int.reduceEq, Int.reduceNe, Int.reduceNeg, Nat.reduceDiv, Nat.reduceMod, Nat.reducePow, Za, ax6, bx6, cx6, ax7, bx7, cx7, hN0, hN]
 refine Zg [0, 1, 2, 6, 8] [true, true] ?_
 simp only [push_cast, seval, ↓reduceIte]
 refine Zh ?_
 refine Zq [0, 1, 2, 6, 8, 29] (Zb Zc [] ?_)
 simp only [push_cast, seval, ↓reduceIte, Za, hN0, hN]
 refine Zr (t := (y8.Kind == 0)) rfl (fun c46 => ?_) (fun c46 => ?_)
 ·replace h := Zv c46 h
  refine Zh ?_
  refine Zb Zc [] ?_
  simp only [push_cast, seval, ↓reduceIte, Za, hN0, hN]
  refine Zg [6, 7] [true, false] ?_
  simp only [push_cast, seval, ↓reduceIte]
  refine Zt ?_
  try simp only [Zi, Zf]
  have h := Option.some.inj h; subst h
  refine Zl (.inr rfl) hU [.agg [.val (.int .i64 0), .val (.int .i64 0), .val (.int .i64 0), .val (.int .i64 0), .val (.int .i64 0), .val (.int .i64 0), .val (.int .i64 0), .val (.bool false), .val (.int .i64 0), .val (.int .i64 0)], .val (.int .i64 0)] (by omega) ?_
  simp only [push_cast, seval, ↓reduceIte, Za, Try.results50, hN0, hN]
 replace h := Zu c46 h
 refine Zx ?_
 try simp only [Zi, Zf]
 refine Zg [0, 1, 2, 6, 8] [true, true] ?_
 simp only [push_cast, seval, ↓reduceIte]
 refine Zh ?_
 refine Zq [0, 1, 2, 6, 8, 37] (Zb Zc [none, none] ?_)
 simp only [push_cast, seval, ↓reduceIte, Za, hN0, hN]
 repeat (with_reducible refine And.intro (by first | (intro h0; simp only [h0, and_self]; done) | (intro h0; simp only [h0, Bool.not_false, Bool.not_true, Bool.true_and, Bool.and_true, true_and, and_true, and_self, imp_self, implies_true, bne_iff_ne, ne_eq, beq_iff_eq]; done) | (intros; simp_all; done) | exact True.intro) ?_)
 refine Zr (t := (cond (y8.Kind == 3) y8.Double false)) rfl (fun c45 => ?_) (fun c45 => ?_)
 ·replace h := Zv c45 h
  refine Zh ?_
  obtain ⟨z11, hz11, h⟩ := bC h
  refine Qn (E' := ⟨147, [], [(0, .sl a0.length (fl (eL (eI .u64)) a0)), (6, .ref n 0), (8, .ref (n + 1) 0), (54, .val (.bool z11))]⟩) (O' := (Z4 O n [some ⟨false, 91, 10, 1, [.val (.int .i64 0), .val (.int .i64 0), .val (.int .i64 0), .val (.int .i64 0), .val (.int .i64 0), .val (.int .i64 0), .val (.int .i64 0), .val (.bool false), .val (.int .i64 0), .val (.int .i64 0)]⟩, some ⟨false, 89, 8, 1, (Yh y8)⟩])) (n0 := (n + 2)) ?_ ?_
  ·obtain ⟨y14, hy14, hz11⟩ := bC hz11
   rcases Bool.eq_false_or_eq_true y14 with c16 | c16
   ·replace hz11 := Zv c16 hz11
    obtain ⟨y15, hy15, hz11⟩ := bC hz11
    refine Zb Zc [some true, some true, some true, some true, some true, some true, some true, some true] ?_
    simp only [push_cast, seval, ↓reduceIte, Za, c16, hN0, hN]
    refine (Kl hy14).then ?_
    simp only [push_cast, seval, ↓reduceIte, Za, c16, hN0, hN]
    refine (Kl hy15).then ?_
    simp only [push_cast, seval, ↓reduceIte, Za, c16, hN0, hN]
    have hz11 := Option.some.inj hz11; subst hz11
    refine And.intro rfl (Fit2.of (Zs hU rfl rfl ?_) (by omega))
    simp only [push_cast, seval, ↓reduceIte, Za, c16, hN0, hN]
   replace hz11 := Zu c16 hz11
   refine Zb Zc [some false, some false, some false, some false, some false, some false, some false, some false] ?_
   simp only [push_cast, seval, ↓reduceIte, Za, c16, hN0, hN]
   refine (Kl hy14).then ?_
   simp only [push_cast, seval, ↓reduceIte, Za, c16, hN0, hN]
   have hz11 := Option.some.inj hz11; subst hz11
   refine And.intro rfl (Fit2.of (Zs hU rfl rfl ?_) (by omega))
   simp only [push_cast, seval, ↓reduceIte, Za, c16, hN0, hN]
  refine Zr (t := z11) rfl (fun c31 => ?_) (fun c31 => ?_)
  ·replace h := Zv c31 h
   refine Zh ?_
   refine Zb Zc [] ?_
   simp only [push_cast, seval, ↓reduceIte, Za, hN0, hN]
   refine Zg [6, 7] [true, false] ?_
   simp only [push_cast, seval, ↓reduceIte]
   refine Zt ?_
   try simp only [Zi, Zf]
   have h := Option.some.inj h; subst h
   refine Zl (.inr rfl) hU [.agg [.val (.int .i64 0), .val (.int .i64 0), .val (.int .i64 0), .val (.int .i64 0), .val (.int .i64 0), .val (.int .i64 0), .val (.int .i64 0), .val (.bool false), .val (.int .i64 0), .val (.int .i64 0)], .val (.int .i64 7)] (by omega) ?_
   simp only [push_cast, seval, ↓reduceIte, Za, Try.results50, hN0, hN]
  replace h := Zu c31 h
  refine Zx ?_
  try simp only [Zi, Zf]
  refine Zg [0, 6, 8] [true, true] ?_
  simp only [push_cast, seval, ↓reduceIte]
  obtain ⟨x17, hx17, ax17, bx17, cx17, h⟩ := bE (f := (eL (eI .u64))) Gs (fun _ => rfl) (by decide) h
  obtain ⟨x18, hx18, ax18, bx18, cx18, h⟩ := bE (f := (eI .u64)) Gp (fun _ => rfl) (by decide) h
  obtain ⟨y19, hy19, h⟩ := bC h
  obtain ⟨x21, hx21, ax21, bx21, cx21, h⟩ := bE (f := (eI .u64)) Gp (fun _ => rfl) (by decide) h
  obtain ⟨y22, hy22, h⟩ := bC h
  refine Qn (E' := ⟨147, [], [(0, .sl a0.length (fl (eL (eI .u64)) a0)), (6, .ref n 0), (9, .ref (n + 2) 0), (10, .ref (n + 3) 0)]⟩) (O' := (Z4 O n [some ⟨false, 91, 10, 1, [.val (.int .i64 0), .val (.int .i64 0), .val (.int .i64 0), .val (.int .i64 0), .val (.int .i64 0), .val (.int .i64 0), .val (.int .i64 0), .val (.bool false), .val (.int .i64 0), .val (.int .i64 0)]⟩, none, some ⟨false, 89, 8, 1, (Yh y19)⟩, some ⟨false, 89, 8, 1, (Yh y22)⟩])) (n0 := (n + 4)) ?_ ?_
  ·refine Zt2 Zc (by kernel_rfl) [.low, .low, .low, .low, .low, .low, .low, .low, .low, .low, .low, .low, .low, .low, .low, .low, .low, .low, .low, .low, .low, .pass, .pass, .pass, .pass] (fun i => i < (n + 2)) 21 22 [0, 1, 2, 3, 4, 5, 6, 7, 8, 9, 10, 11, 12, 13, 14, 15, 16, 17, 18, 19, 20] [23, 24] [.low, .low, .low, .low, .low, .low, .low, .low, .low, .low, .low, .low, .low, .low, .low, .low, .low, .low, .low, .low, .low] [.pass, .pass, .pass, .pass] [.pass, .pass, .pass, .pass] [] (by kernel_rfl) rfl rfl rfl ?_
   simp only [push_cast, Nat.reduceAdd, Nat.reduceSub, Nat.reduceMul, Nat.reduceLeDiff, Nat.reduceLT, Nat.reduceEqDiff, ↓reduceIte, reduceCtorEq, Int.reduceBEq, Int.reduceBNe, Nat.reduceBEq, Int.reduceLE, Int.reduceLT, Int.reduceEq, Int.reduceNe, Int.reduceNeg, Nat.reduceDiv, Nat.reduceMod, Nat.reducePow, Za, ax17, bx17, cx17, ax18, bx18, cx18, ax21, bx21, cx21, hN0, hN]
   repeat (with_reducible refine And.intro (by omega) ?_)
   first | refine PCallA.of (fun _ _ => Xb hy19) ?_ | refine PCall.of (Xb hy19) ?_
   simp only [push_cast, Nat.reduceAdd, Nat.reduceSub, Nat.reduceMul, Nat.reduceLeDiff, Nat.reduceLT, Nat.reduceEqDiff, ↓reduceIte, reduceCtorEq, Int.reduceBEq, Int.reduceBNe, Nat.reduceBEq, Int.reduceLE, Int.reduceLT, Int.reduceEq, Int.reduceNe, Int.reduceNeg, Nat.reduceDiv, Nat.reduceMod, Nat.reducePow, Za, ax17, bx17, cx17, ax18, bx18, cx18, ax21, bx21, cx21, hN0, hN]
   repeat (with_reducible refine And.intro (by omega) ?_)
   first | refine PCallA.of (fun _ _ => Xb hy22) ?_ | refine PCall.of (Xb hy22) ?_
   simp only [push_cast, Nat.reduceAdd, Nat.reduceSub, Nat.reduceMul, Nat.reduceLeDiff, Nat.reduceLT, Nat.reduceEqDiff, ↓reduceIte, reduceCtorEq, Int.reduceBEq, Int.reduceBNe, Nat.reduceBEq, Int.reduceLE, Int.reduceLT, Int.reduceEq, Int.reduceNe, Int.reduceNeg, Nat.reduceDiv, Nat.reduceMod, Nat.reducePow, Za, ax17, bx17, cx17, ax18, bx18, cx18, ax21, bx21, cx21, hN0, hN]
   repeat (with_reducible refine And.intro (by omega) ?_)
   refine And.intro ?_ ?_
   ·simp only [push_cast, Nat.reduceAdd, Nat.reduceSub, Nat.reduceMul, Nat.reduceLeDiff, Nat.reduceLT, Nat.reduceEqDiff, ↓reduceIte, reduceCtorEq, Int.reduceBEq, Int.reduceBNe, Nat.reduceBEq, Int.reduceLE, Int.reduceLT, Int.reduceEq, Int.reduceNe, Int.reduceNeg, Nat.reduceDiv, Nat.reduceMod, Nat.reducePow, Za, ax17, bx17, cx17, ax18, bx18, cx18, ax21, bx21, cx21, hN0, hN]
    repeat (with_reducible refine And.intro (by first | exact Ka rfl | exact Q8) ?_)
    refine And.intro rfl (Fit2.of (Zs hU rfl rfl ?_) (by omega))
    simp only [push_cast, Nat.reduceAdd, Nat.reduceSub, Nat.reduceMul, Nat.reduceLeDiff, Nat.reduceLT, Nat.reduceEqDiff, ↓reduceIte, reduceCtorEq, Int.reduceBEq, Int.reduceBNe, Nat.reduceBEq, Int.reduceLE, Int.reduceLT, Int.reduceEq, Int.reduceNe, Int.reduceNeg, Nat.reduceDiv, Nat.reduceMod, Nat.reducePow, Za, ax17, bx17, cx17, ax18, bx18, cx18, ax21, bx21, cx21, hN0, hN]
   simp only [push_cast, Nat.reduceAdd, Nat.reduceSub, Nat.reduceMul, Nat.reduceLeDiff, Nat.reduceLT, Nat.reduceEqDiff, ↓reduceIte, reduceCtorEq, Int.reduceBEq, Int.reduceBNe, Nat.reduceBEq, Int.reduceLE, Int.reduceLT, Int.reduceEq, Int.reduceNe, Int.reduceNeg, Nat.reduceDiv, Nat.reduceMod, Nat.reducePow, Za, ax17, bx17, cx17, ax18, bx18, cx18, ax21, bx21, cx21, hN0, hN]
   repeat (with_reducible refine And.intro (by first | exact Ka rfl | exact Q8) ?_)
   refine And.intro rfl ?_
   refine Fit2.trans (E' := (⟨147, [], [(0, .sl a0.length (fl (eL (eI .u64)) a0)), (6, .ref n 0), (9, .ref (n + 3) 0), (10, .ref (n + 2) 0)]⟩ : Env)) (O' := (Z4 O n [some ⟨false, 91, 10, 1, [.val (.int .i64 0), .val (.int .i64 0), .val (.int .i64 0), .val (.int .i64 0), .val (.int .i64 0), .val (.int .i64 0), .val (.int .i64 0), .val (.bool false), .val (.int .i64 0), .val (.int .i64 0)]⟩, none, some ⟨false, 89, 8, 1, (Yh y22)⟩, some ⟨false, 89, 8, 1, (Yh y19)⟩])) (n' := (n + 4)) (Fit2.of (Zs hU rfl rfl ?_) (by omega)) ?_
   ·simp only [push_cast, Nat.reduceAdd, Nat.reduceSub, Nat.reduceMul, Nat.reduceLeDiff, Nat.reduceLT, Nat.reduceEqDiff, ↓reduceIte, reduceCtorEq, Int.reduceBEq, Int.reduceBNe, Nat.reduceBEq, Int.reduceLE, Int.reduceLT, Int.reduceEq, Int.reduceNe, Int.reduceNeg, Nat.reduceDiv, Nat.reduceMod, Nat.reducePow, Za, ax17, bx17, cx17, ax18, bx18, cx18, ax21, bx21, cx21, hN0, hN]
   refine Zmd (k := 4) (k' := 4) hU [0, 1, 3, 2] [0, 1, 3, 2] rfl rfl rfl rfl ⟨rfl, rfl⟩ ?_
   simp only [push_cast, seval, ↓reduceIte, Za, hN0, hN]
  refine Zh ?_
  refine Zq [0, 6, 9, 10, 83] (Zb Zc [none, none] ?_)
  simp only [push_cast, seval, ↓reduceIte, Za, hN0, hN]
  repeat (with_reducible refine And.intro (by first | (intro h0; simp only [h0, and_self]; done) | (intro h0; simp only [h0, Bool.not_false, Bool.not_true, Bool.true_and, Bool.and_true, true_and, and_true, and_self, imp_self, implies_true, bne_iff_ne, ne_eq, beq_iff_eq]; done) | (intros; simp_all; done) | exact True.intro) ?_)
  refine Zr (t := (cond (y19.Kind != 3) true y19.Double)) rfl (fun c30 => ?_) (fun c30 => ?_)
  ·replace h := Zv c30 h
   refine Zh ?_
   refine Zb Zc [] ?_
   simp only [push_cast, seval, ↓reduceIte, Za, hN0, hN]
   refine Zg [6, 7] [true, false, false, false] ?_
   simp only [push_cast, seval, ↓reduceIte]
   refine Zt ?_
   try simp only [Zi, Zf]
   have h := Option.some.inj h; subst h
   refine Zl (.inr rfl) hU [.agg [.val (.int .i64 0), .val (.int .i64 0), .val (.int .i64 0), .val (.int .i64 0), .val (.int .i64 0), .val (.int .i64 0), .val (.int .i64 0), .val (.bool false), .val (.int .i64 0), .val (.int .i64 0)], .val (.int .i64 8)] (by omega) ?_
   simp only [push_cast, seval, ↓reduceIte, Za, Try.results50, hN0, hN]
  replace h := Zu c30 h
  refine Zx ?_
  try simp only [Zi, Zf]
  refine Zg [0, 6, 9, 10] [true, false, true, true] ?_
  simp only [push_cast, seval, ↓reduceIte]
  refine Zh ?_
  obtain ⟨y24, hy24, h⟩ := bC h
  refine Zb Zc [] ?_
  simp only [push_cast, seval, ↓reduceIte, Za, hN0, hN]
  refine (Zbg hy24).then ?_
  simp only [push_cast, seval, ↓reduceIte, Za, hN0, hN]
  refine Zg [0, 6, 9, 10, 11] [true, false, true, true] ?_
  simp only [push_cast, seval, ↓reduceIte]
  obtain ⟨z25, hz25, h⟩ := bC h
  refine Qn (E' := ⟨147, [], [(0, .sl a0.length (fl (eL (eI .u64)) a0)), (6, .ref n 0), (9, .ref (n + 2) 0), (10, .ref (n + 3) 0), (11, .val (.int .i64 z25))]⟩) (O' := (Z4 O n [some ⟨false, 91, 10, 1, [.val (.int .i64 0), .val (.int .i64 0), .val (.int .i64 0), .val (.int .i64 0), .val (.int .i64 0), .val (.int .i64 0), .val (.int .i64 0), .val (.bool false), .val (.int .i64 0), .val (.int .i64 0)]⟩, none, some ⟨false, 89, 8, 1, (Yh y19)⟩, some ⟨false, 89, 8, 1, (Yh y22)⟩])) (n0 := (n + 4)) ?_ ?_
  ·refine Zq [0, 6, 9, 10, 11, 93] (Zb Zc [none, none, none] ?_)
   simp only [push_cast, seval, ↓reduceIte, Za, hN0, hN]
   repeat (with_reducible refine And.intro (by first | (intro h0; simp only [h0, and_self]; done) | (intro h0; simp only [h0, Bool.not_false, Bool.not_true, Bool.true_and, Bool.and_true, true_and, and_true, and_self, imp_self, implies_true, bne_iff_ne, ne_eq, beq_iff_eq]; done) | (intros; simp_all; done) | exact True.intro) ?_)
   refine Zr (t := (cond (y24 == 0) (y22.Off != 0) false)) rfl (fun c26 => ?_) (fun c26 => ?_)
   ·replace hz25 := Zv c26 hz25
    refine Zb Zc [] ?_
    simp only [push_cast, seval, ↓reduceIte, Za, hN0, hN]
    have hz25 := Option.some.inj hz25; subst hz25
    refine And.intro rfl (Fit2.of (Zs hU rfl rfl ?_) (by omega))
    simp only [push_cast, seval, ↓reduceIte, Za, hN0, hN]
   replace hz25 := Zu c26 hz25
   refine Zx ?_
   try simp only [Zi, Zf]
   have hz25 := Option.some.inj hz25; subst hz25
   refine And.intro rfl (Fit2.of (Zs hU rfl rfl ?_) (by omega))
   simp only [push_cast, seval, ↓reduceIte, Za, hN0, hN]
  refine Zh ?_
  refine Zq [0, 6, 9, 10, 11, 95] (Zb Zc [] ?_)
  simp only [push_cast, seval, ↓reduceIte, Za, hN0, hN]
  refine Zr (t := (z25 != 0)) rfl (fun c29 => ?_) (fun c29 => ?_)
  ·replace h := Zv c29 h
   refine Zh ?_
   refine Zb Zc [] ?_
   simp only [push_cast, seval, ↓reduceIte, Za, hN0, hN]
   refine Zg [6, 7] [true, false, false, false] ?_
   simp only [push_cast, seval, ↓reduceIte]
   refine Zt ?_
   try simp only [Zi, Zf]
   have h := Option.some.inj h; subst h
   refine Zl (.inr rfl) hU [.agg [.val (.int .i64 0), .val (.int .i64 0), .val (.int .i64 0), .val (.int .i64 0), .val (.int .i64 0), .val (.int .i64 0), .val (.int .i64 0), .val (.bool false), .val (.int .i64 0), .val (.int .i64 0)], .val (.int .i64 z25)] (by omega) ?_
   simp only [push_cast, seval, ↓reduceIte, Za, Try.results50, hN0, hN]
  replace h := Zu c29 h
  refine Zx ?_
  try simp only [Zi, Zf]
  refine Zg [0, 6, 9, 10] [true, false, true, true] ?_
  simp only [push_cast, seval, ↓reduceIte]
  refine Zh ?_
  obtain ⟨y28, hy28, h⟩ := bC h
  refine Zb Zc [] ?_
  simp only [push_cast, seval, ↓reduceIte, Za, hN0, hN]
  refine (Zbh hy28).then ?_
  simp only [push_cast, seval, ↓reduceIte, Za, hN0, hN]
  refine Zg [6, 7] [true, false, false, false] ?_
  simp only [push_cast, seval, ↓reduceIte]
  refine Zt ?_
  try simp only [Zi, Zf]
  have h := Option.some.inj h; subst h
  refine Zl (.inr rfl) hU [.agg [.val (.int .i64 y28.1.P.Kind), .val (.int .i64 y28.1.P.Off), .val (.int .i64 y28.1.P.Data), .val (.int .i64 y28.1.P.Ptrs), .val (.int .i64 y28.1.P.Code), .val (.int .i64 y28.1.P.Count), .val (.int .i64 y28.1.P.Segment), .val (.bool y28.1.P.Double), .val (.int .i64 y28.1.Segment), .val (.int .i64 y28.1.At)], .val (.int .i64 y28.2)] (by omega) ?_
  simp only [push_cast, seval, ↓reduceIte, Za, Try.results50, hN0, hN]
 replace h := Zu c45 h
 refine Zx ?_
 try simp only [Zi, Zf]
 refine Zg [0, 1, 2, 6, 8] [true, true] ?_
 simp only [push_cast, seval, ↓reduceIte]
 obtain ⟨z32, hz32, h⟩ := bC h
 refine Zx5 (J := (Zaf (fun z32 => JN n (⟨147, [], [(0, .sl a0.length (fl (eL (eI .u64)) a0)), (1, .val (.int .i64 z32.1)), (2, .val (.int .i64 z32.2.1)), (6, .ref n 0), (8, .ref (n + 1) 0)]⟩ : Env) (Z4 O n [some ⟨false, 91, 10, 1, [.val (.int .i64 0), .val (.int .i64 0), .val (.int .i64 0), .val (.int .i64 0), .val (.int .i64 0), .val (.int .i64 0), .val (.int .i64 0), .val (.bool false), .val (.int .i64 0), .val (.int .i64 0)]⟩, some ⟨false, 89, 8, 1, [.val (.int .i64 z32.2.2.1), .val (.int .i64 z32.2.2.2.1), .val (.int .i64 z32.2.2.2.2.1), .val (.int .i64 z32.2.2.2.2.2.1), .val (.int .i64 z32.2.2.2.2.2.2.1), .val (.int .i64 z32.2.2.2.2.2.2.2.1), .val (.int .i64 z32.2.2.2.2.2.2.2.2.1), .val (.bool z32.2.2.2.2.2.2.2.2.2)]⟩]) (n + 2)) (fun z32 => JR n (⟨147, [], [(6, .ref n 0), (7, .val (.int .i64 7))]⟩ : Env) (Z4 O n [some ⟨false, 91, 10, 1, [.val (.int .i64 0), .val (.int .i64 0), .val (.int .i64 0), .val (.int .i64 0), .val (.int .i64 0), .val (.int .i64 0), .val (.int .i64 0), .val (.bool false), .val (.int .i64 0), .val (.int .i64 0)]⟩, none]) (n + 2)))) (z := z32) ?_ fun hw => ?_
 ·refine Zq [0, 1, 2, 6, 8, 110] (Zb Zc [] ?_)
  simp only [push_cast, seval, ↓reduceIte, Za, hN0, hN]
  refine Zr (t := (y8.Kind == 3)) rfl (fun c39 => ?_) (fun c39 => ?_)
  ·replace hz32 := Zv c39 hz32
   refine Zq [0, 1, 6, 8] (Zb Zc [] ?_)
   simp only [push_cast, seval, ↓reduceIte, Za, hN0, hN]
   refine Zq [0, 1, 2, 6, 8] (Zb Zc [] ?_)
   simp only [push_cast, seval, ↓reduceIte, Za, hN0, hN]
   refine Zh ?_
   refine Zh ?_
   obtain ⟨y34, hy34, hz32⟩ := bC hz32
   refine Zb Zc [] ?_
   simp only [push_cast, seval, ↓reduceIte, Za, hN0, hN]
   refine (Kl hy34).then ?_
   simp only [push_cast, seval, ↓reduceIte, Za, hN0, hN]
   refine Zg [0, 1, 2, 6, 8, 119] [true, true] ?_
   simp only [push_cast, seval, ↓reduceIte]
   refine Zr (t := (!y34)) rfl (fun c38 => ?_) (fun c38 => ?_)
   ·replace hz32 := Zv c38 hz32
    refine Zh ?_
    refine Zb Zc [] ?_
    simp only [push_cast, seval, ↓reduceIte, Za, hN0, hN]
    refine Zg [6, 7] [true, false] ?_
    simp only [push_cast, seval, ↓reduceIte]
    refine Zt ?_
    try simp only [Zi, Zf]
    have hz32 := Option.some.inj hz32; subst hz32
    refine And.intro rfl (Fit2.of (Zs hU rfl rfl ?_) (by omega))
    simp only [push_cast, seval, ↓reduceIte, Za, hN0, hN]
   replace hz32 := Zu c38 hz32
   refine Zx ?_
   try simp only [Zi, Zf]
   refine Zg [0, 1, 2, 6, 8] [true, true] ?_
   simp only [push_cast, seval, ↓reduceIte]
   obtain ⟨x35, hx35, ax35, bx35, cx35, hz32⟩ := bE (f := (eL (eI .u64))) Gs (fun _ => rfl) (by decide) hz32
   obtain ⟨x36, hx36, ax36, bx36, cx36, hz32⟩ := bE (f := (eI .u64)) Gp (fun _ => rfl) (by decide) hz32
   obtain ⟨y37, hy37, hz32⟩ := bC hz32
   refine Zb Zc [] ?_
   simp only [push_cast, Nat.reduceAdd, Nat.reduceSub, Nat.reduceMul, Nat.reduceLeDiff, Nat.reduceLT, Nat.reduceEqDiff, ↓reduceIte, reduceCtorEq, Int.reduceBEq, Int.reduceBNe, Nat.reduceBEq, Int.reduceLE, Int.reduceLT, Int.reduceEq, Int.reduceNe, Int.reduceNeg, Nat.reduceDiv, Nat.reduceMod, Nat.reducePow, Za, ax35, bx35, cx35, ax36, bx36, cx36, hN0, hN]
   refine (Xb hy37).then ?_
   simp only [push_cast, Nat.reduceAdd, Nat.reduceSub, Nat.reduceMul, Nat.reduceLeDiff, Nat.reduceLT, Nat.reduceEqDiff, ↓reduceIte, reduceCtorEq, Int.reduceBEq, Int.reduceBNe, Nat.reduceBEq, Int.reduceLE, Int.reduceLT, Int.reduceEq, Int.reduceNe, Int.reduceNeg, Nat.reduceDiv, Nat.reduceMod, Nat.reducePow, Za, ax35, bx35, cx35, ax36, bx36, cx36, hN0, hN]
   have hz32 := Option.some.inj hz32; subst hz32
   refine And.intro rfl (Fit2.of (Zs hU rfl rfl ?_) (by omega))
   simp only [push_cast, Nat.reduceAdd, Nat.reduceSub, Nat.reduceMul, Nat.reduceLeDiff, Nat.reduceLT, Nat.reduceEqDiff, ↓reduceIte, reduceCtorEq, Int.reduceBEq, Int.reduceBNe, Nat.reduceBEq, Int.reduceLE, Int.reduceLT, Int.reduceEq, Int.reduceNe, Int.reduceNeg, Nat.reduceDiv, Nat.reduceMod, Nat.reducePow, Za, ax35, bx35, cx35, ax36, bx36, cx36, hN0, hN]
  replace hz32 := Zu c39 hz32
  refine Zx ?_
  try simp only [Zi, Zf]
  have hz32 := Option.some.inj hz32; subst hz32
  refine And.intro rfl (Fit2.of (Zs hU rfl rfl ?_) (by omega))
  simp only [push_cast, seval, ↓reduceIte, Za, hN0, hN]
 rcases z32 with z32 | z32
 ·dsimp only [Zaf] at hw h
  refine Qn hw ?_
  refine Zh ?_
  obtain ⟨y41, hy41, h⟩ := bC h
  refine Zb Zc [] ?_
  simp only [push_cast, seval, ↓reduceIte, Za, hN0, hN]
  refine (Zbg hy41).then ?_
  simp only [push_cast, seval, ↓reduceIte, Za, hN0, hN]
  refine Zg [0, 1, 2, 6, 8, 12] [true, true] ?_
  simp only [push_cast, seval, ↓reduceIte]
  refine Zh ?_
  refine Zq [0, 1, 2, 6, 8, 12, 132] (Zb Zc [] ?_)
  simp only [push_cast, seval, ↓reduceIte, Za, hN0, hN]
  refine Zr (t := (y41 != 0)) rfl (fun c44 => ?_) (fun c44 => ?_)
  ·replace h := Zv c44 h
   refine Zh ?_
   refine Zb Zc [] ?_
   simp only [push_cast, seval, ↓reduceIte, Za, hN0, hN]
   refine Zg [6, 7] [true, false] ?_
   simp only [push_cast, seval, ↓reduceIte]
   refine Zt ?_
   try simp only [Zi, Zf]
   have h := Option.some.inj h; subst h
   refine Zl (.inr rfl) hU [.agg [.val (.int .i64 0), .val (.int .i64 0), .val (.int .i64 0), .val (.int .i64 0), .val (.int .i64 0), .val (.int .i64 0), .val (.int .i64 0), .val (.bool false), .val (.int .i64 0), .val (.int .i64 0)], .val (.int .i64 y41)] (by omega) ?_
   simp only [push_cast, seval, ↓reduceIte, Za, Try.results50, hN0, hN]
  replace h := Zu c44 h
  refine Zx ?_
  try simp only [Zi, Zf]
  refine Zg [0, 1, 2, 6, 8] [true, true] ?_
  simp only [push_cast, seval, ↓reduceIte]
  refine Zh ?_
  obtain ⟨y43, hy43, h⟩ := bC h
  refine Zb Zc [] ?_
  simp only [push_cast, seval, ↓reduceIte, Za, hN0, hN]
  refine (Zbh hy43).then ?_
  simp only [push_cast, seval, ↓reduceIte, Za, hN0, hN]
  refine Zg [6, 7] [true, false] ?_
  simp only [push_cast, seval, ↓reduceIte]
  refine Zt ?_
  try simp only [Zi, Zf]
  have h := Option.some.inj h; subst h
  refine Zl (.inr rfl) hU [.agg [.val (.int .i64 y43.1.P.Kind), .val (.int .i64 y43.1.P.Off), .val (.int .i64 y43.1.P.Data), .val (.int .i64 y43.1.P.Ptrs), .val (.int .i64 y43.1.P.Code), .val (.int .i64 y43.1.P.Count), .val (.int .i64 y43.1.P.Segment), .val (.bool y43.1.P.Double), .val (.int .i64 y43.1.Segment), .val (.int .i64 y43.1.At)], .val (.int .i64 y43.2)] (by omega) ?_
  simp only [push_cast, seval, ↓reduceIte, Za, Try.results50, hN0, hN]
 dsimp only [Zaf] at hw h
 refine Zvs hw ?_
 try simp only [Zi, Zf]
 have h := Option.some.inj h; subst h
 refine Zl (.inr rfl) hU [.agg [.val (.int .i64 0), .val (.int .i64 0), .val (.int .i64 0), .val (.int .i64 0), .val (.int .i64 0), .val (.int .i64 0), .val (.int .i64 0), .val (.bool false), .val (.int .i64 0), .val (.int .i64 0)], .val (.int .i64 7)] (by omega) ?_
 simp only [push_cast, seval, ↓reduceIte, Za, Try.results50, hN0, hN]
theorem Gy {a0 : (List (List Int))} {a1 : Int} {a2 : Int} {r : (Zm × Int)} {O : Objs} {n : Nat} (h : Q9 a0 a1 a2 = some r) : GTo Try.prog 17 [.sl a0.length (fl (eL (eI .u64)) a0), .val (.int .i64 a1), .val (.int .i64 a2)] O n (.tup [.agg (Zn r.1), .val (.int .i64 r.2)]) O n := by
 unfold Q9 at h
 refine Yn Zc Try.call17 Try.func17 rfl (Nat.le_of_ble_eq_true rfl) (Nat.le_refl _) fun hU => ?_
 have hN0 : O n = none := hU.fresh _ (Nat.le_refl _)
 have hN : ∀ k, O (n + k) = none := fun k => hU.fresh _ (Nat.le_add_right _ _)
 show W _ _ _ _ ⟨110, [], [(0, .sl a0.length (fl (eL (eI .u64)) a0)), (1, .val (.int .i64 a1)), (2, .val (.int .i64 a2))]⟩ (Z4 O n []) _
 refine Zq [0, 1, 2, 6] (Zb Zc [] ?_)
 simp only [push_cast, seval, ↓reduceIte, Za, hN0, hN]
 refine Zh ?_
 obtain ⟨y2, hy2, h⟩ := bC h
 refine Zb Zc [] ?_
 simp only [push_cast, seval, ↓reduceIte, Za, hN0, hN]
 refine (Zf9 hy2).then ?_
 simp only [push_cast, seval, ↓reduceIte, Za, hN0, hN]
 refine Zg [0, 6, 8, 9] [true, true] ?_
 simp only [push_cast, seval, ↓reduceIte]
 refine Zh ?_
 refine Zq [0, 6, 8, 9, 26] (Zb Zc [none, none, none, none] ?_)
 simp only [push_cast, seval, ↓reduceIte, Za, hN0, hN]
 repeat (with_reducible refine And.intro (by first | (intro h0; simp only [h0, and_self]; done) | (intro h0; simp only [h0, Bool.not_false, Bool.not_true, Bool.true_and, Bool.and_true, true_and, and_true, and_self, imp_self, implies_true, bne_iff_ne, ne_eq, beq_iff_eq]; done) | (intros; simp_all; done) | exact True.intro) ?_)
 refine Zr (t := (cond (y2.2 != 0) true (y2.1.P.Kind == 0))) rfl (fun c12 => ?_) (fun c12 => ?_)
 ·replace h := Zv c12 h
  refine Zh ?_
  refine Zb Zc [] ?_
  simp only [push_cast, seval, ↓reduceIte, Za, hN0, hN]
  refine Zg [6, 7] [true, false] ?_
  simp only [push_cast, seval, ↓reduceIte]
  refine Zt ?_
  try simp only [Zi, Zf]
  have h := Option.some.inj h; subst h
  refine Zl (.inr rfl) hU [.agg [.val (.int .i64 0), .val (.int .i64 0), .val (.int .i64 0), .val (.int .i64 0), .val (.int .i64 0), .val (.int .i64 0), .val (.int .u64 0)], .val (.int .i64 y2.2)] (by omega) ?_
  simp only [push_cast, seval, ↓reduceIte, Za, Try.results17, hN0, hN]
 replace h := Zu c12 h
 refine Zx ?_
 try simp only [Zi, Zf]
 refine Zg [0, 6, 8] [true, true] ?_
 simp only [push_cast, seval, ↓reduceIte]
 refine Zh ?_
 refine Zq [0, 6, 8, 32] (Zb Zc [] ?_)
 simp only [push_cast, seval, ↓reduceIte, Za, hN0, hN]
 refine Zr (t := (y2.1.P.Kind == 1)) rfl (fun c11 => ?_) (fun c11 => ?_)
 ·replace h := Zv c11 h
  refine Zh ?_
  refine Zb Zc [] ?_
  simp only [push_cast, seval, ↓reduceIte, Za, hN0, hN]
  refine Zg [6, 7] [true, false] ?_
  simp only [push_cast, seval, ↓reduceIte]
  refine Zt ?_
  try simp only [Zi, Zf]
  have h := Option.some.inj h; subst h
  refine Zl (.inr rfl) hU [.agg [.val (.int .i64 1), .val (.int .i64 y2.1.Segment), .val (.int .i64 y2.1.At), .val (.int .i64 y2.1.P.Data), .val (.int .i64 y2.1.P.Ptrs), .val (.int .i64 0), .val (.int .u64 0)], .val (.int .i64 0)] (by omega) ?_
  simp only [push_cast, seval, ↓reduceIte, Za, Try.results17, hN0, hN]
 replace h := Zu c11 h
 refine Zx ?_
 try simp only [Zi, Zf]
 refine Zg [0, 6, 8] [true, true] ?_
 simp only [push_cast, seval, ↓reduceIte]
 refine Zh ?_
 refine Zq [0, 6, 8, 47] (Zb Zc [] ?_)
 simp only [push_cast, seval, ↓reduceIte, Za, hN0, hN]
 refine Zr (t := (decide (y2.1.P.Code < 7))) rfl (fun c10 => ?_) (fun c10 => ?_)
 ·replace h := Zv c10 h
  refine Zh ?_
  refine Zb Zc [] ?_
  simp only [push_cast, seval, ↓reduceIte, Za, hN0, hN]
  refine Zg [6, 7] [true, false] ?_
  simp only [push_cast, seval, ↓reduceIte]
  refine Zt ?_
  try simp only [Zi, Zf]
  have h := Option.some.inj h; subst h
  refine Zl (.inr rfl) hU [.agg [.val (.int .i64 (IntKind.i64.wrap (2 + y2.1.P.Code))), .val (.int .i64 y2.1.Segment), .val (.int .i64 y2.1.At), .val (.int .i64 0), .val (.int .i64 0), .val (.int .i64 y2.1.P.Count), .val (.int .u64 0)], .val (.int .i64 0)] (by omega) ?_
  simp only [push_cast, seval, ↓reduceIte, Za, Try.results17, hN0, hN]
 replace h := Zu c10 h
 refine Zx ?_
 try simp only [Zi, Zf]
 refine Zg [0, 6, 8] [true, true] ?_
 simp only [push_cast, seval, ↓reduceIte]
 obtain ⟨x5, hx5, ax5, bx5, cx5, h⟩ := bE (f := (eL (eI .u64))) Gs (fun _ => rfl) (by decide) h
 obtain ⟨x6, hx6, ax6, bx6, cx6, h⟩ := bE (f := (eI .u64)) Gp (fun _ => rfl) (by decide) h
 refine Zq [6, 8, 10] (Xd Zc (by kernel_rfl) [] (by kernel_rfl) ?_)
 simp only [push_cast, Nat.reduceAdd, Nat.reduceSub, Nat.reduceMul, Nat.reduceLeDiff, Nat.reduceLT, Nat.reduceEqDiff, ↓reduceIte, reduceCtorEq, Int.reduceBEq, Int.reduceBNe, Nat.reduceBEq, Int.reduceLE, Int.reduceLT, Int.reduceEq, Int.reduceNe, Int.reduceNeg, Nat.reduceDiv, Nat.reduceMod, Nat.reducePow, Za, ax5, bx5, cx5, ax6, bx6, cx6, hN0, hN]
 refine Zh ?_
 obtain ⟨y8, hy8, h⟩ := bC h
 refine Zb Zc [] ?_
 simp only [push_cast, seval, ↓reduceIte, Za, hN0, hN]
 refine (Xb hy8).then ?_
 simp only [push_cast, seval, ↓reduceIte, Za, hN0, hN]
 refine Zg [6, 8, 10, 11] [true, true, true] ?_
 simp only [push_cast, seval, ↓reduceIte]
 refine Zh ?_
 refine Zq [6, 8, 11, 96] (Zb Zc [none, none, none, none, none, none, none, none, none, none, none, none, none, none, none, none, none, none] ?_)
 simp only [push_cast, seval, ↓reduceIte, Za, hN0, hN]
 repeat (with_reducible refine And.intro (by first | (intro h0; simp only [h0, and_self]; done) | (intro h0; simp only [h0, Bool.not_false, Bool.not_true, Bool.true_and, Bool.and_true, true_and, and_true, and_self, imp_self, implies_true, bne_iff_ne, ne_eq, beq_iff_eq]; done) | (intros; simp_all; done) | exact True.intro) ?_)
 refine Zr (t := (cond (cond (cond (x6 != 0) (y8.Kind != 1) false) true (decide (y8.Off < 0))) true (decide (y2.1.P.Count < (IntKind.i64.wrap (y8.Off * (IntKind.i64.wrap (y8.Data + y8.Ptrs)))))))) rfl (fun c9 => ?_) (fun c9 => ?_)
 ·replace h := Zv c9 h
  refine Zh ?_
  refine Zb Zc [] ?_
  simp only [push_cast, seval, ↓reduceIte, Za, hN0, hN]
  refine Zg [6, 7] [true, false, false] ?_
  simp only [push_cast, seval, ↓reduceIte]
  refine Zt ?_
  try simp only [Zi, Zf]
  have h := Option.some.inj h; subst h
  refine Zl (.inr rfl) hU [.agg [.val (.int .i64 0), .val (.int .i64 0), .val (.int .i64 0), .val (.int .i64 0), .val (.int .i64 0), .val (.int .i64 0), .val (.int .u64 0)], .val (.int .i64 8)] (by omega) ?_
  simp only [push_cast, seval, ↓reduceIte, Za, Try.results17, hN0, hN]
 replace h := Zu c9 h
 refine Zx ?_
 try simp only [Zi, Zf]
 refine Zg [6, 8, 11] [true, true, true] ?_
 simp only [push_cast, seval, ↓reduceIte]
 refine Zh ?_
 refine Zb Zc [] ?_
 simp only [push_cast, seval, ↓reduceIte, Za, hN0, hN]
 refine Zg [6, 7] [true, false, false] ?_
 simp only [push_cast, seval, ↓reduceIte]
 refine Zt ?_
 try simp only [Zi, Zf]
 have h := Option.some.inj h; subst h
 refine Zl (.inr rfl) hU [.agg [.val (.int .i64 9), .val (.int .i64 y2.1.Segment), .val (.int .i64 (IntKind.i64.wrap (y2.1.At + 1))), .val (.int .i64 y8.Data), .val (.int .i64 y8.Ptrs), .val (.int .i64 y8.Off), .val (.int .u64 0)], .val (.int .i64 0)] (by omega) ?_
 simp only [push_cast, seval, ↓reduceIte, Za, Try.results17, hN0, hN]
theorem X0 {a0 : Zm} {a1 : (List (List Int))} {r : (List Int)} {O : Objs} {n : Nat} (h : Y0 a0 a1 = some r) : GTo Try.prog 52 [.agg (Zn a0), .sl a1.length (fl (eL (eI .u64)) a1)] O n (.sl r.length (fl (eI .u64) r)) O n := by
 unfold Y0 at h
 refine Yn Zc Try.call52 Try.func52 rfl (Nat.le_of_ble_eq_true rfl) (Nat.le_refl _) fun hU => ?_
 have hN0 : O n = none := hU.fresh _ (Nat.le_refl _)
 have hN : ∀ k, O (n + k) = none := fun k => hU.fresh _ (Nat.le_add_right _ _)
 show W _ _ _ _ ⟨30, [], [(0, .agg (Zn a0)), (1, .sl a1.length (fl (eL (eI .u64)) a1))]⟩ (Z4 O n []) _
 refine Zq [1, 2] (Zb Zc [] ?_)
 simp only [push_cast, seval, ↓reduceIte, Za, hN0, hN]
 refine Zh ?_
 refine Zq [1, 2, 8] (Zb Zc [] ?_)
 simp only [push_cast, seval, ↓reduceIte, Za, hN0, hN]
 refine Zr (t := (a0.Kind == 10)) rfl (fun c8 => ?_) (fun c8 => ?_)
 ·replace h := Zv c8 h
  refine Zh ?_
  refine Zb Zc [] ?_
  simp only [push_cast, seval, ↓reduceIte, Za, hN0, hN]
  refine Zqp ⟨30, [], [(4, .row (n + 1) ([a0.N] : List Int).length)]⟩ (Z4 O n [none, some ⟨true, 31, 1, ([a0.N] : List Int).length, fl (eI .u64) ([a0.N] : List Int)⟩]) (Zs hU rfl rfl ?_) ?_
  ·simp only [push_cast, seval, ↓reduceIte, Za, hN0, hN]
  refine Zt ?_
  try simp only [Zi, Zf]
  have h := Option.some.inj h; subst h
  refine Zl (.inr rfl) hU [.row (n + 1) ([a0.N] : List Int).length] (by omega) ?_
  simp only [push_cast, seval, ↓reduceIte, Za, Try.results52, hN0, hN]
 replace h := Zu c8 h
 refine Zx ?_
 try simp only [Zi, Zf]
 refine Zg [1, 2] [true] ?_
 simp only [push_cast, seval, ↓reduceIte]
 refine Zh ?_
 refine Zq [1, 2, 14] (Zb Zc [] ?_)
 simp only [push_cast, seval, ↓reduceIte, Za, hN0, hN]
 refine Zr (t := (a0.Kind != 1)) rfl (fun c7 => ?_) (fun c7 => ?_)
 ·replace h := Zv c7 h
  refine Zq [4] (Zb Zc [] ?_)
  simp only [push_cast, seval, ↓reduceIte, Za, hN0, hN]
  refine Zt ?_
  try simp only [Zi, Zf]
  have h := Option.some.inj h; subst h
  refine Zl (.inr rfl) hU [.val (.slice none 0 0)] (by omega) ?_
  simp only [push_cast, seval, ↓reduceIte, Za, Try.results52, hN0, hN]
 replace h := Zu c7 h
 refine Zx ?_
 try simp only [Zi, Zf]
 refine Zg [1, 2] [true] ?_
 simp only [push_cast, seval, ↓reduceIte]
 refine Zq [1, 2, 5] (Zb Zc [] ?_)
 simp only [push_cast, seval, ↓reduceIte, Za, hN0, hN]
 refine Zh ?_
 obtain ⟨x4, hx4, ax4, bx4, cx4, h⟩ := bE (f := (eL (eI .u64))) Gs (fun _ => rfl) (by decide) h
 obtain ⟨l5, al5, bl5, cl5, gl5, h⟩ := bS (lo := (some (.i64, a0.At))) (hi := (some (.i64, (IntKind.i64.wrap (a0.At + a0.Data))))) (f := (eI .u64)) rfl rfl Zc7 Gp (fun _ => rfl) h
 obtain ⟨l6, pl6, ql6, el6, h⟩ := bA0 (k := l5.length) rfl h
 refine Zih Zc (by kernel_rfl) [false, false, false, false, false, false, false, false, false, false, false, false, false, false, true, false] [] (by kernel_rfl) ?_
 simp only [push_cast, Nat.reduceAdd, Nat.reduceSub, Nat.reduceMul, Nat.reduceLeDiff, Nat.reduceLT, Nat.reduceEqDiff, ↓reduceIte, reduceCtorEq, Int.reduceBEq, Int.reduceBNe, Nat.reduceBEq, Int.reduceLE, Int.reduceLT, Int.reduceEq, Int.reduceNe, Int.reduceNeg, Nat.reduceDiv, Nat.reduceMod, Nat.reducePow, Za, ax4, bx4, cx4, al5, bl5, cl5, gl5, pl6, ql6, el6, hN0, hN]
 refine Zqp ⟨30, [], [(4, .row (n + 1) l6.length)]⟩ (Z4 O n [none, some ⟨true, 31, 1, l6.length, fl (eI .u64) l6⟩]) (Zs hU rfl rfl ?_) ?_
 ·simp only [push_cast, Nat.reduceAdd, Nat.reduceSub, Nat.reduceMul, Nat.reduceLeDiff, Nat.reduceLT, Nat.reduceEqDiff, ↓reduceIte, reduceCtorEq, Int.reduceBEq, Int.reduceBNe, Nat.reduceBEq, Int.reduceLE, Int.reduceLT, Int.reduceEq, Int.reduceNe, Int.reduceNeg, Nat.reduceDiv, Nat.reduceMod, Nat.reducePow, Za, ax4, bx4, cx4, al5, bl5, cl5, gl5, pl6, ql6, el6, hN0, hN]
 refine Zt ?_
 try simp only [Zi, Zf]
 have h := Option.some.inj h; subst h
 refine Zl (.inr rfl) hU [.row (n + 1) l6.length] (by omega) ?_
 simp only [push_cast, seval, ↓reduceIte, Za, Try.results52, hN0, hN]
theorem Vn {a0 : Zm} {r : Int} {O : Objs} {n : Nat} (h : Y5 a0 = some r) : GTo Try.prog 19 [.agg (Zn a0)] O n (.val (.int .i64 r)) O n := by
 unfold Y5 at h
 refine Yn Zc Try.call19 Try.func19 rfl (Nat.le_of_ble_eq_true rfl) (Nat.le_refl _) fun hU => ?_
 have hN0 : O n = none := hU.fresh _ (Nat.le_refl _)
 have hN : ∀ k, O (n + k) = none := fun k => hU.fresh _ (Nat.le_add_right _ _)
 show W _ _ _ _ ⟨10, [], [(0, .agg (Zn a0))]⟩ (Z4 O n []) _
 refine Zq [1] (Zb Zc [] ?_)
 simp only [push_cast, seval, ↓reduceIte, Za, hN0, hN]
 refine Zh ?_
 refine Zq [1, 5] (Zb Zc [] ?_)
 simp only [push_cast, seval, ↓reduceIte, Za, hN0, hN]
 refine Zr (t := (a0.Kind == 1)) rfl (fun c1 => ?_) (fun c1 => ?_)
 ·replace h := Zv c1 h
  refine Zq [2] (Zb Zc [] ?_)
  simp only [push_cast, seval, ↓reduceIte, Za, hN0, hN]
  refine Zt ?_
  try simp only [Zi, Zf]
  have h := Option.some.inj h; subst h
  refine Zl (.inr rfl) hU [.val (.int .i64 a0.Ptrs)] (by omega) ?_
  simp only [push_cast, seval, ↓reduceIte, Za, Try.results19, hN0, hN]
 replace h := Zu c1 h
 refine Zx ?_
 try simp only [Zi, Zf]
 refine Zg [1] [true] ?_
 simp only [push_cast, seval, ↓reduceIte]
 refine Zq [2] (Zb Zc [] ?_)
 simp only [push_cast, seval, ↓reduceIte, Za, hN0, hN]
 refine Zt ?_
 try simp only [Zi, Zf]
 have h := Option.some.inj h; subst h
 refine Zl (.inr rfl) hU [.val (.int .i64 a0.Count)] (by omega) ?_
 simp only [push_cast, seval, ↓reduceIte, Za, Try.results19, hN0, hN]
theorem Zhy {a0 : Zd} {r : (Int × Int)} {O : Objs} {n : Nat} (h : Vl a0 = some r) : GTo Try.prog 54 [.agg (Zp a0)] O n (.tup [.val (.int .i64 r.1), .val (.int .i64 r.2)]) O n := by
 unfold Vl at h
 refine Yn Zc Try.call54 Try.func54 rfl (Nat.le_of_ble_eq_true rfl) (Nat.le_refl _) fun hU => ?_
 have hN0 : O n = none := hU.fresh _ (Nat.le_refl _)
 have hN : ∀ k, O (n + k) = none := fun k => hU.fresh _ (Nat.le_add_right _ _)
 show W _ _ _ _ ⟨11, [], [(0, .agg (Zp a0))]⟩ (Z4 O n []) _
 refine Zq [1] (Zb Zc [] ?_)
 simp only [push_cast, seval, ↓reduceIte, Za, hN0, hN]
 refine Zh ?_
 refine Zq [1, 6] (Zb Zc [] ?_)
 simp only [push_cast, seval, ↓reduceIte, Za, hN0, hN]
 refine Zr (t := (a0.kind != 9)) rfl (fun c1 => ?_) (fun c1 => ?_)
 ·replace h := Zv c1 h
  refine Zq [2, 3] (Zb Zc [] ?_)
  simp only [push_cast, seval, ↓reduceIte, Za, hN0, hN]
  refine Zt ?_
  try simp only [Zi, Zf]
  have h := Option.some.inj h; subst h
  refine Zl (.inr rfl) hU [.val (.int .i64 0), .val (.int .i64 0)] (by omega) ?_
  simp only [push_cast, seval, ↓reduceIte, Za, Try.results54, hN0, hN]
 replace h := Zu c1 h
 refine Zx ?_
 try simp only [Zi, Zf]
 refine Zg [1] [true] ?_
 simp only [push_cast, seval, ↓reduceIte]
 refine Zq [2, 3] (Xd Zc (by kernel_rfl) [] (by kernel_rfl) ?_)
 simp only [push_cast, seval, ↓reduceIte, Za, hN0, hN]
 refine Zt ?_
 try simp only [Zi, Zf]
 have h := Option.some.inj h; subst h
 refine Zl (.inr rfl) hU [.val (.int .i64 a0.words), .val (.int .i64 a0.ptrs)] (by omega) ?_
 simp only [push_cast, seval, ↓reduceIte, Za, Try.results54, hN0, hN]
theorem Zji {a0 : (List Int)} {a1 : Int} {r : Int} {O : Objs} {n : Nat} (h : K1 a0 a1 = some r) : GTo Try.prog 79 [.sl a0.length (fl (eI .u64) a0), .val (.int .i64 a1)] O n (.val (.int .u64 r)) O n := by
 unfold K1 at h
 refine Yn Zc Try.call79 Try.func79 rfl (Nat.le_of_ble_eq_true rfl) (Nat.le_refl _) fun hU => ?_
 have hN0 : O n = none := hU.fresh _ (Nat.le_refl _)
 have hN : ∀ k, O (n + k) = none := fun k => hU.fresh _ (Nat.le_add_right _ _)
 show W _ _ _ _ ⟨31, [], [(0, .sl a0.length (fl (eI .u64) a0)), (1, .val (.int .i64 a1))]⟩ (Z4 O n []) _
 refine Zq [0, 1] (Zb Zc [] ?_)
 simp only [push_cast, seval, ↓reduceIte, Za, hN0, hN]
 refine Zh ?_
 refine Zq [0, 1, 15] (Zb Zc [none, none, none, none, none] ?_)
 simp only [push_cast, seval, ↓reduceIte, Za, hN0, hN]
 repeat (with_reducible refine And.intro (by first | (intro h0; simp only [h0, and_self]; done) | (intro h0; simp only [h0, Bool.not_false, Bool.not_true, Bool.true_and, Bool.and_true, true_and, and_true, and_self, imp_self, implies_true, bne_iff_ne, ne_eq, beq_iff_eq]; done) | (intros; simp_all; done) | exact True.intro) ?_)
 refine Zr (t := (cond (decide (a1 < 0)) true (decide ((a0.length : Int) ≤ (IntKind.i64.wrap (Int.tdiv a1 64)))))) rfl (fun c5 => ?_) (fun c5 => ?_)
 ·replace h := Zv c5 h
  refine Zq [4] (Zb Zc [] ?_)
  simp only [push_cast, seval, ↓reduceIte, Za, hN0, hN]
  refine Zt ?_
  try simp only [Zi, Zf]
  have h := Option.some.inj h; subst h
  refine Zl (.inr rfl) hU [.val (.int .u64 0)] (by omega) ?_
  simp only [push_cast, seval, ↓reduceIte, Za, Try.results79, hN0, hN]
 replace h := Zu c5 h
 refine Zx ?_
 try simp only [Zi, Zf]
 refine Zg [0, 1] [] ?_
 simp only [push_cast, seval, ↓reduceIte]
 obtain ⟨x2, hx2, ax2, bx2, cx2, h⟩ := bE (f := (eI .u64)) Gp (fun _ => rfl) (by decide) h
 refine Zq [1, 5] (Zb Zc [] ?_)
 simp only [push_cast, Nat.reduceAdd, Nat.reduceSub, Nat.reduceMul, Nat.reduceLeDiff, Nat.reduceLT, Nat.reduceEqDiff, ↓reduceIte, reduceCtorEq, Int.reduceBEq, Int.reduceBNe, Nat.reduceBEq, Int.reduceLE, Int.reduceLT, Int.reduceEq, Int.reduceNe, Int.reduceNeg, Nat.reduceDiv, Nat.reduceMod, Nat.reducePow, Za, ax2, bx2, cx2, hN0, hN]
 refine Zh ?_
 refine Zq [1, 5, 6] (Zb Zc [] ?_)
 simp only [push_cast, seval, ↓reduceIte, Za, hN0, hN]
 refine Zg [1, 5, 6] [] ?_
 simp only [push_cast, seval, ↓reduceIte]
 obtain ⟨z4, hz4, h⟩ := bC h
 refine Kz (E' := ⟨31, [], [(5, .val (.int .u64 z4))]⟩) (O' := (Z4 O n [])) (n0 := n) ?_ ?_
 ·refine V4 hz4 (fun s0_ => ⟨31, [], [(1, .val (.int .i64 a1)), (5, .val (.int .u64 s0_.1)), (6, .val (.int .i64 s0_.2))]⟩) (fun s0_ => (Z4 O n [])) (fun z4 => JX 0 n (⟨31, [], [(5, .val (.int .u64 z4))]⟩ : Env) (Z4 O n []) n) ?_
  intro s0_ x0_ hs0_
  unfold Qc at hs0_
  try dsimp only
  refine Zh ?_
  refine Zq [1, 5, 6, 24] (Zb Zc [] ?_)
  simp only [push_cast, seval, ↓reduceIte, Za, hN0, hN]
  refine Zr (t := (decide (s0_.2 < (Int.tmod a1 64)))) rfl (fun c3 => ?_) (fun c3 => ?_)
  ·replace hs0_ := Zv c3 hs0_
   refine Zx ?_
   try simp only [Zi, Zf]
   refine Zg [1, 5, 6] [] ?_
   simp only [push_cast, seval, ↓reduceIte]
   refine Zh ?_
   refine Xc ?_
   refine Zb Zc [] ?_
   simp only [push_cast, seval, ↓reduceIte, Za, hN0, hN]
   refine Zg [1, 5, 6] [] ?_
   simp only [push_cast, seval, ↓reduceIte]
   refine Zb Zc [] ?_
   simp only [push_cast, seval, ↓reduceIte, Za, hN0, hN]
   have hs0_ := Option.some.inj hs0_; subst hs0_
   refine And.intro rfl (Fit2.of (Zs hU rfl rfl ?_) (by omega))
   simp only [push_cast, seval, ↓reduceIte, Za, hN0, hN]
  replace hs0_ := Zu c3 hs0_
  refine Gt ?_
  try simp only [Zi, Zf, ↓reduceIte, Nat.reduceEqDiff]
  have hs0_ := Option.some.inj hs0_; subst hs0_
  refine And.intro (fun h => by cases h) (And.intro rfl (Fit2.of (Zs hU rfl rfl ?_) (by omega)))
  simp only [push_cast, seval, ↓reduceIte, Za, hN0, hN]
 try simp only [Zi, Zf, ↓reduceIte, Nat.reduceEqDiff]
 refine Zg [5] [] ?_
 simp only [push_cast, seval, ↓reduceIte]
 refine Zq [4] (Zb Zc [] ?_)
 simp only [push_cast, seval, ↓reduceIte, Za, hN0, hN]
 refine Zt ?_
 try simp only [Zi, Zf]
 have h := Option.some.inj h; subst h
 refine Zl (.inr rfl) hU [.val (.int .u64 (Int.tmod z4 2))] (by omega) ?_
 simp only [push_cast, seval, ↓reduceIte, Za, Try.results79, hN0, hN]
theorem Zjj {a0 : (List Int)} {a1 : Int} {a2 : Int} {r : Int} {O : Objs} {n : Nat} (h : K2 a0 a1 a2 = some r) : GTo Try.prog 55 [.sl a0.length (fl (eI .u64) a0), .val (.int .i64 a1), .val (.int .i64 a2)] O n (.val (.int .u64 r)) O n := by
 unfold K2 at h
 refine Yn Zc Try.call55 Try.func55 rfl (Nat.le_of_ble_eq_true rfl) (Nat.le_refl _) fun hU => ?_
 have hN0 : O n = none := hU.fresh _ (Nat.le_refl _)
 have hN : ∀ k, O (n + k) = none := fun k => hU.fresh _ (Nat.le_add_right _ _)
 show W _ _ _ _ ⟨39, [], [(0, .sl a0.length (fl (eI .u64) a0)), (1, .val (.int .i64 a1)), (2, .val (.int .i64 a2))]⟩ (Z4 O n []) _
 refine Zq [0, 1, 2] (Zb Zc [] ?_)
 simp only [push_cast, seval, ↓reduceIte, Za, hN0, hN]
 refine Zh ?_
 obtain ⟨y2, hy2, h⟩ := bC h
 refine Zb Zc [] ?_
 simp only [push_cast, seval, ↓reduceIte, Za, hN0, hN]
 refine (Zbf hy2).then ?_
 simp only [push_cast, seval, ↓reduceIte, Za, hN0, hN]
 refine Zg [0, 2, 7] [] ?_
 simp only [push_cast, seval, ↓reduceIte]
 refine Zh ?_
 refine Zq [0, 2, 7, 21] (Zb Zc [none, none, none, none] ?_)
 simp only [push_cast, seval, ↓reduceIte, Za, hN0, hN]
 repeat (with_reducible refine And.intro (by first | (intro h0; simp only [h0, and_self]; done) | (intro h0; simp only [h0, Bool.not_false, Bool.not_true, Bool.true_and, Bool.and_true, true_and, and_true, and_self, imp_self, implies_true, bne_iff_ne, ne_eq, beq_iff_eq]; done) | (intros; simp_all; done) | exact True.intro) ?_)
 refine Zr (t := (cond (cond (decide (y2 < 1)) true (decide (a2 < 0))) true (decide (1099511627776 < a2)))) rfl (fun c6 => ?_) (fun c6 => ?_)
 ·replace h := Zv c6 h
  refine Zq [6] (Zb Zc [] ?_)
  simp only [push_cast, seval, ↓reduceIte, Za, hN0, hN]
  refine Zt ?_
  try simp only [Zi, Zf]
  have h := Option.some.inj h; subst h
  refine Zl (.inr rfl) hU [.val (.int .u64 0)] (by omega) ?_
  simp only [push_cast, seval, ↓reduceIte, Za, Try.results55, hN0, hN]
 replace h := Zu c6 h
 refine Zx ?_
 try simp only [Zi, Zf]
 refine Zg [0, 2, 7] [] ?_
 simp only [push_cast, seval, ↓reduceIte]
 refine Zq [0, 2, 7, 8] (Zb Zc [] ?_)
 simp only [push_cast, seval, ↓reduceIte, Za, hN0, hN]
 refine Zh ?_
 refine Zq [0, 2, 7, 8, 9] (Zb Zc [] ?_)
 simp only [push_cast, seval, ↓reduceIte, Za, hN0, hN]
 refine Zg [0, 2, 7, 8, 9] [] ?_
 simp only [push_cast, seval, ↓reduceIte]
 obtain ⟨z5, hz5, h⟩ := bC h
 refine Kz (E' := ⟨39, [], [(8, .val (.int .u64 z5))]⟩) (O' := (Z4 O n [])) (n0 := n) ?_ ?_
 ·refine V4 hz5 (fun s0_ => ⟨39, [], [(0, .sl a0.length (fl (eI .u64) a0)), (2, .val (.int .i64 a2)), (7, .val (.int .i64 y2)), (8, .val (.int .u64 s0_.1)), (9, .val (.int .i64 s0_.2))]⟩) (fun s0_ => (Z4 O n [])) (fun z5 => JX 0 n (⟨39, [], [(8, .val (.int .u64 z5))]⟩ : Env) (Z4 O n []) n) ?_
  intro s0_ x0_ hs0_
  unfold Qd at hs0_
  try dsimp only
  refine Zh ?_
  refine Zq [0, 2, 7, 8, 9, 25] (Zb Zc [] ?_)
  simp only [push_cast, seval, ↓reduceIte, Za, hN0, hN]
  refine Zr (t := (decide (0 ≤ s0_.2))) rfl (fun c4 => ?_) (fun c4 => ?_)
  ·replace hs0_ := Zv c4 hs0_
   refine Zx ?_
   try simp only [Zi, Zf]
   refine Zg [0, 2, 7, 8, 9] [] ?_
   simp only [push_cast, seval, ↓reduceIte]
   refine Zh ?_
   refine Xc ?_
   obtain ⟨y3, hy3, hs0_⟩ := bC hs0_
   refine Zb Zc [] ?_
   simp only [push_cast, seval, ↓reduceIte, Za, hN0, hN]
   refine (Zji hy3).then ?_
   simp only [push_cast, seval, ↓reduceIte, Za, hN0, hN]
   refine Zg [0, 2, 7, 8, 9] [] ?_
   simp only [push_cast, seval, ↓reduceIte]
   refine Zb Zc [] ?_
   simp only [push_cast, seval, ↓reduceIte, Za, hN0, hN]
   have hs0_ := Option.some.inj hs0_; subst hs0_
   refine And.intro rfl (Fit2.of (Zs hU rfl rfl ?_) (by omega))
   simp only [push_cast, seval, ↓reduceIte, Za, hN0, hN]
  replace hs0_ := Zu c4 hs0_
  refine Gt ?_
  try simp only [Zi, Zf, ↓reduceIte, Nat.reduceEqDiff]
  have hs0_ := Option.some.inj hs0_; subst hs0_
  refine And.intro (fun h => by cases h) (And.intro rfl (Fit2.of (Zs hU rfl rfl ?_) (by omega)))
  simp only [push_cast, seval, ↓reduceIte, Za, hN0, hN]
 try simp only [Zi, Zf, ↓reduceIte, Nat.reduceEqDiff]
 refine Zg [8] [] ?_
 simp only [push_cast, seval, ↓reduceIte]
 refine Zq [6] (Zb Zc [] ?_)
 simp only [push_cast, seval, ↓reduceIte, Za, hN0, hN]
 refine Zt ?_
 try simp only [Zi, Zf]
 have h := Option.some.inj h; subst h
 refine Zl (.inr rfl) hU [.val (.int .u64 z5)] (by omega) ?_
 simp only [push_cast, seval, ↓reduceIte, Za, Try.results55, hN0, hN]
theorem Gr {a0 : Zm} {a1 : (List (List Int))} {a2 : Int} {r : (Zm × Int)} {O : Objs} {n : Nat} (h : Xy a0 a1 a2 = some r) : GTo Try.prog 21 [.agg (Zn a0), .sl a1.length (fl (eL (eI .u64)) a1), .val (.int .i64 a2)] O n (.tup [.agg (Zn r.1), .val (.int .i64 r.2)]) O n := by
 unfold Xy at h
 refine Yn Zc Try.call21 Try.func21 rfl (Nat.le_of_ble_eq_true rfl) (Nat.le_refl _) fun hU => ?_
 have hN0 : O n = none := hU.fresh _ (Nat.le_refl _)
 have hN : ∀ k, O (n + k) = none := fun k => hU.fresh _ (Nat.le_add_right _ _)
 show W _ _ _ _ ⟨80, [], [(0, .agg (Zn a0)), (1, .sl a1.length (fl (eL (eI .u64)) a1)), (2, .val (.int .i64 a2))]⟩ (Z4 O n []) _
 refine Zq [1, 2, 3, 6] (Zb Zc [] ?_)
 simp only [push_cast, seval, ↓reduceIte, Za, hN0, hN]
 refine Zh ?_
 obtain ⟨z2, hz2, h⟩ := bC h
 refine Qn (E' := ⟨80, [], [(1, .sl a1.length (fl (eL (eI .u64)) a1)), (2, .val (.int .i64 a2)), (3, .ref n 0), (6, .ref (n + 1) 0), (15, .val (.bool z2))]⟩) (O' := (Z4 O n [some ⟨false, 33, 7, 1, (Zn a0)⟩, some ⟨false, 33, 7, 1, [.val (.int .i64 0), .val (.int .i64 0), .val (.int .i64 0), .val (.int .i64 0), .val (.int .i64 0), .val (.int .i64 0), .val (.int .u64 0)]⟩])) (n0 := (n + 2)) ?_ ?_
 ·rcases Bool.eq_false_or_eq_true (decide (a2 < 0)) with c5 | c5
  ·replace hz2 := Zv c5 hz2
   refine Zb Zc [some false, some false, some false, some false] ?_
   simp only [push_cast, seval, ↓reduceIte, Za, c5, hN0, hN]
   have hz2 := Option.some.inj hz2; subst hz2
   refine And.intro rfl (Fit2.of (Zs hU rfl rfl ?_) (by omega))
   simp only [push_cast, seval, ↓reduceIte, Za, c5, hN0, hN]
  replace hz2 := Zu c5 hz2
  obtain ⟨y4, hy4, hz2⟩ := bC hz2
  refine Zb Zc [some true, some true, some true, some true] ?_
  simp only [push_cast, seval, ↓reduceIte, Za, c5, hN0, hN]
  refine (Vn hy4).then ?_
  simp only [push_cast, seval, ↓reduceIte, Za, c5, hN0, hN]
  have hz2 := Option.some.inj hz2; subst hz2
  refine And.intro rfl (Fit2.of (Zs hU rfl rfl ?_) (by omega))
  simp only [push_cast, seval, ↓reduceIte, Za, c5, hN0, hN]
 refine Zr (t := z2) rfl (fun c19 => ?_) (fun c19 => ?_)
 ·replace h := Zv c19 h
  refine Zh ?_
  refine Zb Zc [] ?_
  simp only [push_cast, seval, ↓reduceIte, Za, hN0, hN]
  refine Zg [6, 7] [false, true] ?_
  simp only [push_cast, seval, ↓reduceIte]
  refine Zt ?_
  try simp only [Zi, Zf]
  have h := Option.some.inj h; subst h
  refine Zl (.inr rfl) hU [.agg [.val (.int .i64 0), .val (.int .i64 0), .val (.int .i64 0), .val (.int .i64 0), .val (.int .i64 0), .val (.int .i64 0), .val (.int .u64 0)], .val (.int .i64 0)] (by omega) ?_
  simp only [push_cast, seval, ↓reduceIte, Za, Try.results21, hN0, hN]
 replace h := Zu c19 h
 refine Zx ?_
 try simp only [Zi, Zf]
 refine Zg [1, 2, 3, 6] [true, true] ?_
 simp only [push_cast, seval, ↓reduceIte]
 refine Zh ?_
 refine Zq [1, 2, 3, 6, 19] (Zb Zc [] ?_)
 simp only [push_cast, seval, ↓reduceIte, Za, hN0, hN]
 refine Zr (t := (a0.Kind == 1)) rfl (fun c18 => ?_) (fun c18 => ?_)
 ·replace h := Zv c18 h
  refine Zh ?_
  obtain ⟨y7, hy7, h⟩ := bC h
  refine Zb Zc [] ?_
  simp only [push_cast, seval, ↓reduceIte, Za, hN0, hN]
  refine (Gy hy7).then ?_
  simp only [push_cast, seval, ↓reduceIte, Za, hN0, hN]
  refine Zg [6, 7] [false, true] ?_
  simp only [push_cast, seval, ↓reduceIte]
  refine Zt ?_
  try simp only [Zi, Zf]
  have h := Option.some.inj h; subst h
  refine Zl (.inr rfl) hU [.agg (Zn y7.1), .val (.int .i64 y7.2)] (by omega) ?_
  simp only [push_cast, seval, ↓reduceIte, Za, Try.results21, hN0, hN]
 replace h := Zu c18 h
 refine Zx ?_
 try simp only [Zi, Zf]
 refine Zg [1, 2, 3, 6] [true, true] ?_
 simp only [push_cast, seval, ↓reduceIte]
 refine Zh ?_
 refine Zq [1, 2, 3, 6, 35] (Zb Zc [] ?_)
 simp only [push_cast, seval, ↓reduceIte, Za, hN0, hN]
 refine Zr (t := (a0.Kind == 8)) rfl (fun c17 => ?_) (fun c17 => ?_)
 ·replace h := Zv c17 h
  refine Zh ?_
  obtain ⟨y9, hy9, h⟩ := bC h
  refine Zb Zc [] ?_
  simp only [push_cast, seval, ↓reduceIte, Za, hN0, hN]
  refine (Gy hy9).then ?_
  simp only [push_cast, seval, ↓reduceIte, Za, hN0, hN]
  refine Zg [6, 7] [false, true] ?_
  simp only [push_cast, seval, ↓reduceIte]
  refine Zt ?_
  try simp only [Zi, Zf]
  have h := Option.some.inj h; subst h
  refine Zl (.inr rfl) hU [.agg (Zn y9.1), .val (.int .i64 y9.2)] (by omega) ?_
  simp only [push_cast, seval, ↓reduceIte, Za, Try.results21, hN0, hN]
 replace h := Zu c17 h
 refine Zx ?_
 try simp only [Zi, Zf]
 refine Zg [1, 2, 3, 6] [true, true] ?_
 simp only [push_cast, seval, ↓reduceIte]
 refine Zh ?_
 refine Zq [1, 2, 3, 6, 48] (Zb Zc [] ?_)
 simp only [push_cast, seval, ↓reduceIte, Za, hN0, hN]
 refine Zr (t := (a0.Kind == 9)) rfl (fun c16 => ?_) (fun c16 => ?_)
 ·replace h := Zv c16 h
  refine Zh ?_
  refine Zb Zc [] ?_
  simp only [push_cast, seval, ↓reduceIte, Za, hN0, hN]
  refine Zg [6, 7] [false, true] ?_
  simp only [push_cast, seval, ↓reduceIte]
  refine Zt ?_
  try simp only [Zi, Zf]
  have h := Option.some.inj h; subst h
  refine Zl (.inr rfl) hU [.agg [.val (.int .i64 1), .val (.int .i64 a0.S), .val (.int .i64 (IntKind.i64.wrap (a0.At + (IntKind.i64.wrap (a2 * (IntKind.i64.wrap (a0.Data + a0.Ptrs))))))), .val (.int .i64 a0.Data), .val (.int .i64 a0.Ptrs), .val (.int .i64 0), .val (.int .u64 0)], .val (.int .i64 0)] (by omega) ?_
  simp only [push_cast, seval, ↓reduceIte, Za, Try.results21, hN0, hN]
 replace h := Zu c16 h
 refine Zx ?_
 try simp only [Zi, Zf]
 refine Zg [1, 2, 3, 6] [true, true] ?_
 simp only [push_cast, seval, ↓reduceIte]
 refine Zh ?_
 obtain ⟨x13, hx13, ax13, bx13, cx13, h⟩ := bE (f := (eL (eI .u64))) Gs (fun _ => rfl) (by decide) h
 obtain ⟨l14, al14, bl14, cl14, gl14, h⟩ := bS (lo := (some (.i64, a0.At))) (hi := none) (f := (eI .u64)) rfl rfl Zc7 Gp (fun _ => rfl) h
 obtain ⟨y15, hy15, h⟩ := bC h
 refine Zih Zc (by kernel_rfl) [false, false, false, false, false, false, false, false, false, false, false, false, false, false, true, false] [] (by kernel_rfl) ?_
 simp only [push_cast, Nat.reduceAdd, Nat.reduceSub, Nat.reduceMul, Nat.reduceLeDiff, Nat.reduceLT, Nat.reduceEqDiff, ↓reduceIte, reduceCtorEq, Int.reduceBEq, Int.reduceBNe, Nat.reduceBEq, Int.reduceLE, Int.reduceLT, Int.reduceEq, Int.reduceNe, Int.reduceNeg, Nat.reduceDiv, Nat.reduceMod, Nat.reducePow, Za, ax13, bx13, cx13, al14, bl14, cl14, gl14, hN0, hN]
 refine PCall.of (Zjj hy15) ?_
 simp only [push_cast, Nat.reduceAdd, Nat.reduceSub, Nat.reduceMul, Nat.reduceLeDiff, Nat.reduceLT, Nat.reduceEqDiff, ↓reduceIte, reduceCtorEq, Int.reduceBEq, Int.reduceBNe, Nat.reduceBEq, Int.reduceLE, Int.reduceLT, Int.reduceEq, Int.reduceNe, Int.reduceNeg, Nat.reduceDiv, Nat.reduceMod, Nat.reducePow, Za, ax13, bx13, cx13, al14, bl14, cl14, gl14, hN0, hN]
 refine Zg [6, 7] [false, true] ?_
 simp only [push_cast, seval, ↓reduceIte]
 refine Zt ?_
 try simp only [Zi, Zf]
 have h := Option.some.inj h; subst h
 refine Zl (.inr rfl) hU [.agg [.val (.int .i64 10), .val (.int .i64 0), .val (.int .i64 0), .val (.int .i64 0), .val (.int .i64 0), .val (.int .i64 0), .val (.int .u64 y15)], .val (.int .i64 0)] (by omega) ?_
 simp only [push_cast, seval, ↓reduceIte, Za, Try.results21, hN0, hN]
theorem V6 {a0 : Int} {a1 : Int} {r : Int} {O : Objs} {n : Nat} (h : Kc a0 a1 = some r) : GTo Try.prog 64 [.val (.int .i64 a0), .val (.int .i64 a1)] O n (.val (.int .i64 r)) O n := by
 unfold Kc at h
 refine Yn Zc Try.call64 Try.func64 rfl (Nat.le_of_ble_eq_true rfl) (Nat.le_refl _) fun hU => ?_
 have hN0 : O n = none := hU.fresh _ (Nat.le_refl _)
 have hN : ∀ k, O (n + k) = none := fun k => hU.fresh _ (Nat.le_add_right _ _)
 show W _ _ _ _ ⟨9, [], [(0, .val (.int .i64 a0)), (1, .val (.int .i64 a1))]⟩ (Z4 O n []) _
 refine Zq [0, 1] (Zb Zc [] ?_)
 simp only [push_cast, seval, ↓reduceIte, Za, hN0, hN]
 refine Zq [4] (Zb Zc [] ?_)
 simp only [push_cast, seval, ↓reduceIte, Za, hN0, hN]
 refine Zt ?_
 try simp only [Zi, Zf]
 have h := Option.some.inj h; subst h
 refine Zl (.inr rfl) hU [.val (.int .i64 (if a1 < (if a0 < 0 then 0 else a0) then a1 else (if a0 < 0 then 0 else a0)))] (by omega) ?_
 simp only [push_cast, seval, ↓reduceIte, Za, Try.results64, hN0, hN]
theorem Ja {a0 : Zy} {r : Zy} {O : Objs} {n : Nat} (h : K3 a0 = some r) : GTo Try.prog 36 [.agg (Yg a0)] O n (.agg (Yg r)) O n := by
 unfold K3 at h
 refine Yn Zc Try.call36 Try.func36 rfl (Nat.le_of_ble_eq_true rfl) (Nat.le_refl _) fun hU => ?_
 have hN0 : O n = none := hU.fresh _ (Nat.le_refl _)
 have hN : ∀ k, O (n + k) = none := fun k => hU.fresh _ (Nat.le_add_right _ _)
 show W _ _ _ _ ⟨16, [], [(0, .agg (Yg a0))]⟩ (Z4 O n []) _
 refine Zq [1, 2] (Zb Zc [] ?_)
 simp only [push_cast, seval, ↓reduceIte, Za, hN0, hN]
 refine Zh ?_
 obtain ⟨y5, hy5, h⟩ := bC h
 obtain ⟨y6, hy6, h⟩ := bC h
 obtain ⟨y7, hy7, h⟩ := bC h
 obtain ⟨y8, hy8, h⟩ := bC h
 refine Zih Zc (by kernel_rfl) [false, false, false, false, false, false, false, false, false, false, false, false, false, true] [] (by kernel_rfl) ?_
 simp only [push_cast, seval, ↓reduceIte, Za, hN0, hN]
 refine PCall.of (V6 hy5) ?_
 simp only [push_cast, seval, ↓reduceIte, Za, hN0, hN]
 refine PCall.of (V6 hy6) ?_
 simp only [push_cast, seval, ↓reduceIte, Za, hN0, hN]
 refine PCall.of (V6 hy7) ?_
 simp only [push_cast, seval, ↓reduceIte, Za, hN0, hN]
 refine PCall.of (V6 hy8) ?_
 simp only [push_cast, seval, ↓reduceIte, Za, hN0, hN]
 refine Zg [2] [false, true] ?_
 simp only [push_cast, seval, ↓reduceIte]
 refine Zt ?_
 try simp only [Zi, Zf]
 have h := Option.some.inj h; subst h
 refine Zl (.inr rfl) hU [.agg [.val (.int .i64 y5), .val (.int .i64 y6), .val (.int .i64 y7), .val (.int .i64 y8)]] (by omega) ?_
 simp only [push_cast, seval, ↓reduceIte, Za, Try.results36, hN0, hN]
theorem Km {a0 : Int} {a1 : Int} {r : Int} {O : Objs} {n : Nat} (h : Y2 a0 a1 = some r) : GTo Try.prog 65 [.val (.int .i64 a0), .val (.int .i64 a1)] O n (.val (.int .i64 r)) O n := by
 unfold Y2 at h
 refine Yn Zc Try.call65 Try.func65 rfl (Nat.le_of_ble_eq_true rfl) (Nat.le_refl _) fun hU => ?_
 have hN0 : O n = none := hU.fresh _ (Nat.le_refl _)
 have hN : ∀ k, O (n + k) = none := fun k => hU.fresh _ (Nat.le_add_right _ _)
 show W _ _ _ _ ⟨12, [], [(0, .val (.int .i64 a0)), (1, .val (.int .i64 a1))]⟩ (Z4 O n []) _
 refine Zq [0, 1] (Zb Zc [] ?_)
 simp only [push_cast, seval, ↓reduceIte, Za, hN0, hN]
 refine Zh ?_
 refine Zq [0, 1, 6] (Zb Zc [] ?_)
 simp only [push_cast, seval, ↓reduceIte, Za, hN0, hN]
 refine Zr (t := (decide (a0 < 0))) rfl (fun c2 => ?_) (fun c2 => ?_)
 ·replace h := Zv c2 h
  refine Zq [4] (Zb Zc [] ?_)
  simp only [push_cast, seval, ↓reduceIte, Za, hN0, hN]
  refine Zt ?_
  try simp only [Zi, Zf]
  have h := Option.some.inj h; subst h
  refine Zl (.inr rfl) hU [.val (.int .i64 0)] (by omega) ?_
  simp only [push_cast, seval, ↓reduceIte, Za, Try.results65, hN0, hN]
 replace h := Zu c2 h
 refine Zx ?_
 try simp only [Zi, Zf]
 refine Zg [0, 1] [] ?_
 simp only [push_cast, seval, ↓reduceIte]
 refine Zh ?_
 refine Zq [0, 1, 9] (Zb Zc [] ?_)
 simp only [push_cast, seval, ↓reduceIte, Za, hN0, hN]
 refine Zr (t := (decide (a1 < a0))) rfl (fun c1 => ?_) (fun c1 => ?_)
 ·replace h := Zv c1 h
  refine Zq [4] (Zb Zc [] ?_)
  simp only [push_cast, seval, ↓reduceIte, Za, hN0, hN]
  refine Zt ?_
  try simp only [Zi, Zf]
  have h := Option.some.inj h; subst h
  refine Zl (.inr rfl) hU [.val (.int .i64 a1)] (by omega) ?_
  simp only [push_cast, seval, ↓reduceIte, Za, Try.results65, hN0, hN]
 replace h := Zu c1 h
 refine Zx ?_
 try simp only [Zi, Zf]
 refine Zg [0] [] ?_
 simp only [push_cast, seval, ↓reduceIte]
 refine Zq [4] (Zb Zc [] ?_)
 simp only [push_cast, seval, ↓reduceIte, Za, hN0, hN]
 refine Zt ?_
 try simp only [Zi, Zf]
 have h := Option.some.inj h; subst h
 refine Zl (.inr rfl) hU [.val (.int .i64 a0)] (by omega) ?_
 simp only [push_cast, seval, ↓reduceIte, Za, Try.results65, hN0, hN]
theorem Zga {a0 : Zy} {r : Zy} {O : Objs} {n : Nat} (h : Je a0 = some r) : GTo Try.prog 38 [.agg (Yg a0)] O n (.agg (Yg r)) O n := by
 unfold Je at h
 refine Yn Zc Try.call38 Try.func38 rfl (Nat.le_of_ble_eq_true rfl) (Nat.le_refl _) fun hU => ?_
 have hN0 : O n = none := hU.fresh _ (Nat.le_refl _)
 have hN : ∀ k, O (n + k) = none := fun k => hU.fresh _ (Nat.le_add_right _ _)
 show W _ _ _ _ ⟨16, [], [(0, .agg (Yg a0))]⟩ (Z4 O n []) _
 refine Zq [1, 2] (Zb Zc [] ?_)
 simp only [push_cast, seval, ↓reduceIte, Za, hN0, hN]
 refine Zh ?_
 obtain ⟨y5, hy5, h⟩ := bC h
 obtain ⟨y6, hy6, h⟩ := bC h
 obtain ⟨y7, hy7, h⟩ := bC h
 obtain ⟨y8, hy8, h⟩ := bC h
 refine Zih Zc (by kernel_rfl) [false, false, false, false, false, false, false, false, false, false, false, false, false, true] [] (by kernel_rfl) ?_
 simp only [push_cast, seval, ↓reduceIte, Za, hN0, hN]
 refine PCall.of (Km hy5) ?_
 simp only [push_cast, seval, ↓reduceIte, Za, hN0, hN]
 refine PCall.of (Km hy6) ?_
 simp only [push_cast, seval, ↓reduceIte, Za, hN0, hN]
 refine PCall.of (Km hy7) ?_
 simp only [push_cast, seval, ↓reduceIte, Za, hN0, hN]
 refine PCall.of (Km hy8) ?_
 simp only [push_cast, seval, ↓reduceIte, Za, hN0, hN]
 refine Zg [2] [false, true] ?_
 simp only [push_cast, seval, ↓reduceIte]
 refine Zt ?_
 try simp only [Zi, Zf]
 have h := Option.some.inj h; subst h
 refine Zl (.inr rfl) hU [.agg [.val (.int .i64 y5), .val (.int .i64 y6), .val (.int .i64 y7), .val (.int .i64 y8)]] (by omega) ?_
 simp only [push_cast, seval, ↓reduceIte, Za, Try.results38, hN0, hN]
theorem Ze8 {a0 : Zd} {r : Int} {O : Objs} {n : Nat} (h : Vy a0 = some r) : GTo Try.prog 83 [.agg (Zp a0)] O n (.val (.int .i64 r)) O n := by
 unfold Vy at h
 refine Yn Zc Try.call83 Try.func83 rfl (Nat.le_of_ble_eq_true rfl) (Nat.le_refl _) fun hU => ?_
 have hN0 : O n = none := hU.fresh _ (Nat.le_refl _)
 have hN : ∀ k, O (n + k) = none := fun k => hU.fresh _ (Nat.le_add_right _ _)
 show W _ _ _ _ ⟨16, [], [(0, .agg (Zp a0))]⟩ (Z4 O n []) _
 refine Zq [1] (Zb Zc [] ?_)
 simp only [push_cast, seval, ↓reduceIte, Za, hN0, hN]
 refine Zh ?_
 refine Xc ?_
 refine Zh ?_
 obtain ⟨y2, hy2, h⟩ := bC h
 refine Zb Zc [] ?_
 simp only [push_cast, seval, ↓reduceIte, Za, hN0, hN]
 refine (J5 hy2).then ?_
 simp only [push_cast, seval, ↓reduceIte, Za, hN0, hN]
 refine Zg [1, 3] [true] ?_
 simp only [push_cast, seval, ↓reduceIte]
 refine Zr (t := (y2 == 0)) rfl (fun c12 => ?_) (fun c12 => ?_)
 ·replace h := Zv c12 h
  refine Zq [2] (Zb Zc [] ?_)
  simp only [push_cast, seval, ↓reduceIte, Za, hN0, hN]
  refine Zt ?_
  try simp only [Zi, Zf]
  have h := Option.some.inj h; subst h
  refine Zl (.inr rfl) hU [.val (.int .i64 0)] (by omega) ?_
  simp only [push_cast, seval, ↓reduceIte, Za, Try.results83, hN0, hN]
 replace h := Zu c12 h
 obtain ⟨z5, hz5, h⟩ := bC h
 refine Qn (E' := ⟨16, [], [(7, .val (.bool z5))]⟩) (O' := (Z4 O n [none])) (n0 := (n + 1)) ?_ ?_
 ·obtain ⟨y8, hy8, hz5⟩ := bC hz5
  rcases Bool.eq_false_or_eq_true (y8 == 9) with c10 | c10
  ·replace hz5 := Zv c10 hz5
   obtain ⟨y9, hy9, hz5⟩ := bC hz5
   refine Zb Zc [some true, some true, some true] ?_
   simp only [push_cast, seval, ↓reduceIte, Za, c10, hN0, hN]
   refine (J5 hy8).then ?_
   simp only [push_cast, seval, ↓reduceIte, Za, c10, hN0, hN]
   refine (Xq hy9).then ?_
   simp only [push_cast, seval, ↓reduceIte, Za, c10, hN0, hN]
   have hz5 := Option.some.inj hz5; subst hz5
   refine And.intro rfl (Fit2.of (Zs hU rfl rfl ?_) (by omega))
   simp only [push_cast, seval, ↓reduceIte, Za, c10, hN0, hN]
  replace hz5 := Zu c10 hz5
  refine Zb Zc [some false, some false, some false] ?_
  simp only [push_cast, seval, ↓reduceIte, Za, c10, hN0, hN]
  refine (J5 hy8).then ?_
  simp only [push_cast, seval, ↓reduceIte, Za, c10, hN0, hN]
  have hz5 := Option.some.inj hz5; subst hz5
  refine And.intro rfl (Fit2.of (Zs hU rfl rfl ?_) (by omega))
  simp only [push_cast, seval, ↓reduceIte, Za, c10, hN0, hN]
 refine Zr (t := z5) rfl (fun c11 => ?_) (fun c11 => ?_)
 ·replace h := Zv c11 h
  refine Zq [2] (Zb Zc [] ?_)
  simp only [push_cast, seval, ↓reduceIte, Za, hN0, hN]
  refine Zt ?_
  try simp only [Zi, Zf]
  have h := Option.some.inj h; subst h
  refine Zl (.inr rfl) hU [.val (.int .i64 2)] (by omega) ?_
  simp only [push_cast, seval, ↓reduceIte, Za, Try.results83, hN0, hN]
 replace h := Zu c11 h
 refine Zx ?_
 try simp only [Zi, Zf]
 refine Zg [] [false] ?_
 simp only [push_cast, seval, ↓reduceIte]
 refine Zq [2] (Zb Zc [] ?_)
 simp only [push_cast, seval, ↓reduceIte, Za, hN0, hN]
 refine Zt ?_
 try simp only [Zi, Zf]
 have h := Option.some.inj h; subst h
 refine Zl (.inr rfl) hU [.val (.int .i64 1)] (by omega) ?_
 simp only [push_cast, seval, ↓reduceIte, Za, Try.results83, hN0, hN]
theorem Ze9 {a0 : Zd} {r : Int} {O : Objs} {n : Nat} (h : K4 a0 = some r) : GTo Try.prog 84 [.agg (Zp a0)] O n (.val (.int .i64 r)) O n := by
 unfold K4 at h
 refine Yn Zc Try.call84 Try.func84 rfl (Nat.le_of_ble_eq_true rfl) (Nat.le_refl _) fun hU => ?_
 have hN0 : O n = none := hU.fresh _ (Nat.le_refl _)
 have hN : ∀ k, O (n + k) = none := fun k => hU.fresh _ (Nat.le_add_right _ _)
 show W _ _ _ _ ⟨35, [], [(0, .agg (Zp a0))]⟩ (Z4 O n []) _
 refine Zq [1] (Zb Zc [] ?_)
 simp only [push_cast, seval, ↓reduceIte, Za, hN0, hN]
 refine Zh ?_
 refine Zh ?_
 obtain ⟨y2, hy2, h⟩ := bC h
 refine Zb Zc [] ?_
 simp only [push_cast, seval, ↓reduceIte, Za, hN0, hN]
 refine (J5 hy2).then ?_
 simp only [push_cast, seval, ↓reduceIte, Za, hN0, hN]
 refine Zg [1, 6] [true] ?_
 simp only [push_cast, seval, ↓reduceIte]
 refine Xc ?_
 refine Zq [1, 6, 7] (Zb Zc [] ?_)
 simp only [push_cast, seval, ↓reduceIte, Za, hN0, hN]
 refine Zr (t := (y2 == 0)) rfl (fun c15 => ?_) (fun c15 => ?_)
 ·replace h := Zv c15 h
  refine Zq [2] (Zb Zc [] ?_)
  simp only [push_cast, seval, ↓reduceIte, Za, hN0, hN]
  refine Zt ?_
  try simp only [Zi, Zf]
  have h := Option.some.inj h; subst h
  refine Zl (.inr rfl) hU [.val (.int .i64 0)] (by omega) ?_
  simp only [push_cast, seval, ↓reduceIte, Za, Try.results84, hN0, hN]
 replace h := Zu c15 h
 refine Zq [1, 6, 9] (Zb Zc [] ?_)
 simp only [push_cast, seval, ↓reduceIte, Za, hN0, hN]
 refine Zr (t := (y2 == 1)) rfl (fun c14 => ?_) (fun c14 => ?_)
 ·replace h := Zv c14 h
  refine Zh ?_
  obtain ⟨y5, hy5, h⟩ := bC h
  obtain ⟨y6, hy6, h⟩ := bC h
  refine Xd Zc (by kernel_rfl) [] (by kernel_rfl) ?_
  simp only [push_cast, seval, ↓reduceIte, Za, hN0, hN]
  refine PCall.of (Zhz hy5) ?_
  simp only [push_cast, seval, ↓reduceIte, Za, hN0, hN]
  refine PCall.of (Xq hy6) ?_
  simp only [push_cast, seval, ↓reduceIte, Za, hN0, hN]
  refine Zg [2] [false] ?_
  simp only [push_cast, seval, ↓reduceIte]
  refine Zt ?_
  try simp only [Zi, Zf]
  have h := Option.some.inj h; subst h
  refine Zl (.inr rfl) hU [.val (.int .i64 (IntKind.i64.wrap ((IntKind.i64.wrap (1 + y5)) + y6)))] (by omega) ?_
  simp only [push_cast, seval, ↓reduceIte, Za, Try.results84, hN0, hN]
 replace h := Zu c14 h
 refine Zq [1, 17] (Zb Zc [] ?_)
 simp only [push_cast, seval, ↓reduceIte, Za, hN0, hN]
 refine Zr (t := (y2 == 9)) rfl (fun c13 => ?_) (fun c13 => ?_)
 ·replace h := Zv c13 h
  refine Zh ?_
  obtain ⟨y8, hy8, h⟩ := bC h
  refine Zb Zc [] ?_
  simp only [push_cast, seval, ↓reduceIte, Za, hN0, hN]
  refine (Zhy hy8).then ?_
  simp only [push_cast, seval, ↓reduceIte, Za, hN0, hN]
  refine Zg [1, 3, 4] [true] ?_
  simp only [push_cast, seval, ↓reduceIte]
  refine Zh ?_
  obtain ⟨y10, hy10, h⟩ := bC h
  refine Zb Zc [] ?_
  simp only [push_cast, seval, ↓reduceIte, Za, hN0, hN]
  refine (Xq hy10).then ?_
  simp only [push_cast, seval, ↓reduceIte, Za, hN0, hN]
  refine Zg [2] [false] ?_
  simp only [push_cast, seval, ↓reduceIte]
  refine Zt ?_
  try simp only [Zi, Zf]
  have h := Option.some.inj h; subst h
  refine Zl (.inr rfl) hU [.val (.int .i64 (IntKind.i64.wrap (1 + (IntKind.i64.wrap (y10 * (IntKind.i64.wrap ((IntKind.i64.wrap (1 + y8.1)) + y8.2)))))))] (by omega) ?_
  simp only [push_cast, seval, ↓reduceIte, Za, Try.results84, hN0, hN]
 replace h := Zu c13 h
 refine Zx ?_
 try simp only [Zi, Zf]
 refine Zg [1] [true] ?_
 simp only [push_cast, seval, ↓reduceIte]
 refine Zh ?_
 obtain ⟨y12, hy12, h⟩ := bC h
 refine Zb Zc [] ?_
 simp only [push_cast, seval, ↓reduceIte, Za, hN0, hN]
 refine (Xq hy12).then ?_
 simp only [push_cast, seval, ↓reduceIte, Za, hN0, hN]
 refine Zg [2] [false] ?_
 simp only [push_cast, seval, ↓reduceIte]
 refine Zt ?_
 try simp only [Zi, Zf]
 have h := Option.some.inj h; subst h
 refine Zl (.inr rfl) hU [.val (.int .i64 (IntKind.i64.wrap (1 + y12)))] (by omega) ?_
 simp only [push_cast, seval, ↓reduceIte, Za, Try.results84, hN0, hN]
end Go.Proofs.Ytmlhokaflhlhbaa
