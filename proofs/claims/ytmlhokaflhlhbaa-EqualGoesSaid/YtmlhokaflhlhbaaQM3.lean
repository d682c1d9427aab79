/- Part QM3 of this seat's mirrors: functions of the seat's program, and the plain functions that they are; each theorem bears its own conditions. -/
import Derived.Test.YtmlhokaflhlhbaaQE
import Derived.Test.YtmlhokaflhlhbaaQM2
namespace Go.Proofs.Ytmlhokaflhlhbaa
open Go.RowKit
set_option linter.unusedVariables false
set_option linter.unusedSimpArgs false
set_option maxRecDepth 100000
set_option maxHeartbeats 4000000
attribute [local push_cast] Yr Y6 Zo Yb Zj Zmb Zma Zm6 Zm5 Zi Ze Ziv Zen Zem onW Yz Ui Vi Ziw Zix Zg3 Zg7 Zg2 Zg6 Zj1 Zjy Zg5 Zj0 Zjz Zg4 Zjw Ze8 evS wok Xi Op.operands Call.operands gop onK onP atK List.all_cons List.all_nil Bool.and_true Bool.true_and Bool.and_self Value.oneCell' List.take_zero List.take_succ_cons List.take_nil List.drop_zero List.drop_succ_cons List.drop_nil List.append_nil Nat.add_zero Nat.zero_add Jk Z6 ev Xu Zo6 Zl1 Zl0 Zl6 Zl4 Zl5 Zl2 Zl3 Zlz Zis Zkp Zo9 Zct U5 Zb5 Uk Zgm Zay Zcd Zci Zeg Zed Zcg Zef Zee Zcf Zeb Zce Zch Zbr Zec Zep Zeo Vj Zdm Vk Zel Zco Zmg bLo bHi bMx U6 Zek Zqk Zcn Zd4 Zaw Kk Zk9 Zqn Zdk Zqq U4 Zs5 Zi6 Zja Zi5 Zi9 Zmr Zmo Zmm Zgn Zi7 Zmq Zmp Zi8 Zmn Zcr Zhm Zjl Ze4 Ze3 pop TK.isAgg Zmz Zm3 Zmy Zm2 Zjf Zq0 Zqx Zm1 Zqz Zqy Zm0 Zqw G.under G.unders List.getD_cons_zero List.getD_cons_succ List.set_cons_zero List.set_cons_succ List.map_cons List.map_nil List.toList_toArray Array.toList_append Option.toArray_none Option.toArray_some Array.toList_map Option.map_some Option.map_none Option.bind_some Option.bind_none List.getElem?_cons_zero List.getElem?_cons_succ List.getElem?_nil List.nil_append List.cons_append List.replicate_succ List.replicate_zero List.length_cons List.length_nil and_true true_and and_false false_and Bool.true_eq_false Bool.false_eq_true forall_const false_implies implies_true IntKind.bits if_true if_false ite_true ite_false eq_self true_implies false_or or_false or_true true_or not_true_eq_false not_false_eq_true decide_true decide_false decide_eq_true_eq decide_eq_false_iff_not beq_iff_eq bne_iff_ne ne_eq Bool.not_eq_true Bool.not_eq_false beq_eq_false_iff_ne bne_eq_false_iff_eq beq_self_eq_true bne_self_eq_false Option.some.injEq exists_eq_left' exists_eq_left ge_iff_le gt_iff_lt decide_not Bool.not_true Bool.not_false imp_self Zqp cond_true cond_false Zxe Zxd Bool.not_not Bool.and_false Bool.false_and Bool.or_true Bool.true_or Bool.or_false Bool.false_or Vx Zfi Zdg Zca Zba Gs Option.join_some Nat.add_assoc Int.toNat_natCast eI eB eS eL Zei Zdl Zcp Zmf Zmd Zme Ztg Zup Zdq Zc2 Znf Znd Zne Zpt Zeh Zo1 Zf6 Zlr Zbe Zlu List.length_append G.agg.injEq G.row.injEq G.ref.injEq G.val.injEq G.sl.injEq G.tup.injEq Value.int.injEq Value.bool.injEq Value.string.injEq List.cons.injEq exists_and_left exists_const List.flatten_cons List.flatten_nil Int.le_refl Nat.le_refl Zkk Jx Zid Bool.not_eq_true' Bool.not_eq_false' Zoq Zdf Zr3 Zr7 Zr2 Zr6 Zwe Zwa List.size_toArray Zho Zjp G.ren G.rens Zkw Za5 Znj Zlw Zlx Zjx Zr8 Zbx G.fn.injEq Zf8 Zkm Zop Zwb Zkl Zr5 Zwd Zwc Zr4 Zqv Zuf Option.join_none Xs Kv undef Zd6 Arr.len Arr.put_eq Zdp Zgt Ze0 Zc1 Znc Zna Znb onB Ztf Zk8 Zju Zh3 Zh4 Zh5 Zh6 Zh7 Zh8 Zgp Zgw Zgu Ze2 Zc3 Zgv Zjk Zjj Zji Zjh Zuo Zwv Zps Zm7 Qp Zpl Zhn Zgx Ze1 Zq1 Zjv Zcm Zd3 Gq Zf3 Zh9 Zia Zib Zic Zga Zgb Zgc Zgd Zge Zgf Zgg G0 prT Uo Zx1 Zrr Zvi Zrs Zx2 Zrt Zx3 Zru Zx4 Zrv Zx5 Zrw Zx6 Zrx Zx7 Zry Zu1 Zno Zu2 Znp Zu3 Znq Zu4 Znr Zu5 Zns Zu6 Znt Zu7 Znu Zu8 Znv Zu9 Znw Zva Znx Zvb Zny Zvc Znz Zvd Zn0 Zve Zh1 Zvf Zn1 Zvg Zn2 Zvh Zn3 Gm Zn4 Zvj Zn5 Zvk Zn6 Gn Zdv Zvl Zn7 Zvm Zn8 Zvn Zn9 Zvo Zoa Zvp Zob Zvq Zoc Zvr Zod Zvs Zoe Zvt Zof Zvu Zog Zvv Zoh Zvw Zoi Zvx Zoj Zvy Zok Zvz Zol Zv0 Zom Zrb Zj2 Zrc Zj3 Zrd Zj4 Zre Zj5 Zrf Zj6 Zrg Zj7 Zrh Zj8 Zri Zj9 Zrj Zka Zrk Zkb Zrl Zkc Zrm Zkd Zrn Zke Zro Zkf Zrp Zkg Qu Zff Zfd Zeu Zez Zfh Zdd Zc8 Zc6 Zfa Za8 Za7 Za0 Za3 Za9 Zar Zak Zaj Za6 Zcl Vg Vh Zw X8 U0 Uz Up Ut U1 Ug Ua V9 Uy Zm K6 K5 K1 K3 K7 Ks Kr Kq K4 Zfe Zfc Zet Zey Zfg Zdc Zc7 Zc5 Ze9 Zck Zaa Zz J7 J6 Jy J4 J8 Ju Jr Jq J5
theorem Zje {a0 : (Option Zk)} {r : (Zd × Int)} {O : Objs} {n : Nat} (h : Va a0 = some r) : GTo Try.prog 24 [(gP Zm a0)] O n (.tup [.agg (Zj r.1), .val (.int .i64 r.2)]) O n := by
 unfold Va at h
 refine Yl Zc Try.call24 Try.func24 rfl (Nat.le_of_ble_eq_true rfl) (Nat.le_refl _) fun hU => ?_
 have hN0 : O n = none := hU.fresh _ (Nat.le_refl _)
 have hN : ∀ k, O (n + k) = none := fun k => hU.fresh _ (Nat.le_add_right _ _)
 show W _ _ _ _ ⟨8, [], [(0, (gP Zm a0))]⟩ (Z3 O n []) _
 refine Zp [0, 2] (Zb Zc [] ?_)
 simp only [push_cast, seval, ↓reduceIte, Za, hN0, hN]
 refine Zg ?_
 obtain ⟨y2, hy2, h⟩ := bC h
 refine Zb Zc [] ?_
 simp only [push_cast, seval, ↓reduceIte, Za, hN0, hN]
 refine (Zbv hy2).then ?_
 simp only [push_cast, seval, ↓reduceIte, Za, hN0, hN]
 refine Zf [2, 3] [true] ?_
 simp only [push_cast, seval, ↓reduceIte]
 refine Zt ?_
 try simp only [Zi, Ze]
 have h := Option.some.inj h; subst h
 refine Zl (.inr rfl) hU [.agg (Zj y2.1), .val (.int .i64 y2.2)] (by omega) ?_
 simp only [push_cast, seval, ↓reduceIte, Za, Try.results24, hN0, hN]
theorem Xl {a0 : (List (List Int))} {r : Zd} {O : Objs} {n : Nat} (h : Ym a0 = some r) : GTo Try.prog 45 [.sl a0.length (fl (eL (eI .u64)) a0)] O n (.agg (Zj r)) O n := by
 unfold Ym at h
 refine Yl Zc Try.call45 Try.func45 rfl (Nat.le_of_ble_eq_true rfl) (Nat.le_refl _) fun hU => ?_
 have hN0 : O n = none := hU.fresh _ (Nat.le_refl _)
 have hN : ∀ k, O (n + k) = none := fun k => hU.fresh _ (Nat.le_add_right _ _)
 show W _ _ _ _ ⟨12, [], [(0, .sl a0.length (fl (eL (eI .u64)) a0))]⟩ (Z3 O n []) _
 refine Zp [0, 2] (Zb Zc [] ?_)
 simp only [push_cast, seval, ↓reduceIte, Za, hN0, hN]
 refine Zg ?_
 obtain ⟨y3, hy3, h⟩ := bC h
 obtain ⟨y4, hy4, h⟩ := bC h
 refine Zb Zc [] ?_
 simp only [push_cast, seval, ↓reduceIte, Za, hN0, hN]
 refine (Zpq hy3).then ?_
 simp only [push_cast, seval, ↓reduceIte, Za, hN0, hN]
 refine (Zje hy4).then ?_
 simp only [push_cast, seval, ↓reduceIte, Za, hN0, hN]
 refine Zf [2, 3] [true, true] ?_
 simp only [push_cast, seval, ↓reduceIte]
 refine Zg ?_
 refine Zb Zc [] ?_
 simp only [push_cast, seval, ↓reduceIte, Za, hN0, hN]
 refine Zf [2] [true, false] ?_
 simp only [push_cast, seval, ↓reduceIte]
 refine Zt ?_
 try simp only [Zi, Ze]
 have h := Option.some.inj h; subst h
 refine Zl (.inr rfl) hU [.agg (Zj y4.1)] (by omega) ?_
 simp only [push_cast, seval, ↓reduceIte, Za, Try.results45, hN0, hN]
theorem Qc {a0 : Zd} {r : Int} {O : Objs} {n : Nat} (h : Ys a0 = some r) : GTo Try.prog 25 [.agg (Zj a0)] O n (.val (.int .i64 r)) O n := by
 unfold Ys at h
 refine Yl Zc Try.call25 Try.func25 rfl (Nat.le_of_ble_eq_true rfl) (Nat.le_refl _) fun hU => ?_
 have hN0 : O n = none := hU.fresh _ (Nat.le_refl _)
 have hN : ∀ k, O (n + k) = none := fun k => hU.fresh _ (Nat.le_add_right _ _)
 show W _ _ _ _ ⟨5, [], [(0, .agg (Zj a0))]⟩ (Z3 O n []) _
 refine Zp [1] (Zb Zc [] ?_)
 simp only [push_cast, seval, ↓reduceIte, Za, hN0, hN]
 refine Zp [2] (Zb Zc [] ?_)
 simp only [push_cast, seval, ↓reduceIte, Za, hN0, hN]
 refine Zt ?_
 try simp only [Zi, Ze]
 have h := Option.some.inj h; subst h
 refine Zl (.inr rfl) hU [.val (.int .i64 a0.kind)] (by omega) ?_
 simp only [push_cast, seval, ↓reduceIte, Za, Try.results25, hN0, hN]
theorem Gl {a0 : Zd} {r : Int} {O : Objs} {n : Nat} (h : Qb a0 = some r) : GTo Try.prog 53 [.agg (Zj a0)] O n (.val (.int .i64 r)) O n := by
 unfold Qb at h
 refine Yl Zc Try.call53 Try.func53 rfl (Nat.le_of_ble_eq_true rfl) (Nat.le_refl _) fun hU => ?_
 have hN0 : O n = none := hU.fresh _ (Nat.le_refl _)
 have hN : ∀ k, O (n + k) = none := fun k => hU.fresh _ (Nat.le_add_right _ _)
 show W _ _ _ _ ⟨11, [], [(0, .agg (Zj a0))]⟩ (Z3 O n []) _
 refine Zp [1] (Zb Zc [] ?_)
 simp only [push_cast, seval, ↓reduceIte, Za, hN0, hN]
 refine Zg ?_
 refine Zp [1, 4] (Zb Zc [] ?_)
 simp only [push_cast, seval, ↓reduceIte, Za, hN0, hN]
 refine X7 ?_
 refine Zp [1, 4, 5] (Zb Zc [] ?_)
 simp only [push_cast, seval, ↓reduceIte, Za, hN0, hN]
 refine Zr (t := (a0.kind == 1)) rfl (fun c2 => ?_) (fun c2 => ?_)
 ·replace h := Zv c2 h
  refine Zp [2] (Zb Zc [] ?_)
  simp only [push_cast, seval, ↓reduceIte, Za, hN0, hN]
  refine Zt ?_
  try simp only [Zi, Ze]
  have h := Option.some.inj h; subst h
  refine Zl (.inr rfl) hU [.val (.int .i64 a0.words)] (by omega) ?_
  simp only [push_cast, seval, ↓reduceIte, Za, Try.results53, hN0, hN]
 replace h := Zu c2 h
 refine Zp [9] (Zb Zc [] ?_)
 simp only [push_cast, seval, ↓reduceIte, Za, hN0, hN]
 refine Zr (t := (a0.kind == 10)) rfl (fun c1 => ?_) (fun c1 => ?_)
 ·replace h := Zv c1 h
  refine Zp [2] (Zb Zc [] ?_)
  simp only [push_cast, seval, ↓reduceIte, Za, hN0, hN]
  refine Zt ?_
  try simp only [Zi, Ze]
  have h := Option.some.inj h; subst h
  refine Zl (.inr rfl) hU [.val (.int .i64 1)] (by omega) ?_
  simp only [push_cast, seval, ↓reduceIte, Za, Try.results53, hN0, hN]
 replace h := Zu c1 h
 refine Zx ?_
 try simp only [Zi, Ze]
 refine Zf [] [false] ?_
 simp only [push_cast, seval, ↓reduceIte]
 refine Zp [2] (Zb Zc [] ?_)
 simp only [push_cast, seval, ↓reduceIte, Za, hN0, hN]
 refine Zt ?_
 try simp only [Zi, Ze]
 have h := Option.some.inj h; subst h
 refine Zl (.inr rfl) hU [.val (.int .i64 0)] (by omega) ?_
 simp only [push_cast, seval, ↓reduceIte, Za, Try.results53, hN0, hN]
theorem Zd9 {a0 : Int} {r : (Int × Bool)} {O : Objs} {n : Nat} (h : Kx a0 = some r) : GTo Try.prog 80 [.val (.int .i64 a0)] O n (.tup [.val (.int .i64 r.1), .val (.bool r.2)]) O n := by
 unfold Kx at h
 refine Yl Zc Try.call80 Try.func80 rfl (Nat.le_of_ble_eq_true rfl) (Nat.le_refl _) fun hU => ?_
 have hN0 : O n = none := hU.fresh _ (Nat.le_refl _)
 have hN : ∀ k, O (n + k) = none := fun k => hU.fresh _ (Nat.le_add_right _ _)
 show W _ _ _ _ ⟨15, [], [(0, .val (.int .i64 a0))]⟩ (Z3 O n []) _
 refine Zp [0] (Zb Zc [] ?_)
 simp only [push_cast, seval, ↓reduceIte, Za, hN0, hN]
 refine Zg ?_
 obtain ⟨y6, hy6, ey6, h⟩ := bY (f := (eI .i64)) (cs := [.val (.int .i64 0), .val (.int .i64 1), .val (.int .i64 8), .val (.int .i64 16), .val (.int .i64 32), .val (.int .i64 64)]) rfl h
 have g7 := congrArg G.agg ey6
 obtain ⟨y8, hy8, ey8, h⟩ := bY (f := (eI .i64)) (cs := [.val (.int .i64 0), .val (.int .i64 0), .val (.int .i64 0), .val (.int .i64 0), .val (.int .i64 0), .val (.int .i64 0)]) rfl h
 have g9 := congrArg (GObj.mk false 138 6 1) ey8
 have g10 := Ziy (f := (eI .i64)) y8 y6 (fun _ => rfl)
 refine Zb Zc [] ?_
 simp only [push_cast, seval, ↓reduceIte, Za, g7, g9, g10, hN0, hN]
 refine Zf [0, 4] [true] ?_
 simp only [push_cast, seval, ↓reduceIte]
 refine Zg ?_
 refine Zp [0, 4, 11] (Zb Zc [none, none] ?_)
 simp only [push_cast, seval, ↓reduceIte, Za, hN0, hN]
 repeat (with_reducible refine And.intro (by first | (intro h0; simp only [h0, and_self]; done) | (intro h0; simp only [h0, Bool.not_false, Bool.not_true, Bool.true_and, Bool.and_true, true_and, and_true, and_self, imp_self, implies_true, bne_iff_ne, ne_eq, beq_iff_eq]; done) | (intros; simp_all; done) | exact True.intro) ?_)
 refine Zr (t := (cond (decide (a0 < 0)) true (decide (6 ≤ a0)))) rfl (fun c13 => ?_) (fun c13 => ?_)
 ·replace h := Zv c13 h
  refine Zp [2, 3] (Zb Zc [] ?_)
  simp only [push_cast, seval, ↓reduceIte, Za, hN0, hN]
  refine Zt ?_
  try simp only [Zi, Ze]
  have h := Option.some.inj h; subst h
  refine Zl (.inr rfl) hU [.val (.int .i64 0), .val (.bool false)] (by omega) ?_
  simp only [push_cast, seval, ↓reduceIte, Za, Try.results80, hN0, hN]
 replace h := Zu c13 h
 refine Zx ?_
 try simp only [Zi, Ze]
 refine Zf [0, 4] [true] ?_
 simp only [push_cast, seval, ↓reduceIte]
 obtain ⟨x12, hx12, ax12, bx12, cx12, h⟩ := bEA (f := (eI .i64)) (b := 6) rfl Zvi (fun _ => rfl) (by decide) h
 refine Zp [2, 3] (Zb Zc [] ?_)
 simp only [push_cast, Nat.reduceAdd, Nat.reduceSub, Nat.reduceMul, Nat.reduceLeDiff, Nat.reduceLT, Nat.reduceEqDiff, ↓reduceIte, reduceCtorEq, Int.reduceBEq, Int.reduceBNe, Nat.reduceBEq, Int.reduceLE, Int.reduceLT, Int.reduceEq, Int.reduceNe, Int.reduceNeg, Nat.reduceDiv, Nat.reduceMod, Nat.reducePow, Za, ax12, bx12, cx12, hN0, hN]
 refine Zt ?_
 try simp only [Zi, Ze]
 have h := Option.some.inj h; subst h
 refine Zl (.inr rfl) hU [.val (.int .i64 x12), .val (.bool true)] (by omega) ?_
 simp only [push_cast, seval, ↓reduceIte, Za, Try.results80, hN0, hN]
theorem Zpr {a0 : (List Int)} {a1 : Int} {a2 : Int} {r : Int} {O : Objs} {n : Nat} (h : Zag a0 a1 a2 = some r) : GTo Try.prog 81 [.sl a0.length (fl (eI .u64) a0), .val (.int .i64 a1), .val (.int .i64 a2)] O n (.val (.int .u64 r)) O n := by
 unfold Zag at h
 refine Yl Zc Try.call81 Try.func81 rfl (Nat.le_of_ble_eq_true rfl) (Nat.le_refl _) fun hU => ?_
 have hN0 : O n = none := hU.fresh _ (Nat.le_refl _)
 have hN : ∀ k, O (n + k) = none := fun k => hU.fresh _ (Nat.le_add_right _ _)
 show W _ _ _ _ ⟨45, [], [(0, .sl a0.length (fl (eI .u64) a0)), (1, .val (.int .i64 a1)), (2, .val (.int .i64 a2))]⟩ (Z3 O n []) _
 refine Zp [0, 1, 2] (Zb Zc [] ?_)
 simp only [push_cast, seval, ↓reduceIte, Za, hN0, hN]
 refine Zg ?_
 obtain ⟨y2, hy2, h⟩ := bC h
 refine Zb Zc [] ?_
 simp only [push_cast, seval, ↓reduceIte, Za, hN0, hN]
 refine (Zd9 hy2).then ?_
 simp only [push_cast, seval, ↓reduceIte, Za, hN0, hN]
 refine Zf [0, 2, 7] [] ?_
 simp only [push_cast, seval, ↓reduceIte]
 refine Zg ?_
 refine Zp [0, 2, 7, 20] (Zb Zc [none, none] ?_)
 simp only [push_cast, seval, ↓reduceIte, Za, hN0, hN]
 repeat (with_reducible refine And.intro (by first | (intro h0; simp only [h0, and_self]; done) | (intro h0; simp only [h0, Bool.not_false, Bool.not_true, Bool.true_and, Bool.and_true, true_and, and_true, and_self, imp_self, implies_true, bne_iff_ne, ne_eq, beq_iff_eq]; done) | (intros; simp_all; done) | exact True.intro) ?_)
 refine Zr (t := (cond (y2.1 == 0) true (decide (a2 < 0)))) rfl (fun c18 => ?_) (fun c18 => ?_)
 ·replace h := Zv c18 h
  refine Zp [6] (Zb Zc [] ?_)
  simp only [push_cast, seval, ↓reduceIte, Za, hN0, hN]
  refine Zt ?_
  try simp only [Zi, Ze]
  have h := Option.some.inj h; subst h
  refine Zl (.inr rfl) hU [.val (.int .u64 0)] (by omega) ?_
  simp only [push_cast, seval, ↓reduceIte, Za, Try.results81, hN0, hN]
 replace h := Zu c18 h
 refine Zx ?_
 try simp only [Zi, Ze]
 refine Zf [0, 2, 7] [] ?_
 simp only [push_cast, seval, ↓reduceIte]
 obtain ⟨pu4, h⟩ := bG h
 refine Zp [0, 2, 7, 9] (Zb Zc [] ?_)
 simp only [push_cast, seval, ↓reduceIte, Za, pu4, hN0, hN]
 refine Zg ?_
 obtain ⟨pu6, h⟩ := bG h
 refine Zp [0, 2, 7, 9, 28] (Zb Zc [] ?_)
 simp only [push_cast, seval, ↓reduceIte, Za, pu6, hN0, hN]
 refine Zr (t := (decide ((a0.length : Int) ≤ (IntKind.i64.wrap (Int.tdiv a2 (IntKind.i64.wrap (Int.tdiv 64 y2.1))))))) rfl (fun c17 => ?_) (fun c17 => ?_)
 ·replace h := Zv c17 h
  refine Zp [6] (Zb Zc [] ?_)
  simp only [push_cast, seval, ↓reduceIte, Za, hN0, hN]
  refine Zt ?_
  try simp only [Zi, Ze]
  have h := Option.some.inj h; subst h
  refine Zl (.inr rfl) hU [.val (.int .u64 0)] (by omega) ?_
  simp only [push_cast, seval, ↓reduceIte, Za, Try.results81, hN0, hN]
 replace h := Zu c17 h
 refine Zx ?_
 try simp only [Zi, Ze]
 refine Zf [0, 2, 7, 9] [] ?_
 simp only [push_cast, seval, ↓reduceIte]
 obtain ⟨pu12, h⟩ := bG h
 obtain ⟨x13, hx13, ax13, bx13, cx13, h⟩ := bE (f := (eI .u64)) Gm (fun _ => rfl) (by decide) h
 obtain ⟨pu14, h⟩ := bG h
 obtain ⟨pu15, h⟩ := bG h
 obtain ⟨pu16, h⟩ := bG h
 refine Zp [6] (Ku Zc (by kernel_rfl) [] (by kernel_rfl) ?_)
 simp only [push_cast, Nat.reduceAdd, Nat.reduceSub, Nat.reduceMul, Nat.reduceLeDiff, Nat.reduceLT, Nat.reduceEqDiff, ↓reduceIte, reduceCtorEq, Int.reduceBEq, Int.reduceBNe, Nat.reduceBEq, Int.reduceLE, Int.reduceLT, Int.reduceEq, Int.reduceNe, Int.reduceNeg, Nat.reduceDiv, Nat.reduceMod, Nat.reducePow, Za, pu12, ax13, bx13, cx13, pu14, pu15, pu16, hN0, hN]
 refine Zt ?_
 try simp only [Zi, Ze]
 have h := Option.some.inj h; subst h
 refine Zl (.inr rfl) hU [.val (.int .u64 (IntKind.u64.wrap (K0 .u64 (Int.fdiv x13 (2 ^ min (Int.toNat (IntKind.i64.wrap ((Int.tmod a2 (IntKind.i64.wrap (Int.tdiv 64 y2.1))) * y2.1))) 64)) (IntKind.u64.wrap ((IntKind.u64.wrap (1 * 2 ^ min (Int.toNat y2.1) 64)) - 1)))))] (by omega) ?_
 simp only [push_cast, seval, ↓reduceIte, Za, Try.results81, hN0, hN]
theorem Zcy {a0 : Zd} {r : Int} {O : Objs} {n : Nat} (h : Qn a0 = some r) : GTo Try.prog 59 [.agg (Zj a0)] O n (.val (.int .u64 r)) O n := by
 unfold Qn at h
 refine Yl Zc Try.call59 Try.func59 rfl (Nat.le_of_ble_eq_true rfl) (Nat.le_refl _) fun hU => ?_
 have hN0 : O n = none := hU.fresh _ (Nat.le_refl _)
 have hN : ∀ k, O (n + k) = none := fun k => hU.fresh _ (Nat.le_add_right _ _)
 show W _ _ _ _ ⟨42, [], [(0, .agg (Zj a0))]⟩ (Z3 O n []) _
 refine Zp [1] (Zb Zc [] ?_)
 simp only [push_cast, seval, ↓reduceIte, Za, hN0, hN]
 refine Zg ?_
 obtain ⟨y2, hy2, h⟩ := bC h
 refine Zb Zc [] ?_
 simp only [push_cast, seval, ↓reduceIte, Za, hN0, hN]
 refine (Zd9 hy2).then ?_
 simp only [push_cast, seval, ↓reduceIte, Za, hN0, hN]
 refine Zf [1, 3] [true] ?_
 simp only [push_cast, seval, ↓reduceIte]
 refine Zg ?_
 refine Zp [1, 3, 15] (Zb Zc [] ?_)
 simp only [push_cast, seval, ↓reduceIte, Za, hN0, hN]
 refine Zr (t := (y2.1 == 0)) rfl (fun c13 => ?_) (fun c13 => ?_)
 ·replace h := Zv c13 h
  refine Zp [2] (Zb Zc [] ?_)
  simp only [push_cast, seval, ↓reduceIte, Za, hN0, hN]
  refine Zt ?_
  try simp only [Zi, Ze]
  have h := Option.some.inj h; subst h
  refine Zl (.inr rfl) hU [.val (.int .u64 0)] (by omega) ?_
  simp only [push_cast, seval, ↓reduceIte, Za, Try.results59, hN0, hN]
 replace h := Zu c13 h
 refine Zx ?_
 try simp only [Zi, Ze]
 refine Zf [1, 3] [true] ?_
 simp only [push_cast, seval, ↓reduceIte]
 obtain ⟨pu4, h⟩ := bG h
 refine Zp [1, 5] (Zb Zc [] ?_)
 simp only [push_cast, seval, ↓reduceIte, Za, pu4, hN0, hN]
 refine Zg ?_
 obtain ⟨pu7, h⟩ := bG h
 obtain ⟨y8, hy8, h⟩ := bC h
 refine Ku Zc (by kernel_rfl) [] (by kernel_rfl) ?_
 simp only [push_cast, seval, ↓reduceIte, Za, pu7, hN0, hN]
 refine PCall.of (Q0 hy8) ?_
 simp only [push_cast, seval, ↓reduceIte, Za, pu7, hN0, hN]
 refine Zf [1, 5, 6] [true] ?_
 simp only [push_cast, seval, ↓reduceIte]
 refine Zg ?_
 obtain ⟨pu11, h⟩ := bG h
 obtain ⟨y12, hy12, h⟩ := bC h
 refine Zbq Zc (by kernel_rfl) [.plain, .pass, .low, .low, .low, .low, .low, .low, .bar, .plain] (fun i => i < (n + 1)) [0, 2, 3, 4, 5, 6, 7, 1, 8, 9] [.plain, .low, .low, .low, .low, .low, .low, .pass, .bar, .plain] [] (by kernel_rfl) rfl ?_
 simp only [push_cast, seval, ↓reduceIte, Za, pu11, hN0, hN]
 repeat (with_reducible refine And.intro (by first | omega | exact Qh rfl | exact Xw | exact Kf rfl | exact Kj rfl rfl | exact agree_ltne rfl | exact agree_ltne0 rfl) ?_)
 refine GCalls.lend (Zpr hy12) rfl ?_ ?_
 ·simp only [push_cast, seval, ↓reduceIte, Za, pu11, hN0, hN]
 simp only [push_cast, seval, ↓reduceIte, Za, pu11, hN0, hN]
 repeat (with_reducible refine And.intro (by first | omega | exact Qh rfl | exact Xw | exact Kf rfl | exact Kj rfl rfl | exact agree_ltne rfl | exact agree_ltne0 rfl) ?_)
 refine Zkz ⟨42, [], [(2, .val (.int .u64 y12))]⟩ (Z3 O n [none, none]) (Zs hU rfl rfl ?_) ?_
 ·simp only [push_cast, seval, ↓reduceIte, Za, pu11, hN0, hN]
 refine Zt ?_
 try simp only [Zi, Ze]
 have h := Option.some.inj h; subst h
 refine Zl (.inr rfl) hU [.val (.int .u64 y12)] (by omega) ?_
 simp only [push_cast, seval, ↓reduceIte, Za, Try.results59, hN0, hN]
theorem Vo {a0 : Zd} {a1 : Int} {r : Int} {O : Objs} {n : Nat} (h : X0 a0 a1 = some r) : GTo Try.prog 27 [.agg (Zj a0), .val (.int .i64 a1)] O n (.val (.int .u64 r)) O n := by
 unfold X0 at h
 refine Yl Zc Try.call27 Try.func27 rfl (Nat.le_of_ble_eq_true rfl) (Nat.le_refl _) fun hU => ?_
 have hN0 : O n = none := hU.fresh _ (Nat.le_refl _)
 have hN : ∀ k, O (n + k) = none := fun k => hU.fresh _ (Nat.le_add_right _ _)
 show W _ _ _ _ ⟨33, [], [(0, .agg (Zj a0)), (1, .val (.int .i64 a1))]⟩ (Z3 O n []) _
 refine Zp [1, 2] (Zb Zc [] ?_)
 simp only [push_cast, seval, ↓reduceIte, Za, hN0, hN]
 refine Zg ?_
 obtain ⟨z2, hz2, h⟩ := bC h
 refine Qt (E' := ⟨33, [], [(1, .val (.int .i64 a1)), (2, .ref n 0), (14, .val (.bool z2))]⟩) (O' := (Z3 O n [some ⟨false, 27, 9, 1, (Zj a0)⟩])) (n0 := (n + 1)) ?_ ?_
 ·rcases Bool.eq_false_or_eq_true (decide (a1 < 0)) with c5 | c5
  ·replace hz2 := Zv c5 hz2
   refine Zb Zc [some false, some false, some false, some false] ?_
   simp only [push_cast, seval, ↓reduceIte, Za, c5, hN0, hN]
   have hz2 := Option.some.inj hz2; subst hz2
   refine And.intro rfl (Fit2.of (Zs hU rfl rfl ?_) (by omega))
   simp only [push_cast, seval, ↓reduceIte, Za, c5, hN0, hN]
  replace hz2 := Zu c5 hz2
  obtain ⟨y4, hy4, hz2⟩ := bC hz2
  refine Zb Zc [some true, some true, some true, some true] ?_
  simp only [push_cast, seval, ↓reduceIte, Za, c5, hN0, hN]
  refine (Gl hy4).then ?_
  simp only [push_cast, seval, ↓reduceIte, Za, c5, hN0, hN]
  have hz2 := Option.some.inj hz2; subst hz2
  refine And.intro rfl (Fit2.of (Zs hU rfl rfl ?_) (by omega))
  simp only [push_cast, seval, ↓reduceIte, Za, c5, hN0, hN]
 refine Zr (t := z2) rfl (fun c11 => ?_) (fun c11 => ?_)
 ·replace h := Zv c11 h
  refine Zp [4] (Zb Zc [] ?_)
  simp only [push_cast, seval, ↓reduceIte, Za, hN0, hN]
  refine Zt ?_
  try simp only [Zi, Ze]
  have h := Option.some.inj h; subst h
  refine Zl (.inr rfl) hU [.val (.int .u64 0)] (by omega) ?_
  simp only [push_cast, seval, ↓reduceIte, Za, Try.results27, hN0, hN]
 replace h := Zu c11 h
 refine Zx ?_
 try simp only [Zi, Ze]
 refine Zf [1, 2] [true] ?_
 simp only [push_cast, seval, ↓reduceIte]
 refine Zg ?_
 refine Zp [1, 2, 17] (Zb Zc [] ?_)
 simp only [push_cast, seval, ↓reduceIte, Za, hN0, hN]
 refine Zr (t := (a0.kind == 10)) rfl (fun c10 => ?_) (fun c10 => ?_)
 ·replace h := Zv c10 h
  refine Zg ?_
  obtain ⟨y7, hy7, h⟩ := bC h
  refine Zb Zc [] ?_
  simp only [push_cast, seval, ↓reduceIte, Za, hN0, hN]
  refine (Zcy hy7).then ?_
  simp only [push_cast, seval, ↓reduceIte, Za, hN0, hN]
  refine Zf [4] [false] ?_
  simp only [push_cast, seval, ↓reduceIte]
  refine Zt ?_
  try simp only [Zi, Ze]
  have h := Option.some.inj h; subst h
  refine Zl (.inr rfl) hU [.val (.int .u64 y7)] (by omega) ?_
  simp only [push_cast, seval, ↓reduceIte, Za, Try.results27, hN0, hN]
 replace h := Zu c10 h
 refine Zx ?_
 try simp only [Zi, Ze]
 refine Zf [1, 2] [true] ?_
 simp only [push_cast, seval, ↓reduceIte]
 refine Zg ?_
 obtain ⟨y9, hy9, h⟩ := bC h
 refine Zb Zc [] ?_
 simp only [push_cast, seval, ↓reduceIte, Za, hN0, hN]
 refine (Q0 hy9).then ?_
 simp only [push_cast, seval, ↓reduceIte, Za, hN0, hN]
 refine Zf [5] [false] ?_
 simp only [push_cast, seval, ↓reduceIte]
 refine Zp [4] (Zb Zc [] ?_)
 simp only [push_cast, seval, ↓reduceIte, Za, hN0, hN]
 refine Zt ?_
 try simp only [Zi, Ze]
 have h := Option.some.inj h; subst h
 refine Zl (.inr rfl) hU [.val (.int .u64 y9.1)] (by omega) ?_
 simp only [push_cast, seval, ↓reduceIte, Za, Try.results27, hN0, hN]
theorem Zfy {a0 : Zd} {r : Int} {O : Objs} {n : Nat} (h : Vt a0 = some r) : GTo Try.prog 103 [.agg (Zj a0)] O n (.val (.int .i64 r)) O n := by
 unfold Vt at h
 refine Yl Zc Try.call103 Try.func103 rfl (Nat.le_of_ble_eq_true rfl) (Nat.le_refl _) fun hU => ?_
 have hN0 : O n = none := hU.fresh _ (Nat.le_refl _)
 have hN : ∀ k, O (n + k) = none := fun k => hU.fresh _ (Nat.le_add_right _ _)
 show W _ _ _ _ ⟨18, [], [(0, .agg (Zj a0))]⟩ (Z3 O n []) _
 refine Zp [1] (Zb Zc [] ?_)
 simp only [push_cast, seval, ↓reduceIte, Za, hN0, hN]
 refine Zg ?_
 obtain ⟨y2, hy2, h⟩ := bC h
 refine Zb Zc [] ?_
 simp only [push_cast, seval, ↓reduceIte, Za, hN0, hN]
 refine (Gl hy2).then ?_
 simp only [push_cast, seval, ↓reduceIte, Za, hN0, hN]
 refine Zf [1, 3] [true] ?_
 simp only [push_cast, seval, ↓reduceIte]
 refine Zg ?_
 refine Zf [1, 3] [true] ?_
 simp only [push_cast, seval, ↓reduceIte]
 obtain ⟨z9, hz9, h⟩ := bC h
 refine Ki (E' := ⟨18, [], [(3, .val (.int .i64 z9))]⟩) (O' := (Z3 O n [none])) (n0 := (n + 1)) ?_ ?_
 ·refine Vz hz9 (fun s0_ => ⟨18, [], [(1, .ref n 0), (3, .val (.int .i64 s0_))]⟩) (fun s0_ => (Z3 O n [some ⟨false, 27, 9, 1, (Zj a0)⟩])) (fun z9 => JX 0 n (⟨18, [], [(3, .val (.int .i64 z9))]⟩ : Env) (Z3 O n [none]) (n + 1)) ?_
  intro s0_ x0_ hs0_
  unfold V2 at hs0_
  try dsimp only
  refine Zg ?_
  obtain ⟨z4, hz4, hs0_⟩ := bC hs0_
  refine Qt (E' := ⟨18, [], [(1, .ref n 0), (3, .val (.int .i64 s0_)), (14, .val (.bool z4))]⟩) (O' := (Z3 O n [some ⟨false, 27, 9, 1, (Zj a0)⟩])) (n0 := (n + 1)) ?_ ?_
  ·rcases Bool.eq_false_or_eq_true (decide (0 < s0_)) with c7 | c7
   ·replace hz4 := Zv c7 hz4
    obtain ⟨y6, hy6, hz4⟩ := bC hz4
    refine Zb Zc [some true, some true, some true, some true, some true] ?_
    simp only [push_cast, seval, ↓reduceIte, Za, c7, hN0, hN]
    refine (Vo hy6).then ?_
    simp only [push_cast, seval, ↓reduceIte, Za, c7, hN0, hN]
    have hz4 := Option.some.inj hz4; subst hz4
    refine And.intro rfl (Fit2.of (Zs hU rfl rfl ?_) (by omega))
    simp only [push_cast, seval, ↓reduceIte, Za, c7, hN0, hN]
   replace hz4 := Zu c7 hz4
   refine Zb Zc [some false, some false, some false, some false, some false] ?_
   simp only [push_cast, seval, ↓reduceIte, Za, c7, hN0, hN]
   have hz4 := Option.some.inj hz4; subst hz4
   refine And.intro rfl (Fit2.of (Zs hU rfl rfl ?_) (by omega))
   simp only [push_cast, seval, ↓reduceIte, Za, c7, hN0, hN]
  refine Zr (t := z4) rfl (fun c8 => ?_) (fun c8 => ?_)
  ·replace hs0_ := Zv c8 hs0_
   refine Zx ?_
   try simp only [Zi, Ze]
   refine Zf [1, 3] [true] ?_
   simp only [push_cast, seval, ↓reduceIte]
   refine X7 ?_
   refine Zb Zc [] ?_
   simp only [push_cast, seval, ↓reduceIte, Za, hN0, hN]
   have hs0_ := Option.some.inj hs0_; subst hs0_
   refine And.intro rfl (Fit2.of (Zs hU rfl rfl ?_) (by omega))
   simp only [push_cast, seval, ↓reduceIte, Za, hN0, hN]
  replace hs0_ := Zu c8 hs0_
  refine Gy ?_
  try simp only [Zi, Ze, ↓reduceIte, Nat.reduceEqDiff]
  have hs0_ := Option.some.inj hs0_; subst hs0_
  refine And.intro (fun h => by cases h) (And.intro rfl (Fit2.of (Zs hU rfl rfl ?_) (by omega)))
  simp only [push_cast, seval, ↓reduceIte, Za, hN0, hN]
 try simp only [Zi, Ze, ↓reduceIte, Nat.reduceEqDiff]
 refine Zf [3] [false] ?_
 simp only [push_cast, seval, ↓reduceIte]
 refine Zp [2] (Zb Zc [] ?_)
 simp only [push_cast, seval, ↓reduceIte, Za, hN0, hN]
 refine Zt ?_
 try simp only [Zi, Ze]
 have h := Option.some.inj h; subst h
 refine Zl (.inr rfl) hU [.val (.int .i64 z9)] (by omega) ?_
 simp only [push_cast, seval, ↓reduceIte, Za, Try.results103, hN0, hN]
theorem Zex {a0 : Zd} {a1 : Zd} {r : Bool} {O : Objs} {n : Nat} (h : Ja a0 a1 = some r) : GTo Try.prog 92 [.agg (Zj a0), .agg (Zj a1)] O n (.val (.bool r)) O n := by
 unfold Ja at h
 refine Yl Zc Try.call92 Try.func92 rfl (Nat.le_of_ble_eq_true rfl) (Nat.le_refl _) fun hU => ?_
 have hN0 : O n = none := hU.fresh _ (Nat.le_refl _)
 have hN : ∀ k, O (n + k) = none := fun k => hU.fresh _ (Nat.le_add_right _ _)
 show W _ _ _ _ ⟨25, [], [(0, .agg (Zj a0)), (1, .agg (Zj a1))]⟩ (Z3 O n []) _
 refine Zp [2, 3] (Zb Zc [] ?_)
 simp only [push_cast, seval, ↓reduceIte, Za, hN0, hN]
 refine Zg ?_
 obtain ⟨y2, hy2, h⟩ := bC h
 refine Zb Zc [] ?_
 simp only [push_cast, seval, ↓reduceIte, Za, hN0, hN]
 refine (Zfy hy2).then ?_
 simp only [push_cast, seval, ↓reduceIte, Za, hN0, hN]
 refine Zf [2, 3, 5] [true, true] ?_
 simp only [push_cast, seval, ↓reduceIte]
 refine Zg ?_
 refine Zg ?_
 obtain ⟨y4, hy4, h⟩ := bC h
 refine Zb Zc [] ?_
 simp only [push_cast, seval, ↓reduceIte, Za, hN0, hN]
 refine (Zfy hy4).then ?_
 simp only [push_cast, seval, ↓reduceIte, Za, hN0, hN]
 refine Zf [2, 3, 5, 12] [true, true] ?_
 simp only [push_cast, seval, ↓reduceIte]
 refine Zr (t := (y4 != y2)) rfl (fun c12 => ?_) (fun c12 => ?_)
 ·replace h := Zv c12 h
  refine Zp [4] (Zb Zc [] ?_)
  simp only [push_cast, seval, ↓reduceIte, Za, hN0, hN]
  refine Zt ?_
  try simp only [Zi, Ze]
  have h := Option.some.inj h; subst h
  refine Zl (.inr rfl) hU [.val (.bool false)] (by omega) ?_
  simp only [push_cast, seval, ↓reduceIte, Za, Try.results92, hN0, hN]
 replace h := Zu c12 h
 refine Zx ?_
 try simp only [Zi, Ze]
 refine Zf [2, 3, 5] [true, true] ?_
 simp only [push_cast, seval, ↓reduceIte]
 refine Zg ?_
 refine Zp [2, 3, 13, 14] (Zb Zc [] ?_)
 simp only [push_cast, seval, ↓reduceIte, Za, hN0, hN]
 refine Zf [2, 3, 13, 14] [true, true] ?_
 simp only [push_cast, seval, ↓reduceIte]
 obtain ⟨z11, hz11, h⟩ := bC h
 refine Zig (J := (U2 (fun z11 => JR n (⟨25, [], [(4, .val (.bool false))]⟩ : Env) (Z3 O n [none, none]) (n + 2)) (fun z11 => JX 0 n (⟨25, [], []⟩ : Env) (Z3 O n [none, none]) (n + 2)))) (z := z11) ?_ fun hw => ?_
 ·refine Vz hz11 (fun s0_ => ⟨25, [], [(2, .ref n 0), (3, .ref (n + 1) 0), (13, .val (.int .i64 y2)), (14, .val (.int .i64 s0_))]⟩) (fun s0_ => (Z3 O n [some ⟨false, 27, 9, 1, (Zj a0)⟩, some ⟨false, 27, 9, 1, (Zj a1)⟩])) (U2 (fun z11 => JR n (⟨25, [], [(4, .val (.bool false))]⟩ : Env) (Z3 O n [none, none]) (n + 2)) (fun z11 => JX 0 n (⟨25, [], []⟩ : Env) (Z3 O n [none, none]) (n + 2))) ?_
  intro s0_ x0_ hs0_
  unfold Qg at hs0_
  try dsimp only
  refine Zp [2, 3, 13, 14, 15] (Zb Zc [] ?_)
  simp only [push_cast, seval, ↓reduceIte, Za, hN0, hN]
  refine Zg ?_
  refine Zr (t := (decide (s0_ < y2))) rfl (fun c10 => ?_) (fun c10 => ?_)
  ·replace hs0_ := Zv c10 hs0_
   refine Zx ?_
   try simp only [Zi, Ze]
   refine Zf [2, 3, 13, 14] [true, true] ?_
   simp only [push_cast, seval, ↓reduceIte]
   refine Zg ?_
   refine X7 ?_
   refine Zp [2, 3, 6, 13, 14] (Zb Zc [] ?_)
   simp only [push_cast, seval, ↓reduceIte, Za, hN0, hN]
   refine Zg ?_
   obtain ⟨y7, hy7, hs0_⟩ := bC hs0_
   obtain ⟨y8, hy8, hs0_⟩ := bC hs0_
   refine Ku Zc (by kernel_rfl) [] (by kernel_rfl) ?_
   simp only [push_cast, seval, ↓reduceIte, Za, hN0, hN]
   refine PCall.of (Vo hy7) ?_
   simp only [push_cast, seval, ↓reduceIte, Za, hN0, hN]
   refine PCall.of (Vo hy8) ?_
   simp only [push_cast, seval, ↓reduceIte, Za, hN0, hN]
   refine Zf [2, 3, 13, 14, 23] [true, true] ?_
   simp only [push_cast, seval, ↓reduceIte]
   refine Zr (t := (y7 != y8)) rfl (fun c9 => ?_) (fun c9 => ?_)
   ·replace hs0_ := Zv c9 hs0_
    refine Zp [4] (Zb Zc [] ?_)
    simp only [push_cast, seval, ↓reduceIte, Za, hN0, hN]
    refine Zt ?_
    try simp only [Zi, Ze]
    have hs0_ := Option.some.inj hs0_; subst hs0_
    refine And.intro (fun h => by cases h) (And.intro rfl (Fit2.of (Zs hU rfl rfl ?_) (by omega)))
    simp only [push_cast, seval, ↓reduceIte, Za, hN0, hN]
   replace hs0_ := Zu c9 hs0_
   refine Zx ?_
   try simp only [Zi, Ze]
   refine Zf [2, 3, 13, 14] [true, true] ?_
   simp only [push_cast, seval, ↓reduceIte]
   refine Zb Zc [] ?_
   simp only [push_cast, seval, ↓reduceIte, Za, hN0, hN]
   have hs0_ := Option.some.inj hs0_; subst hs0_
   refine And.intro rfl (Fit2.of (Zs hU rfl rfl ?_) (by omega))
   simp only [push_cast, seval, ↓reduceIte, Za, hN0, hN]
  replace hs0_ := Zu c10 hs0_
  refine Gy ?_
  try simp only [Zi, Ze, ↓reduceIte, Nat.reduceEqDiff]
  have hs0_ := Option.some.inj hs0_; subst hs0_
  refine And.intro (fun h => by cases h) (And.intro rfl (Fit2.of (Zs hU rfl rfl ?_) (by omega)))
  simp only [push_cast, seval, ↓reduceIte, Za, hN0, hN]
 rcases z11 with z11 | z11
 ·dsimp only [U2] at hw h
  refine Zcb hw ?_
  try simp only [Zi, Ze, ↓reduceIte, Nat.reduceEqDiff]
  have h := Option.some.inj h; subst h
  refine Zl (.inr rfl) hU [.val (.bool false)] (by omega) ?_
  simp only [push_cast, seval, ↓reduceIte, Za, Try.results92, hN0, hN]
 dsimp only [U2] at hw h
 refine Ki hw ?_
 try simp only [Zi, Ze, ↓reduceIte, Nat.reduceEqDiff]
 refine Zf [] [false, false] ?_
 simp only [push_cast, seval, ↓reduceIte]
 refine Zp [4] (Zb Zc [] ?_)
 simp only [push_cast, seval, ↓reduceIte, Za, hN0, hN]
 refine Zt ?_
 try simp only [Zi, Ze]
 have h := Option.some.inj h; subst h
 refine Zl (.inr rfl) hU [.val (.bool true)] (by omega) ?_
 simp only [push_cast, seval, ↓reduceIte, Za, Try.results92, hN0, hN]
theorem Vn {a0 : Zd} {r : Int} {O : Objs} {n : Nat} (h : Xz a0 = some r) : GTo Try.prog 26 [.agg (Zj a0)] O n (.val (.int .i64 r)) O n := by
 unfold Xz at h
 refine Yl Zc Try.call26 Try.func26 rfl (Nat.le_of_ble_eq_true rfl) (Nat.le_refl _) fun hU => ?_
 have hN0 : O n = none := hU.fresh _ (Nat.le_refl _)
 have hN : ∀ k, O (n + k) = none := fun k => hU.fresh _ (Nat.le_add_right _ _)
 show W _ _ _ _ ⟨10, [], [(0, .agg (Zj a0))]⟩ (Z3 O n []) _
 refine Zp [1] (Zb Zc [] ?_)
 simp only [push_cast, seval, ↓reduceIte, Za, hN0, hN]
 refine Zg ?_
 refine Zp [1, 5] (Zb Zc [] ?_)
 simp only [push_cast, seval, ↓reduceIte, Za, hN0, hN]
 refine Zr (t := (a0.kind == 1)) rfl (fun c1 => ?_) (fun c1 => ?_)
 ·replace h := Zv c1 h
  refine Zp [2] (Zb Zc [] ?_)
  simp only [push_cast, seval, ↓reduceIte, Za, hN0, hN]
  refine Zt ?_
  try simp only [Zi, Ze]
  have h := Option.some.inj h; subst h
  refine Zl (.inr rfl) hU [.val (.int .i64 a0.ptrs)] (by omega) ?_
  simp only [push_cast, seval, ↓reduceIte, Za, Try.results26, hN0, hN]
 replace h := Zu c1 h
 refine Zx ?_
 try simp only [Zi, Ze]
 refine Zf [1] [true] ?_
 simp only [push_cast, seval, ↓reduceIte]
 refine Zp [2] (Zb Zc [] ?_)
 simp only [push_cast, seval, ↓reduceIte, Za, hN0, hN]
 refine Zt ?_
 try simp only [Zi, Ze]
 have h := Option.some.inj h; subst h
 refine Zl (.inr rfl) hU [.val (.int .i64 a0.count)] (by omega) ?_
 simp only [push_cast, seval, ↓reduceIte, Za, Try.results26, hN0, hN]
theorem V8 {a0 : Zd} {a1 : Int} {r : (Zd × Int)} {O : Objs} {n : Nat} (h : Qa a0 a1 = some r) : GTo Try.prog 20 [.agg (Zj a0), .val (.int .i64 a1)] O n (.tup [.agg (Zj r.1), .val (.int .i64 r.2)]) O n := by
 unfold Qa at h
 refine Yl Zc Try.call20 Try.func20 rfl (Nat.le_of_ble_eq_true rfl) (Nat.le_refl _) fun hU => ?_
 have hN0 : O n = none := hU.fresh _ (Nat.le_refl _)
 have hN : ∀ k, O (n + k) = none := fun k => hU.fresh _ (Nat.le_add_right _ _)
 show W _ _ _ _ ⟨81, [], [(0, .agg (Zj a0)), (1, .val (.int .i64 a1))]⟩ (Z3 O n []) _
 refine Zp [1, 2, 4] (Zb Zc [] ?_)
 simp only [push_cast, seval, ↓reduceIte, Za, hN0, hN]
 refine Zg ?_
 obtain ⟨z2, hz2, h⟩ := bC h
 refine Qt (E' := ⟨81, [], [(1, .val (.int .i64 a1)), (2, .ref n 0), (4, .ref (n + 1) 0), (14, .val (.bool z2))]⟩) (O' := (Z3 O n [some ⟨false, 27, 9, 1, (Zj a0)⟩, some ⟨false, 27, 9, 1, [.val (.pointer none), .val (.int .i64 0), .val (.int .i64 0), .val (.int .i64 0), .val (.int .i64 0), .val (.int .i64 0), .val (.int .i64 0), .val (.int .i64 0), .val (.int .i64 0)]⟩])) (n0 := (n + 2)) ?_ ?_
 ·rcases Bool.eq_false_or_eq_true (decide (a1 < 0)) with c5 | c5
  ·replace hz2 := Zv c5 hz2
   refine Zb Zc [some false, some false, some false, some false] ?_
   simp only [push_cast, seval, ↓reduceIte, Za, c5, hN0, hN]
   have hz2 := Option.some.inj hz2; subst hz2
   refine And.intro rfl (Fit2.of (Zs hU rfl rfl ?_) (by omega))
   simp only [push_cast, seval, ↓reduceIte, Za, c5, hN0, hN]
  replace hz2 := Zu c5 hz2
  obtain ⟨y4, hy4, hz2⟩ := bC hz2
  refine Zb Zc [some true, some true, some true, some true] ?_
  simp only [push_cast, seval, ↓reduceIte, Za, c5, hN0, hN]
  refine (Vn hy4).then ?_
  simp only [push_cast, seval, ↓reduceIte, Za, c5, hN0, hN]
  have hz2 := Option.some.inj hz2; subst hz2
  refine And.intro rfl (Fit2.of (Zs hU rfl rfl ?_) (by omega))
  simp only [push_cast, seval, ↓reduceIte, Za, c5, hN0, hN]
 refine Zr (t := z2) rfl (fun c13 => ?_) (fun c13 => ?_)
 ·replace h := Zv c13 h
  refine Zg ?_
  refine Zb Zc [] ?_
  simp only [push_cast, seval, ↓reduceIte, Za, hN0, hN]
  refine Zf [4, 5] [false, true] ?_
  simp only [push_cast, seval, ↓reduceIte]
  refine Zt ?_
  try simp only [Zi, Ze]
  have h := Option.some.inj h; subst h
  refine Zl (.inr rfl) hU [.agg [.val (.pointer none), .val (.int .i64 0), .val (.int .i64 0), .val (.int .i64 0), .val (.int .i64 0), .val (.int .i64 0), .val (.int .i64 0), .val (.int .i64 0), .val (.int .i64 0)], .val (.int .i64 0)] (by omega) ?_
  simp only [push_cast, seval, ↓reduceIte, Za, Try.results20, hN0, hN]
 replace h := Zu c13 h
 refine Zx ?_
 try simp only [Zi, Ze]
 refine Zf [1, 2, 4] [true, true] ?_
 simp only [push_cast, seval, ↓reduceIte]
 refine Zg ?_
 refine Zp [1, 2, 4, 17] (Zb Zc [] ?_)
 simp only [push_cast, seval, ↓reduceIte, Za, hN0, hN]
 refine X7 ?_
 refine Zp [1, 2, 4, 17, 18] (Zb Zc [] ?_)
 simp only [push_cast, seval, ↓reduceIte, Za, hN0, hN]
 refine Zr (t := (a0.kind == 1)) rfl (fun c12 => ?_) (fun c12 => ?_)
 ·replace h := Zv c12 h
  refine Zg ?_
  obtain ⟨y7, hy7, h⟩ := bC h
  refine Zb Zc [] ?_
  simp only [push_cast, seval, ↓reduceIte, Za, hN0, hN]
  refine (Zbv hy7).then ?_
  simp only [push_cast, seval, ↓reduceIte, Za, hN0, hN]
  refine Zf [4, 5] [false, true] ?_
  simp only [push_cast, seval, ↓reduceIte]
  refine Zt ?_
  try simp only [Zi, Ze]
  have h := Option.some.inj h; subst h
  refine Zl (.inr rfl) hU [.agg (Zj y7.1), .val (.int .i64 y7.2)] (by omega) ?_
  simp only [push_cast, seval, ↓reduceIte, Za, Try.results20, hN0, hN]
 replace h := Zu c12 h
 refine Zp [1, 2, 4, 17, 34] (Zb Zc [] ?_)
 simp only [push_cast, seval, ↓reduceIte, Za, hN0, hN]
 refine Zr (t := (a0.kind == 8)) rfl (fun c11 => ?_) (fun c11 => ?_)
 ·replace h := Zv c11 h
  refine Zg ?_
  obtain ⟨y9, hy9, h⟩ := bC h
  refine Zb Zc [] ?_
  simp only [push_cast, seval, ↓reduceIte, Za, hN0, hN]
  refine (Zbv hy9).then ?_
  simp only [push_cast, seval, ↓reduceIte, Za, hN0, hN]
  refine Zf [4, 5] [false, true] ?_
  simp only [push_cast, seval, ↓reduceIte]
  refine Zt ?_
  try simp only [Zi, Ze]
  have h := Option.some.inj h; subst h
  refine Zl (.inr rfl) hU [.agg (Zj y9.1), .val (.int .i64 y9.2)] (by omega) ?_
  simp only [push_cast, seval, ↓reduceIte, Za, Try.results20, hN0, hN]
 replace h := Zu c11 h
 refine Zp [1, 2, 4, 47] (Zb Zc [] ?_)
 simp only [push_cast, seval, ↓reduceIte, Za, hN0, hN]
 refine Zr (t := (a0.kind == 9)) rfl (fun c10 => ?_) (fun c10 => ?_)
 ·replace h := Zv c10 h
  refine Zp [2, 4, 6] (Zb Zc [] ?_)
  simp only [push_cast, seval, ↓reduceIte, Za, hN0, hN]
  refine Zg ?_
  refine Zb Zc [] ?_
  simp only [push_cast, seval, ↓reduceIte, Za, hN0, hN]
  refine Zf [4, 5] [false, true] ?_
  simp only [push_cast, seval, ↓reduceIte]
  refine Zt ?_
  try simp only [Zi, Ze]
  have h := Option.some.inj h; subst h
  refine Zl (.inr rfl) hU [.agg [(gP Zm a0.a), .val (.int .i64 1), .val (.int .i64 a0.segment), .val (.int .i64 (IntKind.i64.wrap ((IntKind.i64.wrap (a0.at_ + 1)) + (IntKind.i64.wrap (a1 * (IntKind.i64.wrap (a0.words + a0.ptrs))))))), .val (.int .i64 a0.words), .val (.int .i64 a0.ptrs), .val (.int .i64 0), .val (.int .i64 0), .val (.int .i64 0)], .val (.int .i64 0)] (by omega) ?_
  simp only [push_cast, seval, ↓reduceIte, Za, Try.results20, hN0, hN]
 replace h := Zu c10 h
 refine Zx ?_
 try simp only [Zi, Ze]
 refine Zf [1, 2, 4] [true, true] ?_
 simp only [push_cast, seval, ↓reduceIte]
 refine Zg ?_
 refine Zb Zc [] ?_
 simp only [push_cast, seval, ↓reduceIte, Za, hN0, hN]
 refine Zf [4, 5] [false, true] ?_
 simp only [push_cast, seval, ↓reduceIte]
 refine Zt ?_
 try simp only [Zi, Ze]
 have h := Option.some.inj h; subst h
 refine Zl (.inr rfl) hU [.agg [(gP Zm a0.a), .val (.int .i64 10), .val (.int .i64 a0.segment), .val (.int .i64 a0.at_), .val (.int .i64 0), .val (.int .i64 0), .val (.int .i64 0), .val (.int .i64 (IntKind.i64.wrap (a0.kind - 2))), .val (.int .i64 a1)], .val (.int .i64 0)] (by omega) ?_
 simp only [push_cast, seval, ↓reduceIte, Za, Try.results20, hN0, hN]
theorem Zmw {a0 : Zd} {r : (Int × Int)} {O : Objs} {n : Nat} (h : Ga a0 = some r) : GTo Try.prog 104 [.agg (Zj a0)] O n (.tup [.val (.int .i64 r.1), .val (.int .i64 r.2)]) O n := by
 unfold Ga at h
 refine Yl Zc Try.call104 Try.func104 rfl (Nat.le_of_ble_eq_true rfl) (Nat.le_refl _) fun hU => ?_
 have hN0 : O n = none := hU.fresh _ (Nat.le_refl _)
 have hN : ∀ k, O (n + k) = none := fun k => hU.fresh _ (Nat.le_add_right _ _)
 show W _ _ _ _ ⟨29, [], [(0, .agg (Zj a0))]⟩ (Z3 O n []) _
 refine Zp [1] (Zb Zc [] ?_)
 simp only [push_cast, seval, ↓reduceIte, Za, hN0, hN]
 refine Zg ?_
 obtain ⟨y2, hy2, h⟩ := bC h
 refine Zb Zc [] ?_
 simp only [push_cast, seval, ↓reduceIte, Za, hN0, hN]
 refine (Vn hy2).then ?_
 simp only [push_cast, seval, ↓reduceIte, Za, hN0, hN]
 refine Zf [1, 4] [true] ?_
 simp only [push_cast, seval, ↓reduceIte]
 refine Zg ?_
 refine Zf [1, 4] [true] ?_
 simp only [push_cast, seval, ↓reduceIte]
 obtain ⟨z12, hz12, h⟩ := bC h
 refine Zig (J := (U2 (fun z12 => JR n (⟨29, [], [(2, .val (.int .i64 z12.1)), (3, .val (.int .i64 z12.2))]⟩ : Env) (Z3 O n [none]) (n + 1)) (fun z12 => JX 0 n (⟨29, [], []⟩ : Env) (Z3 O n [none]) (n + 1)))) (z := z12) ?_ fun hw => ?_
 ·refine Vz hz12 (fun s0_ => ⟨29, [], [(1, .ref n 0), (4, .val (.int .i64 s0_))]⟩) (fun s0_ => (Z3 O n [some ⟨false, 27, 9, 1, (Zj a0)⟩])) (U2 (fun z12 => JR n (⟨29, [], [(2, .val (.int .i64 z12.1)), (3, .val (.int .i64 z12.2))]⟩ : Env) (Z3 O n [none]) (n + 1)) (fun z12 => JX 0 n (⟨29, [], []⟩ : Env) (Z3 O n [none]) (n + 1))) ?_
  intro s0_ x0_ hs0_
  unfold V3 at hs0_
  try dsimp only
  refine Zg ?_
  refine Zp [1, 4, 10] (Zb Zc [] ?_)
  simp only [push_cast, seval, ↓reduceIte, Za, hN0, hN]
  refine Zr (t := (decide (0 < s0_))) rfl (fun c11 => ?_) (fun c11 => ?_)
  ·replace hs0_ := Zv c11 hs0_
   refine Zx ?_
   try simp only [Zi, Ze]
   refine Zf [1, 4] [true] ?_
   simp only [push_cast, seval, ↓reduceIte]
   refine X7 ?_
   refine Zg ?_
   obtain ⟨y4, hy4, hs0_⟩ := bC hs0_
   refine Zb Zc [] ?_
   simp only [push_cast, seval, ↓reduceIte, Za, hN0, hN]
   refine (V8 hy4).then ?_
   simp only [push_cast, seval, ↓reduceIte, Za, hN0, hN]
   refine Zf [1, 4, 5, 6] [true, true] ?_
   simp only [push_cast, seval, ↓reduceIte]
   refine Zg ?_
   obtain ⟨z6, hz6, hs0_⟩ := bC hs0_
   refine Qt (E' := ⟨29, [], [(1, .ref n 0), (4, .val (.int .i64 s0_)), (6, .val (.int .i64 y4.2)), (24, .val (.bool z6))]⟩) (O' := (Z3 O n [some ⟨false, 27, 9, 1, (Zj a0)⟩, none])) (n0 := (n + 2)) ?_ ?_
   ·rcases Bool.eq_false_or_eq_true (y4.2 != 0) with c9 | c9
    ·replace hz6 := Zv c9 hz6
     refine Zb Zc [some false, some false, some false] ?_
     simp only [push_cast, seval, ↓reduceIte, Za, c9, hN0, hN]
     have hz6 := Option.some.inj hz6; subst hz6
     refine And.intro rfl (Fit2.of (Zs hU rfl rfl ?_) (by omega))
     simp only [push_cast, seval, ↓reduceIte, Za, c9, hN0, hN]
    replace hz6 := Zu c9 hz6
    obtain ⟨y8, hy8, hz6⟩ := bC hz6
    refine Zb Zc [some true, some true, some true] ?_
    simp only [push_cast, seval, ↓reduceIte, Za, c9, hN0, hN]
    refine (Qc hy8).then ?_
    simp only [push_cast, seval, ↓reduceIte, Za, c9, hN0, hN]
    have hz6 := Option.some.inj hz6; subst hz6
    refine And.intro rfl (Fit2.of (Zs hU rfl rfl ?_) (by omega))
    simp only [push_cast, seval, ↓reduceIte, Za, c9, hN0, hN]
   refine Zr (t := z6) rfl (fun c10 => ?_) (fun c10 => ?_)
   ·replace hs0_ := Zv c10 hs0_
    refine Zp [2, 3] (Zb Zc [] ?_)
    simp only [push_cast, seval, ↓reduceIte, Za, hN0, hN]
    refine Zt ?_
    try simp only [Zi, Ze]
    have hs0_ := Option.some.inj hs0_; subst hs0_
    refine And.intro (fun h => by cases h) (And.intro rfl (Fit2.of (Zs hU rfl rfl ?_) (by omega)))
    simp only [push_cast, seval, ↓reduceIte, Za, hN0, hN]
   replace hs0_ := Zu c10 hs0_
   refine Zx ?_
   try simp only [Zi, Ze]
   refine Zf [1, 4] [true, false] ?_
   simp only [push_cast, seval, ↓reduceIte]
   refine Zb Zc [] ?_
   simp only [push_cast, seval, ↓reduceIte, Za, hN0, hN]
   have hs0_ := Option.some.inj hs0_; subst hs0_
   refine And.intro rfl (Fit2.of (Zs hU rfl rfl ?_) (by omega))
   simp only [push_cast, seval, ↓reduceIte, Za, hN0, hN]
  replace hs0_ := Zu c11 hs0_
  refine Gy ?_
  try simp only [Zi, Ze, ↓reduceIte, Nat.reduceEqDiff]
  have hs0_ := Option.some.inj hs0_; subst hs0_
  refine And.intro (fun h => by cases h) (And.intro rfl (Fit2.of (Zs hU rfl rfl ?_) (by omega)))
  simp only [push_cast, seval, ↓reduceIte, Za, hN0, hN]
 rcases z12 with z12 | z12
 ·dsimp only [U2] at hw h
  refine Zcb hw ?_
  try simp only [Zi, Ze, ↓reduceIte, Nat.reduceEqDiff]
  have h := Option.some.inj h; subst h
  refine Zl (.inr rfl) hU [.val (.int .i64 z12.1), .val (.int .i64 z12.2)] (by omega) ?_
  simp only [push_cast, seval, ↓reduceIte, Za, Try.results104, hN0, hN]
 dsimp only [U2] at hw h
 refine Ki hw ?_
 try simp only [Zi, Ze, ↓reduceIte, Nat.reduceEqDiff]
 refine Zf [] [false] ?_
 simp only [push_cast, seval, ↓reduceIte]
 refine Zp [2, 3] (Zb Zc [] ?_)
 simp only [push_cast, seval, ↓reduceIte, Za, hN0, hN]
 refine Zt ?_
 try simp only [Zi, Ze]
 have h := Option.some.inj h; subst h
 refine Zl (.inr rfl) hU [.val (.int .i64 0), .val (.int .i64 0)] (by omega) ?_
 simp only [push_cast, seval, ↓reduceIte, Za, Try.results104, hN0, hN]
theorem Zd7 {a0 : Zd} {r : (Int × Int)} {O : Objs} {n : Nat} (h : Kw a0 = some r) : GTo Try.prog 93 [.agg (Zj a0)] O n (.tup [.val (.int .i64 r.1), .val (.int .i64 r.2)]) O n := by
 unfold Kw at h
 refine Yl Zc Try.call93 Try.func93 rfl (Nat.le_of_ble_eq_true rfl) (Nat.le_refl _) fun hU => ?_
 have hN0 : O n = none := hU.fresh _ (Nat.le_refl _)
 have hN : ∀ k, O (n + k) = none := fun k => hU.fresh _ (Nat.le_add_right _ _)
 show W _ _ _ _ ⟨20, [], [(0, .agg (Zj a0))]⟩ (Z3 O n []) _
 refine Zp [1] (Zb Zc [] ?_)
 simp only [push_cast, seval, ↓reduceIte, Za, hN0, hN]
 refine Zg ?_
 refine Zg ?_
 obtain ⟨y2, hy2, h⟩ := bC h
 refine Zb Zc [] ?_
 simp only [push_cast, seval, ↓reduceIte, Za, hN0, hN]
 refine (Qc hy2).then ?_
 simp only [push_cast, seval, ↓reduceIte, Za, hN0, hN]
 refine Zf [1, 8] [true] ?_
 simp only [push_cast, seval, ↓reduceIte]
 refine Zr (t := (y2 != 1)) rfl (fun c8 => ?_) (fun c8 => ?_)
 ·replace h := Zv c8 h
  refine Zg ?_
  obtain ⟨y4, hy4, h⟩ := bC h
  refine Zb Zc [] ?_
  simp only [push_cast, seval, ↓reduceIte, Za, hN0, hN]
  refine (Vn hy4).then ?_
  simp only [push_cast, seval, ↓reduceIte, Za, hN0, hN]
  refine Zf [2, 3] [false] ?_
  simp only [push_cast, seval, ↓reduceIte]
  refine Zt ?_
  try simp only [Zi, Ze]
  have h := Option.some.inj h; subst h
  refine Zl (.inr rfl) hU [.val (.int .i64 y4), .val (.int .i64 0)] (by omega) ?_
  simp only [push_cast, seval, ↓reduceIte, Za, Try.results93, hN0, hN]
 replace h := Zu c8 h
 refine Zx ?_
 try simp only [Zi, Ze]
 refine Zf [1] [true] ?_
 simp only [push_cast, seval, ↓reduceIte]
 refine Zg ?_
 obtain ⟨y6, hy6, h⟩ := bC h
 refine Zb Zc [] ?_
 simp only [push_cast, seval, ↓reduceIte, Za, hN0, hN]
 refine (Zmw hy6).then ?_
 simp only [push_cast, seval, ↓reduceIte, Za, hN0, hN]
 refine Zf [4, 5] [false] ?_
 simp only [push_cast, seval, ↓reduceIte]
 refine Zg ?_
 refine Zp [4, 5, 17] (Zb Zc [] ?_)
 simp only [push_cast, seval, ↓reduceIte, Za, hN0, hN]
 refine Zr (t := (y6.2 != 0)) rfl (fun c7 => ?_) (fun c7 => ?_)
 ·replace h := Zv c7 h
  refine Zp [2, 3] (Zb Zc [] ?_)
  simp only [push_cast, seval, ↓reduceIte, Za, hN0, hN]
  refine Zt ?_
  try simp only [Zi, Ze]
  have h := Option.some.inj h; subst h
  refine Zl (.inr rfl) hU [.val (.int .i64 0), .val (.int .i64 y6.2)] (by omega) ?_
  simp only [push_cast, seval, ↓reduceIte, Za, Try.results93, hN0, hN]
 replace h := Zu c7 h
 refine Zx ?_
 try simp only [Zi, Ze]
 refine Zf [4] [false] ?_
 simp only [push_cast, seval, ↓reduceIte]
 refine Zp [2, 3] (Zb Zc [] ?_)
 simp only [push_cast, seval, ↓reduceIte, Za, hN0, hN]
 refine Zt ?_
 try simp only [Zi, Ze]
 have h := Option.some.inj h; subst h
 refine Zl (.inr rfl) hU [.val (.int .i64 y6.1), .val (.int .i64 0)] (by omega) ?_
 simp only [push_cast, seval, ↓reduceIte, Za, Try.results93, hN0, hN]
theorem Zbi {Yd : (Zh → Zd → Zd → Option (Bool × Int × Zh))} {Yg : (Zh → Zd → Zd → Int → Option (Bool × Int × Zh))} (Vb : ∀ {a0 : Zh} {a1 : Zd} {a2 : Zd} {r : (Bool × Int × Zh)} {O : Objs} {n : Nat} {i0 : Nat}, i0 < n → O i0 = some ⟨false, 115, 1, 1, [.val (.int .i64 a0.left)]⟩ → Yd a0 a1 a2 = some r → GTo Try.prog 69 [.ref i0 0, .agg (Zj a1), .agg (Zj a2)] O n (.tup [.val (.bool r.1), .val (.int .i64 r.2.1)]) (Z3 (O.upd i0 (some ⟨false, 115, 1, 1, [.val (.int .i64 r.2.2.left)]⟩)) n []) (n + 0)) (Kc : ∀ {a0 : Zh} {a1 : Zd} {a2 : Zd} {a3 : Int} {r : (Bool × Int × Zh)} {O : Objs} {n : Nat} {i0 : Nat}, i0 < n → O i0 = some ⟨false, 115, 1, 1, [.val (.int .i64 a0.left)]⟩ → Yg a0 a1 a2 a3 = some r → GTo Try.prog 94 [.ref i0 0, .agg (Zj a1), .agg (Zj a2), .val (.int .i64 a3)] O n (.tup [.val (.bool r.1), .val (.int .i64 r.2.1)]) (Z3 (O.upd i0 (some ⟨false, 115, 1, 1, [.val (.int .i64 r.2.2.left)]⟩)) n []) (n + 0)) {a0 : Zh} {a1 : Zd} {a2 : Zd} {r : (Bool × Int × Zh)} {O : Objs} {n : Nat} {i0 : Nat} (hi0 : i0 < n) (ho0 : O i0 = some ⟨false, 115, 1, 1, [.val (.int .i64 a0.left)]⟩) (h : Yp Yd Yg a0 a1 a2 = some r) : GTo Try.prog 69 [.ref i0 0, .agg (Zj a1), .agg (Zj a2)] O n (.tup [.val (.bool r.1), .val (.int .i64 r.2.1)]) (Z3 (O.upd i0 (some ⟨false, 115, 1, 1, [.val (.int .i64 r.2.2.left)]⟩)) n []) (n + 0) := by
 unfold Yp at h
 refine Yl Zc Try.call69 Try.func69 rfl (Nat.le_of_ble_eq_true rfl) (by omega) fun hU => ?_
 rw [show Z3 O n [] = Z3 (O.upd i0 (some ⟨false, 115, 1, 1, [.val (.int .i64 a0.left)]⟩)) n [] from by rw [Zp5 (show O i0 = _ from by exact ho0)]]
 have hk0 : ∀ k, i0 < n + k := fun k => by omega
 have hN0 : ∀ o, Objs.upd O i0 o n = none := fun o => Zdw hU hi0 _ (Nat.le_refl _)
 have hN : ∀ o k, Objs.upd O i0 o (n + k) = none := fun o k => Zdw hU hi0 _ (Nat.le_add_right _ _)
 show W _ _ _ _ ⟨62, [], [(0, .ref i0 0), (1, .agg (Zj a1)), (2, .agg (Zj a2))]⟩ (Z3 (O.upd i0 (some ⟨false, 115, 1, 1, [.val (.int .i64 a0.left)]⟩)) n []) _
 refine Zp [0, 4, 5] (Zb Zc [] ?_)
 simp only [push_cast, seval, ↓reduceIte, Za, hi0, hk0, hN0, hN]
 refine Zg ?_
 refine Zp [0, 4, 5, 15] (Zb Zc [] ?_)
 simp only [push_cast, seval, ↓reduceIte, Za, hi0, hk0, hN0, hN]
 refine Zr (t := (a0.left == 0)) rfl (fun c21 => ?_) (fun c21 => ?_)
 ·replace h := Zv c21 h
  refine Zp [6, 7] (Zb Zc [] ?_)
  simp only [push_cast, seval, ↓reduceIte, Za, hi0, hk0, hN0, hN]
  refine Zt ?_
  try simp only [Zi, Ze]
  have h := Option.some.inj h; subst h
  refine Zab (k := 0) (i := i0) (q1 := ⟨false, 115, 1, 1, [.val (.int .i64 a0.left)]⟩) (L3 := [none]) (E2 := (⟨62, [], [(6, .val (.bool false)), (7, .val (.int .i64 3))]⟩ : Env)) (n3 := (n + 1)) (.inr rfl) hU rfl [.val (.bool false), .val (.int .i64 3)] ?_ ?_
  ·refine Fit2.trans (E' := (⟨62, [], [(6, .val (.bool false)), (7, .val (.int .i64 3))]⟩ : Env)) (O' := (Z3 (O.upd i0 (some ⟨false, 115, 1, 1, [.val (.int .i64 a0.left)]⟩)) n [none, none])) (n' := (n + 2)) (Fit2.of (Q9 hU rfl rfl ?_) (by omega)) ?_
   ·simp only [push_cast, seval, ↓reduceIte, Za, hi0, hk0, hN0, hN]
   refine Zai (k := 2) (k' := 1) hU [0, 0] [0] rfl rfl rfl rfl ⟨rfl, rfl⟩ ?_
   simp only [push_cast, seval, ↓reduceIte, Za, hi0, hk0, hN0, hN]
  simp only [push_cast, seval, ↓reduceIte, Za, Try.results69, hi0, hk0, hN0, hN]
 replace h := Zu c21 h
 refine Zx ?_
 try simp only [Zi, Ze]
 refine Zf [0, 4, 5] [true, true] ?_
 simp only [push_cast, seval, ↓reduceIte]
 refine Zg ?_
 refine Zb Zc [] ?_
 simp only [push_cast, seval, ↓reduceIte, Za, hi0, hk0, hN0, hN]
 refine Zf [0, 4, 5] [true, true] ?_
 simp only [push_cast, seval, ↓reduceIte]
 refine Zg ?_
 obtain ⟨z4, hz4, h⟩ := bC h
 refine Qt (E' := ⟨62, [], [(0, .ref i0 0), (4, .ref n 0), (5, .ref (n + 1) 0), (33, .val (.bool z4))]⟩) (O' := (Z3 (O.upd i0 (some ⟨false, 115, 1, 1, [.val (.int .i64 (IntKind.i64.wrap (a0.left - 1)))]⟩)) n [some ⟨false, 27, 9, 1, (Zj a1)⟩, some ⟨false, 27, 9, 1, (Zj a2)⟩])) (n0 := (n + 2)) ?_ ?_
 ·obtain ⟨y8, hy8, hz4⟩ := bC hz4
  obtain ⟨y9, hy9, hz4⟩ := bC hz4
  rcases Bool.eq_false_or_eq_true (y8 != y9) with c11 | c11
  ·replace hz4 := Zv c11 hz4
   refine Ku Zc (by kernel_rfl) [some false, some false, some false, some false] (by kernel_rfl) ?_
   simp only [push_cast, seval, ↓reduceIte, Za, c11, hi0, hk0, hN0, hN]
   refine PCall.of (Qc hy8) ?_
   simp only [push_cast, seval, ↓reduceIte, Za, c11, hi0, hk0, hN0, hN]
   refine PCall.of (Qc hy9) ?_
   simp only [push_cast, seval, ↓reduceIte, Za, c11, hi0, hk0, hN0, hN]
   have hz4 := Option.some.inj hz4; subst hz4
   refine And.intro rfl (Fit2.of (Q9 hU rfl rfl ?_) (by omega))
   simp only [push_cast, seval, ↓reduceIte, Za, c11, hi0, hk0, hN0, hN]
  replace hz4 := Zu c11 hz4
  obtain ⟨y10, hy10, hz4⟩ := bC hz4
  refine Ku Zc (by kernel_rfl) [some true, some true, some true, some true] (by kernel_rfl) ?_
  simp only [push_cast, seval, ↓reduceIte, Za, c11, hi0, hk0, hN0, hN]
  refine PCall.of (Qc hy8) ?_
  simp only [push_cast, seval, ↓reduceIte, Za, c11, hi0, hk0, hN0, hN]
  refine PCall.of (Qc hy9) ?_
  simp only [push_cast, seval, ↓reduceIte, Za, c11, hi0, hk0, hN0, hN]
  refine PCall.of (Zex hy10) ?_
  simp only [push_cast, seval, ↓reduceIte, Za, c11, hi0, hk0, hN0, hN]
  have hz4 := Option.some.inj hz4; subst hz4
  refine And.intro rfl (Fit2.of (Q9 hU rfl rfl ?_) (by omega))
  simp only [push_cast, seval, ↓reduceIte, Za, c11, hi0, hk0, hN0, hN]
 refine Zr (t := z4) rfl (fun c20 => ?_) (fun c20 => ?_)
 ·replace h := Zv c20 h
  refine Zp [6, 7] (Zb Zc [] ?_)
  simp only [push_cast, seval, ↓reduceIte, Za, hi0, hk0, hN0, hN]
  refine Zt ?_
  try simp only [Zi, Ze]
  have h := Option.some.inj h; subst h
  refine Zab (k := 0) (i := i0) (q1 := ⟨false, 115, 1, 1, [.val (.int .i64 (IntKind.i64.wrap (a0.left - 1)))]⟩) (L3 := [none]) (E2 := (⟨62, [], [(6, .val (.bool false)), (7, .val (.int .i64 0))]⟩ : Env)) (n3 := (n + 1)) (.inr rfl) hU rfl [.val (.bool false), .val (.int .i64 0)] ?_ ?_
  ·refine Fit2.trans (E' := (⟨62, [], [(6, .val (.bool false)), (7, .val (.int .i64 0))]⟩ : Env)) (O' := (Z3 (O.upd i0 (some ⟨false, 115, 1, 1, [.val (.int .i64 (IntKind.i64.wrap (a0.left - 1)))]⟩)) n [none, none])) (n' := (n + 2)) (Fit2.of (Q9 hU rfl rfl ?_) (by omega)) ?_
   ·simp only [push_cast, seval, ↓reduceIte, Za, hi0, hk0, hN0, hN]
   refine Zai (k := 2) (k' := 1) hU [0, 0] [0] rfl rfl rfl rfl ⟨rfl, rfl⟩ ?_
   simp only [push_cast, seval, ↓reduceIte, Za, hi0, hk0, hN0, hN]
  simp only [push_cast, seval, ↓reduceIte, Za, Try.results69, hi0, hk0, hN0, hN]
 replace h := Zu c20 h
 refine Zx ?_
 try simp only [Zi, Ze]
 refine Zf [0, 4, 5] [true, true] ?_
 simp only [push_cast, seval, ↓reduceIte]
 refine Zg ?_
 obtain ⟨y13, hy13, h⟩ := bC h
 refine Zb Zc [] ?_
 simp only [push_cast, seval, ↓reduceIte, Za, hi0, hk0, hN0, hN]
 refine (Zd7 hy13).then ?_
 simp only [push_cast, seval, ↓reduceIte, Za, hi0, hk0, hN0, hN]
 refine Zf [0, 4, 5, 8, 9] [true, true] ?_
 simp only [push_cast, seval, ↓reduceIte]
 refine Zg ?_
 refine Zp [0, 4, 5, 8, 9, 40] (Zb Zc [] ?_)
 simp only [push_cast, seval, ↓reduceIte, Za, hi0, hk0, hN0, hN]
 refine Zr (t := (y13.2 != 0)) rfl (fun c19 => ?_) (fun c19 => ?_)
 ·replace h := Zv c19 h
  refine Zp [6, 7] (Zb Zc [] ?_)
  simp only [push_cast, seval, ↓reduceIte, Za, hi0, hk0, hN0, hN]
  refine Zt ?_
  try simp only [Zi, Ze]
  have h := Option.some.inj h; subst h
  refine Zab (k := 0) (i := i0) (q1 := ⟨false, 115, 1, 1, [.val (.int .i64 (IntKind.i64.wrap (a0.left - 1)))]⟩) (L3 := [none]) (E2 := (⟨62, [], [(6, .val (.bool false)), (7, .val (.int .i64 y13.2))]⟩ : Env)) (n3 := (n + 1)) (.inr rfl) hU rfl [.val (.bool false), .val (.int .i64 y13.2)] ?_ ?_
  ·refine Fit2.trans (E' := (⟨62, [], [(6, .val (.bool false)), (7, .val (.int .i64 y13.2))]⟩ : Env)) (O' := (Z3 (O.upd i0 (some ⟨false, 115, 1, 1, [.val (.int .i64 (IntKind.i64.wrap (a0.left - 1)))]⟩)) n [none, none])) (n' := (n + 2)) (Fit2.of (Q9 hU rfl rfl ?_) (by omega)) ?_
   ·simp only [push_cast, seval, ↓reduceIte, Za, hi0, hk0, hN0, hN]
   refine Zai (k := 2) (k' := 1) hU [0, 0] [0] rfl rfl rfl rfl ⟨rfl, rfl⟩ ?_
   simp only [push_cast, seval, ↓reduceIte, Za, hi0, hk0, hN0, hN]
  simp only [push_cast, seval, ↓reduceIte, Za, Try.results69, hi0, hk0, hN0, hN]
 replace h := Zu c19 h
 refine Zx ?_
 try simp only [Zi, Ze]
 refine Zf [0, 4, 5, 8] [true, true] ?_
 simp only [push_cast, seval, ↓reduceIte]
 refine Zg ?_
 obtain ⟨y15, hy15, h⟩ := bC h
 refine Zb Zc [] ?_
 simp only [push_cast, seval, ↓reduceIte, Za, hi0, hk0, hN0, hN]
 refine (Zd7 hy15).then ?_
 simp only [push_cast, seval, ↓reduceIte, Za, hi0, hk0, hN0, hN]
 refine Zf [0, 4, 5, 8, 9, 10] [true, true] ?_
 simp only [push_cast, seval, ↓reduceIte]
 refine Zg ?_
 refine Zp [0, 4, 5, 8, 9, 53] (Zb Zc [none, none, none] ?_)
 simp only [push_cast, seval, ↓reduceIte, Za, hi0, hk0, hN0, hN]
 repeat (with_reducible refine And.intro (by first | (intro h0; simp only [h0, and_self]; done) | (intro h0; simp only [h0, Bool.not_false, Bool.not_true, Bool.true_and, Bool.and_true, true_and, and_true, and_self, imp_self, implies_true, bne_iff_ne, ne_eq, beq_iff_eq]; done) | (intros; simp_all; done) | exact True.intro) ?_)
 refine Zr (t := (cond (y15.2 != 0) true (y13.1 != y15.1))) rfl (fun c18 => ?_) (fun c18 => ?_)
 ·replace h := Zv c18 h
  refine Zp [6, 7] (Zb Zc [] ?_)
  simp only [push_cast, seval, ↓reduceIte, Za, hi0, hk0, hN0, hN]
  refine Zt ?_
  try simp only [Zi, Ze]
  have h := Option.some.inj h; subst h
  refine Zab (k := 0) (i := i0) (q1 := ⟨false, 115, 1, 1, [.val (.int .i64 (IntKind.i64.wrap (a0.left - 1)))]⟩) (L3 := [none]) (E2 := (⟨62, [], [(6, .val (.bool false)), (7, .val (.int .i64 y15.2))]⟩ : Env)) (n3 := (n + 1)) (.inr rfl) hU rfl [.val (.bool false), .val (.int .i64 y15.2)] ?_ ?_
  ·refine Fit2.trans (E' := (⟨62, [], [(6, .val (.bool false)), (7, .val (.int .i64 y15.2))]⟩ : Env)) (O' := (Z3 (O.upd i0 (some ⟨false, 115, 1, 1, [.val (.int .i64 (IntKind.i64.wrap (a0.left - 1)))]⟩)) n [none, none])) (n' := (n + 2)) (Fit2.of (Q9 hU rfl rfl ?_) (by omega)) ?_
   ·simp only [push_cast, seval, ↓reduceIte, Za, hi0, hk0, hN0, hN]
   refine Zai (k := 2) (k' := 1) hU [0, 0] [0] rfl rfl rfl rfl ⟨rfl, rfl⟩ ?_
   simp only [push_cast, seval, ↓reduceIte, Za, hi0, hk0, hN0, hN]
  simp only [push_cast, seval, ↓reduceIte, Za, Try.results69, hi0, hk0, hN0, hN]
 replace h := Zu c18 h
 refine Zx ?_
 try simp only [Zi, Ze]
 refine Zf [0, 4, 5, 8] [true, true] ?_
 simp only [push_cast, seval, ↓reduceIte]
 refine Zg ?_
 obtain ⟨y17, hy17, h⟩ := bC h
 refine Zb Zc [] ?_
 simp only [push_cast, seval, ↓reduceIte, Za, hi0, hk0, hN0, hN]
 refine (Kc (i0 := i0) (by omega) (by simp only [push_cast, seval, ↓reduceIte, Za, Zei, hi0, hk0, hN0, hN] <;> rfl) hy17).then ?_
 simp only [push_cast, seval, ↓reduceIte, Za, hi0, hk0, hN0, hN]
 refine Zf [6, 7] [false, false] ?_
 simp only [push_cast, seval, ↓reduceIte]
 refine Zt ?_
 try simp only [Zi, Ze]
 have h := Option.some.inj h; subst h
 refine Zab (k := 0) (i := i0) (q1 := ⟨false, 115, 1, 1, [.val (.int .i64 y17.2.2.left)]⟩) (L3 := [none]) (E2 := (⟨62, [], [(6, .val (.bool y17.1)), (7, .val (.int .i64 y17.2.1))]⟩ : Env)) (n3 := (n + 1)) (.inr rfl) hU rfl [.val (.bool y17.1), .val (.int .i64 y17.2.1)] ?_ ?_
 ·refine Fit2.trans (E' := (⟨62, [], [(6, .val (.bool y17.1)), (7, .val (.int .i64 y17.2.1))]⟩ : Env)) (O' := (Z3 (O.upd i0 (some ⟨false, 115, 1, 1, [.val (.int .i64 y17.2.2.left)]⟩)) n [none, none])) (n' := (n + 2)) (Fit2.of (Q9 hU rfl rfl ?_) (by omega)) ?_
  ·simp only [push_cast, seval, ↓reduceIte, Za, hi0, hk0, hN0, hN]
  refine Zai (k := 2) (k' := 1) hU [0, 0] [0] rfl rfl rfl rfl ⟨rfl, rfl⟩ ?_
  simp only [push_cast, seval, ↓reduceIte, Za, hi0, hk0, hN0, hN]
 simp only [push_cast, seval, ↓reduceIte, Za, Try.results69, hi0, hk0, hN0, hN]
theorem Gp {Yd : (Zh → Zd → Zd → Option (Bool × Int × Zh))} {Yg : (Zh → Zd → Zd → Int → Option (Bool × Int × Zh))} (Vb : ∀ {a0 : Zh} {a1 : Zd} {a2 : Zd} {r : (Bool × Int × Zh)} {O : Objs} {n : Nat} {i0 : Nat}, i0 < n → O i0 = some ⟨false, 115, 1, 1, [.val (.int .i64 a0.left)]⟩ → Yd a0 a1 a2 = some r → GTo Try.prog 69 [.ref i0 0, .agg (Zj a1), .agg (Zj a2)] O n (.tup [.val (.bool r.1), .val (.int .i64 r.2.1)]) (Z3 (O.upd i0 (some ⟨false, 115, 1, 1, [.val (.int .i64 r.2.2.left)]⟩)) n []) (n + 0)) (Kc : ∀ {a0 : Zh} {a1 : Zd} {a2 : Zd} {a3 : Int} {r : (Bool × Int × Zh)} {O : Objs} {n : Nat} {i0 : Nat}, i0 < n → O i0 = some ⟨false, 115, 1, 1, [.val (.int .i64 a0.left)]⟩ → Yg a0 a1 a2 a3 = some r → GTo Try.prog 94 [.ref i0 0, .agg (Zj a1), .agg (Zj a2), .val (.int .i64 a3)] O n (.tup [.val (.bool r.1), .val (.int .i64 r.2.1)]) (Z3 (O.upd i0 (some ⟨false, 115, 1, 1, [.val (.int .i64 r.2.2.left)]⟩)) n []) (n + 0)) {a0 : Zh} {a1 : Zd} {a2 : Zd} {a3 : Int} {r : (Bool × Int × Zh)} {O : Objs} {n : Nat} {i0 : Nat} (hi0 : i0 < n) (ho0 : O i0 = some ⟨false, 115, 1, 1, [.val (.int .i64 a0.left)]⟩) (h : Yf Yd Yg a0 a1 a2 a3 = some r) : GTo Try.prog 94 [.ref i0 0, .agg (Zj a1), .agg (Zj a2), .val (.int .i64 a3)] O n (.tup [.val (.bool r.1), .val (.int .i64 r.2.1)]) (Z3 (O.upd i0 (some ⟨false, 115, 1, 1, [.val (.int .i64 r.2.2.left)]⟩)) n []) (n + 0) := by
 unfold Yf at h
 refine Yl Zc Try.call94 Try.func94 rfl (Nat.le_of_ble_eq_true rfl) (by omega) fun hU => ?_
 rw [show Z3 O n [] = Z3 (O.upd i0 (some ⟨false, 115, 1, 1, [.val (.int .i64 a0.left)]⟩)) n [] from by rw [Zp5 (show O i0 = _ from by exact ho0)]]
 have hk0 : ∀ k, i0 < n + k := fun k => by omega
 have hN0 : ∀ o, Objs.upd O i0 o n = none := fun o => Zdw hU hi0 _ (Nat.le_refl _)
 have hN : ∀ o k, Objs.upd O i0 o (n + k) = none := fun o k => Zdw hU hi0 _ (Nat.le_add_right _ _)
 show W _ _ _ _ ⟨53, [], [(0, .ref i0 0), (1, .agg (Zj a1)), (2, .agg (Zj a2)), (3, .val (.int .i64 a3))]⟩ (Z3 (O.upd i0 (some ⟨false, 115, 1, 1, [.val (.int .i64 a0.left)]⟩)) n []) _
 refine Zp [0, 3, 5, 6] (Zb Zc [] ?_)
 simp only [push_cast, seval, ↓reduceIte, Za, hi0, hk0, hN0, hN]
 refine Zg ?_
 refine Zp [0, 5, 6, 16, 17] (Zb Zc [] ?_)
 simp only [push_cast, seval, ↓reduceIte, Za, hi0, hk0, hN0, hN]
 refine Zf [0, 5, 6, 16, 17] [true, true] ?_
 simp only [push_cast, seval, ↓reduceIte]
 obtain ⟨z11, hz11, h⟩ := bC h
 refine Zig (J := (U2 (fun z11 => JR n (⟨53, [], [(8, .val (.bool false)), (9, .val (.int .i64 z11.1))]⟩ : Env) (Z3 (O.upd i0 (some ⟨false, 115, 1, 1, [.val (.int .i64 z11.2)]⟩)) n [none, none]) (n + 2)) (fun z11 => JX 0 n (⟨53, [], []⟩ : Env) (Z3 (O.upd i0 (some ⟨false, 115, 1, 1, [.val (.int .i64 z11)]⟩)) n [none, none]) (n + 2)))) (z := z11) ?_ fun hw => ?_
 ·refine Vz hz11 (fun s0_ => ⟨53, [], [(0, .ref i0 0), (5, .ref n 0), (6, .ref (n + 1) 0), (16, .val (.int .i64 a3)), (17, .val (.int .i64 s0_.1))]⟩) (fun s0_ => (Z3 (O.upd i0 (some ⟨false, 115, 1, 1, [.val (.int .i64 s0_.2)]⟩)) n [some ⟨false, 27, 9, 1, (Zj a1)⟩, some ⟨false, 27, 9, 1, (Zj a2)⟩])) (U2 (fun z11 => JR n (⟨53, [], [(8, .val (.bool false)), (9, .val (.int .i64 z11.1))]⟩ : Env) (Z3 (O.upd i0 (some ⟨false, 115, 1, 1, [.val (.int .i64 z11.2)]⟩)) n [none, none]) (n + 2)) (fun z11 => JX 0 n (⟨53, [], []⟩ : Env) (Z3 (O.upd i0 (some ⟨false, 115, 1, 1, [.val (.int .i64 z11)]⟩)) n [none, none]) (n + 2))) ?_
  intro s0_ x0_ hs0_
  unfold Ye at hs0_
  try dsimp only
  refine Zp [0, 5, 6, 16, 17, 18] (Zb Zc [] ?_)
  simp only [push_cast, seval, ↓reduceIte, Za, hi0, hk0, hN0, hN]
  refine Zg ?_
  refine Zr (t := (decide (s0_.1 < a3))) rfl (fun c10 => ?_) (fun c10 => ?_)
  ·replace hs0_ := Zv c10 hs0_
   refine Zx ?_
   try simp only [Zi, Ze]
   refine Zf [0, 5, 6, 16, 17] [true, true] ?_
   simp only [push_cast, seval, ↓reduceIte]
   refine Zg ?_
   refine X7 ?_
   refine Zp [0, 5, 6, 10, 16, 17] (Zb Zc [] ?_)
   simp only [push_cast, seval, ↓reduceIte, Za, hi0, hk0, hN0, hN]
   refine Zg ?_
   obtain ⟨y2, hy2, hs0_⟩ := bC hs0_
   refine Zb Zc [] ?_
   simp only [push_cast, seval, ↓reduceIte, Za, hi0, hk0, hN0, hN]
   refine (V8 hy2).then ?_
   simp only [push_cast, seval, ↓reduceIte, Za, hi0, hk0, hN0, hN]
   refine Zf [0, 5, 6, 10, 11, 12, 16, 17] [true, true, true] ?_
   simp only [push_cast, seval, ↓reduceIte]
   refine Zg ?_
   refine Zp [0, 5, 6, 10, 11, 12, 16, 17, 27] (Zb Zc [] ?_)
   simp only [push_cast, seval, ↓reduceIte, Za, hi0, hk0, hN0, hN]
   refine Zr (t := (y2.2 != 0)) rfl (fun c9 => ?_) (fun c9 => ?_)
   ·replace hs0_ := Zv c9 hs0_
    refine Zp [8, 9] (Zb Zc [] ?_)
    simp only [push_cast, seval, ↓reduceIte, Za, hi0, hk0, hN0, hN]
    refine Zt ?_
    try simp only [Zi, Ze]
    have hs0_ := Option.some.inj hs0_; subst hs0_
    refine And.intro (fun h => by cases h) (And.intro rfl (Fit2.of (Q9 hU rfl rfl ?_) (by omega)))
    simp only [push_cast, seval, ↓reduceIte, Za, hi0, hk0, hN0, hN]
   replace hs0_ := Zu c9 hs0_
   refine Zx ?_
   try simp only [Zi, Ze]
   refine Zf [0, 5, 6, 10, 11, 16, 17] [true, true, true] ?_
   simp only [push_cast, seval, ↓reduceIte]
   refine Zg ?_
   obtain ⟨y4, hy4, hs0_⟩ := bC hs0_
   refine Zb Zc [] ?_
   simp only [push_cast, seval, ↓reduceIte, Za, hi0, hk0, hN0, hN]
   refine (V8 hy4).then ?_
   simp only [push_cast, seval, ↓reduceIte, Za, hi0, hk0, hN0, hN]
   refine Zf [0, 5, 6, 11, 12, 13, 16, 17] [true, true, true, true] ?_
   simp only [push_cast, seval, ↓reduceIte]
   refine Zg ?_
   refine Zp [0, 5, 6, 11, 12, 13, 16, 17, 36] (Zb Zc [] ?_)
   simp only [push_cast, seval, ↓reduceIte, Za, hi0, hk0, hN0, hN]
   refine Zr (t := (y4.2 != 0)) rfl (fun c8 => ?_) (fun c8 => ?_)
   ·replace hs0_ := Zv c8 hs0_
    refine Zp [8, 9] (Zb Zc [] ?_)
    simp only [push_cast, seval, ↓reduceIte, Za, hi0, hk0, hN0, hN]
    refine Zt ?_
    try simp only [Zi, Ze]
    have hs0_ := Option.some.inj hs0_; subst hs0_
    refine And.intro (fun h => by cases h) (And.intro rfl (Fit2.of (Q9 hU rfl rfl ?_) (by omega)))
    simp only [push_cast, seval, ↓reduceIte, Za, hi0, hk0, hN0, hN]
   replace hs0_ := Zu c8 hs0_
   refine Zx ?_
   try simp only [Zi, Ze]
   refine Zf [0, 5, 6, 11, 13, 16, 17] [true, true, true, true] ?_
   simp only [push_cast, seval, ↓reduceIte]
   refine Zg ?_
   obtain ⟨y6, hy6, hs0_⟩ := bC hs0_
   refine Zb Zc [] ?_
   simp only [push_cast, seval, ↓reduceIte, Za, hi0, hk0, hN0, hN]
   refine (Vb (i0 := i0) (by omega) (by simp only [push_cast, seval, ↓reduceIte, Za, Zei, hi0, hk0, hN0, hN] <;> rfl) hy6).then ?_
   simp only [push_cast, seval, ↓reduceIte, Za, hi0, hk0, hN0, hN]
   refine Zf [0, 5, 6, 14, 15, 16, 17] [true, true, false, false] ?_
   simp only [push_cast, seval, ↓reduceIte]
   refine Zp [0, 5, 6, 15, 16, 17, 50] (Zb Zc [none, none] ?_)
   simp only [push_cast, seval, ↓reduceIte, Za, hi0, hk0, hN0, hN]
   repeat (with_reducible refine And.intro (by first | (intro h0; simp only [h0, and_self]; done) | (intro h0; simp only [h0, Bool.not_false, Bool.not_true, Bool.true_and, Bool.and_true, true_and, and_true, and_self, imp_self, implies_true, bne_iff_ne, ne_eq, beq_iff_eq]; done) | (intros; simp_all; done) | exact True.intro) ?_)
   refine Zr (t := (cond (!y6.1) true (y6.2.1 != 0))) rfl (fun c7 => ?_) (fun c7 => ?_)
   ·replace hs0_ := Zv c7 hs0_
    refine Zp [8, 9] (Zb Zc [] ?_)
    simp only [push_cast, seval, ↓reduceIte, Za, hi0, hk0, hN0, hN]
    refine Zt ?_
    try simp only [Zi, Ze]
    have hs0_ := Option.some.inj hs0_; subst hs0_
    refine And.intro (fun h => by cases h) (And.intro rfl (Fit2.of (Q9 hU rfl rfl ?_) (by omega)))
    simp only [push_cast, seval, ↓reduceIte, Za, hi0, hk0, hN0, hN]
   replace hs0_ := Zu c7 hs0_
   refine Zx ?_
   try simp only [Zi, Ze]
   refine Zf [0, 5, 6, 16, 17] [true, true, false, false] ?_
   simp only [push_cast, seval, ↓reduceIte]
   refine Zb Zc [] ?_
   simp only [push_cast, seval, ↓reduceIte, Za, hi0, hk0, hN0, hN]
   have hs0_ := Option.some.inj hs0_; subst hs0_
   refine And.intro rfl (Fit2.of (Q9 hU rfl rfl ?_) (by omega))
   simp only [push_cast, seval, ↓reduceIte, Za, hi0, hk0, hN0, hN]
  replace hs0_ := Zu c10 hs0_
  refine Gy ?_
  try simp only [Zi, Ze, ↓reduceIte, Nat.reduceEqDiff]
  have hs0_ := Option.some.inj hs0_; subst hs0_
  refine And.intro (fun h => by cases h) (And.intro rfl (Fit2.of (Q9 hU rfl rfl ?_) (by omega)))
  simp only [push_cast, seval, ↓reduceIte, Za, hi0, hk0, hN0, hN]
 rcases z11 with z11 | z11
 ·dsimp only [U2] at hw h
  refine Zcb hw ?_
  try simp only [Zi, Ze, ↓reduceIte, Nat.reduceEqDiff]
  have h := Option.some.inj h; subst h
  refine Zab (k := 0) (i := i0) (q1 := ⟨false, 115, 1, 1, [.val (.int .i64 z11.2)]⟩) (L3 := [none]) (E2 := (⟨53, [], [(8, .val (.bool false)), (9, .val (.int .i64 z11.1))]⟩ : Env)) (n3 := (n + 1)) (.inr rfl) hU rfl [.val (.bool false), .val (.int .i64 z11.1)] ?_ ?_
  ·refine Fit2.trans (E' := (⟨53, [], [(8, .val (.bool false)), (9, .val (.int .i64 z11.1))]⟩ : Env)) (O' := (Z3 (O.upd i0 (some ⟨false, 115, 1, 1, [.val (.int .i64 z11.2)]⟩)) n [none, none])) (n' := (n + 2)) (Fit2.of (Q9 hU rfl rfl ?_) (by omega)) ?_
   ·simp only [push_cast, seval, ↓reduceIte, Za, hi0, hk0, hN0, hN]
   refine Zai (k := 2) (k' := 1) hU [0, 0] [0] rfl rfl rfl rfl ⟨rfl, rfl⟩ ?_
   simp only [push_cast, seval, ↓reduceIte, Za, hi0, hk0, hN0, hN]
  simp only [push_cast, seval, ↓reduceIte, Za, Try.results94, hi0, hk0, hN0, hN]
 dsimp only [U2] at hw h
 refine Ki hw ?_
 try simp only [Zi, Ze, ↓reduceIte, Nat.reduceEqDiff]
 refine Zf [] [false, false] ?_
 simp only [push_cast, seval, ↓reduceIte]
 refine Zp [8, 9] (Zb Zc [] ?_)
 simp only [push_cast, seval, ↓reduceIte, Za, hi0, hk0, hN0, hN]
 refine Zt ?_
 try simp only [Zi, Ze]
 have h := Option.some.inj h; subst h
 refine Zab (k := 0) (i := i0) (q1 := ⟨false, 115, 1, 1, [.val (.int .i64 z11)]⟩) (L3 := [none]) (E2 := (⟨53, [], [(8, .val (.bool true)), (9, .val (.int .i64 0))]⟩ : Env)) (n3 := (n + 1)) (.inr rfl) hU rfl [.val (.bool true), .val (.int .i64 0)] ?_ ?_
 ·refine Fit2.trans (E' := (⟨53, [], [(8, .val (.bool true)), (9, .val (.int .i64 0))]⟩ : Env)) (O' := (Z3 (O.upd i0 (some ⟨false, 115, 1, 1, [.val (.int .i64 z11)]⟩)) n [none, none])) (n' := (n + 2)) (Fit2.of (Q9 hU rfl rfl ?_) (by omega)) ?_
  ·simp only [push_cast, seval, ↓reduceIte, Za, hi0, hk0, hN0, hN]
  refine Zai (k := 2) (k' := 1) hU [0, 0] [0] rfl rfl rfl rfl ⟨rfl, rfl⟩ ?_
  simp only [push_cast, seval, ↓reduceIte, Za, hi0, hk0, hN0, hN]
 simp only [push_cast, seval, ↓reduceIte, Za, Try.results94, hi0, hk0, hN0, hN]
theorem Zat : ∀ k, (∀ {a0 : Zh} {a1 : Zd} {a2 : Zd} {r : (Bool × Int × Zh)} {O : Objs} {n : Nat} {i0 : Nat}, i0 < n → O i0 = some ⟨false, 115, 1, 1, [.val (.int .i64 a0.left)]⟩ → (Zq k).1 a0 a1 a2 = some r → GTo Try.prog 69 [.ref i0 0, .agg (Zj a1), .agg (Zj a2)] O n (.tup [.val (.bool r.1), .val (.int .i64 r.2.1)]) (Z3 (O.upd i0 (some ⟨false, 115, 1, 1, [.val (.int .i64 r.2.2.left)]⟩)) n []) (n + 0)) ∧ (∀ {a0 : Zh} {a1 : Zd} {a2 : Zd} {a3 : Int} {r : (Bool × Int × Zh)} {O : Objs} {n : Nat} {i0 : Nat}, i0 < n → O i0 = some ⟨false, 115, 1, 1, [.val (.int .i64 a0.left)]⟩ → (Zq k).2 a0 a1 a2 a3 = some r → GTo Try.prog 94 [.ref i0 0, .agg (Zj a1), .agg (Zj a2), .val (.int .i64 a3)] O n (.tup [.val (.bool r.1), .val (.int .i64 r.2.1)]) (Z3 (O.upd i0 (some ⟨false, 115, 1, 1, [.val (.int .i64 r.2.2.left)]⟩)) n []) (n + 0)) := fun k => by
 induction k with
 | zero => exact ⟨@fun a0 a1 a2 r O n i0 hi0 ho0 h => (nomatch (show (none : Option _) = some _ from h)), @fun a0 a1 a2 a3 r O n i0 hi0 ho0 h => (nomatch (show (none : Option _) = some _ from h))⟩
 | succ k ih => exact ⟨@fun a0 a1 a2 r O n i0 hi0 ho0 h => Zbi (ih.1) (ih.2) hi0 ho0 h, @fun a0 a1 a2 a3 r O n i0 hi0 ho0 h => Gp (ih.1) (ih.2) hi0 ho0 h⟩
theorem Zbu {a0 : Zh} {a1 : Zd} {a2 : Zd} {r : (Bool × Int × Zh)} {O : Objs} {n : Nat} {i0 : Nat} (hi0 : i0 < n) (ho0 : O i0 = some ⟨false, 115, 1, 1, [.val (.int .i64 a0.left)]⟩) (h : Kg a0 a1 a2 = some r) : GTo Try.prog 69 [.ref i0 0, .agg (Zj a1), .agg (Zj a2)] O n (.tup [.val (.bool r.1), .val (.int .i64 r.2.1)]) (Z3 (O.upd i0 (some ⟨false, 115, 1, 1, [.val (.int .i64 r.2.2.left)]⟩)) n []) (n + 0) := by
 obtain ⟨k, hk⟩ := Zpi h
 exact (Zat k).1 hi0 ho0 hk
theorem Ql {a0 : Zd} {a1 : Zd} {r : (Bool × Int)} {O : Objs} {n : Nat} (h : Xb a0 a1 = some r) : GTo Try.prog 46 [.agg (Zj a0), .agg (Zj a1)] O n (.tup [.val (.bool r.1), .val (.int .i64 r.2)]) O n := by
 unfold Xb at h
 refine Yl Zc Try.call46 Try.func46 rfl (Nat.le_of_ble_eq_true rfl) (Nat.le_refl _) fun hU => ?_
 have hN0 : O n = none := hU.fresh _ (Nat.le_refl _)
 have hN : ∀ k, O (n + k) = none := fun k => hU.fresh _ (Nat.le_add_right _ _)
 show W _ _ _ _ ⟨13, [], [(0, .agg (Zj a0)), (1, .agg (Zj a1))]⟩ (Z3 O n []) _
 refine Zp [2, 3] (Zb Zc [] ?_)
 simp only [push_cast, seval, ↓reduceIte, Za, hN0, hN]
 refine Zg ?_
 refine Zb Zc [] ?_
 simp only [push_cast, seval, ↓reduceIte, Za, hN0, hN]
 refine Zf [2, 3, 6] [true, true, true] ?_
 simp only [push_cast, seval, ↓reduceIte]
 refine Zg ?_
 obtain ⟨y2, hy2, h⟩ := bC h
 refine Zb Zc [] ?_
 simp only [push_cast, seval, ↓reduceIte, Za, hN0, hN]
 refine (Zbu (i0 := (n + 2)) (by omega) (by simp only [push_cast, seval, ↓reduceIte, Za, Zei, hN0, hN] <;> rfl) hy2).then ?_
 simp only [push_cast, seval, ↓reduceIte, Za, hN0, hN]
 refine Zf [4, 5] [false, false, false] ?_
 simp only [push_cast, seval, ↓reduceIte]
 refine Zt ?_
 try simp only [Zi, Ze]
 have h := Option.some.inj h; subst h
 refine Zl (.inr rfl) hU [.val (.bool y2.1), .val (.int .i64 y2.2.1)] (by omega) ?_
 simp only [push_cast, seval, ↓reduceIte, Za, Try.results46, hN0, hN]
theorem Jl  {r : Bool} {O : Objs} {n : Nat} (h : Xa = some r) : GTo Try.prog 44 [] O n (.val (.bool r)) O n := by
 unfold Xa at h
 refine Yl Zc Try.call44 Try.func44 rfl (Nat.le_of_ble_eq_true rfl) (Nat.le_refl _) fun hU => ?_
 have hN0 : O n = none := hU.fresh _ (Nat.le_refl _)
 have hN : ∀ k, O (n + k) = none := fun k => hU.fresh _ (Nat.le_add_right _ _)
 show W _ _ _ _ ⟨38, [], []⟩ (Z3 O n []) _
 refine Zp [] (Zb Zc [] ?_)
 simp only [push_cast, seval, ↓reduceIte, Za, hN0, hN]
 refine Zg ?_
 obtain ⟨y4, hy4, h⟩ := bC h
 obtain ⟨y5, hy5, h⟩ := bC h
 obtain ⟨y6, hy6, h⟩ := bC h
 refine Zb Zc [] ?_
 simp only [push_cast, seval, ↓reduceIte, Za, hN0, hN]
 refine GCalls.dropL (l' := [none, none]) hU rfl ?_ ((Xl hy4).then ?_)
 ·simp only [push_cast, seval, ↓reduceIte, Za, hN0, hN]
 simp only [push_cast, seval, ↓reduceIte, Za, hN0, hN]
 refine GCalls.dropL (l' := [none, none, none, none]) hU rfl ?_ ((Xl hy5).then ?_)
 ·simp only [push_cast, seval, ↓reduceIte, Za, hN0, hN]
 simp only [push_cast, seval, ↓reduceIte, Za, hN0, hN]
 refine (Ql hy6).then ?_
 simp only [push_cast, seval, ↓reduceIte, Za, hN0, hN]
 refine Zf [1, 2] [false, false, false, false] ?_
 simp only [push_cast, seval, ↓reduceIte]
 refine Zg ?_
 obtain ⟨y10, hy10, h⟩ := bC h
 obtain ⟨y11, hy11, h⟩ := bC h
 obtain ⟨y12, hy12, h⟩ := bC h
 refine Zb Zc [] ?_
 simp only [push_cast, seval, ↓reduceIte, Za, hN0, hN]
 refine GCalls.dropL (l' := [none, none, none, none, none, none]) hU rfl ?_ ((Xl hy10).then ?_)
 ·simp only [push_cast, seval, ↓reduceIte, Za, hN0, hN]
 simp only [push_cast, seval, ↓reduceIte, Za, hN0, hN]
 refine GCalls.dropL (l' := [none, none, none, none, none, none, none, none]) hU rfl ?_ ((Xl hy11).then ?_)
 ·simp only [push_cast, seval, ↓reduceIte, Za, hN0, hN]
 simp only [push_cast, seval, ↓reduceIte, Za, hN0, hN]
 refine (Ql hy12).then ?_
 simp only [push_cast, seval, ↓reduceIte, Za, hN0, hN]
 refine Zf [1, 2, 3, 4] [false, false, false, false, false, false, false, false] ?_
 simp only [push_cast, seval, ↓reduceIte]
 refine Zp [0] (Zb Zc [none, none, none, none, none, none] ?_)
 simp only [push_cast, seval, ↓reduceIte, Za, hN0, hN]
 repeat (with_reducible refine And.intro (by first | (intro h0; simp only [h0, and_self]; done) | (intro h0; simp only [h0, Bool.not_false, Bool.not_true, Bool.true_and, Bool.and_true, true_and, and_true, and_self, imp_self, implies_true, bne_iff_ne, ne_eq, beq_iff_eq]; done) | (intros; simp_all; done) | exact True.intro) ?_)
 refine Zt ?_
 try simp only [Zi, Ze]
 have h := Option.some.inj h; subst h
 refine Zl (.inr rfl) hU [.val (.bool (cond (cond (cond y6.1 (y6.2 == 0) false) (!y12.1) false) (y12.2 == 0) false))] (by omega) ?_
 simp only [push_cast, seval, ↓reduceIte, Za, Try.results44, hN0, hN]
theorem Zbh {a0 : (List (List Int))} {a1 : (List (List Int))} {a2 : (List (List Int))} {a3 : Z5} {r : Bool} {O : Objs} {n : Nat} (h : Qo a0 a1 a2 a3 = some r) : GTo Try.prog 14 [.sl a0.length (fl (eL (eI .u64)) a0), .sl a1.length (fl (eL (eI .u64)) a1), .sl a2.length (fl (eL (eI .u64)) a2), .agg (Yr a3)] O n (.val (.bool r)) O n := by
 unfold Qo at h
 refine Yl Zc Try.call14 Try.func14 rfl (Nat.le_of_ble_eq_true rfl) (Nat.le_refl _) fun hU => ?_
 have hN0 : O n = none := hU.fresh _ (Nat.le_refl _)
 have hN : ∀ k, O (n + k) = none := fun k => hU.fresh _ (Nat.le_add_right _ _)
 show W _ _ _ _ ⟨130, [], [(0, .sl a0.length (fl (eL (eI .u64)) a0)), (1, .sl a1.length (fl (eL (eI .u64)) a1)), (2, .sl a2.length (fl (eL (eI .u64)) a2)), (3, .agg (Yr a3))]⟩ (Z3 O n []) _
 refine Zp [0, 1, 2, 7] (Zb Zc [] ?_)
 simp only [push_cast, seval, ↓reduceIte, Za, hN0, hN]
 refine Zg ?_
 obtain ⟨y2, hy2, h⟩ := bC h
 refine Zb Zc [] ?_
 simp only [push_cast, seval, ↓reduceIte, Za, hN0, hN]
 refine (Zdy hy2).then ?_
 simp only [push_cast, seval, ↓reduceIte, Za, hN0, hN]
 refine Zf [0, 1, 2, 7] [true] ?_
 simp only [push_cast, seval, ↓reduceIte]
 refine Zg ?_
 obtain ⟨y4, hy4, h⟩ := bC h
 refine Zb Zc [] ?_
 simp only [push_cast, seval, ↓reduceIte, Za, hN0, hN]
 refine (Kp hy4).then ?_
 simp only [push_cast, seval, ↓reduceIte, Za, hN0, hN]
 refine Zf [0, 1, 2, 7, 11] [true, false] ?_
 simp only [push_cast, seval, ↓reduceIte]
 refine Zg ?_
 obtain ⟨y6, hy6, h⟩ := bC h
 refine Zb Zc [] ?_
 simp only [push_cast, seval, ↓reduceIte, Za, hN0, hN]
 refine (Kp hy6).then ?_
 simp only [push_cast, seval, ↓reduceIte, Za, hN0, hN]
 refine Zf [0, 1, 2, 7, 11, 14] [true, false, false] ?_
 simp only [push_cast, seval, ↓reduceIte]
 refine Zg ?_
 obtain ⟨y8, hy8, h⟩ := bC h
 refine Zb Zc [] ?_
 simp only [push_cast, seval, ↓reduceIte, Za, hN0, hN]
 refine (Kp hy8).then ?_
 simp only [push_cast, seval, ↓reduceIte, Za, hN0, hN]
 refine Zf [0, 1, 2, 11, 14, 17] [false, false, false, false] ?_
 simp only [push_cast, seval, ↓reduceIte]
 refine Zg ?_
 refine Zp [0, 1, 2, 63] (Zb Zc [none, none, none, none] ?_)
 simp only [push_cast, seval, ↓reduceIte, Za, hN0, hN]
 repeat (with_reducible refine And.intro (by first | (intro h0; simp only [h0, and_self]; done) | (intro h0; simp only [h0, Bool.not_false, Bool.not_true, Bool.true_and, Bool.and_true, true_and, and_true, and_self, imp_self, implies_true, bne_iff_ne, ne_eq, beq_iff_eq]; done) | (intros; simp_all; done) | exact True.intro) ?_)
 refine Zr (t := (cond (cond (y4.2.2 != 0) true (y6.2.2 != 0)) true (y8.2.2 != 0))) rfl (fun c44 => ?_) (fun c44 => ?_)
 ·replace h := Zv c44 h
  refine Zg ?_
  obtain ⟨y10, hy10, h⟩ := bC h
  refine Zb Zc [] ?_
  simp only [push_cast, seval, ↓reduceIte, Za, hN0, hN]
  refine (Jl hy10).then ?_
  simp only [push_cast, seval, ↓reduceIte, Za, hN0, hN]
  refine Zf [8] [false, false, false, false] ?_
  simp only [push_cast, seval, ↓reduceIte]
  refine Zt ?_
  try simp only [Zi, Ze]
  have h := Option.some.inj h; subst h
  refine Zl (.inr rfl) hU [.val (.bool y10)] (by omega) ?_
  simp only [push_cast, seval, ↓reduceIte, Za, Try.results14, hN0, hN]
 replace h := Zu c44 h
 refine Zx ?_
 try simp only [Zi, Ze]
 refine Zf [0, 1, 2] [false, false, false, false] ?_
 simp only [push_cast, seval, ↓reduceIte]
 refine Zg ?_
 obtain ⟨y14, hy14, h⟩ := bC h
 obtain ⟨y15, hy15, h⟩ := bC h
 obtain ⟨y16, hy16, h⟩ := bC h
 refine Zb Zc [] ?_
 simp only [push_cast, seval, ↓reduceIte, Za, hN0, hN]
 refine (Xl hy14).then ?_
 simp only [push_cast, seval, ↓reduceIte, Za, hN0, hN]
 refine (Xl hy15).then ?_
 simp only [push_cast, seval, ↓reduceIte, Za, hN0, hN]
 refine (Xl hy16).then ?_
 simp only [push_cast, seval, ↓reduceIte, Za, hN0, hN]
 refine Zf [18, 19, 20] [false, false, false, false, true, true, true] ?_
 simp only [push_cast, seval, ↓reduceIte]
 refine Zg ?_
 obtain ⟨y18, hy18, h⟩ := bC h
 refine Zb Zc [] ?_
 simp only [push_cast, seval, ↓reduceIte, Za, hN0, hN]
 refine (Ql hy18).then ?_
 simp only [push_cast, seval, ↓reduceIte, Za, hN0, hN]
 refine Zf [18, 19, 20, 21] [false, false, false, false, true, true, true] ?_
 simp only [push_cast, seval, ↓reduceIte]
 refine Zg ?_
 obtain ⟨y20, hy20, h⟩ := bC h
 refine Zb Zc [] ?_
 simp only [push_cast, seval, ↓reduceIte, Za, hN0, hN]
 refine (Ql hy20).then ?_
 simp only [push_cast, seval, ↓reduceIte, Za, hN0, hN]
 refine Zf [18, 19, 20, 21, 23] [false, false, false, false, true, true, true] ?_
 simp only [push_cast, seval, ↓reduceIte]
 refine Zg ?_
 obtain ⟨y22, hy22, h⟩ := bC h
 refine Zb Zc [] ?_
 simp only [push_cast, seval, ↓reduceIte, Za, hN0, hN]
 refine (Ql hy22).then ?_
 simp only [push_cast, seval, ↓reduceIte, Za, hN0, hN]
 refine Zf [18, 19, 20, 21, 23, 25] [false, false, false, false, true, true, true] ?_
 simp only [push_cast, seval, ↓reduceIte]
 refine Zg ?_
 obtain ⟨y24, hy24, h⟩ := bC h
 refine Zb Zc [] ?_
 simp only [push_cast, seval, ↓reduceIte, Za, hN0, hN]
 refine (Ql hy24).then ?_
 simp only [push_cast, seval, ↓reduceIte, Za, hN0, hN]
 refine Zf [18, 20, 21, 23, 25, 27] [false, false, false, false, true, false, true] ?_
 simp only [push_cast, seval, ↓reduceIte]
 refine Zg ?_
 obtain ⟨y26, hy26, h⟩ := bC h
 refine Zb Zc [] ?_
 simp only [push_cast, seval, ↓reduceIte, Za, hN0, hN]
 refine (Ql hy26).then ?_
 simp only [push_cast, seval, ↓reduceIte, Za, hN0, hN]
 refine Zf [21, 23, 25, 27, 29] [false, false, false, false, false, false, false] ?_
 simp only [push_cast, seval, ↓reduceIte]
 obtain ⟨z30, hz30, h⟩ := bC h
 refine Qt (E' := ⟨130, [], [(8, .val (.bool z30))]⟩) (O' := (Z3 O n [none, none, none, none, none, none, none])) (n0 := (n + 7)) ?_ ?_
 ·rcases Bool.eq_false_or_eq_true y18.1 with c37 | c37
  ·replace hz30 := Zv c37 hz30
   rcases Bool.eq_false_or_eq_true (y20.1 == y22.1) with c38 | c38
   ·replace hz30 := Zv c38 hz30
    try rw [c38] at c37
    try (rw [c37] at c38; simp at c38)
    all_goals
     rcases Bool.eq_false_or_eq_true y20.1 with c39 | c39
     ·replace hz30 := Zv c39 hz30
      try rw [c39] at c37
      try rw [c39] at c38
      rcases Bool.eq_false_or_eq_true y24.1 with c40 | c40
      ·replace hz30 := Zv c40 hz30
       try rw [c40] at c37
       try rw [c40] at c38
       try rw [c40] at c39
       rcases Bool.eq_false_or_eq_true y26.1 with c41 | c41
       ·replace hz30 := Zv c41 hz30
        try rw [c41] at c37
        try rw [c41] at c38
        try rw [c41] at c39
        try rw [c41] at c40
        rcases Bool.eq_false_or_eq_true (y24.1 == y26.1) with c42 | c42
        ·replace hz30 := Zv c42 hz30
         try rw [c42] at c37
         try rw [c42] at c38
         try rw [c42] at c39
         try rw [c42] at c40
         try rw [c42] at c41
         try (rw [c37] at c42; simp at c42)
         try (rw [c38] at c42; simp at c42)
         try (rw [c39] at c42; simp at c42)
         try (rw [c40] at c42; simp at c42)
         try (rw [c41] at c42; simp at c42)
         all_goals
          obtain ⟨y34, hy34, hz30⟩ := bC hz30
          refine Zb Zc [none, none, none, none, none, none, none, none, none, none, none, none, none, none, none, none, none, none, none, some true] ?_
          simp only [push_cast, seval, ↓reduceIte, Za, c37, c38, c39, c40, c41, c42, hN0, hN]
          repeat (with_reducible refine And.intro (by first | (intro h0; simp only [h0, and_self]; done) | (intro h0; simp only [h0, Bool.not_false, Bool.not_true, Bool.true_and, Bool.and_true, true_and, and_true, and_self, imp_self, implies_true, bne_iff_ne, ne_eq, beq_iff_eq]; done) | (intros; simp_all; done) | exact True.intro) ?_)
          refine (Jl hy34).then ?_
          simp only [push_cast, seval, ↓reduceIte, Za, c37, c38, c39, c40, c41, c42, hN0, hN]
          repeat (with_reducible refine And.intro (by first | (intro h0; simp only [h0, and_self]; done) | (intro h0; simp only [h0, Bool.not_false, Bool.not_true, Bool.true_and, Bool.and_true, true_and, and_true, and_self, imp_self, implies_true, bne_iff_ne, ne_eq, beq_iff_eq]; done) | (intros; simp_all; done) | exact True.intro) ?_)
          have hz30 := Option.some.inj hz30; subst hz30
          refine And.intro rfl (Fit2.of (Zs hU rfl rfl ?_) (by omega))
          simp only [push_cast, seval, ↓reduceIte, Za, c37, c38, c39, c40, c41, c42, hN0, hN]
        replace hz30 := Zu c42 hz30
        try rw [c42] at c37
        try rw [c42] at c38
        try rw [c42] at c39
        try rw [c42] at c40
        try rw [c42] at c41
        try (rw [c37] at c42; simp at c42)
        try (rw [c38] at c42; simp at c42)
        try (rw [c39] at c42; simp at c42)
        try (rw [c40] at c42; simp at c42)
        try (rw [c41] at c42; simp at c42)
        all_goals
         refine Zb Zc [none, none, none, none, none, none, none, none, none, none, none, none, none, none, none, none, none, none, none, some false] ?_
         simp only [push_cast, seval, ↓reduceIte, Za, c37, c38, c39, c40, c41, c42, hN0, hN]
         repeat (with_reducible refine And.intro (by first | (intro h0; simp only [h0, and_self]; done) | (intro h0; simp only [h0, Bool.not_false, Bool.not_true, Bool.true_and, Bool.and_true, true_and, and_true, and_self, imp_self, implies_true, bne_iff_ne, ne_eq, beq_iff_eq]; done) | (intros; simp_all; done) | exact True.intro) ?_)
         have hz30 := Option.some.inj hz30; subst hz30
         refine And.intro rfl (Fit2.of (Zs hU rfl rfl ?_) (by omega))
         simp only [push_cast, seval, ↓reduceIte, Za, c37, c38, c39, c40, c41, c42, hN0, hN]
       replace hz30 := Zu c41 hz30
       try rw [c41] at c37
       try rw [c41] at c38
       try rw [c41] at c39
       try rw [c41] at c40
       refine Zb Zc [none, none, none, none, none, none, none, none, none, none, none, none, none, none, none, none, none, none, none, some false] ?_
       simp only [push_cast, seval, ↓reduceIte, Za, c37, c38, c39, c40, c41, hN0, hN]
       repeat (with_reducible refine And.intro (by first | (intro h0; simp only [h0, and_self]; done) | (intro h0; simp only [h0, Bool.not_false, Bool.not_true, Bool.true_and, Bool.and_true, true_and, and_true, and_self, imp_self, implies_true, bne_iff_ne, ne_eq, beq_iff_eq]; done) | (intros; simp_all; done) | exact True.intro) ?_)
       have hz30 := Option.some.inj hz30; subst hz30
       refine And.intro rfl (Fit2.of (Zs hU rfl rfl ?_) (by omega))
       simp only [push_cast, seval, ↓reduceIte, Za, c37, c38, c39, c40, c41, hN0, hN]
      replace hz30 := Zu c40 hz30
      try rw [c40] at c37
      try rw [c40] at c38
      try rw [c40] at c39
      rcases Bool.eq_false_or_eq_true (y24.1 == y26.1) with c43 | c43
      ·replace hz30 := Zv c43 hz30
       try rw [c43] at c37
       try rw [c43] at c38
       try rw [c43] at c39
       try rw [c43] at c40
       try (rw [c37] at c43; simp at c43)
       try (rw [c38] at c43; simp at c43)
       try (rw [c39] at c43; simp at c43)
       try (rw [c40] at c43; simp at c43)
       all_goals
        obtain ⟨y35, hy35, hz30⟩ := bC hz30
        refine Zb Zc [none, none, none, none, none, none, none, none, none, none, none, none, none, none, none, none, none, none, none, some true] ?_
        simp only [push_cast, seval, ↓reduceIte, Za, c37, c38, c39, c40, c43, hN0, hN]
        repeat (with_reducible refine And.intro (by first | (intro h0; simp only [h0, and_self]; done) | (intro h0; simp only [h0, Bool.not_false, Bool.not_true, Bool.true_and, Bool.and_true, true_and, and_true, and_self, imp_self, implies_true, bne_iff_ne, ne_eq, beq_iff_eq]; done) | (intros; simp_all; done) | exact True.intro) ?_)
        refine (Jl hy35).then ?_
        simp only [push_cast, seval, ↓reduceIte, Za, c37, c38, c39, c40, c43, hN0, hN]
        repeat (with_reducible refine And.intro (by first | (intro h0; simp only [h0, and_self]; done) | (intro h0; simp only [h0, Bool.not_false, Bool.not_true, Bool.true_and, Bool.and_true, true_and, and_true, and_self, imp_self, implies_true, bne_iff_ne, ne_eq, beq_iff_eq]; done) | (intros; simp_all; done) | exact True.intro) ?_)
        have hz30 := Option.some.inj hz30; subst hz30
        refine And.intro rfl (Fit2.of (Zs hU rfl rfl ?_) (by omega))
        simp only [push_cast, seval, ↓reduceIte, Za, c37, c38, c39, c40, c43, hN0, hN]
      replace hz30 := Zu c43 hz30
      try rw [c43] at c37
      try rw [c43] at c38
      try rw [c43] at c39
      try rw [c43] at c40
      try (rw [c37] at c43; simp at c43)
      try (rw [c38] at c43; simp at c43)
      try (rw [c39] at c43; simp at c43)
      try (rw [c40] at c43; simp at c43)
      all_goals
       refine Zb Zc [none, none, none, none, none, none, none, none, none, none, none, none, none, none, none, none, none, none, none, some false] ?_
       simp only [push_cast, seval, ↓reduceIte, Za, c37, c38, c39, c40, c43, hN0, hN]
       repeat (with_reducible refine And.intro (by first | (intro h0; simp only [h0, and_self]; done) | (intro h0; simp only [h0, Bool.not_false, Bool.not_true, Bool.true_and, Bool.and_true, true_and, and_true, and_self, imp_self, implies_true, bne_iff_ne, ne_eq, beq_iff_eq]; done) | (intros; simp_all; done) | exact True.intro) ?_)
       have hz30 := Option.some.inj hz30; subst hz30
       refine And.intro rfl (Fit2.of (Zs hU rfl rfl ?_) (by omega))
       simp only [push_cast, seval, ↓reduceIte, Za, c37, c38, c39, c40, c43, hN0, hN]
     replace hz30 := Zu c39 hz30
     try rw [c39] at c37
     try rw [c39] at c38
     obtain ⟨y36, hy36, hz30⟩ := bC hz30
     refine Zb Zc [none, none, none, none, none, none, none, none, none, none, none, none, none, none, none, none, none, none, none, some true] ?_
     simp only [push_cast, seval, ↓reduceIte, Za, c37, c38, c39, hN0, hN]
     repeat (with_reducible refine And.intro (by first | (intro h0; simp only [h0, and_self]; done) | (intro h0; simp only [h0, Bool.not_false, Bool.not_true, Bool.true_and, Bool.and_true, true_and, and_true, and_self, imp_self, implies_true, bne_iff_ne, ne_eq, beq_iff_eq]; done) | (intros; simp_all; done) | exact True.intro) ?_)
     refine (Jl hy36).then ?_
     simp only [push_cast, seval, ↓reduceIte, Za, c37, c38, c39, hN0, hN]
     repeat (with_reducible refine And.intro (by first | (intro h0; simp only [h0, and_self]; done) | (intro h0; simp only [h0, Bool.not_false, Bool.not_true, Bool.true_and, Bool.and_true, true_and, and_true, and_self, imp_self, implies_true, bne_iff_ne, ne_eq, beq_iff_eq]; done) | (intros; simp_all; done) | exact True.intro) ?_)
     have hz30 := Option.some.inj hz30; subst hz30
     refine And.intro rfl (Fit2.of (Zs hU rfl rfl ?_) (by omega))
     simp only [push_cast, seval, ↓reduceIte, Za, c37, c38, c39, hN0, hN]
   replace hz30 := Zu c38 hz30
   try rw [c38] at c37
   try (rw [c37] at c38; simp at c38)
   all_goals
    refine Zb Zc [none, none, none, none, none, none, none, none, none, none, none, none, none, none, none, none, none, none, none, some false] ?_
    simp only [push_cast, seval, ↓reduceIte, Za, c37, c38, hN0, hN]
    repeat (with_reducible refine And.intro (by first | (intro h0; simp only [h0, and_self]; done) | (intro h0; simp only [h0, Bool.not_false, Bool.not_true, Bool.true_and, Bool.and_true, true_and, and_true, and_self, imp_self, implies_true, bne_iff_ne, ne_eq, beq_iff_eq]; done) | (intros; simp_all; done) | exact True.intro) ?_)
    have hz30 := Option.some.inj hz30; subst hz30
    refine And.intro rfl (Fit2.of (Zs hU rfl rfl ?_) (by omega))
    simp only [push_cast, seval, ↓reduceIte, Za, c37, c38, hN0, hN]
  replace hz30 := Zu c37 hz30
  refine Zb Zc [none, none, none, none, none, none, none, none, none, none, none, none, none, none, none, none, none, none, none, some false] ?_
  simp only [push_cast, seval, ↓reduceIte, Za, c37, hN0, hN]
  repeat (with_reducible refine And.intro (by first | (intro h0; simp only [h0, and_self]; done) | (intro h0; simp only [h0, Bool.not_false, Bool.not_true, Bool.true_and, Bool.and_true, true_and, and_true, and_self, imp_self, implies_true, bne_iff_ne, ne_eq, beq_iff_eq]; done) | (intros; simp_all; done) | exact True.intro) ?_)
  have hz30 := Option.some.inj hz30; subst hz30
  refine And.intro rfl (Fit2.of (Zs hU rfl rfl ?_) (by omega))
  simp only [push_cast, seval, ↓reduceIte, Za, c37, hN0, hN]
 refine Zt ?_
 try simp only [Zi, Ze]
 have h := Option.some.inj h; subst h
 refine Zl (.inr rfl) hU [.val (.bool z30)] (by omega) ?_
 simp only [push_cast, seval, ↓reduceIte, Za, Try.results14, hN0, hN]
end Go.Proofs.Ytmlhokaflhlhbaa
