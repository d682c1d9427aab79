/- Part QM1 of this seat's mirrors: functions of the seat's program, and the plain functions that they are; each theorem bears its own conditions. -/
import Derived.Test.YtmlhokaflhlhbaaQE
namespace Go.Proofs.Ytmlhokaflhlhbaa
open Go.RowKit
set_option linter.unusedVariables false
set_option linter.unusedSimpArgs false
set_option maxRecDepth 100000
set_option maxHeartbeats 4000000
attribute [local push_cast] Yr Y6 Zo Yb Zj Zmb Zma Zm6 Zm5 Zi Ze Ziv Zen Zem onW Yz Ui Vi Ziw Zix Zg3 Zg7 Zg2 Zg6 Zj1 Zjy Zg5 Zj0 Zjz Zg4 Zjw Ze8 evS wok Xi Op.operands Call.operands gop onK onP atK List.all_cons List.all_nil Bool.and_true Bool.true_and Bool.and_self Value.oneCell' List.take_zero List.take_succ_cons List.take_nil List.drop_zero List.drop_succ_cons List.drop_nil List.append_nil Nat.add_zero Nat.zero_add Jk Z6 ev Xu Zo6 Zl1 Zl0 Zl6 Zl4 Zl5 Zl2 Zl3 Zlz Zis Zkp Zo9 Zct U5 Zb5 Uk Zgm Zay Zcd Zci Zeg Zed Zcg Zef Zee Zcf Zeb Zce Zch Zbr Zec Zep Zeo Vj Zdm Vk Zel Zco Zmg bLo bHi bMx U6 Zek Zqk Zcn Zd4 Zaw Kk Zk9 Zqn Zdk Zqq U4 Zs5 Zi6 Zja Zi5 Zi9 Zmr Zmo Zmm Zgn Zi7 Zmq Zmp Zi8 Zmn Zcr Zhm Zjl Ze4 Ze3 pop TK.isAgg Zmz Zm3 Zmy Zm2 Zjf Zq0 Zqx Zm1 Zqz Zqy Zm0 Zqw G.under G.unders List.getD_cons_zero List.getD_cons_succ List.set_cons_zero List.set_cons_succ List.map_cons List.map_nil List.toList_toArray Array.toList_append Option.toArray_none Option.toArray_some Array.toList_map Option.map_some Option.map_none Option.bind_some Option.bind_none List.getElem?_cons_zero List.getElem?_cons_succ List.getElem?_nil List.nil_append List.cons_append List.replicate_succ List.replicate_zero List.length_cons List.length_nil and_true true_and and_false false_and Bool.true_eq_false Bool.false_eq_true forall_const false_implies implies_true IntKind.bits if_true if_false ite_true ite_false eq_self true_implies false_or or_false or_true true_or not_true_eq_false not_false_eq_true decide_true decide_false decide_eq_true_eq decide_eq_false_iff_not beq_iff_eq bne_iff_ne ne_eq Bool.not_eq_true Bool.not_eq_false beq_eq_false_iff_ne bne_eq_false_iff_eq beq_self_eq_true bne_self_eq_false Option.some.injEq exists_eq_left' exists_eq_left ge_iff_le gt_iff_lt decide_not Bool.not_true Bool.not_false imp_self Zqp cond_true cond_false Zxe Zxd Bool.not_not Bool.and_false Bool.false_and Bool.or_true Bool.true_or Bool.or_false Bool.false_or Vx Zfi Zdg Zca Zba Gs Option.join_some Nat.add_assoc Int.toNat_natCast eI eB eS eL Zei Zdl Zcp Zmf Zmd Zme Ztg Zup Zdq Zc2 Znf Znd Zne Zpt Zeh Zo1 Zf6 Zlr Zbe Zlu List.length_append G.agg.injEq G.row.injEq G.ref.injEq G.val.injEq G.sl.injEq G.tup.injEq Value.int.injEq Value.bool.injEq Value.string.injEq List.cons.injEq exists_and_left exists_const List.flatten_cons List.flatten_nil Int.le_refl Nat.le_refl Zkk Jx Zid Bool.not_eq_true' Bool.not_eq_false' Zoq Zdf Zr3 Zr7 Zr2 Zr6 Zwe Zwa List.size_toArray Zho Zjp G.ren G.rens Zkw Za5 Znj Zlw Zlx Zjx Zr8 Zbx G.fn.injEq Zf8 Zkm Zop Zwb Zkl Zr5 Zwd Zwc Zr4 Zqv Zuf Option.join_none Xs Kv undef Zd6 Arr.len Arr.put_eq Zdp Zgt Ze0 Zc1 Znc Zna Znb onB Ztf Zk8 Zju Zh3 Zh4 Zh5 Zh6 Zh7 Zh8 Zgp Zgw Zgu Ze2 Zc3 Zgv Zjk Zjj Zji Zjh Zuo Zwv Zps Zm7 Qp Zpl Zhn Zgx Ze1 Zq1 Zjv Zcm Zd3 Gq Zf3 Zh9 Zia Zib Zic Zga Zgb Zgc Zgd Zge Zgf Zgg G0 prT Uo Zx1 Zrr Zvi Zrs Zx2 Zrt Zx3 Zru Zx4 Zrv Zx5 Zrw Zx6 Zrx Zx7 Zry Zu1 Zno Zu2 Znp Zu3 Znq Zu4 Znr Zu5 Zns Zu6 Znt Zu7 Znu Zu8 Znv Zu9 Znw Zva Znx Zvb Zny Zvc Znz Zvd Zn0 Zve Zh1 Zvf Zn1 Zvg Zn2 Zvh Zn3 Gm Zn4 Zvj Zn5 Zvk Zn6 Gn Zdv Zvl Zn7 Zvm Zn8 Zvn Zn9 Zvo Zoa Zvp Zob Zvq Zoc Zvr Zod Zvs Zoe Zvt Zof Zvu Zog Zvv Zoh Zvw Zoi Zvx Zoj Zvy Zok Zvz Zol Zv0 Zom Zrb Zj2 Zrc Zj3 Zrd Zj4 Zre Zj5 Zrf Zj6 Zrg Zj7 Zrh Zj8 Zri Zj9 Zrj Zka Zrk Zkb Zrl Zkc Zrm Zkd Zrn Zke Zro Zkf Zrp Zkg Qu Zff Zfd Zeu Zez Zfh Zdd Zc8 Zc6 Zfa Za8 Za7 Za0 Za3 Za9 Zar Zak Zaj Za6 Zcl Vg Vh Zw X8 U0 Uz Up Ut U1 Ug Ua V9 Uy Zm K6 K5 K1 K3 K7 Ks Kr Kq K4 Zfe Zfc Zet Zey Zfg Zdc Zc7 Zc5 Ze9 Zck Zaa Zz J7 J6 Jy J4 J8 Ju Jr Jq J5
theorem Zdy {a0 : Z5} {r : Z5} {O : Objs} {n : Nat} (h : Qx a0 = some r) : GTo Try.prog 30 [.agg (Yr a0)] O n (.agg (Yr r)) O n := by
 unfold Qx at h
 refine Yl Zc Try.call30 Try.func30 rfl (Nat.le_of_ble_eq_true rfl) (Nat.le_refl _) fun hU => ?_
 have hN0 : O n = none := hU.fresh _ (Nat.le_refl _)
 have hN : ∀ k, O (n + k) = none := fun k => hU.fresh _ (Nat.le_add_right _ _)
 show W _ _ _ _ ⟨8, [], [(0, .agg (Yr a0))]⟩ (Z3 O n []) _
 refine Zp [1, 2] (Zb Zc [] ?_)
 simp only [push_cast, seval, ↓reduceIte, Za, hN0, hN]
 obtain ⟨z1, hz1, h⟩ := bC h
 refine Qt (E' := ⟨8, [], [(1, .ref n 0), (2, .ref (n + 1) 0)]⟩) (O' := (Z3 O n [some ⟨false, 52, 4, 1, [.val (.int .i64 a0.Depth), .val (.int .i64 z1), .val (.int .i64 a0.MaxD), .val (.int .i64 a0.MaxOut)]⟩, some ⟨false, 52, 4, 1, [.val (.int .i64 0), .val (.int .i64 0), .val (.int .i64 0), .val (.int .i64 0)]⟩])) (n0 := (n + 2)) ?_ ?_
 ·refine Zp [1, 2, 5] (Zb Zc [] ?_)
  simp only [push_cast, seval, ↓reduceIte, Za, hN0, hN]
  refine Zr (t := (decide (3000 < a0.Weight))) rfl (fun c2 => ?_) (fun c2 => ?_)
  ·replace hz1 := Zv c2 hz1
   refine Zb Zc [] ?_
   simp only [push_cast, seval, ↓reduceIte, Za, hN0, hN]
   have hz1 := Option.some.inj hz1; subst hz1
   refine And.intro rfl (Fit2.of (Zs hU rfl rfl ?_) (by omega))
   simp only [push_cast, seval, ↓reduceIte, Za, hN0, hN]
  replace hz1 := Zu c2 hz1
  refine Zx ?_
  try simp only [Zi, Ze]
  have hz1 := Option.some.inj hz1; subst hz1
  refine And.intro rfl (Fit2.of (Zs hU rfl rfl ?_) (by omega))
  simp only [push_cast, seval, ↓reduceIte, Za, hN0, hN]
 refine Zg ?_
 refine Zb Zc [] ?_
 simp only [push_cast, seval, ↓reduceIte, Za, hN0, hN]
 refine Zf [2] [false, true] ?_
 simp only [push_cast, seval, ↓reduceIte]
 refine Zt ?_
 try simp only [Zi, Ze]
 have h := Option.some.inj h; subst h
 refine Zl (.inr rfl) hU [.agg [.val (.int .i64 a0.Depth), .val (.int .i64 z1), .val (.int .i64 a0.MaxD), .val (.int .i64 a0.MaxOut)]] (by omega) ?_
 simp only [push_cast, seval, ↓reduceIte, Za, Try.results30, hN0, hN]
theorem Jc {a0 : Int} {a1 : Int} {r : Int} {O : Objs} {n : Nat} (h : Y2 a0 a1 = some r) : GTo Try.prog 65 [.val (.int .i64 a0), .val (.int .i64 a1)] O n (.val (.int .i64 r)) O n := by
 unfold Y2 at h
 refine Yl Zc Try.call65 Try.func65 rfl (Nat.le_of_ble_eq_true rfl) (Nat.le_refl _) fun hU => ?_
 have hN0 : O n = none := hU.fresh _ (Nat.le_refl _)
 have hN : ∀ k, O (n + k) = none := fun k => hU.fresh _ (Nat.le_add_right _ _)
 show W _ _ _ _ ⟨12, [], [(0, .val (.int .i64 a0)), (1, .val (.int .i64 a1))]⟩ (Z3 O n []) _
 refine Zp [0, 1] (Zb Zc [] ?_)
 simp only [push_cast, seval, ↓reduceIte, Za, hN0, hN]
 refine Zg ?_
 refine Zp [0, 1, 6] (Zb Zc [] ?_)
 simp only [push_cast, seval, ↓reduceIte, Za, hN0, hN]
 refine Zr (t := (decide (a0 < 0))) rfl (fun c2 => ?_) (fun c2 => ?_)
 ·replace h := Zv c2 h
  refine Zp [4] (Zb Zc [] ?_)
  simp only [push_cast, seval, ↓reduceIte, Za, hN0, hN]
  refine Zt ?_
  try simp only [Zi, Ze]
  have h := Option.some.inj h; subst h
  refine Zl (.inr rfl) hU [.val (.int .i64 0)] (by omega) ?_
  simp only [push_cast, seval, ↓reduceIte, Za, Try.results65, hN0, hN]
 replace h := Zu c2 h
 refine Zx ?_
 try simp only [Zi, Ze]
 refine Zf [0, 1] [] ?_
 simp only [push_cast, seval, ↓reduceIte]
 refine Zg ?_
 refine Zp [0, 1, 9] (Zb Zc [] ?_)
 simp only [push_cast, seval, ↓reduceIte, Za, hN0, hN]
 refine Zr (t := (decide (a1 < a0))) rfl (fun c1 => ?_) (fun c1 => ?_)
 ·replace h := Zv c1 h
  refine Zp [4] (Zb Zc [] ?_)
  simp only [push_cast, seval, ↓reduceIte, Za, hN0, hN]
  refine Zt ?_
  try simp only [Zi, Ze]
  have h := Option.some.inj h; subst h
  refine Zl (.inr rfl) hU [.val (.int .i64 a1)] (by omega) ?_
  simp only [push_cast, seval, ↓reduceIte, Za, Try.results65, hN0, hN]
 replace h := Zu c1 h
 refine Zx ?_
 try simp only [Zi, Ze]
 refine Zf [0] [] ?_
 simp only [push_cast, seval, ↓reduceIte]
 refine Zp [4] (Zb Zc [] ?_)
 simp only [push_cast, seval, ↓reduceIte, Za, hN0, hN]
 refine Zt ?_
 try simp only [Zi, Ze]
 have h := Option.some.inj h; subst h
 refine Zl (.inr rfl) hU [.val (.int .i64 a0)] (by omega) ?_
 simp only [push_cast, seval, ↓reduceIte, Za, Try.results65, hN0, hN]
theorem Zcx {a0 : Z5} {r : Z5} {O : Objs} {n : Nat} (h : Qm a0 = some r) : GTo Try.prog 38 [.agg (Yr a0)] O n (.agg (Yr r)) O n := by
 unfold Qm at h
 refine Yl Zc Try.call38 Try.func38 rfl (Nat.le_of_ble_eq_true rfl) (Nat.le_refl _) fun hU => ?_
 have hN0 : O n = none := hU.fresh _ (Nat.le_refl _)
 have hN : ∀ k, O (n + k) = none := fun k => hU.fresh _ (Nat.le_add_right _ _)
 show W _ _ _ _ ⟨16, [], [(0, .agg (Yr a0))]⟩ (Z3 O n []) _
 refine Zp [1, 2] (Zb Zc [] ?_)
 simp only [push_cast, seval, ↓reduceIte, Za, hN0, hN]
 refine Zg ?_
 obtain ⟨y5, hy5, h⟩ := bC h
 obtain ⟨y6, hy6, h⟩ := bC h
 obtain ⟨y7, hy7, h⟩ := bC h
 obtain ⟨y8, hy8, h⟩ := bC h
 refine Zlm Zc (by kernel_rfl) [false, false, false, false, false, false, false, false, false, false, false, false, false, true] [] (by kernel_rfl) ?_
 simp only [push_cast, seval, ↓reduceIte, Za, hN0, hN]
 refine PCall.of (Jc hy5) ?_
 simp only [push_cast, seval, ↓reduceIte, Za, hN0, hN]
 refine PCall.of (Jc hy6) ?_
 simp only [push_cast, seval, ↓reduceIte, Za, hN0, hN]
 refine PCall.of (Jc hy7) ?_
 simp only [push_cast, seval, ↓reduceIte, Za, hN0, hN]
 refine PCall.of (Jc hy8) ?_
 simp only [push_cast, seval, ↓reduceIte, Za, hN0, hN]
 refine Zf [2] [false, true] ?_
 simp only [push_cast, seval, ↓reduceIte]
 refine Zt ?_
 try simp only [Zi, Ze]
 have h := Option.some.inj h; subst h
 refine Zl (.inr rfl) hU [.agg [.val (.int .i64 y5), .val (.int .i64 y6), .val (.int .i64 y7), .val (.int .i64 y8)]] (by omega) ?_
 simp only [push_cast, seval, ↓reduceIte, Za, Try.results38, hN0, hN]
theorem Jb {a0 : (List (List Int))} {a1 : Int} {a2 : Int} {r : Bool} {O : Objs} {n : Nat} (h : Xo a0 a1 a2 = some r) : GTo Try.prog 75 [.sl a0.length (fl (eL (eI .u64)) a0), .val (.int .i64 a1), .val (.int .i64 a2)] O n (.val (.bool r)) O n := by
 unfold Xo at h
 refine Yl Zc Try.call75 Try.func75 rfl (Nat.le_of_ble_eq_true rfl) (Nat.le_refl _) fun hU => ?_
 have hN0 : O n = none := hU.fresh _ (Nat.le_refl _)
 have hN : ∀ k, O (n + k) = none := fun k => hU.fresh _ (Nat.le_add_right _ _)
 show W _ _ _ _ ⟨28, [], [(0, .sl a0.length (fl (eL (eI .u64)) a0)), (1, .val (.int .i64 a1)), (2, .val (.int .i64 a2))]⟩ (Z3 O n []) _
 refine Zp [0, 1, 2] (Zb Zc [] ?_)
 simp only [push_cast, seval, ↓reduceIte, Za, hN0, hN]
 obtain ⟨z2, hz2, h⟩ := bC h
 refine Qt (E' := ⟨28, [], [(6, .val (.bool z2))]⟩) (O' := (Z3 O n [])) (n0 := n) ?_ ?_
 ·rcases Bool.eq_false_or_eq_true (decide (0 ≤ a1)) with c5 | c5
  ·replace hz2 := Zv c5 hz2
   rcases Bool.eq_false_or_eq_true (decide (a1 < (a0.length : Int))) with c6 | c6
   ·replace hz2 := Zv c6 hz2
    try rw [c6] at c5
    rcases Bool.eq_false_or_eq_true (decide (0 ≤ a2)) with c7 | c7
    ·replace hz2 := Zv c7 hz2
     try rw [c7] at c5
     try rw [c7] at c6
     obtain ⟨x4, hx4, ax4, bx4, cx4, hz2⟩ := bE (f := (eL (eI .u64))) Gn (fun _ => rfl) (by decide) hz2
     refine Zb Zc [none, none, none, none, none, none, some true, some true, some true, some true, some true, some true, some true] ?_
     simp only [push_cast, Nat.reduceAdd, Nat.reduceSub, Nat.reduceMul, Nat.reduceLeDiff, Nat.reduceLT, Nat.reduceEqDiff, ↓reduceIte, reduceCtorEq, Int.reduceBEq, Int.reduceBNe, Nat.reduceBEq, Int.reduceLE, Int.reduceLT, Int.reduceEq, Int.reduceNe, Int.reduceNeg, Nat.reduceDiv, Nat.reduceMod, Nat.reducePow, Za, c5, c6, c7, ax4, bx4, cx4, hN0, hN]
     repeat (with_reducible refine And.intro (by first | (intro h0; simp only [h0, and_self]; done) | (intro h0; simp only [h0, Bool.not_false, Bool.not_true, Bool.true_and, Bool.and_true, true_and, and_true, and_self, imp_self, implies_true, bne_iff_ne, ne_eq, beq_iff_eq]; done) | (intros; simp_all; done) | exact True.intro) ?_)
     have hz2 := Option.some.inj hz2; subst hz2
     refine And.intro rfl (Fit2.of (Zs hU rfl rfl ?_) (by omega))
     simp only [push_cast, Nat.reduceAdd, Nat.reduceSub, Nat.reduceMul, Nat.reduceLeDiff, Nat.reduceLT, Nat.reduceEqDiff, ↓reduceIte, reduceCtorEq, Int.reduceBEq, Int.reduceBNe, Nat.reduceBEq, Int.reduceLE, Int.reduceLT, Int.reduceEq, Int.reduceNe, Int.reduceNeg, Nat.reduceDiv, Nat.reduceMod, Nat.reducePow, Za, c5, c6, c7, ax4, bx4, cx4, hN0, hN]
    replace hz2 := Zu c7 hz2
    try rw [c7] at c5
    try rw [c7] at c6
    refine Zb Zc [none, none, none, none, none, none, some false, some false, some false, some false, some false, some false, some false] ?_
    simp only [push_cast, seval, ↓reduceIte, Za, c5, c6, c7, hN0, hN]
    repeat (with_reducible refine And.intro (by first | (intro h0; simp only [h0, and_self]; done) | (intro h0; simp only [h0, Bool.not_false, Bool.not_true, Bool.true_and, Bool.and_true, true_and, and_true, and_self, imp_self, implies_true, bne_iff_ne, ne_eq, beq_iff_eq]; done) | (intros; simp_all; done) | exact True.intro) ?_)
    have hz2 := Option.some.inj hz2; subst hz2
    refine And.intro rfl (Fit2.of (Zs hU rfl rfl ?_) (by omega))
    simp only [push_cast, seval, ↓reduceIte, Za, c5, c6, c7, hN0, hN]
   replace hz2 := Zu c6 hz2
   try rw [c6] at c5
   refine Zb Zc [none, none, none, none, none, none, some false, some false, some false, some false, some false, some false, some false] ?_
   simp only [push_cast, seval, ↓reduceIte, Za, c5, c6, hN0, hN]
   repeat (with_reducible refine And.intro (by first | (intro h0; simp only [h0, and_self]; done) | (intro h0; simp only [h0, Bool.not_false, Bool.not_true, Bool.true_and, Bool.and_true, true_and, and_true, and_self, imp_self, implies_true, bne_iff_ne, ne_eq, beq_iff_eq]; done) | (intros; simp_all; done) | exact True.intro) ?_)
   have hz2 := Option.some.inj hz2; subst hz2
   refine And.intro rfl (Fit2.of (Zs hU rfl rfl ?_) (by omega))
   simp only [push_cast, seval, ↓reduceIte, Za, c5, c6, hN0, hN]
  replace hz2 := Zu c5 hz2
  refine Zb Zc [none, none, none, none, none, none, some false, some false, some false, some false, some false, some false, some false] ?_
  simp only [push_cast, seval, ↓reduceIte, Za, c5, hN0, hN]
  repeat (with_reducible refine And.intro (by first | (intro h0; simp only [h0, and_self]; done) | (intro h0; simp only [h0, Bool.not_false, Bool.not_true, Bool.true_and, Bool.and_true, true_and, and_true, and_self, imp_self, implies_true, bne_iff_ne, ne_eq, beq_iff_eq]; done) | (intros; simp_all; done) | exact True.intro) ?_)
  have hz2 := Option.some.inj hz2; subst hz2
  refine And.intro rfl (Fit2.of (Zs hU rfl rfl ?_) (by omega))
  simp only [push_cast, seval, ↓reduceIte, Za, c5, hN0, hN]
 refine Zt ?_
 try simp only [Zi, Ze]
 have h := Option.some.inj h; subst h
 refine Zl (.inr rfl) hU [.val (.bool z2)] (by omega) ?_
 simp only [push_cast, seval, ↓reduceIte, Za, Try.results75, hN0, hN]
theorem Yq {a0 : Int} {a1 : Int} {a2 : Int} {r : Int} {O : Objs} {n : Nat} (h : Zy a0 a1 a2 = some r) : GTo Try.prog 78 [.val (.int .u64 a0), .val (.int .i64 a1), .val (.int .i64 a2)] O n (.val (.int .i64 r)) O n := by
 unfold Zy at h
 refine Yl Zc Try.call78 Try.func78 rfl (Nat.le_of_ble_eq_true rfl) (Nat.le_refl _) fun hU => ?_
 have hN0 : O n = none := hU.fresh _ (Nat.le_refl _)
 have hN : ∀ k, O (n + k) = none := fun k => hU.fresh _ (Nat.le_add_right _ _)
 show W _ _ _ _ ⟨34, [], [(0, .val (.int .u64 a0)), (1, .val (.int .i64 a1)), (2, .val (.int .i64 a2))]⟩ (Z3 O n []) _
 refine Zp [0, 1, 2] (Zb Zc [] ?_)
 simp only [push_cast, seval, ↓reduceIte, Za, hN0, hN]
 refine Zg ?_
 refine Zp [0, 1, 2, 7] (Zb Zc [] ?_)
 simp only [push_cast, seval, ↓reduceIte, Za, hN0, hN]
 refine Zf [0, 1, 2, 7] [] ?_
 simp only [push_cast, seval, ↓reduceIte]
 obtain ⟨z2, hz2, h⟩ := bC h
 refine Ki (E' := ⟨34, [], [(0, .val (.int .u64 z2)), (2, .val (.int .i64 a2))]⟩) (O' := (Z3 O n [])) (n0 := n) ?_ ?_
 ·refine Vz hz2 (fun s0_ => ⟨34, [], [(0, .val (.int .u64 s0_.1)), (1, .val (.int .i64 a1)), (2, .val (.int .i64 a2)), (7, .val (.int .i64 s0_.2))]⟩) (fun s0_ => (Z3 O n [])) (fun z2 => JX 0 n (⟨34, [], [(0, .val (.int .u64 z2)), (2, .val (.int .i64 a2))]⟩ : Env) (Z3 O n []) n) ?_
  intro s0_ x0_ hs0_
  unfold Q1 at hs0_
  try dsimp only
  refine Zg ?_
  refine Zp [0, 1, 2, 7, 13] (Zb Zc [] ?_)
  simp only [push_cast, seval, ↓reduceIte, Za, hN0, hN]
  refine Zr (t := (decide (s0_.2 < a1))) rfl (fun c1 => ?_) (fun c1 => ?_)
  ·replace hs0_ := Zv c1 hs0_
   refine Zx ?_
   try simp only [Zi, Ze]
   refine Zf [0, 1, 2, 7] [] ?_
   simp only [push_cast, seval, ↓reduceIte]
   refine Zg ?_
   refine X7 ?_
   refine Zb Zc [] ?_
   simp only [push_cast, seval, ↓reduceIte, Za, hN0, hN]
   refine Zf [0, 1, 2, 7] [] ?_
   simp only [push_cast, seval, ↓reduceIte]
   refine Zb Zc [] ?_
   simp only [push_cast, seval, ↓reduceIte, Za, hN0, hN]
   have hs0_ := Option.some.inj hs0_; subst hs0_
   refine And.intro rfl (Fit2.of (Zs hU rfl rfl ?_) (by omega))
   simp only [push_cast, seval, ↓reduceIte, Za, hN0, hN]
  replace hs0_ := Zu c1 hs0_
  refine Gy ?_
  try simp only [Zi, Ze, ↓reduceIte, Nat.reduceEqDiff]
  have hs0_ := Option.some.inj hs0_; subst hs0_
  refine And.intro (fun h => by cases h) (And.intro rfl (Fit2.of (Zs hU rfl rfl ?_) (by omega)))
  simp only [push_cast, seval, ↓reduceIte, Za, hN0, hN]
 try simp only [Zi, Ze, ↓reduceIte, Nat.reduceEqDiff]
 refine Zf [0, 2] [] ?_
 simp only [push_cast, seval, ↓reduceIte]
 refine Zp [0, 2, 8, 9] (Zb Zc [] ?_)
 simp only [push_cast, seval, ↓reduceIte, Za, hN0, hN]
 refine Zg ?_
 refine Zp [0, 2, 8, 9, 10] (Zb Zc [] ?_)
 simp only [push_cast, seval, ↓reduceIte, Za, hN0, hN]
 refine Zf [0, 2, 8, 9, 10] [] ?_
 simp only [push_cast, seval, ↓reduceIte]
 obtain ⟨z6, hz6, h⟩ := bC h
 refine Ki (E' := ⟨34, [], [(8, .val (.int .i64 z6))]⟩) (O' := (Z3 O n [])) (n0 := n) ?_ ?_
 ·refine Vz hz6 (fun s1_ => ⟨34, [], [(0, .val (.int .u64 s1_.1)), (2, .val (.int .i64 a2)), (8, .val (.int .i64 s1_.2.1)), (9, .val (.int .i64 s1_.2.2.1)), (10, .val (.int .i64 s1_.2.2.2))]⟩) (fun s1_ => (Z3 O n [])) (fun z6 => JX 2 n (⟨34, [], [(8, .val (.int .i64 z6))]⟩ : Env) (Z3 O n []) n) ?_
  intro s1_ x1_ hs1_
  unfold Q2 at hs1_
  try dsimp only
  refine Zg ?_
  refine Zp [0, 2, 8, 9, 10, 20] (Zb Zc [] ?_)
  simp only [push_cast, seval, ↓reduceIte, Za, hN0, hN]
  refine Zr (t := (decide (s1_.2.2.2 < a2))) rfl (fun c5 => ?_) (fun c5 => ?_)
  ·replace hs1_ := Zv c5 hs1_
   refine Zx ?_
   try simp only [Zi, Ze]
   refine Zf [0, 2, 8, 9, 10] [] ?_
   simp only [push_cast, seval, ↓reduceIte]
   refine Zg ?_
   refine X7 ?_
   obtain ⟨z3, hz3, hs1_⟩ := bC hs1_
   refine Qt (E' := ⟨34, [], [(0, .val (.int .u64 s1_.1)), (2, .val (.int .i64 a2)), (8, .val (.int .i64 z3)), (9, .val (.int .i64 s1_.2.2.1)), (10, .val (.int .i64 s1_.2.2.2))]⟩) (O' := (Z3 O n [])) (n0 := n) ?_ ?_
   ·refine Zp [0, 2, 8, 9, 10, 25] (Zb Zc [] ?_)
    simp only [push_cast, seval, ↓reduceIte, Za, hN0, hN]
    refine Zr (t := ((Int.tmod s1_.1 2) == 1)) rfl (fun c4 => ?_) (fun c4 => ?_)
    ·replace hz3 := Zv c4 hz3
     refine Zb Zc [] ?_
     simp only [push_cast, seval, ↓reduceIte, Za, hN0, hN]
     have hz3 := Option.some.inj hz3; subst hz3
     refine And.intro rfl (Fit2.of (Zs hU rfl rfl ?_) (by omega))
     simp only [push_cast, seval, ↓reduceIte, Za, hN0, hN]
    replace hz3 := Zu c4 hz3
    refine Zx ?_
    try simp only [Zi, Ze]
    have hz3 := Option.some.inj hz3; subst hz3
    refine And.intro rfl (Fit2.of (Zs hU rfl rfl ?_) (by omega))
    simp only [push_cast, seval, ↓reduceIte, Za, hN0, hN]
   refine Zp [0, 2, 8, 9, 10] (Zb Zc [] ?_)
   simp only [push_cast, seval, ↓reduceIte, Za, hN0, hN]
   refine Zb Zc [] ?_
   simp only [push_cast, seval, ↓reduceIte, Za, hN0, hN]
   refine Zf [0, 2, 8, 9, 10] [] ?_
   simp only [push_cast, seval, ↓reduceIte]
   refine Zb Zc [] ?_
   simp only [push_cast, seval, ↓reduceIte, Za, hN0, hN]
   have hs1_ := Option.some.inj hs1_; subst hs1_
   refine And.intro rfl (Fit2.of (Zs hU rfl rfl ?_) (by omega))
   simp only [push_cast, seval, ↓reduceIte, Za, hN0, hN]
  replace hs1_ := Zu c5 hs1_
  refine Gy ?_
  try simp only [Zi, Ze, ↓reduceIte, Nat.reduceEqDiff]
  have hs1_ := Option.some.inj hs1_; subst hs1_
  refine And.intro (fun h => by cases h) (And.intro rfl (Fit2.of (Zs hU rfl rfl ?_) (by omega)))
  simp only [push_cast, seval, ↓reduceIte, Za, hN0, hN]
 try simp only [Zi, Ze, ↓reduceIte, Nat.reduceEqDiff]
 refine Zf [8] [] ?_
 simp only [push_cast, seval, ↓reduceIte]
 refine Zp [6] (Zb Zc [] ?_)
 simp only [push_cast, seval, ↓reduceIte, Za, hN0, hN]
 refine Zt ?_
 try simp only [Zi, Ze]
 have h := Option.some.inj h; subst h
 refine Zl (.inr rfl) hU [.val (.int .i64 z6)] (by omega) ?_
 simp only [push_cast, seval, ↓reduceIte, Za, Try.results78, hN0, hN]
theorem Xc {a0 : Int} {r : Z4} {O : Objs} {n : Nat} (h : Yi a0 = some r) : GTo Try.prog 51 [.val (.int .u64 a0)] O n (.agg (Yb r)) O n := by
 unfold Yi at h
 refine Yl Zc Try.call51 Try.func51 rfl (Nat.le_of_ble_eq_true rfl) (Nat.le_refl _) fun hU => ?_
 have hN0 : O n = none := hU.fresh _ (Nat.le_refl _)
 have hN : ∀ k, O (n + k) = none := fun k => hU.fresh _ (Nat.le_add_right _ _)
 show W _ _ _ _ ⟨42, [], [(0, .val (.int .u64 a0))]⟩ (Z3 O n []) _
 refine Zp [0, 2] (Zb Zc [] ?_)
 simp only [push_cast, seval, ↓reduceIte, Za, hN0, hN]
 refine Zg ?_
 refine Zp [0, 2, 5] (Zb Zc [] ?_)
 simp only [push_cast, seval, ↓reduceIte, Za, hN0, hN]
 refine Zr (t := (a0 == 0)) rfl (fun c24 => ?_) (fun c24 => ?_)
 ·replace h := Zv c24 h
  refine Zg ?_
  refine Zb Zc [] ?_
  simp only [push_cast, seval, ↓reduceIte, Za, hN0, hN]
  refine Zf [2] [true] ?_
  simp only [push_cast, seval, ↓reduceIte]
  refine Zt ?_
  try simp only [Zi, Ze]
  have h := Option.some.inj h; subst h
  refine Zl (.inr rfl) hU [.agg [.val (.int .i64 0), .val (.int .i64 0), .val (.int .i64 0), .val (.int .i64 0), .val (.int .i64 0), .val (.int .i64 0), .val (.int .i64 0), .val (.bool false)]] (by omega) ?_
  simp only [push_cast, seval, ↓reduceIte, Za, Try.results51, hN0, hN]
 replace h := Zu c24 h
 refine Zx ?_
 try simp only [Zi, Ze]
 refine Zf [0, 2] [true] ?_
 simp only [push_cast, seval, ↓reduceIte]
 refine Zg ?_
 obtain ⟨y2, hy2, h⟩ := bC h
 refine Zb Zc [] ?_
 simp only [push_cast, seval, ↓reduceIte, Za, hN0, hN]
 refine (Yq hy2).then ?_
 simp only [push_cast, seval, ↓reduceIte, Za, hN0, hN]
 refine Zf [0, 2, 3] [true] ?_
 simp only [push_cast, seval, ↓reduceIte]
 obtain ⟨z3, hz3, h⟩ := bC h
 refine Qt (E' := ⟨42, [], [(0, .val (.int .u64 a0)), (2, .ref n 0), (3, .val (.int .i64 z3))]⟩) (O' := (Z3 O n [some ⟨false, 89, 8, 1, [.val (.int .i64 0), .val (.int .i64 0), .val (.int .i64 0), .val (.int .i64 0), .val (.int .i64 0), .val (.int .i64 0), .val (.int .i64 0), .val (.bool false)]⟩])) (n0 := (n + 1)) ?_ ?_
 ·refine Zp [0, 2, 3, 10] (Zb Zc [] ?_)
  simp only [push_cast, seval, ↓reduceIte, Za, hN0, hN]
  refine Zr (t := (decide (536870912 ≤ y2))) rfl (fun c4 => ?_) (fun c4 => ?_)
  ·replace hz3 := Zv c4 hz3
   refine Zb Zc [] ?_
   simp only [push_cast, seval, ↓reduceIte, Za, hN0, hN]
   have hz3 := Option.some.inj hz3; subst hz3
   refine And.intro rfl (Fit2.of (Zs hU rfl rfl ?_) (by omega))
   simp only [push_cast, seval, ↓reduceIte, Za, hN0, hN]
  replace hz3 := Zu c4 hz3
  refine Zx ?_
  try simp only [Zi, Ze]
  have hz3 := Option.some.inj hz3; subst hz3
  refine And.intro rfl (Fit2.of (Zs hU rfl rfl ?_) (by omega))
  simp only [push_cast, seval, ↓reduceIte, Za, hN0, hN]
 refine Zg ?_
 refine Zg ?_
 obtain ⟨y6, hy6, h⟩ := bC h
 refine Zb Zc [] ?_
 simp only [push_cast, seval, ↓reduceIte, Za, hN0, hN]
 refine (Yq hy6).then ?_
 simp only [push_cast, seval, ↓reduceIte, Za, hN0, hN]
 refine Zf [0, 2, 3, 14] [true] ?_
 simp only [push_cast, seval, ↓reduceIte]
 refine X7 ?_
 refine Zp [0, 2, 3, 14, 15] (Zb Zc [] ?_)
 simp only [push_cast, seval, ↓reduceIte, Za, hN0, hN]
 refine Zr (t := (y6 == 0)) rfl (fun c23 => ?_) (fun c23 => ?_)
 ·replace h := Zv c23 h
  refine Zg ?_
  obtain ⟨y9, hy9, h⟩ := bC h
  obtain ⟨y10, hy10, h⟩ := bC h
  refine Zb Zc [] ?_
  simp only [push_cast, seval, ↓reduceIte, Za, hN0, hN]
  refine (Yq hy9).then ?_
  simp only [push_cast, seval, ↓reduceIte, Za, hN0, hN]
  refine (Yq hy10).then ?_
  simp only [push_cast, seval, ↓reduceIte, Za, hN0, hN]
  refine Zf [2] [true] ?_
  simp only [push_cast, seval, ↓reduceIte]
  refine Zt ?_
  try simp only [Zi, Ze]
  have h := Option.some.inj h; subst h
  refine Zl (.inr rfl) hU [.agg [.val (.int .i64 1), .val (.int .i64 z3), .val (.int .i64 y9), .val (.int .i64 y10), .val (.int .i64 0), .val (.int .i64 0), .val (.int .i64 0), .val (.bool false)]] (by omega) ?_
  simp only [push_cast, seval, ↓reduceIte, Za, Try.results51, hN0, hN]
 replace h := Zu c23 h
 refine Zp [0, 2, 3, 14, 23] (Zb Zc [] ?_)
 simp only [push_cast, seval, ↓reduceIte, Za, hN0, hN]
 refine Zr (t := (y6 == 1)) rfl (fun c22 => ?_) (fun c22 => ?_)
 ·replace h := Zv c22 h
  refine Zg ?_
  obtain ⟨y13, hy13, h⟩ := bC h
  obtain ⟨y14, hy14, h⟩ := bC h
  refine Zb Zc [] ?_
  simp only [push_cast, seval, ↓reduceIte, Za, hN0, hN]
  refine (Yq hy13).then ?_
  simp only [push_cast, seval, ↓reduceIte, Za, hN0, hN]
  refine (Yq hy14).then ?_
  simp only [push_cast, seval, ↓reduceIte, Za, hN0, hN]
  refine Zf [2] [true] ?_
  simp only [push_cast, seval, ↓reduceIte]
  refine Zt ?_
  try simp only [Zi, Ze]
  have h := Option.some.inj h; subst h
  refine Zl (.inr rfl) hU [.agg [.val (.int .i64 2), .val (.int .i64 z3), .val (.int .i64 0), .val (.int .i64 0), .val (.int .i64 y13), .val (.int .i64 y14), .val (.int .i64 0), .val (.bool false)]] (by omega) ?_
  simp only [push_cast, seval, ↓reduceIte, Za, Try.results51, hN0, hN]
 replace h := Zu c22 h
 refine Zp [0, 2, 31] (Zb Zc [] ?_)
 simp only [push_cast, seval, ↓reduceIte, Za, hN0, hN]
 refine Zr (t := (y6 == 2)) rfl (fun c21 => ?_) (fun c21 => ?_)
 ·replace h := Zv c21 h
  refine Zg ?_
  obtain ⟨y18, hy18, h⟩ := bC h
  obtain ⟨y19, hy19, h⟩ := bC h
  obtain ⟨y20, hy20, h⟩ := bC h
  refine Zb Zc [] ?_
  simp only [push_cast, seval, ↓reduceIte, Za, hN0, hN]
  refine (Yq hy18).then ?_
  simp only [push_cast, seval, ↓reduceIte, Za, hN0, hN]
  refine (Yq hy19).then ?_
  simp only [push_cast, seval, ↓reduceIte, Za, hN0, hN]
  refine (Yq hy20).then ?_
  simp only [push_cast, seval, ↓reduceIte, Za, hN0, hN]
  refine Zf [2] [true] ?_
  simp only [push_cast, seval, ↓reduceIte]
  refine Zt ?_
  try simp only [Zi, Ze]
  have h := Option.some.inj h; subst h
  refine Zl (.inr rfl) hU [.agg [.val (.int .i64 3), .val (.int .i64 y18), .val (.int .i64 0), .val (.int .i64 0), .val (.int .i64 0), .val (.int .i64 0), .val (.int .i64 y19), .val (.bool (y20 == 1))]] (by omega) ?_
  simp only [push_cast, seval, ↓reduceIte, Za, Try.results51, hN0, hN]
 replace h := Zu c21 h
 refine Zx ?_
 try simp only [Zi, Ze]
 refine Zf [2] [true] ?_
 simp only [push_cast, seval, ↓reduceIte]
 refine Zg ?_
 refine Zb Zc [] ?_
 simp only [push_cast, seval, ↓reduceIte, Za, hN0, hN]
 refine Zf [2] [true] ?_
 simp only [push_cast, seval, ↓reduceIte]
 refine Zt ?_
 try simp only [Zi, Ze]
 have h := Option.some.inj h; subst h
 refine Zl (.inr rfl) hU [.agg [.val (.int .i64 4), .val (.int .i64 0), .val (.int .i64 0), .val (.int .i64 0), .val (.int .i64 0), .val (.int .i64 0), .val (.int .i64 0), .val (.bool false)]] (by omega) ?_
 simp only [push_cast, seval, ↓reduceIte, Za, Try.results51, hN0, hN]
theorem Gj {a0 : Z4} {r : Int} {O : Objs} {n : Nat} (h : Xj a0 = some r) : GTo Try.prog 76 [.agg (Yb a0)] O n (.val (.int .i64 r)) O n := by
 unfold Xj at h
 refine Yl Zc Try.call76 Try.func76 rfl (Nat.le_of_ble_eq_true rfl) (Nat.le_refl _) fun hU => ?_
 have hN0 : O n = none := hU.fresh _ (Nat.le_refl _)
 have hN : ∀ k, O (n + k) = none := fun k => hU.fresh _ (Nat.le_add_right _ _)
 show W _ _ _ _ ⟨14, [], [(0, .agg (Yb a0))]⟩ (Z3 O n []) _
 refine Zp [1] (Zb Zc [] ?_)
 simp only [push_cast, seval, ↓reduceIte, Za, hN0, hN]
 refine Zg ?_
 refine Zp [1, 5] (Zb Zc [] ?_)
 simp only [push_cast, seval, ↓reduceIte, Za, hN0, hN]
 refine Zr (t := (a0.Kind == 4)) rfl (fun c2 => ?_) (fun c2 => ?_)
 ·replace h := Zv c2 h
  refine Zp [2] (Zb Zc [] ?_)
  simp only [push_cast, seval, ↓reduceIte, Za, hN0, hN]
  refine Zt ?_
  try simp only [Zi, Ze]
  have h := Option.some.inj h; subst h
  refine Zl (.inr rfl) hU [.val (.int .i64 9)] (by omega) ?_
  simp only [push_cast, seval, ↓reduceIte, Za, Try.results76, hN0, hN]
 replace h := Zu c2 h
 refine Zx ?_
 try simp only [Zi, Ze]
 refine Zf [1] [true] ?_
 simp only [push_cast, seval, ↓reduceIte]
 refine Zg ?_
 refine Zp [13] (Zb Zc [none, none, none] ?_)
 simp only [push_cast, seval, ↓reduceIte, Za, hN0, hN]
 repeat (with_reducible refine And.intro (by first | (intro h0; simp only [h0, and_self]; done) | (intro h0; simp only [h0, Bool.not_false, Bool.not_true, Bool.true_and, Bool.and_true, true_and, and_true, and_self, imp_self, implies_true, bne_iff_ne, ne_eq, beq_iff_eq]; done) | (intros; simp_all; done) | exact True.intro) ?_)
 refine Zr (t := (cond (a0.Kind != 1) (a0.Kind != 2) false)) rfl (fun c1 => ?_) (fun c1 => ?_)
 ·replace h := Zv c1 h
  refine Zp [2] (Zb Zc [] ?_)
  simp only [push_cast, seval, ↓reduceIte, Za, hN0, hN]
  refine Zt ?_
  try simp only [Zi, Ze]
  have h := Option.some.inj h; subst h
  refine Zl (.inr rfl) hU [.val (.int .i64 8)] (by omega) ?_
  simp only [push_cast, seval, ↓reduceIte, Za, Try.results76, hN0, hN]
 replace h := Zu c1 h
 refine Zx ?_
 try simp only [Zi, Ze]
 refine Zf [] [false] ?_
 simp only [push_cast, seval, ↓reduceIte]
 refine Zp [2] (Zb Zc [] ?_)
 simp only [push_cast, seval, ↓reduceIte, Za, hN0, hN]
 refine Zt ?_
 try simp only [Zi, Ze]
 have h := Option.some.inj h; subst h
 refine Zl (.inr rfl) hU [.val (.int .i64 0)] (by omega) ?_
 simp only [push_cast, seval, ↓reduceIte, Za, Try.results76, hN0, hN]
theorem Zd0 {a0 : Z4} {r : Int} {O : Objs} {n : Nat} (h : Qz a0 = some r) : GTo Try.prog 99 [.agg (Yb a0)] O n (.val (.int .i64 r)) O n := by
 unfold Qz at h
 refine Yl Zc Try.call99 Try.func99 rfl (Nat.le_of_ble_eq_true rfl) (Nat.le_refl _) fun hU => ?_
 have hN0 : O n = none := hU.fresh _ (Nat.le_refl _)
 have hN : ∀ k, O (n + k) = none := fun k => hU.fresh _ (Nat.le_add_right _ _)
 show W _ _ _ _ ⟨65, [], [(0, .agg (Yb a0))]⟩ (Z3 O n []) _
 refine Zp [1] (Zb Zc [] ?_)
 simp only [push_cast, seval, ↓reduceIte, Za, hN0, hN]
 refine Zg ?_
 refine Zp [1, 6] (Zb Zc [] ?_)
 simp only [push_cast, seval, ↓reduceIte, Za, hN0, hN]
 refine Zr (t := (a0.Kind == 1)) rfl (fun c17 => ?_) (fun c17 => ?_)
 ·replace h := Zv c17 h
  refine Zp [2] (Zb Zc [] ?_)
  simp only [push_cast, seval, ↓reduceIte, Za, hN0, hN]
  refine Zt ?_
  try simp only [Zi, Ze]
  have h := Option.some.inj h; subst h
  refine Zl (.inr rfl) hU [.val (.int .i64 (IntKind.i64.wrap (a0.Data + a0.Ptrs)))] (by omega) ?_
  simp only [push_cast, seval, ↓reduceIte, Za, Try.results99, hN0, hN]
 replace h := Zu c17 h
 refine Zx ?_
 try simp only [Zi, Ze]
 refine Zf [1] [true] ?_
 simp only [push_cast, seval, ↓reduceIte]
 refine Zg ?_
 refine Zp [1, 14] (Zb Zc [] ?_)
 simp only [push_cast, seval, ↓reduceIte, Za, hN0, hN]
 refine Zr (t := (a0.Kind != 2)) rfl (fun c16 => ?_) (fun c16 => ?_)
 ·replace h := Zv c16 h
  refine Zp [2] (Zb Zc [] ?_)
  simp only [push_cast, seval, ↓reduceIte, Za, hN0, hN]
  refine Zt ?_
  try simp only [Zi, Ze]
  have h := Option.some.inj h; subst h
  refine Zl (.inr rfl) hU [.val (.int .i64 (-1))] (by omega) ?_
  simp only [push_cast, seval, ↓reduceIte, Za, Try.results99, hN0, hN]
 replace h := Zu c16 h
 refine Zx ?_
 try simp only [Zi, Ze]
 refine Zf [1] [true] ?_
 simp only [push_cast, seval, ↓reduceIte]
 refine Zg ?_
 refine Zp [1, 17] (Zb Zc [] ?_)
 simp only [push_cast, seval, ↓reduceIte, Za, hN0, hN]
 refine Zr (t := (a0.Code == 7)) rfl (fun c15 => ?_) (fun c15 => ?_)
 ·replace h := Zv c15 h
  refine Zp [2] (Zb Zc [] ?_)
  simp only [push_cast, seval, ↓reduceIte, Za, hN0, hN]
  refine Zt ?_
  try simp only [Zi, Ze]
  have h := Option.some.inj h; subst h
  refine Zl (.inr rfl) hU [.val (.int .i64 (IntKind.i64.wrap (a0.Count + 1)))] (by omega) ?_
  simp only [push_cast, seval, ↓reduceIte, Za, Try.results99, hN0, hN]
 replace h := Zu c15 h
 refine Zx ?_
 try simp only [Zi, Ze]
 refine Zf [1] [true] ?_
 simp only [push_cast, seval, ↓reduceIte]
 refine Zg ?_
 refine Zp [1, 38] (Zb Zc [none, none, none, none, none, none, none, none, none] ?_)
 simp only [push_cast, seval, ↓reduceIte, Za, hN0, hN]
 repeat (with_reducible refine And.intro (by first | (intro h0; simp only [h0, and_self]; done) | (intro h0; simp only [h0, Bool.not_false, Bool.not_true, Bool.true_and, Bool.and_true, true_and, and_true, and_self, imp_self, implies_true, bne_iff_ne, ne_eq, beq_iff_eq]; done) | (intros; simp_all; done) | exact True.intro) ?_)
 refine Zr (t := (cond (cond (cond (decide (a0.Code < 0)) true (decide (6 < a0.Code))) true (decide (a0.Count < 0))) true (decide (536870912 ≤ a0.Count)))) rfl (fun c14 => ?_) (fun c14 => ?_)
 ·replace h := Zv c14 h
  refine Zp [2] (Zb Zc [] ?_)
  simp only [push_cast, seval, ↓reduceIte, Za, hN0, hN]
  refine Zt ?_
  try simp only [Zi, Ze]
  have h := Option.some.inj h; subst h
  refine Zl (.inr rfl) hU [.val (.int .i64 (-1))] (by omega) ?_
  simp only [push_cast, seval, ↓reduceIte, Za, Try.results99, hN0, hN]
 replace h := Zu c14 h
 refine Zx ?_
 try simp only [Zi, Ze]
 refine Zf [1] [true] ?_
 simp only [push_cast, seval, ↓reduceIte]
 refine Zp [1, 3] (Zb Zc [] ?_)
 simp only [push_cast, seval, ↓reduceIte, Za, hN0, hN]
 obtain ⟨z1, hz1, h⟩ := bC h
 refine Zw3 (J := (U2 (fun z1 => JN n (⟨65, [], [(1, .ref n 0), (3, .val (.int .i64 z1))]⟩ : Env) (Z3 O n [some ⟨false, 89, 8, 1, (Yb a0)⟩]) (n + 1)) (fun z1 => JR n (⟨65, [], [(2, .val (.int .i64 0))]⟩ : Env) (Z3 O n [none]) (n + 1)))) (z := z1) ?_ fun hw => ?_
 ·refine Zp [1, 3, 40] (Zb Zc [] ?_)
  simp only [push_cast, seval, ↓reduceIte, Za, hN0, hN]
  refine X7 ?_
  refine Zp [1, 3, 40, 41] (Zb Zc [] ?_)
  simp only [push_cast, seval, ↓reduceIte, Za, hN0, hN]
  refine Zr (t := (a0.Code == 0)) rfl (fun c6 => ?_) (fun c6 => ?_)
  ·replace hz1 := Zv c6 hz1
   refine Zp [2] (Zb Zc [] ?_)
   simp only [push_cast, seval, ↓reduceIte, Za, hN0, hN]
   refine Zt ?_
   try simp only [Zi, Ze]
   have hz1 := Option.some.inj hz1; subst hz1
   refine And.intro rfl (Fit2.of (Zs hU rfl rfl ?_) (by omega))
   simp only [push_cast, seval, ↓reduceIte, Za, hN0, hN]
  replace hz1 := Zu c6 hz1
  refine Zp [1, 3, 40, 43] (Zb Zc [] ?_)
  simp only [push_cast, seval, ↓reduceIte, Za, hN0, hN]
  refine Zr (t := (a0.Code == 1)) rfl (fun c5 => ?_) (fun c5 => ?_)
  ·replace hz1 := Zv c5 hz1
   refine Zb Zc [] ?_
   simp only [push_cast, seval, ↓reduceIte, Za, hN0, hN]
   have hz1 := Option.some.inj hz1; subst hz1
   refine And.intro rfl (Fit2.of (Zs hU rfl rfl ?_) (by omega))
   simp only [push_cast, seval, ↓reduceIte, Za, hN0, hN]
  replace hz1 := Zu c5 hz1
  refine Zp [1, 3, 40, 45] (Zb Zc [] ?_)
  simp only [push_cast, seval, ↓reduceIte, Za, hN0, hN]
  refine Zr (t := (a0.Code == 2)) rfl (fun c4 => ?_) (fun c4 => ?_)
  ·replace hz1 := Zv c4 hz1
   refine Zb Zc [] ?_
   simp only [push_cast, seval, ↓reduceIte, Za, hN0, hN]
   have hz1 := Option.some.inj hz1; subst hz1
   refine And.intro rfl (Fit2.of (Zs hU rfl rfl ?_) (by omega))
   simp only [push_cast, seval, ↓reduceIte, Za, hN0, hN]
  replace hz1 := Zu c4 hz1
  refine Zp [1, 3, 40, 47] (Zb Zc [] ?_)
  simp only [push_cast, seval, ↓reduceIte, Za, hN0, hN]
  refine Zr (t := (a0.Code == 3)) rfl (fun c3 => ?_) (fun c3 => ?_)
  ·replace hz1 := Zv c3 hz1
   refine Zb Zc [] ?_
   simp only [push_cast, seval, ↓reduceIte, Za, hN0, hN]
   have hz1 := Option.some.inj hz1; subst hz1
   refine And.intro rfl (Fit2.of (Zs hU rfl rfl ?_) (by omega))
   simp only [push_cast, seval, ↓reduceIte, Za, hN0, hN]
  replace hz1 := Zu c3 hz1
  refine Zp [1, 3, 49] (Zb Zc [] ?_)
  simp only [push_cast, seval, ↓reduceIte, Za, hN0, hN]
  refine Zr (t := (a0.Code == 4)) rfl (fun c2 => ?_) (fun c2 => ?_)
  ·replace hz1 := Zv c2 hz1
   refine Zb Zc [] ?_
   simp only [push_cast, seval, ↓reduceIte, Za, hN0, hN]
   have hz1 := Option.some.inj hz1; subst hz1
   refine And.intro rfl (Fit2.of (Zs hU rfl rfl ?_) (by omega))
   simp only [push_cast, seval, ↓reduceIte, Za, hN0, hN]
  replace hz1 := Zu c2 hz1
  refine Zx ?_
  try simp only [Zi, Ze]
  have hz1 := Option.some.inj hz1; subst hz1
  refine And.intro rfl (Fit2.of (Zs hU rfl rfl ?_) (by omega))
  simp only [push_cast, seval, ↓reduceIte, Za, hN0, hN]
 rcases z1 with z1 | z1
 ·dsimp only [U2] at hw h
  refine Qt hw ?_
  refine Zg ?_
  obtain ⟨pu8, h⟩ := bG h
  refine Zp [1, 3, 55] (Zb Zc [] ?_)
  simp only [push_cast, seval, ↓reduceIte, Za, pu8, hN0, hN]
  refine Zr (t := (decide (0 < (Int.tmod a0.Count z1)))) rfl (fun c13 => ?_) (fun c13 => ?_)
  ·replace h := Zv c13 h
   obtain ⟨pu10, h⟩ := bG h
   refine Zp [2] (Zb Zc [] ?_)
   simp only [push_cast, seval, ↓reduceIte, Za, pu10, hN0, hN]
   refine Zt ?_
   try simp only [Zi, Ze]
   have h := Option.some.inj h; subst h
   refine Zl (.inr rfl) hU [.val (.int .i64 (IntKind.i64.wrap ((IntKind.i64.wrap (Int.tdiv a0.Count z1)) + 1)))] (by omega) ?_
   simp only [push_cast, seval, ↓reduceIte, Za, Try.results99, hN0, hN]
  replace h := Zu c13 h
  refine Zx ?_
  try simp only [Zi, Ze]
  refine Zf [1, 3] [true] ?_
  simp only [push_cast, seval, ↓reduceIte]
  obtain ⟨pu12, h⟩ := bG h
  refine Zp [2] (Zb Zc [] ?_)
  simp only [push_cast, seval, ↓reduceIte, Za, pu12, hN0, hN]
  refine Zt ?_
  try simp only [Zi, Ze]
  have h := Option.some.inj h; subst h
  refine Zl (.inr rfl) hU [.val (.int .i64 (IntKind.i64.wrap (Int.tdiv a0.Count z1)))] (by omega) ?_
  simp only [push_cast, seval, ↓reduceIte, Za, Try.results99, hN0, hN]
 dsimp only [U2] at hw h
 refine Zto hw ?_
 try simp only [Zi, Ze]
 have h := Option.some.inj h; subst h
 refine Zl (.inr rfl) hU [.val (.int .i64 0)] (by omega) ?_
 simp only [push_cast, seval, ↓reduceIte, Za, Try.results99, hN0, hN]
theorem Gk {a0 : (List (List Int))} {a1 : Z0} {r : (Z0 × Int)} {O : Objs} {n : Nat} (h : Xk a0 a1 = some r) : GTo Try.prog 77 [.sl a0.length (fl (eL (eI .u64)) a0), .agg [.val (.int .i64 a1.P.Kind), .val (.int .i64 a1.P.Off), .val (.int .i64 a1.P.Data), .val (.int .i64 a1.P.Ptrs), .val (.int .i64 a1.P.Code), .val (.int .i64 a1.P.Count), .val (.int .i64 a1.P.Segment), .val (.bool a1.P.Double), .val (.int .i64 a1.Segment), .val (.int .i64 a1.At)]] O n (.tup [.agg [.val (.int .i64 r.1.P.Kind), .val (.int .i64 r.1.P.Off), .val (.int .i64 r.1.P.Data), .val (.int .i64 r.1.P.Ptrs), .val (.int .i64 r.1.P.Code), .val (.int .i64 r.1.P.Count), .val (.int .i64 r.1.P.Segment), .val (.bool r.1.P.Double), .val (.int .i64 r.1.Segment), .val (.int .i64 r.1.At)], .val (.int .i64 r.2)]) O n := by
 unfold Xk at h
 refine Yl Zc Try.call77 Try.func77 rfl (Nat.le_of_ble_eq_true rfl) (Nat.le_refl _) fun hU => ?_
 have hN0 : O n = none := hU.fresh _ (Nat.le_refl _)
 have hN : ∀ k, O (n + k) = none := fun k => hU.fresh _ (Nat.le_add_right _ _)
 show W _ _ _ _ ⟨53, [], [(0, .sl a0.length (fl (eL (eI .u64)) a0)), (1, .agg [.val (.int .i64 a1.P.Kind), .val (.int .i64 a1.P.Off), .val (.int .i64 a1.P.Data), .val (.int .i64 a1.P.Ptrs), .val (.int .i64 a1.P.Code), .val (.int .i64 a1.P.Count), .val (.int .i64 a1.P.Segment), .val (.bool a1.P.Double), .val (.int .i64 a1.Segment), .val (.int .i64 a1.At)])]⟩ (Z3 O n []) _
 refine Zp [0, 3, 4] (Zb Zc [] ?_)
 simp only [push_cast, seval, ↓reduceIte, Za, hN0, hN]
 refine Zg ?_
 obtain ⟨y2, hy2, h⟩ := bC h
 refine Zb Zc [] ?_
 simp only [push_cast, seval, ↓reduceIte, Za, hN0, hN]
 refine (Zd0 hy2).then ?_
 simp only [push_cast, seval, ↓reduceIte, Za, hN0, hN]
 refine Zf [0, 3, 4, 6] [true, true] ?_
 simp only [push_cast, seval, ↓reduceIte]
 refine Zg ?_
 obtain ⟨z5, hz5, h⟩ := bC h
 refine Qt (E' := ⟨53, [], [(3, .ref n 0), (4, .ref (n + 1) 0), (48, .val (.bool z5))]⟩) (O' := (Z3 O n [some ⟨false, 91, 10, 1, [.val (.int .i64 a1.P.Kind), .val (.int .i64 a1.P.Off), .val (.int .i64 a1.P.Data), .val (.int .i64 a1.P.Ptrs), .val (.int .i64 a1.P.Code), .val (.int .i64 a1.P.Count), .val (.int .i64 a1.P.Segment), .val (.bool a1.P.Double), .val (.int .i64 a1.Segment), .val (.int .i64 a1.At)]⟩, some ⟨false, 91, 10, 1, [.val (.int .i64 0), .val (.int .i64 0), .val (.int .i64 0), .val (.int .i64 0), .val (.int .i64 0), .val (.int .i64 0), .val (.int .i64 0), .val (.bool false), .val (.int .i64 0), .val (.int .i64 0)]⟩])) (n0 := (n + 2)) ?_ ?_
 ·rcases Bool.eq_false_or_eq_true (decide (a1.Segment < 0)) with c10 | c10
  ·replace hz5 := Zv c10 hz5
   refine Ku Zc (by kernel_rfl) [none, none, none, none, none, none, none, none, some false, some false, some false, some false, some false, some false, some false, some false, some false, some false, some false, some false, some false, some false, some false, some false, some false, some false, some false, some false] (by kernel_rfl) ?_
   simp only [push_cast, seval, ↓reduceIte, Za, c10, hN0, hN]
   repeat (with_reducible refine And.intro (by first | (intro h0; simp only [h0, and_self]; done) | (intro h0; simp only [h0, Bool.not_false, Bool.not_true, Bool.true_and, Bool.and_true, true_and, and_true, and_self, imp_self, implies_true, bne_iff_ne, ne_eq, beq_iff_eq]; done) | (intros; simp_all; done) | exact True.intro) ?_)
   have hz5 := Option.some.inj hz5; subst hz5
   refine And.intro rfl (Fit2.of (Zs hU rfl rfl ?_) (by omega))
   simp only [push_cast, seval, ↓reduceIte, Za, c10, hN0, hN]
  replace hz5 := Zu c10 hz5
  rcases Bool.eq_false_or_eq_true (decide ((a0.length : Int) ≤ a1.Segment)) with c11 | c11
  ·replace hz5 := Zv c11 hz5
   try rw [c11] at c10
   refine Ku Zc (by kernel_rfl) [none, none, none, none, none, none, none, none, some false, some false, some false, some false, some false, some false, some false, some false, some false, some false, some false, some false, some false, some false, some false, some false, some false, some false, some false, some false] (by kernel_rfl) ?_
   simp only [push_cast, seval, ↓reduceIte, Za, c10, c11, hN0, hN]
   repeat (with_reducible refine And.intro (by first | (intro h0; simp only [h0, and_self]; done) | (intro h0; simp only [h0, Bool.not_false, Bool.not_true, Bool.true_and, Bool.and_true, true_and, and_true, and_self, imp_self, implies_true, bne_iff_ne, ne_eq, beq_iff_eq]; done) | (intros; simp_all; done) | exact True.intro) ?_)
   have hz5 := Option.some.inj hz5; subst hz5
   refine And.intro rfl (Fit2.of (Zs hU rfl rfl ?_) (by omega))
   simp only [push_cast, seval, ↓reduceIte, Za, c10, c11, hN0, hN]
  replace hz5 := Zu c11 hz5
  try rw [c11] at c10
  rcases Bool.eq_false_or_eq_true (decide (a1.At < 0)) with c12 | c12
  ·replace hz5 := Zv c12 hz5
   try rw [c12] at c10
   try rw [c12] at c11
   refine Ku Zc (by kernel_rfl) [none, none, none, none, none, none, none, none, some false, some false, some false, some false, some false, some false, some false, some false, some false, some false, some false, some false, some false, some false, some false, some false, some false, some false, some false, some false] (by kernel_rfl) ?_
   simp only [push_cast, seval, ↓reduceIte, Za, c10, c11, c12, hN0, hN]
   repeat (with_reducible refine And.intro (by first | (intro h0; simp only [h0, and_self]; done) | (intro h0; simp only [h0, Bool.not_false, Bool.not_true, Bool.true_and, Bool.and_true, true_and, and_true, and_self, imp_self, implies_true, bne_iff_ne, ne_eq, beq_iff_eq]; done) | (intros; simp_all; done) | exact True.intro) ?_)
   have hz5 := Option.some.inj hz5; subst hz5
   refine And.intro rfl (Fit2.of (Zs hU rfl rfl ?_) (by omega))
   simp only [push_cast, seval, ↓reduceIte, Za, c10, c11, c12, hN0, hN]
  replace hz5 := Zu c12 hz5
  try rw [c12] at c10
  try rw [c12] at c11
  obtain ⟨x8, hx8, ax8, bx8, cx8, hz5⟩ := bE (f := (eL (eI .u64))) Gn (fun _ => rfl) (by decide) hz5
  rcases Bool.eq_false_or_eq_true (decide ((x8.length : Int) < a1.At)) with c13 | c13
  ·replace hz5 := Zv c13 hz5
   try rw [c13] at c10
   try rw [c13] at c11
   try rw [c13] at c12
   refine Ku Zc (by kernel_rfl) [none, none, none, none, none, none, none, none, some true, some true, some true, some true, some true, some true, some true, some true, some true, some false, some false, some false, some false, some false, some false, some false, some false, some false, some false, some false] (by kernel_rfl) ?_
   simp only [push_cast, Nat.reduceAdd, Nat.reduceSub, Nat.reduceMul, Nat.reduceLeDiff, Nat.reduceLT, Nat.reduceEqDiff, ↓reduceIte, reduceCtorEq, Int.reduceBEq, Int.reduceBNe, Nat.reduceBEq, Int.reduceLE, Int.reduceLT, Int.reduceEq, Int.reduceNe, Int.reduceNeg, Nat.reduceDiv, Nat.reduceMod, Nat.reducePow, Za, c10, c11, c12, ax8, bx8, cx8, c13, hN0, hN]
   repeat (with_reducible refine And.intro (by first | (intro h0; simp only [h0, and_self]; done) | (intro h0; simp only [h0, Bool.not_false, Bool.not_true, Bool.true_and, Bool.and_true, true_and, and_true, and_self, imp_self, implies_true, bne_iff_ne, ne_eq, beq_iff_eq]; done) | (intros; simp_all; done) | exact True.intro) ?_)
   have hz5 := Option.some.inj hz5; subst hz5
   refine And.intro rfl (Fit2.of (Zs hU rfl rfl ?_) (by omega))
   simp only [push_cast, Nat.reduceAdd, Nat.reduceSub, Nat.reduceMul, Nat.reduceLeDiff, Nat.reduceLT, Nat.reduceEqDiff, ↓reduceIte, reduceCtorEq, Int.reduceBEq, Int.reduceBNe, Nat.reduceBEq, Int.reduceLE, Int.reduceLT, Int.reduceEq, Int.reduceNe, Int.reduceNeg, Nat.reduceDiv, Nat.reduceMod, Nat.reducePow, Za, c10, c11, c12, ax8, bx8, cx8, c13, hN0, hN]
  replace hz5 := Zu c13 hz5
  try rw [c13] at c10
  try rw [c13] at c11
  try rw [c13] at c12
  refine Ku Zc (by kernel_rfl) [none, none, none, none, none, none, none, none, some true, some true, some true, some true, some true, some true, some true, some true, some true, some true, some true, some true, some true, some true, some true, some true, some true, some true, some true, some true] (by kernel_rfl) ?_
  simp only [push_cast, Nat.reduceAdd, Nat.reduceSub, Nat.reduceMul, Nat.reduceLeDiff, Nat.reduceLT, Nat.reduceEqDiff, ↓reduceIte, reduceCtorEq, Int.reduceBEq, Int.reduceBNe, Nat.reduceBEq, Int.reduceLE, Int.reduceLT, Int.reduceEq, Int.reduceNe, Int.reduceNeg, Nat.reduceDiv, Nat.reduceMod, Nat.reducePow, Za, c10, c11, c12, ax8, bx8, cx8, c13, hN0, hN]
  repeat (with_reducible refine And.intro (by first | (intro h0; simp only [h0, and_self]; done) | (intro h0; simp only [h0, Bool.not_false, Bool.not_true, Bool.true_and, Bool.and_true, true_and, and_true, and_self, imp_self, implies_true, bne_iff_ne, ne_eq, beq_iff_eq]; done) | (intros; simp_all; done) | exact True.intro) ?_)
  have hz5 := Option.some.inj hz5; subst hz5
  refine And.intro rfl (Fit2.of (Zs hU rfl rfl ?_) (by omega))
  simp only [push_cast, Nat.reduceAdd, Nat.reduceSub, Nat.reduceMul, Nat.reduceLeDiff, Nat.reduceLT, Nat.reduceEqDiff, ↓reduceIte, reduceCtorEq, Int.reduceBEq, Int.reduceBNe, Nat.reduceBEq, Int.reduceLE, Int.reduceLT, Int.reduceEq, Int.reduceNe, Int.reduceNeg, Nat.reduceDiv, Nat.reduceMod, Nat.reducePow, Za, c10, c11, c12, ax8, bx8, cx8, c13, hN0, hN]
 refine Zr (t := z5) rfl (fun c14 => ?_) (fun c14 => ?_)
 ·replace h := Zv c14 h
  refine Zg ?_
  refine Zb Zc [] ?_
  simp only [push_cast, seval, ↓reduceIte, Za, hN0, hN]
  refine Zf [4, 5] [false, true] ?_
  simp only [push_cast, seval, ↓reduceIte]
  refine Zt ?_
  try simp only [Zi, Ze]
  have h := Option.some.inj h; subst h
  refine Zl (.inr rfl) hU [.agg [.val (.int .i64 0), .val (.int .i64 0), .val (.int .i64 0), .val (.int .i64 0), .val (.int .i64 0), .val (.int .i64 0), .val (.int .i64 0), .val (.bool false), .val (.int .i64 0), .val (.int .i64 0)], .val (.int .i64 7)] (by omega) ?_
  simp only [push_cast, seval, ↓reduceIte, Za, Try.results77, hN0, hN]
 replace h := Zu c14 h
 refine Zx ?_
 try simp only [Zi, Ze]
 refine Zf [3, 4] [true, true] ?_
 simp only [push_cast, seval, ↓reduceIte]
 refine Zg ?_
 refine Zb Zc [] ?_
 simp only [push_cast, seval, ↓reduceIte, Za, hN0, hN]
 refine Zf [3, 4] [true, true] ?_
 simp only [push_cast, seval, ↓reduceIte]
 refine Zg ?_
 refine Zb Zc [] ?_
 simp only [push_cast, seval, ↓reduceIte, Za, hN0, hN]
 refine Zf [4, 5] [false, true] ?_
 simp only [push_cast, seval, ↓reduceIte]
 refine Zt ?_
 try simp only [Zi, Ze]
 have h := Option.some.inj h; subst h
 refine Zl (.inr rfl) hU [.agg [.val (.int .i64 a1.P.Kind), .val (.int .i64 0), .val (.int .i64 a1.P.Data), .val (.int .i64 a1.P.Ptrs), .val (.int .i64 a1.P.Code), .val (.int .i64 a1.P.Count), .val (.int .i64 a1.P.Segment), .val (.bool a1.P.Double), .val (.int .i64 a1.Segment), .val (.int .i64 a1.At)], .val (.int .i64 0)] (by omega) ?_
 simp only [push_cast, seval, ↓reduceIte, Za, Try.results77, hN0, hN]
theorem Zcw {a0 : (List (List Int))} {a1 : Int} {a2 : Int} {r : (Z0 × Int)} {O : Objs} {n : Nat} (h : X6 a0 a1 a2 = some r) : GTo Try.prog 50 [.sl a0.length (fl (eL (eI .u64)) a0), .val (.int .i64 a1), .val (.int .i64 a2)] O n (.tup [.agg [.val (.int .i64 r.1.P.Kind), .val (.int .i64 r.1.P.Off), .val (.int .i64 r.1.P.Data), .val (.int .i64 r.1.P.Ptrs), .val (.int .i64 r.1.P.Code), .val (.int .i64 r.1.P.Count), .val (.int .i64 r.1.P.Segment), .val (.bool r.1.P.Double), .val (.int .i64 r.1.Segment), .val (.int .i64 r.1.At)], .val (.int .i64 r.2)]) O n := by
 unfold X6 at h
 refine Yl Zc Try.call50 Try.func50 rfl (Nat.le_of_ble_eq_true rfl) (Nat.le_refl _) fun hU => ?_
 have hN0 : O n = none := hU.fresh _ (Nat.le_refl _)
 have hN : ∀ k, O (n + k) = none := fun k => hU.fresh _ (Nat.le_add_right _ _)
 show W _ _ _ _ ⟨147, [], [(0, .sl a0.length (fl (eL (eI .u64)) a0)), (1, .val (.int .i64 a1)), (2, .val (.int .i64 a2))]⟩ (Z3 O n []) _
 refine Zp [0, 1, 2, 6] (Zb Zc [] ?_)
 simp only [push_cast, seval, ↓reduceIte, Za, hN0, hN]
 refine Zg ?_
 refine Zg ?_
 obtain ⟨y2, hy2, h⟩ := bC h
 refine Zb Zc [] ?_
 simp only [push_cast, seval, ↓reduceIte, Za, hN0, hN]
 refine (Jb hy2).then ?_
 simp only [push_cast, seval, ↓reduceIte, Za, hN0, hN]
 refine Zf [0, 1, 2, 6, 17] [true] ?_
 simp only [push_cast, seval, ↓reduceIte]
 refine Zr (t := (!y2)) rfl (fun c47 => ?_) (fun c47 => ?_)
 ·replace h := Zv c47 h
  refine Zg ?_
  refine Zb Zc [] ?_
  simp only [push_cast, seval, ↓reduceIte, Za, hN0, hN]
  refine Zf [6, 7] [true] ?_
  simp only [push_cast, seval, ↓reduceIte]
  refine Zt ?_
  try simp only [Zi, Ze]
  have h := Option.some.inj h; subst h
  refine Zl (.inr rfl) hU [.agg [.val (.int .i64 0), .val (.int .i64 0), .val (.int .i64 0), .val (.int .i64 0), .val (.int .i64 0), .val (.int .i64 0), .val (.int .i64 0), .val (.bool false), .val (.int .i64 0), .val (.int .i64 0)], .val (.int .i64 7)] (by omega) ?_
  simp only [push_cast, seval, ↓reduceIte, Za, Try.results50, hN0, hN]
 replace h := Zu c47 h
 refine Zx ?_
 try simp only [Zi, Ze]
 refine Zf [0, 1, 2, 6] [true] ?_
 simp only [push_cast, seval, ↓reduceIte]
 refine Zg ?_
 obtain ⟨x6, hx6, ax6, bx6, cx6, h⟩ := bE (f := (eL (eI .u64))) Gn (fun _ => rfl) (by decide) h
 obtain ⟨x7, hx7, ax7, bx7, cx7, h⟩ := bE (f := (eI .u64)) Gm (fun _ => rfl) (by decide) h
 obtain ⟨y8, hy8, h⟩ := bC h
 refine Zb Zc [] ?_
 simp only [push_cast, Nat.reduceAdd, Nat.reduceSub, Nat.reduceMul, Nat.reduceLeDiff, Nat.reduceLT, Nat.reduceEqDiff, ↓reduceIte, reduceCtorEq, Int.reduceBEq, Int.reduceBNe, Nat.reduceBEq, Int.reduceLE, Int.reduceLT, Int.reduceEq, Int.reduceNe, Int.reduceNeg, Nat.reduceDiv, Nat.reduceMod, Nat.reducePow, Za, ax6, bx6, cx6, ax7, bx7, cx7, hN0, hN]
 refine (Xc hy8).then ?_
 simp only [push_cast, Nat.reduceAdd, Nat.reduceSub, Nat.reduceMul, Nat.reduceLeDiff, Nat.reduceLT, Nat.reduceEqDiff, ↓reduceIte, reduceCtorEq, Int.reduceBEq, Int.reduceBNe, Nat.reduceBEq, Int.reduceLE, Int.reduceLT, Int.reduceEq, Int.reduceNe, Int.reduceNeg, Nat.reduceDiv, Nat.reduceMod, Nat.reducePow, Za, ax6, bx6, cx6, ax7, bx7, cx7, hN0, hN]
 refine Zf [0, 1, 2, 6, 8] [true, true] ?_
 simp only [push_cast, seval, ↓reduceIte]
 refine Zg ?_
 refine Zp [0, 1, 2, 6, 8, 29] (Zb Zc [] ?_)
 simp only [push_cast, seval, ↓reduceIte, Za, hN0, hN]
 refine Zr (t := (y8.Kind == 0)) rfl (fun c46 => ?_) (fun c46 => ?_)
 ·replace h := Zv c46 h
  refine Zg ?_
  refine Zb Zc [] ?_
  simp only [push_cast, seval, ↓reduceIte, Za, hN0, hN]
  refine Zf [6, 7] [true, false] ?_
  simp only [push_cast, seval, ↓reduceIte]
  refine Zt ?_
  try simp only [Zi, Ze]
  have h := Option.some.inj h; subst h
  refine Zl (.inr rfl) hU [.agg [.val (.int .i64 0), .val (.int .i64 0), .val (.int .i64 0), .val (.int .i64 0), .val (.int .i64 0), .val (.int .i64 0), .val (.int .i64 0), .val (.bool false), .val (.int .i64 0), .val (.int .i64 0)], .val (.int .i64 0)] (by omega) ?_
  simp only [push_cast, seval, ↓reduceIte, Za, Try.results50, hN0, hN]
 replace h := Zu c46 h
 refine Zx ?_
 try simp only [Zi, Ze]
 refine Zf [0, 1, 2, 6, 8] [true, true] ?_
 simp only [push_cast, seval, ↓reduceIte]
 refine Zg ?_
 refine Zp [0, 1, 2, 6, 8, 37] (Zb Zc [none, none] ?_)
 simp only [push_cast, seval, ↓reduceIte, Za, hN0, hN]
 repeat (with_reducible refine And.intro (by first | (intro h0; simp only [h0, and_self]; done) | (intro h0; simp only [h0, Bool.not_false, Bool.not_true, Bool.true_and, Bool.and_true, true_and, and_true, and_self, imp_self, implies_true, bne_iff_ne, ne_eq, beq_iff_eq]; done) | (intros; simp_all; done) | exact True.intro) ?_)
 refine Zr (t := (cond (y8.Kind == 3) y8.Double false)) rfl (fun c45 => ?_) (fun c45 => ?_)
 ·replace h := Zv c45 h
  refine Zg ?_
  obtain ⟨z11, hz11, h⟩ := bC h
  refine Qt (E' := ⟨147, [], [(0, .sl a0.length (fl (eL (eI .u64)) a0)), (6, .ref n 0), (8, .ref (n + 1) 0), (54, .val (.bool z11))]⟩) (O' := (Z3 O n [some ⟨false, 91, 10, 1, [.val (.int .i64 0), .val (.int .i64 0), .val (.int .i64 0), .val (.int .i64 0), .val (.int .i64 0), .val (.int .i64 0), .val (.int .i64 0), .val (.bool false), .val (.int .i64 0), .val (.int .i64 0)]⟩, some ⟨false, 89, 8, 1, (Yb y8)⟩])) (n0 := (n + 2)) ?_ ?_
  ·obtain ⟨y14, hy14, hz11⟩ := bC hz11
   rcases Bool.eq_false_or_eq_true y14 with c16 | c16
   ·replace hz11 := Zv c16 hz11
    obtain ⟨y15, hy15, hz11⟩ := bC hz11
    refine Zb Zc [some true, some true, some true, some true, some true, some true, some true, some true] ?_
    simp only [push_cast, seval, ↓reduceIte, Za, c16, hN0, hN]
    refine (Jb hy14).then ?_
    simp only [push_cast, seval, ↓reduceIte, Za, c16, hN0, hN]
    refine (Jb hy15).then ?_
    simp only [push_cast, seval, ↓reduceIte, Za, c16, hN0, hN]
    have hz11 := Option.some.inj hz11; subst hz11
    refine And.intro rfl (Fit2.of (Zs hU rfl rfl ?_) (by omega))
    simp only [push_cast, seval, ↓reduceIte, Za, c16, hN0, hN]
   replace hz11 := Zu c16 hz11
   refine Zb Zc [some false, some false, some false, some false, some false, some false, some false, some false] ?_
   simp only [push_cast, seval, ↓reduceIte, Za, c16, hN0, hN]
   refine (Jb hy14).then ?_
   simp only [push_cast, seval, ↓reduceIte, Za, c16, hN0, hN]
   have hz11 := Option.some.inj hz11; subst hz11
   refine And.intro rfl (Fit2.of (Zs hU rfl rfl ?_) (by omega))
   simp only [push_cast, seval, ↓reduceIte, Za, c16, hN0, hN]
  refine Zr (t := z11) rfl (fun c31 => ?_) (fun c31 => ?_)
  ·replace h := Zv c31 h
   refine Zg ?_
   refine Zb Zc [] ?_
   simp only [push_cast, seval, ↓reduceIte, Za, hN0, hN]
   refine Zf [6, 7] [true, false] ?_
   simp only [push_cast, seval, ↓reduceIte]
   refine Zt ?_
   try simp only [Zi, Ze]
   have h := Option.some.inj h; subst h
   refine Zl (.inr rfl) hU [.agg [.val (.int .i64 0), .val (.int .i64 0), .val (.int .i64 0), .val (.int .i64 0), .val (.int .i64 0), .val (.int .i64 0), .val (.int .i64 0), .val (.bool false), .val (.int .i64 0), .val (.int .i64 0)], .val (.int .i64 7)] (by omega) ?_
   simp only [push_cast, seval, ↓reduceIte, Za, Try.results50, hN0, hN]
  replace h := Zu c31 h
  refine Zx ?_
  try simp only [Zi, Ze]
  refine Zf [0, 6, 8] [true, true] ?_
  simp only [push_cast, seval, ↓reduceIte]
  obtain ⟨x17, hx17, ax17, bx17, cx17, h⟩ := bE (f := (eL (eI .u64))) Gn (fun _ => rfl) (by decide) h
  obtain ⟨x18, hx18, ax18, bx18, cx18, h⟩ := bE (f := (eI .u64)) Gm (fun _ => rfl) (by decide) h
  obtain ⟨y19, hy19, h⟩ := bC h
  obtain ⟨x21, hx21, ax21, bx21, cx21, h⟩ := bE (f := (eI .u64)) Gm (fun _ => rfl) (by decide) h
  obtain ⟨y22, hy22, h⟩ := bC h
  refine Qt (E' := ⟨147, [], [(0, .sl a0.length (fl (eL (eI .u64)) a0)), (6, .ref n 0), (9, .ref (n + 2) 0), (10, .ref (n + 3) 0)]⟩) (O' := (Z3 O n [some ⟨false, 91, 10, 1, [.val (.int .i64 0), .val (.int .i64 0), .val (.int .i64 0), .val (.int .i64 0), .val (.int .i64 0), .val (.int .i64 0), .val (.int .i64 0), .val (.bool false), .val (.int .i64 0), .val (.int .i64 0)]⟩, none, some ⟨false, 89, 8, 1, (Yb y19)⟩, some ⟨false, 89, 8, 1, (Yb y22)⟩])) (n0 := (n + 4)) ?_ ?_
  ·refine Zsa Zc (by kernel_rfl) [.low, .low, .low, .low, .low, .low, .low, .low, .low, .low, .low, .low, .low, .low, .low, .low, .low, .low, .low, .low, .low, .pass, .pass, .pass, .pass] (fun i => i < (n + 2)) 21 22 [0, 1, 2, 3, 4, 5, 6, 7, 8, 9, 10, 11, 12, 13, 14, 15, 16, 17, 18, 19, 20] [23, 24] [.low, .low, .low, .low, .low, .low, .low, .low, .low, .low, .low, .low, .low, .low, .low, .low, .low, .low, .low, .low, .low] [.pass, .pass, .pass, .pass] [.pass, .pass, .pass, .pass] [] (by kernel_rfl) rfl rfl rfl ?_
   simp only [push_cast, Nat.reduceAdd, Nat.reduceSub, Nat.reduceMul, Nat.reduceLeDiff, Nat.reduceLT, Nat.reduceEqDiff, ↓reduceIte, reduceCtorEq, Int.reduceBEq, Int.reduceBNe, Nat.reduceBEq, Int.reduceLE, Int.reduceLT, Int.reduceEq, Int.reduceNe, Int.reduceNeg, Nat.reduceDiv, Nat.reduceMod, Nat.reducePow, Za, ax17, bx17, cx17, ax18, bx18, cx18, ax21, bx21, cx21, hN0, hN]
   repeat (with_reducible refine And.intro (by omega) ?_)
   first | refine PCallA.of (fun _ _ => Xc hy19) ?_ | refine PCall.of (Xc hy19) ?_
   simp only [push_cast, Nat.reduceAdd, Nat.reduceSub, Nat.reduceMul, Nat.reduceLeDiff, Nat.reduceLT, Nat.reduceEqDiff, ↓reduceIte, reduceCtorEq, Int.reduceBEq, Int.reduceBNe, Nat.reduceBEq, Int.reduceLE, Int.reduceLT, Int.reduceEq, Int.reduceNe, Int.reduceNeg, Nat.reduceDiv, Nat.reduceMod, Nat.reducePow, Za, ax17, bx17, cx17, ax18, bx18, cx18, ax21, bx21, cx21, hN0, hN]
   repeat (with_reducible refine And.intro (by omega) ?_)
   first | refine PCallA.of (fun _ _ => Xc hy22) ?_ | refine PCall.of (Xc hy22) ?_
   simp only [push_cast, Nat.reduceAdd, Nat.reduceSub, Nat.reduceMul, Nat.reduceLeDiff, Nat.reduceLT, Nat.reduceEqDiff, ↓reduceIte, reduceCtorEq, Int.reduceBEq, Int.reduceBNe, Nat.reduceBEq, Int.reduceLE, Int.reduceLT, Int.reduceEq, Int.reduceNe, Int.reduceNeg, Nat.reduceDiv, Nat.reduceMod, Nat.reducePow, Za, ax17, bx17, cx17, ax18, bx18, cx18, ax21, bx21, cx21, hN0, hN]
   repeat (with_reducible refine And.intro (by omega) ?_)
   refine And.intro ?_ ?_
   ·simp only [push_cast, Nat.reduceAdd, Nat.reduceSub, Nat.reduceMul, Nat.reduceLeDiff, Nat.reduceLT, Nat.reduceEqDiff, ↓reduceIte, reduceCtorEq, Int.reduceBEq, Int.reduceBNe, Nat.reduceBEq, Int.reduceLE, Int.reduceLT, Int.reduceEq, Int.reduceNe, Int.reduceNeg, Nat.reduceDiv, Nat.reduceMod, Nat.reducePow, Za, ax17, bx17, cx17, ax18, bx18, cx18, ax21, bx21, cx21, hN0, hN]
    repeat (with_reducible refine And.intro (by first | exact Qh rfl | exact Xw) ?_)
    refine And.intro rfl (Fit2.of (Zs hU rfl rfl ?_) (by omega))
    simp only [push_cast, Nat.reduceAdd, Nat.reduceSub, Nat.reduceMul, Nat.reduceLeDiff, Nat.reduceLT, Nat.reduceEqDiff, ↓reduceIte, reduceCtorEq, Int.reduceBEq, Int.reduceBNe, Nat.reduceBEq, Int.reduceLE, Int.reduceLT, Int.reduceEq, Int.reduceNe, Int.reduceNeg, Nat.reduceDiv, Nat.reduceMod, Nat.reducePow, Za, ax17, bx17, cx17, ax18, bx18, cx18, ax21, bx21, cx21, hN0, hN]
   simp only [push_cast, Nat.reduceAdd, Nat.reduceSub, Nat.reduceMul, Nat.reduceLeDiff, Nat.reduceLT, Nat.reduceEqDiff, ↓reduceIte, reduceCtorEq, Int.reduceBEq, Int.reduceBNe, Nat.reduceBEq, Int.reduceLE, Int.reduceLT, Int.reduceEq, Int.reduceNe, Int.reduceNeg, Nat.reduceDiv, Nat.reduceMod, Nat.reducePow, Za, ax17, bx17, cx17, ax18, bx18, cx18, ax21, bx21, cx21, hN0, hN]
   repeat (with_reducible refine And.intro (by first | exact Qh rfl | exact Xw) ?_)
   refine And.intro rfl ?_
   refine Fit2.trans (E' := (⟨147, [], [(0, .sl a0.length (fl (eL (eI .u64)) a0)), (6, .ref n 0), (9, .ref (n + 3) 0), (10, .ref (n + 2) 0)]⟩ : Env)) (O' := (Z3 O n [some ⟨false, 91, 10, 1, [.val (.int .i64 0), .val (.int .i64 0), .val (.int .i64 0), .val (.int .i64 0), .val (.int .i64 0), .val (.int .i64 0), .val (.int .i64 0), .val (.bool false), .val (.int .i64 0), .val (.int .i64 0)]⟩, none, some ⟨false, 89, 8, 1, (Yb y22)⟩, some ⟨false, 89, 8, 1, (Yb y19)⟩])) (n' := (n + 4)) (Fit2.of (Zs hU rfl rfl ?_) (by omega)) ?_
   ·simp only [push_cast, Nat.reduceAdd, Nat.reduceSub, Nat.reduceMul, Nat.reduceLeDiff, Nat.reduceLT, Nat.reduceEqDiff, ↓reduceIte, reduceCtorEq, Int.reduceBEq, Int.reduceBNe, Nat.reduceBEq, Int.reduceLE, Int.reduceLT, Int.reduceEq, Int.reduceNe, Int.reduceNeg, Nat.reduceDiv, Nat.reduceMod, Nat.reducePow, Za, ax17, bx17, cx17, ax18, bx18, cx18, ax21, bx21, cx21, hN0, hN]
   refine Zhz (k := 4) (k' := 4) hU [0, 1, 3, 2] [0, 1, 3, 2] rfl rfl rfl rfl ⟨rfl, rfl⟩ ?_
   simp only [push_cast, seval, ↓reduceIte, Za, hN0, hN]
  refine Zg ?_
  refine Zp [0, 6, 9, 10, 83] (Zb Zc [none, none] ?_)
  simp only [push_cast, seval, ↓reduceIte, Za, hN0, hN]
  repeat (with_reducible refine And.intro (by first | (intro h0; simp only [h0, and_self]; done) | (intro h0; simp only [h0, Bool.not_false, Bool.not_true, Bool.true_and, Bool.and_true, true_and, and_true, and_self, imp_self, implies_true, bne_iff_ne, ne_eq, beq_iff_eq]; done) | (intros; simp_all; done) | exact True.intro) ?_)
  refine Zr (t := (cond (y19.Kind != 3) true y19.Double)) rfl (fun c30 => ?_) (fun c30 => ?_)
  ·replace h := Zv c30 h
   refine Zg ?_
   refine Zb Zc [] ?_
   simp only [push_cast, seval, ↓reduceIte, Za, hN0, hN]
   refine Zf [6, 7] [true, false, false, false] ?_
   simp only [push_cast, seval, ↓reduceIte]
   refine Zt ?_
   try simp only [Zi, Ze]
   have h := Option.some.inj h; subst h
   refine Zl (.inr rfl) hU [.agg [.val (.int .i64 0), .val (.int .i64 0), .val (.int .i64 0), .val (.int .i64 0), .val (.int .i64 0), .val (.int .i64 0), .val (.int .i64 0), .val (.bool false), .val (.int .i64 0), .val (.int .i64 0)], .val (.int .i64 8)] (by omega) ?_
   simp only [push_cast, seval, ↓reduceIte, Za, Try.results50, hN0, hN]
  replace h := Zu c30 h
  refine Zx ?_
  try simp only [Zi, Ze]
  refine Zf [0, 6, 9, 10] [true, false, true, true] ?_
  simp only [push_cast, seval, ↓reduceIte]
  refine Zg ?_
  obtain ⟨y24, hy24, h⟩ := bC h
  refine Zb Zc [] ?_
  simp only [push_cast, seval, ↓reduceIte, Za, hN0, hN]
  refine (Gj hy24).then ?_
  simp only [push_cast, seval, ↓reduceIte, Za, hN0, hN]
  refine Zf [0, 6, 9, 10, 11] [true, false, true, true] ?_
  simp only [push_cast, seval, ↓reduceIte]
  obtain ⟨z25, hz25, h⟩ := bC h
  refine Qt (E' := ⟨147, [], [(0, .sl a0.length (fl (eL (eI .u64)) a0)), (6, .ref n 0), (9, .ref (n + 2) 0), (10, .ref (n + 3) 0), (11, .val (.int .i64 z25))]⟩) (O' := (Z3 O n [some ⟨false, 91, 10, 1, [.val (.int .i64 0), .val (.int .i64 0), .val (.int .i64 0), .val (.int .i64 0), .val (.int .i64 0), .val (.int .i64 0), .val (.int .i64 0), .val (.bool false), .val (.int .i64 0), .val (.int .i64 0)]⟩, none, some ⟨false, 89, 8, 1, (Yb y19)⟩, some ⟨false, 89, 8, 1, (Yb y22)⟩])) (n0 := (n + 4)) ?_ ?_
  ·refine Zp [0, 6, 9, 10, 11, 93] (Zb Zc [none, none, none] ?_)
   simp only [push_cast, seval, ↓reduceIte, Za, hN0, hN]
   repeat (with_reducible refine And.intro (by first | (intro h0; simp only [h0, and_self]; done) | (intro h0; simp only [h0, Bool.not_false, Bool.not_true, Bool.true_and, Bool.and_true, true_and, and_true, and_self, imp_self, implies_true, bne_iff_ne, ne_eq, beq_iff_eq]; done) | (intros; simp_all; done) | exact True.intro) ?_)
   refine Zr (t := (cond (y24 == 0) (y22.Off != 0) false)) rfl (fun c26 => ?_) (fun c26 => ?_)
   ·replace hz25 := Zv c26 hz25
    refine Zb Zc [] ?_
    simp only [push_cast, seval, ↓reduceIte, Za, hN0, hN]
    have hz25 := Option.some.inj hz25; subst hz25
    refine And.intro rfl (Fit2.of (Zs hU rfl rfl ?_) (by omega))
    simp only [push_cast, seval, ↓reduceIte, Za, hN0, hN]
   replace hz25 := Zu c26 hz25
   refine Zx ?_
   try simp only [Zi, Ze]
   have hz25 := Option.some.inj hz25; subst hz25
   refine And.intro rfl (Fit2.of (Zs hU rfl rfl ?_) (by omega))
   simp only [push_cast, seval, ↓reduceIte, Za, hN0, hN]
  refine Zg ?_
  refine Zp [0, 6, 9, 10, 11, 95] (Zb Zc [] ?_)
  simp only [push_cast, seval, ↓reduceIte, Za, hN0, hN]
  refine Zr (t := (z25 != 0)) rfl (fun c29 => ?_) (fun c29 => ?_)
  ·replace h := Zv c29 h
   refine Zg ?_
   refine Zb Zc [] ?_
   simp only [push_cast, seval, ↓reduceIte, Za, hN0, hN]
   refine Zf [6, 7] [true, false, false, false] ?_
   simp only [push_cast, seval, ↓reduceIte]
   refine Zt ?_
   try simp only [Zi, Ze]
   have h := Option.some.inj h; subst h
   refine Zl (.inr rfl) hU [.agg [.val (.int .i64 0), .val (.int .i64 0), .val (.int .i64 0), .val (.int .i64 0), .val (.int .i64 0), .val (.int .i64 0), .val (.int .i64 0), .val (.bool false), .val (.int .i64 0), .val (.int .i64 0)], .val (.int .i64 z25)] (by omega) ?_
   simp only [push_cast, seval, ↓reduceIte, Za, Try.results50, hN0, hN]
  replace h := Zu c29 h
  refine Zx ?_
  try simp only [Zi, Ze]
  refine Zf [0, 6, 9, 10] [true, false, true, true] ?_
  simp only [push_cast, seval, ↓reduceIte]
  refine Zg ?_
  obtain ⟨y28, hy28, h⟩ := bC h
  refine Zb Zc [] ?_
  simp only [push_cast, seval, ↓reduceIte, Za, hN0, hN]
  refine (Gk hy28).then ?_
  simp only [push_cast, seval, ↓reduceIte, Za, hN0, hN]
  refine Zf [6, 7] [true, false, false, false] ?_
  simp only [push_cast, seval, ↓reduceIte]
  refine Zt ?_
  try simp only [Zi, Ze]
  have h := Option.some.inj h; subst h
  refine Zl (.inr rfl) hU [.agg [.val (.int .i64 y28.1.P.Kind), .val (.int .i64 y28.1.P.Off), .val (.int .i64 y28.1.P.Data), .val (.int .i64 y28.1.P.Ptrs), .val (.int .i64 y28.1.P.Code), .val (.int .i64 y28.1.P.Count), .val (.int .i64 y28.1.P.Segment), .val (.bool y28.1.P.Double), .val (.int .i64 y28.1.Segment), .val (.int .i64 y28.1.At)], .val (.int .i64 y28.2)] (by omega) ?_
  simp only [push_cast, seval, ↓reduceIte, Za, Try.results50, hN0, hN]
 replace h := Zu c45 h
 refine Zx ?_
 try simp only [Zi, Ze]
 refine Zf [0, 1, 2, 6, 8] [true, true] ?_
 simp only [push_cast, seval, ↓reduceIte]
 obtain ⟨z32, hz32, h⟩ := bC h
 refine Zw3 (J := (U2 (fun z32 => JN n (⟨147, [], [(0, .sl a0.length (fl (eL (eI .u64)) a0)), (1, .val (.int .i64 z32.1)), (2, .val (.int .i64 z32.2.1)), (6, .ref n 0), (8, .ref (n + 1) 0)]⟩ : Env) (Z3 O n [some ⟨false, 91, 10, 1, [.val (.int .i64 0), .val (.int .i64 0), .val (.int .i64 0), .val (.int .i64 0), .val (.int .i64 0), .val (.int .i64 0), .val (.int .i64 0), .val (.bool false), .val (.int .i64 0), .val (.int .i64 0)]⟩, some ⟨false, 89, 8, 1, [.val (.int .i64 z32.2.2.1), .val (.int .i64 z32.2.2.2.1), .val (.int .i64 z32.2.2.2.2.1), .val (.int .i64 z32.2.2.2.2.2.1), .val (.int .i64 z32.2.2.2.2.2.2.1), .val (.int .i64 z32.2.2.2.2.2.2.2.1), .val (.int .i64 z32.2.2.2.2.2.2.2.2.1), .val (.bool z32.2.2.2.2.2.2.2.2.2)]⟩]) (n + 2)) (fun z32 => JR n (⟨147, [], [(6, .ref n 0), (7, .val (.int .i64 7))]⟩ : Env) (Z3 O n [some ⟨false, 91, 10, 1, [.val (.int .i64 0), .val (.int .i64 0), .val (.int .i64 0), .val (.int .i64 0), .val (.int .i64 0), .val (.int .i64 0), .val (.int .i64 0), .val (.bool false), .val (.int .i64 0), .val (.int .i64 0)]⟩, none]) (n + 2)))) (z := z32) ?_ fun hw => ?_
 ·refine Zp [0, 1, 2, 6, 8, 110] (Zb Zc [] ?_)
  simp only [push_cast, seval, ↓reduceIte, Za, hN0, hN]
  refine Zr (t := (y8.Kind == 3)) rfl (fun c39 => ?_) (fun c39 => ?_)
  ·replace hz32 := Zv c39 hz32
   refine Zp [0, 1, 6, 8] (Zb Zc [] ?_)
   simp only [push_cast, seval, ↓reduceIte, Za, hN0, hN]
   refine Zp [0, 1, 2, 6, 8] (Zb Zc [] ?_)
   simp only [push_cast, seval, ↓reduceIte, Za, hN0, hN]
   refine Zg ?_
   refine Zg ?_
   obtain ⟨y34, hy34, hz32⟩ := bC hz32
   refine Zb Zc [] ?_
   simp only [push_cast, seval, ↓reduceIte, Za, hN0, hN]
   refine (Jb hy34).then ?_
   simp only [push_cast, seval, ↓reduceIte, Za, hN0, hN]
   refine Zf [0, 1, 2, 6, 8, 119] [true, true] ?_
   simp only [push_cast, seval, ↓reduceIte]
   refine Zr (t := (!y34)) rfl (fun c38 => ?_) (fun c38 => ?_)
   ·replace hz32 := Zv c38 hz32
    refine Zg ?_
    refine Zb Zc [] ?_
    simp only [push_cast, seval, ↓reduceIte, Za, hN0, hN]
    refine Zf [6, 7] [true, false] ?_
    simp only [push_cast, seval, ↓reduceIte]
    refine Zt ?_
    try simp only [Zi, Ze]
    have hz32 := Option.some.inj hz32; subst hz32
    refine And.intro rfl (Fit2.of (Zs hU rfl rfl ?_) (by omega))
    simp only [push_cast, seval, ↓reduceIte, Za, hN0, hN]
   replace hz32 := Zu c38 hz32
   refine Zx ?_
   try simp only [Zi, Ze]
   refine Zf [0, 1, 2, 6, 8] [true, true] ?_
   simp only [push_cast, seval, ↓reduceIte]
   obtain ⟨x35, hx35, ax35, bx35, cx35, hz32⟩ := bE (f := (eL (eI .u64))) Gn (fun _ => rfl) (by decide) hz32
   obtain ⟨x36, hx36, ax36, bx36, cx36, hz32⟩ := bE (f := (eI .u64)) Gm (fun _ => rfl) (by decide) hz32
   obtain ⟨y37, hy37, hz32⟩ := bC hz32
   refine Zb Zc [] ?_
   simp only [push_cast, Nat.reduceAdd, Nat.reduceSub, Nat.reduceMul, Nat.reduceLeDiff, Nat.reduceLT, Nat.reduceEqDiff, ↓reduceIte, reduceCtorEq, Int.reduceBEq, Int.reduceBNe, Nat.reduceBEq, Int.reduceLE, Int.reduceLT, Int.reduceEq, Int.reduceNe, Int.reduceNeg, Nat.reduceDiv, Nat.reduceMod, Nat.reducePow, Za, ax35, bx35, cx35, ax36, bx36, cx36, hN0, hN]
   refine (Xc hy37).then ?_
   simp only [push_cast, Nat.reduceAdd, Nat.reduceSub, Nat.reduceMul, Nat.reduceLeDiff, Nat.reduceLT, Nat.reduceEqDiff, ↓reduceIte, reduceCtorEq, Int.reduceBEq, Int.reduceBNe, Nat.reduceBEq, Int.reduceLE, Int.reduceLT, Int.reduceEq, Int.reduceNe, Int.reduceNeg, Nat.reduceDiv, Nat.reduceMod, Nat.reducePow, Za, ax35, bx35, cx35, ax36, bx36, cx36, hN0, hN]
   have hz32 := Option.some.inj hz32; subst hz32
   refine And.intro rfl (Fit2.of (Zs hU rfl rfl ?_) (by omega))
   simp only [push_cast, Nat.reduceAdd, Nat.reduceSub, Nat.reduceMul, Nat.reduceLeDiff, Nat.reduceLT, Nat.reduceEqDiff, ↓reduceIte, reduceCtorEq, Int.reduceBEq, Int.reduceBNe, Nat.reduceBEq, Int.reduceLE, Int.reduceLT, Int.reduceEq, Int.reduceNe, Int.reduceNeg, Nat.reduceDiv, Nat.reduceMod, Nat.reducePow, Za, ax35, bx35, cx35, ax36, bx36, cx36, hN0, hN]
  replace hz32 := Zu c39 hz32
  refine Zx ?_
  try simp only [Zi, Ze]
  have hz32 := Option.some.inj hz32; subst hz32
  refine And.intro rfl (Fit2.of (Zs hU rfl rfl ?_) (by omega))
  simp only [push_cast, seval, ↓reduceIte, Za, hN0, hN]
 rcases z32 with z32 | z32
 ·dsimp only [U2] at hw h
  refine Qt hw ?_
  refine Zg ?_
  obtain ⟨y41, hy41, h⟩ := bC h
  refine Zb Zc [] ?_
  simp only [push_cast, seval, ↓reduceIte, Za, hN0, hN]
  refine (Gj hy41).then ?_
  simp only [push_cast, seval, ↓reduceIte, Za, hN0, hN]
  refine Zf [0, 1, 2, 6, 8, 12] [true, true] ?_
  simp only [push_cast, seval, ↓reduceIte]
  refine Zg ?_
  refine Zp [0, 1, 2, 6, 8, 12, 132] (Zb Zc [] ?_)
  simp only [push_cast, seval, ↓reduceIte, Za, hN0, hN]
  refine Zr (t := (y41 != 0)) rfl (fun c44 => ?_) (fun c44 => ?_)
  ·replace h := Zv c44 h
   refine Zg ?_
   refine Zb Zc [] ?_
   simp only [push_cast, seval, ↓reduceIte, Za, hN0, hN]
   refine Zf [6, 7] [true, false] ?_
   simp only [push_cast, seval, ↓reduceIte]
   refine Zt ?_
   try simp only [Zi, Ze]
   have h := Option.some.inj h; subst h
   refine Zl (.inr rfl) hU [.agg [.val (.int .i64 0), .val (.int .i64 0), .val (.int .i64 0), .val (.int .i64 0), .val (.int .i64 0), .val (.int .i64 0), .val (.int .i64 0), .val (.bool false), .val (.int .i64 0), .val (.int .i64 0)], .val (.int .i64 y41)] (by omega) ?_
   simp only [push_cast, seval, ↓reduceIte, Za, Try.results50, hN0, hN]
  replace h := Zu c44 h
  refine Zx ?_
  try simp only [Zi, Ze]
  refine Zf [0, 1, 2, 6, 8] [true, true] ?_
  simp only [push_cast, seval, ↓reduceIte]
  refine Zg ?_
  obtain ⟨y43, hy43, h⟩ := bC h
  refine Zb Zc [] ?_
  simp only [push_cast, seval, ↓reduceIte, Za, hN0, hN]
  refine (Gk hy43).then ?_
  simp only [push_cast, seval, ↓reduceIte, Za, hN0, hN]
  refine Zf [6, 7] [true, false] ?_
  simp only [push_cast, seval, ↓reduceIte]
  refine Zt ?_
  try simp only [Zi, Ze]
  have h := Option.some.inj h; subst h
  refine Zl (.inr rfl) hU [.agg [.val (.int .i64 y43.1.P.Kind), .val (.int .i64 y43.1.P.Off), .val (.int .i64 y43.1.P.Data), .val (.int .i64 y43.1.P.Ptrs), .val (.int .i64 y43.1.P.Code), .val (.int .i64 y43.1.P.Count), .val (.int .i64 y43.1.P.Segment), .val (.bool y43.1.P.Double), .val (.int .i64 y43.1.Segment), .val (.int .i64 y43.1.At)], .val (.int .i64 y43.2)] (by omega) ?_
  simp only [push_cast, seval, ↓reduceIte, Za, Try.results50, hN0, hN]
 dsimp only [U2] at hw h
 refine Zto hw ?_
 try simp only [Zi, Ze]
 have h := Option.some.inj h; subst h
 refine Zl (.inr rfl) hU [.agg [.val (.int .i64 0), .val (.int .i64 0), .val (.int .i64 0), .val (.int .i64 0), .val (.int .i64 0), .val (.int .i64 0), .val (.int .i64 0), .val (.bool false), .val (.int .i64 0), .val (.int .i64 0)], .val (.int .i64 7)] (by omega) ?_
 simp only [push_cast, seval, ↓reduceIte, Za, Try.results50, hN0, hN]
theorem Ur {a0 : (List (List Int))} {a1 : Int} {a2 : Int} {r : (Zn × Int)} {O : Objs} {n : Nat} (h : Qk a0 a1 a2 = some r) : GTo Try.prog 17 [.sl a0.length (fl (eL (eI .u64)) a0), .val (.int .i64 a1), .val (.int .i64 a2)] O n (.tup [.agg (Zo r.1), .val (.int .i64 r.2)]) O n := by
 unfold Qk at h
 refine Yl Zc Try.call17 Try.func17 rfl (Nat.le_of_ble_eq_true rfl) (Nat.le_refl _) fun hU => ?_
 have hN0 : O n = none := hU.fresh _ (Nat.le_refl _)
 have hN : ∀ k, O (n + k) = none := fun k => hU.fresh _ (Nat.le_add_right _ _)
 show W _ _ _ _ ⟨110, [], [(0, .sl a0.length (fl (eL (eI .u64)) a0)), (1, .val (.int .i64 a1)), (2, .val (.int .i64 a2))]⟩ (Z3 O n []) _
 refine Zp [0, 1, 2, 6] (Zb Zc [] ?_)
 simp only [push_cast, seval, ↓reduceIte, Za, hN0, hN]
 refine Zg ?_
 obtain ⟨y2, hy2, h⟩ := bC h
 refine Zb Zc [] ?_
 simp only [push_cast, seval, ↓reduceIte, Za, hN0, hN]
 refine (Zcw hy2).then ?_
 simp only [push_cast, seval, ↓reduceIte, Za, hN0, hN]
 refine Zf [0, 6, 8, 9] [true, true] ?_
 simp only [push_cast, seval, ↓reduceIte]
 refine Zg ?_
 refine Zp [0, 6, 8, 9, 26] (Zb Zc [none, none, none, none] ?_)
 simp only [push_cast, seval, ↓reduceIte, Za, hN0, hN]
 repeat (with_reducible refine And.intro (by first | (intro h0; simp only [h0, and_self]; done) | (intro h0; simp only [h0, Bool.not_false, Bool.not_true, Bool.true_and, Bool.and_true, true_and, and_true, and_self, imp_self, implies_true, bne_iff_ne, ne_eq, beq_iff_eq]; done) | (intros; simp_all; done) | exact True.intro) ?_)
 refine Zr (t := (cond (y2.2 != 0) true (y2.1.P.Kind == 0))) rfl (fun c12 => ?_) (fun c12 => ?_)
 ·replace h := Zv c12 h
  refine Zg ?_
  refine Zb Zc [] ?_
  simp only [push_cast, seval, ↓reduceIte, Za, hN0, hN]
  refine Zf [6, 7] [true, false] ?_
  simp only [push_cast, seval, ↓reduceIte]
  refine Zt ?_
  try simp only [Zi, Ze]
  have h := Option.some.inj h; subst h
  refine Zl (.inr rfl) hU [.agg [.val (.int .i64 0), .val (.int .i64 0), .val (.int .i64 0), .val (.int .i64 0), .val (.int .i64 0), .val (.int .i64 0), .val (.int .u64 0)], .val (.int .i64 y2.2)] (by omega) ?_
  simp only [push_cast, seval, ↓reduceIte, Za, Try.results17, hN0, hN]
 replace h := Zu c12 h
 refine Zx ?_
 try simp only [Zi, Ze]
 refine Zf [0, 6, 8] [true, true] ?_
 simp only [push_cast, seval, ↓reduceIte]
 refine Zg ?_
 refine Zp [0, 6, 8, 32] (Zb Zc [] ?_)
 simp only [push_cast, seval, ↓reduceIte, Za, hN0, hN]
 refine Zr (t := (y2.1.P.Kind == 1)) rfl (fun c11 => ?_) (fun c11 => ?_)
 ·replace h := Zv c11 h
  refine Zg ?_
  refine Zb Zc [] ?_
  simp only [push_cast, seval, ↓reduceIte, Za, hN0, hN]
  refine Zf [6, 7] [true, false] ?_
  simp only [push_cast, seval, ↓reduceIte]
  refine Zt ?_
  try simp only [Zi, Ze]
  have h := Option.some.inj h; subst h
  refine Zl (.inr rfl) hU [.agg [.val (.int .i64 1), .val (.int .i64 y2.1.Segment), .val (.int .i64 y2.1.At), .val (.int .i64 y2.1.P.Data), .val (.int .i64 y2.1.P.Ptrs), .val (.int .i64 0), .val (.int .u64 0)], .val (.int .i64 0)] (by omega) ?_
  simp only [push_cast, seval, ↓reduceIte, Za, Try.results17, hN0, hN]
 replace h := Zu c11 h
 refine Zx ?_
 try simp only [Zi, Ze]
 refine Zf [0, 6, 8] [true, true] ?_
 simp only [push_cast, seval, ↓reduceIte]
 refine Zg ?_
 refine Zp [0, 6, 8, 47] (Zb Zc [] ?_)
 simp only [push_cast, seval, ↓reduceIte, Za, hN0, hN]
 refine Zr (t := (decide (y2.1.P.Code < 7))) rfl (fun c10 => ?_) (fun c10 => ?_)
 ·replace h := Zv c10 h
  refine Zg ?_
  refine Zb Zc [] ?_
  simp only [push_cast, seval, ↓reduceIte, Za, hN0, hN]
  refine Zf [6, 7] [true, false] ?_
  simp only [push_cast, seval, ↓reduceIte]
  refine Zt ?_
  try simp only [Zi, Ze]
  have h := Option.some.inj h; subst h
  refine Zl (.inr rfl) hU [.agg [.val (.int .i64 (IntKind.i64.wrap (2 + y2.1.P.Code))), .val (.int .i64 y2.1.Segment), .val (.int .i64 y2.1.At), .val (.int .i64 0), .val (.int .i64 0), .val (.int .i64 y2.1.P.Count), .val (.int .u64 0)], .val (.int .i64 0)] (by omega) ?_
  simp only [push_cast, seval, ↓reduceIte, Za, Try.results17, hN0, hN]
 replace h := Zu c10 h
 refine Zx ?_
 try simp only [Zi, Ze]
 refine Zf [0, 6, 8] [true, true] ?_
 simp only [push_cast, seval, ↓reduceIte]
 obtain ⟨x5, hx5, ax5, bx5, cx5, h⟩ := bE (f := (eL (eI .u64))) Gn (fun _ => rfl) (by decide) h
 obtain ⟨x6, hx6, ax6, bx6, cx6, h⟩ := bE (f := (eI .u64)) Gm (fun _ => rfl) (by decide) h
 refine Zp [6, 8, 10] (Ku Zc (by kernel_rfl) [] (by kernel_rfl) ?_)
 simp only [push_cast, Nat.reduceAdd, Nat.reduceSub, Nat.reduceMul, Nat.reduceLeDiff, Nat.reduceLT, Nat.reduceEqDiff, ↓reduceIte, reduceCtorEq, Int.reduceBEq, Int.reduceBNe, Nat.reduceBEq, Int.reduceLE, Int.reduceLT, Int.reduceEq, Int.reduceNe, Int.reduceNeg, Nat.reduceDiv, Nat.reduceMod, Nat.reducePow, Za, ax5, bx5, cx5, ax6, bx6, cx6, hN0, hN]
 refine Zg ?_
 obtain ⟨y8, hy8, h⟩ := bC h
 refine Zb Zc [] ?_
 simp only [push_cast, seval, ↓reduceIte, Za, hN0, hN]
 refine (Xc hy8).then ?_
 simp only [push_cast, seval, ↓reduceIte, Za, hN0, hN]
 refine Zf [6, 8, 10, 11] [true, true, true] ?_
 simp only [push_cast, seval, ↓reduceIte]
 refine Zg ?_
 refine Zp [6, 8, 11, 96] (Zb Zc [none, none, none, none, none, none, none, none, none, none, none, none, none, none, none, none, none, none] ?_)
 simp only [push_cast, seval, ↓reduceIte, Za, hN0, hN]
 repeat (with_reducible refine And.intro (by first | (intro h0; simp only [h0, and_self]; done) | (intro h0; simp only [h0, Bool.not_false, Bool.not_true, Bool.true_and, Bool.and_true, true_and, and_true, and_self, imp_self, implies_true, bne_iff_ne, ne_eq, beq_iff_eq]; done) | (intros; simp_all; done) | exact True.intro) ?_)
 refine Zr (t := (cond (cond (cond (x6 != 0) (y8.Kind != 1) false) true (decide (y8.Off < 0))) true (decide (y2.1.P.Count < (IntKind.i64.wrap (y8.Off * (IntKind.i64.wrap (y8.Data + y8.Ptrs)))))))) rfl (fun c9 => ?_) (fun c9 => ?_)
 ·replace h := Zv c9 h
  refine Zg ?_
  refine Zb Zc [] ?_
  simp only [push_cast, seval, ↓reduceIte, Za, hN0, hN]
  refine Zf [6, 7] [true, false, false] ?_
  simp only [push_cast, seval, ↓reduceIte]
  refine Zt ?_
  try simp only [Zi, Ze]
  have h := Option.some.inj h; subst h
  refine Zl (.inr rfl) hU [.agg [.val (.int .i64 0), .val (.int .i64 0), .val (.int .i64 0), .val (.int .i64 0), .val (.int .i64 0), .val (.int .i64 0), .val (.int .u64 0)], .val (.int .i64 8)] (by omega) ?_
  simp only [push_cast, seval, ↓reduceIte, Za, Try.results17, hN0, hN]
 replace h := Zu c9 h
 refine Zx ?_
 try simp only [Zi, Ze]
 refine Zf [6, 8, 11] [true, true, true] ?_
 simp only [push_cast, seval, ↓reduceIte]
 refine Zg ?_
 refine Zb Zc [] ?_
 simp only [push_cast, seval, ↓reduceIte, Za, hN0, hN]
 refine Zf [6, 7] [true, false, false] ?_
 simp only [push_cast, seval, ↓reduceIte]
 refine Zt ?_
 try simp only [Zi, Ze]
 have h := Option.some.inj h; subst h
 refine Zl (.inr rfl) hU [.agg [.val (.int .i64 9), .val (.int .i64 y2.1.Segment), .val (.int .i64 (IntKind.i64.wrap (y2.1.At + 1))), .val (.int .i64 y8.Data), .val (.int .i64 y8.Ptrs), .val (.int .i64 y8.Off), .val (.int .u64 0)], .val (.int .i64 0)] (by omega) ?_
 simp only [push_cast, seval, ↓reduceIte, Za, Try.results17, hN0, hN]
theorem Xr {a0 : Zn} {a1 : (List (List Int))} {r : (List Int)} {O : Objs} {n : Nat} (h : Yx a0 a1 = some r) : GTo Try.prog 52 [.agg (Zo a0), .sl a1.length (fl (eL (eI .u64)) a1)] O n (.sl r.length (fl (eI .u64) r)) O n := by
 unfold Yx at h
 refine Yl Zc Try.call52 Try.func52 rfl (Nat.le_of_ble_eq_true rfl) (Nat.le_refl _) fun hU => ?_
 have hN0 : O n = none := hU.fresh _ (Nat.le_refl _)
 have hN : ∀ k, O (n + k) = none := fun k => hU.fresh _ (Nat.le_add_right _ _)
 show W _ _ _ _ ⟨30, [], [(0, .agg (Zo a0)), (1, .sl a1.length (fl (eL (eI .u64)) a1))]⟩ (Z3 O n []) _
 refine Zp [1, 2] (Zb Zc [] ?_)
 simp only [push_cast, seval, ↓reduceIte, Za, hN0, hN]
 refine Zg ?_
 refine Zp [1, 2, 8] (Zb Zc [] ?_)
 simp only [push_cast, seval, ↓reduceIte, Za, hN0, hN]
 refine Zr (t := (a0.Kind == 10)) rfl (fun c8 => ?_) (fun c8 => ?_)
 ·replace h := Zv c8 h
  refine Zg ?_
  refine Zb Zc [] ?_
  simp only [push_cast, seval, ↓reduceIte, Za, hN0, hN]
  refine Zkz ⟨30, [], [(4, .row (n + 1) ([a0.N] : List Int).length)]⟩ (Z3 O n [none, some ⟨true, 31, 1, ([a0.N] : List Int).length, fl (eI .u64) ([a0.N] : List Int)⟩]) (Zs hU rfl rfl ?_) ?_
  ·simp only [push_cast, seval, ↓reduceIte, Za, hN0, hN]
  refine Zt ?_
  try simp only [Zi, Ze]
  have h := Option.some.inj h; subst h
  refine Zl (.inr rfl) hU [.row (n + 1) ([a0.N] : List Int).length] (by omega) ?_
  simp only [push_cast, seval, ↓reduceIte, Za, Try.results52, hN0, hN]
 replace h := Zu c8 h
 refine Zx ?_
 try simp only [Zi, Ze]
 refine Zf [1, 2] [true] ?_
 simp only [push_cast, seval, ↓reduceIte]
 refine Zg ?_
 refine Zp [1, 2, 14] (Zb Zc [] ?_)
 simp only [push_cast, seval, ↓reduceIte, Za, hN0, hN]
 refine Zr (t := (a0.Kind != 1)) rfl (fun c7 => ?_) (fun c7 => ?_)
 ·replace h := Zv c7 h
  refine Zp [4] (Zb Zc [] ?_)
  simp only [push_cast, seval, ↓reduceIte, Za, hN0, hN]
  refine Zt ?_
  try simp only [Zi, Ze]
  have h := Option.some.inj h; subst h
  refine Zl (.inr rfl) hU [.val (.slice none 0 0)] (by omega) ?_
  simp only [push_cast, seval, ↓reduceIte, Za, Try.results52, hN0, hN]
 replace h := Zu c7 h
 refine Zx ?_
 try simp only [Zi, Ze]
 refine Zf [1, 2] [true] ?_
 simp only [push_cast, seval, ↓reduceIte]
 refine Zp [1, 2, 5] (Zb Zc [] ?_)
 simp only [push_cast, seval, ↓reduceIte, Za, hN0, hN]
 refine Zg ?_
 obtain ⟨x4, hx4, ax4, bx4, cx4, h⟩ := bE (f := (eL (eI .u64))) Gn (fun _ => rfl) (by decide) h
 obtain ⟨l5, al5, bl5, cl5, gl5, h⟩ := bS (lo := (some (.i64, a0.At))) (hi := (some (.i64, (IntKind.i64.wrap (a0.At + a0.Data))))) (f := (eI .u64)) rfl rfl Zdv Gm (fun _ => rfl) h
 obtain ⟨l6, pl6, ql6, el6, h⟩ := bA0 (k := l5.length) rfl h
 refine Zlm Zc (by kernel_rfl) [false, false, false, false, false, false, false, false, false, false, false, false, false, false, true, false] [] (by kernel_rfl) ?_
 simp only [push_cast, Nat.reduceAdd, Nat.reduceSub, Nat.reduceMul, Nat.reduceLeDiff, Nat.reduceLT, Nat.reduceEqDiff, ↓reduceIte, reduceCtorEq, Int.reduceBEq, Int.reduceBNe, Nat.reduceBEq, Int.reduceLE, Int.reduceLT, Int.reduceEq, Int.reduceNe, Int.reduceNeg, Nat.reduceDiv, Nat.reduceMod, Nat.reducePow, Za, ax4, bx4, cx4, al5, bl5, cl5, gl5, pl6, ql6, el6, hN0, hN]
 refine Zkz ⟨30, [], [(4, .row (n + 1) l6.length)]⟩ (Z3 O n [none, some ⟨true, 31, 1, l6.length, fl (eI .u64) l6⟩]) (Zs hU rfl rfl ?_) ?_
 ·simp only [push_cast, Nat.reduceAdd, Nat.reduceSub, Nat.reduceMul, Nat.reduceLeDiff, Nat.reduceLT, Nat.reduceEqDiff, ↓reduceIte, reduceCtorEq, Int.reduceBEq, Int.reduceBNe, Nat.reduceBEq, Int.reduceLE, Int.reduceLT, Int.reduceEq, Int.reduceNe, Int.reduceNeg, Nat.reduceDiv, Nat.reduceMod, Nat.reducePow, Za, ax4, bx4, cx4, al5, bl5, cl5, gl5, pl6, ql6, el6, hN0, hN]
 refine Zt ?_
 try simp only [Zi, Ze]
 have h := Option.some.inj h; subst h
 refine Zl (.inr rfl) hU [.row (n + 1) l6.length] (by omega) ?_
 simp only [push_cast, seval, ↓reduceIte, Za, Try.results52, hN0, hN]
theorem J3 {a0 : Zn} {r : Int} {O : Objs} {n : Nat} (h : Y4 a0 = some r) : GTo Try.prog 19 [.agg (Zo a0)] O n (.val (.int .i64 r)) O n := by
 unfold Y4 at h
 refine Yl Zc Try.call19 Try.func19 rfl (Nat.le_of_ble_eq_true rfl) (Nat.le_refl _) fun hU => ?_
 have hN0 : O n = none := hU.fresh _ (Nat.le_refl _)
 have hN : ∀ k, O (n + k) = none := fun k => hU.fresh _ (Nat.le_add_right _ _)
 show W _ _ _ _ ⟨10, [], [(0, .agg (Zo a0))]⟩ (Z3 O n []) _
 refine Zp [1] (Zb Zc [] ?_)
 simp only [push_cast, seval, ↓reduceIte, Za, hN0, hN]
 refine Zg ?_
 refine Zp [1, 5] (Zb Zc [] ?_)
 simp only [push_cast, seval, ↓reduceIte, Za, hN0, hN]
 refine Zr (t := (a0.Kind == 1)) rfl (fun c1 => ?_) (fun c1 => ?_)
 ·replace h := Zv c1 h
  refine Zp [2] (Zb Zc [] ?_)
  simp only [push_cast, seval, ↓reduceIte, Za, hN0, hN]
  refine Zt ?_
  try simp only [Zi, Ze]
  have h := Option.some.inj h; subst h
  refine Zl (.inr rfl) hU [.val (.int .i64 a0.Ptrs)] (by omega) ?_
  simp only [push_cast, seval, ↓reduceIte, Za, Try.results19, hN0, hN]
 replace h := Zu c1 h
 refine Zx ?_
 try simp only [Zi, Ze]
 refine Zf [1] [true] ?_
 simp only [push_cast, seval, ↓reduceIte]
 refine Zp [2] (Zb Zc [] ?_)
 simp only [push_cast, seval, ↓reduceIte, Za, hN0, hN]
 refine Zt ?_
 try simp only [Zi, Ze]
 have h := Option.some.inj h; subst h
 refine Zl (.inr rfl) hU [.val (.int .i64 a0.Count)] (by omega) ?_
 simp only [push_cast, seval, ↓reduceIte, Za, Try.results19, hN0, hN]
theorem Zdz {a0 : Int} {r : Int} {O : Objs} {n : Nat} (h : Qy a0 = some r) : GTo Try.prog 56 [.val (.int .i64 a0)] O n (.val (.int .i64 r)) O n := by
 unfold Qy at h
 refine Yl Zc Try.call56 Try.func56 rfl (Nat.le_of_ble_eq_true rfl) (Nat.le_refl _) fun hU => ?_
 have hN0 : O n = none := hU.fresh _ (Nat.le_refl _)
 have hN : ∀ k, O (n + k) = none := fun k => hU.fresh _ (Nat.le_add_right _ _)
 show W _ _ _ _ ⟨16, [], [(0, .val (.int .i64 a0))]⟩ (Z3 O n []) _
 refine Zp [0] (Zb Zc [] ?_)
 simp only [push_cast, seval, ↓reduceIte, Za, hN0, hN]
 refine Zg ?_
 refine Zp [3] (Zb Zc [] ?_)
 simp only [push_cast, seval, ↓reduceIte, Za, hN0, hN]
 refine X7 ?_
 refine Zp [3, 4] (Zb Zc [] ?_)
 simp only [push_cast, seval, ↓reduceIte, Za, hN0, hN]
 refine Zr (t := (a0 == 0)) rfl (fun c6 => ?_) (fun c6 => ?_)
 ·replace h := Zv c6 h
  refine Zp [2] (Zb Zc [] ?_)
  simp only [push_cast, seval, ↓reduceIte, Za, hN0, hN]
  refine Zt ?_
  try simp only [Zi, Ze]
  have h := Option.some.inj h; subst h
  refine Zl (.inr rfl) hU [.val (.int .i64 0)] (by omega) ?_
  simp only [push_cast, seval, ↓reduceIte, Za, Try.results56, hN0, hN]
 replace h := Zu c6 h
 refine Zp [3, 6] (Zb Zc [] ?_)
 simp only [push_cast, seval, ↓reduceIte, Za, hN0, hN]
 refine Zr (t := (a0 == 1)) rfl (fun c5 => ?_) (fun c5 => ?_)
 ·replace h := Zv c5 h
  refine Zp [2] (Zb Zc [] ?_)
  simp only [push_cast, seval, ↓reduceIte, Za, hN0, hN]
  refine Zt ?_
  try simp only [Zi, Ze]
  have h := Option.some.inj h; subst h
  refine Zl (.inr rfl) hU [.val (.int .i64 1)] (by omega) ?_
  simp only [push_cast, seval, ↓reduceIte, Za, Try.results56, hN0, hN]
 replace h := Zu c5 h
 refine Zp [3, 8] (Zb Zc [] ?_)
 simp only [push_cast, seval, ↓reduceIte, Za, hN0, hN]
 refine Zr (t := (a0 == 2)) rfl (fun c4 => ?_) (fun c4 => ?_)
 ·replace h := Zv c4 h
  refine Zp [2] (Zb Zc [] ?_)
  simp only [push_cast, seval, ↓reduceIte, Za, hN0, hN]
  refine Zt ?_
  try simp only [Zi, Ze]
  have h := Option.some.inj h; subst h
  refine Zl (.inr rfl) hU [.val (.int .i64 8)] (by omega) ?_
  simp only [push_cast, seval, ↓reduceIte, Za, Try.results56, hN0, hN]
 replace h := Zu c4 h
 refine Zp [3, 10] (Zb Zc [] ?_)
 simp only [push_cast, seval, ↓reduceIte, Za, hN0, hN]
 refine Zr (t := (a0 == 3)) rfl (fun c3 => ?_) (fun c3 => ?_)
 ·replace h := Zv c3 h
  refine Zp [2] (Zb Zc [] ?_)
  simp only [push_cast, seval, ↓reduceIte, Za, hN0, hN]
  refine Zt ?_
  try simp only [Zi, Ze]
  have h := Option.some.inj h; subst h
  refine Zl (.inr rfl) hU [.val (.int .i64 16)] (by omega) ?_
  simp only [push_cast, seval, ↓reduceIte, Za, Try.results56, hN0, hN]
 replace h := Zu c3 h
 refine Zp [3, 12] (Zb Zc [] ?_)
 simp only [push_cast, seval, ↓reduceIte, Za, hN0, hN]
 refine Zr (t := (a0 == 4)) rfl (fun c2 => ?_) (fun c2 => ?_)
 ·replace h := Zv c2 h
  refine Zp [2] (Zb Zc [] ?_)
  simp only [push_cast, seval, ↓reduceIte, Za, hN0, hN]
  refine Zt ?_
  try simp only [Zi, Ze]
  have h := Option.some.inj h; subst h
  refine Zl (.inr rfl) hU [.val (.int .i64 32)] (by omega) ?_
  simp only [push_cast, seval, ↓reduceIte, Za, Try.results56, hN0, hN]
 replace h := Zu c2 h
 refine Zp [14] (Zb Zc [] ?_)
 simp only [push_cast, seval, ↓reduceIte, Za, hN0, hN]
 refine Zr (t := (a0 == 5)) rfl (fun c1 => ?_) (fun c1 => ?_)
 ·replace h := Zv c1 h
  refine Zp [2] (Zb Zc [] ?_)
  simp only [push_cast, seval, ↓reduceIte, Za, hN0, hN]
  refine Zt ?_
  try simp only [Zi, Ze]
  have h := Option.some.inj h; subst h
  refine Zl (.inr rfl) hU [.val (.int .i64 64)] (by omega) ?_
  simp only [push_cast, seval, ↓reduceIte, Za, Try.results56, hN0, hN]
 replace h := Zu c1 h
 refine Zx ?_
 try simp only [Zi, Ze]
 refine Zf [] [] ?_
 simp only [push_cast, seval, ↓reduceIte]
 refine Zp [2] (Zb Zc [] ?_)
 simp only [push_cast, seval, ↓reduceIte, Za, hN0, hN]
 refine Zt ?_
 try simp only [Zi, Ze]
 have h := Option.some.inj h; subst h
 refine Zl (.inr rfl) hU [.val (.int .i64 (-1))] (by omega) ?_
 simp only [push_cast, seval, ↓reduceIte, Za, Try.results56, hN0, hN]
theorem Zfw {a0 : (List Int)} {a1 : Int} {r : Int} {O : Objs} {n : Nat} (h : Jm a0 a1 = some r) : GTo Try.prog 79 [.sl a0.length (fl (eI .u64) a0), .val (.int .i64 a1)] O n (.val (.int .u64 r)) O n := by
 unfold Jm at h
 refine Yl Zc Try.call79 Try.func79 rfl (Nat.le_of_ble_eq_true rfl) (Nat.le_refl _) fun hU => ?_
 have hN0 : O n = none := hU.fresh _ (Nat.le_refl _)
 have hN : ∀ k, O (n + k) = none := fun k => hU.fresh _ (Nat.le_add_right _ _)
 show W _ _ _ _ ⟨31, [], [(0, .sl a0.length (fl (eI .u64) a0)), (1, .val (.int .i64 a1))]⟩ (Z3 O n []) _
 refine Zp [0, 1] (Zb Zc [] ?_)
 simp only [push_cast, seval, ↓reduceIte, Za, hN0, hN]
 refine Zg ?_
 refine Zp [0, 1, 15] (Zb Zc [none, none, none, none, none] ?_)
 simp only [push_cast, seval, ↓reduceIte, Za, hN0, hN]
 repeat (with_reducible refine And.intro (by first | (intro h0; simp only [h0, and_self]; done) | (intro h0; simp only [h0, Bool.not_false, Bool.not_true, Bool.true_and, Bool.and_true, true_and, and_true, and_self, imp_self, implies_true, bne_iff_ne, ne_eq, beq_iff_eq]; done) | (intros; simp_all; done) | exact True.intro) ?_)
 refine Zr (t := (cond (decide (a1 < 0)) true (decide ((a0.length : Int) ≤ (IntKind.i64.wrap (Int.tdiv a1 64)))))) rfl (fun c5 => ?_) (fun c5 => ?_)
 ·replace h := Zv c5 h
  refine Zp [4] (Zb Zc [] ?_)
  simp only [push_cast, seval, ↓reduceIte, Za, hN0, hN]
  refine Zt ?_
  try simp only [Zi, Ze]
  have h := Option.some.inj h; subst h
  refine Zl (.inr rfl) hU [.val (.int .u64 0)] (by omega) ?_
  simp only [push_cast, seval, ↓reduceIte, Za, Try.results79, hN0, hN]
 replace h := Zu c5 h
 refine Zx ?_
 try simp only [Zi, Ze]
 refine Zf [0, 1] [] ?_
 simp only [push_cast, seval, ↓reduceIte]
 obtain ⟨x2, hx2, ax2, bx2, cx2, h⟩ := bE (f := (eI .u64)) Gm (fun _ => rfl) (by decide) h
 refine Zp [1, 5] (Zb Zc [] ?_)
 simp only [push_cast, Nat.reduceAdd, Nat.reduceSub, Nat.reduceMul, Nat.reduceLeDiff, Nat.reduceLT, Nat.reduceEqDiff, ↓reduceIte, reduceCtorEq, Int.reduceBEq, Int.reduceBNe, Nat.reduceBEq, Int.reduceLE, Int.reduceLT, Int.reduceEq, Int.reduceNe, Int.reduceNeg, Nat.reduceDiv, Nat.reduceMod, Nat.reducePow, Za, ax2, bx2, cx2, hN0, hN]
 refine Zg ?_
 refine Zp [1, 5, 6] (Zb Zc [] ?_)
 simp only [push_cast, seval, ↓reduceIte, Za, hN0, hN]
 refine Zf [1, 5, 6] [] ?_
 simp only [push_cast, seval, ↓reduceIte]
 obtain ⟨z4, hz4, h⟩ := bC h
 refine Ki (E' := ⟨31, [], [(5, .val (.int .u64 z4))]⟩) (O' := (Z3 O n [])) (n0 := n) ?_ ?_
 ·refine Vz hz4 (fun s0_ => ⟨31, [], [(1, .val (.int .i64 a1)), (5, .val (.int .u64 s0_.1)), (6, .val (.int .i64 s0_.2))]⟩) (fun s0_ => (Z3 O n [])) (fun z4 => JX 0 n (⟨31, [], [(5, .val (.int .u64 z4))]⟩ : Env) (Z3 O n []) n) ?_
  intro s0_ x0_ hs0_
  unfold X4 at hs0_
  try dsimp only
  refine Zg ?_
  refine Zp [1, 5, 6, 24] (Zb Zc [] ?_)
  simp only [push_cast, seval, ↓reduceIte, Za, hN0, hN]
  refine Zr (t := (decide (s0_.2 < (Int.tmod a1 64)))) rfl (fun c3 => ?_) (fun c3 => ?_)
  ·replace hs0_ := Zv c3 hs0_
   refine Zx ?_
   try simp only [Zi, Ze]
   refine Zf [1, 5, 6] [] ?_
   simp only [push_cast, seval, ↓reduceIte]
   refine Zg ?_
   refine X7 ?_
   refine Zb Zc [] ?_
   simp only [push_cast, seval, ↓reduceIte, Za, hN0, hN]
   refine Zf [1, 5, 6] [] ?_
   simp only [push_cast, seval, ↓reduceIte]
   refine Zb Zc [] ?_
   simp only [push_cast, seval, ↓reduceIte, Za, hN0, hN]
   have hs0_ := Option.some.inj hs0_; subst hs0_
   refine And.intro rfl (Fit2.of (Zs hU rfl rfl ?_) (by omega))
   simp only [push_cast, seval, ↓reduceIte, Za, hN0, hN]
  replace hs0_ := Zu c3 hs0_
  refine Gy ?_
  try simp only [Zi, Ze, ↓reduceIte, Nat.reduceEqDiff]
  have hs0_ := Option.some.inj hs0_; subst hs0_
  refine And.intro (fun h => by cases h) (And.intro rfl (Fit2.of (Zs hU rfl rfl ?_) (by omega)))
  simp only [push_cast, seval, ↓reduceIte, Za, hN0, hN]
 try simp only [Zi, Ze, ↓reduceIte, Nat.reduceEqDiff]
 refine Zf [5] [] ?_
 simp only [push_cast, seval, ↓reduceIte]
 refine Zp [4] (Zb Zc [] ?_)
 simp only [push_cast, seval, ↓reduceIte, Za, hN0, hN]
 refine Zt ?_
 try simp only [Zi, Ze]
 have h := Option.some.inj h; subst h
 refine Zl (.inr rfl) hU [.val (.int .u64 (Int.tmod z4 2))] (by omega) ?_
 simp only [push_cast, seval, ↓reduceIte, Za, Try.results79, hN0, hN]
theorem Zfx {a0 : (List Int)} {a1 : Int} {a2 : Int} {r : Int} {O : Objs} {n : Nat} (h : Jn a0 a1 a2 = some r) : GTo Try.prog 55 [.sl a0.length (fl (eI .u64) a0), .val (.int .i64 a1), .val (.int .i64 a2)] O n (.val (.int .u64 r)) O n := by
 unfold Jn at h
 refine Yl Zc Try.call55 Try.func55 rfl (Nat.le_of_ble_eq_true rfl) (Nat.le_refl _) fun hU => ?_
 have hN0 : O n = none := hU.fresh _ (Nat.le_refl _)
 have hN : ∀ k, O (n + k) = none := fun k => hU.fresh _ (Nat.le_add_right _ _)
 show W _ _ _ _ ⟨39, [], [(0, .sl a0.length (fl (eI .u64) a0)), (1, .val (.int .i64 a1)), (2, .val (.int .i64 a2))]⟩ (Z3 O n []) _
 refine Zp [0, 1, 2] (Zb Zc [] ?_)
 simp only [push_cast, seval, ↓reduceIte, Za, hN0, hN]
 refine Zg ?_
 obtain ⟨y2, hy2, h⟩ := bC h
 refine Zb Zc [] ?_
 simp only [push_cast, seval, ↓reduceIte, Za, hN0, hN]
 refine (Zdz hy2).then ?_
 simp only [push_cast, seval, ↓reduceIte, Za, hN0, hN]
 refine Zf [0, 2, 7] [] ?_
 simp only [push_cast, seval, ↓reduceIte]
 refine Zg ?_
 refine Zp [0, 2, 7, 21] (Zb Zc [none, none, none, none] ?_)
 simp only [push_cast, seval, ↓reduceIte, Za, hN0, hN]
 repeat (with_reducible refine And.intro (by first | (intro h0; simp only [h0, and_self]; done) | (intro h0; simp only [h0, Bool.not_false, Bool.not_true, Bool.true_and, Bool.and_true, true_and, and_true, and_self, imp_self, implies_true, bne_iff_ne, ne_eq, beq_iff_eq]; done) | (intros; simp_all; done) | exact True.intro) ?_)
 refine Zr (t := (cond (cond (decide (y2 < 1)) true (decide (a2 < 0))) true (decide (1099511627776 < a2)))) rfl (fun c6 => ?_) (fun c6 => ?_)
 ·replace h := Zv c6 h
  refine Zp [6] (Zb Zc [] ?_)
  simp only [push_cast, seval, ↓reduceIte, Za, hN0, hN]
  refine Zt ?_
  try simp only [Zi, Ze]
  have h := Option.some.inj h; subst h
  refine Zl (.inr rfl) hU [.val (.int .u64 0)] (by omega) ?_
  simp only [push_cast, seval, ↓reduceIte, Za, Try.results55, hN0, hN]
 replace h := Zu c6 h
 refine Zx ?_
 try simp only [Zi, Ze]
 refine Zf [0, 2, 7] [] ?_
 simp only [push_cast, seval, ↓reduceIte]
 refine Zp [0, 2, 7, 8] (Zb Zc [] ?_)
 simp only [push_cast, seval, ↓reduceIte, Za, hN0, hN]
 refine Zg ?_
 refine Zp [0, 2, 7, 8, 9] (Zb Zc [] ?_)
 simp only [push_cast, seval, ↓reduceIte, Za, hN0, hN]
 refine Zf [0, 2, 7, 8, 9] [] ?_
 simp only [push_cast, seval, ↓reduceIte]
 obtain ⟨z5, hz5, h⟩ := bC h
 refine Ki (E' := ⟨39, [], [(8, .val (.int .u64 z5))]⟩) (O' := (Z3 O n [])) (n0 := n) ?_ ?_
 ·refine Vz hz5 (fun s0_ => ⟨39, [], [(0, .sl a0.length (fl (eI .u64) a0)), (2, .val (.int .i64 a2)), (7, .val (.int .i64 y2)), (8, .val (.int .u64 s0_.1)), (9, .val (.int .i64 s0_.2))]⟩) (fun s0_ => (Z3 O n [])) (fun z5 => JX 0 n (⟨39, [], [(8, .val (.int .u64 z5))]⟩ : Env) (Z3 O n []) n) ?_
  intro s0_ x0_ hs0_
  unfold X5 at hs0_
  try dsimp only
  refine Zg ?_
  refine Zp [0, 2, 7, 8, 9, 25] (Zb Zc [] ?_)
  simp only [push_cast, seval, ↓reduceIte, Za, hN0, hN]
  refine Zr (t := (decide (0 ≤ s0_.2))) rfl (fun c4 => ?_) (fun c4 => ?_)
  ·replace hs0_ := Zv c4 hs0_
   refine Zx ?_
   try simp only [Zi, Ze]
   refine Zf [0, 2, 7, 8, 9] [] ?_
   simp only [push_cast, seval, ↓reduceIte]
   refine Zg ?_
   refine X7 ?_
   obtain ⟨y3, hy3, hs0_⟩ := bC hs0_
   refine Zb Zc [] ?_
   simp only [push_cast, seval, ↓reduceIte, Za, hN0, hN]
   refine (Zfw hy3).then ?_
   simp only [push_cast, seval, ↓reduceIte, Za, hN0, hN]
   refine Zf [0, 2, 7, 8, 9] [] ?_
   simp only [push_cast, seval, ↓reduceIte]
   refine Zb Zc [] ?_
   simp only [push_cast, seval, ↓reduceIte, Za, hN0, hN]
   have hs0_ := Option.some.inj hs0_; subst hs0_
   refine And.intro rfl (Fit2.of (Zs hU rfl rfl ?_) (by omega))
   simp only [push_cast, seval, ↓reduceIte, Za, hN0, hN]
  replace hs0_ := Zu c4 hs0_
  refine Gy ?_
  try simp only [Zi, Ze, ↓reduceIte, Nat.reduceEqDiff]
  have hs0_ := Option.some.inj hs0_; subst hs0_
  refine And.intro (fun h => by cases h) (And.intro rfl (Fit2.of (Zs hU rfl rfl ?_) (by omega)))
  simp only [push_cast, seval, ↓reduceIte, Za, hN0, hN]
 try simp only [Zi, Ze, ↓reduceIte, Nat.reduceEqDiff]
 refine Zf [8] [] ?_
 simp only [push_cast, seval, ↓reduceIte]
 refine Zp [6] (Zb Zc [] ?_)
 simp only [push_cast, seval, ↓reduceIte, Za, hN0, hN]
 refine Zt ?_
 try simp only [Zi, Ze]
 have h := Option.some.inj h; subst h
 refine Zl (.inr rfl) hU [.val (.int .u64 z5)] (by omega) ?_
 simp only [push_cast, seval, ↓reduceIte, Za, Try.results55, hN0, hN]
theorem Uj {a0 : Zn} {a1 : (List (List Int))} {a2 : Int} {r : (Zn × Int)} {O : Objs} {n : Nat} (h : Xp a0 a1 a2 = some r) : GTo Try.prog 21 [.agg (Zo a0), .sl a1.length (fl (eL (eI .u64)) a1), .val (.int .i64 a2)] O n (.tup [.agg (Zo r.1), .val (.int .i64 r.2)]) O n := by
 unfold Xp at h
 refine Yl Zc Try.call21 Try.func21 rfl (Nat.le_of_ble_eq_true rfl) (Nat.le_refl _) fun hU => ?_
 have hN0 : O n = none := hU.fresh _ (Nat.le_refl _)
 have hN : ∀ k, O (n + k) = none := fun k => hU.fresh _ (Nat.le_add_right _ _)
 show W _ _ _ _ ⟨80, [], [(0, .agg (Zo a0)), (1, .sl a1.length (fl (eL (eI .u64)) a1)), (2, .val (.int .i64 a2))]⟩ (Z3 O n []) _
 refine Zp [1, 2, 3, 6] (Zb Zc [] ?_)
 simp only [push_cast, seval, ↓reduceIte, Za, hN0, hN]
 refine Zg ?_
 obtain ⟨z2, hz2, h⟩ := bC h
 refine Qt (E' := ⟨80, [], [(1, .sl a1.length (fl (eL (eI .u64)) a1)), (2, .val (.int .i64 a2)), (3, .ref n 0), (6, .ref (n + 1) 0), (15, .val (.bool z2))]⟩) (O' := (Z3 O n [some ⟨false, 33, 7, 1, (Zo a0)⟩, some ⟨false, 33, 7, 1, [.val (.int .i64 0), .val (.int .i64 0), .val (.int .i64 0), .val (.int .i64 0), .val (.int .i64 0), .val (.int .i64 0), .val (.int .u64 0)]⟩])) (n0 := (n + 2)) ?_ ?_
 ·rcases Bool.eq_false_or_eq_true (decide (a2 < 0)) with c5 | c5
  ·replace hz2 := Zv c5 hz2
   refine Zb Zc [some false, some false, some false, some false] ?_
   simp only [push_cast, seval, ↓reduceIte, Za, c5, hN0, hN]
   have hz2 := Option.some.inj hz2; subst hz2
   refine And.intro rfl (Fit2.of (Zs hU rfl rfl ?_) (by omega))
   simp only [push_cast, seval, ↓reduceIte, Za, c5, hN0, hN]
  replace hz2 := Zu c5 hz2
  obtain ⟨y4, hy4, hz2⟩ := bC hz2
  refine Zb Zc [some true, some true, some true, some true] ?_
  simp only [push_cast, seval, ↓reduceIte, Za, c5, hN0, hN]
  refine (J3 hy4).then ?_
  simp only [push_cast, seval, ↓reduceIte, Za, c5, hN0, hN]
  have hz2 := Option.some.inj hz2; subst hz2
  refine And.intro rfl (Fit2.of (Zs hU rfl rfl ?_) (by omega))
  simp only [push_cast, seval, ↓reduceIte, Za, c5, hN0, hN]
 refine Zr (t := z2) rfl (fun c19 => ?_) (fun c19 => ?_)
 ·replace h := Zv c19 h
  refine Zg ?_
  refine Zb Zc [] ?_
  simp only [push_cast, seval, ↓reduceIte, Za, hN0, hN]
  refine Zf [6, 7] [false, true] ?_
  simp only [push_cast, seval, ↓reduceIte]
  refine Zt ?_
  try simp only [Zi, Ze]
  have h := Option.some.inj h; subst h
  refine Zl (.inr rfl) hU [.agg [.val (.int .i64 0), .val (.int .i64 0), .val (.int .i64 0), .val (.int .i64 0), .val (.int .i64 0), .val (.int .i64 0), .val (.int .u64 0)], .val (.int .i64 0)] (by omega) ?_
  simp only [push_cast, seval, ↓reduceIte, Za, Try.results21, hN0, hN]
 replace h := Zu c19 h
 refine Zx ?_
 try simp only [Zi, Ze]
 refine Zf [1, 2, 3, 6] [true, true] ?_
 simp only [push_cast, seval, ↓reduceIte]
 refine Zg ?_
 refine Zp [1, 2, 3, 6, 19] (Zb Zc [] ?_)
 simp only [push_cast, seval, ↓reduceIte, Za, hN0, hN]
 refine Zr (t := (a0.Kind == 1)) rfl (fun c18 => ?_) (fun c18 => ?_)
 ·replace h := Zv c18 h
  refine Zg ?_
  obtain ⟨y7, hy7, h⟩ := bC h
  refine Zb Zc [] ?_
  simp only [push_cast, seval, ↓reduceIte, Za, hN0, hN]
  refine (Ur hy7).then ?_
  simp only [push_cast, seval, ↓reduceIte, Za, hN0, hN]
  refine Zf [6, 7] [false, true] ?_
  simp only [push_cast, seval, ↓reduceIte]
  refine Zt ?_
  try simp only [Zi, Ze]
  have h := Option.some.inj h; subst h
  refine Zl (.inr rfl) hU [.agg (Zo y7.1), .val (.int .i64 y7.2)] (by omega) ?_
  simp only [push_cast, seval, ↓reduceIte, Za, Try.results21, hN0, hN]
 replace h := Zu c18 h
 refine Zx ?_
 try simp only [Zi, Ze]
 refine Zf [1, 2, 3, 6] [true, true] ?_
 simp only [push_cast, seval, ↓reduceIte]
 refine Zg ?_
 refine Zp [1, 2, 3, 6, 35] (Zb Zc [] ?_)
 simp only [push_cast, seval, ↓reduceIte, Za, hN0, hN]
 refine Zr (t := (a0.Kind == 8)) rfl (fun c17 => ?_) (fun c17 => ?_)
 ·replace h := Zv c17 h
  refine Zg ?_
  obtain ⟨y9, hy9, h⟩ := bC h
  refine Zb Zc [] ?_
  simp only [push_cast, seval, ↓reduceIte, Za, hN0, hN]
  refine (Ur hy9).then ?_
  simp only [push_cast, seval, ↓reduceIte, Za, hN0, hN]
  refine Zf [6, 7] [false, true] ?_
  simp only [push_cast, seval, ↓reduceIte]
  refine Zt ?_
  try simp only [Zi, Ze]
  have h := Option.some.inj h; subst h
  refine Zl (.inr rfl) hU [.agg (Zo y9.1), .val (.int .i64 y9.2)] (by omega) ?_
  simp only [push_cast, seval, ↓reduceIte, Za, Try.results21, hN0, hN]
 replace h := Zu c17 h
 refine Zx ?_
 try simp only [Zi, Ze]
 refine Zf [1, 2, 3, 6] [true, true] ?_
 simp only [push_cast, seval, ↓reduceIte]
 refine Zg ?_
 refine Zp [1, 2, 3, 6, 48] (Zb Zc [] ?_)
 simp only [push_cast, seval, ↓reduceIte, Za, hN0, hN]
 refine Zr (t := (a0.Kind == 9)) rfl (fun c16 => ?_) (fun c16 => ?_)
 ·replace h := Zv c16 h
  refine Zg ?_
  refine Zb Zc [] ?_
  simp only [push_cast, seval, ↓reduceIte, Za, hN0, hN]
  refine Zf [6, 7] [false, true] ?_
  simp only [push_cast, seval, ↓reduceIte]
  refine Zt ?_
  try simp only [Zi, Ze]
  have h := Option.some.inj h; subst h
  refine Zl (.inr rfl) hU [.agg [.val (.int .i64 1), .val (.int .i64 a0.S), .val (.int .i64 (IntKind.i64.wrap (a0.At + (IntKind.i64.wrap (a2 * (IntKind.i64.wrap (a0.Data + a0.Ptrs))))))), .val (.int .i64 a0.Data), .val (.int .i64 a0.Ptrs), .val (.int .i64 0), .val (.int .u64 0)], .val (.int .i64 0)] (by omega) ?_
  simp only [push_cast, seval, ↓reduceIte, Za, Try.results21, hN0, hN]
 replace h := Zu c16 h
 refine Zx ?_
 try simp only [Zi, Ze]
 refine Zf [1, 2, 3, 6] [true, true] ?_
 simp only [push_cast, seval, ↓reduceIte]
 refine Zg ?_
 obtain ⟨x13, hx13, ax13, bx13, cx13, h⟩ := bE (f := (eL (eI .u64))) Gn (fun _ => rfl) (by decide) h
 obtain ⟨l14, al14, bl14, cl14, gl14, h⟩ := bS (lo := (some (.i64, a0.At))) (hi := none) (f := (eI .u64)) rfl rfl Zdv Gm (fun _ => rfl) h
 obtain ⟨y15, hy15, h⟩ := bC h
 refine Zlm Zc (by kernel_rfl) [false, false, false, false, false, false, false, false, false, false, false, false, false, false, true, false] [] (by kernel_rfl) ?_
 simp only [push_cast, Nat.reduceAdd, Nat.reduceSub, Nat.reduceMul, Nat.reduceLeDiff, Nat.reduceLT, Nat.reduceEqDiff, ↓reduceIte, reduceCtorEq, Int.reduceBEq, Int.reduceBNe, Nat.reduceBEq, Int.reduceLE, Int.reduceLT, Int.reduceEq, Int.reduceNe, Int.reduceNeg, Nat.reduceDiv, Nat.reduceMod, Nat.reducePow, Za, ax13, bx13, cx13, al14, bl14, cl14, gl14, hN0, hN]
 refine PCall.of (Zfx hy15) ?_
 simp only [push_cast, Nat.reduceAdd, Nat.reduceSub, Nat.reduceMul, Nat.reduceLeDiff, Nat.reduceLT, Nat.reduceEqDiff, ↓reduceIte, reduceCtorEq, Int.reduceBEq, Int.reduceBNe, Nat.reduceBEq, Int.reduceLE, Int.reduceLT, Int.reduceEq, Int.reduceNe, Int.reduceNeg, Nat.reduceDiv, Nat.reduceMod, Nat.reducePow, Za, ax13, bx13, cx13, al14, bl14, cl14, gl14, hN0, hN]
 refine Zf [6, 7] [false, true] ?_
 simp only [push_cast, seval, ↓reduceIte]
 refine Zt ?_
 try simp only [Zi, Ze]
 have h := Option.some.inj h; subst h
 refine Zl (.inr rfl) hU [.agg [.val (.int .i64 10), .val (.int .i64 0), .val (.int .i64 0), .val (.int .i64 0), .val (.int .i64 0), .val (.int .i64 0), .val (.int .u64 y15)], .val (.int .i64 0)] (by omega) ?_
 simp only [push_cast, seval, ↓reduceIte, Za, Try.results21, hN0, hN]
end Go.Proofs.Ytmlhokaflhlhbaa
