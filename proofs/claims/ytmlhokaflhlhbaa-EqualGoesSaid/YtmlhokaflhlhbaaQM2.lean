/- Part QM2 of this seat's mirrors: functions of the seat's program, and the plain functions that they are; each theorem bears its own conditions. -/
import Derived.Test.YtmlhokaflhlhbaaQE
import Derived.Test.YtmlhokaflhlhbaaQM1
namespace Go.Proofs.Ytmlhokaflhlhbaa
open Go.RowKit
set_option linter.unusedVariables false
set_option linter.unusedSimpArgs false
set_option maxRecDepth 100000
set_option maxHeartbeats 4000000
attribute [local push_cast] Yr Y6 Zo Yb Zj Zmb Zma Zm6 Zm5 Zi Ze Ziv Zen Zem onW Yz Ui Vi Ziw Zix Zg3 Zg7 Zg2 Zg6 Zj1 Zjy Zg5 Zj0 Zjz Zg4 Zjw Ze8 evS wok Xi Op.operands Call.operands gop onK onP atK List.all_cons List.all_nil Bool.and_true Bool.true_and Bool.and_self Value.oneCell' List.take_zero List.take_succ_cons List.take_nil List.drop_zero List.drop_succ_cons List.drop_nil List.append_nil Nat.add_zero Nat.zero_add Jk Z6 ev Xu Zo6 Zl1 Zl0 Zl6 Zl4 Zl5 Zl2 Zl3 Zlz Zis Zkp Zo9 Zct U5 Zb5 Uk Zgm Zay Zcd Zci Zeg Zed Zcg Zef Zee Zcf Zeb Zce Zch Zbr Zec Zep Zeo Vj Zdm Vk Zel Zco Zmg bLo bHi bMx U6 Zek Zqk Zcn Zd4 Zaw Kk Zk9 Zqn Zdk Zqq U4 Zs5 Zi6 Zja Zi5 Zi9 Zmr Zmo Zmm Zgn Zi7 Zmq Zmp Zi8 Zmn Zcr Zhm Zjl Ze4 Ze3 pop TK.isAgg Zmz Zm3 Zmy Zm2 Zjf Zq0 Zqx Zm1 Zqz Zqy Zm0 Zqw G.under G.unders List.getD_cons_zero List.getD_cons_succ List.set_cons_zero List.set_cons_succ List.map_cons List.map_nil List.toList_toArray Array.toList_append Option.toArray_none Option.toArray_some Array.toList_map Option.map_some Option.map_none Option.bind_some Option.bind_none List.getElem?_cons_zero List.getElem?_cons_succ List.getElem?_nil List.nil_append List.cons_append List.replicate_succ List.replicate_zero List.length_cons List.length_nil and_true true_and and_false false_and Bool.true_eq_false Bool.false_eq_true forall_const false_implies implies_true IntKind.bits if_true if_false ite_true ite_false eq_self true_implies false_or or_false or_true true_or not_true_eq_false not_false_eq_true decide_true decide_false decide_eq_true_eq decide_eq_false_iff_not beq_iff_eq bne_iff_ne ne_eq Bool.not_eq_true Bool.not_eq_false beq_eq_false_iff_ne bne_eq_false_iff_eq beq_self_eq_true bne_self_eq_false Option.some.injEq exists_eq_left' exists_eq_left ge_iff_le gt_iff_lt decide_not Bool.not_true Bool.not_false imp_self Zqp cond_true cond_false Zxe Zxd Bool.not_not Bool.and_false Bool.false_and Bool.or_true Bool.true_or Bool.or_false Bool.false_or Vx Zfi Zdg Zca Zba Gs Option.join_some Nat.add_assoc Int.toNat_natCast eI eB eS eL Zei Zdl Zcp Zmf Zmd Zme Ztg Zup Zdq Zc2 Znf Znd Zne Zpt Zeh Zo1 Zf6 Zlr Zbe Zlu List.length_append G.agg.injEq G.row.injEq G.ref.injEq G.val.injEq G.sl.injEq G.tup.injEq Value.int.injEq Value.bool.injEq Value.string.injEq List.cons.injEq exists_and_left exists_const List.flatten_cons List.flatten_nil Int.le_refl Nat.le_refl Zkk Jx Zid Bool.not_eq_true' Bool.not_eq_false' Zoq Zdf Zr3 Zr7 Zr2 Zr6 Zwe Zwa List.size_toArray Zho Zjp G.ren G.rens Zkw Za5 Znj Zlw Zlx Zjx Zr8 Zbx G.fn.injEq Zf8 Zkm Zop Zwb Zkl Zr5 Zwd Zwc Zr4 Zqv Zuf Option.join_none Xs Kv undef Zd6 Arr.len Arr.put_eq Zdp Zgt Ze0 Zc1 Znc Zna Znb onB Ztf Zk8 Zju Zh3 Zh4 Zh5 Zh6 Zh7 Zh8 Zgp Zgw Zgu Ze2 Zc3 Zgv Zjk Zjj Zji Zjh Zuo Zwv Zps Zm7 Qp Zpl Zhn Zgx Ze1 Zq1 Zjv Zcm Zd3 Gq Zf3 Zh9 Zia Zib Zic Zga Zgb Zgc Zgd Zge Zgf Zgg G0 prT Uo Zx1 Zrr Zvi Zrs Zx2 Zrt Zx3 Zru Zx4 Zrv Zx5 Zrw Zx6 Zrx Zx7 Zry Zu1 Zno Zu2 Znp Zu3 Znq Zu4 Znr Zu5 Zns Zu6 Znt Zu7 Znu Zu8 Znv Zu9 Znw Zva Znx Zvb Zny Zvc Znz Zvd Zn0 Zve Zh1 Zvf Zn1 Zvg Zn2 Zvh Zn3 Gm Zn4 Zvj Zn5 Zvk Zn6 Gn Zdv Zvl Zn7 Zvm Zn8 Zvn Zn9 Zvo Zoa Zvp Zob Zvq Zoc Zvr Zod Zvs Zoe Zvt Zof Zvu Zog Zvv Zoh Zvw Zoi Zvx Zoj Zvy Zok Zvz Zol Zv0 Zom Zrb Zj2 Zrc Zj3 Zrd Zj4 Zre Zj5 Zrf Zj6 Zrg Zj7 Zrh Zj8 Zri Zj9 Zrj Zka Zrk Zkb Zrl Zkc Zrm Zkd Zrn Zke Zro Zkf Zrp Zkg Qu Zff Zfd Zeu Zez Zfh Zdd Zc8 Zc6 Zfa Za8 Za7 Za0 Za3 Za9 Zar Zak Zaj Za6 Zcl Vg Vh Zw X8 U0 Uz Up Ut U1 Ug Ua V9 Uy Zm K6 K5 K1 K3 K7 Ks Kr Kq K4 Zfe Zfc Zet Zey Zfg Zdc Zc7 Zc5 Ze9 Zck Zaa Zz J7 J6 Jy J4 J8 Ju Jr Jq J5
theorem Zbw {Ya : ((List (List Int)) → Zn → Int → Int → Option (S_api_Tree × Int × Int))} {Yu : ((List (List Int)) → Zn → Int → Int → Option (S_api_Tree × Int × Int))} (Jo : ∀ {a0 : (List (List Int))} {a1 : Zn} {a2 : Int} {a3 : Int} {r : (S_api_Tree × Int × Int)} {O : Objs} {n : Nat}, Ya a0 a1 a2 a3 = some r → GTo Try.prog 63 [.sl a0.length (fl (eL (eI .u64)) a0), .agg (Zo a1), .val (.int .i64 a2), .val (.int .i64 a3)] O n (.tup [.agg (Y6 r.1), .val (.int .i64 r.2.1), .val (.int .i64 r.2.2)]) O n) (Gc : ∀ {a0 : (List (List Int))} {a1 : Zn} {a2 : Int} {a3 : Int} {r : (S_api_Tree × Int × Int)} {O : Objs} {n : Nat}, Yu a0 a1 a2 a3 = some r → GTo Try.prog 87 [.sl a0.length (fl (eL (eI .u64)) a0), .agg (Zo a1), .val (.int .i64 a2), .val (.int .i64 a3)] O n (.tup [.agg (Y6 r.1), .val (.int .i64 r.2.1), .val (.int .i64 r.2.2)]) O n) {a0 : (List (List Int))} {a1 : Zn} {a2 : Int} {a3 : Int} {r : (S_api_Tree × Int × Int)} {O : Objs} {n : Nat} (h : Xm Ya Yu a0 a1 a2 a3 = some r) : GTo Try.prog 63 [.sl a0.length (fl (eL (eI .u64)) a0), .agg (Zo a1), .val (.int .i64 a2), .val (.int .i64 a3)] O n (.tup [.agg (Y6 r.1), .val (.int .i64 r.2.1), .val (.int .i64 r.2.2)]) O n := by
 unfold Xm at h
 refine Yl Zc Try.call63 Try.func63 rfl (Nat.le_of_ble_eq_true rfl) (Nat.le_refl _) fun hU => ?_
 have hN0 : O n = none := hU.fresh _ (Nat.le_refl _)
 have hN : ∀ k, O (n + k) = none := fun k => hU.fresh _ (Nat.le_add_right _ _)
 show W _ _ _ _ ⟨149, [], [(0, .sl a0.length (fl (eL (eI .u64)) a0)), (1, .agg (Zo a1)), (2, .val (.int .i64 a2)), (3, .val (.int .i64 a3))]⟩ (Z3 O n []) _
 refine Zp [0, 2, 3, 5, 8] (Zb Zc [] ?_)
 simp only [push_cast, seval, ↓reduceIte, Za, hN0, hN]
 refine Zg ?_
 obtain ⟨y2, hy2, h⟩ := bC h
 refine Zbq Zc (by kernel_rfl) [.low, .low, .low, .low, .low, .low, .pass, .bar] (fun i => i < (n + 2)) [0, 1, 2, 3, 4, 5, 6, 7] [.low, .low, .low, .low, .low, .low, .pass, .bar] [] (by kernel_rfl) rfl ?_
 simp only [push_cast, seval, ↓reduceIte, Za, hN0, hN]
 repeat (with_reducible refine And.intro (by first | omega | exact Qh rfl | exact Xw | exact Kf rfl | exact Kj rfl rfl | exact agree_ltne rfl | exact agree_ltne0 rfl) ?_)
 first | refine PCallA.of (fun _ _ => Xr hy2) ?_ | refine PCall.of (Xr hy2) ?_
 simp only [push_cast, seval, ↓reduceIte, Za, hN0, hN]
 repeat (with_reducible refine And.intro (by first | omega | exact Qh rfl | exact Xw | exact Kf rfl | exact Kj rfl rfl | exact agree_ltne rfl | exact agree_ltne0 rfl) ?_)
 refine Zf [0, 2, 3, 5, 8, 11] [true, true, true] ?_
 simp only [push_cast, seval, ↓reduceIte]
 refine Zg ?_
 refine Zp [0, 2, 3, 5, 8, 11, 25] (Zb Zc [] ?_)
 simp only [push_cast, seval, ↓reduceIte, Za, hN0, hN]
 refine Zr (t := (a1.Kind == 0)) rfl (fun c27 => ?_) (fun c27 => ?_)
 ·replace h := Zv c27 h
  refine Zg ?_
  refine Zb Zc [] ?_
  simp only [push_cast, seval, ↓reduceIte, Za, hN0, hN]
  refine Zf [8, 9, 10] [false, true, false] ?_
  simp only [push_cast, seval, ↓reduceIte]
  refine Zt ?_
  try simp only [Zi, Ze]
  have h := Option.some.inj h; subst h
  refine Zl (.inr rfl) hU [.agg [.val (.int .i64 a1.Kind), .sl y2.length (fl (eI .u64) y2), .val (.slice none 0 0)], .val (.int .i64 a3), .val (.int .i64 0)] (by omega) ?_
  simp only [push_cast, seval, ↓reduceIte, Za, Try.results63, hN0, hN]
 replace h := Zu c27 h
 refine Zx ?_
 try simp only [Zi, Ze]
 refine Zf [0, 2, 3, 5, 8, 11] [true, true, true] ?_
 simp only [push_cast, seval, ↓reduceIte]
 refine Zg ?_
 refine Zp [0, 2, 3, 5, 8, 11, 43] (Zb Zc [none, none, none, none, none, none, none, none, none, none, none, none] ?_)
 simp only [push_cast, seval, ↓reduceIte, Za, hN0, hN]
 repeat (with_reducible refine And.intro (by first | (intro h0; simp only [h0, and_self]; done) | (intro h0; simp only [h0, Bool.not_false, Bool.not_true, Bool.true_and, Bool.and_true, true_and, and_true, and_self, imp_self, implies_true, bne_iff_ne, ne_eq, beq_iff_eq]; done) | (intros; simp_all; done) | exact True.intro) ?_)
 refine Zr (t := (cond (decide (a2 < 1)) true (cond (cond (a1.Kind == 9) (decide (0 < a1.Count)) false) (decide (a2 < 2)) false))) rfl (fun c26 => ?_) (fun c26 => ?_)
 ·replace h := Zv c26 h
  refine Zg ?_
  refine Zb Zc [] ?_
  simp only [push_cast, seval, ↓reduceIte, Za, hN0, hN]
  refine Zf [8, 9, 10] [false, true, false] ?_
  simp only [push_cast, seval, ↓reduceIte]
  refine Zt ?_
  try simp only [Zi, Ze]
  have h := Option.some.inj h; subst h
  refine Zl (.inr rfl) hU [.agg [.val (.int .i64 a1.Kind), .sl y2.length (fl (eI .u64) y2), .val (.slice none 0 0)], .val (.int .i64 a3), .val (.int .i64 3)] (by omega) ?_
  simp only [push_cast, seval, ↓reduceIte, Za, Try.results63, hN0, hN]
 replace h := Zu c26 h
 refine Zx ?_
 try simp only [Zi, Ze]
 refine Zf [0, 2, 3, 5, 8, 11] [true, true, true] ?_
 simp only [push_cast, seval, ↓reduceIte]
 refine Zg ?_
 obtain ⟨y4, hy4, h⟩ := bC h
 refine Zb Zc [] ?_
 simp only [push_cast, seval, ↓reduceIte, Za, hN0, hN]
 refine (J3 hy4).then ?_
 simp only [push_cast, seval, ↓reduceIte, Za, hN0, hN]
 refine Zf [0, 2, 3, 5, 8, 11, 12] [true, true, true] ?_
 simp only [push_cast, seval, ↓reduceIte]
 obtain ⟨z5, hz5, h⟩ := bC h
 refine Qt (E' := ⟨149, [], [(0, .sl a0.length (fl (eL (eI .u64)) a0)), (2, .val (.int .i64 a2)), (3, .val (.int .i64 a3)), (5, .ref n 0), (8, .ref (n + 1) 0), (11, .ref (n + 2) 0), (12, .val (.int .i64 z5))]⟩) (O' := (Z3 O n [some ⟨false, 33, 7, 1, (Zo a1)⟩, some ⟨false, 58, 3, 1, [.val (.int .i64 0), .val (.slice none 0 0), .val (.slice none 0 0)]⟩, some ⟨false, 58, 3, 1, [.val (.int .i64 a1.Kind), .sl y2.length (fl (eI .u64) y2), .val (.slice none 0 0)]⟩])) (n0 := (n + 3)) ?_ ?_
 ·refine Zp [0, 2, 3, 5, 8, 11, 12, 51] (Zb Zc [] ?_)
  simp only [push_cast, seval, ↓reduceIte, Za, hN0, hN]
  refine Zr (t := (a1.Kind == 1)) rfl (fun c6 => ?_) (fun c6 => ?_)
  ·replace hz5 := Zv c6 hz5
   refine Zb Zc [] ?_
   simp only [push_cast, seval, ↓reduceIte, Za, hN0, hN]
   have hz5 := Option.some.inj hz5; subst hz5
   refine And.intro rfl (Fit2.of (Zs hU rfl rfl ?_) (by omega))
   simp only [push_cast, seval, ↓reduceIte, Za, hN0, hN]
  replace hz5 := Zu c6 hz5
  refine Zx ?_
  try simp only [Zi, Ze]
  have hz5 := Option.some.inj hz5; subst hz5
  refine And.intro rfl (Fit2.of (Zs hU rfl rfl ?_) (by omega))
  simp only [push_cast, seval, ↓reduceIte, Za, hN0, hN]
 obtain ⟨z7, hz7, h⟩ := bC h
 refine Qt (E' := ⟨149, [], [(0, .sl a0.length (fl (eL (eI .u64)) a0)), (2, .val (.int .i64 a2)), (3, .val (.int .i64 a3)), (5, .ref n 0), (8, .ref (n + 1) 0), (11, .ref (n + 2) 0), (12, .val (.int .i64 z7))]⟩) (O' := (Z3 O n [some ⟨false, 33, 7, 1, (Zo a1)⟩, some ⟨false, 58, 3, 1, [.val (.int .i64 0), .val (.slice none 0 0), .val (.slice none 0 0)]⟩, some ⟨false, 58, 3, 1, [.val (.int .i64 a1.Kind), .sl y2.length (fl (eI .u64) y2), .val (.slice none 0 0)]⟩])) (n0 := (n + 3)) ?_ ?_
 ·refine Zp [0, 2, 3, 5, 8, 11, 12, 60] (Zb Zc [] ?_)
  simp only [push_cast, seval, ↓reduceIte, Za, hN0, hN]
  refine Zr (t := (a1.Kind == 9)) rfl (fun c8 => ?_) (fun c8 => ?_)
  ·replace hz7 := Zv c8 hz7
   refine Zb Zc [] ?_
   simp only [push_cast, seval, ↓reduceIte, Za, hN0, hN]
   have hz7 := Option.some.inj hz7; subst hz7
   refine And.intro rfl (Fit2.of (Zs hU rfl rfl ?_) (by omega))
   simp only [push_cast, seval, ↓reduceIte, Za, hN0, hN]
  replace hz7 := Zu c8 hz7
  refine Zx ?_
  try simp only [Zi, Ze]
  have hz7 := Option.some.inj hz7; subst hz7
  refine And.intro rfl (Fit2.of (Zs hU rfl rfl ?_) (by omega))
  simp only [push_cast, seval, ↓reduceIte, Za, hN0, hN]
 refine Zg ?_
 refine Zp [0, 2, 3, 5, 8, 11, 12, 73] (Zb Zc [] ?_)
 simp only [push_cast, seval, ↓reduceIte, Za, hN0, hN]
 refine Zr (t := (decide (a3 < z7))) rfl (fun c25 => ?_) (fun c25 => ?_)
 ·replace h := Zv c25 h
  refine Zg ?_
  refine Zb Zc [] ?_
  simp only [push_cast, seval, ↓reduceIte, Za, hN0, hN]
  refine Zf [8, 9, 10] [false, true, false] ?_
  simp only [push_cast, seval, ↓reduceIte]
  refine Zt ?_
  try simp only [Zi, Ze]
  have h := Option.some.inj h; subst h
  refine Zl (.inr rfl) hU [.agg [.val (.int .i64 a1.Kind), .sl y2.length (fl (eI .u64) y2), .val (.slice none 0 0)], .val (.int .i64 a3), .val (.int .i64 3)] (by omega) ?_
  simp only [push_cast, seval, ↓reduceIte, Za, Try.results63, hN0, hN]
 replace h := Zu c25 h
 refine Zx ?_
 try simp only [Zi, Ze]
 refine Zf [0, 2, 3, 5, 8, 11, 12] [true, true, true] ?_
 simp only [push_cast, seval, ↓reduceIte]
 refine Zp [0, 2, 3, 5, 8, 11] (Zb Zc [] ?_)
 simp only [push_cast, seval, ↓reduceIte, Za, hN0, hN]
 refine Zg ?_
 refine Zp [0, 2, 3, 5, 8, 11, 13] (Zb Zc [] ?_)
 simp only [push_cast, seval, ↓reduceIte, Za, hN0, hN]
 refine Zf [0, 2, 3, 5, 8, 11, 13] [true, true, true] ?_
 simp only [push_cast, seval, ↓reduceIte]
 refine Zqa (E' := (⟨149, [], [(0, .sl a0.length (fl (eL (eI .u64)) a0)), (2, .val (.int .i64 a2)), (3, .val (.int .i64 (IntKind.i64.wrap (a3 - z7)))), (5, .ref n 0), (8, .ref (n + 1) 0), (11, .ref (n + 2) 0), (13, .val (.int .i64 0))]⟩ : Env)) (O' := (Z3 O n [some ⟨false, 33, 7, 1, (Zo a1)⟩, some ⟨false, 58, 3, 1, [.val (.int .i64 0), .val (.slice none 0 0), .val (.slice none 0 0)]⟩, some ⟨false, 58, 3, 1, [.val (.int .i64 a1.Kind), .sl y2.length (fl (eI .u64) y2), .row (n + 3) ([] : List S_api_Tree).length]⟩, some ⟨true, 58, 3, ([] : List S_api_Tree).length, fl Zw ([] : List S_api_Tree)⟩, none])) (n' := (n + 5)) ?_ ?_
 ·refine Fit2.trans (E' := (⟨149, [], [(0, .sl a0.length (fl (eL (eI .u64)) a0)), (2, .val (.int .i64 a2)), (3, .val (.int .i64 (IntKind.i64.wrap (a3 - z7)))), (5, .ref n 0), (8, .ref (n + 1) 0), (11, .ref (n + 2) 0), (13, .val (.int .i64 0))]⟩ : Env)) (O' := (Z3 O n [some ⟨false, 33, 7, 1, (Zo a1)⟩, some ⟨false, 58, 3, 1, [.val (.int .i64 0), .val (.slice none 0 0), .val (.slice none 0 0)]⟩, some ⟨false, 58, 3, 1, [.val (.int .i64 a1.Kind), .sl y2.length (fl (eI .u64) y2), .val (.slice none 0 0)]⟩])) (n' := (n + 3)) (Fit2.of (Zs hU rfl rfl ?_) (by omega)) ?_
  ·simp only [push_cast, seval, ↓reduceIte, Za, hN0, hN]
  refine Fit2.trans (E' := (⟨149, [], [(0, .sl a0.length (fl (eL (eI .u64)) a0)), (2, .val (.int .i64 a2)), (3, .val (.int .i64 (IntKind.i64.wrap (a3 - z7)))), (5, .ref n 0), (8, .ref (n + 1) 0), (11, .ref (n + 2) 0), (13, .val (.int .i64 0))]⟩ : Env)) (O' := (Z3 O n [some ⟨false, 33, 7, 1, (Zo a1)⟩, some ⟨false, 58, 3, 1, [.val (.int .i64 0), .val (.slice none 0 0), .val (.slice none 0 0)]⟩, some ⟨false, 58, 3, 1, [.val (.int .i64 a1.Kind), .sl y2.length (fl (eI .u64) y2), .row (n + 3) 0]⟩, some ⟨true, 58, 3, 0, []⟩])) (n' := (n + 4)) ?_ ?_
  ·have ha := Zih (ba := n) (E := (⟨149, [], [(0, .sl a0.length (fl (eL (eI .u64)) a0)), (2, .val (.int .i64 a2)), (3, .val (.int .i64 (IntKind.i64.wrap (a3 - z7)))), (5, .ref n 0), (8, .ref (n + 1) 0), (11, .ref (n + 2) 0), (13, .val (.int .i64 0))]⟩ : Env)) (O := (Z3 O n [some ⟨false, 33, 7, 1, [.val (.int .i64 a1.Kind), .val (.int .i64 a1.S), .val (.int .i64 a1.At), .val (.int .i64 a1.Data), .val (.int .i64 a1.Ptrs), .val (.int .i64 a1.Count), .val (.int .u64 a1.N)]⟩, some ⟨false, 58, 3, 1, [.val (.int .i64 0), .val (.slice none 0 0), .val (.slice none 0 0)]⟩, some ⟨false, 58, 3, 1, [.val (.int .i64 a1.Kind), .sl y2.length (fl (eI .u64) y2), .val (.slice none 0 0)]⟩])) (n := (n + 3)) (p := (n + 2)) (k := 2) (q := ⟨false, 58, 3, 1, [.val (.int .i64 a1.Kind), .sl y2.length (fl (eI .u64) y2), .val (.slice none 0 0)]⟩) 58 3 (by simp only [Vx, Zfi, List.getElem?_cons_zero, List.getElem?_cons_succ, Option.join_some, Xs]) rfl (by omega)
   simp only [Zba, Gs, Zdg, Zca, List.set_cons_zero, List.set_cons_succ, List.cons_append, List.nil_append, List.length_cons, List.length_nil, Nat.zero_add, Nat.reduceAdd, Nat.reduceLT, Nat.add_assoc] at ha
   exact ha
  refine Fit2.trans (E' := (⟨149, [], [(0, .sl a0.length (fl (eL (eI .u64)) a0)), (2, .val (.int .i64 a2)), (3, .val (.int .i64 (IntKind.i64.wrap (a3 - z7)))), (5, .ref n 0), (8, .ref (n + 1) 0), (11, .ref (n + 2) 0), (13, .val (.int .i64 0))]⟩ : Env)) (O' := (Z3 O n [some ⟨false, 33, 7, 1, (Zo a1)⟩, some ⟨false, 58, 3, 1, [.val (.int .i64 0), .val (.slice none 0 0), .val (.slice none 0 0)]⟩, some ⟨false, 58, 3, 1, [.val (.int .i64 a1.Kind), .sl y2.length (fl (eI .u64) y2), .row (n + 3) ([] : List S_api_Tree).length]⟩, some ⟨true, 58, 3, ([] : List S_api_Tree).length, fl Zw ([] : List S_api_Tree)⟩])) (n' := (n + 4)) (Fit2.of (Zs hU rfl rfl ?_) (by omega)) ?_
  ·simp only [push_cast, seval, ↓reduceIte, Za, hN0, hN]
  refine Zhz (k := 4) (k' := 5) hU [0, 1, 2, 3] [0, 1, 2, 3, 0] rfl rfl rfl rfl ⟨rfl, rfl⟩ ?_
  simp only [push_cast, seval, ↓reduceIte, Za, hN0, hN]
 obtain ⟨z24, hz24, h⟩ := bC h
 refine Zig (J := (U2 (fun z24 => JR n (⟨149, [], [(8, .ref (n + 1) 0), (9, .val (.int .i64 z24.1)), (10, .val (.int .i64 z24.2.1))]⟩ : Env) (Z3 O n [none, some ⟨false, 58, 3, 1, [.val (.int .i64 a1.Kind), .sl y2.length (fl (eI .u64) y2), .sl z24.2.2.length (fl Zw z24.2.2)]⟩, none]) (n + 3)) (fun z24 => JX 0 n (⟨149, [], [(3, .val (.int .i64 z24.1)), (8, .ref (n + 1) 0), (11, .ref (n + 2) 0)]⟩ : Env) (Z3 O n [none, some ⟨false, 58, 3, 1, [.val (.int .i64 0), .val (.slice none 0 0), .val (.slice none 0 0)]⟩, some ⟨false, 58, 3, 1, [.val (.int .i64 a1.Kind), .sl y2.length (fl (eI .u64) y2), .row (n + 3) z24.2.length]⟩, some ⟨true, 58, 3, z24.2.length, fl Zw z24.2⟩, none]) (n + 5)))) (z := z24) ?_ fun hw => ?_
 ·refine Vz hz24 (fun s0_ => ⟨149, [], [(0, .sl a0.length (fl (eL (eI .u64)) a0)), (2, .val (.int .i64 a2)), (3, .val (.int .i64 s0_.1)), (5, .ref n 0), (8, .ref (n + 1) 0), (11, .ref (n + 2) 0), (13, .val (.int .i64 s0_.2.1))]⟩) (fun s0_ => (Z3 O n [some ⟨false, 33, 7, 1, (Zo a1)⟩, some ⟨false, 58, 3, 1, [.val (.int .i64 0), .val (.slice none 0 0), .val (.slice none 0 0)]⟩, some ⟨false, 58, 3, 1, [.val (.int .i64 a1.Kind), .sl y2.length (fl (eI .u64) y2), .row (n + 3) s0_.2.2.length]⟩, some ⟨true, 58, 3, s0_.2.2.length, fl Zw s0_.2.2⟩, none])) (U2 (fun z24 => JR n (⟨149, [], [(8, .ref (n + 1) 0), (9, .val (.int .i64 z24.1)), (10, .val (.int .i64 z24.2.1))]⟩ : Env) (Z3 O n [none, some ⟨false, 58, 3, 1, [.val (.int .i64 a1.Kind), .sl y2.length (fl (eI .u64) y2), .sl z24.2.2.length (fl Zw z24.2.2)]⟩, none]) (n + 3)) (fun z24 => JX 0 n (⟨149, [], [(3, .val (.int .i64 z24.1)), (8, .ref (n + 1) 0), (11, .ref (n + 2) 0)]⟩ : Env) (Z3 O n [none, some ⟨false, 58, 3, 1, [.val (.int .i64 0), .val (.slice none 0 0), .val (.slice none 0 0)]⟩, some ⟨false, 58, 3, 1, [.val (.int .i64 a1.Kind), .sl y2.length (fl (eI .u64) y2), .row (n + 3) z24.2.length]⟩, some ⟨true, 58, 3, z24.2.length, fl Zw z24.2⟩, none]) (n + 5))) ?_
  intro s0_ x0_ hs0_
  unfold Xn at hs0_
  try dsimp only
  refine Zg ?_
  refine Zg ?_
  obtain ⟨y10, hy10, hs0_⟩ := bC hs0_
  refine Zb Zc [] ?_
  simp only [push_cast, seval, ↓reduceIte, Za, hN0, hN]
  refine (J3 hy10).then ?_
  simp only [push_cast, seval, ↓reduceIte, Za, hN0, hN]
  refine Zf [0, 2, 3, 5, 8, 11, 13, 82] [true, true, true, true, false] ?_
  simp only [push_cast, seval, ↓reduceIte]
  refine Zr (t := (decide (s0_.2.1 < y10))) rfl (fun c23 => ?_) (fun c23 => ?_)
  ·replace hs0_ := Zv c23 hs0_
   refine Zx ?_
   try simp only [Zi, Ze]
   refine Zf [0, 2, 3, 5, 8, 11, 13] [true, true, true, true, false] ?_
   simp only [push_cast, seval, ↓reduceIte]
   refine Zg ?_
   refine X7 ?_
   refine Zg ?_
   obtain ⟨y12, hy12, hs0_⟩ := bC hs0_
   refine Zb Zc [] ?_
   simp only [push_cast, seval, ↓reduceIte, Za, hN0, hN]
   refine (Uj hy12).then ?_
   simp only [push_cast, seval, ↓reduceIte, Za, hN0, hN]
   refine Zf [0, 2, 3, 5, 8, 11, 13, 14, 15] [true, true, true, true, false, true] ?_
   simp only [push_cast, seval, ↓reduceIte]
   refine Zg ?_
   refine Zp [0, 2, 3, 5, 8, 11, 13, 14, 15, 93] (Zb Zc [] ?_)
   simp only [push_cast, seval, ↓reduceIte, Za, hN0, hN]
   refine Zr (t := (y12.2 != 0)) rfl (fun c22 => ?_) (fun c22 => ?_)
   ·replace hs0_ := Zv c22 hs0_
    refine Zg ?_
    refine Zb Zc [] ?_
    simp only [push_cast, seval, ↓reduceIte, Za, hN0, hN]
    refine Zf [8, 9, 10] [false, true, false, true, false, false] ?_
    simp only [push_cast, seval, ↓reduceIte]
    refine Zt ?_
    try simp only [Zi, Ze]
    have hs0_ := Option.some.inj hs0_; subst hs0_
    refine And.intro (fun h => by cases h) (And.intro rfl (Fit2.of (Zs hU rfl rfl ?_) (by omega)))
    simp only [push_cast, seval, ↓reduceIte, Za, hN0, hN]
   replace hs0_ := Zu c22 hs0_
   refine Zx ?_
   try simp only [Zi, Ze]
   refine Zf [0, 2, 3, 5, 8, 11, 13, 14, 15] [true, true, true, true, false, true] ?_
   simp only [push_cast, seval, ↓reduceIte]
   refine Zg ?_
   obtain ⟨y14, hy14, hs0_⟩ := bC hs0_
   refine Zbq Zc (by kernel_rfl) [.low, .low, .low, .low, .low, .low, .pass, .bar] (fun i => i < (n + 6)) [0, 1, 2, 3, 4, 5, 6, 7] [.low, .low, .low, .low, .low, .low, .pass, .bar] [] (by kernel_rfl) rfl ?_
   simp only [push_cast, seval, ↓reduceIte, Za, hN0, hN]
   repeat (with_reducible refine And.intro (by first | omega | exact Qh rfl | exact Xw | exact Kf rfl | exact Kj rfl rfl | exact agree_ltne rfl | exact agree_ltne0 rfl) ?_)
   first | refine PCallA.of (fun _ _ => Xr hy14) ?_ | refine PCall.of (Xr hy14) ?_
   simp only [push_cast, seval, ↓reduceIte, Za, hN0, hN]
   repeat (with_reducible refine And.intro (by first | omega | exact Qh rfl | exact Xw | exact Kf rfl | exact Kj rfl rfl | exact agree_ltne rfl | exact agree_ltne0 rfl) ?_)
   refine Zf [0, 2, 3, 5, 8, 11, 13, 14, 15, 16] [true, true, true, true, false, true, true] ?_
   simp only [push_cast, seval, ↓reduceIte]
   obtain ⟨z15, hz15, hs0_⟩ := bC hs0_
   refine Qt (E' := ⟨149, [], [(0, .sl a0.length (fl (eL (eI .u64)) a0)), (2, .val (.int .i64 a2)), (3, .val (.int .i64 z15.1)), (5, .ref n 0), (8, .ref (n + 1) 0), (11, .ref (n + 2) 0), (13, .val (.int .i64 s0_.2.1)), (15, .val (.int .i64 z15.2.1)), (16, .ref (n + 6) 0)]⟩) (O' := (Z3 O n [some ⟨false, 33, 7, 1, (Zo a1)⟩, some ⟨false, 58, 3, 1, [.val (.int .i64 0), .val (.slice none 0 0), .val (.slice none 0 0)]⟩, some ⟨false, 58, 3, 1, [.val (.int .i64 a1.Kind), .sl y2.length (fl (eI .u64) y2), .row (n + 3) s0_.2.2.length]⟩, some ⟨true, 58, 3, s0_.2.2.length, fl Zw s0_.2.2⟩, none, none, some ⟨false, 58, 3, 1, [.val (.int .i64 z15.2.2.1), .sl z15.2.2.2.1.length (fl (eI .u64) z15.2.2.2.1), .sl z15.2.2.2.2.length (fl Zw z15.2.2.2.2)]⟩])) (n0 := (n + 7)) ?_ ?_
   ·refine X7 ?_
    refine Zp [0, 2, 3, 5, 8, 11, 13, 14, 15, 16, 103] (Zb Zc [] ?_)
    simp only [push_cast, seval, ↓reduceIte, Za, hN0, hN]
    refine Zr (t := (a1.Kind == 9)) rfl (fun c19 => ?_) (fun c19 => ?_)
    ·replace hz15 := Zv c19 hz15
     obtain ⟨y16, hy16, hz15⟩ := bC hz15
     refine Zb Zc [] ?_
     simp only [push_cast, seval, ↓reduceIte, Za, hN0, hN]
     refine (Gc hy16).then ?_
     simp only [push_cast, seval, ↓reduceIte, Za, hN0, hN]
     have hz15 := Option.some.inj hz15; subst hz15
     refine And.intro rfl (Fit2.of (Zs hU rfl rfl ?_) (by omega))
     simp only [push_cast, seval, ↓reduceIte, Za, hN0, hN]
    replace hz15 := Zu c19 hz15
    refine Zp [0, 2, 3, 5, 8, 11, 13, 14, 15, 16, 117] (Zb Zc [none, none, none] ?_)
    simp only [push_cast, seval, ↓reduceIte, Za, hN0, hN]
    repeat (with_reducible refine And.intro (by first | (intro h0; simp only [h0, and_self]; done) | (intro h0; simp only [h0, Bool.not_false, Bool.not_true, Bool.true_and, Bool.and_true, true_and, and_true, and_self, imp_self, implies_true, bne_iff_ne, ne_eq, beq_iff_eq]; done) | (intros; simp_all; done) | exact True.intro) ?_)
    refine Zr (t := (cond (a1.Kind == 1) true (a1.Kind == 8))) rfl (fun c18 => ?_) (fun c18 => ?_)
    ·replace hz15 := Zv c18 hz15
     obtain ⟨y17, hy17, hz15⟩ := bC hz15
     refine Zb Zc [] ?_
     simp only [push_cast, seval, ↓reduceIte, Za, hN0, hN]
     refine (Jo hy17).then ?_
     simp only [push_cast, seval, ↓reduceIte, Za, hN0, hN]
     have hz15 := Option.some.inj hz15; subst hz15
     refine And.intro rfl (Fit2.of (Zs hU rfl rfl ?_) (by omega))
     simp only [push_cast, seval, ↓reduceIte, Za, hN0, hN]
    replace hz15 := Zu c18 hz15
    refine Zx ?_
    try simp only [Zi, Ze]
    have hz15 := Option.some.inj hz15; subst hz15
    refine And.intro rfl (Fit2.of (Zs hU rfl rfl ?_) (by omega))
    simp only [push_cast, seval, ↓reduceIte, Za, hN0, hN]
   refine Zg ?_
   refine Zp [0, 2, 3, 5, 8, 11, 13, 15, 16, 137] (Zb Zc [] ?_)
   simp only [push_cast, seval, ↓reduceIte, Za, hN0, hN]
   refine Zr (t := (z15.2.1 != 0)) rfl (fun c21 => ?_) (fun c21 => ?_)
   ·replace hs0_ := Zv c21 hs0_
    refine Zg ?_
    refine Zb Zc [] ?_
    simp only [push_cast, seval, ↓reduceIte, Za, hN0, hN]
    refine Zf [8, 9, 10] [false, true, false, true, false, false, false] ?_
    simp only [push_cast, seval, ↓reduceIte]
    refine Zt ?_
    try simp only [Zi, Ze]
    have hs0_ := Option.some.inj hs0_; subst hs0_
    refine And.intro (fun h => by cases h) (And.intro rfl (Fit2.of (Zs hU rfl rfl ?_) (by omega)))
    simp only [push_cast, seval, ↓reduceIte, Za, hN0, hN]
   replace hs0_ := Zu c21 hs0_
   refine Zx ?_
   try simp only [Zi, Ze]
   refine Zf [0, 2, 3, 5, 8, 11, 13, 16] [true, true, true, true, false, false, true] ?_
   simp only [push_cast, seval, ↓reduceIte]
   obtain ⟨l20, pl20, ql20, el20, hs0_⟩ := bA (k := 1) rfl hs0_
   refine Zb Zc [] ?_
   simp only [push_cast, seval, ↓reduceIte, Za, pl20, ql20, el20, hN0, hN]
   refine Zkz ⟨149, [], [(0, .sl a0.length (fl (eL (eI .u64)) a0)), (2, .val (.int .i64 a2)), (3, .val (.int .i64 z15.1)), (5, .ref n 0), (8, .ref (n + 1) 0), (11, .ref (n + 2) 0), (13, .val (.int .i64 s0_.2.1))]⟩ (Z3 O n [some ⟨false, 33, 7, 1, (Zo a1)⟩, some ⟨false, 58, 3, 1, [.val (.int .i64 0), .val (.slice none 0 0), .val (.slice none 0 0)]⟩, some ⟨false, 58, 3, 1, [.val (.int .i64 a1.Kind), .sl y2.length (fl (eI .u64) y2), .row (n + 3) l20.length]⟩, some ⟨true, 58, 3, l20.length, fl Zw l20⟩, none, none, none, none]) (Zs hU rfl rfl ?_) ?_
   ·simp only [push_cast, seval, ↓reduceIte, Za, pl20, ql20, el20, hN0, hN]
   refine Zb Zc [] ?_
   simp only [push_cast, seval, ↓reduceIte, Za, hN0, hN]
   have hs0_ := Option.some.inj hs0_; subst hs0_
   refine And.intro rfl (Fit2.of (Zs hU rfl rfl ?_) (by omega))
   simp only [push_cast, seval, ↓reduceIte, Za, hN0, hN]
  replace hs0_ := Zu c23 hs0_
  refine Gy ?_
  try simp only [Zi, Ze, ↓reduceIte, Nat.reduceEqDiff]
  have hs0_ := Option.some.inj hs0_; subst hs0_
  refine And.intro (fun h => by cases h) (And.intro rfl (Fit2.of (Zs hU rfl rfl ?_) (by omega)))
  simp only [push_cast, seval, ↓reduceIte, Za, hN0, hN]
 rcases z24 with z24 | z24
 ·dsimp only [U2] at hw h
  refine Zcb hw ?_
  try simp only [Zi, Ze, ↓reduceIte, Nat.reduceEqDiff]
  have h := Option.some.inj h; subst h
  refine Zl (.inr rfl) hU [.agg [.val (.int .i64 a1.Kind), .sl y2.length (fl (eI .u64) y2), .sl z24.2.2.length (fl Zw z24.2.2)], .val (.int .i64 z24.1), .val (.int .i64 z24.2.1)] (by omega) ?_
  simp only [push_cast, seval, ↓reduceIte, Za, Try.results63, hN0, hN]
 dsimp only [U2] at hw h
 refine Ki hw ?_
 try simp only [Zi, Ze, ↓reduceIte, Nat.reduceEqDiff]
 refine Zf [3, 8, 11] [false, true, true, true, false] ?_
 simp only [push_cast, seval, ↓reduceIte]
 refine Zg ?_
 refine Zb Zc [] ?_
 simp only [push_cast, seval, ↓reduceIte, Za, hN0, hN]
 refine Zf [8, 9, 10] [false, true, false, true, false] ?_
 simp only [push_cast, seval, ↓reduceIte]
 refine Zt ?_
 try simp only [Zi, Ze]
 have h := Option.some.inj h; subst h
 refine Zl (.inr rfl) hU [.agg [.val (.int .i64 a1.Kind), .sl y2.length (fl (eI .u64) y2), .row (n + 3) z24.2.length], .val (.int .i64 z24.1), .val (.int .i64 0)] (by omega) ?_
 simp only [push_cast, seval, ↓reduceIte, Za, Try.results63, hN0, hN]
theorem Zd2 {Ya : ((List (List Int)) → Zn → Int → Int → Option (S_api_Tree × Int × Int))} {Yu : ((List (List Int)) → Zn → Int → Int → Option (S_api_Tree × Int × Int))} (Jo : ∀ {a0 : (List (List Int))} {a1 : Zn} {a2 : Int} {a3 : Int} {r : (S_api_Tree × Int × Int)} {O : Objs} {n : Nat}, Ya a0 a1 a2 a3 = some r → GTo Try.prog 63 [.sl a0.length (fl (eL (eI .u64)) a0), .agg (Zo a1), .val (.int .i64 a2), .val (.int .i64 a3)] O n (.tup [.agg (Y6 r.1), .val (.int .i64 r.2.1), .val (.int .i64 r.2.2)]) O n) (Gc : ∀ {a0 : (List (List Int))} {a1 : Zn} {a2 : Int} {a3 : Int} {r : (S_api_Tree × Int × Int)} {O : Objs} {n : Nat}, Yu a0 a1 a2 a3 = some r → GTo Try.prog 87 [.sl a0.length (fl (eL (eI .u64)) a0), .agg (Zo a1), .val (.int .i64 a2), .val (.int .i64 a3)] O n (.tup [.agg (Y6 r.1), .val (.int .i64 r.2.1), .val (.int .i64 r.2.2)]) O n) {a0 : (List (List Int))} {a1 : Zn} {a2 : Int} {a3 : Int} {r : (S_api_Tree × Int × Int)} {O : Objs} {n : Nat} (h : Qi Ya Yu a0 a1 a2 a3 = some r) : GTo Try.prog 87 [.sl a0.length (fl (eL (eI .u64)) a0), .agg (Zo a1), .val (.int .i64 a2), .val (.int .i64 a3)] O n (.tup [.agg (Y6 r.1), .val (.int .i64 r.2.1), .val (.int .i64 r.2.2)]) O n := by
 unfold Qi at h
 refine Yl Zc Try.call87 Try.func87 rfl (Nat.le_of_ble_eq_true rfl) (Nat.le_refl _) fun hU => ?_
 have hN0 : O n = none := hU.fresh _ (Nat.le_refl _)
 have hN : ∀ k, O (n + k) = none := fun k => hU.fresh _ (Nat.le_add_right _ _)
 show W _ _ _ _ ⟨63, [], [(0, .sl a0.length (fl (eL (eI .u64)) a0)), (1, .agg (Zo a1)), (2, .val (.int .i64 a2)), (3, .val (.int .i64 a3))]⟩ (Z3 O n []) _
 refine Zp [0, 2, 3, 5, 8] (Zb Zc [] ?_)
 simp only [push_cast, seval, ↓reduceIte, Za, hN0, hN]
 refine Zg ?_
 obtain ⟨y2, hy2, h⟩ := bC h
 refine Zb Zc [] ?_
 simp only [push_cast, seval, ↓reduceIte, Za, hN0, hN]
 refine (Xr hy2).then ?_
 simp only [push_cast, seval, ↓reduceIte, Za, hN0, hN]
 refine Zf [0, 2, 3, 5, 8, 11] [true, true, true] ?_
 simp only [push_cast, seval, ↓reduceIte]
 refine Zg ?_
 refine Zp [0, 2, 3, 5, 8, 11, 12] (Zb Zc [] ?_)
 simp only [push_cast, seval, ↓reduceIte, Za, hN0, hN]
 refine Zf [0, 2, 3, 5, 8, 11, 12] [true, true, true] ?_
 simp only [push_cast, seval, ↓reduceIte]
 refine Zqa (E' := (⟨63, [], [(0, .sl a0.length (fl (eL (eI .u64)) a0)), (2, .val (.int .i64 a2)), (3, .val (.int .i64 a3)), (5, .ref n 0), (8, .ref (n + 1) 0), (11, .ref (n + 2) 0), (12, .val (.int .i64 0))]⟩ : Env)) (O' := (Z3 O n [some ⟨false, 33, 7, 1, (Zo a1)⟩, some ⟨false, 58, 3, 1, [.val (.int .i64 0), .val (.slice none 0 0), .val (.slice none 0 0)]⟩, some ⟨false, 58, 3, 1, [.val (.int .i64 1), .sl y2.length (fl (eI .u64) y2), .row (n + 3) ([] : List S_api_Tree).length]⟩, some ⟨true, 58, 3, ([] : List S_api_Tree).length, fl Zw ([] : List S_api_Tree)⟩, none])) (n' := (n + 5)) ?_ ?_
 ·refine Fit2.trans (E' := (⟨63, [], [(0, .sl a0.length (fl (eL (eI .u64)) a0)), (2, .val (.int .i64 a2)), (3, .val (.int .i64 a3)), (5, .ref n 0), (8, .ref (n + 1) 0), (11, .ref (n + 2) 0), (12, .val (.int .i64 0))]⟩ : Env)) (O' := (Z3 O n [some ⟨false, 33, 7, 1, (Zo a1)⟩, some ⟨false, 58, 3, 1, [.val (.int .i64 0), .val (.slice none 0 0), .val (.slice none 0 0)]⟩, some ⟨false, 58, 3, 1, [.val (.int .i64 1), .sl y2.length (fl (eI .u64) y2), .val (.slice none 0 0)]⟩])) (n' := (n + 3)) (Fit2.of (Zs hU rfl rfl ?_) (by omega)) ?_
  ·simp only [push_cast, seval, ↓reduceIte, Za, hN0, hN]
  refine Fit2.trans (E' := (⟨63, [], [(0, .sl a0.length (fl (eL (eI .u64)) a0)), (2, .val (.int .i64 a2)), (3, .val (.int .i64 a3)), (5, .ref n 0), (8, .ref (n + 1) 0), (11, .ref (n + 2) 0), (12, .val (.int .i64 0))]⟩ : Env)) (O' := (Z3 O n [some ⟨false, 33, 7, 1, (Zo a1)⟩, some ⟨false, 58, 3, 1, [.val (.int .i64 0), .val (.slice none 0 0), .val (.slice none 0 0)]⟩, some ⟨false, 58, 3, 1, [.val (.int .i64 1), .sl y2.length (fl (eI .u64) y2), .row (n + 3) 0]⟩, some ⟨true, 58, 3, 0, []⟩])) (n' := (n + 4)) ?_ ?_
  ·have ha := Zih (ba := n) (E := (⟨63, [], [(0, .sl a0.length (fl (eL (eI .u64)) a0)), (2, .val (.int .i64 a2)), (3, .val (.int .i64 a3)), (5, .ref n 0), (8, .ref (n + 1) 0), (11, .ref (n + 2) 0), (12, .val (.int .i64 0))]⟩ : Env)) (O := (Z3 O n [some ⟨false, 33, 7, 1, [.val (.int .i64 a1.Kind), .val (.int .i64 a1.S), .val (.int .i64 a1.At), .val (.int .i64 a1.Data), .val (.int .i64 a1.Ptrs), .val (.int .i64 a1.Count), .val (.int .u64 a1.N)]⟩, some ⟨false, 58, 3, 1, [.val (.int .i64 0), .val (.slice none 0 0), .val (.slice none 0 0)]⟩, some ⟨false, 58, 3, 1, [.val (.int .i64 1), .sl y2.length (fl (eI .u64) y2), .val (.slice none 0 0)]⟩])) (n := (n + 3)) (p := (n + 2)) (k := 2) (q := ⟨false, 58, 3, 1, [.val (.int .i64 1), .sl y2.length (fl (eI .u64) y2), .val (.slice none 0 0)]⟩) 58 3 (by simp only [Vx, Zfi, List.getElem?_cons_zero, List.getElem?_cons_succ, Option.join_some, Xs]) rfl (by omega)
   simp only [Zba, Gs, Zdg, Zca, List.set_cons_zero, List.set_cons_succ, List.cons_append, List.nil_append, List.length_cons, List.length_nil, Nat.zero_add, Nat.reduceAdd, Nat.reduceLT, Nat.add_assoc] at ha
   exact ha
  refine Fit2.trans (E' := (⟨63, [], [(0, .sl a0.length (fl (eL (eI .u64)) a0)), (2, .val (.int .i64 a2)), (3, .val (.int .i64 a3)), (5, .ref n 0), (8, .ref (n + 1) 0), (11, .ref (n + 2) 0), (12, .val (.int .i64 0))]⟩ : Env)) (O' := (Z3 O n [some ⟨false, 33, 7, 1, (Zo a1)⟩, some ⟨false, 58, 3, 1, [.val (.int .i64 0), .val (.slice none 0 0), .val (.slice none 0 0)]⟩, some ⟨false, 58, 3, 1, [.val (.int .i64 1), .sl y2.length (fl (eI .u64) y2), .row (n + 3) ([] : List S_api_Tree).length]⟩, some ⟨true, 58, 3, ([] : List S_api_Tree).length, fl Zw ([] : List S_api_Tree)⟩])) (n' := (n + 4)) (Fit2.of (Zs hU rfl rfl ?_) (by omega)) ?_
  ·simp only [push_cast, seval, ↓reduceIte, Za, hN0, hN]
  refine Zhz (k := 4) (k' := 5) hU [0, 1, 2, 3] [0, 1, 2, 3, 0] rfl rfl rfl rfl ⟨rfl, rfl⟩ ?_
  simp only [push_cast, seval, ↓reduceIte, Za, hN0, hN]
 obtain ⟨z11, hz11, h⟩ := bC h
 refine Zig (J := (U2 (fun z11 => JR n (⟨63, [], [(8, .ref (n + 1) 0), (9, .val (.int .i64 z11.1)), (10, .val (.int .i64 z11.2.1))]⟩ : Env) (Z3 O n [none, some ⟨false, 58, 3, 1, [.val (.int .i64 1), .sl y2.length (fl (eI .u64) y2), .sl z11.2.2.length (fl Zw z11.2.2)]⟩, none]) (n + 3)) (fun z11 => JX 0 n (⟨63, [], [(3, .val (.int .i64 z11.1)), (8, .ref (n + 1) 0), (11, .ref (n + 2) 0)]⟩ : Env) (Z3 O n [none, some ⟨false, 58, 3, 1, [.val (.int .i64 0), .val (.slice none 0 0), .val (.slice none 0 0)]⟩, some ⟨false, 58, 3, 1, [.val (.int .i64 1), .sl y2.length (fl (eI .u64) y2), .row (n + 3) z11.2.length]⟩, some ⟨true, 58, 3, z11.2.length, fl Zw z11.2⟩, none]) (n + 5)))) (z := z11) ?_ fun hw => ?_
 ·refine Vz hz11 (fun s0_ => ⟨63, [], [(0, .sl a0.length (fl (eL (eI .u64)) a0)), (2, .val (.int .i64 a2)), (3, .val (.int .i64 s0_.1)), (5, .ref n 0), (8, .ref (n + 1) 0), (11, .ref (n + 2) 0), (12, .val (.int .i64 s0_.2.1))]⟩) (fun s0_ => (Z3 O n [some ⟨false, 33, 7, 1, (Zo a1)⟩, some ⟨false, 58, 3, 1, [.val (.int .i64 0), .val (.slice none 0 0), .val (.slice none 0 0)]⟩, some ⟨false, 58, 3, 1, [.val (.int .i64 1), .sl y2.length (fl (eI .u64) y2), .row (n + 3) s0_.2.2.length]⟩, some ⟨true, 58, 3, s0_.2.2.length, fl Zw s0_.2.2⟩, none])) (U2 (fun z11 => JR n (⟨63, [], [(8, .ref (n + 1) 0), (9, .val (.int .i64 z11.1)), (10, .val (.int .i64 z11.2.1))]⟩ : Env) (Z3 O n [none, some ⟨false, 58, 3, 1, [.val (.int .i64 1), .sl y2.length (fl (eI .u64) y2), .sl z11.2.2.length (fl Zw z11.2.2)]⟩, none]) (n + 3)) (fun z11 => JX 0 n (⟨63, [], [(3, .val (.int .i64 z11.1)), (8, .ref (n + 1) 0), (11, .ref (n + 2) 0)]⟩ : Env) (Z3 O n [none, some ⟨false, 58, 3, 1, [.val (.int .i64 0), .val (.slice none 0 0), .val (.slice none 0 0)]⟩, some ⟨false, 58, 3, 1, [.val (.int .i64 1), .sl y2.length (fl (eI .u64) y2), .row (n + 3) z11.2.length]⟩, some ⟨true, 58, 3, z11.2.length, fl Zw z11.2⟩, none]) (n + 5))) ?_
  intro s0_ x0_ hs0_
  unfold Qf at hs0_
  try dsimp only
  refine Zg ?_
  refine Zp [0, 2, 3, 5, 8, 11, 12, 25] (Zb Zc [] ?_)
  simp only [push_cast, seval, ↓reduceIte, Za, hN0, hN]
  refine Zr (t := (decide (s0_.2.1 < a1.Ptrs))) rfl (fun c10 => ?_) (fun c10 => ?_)
  ·replace hs0_ := Zv c10 hs0_
   refine Zx ?_
   try simp only [Zi, Ze]
   refine Zf [0, 2, 3, 5, 8, 11, 12] [true, true, true, true, false] ?_
   simp only [push_cast, seval, ↓reduceIte]
   refine Zg ?_
   refine X7 ?_
   refine Zg ?_
   obtain ⟨y4, hy4, hs0_⟩ := bC hs0_
   refine Zb Zc [] ?_
   simp only [push_cast, seval, ↓reduceIte, Za, hN0, hN]
   refine (Uj hy4).then ?_
   simp only [push_cast, seval, ↓reduceIte, Za, hN0, hN]
   refine Zf [0, 2, 3, 5, 8, 11, 12, 13, 14] [true, true, true, true, false, true] ?_
   simp only [push_cast, seval, ↓reduceIte]
   refine Zg ?_
   refine Zp [0, 2, 3, 5, 8, 11, 12, 13, 14, 36] (Zb Zc [] ?_)
   simp only [push_cast, seval, ↓reduceIte, Za, hN0, hN]
   refine Zr (t := (y4.2 != 0)) rfl (fun c9 => ?_) (fun c9 => ?_)
   ·replace hs0_ := Zv c9 hs0_
    refine Zg ?_
    refine Zb Zc [] ?_
    simp only [push_cast, seval, ↓reduceIte, Za, hN0, hN]
    refine Zf [8, 9, 10] [false, true, false, true, false, false] ?_
    simp only [push_cast, seval, ↓reduceIte]
    refine Zt ?_
    try simp only [Zi, Ze]
    have hs0_ := Option.some.inj hs0_; subst hs0_
    refine And.intro (fun h => by cases h) (And.intro rfl (Fit2.of (Zs hU rfl rfl ?_) (by omega)))
    simp only [push_cast, seval, ↓reduceIte, Za, hN0, hN]
   replace hs0_ := Zu c9 hs0_
   refine Zx ?_
   try simp only [Zi, Ze]
   refine Zf [0, 2, 3, 5, 8, 11, 12, 13] [true, true, true, true, false, true] ?_
   simp only [push_cast, seval, ↓reduceIte]
   refine Zg ?_
   obtain ⟨y6, hy6, hs0_⟩ := bC hs0_
   refine Zb Zc [] ?_
   simp only [push_cast, seval, ↓reduceIte, Za, hN0, hN]
   refine (Jo hy6).then ?_
   simp only [push_cast, seval, ↓reduceIte, Za, hN0, hN]
   refine Zf [0, 2, 5, 8, 11, 12, 15, 16, 17] [true, true, true, true, false, false, true] ?_
   simp only [push_cast, seval, ↓reduceIte]
   refine Zg ?_
   refine Zp [0, 2, 5, 8, 11, 12, 15, 16, 17, 50] (Zb Zc [] ?_)
   simp only [push_cast, seval, ↓reduceIte, Za, hN0, hN]
   refine Zr (t := (y6.2.2 != 0)) rfl (fun c8 => ?_) (fun c8 => ?_)
   ·replace hs0_ := Zv c8 hs0_
    refine Zg ?_
    refine Zb Zc [] ?_
    simp only [push_cast, seval, ↓reduceIte, Za, hN0, hN]
    refine Zf [8, 9, 10] [false, true, false, true, false, false, false] ?_
    simp only [push_cast, seval, ↓reduceIte]
    refine Zt ?_
    try simp only [Zi, Ze]
    have hs0_ := Option.some.inj hs0_; subst hs0_
    refine And.intro (fun h => by cases h) (And.intro rfl (Fit2.of (Zs hU rfl rfl ?_) (by omega)))
    simp only [push_cast, seval, ↓reduceIte, Za, hN0, hN]
   replace hs0_ := Zu c8 hs0_
   refine Zx ?_
   try simp only [Zi, Ze]
   refine Zf [0, 2, 5, 8, 11, 12, 15, 16] [true, true, true, true, false, false, true] ?_
   simp only [push_cast, seval, ↓reduceIte]
   refine Zp [0, 2, 3, 5, 8, 11, 12, 15] (Zb Zc [] ?_)
   simp only [push_cast, seval, ↓reduceIte, Za, hN0, hN]
   obtain ⟨l7, pl7, ql7, el7, hs0_⟩ := bA (k := 1) rfl hs0_
   refine Zb Zc [] ?_
   simp only [push_cast, seval, ↓reduceIte, Za, pl7, ql7, el7, hN0, hN]
   refine Zkz ⟨63, [], [(0, .sl a0.length (fl (eL (eI .u64)) a0)), (2, .val (.int .i64 a2)), (3, .val (.int .i64 y6.2.1)), (5, .ref n 0), (8, .ref (n + 1) 0), (11, .ref (n + 2) 0), (12, .val (.int .i64 s0_.2.1))]⟩ (Z3 O n [some ⟨false, 33, 7, 1, (Zo a1)⟩, some ⟨false, 58, 3, 1, [.val (.int .i64 0), .val (.slice none 0 0), .val (.slice none 0 0)]⟩, some ⟨false, 58, 3, 1, [.val (.int .i64 1), .sl y2.length (fl (eI .u64) y2), .row (n + 3) l7.length]⟩, some ⟨true, 58, 3, l7.length, fl Zw l7⟩, none, none, none, none]) (Zs hU rfl rfl ?_) ?_
   ·simp only [push_cast, seval, ↓reduceIte, Za, pl7, ql7, el7, hN0, hN]
   refine Zb Zc [] ?_
   simp only [push_cast, seval, ↓reduceIte, Za, hN0, hN]
   have hs0_ := Option.some.inj hs0_; subst hs0_
   refine And.intro rfl (Fit2.of (Zs hU rfl rfl ?_) (by omega))
   simp only [push_cast, seval, ↓reduceIte, Za, hN0, hN]
  replace hs0_ := Zu c10 hs0_
  refine Gy ?_
  try simp only [Zi, Ze, ↓reduceIte, Nat.reduceEqDiff]
  have hs0_ := Option.some.inj hs0_; subst hs0_
  refine And.intro (fun h => by cases h) (And.intro rfl (Fit2.of (Zs hU rfl rfl ?_) (by omega)))
  simp only [push_cast, seval, ↓reduceIte, Za, hN0, hN]
 rcases z11 with z11 | z11
 ·dsimp only [U2] at hw h
  refine Zcb hw ?_
  try simp only [Zi, Ze, ↓reduceIte, Nat.reduceEqDiff]
  have h := Option.some.inj h; subst h
  refine Zl (.inr rfl) hU [.agg [.val (.int .i64 1), .sl y2.length (fl (eI .u64) y2), .sl z11.2.2.length (fl Zw z11.2.2)], .val (.int .i64 z11.1), .val (.int .i64 z11.2.1)] (by omega) ?_
  simp only [push_cast, seval, ↓reduceIte, Za, Try.results87, hN0, hN]
 dsimp only [U2] at hw h
 refine Ki hw ?_
 try simp only [Zi, Ze, ↓reduceIte, Nat.reduceEqDiff]
 refine Zf [3, 8, 11] [false, true, true, true, false] ?_
 simp only [push_cast, seval, ↓reduceIte]
 refine Zg ?_
 refine Zb Zc [] ?_
 simp only [push_cast, seval, ↓reduceIte, Za, hN0, hN]
 refine Zf [8, 9, 10] [false, true, false, true, false] ?_
 simp only [push_cast, seval, ↓reduceIte]
 refine Zt ?_
 try simp only [Zi, Ze]
 have h := Option.some.inj h; subst h
 refine Zl (.inr rfl) hU [.agg [.val (.int .i64 1), .sl y2.length (fl (eI .u64) y2), .row (n + 3) z11.2.length], .val (.int .i64 z11.1), .val (.int .i64 0)] (by omega) ?_
 simp only [push_cast, seval, ↓reduceIte, Za, Try.results87, hN0, hN]
theorem Za1 : ∀ k, (∀ {a0 : (List (List Int))} {a1 : Zn} {a2 : Int} {a3 : Int} {r : (S_api_Tree × Int × Int)} {O : Objs} {n : Nat}, (Z9 k).1 a0 a1 a2 a3 = some r → GTo Try.prog 63 [.sl a0.length (fl (eL (eI .u64)) a0), .agg (Zo a1), .val (.int .i64 a2), .val (.int .i64 a3)] O n (.tup [.agg (Y6 r.1), .val (.int .i64 r.2.1), .val (.int .i64 r.2.2)]) O n) ∧ (∀ {a0 : (List (List Int))} {a1 : Zn} {a2 : Int} {a3 : Int} {r : (S_api_Tree × Int × Int)} {O : Objs} {n : Nat}, (Z9 k).2 a0 a1 a2 a3 = some r → GTo Try.prog 87 [.sl a0.length (fl (eL (eI .u64)) a0), .agg (Zo a1), .val (.int .i64 a2), .val (.int .i64 a3)] O n (.tup [.agg (Y6 r.1), .val (.int .i64 r.2.1), .val (.int .i64 r.2.2)]) O n) := fun k => by
 induction k with
 | zero => exact ⟨@fun a0 a1 a2 a3 r O n h => (nomatch (show (none : Option _) = some _ from h)), @fun a0 a1 a2 a3 r O n h => (nomatch (show (none : Option _) = some _ from h))⟩
 | succ k ih => exact ⟨@fun a0 a1 a2 a3 r O n h => Zbw (ih.1) (ih.2)  h, @fun a0 a1 a2 a3 r O n h => Zd2 (ih.1) (ih.2)  h⟩
theorem Zb9 {a0 : (List (List Int))} {a1 : Zn} {a2 : Int} {a3 : Int} {r : (S_api_Tree × Int × Int)} {O : Objs} {n : Nat} (h : Km a0 a1 a2 a3 = some r) : GTo Try.prog 63 [.sl a0.length (fl (eL (eI .u64)) a0), .agg (Zo a1), .val (.int .i64 a2), .val (.int .i64 a3)] O n (.tup [.agg (Y6 r.1), .val (.int .i64 r.2.1), .val (.int .i64 r.2.2)]) O n := by
 obtain ⟨k, hk⟩ := Zpi h
 exact (Za1 k).1  hk
theorem Kp {a0 : (List (List Int))} {a1 : Z5} {r : (S_api_Tree × Int × Int)} {O : Objs} {n : Nat} (h : Yj a0 a1 = some r) : GTo Try.prog 32 [.sl a0.length (fl (eL (eI .u64)) a0), .agg (Yr a1)] O n (.tup [.agg (Y6 r.1), .val (.int .i64 r.2.1), .val (.int .i64 r.2.2)]) O n := by
 unfold Yj at h
 refine Yl Zc Try.call32 Try.func32 rfl (Nat.le_of_ble_eq_true rfl) (Nat.le_refl _) fun hU => ?_
 have hN0 : O n = none := hU.fresh _ (Nat.le_refl _)
 have hN : ∀ k, O (n + k) = none := fun k => hU.fresh _ (Nat.le_add_right _ _)
 show W _ _ _ _ ⟨43, [], [(0, .sl a0.length (fl (eL (eI .u64)) a0)), (1, .agg (Yr a1))]⟩ (Z3 O n []) _
 refine Zp [0, 3, 4] (Zb Zc [] ?_)
 simp only [push_cast, seval, ↓reduceIte, Za, hN0, hN]
 refine Zg ?_
 obtain ⟨y2, hy2, h⟩ := bC h
 refine Zb Zc [] ?_
 simp only [push_cast, seval, ↓reduceIte, Za, hN0, hN]
 refine (Zcx hy2).then ?_
 simp only [push_cast, seval, ↓reduceIte, Za, hN0, hN]
 refine Zf [0, 3, 4] [true, true] ?_
 simp only [push_cast, seval, ↓reduceIte]
 refine Zg ?_
 obtain ⟨y4, hy4, h⟩ := bC h
 refine Zb Zc [] ?_
 simp only [push_cast, seval, ↓reduceIte, Za, hN0, hN]
 refine (Ur hy4).then ?_
 simp only [push_cast, seval, ↓reduceIte, Za, hN0, hN]
 refine Zf [0, 3, 4, 7, 8] [true, true, true] ?_
 simp only [push_cast, seval, ↓reduceIte]
 refine Zg ?_
 refine Zp [0, 3, 4, 7, 8, 20] (Zb Zc [] ?_)
 simp only [push_cast, seval, ↓reduceIte, Za, hN0, hN]
 refine Zr (t := (y4.2 != 0)) rfl (fun c8 => ?_) (fun c8 => ?_)
 ·replace h := Zv c8 h
  refine Zg ?_
  refine Zb Zc [] ?_
  simp only [push_cast, seval, ↓reduceIte, Za, hN0, hN]
  refine Zf [4, 5, 6] [false, true, false] ?_
  simp only [push_cast, seval, ↓reduceIte]
  refine Zt ?_
  try simp only [Zi, Ze]
  have h := Option.some.inj h; subst h
  refine Zl (.inr rfl) hU [.agg [.val (.int .i64 0), .val (.slice none 0 0), .val (.slice none 0 0)], .val (.int .i64 0), .val (.int .i64 y4.2)] (by omega) ?_
  simp only [push_cast, seval, ↓reduceIte, Za, Try.results32, hN0, hN]
 replace h := Zu c8 h
 refine Zx ?_
 try simp only [Zi, Ze]
 refine Zf [0, 3, 4, 7] [true, true, true] ?_
 simp only [push_cast, seval, ↓reduceIte]
 refine Zg ?_
 obtain ⟨y6, hy6, h⟩ := bC h
 refine Zb Zc [] ?_
 simp only [push_cast, seval, ↓reduceIte, Za, hN0, hN]
 refine (Zb9 hy6).then ?_
 simp only [push_cast, seval, ↓reduceIte, Za, hN0, hN]
 refine Zf [3, 4, 9, 10, 11] [true, true, false, true] ?_
 simp only [push_cast, seval, ↓reduceIte]
 refine Zg ?_
 refine Zp [3, 4, 9, 10, 11, 35] (Zb Zc [] ?_)
 simp only [push_cast, seval, ↓reduceIte, Za, hN0, hN]
 refine Zr (t := (y6.2.2 != 0)) rfl (fun c7 => ?_) (fun c7 => ?_)
 ·replace h := Zv c7 h
  refine Zg ?_
  refine Zb Zc [] ?_
  simp only [push_cast, seval, ↓reduceIte, Za, hN0, hN]
  refine Zf [4, 5, 6] [false, true, false, false] ?_
  simp only [push_cast, seval, ↓reduceIte]
  refine Zt ?_
  try simp only [Zi, Ze]
  have h := Option.some.inj h; subst h
  refine Zl (.inr rfl) hU [.agg [.val (.int .i64 0), .val (.slice none 0 0), .val (.slice none 0 0)], .val (.int .i64 0), .val (.int .i64 y6.2.2)] (by omega) ?_
  simp only [push_cast, seval, ↓reduceIte, Za, Try.results32, hN0, hN]
 replace h := Zu c7 h
 refine Zx ?_
 try simp only [Zi, Ze]
 refine Zf [3, 4, 9, 10] [true, true, false, true] ?_
 simp only [push_cast, seval, ↓reduceIte]
 refine Zg ?_
 refine Zbq Zc (by kernel_rfl) [.plain, .low, .low, .low, .low, .pass, .plain, .plain] (fun i => i ≠ n + 1) [0, 1, 2, 3, 4, 5, 6, 7] [.plain, .low, .low, .low, .low, .pass, .plain, .plain] [] (by kernel_rfl) rfl ?_
 simp only [push_cast, seval, ↓reduceIte, Za, hN0, hN]
 repeat (with_reducible refine And.intro (by first | omega | exact Qh rfl | exact Xw | exact Kf rfl | exact Kj rfl rfl | exact agree_ltne rfl | exact agree_ltne0 rfl) ?_)
 refine Zf [4, 5, 6] [false, true, false, false] ?_
 simp only [push_cast, seval, ↓reduceIte]
 refine Zt ?_
 try simp only [Zi, Ze]
 have h := Option.some.inj h; subst h
 refine Zl (.inr rfl) hU [.agg (Y6 y6.1), .val (.int .i64 (IntKind.i64.wrap (y2.Weight - y6.2.1))), .val (.int .i64 0)] (by omega) ?_
 simp only [push_cast, seval, ↓reduceIte, Za, Try.results32, hN0, hN]
theorem Jv {a0 r : List Int} {O : Objs} {n : Nat} (h : Yk a0 = some r) : GTo Try.prog 70 [.sl a0.length (fl (eI .u64) a0)] O n (.row n r.length) (Z3 O n [some ⟨true, 31, 1, r.length, fl (eI .u64) r⟩]) (n + 1) := by
 have h1 := Zqd h
 have h2 := Zqe h
 have h3 := Zlo h
 rw [List.nil_append] at h3
 subst h3
 simp only [List.length_nil, Nat.zero_add] at h1 h2
 clear h
 refine Yl Zc Try.call70 Try.func70 rfl (Nat.le_of_ble_eq_true rfl) (by omega) fun hU => ?_
 have hN0 : O n = none := hU.fresh _ (Nat.le_refl _)
 have hN : ∀ k, O (n + k) = none := fun k => hU.fresh _ (Nat.le_add_right _ _)
 show W _ _ _ _ ⟨8, [], [(0, .sl r.length (fl (eI .u64) r))]⟩ (Z3 O n []) _
 refine Zp [0] (Zb Zc [] ?_)
 simp only [push_cast, seval, ↓reduceIte, Za, hN0, hN]
 refine Zxa 0 r.length (fl (eI .u64) r) rfl (Nat.le_of_ble_eq_true rfl) (Yh Qr _) fun A c hA => ?_
 refine Zp [0, 4] (Zb Zc [] ?_)
 simp only [push_cast, seval, ↓reduceIte, Za, hN0, hN]
 cases A with
 | none =>
  obtain rfl : r = [] := List.eq_nil_of_length_eq_zero (hA rfl)
  refine Zr (t := true) rfl (fun _ => ?_) (fun hc => by cases hc)
  refine Zp [2] (Zb Zc [] ?_)
  simp only [push_cast, seval, ↓reduceIte, Za, hN0, hN]
  refine Zt ?_
  try simp only [Zi, Ze]
  refine Zt5 (k := 1) (L3 := [some ⟨true, 31, 1, 0, []⟩]) (E2 := ⟨8, [], [(2, .row n 0), (2, .val (.slice none 0 0))]⟩) (n3 := (n + 1)) (.inr rfl) hU rfl [.row n 0] ?_ ?_
  ·have ha := Zsz (ba := n) (E := ⟨8, [], [(2, .val (.slice none 0 0))]⟩) (O := (Z3 O n [])) (n := n) 2 31 1 rfl (by omega)
   simp only [Gs] at ha
   exact ha
  simp only [push_cast, seval, ↓reduceIte, Za, Try.results70, hN0, hN]
 | some A =>
  refine Zr (t := false) rfl (fun hc => by cases hc) (fun _ => ?_)
  refine Zx ?_
  try simp only [Zi, Ze]
  refine And.intro rfl (And.intro (Nat.le_of_ble_eq_true rfl) ?_)
  refine Zg ?_
  refine Zb Zc [] ?_
  simp only [push_cast, seval, ↓reduceIte, Za, h1, h2, hN0, hN]
  refine Zt ?_
  try simp only [Zi, Ze]
  refine Zt4 (.inr rfl) hU rfl [.row n r.length] (by omega) ?_
  simp only [push_cast, seval, ↓reduceIte, Za, Try.results70, hN0, hN]
theorem Us {a0 r : List Int} {O : Objs} {n : Nat} (h : Yk a0 = some r) : GTo Try.prog 70 [.sl a0.length (fl (eI .u64) a0)] O n (.sl r.length (fl (eI .u64) r)) O n := by
 refine GTo.freeze (Jv h) fun hU => ?_
 have hN0 : O n = none := hU.fresh _ (Nat.le_refl _)
 have hN : ∀ k, O (n + k) = none := fun k => hU.fresh _ (Nat.le_add_right _ _)
 simp only [push_cast, seval, ↓reduceIte, Za, hN0, hN]
theorem Zjd {a0 : (List (List Int))} {r : (List (List Int))} {O : Objs} {n : Nat} (h : K9 a0 = some r) : GTo Try.prog 47 [.sl a0.length (fl (eL (eI .u64)) a0)] O n (.sl r.length (fl (eL (eI .u64)) r)) O n := by
 unfold K9 at h
 refine Yl Zc Try.call47 Try.func47 rfl (Nat.le_of_ble_eq_true rfl) (Nat.le_refl _) fun hU => ?_
 have hN0 : O n = none := hU.fresh _ (Nat.le_refl _)
 have hN : ∀ k, O (n + k) = none := fun k => hU.fresh _ (Nat.le_add_right _ _)
 show W _ _ _ _ ⟨23, [], [(0, .sl a0.length (fl (eL (eI .u64)) a0))]⟩ (Z3 O n []) _
 refine Zp [0] (Zb Zc [] ?_)
 simp only [push_cast, seval, ↓reduceIte, Za, hN0, hN]
 refine Zg ?_
 obtain ⟨l2, al2, bl2, cl2, el2, h⟩ := bM2 (c := 24) rfl h
 have nl2 : Int.toNat (a0.length : Int) = List.length l2 := by rw [el2, List.length_replicate]
 have fl2 : ∀ O O' n, Vq O O' n (List.replicate (List.length l2) [G.val (.slice none 0 0)]).flatten (fl (eL (eI .u64)) l2) = True := fun O O' n => by rw [← nl2, el2]; exact eq_true (Zp6 _ _)
 clear el2
 refine Zb Zc [] ?_
 simp only [push_cast, seval, ↓reduceIte, Za, al2, bl2, cl2, fl2, nl2, hN0, hN]
 refine Zkz ⟨23, [], [(0, .sl a0.length (fl (eL (eI .u64)) a0)), (3, .row n l2.length)]⟩ (Z3 O n [some ⟨true, 42, 1, l2.length, fl (eL (eI .u64)) l2⟩]) (Zs hU rfl rfl ?_) ?_
 ·simp only [push_cast, seval, ↓reduceIte, Za, al2, bl2, cl2, fl2, nl2, hN0, hN]
 refine Zg ?_
 refine Zp [3, 9, 10, 11] (Zb Zc [] ?_)
 simp only [push_cast, seval, ↓reduceIte, Za, hN0, hN]
 refine Zf [3, 9, 10, 11] [true] ?_
 simp only [push_cast, seval, ↓reduceIte]
 obtain ⟨z9, hz9, h⟩ := bC h
 refine Ki (E' := ⟨23, [], [(3, .row n z9.length)]⟩) (O' := (Z3 O n [some ⟨true, 42, 1, z9.length, fl (eL (eI .u64)) z9⟩])) (n0 := (n + 1)) ?_ ?_
 ·refine Vz hz9 (fun s0_ => ⟨23, [], [(3, .row n s0_.2.length), (9, .sl a0.length (fl (eL (eI .u64)) a0)), (10, .val (.int .i64 (a0.length : Int))), (11, .val (.int .i64 s0_.1))]⟩) (fun s0_ => (Z3 O n [some ⟨true, 42, 1, s0_.2.length, fl (eL (eI .u64)) s0_.2⟩])) (fun z9 => JX 0 n (⟨23, [], [(3, .row n z9.length)]⟩ : Env) (Z3 O n [some ⟨true, 42, 1, z9.length, fl (eL (eI .u64)) z9⟩]) (n + 1)) ?_
  intro s0_ x0_ hs0_
  unfold Qq at hs0_
  try dsimp only
  refine Zp [3, 9, 10, 11, 12] (Zb Zc [] ?_)
  simp only [push_cast, seval, ↓reduceIte, Za, hN0, hN]
  refine Zg ?_
  refine Zr (t := (decide (s0_.1 < (a0.length : Int)))) rfl (fun c8 => ?_) (fun c8 => ?_)
  ·replace hs0_ := Zv c8 hs0_
   refine Zx ?_
   try simp only [Zi, Ze]
   refine Zf [3, 9, 10, 11] [true] ?_
   simp only [push_cast, seval, ↓reduceIte]
   refine Zg ?_
   refine X7 ?_
   obtain ⟨x4, hx4, ax4, bx4, cx4, hs0_⟩ := bE (f := (eL (eI .u64))) Gn (fun _ => rfl) (by decide) hs0_
   refine Zp [3, 4, 5, 9, 10, 11] (Zb Zc [] ?_)
   simp only [push_cast, Nat.reduceAdd, Nat.reduceSub, Nat.reduceMul, Nat.reduceLeDiff, Nat.reduceLT, Nat.reduceEqDiff, ↓reduceIte, reduceCtorEq, Int.reduceBEq, Int.reduceBNe, Nat.reduceBEq, Int.reduceLE, Int.reduceLT, Int.reduceEq, Int.reduceNe, Int.reduceNeg, Nat.reduceDiv, Nat.reduceMod, Nat.reducePow, Za, ax4, bx4, cx4, hN0, hN]
   obtain ⟨y5, hy5, hs0_⟩ := bC hs0_
   obtain ⟨x6, hx6, ax6, bx6, cx6, hs0_⟩ := bE (f := (eL (eI .u64))) Gn (fun _ => rfl) (by decide) hs0_
   have gu7 : Um (fl (eL (eI .u64)) s0_.2) [.sl y5.length (fl (eI .u64) y5)] (Int.toNat s0_.1 * 1) = some (fl (eL (eI .u64)) (Zjt s0_.2 s0_.1 y5)) := Zs6 (f := (eL (eI .u64))) (ti := ⟨.bool, 1, 0, [], false⟩) (x := y5) (fun _ => rfl) (Zit hx6)
   refine Zb Zc [] ?_
   simp only [push_cast, Nat.reduceAdd, Nat.reduceSub, Nat.reduceMul, Nat.reduceLeDiff, Nat.reduceLT, Nat.reduceEqDiff, ↓reduceIte, reduceCtorEq, Int.reduceBEq, Int.reduceBNe, Nat.reduceBEq, Int.reduceLE, Int.reduceLT, Int.reduceEq, Int.reduceNe, Int.reduceNeg, Nat.reduceDiv, Nat.reduceMod, Nat.reducePow, Za, ax6, bx6, cx6, gu7, hN0, hN]
   refine (Us hy5).then ?_
   simp only [push_cast, Nat.reduceAdd, Nat.reduceSub, Nat.reduceMul, Nat.reduceLeDiff, Nat.reduceLT, Nat.reduceEqDiff, ↓reduceIte, reduceCtorEq, Int.reduceBEq, Int.reduceBNe, Nat.reduceBEq, Int.reduceLE, Int.reduceLT, Int.reduceEq, Int.reduceNe, Int.reduceNeg, Nat.reduceDiv, Nat.reduceMod, Nat.reducePow, Za, ax6, bx6, cx6, gu7, hN0, hN]
   refine Zf [3, 9, 10, 11] [true] ?_
   simp only [push_cast, seval, ↓reduceIte]
   refine Zb Zc [] ?_
   simp only [push_cast, seval, ↓reduceIte, Za, hN0, hN]
   have hs0_ := Option.some.inj hs0_; subst hs0_
   refine And.intro rfl (Fit2.of (Zs hU rfl rfl ?_) (by omega))
   simp only [push_cast, seval, ↓reduceIte, Za, hN0, hN]
  replace hs0_ := Zu c8 hs0_
  refine Gy ?_
  try simp only [Zi, Ze, ↓reduceIte, Nat.reduceEqDiff]
  have hs0_ := Option.some.inj hs0_; subst hs0_
  refine And.intro (fun h => by cases h) (And.intro rfl (Fit2.of (Zs hU rfl rfl ?_) (by omega)))
  simp only [push_cast, seval, ↓reduceIte, Za, hN0, hN]
 try simp only [Zi, Ze, ↓reduceIte, Nat.reduceEqDiff]
 refine Zf [3] [true] ?_
 simp only [push_cast, seval, ↓reduceIte]
 refine Zp [2] (Zb Zc [] ?_)
 simp only [push_cast, seval, ↓reduceIte, Za, hN0, hN]
 refine Zt ?_
 try simp only [Zi, Ze]
 have h := Option.some.inj h; subst h
 refine Zl (.inr rfl) hU [.row n z9.length] (by omega) ?_
 simp only [push_cast, seval, ↓reduceIte, Za, Try.results47, hN0, hN]
theorem Zpq {a0 : (List (List Int))} {r : (Option Zk)} {O : Objs} {n : Nat} (h : Zaf a0 = some r) : GTo Try.prog 15 [.sl a0.length (fl (eL (eI .u64)) a0)] O n ((gP Zm r)) O n := by
 unfold Zaf at h
 refine Yl Zc Try.call15 Try.func15 rfl (Nat.le_of_ble_eq_true rfl) (Nat.le_refl _) fun hU => ?_
 have hN0 : O n = none := hU.fresh _ (Nat.le_refl _)
 have hN : ∀ k, O (n + k) = none := fun k => hU.fresh _ (Nat.le_add_right _ _)
 show W _ _ _ _ ⟨7, [], [(0, .sl a0.length (fl (eL (eI .u64)) a0))]⟩ (Z3 O n []) _
 refine Zp [0] (Zb Zc [] ?_)
 simp only [push_cast, seval, ↓reduceIte, Za, hN0, hN]
 refine Zg ?_
 obtain ⟨y2, hy2, h⟩ := bC h
 refine Zb Zc [] ?_
 simp only [push_cast, seval, ↓reduceIte, Za, hN0, hN]
 refine (Zjd hy2).then ?_
 simp only [push_cast, seval, ↓reduceIte, Za, hN0, hN]
 refine Zf [2] [true] ?_
 simp only [push_cast, seval, ↓reduceIte]
 refine Zt ?_
 try simp only [Zi, Ze]
 have h := Option.some.inj h; subst h
 refine Zl (.inr rfl) hU [.ref n 0] (by omega) ?_
 simp only [push_cast, seval, ↓reduceIte, Za, Try.results15, hN0, hN]
theorem Zew {a0 : (Option Zk)} {r : Int} {O : Objs} {n : Nat} (h : Kh a0 = some r) : GTo Try.prog 106 [(gP Zm a0)] O n (.val (.int .i64 r)) O n := by
 unfold Kh at h
 refine Yl Zc Try.call106 Try.func106 rfl (Nat.le_of_ble_eq_true rfl) (Nat.le_refl _) fun hU => ?_
 have hN0 : O n = none := hU.fresh _ (Nat.le_refl _)
 have hN : ∀ k, O (n + k) = none := fun k => hU.fresh _ (Nat.le_add_right _ _)
 show W _ _ _ _ ⟨10, [], [(0, (gP Zm a0))]⟩ (Z3 O n []) _
 refine Zp [0] (Zb Zc [] ?_)
 simp only [push_cast, seval, ↓reduceIte, Za, hN0, hN]
 refine Zg ?_
 have g2 := Zo4 (f := Zm) (t := 24) Zh1 a0
 refine Zp [0, 4] (Zb Zc [] ?_)
 simp only [push_cast, seval, ↓reduceIte, Za, g2, hN0, hN]
 refine Zr (t := (Option.isNone a0)) rfl (fun c5 => ?_) (fun c5 => ?_)
 ·replace h := Zv c5 h
  refine Zp [2] (Zb Zc [] ?_)
  simp only [push_cast, seval, ↓reduceIte, Za, hN0, hN]
  refine Zt ?_
  try simp only [Zi, Ze]
  have h := Option.some.inj h; subst h
  refine Zl (.inr rfl) hU [.val (.int .i64 0)] (by omega) ?_
  simp only [push_cast, seval, ↓reduceIte, Za, Try.results106, hN0, hN]
 replace h := Zu c5 h
 refine Zx ?_
 try simp only [Zi, Ze]
 refine Zf [0] [] ?_
 simp only [push_cast, seval, ↓reduceIte]
 obtain ⟨x4, hx4, h⟩ := bC h
 refine Zp [2] (Zb Zc [] ?_)
 simp only [push_cast, seval, ↓reduceIte, Za, hx4, hN0, hN]
 refine Zt ?_
 try simp only [Zi, Ze]
 have h := Option.some.inj h; subst h
 refine Zl (.inr rfl) hU [.val (.int .i64 (x4.segments.length : Int))] (by omega) ?_
 simp only [push_cast, seval, ↓reduceIte, Za, Try.results106, hN0, hN]
theorem Xq {a0 : (Option Zk)} {a1 : Int} {r : Bool} {O : Objs} {n : Nat} (h : X3 a0 a1 = some r) : GTo Try.prog 100 [(gP Zm a0), .val (.int .i64 a1)] O n (.val (.bool r)) O n := by
 unfold X3 at h
 refine Yl Zc Try.call100 Try.func100 rfl (Nat.le_of_ble_eq_true rfl) (Nat.le_refl _) fun hU => ?_
 have hN0 : O n = none := hU.fresh _ (Nat.le_refl _)
 have hN : ∀ k, O (n + k) = none := fun k => hU.fresh _ (Nat.le_add_right _ _)
 show W _ _ _ _ ⟨13, [], [(0, (gP Zm a0)), (1, .val (.int .i64 a1))]⟩ (Z3 O n []) _
 refine Zp [0, 1] (Zb Zc [] ?_)
 simp only [push_cast, seval, ↓reduceIte, Za, hN0, hN]
 obtain ⟨z2, hz2, h⟩ := bC h
 refine Qt (E' := ⟨13, [], [(4, .val (.bool z2))]⟩) (O' := (Z3 O n [])) (n0 := n) ?_ ?_
 ·rcases Bool.eq_false_or_eq_true (decide (0 ≤ a1)) with c5 | c5
  ·replace hz2 := Zv c5 hz2
   obtain ⟨y4, hy4, hz2⟩ := bC hz2
   refine Zb Zc [some true, some true, some true, some true] ?_
   simp only [push_cast, seval, ↓reduceIte, Za, c5, hN0, hN]
   refine (Zew hy4).then ?_
   simp only [push_cast, seval, ↓reduceIte, Za, c5, hN0, hN]
   have hz2 := Option.some.inj hz2; subst hz2
   refine And.intro rfl (Fit2.of (Zs hU rfl rfl ?_) (by omega))
   simp only [push_cast, seval, ↓reduceIte, Za, c5, hN0, hN]
  replace hz2 := Zu c5 hz2
  refine Zb Zc [some false, some false, some false, some false] ?_
  simp only [push_cast, seval, ↓reduceIte, Za, c5, hN0, hN]
  have hz2 := Option.some.inj hz2; subst hz2
  refine And.intro rfl (Fit2.of (Zs hU rfl rfl ?_) (by omega))
  simp only [push_cast, seval, ↓reduceIte, Za, c5, hN0, hN]
 refine Zt ?_
 try simp only [Zi, Ze]
 have h := Option.some.inj h; subst h
 refine Zl (.inr rfl) hU [.val (.bool z2)] (by omega) ?_
 simp only [push_cast, seval, ↓reduceIte, Za, Try.results100, hN0, hN]
theorem K2 {a0 : (Option Zk)} {a1 : Int} {r : Int} {O : Objs} {n : Nat} (h : X9 a0 a1 = some r) : GTo Try.prog 101 [(gP Zm a0), .val (.int .i64 a1)] O n (.val (.int .i64 r)) O n := by
 unfold X9 at h
 refine Yl Zc Try.call101 Try.func101 rfl (Nat.le_of_ble_eq_true rfl) (Nat.le_refl _) fun hU => ?_
 have hN0 : O n = none := hU.fresh _ (Nat.le_refl _)
 have hN : ∀ k, O (n + k) = none := fun k => hU.fresh _ (Nat.le_add_right _ _)
 show W _ _ _ _ ⟨17, [], [(0, (gP Zm a0)), (1, .val (.int .i64 a1))]⟩ (Z3 O n []) _
 refine Zp [0, 1] (Zb Zc [] ?_)
 simp only [push_cast, seval, ↓reduceIte, Za, hN0, hN]
 refine Zg ?_
 refine Zg ?_
 obtain ⟨y2, hy2, h⟩ := bC h
 refine Zb Zc [] ?_
 simp only [push_cast, seval, ↓reduceIte, Za, hN0, hN]
 refine (Xq hy2).then ?_
 simp only [push_cast, seval, ↓reduceIte, Za, hN0, hN]
 refine Zf [0, 1, 8] [] ?_
 simp only [push_cast, seval, ↓reduceIte]
 refine Zr (t := (!y2)) rfl (fun c7 => ?_) (fun c7 => ?_)
 ·replace h := Zv c7 h
  refine Zp [4] (Zb Zc [] ?_)
  simp only [push_cast, seval, ↓reduceIte, Za, hN0, hN]
  refine Zt ?_
  try simp only [Zi, Ze]
  have h := Option.some.inj h; subst h
  refine Zl (.inr rfl) hU [.val (.int .i64 0)] (by omega) ?_
  simp only [push_cast, seval, ↓reduceIte, Za, Try.results101, hN0, hN]
 replace h := Zu c7 h
 refine Zx ?_
 try simp only [Zi, Ze]
 refine Zf [0, 1] [] ?_
 simp only [push_cast, seval, ↓reduceIte]
 obtain ⟨x5, hx5, h⟩ := bC h
 obtain ⟨x6, hx6, ax6, bx6, cx6, h⟩ := bE (f := (eL (eI .u64))) Gn (fun _ => rfl) (by decide) h
 refine Zp [4] (Zb Zc [] ?_)
 simp only [push_cast, Nat.reduceAdd, Nat.reduceSub, Nat.reduceMul, Nat.reduceLeDiff, Nat.reduceLT, Nat.reduceEqDiff, ↓reduceIte, reduceCtorEq, Int.reduceBEq, Int.reduceBNe, Nat.reduceBEq, Int.reduceLE, Int.reduceLT, Int.reduceEq, Int.reduceNe, Int.reduceNeg, Nat.reduceDiv, Nat.reduceMod, Nat.reducePow, Za, hx5, ax6, bx6, cx6, hN0, hN]
 refine Zt ?_
 try simp only [Zi, Ze]
 have h := Option.some.inj h; subst h
 refine Zl (.inr rfl) hU [.val (.int .i64 (x6.length : Int))] (by omega) ?_
 simp only [push_cast, seval, ↓reduceIte, Za, Try.results101, hN0, hN]
theorem Vm {a0 : (Option Zk)} {a1 : Int} {a2 : Int} {a3 : Int} {r : Bool} {O : Objs} {n : Nat} (h : Xy a0 a1 a2 a3 = some r) : GTo Try.prog 82 [(gP Zm a0), .val (.int .i64 a1), .val (.int .i64 a2), .val (.int .i64 a3)] O n (.val (.bool r)) O n := by
 unfold Xy at h
 refine Yl Zc Try.call82 Try.func82 rfl (Nat.le_of_ble_eq_true rfl) (Nat.le_refl _) fun hU => ?_
 have hN0 : O n = none := hU.fresh _ (Nat.le_refl _)
 have hN : ∀ k, O (n + k) = none := fun k => hU.fresh _ (Nat.le_add_right _ _)
 show W _ _ _ _ ⟨36, [], [(0, (gP Zm a0)), (1, .val (.int .i64 a1)), (2, .val (.int .i64 a2)), (3, .val (.int .i64 a3))]⟩ (Z3 O n []) _
 refine Zp [0, 1, 2, 3] (Zb Zc [] ?_)
 simp only [push_cast, seval, ↓reduceIte, Za, hN0, hN]
 obtain ⟨z4, hz4, h⟩ := bC h
 refine Qt (E' := ⟨36, [], [(8, .val (.bool z4))]⟩) (O' := (Z3 O n [])) (n0 := n) ?_ ?_
 ·obtain ⟨y8, hy8, hz4⟩ := bC hz4
  rcases Bool.eq_false_or_eq_true y8 with c11 | c11
  ·replace hz4 := Zv c11 hz4
   rcases Bool.eq_false_or_eq_true (decide (0 ≤ a2)) with c12 | c12
   ·replace hz4 := Zv c12 hz4
    try rw [c12] at c11
    rcases Bool.eq_false_or_eq_true (decide (0 ≤ a3)) with c13 | c13
    ·replace hz4 := Zv c13 hz4
     try rw [c13] at c11
     try rw [c13] at c12
     obtain ⟨y9, hy9, hz4⟩ := bC hz4
     rcases Bool.eq_false_or_eq_true (decide (a3 ≤ y9)) with c14 | c14
     ·replace hz4 := Zv c14 hz4
      try rw [c14] at c11
      try rw [c14] at c12
      try rw [c14] at c13
      obtain ⟨y10, hy10, hz4⟩ := bC hz4
      refine Zb Zc [none, none, none, none, some true, some true, some true, some true, some true, some true, some true, some true, some true, some true, some true, some true] ?_
      simp only [push_cast, seval, ↓reduceIte, Za, c11, c12, c13, c14, hN0, hN]
      repeat (with_reducible refine And.intro (by first | (intro h0; simp only [h0, and_self]; done) | (intro h0; simp only [h0, Bool.not_false, Bool.not_true, Bool.true_and, Bool.and_true, true_and, and_true, and_self, imp_self, implies_true, bne_iff_ne, ne_eq, beq_iff_eq]; done) | (intros; simp_all; done) | exact True.intro) ?_)
      refine (Xq hy8).then ?_
      simp only [push_cast, seval, ↓reduceIte, Za, c11, c12, c13, c14, hN0, hN]
      repeat (with_reducible refine And.intro (by first | (intro h0; simp only [h0, and_self]; done) | (intro h0; simp only [h0, Bool.not_false, Bool.not_true, Bool.true_and, Bool.and_true, true_and, and_true, and_self, imp_self, implies_true, bne_iff_ne, ne_eq, beq_iff_eq]; done) | (intros; simp_all; done) | exact True.intro) ?_)
      refine (K2 hy9).then ?_
      simp only [push_cast, seval, ↓reduceIte, Za, c11, c12, c13, c14, hN0, hN]
      repeat (with_reducible refine And.intro (by first | (intro h0; simp only [h0, and_self]; done) | (intro h0; simp only [h0, Bool.not_false, Bool.not_true, Bool.true_and, Bool.and_true, true_and, and_true, and_self, imp_self, implies_true, bne_iff_ne, ne_eq, beq_iff_eq]; done) | (intros; simp_all; done) | exact True.intro) ?_)
      refine (K2 hy10).then ?_
      simp only [push_cast, seval, ↓reduceIte, Za, c11, c12, c13, c14, hN0, hN]
      repeat (with_reducible refine And.intro (by first | (intro h0; simp only [h0, and_self]; done) | (intro h0; simp only [h0, Bool.not_false, Bool.not_true, Bool.true_and, Bool.and_true, true_and, and_true, and_self, imp_self, implies_true, bne_iff_ne, ne_eq, beq_iff_eq]; done) | (intros; simp_all; done) | exact True.intro) ?_)
      have hz4 := Option.some.inj hz4; subst hz4
      refine And.intro rfl (Fit2.of (Zs hU rfl rfl ?_) (by omega))
      simp only [push_cast, seval, ↓reduceIte, Za, c11, c12, c13, c14, hN0, hN]
     replace hz4 := Zu c14 hz4
     try rw [c14] at c11
     try rw [c14] at c12
     try rw [c14] at c13
     refine Zb Zc [none, none, none, none, some true, some true, some true, some true, some true, some false, some false, some false, some false, some false, some false, some false] ?_
     simp only [push_cast, seval, ↓reduceIte, Za, c11, c12, c13, c14, hN0, hN]
     repeat (with_reducible refine And.intro (by first | (intro h0; simp only [h0, and_self]; done) | (intro h0; simp only [h0, Bool.not_false, Bool.not_true, Bool.true_and, Bool.and_true, true_and, and_true, and_self, imp_self, implies_true, bne_iff_ne, ne_eq, beq_iff_eq]; done) | (intros; simp_all; done) | exact True.intro) ?_)
     refine (Xq hy8).then ?_
     simp only [push_cast, seval, ↓reduceIte, Za, c11, c12, c13, c14, hN0, hN]
     repeat (with_reducible refine And.intro (by first | (intro h0; simp only [h0, and_self]; done) | (intro h0; simp only [h0, Bool.not_false, Bool.not_true, Bool.true_and, Bool.and_true, true_and, and_true, and_self, imp_self, implies_true, bne_iff_ne, ne_eq, beq_iff_eq]; done) | (intros; simp_all; done) | exact True.intro) ?_)
     refine (K2 hy9).then ?_
     simp only [push_cast, seval, ↓reduceIte, Za, c11, c12, c13, c14, hN0, hN]
     repeat (with_reducible refine And.intro (by first | (intro h0; simp only [h0, and_self]; done) | (intro h0; simp only [h0, Bool.not_false, Bool.not_true, Bool.true_and, Bool.and_true, true_and, and_true, and_self, imp_self, implies_true, bne_iff_ne, ne_eq, beq_iff_eq]; done) | (intros; simp_all; done) | exact True.intro) ?_)
     have hz4 := Option.some.inj hz4; subst hz4
     refine And.intro rfl (Fit2.of (Zs hU rfl rfl ?_) (by omega))
     simp only [push_cast, seval, ↓reduceIte, Za, c11, c12, c13, c14, hN0, hN]
    replace hz4 := Zu c13 hz4
    try rw [c13] at c11
    try rw [c13] at c12
    refine Zb Zc [none, none, none, none, some false, some false, some false, some false, some false, some false, some false, some false, some false, some false, some false, some false] ?_
    simp only [push_cast, seval, ↓reduceIte, Za, c11, c12, c13, hN0, hN]
    repeat (with_reducible refine And.intro (by first | (intro h0; simp only [h0, and_self]; done) | (intro h0; simp only [h0, Bool.not_false, Bool.not_true, Bool.true_and, Bool.and_true, true_and, and_true, and_self, imp_self, implies_true, bne_iff_ne, ne_eq, beq_iff_eq]; done) | (intros; simp_all; done) | exact True.intro) ?_)
    refine (Xq hy8).then ?_
    simp only [push_cast, seval, ↓reduceIte, Za, c11, c12, c13, hN0, hN]
    repeat (with_reducible refine And.intro (by first | (intro h0; simp only [h0, and_self]; done) | (intro h0; simp only [h0, Bool.not_false, Bool.not_true, Bool.true_and, Bool.and_true, true_and, and_true, and_self, imp_self, implies_true, bne_iff_ne, ne_eq, beq_iff_eq]; done) | (intros; simp_all; done) | exact True.intro) ?_)
    have hz4 := Option.some.inj hz4; subst hz4
    refine And.intro rfl (Fit2.of (Zs hU rfl rfl ?_) (by omega))
    simp only [push_cast, seval, ↓reduceIte, Za, c11, c12, c13, hN0, hN]
   replace hz4 := Zu c12 hz4
   try rw [c12] at c11
   refine Zb Zc [none, none, none, none, some false, some false, some false, some false, some false, some false, some false, some false, some false, some false, some false, some false] ?_
   simp only [push_cast, seval, ↓reduceIte, Za, c11, c12, hN0, hN]
   repeat (with_reducible refine And.intro (by first | (intro h0; simp only [h0, and_self]; done) | (intro h0; simp only [h0, Bool.not_false, Bool.not_true, Bool.true_and, Bool.and_true, true_and, and_true, and_self, imp_self, implies_true, bne_iff_ne, ne_eq, beq_iff_eq]; done) | (intros; simp_all; done) | exact True.intro) ?_)
   refine (Xq hy8).then ?_
   simp only [push_cast, seval, ↓reduceIte, Za, c11, c12, hN0, hN]
   repeat (with_reducible refine And.intro (by first | (intro h0; simp only [h0, and_self]; done) | (intro h0; simp only [h0, Bool.not_false, Bool.not_true, Bool.true_and, Bool.and_true, true_and, and_true, and_self, imp_self, implies_true, bne_iff_ne, ne_eq, beq_iff_eq]; done) | (intros; simp_all; done) | exact True.intro) ?_)
   have hz4 := Option.some.inj hz4; subst hz4
   refine And.intro rfl (Fit2.of (Zs hU rfl rfl ?_) (by omega))
   simp only [push_cast, seval, ↓reduceIte, Za, c11, c12, hN0, hN]
  replace hz4 := Zu c11 hz4
  refine Zb Zc [none, none, none, none, some false, some false, some false, some false, some false, some false, some false, some false, some false, some false, some false, some false] ?_
  simp only [push_cast, seval, ↓reduceIte, Za, c11, hN0, hN]
  repeat (with_reducible refine And.intro (by first | (intro h0; simp only [h0, and_self]; done) | (intro h0; simp only [h0, Bool.not_false, Bool.not_true, Bool.true_and, Bool.and_true, true_and, and_true, and_self, imp_self, implies_true, bne_iff_ne, ne_eq, beq_iff_eq]; done) | (intros; simp_all; done) | exact True.intro) ?_)
  refine (Xq hy8).then ?_
  simp only [push_cast, seval, ↓reduceIte, Za, c11, hN0, hN]
  repeat (with_reducible refine And.intro (by first | (intro h0; simp only [h0, and_self]; done) | (intro h0; simp only [h0, Bool.not_false, Bool.not_true, Bool.true_and, Bool.and_true, true_and, and_true, and_self, imp_self, implies_true, bne_iff_ne, ne_eq, beq_iff_eq]; done) | (intros; simp_all; done) | exact True.intro) ?_)
  have hz4 := Option.some.inj hz4; subst hz4
  refine And.intro rfl (Fit2.of (Zs hU rfl rfl ?_) (by omega))
  simp only [push_cast, seval, ↓reduceIte, Za, c11, hN0, hN]
 refine Zt ?_
 try simp only [Zi, Ze]
 have h := Option.some.inj h; subst h
 refine Zl (.inr rfl) hU [.val (.bool z4)] (by omega) ?_
 simp only [push_cast, seval, ↓reduceIte, Za, Try.results82, hN0, hN]
theorem Q0 {a0 : (Option Zk)} {a1 : Int} {a2 : Int} {r : (Int × Bool)} {O : Objs} {n : Nat} (h : Y7 a0 a1 a2 = some r) : GTo Try.prog 60 [(gP Zm a0), .val (.int .i64 a1), .val (.int .i64 a2)] O n (.tup [.val (.int .u64 r.1), .val (.bool r.2)]) O n := by
 unfold Y7 at h
 refine Yl Zc Try.call60 Try.func60 rfl (Nat.le_of_ble_eq_true rfl) (Nat.le_refl _) fun hU => ?_
 have hN0 : O n = none := hU.fresh _ (Nat.le_refl _)
 have hN : ∀ k, O (n + k) = none := fun k => hU.fresh _ (Nat.le_add_right _ _)
 show W _ _ _ _ ⟨23, [], [(0, (gP Zm a0)), (1, .val (.int .i64 a1)), (2, .val (.int .i64 a2))]⟩ (Z3 O n []) _
 refine Zp [0, 1, 2] (Zb Zc [] ?_)
 simp only [push_cast, seval, ↓reduceIte, Za, hN0, hN]
 refine Zg ?_
 refine Zg ?_
 obtain ⟨y2, hy2, h⟩ := bC h
 refine Zb Zc [] ?_
 simp only [push_cast, seval, ↓reduceIte, Za, hN0, hN]
 refine (Vm hy2).then ?_
 simp only [push_cast, seval, ↓reduceIte, Za, hN0, hN]
 refine Zf [0, 1, 2, 12] [] ?_
 simp only [push_cast, seval, ↓reduceIte]
 refine Zr (t := (!y2)) rfl (fun c9 => ?_) (fun c9 => ?_)
 ·replace h := Zv c9 h
  refine Zp [6, 7] (Zb Zc [] ?_)
  simp only [push_cast, seval, ↓reduceIte, Za, hN0, hN]
  refine Zt ?_
  try simp only [Zi, Ze]
  have h := Option.some.inj h; subst h
  refine Zl (.inr rfl) hU [.val (.int .u64 0), .val (.bool false)] (by omega) ?_
  simp only [push_cast, seval, ↓reduceIte, Za, Try.results60, hN0, hN]
 replace h := Zu c9 h
 refine Zx ?_
 try simp only [Zi, Ze]
 refine Zf [0, 1, 2] [] ?_
 simp only [push_cast, seval, ↓reduceIte]
 obtain ⟨x6, hx6, h⟩ := bC h
 obtain ⟨x7, hx7, ax7, bx7, cx7, h⟩ := bE (f := (eL (eI .u64))) Gn (fun _ => rfl) (by decide) h
 obtain ⟨x8, hx8, ax8, bx8, cx8, h⟩ := bE (f := (eI .u64)) Gm (fun _ => rfl) (by decide) h
 refine Zp [6, 7] (Zb Zc [] ?_)
 simp only [push_cast, Nat.reduceAdd, Nat.reduceSub, Nat.reduceMul, Nat.reduceLeDiff, Nat.reduceLT, Nat.reduceEqDiff, ↓reduceIte, reduceCtorEq, Int.reduceBEq, Int.reduceBNe, Nat.reduceBEq, Int.reduceLE, Int.reduceLT, Int.reduceEq, Int.reduceNe, Int.reduceNeg, Nat.reduceDiv, Nat.reduceMod, Nat.reducePow, Za, hx6, ax7, bx7, cx7, ax8, bx8, cx8, hN0, hN]
 refine Zt ?_
 try simp only [Zi, Ze]
 have h := Option.some.inj h; subst h
 refine Zl (.inr rfl) hU [.val (.int .u64 x8), .val (.bool true)] (by omega) ?_
 simp only [push_cast, seval, ↓reduceIte, Za, Try.results60, hN0, hN]
theorem Zd8 {a0 : Int} {r : Int} {O : Objs} {n : Nat} (h : V7 a0 = some r) : GTo Try.prog 95 [.val (.int .u64 a0)] O n (.val (.int .i64 r)) O n := by
 unfold V7 at h
 refine Yl Zc Try.call95 Try.func95 rfl (Nat.le_of_ble_eq_true rfl) (Nat.le_refl _) fun hU => ?_
 have hN0 : O n = none := hU.fresh _ (Nat.le_refl _)
 have hN : ∀ k, O (n + k) = none := fun k => hU.fresh _ (Nat.le_add_right _ _)
 show W _ _ _ _ ⟨8, [], [(0, .val (.int .u64 a0))]⟩ (Z3 O n []) _
 refine Zp [0] (Zb Zc [] ?_)
 simp only [push_cast, seval, ↓reduceIte, Za, hN0, hN]
 refine Zp [2] (Zb Zc [] ?_)
 simp only [push_cast, seval, ↓reduceIte, Za, hN0, hN]
 refine Zt ?_
 try simp only [Zi, Ze]
 have h := Option.some.inj h; subst h
 refine Zl (.inr rfl) hU [.val (.int .i64 (IntKind.i64.wrap (Int.fdiv (IntKind.i32.wrap (IntKind.u32.wrap a0)) (2 ^ min (Int.toNat 2) 32))))] (by omega) ?_
 simp only [push_cast, seval, ↓reduceIte, Za, Try.results95, hN0, hN]
theorem Ky {a0 : Int} {a1 : Int} {a2 : Int} {r : Int} {O : Objs} {n : Nat} (h : Y3 a0 a1 a2 = some r) : GTo Try.prog 96 [.val (.int .u64 a0), .val (.int .i64 a1), .val (.int .i64 a2)] O n (.val (.int .i64 r)) O n := by
 unfold Y3 at h
 refine Yl Zc Try.call96 Try.func96 rfl (Nat.le_of_ble_eq_true rfl) (Nat.le_refl _) fun hU => ?_
 have hN0 : O n = none := hU.fresh _ (Nat.le_refl _)
 have hN : ∀ k, O (n + k) = none := fun k => hU.fresh _ (Nat.le_add_right _ _)
 show W _ _ _ _ ⟨15, [], [(0, .val (.int .u64 a0)), (1, .val (.int .i64 a1)), (2, .val (.int .i64 a2))]⟩ (Z3 O n []) _
 refine Zp [0, 1, 2] (Zb Zc [] ?_)
 simp only [push_cast, seval, ↓reduceIte, Za, hN0, hN]
 obtain ⟨pu3, h⟩ := bG h
 obtain ⟨pu4, h⟩ := bG h
 refine Zp [6] (Ku Zc (by kernel_rfl) [] (by kernel_rfl) ?_)
 simp only [push_cast, seval, ↓reduceIte, Za, pu3, pu4, hN0, hN]
 refine Zt ?_
 try simp only [Zi, Ze]
 have h := Option.some.inj h; subst h
 refine Zl (.inr rfl) hU [.val (.int .i64 (IntKind.i64.wrap (IntKind.u64.wrap (K0 .u64 (Int.fdiv a0 (2 ^ min (Int.toNat a1) 64)) (IntKind.u64.wrap ((IntKind.u64.wrap (1 * 2 ^ min (Int.toNat a2) 64)) - 1))))))] (by omega) ?_
 simp only [push_cast, seval, ↓reduceIte, Za, Try.results96, hN0, hN]
theorem Jj {a0 : Int} {r : Z4} {O : Objs} {n : Nat} (h : Qd a0 = some r) : GTo Try.prog 71 [.val (.int .u64 a0)] O n (.agg (Yb r)) O n := by
 unfold Qd at h
 refine Yl Zc Try.call71 Try.func71 rfl (Nat.le_of_ble_eq_true rfl) (Nat.le_refl _) fun hU => ?_
 have hN0 : O n = none := hU.fresh _ (Nat.le_refl _)
 have hN : ∀ k, O (n + k) = none := fun k => hU.fresh _ (Nat.le_add_right _ _)
 show W _ _ _ _ ⟨38, [], [(0, .val (.int .u64 a0))]⟩ (Z3 O n []) _
 refine Zp [0, 2] (Zb Zc [] ?_)
 simp only [push_cast, seval, ↓reduceIte, Za, hN0, hN]
 refine Zg ?_
 refine Zp [0, 2, 4] (Zb Zc [] ?_)
 simp only [push_cast, seval, ↓reduceIte, Za, hN0, hN]
 refine Zr (t := (a0 == 0)) rfl (fun c20 => ?_) (fun c20 => ?_)
 ·replace h := Zv c20 h
  refine Zg ?_
  refine Zb Zc [] ?_
  simp only [push_cast, seval, ↓reduceIte, Za, hN0, hN]
  refine Zf [2] [true] ?_
  simp only [push_cast, seval, ↓reduceIte]
  refine Zt ?_
  try simp only [Zi, Ze]
  have h := Option.some.inj h; subst h
  refine Zl (.inr rfl) hU [.agg [.val (.int .i64 0), .val (.int .i64 0), .val (.int .i64 0), .val (.int .i64 0), .val (.int .i64 0), .val (.int .i64 0), .val (.int .i64 0), .val (.bool false)]] (by omega) ?_
  simp only [push_cast, seval, ↓reduceIte, Za, Try.results71, hN0, hN]
 replace h := Zu c20 h
 refine Zx ?_
 try simp only [Zi, Ze]
 refine Zf [0, 2] [true] ?_
 simp only [push_cast, seval, ↓reduceIte]
 refine Zg ?_
 refine Zp [0, 2, 7] (Zb Zc [] ?_)
 simp only [push_cast, seval, ↓reduceIte, Za, hN0, hN]
 refine X7 ?_
 refine Zp [0, 2, 7, 8] (Zb Zc [] ?_)
 simp only [push_cast, seval, ↓reduceIte, Za, hN0, hN]
 refine Zr (t := ((IntKind.u64.wrap (K0 .u64 a0 3)) == 0)) rfl (fun c19 => ?_) (fun c19 => ?_)
 ·replace h := Zv c19 h
  refine Zg ?_
  obtain ⟨y4, hy4, h⟩ := bC h
  obtain ⟨y5, hy5, h⟩ := bC h
  obtain ⟨y6, hy6, h⟩ := bC h
  refine Zb Zc [] ?_
  simp only [push_cast, seval, ↓reduceIte, Za, hN0, hN]
  refine (Zd8 hy4).then ?_
  simp only [push_cast, seval, ↓reduceIte, Za, hN0, hN]
  refine (Ky hy5).then ?_
  simp only [push_cast, seval, ↓reduceIte, Za, hN0, hN]
  refine (Ky hy6).then ?_
  simp only [push_cast, seval, ↓reduceIte, Za, hN0, hN]
  refine Zf [2] [true] ?_
  simp only [push_cast, seval, ↓reduceIte]
  refine Zt ?_
  try simp only [Zi, Ze]
  have h := Option.some.inj h; subst h
  refine Zl (.inr rfl) hU [.agg [.val (.int .i64 1), .val (.int .i64 y4), .val (.int .i64 y5), .val (.int .i64 y6), .val (.int .i64 0), .val (.int .i64 0), .val (.int .i64 0), .val (.bool false)]] (by omega) ?_
  simp only [push_cast, seval, ↓reduceIte, Za, Try.results71, hN0, hN]
 replace h := Zu c19 h
 refine Zp [0, 2, 7, 17] (Zb Zc [] ?_)
 simp only [push_cast, seval, ↓reduceIte, Za, hN0, hN]
 refine Zr (t := ((IntKind.u64.wrap (K0 .u64 a0 3)) == 1)) rfl (fun c18 => ?_) (fun c18 => ?_)
 ·replace h := Zv c18 h
  refine Zg ?_
  obtain ⟨y10, hy10, h⟩ := bC h
  obtain ⟨y11, hy11, h⟩ := bC h
  obtain ⟨y12, hy12, h⟩ := bC h
  refine Zb Zc [] ?_
  simp only [push_cast, seval, ↓reduceIte, Za, hN0, hN]
  refine (Zd8 hy10).then ?_
  simp only [push_cast, seval, ↓reduceIte, Za, hN0, hN]
  refine (Ky hy11).then ?_
  simp only [push_cast, seval, ↓reduceIte, Za, hN0, hN]
  refine (Ky hy12).then ?_
  simp only [push_cast, seval, ↓reduceIte, Za, hN0, hN]
  refine Zf [2] [true] ?_
  simp only [push_cast, seval, ↓reduceIte]
  refine Zt ?_
  try simp only [Zi, Ze]
  have h := Option.some.inj h; subst h
  refine Zl (.inr rfl) hU [.agg [.val (.int .i64 2), .val (.int .i64 y10), .val (.int .i64 0), .val (.int .i64 0), .val (.int .i64 y11), .val (.int .i64 y12), .val (.int .i64 0), .val (.bool false)]] (by omega) ?_
  simp only [push_cast, seval, ↓reduceIte, Za, Try.results71, hN0, hN]
 replace h := Zu c18 h
 refine Zp [0, 2, 26] (Zb Zc [] ?_)
 simp only [push_cast, seval, ↓reduceIte, Za, hN0, hN]
 refine Zr (t := ((IntKind.u64.wrap (K0 .u64 a0 3)) == 2)) rfl (fun c17 => ?_) (fun c17 => ?_)
 ·replace h := Zv c17 h
  refine Zg ?_
  obtain ⟨y15, hy15, h⟩ := bC h
  obtain ⟨y16, hy16, h⟩ := bC h
  refine Zb Zc [] ?_
  simp only [push_cast, seval, ↓reduceIte, Za, hN0, hN]
  refine (Ky hy15).then ?_
  simp only [push_cast, seval, ↓reduceIte, Za, hN0, hN]
  refine (Ky hy16).then ?_
  simp only [push_cast, seval, ↓reduceIte, Za, hN0, hN]
  refine Zf [2] [true] ?_
  simp only [push_cast, seval, ↓reduceIte]
  refine Zt ?_
  try simp only [Zi, Ze]
  have h := Option.some.inj h; subst h
  refine Zl (.inr rfl) hU [.agg [.val (.int .i64 3), .val (.int .i64 y15), .val (.int .i64 0), .val (.int .i64 0), .val (.int .i64 0), .val (.int .i64 0), .val (.int .i64 y16), .val (.bool ((IntKind.u64.wrap (K0 .u64 (Int.fdiv a0 (2 ^ min (Int.toNat 2) 64)) 1)) == 1))]] (by omega) ?_
  simp only [push_cast, seval, ↓reduceIte, Za, Try.results71, hN0, hN]
 replace h := Zu c17 h
 refine Zx ?_
 try simp only [Zi, Ze]
 refine Zf [2] [true] ?_
 simp only [push_cast, seval, ↓reduceIte]
 refine Zg ?_
 refine Zb Zc [] ?_
 simp only [push_cast, seval, ↓reduceIte, Za, hN0, hN]
 refine Zf [2] [true] ?_
 simp only [push_cast, seval, ↓reduceIte]
 refine Zt ?_
 try simp only [Zi, Ze]
 have h := Option.some.inj h; subst h
 refine Zl (.inr rfl) hU [.agg [.val (.int .i64 4), .val (.int .i64 0), .val (.int .i64 0), .val (.int .i64 0), .val (.int .i64 0), .val (.int .i64 0), .val (.int .i64 0), .val (.bool false)]] (by omega) ?_
 simp only [push_cast, seval, ↓reduceIte, Za, Try.results71, hN0, hN]
theorem Zdx {a0 : (Option Zk)} {a1 : Int} {a2 : Int} {a3 : Int} {r : ((List Int) × Bool)} {O : Objs} {n : Nat} (h : Qw a0 a1 a2 a3 = some r) : GTo Try.prog 97 [(gP Zm a0), .val (.int .i64 a1), .val (.int .i64 a2), .val (.int .i64 a3)] O n (.tup [.sl r.1.length (fl (eI .u64) r.1), .val (.bool r.2)]) O n := by
 unfold Qw at h
 refine Yl Zc Try.call97 Try.func97 rfl (Nat.le_of_ble_eq_true rfl) (Nat.le_refl _) fun hU => ?_
 have hN0 : O n = none := hU.fresh _ (Nat.le_refl _)
 have hN : ∀ k, O (n + k) = none := fun k => hU.fresh _ (Nat.le_add_right _ _)
 show W _ _ _ _ ⟨29, [], [(0, (gP Zm a0)), (1, .val (.int .i64 a1)), (2, .val (.int .i64 a2)), (3, .val (.int .i64 a3))]⟩ (Z3 O n []) _
 refine Zp [0, 1, 2, 3] (Zb Zc [] ?_)
 simp only [push_cast, seval, ↓reduceIte, Za, hN0, hN]
 refine Zg ?_
 refine Zg ?_
 obtain ⟨y2, hy2, h⟩ := bC h
 refine Zb Zc [] ?_
 simp only [push_cast, seval, ↓reduceIte, Za, hN0, hN]
 refine (Vm hy2).then ?_
 simp only [push_cast, seval, ↓reduceIte, Za, hN0, hN]
 refine Zf [0, 1, 2, 3, 15] [] ?_
 simp only [push_cast, seval, ↓reduceIte]
 refine Zr (t := (!y2)) rfl (fun c11 => ?_) (fun c11 => ?_)
 ·replace h := Zv c11 h
  refine Zp [8, 9] (Zb Zc [] ?_)
  simp only [push_cast, seval, ↓reduceIte, Za, hN0, hN]
  refine Zt ?_
  try simp only [Zi, Ze]
  have h := Option.some.inj h; subst h
  refine Zl (.inr rfl) hU [.val (.slice none 0 0), .val (.bool false)] (by omega) ?_
  simp only [push_cast, seval, ↓reduceIte, Za, Try.results97, hN0, hN]
 replace h := Zu c11 h
 refine Zx ?_
 try simp only [Zi, Ze]
 refine Zf [0, 1, 2, 3] [] ?_
 simp only [push_cast, seval, ↓reduceIte]
 refine Zg ?_
 obtain ⟨x7, hx7, h⟩ := bC h
 obtain ⟨x8, hx8, ax8, bx8, cx8, h⟩ := bE (f := (eL (eI .u64))) Gn (fun _ => rfl) (by decide) h
 obtain ⟨l9, al9, bl9, cl9, gl9, h⟩ := bS (lo := (some (.i64, a2))) (hi := (some (.i64, (IntKind.i64.wrap (a2 + a3))))) (f := (eI .u64)) rfl rfl Zdv Gm (fun _ => rfl) h
 obtain ⟨y10, hy10, h⟩ := bC h
 refine Zb Zc [] ?_
 simp only [push_cast, Nat.reduceAdd, Nat.reduceSub, Nat.reduceMul, Nat.reduceLeDiff, Nat.reduceLT, Nat.reduceEqDiff, ↓reduceIte, reduceCtorEq, Int.reduceBEq, Int.reduceBNe, Nat.reduceBEq, Int.reduceLE, Int.reduceLT, Int.reduceEq, Int.reduceNe, Int.reduceNeg, Nat.reduceDiv, Nat.reduceMod, Nat.reducePow, Za, hx7, ax8, bx8, cx8, al9, bl9, cl9, gl9, hN0, hN]
 refine (Jv  hy10).then ?_
 simp only [push_cast, Nat.reduceAdd, Nat.reduceSub, Nat.reduceMul, Nat.reduceLeDiff, Nat.reduceLT, Nat.reduceEqDiff, ↓reduceIte, reduceCtorEq, Int.reduceBEq, Int.reduceBNe, Nat.reduceBEq, Int.reduceLE, Int.reduceLT, Int.reduceEq, Int.reduceNe, Int.reduceNeg, Nat.reduceDiv, Nat.reduceMod, Nat.reducePow, Za, hx7, ax8, bx8, cx8, al9, bl9, cl9, gl9, hN0, hN]
 refine Zf [8, 9] [true] ?_
 simp only [push_cast, seval, ↓reduceIte]
 refine Zt ?_
 try simp only [Zi, Ze]
 have h := Option.some.inj h; subst h
 refine Zl (.inr rfl) hU [.row n y10.length, .val (.bool true)] (by omega) ?_
 simp only [push_cast, seval, ↓reduceIte, Za, Try.results97, hN0, hN]
theorem Zmx {a0 : Int} {r : Int} {O : Objs} {n : Nat} (h : Gb a0 = some r) : GTo Try.prog 105 [.val (.int .i64 a0)] O n (.val (.int .i64 r)) O n := by
 unfold Gb at h
 refine Yl Zc Try.call105 Try.func105 rfl (Nat.le_of_ble_eq_true rfl) (Nat.le_refl _) fun hU => ?_
 have hN0 : O n = none := hU.fresh _ (Nat.le_refl _)
 have hN : ∀ k, O (n + k) = none := fun k => hU.fresh _ (Nat.le_add_right _ _)
 show W _ _ _ _ ⟨8, [], [(0, .val (.int .i64 a0))]⟩ (Z3 O n []) _
 refine Zp [0] (Zb Zc [] ?_)
 simp only [push_cast, seval, ↓reduceIte, Za, hN0, hN]
 refine Zg ?_
 obtain ⟨y6, hy6, ey6, h⟩ := bY (f := (eI .i64)) (cs := [.val (.int .i64 0), .val (.int .i64 1), .val (.int .i64 8), .val (.int .i64 16), .val (.int .i64 32), .val (.int .i64 64), .val (.int .i64 64)]) rfl h
 have g7 := congrArg G.agg ey6
 obtain ⟨y8, hy8, ey8, h⟩ := bY (f := (eI .i64)) (cs := [.val (.int .i64 0), .val (.int .i64 0), .val (.int .i64 0), .val (.int .i64 0), .val (.int .i64 0), .val (.int .i64 0), .val (.int .i64 0)]) rfl h
 have g9 := congrArg (GObj.mk false 140 7 1) ey8
 have g10 := Ziy (f := (eI .i64)) y8 y6 (fun _ => rfl)
 refine Zb Zc [] ?_
 simp only [push_cast, seval, ↓reduceIte, Za, g7, g9, g10, hN0, hN]
 refine Zf [0, 3] [true] ?_
 simp only [push_cast, seval, ↓reduceIte]
 obtain ⟨x12, hx12, ax12, bx12, cx12, h⟩ := bEA (f := (eI .i64)) (b := 7) rfl Zvi (fun _ => rfl) (by decide) h
 refine Zp [2] (Zb Zc [] ?_)
 simp only [push_cast, Nat.reduceAdd, Nat.reduceSub, Nat.reduceMul, Nat.reduceLeDiff, Nat.reduceLT, Nat.reduceEqDiff, ↓reduceIte, reduceCtorEq, Int.reduceBEq, Int.reduceBNe, Nat.reduceBEq, Int.reduceLE, Int.reduceLT, Int.reduceEq, Int.reduceNe, Int.reduceNeg, Nat.reduceDiv, Nat.reduceMod, Nat.reducePow, Za, ax12, bx12, cx12, hN0, hN]
 refine Zt ?_
 try simp only [Zi, Ze]
 have h := Option.some.inj h; subst h
 refine Zl (.inr rfl) hU [.val (.int .i64 x12)] (by omega) ?_
 simp only [push_cast, seval, ↓reduceIte, Za, Try.results105, hN0, hN]
theorem Zgq {a0 : Z4} {r : (Int × Bool)} {O : Objs} {n : Nat} (h : Kb a0 = some r) : GTo Try.prog 98 [.agg (Yb a0)] O n (.tup [.val (.int .i64 r.1), .val (.bool r.2)]) O n := by
 unfold Kb at h
 refine Yl Zc Try.call98 Try.func98 rfl (Nat.le_of_ble_eq_true rfl) (Nat.le_refl _) fun hU => ?_
 have hN0 : O n = none := hU.fresh _ (Nat.le_refl _)
 have hN : ∀ k, O (n + k) = none := fun k => hU.fresh _ (Nat.le_add_right _ _)
 show W _ _ _ _ ⟨57, [], [(0, .agg (Yb a0))]⟩ (Z3 O n []) _
 refine Zp [1] (Zb Zc [] ?_)
 simp only [push_cast, seval, ↓reduceIte, Za, hN0, hN]
 refine Zg ?_
 refine X7 ?_
 refine Zp [1, 4] (Zb Zc [] ?_)
 simp only [push_cast, seval, ↓reduceIte, Za, hN0, hN]
 refine Zr (t := (a0.Kind == 1)) rfl (fun c5 => ?_) (fun c5 => ?_)
 ·replace h := Zv c5 h
  refine Zp [2, 3] (Zb Zc [] ?_)
  simp only [push_cast, seval, ↓reduceIte, Za, hN0, hN]
  refine Zt ?_
  try simp only [Zi, Ze]
  have h := Option.some.inj h; subst h
  refine Zl (.inr rfl) hU [.val (.int .i64 (IntKind.i64.wrap (a0.Data + a0.Ptrs))), .val (.bool true)] (by omega) ?_
  simp only [push_cast, seval, ↓reduceIte, Za, Try.results98, hN0, hN]
 replace h := Zu c5 h
 refine Zp [1, 13] (Zb Zc [none, none, none] ?_)
 simp only [push_cast, seval, ↓reduceIte, Za, hN0, hN]
 repeat (with_reducible refine And.intro (by first | (intro h0; simp only [h0, and_self]; done) | (intro h0; simp only [h0, Bool.not_false, Bool.not_true, Bool.true_and, Bool.and_true, true_and, and_true, and_self, imp_self, implies_true, bne_iff_ne, ne_eq, beq_iff_eq]; done) | (intros; simp_all; done) | exact True.intro) ?_)
 refine Zr (t := (cond (a0.Kind == 2) (a0.Code == 7) false)) rfl (fun c4 => ?_) (fun c4 => ?_)
 ·replace h := Zv c4 h
  refine Zp [2, 3] (Zb Zc [] ?_)
  simp only [push_cast, seval, ↓reduceIte, Za, hN0, hN]
  refine Zt ?_
  try simp only [Zi, Ze]
  have h := Option.some.inj h; subst h
  refine Zl (.inr rfl) hU [.val (.int .i64 (IntKind.i64.wrap (a0.Count + 1))), .val (.bool true)] (by omega) ?_
  simp only [push_cast, seval, ↓reduceIte, Za, Try.results98, hN0, hN]
 replace h := Zu c4 h
 refine Zp [1, 25] (Zb Zc [none, none, none, none, none, none, none, none, none, none, none, none] ?_)
 simp only [push_cast, seval, ↓reduceIte, Za, hN0, hN]
 repeat (with_reducible refine And.intro (by first | (intro h0; simp only [h0, and_self]; done) | (intro h0; simp only [h0, Bool.not_false, Bool.not_true, Bool.true_and, Bool.and_true, true_and, and_true, and_self, imp_self, implies_true, bne_iff_ne, ne_eq, beq_iff_eq]; done) | (intros; simp_all; done) | exact True.intro) ?_)
 refine Zr (t := (cond (cond (cond (cond (a0.Kind == 2) (decide (0 ≤ a0.Code)) false) (decide (a0.Code < 7)) false) (decide (0 ≤ a0.Count)) false) (decide (a0.Count ≤ 536870911)) false)) rfl (fun c3 => ?_) (fun c3 => ?_)
 ·replace h := Zv c3 h
  refine Zg ?_
  obtain ⟨y2, hy2, h⟩ := bC h
  refine Ku Zc (by kernel_rfl) [] (by kernel_rfl) ?_
  simp only [push_cast, seval, ↓reduceIte, Za, hN0, hN]
  refine PCall.of (Zmx hy2) ?_
  simp only [push_cast, seval, ↓reduceIte, Za, hN0, hN]
  refine Zf [2, 3] [false] ?_
  simp only [push_cast, seval, ↓reduceIte]
  refine Zt ?_
  try simp only [Zi, Ze]
  have h := Option.some.inj h; subst h
  refine Zl (.inr rfl) hU [.val (.int .i64 (IntKind.i64.wrap (Int.tdiv (IntKind.i64.wrap ((IntKind.i64.wrap (a0.Count * y2)) + 63)) 64))), .val (.bool true)] (by omega) ?_
  simp only [push_cast, seval, ↓reduceIte, Za, Try.results98, hN0, hN]
 replace h := Zu c3 h
 refine Zx ?_
 try simp only [Zi, Ze]
 refine Zf [] [false] ?_
 simp only [push_cast, seval, ↓reduceIte]
 refine Zp [2, 3] (Zb Zc [] ?_)
 simp only [push_cast, seval, ↓reduceIte, Za, hN0, hN]
 refine Zt ?_
 try simp only [Zi, Ze]
 have h := Option.some.inj h; subst h
 refine Zl (.inr rfl) hU [.val (.int .i64 0), .val (.bool false)] (by omega) ?_
 simp only [push_cast, seval, ↓reduceIte, Za, Try.results98, hN0, hN]
theorem Za2 {a0 : (Option Zk)} {a1 : Z4} {a2 : Int} {a3 : Int} {r : (Yo × Int)} {O : Objs} {n : Nat} (h : Jz a0 a1 a2 a3 = some r) : GTo Try.prog 74 [(gP Zm a0), .agg (Yb a1), .val (.int .i64 a2), .val (.int .i64 a3)] O n (.tup [.agg [.val (.int .i64 r.1.P.Kind), .val (.int .i64 r.1.P.Off), .val (.int .i64 r.1.P.Data), .val (.int .i64 r.1.P.Ptrs), .val (.int .i64 r.1.P.Code), .val (.int .i64 r.1.P.Count), .val (.int .i64 r.1.P.Segment), .val (.bool r.1.P.Double), .val (.int .i64 r.1.Segment), .val (.int .i64 r.1.At)], .val (.int .i64 r.2)]) O n := by
 unfold Jz at h
 refine Yl Zc Try.call74 Try.func74 rfl (Nat.le_of_ble_eq_true rfl) (Nat.le_refl _) fun hU => ?_
 have hN0 : O n = none := hU.fresh _ (Nat.le_refl _)
 have hN : ∀ k, O (n + k) = none := fun k => hU.fresh _ (Nat.le_add_right _ _)
 show W _ _ _ _ ⟨36, [], [(0, (gP Zm a0)), (1, .agg (Yb a1)), (2, .val (.int .i64 a2)), (3, .val (.int .i64 a3))]⟩ (Z3 O n []) _
 refine Zp [0, 2, 3, 5, 8] (Zb Zc [] ?_)
 simp only [push_cast, seval, ↓reduceIte, Za, hN0, hN]
 refine Zg ?_
 refine Zp [0, 2, 3, 5, 8, 14] (Zb Zc [] ?_)
 simp only [push_cast, seval, ↓reduceIte, Za, hN0, hN]
 refine Zr (t := (a1.Kind == 4)) rfl (fun c7 => ?_) (fun c7 => ?_)
 ·replace h := Zv c7 h
  refine Zg ?_
  refine Zb Zc [] ?_
  simp only [push_cast, seval, ↓reduceIte, Za, hN0, hN]
  refine Zf [8, 9] [false, true] ?_
  simp only [push_cast, seval, ↓reduceIte]
  refine Zt ?_
  try simp only [Zi, Ze]
  have h := Option.some.inj h; subst h
  refine Zl (.inr rfl) hU [.agg [.val (.int .i64 0), .val (.int .i64 0), .val (.int .i64 0), .val (.int .i64 0), .val (.int .i64 0), .val (.int .i64 0), .val (.int .i64 0), .val (.bool false), .val (.int .i64 0), .val (.int .i64 0)], .val (.int .i64 9)] (by omega) ?_
  simp only [push_cast, seval, ↓reduceIte, Za, Try.results74, hN0, hN]
 replace h := Zu c7 h
 refine Zx ?_
 try simp only [Zi, Ze]
 refine Zf [0, 2, 3, 5, 8] [true, true] ?_
 simp only [push_cast, seval, ↓reduceIte]
 refine Zg ?_
 obtain ⟨y2, hy2, h⟩ := bC h
 refine Zb Zc [] ?_
 simp only [push_cast, seval, ↓reduceIte, Za, hN0, hN]
 refine (Zgq hy2).then ?_
 simp only [push_cast, seval, ↓reduceIte, Za, hN0, hN]
 refine Zf [0, 2, 3, 5, 8, 10, 11] [true, true] ?_
 simp only [push_cast, seval, ↓reduceIte]
 refine Zg ?_
 refine Zp [0, 2, 3, 5, 8, 10, 22] (Zb Zc [] ?_)
 simp only [push_cast, seval, ↓reduceIte, Za, hN0, hN]
 refine Zr (t := (!y2.2)) rfl (fun c6 => ?_) (fun c6 => ?_)
 ·replace h := Zv c6 h
  refine Zg ?_
  refine Zb Zc [] ?_
  simp only [push_cast, seval, ↓reduceIte, Za, hN0, hN]
  refine Zf [8, 9] [false, true] ?_
  simp only [push_cast, seval, ↓reduceIte]
  refine Zt ?_
  try simp only [Zi, Ze]
  have h := Option.some.inj h; subst h
  refine Zl (.inr rfl) hU [.agg [.val (.int .i64 0), .val (.int .i64 0), .val (.int .i64 0), .val (.int .i64 0), .val (.int .i64 0), .val (.int .i64 0), .val (.int .i64 0), .val (.bool false), .val (.int .i64 0), .val (.int .i64 0)], .val (.int .i64 8)] (by omega) ?_
  simp only [push_cast, seval, ↓reduceIte, Za, Try.results74, hN0, hN]
 replace h := Zu c6 h
 refine Zx ?_
 try simp only [Zi, Ze]
 refine Zf [0, 2, 3, 5, 8, 10] [true, true] ?_
 simp only [push_cast, seval, ↓reduceIte]
 refine Zg ?_
 refine Zg ?_
 obtain ⟨y4, hy4, h⟩ := bC h
 refine Zb Zc [] ?_
 simp only [push_cast, seval, ↓reduceIte, Za, hN0, hN]
 refine (Vm hy4).then ?_
 simp only [push_cast, seval, ↓reduceIte, Za, hN0, hN]
 refine Zf [2, 3, 5, 8, 29] [true, true] ?_
 simp only [push_cast, seval, ↓reduceIte]
 refine Zr (t := (!y4)) rfl (fun c5 => ?_) (fun c5 => ?_)
 ·replace h := Zv c5 h
  refine Zg ?_
  refine Zb Zc [] ?_
  simp only [push_cast, seval, ↓reduceIte, Za, hN0, hN]
  refine Zf [8, 9] [false, true] ?_
  simp only [push_cast, seval, ↓reduceIte]
  refine Zt ?_
  try simp only [Zi, Ze]
  have h := Option.some.inj h; subst h
  refine Zl (.inr rfl) hU [.agg [.val (.int .i64 0), .val (.int .i64 0), .val (.int .i64 0), .val (.int .i64 0), .val (.int .i64 0), .val (.int .i64 0), .val (.int .i64 0), .val (.bool false), .val (.int .i64 0), .val (.int .i64 0)], .val (.int .i64 7)] (by omega) ?_
  simp only [push_cast, seval, ↓reduceIte, Za, Try.results74, hN0, hN]
 replace h := Zu c5 h
 refine Zx ?_
 try simp only [Zi, Ze]
 refine Zf [2, 3, 5, 8] [true, true] ?_
 simp only [push_cast, seval, ↓reduceIte]
 refine Zg ?_
 refine Zb Zc [] ?_
 simp only [push_cast, seval, ↓reduceIte, Za, hN0, hN]
 refine Zf [2, 3, 5, 8] [true, true] ?_
 simp only [push_cast, seval, ↓reduceIte]
 refine Zg ?_
 refine Zb Zc [] ?_
 simp only [push_cast, seval, ↓reduceIte, Za, hN0, hN]
 refine Zf [8, 9] [false, true] ?_
 simp only [push_cast, seval, ↓reduceIte]
 refine Zt ?_
 try simp only [Zi, Ze]
 have h := Option.some.inj h; subst h
 refine Zl (.inr rfl) hU [.agg [.val (.int .i64 a1.Kind), .val (.int .i64 0), .val (.int .i64 a1.Data), .val (.int .i64 a1.Ptrs), .val (.int .i64 a1.Code), .val (.int .i64 a1.Count), .val (.int .i64 a1.Segment), .val (.bool a1.Double), .val (.int .i64 a2), .val (.int .i64 a3)], .val (.int .i64 0)] (by omega) ?_
 simp only [push_cast, seval, ↓reduceIte, Za, Try.results74, hN0, hN]
theorem Zkt {a0 : (Option Zk)} {a1 : Int} {a2 : Int} {r : (Yo × Int)} {O : Objs} {n : Nat} (h : V5 a0 a1 a2 = some r) : GTo Try.prog 72 [(gP Zm a0), .val (.int .i64 a1), .val (.int .i64 a2)] O n (.tup [.agg [.val (.int .i64 r.1.P.Kind), .val (.int .i64 r.1.P.Off), .val (.int .i64 r.1.P.Data), .val (.int .i64 r.1.P.Ptrs), .val (.int .i64 r.1.P.Code), .val (.int .i64 r.1.P.Count), .val (.int .i64 r.1.P.Segment), .val (.bool r.1.P.Double), .val (.int .i64 r.1.Segment), .val (.int .i64 r.1.At)], .val (.int .i64 r.2)]) O n := by
 unfold V5 at h
 refine Yl Zc Try.call72 Try.func72 rfl (Nat.le_of_ble_eq_true rfl) (Nat.le_refl _) fun hU => ?_
 have hN0 : O n = none := hU.fresh _ (Nat.le_refl _)
 have hN : ∀ k, O (n + k) = none := fun k => hU.fresh _ (Nat.le_add_right _ _)
 show W _ _ _ _ ⟨56, [], [(0, (gP Zm a0)), (1, .val (.int .i64 a1)), (2, .val (.int .i64 a2))]⟩ (Z3 O n []) _
 refine Zp [0, 1, 2, 6] (Zb Zc [] ?_)
 simp only [push_cast, seval, ↓reduceIte, Za, hN0, hN]
 refine Zg ?_
 obtain ⟨y2, hy2, h⟩ := bC h
 refine Zb Zc [] ?_
 simp only [push_cast, seval, ↓reduceIte, Za, hN0, hN]
 refine (Zdx hy2).then ?_
 simp only [push_cast, seval, ↓reduceIte, Za, hN0, hN]
 refine Zf [0, 6, 8, 9] [true] ?_
 simp only [push_cast, seval, ↓reduceIte]
 refine Zg ?_
 refine Zp [0, 6, 8, 20] (Zb Zc [] ?_)
 simp only [push_cast, seval, ↓reduceIte, Za, hN0, hN]
 refine Zr (t := (!y2.2)) rfl (fun c11 => ?_) (fun c11 => ?_)
 ·replace h := Zv c11 h
  refine Zg ?_
  refine Zb Zc [] ?_
  simp only [push_cast, seval, ↓reduceIte, Za, hN0, hN]
  refine Zf [6, 7] [true] ?_
  simp only [push_cast, seval, ↓reduceIte]
  refine Zt ?_
  try simp only [Zi, Ze]
  have h := Option.some.inj h; subst h
  refine Zl (.inr rfl) hU [.agg [.val (.int .i64 0), .val (.int .i64 0), .val (.int .i64 0), .val (.int .i64 0), .val (.int .i64 0), .val (.int .i64 0), .val (.int .i64 0), .val (.bool false), .val (.int .i64 0), .val (.int .i64 0)], .val (.int .i64 7)] (by omega) ?_
  simp only [push_cast, seval, ↓reduceIte, Za, Try.results72, hN0, hN]
 replace h := Zu c11 h
 refine Zx ?_
 try simp only [Zi, Ze]
 refine Zf [0, 6, 8] [true] ?_
 simp only [push_cast, seval, ↓reduceIte]
 obtain ⟨x3, hx3, ax3, bx3, cx3, h⟩ := bE (f := (eI .u64)) Gm (fun _ => rfl) (by decide) h
 obtain ⟨y4, hy4, h⟩ := bC h
 obtain ⟨x5, hx5, ax5, bx5, cx5, h⟩ := bE (f := (eI .u64)) Gm (fun _ => rfl) (by decide) h
 obtain ⟨y6, hy6, h⟩ := bC h
 refine Qt (E' := ⟨56, [], [(0, (gP Zm a0)), (6, .ref n 0), (10, .ref (n + 1) 0), (11, .ref (n + 2) 0)]⟩) (O' := (Z3 O n [some ⟨false, 85, 10, 1, [.val (.int .i64 0), .val (.int .i64 0), .val (.int .i64 0), .val (.int .i64 0), .val (.int .i64 0), .val (.int .i64 0), .val (.int .i64 0), .val (.bool false), .val (.int .i64 0), .val (.int .i64 0)]⟩, some ⟨false, 83, 8, 1, (Yb y4)⟩, some ⟨false, 83, 8, 1, (Yb y6)⟩])) (n0 := (n + 3)) ?_ ?_
 ·refine Zsa Zc (by kernel_rfl) [.low, .low, .low, .low, .low, .low, .low, .low, .pass, .pass, .pass, .pass] (fun i => i < (n + 1)) 8 9 [0, 1, 2, 3, 4, 5, 6, 7] [10, 11] [.low, .low, .low, .low, .low, .low, .low, .low] [.pass, .pass, .pass, .pass] [.pass, .pass, .pass, .pass] [] (by kernel_rfl) rfl rfl rfl ?_
  simp only [push_cast, Nat.reduceAdd, Nat.reduceSub, Nat.reduceMul, Nat.reduceLeDiff, Nat.reduceLT, Nat.reduceEqDiff, ↓reduceIte, reduceCtorEq, Int.reduceBEq, Int.reduceBNe, Nat.reduceBEq, Int.reduceLE, Int.reduceLT, Int.reduceEq, Int.reduceNe, Int.reduceNeg, Nat.reduceDiv, Nat.reduceMod, Nat.reducePow, Za, ax3, bx3, cx3, ax5, bx5, cx5, hN0, hN]
  repeat (with_reducible refine And.intro (by omega) ?_)
  first | refine PCallA.of (fun _ _ => Jj hy4) ?_ | refine PCall.of (Jj hy4) ?_
  simp only [push_cast, Nat.reduceAdd, Nat.reduceSub, Nat.reduceMul, Nat.reduceLeDiff, Nat.reduceLT, Nat.reduceEqDiff, ↓reduceIte, reduceCtorEq, Int.reduceBEq, Int.reduceBNe, Nat.reduceBEq, Int.reduceLE, Int.reduceLT, Int.reduceEq, Int.reduceNe, Int.reduceNeg, Nat.reduceDiv, Nat.reduceMod, Nat.reducePow, Za, ax3, bx3, cx3, ax5, bx5, cx5, hN0, hN]
  repeat (with_reducible refine And.intro (by omega) ?_)
  first | refine PCallA.of (fun _ _ => Jj hy6) ?_ | refine PCall.of (Jj hy6) ?_
  simp only [push_cast, Nat.reduceAdd, Nat.reduceSub, Nat.reduceMul, Nat.reduceLeDiff, Nat.reduceLT, Nat.reduceEqDiff, ↓reduceIte, reduceCtorEq, Int.reduceBEq, Int.reduceBNe, Nat.reduceBEq, Int.reduceLE, Int.reduceLT, Int.reduceEq, Int.reduceNe, Int.reduceNeg, Nat.reduceDiv, Nat.reduceMod, Nat.reducePow, Za, ax3, bx3, cx3, ax5, bx5, cx5, hN0, hN]
  repeat (with_reducible refine And.intro (by omega) ?_)
  refine And.intro ?_ ?_
  ·simp only [push_cast, Nat.reduceAdd, Nat.reduceSub, Nat.reduceMul, Nat.reduceLeDiff, Nat.reduceLT, Nat.reduceEqDiff, ↓reduceIte, reduceCtorEq, Int.reduceBEq, Int.reduceBNe, Nat.reduceBEq, Int.reduceLE, Int.reduceLT, Int.reduceEq, Int.reduceNe, Int.reduceNeg, Nat.reduceDiv, Nat.reduceMod, Nat.reducePow, Za, ax3, bx3, cx3, ax5, bx5, cx5, hN0, hN]
   repeat (with_reducible refine And.intro (by first | exact Qh rfl | exact Xw) ?_)
   refine And.intro rfl (Fit2.of (Zs hU rfl rfl ?_) (by omega))
   simp only [push_cast, Nat.reduceAdd, Nat.reduceSub, Nat.reduceMul, Nat.reduceLeDiff, Nat.reduceLT, Nat.reduceEqDiff, ↓reduceIte, reduceCtorEq, Int.reduceBEq, Int.reduceBNe, Nat.reduceBEq, Int.reduceLE, Int.reduceLT, Int.reduceEq, Int.reduceNe, Int.reduceNeg, Nat.reduceDiv, Nat.reduceMod, Nat.reducePow, Za, ax3, bx3, cx3, ax5, bx5, cx5, hN0, hN]
  simp only [push_cast, Nat.reduceAdd, Nat.reduceSub, Nat.reduceMul, Nat.reduceLeDiff, Nat.reduceLT, Nat.reduceEqDiff, ↓reduceIte, reduceCtorEq, Int.reduceBEq, Int.reduceBNe, Nat.reduceBEq, Int.reduceLE, Int.reduceLT, Int.reduceEq, Int.reduceNe, Int.reduceNeg, Nat.reduceDiv, Nat.reduceMod, Nat.reducePow, Za, ax3, bx3, cx3, ax5, bx5, cx5, hN0, hN]
  repeat (with_reducible refine And.intro (by first | exact Qh rfl | exact Xw) ?_)
  refine And.intro rfl ?_
  refine Fit2.trans (E' := (⟨56, [], [(0, (gP Zm a0)), (6, .ref n 0), (10, .ref (n + 2) 0), (11, .ref (n + 1) 0)]⟩ : Env)) (O' := (Z3 O n [some ⟨false, 85, 10, 1, [.val (.int .i64 0), .val (.int .i64 0), .val (.int .i64 0), .val (.int .i64 0), .val (.int .i64 0), .val (.int .i64 0), .val (.int .i64 0), .val (.bool false), .val (.int .i64 0), .val (.int .i64 0)]⟩, some ⟨false, 83, 8, 1, (Yb y6)⟩, some ⟨false, 83, 8, 1, (Yb y4)⟩])) (n' := (n + 3)) (Fit2.of (Zs hU rfl rfl ?_) (by omega)) ?_
  ·simp only [push_cast, Nat.reduceAdd, Nat.reduceSub, Nat.reduceMul, Nat.reduceLeDiff, Nat.reduceLT, Nat.reduceEqDiff, ↓reduceIte, reduceCtorEq, Int.reduceBEq, Int.reduceBNe, Nat.reduceBEq, Int.reduceLE, Int.reduceLT, Int.reduceEq, Int.reduceNe, Int.reduceNeg, Nat.reduceDiv, Nat.reduceMod, Nat.reducePow, Za, ax3, bx3, cx3, ax5, bx5, cx5, hN0, hN]
  refine Zhz (k := 3) (k' := 3) hU [0, 2, 1] [0, 2, 1] rfl rfl rfl rfl ⟨rfl, rfl⟩ ?_
  simp only [push_cast, seval, ↓reduceIte, Za, hN0, hN]
 refine Zg ?_
 refine Zp [0, 6, 10, 11, 36] (Zb Zc [none, none] ?_)
 simp only [push_cast, seval, ↓reduceIte, Za, hN0, hN]
 repeat (with_reducible refine And.intro (by first | (intro h0; simp only [h0, and_self]; done) | (intro h0; simp only [h0, Bool.not_false, Bool.not_true, Bool.true_and, Bool.and_true, true_and, and_true, and_self, imp_self, implies_true, bne_iff_ne, ne_eq, beq_iff_eq]; done) | (intros; simp_all; done) | exact True.intro) ?_)
 refine Zr (t := (cond (y4.Kind != 3) true y4.Double)) rfl (fun c10 => ?_) (fun c10 => ?_)
 ·replace h := Zv c10 h
  refine Zg ?_
  refine Zb Zc [] ?_
  simp only [push_cast, seval, ↓reduceIte, Za, hN0, hN]
  refine Zf [6, 7] [true, false, false] ?_
  simp only [push_cast, seval, ↓reduceIte]
  refine Zt ?_
  try simp only [Zi, Ze]
  have h := Option.some.inj h; subst h
  refine Zl (.inr rfl) hU [.agg [.val (.int .i64 0), .val (.int .i64 0), .val (.int .i64 0), .val (.int .i64 0), .val (.int .i64 0), .val (.int .i64 0), .val (.int .i64 0), .val (.bool false), .val (.int .i64 0), .val (.int .i64 0)], .val (.int .i64 8)] (by omega) ?_
  simp only [push_cast, seval, ↓reduceIte, Za, Try.results72, hN0, hN]
 replace h := Zu c10 h
 refine Zx ?_
 try simp only [Zi, Ze]
 refine Zf [0, 6, 10, 11] [true, true, true] ?_
 simp only [push_cast, seval, ↓reduceIte]
 refine Zg ?_
 refine Zp [0, 6, 10, 11, 45] (Zb Zc [none, none, none] ?_)
 simp only [push_cast, seval, ↓reduceIte, Za, hN0, hN]
 repeat (with_reducible refine And.intro (by first | (intro h0; simp only [h0, and_self]; done) | (intro h0; simp only [h0, Bool.not_false, Bool.not_true, Bool.true_and, Bool.and_true, true_and, and_true, and_self, imp_self, implies_true, bne_iff_ne, ne_eq, beq_iff_eq]; done) | (intros; simp_all; done) | exact True.intro) ?_)
 refine Zr (t := (cond (y6.Kind != 4) (y6.Off != 0) false)) rfl (fun c9 => ?_) (fun c9 => ?_)
 ·replace h := Zv c9 h
  refine Zg ?_
  refine Zb Zc [] ?_
  simp only [push_cast, seval, ↓reduceIte, Za, hN0, hN]
  refine Zf [6, 7] [true, false, false] ?_
  simp only [push_cast, seval, ↓reduceIte]
  refine Zt ?_
  try simp only [Zi, Ze]
  have h := Option.some.inj h; subst h
  refine Zl (.inr rfl) hU [.agg [.val (.int .i64 0), .val (.int .i64 0), .val (.int .i64 0), .val (.int .i64 0), .val (.int .i64 0), .val (.int .i64 0), .val (.int .i64 0), .val (.bool false), .val (.int .i64 0), .val (.int .i64 0)], .val (.int .i64 8)] (by omega) ?_
  simp only [push_cast, seval, ↓reduceIte, Za, Try.results72, hN0, hN]
 replace h := Zu c9 h
 refine Zx ?_
 try simp only [Zi, Ze]
 refine Zf [0, 6, 10, 11] [true, true, true] ?_
 simp only [push_cast, seval, ↓reduceIte]
 refine Zg ?_
 obtain ⟨y8, hy8, h⟩ := bC h
 refine Zb Zc [] ?_
 simp only [push_cast, seval, ↓reduceIte, Za, hN0, hN]
 refine (Za2 hy8).then ?_
 simp only [push_cast, seval, ↓reduceIte, Za, hN0, hN]
 refine Zf [6, 7] [true, false, false] ?_
 simp only [push_cast, seval, ↓reduceIte]
 refine Zt ?_
 try simp only [Zi, Ze]
 have h := Option.some.inj h; subst h
 refine Zl (.inr rfl) hU [.agg [.val (.int .i64 y8.1.P.Kind), .val (.int .i64 y8.1.P.Off), .val (.int .i64 y8.1.P.Data), .val (.int .i64 y8.1.P.Ptrs), .val (.int .i64 y8.1.P.Code), .val (.int .i64 y8.1.P.Count), .val (.int .i64 y8.1.P.Segment), .val (.bool y8.1.P.Double), .val (.int .i64 y8.1.Segment), .val (.int .i64 y8.1.At)], .val (.int .i64 y8.2)] (by omega) ?_
 simp only [push_cast, seval, ↓reduceIte, Za, Try.results72, hN0, hN]
theorem Zku {a0 : (Option Zk)} {a1 : Int} {a2 : Int} {r : (Yo × Int)} {O : Objs} {n : Nat} (h : V6 a0 a1 a2 = some r) : GTo Try.prog 73 [(gP Zm a0), .val (.int .i64 a1), .val (.int .i64 a2)] O n (.tup [.agg [.val (.int .i64 r.1.P.Kind), .val (.int .i64 r.1.P.Off), .val (.int .i64 r.1.P.Data), .val (.int .i64 r.1.P.Ptrs), .val (.int .i64 r.1.P.Code), .val (.int .i64 r.1.P.Count), .val (.int .i64 r.1.P.Segment), .val (.bool r.1.P.Double), .val (.int .i64 r.1.Segment), .val (.int .i64 r.1.At)], .val (.int .i64 r.2)]) O n := by
 unfold V6 at h
 refine Yl Zc Try.call73 Try.func73 rfl (Nat.le_of_ble_eq_true rfl) (Nat.le_refl _) fun hU => ?_
 have hN0 : O n = none := hU.fresh _ (Nat.le_refl _)
 have hN : ∀ k, O (n + k) = none := fun k => hU.fresh _ (Nat.le_add_right _ _)
 show W _ _ _ _ ⟨34, [], [(0, (gP Zm a0)), (1, .val (.int .i64 a1)), (2, .val (.int .i64 a2))]⟩ (Z3 O n []) _
 refine Zp [0, 1, 2, 6] (Zb Zc [] ?_)
 simp only [push_cast, seval, ↓reduceIte, Za, hN0, hN]
 refine Zg ?_
 obtain ⟨y2, hy2, h⟩ := bC h
 refine Zb Zc [] ?_
 simp only [push_cast, seval, ↓reduceIte, Za, hN0, hN]
 refine (Q0 hy2).then ?_
 simp only [push_cast, seval, ↓reduceIte, Za, hN0, hN]
 refine Zf [0, 1, 2, 6, 8, 9] [true] ?_
 simp only [push_cast, seval, ↓reduceIte]
 refine Zg ?_
 refine Zp [0, 1, 2, 6, 8, 19] (Zb Zc [] ?_)
 simp only [push_cast, seval, ↓reduceIte, Za, hN0, hN]
 refine Zr (t := (!y2.2)) rfl (fun c7 => ?_) (fun c7 => ?_)
 ·replace h := Zv c7 h
  refine Zg ?_
  refine Zb Zc [] ?_
  simp only [push_cast, seval, ↓reduceIte, Za, hN0, hN]
  refine Zf [6, 7] [true] ?_
  simp only [push_cast, seval, ↓reduceIte]
  refine Zt ?_
  try simp only [Zi, Ze]
  have h := Option.some.inj h; subst h
  refine Zl (.inr rfl) hU [.agg [.val (.int .i64 0), .val (.int .i64 0), .val (.int .i64 0), .val (.int .i64 0), .val (.int .i64 0), .val (.int .i64 0), .val (.int .i64 0), .val (.bool false), .val (.int .i64 0), .val (.int .i64 0)], .val (.int .i64 7)] (by omega) ?_
  simp only [push_cast, seval, ↓reduceIte, Za, Try.results73, hN0, hN]
 replace h := Zu c7 h
 refine Zx ?_
 try simp only [Zi, Ze]
 refine Zf [0, 1, 2, 6, 8] [true] ?_
 simp only [push_cast, seval, ↓reduceIte]
 refine Zg ?_
 obtain ⟨y4, hy4, h⟩ := bC h
 refine Zb Zc [] ?_
 simp only [push_cast, seval, ↓reduceIte, Za, hN0, hN]
 refine (Jj hy4).then ?_
 simp only [push_cast, seval, ↓reduceIte, Za, hN0, hN]
 refine Zf [0, 1, 2, 6, 10] [true, true] ?_
 simp only [push_cast, seval, ↓reduceIte]
 refine Zg ?_
 obtain ⟨y6, hy6, h⟩ := bC h
 refine Zb Zc [] ?_
 simp only [push_cast, seval, ↓reduceIte, Za, hN0, hN]
 refine (Za2 hy6).then ?_
 simp only [push_cast, seval, ↓reduceIte, Za, hN0, hN]
 refine Zf [6, 7] [true, false] ?_
 simp only [push_cast, seval, ↓reduceIte]
 refine Zt ?_
 try simp only [Zi, Ze]
 have h := Option.some.inj h; subst h
 refine Zl (.inr rfl) hU [.agg [.val (.int .i64 y6.1.P.Kind), .val (.int .i64 y6.1.P.Off), .val (.int .i64 y6.1.P.Data), .val (.int .i64 y6.1.P.Ptrs), .val (.int .i64 y6.1.P.Code), .val (.int .i64 y6.1.P.Count), .val (.int .i64 y6.1.P.Segment), .val (.bool y6.1.P.Double), .val (.int .i64 y6.1.Segment), .val (.int .i64 y6.1.At)], .val (.int .i64 y6.2)] (by omega) ?_
 simp only [push_cast, seval, ↓reduceIte, Za, Try.results73, hN0, hN]
theorem Zks {a0 : (Option Zk)} {a1 : Int} {a2 : Int} {r : (Yo × Int)} {O : Objs} {n : Nat} (h : V4 a0 a1 a2 = some r) : GTo Try.prog 48 [(gP Zm a0), .val (.int .i64 a1), .val (.int .i64 a2)] O n (.tup [.agg [.val (.int .i64 r.1.P.Kind), .val (.int .i64 r.1.P.Off), .val (.int .i64 r.1.P.Data), .val (.int .i64 r.1.P.Ptrs), .val (.int .i64 r.1.P.Code), .val (.int .i64 r.1.P.Count), .val (.int .i64 r.1.P.Segment), .val (.bool r.1.P.Double), .val (.int .i64 r.1.Segment), .val (.int .i64 r.1.At)], .val (.int .i64 r.2)]) O n := by
 unfold V4 at h
 refine Yl Zc Try.call48 Try.func48 rfl (Nat.le_of_ble_eq_true rfl) (Nat.le_refl _) fun hU => ?_
 have hN0 : O n = none := hU.fresh _ (Nat.le_refl _)
 have hN : ∀ k, O (n + k) = none := fun k => hU.fresh _ (Nat.le_add_right _ _)
 show W _ _ _ _ ⟨67, [], [(0, (gP Zm a0)), (1, .val (.int .i64 a1)), (2, .val (.int .i64 a2))]⟩ (Z3 O n []) _
 refine Zp [0, 1, 2, 6] (Zb Zc [] ?_)
 simp only [push_cast, seval, ↓reduceIte, Za, hN0, hN]
 refine Zg ?_
 obtain ⟨y2, hy2, h⟩ := bC h
 refine Zb Zc [] ?_
 simp only [push_cast, seval, ↓reduceIte, Za, hN0, hN]
 refine (Q0 hy2).then ?_
 simp only [push_cast, seval, ↓reduceIte, Za, hN0, hN]
 refine Zf [0, 1, 2, 6, 8, 9] [true] ?_
 simp only [push_cast, seval, ↓reduceIte]
 refine Zg ?_
 refine Zp [0, 1, 2, 6, 8, 19] (Zb Zc [] ?_)
 simp only [push_cast, seval, ↓reduceIte, Za, hN0, hN]
 refine Zr (t := (!y2.2)) rfl (fun c14 => ?_) (fun c14 => ?_)
 ·replace h := Zv c14 h
  refine Zg ?_
  refine Zb Zc [] ?_
  simp only [push_cast, seval, ↓reduceIte, Za, hN0, hN]
  refine Zf [6, 7] [true] ?_
  simp only [push_cast, seval, ↓reduceIte]
  refine Zt ?_
  try simp only [Zi, Ze]
  have h := Option.some.inj h; subst h
  refine Zl (.inr rfl) hU [.agg [.val (.int .i64 0), .val (.int .i64 0), .val (.int .i64 0), .val (.int .i64 0), .val (.int .i64 0), .val (.int .i64 0), .val (.int .i64 0), .val (.bool false), .val (.int .i64 0), .val (.int .i64 0)], .val (.int .i64 7)] (by omega) ?_
  simp only [push_cast, seval, ↓reduceIte, Za, Try.results48, hN0, hN]
 replace h := Zu c14 h
 refine Zx ?_
 try simp only [Zi, Ze]
 refine Zf [0, 1, 2, 6, 8] [true] ?_
 simp only [push_cast, seval, ↓reduceIte]
 refine Zg ?_
 obtain ⟨y4, hy4, h⟩ := bC h
 refine Zb Zc [] ?_
 simp only [push_cast, seval, ↓reduceIte, Za, hN0, hN]
 refine (Jj hy4).then ?_
 simp only [push_cast, seval, ↓reduceIte, Za, hN0, hN]
 refine Zf [0, 1, 2, 6, 10] [true, true] ?_
 simp only [push_cast, seval, ↓reduceIte]
 refine Zg ?_
 refine X7 ?_
 refine Zp [0, 1, 2, 6, 10, 23] (Zb Zc [] ?_)
 simp only [push_cast, seval, ↓reduceIte, Za, hN0, hN]
 refine Zr (t := (y4.Kind == 0)) rfl (fun c13 => ?_) (fun c13 => ?_)
 ·replace h := Zv c13 h
  refine Zg ?_
  refine Zb Zc [] ?_
  simp only [push_cast, seval, ↓reduceIte, Za, hN0, hN]
  refine Zf [6, 7] [true, false] ?_
  simp only [push_cast, seval, ↓reduceIte]
  refine Zt ?_
  try simp only [Zi, Ze]
  have h := Option.some.inj h; subst h
  refine Zl (.inr rfl) hU [.agg [.val (.int .i64 0), .val (.int .i64 0), .val (.int .i64 0), .val (.int .i64 0), .val (.int .i64 0), .val (.int .i64 0), .val (.int .i64 0), .val (.bool false), .val (.int .i64 0), .val (.int .i64 0)], .val (.int .i64 0)] (by omega) ?_
  simp only [push_cast, seval, ↓reduceIte, Za, Try.results48, hN0, hN]
 replace h := Zu c13 h
 refine Zp [0, 1, 2, 6, 10, 28] (Zb Zc [none, none] ?_)
 simp only [push_cast, seval, ↓reduceIte, Za, hN0, hN]
 repeat (with_reducible refine And.intro (by first | (intro h0; simp only [h0, and_self]; done) | (intro h0; simp only [h0, Bool.not_false, Bool.not_true, Bool.true_and, Bool.and_true, true_and, and_true, and_self, imp_self, implies_true, bne_iff_ne, ne_eq, beq_iff_eq]; done) | (intros; simp_all; done) | exact True.intro) ?_)
 refine Zr (t := (cond (y4.Kind == 3) y4.Double false)) rfl (fun c12 => ?_) (fun c12 => ?_)
 ·replace h := Zv c12 h
  refine Zg ?_
  obtain ⟨y6, hy6, h⟩ := bC h
  refine Zb Zc [] ?_
  simp only [push_cast, seval, ↓reduceIte, Za, hN0, hN]
  refine (Zkt hy6).then ?_
  simp only [push_cast, seval, ↓reduceIte, Za, hN0, hN]
  refine Zf [6, 7] [true, false] ?_
  simp only [push_cast, seval, ↓reduceIte]
  refine Zt ?_
  try simp only [Zi, Ze]
  have h := Option.some.inj h; subst h
  refine Zl (.inr rfl) hU [.agg [.val (.int .i64 y6.1.P.Kind), .val (.int .i64 y6.1.P.Off), .val (.int .i64 y6.1.P.Data), .val (.int .i64 y6.1.P.Ptrs), .val (.int .i64 y6.1.P.Code), .val (.int .i64 y6.1.P.Count), .val (.int .i64 y6.1.P.Segment), .val (.bool y6.1.P.Double), .val (.int .i64 y6.1.Segment), .val (.int .i64 y6.1.At)], .val (.int .i64 y6.2)] (by omega) ?_
  simp only [push_cast, seval, ↓reduceIte, Za, Try.results48, hN0, hN]
 replace h := Zu c12 h
 refine Zp [0, 1, 2, 6, 10, 44] (Zb Zc [] ?_)
 simp only [push_cast, seval, ↓reduceIte, Za, hN0, hN]
 refine Zr (t := (y4.Kind == 3)) rfl (fun c11 => ?_) (fun c11 => ?_)
 ·replace h := Zv c11 h
  refine Zg ?_
  obtain ⟨y8, hy8, h⟩ := bC h
  refine Zb Zc [] ?_
  simp only [push_cast, seval, ↓reduceIte, Za, hN0, hN]
  refine (Zku hy8).then ?_
  simp only [push_cast, seval, ↓reduceIte, Za, hN0, hN]
  refine Zf [6, 7] [true, false] ?_
  simp only [push_cast, seval, ↓reduceIte]
  refine Zt ?_
  try simp only [Zi, Ze]
  have h := Option.some.inj h; subst h
  refine Zl (.inr rfl) hU [.agg [.val (.int .i64 y8.1.P.Kind), .val (.int .i64 y8.1.P.Off), .val (.int .i64 y8.1.P.Data), .val (.int .i64 y8.1.P.Ptrs), .val (.int .i64 y8.1.P.Code), .val (.int .i64 y8.1.P.Count), .val (.int .i64 y8.1.P.Segment), .val (.bool y8.1.P.Double), .val (.int .i64 y8.1.Segment), .val (.int .i64 y8.1.At)], .val (.int .i64 y8.2)] (by omega) ?_
  simp only [push_cast, seval, ↓reduceIte, Za, Try.results48, hN0, hN]
 replace h := Zu c11 h
 refine Zx ?_
 try simp only [Zi, Ze]
 refine Zf [0, 1, 2, 6, 10] [true, true] ?_
 simp only [push_cast, seval, ↓reduceIte]
 refine Zg ?_
 obtain ⟨y10, hy10, h⟩ := bC h
 refine Zb Zc [] ?_
 simp only [push_cast, seval, ↓reduceIte, Za, hN0, hN]
 refine (Za2 hy10).then ?_
 simp only [push_cast, seval, ↓reduceIte, Za, hN0, hN]
 refine Zf [6, 7] [true, false] ?_
 simp only [push_cast, seval, ↓reduceIte]
 refine Zt ?_
 try simp only [Zi, Ze]
 have h := Option.some.inj h; subst h
 refine Zl (.inr rfl) hU [.agg [.val (.int .i64 y10.1.P.Kind), .val (.int .i64 y10.1.P.Off), .val (.int .i64 y10.1.P.Data), .val (.int .i64 y10.1.P.Ptrs), .val (.int .i64 y10.1.P.Code), .val (.int .i64 y10.1.P.Count), .val (.int .i64 y10.1.P.Segment), .val (.bool y10.1.P.Double), .val (.int .i64 y10.1.Segment), .val (.int .i64 y10.1.At)], .val (.int .i64 y10.2)] (by omega) ?_
 simp only [push_cast, seval, ↓reduceIte, Za, Try.results48, hN0, hN]
theorem Zd1 {a0 : Zd} {r : (Zd × Int)} {O : Objs} {n : Nat} (h : J0 a0 = some r) : GTo Try.prog 49 [.agg (Zj a0)] O n (.tup [.agg (Zj r.1), .val (.int .i64 r.2)]) O n := by
 unfold J0 at h
 refine Yl Zc Try.call49 Try.func49 rfl (Nat.le_of_ble_eq_true rfl) (Nat.le_refl _) fun hU => ?_
 have hN0 : O n = none := hU.fresh _ (Nat.le_refl _)
 have hN : ∀ k, O (n + k) = none := fun k => hU.fresh _ (Nat.le_add_right _ _)
 show W _ _ _ _ ⟨56, [], [(0, .agg (Zj a0))]⟩ (Z3 O n []) _
 refine Zp [1, 2] (Zb Zc [] ?_)
 simp only [push_cast, seval, ↓reduceIte, Za, hN0, hN]
 refine Zg ?_
 obtain ⟨y2, hy2, h⟩ := bC h
 refine Zb Zc [] ?_
 simp only [push_cast, seval, ↓reduceIte, Za, hN0, hN]
 refine (Q0 hy2).then ?_
 simp only [push_cast, seval, ↓reduceIte, Za, hN0, hN]
 refine Zf [1, 2, 4] [true, true] ?_
 simp only [push_cast, seval, ↓reduceIte]
 refine Zg ?_
 obtain ⟨y4, hy4, h⟩ := bC h
 refine Zb Zc [] ?_
 simp only [push_cast, seval, ↓reduceIte, Za, hN0, hN]
 refine (Jj hy4).then ?_
 simp only [push_cast, seval, ↓reduceIte, Za, hN0, hN]
 refine Zf [1, 2, 6] [true, true, true] ?_
 simp only [push_cast, seval, ↓reduceIte]
 refine Zg ?_
 refine Zp [1, 2, 6, 44] (Zb Zc [none, none, none, none, none, none, none, none, none, none, none, none, none, none, none, none, none] ?_)
 simp only [push_cast, seval, ↓reduceIte, Za, hN0, hN]
 repeat (with_reducible refine And.intro (by first | (intro h0; simp only [h0, and_self]; done) | (intro h0; simp only [h0, Bool.not_false, Bool.not_true, Bool.true_and, Bool.and_true, true_and, and_true, and_self, imp_self, implies_true, bne_iff_ne, ne_eq, beq_iff_eq]; done) | (intros; simp_all; done) | exact True.intro) ?_)
 refine Zr (t := (cond (cond (cond (y4.Kind != 0) (y4.Kind != 1) false) true (decide (y4.Off < 0))) true (decide (a0.count < (IntKind.i64.wrap (y4.Off * (IntKind.i64.wrap (y4.Data + y4.Ptrs)))))))) rfl (fun c5 => ?_) (fun c5 => ?_)
 ·replace h := Zv c5 h
  refine Zg ?_
  refine Zb Zc [] ?_
  simp only [push_cast, seval, ↓reduceIte, Za, hN0, hN]
  refine Zf [2, 3] [false, true, false] ?_
  simp only [push_cast, seval, ↓reduceIte]
  refine Zt ?_
  try simp only [Zi, Ze]
  have h := Option.some.inj h; subst h
  refine Zl (.inr rfl) hU [.agg [.val (.pointer none), .val (.int .i64 0), .val (.int .i64 0), .val (.int .i64 0), .val (.int .i64 0), .val (.int .i64 0), .val (.int .i64 0), .val (.int .i64 0), .val (.int .i64 0)], .val (.int .i64 8)] (by omega) ?_
  simp only [push_cast, seval, ↓reduceIte, Za, Try.results49, hN0, hN]
 replace h := Zu c5 h
 refine Zx ?_
 try simp only [Zi, Ze]
 refine Zf [1, 2, 6] [true, true, true] ?_
 simp only [push_cast, seval, ↓reduceIte]
 refine Zg ?_
 refine Zbq Zc (by kernel_rfl) [.plain, .plain, .low, .low, .low, .low, .plain, .pass, .plain, .pass, .plain, .bar] (fun i => i ≠ n + 0) [0, 1, 2, 3, 4, 5, 6, 7, 8, 9, 10, 11] [.plain, .plain, .low, .low, .low, .low, .plain, .pass, .plain, .pass, .plain, .bar] [] (by kernel_rfl) rfl ?_
 simp only [push_cast, seval, ↓reduceIte, Za, hN0, hN]
 repeat (with_reducible refine And.intro (by first | omega | exact Qh rfl | exact Xw | exact Kf rfl | exact Kj rfl rfl | exact agree_ltne rfl | exact agree_ltne0 rfl) ?_)
 refine Zf [1, 2] [true, true, false] ?_
 simp only [push_cast, seval, ↓reduceIte]
 refine Zg ?_
 refine Zb Zc [] ?_
 simp only [push_cast, seval, ↓reduceIte, Za, hN0, hN]
 refine Zf [2, 3] [false, true, false] ?_
 simp only [push_cast, seval, ↓reduceIte]
 refine Zt ?_
 try simp only [Zi, Ze]
 have h := Option.some.inj h; subst h
 refine Zl (.inr rfl) hU [.agg [(gP Zm a0.a), .val (.int .i64 a0.kind), .val (.int .i64 a0.segment), .val (.int .i64 a0.at_), .val (.int .i64 y4.Data), .val (.int .i64 y4.Ptrs), .val (.int .i64 y4.Off), .val (.int .i64 a0.code), .val (.int .i64 a0.index)], .val (.int .i64 0)] (by omega) ?_
 simp only [push_cast, seval, ↓reduceIte, Za, Try.results49, hN0, hN]
theorem Zbv {a0 : (Option Zk)} {a1 : Int} {a2 : Int} {r : (Zd × Int)} {O : Objs} {n : Nat} (h : Ko a0 a1 a2 = some r) : GTo Try.prog 16 [(gP Zm a0), .val (.int .i64 a1), .val (.int .i64 a2)] O n (.tup [.agg (Zj r.1), .val (.int .i64 r.2)]) O n := by
 unfold Ko at h
 refine Yl Zc Try.call16 Try.func16 rfl (Nat.le_of_ble_eq_true rfl) (Nat.le_refl _) fun hU => ?_
 have hN0 : O n = none := hU.fresh _ (Nat.le_refl _)
 have hN : ∀ k, O (n + k) = none := fun k => hU.fresh _ (Nat.le_add_right _ _)
 show W _ _ _ _ ⟨66, [], [(0, (gP Zm a0)), (1, .val (.int .i64 a1)), (2, .val (.int .i64 a2))]⟩ (Z3 O n []) _
 refine Zp [0, 1, 2, 6] (Zb Zc [] ?_)
 simp only [push_cast, seval, ↓reduceIte, Za, hN0, hN]
 refine Zg ?_
 obtain ⟨y2, hy2, h⟩ := bC h
 refine Zb Zc [] ?_
 simp only [push_cast, seval, ↓reduceIte, Za, hN0, hN]
 refine (Zks hy2).then ?_
 simp only [push_cast, seval, ↓reduceIte, Za, hN0, hN]
 refine Zf [0, 6, 8, 9] [true, true] ?_
 simp only [push_cast, seval, ↓reduceIte]
 refine Zg ?_
 refine Zp [0, 6, 8, 9, 25] (Zb Zc [none, none, none, none] ?_)
 simp only [push_cast, seval, ↓reduceIte, Za, hN0, hN]
 repeat (with_reducible refine And.intro (by first | (intro h0; simp only [h0, and_self]; done) | (intro h0; simp only [h0, Bool.not_false, Bool.not_true, Bool.true_and, Bool.and_true, true_and, and_true, and_self, imp_self, implies_true, bne_iff_ne, ne_eq, beq_iff_eq]; done) | (intros; simp_all; done) | exact True.intro) ?_)
 refine Zr (t := (cond (y2.2 != 0) true (y2.1.P.Kind == 0))) rfl (fun c7 => ?_) (fun c7 => ?_)
 ·replace h := Zv c7 h
  refine Zg ?_
  refine Zb Zc [] ?_
  simp only [push_cast, seval, ↓reduceIte, Za, hN0, hN]
  refine Zf [6, 7] [true, false] ?_
  simp only [push_cast, seval, ↓reduceIte]
  refine Zt ?_
  try simp only [Zi, Ze]
  have h := Option.some.inj h; subst h
  refine Zl (.inr rfl) hU [.agg [.val (.pointer none), .val (.int .i64 0), .val (.int .i64 0), .val (.int .i64 0), .val (.int .i64 0), .val (.int .i64 0), .val (.int .i64 0), .val (.int .i64 0), .val (.int .i64 0)], .val (.int .i64 y2.2)] (by omega) ?_
  simp only [push_cast, seval, ↓reduceIte, Za, Try.results16, hN0, hN]
 replace h := Zu c7 h
 refine Zx ?_
 try simp only [Zi, Ze]
 refine Zf [0, 6, 8] [true, true] ?_
 simp only [push_cast, seval, ↓reduceIte]
 refine Zg ?_
 refine Zb Zc [] ?_
 simp only [push_cast, seval, ↓reduceIte, Za, hN0, hN]
 refine Zf [6, 8, 10] [true, true, true] ?_
 simp only [push_cast, seval, ↓reduceIte]
 refine Zg ?_
 refine Zp [6, 8, 10, 37] (Zb Zc [] ?_)
 simp only [push_cast, seval, ↓reduceIte, Za, hN0, hN]
 refine Zr (t := (y2.1.P.Kind == 1)) rfl (fun c6 => ?_) (fun c6 => ?_)
 ·replace h := Zv c6 h
  refine Zg ?_
  refine Zbq Zc (by kernel_rfl) [.low, .low, .low, .low, .low, .low, .plain, .pass, .plain, .pass, .plain, .bar] (fun i => i ≠ n + 2) [0, 1, 2, 3, 4, 5, 6, 7, 8, 9, 10, 11] [.low, .low, .low, .low, .low, .low, .plain, .pass, .plain, .pass, .plain, .bar] [] (by kernel_rfl) rfl ?_
  simp only [push_cast, seval, ↓reduceIte, Za, hN0, hN]
  repeat (with_reducible refine And.intro (by first | omega | exact Qh rfl | exact Xw | exact Kf rfl | exact Kj rfl rfl | exact agree_ltne rfl | exact agree_ltne0 rfl) ?_)
  refine Zf [6, 10] [true, false, true] ?_
  simp only [push_cast, seval, ↓reduceIte]
  refine Zg ?_
  refine Zb Zc [] ?_
  simp only [push_cast, seval, ↓reduceIte, Za, hN0, hN]
  refine Zf [6, 7] [true, false, false] ?_
  simp only [push_cast, seval, ↓reduceIte]
  refine Zt ?_
  try simp only [Zi, Ze]
  have h := Option.some.inj h; subst h
  refine Zl (.inr rfl) hU [.agg [(gP Zm a0), .val (.int .i64 1), .val (.int .i64 y2.1.Segment), .val (.int .i64 y2.1.At), .val (.int .i64 y2.1.P.Data), .val (.int .i64 y2.1.P.Ptrs), .val (.int .i64 0), .val (.int .i64 0), .val (.int .i64 0)], .val (.int .i64 0)] (by omega) ?_
  simp only [push_cast, seval, ↓reduceIte, Za, Try.results16, hN0, hN]
 replace h := Zu c6 h
 refine Zx ?_
 try simp only [Zi, Ze]
 refine Zf [6, 8, 10] [true, true, true] ?_
 simp only [push_cast, seval, ↓reduceIte]
 refine Zg ?_
 refine Zbq Zc (by kernel_rfl) [.plain, .plain, .plain, .plain, .low, .low, .low, .plain, .pass, .plain, .bar] (fun i => i ≠ n + 2) [0, 1, 2, 3, 4, 5, 6, 7, 8, 9, 10] [.plain, .plain, .plain, .plain, .low, .low, .low, .plain, .pass, .plain, .bar] [] (by kernel_rfl) rfl ?_
 simp only [push_cast, seval, ↓reduceIte, Za, hN0, hN]
 repeat (with_reducible refine And.intro (by first | omega | exact Qh rfl | exact Xw | exact Kf rfl | exact Kj rfl rfl | exact agree_ltne rfl | exact agree_ltne0 rfl) ?_)
 refine Zf [6, 8, 10] [true, true, true] ?_
 simp only [push_cast, seval, ↓reduceIte]
 refine Zg ?_
 refine Zp [6, 10, 60] (Zb Zc [] ?_)
 simp only [push_cast, seval, ↓reduceIte, Za, hN0, hN]
 refine Zr (t := (y2.1.P.Code == 7)) rfl (fun c5 => ?_) (fun c5 => ?_)
 ·replace h := Zv c5 h
  refine Zg ?_
  obtain ⟨y4, hy4, h⟩ := bC h
  refine Zb Zc [] ?_
  simp only [push_cast, seval, ↓reduceIte, Za, hN0, hN]
  refine (Zd1 hy4).then ?_
  simp only [push_cast, seval, ↓reduceIte, Za, hN0, hN]
  refine Zf [6, 7] [true, false, false] ?_
  simp only [push_cast, seval, ↓reduceIte]
  refine Zt ?_
  try simp only [Zi, Ze]
  have h := Option.some.inj h; subst h
  refine Zl (.inr rfl) hU [.agg (Zj y4.1), .val (.int .i64 y4.2)] (by omega) ?_
  simp only [push_cast, seval, ↓reduceIte, Za, Try.results16, hN0, hN]
 replace h := Zu c5 h
 refine Zx ?_
 try simp only [Zi, Ze]
 refine Zf [6, 10] [true, false, true] ?_
 simp only [push_cast, seval, ↓reduceIte]
 refine Zg ?_
 refine Zb Zc [] ?_
 simp only [push_cast, seval, ↓reduceIte, Za, hN0, hN]
 refine Zf [6, 7] [true, false, false] ?_
 simp only [push_cast, seval, ↓reduceIte]
 refine Zt ?_
 try simp only [Zi, Ze]
 have h := Option.some.inj h; subst h
 refine Zl (.inr rfl) hU [.agg [(gP Zm a0), .val (.int .i64 (IntKind.i64.wrap (y2.1.P.Code + 2))), .val (.int .i64 y2.1.Segment), .val (.int .i64 y2.1.At), .val (.int .i64 0), .val (.int .i64 0), .val (.int .i64 y2.1.P.Count), .val (.int .i64 0), .val (.int .i64 0)], .val (.int .i64 0)] (by omega) ?_
 simp only [push_cast, seval, ↓reduceIte, Za, Try.results16, hN0, hN]
end Go.Proofs.Ytmlhokaflhlhbaa
