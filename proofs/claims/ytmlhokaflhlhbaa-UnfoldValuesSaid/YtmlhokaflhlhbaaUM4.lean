/- Part UM4 of this seat's mirrors: functions of the seat's program, and the plain functions that they are; each theorem bears its own conditions. -/
import Derived.Test.YtmlhokaflhlhbaaUE
import Derived.Test.YtmlhokaflhlhbaaUM3
namespace Go.Proofs.Ytmlhokaflhlhbaa
open Go.RowKit
set_option linter.unusedVariables false
set_option linter.unusedSimpArgs false
set_option maxRecDepth 100000
set_option maxHeartbeats 4000000
attribute [local push_cast] Yj Zz Zp Yn Zj Zln Zlm Zl6 Zl5 Zi Zf Zip Zek Zej onW Y9 Gs U4 Zkw Zkd Zg4 Zg8 Zg3 Zg7 Zjl Zji Zg6 Zjk Zjj Zg5 Zjg Ze8 evS wok Xt Op.operands Call.operands gop onK onP atK List.all_cons List.all_nil Bool.and_true Bool.true_and Bool.and_self Value.oneCell' List.take_zero List.take_succ_cons List.take_nil List.drop_zero List.drop_succ_cons List.drop_nil List.append_nil Nat.add_zero Nat.zero_add Kk Yb ev X3 Zpu Zlg Zlf Zll Zlj Zlk Zlh Zli Zle Zk7 Znv Zpx Zen Gu Zdp Gt Zgo Zb2 Zco Zct Zed Zea Zcr Zec Zeb Zcq Zd8 Zcp Zcs Zbo Zd9 Zhd Zel Ui Zem Uj Zfx Zei Zos bLo bHi bMx Gw Zfv Zr6 Zeh Zfw Zbp Vr Zny Zr9 Zeg Zse Gr Ztp Zit Zix Zis Ziw Zlw Zlt Zlr Zgq Ziu Zlv Zlu Ziv Zls Zfq Zkc Zja Ze1 Ze0 pop TK.isAgg Zlz Zl3 Zly Zl2 Zi3 Zqh Zqe Zl1 Zqg Zqf Zl0 Zqd G.under G.unders List.getD_cons_zero List.getD_cons_succ List.set_cons_zero List.set_cons_succ List.map_cons List.map_nil List.toList_toArray Array.toList_append Option.toArray_none Option.toArray_some Array.toList_map Option.map_some Option.map_none Option.bind_some Option.bind_none List.getElem?_cons_zero List.getElem?_cons_succ List.getElem?_nil List.nil_append List.cons_append List.replicate_succ List.replicate_zero List.length_cons List.length_nil and_true true_and and_false false_and Bool.true_eq_false Bool.false_eq_true forall_const false_implies implies_true IntKind.bits if_true if_false ite_true ite_false eq_self true_implies false_or or_false or_true true_or not_true_eq_false not_false_eq_true decide_true decide_false decide_eq_true_eq decide_eq_false_iff_not beq_iff_eq bne_iff_ne ne_eq Bool.not_eq_true Bool.not_eq_false beq_eq_false_iff_ne bne_eq_false_iff_eq beq_self_eq_true bne_self_eq_false Option.some.injEq exists_eq_left' exists_eq_left ge_iff_le gt_iff_lt decide_not Bool.not_true Bool.not_false imp_self Zpz cond_true cond_false Zyz Zyy Bool.not_not Bool.and_false Bool.false_and Bool.or_true Bool.true_or Bool.or_false Bool.false_or V9 Zbn Zax Gm U3 V6 Option.join_some Nat.add_assoc Int.toNat_natCast eI eB eS eL Zbg Zdq Zcx Zlq Zlo Zlp Zt0 Zws Zdx Zc2 Zmc Zma Zmb Zqc Zhc Zpb Zhq Zop Zbs Znq List.length_append G.agg.injEq G.row.injEq G.ref.injEq G.val.injEq G.sl.injEq G.tup.injEq Value.int.injEq Value.bool.injEq Value.string.injEq List.cons.injEq exists_and_left exists_const List.flatten_cons List.flatten_nil Int.le_refl Nat.le_refl Zd4 K3 Zdi Bool.not_eq_true' Bool.not_eq_false' Znh Zd5 Zrm Zrr Zrl Zrq Zvx Zvt List.size_toArray Zkm Zk3 G.ren G.rens Zoe Zcf Zmf Zlc Zld Zjh Zrs Zca G.fn.injEq Zge Zj5 Zng Zvu Zj4 Zrp Zvw Zvv Zrn Zp5 Zuk Option.join_none Xi K5 undef Zfz Arr.len Arr.put_eq Zdw Zgt Zex Zc1 Zl9 Zl7 Zl8 onB Ztz Znu Zje Zh4 Zh5 Zh6 Zh7 Zh8 Zh9 Zgr Zgw Zgu Zez Zc3 Zgv Zi9 Zi8 Zi7 Zi6 Zwr Zx9 Zqb Zoz Q9 Zp6 Zkg Zgx Zey Zst Zk4 Zef Zfu Za0 Zgb Zia Zib Zic Zid Zgf Zgg Zgh Zgi Zgj Zgk Zgl Zbj prT Zan Zzh Zq9 Zt9 Zra Zzi Zrb Zzj Zrc Zzk Zrd Zzl Zre Zzm Zrf Zzn Zrg Zuv Zmh Zuw Zmi Zux Zmj Zuy Zmk Zuz Zml Zu0 Zmm Zu1 Zmn Zu2 Zmo Zu3 Zmp Zu4 Zmq Zu5 Zmr Zu6 Zms Zu7 Zmt Zu8 Zj1 Zu9 Zmu Zva Zmv Zvb Zmw U9 Zmx Zvc Zmy Zvd Zmz Zbd Zc9 Zve Zm0 Zvf Zm1 Zvg Zj2 Zvh Zm2 Zhr Zm3 Zvi Zm4 Zvj Zm5 Zvk Zm6 Zvl Zm7 Zvm Zm8 Zvn Zm9 Zvo Zna Zvp Znb Zvq Znc Zvr Znd Zvs Zne Zqu Zjm Zqv Zjn Zqw Zjo Zqx Zjp Zqy Zjq Zqz Zjr Zq0 Zjs Zq1 Zjt Zq2 Zju Zq3 Zjv Zq4 Zjw Zq5 Zjx Zq6 Zjy Zq7 Zjz Zq8 Zj0 Q1 Zfe Zfc Zep Zev Zfg Zdb Zc7 Zc5 Zfa Za3 Za2 Zay Zaz Za4 Zam Zag Zaf Za1 Zn Vb Va K6 K8 Vc Kv Kt Ks K9 Zcv Zfd Zfb Zeo Zeu Zff Zda Zc6 Zc4 Ze9 Zcu Gp Z8 Kb Ka J5 J8 Kc Jq Jp Jo J9 Z5 Zk Qq Uy Ux Ur Uv Uz Uf Ue Ud Uw Je Jd Q6 Q8 Jg Qy Qx Qw Jc Vu Vv
theorem Zes {Yl : ((List (List Int)) → Zo → Int → Int → Option (S_api_Tree × Int × Int))} {Y6 : ((List (List Int)) → Zo → Int → Int → Option (S_api_Tree × Int × Int))} (Vm : ∀ {a0 : (List (List Int))} {a1 : Zo} {a2 : Int} {a3 : Int} {r : (S_api_Tree × Int × Int)} {O : Objs} {n : Nat}, Yl a0 a1 a2 a3 = some r → GTo Try.prog 63 [.sl a0.length (fl (eL (eI .u64)) a0), .agg (Zp a1), .val (.int .i64 a2), .val (.int .i64 a3)] O n (.tup [.agg (Zz r.1), .val (.int .i64 r.2.1), .val (.int .i64 r.2.2)]) O n) (Zbb : ∀ {a0 : (List (List Int))} {a1 : Zo} {a2 : Int} {a3 : Int} {r : (S_api_Tree × Int × Int)} {O : Objs} {n : Nat}, Y6 a0 a1 a2 a3 = some r → GTo Try.prog 87 [.sl a0.length (fl (eL (eI .u64)) a0), .agg (Zp a1), .val (.int .i64 a2), .val (.int .i64 a3)] O n (.tup [.agg (Zz r.1), .val (.int .i64 r.2.1), .val (.int .i64 r.2.2)]) O n) {a0 : (List (List Int))} {a1 : Zo} {a2 : Int} {a3 : Int} {r : (S_api_Tree × Int × Int)} {O : Objs} {n : Nat} (h : Xz Yl Y6 a0 a1 a2 a3 = some r) : GTo Try.prog 63 [.sl a0.length (fl (eL (eI .u64)) a0), .agg (Zp a1), .val (.int .i64 a2), .val (.int .i64 a3)] O n (.tup [.agg (Zz r.1), .val (.int .i64 r.2.1), .val (.int .i64 r.2.2)]) O n := by
 unfold Xz at h
 refine Ys Zc Try.call63 Try.func63 rfl (Nat.le_of_ble_eq_true rfl) (Nat.le_refl _) fun hU => ?_
 have hN0 : O n = none := hU.fresh _ (Nat.le_refl _)
 have hN : ∀ k, O (n + k) = none := fun k => hU.fresh _ (Nat.le_add_right _ _)
 show W _ _ _ _ ⟨149, [], [(0, .sl a0.length (fl (eL (eI .u64)) a0)), (1, .agg (Zp a1)), (2, .val (.int .i64 a2)), (3, .val (.int .i64 a3))]⟩ (Z4 O n []) _
 refine Zr [0, 2, 3, 5, 8] (Zb Zc [] ?_)
 simp only [push_cast, seval, ↓reduceIte, Za, hN0, hN]
 refine Zh ?_
 obtain ⟨y2, hy2, h⟩ := bC h
 refine Zcn Zc (by kernel_rfl) [.low, .low, .low, .low, .low, .low, .pass, .bar] (fun i => i < (n + 2)) [0, 1, 2, 3, 4, 5, 6, 7] [.low, .low, .low, .low, .low, .low, .pass, .bar] [] (by kernel_rfl) rfl ?_
 simp only [push_cast, seval, ↓reduceIte, Za, hN0, hN]
 repeat (with_reducible refine And.intro (by first | omega | exact Qh rfl | exact Xr | exact Kf rfl | exact Vd rfl rfl) ?_)
 first | refine PCallA.of (fun _ _ => X8 hy2) ?_ | refine PCall.of (X8 hy2) ?_
 simp only [push_cast, seval, ↓reduceIte, Za, hN0, hN]
 repeat (with_reducible refine And.intro (by first | omega | exact Qh rfl | exact Xr | exact Kf rfl | exact Vd rfl rfl) ?_)
 refine Zg [0, 2, 3, 5, 8, 11] [true, true, true] ?_
 simp only [push_cast, seval, ↓reduceIte]
 refine Zh ?_
 refine Zr [0, 2, 3, 5, 8, 11, 25] (Zb Zc [] ?_)
 simp only [push_cast, seval, ↓reduceIte, Za, hN0, hN]
 refine Zs (t := (a1.Kind == 0)) rfl (fun c27 => ?_) (fun c27 => ?_)
 ·replace h := Zx c27 h
  refine Zh ?_
  refine Zb Zc [] ?_
  simp only [push_cast, seval, ↓reduceIte, Za, hN0, hN]
  refine Zg [8, 9, 10] [false, true, false] ?_
  simp only [push_cast, seval, ↓reduceIte]
  refine Zu ?_
  try simp only [Zi, Zf]
  have h := Option.some.inj h; subst h
  refine Zl (.inr rfl) hU [.agg [.val (.int .i64 a1.Kind), .sl y2.length (fl (eI .u64) y2), .val (.slice none 0 0)], .val (.int .i64 a3), .val (.int .i64 0)] (by omega) ?_
  simp only [push_cast, seval, ↓reduceIte, Za, Try.results63, hN0, hN]
 replace h := Zw c27 h
 refine Zy ?_
 try simp only [Zi, Zf]
 refine Zg [0, 2, 3, 5, 8, 11] [true, true, true] ?_
 simp only [push_cast, seval, ↓reduceIte]
 refine Zh ?_
 refine Zr [0, 2, 3, 5, 8, 11, 43] (Zb Zc [none, none, none, none, none, none, none, none, none, none, none, none] ?_)
 simp only [push_cast, seval, ↓reduceIte, Za, hN0, hN]
 repeat (with_reducible refine And.intro (by first | (intro h0; simp only [h0, and_self]; done) | (intro h0; simp only [h0, Bool.not_false, Bool.not_true, Bool.true_and, Bool.and_true, true_and, and_true, and_self, imp_self, implies_true, bne_iff_ne, ne_eq, beq_iff_eq]; done) | (intros; simp_all; done) | exact True.intro) ?_)
 refine Zs (t := (cond (decide (a2 < 1)) true (cond (cond (a1.Kind == 9) (decide (0 < a1.Count)) false) (decide (a2 < 2)) false))) rfl (fun c26 => ?_) (fun c26 => ?_)
 ·replace h := Zx c26 h
  refine Zh ?_
  refine Zb Zc [] ?_
  simp only [push_cast, seval, ↓reduceIte, Za, hN0, hN]
  refine Zg [8, 9, 10] [false, true, false] ?_
  simp only [push_cast, seval, ↓reduceIte]
  refine Zu ?_
  try simp only [Zi, Zf]
  have h := Option.some.inj h; subst h
  refine Zl (.inr rfl) hU [.agg [.val (.int .i64 a1.Kind), .sl y2.length (fl (eI .u64) y2), .val (.slice none 0 0)], .val (.int .i64 a3), .val (.int .i64 3)] (by omega) ?_
  simp only [push_cast, seval, ↓reduceIte, Za, Try.results63, hN0, hN]
 replace h := Zw c26 h
 refine Zy ?_
 try simp only [Zi, Zf]
 refine Zg [0, 2, 3, 5, 8, 11] [true, true, true] ?_
 simp only [push_cast, seval, ↓reduceIte]
 refine Zh ?_
 obtain ⟨y4, hy4, h⟩ := bC h
 refine Zb Zc [] ?_
 simp only [push_cast, seval, ↓reduceIte, Za, hN0, hN]
 refine (Vz hy4).then ?_
 simp only [push_cast, seval, ↓reduceIte, Za, hN0, hN]
 refine Zg [0, 2, 3, 5, 8, 11, 12] [true, true, true] ?_
 simp only [push_cast, seval, ↓reduceIte]
 obtain ⟨z5, hz5, h⟩ := bC h
 refine Qa (E' := ⟨149, [], [(0, .sl a0.length (fl (eL (eI .u64)) a0)), (2, .val (.int .i64 a2)), (3, .val (.int .i64 a3)), (5, .ref n 0), (8, .ref (n + 1) 0), (11, .ref (n + 2) 0), (12, .val (.int .i64 z5))]⟩) (O' := (Z4 O n [some ⟨false, 33, 7, 1, (Zp a1)⟩, some ⟨false, 58, 3, 1, [.val (.int .i64 0), .val (.slice none 0 0), .val (.slice none 0 0)]⟩, some ⟨false, 58, 3, 1, [.val (.int .i64 a1.Kind), .sl y2.length (fl (eI .u64) y2), .val (.slice none 0 0)]⟩])) (n0 := (n + 3)) ?_ ?_
 ·refine Zr [0, 2, 3, 5, 8, 11, 12, 51] (Zb Zc [] ?_)
  simp only [push_cast, seval, ↓reduceIte, Za, hN0, hN]
  refine Zs (t := (a1.Kind == 1)) rfl (fun c6 => ?_) (fun c6 => ?_)
  ·replace hz5 := Zx c6 hz5
   refine Zb Zc [] ?_
   simp only [push_cast, seval, ↓reduceIte, Za, hN0, hN]
   have hz5 := Option.some.inj hz5; subst hz5
   refine And.intro rfl (Fit2.of (Zv hU rfl rfl ?_) (by omega))
   simp only [push_cast, seval, ↓reduceIte, Za, hN0, hN]
  replace hz5 := Zw c6 hz5
  refine Zy ?_
  try simp only [Zi, Zf]
  have hz5 := Option.some.inj hz5; subst hz5
  refine And.intro rfl (Fit2.of (Zv hU rfl rfl ?_) (by omega))
  simp only [push_cast, seval, ↓reduceIte, Za, hN0, hN]
 obtain ⟨z7, hz7, h⟩ := bC h
 refine Qa (E' := ⟨149, [], [(0, .sl a0.length (fl (eL (eI .u64)) a0)), (2, .val (.int .i64 a2)), (3, .val (.int .i64 a3)), (5, .ref n 0), (8, .ref (n + 1) 0), (11, .ref (n + 2) 0), (12, .val (.int .i64 z7))]⟩) (O' := (Z4 O n [some ⟨false, 33, 7, 1, (Zp a1)⟩, some ⟨false, 58, 3, 1, [.val (.int .i64 0), .val (.slice none 0 0), .val (.slice none 0 0)]⟩, some ⟨false, 58, 3, 1, [.val (.int .i64 a1.Kind), .sl y2.length (fl (eI .u64) y2), .val (.slice none 0 0)]⟩])) (n0 := (n + 3)) ?_ ?_
 ·refine Zr [0, 2, 3, 5, 8, 11, 12, 60] (Zb Zc [] ?_)
  simp only [push_cast, seval, ↓reduceIte, Za, hN0, hN]
  refine Zs (t := (a1.Kind == 9)) rfl (fun c8 => ?_) (fun c8 => ?_)
  ·replace hz7 := Zx c8 hz7
   refine Zb Zc [] ?_
   simp only [push_cast, seval, ↓reduceIte, Za, hN0, hN]
   have hz7 := Option.some.inj hz7; subst hz7
   refine And.intro rfl (Fit2.of (Zv hU rfl rfl ?_) (by omega))
   simp only [push_cast, seval, ↓reduceIte, Za, hN0, hN]
  replace hz7 := Zw c8 hz7
  refine Zy ?_
  try simp only [Zi, Zf]
  have hz7 := Option.some.inj hz7; subst hz7
  refine And.intro rfl (Fit2.of (Zv hU rfl rfl ?_) (by omega))
  simp only [push_cast, seval, ↓reduceIte, Za, hN0, hN]
 refine Zh ?_
 refine Zr [0, 2, 3, 5, 8, 11, 12, 73] (Zb Zc [] ?_)
 simp only [push_cast, seval, ↓reduceIte, Za, hN0, hN]
 refine Zs (t := (decide (a3 < z7))) rfl (fun c25 => ?_) (fun c25 => ?_)
 ·replace h := Zx c25 h
  refine Zh ?_
  refine Zb Zc [] ?_
  simp only [push_cast, seval, ↓reduceIte, Za, hN0, hN]
  refine Zg [8, 9, 10] [false, true, false] ?_
  simp only [push_cast, seval, ↓reduceIte]
  refine Zu ?_
  try simp only [Zi, Zf]
  have h := Option.some.inj h; subst h
  refine Zl (.inr rfl) hU [.agg [.val (.int .i64 a1.Kind), .sl y2.length (fl (eI .u64) y2), .val (.slice none 0 0)], .val (.int .i64 a3), .val (.int .i64 3)] (by omega) ?_
  simp only [push_cast, seval, ↓reduceIte, Za, Try.results63, hN0, hN]
 replace h := Zw c25 h
 refine Zy ?_
 try simp only [Zi, Zf]
 refine Zg [0, 2, 3, 5, 8, 11, 12] [true, true, true] ?_
 simp only [push_cast, seval, ↓reduceIte]
 refine Zr [0, 2, 3, 5, 8, 11] (Zb Zc [] ?_)
 simp only [push_cast, seval, ↓reduceIte, Za, hN0, hN]
 refine Zh ?_
 refine Zr [0, 2, 3, 5, 8, 11, 13] (Zb Zc [] ?_)
 simp only [push_cast, seval, ↓reduceIte, Za, hN0, hN]
 refine Zg [0, 2, 3, 5, 8, 11, 13] [true, true, true] ?_
 simp only [push_cast, seval, ↓reduceIte]
 refine Znl (E' := (⟨149, [], [(0, .sl a0.length (fl (eL (eI .u64)) a0)), (2, .val (.int .i64 a2)), (3, .val (.int .i64 (IntKind.i64.wrap (a3 - z7)))), (5, .ref n 0), (8, .ref (n + 1) 0), (11, .ref (n + 2) 0), (13, .val (.int .i64 0))]⟩ : Env)) (O' := (Z4 O n [some ⟨false, 33, 7, 1, (Zp a1)⟩, some ⟨false, 58, 3, 1, [.val (.int .i64 0), .val (.slice none 0 0), .val (.slice none 0 0)]⟩, some ⟨false, 58, 3, 1, [.val (.int .i64 a1.Kind), .sl y2.length (fl (eI .u64) y2), .row (n + 3) ([] : List S_api_Tree).length]⟩, some ⟨true, 58, 3, ([] : List S_api_Tree).length, fl Zk ([] : List S_api_Tree)⟩, none])) (n' := (n + 5)) ?_ ?_
 ·refine Fit2.trans (E' := (⟨149, [], [(0, .sl a0.length (fl (eL (eI .u64)) a0)), (2, .val (.int .i64 a2)), (3, .val (.int .i64 (IntKind.i64.wrap (a3 - z7)))), (5, .ref n 0), (8, .ref (n + 1) 0), (11, .ref (n + 2) 0), (13, .val (.int .i64 0))]⟩ : Env)) (O' := (Z4 O n [some ⟨false, 33, 7, 1, (Zp a1)⟩, some ⟨false, 58, 3, 1, [.val (.int .i64 0), .val (.slice none 0 0), .val (.slice none 0 0)]⟩, some ⟨false, 58, 3, 1, [.val (.int .i64 a1.Kind), .sl y2.length (fl (eI .u64) y2), .val (.slice none 0 0)]⟩])) (n' := (n + 3)) (Fit2.of (Zv hU rfl rfl ?_) (by omega)) ?_
  ·simp only [push_cast, seval, ↓reduceIte, Za, hN0, hN]
  refine Fit2.trans (E' := (⟨149, [], [(0, .sl a0.length (fl (eL (eI .u64)) a0)), (2, .val (.int .i64 a2)), (3, .val (.int .i64 (IntKind.i64.wrap (a3 - z7)))), (5, .ref n 0), (8, .ref (n + 1) 0), (11, .ref (n + 2) 0), (13, .val (.int .i64 0))]⟩ : Env)) (O' := (Z4 O n [some ⟨false, 33, 7, 1, (Zp a1)⟩, some ⟨false, 58, 3, 1, [.val (.int .i64 0), .val (.slice none 0 0), .val (.slice none 0 0)]⟩, some ⟨false, 58, 3, 1, [.val (.int .i64 a1.Kind), .sl y2.length (fl (eI .u64) y2), .row (n + 3) 0]⟩, some ⟨true, 58, 3, 0, []⟩])) (n' := (n + 4)) ?_ ?_
  ·have ha := Zby (ba := n) (E := (⟨149, [], [(0, .sl a0.length (fl (eL (eI .u64)) a0)), (2, .val (.int .i64 a2)), (3, .val (.int .i64 (IntKind.i64.wrap (a3 - z7)))), (5, .ref n 0), (8, .ref (n + 1) 0), (11, .ref (n + 2) 0), (13, .val (.int .i64 0))]⟩ : Env)) (O := (Z4 O n [some ⟨false, 33, 7, 1, [.val (.int .i64 a1.Kind), .val (.int .i64 a1.S), .val (.int .i64 a1.At), .val (.int .i64 a1.Data), .val (.int .i64 a1.Ptrs), .val (.int .i64 a1.Count), .val (.int .u64 a1.N)]⟩, some ⟨false, 58, 3, 1, [.val (.int .i64 0), .val (.slice none 0 0), .val (.slice none 0 0)]⟩, some ⟨false, 58, 3, 1, [.val (.int .i64 a1.Kind), .sl y2.length (fl (eI .u64) y2), .val (.slice none 0 0)]⟩])) (n := (n + 3)) (p := (n + 2)) (k := 2) (q := ⟨false, 58, 3, 1, [.val (.int .i64 a1.Kind), .sl y2.length (fl (eI .u64) y2), .val (.slice none 0 0)]⟩) 58 3 (by simp only [V9, Zbn, List.getElem?_cons_zero, List.getElem?_cons_succ, Option.join_some, Xi]) rfl (by omega)
   simp only [U3, V6, Zax, Gm, List.set_cons_zero, List.set_cons_succ, List.cons_append, List.nil_append, List.length_cons, List.length_nil, Nat.zero_add, Nat.reduceAdd, Nat.reduceLT, Nat.add_assoc] at ha
   exact ha
  refine Fit2.trans (E' := (⟨149, [], [(0, .sl a0.length (fl (eL (eI .u64)) a0)), (2, .val (.int .i64 a2)), (3, .val (.int .i64 (IntKind.i64.wrap (a3 - z7)))), (5, .ref n 0), (8, .ref (n + 1) 0), (11, .ref (n + 2) 0), (13, .val (.int .i64 0))]⟩ : Env)) (O' := (Z4 O n [some ⟨false, 33, 7, 1, (Zp a1)⟩, some ⟨false, 58, 3, 1, [.val (.int .i64 0), .val (.slice none 0 0), .val (.slice none 0 0)]⟩, some ⟨false, 58, 3, 1, [.val (.int .i64 a1.Kind), .sl y2.length (fl (eI .u64) y2), .row (n + 3) ([] : List S_api_Tree).length]⟩, some ⟨true, 58, 3, ([] : List S_api_Tree).length, fl Zk ([] : List S_api_Tree)⟩])) (n' := (n + 4)) (Fit2.of (Zv hU rfl rfl ?_) (by omega)) ?_
  ·simp only [push_cast, seval, ↓reduceIte, Za, hN0, hN]
  refine Zg0 (k := 4) (k' := 5) hU [0, 1, 2, 3] [0, 1, 2, 3, 0] rfl rfl rfl rfl ⟨rfl, rfl⟩ ?_
  simp only [push_cast, seval, ↓reduceIte, Za, hN0, hN]
 obtain ⟨z24, hz24, h⟩ := bC h
 refine Zhs (J := (Uq (fun z24 => JR n (⟨149, [], [(8, .ref (n + 1) 0), (9, .val (.int .i64 z24.1)), (10, .val (.int .i64 z24.2.1))]⟩ : Env) (Z4 O n [none, some ⟨false, 58, 3, 1, [.val (.int .i64 a1.Kind), .sl y2.length (fl (eI .u64) y2), .sl z24.2.2.length (fl Zk z24.2.2)]⟩, none]) (n + 3)) (fun z24 => JX 0 n (⟨149, [], [(3, .val (.int .i64 z24.1)), (8, .ref (n + 1) 0), (11, .ref (n + 2) 0)]⟩ : Env) (Z4 O n [none, some ⟨false, 58, 3, 1, [.val (.int .i64 0), .val (.slice none 0 0), .val (.slice none 0 0)]⟩, some ⟨false, 58, 3, 1, [.val (.int .i64 a1.Kind), .sl y2.length (fl (eI .u64) y2), .row (n + 3) z24.2.length]⟩, some ⟨true, 58, 3, z24.2.length, fl Zk z24.2⟩, none]) (n + 5)))) (z := z24) ?_ fun hw => ?_
 ·refine K4 hz24 (fun s0_ => ⟨149, [], [(0, .sl a0.length (fl (eL (eI .u64)) a0)), (2, .val (.int .i64 a2)), (3, .val (.int .i64 s0_.1)), (5, .ref n 0), (8, .ref (n + 1) 0), (11, .ref (n + 2) 0), (13, .val (.int .i64 s0_.2.1))]⟩) (fun s0_ => (Z4 O n [some ⟨false, 33, 7, 1, (Zp a1)⟩, some ⟨false, 58, 3, 1, [.val (.int .i64 0), .val (.slice none 0 0), .val (.slice none 0 0)]⟩, some ⟨false, 58, 3, 1, [.val (.int .i64 a1.Kind), .sl y2.length (fl (eI .u64) y2), .row (n + 3) s0_.2.2.length]⟩, some ⟨true, 58, 3, s0_.2.2.length, fl Zk s0_.2.2⟩, none])) (Uq (fun z24 => JR n (⟨149, [], [(8, .ref (n + 1) 0), (9, .val (.int .i64 z24.1)), (10, .val (.int .i64 z24.2.1))]⟩ : Env) (Z4 O n [none, some ⟨false, 58, 3, 1, [.val (.int .i64 a1.Kind), .sl y2.length (fl (eI .u64) y2), .sl z24.2.2.length (fl Zk z24.2.2)]⟩, none]) (n + 3)) (fun z24 => JX 0 n (⟨149, [], [(3, .val (.int .i64 z24.1)), (8, .ref (n + 1) 0), (11, .ref (n + 2) 0)]⟩ : Env) (Z4 O n [none, some ⟨false, 58, 3, 1, [.val (.int .i64 0), .val (.slice none 0 0), .val (.slice none 0 0)]⟩, some ⟨false, 58, 3, 1, [.val (.int .i64 a1.Kind), .sl y2.length (fl (eI .u64) y2), .row (n + 3) z24.2.length]⟩, some ⟨true, 58, 3, z24.2.length, fl Zk z24.2⟩, none]) (n + 5))) ?_
  intro s0_ x0_ hs0_
  unfold X0 at hs0_
  try dsimp only
  refine Zh ?_
  refine Zh ?_
  obtain ⟨y10, hy10, hs0_⟩ := bC hs0_
  refine Zb Zc [] ?_
  simp only [push_cast, seval, ↓reduceIte, Za, hN0, hN]
  refine (Vz hy10).then ?_
  simp only [push_cast, seval, ↓reduceIte, Za, hN0, hN]
  refine Zg [0, 2, 3, 5, 8, 11, 13, 82] [true, true, true, true, false] ?_
  simp only [push_cast, seval, ↓reduceIte]
  refine Zs (t := (decide (s0_.2.1 < y10))) rfl (fun c23 => ?_) (fun c23 => ?_)
  ·replace hs0_ := Zx c23 hs0_
   refine Zy ?_
   try simp only [Zi, Zf]
   refine Zg [0, 2, 3, 5, 8, 11, 13] [true, true, true, true, false] ?_
   simp only [push_cast, seval, ↓reduceIte]
   refine Zh ?_
   refine Y8 ?_
   refine Zh ?_
   obtain ⟨y12, hy12, hs0_⟩ := bC hs0_
   refine Zb Zc [] ?_
   simp only [push_cast, seval, ↓reduceIte, Za, hN0, hN]
   refine (Zao hy12).then ?_
   simp only [push_cast, seval, ↓reduceIte, Za, hN0, hN]
   refine Zg [0, 2, 3, 5, 8, 11, 13, 14, 15] [true, true, true, true, false, true] ?_
   simp only [push_cast, seval, ↓reduceIte]
   refine Zh ?_
   refine Zr [0, 2, 3, 5, 8, 11, 13, 14, 15, 93] (Zb Zc [] ?_)
   simp only [push_cast, seval, ↓reduceIte, Za, hN0, hN]
   refine Zs (t := (y12.2 != 0)) rfl (fun c22 => ?_) (fun c22 => ?_)
   ·replace hs0_ := Zx c22 hs0_
    refine Zh ?_
    refine Zb Zc [] ?_
    simp only [push_cast, seval, ↓reduceIte, Za, hN0, hN]
    refine Zg [8, 9, 10] [false, true, false, true, false, false] ?_
    simp only [push_cast, seval, ↓reduceIte]
    refine Zu ?_
    try simp only [Zi, Zf]
    have hs0_ := Option.some.inj hs0_; subst hs0_
    refine And.intro (fun h => by cases h) (And.intro rfl (Fit2.of (Zv hU rfl rfl ?_) (by omega)))
    simp only [push_cast, seval, ↓reduceIte, Za, hN0, hN]
   replace hs0_ := Zw c22 hs0_
   refine Zy ?_
   try simp only [Zi, Zf]
   refine Zg [0, 2, 3, 5, 8, 11, 13, 14, 15] [true, true, true, true, false, true] ?_
   simp only [push_cast, seval, ↓reduceIte]
   refine Zh ?_
   obtain ⟨y14, hy14, hs0_⟩ := bC hs0_
   refine Zcn Zc (by kernel_rfl) [.low, .low, .low, .low, .low, .low, .pass, .bar] (fun i => i < (n + 6)) [0, 1, 2, 3, 4, 5, 6, 7] [.low, .low, .low, .low, .low, .low, .pass, .bar] [] (by kernel_rfl) rfl ?_
   simp only [push_cast, seval, ↓reduceIte, Za, hN0, hN]
   repeat (with_reducible refine And.intro (by first | omega | exact Qh rfl | exact Xr | exact Kf rfl | exact Vd rfl rfl) ?_)
   first | refine PCallA.of (fun _ _ => X8 hy14) ?_ | refine PCall.of (X8 hy14) ?_
   simp only [push_cast, seval, ↓reduceIte, Za, hN0, hN]
   repeat (with_reducible refine And.intro (by first | omega | exact Qh rfl | exact Xr | exact Kf rfl | exact Vd rfl rfl) ?_)
   refine Zg [0, 2, 3, 5, 8, 11, 13, 14, 15, 16] [true, true, true, true, false, true, true] ?_
   simp only [push_cast, seval, ↓reduceIte]
   obtain ⟨z15, hz15, hs0_⟩ := bC hs0_
   refine Qa (E' := ⟨149, [], [(0, .sl a0.length (fl (eL (eI .u64)) a0)), (2, .val (.int .i64 a2)), (3, .val (.int .i64 z15.1)), (5, .ref n 0), (8, .ref (n + 1) 0), (11, .ref (n + 2) 0), (13, .val (.int .i64 s0_.2.1)), (15, .val (.int .i64 z15.2.1)), (16, .ref (n + 6) 0)]⟩) (O' := (Z4 O n [some ⟨false, 33, 7, 1, (Zp a1)⟩, some ⟨false, 58, 3, 1, [.val (.int .i64 0), .val (.slice none 0 0), .val (.slice none 0 0)]⟩, some ⟨false, 58, 3, 1, [.val (.int .i64 a1.Kind), .sl y2.length (fl (eI .u64) y2), .row (n + 3) s0_.2.2.length]⟩, some ⟨true, 58, 3, s0_.2.2.length, fl Zk s0_.2.2⟩, none, none, some ⟨false, 58, 3, 1, [.val (.int .i64 z15.2.2.1), .sl z15.2.2.2.1.length (fl (eI .u64) z15.2.2.2.1), .sl z15.2.2.2.2.length (fl Zk z15.2.2.2.2)]⟩])) (n0 := (n + 7)) ?_ ?_
   ·refine Y8 ?_
    refine Zr [0, 2, 3, 5, 8, 11, 13, 14, 15, 16, 103] (Zb Zc [] ?_)
    simp only [push_cast, seval, ↓reduceIte, Za, hN0, hN]
    refine Zs (t := (a1.Kind == 9)) rfl (fun c19 => ?_) (fun c19 => ?_)
    ·replace hz15 := Zx c19 hz15
     obtain ⟨y16, hy16, hz15⟩ := bC hz15
     refine Zb Zc [] ?_
     simp only [push_cast, seval, ↓reduceIte, Za, hN0, hN]
     refine (Zbb hy16).then ?_
     simp only [push_cast, seval, ↓reduceIte, Za, hN0, hN]
     have hz15 := Option.some.inj hz15; subst hz15
     refine And.intro rfl (Fit2.of (Zv hU rfl rfl ?_) (by omega))
     simp only [push_cast, seval, ↓reduceIte, Za, hN0, hN]
    replace hz15 := Zw c19 hz15
    refine Zr [0, 2, 3, 5, 8, 11, 13, 14, 15, 16, 117] (Zb Zc [none, none, none] ?_)
    simp only [push_cast, seval, ↓reduceIte, Za, hN0, hN]
    repeat (with_reducible refine And.intro (by first | (intro h0; simp only [h0, and_self]; done) | (intro h0; simp only [h0, Bool.not_false, Bool.not_true, Bool.true_and, Bool.and_true, true_and, and_true, and_self, imp_self, implies_true, bne_iff_ne, ne_eq, beq_iff_eq]; done) | (intros; simp_all; done) | exact True.intro) ?_)
    refine Zs (t := (cond (a1.Kind == 1) true (a1.Kind == 8))) rfl (fun c18 => ?_) (fun c18 => ?_)
    ·replace hz15 := Zx c18 hz15
     obtain ⟨y17, hy17, hz15⟩ := bC hz15
     refine Zb Zc [] ?_
     simp only [push_cast, seval, ↓reduceIte, Za, hN0, hN]
     refine (Vm hy17).then ?_
     simp only [push_cast, seval, ↓reduceIte, Za, hN0, hN]
     have hz15 := Option.some.inj hz15; subst hz15
     refine And.intro rfl (Fit2.of (Zv hU rfl rfl ?_) (by omega))
     simp only [push_cast, seval, ↓reduceIte, Za, hN0, hN]
    replace hz15 := Zw c18 hz15
    refine Zy ?_
    try simp only [Zi, Zf]
    have hz15 := Option.some.inj hz15; subst hz15
    refine And.intro rfl (Fit2.of (Zv hU rfl rfl ?_) (by omega))
    simp only [push_cast, seval, ↓reduceIte, Za, hN0, hN]
   refine Zh ?_
   refine Zr [0, 2, 3, 5, 8, 11, 13, 15, 16, 137] (Zb Zc [] ?_)
   simp only [push_cast, seval, ↓reduceIte, Za, hN0, hN]
   refine Zs (t := (z15.2.1 != 0)) rfl (fun c21 => ?_) (fun c21 => ?_)
   ·replace hs0_ := Zx c21 hs0_
    refine Zh ?_
    refine Zb Zc [] ?_
    simp only [push_cast, seval, ↓reduceIte, Za, hN0, hN]
    refine Zg [8, 9, 10] [false, true, false, true, false, false, false] ?_
    simp only [push_cast, seval, ↓reduceIte]
    refine Zu ?_
    try simp only [Zi, Zf]
    have hs0_ := Option.some.inj hs0_; subst hs0_
    refine And.intro (fun h => by cases h) (And.intro rfl (Fit2.of (Zv hU rfl rfl ?_) (by omega)))
    simp only [push_cast, seval, ↓reduceIte, Za, hN0, hN]
   replace hs0_ := Zw c21 hs0_
   refine Zy ?_
   try simp only [Zi, Zf]
   refine Zg [0, 2, 3, 5, 8, 11, 13, 16] [true, true, true, true, false, false, true] ?_
   simp only [push_cast, seval, ↓reduceIte]
   obtain ⟨l20, pl20, ql20, el20, hs0_⟩ := bA (k := 1) rfl hs0_
   refine Zb Zc [] ?_
   simp only [push_cast, seval, ↓reduceIte, Za, pl20, ql20, el20, hN0, hN]
   refine Zks ⟨149, [], [(0, .sl a0.length (fl (eL (eI .u64)) a0)), (2, .val (.int .i64 a2)), (3, .val (.int .i64 z15.1)), (5, .ref n 0), (8, .ref (n + 1) 0), (11, .ref (n + 2) 0), (13, .val (.int .i64 s0_.2.1))]⟩ (Z4 O n [some ⟨false, 33, 7, 1, (Zp a1)⟩, some ⟨false, 58, 3, 1, [.val (.int .i64 0), .val (.slice none 0 0), .val (.slice none 0 0)]⟩, some ⟨false, 58, 3, 1, [.val (.int .i64 a1.Kind), .sl y2.length (fl (eI .u64) y2), .row (n + 3) l20.length]⟩, some ⟨true, 58, 3, l20.length, fl Zk l20⟩, none, none, none, none]) (Zv hU rfl rfl ?_) ?_
   ·simp only [push_cast, seval, ↓reduceIte, Za, pl20, ql20, el20, hN0, hN]
   refine Zb Zc [] ?_
   simp only [push_cast, seval, ↓reduceIte, Za, hN0, hN]
   have hs0_ := Option.some.inj hs0_; subst hs0_
   refine And.intro rfl (Fit2.of (Zv hU rfl rfl ?_) (by omega))
   simp only [push_cast, seval, ↓reduceIte, Za, hN0, hN]
  replace hs0_ := Zw c23 hs0_
  refine U1 ?_
  try simp only [Zi, Zf, ↓reduceIte, Nat.reduceEqDiff]
  have hs0_ := Option.some.inj hs0_; subst hs0_
  refine And.intro (fun h => by cases h) (And.intro rfl (Fit2.of (Zv hU rfl rfl ?_) (by omega)))
  simp only [push_cast, seval, ↓reduceIte, Za, hN0, hN]
 rcases z24 with z24 | z24
 ·dsimp only [Uq] at hw h
  refine Zbx hw ?_
  try simp only [Zi, Zf, ↓reduceIte, Nat.reduceEqDiff]
  have h := Option.some.inj h; subst h
  refine Zl (.inr rfl) hU [.agg [.val (.int .i64 a1.Kind), .sl y2.length (fl (eI .u64) y2), .sl z24.2.2.length (fl Zk z24.2.2)], .val (.int .i64 z24.1), .val (.int .i64 z24.2.1)] (by omega) ?_
  simp only [push_cast, seval, ↓reduceIte, Za, Try.results63, hN0, hN]
 dsimp only [Uq] at hw h
 refine Ji hw ?_
 try simp only [Zi, Zf, ↓reduceIte, Nat.reduceEqDiff]
 refine Zg [3, 8, 11] [false, true, true, true, false] ?_
 simp only [push_cast, seval, ↓reduceIte]
 refine Zh ?_
 refine Zb Zc [] ?_
 simp only [push_cast, seval, ↓reduceIte, Za, hN0, hN]
 refine Zg [8, 9, 10] [false, true, false, true, false] ?_
 simp only [push_cast, seval, ↓reduceIte]
 refine Zu ?_
 try simp only [Zi, Zf]
 have h := Option.some.inj h; subst h
 refine Zl (.inr rfl) hU [.agg [.val (.int .i64 a1.Kind), .sl y2.length (fl (eI .u64) y2), .row (n + 3) z24.2.length], .val (.int .i64 z24.1), .val (.int .i64 0)] (by omega) ?_
 simp only [push_cast, seval, ↓reduceIte, Za, Try.results63, hN0, hN]
theorem Zhl {Yl : ((List (List Int)) → Zo → Int → Int → Option (S_api_Tree × Int × Int))} {Y6 : ((List (List Int)) → Zo → Int → Int → Option (S_api_Tree × Int × Int))} (Vm : ∀ {a0 : (List (List Int))} {a1 : Zo} {a2 : Int} {a3 : Int} {r : (S_api_Tree × Int × Int)} {O : Objs} {n : Nat}, Yl a0 a1 a2 a3 = some r → GTo Try.prog 63 [.sl a0.length (fl (eL (eI .u64)) a0), .agg (Zp a1), .val (.int .i64 a2), .val (.int .i64 a3)] O n (.tup [.agg (Zz r.1), .val (.int .i64 r.2.1), .val (.int .i64 r.2.2)]) O n) (Zbb : ∀ {a0 : (List (List Int))} {a1 : Zo} {a2 : Int} {a3 : Int} {r : (S_api_Tree × Int × Int)} {O : Objs} {n : Nat}, Y6 a0 a1 a2 a3 = some r → GTo Try.prog 87 [.sl a0.length (fl (eL (eI .u64)) a0), .agg (Zp a1), .val (.int .i64 a2), .val (.int .i64 a3)] O n (.tup [.agg (Zz r.1), .val (.int .i64 r.2.1), .val (.int .i64 r.2.2)]) O n) {a0 : (List (List Int))} {a1 : Zo} {a2 : Int} {a3 : Int} {r : (S_api_Tree × Int × Int)} {O : Objs} {n : Nat} (h : Q4 Yl Y6 a0 a1 a2 a3 = some r) : GTo Try.prog 87 [.sl a0.length (fl (eL (eI .u64)) a0), .agg (Zp a1), .val (.int .i64 a2), .val (.int .i64 a3)] O n (.tup [.agg (Zz r.1), .val (.int .i64 r.2.1), .val (.int .i64 r.2.2)]) O n := by
 unfold Q4 at h
 refine Ys Zc Try.call87 Try.func87 rfl (Nat.le_of_ble_eq_true rfl) (Nat.le_refl _) fun hU => ?_
 have hN0 : O n = none := hU.fresh _ (Nat.le_refl _)
 have hN : ∀ k, O (n + k) = none := fun k => hU.fresh _ (Nat.le_add_right _ _)
 show W _ _ _ _ ⟨63, [], [(0, .sl a0.length (fl (eL (eI .u64)) a0)), (1, .agg (Zp a1)), (2, .val (.int .i64 a2)), (3, .val (.int .i64 a3))]⟩ (Z4 O n []) _
 refine Zr [0, 2, 3, 5, 8] (Zb Zc [] ?_)
 simp only [push_cast, seval, ↓reduceIte, Za, hN0, hN]
 refine Zh ?_
 obtain ⟨y2, hy2, h⟩ := bC h
 refine Zb Zc [] ?_
 simp only [push_cast, seval, ↓reduceIte, Za, hN0, hN]
 refine (X8 hy2).then ?_
 simp only [push_cast, seval, ↓reduceIte, Za, hN0, hN]
 refine Zg [0, 2, 3, 5, 8, 11] [true, true, true] ?_
 simp only [push_cast, seval, ↓reduceIte]
 refine Zh ?_
 refine Zr [0, 2, 3, 5, 8, 11, 12] (Zb Zc [] ?_)
 simp only [push_cast, seval, ↓reduceIte, Za, hN0, hN]
 refine Zg [0, 2, 3, 5, 8, 11, 12] [true, true, true] ?_
 simp only [push_cast, seval, ↓reduceIte]
 refine Znl (E' := (⟨63, [], [(0, .sl a0.length (fl (eL (eI .u64)) a0)), (2, .val (.int .i64 a2)), (3, .val (.int .i64 a3)), (5, .ref n 0), (8, .ref (n + 1) 0), (11, .ref (n + 2) 0), (12, .val (.int .i64 0))]⟩ : Env)) (O' := (Z4 O n [some ⟨false, 33, 7, 1, (Zp a1)⟩, some ⟨false, 58, 3, 1, [.val (.int .i64 0), .val (.slice none 0 0), .val (.slice none 0 0)]⟩, some ⟨false, 58, 3, 1, [.val (.int .i64 1), .sl y2.length (fl (eI .u64) y2), .row (n + 3) ([] : List S_api_Tree).length]⟩, some ⟨true, 58, 3, ([] : List S_api_Tree).length, fl Zk ([] : List S_api_Tree)⟩, none])) (n' := (n + 5)) ?_ ?_
 ·refine Fit2.trans (E' := (⟨63, [], [(0, .sl a0.length (fl (eL (eI .u64)) a0)), (2, .val (.int .i64 a2)), (3, .val (.int .i64 a3)), (5, .ref n 0), (8, .ref (n + 1) 0), (11, .ref (n + 2) 0), (12, .val (.int .i64 0))]⟩ : Env)) (O' := (Z4 O n [some ⟨false, 33, 7, 1, (Zp a1)⟩, some ⟨false, 58, 3, 1, [.val (.int .i64 0), .val (.slice none 0 0), .val (.slice none 0 0)]⟩, some ⟨false, 58, 3, 1, [.val (.int .i64 1), .sl y2.length (fl (eI .u64) y2), .val (.slice none 0 0)]⟩])) (n' := (n + 3)) (Fit2.of (Zv hU rfl rfl ?_) (by omega)) ?_
  ·simp only [push_cast, seval, ↓reduceIte, Za, hN0, hN]
  refine Fit2.trans (E' := (⟨63, [], [(0, .sl a0.length (fl (eL (eI .u64)) a0)), (2, .val (.int .i64 a2)), (3, .val (.int .i64 a3)), (5, .ref n 0), (8, .ref (n + 1) 0), (11, .ref (n + 2) 0), (12, .val (.int .i64 0))]⟩ : Env)) (O' := (Z4 O n [some ⟨false, 33, 7, 1, (Zp a1)⟩, some ⟨false, 58, 3, 1, [.val (.int .i64 0), .val (.slice none 0 0), .val (.slice none 0 0)]⟩, some ⟨false, 58, 3, 1, [.val (.int .i64 1), .sl y2.length (fl (eI .u64) y2), .row (n + 3) 0]⟩, some ⟨true, 58, 3, 0, []⟩])) (n' := (n + 4)) ?_ ?_
  ·have ha := Zby (ba := n) (E := (⟨63, [], [(0, .sl a0.length (fl (eL (eI .u64)) a0)), (2, .val (.int .i64 a2)), (3, .val (.int .i64 a3)), (5, .ref n 0), (8, .ref (n + 1) 0), (11, .ref (n + 2) 0), (12, .val (.int .i64 0))]⟩ : Env)) (O := (Z4 O n [some ⟨false, 33, 7, 1, [.val (.int .i64 a1.Kind), .val (.int .i64 a1.S), .val (.int .i64 a1.At), .val (.int .i64 a1.Data), .val (.int .i64 a1.Ptrs), .val (.int .i64 a1.Count), .val (.int .u64 a1.N)]⟩, some ⟨false, 58, 3, 1, [.val (.int .i64 0), .val (.slice none 0 0), .val (.slice none 0 0)]⟩, some ⟨false, 58, 3, 1, [.val (.int .i64 1), .sl y2.length (fl (eI .u64) y2), .val (.slice none 0 0)]⟩])) (n := (n + 3)) (p := (n + 2)) (k := 2) (q := ⟨false, 58, 3, 1, [.val (.int .i64 1), .sl y2.length (fl (eI .u64) y2), .val (.slice none 0 0)]⟩) 58 3 (by simp only [V9, Zbn, List.getElem?_cons_zero, List.getElem?_cons_succ, Option.join_some, Xi]) rfl (by omega)
   simp only [U3, V6, Zax, Gm, List.set_cons_zero, List.set_cons_succ, List.cons_append, List.nil_append, List.length_cons, List.length_nil, Nat.zero_add, Nat.reduceAdd, Nat.reduceLT, Nat.add_assoc] at ha
   exact ha
  refine Fit2.trans (E' := (⟨63, [], [(0, .sl a0.length (fl (eL (eI .u64)) a0)), (2, .val (.int .i64 a2)), (3, .val (.int .i64 a3)), (5, .ref n 0), (8, .ref (n + 1) 0), (11, .ref (n + 2) 0), (12, .val (.int .i64 0))]⟩ : Env)) (O' := (Z4 O n [some ⟨false, 33, 7, 1, (Zp a1)⟩, some ⟨false, 58, 3, 1, [.val (.int .i64 0), .val (.slice none 0 0), .val (.slice none 0 0)]⟩, some ⟨false, 58, 3, 1, [.val (.int .i64 1), .sl y2.length (fl (eI .u64) y2), .row (n + 3) ([] : List S_api_Tree).length]⟩, some ⟨true, 58, 3, ([] : List S_api_Tree).length, fl Zk ([] : List S_api_Tree)⟩])) (n' := (n + 4)) (Fit2.of (Zv hU rfl rfl ?_) (by omega)) ?_
  ·simp only [push_cast, seval, ↓reduceIte, Za, hN0, hN]
  refine Zg0 (k := 4) (k' := 5) hU [0, 1, 2, 3] [0, 1, 2, 3, 0] rfl rfl rfl rfl ⟨rfl, rfl⟩ ?_
  simp only [push_cast, seval, ↓reduceIte, Za, hN0, hN]
 obtain ⟨z11, hz11, h⟩ := bC h
 refine Zhs (J := (Uq (fun z11 => JR n (⟨63, [], [(8, .ref (n + 1) 0), (9, .val (.int .i64 z11.1)), (10, .val (.int .i64 z11.2.1))]⟩ : Env) (Z4 O n [none, some ⟨false, 58, 3, 1, [.val (.int .i64 1), .sl y2.length (fl (eI .u64) y2), .sl z11.2.2.length (fl Zk z11.2.2)]⟩, none]) (n + 3)) (fun z11 => JX 0 n (⟨63, [], [(3, .val (.int .i64 z11.1)), (8, .ref (n + 1) 0), (11, .ref (n + 2) 0)]⟩ : Env) (Z4 O n [none, some ⟨false, 58, 3, 1, [.val (.int .i64 0), .val (.slice none 0 0), .val (.slice none 0 0)]⟩, some ⟨false, 58, 3, 1, [.val (.int .i64 1), .sl y2.length (fl (eI .u64) y2), .row (n + 3) z11.2.length]⟩, some ⟨true, 58, 3, z11.2.length, fl Zk z11.2⟩, none]) (n + 5)))) (z := z11) ?_ fun hw => ?_
 ·refine K4 hz11 (fun s0_ => ⟨63, [], [(0, .sl a0.length (fl (eL (eI .u64)) a0)), (2, .val (.int .i64 a2)), (3, .val (.int .i64 s0_.1)), (5, .ref n 0), (8, .ref (n + 1) 0), (11, .ref (n + 2) 0), (12, .val (.int .i64 s0_.2.1))]⟩) (fun s0_ => (Z4 O n [some ⟨false, 33, 7, 1, (Zp a1)⟩, some ⟨false, 58, 3, 1, [.val (.int .i64 0), .val (.slice none 0 0), .val (.slice none 0 0)]⟩, some ⟨false, 58, 3, 1, [.val (.int .i64 1), .sl y2.length (fl (eI .u64) y2), .row (n + 3) s0_.2.2.length]⟩, some ⟨true, 58, 3, s0_.2.2.length, fl Zk s0_.2.2⟩, none])) (Uq (fun z11 => JR n (⟨63, [], [(8, .ref (n + 1) 0), (9, .val (.int .i64 z11.1)), (10, .val (.int .i64 z11.2.1))]⟩ : Env) (Z4 O n [none, some ⟨false, 58, 3, 1, [.val (.int .i64 1), .sl y2.length (fl (eI .u64) y2), .sl z11.2.2.length (fl Zk z11.2.2)]⟩, none]) (n + 3)) (fun z11 => JX 0 n (⟨63, [], [(3, .val (.int .i64 z11.1)), (8, .ref (n + 1) 0), (11, .ref (n + 2) 0)]⟩ : Env) (Z4 O n [none, some ⟨false, 58, 3, 1, [.val (.int .i64 0), .val (.slice none 0 0), .val (.slice none 0 0)]⟩, some ⟨false, 58, 3, 1, [.val (.int .i64 1), .sl y2.length (fl (eI .u64) y2), .row (n + 3) z11.2.length]⟩, some ⟨true, 58, 3, z11.2.length, fl Zk z11.2⟩, none]) (n + 5))) ?_
  intro s0_ x0_ hs0_
  unfold Q0 at hs0_
  try dsimp only
  refine Zh ?_
  refine Zr [0, 2, 3, 5, 8, 11, 12, 25] (Zb Zc [] ?_)
  simp only [push_cast, seval, ↓reduceIte, Za, hN0, hN]
  refine Zs (t := (decide (s0_.2.1 < a1.Ptrs))) rfl (fun c10 => ?_) (fun c10 => ?_)
  ·replace hs0_ := Zx c10 hs0_
   refine Zy ?_
   try simp only [Zi, Zf]
   refine Zg [0, 2, 3, 5, 8, 11, 12] [true, true, true, true, false] ?_
   simp only [push_cast, seval, ↓reduceIte]
   refine Zh ?_
   refine Y8 ?_
   refine Zh ?_
   obtain ⟨y4, hy4, hs0_⟩ := bC hs0_
   refine Zb Zc [] ?_
   simp only [push_cast, seval, ↓reduceIte, Za, hN0, hN]
   refine (Zao hy4).then ?_
   simp only [push_cast, seval, ↓reduceIte, Za, hN0, hN]
   refine Zg [0, 2, 3, 5, 8, 11, 12, 13, 14] [true, true, true, true, false, true] ?_
   simp only [push_cast, seval, ↓reduceIte]
   refine Zh ?_
   refine Zr [0, 2, 3, 5, 8, 11, 12, 13, 14, 36] (Zb Zc [] ?_)
   simp only [push_cast, seval, ↓reduceIte, Za, hN0, hN]
   refine Zs (t := (y4.2 != 0)) rfl (fun c9 => ?_) (fun c9 => ?_)
   ·replace hs0_ := Zx c9 hs0_
    refine Zh ?_
    refine Zb Zc [] ?_
    simp only [push_cast, seval, ↓reduceIte, Za, hN0, hN]
    refine Zg [8, 9, 10] [false, true, false, true, false, false] ?_
    simp only [push_cast, seval, ↓reduceIte]
    refine Zu ?_
    try simp only [Zi, Zf]
    have hs0_ := Option.some.inj hs0_; subst hs0_
    refine And.intro (fun h => by cases h) (And.intro rfl (Fit2.of (Zv hU rfl rfl ?_) (by omega)))
    simp only [push_cast, seval, ↓reduceIte, Za, hN0, hN]
   replace hs0_ := Zw c9 hs0_
   refine Zy ?_
   try simp only [Zi, Zf]
   refine Zg [0, 2, 3, 5, 8, 11, 12, 13] [true, true, true, true, false, true] ?_
   simp only [push_cast, seval, ↓reduceIte]
   refine Zh ?_
   obtain ⟨y6, hy6, hs0_⟩ := bC hs0_
   refine Zb Zc [] ?_
   simp only [push_cast, seval, ↓reduceIte, Za, hN0, hN]
   refine (Vm hy6).then ?_
   simp only [push_cast, seval, ↓reduceIte, Za, hN0, hN]
   refine Zg [0, 2, 5, 8, 11, 12, 15, 16, 17] [true, true, true, true, false, false, true] ?_
   simp only [push_cast, seval, ↓reduceIte]
   refine Zh ?_
   refine Zr [0, 2, 5, 8, 11, 12, 15, 16, 17, 50] (Zb Zc [] ?_)
   simp only [push_cast, seval, ↓reduceIte, Za, hN0, hN]
   refine Zs (t := (y6.2.2 != 0)) rfl (fun c8 => ?_) (fun c8 => ?_)
   ·replace hs0_ := Zx c8 hs0_
    refine Zh ?_
    refine Zb Zc [] ?_
    simp only [push_cast, seval, ↓reduceIte, Za, hN0, hN]
    refine Zg [8, 9, 10] [false, true, false, true, false, false, false] ?_
    simp only [push_cast, seval, ↓reduceIte]
    refine Zu ?_
    try simp only [Zi, Zf]
    have hs0_ := Option.some.inj hs0_; subst hs0_
    refine And.intro (fun h => by cases h) (And.intro rfl (Fit2.of (Zv hU rfl rfl ?_) (by omega)))
    simp only [push_cast, seval, ↓reduceIte, Za, hN0, hN]
   replace hs0_ := Zw c8 hs0_
   refine Zy ?_
   try simp only [Zi, Zf]
   refine Zg [0, 2, 5, 8, 11, 12, 15, 16] [true, true, true, true, false, false, true] ?_
   simp only [push_cast, seval, ↓reduceIte]
   refine Zr [0, 2, 3, 5, 8, 11, 12, 15] (Zb Zc [] ?_)
   simp only [push_cast, seval, ↓reduceIte, Za, hN0, hN]
   obtain ⟨l7, pl7, ql7, el7, hs0_⟩ := bA (k := 1) rfl hs0_
   refine Zb Zc [] ?_
   simp only [push_cast, seval, ↓reduceIte, Za, pl7, ql7, el7, hN0, hN]
   refine Zks ⟨63, [], [(0, .sl a0.length (fl (eL (eI .u64)) a0)), (2, .val (.int .i64 a2)), (3, .val (.int .i64 y6.2.1)), (5, .ref n 0), (8, .ref (n + 1) 0), (11, .ref (n + 2) 0), (12, .val (.int .i64 s0_.2.1))]⟩ (Z4 O n [some ⟨false, 33, 7, 1, (Zp a1)⟩, some ⟨false, 58, 3, 1, [.val (.int .i64 0), .val (.slice none 0 0), .val (.slice none 0 0)]⟩, some ⟨false, 58, 3, 1, [.val (.int .i64 1), .sl y2.length (fl (eI .u64) y2), .row (n + 3) l7.length]⟩, some ⟨true, 58, 3, l7.length, fl Zk l7⟩, none, none, none, none]) (Zv hU rfl rfl ?_) ?_
   ·simp only [push_cast, seval, ↓reduceIte, Za, pl7, ql7, el7, hN0, hN]
   refine Zb Zc [] ?_
   simp only [push_cast, seval, ↓reduceIte, Za, hN0, hN]
   have hs0_ := Option.some.inj hs0_; subst hs0_
   refine And.intro rfl (Fit2.of (Zv hU rfl rfl ?_) (by omega))
   simp only [push_cast, seval, ↓reduceIte, Za, hN0, hN]
  replace hs0_ := Zw c10 hs0_
  refine U1 ?_
  try simp only [Zi, Zf, ↓reduceIte, Nat.reduceEqDiff]
  have hs0_ := Option.some.inj hs0_; subst hs0_
  refine And.intro (fun h => by cases h) (And.intro rfl (Fit2.of (Zv hU rfl rfl ?_) (by omega)))
  simp only [push_cast, seval, ↓reduceIte, Za, hN0, hN]
 rcases z11 with z11 | z11
 ·dsimp only [Uq] at hw h
  refine Zbx hw ?_
  try simp only [Zi, Zf, ↓reduceIte, Nat.reduceEqDiff]
  have h := Option.some.inj h; subst h
  refine Zl (.inr rfl) hU [.agg [.val (.int .i64 1), .sl y2.length (fl (eI .u64) y2), .sl z11.2.2.length (fl Zk z11.2.2)], .val (.int .i64 z11.1), .val (.int .i64 z11.2.1)] (by omega) ?_
  simp only [push_cast, seval, ↓reduceIte, Za, Try.results87, hN0, hN]
 dsimp only [Uq] at hw h
 refine Ji hw ?_
 try simp only [Zi, Zf, ↓reduceIte, Nat.reduceEqDiff]
 refine Zg [3, 8, 11] [false, true, true, true, false] ?_
 simp only [push_cast, seval, ↓reduceIte]
 refine Zh ?_
 refine Zb Zc [] ?_
 simp only [push_cast, seval, ↓reduceIte, Za, hN0, hN]
 refine Zg [8, 9, 10] [false, true, false, true, false] ?_
 simp only [push_cast, seval, ↓reduceIte]
 refine Zu ?_
 try simp only [Zi, Zf]
 have h := Option.some.inj h; subst h
 refine Zl (.inr rfl) hU [.agg [.val (.int .i64 1), .sl y2.length (fl (eI .u64) y2), .row (n + 3) z11.2.length], .val (.int .i64 z11.1), .val (.int .i64 0)] (by omega) ?_
 simp only [push_cast, seval, ↓reduceIte, Za, Try.results87, hN0, hN]
theorem Zde : ∀ k, (∀ {a0 : (List (List Int))} {a1 : Zo} {a2 : Int} {a3 : Int} {r : (S_api_Tree × Int × Int)} {O : Objs} {n : Nat}, (Yi k).1 a0 a1 a2 a3 = some r → GTo Try.prog 63 [.sl a0.length (fl (eL (eI .u64)) a0), .agg (Zp a1), .val (.int .i64 a2), .val (.int .i64 a3)] O n (.tup [.agg (Zz r.1), .val (.int .i64 r.2.1), .val (.int .i64 r.2.2)]) O n) ∧ (∀ {a0 : (List (List Int))} {a1 : Zo} {a2 : Int} {a3 : Int} {r : (S_api_Tree × Int × Int)} {O : Objs} {n : Nat}, (Yi k).2 a0 a1 a2 a3 = some r → GTo Try.prog 87 [.sl a0.length (fl (eL (eI .u64)) a0), .agg (Zp a1), .val (.int .i64 a2), .val (.int .i64 a3)] O n (.tup [.agg (Zz r.1), .val (.int .i64 r.2.1), .val (.int .i64 r.2.2)]) O n) := fun k => by
 induction k with
 | zero => exact ⟨@fun a0 a1 a2 a3 r O n h => (nomatch (show (none : Option _) = some _ from h)), @fun a0 a1 a2 a3 r O n h => (nomatch (show (none : Option _) = some _ from h))⟩
 | succ k ih => exact ⟨@fun a0 a1 a2 a3 r O n h => Zes (ih.1) (ih.2)  h, @fun a0 a1 a2 a3 r O n h => Zhl (ih.1) (ih.2)  h⟩
theorem Zfs {a0 : (List (List Int))} {a1 : Zo} {a2 : Int} {a3 : Int} {r : (S_api_Tree × Int × Int)} {O : Objs} {n : Nat} (h : Ul a0 a1 a2 a3 = some r) : GTo Try.prog 63 [.sl a0.length (fl (eL (eI .u64)) a0), .agg (Zp a1), .val (.int .i64 a2), .val (.int .i64 a3)] O n (.tup [.agg (Zz r.1), .val (.int .i64 r.2.1), .val (.int .i64 r.2.2)]) O n := by
 obtain ⟨k, hk⟩ := Zf1 h
 exact (Zde k).1  hk
theorem Zf5 {a0 : (List (List Int))} {a1 : Z0} {r : (S_api_Tree × Int × Int)} {O : Objs} {n : Nat} (h : Qm a0 a1 = some r) : GTo Try.prog 32 [.sl a0.length (fl (eL (eI .u64)) a0), .agg (Yj a1)] O n (.tup [.agg (Zz r.1), .val (.int .i64 r.2.1), .val (.int .i64 r.2.2)]) O n := by
 unfold Qm at h
 refine Ys Zc Try.call32 Try.func32 rfl (Nat.le_of_ble_eq_true rfl) (Nat.le_refl _) fun hU => ?_
 have hN0 : O n = none := hU.fresh _ (Nat.le_refl _)
 have hN : ∀ k, O (n + k) = none := fun k => hU.fresh _ (Nat.le_add_right _ _)
 show W _ _ _ _ ⟨43, [], [(0, .sl a0.length (fl (eL (eI .u64)) a0)), (1, .agg (Yj a1))]⟩ (Z4 O n []) _
 refine Zr [0, 3, 4] (Zb Zc [] ?_)
 simp only [push_cast, seval, ↓reduceIte, Za, hN0, hN]
 refine Zh ?_
 obtain ⟨y2, hy2, h⟩ := bC h
 refine Zb Zc [] ?_
 simp only [push_cast, seval, ↓reduceIte, Za, hN0, hN]
 refine (Zf4 hy2).then ?_
 simp only [push_cast, seval, ↓reduceIte, Za, hN0, hN]
 refine Zg [0, 3, 4] [true, true] ?_
 simp only [push_cast, seval, ↓reduceIte]
 refine Zh ?_
 obtain ⟨y4, hy4, h⟩ := bC h
 refine Zb Zc [] ?_
 simp only [push_cast, seval, ↓reduceIte, Za, hN0, hN]
 refine (Zar hy4).then ?_
 simp only [push_cast, seval, ↓reduceIte, Za, hN0, hN]
 refine Zg [0, 3, 4, 7, 8] [true, true, true] ?_
 simp only [push_cast, seval, ↓reduceIte]
 refine Zh ?_
 refine Zr [0, 3, 4, 7, 8, 20] (Zb Zc [] ?_)
 simp only [push_cast, seval, ↓reduceIte, Za, hN0, hN]
 refine Zs (t := (y4.2 != 0)) rfl (fun c8 => ?_) (fun c8 => ?_)
 ·replace h := Zx c8 h
  refine Zh ?_
  refine Zb Zc [] ?_
  simp only [push_cast, seval, ↓reduceIte, Za, hN0, hN]
  refine Zg [4, 5, 6] [false, true, false] ?_
  simp only [push_cast, seval, ↓reduceIte]
  refine Zu ?_
  try simp only [Zi, Zf]
  have h := Option.some.inj h; subst h
  refine Zl (.inr rfl) hU [.agg [.val (.int .i64 0), .val (.slice none 0 0), .val (.slice none 0 0)], .val (.int .i64 0), .val (.int .i64 y4.2)] (by omega) ?_
  simp only [push_cast, seval, ↓reduceIte, Za, Try.results32, hN0, hN]
 replace h := Zw c8 h
 refine Zy ?_
 try simp only [Zi, Zf]
 refine Zg [0, 3, 4, 7] [true, true, true] ?_
 simp only [push_cast, seval, ↓reduceIte]
 refine Zh ?_
 obtain ⟨y6, hy6, h⟩ := bC h
 refine Zb Zc [] ?_
 simp only [push_cast, seval, ↓reduceIte, Za, hN0, hN]
 refine (Zfs hy6).then ?_
 simp only [push_cast, seval, ↓reduceIte, Za, hN0, hN]
 refine Zg [3, 4, 9, 10, 11] [true, true, false, true] ?_
 simp only [push_cast, seval, ↓reduceIte]
 refine Zh ?_
 refine Zr [3, 4, 9, 10, 11, 35] (Zb Zc [] ?_)
 simp only [push_cast, seval, ↓reduceIte, Za, hN0, hN]
 refine Zs (t := (y6.2.2 != 0)) rfl (fun c7 => ?_) (fun c7 => ?_)
 ·replace h := Zx c7 h
  refine Zh ?_
  refine Zb Zc [] ?_
  simp only [push_cast, seval, ↓reduceIte, Za, hN0, hN]
  refine Zg [4, 5, 6] [false, true, false, false] ?_
  simp only [push_cast, seval, ↓reduceIte]
  refine Zu ?_
  try simp only [Zi, Zf]
  have h := Option.some.inj h; subst h
  refine Zl (.inr rfl) hU [.agg [.val (.int .i64 0), .val (.slice none 0 0), .val (.slice none 0 0)], .val (.int .i64 0), .val (.int .i64 y6.2.2)] (by omega) ?_
  simp only [push_cast, seval, ↓reduceIte, Za, Try.results32, hN0, hN]
 replace h := Zw c7 h
 refine Zy ?_
 try simp only [Zi, Zf]
 refine Zg [3, 4, 9, 10] [true, true, false, true] ?_
 simp only [push_cast, seval, ↓reduceIte]
 refine Zh ?_
 refine Zcn Zc (by kernel_rfl) [.plain, .low, .low, .low, .low, .pass, .plain, .plain] (fun i => i ≠ n + 1) [0, 1, 2, 3, 4, 5, 6, 7] [.plain, .low, .low, .low, .low, .pass, .plain, .plain] [] (by kernel_rfl) rfl ?_
 simp only [push_cast, seval, ↓reduceIte, Za, hN0, hN]
 repeat (with_reducible refine And.intro (by first | omega | exact Qh rfl | exact Xr | exact Kf rfl | exact Vd rfl rfl) ?_)
 refine Zg [4, 5, 6] [false, true, false, false] ?_
 simp only [push_cast, seval, ↓reduceIte]
 refine Zu ?_
 try simp only [Zi, Zf]
 have h := Option.some.inj h; subst h
 refine Zl (.inr rfl) hU [.agg (Zz y6.1), .val (.int .i64 (IntKind.i64.wrap (y2.Weight - y6.2.1))), .val (.int .i64 0)] (by omega) ?_
 simp only [push_cast, seval, ↓reduceIte, Za, Try.results32, hN0, hN]
theorem Zhz {a0 : (List Int)} {a1 : (List Int)} {r : Bool} {O : Objs} {n : Nat} (h : Kl a0 a1 = some r) : GTo Try.prog 61 [.sl a0.length (fl (eI .u64) a0), .sl a1.length (fl (eI .u64) a1)] O n (.val (.bool r)) O n := by
 unfold Kl at h
 refine Ys Zc Try.call61 Try.func61 rfl (Nat.le_of_ble_eq_true rfl) (Nat.le_refl _) fun hU => ?_
 have hN0 : O n = none := hU.fresh _ (Nat.le_refl _)
 have hN : ∀ k, O (n + k) = none := fun k => hU.fresh _ (Nat.le_add_right _ _)
 show W _ _ _ _ ⟨26, [], [(0, .sl a0.length (fl (eI .u64) a0)), (1, .sl a1.length (fl (eI .u64) a1))]⟩ (Z4 O n []) _
 refine Zr [0, 1] (Zb Zc [] ?_)
 simp only [push_cast, seval, ↓reduceIte, Za, hN0, hN]
 refine Zh ?_
 refine Zr [0, 1, 10] (Zb Zc [] ?_)
 simp only [push_cast, seval, ↓reduceIte, Za, hN0, hN]
 refine Zs (t := ((a0.length : Int) != (a1.length : Int))) rfl (fun c8 => ?_) (fun c8 => ?_)
 ·replace h := Zx c8 h
  refine Zr [4] (Zb Zc [] ?_)
  simp only [push_cast, seval, ↓reduceIte, Za, hN0, hN]
  refine Zu ?_
  try simp only [Zi, Zf]
  have h := Option.some.inj h; subst h
  refine Zl (.inr rfl) hU [.val (.bool false)] (by omega) ?_
  simp only [push_cast, seval, ↓reduceIte, Za, Try.results61, hN0, hN]
 replace h := Zw c8 h
 refine Zy ?_
 try simp only [Zi, Zf]
 refine Zg [0, 1] [] ?_
 simp only [push_cast, seval, ↓reduceIte]
 refine Zh ?_
 refine Zr [0, 1, 5] (Zb Zc [] ?_)
 simp only [push_cast, seval, ↓reduceIte, Za, hN0, hN]
 refine Zg [0, 1, 5] [] ?_
 simp only [push_cast, seval, ↓reduceIte]
 obtain ⟨z7, hz7, h⟩ := bC h
 refine Zhs (J := (Uq (fun z7 => JR n (⟨26, [], [(4, .val (.bool false))]⟩ : Env) (Z4 O n []) n) (fun z7 => JX 0 n (⟨26, [], []⟩ : Env) (Z4 O n []) n))) (z := z7) ?_ fun hw => ?_
 ·refine K4 hz7 (fun s0_ => ⟨26, [], [(0, .sl a0.length (fl (eI .u64) a0)), (1, .sl a1.length (fl (eI .u64) a1)), (5, .val (.int .i64 s0_))]⟩) (fun s0_ => (Z4 O n [])) (Uq (fun z7 => JR n (⟨26, [], [(4, .val (.bool false))]⟩ : Env) (Z4 O n []) n) (fun z7 => JX 0 n (⟨26, [], []⟩ : Env) (Z4 O n []) n)) ?_
  intro s0_ x0_ hs0_
  unfold Q3 at hs0_
  try dsimp only
  refine Zh ?_
  refine Zr [0, 1, 5, 14] (Zb Zc [] ?_)
  simp only [push_cast, seval, ↓reduceIte, Za, hN0, hN]
  refine Zs (t := (decide (s0_ < (a0.length : Int)))) rfl (fun c6 => ?_) (fun c6 => ?_)
  ·replace hs0_ := Zx c6 hs0_
   refine Zy ?_
   try simp only [Zi, Zf]
   refine Zg [0, 1, 5] [] ?_
   simp only [push_cast, seval, ↓reduceIte]
   refine Zh ?_
   refine Y8 ?_
   obtain ⟨x3, hx3, ax3, bx3, cx3, hs0_⟩ := bE (f := (eI .u64)) U9 (fun _ => rfl) (by decide) hs0_
   obtain ⟨x4, hx4, ax4, bx4, cx4, hs0_⟩ := bE (f := (eI .u64)) U9 (fun _ => rfl) (by decide) hs0_
   refine Zr [0, 1, 5, 25] (J4 Zc (by kernel_rfl) [] (by kernel_rfl) ?_)
   simp only [push_cast, Nat.reduceAdd, Nat.reduceSub, Nat.reduceMul, Nat.reduceLeDiff, Nat.reduceLT, Nat.reduceEqDiff, ↓reduceIte, reduceCtorEq, Int.reduceBEq, Int.reduceBNe, Nat.reduceBEq, Int.reduceLE, Int.reduceLT, Int.reduceEq, Int.reduceNe, Int.reduceNeg, Nat.reduceDiv, Nat.reduceMod, Nat.reducePow, Za, ax3, bx3, cx3, ax4, bx4, cx4, hN0, hN]
   refine Zs (t := (x3 != x4)) rfl (fun c5 => ?_) (fun c5 => ?_)
   ·replace hs0_ := Zx c5 hs0_
    refine Zr [4] (Zb Zc [] ?_)
    simp only [push_cast, seval, ↓reduceIte, Za, hN0, hN]
    refine Zu ?_
    try simp only [Zi, Zf]
    have hs0_ := Option.some.inj hs0_; subst hs0_
    refine And.intro (fun h => by cases h) (And.intro rfl (Fit2.of (Zv hU rfl rfl ?_) (by omega)))
    simp only [push_cast, seval, ↓reduceIte, Za, hN0, hN]
   replace hs0_ := Zw c5 hs0_
   refine Zy ?_
   try simp only [Zi, Zf]
   refine Zg [0, 1, 5] [] ?_
   simp only [push_cast, seval, ↓reduceIte]
   refine Zb Zc [] ?_
   simp only [push_cast, seval, ↓reduceIte, Za, hN0, hN]
   have hs0_ := Option.some.inj hs0_; subst hs0_
   refine And.intro rfl (Fit2.of (Zv hU rfl rfl ?_) (by omega))
   simp only [push_cast, seval, ↓reduceIte, Za, hN0, hN]
  replace hs0_ := Zw c6 hs0_
  refine U1 ?_
  try simp only [Zi, Zf, ↓reduceIte, Nat.reduceEqDiff]
  have hs0_ := Option.some.inj hs0_; subst hs0_
  refine And.intro (fun h => by cases h) (And.intro rfl (Fit2.of (Zv hU rfl rfl ?_) (by omega)))
  simp only [push_cast, seval, ↓reduceIte, Za, hN0, hN]
 rcases z7 with z7 | z7
 ·dsimp only [Uq] at hw h
  refine Zbx hw ?_
  try simp only [Zi, Zf, ↓reduceIte, Nat.reduceEqDiff]
  have h := Option.some.inj h; subst h
  refine Zl (.inr rfl) hU [.val (.bool false)] (by omega) ?_
  simp only [push_cast, seval, ↓reduceIte, Za, Try.results61, hN0, hN]
 dsimp only [Uq] at hw h
 refine Ji hw ?_
 try simp only [Zi, Zf, ↓reduceIte, Nat.reduceEqDiff]
 refine Zg [] [] ?_
 simp only [push_cast, seval, ↓reduceIte]
 refine Zr [4] (Zb Zc [] ?_)
 simp only [push_cast, seval, ↓reduceIte, Za, hN0, hN]
 refine Zu ?_
 try simp only [Zi, Zf]
 have h := Option.some.inj h; subst h
 refine Zl (.inr rfl) hU [.val (.bool true)] (by omega) ?_
 simp only [push_cast, seval, ↓reduceIte, Za, Try.results61, hN0, hN]
theorem Zhk {Jb : (S_api_Tree → S_api_Tree → Option Bool)} (Zf6 : ∀ {a0 : S_api_Tree} {a1 : S_api_Tree} {r : Bool} {O : Objs} {n : Nat}, Jb a0 a1 = some r → GTo Try.prog 40 [.agg (Zz a0), .agg (Zz a1)] O n (.val (.bool r)) O n) {a0 : S_api_Tree} {a1 : S_api_Tree} {r : Bool} {O : Objs} {n : Nat} (h : Kj Jb a0 a1 = some r) : GTo Try.prog 40 [.agg (Zz a0), .agg (Zz a1)] O n (.val (.bool r)) O n := by
 unfold Kj at h
 refine Ys Zc Try.call40 Try.func40 rfl (Nat.le_of_ble_eq_true rfl) (Nat.le_refl _) fun hU => ?_
 have hN0 : O n = none := hU.fresh _ (Nat.le_refl _)
 have hN : ∀ k, O (n + k) = none := fun k => hU.fresh _ (Nat.le_add_right _ _)
 show W _ _ _ _ ⟨47, [], [(0, .agg (Zz a0)), (1, .agg (Zz a1))]⟩ (Z4 O n []) _
 refine Zr [2, 3] (Zb Zc [] ?_)
 simp only [push_cast, seval, ↓reduceIte, Za, hN0, hN]
 refine Zh ?_
 obtain ⟨z2, hz2, h⟩ := bC h
 refine Qa (E' := ⟨47, [], [(2, .ref n 0), (3, .ref (n + 1) 0), (27, .val (.bool z2))]⟩) (O' := (Z4 O n [some ⟨false, 58, 3, 1, (Zz a0)⟩, some ⟨false, 58, 3, 1, (Zz a1)⟩])) (n0 := (n + 2)) ?_ ?_
 ·rcases Bool.eq_false_or_eq_true (a0.Kind != a1.Kind) with c5 | c5
  ·replace hz2 := Zx c5 hz2
   refine Zb Zc [some false, some false, some false, some false, some false, some false, some false, some false, some false, some false, some false, some false, some false] ?_
   simp only [push_cast, seval, ↓reduceIte, Za, c5, hN0, hN]
   have hz2 := Option.some.inj hz2; subst hz2
   refine And.intro rfl (Fit2.of (Zv hU rfl rfl ?_) (by omega))
   simp only [push_cast, seval, ↓reduceIte, Za, c5, hN0, hN]
  replace hz2 := Zw c5 hz2
  obtain ⟨y4, hy4, hz2⟩ := bC hz2
  refine Zb Zc [some true, some true, some true, some true, some true, some true, none, none, none, none, none, none, none] ?_
  simp only [push_cast, seval, ↓reduceIte, Za, c5, hN0, hN]
  repeat (with_reducible refine And.intro (by first | (intro h0; simp only [h0, and_self]; done) | (intro h0; simp only [h0, Bool.not_false, Bool.not_true, Bool.true_and, Bool.and_true, true_and, and_true, and_self, imp_self, implies_true, bne_iff_ne, ne_eq, beq_iff_eq]; done) | (intros; simp_all; done) | exact True.intro) ?_)
  refine (Zhz hy4).then ?_
  simp only [push_cast, seval, ↓reduceIte, Za, c5, hN0, hN]
  repeat (with_reducible refine And.intro (by first | (intro h0; simp only [h0, and_self]; done) | (intro h0; simp only [h0, Bool.not_false, Bool.not_true, Bool.true_and, Bool.and_true, true_and, and_true, and_self, imp_self, implies_true, bne_iff_ne, ne_eq, beq_iff_eq]; done) | (intros; simp_all; done) | exact True.intro) ?_)
  have hz2 := Option.some.inj hz2; subst hz2
  refine And.intro rfl (Fit2.of (Zv hU rfl rfl ?_) (by omega))
  simp only [push_cast, seval, ↓reduceIte, Za, c5, hN0, hN]
 refine Zs (t := z2) rfl (fun c15 => ?_) (fun c15 => ?_)
 ·replace h := Zx c15 h
  refine Zr [4] (Zb Zc [] ?_)
  simp only [push_cast, seval, ↓reduceIte, Za, hN0, hN]
  refine Zu ?_
  try simp only [Zi, Zf]
  have h := Option.some.inj h; subst h
  refine Zl (.inr rfl) hU [.val (.bool false)] (by omega) ?_
  simp only [push_cast, seval, ↓reduceIte, Za, Try.results40, hN0, hN]
 replace h := Zw c15 h
 refine Zy ?_
 try simp only [Zi, Zf]
 refine Zg [2, 3] [true, true] ?_
 simp only [push_cast, seval, ↓reduceIte]
 refine Zh ?_
 refine Zr [2, 3, 5] (Zb Zc [] ?_)
 simp only [push_cast, seval, ↓reduceIte, Za, hN0, hN]
 refine Zg [2, 3, 5] [true, true] ?_
 simp only [push_cast, seval, ↓reduceIte]
 obtain ⟨z14, hz14, h⟩ := bC h
 refine Zhs (J := (Uq (fun z14 => JR n (⟨47, [], [(4, .val (.bool false))]⟩ : Env) (Z4 O n [none, none]) (n + 2)) (fun z14 => JX 0 n (⟨47, [], []⟩ : Env) (Z4 O n [none, none]) (n + 2)))) (z := z14) ?_ fun hw => ?_
 ·refine K4 hz14 (fun s0_ => ⟨47, [], [(2, .ref n 0), (3, .ref (n + 1) 0), (5, .val (.int .i64 s0_))]⟩) (fun s0_ => (Z4 O n [some ⟨false, 58, 3, 1, (Zz a0)⟩, some ⟨false, 58, 3, 1, (Zz a1)⟩])) (Uq (fun z14 => JR n (⟨47, [], [(4, .val (.bool false))]⟩ : Env) (Z4 O n [none, none]) (n + 2)) (fun z14 => JX 0 n (⟨47, [], []⟩ : Env) (Z4 O n [none, none]) (n + 2))) ?_
  intro s0_ x0_ hs0_
  unfold Qz at hs0_
  try dsimp only
  refine Zh ?_
  refine Zr [2, 3, 5, 32] (Zb Zc [] ?_)
  simp only [push_cast, seval, ↓reduceIte, Za, hN0, hN]
  refine Zs (t := (decide (s0_ < (a0.Kids.length : Int)))) rfl (fun c13 => ?_) (fun c13 => ?_)
  ·replace hs0_ := Zx c13 hs0_
   refine Zy ?_
   try simp only [Zi, Zf]
   refine Zg [2, 3, 5] [true, true] ?_
   simp only [push_cast, seval, ↓reduceIte]
   refine Zh ?_
   refine Y8 ?_
   refine Zh ?_
   obtain ⟨x9, hx9, ax9, bx9, cx9, hs0_⟩ := bE (f := Zk) Zhr (fun _ => rfl) (by decide) hs0_
   obtain ⟨x10, hx10, ax10, bx10, cx10, hs0_⟩ := bE (f := Zk) Zhr (fun _ => rfl) (by decide) hs0_
   obtain ⟨y11, hy11, hs0_⟩ := bC hs0_
   refine J4 Zc (by kernel_rfl) [] (by kernel_rfl) ?_
   simp only [push_cast, Nat.reduceAdd, Nat.reduceSub, Nat.reduceMul, Nat.reduceLeDiff, Nat.reduceLT, Nat.reduceEqDiff, ↓reduceIte, reduceCtorEq, Int.reduceBEq, Int.reduceBNe, Nat.reduceBEq, Int.reduceLE, Int.reduceLT, Int.reduceEq, Int.reduceNe, Int.reduceNeg, Nat.reduceDiv, Nat.reduceMod, Nat.reducePow, Za, ax9, bx9, cx9, ax10, bx10, cx10, hN0, hN]
   refine PCall.of (Zf6 hy11) ?_
   simp only [push_cast, Nat.reduceAdd, Nat.reduceSub, Nat.reduceMul, Nat.reduceLeDiff, Nat.reduceLT, Nat.reduceEqDiff, ↓reduceIte, reduceCtorEq, Int.reduceBEq, Int.reduceBNe, Nat.reduceBEq, Int.reduceLE, Int.reduceLT, Int.reduceEq, Int.reduceNe, Int.reduceNeg, Nat.reduceDiv, Nat.reduceMod, Nat.reducePow, Za, ax9, bx9, cx9, ax10, bx10, cx10, hN0, hN]
   refine Zg [2, 3, 5, 46] [true, true] ?_
   simp only [push_cast, seval, ↓reduceIte]
   refine Zs (t := (!y11)) rfl (fun c12 => ?_) (fun c12 => ?_)
   ·replace hs0_ := Zx c12 hs0_
    refine Zr [4] (Zb Zc [] ?_)
    simp only [push_cast, seval, ↓reduceIte, Za, hN0, hN]
    refine Zu ?_
    try simp only [Zi, Zf]
    have hs0_ := Option.some.inj hs0_; subst hs0_
    refine And.intro (fun h => by cases h) (And.intro rfl (Fit2.of (Zv hU rfl rfl ?_) (by omega)))
    simp only [push_cast, seval, ↓reduceIte, Za, hN0, hN]
   replace hs0_ := Zw c12 hs0_
   refine Zy ?_
   try simp only [Zi, Zf]
   refine Zg [2, 3, 5] [true, true] ?_
   simp only [push_cast, seval, ↓reduceIte]
   refine Zb Zc [] ?_
   simp only [push_cast, seval, ↓reduceIte, Za, hN0, hN]
   have hs0_ := Option.some.inj hs0_; subst hs0_
   refine And.intro rfl (Fit2.of (Zv hU rfl rfl ?_) (by omega))
   simp only [push_cast, seval, ↓reduceIte, Za, hN0, hN]
  replace hs0_ := Zw c13 hs0_
  refine U1 ?_
  try simp only [Zi, Zf, ↓reduceIte, Nat.reduceEqDiff]
  have hs0_ := Option.some.inj hs0_; subst hs0_
  refine And.intro (fun h => by cases h) (And.intro rfl (Fit2.of (Zv hU rfl rfl ?_) (by omega)))
  simp only [push_cast, seval, ↓reduceIte, Za, hN0, hN]
 rcases z14 with z14 | z14
 ·dsimp only [Uq] at hw h
  refine Zbx hw ?_
  try simp only [Zi, Zf, ↓reduceIte, Nat.reduceEqDiff]
  have h := Option.some.inj h; subst h
  refine Zl (.inr rfl) hU [.val (.bool false)] (by omega) ?_
  simp only [push_cast, seval, ↓reduceIte, Za, Try.results40, hN0, hN]
 dsimp only [Uq] at hw h
 refine Ji hw ?_
 try simp only [Zi, Zf, ↓reduceIte, Nat.reduceEqDiff]
 refine Zg [] [false, false] ?_
 simp only [push_cast, seval, ↓reduceIte]
 refine Zr [4] (Zb Zc [] ?_)
 simp only [push_cast, seval, ↓reduceIte, Za, hN0, hN]
 refine Zu ?_
 try simp only [Zi, Zf]
 have h := Option.some.inj h; subst h
 refine Zl (.inr rfl) hU [.val (.bool true)] (by omega) ?_
 simp only [push_cast, seval, ↓reduceIte, Za, Try.results40, hN0, hN]
theorem Zfr : ∀ k, (∀ {a0 : S_api_Tree} {a1 : S_api_Tree} {r : Bool} {O : Objs} {n : Nat}, (Xv k) a0 a1 = some r → GTo Try.prog 40 [.agg (Zz a0), .agg (Zz a1)] O n (.val (.bool r)) O n) := fun k => by
 induction k with
 | zero => exact @fun a0 a1 r O n h => (nomatch (show (none : Option _) = some _ from h))
 | succ k ih => exact @fun a0 a1 r O n h => Zhk (ih)  h
theorem Zb6 {a0 : S_api_Tree} {a1 : S_api_Tree} {r : Bool} {O : Objs} {n : Nat} (h : Gy a0 a1 = some r) : GTo Try.prog 40 [.agg (Zz a0), .agg (Zz a1)] O n (.val (.bool r)) O n := by
 obtain ⟨k, hk⟩ := Zf1 h
 exact (Zfr k)  hk
theorem Zbk  {r : Bool} {O : Objs} {n : Nat} (h : Qs = some r) : GTo Try.prog 42 [] O n (.val (.bool r)) O n := by
 unfold Qs at h
 refine Ys Zc Try.call42 Try.func42 rfl (Nat.le_of_ble_eq_true rfl) (Nat.le_refl _) fun hU => ?_
 have hN0 : O n = none := hU.fresh _ (Nat.le_refl _)
 have hN : ∀ k, O (n + k) = none := fun k => hU.fresh _ (Nat.le_add_right _ _)
 show W _ _ _ _ ⟨28, [], []⟩ (Z4 O n []) _
 refine Zr [] (Zb Zc [] ?_)
 simp only [push_cast, seval, ↓reduceIte, Za, hN0, hN]
 refine Zh ?_
 obtain ⟨y3, hy3, h⟩ := bC h
 obtain ⟨y4, hy4, h⟩ := bC h
 refine Zb Zc [] ?_
 simp only [push_cast, seval, ↓reduceIte, Za, hN0, hN]
 refine GCalls.dropL (l' := [none, none]) hU rfl ?_ ((Zkz hy3).then ?_)
 ·simp only [push_cast, seval, ↓reduceIte, Za, hN0, hN]
 simp only [push_cast, seval, ↓reduceIte, Za, hN0, hN]
 refine (Zi2 hy4).then ?_
 simp only [push_cast, seval, ↓reduceIte, Za, hN0, hN]
 refine Zg [1, 2] [false, false, true] ?_
 simp only [push_cast, seval, ↓reduceIte]
 refine Zr [0] (Zb Zc [none, none, none, none, none, none, none, none, none, none, none] ?_)
 simp only [push_cast, seval, ↓reduceIte, Za, hN0, hN]
 repeat (with_reducible refine And.intro (by first | (intro h0; simp only [h0, and_self]; done) | (intro h0; simp only [h0, Bool.not_false, Bool.not_true, Bool.true_and, Bool.and_true, true_and, and_true, and_self, imp_self, implies_true, bne_iff_ne, ne_eq, beq_iff_eq]; done) | (intros; simp_all; done) | exact True.intro) ?_)
 refine Zu ?_
 try simp only [Zi, Zf]
 have h := Option.some.inj h; subst h
 refine Zl (.inr rfl) hU [.val (.bool (cond (cond (y4.2 == 0) (y4.1.Kind == 1) false) ((IntKind.i64.wrap ((y4.1.Words.length : Int) + (y4.1.Kids.length : Int))) == 0) false))] (by omega) ?_
 simp only [push_cast, seval, ↓reduceIte, Za, Try.results42, hN0, hN]
theorem Zb5 {a0 : (List (List Int))} {a1 : Z0} {r : Bool} {O : Objs} {n : Nat} (h : Qp a0 a1 = some r) : GTo Try.prog 12 [.sl a0.length (fl (eL (eI .u64)) a0), .agg (Yj a1)] O n (.val (.bool r)) O n := by
 unfold Qp at h
 refine Ys Zc Try.call12 Try.func12 rfl (Nat.le_of_ble_eq_true rfl) (Nat.le_refl _) fun hU => ?_
 have hN0 : O n = none := hU.fresh _ (Nat.le_refl _)
 have hN : ∀ k, O (n + k) = none := fun k => hU.fresh _ (Nat.le_add_right _ _)
 show W _ _ _ _ ⟨49, [], [(0, .sl a0.length (fl (eL (eI .u64)) a0)), (1, .agg (Yj a1))]⟩ (Z4 O n []) _
 refine Zr [0, 3] (Zb Zc [] ?_)
 simp only [push_cast, seval, ↓reduceIte, Za, hN0, hN]
 refine Zh ?_
 obtain ⟨y2, hy2, h⟩ := bC h
 refine Zb Zc [] ?_
 simp only [push_cast, seval, ↓reduceIte, Za, hN0, hN]
 refine (Zhf hy2).then ?_
 simp only [push_cast, seval, ↓reduceIte, Za, hN0, hN]
 refine Zg [0, 3] [true] ?_
 simp only [push_cast, seval, ↓reduceIte]
 refine Zh ?_
 obtain ⟨y4, hy4, h⟩ := bC h
 refine Zb Zc [] ?_
 simp only [push_cast, seval, ↓reduceIte, Za, hN0, hN]
 refine (Zf5 hy4).then ?_
 simp only [push_cast, seval, ↓reduceIte, Za, hN0, hN]
 refine Zg [0, 5, 7] [false, true] ?_
 simp only [push_cast, seval, ↓reduceIte]
 refine Zh ?_
 refine Zr [0, 5, 22] (Zb Zc [] ?_)
 simp only [push_cast, seval, ↓reduceIte, Za, hN0, hN]
 refine Zs (t := (y4.2.2 != 0)) rfl (fun c23 => ?_) (fun c23 => ?_)
 ·replace h := Zx c23 h
  refine Zh ?_
  obtain ⟨y6, hy6, h⟩ := bC h
  refine Zb Zc [] ?_
  simp only [push_cast, seval, ↓reduceIte, Za, hN0, hN]
  refine (Zbk hy6).then ?_
  simp only [push_cast, seval, ↓reduceIte, Za, hN0, hN]
  refine Zg [4] [false, false] ?_
  simp only [push_cast, seval, ↓reduceIte]
  refine Zu ?_
  try simp only [Zi, Zf]
  have h := Option.some.inj h; subst h
  refine Zl (.inr rfl) hU [.val (.bool y6)] (by omega) ?_
  simp only [push_cast, seval, ↓reduceIte, Za, Try.results12, hN0, hN]
 replace h := Zw c23 h
 refine Zy ?_
 try simp only [Zi, Zf]
 refine Zg [0, 5] [false, true] ?_
 simp only [push_cast, seval, ↓reduceIte]
 refine Zh ?_
 obtain ⟨y9, hy9, h⟩ := bC h
 obtain ⟨y10, hy10, h⟩ := bC h
 refine Zb Zc [] ?_
 simp only [push_cast, seval, ↓reduceIte, Za, hN0, hN]
 refine (Zkz hy9).then ?_
 simp only [push_cast, seval, ↓reduceIte, Za, hN0, hN]
 refine (Zb9 hy10).then ?_
 simp only [push_cast, seval, ↓reduceIte, Za, hN0, hN]
 refine Zg [5, 8, 9] [false, true, true] ?_
 simp only [push_cast, seval, ↓reduceIte]
 refine Zh ?_
 obtain ⟨y12, hy12, h⟩ := bC h
 refine Zb Zc [] ?_
 simp only [push_cast, seval, ↓reduceIte, Za, hN0, hN]
 refine (Zfj hy12).then ?_
 simp only [push_cast, seval, ↓reduceIte, Za, hN0, hN]
 refine Zg [5, 9, 10, 11] [false, true, false, true] ?_
 simp only [push_cast, seval, ↓reduceIte]
 obtain ⟨z15, hz15, h⟩ := bC h
 refine Qa (E' := ⟨49, [], [(4, .val (.bool z15))]⟩) (O' := (Z4 O n [none, none, none, none])) (n0 := (n + 4)) ?_ ?_
 ·rcases Bool.eq_false_or_eq_true (y10.2 == 0) with c20 | c20
  ·replace hz15 := Zx c20 hz15
   rcases Bool.eq_false_or_eq_true (y12.2 == 0) with c21 | c21
   ·replace hz15 := Zx c21 hz15
    try rw [c21] at c20
    obtain ⟨y18, hy18, hz15⟩ := bC hz15
    rcases Bool.eq_false_or_eq_true y18 with c22 | c22
    ·replace hz15 := Zx c22 hz15
     try rw [c22] at c20
     try rw [c22] at c21
     obtain ⟨y19, hy19, hz15⟩ := bC hz15
     refine Zb Zc [none, none, some true, some true, some true, some true] ?_
     simp only [push_cast, seval, ↓reduceIte, Za, c20, c21, c22, hN0, hN]
     repeat (with_reducible refine And.intro (by first | (intro h0; simp only [h0, and_self]; done) | (intro h0; simp only [h0, Bool.not_false, Bool.not_true, Bool.true_and, Bool.and_true, true_and, and_true, and_self, imp_self, implies_true, bne_iff_ne, ne_eq, beq_iff_eq]; done) | (intros; simp_all; done) | exact True.intro) ?_)
     refine (Zb6 hy18).then ?_
     simp only [push_cast, seval, ↓reduceIte, Za, c20, c21, c22, hN0, hN]
     repeat (with_reducible refine And.intro (by first | (intro h0; simp only [h0, and_self]; done) | (intro h0; simp only [h0, Bool.not_false, Bool.not_true, Bool.true_and, Bool.and_true, true_and, and_true, and_self, imp_self, implies_true, bne_iff_ne, ne_eq, beq_iff_eq]; done) | (intros; simp_all; done) | exact True.intro) ?_)
     refine (Zbk hy19).then ?_
     simp only [push_cast, seval, ↓reduceIte, Za, c20, c21, c22, hN0, hN]
     repeat (with_reducible refine And.intro (by first | (intro h0; simp only [h0, and_self]; done) | (intro h0; simp only [h0, Bool.not_false, Bool.not_true, Bool.true_and, Bool.and_true, true_and, and_true, and_self, imp_self, implies_true, bne_iff_ne, ne_eq, beq_iff_eq]; done) | (intros; simp_all; done) | exact True.intro) ?_)
     have hz15 := Option.some.inj hz15; subst hz15
     refine And.intro rfl (Fit2.of (Zv hU rfl rfl ?_) (by omega))
     simp only [push_cast, seval, ↓reduceIte, Za, c20, c21, c22, hN0, hN]
    replace hz15 := Zw c22 hz15
    try rw [c22] at c20
    try rw [c22] at c21
    refine Zb Zc [none, none, some true, some true, some true, some false] ?_
    simp only [push_cast, seval, ↓reduceIte, Za, c20, c21, c22, hN0, hN]
    repeat (with_reducible refine And.intro (by first | (intro h0; simp only [h0, and_self]; done) | (intro h0; simp only [h0, Bool.not_false, Bool.not_true, Bool.true_and, Bool.and_true, true_and, and_true, and_self, imp_self, implies_true, bne_iff_ne, ne_eq, beq_iff_eq]; done) | (intros; simp_all; done) | exact True.intro) ?_)
    refine (Zb6 hy18).then ?_
    simp only [push_cast, seval, ↓reduceIte, Za, c20, c21, c22, hN0, hN]
    repeat (with_reducible refine And.intro (by first | (intro h0; simp only [h0, and_self]; done) | (intro h0; simp only [h0, Bool.not_false, Bool.not_true, Bool.true_and, Bool.and_true, true_and, and_true, and_self, imp_self, implies_true, bne_iff_ne, ne_eq, beq_iff_eq]; done) | (intros; simp_all; done) | exact True.intro) ?_)
    have hz15 := Option.some.inj hz15; subst hz15
    refine And.intro rfl (Fit2.of (Zv hU rfl rfl ?_) (by omega))
    simp only [push_cast, seval, ↓reduceIte, Za, c20, c21, c22, hN0, hN]
   replace hz15 := Zw c21 hz15
   try rw [c21] at c20
   refine Zb Zc [none, none, some false, some false, some false, some false] ?_
   simp only [push_cast, seval, ↓reduceIte, Za, c20, c21, hN0, hN]
   repeat (with_reducible refine And.intro (by first | (intro h0; simp only [h0, and_self]; done) | (intro h0; simp only [h0, Bool.not_false, Bool.not_true, Bool.true_and, Bool.and_true, true_and, and_true, and_self, imp_self, implies_true, bne_iff_ne, ne_eq, beq_iff_eq]; done) | (intros; simp_all; done) | exact True.intro) ?_)
   have hz15 := Option.some.inj hz15; subst hz15
   refine And.intro rfl (Fit2.of (Zv hU rfl rfl ?_) (by omega))
   simp only [push_cast, seval, ↓reduceIte, Za, c20, c21, hN0, hN]
  replace hz15 := Zw c20 hz15
  refine Zb Zc [none, none, some false, some false, some false, some false] ?_
  simp only [push_cast, seval, ↓reduceIte, Za, c20, hN0, hN]
  repeat (with_reducible refine And.intro (by first | (intro h0; simp only [h0, and_self]; done) | (intro h0; simp only [h0, Bool.not_false, Bool.not_true, Bool.true_and, Bool.and_true, true_and, and_true, and_self, imp_self, implies_true, bne_iff_ne, ne_eq, beq_iff_eq]; done) | (intros; simp_all; done) | exact True.intro) ?_)
  have hz15 := Option.some.inj hz15; subst hz15
  refine And.intro rfl (Fit2.of (Zv hU rfl rfl ?_) (by omega))
  simp only [push_cast, seval, ↓reduceIte, Za, c20, hN0, hN]
 refine Zu ?_
 try simp only [Zi, Zf]
 have h := Option.some.inj h; subst h
 refine Zl (.inr rfl) hU [.val (.bool z15)] (by omega) ?_
 simp only [push_cast, seval, ↓reduceIte, Za, Try.results12, hN0, hN]
end Go.Proofs.Ytmlhokaflhlhbaa
