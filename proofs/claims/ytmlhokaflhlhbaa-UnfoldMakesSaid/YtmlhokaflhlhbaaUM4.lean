/- Part UM4 of this seat's mirrors: functions of the seat's program, and the plain functions that they are; each theorem bears its own conditions. -/
import Derived.Test.YtmlhokaflhlhbaaUE
import Derived.Test.YtmlhokaflhlhbaaUM3
namespace Go.Proofs.Ytmlhokaflhlhbaa
open Go.RowKit
set_option linter.unusedVariables false
set_option linter.unusedSimpArgs false
set_option maxRecDepth 100000
set_option maxHeartbeats 4000000
attribute [local push_cast] Yj Zp Zr Yn Zk Zl4 Zl3 Zmn Zmm Zi Zf Zi5 Zeu Zet onW Xb Zab Gd Zld Zkt Zhh Zhl Zhg Zhk Zj0 Zjx Zhj Zjz Zjy Zhi Zjv Zfj evS wok Xx Op.operands Call.operands gop onK onP atK List.all_cons List.all_nil Bool.and_true Bool.true_and Bool.and_self Value.oneCell' List.take_zero List.take_succ_cons List.take_nil List.drop_zero List.drop_succ_cons List.drop_nil List.append_nil Nat.add_zero Nat.zero_add Kt Yc ev X8 Zqb Zlx Zlw Zl2 Zl0 Zl1 Zly Zlz Zlv Zln Zob Zqe Zex Zad Zdx Zac Zg2 Zcf Zcy Zc3 Zen Zek Zc1 Zem Zel Zc0 Zei Zcz Zc2 Zbz Zej Zhq Zev Up Zew Uq Zga Zes Zo8 bLo bHi bMx Zae Zf8 Zsl Zer Zf9 Zb0 Vw Zoe Zso Zeq Zst Zaa Zt4 Zi9 Zjd Zi8 Zjc Zmd Zma Zl8 Zg4 Zja Zmc Zmb Zjb Zl9 Zf2 Zks Zjp Zfb Zfa pop TK.isAgg Zmg Zmk Zmf Zmj Zji Zqz Zqw Zmi Zqy Zqx Zmh Zqv G.under G.unders List.getD_cons_zero List.getD_cons_succ List.set_cons_zero List.set_cons_succ List.map_cons List.map_nil List.toList_toArray Array.toList_append Option.toArray_none Option.toArray_some Array.toList_map Option.map_some Option.map_none Option.bind_some Option.bind_none List.getElem?_cons_zero List.getElem?_cons_succ List.getElem?_nil List.nil_append List.cons_append List.replicate_succ List.replicate_zero List.length_cons List.length_nil and_true true_and and_false false_and Bool.true_eq_false Bool.false_eq_true forall_const false_implies implies_true IntKind.bits if_true if_false ite_true ite_false eq_self true_implies false_or or_false or_true true_or not_true_eq_false not_false_eq_true decide_true decide_false decide_eq_true_eq decide_eq_false_iff_not beq_iff_eq bne_iff_ne ne_eq Bool.not_eq_true Bool.not_eq_false beq_eq_false_iff_ne bne_eq_false_iff_eq beq_self_eq_true bne_self_eq_false Option.some.injEq exists_eq_left' exists_eq_left ge_iff_le gt_iff_lt decide_not Bool.not_true Bool.not_false imp_self Zqg cond_true cond_false Zzj Zzi Bool.not_not Bool.and_false Bool.false_and Bool.or_true Bool.true_or Bool.or_false Bool.false_or Ue Zbw Gx Gc Um Vk Option.join_some Nat.add_assoc Int.toNat_natCast eI eB eS eL Zbq Zdy Zc7 Zl7 Zl5 Zl6 Zud Zw7 Zd6 Zdc Zmt Zmr Zms Zqu Zhp Zps Zh5 Zo5 Zb5 Zn6 List.length_append G.agg.injEq G.row.injEq G.ref.injEq G.val.injEq G.sl.injEq G.tup.injEq Value.int.injEq Value.bool.injEq Value.string.injEq List.cons.injEq exists_and_left exists_const List.flatten_cons List.flatten_nil Int.le_refl Nat.le_refl Zed Vb Zdq Bool.not_eq_true' Bool.not_eq_false' Zny Zee Zr1 Zr6 Zr0 Zr5 Zwc Zv8 List.size_toArray Zk3 Zlj G.ren G.rens Zou Zcp Zmw Zlt Zlu Zjw Zr7 Zck G.fn.injEq Zgt Zkk Znx Zv9 Zkj Zr4 Zwb Zwa Zr2 Zqm Zuy Option.join_none Xk Vc undef Zgc Arr.len Arr.put_eq Zd5 Zg7 Ze7 Zdb Zmq Zmo Zmp onB Zuc Zoa Zjt Zik Zil Zim Zin Zio Zip Zg5 Zha Zg8 Ze9 Zdd Zg9 Zjo Zjn Zjm Zjl Zw6 Zyp Zqt Zpf Je Zqo Zkw Zhb Ze8 Zs8 Zlk Zep Zf7 Zba Zgq Ziq Zir Zis Zit Zgu Zgv Zgw Zgx Zgy Zgz Zg0 Zbt prT Zay Zzz Zrq Zum Zrr Zz0 Zrs Zz1 Zrt Zz2 Zru Zz3 Zrv Zz4 Zrw Zz5 Zrx Zu9 Zmy Zva Zmz Zvb Zm0 Zvc Zm1 Zvd Zm2 Zve Zm3 Zvf Zm4 Zvg Zm5 Zvh Zm6 Zvi Zm7 Zvj Zm8 Zvk Zm9 Zvl Zna Zvm Zkh Zvn Znb Zvo Znc Zvp Znd Ux Zne Zvq Znf Zvr Zng Zbn Zb3 Zvs Znh Zvt Zni Zvu Zhn Zvv Znj Zfz Znk Zvw Znl Zvx Znm Zvy Znn Zvz Zno Zv0 Znp Zv1 Znq Zv2 Znr Zv3 Zns Zv4 Znt Zv5 Znu Zv6 Znv Zrb Zj2 Zrc Zj3 Zrd Zj4 Zre Zj5 Zrf Zj6 Zrg Zj7 Zrh Zj8 Zri Zj9 Zrj Zka Zrk Zkb Zrl Zkc Zrm Zkd Zrn Zke Zro Zkf Zrp Zkg Q5 Zfp Zfn Zez Ze5 Zfr Zdk Zdh Zdf Zfl Zbd Zbc Za8 Za9 Zbe Zax Zar Zaq Zbb Zn Vi Vh Vd Vf Vj K4 K2 K1 Vg Zc5 Zfo Zfm Zey Ze4 Zfq Zdj Zdg Zde Zfk Zc4 Gz Z8 Kk Kj Ke Kh Kl Jw Jv Ju Ki Z5 Zj Qt U8 U7 U1 U5 U9 Ul Uk Uj U6 Jk Jj Jb Jd Jm Q2 Q1 Q0 Ji Vz V0
theorem Ze2 {Yl : ((List (List Int)) → Zo → Int → Int → Option (S_api_Tree × Int × Int))} {Y8 : ((List (List Int)) → Zo → Int → Int → Option (S_api_Tree × Int × Int))} (Vr : ∀ {a0 : (List (List Int))} {a1 : Zo} {a2 : Int} {a3 : Int} {r : (S_api_Tree × Int × Int)} {O : Objs} {n : Nat}, Yl a0 a1 a2 a3 = some r → GTo Try.prog 63 [.sl a0.length (fl (eL (eI .u64)) a0), .agg (Zr a1), .val (.int .i64 a2), .val (.int .i64 a3)] O n (.tup [.agg (Zp r.1), .val (.int .i64 r.2.1), .val (.int .i64 r.2.2)]) O n) (Zbl : ∀ {a0 : (List (List Int))} {a1 : Zo} {a2 : Int} {a3 : Int} {r : (S_api_Tree × Int × Int)} {O : Objs} {n : Nat}, Y8 a0 a1 a2 a3 = some r → GTo Try.prog 87 [.sl a0.length (fl (eL (eI .u64)) a0), .agg (Zr a1), .val (.int .i64 a2), .val (.int .i64 a3)] O n (.tup [.agg (Zp r.1), .val (.int .i64 r.2.1), .val (.int .i64 r.2.2)]) O n) {a0 : (List (List Int))} {a1 : Zo} {a2 : Int} {a3 : Int} {r : (S_api_Tree × Int × Int)} {O : Objs} {n : Nat} (h : X4 Yl Y8 a0 a1 a2 a3 = some r) : GTo Try.prog 63 [.sl a0.length (fl (eL (eI .u64)) a0), .agg (Zr a1), .val (.int .i64 a2), .val (.int .i64 a3)] O n (.tup [.agg (Zp r.1), .val (.int .i64 r.2.1), .val (.int .i64 r.2.2)]) O n := by
 unfold X4 at h
 refine Yr Zc Try.call63 Try.func63 rfl (Nat.le_of_ble_eq_true rfl) (Nat.le_refl _) fun hU => ?_
 have hN0 : O n = none := hU.fresh _ (Nat.le_refl _)
 have hN : ∀ k, O (n + k) = none := fun k => hU.fresh _ (Nat.le_add_right _ _)
 show W _ _ _ _ ⟨149, [], [(0, .sl a0.length (fl (eL (eI .u64)) a0)), (1, .agg (Zr a1)), (2, .val (.int .i64 a2)), (3, .val (.int .i64 a3))]⟩ (Z4 O n []) _
 refine Zq [0, 2, 3, 5, 8] (Zb Zc [] ?_)
 simp only [push_cast, seval, ↓reduceIte, Za, hN0, hN]
 refine Zh ?_
 obtain ⟨y2, hy2, h⟩ := bC h
 refine Zbx Zc (by kernel_rfl) [.low, .low, .low, .low, .low, .low, .pass, .bar] (fun i => i < (n + 2)) [0, 1, 2, 3, 4, 5, 6, 7] [.low, .low, .low, .low, .low, .low, .pass, .bar] [] (by kernel_rfl) rfl ?_
 simp only [push_cast, seval, ↓reduceIte, Za, hN0, hN]
 repeat (with_reducible refine And.intro (by first | omega | exact Xt rfl | exact Xa | exact Qs rfl | exact Jo rfl rfl) ?_)
 first | refine PCallA.of (fun _ _ => Qd hy2) ?_ | refine PCall.of (Qd hy2) ?_
 simp only [push_cast, seval, ↓reduceIte, Za, hN0, hN]
 repeat (with_reducible refine And.intro (by first | omega | exact Xt rfl | exact Xa | exact Qs rfl | exact Jo rfl rfl) ?_)
 refine Zg [0, 2, 3, 5, 8, 11] [true, true, true] ?_
 simp only [push_cast, seval, ↓reduceIte]
 refine Zh ?_
 refine Zq [0, 2, 3, 5, 8, 11, 25] (Zb Zc [] ?_)
 simp only [push_cast, seval, ↓reduceIte, Za, hN0, hN]
 refine Zt (t := (a1.Kind == 0)) rfl (fun c27 => ?_) (fun c27 => ?_)
 ·replace h := Zy c27 h
  refine Zh ?_
  refine Zb Zc [] ?_
  simp only [push_cast, seval, ↓reduceIte, Za, hN0, hN]
  refine Zg [8, 9, 10] [false, true, false] ?_
  simp only [push_cast, seval, ↓reduceIte]
  refine Zw ?_
  try simp only [Zi, Zf]
  have h := Option.some.inj h; subst h
  refine Zl (.inr rfl) hU [.agg [.val (.int .i64 a1.Kind), .sl y2.length (fl (eI .u64) y2), .val (.slice none 0 0)], .val (.int .i64 a3), .val (.int .i64 0)] (by omega) ?_
  simp only [push_cast, seval, ↓reduceIte, Za, Try.results63, hN0, hN]
 replace h := Zx c27 h
 refine Zz ?_
 try simp only [Zi, Zf]
 refine Zg [0, 2, 3, 5, 8, 11] [true, true, true] ?_
 simp only [push_cast, seval, ↓reduceIte]
 refine Zh ?_
 refine Zq [0, 2, 3, 5, 8, 11, 43] (Zb Zc [none, none, none, none, none, none, none, none, none, none, none, none] ?_)
 simp only [push_cast, seval, ↓reduceIte, Za, hN0, hN]
 repeat (with_reducible refine And.intro (by first | (intro h0; simp only [h0, and_self]; done) | (intro h0; simp only [h0, Bool.not_false, Bool.not_true, Bool.true_and, Bool.and_true, true_and, and_true, and_self, imp_self, implies_true, bne_iff_ne, ne_eq, beq_iff_eq]; done) | (intros; simp_all; done) | exact True.intro) ?_)
 refine Zt (t := (cond (decide (a2 < 1)) true (cond (cond (a1.Kind == 9) (decide (0 < a1.Count)) false) (decide (a2 < 2)) false))) rfl (fun c26 => ?_) (fun c26 => ?_)
 ·replace h := Zy c26 h
  refine Zh ?_
  refine Zb Zc [] ?_
  simp only [push_cast, seval, ↓reduceIte, Za, hN0, hN]
  refine Zg [8, 9, 10] [false, true, false] ?_
  simp only [push_cast, seval, ↓reduceIte]
  refine Zw ?_
  try simp only [Zi, Zf]
  have h := Option.some.inj h; subst h
  refine Zl (.inr rfl) hU [.agg [.val (.int .i64 a1.Kind), .sl y2.length (fl (eI .u64) y2), .val (.slice none 0 0)], .val (.int .i64 a3), .val (.int .i64 3)] (by omega) ?_
  simp only [push_cast, seval, ↓reduceIte, Za, Try.results63, hN0, hN]
 replace h := Zx c26 h
 refine Zz ?_
 try simp only [Zi, Zf]
 refine Zg [0, 2, 3, 5, 8, 11] [true, true, true] ?_
 simp only [push_cast, seval, ↓reduceIte]
 refine Zh ?_
 obtain ⟨y4, hy4, h⟩ := bC h
 refine Zb Zc [] ?_
 simp only [push_cast, seval, ↓reduceIte, Za, hN0, hN]
 refine (V4 hy4).then ?_
 simp only [push_cast, seval, ↓reduceIte, Za, hN0, hN]
 refine Zg [0, 2, 3, 5, 8, 11, 12] [true, true, true] ?_
 simp only [push_cast, seval, ↓reduceIte]
 obtain ⟨z5, hz5, h⟩ := bC h
 refine Xw (E' := ⟨149, [], [(0, .sl a0.length (fl (eL (eI .u64)) a0)), (2, .val (.int .i64 a2)), (3, .val (.int .i64 a3)), (5, .ref n 0), (8, .ref (n + 1) 0), (11, .ref (n + 2) 0), (12, .val (.int .i64 z5))]⟩) (O' := (Z4 O n [some ⟨false, 33, 7, 1, (Zr a1)⟩, some ⟨false, 58, 3, 1, [.val (.int .i64 0), .val (.slice none 0 0), .val (.slice none 0 0)]⟩, some ⟨false, 58, 3, 1, [.val (.int .i64 a1.Kind), .sl y2.length (fl (eI .u64) y2), .val (.slice none 0 0)]⟩])) (n0 := (n + 3)) ?_ ?_
 ·refine Zq [0, 2, 3, 5, 8, 11, 12, 51] (Zb Zc [] ?_)
  simp only [push_cast, seval, ↓reduceIte, Za, hN0, hN]
  refine Zt (t := (a1.Kind == 1)) rfl (fun c6 => ?_) (fun c6 => ?_)
  ·replace hz5 := Zy c6 hz5
   refine Zb Zc [] ?_
   simp only [push_cast, seval, ↓reduceIte, Za, hN0, hN]
   have hz5 := Option.some.inj hz5; subst hz5
   refine And.intro rfl (Fit2.of (Zu hU rfl rfl ?_) (by omega))
   simp only [push_cast, seval, ↓reduceIte, Za, hN0, hN]
  replace hz5 := Zx c6 hz5
  refine Zz ?_
  try simp only [Zi, Zf]
  have hz5 := Option.some.inj hz5; subst hz5
  refine And.intro rfl (Fit2.of (Zu hU rfl rfl ?_) (by omega))
  simp only [push_cast, seval, ↓reduceIte, Za, hN0, hN]
 obtain ⟨z7, hz7, h⟩ := bC h
 refine Xw (E' := ⟨149, [], [(0, .sl a0.length (fl (eL (eI .u64)) a0)), (2, .val (.int .i64 a2)), (3, .val (.int .i64 a3)), (5, .ref n 0), (8, .ref (n + 1) 0), (11, .ref (n + 2) 0), (12, .val (.int .i64 z7))]⟩) (O' := (Z4 O n [some ⟨false, 33, 7, 1, (Zr a1)⟩, some ⟨false, 58, 3, 1, [.val (.int .i64 0), .val (.slice none 0 0), .val (.slice none 0 0)]⟩, some ⟨false, 58, 3, 1, [.val (.int .i64 a1.Kind), .sl y2.length (fl (eI .u64) y2), .val (.slice none 0 0)]⟩])) (n0 := (n + 3)) ?_ ?_
 ·refine Zq [0, 2, 3, 5, 8, 11, 12, 60] (Zb Zc [] ?_)
  simp only [push_cast, seval, ↓reduceIte, Za, hN0, hN]
  refine Zt (t := (a1.Kind == 9)) rfl (fun c8 => ?_) (fun c8 => ?_)
  ·replace hz7 := Zy c8 hz7
   refine Zb Zc [] ?_
   simp only [push_cast, seval, ↓reduceIte, Za, hN0, hN]
   have hz7 := Option.some.inj hz7; subst hz7
   refine And.intro rfl (Fit2.of (Zu hU rfl rfl ?_) (by omega))
   simp only [push_cast, seval, ↓reduceIte, Za, hN0, hN]
  replace hz7 := Zx c8 hz7
  refine Zz ?_
  try simp only [Zi, Zf]
  have hz7 := Option.some.inj hz7; subst hz7
  refine And.intro rfl (Fit2.of (Zu hU rfl rfl ?_) (by omega))
  simp only [push_cast, seval, ↓reduceIte, Za, hN0, hN]
 refine Zh ?_
 refine Zq [0, 2, 3, 5, 8, 11, 12, 73] (Zb Zc [] ?_)
 simp only [push_cast, seval, ↓reduceIte, Za, hN0, hN]
 refine Zt (t := (decide (a3 < z7))) rfl (fun c25 => ?_) (fun c25 => ?_)
 ·replace h := Zy c25 h
  refine Zh ?_
  refine Zb Zc [] ?_
  simp only [push_cast, seval, ↓reduceIte, Za, hN0, hN]
  refine Zg [8, 9, 10] [false, true, false] ?_
  simp only [push_cast, seval, ↓reduceIte]
  refine Zw ?_
  try simp only [Zi, Zf]
  have h := Option.some.inj h; subst h
  refine Zl (.inr rfl) hU [.agg [.val (.int .i64 a1.Kind), .sl y2.length (fl (eI .u64) y2), .val (.slice none 0 0)], .val (.int .i64 a3), .val (.int .i64 3)] (by omega) ?_
  simp only [push_cast, seval, ↓reduceIte, Za, Try.results63, hN0, hN]
 replace h := Zx c25 h
 refine Zz ?_
 try simp only [Zi, Zf]
 refine Zg [0, 2, 3, 5, 8, 11, 12] [true, true, true] ?_
 simp only [push_cast, seval, ↓reduceIte]
 refine Zq [0, 2, 3, 5, 8, 11] (Zb Zc [] ?_)
 simp only [push_cast, seval, ↓reduceIte, Za, hN0, hN]
 refine Zh ?_
 refine Zq [0, 2, 3, 5, 8, 11, 13] (Zb Zc [] ?_)
 simp only [push_cast, seval, ↓reduceIte, Za, hN0, hN]
 refine Zg [0, 2, 3, 5, 8, 11, 13] [true, true, true] ?_
 simp only [push_cast, seval, ↓reduceIte]
 refine Zkn (E' := (⟨149, [], [(0, .sl a0.length (fl (eL (eI .u64)) a0)), (2, .val (.int .i64 a2)), (3, .val (.int .i64 (IntKind.i64.wrap (a3 - z7)))), (5, .ref n 0), (8, .ref (n + 1) 0), (11, .ref (n + 2) 0), (13, .val (.int .i64 0))]⟩ : Env)) (O' := (Z4 O n [some ⟨false, 33, 7, 1, (Zr a1)⟩, some ⟨false, 58, 3, 1, [.val (.int .i64 0), .val (.slice none 0 0), .val (.slice none 0 0)]⟩, some ⟨false, 58, 3, 1, [.val (.int .i64 a1.Kind), .sl y2.length (fl (eI .u64) y2), .row (n + 3) ([] : List S_api_Tree).length]⟩, some ⟨true, 58, 3, ([] : List S_api_Tree).length, fl Zj ([] : List S_api_Tree)⟩, none])) (n' := (n + 5)) ?_ ?_
 ·refine Fit2.trans (E' := (⟨149, [], [(0, .sl a0.length (fl (eL (eI .u64)) a0)), (2, .val (.int .i64 a2)), (3, .val (.int .i64 (IntKind.i64.wrap (a3 - z7)))), (5, .ref n 0), (8, .ref (n + 1) 0), (11, .ref (n + 2) 0), (13, .val (.int .i64 0))]⟩ : Env)) (O' := (Z4 O n [some ⟨false, 33, 7, 1, (Zr a1)⟩, some ⟨false, 58, 3, 1, [.val (.int .i64 0), .val (.slice none 0 0), .val (.slice none 0 0)]⟩, some ⟨false, 58, 3, 1, [.val (.int .i64 a1.Kind), .sl y2.length (fl (eI .u64) y2), .val (.slice none 0 0)]⟩])) (n' := (n + 3)) (Fit2.of (Zu hU rfl rfl ?_) (by omega)) ?_
  ·simp only [push_cast, seval, ↓reduceIte, Za, hN0, hN]
  refine Fit2.trans (E' := (⟨149, [], [(0, .sl a0.length (fl (eL (eI .u64)) a0)), (2, .val (.int .i64 a2)), (3, .val (.int .i64 (IntKind.i64.wrap (a3 - z7)))), (5, .ref n 0), (8, .ref (n + 1) 0), (11, .ref (n + 2) 0), (13, .val (.int .i64 0))]⟩ : Env)) (O' := (Z4 O n [some ⟨false, 33, 7, 1, (Zr a1)⟩, some ⟨false, 58, 3, 1, [.val (.int .i64 0), .val (.slice none 0 0), .val (.slice none 0 0)]⟩, some ⟨false, 58, 3, 1, [.val (.int .i64 a1.Kind), .sl y2.length (fl (eI .u64) y2), .row (n + 3) 0]⟩, some ⟨true, 58, 3, 0, []⟩])) (n' := (n + 4)) ?_ ?_
  ·have ha := Zcb (ba := n) (E := (⟨149, [], [(0, .sl a0.length (fl (eL (eI .u64)) a0)), (2, .val (.int .i64 a2)), (3, .val (.int .i64 (IntKind.i64.wrap (a3 - z7)))), (5, .ref n 0), (8, .ref (n + 1) 0), (11, .ref (n + 2) 0), (13, .val (.int .i64 0))]⟩ : Env)) (O := (Z4 O n [some ⟨false, 33, 7, 1, [.val (.int .i64 a1.Kind), .val (.int .i64 a1.S), .val (.int .i64 a1.At), .val (.int .i64 a1.Data), .val (.int .i64 a1.Ptrs), .val (.int .i64 a1.Count), .val (.int .u64 a1.N)]⟩, some ⟨false, 58, 3, 1, [.val (.int .i64 0), .val (.slice none 0 0), .val (.slice none 0 0)]⟩, some ⟨false, 58, 3, 1, [.val (.int .i64 a1.Kind), .sl y2.length (fl (eI .u64) y2), .val (.slice none 0 0)]⟩])) (n := (n + 3)) (p := (n + 2)) (k := 2) (q := ⟨false, 58, 3, 1, [.val (.int .i64 a1.Kind), .sl y2.length (fl (eI .u64) y2), .val (.slice none 0 0)]⟩) 58 3 (by simp only [Ue, Zbw, List.getElem?_cons_zero, List.getElem?_cons_succ, Option.join_some, Xk]) rfl (by omega)
   simp only [Um, Vk, Gx, Gc, List.set_cons_zero, List.set_cons_succ, List.cons_append, List.nil_append, List.length_cons, List.length_nil, Nat.zero_add, Nat.reduceAdd, Nat.reduceLT, Nat.add_assoc] at ha
   exact ha
  refine Fit2.trans (E' := (⟨149, [], [(0, .sl a0.length (fl (eL (eI .u64)) a0)), (2, .val (.int .i64 a2)), (3, .val (.int .i64 (IntKind.i64.wrap (a3 - z7)))), (5, .ref n 0), (8, .ref (n + 1) 0), (11, .ref (n + 2) 0), (13, .val (.int .i64 0))]⟩ : Env)) (O' := (Z4 O n [some ⟨false, 33, 7, 1, (Zr a1)⟩, some ⟨false, 58, 3, 1, [.val (.int .i64 0), .val (.slice none 0 0), .val (.slice none 0 0)]⟩, some ⟨false, 58, 3, 1, [.val (.int .i64 a1.Kind), .sl y2.length (fl (eI .u64) y2), .row (n + 3) ([] : List S_api_Tree).length]⟩, some ⟨true, 58, 3, ([] : List S_api_Tree).length, fl Zj ([] : List S_api_Tree)⟩])) (n' := (n + 4)) (Fit2.of (Zu hU rfl rfl ?_) (by omega)) ?_
  ·simp only [push_cast, seval, ↓reduceIte, Za, hN0, hN]
  refine Zfe (k := 4) (k' := 5) hU [0, 1, 2, 3] [0, 1, 2, 3, 0] rfl rfl rfl rfl ⟨rfl, rfl⟩ ?_
  simp only [push_cast, seval, ↓reduceIte, Za, hN0, hN]
 obtain ⟨z24, hz24, h⟩ := bC h
 refine Zh6 (J := (Uz (fun z24 => JR n (⟨149, [], [(8, .ref (n + 1) 0), (9, .val (.int .i64 z24.1)), (10, .val (.int .i64 z24.2.1))]⟩ : Env) (Z4 O n [none, some ⟨false, 58, 3, 1, [.val (.int .i64 a1.Kind), .sl y2.length (fl (eI .u64) y2), .sl z24.2.2.length (fl Zj z24.2.2)]⟩, none]) (n + 3)) (fun z24 => JX 0 n (⟨149, [], [(3, .val (.int .i64 z24.1)), (8, .ref (n + 1) 0), (11, .ref (n + 2) 0)]⟩ : Env) (Z4 O n [none, some ⟨false, 58, 3, 1, [.val (.int .i64 0), .val (.slice none 0 0), .val (.slice none 0 0)]⟩, some ⟨false, 58, 3, 1, [.val (.int .i64 a1.Kind), .sl y2.length (fl (eI .u64) y2), .row (n + 3) z24.2.length]⟩, some ⟨true, 58, 3, z24.2.length, fl Zj z24.2⟩, none]) (n + 5)))) (z := z24) ?_ fun hw => ?_
 ·refine Kc hz24 (fun s0_ => ⟨149, [], [(0, .sl a0.length (fl (eL (eI .u64)) a0)), (2, .val (.int .i64 a2)), (3, .val (.int .i64 s0_.1)), (5, .ref n 0), (8, .ref (n + 1) 0), (11, .ref (n + 2) 0), (13, .val (.int .i64 s0_.2.1))]⟩) (fun s0_ => (Z4 O n [some ⟨false, 33, 7, 1, (Zr a1)⟩, some ⟨false, 58, 3, 1, [.val (.int .i64 0), .val (.slice none 0 0), .val (.slice none 0 0)]⟩, some ⟨false, 58, 3, 1, [.val (.int .i64 a1.Kind), .sl y2.length (fl (eI .u64) y2), .row (n + 3) s0_.2.2.length]⟩, some ⟨true, 58, 3, s0_.2.2.length, fl Zj s0_.2.2⟩, none])) (Uz (fun z24 => JR n (⟨149, [], [(8, .ref (n + 1) 0), (9, .val (.int .i64 z24.1)), (10, .val (.int .i64 z24.2.1))]⟩ : Env) (Z4 O n [none, some ⟨false, 58, 3, 1, [.val (.int .i64 a1.Kind), .sl y2.length (fl (eI .u64) y2), .sl z24.2.2.length (fl Zj z24.2.2)]⟩, none]) (n + 3)) (fun z24 => JX 0 n (⟨149, [], [(3, .val (.int .i64 z24.1)), (8, .ref (n + 1) 0), (11, .ref (n + 2) 0)]⟩ : Env) (Z4 O n [none, some ⟨false, 58, 3, 1, [.val (.int .i64 0), .val (.slice none 0 0), .val (.slice none 0 0)]⟩, some ⟨false, 58, 3, 1, [.val (.int .i64 a1.Kind), .sl y2.length (fl (eI .u64) y2), .row (n + 3) z24.2.length]⟩, some ⟨true, 58, 3, z24.2.length, fl Zj z24.2⟩, none]) (n + 5))) ?_
  intro s0_ x0_ hs0_
  unfold X5 at hs0_
  try dsimp only
  refine Zh ?_
  refine Zh ?_
  obtain ⟨y10, hy10, hs0_⟩ := bC hs0_
  refine Zb Zc [] ?_
  simp only [push_cast, seval, ↓reduceIte, Za, hN0, hN]
  refine (V4 hy10).then ?_
  simp only [push_cast, seval, ↓reduceIte, Za, hN0, hN]
  refine Zg [0, 2, 3, 5, 8, 11, 13, 82] [true, true, true, true, false] ?_
  simp only [push_cast, seval, ↓reduceIte]
  refine Zt (t := (decide (s0_.2.1 < y10))) rfl (fun c23 => ?_) (fun c23 => ?_)
  ·replace hs0_ := Zy c23 hs0_
   refine Zz ?_
   try simp only [Zi, Zf]
   refine Zg [0, 2, 3, 5, 8, 11, 13] [true, true, true, true, false] ?_
   simp only [push_cast, seval, ↓reduceIte]
   refine Zh ?_
   refine Y5 ?_
   refine Zh ?_
   obtain ⟨y12, hy12, hs0_⟩ := bC hs0_
   refine Zb Zc [] ?_
   simp only [push_cast, seval, ↓reduceIte, Za, hN0, hN]
   refine (Zaz hy12).then ?_
   simp only [push_cast, seval, ↓reduceIte, Za, hN0, hN]
   refine Zg [0, 2, 3, 5, 8, 11, 13, 14, 15] [true, true, true, true, false, true] ?_
   simp only [push_cast, seval, ↓reduceIte]
   refine Zh ?_
   refine Zq [0, 2, 3, 5, 8, 11, 13, 14, 15, 93] (Zb Zc [] ?_)
   simp only [push_cast, seval, ↓reduceIte, Za, hN0, hN]
   refine Zt (t := (y12.2 != 0)) rfl (fun c22 => ?_) (fun c22 => ?_)
   ·replace hs0_ := Zy c22 hs0_
    refine Zh ?_
    refine Zb Zc [] ?_
    simp only [push_cast, seval, ↓reduceIte, Za, hN0, hN]
    refine Zg [8, 9, 10] [false, true, false, true, false, false] ?_
    simp only [push_cast, seval, ↓reduceIte]
    refine Zw ?_
    try simp only [Zi, Zf]
    have hs0_ := Option.some.inj hs0_; subst hs0_
    refine And.intro (fun h => by cases h) (And.intro rfl (Fit2.of (Zu hU rfl rfl ?_) (by omega)))
    simp only [push_cast, seval, ↓reduceIte, Za, hN0, hN]
   replace hs0_ := Zx c22 hs0_
   refine Zz ?_
   try simp only [Zi, Zf]
   refine Zg [0, 2, 3, 5, 8, 11, 13, 14, 15] [true, true, true, true, false, true] ?_
   simp only [push_cast, seval, ↓reduceIte]
   refine Zh ?_
   obtain ⟨y14, hy14, hs0_⟩ := bC hs0_
   refine Zbx Zc (by kernel_rfl) [.low, .low, .low, .low, .low, .low, .pass, .bar] (fun i => i < (n + 6)) [0, 1, 2, 3, 4, 5, 6, 7] [.low, .low, .low, .low, .low, .low, .pass, .bar] [] (by kernel_rfl) rfl ?_
   simp only [push_cast, seval, ↓reduceIte, Za, hN0, hN]
   repeat (with_reducible refine And.intro (by first | omega | exact Xt rfl | exact Xa | exact Qs rfl | exact Jo rfl rfl) ?_)
   first | refine PCallA.of (fun _ _ => Qd hy14) ?_ | refine PCall.of (Qd hy14) ?_
   simp only [push_cast, seval, ↓reduceIte, Za, hN0, hN]
   repeat (with_reducible refine And.intro (by first | omega | exact Xt rfl | exact Xa | exact Qs rfl | exact Jo rfl rfl) ?_)
   refine Zg [0, 2, 3, 5, 8, 11, 13, 14, 15, 16] [true, true, true, true, false, true, true] ?_
   simp only [push_cast, seval, ↓reduceIte]
   obtain ⟨z15, hz15, hs0_⟩ := bC hs0_
   refine Xw (E' := ⟨149, [], [(0, .sl a0.length (fl (eL (eI .u64)) a0)), (2, .val (.int .i64 a2)), (3, .val (.int .i64 z15.1)), (5, .ref n 0), (8, .ref (n + 1) 0), (11, .ref (n + 2) 0), (13, .val (.int .i64 s0_.2.1)), (15, .val (.int .i64 z15.2.1)), (16, .ref (n + 6) 0)]⟩) (O' := (Z4 O n [some ⟨false, 33, 7, 1, (Zr a1)⟩, some ⟨false, 58, 3, 1, [.val (.int .i64 0), .val (.slice none 0 0), .val (.slice none 0 0)]⟩, some ⟨false, 58, 3, 1, [.val (.int .i64 a1.Kind), .sl y2.length (fl (eI .u64) y2), .row (n + 3) s0_.2.2.length]⟩, some ⟨true, 58, 3, s0_.2.2.length, fl Zj s0_.2.2⟩, none, none, some ⟨false, 58, 3, 1, [.val (.int .i64 z15.2.2.1), .sl z15.2.2.2.1.length (fl (eI .u64) z15.2.2.2.1), .sl z15.2.2.2.2.length (fl Zj z15.2.2.2.2)]⟩])) (n0 := (n + 7)) ?_ ?_
   ·refine Y5 ?_
    refine Zq [0, 2, 3, 5, 8, 11, 13, 14, 15, 16, 103] (Zb Zc [] ?_)
    simp only [push_cast, seval, ↓reduceIte, Za, hN0, hN]
    refine Zt (t := (a1.Kind == 9)) rfl (fun c19 => ?_) (fun c19 => ?_)
    ·replace hz15 := Zy c19 hz15
     obtain ⟨y16, hy16, hz15⟩ := bC hz15
     refine Zb Zc [] ?_
     simp only [push_cast, seval, ↓reduceIte, Za, hN0, hN]
     refine (Zbl hy16).then ?_
     simp only [push_cast, seval, ↓reduceIte, Za, hN0, hN]
     have hz15 := Option.some.inj hz15; subst hz15
     refine And.intro rfl (Fit2.of (Zu hU rfl rfl ?_) (by omega))
     simp only [push_cast, seval, ↓reduceIte, Za, hN0, hN]
    replace hz15 := Zx c19 hz15
    refine Zq [0, 2, 3, 5, 8, 11, 13, 14, 15, 16, 117] (Zb Zc [none, none, none] ?_)
    simp only [push_cast, seval, ↓reduceIte, Za, hN0, hN]
    repeat (with_reducible refine And.intro (by first | (intro h0; simp only [h0, and_self]; done) | (intro h0; simp only [h0, Bool.not_false, Bool.not_true, Bool.true_and, Bool.and_true, true_and, and_true, and_self, imp_self, implies_true, bne_iff_ne, ne_eq, beq_iff_eq]; done) | (intros; simp_all; done) | exact True.intro) ?_)
    refine Zt (t := (cond (a1.Kind == 1) true (a1.Kind == 8))) rfl (fun c18 => ?_) (fun c18 => ?_)
    ·replace hz15 := Zy c18 hz15
     obtain ⟨y17, hy17, hz15⟩ := bC hz15
     refine Zb Zc [] ?_
     simp only [push_cast, seval, ↓reduceIte, Za, hN0, hN]
     refine (Vr hy17).then ?_
     simp only [push_cast, seval, ↓reduceIte, Za, hN0, hN]
     have hz15 := Option.some.inj hz15; subst hz15
     refine And.intro rfl (Fit2.of (Zu hU rfl rfl ?_) (by omega))
     simp only [push_cast, seval, ↓reduceIte, Za, hN0, hN]
    replace hz15 := Zx c18 hz15
    refine Zz ?_
    try simp only [Zi, Zf]
    have hz15 := Option.some.inj hz15; subst hz15
    refine And.intro rfl (Fit2.of (Zu hU rfl rfl ?_) (by omega))
    simp only [push_cast, seval, ↓reduceIte, Za, hN0, hN]
   refine Zh ?_
   refine Zq [0, 2, 3, 5, 8, 11, 13, 15, 16, 137] (Zb Zc [] ?_)
   simp only [push_cast, seval, ↓reduceIte, Za, hN0, hN]
   refine Zt (t := (z15.2.1 != 0)) rfl (fun c21 => ?_) (fun c21 => ?_)
   ·replace hs0_ := Zy c21 hs0_
    refine Zh ?_
    refine Zb Zc [] ?_
    simp only [push_cast, seval, ↓reduceIte, Za, hN0, hN]
    refine Zg [8, 9, 10] [false, true, false, true, false, false, false] ?_
    simp only [push_cast, seval, ↓reduceIte]
    refine Zw ?_
    try simp only [Zi, Zf]
    have hs0_ := Option.some.inj hs0_; subst hs0_
    refine And.intro (fun h => by cases h) (And.intro rfl (Fit2.of (Zu hU rfl rfl ?_) (by omega)))
    simp only [push_cast, seval, ↓reduceIte, Za, hN0, hN]
   replace hs0_ := Zx c21 hs0_
   refine Zz ?_
   try simp only [Zi, Zf]
   refine Zg [0, 2, 3, 5, 8, 11, 13, 16] [true, true, true, true, false, false, true] ?_
   simp only [push_cast, seval, ↓reduceIte]
   obtain ⟨l20, pl20, ql20, el20, hs0_⟩ := bA (k := 1) rfl hs0_
   refine Zb Zc [] ?_
   simp only [push_cast, seval, ↓reduceIte, Za, pl20, ql20, el20, hN0, hN]
   refine Zfs ⟨149, [], [(0, .sl a0.length (fl (eL (eI .u64)) a0)), (2, .val (.int .i64 a2)), (3, .val (.int .i64 z15.1)), (5, .ref n 0), (8, .ref (n + 1) 0), (11, .ref (n + 2) 0), (13, .val (.int .i64 s0_.2.1))]⟩ (Z4 O n [some ⟨false, 33, 7, 1, (Zr a1)⟩, some ⟨false, 58, 3, 1, [.val (.int .i64 0), .val (.slice none 0 0), .val (.slice none 0 0)]⟩, some ⟨false, 58, 3, 1, [.val (.int .i64 a1.Kind), .sl y2.length (fl (eI .u64) y2), .row (n + 3) l20.length]⟩, some ⟨true, 58, 3, l20.length, fl Zj l20⟩, none, none, none, none]) (Zu hU rfl rfl ?_) ?_
   ·simp only [push_cast, seval, ↓reduceIte, Za, pl20, ql20, el20, hN0, hN]
   refine Zb Zc [] ?_
   simp only [push_cast, seval, ↓reduceIte, Za, hN0, hN]
   have hs0_ := Option.some.inj hs0_; subst hs0_
   refine And.intro rfl (Fit2.of (Zu hU rfl rfl ?_) (by omega))
   simp only [push_cast, seval, ↓reduceIte, Za, hN0, hN]
  replace hs0_ := Zx c23 hs0_
  refine Uf ?_
  try simp only [Zi, Zf, ↓reduceIte, Nat.reduceEqDiff]
  have hs0_ := Option.some.inj hs0_; subst hs0_
  refine And.intro (fun h => by cases h) (And.intro rfl (Fit2.of (Zu hU rfl rfl ?_) (by omega)))
  simp only [push_cast, seval, ↓reduceIte, Za, hN0, hN]
 rcases z24 with z24 | z24
 ·dsimp only [Uz] at hw h
  refine Zca hw ?_
  try simp only [Zi, Zf, ↓reduceIte, Nat.reduceEqDiff]
  have h := Option.some.inj h; subst h
  refine Zl (.inr rfl) hU [.agg [.val (.int .i64 a1.Kind), .sl y2.length (fl (eI .u64) y2), .sl z24.2.2.length (fl Zj z24.2.2)], .val (.int .i64 z24.1), .val (.int .i64 z24.2.1)] (by omega) ?_
  simp only [push_cast, seval, ↓reduceIte, Za, Try.results63, hN0, hN]
 dsimp only [Uz] at hw h
 refine Qr hw ?_
 try simp only [Zi, Zf, ↓reduceIte, Nat.reduceEqDiff]
 refine Zg [3, 8, 11] [false, true, true, true, false] ?_
 simp only [push_cast, seval, ↓reduceIte]
 refine Zh ?_
 refine Zb Zc [] ?_
 simp only [push_cast, seval, ↓reduceIte, Za, hN0, hN]
 refine Zg [8, 9, 10] [false, true, false, true, false] ?_
 simp only [push_cast, seval, ↓reduceIte]
 refine Zw ?_
 try simp only [Zi, Zf]
 have h := Option.some.inj h; subst h
 refine Zl (.inr rfl) hU [.agg [.val (.int .i64 a1.Kind), .sl y2.length (fl (eI .u64) y2), .row (n + 3) z24.2.length], .val (.int .i64 z24.1), .val (.int .i64 0)] (by omega) ?_
 simp only [push_cast, seval, ↓reduceIte, Za, Try.results63, hN0, hN]
theorem Zh0 {Yl : ((List (List Int)) → Zo → Int → Int → Option (S_api_Tree × Int × Int))} {Y8 : ((List (List Int)) → Zo → Int → Int → Option (S_api_Tree × Int × Int))} (Vr : ∀ {a0 : (List (List Int))} {a1 : Zo} {a2 : Int} {a3 : Int} {r : (S_api_Tree × Int × Int)} {O : Objs} {n : Nat}, Yl a0 a1 a2 a3 = some r → GTo Try.prog 63 [.sl a0.length (fl (eL (eI .u64)) a0), .agg (Zr a1), .val (.int .i64 a2), .val (.int .i64 a3)] O n (.tup [.agg (Zp r.1), .val (.int .i64 r.2.1), .val (.int .i64 r.2.2)]) O n) (Zbl : ∀ {a0 : (List (List Int))} {a1 : Zo} {a2 : Int} {a3 : Int} {r : (S_api_Tree × Int × Int)} {O : Objs} {n : Nat}, Y8 a0 a1 a2 a3 = some r → GTo Try.prog 87 [.sl a0.length (fl (eL (eI .u64)) a0), .agg (Zr a1), .val (.int .i64 a2), .val (.int .i64 a3)] O n (.tup [.agg (Zp r.1), .val (.int .i64 r.2.1), .val (.int .i64 r.2.2)]) O n) {a0 : (List (List Int))} {a1 : Zo} {a2 : Int} {a3 : Int} {r : (S_api_Tree × Int × Int)} {O : Objs} {n : Nat} (h : Q9 Yl Y8 a0 a1 a2 a3 = some r) : GTo Try.prog 87 [.sl a0.length (fl (eL (eI .u64)) a0), .agg (Zr a1), .val (.int .i64 a2), .val (.int .i64 a3)] O n (.tup [.agg (Zp r.1), .val (.int .i64 r.2.1), .val (.int .i64 r.2.2)]) O n := by
 unfold Q9 at h
 refine Yr Zc Try.call87 Try.func87 rfl (Nat.le_of_ble_eq_true rfl) (Nat.le_refl _) fun hU => ?_
 have hN0 : O n = none := hU.fresh _ (Nat.le_refl _)
 have hN : ∀ k, O (n + k) = none := fun k => hU.fresh _ (Nat.le_add_right _ _)
 show W _ _ _ _ ⟨63, [], [(0, .sl a0.length (fl (eL (eI .u64)) a0)), (1, .agg (Zr a1)), (2, .val (.int .i64 a2)), (3, .val (.int .i64 a3))]⟩ (Z4 O n []) _
 refine Zq [0, 2, 3, 5, 8] (Zb Zc [] ?_)
 simp only [push_cast, seval, ↓reduceIte, Za, hN0, hN]
 refine Zh ?_
 obtain ⟨y2, hy2, h⟩ := bC h
 refine Zb Zc [] ?_
 simp only [push_cast, seval, ↓reduceIte, Za, hN0, hN]
 refine (Qd hy2).then ?_
 simp only [push_cast, seval, ↓reduceIte, Za, hN0, hN]
 refine Zg [0, 2, 3, 5, 8, 11] [true, true, true] ?_
 simp only [push_cast, seval, ↓reduceIte]
 refine Zh ?_
 refine Zq [0, 2, 3, 5, 8, 11, 12] (Zb Zc [] ?_)
 simp only [push_cast, seval, ↓reduceIte, Za, hN0, hN]
 refine Zg [0, 2, 3, 5, 8, 11, 12] [true, true, true] ?_
 simp only [push_cast, seval, ↓reduceIte]
 refine Zkn (E' := (⟨63, [], [(0, .sl a0.length (fl (eL (eI .u64)) a0)), (2, .val (.int .i64 a2)), (3, .val (.int .i64 a3)), (5, .ref n 0), (8, .ref (n + 1) 0), (11, .ref (n + 2) 0), (12, .val (.int .i64 0))]⟩ : Env)) (O' := (Z4 O n [some ⟨false, 33, 7, 1, (Zr a1)⟩, some ⟨false, 58, 3, 1, [.val (.int .i64 0), .val (.slice none 0 0), .val (.slice none 0 0)]⟩, some ⟨false, 58, 3, 1, [.val (.int .i64 1), .sl y2.length (fl (eI .u64) y2), .row (n + 3) ([] : List S_api_Tree).length]⟩, some ⟨true, 58, 3, ([] : List S_api_Tree).length, fl Zj ([] : List S_api_Tree)⟩, none])) (n' := (n + 5)) ?_ ?_
 ·refine Fit2.trans (E' := (⟨63, [], [(0, .sl a0.length (fl (eL (eI .u64)) a0)), (2, .val (.int .i64 a2)), (3, .val (.int .i64 a3)), (5, .ref n 0), (8, .ref (n + 1) 0), (11, .ref (n + 2) 0), (12, .val (.int .i64 0))]⟩ : Env)) (O' := (Z4 O n [some ⟨false, 33, 7, 1, (Zr a1)⟩, some ⟨false, 58, 3, 1, [.val (.int .i64 0), .val (.slice none 0 0), .val (.slice none 0 0)]⟩, some ⟨false, 58, 3, 1, [.val (.int .i64 1), .sl y2.length (fl (eI .u64) y2), .val (.slice none 0 0)]⟩])) (n' := (n + 3)) (Fit2.of (Zu hU rfl rfl ?_) (by omega)) ?_
  ·simp only [push_cast, seval, ↓reduceIte, Za, hN0, hN]
  refine Fit2.trans (E' := (⟨63, [], [(0, .sl a0.length (fl (eL (eI .u64)) a0)), (2, .val (.int .i64 a2)), (3, .val (.int .i64 a3)), (5, .ref n 0), (8, .ref (n + 1) 0), (11, .ref (n + 2) 0), (12, .val (.int .i64 0))]⟩ : Env)) (O' := (Z4 O n [some ⟨false, 33, 7, 1, (Zr a1)⟩, some ⟨false, 58, 3, 1, [.val (.int .i64 0), .val (.slice none 0 0), .val (.slice none 0 0)]⟩, some ⟨false, 58, 3, 1, [.val (.int .i64 1), .sl y2.length (fl (eI .u64) y2), .row (n + 3) 0]⟩, some ⟨true, 58, 3, 0, []⟩])) (n' := (n + 4)) ?_ ?_
  ·have ha := Zcb (ba := n) (E := (⟨63, [], [(0, .sl a0.length (fl (eL (eI .u64)) a0)), (2, .val (.int .i64 a2)), (3, .val (.int .i64 a3)), (5, .ref n 0), (8, .ref (n + 1) 0), (11, .ref (n + 2) 0), (12, .val (.int .i64 0))]⟩ : Env)) (O := (Z4 O n [some ⟨false, 33, 7, 1, [.val (.int .i64 a1.Kind), .val (.int .i64 a1.S), .val (.int .i64 a1.At), .val (.int .i64 a1.Data), .val (.int .i64 a1.Ptrs), .val (.int .i64 a1.Count), .val (.int .u64 a1.N)]⟩, some ⟨false, 58, 3, 1, [.val (.int .i64 0), .val (.slice none 0 0), .val (.slice none 0 0)]⟩, some ⟨false, 58, 3, 1, [.val (.int .i64 1), .sl y2.length (fl (eI .u64) y2), .val (.slice none 0 0)]⟩])) (n := (n + 3)) (p := (n + 2)) (k := 2) (q := ⟨false, 58, 3, 1, [.val (.int .i64 1), .sl y2.length (fl (eI .u64) y2), .val (.slice none 0 0)]⟩) 58 3 (by simp only [Ue, Zbw, List.getElem?_cons_zero, List.getElem?_cons_succ, Option.join_some, Xk]) rfl (by omega)
   simp only [Um, Vk, Gx, Gc, List.set_cons_zero, List.set_cons_succ, List.cons_append, List.nil_append, List.length_cons, List.length_nil, Nat.zero_add, Nat.reduceAdd, Nat.reduceLT, Nat.add_assoc] at ha
   exact ha
  refine Fit2.trans (E' := (⟨63, [], [(0, .sl a0.length (fl (eL (eI .u64)) a0)), (2, .val (.int .i64 a2)), (3, .val (.int .i64 a3)), (5, .ref n 0), (8, .ref (n + 1) 0), (11, .ref (n + 2) 0), (12, .val (.int .i64 0))]⟩ : Env)) (O' := (Z4 O n [some ⟨false, 33, 7, 1, (Zr a1)⟩, some ⟨false, 58, 3, 1, [.val (.int .i64 0), .val (.slice none 0 0), .val (.slice none 0 0)]⟩, some ⟨false, 58, 3, 1, [.val (.int .i64 1), .sl y2.length (fl (eI .u64) y2), .row (n + 3) ([] : List S_api_Tree).length]⟩, some ⟨true, 58, 3, ([] : List S_api_Tree).length, fl Zj ([] : List S_api_Tree)⟩])) (n' := (n + 4)) (Fit2.of (Zu hU rfl rfl ?_) (by omega)) ?_
  ·simp only [push_cast, seval, ↓reduceIte, Za, hN0, hN]
  refine Zfe (k := 4) (k' := 5) hU [0, 1, 2, 3] [0, 1, 2, 3, 0] rfl rfl rfl rfl ⟨rfl, rfl⟩ ?_
  simp only [push_cast, seval, ↓reduceIte, Za, hN0, hN]
 obtain ⟨z11, hz11, h⟩ := bC h
 refine Zh6 (J := (Uz (fun z11 => JR n (⟨63, [], [(8, .ref (n + 1) 0), (9, .val (.int .i64 z11.1)), (10, .val (.int .i64 z11.2.1))]⟩ : Env) (Z4 O n [none, some ⟨false, 58, 3, 1, [.val (.int .i64 1), .sl y2.length (fl (eI .u64) y2), .sl z11.2.2.length (fl Zj z11.2.2)]⟩, none]) (n + 3)) (fun z11 => JX 0 n (⟨63, [], [(3, .val (.int .i64 z11.1)), (8, .ref (n + 1) 0), (11, .ref (n + 2) 0)]⟩ : Env) (Z4 O n [none, some ⟨false, 58, 3, 1, [.val (.int .i64 0), .val (.slice none 0 0), .val (.slice none 0 0)]⟩, some ⟨false, 58, 3, 1, [.val (.int .i64 1), .sl y2.length (fl (eI .u64) y2), .row (n + 3) z11.2.length]⟩, some ⟨true, 58, 3, z11.2.length, fl Zj z11.2⟩, none]) (n + 5)))) (z := z11) ?_ fun hw => ?_
 ·refine Kc hz11 (fun s0_ => ⟨63, [], [(0, .sl a0.length (fl (eL (eI .u64)) a0)), (2, .val (.int .i64 a2)), (3, .val (.int .i64 s0_.1)), (5, .ref n 0), (8, .ref (n + 1) 0), (11, .ref (n + 2) 0), (12, .val (.int .i64 s0_.2.1))]⟩) (fun s0_ => (Z4 O n [some ⟨false, 33, 7, 1, (Zr a1)⟩, some ⟨false, 58, 3, 1, [.val (.int .i64 0), .val (.slice none 0 0), .val (.slice none 0 0)]⟩, some ⟨false, 58, 3, 1, [.val (.int .i64 1), .sl y2.length (fl (eI .u64) y2), .row (n + 3) s0_.2.2.length]⟩, some ⟨true, 58, 3, s0_.2.2.length, fl Zj s0_.2.2⟩, none])) (Uz (fun z11 => JR n (⟨63, [], [(8, .ref (n + 1) 0), (9, .val (.int .i64 z11.1)), (10, .val (.int .i64 z11.2.1))]⟩ : Env) (Z4 O n [none, some ⟨false, 58, 3, 1, [.val (.int .i64 1), .sl y2.length (fl (eI .u64) y2), .sl z11.2.2.length (fl Zj z11.2.2)]⟩, none]) (n + 3)) (fun z11 => JX 0 n (⟨63, [], [(3, .val (.int .i64 z11.1)), (8, .ref (n + 1) 0), (11, .ref (n + 2) 0)]⟩ : Env) (Z4 O n [none, some ⟨false, 58, 3, 1, [.val (.int .i64 0), .val (.slice none 0 0), .val (.slice none 0 0)]⟩, some ⟨false, 58, 3, 1, [.val (.int .i64 1), .sl y2.length (fl (eI .u64) y2), .row (n + 3) z11.2.length]⟩, some ⟨true, 58, 3, z11.2.length, fl Zj z11.2⟩, none]) (n + 5))) ?_
  intro s0_ x0_ hs0_
  unfold Q4 at hs0_
  try dsimp only
  refine Zh ?_
  refine Zq [0, 2, 3, 5, 8, 11, 12, 25] (Zb Zc [] ?_)
  simp only [push_cast, seval, ↓reduceIte, Za, hN0, hN]
  refine Zt (t := (decide (s0_.2.1 < a1.Ptrs))) rfl (fun c10 => ?_) (fun c10 => ?_)
  ·replace hs0_ := Zy c10 hs0_
   refine Zz ?_
   try simp only [Zi, Zf]
   refine Zg [0, 2, 3, 5, 8, 11, 12] [true, true, true, true, false] ?_
   simp only [push_cast, seval, ↓reduceIte]
   refine Zh ?_
   refine Y5 ?_
   refine Zh ?_
   obtain ⟨y4, hy4, hs0_⟩ := bC hs0_
   refine Zb Zc [] ?_
   simp only [push_cast, seval, ↓reduceIte, Za, hN0, hN]
   refine (Zaz hy4).then ?_
   simp only [push_cast, seval, ↓reduceIte, Za, hN0, hN]
   refine Zg [0, 2, 3, 5, 8, 11, 12, 13, 14] [true, true, true, true, false, true] ?_
   simp only [push_cast, seval, ↓reduceIte]
   refine Zh ?_
   refine Zq [0, 2, 3, 5, 8, 11, 12, 13, 14, 36] (Zb Zc [] ?_)
   simp only [push_cast, seval, ↓reduceIte, Za, hN0, hN]
   refine Zt (t := (y4.2 != 0)) rfl (fun c9 => ?_) (fun c9 => ?_)
   ·replace hs0_ := Zy c9 hs0_
    refine Zh ?_
    refine Zb Zc [] ?_
    simp only [push_cast, seval, ↓reduceIte, Za, hN0, hN]
    refine Zg [8, 9, 10] [false, true, false, true, false, false] ?_
    simp only [push_cast, seval, ↓reduceIte]
    refine Zw ?_
    try simp only [Zi, Zf]
    have hs0_ := Option.some.inj hs0_; subst hs0_
    refine And.intro (fun h => by cases h) (And.intro rfl (Fit2.of (Zu hU rfl rfl ?_) (by omega)))
    simp only [push_cast, seval, ↓reduceIte, Za, hN0, hN]
   replace hs0_ := Zx c9 hs0_
   refine Zz ?_
   try simp only [Zi, Zf]
   refine Zg [0, 2, 3, 5, 8, 11, 12, 13] [true, true, true, true, false, true] ?_
   simp only [push_cast, seval, ↓reduceIte]
   refine Zh ?_
   obtain ⟨y6, hy6, hs0_⟩ := bC hs0_
   refine Zb Zc [] ?_
   simp only [push_cast, seval, ↓reduceIte, Za, hN0, hN]
   refine (Vr hy6).then ?_
   simp only [push_cast, seval, ↓reduceIte, Za, hN0, hN]
   refine Zg [0, 2, 5, 8, 11, 12, 15, 16, 17] [true, true, true, true, false, false, true] ?_
   simp only [push_cast, seval, ↓reduceIte]
   refine Zh ?_
   refine Zq [0, 2, 5, 8, 11, 12, 15, 16, 17, 50] (Zb Zc [] ?_)
   simp only [push_cast, seval, ↓reduceIte, Za, hN0, hN]
   refine Zt (t := (y6.2.2 != 0)) rfl (fun c8 => ?_) (fun c8 => ?_)
   ·replace hs0_ := Zy c8 hs0_
    refine Zh ?_
    refine Zb Zc [] ?_
    simp only [push_cast, seval, ↓reduceIte, Za, hN0, hN]
    refine Zg [8, 9, 10] [false, true, false, true, false, false, false] ?_
    simp only [push_cast, seval, ↓reduceIte]
    refine Zw ?_
    try simp only [Zi, Zf]
    have hs0_ := Option.some.inj hs0_; subst hs0_
    refine And.intro (fun h => by cases h) (And.intro rfl (Fit2.of (Zu hU rfl rfl ?_) (by omega)))
    simp only [push_cast, seval, ↓reduceIte, Za, hN0, hN]
   replace hs0_ := Zx c8 hs0_
   refine Zz ?_
   try simp only [Zi, Zf]
   refine Zg [0, 2, 5, 8, 11, 12, 15, 16] [true, true, true, true, false, false, true] ?_
   simp only [push_cast, seval, ↓reduceIte]
   refine Zq [0, 2, 3, 5, 8, 11, 12, 15] (Zb Zc [] ?_)
   simp only [push_cast, seval, ↓reduceIte, Za, hN0, hN]
   obtain ⟨l7, pl7, ql7, el7, hs0_⟩ := bA (k := 1) rfl hs0_
   refine Zb Zc [] ?_
   simp only [push_cast, seval, ↓reduceIte, Za, pl7, ql7, el7, hN0, hN]
   refine Zfs ⟨63, [], [(0, .sl a0.length (fl (eL (eI .u64)) a0)), (2, .val (.int .i64 a2)), (3, .val (.int .i64 y6.2.1)), (5, .ref n 0), (8, .ref (n + 1) 0), (11, .ref (n + 2) 0), (12, .val (.int .i64 s0_.2.1))]⟩ (Z4 O n [some ⟨false, 33, 7, 1, (Zr a1)⟩, some ⟨false, 58, 3, 1, [.val (.int .i64 0), .val (.slice none 0 0), .val (.slice none 0 0)]⟩, some ⟨false, 58, 3, 1, [.val (.int .i64 1), .sl y2.length (fl (eI .u64) y2), .row (n + 3) l7.length]⟩, some ⟨true, 58, 3, l7.length, fl Zj l7⟩, none, none, none, none]) (Zu hU rfl rfl ?_) ?_
   ·simp only [push_cast, seval, ↓reduceIte, Za, pl7, ql7, el7, hN0, hN]
   refine Zb Zc [] ?_
   simp only [push_cast, seval, ↓reduceIte, Za, hN0, hN]
   have hs0_ := Option.some.inj hs0_; subst hs0_
   refine And.intro rfl (Fit2.of (Zu hU rfl rfl ?_) (by omega))
   simp only [push_cast, seval, ↓reduceIte, Za, hN0, hN]
  replace hs0_ := Zx c10 hs0_
  refine Uf ?_
  try simp only [Zi, Zf, ↓reduceIte, Nat.reduceEqDiff]
  have hs0_ := Option.some.inj hs0_; subst hs0_
  refine And.intro (fun h => by cases h) (And.intro rfl (Fit2.of (Zu hU rfl rfl ?_) (by omega)))
  simp only [push_cast, seval, ↓reduceIte, Za, hN0, hN]
 rcases z11 with z11 | z11
 ·dsimp only [Uz] at hw h
  refine Zca hw ?_
  try simp only [Zi, Zf, ↓reduceIte, Nat.reduceEqDiff]
  have h := Option.some.inj h; subst h
  refine Zl (.inr rfl) hU [.agg [.val (.int .i64 1), .sl y2.length (fl (eI .u64) y2), .sl z11.2.2.length (fl Zj z11.2.2)], .val (.int .i64 z11.1), .val (.int .i64 z11.2.1)] (by omega) ?_
  simp only [push_cast, seval, ↓reduceIte, Za, Try.results87, hN0, hN]
 dsimp only [Uz] at hw h
 refine Qr hw ?_
 try simp only [Zi, Zf, ↓reduceIte, Nat.reduceEqDiff]
 refine Zg [3, 8, 11] [false, true, true, true, false] ?_
 simp only [push_cast, seval, ↓reduceIte]
 refine Zh ?_
 refine Zb Zc [] ?_
 simp only [push_cast, seval, ↓reduceIte, Za, hN0, hN]
 refine Zg [8, 9, 10] [false, true, false, true, false] ?_
 simp only [push_cast, seval, ↓reduceIte]
 refine Zw ?_
 try simp only [Zi, Zf]
 have h := Option.some.inj h; subst h
 refine Zl (.inr rfl) hU [.agg [.val (.int .i64 1), .sl y2.length (fl (eI .u64) y2), .row (n + 3) z11.2.length], .val (.int .i64 z11.1), .val (.int .i64 0)] (by omega) ?_
 simp only [push_cast, seval, ↓reduceIte, Za, Try.results87, hN0, hN]
theorem Zdm : ∀ k, (∀ {a0 : (List (List Int))} {a1 : Zo} {a2 : Int} {a3 : Int} {r : (S_api_Tree × Int × Int)} {O : Objs} {n : Nat}, (Yi k).1 a0 a1 a2 a3 = some r → GTo Try.prog 63 [.sl a0.length (fl (eL (eI .u64)) a0), .agg (Zr a1), .val (.int .i64 a2), .val (.int .i64 a3)] O n (.tup [.agg (Zp r.1), .val (.int .i64 r.2.1), .val (.int .i64 r.2.2)]) O n) ∧ (∀ {a0 : (List (List Int))} {a1 : Zo} {a2 : Int} {a3 : Int} {r : (S_api_Tree × Int × Int)} {O : Objs} {n : Nat}, (Yi k).2 a0 a1 a2 a3 = some r → GTo Try.prog 87 [.sl a0.length (fl (eL (eI .u64)) a0), .agg (Zr a1), .val (.int .i64 a2), .val (.int .i64 a3)] O n (.tup [.agg (Zp r.1), .val (.int .i64 r.2.1), .val (.int .i64 r.2.2)]) O n) := fun k => by
 induction k with
 | zero => exact ⟨@fun a0 a1 a2 a3 r O n h => (nomatch (show (none : Option _) = some _ from h)), @fun a0 a1 a2 a3 r O n h => (nomatch (show (none : Option _) = some _ from h))⟩
 | succ k ih => exact ⟨@fun a0 a1 a2 a3 r O n h => Ze2 (ih.1) (ih.2)  h, @fun a0 a1 a2 a3 r O n h => Zh0 (ih.1) (ih.2)  h⟩
theorem Zf5 {a0 : (List (List Int))} {a1 : Zo} {a2 : Int} {a3 : Int} {r : (S_api_Tree × Int × Int)} {O : Objs} {n : Nat} (h : Us a0 a1 a2 a3 = some r) : GTo Try.prog 63 [.sl a0.length (fl (eL (eI .u64)) a0), .agg (Zr a1), .val (.int .i64 a2), .val (.int .i64 a3)] O n (.tup [.agg (Zp r.1), .val (.int .i64 r.2.1), .val (.int .i64 r.2.2)]) O n := by
 obtain ⟨k, hk⟩ := Zd2 h
 exact (Zdm k).1  hk
theorem Zgi {a0 : (List (List Int))} {a1 : Z0} {r : (S_api_Tree × Int × Int)} {O : Objs} {n : Nat} (h : Qp a0 a1 = some r) : GTo Try.prog 32 [.sl a0.length (fl (eL (eI .u64)) a0), .agg (Yj a1)] O n (.tup [.agg (Zp r.1), .val (.int .i64 r.2.1), .val (.int .i64 r.2.2)]) O n := by
 unfold Qp at h
 refine Yr Zc Try.call32 Try.func32 rfl (Nat.le_of_ble_eq_true rfl) (Nat.le_refl _) fun hU => ?_
 have hN0 : O n = none := hU.fresh _ (Nat.le_refl _)
 have hN : ∀ k, O (n + k) = none := fun k => hU.fresh _ (Nat.le_add_right _ _)
 show W _ _ _ _ ⟨43, [], [(0, .sl a0.length (fl (eL (eI .u64)) a0)), (1, .agg (Yj a1))]⟩ (Z4 O n []) _
 refine Zq [0, 3, 4] (Zb Zc [] ?_)
 simp only [push_cast, seval, ↓reduceIte, Za, hN0, hN]
 refine Zh ?_
 obtain ⟨y2, hy2, h⟩ := bC h
 refine Zb Zc [] ?_
 simp only [push_cast, seval, ↓reduceIte, Za, hN0, hN]
 refine (Zgh hy2).then ?_
 simp only [push_cast, seval, ↓reduceIte, Za, hN0, hN]
 refine Zg [0, 3, 4] [true, true] ?_
 simp only [push_cast, seval, ↓reduceIte]
 refine Zh ?_
 obtain ⟨y4, hy4, h⟩ := bC h
 refine Zb Zc [] ?_
 simp only [push_cast, seval, ↓reduceIte, Za, hN0, hN]
 refine (Za2 hy4).then ?_
 simp only [push_cast, seval, ↓reduceIte, Za, hN0, hN]
 refine Zg [0, 3, 4, 7, 8] [true, true, true] ?_
 simp only [push_cast, seval, ↓reduceIte]
 refine Zh ?_
 refine Zq [0, 3, 4, 7, 8, 20] (Zb Zc [] ?_)
 simp only [push_cast, seval, ↓reduceIte, Za, hN0, hN]
 refine Zt (t := (y4.2 != 0)) rfl (fun c8 => ?_) (fun c8 => ?_)
 ·replace h := Zy c8 h
  refine Zh ?_
  refine Zb Zc [] ?_
  simp only [push_cast, seval, ↓reduceIte, Za, hN0, hN]
  refine Zg [4, 5, 6] [false, true, false] ?_
  simp only [push_cast, seval, ↓reduceIte]
  refine Zw ?_
  try simp only [Zi, Zf]
  have h := Option.some.inj h; subst h
  refine Zl (.inr rfl) hU [.agg [.val (.int .i64 0), .val (.slice none 0 0), .val (.slice none 0 0)], .val (.int .i64 0), .val (.int .i64 y4.2)] (by omega) ?_
  simp only [push_cast, seval, ↓reduceIte, Za, Try.results32, hN0, hN]
 replace h := Zx c8 h
 refine Zz ?_
 try simp only [Zi, Zf]
 refine Zg [0, 3, 4, 7] [true, true, true] ?_
 simp only [push_cast, seval, ↓reduceIte]
 refine Zh ?_
 obtain ⟨y6, hy6, h⟩ := bC h
 refine Zb Zc [] ?_
 simp only [push_cast, seval, ↓reduceIte, Za, hN0, hN]
 refine (Zf5 hy6).then ?_
 simp only [push_cast, seval, ↓reduceIte, Za, hN0, hN]
 refine Zg [3, 4, 9, 10, 11] [true, true, false, true] ?_
 simp only [push_cast, seval, ↓reduceIte]
 refine Zh ?_
 refine Zq [3, 4, 9, 10, 11, 35] (Zb Zc [] ?_)
 simp only [push_cast, seval, ↓reduceIte, Za, hN0, hN]
 refine Zt (t := (y6.2.2 != 0)) rfl (fun c7 => ?_) (fun c7 => ?_)
 ·replace h := Zy c7 h
  refine Zh ?_
  refine Zb Zc [] ?_
  simp only [push_cast, seval, ↓reduceIte, Za, hN0, hN]
  refine Zg [4, 5, 6] [false, true, false, false] ?_
  simp only [push_cast, seval, ↓reduceIte]
  refine Zw ?_
  try simp only [Zi, Zf]
  have h := Option.some.inj h; subst h
  refine Zl (.inr rfl) hU [.agg [.val (.int .i64 0), .val (.slice none 0 0), .val (.slice none 0 0)], .val (.int .i64 0), .val (.int .i64 y6.2.2)] (by omega) ?_
  simp only [push_cast, seval, ↓reduceIte, Za, Try.results32, hN0, hN]
 replace h := Zx c7 h
 refine Zz ?_
 try simp only [Zi, Zf]
 refine Zg [3, 4, 9, 10] [true, true, false, true] ?_
 simp only [push_cast, seval, ↓reduceIte]
 refine Zh ?_
 refine Zbx Zc (by kernel_rfl) [.plain, .low, .low, .low, .low, .pass, .plain, .plain] (fun i => i ≠ n + 1) [0, 1, 2, 3, 4, 5, 6, 7] [.plain, .low, .low, .low, .low, .pass, .plain, .plain] [] (by kernel_rfl) rfl ?_
 simp only [push_cast, seval, ↓reduceIte, Za, hN0, hN]
 repeat (with_reducible refine And.intro (by first | omega | exact Xt rfl | exact Xa | exact Qs rfl | exact Jo rfl rfl) ?_)
 refine Zg [4, 5, 6] [false, true, false, false] ?_
 simp only [push_cast, seval, ↓reduceIte]
 refine Zw ?_
 try simp only [Zi, Zf]
 have h := Option.some.inj h; subst h
 refine Zl (.inr rfl) hU [.agg (Zp y6.1), .val (.int .i64 (IntKind.i64.wrap (y2.Weight - y6.2.1))), .val (.int .i64 0)] (by omega) ?_
 simp only [push_cast, seval, ↓reduceIte, Za, Try.results32, hN0, hN]
theorem Zif {a0 : (List Int)} {r : (List Int)} {O : Objs} {n : Nat} (h : Kv a0 = some r) : GTo Try.prog 67 [.sl a0.length (fl (eI .u64) a0)] O n (.sl r.length (fl (eI .u64) r)) O n := by
 unfold Kv at h
 refine Yr Zc Try.call67 Try.func67 rfl (Nat.le_of_ble_eq_true rfl) (Nat.le_refl _) fun hU => ?_
 have hN0 : O n = none := hU.fresh _ (Nat.le_refl _)
 have hN : ∀ k, O (n + k) = none := fun k => hU.fresh _ (Nat.le_add_right _ _)
 show W _ _ _ _ ⟨24, [], [(0, .sl a0.length (fl (eI .u64) a0))]⟩ (Z4 O n []) _
 refine Zq [0] (Zb Zc [] ?_)
 simp only [push_cast, seval, ↓reduceIte, Za, hN0, hN]
 refine Zq [0, 3] (Zb Zc [] ?_)
 simp only [push_cast, seval, ↓reduceIte, Za, hN0, hN]
 refine Zh ?_
 refine Zg [0, 3] [] ?_
 simp only [push_cast, seval, ↓reduceIte]
 obtain ⟨z7, hz7, h⟩ := bC h
 refine Qr (E' := ⟨24, [], [(0, .sl a0.length (fl (eI .u64) a0)), (3, .val (.int .i64 z7))]⟩) (O' := (Z4 O n [])) (n0 := n) ?_ ?_
 ·refine Kc hz7 (fun s0_ => ⟨24, [], [(0, .sl a0.length (fl (eI .u64) a0)), (3, .val (.int .i64 s0_))]⟩) (fun s0_ => (Z4 O n [])) (fun z7 => JX 0 n (⟨24, [], [(0, .sl a0.length (fl (eI .u64) a0)), (3, .val (.int .i64 z7))]⟩ : Env) (Z4 O n []) n) ?_
  intro s0_ x0_ hs0_
  unfold Q8 at hs0_
  try dsimp only
  refine Zh ?_
  obtain ⟨z2, hz2, hs0_⟩ := bC hs0_
  refine Xw (E' := ⟨24, [], [(0, .sl a0.length (fl (eI .u64) a0)), (3, .val (.int .i64 s0_)), (16, .val (.bool z2))]⟩) (O' := (Z4 O n [])) (n0 := n) ?_ ?_
  ·rcases Bool.eq_false_or_eq_true (decide (0 < s0_)) with c5 | c5
   ·replace hz2 := Zy c5 hz2
    obtain ⟨x4, hx4, ax4, bx4, cx4, hz2⟩ := bE (f := (eI .u64)) Ux (fun _ => rfl) (by decide) hz2
    refine Zb Zc [some true, some true, some true, some true, some true, some true] ?_
    simp only [push_cast, Nat.reduceAdd, Nat.reduceSub, Nat.reduceMul, Nat.reduceLeDiff, Nat.reduceLT, Nat.reduceEqDiff, ↓reduceIte, reduceCtorEq, Int.reduceBEq, Int.reduceBNe, Nat.reduceBEq, Int.reduceLE, Int.reduceLT, Int.reduceEq, Int.reduceNe, Int.reduceNeg, Nat.reduceDiv, Nat.reduceMod, Nat.reducePow, Za, c5, ax4, bx4, cx4, hN0, hN]
    have hz2 := Option.some.inj hz2; subst hz2
    refine And.intro rfl (Fit2.of (Zu hU rfl rfl ?_) (by omega))
    simp only [push_cast, Nat.reduceAdd, Nat.reduceSub, Nat.reduceMul, Nat.reduceLeDiff, Nat.reduceLT, Nat.reduceEqDiff, ↓reduceIte, reduceCtorEq, Int.reduceBEq, Int.reduceBNe, Nat.reduceBEq, Int.reduceLE, Int.reduceLT, Int.reduceEq, Int.reduceNe, Int.reduceNeg, Nat.reduceDiv, Nat.reduceMod, Nat.reducePow, Za, c5, ax4, bx4, cx4, hN0, hN]
   replace hz2 := Zx c5 hz2
   refine Zb Zc [some false, some false, some false, some false, some false, some false] ?_
   simp only [push_cast, seval, ↓reduceIte, Za, c5, hN0, hN]
   have hz2 := Option.some.inj hz2; subst hz2
   refine And.intro rfl (Fit2.of (Zu hU rfl rfl ?_) (by omega))
   simp only [push_cast, seval, ↓reduceIte, Za, c5, hN0, hN]
  refine Zt (t := z2) rfl (fun c6 => ?_) (fun c6 => ?_)
  ·replace hs0_ := Zy c6 hs0_
   refine Zz ?_
   try simp only [Zi, Zf]
   refine Zg [0, 3] [] ?_
   simp only [push_cast, seval, ↓reduceIte]
   refine Y5 ?_
   refine Zb Zc [] ?_
   simp only [push_cast, seval, ↓reduceIte, Za, hN0, hN]
   have hs0_ := Option.some.inj hs0_; subst hs0_
   refine And.intro rfl (Fit2.of (Zu hU rfl rfl ?_) (by omega))
   simp only [push_cast, seval, ↓reduceIte, Za, hN0, hN]
  replace hs0_ := Zx c6 hs0_
  refine Uf ?_
  try simp only [Zi, Zf, ↓reduceIte, Nat.reduceEqDiff]
  have hs0_ := Option.some.inj hs0_; subst hs0_
  refine And.intro (fun h => by cases h) (And.intro rfl (Fit2.of (Zu hU rfl rfl ?_) (by omega)))
  simp only [push_cast, seval, ↓reduceIte, Za, hN0, hN]
 try simp only [Zi, Zf, ↓reduceIte, Nat.reduceEqDiff]
 refine Zg [0, 3] [] ?_
 simp only [push_cast, seval, ↓reduceIte]
 refine Zq [0, 3, 4] (Zb Zc [] ?_)
 simp only [push_cast, seval, ↓reduceIte, Za, hN0, hN]
 refine Zh ?_
 obtain ⟨l10, al10, bl10, cl10, gl10, h⟩ := bS (lo := none) (hi := (some (.i64, z7))) (f := (eI .u64)) rfl rfl Zb3 Ux (fun _ => rfl) h
 obtain ⟨l11, pl11, ql11, el11, h⟩ := bA0 (k := l10.length) rfl h
 refine Zb Zc [] ?_
 simp only [push_cast, seval, ↓reduceIte, Za, al10, bl10, cl10, gl10, pl11, ql11, el11, hN0, hN]
 refine Zfs ⟨24, [], [(2, .row n l11.length)]⟩ (Z4 O n [some ⟨true, 31, 1, l11.length, fl (eI .u64) l11⟩]) (Zu hU rfl rfl ?_) ?_
 ·simp only [push_cast, seval, ↓reduceIte, Za, al10, bl10, cl10, gl10, pl11, ql11, el11, hN0, hN]
 refine Zw ?_
 try simp only [Zi, Zf]
 have h := Option.some.inj h; subst h
 refine Zl (.inr rfl) hU [.row n l11.length] (by omega) ?_
 simp only [push_cast, seval, ↓reduceIte, Za, Try.results67, hN0, hN]
theorem Zhy {Jg : (S_api_Tree → Option S_api_Tree)} (Zgj : ∀ {a0 : S_api_Tree} {r : S_api_Tree} {O : Objs} {n : Nat}, Jg a0 = some r → GTo Try.prog 41 [.agg (Zp a0)] O n (.agg (Zp r)) O n) {a0 : S_api_Tree} {r : S_api_Tree} {O : Objs} {n : Nat} (h : Kr Jg a0 = some r) : GTo Try.prog 41 [.agg (Zp a0)] O n (.agg (Zp r)) O n := by
 unfold Kr at h
 refine Yr Zc Try.call41 Try.func41 rfl (Nat.le_of_ble_eq_true rfl) (Nat.le_refl _) fun hU => ?_
 have hN0 : O n = none := hU.fresh _ (Nat.le_refl _)
 have hN : ∀ k, O (n + k) = none := fun k => hU.fresh _ (Nat.le_add_right _ _)
 show W _ _ _ _ ⟨53, [], [(0, .agg (Zp a0))]⟩ (Z4 O n []) _
 refine Zq [1, 2] (Zb Zc [] ?_)
 simp only [push_cast, seval, ↓reduceIte, Za, hN0, hN]
 refine Zh ?_
 refine Zq [1, 2, 10] (Zb Zc [] ?_)
 simp only [push_cast, seval, ↓reduceIte, Za, hN0, hN]
 refine Zt (t := (a0.Kind == 0)) rfl (fun c19 => ?_) (fun c19 => ?_)
 ·replace h := Zy c19 h
  refine Zh ?_
  refine Zb Zc [] ?_
  simp only [push_cast, seval, ↓reduceIte, Za, hN0, hN]
  refine Zg [2] [false, true] ?_
  simp only [push_cast, seval, ↓reduceIte]
  refine Zw ?_
  try simp only [Zi, Zf]
  have h := Option.some.inj h; subst h
  refine Zl (.inr rfl) hU [.agg [.val (.int .i64 0), .val (.slice none 0 0), .val (.slice none 0 0)]] (by omega) ?_
  simp only [push_cast, seval, ↓reduceIte, Za, Try.results41, hN0, hN]
 replace h := Zx c19 h
 refine Zz ?_
 try simp only [Zi, Zf]
 refine Zg [1, 2] [true, true] ?_
 simp only [push_cast, seval, ↓reduceIte]
 refine Zq [1, 2, 3] (Zb Zc [] ?_)
 simp only [push_cast, seval, ↓reduceIte, Za, hN0, hN]
 refine Zq [1, 2, 3, 4] (Zb Zc [] ?_)
 simp only [push_cast, seval, ↓reduceIte, Za, hN0, hN]
 refine Zh ?_
 refine Zq [1, 2, 3, 4, 5] (Zb Zc [] ?_)
 simp only [push_cast, seval, ↓reduceIte, Za, hN0, hN]
 refine Zg [1, 2, 3, 4, 5] [true, true] ?_
 simp only [push_cast, seval, ↓reduceIte]
 refine Zkn (E' := (⟨53, [], [(1, .ref n 0), (2, .ref (n + 1) 0), (3, .row (n + 2) ([] : List S_api_Tree).length), (4, .val (.int .i64 0)), (5, .val (.int .i64 0))]⟩ : Env)) (O' := (Z4 O n [some ⟨false, 58, 3, 1, (Zp a0)⟩, some ⟨false, 58, 3, 1, [.val (.int .i64 0), .val (.slice none 0 0), .val (.slice none 0 0)]⟩, some ⟨true, 58, 3, ([] : List S_api_Tree).length, fl Zj ([] : List S_api_Tree)⟩, none])) (n' := (n + 4)) ?_ ?_
 ·refine Fit2.trans (E' := (⟨53, [], [(1, .ref n 0), (2, .ref (n + 1) 0), (3, .val (.slice none 0 0)), (4, .val (.int .i64 0)), (5, .val (.int .i64 0))]⟩ : Env)) (O' := (Z4 O n [some ⟨false, 58, 3, 1, (Zp a0)⟩, some ⟨false, 58, 3, 1, [.val (.int .i64 0), .val (.slice none 0 0), .val (.slice none 0 0)]⟩])) (n' := (n + 2)) (Fit2.of (Zu hU rfl rfl ?_) (by omega)) ?_
  ·simp only [push_cast, seval, ↓reduceIte, Za, hN0, hN]
  refine Fit2.trans (E' := (⟨53, [], [(3, .row (n + 2) 0), (1, .ref n 0), (2, .ref (n + 1) 0), (3, .val (.slice none 0 0)), (4, .val (.int .i64 0)), (5, .val (.int .i64 0))]⟩ : Env)) (O' := (Z4 O n [some ⟨false, 58, 3, 1, (Zp a0)⟩, some ⟨false, 58, 3, 1, [.val (.int .i64 0), .val (.slice none 0 0), .val (.slice none 0 0)]⟩, some ⟨true, 58, 3, 0, []⟩])) (n' := (n + 3)) ?_ ?_
  ·have ha := Zpk (ba := n) (E := (⟨53, [], [(1, .ref n 0), (2, .ref (n + 1) 0), (3, .val (.slice none 0 0)), (4, .val (.int .i64 0)), (5, .val (.int .i64 0))]⟩ : Env)) (O := (Z4 O n [some ⟨false, 58, 3, 1, [.val (.int .i64 a0.Kind), .sl a0.Words.length (fl (eI .u64) a0.Words), .sl a0.Kids.length (fl Zj a0.Kids)]⟩, some ⟨false, 58, 3, 1, [.val (.int .i64 0), .val (.slice none 0 0), .val (.slice none 0 0)]⟩])) (n := (n + 2)) 3 58 3 rfl (by omega)
   simp only [Um, Vk, Gx, Gc, List.set_cons_zero, List.set_cons_succ, List.cons_append, List.nil_append, List.length_cons, List.length_nil, Nat.zero_add, Nat.reduceAdd, Nat.reduceLT, Nat.add_assoc] at ha
   exact ha
  refine Fit2.trans (E' := (⟨53, [], [(1, .ref n 0), (2, .ref (n + 1) 0), (3, .row (n + 2) ([] : List S_api_Tree).length), (4, .val (.int .i64 0)), (5, .val (.int .i64 0))]⟩ : Env)) (O' := (Z4 O n [some ⟨false, 58, 3, 1, (Zp a0)⟩, some ⟨false, 58, 3, 1, [.val (.int .i64 0), .val (.slice none 0 0), .val (.slice none 0 0)]⟩, some ⟨true, 58, 3, ([] : List S_api_Tree).length, fl Zj ([] : List S_api_Tree)⟩])) (n' := (n + 3)) (Fit2.of (Zu hU rfl rfl ?_) (by omega)) ?_
  ·simp only [push_cast, seval, ↓reduceIte, Za, hN0, hN]
  refine Zfe (k := 3) (k' := 4) hU [0, 1, 2] [0, 1, 2, 0] rfl rfl rfl rfl ⟨rfl, rfl⟩ ?_
  simp only [push_cast, seval, ↓reduceIte, Za, hN0, hN]
 obtain ⟨z10, hz10, h⟩ := bC h
 refine Qr (E' := ⟨53, [], [(1, .ref n 0), (2, .ref (n + 1) 0), (3, .row (n + 2) z10.2.length), (4, .val (.int .i64 z10.1))]⟩) (O' := (Z4 O n [some ⟨false, 58, 3, 1, (Zp a0)⟩, some ⟨false, 58, 3, 1, [.val (.int .i64 0), .val (.slice none 0 0), .val (.slice none 0 0)]⟩, some ⟨true, 58, 3, z10.2.length, fl Zj z10.2⟩, none])) (n0 := (n + 4)) ?_ ?_
 ·refine Kc hz10 (fun s0_ => ⟨53, [], [(1, .ref n 0), (2, .ref (n + 1) 0), (3, .row (n + 2) s0_.2.2.length), (4, .val (.int .i64 s0_.1)), (5, .val (.int .i64 s0_.2.1))]⟩) (fun s0_ => (Z4 O n [some ⟨false, 58, 3, 1, (Zp a0)⟩, some ⟨false, 58, 3, 1, [.val (.int .i64 0), .val (.slice none 0 0), .val (.slice none 0 0)]⟩, some ⟨true, 58, 3, s0_.2.2.length, fl Zj s0_.2.2⟩, none])) (fun z10 => JX 0 n (⟨53, [], [(1, .ref n 0), (2, .ref (n + 1) 0), (3, .row (n + 2) z10.2.length), (4, .val (.int .i64 z10.1))]⟩ : Env) (Z4 O n [some ⟨false, 58, 3, 1, (Zp a0)⟩, some ⟨false, 58, 3, 1, [.val (.int .i64 0), .val (.slice none 0 0), .val (.slice none 0 0)]⟩, some ⟨true, 58, 3, z10.2.length, fl Zj z10.2⟩, none]) (n + 4)) ?_
  intro s0_ x0_ hs0_
  unfold Xn at hs0_
  try dsimp only
  refine Zh ?_
  refine Zq [1, 2, 3, 4, 5, 16] (Zb Zc [] ?_)
  simp only [push_cast, seval, ↓reduceIte, Za, hN0, hN]
  refine Zt (t := (decide (s0_.2.1 < (a0.Kids.length : Int)))) rfl (fun c9 => ?_) (fun c9 => ?_)
  ·replace hs0_ := Zy c9 hs0_
   refine Zz ?_
   try simp only [Zi, Zf]
   refine Zg [1, 2, 3, 4, 5] [true, true, true, false] ?_
   simp only [push_cast, seval, ↓reduceIte]
   obtain ⟨z1, hz1, hs0_⟩ := bC hs0_
   refine Xw (E' := ⟨53, [], [(1, .ref n 0), (2, .ref (n + 1) 0), (3, .row (n + 2) z1.2.length), (4, .val (.int .i64 z1.1)), (5, .val (.int .i64 s0_.2.1))]⟩) (O' := (Z4 O n [some ⟨false, 58, 3, 1, (Zp a0)⟩, some ⟨false, 58, 3, 1, [.val (.int .i64 0), .val (.slice none 0 0), .val (.slice none 0 0)]⟩, some ⟨true, 58, 3, z1.2.length, fl Zj z1.2⟩, none, none, none])) (n0 := (n + 6)) ?_ ?_
   ·refine Y5 ?_
    refine Zh ?_
    obtain ⟨x4, hx4, ax4, bx4, cx4, hz1⟩ := bE (f := Zj) Zfz (fun _ => rfl) (by decide) hz1
    obtain ⟨y5, hy5, hz1⟩ := bC hz1
    refine Zb Zc [] ?_
    simp only [push_cast, Nat.reduceAdd, Nat.reduceSub, Nat.reduceMul, Nat.reduceLeDiff, Nat.reduceLT, Nat.reduceEqDiff, ↓reduceIte, reduceCtorEq, Int.reduceBEq, Int.reduceBNe, Nat.reduceBEq, Int.reduceLE, Int.reduceLT, Int.reduceEq, Int.reduceNe, Int.reduceNeg, Nat.reduceDiv, Nat.reduceMod, Nat.reducePow, Za, ax4, bx4, cx4, hN0, hN]
    refine (Zgj hy5).then ?_
    simp only [push_cast, Nat.reduceAdd, Nat.reduceSub, Nat.reduceMul, Nat.reduceLeDiff, Nat.reduceLT, Nat.reduceEqDiff, ↓reduceIte, reduceCtorEq, Int.reduceBEq, Int.reduceBNe, Nat.reduceBEq, Int.reduceLE, Int.reduceLT, Int.reduceEq, Int.reduceNe, Int.reduceNeg, Nat.reduceDiv, Nat.reduceMod, Nat.reducePow, Za, ax4, bx4, cx4, hN0, hN]
    refine Zg [1, 2, 3, 4, 5, 6] [true, true, true, false, true] ?_
    simp only [push_cast, seval, ↓reduceIte]
    refine Zh ?_
    obtain ⟨l7, pl7, ql7, el7, hz1⟩ := bA (k := 1) rfl hz1
    refine Zb Zc [] ?_
    simp only [push_cast, seval, ↓reduceIte, Za, pl7, ql7, el7, hN0, hN]
    refine Zfs ⟨53, [], [(1, .ref n 0), (2, .ref (n + 1) 0), (3, .row (n + 2) l7.length), (4, .val (.int .i64 s0_.1)), (5, .val (.int .i64 s0_.2.1)), (6, .ref (n + 4) 0)]⟩ (Z4 O n [some ⟨false, 58, 3, 1, (Zp a0)⟩, some ⟨false, 58, 3, 1, [.val (.int .i64 0), .val (.slice none 0 0), .val (.slice none 0 0)]⟩, some ⟨true, 58, 3, l7.length, fl Zj l7⟩, none, some ⟨false, 58, 3, 1, (Zp y5)⟩, none]) (Zu hU rfl rfl ?_) ?_
    ·simp only [push_cast, seval, ↓reduceIte, Za, pl7, ql7, el7, hN0, hN]
    refine Zq [1, 2, 3, 4, 5, 31] (Zb Zc [] ?_)
    simp only [push_cast, seval, ↓reduceIte, Za, hN0, hN]
    refine Zt (t := (y5.Kind != 0)) rfl (fun c8 => ?_) (fun c8 => ?_)
    ·replace hz1 := Zy c8 hz1
     refine Zb Zc [] ?_
     simp only [push_cast, seval, ↓reduceIte, Za, hN0, hN]
     have hz1 := Option.some.inj hz1; subst hz1
     refine And.intro rfl (Fit2.of (Zu hU rfl rfl ?_) (by omega))
     simp only [push_cast, seval, ↓reduceIte, Za, hN0, hN]
    replace hz1 := Zx c8 hz1
    refine Zz ?_
    try simp only [Zi, Zf]
    have hz1 := Option.some.inj hz1; subst hz1
    refine And.intro rfl (Fit2.of (Zu hU rfl rfl ?_) (by omega))
    simp only [push_cast, seval, ↓reduceIte, Za, hN0, hN]
   refine Zb Zc [] ?_
   simp only [push_cast, seval, ↓reduceIte, Za, hN0, hN]
   have hs0_ := Option.some.inj hs0_; subst hs0_
   refine And.intro rfl (Fit2.of (Zu hU rfl rfl ?_) (by omega))
   simp only [push_cast, seval, ↓reduceIte, Za, hN0, hN]
  replace hs0_ := Zx c9 hs0_
  refine Uf ?_
  try simp only [Zi, Zf, ↓reduceIte, Nat.reduceEqDiff]
  have hs0_ := Option.some.inj hs0_; subst hs0_
  refine And.intro (fun h => by cases h) (And.intro rfl (Fit2.of (Zu hU rfl rfl ?_) (by omega)))
  simp only [push_cast, seval, ↓reduceIte, Za, hN0, hN]
 try simp only [Zi, Zf, ↓reduceIte, Nat.reduceEqDiff]
 refine Zg [1, 2, 3, 4] [true, true, true, false] ?_
 simp only [push_cast, seval, ↓reduceIte]
 refine Zh ?_
 refine Zq [1, 2, 3, 4, 36] (Zb Zc [] ?_)
 simp only [push_cast, seval, ↓reduceIte, Za, hN0, hN]
 refine Zt (t := (a0.Kind == 1)) rfl (fun c18 => ?_) (fun c18 => ?_)
 ·replace h := Zy c18 h
  refine Zfs ⟨53, [], [(1, .ref n 0), (2, .ref (n + 1) 0), (3, .sl z10.2.length (fl Zj z10.2)), (4, .val (.int .i64 z10.1))]⟩ (Z4 O n [some ⟨false, 58, 3, 1, (Zp a0)⟩, some ⟨false, 58, 3, 1, [.val (.int .i64 0), .val (.slice none 0 0), .val (.slice none 0 0)]⟩, none, none]) (Zu hU rfl rfl ?_) ?_
  ·simp only [push_cast, seval, ↓reduceIte, Za, hN0, hN]
  refine Zh ?_
  obtain ⟨y14, hy14, h⟩ := bC h
  obtain ⟨l15, al15, bl15, cl15, gl15, h⟩ := bS (lo := none) (hi := (some (.i64, z10.1))) (f := Zj) rfl rfl Zhn Zfz (fun _ => rfl) h
  refine Zcx Zc (by kernel_rfl) [false, false, false, false, false, false, false, true] [] (by kernel_rfl) ?_
  simp only [push_cast, seval, ↓reduceIte, Za, al15, bl15, cl15, gl15, hN0, hN]
  refine PCall.of (Zif hy14) ?_
  simp only [push_cast, seval, ↓reduceIte, Za, al15, bl15, cl15, gl15, hN0, hN]
  refine Zg [2] [false, true, false, false] ?_
  simp only [push_cast, seval, ↓reduceIte]
  refine Zw ?_
  try simp only [Zi, Zf]
  have h := Option.some.inj h; subst h
  refine Zl (.inr rfl) hU [.agg [.val (.int .i64 1), .sl y14.length (fl (eI .u64) y14), .sl l15.length (fl Zj l15)]] (by omega) ?_
  simp only [push_cast, seval, ↓reduceIte, Za, Try.results41, hN0, hN]
 replace h := Zx c18 h
 refine Zz ?_
 try simp only [Zi, Zf]
 refine Zg [1, 2, 3] [true, true, true, false] ?_
 simp only [push_cast, seval, ↓reduceIte]
 refine Zq [1, 2, 3, 7] (Zb Zc [] ?_)
 simp only [push_cast, seval, ↓reduceIte, Za, hN0, hN]
 refine Zh ?_
 obtain ⟨l17, pl17, ql17, el17, h⟩ := bA0 (k := a0.Words.length) rfl h
 refine Zb Zc [] ?_
 simp only [push_cast, seval, ↓reduceIte, Za, pl17, ql17, el17, hN0, hN]
 refine Zfs ⟨53, [], [(1, .ref n 0), (2, .ref (n + 1) 0), (3, .row (n + 2) z10.2.length), (7, .row (n + 4) l17.length)]⟩ (Z4 O n [some ⟨false, 58, 3, 1, (Zp a0)⟩, some ⟨false, 58, 3, 1, [.val (.int .i64 0), .val (.slice none 0 0), .val (.slice none 0 0)]⟩, some ⟨true, 58, 3, z10.2.length, fl Zj z10.2⟩, none, some ⟨true, 31, 1, l17.length, fl (eI .u64) l17⟩]) (Zu hU rfl rfl ?_) ?_
 ·simp only [push_cast, seval, ↓reduceIte, Za, pl17, ql17, el17, hN0, hN]
 refine Zh ?_
 refine Zb Zc [] ?_
 simp only [push_cast, seval, ↓reduceIte, Za, hN0, hN]
 refine Zg [2] [false, true, true, false, true] ?_
 simp only [push_cast, seval, ↓reduceIte]
 refine Zw ?_
 try simp only [Zi, Zf]
 have h := Option.some.inj h; subst h
 refine Zl (.inr rfl) hU [.agg [.val (.int .i64 a0.Kind), .row (n + 4) l17.length, .row (n + 2) z10.2.length]] (by omega) ?_
 simp only [push_cast, seval, ↓reduceIte, Za, Try.results41, hN0, hN]
theorem Zf3 : ∀ k, (∀ {a0 : S_api_Tree} {r : S_api_Tree} {O : Objs} {n : Nat}, (Y1 k) a0 = some r → GTo Try.prog 41 [.agg (Zp a0)] O n (.agg (Zp r)) O n) := fun k => by
 induction k with
 | zero => exact @fun a0 r O n h => (nomatch (show (none : Option _) = some _ from h))
 | succ k ih => exact @fun a0 r O n h => Zhy (ih)  h
theorem Gp {a0 : S_api_Tree} {r : S_api_Tree} {O : Objs} {n : Nat} (h : Zag a0 = some r) : GTo Try.prog 41 [.agg (Zp a0)] O n (.agg (Zp r)) O n := by
 obtain ⟨k, hk⟩ := Zd2 h
 exact (Zf3 k)  hk
theorem Zie {a0 : (List Int)} {a1 : (List Int)} {r : Bool} {O : Objs} {n : Nat} (h : Ku a0 a1 = some r) : GTo Try.prog 61 [.sl a0.length (fl (eI .u64) a0), .sl a1.length (fl (eI .u64) a1)] O n (.val (.bool r)) O n := by
 unfold Ku at h
 refine Yr Zc Try.call61 Try.func61 rfl (Nat.le_of_ble_eq_true rfl) (Nat.le_refl _) fun hU => ?_
 have hN0 : O n = none := hU.fresh _ (Nat.le_refl _)
 have hN : ∀ k, O (n + k) = none := fun k => hU.fresh _ (Nat.le_add_right _ _)
 show W _ _ _ _ ⟨26, [], [(0, .sl a0.length (fl (eI .u64) a0)), (1, .sl a1.length (fl (eI .u64) a1))]⟩ (Z4 O n []) _
 refine Zq [0, 1] (Zb Zc [] ?_)
 simp only [push_cast, seval, ↓reduceIte, Za, hN0, hN]
 refine Zh ?_
 refine Zq [0, 1, 10] (Zb Zc [] ?_)
 simp only [push_cast, seval, ↓reduceIte, Za, hN0, hN]
 refine Zt (t := ((a0.length : Int) != (a1.length : Int))) rfl (fun c8 => ?_) (fun c8 => ?_)
 ·replace h := Zy c8 h
  refine Zq [4] (Zb Zc [] ?_)
  simp only [push_cast, seval, ↓reduceIte, Za, hN0, hN]
  refine Zw ?_
  try simp only [Zi, Zf]
  have h := Option.some.inj h; subst h
  refine Zl (.inr rfl) hU [.val (.bool false)] (by omega) ?_
  simp only [push_cast, seval, ↓reduceIte, Za, Try.results61, hN0, hN]
 replace h := Zx c8 h
 refine Zz ?_
 try simp only [Zi, Zf]
 refine Zg [0, 1] [] ?_
 simp only [push_cast, seval, ↓reduceIte]
 refine Zh ?_
 refine Zq [0, 1, 5] (Zb Zc [] ?_)
 simp only [push_cast, seval, ↓reduceIte, Za, hN0, hN]
 refine Zg [0, 1, 5] [] ?_
 simp only [push_cast, seval, ↓reduceIte]
 obtain ⟨z7, hz7, h⟩ := bC h
 refine Zh6 (J := (Uz (fun z7 => JR n (⟨26, [], [(4, .val (.bool false))]⟩ : Env) (Z4 O n []) n) (fun z7 => JX 0 n (⟨26, [], []⟩ : Env) (Z4 O n []) n))) (z := z7) ?_ fun hw => ?_
 ·refine Kc hz7 (fun s0_ => ⟨26, [], [(0, .sl a0.length (fl (eI .u64) a0)), (1, .sl a1.length (fl (eI .u64) a1)), (5, .val (.int .i64 s0_))]⟩) (fun s0_ => (Z4 O n [])) (Uz (fun z7 => JR n (⟨26, [], [(4, .val (.bool false))]⟩ : Env) (Z4 O n []) n) (fun z7 => JX 0 n (⟨26, [], []⟩ : Env) (Z4 O n []) n)) ?_
  intro s0_ x0_ hs0_
  unfold Q7 at hs0_
  try dsimp only
  refine Zh ?_
  refine Zq [0, 1, 5, 14] (Zb Zc [] ?_)
  simp only [push_cast, seval, ↓reduceIte, Za, hN0, hN]
  refine Zt (t := (decide (s0_ < (a0.length : Int)))) rfl (fun c6 => ?_) (fun c6 => ?_)
  ·replace hs0_ := Zy c6 hs0_
   refine Zz ?_
   try simp only [Zi, Zf]
   refine Zg [0, 1, 5] [] ?_
   simp only [push_cast, seval, ↓reduceIte]
   refine Zh ?_
   refine Y5 ?_
   obtain ⟨x3, hx3, ax3, bx3, cx3, hs0_⟩ := bE (f := (eI .u64)) Ux (fun _ => rfl) (by decide) hs0_
   obtain ⟨x4, hx4, ax4, bx4, cx4, hs0_⟩ := bE (f := (eI .u64)) Ux (fun _ => rfl) (by decide) hs0_
   refine Zq [0, 1, 5, 25] (Qw Zc (by kernel_rfl) [] (by kernel_rfl) ?_)
   simp only [push_cast, Nat.reduceAdd, Nat.reduceSub, Nat.reduceMul, Nat.reduceLeDiff, Nat.reduceLT, Nat.reduceEqDiff, ↓reduceIte, reduceCtorEq, Int.reduceBEq, Int.reduceBNe, Nat.reduceBEq, Int.reduceLE, Int.reduceLT, Int.reduceEq, Int.reduceNe, Int.reduceNeg, Nat.reduceDiv, Nat.reduceMod, Nat.reducePow, Za, ax3, bx3, cx3, ax4, bx4, cx4, hN0, hN]
   refine Zt (t := (x3 != x4)) rfl (fun c5 => ?_) (fun c5 => ?_)
   ·replace hs0_ := Zy c5 hs0_
    refine Zq [4] (Zb Zc [] ?_)
    simp only [push_cast, seval, ↓reduceIte, Za, hN0, hN]
    refine Zw ?_
    try simp only [Zi, Zf]
    have hs0_ := Option.some.inj hs0_; subst hs0_
    refine And.intro (fun h => by cases h) (And.intro rfl (Fit2.of (Zu hU rfl rfl ?_) (by omega)))
    simp only [push_cast, seval, ↓reduceIte, Za, hN0, hN]
   replace hs0_ := Zx c5 hs0_
   refine Zz ?_
   try simp only [Zi, Zf]
   refine Zg [0, 1, 5] [] ?_
   simp only [push_cast, seval, ↓reduceIte]
   refine Zb Zc [] ?_
   simp only [push_cast, seval, ↓reduceIte, Za, hN0, hN]
   have hs0_ := Option.some.inj hs0_; subst hs0_
   refine And.intro rfl (Fit2.of (Zu hU rfl rfl ?_) (by omega))
   simp only [push_cast, seval, ↓reduceIte, Za, hN0, hN]
  replace hs0_ := Zx c6 hs0_
  refine Uf ?_
  try simp only [Zi, Zf, ↓reduceIte, Nat.reduceEqDiff]
  have hs0_ := Option.some.inj hs0_; subst hs0_
  refine And.intro (fun h => by cases h) (And.intro rfl (Fit2.of (Zu hU rfl rfl ?_) (by omega)))
  simp only [push_cast, seval, ↓reduceIte, Za, hN0, hN]
 rcases z7 with z7 | z7
 ·dsimp only [Uz] at hw h
  refine Zca hw ?_
  try simp only [Zi, Zf, ↓reduceIte, Nat.reduceEqDiff]
  have h := Option.some.inj h; subst h
  refine Zl (.inr rfl) hU [.val (.bool false)] (by omega) ?_
  simp only [push_cast, seval, ↓reduceIte, Za, Try.results61, hN0, hN]
 dsimp only [Uz] at hw h
 refine Qr hw ?_
 try simp only [Zi, Zf, ↓reduceIte, Nat.reduceEqDiff]
 refine Zg [] [] ?_
 simp only [push_cast, seval, ↓reduceIte]
 refine Zq [4] (Zb Zc [] ?_)
 simp only [push_cast, seval, ↓reduceIte, Za, hN0, hN]
 refine Zw ?_
 try simp only [Zi, Zf]
 have h := Option.some.inj h; subst h
 refine Zl (.inr rfl) hU [.val (.bool true)] (by omega) ?_
 simp only [push_cast, seval, ↓reduceIte, Za, Try.results61, hN0, hN]
theorem Zhz {Jh : (S_api_Tree → S_api_Tree → Option Bool)} (Zgk : ∀ {a0 : S_api_Tree} {a1 : S_api_Tree} {r : Bool} {O : Objs} {n : Nat}, Jh a0 a1 = some r → GTo Try.prog 40 [.agg (Zp a0), .agg (Zp a1)] O n (.val (.bool r)) O n) {a0 : S_api_Tree} {a1 : S_api_Tree} {r : Bool} {O : Objs} {n : Nat} (h : Ks Jh a0 a1 = some r) : GTo Try.prog 40 [.agg (Zp a0), .agg (Zp a1)] O n (.val (.bool r)) O n := by
 unfold Ks at h
 refine Yr Zc Try.call40 Try.func40 rfl (Nat.le_of_ble_eq_true rfl) (Nat.le_refl _) fun hU => ?_
 have hN0 : O n = none := hU.fresh _ (Nat.le_refl _)
 have hN : ∀ k, O (n + k) = none := fun k => hU.fresh _ (Nat.le_add_right _ _)
 show W _ _ _ _ ⟨47, [], [(0, .agg (Zp a0)), (1, .agg (Zp a1))]⟩ (Z4 O n []) _
 refine Zq [2, 3] (Zb Zc [] ?_)
 simp only [push_cast, seval, ↓reduceIte, Za, hN0, hN]
 refine Zh ?_
 obtain ⟨z2, hz2, h⟩ := bC h
 refine Xw (E' := ⟨47, [], [(2, .ref n 0), (3, .ref (n + 1) 0), (27, .val (.bool z2))]⟩) (O' := (Z4 O n [some ⟨false, 58, 3, 1, (Zp a0)⟩, some ⟨false, 58, 3, 1, (Zp a1)⟩])) (n0 := (n + 2)) ?_ ?_
 ·rcases Bool.eq_false_or_eq_true (a0.Kind != a1.Kind) with c5 | c5
  ·replace hz2 := Zy c5 hz2
   refine Zb Zc [some false, some false, some false, some false, some false, some false, some false, some false, some false, some false, some false, some false, some false] ?_
   simp only [push_cast, seval, ↓reduceIte, Za, c5, hN0, hN]
   have hz2 := Option.some.inj hz2; subst hz2
   refine And.intro rfl (Fit2.of (Zu hU rfl rfl ?_) (by omega))
   simp only [push_cast, seval, ↓reduceIte, Za, c5, hN0, hN]
  replace hz2 := Zx c5 hz2
  obtain ⟨y4, hy4, hz2⟩ := bC hz2
  refine Zb Zc [some true, some true, some true, some true, some true, some true, none, none, none, none, none, none, none] ?_
  simp only [push_cast, seval, ↓reduceIte, Za, c5, hN0, hN]
  repeat (with_reducible refine And.intro (by first | (intro h0; simp only [h0, and_self]; done) | (intro h0; simp only [h0, Bool.not_false, Bool.not_true, Bool.true_and, Bool.and_true, true_and, and_true, and_self, imp_self, implies_true, bne_iff_ne, ne_eq, beq_iff_eq]; done) | (intros; simp_all; done) | exact True.intro) ?_)
  refine (Zie hy4).then ?_
  simp only [push_cast, seval, ↓reduceIte, Za, c5, hN0, hN]
  repeat (with_reducible refine And.intro (by first | (intro h0; simp only [h0, and_self]; done) | (intro h0; simp only [h0, Bool.not_false, Bool.not_true, Bool.true_and, Bool.and_true, true_and, and_true, and_self, imp_self, implies_true, bne_iff_ne, ne_eq, beq_iff_eq]; done) | (intros; simp_all; done) | exact True.intro) ?_)
  have hz2 := Option.some.inj hz2; subst hz2
  refine And.intro rfl (Fit2.of (Zu hU rfl rfl ?_) (by omega))
  simp only [push_cast, seval, ↓reduceIte, Za, c5, hN0, hN]
 refine Zt (t := z2) rfl (fun c15 => ?_) (fun c15 => ?_)
 ·replace h := Zy c15 h
  refine Zq [4] (Zb Zc [] ?_)
  simp only [push_cast, seval, ↓reduceIte, Za, hN0, hN]
  refine Zw ?_
  try simp only [Zi, Zf]
  have h := Option.some.inj h; subst h
  refine Zl (.inr rfl) hU [.val (.bool false)] (by omega) ?_
  simp only [push_cast, seval, ↓reduceIte, Za, Try.results40, hN0, hN]
 replace h := Zx c15 h
 refine Zz ?_
 try simp only [Zi, Zf]
 refine Zg [2, 3] [true, true] ?_
 simp only [push_cast, seval, ↓reduceIte]
 refine Zh ?_
 refine Zq [2, 3, 5] (Zb Zc [] ?_)
 simp only [push_cast, seval, ↓reduceIte, Za, hN0, hN]
 refine Zg [2, 3, 5] [true, true] ?_
 simp only [push_cast, seval, ↓reduceIte]
 obtain ⟨z14, hz14, h⟩ := bC h
 refine Zh6 (J := (Uz (fun z14 => JR n (⟨47, [], [(4, .val (.bool false))]⟩ : Env) (Z4 O n [none, none]) (n + 2)) (fun z14 => JX 0 n (⟨47, [], []⟩ : Env) (Z4 O n [none, none]) (n + 2)))) (z := z14) ?_ fun hw => ?_
 ·refine Kc hz14 (fun s0_ => ⟨47, [], [(2, .ref n 0), (3, .ref (n + 1) 0), (5, .val (.int .i64 s0_))]⟩) (fun s0_ => (Z4 O n [some ⟨false, 58, 3, 1, (Zp a0)⟩, some ⟨false, 58, 3, 1, (Zp a1)⟩])) (Uz (fun z14 => JR n (⟨47, [], [(4, .val (.bool false))]⟩ : Env) (Z4 O n [none, none]) (n + 2)) (fun z14 => JX 0 n (⟨47, [], []⟩ : Env) (Z4 O n [none, none]) (n + 2))) ?_
  intro s0_ x0_ hs0_
  unfold Q3 at hs0_
  try dsimp only
  refine Zh ?_
  refine Zq [2, 3, 5, 32] (Zb Zc [] ?_)
  simp only [push_cast, seval, ↓reduceIte, Za, hN0, hN]
  refine Zt (t := (decide (s0_ < (a0.Kids.length : Int)))) rfl (fun c13 => ?_) (fun c13 => ?_)
  ·replace hs0_ := Zy c13 hs0_
   refine Zz ?_
   try simp only [Zi, Zf]
   refine Zg [2, 3, 5] [true, true] ?_
   simp only [push_cast, seval, ↓reduceIte]
   refine Zh ?_
   refine Y5 ?_
   refine Zh ?_
   obtain ⟨x9, hx9, ax9, bx9, cx9, hs0_⟩ := bE (f := Zj) Zfz (fun _ => rfl) (by decide) hs0_
   obtain ⟨x10, hx10, ax10, bx10, cx10, hs0_⟩ := bE (f := Zj) Zfz (fun _ => rfl) (by decide) hs0_
   obtain ⟨y11, hy11, hs0_⟩ := bC hs0_
   refine Qw Zc (by kernel_rfl) [] (by kernel_rfl) ?_
   simp only [push_cast, Nat.reduceAdd, Nat.reduceSub, Nat.reduceMul, Nat.reduceLeDiff, Nat.reduceLT, Nat.reduceEqDiff, ↓reduceIte, reduceCtorEq, Int.reduceBEq, Int.reduceBNe, Nat.reduceBEq, Int.reduceLE, Int.reduceLT, Int.reduceEq, Int.reduceNe, Int.reduceNeg, Nat.reduceDiv, Nat.reduceMod, Nat.reducePow, Za, ax9, bx9, cx9, ax10, bx10, cx10, hN0, hN]
   refine PCall.of (Zgk hy11) ?_
   simp only [push_cast, Nat.reduceAdd, Nat.reduceSub, Nat.reduceMul, Nat.reduceLeDiff, Nat.reduceLT, Nat.reduceEqDiff, ↓reduceIte, reduceCtorEq, Int.reduceBEq, Int.reduceBNe, Nat.reduceBEq, Int.reduceLE, Int.reduceLT, Int.reduceEq, Int.reduceNe, Int.reduceNeg, Nat.reduceDiv, Nat.reduceMod, Nat.reducePow, Za, ax9, bx9, cx9, ax10, bx10, cx10, hN0, hN]
   refine Zg [2, 3, 5, 46] [true, true] ?_
   simp only [push_cast, seval, ↓reduceIte]
   refine Zt (t := (!y11)) rfl (fun c12 => ?_) (fun c12 => ?_)
   ·replace hs0_ := Zy c12 hs0_
    refine Zq [4] (Zb Zc [] ?_)
    simp only [push_cast, seval, ↓reduceIte, Za, hN0, hN]
    refine Zw ?_
    try simp only [Zi, Zf]
    have hs0_ := Option.some.inj hs0_; subst hs0_
    refine And.intro (fun h => by cases h) (And.intro rfl (Fit2.of (Zu hU rfl rfl ?_) (by omega)))
    simp only [push_cast, seval, ↓reduceIte, Za, hN0, hN]
   replace hs0_ := Zx c12 hs0_
   refine Zz ?_
   try simp only [Zi, Zf]
   refine Zg [2, 3, 5] [true, true] ?_
   simp only [push_cast, seval, ↓reduceIte]
   refine Zb Zc [] ?_
   simp only [push_cast, seval, ↓reduceIte, Za, hN0, hN]
   have hs0_ := Option.some.inj hs0_; subst hs0_
   refine And.intro rfl (Fit2.of (Zu hU rfl rfl ?_) (by omega))
   simp only [push_cast, seval, ↓reduceIte, Za, hN0, hN]
  replace hs0_ := Zx c13 hs0_
  refine Uf ?_
  try simp only [Zi, Zf, ↓reduceIte, Nat.reduceEqDiff]
  have hs0_ := Option.some.inj hs0_; subst hs0_
  refine And.intro (fun h => by cases h) (And.intro rfl (Fit2.of (Zu hU rfl rfl ?_) (by omega)))
  simp only [push_cast, seval, ↓reduceIte, Za, hN0, hN]
 rcases z14 with z14 | z14
 ·dsimp only [Uz] at hw h
  refine Zca hw ?_
  try simp only [Zi, Zf, ↓reduceIte, Nat.reduceEqDiff]
  have h := Option.some.inj h; subst h
  refine Zl (.inr rfl) hU [.val (.bool false)] (by omega) ?_
  simp only [push_cast, seval, ↓reduceIte, Za, Try.results40, hN0, hN]
 dsimp only [Uz] at hw h
 refine Qr hw ?_
 try simp only [Zi, Zf, ↓reduceIte, Nat.reduceEqDiff]
 refine Zg [] [false, false] ?_
 simp only [push_cast, seval, ↓reduceIte]
 refine Zq [4] (Zb Zc [] ?_)
 simp only [push_cast, seval, ↓reduceIte, Za, hN0, hN]
 refine Zw ?_
 try simp only [Zi, Zf]
 have h := Option.some.inj h; subst h
 refine Zl (.inr rfl) hU [.val (.bool true)] (by omega) ?_
 simp only [push_cast, seval, ↓reduceIte, Za, Try.results40, hN0, hN]
theorem Zf4 : ∀ k, (∀ {a0 : S_api_Tree} {a1 : S_api_Tree} {r : Bool} {O : Objs} {n : Nat}, (X0 k) a0 a1 = some r → GTo Try.prog 40 [.agg (Zp a0), .agg (Zp a1)] O n (.val (.bool r)) O n) := fun k => by
 induction k with
 | zero => exact @fun a0 a1 r O n h => (nomatch (show (none : Option _) = some _ from h))
 | succ k ih => exact @fun a0 a1 r O n h => Zhz (ih)  h
theorem Gq {a0 : S_api_Tree} {a1 : S_api_Tree} {r : Bool} {O : Objs} {n : Nat} (h : Zah a0 a1 = some r) : GTo Try.prog 40 [.agg (Zp a0), .agg (Zp a1)] O n (.val (.bool r)) O n := by
 obtain ⟨k, hk⟩ := Zd2 h
 exact (Zf4 k)  hk
theorem Zht  {r : Bool} {O : Objs} {n : Nat} (h : J6 = some r) : GTo Try.prog 42 [] O n (.val (.bool r)) O n := by
 unfold J6 at h
 refine Yr Zc Try.call42 Try.func42 rfl (Nat.le_of_ble_eq_true rfl) (Nat.le_refl _) fun hU => ?_
 have hN0 : O n = none := hU.fresh _ (Nat.le_refl _)
 have hN : ∀ k, O (n + k) = none := fun k => hU.fresh _ (Nat.le_add_right _ _)
 show W _ _ _ _ ⟨28, [], []⟩ (Z4 O n []) _
 refine Zq [] (Zb Zc [] ?_)
 simp only [push_cast, seval, ↓reduceIte, Za, hN0, hN]
 refine Zh ?_
 obtain ⟨y3, hy3, h⟩ := bC h
 obtain ⟨y4, hy4, h⟩ := bC h
 refine Zb Zc [] ?_
 simp only [push_cast, seval, ↓reduceIte, Za, hN0, hN]
 refine GCalls.dropL (l' := [none, none]) hU rfl ?_ ((Zgf hy3).then ?_)
 ·simp only [push_cast, seval, ↓reduceIte, Za, hN0, hN]
 simp only [push_cast, seval, ↓reduceIte, Za, hN0, hN]
 refine (Zao hy4).then ?_
 simp only [push_cast, seval, ↓reduceIte, Za, hN0, hN]
 refine Zg [1, 2] [false, false, true] ?_
 simp only [push_cast, seval, ↓reduceIte]
 refine Zq [0] (Zb Zc [none, none, none, none, none, none, none, none, none, none, none] ?_)
 simp only [push_cast, seval, ↓reduceIte, Za, hN0, hN]
 repeat (with_reducible refine And.intro (by first | (intro h0; simp only [h0, and_self]; done) | (intro h0; simp only [h0, Bool.not_false, Bool.not_true, Bool.true_and, Bool.and_true, true_and, and_true, and_self, imp_self, implies_true, bne_iff_ne, ne_eq, beq_iff_eq]; done) | (intros; simp_all; done) | exact True.intro) ?_)
 refine Zw ?_
 try simp only [Zi, Zf]
 have h := Option.some.inj h; subst h
 refine Zl (.inr rfl) hU [.val (.bool (cond (cond (y4.2 == 0) (y4.1.Kind == 1) false) ((IntKind.i64.wrap ((y4.1.Words.length : Int) + (y4.1.Kids.length : Int))) == 0) false))] (by omega) ?_
 simp only [push_cast, seval, ↓reduceIte, Za, Try.results42, hN0, hN]
theorem Zcu {a0 : (List (List Int))} {a1 : Z0} {r : Bool} {O : Objs} {n : Nat} (h : Qy a0 a1 = some r) : GTo Try.prog 11 [.sl a0.length (fl (eL (eI .u64)) a0), .agg (Yj a1)] O n (.val (.bool r)) O n := by
 unfold Qy at h
 refine Yr Zc Try.call11 Try.func11 rfl (Nat.le_of_ble_eq_true rfl) (Nat.le_refl _) fun hU => ?_
 have hN0 : O n = none := hU.fresh _ (Nat.le_refl _)
 have hN : ∀ k, O (n + k) = none := fun k => hU.fresh _ (Nat.le_add_right _ _)
 show W _ _ _ _ ⟨38, [], [(0, .sl a0.length (fl (eL (eI .u64)) a0)), (1, .agg (Yj a1))]⟩ (Z4 O n []) _
 refine Zq [0, 3] (Zb Zc [] ?_)
 simp only [push_cast, seval, ↓reduceIte, Za, hN0, hN]
 refine Zh ?_
 obtain ⟨y2, hy2, h⟩ := bC h
 refine Zb Zc [] ?_
 simp only [push_cast, seval, ↓reduceIte, Za, hN0, hN]
 refine (Zhs hy2).then ?_
 simp only [push_cast, seval, ↓reduceIte, Za, hN0, hN]
 refine Zg [0, 3] [true] ?_
 simp only [push_cast, seval, ↓reduceIte]
 refine Zh ?_
 obtain ⟨y5, hy5, h⟩ := bC h
 obtain ⟨y6, hy6, h⟩ := bC h
 refine Zbx Zc (by kernel_rfl) [.low, .low, .low, .low, .low, .low, .low, .pass, .pass, .plain] (fun i => i < (n + 1)) [0, 1, 2, 3, 4, 5, 6, 7, 8, 9] [.low, .low, .low, .low, .low, .low, .low, .pass, .pass, .plain] [] (by kernel_rfl) rfl ?_
 simp only [push_cast, seval, ↓reduceIte, Za, hN0, hN]
 repeat (with_reducible refine And.intro (by first | omega | exact Xt rfl | exact Xa | exact Qs rfl | exact Jo rfl rfl) ?_)
 first | refine PCallA.of (fun _ _ => Zgf hy5) ?_ | refine PCall.of (Zgf hy5) ?_
 simp only [push_cast, seval, ↓reduceIte, Za, hN0, hN]
 repeat (with_reducible refine And.intro (by first | omega | exact Xt rfl | exact Xa | exact Qs rfl | exact Jo rfl rfl) ?_)
 first | refine PCallA.of (fun _ _ => Zao hy6) ?_ | refine PCall.of (Zao hy6) ?_
 simp only [push_cast, seval, ↓reduceIte, Za, hN0, hN]
 repeat (with_reducible refine And.intro (by first | omega | exact Xt rfl | exact Xa | exact Qs rfl | exact Jo rfl rfl) ?_)
 refine Zg [0, 3, 5, 6] [true, true] ?_
 simp only [push_cast, seval, ↓reduceIte]
 refine Zh ?_
 obtain ⟨y8, hy8, h⟩ := bC h
 refine Zb Zc [] ?_
 simp only [push_cast, seval, ↓reduceIte, Za, hN0, hN]
 refine (Zgi hy8).then ?_
 simp only [push_cast, seval, ↓reduceIte, Za, hN0, hN]
 refine Zg [5, 6, 7, 9] [false, true, true] ?_
 simp only [push_cast, seval, ↓reduceIte]
 obtain ⟨z12, hz12, h⟩ := bC h
 refine Xw (E' := ⟨38, [], [(4, .val (.bool z12))]⟩) (O' := (Z4 O n [none, none, none])) (n0 := (n + 3)) ?_ ?_
 ·obtain ⟨y16, hy16, hz12⟩ := bC hz12
  obtain ⟨y17, hy17, hz12⟩ := bC hz12
  rcases Bool.eq_false_or_eq_true y17 with c19 | c19
  ·replace hz12 := Zy c19 hz12
   rcases Bool.eq_false_or_eq_true (y6.2 == y8.2.2) with c20 | c20
   ·replace hz12 := Zy c20 hz12
    try rw [c20] at c19
    obtain ⟨y18, hy18, hz12⟩ := bC hz12
    refine Qw Zc (by kernel_rfl) [none, none, none, some true] (by kernel_rfl) ?_
    simp only [push_cast, seval, ↓reduceIte, Za, c19, c20, hN0, hN]
    repeat (with_reducible refine And.intro (by first | (intro h0; simp only [h0, and_self]; done) | (intro h0; simp only [h0, Bool.not_false, Bool.not_true, Bool.true_and, Bool.and_true, true_and, and_true, and_self, imp_self, implies_true, bne_iff_ne, ne_eq, beq_iff_eq]; done) | (intros; simp_all; done) | exact True.intro) ?_)
    refine PCall.of (Gp hy16) ?_
    simp only [push_cast, seval, ↓reduceIte, Za, c19, c20, hN0, hN]
    repeat (with_reducible refine And.intro (by first | (intro h0; simp only [h0, and_self]; done) | (intro h0; simp only [h0, Bool.not_false, Bool.not_true, Bool.true_and, Bool.and_true, true_and, and_true, and_self, imp_self, implies_true, bne_iff_ne, ne_eq, beq_iff_eq]; done) | (intros; simp_all; done) | exact True.intro) ?_)
    refine PCall.of (Gq hy17) ?_
    simp only [push_cast, seval, ↓reduceIte, Za, c19, c20, hN0, hN]
    repeat (with_reducible refine And.intro (by first | (intro h0; simp only [h0, and_self]; done) | (intro h0; simp only [h0, Bool.not_false, Bool.not_true, Bool.true_and, Bool.and_true, true_and, and_true, and_self, imp_self, implies_true, bne_iff_ne, ne_eq, beq_iff_eq]; done) | (intros; simp_all; done) | exact True.intro) ?_)
    refine PCall.of (Zht hy18) ?_
    simp only [push_cast, seval, ↓reduceIte, Za, c19, c20, hN0, hN]
    repeat (with_reducible refine And.intro (by first | (intro h0; simp only [h0, and_self]; done) | (intro h0; simp only [h0, Bool.not_false, Bool.not_true, Bool.true_and, Bool.and_true, true_and, and_true, and_self, imp_self, implies_true, bne_iff_ne, ne_eq, beq_iff_eq]; done) | (intros; simp_all; done) | exact True.intro) ?_)
    have hz12 := Option.some.inj hz12; subst hz12
    refine And.intro rfl (Fit2.of (Zu hU rfl rfl ?_) (by omega))
    simp only [push_cast, seval, ↓reduceIte, Za, c19, c20, hN0, hN]
   replace hz12 := Zx c20 hz12
   try rw [c20] at c19
   refine Qw Zc (by kernel_rfl) [none, none, none, some false] (by kernel_rfl) ?_
   simp only [push_cast, seval, ↓reduceIte, Za, c19, c20, hN0, hN]
   repeat (with_reducible refine And.intro (by first | (intro h0; simp only [h0, and_self]; done) | (intro h0; simp only [h0, Bool.not_false, Bool.not_true, Bool.true_and, Bool.and_true, true_and, and_true, and_self, imp_self, implies_true, bne_iff_ne, ne_eq, beq_iff_eq]; done) | (intros; simp_all; done) | exact True.intro) ?_)
   refine PCall.of (Gp hy16) ?_
   simp only [push_cast, seval, ↓reduceIte, Za, c19, c20, hN0, hN]
   repeat (with_reducible refine And.intro (by first | (intro h0; simp only [h0, and_self]; done) | (intro h0; simp only [h0, Bool.not_false, Bool.not_true, Bool.true_and, Bool.and_true, true_and, and_true, and_self, imp_self, implies_true, bne_iff_ne, ne_eq, beq_iff_eq]; done) | (intros; simp_all; done) | exact True.intro) ?_)
   refine PCall.of (Gq hy17) ?_
   simp only [push_cast, seval, ↓reduceIte, Za, c19, c20, hN0, hN]
   repeat (with_reducible refine And.intro (by first | (intro h0; simp only [h0, and_self]; done) | (intro h0; simp only [h0, Bool.not_false, Bool.not_true, Bool.true_and, Bool.and_true, true_and, and_true, and_self, imp_self, implies_true, bne_iff_ne, ne_eq, beq_iff_eq]; done) | (intros; simp_all; done) | exact True.intro) ?_)
   have hz12 := Option.some.inj hz12; subst hz12
   refine And.intro rfl (Fit2.of (Zu hU rfl rfl ?_) (by omega))
   simp only [push_cast, seval, ↓reduceIte, Za, c19, c20, hN0, hN]
  replace hz12 := Zx c19 hz12
  refine Qw Zc (by kernel_rfl) [none, none, none, some false] (by kernel_rfl) ?_
  simp only [push_cast, seval, ↓reduceIte, Za, c19, hN0, hN]
  repeat (with_reducible refine And.intro (by first | (intro h0; simp only [h0, and_self]; done) | (intro h0; simp only [h0, Bool.not_false, Bool.not_true, Bool.true_and, Bool.and_true, true_and, and_true, and_self, imp_self, implies_true, bne_iff_ne, ne_eq, beq_iff_eq]; done) | (intros; simp_all; done) | exact True.intro) ?_)
  refine PCall.of (Gp hy16) ?_
  simp only [push_cast, seval, ↓reduceIte, Za, c19, hN0, hN]
  repeat (with_reducible refine And.intro (by first | (intro h0; simp only [h0, and_self]; done) | (intro h0; simp only [h0, Bool.not_false, Bool.not_true, Bool.true_and, Bool.and_true, true_and, and_true, and_self, imp_self, implies_true, bne_iff_ne, ne_eq, beq_iff_eq]; done) | (intros; simp_all; done) | exact True.intro) ?_)
  refine PCall.of (Gq hy17) ?_
  simp only [push_cast, seval, ↓reduceIte, Za, c19, hN0, hN]
  repeat (with_reducible refine And.intro (by first | (intro h0; simp only [h0, and_self]; done) | (intro h0; simp only [h0, Bool.not_false, Bool.not_true, Bool.true_and, Bool.and_true, true_and, and_true, and_self, imp_self, implies_true, bne_iff_ne, ne_eq, beq_iff_eq]; done) | (intros; simp_all; done) | exact True.intro) ?_)
  have hz12 := Option.some.inj hz12; subst hz12
  refine And.intro rfl (Fit2.of (Zu hU rfl rfl ?_) (by omega))
  simp only [push_cast, seval, ↓reduceIte, Za, c19, hN0, hN]
 refine Zw ?_
 try simp only [Zi, Zf]
 have h := Option.some.inj h; subst h
 refine Zl (.inr rfl) hU [.val (.bool z12)] (by omega) ?_
 simp only [push_cast, seval, ↓reduceIte, Za, Try.results11, hN0, hN]
end Go.Proofs.Ytmlhokaflhlhbaa
