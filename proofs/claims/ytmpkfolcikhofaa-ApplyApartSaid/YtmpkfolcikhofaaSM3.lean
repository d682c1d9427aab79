/- Part SM3 of this seat's mirrors: functions of the seat's program, and the plain functions that they are; each theorem bears its own conditions. -/
import Derived.Test.YtmpkfolcikhofaaSE
import Derived.Test.YtmpkfolcikhofaaSM2
namespace Go.Proofs.Ytmpkfolcikhofaa
open Go.RowKit
set_option linter.unusedVariables false
set_option linter.unusedSimpArgs false
set_option maxRecDepth 100000
set_option maxHeartbeats 1000000
attribute [local push_cast] Zh Vi Ym Ze Q8 Zkx Zkw Zlf Zle Zk Zg Zhq Zdh Zdg onW Y7 Zaw Zae Zk1 Zj1 Zey evS wok X0 Op.operands Call.operands gop onK onP atK List.all_cons List.all_nil Bool.and_true Bool.true_and Bool.and_self Value.oneCell' List.take_zero List.take_succ_cons List.take_nil List.drop_zero List.drop_succ_cons List.drop_nil List.append_nil Nat.add_zero Nat.zero_add Vh Yb ev Qf Zj0 Zsv Zn4 Zn3 Zs0 Ze3 Zah Zep Zao Zfl Zcv K6 Zhr Zdi Uw Zeq Ux Zgf Ze2 Zpa bLo bHi bMx Zai Zge Zsw Ze1 Zg0 Zb3 Vt Zns Zs1 Zen Zs4 Zag Zuc Qe Zgh gone Zia Zdy Zdx pop TK.isAgg G.one G.under G.unders List.getD_cons_zero List.getD_cons_succ List.set_cons_zero List.set_cons_succ List.map_cons List.map_nil List.toList_toArray Array.toList_append Option.toArray_none Option.toArray_some Array.toList_map Option.map_some Option.map_none Option.bind_some Option.bind_none List.getElem?_cons_zero List.getElem?_cons_succ List.getElem?_nil List.nil_append List.cons_append List.replicate_succ List.replicate_zero List.length_cons List.length_nil and_true true_and and_false false_and Bool.true_eq_false Bool.false_eq_true forall_const false_implies implies_true IntKind.bits if_true if_false ite_true ite_false eq_self true_implies false_or or_false or_true true_or not_true_eq_false not_false_eq_true decide_true decide_false decide_eq_true_eq decide_eq_false_iff_not beq_iff_eq bne_iff_ne ne_eq Bool.not_eq_true Bool.not_eq_false beq_eq_false_iff_ne bne_eq_false_iff_eq beq_self_eq_true bne_self_eq_false Option.some.injEq exists_eq_left' exists_eq_left ge_iff_le gt_iff_lt decide_not Bool.not_true Bool.not_false imp_self Zpc cond_true cond_false Zzc Zzb Bool.not_not Bool.and_false Bool.false_and Bool.or_true Bool.true_or Bool.or_false Bool.false_or Zad Zgd Zc3 Zb5 Vn Q7 Option.join_some Nat.add_assoc Int.toNat_natCast eI eB eS eL Za7 Zc8 Zcd Zk0 Zky Zkz Zup Zwz Zdb Zcl Zlm Zlk Zll Zrq Zhp Zo4 Zif Zo3 Zbq Zm8 List.length_append G.agg.injEq G.row.injEq G.ref.injEq G.val.injEq G.sl.injEq G.tup.injEq Value.int.injEq Value.bool.injEq Value.string.injEq List.cons.injEq exists_and_left exists_const List.flatten_cons List.flatten_nil Int.le_refl Nat.le_refl Zam Xx K1 Bool.not_eq_true' Bool.not_eq_false' Zm0 Zga Zra Zrg Zq9 Zrf Zwc Zv8 List.size_toArray Zlp Zlq G.ren G.rens Zn9 Zcy Zls Zkr Zks Zih Zrh Zcx G.fn.injEq Zja Zjb Zmz Zv9 Zi9 Zrd Zwb Zwa Zrc Zpi Zuh Option.join_none Yp Kv undef Zg1 Arr.len Arr.put_eq Zda Zfv Zdt Zck Zlj Zlh Zli onB Zuo Znq Zig Zhd Zhe Zhf Zhg Zhh Zhi Zfs Zfz Zfx Zdw Zcm Zfy Zh9 Zh8 Zh7 Zh6 Zwy Zyr Zrp Zpv V0 Zrl Zk4 Zf0 Zdv Ztj Zlu Ze0 Zgz Zbi Zf1 Zhj Zhk Zhl Zhm Zfb Zfc Zfd Zfe Zff Zfg Zfh Zca prT Zc6 Z00 Zqw Zy1 Zqx Z01 Zqy Zrs Zqz Z02 Zq0 Z03 Zq1 Z04 Zq2 Z05 Zq3 Zu5 Zlz Zu6 Zl0 Zu7 Zl1 Zu8 Zl2 Zu9 Zl3 Zva Zl4 Zvb Zl5 Zvc Zl6 Zvd Zl7 Zve Zl8 Zvf Zl9 Zvg Zgv Zqu Zab Zvh Zma V4 Zmb Zvi Zmc Zvj Zmd Zvk Zme Zvl Zmf Zvm Zmg Zvn Zmh Zvo Zmi Zvp Zmj Zvq Zmk Zlx Zml Zvr Zmm Zly Zmn Zvs Zmo Zg5 Zmp Zbp Zmq Zvt Zmr Zvu Zms Zvv Zmt Zvw Zmu Zvx Zmv Zvy Zmw Zvz Zmx Zqv Zmy Zp6 Zij Zp7 Zik Zp8 Zil Zp9 Zim Zqa Zin Zqb Zio Zkh Zf7 Zqc Zip Zqd Ziq Zqe Zir Zqf Zis Zqg Zit Zqh Ziu Zqi Ziv Zqj Ziw Zqk Zix Zql Ziy Zqm Ziz Zqn Zi0 Zqo Zi1 Zqp Zi2 Zqq Zi3 Zqr Zi4 Zqs Zi5 Zqt Zi6 Zb Ya Zei Zeh Zdk Zdr Zek Zcs Zco Zcn Zee Us Ur Ui Um Ut V5 V2 V1 Up Zm Yz Zp Zt Yv Yj Y5 Z7 J4 J0 Jo Jt J6 Q5 Q3 Q1 Jx Kt Ks Kl Kq Ku Jz Jw Jv Kr Gw Gv Gj Gr Gy U7 U6 U5 Gu J5 J3 Jp Ju J7 Q6 Q4 Q2 Jy Zgb Zf9 Zfo Zfu Zgc Zef Zd7 Zd6 Zf8
theorem Zj9 {a0 : (List Int)} {r : (List Int)} {O : Objs} {n : Nat} (h : Vx a0 = some r) : GTo Try.prog 62 [.sl a0.length (fl (eI .u64) a0)] O n (.sl r.length (fl (eI .u64) r)) O n := by
 unfold Vx at h
 refine Xj Zd Try.call62 Try.func62 rfl (Nat.le_of_ble_eq_true rfl) (Nat.le_refl _) fun hU => ?_
 have hN0 : O n = none := hU.fresh _ (Nat.le_refl _)
 have hN : ∀ k, O (n + k) = none := fun k => hU.fresh _ (Nat.le_add_right _ _)
 show W _ _ _ _ ⟨24, [], [(0, .sl a0.length (fl (eI .u64) a0))]⟩ (Zy O n []) _
 refine Zr [0] (Zc Zd [] ?_)
 simp only [push_cast, seval, ↓reduceIte, Za, hN0, hN]
 refine Zr [0, 3] (Zc Zd [] ?_)
 simp only [push_cast, seval, ↓reduceIte, Za, hN0, hN]
 refine Zl ?_
 refine Zi [0, 3] [] ?_
 simp only [push_cast, seval, ↓reduceIte]
 obtain ⟨z7, hz7, h⟩ := bC h
 refine Yq (E' := ⟨24, [], [(0, .sl a0.length (fl (eI .u64) a0)), (3, .val (.int .i64 z7))]⟩) (O' := (Zy O n [])) (n0 := n) ?_ ?_
 ·refine Y6 hz7 (fun s0_ => ⟨24, [], [(0, .sl a0.length (fl (eI .u64) a0)), (3, .val (.int .i64 s0_))]⟩) (fun s0_ => (Zy O n [])) (fun z7 => JX 0 n (⟨24, [], [(0, .sl a0.length (fl (eI .u64) a0)), (3, .val (.int .i64 z7))]⟩ : Env) (Zy O n []) n) ?_
  intro s0_ x0_ hs0_
  unfold Jr at hs0_
  try dsimp only
  refine Zl ?_
  obtain ⟨z2, hz2, hs0_⟩ := bC hs0_
  refine Xg (E' := ⟨24, [], [(0, .sl a0.length (fl (eI .u64) a0)), (3, .val (.int .i64 s0_)), (16, .val (.bool z2))]⟩) (O' := (Zy O n [])) (n0 := n) ?_ ?_
  ·rcases Bool.eq_false_or_eq_true (decide (0 < s0_)) with c5 | c5
   ·replace hz2 := Zv c5 hz2
    obtain ⟨x4, hx4, ax4, bx4, cx4, hz2⟩ := bE (f := (eI .u64)) Zbp (fun _ => rfl) (by decide) hz2
    refine Zc Zd [some true, some true, some true, some true, some true, some true] ?_
    simp only [push_cast, Nat.reduceAdd, Nat.reduceSub, Nat.reduceMul, Nat.reduceLeDiff, Nat.reduceLT, Nat.reduceEqDiff, ↓reduceIte, reduceCtorEq, Int.reduceBEq, Int.reduceBNe, Nat.reduceBEq, Int.reduceLE, Int.reduceLT, Int.reduceEq, Int.reduceNe, Int.reduceNeg, Nat.reduceDiv, Nat.reduceMod, Nat.reducePow, Za, c5, ax4, bx4, cx4, hN0, hN]
    have hz2 := Option.some.inj hz2; subst hz2
    refine And.intro rfl (Fit2.of (Zj hU rfl rfl ?_) (by omega))
    simp only [push_cast, Nat.reduceAdd, Nat.reduceSub, Nat.reduceMul, Nat.reduceLeDiff, Nat.reduceLT, Nat.reduceEqDiff, ↓reduceIte, reduceCtorEq, Int.reduceBEq, Int.reduceBNe, Nat.reduceBEq, Int.reduceLE, Int.reduceLT, Int.reduceEq, Int.reduceNe, Int.reduceNeg, Nat.reduceDiv, Nat.reduceMod, Nat.reducePow, Za, c5, ax4, bx4, cx4, hN0, hN]
   replace hz2 := Zu c5 hz2
   refine Zc Zd [some false, some false, some false, some false, some false, some false] ?_
   simp only [push_cast, seval, ↓reduceIte, Za, c5, hN0, hN]
   have hz2 := Option.some.inj hz2; subst hz2
   refine And.intro rfl (Fit2.of (Zj hU rfl rfl ?_) (by omega))
   simp only [push_cast, seval, ↓reduceIte, Za, c5, hN0, hN]
  refine Zw (t := z2) rfl (fun c6 => ?_) (fun c6 => ?_)
  ·replace hs0_ := Zv c6 hs0_
   refine Z0 ?_
   try simp only [Zk, Zg]
   refine Zi [0, 3] [] ?_
   simp only [push_cast, seval, ↓reduceIte]
   refine Yr ?_
   refine Zc Zd [] ?_
   simp only [push_cast, seval, ↓reduceIte, Za, hN0, hN]
   have hs0_ := Option.some.inj hs0_; subst hs0_
   refine And.intro rfl (Fit2.of (Zj hU rfl rfl ?_) (by omega))
   simp only [push_cast, seval, ↓reduceIte, Za, hN0, hN]
  replace hs0_ := Zu c6 hs0_
  refine Qd ?_
  try simp only [Zk, Zg, ↓reduceIte, Nat.reduceEqDiff]
  have hs0_ := Option.some.inj hs0_; subst hs0_
  refine And.intro (fun h => by cases h) (And.intro rfl (Fit2.of (Zj hU rfl rfl ?_) (by omega)))
  simp only [push_cast, seval, ↓reduceIte, Za, hN0, hN]
 try simp only [Zk, Zg, ↓reduceIte, Nat.reduceEqDiff]
 refine Zi [0, 3] [] ?_
 simp only [push_cast, seval, ↓reduceIte]
 refine Zr [0, 3, 4] (Zc Zd [] ?_)
 simp only [push_cast, seval, ↓reduceIte, Za, hN0, hN]
 refine Zl ?_
 obtain ⟨l10, al10, bl10, cl10, gl10, h⟩ := bS (lo := none) (hi := (some (.i64, z7))) (f := (eI .u64)) rfl rfl Zgv Zbp (fun _ => rfl) h
 obtain ⟨l11, pl11, ql11, el11, h⟩ := bA0 (k := l10.length) rfl h
 refine Zc Zd [] ?_
 simp only [push_cast, seval, ↓reduceIte, Za, al10, bl10, cl10, gl10, pl11, ql11, el11, hN0, hN]
 refine Zkk ⟨24, [], [(2, .row n l11.length)]⟩ (Zy O n [some ⟨true, 71, 1, l11.length, fl (eI .u64) l11⟩]) (Zj hU rfl rfl ?_) ?_
 ·simp only [push_cast, seval, ↓reduceIte, Za, al10, bl10, cl10, gl10, pl11, ql11, el11, hN0, hN]
 refine Z5 ?_
 try simp only [Zk, Zg]
 have h := Option.some.inj h; subst h
 refine Zs (.inr rfl) hU [.row n l11.length] (by omega) ?_
 simp only [push_cast, seval, ↓reduceIte, Za, Try.results62, hN0, hN]
theorem Zjr {Kf : (S_api_Tree → Option S_api_Tree)} (Zh0 : ∀ {a0 : S_api_Tree} {r : S_api_Tree} {O : Objs} {n : Nat}, Kf a0 = some r → GTo Try.prog 21 [.agg (Ze a0)] O n (.agg (Ze r)) O n) {a0 : S_api_Tree} {r : S_api_Tree} {O : Objs} {n : Nat} (h : Vq Kf a0 = some r) : GTo Try.prog 21 [.agg (Ze a0)] O n (.agg (Ze r)) O n := by
 unfold Vq at h
 refine Xj Zd Try.call21 Try.func21 rfl (Nat.le_of_ble_eq_true rfl) (Nat.le_refl _) fun hU => ?_
 have hN0 : O n = none := hU.fresh _ (Nat.le_refl _)
 have hN : ∀ k, O (n + k) = none := fun k => hU.fresh _ (Nat.le_add_right _ _)
 show W _ _ _ _ ⟨53, [], [(0, .agg (Ze a0))]⟩ (Zy O n []) _
 refine Zr [1, 2] (Zc Zd [] ?_)
 simp only [push_cast, seval, ↓reduceIte, Za, hN0, hN]
 refine Zl ?_
 refine Zr [1, 2, 10] (Zc Zd [] ?_)
 simp only [push_cast, seval, ↓reduceIte, Za, hN0, hN]
 refine Zw (t := (a0.Kind == 0)) rfl (fun c19 => ?_) (fun c19 => ?_)
 ·replace h := Zv c19 h
  refine Zl ?_
  refine Zc Zd [] ?_
  simp only [push_cast, seval, ↓reduceIte, Za, hN0, hN]
  refine Zi [2] [false, true] ?_
  simp only [push_cast, seval, ↓reduceIte]
  refine Z5 ?_
  try simp only [Zk, Zg]
  have h := Option.some.inj h; subst h
  refine Zs (.inr rfl) hU [.agg [.val (.int .i64 0), .val (.slice none 0 0), .val (.slice none 0 0)]] (by omega) ?_
  simp only [push_cast, seval, ↓reduceIte, Za, Try.results21, hN0, hN]
 replace h := Zu c19 h
 refine Z0 ?_
 try simp only [Zk, Zg]
 refine Zi [1, 2] [true, true] ?_
 simp only [push_cast, seval, ↓reduceIte]
 refine Zr [1, 2, 3] (Zc Zd [] ?_)
 simp only [push_cast, seval, ↓reduceIte, Za, hN0, hN]
 refine Zr [1, 2, 3, 4] (Zc Zd [] ?_)
 simp only [push_cast, seval, ↓reduceIte, Za, hN0, hN]
 refine Zl ?_
 refine Zr [1, 2, 3, 4, 5] (Zc Zd [] ?_)
 simp only [push_cast, seval, ↓reduceIte, Za, hN0, hN]
 refine Zi [1, 2, 3, 4, 5] [true, true] ?_
 simp only [push_cast, seval, ↓reduceIte]
 refine Zez (E' := (⟨53, [], [(1, .ref n 0), (2, .ref (n + 1) 0), (3, .row (n + 2) ([] : List S_api_Tree).length), (4, .val (.int .i64 0)), (5, .val (.int .i64 0))]⟩ : Env)) (O' := (Zy O n [some ⟨false, 25, 3, 1, (Ze a0)⟩, some ⟨false, 25, 3, 1, [.val (.int .i64 0), .val (.slice none 0 0), .val (.slice none 0 0)]⟩, some ⟨true, 25, 3, ([] : List S_api_Tree).length, fl Zb ([] : List S_api_Tree)⟩, none])) (n' := (n + 4)) ?_ ?_
 ·refine Fit2.trans (E' := (⟨53, [], [(1, .ref n 0), (2, .ref (n + 1) 0), (3, .val (.slice none 0 0)), (4, .val (.int .i64 0)), (5, .val (.int .i64 0))]⟩ : Env)) (O' := (Zy O n [some ⟨false, 25, 3, 1, (Ze a0)⟩, some ⟨false, 25, 3, 1, [.val (.int .i64 0), .val (.slice none 0 0), .val (.slice none 0 0)]⟩])) (n' := (n + 2)) (Fit2.of (Zj hU rfl rfl ?_) (by omega)) ?_
  ·simp only [push_cast, seval, ↓reduceIte, Za, hN0, hN]
  refine Fit2.trans (E' := (⟨53, [], [(3, .row (n + 2) 0), (1, .ref n 0), (2, .ref (n + 1) 0), (3, .val (.slice none 0 0)), (4, .val (.int .i64 0)), (5, .val (.int .i64 0))]⟩ : Env)) (O' := (Zy O n [some ⟨false, 25, 3, 1, (Ze a0)⟩, some ⟨false, 25, 3, 1, [.val (.int .i64 0), .val (.slice none 0 0), .val (.slice none 0 0)]⟩, some ⟨true, 25, 3, 0, []⟩])) (n' := (n + 3)) ?_ ?_
  ·have ha := Zm1 (ba := n) (E := (⟨53, [], [(1, .ref n 0), (2, .ref (n + 1) 0), (3, .val (.slice none 0 0)), (4, .val (.int .i64 0)), (5, .val (.int .i64 0))]⟩ : Env)) (O := (Zy O n [some ⟨false, 25, 3, 1, [.val (.int .i64 a0.Kind), .sl a0.Words.length (fl (eI .u64) a0.Words), .sl a0.Kids.length (fl Zb a0.Kids)]⟩, some ⟨false, 25, 3, 1, [.val (.int .i64 0), .val (.slice none 0 0), .val (.slice none 0 0)]⟩])) (n := (n + 2)) 3 25 3 rfl (by omega)
   simp only [Vn, Q7, Zc3, Zb5, List.set_cons_zero, List.set_cons_succ, List.cons_append, List.nil_append, List.length_cons, List.length_nil, Nat.zero_add, Nat.reduceAdd, Nat.reduceLT, Nat.add_assoc] at ha
   exact ha
  refine Fit2.trans (E' := (⟨53, [], [(1, .ref n 0), (2, .ref (n + 1) 0), (3, .row (n + 2) ([] : List S_api_Tree).length), (4, .val (.int .i64 0)), (5, .val (.int .i64 0))]⟩ : Env)) (O' := (Zy O n [some ⟨false, 25, 3, 1, (Ze a0)⟩, some ⟨false, 25, 3, 1, [.val (.int .i64 0), .val (.slice none 0 0), .val (.slice none 0 0)]⟩, some ⟨true, 25, 3, ([] : List S_api_Tree).length, fl Zb ([] : List S_api_Tree)⟩])) (n' := (n + 3)) (Fit2.of (Zj hU rfl rfl ?_) (by omega)) ?_
  ·simp only [push_cast, seval, ↓reduceIte, Za, hN0, hN]
  refine Zbg (k := 3) (k' := 4) hU [0, 1, 2] [0, 1, 2, 0] rfl rfl rfl rfl ⟨rfl, rfl⟩ ?_
  simp only [push_cast, seval, ↓reduceIte, Za, hN0, hN]
 obtain ⟨z10, hz10, h⟩ := bC h
 refine Yq (E' := ⟨53, [], [(1, .ref n 0), (2, .ref (n + 1) 0), (3, .row (n + 2) z10.2.length), (4, .val (.int .i64 z10.1))]⟩) (O' := (Zy O n [some ⟨false, 25, 3, 1, (Ze a0)⟩, some ⟨false, 25, 3, 1, [.val (.int .i64 0), .val (.slice none 0 0), .val (.slice none 0 0)]⟩, some ⟨true, 25, 3, z10.2.length, fl Zb z10.2⟩, none])) (n0 := (n + 4)) ?_ ?_
 ·refine Y6 hz10 (fun s0_ => ⟨53, [], [(1, .ref n 0), (2, .ref (n + 1) 0), (3, .row (n + 2) s0_.2.2.length), (4, .val (.int .i64 s0_.1)), (5, .val (.int .i64 s0_.2.1))]⟩) (fun s0_ => (Zy O n [some ⟨false, 25, 3, 1, (Ze a0)⟩, some ⟨false, 25, 3, 1, [.val (.int .i64 0), .val (.slice none 0 0), .val (.slice none 0 0)]⟩, some ⟨true, 25, 3, s0_.2.2.length, fl Zb s0_.2.2⟩, none])) (fun z10 => JX 0 n (⟨53, [], [(1, .ref n 0), (2, .ref (n + 1) 0), (3, .row (n + 2) z10.2.length), (4, .val (.int .i64 z10.1))]⟩ : Env) (Zy O n [some ⟨false, 25, 3, 1, (Ze a0)⟩, some ⟨false, 25, 3, 1, [.val (.int .i64 0), .val (.slice none 0 0), .val (.slice none 0 0)]⟩, some ⟨true, 25, 3, z10.2.length, fl Zb z10.2⟩, none]) (n + 4)) ?_
  intro s0_ x0_ hs0_
  unfold Xp at hs0_
  try dsimp only
  refine Zl ?_
  refine Zr [1, 2, 3, 4, 5, 16] (Zc Zd [] ?_)
  simp only [push_cast, seval, ↓reduceIte, Za, hN0, hN]
  refine Zw (t := (decide (s0_.2.1 < (a0.Kids.length : Int)))) rfl (fun c9 => ?_) (fun c9 => ?_)
  ·replace hs0_ := Zv c9 hs0_
   refine Z0 ?_
   try simp only [Zk, Zg]
   refine Zi [1, 2, 3, 4, 5] [true, true, true, false] ?_
   simp only [push_cast, seval, ↓reduceIte]
   obtain ⟨z1, hz1, hs0_⟩ := bC hs0_
   refine Xg (E' := ⟨53, [], [(1, .ref n 0), (2, .ref (n + 1) 0), (3, .row (n + 2) z1.2.length), (4, .val (.int .i64 z1.1)), (5, .val (.int .i64 s0_.2.1))]⟩) (O' := (Zy O n [some ⟨false, 25, 3, 1, (Ze a0)⟩, some ⟨false, 25, 3, 1, [.val (.int .i64 0), .val (.slice none 0 0), .val (.slice none 0 0)]⟩, some ⟨true, 25, 3, z1.2.length, fl Zb z1.2⟩, none, none, none])) (n0 := (n + 6)) ?_ ?_
   ·refine Yr ?_
    refine Zl ?_
    obtain ⟨x4, hx4, ax4, bx4, cx4, hz1⟩ := bE (f := Zb) V4 (fun _ => rfl) (by decide) hz1
    obtain ⟨y5, hy5, hz1⟩ := bC hz1
    refine Zc Zd [] ?_
    simp only [push_cast, Nat.reduceAdd, Nat.reduceSub, Nat.reduceMul, Nat.reduceLeDiff, Nat.reduceLT, Nat.reduceEqDiff, ↓reduceIte, reduceCtorEq, Int.reduceBEq, Int.reduceBNe, Nat.reduceBEq, Int.reduceLE, Int.reduceLT, Int.reduceEq, Int.reduceNe, Int.reduceNeg, Nat.reduceDiv, Nat.reduceMod, Nat.reducePow, Za, ax4, bx4, cx4, hN0, hN]
    refine (Zh0 hy5).then ?_
    simp only [push_cast, Nat.reduceAdd, Nat.reduceSub, Nat.reduceMul, Nat.reduceLeDiff, Nat.reduceLT, Nat.reduceEqDiff, ↓reduceIte, reduceCtorEq, Int.reduceBEq, Int.reduceBNe, Nat.reduceBEq, Int.reduceLE, Int.reduceLT, Int.reduceEq, Int.reduceNe, Int.reduceNeg, Nat.reduceDiv, Nat.reduceMod, Nat.reducePow, Za, ax4, bx4, cx4, hN0, hN]
    refine Zi [1, 2, 3, 4, 5, 6] [true, true, true, false, true] ?_
    simp only [push_cast, seval, ↓reduceIte]
    refine Zl ?_
    obtain ⟨l7, pl7, ql7, el7, hz1⟩ := bA (k := 1) rfl hz1
    refine Zc Zd [] ?_
    simp only [push_cast, seval, ↓reduceIte, Za, pl7, ql7, el7, hN0, hN]
    refine Zkk ⟨53, [], [(1, .ref n 0), (2, .ref (n + 1) 0), (3, .row (n + 2) l7.length), (4, .val (.int .i64 s0_.1)), (5, .val (.int .i64 s0_.2.1)), (6, .ref (n + 4) 0)]⟩ (Zy O n [some ⟨false, 25, 3, 1, (Ze a0)⟩, some ⟨false, 25, 3, 1, [.val (.int .i64 0), .val (.slice none 0 0), .val (.slice none 0 0)]⟩, some ⟨true, 25, 3, l7.length, fl Zb l7⟩, none, some ⟨false, 25, 3, 1, (Ze y5)⟩, none]) (Zj hU rfl rfl ?_) ?_
    ·simp only [push_cast, seval, ↓reduceIte, Za, pl7, ql7, el7, hN0, hN]
    refine Zr [1, 2, 3, 4, 5, 31] (Zc Zd [] ?_)
    simp only [push_cast, seval, ↓reduceIte, Za, hN0, hN]
    refine Zw (t := (y5.Kind != 0)) rfl (fun c8 => ?_) (fun c8 => ?_)
    ·replace hz1 := Zv c8 hz1
     refine Zc Zd [] ?_
     simp only [push_cast, seval, ↓reduceIte, Za, hN0, hN]
     have hz1 := Option.some.inj hz1; subst hz1
     refine And.intro rfl (Fit2.of (Zj hU rfl rfl ?_) (by omega))
     simp only [push_cast, seval, ↓reduceIte, Za, hN0, hN]
    replace hz1 := Zu c8 hz1
    refine Z0 ?_
    try simp only [Zk, Zg]
    have hz1 := Option.some.inj hz1; subst hz1
    refine And.intro rfl (Fit2.of (Zj hU rfl rfl ?_) (by omega))
    simp only [push_cast, seval, ↓reduceIte, Za, hN0, hN]
   refine Zc Zd [] ?_
   simp only [push_cast, seval, ↓reduceIte, Za, hN0, hN]
   have hs0_ := Option.some.inj hs0_; subst hs0_
   refine And.intro rfl (Fit2.of (Zj hU rfl rfl ?_) (by omega))
   simp only [push_cast, seval, ↓reduceIte, Za, hN0, hN]
  replace hs0_ := Zu c9 hs0_
  refine Qd ?_
  try simp only [Zk, Zg, ↓reduceIte, Nat.reduceEqDiff]
  have hs0_ := Option.some.inj hs0_; subst hs0_
  refine And.intro (fun h => by cases h) (And.intro rfl (Fit2.of (Zj hU rfl rfl ?_) (by omega)))
  simp only [push_cast, seval, ↓reduceIte, Za, hN0, hN]
 try simp only [Zk, Zg, ↓reduceIte, Nat.reduceEqDiff]
 refine Zi [1, 2, 3, 4] [true, true, true, false] ?_
 simp only [push_cast, seval, ↓reduceIte]
 refine Zl ?_
 refine Zr [1, 2, 3, 4, 36] (Zc Zd [] ?_)
 simp only [push_cast, seval, ↓reduceIte, Za, hN0, hN]
 refine Zw (t := (a0.Kind == 1)) rfl (fun c18 => ?_) (fun c18 => ?_)
 ·replace h := Zv c18 h
  refine Zkk ⟨53, [], [(1, .ref n 0), (2, .ref (n + 1) 0), (3, .sl z10.2.length (fl Zb z10.2)), (4, .val (.int .i64 z10.1))]⟩ (Zy O n [some ⟨false, 25, 3, 1, (Ze a0)⟩, some ⟨false, 25, 3, 1, [.val (.int .i64 0), .val (.slice none 0 0), .val (.slice none 0 0)]⟩, none, none]) (Zj hU rfl rfl ?_) ?_
  ·simp only [push_cast, seval, ↓reduceIte, Za, hN0, hN]
  refine Zl ?_
  obtain ⟨y14, hy14, h⟩ := bC h
  obtain ⟨l15, al15, bl15, cl15, gl15, h⟩ := bS (lo := none) (hi := (some (.i64, z10.1))) (f := Zb) rfl rfl Zab V4 (fun _ => rfl) h
  refine Zem Zd (by kernel_rfl) [false, false, false, false, false, false, false, true] [] (by kernel_rfl) ?_
  simp only [push_cast, seval, ↓reduceIte, Za, al15, bl15, cl15, gl15, hN0, hN]
  refine PCall.of (Zj9 hy14) ?_
  simp only [push_cast, seval, ↓reduceIte, Za, al15, bl15, cl15, gl15, hN0, hN]
  refine Zi [2] [false, true, false, false] ?_
  simp only [push_cast, seval, ↓reduceIte]
  refine Z5 ?_
  try simp only [Zk, Zg]
  have h := Option.some.inj h; subst h
  refine Zs (.inr rfl) hU [.agg [.val (.int .i64 1), .sl y14.length (fl (eI .u64) y14), .sl l15.length (fl Zb l15)]] (by omega) ?_
  simp only [push_cast, seval, ↓reduceIte, Za, Try.results21, hN0, hN]
 replace h := Zu c18 h
 refine Z0 ?_
 try simp only [Zk, Zg]
 refine Zi [1, 2, 3] [true, true, true, false] ?_
 simp only [push_cast, seval, ↓reduceIte]
 refine Zr [1, 2, 3, 7] (Zc Zd [] ?_)
 simp only [push_cast, seval, ↓reduceIte, Za, hN0, hN]
 refine Zl ?_
 obtain ⟨l17, pl17, ql17, el17, h⟩ := bA0 (k := a0.Words.length) rfl h
 refine Zc Zd [] ?_
 simp only [push_cast, seval, ↓reduceIte, Za, pl17, ql17, el17, hN0, hN]
 refine Zkk ⟨53, [], [(1, .ref n 0), (2, .ref (n + 1) 0), (3, .row (n + 2) z10.2.length), (7, .row (n + 4) l17.length)]⟩ (Zy O n [some ⟨false, 25, 3, 1, (Ze a0)⟩, some ⟨false, 25, 3, 1, [.val (.int .i64 0), .val (.slice none 0 0), .val (.slice none 0 0)]⟩, some ⟨true, 25, 3, z10.2.length, fl Zb z10.2⟩, none, some ⟨true, 71, 1, l17.length, fl (eI .u64) l17⟩]) (Zj hU rfl rfl ?_) ?_
 ·simp only [push_cast, seval, ↓reduceIte, Za, pl17, ql17, el17, hN0, hN]
 refine Zl ?_
 refine Zc Zd [] ?_
 simp only [push_cast, seval, ↓reduceIte, Za, hN0, hN]
 refine Zi [2] [false, true, true, false, true] ?_
 simp only [push_cast, seval, ↓reduceIte]
 refine Z5 ?_
 try simp only [Zk, Zg]
 have h := Option.some.inj h; subst h
 refine Zs (.inr rfl) hU [.agg [.val (.int .i64 a0.Kind), .row (n + 4) l17.length, .row (n + 2) z10.2.length]] (by omega) ?_
 simp only [push_cast, seval, ↓reduceIte, Za, Try.results21, hN0, hN]
theorem Zg7 : ∀ k, (∀ {a0 : S_api_Tree} {r : S_api_Tree} {O : Objs} {n : Nat}, (Yx k) a0 = some r → GTo Try.prog 21 [.agg (Ze a0)] O n (.agg (Ze r)) O n) := fun k => by
 induction k with
 | zero => exact @fun a0 r O n h => (nomatch (show (none : Option _) = some _ from h))
 | succ k ih => exact @fun a0 r O n h => Zjr (ih)  h
theorem Zdo {a0 : S_api_Tree} {r : S_api_Tree} {O : Objs} {n : Nat} (h : Gd a0 = some r) : GTo Try.prog 21 [.agg (Ze a0)] O n (.agg (Ze r)) O n := by
 obtain ⟨k, hk⟩ := Gk h
 exact (Zg7 k)  hk
theorem Zj7 {a0 : (List Int)} {a1 : (List Int)} {r : Bool} {O : Objs} {n : Nat} (h : Vw a0 a1 = some r) : GTo Try.prog 59 [.sl a0.length (fl (eI .u64) a0), .sl a1.length (fl (eI .u64) a1)] O n (.val (.bool r)) O n := by
 unfold Vw at h
 refine Xj Zd Try.call59 Try.func59 rfl (Nat.le_of_ble_eq_true rfl) (Nat.le_refl _) fun hU => ?_
 have hN0 : O n = none := hU.fresh _ (Nat.le_refl _)
 have hN : ∀ k, O (n + k) = none := fun k => hU.fresh _ (Nat.le_add_right _ _)
 show W _ _ _ _ ⟨26, [], [(0, .sl a0.length (fl (eI .u64) a0)), (1, .sl a1.length (fl (eI .u64) a1))]⟩ (Zy O n []) _
 refine Zr [0, 1] (Zc Zd [] ?_)
 simp only [push_cast, seval, ↓reduceIte, Za, hN0, hN]
 refine Zl ?_
 refine Zr [0, 1, 10] (Zc Zd [] ?_)
 simp only [push_cast, seval, ↓reduceIte, Za, hN0, hN]
 refine Zw (t := ((a0.length : Int) != (a1.length : Int))) rfl (fun c8 => ?_) (fun c8 => ?_)
 ·replace h := Zv c8 h
  refine Zr [4] (Zc Zd [] ?_)
  simp only [push_cast, seval, ↓reduceIte, Za, hN0, hN]
  refine Z5 ?_
  try simp only [Zk, Zg]
  have h := Option.some.inj h; subst h
  refine Zs (.inr rfl) hU [.val (.bool false)] (by omega) ?_
  simp only [push_cast, seval, ↓reduceIte, Za, Try.results59, hN0, hN]
 replace h := Zu c8 h
 refine Z0 ?_
 try simp only [Zk, Zg]
 refine Zi [0, 1] [] ?_
 simp only [push_cast, seval, ↓reduceIte]
 refine Zl ?_
 refine Zr [0, 1, 5] (Zc Zd [] ?_)
 simp only [push_cast, seval, ↓reduceIte, Za, hN0, hN]
 refine Zi [0, 1, 5] [] ?_
 simp only [push_cast, seval, ↓reduceIte]
 obtain ⟨z7, hz7, h⟩ := bC h
 refine Za3 (J := (Qv (fun z7 => JR n (⟨26, [], [(4, .val (.bool false))]⟩ : Env) (Zy O n []) n) (fun z7 => JX 0 n (⟨26, [], []⟩ : Env) (Zy O n []) n))) (z := z7) ?_ fun hw => ?_
 ·refine Y6 hz7 (fun s0_ => ⟨26, [], [(0, .sl a0.length (fl (eI .u64) a0)), (1, .sl a1.length (fl (eI .u64) a1)), (5, .val (.int .i64 s0_))]⟩) (fun s0_ => (Zy O n [])) (Qv (fun z7 => JR n (⟨26, [], [(4, .val (.bool false))]⟩ : Env) (Zy O n []) n) (fun z7 => JX 0 n (⟨26, [], []⟩ : Env) (Zy O n []) n)) ?_
  intro s0_ x0_ hs0_
  unfold Jq at hs0_
  try dsimp only
  refine Zl ?_
  refine Zr [0, 1, 5, 14] (Zc Zd [] ?_)
  simp only [push_cast, seval, ↓reduceIte, Za, hN0, hN]
  refine Zw (t := (decide (s0_ < (a0.length : Int)))) rfl (fun c6 => ?_) (fun c6 => ?_)
  ·replace hs0_ := Zv c6 hs0_
   refine Z0 ?_
   try simp only [Zk, Zg]
   refine Zi [0, 1, 5] [] ?_
   simp only [push_cast, seval, ↓reduceIte]
   refine Zl ?_
   refine Yr ?_
   obtain ⟨x3, hx3, ax3, bx3, cx3, hs0_⟩ := bE (f := (eI .u64)) Zbp (fun _ => rfl) (by decide) hs0_
   obtain ⟨x4, hx4, ax4, bx4, cx4, hs0_⟩ := bE (f := (eI .u64)) Zbp (fun _ => rfl) (by decide) hs0_
   refine Zr [0, 1, 5, 25] (X4 Zd (by kernel_rfl) [] (by kernel_rfl) ?_)
   simp only [push_cast, Nat.reduceAdd, Nat.reduceSub, Nat.reduceMul, Nat.reduceLeDiff, Nat.reduceLT, Nat.reduceEqDiff, ↓reduceIte, reduceCtorEq, Int.reduceBEq, Int.reduceBNe, Nat.reduceBEq, Int.reduceLE, Int.reduceLT, Int.reduceEq, Int.reduceNe, Int.reduceNeg, Nat.reduceDiv, Nat.reduceMod, Nat.reducePow, Za, ax3, bx3, cx3, ax4, bx4, cx4, hN0, hN]
   refine Zw (t := (x3 != x4)) rfl (fun c5 => ?_) (fun c5 => ?_)
   ·replace hs0_ := Zv c5 hs0_
    refine Zr [4] (Zc Zd [] ?_)
    simp only [push_cast, seval, ↓reduceIte, Za, hN0, hN]
    refine Z5 ?_
    try simp only [Zk, Zg]
    have hs0_ := Option.some.inj hs0_; subst hs0_
    refine And.intro (fun h => by cases h) (And.intro rfl (Fit2.of (Zj hU rfl rfl ?_) (by omega)))
    simp only [push_cast, seval, ↓reduceIte, Za, hN0, hN]
   replace hs0_ := Zu c5 hs0_
   refine Z0 ?_
   try simp only [Zk, Zg]
   refine Zi [0, 1, 5] [] ?_
   simp only [push_cast, seval, ↓reduceIte]
   refine Zc Zd [] ?_
   simp only [push_cast, seval, ↓reduceIte, Za, hN0, hN]
   have hs0_ := Option.some.inj hs0_; subst hs0_
   refine And.intro rfl (Fit2.of (Zj hU rfl rfl ?_) (by omega))
   simp only [push_cast, seval, ↓reduceIte, Za, hN0, hN]
  replace hs0_ := Zu c6 hs0_
  refine Qd ?_
  try simp only [Zk, Zg, ↓reduceIte, Nat.reduceEqDiff]
  have hs0_ := Option.some.inj hs0_; subst hs0_
  refine And.intro (fun h => by cases h) (And.intro rfl (Fit2.of (Zj hU rfl rfl ?_) (by omega)))
  simp only [push_cast, seval, ↓reduceIte, Za, hN0, hN]
 rcases z7 with z7 | z7
 ·dsimp only [Qv] at hw h
  refine Vo hw ?_
  try simp only [Zk, Zg, ↓reduceIte, Nat.reduceEqDiff]
  have h := Option.some.inj h; subst h
  refine Zs (.inr rfl) hU [.val (.bool false)] (by omega) ?_
  simp only [push_cast, seval, ↓reduceIte, Za, Try.results59, hN0, hN]
 dsimp only [Qv] at hw h
 refine Yq hw ?_
 try simp only [Zk, Zg, ↓reduceIte, Nat.reduceEqDiff]
 refine Zi [] [] ?_
 simp only [push_cast, seval, ↓reduceIte]
 refine Zr [4] (Zc Zd [] ?_)
 simp only [push_cast, seval, ↓reduceIte, Za, hN0, hN]
 refine Z5 ?_
 try simp only [Zk, Zg]
 have h := Option.some.inj h; subst h
 refine Zs (.inr rfl) hU [.val (.bool true)] (by omega) ?_
 simp only [push_cast, seval, ↓reduceIte, Za, Try.results59, hN0, hN]
theorem Zjs {Kg : (S_api_Tree → S_api_Tree → Option Bool)} (Zh1 : ∀ {a0 : S_api_Tree} {a1 : S_api_Tree} {r : Bool} {O : Objs} {n : Nat}, Kg a0 a1 = some r → GTo Try.prog 23 [.agg (Ze a0), .agg (Ze a1)] O n (.val (.bool r)) O n) {a0 : S_api_Tree} {a1 : S_api_Tree} {r : Bool} {O : Objs} {n : Nat} (h : Vr Kg a0 a1 = some r) : GTo Try.prog 23 [.agg (Ze a0), .agg (Ze a1)] O n (.val (.bool r)) O n := by
 unfold Vr at h
 refine Xj Zd Try.call23 Try.func23 rfl (Nat.le_of_ble_eq_true rfl) (Nat.le_refl _) fun hU => ?_
 have hN0 : O n = none := hU.fresh _ (Nat.le_refl _)
 have hN : ∀ k, O (n + k) = none := fun k => hU.fresh _ (Nat.le_add_right _ _)
 show W _ _ _ _ ⟨47, [], [(0, .agg (Ze a0)), (1, .agg (Ze a1))]⟩ (Zy O n []) _
 refine Zr [2, 3] (Zc Zd [] ?_)
 simp only [push_cast, seval, ↓reduceIte, Za, hN0, hN]
 refine Zl ?_
 obtain ⟨z2, hz2, h⟩ := bC h
 refine Xg (E' := ⟨47, [], [(2, .ref n 0), (3, .ref (n + 1) 0), (27, .val (.bool z2))]⟩) (O' := (Zy O n [some ⟨false, 25, 3, 1, (Ze a0)⟩, some ⟨false, 25, 3, 1, (Ze a1)⟩])) (n0 := (n + 2)) ?_ ?_
 ·rcases Bool.eq_false_or_eq_true (a0.Kind != a1.Kind) with c5 | c5
  ·replace hz2 := Zv c5 hz2
   refine Zc Zd [some false, some false, some false, some false, some false, some false, some false, some false, some false, some false, some false, some false, some false] ?_
   simp only [push_cast, seval, ↓reduceIte, Za, c5, hN0, hN]
   have hz2 := Option.some.inj hz2; subst hz2
   refine And.intro rfl (Fit2.of (Zj hU rfl rfl ?_) (by omega))
   simp only [push_cast, seval, ↓reduceIte, Za, c5, hN0, hN]
  replace hz2 := Zu c5 hz2
  obtain ⟨y4, hy4, hz2⟩ := bC hz2
  refine Zc Zd [some true, some true, some true, some true, some true, some true, none, none, none, none, none, none, none] ?_
  simp only [push_cast, seval, ↓reduceIte, Za, c5, hN0, hN]
  repeat (with_reducible refine And.intro (by first | (intro h0; simp only [h0, and_self]; done) | (intro h0; simp only [h0, Bool.not_false, Bool.not_true, Bool.true_and, Bool.and_true, true_and, and_true, and_self, imp_self, implies_true, bne_iff_ne, ne_eq, beq_iff_eq]; done) | (intros; simp_all; done) | exact True.intro) ?_)
  refine (Zj7 hy4).then ?_
  simp only [push_cast, seval, ↓reduceIte, Za, c5, hN0, hN]
  repeat (with_reducible refine And.intro (by first | (intro h0; simp only [h0, and_self]; done) | (intro h0; simp only [h0, Bool.not_false, Bool.not_true, Bool.true_and, Bool.and_true, true_and, and_true, and_self, imp_self, implies_true, bne_iff_ne, ne_eq, beq_iff_eq]; done) | (intros; simp_all; done) | exact True.intro) ?_)
  have hz2 := Option.some.inj hz2; subst hz2
  refine And.intro rfl (Fit2.of (Zj hU rfl rfl ?_) (by omega))
  simp only [push_cast, seval, ↓reduceIte, Za, c5, hN0, hN]
 refine Zw (t := z2) rfl (fun c15 => ?_) (fun c15 => ?_)
 ·replace h := Zv c15 h
  refine Zr [4] (Zc Zd [] ?_)
  simp only [push_cast, seval, ↓reduceIte, Za, hN0, hN]
  refine Z5 ?_
  try simp only [Zk, Zg]
  have h := Option.some.inj h; subst h
  refine Zs (.inr rfl) hU [.val (.bool false)] (by omega) ?_
  simp only [push_cast, seval, ↓reduceIte, Za, Try.results23, hN0, hN]
 replace h := Zu c15 h
 refine Z0 ?_
 try simp only [Zk, Zg]
 refine Zi [2, 3] [true, true] ?_
 simp only [push_cast, seval, ↓reduceIte]
 refine Zl ?_
 refine Zr [2, 3, 5] (Zc Zd [] ?_)
 simp only [push_cast, seval, ↓reduceIte, Za, hN0, hN]
 refine Zi [2, 3, 5] [true, true] ?_
 simp only [push_cast, seval, ↓reduceIte]
 obtain ⟨z14, hz14, h⟩ := bC h
 refine Za3 (J := (Qv (fun z14 => JR n (⟨47, [], [(4, .val (.bool false))]⟩ : Env) (Zy O n [none, none]) (n + 2)) (fun z14 => JX 0 n (⟨47, [], []⟩ : Env) (Zy O n [none, none]) (n + 2)))) (z := z14) ?_ fun hw => ?_
 ·refine Y6 hz14 (fun s0_ => ⟨47, [], [(2, .ref n 0), (3, .ref (n + 1) 0), (5, .val (.int .i64 s0_))]⟩) (fun s0_ => (Zy O n [some ⟨false, 25, 3, 1, (Ze a0)⟩, some ⟨false, 25, 3, 1, (Ze a1)⟩])) (Qv (fun z14 => JR n (⟨47, [], [(4, .val (.bool false))]⟩ : Env) (Zy O n [none, none]) (n + 2)) (fun z14 => JX 0 n (⟨47, [], []⟩ : Env) (Zy O n [none, none]) (n + 2))) ?_
  intro s0_ x0_ hs0_
  unfold Jl at hs0_
  try dsimp only
  refine Zl ?_
  refine Zr [2, 3, 5, 32] (Zc Zd [] ?_)
  simp only [push_cast, seval, ↓reduceIte, Za, hN0, hN]
  refine Zw (t := (decide (s0_ < (a0.Kids.length : Int)))) rfl (fun c13 => ?_) (fun c13 => ?_)
  ·replace hs0_ := Zv c13 hs0_
   refine Z0 ?_
   try simp only [Zk, Zg]
   refine Zi [2, 3, 5] [true, true] ?_
   simp only [push_cast, seval, ↓reduceIte]
   refine Zl ?_
   refine Yr ?_
   refine Zl ?_
   obtain ⟨x9, hx9, ax9, bx9, cx9, hs0_⟩ := bE (f := Zb) V4 (fun _ => rfl) (by decide) hs0_
   obtain ⟨x10, hx10, ax10, bx10, cx10, hs0_⟩ := bE (f := Zb) V4 (fun _ => rfl) (by decide) hs0_
   obtain ⟨y11, hy11, hs0_⟩ := bC hs0_
   refine X4 Zd (by kernel_rfl) [] (by kernel_rfl) ?_
   simp only [push_cast, Nat.reduceAdd, Nat.reduceSub, Nat.reduceMul, Nat.reduceLeDiff, Nat.reduceLT, Nat.reduceEqDiff, ↓reduceIte, reduceCtorEq, Int.reduceBEq, Int.reduceBNe, Nat.reduceBEq, Int.reduceLE, Int.reduceLT, Int.reduceEq, Int.reduceNe, Int.reduceNeg, Nat.reduceDiv, Nat.reduceMod, Nat.reducePow, Za, ax9, bx9, cx9, ax10, bx10, cx10, hN0, hN]
   refine PCall.of (Zh1 hy11) ?_
   simp only [push_cast, Nat.reduceAdd, Nat.reduceSub, Nat.reduceMul, Nat.reduceLeDiff, Nat.reduceLT, Nat.reduceEqDiff, ↓reduceIte, reduceCtorEq, Int.reduceBEq, Int.reduceBNe, Nat.reduceBEq, Int.reduceLE, Int.reduceLT, Int.reduceEq, Int.reduceNe, Int.reduceNeg, Nat.reduceDiv, Nat.reduceMod, Nat.reducePow, Za, ax9, bx9, cx9, ax10, bx10, cx10, hN0, hN]
   refine Zi [2, 3, 5, 46] [true, true] ?_
   simp only [push_cast, seval, ↓reduceIte]
   refine Zw (t := (!y11)) rfl (fun c12 => ?_) (fun c12 => ?_)
   ·replace hs0_ := Zv c12 hs0_
    refine Zr [4] (Zc Zd [] ?_)
    simp only [push_cast, seval, ↓reduceIte, Za, hN0, hN]
    refine Z5 ?_
    try simp only [Zk, Zg]
    have hs0_ := Option.some.inj hs0_; subst hs0_
    refine And.intro (fun h => by cases h) (And.intro rfl (Fit2.of (Zj hU rfl rfl ?_) (by omega)))
    simp only [push_cast, seval, ↓reduceIte, Za, hN0, hN]
   replace hs0_ := Zu c12 hs0_
   refine Z0 ?_
   try simp only [Zk, Zg]
   refine Zi [2, 3, 5] [true, true] ?_
   simp only [push_cast, seval, ↓reduceIte]
   refine Zc Zd [] ?_
   simp only [push_cast, seval, ↓reduceIte, Za, hN0, hN]
   have hs0_ := Option.some.inj hs0_; subst hs0_
   refine And.intro rfl (Fit2.of (Zj hU rfl rfl ?_) (by omega))
   simp only [push_cast, seval, ↓reduceIte, Za, hN0, hN]
  replace hs0_ := Zu c13 hs0_
  refine Qd ?_
  try simp only [Zk, Zg, ↓reduceIte, Nat.reduceEqDiff]
  have hs0_ := Option.some.inj hs0_; subst hs0_
  refine And.intro (fun h => by cases h) (And.intro rfl (Fit2.of (Zj hU rfl rfl ?_) (by omega)))
  simp only [push_cast, seval, ↓reduceIte, Za, hN0, hN]
 rcases z14 with z14 | z14
 ·dsimp only [Qv] at hw h
  refine Vo hw ?_
  try simp only [Zk, Zg, ↓reduceIte, Nat.reduceEqDiff]
  have h := Option.some.inj h; subst h
  refine Zs (.inr rfl) hU [.val (.bool false)] (by omega) ?_
  simp only [push_cast, seval, ↓reduceIte, Za, Try.results23, hN0, hN]
 dsimp only [Qv] at hw h
 refine Yq hw ?_
 try simp only [Zk, Zg, ↓reduceIte, Nat.reduceEqDiff]
 refine Zi [] [false, false] ?_
 simp only [push_cast, seval, ↓reduceIte]
 refine Zr [4] (Zc Zd [] ?_)
 simp only [push_cast, seval, ↓reduceIte, Za, hN0, hN]
 refine Z5 ?_
 try simp only [Zk, Zg]
 have h := Option.some.inj h; subst h
 refine Zs (.inr rfl) hU [.val (.bool true)] (by omega) ?_
 simp only [push_cast, seval, ↓reduceIte, Za, Try.results23, hN0, hN]
theorem Zg8 : ∀ k, (∀ {a0 : S_api_Tree} {a1 : S_api_Tree} {r : Bool} {O : Objs} {n : Nat}, (Qg k) a0 a1 = some r → GTo Try.prog 23 [.agg (Ze a0), .agg (Ze a1)] O n (.val (.bool r)) O n) := fun k => by
 induction k with
 | zero => exact @fun a0 a1 r O n h => (nomatch (show (none : Option _) = some _ from h))
 | succ k ih => exact @fun a0 a1 r O n h => Zjs (ih)  h
theorem Zj8 {a0 : S_api_Tree} {a1 : S_api_Tree} {r : Bool} {O : Objs} {n : Nat} (h : Zbc a0 a1 = some r) : GTo Try.prog 23 [.agg (Ze a0), .agg (Ze a1)] O n (.val (.bool r)) O n := by
 obtain ⟨k, hk⟩ := Gk h
 exact (Zg8 k)  hk
theorem Ud {a0 : S_api_Tree} {a1 : S_api_Tree} {r : Bool} {O : Objs} {n : Nat} (h : Jc a0 a1 = some r) : GTo Try.prog 26 [.agg (Ze a0), .agg (Ze a1)] O n (.val (.bool r)) O n := by
 unfold Jc at h
 refine Xj Zd Try.call26 Try.func26 rfl (Nat.le_of_ble_eq_true rfl) (Nat.le_refl _) fun hU => ?_
 have hN0 : O n = none := hU.fresh _ (Nat.le_refl _)
 have hN : ∀ k, O (n + k) = none := fun k => hU.fresh _ (Nat.le_add_right _ _)
 show W _ _ _ _ ⟨10, [], [(0, .agg (Ze a0)), (1, .agg (Ze a1))]⟩ (Zy O n []) _
 refine Zr [2, 3] (Zc Zd [] ?_)
 simp only [push_cast, seval, ↓reduceIte, Za, hN0, hN]
 refine Zl ?_
 obtain ⟨y4, hy4, h⟩ := bC h
 obtain ⟨y5, hy5, h⟩ := bC h
 obtain ⟨y6, hy6, h⟩ := bC h
 refine X4 Zd (by kernel_rfl) [] (by kernel_rfl) ?_
 simp only [push_cast, seval, ↓reduceIte, Za, hN0, hN]
 refine PCall.of (Zdo hy4) ?_
 simp only [push_cast, seval, ↓reduceIte, Za, hN0, hN]
 refine PCall.of (Zdo hy5) ?_
 simp only [push_cast, seval, ↓reduceIte, Za, hN0, hN]
 refine PCall.of (Zj8 hy6) ?_
 simp only [push_cast, seval, ↓reduceIte, Za, hN0, hN]
 refine Zi [4] [false, false] ?_
 simp only [push_cast, seval, ↓reduceIte]
 refine Z5 ?_
 try simp only [Zk, Zg]
 have h := Option.some.inj h; subst h
 refine Zs (.inr rfl) hU [.val (.bool y6)] (by omega) ?_
 simp only [push_cast, seval, ↓reduceIte, Za, Try.results26, hN0, hN]
theorem Zjt {Xm : (S_api_Edit → Int → Int → Option Int)} (Zcj : ∀ {a0 : S_api_Edit} {a1 : Int} {a2 : Int} {r : Int} {O : Objs} {n : Nat}, Xm a0 a1 a2 = some r → GTo Try.prog 72 [.agg (Zh a0), .val (.int .i64 a1), .val (.int .i64 a2)] O n (.val (.int .i64 r)) O n) {a0 : S_api_Edit} {a1 : Int} {a2 : Int} {r : Int} {O : Objs} {n : Nat} (h : X5 Xm a0 a1 a2 = some r) : GTo Try.prog 72 [.agg (Zh a0), .val (.int .i64 a1), .val (.int .i64 a2)] O n (.val (.int .i64 r)) O n := by
 unfold X5 at h
 refine Xj Zd Try.call72 Try.func72 rfl (Nat.le_of_ble_eq_true rfl) (Nat.le_refl _) fun hU => ?_
 have hN0 : O n = none := hU.fresh _ (Nat.le_refl _)
 have hN : ∀ k, O (n + k) = none := fun k => hU.fresh _ (Nat.le_add_right _ _)
 show W _ _ _ _ ⟨107, [], [(0, .agg (Zh a0)), (1, .val (.int .i64 a1)), (2, .val (.int .i64 a2))]⟩ (Zy O n []) _
 refine Zr [1, 2, 3] (Zc Zd [] ?_)
 simp only [push_cast, seval, ↓reduceIte, Za, hN0, hN]
 refine Zr [1, 2, 3] (Zc Zd [] ?_)
 simp only [push_cast, seval, ↓reduceIte, Za, hN0, hN]
 refine Zl ?_
 refine Zr [1, 2, 3, 25] (Zc Zd [none, none] ?_)
 simp only [push_cast, seval, ↓reduceIte, Za, hN0, hN]
 repeat (with_reducible refine And.intro (by first | (intro h0; simp only [h0, and_self]; done) | (intro h0; simp only [h0, Bool.not_false, Bool.not_true, Bool.true_and, Bool.and_true, true_and, and_true, and_self, imp_self, implies_true, bne_iff_ne, ne_eq, beq_iff_eq]; done) | (intros; simp_all; done) | exact True.intro) ?_)
 refine Zw (t := (cond (a1 == 0) true (decide ((IntKind.i64.wrap ((IntKind.i64.wrap ((IntKind.i64.wrap (a2 - 1)) - (a0.Words.length : Int))) - (a0.Ops.length : Int))) < 0)))) rfl (fun c28 => ?_) (fun c28 => ?_)
 ·replace h := Zv c28 h
  refine Zr [6] (Zc Zd [] ?_)
  simp only [push_cast, seval, ↓reduceIte, Za, hN0, hN]
  refine Z5 ?_
  try simp only [Zk, Zg]
  have h := Option.some.inj h; subst h
  refine Zs (.inr rfl) hU [.val (.int .i64 (-1))] (by omega) ?_
  simp only [push_cast, seval, ↓reduceIte, Za, Try.results72, hN0, hN]
 replace h := Zu c28 h
 refine Z0 ?_
 try simp only [Zk, Zg]
 refine Zi [1, 2, 3] [true] ?_
 simp only [push_cast, seval, ↓reduceIte]
 refine Zl ?_
 obtain ⟨y2, hy2, h⟩ := bC h
 refine Zc Zd [] ?_
 simp only [push_cast, seval, ↓reduceIte, Za, hN0, hN]
 refine (Vg hy2).then ?_
 simp only [push_cast, seval, ↓reduceIte, Za, hN0, hN]
 refine Zi [1, 2, 3] [true] ?_
 simp only [push_cast, seval, ↓reduceIte]
 obtain ⟨z3, hz3, h⟩ := bC h
 refine Xg (E' := ⟨107, [], [(1, .val (.int .i64 a1)), (2, .val (.int .i64 z3)), (3, .ref n 0)]⟩) (O' := (Zy O n [some ⟨false, 54, 11, 1, (Zh a0)⟩])) (n0 := (n + 1)) ?_ ?_
 ·refine Zr [1, 2, 3, 31] (Zc Zd [] ?_)
  simp only [push_cast, seval, ↓reduceIte, Za, hN0, hN]
  refine Zw (t := (decide (0 ≤ y2))) rfl (fun c5 => ?_) (fun c5 => ?_)
  ·replace hz3 := Zv c5 hz3
   obtain ⟨y4, hy4, hz3⟩ := bC hz3
   refine Zc Zd [] ?_
   simp only [push_cast, seval, ↓reduceIte, Za, hN0, hN]
   refine (Vg hy4).then ?_
   simp only [push_cast, seval, ↓reduceIte, Za, hN0, hN]
   have hz3 := Option.some.inj hz3; subst hz3
   refine And.intro rfl (Fit2.of (Zj hU rfl rfl ?_) (by omega))
   simp only [push_cast, seval, ↓reduceIte, Za, hN0, hN]
  replace hz3 := Zu c5 hz3
  refine Z0 ?_
  try simp only [Zk, Zg]
  have hz3 := Option.some.inj hz3; subst hz3
  refine And.intro rfl (Fit2.of (Zj hU rfl rfl ?_) (by omega))
  simp only [push_cast, seval, ↓reduceIte, Za, hN0, hN]
 refine Zl ?_
 refine Zr [1, 2, 3, 7] (Zc Zd [] ?_)
 simp only [push_cast, seval, ↓reduceIte, Za, hN0, hN]
 refine Zi [1, 2, 3, 7] [true] ?_
 simp only [push_cast, seval, ↓reduceIte]
 obtain ⟨z10, hz10, h⟩ := bC h
 refine Yq (E' := ⟨107, [], [(1, .val (.int .i64 a1)), (2, .val (.int .i64 z10)), (3, .ref n 0)]⟩) (O' := (Zy O n [some ⟨false, 54, 11, 1, (Zh a0)⟩])) (n0 := (n + 1)) ?_ ?_
 ·refine Y6 hz10 (fun s0_ => ⟨107, [], [(1, .val (.int .i64 a1)), (2, .val (.int .i64 s0_.1)), (3, .ref n 0), (7, .val (.int .i64 s0_.2))]⟩) (fun s0_ => (Zy O n [some ⟨false, 54, 11, 1, (Zh a0)⟩])) (fun z10 => JX 0 n (⟨107, [], [(1, .val (.int .i64 a1)), (2, .val (.int .i64 z10)), (3, .ref n 0)]⟩ : Env) (Zy O n [some ⟨false, 54, 11, 1, (Zh a0)⟩]) (n + 1)) ?_
  intro s0_ x0_ hs0_
  unfold Xq at hs0_
  try dsimp only
  refine Zl ?_
  refine Zr [1, 2, 3, 7, 44] (Zc Zd [none, none] ?_)
  simp only [push_cast, seval, ↓reduceIte, Za, hN0, hN]
  repeat (with_reducible refine And.intro (by first | (intro h0; simp only [h0, and_self]; done) | (intro h0; simp only [h0, Bool.not_false, Bool.not_true, Bool.true_and, Bool.and_true, true_and, and_true, and_self, imp_self, implies_true, bne_iff_ne, ne_eq, beq_iff_eq]; done) | (intros; simp_all; done) | exact True.intro) ?_)
  refine Zw (t := (cond (decide (s0_.2 < (a0.Kids.length : Int))) (decide (0 ≤ s0_.1)) false)) rfl (fun c9 => ?_) (fun c9 => ?_)
  ·replace hs0_ := Zv c9 hs0_
   refine Z0 ?_
   try simp only [Zk, Zg]
   refine Zi [1, 2, 3, 7] [true] ?_
   simp only [push_cast, seval, ↓reduceIte]
   refine Zl ?_
   refine Yr ?_
   obtain ⟨x6, hx6, ax6, bx6, cx6, hs0_⟩ := bE (f := Zp) Zly (fun _ => rfl) (by decide) hs0_
   have g7 := Zbs (f := Zp) (off := 1) (sz := 12) Zlx (fun _ => rfl) (by decide) (by decide) hx6
   obtain ⟨y8, hy8, hs0_⟩ := bC hs0_
   refine Zc Zd [] ?_
   simp only [push_cast, Nat.reduceAdd, Nat.reduceSub, Nat.reduceMul, Nat.reduceLeDiff, Nat.reduceLT, Nat.reduceEqDiff, ↓reduceIte, reduceCtorEq, Int.reduceBEq, Int.reduceBNe, Nat.reduceBEq, Int.reduceLE, Int.reduceLT, Int.reduceEq, Int.reduceNe, Int.reduceNeg, Nat.reduceDiv, Nat.reduceMod, Nat.reducePow, Za, ax6, bx6, cx6, g7, hN0, hN]
   refine (Zcj hy8).then ?_
   simp only [push_cast, Nat.reduceAdd, Nat.reduceSub, Nat.reduceMul, Nat.reduceLeDiff, Nat.reduceLT, Nat.reduceEqDiff, ↓reduceIte, reduceCtorEq, Int.reduceBEq, Int.reduceBNe, Nat.reduceBEq, Int.reduceLE, Int.reduceLT, Int.reduceEq, Int.reduceNe, Int.reduceNeg, Nat.reduceDiv, Nat.reduceMod, Nat.reducePow, Za, ax6, bx6, cx6, g7, hN0, hN]
   refine Zi [1, 2, 3, 7] [true] ?_
   simp only [push_cast, seval, ↓reduceIte]
   refine Zc Zd [] ?_
   simp only [push_cast, seval, ↓reduceIte, Za, hN0, hN]
   have hs0_ := Option.some.inj hs0_; subst hs0_
   refine And.intro rfl (Fit2.of (Zj hU rfl rfl ?_) (by omega))
   simp only [push_cast, seval, ↓reduceIte, Za, hN0, hN]
  replace hs0_ := Zu c9 hs0_
  refine Qd ?_
  try simp only [Zk, Zg, ↓reduceIte, Nat.reduceEqDiff]
  have hs0_ := Option.some.inj hs0_; subst hs0_
  refine And.intro (fun h => by cases h) (And.intro rfl (Fit2.of (Zj hU rfl rfl ?_) (by omega)))
  simp only [push_cast, seval, ↓reduceIte, Za, hN0, hN]
 try simp only [Zk, Zg, ↓reduceIte, Nat.reduceEqDiff]
 refine Zi [1, 2, 3] [true] ?_
 simp only [push_cast, seval, ↓reduceIte]
 refine Zl ?_
 refine Zr [1, 2, 3, 8] (Zc Zd [] ?_)
 simp only [push_cast, seval, ↓reduceIte, Za, hN0, hN]
 refine Zi [1, 2, 3, 8] [true] ?_
 simp only [push_cast, seval, ↓reduceIte]
 obtain ⟨z27, hz27, h⟩ := bC h
 refine Yq (E' := ⟨107, [], [(2, .val (.int .i64 z27))]⟩) (O' := (Zy O n [none])) (n0 := (n + 1)) ?_ ?_
 ·refine Y6 hz27 (fun s1_ => ⟨107, [], [(1, .val (.int .i64 a1)), (2, .val (.int .i64 s1_.1)), (3, .ref n 0), (8, .val (.int .i64 s1_.2))]⟩) (fun s1_ => (Zy O n [some ⟨false, 54, 11, 1, (Zh a0)⟩])) (fun z27 => JX 2 n (⟨107, [], [(2, .val (.int .i64 z27))]⟩ : Env) (Zy O n [none]) (n + 1)) ?_
  intro s1_ x1_ hs1_
  unfold Xr at hs1_
  try dsimp only
  refine Zl ?_
  refine Zr [1, 2, 3, 8, 65] (Zc Zd [none, none] ?_)
  simp only [push_cast, seval, ↓reduceIte, Za, hN0, hN]
  repeat (with_reducible refine And.intro (by first | (intro h0; simp only [h0, and_self]; done) | (intro h0; simp only [h0, Bool.not_false, Bool.not_true, Bool.true_and, Bool.and_true, true_and, and_true, and_self, imp_self, implies_true, bne_iff_ne, ne_eq, beq_iff_eq]; done) | (intros; simp_all; done) | exact True.intro) ?_)
  refine Zw (t := (cond (decide (s1_.2 < (a0.Ops.length : Int))) (decide (0 ≤ s1_.1)) false)) rfl (fun c26 => ?_) (fun c26 => ?_)
  ·replace hs1_ := Zv c26 hs1_
   refine Z0 ?_
   try simp only [Zk, Zg]
   refine Zi [1, 2, 3, 8] [true] ?_
   simp only [push_cast, seval, ↓reduceIte]
   obtain ⟨z11, hz11, hs1_⟩ := bC hs1_
   refine Xg (E' := ⟨107, [], [(1, .val (.int .i64 a1)), (2, .val (.int .i64 z11)), (3, .ref n 0), (8, .val (.int .i64 s1_.2))]⟩) (O' := (Zy O n [some ⟨false, 54, 11, 1, (Zh a0)⟩])) (n0 := (n + 1)) ?_ ?_
   ·refine Yr ?_
    refine Zl ?_
    refine Zr [1, 2, 3, 8, 9] (Zc Zd [] ?_)
    simp only [push_cast, seval, ↓reduceIte, Za, hN0, hN]
    refine Zi [1, 2, 3, 8, 9] [true] ?_
    simp only [push_cast, seval, ↓reduceIte]
    obtain ⟨z21, hz21, hz11⟩ := bC hz11
    refine Yq (E' := ⟨107, [], [(1, .val (.int .i64 a1)), (2, .val (.int .i64 z21)), (3, .ref n 0), (8, .val (.int .i64 s1_.2))]⟩) (O' := (Zy O n [some ⟨false, 54, 11, 1, (Zh a0)⟩])) (n0 := (n + 1)) ?_ ?_
    ·refine Y6 hz21 (fun s2_ => ⟨107, [], [(1, .val (.int .i64 a1)), (2, .val (.int .i64 s2_.1)), (3, .ref n 0), (8, .val (.int .i64 s1_.2)), (9, .val (.int .i64 s2_.2))]⟩) (fun s2_ => (Zy O n [some ⟨false, 54, 11, 1, (Zh a0)⟩])) (fun z21 => JX 4 n (⟨107, [], [(1, .val (.int .i64 a1)), (2, .val (.int .i64 z21)), (3, .ref n 0), (8, .val (.int .i64 s1_.2))]⟩ : Env) (Zy O n [some ⟨false, 54, 11, 1, (Zh a0)⟩]) (n + 1)) ?_
     intro s2_ x2_ hs2_
     unfold Jm at hs2_
     try dsimp only
     refine Zl ?_
     obtain ⟨x14, hx14, ax14, bx14, cx14, hs2_⟩ := bE (f := Zt) Zg5 (fun _ => rfl) (by decide) hs2_
     have g15 := Zbs (f := Zt) (off := 2) (sz := 14) Zqu (fun _ => rfl) (by decide) (by decide) hx14
     refine Zr [1, 2, 3, 8, 9, 80] (Zc Zd [none, none] ?_)
     simp only [push_cast, Nat.reduceAdd, Nat.reduceSub, Nat.reduceMul, Nat.reduceLeDiff, Nat.reduceLT, Nat.reduceEqDiff, ↓reduceIte, reduceCtorEq, Int.reduceBEq, Int.reduceBNe, Nat.reduceBEq, Int.reduceLE, Int.reduceLT, Int.reduceEq, Int.reduceNe, Int.reduceNeg, Nat.reduceDiv, Nat.reduceMod, Nat.reducePow, Za, ax14, bx14, cx14, g15, hN0, hN]
     repeat (with_reducible refine And.intro (by first | (intro h0; simp only [h0, and_self]; done) | (intro h0; simp only [h0, Bool.not_false, Bool.not_true, Bool.true_and, Bool.and_true, true_and, and_true, and_self, imp_self, implies_true, bne_iff_ne, ne_eq, beq_iff_eq]; done) | (intros; simp_all; done) | exact True.intro) ?_)
     refine Zw (t := (cond (decide (s2_.2 < (x14.L.length : Int))) (decide (0 ≤ s2_.1)) false)) rfl (fun c20 => ?_) (fun c20 => ?_)
     ·replace hs2_ := Zv c20 hs2_
      refine Z0 ?_
      try simp only [Zk, Zg]
      refine Zi [1, 2, 3, 8, 9] [true] ?_
      simp only [push_cast, seval, ↓reduceIte]
      refine Zl ?_
      refine Yr ?_
      obtain ⟨x16, hx16, ax16, bx16, cx16, hs2_⟩ := bE (f := Zt) Zg5 (fun _ => rfl) (by decide) hs2_
      have g17 := Zbs (f := Zt) (off := 2) (sz := 14) Zqu (fun _ => rfl) (by decide) (by decide) hx16
      obtain ⟨x18, hx18, ax18, bx18, cx18, hs2_⟩ := bE (f := Zb) V4 (fun _ => rfl) (by decide) hs2_
      obtain ⟨y19, hy19, hs2_⟩ := bC hs2_
      refine Zc Zd [] ?_
      simp only [push_cast, Nat.reduceAdd, Nat.reduceSub, Nat.reduceMul, Nat.reduceLeDiff, Nat.reduceLT, Nat.reduceEqDiff, ↓reduceIte, reduceCtorEq, Int.reduceBEq, Int.reduceBNe, Nat.reduceBEq, Int.reduceLE, Int.reduceLT, Int.reduceEq, Int.reduceNe, Int.reduceNeg, Nat.reduceDiv, Nat.reduceMod, Nat.reducePow, Za, ax16, bx16, cx16, g17, ax18, bx18, cx18, hN0, hN]
      refine (Vg hy19).then ?_
      simp only [push_cast, Nat.reduceAdd, Nat.reduceSub, Nat.reduceMul, Nat.reduceLeDiff, Nat.reduceLT, Nat.reduceEqDiff, ↓reduceIte, reduceCtorEq, Int.reduceBEq, Int.reduceBNe, Nat.reduceBEq, Int.reduceLE, Int.reduceLT, Int.reduceEq, Int.reduceNe, Int.reduceNeg, Nat.reduceDiv, Nat.reduceMod, Nat.reducePow, Za, ax16, bx16, cx16, g17, ax18, bx18, cx18, hN0, hN]
      refine Zi [1, 2, 3, 8, 9] [true] ?_
      simp only [push_cast, seval, ↓reduceIte]
      refine Zc Zd [] ?_
      simp only [push_cast, seval, ↓reduceIte, Za, hN0, hN]
      have hs2_ := Option.some.inj hs2_; subst hs2_
      refine And.intro rfl (Fit2.of (Zj hU rfl rfl ?_) (by omega))
      simp only [push_cast, seval, ↓reduceIte, Za, hN0, hN]
     replace hs2_ := Zu c20 hs2_
     refine Qd ?_
     try simp only [Zk, Zg, ↓reduceIte, Nat.reduceEqDiff]
     have hs2_ := Option.some.inj hs2_; subst hs2_
     refine And.intro (fun h => by cases h) (And.intro rfl (Fit2.of (Zj hU rfl rfl ?_) (by omega)))
     simp only [push_cast, seval, ↓reduceIte, Za, hN0, hN]
    try simp only [Zk, Zg, ↓reduceIte, Nat.reduceEqDiff]
    refine Zi [1, 2, 3, 8] [true] ?_
    simp only [push_cast, seval, ↓reduceIte]
    refine Zr [1, 2, 3, 8, 95] (Zc Zd [] ?_)
    simp only [push_cast, seval, ↓reduceIte, Za, hN0, hN]
    refine Zw (t := (decide (0 ≤ z21))) rfl (fun c25 => ?_) (fun c25 => ?_)
    ·replace hz11 := Zv c25 hz11
     obtain ⟨x22, hx22, ax22, bx22, cx22, hz11⟩ := bE (f := Zt) Zg5 (fun _ => rfl) (by decide) hz11
     have g23 := Zbs (f := Zt) (off := 3) (sz := 14) Zlx (fun _ => rfl) (by decide) (by decide) hx22
     obtain ⟨y24, hy24, hz11⟩ := bC hz11
     refine Zc Zd [] ?_
     simp only [push_cast, Nat.reduceAdd, Nat.reduceSub, Nat.reduceMul, Nat.reduceLeDiff, Nat.reduceLT, Nat.reduceEqDiff, ↓reduceIte, reduceCtorEq, Int.reduceBEq, Int.reduceBNe, Nat.reduceBEq, Int.reduceLE, Int.reduceLT, Int.reduceEq, Int.reduceNe, Int.reduceNeg, Nat.reduceDiv, Nat.reduceMod, Nat.reducePow, Za, ax22, bx22, cx22, g23, hN0, hN]
     refine (Zcj hy24).then ?_
     simp only [push_cast, Nat.reduceAdd, Nat.reduceSub, Nat.reduceMul, Nat.reduceLeDiff, Nat.reduceLT, Nat.reduceEqDiff, ↓reduceIte, reduceCtorEq, Int.reduceBEq, Int.reduceBNe, Nat.reduceBEq, Int.reduceLE, Int.reduceLT, Int.reduceEq, Int.reduceNe, Int.reduceNeg, Nat.reduceDiv, Nat.reduceMod, Nat.reducePow, Za, ax22, bx22, cx22, g23, hN0, hN]
     have hz11 := Option.some.inj hz11; subst hz11
     refine And.intro rfl (Fit2.of (Zj hU rfl rfl ?_) (by omega))
     simp only [push_cast, Nat.reduceAdd, Nat.reduceSub, Nat.reduceMul, Nat.reduceLeDiff, Nat.reduceLT, Nat.reduceEqDiff, ↓reduceIte, reduceCtorEq, Int.reduceBEq, Int.reduceBNe, Nat.reduceBEq, Int.reduceLE, Int.reduceLT, Int.reduceEq, Int.reduceNe, Int.reduceNeg, Nat.reduceDiv, Nat.reduceMod, Nat.reducePow, Za, ax22, bx22, cx22, g23, hN0, hN]
    replace hz11 := Zu c25 hz11
    refine Z0 ?_
    try simp only [Zk, Zg]
    have hz11 := Option.some.inj hz11; subst hz11
    refine And.intro rfl (Fit2.of (Zj hU rfl rfl ?_) (by omega))
    simp only [push_cast, seval, ↓reduceIte, Za, hN0, hN]
   refine Zc Zd [] ?_
   simp only [push_cast, seval, ↓reduceIte, Za, hN0, hN]
   have hs1_ := Option.some.inj hs1_; subst hs1_
   refine And.intro rfl (Fit2.of (Zj hU rfl rfl ?_) (by omega))
   simp only [push_cast, seval, ↓reduceIte, Za, hN0, hN]
  replace hs1_ := Zu c26 hs1_
  refine Qd ?_
  try simp only [Zk, Zg, ↓reduceIte, Nat.reduceEqDiff]
  have hs1_ := Option.some.inj hs1_; subst hs1_
  refine And.intro (fun h => by cases h) (And.intro rfl (Fit2.of (Zj hU rfl rfl ?_) (by omega)))
  simp only [push_cast, seval, ↓reduceIte, Za, hN0, hN]
 try simp only [Zk, Zg, ↓reduceIte, Nat.reduceEqDiff]
 refine Zi [2] [false] ?_
 simp only [push_cast, seval, ↓reduceIte]
 refine Zr [6] (Zc Zd [] ?_)
 simp only [push_cast, seval, ↓reduceIte, Za, hN0, hN]
 refine Z5 ?_
 try simp only [Zk, Zg]
 have h := Option.some.inj h; subst h
 refine Zs (.inr rfl) hU [.val (.int .i64 z27)] (by omega) ?_
 simp only [push_cast, seval, ↓reduceIte, Za, Try.results72, hN0, hN]
theorem Zg9 : ∀ k, (∀ {a0 : S_api_Edit} {a1 : Int} {a2 : Int} {r : Int} {O : Objs} {n : Nat}, (Yd k) a0 a1 a2 = some r → GTo Try.prog 72 [.agg (Zh a0), .val (.int .i64 a1), .val (.int .i64 a2)] O n (.val (.int .i64 r)) O n) := fun k => by
 induction k with
 | zero => exact @fun a0 a1 a2 r O n h => (nomatch (show (none : Option _) = some _ from h))
 | succ k ih => exact @fun a0 a1 a2 r O n h => Zjt (ih)  h
theorem Zkb {a0 : S_api_Edit} {a1 : Int} {a2 : Int} {r : Int} {O : Objs} {n : Nat} (h : Zbd a0 a1 a2 = some r) : GTo Try.prog 72 [.agg (Zh a0), .val (.int .i64 a1), .val (.int .i64 a2)] O n (.val (.int .i64 r)) O n := by
 obtain ⟨k, hk⟩ := Gk h
 exact (Zg9 k)  hk
theorem Zbe {a0 : S_api_Edit} {r : Bool} {O : Objs} {n : Nat} (h : Ul a0 = some r) : GTo Try.prog 43 [.agg (Zh a0)] O n (.val (.bool r)) O n := by
 unfold Ul at h
 refine Xj Zd Try.call43 Try.func43 rfl (Nat.le_of_ble_eq_true rfl) (Nat.le_refl _) fun hU => ?_
 have hN0 : O n = none := hU.fresh _ (Nat.le_refl _)
 have hN : ∀ k, O (n + k) = none := fun k => hU.fresh _ (Nat.le_add_right _ _)
 show W _ _ _ _ ⟨6, [], [(0, .agg (Zh a0))]⟩ (Zy O n []) _
 refine Zr [1] (Zc Zd [] ?_)
 simp only [push_cast, seval, ↓reduceIte, Za, hN0, hN]
 refine Zl ?_
 obtain ⟨y2, hy2, h⟩ := bC h
 refine Zc Zd [] ?_
 simp only [push_cast, seval, ↓reduceIte, Za, hN0, hN]
 refine (Zkb hy2).then ?_
 simp only [push_cast, seval, ↓reduceIte, Za, hN0, hN]
 refine Zi [2] [false] ?_
 simp only [push_cast, seval, ↓reduceIte]
 refine Z5 ?_
 try simp only [Zk, Zg]
 have h := Option.some.inj h; subst h
 refine Zs (.inr rfl) hU [.val (.bool (decide (0 ≤ y2)))] (by omega) ?_
 simp only [push_cast, seval, ↓reduceIte, Za, Try.results43, hN0, hN]
theorem Jf {a0 : S_api_Tree} {r : Bool} {O : Objs} {n : Nat} (h : X6 a0 = some r) : GTo Try.prog 76 [.agg (Ze a0)] O n (.val (.bool r)) O n := by
 unfold X6 at h
 refine Xj Zd Try.call76 Try.func76 rfl (Nat.le_of_ble_eq_true rfl) (Nat.le_refl _) fun hU => ?_
 have hN0 : O n = none := hU.fresh _ (Nat.le_refl _)
 have hN : ∀ k, O (n + k) = none := fun k => hU.fresh _ (Nat.le_add_right _ _)
 show W _ _ _ _ ⟨16, [], [(0, .agg (Ze a0))]⟩ (Zy O n []) _
 refine Zr [1] (Zc Zd [] ?_)
 simp only [push_cast, seval, ↓reduceIte, Za, hN0, hN]
 refine Zr [2] (Zc Zd [none, none, none, none, none, none, none, none] ?_)
 simp only [push_cast, seval, ↓reduceIte, Za, hN0, hN]
 repeat (with_reducible refine And.intro (by first | (intro h0; simp only [h0, and_self]; done) | (intro h0; simp only [h0, Bool.not_false, Bool.not_true, Bool.true_and, Bool.and_true, true_and, and_true, and_self, imp_self, implies_true, bne_iff_ne, ne_eq, beq_iff_eq]; done) | (intros; simp_all; done) | exact True.intro) ?_)
 refine Z5 ?_
 try simp only [Zk, Zg]
 have h := Option.some.inj h; subst h
 refine Zs (.inr rfl) hU [.val (.bool (cond (a0.Kind == 0) ((IntKind.i64.wrap ((a0.Words.length : Int) + (a0.Kids.length : Int))) == 0) false))] (by omega) ?_
 simp only [push_cast, seval, ↓reduceIte, Za, Try.results76, hN0, hN]
theorem Zc1 {a0 : Int} {r : (Arr Int 8)} {O : Objs} {n : Nat} (h : Jb a0 = some r) : GTo Try.prog 123 [.val (.int .u64 a0)] O n (.agg (fl (eI .u8) r.1)) O n := by
 unfold Jb at h
 refine Xj Zd Try.call123 Try.func123 rfl (Nat.le_of_ble_eq_true rfl) (Nat.le_refl _) fun hU => ?_
 have hN0 : O n = none := hU.fresh _ (Nat.le_refl _)
 have hN : ∀ k, O (n + k) = none := fun k => hU.fresh _ (Nat.le_add_right _ _)
 show W _ _ _ _ ⟨18, [], [(0, .val (.int .u64 a0))]⟩ (Zy O n []) _
 obtain ⟨y3, hy3, ey3, h⟩ := bY (f := (eI .u8)) (cs := [.val (.int .u8 0), .val (.int .u8 0), .val (.int .u8 0), .val (.int .u8 0), .val (.int .u8 0), .val (.int .u8 0), .val (.int .u8 0), .val (.int .u8 0)]) rfl h
 have g4 := congrArg (GObj.mk false 134 8 1) ey3
 refine Zr [0, 2] (Zc Zd [] ?_)
 simp only [push_cast, seval, ↓reduceIte, Za, g4, hN0, hN]
 refine Zl ?_
 obtain ⟨y9, hy9, ey9, h⟩ := bY (f := (eI .u8)) (cs := [.val (.int .u8 0), .val (.int .u8 0), .val (.int .u8 0), .val (.int .u8 0), .val (.int .u8 0), .val (.int .u8 0), .val (.int .u8 0), .val (.int .u8 0)]) rfl h
 have g10 := congrArg G.agg ey9
 have g11 := congrArg (GObj.mk false 134 8 1) ey9
 have g12 := Zgg (f := (eI .u8)) y9 y9 (fun _ => rfl)
 refine Zc Zd [] ?_
 simp only [push_cast, seval, ↓reduceIte, Za, g10, g11, g12, hN0, hN]
 refine Zi [0, 2, 3] [true, true] ?_
 simp only [push_cast, seval, ↓reduceIte]
 refine Zl ?_
 refine Zr [0, 2, 3, 4] (Zc Zd [] ?_)
 simp only [push_cast, seval, ↓reduceIte, Za, hN0, hN]
 refine Zi [0, 2, 3, 4] [true, true] ?_
 simp only [push_cast, seval, ↓reduceIte]
 obtain ⟨z18, hz18, h⟩ := bC h
 refine Yq (E' := ⟨18, [], [(2, .ref n 0), (3, .ref (n + 1) 0)]⟩) (O' := (Zy O n [some ⟨false, 134, 8, 1, fl (eI .u8) y3.1⟩, some ⟨false, 134, 8, 1, fl (eI .u8) z18.1⟩])) (n0 := (n + 2)) ?_ ?_
 ·refine Y6 hz18 (fun s0_ => ⟨18, [], [(0, .val (.int .u64 s0_.1)), (2, .ref n 0), (3, .ref (n + 1) 0), (4, .val (.int .i64 s0_.2.1))]⟩) (fun s0_ => (Zy O n [some ⟨false, 134, 8, 1, fl (eI .u8) y3.1⟩, some ⟨false, 134, 8, 1, fl (eI .u8) s0_.2.2.1⟩])) (fun z18 => JX 0 n (⟨18, [], [(2, .ref n 0), (3, .ref (n + 1) 0)]⟩ : Env) (Zy O n [some ⟨false, 134, 8, 1, fl (eI .u8) y3.1⟩, some ⟨false, 134, 8, 1, fl (eI .u8) z18.1⟩]) (n + 2)) ?_
  intro s0_ x0_ hs0_
  unfold Qz at hs0_
  try dsimp only
  refine Zl ?_
  refine Zr [0, 2, 3, 4, 7] (Zc Zd [] ?_)
  simp only [push_cast, seval, ↓reduceIte, Za, hN0, hN]
  refine Zw (t := (decide (s0_.2.1 < 8))) rfl (fun c17 => ?_) (fun c17 => ?_)
  ·replace hs0_ := Zv c17 hs0_
   refine Z0 ?_
   try simp only [Zk, Zg]
   refine Zi [0, 2, 3, 4] [true, true] ?_
   simp only [push_cast, seval, ↓reduceIte]
   refine Zl ?_
   refine Yr ?_
   refine Zl ?_
   obtain ⟨x15, hx15, ax15, bx15, cx15, hs0_⟩ := bEA (f := (eI .u8)) (b := 8) rfl Zrs (fun _ => rfl) (by decide) hs0_
   have gu16 : K8 (fl (eI .u8) s0_.2.2.1) [.val (.int .u8 (IntKind.u8.wrap (Int.tmod s0_.1 256)))] (Int.toNat s0_.2.1 * 1) = some (fl (eI .u8) (Zav s0_.2.2.1 s0_.2.1 (IntKind.u8.wrap (Int.tmod s0_.1 256)))) := Zfm (f := (eI .u8)) (ti := ⟨.bool, 1, 0, [], false⟩) (x := (IntKind.u8.wrap (Int.tmod s0_.1 256))) (fun _ => rfl) (Za9 hx15)
   refine Zc Zd [] ?_
   simp only [push_cast, Nat.reduceAdd, Nat.reduceSub, Nat.reduceMul, Nat.reduceLeDiff, Nat.reduceLT, Nat.reduceEqDiff, ↓reduceIte, reduceCtorEq, Int.reduceBEq, Int.reduceBNe, Nat.reduceBEq, Int.reduceLE, Int.reduceLT, Int.reduceEq, Int.reduceNe, Int.reduceNeg, Nat.reduceDiv, Nat.reduceMod, Nat.reducePow, Za, ax15, bx15, cx15, gu16, hN0, hN]
   refine Zi [0, 2, 3, 4] [true, true] ?_
   simp only [push_cast, seval, ↓reduceIte]
   refine Zc Zd [] ?_
   simp only [push_cast, seval, ↓reduceIte, Za, hN0, hN]
   refine Zi [0, 2, 3, 4] [true, true] ?_
   simp only [push_cast, seval, ↓reduceIte]
   refine Zc Zd [] ?_
   simp only [push_cast, seval, ↓reduceIte, Za, hN0, hN]
   have hs0_ := Option.some.inj hs0_; subst hs0_
   refine And.intro rfl (Fit2.of (Zj hU rfl rfl ?_) (by omega))
   simp only [push_cast, seval, ↓reduceIte, Za, hN0, hN]
  replace hs0_ := Zu c17 hs0_
  refine Qd ?_
  try simp only [Zk, Zg, ↓reduceIte, Nat.reduceEqDiff]
  have hs0_ := Option.some.inj hs0_; subst hs0_
  refine And.intro (fun h => by cases h) (And.intro rfl (Fit2.of (Zj hU rfl rfl ?_) (by omega)))
  simp only [push_cast, seval, ↓reduceIte, Za, hN0, hN]
 try simp only [Zk, Zg, ↓reduceIte, Nat.reduceEqDiff]
 refine Zi [2, 3] [true, true] ?_
 simp only [push_cast, seval, ↓reduceIte]
 refine Zl ?_
 have g21 := Zr3 (f := (eI .u8)) z18 Zkh rfl (fun _ => rfl) rfl
 have g22 := Zgg (f := (eI .u8)) y3 z18 (fun _ => rfl)
 refine Zc Zd [] ?_
 simp only [push_cast, seval, ↓reduceIte, Za, g21, g22, hN0, hN]
 refine Zi [2] [true, false] ?_
 simp only [push_cast, seval, ↓reduceIte]
 refine Z5 ?_
 try simp only [Zk, Zg]
 have h := Option.some.inj h; subst h
 have gR0 := Zr3 (f := (eI .u8)) z18 Zkh rfl (fun _ => rfl) rfl
 refine Zs (.inr rfl) hU [.agg (fl (eI .u8) z18.1)] (by omega) ?_
 simp only [push_cast, seval, ↓reduceIte, Za, Try.results123, hN0, hN, gR0]
theorem Zjn {a0 : Int} {a1 : Int} {r : Bool} {O : Objs} {n : Nat} (h : Va a0 a1 = some r) : GTo Try.prog 124 [.val (.int .u8 a0), .val (.int .i64 a1)] O n (.val (.bool r)) O n := by
 unfold Va at h
 refine Xj Zd Try.call124 Try.func124 rfl (Nat.le_of_ble_eq_true rfl) (Nat.le_refl _) fun hU => ?_
 have hN0 : O n = none := hU.fresh _ (Nat.le_refl _)
 have hN : ∀ k, O (n + k) = none := fun k => hU.fresh _ (Nat.le_add_right _ _)
 show W _ _ _ _ ⟨16, [], [(0, .val (.int .u8 a0)), (1, .val (.int .i64 a1))]⟩ (Zy O n []) _
 refine Zr [0, 1] (Zc Zd [] ?_)
 simp only [push_cast, seval, ↓reduceIte, Za, hN0, hN]
 refine Zl ?_
 refine Zr [0, 1, 5] (Zc Zd [] ?_)
 simp only [push_cast, seval, ↓reduceIte, Za, hN0, hN]
 refine Zi [0, 1, 5] [] ?_
 simp only [push_cast, seval, ↓reduceIte]
 obtain ⟨z2, hz2, h⟩ := bC h
 refine Yq (E' := ⟨16, [], [(0, .val (.int .u8 z2))]⟩) (O' := (Zy O n [])) (n0 := n) ?_ ?_
 ·refine Y6 hz2 (fun s0_ => ⟨16, [], [(0, .val (.int .u8 s0_.1)), (1, .val (.int .i64 a1)), (5, .val (.int .i64 s0_.2))]⟩) (fun s0_ => (Zy O n [])) (fun z2 => JX 0 n (⟨16, [], [(0, .val (.int .u8 z2))]⟩ : Env) (Zy O n []) n) ?_
  intro s0_ x0_ hs0_
  unfold Qb at hs0_
  try dsimp only
  refine Zl ?_
  refine Zr [0, 1, 5, 8] (Zc Zd [] ?_)
  simp only [push_cast, seval, ↓reduceIte, Za, hN0, hN]
  refine Zw (t := (decide (s0_.2 < a1))) rfl (fun c1 => ?_) (fun c1 => ?_)
  ·replace hs0_ := Zv c1 hs0_
   refine Z0 ?_
   try simp only [Zk, Zg]
   refine Zi [0, 1, 5] [] ?_
   simp only [push_cast, seval, ↓reduceIte]
   refine Zl ?_
   refine Yr ?_
   refine Zc Zd [] ?_
   simp only [push_cast, seval, ↓reduceIte, Za, hN0, hN]
   refine Zi [0, 1, 5] [] ?_
   simp only [push_cast, seval, ↓reduceIte]
   refine Zc Zd [] ?_
   simp only [push_cast, seval, ↓reduceIte, Za, hN0, hN]
   have hs0_ := Option.some.inj hs0_; subst hs0_
   refine And.intro rfl (Fit2.of (Zj hU rfl rfl ?_) (by omega))
   simp only [push_cast, seval, ↓reduceIte, Za, hN0, hN]
  replace hs0_ := Zu c1 hs0_
  refine Qd ?_
  try simp only [Zk, Zg, ↓reduceIte, Nat.reduceEqDiff]
  have hs0_ := Option.some.inj hs0_; subst hs0_
  refine And.intro (fun h => by cases h) (And.intro rfl (Fit2.of (Zj hU rfl rfl ?_) (by omega)))
  simp only [push_cast, seval, ↓reduceIte, Za, hN0, hN]
 try simp only [Zk, Zg, ↓reduceIte, Nat.reduceEqDiff]
 refine Zi [0] [] ?_
 simp only [push_cast, seval, ↓reduceIte]
 refine Zr [4] (Zc Zd [] ?_)
 simp only [push_cast, seval, ↓reduceIte, Za, hN0, hN]
 refine Z5 ?_
 try simp only [Zk, Zg]
 have h := Option.some.inj h; subst h
 refine Zs (.inr rfl) hU [.val (.bool ((Int.tmod z2 2) == 1))] (by omega) ?_
 simp only [push_cast, seval, ↓reduceIte, Za, Try.results124, hN0, hN]
theorem Zne {a0 : (List Int)} {a1 : Int} {r : Int} {O : Objs} {n : Nat} (h : Zan a0 a1 = some r) : GTo Try.prog 125 [.sl a0.length (fl (eI .u8) a0), .val (.int .i64 a1)] O n (.val (.int .u64 r)) O n := by
 unfold Zan at h
 refine Xj Zd Try.call125 Try.func125 rfl (Nat.le_of_ble_eq_true rfl) (Nat.le_refl _) fun hU => ?_
 have hN0 : O n = none := hU.fresh _ (Nat.le_refl _)
 have hN : ∀ k, O (n + k) = none := fun k => hU.fresh _ (Nat.le_add_right _ _)
 show W _ _ _ _ ⟨22, [], [(0, .sl a0.length (fl (eI .u8) a0)), (1, .val (.int .i64 a1))]⟩ (Zy O n []) _
 refine Zr [0, 1] (Zc Zd [] ?_)
 simp only [push_cast, seval, ↓reduceIte, Za, hN0, hN]
 refine Zr [0, 1, 5] (Zc Zd [] ?_)
 simp only [push_cast, seval, ↓reduceIte, Za, hN0, hN]
 refine Zl ?_
 refine Zr [0, 1, 5, 6] (Zc Zd [] ?_)
 simp only [push_cast, seval, ↓reduceIte, Za, hN0, hN]
 refine Zi [0, 1, 5, 6] [] ?_
 simp only [push_cast, seval, ↓reduceIte]
 obtain ⟨z3, hz3, h⟩ := bC h
 refine Yq (E' := ⟨22, [], [(5, .val (.int .u64 z3))]⟩) (O' := (Zy O n [])) (n0 := n) ?_ ?_
 ·refine Y6 hz3 (fun s0_ => ⟨22, [], [(0, .sl a0.length (fl (eI .u8) a0)), (1, .val (.int .i64 a1)), (5, .val (.int .u64 s0_.1)), (6, .val (.int .i64 s0_.2))]⟩) (fun s0_ => (Zy O n [])) (fun z3 => JX 0 n (⟨22, [], [(5, .val (.int .u64 z3))]⟩ : Env) (Zy O n []) n) ?_
  intro s0_ x0_ hs0_
  unfold Vb at hs0_
  try dsimp only
  refine Zl ?_
  refine Zr [0, 1, 5, 6, 8] (Zc Zd [] ?_)
  simp only [push_cast, seval, ↓reduceIte, Za, hN0, hN]
  refine Zw (t := (decide (0 ≤ s0_.2))) rfl (fun c2 => ?_) (fun c2 => ?_)
  ·replace hs0_ := Zv c2 hs0_
   refine Z0 ?_
   try simp only [Zk, Zg]
   refine Zi [0, 1, 5, 6] [] ?_
   simp only [push_cast, seval, ↓reduceIte]
   refine Zl ?_
   refine Yr ?_
   obtain ⟨x1, hx1, ax1, bx1, cx1, hs0_⟩ := bE (f := (eI .u8)) Zrs (fun _ => rfl) (by decide) hs0_
   refine Zc Zd [] ?_
   simp only [push_cast, Nat.reduceAdd, Nat.reduceSub, Nat.reduceMul, Nat.reduceLeDiff, Nat.reduceLT, Nat.reduceEqDiff, ↓reduceIte, reduceCtorEq, Int.reduceBEq, Int.reduceBNe, Nat.reduceBEq, Int.reduceLE, Int.reduceLT, Int.reduceEq, Int.reduceNe, Int.reduceNeg, Nat.reduceDiv, Nat.reduceMod, Nat.reducePow, Za, ax1, bx1, cx1, hN0, hN]
   refine Zi [0, 1, 5, 6] [] ?_
   simp only [push_cast, seval, ↓reduceIte]
   refine Zc Zd [] ?_
   simp only [push_cast, seval, ↓reduceIte, Za, hN0, hN]
   have hs0_ := Option.some.inj hs0_; subst hs0_
   refine And.intro rfl (Fit2.of (Zj hU rfl rfl ?_) (by omega))
   simp only [push_cast, seval, ↓reduceIte, Za, hN0, hN]
  replace hs0_ := Zu c2 hs0_
  refine Qd ?_
  try simp only [Zk, Zg, ↓reduceIte, Nat.reduceEqDiff]
  have hs0_ := Option.some.inj hs0_; subst hs0_
  refine And.intro (fun h => by cases h) (And.intro rfl (Fit2.of (Zj hU rfl rfl ?_) (by omega)))
  simp only [push_cast, seval, ↓reduceIte, Za, hN0, hN]
 try simp only [Zk, Zg, ↓reduceIte, Nat.reduceEqDiff]
 refine Zi [5] [] ?_
 simp only [push_cast, seval, ↓reduceIte]
 refine Zr [4] (Zc Zd [] ?_)
 simp only [push_cast, seval, ↓reduceIte, Za, hN0, hN]
 refine Z5 ?_
 try simp only [Zk, Zg]
 have h := Option.some.inj h; subst h
 refine Zs (.inr rfl) hU [.val (.int .u64 z3)] (by omega) ?_
 simp only [push_cast, seval, ↓reduceIte, Za, Try.results125, hN0, hN]
theorem Zk9 {a0 : Int} {a1 : Int} {a2 : Int} {r : Int} {O : Objs} {n : Nat} (h : Uj a0 a1 a2 = some r) : GTo Try.prog 109 [.val (.int .u64 a0), .val (.int .u64 a1), .val (.int .u8 a2)] O n (.val (.int .u64 r)) O n := by
 unfold Uj at h
 refine Xj Zd Try.call109 Try.func109 rfl (Nat.le_of_ble_eq_true rfl) (Nat.le_refl _) fun hU => ?_
 have hN0 : O n = none := hU.fresh _ (Nat.le_refl _)
 have hN : ∀ k, O (n + k) = none := fun k => hU.fresh _ (Nat.le_add_right _ _)
 show W _ _ _ _ ⟨28, [], [(0, .val (.int .u64 a0)), (1, .val (.int .u64 a1)), (2, .val (.int .u8 a2))]⟩ (Zy O n []) _
 refine Zr [0, 1, 2] (Zc Zd [] ?_)
 simp only [push_cast, seval, ↓reduceIte, Za, hN0, hN]
 refine Zl ?_
 obtain ⟨y8, hy8, h⟩ := bC h
 obtain ⟨y9, hy9, h⟩ := bC h
 obtain ⟨y10, hy10, ey10, h⟩ := bY (f := (eI .u8)) (cs := [.val (.int .u8 0), .val (.int .u8 0), .val (.int .u8 0), .val (.int .u8 0), .val (.int .u8 0), .val (.int .u8 0), .val (.int .u8 0), .val (.int .u8 0)]) rfl h
 have g11 := congrArg (GObj.mk false 134 8 1) ey10
 have g12 := congrArg (GObj.mk false 134 8 1) ey10
 have g13 := Zgg (f := (eI .u8)) y10 y8 (fun _ => rfl)
 have g14 := Zgg (f := (eI .u8)) y10 y9 (fun _ => rfl)
 refine Zc Zd [] ?_
 simp only [push_cast, seval, ↓reduceIte, Za, g11, g12, g13, g14, hN0, hN]
 refine (Zc1 hy8).then ?_
 simp only [push_cast, seval, ↓reduceIte, Za, g11, g12, g13, g14, hN0, hN]
 refine (Zc1 hy9).then ?_
 simp only [push_cast, seval, ↓reduceIte, Za, g11, g12, g13, g14, hN0, hN]
 refine Zi [2, 7, 8] [true, true] ?_
 simp only [push_cast, seval, ↓reduceIte]
 refine Zl ?_
 refine Zr [2, 7, 8, 9] (Zc Zd [] ?_)
 simp only [push_cast, seval, ↓reduceIte, Za, hN0, hN]
 refine Zi [2, 7, 8, 9] [true, true] ?_
 simp only [push_cast, seval, ↓reduceIte]
 obtain ⟨z23, hz23, h⟩ := bC h
 refine Yq (E' := ⟨28, [], [(7, .ref n 0)]⟩) (O' := (Zy O n [some ⟨false, 134, 8, 1, fl (eI .u8) z23.1⟩, none])) (n0 := (n + 2)) ?_ ?_
 ·refine Y6 hz23 (fun s0_ => ⟨28, [], [(2, .val (.int .u8 a2)), (7, .ref n 0), (8, .ref (n + 1) 0), (9, .val (.int .i64 s0_.1))]⟩) (fun s0_ => (Zy O n [some ⟨false, 134, 8, 1, fl (eI .u8) s0_.2.1⟩, some ⟨false, 134, 8, 1, fl (eI .u8) y9.1⟩])) (fun z23 => JX 0 n (⟨28, [], [(7, .ref n 0)]⟩ : Env) (Zy O n [some ⟨false, 134, 8, 1, fl (eI .u8) z23.1⟩, none]) (n + 2)) ?_
  intro s0_ x0_ hs0_
  unfold Km at hs0_
  try dsimp only
  refine Zl ?_
  refine Zr [2, 7, 8, 9, 15] (Zc Zd [] ?_)
  simp only [push_cast, seval, ↓reduceIte, Za, hN0, hN]
  refine Zw (t := (decide (s0_.1 < 8))) rfl (fun c22 => ?_) (fun c22 => ?_)
  ·replace hs0_ := Zv c22 hs0_
   refine Z0 ?_
   try simp only [Zk, Zg]
   refine Zi [2, 7, 8, 9] [true, true] ?_
   simp only [push_cast, seval, ↓reduceIte]
   obtain ⟨z15, hz15, hs0_⟩ := bC hs0_
   refine Xg (E' := ⟨28, [], [(2, .val (.int .u8 a2)), (7, .ref n 0), (8, .ref (n + 1) 0), (9, .val (.int .i64 s0_.1))]⟩) (O' := (Zy O n [some ⟨false, 134, 8, 1, fl (eI .u8) z15.1⟩, some ⟨false, 134, 8, 1, fl (eI .u8) y9.1⟩])) (n0 := (n + 2)) ?_ ?_
   ·refine Yr ?_
    refine Zl ?_
    obtain ⟨y17, hy17, hz15⟩ := bC hz15
    refine Zc Zd [] ?_
    simp only [push_cast, seval, ↓reduceIte, Za, hN0, hN]
    refine (Zjn hy17).then ?_
    simp only [push_cast, seval, ↓reduceIte, Za, hN0, hN]
    refine Zi [2, 7, 8, 9, 20] [true, true] ?_
    simp only [push_cast, seval, ↓reduceIte]
    refine Zw (t := y17) rfl (fun c21 => ?_) (fun c21 => ?_)
    ·replace hz15 := Zv c21 hz15
     obtain ⟨x18, hx18, ax18, bx18, cx18, hz15⟩ := bEA (f := (eI .u8)) (b := 8) rfl Zrs (fun _ => rfl) (by decide) hz15
     obtain ⟨x19, hx19, ax19, bx19, cx19, hz15⟩ := bEA (f := (eI .u8)) (b := 8) rfl Zrs (fun _ => rfl) (by decide) hz15
     have gu20 : K8 (fl (eI .u8) s0_.2.1) [.val (.int .u8 x18)] (Int.toNat s0_.1 * 1) = some (fl (eI .u8) (Zav s0_.2.1 s0_.1 x18)) := Zfm (f := (eI .u8)) (ti := ⟨.bool, 1, 0, [], false⟩) (x := x18) (fun _ => rfl) (Za9 hx19)
     refine Zc Zd [] ?_
     simp only [push_cast, Nat.reduceAdd, Nat.reduceSub, Nat.reduceMul, Nat.reduceLeDiff, Nat.reduceLT, Nat.reduceEqDiff, ↓reduceIte, reduceCtorEq, Int.reduceBEq, Int.reduceBNe, Nat.reduceBEq, Int.reduceLE, Int.reduceLT, Int.reduceEq, Int.reduceNe, Int.reduceNeg, Nat.reduceDiv, Nat.reduceMod, Nat.reducePow, Za, ax18, bx18, cx18, ax19, bx19, cx19, gu20, hN0, hN]
     have hz15 := Option.some.inj hz15; subst hz15
     refine And.intro rfl (Fit2.of (Zj hU rfl rfl ?_) (by omega))
     simp only [push_cast, Nat.reduceAdd, Nat.reduceSub, Nat.reduceMul, Nat.reduceLeDiff, Nat.reduceLT, Nat.reduceEqDiff, ↓reduceIte, reduceCtorEq, Int.reduceBEq, Int.reduceBNe, Nat.reduceBEq, Int.reduceLE, Int.reduceLT, Int.reduceEq, Int.reduceNe, Int.reduceNeg, Nat.reduceDiv, Nat.reduceMod, Nat.reducePow, Za, ax18, bx18, cx18, ax19, bx19, cx19, gu20, hN0, hN]
    replace hz15 := Zu c21 hz15
    refine Z0 ?_
    try simp only [Zk, Zg]
    have hz15 := Option.some.inj hz15; subst hz15
    refine And.intro rfl (Fit2.of (Zj hU rfl rfl ?_) (by omega))
    simp only [push_cast, seval, ↓reduceIte, Za, hN0, hN]
   refine Zc Zd [] ?_
   simp only [push_cast, seval, ↓reduceIte, Za, hN0, hN]
   have hs0_ := Option.some.inj hs0_; subst hs0_
   refine And.intro rfl (Fit2.of (Zj hU rfl rfl ?_) (by omega))
   simp only [push_cast, seval, ↓reduceIte, Za, hN0, hN]
  replace hs0_ := Zu c22 hs0_
  refine Qd ?_
  try simp only [Zk, Zg, ↓reduceIte, Nat.reduceEqDiff]
  have hs0_ := Option.some.inj hs0_; subst hs0_
  refine And.intro (fun h => by cases h) (And.intro rfl (Fit2.of (Zj hU rfl rfl ?_) (by omega)))
  simp only [push_cast, seval, ↓reduceIte, Za, hN0, hN]
 try simp only [Zk, Zg, ↓reduceIte, Nat.reduceEqDiff]
 refine Zi [7] [true, false] ?_
 simp only [push_cast, seval, ↓reduceIte]
 refine Zl ?_
 have g27 := Zwr (j := n) Zf7 Zrs (by decide)
 have g28 := z23.2
 obtain ⟨y29, hy29, h⟩ := bC h
 refine Zc Zd [] ?_
 simp only [push_cast, seval, ↓reduceIte, Za, g27, g28, hN0, hN]
 refine GCalls.lend (Zne hy29) rfl ?_ ?_
 ·simp only [push_cast, seval, ↓reduceIte, Za, g27, g28, hN0, hN]
 simp only [push_cast, seval, ↓reduceIte, Za, g27, g28, hN0, hN]
 refine Zi [6] [false, false] ?_
 simp only [push_cast, seval, ↓reduceIte]
 refine Z5 ?_
 try simp only [Zk, Zg]
 have h := Option.some.inj h; subst h
 refine Zs (.inr rfl) hU [.val (.int .u64 y29)] (by omega) ?_
 simp only [push_cast, seval, ↓reduceIte, Za, Try.results109, hN0, hN]
theorem Gq {a0 : Int} {a1 : Int} {r : Bool} {O : Objs} {n : Nat} (h : Qr a0 a1 = some r) : GTo Try.prog 77 [.val (.int .u64 a0), .val (.int .u8 a1)] O n (.val (.bool r)) O n := by
 unfold Qr at h
 refine Xj Zd Try.call77 Try.func77 rfl (Nat.le_of_ble_eq_true rfl) (Nat.le_refl _) fun hU => ?_
 have hN0 : O n = none := hU.fresh _ (Nat.le_refl _)
 have hN : ∀ k, O (n + k) = none := fun k => hU.fresh _ (Nat.le_add_right _ _)
 show W _ _ _ _ ⟨9, [], [(0, .val (.int .u64 a0)), (1, .val (.int .u8 a1))]⟩ (Zy O n []) _
 refine Zr [0, 1] (Zc Zd [] ?_)
 simp only [push_cast, seval, ↓reduceIte, Za, hN0, hN]
 refine Zl ?_
 obtain ⟨y2, hy2, h⟩ := bC h
 refine Zc Zd [] ?_
 simp only [push_cast, seval, ↓reduceIte, Za, hN0, hN]
 refine (Zk9 hy2).then ?_
 simp only [push_cast, seval, ↓reduceIte, Za, hN0, hN]
 refine Zi [4] [] ?_
 simp only [push_cast, seval, ↓reduceIte]
 refine Z5 ?_
 try simp only [Zk, Zg]
 have h := Option.some.inj h; subst h
 refine Zs (.inr rfl) hU [.val (.bool (y2 == 0))] (by omega) ?_
 simp only [push_cast, seval, ↓reduceIte, Za, Try.results77, hN0, hN]
theorem Zdp {a0 : S_api_Edit} {r : Bool} {O : Objs} {n : Nat} (h : Kc a0 = some r) : GTo Try.prog 110 [.agg (Zh a0)] O n (.val (.bool r)) O n := by
 unfold Kc at h
 refine Xj Zd Try.call110 Try.func110 rfl (Nat.le_of_ble_eq_true rfl) (Nat.le_refl _) fun hU => ?_
 have hN0 : O n = none := hU.fresh _ (Nat.le_refl _)
 have hN : ∀ k, O (n + k) = none := fun k => hU.fresh _ (Nat.le_add_right _ _)
 show W _ _ _ _ ⟨35, [], [(0, .agg (Zh a0))]⟩ (Zy O n []) _
 refine Zr [1] (Zc Zd [] ?_)
 simp only [push_cast, seval, ↓reduceIte, Za, hN0, hN]
 obtain ⟨z3, hz3, h⟩ := bC h
 refine Xg (E' := ⟨35, [], [(2, .val (.bool z3))]⟩) (O' := (Zy O n [none])) (n0 := (n + 1)) ?_ ?_
 ·rcases Bool.eq_false_or_eq_true (a0.Kind == 0) with c8 | c8
  ·replace hz3 := Zv c8 hz3
   obtain ⟨y6, hy6, hz3⟩ := bC hz3
   rcases Bool.eq_false_or_eq_true y6 with c9 | c9
   ·replace hz3 := Zv c9 hz3
    try rw [c9] at c8
    obtain ⟨y7, hy7, hz3⟩ := bC hz3
    refine Zc Zd [some true, some true, some true, some true, some true, some true, none, none, none, none, none, none, none, none, none, none, none, none, none, none, none] ?_
    simp only [push_cast, seval, ↓reduceIte, Za, c8, c9, hN0, hN]
    repeat (with_reducible refine And.intro (by first | (intro h0; simp only [h0, and_self]; done) | (intro h0; simp only [h0, Bool.not_false, Bool.not_true, Bool.true_and, Bool.and_true, true_and, and_true, and_self, imp_self, implies_true, bne_iff_ne, ne_eq, beq_iff_eq]; done) | (intros; simp_all; done) | exact True.intro) ?_)
    refine (Jf hy6).then ?_
    simp only [push_cast, seval, ↓reduceIte, Za, c8, c9, hN0, hN]
    repeat (with_reducible refine And.intro (by first | (intro h0; simp only [h0, and_self]; done) | (intro h0; simp only [h0, Bool.not_false, Bool.not_true, Bool.true_and, Bool.and_true, true_and, and_true, and_self, imp_self, implies_true, bne_iff_ne, ne_eq, beq_iff_eq]; done) | (intros; simp_all; done) | exact True.intro) ?_)
    refine (Jf hy7).then ?_
    simp only [push_cast, seval, ↓reduceIte, Za, c8, c9, hN0, hN]
    repeat (with_reducible refine And.intro (by first | (intro h0; simp only [h0, and_self]; done) | (intro h0; simp only [h0, Bool.not_false, Bool.not_true, Bool.true_and, Bool.and_true, true_and, and_true, and_self, imp_self, implies_true, bne_iff_ne, ne_eq, beq_iff_eq]; done) | (intros; simp_all; done) | exact True.intro) ?_)
    have hz3 := Option.some.inj hz3; subst hz3
    refine And.intro rfl (Fit2.of (Zj hU rfl rfl ?_) (by omega))
    simp only [push_cast, seval, ↓reduceIte, Za, c8, c9, hN0, hN]
   replace hz3 := Zu c9 hz3
   try rw [c9] at c8
   refine Zc Zd [some true, some true, some true, some false, some false, some false, some false, some false, some false, some false, some false, some false, some false, some false, some false, some false, some false, some false, some false, some false, some false] ?_
   simp only [push_cast, seval, ↓reduceIte, Za, c8, c9, hN0, hN]
   refine (Jf hy6).then ?_
   simp only [push_cast, seval, ↓reduceIte, Za, c8, c9, hN0, hN]
   have hz3 := Option.some.inj hz3; subst hz3
   refine And.intro rfl (Fit2.of (Zj hU rfl rfl ?_) (by omega))
   simp only [push_cast, seval, ↓reduceIte, Za, c8, c9, hN0, hN]
  replace hz3 := Zu c8 hz3
  refine Zc Zd [some false, some false, some false, some false, some false, some false, some false, some false, some false, some false, some false, some false, some false, some false, some false, some false, some false, some false, some false, some false, some false] ?_
  simp only [push_cast, seval, ↓reduceIte, Za, c8, hN0, hN]
  have hz3 := Option.some.inj hz3; subst hz3
  refine And.intro rfl (Fit2.of (Zj hU rfl rfl ?_) (by omega))
  simp only [push_cast, seval, ↓reduceIte, Za, c8, hN0, hN]
 refine Z5 ?_
 try simp only [Zk, Zg]
 have h := Option.some.inj h; subst h
 refine Zs (.inr rfl) hU [.val (.bool z3)] (by omega) ?_
 simp only [push_cast, seval, ↓reduceIte, Za, Try.results110, hN0, hN]
theorem Zbn {a0 : S_api_Edit} {r : (Int × Int)} {O : Objs} {n : Nat} (h : Qh a0 = some r) : GTo Try.prog 46 [.agg (Zh a0)] O n (.tup [.val (.int .i64 r.1), .val (.int .i64 r.2)]) O n := by
 unfold Qh at h
 refine Xj Zd Try.call46 Try.func46 rfl (Nat.le_of_ble_eq_true rfl) (Nat.le_refl _) fun hU => ?_
 have hN0 : O n = none := hU.fresh _ (Nat.le_refl _)
 have hN : ∀ k, O (n + k) = none := fun k => hU.fresh _ (Nat.le_add_right _ _)
 show W _ _ _ _ ⟨48, [], [(0, .agg (Zh a0))]⟩ (Zy O n []) _
 refine Zr [1] (Zc Zd [] ?_)
 simp only [push_cast, seval, ↓reduceIte, Za, hN0, hN]
 refine Zr [1, 4, 5] (Zc Zd [] ?_)
 simp only [push_cast, seval, ↓reduceIte, Za, hN0, hN]
 refine Zl ?_
 refine Zr [1, 4, 5, 6] (Zc Zd [] ?_)
 simp only [push_cast, seval, ↓reduceIte, Za, hN0, hN]
 refine Zi [1, 4, 5, 6] [true] ?_
 simp only [push_cast, seval, ↓reduceIte]
 obtain ⟨z14, hz14, h⟩ := bC h
 refine Yq (E' := ⟨48, [], [(4, .val (.int .i64 z14.1)), (5, .val (.int .i64 z14.2))]⟩) (O' := (Zy O n [none])) (n0 := (n + 1)) ?_ ?_
 ·refine Y6 hz14 (fun s0_ => ⟨48, [], [(1, .ref n 0), (4, .val (.int .i64 s0_.1)), (5, .val (.int .i64 s0_.2.1)), (6, .val (.int .i64 s0_.2.2))]⟩) (fun s0_ => (Zy O n [some ⟨false, 54, 11, 1, (Zh a0)⟩])) (fun z14 => JX 0 n (⟨48, [], [(4, .val (.int .i64 z14.1)), (5, .val (.int .i64 z14.2))]⟩ : Env) (Zy O n [none]) (n + 1)) ?_
  intro s0_ x0_ hs0_
  unfold Qi at hs0_
  try dsimp only
  refine Zl ?_
  refine Zr [1, 4, 5, 6, 13] (Zc Zd [] ?_)
  simp only [push_cast, seval, ↓reduceIte, Za, hN0, hN]
  refine Zw (t := (decide (s0_.2.2 < (a0.Ops.length : Int)))) rfl (fun c13 => ?_) (fun c13 => ?_)
  ·replace hs0_ := Zv c13 hs0_
   refine Z0 ?_
   try simp only [Zk, Zg]
   refine Zi [1, 4, 5, 6] [true] ?_
   simp only [push_cast, seval, ↓reduceIte]
   obtain ⟨z1, hz1, hs0_⟩ := bC hs0_
   refine Xg (E' := ⟨48, [], [(1, .ref n 0), (4, .val (.int .i64 z1.1)), (5, .val (.int .i64 z1.2)), (6, .val (.int .i64 s0_.2.2))]⟩) (O' := (Zy O n [some ⟨false, 54, 11, 1, (Zh a0)⟩, none])) (n0 := (n + 2)) ?_ ?_
   ·refine Yr ?_
    refine Zl ?_
    obtain ⟨x3, hx3, ax3, bx3, cx3, hz1⟩ := bE (f := Zt) Zg5 (fun _ => rfl) (by decide) hz1
    refine Zc Zd [] ?_
    simp only [push_cast, Nat.reduceAdd, Nat.reduceSub, Nat.reduceMul, Nat.reduceLeDiff, Nat.reduceLT, Nat.reduceEqDiff, ↓reduceIte, reduceCtorEq, Int.reduceBEq, Int.reduceBNe, Nat.reduceBEq, Int.reduceLE, Int.reduceLT, Int.reduceEq, Int.reduceNe, Int.reduceNeg, Nat.reduceDiv, Nat.reduceMod, Nat.reducePow, Za, ax3, bx3, cx3, hN0, hN]
    refine Zi [1, 4, 5, 6, 7] [true, true] ?_
    simp only [push_cast, seval, ↓reduceIte]
    refine Zr [1, 4, 5, 6, 7, 8] (Zc Zd [] ?_)
    simp only [push_cast, seval, ↓reduceIte, Za, hN0, hN]
    obtain ⟨z4, hz4, hz1⟩ := bC hz1
    refine Xg (E' := ⟨48, [], [(1, .ref n 0), (4, .val (.int .i64 s0_.1)), (5, .val (.int .i64 s0_.2.1)), (6, .val (.int .i64 s0_.2.2)), (7, .ref (n + 1) 0), (8, .val (.int .i64 z4))]⟩) (O' := (Zy O n [some ⟨false, 54, 11, 1, (Zh a0)⟩, some ⟨false, 64, 14, 1, (Ym x3)⟩])) (n0 := (n + 2)) ?_ ?_
    ·refine Zr [1, 4, 5, 6, 7, 8, 29] (Zc Zd [] ?_)
     simp only [push_cast, seval, ↓reduceIte, Za, hN0, hN]
     refine Zw (t := (x3.Kind == 3)) rfl (fun c5 => ?_) (fun c5 => ?_)
     ·replace hz4 := Zv c5 hz4
      refine Zc Zd [] ?_
      simp only [push_cast, seval, ↓reduceIte, Za, hN0, hN]
      have hz4 := Option.some.inj hz4; subst hz4
      refine And.intro rfl (Fit2.of (Zj hU rfl rfl ?_) (by omega))
      simp only [push_cast, seval, ↓reduceIte, Za, hN0, hN]
     replace hz4 := Zu c5 hz4
     refine Z0 ?_
     try simp only [Zk, Zg]
     have hz4 := Option.some.inj hz4; subst hz4
     refine And.intro rfl (Fit2.of (Zj hU rfl rfl ?_) (by omega))
     simp only [push_cast, seval, ↓reduceIte, Za, hN0, hN]
    obtain ⟨z6, hz6, hz1⟩ := bC hz1
    refine Xg (E' := ⟨48, [], [(1, .ref n 0), (4, .val (.int .i64 z6)), (5, .val (.int .i64 s0_.2.1)), (6, .val (.int .i64 s0_.2.2)), (7, .ref (n + 1) 0), (8, .val (.int .i64 z4))]⟩) (O' := (Zy O n [some ⟨false, 54, 11, 1, (Zh a0)⟩, some ⟨false, 64, 14, 1, (Ym x3)⟩])) (n0 := (n + 2)) ?_ ?_
    ·refine Zr [1, 4, 5, 6, 7, 8, 32] (Zc Zd [] ?_)
     simp only [push_cast, seval, ↓reduceIte, Za, hN0, hN]
     refine Zw (t := (x3.Kind != 2)) rfl (fun c7 => ?_) (fun c7 => ?_)
     ·replace hz6 := Zv c7 hz6
      refine Zc Zd [] ?_
      simp only [push_cast, seval, ↓reduceIte, Za, hN0, hN]
      have hz6 := Option.some.inj hz6; subst hz6
      refine And.intro rfl (Fit2.of (Zj hU rfl rfl ?_) (by omega))
      simp only [push_cast, seval, ↓reduceIte, Za, hN0, hN]
     replace hz6 := Zu c7 hz6
     refine Z0 ?_
     try simp only [Zk, Zg]
     have hz6 := Option.some.inj hz6; subst hz6
     refine And.intro rfl (Fit2.of (Zj hU rfl rfl ?_) (by omega))
     simp only [push_cast, seval, ↓reduceIte, Za, hN0, hN]
    obtain ⟨z8, hz8, hz1⟩ := bC hz1
    refine Xg (E' := ⟨48, [], [(1, .ref n 0), (4, .val (.int .i64 z6)), (5, .val (.int .i64 z8)), (6, .val (.int .i64 s0_.2.2))]⟩) (O' := (Zy O n [some ⟨false, 54, 11, 1, (Zh a0)⟩, none])) (n0 := (n + 2)) ?_ ?_
    ·refine Zr [1, 4, 5, 6, 8, 38] (Zc Zd [] ?_)
     simp only [push_cast, seval, ↓reduceIte, Za, hN0, hN]
     refine Zw (t := (x3.Kind != 1)) rfl (fun c9 => ?_) (fun c9 => ?_)
     ·replace hz8 := Zv c9 hz8
      refine Zc Zd [] ?_
      simp only [push_cast, seval, ↓reduceIte, Za, hN0, hN]
      have hz8 := Option.some.inj hz8; subst hz8
      refine And.intro rfl (Fit2.of (Zj hU rfl rfl ?_) (by omega))
      simp only [push_cast, seval, ↓reduceIte, Za, hN0, hN]
     replace hz8 := Zu c9 hz8
     refine Z0 ?_
     try simp only [Zk, Zg]
     have hz8 := Option.some.inj hz8; subst hz8
     refine And.intro rfl (Fit2.of (Zj hU rfl rfl ?_) (by omega))
     simp only [push_cast, seval, ↓reduceIte, Za, hN0, hN]
    obtain ⟨z10, hz10, hz1⟩ := bC hz1
    refine Xg (E' := ⟨48, [], [(1, .ref n 0), (4, .val (.int .i64 z10)), (5, .val (.int .i64 z8)), (6, .val (.int .i64 s0_.2.2))]⟩) (O' := (Zy O n [some ⟨false, 54, 11, 1, (Zh a0)⟩, none])) (n0 := (n + 2)) ?_ ?_
    ·refine Zr [1, 4, 5, 6, 43] (Zc Zd [] ?_)
     simp only [push_cast, seval, ↓reduceIte, Za, hN0, hN]
     refine Zw (t := (decide (1048576 < z6))) rfl (fun c11 => ?_) (fun c11 => ?_)
     ·replace hz10 := Zv c11 hz10
      refine Zc Zd [] ?_
      simp only [push_cast, seval, ↓reduceIte, Za, hN0, hN]
      have hz10 := Option.some.inj hz10; subst hz10
      refine And.intro rfl (Fit2.of (Zj hU rfl rfl ?_) (by omega))
      simp only [push_cast, seval, ↓reduceIte, Za, hN0, hN]
     replace hz10 := Zu c11 hz10
     refine Z0 ?_
     try simp only [Zk, Zg]
     have hz10 := Option.some.inj hz10; subst hz10
     refine And.intro rfl (Fit2.of (Zj hU rfl rfl ?_) (by omega))
     simp only [push_cast, seval, ↓reduceIte, Za, hN0, hN]
    refine Zr [1, 4, 5, 6, 45] (Zc Zd [] ?_)
    simp only [push_cast, seval, ↓reduceIte, Za, hN0, hN]
    refine Zw (t := (decide (1048576 < z8))) rfl (fun c12 => ?_) (fun c12 => ?_)
    ·replace hz1 := Zv c12 hz1
     refine Zc Zd [] ?_
     simp only [push_cast, seval, ↓reduceIte, Za, hN0, hN]
     have hz1 := Option.some.inj hz1; subst hz1
     refine And.intro rfl (Fit2.of (Zj hU rfl rfl ?_) (by omega))
     simp only [push_cast, seval, ↓reduceIte, Za, hN0, hN]
    replace hz1 := Zu c12 hz1
    refine Z0 ?_
    try simp only [Zk, Zg]
    have hz1 := Option.some.inj hz1; subst hz1
    refine And.intro rfl (Fit2.of (Zj hU rfl rfl ?_) (by omega))
    simp only [push_cast, seval, ↓reduceIte, Za, hN0, hN]
   refine Zc Zd [] ?_
   simp only [push_cast, seval, ↓reduceIte, Za, hN0, hN]
   have hs0_ := Option.some.inj hs0_; subst hs0_
   refine And.intro rfl (Fit2.of (Zj hU rfl rfl ?_) (by omega))
   simp only [push_cast, seval, ↓reduceIte, Za, hN0, hN]
  replace hs0_ := Zu c13 hs0_
  refine Qd ?_
  try simp only [Zk, Zg, ↓reduceIte, Nat.reduceEqDiff]
  have hs0_ := Option.some.inj hs0_; subst hs0_
  refine And.intro (fun h => by cases h) (And.intro rfl (Fit2.of (Zj hU rfl rfl ?_) (by omega)))
  simp only [push_cast, seval, ↓reduceIte, Za, hN0, hN]
 try simp only [Zk, Zg, ↓reduceIte, Nat.reduceEqDiff]
 refine Zi [4, 5] [false] ?_
 simp only [push_cast, seval, ↓reduceIte]
 refine Zr [2, 3] (Zc Zd [] ?_)
 simp only [push_cast, seval, ↓reduceIte, Za, hN0, hN]
 refine Z5 ?_
 try simp only [Zk, Zg]
 have h := Option.some.inj h; subst h
 refine Zs (.inr rfl) hU [.val (.int .i64 z14.1), .val (.int .i64 z14.2)] (by omega) ?_
 simp only [push_cast, seval, ↓reduceIte, Za, Try.results46, hN0, hN]
end Go.Proofs.Ytmpkfolcikhofaa
