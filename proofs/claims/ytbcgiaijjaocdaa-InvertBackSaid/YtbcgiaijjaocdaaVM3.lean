/- Part VM3 of this seat's mirrors: functions of the seat's program, and the plain functions that they are; each theorem bears its own conditions. -/
import Derived.Test.YtbcgiaijjaocdaaVE
import Derived.Test.YtbcgiaijjaocdaaVM1
namespace Go.Proofs.Ytbcgiaijjaocdaa
open Go.RowKit
set_option linter.unusedVariables false
set_option linter.unusedSimpArgs false
set_option maxRecDepth 100000
set_option maxHeartbeats 1000000
attribute [local push_cast] Zg Zbx Ym Ze Uo Zsg Zsf Zs3 Zs2 Zn Zj Zon Zjr Zjq onW Xw Zc1 Zbz Zoo Zop Zhh evS wok Q0 Op.operands Call.operands gop onK onP atK List.all_cons List.all_nil Bool.and_true Bool.true_and Bool.and_self Value.oneCell' List.take_zero List.take_succ_cons List.take_nil List.drop_zero List.drop_succ_cons List.drop_nil List.append_nil Nat.add_zero Nat.zero_add Ui Yg ev Jc Zc0 Zwp Zqt Zqs Zwt Zhx Zdv Zhc Zc6 Zl4 Zf0 Up Zju Zjt Zb0 Zit Zb1 Zjp Zht Zsl bLo bHi bMx Zdw Zjo Zwr Zhs Zjf Zfr Zan Zrc Zwv Zir Zw0 Zdu Zz2 Jb Zhv gone Zpe Zkb Zka pop TK.isAgg G.one G.under G.unders List.getD_cons_zero List.getD_cons_succ List.set_cons_zero List.set_cons_succ List.map_cons List.map_nil List.toList_toArray Array.toList_append Option.toArray_none Option.toArray_some Array.toList_map Option.map_some Option.map_none Option.bind_some Option.bind_none List.getElem?_cons_zero List.getElem?_cons_succ List.getElem?_nil List.nil_append List.cons_append List.replicate_succ List.replicate_zero List.length_cons List.length_nil and_true true_and and_false false_and Bool.true_eq_false Bool.false_eq_true forall_const false_implies implies_true IntKind.bits if_true if_false ite_true ite_false eq_self true_implies false_or or_false or_true true_or not_true_eq_false not_false_eq_true decide_true decide_false decide_eq_true_eq decide_eq_false_iff_not beq_iff_eq bne_iff_ne ne_eq Bool.not_eq_true Bool.not_eq_false beq_eq_false_iff_ne bne_eq_false_iff_eq beq_self_eq_true bne_self_eq_false Option.some.injEq exists_eq_left' exists_eq_left ge_iff_le gt_iff_lt decide_not Bool.not_true Bool.not_false imp_self Zwx cond_true cond_false Z5h Z5g Bool.not_not Bool.and_false Bool.false_and Bool.or_true Bool.true_or Bool.or_false Bool.false_or K8 Zah Uj K9 Y0 Yl Option.join_some Nat.add_assoc Int.toNat_natCast eI eB eS eL Y2 Zis Zhu Zsk Zsi Zsj Z0b Z1z Ziw Zic Ztc Zta Ztb Zvn Zjl Zu4 Zli Zr6 Zge Zr8 List.length_append G.agg.injEq G.row.injEq G.ref.injEq G.val.injEq G.sl.injEq G.tup.injEq Value.int.injEq Value.bool.injEq Value.string.injEq List.cons.injEq exists_and_left exists_const List.flatten_cons List.flatten_nil Int.le_refl Nat.le_refl Xz Yf Yj Bool.not_eq_true' Bool.not_eq_false' Zut Zlo Zyd Zyh Zyc Zyg Z3x Z3t List.size_toArray Znb Zph G.ren G.rens Zqz Zga Ztg Zsa Zsb Zpu Zyi Ze3 G.fn.injEq Zqo Zqp Zus Z3u Zqn Zyf Z3w Z3v Zye Zw3 Z1n Option.join_none Z8 V5 undef Zjh Arr.len Arr.put_eq Ziv Zmf Zj7 Zib Zs9 Zs7 Zs8 onB Z0a Zrb Zpq Znq Znr Zns Znt Znu Znv Zl8 Zmi Zmg Zj9 Zid Zmh Zpd Zpc Zpb Zpa Z1y Z4m Zvm Zs4 Gd Zvi Zm6 Zmj Zj8 Zw6 Zps Zhr Zje Zek Zlg Znw Znx Zny Znz Zlp Zlq Zlr Zls Zlt Zlu Zlv Zep prT Zfm Z54 Zx4 Z0j Zx5 Z55 Zx6 Zv6 Zx7 Z56 Zx8 Z57 Zx9 Z58 Zya Z59 Zyb Z2p Ztq Z2q Ztr Z2r Zts Z2s Ztt Z2t Ztu Z2u Ztv Z2v Ztw Z2w Ztx Z2x Zty Z2y Ztz Z2z Zt0 Z20 Zln Zv5 Zcw Z21 Zt1 Vs Zt2 Z22 Zt3 Z23 Zt4 Z24 Zt5 Z25 Zt6 Zpv Zt7 Z26 Zt8 Z27 Zt9 Z28 Zua Zfg Zub Z29 Zuc Zru Zud Z3a Zue Z3b Zuf Zc5 Zug Z3c Zuh Zlm Zui Z3d Zuj Z3e Zuk Z3f Zul Z3g Zum Z3h Zun Z3i Zuo Zv7 Znp Z3j Zup Zxg Zpw Zxh Zpx Zxi Zpy Zxj Zpz Zxk Zp0 Zxl Zp1 Zxm Zp2 Zxn Zp3 Zxo Zp4 Zxp Zp5 Zxq Zp6 Zxr Zp7 Zxs Zp8 Zxt Zp9 Zxu Zqa Zxv Zqb Zxw Zqc Zxx Zqd Zxy Zqe Zxz Zqf Zx0 Zqg Zx1 Zqh Zx2 Zqi Zb Yn Zkl Zkk Zjy Zj5 Zkm Zin Zif Zie Zki Zdl Zdk Zc9 Zde Zdm Zcy Zcr Zcq Zdj Zh X4 Zf Zk Xl Xv Y1 Za7 Za5 Zao Zaw Zba Zac G0 Gy Za2 Zbm Zbl Zbi Zbj Zbn Za4 Za0 Zaz Zbk Zfk Zfj Zev Ze2 Zfl Zed Zeb Zea Zfh Zmv Zmu Zl6 Zmc Zmw Zkj Zkd Zkc Zmp Z9 Zaf Zae Gv Gx Zag Gg Gf Ge Zab Yc Za8 Za6 Zap Zax Zbb Zad Zaa Gz Za3
theorem Uc {a0 : (List Int)} {r : (List Int)} {O : Objs} {n : Nat} (h : J6 a0 = some r) : GTo Try.prog 88 [.sl a0.length (fl (eI .u64) a0)] O n (.sl r.length (fl (eI .u64) r)) O n := by
 unfold J6 at h
 refine Xc Zd Try.call88 Try.func88 rfl (Nat.le_of_ble_eq_true rfl) (Nat.le_refl _) fun hU => ?_
 have hN0 : O n = none := hU.fresh _ (Nat.le_refl _)
 have hN : ∀ k, O (n + k) = none := fun k => hU.fresh _ (Nat.le_add_right _ _)
 show W _ _ _ _ ⟨22, [], [(0, .sl a0.length (fl (eI .u64) a0))]⟩ (Zu O n []) _
 refine Zs [0] (Zc Zd [] ?_)
 simp only [push_cast, seval, ↓reduceIte, Za, hN0, hN]
 refine Zs [0, 3] (Zc Zd [] ?_)
 simp only [push_cast, seval, ↓reduceIte, Za, hN0, hN]
 refine Zo ?_
 refine Zm [0, 3] [] ?_
 simp only [push_cast, seval, ↓reduceIte]
 obtain ⟨z7, hz7, h⟩ := bC h
 refine Yv (E' := ⟨22, [], [(0, .sl a0.length (fl (eI .u64) a0)), (3, .val (.int .i64 z7))]⟩) (O' := (Zu O n [])) (n0 := n) ?_ ?_
 ·refine Y7 hz7 (fun s0_ => ⟨22, [], [(0, .sl a0.length (fl (eI .u64) a0)), (3, .val (.int .i64 s0_))]⟩) (fun s0_ => (Zu O n [])) (fun z7 => JX 0 n (⟨22, [], [(0, .sl a0.length (fl (eI .u64) a0)), (3, .val (.int .i64 z7))]⟩ : Env) (Zu O n []) n) ?_
  intro s0_ x0_ hs0_
  unfold K2 at hs0_
  try dsimp only
  refine Zo ?_
  obtain ⟨z2, hz2, hs0_⟩ := bC hs0_
  refine Y5 (E' := ⟨22, [], [(0, .sl a0.length (fl (eI .u64) a0)), (3, .val (.int .i64 s0_)), (15, .val (.bool z2))]⟩) (O' := (Zu O n [])) (n0 := n) ?_ ?_
  ·rcases Bool.eq_false_or_eq_true (decide (0 < s0_)) with c5 | c5
   ·replace hz2 := Zx c5 hz2
    obtain ⟨x4, hx4, ax4, bx4, cx4, hz2⟩ := bE (f := (eI .u64)) Zfg (fun _ => rfl) (by decide) hz2
    refine Zc Zd [some true, some true, some true, some true, some true, some true] ?_
    simp only [push_cast, Nat.reduceAdd, Nat.reduceSub, Nat.reduceMul, Nat.reduceLeDiff, Nat.reduceLT, Nat.reduceEqDiff, ↓reduceIte, reduceCtorEq, Int.reduceBEq, Int.reduceBNe, Nat.reduceBEq, Int.reduceLE, Int.reduceLT, Int.reduceEq, Int.reduceNe, Int.reduceNeg, Nat.reduceDiv, Nat.reduceMod, Nat.reducePow, Za, c5, ax4, bx4, cx4, hN0, hN]
    have hz2 := Option.some.inj hz2; subst hz2
    refine And.intro rfl (Fit2.of (Zl hU rfl rfl ?_) (by omega))
    simp only [push_cast, Nat.reduceAdd, Nat.reduceSub, Nat.reduceMul, Nat.reduceLeDiff, Nat.reduceLT, Nat.reduceEqDiff, ↓reduceIte, reduceCtorEq, Int.reduceBEq, Int.reduceBNe, Nat.reduceBEq, Int.reduceLE, Int.reduceLT, Int.reduceEq, Int.reduceNe, Int.reduceNeg, Nat.reduceDiv, Nat.reduceMod, Nat.reducePow, Za, c5, ax4, bx4, cx4, hN0, hN]
   replace hz2 := Zw c5 hz2
   refine Zc Zd [some false, some false, some false, some false, some false, some false] ?_
   simp only [push_cast, seval, ↓reduceIte, Za, c5, hN0, hN]
   have hz2 := Option.some.inj hz2; subst hz2
   refine And.intro rfl (Fit2.of (Zl hU rfl rfl ?_) (by omega))
   simp only [push_cast, seval, ↓reduceIte, Za, c5, hN0, hN]
  refine Zt (t := z2) rfl (fun c6 => ?_) (fun c6 => ?_)
  ·replace hs0_ := Zx c6 hs0_
   refine Z0 ?_
   try simp only [Zn, Zj]
   refine Zm [0, 3] [] ?_
   simp only [push_cast, seval, ↓reduceIte]
   refine Ys ?_
   refine Zc Zd [] ?_
   simp only [push_cast, seval, ↓reduceIte, Za, hN0, hN]
   have hs0_ := Option.some.inj hs0_; subst hs0_
   refine And.intro rfl (Fit2.of (Zl hU rfl rfl ?_) (by omega))
   simp only [push_cast, seval, ↓reduceIte, Za, hN0, hN]
  replace hs0_ := Zw c6 hs0_
  refine Xs ?_
  try simp only [Zn, Zj, ↓reduceIte, Nat.reduceEqDiff]
  have hs0_ := Option.some.inj hs0_; subst hs0_
  refine And.intro (fun h => by cases h) (And.intro rfl (Fit2.of (Zl hU rfl rfl ?_) (by omega)))
  simp only [push_cast, seval, ↓reduceIte, Za, hN0, hN]
 try simp only [Zn, Zj, ↓reduceIte, Nat.reduceEqDiff]
 refine Zm [0, 3] [] ?_
 simp only [push_cast, seval, ↓reduceIte]
 obtain ⟨l9, al9, bl9, cl9, gl9, h⟩ := bS3 (lo := none) (hi := (.i64, z7)) (f := (eI .u64)) rfl rfl Zln Zfg (fun _ => rfl) h
 refine Zs [2] (Zc Zd [] ?_)
 simp only [push_cast, seval, ↓reduceIte, Za, al9, bl9, cl9, gl9, hN0, hN]
 refine Z5 ?_
 try simp only [Zn, Zj]
 have h := Option.some.inj h; subst h
 refine Zy (.inr rfl) hU [.sl l9.length (fl (eI .u64) l9)] (by omega) ?_
 simp only [push_cast, seval, ↓reduceIte, Za, Try.results88, hN0, hN]
theorem Zdd {a0 : (List S_api_Tree)} {r : (List S_api_Tree)} {O : Objs} {n : Nat} (h : Ky a0 = some r) : GTo Try.prog 89 [.sl a0.length (fl Zb a0)] O n (.sl r.length (fl Zb r)) O n := by
 unfold Ky at h
 refine Xc Zd Try.call89 Try.func89 rfl (Nat.le_of_ble_eq_true rfl) (Nat.le_refl _) fun hU => ?_
 have hN0 : O n = none := hU.fresh _ (Nat.le_refl _)
 have hN : ∀ k, O (n + k) = none := fun k => hU.fresh _ (Nat.le_add_right _ _)
 show W _ _ _ _ ⟨23, [], [(0, .sl a0.length (fl Zb a0))]⟩ (Zu O n []) _
 refine Zs [0] (Zc Zd [] ?_)
 simp only [push_cast, seval, ↓reduceIte, Za, hN0, hN]
 refine Zs [0, 3] (Zc Zd [] ?_)
 simp only [push_cast, seval, ↓reduceIte, Za, hN0, hN]
 refine Zo ?_
 refine Zm [0, 3] [] ?_
 simp only [push_cast, seval, ↓reduceIte]
 obtain ⟨z10, hz10, h⟩ := bC h
 refine Yv (E' := ⟨23, [], [(0, .sl a0.length (fl Zb a0)), (3, .val (.int .i64 z10))]⟩) (O' := (Zu O n [])) (n0 := n) ?_ ?_
 ·refine Y7 hz10 (fun s0_ => ⟨23, [], [(0, .sl a0.length (fl Zb a0)), (3, .val (.int .i64 s0_))]⟩) (fun s0_ => (Zu O n [])) (fun z10 => JX 0 n (⟨23, [], [(0, .sl a0.length (fl Zb a0)), (3, .val (.int .i64 z10))]⟩ : Env) (Zu O n []) n) ?_
  intro s0_ x0_ hs0_
  unfold Vp at hs0_
  try dsimp only
  refine Zo ?_
  obtain ⟨z3, hz3, hs0_⟩ := bC hs0_
  refine Y5 (E' := ⟨23, [], [(0, .sl a0.length (fl Zb a0)), (3, .val (.int .i64 s0_)), (16, .val (.bool z3))]⟩) (O' := (Zu O n [])) (n0 := n) ?_ ?_
  ·rcases Bool.eq_false_or_eq_true (decide (0 < s0_)) with c8 | c8
   ·replace hz3 := Zx c8 hz3
    obtain ⟨x6, hx6, ax6, bx6, cx6, hz3⟩ := bE (f := Zb) Vs (fun _ => rfl) (by decide) hz3
    have g7 := Zjs (f := Zb) (sz := 3) Z0j (fun _ => rfl) (by decide) (by decide) hx6
    refine Zc Zd [some true, some true, some true, some true, some true, some true, some true] ?_
    simp only [push_cast, Nat.reduceAdd, Nat.reduceSub, Nat.reduceMul, Nat.reduceLeDiff, Nat.reduceLT, Nat.reduceEqDiff, ↓reduceIte, reduceCtorEq, Int.reduceBEq, Int.reduceBNe, Nat.reduceBEq, Int.reduceLE, Int.reduceLT, Int.reduceEq, Int.reduceNe, Int.reduceNeg, Nat.reduceDiv, Nat.reduceMod, Nat.reducePow, Za, c8, ax6, bx6, cx6, g7, hN0, hN]
    have hz3 := Option.some.inj hz3; subst hz3
    refine And.intro rfl (Fit2.of (Zl hU rfl rfl ?_) (by omega))
    simp only [push_cast, Nat.reduceAdd, Nat.reduceSub, Nat.reduceMul, Nat.reduceLeDiff, Nat.reduceLT, Nat.reduceEqDiff, ↓reduceIte, reduceCtorEq, Int.reduceBEq, Int.reduceBNe, Nat.reduceBEq, Int.reduceLE, Int.reduceLT, Int.reduceEq, Int.reduceNe, Int.reduceNeg, Nat.reduceDiv, Nat.reduceMod, Nat.reducePow, Za, c8, ax6, bx6, cx6, g7, hN0, hN]
   replace hz3 := Zw c8 hz3
   refine Zc Zd [some false, some false, some false, some false, some false, some false, some false] ?_
   simp only [push_cast, seval, ↓reduceIte, Za, c8, hN0, hN]
   have hz3 := Option.some.inj hz3; subst hz3
   refine And.intro rfl (Fit2.of (Zl hU rfl rfl ?_) (by omega))
   simp only [push_cast, seval, ↓reduceIte, Za, c8, hN0, hN]
  refine Zt (t := z3) rfl (fun c9 => ?_) (fun c9 => ?_)
  ·replace hs0_ := Zx c9 hs0_
   refine Z0 ?_
   try simp only [Zn, Zj]
   refine Zm [0, 3] [] ?_
   simp only [push_cast, seval, ↓reduceIte]
   refine Ys ?_
   refine Zc Zd [] ?_
   simp only [push_cast, seval, ↓reduceIte, Za, hN0, hN]
   have hs0_ := Option.some.inj hs0_; subst hs0_
   refine And.intro rfl (Fit2.of (Zl hU rfl rfl ?_) (by omega))
   simp only [push_cast, seval, ↓reduceIte, Za, hN0, hN]
  replace hs0_ := Zw c9 hs0_
  refine Xs ?_
  try simp only [Zn, Zj, ↓reduceIte, Nat.reduceEqDiff]
  have hs0_ := Option.some.inj hs0_; subst hs0_
  refine And.intro (fun h => by cases h) (And.intro rfl (Fit2.of (Zl hU rfl rfl ?_) (by omega)))
  simp only [push_cast, seval, ↓reduceIte, Za, hN0, hN]
 try simp only [Zn, Zj, ↓reduceIte, Nat.reduceEqDiff]
 refine Zm [0, 3] [] ?_
 simp only [push_cast, seval, ↓reduceIte]
 obtain ⟨l12, al12, bl12, cl12, gl12, h⟩ := bS3 (lo := none) (hi := (.i64, z10)) (f := Zb) rfl rfl Zcw Vs (fun _ => rfl) h
 refine Zs [2] (Zc Zd [] ?_)
 simp only [push_cast, seval, ↓reduceIte, Za, al12, bl12, cl12, gl12, hN0, hN]
 refine Z5 ?_
 try simp only [Zn, Zj]
 have h := Option.some.inj h; subst h
 refine Zy (.inr rfl) hU [.sl l12.length (fl Zb l12)] (by omega) ?_
 simp only [push_cast, seval, ↓reduceIte, Za, Try.results89, hN0, hN]
theorem Zqy {Zca : (S_api_Tree → Option S_api_Tree)} (Zo3 : ∀ {a0 : S_api_Tree} {r : S_api_Tree} {O : Objs} {n : Nat}, Zca a0 = some r → GTo Try.prog 53 [.agg (Ze a0)] O n (.agg (Ze r)) O n) {a0 : S_api_Tree} {r : S_api_Tree} {O : Objs} {n : Nat} (h : Zds Zca a0 = some r) : GTo Try.prog 53 [.agg (Ze a0)] O n (.agg (Ze r)) O n := by
 unfold Zds at h
 refine Xc Zd Try.call53 Try.func53 rfl (Nat.le_of_ble_eq_true rfl) (Nat.le_refl _) fun hU => ?_
 have hN0 : O n = none := hU.fresh _ (Nat.le_refl _)
 have hN : ∀ k, O (n + k) = none := fun k => hU.fresh _ (Nat.le_add_right _ _)
 show W _ _ _ _ ⟨49, [], [(0, .agg (Ze a0))]⟩ (Zu O n []) _
 refine Zs [1, 2] (Zc Zd [] ?_)
 simp only [push_cast, seval, ↓reduceIte, Za, hN0, hN]
 refine Zo ?_
 refine Zs [1, 2, 10] (Zc Zd [] ?_)
 simp only [push_cast, seval, ↓reduceIte, Za, hN0, hN]
 refine Zt (t := (a0.Kind == 0)) rfl (fun c15 => ?_) (fun c15 => ?_)
 ·replace h := Zx c15 h
  refine Zo ?_
  refine Zc Zd [] ?_
  simp only [push_cast, seval, ↓reduceIte, Za, hN0, hN]
  refine Zm [2] [false, true] ?_
  simp only [push_cast, seval, ↓reduceIte]
  refine Z5 ?_
  try simp only [Zn, Zj]
  have h := Option.some.inj h; subst h
  refine Zy (.inr rfl) hU [.agg [.val (.int .i64 0), .val (.slice none 0 0), .val (.slice none 0 0)]] (by omega) ?_
  simp only [push_cast, seval, ↓reduceIte, Za, Try.results53, hN0, hN]
 replace h := Zw c15 h
 refine Z0 ?_
 try simp only [Zn, Zj]
 refine Zm [1, 2] [true, true] ?_
 simp only [push_cast, seval, ↓reduceIte]
 refine Zs [1, 2, 3, 4] (Qz Zd (by kernel_rfl) [] (by kernel_rfl) ?_)
 simp only [push_cast, seval, ↓reduceIte, Za, hN0, hN]
 obtain ⟨z1, hz1, h⟩ := bC h
 refine Y5 (E' := ⟨49, [], [(1, .ref n 0), (2, .ref (n + 1) 0), (3, .sl z1.1.length (fl (eI .u64) z1.1)), (4, .sl z1.2.length (fl Zb z1.2))]⟩) (O' := (Zu O n [some ⟨false, 25, 3, 1, (Ze a0)⟩, some ⟨false, 25, 3, 1, [.val (.int .i64 0), .val (.slice none 0 0), .val (.slice none 0 0)]⟩])) (n0 := (n + 2)) ?_ ?_
 ·refine Zs [1, 2, 3, 4, 18] (Zc Zd [] ?_)
  simp only [push_cast, seval, ↓reduceIte, Za, hN0, hN]
  refine Zt (t := (a0.Kind == 1)) rfl (fun c4 => ?_) (fun c4 => ?_)
  ·replace hz1 := Zx c4 hz1
   obtain ⟨y2, hy2, hz1⟩ := bC hz1
   obtain ⟨y3, hy3, hz1⟩ := bC hz1
   refine Zc Zd [] ?_
   simp only [push_cast, seval, ↓reduceIte, Za, hN0, hN]
   refine (Uc hy2).then ?_
   simp only [push_cast, seval, ↓reduceIte, Za, hN0, hN]
   refine (Zdd hy3).then ?_
   simp only [push_cast, seval, ↓reduceIte, Za, hN0, hN]
   have hz1 := Option.some.inj hz1; subst hz1
   refine And.intro rfl (Fit2.of (Zl hU rfl rfl ?_) (by omega))
   simp only [push_cast, seval, ↓reduceIte, Za, hN0, hN]
  replace hz1 := Zw c4 hz1
  refine Z0 ?_
  try simp only [Zn, Zj]
  have hz1 := Option.some.inj hz1; subst hz1
  refine And.intro rfl (Fit2.of (Zl hU rfl rfl ?_) (by omega))
  simp only [push_cast, seval, ↓reduceIte, Za, hN0, hN]
 refine Zo ?_
 refine Zc Zd [] ?_
 simp only [push_cast, seval, ↓reduceIte, Za, hN0, hN]
 refine Zm [2, 4, 5] [false, true, true] ?_
 simp only [push_cast, seval, ↓reduceIte]
 obtain ⟨z5, hz5, h⟩ := bC h
 refine Y5 (E' := ⟨49, [], [(2, .ref (n + 1) 0), (4, .sl z1.2.length (fl Zb z1.2)), (5, .ref (n + 2) 0)]⟩) (O' := (Zu O n [none, some ⟨false, 25, 3, 1, [.val (.int .i64 0), .val (.slice none 0 0), .val (.slice none 0 0)]⟩, some ⟨false, 25, 3, 1, [.val (.int .i64 a0.Kind), .sl z1.1.length (fl (eI .u64) z1.1), .row (n + 4) z5.length]⟩, none, some ⟨true, 25, 3, z5.length, fl Zb z5⟩, none])) (n0 := (n + 6)) ?_ ?_
 ·refine Zs [2, 4, 5, 29] (Zc Zd [] ?_)
  simp only [push_cast, seval, ↓reduceIte, Za, hN0, hN]
  refine Zt (t := (decide (0 < (z1.2.length : Int)))) rfl (fun c7 => ?_) (fun c7 => ?_)
  ·replace hz5 := Zx c7 hz5
   obtain ⟨l6, al6, bl6, cl6, el6, hz5⟩ := bM2 (c := 56) rfl hz5
   have nl6 : Int.toNat (z1.2.length : Int) = List.length l6 := by rw [el6, List.length_replicate]
   have fl6 : ∀ O O' n, Gp O O' n (List.replicate (List.length l6) [.val (.int .i64 0), .val (.slice none 0 0), .val (.slice none 0 0)]).flatten (fl Zb l6) = True := fun O O' n => by rw [← nl6, el6]; exact eq_true (Zwf (by simp only [push_cast, seval, ↓reduceIte, Za]) _)
   clear el6
   refine Zc Zd [] ?_
   simp only [push_cast, seval, ↓reduceIte, Za, al6, bl6, cl6, fl6, nl6, hN0, hN]
   have hz5 := Option.some.inj hz5; subst hz5
   refine And.intro rfl ?_
   refine Fit2.trans (E' := (⟨49, [], [(2, .ref (n + 1) 0), (4, .sl z1.2.length (fl Zb z1.2)), (5, .ref (n + 2) 0)]⟩ : Env)) (O' := (Zu O n [none, some ⟨false, 25, 3, 1, [.val (.int .i64 0), .val (.slice none 0 0), .val (.slice none 0 0)]⟩, some ⟨false, 25, 3, 1, [.val (.int .i64 a0.Kind), .sl z1.1.length (fl (eI .u64) z1.1), .row (n + 3) l6.length]⟩, some ⟨true, 25, 3, l6.length, fl Zb l6⟩])) (n' := (n + 4)) (Fit2.of (Zl hU rfl rfl ?_) (by omega)) ?_
   ·simp only [push_cast, seval, ↓reduceIte, Za, al6, bl6, cl6, fl6, nl6, hN0, hN]
   refine Jt (k := 4) (k' := 6) hU [5, 1, 2, 4] [0, 1, 2, 0, 3, 0] rfl rfl rfl rfl ⟨rfl, rfl⟩ ?_
   simp only [push_cast, seval, ↓reduceIte, Za, hN0, hN]
  replace hz5 := Zw c7 hz5
  refine Z0 ?_
  try simp only [Zn, Zj]
  have hz5 := Option.some.inj hz5; subst hz5
  refine And.intro rfl ?_
  refine Fit2.trans (E' := (⟨49, [], [(2, .ref (n + 1) 0), (4, .sl z1.2.length (fl Zb z1.2)), (5, .ref (n + 2) 0)]⟩ : Env)) (O' := (Zu O n [none, some ⟨false, 25, 3, 1, [.val (.int .i64 0), .val (.slice none 0 0), .val (.slice none 0 0)]⟩, some ⟨false, 25, 3, 1, [.val (.int .i64 a0.Kind), .sl z1.1.length (fl (eI .u64) z1.1), .val (.slice none 0 0)]⟩])) (n' := (n + 3)) (Fit2.of (Zl hU rfl rfl ?_) (by omega)) ?_
  ·simp only [push_cast, seval, ↓reduceIte, Za, hN0, hN]
  refine Fit2.trans (E' := (⟨49, [], [(2, .ref (n + 1) 0), (4, .sl z1.2.length (fl Zb z1.2)), (5, .ref (n + 2) 0)]⟩ : Env)) (O' := (Zu O n [none, some ⟨false, 25, 3, 1, [.val (.int .i64 0), .val (.slice none 0 0), .val (.slice none 0 0)]⟩, some ⟨false, 25, 3, 1, [.val (.int .i64 a0.Kind), .sl z1.1.length (fl (eI .u64) z1.1), .row (n + 3) 0]⟩, some ⟨true, 25, 3, 0, []⟩])) (n' := (n + 4)) ?_ ?_
  ·have ha := Va (ba := n) (E := (⟨49, [], [(2, .ref (n + 1) 0), (4, .sl z1.2.length (fl Zb z1.2)), (5, .ref (n + 2) 0)]⟩ : Env)) (O := (Zu O n [none, some ⟨false, 25, 3, 1, [.val (.int .i64 0), .val (.slice none 0 0), .val (.slice none 0 0)]⟩, some ⟨false, 25, 3, 1, [.val (.int .i64 a0.Kind), .sl z1.1.length (fl (eI .u64) z1.1), .val (.slice none 0 0)]⟩])) (n := (n + 3)) (p := (n + 2)) (k := 2) (q := ⟨false, 25, 3, 1, [.val (.int .i64 a0.Kind), .sl z1.1.length (fl (eI .u64) z1.1), .val (.slice none 0 0)]⟩) 25 3 (by simp only [K8, Zah, List.getElem?_cons_zero, List.getElem?_cons_succ, Option.join_some, Z8]) rfl (by omega)
   simp only [Y0, Yl, Uj, K9, List.set_cons_zero, List.set_cons_succ, List.cons_append, List.nil_append, List.length_cons, List.length_nil, Nat.zero_add, Nat.reduceAdd, Nat.reduceLT, Nat.add_assoc] at ha
   exact ha
  refine Fit2.trans (E' := (⟨49, [], [(2, .ref (n + 1) 0), (4, .sl z1.2.length (fl Zb z1.2)), (5, .ref (n + 2) 0)]⟩ : Env)) (O' := (Zu O n [none, some ⟨false, 25, 3, 1, [.val (.int .i64 0), .val (.slice none 0 0), .val (.slice none 0 0)]⟩, some ⟨false, 25, 3, 1, [.val (.int .i64 a0.Kind), .sl z1.1.length (fl (eI .u64) z1.1), .row (n + 3) ([] : List S_api_Tree).length]⟩, some ⟨true, 25, 3, ([] : List S_api_Tree).length, fl Zb ([] : List S_api_Tree)⟩])) (n' := (n + 4)) (Fit2.of (Zl hU rfl rfl ?_) (by omega)) ?_
  ·simp only [push_cast, seval, ↓reduceIte, Za, hN0, hN]
  refine Jt (k := 4) (k' := 6) hU [5, 1, 2, 4] [0, 1, 2, 0, 3, 0] rfl rfl rfl rfl ⟨rfl, rfl⟩ ?_
  simp only [push_cast, seval, ↓reduceIte, Za, hN0, hN]
 refine Zo ?_
 refine Zs [2, 5, 34, 35, 36] (Zc Zd [] ?_)
 simp only [push_cast, seval, ↓reduceIte, Za, hN0, hN]
 refine Zm [2, 5, 34, 35, 36] [false, true, true, false, true, false] ?_
 simp only [push_cast, seval, ↓reduceIte]
 obtain ⟨z14, hz14, h⟩ := bC h
 refine Yv (E' := ⟨49, [], [(2, .ref (n + 1) 0), (5, .ref (n + 2) 0)]⟩) (O' := (Zu O n [none, some ⟨false, 25, 3, 1, [.val (.int .i64 0), .val (.slice none 0 0), .val (.slice none 0 0)]⟩, some ⟨false, 25, 3, 1, [.val (.int .i64 a0.Kind), .sl z1.1.length (fl (eI .u64) z1.1), .row (n + 4) z14.length]⟩, none, some ⟨true, 25, 3, z14.length, fl Zb z14⟩, none])) (n0 := (n + 6)) ?_ ?_
 ·refine Y7 hz14 (fun s0_ => ⟨49, [], [(2, .ref (n + 1) 0), (5, .ref (n + 2) 0), (34, .sl z1.2.length (fl Zb z1.2)), (35, .val (.int .i64 (z1.2.length : Int))), (36, .val (.int .i64 s0_.1))]⟩) (fun s0_ => (Zu O n [none, some ⟨false, 25, 3, 1, [.val (.int .i64 0), .val (.slice none 0 0), .val (.slice none 0 0)]⟩, some ⟨false, 25, 3, 1, [.val (.int .i64 a0.Kind), .sl z1.1.length (fl (eI .u64) z1.1), .row (n + 4) s0_.2.length]⟩, none, some ⟨true, 25, 3, s0_.2.length, fl Zb s0_.2⟩, none])) (fun z14 => JX 0 n (⟨49, [], [(2, .ref (n + 1) 0), (5, .ref (n + 2) 0)]⟩ : Env) (Zu O n [none, some ⟨false, 25, 3, 1, [.val (.int .i64 0), .val (.slice none 0 0), .val (.slice none 0 0)]⟩, some ⟨false, 25, 3, 1, [.val (.int .i64 a0.Kind), .sl z1.1.length (fl (eI .u64) z1.1), .row (n + 4) z14.length]⟩, none, some ⟨true, 25, 3, z14.length, fl Zb z14⟩, none]) (n + 6)) ?_
  intro s0_ x0_ hs0_
  unfold Un at hs0_
  try dsimp only
  refine Zs [2, 5, 34, 35, 36, 37] (Zc Zd [] ?_)
  simp only [push_cast, seval, ↓reduceIte, Za, hN0, hN]
  refine Zo ?_
  refine Zt (t := (decide (s0_.1 < (z1.2.length : Int)))) rfl (fun c13 => ?_) (fun c13 => ?_)
  ·replace hs0_ := Zx c13 hs0_
   refine Z0 ?_
   try simp only [Zn, Zj]
   refine Zm [2, 5, 34, 35, 36] [false, true, true, false, true, false] ?_
   simp only [push_cast, seval, ↓reduceIte]
   refine Zo ?_
   refine Ys ?_
   refine Zo ?_
   obtain ⟨x9, hx9, ax9, bx9, cx9, hs0_⟩ := bE (f := Zb) Vs (fun _ => rfl) (by decide) hs0_
   refine Zc Zd [] ?_
   simp only [push_cast, Nat.reduceAdd, Nat.reduceSub, Nat.reduceMul, Nat.reduceLeDiff, Nat.reduceLT, Nat.reduceEqDiff, ↓reduceIte, reduceCtorEq, Int.reduceBEq, Int.reduceBNe, Nat.reduceBEq, Int.reduceLE, Int.reduceLT, Int.reduceEq, Int.reduceNe, Int.reduceNeg, Nat.reduceDiv, Nat.reduceMod, Nat.reducePow, Za, ax9, bx9, cx9, hN0, hN]
   refine Zm [2, 5, 6, 7, 34, 35, 36] [false, true, true, false, true, false, true] ?_
   simp only [push_cast, seval, ↓reduceIte]
   obtain ⟨y10, hy10, hs0_⟩ := bC hs0_
   obtain ⟨x11, hx11, ax11, bx11, cx11, hs0_⟩ := bE (f := Zb) Vs (fun _ => rfl) (by decide) hs0_
   have gu12 : Ji (fl Zb s0_.2) [.val (.int .i64 y10.Kind), .sl y10.Words.length (fl (eI .u64) y10.Words), .sl y10.Kids.length (fl Zb y10.Kids)] (Int.toNat s0_.1 * 3) = some (fl Zb (Zb7 s0_.2 s0_.1 y10)) := (congrArg (fun c => Ji (fl Zb s0_.2) c (Int.toNat s0_.1 * 3)) (show [.val (.int .i64 y10.Kind), .sl y10.Words.length (fl (eI .u64) y10.Words), .sl y10.Kids.length (fl Zb y10.Kids)] = Zb y10 from by simp only [Zb, Yn, eI, eB, eS, eL])).trans (Zgh (f := Zb) (ti := ⟨.bool, 3, 0, [], false⟩) (x := y10) (fun _ => rfl) (Zci hx11))
   refine Zdn Zd (by kernel_rfl) [false, false, false, false, false, false, true] [] (by kernel_rfl) ?_
   simp only [push_cast, Nat.reduceAdd, Nat.reduceSub, Nat.reduceMul, Nat.reduceLeDiff, Nat.reduceLT, Nat.reduceEqDiff, ↓reduceIte, reduceCtorEq, Int.reduceBEq, Int.reduceBNe, Nat.reduceBEq, Int.reduceLE, Int.reduceLT, Int.reduceEq, Int.reduceNe, Int.reduceNeg, Nat.reduceDiv, Nat.reduceMod, Nat.reducePow, Za, ax11, bx11, cx11, gu12, hN0, hN]
   refine PCall.of (Zo3 hy10) ?_
   simp only [push_cast, Nat.reduceAdd, Nat.reduceSub, Nat.reduceMul, Nat.reduceLeDiff, Nat.reduceLT, Nat.reduceEqDiff, ↓reduceIte, reduceCtorEq, Int.reduceBEq, Int.reduceBNe, Nat.reduceBEq, Int.reduceLE, Int.reduceLT, Int.reduceEq, Int.reduceNe, Int.reduceNeg, Nat.reduceDiv, Nat.reduceMod, Nat.reducePow, Za, ax11, bx11, cx11, gu12, hN0, hN]
   refine Zm [2, 5, 34, 35, 36] [false, true, true, false, true, false, false] ?_
   simp only [push_cast, seval, ↓reduceIte]
   refine Zc Zd [] ?_
   simp only [push_cast, seval, ↓reduceIte, Za, hN0, hN]
   have hs0_ := Option.some.inj hs0_; subst hs0_
   refine And.intro rfl (Fit2.of (Zl hU rfl rfl ?_) (by omega))
   simp only [push_cast, seval, ↓reduceIte, Za, hN0, hN]
  replace hs0_ := Zw c13 hs0_
  refine Xs ?_
  try simp only [Zn, Zj, ↓reduceIte, Nat.reduceEqDiff]
  have hs0_ := Option.some.inj hs0_; subst hs0_
  refine And.intro (fun h => by cases h) (And.intro rfl (Fit2.of (Zl hU rfl rfl ?_) (by omega)))
  simp only [push_cast, seval, ↓reduceIte, Za, hN0, hN]
 try simp only [Zn, Zj, ↓reduceIte, Nat.reduceEqDiff]
 refine Zm [2, 5] [false, true, true, false, true, false] ?_
 simp only [push_cast, seval, ↓reduceIte]
 refine Zo ?_
 refine Zc Zd [] ?_
 simp only [push_cast, seval, ↓reduceIte, Za, hN0, hN]
 refine Zm [2] [false, true, false, false, true, false] ?_
 simp only [push_cast, seval, ↓reduceIte]
 refine Z5 ?_
 try simp only [Zn, Zj]
 have h := Option.some.inj h; subst h
 refine Zy (.inr rfl) hU [.agg [.val (.int .i64 a0.Kind), .sl z1.1.length (fl (eI .u64) z1.1), .row (n + 4) z14.length]] (by omega) ?_
 simp only [push_cast, seval, ↓reduceIte, Za, Try.results53, hN0, hN]
theorem Zm7 : ∀ k, (∀ {a0 : S_api_Tree} {r : S_api_Tree} {O : Objs} {n : Nat}, (K5 k) a0 = some r → GTo Try.prog 53 [.agg (Ze a0)] O n (.agg (Ze r)) O n) := fun k => by
 induction k with
 | zero => exact @fun a0 r O n h => (nomatch (show (none : Option _) = some _ from h))
 | succ k ih => exact @fun a0 r O n h => Zqy (ih)  h
theorem Gc {a0 : S_api_Tree} {r : S_api_Tree} {O : Objs} {n : Nat} (h : U0 a0 = some r) : GTo Try.prog 53 [.agg (Ze a0)] O n (.agg (Ze r)) O n := by
 obtain ⟨k, hk⟩ := Ur h
 exact (Zm7 k)  hk
theorem Gm {a0 r : List Zq} {O : Objs} {n : Nat} (h : X3 a0 = some r) : GTo Try.prog 54 [.sl a0.length (fl Zh a0)] O n (.row n r.length) (Zu O n [some ⟨true, 58, 4, r.length, fl Zh r⟩]) (n + 1) := by
 have h1 := Zn5 h
 have h2 := Zn6 h
 have h3 := Zkp h
 rw [List.nil_append] at h3
 subst h3
 simp only [List.length_nil, Nat.zero_add] at h1 h2
 clear h
 refine Xc Zd Try.call54 Try.func54 rfl (Nat.le_of_ble_eq_true rfl) (by omega) fun hU => ?_
 have hN0 : O n = none := hU.fresh _ (Nat.le_refl _)
 have hN : ∀ k, O (n + k) = none := fun k => hU.fresh _ (Nat.le_add_right _ _)
 show W _ _ _ _ ⟨8, [], [(0, .sl r.length (fl Zh r))]⟩ (Zu O n []) _
 refine Zs [0] (Zc Zd [] ?_)
 simp only [push_cast, seval, ↓reduceIte, Za, hN0, hN]
 refine Zwh 0 r.length (fl Zh r) rfl (Nat.le_of_ble_eq_true rfl) (Yk Y6 _) fun A c hA => ?_
 refine Zs [0, 4] (Zc Zd [] ?_)
 simp only [push_cast, seval, ↓reduceIte, Za, hN0, hN]
 cases A with
 | none =>
  obtain rfl : r = [] := List.eq_nil_of_length_eq_zero (hA rfl)
  refine Zt (t := true) rfl (fun _ => ?_) (fun hc => by cases hc)
  refine Zs [2] (Zc Zd [] ?_)
  simp only [push_cast, seval, ↓reduceIte, Za, hN0, hN]
  refine Z5 ?_
  try simp only [Zn, Zj]
  refine Zoi (k := 1) (L3 := [some ⟨true, 58, 4, 0, []⟩]) (E2 := ⟨8, [], [(2, .row n 0), (2, .val (.slice none 0 0))]⟩) (n3 := (n + 1)) (.inr rfl) hU rfl [.row n 0] ?_ ?_
  ·have ha := Zio (ba := n) (E := ⟨8, [], [(2, .val (.slice none 0 0))]⟩) (O := (Zu O n [])) (n := n) 2 58 4 rfl (by omega)
   simp only [Yl] at ha
   exact ha
  simp only [push_cast, seval, ↓reduceIte, Za, Try.results54, hN0, hN]
 | some A =>
  refine Zt (t := false) rfl (fun hc => by cases hc) (fun _ => ?_)
  refine Z0 ?_
  try simp only [Zn, Zj]
  refine And.intro rfl (And.intro (Nat.le_of_ble_eq_true rfl) ?_)
  refine Zo ?_
  refine Zc Zd [] ?_
  simp only [push_cast, seval, ↓reduceIte, Za, h1, h2, hN0, hN]
  refine Z5 ?_
  try simp only [Zn, Zj]
  refine Zoh (.inr rfl) hU rfl [.row n r.length] (by omega) ?_
  simp only [push_cast, seval, ↓reduceIte, Za, Try.results54, hN0, hN]
theorem Kk {a0 : Zr} {r : Zr} {O : Objs} {n : Nat} {i0 j0_0 j0_1 j0_2 : Nat} (hi0 : i0 < n) (K6 : j0_0 < n) (Zdy : j0_1 < n) (Zfs : j0_2 < n) (Qw : i0 ≠ j0_0) (Vk : i0 ≠ j0_1) (U7 : i0 ≠ j0_2) (Vj : j0_0 ≠ j0_1) (U5 : j0_0 ≠ j0_2) (U6 : j0_1 ≠ j0_2) (ho0 : O i0 = some ⟨false, 110, 4, 1, [.row j0_2 a0.out.length, .val (.int .i64 a0.kept), .row j0_0 a0.gone.length, .row j0_1 a0.come.length]⟩) (Vl : O j0_0 = some ⟨true, 25, 3, a0.gone.length, fl Zb a0.gone⟩) (Zes : O j0_1 = some ⟨true, 25, 3, a0.come.length, fl Zb a0.come⟩) (Zgu : O j0_2 = some ⟨true, 69, 14, a0.out.length, fl Zf a0.out⟩) (h : Xb a0 = some r) : GTo Try.prog 87 [.ref i0 0] O n (.tup []) (Zu ((((O.upd j0_0 none).upd j0_1 none).upd j0_2 none).upd i0 (some ⟨false, 110, 4, 1, [.row (n + 2) r.out.length, .val (.int .i64 r.kept), .row n r.gone.length, .row (n + 1) r.come.length]⟩)) n [some ⟨true, 25, 3, r.gone.length, fl Zb r.gone⟩, some ⟨true, 25, 3, r.come.length, fl Zb r.come⟩, some ⟨true, 69, 14, r.out.length, fl Zf r.out⟩]) (n + 3) := by
 unfold Xb at h
 refine Xc Zd Try.call87 Try.func87 rfl (Nat.le_of_ble_eq_true rfl) (by omega) fun hU => ?_
 have e0 := Q8 (ba := n) (E := ⟨73, [], Zc0 0 [.ref i0 0]⟩) (O := (Zu O n [])) (n := n) (i := i0) (j := j0_0) (k := 2) (len := a0.gone.length) (q := ⟨false, 110, 4, 1, [.row j0_2 a0.out.length, .val (.int .i64 a0.kept), .row j0_0 a0.gone.length, .row j0_1 a0.come.length]⟩) (qj := ⟨true, 25, 3, a0.gone.length, fl Zb a0.gone⟩) (by rw [Yf _ hi0]; first | exact ho0 | exact Z8 _ _ _) rfl (by rw [Yf _ K6]; exact Vl) Qw (by omega)
 simp only [Yj _ _ K6, Yj _ _ hi0, Y0, Yl, Xz, Ux Qw, List.set_cons_zero, List.set_cons_succ, List.cons_append, List.nil_append, List.length_cons, List.length_nil, Nat.zero_add, Nat.reduceAdd, Nat.add_assoc] at e0
 refine Ja e0 ?_
 have e1 := Q8 (ba := n) (E := ⟨73, [], Zc0 0 [.ref i0 0]⟩) (O := (Zu ((O.upd j0_0 none).upd i0 (some ⟨false, 110, 4, 1, [.row j0_2 a0.out.length, .val (.int .i64 a0.kept), .row n a0.gone.length, .row j0_1 a0.come.length]⟩)) n [some ⟨true, 25, 3, a0.gone.length, fl Zb a0.gone⟩])) (n := (n + 1)) (i := i0) (j := j0_1) (k := 3) (len := a0.come.length) (q := ⟨false, 110, 4, 1, [.row j0_2 a0.out.length, .val (.int .i64 a0.kept), .row n a0.gone.length, .row j0_1 a0.come.length]⟩) (qj := ⟨true, 25, 3, a0.come.length, fl Zb a0.come⟩) (by rw [Yf _ hi0]; first | exact ho0 | exact Z8 _ _ _) rfl (by rw [Yf _ Zdy, Yu _ _ (Ne.symm Vk), Yu _ _ (Ne.symm Vj)]; exact Zes) Vk (by omega)
 simp only [Yj _ _ Zdy, Yj _ _ hi0, Y0, Yl, Xz, Ux Vk, List.set_cons_zero, List.set_cons_succ, List.cons_append, List.nil_append, List.length_cons, List.length_nil, Nat.zero_add, Nat.reduceAdd, Nat.add_assoc] at e1
 refine Ja e1 ?_
 have e2 := Q8 (ba := n) (E := ⟨73, [], Zc0 0 [.ref i0 0]⟩) (O := (Zu (((O.upd j0_0 none).upd j0_1 none).upd i0 (some ⟨false, 110, 4, 1, [.row j0_2 a0.out.length, .val (.int .i64 a0.kept), .row n a0.gone.length, .row (n + 1) a0.come.length]⟩)) n [some ⟨true, 25, 3, a0.gone.length, fl Zb a0.gone⟩, some ⟨true, 25, 3, a0.come.length, fl Zb a0.come⟩])) (n := (n + 2)) (i := i0) (j := j0_2) (k := 0) (len := a0.out.length) (q := ⟨false, 110, 4, 1, [.row j0_2 a0.out.length, .val (.int .i64 a0.kept), .row n a0.gone.length, .row (n + 1) a0.come.length]⟩) (qj := ⟨true, 69, 14, a0.out.length, fl Zf a0.out⟩) (by rw [Yf _ hi0]; first | exact ho0 | exact Z8 _ _ _) rfl (by rw [Yf _ Zfs, Yu _ _ (Ne.symm U7), Yu _ _ (Ne.symm U6), Yu _ _ (Ne.symm U5)]; exact Zgu) U7 (by omega)
 simp only [Yj _ _ Zfs, Yj _ _ hi0, Y0, Yl, Xz, Ux U7, List.set_cons_zero, List.set_cons_succ, List.cons_append, List.nil_append, List.length_cons, List.length_nil, Nat.zero_add, Nat.reduceAdd, Nat.add_assoc] at e2
 refine Ja e2 ?_
 have hU := (Und.drop (Und.drop (Und.drop hU j0_0) j0_1) j0_2)
 have hk0 : ∀ k, i0 < n + k := fun k => by omega
 have hN0 : ∀ o, Objs.upd (((O.upd j0_0 none).upd j0_1 none).upd j0_2 none) i0 o n = none := fun o => Qv hU hi0 _ (Nat.le_refl _)
 have hN : ∀ o k, Objs.upd (((O.upd j0_0 none).upd j0_1 none).upd j0_2 none) i0 o (n + k) = none := fun o k => Qv hU hi0 _ (Nat.le_add_right _ _)
 show W _ _ _ _ ⟨73, [], [(0, .ref i0 0)]⟩ (Zu ((((O.upd j0_0 none).upd j0_1 none).upd j0_2 none).upd i0 (some ⟨false, 110, 4, 1, [.row (n + 2) a0.out.length, .val (.int .i64 a0.kept), .row n a0.gone.length, .row (n + 1) a0.come.length]⟩)) n [some ⟨true, 25, 3, a0.gone.length, fl Zb a0.gone⟩, some ⟨true, 25, 3, a0.come.length, fl Zb a0.come⟩, some ⟨true, 69, 14, a0.out.length, fl Zf a0.out⟩]) _
 obtain ⟨z1, hz1, h⟩ := bC h
 refine Y5 (E' := ⟨73, [], [(0, .ref i0 0)]⟩) (O' := (Zu ((((O.upd j0_0 none).upd j0_1 none).upd j0_2 none).upd i0 (some ⟨false, 110, 4, 1, [.row (n + 2) z1.length, .val (.int .i64 a0.kept), .row n a0.gone.length, .row (n + 1) a0.come.length]⟩)) n [some ⟨true, 25, 3, a0.gone.length, fl Zb a0.gone⟩, some ⟨true, 25, 3, a0.come.length, fl Zb a0.come⟩, some ⟨true, 69, 14, z1.length, fl Zf z1⟩, none])) (n0 := (n + 4)) ?_ ?_
 ·refine Zs [0, 6] (Zc Zd [] ?_)
  simp only [push_cast, seval, ↓reduceIte, Za, hi0, hk0, hN0, hN]
  refine Zt (t := (decide (0 < a0.kept))) rfl (fun c5 => ?_) (fun c5 => ?_)
  ·replace hz1 := Zx c5 hz1
   obtain ⟨l2, pl2, ql2, el2, hz1⟩ := bA (k := 1) rfl hz1
   obtain ⟨x3, hx3, ax3, bx3, cx3, hz1⟩ := bE (f := Zf) Zc5 (fun _ => rfl) (by decide) hz1
   have gu4 : Ji (fl Zf a0.out ++ [.val (.int .i64 0), .val (.int .i64 0), .val (.slice none 0 0), .val (.int .i64 0), .val (.int .i64 0), .val (.slice none 0 0), .val (.slice none 0 0), .val (.int .i64 0), .val (.slice none 0 0), .val (.slice none 0 0), .val (.slice none 0 0), .val (.slice none 0 0), .val (.int .i64 0), .val (.slice none 0 0)]) [.val (.int .i64 0), .val (.int .i64 a0.kept), .val (.slice none 0 0), .val (.int .i64 0), .val (.int .i64 0), .val (.slice none 0 0), .val (.slice none 0 0), .val (.int .i64 0), .val (.slice none 0 0), .val (.slice none 0 0), .val (.slice none 0 0), .val (.slice none 0 0), .val (.int .i64 0), .val (.slice none 0 0)] (List.length a0.out * 14) = some (fl Zf a0.out ++ [.val (.int .i64 0), .val (.int .i64 a0.kept), .val (.slice none 0 0), .val (.int .i64 0), .val (.int .i64 0), .val (.slice none 0 0), .val (.slice none 0 0), .val (.int .i64 0), .val (.slice none 0 0), .val (.slice none 0 0), .val (.slice none 0 0), .val (.slice none 0 0), .val (.int .i64 0), .val (.slice none 0 0)]) := Uz (f := Zf) (sz := 14) (fun _ => rfl) rfl rfl
   refine Zai Zd (by kernel_rfl) [.low, .low, .low, .low, .low, .low, .low, .low, .low, .low, .pass, .bar, .shp, .fill true, .shp, .shp, .fill false] (fun i => i < (n + 3)) [0, 1, 2, 3, 4, 5, 6, 7, 8, 9, 10, 11, 12, 13, 14, 15, 16] [.low, .low, .low, .low, .low, .low, .low, .low, .low, .low, .pass, .bar, .shp, .fill true, .shp, .shp, .fill false] [] (by kernel_rfl) rfl ?_
   simp only [push_cast, Nat.reduceAdd, Nat.reduceSub, Nat.reduceMul, Nat.reduceLeDiff, Nat.reduceLT, Nat.reduceEqDiff, ↓reduceIte, reduceCtorEq, Int.reduceBEq, Int.reduceBNe, Nat.reduceBEq, Int.reduceLE, Int.reduceLT, Int.reduceEq, Int.reduceNe, Int.reduceNeg, Nat.reduceDiv, Nat.reduceMod, Nat.reducePow, Za, pl2, ql2, el2, ax3, bx3, cx3, gu4, hi0, hk0, hN0, hN]
   repeat (with_reducible refine And.intro (by first | omega | exact Yt rfl | exact Yi | exact Qg rfl rfl) ?_)
   have hz1 := Option.some.inj hz1; subst hz1
   refine And.intro rfl (Fit2.of (Ya hU rfl rfl ?_) (by omega))
   simp only [push_cast, Nat.reduceAdd, Nat.reduceSub, Nat.reduceMul, Nat.reduceLeDiff, Nat.reduceLT, Nat.reduceEqDiff, ↓reduceIte, reduceCtorEq, Int.reduceBEq, Int.reduceBNe, Nat.reduceBEq, Int.reduceLE, Int.reduceLT, Int.reduceEq, Int.reduceNe, Int.reduceNeg, Nat.reduceDiv, Nat.reduceMod, Nat.reducePow, Za, pl2, ql2, el2, ax3, bx3, cx3, gu4, hi0, hk0, hN0, hN]
  replace hz1 := Zw c5 hz1
  refine Z0 ?_
  try simp only [Zn, Zj]
  have hz1 := Option.some.inj hz1; subst hz1
  refine And.intro rfl (Fit2.of (Ya hU rfl rfl ?_) (by omega))
  simp only [push_cast, seval, ↓reduceIte, Za, hi0, hk0, hN0, hN]
 obtain ⟨z6, hz6, h⟩ := bC h
 refine Y5 (E' := ⟨73, [], [(0, .ref i0 0)]⟩) (O' := (Zu ((((O.upd j0_0 none).upd j0_1 none).upd j0_2 none).upd i0 (some ⟨false, 110, 4, 1, [.row (n + 2) z6.1.length, .val (.int .i64 a0.kept), .sl z6.2.length (fl Zb z6.2), .row (n + 1) a0.come.length]⟩)) n [none, some ⟨true, 25, 3, a0.come.length, fl Zb a0.come⟩, some ⟨true, 69, 14, z6.1.length, fl Zf z6.1⟩, none, none])) (n0 := (n + 5)) ?_ ?_
 ·refine Zs [0, 27] (Zc Zd [] ?_)
  simp only [push_cast, seval, ↓reduceIte, Za, hi0, hk0, hN0, hN]
  refine Zt (t := (decide (0 < (a0.gone.length : Int)))) rfl (fun c12 => ?_) (fun c12 => ?_)
  ·replace hz6 := Zx c12 hz6
   refine Zdp ⟨73, [], [(0, .ref i0 0)]⟩ (Zu ((((O.upd j0_0 none).upd j0_1 none).upd j0_2 none).upd i0 (some ⟨false, 110, 4, 1, [.row (n + 2) z1.length, .val (.int .i64 a0.kept), .sl a0.gone.length (fl Zb a0.gone), .row (n + 1) a0.come.length]⟩)) n [none, some ⟨true, 25, 3, a0.come.length, fl Zb a0.come⟩, some ⟨true, 69, 14, z1.length, fl Zf z1⟩, none]) (Ya hU rfl rfl ?_) ?_
   ·simp only [push_cast, seval, ↓reduceIte, Za, hi0, hk0, hN0, hN]
   obtain ⟨l9, pl9, ql9, el9, hz6⟩ := bA (k := 1) rfl hz6
   obtain ⟨x10, hx10, ax10, bx10, cx10, hz6⟩ := bE (f := Zf) Zc5 (fun _ => rfl) (by decide) hz6
   have gu11 : Ji (fl Zf z1 ++ [.val (.int .i64 0), .val (.int .i64 0), .val (.slice none 0 0), .val (.int .i64 0), .val (.int .i64 0), .val (.slice none 0 0), .val (.slice none 0 0), .val (.int .i64 0), .val (.slice none 0 0), .val (.slice none 0 0), .val (.slice none 0 0), .val (.slice none 0 0), .val (.int .i64 0), .val (.slice none 0 0)]) [.val (.int .i64 1), .val (.int .i64 0), .sl a0.gone.length (fl Zb a0.gone), .val (.int .i64 0), .val (.int .i64 0), .val (.slice none 0 0), .val (.slice none 0 0), .val (.int .i64 0), .val (.slice none 0 0), .val (.slice none 0 0), .val (.slice none 0 0), .val (.slice none 0 0), .val (.int .i64 0), .val (.slice none 0 0)] (List.length z1 * 14) = some (fl Zf z1 ++ [.val (.int .i64 1), .val (.int .i64 0), .sl a0.gone.length (fl Zb a0.gone), .val (.int .i64 0), .val (.int .i64 0), .val (.slice none 0 0), .val (.slice none 0 0), .val (.int .i64 0), .val (.slice none 0 0), .val (.slice none 0 0), .val (.slice none 0 0), .val (.slice none 0 0), .val (.int .i64 0), .val (.slice none 0 0)]) := Uz (f := Zf) (sz := 14) (fun _ => rfl) rfl rfl
   refine Zai Zd (by kernel_rfl) [.low, .low, .low, .low, .low, .low, .low, .low, .low, .low, .pass, .bar, .shp, .fill true, .shp, .shp, .fill false] (fun i => i < (n + 4)) [0, 1, 2, 3, 4, 5, 6, 7, 8, 9, 10, 11, 12, 13, 14, 15, 16] [.low, .low, .low, .low, .low, .low, .low, .low, .low, .low, .pass, .bar, .shp, .fill true, .shp, .shp, .fill false] [] (by kernel_rfl) rfl ?_
   simp only [push_cast, Nat.reduceAdd, Nat.reduceSub, Nat.reduceMul, Nat.reduceLeDiff, Nat.reduceLT, Nat.reduceEqDiff, ↓reduceIte, reduceCtorEq, Int.reduceBEq, Int.reduceBNe, Nat.reduceBEq, Int.reduceLE, Int.reduceLT, Int.reduceEq, Int.reduceNe, Int.reduceNeg, Nat.reduceDiv, Nat.reduceMod, Nat.reducePow, Za, pl9, ql9, el9, ax10, bx10, cx10, gu11, hi0, hk0, hN0, hN]
   repeat (with_reducible refine And.intro (by first | omega | exact Yt rfl | exact Yi | exact Qg rfl rfl) ?_)
   have hz6 := Option.some.inj hz6; subst hz6
   refine And.intro rfl (Fit2.of (Ya hU rfl rfl ?_) (by omega))
   simp only [push_cast, Nat.reduceAdd, Nat.reduceSub, Nat.reduceMul, Nat.reduceLeDiff, Nat.reduceLT, Nat.reduceEqDiff, ↓reduceIte, reduceCtorEq, Int.reduceBEq, Int.reduceBNe, Nat.reduceBEq, Int.reduceLE, Int.reduceLT, Int.reduceEq, Int.reduceNe, Int.reduceNeg, Nat.reduceDiv, Nat.reduceMod, Nat.reducePow, Za, pl9, ql9, el9, ax10, bx10, cx10, gu11, hi0, hk0, hN0, hN]
  replace hz6 := Zw c12 hz6
  refine Z0 ?_
  try simp only [Zn, Zj]
  have hz6 := Option.some.inj hz6; subst hz6
  refine And.intro rfl (Fit2.of (Ya hU rfl rfl ?_) (by omega))
  simp only [push_cast, seval, ↓reduceIte, Za, hi0, hk0, hN0, hN]
 obtain ⟨z13, hz13, h⟩ := bC h
 refine Y5 (E' := ⟨73, [], [(0, .ref i0 0)]⟩) (O' := (Zu ((((O.upd j0_0 none).upd j0_1 none).upd j0_2 none).upd i0 (some ⟨false, 110, 4, 1, [.row (n + 2) z13.1.length, .val (.int .i64 a0.kept), .sl z6.2.length (fl Zb z6.2), .sl z13.2.length (fl Zb z13.2)]⟩)) n [none, none, some ⟨true, 69, 14, z13.1.length, fl Zf z13.1⟩, none, none, none])) (n0 := (n + 6)) ?_ ?_
 ·refine Zs [0, 48] (Zc Zd [] ?_)
  simp only [push_cast, seval, ↓reduceIte, Za, hi0, hk0, hN0, hN]
  refine Zt (t := (decide (0 < (a0.come.length : Int)))) rfl (fun c19 => ?_) (fun c19 => ?_)
  ·replace hz13 := Zx c19 hz13
   refine Zdp ⟨73, [], [(0, .ref i0 0)]⟩ (Zu ((((O.upd j0_0 none).upd j0_1 none).upd j0_2 none).upd i0 (some ⟨false, 110, 4, 1, [.row (n + 2) z6.1.length, .val (.int .i64 a0.kept), .sl z6.2.length (fl Zb z6.2), .sl a0.come.length (fl Zb a0.come)]⟩)) n [none, none, some ⟨true, 69, 14, z6.1.length, fl Zf z6.1⟩, none, none]) (Ya hU rfl rfl ?_) ?_
   ·simp only [push_cast, seval, ↓reduceIte, Za, hi0, hk0, hN0, hN]
   obtain ⟨l16, pl16, ql16, el16, hz13⟩ := bA (k := 1) rfl hz13
   obtain ⟨x17, hx17, ax17, bx17, cx17, hz13⟩ := bE (f := Zf) Zc5 (fun _ => rfl) (by decide) hz13
   have gu18 : Ji (fl Zf z6.1 ++ [.val (.int .i64 0), .val (.int .i64 0), .val (.slice none 0 0), .val (.int .i64 0), .val (.int .i64 0), .val (.slice none 0 0), .val (.slice none 0 0), .val (.int .i64 0), .val (.slice none 0 0), .val (.slice none 0 0), .val (.slice none 0 0), .val (.slice none 0 0), .val (.int .i64 0), .val (.slice none 0 0)]) [.val (.int .i64 2), .val (.int .i64 0), .sl a0.come.length (fl Zb a0.come), .val (.int .i64 0), .val (.int .i64 0), .val (.slice none 0 0), .val (.slice none 0 0), .val (.int .i64 0), .val (.slice none 0 0), .val (.slice none 0 0), .val (.slice none 0 0), .val (.slice none 0 0), .val (.int .i64 0), .val (.slice none 0 0)] (List.length z6.1 * 14) = some (fl Zf z6.1 ++ [.val (.int .i64 2), .val (.int .i64 0), .sl a0.come.length (fl Zb a0.come), .val (.int .i64 0), .val (.int .i64 0), .val (.slice none 0 0), .val (.slice none 0 0), .val (.int .i64 0), .val (.slice none 0 0), .val (.slice none 0 0), .val (.slice none 0 0), .val (.slice none 0 0), .val (.int .i64 0), .val (.slice none 0 0)]) := Uz (f := Zf) (sz := 14) (fun _ => rfl) rfl rfl
   refine Zai Zd (by kernel_rfl) [.low, .low, .low, .low, .low, .low, .low, .low, .low, .low, .pass, .bar, .shp, .fill true, .shp, .shp, .fill false] (fun i => i < (n + 5)) [0, 1, 2, 3, 4, 5, 6, 7, 8, 9, 10, 11, 12, 13, 14, 15, 16] [.low, .low, .low, .low, .low, .low, .low, .low, .low, .low, .pass, .bar, .shp, .fill true, .shp, .shp, .fill false] [] (by kernel_rfl) rfl ?_
   simp only [push_cast, Nat.reduceAdd, Nat.reduceSub, Nat.reduceMul, Nat.reduceLeDiff, Nat.reduceLT, Nat.reduceEqDiff, ↓reduceIte, reduceCtorEq, Int.reduceBEq, Int.reduceBNe, Nat.reduceBEq, Int.reduceLE, Int.reduceLT, Int.reduceEq, Int.reduceNe, Int.reduceNeg, Nat.reduceDiv, Nat.reduceMod, Nat.reducePow, Za, pl16, ql16, el16, ax17, bx17, cx17, gu18, hi0, hk0, hN0, hN]
   repeat (with_reducible refine And.intro (by first | omega | exact Yt rfl | exact Yi | exact Qg rfl rfl) ?_)
   have hz13 := Option.some.inj hz13; subst hz13
   refine And.intro rfl (Fit2.of (Ya hU rfl rfl ?_) (by omega))
   simp only [push_cast, Nat.reduceAdd, Nat.reduceSub, Nat.reduceMul, Nat.reduceLeDiff, Nat.reduceLT, Nat.reduceEqDiff, ↓reduceIte, reduceCtorEq, Int.reduceBEq, Int.reduceBNe, Nat.reduceBEq, Int.reduceLE, Int.reduceLT, Int.reduceEq, Int.reduceNe, Int.reduceNeg, Nat.reduceDiv, Nat.reduceMod, Nat.reducePow, Za, pl16, ql16, el16, ax17, bx17, cx17, gu18, hi0, hk0, hN0, hN]
  replace hz13 := Zw c19 hz13
  refine Z0 ?_
  try simp only [Zn, Zj]
  have hz13 := Option.some.inj hz13; subst hz13
  refine And.intro rfl (Fit2.of (Ya hU rfl rfl ?_) (by omega))
  simp only [push_cast, seval, ↓reduceIte, Za, hi0, hk0, hN0, hN]
 refine Zc Zd [] ?_
 simp only [push_cast, seval, ↓reduceIte, Za, hi0, hk0, hN0, hN]
 have h := Option.some.inj h; subst h
 refine Jh (k := 3) (i := i0) (q1 := ⟨false, 110, 4, 1, [.row (n + 2) z13.1.length, .val (.int .i64 0), .row n ([] : List S_api_Tree).length, .row (n + 1) ([] : List S_api_Tree).length]⟩) (L3 := [some ⟨true, 25, 3, ([] : List S_api_Tree).length, fl Zb ([] : List S_api_Tree)⟩, some ⟨true, 25, 3, ([] : List S_api_Tree).length, fl Zb ([] : List S_api_Tree)⟩, some ⟨true, 69, 14, z13.1.length, fl Zf z13.1⟩, none]) (E2 := (⟨73, [], []⟩ : Env)) (n3 := (n + 4)) (.inl rfl) hU rfl [] ?_ ?_
 ·refine Fit2.trans (E' := (⟨73, [], []⟩ : Env)) (O' := (Zu ((((O.upd j0_0 none).upd j0_1 none).upd j0_2 none).upd i0 (some ⟨false, 110, 4, 1, [.row (n + 2) z13.1.length, .val (.int .i64 0), .val (.slice none 0 0), .val (.slice none 0 0)]⟩)) n [none, none, some ⟨true, 69, 14, z13.1.length, fl Zf z13.1⟩, none, none, none])) (n' := (n + 6)) (Fit2.of (Ya hU rfl rfl ?_) (by omega)) ?_
  ·simp only [push_cast, seval, ↓reduceIte, Za, hi0, hk0, hN0, hN]
  refine Fit2.trans (E' := (⟨73, [], []⟩ : Env)) (O' := (Zu ((((O.upd j0_0 none).upd j0_1 none).upd j0_2 none).upd i0 (some ⟨false, 110, 4, 1, [.row (n + 2) z13.1.length, .val (.int .i64 0), .row (n + 6) 0, .val (.slice none 0 0)]⟩)) n [none, none, some ⟨true, 69, 14, z13.1.length, fl Zf z13.1⟩, none, none, none, some ⟨true, 25, 3, 0, []⟩])) (n' := (n + 7)) ?_ ?_
  ·have ha := Va (ba := n) (E := (⟨73, [], []⟩ : Env)) (O := (Zu ((((O.upd j0_0 none).upd j0_1 none).upd j0_2 none).upd i0 (some ⟨false, 110, 4, 1, [.row (n + 2) z13.1.length, .val (.int .i64 0), .val (.slice none 0 0), .val (.slice none 0 0)]⟩)) n [none, none, some ⟨true, 69, 14, z13.1.length, fl Zf z13.1⟩, none, none, none])) (n := (n + 6)) (p := i0) (k := 2) (q := ⟨false, 110, 4, 1, [.row (n + 2) z13.1.length, .val (.int .i64 0), .val (.slice none 0 0), .val (.slice none 0 0)]⟩) 25 3 (by simp only [K8, Zah, List.getElem?_cons_zero, List.getElem?_cons_succ, Option.join_some, Z8, Yf, hi0, hk0, hN0, hN]) rfl (by omega)
   simp only [Y0, Yl, Uj, K9, List.set_cons_zero, List.set_cons_succ, List.cons_append, List.nil_append, List.length_cons, List.length_nil, Nat.zero_add, Nat.reduceAdd, Nat.reduceLT, Nat.add_assoc, Yj, Xz, hi0, hk0, hN0, hN] at ha
   exact ha
  refine Fit2.trans (E' := (⟨73, [], []⟩ : Env)) (O' := (Zu ((((O.upd j0_0 none).upd j0_1 none).upd j0_2 none).upd i0 (some ⟨false, 110, 4, 1, [.row (n + 2) z13.1.length, .val (.int .i64 0), .row (n + 6) ([] : List S_api_Tree).length, .val (.slice none 0 0)]⟩)) n [none, none, some ⟨true, 69, 14, z13.1.length, fl Zf z13.1⟩, none, none, none, some ⟨true, 25, 3, ([] : List S_api_Tree).length, fl Zb ([] : List S_api_Tree)⟩])) (n' := (n + 7)) (Fit2.of (Ya hU rfl rfl ?_) (by omega)) ?_
  ·simp only [push_cast, seval, ↓reduceIte, Za, hi0, hk0, hN0, hN]
  refine Fit2.trans (E' := (⟨73, [], []⟩ : Env)) (O' := (Zu ((((O.upd j0_0 none).upd j0_1 none).upd j0_2 none).upd i0 (some ⟨false, 110, 4, 1, [.row (n + 2) z13.1.length, .val (.int .i64 0), .row (n + 6) ([] : List S_api_Tree).length, .row (n + 7) 0]⟩)) n [none, none, some ⟨true, 69, 14, z13.1.length, fl Zf z13.1⟩, none, none, none, some ⟨true, 25, 3, 0, []⟩, some ⟨true, 25, 3, 0, []⟩])) (n' := (n + 8)) ?_ ?_
  ·have ha := Va (ba := n) (E := (⟨73, [], []⟩ : Env)) (O := (Zu ((((O.upd j0_0 none).upd j0_1 none).upd j0_2 none).upd i0 (some ⟨false, 110, 4, 1, [.row (n + 2) z13.1.length, .val (.int .i64 0), .row (n + 6) ([] : List S_api_Tree).length, .val (.slice none 0 0)]⟩)) n [none, none, some ⟨true, 69, 14, z13.1.length, fl Zf z13.1⟩, none, none, none, some ⟨true, 25, 3, ([] : List S_api_Tree).length, fl Zb ([] : List S_api_Tree)⟩])) (n := (n + 7)) (p := i0) (k := 3) (q := ⟨false, 110, 4, 1, [.row (n + 2) z13.1.length, .val (.int .i64 0), .row (n + 6) ([] : List S_api_Tree).length, .val (.slice none 0 0)]⟩) 25 3 (by simp only [K8, Zah, List.getElem?_cons_zero, List.getElem?_cons_succ, Option.join_some, Z8, Yf, hi0, hk0, hN0, hN]) rfl (by omega)
   simp only [Y0, Yl, Uj, K9, List.set_cons_zero, List.set_cons_succ, List.cons_append, List.nil_append, List.length_cons, List.length_nil, Nat.zero_add, Nat.reduceAdd, Nat.reduceLT, Nat.add_assoc, Yj, Xz, hi0, hk0, hN0, hN] at ha
   exact ha
  refine Fit2.trans (E' := (⟨73, [], []⟩ : Env)) (O' := (Zu ((((O.upd j0_0 none).upd j0_1 none).upd j0_2 none).upd i0 (some ⟨false, 110, 4, 1, [.row (n + 2) z13.1.length, .val (.int .i64 0), .row (n + 6) ([] : List S_api_Tree).length, .row (n + 7) ([] : List S_api_Tree).length]⟩)) n [none, none, some ⟨true, 69, 14, z13.1.length, fl Zf z13.1⟩, none, none, none, some ⟨true, 25, 3, ([] : List S_api_Tree).length, fl Zb ([] : List S_api_Tree)⟩, some ⟨true, 25, 3, ([] : List S_api_Tree).length, fl Zb ([] : List S_api_Tree)⟩])) (n' := (n + 8)) (Fit2.of (Ya hU rfl rfl ?_) (by omega)) ?_
  ·simp only [push_cast, seval, ↓reduceIte, Za, hi0, hk0, hN0, hN]
  refine Xy (k := 8) (k' := 4) hU [3, 3, 2, 3, 3, 3, 0, 1] [6, 7, 2, 0] rfl rfl rfl rfl ⟨rfl, rfl⟩ ?_
  simp only [push_cast, seval, ↓reduceIte, Za, hi0, hk0, hN0, hN]
 simp only [push_cast, seval, ↓reduceIte, Za, Try.results87, hi0, hk0, hN0, hN]
theorem Zc3 {a0 : Zr} {a1 : Int} {r : Zr} {O : Objs} {n : Nat} {i0 j0_0 j0_1 j0_2 : Nat} (hi0 : i0 < n) (K6 : j0_0 < n) (Zdy : j0_1 < n) (Zfs : j0_2 < n) (Qw : i0 ≠ j0_0) (Vk : i0 ≠ j0_1) (U7 : i0 ≠ j0_2) (Vj : j0_0 ≠ j0_1) (U5 : j0_0 ≠ j0_2) (U6 : j0_1 ≠ j0_2) (ho0 : O i0 = some ⟨false, 110, 4, 1, [.row j0_2 a0.out.length, .val (.int .i64 a0.kept), .row j0_0 a0.gone.length, .row j0_1 a0.come.length]⟩) (Vl : O j0_0 = some ⟨true, 25, 3, a0.gone.length, fl Zb a0.gone⟩) (Zes : O j0_1 = some ⟨true, 25, 3, a0.come.length, fl Zb a0.come⟩) (Zgu : O j0_2 = some ⟨true, 69, 14, a0.out.length, fl Zf a0.out⟩) (h : Q6 a0 a1 = some r) : GTo Try.prog 84 [.ref i0 0, .val (.int .i64 a1)] O n (.tup []) (Zu ((((O.upd j0_0 none).upd j0_1 none).upd j0_2 none).upd i0 (some ⟨false, 110, 4, 1, [.row (n + 2) r.out.length, .val (.int .i64 r.kept), .row n r.gone.length, .row (n + 1) r.come.length]⟩)) n [some ⟨true, 25, 3, r.gone.length, fl Zb r.gone⟩, some ⟨true, 25, 3, r.come.length, fl Zb r.come⟩, some ⟨true, 69, 14, r.out.length, fl Zf r.out⟩]) (n + 3) := by
 unfold Q6 at h
 refine Xc Zd Try.call84 Try.func84 rfl (Nat.le_of_ble_eq_true rfl) (by omega) fun hU => ?_
 have e0 := Q8 (ba := n) (E := ⟨19, [], Zc0 0 [.ref i0 0, .val (.int .i64 a1)]⟩) (O := (Zu O n [])) (n := n) (i := i0) (j := j0_0) (k := 2) (len := a0.gone.length) (q := ⟨false, 110, 4, 1, [.row j0_2 a0.out.length, .val (.int .i64 a0.kept), .row j0_0 a0.gone.length, .row j0_1 a0.come.length]⟩) (qj := ⟨true, 25, 3, a0.gone.length, fl Zb a0.gone⟩) (by rw [Yf _ hi0]; first | exact ho0 | exact Z8 _ _ _) rfl (by rw [Yf _ K6]; exact Vl) Qw (by omega)
 simp only [Yj _ _ K6, Yj _ _ hi0, Y0, Yl, Xz, Ux Qw, List.set_cons_zero, List.set_cons_succ, List.cons_append, List.nil_append, List.length_cons, List.length_nil, Nat.zero_add, Nat.reduceAdd, Nat.add_assoc] at e0
 refine Ja e0 ?_
 have e1 := Q8 (ba := n) (E := ⟨19, [], Zc0 0 [.ref i0 0, .val (.int .i64 a1)]⟩) (O := (Zu ((O.upd j0_0 none).upd i0 (some ⟨false, 110, 4, 1, [.row j0_2 a0.out.length, .val (.int .i64 a0.kept), .row n a0.gone.length, .row j0_1 a0.come.length]⟩)) n [some ⟨true, 25, 3, a0.gone.length, fl Zb a0.gone⟩])) (n := (n + 1)) (i := i0) (j := j0_1) (k := 3) (len := a0.come.length) (q := ⟨false, 110, 4, 1, [.row j0_2 a0.out.length, .val (.int .i64 a0.kept), .row n a0.gone.length, .row j0_1 a0.come.length]⟩) (qj := ⟨true, 25, 3, a0.come.length, fl Zb a0.come⟩) (by rw [Yf _ hi0]; first | exact ho0 | exact Z8 _ _ _) rfl (by rw [Yf _ Zdy, Yu _ _ (Ne.symm Vk), Yu _ _ (Ne.symm Vj)]; exact Zes) Vk (by omega)
 simp only [Yj _ _ Zdy, Yj _ _ hi0, Y0, Yl, Xz, Ux Vk, List.set_cons_zero, List.set_cons_succ, List.cons_append, List.nil_append, List.length_cons, List.length_nil, Nat.zero_add, Nat.reduceAdd, Nat.add_assoc] at e1
 refine Ja e1 ?_
 have e2 := Q8 (ba := n) (E := ⟨19, [], Zc0 0 [.ref i0 0, .val (.int .i64 a1)]⟩) (O := (Zu (((O.upd j0_0 none).upd j0_1 none).upd i0 (some ⟨false, 110, 4, 1, [.row j0_2 a0.out.length, .val (.int .i64 a0.kept), .row n a0.gone.length, .row (n + 1) a0.come.length]⟩)) n [some ⟨true, 25, 3, a0.gone.length, fl Zb a0.gone⟩, some ⟨true, 25, 3, a0.come.length, fl Zb a0.come⟩])) (n := (n + 2)) (i := i0) (j := j0_2) (k := 0) (len := a0.out.length) (q := ⟨false, 110, 4, 1, [.row j0_2 a0.out.length, .val (.int .i64 a0.kept), .row n a0.gone.length, .row (n + 1) a0.come.length]⟩) (qj := ⟨true, 69, 14, a0.out.length, fl Zf a0.out⟩) (by rw [Yf _ hi0]; first | exact ho0 | exact Z8 _ _ _) rfl (by rw [Yf _ Zfs, Yu _ _ (Ne.symm U7), Yu _ _ (Ne.symm U6), Yu _ _ (Ne.symm U5)]; exact Zgu) U7 (by omega)
 simp only [Yj _ _ Zfs, Yj _ _ hi0, Y0, Yl, Xz, Ux U7, List.set_cons_zero, List.set_cons_succ, List.cons_append, List.nil_append, List.length_cons, List.length_nil, Nat.zero_add, Nat.reduceAdd, Nat.add_assoc] at e2
 refine Ja e2 ?_
 have hU := (Und.drop (Und.drop (Und.drop hU j0_0) j0_1) j0_2)
 have hk0 : ∀ k, i0 < n + k := fun k => by omega
 have hN0 : ∀ o, Objs.upd (((O.upd j0_0 none).upd j0_1 none).upd j0_2 none) i0 o n = none := fun o => Qv hU hi0 _ (Nat.le_refl _)
 have hN : ∀ o k, Objs.upd (((O.upd j0_0 none).upd j0_1 none).upd j0_2 none) i0 o (n + k) = none := fun o k => Qv hU hi0 _ (Nat.le_add_right _ _)
 show W _ _ _ _ ⟨19, [], [(0, .ref i0 0), (1, .val (.int .i64 a1))]⟩ (Zu ((((O.upd j0_0 none).upd j0_1 none).upd j0_2 none).upd i0 (some ⟨false, 110, 4, 1, [.row (n + 2) a0.out.length, .val (.int .i64 a0.kept), .row n a0.gone.length, .row (n + 1) a0.come.length]⟩)) n [some ⟨true, 25, 3, a0.gone.length, fl Zb a0.gone⟩, some ⟨true, 25, 3, a0.come.length, fl Zb a0.come⟩, some ⟨true, 69, 14, a0.out.length, fl Zf a0.out⟩]) _
 obtain ⟨z1, hz1, h⟩ := bC h
 refine Y5 (E' := ⟨19, [], [(0, .ref i0 0), (1, .val (.int .i64 a1))]⟩) (O' := (Zu ((((O.upd j0_0 none).upd j0_1 none).upd j0_2 none).upd i0 (some ⟨false, 110, 4, 1, [.row (n + 6) z1.1.length, .val (.int .i64 z1.2.2.2), .row (n + 7) z1.2.1.length, .row (n + 8) z1.2.2.1.length]⟩)) n [none, none, none, none, none, none, some ⟨true, 69, 14, z1.1.length, fl Zf z1.1⟩, some ⟨true, 25, 3, z1.2.1.length, fl Zb z1.2.1⟩, some ⟨true, 25, 3, z1.2.2.1.length, fl Zb z1.2.2.1⟩])) (n0 := (n + 9)) ?_ ?_
 ·refine Zs [0, 1, 8] (Zc Zd [] ?_)
  simp only [push_cast, seval, ↓reduceIte, Za, hi0, hk0, hN0, hN]
  refine Zt (t := (a0.kept == 0)) rfl (fun c3 => ?_) (fun c3 => ?_)
  ·replace hz1 := Zx c3 hz1
   obtain ⟨y2, hy2, hz1⟩ := bC hz1
   refine Zc Zd [] ?_
   simp only [push_cast, seval, ↓reduceIte, Za, hi0, hk0, hN0, hN]
   refine (Kk (i0 := i0) (j0_0 := n) (j0_1 := (n + 1)) (j0_2 := (n + 2)) (by omega) (by omega) (by omega) (by omega) (by omega) (by omega) (by omega) (by omega) (by omega) (by omega) (by simp only [push_cast, seval, ↓reduceIte, Za, Y2, hi0, hk0, hN0, hN] <;> rfl) (by simp only [push_cast, seval, ↓reduceIte, Za, Y2, hi0, hk0, hN0, hN] <;> rfl) (by simp only [push_cast, seval, ↓reduceIte, Za, Y2, hi0, hk0, hN0, hN] <;> rfl) (by simp only [push_cast, seval, ↓reduceIte, Za, Y2, hi0, hk0, hN0, hN] <;> rfl) hy2).then ?_
   simp only [push_cast, seval, ↓reduceIte, Za, hi0, hk0, hN0, hN]
   have hz1 := Option.some.inj hz1; subst hz1
   refine And.intro rfl ?_
   refine Fit2.trans (E' := (⟨19, [], [(0, .ref i0 0), (1, .val (.int .i64 a1))]⟩ : Env)) (O' := (Zu ((((O.upd j0_0 none).upd j0_1 none).upd j0_2 none).upd i0 (some ⟨false, 110, 4, 1, [.row (n + 5) y2.out.length, .val (.int .i64 y2.kept), .row (n + 3) y2.gone.length, .row (n + 4) y2.come.length]⟩)) n [none, none, none, some ⟨true, 25, 3, y2.gone.length, fl Zb y2.gone⟩, some ⟨true, 25, 3, y2.come.length, fl Zb y2.come⟩, some ⟨true, 69, 14, y2.out.length, fl Zf y2.out⟩])) (n' := (n + 6)) (Fit2.of (Ya hU rfl rfl ?_) (by omega)) ?_
   ·simp only [push_cast, seval, ↓reduceIte, Za, hi0, hk0, hN0, hN]
   refine Xy (k := 6) (k' := 9) hU [5, 5, 5, 7, 8, 6] [0, 0, 0, 0, 0, 0, 5, 3, 4] rfl rfl rfl rfl ⟨rfl, rfl⟩ ?_
   simp only [push_cast, seval, ↓reduceIte, Za, hi0, hk0, hN0, hN]
  replace hz1 := Zw c3 hz1
  refine Z0 ?_
  try simp only [Zn, Zj]
  have hz1 := Option.some.inj hz1; subst hz1
  refine And.intro rfl ?_
  refine Fit2.trans (E' := (⟨19, [], [(0, .ref i0 0), (1, .val (.int .i64 a1))]⟩ : Env)) (O' := (Zu ((((O.upd j0_0 none).upd j0_1 none).upd j0_2 none).upd i0 (some ⟨false, 110, 4, 1, [.row (n + 2) a0.out.length, .val (.int .i64 a0.kept), .row n a0.gone.length, .row (n + 1) a0.come.length]⟩)) n [some ⟨true, 25, 3, a0.gone.length, fl Zb a0.gone⟩, some ⟨true, 25, 3, a0.come.length, fl Zb a0.come⟩, some ⟨true, 69, 14, a0.out.length, fl Zf a0.out⟩])) (n' := (n + 3)) (Fit2.of (Ya hU rfl rfl ?_) (by omega)) ?_
  ·simp only [push_cast, seval, ↓reduceIte, Za, hi0, hk0, hN0, hN]
  refine Xy (k := 3) (k' := 9) hU [7, 8, 6] [0, 0, 0, 0, 0, 0, 2, 0, 1] rfl rfl rfl rfl ⟨rfl, rfl⟩ ?_
  simp only [push_cast, seval, ↓reduceIte, Za, hi0, hk0, hN0, hN]
 refine Zc Zd [] ?_
 simp only [push_cast, seval, ↓reduceIte, Za, hi0, hk0, hN0, hN]
 have h := Option.some.inj h; subst h
 refine Jh (k := 3) (i := i0) (q1 := ⟨false, 110, 4, 1, [.row (n + 2) z1.1.length, .val (.int .i64 (IntKind.i64.wrap (z1.2.2.2 + a1))), .row n z1.2.1.length, .row (n + 1) z1.2.2.1.length]⟩) (L3 := [some ⟨true, 25, 3, z1.2.1.length, fl Zb z1.2.1⟩, some ⟨true, 25, 3, z1.2.2.1.length, fl Zb z1.2.2.1⟩, some ⟨true, 69, 14, z1.1.length, fl Zf z1.1⟩, none]) (E2 := (⟨19, [], []⟩ : Env)) (n3 := (n + 4)) (.inl rfl) hU rfl [] ?_ ?_
 ·refine Fit2.trans (E' := (⟨19, [], []⟩ : Env)) (O' := (Zu ((((O.upd j0_0 none).upd j0_1 none).upd j0_2 none).upd i0 (some ⟨false, 110, 4, 1, [.row (n + 6) z1.1.length, .val (.int .i64 (IntKind.i64.wrap (z1.2.2.2 + a1))), .row (n + 7) z1.2.1.length, .row (n + 8) z1.2.2.1.length]⟩)) n [none, none, none, none, none, none, some ⟨true, 69, 14, z1.1.length, fl Zf z1.1⟩, some ⟨true, 25, 3, z1.2.1.length, fl Zb z1.2.1⟩, some ⟨true, 25, 3, z1.2.2.1.length, fl Zb z1.2.2.1⟩])) (n' := (n + 9)) (Fit2.of (Ya hU rfl rfl ?_) (by omega)) ?_
  ·simp only [push_cast, seval, ↓reduceIte, Za, hi0, hk0, hN0, hN]
  refine Xy (k := 9) (k' := 4) hU [3, 3, 3, 3, 3, 3, 2, 0, 1] [7, 8, 6, 0] rfl rfl rfl rfl ⟨rfl, rfl⟩ ?_
  simp only [push_cast, seval, ↓reduceIte, Za, hi0, hk0, hN0, hN]
 simp only [push_cast, seval, ↓reduceIte, Za, Try.results84, hi0, hk0, hN0, hN]
theorem Zfn {a0 : Zr} {a2 : (List S_api_Tree)} {r : Zr} {O : Objs} {n : Nat} {i0 j0_0 j0_1 j0_2 : Nat} (hi0 : i0 < n) (K6 : j0_0 < n) (Zdy : j0_1 < n) (Zfs : j0_2 < n) (Qw : i0 ≠ j0_0) (Vk : i0 ≠ j0_1) (U7 : i0 ≠ j0_2) (Vj : j0_0 ≠ j0_1) (U5 : j0_0 ≠ j0_2) (U6 : j0_1 ≠ j0_2) (ho0 : O i0 = some ⟨false, 110, 4, 1, [.row j0_2 a0.out.length, .val (.int .i64 a0.kept), .row j0_0 a0.gone.length, .row j0_1 a0.come.length]⟩) (Vl : O j0_0 = some ⟨true, 25, 3, a0.gone.length, fl Zb a0.gone⟩) (Zes : O j0_1 = some ⟨true, 25, 3, a0.come.length, fl Zb a0.come⟩) (Zgu : O j0_2 = some ⟨true, 69, 14, a0.out.length, fl Zf a0.out⟩) (h : Qx a0 a2 = some r) : GTo Try.prog 85 [.ref i0 0, .ref i0 2, .sl a2.length (fl Zb a2)] O n (.tup []) (Zu ((((O.upd j0_0 none).upd j0_1 none).upd j0_2 none).upd i0 (some ⟨false, 110, 4, 1, [.row (n + 2) r.out.length, .val (.int .i64 r.kept), .row n r.gone.length, .row (n + 1) r.come.length]⟩)) n [some ⟨true, 25, 3, r.gone.length, fl Zb r.gone⟩, some ⟨true, 25, 3, r.come.length, fl Zb r.come⟩, some ⟨true, 69, 14, r.out.length, fl Zf r.out⟩]) (n + 3) := by
 unfold Qx at h
 refine Xc Zd Try.call85 Try.func85 rfl (Nat.le_of_ble_eq_true rfl) (by omega) fun hU => ?_
 have e0 := Q8 (ba := n) (E := ⟨32, [], Zc0 0 [.ref i0 0, .ref i0 2, .sl a2.length (fl Zb a2)]⟩) (O := (Zu O n [])) (n := n) (i := i0) (j := j0_0) (k := 2) (len := a0.gone.length) (q := ⟨false, 110, 4, 1, [.row j0_2 a0.out.length, .val (.int .i64 a0.kept), .row j0_0 a0.gone.length, .row j0_1 a0.come.length]⟩) (qj := ⟨true, 25, 3, a0.gone.length, fl Zb a0.gone⟩) (by rw [Yf _ hi0]; first | exact ho0 | exact Z8 _ _ _) rfl (by rw [Yf _ K6]; exact Vl) Qw (by omega)
 simp only [Yj _ _ K6, Yj _ _ hi0, Y0, Yl, Xz, Ux Qw, List.set_cons_zero, List.set_cons_succ, List.cons_append, List.nil_append, List.length_cons, List.length_nil, Nat.zero_add, Nat.reduceAdd, Nat.add_assoc] at e0
 refine Ja e0 ?_
 have e1 := Q8 (ba := n) (E := ⟨32, [], Zc0 0 [.ref i0 0, .ref i0 2, .sl a2.length (fl Zb a2)]⟩) (O := (Zu ((O.upd j0_0 none).upd i0 (some ⟨false, 110, 4, 1, [.row j0_2 a0.out.length, .val (.int .i64 a0.kept), .row n a0.gone.length, .row j0_1 a0.come.length]⟩)) n [some ⟨true, 25, 3, a0.gone.length, fl Zb a0.gone⟩])) (n := (n + 1)) (i := i0) (j := j0_1) (k := 3) (len := a0.come.length) (q := ⟨false, 110, 4, 1, [.row j0_2 a0.out.length, .val (.int .i64 a0.kept), .row n a0.gone.length, .row j0_1 a0.come.length]⟩) (qj := ⟨true, 25, 3, a0.come.length, fl Zb a0.come⟩) (by rw [Yf _ hi0]; first | exact ho0 | exact Z8 _ _ _) rfl (by rw [Yf _ Zdy, Yu _ _ (Ne.symm Vk), Yu _ _ (Ne.symm Vj)]; exact Zes) Vk (by omega)
 simp only [Yj _ _ Zdy, Yj _ _ hi0, Y0, Yl, Xz, Ux Vk, List.set_cons_zero, List.set_cons_succ, List.cons_append, List.nil_append, List.length_cons, List.length_nil, Nat.zero_add, Nat.reduceAdd, Nat.add_assoc] at e1
 refine Ja e1 ?_
 have e2 := Q8 (ba := n) (E := ⟨32, [], Zc0 0 [.ref i0 0, .ref i0 2, .sl a2.length (fl Zb a2)]⟩) (O := (Zu (((O.upd j0_0 none).upd j0_1 none).upd i0 (some ⟨false, 110, 4, 1, [.row j0_2 a0.out.length, .val (.int .i64 a0.kept), .row n a0.gone.length, .row (n + 1) a0.come.length]⟩)) n [some ⟨true, 25, 3, a0.gone.length, fl Zb a0.gone⟩, some ⟨true, 25, 3, a0.come.length, fl Zb a0.come⟩])) (n := (n + 2)) (i := i0) (j := j0_2) (k := 0) (len := a0.out.length) (q := ⟨false, 110, 4, 1, [.row j0_2 a0.out.length, .val (.int .i64 a0.kept), .row n a0.gone.length, .row (n + 1) a0.come.length]⟩) (qj := ⟨true, 69, 14, a0.out.length, fl Zf a0.out⟩) (by rw [Yf _ hi0]; first | exact ho0 | exact Z8 _ _ _) rfl (by rw [Yf _ Zfs, Yu _ _ (Ne.symm U7), Yu _ _ (Ne.symm U6), Yu _ _ (Ne.symm U5)]; exact Zgu) U7 (by omega)
 simp only [Yj _ _ Zfs, Yj _ _ hi0, Y0, Yl, Xz, Ux U7, List.set_cons_zero, List.set_cons_succ, List.cons_append, List.nil_append, List.length_cons, List.length_nil, Nat.zero_add, Nat.reduceAdd, Nat.add_assoc] at e2
 refine Ja e2 ?_
 have hU := (Und.drop (Und.drop (Und.drop hU j0_0) j0_1) j0_2)
 have hk0 : ∀ k, i0 < n + k := fun k => by omega
 have hN0 : ∀ o, Objs.upd (((O.upd j0_0 none).upd j0_1 none).upd j0_2 none) i0 o n = none := fun o => Qv hU hi0 _ (Nat.le_refl _)
 have hN : ∀ o k, Objs.upd (((O.upd j0_0 none).upd j0_1 none).upd j0_2 none) i0 o (n + k) = none := fun o k => Qv hU hi0 _ (Nat.le_add_right _ _)
 show W _ _ _ _ ⟨32, [], [(0, .ref i0 0), (1, .ref i0 2), (2, .sl a2.length (fl Zb a2))]⟩ (Zu ((((O.upd j0_0 none).upd j0_1 none).upd j0_2 none).upd i0 (some ⟨false, 110, 4, 1, [.row (n + 2) a0.out.length, .val (.int .i64 a0.kept), .row n a0.gone.length, .row (n + 1) a0.come.length]⟩)) n [some ⟨true, 25, 3, a0.gone.length, fl Zb a0.gone⟩, some ⟨true, 25, 3, a0.come.length, fl Zb a0.come⟩, some ⟨true, 69, 14, a0.out.length, fl Zf a0.out⟩]) _
 obtain ⟨z1, hz1, h⟩ := bC h
 refine Y5 (E' := ⟨32, [], [(1, .ref i0 2), (2, .sl a2.length (fl Zb a2))]⟩) (O' := (Zu ((((O.upd j0_0 none).upd j0_1 none).upd j0_2 none).upd i0 (some ⟨false, 110, 4, 1, [.row (n + 6) z1.1.length, .val (.int .i64 z1.2.2.2), .row (n + 7) z1.2.1.length, .row (n + 8) z1.2.2.1.length]⟩)) n [none, none, none, none, none, none, some ⟨true, 69, 14, z1.1.length, fl Zf z1.1⟩, some ⟨true, 25, 3, z1.2.1.length, fl Zb z1.2.1⟩, some ⟨true, 25, 3, z1.2.2.1.length, fl Zb z1.2.2.1⟩])) (n0 := (n + 9)) ?_ ?_
 ·refine Zs [0, 1, 2, 12] (Zc Zd [] ?_)
  simp only [push_cast, seval, ↓reduceIte, Za, hi0, hk0, hN0, hN]
  refine Zt (t := (decide (0 < a0.kept))) rfl (fun c3 => ?_) (fun c3 => ?_)
  ·replace hz1 := Zx c3 hz1
   obtain ⟨y2, hy2, hz1⟩ := bC hz1
   refine Zc Zd [] ?_
   simp only [push_cast, seval, ↓reduceIte, Za, hi0, hk0, hN0, hN]
   refine (Kk (i0 := i0) (j0_0 := n) (j0_1 := (n + 1)) (j0_2 := (n + 2)) (by omega) (by omega) (by omega) (by omega) (by omega) (by omega) (by omega) (by omega) (by omega) (by omega) (by simp only [push_cast, seval, ↓reduceIte, Za, Y2, hi0, hk0, hN0, hN] <;> rfl) (by simp only [push_cast, seval, ↓reduceIte, Za, Y2, hi0, hk0, hN0, hN] <;> rfl) (by simp only [push_cast, seval, ↓reduceIte, Za, Y2, hi0, hk0, hN0, hN] <;> rfl) (by simp only [push_cast, seval, ↓reduceIte, Za, Y2, hi0, hk0, hN0, hN] <;> rfl) hy2).then ?_
   simp only [push_cast, seval, ↓reduceIte, Za, hi0, hk0, hN0, hN]
   have hz1 := Option.some.inj hz1; subst hz1
   refine And.intro rfl ?_
   refine Fit2.trans (E' := (⟨32, [], [(1, .ref i0 2), (2, .sl a2.length (fl Zb a2))]⟩ : Env)) (O' := (Zu ((((O.upd j0_0 none).upd j0_1 none).upd j0_2 none).upd i0 (some ⟨false, 110, 4, 1, [.row (n + 5) y2.out.length, .val (.int .i64 y2.kept), .row (n + 3) y2.gone.length, .row (n + 4) y2.come.length]⟩)) n [none, none, none, some ⟨true, 25, 3, y2.gone.length, fl Zb y2.gone⟩, some ⟨true, 25, 3, y2.come.length, fl Zb y2.come⟩, some ⟨true, 69, 14, y2.out.length, fl Zf y2.out⟩])) (n' := (n + 6)) (Fit2.of (Ya hU rfl rfl ?_) (by omega)) ?_
   ·simp only [push_cast, seval, ↓reduceIte, Za, hi0, hk0, hN0, hN]
   refine Xy (k := 6) (k' := 9) hU [5, 5, 5, 7, 8, 6] [0, 0, 0, 0, 0, 0, 5, 3, 4] rfl rfl rfl rfl ⟨rfl, rfl⟩ ?_
   simp only [push_cast, seval, ↓reduceIte, Za, hi0, hk0, hN0, hN]
  replace hz1 := Zw c3 hz1
  refine Z0 ?_
  try simp only [Zn, Zj]
  have hz1 := Option.some.inj hz1; subst hz1
  refine And.intro rfl ?_
  refine Fit2.trans (E' := (⟨32, [], [(1, .ref i0 2), (2, .sl a2.length (fl Zb a2))]⟩ : Env)) (O' := (Zu ((((O.upd j0_0 none).upd j0_1 none).upd j0_2 none).upd i0 (some ⟨false, 110, 4, 1, [.row (n + 2) a0.out.length, .val (.int .i64 a0.kept), .row n a0.gone.length, .row (n + 1) a0.come.length]⟩)) n [some ⟨true, 25, 3, a0.gone.length, fl Zb a0.gone⟩, some ⟨true, 25, 3, a0.come.length, fl Zb a0.come⟩, some ⟨true, 69, 14, a0.out.length, fl Zf a0.out⟩])) (n' := (n + 3)) (Fit2.of (Ya hU rfl rfl ?_) (by omega)) ?_
  ·simp only [push_cast, seval, ↓reduceIte, Za, hi0, hk0, hN0, hN]
  refine Xy (k := 3) (k' := 9) hU [7, 8, 6] [0, 0, 0, 0, 0, 0, 2, 0, 1] rfl rfl rfl rfl ⟨rfl, rfl⟩ ?_
  simp only [push_cast, seval, ↓reduceIte, Za, hi0, hk0, hN0, hN]
 refine Zs [1, 15, 16, 17] (Zc Zd [] ?_)
 simp only [push_cast, seval, ↓reduceIte, Za, hi0, hk0, hN0, hN]
 refine Zm [1, 15, 16, 17] [false, false, false, false, false, false, true, true, true] ?_
 simp only [push_cast, seval, ↓reduceIte]
 obtain ⟨z11, hz11, h⟩ := bC h
 refine Yv (E' := ⟨32, [], []⟩) (O' := (Zu ((((O.upd j0_0 none).upd j0_1 none).upd j0_2 none).upd i0 (some ⟨false, 110, 4, 1, [.row (n + 6) z1.1.length, .val (.int .i64 z1.2.2.2), .row (n + 7) z11.length, .row (n + 8) z1.2.2.1.length]⟩)) n [none, none, none, none, none, none, some ⟨true, 69, 14, z1.1.length, fl Zf z1.1⟩, some ⟨true, 25, 3, z11.length, fl Zb z11⟩, some ⟨true, 25, 3, z1.2.2.1.length, fl Zb z1.2.2.1⟩])) (n0 := (n + 9)) ?_ ?_
 ·refine Y7 hz11 (fun s0_ => ⟨32, [], [(1, .ref i0 2), (15, .sl a2.length (fl Zb a2)), (16, .val (.int .i64 (a2.length : Int))), (17, .val (.int .i64 s0_.1))]⟩) (fun s0_ => (Zu ((((O.upd j0_0 none).upd j0_1 none).upd j0_2 none).upd i0 (some ⟨false, 110, 4, 1, [.row (n + 6) z1.1.length, .val (.int .i64 z1.2.2.2), .row (n + 7) s0_.2.length, .row (n + 8) z1.2.2.1.length]⟩)) n [none, none, none, none, none, none, some ⟨true, 69, 14, z1.1.length, fl Zf z1.1⟩, some ⟨true, 25, 3, s0_.2.length, fl Zb s0_.2⟩, some ⟨true, 25, 3, z1.2.2.1.length, fl Zb z1.2.2.1⟩])) (fun z11 => JX 0 n (⟨32, [], []⟩ : Env) (Zu ((((O.upd j0_0 none).upd j0_1 none).upd j0_2 none).upd i0 (some ⟨false, 110, 4, 1, [.row (n + 6) z1.1.length, .val (.int .i64 z1.2.2.2), .row (n + 7) z11.length, .row (n + 8) z1.2.2.1.length]⟩)) n [none, none, none, none, none, none, some ⟨true, 69, 14, z1.1.length, fl Zf z1.1⟩, some ⟨true, 25, 3, z11.length, fl Zb z11⟩, some ⟨true, 25, 3, z1.2.2.1.length, fl Zb z1.2.2.1⟩]) (n + 9)) ?_
  intro s0_ x0_ hs0_
  unfold X5 at hs0_
  try dsimp only
  refine Zs [1, 15, 16, 17, 18] (Zc Zd [] ?_)
  simp only [push_cast, seval, ↓reduceIte, Za, hi0, hk0, hN0, hN]
  refine Zo ?_
  refine Zt (t := (decide (s0_.1 < (a2.length : Int)))) rfl (fun c10 => ?_) (fun c10 => ?_)
  ·replace hs0_ := Zx c10 hs0_
   refine Z0 ?_
   try simp only [Zn, Zj]
   refine Zm [1, 15, 16, 17] [false, false, false, false, false, false, true, true, true] ?_
   simp only [push_cast, seval, ↓reduceIte]
   refine Zo ?_
   refine Ys ?_
   refine Zo ?_
   obtain ⟨x5, hx5, ax5, bx5, cx5, hs0_⟩ := bE (f := Zb) Vs (fun _ => rfl) (by decide) hs0_
   refine Zc Zd [] ?_
   simp only [push_cast, Nat.reduceAdd, Nat.reduceSub, Nat.reduceMul, Nat.reduceLeDiff, Nat.reduceLT, Nat.reduceEqDiff, ↓reduceIte, reduceCtorEq, Int.reduceBEq, Int.reduceBNe, Nat.reduceBEq, Int.reduceLE, Int.reduceLT, Int.reduceEq, Int.reduceNe, Int.reduceNeg, Nat.reduceDiv, Nat.reduceMod, Nat.reducePow, Za, ax5, bx5, cx5, hi0, hk0, hN0, hN]
   refine Zm [1, 7, 15, 16, 17] [false, false, false, false, false, false, true, true, true, true] ?_
   simp only [push_cast, seval, ↓reduceIte]
   obtain ⟨y6, hy6, hs0_⟩ := bC hs0_
   obtain ⟨l7, pl7, ql7, el7, hs0_⟩ := bA (k := 1) rfl hs0_
   obtain ⟨x8, hx8, ax8, bx8, cx8, hs0_⟩ := bE (f := Zb) Vs (fun _ => rfl) (by decide) hs0_
   have gu9 : Ji (fl Zb s0_.2 ++ [.val (.int .i64 0), .val (.slice none 0 0), .val (.slice none 0 0)]) [.val (.int .i64 y6.Kind), .sl y6.Words.length (fl (eI .u64) y6.Words), .sl y6.Kids.length (fl Zb y6.Kids)] (List.length s0_.2 * 3) = some (fl Zb s0_.2 ++ [.val (.int .i64 y6.Kind), .sl y6.Words.length (fl (eI .u64) y6.Words), .sl y6.Kids.length (fl Zb y6.Kids)]) := Uz (f := Zb) (sz := 3) (fun _ => rfl) rfl rfl
   refine Zai Zd (by kernel_rfl) [.low, .low, .low, .low, .low, .low, .pass, .bar, .shp, .fill true, .shp, .fill false] (fun i => i < (n + 10)) [0, 1, 2, 3, 4, 5, 6, 7, 8, 9, 10, 11] [.low, .low, .low, .low, .low, .low, .pass, .bar, .shp, .fill true, .shp, .fill false] [] (by kernel_rfl) rfl ?_
   simp only [push_cast, Nat.reduceAdd, Nat.reduceSub, Nat.reduceMul, Nat.reduceLeDiff, Nat.reduceLT, Nat.reduceEqDiff, ↓reduceIte, reduceCtorEq, Int.reduceBEq, Int.reduceBNe, Nat.reduceBEq, Int.reduceLE, Int.reduceLT, Int.reduceEq, Int.reduceNe, Int.reduceNeg, Nat.reduceDiv, Nat.reduceMod, Nat.reducePow, Za, pl7, ql7, el7, ax8, bx8, cx8, gu9, hi0, hk0, hN0, hN]
   repeat (with_reducible refine And.intro (by first | omega | exact Yt rfl | exact Yi | exact Qg rfl rfl) ?_)
   first | refine PCallA.of (fun _ _ => Gc hy6) ?_ | refine PCall.of (Gc hy6) ?_
   simp only [push_cast, Nat.reduceAdd, Nat.reduceSub, Nat.reduceMul, Nat.reduceLeDiff, Nat.reduceLT, Nat.reduceEqDiff, ↓reduceIte, reduceCtorEq, Int.reduceBEq, Int.reduceBNe, Nat.reduceBEq, Int.reduceLE, Int.reduceLT, Int.reduceEq, Int.reduceNe, Int.reduceNeg, Nat.reduceDiv, Nat.reduceMod, Nat.reducePow, Za, pl7, ql7, el7, ax8, bx8, cx8, gu9, hi0, hk0, hN0, hN]
   repeat (with_reducible refine And.intro (by first | omega | exact Yt rfl | exact Yi | exact Qg rfl rfl) ?_)
   refine Zdp ⟨32, [], [(1, .ref i0 2), (15, .sl a2.length (fl Zb a2)), (16, .val (.int .i64 (a2.length : Int))), (17, .val (.int .i64 s0_.1))]⟩ (Zu ((((O.upd j0_0 none).upd j0_1 none).upd j0_2 none).upd i0 (some ⟨false, 110, 4, 1, [.row (n + 6) z1.1.length, .val (.int .i64 z1.2.2.2), .row (n + 7) (s0_.2 ++ [y6]).length, .row (n + 8) z1.2.2.1.length]⟩)) n [none, none, none, none, none, none, some ⟨true, 69, 14, z1.1.length, fl Zf z1.1⟩, some ⟨true, 25, 3, (s0_.2 ++ [y6]).length, fl Zb (s0_.2 ++ [y6])⟩, some ⟨true, 25, 3, z1.2.2.1.length, fl Zb z1.2.2.1⟩, none, none]) (Ya hU rfl rfl ?_) ?_
   ·simp only [push_cast, Nat.reduceAdd, Nat.reduceSub, Nat.reduceMul, Nat.reduceLeDiff, Nat.reduceLT, Nat.reduceEqDiff, ↓reduceIte, reduceCtorEq, Int.reduceBEq, Int.reduceBNe, Nat.reduceBEq, Int.reduceLE, Int.reduceLT, Int.reduceEq, Int.reduceNe, Int.reduceNeg, Nat.reduceDiv, Nat.reduceMod, Nat.reducePow, Za, pl7, ql7, el7, ax8, bx8, cx8, gu9, hi0, hk0, hN0, hN]
   refine Zc Zd [] ?_
   simp only [push_cast, seval, ↓reduceIte, Za, hi0, hk0, hN0, hN]
   have hs0_ := Option.some.inj hs0_; subst hs0_
   refine And.intro rfl (Fit2.of (Ya hU rfl rfl ?_) (by omega))
   simp only [push_cast, seval, ↓reduceIte, Za, hi0, hk0, hN0, hN]
  replace hs0_ := Zw c10 hs0_
  refine Xs ?_
  try simp only [Zn, Zj, ↓reduceIte, Nat.reduceEqDiff]
  have hs0_ := Option.some.inj hs0_; subst hs0_
  refine And.intro (fun h => by cases h) (And.intro rfl (Fit2.of (Ya hU rfl rfl ?_) (by omega)))
  simp only [push_cast, seval, ↓reduceIte, Za, hi0, hk0, hN0, hN]
 try simp only [Zn, Zj, ↓reduceIte, Nat.reduceEqDiff]
 have h := Option.some.inj h; subst h
 refine Jh (k := 3) (i := i0) (q1 := ⟨false, 110, 4, 1, [.row (n + 2) z1.1.length, .val (.int .i64 z1.2.2.2), .row n z11.length, .row (n + 1) z1.2.2.1.length]⟩) (L3 := [some ⟨true, 25, 3, z11.length, fl Zb z11⟩, some ⟨true, 25, 3, z1.2.2.1.length, fl Zb z1.2.2.1⟩, some ⟨true, 69, 14, z1.1.length, fl Zf z1.1⟩, none]) (E2 := (⟨32, [], []⟩ : Env)) (n3 := (n + 4)) (.inl rfl) hU rfl [] ?_ ?_
 ·refine Fit2.trans (E' := (⟨32, [], []⟩ : Env)) (O' := (Zu ((((O.upd j0_0 none).upd j0_1 none).upd j0_2 none).upd i0 (some ⟨false, 110, 4, 1, [.row (n + 6) z1.1.length, .val (.int .i64 z1.2.2.2), .row (n + 7) z11.length, .row (n + 8) z1.2.2.1.length]⟩)) n [none, none, none, none, none, none, some ⟨true, 69, 14, z1.1.length, fl Zf z1.1⟩, some ⟨true, 25, 3, z11.length, fl Zb z11⟩, some ⟨true, 25, 3, z1.2.2.1.length, fl Zb z1.2.2.1⟩])) (n' := (n + 9)) (Fit2.of (Ya hU rfl rfl ?_) (by omega)) ?_
  ·simp only [push_cast, seval, ↓reduceIte, Za, hi0, hk0, hN0, hN]
  refine Xy (k := 9) (k' := 4) hU [3, 3, 3, 3, 3, 3, 2, 0, 1] [7, 8, 6, 0] rfl rfl rfl rfl ⟨rfl, rfl⟩ ?_
  simp only [push_cast, seval, ↓reduceIte, Za, hi0, hk0, hN0, hN]
 simp only [push_cast, seval, ↓reduceIte, Za, Try.results85, hi0, hk0, hN0, hN]
theorem Zfo {a0 : Zr} {a2 : (List S_api_Tree)} {r : Zr} {O : Objs} {n : Nat} {i0 j0_0 j0_1 j0_2 : Nat} (hi0 : i0 < n) (K6 : j0_0 < n) (Zdy : j0_1 < n) (Zfs : j0_2 < n) (Qw : i0 ≠ j0_0) (Vk : i0 ≠ j0_1) (U7 : i0 ≠ j0_2) (Vj : j0_0 ≠ j0_1) (U5 : j0_0 ≠ j0_2) (U6 : j0_1 ≠ j0_2) (ho0 : O i0 = some ⟨false, 110, 4, 1, [.row j0_2 a0.out.length, .val (.int .i64 a0.kept), .row j0_0 a0.gone.length, .row j0_1 a0.come.length]⟩) (Vl : O j0_0 = some ⟨true, 25, 3, a0.gone.length, fl Zb a0.gone⟩) (Zes : O j0_1 = some ⟨true, 25, 3, a0.come.length, fl Zb a0.come⟩) (Zgu : O j0_2 = some ⟨true, 69, 14, a0.out.length, fl Zf a0.out⟩) (h : Qy a0 a2 = some r) : GTo Try.prog 85 [.ref i0 0, .ref i0 3, .sl a2.length (fl Zb a2)] O n (.tup []) (Zu ((((O.upd j0_0 none).upd j0_1 none).upd j0_2 none).upd i0 (some ⟨false, 110, 4, 1, [.row (n + 2) r.out.length, .val (.int .i64 r.kept), .row n r.gone.length, .row (n + 1) r.come.length]⟩)) n [some ⟨true, 25, 3, r.gone.length, fl Zb r.gone⟩, some ⟨true, 25, 3, r.come.length, fl Zb r.come⟩, some ⟨true, 69, 14, r.out.length, fl Zf r.out⟩]) (n + 3) := by
 unfold Qy at h
 refine Xc Zd Try.call85 Try.func85 rfl (Nat.le_of_ble_eq_true rfl) (by omega) fun hU => ?_
 have e0 := Q8 (ba := n) (E := ⟨32, [], Zc0 0 [.ref i0 0, .ref i0 3, .sl a2.length (fl Zb a2)]⟩) (O := (Zu O n [])) (n := n) (i := i0) (j := j0_0) (k := 2) (len := a0.gone.length) (q := ⟨false, 110, 4, 1, [.row j0_2 a0.out.length, .val (.int .i64 a0.kept), .row j0_0 a0.gone.length, .row j0_1 a0.come.length]⟩) (qj := ⟨true, 25, 3, a0.gone.length, fl Zb a0.gone⟩) (by rw [Yf _ hi0]; first | exact ho0 | exact Z8 _ _ _) rfl (by rw [Yf _ K6]; exact Vl) Qw (by omega)
 simp only [Yj _ _ K6, Yj _ _ hi0, Y0, Yl, Xz, Ux Qw, List.set_cons_zero, List.set_cons_succ, List.cons_append, List.nil_append, List.length_cons, List.length_nil, Nat.zero_add, Nat.reduceAdd, Nat.add_assoc] at e0
 refine Ja e0 ?_
 have e1 := Q8 (ba := n) (E := ⟨32, [], Zc0 0 [.ref i0 0, .ref i0 3, .sl a2.length (fl Zb a2)]⟩) (O := (Zu ((O.upd j0_0 none).upd i0 (some ⟨false, 110, 4, 1, [.row j0_2 a0.out.length, .val (.int .i64 a0.kept), .row n a0.gone.length, .row j0_1 a0.come.length]⟩)) n [some ⟨true, 25, 3, a0.gone.length, fl Zb a0.gone⟩])) (n := (n + 1)) (i := i0) (j := j0_1) (k := 3) (len := a0.come.length) (q := ⟨false, 110, 4, 1, [.row j0_2 a0.out.length, .val (.int .i64 a0.kept), .row n a0.gone.length, .row j0_1 a0.come.length]⟩) (qj := ⟨true, 25, 3, a0.come.length, fl Zb a0.come⟩) (by rw [Yf _ hi0]; first | exact ho0 | exact Z8 _ _ _) rfl (by rw [Yf _ Zdy, Yu _ _ (Ne.symm Vk), Yu _ _ (Ne.symm Vj)]; exact Zes) Vk (by omega)
 simp only [Yj _ _ Zdy, Yj _ _ hi0, Y0, Yl, Xz, Ux Vk, List.set_cons_zero, List.set_cons_succ, List.cons_append, List.nil_append, List.length_cons, List.length_nil, Nat.zero_add, Nat.reduceAdd, Nat.add_assoc] at e1
 refine Ja e1 ?_
 have e2 := Q8 (ba := n) (E := ⟨32, [], Zc0 0 [.ref i0 0, .ref i0 3, .sl a2.length (fl Zb a2)]⟩) (O := (Zu (((O.upd j0_0 none).upd j0_1 none).upd i0 (some ⟨false, 110, 4, 1, [.row j0_2 a0.out.length, .val (.int .i64 a0.kept), .row n a0.gone.length, .row (n + 1) a0.come.length]⟩)) n [some ⟨true, 25, 3, a0.gone.length, fl Zb a0.gone⟩, some ⟨true, 25, 3, a0.come.length, fl Zb a0.come⟩])) (n := (n + 2)) (i := i0) (j := j0_2) (k := 0) (len := a0.out.length) (q := ⟨false, 110, 4, 1, [.row j0_2 a0.out.length, .val (.int .i64 a0.kept), .row n a0.gone.length, .row (n + 1) a0.come.length]⟩) (qj := ⟨true, 69, 14, a0.out.length, fl Zf a0.out⟩) (by rw [Yf _ hi0]; first | exact ho0 | exact Z8 _ _ _) rfl (by rw [Yf _ Zfs, Yu _ _ (Ne.symm U7), Yu _ _ (Ne.symm U6), Yu _ _ (Ne.symm U5)]; exact Zgu) U7 (by omega)
 simp only [Yj _ _ Zfs, Yj _ _ hi0, Y0, Yl, Xz, Ux U7, List.set_cons_zero, List.set_cons_succ, List.cons_append, List.nil_append, List.length_cons, List.length_nil, Nat.zero_add, Nat.reduceAdd, Nat.add_assoc] at e2
 refine Ja e2 ?_
 have hU := (Und.drop (Und.drop (Und.drop hU j0_0) j0_1) j0_2)
 have hk0 : ∀ k, i0 < n + k := fun k => by omega
 have hN0 : ∀ o, Objs.upd (((O.upd j0_0 none).upd j0_1 none).upd j0_2 none) i0 o n = none := fun o => Qv hU hi0 _ (Nat.le_refl _)
 have hN : ∀ o k, Objs.upd (((O.upd j0_0 none).upd j0_1 none).upd j0_2 none) i0 o (n + k) = none := fun o k => Qv hU hi0 _ (Nat.le_add_right _ _)
 show W _ _ _ _ ⟨32, [], [(0, .ref i0 0), (1, .ref i0 3), (2, .sl a2.length (fl Zb a2))]⟩ (Zu ((((O.upd j0_0 none).upd j0_1 none).upd j0_2 none).upd i0 (some ⟨false, 110, 4, 1, [.row (n + 2) a0.out.length, .val (.int .i64 a0.kept), .row n a0.gone.length, .row (n + 1) a0.come.length]⟩)) n [some ⟨true, 25, 3, a0.gone.length, fl Zb a0.gone⟩, some ⟨true, 25, 3, a0.come.length, fl Zb a0.come⟩, some ⟨true, 69, 14, a0.out.length, fl Zf a0.out⟩]) _
 obtain ⟨z1, hz1, h⟩ := bC h
 refine Y5 (E' := ⟨32, [], [(1, .ref i0 3), (2, .sl a2.length (fl Zb a2))]⟩) (O' := (Zu ((((O.upd j0_0 none).upd j0_1 none).upd j0_2 none).upd i0 (some ⟨false, 110, 4, 1, [.row (n + 6) z1.1.length, .val (.int .i64 z1.2.2.2), .row (n + 7) z1.2.1.length, .row (n + 8) z1.2.2.1.length]⟩)) n [none, none, none, none, none, none, some ⟨true, 69, 14, z1.1.length, fl Zf z1.1⟩, some ⟨true, 25, 3, z1.2.1.length, fl Zb z1.2.1⟩, some ⟨true, 25, 3, z1.2.2.1.length, fl Zb z1.2.2.1⟩])) (n0 := (n + 9)) ?_ ?_
 ·refine Zs [0, 1, 2, 12] (Zc Zd [] ?_)
  simp only [push_cast, seval, ↓reduceIte, Za, hi0, hk0, hN0, hN]
  refine Zt (t := (decide (0 < a0.kept))) rfl (fun c3 => ?_) (fun c3 => ?_)
  ·replace hz1 := Zx c3 hz1
   obtain ⟨y2, hy2, hz1⟩ := bC hz1
   refine Zc Zd [] ?_
   simp only [push_cast, seval, ↓reduceIte, Za, hi0, hk0, hN0, hN]
   refine (Kk (i0 := i0) (j0_0 := n) (j0_1 := (n + 1)) (j0_2 := (n + 2)) (by omega) (by omega) (by omega) (by omega) (by omega) (by omega) (by omega) (by omega) (by omega) (by omega) (by simp only [push_cast, seval, ↓reduceIte, Za, Y2, hi0, hk0, hN0, hN] <;> rfl) (by simp only [push_cast, seval, ↓reduceIte, Za, Y2, hi0, hk0, hN0, hN] <;> rfl) (by simp only [push_cast, seval, ↓reduceIte, Za, Y2, hi0, hk0, hN0, hN] <;> rfl) (by simp only [push_cast, seval, ↓reduceIte, Za, Y2, hi0, hk0, hN0, hN] <;> rfl) hy2).then ?_
   simp only [push_cast, seval, ↓reduceIte, Za, hi0, hk0, hN0, hN]
   have hz1 := Option.some.inj hz1; subst hz1
   refine And.intro rfl ?_
   refine Fit2.trans (E' := (⟨32, [], [(1, .ref i0 3), (2, .sl a2.length (fl Zb a2))]⟩ : Env)) (O' := (Zu ((((O.upd j0_0 none).upd j0_1 none).upd j0_2 none).upd i0 (some ⟨false, 110, 4, 1, [.row (n + 5) y2.out.length, .val (.int .i64 y2.kept), .row (n + 3) y2.gone.length, .row (n + 4) y2.come.length]⟩)) n [none, none, none, some ⟨true, 25, 3, y2.gone.length, fl Zb y2.gone⟩, some ⟨true, 25, 3, y2.come.length, fl Zb y2.come⟩, some ⟨true, 69, 14, y2.out.length, fl Zf y2.out⟩])) (n' := (n + 6)) (Fit2.of (Ya hU rfl rfl ?_) (by omega)) ?_
   ·simp only [push_cast, seval, ↓reduceIte, Za, hi0, hk0, hN0, hN]
   refine Xy (k := 6) (k' := 9) hU [5, 5, 5, 7, 8, 6] [0, 0, 0, 0, 0, 0, 5, 3, 4] rfl rfl rfl rfl ⟨rfl, rfl⟩ ?_
   simp only [push_cast, seval, ↓reduceIte, Za, hi0, hk0, hN0, hN]
  replace hz1 := Zw c3 hz1
  refine Z0 ?_
  try simp only [Zn, Zj]
  have hz1 := Option.some.inj hz1; subst hz1
  refine And.intro rfl ?_
  refine Fit2.trans (E' := (⟨32, [], [(1, .ref i0 3), (2, .sl a2.length (fl Zb a2))]⟩ : Env)) (O' := (Zu ((((O.upd j0_0 none).upd j0_1 none).upd j0_2 none).upd i0 (some ⟨false, 110, 4, 1, [.row (n + 2) a0.out.length, .val (.int .i64 a0.kept), .row n a0.gone.length, .row (n + 1) a0.come.length]⟩)) n [some ⟨true, 25, 3, a0.gone.length, fl Zb a0.gone⟩, some ⟨true, 25, 3, a0.come.length, fl Zb a0.come⟩, some ⟨true, 69, 14, a0.out.length, fl Zf a0.out⟩])) (n' := (n + 3)) (Fit2.of (Ya hU rfl rfl ?_) (by omega)) ?_
  ·simp only [push_cast, seval, ↓reduceIte, Za, hi0, hk0, hN0, hN]
  refine Xy (k := 3) (k' := 9) hU [7, 8, 6] [0, 0, 0, 0, 0, 0, 2, 0, 1] rfl rfl rfl rfl ⟨rfl, rfl⟩ ?_
  simp only [push_cast, seval, ↓reduceIte, Za, hi0, hk0, hN0, hN]
 refine Zs [1, 15, 16, 17] (Zc Zd [] ?_)
 simp only [push_cast, seval, ↓reduceIte, Za, hi0, hk0, hN0, hN]
 refine Zm [1, 15, 16, 17] [false, false, false, false, false, false, true, true, true] ?_
 simp only [push_cast, seval, ↓reduceIte]
 obtain ⟨z11, hz11, h⟩ := bC h
 refine Yv (E' := ⟨32, [], []⟩) (O' := (Zu ((((O.upd j0_0 none).upd j0_1 none).upd j0_2 none).upd i0 (some ⟨false, 110, 4, 1, [.row (n + 6) z1.1.length, .val (.int .i64 z1.2.2.2), .row (n + 7) z1.2.1.length, .row (n + 8) z11.length]⟩)) n [none, none, none, none, none, none, some ⟨true, 69, 14, z1.1.length, fl Zf z1.1⟩, some ⟨true, 25, 3, z1.2.1.length, fl Zb z1.2.1⟩, some ⟨true, 25, 3, z11.length, fl Zb z11⟩])) (n0 := (n + 9)) ?_ ?_
 ·refine Y7 hz11 (fun s0_ => ⟨32, [], [(1, .ref i0 3), (15, .sl a2.length (fl Zb a2)), (16, .val (.int .i64 (a2.length : Int))), (17, .val (.int .i64 s0_.1))]⟩) (fun s0_ => (Zu ((((O.upd j0_0 none).upd j0_1 none).upd j0_2 none).upd i0 (some ⟨false, 110, 4, 1, [.row (n + 6) z1.1.length, .val (.int .i64 z1.2.2.2), .row (n + 7) z1.2.1.length, .row (n + 8) s0_.2.length]⟩)) n [none, none, none, none, none, none, some ⟨true, 69, 14, z1.1.length, fl Zf z1.1⟩, some ⟨true, 25, 3, z1.2.1.length, fl Zb z1.2.1⟩, some ⟨true, 25, 3, s0_.2.length, fl Zb s0_.2⟩])) (fun z11 => JX 0 n (⟨32, [], []⟩ : Env) (Zu ((((O.upd j0_0 none).upd j0_1 none).upd j0_2 none).upd i0 (some ⟨false, 110, 4, 1, [.row (n + 6) z1.1.length, .val (.int .i64 z1.2.2.2), .row (n + 7) z1.2.1.length, .row (n + 8) z11.length]⟩)) n [none, none, none, none, none, none, some ⟨true, 69, 14, z1.1.length, fl Zf z1.1⟩, some ⟨true, 25, 3, z1.2.1.length, fl Zb z1.2.1⟩, some ⟨true, 25, 3, z11.length, fl Zb z11⟩]) (n + 9)) ?_
  intro s0_ x0_ hs0_
  unfold X6 at hs0_
  try dsimp only
  refine Zs [1, 15, 16, 17, 18] (Zc Zd [] ?_)
  simp only [push_cast, seval, ↓reduceIte, Za, hi0, hk0, hN0, hN]
  refine Zo ?_
  refine Zt (t := (decide (s0_.1 < (a2.length : Int)))) rfl (fun c10 => ?_) (fun c10 => ?_)
  ·replace hs0_ := Zx c10 hs0_
   refine Z0 ?_
   try simp only [Zn, Zj]
   refine Zm [1, 15, 16, 17] [false, false, false, false, false, false, true, true, true] ?_
   simp only [push_cast, seval, ↓reduceIte]
   refine Zo ?_
   refine Ys ?_
   refine Zo ?_
   obtain ⟨x5, hx5, ax5, bx5, cx5, hs0_⟩ := bE (f := Zb) Vs (fun _ => rfl) (by decide) hs0_
   refine Zc Zd [] ?_
   simp only [push_cast, Nat.reduceAdd, Nat.reduceSub, Nat.reduceMul, Nat.reduceLeDiff, Nat.reduceLT, Nat.reduceEqDiff, ↓reduceIte, reduceCtorEq, Int.reduceBEq, Int.reduceBNe, Nat.reduceBEq, Int.reduceLE, Int.reduceLT, Int.reduceEq, Int.reduceNe, Int.reduceNeg, Nat.reduceDiv, Nat.reduceMod, Nat.reducePow, Za, ax5, bx5, cx5, hi0, hk0, hN0, hN]
   refine Zm [1, 7, 15, 16, 17] [false, false, false, false, false, false, true, true, true, true] ?_
   simp only [push_cast, seval, ↓reduceIte]
   obtain ⟨y6, hy6, hs0_⟩ := bC hs0_
   obtain ⟨l7, pl7, ql7, el7, hs0_⟩ := bA (k := 1) rfl hs0_
   obtain ⟨x8, hx8, ax8, bx8, cx8, hs0_⟩ := bE (f := Zb) Vs (fun _ => rfl) (by decide) hs0_
   have gu9 : Ji (fl Zb s0_.2 ++ [.val (.int .i64 0), .val (.slice none 0 0), .val (.slice none 0 0)]) [.val (.int .i64 y6.Kind), .sl y6.Words.length (fl (eI .u64) y6.Words), .sl y6.Kids.length (fl Zb y6.Kids)] (List.length s0_.2 * 3) = some (fl Zb s0_.2 ++ [.val (.int .i64 y6.Kind), .sl y6.Words.length (fl (eI .u64) y6.Words), .sl y6.Kids.length (fl Zb y6.Kids)]) := Uz (f := Zb) (sz := 3) (fun _ => rfl) rfl rfl
   refine Zai Zd (by kernel_rfl) [.low, .low, .low, .low, .low, .low, .pass, .bar, .shp, .fill true, .shp, .fill false] (fun i => i < (n + 10)) [0, 1, 2, 3, 4, 5, 6, 7, 8, 9, 10, 11] [.low, .low, .low, .low, .low, .low, .pass, .bar, .shp, .fill true, .shp, .fill false] [] (by kernel_rfl) rfl ?_
   simp only [push_cast, Nat.reduceAdd, Nat.reduceSub, Nat.reduceMul, Nat.reduceLeDiff, Nat.reduceLT, Nat.reduceEqDiff, ↓reduceIte, reduceCtorEq, Int.reduceBEq, Int.reduceBNe, Nat.reduceBEq, Int.reduceLE, Int.reduceLT, Int.reduceEq, Int.reduceNe, Int.reduceNeg, Nat.reduceDiv, Nat.reduceMod, Nat.reducePow, Za, pl7, ql7, el7, ax8, bx8, cx8, gu9, hi0, hk0, hN0, hN]
   repeat (with_reducible refine And.intro (by first | omega | exact Yt rfl | exact Yi | exact Qg rfl rfl) ?_)
   first | refine PCallA.of (fun _ _ => Gc hy6) ?_ | refine PCall.of (Gc hy6) ?_
   simp only [push_cast, Nat.reduceAdd, Nat.reduceSub, Nat.reduceMul, Nat.reduceLeDiff, Nat.reduceLT, Nat.reduceEqDiff, ↓reduceIte, reduceCtorEq, Int.reduceBEq, Int.reduceBNe, Nat.reduceBEq, Int.reduceLE, Int.reduceLT, Int.reduceEq, Int.reduceNe, Int.reduceNeg, Nat.reduceDiv, Nat.reduceMod, Nat.reducePow, Za, pl7, ql7, el7, ax8, bx8, cx8, gu9, hi0, hk0, hN0, hN]
   repeat (with_reducible refine And.intro (by first | omega | exact Yt rfl | exact Yi | exact Qg rfl rfl) ?_)
   refine Zdp ⟨32, [], [(1, .ref i0 3), (15, .sl a2.length (fl Zb a2)), (16, .val (.int .i64 (a2.length : Int))), (17, .val (.int .i64 s0_.1))]⟩ (Zu ((((O.upd j0_0 none).upd j0_1 none).upd j0_2 none).upd i0 (some ⟨false, 110, 4, 1, [.row (n + 6) z1.1.length, .val (.int .i64 z1.2.2.2), .row (n + 7) z1.2.1.length, .row (n + 8) (s0_.2 ++ [y6]).length]⟩)) n [none, none, none, none, none, none, some ⟨true, 69, 14, z1.1.length, fl Zf z1.1⟩, some ⟨true, 25, 3, z1.2.1.length, fl Zb z1.2.1⟩, some ⟨true, 25, 3, (s0_.2 ++ [y6]).length, fl Zb (s0_.2 ++ [y6])⟩, none, none]) (Ya hU rfl rfl ?_) ?_
   ·simp only [push_cast, Nat.reduceAdd, Nat.reduceSub, Nat.reduceMul, Nat.reduceLeDiff, Nat.reduceLT, Nat.reduceEqDiff, ↓reduceIte, reduceCtorEq, Int.reduceBEq, Int.reduceBNe, Nat.reduceBEq, Int.reduceLE, Int.reduceLT, Int.reduceEq, Int.reduceNe, Int.reduceNeg, Nat.reduceDiv, Nat.reduceMod, Nat.reducePow, Za, pl7, ql7, el7, ax8, bx8, cx8, gu9, hi0, hk0, hN0, hN]
   refine Zc Zd [] ?_
   simp only [push_cast, seval, ↓reduceIte, Za, hi0, hk0, hN0, hN]
   have hs0_ := Option.some.inj hs0_; subst hs0_
   refine And.intro rfl (Fit2.of (Ya hU rfl rfl ?_) (by omega))
   simp only [push_cast, seval, ↓reduceIte, Za, hi0, hk0, hN0, hN]
  replace hs0_ := Zw c10 hs0_
  refine Xs ?_
  try simp only [Zn, Zj, ↓reduceIte, Nat.reduceEqDiff]
  have hs0_ := Option.some.inj hs0_; subst hs0_
  refine And.intro (fun h => by cases h) (And.intro rfl (Fit2.of (Ya hU rfl rfl ?_) (by omega)))
  simp only [push_cast, seval, ↓reduceIte, Za, hi0, hk0, hN0, hN]
 try simp only [Zn, Zj, ↓reduceIte, Nat.reduceEqDiff]
 have h := Option.some.inj h; subst h
 refine Jh (k := 3) (i := i0) (q1 := ⟨false, 110, 4, 1, [.row (n + 2) z1.1.length, .val (.int .i64 z1.2.2.2), .row n z1.2.1.length, .row (n + 1) z11.length]⟩) (L3 := [some ⟨true, 25, 3, z1.2.1.length, fl Zb z1.2.1⟩, some ⟨true, 25, 3, z11.length, fl Zb z11⟩, some ⟨true, 69, 14, z1.1.length, fl Zf z1.1⟩, none]) (E2 := (⟨32, [], []⟩ : Env)) (n3 := (n + 4)) (.inl rfl) hU rfl [] ?_ ?_
 ·refine Fit2.trans (E' := (⟨32, [], []⟩ : Env)) (O' := (Zu ((((O.upd j0_0 none).upd j0_1 none).upd j0_2 none).upd i0 (some ⟨false, 110, 4, 1, [.row (n + 6) z1.1.length, .val (.int .i64 z1.2.2.2), .row (n + 7) z1.2.1.length, .row (n + 8) z11.length]⟩)) n [none, none, none, none, none, none, some ⟨true, 69, 14, z1.1.length, fl Zf z1.1⟩, some ⟨true, 25, 3, z1.2.1.length, fl Zb z1.2.1⟩, some ⟨true, 25, 3, z11.length, fl Zb z11⟩])) (n' := (n + 9)) (Fit2.of (Ya hU rfl rfl ?_) (by omega)) ?_
  ·simp only [push_cast, seval, ↓reduceIte, Za, hi0, hk0, hN0, hN]
  refine Xy (k := 9) (k' := 4) hU [3, 3, 3, 3, 3, 3, 2, 0, 1] [7, 8, 6, 0] rfl rfl rfl rfl ⟨rfl, rfl⟩ ?_
  simp only [push_cast, seval, ↓reduceIte, Za, hi0, hk0, hN0, hN]
 simp only [push_cast, seval, ↓reduceIte, Za, Try.results85, hi0, hk0, hN0, hN]
theorem Zo2 {a0 : Int} {a1 : S_api_Edit} {r : Bool} {O : Objs} {n : Nat} (h : Zbs a0 a1 = some r) : GTo Try.prog 20 [.val (.int .i64 a0), .agg (Zg a1)] O n (.val (.bool r)) O n := by
 unfold Zbs at h
 refine Xc Zd Try.call20 Try.func20 rfl (Nat.le_of_ble_eq_true rfl) (Nat.le_refl _) fun hU => ?_
 have hN0 : O n = none := hU.fresh _ (Nat.le_refl _)
 have hN : ∀ k, O (n + k) = none := fun k => hU.fresh _ (Nat.le_add_right _ _)
 show W _ _ _ _ ⟨27, [], [(0, .val (.int .i64 a0)), (1, .agg (Zg a1))]⟩ (Zu O n []) _
 refine Zs [0, 3] (Zc Zd [] ?_)
 simp only [push_cast, seval, ↓reduceIte, Za, hN0, hN]
 refine Zs [4] (Zc Zd [none, none, none, none, none, none, none, none, none, none, none, none, none, none, none, none, none] ?_)
 simp only [push_cast, seval, ↓reduceIte, Za, hN0, hN]
 repeat (with_reducible refine And.intro (by first | (intro h0; simp only [h0, and_self]; done) | (intro h0; simp only [h0, Bool.not_false, Bool.not_true, Bool.true_and, Bool.and_true, true_and, and_true, and_self, imp_self, implies_true, bne_iff_ne, ne_eq, beq_iff_eq]; done) | (intros; simp_all; done) | exact True.intro) ?_)
 refine Z5 ?_
 try simp only [Zn, Zj]
 have h := Option.some.inj h; subst h
 refine Zy (.inr rfl) hU [.val (.bool (cond (a1.Kind == 0) true (cond (cond (a0 == 9) (a1.Kind == 2) false) ((IntKind.i64.wrap ((a1.Words.length : Int) + (a1.Kids.length : Int))) == 0) false)))] (by omega) ?_
 simp only [push_cast, seval, ↓reduceIte, Za, Try.results20, hN0, hN]
theorem Zf5 {a0 : Zr} {a1 : Int} {a2 : S_api_Edit} {r : Zr} {O : Objs} {n : Nat} {i0 j0_0 j0_1 j0_2 : Nat} (hi0 : i0 < n) (K6 : j0_0 < n) (Zdy : j0_1 < n) (Zfs : j0_2 < n) (Qw : i0 ≠ j0_0) (Vk : i0 ≠ j0_1) (U7 : i0 ≠ j0_2) (Vj : j0_0 ≠ j0_1) (U5 : j0_0 ≠ j0_2) (U6 : j0_1 ≠ j0_2) (ho0 : O i0 = some ⟨false, 110, 4, 1, [.row j0_2 a0.out.length, .val (.int .i64 a0.kept), .row j0_0 a0.gone.length, .row j0_1 a0.come.length]⟩) (Vl : O j0_0 = some ⟨true, 25, 3, a0.gone.length, fl Zb a0.gone⟩) (Zes : O j0_1 = some ⟨true, 25, 3, a0.come.length, fl Zb a0.come⟩) (Zgu : O j0_2 = some ⟨true, 69, 14, a0.out.length, fl Zf a0.out⟩) (h : Q5 a0 a1 a2 = some r) : GTo Try.prog 86 [.ref i0 0, .val (.int .i64 a1), .agg (Zg a2)] O n (.tup []) (Zu ((((O.upd j0_0 none).upd j0_1 none).upd j0_2 none).upd i0 (some ⟨false, 110, 4, 1, [.row (n + 2) r.out.length, .val (.int .i64 r.kept), .row n r.gone.length, .row (n + 1) r.come.length]⟩)) n [some ⟨true, 25, 3, r.gone.length, fl Zb r.gone⟩, some ⟨true, 25, 3, r.come.length, fl Zb r.come⟩, some ⟨true, 69, 14, r.out.length, fl Zf r.out⟩]) (n + 3) := by
 unfold Q5 at h
 refine Xc Zd Try.call86 Try.func86 rfl (Nat.le_of_ble_eq_true rfl) (by omega) fun hU => ?_
 have e0 := Q8 (ba := n) (E := ⟨25, [], Zc0 0 [.ref i0 0, .val (.int .i64 a1), .agg [.val (.int .i64 a2.Kind), .val (.int .i64 a2.Old.Kind), .sl a2.Old.Words.length (fl (eI .u64) a2.Old.Words), .sl a2.Old.Kids.length (fl Zb a2.Old.Kids), .val (.int .i64 a2.New.Kind), .sl a2.New.Words.length (fl (eI .u64) a2.New.Words), .sl a2.New.Kids.length (fl Zb a2.New.Kids), .sl a2.Words.length (fl Zh a2.Words), .sl a2.Kids.length (fl Zk a2.Kids), .val (.int .i64 a2.List_), .sl a2.Ops.length (fl Zf a2.Ops)]]⟩) (O := (Zu O n [])) (n := n) (i := i0) (j := j0_0) (k := 2) (len := a0.gone.length) (q := ⟨false, 110, 4, 1, [.row j0_2 a0.out.length, .val (.int .i64 a0.kept), .row j0_0 a0.gone.length, .row j0_1 a0.come.length]⟩) (qj := ⟨true, 25, 3, a0.gone.length, fl Zb a0.gone⟩) (by rw [Yf _ hi0]; first | exact ho0 | exact Z8 _ _ _) rfl (by rw [Yf _ K6]; exact Vl) Qw (by omega)
 simp only [Yj _ _ K6, Yj _ _ hi0, Y0, Yl, Xz, Ux Qw, List.set_cons_zero, List.set_cons_succ, List.cons_append, List.nil_append, List.length_cons, List.length_nil, Nat.zero_add, Nat.reduceAdd, Nat.add_assoc] at e0
 refine Ja e0 ?_
 have e1 := Q8 (ba := n) (E := ⟨25, [], Zc0 0 [.ref i0 0, .val (.int .i64 a1), .agg [.val (.int .i64 a2.Kind), .val (.int .i64 a2.Old.Kind), .sl a2.Old.Words.length (fl (eI .u64) a2.Old.Words), .sl a2.Old.Kids.length (fl Zb a2.Old.Kids), .val (.int .i64 a2.New.Kind), .sl a2.New.Words.length (fl (eI .u64) a2.New.Words), .sl a2.New.Kids.length (fl Zb a2.New.Kids), .sl a2.Words.length (fl Zh a2.Words), .sl a2.Kids.length (fl Zk a2.Kids), .val (.int .i64 a2.List_), .sl a2.Ops.length (fl Zf a2.Ops)]]⟩) (O := (Zu ((O.upd j0_0 none).upd i0 (some ⟨false, 110, 4, 1, [.row j0_2 a0.out.length, .val (.int .i64 a0.kept), .row n a0.gone.length, .row j0_1 a0.come.length]⟩)) n [some ⟨true, 25, 3, a0.gone.length, fl Zb a0.gone⟩])) (n := (n + 1)) (i := i0) (j := j0_1) (k := 3) (len := a0.come.length) (q := ⟨false, 110, 4, 1, [.row j0_2 a0.out.length, .val (.int .i64 a0.kept), .row n a0.gone.length, .row j0_1 a0.come.length]⟩) (qj := ⟨true, 25, 3, a0.come.length, fl Zb a0.come⟩) (by rw [Yf _ hi0]; first | exact ho0 | exact Z8 _ _ _) rfl (by rw [Yf _ Zdy, Yu _ _ (Ne.symm Vk), Yu _ _ (Ne.symm Vj)]; exact Zes) Vk (by omega)
 simp only [Yj _ _ Zdy, Yj _ _ hi0, Y0, Yl, Xz, Ux Vk, List.set_cons_zero, List.set_cons_succ, List.cons_append, List.nil_append, List.length_cons, List.length_nil, Nat.zero_add, Nat.reduceAdd, Nat.add_assoc] at e1
 refine Ja e1 ?_
 have e2 := Q8 (ba := n) (E := ⟨25, [], Zc0 0 [.ref i0 0, .val (.int .i64 a1), .agg [.val (.int .i64 a2.Kind), .val (.int .i64 a2.Old.Kind), .sl a2.Old.Words.length (fl (eI .u64) a2.Old.Words), .sl a2.Old.Kids.length (fl Zb a2.Old.Kids), .val (.int .i64 a2.New.Kind), .sl a2.New.Words.length (fl (eI .u64) a2.New.Words), .sl a2.New.Kids.length (fl Zb a2.New.Kids), .sl a2.Words.length (fl Zh a2.Words), .sl a2.Kids.length (fl Zk a2.Kids), .val (.int .i64 a2.List_), .sl a2.Ops.length (fl Zf a2.Ops)]]⟩) (O := (Zu (((O.upd j0_0 none).upd j0_1 none).upd i0 (some ⟨false, 110, 4, 1, [.row j0_2 a0.out.length, .val (.int .i64 a0.kept), .row n a0.gone.length, .row (n + 1) a0.come.length]⟩)) n [some ⟨true, 25, 3, a0.gone.length, fl Zb a0.gone⟩, some ⟨true, 25, 3, a0.come.length, fl Zb a0.come⟩])) (n := (n + 2)) (i := i0) (j := j0_2) (k := 0) (len := a0.out.length) (q := ⟨false, 110, 4, 1, [.row j0_2 a0.out.length, .val (.int .i64 a0.kept), .row n a0.gone.length, .row (n + 1) a0.come.length]⟩) (qj := ⟨true, 69, 14, a0.out.length, fl Zf a0.out⟩) (by rw [Yf _ hi0]; first | exact ho0 | exact Z8 _ _ _) rfl (by rw [Yf _ Zfs, Yu _ _ (Ne.symm U7), Yu _ _ (Ne.symm U6), Yu _ _ (Ne.symm U5)]; exact Zgu) U7 (by omega)
 simp only [Yj _ _ Zfs, Yj _ _ hi0, Y0, Yl, Xz, Ux U7, List.set_cons_zero, List.set_cons_succ, List.cons_append, List.nil_append, List.length_cons, List.length_nil, Nat.zero_add, Nat.reduceAdd, Nat.add_assoc] at e2
 refine Ja e2 ?_
 have hU := (Und.drop (Und.drop (Und.drop hU j0_0) j0_1) j0_2)
 have hk0 : ∀ k, i0 < n + k := fun k => by omega
 have hN0 : ∀ o, Objs.upd (((O.upd j0_0 none).upd j0_1 none).upd j0_2 none) i0 o n = none := fun o => Qv hU hi0 _ (Nat.le_refl _)
 have hN : ∀ o k, Objs.upd (((O.upd j0_0 none).upd j0_1 none).upd j0_2 none) i0 o (n + k) = none := fun o k => Qv hU hi0 _ (Nat.le_add_right _ _)
 show W _ _ _ _ ⟨25, [], [(0, .ref i0 0), (1, .val (.int .i64 a1)), (2, .agg (Zg a2))]⟩ (Zu ((((O.upd j0_0 none).upd j0_1 none).upd j0_2 none).upd i0 (some ⟨false, 110, 4, 1, [.row (n + 2) a0.out.length, .val (.int .i64 a0.kept), .row n a0.gone.length, .row (n + 1) a0.come.length]⟩)) n [some ⟨true, 25, 3, a0.gone.length, fl Zb a0.gone⟩, some ⟨true, 25, 3, a0.come.length, fl Zb a0.come⟩, some ⟨true, 69, 14, a0.out.length, fl Zf a0.out⟩]) _
 refine Zs [0, 1, 5] (Zc Zd [] ?_)
 simp only [push_cast, seval, ↓reduceIte, Za, hi0, hk0, hN0, hN]
 refine Zo ?_
 refine Zo ?_
 obtain ⟨y2, hy2, h⟩ := bC h
 refine Zc Zd [] ?_
 simp only [push_cast, seval, ↓reduceIte, Za, hi0, hk0, hN0, hN]
 refine (Zo2 hy2).then ?_
 simp only [push_cast, seval, ↓reduceIte, Za, hi0, hk0, hN0, hN]
 refine Zm [0, 5, 8] [true, true, true, true] ?_
 simp only [push_cast, seval, ↓reduceIte]
 refine Zt (t := y2) rfl (fun c10 => ?_) (fun c10 => ?_)
 ·replace h := Zx c10 h
  refine Zo ?_
  obtain ⟨y4, hy4, h⟩ := bC h
  refine Zc Zd [] ?_
  simp only [push_cast, seval, ↓reduceIte, Za, hi0, hk0, hN0, hN]
  refine (Zc3 (i0 := i0) (j0_0 := n) (j0_1 := (n + 1)) (j0_2 := (n + 2)) (by omega) (by omega) (by omega) (by omega) (by omega) (by omega) (by omega) (by omega) (by omega) (by omega) (by simp only [push_cast, seval, ↓reduceIte, Za, Y2, hi0, hk0, hN0, hN] <;> rfl) (by simp only [push_cast, seval, ↓reduceIte, Za, Y2, hi0, hk0, hN0, hN] <;> rfl) (by simp only [push_cast, seval, ↓reduceIte, Za, Y2, hi0, hk0, hN0, hN] <;> rfl) (by simp only [push_cast, seval, ↓reduceIte, Za, Y2, hi0, hk0, hN0, hN] <;> rfl) hy4).then ?_
  simp only [push_cast, seval, ↓reduceIte, Za, hi0, hk0, hN0, hN]
  refine Zm [] [false, false, false, false, true, true, true] ?_
  simp only [push_cast, seval, ↓reduceIte]
  refine Z5 ?_
  try simp only [Zn, Zj]
  have h := Option.some.inj h; subst h
  refine Jh (k := 3) (i := i0) (q1 := ⟨false, 110, 4, 1, [.row (n + 2) y4.out.length, .val (.int .i64 y4.kept), .row n y4.gone.length, .row (n + 1) y4.come.length]⟩) (L3 := [some ⟨true, 25, 3, y4.gone.length, fl Zb y4.gone⟩, some ⟨true, 25, 3, y4.come.length, fl Zb y4.come⟩, some ⟨true, 69, 14, y4.out.length, fl Zf y4.out⟩, none]) (E2 := (⟨25, [], []⟩ : Env)) (n3 := (n + 4)) (.inr rfl) hU rfl [] ?_ ?_
  ·refine Fit2.trans (E' := (⟨25, [], []⟩ : Env)) (O' := (Zu ((((O.upd j0_0 none).upd j0_1 none).upd j0_2 none).upd i0 (some ⟨false, 110, 4, 1, [.row (n + 6) y4.out.length, .val (.int .i64 y4.kept), .row (n + 4) y4.gone.length, .row (n + 5) y4.come.length]⟩)) n [none, none, none, none, some ⟨true, 25, 3, y4.gone.length, fl Zb y4.gone⟩, some ⟨true, 25, 3, y4.come.length, fl Zb y4.come⟩, some ⟨true, 69, 14, y4.out.length, fl Zf y4.out⟩])) (n' := (n + 7)) (Fit2.of (Ya hU rfl rfl ?_) (by omega)) ?_
   ·simp only [push_cast, seval, ↓reduceIte, Za, hi0, hk0, hN0, hN]
   refine Xy (k := 7) (k' := 4) hU [3, 3, 3, 3, 0, 1, 2] [4, 5, 6, 0] rfl rfl rfl rfl ⟨rfl, rfl⟩ ?_
   simp only [push_cast, seval, ↓reduceIte, Za, hi0, hk0, hN0, hN]
  simp only [push_cast, seval, ↓reduceIte, Za, Try.results86, hi0, hk0, hN0, hN]
 replace h := Zw c10 h
 refine Z0 ?_
 try simp only [Zn, Zj]
 refine Zm [0, 5] [true, true, true, true] ?_
 simp only [push_cast, seval, ↓reduceIte]
 refine Zo ?_
 obtain ⟨y6, hy6, h⟩ := bC h
 refine Zc Zd [] ?_
 simp only [push_cast, seval, ↓reduceIte, Za, hi0, hk0, hN0, hN]
 refine (Kk (i0 := i0) (j0_0 := n) (j0_1 := (n + 1)) (j0_2 := (n + 2)) (by omega) (by omega) (by omega) (by omega) (by omega) (by omega) (by omega) (by omega) (by omega) (by omega) (by simp only [push_cast, seval, ↓reduceIte, Za, Y2, hi0, hk0, hN0, hN] <;> rfl) (by simp only [push_cast, seval, ↓reduceIte, Za, Y2, hi0, hk0, hN0, hN] <;> rfl) (by simp only [push_cast, seval, ↓reduceIte, Za, Y2, hi0, hk0, hN0, hN] <;> rfl) (by simp only [push_cast, seval, ↓reduceIte, Za, Y2, hi0, hk0, hN0, hN] <;> rfl) hy6).then ?_
 simp only [push_cast, seval, ↓reduceIte, Za, hi0, hk0, hN0, hN]
 refine Zm [0, 5] [false, false, false, true, true, true, true] ?_
 simp only [push_cast, seval, ↓reduceIte]
 obtain ⟨l7, pl7, ql7, el7, h⟩ := bA (k := 1) rfl h
 obtain ⟨x8, hx8, ax8, bx8, cx8, h⟩ := bE (f := Zf) Zc5 (fun _ => rfl) (by decide) h
 have gu9 : Ji (fl Zf y6.out ++ [.val (.int .i64 0), .val (.int .i64 0), .val (.slice none 0 0), .val (.int .i64 0), .val (.int .i64 0), .val (.slice none 0 0), .val (.slice none 0 0), .val (.int .i64 0), .val (.slice none 0 0), .val (.slice none 0 0), .val (.slice none 0 0), .val (.slice none 0 0), .val (.int .i64 0), .val (.slice none 0 0)]) [.val (.int .i64 3), .val (.int .i64 0), .val (.slice none 0 0), .val (.int .i64 a2.Kind), .val (.int .i64 a2.Old.Kind), .sl a2.Old.Words.length (fl (eI .u64) a2.Old.Words), .sl a2.Old.Kids.length (fl Zb a2.Old.Kids), .val (.int .i64 a2.New.Kind), .sl a2.New.Words.length (fl (eI .u64) a2.New.Words), .sl a2.New.Kids.length (fl Zb a2.New.Kids), .sl a2.Words.length (fl Zh a2.Words), .sl a2.Kids.length (fl Zk a2.Kids), .val (.int .i64 a2.List_), .sl a2.Ops.length (fl Zf a2.Ops)] (List.length y6.out * 14) = some (fl Zf y6.out ++ [.val (.int .i64 3), .val (.int .i64 0), .val (.slice none 0 0), .val (.int .i64 a2.Kind), .val (.int .i64 a2.Old.Kind), .sl a2.Old.Words.length (fl (eI .u64) a2.Old.Words), .sl a2.Old.Kids.length (fl Zb a2.Old.Kids), .val (.int .i64 a2.New.Kind), .sl a2.New.Words.length (fl (eI .u64) a2.New.Words), .sl a2.New.Kids.length (fl Zb a2.New.Kids), .sl a2.Words.length (fl Zh a2.Words), .sl a2.Kids.length (fl Zk a2.Kids), .val (.int .i64 a2.List_), .sl a2.Ops.length (fl Zf a2.Ops)]) := Uz (f := Zf) (sz := 14) (fun _ => rfl) rfl rfl
 refine Zai Zd (by kernel_rfl) [.low, .low, .low, .low, .low, .low, .low, .pass, .bar, .shp, .fill true, .shp, .shp, .fill false] (fun i => i < (n + 7)) [0, 1, 2, 3, 4, 5, 6, 7, 8, 9, 10, 11, 12, 13] [.low, .low, .low, .low, .low, .low, .low, .pass, .bar, .shp, .fill true, .shp, .shp, .fill false] [] (by kernel_rfl) rfl ?_
 simp only [push_cast, Nat.reduceAdd, Nat.reduceSub, Nat.reduceMul, Nat.reduceLeDiff, Nat.reduceLT, Nat.reduceEqDiff, ↓reduceIte, reduceCtorEq, Int.reduceBEq, Int.reduceBNe, Nat.reduceBEq, Int.reduceLE, Int.reduceLT, Int.reduceEq, Int.reduceNe, Int.reduceNeg, Nat.reduceDiv, Nat.reduceMod, Nat.reducePow, Za, pl7, ql7, el7, ax8, bx8, cx8, gu9, hi0, hk0, hN0, hN]
 repeat (with_reducible refine And.intro (by first | omega | exact Yt rfl | exact Yi | exact Qg rfl rfl) ?_)
 have h := Option.some.inj h; subst h
 refine Jh (k := 3) (i := i0) (q1 := ⟨false, 110, 4, 1, [.row (n + 2) (y6.out ++ [(⟨3, 0, ([] : (List S_api_Tree)), a2⟩ : S_api_Op)]).length, .val (.int .i64 y6.kept), .row n y6.gone.length, .row (n + 1) y6.come.length]⟩) (L3 := [some ⟨true, 25, 3, y6.gone.length, fl Zb y6.gone⟩, some ⟨true, 25, 3, y6.come.length, fl Zb y6.come⟩, some ⟨true, 69, 14, (y6.out ++ [(⟨3, 0, ([] : (List S_api_Tree)), a2⟩ : S_api_Op)]).length, fl Zf (y6.out ++ [(⟨3, 0, ([] : (List S_api_Tree)), a2⟩ : S_api_Op)])⟩, none]) (E2 := (⟨25, [], []⟩ : Env)) (n3 := (n + 4)) (.inl rfl) hU rfl [] ?_ ?_
 ·refine Fit2.trans (E' := (⟨25, [], []⟩ : Env)) (O' := (Zu ((((O.upd j0_0 none).upd j0_1 none).upd j0_2 none).upd i0 (some ⟨false, 110, 4, 1, [.row (n + 6) (y6.out ++ [(⟨3, 0, ([] : (List S_api_Tree)), a2⟩ : S_api_Op)]).length, .val (.int .i64 y6.kept), .row (n + 4) y6.gone.length, .row (n + 5) y6.come.length]⟩)) n [none, none, none, none, some ⟨true, 25, 3, y6.gone.length, fl Zb y6.gone⟩, some ⟨true, 25, 3, y6.come.length, fl Zb y6.come⟩, some ⟨true, 69, 14, (y6.out ++ [(⟨3, 0, ([] : (List S_api_Tree)), a2⟩ : S_api_Op)]).length, fl Zf (y6.out ++ [(⟨3, 0, ([] : (List S_api_Tree)), a2⟩ : S_api_Op)])⟩, none])) (n' := (n + 8)) (Fit2.of (Ya hU rfl rfl ?_) (by omega)) ?_
  ·simp only [push_cast, Nat.reduceAdd, Nat.reduceSub, Nat.reduceMul, Nat.reduceLeDiff, Nat.reduceLT, Nat.reduceEqDiff, ↓reduceIte, reduceCtorEq, Int.reduceBEq, Int.reduceBNe, Nat.reduceBEq, Int.reduceLE, Int.reduceLT, Int.reduceEq, Int.reduceNe, Int.reduceNeg, Nat.reduceDiv, Nat.reduceMod, Nat.reducePow, Za, pl7, ql7, el7, ax8, bx8, cx8, gu9, hi0, hk0, hN0, hN]
  refine Xy (k := 8) (k' := 4) hU [3, 3, 3, 3, 0, 1, 2, 3] [4, 5, 6, 0] rfl rfl rfl rfl ⟨rfl, rfl⟩ ?_
  simp only [push_cast, seval, ↓reduceIte, Za, hi0, hk0, hN0, hN]
 simp only [push_cast, seval, ↓reduceIte, Za, Try.results86, hi0, hk0, hN0, hN]
theorem Zm9 {X0 : (S_api_Edit → Option S_api_Edit)} {Ud : (Int → (List S_api_Op) → Option (List S_api_Op))} (Zbg : ∀ {a0 : S_api_Edit} {r : S_api_Edit} {O : Objs} {n : Nat}, X0 a0 = some r → GTo Try.prog 18 [.agg (Zg a0)] O n (.agg (Zg r)) O n) (Zhd : ∀ {a0 : Int} {a1 : (List S_api_Op)} {r : (List S_api_Op)} {O : Objs} {n : Nat}, Ud a0 a1 = some r → GTo Try.prog 51 [.val (.int .i64 a0), .sl a1.length (fl Zf a1)] O n (.sl r.length (fl Zf r)) O n) {a0 : S_api_Edit} {r : S_api_Edit} {O : Objs} {n : Nat} (h : Zbp X0 Ud a0 = some r) : GTo Try.prog 18 [.agg (Zg a0)] O n (.agg (Zg r)) O n := by
 unfold Zbp at h
 refine Xc Zd Try.call18 Try.func18 rfl (Nat.le_of_ble_eq_true rfl) (Nat.le_refl _) fun hU => ?_
 have hN0 : O n = none := hU.fresh _ (Nat.le_refl _)
 have hN : ∀ k, O (n + k) = none := fun k => hU.fresh _ (Nat.le_add_right _ _)
 show W _ _ _ _ ⟨54, [], [(0, .agg (Zg a0))]⟩ (Zu O n []) _
 refine Zs [1, 2] (Zc Zd [] ?_)
 simp only [push_cast, seval, ↓reduceIte, Za, hN0, hN]
 refine Zo ?_
 refine Zs [1, 2, 7] (Zc Zd [] ?_)
 simp only [push_cast, seval, ↓reduceIte, Za, hN0, hN]
 refine Ys ?_
 refine Zs [1, 2, 7, 8] (Zc Zd [] ?_)
 simp only [push_cast, seval, ↓reduceIte, Za, hN0, hN]
 refine Zt (t := (a0.Kind == 1)) rfl (fun c17 => ?_) (fun c17 => ?_)
 ·replace h := Zx c17 h
  refine Zo ?_
  obtain ⟨y3, hy3, h⟩ := bC h
  obtain ⟨y4, hy4, h⟩ := bC h
  refine Zdn Zd (by kernel_rfl) [false, false, false, false, false, false, false, true] [] (by kernel_rfl) ?_
  simp only [push_cast, seval, ↓reduceIte, Za, hN0, hN]
  refine PCall.of (Gc hy3) ?_
  simp only [push_cast, seval, ↓reduceIte, Za, hN0, hN]
  refine PCall.of (Gc hy4) ?_
  simp only [push_cast, seval, ↓reduceIte, Za, hN0, hN]
  refine Zm [2] [false, true] ?_
  simp only [push_cast, seval, ↓reduceIte]
  refine Z5 ?_
  try simp only [Zn, Zj]
  have h := Option.some.inj h; subst h
  refine Zy (.inr rfl) hU [.agg [.val (.int .i64 1), .val (.int .i64 y3.Kind), .sl y3.Words.length (fl (eI .u64) y3.Words), .sl y3.Kids.length (fl Zb y3.Kids), .val (.int .i64 y4.Kind), .sl y4.Words.length (fl (eI .u64) y4.Words), .sl y4.Kids.length (fl Zb y4.Kids), .val (.slice none 0 0), .val (.slice none 0 0), .val (.int .i64 0), .val (.slice none 0 0)]] (by omega) ?_
  simp only [push_cast, seval, ↓reduceIte, Za, Try.results18, hN0, hN]
 replace h := Zw c17 h
 refine Zs [1, 2, 7, 17] (Zc Zd [] ?_)
 simp only [push_cast, seval, ↓reduceIte, Za, hN0, hN]
 refine Zt (t := (a0.Kind == 2)) rfl (fun c16 => ?_) (fun c16 => ?_)
 ·replace h := Zx c16 h
  refine Zo ?_
  obtain ⟨y6, hy6, h⟩ := bC h
  refine Zc Zd [] ?_
  simp only [push_cast, seval, ↓reduceIte, Za, hN0, hN]
  refine (Gm  hy6).then ?_
  simp only [push_cast, seval, ↓reduceIte, Za, hN0, hN]
  refine Zm [1, 2, 3] [true, true, true, true] ?_
  simp only [push_cast, seval, ↓reduceIte]
  refine Zo ?_
  refine Zs [2, 3, 24, 25, 26] (Zc Zd [] ?_)
  simp only [push_cast, seval, ↓reduceIte, Za, hN0, hN]
  refine Zm [2, 3, 24, 25, 26] [false, true, true, true] ?_
  simp only [push_cast, seval, ↓reduceIte]
  refine Ja (E' := (⟨54, [], [(2, .ref (n + 1) 0), (3, .ref (n + 3) 0), (24, .sl a0.Kids.length (fl Zk a0.Kids)), (25, .val (.int .i64 (a0.Kids.length : Int))), (26, .val (.int .i64 0))]⟩ : Env)) (O' := (Zu O n [none, some ⟨false, 30, 11, 1, [.val (.int .i64 0), .val (.int .i64 0), .val (.slice none 0 0), .val (.slice none 0 0), .val (.int .i64 0), .val (.slice none 0 0), .val (.slice none 0 0), .val (.slice none 0 0), .val (.slice none 0 0), .val (.int .i64 0), .val (.slice none 0 0)]⟩, some ⟨true, 58, 4, y6.length, fl Zh y6⟩, some ⟨false, 30, 11, 1, [.val (.int .i64 2), .val (.int .i64 0), .val (.slice none 0 0), .val (.slice none 0 0), .val (.int .i64 0), .val (.slice none 0 0), .val (.slice none 0 0), .row (n + 2) y6.length, .row (n + 4) ([] : List S_api_KidEdit).length, .val (.int .i64 0), .val (.slice none 0 0)]⟩, some ⟨true, 71, 12, ([] : List S_api_KidEdit).length, fl Zk ([] : List S_api_KidEdit)⟩, none])) (n' := (n + 6)) ?_ ?_
  ·refine Fit2.trans (E' := (⟨54, [], [(2, .ref (n + 1) 0), (3, .ref (n + 3) 0), (24, .sl a0.Kids.length (fl Zk a0.Kids)), (25, .val (.int .i64 (a0.Kids.length : Int))), (26, .val (.int .i64 0))]⟩ : Env)) (O' := (Zu O n [none, some ⟨false, 30, 11, 1, [.val (.int .i64 0), .val (.int .i64 0), .val (.slice none 0 0), .val (.slice none 0 0), .val (.int .i64 0), .val (.slice none 0 0), .val (.slice none 0 0), .val (.slice none 0 0), .val (.slice none 0 0), .val (.int .i64 0), .val (.slice none 0 0)]⟩, some ⟨true, 58, 4, y6.length, fl Zh y6⟩, some ⟨false, 30, 11, 1, [.val (.int .i64 2), .val (.int .i64 0), .val (.slice none 0 0), .val (.slice none 0 0), .val (.int .i64 0), .val (.slice none 0 0), .val (.slice none 0 0), .row (n + 2) y6.length, .val (.slice none 0 0), .val (.int .i64 0), .val (.slice none 0 0)]⟩])) (n' := (n + 4)) (Fit2.of (Zl hU rfl rfl ?_) (by omega)) ?_
   ·simp only [push_cast, seval, ↓reduceIte, Za, hN0, hN]
   refine Fit2.trans (E' := (⟨54, [], [(2, .ref (n + 1) 0), (3, .ref (n + 3) 0), (24, .sl a0.Kids.length (fl Zk a0.Kids)), (25, .val (.int .i64 (a0.Kids.length : Int))), (26, .val (.int .i64 0))]⟩ : Env)) (O' := (Zu O n [none, some ⟨false, 30, 11, 1, [.val (.int .i64 0), .val (.int .i64 0), .val (.slice none 0 0), .val (.slice none 0 0), .val (.int .i64 0), .val (.slice none 0 0), .val (.slice none 0 0), .val (.slice none 0 0), .val (.slice none 0 0), .val (.int .i64 0), .val (.slice none 0 0)]⟩, some ⟨true, 58, 4, y6.length, fl Zh y6⟩, some ⟨false, 30, 11, 1, [.val (.int .i64 2), .val (.int .i64 0), .val (.slice none 0 0), .val (.slice none 0 0), .val (.int .i64 0), .val (.slice none 0 0), .val (.slice none 0 0), .row (n + 2) y6.length, .row (n + 4) 0, .val (.int .i64 0), .val (.slice none 0 0)]⟩, some ⟨true, 71, 12, 0, []⟩])) (n' := (n + 5)) ?_ ?_
   ·have ha := Va (ba := n) (E := (⟨54, [], [(2, .ref (n + 1) 0), (3, .ref (n + 3) 0), (24, .sl a0.Kids.length (fl Zk a0.Kids)), (25, .val (.int .i64 (a0.Kids.length : Int))), (26, .val (.int .i64 0))]⟩ : Env)) (O := (Zu O n [none, some ⟨false, 30, 11, 1, [.val (.int .i64 0), .val (.int .i64 0), .val (.slice none 0 0), .val (.slice none 0 0), .val (.int .i64 0), .val (.slice none 0 0), .val (.slice none 0 0), .val (.slice none 0 0), .val (.slice none 0 0), .val (.int .i64 0), .val (.slice none 0 0)]⟩, some ⟨true, 58, 4, y6.length, fl Zh y6⟩, some ⟨false, 30, 11, 1, [.val (.int .i64 2), .val (.int .i64 0), .val (.slice none 0 0), .val (.slice none 0 0), .val (.int .i64 0), .val (.slice none 0 0), .val (.slice none 0 0), .row (n + 2) y6.length, .val (.slice none 0 0), .val (.int .i64 0), .val (.slice none 0 0)]⟩])) (n := (n + 4)) (p := (n + 3)) (k := 8) (q := ⟨false, 30, 11, 1, [.val (.int .i64 2), .val (.int .i64 0), .val (.slice none 0 0), .val (.slice none 0 0), .val (.int .i64 0), .val (.slice none 0 0), .val (.slice none 0 0), .row (n + 2) y6.length, .val (.slice none 0 0), .val (.int .i64 0), .val (.slice none 0 0)]⟩) 71 12 (by simp only [K8, Zah, List.getElem?_cons_zero, List.getElem?_cons_succ, Option.join_some, Z8]) rfl (by omega)
    simp only [Y0, Yl, Uj, K9, List.set_cons_zero, List.set_cons_succ, List.cons_append, List.nil_append, List.length_cons, List.length_nil, Nat.zero_add, Nat.reduceAdd, Nat.reduceLT, Nat.add_assoc] at ha
    exact ha
   refine Fit2.trans (E' := (⟨54, [], [(2, .ref (n + 1) 0), (3, .ref (n + 3) 0), (24, .sl a0.Kids.length (fl Zk a0.Kids)), (25, .val (.int .i64 (a0.Kids.length : Int))), (26, .val (.int .i64 0))]⟩ : Env)) (O' := (Zu O n [none, some ⟨false, 30, 11, 1, [.val (.int .i64 0), .val (.int .i64 0), .val (.slice none 0 0), .val (.slice none 0 0), .val (.int .i64 0), .val (.slice none 0 0), .val (.slice none 0 0), .val (.slice none 0 0), .val (.slice none 0 0), .val (.int .i64 0), .val (.slice none 0 0)]⟩, some ⟨true, 58, 4, y6.length, fl Zh y6⟩, some ⟨false, 30, 11, 1, [.val (.int .i64 2), .val (.int .i64 0), .val (.slice none 0 0), .val (.slice none 0 0), .val (.int .i64 0), .val (.slice none 0 0), .val (.slice none 0 0), .row (n + 2) y6.length, .row (n + 4) ([] : List S_api_KidEdit).length, .val (.int .i64 0), .val (.slice none 0 0)]⟩, some ⟨true, 71, 12, ([] : List S_api_KidEdit).length, fl Zk ([] : List S_api_KidEdit)⟩])) (n' := (n + 5)) (Fit2.of (Zl hU rfl rfl ?_) (by omega)) ?_
   ·simp only [push_cast, seval, ↓reduceIte, Za, hN0, hN]
   refine Jt (k := 5) (k' := 6) hU [5, 1, 2, 3, 4] [0, 1, 2, 3, 4, 0] rfl rfl rfl rfl ⟨rfl, rfl⟩ ?_
   simp only [push_cast, seval, ↓reduceIte, Za, hN0, hN]
  obtain ⟨z12, hz12, h⟩ := bC h
  refine Yv (E' := ⟨54, [], [(2, .ref (n + 1) 0), (3, .ref (n + 3) 0)]⟩) (O' := (Zu O n [none, some ⟨false, 30, 11, 1, [.val (.int .i64 0), .val (.int .i64 0), .val (.slice none 0 0), .val (.slice none 0 0), .val (.int .i64 0), .val (.slice none 0 0), .val (.slice none 0 0), .val (.slice none 0 0), .val (.slice none 0 0), .val (.int .i64 0), .val (.slice none 0 0)]⟩, some ⟨true, 58, 4, y6.length, fl Zh y6⟩, some ⟨false, 30, 11, 1, [.val (.int .i64 2), .val (.int .i64 0), .val (.slice none 0 0), .val (.slice none 0 0), .val (.int .i64 0), .val (.slice none 0 0), .val (.slice none 0 0), .row (n + 2) y6.length, .row (n + 4) z12.length, .val (.int .i64 0), .val (.slice none 0 0)]⟩, some ⟨true, 71, 12, z12.length, fl Zk z12⟩, none])) (n0 := (n + 6)) ?_ ?_
  ·refine Y7 hz12 (fun s0_ => ⟨54, [], [(2, .ref (n + 1) 0), (3, .ref (n + 3) 0), (24, .sl a0.Kids.length (fl Zk a0.Kids)), (25, .val (.int .i64 (a0.Kids.length : Int))), (26, .val (.int .i64 s0_.1))]⟩) (fun s0_ => (Zu O n [none, some ⟨false, 30, 11, 1, [.val (.int .i64 0), .val (.int .i64 0), .val (.slice none 0 0), .val (.slice none 0 0), .val (.int .i64 0), .val (.slice none 0 0), .val (.slice none 0 0), .val (.slice none 0 0), .val (.slice none 0 0), .val (.int .i64 0), .val (.slice none 0 0)]⟩, some ⟨true, 58, 4, y6.length, fl Zh y6⟩, some ⟨false, 30, 11, 1, [.val (.int .i64 2), .val (.int .i64 0), .val (.slice none 0 0), .val (.slice none 0 0), .val (.int .i64 0), .val (.slice none 0 0), .val (.slice none 0 0), .row (n + 2) y6.length, .row (n + 4) s0_.2.length, .val (.int .i64 0), .val (.slice none 0 0)]⟩, some ⟨true, 71, 12, s0_.2.length, fl Zk s0_.2⟩, none])) (fun z12 => JX 1 n (⟨54, [], [(2, .ref (n + 1) 0), (3, .ref (n + 3) 0)]⟩ : Env) (Zu O n [none, some ⟨false, 30, 11, 1, [.val (.int .i64 0), .val (.int .i64 0), .val (.slice none 0 0), .val (.slice none 0 0), .val (.int .i64 0), .val (.slice none 0 0), .val (.slice none 0 0), .val (.slice none 0 0), .val (.slice none 0 0), .val (.int .i64 0), .val (.slice none 0 0)]⟩, some ⟨true, 58, 4, y6.length, fl Zh y6⟩, some ⟨false, 30, 11, 1, [.val (.int .i64 2), .val (.int .i64 0), .val (.slice none 0 0), .val (.slice none 0 0), .val (.int .i64 0), .val (.slice none 0 0), .val (.slice none 0 0), .row (n + 2) y6.length, .row (n + 4) z12.length, .val (.int .i64 0), .val (.slice none 0 0)]⟩, some ⟨true, 71, 12, z12.length, fl Zk z12⟩, none]) (n + 6)) ?_
   intro s0_ x0_ hs0_
   unfold Um at hs0_
   try dsimp only
   refine Zs [2, 3, 24, 25, 26, 27] (Zc Zd [] ?_)
   simp only [push_cast, seval, ↓reduceIte, Za, hN0, hN]
   refine Zo ?_
   refine Zt (t := (decide (s0_.1 < (a0.Kids.length : Int)))) rfl (fun c11 => ?_) (fun c11 => ?_)
   ·replace hs0_ := Zx c11 hs0_
    refine Z0 ?_
    try simp only [Zn, Zj]
    refine Zm [2, 3, 24, 25, 26] [false, true, true, true, true, false] ?_
    simp only [push_cast, seval, ↓reduceIte]
    refine Zo ?_
    refine Ys ?_
    refine Zo ?_
    obtain ⟨x8, hx8, ax8, bx8, cx8, hs0_⟩ := bE (f := Zk) Zlm (fun _ => rfl) (by decide) hs0_
    refine Zc Zd [] ?_
    simp only [push_cast, Nat.reduceAdd, Nat.reduceSub, Nat.reduceMul, Nat.reduceLeDiff, Nat.reduceLT, Nat.reduceEqDiff, ↓reduceIte, reduceCtorEq, Int.reduceBEq, Int.reduceBNe, Nat.reduceBEq, Int.reduceLE, Int.reduceLT, Int.reduceEq, Int.reduceNe, Int.reduceNeg, Nat.reduceDiv, Nat.reduceMod, Nat.reducePow, Za, ax8, bx8, cx8, hN0, hN]
    refine Zm [2, 3, 5, 24, 25, 26] [false, true, true, true, true, false, true] ?_
    simp only [push_cast, seval, ↓reduceIte]
    obtain ⟨y9, hy9, hs0_⟩ := bC hs0_
    obtain ⟨l10, pl10, ql10, el10, hs0_⟩ := bA (k := 1) rfl hs0_
    refine Zai Zd (by kernel_rfl) [.low, .low, .plain, .plain, .plain, .plain, .plain, .plain, .pass, .bar, .plain, .bar] (fun i => i < (n + 7)) [0, 1, 2, 3, 4, 5, 6, 7, 8, 9, 10, 11] [.low, .low, .plain, .plain, .plain, .plain, .plain, .plain, .pass, .bar, .plain, .bar] [] (by kernel_rfl) rfl ?_
    simp only [push_cast, seval, ↓reduceIte, Za, pl10, ql10, el10, hN0, hN]
    repeat (with_reducible refine And.intro (by first | omega | exact Yt rfl | exact Yi | exact Qg rfl rfl) ?_)
    first | refine PCallA.of (fun _ _ => Zbg hy9) ?_ | refine PCall.of (Zbg hy9) ?_
    simp only [push_cast, seval, ↓reduceIte, Za, pl10, ql10, el10, hN0, hN]
    repeat (with_reducible refine And.intro (by first | omega | exact Yt rfl | exact Yi | exact Qg rfl rfl) ?_)
    refine Zdp ⟨54, [], [(2, .ref (n + 1) 0), (3, .ref (n + 3) 0), (24, .sl a0.Kids.length (fl Zk a0.Kids)), (25, .val (.int .i64 (a0.Kids.length : Int))), (26, .val (.int .i64 s0_.1))]⟩ (Zu O n [none, some ⟨false, 30, 11, 1, [.val (.int .i64 0), .val (.int .i64 0), .val (.slice none 0 0), .val (.slice none 0 0), .val (.int .i64 0), .val (.slice none 0 0), .val (.slice none 0 0), .val (.slice none 0 0), .val (.slice none 0 0), .val (.int .i64 0), .val (.slice none 0 0)]⟩, some ⟨true, 58, 4, y6.length, fl Zh y6⟩, some ⟨false, 30, 11, 1, [.val (.int .i64 2), .val (.int .i64 0), .val (.slice none 0 0), .val (.slice none 0 0), .val (.int .i64 0), .val (.slice none 0 0), .val (.slice none 0 0), .row (n + 2) y6.length, .row (n + 4) l10.length, .val (.int .i64 0), .val (.slice none 0 0)]⟩, some ⟨true, 71, 12, l10.length, fl Zk l10⟩, none, none, none]) (Zl hU rfl rfl ?_) ?_
    ·simp only [push_cast, seval, ↓reduceIte, Za, pl10, ql10, el10, hN0, hN]
    refine Zc Zd [] ?_
    simp only [push_cast, seval, ↓reduceIte, Za, hN0, hN]
    have hs0_ := Option.some.inj hs0_; subst hs0_
    refine And.intro rfl (Fit2.of (Zl hU rfl rfl ?_) (by omega))
    simp only [push_cast, seval, ↓reduceIte, Za, hN0, hN]
   replace hs0_ := Zw c11 hs0_
   refine Xs ?_
   try simp only [Zn, Zj, ↓reduceIte, Nat.reduceEqDiff]
   have hs0_ := Option.some.inj hs0_; subst hs0_
   refine And.intro (fun h => by cases h) (And.intro rfl (Fit2.of (Zl hU rfl rfl ?_) (by omega)))
   simp only [push_cast, seval, ↓reduceIte, Za, hN0, hN]
  try simp only [Zn, Zj, ↓reduceIte, Nat.reduceEqDiff]
  refine Zm [2, 3] [false, true, true, true, true, false] ?_
  simp only [push_cast, seval, ↓reduceIte]
  refine Zo ?_
  refine Zc Zd [] ?_
  simp only [push_cast, seval, ↓reduceIte, Za, hN0, hN]
  refine Zm [2] [false, true, true, false, true, false] ?_
  simp only [push_cast, seval, ↓reduceIte]
  refine Z5 ?_
  try simp only [Zn, Zj]
  have h := Option.some.inj h; subst h
  refine Zy (.inr rfl) hU [.agg [.val (.int .i64 2), .val (.int .i64 0), .val (.slice none 0 0), .val (.slice none 0 0), .val (.int .i64 0), .val (.slice none 0 0), .val (.slice none 0 0), .row (n + 2) y6.length, .row (n + 4) z12.length, .val (.int .i64 0), .val (.slice none 0 0)]] (by omega) ?_
  simp only [push_cast, seval, ↓reduceIte, Za, Try.results18, hN0, hN]
 replace h := Zw c16 h
 refine Zs [1, 2, 43] (Zc Zd [] ?_)
 simp only [push_cast, seval, ↓reduceIte, Za, hN0, hN]
 refine Zt (t := (a0.Kind == 3)) rfl (fun c15 => ?_) (fun c15 => ?_)
 ·replace h := Zx c15 h
  refine Zo ?_
  obtain ⟨y14, hy14, h⟩ := bC h
  refine Zdn Zd (by kernel_rfl) [false, false, false, false, false, false, false, false, true] [] (by kernel_rfl) ?_
  simp only [push_cast, seval, ↓reduceIte, Za, hN0, hN]
  refine PCall.of (Zhd hy14) ?_
  simp only [push_cast, seval, ↓reduceIte, Za, hN0, hN]
  refine Zm [2] [false, true] ?_
  simp only [push_cast, seval, ↓reduceIte]
  refine Z5 ?_
  try simp only [Zn, Zj]
  have h := Option.some.inj h; subst h
  refine Zy (.inr rfl) hU [.agg [.val (.int .i64 3), .val (.int .i64 0), .val (.slice none 0 0), .val (.slice none 0 0), .val (.int .i64 0), .val (.slice none 0 0), .val (.slice none 0 0), .val (.slice none 0 0), .val (.slice none 0 0), .val (.int .i64 a0.List_), .sl y14.length (fl Zf y14)]] (by omega) ?_
  simp only [push_cast, seval, ↓reduceIte, Za, Try.results18, hN0, hN]
 replace h := Zw c15 h
 refine Z0 ?_
 try simp only [Zn, Zj]
 refine Zm [2] [false, true] ?_
 simp only [push_cast, seval, ↓reduceIte]
 refine Zo ?_
 refine Zc Zd [] ?_
 simp only [push_cast, seval, ↓reduceIte, Za, hN0, hN]
 refine Zm [2] [false, true] ?_
 simp only [push_cast, seval, ↓reduceIte]
 refine Z5 ?_
 try simp only [Zn, Zj]
 have h := Option.some.inj h; subst h
 refine Zy (.inr rfl) hU [.agg [.val (.int .i64 0), .val (.int .i64 0), .val (.slice none 0 0), .val (.slice none 0 0), .val (.int .i64 0), .val (.slice none 0 0), .val (.slice none 0 0), .val (.slice none 0 0), .val (.slice none 0 0), .val (.int .i64 0), .val (.slice none 0 0)]] (by omega) ?_
 simp only [push_cast, seval, ↓reduceIte, Za, Try.results18, hN0, hN]
theorem Zo6 {X0 : (S_api_Edit → Option S_api_Edit)} {Ud : (Int → (List S_api_Op) → Option (List S_api_Op))} (Zbg : ∀ {a0 : S_api_Edit} {r : S_api_Edit} {O : Objs} {n : Nat}, X0 a0 = some r → GTo Try.prog 18 [.agg (Zg a0)] O n (.agg (Zg r)) O n) (Zhd : ∀ {a0 : Int} {a1 : (List S_api_Op)} {r : (List S_api_Op)} {O : Objs} {n : Nat}, Ud a0 a1 = some r → GTo Try.prog 51 [.val (.int .i64 a0), .sl a1.length (fl Zf a1)] O n (.sl r.length (fl Zf r)) O n) {a0 : Int} {a1 : (List S_api_Op)} {r : (List S_api_Op)} {O : Objs} {n : Nat} (h : Zbd X0 Ud a0 a1 = some r) : GTo Try.prog 51 [.val (.int .i64 a0), .sl a1.length (fl Zf a1)] O n (.sl r.length (fl Zf r)) O n := by
 unfold Zbd at h
 refine Xc Zd Try.call51 Try.func51 rfl (Nat.le_of_ble_eq_true rfl) (Nat.le_refl _) fun hU => ?_
 have hN0 : O n = none := hU.fresh _ (Nat.le_refl _)
 have hN : ∀ k, O (n + k) = none := fun k => hU.fresh _ (Nat.le_add_right _ _)
 show W _ _ _ _ ⟨44, [], [(0, .val (.int .i64 a0)), (1, .sl a1.length (fl Zf a1))]⟩ (Zu O n []) _
 refine Zs [0, 1] (Zc Zd [] ?_)
 simp only [push_cast, seval, ↓reduceIte, Za, hN0, hN]
 refine Zs [0, 1, 5] (Zc Zd [] ?_)
 simp only [push_cast, seval, ↓reduceIte, Za, hN0, hN]
 refine Zo ?_
 refine Zs [0, 5, 8, 9, 10] (Zc Zd [] ?_)
 simp only [push_cast, seval, ↓reduceIte, Za, hN0, hN]
 refine Zm [0, 5, 8, 9, 10] [true] ?_
 simp only [push_cast, seval, ↓reduceIte]
 refine Ja (E' := (⟨44, [], [(0, .val (.int .i64 a0)), (5, .ref n 0), (8, .sl a1.length (fl Zf a1)), (9, .val (.int .i64 (a1.length : Int))), (10, .val (.int .i64 0))]⟩ : Env)) (O' := (Zu O n [some ⟨false, 110, 4, 1, [.row (n + 1) ([] : List S_api_Op).length, .val (.int .i64 0), .row (n + 2) ([] : List S_api_Tree).length, .row (n + 3) ([] : List S_api_Tree).length]⟩, some ⟨true, 69, 14, ([] : List S_api_Op).length, fl Zf ([] : List S_api_Op)⟩, some ⟨true, 25, 3, ([] : List S_api_Tree).length, fl Zb ([] : List S_api_Tree)⟩, some ⟨true, 25, 3, ([] : List S_api_Tree).length, fl Zb ([] : List S_api_Tree)⟩, none])) (n' := (n + 5)) ?_ ?_
 ·refine Fit2.trans (E' := (⟨44, [], [(0, .val (.int .i64 a0)), (5, .ref n 0), (8, .sl a1.length (fl Zf a1)), (9, .val (.int .i64 (a1.length : Int))), (10, .val (.int .i64 0))]⟩ : Env)) (O' := (Zu O n [some ⟨false, 110, 4, 1, [.val (.slice none 0 0), .val (.int .i64 0), .val (.slice none 0 0), .val (.slice none 0 0)]⟩])) (n' := (n + 1)) (Fit2.of (Zl hU rfl rfl ?_) (by omega)) ?_
  ·simp only [push_cast, seval, ↓reduceIte, Za, hN0, hN]
  refine Fit2.trans (E' := (⟨44, [], [(0, .val (.int .i64 a0)), (5, .ref n 0), (8, .sl a1.length (fl Zf a1)), (9, .val (.int .i64 (a1.length : Int))), (10, .val (.int .i64 0))]⟩ : Env)) (O' := (Zu O n [some ⟨false, 110, 4, 1, [.row (n + 1) 0, .val (.int .i64 0), .val (.slice none 0 0), .val (.slice none 0 0)]⟩, some ⟨true, 69, 14, 0, []⟩])) (n' := (n + 2)) ?_ ?_
  ·have ha := Va (ba := n) (E := (⟨44, [], [(0, .val (.int .i64 a0)), (5, .ref n 0), (8, .sl a1.length (fl Zf a1)), (9, .val (.int .i64 (a1.length : Int))), (10, .val (.int .i64 0))]⟩ : Env)) (O := (Zu O n [some ⟨false, 110, 4, 1, [.val (.slice none 0 0), .val (.int .i64 0), .val (.slice none 0 0), .val (.slice none 0 0)]⟩])) (n := (n + 1)) (p := n) (k := 0) (q := ⟨false, 110, 4, 1, [.val (.slice none 0 0), .val (.int .i64 0), .val (.slice none 0 0), .val (.slice none 0 0)]⟩) 69 14 (by simp only [K8, Zah, List.getElem?_cons_zero, List.getElem?_cons_succ, Option.join_some, Z8]) rfl (by omega)
   simp only [Y0, Yl, Uj, K9, List.set_cons_zero, List.set_cons_succ, List.cons_append, List.nil_append, List.length_cons, List.length_nil, Nat.zero_add, Nat.reduceAdd, Nat.reduceLT, Nat.add_assoc] at ha
   exact ha
  refine Fit2.trans (E' := (⟨44, [], [(0, .val (.int .i64 a0)), (5, .ref n 0), (8, .sl a1.length (fl Zf a1)), (9, .val (.int .i64 (a1.length : Int))), (10, .val (.int .i64 0))]⟩ : Env)) (O' := (Zu O n [some ⟨false, 110, 4, 1, [.row (n + 1) ([] : List S_api_Op).length, .val (.int .i64 0), .val (.slice none 0 0), .val (.slice none 0 0)]⟩, some ⟨true, 69, 14, ([] : List S_api_Op).length, fl Zf ([] : List S_api_Op)⟩])) (n' := (n + 2)) (Fit2.of (Zl hU rfl rfl ?_) (by omega)) ?_
  ·simp only [push_cast, seval, ↓reduceIte, Za, hN0, hN]
  refine Fit2.trans (E' := (⟨44, [], [(0, .val (.int .i64 a0)), (5, .ref n 0), (8, .sl a1.length (fl Zf a1)), (9, .val (.int .i64 (a1.length : Int))), (10, .val (.int .i64 0))]⟩ : Env)) (O' := (Zu O n [some ⟨false, 110, 4, 1, [.row (n + 1) ([] : List S_api_Op).length, .val (.int .i64 0), .row (n + 2) 0, .val (.slice none 0 0)]⟩, some ⟨true, 69, 14, ([] : List S_api_Op).length, fl Zf ([] : List S_api_Op)⟩, some ⟨true, 25, 3, 0, []⟩])) (n' := (n + 3)) ?_ ?_
  ·have ha := Va (ba := n) (E := (⟨44, [], [(0, .val (.int .i64 a0)), (5, .ref n 0), (8, .sl a1.length (fl Zf a1)), (9, .val (.int .i64 (a1.length : Int))), (10, .val (.int .i64 0))]⟩ : Env)) (O := (Zu O n [some ⟨false, 110, 4, 1, [.row (n + 1) ([] : List S_api_Op).length, .val (.int .i64 0), .val (.slice none 0 0), .val (.slice none 0 0)]⟩, some ⟨true, 69, 14, ([] : List S_api_Op).length, fl Zf ([] : List S_api_Op)⟩])) (n := (n + 2)) (p := n) (k := 2) (q := ⟨false, 110, 4, 1, [.row (n + 1) ([] : List S_api_Op).length, .val (.int .i64 0), .val (.slice none 0 0), .val (.slice none 0 0)]⟩) 25 3 (by simp only [K8, Zah, List.getElem?_cons_zero, List.getElem?_cons_succ, Option.join_some, Z8]) rfl (by omega)
   simp only [Y0, Yl, Uj, K9, List.set_cons_zero, List.set_cons_succ, List.cons_append, List.nil_append, List.length_cons, List.length_nil, Nat.zero_add, Nat.reduceAdd, Nat.reduceLT, Nat.add_assoc] at ha
   exact ha
  refine Fit2.trans (E' := (⟨44, [], [(0, .val (.int .i64 a0)), (5, .ref n 0), (8, .sl a1.length (fl Zf a1)), (9, .val (.int .i64 (a1.length : Int))), (10, .val (.int .i64 0))]⟩ : Env)) (O' := (Zu O n [some ⟨false, 110, 4, 1, [.row (n + 1) ([] : List S_api_Op).length, .val (.int .i64 0), .row (n + 2) ([] : List S_api_Tree).length, .val (.slice none 0 0)]⟩, some ⟨true, 69, 14, ([] : List S_api_Op).length, fl Zf ([] : List S_api_Op)⟩, some ⟨true, 25, 3, ([] : List S_api_Tree).length, fl Zb ([] : List S_api_Tree)⟩])) (n' := (n + 3)) (Fit2.of (Zl hU rfl rfl ?_) (by omega)) ?_
  ·simp only [push_cast, seval, ↓reduceIte, Za, hN0, hN]
  refine Fit2.trans (E' := (⟨44, [], [(0, .val (.int .i64 a0)), (5, .ref n 0), (8, .sl a1.length (fl Zf a1)), (9, .val (.int .i64 (a1.length : Int))), (10, .val (.int .i64 0))]⟩ : Env)) (O' := (Zu O n [some ⟨false, 110, 4, 1, [.row (n + 1) ([] : List S_api_Op).length, .val (.int .i64 0), .row (n + 2) ([] : List S_api_Tree).length, .row (n + 3) 0]⟩, some ⟨true, 69, 14, ([] : List S_api_Op).length, fl Zf ([] : List S_api_Op)⟩, some ⟨true, 25, 3, 0, []⟩, some ⟨true, 25, 3, 0, []⟩])) (n' := (n + 4)) ?_ ?_
  ·have ha := Va (ba := n) (E := (⟨44, [], [(0, .val (.int .i64 a0)), (5, .ref n 0), (8, .sl a1.length (fl Zf a1)), (9, .val (.int .i64 (a1.length : Int))), (10, .val (.int .i64 0))]⟩ : Env)) (O := (Zu O n [some ⟨false, 110, 4, 1, [.row (n + 1) ([] : List S_api_Op).length, .val (.int .i64 0), .row (n + 2) ([] : List S_api_Tree).length, .val (.slice none 0 0)]⟩, some ⟨true, 69, 14, ([] : List S_api_Op).length, fl Zf ([] : List S_api_Op)⟩, some ⟨true, 25, 3, ([] : List S_api_Tree).length, fl Zb ([] : List S_api_Tree)⟩])) (n := (n + 3)) (p := n) (k := 3) (q := ⟨false, 110, 4, 1, [.row (n + 1) ([] : List S_api_Op).length, .val (.int .i64 0), .row (n + 2) ([] : List S_api_Tree).length, .val (.slice none 0 0)]⟩) 25 3 (by simp only [K8, Zah, List.getElem?_cons_zero, List.getElem?_cons_succ, Option.join_some, Z8]) rfl (by omega)
   simp only [Y0, Yl, Uj, K9, List.set_cons_zero, List.set_cons_succ, List.cons_append, List.nil_append, List.length_cons, List.length_nil, Nat.zero_add, Nat.reduceAdd, Nat.reduceLT, Nat.add_assoc] at ha
   exact ha
  refine Fit2.trans (E' := (⟨44, [], [(0, .val (.int .i64 a0)), (5, .ref n 0), (8, .sl a1.length (fl Zf a1)), (9, .val (.int .i64 (a1.length : Int))), (10, .val (.int .i64 0))]⟩ : Env)) (O' := (Zu O n [some ⟨false, 110, 4, 1, [.row (n + 1) ([] : List S_api_Op).length, .val (.int .i64 0), .row (n + 2) ([] : List S_api_Tree).length, .row (n + 3) ([] : List S_api_Tree).length]⟩, some ⟨true, 69, 14, ([] : List S_api_Op).length, fl Zf ([] : List S_api_Op)⟩, some ⟨true, 25, 3, ([] : List S_api_Tree).length, fl Zb ([] : List S_api_Tree)⟩, some ⟨true, 25, 3, ([] : List S_api_Tree).length, fl Zb ([] : List S_api_Tree)⟩])) (n' := (n + 4)) (Fit2.of (Zl hU rfl rfl ?_) (by omega)) ?_
  ·simp only [push_cast, seval, ↓reduceIte, Za, hN0, hN]
  refine Jt (k := 4) (k' := 5) hU [0, 1, 2, 3] [0, 1, 2, 3, 0] rfl rfl rfl rfl ⟨rfl, rfl⟩ ?_
  simp only [push_cast, seval, ↓reduceIte, Za, hN0, hN]
 obtain ⟨z14, hz14, h⟩ := bC h
 refine Yv (E' := ⟨44, [], [(5, .ref n 0)]⟩) (O' := (Zu O n [some ⟨false, 110, 4, 1, [.row (n + 1) z14.2.1.length, .val (.int .i64 z14.1), .row (n + 2) z14.2.2.1.length, .row (n + 3) z14.2.2.2.length]⟩, some ⟨true, 69, 14, z14.2.1.length, fl Zf z14.2.1⟩, some ⟨true, 25, 3, z14.2.2.1.length, fl Zb z14.2.2.1⟩, some ⟨true, 25, 3, z14.2.2.2.length, fl Zb z14.2.2.2⟩, none])) (n0 := (n + 5)) ?_ ?_
 ·refine Y7 hz14 (fun s0_ => ⟨44, [], [(0, .val (.int .i64 a0)), (5, .ref n 0), (8, .sl a1.length (fl Zf a1)), (9, .val (.int .i64 (a1.length : Int))), (10, .val (.int .i64 s0_.1))]⟩) (fun s0_ => (Zu O n [some ⟨false, 110, 4, 1, [.row (n + 1) s0_.2.2.1.length, .val (.int .i64 s0_.2.1), .row (n + 2) s0_.2.2.2.1.length, .row (n + 3) s0_.2.2.2.2.length]⟩, some ⟨true, 69, 14, s0_.2.2.1.length, fl Zf s0_.2.2.1⟩, some ⟨true, 25, 3, s0_.2.2.2.1.length, fl Zb s0_.2.2.2.1⟩, some ⟨true, 25, 3, s0_.2.2.2.2.length, fl Zb s0_.2.2.2.2⟩, none])) (fun z14 => JX 0 n (⟨44, [], [(5, .ref n 0)]⟩ : Env) (Zu O n [some ⟨false, 110, 4, 1, [.row (n + 1) z14.2.1.length, .val (.int .i64 z14.1), .row (n + 2) z14.2.2.1.length, .row (n + 3) z14.2.2.2.length]⟩, some ⟨true, 69, 14, z14.2.1.length, fl Zf z14.2.1⟩, some ⟨true, 25, 3, z14.2.2.1.length, fl Zb z14.2.2.1⟩, some ⟨true, 25, 3, z14.2.2.2.length, fl Zb z14.2.2.2⟩, none]) (n + 5)) ?_
  intro s0_ x0_ hs0_
  unfold Kw at hs0_
  try dsimp only
  refine Zs [0, 5, 8, 9, 10, 11] (Zc Zd [] ?_)
  simp only [push_cast, seval, ↓reduceIte, Za, hN0, hN]
  refine Zo ?_
  refine Zt (t := (decide (s0_.1 < (a1.length : Int)))) rfl (fun c13 => ?_) (fun c13 => ?_)
  ·replace hs0_ := Zx c13 hs0_
   refine Z0 ?_
   try simp only [Zn, Zj]
   refine Zm [0, 5, 8, 9, 10] [true, true, true, true, false] ?_
   simp only [push_cast, seval, ↓reduceIte]
   obtain ⟨z1, hz1, hs0_⟩ := bC hs0_
   refine Y5 (E' := ⟨44, [], [(0, .val (.int .i64 a0)), (5, .ref n 0), (8, .sl a1.length (fl Zf a1)), (9, .val (.int .i64 (a1.length : Int))), (10, .val (.int .i64 s0_.1))]⟩) (O' := (Zu O n [some ⟨false, 110, 4, 1, [.row (n + 9) z1.2.1.length, .val (.int .i64 z1.1), .row (n + 10) z1.2.2.1.length, .row (n + 11) z1.2.2.2.length]⟩, none, none, none, none, none, none, none, none, some ⟨true, 69, 14, z1.2.1.length, fl Zf z1.2.1⟩, some ⟨true, 25, 3, z1.2.2.1.length, fl Zb z1.2.2.1⟩, some ⟨true, 25, 3, z1.2.2.2.length, fl Zb z1.2.2.2⟩, none])) (n0 := (n + 13)) ?_ ?_
   ·refine Ys ?_
    refine Zo ?_
    obtain ⟨x3, hx3, ax3, bx3, cx3, hz1⟩ := bE (f := Zf) Zc5 (fun _ => rfl) (by decide) hz1
    refine Zc Zd [] ?_
    simp only [push_cast, Nat.reduceAdd, Nat.reduceSub, Nat.reduceMul, Nat.reduceLeDiff, Nat.reduceLT, Nat.reduceEqDiff, ↓reduceIte, reduceCtorEq, Int.reduceBEq, Int.reduceBNe, Nat.reduceBEq, Int.reduceLE, Int.reduceLT, Int.reduceEq, Int.reduceNe, Int.reduceNeg, Nat.reduceDiv, Nat.reduceMod, Nat.reducePow, Za, ax3, bx3, cx3, hN0, hN]
    refine Zm [0, 5, 7, 8, 9, 10] [true, true, true, true, false, true] ?_
    simp only [push_cast, seval, ↓reduceIte]
    refine Zs [0, 5, 7, 8, 9, 10, 15] (Zc Zd [] ?_)
    simp only [push_cast, seval, ↓reduceIte, Za, hN0, hN]
    refine Ys ?_
    refine Zs [0, 5, 7, 8, 9, 10, 15, 16] (Zc Zd [] ?_)
    simp only [push_cast, seval, ↓reduceIte, Za, hN0, hN]
    refine Zt (t := (x3.Kind == 0)) rfl (fun c12 => ?_) (fun c12 => ?_)
    ·replace hz1 := Zx c12 hz1
     obtain ⟨y4, hy4, hz1⟩ := bC hz1
     refine Zc Zd [] ?_
     simp only [push_cast, seval, ↓reduceIte, Za, hN0, hN]
     refine (Zc3 (i0 := n) (j0_0 := (n + 2)) (j0_1 := (n + 3)) (j0_2 := (n + 1)) (by omega) (by omega) (by omega) (by omega) (by omega) (by omega) (by omega) (by omega) (by omega) (by omega) (by simp only [push_cast, seval, ↓reduceIte, Za, Y2, hN0, hN] <;> rfl) (by simp only [push_cast, seval, ↓reduceIte, Za, Y2, hN0, hN] <;> rfl) (by simp only [push_cast, seval, ↓reduceIte, Za, Y2, hN0, hN] <;> rfl) (by simp only [push_cast, seval, ↓reduceIte, Za, Y2, hN0, hN] <;> rfl) hy4).then ?_
     simp only [push_cast, seval, ↓reduceIte, Za, hN0, hN]
     have hz1 := Option.some.inj hz1; subst hz1
     refine And.intro rfl ?_
     refine Fit2.trans (E' := (⟨44, [], [(0, .val (.int .i64 a0)), (5, .ref n 0), (8, .sl a1.length (fl Zf a1)), (9, .val (.int .i64 (a1.length : Int))), (10, .val (.int .i64 s0_.1))]⟩ : Env)) (O' := (Zu O n [some ⟨false, 110, 4, 1, [.row (n + 8) y4.out.length, .val (.int .i64 y4.kept), .row (n + 6) y4.gone.length, .row (n + 7) y4.come.length]⟩, none, none, none, none, none, some ⟨true, 25, 3, y4.gone.length, fl Zb y4.gone⟩, some ⟨true, 25, 3, y4.come.length, fl Zb y4.come⟩, some ⟨true, 69, 14, y4.out.length, fl Zf y4.out⟩])) (n' := (n + 9)) (Fit2.of (Zl hU rfl rfl ?_) (by omega)) ?_
     ·simp only [push_cast, seval, ↓reduceIte, Za, hN0, hN]
     refine Jt (k := 9) (k' := 13) hU [0, 12, 12, 12, 12, 12, 10, 11, 9] [0, 0, 0, 0, 0, 0, 0, 0, 0, 8, 6, 7, 0] rfl rfl rfl rfl ⟨rfl, rfl⟩ ?_
     simp only [push_cast, seval, ↓reduceIte, Za, hN0, hN]
    replace hz1 := Zw c12 hz1
    refine Zs [0, 5, 7, 8, 9, 10, 15, 21] (Zc Zd [] ?_)
    simp only [push_cast, seval, ↓reduceIte, Za, hN0, hN]
    refine Zt (t := (x3.Kind == 1)) rfl (fun c11 => ?_) (fun c11 => ?_)
    ·replace hz1 := Zx c11 hz1
     obtain ⟨y5, hy5, hz1⟩ := bC hz1
     refine Zc Zd [] ?_
     simp only [push_cast, seval, ↓reduceIte, Za, hN0, hN]
     refine (Zfn (i0 := n) (j0_0 := (n + 2)) (j0_1 := (n + 3)) (j0_2 := (n + 1)) (by omega) (by omega) (by omega) (by omega) (by omega) (by omega) (by omega) (by omega) (by omega) (by omega) (by simp only [push_cast, seval, ↓reduceIte, Za, Y2, hN0, hN] <;> rfl) (by simp only [push_cast, seval, ↓reduceIte, Za, Y2, hN0, hN] <;> rfl) (by simp only [push_cast, seval, ↓reduceIte, Za, Y2, hN0, hN] <;> rfl) (by simp only [push_cast, seval, ↓reduceIte, Za, Y2, hN0, hN] <;> rfl) hy5).then ?_
     simp only [push_cast, seval, ↓reduceIte, Za, hN0, hN]
     have hz1 := Option.some.inj hz1; subst hz1
     refine And.intro rfl ?_
     refine Fit2.trans (E' := (⟨44, [], [(0, .val (.int .i64 a0)), (5, .ref n 0), (8, .sl a1.length (fl Zf a1)), (9, .val (.int .i64 (a1.length : Int))), (10, .val (.int .i64 s0_.1))]⟩ : Env)) (O' := (Zu O n [some ⟨false, 110, 4, 1, [.row (n + 8) y5.out.length, .val (.int .i64 y5.kept), .row (n + 6) y5.gone.length, .row (n + 7) y5.come.length]⟩, none, none, none, none, none, some ⟨true, 25, 3, y5.gone.length, fl Zb y5.gone⟩, some ⟨true, 25, 3, y5.come.length, fl Zb y5.come⟩, some ⟨true, 69, 14, y5.out.length, fl Zf y5.out⟩])) (n' := (n + 9)) (Fit2.of (Zl hU rfl rfl ?_) (by omega)) ?_
     ·simp only [push_cast, seval, ↓reduceIte, Za, hN0, hN]
     refine Jt (k := 9) (k' := 13) hU [0, 12, 12, 12, 12, 12, 10, 11, 9] [0, 0, 0, 0, 0, 0, 0, 0, 0, 8, 6, 7, 0] rfl rfl rfl rfl ⟨rfl, rfl⟩ ?_
     simp only [push_cast, seval, ↓reduceIte, Za, hN0, hN]
    replace hz1 := Zw c11 hz1
    refine Zs [0, 5, 7, 8, 9, 10, 15, 27] (Zc Zd [] ?_)
    simp only [push_cast, seval, ↓reduceIte, Za, hN0, hN]
    refine Zt (t := (x3.Kind == 2)) rfl (fun c10 => ?_) (fun c10 => ?_)
    ·replace hz1 := Zx c10 hz1
     obtain ⟨y6, hy6, hz1⟩ := bC hz1
     refine Zc Zd [] ?_
     simp only [push_cast, seval, ↓reduceIte, Za, hN0, hN]
     refine (Zfo (i0 := n) (j0_0 := (n + 2)) (j0_1 := (n + 3)) (j0_2 := (n + 1)) (by omega) (by omega) (by omega) (by omega) (by omega) (by omega) (by omega) (by omega) (by omega) (by omega) (by simp only [push_cast, seval, ↓reduceIte, Za, Y2, hN0, hN] <;> rfl) (by simp only [push_cast, seval, ↓reduceIte, Za, Y2, hN0, hN] <;> rfl) (by simp only [push_cast, seval, ↓reduceIte, Za, Y2, hN0, hN] <;> rfl) (by simp only [push_cast, seval, ↓reduceIte, Za, Y2, hN0, hN] <;> rfl) hy6).then ?_
     simp only [push_cast, seval, ↓reduceIte, Za, hN0, hN]
     have hz1 := Option.some.inj hz1; subst hz1
     refine And.intro rfl ?_
     refine Fit2.trans (E' := (⟨44, [], [(0, .val (.int .i64 a0)), (5, .ref n 0), (8, .sl a1.length (fl Zf a1)), (9, .val (.int .i64 (a1.length : Int))), (10, .val (.int .i64 s0_.1))]⟩ : Env)) (O' := (Zu O n [some ⟨false, 110, 4, 1, [.row (n + 8) y6.out.length, .val (.int .i64 y6.kept), .row (n + 6) y6.gone.length, .row (n + 7) y6.come.length]⟩, none, none, none, none, none, some ⟨true, 25, 3, y6.gone.length, fl Zb y6.gone⟩, some ⟨true, 25, 3, y6.come.length, fl Zb y6.come⟩, some ⟨true, 69, 14, y6.out.length, fl Zf y6.out⟩])) (n' := (n + 9)) (Fit2.of (Zl hU rfl rfl ?_) (by omega)) ?_
     ·simp only [push_cast, seval, ↓reduceIte, Za, hN0, hN]
     refine Jt (k := 9) (k' := 13) hU [0, 12, 12, 12, 12, 12, 10, 11, 9] [0, 0, 0, 0, 0, 0, 0, 0, 0, 8, 6, 7, 0] rfl rfl rfl rfl ⟨rfl, rfl⟩ ?_
     simp only [push_cast, seval, ↓reduceIte, Za, hN0, hN]
    replace hz1 := Zw c10 hz1
    refine Zs [0, 5, 7, 8, 9, 10, 33] (Zc Zd [] ?_)
    simp only [push_cast, seval, ↓reduceIte, Za, hN0, hN]
    refine Zt (t := (x3.Kind == 3)) rfl (fun c9 => ?_) (fun c9 => ?_)
    ·replace hz1 := Zx c9 hz1
     obtain ⟨y7, hy7, hz1⟩ := bC hz1
     obtain ⟨y8, hy8, hz1⟩ := bC hz1
     refine Zc Zd [] ?_
     simp only [push_cast, seval, ↓reduceIte, Za, hN0, hN]
     refine (Zbg hy7).then ?_
     simp only [push_cast, seval, ↓reduceIte, Za, hN0, hN]
     refine (Zf5 (i0 := n) (j0_0 := (n + 2)) (j0_1 := (n + 3)) (j0_2 := (n + 1)) (by omega) (by omega) (by omega) (by omega) (by omega) (by omega) (by omega) (by omega) (by omega) (by omega) (by simp only [push_cast, seval, ↓reduceIte, Za, Y2, hN0, hN] <;> rfl) (by simp only [push_cast, seval, ↓reduceIte, Za, Y2, hN0, hN] <;> rfl) (by simp only [push_cast, seval, ↓reduceIte, Za, Y2, hN0, hN] <;> rfl) (by simp only [push_cast, seval, ↓reduceIte, Za, Y2, hN0, hN] <;> rfl) hy8).then ?_
     simp only [push_cast, seval, ↓reduceIte, Za, hN0, hN]
     have hz1 := Option.some.inj hz1; subst hz1
     refine And.intro rfl ?_
     refine Fit2.trans (E' := (⟨44, [], [(0, .val (.int .i64 a0)), (5, .ref n 0), (8, .sl a1.length (fl Zf a1)), (9, .val (.int .i64 (a1.length : Int))), (10, .val (.int .i64 s0_.1))]⟩ : Env)) (O' := (Zu O n [some ⟨false, 110, 4, 1, [.row (n + 8) y8.out.length, .val (.int .i64 y8.kept), .row (n + 6) y8.gone.length, .row (n + 7) y8.come.length]⟩, none, none, none, none, none, some ⟨true, 25, 3, y8.gone.length, fl Zb y8.gone⟩, some ⟨true, 25, 3, y8.come.length, fl Zb y8.come⟩, some ⟨true, 69, 14, y8.out.length, fl Zf y8.out⟩])) (n' := (n + 9)) (Fit2.of (Zl hU rfl rfl ?_) (by omega)) ?_
     ·simp only [push_cast, seval, ↓reduceIte, Za, hN0, hN]
     refine Jt (k := 9) (k' := 13) hU [0, 12, 12, 12, 12, 12, 10, 11, 9] [0, 0, 0, 0, 0, 0, 0, 0, 0, 8, 6, 7, 0] rfl rfl rfl rfl ⟨rfl, rfl⟩ ?_
     simp only [push_cast, seval, ↓reduceIte, Za, hN0, hN]
    replace hz1 := Zw c9 hz1
    refine Z0 ?_
    try simp only [Zn, Zj]
    have hz1 := Option.some.inj hz1; subst hz1
    refine And.intro rfl ?_
    refine Fit2.trans (E' := (⟨44, [], [(0, .val (.int .i64 a0)), (5, .ref n 0), (8, .sl a1.length (fl Zf a1)), (9, .val (.int .i64 (a1.length : Int))), (10, .val (.int .i64 s0_.1))]⟩ : Env)) (O' := (Zu O n [some ⟨false, 110, 4, 1, [.row (n + 1) s0_.2.2.1.length, .val (.int .i64 s0_.2.1), .row (n + 2) s0_.2.2.2.1.length, .row (n + 3) s0_.2.2.2.2.length]⟩, some ⟨true, 69, 14, s0_.2.2.1.length, fl Zf s0_.2.2.1⟩, some ⟨true, 25, 3, s0_.2.2.2.1.length, fl Zb s0_.2.2.2.1⟩, some ⟨true, 25, 3, s0_.2.2.2.2.length, fl Zb s0_.2.2.2.2⟩, none, none])) (n' := (n + 6)) (Fit2.of (Zl hU rfl rfl ?_) (by omega)) ?_
    ·simp only [push_cast, seval, ↓reduceIte, Za, hN0, hN]
    refine Jt (k := 6) (k' := 13) hU [0, 9, 10, 11, 12, 12] [0, 0, 0, 0, 0, 0, 0, 0, 0, 1, 2, 3, 0] rfl rfl rfl rfl ⟨rfl, rfl⟩ ?_
    simp only [push_cast, seval, ↓reduceIte, Za, hN0, hN]
   refine Zc Zd [] ?_
   simp only [push_cast, seval, ↓reduceIte, Za, hN0, hN]
   have hs0_ := Option.some.inj hs0_; subst hs0_
   refine And.intro rfl ?_
   refine Fit2.trans (E' := (⟨44, [], [(0, .val (.int .i64 a0)), (5, .ref n 0), (8, .sl a1.length (fl Zf a1)), (9, .val (.int .i64 (a1.length : Int))), (10, .val (.int .i64 (IntKind.i64.wrap (s0_.1 + 1))))]⟩ : Env)) (O' := (Zu O n [some ⟨false, 110, 4, 1, [.row (n + 9) z1.2.1.length, .val (.int .i64 z1.1), .row (n + 10) z1.2.2.1.length, .row (n + 11) z1.2.2.2.length]⟩, none, none, none, none, none, none, none, none, some ⟨true, 69, 14, z1.2.1.length, fl Zf z1.2.1⟩, some ⟨true, 25, 3, z1.2.2.1.length, fl Zb z1.2.2.1⟩, some ⟨true, 25, 3, z1.2.2.2.length, fl Zb z1.2.2.2⟩, none])) (n' := (n + 13)) (Fit2.of (Zl hU rfl rfl ?_) (by omega)) ?_
   ·simp only [push_cast, seval, ↓reduceIte, Za, hN0, hN]
   refine Jt (k := 13) (k' := 5) hU [0, 4, 4, 4, 4, 4, 4, 4, 4, 1, 2, 3, 4] [0, 9, 10, 11, 0] rfl rfl rfl rfl ⟨rfl, rfl⟩ ?_
   simp only [push_cast, seval, ↓reduceIte, Za, hN0, hN]
  replace hs0_ := Zw c13 hs0_
  refine Xs ?_
  try simp only [Zn, Zj, ↓reduceIte, Nat.reduceEqDiff]
  have hs0_ := Option.some.inj hs0_; subst hs0_
  refine And.intro (fun h => by cases h) (And.intro rfl (Fit2.of (Zl hU rfl rfl ?_) (by omega)))
  simp only [push_cast, seval, ↓reduceIte, Za, hN0, hN]
 try simp only [Zn, Zj, ↓reduceIte, Nat.reduceEqDiff]
 refine Zm [5] [true, true, true, true, false] ?_
 simp only [push_cast, seval, ↓reduceIte]
 refine Zo ?_
 obtain ⟨y16, hy16, h⟩ := bC h
 refine Zc Zd [] ?_
 simp only [push_cast, seval, ↓reduceIte, Za, hN0, hN]
 refine (Kk (i0 := n) (j0_0 := (n + 2)) (j0_1 := (n + 3)) (j0_2 := (n + 1)) (by omega) (by omega) (by omega) (by omega) (by omega) (by omega) (by omega) (by omega) (by omega) (by omega) (by simp only [push_cast, seval, ↓reduceIte, Za, Y2, hN0, hN] <;> rfl) (by simp only [push_cast, seval, ↓reduceIte, Za, Y2, hN0, hN] <;> rfl) (by simp only [push_cast, seval, ↓reduceIte, Za, Y2, hN0, hN] <;> rfl) (by simp only [push_cast, seval, ↓reduceIte, Za, Y2, hN0, hN] <;> rfl) hy16).then ?_
 simp only [push_cast, seval, ↓reduceIte, Za, hN0, hN]
 refine Zm [5] [true, false, false, false, false, true, true, true] ?_
 simp only [push_cast, seval, ↓reduceIte]
 refine Zs [4] (Zc Zd [] ?_)
 simp only [push_cast, seval, ↓reduceIte, Za, hN0, hN]
 refine Z5 ?_
 try simp only [Zn, Zj]
 have h := Option.some.inj h; subst h
 refine Zy (.inr rfl) hU [.row (n + 7) y16.out.length] (by omega) ?_
 simp only [push_cast, seval, ↓reduceIte, Za, Try.results51, hN0, hN]
theorem Zk2 : ∀ k, (∀ {a0 : S_api_Edit} {r : S_api_Edit} {O : Objs} {n : Nat}, (Xe k).1 a0 = some r → GTo Try.prog 18 [.agg (Zg a0)] O n (.agg (Zg r)) O n) ∧ (∀ {a0 : Int} {a1 : (List S_api_Op)} {r : (List S_api_Op)} {O : Objs} {n : Nat}, (Xe k).2 a0 a1 = some r → GTo Try.prog 51 [.val (.int .i64 a0), .sl a1.length (fl Zf a1)] O n (.sl r.length (fl Zf r)) O n) := fun k => by
 induction k with
 | zero => exact ⟨@fun a0 r O n h => (nomatch (show (none : Option _) = some _ from h)), @fun a0 a1 r O n h => (nomatch (show (none : Option _) = some _ from h))⟩
 | succ k ih => exact ⟨@fun a0 r O n h => Zm9 (ih.1) (ih.2)  h, @fun a0 a1 r O n h => Zo6 (ih.1) (ih.2)  h⟩
theorem Zo1 {a0 : S_api_Edit} {r : S_api_Edit} {O : Objs} {n : Nat} (h : Zf2 a0 = some r) : GTo Try.prog 18 [.agg (Zg a0)] O n (.agg (Zg r)) O n := by
 obtain ⟨k, hk⟩ := Ur h
 exact (Zk2 k).1  hk
theorem Zh4 {a0 : S_api_Edit} {r : S_api_Edit} {O : Objs} {n : Nat} (h : Gs a0 = some r) : GTo Try.prog 28 [.agg (Zg a0)] O n (.agg (Zg r)) O n := by
 unfold Gs at h
 refine Xc Zd Try.call28 Try.func28 rfl (Nat.le_of_ble_eq_true rfl) (Nat.le_refl _) fun hU => ?_
 have hN0 : O n = none := hU.fresh _ (Nat.le_refl _)
 have hN : ∀ k, O (n + k) = none := fun k => hU.fresh _ (Nat.le_add_right _ _)
 show W _ _ _ _ ⟨6, [], [(0, .agg (Zg a0))]⟩ (Zu O n []) _
 refine Zs [1, 2] (Zc Zd [] ?_)
 simp only [push_cast, seval, ↓reduceIte, Za, hN0, hN]
 refine Zo ?_
 obtain ⟨y3, hy3, h⟩ := bC h
 obtain ⟨y4, hy4, h⟩ := bC h
 refine Zc Zd [] ?_
 simp only [push_cast, seval, ↓reduceIte, Za, hN0, hN]
 refine (Zmb hy3).then ?_
 simp only [push_cast, seval, ↓reduceIte, Za, hN0, hN]
 refine (Zo1 hy4).then ?_
 simp only [push_cast, seval, ↓reduceIte, Za, hN0, hN]
 refine Zm [2] [false, true] ?_
 simp only [push_cast, seval, ↓reduceIte]
 refine Z5 ?_
 try simp only [Zn, Zj]
 have h := Option.some.inj h; subst h
 refine Zy (.inr rfl) hU [.agg (Zg y4)] (by omega) ?_
 simp only [push_cast, seval, ↓reduceIte, Za, Try.results28, hN0, hN]
theorem Zef  {r : Bool} {O : Objs} {n : Nat} (h : J3 = some r) : GTo Try.prog 27 [] O n (.val (.bool r)) O n := by
 unfold J3 at h
 refine Xc Zd Try.call27 Try.func27 rfl (Nat.le_of_ble_eq_true rfl) (Nat.le_refl _) fun hU => ?_
 have hN0 : O n = none := hU.fresh _ (Nat.le_refl _)
 have hN : ∀ k, O (n + k) = none := fun k => hU.fresh _ (Nat.le_add_right _ _)
 show W _ _ _ _ ⟨32, [], []⟩ (Zu O n []) _
 refine Zs [] (Zc Zd [] ?_)
 simp only [push_cast, seval, ↓reduceIte, Za, hN0, hN]
 refine Zo ?_
 refine Zc Zd [] ?_
 simp only [push_cast, seval, ↓reduceIte, Za, hN0, hN]
 refine Zdp ⟨32, [], [(1, .row (n + 1) ([(⟨10, ([1] : List Int), ([] : (List S_api_Tree))⟩ : S_api_Tree)] : List S_api_Tree).length)]⟩ (Zu O n [none, some ⟨true, 25, 3, ([(⟨10, ([1] : List Int), ([] : (List S_api_Tree))⟩ : S_api_Tree)] : List S_api_Tree).length, fl Zb ([(⟨10, ([1] : List Int), ([] : (List S_api_Tree))⟩ : S_api_Tree)] : List S_api_Tree)⟩]) (Zl hU rfl rfl ?_) ?_
 ·simp only [push_cast, seval, ↓reduceIte, Za, hN0, hN]
 refine Zdp ⟨32, [], [(1, .sl ([(⟨10, ([1] : List Int), ([] : (List S_api_Tree))⟩ : S_api_Tree)] : List S_api_Tree).length (fl Zb ([(⟨10, ([1] : List Int), ([] : (List S_api_Tree))⟩ : S_api_Tree)] : List S_api_Tree)))]⟩ (Zu O n [none, none]) (Zl hU rfl rfl ?_) ?_
 ·simp only [push_cast, seval, ↓reduceIte, Za, hN0, hN]
 refine Zo ?_
 obtain ⟨y2, hy2, h⟩ := bC h
 refine Zc Zd [] ?_
 simp only [push_cast, seval, ↓reduceIte, Za, hN0, hN]
 refine GCalls.dropL (l' := [none, none, none]) hU rfl ?_ ((Zh4 hy2).then ?_)
 ·simp only [push_cast, seval, ↓reduceIte, Za, hN0, hN]
 simp only [push_cast, seval, ↓reduceIte, Za, hN0, hN]
 refine Zm [2] [false, false, false, true] ?_
 simp only [push_cast, seval, ↓reduceIte]
 obtain ⟨z7, hz7, h⟩ := bC h
 refine Y5 (E' := ⟨32, [], [(0, .val (.bool z7))]⟩) (O' := (Zu O n [none, none, none, none])) (n0 := (n + 4)) ?_ ?_
 ·rcases Bool.eq_false_or_eq_true ((y2.Ops.length : Int) == 2) with c16 | c16
  ·replace hz7 := Zx c16 hz7
   obtain ⟨x12, hx12, ax12, bx12, cx12, hz7⟩ := bE (f := Zf) Zc5 (fun _ => rfl) (by decide) hz7
   have g13 := Zjs (f := Zf) (sz := 14) Z0j (fun _ => rfl) (by decide) (by decide) hx12
   rcases Bool.eq_false_or_eq_true (x12.Kind == 1) with c17 | c17
   ·replace hz7 := Zx c17 hz7
    try rw [c17] at c16
    obtain ⟨x14, hx14, ax14, bx14, cx14, hz7⟩ := bE (f := Zf) Zc5 (fun _ => rfl) (by decide) hz7
    have g15 := Zjs (f := Zf) (sz := 14) Z0j (fun _ => rfl) (by decide) (by decide) hx14
    refine Zc Zd [some true, some true, some true, some true, some true, some true, some true, some true, some true, some true, some true, some true] ?_
    simp only [push_cast, Nat.reduceAdd, Nat.reduceSub, Nat.reduceMul, Nat.reduceLeDiff, Nat.reduceLT, Nat.reduceEqDiff, ↓reduceIte, reduceCtorEq, Int.reduceBEq, Int.reduceBNe, Nat.reduceBEq, Int.reduceLE, Int.reduceLT, Int.reduceEq, Int.reduceNe, Int.reduceNeg, Nat.reduceDiv, Nat.reduceMod, Nat.reducePow, Za, c16, ax12, bx12, cx12, g13, c17, ax14, bx14, cx14, g15, hN0, hN]
    have hz7 := Option.some.inj hz7; subst hz7
    refine And.intro rfl (Fit2.of (Zl hU rfl rfl ?_) (by omega))
    simp only [push_cast, Nat.reduceAdd, Nat.reduceSub, Nat.reduceMul, Nat.reduceLeDiff, Nat.reduceLT, Nat.reduceEqDiff, ↓reduceIte, reduceCtorEq, Int.reduceBEq, Int.reduceBNe, Nat.reduceBEq, Int.reduceLE, Int.reduceLT, Int.reduceEq, Int.reduceNe, Int.reduceNeg, Nat.reduceDiv, Nat.reduceMod, Nat.reducePow, Za, c16, ax12, bx12, cx12, g13, c17, ax14, bx14, cx14, g15, hN0, hN]
   replace hz7 := Zw c17 hz7
   try rw [c17] at c16
   refine Zc Zd [some true, some true, some true, some true, some true, some true, some false, some false, some false, some false, some false, some false] ?_
   simp only [push_cast, Nat.reduceAdd, Nat.reduceSub, Nat.reduceMul, Nat.reduceLeDiff, Nat.reduceLT, Nat.reduceEqDiff, ↓reduceIte, reduceCtorEq, Int.reduceBEq, Int.reduceBNe, Nat.reduceBEq, Int.reduceLE, Int.reduceLT, Int.reduceEq, Int.reduceNe, Int.reduceNeg, Nat.reduceDiv, Nat.reduceMod, Nat.reducePow, Za, c16, ax12, bx12, cx12, g13, c17, hN0, hN]
   have hz7 := Option.some.inj hz7; subst hz7
   refine And.intro rfl (Fit2.of (Zl hU rfl rfl ?_) (by omega))
   simp only [push_cast, Nat.reduceAdd, Nat.reduceSub, Nat.reduceMul, Nat.reduceLeDiff, Nat.reduceLT, Nat.reduceEqDiff, ↓reduceIte, reduceCtorEq, Int.reduceBEq, Int.reduceBNe, Nat.reduceBEq, Int.reduceLE, Int.reduceLT, Int.reduceEq, Int.reduceNe, Int.reduceNeg, Nat.reduceDiv, Nat.reduceMod, Nat.reducePow, Za, c16, ax12, bx12, cx12, g13, c17, hN0, hN]
  replace hz7 := Zw c16 hz7
  refine Zc Zd [some false, some false, some false, some false, some false, some false, some false, some false, some false, some false, some false, some false] ?_
  simp only [push_cast, seval, ↓reduceIte, Za, c16, hN0, hN]
  have hz7 := Option.some.inj hz7; subst hz7
  refine And.intro rfl (Fit2.of (Zl hU rfl rfl ?_) (by omega))
  simp only [push_cast, seval, ↓reduceIte, Za, c16, hN0, hN]
 refine Z5 ?_
 try simp only [Zn, Zj]
 have h := Option.some.inj h; subst h
 refine Zy (.inr rfl) hU [.val (.bool z7)] (by omega) ?_
 simp only [push_cast, seval, ↓reduceIte, Za, Try.results27, hN0, hN]
theorem Qp {a0 : (List Int)} {a1 : (List Int)} {r : Bool} {O : Objs} {n : Nat} (h : Xd a0 a1 = some r) : GTo Try.prog 115 [.sl a0.length (fl (eI .u64) a0), .sl a1.length (fl (eI .u64) a1)] O n (.val (.bool r)) O n := by
 unfold Xd at h
 refine Xc Zd Try.call115 Try.func115 rfl (Nat.le_of_ble_eq_true rfl) (Nat.le_refl _) fun hU => ?_
 have hN0 : O n = none := hU.fresh _ (Nat.le_refl _)
 have hN : ∀ k, O (n + k) = none := fun k => hU.fresh _ (Nat.le_add_right _ _)
 show W _ _ _ _ ⟨26, [], [(0, .sl a0.length (fl (eI .u64) a0)), (1, .sl a1.length (fl (eI .u64) a1))]⟩ (Zu O n []) _
 refine Zs [0, 1] (Zc Zd [] ?_)
 simp only [push_cast, seval, ↓reduceIte, Za, hN0, hN]
 refine Zo ?_
 refine Zs [0, 1, 10] (Zc Zd [] ?_)
 simp only [push_cast, seval, ↓reduceIte, Za, hN0, hN]
 refine Zt (t := ((a0.length : Int) != (a1.length : Int))) rfl (fun c8 => ?_) (fun c8 => ?_)
 ·replace h := Zx c8 h
  refine Zs [4] (Zc Zd [] ?_)
  simp only [push_cast, seval, ↓reduceIte, Za, hN0, hN]
  refine Z5 ?_
  try simp only [Zn, Zj]
  have h := Option.some.inj h; subst h
  refine Zy (.inr rfl) hU [.val (.bool false)] (by omega) ?_
  simp only [push_cast, seval, ↓reduceIte, Za, Try.results115, hN0, hN]
 replace h := Zw c8 h
 refine Z0 ?_
 try simp only [Zn, Zj]
 refine Zm [0, 1] [] ?_
 simp only [push_cast, seval, ↓reduceIte]
 refine Zo ?_
 refine Zs [0, 1, 12, 13] (Zc Zd [] ?_)
 simp only [push_cast, seval, ↓reduceIte, Za, hN0, hN]
 refine Zm [0, 1, 12, 13] [] ?_
 simp only [push_cast, seval, ↓reduceIte]
 obtain ⟨z7, hz7, h⟩ := bC h
 refine Zcd (J := (Q2 (fun z7 => JR n (⟨26, [], [(4, .val (.bool false))]⟩ : Env) (Zu O n []) n) (fun z7 => JX 0 n (⟨26, [], []⟩ : Env) (Zu O n []) n))) (z := z7) ?_ fun hw => ?_
 ·refine Y7 hz7 (fun s0_ => ⟨26, [], [(0, .sl a0.length (fl (eI .u64) a0)), (1, .sl a1.length (fl (eI .u64) a1)), (12, .val (.int .i64 (a0.length : Int))), (13, .val (.int .i64 s0_))]⟩) (fun s0_ => (Zu O n [])) (Q2 (fun z7 => JR n (⟨26, [], [(4, .val (.bool false))]⟩ : Env) (Zu O n []) n) (fun z7 => JX 0 n (⟨26, [], []⟩ : Env) (Zu O n []) n)) ?_
  intro s0_ x0_ hs0_
  unfold Xi at hs0_
  try dsimp only
  refine Zs [0, 1, 12, 13, 14] (Zc Zd [] ?_)
  simp only [push_cast, seval, ↓reduceIte, Za, hN0, hN]
  refine Zo ?_
  refine Zt (t := (decide (s0_ < (a0.length : Int)))) rfl (fun c6 => ?_) (fun c6 => ?_)
  ·replace hs0_ := Zx c6 hs0_
   refine Z0 ?_
   try simp only [Zn, Zj]
   refine Zm [0, 1, 12, 13] [] ?_
   simp only [push_cast, seval, ↓reduceIte]
   refine Zo ?_
   refine Ys ?_
   refine Zs [0, 1, 5, 12, 13] (Zc Zd [] ?_)
   simp only [push_cast, seval, ↓reduceIte, Za, hN0, hN]
   obtain ⟨x3, hx3, ax3, bx3, cx3, hs0_⟩ := bE (f := (eI .u64)) Zfg (fun _ => rfl) (by decide) hs0_
   obtain ⟨x4, hx4, ax4, bx4, cx4, hs0_⟩ := bE (f := (eI .u64)) Zfg (fun _ => rfl) (by decide) hs0_
   refine Zs [0, 1, 12, 13, 24] (Qz Zd (by kernel_rfl) [] (by kernel_rfl) ?_)
   simp only [push_cast, Nat.reduceAdd, Nat.reduceSub, Nat.reduceMul, Nat.reduceLeDiff, Nat.reduceLT, Nat.reduceEqDiff, ↓reduceIte, reduceCtorEq, Int.reduceBEq, Int.reduceBNe, Nat.reduceBEq, Int.reduceLE, Int.reduceLT, Int.reduceEq, Int.reduceNe, Int.reduceNeg, Nat.reduceDiv, Nat.reduceMod, Nat.reducePow, Za, ax3, bx3, cx3, ax4, bx4, cx4, hN0, hN]
   refine Zt (t := (x3 != x4)) rfl (fun c5 => ?_) (fun c5 => ?_)
   ·replace hs0_ := Zx c5 hs0_
    refine Zs [4] (Zc Zd [] ?_)
    simp only [push_cast, seval, ↓reduceIte, Za, hN0, hN]
    refine Z5 ?_
    try simp only [Zn, Zj]
    have hs0_ := Option.some.inj hs0_; subst hs0_
    refine And.intro (fun h => by cases h) (And.intro rfl (Fit2.of (Zl hU rfl rfl ?_) (by omega)))
    simp only [push_cast, seval, ↓reduceIte, Za, hN0, hN]
   replace hs0_ := Zw c5 hs0_
   refine Z0 ?_
   try simp only [Zn, Zj]
   refine Zm [0, 1, 12, 13] [] ?_
   simp only [push_cast, seval, ↓reduceIte]
   refine Zc Zd [] ?_
   simp only [push_cast, seval, ↓reduceIte, Za, hN0, hN]
   have hs0_ := Option.some.inj hs0_; subst hs0_
   refine And.intro rfl (Fit2.of (Zl hU rfl rfl ?_) (by omega))
   simp only [push_cast, seval, ↓reduceIte, Za, hN0, hN]
  replace hs0_ := Zw c6 hs0_
  refine Xs ?_
  try simp only [Zn, Zj, ↓reduceIte, Nat.reduceEqDiff]
  have hs0_ := Option.some.inj hs0_; subst hs0_
  refine And.intro (fun h => by cases h) (And.intro rfl (Fit2.of (Zl hU rfl rfl ?_) (by omega)))
  simp only [push_cast, seval, ↓reduceIte, Za, hN0, hN]
 rcases z7 with z7 | z7
 ·dsimp only [Q2] at hw h
  refine Vz hw ?_
  try simp only [Zn, Zj, ↓reduceIte, Nat.reduceEqDiff]
  have h := Option.some.inj h; subst h
  refine Zy (.inr rfl) hU [.val (.bool false)] (by omega) ?_
  simp only [push_cast, seval, ↓reduceIte, Za, Try.results115, hN0, hN]
 dsimp only [Q2] at hw h
 refine Yv hw ?_
 try simp only [Zn, Zj, ↓reduceIte, Nat.reduceEqDiff]
 refine Zm [] [] ?_
 simp only [push_cast, seval, ↓reduceIte]
 refine Zs [4] (Zc Zd [] ?_)
 simp only [push_cast, seval, ↓reduceIte, Za, hN0, hN]
 refine Z5 ?_
 try simp only [Zn, Zj]
 have h := Option.some.inj h; subst h
 refine Zy (.inr rfl) hU [.val (.bool true)] (by omega) ?_
 simp only [push_cast, seval, ↓reduceIte, Za, Try.results115, hN0, hN]
theorem Zo7 {Kc : (S_api_Tree → S_api_Tree → Option Bool)} {Zv : ((List S_api_Tree) → (List S_api_Tree) → Option Bool)} (Zhe : ∀ {a0 : S_api_Tree} {a1 : S_api_Tree} {r : Bool} {O : Objs} {n : Nat}, Kc a0 a1 = some r → GTo Try.prog 93 [.agg (Ze a0), .agg (Ze a1)] O n (.val (.bool r)) O n) (Yx : ∀ {a0 : (List S_api_Tree)} {a1 : (List S_api_Tree)} {r : Bool} {O : Objs} {n : Nat}, Zv a0 a1 = some r → GTo Try.prog 116 [.sl a0.length (fl Zb a0), .sl a1.length (fl Zb a1), .fn 93 0 []] O n (.val (.bool r)) O n) {a0 : S_api_Tree} {a1 : S_api_Tree} {r : Bool} {O : Objs} {n : Nat} (h : Zce Kc Zv a0 a1 = some r) : GTo Try.prog 93 [.agg (Ze a0), .agg (Ze a1)] O n (.val (.bool r)) O n := by
 unfold Zce at h
 refine Xc Zd Try.call93 Try.func93 rfl (Nat.le_of_ble_eq_true rfl) (Nat.le_refl _) fun hU => ?_
 have hN0 : O n = none := hU.fresh _ (Nat.le_refl _)
 have hN : ∀ k, O (n + k) = none := fun k => hU.fresh _ (Nat.le_add_right _ _)
 show W _ _ _ _ ⟨44, [], [(0, .agg (Ze a0)), (1, .agg (Ze a1))]⟩ (Zu O n []) _
 refine Zs [2, 3] (Zc Zd [] ?_)
 simp only [push_cast, seval, ↓reduceIte, Za, hN0, hN]
 refine Zo ?_
 refine Zs [2, 3, 9] (Zc Zd [] ?_)
 simp only [push_cast, seval, ↓reduceIte, Za, hN0, hN]
 refine Zt (t := (a0.Kind != a1.Kind)) rfl (fun c31 => ?_) (fun c31 => ?_)
 ·replace h := Zx c31 h
  refine Zs [4] (Zc Zd [] ?_)
  simp only [push_cast, seval, ↓reduceIte, Za, hN0, hN]
  refine Z5 ?_
  try simp only [Zn, Zj]
  have h := Option.some.inj h; subst h
  refine Zy (.inr rfl) hU [.val (.bool false)] (by omega) ?_
  simp only [push_cast, seval, ↓reduceIte, Za, Try.results93, hN0, hN]
 replace h := Zw c31 h
 refine Z0 ?_
 try simp only [Zn, Zj]
 refine Zm [2, 3] [true, true] ?_
 simp only [push_cast, seval, ↓reduceIte]
 refine Zo ?_
 refine Zs [2, 3, 11] (Zc Zd [] ?_)
 simp only [push_cast, seval, ↓reduceIte, Za, hN0, hN]
 refine Ys ?_
 refine Zs [2, 3, 11, 12] (Zc Zd [] ?_)
 simp only [push_cast, seval, ↓reduceIte, Za, hN0, hN]
 refine Zt (t := (a0.Kind == 0)) rfl (fun c30 => ?_) (fun c30 => ?_)
 ·replace h := Zx c30 h
  refine Zs [4] (Zc Zd [] ?_)
  simp only [push_cast, seval, ↓reduceIte, Za, hN0, hN]
  refine Z5 ?_
  try simp only [Zn, Zj]
  have h := Option.some.inj h; subst h
  refine Zy (.inr rfl) hU [.val (.bool true)] (by omega) ?_
  simp only [push_cast, seval, ↓reduceIte, Za, Try.results93, hN0, hN]
 replace h := Zw c30 h
 refine Zs [2, 3, 14] (Zc Zd [] ?_)
 simp only [push_cast, seval, ↓reduceIte, Za, hN0, hN]
 refine Zt (t := (a0.Kind == 1)) rfl (fun c29 => ?_) (fun c29 => ?_)
 ·replace h := Zx c29 h
  obtain ⟨z7, hz7, h⟩ := bC h
  refine Y5 (E' := ⟨44, [], [(4, .val (.bool z7))]⟩) (O' := (Zu O n [none, none])) (n0 := (n + 2)) ?_ ?_
  ·obtain ⟨y14, hy14, hz7⟩ := bC hz7
   obtain ⟨y15, hy15, hz7⟩ := bC hz7
   obtain ⟨y16, hy16, hz7⟩ := bC hz7
   rcases Bool.eq_false_or_eq_true y16 with c20 | c20
   ·replace hz7 := Zx c20 hz7
    obtain ⟨y17, hy17, hz7⟩ := bC hz7
    obtain ⟨y18, hy18, hz7⟩ := bC hz7
    obtain ⟨y19, hy19, hz7⟩ := bC hz7
    refine Qz Zd (by kernel_rfl) [some true, some true, some true, some true, some true, some true, some true] (by kernel_rfl) ?_
    simp only [push_cast, seval, ↓reduceIte, Za, c20, hN0, hN]
    refine PCall.of (Uc hy14) ?_
    simp only [push_cast, seval, ↓reduceIte, Za, c20, hN0, hN]
    refine PCall.of (Uc hy15) ?_
    simp only [push_cast, seval, ↓reduceIte, Za, c20, hN0, hN]
    refine PCall.of (Qp hy16) ?_
    simp only [push_cast, seval, ↓reduceIte, Za, c20, hN0, hN]
    refine PCall.of (Zdd hy17) ?_
    simp only [push_cast, seval, ↓reduceIte, Za, c20, hN0, hN]
    refine PCall.of (Zdd hy18) ?_
    simp only [push_cast, seval, ↓reduceIte, Za, c20, hN0, hN]
    refine PCall.of (Yx hy19) ?_
    simp only [push_cast, seval, ↓reduceIte, Za, c20, hN0, hN]
    have hz7 := Option.some.inj hz7; subst hz7
    refine And.intro rfl (Fit2.of (Zl hU rfl rfl ?_) (by omega))
    simp only [push_cast, seval, ↓reduceIte, Za, c20, hN0, hN]
   replace hz7 := Zw c20 hz7
   refine Qz Zd (by kernel_rfl) [some false, some false, some false, some false, some false, some false, some false] (by kernel_rfl) ?_
   simp only [push_cast, seval, ↓reduceIte, Za, c20, hN0, hN]
   refine PCall.of (Uc hy14) ?_
   simp only [push_cast, seval, ↓reduceIte, Za, c20, hN0, hN]
   refine PCall.of (Uc hy15) ?_
   simp only [push_cast, seval, ↓reduceIte, Za, c20, hN0, hN]
   refine PCall.of (Qp hy16) ?_
   simp only [push_cast, seval, ↓reduceIte, Za, c20, hN0, hN]
   have hz7 := Option.some.inj hz7; subst hz7
   refine And.intro rfl (Fit2.of (Zl hU rfl rfl ?_) (by omega))
   simp only [push_cast, seval, ↓reduceIte, Za, c20, hN0, hN]
  refine Z5 ?_
  try simp only [Zn, Zj]
  have h := Option.some.inj h; subst h
  refine Zy (.inr rfl) hU [.val (.bool z7)] (by omega) ?_
  simp only [push_cast, seval, ↓reduceIte, Za, Try.results93, hN0, hN]
 replace h := Zw c29 h
 refine Z0 ?_
 try simp only [Zn, Zj]
 refine Zm [2, 3] [true, true] ?_
 simp only [push_cast, seval, ↓reduceIte]
 obtain ⟨z23, hz23, h⟩ := bC h
 refine Y5 (E' := ⟨44, [], [(4, .val (.bool z23))]⟩) (O' := (Zu O n [none, none])) (n0 := (n + 2)) ?_ ?_
 ·obtain ⟨y26, hy26, hz23⟩ := bC hz23
  rcases Bool.eq_false_or_eq_true y26 with c28 | c28
  ·replace hz23 := Zx c28 hz23
   obtain ⟨y27, hy27, hz23⟩ := bC hz23
   refine Zc Zd [some true, some true, some true, some true, some true] ?_
   simp only [push_cast, seval, ↓reduceIte, Za, c28, hN0, hN]
   refine (Qp hy26).then ?_
   simp only [push_cast, seval, ↓reduceIte, Za, c28, hN0, hN]
   refine (Yx hy27).then ?_
   simp only [push_cast, seval, ↓reduceIte, Za, c28, hN0, hN]
   have hz23 := Option.some.inj hz23; subst hz23
   refine And.intro rfl (Fit2.of (Zl hU rfl rfl ?_) (by omega))
   simp only [push_cast, seval, ↓reduceIte, Za, c28, hN0, hN]
  replace hz23 := Zw c28 hz23
  refine Zc Zd [some false, some false, some false, some false, some false] ?_
  simp only [push_cast, seval, ↓reduceIte, Za, c28, hN0, hN]
  refine (Qp hy26).then ?_
  simp only [push_cast, seval, ↓reduceIte, Za, c28, hN0, hN]
  have hz23 := Option.some.inj hz23; subst hz23
  refine And.intro rfl (Fit2.of (Zl hU rfl rfl ?_) (by omega))
  simp only [push_cast, seval, ↓reduceIte, Za, c28, hN0, hN]
 refine Z5 ?_
 try simp only [Zn, Zj]
 have h := Option.some.inj h; subst h
 refine Zy (.inr rfl) hU [.val (.bool z23)] (by omega) ?_
 simp only [push_cast, seval, ↓reduceIte, Za, Try.results93, hN0, hN]
theorem Jq {Kc : (S_api_Tree → S_api_Tree → Option Bool)} {Zv : ((List S_api_Tree) → (List S_api_Tree) → Option Bool)} (Zhe : ∀ {a0 : S_api_Tree} {a1 : S_api_Tree} {r : Bool} {O : Objs} {n : Nat}, Kc a0 a1 = some r → GTo Try.prog 93 [.agg (Ze a0), .agg (Ze a1)] O n (.val (.bool r)) O n) (Yx : ∀ {a0 : (List S_api_Tree)} {a1 : (List S_api_Tree)} {r : Bool} {O : Objs} {n : Nat}, Zv a0 a1 = some r → GTo Try.prog 116 [.sl a0.length (fl Zb a0), .sl a1.length (fl Zb a1), .fn 93 0 []] O n (.val (.bool r)) O n) {a0 : (List S_api_Tree)} {a1 : (List S_api_Tree)} {r : Bool} {O : Objs} {n : Nat} (h : Z7 Kc Zv a0 a1 = some r) : GTo Try.prog 116 [.sl a0.length (fl Zb a0), .sl a1.length (fl Zb a1), .fn 93 0 []] O n (.val (.bool r)) O n := by
 unfold Z7 at h
 refine Xc Zd Try.call116 Try.func116 rfl (Nat.le_of_ble_eq_true rfl) (Nat.le_refl _) fun hU => ?_
 have hN0 : O n = none := hU.fresh _ (Nat.le_refl _)
 have hN : ∀ k, O (n + k) = none := fun k => hU.fresh _ (Nat.le_add_right _ _)
 show W _ _ _ _ ⟨32, [], [(0, .sl a0.length (fl Zb a0)), (1, .sl a1.length (fl Zb a1)), (2, .fn 93 0 [])]⟩ (Zu O n []) _
 refine Zs [0, 1, 2] (Zc Zd [] ?_)
 simp only [push_cast, seval, ↓reduceIte, Za, hN0, hN]
 refine Zo ?_
 refine Zs [0, 1, 2, 14] (Zc Zd [] ?_)
 simp only [push_cast, seval, ↓reduceIte, Za, hN0, hN]
 refine Zt (t := ((a0.length : Int) != (a1.length : Int))) rfl (fun c10 => ?_) (fun c10 => ?_)
 ·replace h := Zx c10 h
  refine Zs [6] (Zc Zd [] ?_)
  simp only [push_cast, seval, ↓reduceIte, Za, hN0, hN]
  refine Z5 ?_
  try simp only [Zn, Zj]
  have h := Option.some.inj h; subst h
  refine Zy (.inr rfl) hU [.val (.bool false)] (by omega) ?_
  simp only [push_cast, seval, ↓reduceIte, Za, Try.results116, hN0, hN]
 replace h := Zw c10 h
 refine Z0 ?_
 try simp only [Zn, Zj]
 refine Zm [0, 1, 2] [] ?_
 simp only [push_cast, seval, ↓reduceIte]
 refine Zo ?_
 refine Zs [1, 2, 15, 16, 17] (Zc Zd [] ?_)
 simp only [push_cast, seval, ↓reduceIte, Za, hN0, hN]
 refine Zm [1, 2, 15, 16, 17] [] ?_
 simp only [push_cast, seval, ↓reduceIte]
 obtain ⟨z9, hz9, h⟩ := bC h
 refine Zcd (J := (Q2 (fun z9 => JR n (⟨32, [], [(6, .val (.bool false))]⟩ : Env) (Zu O n []) n) (fun z9 => JX 0 n (⟨32, [], []⟩ : Env) (Zu O n []) n))) (z := z9) ?_ fun hw => ?_
 ·refine Y7 hz9 (fun s0_ => ⟨32, [], [(1, .sl a1.length (fl Zb a1)), (2, .fn 93 0 []), (15, .sl a0.length (fl Zb a0)), (16, .val (.int .i64 (a0.length : Int))), (17, .val (.int .i64 s0_))]⟩) (fun s0_ => (Zu O n [])) (Q2 (fun z9 => JR n (⟨32, [], [(6, .val (.bool false))]⟩ : Env) (Zu O n []) n) (fun z9 => JX 0 n (⟨32, [], []⟩ : Env) (Zu O n []) n)) ?_
  intro s0_ x0_ hs0_
  unfold Z6 at hs0_
  try dsimp only
  refine Zs [1, 2, 15, 16, 17, 18] (Zc Zd [] ?_)
  simp only [push_cast, seval, ↓reduceIte, Za, hN0, hN]
  refine Zo ?_
  refine Zt (t := (decide (s0_ < (a0.length : Int)))) rfl (fun c8 => ?_) (fun c8 => ?_)
  ·replace hs0_ := Zx c8 hs0_
   refine Z0 ?_
   try simp only [Zn, Zj]
   refine Zm [1, 2, 15, 16, 17] [] ?_
   simp only [push_cast, seval, ↓reduceIte]
   refine Zo ?_
   refine Ys ?_
   refine Zo ?_
   obtain ⟨x2, hx2, ax2, bx2, cx2, hs0_⟩ := bE (f := Zb) Vs (fun _ => rfl) (by decide) hs0_
   refine Zc Zd [] ?_
   simp only [push_cast, Nat.reduceAdd, Nat.reduceSub, Nat.reduceMul, Nat.reduceLeDiff, Nat.reduceLT, Nat.reduceEqDiff, ↓reduceIte, reduceCtorEq, Int.reduceBEq, Int.reduceBNe, Nat.reduceBEq, Int.reduceLE, Int.reduceLT, Int.reduceEq, Int.reduceNe, Int.reduceNeg, Nat.reduceDiv, Nat.reduceMod, Nat.reducePow, Za, ax2, bx2, cx2, hN0, hN]
   refine Zm [1, 2, 7, 8, 15, 16, 17] [true] ?_
   simp only [push_cast, seval, ↓reduceIte]
   refine Zo ?_
   obtain ⟨x4, hx4, ax4, bx4, cx4, hs0_⟩ := bE (f := Zb) Vs (fun _ => rfl) (by decide) hs0_
   refine Zc Zd [] ?_
   simp only [push_cast, Nat.reduceAdd, Nat.reduceSub, Nat.reduceMul, Nat.reduceLeDiff, Nat.reduceLT, Nat.reduceEqDiff, ↓reduceIte, reduceCtorEq, Int.reduceBEq, Int.reduceBNe, Nat.reduceBEq, Int.reduceLE, Int.reduceLT, Int.reduceEq, Int.reduceNe, Int.reduceNeg, Nat.reduceDiv, Nat.reduceMod, Nat.reducePow, Za, ax4, bx4, cx4, hN0, hN]
   refine Zm [1, 2, 8, 9, 15, 16, 17] [true, true] ?_
   simp only [push_cast, seval, ↓reduceIte]
   refine Zo ?_
   obtain ⟨y6, hy6, hs0_⟩ := bC hs0_
   refine Zc Zd [] ?_
   simp only [push_cast, seval, ↓reduceIte, Za, hN0, hN]
   refine (Zhe hy6).then ?_
   simp only [push_cast, seval, ↓reduceIte, Za, hN0, hN]
   refine Zm [1, 2, 15, 16, 17, 30] [false, false] ?_
   simp only [push_cast, seval, ↓reduceIte]
   refine Zt (t := (!y6)) rfl (fun c7 => ?_) (fun c7 => ?_)
   ·replace hs0_ := Zx c7 hs0_
    refine Zs [6] (Zc Zd [] ?_)
    simp only [push_cast, seval, ↓reduceIte, Za, hN0, hN]
    refine Z5 ?_
    try simp only [Zn, Zj]
    have hs0_ := Option.some.inj hs0_; subst hs0_
    refine And.intro (fun h => by cases h) (And.intro rfl (Fit2.of (Zl hU rfl rfl ?_) (by omega)))
    simp only [push_cast, seval, ↓reduceIte, Za, hN0, hN]
   replace hs0_ := Zw c7 hs0_
   refine Z0 ?_
   try simp only [Zn, Zj]
   refine Zm [1, 2, 15, 16, 17] [false, false] ?_
   simp only [push_cast, seval, ↓reduceIte]
   refine Zc Zd [] ?_
   simp only [push_cast, seval, ↓reduceIte, Za, hN0, hN]
   have hs0_ := Option.some.inj hs0_; subst hs0_
   refine And.intro rfl (Fit2.of (Zl hU rfl rfl ?_) (by omega))
   simp only [push_cast, seval, ↓reduceIte, Za, hN0, hN]
  replace hs0_ := Zw c8 hs0_
  refine Xs ?_
  try simp only [Zn, Zj, ↓reduceIte, Nat.reduceEqDiff]
  have hs0_ := Option.some.inj hs0_; subst hs0_
  refine And.intro (fun h => by cases h) (And.intro rfl (Fit2.of (Zl hU rfl rfl ?_) (by omega)))
  simp only [push_cast, seval, ↓reduceIte, Za, hN0, hN]
 rcases z9 with z9 | z9
 ·dsimp only [Q2] at hw h
  refine Vz hw ?_
  try simp only [Zn, Zj, ↓reduceIte, Nat.reduceEqDiff]
  have h := Option.some.inj h; subst h
  refine Zy (.inr rfl) hU [.val (.bool false)] (by omega) ?_
  simp only [push_cast, seval, ↓reduceIte, Za, Try.results116, hN0, hN]
 dsimp only [Q2] at hw h
 refine Yv hw ?_
 try simp only [Zn, Zj, ↓reduceIte, Nat.reduceEqDiff]
 refine Zm [] [] ?_
 simp only [push_cast, seval, ↓reduceIte]
 refine Zs [6] (Zc Zd [] ?_)
 simp only [push_cast, seval, ↓reduceIte, Za, hN0, hN]
 refine Z5 ?_
 try simp only [Zn, Zj]
 have h := Option.some.inj h; subst h
 refine Zy (.inr rfl) hU [.val (.bool true)] (by omega) ?_
 simp only [push_cast, seval, ↓reduceIte, Za, Try.results116, hN0, hN]
theorem Zgk : ∀ k, (∀ {a0 : S_api_Tree} {a1 : S_api_Tree} {r : Bool} {O : Objs} {n : Nat}, (Xa k).1 a0 a1 = some r → GTo Try.prog 93 [.agg (Ze a0), .agg (Ze a1)] O n (.val (.bool r)) O n) ∧ (∀ {a0 : (List S_api_Tree)} {a1 : (List S_api_Tree)} {r : Bool} {O : Objs} {n : Nat}, (Xa k).2 a0 a1 = some r → GTo Try.prog 116 [.sl a0.length (fl Zb a0), .sl a1.length (fl Zb a1), .fn 93 0 []] O n (.val (.bool r)) O n) := fun k => by
 induction k with
 | zero => exact ⟨@fun a0 a1 r O n h => (nomatch (show (none : Option _) = some _ from h)), @fun a0 a1 r O n h => (nomatch (show (none : Option _) = some _ from h))⟩
 | succ k ih => exact ⟨@fun a0 a1 r O n h => Zo7 (ih.1) (ih.2)  h, @fun a0 a1 r O n h => Jq (ih.1) (ih.2)  h⟩
theorem Zqx {a0 : S_api_Tree} {a1 : S_api_Tree} {r : Bool} {O : Objs} {n : Nat} (h : Zgz a0 a1 = some r) : GTo Try.prog 93 [.agg (Ze a0), .agg (Ze a1)] O n (.val (.bool r)) O n := by
 obtain ⟨k, hk⟩ := Ur h
 exact (Zgk k).1  hk
theorem Jy {a0 : (List S_api_Tree)} {a1 : (List S_api_Tree)} {r : Bool} {O : Objs} {n : Nat} (h : Yz a0 a1 = some r) : GTo Try.prog 116 [.sl a0.length (fl Zb a0), .sl a1.length (fl Zb a1), .fn 93 0 []] O n (.val (.bool r)) O n := by
 obtain ⟨k, hk⟩ := Ur h
 exact (Zgk k).2  hk
theorem U1 {a0 r : List Int} {O : Objs} {n : Nat} (h : Kx a0 = some r) : GTo Try.prog 117 [.sl a0.length (fl (eI .u64) a0)] O n (.row n r.length) (Zu O n [some ⟨true, 56, 1, r.length, fl (eI .u64) r⟩]) (n + 1) := by
 have h1 := Zn5 h
 have h2 := Zn6 h
 have h3 := Zkp h
 rw [List.nil_append] at h3
 subst h3
 simp only [List.length_nil, Nat.zero_add] at h1 h2
 clear h
 refine Xc Zd Try.call117 Try.func117 rfl (Nat.le_of_ble_eq_true rfl) (by omega) fun hU => ?_
 have hN0 : O n = none := hU.fresh _ (Nat.le_refl _)
 have hN : ∀ k, O (n + k) = none := fun k => hU.fresh _ (Nat.le_add_right _ _)
 show W _ _ _ _ ⟨8, [], [(0, .sl r.length (fl (eI .u64) r))]⟩ (Zu O n []) _
 refine Zs [0] (Zc Zd [] ?_)
 simp only [push_cast, seval, ↓reduceIte, Za, hN0, hN]
 refine Zwh 0 r.length (fl (eI .u64) r) rfl (Nat.le_of_ble_eq_true rfl) (Yk J8 _) fun A c hA => ?_
 refine Zs [0, 4] (Zc Zd [] ?_)
 simp only [push_cast, seval, ↓reduceIte, Za, hN0, hN]
 cases A with
 | none =>
  obtain rfl : r = [] := List.eq_nil_of_length_eq_zero (hA rfl)
  refine Zt (t := true) rfl (fun _ => ?_) (fun hc => by cases hc)
  refine Zs [2] (Zc Zd [] ?_)
  simp only [push_cast, seval, ↓reduceIte, Za, hN0, hN]
  refine Z5 ?_
  try simp only [Zn, Zj]
  refine Zoi (k := 1) (L3 := [some ⟨true, 56, 1, 0, []⟩]) (E2 := ⟨8, [], [(2, .row n 0), (2, .val (.slice none 0 0))]⟩) (n3 := (n + 1)) (.inr rfl) hU rfl [.row n 0] ?_ ?_
  ·have ha := Zio (ba := n) (E := ⟨8, [], [(2, .val (.slice none 0 0))]⟩) (O := (Zu O n [])) (n := n) 2 56 1 rfl (by omega)
   simp only [Yl] at ha
   exact ha
  simp only [push_cast, seval, ↓reduceIte, Za, Try.results117, hN0, hN]
 | some A =>
  refine Zt (t := false) rfl (fun hc => by cases hc) (fun _ => ?_)
  refine Z0 ?_
  try simp only [Zn, Zj]
  refine And.intro rfl (And.intro (Nat.le_of_ble_eq_true rfl) ?_)
  refine Zo ?_
  refine Zc Zd [] ?_
  simp only [push_cast, seval, ↓reduceIte, Za, h1, h2, hN0, hN]
  refine Z5 ?_
  try simp only [Zn, Zj]
  refine Zoh (.inr rfl) hU rfl [.row n r.length] (by omega) ?_
  simp only [push_cast, seval, ↓reduceIte, Za, Try.results117, hN0, hN]
theorem Jd {a0 r : List S_api_Tree} {O : Objs} {n : Nat} (h : Jj a0 = some r) : GTo Try.prog 118 [.sl a0.length (fl Zb a0)] O n (.row n r.length) (Zu O n [some ⟨true, 25, 3, r.length, fl Zb r⟩]) (n + 1) := by
 have h1 := Zn5 h
 have h2 := Zn6 h
 have h3 := Zkp h
 rw [List.nil_append] at h3
 subst h3
 simp only [List.length_nil, Nat.zero_add] at h1 h2
 clear h
 refine Xc Zd Try.call118 Try.func118 rfl (Nat.le_of_ble_eq_true rfl) (by omega) fun hU => ?_
 have hN0 : O n = none := hU.fresh _ (Nat.le_refl _)
 have hN : ∀ k, O (n + k) = none := fun k => hU.fresh _ (Nat.le_add_right _ _)
 show W _ _ _ _ ⟨8, [], [(0, .sl r.length (fl Zb r))]⟩ (Zu O n []) _
 refine Zs [0] (Zc Zd [] ?_)
 simp only [push_cast, seval, ↓reduceIte, Za, hN0, hN]
 refine Zwh 0 r.length (fl Zb r) rfl (Nat.le_of_ble_eq_true rfl) (Yk Y4 _) fun A c hA => ?_
 refine Zs [0, 4] (Zc Zd [] ?_)
 simp only [push_cast, seval, ↓reduceIte, Za, hN0, hN]
 cases A with
 | none =>
  obtain rfl : r = [] := List.eq_nil_of_length_eq_zero (hA rfl)
  refine Zt (t := true) rfl (fun _ => ?_) (fun hc => by cases hc)
  refine Zs [2] (Zc Zd [] ?_)
  simp only [push_cast, seval, ↓reduceIte, Za, hN0, hN]
  refine Z5 ?_
  try simp only [Zn, Zj]
  refine Zoi (k := 1) (L3 := [some ⟨true, 25, 3, 0, []⟩]) (E2 := ⟨8, [], [(2, .row n 0), (2, .val (.slice none 0 0))]⟩) (n3 := (n + 1)) (.inr rfl) hU rfl [.row n 0] ?_ ?_
  ·have ha := Zio (ba := n) (E := ⟨8, [], [(2, .val (.slice none 0 0))]⟩) (O := (Zu O n [])) (n := n) 2 25 3 rfl (by omega)
   simp only [Yl] at ha
   exact ha
  simp only [push_cast, seval, ↓reduceIte, Za, Try.results118, hN0, hN]
 | some A =>
  refine Zt (t := false) rfl (fun hc => by cases hc) (fun _ => ?_)
  refine Z0 ?_
  try simp only [Zn, Zj]
  refine And.intro rfl (And.intro (Nat.le_of_ble_eq_true rfl) ?_)
  refine Zo ?_
  refine Zc Zd [] ?_
  simp only [push_cast, seval, ↓reduceIte, Za, h1, h2, hN0, hN]
  refine Z5 ?_
  try simp only [Zn, Zj]
  refine Zoh (.inr rfl) hU rfl [.row n r.length] (by omega) ?_
  simp only [push_cast, seval, ↓reduceIte, Za, Try.results118, hN0, hN]
theorem Zs0 {a0 : S_api_Tree} {a1 : Int} {r : Int} {O : Objs} {n : Nat} (h : Zd2 a0 a1 = some r) : GTo Try.prog 112 [.agg (Ze a0), .val (.int .i64 a1)] O n (.val (.int .u64 r)) O n := by
 unfold Zd2 at h
 refine Xc Zd Try.call112 Try.func112 rfl (Nat.le_of_ble_eq_true rfl) (Nat.le_refl _) fun hU => ?_
 have hN0 : O n = none := hU.fresh _ (Nat.le_refl _)
 have hN : ∀ k, O (n + k) = none := fun k => hU.fresh _ (Nat.le_add_right _ _)
 show W _ _ _ _ ⟨19, [], [(0, .agg (Ze a0)), (1, .val (.int .i64 a1))]⟩ (Zu O n []) _
 refine Zs [1, 2] (Zc Zd [] ?_)
 simp only [push_cast, seval, ↓reduceIte, Za, hN0, hN]
 refine Zo ?_
 refine Zs [1, 2, 13] (Zc Zd [none, none, none, none, none] ?_)
 simp only [push_cast, seval, ↓reduceIte, Za, hN0, hN]
 repeat (with_reducible refine And.intro (by first | (intro h0; simp only [h0, and_self]; done) | (intro h0; simp only [h0, Bool.not_false, Bool.not_true, Bool.true_and, Bool.and_true, true_and, and_true, and_self, imp_self, implies_true, bne_iff_ne, ne_eq, beq_iff_eq]; done) | (intros; simp_all; done) | exact True.intro) ?_)
 refine Zt (t := (cond (decide (a1 < 0)) true (decide ((a0.Words.length : Int) ≤ a1)))) rfl (fun c3 => ?_) (fun c3 => ?_)
 ·replace h := Zx c3 h
  refine Zs [4] (Zc Zd [] ?_)
  simp only [push_cast, seval, ↓reduceIte, Za, hN0, hN]
  refine Z5 ?_
  try simp only [Zn, Zj]
  have h := Option.some.inj h; subst h
  refine Zy (.inr rfl) hU [.val (.int .u64 0)] (by omega) ?_
  simp only [push_cast, seval, ↓reduceIte, Za, Try.results112, hN0, hN]
 replace h := Zw c3 h
 refine Z0 ?_
 try simp only [Zn, Zj]
 refine Zm [1, 2] [true] ?_
 simp only [push_cast, seval, ↓reduceIte]
 obtain ⟨x2, hx2, ax2, bx2, cx2, h⟩ := bE (f := (eI .u64)) Zfg (fun _ => rfl) (by decide) h
 refine Zs [4] (Zc Zd [] ?_)
 simp only [push_cast, Nat.reduceAdd, Nat.reduceSub, Nat.reduceMul, Nat.reduceLeDiff, Nat.reduceLT, Nat.reduceEqDiff, ↓reduceIte, reduceCtorEq, Int.reduceBEq, Int.reduceBNe, Nat.reduceBEq, Int.reduceLE, Int.reduceLT, Int.reduceEq, Int.reduceNe, Int.reduceNeg, Nat.reduceDiv, Nat.reduceMod, Nat.reducePow, Za, ax2, bx2, cx2, hN0, hN]
 refine Z5 ?_
 try simp only [Zn, Zj]
 have h := Option.some.inj h; subst h
 refine Zy (.inr rfl) hU [.val (.int .u64 x2)] (by omega) ?_
 simp only [push_cast, seval, ↓reduceIte, Za, Try.results112, hN0, hN]
theorem Zdc {a0 : Int} {r : Bool} {O : Objs} {n : Nat} (h : Vv a0 = some r) : GTo Try.prog 119 [.val (.int .i64 a0)] O n (.val (.bool r)) O n := by
 unfold Vv at h
 refine Xc Zd Try.call119 Try.func119 rfl (Nat.le_of_ble_eq_true rfl) (Nat.le_refl _) fun hU => ?_
 have hN0 : O n = none := hU.fresh _ (Nat.le_refl _)
 have hN : ∀ k, O (n + k) = none := fun k => hU.fresh _ (Nat.le_add_right _ _)
 show W _ _ _ _ ⟨9, [], [(0, .val (.int .i64 a0))]⟩ (Zu O n []) _
 refine Zs [0] (Zc Zd [] ?_)
 simp only [push_cast, seval, ↓reduceIte, Za, hN0, hN]
 refine Zs [2] (Zc Zd [none, none] ?_)
 simp only [push_cast, seval, ↓reduceIte, Za, hN0, hN]
 repeat (with_reducible refine And.intro (by first | (intro h0; simp only [h0, and_self]; done) | (intro h0; simp only [h0, Bool.not_false, Bool.not_true, Bool.true_and, Bool.and_true, true_and, and_true, and_self, imp_self, implies_true, bne_iff_ne, ne_eq, beq_iff_eq]; done) | (intros; simp_all; done) | exact True.intro) ?_)
 refine Z5 ?_
 try simp only [Zn, Zj]
 have h := Option.some.inj h; subst h
 refine Zy (.inr rfl) hU [.val (.bool (cond (decide (a0 < 0)) true (decide (65534 < a0))))] (by omega) ?_
 simp only [push_cast, seval, ↓reduceIte, Za, Try.results119, hN0, hN]
theorem Zk8 {a0 : Int} {r : Int} {O : Objs} {n : Nat} (h : Zas a0 = some r) : GTo Try.prog 72 [.val (.int .u8 a0)] O n (.val (.int .u64 r)) O n := by
 unfold Zas at h
 refine Xc Zd Try.call72 Try.func72 rfl (Nat.le_of_ble_eq_true rfl) (Nat.le_refl _) fun hU => ?_
 have hN0 : O n = none := hU.fresh _ (Nat.le_refl _)
 have hN : ∀ k, O (n + k) = none := fun k => hU.fresh _ (Nat.le_add_right _ _)
 show W _ _ _ _ ⟨20, [], [(0, .val (.int .u8 a0))]⟩ (Zu O n []) _
 refine Zs [0] (Zc Zd [] ?_)
 simp only [push_cast, seval, ↓reduceIte, Za, hN0, hN]
 refine Zs [0, 3] (Zc Zd [] ?_)
 simp only [push_cast, seval, ↓reduceIte, Za, hN0, hN]
 refine Zo ?_
 refine Zs [0, 3, 5] (Zc Zd [] ?_)
 simp only [push_cast, seval, ↓reduceIte, Za, hN0, hN]
 refine Zm [0, 3, 5] [] ?_
 simp only [push_cast, seval, ↓reduceIte]
 obtain ⟨z7, hz7, h⟩ := bC h
 refine Yv (E' := ⟨20, [], [(3, .val (.int .u64 z7))]⟩) (O' := (Zu O n [])) (n0 := n) ?_ ?_
 ·refine Y7 hz7 (fun s0_ => ⟨20, [], [(0, .val (.int .u8 a0)), (3, .val (.int .u64 s0_.1)), (5, .val (.int .i64 s0_.2))]⟩) (fun s0_ => (Zu O n [])) (fun z7 => JX 0 n (⟨20, [], [(3, .val (.int .u64 z7))]⟩ : Env) (Zu O n []) n) ?_
  intro s0_ x0_ hs0_
  unfold Zat at hs0_
  try dsimp only
  refine Zs [0, 3, 5, 6] (Zc Zd [] ?_)
  simp only [push_cast, seval, ↓reduceIte, Za, hN0, hN]
  refine Zo ?_
  refine Zt (t := (decide (s0_.2 < 8))) rfl (fun c6 => ?_) (fun c6 => ?_)
  ·replace hs0_ := Zx c6 hs0_
   refine Z0 ?_
   try simp only [Zn, Zj]
   refine Zm [0, 3, 5] [] ?_
   simp only [push_cast, seval, ↓reduceIte]
   obtain ⟨z1, hz1, hs0_⟩ := bC hs0_
   refine Y5 (E' := ⟨20, [], [(0, .val (.int .u8 a0)), (3, .val (.int .u64 z1)), (5, .val (.int .i64 s0_.2))]⟩) (O' := (Zu O n [])) (n0 := n) ?_ ?_
   ·refine Ys ?_
    refine Zs [0, 3, 4, 5] (Zc Zd [] ?_)
    simp only [push_cast, seval, ↓reduceIte, Za, hN0, hN]
    obtain ⟨pu3, hz1⟩ := bG hz1
    refine Zs [0, 3, 4, 5, 12] (Zc Zd [] ?_)
    simp only [push_cast, seval, ↓reduceIte, Za, pu3, hN0, hN]
    refine Zt (t := ((IntKind.u8.wrap (Zfu .u8 (Int.fdiv a0 (2 ^ min (Int.toNat s0_.2) 8)) 1)) == 1)) rfl (fun c5 => ?_) (fun c5 => ?_)
    ·replace hz1 := Zx c5 hz1
     obtain ⟨pu4, hz1⟩ := bG hz1
     refine Zc Zd [] ?_
     simp only [push_cast, seval, ↓reduceIte, Za, pu4, hN0, hN]
     have hz1 := Option.some.inj hz1; subst hz1
     refine And.intro rfl (Fit2.of (Zl hU rfl rfl ?_) (by omega))
     simp only [push_cast, seval, ↓reduceIte, Za, pu4, hN0, hN]
    replace hz1 := Zw c5 hz1
    refine Z0 ?_
    try simp only [Zn, Zj]
    have hz1 := Option.some.inj hz1; subst hz1
    refine And.intro rfl (Fit2.of (Zl hU rfl rfl ?_) (by omega))
    simp only [push_cast, seval, ↓reduceIte, Za, hN0, hN]
   refine Zc Zd [] ?_
   simp only [push_cast, seval, ↓reduceIte, Za, hN0, hN]
   have hs0_ := Option.some.inj hs0_; subst hs0_
   refine And.intro rfl (Fit2.of (Zl hU rfl rfl ?_) (by omega))
   simp only [push_cast, seval, ↓reduceIte, Za, hN0, hN]
  replace hs0_ := Zw c6 hs0_
  refine Xs ?_
  try simp only [Zn, Zj, ↓reduceIte, Nat.reduceEqDiff]
  have hs0_ := Option.some.inj hs0_; subst hs0_
  refine And.intro (fun h => by cases h) (And.intro rfl (Fit2.of (Zl hU rfl rfl ?_) (by omega)))
  simp only [push_cast, seval, ↓reduceIte, Za, hN0, hN]
 try simp only [Zn, Zj, ↓reduceIte, Nat.reduceEqDiff]
 refine Zm [3] [] ?_
 simp only [push_cast, seval, ↓reduceIte]
 refine Zs [2] (Zc Zd [] ?_)
 simp only [push_cast, seval, ↓reduceIte, Za, hN0, hN]
 refine Z5 ?_
 try simp only [Zn, Zj]
 have h := Option.some.inj h; subst h
 refine Zy (.inr rfl) hU [.val (.int .u64 z7)] (by omega) ?_
 simp only [push_cast, seval, ↓reduceIte, Za, Try.results72, hN0, hN]
theorem Zvl {a0 : Int} {a1 : Int} {a2 : Int} {r : Int} {O : Objs} {n : Nat} (h : Zda a0 a1 a2 = some r) : GTo Try.prog 73 [.val (.int .u64 a0), .val (.int .u64 a1), .val (.int .u8 a2)] O n (.val (.int .u64 r)) O n := by
 unfold Zda at h
 refine Xc Zd Try.call73 Try.func73 rfl (Nat.le_of_ble_eq_true rfl) (Nat.le_refl _) fun hU => ?_
 have hN0 : O n = none := hU.fresh _ (Nat.le_refl _)
 have hN : ∀ k, O (n + k) = none := fun k => hU.fresh _ (Nat.le_add_right _ _)
 show W _ _ _ _ ⟨17, [], [(0, .val (.int .u64 a0)), (1, .val (.int .u64 a1)), (2, .val (.int .u8 a2))]⟩ (Zu O n []) _
 refine Zs [0, 1, 2] (Zc Zd [] ?_)
 simp only [push_cast, seval, ↓reduceIte, Za, hN0, hN]
 refine Zo ?_
 obtain ⟨y2, hy2, h⟩ := bC h
 refine Zc Zd [] ?_
 simp only [push_cast, seval, ↓reduceIte, Za, hN0, hN]
 refine (Zk8 hy2).then ?_
 simp only [push_cast, seval, ↓reduceIte, Za, hN0, hN]
 refine Zm [0, 1, 7] [] ?_
 simp only [push_cast, seval, ↓reduceIte]
 refine Zs [6] (Zc Zd [] ?_)
 simp only [push_cast, seval, ↓reduceIte, Za, hN0, hN]
 refine Z5 ?_
 try simp only [Zn, Zj]
 have h := Option.some.inj h; subst h
 refine Zy (.inr rfl) hU [.val (.int .u64 (IntKind.u64.wrap (Zoy .u64 (IntKind.u64.wrap (Zrh .u64 a0 y2)) (IntKind.u64.wrap (Zfu .u64 a1 y2)))))] (by omega) ?_
 simp only [push_cast, seval, ↓reduceIte, Za, Try.results73, hN0, hN]
theorem Zl9 {a0 : S_api_Tree} {a1 : Int} {a2 : Int} {r : S_api_Tree} {O : Objs} {n : Nat} {i0 j0_0 j0_1 : Nat} (hi0 : i0 < n) (K6 : j0_0 < n) (Zdy : j0_1 < n) (Qw : i0 ≠ j0_0) (Vk : i0 ≠ j0_1) (Vj : j0_0 ≠ j0_1) (ho0 : O i0 = some ⟨false, 25, 3, 1, [.val (.int .i64 a0.Kind), .row j0_1 a0.Words.length, .row j0_0 a0.Kids.length]⟩) (Vl : O j0_0 = some ⟨true, 25, 3, a0.Kids.length, fl Zb a0.Kids⟩) (Zes : O j0_1 = some ⟨true, 56, 1, a0.Words.length, fl (eI .u64) a0.Words⟩) (h : Gk a0 a1 a2 = some r) : GTo Try.prog 120 [.ref i0 0, .val (.int .i64 a1), .val (.int .u64 a2)] O n (.tup []) (Zu (((O.upd j0_0 none).upd j0_1 none).upd i0 (some ⟨false, 25, 3, 1, [.val (.int .i64 r.Kind), .row (n + 1) r.Words.length, .row n r.Kids.length]⟩)) n [some ⟨true, 25, 3, r.Kids.length, fl Zb r.Kids⟩, some ⟨true, 56, 1, r.Words.length, fl (eI .u64) r.Words⟩]) (n + 2) := by
 unfold Gk at h
 refine Xc Zd Try.call120 Try.func120 rfl (Nat.le_of_ble_eq_true rfl) (by omega) fun hU => ?_
 have e0 := Q8 (ba := n) (E := ⟨40, [], Zc0 0 [.ref i0 0, .val (.int .i64 a1), .val (.int .u64 a2)]⟩) (O := (Zu O n [])) (n := n) (i := i0) (j := j0_0) (k := 2) (len := a0.Kids.length) (q := ⟨false, 25, 3, 1, [.val (.int .i64 a0.Kind), .row j0_1 a0.Words.length, .row j0_0 a0.Kids.length]⟩) (qj := ⟨true, 25, 3, a0.Kids.length, fl Zb a0.Kids⟩) (by rw [Yf _ hi0]; first | exact ho0 | exact Z8 _ _ _) rfl (by rw [Yf _ K6]; exact Vl) Qw (by omega)
 simp only [Yj _ _ K6, Yj _ _ hi0, Y0, Yl, Xz, Ux Qw, List.set_cons_zero, List.set_cons_succ, List.cons_append, List.nil_append, List.length_cons, List.length_nil, Nat.zero_add, Nat.reduceAdd, Nat.add_assoc] at e0
 refine Ja e0 ?_
 have e1 := Q8 (ba := n) (E := ⟨40, [], Zc0 0 [.ref i0 0, .val (.int .i64 a1), .val (.int .u64 a2)]⟩) (O := (Zu ((O.upd j0_0 none).upd i0 (some ⟨false, 25, 3, 1, [.val (.int .i64 a0.Kind), .row j0_1 a0.Words.length, .row n a0.Kids.length]⟩)) n [some ⟨true, 25, 3, a0.Kids.length, fl Zb a0.Kids⟩])) (n := (n + 1)) (i := i0) (j := j0_1) (k := 1) (len := a0.Words.length) (q := ⟨false, 25, 3, 1, [.val (.int .i64 a0.Kind), .row j0_1 a0.Words.length, .row n a0.Kids.length]⟩) (qj := ⟨true, 56, 1, a0.Words.length, fl (eI .u64) a0.Words⟩) (by rw [Yf _ hi0]; first | exact ho0 | exact Z8 _ _ _) rfl (by rw [Yf _ Zdy, Yu _ _ (Ne.symm Vk), Yu _ _ (Ne.symm Vj)]; exact Zes) Vk (by omega)
 simp only [Yj _ _ Zdy, Yj _ _ hi0, Y0, Yl, Xz, Ux Vk, List.set_cons_zero, List.set_cons_succ, List.cons_append, List.nil_append, List.length_cons, List.length_nil, Nat.zero_add, Nat.reduceAdd, Nat.add_assoc] at e1
 refine Ja e1 ?_
 have hU := (Und.drop (Und.drop hU j0_0) j0_1)
 have hk0 : ∀ k, i0 < n + k := fun k => by omega
 have hN0 : ∀ o, Objs.upd ((O.upd j0_0 none).upd j0_1 none) i0 o n = none := fun o => Qv hU hi0 _ (Nat.le_refl _)
 have hN : ∀ o k, Objs.upd ((O.upd j0_0 none).upd j0_1 none) i0 o (n + k) = none := fun o k => Qv hU hi0 _ (Nat.le_add_right _ _)
 show W _ _ _ _ ⟨40, [], [(0, .ref i0 0), (1, .val (.int .i64 a1)), (2, .val (.int .u64 a2))]⟩ (Zu (((O.upd j0_0 none).upd j0_1 none).upd i0 (some ⟨false, 25, 3, 1, [.val (.int .i64 a0.Kind), .row (n + 1) a0.Words.length, .row n a0.Kids.length]⟩)) n [some ⟨true, 25, 3, a0.Kids.length, fl Zb a0.Kids⟩, some ⟨true, 56, 1, a0.Words.length, fl (eI .u64) a0.Words⟩]) _
 refine Zo ?_
 refine Zm [0, 1, 2] [true, true] ?_
 simp only [push_cast, seval, ↓reduceIte]
 obtain ⟨z3, hz3, h⟩ := bC h
 refine Yv (E' := ⟨40, [], [(0, .ref i0 0), (1, .val (.int .i64 a1)), (2, .val (.int .u64 a2))]⟩) (O' := (Zu (((O.upd j0_0 none).upd j0_1 none).upd i0 (some ⟨false, 25, 3, 1, [.val (.int .i64 a0.Kind), .row (n + 1) z3.length, .row n a0.Kids.length]⟩)) n [some ⟨true, 25, 3, a0.Kids.length, fl Zb a0.Kids⟩, some ⟨true, 56, 1, z3.length, fl (eI .u64) z3⟩])) (n0 := (n + 2)) ?_ ?_
 ·refine Y7 hz3 (fun s0_ => ⟨40, [], [(0, .ref i0 0), (1, .val (.int .i64 a1)), (2, .val (.int .u64 a2))]⟩) (fun s0_ => (Zu (((O.upd j0_0 none).upd j0_1 none).upd i0 (some ⟨false, 25, 3, 1, [.val (.int .i64 a0.Kind), .row (n + 1) s0_.length, .row n a0.Kids.length]⟩)) n [some ⟨true, 25, 3, a0.Kids.length, fl Zb a0.Kids⟩, some ⟨true, 56, 1, s0_.length, fl (eI .u64) s0_⟩])) (fun z3 => JX 0 n (⟨40, [], [(0, .ref i0 0), (1, .val (.int .i64 a1)), (2, .val (.int .u64 a2))]⟩ : Env) (Zu (((O.upd j0_0 none).upd j0_1 none).upd i0 (some ⟨false, 25, 3, 1, [.val (.int .i64 a0.Kind), .row (n + 1) z3.length, .row n a0.Kids.length]⟩)) n [some ⟨true, 25, 3, a0.Kids.length, fl Zb a0.Kids⟩, some ⟨true, 56, 1, z3.length, fl (eI .u64) z3⟩]) (n + 2)) ?_
  intro s0_ x0_ hs0_
  unfold Vm at hs0_
  try dsimp only
  refine Zo ?_
  refine Zs [0, 1, 2, 16] (Zc Zd [none, none] ?_)
  simp only [push_cast, seval, ↓reduceIte, Za, hi0, hk0, hN0, hN]
  repeat (with_reducible refine And.intro (by first | (intro h0; simp only [h0, and_self]; done) | (intro h0; simp only [h0, Bool.not_false, Bool.not_true, Bool.true_and, Bool.and_true, true_and, and_true, and_self, imp_self, implies_true, bne_iff_ne, ne_eq, beq_iff_eq]; done) | (intros; simp_all; done) | exact True.intro) ?_)
  refine Zt (t := (cond (decide ((s0_.length : Int) ≤ a1)) (a2 != 0) false)) rfl (fun c2 => ?_) (fun c2 => ?_)
  ·replace hs0_ := Zx c2 hs0_
   refine Z0 ?_
   try simp only [Zn, Zj]
   refine Zm [0, 1, 2] [true, true] ?_
   simp only [push_cast, seval, ↓reduceIte]
   refine Ys ?_
   obtain ⟨l1, pl1, ql1, el1, hs0_⟩ := bA (k := 1) rfl hs0_
   refine Zc Zd [] ?_
   simp only [push_cast, seval, ↓reduceIte, Za, pl1, ql1, el1, hi0, hk0, hN0, hN]
   have hs0_ := Option.some.inj hs0_; subst hs0_
   refine And.intro rfl (Fit2.of (Ya hU rfl rfl ?_) (by omega))
   simp only [push_cast, seval, ↓reduceIte, Za, pl1, ql1, el1, hi0, hk0, hN0, hN]
  replace hs0_ := Zw c2 hs0_
  refine Xs ?_
  try simp only [Zn, Zj, ↓reduceIte, Nat.reduceEqDiff]
  have hs0_ := Option.some.inj hs0_; subst hs0_
  refine And.intro (fun h => by cases h) (And.intro rfl (Fit2.of (Ya hU rfl rfl ?_) (by omega)))
  simp only [push_cast, seval, ↓reduceIte, Za, hi0, hk0, hN0, hN]
 try simp only [Zn, Zj, ↓reduceIte, Nat.reduceEqDiff]
 refine Zm [0, 1, 2] [true, true] ?_
 simp only [push_cast, seval, ↓reduceIte]
 refine Zs [0, 1, 2, 32] (Zc Zd [] ?_)
 simp only [push_cast, seval, ↓reduceIte, Za, hi0, hk0, hN0, hN]
 refine Zt (t := (decide (a1 < (z3.length : Int)))) rfl (fun c6 => ?_) (fun c6 => ?_)
 ·replace h := Zx c6 h
  obtain ⟨x4, hx4, ax4, bx4, cx4, h⟩ := bE (f := (eI .u64)) Zfg (fun _ => rfl) (by decide) h
  have gu5 : Ji (fl (eI .u64) z3) [.val (.int .u64 a2)] (Int.toNat a1 * 1) = some (fl (eI .u64) (Zb7 z3 a1 a2)) := Zgh (f := (eI .u64)) (ti := ⟨.bool, 1, 0, [], false⟩) (x := a2) (fun _ => rfl) (Zci hx4)
  refine Zc Zd [] ?_
  simp only [push_cast, Nat.reduceAdd, Nat.reduceSub, Nat.reduceMul, Nat.reduceLeDiff, Nat.reduceLT, Nat.reduceEqDiff, ↓reduceIte, reduceCtorEq, Int.reduceBEq, Int.reduceBNe, Nat.reduceBEq, Int.reduceLE, Int.reduceLT, Int.reduceEq, Int.reduceNe, Int.reduceNeg, Nat.reduceDiv, Nat.reduceMod, Nat.reducePow, Za, ax4, bx4, cx4, gu5, hi0, hk0, hN0, hN]
  have h := Option.some.inj h; subst h
  refine Jh (k := 2) (i := i0) (q1 := ⟨false, 25, 3, 1, [.val (.int .i64 a0.Kind), .row (n + 1) (Zb7 z3 a1 a2).length, .row n a0.Kids.length]⟩) (L3 := [some ⟨true, 25, 3, a0.Kids.length, fl Zb a0.Kids⟩, some ⟨true, 56, 1, (Zb7 z3 a1 a2).length, fl (eI .u64) (Zb7 z3 a1 a2)⟩, none]) (E2 := (⟨40, [], []⟩ : Env)) (n3 := (n + 3)) (.inl rfl) hU rfl [] ?_ ?_
  ·refine Fit2.trans (E' := (⟨40, [], []⟩ : Env)) (O' := (Zu (((O.upd j0_0 none).upd j0_1 none).upd i0 (some ⟨false, 25, 3, 1, [.val (.int .i64 a0.Kind), .row (n + 1) (Zb7 z3 a1 a2).length, .row n a0.Kids.length]⟩)) n [some ⟨true, 25, 3, a0.Kids.length, fl Zb a0.Kids⟩, some ⟨true, 56, 1, (Zb7 z3 a1 a2).length, fl (eI .u64) (Zb7 z3 a1 a2)⟩])) (n' := (n + 2)) (Fit2.of (Ya hU rfl rfl ?_) (by omega)) ?_
   ·simp only [push_cast, Nat.reduceAdd, Nat.reduceSub, Nat.reduceMul, Nat.reduceLeDiff, Nat.reduceLT, Nat.reduceEqDiff, ↓reduceIte, reduceCtorEq, Int.reduceBEq, Int.reduceBNe, Nat.reduceBEq, Int.reduceLE, Int.reduceLT, Int.reduceEq, Int.reduceNe, Int.reduceNeg, Nat.reduceDiv, Nat.reduceMod, Nat.reducePow, Za, ax4, bx4, cx4, gu5, hi0, hk0, hN0, hN]
   refine Xy (k := 2) (k' := 3) hU [0, 1] [0, 1, 0] rfl rfl rfl rfl ⟨rfl, rfl⟩ ?_
   simp only [push_cast, seval, ↓reduceIte, Za, hi0, hk0, hN0, hN]
  simp only [push_cast, seval, ↓reduceIte, Za, Try.results120, hi0, hk0, hN0, hN]
 replace h := Zw c6 h
 refine Z0 ?_
 try simp only [Zn, Zj]
 have h := Option.some.inj h; subst h
 refine Jh (k := 2) (i := i0) (q1 := ⟨false, 25, 3, 1, [.val (.int .i64 a0.Kind), .row (n + 1) z3.length, .row n a0.Kids.length]⟩) (L3 := [some ⟨true, 25, 3, a0.Kids.length, fl Zb a0.Kids⟩, some ⟨true, 56, 1, z3.length, fl (eI .u64) z3⟩, none]) (E2 := (⟨40, [], []⟩ : Env)) (n3 := (n + 3)) (.inl rfl) hU rfl [] ?_ ?_
 ·refine Fit2.trans (E' := (⟨40, [], []⟩ : Env)) (O' := (Zu (((O.upd j0_0 none).upd j0_1 none).upd i0 (some ⟨false, 25, 3, 1, [.val (.int .i64 a0.Kind), .row (n + 1) z3.length, .row n a0.Kids.length]⟩)) n [some ⟨true, 25, 3, a0.Kids.length, fl Zb a0.Kids⟩, some ⟨true, 56, 1, z3.length, fl (eI .u64) z3⟩])) (n' := (n + 2)) (Fit2.of (Ya hU rfl rfl ?_) (by omega)) ?_
  ·simp only [push_cast, seval, ↓reduceIte, Za, hi0, hk0, hN0, hN]
  refine Xy (k := 2) (k' := 3) hU [0, 1] [0, 1, 0] rfl rfl rfl rfl ⟨rfl, rfl⟩ ?_
  simp only [push_cast, seval, ↓reduceIte, Za, hi0, hk0, hN0, hN]
 simp only [push_cast, seval, ↓reduceIte, Za, Try.results120, hi0, hk0, hN0, hN]
theorem Zm1 {a0 : S_api_Tree} {a1 : Int} {r : S_api_Tree} {O : Objs} {n : Nat} (h : Zew a0 a1 = some r) : GTo Try.prog 111 [.agg (Ze a0), .val (.int .i64 a1)] O n (.agg (Ze r)) O n := by
 unfold Zew at h
 refine Xc Zd Try.call111 Try.func111 rfl (Nat.le_of_ble_eq_true rfl) (Nat.le_refl _) fun hU => ?_
 have hN0 : O n = none := hU.fresh _ (Nat.le_refl _)
 have hN : ∀ k, O (n + k) = none := fun k => hU.fresh _ (Nat.le_add_right _ _)
 show W _ _ _ _ ⟨20, [], [(0, .agg (Ze a0)), (1, .val (.int .i64 a1))]⟩ (Zu O n []) _
 refine Zs [1, 2, 4] (Zc Zd [] ?_)
 simp only [push_cast, seval, ↓reduceIte, Za, hN0, hN]
 refine Zo ?_
 refine Zs [1, 2, 4, 13] (Zc Zd [none, none, none, none, none] ?_)
 simp only [push_cast, seval, ↓reduceIte, Za, hN0, hN]
 repeat (with_reducible refine And.intro (by first | (intro h0; simp only [h0, and_self]; done) | (intro h0; simp only [h0, Bool.not_false, Bool.not_true, Bool.true_and, Bool.and_true, true_and, and_true, and_self, imp_self, implies_true, bne_iff_ne, ne_eq, beq_iff_eq]; done) | (intros; simp_all; done) | exact True.intro) ?_)
 refine Zt (t := (cond (decide (a1 < 0)) true (decide ((a0.Kids.length : Int) ≤ a1)))) rfl (fun c3 => ?_) (fun c3 => ?_)
 ·replace h := Zx c3 h
  refine Zo ?_
  refine Zc Zd [] ?_
  simp only [push_cast, seval, ↓reduceIte, Za, hN0, hN]
  refine Zm [4] [false, true] ?_
  simp only [push_cast, seval, ↓reduceIte]
  refine Z5 ?_
  try simp only [Zn, Zj]
  have h := Option.some.inj h; subst h
  refine Zy (.inr rfl) hU [.agg [.val (.int .i64 0), .val (.slice none 0 0), .val (.slice none 0 0)]] (by omega) ?_
  simp only [push_cast, seval, ↓reduceIte, Za, Try.results111, hN0, hN]
 replace h := Zw c3 h
 refine Z0 ?_
 try simp only [Zn, Zj]
 refine Zm [1, 2, 4] [true, true] ?_
 simp only [push_cast, seval, ↓reduceIte]
 refine Zo ?_
 obtain ⟨x2, hx2, ax2, bx2, cx2, h⟩ := bE (f := Zb) Vs (fun _ => rfl) (by decide) h
 refine Zc Zd [] ?_
 simp only [push_cast, Nat.reduceAdd, Nat.reduceSub, Nat.reduceMul, Nat.reduceLeDiff, Nat.reduceLT, Nat.reduceEqDiff, ↓reduceIte, reduceCtorEq, Int.reduceBEq, Int.reduceBNe, Nat.reduceBEq, Int.reduceLE, Int.reduceLT, Int.reduceEq, Int.reduceNe, Int.reduceNeg, Nat.reduceDiv, Nat.reduceMod, Nat.reducePow, Za, ax2, bx2, cx2, hN0, hN]
 refine Zm [4] [false, true] ?_
 simp only [push_cast, seval, ↓reduceIte]
 refine Z5 ?_
 try simp only [Zn, Zj]
 have h := Option.some.inj h; subst h
 refine Zy (.inr rfl) hU [.agg (Ze x2)] (by omega) ?_
 simp only [push_cast, seval, ↓reduceIte, Za, Try.results111, hN0, hN]
theorem Zm8 {a0 : S_api_Tree} {a1 : Int} {a2 : S_api_Tree} {r : S_api_Tree} {O : Objs} {n : Nat} {i0 j0_0 : Nat} (hi0 : i0 < n) (K6 : j0_0 < n) (Qw : i0 ≠ j0_0) (ho0 : O i0 = some ⟨false, 25, 3, 1, [.val (.int .i64 a0.Kind), .sl a0.Words.length (fl (eI .u64) a0.Words), .row j0_0 a0.Kids.length]⟩) (Vl : O j0_0 = some ⟨true, 25, 3, a0.Kids.length, fl Zb a0.Kids⟩) (h : Zar a0 a1 a2 = some r) : GTo Try.prog 121 [.ref i0 0, .val (.int .i64 a1), .agg (Ze a2)] O n (.tup []) (Zu ((O.upd j0_0 none).upd i0 (some ⟨false, 25, 3, 1, [.val (.int .i64 r.Kind), .sl r.Words.length (fl (eI .u64) r.Words), .row n r.Kids.length]⟩)) n [some ⟨true, 25, 3, r.Kids.length, fl Zb r.Kids⟩]) (n + 1) := by
 unfold Zar at h
 refine Xc Zd Try.call121 Try.func121 rfl (Nat.le_of_ble_eq_true rfl) (by omega) fun hU => ?_
 have e0 := Q8 (ba := n) (E := ⟨43, [], Zc0 0 [.ref i0 0, .val (.int .i64 a1), .agg [.val (.int .i64 a2.Kind), .sl a2.Words.length (fl (eI .u64) a2.Words), .sl a2.Kids.length (fl Zb a2.Kids)]]⟩) (O := (Zu O n [])) (n := n) (i := i0) (j := j0_0) (k := 2) (len := a0.Kids.length) (q := ⟨false, 25, 3, 1, [.val (.int .i64 a0.Kind), .sl a0.Words.length (fl (eI .u64) a0.Words), .row j0_0 a0.Kids.length]⟩) (qj := ⟨true, 25, 3, a0.Kids.length, fl Zb a0.Kids⟩) (by rw [Yf _ hi0]; first | exact ho0 | exact Z8 _ _ _) rfl (by rw [Yf _ K6]; exact Vl) Qw (by omega)
 simp only [Yj _ _ K6, Yj _ _ hi0, Y0, Yl, Xz, Ux Qw, List.set_cons_zero, List.set_cons_succ, List.cons_append, List.nil_append, List.length_cons, List.length_nil, Nat.zero_add, Nat.reduceAdd, Nat.add_assoc] at e0
 refine Ja e0 ?_
 have hU := (Und.drop hU j0_0)
 have hk0 : ∀ k, i0 < n + k := fun k => by omega
 have hN0 : ∀ o, Objs.upd (O.upd j0_0 none) i0 o n = none := fun o => Qv hU hi0 _ (Nat.le_refl _)
 have hN : ∀ o k, Objs.upd (O.upd j0_0 none) i0 o (n + k) = none := fun o k => Qv hU hi0 _ (Nat.le_add_right _ _)
 show W _ _ _ _ ⟨43, [], [(0, .ref i0 0), (1, .val (.int .i64 a1)), (2, .agg (Ze a2))]⟩ (Zu ((O.upd j0_0 none).upd i0 (some ⟨false, 25, 3, 1, [.val (.int .i64 a0.Kind), .sl a0.Words.length (fl (eI .u64) a0.Words), .row n a0.Kids.length]⟩)) n [some ⟨true, 25, 3, a0.Kids.length, fl Zb a0.Kids⟩]) _
 refine Zs [0, 1, 5] (Zc Zd [] ?_)
 simp only [push_cast, seval, ↓reduceIte, Za, hi0, hk0, hN0, hN]
 refine Zo ?_
 refine Zm [0, 1, 5] [true, true] ?_
 simp only [push_cast, seval, ↓reduceIte]
 obtain ⟨z5, hz5, h⟩ := bC h
 refine Yv (E' := ⟨43, [], [(0, .ref i0 0), (1, .val (.int .i64 a1)), (5, .ref (n + 1) 0)]⟩) (O' := (Zu ((O.upd j0_0 none).upd i0 (some ⟨false, 25, 3, 1, [.val (.int .i64 a0.Kind), .sl a0.Words.length (fl (eI .u64) a0.Words), .row n z5.length]⟩)) n [some ⟨true, 25, 3, z5.length, fl Zb z5⟩, some ⟨false, 25, 3, 1, (Ze a2)⟩])) (n0 := (n + 2)) ?_ ?_
 ·refine Y7 hz5 (fun s0_ => ⟨43, [], [(0, .ref i0 0), (1, .val (.int .i64 a1)), (5, .ref (n + 1) 0)]⟩) (fun s0_ => (Zu ((O.upd j0_0 none).upd i0 (some ⟨false, 25, 3, 1, [.val (.int .i64 a0.Kind), .sl a0.Words.length (fl (eI .u64) a0.Words), .row n s0_.length]⟩)) n [some ⟨true, 25, 3, s0_.length, fl Zb s0_⟩, some ⟨false, 25, 3, 1, (Ze a2)⟩])) (fun z5 => JX 0 n (⟨43, [], [(0, .ref i0 0), (1, .val (.int .i64 a1)), (5, .ref (n + 1) 0)]⟩ : Env) (Zu ((O.upd j0_0 none).upd i0 (some ⟨false, 25, 3, 1, [.val (.int .i64 a0.Kind), .sl a0.Words.length (fl (eI .u64) a0.Words), .row n z5.length]⟩)) n [some ⟨true, 25, 3, z5.length, fl Zb z5⟩, some ⟨false, 25, 3, 1, (Ze a2)⟩]) (n + 2)) ?_
  intro s0_ x0_ hs0_
  unfold V6 at hs0_
  try dsimp only
  refine Zo ?_
  refine Zs [0, 1, 5, 17] (Zc Zd [none, none, none] ?_)
  simp only [push_cast, seval, ↓reduceIte, Za, hi0, hk0, hN0, hN]
  repeat (with_reducible refine And.intro (by first | (intro h0; simp only [h0, and_self]; done) | (intro h0; simp only [h0, Bool.not_false, Bool.not_true, Bool.true_and, Bool.and_true, true_and, and_true, and_self, imp_self, implies_true, bne_iff_ne, ne_eq, beq_iff_eq]; done) | (intros; simp_all; done) | exact True.intro) ?_)
  refine Zt (t := (cond (decide ((s0_.length : Int) ≤ a1)) (a2.Kind != 0) false)) rfl (fun c4 => ?_) (fun c4 => ?_)
  ·replace hs0_ := Zx c4 hs0_
   refine Z0 ?_
   try simp only [Zn, Zj]
   refine Zm [0, 1, 5] [true, true] ?_
   simp only [push_cast, seval, ↓reduceIte]
   refine Ys ?_
   obtain ⟨l1, pl1, ql1, el1, hs0_⟩ := bA (k := 1) rfl hs0_
   obtain ⟨x2, hx2, ax2, bx2, cx2, hs0_⟩ := bE (f := Zb) Vs (fun _ => rfl) (by decide) hs0_
   have gu3 : Ji (fl Zb s0_ ++ [.val (.int .i64 0), .val (.slice none 0 0), .val (.slice none 0 0)]) [.val (.int .i64 0), .val (.slice none 0 0), .val (.slice none 0 0)] (List.length s0_ * 3) = some (fl Zb s0_ ++ [.val (.int .i64 0), .val (.slice none 0 0), .val (.slice none 0 0)]) := Uz (f := Zb) (sz := 3) (fun _ => rfl) rfl rfl
   refine Zai Zd (by kernel_rfl) [.low, .low, .low, .low, .low, .low, .pass, .bar, .shp, .fill true, .shp, .shp, .fill false] (fun i => i < (n + 2)) [0, 1, 2, 3, 4, 5, 6, 7, 8, 9, 10, 11, 12] [.low, .low, .low, .low, .low, .low, .pass, .bar, .shp, .fill true, .shp, .shp, .fill false] [] (by kernel_rfl) rfl ?_
   simp only [push_cast, Nat.reduceAdd, Nat.reduceSub, Nat.reduceMul, Nat.reduceLeDiff, Nat.reduceLT, Nat.reduceEqDiff, ↓reduceIte, reduceCtorEq, Int.reduceBEq, Int.reduceBNe, Nat.reduceBEq, Int.reduceLE, Int.reduceLT, Int.reduceEq, Int.reduceNe, Int.reduceNeg, Nat.reduceDiv, Nat.reduceMod, Nat.reducePow, Za, pl1, ql1, el1, ax2, bx2, cx2, gu3, hi0, hk0, hN0, hN]
   repeat (with_reducible refine And.intro (by first | omega | exact Yt rfl | exact Yi | exact Qg rfl rfl) ?_)
   have hs0_ := Option.some.inj hs0_; subst hs0_
   refine And.intro rfl (Fit2.of (Ya hU rfl rfl ?_) (by omega))
   simp only [push_cast, Nat.reduceAdd, Nat.reduceSub, Nat.reduceMul, Nat.reduceLeDiff, Nat.reduceLT, Nat.reduceEqDiff, ↓reduceIte, reduceCtorEq, Int.reduceBEq, Int.reduceBNe, Nat.reduceBEq, Int.reduceLE, Int.reduceLT, Int.reduceEq, Int.reduceNe, Int.reduceNeg, Nat.reduceDiv, Nat.reduceMod, Nat.reducePow, Za, pl1, ql1, el1, ax2, bx2, cx2, gu3, hi0, hk0, hN0, hN]
  replace hs0_ := Zw c4 hs0_
  refine Xs ?_
  try simp only [Zn, Zj, ↓reduceIte, Nat.reduceEqDiff]
  have hs0_ := Option.some.inj hs0_; subst hs0_
  refine And.intro (fun h => by cases h) (And.intro rfl (Fit2.of (Ya hU rfl rfl ?_) (by omega)))
  simp only [push_cast, seval, ↓reduceIte, Za, hi0, hk0, hN0, hN]
 try simp only [Zn, Zj, ↓reduceIte, Nat.reduceEqDiff]
 refine Zm [0, 1, 5] [true, true] ?_
 simp only [push_cast, seval, ↓reduceIte]
 refine Zs [0, 1, 5, 35] (Zc Zd [] ?_)
 simp only [push_cast, seval, ↓reduceIte, Za, hi0, hk0, hN0, hN]
 refine Zt (t := (decide (a1 < (z5.length : Int)))) rfl (fun c8 => ?_) (fun c8 => ?_)
 ·replace h := Zx c8 h
  obtain ⟨x6, hx6, ax6, bx6, cx6, h⟩ := bE (f := Zb) Vs (fun _ => rfl) (by decide) h
  have gu7 : Ji (fl Zb z5) [.val (.int .i64 a2.Kind), .sl a2.Words.length (fl (eI .u64) a2.Words), .sl a2.Kids.length (fl Zb a2.Kids)] (Int.toNat a1 * 3) = some (fl Zb (Zb7 z5 a1 a2)) := (congrArg (fun c => Ji (fl Zb z5) c (Int.toNat a1 * 3)) (show [.val (.int .i64 a2.Kind), .sl a2.Words.length (fl (eI .u64) a2.Words), .sl a2.Kids.length (fl Zb a2.Kids)] = Zb a2 from by simp only [Zb, Yn, eI, eB, eS, eL])).trans (Zgh (f := Zb) (ti := ⟨.bool, 3, 0, [], false⟩) (x := a2) (fun _ => rfl) (Zci hx6))
  refine Zdn Zd (by kernel_rfl) [false, false, false, false, false, false, false, true] [] (by kernel_rfl) ?_
  simp only [push_cast, Nat.reduceAdd, Nat.reduceSub, Nat.reduceMul, Nat.reduceLeDiff, Nat.reduceLT, Nat.reduceEqDiff, ↓reduceIte, reduceCtorEq, Int.reduceBEq, Int.reduceBNe, Nat.reduceBEq, Int.reduceLE, Int.reduceLT, Int.reduceEq, Int.reduceNe, Int.reduceNeg, Nat.reduceDiv, Nat.reduceMod, Nat.reducePow, Za, ax6, bx6, cx6, gu7, hi0, hk0, hN0, hN]
  have h := Option.some.inj h; subst h
  refine Jh (k := 1) (i := i0) (q1 := ⟨false, 25, 3, 1, [.val (.int .i64 a0.Kind), .sl a0.Words.length (fl (eI .u64) a0.Words), .row n (Zb7 z5 a1 a2).length]⟩) (L3 := [some ⟨true, 25, 3, (Zb7 z5 a1 a2).length, fl Zb (Zb7 z5 a1 a2)⟩, none]) (E2 := (⟨43, [], []⟩ : Env)) (n3 := (n + 2)) (.inl rfl) hU rfl [] ?_ ?_
  ·refine Fit2.trans (E' := (⟨43, [], []⟩ : Env)) (O' := (Zu ((O.upd j0_0 none).upd i0 (some ⟨false, 25, 3, 1, [.val (.int .i64 a0.Kind), .sl a0.Words.length (fl (eI .u64) a0.Words), .row n (Zb7 z5 a1 a2).length]⟩)) n [some ⟨true, 25, 3, (Zb7 z5 a1 a2).length, fl Zb (Zb7 z5 a1 a2)⟩, none])) (n' := (n + 2)) (Fit2.of (Ya hU rfl rfl ?_) (by omega)) ?_
   ·simp only [push_cast, Nat.reduceAdd, Nat.reduceSub, Nat.reduceMul, Nat.reduceLeDiff, Nat.reduceLT, Nat.reduceEqDiff, ↓reduceIte, reduceCtorEq, Int.reduceBEq, Int.reduceBNe, Nat.reduceBEq, Int.reduceLE, Int.reduceLT, Int.reduceEq, Int.reduceNe, Int.reduceNeg, Nat.reduceDiv, Nat.reduceMod, Nat.reducePow, Za, ax6, bx6, cx6, gu7, hi0, hk0, hN0, hN]
   refine Xy (k := 2) (k' := 2) hU [0, 1] [0, 0] rfl rfl rfl rfl ⟨rfl, rfl⟩ ?_
   simp only [push_cast, seval, ↓reduceIte, Za, hi0, hk0, hN0, hN]
  simp only [push_cast, seval, ↓reduceIte, Za, Try.results121, hi0, hk0, hN0, hN]
 replace h := Zw c8 h
 refine Z0 ?_
 try simp only [Zn, Zj]
 have h := Option.some.inj h; subst h
 refine Jh (k := 1) (i := i0) (q1 := ⟨false, 25, 3, 1, [.val (.int .i64 a0.Kind), .sl a0.Words.length (fl (eI .u64) a0.Words), .row n z5.length]⟩) (L3 := [some ⟨true, 25, 3, z5.length, fl Zb z5⟩, none]) (E2 := (⟨43, [], []⟩ : Env)) (n3 := (n + 2)) (.inl rfl) hU rfl [] ?_ ?_
 ·refine Fit2.trans (E' := (⟨43, [], []⟩ : Env)) (O' := (Zu ((O.upd j0_0 none).upd i0 (some ⟨false, 25, 3, 1, [.val (.int .i64 a0.Kind), .sl a0.Words.length (fl (eI .u64) a0.Words), .row n z5.length]⟩)) n [some ⟨true, 25, 3, z5.length, fl Zb z5⟩, none])) (n' := (n + 2)) (Fit2.of (Ya hU rfl rfl ?_) (by omega)) ?_
  ·simp only [push_cast, seval, ↓reduceIte, Za, hi0, hk0, hN0, hN]
  refine Xy (k := 2) (k' := 2) hU [0, 1] [0, 0] rfl rfl rfl rfl ⟨rfl, rfl⟩ ?_
  simp only [push_cast, seval, ↓reduceIte, Za, hi0, hk0, hN0, hN]
 simp only [push_cast, seval, ↓reduceIte, Za, Try.results121, hi0, hk0, hN0, hN]
theorem Zsz {a0 : Int} {r : Bool} {O : Objs} {n : Nat} (h : Zd1 a0 = some r) : GTo Try.prog 110 [.val (.int .i64 a0)] O n (.val (.bool r)) O n := by
 unfold Zd1 at h
 refine Xc Zd Try.call110 Try.func110 rfl (Nat.le_of_ble_eq_true rfl) (Nat.le_refl _) fun hU => ?_
 have hN0 : O n = none := hU.fresh _ (Nat.le_refl _)
 have hN : ∀ k, O (n + k) = none := fun k => hU.fresh _ (Nat.le_add_right _ _)
 show W _ _ _ _ ⟨9, [], [(0, .val (.int .i64 a0))]⟩ (Zu O n []) _
 refine Zs [0] (Zc Zd [] ?_)
 simp only [push_cast, seval, ↓reduceIte, Za, hN0, hN]
 refine Zs [2] (Zc Zd [none, none] ?_)
 simp only [push_cast, seval, ↓reduceIte, Za, hN0, hN]
 repeat (with_reducible refine And.intro (by first | (intro h0; simp only [h0, and_self]; done) | (intro h0; simp only [h0, Bool.not_false, Bool.not_true, Bool.true_and, Bool.and_true, true_and, and_true, and_self, imp_self, implies_true, bne_iff_ne, ne_eq, beq_iff_eq]; done) | (intros; simp_all; done) | exact True.intro) ?_)
 refine Z5 ?_
 try simp only [Zn, Zj]
 have h := Option.some.inj h; subst h
 refine Zy (.inr rfl) hU [.val (.bool (cond (decide (2 ≤ a0)) (decide (a0 ≤ 9)) false))] (by omega) ?_
 simp only [push_cast, seval, ↓reduceIte, Za, Try.results110, hN0, hN]
end Go.Proofs.Ytbcgiaijjaocdaa
