/- Part VM5 of this seat's mirrors: functions of the seat's program, and the plain functions that they are; each theorem bears its own conditions. -/
import Derived.Test.YtbcgiaijjaocdaaVE
import Derived.Test.YtbcgiaijjaocdaaVM3
namespace Go.Proofs.Ytbcgiaijjaocdaa
open Go.RowKit
set_option linter.unusedVariables false
set_option linter.unusedSimpArgs false
set_option maxRecDepth 100000
set_option maxHeartbeats 1000000
attribute [local push_cast] Zg Zbx Ym Ze Uo Zsg Zsf Zs3 Zs2 Zn Zj Zon Zjr Zjq onW Xw Zc1 Zbz Zoo Zop Zhh evS wok Q0 Op.operands Call.operands gop onK onP atK List.all_cons List.all_nil Bool.and_true Bool.true_and Bool.and_self Value.oneCell' List.take_zero List.take_succ_cons List.take_nil List.drop_zero List.drop_succ_cons List.drop_nil List.append_nil Nat.add_zero Nat.zero_add Ui Yg ev Jc Zc0 Zwp Zqt Zqs Zwt Zhx Zdv Zhc Zc6 Zl4 Zf0 Up Zju Zjt Zb0 Zit Zb1 Zjp Zht Zsl bLo bHi bMx Zdw Zjo Zwr Zhs Zjf Zfr Zan Zrc Zwv Zir Zw0 Zdu Zz2 Jb Zhv gone Zpe Zkb Zka pop TK.isAgg G.one G.under G.unders List.getD_cons_zero List.getD_cons_succ List.set_cons_zero List.set_cons_succ List.map_cons List.map_nil List.toList_toArray Array.toList_append Option.toArray_none Option.toArray_some Array.toList_map Option.map_some Option.map_none Option.bind_some Option.bind_none List.getElem?_cons_zero List.getElem?_cons_succ List.getElem?_nil List.nil_append List.cons_append List.replicate_succ List.replicate_zero List.length_cons List.length_nil and_true true_and and_false false_and Bool.true_eq_false Bool.false_eq_true forall_const false_implies implies_true IntKind.bits if_true if_false ite_true ite_false eq_self true_implies false_or or_false or_true true_or not_true_eq_false not_false_eq_true decide_true decide_false decide_eq_true_eq decide_eq_false_iff_not beq_iff_eq bne_iff_ne ne_eq Bool.not_eq_true Bool.not_eq_false beq_eq_false_iff_ne bne_eq_false_iff_eq beq_self_eq_true bne_self_eq_false Option.some.injEq exists_eq_left' exists_eq_left ge_iff_le gt_iff_lt decide_not Bool.not_true Bool.not_false imp_self Zwx cond_true cond_false Z5h Z5g Bool.not_not Bool.and_false Bool.false_and Bool.or_true Bool.true_or Bool.or_false Bool.false_or K8 Zah Uj K9 Y0 Yl Option.join_some Nat.add_assoc Int.toNat_natCast eI eB eS eL Y2 Zis Zhu Zsk Zsi Zsj Z0b Z1z Ziw Zic Ztc Zta Ztb Zvn Zjl Zu4 Zli Zr6 Zge Zr8 List.length_append G.agg.injEq G.row.injEq G.ref.injEq G.val.injEq G.sl.injEq G.tup.injEq Value.int.injEq Value.bool.injEq Value.string.injEq List.cons.injEq exists_and_left exists_const List.flatten_cons List.flatten_nil Int.le_refl Nat.le_refl Xz Yf Yj Bool.not_eq_true' Bool.not_eq_false' Zut Zlo Zyd Zyh Zyc Zyg Z3x Z3t List.size_toArray Znb Zph G.ren G.rens Zqz Zga Ztg Zsa Zsb Zpu Zyi Ze3 G.fn.injEq Zqo Zqp Zus Z3u Zqn Zyf Z3w Z3v Zye Zw3 Z1n Option.join_none Z8 V5 undef Zjh Arr.len Arr.put_eq Ziv Zmf Zj7 Zib Zs9 Zs7 Zs8 onB Z0a Zrb Zpq Znq Znr Zns Znt Znu Znv Zl8 Zmi Zmg Zj9 Zid Zmh Zpd Zpc Zpb Zpa Z1y Z4m Zvm Zs4 Gd Zvi Zm6 Zmj Zj8 Zw6 Zps Zhr Zje Zek Zlg Znw Znx Zny Znz Zlp Zlq Zlr Zls Zlt Zlu Zlv Zep prT Zfm Z54 Zx4 Z0j Zx5 Z55 Zx6 Zv6 Zx7 Z56 Zx8 Z57 Zx9 Z58 Zya Z59 Zyb Z2p Ztq Z2q Ztr Z2r Zts Z2s Ztt Z2t Ztu Z2u Ztv Z2v Ztw Z2w Ztx Z2x Zty Z2y Ztz Z2z Zt0 Z20 Zln Zv5 Zcw Z21 Zt1 Vs Zt2 Z22 Zt3 Z23 Zt4 Z24 Zt5 Z25 Zt6 Zpv Zt7 Z26 Zt8 Z27 Zt9 Z28 Zua Zfg Zub Z29 Zuc Zru Zud Z3a Zue Z3b Zuf Zc5 Zug Z3c Zuh Zlm Zui Z3d Zuj Z3e Zuk Z3f Zul Z3g Zum Z3h Zun Z3i Zuo Zv7 Znp Z3j Zup Zxg Zpw Zxh Zpx Zxi Zpy Zxj Zpz Zxk Zp0 Zxl Zp1 Zxm Zp2 Zxn Zp3 Zxo Zp4 Zxp Zp5 Zxq Zp6 Zxr Zp7 Zxs Zp8 Zxt Zp9 Zxu Zqa Zxv Zqb Zxw Zqc Zxx Zqd Zxy Zqe Zxz Zqf Zx0 Zqg Zx1 Zqh Zx2 Zqi Zb Yn Zkl Zkk Zjy Zj5 Zkm Zin Zif Zie Zki Zdl Zdk Zc9 Zde Zdm Zcy Zcr Zcq Zdj Zh X4 Zf Zk Xl Xv Y1 Za7 Za5 Zao Zaw Zba Zac G0 Gy Za2 Zbm Zbl Zbi Zbj Zbn Za4 Za0 Zaz Zbk Zfk Zfj Zev Ze2 Zfl Zed Zeb Zea Zfh Zmv Zmu Zl6 Zmc Zmw Zkj Zkd Zkc Zmp Z9 Zaf Zae Gv Gx Zag Gg Gf Ge Zab Yc Za8 Za6 Zap Zax Zbb Zad Zaa Gz Za3
theorem Zo4 {Yw : (S_api_Edit → S_api_Tree → Option (S_api_Tree × Bool))} {Yb : (S_api_Edit → S_api_Tree → Option (S_api_Tree × Bool))} {Y3 : (S_api_Edit → S_api_Tree → Option (S_api_Tree × Bool))} {Z4 : (Zi → S_api_Op → Option (Bool × Zi))} {Z3 : (Zi → S_api_Edit → Option (Bool × Zi))} (Jp : ∀ {a0 : S_api_Edit} {a1 : S_api_Tree} {r : (S_api_Tree × Bool)} {O : Objs} {n : Nat}, Yw a0 a1 = some r → GTo Try.prog 58 [.agg (Zg a0), .agg (Ze a1)] O n (.tup [.agg (Ze r.1), .val (.bool r.2)]) O n) (Kl : ∀ {a0 : S_api_Edit} {a1 : S_api_Tree} {r : (S_api_Tree × Bool)} {O : Objs} {n : Nat}, Yb a0 a1 = some r → GTo Try.prog 94 [.agg (Zg a0), .agg (Ze a1)] O n (.tup [.agg (Ze r.1), .val (.bool r.2)]) O n) (Gl : ∀ {a0 : S_api_Edit} {a1 : S_api_Tree} {r : (S_api_Tree × Bool)} {O : Objs} {n : Nat}, Y3 a0 a1 = some r → GTo Try.prog 95 [.agg (Zg a0), .agg (Ze a1)] O n (.tup [.agg (Ze r.1), .val (.bool r.2)]) O n) (Jk : ∀ {a0 : Zi} {a1 : S_api_Op} {r : (Bool × Zi)} {O : Objs} {n : Nat} {i0 j0_0 : Nat}, i0 < n → j0_0 < n → i0 ≠ j0_0 → O i0 = some ⟨false, 139, 2, 1, [.sl a0.left.length (fl Zb a0.left), .row j0_0 a0.out.length]⟩ → O j0_0 = some ⟨true, 25, 3, a0.out.length, fl Zb a0.out⟩ → Z4 a0 a1 = some r → GTo Try.prog 122 [.ref i0 0, .agg (Ym a1)] O n (.val (.bool r.1)) (Zu ((O.upd j0_0 none).upd i0 (some ⟨false, 139, 2, 1, [.sl r.2.left.length (fl Zb r.2.left), .row n r.2.out.length]⟩)) n [some ⟨true, 25, 3, r.2.out.length, fl Zb r.2.out⟩]) (n + 1)) (Qh : ∀ {a0 : Zi} {a1 : S_api_Edit} {r : (Bool × Zi)} {O : Objs} {n : Nat} {i0 j0_0 : Nat}, i0 < n → j0_0 < n → i0 ≠ j0_0 → O i0 = some ⟨false, 139, 2, 1, [.sl a0.left.length (fl Zb a0.left), .row j0_0 a0.out.length]⟩ → O j0_0 = some ⟨true, 25, 3, a0.out.length, fl Zb a0.out⟩ → Z3 a0 a1 = some r → GTo Try.prog 129 [.ref i0 0, .agg (Zg a1)] O n (.val (.bool r.1)) (Zu ((O.upd j0_0 none).upd i0 (some ⟨false, 139, 2, 1, [.sl r.2.left.length (fl Zb r.2.left), .row n r.2.out.length]⟩)) n [some ⟨true, 25, 3, r.2.out.length, fl Zb r.2.out⟩]) (n + 1)) {a0 : S_api_Edit} {a1 : S_api_Tree} {r : (S_api_Tree × Bool)} {O : Objs} {n : Nat} (h : V0 Yw Yb Y3 Z4 Z3 a0 a1 = some r) : GTo Try.prog 58 [.agg (Zg a0), .agg (Ze a1)] O n (.tup [.agg (Ze r.1), .val (.bool r.2)]) O n := by
 unfold V0 at h
 refine Xc Zd Try.call58 Try.func58 rfl (Nat.le_of_ble_eq_true rfl) (Nat.le_refl _) fun hU => ?_
 have hN0 : O n = none := hU.fresh _ (Nat.le_refl _)
 have hN : ∀ k, O (n + k) = none := fun k => hU.fresh _ (Nat.le_add_right _ _)
 show W _ _ _ _ ⟨34, [], [(0, .agg (Zg a0)), (1, .agg (Ze a1))]⟩ (Zu O n []) _
 refine Zs [2, 3, 4] (Zc Zd [] ?_)
 simp only [push_cast, seval, ↓reduceIte, Za, hN0, hN]
 refine Zo ?_
 refine Zs [2, 3, 4, 7] (Zc Zd [] ?_)
 simp only [push_cast, seval, ↓reduceIte, Za, hN0, hN]
 refine Ys ?_
 refine Zs [2, 3, 4, 7, 8] (Zc Zd [] ?_)
 simp only [push_cast, seval, ↓reduceIte, Za, hN0, hN]
 refine Zt (t := (a0.Kind == 0)) rfl (fun c10 => ?_) (fun c10 => ?_)
 ·replace h := Zx c10 h
  refine Zo ?_
  refine Zc Zd [] ?_
  simp only [push_cast, seval, ↓reduceIte, Za, hN0, hN]
  refine Zm [4, 5] [false, false, true] ?_
  simp only [push_cast, seval, ↓reduceIte]
  refine Z5 ?_
  try simp only [Zn, Zj]
  have h := Option.some.inj h; subst h
  refine Zy (.inr rfl) hU [.agg (Ze a1), .val (.bool true)] (by omega) ?_
  simp only [push_cast, seval, ↓reduceIte, Za, Try.results58, hN0, hN]
 replace h := Zw c10 h
 refine Zs [2, 3, 4, 7, 11] (Zc Zd [] ?_)
 simp only [push_cast, seval, ↓reduceIte, Za, hN0, hN]
 refine Zt (t := (a0.Kind == 1)) rfl (fun c9 => ?_) (fun c9 => ?_)
 ·replace h := Zx c9 h
  refine Zo ?_
  obtain ⟨y2, hy2, h⟩ := bC h
  refine Zdn Zd (by kernel_rfl) [false, false, false, false, false, false, true, false] [] (by kernel_rfl) ?_
  simp only [push_cast, seval, ↓reduceIte, Za, hN0, hN]
  refine PCall.of (Zqx hy2) ?_
  simp only [push_cast, seval, ↓reduceIte, Za, hN0, hN]
  refine Zm [4, 5] [false, false, true] ?_
  simp only [push_cast, seval, ↓reduceIte]
  refine Z5 ?_
  try simp only [Zn, Zj]
  have h := Option.some.inj h; subst h
  refine Zy (.inr rfl) hU [.agg (Ze a0.New), .val (.bool y2)] (by omega) ?_
  simp only [push_cast, seval, ↓reduceIte, Za, Try.results58, hN0, hN]
 replace h := Zw c9 h
 refine Zs [2, 3, 4, 7, 19] (Zc Zd [] ?_)
 simp only [push_cast, seval, ↓reduceIte, Za, hN0, hN]
 refine Zt (t := (a0.Kind == 2)) rfl (fun c8 => ?_) (fun c8 => ?_)
 ·replace h := Zx c8 h
  refine Zo ?_
  obtain ⟨y4, hy4, h⟩ := bC h
  refine Zc Zd [] ?_
  simp only [push_cast, seval, ↓reduceIte, Za, hN0, hN]
  refine (Kl hy4).then ?_
  simp only [push_cast, seval, ↓reduceIte, Za, hN0, hN]
  refine Zm [4, 5] [false, false, true] ?_
  simp only [push_cast, seval, ↓reduceIte]
  refine Z5 ?_
  try simp only [Zn, Zj]
  have h := Option.some.inj h; subst h
  refine Zy (.inr rfl) hU [.agg (Ze y4.1), .val (.bool y4.2)] (by omega) ?_
  simp only [push_cast, seval, ↓reduceIte, Za, Try.results58, hN0, hN]
 replace h := Zw c8 h
 refine Zs [2, 3, 4, 26] (Zc Zd [] ?_)
 simp only [push_cast, seval, ↓reduceIte, Za, hN0, hN]
 refine Zt (t := (a0.Kind == 3)) rfl (fun c7 => ?_) (fun c7 => ?_)
 ·replace h := Zx c7 h
  refine Zo ?_
  obtain ⟨y6, hy6, h⟩ := bC h
  refine Zc Zd [] ?_
  simp only [push_cast, seval, ↓reduceIte, Za, hN0, hN]
  refine (Gl hy6).then ?_
  simp only [push_cast, seval, ↓reduceIte, Za, hN0, hN]
  refine Zm [4, 5] [false, false, true] ?_
  simp only [push_cast, seval, ↓reduceIte]
  refine Z5 ?_
  try simp only [Zn, Zj]
  have h := Option.some.inj h; subst h
  refine Zy (.inr rfl) hU [.agg (Ze y6.1), .val (.bool y6.2)] (by omega) ?_
  simp only [push_cast, seval, ↓reduceIte, Za, Try.results58, hN0, hN]
 replace h := Zw c7 h
 refine Z0 ?_
 try simp only [Zn, Zj]
 refine Zm [4] [false, false, true] ?_
 simp only [push_cast, seval, ↓reduceIte]
 refine Zo ?_
 refine Zc Zd [] ?_
 simp only [push_cast, seval, ↓reduceIte, Za, hN0, hN]
 refine Zm [4, 5] [false, false, true] ?_
 simp only [push_cast, seval, ↓reduceIte]
 refine Z5 ?_
 try simp only [Zn, Zj]
 have h := Option.some.inj h; subst h
 refine Zy (.inr rfl) hU [.agg [.val (.int .i64 0), .val (.slice none 0 0), .val (.slice none 0 0)], .val (.bool false)] (by omega) ?_
 simp only [push_cast, seval, ↓reduceIte, Za, Try.results58, hN0, hN]
theorem Zi9 {Yw : (S_api_Edit → S_api_Tree → Option (S_api_Tree × Bool))} {Yb : (S_api_Edit → S_api_Tree → Option (S_api_Tree × Bool))} {Y3 : (S_api_Edit → S_api_Tree → Option (S_api_Tree × Bool))} {Z4 : (Zi → S_api_Op → Option (Bool × Zi))} {Z3 : (Zi → S_api_Edit → Option (Bool × Zi))} (Jp : ∀ {a0 : S_api_Edit} {a1 : S_api_Tree} {r : (S_api_Tree × Bool)} {O : Objs} {n : Nat}, Yw a0 a1 = some r → GTo Try.prog 58 [.agg (Zg a0), .agg (Ze a1)] O n (.tup [.agg (Ze r.1), .val (.bool r.2)]) O n) (Kl : ∀ {a0 : S_api_Edit} {a1 : S_api_Tree} {r : (S_api_Tree × Bool)} {O : Objs} {n : Nat}, Yb a0 a1 = some r → GTo Try.prog 94 [.agg (Zg a0), .agg (Ze a1)] O n (.tup [.agg (Ze r.1), .val (.bool r.2)]) O n) (Gl : ∀ {a0 : S_api_Edit} {a1 : S_api_Tree} {r : (S_api_Tree × Bool)} {O : Objs} {n : Nat}, Y3 a0 a1 = some r → GTo Try.prog 95 [.agg (Zg a0), .agg (Ze a1)] O n (.tup [.agg (Ze r.1), .val (.bool r.2)]) O n) (Jk : ∀ {a0 : Zi} {a1 : S_api_Op} {r : (Bool × Zi)} {O : Objs} {n : Nat} {i0 j0_0 : Nat}, i0 < n → j0_0 < n → i0 ≠ j0_0 → O i0 = some ⟨false, 139, 2, 1, [.sl a0.left.length (fl Zb a0.left), .row j0_0 a0.out.length]⟩ → O j0_0 = some ⟨true, 25, 3, a0.out.length, fl Zb a0.out⟩ → Z4 a0 a1 = some r → GTo Try.prog 122 [.ref i0 0, .agg (Ym a1)] O n (.val (.bool r.1)) (Zu ((O.upd j0_0 none).upd i0 (some ⟨false, 139, 2, 1, [.sl r.2.left.length (fl Zb r.2.left), .row n r.2.out.length]⟩)) n [some ⟨true, 25, 3, r.2.out.length, fl Zb r.2.out⟩]) (n + 1)) (Qh : ∀ {a0 : Zi} {a1 : S_api_Edit} {r : (Bool × Zi)} {O : Objs} {n : Nat} {i0 j0_0 : Nat}, i0 < n → j0_0 < n → i0 ≠ j0_0 → O i0 = some ⟨false, 139, 2, 1, [.sl a0.left.length (fl Zb a0.left), .row j0_0 a0.out.length]⟩ → O j0_0 = some ⟨true, 25, 3, a0.out.length, fl Zb a0.out⟩ → Z3 a0 a1 = some r → GTo Try.prog 129 [.ref i0 0, .agg (Zg a1)] O n (.val (.bool r.1)) (Zu ((O.upd j0_0 none).upd i0 (some ⟨false, 139, 2, 1, [.sl r.2.left.length (fl Zb r.2.left), .row n r.2.out.length]⟩)) n [some ⟨true, 25, 3, r.2.out.length, fl Zb r.2.out⟩]) (n + 1)) {a0 : S_api_Edit} {a1 : S_api_Tree} {r : (S_api_Tree × Bool)} {O : Objs} {n : Nat} (h : Ko Yw Yb Y3 Z4 Z3 a0 a1 = some r) : GTo Try.prog 94 [.agg (Zg a0), .agg (Ze a1)] O n (.tup [.agg (Ze r.1), .val (.bool r.2)]) O n := by
 unfold Ko at h
 refine Xc Zd Try.call94 Try.func94 rfl (Nat.le_of_ble_eq_true rfl) (Nat.le_refl _) fun hU => ?_
 have hN0 : O n = none := hU.fresh _ (Nat.le_refl _)
 have hN : ∀ k, O (n + k) = none := fun k => hU.fresh _ (Nat.le_add_right _ _)
 show W _ _ _ _ ⟨92, [], [(0, .agg (Zg a0)), (1, .agg (Ze a1))]⟩ (Zu O n []) _
 refine Zs [2, 3, 4] (Zc Zd [] ?_)
 simp only [push_cast, seval, ↓reduceIte, Za, hN0, hN]
 refine Zo ?_
 refine Zs [2, 3, 4, 16] (Zc Zd [] ?_)
 simp only [push_cast, seval, ↓reduceIte, Za, hN0, hN]
 refine Zt (t := (a1.Kind != 1)) rfl (fun c138 => ?_) (fun c138 => ?_)
 ·replace h := Zx c138 h
  refine Zo ?_
  refine Zc Zd [] ?_
  simp only [push_cast, seval, ↓reduceIte, Za, hN0, hN]
  refine Zm [4, 5] [false, false, true] ?_
  simp only [push_cast, seval, ↓reduceIte]
  refine Z5 ?_
  try simp only [Zn, Zj]
  have h := Option.some.inj h; subst h
  refine Zy (.inr rfl) hU [.agg [.val (.int .i64 0), .val (.slice none 0 0), .val (.slice none 0 0)], .val (.bool false)] (by omega) ?_
  simp only [push_cast, seval, ↓reduceIte, Za, Try.results94, hN0, hN]
 replace h := Zw c138 h
 refine Z0 ?_
 try simp only [Zn, Zj]
 refine Zm [2, 3, 4] [true, true, true] ?_
 simp only [push_cast, seval, ↓reduceIte]
 obtain ⟨y25, hy25, h⟩ := bC h
 obtain ⟨y61, hy61, h⟩ := bC h
 refine Y5 (E' := ⟨92, [], [(2, .ref n 0), (3, .ref (n + 1) 0), (4, .ref (n + 2) 0), (6, .ref (n + 5) 0)]⟩) (O' := (Zu O n [some ⟨false, 30, 11, 1, (Zg a0)⟩, some ⟨false, 25, 3, 1, (Ze a1)⟩, some ⟨false, 25, 3, 1, [.val (.int .i64 0), .val (.slice none 0 0), .val (.slice none 0 0)]⟩, some ⟨true, 56, 1, y25.length, fl (eI .u64) y25⟩, some ⟨true, 25, 3, y61.length, fl Zb y61⟩, some ⟨false, 25, 3, 1, [.val (.int .i64 1), .row (n + 3) y25.length, .row (n + 4) y61.length]⟩])) (n0 := (n + 6)) ?_ ?_
 ·refine Z33 Zd (by kernel_rfl) [.low, .low, .pass, .low, .low, .pass, .plain, .pass, .pass] (fun i => i < (n + 3)) [0, 1, 3, 4] [2, 5, 6, 7] [8] (.two 2 (.two 5 (.seq [6, 7]) 7 (.seq [5, 6])) 7 (.seq [2, 5, 6])) [.low, .low, .low, .low] [] (by kernel_rfl) rfl ?_
  simp only [push_cast, seval, ↓reduceIte, Za, hN0, hN]
  repeat (with_reducible refine And.intro (by omega) ?_)
  try simp only [push_cast, seval, ↓reduceIte, Za, hN0, hN]
  refine And.intro ?_ ?_
  ·try simp only [push_cast, seval, ↓reduceIte, Za, hN0, hN]
   repeat (with_reducible refine And.intro (by first | exact Yt rfl | exact Yi) ?_)
   refine (U1 hy25).then ?_
   try simp only [push_cast, seval, ↓reduceIte, Za, hN0, hN]
   repeat (with_reducible refine And.intro (by first | exact Yt rfl | exact Yi) ?_)
   try simp only [push_cast, seval, ↓reduceIte, Za, hN0, hN]
   refine And.intro ?_ ?_
   ·try simp only [push_cast, seval, ↓reduceIte, Za, hN0, hN]
    repeat (with_reducible refine And.intro (by first | exact Yt rfl | exact Yi) ?_)
    refine (Jd hy61).then ?_
    try simp only [push_cast, seval, ↓reduceIte, Za, hN0, hN]
    repeat (with_reducible refine And.intro (by first | exact Yt rfl | exact Yi) ?_)
    try simp only [push_cast, seval, ↓reduceIte, Za, hN0, hN]
    repeat (with_reducible refine And.intro (by first | exact Yt rfl | exact Yi) ?_)
    refine And.intro rfl (Fit2.of (Zl hU rfl rfl ?_) (by omega))
    simp only [push_cast, seval, ↓reduceIte, Za, hN0, hN]
   try simp only [push_cast, seval, ↓reduceIte, Za, hN0, hN]
   repeat (with_reducible refine And.intro (by first | exact Yt rfl | exact Yi) ?_)
   try simp only [push_cast, seval, ↓reduceIte, Za, hN0, hN]
   repeat (with_reducible refine And.intro (by first | exact Yt rfl | exact Yi) ?_)
   refine (Jd hy61).then ?_
   try simp only [push_cast, seval, ↓reduceIte, Za, hN0, hN]
   repeat (with_reducible refine And.intro (by first | exact Yt rfl | exact Yi) ?_)
   refine And.intro rfl ?_
   refine Fit2.trans (E' := (⟨92, [], [(2, .ref n 0), (3, .ref (n + 1) 0), (4, .ref (n + 2) 0), (6, .ref (n + 4) 0)]⟩ : Env)) (O' := (Zu O n [some ⟨false, 30, 11, 1, (Zg a0)⟩, some ⟨false, 25, 3, 1, (Ze a1)⟩, some ⟨false, 25, 3, 1, [.val (.int .i64 0), .val (.slice none 0 0), .val (.slice none 0 0)]⟩, some ⟨true, 56, 1, y25.length, fl (eI .u64) y25⟩, some ⟨false, 25, 3, 1, [.val (.int .i64 1), .row (n + 3) y25.length, .row (n + 5) y61.length]⟩, some ⟨true, 25, 3, y61.length, fl Zb y61⟩])) (n' := (n + 6)) (Fit2.of (Zl hU rfl rfl ?_) (by omega)) ?_
   ·simp only [push_cast, seval, ↓reduceIte, Za, hN0, hN]
   refine Jt (k := 6) (k' := 6) hU [0, 1, 2, 3, 5, 4] [0, 1, 2, 3, 5, 4] rfl rfl rfl rfl ⟨rfl, rfl⟩ ?_
   simp only [push_cast, seval, ↓reduceIte, Za, hN0, hN]
  try simp only [push_cast, seval, ↓reduceIte, Za, hN0, hN]
  repeat (with_reducible refine And.intro (by first | exact Yt rfl | exact Yi) ?_)
  try simp only [push_cast, seval, ↓reduceIte, Za, hN0, hN]
  repeat (with_reducible refine And.intro (by first | exact Yt rfl | exact Yi) ?_)
  refine (U1 hy25).then ?_
  try simp only [push_cast, seval, ↓reduceIte, Za, hN0, hN]
  repeat (with_reducible refine And.intro (by first | exact Yt rfl | exact Yi) ?_)
  refine (Jd hy61).then ?_
  try simp only [push_cast, seval, ↓reduceIte, Za, hN0, hN]
  repeat (with_reducible refine And.intro (by first | exact Yt rfl | exact Yi) ?_)
  refine And.intro rfl ?_
  refine Fit2.trans (E' := (⟨92, [], [(2, .ref n 0), (3, .ref (n + 1) 0), (4, .ref (n + 2) 0), (6, .ref (n + 3) 0)]⟩ : Env)) (O' := (Zu O n [some ⟨false, 30, 11, 1, (Zg a0)⟩, some ⟨false, 25, 3, 1, (Ze a1)⟩, some ⟨false, 25, 3, 1, [.val (.int .i64 0), .val (.slice none 0 0), .val (.slice none 0 0)]⟩, some ⟨false, 25, 3, 1, [.val (.int .i64 1), .row (n + 4) y25.length, .row (n + 5) y61.length]⟩, some ⟨true, 56, 1, y25.length, fl (eI .u64) y25⟩, some ⟨true, 25, 3, y61.length, fl Zb y61⟩])) (n' := (n + 6)) (Fit2.of (Zl hU rfl rfl ?_) (by omega)) ?_
  ·simp only [push_cast, seval, ↓reduceIte, Za, hN0, hN]
  refine Jt (k := 6) (k' := 6) hU [0, 1, 2, 5, 3, 4] [0, 1, 2, 4, 5, 3] rfl rfl rfl rfl ⟨rfl, rfl⟩ ?_
  simp only [push_cast, seval, ↓reduceIte, Za, hN0, hN]
 refine Zo ?_
 refine Zs [2, 3, 4, 6, 26, 27, 28] (Zc Zd [] ?_)
 simp only [push_cast, seval, ↓reduceIte, Za, hN0, hN]
 refine Zm [2, 3, 4, 6, 26, 27, 28] [true, true, true, true, true, true] ?_
 simp only [push_cast, seval, ↓reduceIte]
 refine Ja (E' := (⟨92, [], [(2, .ref n 0), (3, .ref (n + 1) 0), (4, .ref (n + 2) 0), (6, .ref (n + 5) 0), (26, .sl a0.Words.length (fl Zh a0.Words)), (27, .val (.int .i64 (a0.Words.length : Int))), (28, .val (.int .i64 0))]⟩ : Env)) (O' := (Zu O n [some ⟨false, 30, 11, 1, (Zg a0)⟩, some ⟨false, 25, 3, 1, (Ze a1)⟩, some ⟨false, 25, 3, 1, [.val (.int .i64 0), .val (.slice none 0 0), .val (.slice none 0 0)]⟩, none, none, some ⟨false, 25, 3, 1, [.val (.int .i64 1), .row (n + 6) y25.length, .row (n + 7) y61.length]⟩, some ⟨true, 56, 1, y25.length, fl (eI .u64) y25⟩, some ⟨true, 25, 3, y61.length, fl Zb y61⟩, none])) (n' := (n + 9)) ?_ ?_
 ·refine Fit2.trans (E' := (⟨92, [], [(2, .ref n 0), (3, .ref (n + 1) 0), (4, .ref (n + 2) 0), (6, .ref (n + 5) 0), (26, .sl a0.Words.length (fl Zh a0.Words)), (27, .val (.int .i64 (a0.Words.length : Int))), (28, .val (.int .i64 0))]⟩ : Env)) (O' := (Zu O n [some ⟨false, 30, 11, 1, (Zg a0)⟩, some ⟨false, 25, 3, 1, (Ze a1)⟩, some ⟨false, 25, 3, 1, [.val (.int .i64 0), .val (.slice none 0 0), .val (.slice none 0 0)]⟩, some ⟨true, 56, 1, y25.length, fl (eI .u64) y25⟩, some ⟨true, 25, 3, y61.length, fl Zb y61⟩, some ⟨false, 25, 3, 1, [.val (.int .i64 1), .row (n + 3) y25.length, .row (n + 4) y61.length]⟩])) (n' := (n + 6)) (Fit2.of (Zl hU rfl rfl ?_) (by omega)) ?_
  ·simp only [push_cast, seval, ↓reduceIte, Za, hN0, hN]
  refine Jt (k := 6) (k' := 9) hU [0, 1, 2, 6, 7, 5] [0, 1, 2, 0, 0, 5, 3, 4, 0] rfl rfl rfl rfl ⟨rfl, rfl⟩ ?_
  simp only [push_cast, seval, ↓reduceIte, Za, hN0, hN]
 obtain ⟨z125, hz125, h⟩ := bC h
 refine Zcd (J := (Q2 (fun z125 => JR n (⟨92, [], [(4, .ref (n + 2) 0), (5, .val (.bool false))]⟩ : Env) (Zu O n [none, none, some ⟨false, 25, 3, 1, [.val (.int .i64 0), .val (.slice none 0 0), .val (.slice none 0 0)]⟩, none, none, none]) (n + 6)) (fun z125 => JX 0 n (⟨92, [], [(2, .ref n 0), (3, .ref (n + 1) 0), (4, .ref (n + 2) 0), (6, .ref (n + 5) 0)]⟩ : Env) (Zu O n [some ⟨false, 30, 11, 1, (Zg a0)⟩, some ⟨false, 25, 3, 1, (Ze a1)⟩, some ⟨false, 25, 3, 1, [.val (.int .i64 0), .val (.slice none 0 0), .val (.slice none 0 0)]⟩, none, none, some ⟨false, 25, 3, 1, [.val (.int .i64 z125.1), .row (n + 6) z125.2.1.length, .row (n + 7) z125.2.2.length]⟩, some ⟨true, 56, 1, z125.2.1.length, fl (eI .u64) z125.2.1⟩, some ⟨true, 25, 3, z125.2.2.length, fl Zb z125.2.2⟩, none]) (n + 9)))) (z := z125) ?_ fun hw => ?_
 ·refine Y7 hz125 (fun s0_ => ⟨92, [], [(2, .ref n 0), (3, .ref (n + 1) 0), (4, .ref (n + 2) 0), (6, .ref (n + 5) 0), (26, .sl a0.Words.length (fl Zh a0.Words)), (27, .val (.int .i64 (a0.Words.length : Int))), (28, .val (.int .i64 s0_.1))]⟩) (fun s0_ => (Zu O n [some ⟨false, 30, 11, 1, (Zg a0)⟩, some ⟨false, 25, 3, 1, (Ze a1)⟩, some ⟨false, 25, 3, 1, [.val (.int .i64 0), .val (.slice none 0 0), .val (.slice none 0 0)]⟩, none, none, some ⟨false, 25, 3, 1, [.val (.int .i64 s0_.2.1), .row (n + 6) s0_.2.2.1.length, .row (n + 7) s0_.2.2.2.length]⟩, some ⟨true, 56, 1, s0_.2.2.1.length, fl (eI .u64) s0_.2.2.1⟩, some ⟨true, 25, 3, s0_.2.2.2.length, fl Zb s0_.2.2.2⟩, none])) (Q2 (fun z125 => JR n (⟨92, [], [(4, .ref (n + 2) 0), (5, .val (.bool false))]⟩ : Env) (Zu O n [none, none, some ⟨false, 25, 3, 1, [.val (.int .i64 0), .val (.slice none 0 0), .val (.slice none 0 0)]⟩, none, none, none]) (n + 6)) (fun z125 => JX 0 n (⟨92, [], [(2, .ref n 0), (3, .ref (n + 1) 0), (4, .ref (n + 2) 0), (6, .ref (n + 5) 0)]⟩ : Env) (Zu O n [some ⟨false, 30, 11, 1, (Zg a0)⟩, some ⟨false, 25, 3, 1, (Ze a1)⟩, some ⟨false, 25, 3, 1, [.val (.int .i64 0), .val (.slice none 0 0), .val (.slice none 0 0)]⟩, none, none, some ⟨false, 25, 3, 1, [.val (.int .i64 z125.1), .row (n + 6) z125.2.1.length, .row (n + 7) z125.2.2.length]⟩, some ⟨true, 56, 1, z125.2.1.length, fl (eI .u64) z125.2.1⟩, some ⟨true, 25, 3, z125.2.2.length, fl Zb z125.2.2⟩, none]) (n + 9))) ?_
  intro s0_ x0_ hs0_
  unfold X9 at hs0_
  try dsimp only
  refine Zs [2, 3, 4, 6, 26, 27, 28, 29] (Zc Zd [] ?_)
  simp only [push_cast, seval, ↓reduceIte, Za, hN0, hN]
  refine Zo ?_
  refine Zt (t := (decide (s0_.1 < (a0.Words.length : Int)))) rfl (fun c124 => ?_) (fun c124 => ?_)
  ·replace hs0_ := Zx c124 hs0_
   refine Z0 ?_
   try simp only [Zn, Zj]
   refine Zm [2, 3, 4, 6, 26, 27, 28] [true, true, true, false, false, true, true, true, false] ?_
   simp only [push_cast, seval, ↓reduceIte]
   refine Zo ?_
   refine Ys ?_
   refine Zo ?_
   obtain ⟨x110, hx110, ax110, bx110, cx110, hs0_⟩ := bE (f := Zh) Zru (fun _ => rfl) (by decide) hs0_
   refine Zc Zd [] ?_
   simp only [push_cast, Nat.reduceAdd, Nat.reduceSub, Nat.reduceMul, Nat.reduceLeDiff, Nat.reduceLT, Nat.reduceEqDiff, ↓reduceIte, reduceCtorEq, Int.reduceBEq, Int.reduceBNe, Nat.reduceBEq, Int.reduceLE, Int.reduceLT, Int.reduceEq, Int.reduceNe, Int.reduceNeg, Nat.reduceDiv, Nat.reduceMod, Nat.reducePow, Za, ax110, bx110, cx110, hN0, hN]
   refine Zm [2, 3, 4, 6, 8, 26, 27, 28] [true, true, true, false, false, true, true, true, false, true] ?_
   simp only [push_cast, seval, ↓reduceIte]
   refine Zo ?_
   obtain ⟨y112, hy112, hs0_⟩ := bC hs0_
   refine Zc Zd [] ?_
   simp only [push_cast, seval, ↓reduceIte, Za, hN0, hN]
   refine (Zs0 hy112).then ?_
   simp only [push_cast, seval, ↓reduceIte, Za, hN0, hN]
   refine Zm [2, 3, 4, 6, 8, 9, 26, 27, 28] [true, true, true, false, false, true, true, true, false, true] ?_
   simp only [push_cast, seval, ↓reduceIte]
   refine Zo ?_
   obtain ⟨z115, hz115, hs0_⟩ := bC hs0_
   refine Y5 (E' := ⟨92, [], [(2, .ref n 0), (3, .ref (n + 1) 0), (4, .ref (n + 2) 0), (6, .ref (n + 5) 0), (8, .ref (n + 9) 0), (9, .val (.int .u64 y112)), (26, .sl a0.Words.length (fl Zh a0.Words)), (27, .val (.int .i64 (a0.Words.length : Int))), (28, .val (.int .i64 s0_.1)), (49, .val (.bool z115))]⟩) (O' := (Zu O n [some ⟨false, 30, 11, 1, (Zg a0)⟩, some ⟨false, 25, 3, 1, (Ze a1)⟩, some ⟨false, 25, 3, 1, [.val (.int .i64 0), .val (.slice none 0 0), .val (.slice none 0 0)]⟩, none, none, some ⟨false, 25, 3, 1, [.val (.int .i64 s0_.2.1), .row (n + 6) s0_.2.2.1.length, .row (n + 7) s0_.2.2.2.length]⟩, some ⟨true, 56, 1, s0_.2.2.1.length, fl (eI .u64) s0_.2.2.1⟩, some ⟨true, 25, 3, s0_.2.2.2.length, fl Zb s0_.2.2.2⟩, none, some ⟨false, 58, 4, 1, (Uo x110)⟩])) (n0 := (n + 10)) ?_ ?_
   ·obtain ⟨y118, hy118, hz115⟩ := bC hz115
    rcases Bool.eq_false_or_eq_true y118 with c120 | c120
    ·replace hz115 := Zx c120 hz115
     refine Qz Zd (by kernel_rfl) [some false, some false, some false, some false, some false, some false, some false, some false, some false] (by kernel_rfl) ?_
     simp only [push_cast, seval, ↓reduceIte, Za, c120, hN0, hN]
     refine PCall.of (Zdc hy118) ?_
     simp only [push_cast, seval, ↓reduceIte, Za, c120, hN0, hN]
     have hz115 := Option.some.inj hz115; subst hz115
     refine And.intro rfl (Fit2.of (Zl hU rfl rfl ?_) (by omega))
     simp only [push_cast, seval, ↓reduceIte, Za, c120, hN0, hN]
    replace hz115 := Zw c120 hz115
    obtain ⟨y119, hy119, hz115⟩ := bC hz115
    refine Qz Zd (by kernel_rfl) [some true, some true, some true, some true, some true, some true, some true, some true, some true] (by kernel_rfl) ?_
    simp only [push_cast, seval, ↓reduceIte, Za, c120, hN0, hN]
    refine PCall.of (Zdc hy118) ?_
    simp only [push_cast, seval, ↓reduceIte, Za, c120, hN0, hN]
    refine PCall.of (Zk8 hy119) ?_
    simp only [push_cast, seval, ↓reduceIte, Za, c120, hN0, hN]
    have hz115 := Option.some.inj hz115; subst hz115
    refine And.intro rfl (Fit2.of (Zl hU rfl rfl ?_) (by omega))
    simp only [push_cast, seval, ↓reduceIte, Za, c120, hN0, hN]
   refine Zt (t := z115) rfl (fun c123 => ?_) (fun c123 => ?_)
   ·replace hs0_ := Zx c123 hs0_
    refine Zo ?_
    refine Zc Zd [] ?_
    simp only [push_cast, seval, ↓reduceIte, Za, hN0, hN]
    refine Zm [4, 5] [false, false, true, false, false, false, false, false, false, false] ?_
    simp only [push_cast, seval, ↓reduceIte]
    refine Z5 ?_
    try simp only [Zn, Zj]
    have hs0_ := Option.some.inj hs0_; subst hs0_
    refine And.intro (fun h => by cases h) (And.intro rfl (Fit2.of (Zl hU rfl rfl ?_) (by omega)))
    simp only [push_cast, seval, ↓reduceIte, Za, hN0, hN]
   replace hs0_ := Zw c123 hs0_
   refine Z0 ?_
   try simp only [Zn, Zj]
   refine Zm [2, 3, 4, 6, 8, 9, 26, 27, 28] [true, true, true, false, false, true, true, true, false, true] ?_
   simp only [push_cast, seval, ↓reduceIte]
   obtain ⟨y121, hy121, hs0_⟩ := bC hs0_
   obtain ⟨y122, hy122, hs0_⟩ := bC hs0_
   refine Zdn Zd (by kernel_rfl) [false, false, false, false, false, false, false, false, true] [] (by kernel_rfl) ?_
   simp only [push_cast, seval, ↓reduceIte, Za, hN0, hN]
   refine PCall.of (Zvl hy121) ?_
   simp only [push_cast, seval, ↓reduceIte, Za, hN0, hN]
   refine (Zl9 (i0 := (n + 5)) (j0_0 := (n + 7)) (j0_1 := (n + 6)) (by omega) (by omega) (by omega) (by omega) (by omega) (by omega) (by simp only [push_cast, seval, ↓reduceIte, Za, Y2, hN0, hN] <;> rfl) (by simp only [push_cast, seval, ↓reduceIte, Za, Y2, hN0, hN] <;> rfl) (by simp only [push_cast, seval, ↓reduceIte, Za, Y2, hN0, hN] <;> rfl) hy122).then ?_
   simp only [push_cast, seval, ↓reduceIte, Za, hN0, hN]
   refine Zm [2, 3, 4, 6, 26, 27, 28] [true, true, true, false, false, true, false, false, false, false, true, true] ?_
   simp only [push_cast, seval, ↓reduceIte]
   refine Zc Zd [] ?_
   simp only [push_cast, seval, ↓reduceIte, Za, hN0, hN]
   have hs0_ := Option.some.inj hs0_; subst hs0_
   refine And.intro rfl ?_
   refine Fit2.trans (E' := (⟨92, [], [(2, .ref n 0), (3, .ref (n + 1) 0), (4, .ref (n + 2) 0), (6, .ref (n + 5) 0), (26, .sl a0.Words.length (fl Zh a0.Words)), (27, .val (.int .i64 (a0.Words.length : Int))), (28, .val (.int .i64 (IntKind.i64.wrap (s0_.1 + 1))))]⟩ : Env)) (O' := (Zu O n [some ⟨false, 30, 11, 1, (Zg a0)⟩, some ⟨false, 25, 3, 1, (Ze a1)⟩, some ⟨false, 25, 3, 1, [.val (.int .i64 0), .val (.slice none 0 0), .val (.slice none 0 0)]⟩, none, none, some ⟨false, 25, 3, 1, [.val (.int .i64 y122.Kind), .row (n + 11) y122.Words.length, .row (n + 10) y122.Kids.length]⟩, none, none, none, none, some ⟨true, 25, 3, y122.Kids.length, fl Zb y122.Kids⟩, some ⟨true, 56, 1, y122.Words.length, fl (eI .u64) y122.Words⟩])) (n' := (n + 12)) (Fit2.of (Zl hU rfl rfl ?_) (by omega)) ?_
   ·simp only [push_cast, seval, ↓reduceIte, Za, hN0, hN]
   refine Jt (k := 12) (k' := 9) hU [0, 1, 2, 8, 8, 5, 8, 8, 8, 8, 7, 6] [0, 1, 2, 0, 0, 5, 11, 10, 0] rfl rfl rfl rfl ⟨rfl, rfl⟩ ?_
   simp only [push_cast, seval, ↓reduceIte, Za, hN0, hN]
  replace hs0_ := Zw c124 hs0_
  refine Xs ?_
  try simp only [Zn, Zj, ↓reduceIte, Nat.reduceEqDiff]
  have hs0_ := Option.some.inj hs0_; subst hs0_
  refine And.intro (fun h => by cases h) (And.intro rfl (Fit2.of (Zl hU rfl rfl ?_) (by omega)))
  simp only [push_cast, seval, ↓reduceIte, Za, hN0, hN]
 rcases z125 with z125 | z125
 ·dsimp only [Q2] at hw h
  refine Vz hw ?_
  try simp only [Zn, Zj, ↓reduceIte, Nat.reduceEqDiff]
  have h := Option.some.inj h; subst h
  refine Zy (.inr rfl) hU [.agg [.val (.int .i64 0), .val (.slice none 0 0), .val (.slice none 0 0)], .val (.bool false)] (by omega) ?_
  simp only [push_cast, seval, ↓reduceIte, Za, Try.results94, hN0, hN]
 dsimp only [Q2] at hw h
 refine Yv hw ?_
 try simp only [Zn, Zj, ↓reduceIte, Nat.reduceEqDiff]
 refine Zm [2, 3, 4, 6] [true, true, true, false, false, true, true, true, false] ?_
 simp only [push_cast, seval, ↓reduceIte]
 refine Zo ?_
 refine Zs [3, 4, 6, 62, 63, 64] (Zc Zd [] ?_)
 simp only [push_cast, seval, ↓reduceIte, Za, hN0, hN]
 refine Zm [3, 4, 6, 62, 63, 64] [false, true, true, false, false, true, true, true, false] ?_
 simp only [push_cast, seval, ↓reduceIte]
 refine Ja (E' := (⟨92, [], [(3, .ref (n + 1) 0), (4, .ref (n + 2) 0), (6, .ref (n + 5) 0), (62, .sl a0.Kids.length (fl Zk a0.Kids)), (63, .val (.int .i64 (a0.Kids.length : Int))), (64, .val (.int .i64 0))]⟩ : Env)) (O' := (Zu O n [none, some ⟨false, 25, 3, 1, (Ze a1)⟩, some ⟨false, 25, 3, 1, [.val (.int .i64 0), .val (.slice none 0 0), .val (.slice none 0 0)]⟩, none, none, some ⟨false, 25, 3, 1, [.val (.int .i64 z125.1), .sl z125.2.1.length (fl (eI .u64) z125.2.1), .row (n + 9) z125.2.2.length]⟩, none, none, none, some ⟨true, 25, 3, z125.2.2.length, fl Zb z125.2.2⟩, none])) (n' := (n + 11)) ?_ ?_
 ·refine Fit2.trans (E' := (⟨92, [], [(3, .ref (n + 1) 0), (4, .ref (n + 2) 0), (6, .ref (n + 5) 0), (62, .sl a0.Kids.length (fl Zk a0.Kids)), (63, .val (.int .i64 (a0.Kids.length : Int))), (64, .val (.int .i64 0))]⟩ : Env)) (O' := (Zu O n [none, some ⟨false, 25, 3, 1, (Ze a1)⟩, some ⟨false, 25, 3, 1, [.val (.int .i64 0), .val (.slice none 0 0), .val (.slice none 0 0)]⟩, none, none, some ⟨false, 25, 3, 1, [.val (.int .i64 z125.1), .sl z125.2.1.length (fl (eI .u64) z125.2.1), .row (n + 7) z125.2.2.length]⟩, none, some ⟨true, 25, 3, z125.2.2.length, fl Zb z125.2.2⟩, none])) (n' := (n + 9)) (Fit2.of (Zl hU rfl rfl ?_) (by omega)) ?_
  ·simp only [push_cast, seval, ↓reduceIte, Za, hN0, hN]
  refine Jt (k := 9) (k' := 11) hU [10, 1, 2, 10, 10, 5, 10, 9, 10] [0, 1, 2, 0, 0, 5, 0, 0, 0, 7, 0] rfl rfl rfl rfl ⟨rfl, rfl⟩ ?_
  simp only [push_cast, seval, ↓reduceIte, Za, hN0, hN]
 obtain ⟨z137, hz137, h⟩ := bC h
 refine Zcd (J := (Q2 (fun z137 => JR n (⟨92, [], [(4, .ref (n + 2) 0), (5, .val (.bool false))]⟩ : Env) (Zu O n [none, none, some ⟨false, 25, 3, 1, [.val (.int .i64 0), .val (.slice none 0 0), .val (.slice none 0 0)]⟩, none, none, none, none, none, none]) (n + 9)) (fun z137 => JX 2 n (⟨92, [], [(4, .ref (n + 2) 0), (6, .ref (n + 5) 0)]⟩ : Env) (Zu O n [none, none, some ⟨false, 25, 3, 1, [.val (.int .i64 0), .val (.slice none 0 0), .val (.slice none 0 0)]⟩, none, none, some ⟨false, 25, 3, 1, [.val (.int .i64 z137.1), .sl z137.2.1.length (fl (eI .u64) z137.2.1), .row (n + 9) z137.2.2.length]⟩, none, none, none, some ⟨true, 25, 3, z137.2.2.length, fl Zb z137.2.2⟩, none]) (n + 11)))) (z := z137) ?_ fun hw => ?_
 ·refine Y7 hz137 (fun s1_ => ⟨92, [], [(3, .ref (n + 1) 0), (4, .ref (n + 2) 0), (6, .ref (n + 5) 0), (62, .sl a0.Kids.length (fl Zk a0.Kids)), (63, .val (.int .i64 (a0.Kids.length : Int))), (64, .val (.int .i64 s1_.1))]⟩) (fun s1_ => (Zu O n [none, some ⟨false, 25, 3, 1, (Ze a1)⟩, some ⟨false, 25, 3, 1, [.val (.int .i64 0), .val (.slice none 0 0), .val (.slice none 0 0)]⟩, none, none, some ⟨false, 25, 3, 1, [.val (.int .i64 s1_.2.1), .sl s1_.2.2.1.length (fl (eI .u64) s1_.2.2.1), .row (n + 9) s1_.2.2.2.length]⟩, none, none, none, some ⟨true, 25, 3, s1_.2.2.2.length, fl Zb s1_.2.2.2⟩, none])) (Q2 (fun z137 => JR n (⟨92, [], [(4, .ref (n + 2) 0), (5, .val (.bool false))]⟩ : Env) (Zu O n [none, none, some ⟨false, 25, 3, 1, [.val (.int .i64 0), .val (.slice none 0 0), .val (.slice none 0 0)]⟩, none, none, none, none, none, none]) (n + 9)) (fun z137 => JX 2 n (⟨92, [], [(4, .ref (n + 2) 0), (6, .ref (n + 5) 0)]⟩ : Env) (Zu O n [none, none, some ⟨false, 25, 3, 1, [.val (.int .i64 0), .val (.slice none 0 0), .val (.slice none 0 0)]⟩, none, none, some ⟨false, 25, 3, 1, [.val (.int .i64 z137.1), .sl z137.2.1.length (fl (eI .u64) z137.2.1), .row (n + 9) z137.2.2.length]⟩, none, none, none, some ⟨true, 25, 3, z137.2.2.length, fl Zb z137.2.2⟩, none]) (n + 11))) ?_
  intro s1_ x1_ hs1_
  unfold Xn at hs1_
  try dsimp only
  refine Zs [3, 4, 6, 62, 63, 64, 65] (Zc Zd [] ?_)
  simp only [push_cast, seval, ↓reduceIte, Za, hN0, hN]
  refine Zo ?_
  refine Zt (t := (decide (s1_.1 < (a0.Kids.length : Int)))) rfl (fun c136 => ?_) (fun c136 => ?_)
  ·replace hs1_ := Zx c136 hs1_
   refine Z0 ?_
   try simp only [Zn, Zj]
   refine Zm [3, 4, 6, 62, 63, 64] [false, true, true, false, false, true, false, false, false, true, false] ?_
   simp only [push_cast, seval, ↓reduceIte]
   refine Zo ?_
   refine Ys ?_
   refine Zo ?_
   obtain ⟨x127, hx127, ax127, bx127, cx127, hs1_⟩ := bE (f := Zk) Zlm (fun _ => rfl) (by decide) hs1_
   refine Zc Zd [] ?_
   simp only [push_cast, Nat.reduceAdd, Nat.reduceSub, Nat.reduceMul, Nat.reduceLeDiff, Nat.reduceLT, Nat.reduceEqDiff, ↓reduceIte, reduceCtorEq, Int.reduceBEq, Int.reduceBNe, Nat.reduceBEq, Int.reduceLE, Int.reduceLT, Int.reduceEq, Int.reduceNe, Int.reduceNeg, Nat.reduceDiv, Nat.reduceMod, Nat.reducePow, Za, ax127, bx127, cx127, hN0, hN]
   refine Zm [3, 4, 6, 11, 62, 63, 64] [false, true, true, false, false, true, false, false, false, true, false, true] ?_
   simp only [push_cast, seval, ↓reduceIte]
   refine Zo ?_
   obtain ⟨y130, hy130, hs1_⟩ := bC hs1_
   obtain ⟨y131, hy131, hs1_⟩ := bC hs1_
   refine Zai Zd (by kernel_rfl) [.low, .low, .low, .low, .low, .low, .low, .low, .low, .low, .pass, .pass, .plain] (fun i => i < (n + 12)) [0, 1, 2, 3, 4, 5, 6, 7, 8, 9, 10, 11, 12] [.low, .low, .low, .low, .low, .low, .low, .low, .low, .low, .pass, .pass, .plain] [] (by kernel_rfl) rfl ?_
   simp only [push_cast, seval, ↓reduceIte, Za, hN0, hN]
   repeat (with_reducible refine And.intro (by first | omega | exact Yt rfl | exact Yi | exact Qg rfl rfl) ?_)
   first | refine PCallA.of (fun _ _ => Zm1 hy130) ?_ | refine PCall.of (Zm1 hy130) ?_
   simp only [push_cast, seval, ↓reduceIte, Za, hN0, hN]
   repeat (with_reducible refine And.intro (by first | omega | exact Yt rfl | exact Yi | exact Qg rfl rfl) ?_)
   first | refine PCallA.of (fun _ _ => Jp hy131) ?_ | refine PCall.of (Jp hy131) ?_
   simp only [push_cast, seval, ↓reduceIte, Za, hN0, hN]
   repeat (with_reducible refine And.intro (by first | omega | exact Yt rfl | exact Yi | exact Qg rfl rfl) ?_)
   refine Zm [3, 4, 6, 11, 12, 13, 62, 63, 64] [false, true, true, false, false, true, false, false, false, true, false, true, true] ?_
   simp only [push_cast, seval, ↓reduceIte]
   refine Zo ?_
   refine Zo ?_
   obtain ⟨y133, hy133, hs1_⟩ := bC hs1_
   refine Zc Zd [none, none] ?_
   simp only [push_cast, seval, ↓reduceIte, Za, hN0, hN]
   repeat (with_reducible refine And.intro (by first | (intro h0; simp only [h0, and_self]; done) | (intro h0; simp only [h0, Bool.not_false, Bool.not_true, Bool.true_and, Bool.and_true, true_and, and_true, and_self, imp_self, implies_true, bne_iff_ne, ne_eq, beq_iff_eq]; done) | (intros; simp_all; done) | exact True.intro) ?_)
   refine (Zdc hy133).then ?_
   simp only [push_cast, seval, ↓reduceIte, Za, hN0, hN]
   repeat (with_reducible refine And.intro (by first | (intro h0; simp only [h0, and_self]; done) | (intro h0; simp only [h0, Bool.not_false, Bool.not_true, Bool.true_and, Bool.and_true, true_and, and_true, and_self, imp_self, implies_true, bne_iff_ne, ne_eq, beq_iff_eq]; done) | (intros; simp_all; done) | exact True.intro) ?_)
   refine Zm [3, 4, 6, 11, 12, 62, 63, 64, 84] [false, true, true, false, false, true, false, false, false, true, false, true, true] ?_
   simp only [push_cast, seval, ↓reduceIte]
   refine Zt (t := (cond y133 true (!y131.2))) rfl (fun c135 => ?_) (fun c135 => ?_)
   ·replace hs1_ := Zx c135 hs1_
    refine Zo ?_
    refine Zc Zd [] ?_
    simp only [push_cast, seval, ↓reduceIte, Za, hN0, hN]
    refine Zm [4, 5] [false, false, true, false, false, false, false, false, false, false, false, false, false] ?_
    simp only [push_cast, seval, ↓reduceIte]
    refine Z5 ?_
    try simp only [Zn, Zj]
    have hs1_ := Option.some.inj hs1_; subst hs1_
    refine And.intro (fun h => by cases h) (And.intro rfl (Fit2.of (Zl hU rfl rfl ?_) (by omega)))
    simp only [push_cast, seval, ↓reduceIte, Za, hN0, hN]
   replace hs1_ := Zw c135 hs1_
   refine Z0 ?_
   try simp only [Zn, Zj]
   refine Zm [3, 4, 6, 11, 12, 62, 63, 64] [false, true, true, false, false, true, false, false, false, true, false, true, true] ?_
   simp only [push_cast, seval, ↓reduceIte]
   obtain ⟨y134, hy134, hs1_⟩ := bC hs1_
   refine Zc Zd [] ?_
   simp only [push_cast, seval, ↓reduceIte, Za, hN0, hN]
   refine (Zm8 (i0 := (n + 5)) (j0_0 := (n + 9)) (by omega) (by omega) (by omega) (by simp only [push_cast, seval, ↓reduceIte, Za, Y2, hN0, hN] <;> rfl) (by simp only [push_cast, seval, ↓reduceIte, Za, Y2, hN0, hN] <;> rfl) hy134).then ?_
   simp only [push_cast, seval, ↓reduceIte, Za, hN0, hN]
   refine Zm [3, 4, 6, 62, 63, 64] [false, true, true, false, false, true, false, false, false, false, false, false, false, true] ?_
   simp only [push_cast, seval, ↓reduceIte]
   refine Zc Zd [] ?_
   simp only [push_cast, seval, ↓reduceIte, Za, hN0, hN]
   have hs1_ := Option.some.inj hs1_; subst hs1_
   refine And.intro rfl ?_
   refine Fit2.trans (E' := (⟨92, [], [(3, .ref (n + 1) 0), (4, .ref (n + 2) 0), (6, .ref (n + 5) 0), (62, .sl a0.Kids.length (fl Zk a0.Kids)), (63, .val (.int .i64 (a0.Kids.length : Int))), (64, .val (.int .i64 (IntKind.i64.wrap (s1_.1 + 1))))]⟩ : Env)) (O' := (Zu O n [none, some ⟨false, 25, 3, 1, (Ze a1)⟩, some ⟨false, 25, 3, 1, [.val (.int .i64 0), .val (.slice none 0 0), .val (.slice none 0 0)]⟩, none, none, some ⟨false, 25, 3, 1, [.val (.int .i64 y134.Kind), .sl y134.Words.length (fl (eI .u64) y134.Words), .row (n + 13) y134.Kids.length]⟩, none, none, none, none, none, none, none, some ⟨true, 25, 3, y134.Kids.length, fl Zb y134.Kids⟩])) (n' := (n + 14)) (Fit2.of (Zl hU rfl rfl ?_) (by omega)) ?_
   ·simp only [push_cast, seval, ↓reduceIte, Za, hN0, hN]
   refine Jt (k := 14) (k' := 11) hU [10, 1, 2, 10, 10, 5, 10, 10, 10, 10, 10, 10, 10, 9] [0, 1, 2, 0, 0, 5, 0, 0, 0, 13, 0] rfl rfl rfl rfl ⟨rfl, rfl⟩ ?_
   simp only [push_cast, seval, ↓reduceIte, Za, hN0, hN]
  replace hs1_ := Zw c136 hs1_
  refine Xs ?_
  try simp only [Zn, Zj, ↓reduceIte, Nat.reduceEqDiff]
  have hs1_ := Option.some.inj hs1_; subst hs1_
  refine And.intro (fun h => by cases h) (And.intro rfl (Fit2.of (Zl hU rfl rfl ?_) (by omega)))
  simp only [push_cast, seval, ↓reduceIte, Za, hN0, hN]
 rcases z137 with z137 | z137
 ·dsimp only [Q2] at hw h
  refine Vz hw ?_
  try simp only [Zn, Zj, ↓reduceIte, Nat.reduceEqDiff]
  have h := Option.some.inj h; subst h
  refine Zy (.inr rfl) hU [.agg [.val (.int .i64 0), .val (.slice none 0 0), .val (.slice none 0 0)], .val (.bool false)] (by omega) ?_
  simp only [push_cast, seval, ↓reduceIte, Za, Try.results94, hN0, hN]
 dsimp only [Q2] at hw h
 refine Yv hw ?_
 try simp only [Zn, Zj, ↓reduceIte, Nat.reduceEqDiff]
 refine Zm [4, 6] [false, false, true, false, false, true, false, false, false, true, false] ?_
 simp only [push_cast, seval, ↓reduceIte]
 refine Zo ?_
 refine Zc Zd [] ?_
 simp only [push_cast, seval, ↓reduceIte, Za, hN0, hN]
 refine Zm [4, 5] [false, false, true, false, false, false, false, false, false, true, false] ?_
 simp only [push_cast, seval, ↓reduceIte]
 refine Z5 ?_
 try simp only [Zn, Zj]
 have h := Option.some.inj h; subst h
 refine Zy (.inr rfl) hU [.agg [.val (.int .i64 z137.1), .sl z137.2.1.length (fl (eI .u64) z137.2.1), .row (n + 9) z137.2.2.length], .val (.bool true)] (by omega) ?_
 simp only [push_cast, seval, ↓reduceIte, Za, Try.results94, hN0, hN]
theorem Zo5 {Yw : (S_api_Edit → S_api_Tree → Option (S_api_Tree × Bool))} {Yb : (S_api_Edit → S_api_Tree → Option (S_api_Tree × Bool))} {Y3 : (S_api_Edit → S_api_Tree → Option (S_api_Tree × Bool))} {Z4 : (Zi → S_api_Op → Option (Bool × Zi))} {Z3 : (Zi → S_api_Edit → Option (Bool × Zi))} (Jp : ∀ {a0 : S_api_Edit} {a1 : S_api_Tree} {r : (S_api_Tree × Bool)} {O : Objs} {n : Nat}, Yw a0 a1 = some r → GTo Try.prog 58 [.agg (Zg a0), .agg (Ze a1)] O n (.tup [.agg (Ze r.1), .val (.bool r.2)]) O n) (Kl : ∀ {a0 : S_api_Edit} {a1 : S_api_Tree} {r : (S_api_Tree × Bool)} {O : Objs} {n : Nat}, Yb a0 a1 = some r → GTo Try.prog 94 [.agg (Zg a0), .agg (Ze a1)] O n (.tup [.agg (Ze r.1), .val (.bool r.2)]) O n) (Gl : ∀ {a0 : S_api_Edit} {a1 : S_api_Tree} {r : (S_api_Tree × Bool)} {O : Objs} {n : Nat}, Y3 a0 a1 = some r → GTo Try.prog 95 [.agg (Zg a0), .agg (Ze a1)] O n (.tup [.agg (Ze r.1), .val (.bool r.2)]) O n) (Jk : ∀ {a0 : Zi} {a1 : S_api_Op} {r : (Bool × Zi)} {O : Objs} {n : Nat} {i0 j0_0 : Nat}, i0 < n → j0_0 < n → i0 ≠ j0_0 → O i0 = some ⟨false, 139, 2, 1, [.sl a0.left.length (fl Zb a0.left), .row j0_0 a0.out.length]⟩ → O j0_0 = some ⟨true, 25, 3, a0.out.length, fl Zb a0.out⟩ → Z4 a0 a1 = some r → GTo Try.prog 122 [.ref i0 0, .agg (Ym a1)] O n (.val (.bool r.1)) (Zu ((O.upd j0_0 none).upd i0 (some ⟨false, 139, 2, 1, [.sl r.2.left.length (fl Zb r.2.left), .row n r.2.out.length]⟩)) n [some ⟨true, 25, 3, r.2.out.length, fl Zb r.2.out⟩]) (n + 1)) (Qh : ∀ {a0 : Zi} {a1 : S_api_Edit} {r : (Bool × Zi)} {O : Objs} {n : Nat} {i0 j0_0 : Nat}, i0 < n → j0_0 < n → i0 ≠ j0_0 → O i0 = some ⟨false, 139, 2, 1, [.sl a0.left.length (fl Zb a0.left), .row j0_0 a0.out.length]⟩ → O j0_0 = some ⟨true, 25, 3, a0.out.length, fl Zb a0.out⟩ → Z3 a0 a1 = some r → GTo Try.prog 129 [.ref i0 0, .agg (Zg a1)] O n (.val (.bool r.1)) (Zu ((O.upd j0_0 none).upd i0 (some ⟨false, 139, 2, 1, [.sl r.2.left.length (fl Zb r.2.left), .row n r.2.out.length]⟩)) n [some ⟨true, 25, 3, r.2.out.length, fl Zb r.2.out⟩]) (n + 1)) {a0 : S_api_Edit} {a1 : S_api_Tree} {r : (S_api_Tree × Bool)} {O : Objs} {n : Nat} (h : Zbc Yw Yb Y3 Z4 Z3 a0 a1 = some r) : GTo Try.prog 95 [.agg (Zg a0), .agg (Ze a1)] O n (.tup [.agg (Ze r.1), .val (.bool r.2)]) O n := by
 unfold Zbc at h
 refine Xc Zd Try.call95 Try.func95 rfl (Nat.le_of_ble_eq_true rfl) (Nat.le_refl _) fun hU => ?_
 have hN0 : O n = none := hU.fresh _ (Nat.le_refl _)
 have hN : ∀ k, O (n + k) = none := fun k => hU.fresh _ (Nat.le_add_right _ _)
 show W _ _ _ _ ⟨45, [], [(0, .agg (Zg a0)), (1, .agg (Ze a1))]⟩ (Zu O n []) _
 refine Zs [2, 3, 4] (Zc Zd [] ?_)
 simp only [push_cast, seval, ↓reduceIte, Za, hN0, hN]
 refine Zo ?_
 obtain ⟨z2, hz2, h⟩ := bC h
 refine Y5 (E' := ⟨45, [], [(2, .ref n 0), (3, .ref (n + 1) 0), (4, .ref (n + 2) 0), (19, .val (.bool z2))]⟩) (O' := (Zu O n [some ⟨false, 30, 11, 1, (Zg a0)⟩, some ⟨false, 25, 3, 1, (Ze a1)⟩, some ⟨false, 25, 3, 1, [.val (.int .i64 0), .val (.slice none 0 0), .val (.slice none 0 0)]⟩])) (n0 := (n + 3)) ?_ ?_
 ·rcases Bool.eq_false_or_eq_true (a1.Kind != a0.List_) with c5 | c5
  ·replace hz2 := Zx c5 hz2
   refine Zc Zd [some false, some false, some false, some false] ?_
   simp only [push_cast, seval, ↓reduceIte, Za, c5, hN0, hN]
   have hz2 := Option.some.inj hz2; subst hz2
   refine And.intro rfl (Fit2.of (Zl hU rfl rfl ?_) (by omega))
   simp only [push_cast, seval, ↓reduceIte, Za, c5, hN0, hN]
  replace hz2 := Zw c5 hz2
  obtain ⟨y4, hy4, hz2⟩ := bC hz2
  refine Zc Zd [some true, some true, some true, some true] ?_
  simp only [push_cast, seval, ↓reduceIte, Za, c5, hN0, hN]
  refine (Zsz hy4).then ?_
  simp only [push_cast, seval, ↓reduceIte, Za, c5, hN0, hN]
  have hz2 := Option.some.inj hz2; subst hz2
  refine And.intro rfl (Fit2.of (Zl hU rfl rfl ?_) (by omega))
  simp only [push_cast, seval, ↓reduceIte, Za, c5, hN0, hN]
 refine Zt (t := z2) rfl (fun c13 => ?_) (fun c13 => ?_)
 ·replace h := Zx c13 h
  refine Zo ?_
  refine Zc Zd [] ?_
  simp only [push_cast, seval, ↓reduceIte, Za, hN0, hN]
  refine Zm [4, 5] [false, false, true] ?_
  simp only [push_cast, seval, ↓reduceIte]
  refine Z5 ?_
  try simp only [Zn, Zj]
  have h := Option.some.inj h; subst h
  refine Zy (.inr rfl) hU [.agg [.val (.int .i64 0), .val (.slice none 0 0), .val (.slice none 0 0)], .val (.bool false)] (by omega) ?_
  simp only [push_cast, seval, ↓reduceIte, Za, Try.results95, hN0, hN]
 replace h := Zw c13 h
 refine Z0 ?_
 try simp only [Zn, Zj]
 refine Zm [2, 3, 4] [true, true, true] ?_
 simp only [push_cast, seval, ↓reduceIte]
 refine Zo ?_
 refine Zc Zd [] ?_
 simp only [push_cast, seval, ↓reduceIte, Za, hN0, hN]
 refine Zm [2, 3, 4, 6] [true, true, true, true] ?_
 simp only [push_cast, seval, ↓reduceIte]
 refine Zo ?_
 refine Zs [3, 4, 6, 25, 26, 27] (Zc Zd [] ?_)
 simp only [push_cast, seval, ↓reduceIte, Za, hN0, hN]
 refine Zm [3, 4, 6, 25, 26, 27] [false, true, true, true] ?_
 simp only [push_cast, seval, ↓reduceIte]
 refine Ja (E' := (⟨45, [], [(3, .ref (n + 1) 0), (4, .ref (n + 2) 0), (6, .ref (n + 3) 0), (25, .sl a0.Ops.length (fl Zf a0.Ops)), (26, .val (.int .i64 (a0.Ops.length : Int))), (27, .val (.int .i64 0))]⟩ : Env)) (O' := (Zu O n [none, some ⟨false, 25, 3, 1, (Ze a1)⟩, some ⟨false, 25, 3, 1, [.val (.int .i64 0), .val (.slice none 0 0), .val (.slice none 0 0)]⟩, some ⟨false, 139, 2, 1, [.sl a1.Kids.length (fl Zb a1.Kids), .row (n + 4) ([] : List S_api_Tree).length]⟩, some ⟨true, 25, 3, ([] : List S_api_Tree).length, fl Zb ([] : List S_api_Tree)⟩, none])) (n' := (n + 6)) ?_ ?_
 ·refine Fit2.trans (E' := (⟨45, [], [(3, .ref (n + 1) 0), (4, .ref (n + 2) 0), (6, .ref (n + 3) 0), (25, .sl a0.Ops.length (fl Zf a0.Ops)), (26, .val (.int .i64 (a0.Ops.length : Int))), (27, .val (.int .i64 0))]⟩ : Env)) (O' := (Zu O n [none, some ⟨false, 25, 3, 1, (Ze a1)⟩, some ⟨false, 25, 3, 1, [.val (.int .i64 0), .val (.slice none 0 0), .val (.slice none 0 0)]⟩, some ⟨false, 139, 2, 1, [.sl a1.Kids.length (fl Zb a1.Kids), .val (.slice none 0 0)]⟩])) (n' := (n + 4)) (Fit2.of (Zl hU rfl rfl ?_) (by omega)) ?_
  ·simp only [push_cast, seval, ↓reduceIte, Za, hN0, hN]
  refine Fit2.trans (E' := (⟨45, [], [(3, .ref (n + 1) 0), (4, .ref (n + 2) 0), (6, .ref (n + 3) 0), (25, .sl a0.Ops.length (fl Zf a0.Ops)), (26, .val (.int .i64 (a0.Ops.length : Int))), (27, .val (.int .i64 0))]⟩ : Env)) (O' := (Zu O n [none, some ⟨false, 25, 3, 1, (Ze a1)⟩, some ⟨false, 25, 3, 1, [.val (.int .i64 0), .val (.slice none 0 0), .val (.slice none 0 0)]⟩, some ⟨false, 139, 2, 1, [.sl a1.Kids.length (fl Zb a1.Kids), .row (n + 4) 0]⟩, some ⟨true, 25, 3, 0, []⟩])) (n' := (n + 5)) ?_ ?_
  ·have ha := Va (ba := n) (E := (⟨45, [], [(3, .ref (n + 1) 0), (4, .ref (n + 2) 0), (6, .ref (n + 3) 0), (25, .sl a0.Ops.length (fl Zf a0.Ops)), (26, .val (.int .i64 (a0.Ops.length : Int))), (27, .val (.int .i64 0))]⟩ : Env)) (O := (Zu O n [none, some ⟨false, 25, 3, 1, [.val (.int .i64 a1.Kind), .sl a1.Words.length (fl (eI .u64) a1.Words), .sl a1.Kids.length (fl Zb a1.Kids)]⟩, some ⟨false, 25, 3, 1, [.val (.int .i64 0), .val (.slice none 0 0), .val (.slice none 0 0)]⟩, some ⟨false, 139, 2, 1, [.sl a1.Kids.length (fl Zb a1.Kids), .val (.slice none 0 0)]⟩])) (n := (n + 4)) (p := (n + 3)) (k := 1) (q := ⟨false, 139, 2, 1, [.sl a1.Kids.length (fl Zb a1.Kids), .val (.slice none 0 0)]⟩) 25 3 (by simp only [K8, Zah, List.getElem?_cons_zero, List.getElem?_cons_succ, Option.join_some, Z8]) rfl (by omega)
   simp only [Y0, Yl, Uj, K9, List.set_cons_zero, List.set_cons_succ, List.cons_append, List.nil_append, List.length_cons, List.length_nil, Nat.zero_add, Nat.reduceAdd, Nat.reduceLT, Nat.add_assoc] at ha
   exact ha
  refine Fit2.trans (E' := (⟨45, [], [(3, .ref (n + 1) 0), (4, .ref (n + 2) 0), (6, .ref (n + 3) 0), (25, .sl a0.Ops.length (fl Zf a0.Ops)), (26, .val (.int .i64 (a0.Ops.length : Int))), (27, .val (.int .i64 0))]⟩ : Env)) (O' := (Zu O n [none, some ⟨false, 25, 3, 1, (Ze a1)⟩, some ⟨false, 25, 3, 1, [.val (.int .i64 0), .val (.slice none 0 0), .val (.slice none 0 0)]⟩, some ⟨false, 139, 2, 1, [.sl a1.Kids.length (fl Zb a1.Kids), .row (n + 4) ([] : List S_api_Tree).length]⟩, some ⟨true, 25, 3, ([] : List S_api_Tree).length, fl Zb ([] : List S_api_Tree)⟩])) (n' := (n + 5)) (Fit2.of (Zl hU rfl rfl ?_) (by omega)) ?_
  ·simp only [push_cast, seval, ↓reduceIte, Za, hN0, hN]
  refine Jt (k := 5) (k' := 6) hU [5, 1, 2, 3, 4] [0, 1, 2, 3, 4, 0] rfl rfl rfl rfl ⟨rfl, rfl⟩ ?_
  simp only [push_cast, seval, ↓reduceIte, Za, hN0, hN]
 obtain ⟨z12, hz12, h⟩ := bC h
 refine Zcd (J := (Q2 (fun z12 => JR n (⟨45, [], [(4, .ref (n + 2) 0), (5, .val (.bool false))]⟩ : Env) (Zu O n [none, none, some ⟨false, 25, 3, 1, [.val (.int .i64 0), .val (.slice none 0 0), .val (.slice none 0 0)]⟩, none]) (n + 4)) (fun z12 => JX 0 n (⟨45, [], [(3, .ref (n + 1) 0), (4, .ref (n + 2) 0), (6, .ref (n + 3) 0)]⟩ : Env) (Zu O n [none, some ⟨false, 25, 3, 1, (Ze a1)⟩, some ⟨false, 25, 3, 1, [.val (.int .i64 0), .val (.slice none 0 0), .val (.slice none 0 0)]⟩, some ⟨false, 139, 2, 1, [.sl z12.1.length (fl Zb z12.1), .row (n + 4) z12.2.length]⟩, some ⟨true, 25, 3, z12.2.length, fl Zb z12.2⟩, none]) (n + 6)))) (z := z12) ?_ fun hw => ?_
 ·refine Y7 hz12 (fun s0_ => ⟨45, [], [(3, .ref (n + 1) 0), (4, .ref (n + 2) 0), (6, .ref (n + 3) 0), (25, .sl a0.Ops.length (fl Zf a0.Ops)), (26, .val (.int .i64 (a0.Ops.length : Int))), (27, .val (.int .i64 s0_.1))]⟩) (fun s0_ => (Zu O n [none, some ⟨false, 25, 3, 1, (Ze a1)⟩, some ⟨false, 25, 3, 1, [.val (.int .i64 0), .val (.slice none 0 0), .val (.slice none 0 0)]⟩, some ⟨false, 139, 2, 1, [.sl s0_.2.1.length (fl Zb s0_.2.1), .row (n + 4) s0_.2.2.length]⟩, some ⟨true, 25, 3, s0_.2.2.length, fl Zb s0_.2.2⟩, none])) (Q2 (fun z12 => JR n (⟨45, [], [(4, .ref (n + 2) 0), (5, .val (.bool false))]⟩ : Env) (Zu O n [none, none, some ⟨false, 25, 3, 1, [.val (.int .i64 0), .val (.slice none 0 0), .val (.slice none 0 0)]⟩, none]) (n + 4)) (fun z12 => JX 0 n (⟨45, [], [(3, .ref (n + 1) 0), (4, .ref (n + 2) 0), (6, .ref (n + 3) 0)]⟩ : Env) (Zu O n [none, some ⟨false, 25, 3, 1, (Ze a1)⟩, some ⟨false, 25, 3, 1, [.val (.int .i64 0), .val (.slice none 0 0), .val (.slice none 0 0)]⟩, some ⟨false, 139, 2, 1, [.sl z12.1.length (fl Zb z12.1), .row (n + 4) z12.2.length]⟩, some ⟨true, 25, 3, z12.2.length, fl Zb z12.2⟩, none]) (n + 6))) ?_
  intro s0_ x0_ hs0_
  unfold Jo at hs0_
  try dsimp only
  refine Zs [3, 4, 6, 25, 26, 27, 28] (Zc Zd [] ?_)
  simp only [push_cast, seval, ↓reduceIte, Za, hN0, hN]
  refine Zo ?_
  refine Zt (t := (decide (s0_.1 < (a0.Ops.length : Int)))) rfl (fun c11 => ?_) (fun c11 => ?_)
  ·replace hs0_ := Zx c11 hs0_
   refine Z0 ?_
   try simp only [Zn, Zj]
   refine Zm [3, 4, 6, 25, 26, 27] [false, true, true, true, true, false] ?_
   simp only [push_cast, seval, ↓reduceIte]
   refine Zo ?_
   refine Ys ?_
   refine Zo ?_
   obtain ⟨x7, hx7, ax7, bx7, cx7, hs0_⟩ := bE (f := Zf) Zc5 (fun _ => rfl) (by decide) hs0_
   refine Zc Zd [] ?_
   simp only [push_cast, Nat.reduceAdd, Nat.reduceSub, Nat.reduceMul, Nat.reduceLeDiff, Nat.reduceLT, Nat.reduceEqDiff, ↓reduceIte, reduceCtorEq, Int.reduceBEq, Int.reduceBNe, Nat.reduceBEq, Int.reduceLE, Int.reduceLT, Int.reduceEq, Int.reduceNe, Int.reduceNeg, Nat.reduceDiv, Nat.reduceMod, Nat.reducePow, Za, ax7, bx7, cx7, hN0, hN]
   refine Zm [3, 4, 6, 8, 25, 26, 27] [false, true, true, true, true, false, true] ?_
   simp only [push_cast, seval, ↓reduceIte]
   refine Zo ?_
   obtain ⟨y9, hy9, hs0_⟩ := bC hs0_
   refine Zc Zd [] ?_
   simp only [push_cast, seval, ↓reduceIte, Za, hN0, hN]
   refine (Jk (i0 := (n + 3)) (j0_0 := (n + 4)) (by omega) (by omega) (by omega) (by simp only [push_cast, seval, ↓reduceIte, Za, Y2, hN0, hN] <;> rfl) (by simp only [push_cast, seval, ↓reduceIte, Za, Y2, hN0, hN] <;> rfl) hy9).then ?_
   simp only [push_cast, seval, ↓reduceIte, Za, hN0, hN]
   refine Zm [3, 4, 6, 25, 26, 27, 33] [false, true, true, true, false, false, false, true] ?_
   simp only [push_cast, seval, ↓reduceIte]
   refine Zt (t := (!y9.1)) rfl (fun c10 => ?_) (fun c10 => ?_)
   ·replace hs0_ := Zx c10 hs0_
    refine Zo ?_
    refine Zc Zd [] ?_
    simp only [push_cast, seval, ↓reduceIte, Za, hN0, hN]
    refine Zm [4, 5] [false, false, true, false, false, false, false, false] ?_
    simp only [push_cast, seval, ↓reduceIte]
    refine Z5 ?_
    try simp only [Zn, Zj]
    have hs0_ := Option.some.inj hs0_; subst hs0_
    refine And.intro (fun h => by cases h) (And.intro rfl (Fit2.of (Zl hU rfl rfl ?_) (by omega)))
    simp only [push_cast, seval, ↓reduceIte, Za, hN0, hN]
   replace hs0_ := Zw c10 hs0_
   refine Z0 ?_
   try simp only [Zn, Zj]
   refine Zm [3, 4, 6, 25, 26, 27] [false, true, true, true, false, false, false, true] ?_
   simp only [push_cast, seval, ↓reduceIte]
   refine Zc Zd [] ?_
   simp only [push_cast, seval, ↓reduceIte, Za, hN0, hN]
   have hs0_ := Option.some.inj hs0_; subst hs0_
   refine And.intro rfl ?_
   refine Fit2.trans (E' := (⟨45, [], [(3, .ref (n + 1) 0), (4, .ref (n + 2) 0), (6, .ref (n + 3) 0), (25, .sl a0.Ops.length (fl Zf a0.Ops)), (26, .val (.int .i64 (a0.Ops.length : Int))), (27, .val (.int .i64 (IntKind.i64.wrap (s0_.1 + 1))))]⟩ : Env)) (O' := (Zu O n [none, some ⟨false, 25, 3, 1, (Ze a1)⟩, some ⟨false, 25, 3, 1, [.val (.int .i64 0), .val (.slice none 0 0), .val (.slice none 0 0)]⟩, some ⟨false, 139, 2, 1, [.sl y9.2.left.length (fl Zb y9.2.left), .row (n + 7) y9.2.out.length]⟩, none, none, none, some ⟨true, 25, 3, y9.2.out.length, fl Zb y9.2.out⟩])) (n' := (n + 8)) (Fit2.of (Zl hU rfl rfl ?_) (by omega)) ?_
   ·simp only [push_cast, seval, ↓reduceIte, Za, hN0, hN]
   refine Jt (k := 8) (k' := 6) hU [5, 1, 2, 3, 5, 5, 5, 4] [0, 1, 2, 3, 7, 0] rfl rfl rfl rfl ⟨rfl, rfl⟩ ?_
   simp only [push_cast, seval, ↓reduceIte, Za, hN0, hN]
  replace hs0_ := Zw c11 hs0_
  refine Xs ?_
  try simp only [Zn, Zj, ↓reduceIte, Nat.reduceEqDiff]
  have hs0_ := Option.some.inj hs0_; subst hs0_
  refine And.intro (fun h => by cases h) (And.intro rfl (Fit2.of (Zl hU rfl rfl ?_) (by omega)))
  simp only [push_cast, seval, ↓reduceIte, Za, hN0, hN]
 rcases z12 with z12 | z12
 ·dsimp only [Q2] at hw h
  refine Vz hw ?_
  try simp only [Zn, Zj, ↓reduceIte, Nat.reduceEqDiff]
  have h := Option.some.inj h; subst h
  refine Zy (.inr rfl) hU [.agg [.val (.int .i64 0), .val (.slice none 0 0), .val (.slice none 0 0)], .val (.bool false)] (by omega) ?_
  simp only [push_cast, seval, ↓reduceIte, Za, Try.results95, hN0, hN]
 dsimp only [Q2] at hw h
 refine Yv hw ?_
 try simp only [Zn, Zj, ↓reduceIte, Nat.reduceEqDiff]
 refine Zm [3, 4, 6] [false, true, true, true, true, false] ?_
 simp only [push_cast, seval, ↓reduceIte]
 refine Zo ?_
 refine Zai Zd (by kernel_rfl) [.plain, .plain, .plain, .plain, .plain, .low, .low, .low, .low, .pass, .plain] (fun i => i ≠ n + 2) [0, 1, 2, 3, 4, 5, 6, 7, 8, 9, 10] [.plain, .plain, .plain, .plain, .plain, .low, .low, .low, .low, .pass, .plain] [] (by kernel_rfl) rfl ?_
 simp only [push_cast, seval, ↓reduceIte, Za, hN0, hN]
 repeat (with_reducible refine And.intro (by first | omega | exact Yt rfl | exact Yi | exact Qg rfl rfl) ?_)
 refine Zm [4, 5] [false, false, true, false, true, false] ?_
 simp only [push_cast, seval, ↓reduceIte]
 refine Z5 ?_
 try simp only [Zn, Zj]
 have h := Option.some.inj h; subst h
 refine Zy (.inr rfl) hU [.agg [.val (.int .i64 a1.Kind), .val (.slice none 0 0), .row (n + 4) z12.2.length], .val (.bool ((z12.1.length : Int) == 0))] (by omega) ?_
 simp only [push_cast, seval, ↓reduceIte, Za, Try.results95, hN0, hN]
theorem Zho {Yw : (S_api_Edit → S_api_Tree → Option (S_api_Tree × Bool))} {Yb : (S_api_Edit → S_api_Tree → Option (S_api_Tree × Bool))} {Y3 : (S_api_Edit → S_api_Tree → Option (S_api_Tree × Bool))} {Z4 : (Zi → S_api_Op → Option (Bool × Zi))} {Z3 : (Zi → S_api_Edit → Option (Bool × Zi))} (Jp : ∀ {a0 : S_api_Edit} {a1 : S_api_Tree} {r : (S_api_Tree × Bool)} {O : Objs} {n : Nat}, Yw a0 a1 = some r → GTo Try.prog 58 [.agg (Zg a0), .agg (Ze a1)] O n (.tup [.agg (Ze r.1), .val (.bool r.2)]) O n) (Kl : ∀ {a0 : S_api_Edit} {a1 : S_api_Tree} {r : (S_api_Tree × Bool)} {O : Objs} {n : Nat}, Yb a0 a1 = some r → GTo Try.prog 94 [.agg (Zg a0), .agg (Ze a1)] O n (.tup [.agg (Ze r.1), .val (.bool r.2)]) O n) (Gl : ∀ {a0 : S_api_Edit} {a1 : S_api_Tree} {r : (S_api_Tree × Bool)} {O : Objs} {n : Nat}, Y3 a0 a1 = some r → GTo Try.prog 95 [.agg (Zg a0), .agg (Ze a1)] O n (.tup [.agg (Ze r.1), .val (.bool r.2)]) O n) (Jk : ∀ {a0 : Zi} {a1 : S_api_Op} {r : (Bool × Zi)} {O : Objs} {n : Nat} {i0 j0_0 : Nat}, i0 < n → j0_0 < n → i0 ≠ j0_0 → O i0 = some ⟨false, 139, 2, 1, [.sl a0.left.length (fl Zb a0.left), .row j0_0 a0.out.length]⟩ → O j0_0 = some ⟨true, 25, 3, a0.out.length, fl Zb a0.out⟩ → Z4 a0 a1 = some r → GTo Try.prog 122 [.ref i0 0, .agg (Ym a1)] O n (.val (.bool r.1)) (Zu ((O.upd j0_0 none).upd i0 (some ⟨false, 139, 2, 1, [.sl r.2.left.length (fl Zb r.2.left), .row n r.2.out.length]⟩)) n [some ⟨true, 25, 3, r.2.out.length, fl Zb r.2.out⟩]) (n + 1)) (Qh : ∀ {a0 : Zi} {a1 : S_api_Edit} {r : (Bool × Zi)} {O : Objs} {n : Nat} {i0 j0_0 : Nat}, i0 < n → j0_0 < n → i0 ≠ j0_0 → O i0 = some ⟨false, 139, 2, 1, [.sl a0.left.length (fl Zb a0.left), .row j0_0 a0.out.length]⟩ → O j0_0 = some ⟨true, 25, 3, a0.out.length, fl Zb a0.out⟩ → Z3 a0 a1 = some r → GTo Try.prog 129 [.ref i0 0, .agg (Zg a1)] O n (.val (.bool r.1)) (Zu ((O.upd j0_0 none).upd i0 (some ⟨false, 139, 2, 1, [.sl r.2.left.length (fl Zb r.2.left), .row n r.2.out.length]⟩)) n [some ⟨true, 25, 3, r.2.out.length, fl Zb r.2.out⟩]) (n + 1)) {a0 : Zi} {a1 : S_api_Op} {r : (Bool × Zi)} {O : Objs} {n : Nat} {i0 j0_0 : Nat} (hi0 : i0 < n) (K6 : j0_0 < n) (Qw : i0 ≠ j0_0) (ho0 : O i0 = some ⟨false, 139, 2, 1, [.sl a0.left.length (fl Zb a0.left), .row j0_0 a0.out.length]⟩) (Vl : O j0_0 = some ⟨true, 25, 3, a0.out.length, fl Zb a0.out⟩) (h : K0 Yw Yb Y3 Z4 Z3 a0 a1 = some r) : GTo Try.prog 122 [.ref i0 0, .agg (Ym a1)] O n (.val (.bool r.1)) (Zu ((O.upd j0_0 none).upd i0 (some ⟨false, 139, 2, 1, [.sl r.2.left.length (fl Zb r.2.left), .row n r.2.out.length]⟩)) n [some ⟨true, 25, 3, r.2.out.length, fl Zb r.2.out⟩]) (n + 1) := by
 unfold K0 at h
 refine Xc Zd Try.call122 Try.func122 rfl (Nat.le_of_ble_eq_true rfl) (by omega) fun hU => ?_
 have e0 := Q8 (ba := n) (E := ⟨99, [], Zc0 0 [.ref i0 0, .agg [.val (.int .i64 a1.Kind), .val (.int .i64 a1.N), .sl a1.L.length (fl Zb a1.L), .val (.int .i64 a1.E.Kind), .val (.int .i64 a1.E.Old.Kind), .sl a1.E.Old.Words.length (fl (eI .u64) a1.E.Old.Words), .sl a1.E.Old.Kids.length (fl Zb a1.E.Old.Kids), .val (.int .i64 a1.E.New.Kind), .sl a1.E.New.Words.length (fl (eI .u64) a1.E.New.Words), .sl a1.E.New.Kids.length (fl Zb a1.E.New.Kids), .sl a1.E.Words.length (fl Zh a1.E.Words), .sl a1.E.Kids.length (fl Zk a1.E.Kids), .val (.int .i64 a1.E.List_), .sl a1.E.Ops.length (fl Zf a1.E.Ops)]]⟩) (O := (Zu O n [])) (n := n) (i := i0) (j := j0_0) (k := 1) (len := a0.out.length) (q := ⟨false, 139, 2, 1, [.sl a0.left.length (fl Zb a0.left), .row j0_0 a0.out.length]⟩) (qj := ⟨true, 25, 3, a0.out.length, fl Zb a0.out⟩) (by rw [Yf _ hi0]; first | exact ho0 | exact Z8 _ _ _) rfl (by rw [Yf _ K6]; exact Vl) Qw (by omega)
 simp only [Yj _ _ K6, Yj _ _ hi0, Y0, Yl, Xz, Ux Qw, List.set_cons_zero, List.set_cons_succ, List.cons_append, List.nil_append, List.length_cons, List.length_nil, Nat.zero_add, Nat.reduceAdd, Nat.add_assoc] at e0
 refine Ja e0 ?_
 have hU := (Und.drop hU j0_0)
 have hk0 : ∀ k, i0 < n + k := fun k => by omega
 have hN0 : ∀ o, Objs.upd (O.upd j0_0 none) i0 o n = none := fun o => Qv hU hi0 _ (Nat.le_refl _)
 have hN : ∀ o k, Objs.upd (O.upd j0_0 none) i0 o (n + k) = none := fun o k => Qv hU hi0 _ (Nat.le_add_right _ _)
 show W _ _ _ _ ⟨99, [], [(0, .ref i0 0), (1, .agg (Ym a1))]⟩ (Zu ((O.upd j0_0 none).upd i0 (some ⟨false, 139, 2, 1, [.sl a0.left.length (fl Zb a0.left), .row n a0.out.length]⟩)) n [some ⟨true, 25, 3, a0.out.length, fl Zb a0.out⟩]) _
 refine Zs [0, 3] (Zc Zd [] ?_)
 simp only [push_cast, seval, ↓reduceIte, Za, hi0, hk0, hN0, hN]
 refine Zo ?_
 refine Zs [0, 3, 7] (Zc Zd [] ?_)
 simp only [push_cast, seval, ↓reduceIte, Za, hi0, hk0, hN0, hN]
 refine Ys ?_
 refine Zs [0, 3, 7, 8] (Zc Zd [] ?_)
 simp only [push_cast, seval, ↓reduceIte, Za, hi0, hk0, hN0, hN]
 refine Zt (t := (a1.Kind == 0)) rfl (fun c28 => ?_) (fun c28 => ?_)
 ·replace h := Zx c28 h
  refine Zo ?_
  obtain ⟨z1, hz1, h⟩ := bC h
  refine Y5 (E' := ⟨99, [], [(0, .ref i0 0), (3, .ref (n + 1) 0), (22, .val (.bool z1))]⟩) (O' := (Zu ((O.upd j0_0 none).upd i0 (some ⟨false, 139, 2, 1, [.sl a0.left.length (fl Zb a0.left), .row n a0.out.length]⟩)) n [some ⟨true, 25, 3, a0.out.length, fl Zb a0.out⟩, some ⟨false, 69, 14, 1, (Ym a1)⟩])) (n0 := (n + 2)) ?_ ?_
  ·rcases Bool.eq_false_or_eq_true (decide (a1.N < 0)) with c2 | c2
   ·replace hz1 := Zx c2 hz1
    refine Qz Zd (by kernel_rfl) [some false, some false, some false, some false, some false, some false, some false, some false] (by kernel_rfl) ?_
    simp only [push_cast, seval, ↓reduceIte, Za, c2, hi0, hk0, hN0, hN]
    have hz1 := Option.some.inj hz1; subst hz1
    refine And.intro rfl (Fit2.of (Ya hU rfl rfl ?_) (by omega))
    simp only [push_cast, seval, ↓reduceIte, Za, c2, hi0, hk0, hN0, hN]
   replace hz1 := Zw c2 hz1
   refine Qz Zd (by kernel_rfl) [some true, some true, some true, some true, some true, some true, some true, some true] (by kernel_rfl) ?_
   simp only [push_cast, seval, ↓reduceIte, Za, c2, hi0, hk0, hN0, hN]
   have hz1 := Option.some.inj hz1; subst hz1
   refine And.intro rfl (Fit2.of (Ya hU rfl rfl ?_) (by omega))
   simp only [push_cast, seval, ↓reduceIte, Za, c2, hi0, hk0, hN0, hN]
  refine Zt (t := z1) rfl (fun c9 => ?_) (fun c9 => ?_)
  ·replace h := Zx c9 h
   refine Zs [4] (Zc Zd [] ?_)
   simp only [push_cast, seval, ↓reduceIte, Za, hi0, hk0, hN0, hN]
   refine Z5 ?_
   try simp only [Zn, Zj]
   have h := Option.some.inj h; subst h
   refine Jh (k := 1) (i := i0) (q1 := ⟨false, 139, 2, 1, [.sl a0.left.length (fl Zb a0.left), .row n a0.out.length]⟩) (L3 := [some ⟨true, 25, 3, a0.out.length, fl Zb a0.out⟩, none]) (E2 := (⟨99, [], [(4, .val (.bool false))]⟩ : Env)) (n3 := (n + 2)) (.inr rfl) hU rfl [.val (.bool false)] ?_ ?_
   ·refine Fit2.trans (E' := (⟨99, [], [(4, .val (.bool false))]⟩ : Env)) (O' := (Zu ((O.upd j0_0 none).upd i0 (some ⟨false, 139, 2, 1, [.sl a0.left.length (fl Zb a0.left), .row n a0.out.length]⟩)) n [some ⟨true, 25, 3, a0.out.length, fl Zb a0.out⟩, none])) (n' := (n + 2)) (Fit2.of (Ya hU rfl rfl ?_) (by omega)) ?_
    ·simp only [push_cast, seval, ↓reduceIte, Za, hi0, hk0, hN0, hN]
    refine Xy (k := 2) (k' := 2) hU [0, 1] [0, 0] rfl rfl rfl rfl ⟨rfl, rfl⟩ ?_
    simp only [push_cast, seval, ↓reduceIte, Za, hi0, hk0, hN0, hN]
   simp only [push_cast, seval, ↓reduceIte, Za, Try.results122, hi0, hk0, hN0, hN]
  replace h := Zw c9 h
  refine Z0 ?_
  try simp only [Zn, Zj]
  refine Zm [0, 3] [true, true] ?_
  simp only [push_cast, seval, ↓reduceIte]
  refine Zo ?_
  obtain ⟨l5, al5, bl5, cl5, gl5, h⟩ := bS (lo := none) (hi := (some (.i64, a1.N))) (f := Zb) rfl rfl Zcw Vs (fun _ => rfl) h
  obtain ⟨l6, pl6, ql6, el6, h⟩ := bA (k := l5.length) rfl h
  refine Zdn Zd (by kernel_rfl) [false, false, false, false, false, false, false, false, false, false, false, false, true, false, false, true] [] (by kernel_rfl) ?_
  simp only [push_cast, seval, ↓reduceIte, Za, al5, bl5, cl5, gl5, pl6, ql6, el6, hi0, hk0, hN0, hN]
  refine Zdp ⟨99, [], [(0, .ref i0 0), (3, .ref (n + 1) 0)]⟩ (Zu ((O.upd j0_0 none).upd i0 (some ⟨false, 139, 2, 1, [.sl a0.left.length (fl Zb a0.left), .row n l6.length]⟩)) n [some ⟨true, 25, 3, l6.length, fl Zb l6⟩, some ⟨false, 69, 14, 1, (Ym a1)⟩]) (Ya hU rfl rfl ?_) ?_
  ·simp only [push_cast, seval, ↓reduceIte, Za, al5, bl5, cl5, gl5, pl6, ql6, el6, hi0, hk0, hN0, hN]
  refine Zo ?_
  obtain ⟨l8, al8, bl8, cl8, gl8, h⟩ := bS (lo := (some (.i64, a1.N))) (hi := none) (f := Zb) rfl rfl Zcw Vs (fun _ => rfl) h
  refine Zdn Zd (by kernel_rfl) [false, false, false, false, false, false, false, false, false, false, true] [] (by kernel_rfl) ?_
  simp only [push_cast, seval, ↓reduceIte, Za, al8, bl8, cl8, gl8, hi0, hk0, hN0, hN]
  refine Zm [] [true, false] ?_
  simp only [push_cast, seval, ↓reduceIte]
  refine Zs [4] (Zc Zd [] ?_)
  simp only [push_cast, seval, ↓reduceIte, Za, hi0, hk0, hN0, hN]
  refine Z5 ?_
  try simp only [Zn, Zj]
  have h := Option.some.inj h; subst h
  refine Jh (k := 1) (i := i0) (q1 := ⟨false, 139, 2, 1, [.sl l8.length (fl Zb l8), .row n l6.length]⟩) (L3 := [some ⟨true, 25, 3, l6.length, fl Zb l6⟩, none]) (E2 := (⟨99, [], [(4, .val (.bool true))]⟩ : Env)) (n3 := (n + 2)) (.inr rfl) hU rfl [.val (.bool true)] ?_ ?_
  ·refine Fit2.trans (E' := (⟨99, [], [(4, .val (.bool true))]⟩ : Env)) (O' := (Zu ((O.upd j0_0 none).upd i0 (some ⟨false, 139, 2, 1, [.sl l8.length (fl Zb l8), .row n l6.length]⟩)) n [some ⟨true, 25, 3, l6.length, fl Zb l6⟩, none])) (n' := (n + 2)) (Fit2.of (Ya hU rfl rfl ?_) (by omega)) ?_
   ·simp only [push_cast, seval, ↓reduceIte, Za, hi0, hk0, hN0, hN]
   refine Xy (k := 2) (k' := 2) hU [0, 1] [0, 0] rfl rfl rfl rfl ⟨rfl, rfl⟩ ?_
   simp only [push_cast, seval, ↓reduceIte, Za, hi0, hk0, hN0, hN]
  simp only [push_cast, seval, ↓reduceIte, Za, Try.results122, hi0, hk0, hN0, hN]
 replace h := Zw c28 h
 refine Zs [0, 3, 7, 48] (Zc Zd [] ?_)
 simp only [push_cast, seval, ↓reduceIte, Za, hi0, hk0, hN0, hN]
 refine Zt (t := (a1.Kind == 1)) rfl (fun c27 => ?_) (fun c27 => ?_)
 ·replace h := Zx c27 h
  refine Zs [0, 3, 5] (Zc Zd [] ?_)
  simp only [push_cast, seval, ↓reduceIte, Za, hi0, hk0, hN0, hN]
  refine Zo ?_
  obtain ⟨z12, hz12, h⟩ := bC h
  refine Y5 (E' := ⟨99, [], [(0, .ref i0 0), (5, .val (.int .i64 (a1.L.length : Int))), (71, .val (.bool z12))]⟩) (O' := (Zu ((O.upd j0_0 none).upd i0 (some ⟨false, 139, 2, 1, [.sl a0.left.length (fl Zb a0.left), .row n a0.out.length]⟩)) n [some ⟨true, 25, 3, a0.out.length, fl Zb a0.out⟩, none])) (n0 := (n + 2)) ?_ ?_
  ·rcases Bool.eq_false_or_eq_true (decide ((a0.left.length : Int) < (a1.L.length : Int))) with c17 | c17
   ·replace hz12 := Zx c17 hz12
    refine Qz Zd (by kernel_rfl) [some false, some false, some false, some false, some false, some false, some false, some false, some false, some false] (by kernel_rfl) ?_
    simp only [push_cast, seval, ↓reduceIte, Za, c17, hi0, hk0, hN0, hN]
    have hz12 := Option.some.inj hz12; subst hz12
    refine And.intro rfl (Fit2.of (Ya hU rfl rfl ?_) (by omega))
    simp only [push_cast, seval, ↓reduceIte, Za, c17, hi0, hk0, hN0, hN]
   replace hz12 := Zw c17 hz12
   obtain ⟨l15, al15, bl15, cl15, gl15, hz12⟩ := bS (lo := none) (hi := (some (.i64, (a1.L.length : Int)))) (f := Zb) rfl rfl Zcw Vs (fun _ => rfl) hz12
   obtain ⟨y16, hy16, hz12⟩ := bC hz12
   refine Qz Zd (by kernel_rfl) [some true, some true, some true, some true, some true, some true, some true, some true, some true, some true] (by kernel_rfl) ?_
   simp only [push_cast, seval, ↓reduceIte, Za, c17, al15, bl15, cl15, gl15, hi0, hk0, hN0, hN]
   refine PCall.of (Jy hy16) ?_
   simp only [push_cast, seval, ↓reduceIte, Za, c17, al15, bl15, cl15, gl15, hi0, hk0, hN0, hN]
   have hz12 := Option.some.inj hz12; subst hz12
   refine And.intro rfl (Fit2.of (Ya hU rfl rfl ?_) (by omega))
   simp only [push_cast, seval, ↓reduceIte, Za, c17, al15, bl15, cl15, gl15, hi0, hk0, hN0, hN]
  refine Zt (t := z12) rfl (fun c20 => ?_) (fun c20 => ?_)
  ·replace h := Zx c20 h
   refine Zs [4] (Zc Zd [] ?_)
   simp only [push_cast, seval, ↓reduceIte, Za, hi0, hk0, hN0, hN]
   refine Z5 ?_
   try simp only [Zn, Zj]
   have h := Option.some.inj h; subst h
   refine Jh (k := 1) (i := i0) (q1 := ⟨false, 139, 2, 1, [.sl a0.left.length (fl Zb a0.left), .row n a0.out.length]⟩) (L3 := [some ⟨true, 25, 3, a0.out.length, fl Zb a0.out⟩, none]) (E2 := (⟨99, [], [(4, .val (.bool false))]⟩ : Env)) (n3 := (n + 2)) (.inr rfl) hU rfl [.val (.bool false)] ?_ ?_
   ·refine Fit2.trans (E' := (⟨99, [], [(4, .val (.bool false))]⟩ : Env)) (O' := (Zu ((O.upd j0_0 none).upd i0 (some ⟨false, 139, 2, 1, [.sl a0.left.length (fl Zb a0.left), .row n a0.out.length]⟩)) n [some ⟨true, 25, 3, a0.out.length, fl Zb a0.out⟩, none])) (n' := (n + 2)) (Fit2.of (Ya hU rfl rfl ?_) (by omega)) ?_
    ·simp only [push_cast, seval, ↓reduceIte, Za, hi0, hk0, hN0, hN]
    refine Xy (k := 2) (k' := 2) hU [0, 1] [0, 0] rfl rfl rfl rfl ⟨rfl, rfl⟩ ?_
    simp only [push_cast, seval, ↓reduceIte, Za, hi0, hk0, hN0, hN]
   simp only [push_cast, seval, ↓reduceIte, Za, Try.results122, hi0, hk0, hN0, hN]
  replace h := Zw c20 h
  refine Z0 ?_
  try simp only [Zn, Zj]
  refine Zm [0, 5] [true, false] ?_
  simp only [push_cast, seval, ↓reduceIte]
  refine Zo ?_
  obtain ⟨l19, al19, bl19, cl19, gl19, h⟩ := bS (lo := (some (.i64, (a1.L.length : Int)))) (hi := none) (f := Zb) rfl rfl Zcw Vs (fun _ => rfl) h
  refine Zc Zd [] ?_
  simp only [push_cast, seval, ↓reduceIte, Za, al19, bl19, cl19, gl19, hi0, hk0, hN0, hN]
  refine Zm [] [true, false] ?_
  simp only [push_cast, seval, ↓reduceIte]
  refine Zs [4] (Zc Zd [] ?_)
  simp only [push_cast, seval, ↓reduceIte, Za, hi0, hk0, hN0, hN]
  refine Z5 ?_
  try simp only [Zn, Zj]
  have h := Option.some.inj h; subst h
  refine Jh (k := 1) (i := i0) (q1 := ⟨false, 139, 2, 1, [.sl l19.length (fl Zb l19), .row n a0.out.length]⟩) (L3 := [some ⟨true, 25, 3, a0.out.length, fl Zb a0.out⟩, none]) (E2 := (⟨99, [], [(4, .val (.bool true))]⟩ : Env)) (n3 := (n + 2)) (.inr rfl) hU rfl [.val (.bool true)] ?_ ?_
  ·refine Fit2.trans (E' := (⟨99, [], [(4, .val (.bool true))]⟩ : Env)) (O' := (Zu ((O.upd j0_0 none).upd i0 (some ⟨false, 139, 2, 1, [.sl l19.length (fl Zb l19), .row n a0.out.length]⟩)) n [some ⟨true, 25, 3, a0.out.length, fl Zb a0.out⟩, none])) (n' := (n + 2)) (Fit2.of (Ya hU rfl rfl ?_) (by omega)) ?_
   ·simp only [push_cast, seval, ↓reduceIte, Za, hi0, hk0, hN0, hN]
   refine Xy (k := 2) (k' := 2) hU [0, 1] [0, 0] rfl rfl rfl rfl ⟨rfl, rfl⟩ ?_
   simp only [push_cast, seval, ↓reduceIte, Za, hi0, hk0, hN0, hN]
  simp only [push_cast, seval, ↓reduceIte, Za, Try.results122, hi0, hk0, hN0, hN]
 replace h := Zw c27 h
 refine Zs [0, 3, 7, 81] (Zc Zd [] ?_)
 simp only [push_cast, seval, ↓reduceIte, Za, hi0, hk0, hN0, hN]
 refine Zt (t := (a1.Kind == 2)) rfl (fun c26 => ?_) (fun c26 => ?_)
 ·replace h := Zx c26 h
  refine Zo ?_
  obtain ⟨l22, pl22, ql22, el22, h⟩ := bA (k := a1.L.length) rfl h
  refine Zdn Zd (by kernel_rfl) [false, false, false, false, false, false, false, true, false, false, true] [] (by kernel_rfl) ?_
  simp only [push_cast, seval, ↓reduceIte, Za, pl22, ql22, el22, hi0, hk0, hN0, hN]
  refine Zdp ⟨99, [], []⟩ (Zu ((O.upd j0_0 none).upd i0 (some ⟨false, 139, 2, 1, [.sl a0.left.length (fl Zb a0.left), .row n l22.length]⟩)) n [some ⟨true, 25, 3, l22.length, fl Zb l22⟩, none]) (Ya hU rfl rfl ?_) ?_
  ·simp only [push_cast, seval, ↓reduceIte, Za, pl22, ql22, el22, hi0, hk0, hN0, hN]
  refine Zs [4] (Zc Zd [] ?_)
  simp only [push_cast, seval, ↓reduceIte, Za, hi0, hk0, hN0, hN]
  refine Z5 ?_
  try simp only [Zn, Zj]
  have h := Option.some.inj h; subst h
  refine Jh (k := 1) (i := i0) (q1 := ⟨false, 139, 2, 1, [.sl a0.left.length (fl Zb a0.left), .row n l22.length]⟩) (L3 := [some ⟨true, 25, 3, l22.length, fl Zb l22⟩, none]) (E2 := (⟨99, [], [(4, .val (.bool true))]⟩ : Env)) (n3 := (n + 2)) (.inr rfl) hU rfl [.val (.bool true)] ?_ ?_
  ·refine Fit2.trans (E' := (⟨99, [], [(4, .val (.bool true))]⟩ : Env)) (O' := (Zu ((O.upd j0_0 none).upd i0 (some ⟨false, 139, 2, 1, [.sl a0.left.length (fl Zb a0.left), .row n l22.length]⟩)) n [some ⟨true, 25, 3, l22.length, fl Zb l22⟩, none])) (n' := (n + 2)) (Fit2.of (Ya hU rfl rfl ?_) (by omega)) ?_
   ·simp only [push_cast, seval, ↓reduceIte, Za, hi0, hk0, hN0, hN]
   refine Xy (k := 2) (k' := 2) hU [0, 1] [0, 0] rfl rfl rfl rfl ⟨rfl, rfl⟩ ?_
   simp only [push_cast, seval, ↓reduceIte, Za, hi0, hk0, hN0, hN]
  simp only [push_cast, seval, ↓reduceIte, Za, Try.results122, hi0, hk0, hN0, hN]
 replace h := Zw c26 h
 refine Zs [0, 3, 93] (Zc Zd [] ?_)
 simp only [push_cast, seval, ↓reduceIte, Za, hi0, hk0, hN0, hN]
 refine Zt (t := (a1.Kind == 3)) rfl (fun c25 => ?_) (fun c25 => ?_)
 ·replace h := Zx c25 h
  refine Zo ?_
  obtain ⟨y24, hy24, h⟩ := bC h
  refine Zc Zd [] ?_
  simp only [push_cast, seval, ↓reduceIte, Za, hi0, hk0, hN0, hN]
  refine (Qh (i0 := i0) (j0_0 := n) (by omega) (by omega) (by omega) (by simp only [push_cast, seval, ↓reduceIte, Za, Y2, hi0, hk0, hN0, hN] <;> rfl) (by simp only [push_cast, seval, ↓reduceIte, Za, Y2, hi0, hk0, hN0, hN] <;> rfl) hy24).then ?_
  simp only [push_cast, seval, ↓reduceIte, Za, hi0, hk0, hN0, hN]
  refine Zm [4] [false, false, true] ?_
  simp only [push_cast, seval, ↓reduceIte]
  refine Z5 ?_
  try simp only [Zn, Zj]
  have h := Option.some.inj h; subst h
  refine Jh (k := 1) (i := i0) (q1 := ⟨false, 139, 2, 1, [.sl y24.2.left.length (fl Zb y24.2.left), .row n y24.2.out.length]⟩) (L3 := [some ⟨true, 25, 3, y24.2.out.length, fl Zb y24.2.out⟩, none]) (E2 := (⟨99, [], [(4, .val (.bool y24.1))]⟩ : Env)) (n3 := (n + 2)) (.inr rfl) hU rfl [.val (.bool y24.1)] ?_ ?_
  ·refine Fit2.trans (E' := (⟨99, [], [(4, .val (.bool y24.1))]⟩ : Env)) (O' := (Zu ((O.upd j0_0 none).upd i0 (some ⟨false, 139, 2, 1, [.sl y24.2.left.length (fl Zb y24.2.left), .row (n + 2) y24.2.out.length]⟩)) n [none, none, some ⟨true, 25, 3, y24.2.out.length, fl Zb y24.2.out⟩])) (n' := (n + 3)) (Fit2.of (Ya hU rfl rfl ?_) (by omega)) ?_
   ·simp only [push_cast, seval, ↓reduceIte, Za, hi0, hk0, hN0, hN]
   refine Xy (k := 3) (k' := 2) hU [1, 1, 0] [2, 0] rfl rfl rfl rfl ⟨rfl, rfl⟩ ?_
   simp only [push_cast, seval, ↓reduceIte, Za, hi0, hk0, hN0, hN]
  simp only [push_cast, seval, ↓reduceIte, Za, Try.results122, hi0, hk0, hN0, hN]
 replace h := Zw c25 h
 refine Z0 ?_
 try simp only [Zn, Zj]
 refine Zm [] [true, false] ?_
 simp only [push_cast, seval, ↓reduceIte]
 refine Zs [4] (Zc Zd [] ?_)
 simp only [push_cast, seval, ↓reduceIte, Za, hi0, hk0, hN0, hN]
 refine Z5 ?_
 try simp only [Zn, Zj]
 have h := Option.some.inj h; subst h
 refine Jh (k := 1) (i := i0) (q1 := ⟨false, 139, 2, 1, [.sl a0.left.length (fl Zb a0.left), .row n a0.out.length]⟩) (L3 := [some ⟨true, 25, 3, a0.out.length, fl Zb a0.out⟩, none]) (E2 := (⟨99, [], [(4, .val (.bool false))]⟩ : Env)) (n3 := (n + 2)) (.inr rfl) hU rfl [.val (.bool false)] ?_ ?_
 ·refine Fit2.trans (E' := (⟨99, [], [(4, .val (.bool false))]⟩ : Env)) (O' := (Zu ((O.upd j0_0 none).upd i0 (some ⟨false, 139, 2, 1, [.sl a0.left.length (fl Zb a0.left), .row n a0.out.length]⟩)) n [some ⟨true, 25, 3, a0.out.length, fl Zb a0.out⟩, none])) (n' := (n + 2)) (Fit2.of (Ya hU rfl rfl ?_) (by omega)) ?_
  ·simp only [push_cast, seval, ↓reduceIte, Za, hi0, hk0, hN0, hN]
  refine Xy (k := 2) (k' := 2) hU [0, 1] [0, 0] rfl rfl rfl rfl ⟨rfl, rfl⟩ ?_
  simp only [push_cast, seval, ↓reduceIte, Za, hi0, hk0, hN0, hN]
 simp only [push_cast, seval, ↓reduceIte, Za, Try.results122, hi0, hk0, hN0, hN]
theorem Zf6 {Yw : (S_api_Edit → S_api_Tree → Option (S_api_Tree × Bool))} {Yb : (S_api_Edit → S_api_Tree → Option (S_api_Tree × Bool))} {Y3 : (S_api_Edit → S_api_Tree → Option (S_api_Tree × Bool))} {Z4 : (Zi → S_api_Op → Option (Bool × Zi))} {Z3 : (Zi → S_api_Edit → Option (Bool × Zi))} (Jp : ∀ {a0 : S_api_Edit} {a1 : S_api_Tree} {r : (S_api_Tree × Bool)} {O : Objs} {n : Nat}, Yw a0 a1 = some r → GTo Try.prog 58 [.agg (Zg a0), .agg (Ze a1)] O n (.tup [.agg (Ze r.1), .val (.bool r.2)]) O n) (Kl : ∀ {a0 : S_api_Edit} {a1 : S_api_Tree} {r : (S_api_Tree × Bool)} {O : Objs} {n : Nat}, Yb a0 a1 = some r → GTo Try.prog 94 [.agg (Zg a0), .agg (Ze a1)] O n (.tup [.agg (Ze r.1), .val (.bool r.2)]) O n) (Gl : ∀ {a0 : S_api_Edit} {a1 : S_api_Tree} {r : (S_api_Tree × Bool)} {O : Objs} {n : Nat}, Y3 a0 a1 = some r → GTo Try.prog 95 [.agg (Zg a0), .agg (Ze a1)] O n (.tup [.agg (Ze r.1), .val (.bool r.2)]) O n) (Jk : ∀ {a0 : Zi} {a1 : S_api_Op} {r : (Bool × Zi)} {O : Objs} {n : Nat} {i0 j0_0 : Nat}, i0 < n → j0_0 < n → i0 ≠ j0_0 → O i0 = some ⟨false, 139, 2, 1, [.sl a0.left.length (fl Zb a0.left), .row j0_0 a0.out.length]⟩ → O j0_0 = some ⟨true, 25, 3, a0.out.length, fl Zb a0.out⟩ → Z4 a0 a1 = some r → GTo Try.prog 122 [.ref i0 0, .agg (Ym a1)] O n (.val (.bool r.1)) (Zu ((O.upd j0_0 none).upd i0 (some ⟨false, 139, 2, 1, [.sl r.2.left.length (fl Zb r.2.left), .row n r.2.out.length]⟩)) n [some ⟨true, 25, 3, r.2.out.length, fl Zb r.2.out⟩]) (n + 1)) (Qh : ∀ {a0 : Zi} {a1 : S_api_Edit} {r : (Bool × Zi)} {O : Objs} {n : Nat} {i0 j0_0 : Nat}, i0 < n → j0_0 < n → i0 ≠ j0_0 → O i0 = some ⟨false, 139, 2, 1, [.sl a0.left.length (fl Zb a0.left), .row j0_0 a0.out.length]⟩ → O j0_0 = some ⟨true, 25, 3, a0.out.length, fl Zb a0.out⟩ → Z3 a0 a1 = some r → GTo Try.prog 129 [.ref i0 0, .agg (Zg a1)] O n (.val (.bool r.1)) (Zu ((O.upd j0_0 none).upd i0 (some ⟨false, 139, 2, 1, [.sl r.2.left.length (fl Zb r.2.left), .row n r.2.out.length]⟩)) n [some ⟨true, 25, 3, r.2.out.length, fl Zb r.2.out⟩]) (n + 1)) {a0 : Zi} {a1 : S_api_Edit} {r : (Bool × Zi)} {O : Objs} {n : Nat} {i0 j0_0 : Nat} (hi0 : i0 < n) (K6 : j0_0 < n) (Qw : i0 ≠ j0_0) (ho0 : O i0 = some ⟨false, 139, 2, 1, [.sl a0.left.length (fl Zb a0.left), .row j0_0 a0.out.length]⟩) (Vl : O j0_0 = some ⟨true, 25, 3, a0.out.length, fl Zb a0.out⟩) (h : Jg Yw Yb Y3 Z4 Z3 a0 a1 = some r) : GTo Try.prog 129 [.ref i0 0, .agg (Zg a1)] O n (.val (.bool r.1)) (Zu ((O.upd j0_0 none).upd i0 (some ⟨false, 139, 2, 1, [.sl r.2.left.length (fl Zb r.2.left), .row n r.2.out.length]⟩)) n [some ⟨true, 25, 3, r.2.out.length, fl Zb r.2.out⟩]) (n + 1) := by
 unfold Jg at h
 refine Xc Zd Try.call129 Try.func129 rfl (Nat.le_of_ble_eq_true rfl) (by omega) fun hU => ?_
 have e0 := Q8 (ba := n) (E := ⟨44, [], Zc0 0 [.ref i0 0, .agg [.val (.int .i64 a1.Kind), .val (.int .i64 a1.Old.Kind), .sl a1.Old.Words.length (fl (eI .u64) a1.Old.Words), .sl a1.Old.Kids.length (fl Zb a1.Old.Kids), .val (.int .i64 a1.New.Kind), .sl a1.New.Words.length (fl (eI .u64) a1.New.Words), .sl a1.New.Kids.length (fl Zb a1.New.Kids), .sl a1.Words.length (fl Zh a1.Words), .sl a1.Kids.length (fl Zk a1.Kids), .val (.int .i64 a1.List_), .sl a1.Ops.length (fl Zf a1.Ops)]]⟩) (O := (Zu O n [])) (n := n) (i := i0) (j := j0_0) (k := 1) (len := a0.out.length) (q := ⟨false, 139, 2, 1, [.sl a0.left.length (fl Zb a0.left), .row j0_0 a0.out.length]⟩) (qj := ⟨true, 25, 3, a0.out.length, fl Zb a0.out⟩) (by rw [Yf _ hi0]; first | exact ho0 | exact Z8 _ _ _) rfl (by rw [Yf _ K6]; exact Vl) Qw (by omega)
 simp only [Yj _ _ K6, Yj _ _ hi0, Y0, Yl, Xz, Ux Qw, List.set_cons_zero, List.set_cons_succ, List.cons_append, List.nil_append, List.length_cons, List.length_nil, Nat.zero_add, Nat.reduceAdd, Nat.add_assoc] at e0
 refine Ja e0 ?_
 have hU := (Und.drop hU j0_0)
 have hk0 : ∀ k, i0 < n + k := fun k => by omega
 have hN0 : ∀ o, Objs.upd (O.upd j0_0 none) i0 o n = none := fun o => Qv hU hi0 _ (Nat.le_refl _)
 have hN : ∀ o k, Objs.upd (O.upd j0_0 none) i0 o (n + k) = none := fun o k => Qv hU hi0 _ (Nat.le_add_right _ _)
 show W _ _ _ _ ⟨44, [], [(0, .ref i0 0), (1, .agg (Zg a1))]⟩ (Zu ((O.upd j0_0 none).upd i0 (some ⟨false, 139, 2, 1, [.sl a0.left.length (fl Zb a0.left), .row n a0.out.length]⟩)) n [some ⟨true, 25, 3, a0.out.length, fl Zb a0.out⟩]) _
 refine Zs [0, 3] (Zc Zd [] ?_)
 simp only [push_cast, seval, ↓reduceIte, Za, hi0, hk0, hN0, hN]
 refine Zo ?_
 refine Zs [0, 3, 12] (Zc Zd [] ?_)
 simp only [push_cast, seval, ↓reduceIte, Za, hi0, hk0, hN0, hN]
 refine Zt (t := ((a0.left.length : Int) == 0)) rfl (fun c13 => ?_) (fun c13 => ?_)
 ·replace h := Zx c13 h
  refine Zs [4] (Zc Zd [] ?_)
  simp only [push_cast, seval, ↓reduceIte, Za, hi0, hk0, hN0, hN]
  refine Z5 ?_
  try simp only [Zn, Zj]
  have h := Option.some.inj h; subst h
  refine Jh (k := 1) (i := i0) (q1 := ⟨false, 139, 2, 1, [.sl a0.left.length (fl Zb a0.left), .row n a0.out.length]⟩) (L3 := [some ⟨true, 25, 3, a0.out.length, fl Zb a0.out⟩, none]) (E2 := (⟨44, [], [(4, .val (.bool false))]⟩ : Env)) (n3 := (n + 2)) (.inr rfl) hU rfl [.val (.bool false)] ?_ ?_
  ·refine Fit2.trans (E' := (⟨44, [], [(4, .val (.bool false))]⟩ : Env)) (O' := (Zu ((O.upd j0_0 none).upd i0 (some ⟨false, 139, 2, 1, [.sl a0.left.length (fl Zb a0.left), .row n a0.out.length]⟩)) n [some ⟨true, 25, 3, a0.out.length, fl Zb a0.out⟩, none])) (n' := (n + 2)) (Fit2.of (Ya hU rfl rfl ?_) (by omega)) ?_
   ·simp only [push_cast, seval, ↓reduceIte, Za, hi0, hk0, hN0, hN]
   refine Xy (k := 2) (k' := 2) hU [0, 1] [0, 0] rfl rfl rfl rfl ⟨rfl, rfl⟩ ?_
   simp only [push_cast, seval, ↓reduceIte, Za, hi0, hk0, hN0, hN]
  simp only [push_cast, seval, ↓reduceIte, Za, Try.results129, hi0, hk0, hN0, hN]
 replace h := Zw c13 h
 refine Z0 ?_
 try simp only [Zn, Zj]
 refine Zm [0, 3] [true, true] ?_
 simp only [push_cast, seval, ↓reduceIte]
 refine Zo ?_
 obtain ⟨x3, hx3, ax3, bx3, cx3, h⟩ := bE (f := Zb) Vs (fun _ => rfl) (by decide) h
 obtain ⟨y4, hy4, h⟩ := bC h
 refine Zai Zd (by kernel_rfl) [.low, .low, .low, .low, .low, .low, .low, .low, .low, .low, .low, .pass, .pass, .plain] (fun i => i < (n + 2)) [0, 1, 2, 3, 4, 5, 6, 7, 8, 9, 10, 11, 12, 13] [.low, .low, .low, .low, .low, .low, .low, .low, .low, .low, .low, .pass, .pass, .plain] [] (by kernel_rfl) rfl ?_
 simp only [push_cast, Nat.reduceAdd, Nat.reduceSub, Nat.reduceMul, Nat.reduceLeDiff, Nat.reduceLT, Nat.reduceEqDiff, ↓reduceIte, reduceCtorEq, Int.reduceBEq, Int.reduceBNe, Nat.reduceBEq, Int.reduceLE, Int.reduceLT, Int.reduceEq, Int.reduceNe, Int.reduceNeg, Nat.reduceDiv, Nat.reduceMod, Nat.reducePow, Za, ax3, bx3, cx3, hi0, hk0, hN0, hN]
 repeat (with_reducible refine And.intro (by first | omega | exact Yt rfl | exact Yi | exact Qg rfl rfl) ?_)
 first | refine PCallA.of (fun _ _ => Jp hy4) ?_ | refine PCall.of (Jp hy4) ?_
 simp only [push_cast, Nat.reduceAdd, Nat.reduceSub, Nat.reduceMul, Nat.reduceLeDiff, Nat.reduceLT, Nat.reduceEqDiff, ↓reduceIte, reduceCtorEq, Int.reduceBEq, Int.reduceBNe, Nat.reduceBEq, Int.reduceLE, Int.reduceLT, Int.reduceEq, Int.reduceNe, Int.reduceNeg, Nat.reduceDiv, Nat.reduceMod, Nat.reducePow, Za, ax3, bx3, cx3, hi0, hk0, hN0, hN]
 repeat (with_reducible refine And.intro (by first | omega | exact Yt rfl | exact Yi | exact Qg rfl rfl) ?_)
 refine Zm [0, 5, 6] [true, false, true] ?_
 simp only [push_cast, seval, ↓reduceIte]
 refine Zo ?_
 obtain ⟨l8, pl8, ql8, el8, h⟩ := bA (k := 1) rfl h
 obtain ⟨x9, hx9, ax9, bx9, cx9, h⟩ := bE (f := Zb) Vs (fun _ => rfl) (by decide) h
 have gu10 : Ji (fl Zb a0.out ++ [.val (.int .i64 0), .val (.slice none 0 0), .val (.slice none 0 0)]) [.val (.int .i64 y4.1.Kind), .sl y4.1.Words.length (fl (eI .u64) y4.1.Words), .sl y4.1.Kids.length (fl Zb y4.1.Kids)] (List.length a0.out * 3) = some (fl Zb a0.out ++ [.val (.int .i64 y4.1.Kind), .sl y4.1.Words.length (fl (eI .u64) y4.1.Words), .sl y4.1.Kids.length (fl Zb y4.1.Kids)]) := Uz (f := Zb) (sz := 3) (fun _ => rfl) rfl rfl
 refine Zai Zd (by kernel_rfl) [.low, .low, .low, .low, .low, .low, .pass, .bar, .shp, .fill true, .shp, .shp, .fill false] (fun i => i < (n + 3)) [0, 1, 2, 3, 4, 5, 6, 7, 8, 9, 10, 11, 12] [.low, .low, .low, .low, .low, .low, .pass, .bar, .shp, .fill true, .shp, .shp, .fill false] [] (by kernel_rfl) rfl ?_
 simp only [push_cast, Nat.reduceAdd, Nat.reduceSub, Nat.reduceMul, Nat.reduceLeDiff, Nat.reduceLT, Nat.reduceEqDiff, ↓reduceIte, reduceCtorEq, Int.reduceBEq, Int.reduceBNe, Nat.reduceBEq, Int.reduceLE, Int.reduceLT, Int.reduceEq, Int.reduceNe, Int.reduceNeg, Nat.reduceDiv, Nat.reduceMod, Nat.reducePow, Za, pl8, ql8, el8, ax9, bx9, cx9, gu10, hi0, hk0, hN0, hN]
 repeat (with_reducible refine And.intro (by first | omega | exact Yt rfl | exact Yi | exact Qg rfl rfl) ?_)
 refine Zdp ⟨44, [], [(0, .ref i0 0), (6, .val (.bool y4.2))]⟩ (Zu ((O.upd j0_0 none).upd i0 (some ⟨false, 139, 2, 1, [.sl a0.left.length (fl Zb a0.left), .row n (a0.out ++ [y4.1]).length]⟩)) n [some ⟨true, 25, 3, (a0.out ++ [y4.1]).length, fl Zb (a0.out ++ [y4.1])⟩, none, none, none]) (Ya hU rfl rfl ?_) ?_
 ·simp only [push_cast, Nat.reduceAdd, Nat.reduceSub, Nat.reduceMul, Nat.reduceLeDiff, Nat.reduceLT, Nat.reduceEqDiff, ↓reduceIte, reduceCtorEq, Int.reduceBEq, Int.reduceBNe, Nat.reduceBEq, Int.reduceLE, Int.reduceLT, Int.reduceEq, Int.reduceNe, Int.reduceNeg, Nat.reduceDiv, Nat.reduceMod, Nat.reducePow, Za, pl8, ql8, el8, ax9, bx9, cx9, gu10, hi0, hk0, hN0, hN]
 refine Zo ?_
 obtain ⟨l12, al12, bl12, cl12, gl12, h⟩ := bS (lo := (some (.i64, 1))) (hi := none) (f := Zb) rfl rfl Zcw Vs (fun _ => rfl) h
 refine Zc Zd [] ?_
 simp only [push_cast, seval, ↓reduceIte, Za, al12, bl12, cl12, gl12, hi0, hk0, hN0, hN]
 refine Zm [6] [true, false, false, false] ?_
 simp only [push_cast, seval, ↓reduceIte]
 refine Zs [4] (Zc Zd [] ?_)
 simp only [push_cast, seval, ↓reduceIte, Za, hi0, hk0, hN0, hN]
 refine Z5 ?_
 try simp only [Zn, Zj]
 have h := Option.some.inj h; subst h
 refine Jh (k := 1) (i := i0) (q1 := ⟨false, 139, 2, 1, [.sl l12.length (fl Zb l12), .row n (a0.out ++ [y4.1]).length]⟩) (L3 := [some ⟨true, 25, 3, (a0.out ++ [y4.1]).length, fl Zb (a0.out ++ [y4.1])⟩, none]) (E2 := (⟨44, [], [(4, .val (.bool y4.2))]⟩ : Env)) (n3 := (n + 2)) (.inr rfl) hU rfl [.val (.bool y4.2)] ?_ ?_
 ·refine Fit2.trans (E' := (⟨44, [], [(4, .val (.bool y4.2))]⟩ : Env)) (O' := (Zu ((O.upd j0_0 none).upd i0 (some ⟨false, 139, 2, 1, [.sl l12.length (fl Zb l12), .row n (a0.out ++ [y4.1]).length]⟩)) n [some ⟨true, 25, 3, (a0.out ++ [y4.1]).length, fl Zb (a0.out ++ [y4.1])⟩, none, none, none])) (n' := (n + 4)) (Fit2.of (Ya hU rfl rfl ?_) (by omega)) ?_
  ·simp only [push_cast, seval, ↓reduceIte, Za, hi0, hk0, hN0, hN]
  refine Xy (k := 4) (k' := 2) hU [0, 1, 1, 1] [0, 0] rfl rfl rfl rfl ⟨rfl, rfl⟩ ?_
  simp only [push_cast, seval, ↓reduceIte, Za, hi0, hk0, hN0, hN]
 simp only [push_cast, seval, ↓reduceIte, Za, Try.results129, hi0, hk0, hN0, hN]
theorem Zl7 : ∀ k, (∀ {a0 : S_api_Edit} {a1 : S_api_Tree} {r : (S_api_Tree × Bool)} {O : Objs} {n : Nat}, (Zp k).1 a0 a1 = some r → GTo Try.prog 58 [.agg (Zg a0), .agg (Ze a1)] O n (.tup [.agg (Ze r.1), .val (.bool r.2)]) O n) ∧ (∀ {a0 : S_api_Edit} {a1 : S_api_Tree} {r : (S_api_Tree × Bool)} {O : Objs} {n : Nat}, (Zp k).2.1 a0 a1 = some r → GTo Try.prog 94 [.agg (Zg a0), .agg (Ze a1)] O n (.tup [.agg (Ze r.1), .val (.bool r.2)]) O n) ∧ (∀ {a0 : S_api_Edit} {a1 : S_api_Tree} {r : (S_api_Tree × Bool)} {O : Objs} {n : Nat}, (Zp k).2.2.1 a0 a1 = some r → GTo Try.prog 95 [.agg (Zg a0), .agg (Ze a1)] O n (.tup [.agg (Ze r.1), .val (.bool r.2)]) O n) ∧ (∀ {a0 : Zi} {a1 : S_api_Op} {r : (Bool × Zi)} {O : Objs} {n : Nat} {i0 j0_0 : Nat}, i0 < n → j0_0 < n → i0 ≠ j0_0 → O i0 = some ⟨false, 139, 2, 1, [.sl a0.left.length (fl Zb a0.left), .row j0_0 a0.out.length]⟩ → O j0_0 = some ⟨true, 25, 3, a0.out.length, fl Zb a0.out⟩ → (Zp k).2.2.2.1 a0 a1 = some r → GTo Try.prog 122 [.ref i0 0, .agg (Ym a1)] O n (.val (.bool r.1)) (Zu ((O.upd j0_0 none).upd i0 (some ⟨false, 139, 2, 1, [.sl r.2.left.length (fl Zb r.2.left), .row n r.2.out.length]⟩)) n [some ⟨true, 25, 3, r.2.out.length, fl Zb r.2.out⟩]) (n + 1)) ∧ (∀ {a0 : Zi} {a1 : S_api_Edit} {r : (Bool × Zi)} {O : Objs} {n : Nat} {i0 j0_0 : Nat}, i0 < n → j0_0 < n → i0 ≠ j0_0 → O i0 = some ⟨false, 139, 2, 1, [.sl a0.left.length (fl Zb a0.left), .row j0_0 a0.out.length]⟩ → O j0_0 = some ⟨true, 25, 3, a0.out.length, fl Zb a0.out⟩ → (Zp k).2.2.2.2 a0 a1 = some r → GTo Try.prog 129 [.ref i0 0, .agg (Zg a1)] O n (.val (.bool r.1)) (Zu ((O.upd j0_0 none).upd i0 (some ⟨false, 139, 2, 1, [.sl r.2.left.length (fl Zb r.2.left), .row n r.2.out.length]⟩)) n [some ⟨true, 25, 3, r.2.out.length, fl Zb r.2.out⟩]) (n + 1)) := fun k => by
 induction k with
 | zero => exact ⟨@fun a0 a1 r O n h => (nomatch (show (none : Option _) = some _ from h)), @fun a0 a1 r O n h => (nomatch (show (none : Option _) = some _ from h)), @fun a0 a1 r O n h => (nomatch (show (none : Option _) = some _ from h)), @fun a0 a1 r O n i0 j0_0 hi0 K6 Qw ho0 Vl h => (nomatch (show (none : Option _) = some _ from h)), @fun a0 a1 r O n i0 j0_0 hi0 K6 Qw ho0 Vl h => (nomatch (show (none : Option _) = some _ from h))⟩
 | succ k ih => exact ⟨@fun a0 a1 r O n h => Zo4 (ih.1) (ih.2.1) (ih.2.2.1) (ih.2.2.2.1) (ih.2.2.2.2)  h, @fun a0 a1 r O n h => Zi9 (ih.1) (ih.2.1) (ih.2.2.1) (ih.2.2.2.1) (ih.2.2.2.2)  h, @fun a0 a1 r O n h => Zo5 (ih.1) (ih.2.1) (ih.2.2.1) (ih.2.2.2.1) (ih.2.2.2.2)  h, @fun a0 a1 r O n i0 j0_0 hi0 K6 Qw ho0 Vl h => Zho (ih.1) (ih.2.1) (ih.2.2.1) (ih.2.2.2.1) (ih.2.2.2.2) hi0 K6 Qw ho0 Vl h, @fun a0 a1 r O n i0 j0_0 hi0 K6 Qw ho0 Vl h => Zf6 (ih.1) (ih.2.1) (ih.2.2.1) (ih.2.2.2.1) (ih.2.2.2.2) hi0 K6 Qw ho0 Vl h⟩
theorem Zqw {a0 : S_api_Edit} {a1 : S_api_Tree} {r : (S_api_Tree × Bool)} {O : Objs} {n : Nat} (h : Zgy a0 a1 = some r) : GTo Try.prog 58 [.agg (Zg a0), .agg (Ze a1)] O n (.tup [.agg (Ze r.1), .val (.bool r.2)]) O n := by
 obtain ⟨k, hk⟩ := Ur h
 exact (Zl7 k).1  hk
theorem Zdo {a0 : S_api_Edit} {a1 : S_api_Tree} {r : (S_api_Tree × Bool)} {O : Objs} {n : Nat} (h : Kb a0 a1 = some r) : GTo Try.prog 23 [.agg (Zg a0), .agg (Ze a1)] O n (.tup [.agg (Ze r.1), .val (.bool r.2)]) O n := by
 unfold Kb at h
 refine Xc Zd Try.call23 Try.func23 rfl (Nat.le_of_ble_eq_true rfl) (Nat.le_refl _) fun hU => ?_
 have hN0 : O n = none := hU.fresh _ (Nat.le_refl _)
 have hN : ∀ k, O (n + k) = none := fun k => hU.fresh _ (Nat.le_add_right _ _)
 show W _ _ _ _ ⟨19, [], [(0, .agg (Zg a0)), (1, .agg (Ze a1))]⟩ (Zu O n []) _
 refine Zs [2, 3, 4] (Zc Zd [] ?_)
 simp only [push_cast, seval, ↓reduceIte, Za, hN0, hN]
 refine Zo ?_
 obtain ⟨y2, hy2, h⟩ := bC h
 refine Zc Zd [] ?_
 simp only [push_cast, seval, ↓reduceIte, Za, hN0, hN]
 refine (Zqw hy2).then ?_
 simp only [push_cast, seval, ↓reduceIte, Za, hN0, hN]
 refine Zm [4, 6, 7] [false, false, true, true] ?_
 simp only [push_cast, seval, ↓reduceIte]
 refine Zo ?_
 refine Zs [4, 6, 15] (Zc Zd [] ?_)
 simp only [push_cast, seval, ↓reduceIte, Za, hN0, hN]
 refine Zt (t := (!y2.2)) rfl (fun c5 => ?_) (fun c5 => ?_)
 ·replace h := Zx c5 h
  refine Zo ?_
  refine Zc Zd [] ?_
  simp only [push_cast, seval, ↓reduceIte, Za, hN0, hN]
  refine Zm [4, 5] [false, false, true, false] ?_
  simp only [push_cast, seval, ↓reduceIte]
  refine Z5 ?_
  try simp only [Zn, Zj]
  have h := Option.some.inj h; subst h
  refine Zy (.inr rfl) hU [.agg [.val (.int .i64 0), .val (.slice none 0 0), .val (.slice none 0 0)], .val (.bool false)] (by omega) ?_
  simp only [push_cast, seval, ↓reduceIte, Za, Try.results23, hN0, hN]
 replace h := Zw c5 h
 refine Z0 ?_
 try simp only [Zn, Zj]
 refine Zm [4, 6] [false, false, true, true] ?_
 simp only [push_cast, seval, ↓reduceIte]
 refine Zo ?_
 obtain ⟨y4, hy4, h⟩ := bC h
 refine Zc Zd [] ?_
 simp only [push_cast, seval, ↓reduceIte, Za, hN0, hN]
 refine (Gc hy4).then ?_
 simp only [push_cast, seval, ↓reduceIte, Za, hN0, hN]
 refine Zm [4, 5] [false, false, true, false] ?_
 simp only [push_cast, seval, ↓reduceIte]
 refine Z5 ?_
 try simp only [Zn, Zj]
 have h := Option.some.inj h; subst h
 refine Zy (.inr rfl) hU [.agg (Ze y4), .val (.bool true)] (by omega) ?_
 simp only [push_cast, seval, ↓reduceIte, Za, Try.results23, hN0, hN]
theorem Zj2 {a0 : (List Int)} {r : (List Int)} {O : Objs} {n : Nat} (h : Ua a0 = some r) : GTo Try.prog 63 [.sl a0.length (fl (eI .u64) a0)] O n (.sl r.length (fl (eI .u64) r)) O n := by
 unfold Ua at h
 refine Xc Zd Try.call63 Try.func63 rfl (Nat.le_of_ble_eq_true rfl) (Nat.le_refl _) fun hU => ?_
 have hN0 : O n = none := hU.fresh _ (Nat.le_refl _)
 have hN : ∀ k, O (n + k) = none := fun k => hU.fresh _ (Nat.le_add_right _ _)
 show W _ _ _ _ ⟨24, [], [(0, .sl a0.length (fl (eI .u64) a0))]⟩ (Zu O n []) _
 refine Zs [0] (Zc Zd [] ?_)
 simp only [push_cast, seval, ↓reduceIte, Za, hN0, hN]
 refine Zs [0, 3] (Zc Zd [] ?_)
 simp only [push_cast, seval, ↓reduceIte, Za, hN0, hN]
 refine Zo ?_
 refine Zm [0, 3] [] ?_
 simp only [push_cast, seval, ↓reduceIte]
 obtain ⟨z7, hz7, h⟩ := bC h
 refine Yv (E' := ⟨24, [], [(0, .sl a0.length (fl (eI .u64) a0)), (3, .val (.int .i64 z7))]⟩) (O' := (Zu O n [])) (n0 := n) ?_ ?_
 ·refine Y7 hz7 (fun s0_ => ⟨24, [], [(0, .sl a0.length (fl (eI .u64) a0)), (3, .val (.int .i64 s0_))]⟩) (fun s0_ => (Zu O n [])) (fun z7 => JX 0 n (⟨24, [], [(0, .sl a0.length (fl (eI .u64) a0)), (3, .val (.int .i64 z7))]⟩ : Env) (Zu O n []) n) ?_
  intro s0_ x0_ hs0_
  unfold Kj at hs0_
  try dsimp only
  refine Zo ?_
  obtain ⟨z2, hz2, hs0_⟩ := bC hs0_
  refine Y5 (E' := ⟨24, [], [(0, .sl a0.length (fl (eI .u64) a0)), (3, .val (.int .i64 s0_)), (16, .val (.bool z2))]⟩) (O' := (Zu O n [])) (n0 := n) ?_ ?_
  ·rcases Bool.eq_false_or_eq_true (decide (0 < s0_)) with c5 | c5
   ·replace hz2 := Zx c5 hz2
    obtain ⟨x4, hx4, ax4, bx4, cx4, hz2⟩ := bE (f := (eI .u64)) Zfg (fun _ => rfl) (by decide) hz2
    refine Zc Zd [some true, some true, some true, some true, some true, some true] ?_
    simp only [push_cast, Nat.reduceAdd, Nat.reduceSub, Nat.reduceMul, Nat.reduceLeDiff, Nat.reduceLT, Nat.reduceEqDiff, ↓reduceIte, reduceCtorEq, Int.reduceBEq, Int.reduceBNe, Nat.reduceBEq, Int.reduceLE, Int.reduceLT, Int.reduceEq, Int.reduceNe, Int.reduceNeg, Nat.reduceDiv, Nat.reduceMod, Nat.reducePow, Za, c5, ax4, bx4, cx4, hN0, hN]
    have hz2 := Option.some.inj hz2; subst hz2
    refine And.intro rfl (Fit2.of (Zl hU rfl rfl ?_) (by omega))
    simp only [push_cast, Nat.reduceAdd, Nat.reduceSub, Nat.reduceMul, Nat.reduceLeDiff, Nat.reduceLT, Nat.reduceEqDiff, ↓reduceIte, reduceCtorEq, Int.reduceBEq, Int.reduceBNe, Nat.reduceBEq, Int.reduceLE, Int.reduceLT, Int.reduceEq, Int.reduceNe, Int.reduceNeg, Nat.reduceDiv, Nat.reduceMod, Nat.reducePow, Za, c5, ax4, bx4, cx4, hN0, hN]
   replace hz2 := Zw c5 hz2
   refine Zc Zd [some false, some false, some false, some false, some false, some false] ?_
   simp only [push_cast, seval, ↓reduceIte, Za, c5, hN0, hN]
   have hz2 := Option.some.inj hz2; subst hz2
   refine And.intro rfl (Fit2.of (Zl hU rfl rfl ?_) (by omega))
   simp only [push_cast, seval, ↓reduceIte, Za, c5, hN0, hN]
  refine Zt (t := z2) rfl (fun c6 => ?_) (fun c6 => ?_)
  ·replace hs0_ := Zx c6 hs0_
   refine Z0 ?_
   try simp only [Zn, Zj]
   refine Zm [0, 3] [] ?_
   simp only [push_cast, seval, ↓reduceIte]
   refine Ys ?_
   refine Zc Zd [] ?_
   simp only [push_cast, seval, ↓reduceIte, Za, hN0, hN]
   have hs0_ := Option.some.inj hs0_; subst hs0_
   refine And.intro rfl (Fit2.of (Zl hU rfl rfl ?_) (by omega))
   simp only [push_cast, seval, ↓reduceIte, Za, hN0, hN]
  replace hs0_ := Zw c6 hs0_
  refine Xs ?_
  try simp only [Zn, Zj, ↓reduceIte, Nat.reduceEqDiff]
  have hs0_ := Option.some.inj hs0_; subst hs0_
  refine And.intro (fun h => by cases h) (And.intro rfl (Fit2.of (Zl hU rfl rfl ?_) (by omega)))
  simp only [push_cast, seval, ↓reduceIte, Za, hN0, hN]
 try simp only [Zn, Zj, ↓reduceIte, Nat.reduceEqDiff]
 refine Zm [0, 3] [] ?_
 simp only [push_cast, seval, ↓reduceIte]
 refine Zs [0, 3, 4] (Zc Zd [] ?_)
 simp only [push_cast, seval, ↓reduceIte, Za, hN0, hN]
 refine Zo ?_
 obtain ⟨l10, al10, bl10, cl10, gl10, h⟩ := bS (lo := none) (hi := (some (.i64, z7))) (f := (eI .u64)) rfl rfl Zln Zfg (fun _ => rfl) h
 obtain ⟨l11, pl11, ql11, el11, h⟩ := bA0 (k := l10.length) rfl h
 refine Zc Zd [] ?_
 simp only [push_cast, seval, ↓reduceIte, Za, al10, bl10, cl10, gl10, pl11, ql11, el11, hN0, hN]
 refine Zdp ⟨24, [], [(2, .row n l11.length)]⟩ (Zu O n [some ⟨true, 56, 1, l11.length, fl (eI .u64) l11⟩]) (Zl hU rfl rfl ?_) ?_
 ·simp only [push_cast, seval, ↓reduceIte, Za, al10, bl10, cl10, gl10, pl11, ql11, el11, hN0, hN]
 refine Z5 ?_
 try simp only [Zn, Zj]
 have h := Option.some.inj h; subst h
 refine Zy (.inr rfl) hU [.row n l11.length] (by omega) ?_
 simp only [push_cast, seval, ↓reduceIte, Za, Try.results63, hN0, hN]
theorem Zja {Ks : (S_api_Tree → Option S_api_Tree)} (Zh5 : ∀ {a0 : S_api_Tree} {r : S_api_Tree} {O : Objs} {n : Nat}, Ks a0 = some r → GTo Try.prog 31 [.agg (Ze a0)] O n (.agg (Ze r)) O n) {a0 : S_api_Tree} {r : S_api_Tree} {O : Objs} {n : Nat} (h : V1 Ks a0 = some r) : GTo Try.prog 31 [.agg (Ze a0)] O n (.agg (Ze r)) O n := by
 unfold V1 at h
 refine Xc Zd Try.call31 Try.func31 rfl (Nat.le_of_ble_eq_true rfl) (Nat.le_refl _) fun hU => ?_
 have hN0 : O n = none := hU.fresh _ (Nat.le_refl _)
 have hN : ∀ k, O (n + k) = none := fun k => hU.fresh _ (Nat.le_add_right _ _)
 show W _ _ _ _ ⟨53, [], [(0, .agg (Ze a0))]⟩ (Zu O n []) _
 refine Zs [1, 2] (Zc Zd [] ?_)
 simp only [push_cast, seval, ↓reduceIte, Za, hN0, hN]
 refine Zo ?_
 refine Zs [1, 2, 10] (Zc Zd [] ?_)
 simp only [push_cast, seval, ↓reduceIte, Za, hN0, hN]
 refine Zt (t := (a0.Kind == 0)) rfl (fun c19 => ?_) (fun c19 => ?_)
 ·replace h := Zx c19 h
  refine Zo ?_
  refine Zc Zd [] ?_
  simp only [push_cast, seval, ↓reduceIte, Za, hN0, hN]
  refine Zm [2] [false, true] ?_
  simp only [push_cast, seval, ↓reduceIte]
  refine Z5 ?_
  try simp only [Zn, Zj]
  have h := Option.some.inj h; subst h
  refine Zy (.inr rfl) hU [.agg [.val (.int .i64 0), .val (.slice none 0 0), .val (.slice none 0 0)]] (by omega) ?_
  simp only [push_cast, seval, ↓reduceIte, Za, Try.results31, hN0, hN]
 replace h := Zw c19 h
 refine Z0 ?_
 try simp only [Zn, Zj]
 refine Zm [1, 2] [true, true] ?_
 simp only [push_cast, seval, ↓reduceIte]
 refine Zs [1, 2, 3] (Zc Zd [] ?_)
 simp only [push_cast, seval, ↓reduceIte, Za, hN0, hN]
 refine Zs [1, 2, 3, 4] (Zc Zd [] ?_)
 simp only [push_cast, seval, ↓reduceIte, Za, hN0, hN]
 refine Zo ?_
 refine Zs [1, 2, 3, 4, 5] (Zc Zd [] ?_)
 simp only [push_cast, seval, ↓reduceIte, Za, hN0, hN]
 refine Zm [1, 2, 3, 4, 5] [true, true] ?_
 simp only [push_cast, seval, ↓reduceIte]
 refine Ja (E' := (⟨53, [], [(1, .ref n 0), (2, .ref (n + 1) 0), (3, .row (n + 2) ([] : List S_api_Tree).length), (4, .val (.int .i64 0)), (5, .val (.int .i64 0))]⟩ : Env)) (O' := (Zu O n [some ⟨false, 25, 3, 1, (Ze a0)⟩, some ⟨false, 25, 3, 1, [.val (.int .i64 0), .val (.slice none 0 0), .val (.slice none 0 0)]⟩, some ⟨true, 25, 3, ([] : List S_api_Tree).length, fl Zb ([] : List S_api_Tree)⟩, none])) (n' := (n + 4)) ?_ ?_
 ·refine Fit2.trans (E' := (⟨53, [], [(1, .ref n 0), (2, .ref (n + 1) 0), (3, .val (.slice none 0 0)), (4, .val (.int .i64 0)), (5, .val (.int .i64 0))]⟩ : Env)) (O' := (Zu O n [some ⟨false, 25, 3, 1, (Ze a0)⟩, some ⟨false, 25, 3, 1, [.val (.int .i64 0), .val (.slice none 0 0), .val (.slice none 0 0)]⟩])) (n' := (n + 2)) (Fit2.of (Zl hU rfl rfl ?_) (by omega)) ?_
  ·simp only [push_cast, seval, ↓reduceIte, Za, hN0, hN]
  refine Fit2.trans (E' := (⟨53, [], [(3, .row (n + 2) 0), (1, .ref n 0), (2, .ref (n + 1) 0), (3, .val (.slice none 0 0)), (4, .val (.int .i64 0)), (5, .val (.int .i64 0))]⟩ : Env)) (O' := (Zu O n [some ⟨false, 25, 3, 1, (Ze a0)⟩, some ⟨false, 25, 3, 1, [.val (.int .i64 0), .val (.slice none 0 0), .val (.slice none 0 0)]⟩, some ⟨true, 25, 3, 0, []⟩])) (n' := (n + 3)) ?_ ?_
  ·have ha := Zio (ba := n) (E := (⟨53, [], [(1, .ref n 0), (2, .ref (n + 1) 0), (3, .val (.slice none 0 0)), (4, .val (.int .i64 0)), (5, .val (.int .i64 0))]⟩ : Env)) (O := (Zu O n [some ⟨false, 25, 3, 1, [.val (.int .i64 a0.Kind), .sl a0.Words.length (fl (eI .u64) a0.Words), .sl a0.Kids.length (fl Zb a0.Kids)]⟩, some ⟨false, 25, 3, 1, [.val (.int .i64 0), .val (.slice none 0 0), .val (.slice none 0 0)]⟩])) (n := (n + 2)) 3 25 3 rfl (by omega)
   simp only [Y0, Yl, Uj, K9, List.set_cons_zero, List.set_cons_succ, List.cons_append, List.nil_append, List.length_cons, List.length_nil, Nat.zero_add, Nat.reduceAdd, Nat.reduceLT, Nat.add_assoc] at ha
   exact ha
  refine Fit2.trans (E' := (⟨53, [], [(1, .ref n 0), (2, .ref (n + 1) 0), (3, .row (n + 2) ([] : List S_api_Tree).length), (4, .val (.int .i64 0)), (5, .val (.int .i64 0))]⟩ : Env)) (O' := (Zu O n [some ⟨false, 25, 3, 1, (Ze a0)⟩, some ⟨false, 25, 3, 1, [.val (.int .i64 0), .val (.slice none 0 0), .val (.slice none 0 0)]⟩, some ⟨true, 25, 3, ([] : List S_api_Tree).length, fl Zb ([] : List S_api_Tree)⟩])) (n' := (n + 3)) (Fit2.of (Zl hU rfl rfl ?_) (by omega)) ?_
  ·simp only [push_cast, seval, ↓reduceIte, Za, hN0, hN]
  refine Jt (k := 3) (k' := 4) hU [0, 1, 2] [0, 1, 2, 0] rfl rfl rfl rfl ⟨rfl, rfl⟩ ?_
  simp only [push_cast, seval, ↓reduceIte, Za, hN0, hN]
 obtain ⟨z10, hz10, h⟩ := bC h
 refine Yv (E' := ⟨53, [], [(1, .ref n 0), (2, .ref (n + 1) 0), (3, .row (n + 2) z10.2.length), (4, .val (.int .i64 z10.1))]⟩) (O' := (Zu O n [some ⟨false, 25, 3, 1, (Ze a0)⟩, some ⟨false, 25, 3, 1, [.val (.int .i64 0), .val (.slice none 0 0), .val (.slice none 0 0)]⟩, some ⟨true, 25, 3, z10.2.length, fl Zb z10.2⟩, none])) (n0 := (n + 4)) ?_ ?_
 ·refine Y7 hz10 (fun s0_ => ⟨53, [], [(1, .ref n 0), (2, .ref (n + 1) 0), (3, .row (n + 2) s0_.2.2.length), (4, .val (.int .i64 s0_.1)), (5, .val (.int .i64 s0_.2.1))]⟩) (fun s0_ => (Zu O n [some ⟨false, 25, 3, 1, (Ze a0)⟩, some ⟨false, 25, 3, 1, [.val (.int .i64 0), .val (.slice none 0 0), .val (.slice none 0 0)]⟩, some ⟨true, 25, 3, s0_.2.2.length, fl Zb s0_.2.2⟩, none])) (fun z10 => JX 0 n (⟨53, [], [(1, .ref n 0), (2, .ref (n + 1) 0), (3, .row (n + 2) z10.2.length), (4, .val (.int .i64 z10.1))]⟩ : Env) (Zu O n [some ⟨false, 25, 3, 1, (Ze a0)⟩, some ⟨false, 25, 3, 1, [.val (.int .i64 0), .val (.slice none 0 0), .val (.slice none 0 0)]⟩, some ⟨true, 25, 3, z10.2.length, fl Zb z10.2⟩, none]) (n + 4)) ?_
  intro s0_ x0_ hs0_
  unfold Qa at hs0_
  try dsimp only
  refine Zo ?_
  refine Zs [1, 2, 3, 4, 5, 16] (Zc Zd [] ?_)
  simp only [push_cast, seval, ↓reduceIte, Za, hN0, hN]
  refine Zt (t := (decide (s0_.2.1 < (a0.Kids.length : Int)))) rfl (fun c9 => ?_) (fun c9 => ?_)
  ·replace hs0_ := Zx c9 hs0_
   refine Z0 ?_
   try simp only [Zn, Zj]
   refine Zm [1, 2, 3, 4, 5] [true, true, true, false] ?_
   simp only [push_cast, seval, ↓reduceIte]
   obtain ⟨z1, hz1, hs0_⟩ := bC hs0_
   refine Y5 (E' := ⟨53, [], [(1, .ref n 0), (2, .ref (n + 1) 0), (3, .row (n + 2) z1.2.length), (4, .val (.int .i64 z1.1)), (5, .val (.int .i64 s0_.2.1))]⟩) (O' := (Zu O n [some ⟨false, 25, 3, 1, (Ze a0)⟩, some ⟨false, 25, 3, 1, [.val (.int .i64 0), .val (.slice none 0 0), .val (.slice none 0 0)]⟩, some ⟨true, 25, 3, z1.2.length, fl Zb z1.2⟩, none, none, none])) (n0 := (n + 6)) ?_ ?_
   ·refine Ys ?_
    refine Zo ?_
    obtain ⟨x4, hx4, ax4, bx4, cx4, hz1⟩ := bE (f := Zb) Vs (fun _ => rfl) (by decide) hz1
    obtain ⟨y5, hy5, hz1⟩ := bC hz1
    refine Zc Zd [] ?_
    simp only [push_cast, Nat.reduceAdd, Nat.reduceSub, Nat.reduceMul, Nat.reduceLeDiff, Nat.reduceLT, Nat.reduceEqDiff, ↓reduceIte, reduceCtorEq, Int.reduceBEq, Int.reduceBNe, Nat.reduceBEq, Int.reduceLE, Int.reduceLT, Int.reduceEq, Int.reduceNe, Int.reduceNeg, Nat.reduceDiv, Nat.reduceMod, Nat.reducePow, Za, ax4, bx4, cx4, hN0, hN]
    refine (Zh5 hy5).then ?_
    simp only [push_cast, Nat.reduceAdd, Nat.reduceSub, Nat.reduceMul, Nat.reduceLeDiff, Nat.reduceLT, Nat.reduceEqDiff, ↓reduceIte, reduceCtorEq, Int.reduceBEq, Int.reduceBNe, Nat.reduceBEq, Int.reduceLE, Int.reduceLT, Int.reduceEq, Int.reduceNe, Int.reduceNeg, Nat.reduceDiv, Nat.reduceMod, Nat.reducePow, Za, ax4, bx4, cx4, hN0, hN]
    refine Zm [1, 2, 3, 4, 5, 6] [true, true, true, false, true] ?_
    simp only [push_cast, seval, ↓reduceIte]
    refine Zo ?_
    obtain ⟨l7, pl7, ql7, el7, hz1⟩ := bA (k := 1) rfl hz1
    refine Zc Zd [] ?_
    simp only [push_cast, seval, ↓reduceIte, Za, pl7, ql7, el7, hN0, hN]
    refine Zdp ⟨53, [], [(1, .ref n 0), (2, .ref (n + 1) 0), (3, .row (n + 2) l7.length), (4, .val (.int .i64 s0_.1)), (5, .val (.int .i64 s0_.2.1)), (6, .ref (n + 4) 0)]⟩ (Zu O n [some ⟨false, 25, 3, 1, (Ze a0)⟩, some ⟨false, 25, 3, 1, [.val (.int .i64 0), .val (.slice none 0 0), .val (.slice none 0 0)]⟩, some ⟨true, 25, 3, l7.length, fl Zb l7⟩, none, some ⟨false, 25, 3, 1, (Ze y5)⟩, none]) (Zl hU rfl rfl ?_) ?_
    ·simp only [push_cast, seval, ↓reduceIte, Za, pl7, ql7, el7, hN0, hN]
    refine Zs [1, 2, 3, 4, 5, 31] (Zc Zd [] ?_)
    simp only [push_cast, seval, ↓reduceIte, Za, hN0, hN]
    refine Zt (t := (y5.Kind != 0)) rfl (fun c8 => ?_) (fun c8 => ?_)
    ·replace hz1 := Zx c8 hz1
     refine Zc Zd [] ?_
     simp only [push_cast, seval, ↓reduceIte, Za, hN0, hN]
     have hz1 := Option.some.inj hz1; subst hz1
     refine And.intro rfl (Fit2.of (Zl hU rfl rfl ?_) (by omega))
     simp only [push_cast, seval, ↓reduceIte, Za, hN0, hN]
    replace hz1 := Zw c8 hz1
    refine Z0 ?_
    try simp only [Zn, Zj]
    have hz1 := Option.some.inj hz1; subst hz1
    refine And.intro rfl (Fit2.of (Zl hU rfl rfl ?_) (by omega))
    simp only [push_cast, seval, ↓reduceIte, Za, hN0, hN]
   refine Zc Zd [] ?_
   simp only [push_cast, seval, ↓reduceIte, Za, hN0, hN]
   have hs0_ := Option.some.inj hs0_; subst hs0_
   refine And.intro rfl (Fit2.of (Zl hU rfl rfl ?_) (by omega))
   simp only [push_cast, seval, ↓reduceIte, Za, hN0, hN]
  replace hs0_ := Zw c9 hs0_
  refine Xs ?_
  try simp only [Zn, Zj, ↓reduceIte, Nat.reduceEqDiff]
  have hs0_ := Option.some.inj hs0_; subst hs0_
  refine And.intro (fun h => by cases h) (And.intro rfl (Fit2.of (Zl hU rfl rfl ?_) (by omega)))
  simp only [push_cast, seval, ↓reduceIte, Za, hN0, hN]
 try simp only [Zn, Zj, ↓reduceIte, Nat.reduceEqDiff]
 refine Zm [1, 2, 3, 4] [true, true, true, false] ?_
 simp only [push_cast, seval, ↓reduceIte]
 refine Zo ?_
 refine Zs [1, 2, 3, 4, 36] (Zc Zd [] ?_)
 simp only [push_cast, seval, ↓reduceIte, Za, hN0, hN]
 refine Zt (t := (a0.Kind == 1)) rfl (fun c18 => ?_) (fun c18 => ?_)
 ·replace h := Zx c18 h
  refine Zdp ⟨53, [], [(1, .ref n 0), (2, .ref (n + 1) 0), (3, .sl z10.2.length (fl Zb z10.2)), (4, .val (.int .i64 z10.1))]⟩ (Zu O n [some ⟨false, 25, 3, 1, (Ze a0)⟩, some ⟨false, 25, 3, 1, [.val (.int .i64 0), .val (.slice none 0 0), .val (.slice none 0 0)]⟩, none, none]) (Zl hU rfl rfl ?_) ?_
  ·simp only [push_cast, seval, ↓reduceIte, Za, hN0, hN]
  refine Zo ?_
  obtain ⟨y14, hy14, h⟩ := bC h
  obtain ⟨l15, al15, bl15, cl15, gl15, h⟩ := bS (lo := none) (hi := (some (.i64, z10.1))) (f := Zb) rfl rfl Zcw Vs (fun _ => rfl) h
  refine Zdn Zd (by kernel_rfl) [false, false, false, false, false, false, false, true] [] (by kernel_rfl) ?_
  simp only [push_cast, seval, ↓reduceIte, Za, al15, bl15, cl15, gl15, hN0, hN]
  refine PCall.of (Zj2 hy14) ?_
  simp only [push_cast, seval, ↓reduceIte, Za, al15, bl15, cl15, gl15, hN0, hN]
  refine Zm [2] [false, true, false, false] ?_
  simp only [push_cast, seval, ↓reduceIte]
  refine Z5 ?_
  try simp only [Zn, Zj]
  have h := Option.some.inj h; subst h
  refine Zy (.inr rfl) hU [.agg [.val (.int .i64 1), .sl y14.length (fl (eI .u64) y14), .sl l15.length (fl Zb l15)]] (by omega) ?_
  simp only [push_cast, seval, ↓reduceIte, Za, Try.results31, hN0, hN]
 replace h := Zw c18 h
 refine Z0 ?_
 try simp only [Zn, Zj]
 refine Zm [1, 2, 3] [true, true, true, false] ?_
 simp only [push_cast, seval, ↓reduceIte]
 refine Zs [1, 2, 3, 7] (Zc Zd [] ?_)
 simp only [push_cast, seval, ↓reduceIte, Za, hN0, hN]
 refine Zo ?_
 obtain ⟨l17, pl17, ql17, el17, h⟩ := bA0 (k := a0.Words.length) rfl h
 refine Zc Zd [] ?_
 simp only [push_cast, seval, ↓reduceIte, Za, pl17, ql17, el17, hN0, hN]
 refine Zdp ⟨53, [], [(1, .ref n 0), (2, .ref (n + 1) 0), (3, .row (n + 2) z10.2.length), (7, .row (n + 4) l17.length)]⟩ (Zu O n [some ⟨false, 25, 3, 1, (Ze a0)⟩, some ⟨false, 25, 3, 1, [.val (.int .i64 0), .val (.slice none 0 0), .val (.slice none 0 0)]⟩, some ⟨true, 25, 3, z10.2.length, fl Zb z10.2⟩, none, some ⟨true, 56, 1, l17.length, fl (eI .u64) l17⟩]) (Zl hU rfl rfl ?_) ?_
 ·simp only [push_cast, seval, ↓reduceIte, Za, pl17, ql17, el17, hN0, hN]
 refine Zo ?_
 refine Zc Zd [] ?_
 simp only [push_cast, seval, ↓reduceIte, Za, hN0, hN]
 refine Zm [2] [false, true, true, false, true] ?_
 simp only [push_cast, seval, ↓reduceIte]
 refine Z5 ?_
 try simp only [Zn, Zj]
 have h := Option.some.inj h; subst h
 refine Zy (.inr rfl) hU [.agg [.val (.int .i64 a0.Kind), .row (n + 4) l17.length, .row (n + 2) z10.2.length]] (by omega) ?_
 simp only [push_cast, seval, ↓reduceIte, Za, Try.results31, hN0, hN]
theorem Zhk : ∀ k, (∀ {a0 : S_api_Tree} {r : S_api_Tree} {O : Objs} {n : Nat}, (Xg k) a0 = some r → GTo Try.prog 31 [.agg (Ze a0)] O n (.agg (Ze r)) O n) := fun k => by
 induction k with
 | zero => exact @fun a0 r O n h => (nomatch (show (none : Option _) = some _ from h))
 | succ k ih => exact @fun a0 r O n h => Zja (ih)  h
theorem Zey {a0 : S_api_Tree} {r : S_api_Tree} {O : Objs} {n : Nat} (h : V8 a0 = some r) : GTo Try.prog 31 [.agg (Ze a0)] O n (.agg (Ze r)) O n := by
 obtain ⟨k, hk⟩ := Ur h
 exact (Zhk k)  hk
theorem Zj1 {a0 : (List Int)} {a1 : (List Int)} {r : Bool} {O : Objs} {n : Nat} (h : V7 a0 a1 = some r) : GTo Try.prog 60 [.sl a0.length (fl (eI .u64) a0), .sl a1.length (fl (eI .u64) a1)] O n (.val (.bool r)) O n := by
 unfold V7 at h
 refine Xc Zd Try.call60 Try.func60 rfl (Nat.le_of_ble_eq_true rfl) (Nat.le_refl _) fun hU => ?_
 have hN0 : O n = none := hU.fresh _ (Nat.le_refl _)
 have hN : ∀ k, O (n + k) = none := fun k => hU.fresh _ (Nat.le_add_right _ _)
 show W _ _ _ _ ⟨26, [], [(0, .sl a0.length (fl (eI .u64) a0)), (1, .sl a1.length (fl (eI .u64) a1))]⟩ (Zu O n []) _
 refine Zs [0, 1] (Zc Zd [] ?_)
 simp only [push_cast, seval, ↓reduceIte, Za, hN0, hN]
 refine Zo ?_
 refine Zs [0, 1, 10] (Zc Zd [] ?_)
 simp only [push_cast, seval, ↓reduceIte, Za, hN0, hN]
 refine Zt (t := ((a0.length : Int) != (a1.length : Int))) rfl (fun c8 => ?_) (fun c8 => ?_)
 ·replace h := Zx c8 h
  refine Zs [4] (Zc Zd [] ?_)
  simp only [push_cast, seval, ↓reduceIte, Za, hN0, hN]
  refine Z5 ?_
  try simp only [Zn, Zj]
  have h := Option.some.inj h; subst h
  refine Zy (.inr rfl) hU [.val (.bool false)] (by omega) ?_
  simp only [push_cast, seval, ↓reduceIte, Za, Try.results60, hN0, hN]
 replace h := Zw c8 h
 refine Z0 ?_
 try simp only [Zn, Zj]
 refine Zm [0, 1] [] ?_
 simp only [push_cast, seval, ↓reduceIte]
 refine Zo ?_
 refine Zs [0, 1, 5] (Zc Zd [] ?_)
 simp only [push_cast, seval, ↓reduceIte, Za, hN0, hN]
 refine Zm [0, 1, 5] [] ?_
 simp only [push_cast, seval, ↓reduceIte]
 obtain ⟨z7, hz7, h⟩ := bC h
 refine Zcd (J := (Q2 (fun z7 => JR n (⟨26, [], [(4, .val (.bool false))]⟩ : Env) (Zu O n []) n) (fun z7 => JX 0 n (⟨26, [], []⟩ : Env) (Zu O n []) n))) (z := z7) ?_ fun hw => ?_
 ·refine Y7 hz7 (fun s0_ => ⟨26, [], [(0, .sl a0.length (fl (eI .u64) a0)), (1, .sl a1.length (fl (eI .u64) a1)), (5, .val (.int .i64 s0_))]⟩) (fun s0_ => (Zu O n [])) (Q2 (fun z7 => JR n (⟨26, [], [(4, .val (.bool false))]⟩ : Env) (Zu O n []) n) (fun z7 => JX 0 n (⟨26, [], []⟩ : Env) (Zu O n []) n)) ?_
  intro s0_ x0_ hs0_
  unfold Ki at hs0_
  try dsimp only
  refine Zo ?_
  refine Zs [0, 1, 5, 14] (Zc Zd [] ?_)
  simp only [push_cast, seval, ↓reduceIte, Za, hN0, hN]
  refine Zt (t := (decide (s0_ < (a0.length : Int)))) rfl (fun c6 => ?_) (fun c6 => ?_)
  ·replace hs0_ := Zx c6 hs0_
   refine Z0 ?_
   try simp only [Zn, Zj]
   refine Zm [0, 1, 5] [] ?_
   simp only [push_cast, seval, ↓reduceIte]
   refine Zo ?_
   refine Ys ?_
   obtain ⟨x3, hx3, ax3, bx3, cx3, hs0_⟩ := bE (f := (eI .u64)) Zfg (fun _ => rfl) (by decide) hs0_
   obtain ⟨x4, hx4, ax4, bx4, cx4, hs0_⟩ := bE (f := (eI .u64)) Zfg (fun _ => rfl) (by decide) hs0_
   refine Zs [0, 1, 5, 25] (Qz Zd (by kernel_rfl) [] (by kernel_rfl) ?_)
   simp only [push_cast, Nat.reduceAdd, Nat.reduceSub, Nat.reduceMul, Nat.reduceLeDiff, Nat.reduceLT, Nat.reduceEqDiff, ↓reduceIte, reduceCtorEq, Int.reduceBEq, Int.reduceBNe, Nat.reduceBEq, Int.reduceLE, Int.reduceLT, Int.reduceEq, Int.reduceNe, Int.reduceNeg, Nat.reduceDiv, Nat.reduceMod, Nat.reducePow, Za, ax3, bx3, cx3, ax4, bx4, cx4, hN0, hN]
   refine Zt (t := (x3 != x4)) rfl (fun c5 => ?_) (fun c5 => ?_)
   ·replace hs0_ := Zx c5 hs0_
    refine Zs [4] (Zc Zd [] ?_)
    simp only [push_cast, seval, ↓reduceIte, Za, hN0, hN]
    refine Z5 ?_
    try simp only [Zn, Zj]
    have hs0_ := Option.some.inj hs0_; subst hs0_
    refine And.intro (fun h => by cases h) (And.intro rfl (Fit2.of (Zl hU rfl rfl ?_) (by omega)))
    simp only [push_cast, seval, ↓reduceIte, Za, hN0, hN]
   replace hs0_ := Zw c5 hs0_
   refine Z0 ?_
   try simp only [Zn, Zj]
   refine Zm [0, 1, 5] [] ?_
   simp only [push_cast, seval, ↓reduceIte]
   refine Zc Zd [] ?_
   simp only [push_cast, seval, ↓reduceIte, Za, hN0, hN]
   have hs0_ := Option.some.inj hs0_; subst hs0_
   refine And.intro rfl (Fit2.of (Zl hU rfl rfl ?_) (by omega))
   simp only [push_cast, seval, ↓reduceIte, Za, hN0, hN]
  replace hs0_ := Zw c6 hs0_
  refine Xs ?_
  try simp only [Zn, Zj, ↓reduceIte, Nat.reduceEqDiff]
  have hs0_ := Option.some.inj hs0_; subst hs0_
  refine And.intro (fun h => by cases h) (And.intro rfl (Fit2.of (Zl hU rfl rfl ?_) (by omega)))
  simp only [push_cast, seval, ↓reduceIte, Za, hN0, hN]
 rcases z7 with z7 | z7
 ·dsimp only [Q2] at hw h
  refine Vz hw ?_
  try simp only [Zn, Zj, ↓reduceIte, Nat.reduceEqDiff]
  have h := Option.some.inj h; subst h
  refine Zy (.inr rfl) hU [.val (.bool false)] (by omega) ?_
  simp only [push_cast, seval, ↓reduceIte, Za, Try.results60, hN0, hN]
 dsimp only [Q2] at hw h
 refine Yv hw ?_
 try simp only [Zn, Zj, ↓reduceIte, Nat.reduceEqDiff]
 refine Zm [] [] ?_
 simp only [push_cast, seval, ↓reduceIte]
 refine Zs [4] (Zc Zd [] ?_)
 simp only [push_cast, seval, ↓reduceIte, Za, hN0, hN]
 refine Z5 ?_
 try simp only [Zn, Zj]
 have h := Option.some.inj h; subst h
 refine Zy (.inr rfl) hU [.val (.bool true)] (by omega) ?_
 simp only [push_cast, seval, ↓reduceIte, Za, Try.results60, hN0, hN]
theorem Zjb {Kt : (S_api_Tree → S_api_Tree → Option Bool)} (Zh6 : ∀ {a0 : S_api_Tree} {a1 : S_api_Tree} {r : Bool} {O : Objs} {n : Nat}, Kt a0 a1 = some r → GTo Try.prog 25 [.agg (Ze a0), .agg (Ze a1)] O n (.val (.bool r)) O n) {a0 : S_api_Tree} {a1 : S_api_Tree} {r : Bool} {O : Objs} {n : Nat} (h : V2 Kt a0 a1 = some r) : GTo Try.prog 25 [.agg (Ze a0), .agg (Ze a1)] O n (.val (.bool r)) O n := by
 unfold V2 at h
 refine Xc Zd Try.call25 Try.func25 rfl (Nat.le_of_ble_eq_true rfl) (Nat.le_refl _) fun hU => ?_
 have hN0 : O n = none := hU.fresh _ (Nat.le_refl _)
 have hN : ∀ k, O (n + k) = none := fun k => hU.fresh _ (Nat.le_add_right _ _)
 show W _ _ _ _ ⟨47, [], [(0, .agg (Ze a0)), (1, .agg (Ze a1))]⟩ (Zu O n []) _
 refine Zs [2, 3] (Zc Zd [] ?_)
 simp only [push_cast, seval, ↓reduceIte, Za, hN0, hN]
 refine Zo ?_
 obtain ⟨z2, hz2, h⟩ := bC h
 refine Y5 (E' := ⟨47, [], [(2, .ref n 0), (3, .ref (n + 1) 0), (27, .val (.bool z2))]⟩) (O' := (Zu O n [some ⟨false, 25, 3, 1, (Ze a0)⟩, some ⟨false, 25, 3, 1, (Ze a1)⟩])) (n0 := (n + 2)) ?_ ?_
 ·rcases Bool.eq_false_or_eq_true (a0.Kind != a1.Kind) with c5 | c5
  ·replace hz2 := Zx c5 hz2
   refine Zc Zd [some false, some false, some false, some false, some false, some false, some false, some false, some false, some false, some false, some false, some false] ?_
   simp only [push_cast, seval, ↓reduceIte, Za, c5, hN0, hN]
   have hz2 := Option.some.inj hz2; subst hz2
   refine And.intro rfl (Fit2.of (Zl hU rfl rfl ?_) (by omega))
   simp only [push_cast, seval, ↓reduceIte, Za, c5, hN0, hN]
  replace hz2 := Zw c5 hz2
  obtain ⟨y4, hy4, hz2⟩ := bC hz2
  refine Zc Zd [some true, some true, some true, some true, some true, some true, none, none, none, none, none, none, none] ?_
  simp only [push_cast, seval, ↓reduceIte, Za, c5, hN0, hN]
  repeat (with_reducible refine And.intro (by first | (intro h0; simp only [h0, and_self]; done) | (intro h0; simp only [h0, Bool.not_false, Bool.not_true, Bool.true_and, Bool.and_true, true_and, and_true, and_self, imp_self, implies_true, bne_iff_ne, ne_eq, beq_iff_eq]; done) | (intros; simp_all; done) | exact True.intro) ?_)
  refine (Zj1 hy4).then ?_
  simp only [push_cast, seval, ↓reduceIte, Za, c5, hN0, hN]
  repeat (with_reducible refine And.intro (by first | (intro h0; simp only [h0, and_self]; done) | (intro h0; simp only [h0, Bool.not_false, Bool.not_true, Bool.true_and, Bool.and_true, true_and, and_true, and_self, imp_self, implies_true, bne_iff_ne, ne_eq, beq_iff_eq]; done) | (intros; simp_all; done) | exact True.intro) ?_)
  have hz2 := Option.some.inj hz2; subst hz2
  refine And.intro rfl (Fit2.of (Zl hU rfl rfl ?_) (by omega))
  simp only [push_cast, seval, ↓reduceIte, Za, c5, hN0, hN]
 refine Zt (t := z2) rfl (fun c15 => ?_) (fun c15 => ?_)
 ·replace h := Zx c15 h
  refine Zs [4] (Zc Zd [] ?_)
  simp only [push_cast, seval, ↓reduceIte, Za, hN0, hN]
  refine Z5 ?_
  try simp only [Zn, Zj]
  have h := Option.some.inj h; subst h
  refine Zy (.inr rfl) hU [.val (.bool false)] (by omega) ?_
  simp only [push_cast, seval, ↓reduceIte, Za, Try.results25, hN0, hN]
 replace h := Zw c15 h
 refine Z0 ?_
 try simp only [Zn, Zj]
 refine Zm [2, 3] [true, true] ?_
 simp only [push_cast, seval, ↓reduceIte]
 refine Zo ?_
 refine Zs [2, 3, 5] (Zc Zd [] ?_)
 simp only [push_cast, seval, ↓reduceIte, Za, hN0, hN]
 refine Zm [2, 3, 5] [true, true] ?_
 simp only [push_cast, seval, ↓reduceIte]
 obtain ⟨z14, hz14, h⟩ := bC h
 refine Zcd (J := (Q2 (fun z14 => JR n (⟨47, [], [(4, .val (.bool false))]⟩ : Env) (Zu O n [none, none]) (n + 2)) (fun z14 => JX 0 n (⟨47, [], []⟩ : Env) (Zu O n [none, none]) (n + 2)))) (z := z14) ?_ fun hw => ?_
 ·refine Y7 hz14 (fun s0_ => ⟨47, [], [(2, .ref n 0), (3, .ref (n + 1) 0), (5, .val (.int .i64 s0_))]⟩) (fun s0_ => (Zu O n [some ⟨false, 25, 3, 1, (Ze a0)⟩, some ⟨false, 25, 3, 1, (Ze a1)⟩])) (Q2 (fun z14 => JR n (⟨47, [], [(4, .val (.bool false))]⟩ : Env) (Zu O n [none, none]) (n + 2)) (fun z14 => JX 0 n (⟨47, [], []⟩ : Env) (Zu O n [none, none]) (n + 2))) ?_
  intro s0_ x0_ hs0_
  unfold Kf at hs0_
  try dsimp only
  refine Zo ?_
  refine Zs [2, 3, 5, 32] (Zc Zd [] ?_)
  simp only [push_cast, seval, ↓reduceIte, Za, hN0, hN]
  refine Zt (t := (decide (s0_ < (a0.Kids.length : Int)))) rfl (fun c13 => ?_) (fun c13 => ?_)
  ·replace hs0_ := Zx c13 hs0_
   refine Z0 ?_
   try simp only [Zn, Zj]
   refine Zm [2, 3, 5] [true, true] ?_
   simp only [push_cast, seval, ↓reduceIte]
   refine Zo ?_
   refine Ys ?_
   refine Zo ?_
   obtain ⟨x9, hx9, ax9, bx9, cx9, hs0_⟩ := bE (f := Zb) Vs (fun _ => rfl) (by decide) hs0_
   obtain ⟨x10, hx10, ax10, bx10, cx10, hs0_⟩ := bE (f := Zb) Vs (fun _ => rfl) (by decide) hs0_
   obtain ⟨y11, hy11, hs0_⟩ := bC hs0_
   refine Qz Zd (by kernel_rfl) [] (by kernel_rfl) ?_
   simp only [push_cast, Nat.reduceAdd, Nat.reduceSub, Nat.reduceMul, Nat.reduceLeDiff, Nat.reduceLT, Nat.reduceEqDiff, ↓reduceIte, reduceCtorEq, Int.reduceBEq, Int.reduceBNe, Nat.reduceBEq, Int.reduceLE, Int.reduceLT, Int.reduceEq, Int.reduceNe, Int.reduceNeg, Nat.reduceDiv, Nat.reduceMod, Nat.reducePow, Za, ax9, bx9, cx9, ax10, bx10, cx10, hN0, hN]
   refine PCall.of (Zh6 hy11) ?_
   simp only [push_cast, Nat.reduceAdd, Nat.reduceSub, Nat.reduceMul, Nat.reduceLeDiff, Nat.reduceLT, Nat.reduceEqDiff, ↓reduceIte, reduceCtorEq, Int.reduceBEq, Int.reduceBNe, Nat.reduceBEq, Int.reduceLE, Int.reduceLT, Int.reduceEq, Int.reduceNe, Int.reduceNeg, Nat.reduceDiv, Nat.reduceMod, Nat.reducePow, Za, ax9, bx9, cx9, ax10, bx10, cx10, hN0, hN]
   refine Zm [2, 3, 5, 46] [true, true] ?_
   simp only [push_cast, seval, ↓reduceIte]
   refine Zt (t := (!y11)) rfl (fun c12 => ?_) (fun c12 => ?_)
   ·replace hs0_ := Zx c12 hs0_
    refine Zs [4] (Zc Zd [] ?_)
    simp only [push_cast, seval, ↓reduceIte, Za, hN0, hN]
    refine Z5 ?_
    try simp only [Zn, Zj]
    have hs0_ := Option.some.inj hs0_; subst hs0_
    refine And.intro (fun h => by cases h) (And.intro rfl (Fit2.of (Zl hU rfl rfl ?_) (by omega)))
    simp only [push_cast, seval, ↓reduceIte, Za, hN0, hN]
   replace hs0_ := Zw c12 hs0_
   refine Z0 ?_
   try simp only [Zn, Zj]
   refine Zm [2, 3, 5] [true, true] ?_
   simp only [push_cast, seval, ↓reduceIte]
   refine Zc Zd [] ?_
   simp only [push_cast, seval, ↓reduceIte, Za, hN0, hN]
   have hs0_ := Option.some.inj hs0_; subst hs0_
   refine And.intro rfl (Fit2.of (Zl hU rfl rfl ?_) (by omega))
   simp only [push_cast, seval, ↓reduceIte, Za, hN0, hN]
  replace hs0_ := Zw c13 hs0_
  refine Xs ?_
  try simp only [Zn, Zj, ↓reduceIte, Nat.reduceEqDiff]
  have hs0_ := Option.some.inj hs0_; subst hs0_
  refine And.intro (fun h => by cases h) (And.intro rfl (Fit2.of (Zl hU rfl rfl ?_) (by omega)))
  simp only [push_cast, seval, ↓reduceIte, Za, hN0, hN]
 rcases z14 with z14 | z14
 ·dsimp only [Q2] at hw h
  refine Vz hw ?_
  try simp only [Zn, Zj, ↓reduceIte, Nat.reduceEqDiff]
  have h := Option.some.inj h; subst h
  refine Zy (.inr rfl) hU [.val (.bool false)] (by omega) ?_
  simp only [push_cast, seval, ↓reduceIte, Za, Try.results25, hN0, hN]
 dsimp only [Q2] at hw h
 refine Yv hw ?_
 try simp only [Zn, Zj, ↓reduceIte, Nat.reduceEqDiff]
 refine Zm [] [false, false] ?_
 simp only [push_cast, seval, ↓reduceIte]
 refine Zs [4] (Zc Zd [] ?_)
 simp only [push_cast, seval, ↓reduceIte, Za, hN0, hN]
 refine Z5 ?_
 try simp only [Zn, Zj]
 have h := Option.some.inj h; subst h
 refine Zy (.inr rfl) hU [.val (.bool true)] (by omega) ?_
 simp only [push_cast, seval, ↓reduceIte, Za, Try.results25, hN0, hN]
theorem Zhl : ∀ k, (∀ {a0 : S_api_Tree} {a1 : S_api_Tree} {r : Bool} {O : Objs} {n : Nat}, (Q1 k) a0 a1 = some r → GTo Try.prog 25 [.agg (Ze a0), .agg (Ze a1)] O n (.val (.bool r)) O n) := fun k => by
 induction k with
 | zero => exact @fun a0 a1 r O n h => (nomatch (show (none : Option _) = some _ from h))
 | succ k ih => exact @fun a0 a1 r O n h => Zjb (ih)  h
theorem Zez {a0 : S_api_Tree} {a1 : S_api_Tree} {r : Bool} {O : Objs} {n : Nat} (h : V9 a0 a1 = some r) : GTo Try.prog 25 [.agg (Ze a0), .agg (Ze a1)] O n (.val (.bool r)) O n := by
 obtain ⟨k, hk⟩ := Ur h
 exact (Zhl k)  hk
theorem Zf4 {a0 : S_api_Edit} {a1 : S_api_Tree} {r : Bool} {O : Objs} {n : Nat} (h : Kp a0 a1 = some r) : GTo Try.prog 7 [.agg (Zg a0), .agg (Ze a1)] O n (.val (.bool r)) O n := by
 unfold Kp at h
 refine Xc Zd Try.call7 Try.func7 rfl (Nat.le_of_ble_eq_true rfl) (Nat.le_refl _) fun hU => ?_
 have hN0 : O n = none := hU.fresh _ (Nat.le_refl _)
 have hN : ∀ k, O (n + k) = none := fun k => hU.fresh _ (Nat.le_add_right _ _)
 show W _ _ _ _ ⟨78, [], [(0, .agg (Zg a0)), (1, .agg (Ze a1))]⟩ (Zu O n []) _
 refine Zs [2, 3] (Zc Zd [] ?_)
 simp only [push_cast, seval, ↓reduceIte, Za, hN0, hN]
 refine Zo ?_
 obtain ⟨z3, hz3, h⟩ := bC h
 refine Y5 (E' := ⟨78, [], [(2, .ref n 0), (3, .ref (n + 1) 0), (21, .val (.bool z3))]⟩) (O' := (Zu O n [some ⟨false, 30, 11, 1, (Zg a0)⟩, some ⟨false, 25, 3, 1, (Ze a1)⟩])) (n0 := (n + 2)) ?_ ?_
 ·obtain ⟨y6, hy6, hz3⟩ := bC hz3
  rcases Bool.eq_false_or_eq_true y6 with c8 | c8
  ·replace hz3 := Zx c8 hz3
   obtain ⟨y7, hy7, hz3⟩ := bC hz3
   refine Zc Zd [some true, some true, some true] ?_
   simp only [push_cast, seval, ↓reduceIte, Za, c8, hN0, hN]
   refine (Ga hy6).then ?_
   simp only [push_cast, seval, ↓reduceIte, Za, c8, hN0, hN]
   refine (Zj3 hy7).then ?_
   simp only [push_cast, seval, ↓reduceIte, Za, c8, hN0, hN]
   have hz3 := Option.some.inj hz3; subst hz3
   refine And.intro rfl (Fit2.of (Zl hU rfl rfl ?_) (by omega))
   simp only [push_cast, seval, ↓reduceIte, Za, c8, hN0, hN]
  replace hz3 := Zw c8 hz3
  refine Zc Zd [some false, some false, some false] ?_
  simp only [push_cast, seval, ↓reduceIte, Za, c8, hN0, hN]
  refine (Ga hy6).then ?_
  simp only [push_cast, seval, ↓reduceIte, Za, c8, hN0, hN]
  have hz3 := Option.some.inj hz3; subst hz3
  refine And.intro rfl (Fit2.of (Zl hU rfl rfl ?_) (by omega))
  simp only [push_cast, seval, ↓reduceIte, Za, c8, hN0, hN]
 refine Zt (t := z3) rfl (fun c55 => ?_) (fun c55 => ?_)
 ·replace h := Zx c55 h
  refine Zo ?_
  obtain ⟨y10, hy10, h⟩ := bC h
  refine Zc Zd [] ?_
  simp only [push_cast, seval, ↓reduceIte, Za, hN0, hN]
  refine (Zef hy10).then ?_
  simp only [push_cast, seval, ↓reduceIte, Za, hN0, hN]
  refine Zm [4] [false, false] ?_
  simp only [push_cast, seval, ↓reduceIte]
  refine Z5 ?_
  try simp only [Zn, Zj]
  have h := Option.some.inj h; subst h
  refine Zy (.inr rfl) hU [.val (.bool y10)] (by omega) ?_
  simp only [push_cast, seval, ↓reduceIte, Za, Try.results7, hN0, hN]
 replace h := Zw c55 h
 refine Z0 ?_
 try simp only [Zn, Zj]
 refine Zm [2, 3] [true, true] ?_
 simp only [push_cast, seval, ↓reduceIte]
 refine Zo ?_
 obtain ⟨y12, hy12, h⟩ := bC h
 refine Zc Zd [] ?_
 simp only [push_cast, seval, ↓reduceIte, Za, hN0, hN]
 refine (Zh4 hy12).then ?_
 simp only [push_cast, seval, ↓reduceIte, Za, hN0, hN]
 refine Zm [2, 3, 5] [true, true, true] ?_
 simp only [push_cast, seval, ↓reduceIte]
 obtain ⟨z13, hz13, h⟩ := bC h
 refine Z43 (J := (Q2 (fun z13 => JN n (⟨78, [], [(2, .ref n 0), (3, .ref (n + 1) 0), (5, .ref (n + 2) 0)]⟩ : Env) (Zu O n [some ⟨false, 30, 11, 1, (Zg a0)⟩, some ⟨false, 25, 3, 1, (Ze a1)⟩, some ⟨false, 30, 11, 1, (Zg y12)⟩, none, none]) (n + 5)) (fun z13 => JR n (⟨78, [], [(4, .val (.bool false))]⟩ : Env) (Zu O n [none, none, none]) (n + 3)))) (z := z13) ?_ fun hw => ?_
 ·refine Zo ?_
  obtain ⟨y15, hy15, hz13⟩ := bC hz13
  refine Zc Zd [] ?_
  simp only [push_cast, seval, ↓reduceIte, Za, hN0, hN]
  refine (Zdo hy15).then ?_
  simp only [push_cast, seval, ↓reduceIte, Za, hN0, hN]
  refine Zm [2, 3, 5, 6, 7] [true, true, true, true] ?_
  simp only [push_cast, seval, ↓reduceIte]
  obtain ⟨z17, hz17, hz13⟩ := bC hz13
  refine Y5 (E' := ⟨78, [], [(2, .ref n 0), (3, .ref (n + 1) 0), (5, .ref (n + 2) 0), (6, .ref (n + 3) 0), (35, .val (.bool z17))]⟩) (O' := (Zu O n [some ⟨false, 30, 11, 1, (Zg a0)⟩, some ⟨false, 25, 3, 1, (Ze a1)⟩, some ⟨false, 30, 11, 1, (Zg y12)⟩, some ⟨false, 25, 3, 1, (Ze y15.1)⟩])) (n0 := (n + 4)) ?_ ?_
  ·rcases Bool.eq_false_or_eq_true y15.2 with c20 | c20
   ·replace hz17 := Zx c20 hz17
    obtain ⟨y19, hy19, hz17⟩ := bC hz17
    refine Zc Zd [some true, some true] ?_
    simp only [push_cast, seval, ↓reduceIte, Za, c20, hN0, hN]
    refine (Ga hy19).then ?_
    simp only [push_cast, seval, ↓reduceIte, Za, c20, hN0, hN]
    have hz17 := Option.some.inj hz17; subst hz17
    refine And.intro rfl (Fit2.of (Zl hU rfl rfl ?_) (by omega))
    simp only [push_cast, seval, ↓reduceIte, Za, c20, hN0, hN]
   replace hz17 := Zw c20 hz17
   refine Zc Zd [some false, some false] ?_
   simp only [push_cast, seval, ↓reduceIte, Za, c20, hN0, hN]
   have hz17 := Option.some.inj hz17; subst hz17
   refine And.intro rfl (Fit2.of (Zl hU rfl rfl ?_) (by omega))
   simp only [push_cast, seval, ↓reduceIte, Za, c20, hN0, hN]
  refine Zt (t := z17) rfl (fun c32 => ?_) (fun c32 => ?_)
  ·replace hz13 := Zx c32 hz13
   refine Zo ?_
   obtain ⟨y22, hy22, hz13⟩ := bC hz13
   refine Zc Zd [] ?_
   simp only [push_cast, seval, ↓reduceIte, Za, hN0, hN]
   refine (Zdo hy22).then ?_
   simp only [push_cast, seval, ↓reduceIte, Za, hN0, hN]
   refine Zm [2, 3, 5, 8, 9] [true, true, true, false, true] ?_
   simp only [push_cast, seval, ↓reduceIte]
   obtain ⟨z25, hz25, hz13⟩ := bC hz13
   refine Y5 (E' := ⟨78, [], [(2, .ref n 0), (3, .ref (n + 1) 0), (5, .ref (n + 2) 0), (50, .val (.bool z25))]⟩) (O' := (Zu O n [some ⟨false, 30, 11, 1, (Zg a0)⟩, some ⟨false, 25, 3, 1, (Ze a1)⟩, some ⟨false, 30, 11, 1, (Zg y12)⟩, none, none])) (n0 := (n + 5)) ?_ ?_
   ·rcases Bool.eq_false_or_eq_true y22.2 with c30 | c30
    ·replace hz25 := Zx c30 hz25
     obtain ⟨y28, hy28, hz25⟩ := bC hz25
     obtain ⟨y29, hy29, hz25⟩ := bC hz25
     refine Qz Zd (by kernel_rfl) [some true, some true, some true, some true, some true] (by kernel_rfl) ?_
     simp only [push_cast, seval, ↓reduceIte, Za, c30, hN0, hN]
     refine PCall.of (Zey hy28) ?_
     simp only [push_cast, seval, ↓reduceIte, Za, c30, hN0, hN]
     refine PCall.of (Zez hy29) ?_
     simp only [push_cast, seval, ↓reduceIte, Za, c30, hN0, hN]
     have hz25 := Option.some.inj hz25; subst hz25
     refine And.intro rfl (Fit2.of (Zl hU rfl rfl ?_) (by omega))
     simp only [push_cast, seval, ↓reduceIte, Za, c30, hN0, hN]
    replace hz25 := Zw c30 hz25
    refine Qz Zd (by kernel_rfl) [some false, some false, some false, some false, some false] (by kernel_rfl) ?_
    simp only [push_cast, seval, ↓reduceIte, Za, c30, hN0, hN]
    have hz25 := Option.some.inj hz25; subst hz25
    refine And.intro rfl (Fit2.of (Zl hU rfl rfl ?_) (by omega))
    simp only [push_cast, seval, ↓reduceIte, Za, c30, hN0, hN]
   refine Zt (t := z25) rfl (fun c31 => ?_) (fun c31 => ?_)
   ·replace hz13 := Zx c31 hz13
    refine Zs [4] (Zc Zd [] ?_)
    simp only [push_cast, seval, ↓reduceIte, Za, hN0, hN]
    refine Z5 ?_
    try simp only [Zn, Zj]
    have hz13 := Option.some.inj hz13; subst hz13
    refine And.intro rfl (Fit2.of (Zl hU rfl rfl ?_) (by omega))
    simp only [push_cast, seval, ↓reduceIte, Za, hN0, hN]
   replace hz13 := Zw c31 hz13
   refine Z0 ?_
   try simp only [Zn, Zj]
   have hz13 := Option.some.inj hz13; subst hz13
   refine And.intro rfl (Fit2.of (Zl hU rfl rfl ?_) (by omega))
   simp only [push_cast, seval, ↓reduceIte, Za, hN0, hN]
  replace hz13 := Zw c32 hz13
  refine Z0 ?_
  try simp only [Zn, Zj]
  have hz13 := Option.some.inj hz13; subst hz13
  refine And.intro rfl (Fit2.of (Zl hU rfl rfl ?_) (by omega))
  simp only [push_cast, seval, ↓reduceIte, Za, hN0, hN]
 rcases z13 with z13 | z13
 ·dsimp only [Q2] at hw h
  refine Y5 hw ?_
  obtain ⟨z33, hz33, h⟩ := bC h
  refine Z43 (J := (Q2 (fun z33 => JN n (⟨78, [], []⟩ : Env) (Zu O n [none, none, none, none, none, none, none]) (n + 7)) (fun z33 => JR n (⟨78, [], [(4, .val (.bool false))]⟩ : Env) (Zu O n [none, none, none, none, none]) (n + 5)))) (z := z33) ?_ fun hw => ?_
  ·refine Zo ?_
   obtain ⟨y35, hy35, hz33⟩ := bC hz33
   refine Zc Zd [] ?_
   simp only [push_cast, seval, ↓reduceIte, Za, hN0, hN]
   refine (Zdo hy35).then ?_
   simp only [push_cast, seval, ↓reduceIte, Za, hN0, hN]
   refine Zm [2, 3, 10, 11] [true, true, false, false, false, true] ?_
   simp only [push_cast, seval, ↓reduceIte]
   obtain ⟨z37, hz37, hz33⟩ := bC hz33
   refine Y5 (E' := ⟨78, [], [(2, .ref n 0), (3, .ref (n + 1) 0), (10, .ref (n + 5) 0), (61, .val (.bool z37))]⟩) (O' := (Zu O n [some ⟨false, 30, 11, 1, (Zg a0)⟩, some ⟨false, 25, 3, 1, (Ze a1)⟩, none, none, none, some ⟨false, 25, 3, 1, (Ze y35.1)⟩])) (n0 := (n + 6)) ?_ ?_
   ·rcases Bool.eq_false_or_eq_true y35.2 with c40 | c40
    ·replace hz37 := Zx c40 hz37
     obtain ⟨y39, hy39, hz37⟩ := bC hz37
     refine Zc Zd [some true, some true] ?_
     simp only [push_cast, seval, ↓reduceIte, Za, c40, hN0, hN]
     refine (Ga hy39).then ?_
     simp only [push_cast, seval, ↓reduceIte, Za, c40, hN0, hN]
     have hz37 := Option.some.inj hz37; subst hz37
     refine And.intro rfl (Fit2.of (Zl hU rfl rfl ?_) (by omega))
     simp only [push_cast, seval, ↓reduceIte, Za, c40, hN0, hN]
    replace hz37 := Zw c40 hz37
    refine Zc Zd [some false, some false] ?_
    simp only [push_cast, seval, ↓reduceIte, Za, c40, hN0, hN]
    have hz37 := Option.some.inj hz37; subst hz37
    refine And.intro rfl (Fit2.of (Zl hU rfl rfl ?_) (by omega))
    simp only [push_cast, seval, ↓reduceIte, Za, c40, hN0, hN]
   refine Zt (t := z37) rfl (fun c52 => ?_) (fun c52 => ?_)
   ·replace hz33 := Zx c52 hz33
    refine Zo ?_
    obtain ⟨y42, hy42, hz33⟩ := bC hz33
    refine Zc Zd [] ?_
    simp only [push_cast, seval, ↓reduceIte, Za, hN0, hN]
    refine (Zdo hy42).then ?_
    simp only [push_cast, seval, ↓reduceIte, Za, hN0, hN]
    refine Zm [3, 12, 13] [false, true, false, false, false, false, true] ?_
    simp only [push_cast, seval, ↓reduceIte]
    obtain ⟨z45, hz45, hz33⟩ := bC hz33
    refine Y5 (E' := ⟨78, [], [(76, .val (.bool z45))]⟩) (O' := (Zu O n [none, none, none, none, none, none, none])) (n0 := (n + 7)) ?_ ?_
    ·rcases Bool.eq_false_or_eq_true y42.2 with c50 | c50
     ·replace hz45 := Zx c50 hz45
      obtain ⟨y48, hy48, hz45⟩ := bC hz45
      obtain ⟨y49, hy49, hz45⟩ := bC hz45
      refine Qz Zd (by kernel_rfl) [some true, some true, some true, some true, some true] (by kernel_rfl) ?_
      simp only [push_cast, seval, ↓reduceIte, Za, c50, hN0, hN]
      refine PCall.of (Zey hy48) ?_
      simp only [push_cast, seval, ↓reduceIte, Za, c50, hN0, hN]
      refine PCall.of (Zez hy49) ?_
      simp only [push_cast, seval, ↓reduceIte, Za, c50, hN0, hN]
      have hz45 := Option.some.inj hz45; subst hz45
      refine And.intro rfl (Fit2.of (Zl hU rfl rfl ?_) (by omega))
      simp only [push_cast, seval, ↓reduceIte, Za, c50, hN0, hN]
     replace hz45 := Zw c50 hz45
     refine Qz Zd (by kernel_rfl) [some false, some false, some false, some false, some false] (by kernel_rfl) ?_
     simp only [push_cast, seval, ↓reduceIte, Za, c50, hN0, hN]
     have hz45 := Option.some.inj hz45; subst hz45
     refine And.intro rfl (Fit2.of (Zl hU rfl rfl ?_) (by omega))
     simp only [push_cast, seval, ↓reduceIte, Za, c50, hN0, hN]
    refine Zt (t := z45) rfl (fun c51 => ?_) (fun c51 => ?_)
    ·replace hz33 := Zx c51 hz33
     refine Zs [4] (Zc Zd [] ?_)
     simp only [push_cast, seval, ↓reduceIte, Za, hN0, hN]
     refine Z5 ?_
     try simp only [Zn, Zj]
     have hz33 := Option.some.inj hz33; subst hz33
     refine And.intro rfl (Fit2.of (Zl hU rfl rfl ?_) (by omega))
     simp only [push_cast, seval, ↓reduceIte, Za, hN0, hN]
    replace hz33 := Zw c51 hz33
    refine Z0 ?_
    try simp only [Zn, Zj]
    have hz33 := Option.some.inj hz33; subst hz33
    refine And.intro rfl (Fit2.of (Zl hU rfl rfl ?_) (by omega))
    simp only [push_cast, seval, ↓reduceIte, Za, hN0, hN]
   replace hz33 := Zw c52 hz33
   refine Z0 ?_
   try simp only [Zn, Zj]
   have hz33 := Option.some.inj hz33; subst hz33
   refine And.intro rfl (Fit2.of (Zl hU rfl rfl ?_) (by omega))
   simp only [push_cast, seval, ↓reduceIte, Za, hN0, hN]
  rcases z33 with z33 | z33
  ·dsimp only [Q2] at hw h
   refine Y5 hw ?_
   refine Zo ?_
   obtain ⟨y54, hy54, h⟩ := bC h
   refine Zc Zd [] ?_
   simp only [push_cast, seval, ↓reduceIte, Za, hN0, hN]
   refine (Zef hy54).then ?_
   simp only [push_cast, seval, ↓reduceIte, Za, hN0, hN]
   refine Zm [4] [false, false, false, false, false, false, false] ?_
   simp only [push_cast, seval, ↓reduceIte]
   refine Z5 ?_
   try simp only [Zn, Zj]
   have h := Option.some.inj h; subst h
   refine Zy (.inr rfl) hU [.val (.bool y54)] (by omega) ?_
   simp only [push_cast, seval, ↓reduceIte, Za, Try.results7, hN0, hN]
  dsimp only [Q2] at hw h
  refine Z0m hw ?_
  try simp only [Zn, Zj]
  have h := Option.some.inj h; subst h
  refine Zy (.inr rfl) hU [.val (.bool false)] (by omega) ?_
  simp only [push_cast, seval, ↓reduceIte, Za, Try.results7, hN0, hN]
 dsimp only [Q2] at hw h
 refine Z0m hw ?_
 try simp only [Zn, Zj]
 have h := Option.some.inj h; subst h
 refine Zy (.inr rfl) hU [.val (.bool false)] (by omega) ?_
 simp only [push_cast, seval, ↓reduceIte, Za, Try.results7, hN0, hN]
end Go.Proofs.Ytbcgiaijjaocdaa
