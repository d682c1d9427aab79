/- Part VM5 of this seat's mirrors: functions of the seat's program, and the plain functions that they are; each theorem bears its own conditions. -/
import Derived.Test.YtbcgiaijjaocdaaVE
import Derived.Test.YtbcgiaijjaocdaaVM3
namespace Go.Proofs.Ytbcgiaijjaocdaa
open Go.RowKit
set_option linter.unusedVariables false
set_option linter.unusedSimpArgs false
set_option maxRecDepth 100000
set_option maxHeartbeats 1000000
attribute [local push_cast] Zg Zb1 Yo Ze Uw Zsc Zur Zs0 Zs9 Zn Zj Zqj Zj8 Zjw onW X2 Zc8 Zb8 Zo5 Zpm Zhj evS wok Q4 Op.operands Call.operands gop onK onP atK List.all_cons List.all_nil Bool.and_true Bool.true_and Bool.and_self Value.oneCell' List.take_zero List.take_succ_cons List.take_nil List.drop_zero List.drop_succ_cons List.drop_nil List.append_nil Nat.add_zero Nat.zero_add Ul Yi ev Jf Zc3 Zxp Zqv Zqw Zx4 Zif Zd8 Zhf Zdd Zl5 Zf6 Uu Zjv Zju Zb3 Ziw Zb5 Zki Zin Zsg bLo bHi bMx Zdz Zj3 Zxn Zie Zji Zfz Zaz Zrc Zw8 Ziy Zx5 Zdx Z0h Je Zhw gone Zpz Zjy Zjr pop TK.isAgg G.one G.under G.unders List.getD_cons_zero List.getD_cons_succ List.set_cons_zero List.set_cons_succ List.map_cons List.map_nil List.toList_toArray Array.toList_append Option.toArray_none Option.toArray_some Array.toList_map Option.map_some Option.map_none Option.bind_some Option.bind_none List.getElem?_cons_zero List.getElem?_cons_succ List.getElem?_nil List.nil_append List.cons_append List.replicate_succ List.replicate_zero List.length_cons List.length_nil and_true true_and and_false false_and Bool.true_eq_false Bool.false_eq_true forall_const false_implies implies_true IntKind.bits if_true if_false ite_true ite_false eq_self true_implies false_or or_false or_true true_or not_true_eq_false not_false_eq_true decide_true decide_false decide_eq_true_eq decide_eq_false_iff_not beq_iff_eq bne_iff_ne ne_eq Bool.not_eq_true Bool.not_eq_false beq_eq_false_iff_ne bne_eq_false_iff_eq beq_self_eq_true bne_self_eq_false Option.some.injEq exists_eq_left' exists_eq_left ge_iff_le gt_iff_lt decide_not Bool.not_true Bool.not_false imp_self Zx0 cond_true cond_false Z54 Z5t Bool.not_not Bool.and_false Bool.false_and Bool.or_true Bool.true_or Bool.or_false Bool.false_or Vs Zak Un Vb Y3 Yn Option.join_some Nat.add_assoc Int.toNat_natCast eI eB eS eL Y5 Zi0 Zh9 Zr5 Zsz Zua Z0m Z3x Zit Zim Ztq Zsp Zsl Zvu Zkp Zv7 Zkw Zun Zgk Zue List.length_append G.agg.injEq G.row.injEq G.ref.injEq G.val.injEq G.sl.injEq G.tup.injEq Value.int.injEq Value.bool.injEq Value.string.injEq List.cons.injEq exists_and_left exists_const List.flatten_cons List.flatten_nil Int.le_refl Nat.le_refl Xy Yh Ym Bool.not_eq_true' Bool.not_eq_false' Zst Zkr Zxg Zxv Zxt Zxu Z2k Z16 List.size_toArray Znd Zok G.ren G.rens Zq4 Zf4 Zs8 Zuk Zr1 Zn5 Zxq Zfc G.fn.injEq Zo9 Zod Zty Z23 Zn8 Zyl Z06 Z0v Zxl Zyg Z1d Option.join_none Z8 V8 undef Zjk Arr.len Arr.put_eq Zir Zlz Zjn Zh4 Zts Zse Zr7 onB Zz3 Zrf Zpn Zpb Zpr Zny Zpp Zoq Zqc Zmf Zl2 Zmt Zka Zhs Zme Zpt Zqd Zpy Zo3 Z1l Z36 Zu3 Zr4 Gj Zux Zna Zmy Zj7 Zyj Zoj Zid Zjm Zem Zlh Zpe Znw Znx Zqr Zly Zmk Zmh Zmi Zmj Zmc Zmr Zfk prT Zfr Z52 Zxc Zzy Zwz Z5h Zwo Zwd Zw4 Z5f Zx3 Z5y Zww Z55 Zw6 Z6e Zxd Z1w Zt2 Z3j Zuv Z3c Ztv Z1v Zuo Z2m Zt5 Z18 Zuc Z3y Zuj Z1g Zsd Z12 Ztf Z0y Zs6 Z3s Zuh Z30 Zlc Zvq Zcv Z3e Zs1 Vq Zso Z02 Ztr Z1t Zr9 Z3p Zs4 Z1f Zt4 Znu Zr2 Z3r Zss Z17 Zte Z3i Zuw Ze0 Zsv Z3g Zs3 Zrb Zth Z26 Zsn Z2l Ztz Zc6 Zs2 Z21 Ztk Zkx Ztl Z2a Zsb Z1q Zr3 Z1z Zs7 Z15 Zt1 Z2q Zsm Z1a Zuq Zwg Znh Z3n Zr8 Zwj Zon Zwn Znz Zya Zpx Zyh Zob Zxf Zn6 Zw0 Zn3 Zwk Zqq Zxm Zor Zxj Zpo Zx1 Zpq Zx8 Zp2 Zx6 Zou Zxy Zof Zw2 Zp5 Zwu Zn9 Zwr Zpv Zxh Zo4 Zyf Zp0 Zws Zo2 Zyi Zn2 Zx2 Zqg Zxe Zp8 Zxi Zoy Zb Yq Zkc Zkf Zkb Zjo Zjx Zij Zht Zh2 Zke Zde Zdl Zc9 Zdk Zda Zc0 Zcj Zct Zdj Zh Qb Zf Zk Xo X1 Y4 Za4 Za2 Zax Zbe Zas Zad Gz Zae Zbd Zbq Zbo Zbp Zbl Zbn Zay Zao Zaw Zbm Zfh Zfd Ze7 Ze9 Zfb Zef Zec Zed Zew Zl9 Zms Zl7 Zl4 Zma Zj6 Zkg Zkk Zl0 Ya Zaa Zai Gy Zaf Zab Gb U6 Gh Zaj Yd Zap Za1 Za5 Za8 Zba G0 Zag Zac Za9
theorem Zqs {Yz : (S_api_Edit → S_api_Tree → Option (S_api_Tree × Bool))} {Yc : (S_api_Edit → S_api_Tree → Option (S_api_Tree × Bool))} {Y6 : (S_api_Edit → S_api_Tree → Option (S_api_Tree × Bool))} {Z5 : (Zi → S_api_Op → Option (Bool × Zi))} {Z4 : (Zi → S_api_Edit → Option (Bool × Zi))} (Js : ∀ {a0 : S_api_Edit} {a1 : S_api_Tree} {r : (S_api_Tree × Bool)} {O : Objs} {n : Nat}, Yz a0 a1 = some r → GTo Try.prog 58 [.agg (Zg a0), .agg (Ze a1)] O n (.tup [.agg (Ze r.1), .val (.bool r.2)]) O n) (Ko : ∀ {a0 : S_api_Edit} {a1 : S_api_Tree} {r : (S_api_Tree × Bool)} {O : Objs} {n : Nat}, Yc a0 a1 = some r → GTo Try.prog 94 [.agg (Zg a0), .agg (Ze a1)] O n (.tup [.agg (Ze r.1), .val (.bool r.2)]) O n) (Gr : ∀ {a0 : S_api_Edit} {a1 : S_api_Tree} {r : (S_api_Tree × Bool)} {O : Objs} {n : Nat}, Y6 a0 a1 = some r → GTo Try.prog 95 [.agg (Zg a0), .agg (Ze a1)] O n (.tup [.agg (Ze r.1), .val (.bool r.2)]) O n) (Jk : ∀ {a0 : Zi} {a1 : S_api_Op} {r : (Bool × Zi)} {O : Objs} {n : Nat} {i0 Zw : Nat}, i0 < n → Zw < n → i0 ≠ Zw → O i0 = some ⟨false, 139, 2, 1, [.sl a0.left.length (fl Zb a0.left), .row Zw a0.out.length]⟩ → O Zw = some ⟨true, 25, 3, a0.out.length, fl Zb a0.out⟩ → Z5 a0 a1 = some r → GTo Try.prog 122 [.ref i0 0, .agg (Yo a1)] O n (.val (.bool r.1)) (Zu ((O.upd Zw none).upd i0 (some ⟨false, 139, 2, 1, [.sl r.2.left.length (fl Zb r.2.left), .row n r.2.out.length]⟩)) n [some ⟨true, 25, 3, r.2.out.length, fl Zb r.2.out⟩]) (n + 1)) (Qk : ∀ {a0 : Zi} {a1 : S_api_Edit} {r : (Bool × Zi)} {O : Objs} {n : Nat} {i0 Zw : Nat}, i0 < n → Zw < n → i0 ≠ Zw → O i0 = some ⟨false, 139, 2, 1, [.sl a0.left.length (fl Zb a0.left), .row Zw a0.out.length]⟩ → O Zw = some ⟨true, 25, 3, a0.out.length, fl Zb a0.out⟩ → Z4 a0 a1 = some r → GTo Try.prog 129 [.ref i0 0, .agg (Zg a1)] O n (.val (.bool r.1)) (Zu ((O.upd Zw none).upd i0 (some ⟨false, 139, 2, 1, [.sl r.2.left.length (fl Zb r.2.left), .row n r.2.out.length]⟩)) n [some ⟨true, 25, 3, r.2.out.length, fl Zb r.2.out⟩]) (n + 1)) {a0 : S_api_Edit} {a1 : S_api_Tree} {r : (S_api_Tree × Bool)} {O : Objs} {n : Nat} (h : V4 Yz Yc Y6 Z5 Z4 a0 a1 = some r) : GTo Try.prog 58 [.agg (Zg a0), .agg (Ze a1)] O n (.tup [.agg (Ze r.1), .val (.bool r.2)]) O n := by
 unfold V4 at h
 refine Xf Zd Try.call58 Try.func58 rfl (Nat.le_of_ble_eq_true rfl) (Nat.le_refl _) fun hU => ?_
 have hN0 : O n = none := hU.fresh _ (Nat.le_refl _)
 have hN : ∀ k, O (n + k) = none := fun k => hU.fresh _ (Nat.le_add_right _ _)
 show W _ _ _ _ ⟨34, [], [(0, .agg (Zg a0)), (1, .agg (Ze a1))]⟩ (Zu O n []) _
 refine Zs [2, 3, 4] (Zc Zd [] ?_)
 simp only [push_cast, seval, ↓reduceIte, Za, hN0, hN]
 refine Zo ?_
 refine Zs [2, 3, 4, 7] (Zc Zd [] ?_)
 simp only [push_cast, seval, ↓reduceIte, Za, hN0, hN]
 refine Yw ?_
 refine Zs [2, 3, 4, 7, 8] (Zc Zd [] ?_)
 simp only [push_cast, seval, ↓reduceIte, Za, hN0, hN]
 refine Zt (t := (a0.Kind == 0)) rfl (fun c10 => ?_) (fun c10 => ?_)
 ·replace h := Zx c10 h
  refine Zo ?_
  refine Zc Zd [] ?_
  simp only [push_cast, seval, ↓reduceIte, Za, hN0, hN]
  refine Zm [4, 5] [false, false, true] ?_
  simp only [push_cast, seval, ↓reduceIte]
  refine Z6 ?_
  try simp only [Zn, Zj]
  have h := Option.some.inj h; subst h
  refine Zz (.inr rfl) hU [.agg (Ze a1), .val (.bool true)] (by omega) ?_
  simp only [push_cast, seval, ↓reduceIte, Za, Try.results58, hN0, hN]
 replace h := Zy c10 h
 refine Zs [2, 3, 4, 7, 11] (Zc Zd [] ?_)
 simp only [push_cast, seval, ↓reduceIte, Za, hN0, hN]
 refine Zt (t := (a0.Kind == 1)) rfl (fun c9 => ?_) (fun c9 => ?_)
 ·replace h := Zx c9 h
  refine Zo ?_
  obtain ⟨y2, hy2, h⟩ := bC h
  refine Zdr Zd (by kernel_rfl) [false, false, false, false, false, false, true, false] [] (by kernel_rfl) ?_
  simp only [push_cast, seval, ↓reduceIte, Za, hN0, hN]
  refine PCall.of (Zq3 hy2) ?_
  simp only [push_cast, seval, ↓reduceIte, Za, hN0, hN]
  refine Zm [4, 5] [false, false, true] ?_
  simp only [push_cast, seval, ↓reduceIte]
  refine Z6 ?_
  try simp only [Zn, Zj]
  have h := Option.some.inj h; subst h
  refine Zz (.inr rfl) hU [.agg (Ze a0.New), .val (.bool y2)] (by omega) ?_
  simp only [push_cast, seval, ↓reduceIte, Za, Try.results58, hN0, hN]
 replace h := Zy c9 h
 refine Zs [2, 3, 4, 7, 19] (Zc Zd [] ?_)
 simp only [push_cast, seval, ↓reduceIte, Za, hN0, hN]
 refine Zt (t := (a0.Kind == 2)) rfl (fun c8 => ?_) (fun c8 => ?_)
 ·replace h := Zx c8 h
  refine Zo ?_
  obtain ⟨y4, hy4, h⟩ := bC h
  refine Zc Zd [] ?_
  simp only [push_cast, seval, ↓reduceIte, Za, hN0, hN]
  refine (Ko hy4).then ?_
  simp only [push_cast, seval, ↓reduceIte, Za, hN0, hN]
  refine Zm [4, 5] [false, false, true] ?_
  simp only [push_cast, seval, ↓reduceIte]
  refine Z6 ?_
  try simp only [Zn, Zj]
  have h := Option.some.inj h; subst h
  refine Zz (.inr rfl) hU [.agg (Ze y4.1), .val (.bool y4.2)] (by omega) ?_
  simp only [push_cast, seval, ↓reduceIte, Za, Try.results58, hN0, hN]
 replace h := Zy c8 h
 refine Zs [2, 3, 4, 26] (Zc Zd [] ?_)
 simp only [push_cast, seval, ↓reduceIte, Za, hN0, hN]
 refine Zt (t := (a0.Kind == 3)) rfl (fun c7 => ?_) (fun c7 => ?_)
 ·replace h := Zx c7 h
  refine Zo ?_
  obtain ⟨y6, hy6, h⟩ := bC h
  refine Zc Zd [] ?_
  simp only [push_cast, seval, ↓reduceIte, Za, hN0, hN]
  refine (Gr hy6).then ?_
  simp only [push_cast, seval, ↓reduceIte, Za, hN0, hN]
  refine Zm [4, 5] [false, false, true] ?_
  simp only [push_cast, seval, ↓reduceIte]
  refine Z6 ?_
  try simp only [Zn, Zj]
  have h := Option.some.inj h; subst h
  refine Zz (.inr rfl) hU [.agg (Ze y6.1), .val (.bool y6.2)] (by omega) ?_
  simp only [push_cast, seval, ↓reduceIte, Za, Try.results58, hN0, hN]
 replace h := Zy c7 h
 refine Z3 ?_
 try simp only [Zn, Zj]
 refine Zm [4] [false, false, true] ?_
 simp only [push_cast, seval, ↓reduceIte]
 refine Zo ?_
 refine Zc Zd [] ?_
 simp only [push_cast, seval, ↓reduceIte, Za, hN0, hN]
 refine Zm [4, 5] [false, false, true] ?_
 simp only [push_cast, seval, ↓reduceIte]
 refine Z6 ?_
 try simp only [Zn, Zj]
 have h := Option.some.inj h; subst h
 refine Zz (.inr rfl) hU [.agg [.val (.int .i64 0), .val (.slice none 0 0), .val (.slice none 0 0)], .val (.bool false)] (by omega) ?_
 simp only [push_cast, seval, ↓reduceIte, Za, Try.results58, hN0, hN]
theorem Zjg {Yz : (S_api_Edit → S_api_Tree → Option (S_api_Tree × Bool))} {Yc : (S_api_Edit → S_api_Tree → Option (S_api_Tree × Bool))} {Y6 : (S_api_Edit → S_api_Tree → Option (S_api_Tree × Bool))} {Z5 : (Zi → S_api_Op → Option (Bool × Zi))} {Z4 : (Zi → S_api_Edit → Option (Bool × Zi))} (Js : ∀ {a0 : S_api_Edit} {a1 : S_api_Tree} {r : (S_api_Tree × Bool)} {O : Objs} {n : Nat}, Yz a0 a1 = some r → GTo Try.prog 58 [.agg (Zg a0), .agg (Ze a1)] O n (.tup [.agg (Ze r.1), .val (.bool r.2)]) O n) (Ko : ∀ {a0 : S_api_Edit} {a1 : S_api_Tree} {r : (S_api_Tree × Bool)} {O : Objs} {n : Nat}, Yc a0 a1 = some r → GTo Try.prog 94 [.agg (Zg a0), .agg (Ze a1)] O n (.tup [.agg (Ze r.1), .val (.bool r.2)]) O n) (Gr : ∀ {a0 : S_api_Edit} {a1 : S_api_Tree} {r : (S_api_Tree × Bool)} {O : Objs} {n : Nat}, Y6 a0 a1 = some r → GTo Try.prog 95 [.agg (Zg a0), .agg (Ze a1)] O n (.tup [.agg (Ze r.1), .val (.bool r.2)]) O n) (Jk : ∀ {a0 : Zi} {a1 : S_api_Op} {r : (Bool × Zi)} {O : Objs} {n : Nat} {i0 Zw : Nat}, i0 < n → Zw < n → i0 ≠ Zw → O i0 = some ⟨false, 139, 2, 1, [.sl a0.left.length (fl Zb a0.left), .row Zw a0.out.length]⟩ → O Zw = some ⟨true, 25, 3, a0.out.length, fl Zb a0.out⟩ → Z5 a0 a1 = some r → GTo Try.prog 122 [.ref i0 0, .agg (Yo a1)] O n (.val (.bool r.1)) (Zu ((O.upd Zw none).upd i0 (some ⟨false, 139, 2, 1, [.sl r.2.left.length (fl Zb r.2.left), .row n r.2.out.length]⟩)) n [some ⟨true, 25, 3, r.2.out.length, fl Zb r.2.out⟩]) (n + 1)) (Qk : ∀ {a0 : Zi} {a1 : S_api_Edit} {r : (Bool × Zi)} {O : Objs} {n : Nat} {i0 Zw : Nat}, i0 < n → Zw < n → i0 ≠ Zw → O i0 = some ⟨false, 139, 2, 1, [.sl a0.left.length (fl Zb a0.left), .row Zw a0.out.length]⟩ → O Zw = some ⟨true, 25, 3, a0.out.length, fl Zb a0.out⟩ → Z4 a0 a1 = some r → GTo Try.prog 129 [.ref i0 0, .agg (Zg a1)] O n (.val (.bool r.1)) (Zu ((O.upd Zw none).upd i0 (some ⟨false, 139, 2, 1, [.sl r.2.left.length (fl Zb r.2.left), .row n r.2.out.length]⟩)) n [some ⟨true, 25, 3, r.2.out.length, fl Zb r.2.out⟩]) (n + 1)) {a0 : S_api_Edit} {a1 : S_api_Tree} {r : (S_api_Tree × Bool)} {O : Objs} {n : Nat} (h : Kt Yz Yc Y6 Z5 Z4 a0 a1 = some r) : GTo Try.prog 94 [.agg (Zg a0), .agg (Ze a1)] O n (.tup [.agg (Ze r.1), .val (.bool r.2)]) O n := by
 unfold Kt at h
 refine Xf Zd Try.call94 Try.func94 rfl (Nat.le_of_ble_eq_true rfl) (Nat.le_refl _) fun hU => ?_
 have hN0 : O n = none := hU.fresh _ (Nat.le_refl _)
 have hN : ∀ k, O (n + k) = none := fun k => hU.fresh _ (Nat.le_add_right _ _)
 show W _ _ _ _ ⟨92, [], [(0, .agg (Zg a0)), (1, .agg (Ze a1))]⟩ (Zu O n []) _
 refine Zs [2, 3, 4] (Zc Zd [] ?_)
 simp only [push_cast, seval, ↓reduceIte, Za, hN0, hN]
 refine Zo ?_
 refine Zs [2, 3, 4, 16] (Zc Zd [] ?_)
 simp only [push_cast, seval, ↓reduceIte, Za, hN0, hN]
 refine Zt (t := (a1.Kind != 1)) rfl (fun c138 => ?_) (fun c138 => ?_)
 ·replace h := Zx c138 h
  refine Zo ?_
  refine Zc Zd [] ?_
  simp only [push_cast, seval, ↓reduceIte, Za, hN0, hN]
  refine Zm [4, 5] [false, false, true] ?_
  simp only [push_cast, seval, ↓reduceIte]
  refine Z6 ?_
  try simp only [Zn, Zj]
  have h := Option.some.inj h; subst h
  refine Zz (.inr rfl) hU [.agg [.val (.int .i64 0), .val (.slice none 0 0), .val (.slice none 0 0)], .val (.bool false)] (by omega) ?_
  simp only [push_cast, seval, ↓reduceIte, Za, Try.results94, hN0, hN]
 replace h := Zy c138 h
 refine Z3 ?_
 try simp only [Zn, Zj]
 refine Zm [2, 3, 4] [true, true, true] ?_
 simp only [push_cast, seval, ↓reduceIte]
 obtain ⟨y25, hy25, h⟩ := bC h
 obtain ⟨y61, hy61, h⟩ := bC h
 refine Y8 (E' := ⟨92, [], [(2, .ref n 0), (3, .ref (n + 1) 0), (4, .ref (n + 2) 0), (6, .ref (n + 5) 0)]⟩) (O' := (Zu O n [some ⟨false, 30, 11, 1, (Zg a0)⟩, some ⟨false, 25, 3, 1, (Ze a1)⟩, some ⟨false, 25, 3, 1, [.val (.int .i64 0), .val (.slice none 0 0), .val (.slice none 0 0)]⟩, some ⟨true, 56, 1, y25.length, fl (eI .u64) y25⟩, some ⟨true, 25, 3, y61.length, fl Zb y61⟩, some ⟨false, 25, 3, 1, [.val (.int .i64 1), .row (n + 3) y25.length, .row (n + 4) y61.length]⟩])) (n0 := (n + 6)) ?_ ?_
 ·refine Z44 Zd (by kernel_rfl) [.low, .low, .pass, .low, .low, .pass, .plain, .pass, .pass] (fun i => i < (n + 3)) [0, 1, 3, 4] [2, 5, 6, 7] [8] (.two 2 (.two 5 (.seq [6, 7]) 7 (.seq [5, 6])) 7 (.seq [2, 5, 6])) [.low, .low, .low, .low] [] (by kernel_rfl) rfl ?_
  simp only [push_cast, seval, ↓reduceIte, Za, hN0, hN]
  repeat (with_reducible refine And.intro (by omega) ?_)
  try simp only [push_cast, seval, ↓reduceIte, Za, hN0, hN]
  refine And.intro ?_ ?_
  ·try simp only [push_cast, seval, ↓reduceIte, Za, hN0, hN]
   repeat (with_reducible refine And.intro (by first | exact Yv rfl | exact Yk) ?_)
   refine (U3 hy25).then ?_
   try simp only [push_cast, seval, ↓reduceIte, Za, hN0, hN]
   repeat (with_reducible refine And.intro (by first | exact Yv rfl | exact Yk) ?_)
   try simp only [push_cast, seval, ↓reduceIte, Za, hN0, hN]
   refine And.intro ?_ ?_
   ·try simp only [push_cast, seval, ↓reduceIte, Za, hN0, hN]
    repeat (with_reducible refine And.intro (by first | exact Yv rfl | exact Yk) ?_)
    refine (Jg hy61).then ?_
    try simp only [push_cast, seval, ↓reduceIte, Za, hN0, hN]
    repeat (with_reducible refine And.intro (by first | exact Yv rfl | exact Yk) ?_)
    try simp only [push_cast, seval, ↓reduceIte, Za, hN0, hN]
    repeat (with_reducible refine And.intro (by first | exact Yv rfl | exact Yk) ?_)
    refine And.intro rfl (Fit2.of (Zl hU rfl rfl ?_) (by omega))
    simp only [push_cast, seval, ↓reduceIte, Za, hN0, hN]
   try simp only [push_cast, seval, ↓reduceIte, Za, hN0, hN]
   repeat (with_reducible refine And.intro (by first | exact Yv rfl | exact Yk) ?_)
   try simp only [push_cast, seval, ↓reduceIte, Za, hN0, hN]
   repeat (with_reducible refine And.intro (by first | exact Yv rfl | exact Yk) ?_)
   refine (Jg hy61).then ?_
   try simp only [push_cast, seval, ↓reduceIte, Za, hN0, hN]
   repeat (with_reducible refine And.intro (by first | exact Yv rfl | exact Yk) ?_)
   refine And.intro rfl ?_
   refine Fit2.trans (E' := (⟨92, [], [(2, .ref n 0), (3, .ref (n + 1) 0), (4, .ref (n + 2) 0), (6, .ref (n + 4) 0)]⟩ : Env)) (O' := (Zu O n [some ⟨false, 30, 11, 1, (Zg a0)⟩, some ⟨false, 25, 3, 1, (Ze a1)⟩, some ⟨false, 25, 3, 1, [.val (.int .i64 0), .val (.slice none 0 0), .val (.slice none 0 0)]⟩, some ⟨true, 56, 1, y25.length, fl (eI .u64) y25⟩, some ⟨false, 25, 3, 1, [.val (.int .i64 1), .row (n + 3) y25.length, .row (n + 5) y61.length]⟩, some ⟨true, 25, 3, y61.length, fl Zb y61⟩])) (n' := (n + 6)) (Fit2.of (Zl hU rfl rfl ?_) (by omega)) ?_
   ·simp only [push_cast, seval, ↓reduceIte, Za, hN0, hN]
   refine Jv (k := 6) (k' := 6) hU [0, 1, 2, 3, 5, 4] [0, 1, 2, 3, 5, 4] rfl rfl rfl rfl ⟨rfl, rfl⟩ ?_
   simp only [push_cast, seval, ↓reduceIte, Za, hN0, hN]
  try simp only [push_cast, seval, ↓reduceIte, Za, hN0, hN]
  repeat (with_reducible refine And.intro (by first | exact Yv rfl | exact Yk) ?_)
  try simp only [push_cast, seval, ↓reduceIte, Za, hN0, hN]
  repeat (with_reducible refine And.intro (by first | exact Yv rfl | exact Yk) ?_)
  refine (U3 hy25).then ?_
  try simp only [push_cast, seval, ↓reduceIte, Za, hN0, hN]
  repeat (with_reducible refine And.intro (by first | exact Yv rfl | exact Yk) ?_)
  refine (Jg hy61).then ?_
  try simp only [push_cast, seval, ↓reduceIte, Za, hN0, hN]
  repeat (with_reducible refine And.intro (by first | exact Yv rfl | exact Yk) ?_)
  refine And.intro rfl ?_
  refine Fit2.trans (E' := (⟨92, [], [(2, .ref n 0), (3, .ref (n + 1) 0), (4, .ref (n + 2) 0), (6, .ref (n + 3) 0)]⟩ : Env)) (O' := (Zu O n [some ⟨false, 30, 11, 1, (Zg a0)⟩, some ⟨false, 25, 3, 1, (Ze a1)⟩, some ⟨false, 25, 3, 1, [.val (.int .i64 0), .val (.slice none 0 0), .val (.slice none 0 0)]⟩, some ⟨false, 25, 3, 1, [.val (.int .i64 1), .row (n + 4) y25.length, .row (n + 5) y61.length]⟩, some ⟨true, 56, 1, y25.length, fl (eI .u64) y25⟩, some ⟨true, 25, 3, y61.length, fl Zb y61⟩])) (n' := (n + 6)) (Fit2.of (Zl hU rfl rfl ?_) (by omega)) ?_
  ·simp only [push_cast, seval, ↓reduceIte, Za, hN0, hN]
  refine Jv (k := 6) (k' := 6) hU [0, 1, 2, 5, 3, 4] [0, 1, 2, 4, 5, 3] rfl rfl rfl rfl ⟨rfl, rfl⟩ ?_
  simp only [push_cast, seval, ↓reduceIte, Za, hN0, hN]
 refine Zo ?_
 refine Zs [2, 3, 4, 6, 26, 27, 28] (Zc Zd [] ?_)
 simp only [push_cast, seval, ↓reduceIte, Za, hN0, hN]
 refine Zm [2, 3, 4, 6, 26, 27, 28] [true, true, true, true, true, true] ?_
 simp only [push_cast, seval, ↓reduceIte]
 refine Jd (E' := (⟨92, [], [(2, .ref n 0), (3, .ref (n + 1) 0), (4, .ref (n + 2) 0), (6, .ref (n + 5) 0), (26, .sl a0.Words.length (fl Zh a0.Words)), (27, .val (.int .i64 (a0.Words.length : Int))), (28, .val (.int .i64 0))]⟩ : Env)) (O' := (Zu O n [some ⟨false, 30, 11, 1, (Zg a0)⟩, some ⟨false, 25, 3, 1, (Ze a1)⟩, some ⟨false, 25, 3, 1, [.val (.int .i64 0), .val (.slice none 0 0), .val (.slice none 0 0)]⟩, none, none, some ⟨false, 25, 3, 1, [.val (.int .i64 1), .row (n + 6) y25.length, .row (n + 7) y61.length]⟩, some ⟨true, 56, 1, y25.length, fl (eI .u64) y25⟩, some ⟨true, 25, 3, y61.length, fl Zb y61⟩, none])) (n' := (n + 9)) ?_ ?_
 ·refine Fit2.trans (E' := (⟨92, [], [(2, .ref n 0), (3, .ref (n + 1) 0), (4, .ref (n + 2) 0), (6, .ref (n + 5) 0), (26, .sl a0.Words.length (fl Zh a0.Words)), (27, .val (.int .i64 (a0.Words.length : Int))), (28, .val (.int .i64 0))]⟩ : Env)) (O' := (Zu O n [some ⟨false, 30, 11, 1, (Zg a0)⟩, some ⟨false, 25, 3, 1, (Ze a1)⟩, some ⟨false, 25, 3, 1, [.val (.int .i64 0), .val (.slice none 0 0), .val (.slice none 0 0)]⟩, some ⟨true, 56, 1, y25.length, fl (eI .u64) y25⟩, some ⟨true, 25, 3, y61.length, fl Zb y61⟩, some ⟨false, 25, 3, 1, [.val (.int .i64 1), .row (n + 3) y25.length, .row (n + 4) y61.length]⟩])) (n' := (n + 6)) (Fit2.of (Zl hU rfl rfl ?_) (by omega)) ?_
  ·simp only [push_cast, seval, ↓reduceIte, Za, hN0, hN]
  refine Jv (k := 6) (k' := 9) hU [0, 1, 2, 6, 7, 5] [0, 1, 2, 0, 0, 5, 3, 4, 0] rfl rfl rfl rfl ⟨rfl, rfl⟩ ?_
  simp only [push_cast, seval, ↓reduceIte, Za, hN0, hN]
 obtain ⟨z125, hz125, h⟩ := bC h
 refine Zcf (J := (Jb (fun z125 => JR n (⟨92, [], [(4, .ref (n + 2) 0), (5, .val (.bool false))]⟩ : Env) (Zu O n [none, none, some ⟨false, 25, 3, 1, [.val (.int .i64 0), .val (.slice none 0 0), .val (.slice none 0 0)]⟩, none, none, none]) (n + 6)) (fun z125 => JX 0 n (⟨92, [], [(2, .ref n 0), (3, .ref (n + 1) 0), (4, .ref (n + 2) 0), (6, .ref (n + 5) 0)]⟩ : Env) (Zu O n [some ⟨false, 30, 11, 1, (Zg a0)⟩, some ⟨false, 25, 3, 1, (Ze a1)⟩, some ⟨false, 25, 3, 1, [.val (.int .i64 0), .val (.slice none 0 0), .val (.slice none 0 0)]⟩, none, none, some ⟨false, 25, 3, 1, [.val (.int .i64 z125.1), .row (n + 6) z125.2.1.length, .row (n + 7) z125.2.2.length]⟩, some ⟨true, 56, 1, z125.2.1.length, fl (eI .u64) z125.2.1⟩, some ⟨true, 25, 3, z125.2.2.length, fl Zb z125.2.2⟩, none]) (n + 9)))) (z := z125) ?_ fun hw => ?_
 ·refine Xa hz125 (fun s0_ => ⟨92, [], [(2, .ref n 0), (3, .ref (n + 1) 0), (4, .ref (n + 2) 0), (6, .ref (n + 5) 0), (26, .sl a0.Words.length (fl Zh a0.Words)), (27, .val (.int .i64 (a0.Words.length : Int))), (28, .val (.int .i64 s0_.1))]⟩) (fun s0_ => (Zu O n [some ⟨false, 30, 11, 1, (Zg a0)⟩, some ⟨false, 25, 3, 1, (Ze a1)⟩, some ⟨false, 25, 3, 1, [.val (.int .i64 0), .val (.slice none 0 0), .val (.slice none 0 0)]⟩, none, none, some ⟨false, 25, 3, 1, [.val (.int .i64 s0_.2.1), .row (n + 6) s0_.2.2.1.length, .row (n + 7) s0_.2.2.2.length]⟩, some ⟨true, 56, 1, s0_.2.2.1.length, fl (eI .u64) s0_.2.2.1⟩, some ⟨true, 25, 3, s0_.2.2.2.length, fl Zb s0_.2.2.2⟩, none])) (Jb (fun z125 => JR n (⟨92, [], [(4, .ref (n + 2) 0), (5, .val (.bool false))]⟩ : Env) (Zu O n [none, none, some ⟨false, 25, 3, 1, [.val (.int .i64 0), .val (.slice none 0 0), .val (.slice none 0 0)]⟩, none, none, none]) (n + 6)) (fun z125 => JX 0 n (⟨92, [], [(2, .ref n 0), (3, .ref (n + 1) 0), (4, .ref (n + 2) 0), (6, .ref (n + 5) 0)]⟩ : Env) (Zu O n [some ⟨false, 30, 11, 1, (Zg a0)⟩, some ⟨false, 25, 3, 1, (Ze a1)⟩, some ⟨false, 25, 3, 1, [.val (.int .i64 0), .val (.slice none 0 0), .val (.slice none 0 0)]⟩, none, none, some ⟨false, 25, 3, 1, [.val (.int .i64 z125.1), .row (n + 6) z125.2.1.length, .row (n + 7) z125.2.2.length]⟩, some ⟨true, 56, 1, z125.2.1.length, fl (eI .u64) z125.2.1⟩, some ⟨true, 25, 3, z125.2.2.length, fl Zb z125.2.2⟩, none]) (n + 9))) ?_
  intro s0_ x0_ hs0_
  unfold Qc at hs0_
  try dsimp only
  refine Zs [2, 3, 4, 6, 26, 27, 28, 29] (Zc Zd [] ?_)
  simp only [push_cast, seval, ↓reduceIte, Za, hN0, hN]
  refine Zo ?_
  refine Zt (t := (decide (s0_.1 < (a0.Words.length : Int)))) rfl (fun c124 => ?_) (fun c124 => ?_)
  ·replace hs0_ := Zx c124 hs0_
   refine Z3 ?_
   try simp only [Zn, Zj]
   refine Zm [2, 3, 4, 6, 26, 27, 28] [true, true, true, false, false, true, true, true, false] ?_
   simp only [push_cast, seval, ↓reduceIte]
   refine Zo ?_
   refine Yw ?_
   refine Zo ?_
   obtain ⟨x110, hx110, ax110, bx110, cx110, hs0_⟩ := bE (f := Zh) Zrb (fun _ => rfl) (by decide) hs0_
   refine Zc Zd [] ?_
   simp only [push_cast, Nat.reduceAdd, Nat.reduceSub, Nat.reduceMul, Nat.reduceLeDiff, Nat.reduceLT, Nat.reduceEqDiff, ↓reduceIte, reduceCtorEq, Int.reduceBEq, Int.reduceBNe, Nat.reduceBEq, Int.reduceLE, Int.reduceLT, Int.reduceEq, Int.reduceNe, Int.reduceNeg, Nat.reduceDiv, Nat.reduceMod, Nat.reducePow, Za, ax110, bx110, cx110, hN0, hN]
   refine Zm [2, 3, 4, 6, 8, 26, 27, 28] [true, true, true, false, false, true, true, true, false, true] ?_
   simp only [push_cast, seval, ↓reduceIte]
   refine Zo ?_
   obtain ⟨y112, hy112, hs0_⟩ := bC hs0_
   refine Zc Zd [] ?_
   simp only [push_cast, seval, ↓reduceIte, Za, hN0, hN]
   refine (Zt8 hy112).then ?_
   simp only [push_cast, seval, ↓reduceIte, Za, hN0, hN]
   refine Zm [2, 3, 4, 6, 8, 9, 26, 27, 28] [true, true, true, false, false, true, true, true, false, true] ?_
   simp only [push_cast, seval, ↓reduceIte]
   refine Zo ?_
   obtain ⟨z115, hz115, hs0_⟩ := bC hs0_
   refine Y8 (E' := ⟨92, [], [(2, .ref n 0), (3, .ref (n + 1) 0), (4, .ref (n + 2) 0), (6, .ref (n + 5) 0), (8, .ref (n + 9) 0), (9, .val (.int .u64 y112)), (26, .sl a0.Words.length (fl Zh a0.Words)), (27, .val (.int .i64 (a0.Words.length : Int))), (28, .val (.int .i64 s0_.1)), (49, .val (.bool z115))]⟩) (O' := (Zu O n [some ⟨false, 30, 11, 1, (Zg a0)⟩, some ⟨false, 25, 3, 1, (Ze a1)⟩, some ⟨false, 25, 3, 1, [.val (.int .i64 0), .val (.slice none 0 0), .val (.slice none 0 0)]⟩, none, none, some ⟨false, 25, 3, 1, [.val (.int .i64 s0_.2.1), .row (n + 6) s0_.2.2.1.length, .row (n + 7) s0_.2.2.2.length]⟩, some ⟨true, 56, 1, s0_.2.2.1.length, fl (eI .u64) s0_.2.2.1⟩, some ⟨true, 25, 3, s0_.2.2.2.length, fl Zb s0_.2.2.2⟩, none, some ⟨false, 58, 4, 1, (Uw x110)⟩])) (n0 := (n + 10)) ?_ ?_
   ·obtain ⟨y118, hy118, hz115⟩ := bC hz115
    rcases Bool.eq_false_or_eq_true y118 with c120 | c120
    ·replace hz115 := Zx c120 hz115
     refine Q2 Zd (by kernel_rfl) [some false, some false, some false, some false, some false, some false, some false, some false, some false] (by kernel_rfl) ?_
     simp only [push_cast, seval, ↓reduceIte, Za, c120, hN0, hN]
     refine PCall.of (Zdc hy118) ?_
     simp only [push_cast, seval, ↓reduceIte, Za, c120, hN0, hN]
     have hz115 := Option.some.inj hz115; subst hz115
     refine And.intro rfl (Fit2.of (Zl hU rfl rfl ?_) (by omega))
     simp only [push_cast, seval, ↓reduceIte, Za, c120, hN0, hN]
    replace hz115 := Zy c120 hz115
    obtain ⟨y119, hy119, hz115⟩ := bC hz115
    refine Q2 Zd (by kernel_rfl) [some true, some true, some true, some true, some true, some true, some true, some true, some true] (by kernel_rfl) ?_
    simp only [push_cast, seval, ↓reduceIte, Za, c120, hN0, hN]
    refine PCall.of (Zdc hy118) ?_
    simp only [push_cast, seval, ↓reduceIte, Za, c120, hN0, hN]
    refine PCall.of (Zlb hy119) ?_
    simp only [push_cast, seval, ↓reduceIte, Za, c120, hN0, hN]
    have hz115 := Option.some.inj hz115; subst hz115
    refine And.intro rfl (Fit2.of (Zl hU rfl rfl ?_) (by omega))
    simp only [push_cast, seval, ↓reduceIte, Za, c120, hN0, hN]
   refine Zt (t := z115) rfl (fun c123 => ?_) (fun c123 => ?_)
   ·replace hs0_ := Zx c123 hs0_
    refine Zo ?_
    refine Zc Zd [] ?_
    simp only [push_cast, seval, ↓reduceIte, Za, hN0, hN]
    refine Zm [4, 5] [false, false, true, false, false, false, false, false, false, false] ?_
    simp only [push_cast, seval, ↓reduceIte]
    refine Z6 ?_
    try simp only [Zn, Zj]
    have hs0_ := Option.some.inj hs0_; subst hs0_
    refine And.intro (fun h => by cases h) (And.intro rfl (Fit2.of (Zl hU rfl rfl ?_) (by omega)))
    simp only [push_cast, seval, ↓reduceIte, Za, hN0, hN]
   replace hs0_ := Zy c123 hs0_
   refine Z3 ?_
   try simp only [Zn, Zj]
   refine Zm [2, 3, 4, 6, 8, 9, 26, 27, 28] [true, true, true, false, false, true, true, true, false, true] ?_
   simp only [push_cast, seval, ↓reduceIte]
   obtain ⟨y121, hy121, hs0_⟩ := bC hs0_
   obtain ⟨y122, hy122, hs0_⟩ := bC hs0_
   refine Zdr Zd (by kernel_rfl) [false, false, false, false, false, false, false, false, true] [] (by kernel_rfl) ?_
   simp only [push_cast, seval, ↓reduceIte, Za, hN0, hN]
   refine PCall.of (Zuy hy121) ?_
   simp only [push_cast, seval, ↓reduceIte, Za, hN0, hN]
   refine (Zlu (i0 := (n + 5)) (Zw := (n + 7)) (Yf := (n + 6)) (by omega) (by omega) (by omega) (by omega) (by omega) (by omega) (by simp only [push_cast, seval, ↓reduceIte, Za, Y5, hN0, hN] <;> rfl) (by simp only [push_cast, seval, ↓reduceIte, Za, Y5, hN0, hN] <;> rfl) (by simp only [push_cast, seval, ↓reduceIte, Za, Y5, hN0, hN] <;> rfl) hy122).then ?_
   simp only [push_cast, seval, ↓reduceIte, Za, hN0, hN]
   refine Zm [2, 3, 4, 6, 26, 27, 28] [true, true, true, false, false, true, false, false, false, false, true, true] ?_
   simp only [push_cast, seval, ↓reduceIte]
   refine Zc Zd [] ?_
   simp only [push_cast, seval, ↓reduceIte, Za, hN0, hN]
   have hs0_ := Option.some.inj hs0_; subst hs0_
   refine And.intro rfl ?_
   refine Fit2.trans (E' := (⟨92, [], [(2, .ref n 0), (3, .ref (n + 1) 0), (4, .ref (n + 2) 0), (6, .ref (n + 5) 0), (26, .sl a0.Words.length (fl Zh a0.Words)), (27, .val (.int .i64 (a0.Words.length : Int))), (28, .val (.int .i64 (IntKind.i64.wrap (s0_.1 + 1))))]⟩ : Env)) (O' := (Zu O n [some ⟨false, 30, 11, 1, (Zg a0)⟩, some ⟨false, 25, 3, 1, (Ze a1)⟩, some ⟨false, 25, 3, 1, [.val (.int .i64 0), .val (.slice none 0 0), .val (.slice none 0 0)]⟩, none, none, some ⟨false, 25, 3, 1, [.val (.int .i64 y122.Kind), .row (n + 11) y122.Words.length, .row (n + 10) y122.Kids.length]⟩, none, none, none, none, some ⟨true, 25, 3, y122.Kids.length, fl Zb y122.Kids⟩, some ⟨true, 56, 1, y122.Words.length, fl (eI .u64) y122.Words⟩])) (n' := (n + 12)) (Fit2.of (Zl hU rfl rfl ?_) (by omega)) ?_
   ·simp only [push_cast, seval, ↓reduceIte, Za, hN0, hN]
   refine Jv (k := 12) (k' := 9) hU [0, 1, 2, 8, 8, 5, 8, 8, 8, 8, 7, 6] [0, 1, 2, 0, 0, 5, 11, 10, 0] rfl rfl rfl rfl ⟨rfl, rfl⟩ ?_
   simp only [push_cast, seval, ↓reduceIte, Za, hN0, hN]
  replace hs0_ := Zy c124 hs0_
  refine Xw ?_
  try simp only [Zn, Zj, ↓reduceIte, Nat.reduceEqDiff]
  have hs0_ := Option.some.inj hs0_; subst hs0_
  refine And.intro (fun h => by cases h) (And.intro rfl (Fit2.of (Zl hU rfl rfl ?_) (by omega)))
  simp only [push_cast, seval, ↓reduceIte, Za, hN0, hN]
 rcases z125 with z125 | z125
 ·dsimp only [Jb] at hw h
  refine Uh hw ?_
  try simp only [Zn, Zj, ↓reduceIte, Nat.reduceEqDiff]
  have h := Option.some.inj h; subst h
  refine Zz (.inr rfl) hU [.agg [.val (.int .i64 0), .val (.slice none 0 0), .val (.slice none 0 0)], .val (.bool false)] (by omega) ?_
  simp only [push_cast, seval, ↓reduceIte, Za, Try.results94, hN0, hN]
 dsimp only [Jb] at hw h
 refine Yy hw ?_
 try simp only [Zn, Zj, ↓reduceIte, Nat.reduceEqDiff]
 refine Zm [2, 3, 4, 6] [true, true, true, false, false, true, true, true, false] ?_
 simp only [push_cast, seval, ↓reduceIte]
 refine Zo ?_
 refine Zs [3, 4, 6, 62, 63, 64] (Zc Zd [] ?_)
 simp only [push_cast, seval, ↓reduceIte, Za, hN0, hN]
 refine Zm [3, 4, 6, 62, 63, 64] [false, true, true, false, false, true, true, true, false] ?_
 simp only [push_cast, seval, ↓reduceIte]
 refine Jd (E' := (⟨92, [], [(3, .ref (n + 1) 0), (4, .ref (n + 2) 0), (6, .ref (n + 5) 0), (62, .sl a0.Kids.length (fl Zk a0.Kids)), (63, .val (.int .i64 (a0.Kids.length : Int))), (64, .val (.int .i64 0))]⟩ : Env)) (O' := (Zu O n [none, some ⟨false, 25, 3, 1, (Ze a1)⟩, some ⟨false, 25, 3, 1, [.val (.int .i64 0), .val (.slice none 0 0), .val (.slice none 0 0)]⟩, none, none, some ⟨false, 25, 3, 1, [.val (.int .i64 z125.1), .sl z125.2.1.length (fl (eI .u64) z125.2.1), .row (n + 9) z125.2.2.length]⟩, none, none, none, some ⟨true, 25, 3, z125.2.2.length, fl Zb z125.2.2⟩, none])) (n' := (n + 11)) ?_ ?_
 ·refine Fit2.trans (E' := (⟨92, [], [(3, .ref (n + 1) 0), (4, .ref (n + 2) 0), (6, .ref (n + 5) 0), (62, .sl a0.Kids.length (fl Zk a0.Kids)), (63, .val (.int .i64 (a0.Kids.length : Int))), (64, .val (.int .i64 0))]⟩ : Env)) (O' := (Zu O n [none, some ⟨false, 25, 3, 1, (Ze a1)⟩, some ⟨false, 25, 3, 1, [.val (.int .i64 0), .val (.slice none 0 0), .val (.slice none 0 0)]⟩, none, none, some ⟨false, 25, 3, 1, [.val (.int .i64 z125.1), .sl z125.2.1.length (fl (eI .u64) z125.2.1), .row (n + 7) z125.2.2.length]⟩, none, some ⟨true, 25, 3, z125.2.2.length, fl Zb z125.2.2⟩, none])) (n' := (n + 9)) (Fit2.of (Zl hU rfl rfl ?_) (by omega)) ?_
  ·simp only [push_cast, seval, ↓reduceIte, Za, hN0, hN]
  refine Jv (k := 9) (k' := 11) hU [10, 1, 2, 10, 10, 5, 10, 9, 10] [0, 1, 2, 0, 0, 5, 0, 0, 0, 7, 0] rfl rfl rfl rfl ⟨rfl, rfl⟩ ?_
  simp only [push_cast, seval, ↓reduceIte, Za, hN0, hN]
 obtain ⟨z137, hz137, h⟩ := bC h
 refine Zcf (J := (Jb (fun z137 => JR n (⟨92, [], [(4, .ref (n + 2) 0), (5, .val (.bool false))]⟩ : Env) (Zu O n [none, none, some ⟨false, 25, 3, 1, [.val (.int .i64 0), .val (.slice none 0 0), .val (.slice none 0 0)]⟩, none, none, none, none, none, none]) (n + 9)) (fun z137 => JX 2 n (⟨92, [], [(4, .ref (n + 2) 0), (6, .ref (n + 5) 0)]⟩ : Env) (Zu O n [none, none, some ⟨false, 25, 3, 1, [.val (.int .i64 0), .val (.slice none 0 0), .val (.slice none 0 0)]⟩, none, none, some ⟨false, 25, 3, 1, [.val (.int .i64 z137.1), .sl z137.2.1.length (fl (eI .u64) z137.2.1), .row (n + 9) z137.2.2.length]⟩, none, none, none, some ⟨true, 25, 3, z137.2.2.length, fl Zb z137.2.2⟩, none]) (n + 11)))) (z := z137) ?_ fun hw => ?_
 ·refine Xa hz137 (fun s1_ => ⟨92, [], [(3, .ref (n + 1) 0), (4, .ref (n + 2) 0), (6, .ref (n + 5) 0), (62, .sl a0.Kids.length (fl Zk a0.Kids)), (63, .val (.int .i64 (a0.Kids.length : Int))), (64, .val (.int .i64 s1_.1))]⟩) (fun s1_ => (Zu O n [none, some ⟨false, 25, 3, 1, (Ze a1)⟩, some ⟨false, 25, 3, 1, [.val (.int .i64 0), .val (.slice none 0 0), .val (.slice none 0 0)]⟩, none, none, some ⟨false, 25, 3, 1, [.val (.int .i64 s1_.2.1), .sl s1_.2.2.1.length (fl (eI .u64) s1_.2.2.1), .row (n + 9) s1_.2.2.2.length]⟩, none, none, none, some ⟨true, 25, 3, s1_.2.2.2.length, fl Zb s1_.2.2.2⟩, none])) (Jb (fun z137 => JR n (⟨92, [], [(4, .ref (n + 2) 0), (5, .val (.bool false))]⟩ : Env) (Zu O n [none, none, some ⟨false, 25, 3, 1, [.val (.int .i64 0), .val (.slice none 0 0), .val (.slice none 0 0)]⟩, none, none, none, none, none, none]) (n + 9)) (fun z137 => JX 2 n (⟨92, [], [(4, .ref (n + 2) 0), (6, .ref (n + 5) 0)]⟩ : Env) (Zu O n [none, none, some ⟨false, 25, 3, 1, [.val (.int .i64 0), .val (.slice none 0 0), .val (.slice none 0 0)]⟩, none, none, some ⟨false, 25, 3, 1, [.val (.int .i64 z137.1), .sl z137.2.1.length (fl (eI .u64) z137.2.1), .row (n + 9) z137.2.2.length]⟩, none, none, none, some ⟨true, 25, 3, z137.2.2.length, fl Zb z137.2.2⟩, none]) (n + 11))) ?_
  intro s1_ x1_ hs1_
  unfold Xt at hs1_
  try dsimp only
  refine Zs [3, 4, 6, 62, 63, 64, 65] (Zc Zd [] ?_)
  simp only [push_cast, seval, ↓reduceIte, Za, hN0, hN]
  refine Zo ?_
  refine Zt (t := (decide (s1_.1 < (a0.Kids.length : Int)))) rfl (fun c136 => ?_) (fun c136 => ?_)
  ·replace hs1_ := Zx c136 hs1_
   refine Z3 ?_
   try simp only [Zn, Zj]
   refine Zm [3, 4, 6, 62, 63, 64] [false, true, true, false, false, true, false, false, false, true, false] ?_
   simp only [push_cast, seval, ↓reduceIte]
   refine Zo ?_
   refine Yw ?_
   refine Zo ?_
   obtain ⟨x127, hx127, ax127, bx127, cx127, hs1_⟩ := bE (f := Zk) Zkx (fun _ => rfl) (by decide) hs1_
   refine Zc Zd [] ?_
   simp only [push_cast, Nat.reduceAdd, Nat.reduceSub, Nat.reduceMul, Nat.reduceLeDiff, Nat.reduceLT, Nat.reduceEqDiff, ↓reduceIte, reduceCtorEq, Int.reduceBEq, Int.reduceBNe, Nat.reduceBEq, Int.reduceLE, Int.reduceLT, Int.reduceEq, Int.reduceNe, Int.reduceNeg, Nat.reduceDiv, Nat.reduceMod, Nat.reducePow, Za, ax127, bx127, cx127, hN0, hN]
   refine Zm [3, 4, 6, 11, 62, 63, 64] [false, true, true, false, false, true, false, false, false, true, false, true] ?_
   simp only [push_cast, seval, ↓reduceIte]
   refine Zo ?_
   obtain ⟨y130, hy130, hs1_⟩ := bC hs1_
   obtain ⟨y131, hy131, hs1_⟩ := bC hs1_
   refine Zal Zd (by kernel_rfl) [.low, .low, .low, .low, .low, .low, .low, .low, .low, .low, .pass, .pass, .plain] (fun i => i < (n + 12)) [0, 1, 2, 3, 4, 5, 6, 7, 8, 9, 10, 11, 12] [.low, .low, .low, .low, .low, .low, .low, .low, .low, .low, .pass, .pass, .plain] [] (by kernel_rfl) rfl ?_
   simp only [push_cast, seval, ↓reduceIte, Za, hN0, hN]
   repeat (with_reducible refine And.intro (by first | omega | exact Yv rfl | exact Yk | exact Qj rfl rfl) ?_)
   first | refine PCallA.of (fun _ _ => Zm3 hy130) ?_ | refine PCall.of (Zm3 hy130) ?_
   simp only [push_cast, seval, ↓reduceIte, Za, hN0, hN]
   repeat (with_reducible refine And.intro (by first | omega | exact Yv rfl | exact Yk | exact Qj rfl rfl) ?_)
   first | refine PCallA.of (fun _ _ => Js hy131) ?_ | refine PCall.of (Js hy131) ?_
   simp only [push_cast, seval, ↓reduceIte, Za, hN0, hN]
   repeat (with_reducible refine And.intro (by first | omega | exact Yv rfl | exact Yk | exact Qj rfl rfl) ?_)
   refine Zm [3, 4, 6, 11, 12, 13, 62, 63, 64] [false, true, true, false, false, true, false, false, false, true, false, true, true] ?_
   simp only [push_cast, seval, ↓reduceIte]
   refine Zo ?_
   refine Zo ?_
   obtain ⟨y133, hy133, hs1_⟩ := bC hs1_
   refine Zc Zd [none, none] ?_
   simp only [push_cast, seval, ↓reduceIte, Za, hN0, hN]
   repeat (with_reducible refine And.intro (by first | (intro h0; simp only [h0, and_self]; done) | (intro h0; simp only [h0, Bool.not_false, Bool.not_true, Bool.true_and, Bool.and_true, true_and, and_true, and_self, imp_self, implies_true, bne_iff_ne, ne_eq, beq_iff_eq]; done) | (intros; simp_all; done) | exact True.intro) ?_)
   refine (Zdc hy133).then ?_
   simp only [push_cast, seval, ↓reduceIte, Za, hN0, hN]
   repeat (with_reducible refine And.intro (by first | (intro h0; simp only [h0, and_self]; done) | (intro h0; simp only [h0, Bool.not_false, Bool.not_true, Bool.true_and, Bool.and_true, true_and, and_true, and_self, imp_self, implies_true, bne_iff_ne, ne_eq, beq_iff_eq]; done) | (intros; simp_all; done) | exact True.intro) ?_)
   refine Zm [3, 4, 6, 11, 12, 62, 63, 64, 84] [false, true, true, false, false, true, false, false, false, true, false, true, true] ?_
   simp only [push_cast, seval, ↓reduceIte]
   refine Zt (t := (cond y133 true (!y131.2))) rfl (fun c135 => ?_) (fun c135 => ?_)
   ·replace hs1_ := Zx c135 hs1_
    refine Zo ?_
    refine Zc Zd [] ?_
    simp only [push_cast, seval, ↓reduceIte, Za, hN0, hN]
    refine Zm [4, 5] [false, false, true, false, false, false, false, false, false, false, false, false, false] ?_
    simp only [push_cast, seval, ↓reduceIte]
    refine Z6 ?_
    try simp only [Zn, Zj]
    have hs1_ := Option.some.inj hs1_; subst hs1_
    refine And.intro (fun h => by cases h) (And.intro rfl (Fit2.of (Zl hU rfl rfl ?_) (by omega)))
    simp only [push_cast, seval, ↓reduceIte, Za, hN0, hN]
   replace hs1_ := Zy c135 hs1_
   refine Z3 ?_
   try simp only [Zn, Zj]
   refine Zm [3, 4, 6, 11, 12, 62, 63, 64] [false, true, true, false, false, true, false, false, false, true, false, true, true] ?_
   simp only [push_cast, seval, ↓reduceIte]
   obtain ⟨y134, hy134, hs1_⟩ := bC hs1_
   refine Zc Zd [] ?_
   simp only [push_cast, seval, ↓reduceIte, Za, hN0, hN]
   refine (Zm9 (i0 := (n + 5)) (Zw := (n + 9)) (by omega) (by omega) (by omega) (by simp only [push_cast, seval, ↓reduceIte, Za, Y5, hN0, hN] <;> rfl) (by simp only [push_cast, seval, ↓reduceIte, Za, Y5, hN0, hN] <;> rfl) hy134).then ?_
   simp only [push_cast, seval, ↓reduceIte, Za, hN0, hN]
   refine Zm [3, 4, 6, 62, 63, 64] [false, true, true, false, false, true, false, false, false, false, false, false, false, true] ?_
   simp only [push_cast, seval, ↓reduceIte]
   refine Zc Zd [] ?_
   simp only [push_cast, seval, ↓reduceIte, Za, hN0, hN]
   have hs1_ := Option.some.inj hs1_; subst hs1_
   refine And.intro rfl ?_
   refine Fit2.trans (E' := (⟨92, [], [(3, .ref (n + 1) 0), (4, .ref (n + 2) 0), (6, .ref (n + 5) 0), (62, .sl a0.Kids.length (fl Zk a0.Kids)), (63, .val (.int .i64 (a0.Kids.length : Int))), (64, .val (.int .i64 (IntKind.i64.wrap (s1_.1 + 1))))]⟩ : Env)) (O' := (Zu O n [none, some ⟨false, 25, 3, 1, (Ze a1)⟩, some ⟨false, 25, 3, 1, [.val (.int .i64 0), .val (.slice none 0 0), .val (.slice none 0 0)]⟩, none, none, some ⟨false, 25, 3, 1, [.val (.int .i64 y134.Kind), .sl y134.Words.length (fl (eI .u64) y134.Words), .row (n + 13) y134.Kids.length]⟩, none, none, none, none, none, none, none, some ⟨true, 25, 3, y134.Kids.length, fl Zb y134.Kids⟩])) (n' := (n + 14)) (Fit2.of (Zl hU rfl rfl ?_) (by omega)) ?_
   ·simp only [push_cast, seval, ↓reduceIte, Za, hN0, hN]
   refine Jv (k := 14) (k' := 11) hU [10, 1, 2, 10, 10, 5, 10, 10, 10, 10, 10, 10, 10, 9] [0, 1, 2, 0, 0, 5, 0, 0, 0, 13, 0] rfl rfl rfl rfl ⟨rfl, rfl⟩ ?_
   simp only [push_cast, seval, ↓reduceIte, Za, hN0, hN]
  replace hs1_ := Zy c136 hs1_
  refine Xw ?_
  try simp only [Zn, Zj, ↓reduceIte, Nat.reduceEqDiff]
  have hs1_ := Option.some.inj hs1_; subst hs1_
  refine And.intro (fun h => by cases h) (And.intro rfl (Fit2.of (Zl hU rfl rfl ?_) (by omega)))
  simp only [push_cast, seval, ↓reduceIte, Za, hN0, hN]
 rcases z137 with z137 | z137
 ·dsimp only [Jb] at hw h
  refine Uh hw ?_
  try simp only [Zn, Zj, ↓reduceIte, Nat.reduceEqDiff]
  have h := Option.some.inj h; subst h
  refine Zz (.inr rfl) hU [.agg [.val (.int .i64 0), .val (.slice none 0 0), .val (.slice none 0 0)], .val (.bool false)] (by omega) ?_
  simp only [push_cast, seval, ↓reduceIte, Za, Try.results94, hN0, hN]
 dsimp only [Jb] at hw h
 refine Yy hw ?_
 try simp only [Zn, Zj, ↓reduceIte, Nat.reduceEqDiff]
 refine Zm [4, 6] [false, false, true, false, false, true, false, false, false, true, false] ?_
 simp only [push_cast, seval, ↓reduceIte]
 refine Zo ?_
 refine Zc Zd [] ?_
 simp only [push_cast, seval, ↓reduceIte, Za, hN0, hN]
 refine Zm [4, 5] [false, false, true, false, false, false, false, false, false, true, false] ?_
 simp only [push_cast, seval, ↓reduceIte]
 refine Z6 ?_
 try simp only [Zn, Zj]
 have h := Option.some.inj h; subst h
 refine Zz (.inr rfl) hU [.agg [.val (.int .i64 z137.1), .sl z137.2.1.length (fl (eI .u64) z137.2.1), .row (n + 9) z137.2.2.length], .val (.bool true)] (by omega) ?_
 simp only [push_cast, seval, ↓reduceIte, Za, Try.results94, hN0, hN]
theorem Zpd {Yz : (S_api_Edit → S_api_Tree → Option (S_api_Tree × Bool))} {Yc : (S_api_Edit → S_api_Tree → Option (S_api_Tree × Bool))} {Y6 : (S_api_Edit → S_api_Tree → Option (S_api_Tree × Bool))} {Z5 : (Zi → S_api_Op → Option (Bool × Zi))} {Z4 : (Zi → S_api_Edit → Option (Bool × Zi))} (Js : ∀ {a0 : S_api_Edit} {a1 : S_api_Tree} {r : (S_api_Tree × Bool)} {O : Objs} {n : Nat}, Yz a0 a1 = some r → GTo Try.prog 58 [.agg (Zg a0), .agg (Ze a1)] O n (.tup [.agg (Ze r.1), .val (.bool r.2)]) O n) (Ko : ∀ {a0 : S_api_Edit} {a1 : S_api_Tree} {r : (S_api_Tree × Bool)} {O : Objs} {n : Nat}, Yc a0 a1 = some r → GTo Try.prog 94 [.agg (Zg a0), .agg (Ze a1)] O n (.tup [.agg (Ze r.1), .val (.bool r.2)]) O n) (Gr : ∀ {a0 : S_api_Edit} {a1 : S_api_Tree} {r : (S_api_Tree × Bool)} {O : Objs} {n : Nat}, Y6 a0 a1 = some r → GTo Try.prog 95 [.agg (Zg a0), .agg (Ze a1)] O n (.tup [.agg (Ze r.1), .val (.bool r.2)]) O n) (Jk : ∀ {a0 : Zi} {a1 : S_api_Op} {r : (Bool × Zi)} {O : Objs} {n : Nat} {i0 Zw : Nat}, i0 < n → Zw < n → i0 ≠ Zw → O i0 = some ⟨false, 139, 2, 1, [.sl a0.left.length (fl Zb a0.left), .row Zw a0.out.length]⟩ → O Zw = some ⟨true, 25, 3, a0.out.length, fl Zb a0.out⟩ → Z5 a0 a1 = some r → GTo Try.prog 122 [.ref i0 0, .agg (Yo a1)] O n (.val (.bool r.1)) (Zu ((O.upd Zw none).upd i0 (some ⟨false, 139, 2, 1, [.sl r.2.left.length (fl Zb r.2.left), .row n r.2.out.length]⟩)) n [some ⟨true, 25, 3, r.2.out.length, fl Zb r.2.out⟩]) (n + 1)) (Qk : ∀ {a0 : Zi} {a1 : S_api_Edit} {r : (Bool × Zi)} {O : Objs} {n : Nat} {i0 Zw : Nat}, i0 < n → Zw < n → i0 ≠ Zw → O i0 = some ⟨false, 139, 2, 1, [.sl a0.left.length (fl Zb a0.left), .row Zw a0.out.length]⟩ → O Zw = some ⟨true, 25, 3, a0.out.length, fl Zb a0.out⟩ → Z4 a0 a1 = some r → GTo Try.prog 129 [.ref i0 0, .agg (Zg a1)] O n (.val (.bool r.1)) (Zu ((O.upd Zw none).upd i0 (some ⟨false, 139, 2, 1, [.sl r.2.left.length (fl Zb r.2.left), .row n r.2.out.length]⟩)) n [some ⟨true, 25, 3, r.2.out.length, fl Zb r.2.out⟩]) (n + 1)) {a0 : S_api_Edit} {a1 : S_api_Tree} {r : (S_api_Tree × Bool)} {O : Objs} {n : Nat} (h : Zbh Yz Yc Y6 Z5 Z4 a0 a1 = some r) : GTo Try.prog 95 [.agg (Zg a0), .agg (Ze a1)] O n (.tup [.agg (Ze r.1), .val (.bool r.2)]) O n := by
 unfold Zbh at h
 refine Xf Zd Try.call95 Try.func95 rfl (Nat.le_of_ble_eq_true rfl) (Nat.le_refl _) fun hU => ?_
 have hN0 : O n = none := hU.fresh _ (Nat.le_refl _)
 have hN : ∀ k, O (n + k) = none := fun k => hU.fresh _ (Nat.le_add_right _ _)
 show W _ _ _ _ ⟨45, [], [(0, .agg (Zg a0)), (1, .agg (Ze a1))]⟩ (Zu O n []) _
 refine Zs [2, 3, 4] (Zc Zd [] ?_)
 simp only [push_cast, seval, ↓reduceIte, Za, hN0, hN]
 refine Zo ?_
 obtain ⟨z2, hz2, h⟩ := bC h
 refine Y8 (E' := ⟨45, [], [(2, .ref n 0), (3, .ref (n + 1) 0), (4, .ref (n + 2) 0), (19, .val (.bool z2))]⟩) (O' := (Zu O n [some ⟨false, 30, 11, 1, (Zg a0)⟩, some ⟨false, 25, 3, 1, (Ze a1)⟩, some ⟨false, 25, 3, 1, [.val (.int .i64 0), .val (.slice none 0 0), .val (.slice none 0 0)]⟩])) (n0 := (n + 3)) ?_ ?_
 ·rcases Bool.eq_false_or_eq_true (a1.Kind != a0.List_) with c5 | c5
  ·replace hz2 := Zx c5 hz2
   refine Zc Zd [some false, some false, some false, some false] ?_
   simp only [push_cast, seval, ↓reduceIte, Za, c5, hN0, hN]
   have hz2 := Option.some.inj hz2; subst hz2
   refine And.intro rfl (Fit2.of (Zl hU rfl rfl ?_) (by omega))
   simp only [push_cast, seval, ↓reduceIte, Za, c5, hN0, hN]
  replace hz2 := Zy c5 hz2
  obtain ⟨y4, hy4, hz2⟩ := bC hz2
  refine Zc Zd [some true, some true, some true, some true] ?_
  simp only [push_cast, seval, ↓reduceIte, Za, c5, hN0, hN]
  refine (Zto hy4).then ?_
  simp only [push_cast, seval, ↓reduceIte, Za, c5, hN0, hN]
  have hz2 := Option.some.inj hz2; subst hz2
  refine And.intro rfl (Fit2.of (Zl hU rfl rfl ?_) (by omega))
  simp only [push_cast, seval, ↓reduceIte, Za, c5, hN0, hN]
 refine Zt (t := z2) rfl (fun c13 => ?_) (fun c13 => ?_)
 ·replace h := Zx c13 h
  refine Zo ?_
  refine Zc Zd [] ?_
  simp only [push_cast, seval, ↓reduceIte, Za, hN0, hN]
  refine Zm [4, 5] [false, false, true] ?_
  simp only [push_cast, seval, ↓reduceIte]
  refine Z6 ?_
  try simp only [Zn, Zj]
  have h := Option.some.inj h; subst h
  refine Zz (.inr rfl) hU [.agg [.val (.int .i64 0), .val (.slice none 0 0), .val (.slice none 0 0)], .val (.bool false)] (by omega) ?_
  simp only [push_cast, seval, ↓reduceIte, Za, Try.results95, hN0, hN]
 replace h := Zy c13 h
 refine Z3 ?_
 try simp only [Zn, Zj]
 refine Zm [2, 3, 4] [true, true, true] ?_
 simp only [push_cast, seval, ↓reduceIte]
 refine Zo ?_
 refine Zc Zd [] ?_
 simp only [push_cast, seval, ↓reduceIte, Za, hN0, hN]
 refine Zm [2, 3, 4, 6] [true, true, true, true] ?_
 simp only [push_cast, seval, ↓reduceIte]
 refine Zo ?_
 refine Zs [3, 4, 6, 25, 26, 27] (Zc Zd [] ?_)
 simp only [push_cast, seval, ↓reduceIte, Za, hN0, hN]
 refine Zm [3, 4, 6, 25, 26, 27] [false, true, true, true] ?_
 simp only [push_cast, seval, ↓reduceIte]
 refine Jd (E' := (⟨45, [], [(3, .ref (n + 1) 0), (4, .ref (n + 2) 0), (6, .ref (n + 3) 0), (25, .sl a0.Ops.length (fl Zf a0.Ops)), (26, .val (.int .i64 (a0.Ops.length : Int))), (27, .val (.int .i64 0))]⟩ : Env)) (O' := (Zu O n [none, some ⟨false, 25, 3, 1, (Ze a1)⟩, some ⟨false, 25, 3, 1, [.val (.int .i64 0), .val (.slice none 0 0), .val (.slice none 0 0)]⟩, some ⟨false, 139, 2, 1, [.sl a1.Kids.length (fl Zb a1.Kids), .row (n + 4) ([] : List S_api_Tree).length]⟩, some ⟨true, 25, 3, ([] : List S_api_Tree).length, fl Zb ([] : List S_api_Tree)⟩, none])) (n' := (n + 6)) ?_ ?_
 ·refine Fit2.trans (E' := (⟨45, [], [(3, .ref (n + 1) 0), (4, .ref (n + 2) 0), (6, .ref (n + 3) 0), (25, .sl a0.Ops.length (fl Zf a0.Ops)), (26, .val (.int .i64 (a0.Ops.length : Int))), (27, .val (.int .i64 0))]⟩ : Env)) (O' := (Zu O n [none, some ⟨false, 25, 3, 1, (Ze a1)⟩, some ⟨false, 25, 3, 1, [.val (.int .i64 0), .val (.slice none 0 0), .val (.slice none 0 0)]⟩, some ⟨false, 139, 2, 1, [.sl a1.Kids.length (fl Zb a1.Kids), .val (.slice none 0 0)]⟩])) (n' := (n + 4)) (Fit2.of (Zl hU rfl rfl ?_) (by omega)) ?_
  ·simp only [push_cast, seval, ↓reduceIte, Za, hN0, hN]
  refine Fit2.trans (E' := (⟨45, [], [(3, .ref (n + 1) 0), (4, .ref (n + 2) 0), (6, .ref (n + 3) 0), (25, .sl a0.Ops.length (fl Zf a0.Ops)), (26, .val (.int .i64 (a0.Ops.length : Int))), (27, .val (.int .i64 0))]⟩ : Env)) (O' := (Zu O n [none, some ⟨false, 25, 3, 1, (Ze a1)⟩, some ⟨false, 25, 3, 1, [.val (.int .i64 0), .val (.slice none 0 0), .val (.slice none 0 0)]⟩, some ⟨false, 139, 2, 1, [.sl a1.Kids.length (fl Zb a1.Kids), .row (n + 4) 0]⟩, some ⟨true, 25, 3, 0, []⟩])) (n' := (n + 5)) ?_ ?_
  ·have ha := Vo (ba := n) (E := (⟨45, [], [(3, .ref (n + 1) 0), (4, .ref (n + 2) 0), (6, .ref (n + 3) 0), (25, .sl a0.Ops.length (fl Zf a0.Ops)), (26, .val (.int .i64 (a0.Ops.length : Int))), (27, .val (.int .i64 0))]⟩ : Env)) (O := (Zu O n [none, some ⟨false, 25, 3, 1, [.val (.int .i64 a1.Kind), .sl a1.Words.length (fl (eI .u64) a1.Words), .sl a1.Kids.length (fl Zb a1.Kids)]⟩, some ⟨false, 25, 3, 1, [.val (.int .i64 0), .val (.slice none 0 0), .val (.slice none 0 0)]⟩, some ⟨false, 139, 2, 1, [.sl a1.Kids.length (fl Zb a1.Kids), .val (.slice none 0 0)]⟩])) (n := (n + 4)) (p := (n + 3)) (k := 1) (q := ⟨false, 139, 2, 1, [.sl a1.Kids.length (fl Zb a1.Kids), .val (.slice none 0 0)]⟩) 25 3 (by simp only [Vs, Zak, List.getElem?_cons_zero, List.getElem?_cons_succ, Option.join_some, Z8]) rfl (by omega)
   simp only [Y3, Yn, Un, Vb, List.set_cons_zero, List.set_cons_succ, List.cons_append, List.nil_append, List.length_cons, List.length_nil, Nat.zero_add, Nat.reduceAdd, Nat.reduceLT, Nat.add_assoc] at ha
   exact ha
  refine Fit2.trans (E' := (⟨45, [], [(3, .ref (n + 1) 0), (4, .ref (n + 2) 0), (6, .ref (n + 3) 0), (25, .sl a0.Ops.length (fl Zf a0.Ops)), (26, .val (.int .i64 (a0.Ops.length : Int))), (27, .val (.int .i64 0))]⟩ : Env)) (O' := (Zu O n [none, some ⟨false, 25, 3, 1, (Ze a1)⟩, some ⟨false, 25, 3, 1, [.val (.int .i64 0), .val (.slice none 0 0), .val (.slice none 0 0)]⟩, some ⟨false, 139, 2, 1, [.sl a1.Kids.length (fl Zb a1.Kids), .row (n + 4) ([] : List S_api_Tree).length]⟩, some ⟨true, 25, 3, ([] : List S_api_Tree).length, fl Zb ([] : List S_api_Tree)⟩])) (n' := (n + 5)) (Fit2.of (Zl hU rfl rfl ?_) (by omega)) ?_
  ·simp only [push_cast, seval, ↓reduceIte, Za, hN0, hN]
  refine Jv (k := 5) (k' := 6) hU [5, 1, 2, 3, 4] [0, 1, 2, 3, 4, 0] rfl rfl rfl rfl ⟨rfl, rfl⟩ ?_
  simp only [push_cast, seval, ↓reduceIte, Za, hN0, hN]
 obtain ⟨z12, hz12, h⟩ := bC h
 refine Zcf (J := (Jb (fun z12 => JR n (⟨45, [], [(4, .ref (n + 2) 0), (5, .val (.bool false))]⟩ : Env) (Zu O n [none, none, some ⟨false, 25, 3, 1, [.val (.int .i64 0), .val (.slice none 0 0), .val (.slice none 0 0)]⟩, none]) (n + 4)) (fun z12 => JX 0 n (⟨45, [], [(3, .ref (n + 1) 0), (4, .ref (n + 2) 0), (6, .ref (n + 3) 0)]⟩ : Env) (Zu O n [none, some ⟨false, 25, 3, 1, (Ze a1)⟩, some ⟨false, 25, 3, 1, [.val (.int .i64 0), .val (.slice none 0 0), .val (.slice none 0 0)]⟩, some ⟨false, 139, 2, 1, [.sl z12.1.length (fl Zb z12.1), .row (n + 4) z12.2.length]⟩, some ⟨true, 25, 3, z12.2.length, fl Zb z12.2⟩, none]) (n + 6)))) (z := z12) ?_ fun hw => ?_
 ·refine Xa hz12 (fun s0_ => ⟨45, [], [(3, .ref (n + 1) 0), (4, .ref (n + 2) 0), (6, .ref (n + 3) 0), (25, .sl a0.Ops.length (fl Zf a0.Ops)), (26, .val (.int .i64 (a0.Ops.length : Int))), (27, .val (.int .i64 s0_.1))]⟩) (fun s0_ => (Zu O n [none, some ⟨false, 25, 3, 1, (Ze a1)⟩, some ⟨false, 25, 3, 1, [.val (.int .i64 0), .val (.slice none 0 0), .val (.slice none 0 0)]⟩, some ⟨false, 139, 2, 1, [.sl s0_.2.1.length (fl Zb s0_.2.1), .row (n + 4) s0_.2.2.length]⟩, some ⟨true, 25, 3, s0_.2.2.length, fl Zb s0_.2.2⟩, none])) (Jb (fun z12 => JR n (⟨45, [], [(4, .ref (n + 2) 0), (5, .val (.bool false))]⟩ : Env) (Zu O n [none, none, some ⟨false, 25, 3, 1, [.val (.int .i64 0), .val (.slice none 0 0), .val (.slice none 0 0)]⟩, none]) (n + 4)) (fun z12 => JX 0 n (⟨45, [], [(3, .ref (n + 1) 0), (4, .ref (n + 2) 0), (6, .ref (n + 3) 0)]⟩ : Env) (Zu O n [none, some ⟨false, 25, 3, 1, (Ze a1)⟩, some ⟨false, 25, 3, 1, [.val (.int .i64 0), .val (.slice none 0 0), .val (.slice none 0 0)]⟩, some ⟨false, 139, 2, 1, [.sl z12.1.length (fl Zb z12.1), .row (n + 4) z12.2.length]⟩, some ⟨true, 25, 3, z12.2.length, fl Zb z12.2⟩, none]) (n + 6))) ?_
  intro s0_ x0_ hs0_
  unfold Jr at hs0_
  try dsimp only
  refine Zs [3, 4, 6, 25, 26, 27, 28] (Zc Zd [] ?_)
  simp only [push_cast, seval, ↓reduceIte, Za, hN0, hN]
  refine Zo ?_
  refine Zt (t := (decide (s0_.1 < (a0.Ops.length : Int)))) rfl (fun c11 => ?_) (fun c11 => ?_)
  ·replace hs0_ := Zx c11 hs0_
   refine Z3 ?_
   try simp only [Zn, Zj]
   refine Zm [3, 4, 6, 25, 26, 27] [false, true, true, true, true, false] ?_
   simp only [push_cast, seval, ↓reduceIte]
   refine Zo ?_
   refine Yw ?_
   refine Zo ?_
   obtain ⟨x7, hx7, ax7, bx7, cx7, hs0_⟩ := bE (f := Zf) Zc6 (fun _ => rfl) (by decide) hs0_
   refine Zc Zd [] ?_
   simp only [push_cast, Nat.reduceAdd, Nat.reduceSub, Nat.reduceMul, Nat.reduceLeDiff, Nat.reduceLT, Nat.reduceEqDiff, ↓reduceIte, reduceCtorEq, Int.reduceBEq, Int.reduceBNe, Nat.reduceBEq, Int.reduceLE, Int.reduceLT, Int.reduceEq, Int.reduceNe, Int.reduceNeg, Nat.reduceDiv, Nat.reduceMod, Nat.reducePow, Za, ax7, bx7, cx7, hN0, hN]
   refine Zm [3, 4, 6, 8, 25, 26, 27] [false, true, true, true, true, false, true] ?_
   simp only [push_cast, seval, ↓reduceIte]
   refine Zo ?_
   obtain ⟨y9, hy9, hs0_⟩ := bC hs0_
   refine Zc Zd [] ?_
   simp only [push_cast, seval, ↓reduceIte, Za, hN0, hN]
   refine (Jk (i0 := (n + 3)) (Zw := (n + 4)) (by omega) (by omega) (by omega) (by simp only [push_cast, seval, ↓reduceIte, Za, Y5, hN0, hN] <;> rfl) (by simp only [push_cast, seval, ↓reduceIte, Za, Y5, hN0, hN] <;> rfl) hy9).then ?_
   simp only [push_cast, seval, ↓reduceIte, Za, hN0, hN]
   refine Zm [3, 4, 6, 25, 26, 27, 33] [false, true, true, true, false, false, false, true] ?_
   simp only [push_cast, seval, ↓reduceIte]
   refine Zt (t := (!y9.1)) rfl (fun c10 => ?_) (fun c10 => ?_)
   ·replace hs0_ := Zx c10 hs0_
    refine Zo ?_
    refine Zc Zd [] ?_
    simp only [push_cast, seval, ↓reduceIte, Za, hN0, hN]
    refine Zm [4, 5] [false, false, true, false, false, false, false, false] ?_
    simp only [push_cast, seval, ↓reduceIte]
    refine Z6 ?_
    try simp only [Zn, Zj]
    have hs0_ := Option.some.inj hs0_; subst hs0_
    refine And.intro (fun h => by cases h) (And.intro rfl (Fit2.of (Zl hU rfl rfl ?_) (by omega)))
    simp only [push_cast, seval, ↓reduceIte, Za, hN0, hN]
   replace hs0_ := Zy c10 hs0_
   refine Z3 ?_
   try simp only [Zn, Zj]
   refine Zm [3, 4, 6, 25, 26, 27] [false, true, true, true, false, false, false, true] ?_
   simp only [push_cast, seval, ↓reduceIte]
   refine Zc Zd [] ?_
   simp only [push_cast, seval, ↓reduceIte, Za, hN0, hN]
   have hs0_ := Option.some.inj hs0_; subst hs0_
   refine And.intro rfl ?_
   refine Fit2.trans (E' := (⟨45, [], [(3, .ref (n + 1) 0), (4, .ref (n + 2) 0), (6, .ref (n + 3) 0), (25, .sl a0.Ops.length (fl Zf a0.Ops)), (26, .val (.int .i64 (a0.Ops.length : Int))), (27, .val (.int .i64 (IntKind.i64.wrap (s0_.1 + 1))))]⟩ : Env)) (O' := (Zu O n [none, some ⟨false, 25, 3, 1, (Ze a1)⟩, some ⟨false, 25, 3, 1, [.val (.int .i64 0), .val (.slice none 0 0), .val (.slice none 0 0)]⟩, some ⟨false, 139, 2, 1, [.sl y9.2.left.length (fl Zb y9.2.left), .row (n + 7) y9.2.out.length]⟩, none, none, none, some ⟨true, 25, 3, y9.2.out.length, fl Zb y9.2.out⟩])) (n' := (n + 8)) (Fit2.of (Zl hU rfl rfl ?_) (by omega)) ?_
   ·simp only [push_cast, seval, ↓reduceIte, Za, hN0, hN]
   refine Jv (k := 8) (k' := 6) hU [5, 1, 2, 3, 5, 5, 5, 4] [0, 1, 2, 3, 7, 0] rfl rfl rfl rfl ⟨rfl, rfl⟩ ?_
   simp only [push_cast, seval, ↓reduceIte, Za, hN0, hN]
  replace hs0_ := Zy c11 hs0_
  refine Xw ?_
  try simp only [Zn, Zj, ↓reduceIte, Nat.reduceEqDiff]
  have hs0_ := Option.some.inj hs0_; subst hs0_
  refine And.intro (fun h => by cases h) (And.intro rfl (Fit2.of (Zl hU rfl rfl ?_) (by omega)))
  simp only [push_cast, seval, ↓reduceIte, Za, hN0, hN]
 rcases z12 with z12 | z12
 ·dsimp only [Jb] at hw h
  refine Uh hw ?_
  try simp only [Zn, Zj, ↓reduceIte, Nat.reduceEqDiff]
  have h := Option.some.inj h; subst h
  refine Zz (.inr rfl) hU [.agg [.val (.int .i64 0), .val (.slice none 0 0), .val (.slice none 0 0)], .val (.bool false)] (by omega) ?_
  simp only [push_cast, seval, ↓reduceIte, Za, Try.results95, hN0, hN]
 dsimp only [Jb] at hw h
 refine Yy hw ?_
 try simp only [Zn, Zj, ↓reduceIte, Nat.reduceEqDiff]
 refine Zm [3, 4, 6] [false, true, true, true, true, false] ?_
 simp only [push_cast, seval, ↓reduceIte]
 refine Zo ?_
 refine Zal Zd (by kernel_rfl) [.plain, .plain, .plain, .plain, .plain, .low, .low, .low, .low, .pass, .plain] (fun i => i ≠ n + 2) [0, 1, 2, 3, 4, 5, 6, 7, 8, 9, 10] [.plain, .plain, .plain, .plain, .plain, .low, .low, .low, .low, .pass, .plain] [] (by kernel_rfl) rfl ?_
 simp only [push_cast, seval, ↓reduceIte, Za, hN0, hN]
 repeat (with_reducible refine And.intro (by first | omega | exact Yv rfl | exact Yk | exact Qj rfl rfl) ?_)
 refine Zm [4, 5] [false, false, true, false, true, false] ?_
 simp only [push_cast, seval, ↓reduceIte]
 refine Z6 ?_
 try simp only [Zn, Zj]
 have h := Option.some.inj h; subst h
 refine Zz (.inr rfl) hU [.agg [.val (.int .i64 a1.Kind), .val (.slice none 0 0), .row (n + 4) z12.2.length], .val (.bool ((z12.1.length : Int) == 0))] (by omega) ?_
 simp only [push_cast, seval, ↓reduceIte, Za, Try.results95, hN0, hN]
theorem Zhq {Yz : (S_api_Edit → S_api_Tree → Option (S_api_Tree × Bool))} {Yc : (S_api_Edit → S_api_Tree → Option (S_api_Tree × Bool))} {Y6 : (S_api_Edit → S_api_Tree → Option (S_api_Tree × Bool))} {Z5 : (Zi → S_api_Op → Option (Bool × Zi))} {Z4 : (Zi → S_api_Edit → Option (Bool × Zi))} (Js : ∀ {a0 : S_api_Edit} {a1 : S_api_Tree} {r : (S_api_Tree × Bool)} {O : Objs} {n : Nat}, Yz a0 a1 = some r → GTo Try.prog 58 [.agg (Zg a0), .agg (Ze a1)] O n (.tup [.agg (Ze r.1), .val (.bool r.2)]) O n) (Ko : ∀ {a0 : S_api_Edit} {a1 : S_api_Tree} {r : (S_api_Tree × Bool)} {O : Objs} {n : Nat}, Yc a0 a1 = some r → GTo Try.prog 94 [.agg (Zg a0), .agg (Ze a1)] O n (.tup [.agg (Ze r.1), .val (.bool r.2)]) O n) (Gr : ∀ {a0 : S_api_Edit} {a1 : S_api_Tree} {r : (S_api_Tree × Bool)} {O : Objs} {n : Nat}, Y6 a0 a1 = some r → GTo Try.prog 95 [.agg (Zg a0), .agg (Ze a1)] O n (.tup [.agg (Ze r.1), .val (.bool r.2)]) O n) (Jk : ∀ {a0 : Zi} {a1 : S_api_Op} {r : (Bool × Zi)} {O : Objs} {n : Nat} {i0 Zw : Nat}, i0 < n → Zw < n → i0 ≠ Zw → O i0 = some ⟨false, 139, 2, 1, [.sl a0.left.length (fl Zb a0.left), .row Zw a0.out.length]⟩ → O Zw = some ⟨true, 25, 3, a0.out.length, fl Zb a0.out⟩ → Z5 a0 a1 = some r → GTo Try.prog 122 [.ref i0 0, .agg (Yo a1)] O n (.val (.bool r.1)) (Zu ((O.upd Zw none).upd i0 (some ⟨false, 139, 2, 1, [.sl r.2.left.length (fl Zb r.2.left), .row n r.2.out.length]⟩)) n [some ⟨true, 25, 3, r.2.out.length, fl Zb r.2.out⟩]) (n + 1)) (Qk : ∀ {a0 : Zi} {a1 : S_api_Edit} {r : (Bool × Zi)} {O : Objs} {n : Nat} {i0 Zw : Nat}, i0 < n → Zw < n → i0 ≠ Zw → O i0 = some ⟨false, 139, 2, 1, [.sl a0.left.length (fl Zb a0.left), .row Zw a0.out.length]⟩ → O Zw = some ⟨true, 25, 3, a0.out.length, fl Zb a0.out⟩ → Z4 a0 a1 = some r → GTo Try.prog 129 [.ref i0 0, .agg (Zg a1)] O n (.val (.bool r.1)) (Zu ((O.upd Zw none).upd i0 (some ⟨false, 139, 2, 1, [.sl r.2.left.length (fl Zb r.2.left), .row n r.2.out.length]⟩)) n [some ⟨true, 25, 3, r.2.out.length, fl Zb r.2.out⟩]) (n + 1)) {a0 : Zi} {a1 : S_api_Op} {r : (Bool × Zi)} {O : Objs} {n : Nat} {i0 Zw : Nat} (hi0 : i0 < n) (Va : Zw < n) (Q0 : i0 ≠ Zw) (ho0 : O i0 = some ⟨false, 139, 2, 1, [.sl a0.left.length (fl Zb a0.left), .row Zw a0.out.length]⟩) (Vc : O Zw = some ⟨true, 25, 3, a0.out.length, fl Zb a0.out⟩) (h : K3 Yz Yc Y6 Z5 Z4 a0 a1 = some r) : GTo Try.prog 122 [.ref i0 0, .agg (Yo a1)] O n (.val (.bool r.1)) (Zu ((O.upd Zw none).upd i0 (some ⟨false, 139, 2, 1, [.sl r.2.left.length (fl Zb r.2.left), .row n r.2.out.length]⟩)) n [some ⟨true, 25, 3, r.2.out.length, fl Zb r.2.out⟩]) (n + 1) := by
 unfold K3 at h
 refine Xf Zd Try.call122 Try.func122 rfl (Nat.le_of_ble_eq_true rfl) (by omega) fun hU => ?_
 have e0 := Q5 (ba := n) (E := ⟨99, [], Zc3 0 [.ref i0 0, .agg [.val (.int .i64 a1.Kind), .val (.int .i64 a1.N), .sl a1.L.length (fl Zb a1.L), .val (.int .i64 a1.E.Kind), .val (.int .i64 a1.E.Old.Kind), .sl a1.E.Old.Words.length (fl (eI .u64) a1.E.Old.Words), .sl a1.E.Old.Kids.length (fl Zb a1.E.Old.Kids), .val (.int .i64 a1.E.New.Kind), .sl a1.E.New.Words.length (fl (eI .u64) a1.E.New.Words), .sl a1.E.New.Kids.length (fl Zb a1.E.New.Kids), .sl a1.E.Words.length (fl Zh a1.E.Words), .sl a1.E.Kids.length (fl Zk a1.E.Kids), .val (.int .i64 a1.E.List_), .sl a1.E.Ops.length (fl Zf a1.E.Ops)]]⟩) (O := (Zu O n [])) (n := n) (i := i0) (j := Zw) (k := 1) (len := a0.out.length) (q := ⟨false, 139, 2, 1, [.sl a0.left.length (fl Zb a0.left), .row Zw a0.out.length]⟩) (qj := ⟨true, 25, 3, a0.out.length, fl Zb a0.out⟩) (by rw [Yh _ hi0]; first | exact ho0 | exact Z8 _ _ _) rfl (by rw [Yh _ Va]; exact Vc) Q0 (by omega)
 simp only [Ym _ _ Va, Ym _ _ hi0, Y3, Yn, Xy, Uv Q0, List.set_cons_zero, List.set_cons_succ, List.cons_append, List.nil_append, List.length_cons, List.length_nil, Nat.zero_add, Nat.reduceAdd, Nat.add_assoc] at e0
 refine Jd e0 ?_
 have hU := (Und.drop hU Zw)
 have hk0 : ∀ k, i0 < n + k := fun k => by omega
 have hN0 : ∀ o, Objs.upd (O.upd Zw none) i0 o n = none := fun o => Qv hU hi0 _ (Nat.le_refl _)
 have hN : ∀ o k, Objs.upd (O.upd Zw none) i0 o (n + k) = none := fun o k => Qv hU hi0 _ (Nat.le_add_right _ _)
 show W _ _ _ _ ⟨99, [], [(0, .ref i0 0), (1, .agg (Yo a1))]⟩ (Zu ((O.upd Zw none).upd i0 (some ⟨false, 139, 2, 1, [.sl a0.left.length (fl Zb a0.left), .row n a0.out.length]⟩)) n [some ⟨true, 25, 3, a0.out.length, fl Zb a0.out⟩]) _
 refine Zs [0, 3] (Zc Zd [] ?_)
 simp only [push_cast, seval, ↓reduceIte, Za, hi0, hk0, hN0, hN]
 refine Zo ?_
 refine Zs [0, 3, 7] (Zc Zd [] ?_)
 simp only [push_cast, seval, ↓reduceIte, Za, hi0, hk0, hN0, hN]
 refine Yw ?_
 refine Zs [0, 3, 7, 8] (Zc Zd [] ?_)
 simp only [push_cast, seval, ↓reduceIte, Za, hi0, hk0, hN0, hN]
 refine Zt (t := (a1.Kind == 0)) rfl (fun c28 => ?_) (fun c28 => ?_)
 ·replace h := Zx c28 h
  refine Zo ?_
  obtain ⟨z1, hz1, h⟩ := bC h
  refine Y8 (E' := ⟨99, [], [(0, .ref i0 0), (3, .ref (n + 1) 0), (22, .val (.bool z1))]⟩) (O' := (Zu ((O.upd Zw none).upd i0 (some ⟨false, 139, 2, 1, [.sl a0.left.length (fl Zb a0.left), .row n a0.out.length]⟩)) n [some ⟨true, 25, 3, a0.out.length, fl Zb a0.out⟩, some ⟨false, 69, 14, 1, (Yo a1)⟩])) (n0 := (n + 2)) ?_ ?_
  ·rcases Bool.eq_false_or_eq_true (decide (a1.N < 0)) with c2 | c2
   ·replace hz1 := Zx c2 hz1
    refine Q2 Zd (by kernel_rfl) [some false, some false, some false, some false, some false, some false, some false, some false] (by kernel_rfl) ?_
    simp only [push_cast, seval, ↓reduceIte, Za, c2, hi0, hk0, hN0, hN]
    have hz1 := Option.some.inj hz1; subst hz1
    refine And.intro rfl (Fit2.of (Yb hU rfl rfl ?_) (by omega))
    simp only [push_cast, seval, ↓reduceIte, Za, c2, hi0, hk0, hN0, hN]
   replace hz1 := Zy c2 hz1
   refine Q2 Zd (by kernel_rfl) [some true, some true, some true, some true, some true, some true, some true, some true] (by kernel_rfl) ?_
   simp only [push_cast, seval, ↓reduceIte, Za, c2, hi0, hk0, hN0, hN]
   have hz1 := Option.some.inj hz1; subst hz1
   refine And.intro rfl (Fit2.of (Yb hU rfl rfl ?_) (by omega))
   simp only [push_cast, seval, ↓reduceIte, Za, c2, hi0, hk0, hN0, hN]
  refine Zt (t := z1) rfl (fun c9 => ?_) (fun c9 => ?_)
  ·replace h := Zx c9 h
   refine Zs [4] (Zc Zd [] ?_)
   simp only [push_cast, seval, ↓reduceIte, Za, hi0, hk0, hN0, hN]
   refine Z6 ?_
   try simp only [Zn, Zj]
   have h := Option.some.inj h; subst h
   refine Jo (k := 1) (i := i0) (q1 := ⟨false, 139, 2, 1, [.sl a0.left.length (fl Zb a0.left), .row n a0.out.length]⟩) (L3 := [some ⟨true, 25, 3, a0.out.length, fl Zb a0.out⟩, none]) (E2 := (⟨99, [], [(4, .val (.bool false))]⟩ : Env)) (n3 := (n + 2)) (.inr rfl) hU rfl [.val (.bool false)] ?_ ?_
   ·refine Fit2.trans (E' := (⟨99, [], [(4, .val (.bool false))]⟩ : Env)) (O' := (Zu ((O.upd Zw none).upd i0 (some ⟨false, 139, 2, 1, [.sl a0.left.length (fl Zb a0.left), .row n a0.out.length]⟩)) n [some ⟨true, 25, 3, a0.out.length, fl Zb a0.out⟩, none])) (n' := (n + 2)) (Fit2.of (Yb hU rfl rfl ?_) (by omega)) ?_
    ·simp only [push_cast, seval, ↓reduceIte, Za, hi0, hk0, hN0, hN]
    refine X0 (k := 2) (k' := 2) hU [0, 1] [0, 0] rfl rfl rfl rfl ⟨rfl, rfl⟩ ?_
    simp only [push_cast, seval, ↓reduceIte, Za, hi0, hk0, hN0, hN]
   simp only [push_cast, seval, ↓reduceIte, Za, Try.results122, hi0, hk0, hN0, hN]
  replace h := Zy c9 h
  refine Z3 ?_
  try simp only [Zn, Zj]
  refine Zm [0, 3] [true, true] ?_
  simp only [push_cast, seval, ↓reduceIte]
  refine Zo ?_
  obtain ⟨l5, al5, bl5, cl5, gl5, h⟩ := bS (lo := none) (hi := (some (.i64, a1.N))) (f := Zb) rfl rfl Zcv Vq (fun _ => rfl) h
  obtain ⟨l6, pl6, ql6, el6, h⟩ := bA (k := l5.length) rfl h
  refine Zdr Zd (by kernel_rfl) [false, false, false, false, false, false, false, false, false, false, false, false, true, false, false, true] [] (by kernel_rfl) ?_
  simp only [push_cast, seval, ↓reduceIte, Za, al5, bl5, cl5, gl5, pl6, ql6, el6, hi0, hk0, hN0, hN]
  refine Zea ⟨99, [], [(0, .ref i0 0), (3, .ref (n + 1) 0)]⟩ (Zu ((O.upd Zw none).upd i0 (some ⟨false, 139, 2, 1, [.sl a0.left.length (fl Zb a0.left), .row n l6.length]⟩)) n [some ⟨true, 25, 3, l6.length, fl Zb l6⟩, some ⟨false, 69, 14, 1, (Yo a1)⟩]) (Yb hU rfl rfl ?_) ?_
  ·simp only [push_cast, seval, ↓reduceIte, Za, al5, bl5, cl5, gl5, pl6, ql6, el6, hi0, hk0, hN0, hN]
  refine Zo ?_
  obtain ⟨l8, al8, bl8, cl8, gl8, h⟩ := bS (lo := (some (.i64, a1.N))) (hi := none) (f := Zb) rfl rfl Zcv Vq (fun _ => rfl) h
  refine Zdr Zd (by kernel_rfl) [false, false, false, false, false, false, false, false, false, false, true] [] (by kernel_rfl) ?_
  simp only [push_cast, seval, ↓reduceIte, Za, al8, bl8, cl8, gl8, hi0, hk0, hN0, hN]
  refine Zm [] [true, false] ?_
  simp only [push_cast, seval, ↓reduceIte]
  refine Zs [4] (Zc Zd [] ?_)
  simp only [push_cast, seval, ↓reduceIte, Za, hi0, hk0, hN0, hN]
  refine Z6 ?_
  try simp only [Zn, Zj]
  have h := Option.some.inj h; subst h
  refine Jo (k := 1) (i := i0) (q1 := ⟨false, 139, 2, 1, [.sl l8.length (fl Zb l8), .row n l6.length]⟩) (L3 := [some ⟨true, 25, 3, l6.length, fl Zb l6⟩, none]) (E2 := (⟨99, [], [(4, .val (.bool true))]⟩ : Env)) (n3 := (n + 2)) (.inr rfl) hU rfl [.val (.bool true)] ?_ ?_
  ·refine Fit2.trans (E' := (⟨99, [], [(4, .val (.bool true))]⟩ : Env)) (O' := (Zu ((O.upd Zw none).upd i0 (some ⟨false, 139, 2, 1, [.sl l8.length (fl Zb l8), .row n l6.length]⟩)) n [some ⟨true, 25, 3, l6.length, fl Zb l6⟩, none])) (n' := (n + 2)) (Fit2.of (Yb hU rfl rfl ?_) (by omega)) ?_
   ·simp only [push_cast, seval, ↓reduceIte, Za, hi0, hk0, hN0, hN]
   refine X0 (k := 2) (k' := 2) hU [0, 1] [0, 0] rfl rfl rfl rfl ⟨rfl, rfl⟩ ?_
   simp only [push_cast, seval, ↓reduceIte, Za, hi0, hk0, hN0, hN]
  simp only [push_cast, seval, ↓reduceIte, Za, Try.results122, hi0, hk0, hN0, hN]
 replace h := Zy c28 h
 refine Zs [0, 3, 7, 48] (Zc Zd [] ?_)
 simp only [push_cast, seval, ↓reduceIte, Za, hi0, hk0, hN0, hN]
 refine Zt (t := (a1.Kind == 1)) rfl (fun c27 => ?_) (fun c27 => ?_)
 ·replace h := Zx c27 h
  refine Zs [0, 3, 5] (Zc Zd [] ?_)
  simp only [push_cast, seval, ↓reduceIte, Za, hi0, hk0, hN0, hN]
  refine Zo ?_
  obtain ⟨z12, hz12, h⟩ := bC h
  refine Y8 (E' := ⟨99, [], [(0, .ref i0 0), (5, .val (.int .i64 (a1.L.length : Int))), (71, .val (.bool z12))]⟩) (O' := (Zu ((O.upd Zw none).upd i0 (some ⟨false, 139, 2, 1, [.sl a0.left.length (fl Zb a0.left), .row n a0.out.length]⟩)) n [some ⟨true, 25, 3, a0.out.length, fl Zb a0.out⟩, none])) (n0 := (n + 2)) ?_ ?_
  ·rcases Bool.eq_false_or_eq_true (decide ((a0.left.length : Int) < (a1.L.length : Int))) with c17 | c17
   ·replace hz12 := Zx c17 hz12
    refine Q2 Zd (by kernel_rfl) [some false, some false, some false, some false, some false, some false, some false, some false, some false, some false] (by kernel_rfl) ?_
    simp only [push_cast, seval, ↓reduceIte, Za, c17, hi0, hk0, hN0, hN]
    have hz12 := Option.some.inj hz12; subst hz12
    refine And.intro rfl (Fit2.of (Yb hU rfl rfl ?_) (by omega))
    simp only [push_cast, seval, ↓reduceIte, Za, c17, hi0, hk0, hN0, hN]
   replace hz12 := Zy c17 hz12
   obtain ⟨l15, al15, bl15, cl15, gl15, hz12⟩ := bS (lo := none) (hi := (some (.i64, (a1.L.length : Int)))) (f := Zb) rfl rfl Zcv Vq (fun _ => rfl) hz12
   obtain ⟨y16, hy16, hz12⟩ := bC hz12
   refine Q2 Zd (by kernel_rfl) [some true, some true, some true, some true, some true, some true, some true, some true, some true, some true] (by kernel_rfl) ?_
   simp only [push_cast, seval, ↓reduceIte, Za, c17, al15, bl15, cl15, gl15, hi0, hk0, hN0, hN]
   refine PCall.of (J0 hy16) ?_
   simp only [push_cast, seval, ↓reduceIte, Za, c17, al15, bl15, cl15, gl15, hi0, hk0, hN0, hN]
   have hz12 := Option.some.inj hz12; subst hz12
   refine And.intro rfl (Fit2.of (Yb hU rfl rfl ?_) (by omega))
   simp only [push_cast, seval, ↓reduceIte, Za, c17, al15, bl15, cl15, gl15, hi0, hk0, hN0, hN]
  refine Zt (t := z12) rfl (fun c20 => ?_) (fun c20 => ?_)
  ·replace h := Zx c20 h
   refine Zs [4] (Zc Zd [] ?_)
   simp only [push_cast, seval, ↓reduceIte, Za, hi0, hk0, hN0, hN]
   refine Z6 ?_
   try simp only [Zn, Zj]
   have h := Option.some.inj h; subst h
   refine Jo (k := 1) (i := i0) (q1 := ⟨false, 139, 2, 1, [.sl a0.left.length (fl Zb a0.left), .row n a0.out.length]⟩) (L3 := [some ⟨true, 25, 3, a0.out.length, fl Zb a0.out⟩, none]) (E2 := (⟨99, [], [(4, .val (.bool false))]⟩ : Env)) (n3 := (n + 2)) (.inr rfl) hU rfl [.val (.bool false)] ?_ ?_
   ·refine Fit2.trans (E' := (⟨99, [], [(4, .val (.bool false))]⟩ : Env)) (O' := (Zu ((O.upd Zw none).upd i0 (some ⟨false, 139, 2, 1, [.sl a0.left.length (fl Zb a0.left), .row n a0.out.length]⟩)) n [some ⟨true, 25, 3, a0.out.length, fl Zb a0.out⟩, none])) (n' := (n + 2)) (Fit2.of (Yb hU rfl rfl ?_) (by omega)) ?_
    ·simp only [push_cast, seval, ↓reduceIte, Za, hi0, hk0, hN0, hN]
    refine X0 (k := 2) (k' := 2) hU [0, 1] [0, 0] rfl rfl rfl rfl ⟨rfl, rfl⟩ ?_
    simp only [push_cast, seval, ↓reduceIte, Za, hi0, hk0, hN0, hN]
   simp only [push_cast, seval, ↓reduceIte, Za, Try.results122, hi0, hk0, hN0, hN]
  replace h := Zy c20 h
  refine Z3 ?_
  try simp only [Zn, Zj]
  refine Zm [0, 5] [true, false] ?_
  simp only [push_cast, seval, ↓reduceIte]
  refine Zo ?_
  obtain ⟨l19, al19, bl19, cl19, gl19, h⟩ := bS (lo := (some (.i64, (a1.L.length : Int)))) (hi := none) (f := Zb) rfl rfl Zcv Vq (fun _ => rfl) h
  refine Zc Zd [] ?_
  simp only [push_cast, seval, ↓reduceIte, Za, al19, bl19, cl19, gl19, hi0, hk0, hN0, hN]
  refine Zm [] [true, false] ?_
  simp only [push_cast, seval, ↓reduceIte]
  refine Zs [4] (Zc Zd [] ?_)
  simp only [push_cast, seval, ↓reduceIte, Za, hi0, hk0, hN0, hN]
  refine Z6 ?_
  try simp only [Zn, Zj]
  have h := Option.some.inj h; subst h
  refine Jo (k := 1) (i := i0) (q1 := ⟨false, 139, 2, 1, [.sl l19.length (fl Zb l19), .row n a0.out.length]⟩) (L3 := [some ⟨true, 25, 3, a0.out.length, fl Zb a0.out⟩, none]) (E2 := (⟨99, [], [(4, .val (.bool true))]⟩ : Env)) (n3 := (n + 2)) (.inr rfl) hU rfl [.val (.bool true)] ?_ ?_
  ·refine Fit2.trans (E' := (⟨99, [], [(4, .val (.bool true))]⟩ : Env)) (O' := (Zu ((O.upd Zw none).upd i0 (some ⟨false, 139, 2, 1, [.sl l19.length (fl Zb l19), .row n a0.out.length]⟩)) n [some ⟨true, 25, 3, a0.out.length, fl Zb a0.out⟩, none])) (n' := (n + 2)) (Fit2.of (Yb hU rfl rfl ?_) (by omega)) ?_
   ·simp only [push_cast, seval, ↓reduceIte, Za, hi0, hk0, hN0, hN]
   refine X0 (k := 2) (k' := 2) hU [0, 1] [0, 0] rfl rfl rfl rfl ⟨rfl, rfl⟩ ?_
   simp only [push_cast, seval, ↓reduceIte, Za, hi0, hk0, hN0, hN]
  simp only [push_cast, seval, ↓reduceIte, Za, Try.results122, hi0, hk0, hN0, hN]
 replace h := Zy c27 h
 refine Zs [0, 3, 7, 81] (Zc Zd [] ?_)
 simp only [push_cast, seval, ↓reduceIte, Za, hi0, hk0, hN0, hN]
 refine Zt (t := (a1.Kind == 2)) rfl (fun c26 => ?_) (fun c26 => ?_)
 ·replace h := Zx c26 h
  refine Zo ?_
  obtain ⟨l22, pl22, ql22, el22, h⟩ := bA (k := a1.L.length) rfl h
  refine Zdr Zd (by kernel_rfl) [false, false, false, false, false, false, false, true, false, false, true] [] (by kernel_rfl) ?_
  simp only [push_cast, seval, ↓reduceIte, Za, pl22, ql22, el22, hi0, hk0, hN0, hN]
  refine Zea ⟨99, [], []⟩ (Zu ((O.upd Zw none).upd i0 (some ⟨false, 139, 2, 1, [.sl a0.left.length (fl Zb a0.left), .row n l22.length]⟩)) n [some ⟨true, 25, 3, l22.length, fl Zb l22⟩, none]) (Yb hU rfl rfl ?_) ?_
  ·simp only [push_cast, seval, ↓reduceIte, Za, pl22, ql22, el22, hi0, hk0, hN0, hN]
  refine Zs [4] (Zc Zd [] ?_)
  simp only [push_cast, seval, ↓reduceIte, Za, hi0, hk0, hN0, hN]
  refine Z6 ?_
  try simp only [Zn, Zj]
  have h := Option.some.inj h; subst h
  refine Jo (k := 1) (i := i0) (q1 := ⟨false, 139, 2, 1, [.sl a0.left.length (fl Zb a0.left), .row n l22.length]⟩) (L3 := [some ⟨true, 25, 3, l22.length, fl Zb l22⟩, none]) (E2 := (⟨99, [], [(4, .val (.bool true))]⟩ : Env)) (n3 := (n + 2)) (.inr rfl) hU rfl [.val (.bool true)] ?_ ?_
  ·refine Fit2.trans (E' := (⟨99, [], [(4, .val (.bool true))]⟩ : Env)) (O' := (Zu ((O.upd Zw none).upd i0 (some ⟨false, 139, 2, 1, [.sl a0.left.length (fl Zb a0.left), .row n l22.length]⟩)) n [some ⟨true, 25, 3, l22.length, fl Zb l22⟩, none])) (n' := (n + 2)) (Fit2.of (Yb hU rfl rfl ?_) (by omega)) ?_
   ·simp only [push_cast, seval, ↓reduceIte, Za, hi0, hk0, hN0, hN]
   refine X0 (k := 2) (k' := 2) hU [0, 1] [0, 0] rfl rfl rfl rfl ⟨rfl, rfl⟩ ?_
   simp only [push_cast, seval, ↓reduceIte, Za, hi0, hk0, hN0, hN]
  simp only [push_cast, seval, ↓reduceIte, Za, Try.results122, hi0, hk0, hN0, hN]
 replace h := Zy c26 h
 refine Zs [0, 3, 93] (Zc Zd [] ?_)
 simp only [push_cast, seval, ↓reduceIte, Za, hi0, hk0, hN0, hN]
 refine Zt (t := (a1.Kind == 3)) rfl (fun c25 => ?_) (fun c25 => ?_)
 ·replace h := Zx c25 h
  refine Zo ?_
  obtain ⟨y24, hy24, h⟩ := bC h
  refine Zc Zd [] ?_
  simp only [push_cast, seval, ↓reduceIte, Za, hi0, hk0, hN0, hN]
  refine (Qk (i0 := i0) (Zw := n) (by omega) (by omega) (by omega) (by simp only [push_cast, seval, ↓reduceIte, Za, Y5, hi0, hk0, hN0, hN] <;> rfl) (by simp only [push_cast, seval, ↓reduceIte, Za, Y5, hi0, hk0, hN0, hN] <;> rfl) hy24).then ?_
  simp only [push_cast, seval, ↓reduceIte, Za, hi0, hk0, hN0, hN]
  refine Zm [4] [false, false, true] ?_
  simp only [push_cast, seval, ↓reduceIte]
  refine Z6 ?_
  try simp only [Zn, Zj]
  have h := Option.some.inj h; subst h
  refine Jo (k := 1) (i := i0) (q1 := ⟨false, 139, 2, 1, [.sl y24.2.left.length (fl Zb y24.2.left), .row n y24.2.out.length]⟩) (L3 := [some ⟨true, 25, 3, y24.2.out.length, fl Zb y24.2.out⟩, none]) (E2 := (⟨99, [], [(4, .val (.bool y24.1))]⟩ : Env)) (n3 := (n + 2)) (.inr rfl) hU rfl [.val (.bool y24.1)] ?_ ?_
  ·refine Fit2.trans (E' := (⟨99, [], [(4, .val (.bool y24.1))]⟩ : Env)) (O' := (Zu ((O.upd Zw none).upd i0 (some ⟨false, 139, 2, 1, [.sl y24.2.left.length (fl Zb y24.2.left), .row (n + 2) y24.2.out.length]⟩)) n [none, none, some ⟨true, 25, 3, y24.2.out.length, fl Zb y24.2.out⟩])) (n' := (n + 3)) (Fit2.of (Yb hU rfl rfl ?_) (by omega)) ?_
   ·simp only [push_cast, seval, ↓reduceIte, Za, hi0, hk0, hN0, hN]
   refine X0 (k := 3) (k' := 2) hU [1, 1, 0] [2, 0] rfl rfl rfl rfl ⟨rfl, rfl⟩ ?_
   simp only [push_cast, seval, ↓reduceIte, Za, hi0, hk0, hN0, hN]
  simp only [push_cast, seval, ↓reduceIte, Za, Try.results122, hi0, hk0, hN0, hN]
 replace h := Zy c25 h
 refine Z3 ?_
 try simp only [Zn, Zj]
 refine Zm [] [true, false] ?_
 simp only [push_cast, seval, ↓reduceIte]
 refine Zs [4] (Zc Zd [] ?_)
 simp only [push_cast, seval, ↓reduceIte, Za, hi0, hk0, hN0, hN]
 refine Z6 ?_
 try simp only [Zn, Zj]
 have h := Option.some.inj h; subst h
 refine Jo (k := 1) (i := i0) (q1 := ⟨false, 139, 2, 1, [.sl a0.left.length (fl Zb a0.left), .row n a0.out.length]⟩) (L3 := [some ⟨true, 25, 3, a0.out.length, fl Zb a0.out⟩, none]) (E2 := (⟨99, [], [(4, .val (.bool false))]⟩ : Env)) (n3 := (n + 2)) (.inr rfl) hU rfl [.val (.bool false)] ?_ ?_
 ·refine Fit2.trans (E' := (⟨99, [], [(4, .val (.bool false))]⟩ : Env)) (O' := (Zu ((O.upd Zw none).upd i0 (some ⟨false, 139, 2, 1, [.sl a0.left.length (fl Zb a0.left), .row n a0.out.length]⟩)) n [some ⟨true, 25, 3, a0.out.length, fl Zb a0.out⟩, none])) (n' := (n + 2)) (Fit2.of (Yb hU rfl rfl ?_) (by omega)) ?_
  ·simp only [push_cast, seval, ↓reduceIte, Za, hi0, hk0, hN0, hN]
  refine X0 (k := 2) (k' := 2) hU [0, 1] [0, 0] rfl rfl rfl rfl ⟨rfl, rfl⟩ ?_
  simp only [push_cast, seval, ↓reduceIte, Za, hi0, hk0, hN0, hN]
 simp only [push_cast, seval, ↓reduceIte, Za, Try.results122, hi0, hk0, hN0, hN]
theorem Zf8 {Yz : (S_api_Edit → S_api_Tree → Option (S_api_Tree × Bool))} {Yc : (S_api_Edit → S_api_Tree → Option (S_api_Tree × Bool))} {Y6 : (S_api_Edit → S_api_Tree → Option (S_api_Tree × Bool))} {Z5 : (Zi → S_api_Op → Option (Bool × Zi))} {Z4 : (Zi → S_api_Edit → Option (Bool × Zi))} (Js : ∀ {a0 : S_api_Edit} {a1 : S_api_Tree} {r : (S_api_Tree × Bool)} {O : Objs} {n : Nat}, Yz a0 a1 = some r → GTo Try.prog 58 [.agg (Zg a0), .agg (Ze a1)] O n (.tup [.agg (Ze r.1), .val (.bool r.2)]) O n) (Ko : ∀ {a0 : S_api_Edit} {a1 : S_api_Tree} {r : (S_api_Tree × Bool)} {O : Objs} {n : Nat}, Yc a0 a1 = some r → GTo Try.prog 94 [.agg (Zg a0), .agg (Ze a1)] O n (.tup [.agg (Ze r.1), .val (.bool r.2)]) O n) (Gr : ∀ {a0 : S_api_Edit} {a1 : S_api_Tree} {r : (S_api_Tree × Bool)} {O : Objs} {n : Nat}, Y6 a0 a1 = some r → GTo Try.prog 95 [.agg (Zg a0), .agg (Ze a1)] O n (.tup [.agg (Ze r.1), .val (.bool r.2)]) O n) (Jk : ∀ {a0 : Zi} {a1 : S_api_Op} {r : (Bool × Zi)} {O : Objs} {n : Nat} {i0 Zw : Nat}, i0 < n → Zw < n → i0 ≠ Zw → O i0 = some ⟨false, 139, 2, 1, [.sl a0.left.length (fl Zb a0.left), .row Zw a0.out.length]⟩ → O Zw = some ⟨true, 25, 3, a0.out.length, fl Zb a0.out⟩ → Z5 a0 a1 = some r → GTo Try.prog 122 [.ref i0 0, .agg (Yo a1)] O n (.val (.bool r.1)) (Zu ((O.upd Zw none).upd i0 (some ⟨false, 139, 2, 1, [.sl r.2.left.length (fl Zb r.2.left), .row n r.2.out.length]⟩)) n [some ⟨true, 25, 3, r.2.out.length, fl Zb r.2.out⟩]) (n + 1)) (Qk : ∀ {a0 : Zi} {a1 : S_api_Edit} {r : (Bool × Zi)} {O : Objs} {n : Nat} {i0 Zw : Nat}, i0 < n → Zw < n → i0 ≠ Zw → O i0 = some ⟨false, 139, 2, 1, [.sl a0.left.length (fl Zb a0.left), .row Zw a0.out.length]⟩ → O Zw = some ⟨true, 25, 3, a0.out.length, fl Zb a0.out⟩ → Z4 a0 a1 = some r → GTo Try.prog 129 [.ref i0 0, .agg (Zg a1)] O n (.val (.bool r.1)) (Zu ((O.upd Zw none).upd i0 (some ⟨false, 139, 2, 1, [.sl r.2.left.length (fl Zb r.2.left), .row n r.2.out.length]⟩)) n [some ⟨true, 25, 3, r.2.out.length, fl Zb r.2.out⟩]) (n + 1)) {a0 : Zi} {a1 : S_api_Edit} {r : (Bool × Zi)} {O : Objs} {n : Nat} {i0 Zw : Nat} (hi0 : i0 < n) (Va : Zw < n) (Q0 : i0 ≠ Zw) (ho0 : O i0 = some ⟨false, 139, 2, 1, [.sl a0.left.length (fl Zb a0.left), .row Zw a0.out.length]⟩) (Vc : O Zw = some ⟨true, 25, 3, a0.out.length, fl Zb a0.out⟩) (h : Jn Yz Yc Y6 Z5 Z4 a0 a1 = some r) : GTo Try.prog 129 [.ref i0 0, .agg (Zg a1)] O n (.val (.bool r.1)) (Zu ((O.upd Zw none).upd i0 (some ⟨false, 139, 2, 1, [.sl r.2.left.length (fl Zb r.2.left), .row n r.2.out.length]⟩)) n [some ⟨true, 25, 3, r.2.out.length, fl Zb r.2.out⟩]) (n + 1) := by
 unfold Jn at h
 refine Xf Zd Try.call129 Try.func129 rfl (Nat.le_of_ble_eq_true rfl) (by omega) fun hU => ?_
 have e0 := Q5 (ba := n) (E := ⟨44, [], Zc3 0 [.ref i0 0, .agg [.val (.int .i64 a1.Kind), .val (.int .i64 a1.Old.Kind), .sl a1.Old.Words.length (fl (eI .u64) a1.Old.Words), .sl a1.Old.Kids.length (fl Zb a1.Old.Kids), .val (.int .i64 a1.New.Kind), .sl a1.New.Words.length (fl (eI .u64) a1.New.Words), .sl a1.New.Kids.length (fl Zb a1.New.Kids), .sl a1.Words.length (fl Zh a1.Words), .sl a1.Kids.length (fl Zk a1.Kids), .val (.int .i64 a1.List_), .sl a1.Ops.length (fl Zf a1.Ops)]]⟩) (O := (Zu O n [])) (n := n) (i := i0) (j := Zw) (k := 1) (len := a0.out.length) (q := ⟨false, 139, 2, 1, [.sl a0.left.length (fl Zb a0.left), .row Zw a0.out.length]⟩) (qj := ⟨true, 25, 3, a0.out.length, fl Zb a0.out⟩) (by rw [Yh _ hi0]; first | exact ho0 | exact Z8 _ _ _) rfl (by rw [Yh _ Va]; exact Vc) Q0 (by omega)
 simp only [Ym _ _ Va, Ym _ _ hi0, Y3, Yn, Xy, Uv Q0, List.set_cons_zero, List.set_cons_succ, List.cons_append, List.nil_append, List.length_cons, List.length_nil, Nat.zero_add, Nat.reduceAdd, Nat.add_assoc] at e0
 refine Jd e0 ?_
 have hU := (Und.drop hU Zw)
 have hk0 : ∀ k, i0 < n + k := fun k => by omega
 have hN0 : ∀ o, Objs.upd (O.upd Zw none) i0 o n = none := fun o => Qv hU hi0 _ (Nat.le_refl _)
 have hN : ∀ o k, Objs.upd (O.upd Zw none) i0 o (n + k) = none := fun o k => Qv hU hi0 _ (Nat.le_add_right _ _)
 show W _ _ _ _ ⟨44, [], [(0, .ref i0 0), (1, .agg (Zg a1))]⟩ (Zu ((O.upd Zw none).upd i0 (some ⟨false, 139, 2, 1, [.sl a0.left.length (fl Zb a0.left), .row n a0.out.length]⟩)) n [some ⟨true, 25, 3, a0.out.length, fl Zb a0.out⟩]) _
 refine Zs [0, 3] (Zc Zd [] ?_)
 simp only [push_cast, seval, ↓reduceIte, Za, hi0, hk0, hN0, hN]
 refine Zo ?_
 refine Zs [0, 3, 12] (Zc Zd [] ?_)
 simp only [push_cast, seval, ↓reduceIte, Za, hi0, hk0, hN0, hN]
 refine Zt (t := ((a0.left.length : Int) == 0)) rfl (fun c13 => ?_) (fun c13 => ?_)
 ·replace h := Zx c13 h
  refine Zs [4] (Zc Zd [] ?_)
  simp only [push_cast, seval, ↓reduceIte, Za, hi0, hk0, hN0, hN]
  refine Z6 ?_
  try simp only [Zn, Zj]
  have h := Option.some.inj h; subst h
  refine Jo (k := 1) (i := i0) (q1 := ⟨false, 139, 2, 1, [.sl a0.left.length (fl Zb a0.left), .row n a0.out.length]⟩) (L3 := [some ⟨true, 25, 3, a0.out.length, fl Zb a0.out⟩, none]) (E2 := (⟨44, [], [(4, .val (.bool false))]⟩ : Env)) (n3 := (n + 2)) (.inr rfl) hU rfl [.val (.bool false)] ?_ ?_
  ·refine Fit2.trans (E' := (⟨44, [], [(4, .val (.bool false))]⟩ : Env)) (O' := (Zu ((O.upd Zw none).upd i0 (some ⟨false, 139, 2, 1, [.sl a0.left.length (fl Zb a0.left), .row n a0.out.length]⟩)) n [some ⟨true, 25, 3, a0.out.length, fl Zb a0.out⟩, none])) (n' := (n + 2)) (Fit2.of (Yb hU rfl rfl ?_) (by omega)) ?_
   ·simp only [push_cast, seval, ↓reduceIte, Za, hi0, hk0, hN0, hN]
   refine X0 (k := 2) (k' := 2) hU [0, 1] [0, 0] rfl rfl rfl rfl ⟨rfl, rfl⟩ ?_
   simp only [push_cast, seval, ↓reduceIte, Za, hi0, hk0, hN0, hN]
  simp only [push_cast, seval, ↓reduceIte, Za, Try.results129, hi0, hk0, hN0, hN]
 replace h := Zy c13 h
 refine Z3 ?_
 try simp only [Zn, Zj]
 refine Zm [0, 3] [true, true] ?_
 simp only [push_cast, seval, ↓reduceIte]
 refine Zo ?_
 obtain ⟨x3, hx3, ax3, bx3, cx3, h⟩ := bE (f := Zb) Vq (fun _ => rfl) (by decide) h
 obtain ⟨y4, hy4, h⟩ := bC h
 refine Zal Zd (by kernel_rfl) [.low, .low, .low, .low, .low, .low, .low, .low, .low, .low, .low, .pass, .pass, .plain] (fun i => i < (n + 2)) [0, 1, 2, 3, 4, 5, 6, 7, 8, 9, 10, 11, 12, 13] [.low, .low, .low, .low, .low, .low, .low, .low, .low, .low, .low, .pass, .pass, .plain] [] (by kernel_rfl) rfl ?_
 simp only [push_cast, Nat.reduceAdd, Nat.reduceSub, Nat.reduceMul, Nat.reduceLeDiff, Nat.reduceLT, Nat.reduceEqDiff, ↓reduceIte, reduceCtorEq, Int.reduceBEq, Int.reduceBNe, Nat.reduceBEq, Int.reduceLE, Int.reduceLT, Int.reduceEq, Int.reduceNe, Int.reduceNeg, Nat.reduceDiv, Nat.reduceMod, Nat.reducePow, Za, ax3, bx3, cx3, hi0, hk0, hN0, hN]
 repeat (with_reducible refine And.intro (by first | omega | exact Yv rfl | exact Yk | exact Qj rfl rfl) ?_)
 first | refine PCallA.of (fun _ _ => Js hy4) ?_ | refine PCall.of (Js hy4) ?_
 simp only [push_cast, Nat.reduceAdd, Nat.reduceSub, Nat.reduceMul, Nat.reduceLeDiff, Nat.reduceLT, Nat.reduceEqDiff, ↓reduceIte, reduceCtorEq, Int.reduceBEq, Int.reduceBNe, Nat.reduceBEq, Int.reduceLE, Int.reduceLT, Int.reduceEq, Int.reduceNe, Int.reduceNeg, Nat.reduceDiv, Nat.reduceMod, Nat.reducePow, Za, ax3, bx3, cx3, hi0, hk0, hN0, hN]
 repeat (with_reducible refine And.intro (by first | omega | exact Yv rfl | exact Yk | exact Qj rfl rfl) ?_)
 refine Zm [0, 5, 6] [true, false, true] ?_
 simp only [push_cast, seval, ↓reduceIte]
 refine Zo ?_
 obtain ⟨l8, pl8, ql8, el8, h⟩ := bA (k := 1) rfl h
 obtain ⟨x9, hx9, ax9, bx9, cx9, h⟩ := bE (f := Zb) Vq (fun _ => rfl) (by decide) h
 have gu10 : Jj (fl Zb a0.out ++ [.val (.int .i64 0), .val (.slice none 0 0), .val (.slice none 0 0)]) [.val (.int .i64 y4.1.Kind), .sl y4.1.Words.length (fl (eI .u64) y4.1.Words), .sl y4.1.Kids.length (fl Zb y4.1.Kids)] (List.length a0.out * 3) = some (fl Zb a0.out ++ [.val (.int .i64 y4.1.Kind), .sl y4.1.Words.length (fl (eI .u64) y4.1.Words), .sl y4.1.Kids.length (fl Zb y4.1.Kids)]) := U5 (f := Zb) (sz := 3) (fun _ => rfl) rfl rfl
 refine Zal Zd (by kernel_rfl) [.low, .low, .low, .low, .low, .low, .pass, .bar, .shp, .fill true, .shp, .shp, .fill false] (fun i => i < (n + 3)) [0, 1, 2, 3, 4, 5, 6, 7, 8, 9, 10, 11, 12] [.low, .low, .low, .low, .low, .low, .pass, .bar, .shp, .fill true, .shp, .shp, .fill false] [] (by kernel_rfl) rfl ?_
 simp only [push_cast, Nat.reduceAdd, Nat.reduceSub, Nat.reduceMul, Nat.reduceLeDiff, Nat.reduceLT, Nat.reduceEqDiff, ↓reduceIte, reduceCtorEq, Int.reduceBEq, Int.reduceBNe, Nat.reduceBEq, Int.reduceLE, Int.reduceLT, Int.reduceEq, Int.reduceNe, Int.reduceNeg, Nat.reduceDiv, Nat.reduceMod, Nat.reducePow, Za, pl8, ql8, el8, ax9, bx9, cx9, gu10, hi0, hk0, hN0, hN]
 repeat (with_reducible refine And.intro (by first | omega | exact Yv rfl | exact Yk | exact Qj rfl rfl) ?_)
 refine Zea ⟨44, [], [(0, .ref i0 0), (6, .val (.bool y4.2))]⟩ (Zu ((O.upd Zw none).upd i0 (some ⟨false, 139, 2, 1, [.sl a0.left.length (fl Zb a0.left), .row n (a0.out ++ [y4.1]).length]⟩)) n [some ⟨true, 25, 3, (a0.out ++ [y4.1]).length, fl Zb (a0.out ++ [y4.1])⟩, none, none, none]) (Yb hU rfl rfl ?_) ?_
 ·simp only [push_cast, Nat.reduceAdd, Nat.reduceSub, Nat.reduceMul, Nat.reduceLeDiff, Nat.reduceLT, Nat.reduceEqDiff, ↓reduceIte, reduceCtorEq, Int.reduceBEq, Int.reduceBNe, Nat.reduceBEq, Int.reduceLE, Int.reduceLT, Int.reduceEq, Int.reduceNe, Int.reduceNeg, Nat.reduceDiv, Nat.reduceMod, Nat.reducePow, Za, pl8, ql8, el8, ax9, bx9, cx9, gu10, hi0, hk0, hN0, hN]
 refine Zo ?_
 obtain ⟨l12, al12, bl12, cl12, gl12, h⟩ := bS (lo := (some (.i64, 1))) (hi := none) (f := Zb) rfl rfl Zcv Vq (fun _ => rfl) h
 refine Zc Zd [] ?_
 simp only [push_cast, seval, ↓reduceIte, Za, al12, bl12, cl12, gl12, hi0, hk0, hN0, hN]
 refine Zm [6] [true, false, false, false] ?_
 simp only [push_cast, seval, ↓reduceIte]
 refine Zs [4] (Zc Zd [] ?_)
 simp only [push_cast, seval, ↓reduceIte, Za, hi0, hk0, hN0, hN]
 refine Z6 ?_
 try simp only [Zn, Zj]
 have h := Option.some.inj h; subst h
 refine Jo (k := 1) (i := i0) (q1 := ⟨false, 139, 2, 1, [.sl l12.length (fl Zb l12), .row n (a0.out ++ [y4.1]).length]⟩) (L3 := [some ⟨true, 25, 3, (a0.out ++ [y4.1]).length, fl Zb (a0.out ++ [y4.1])⟩, none]) (E2 := (⟨44, [], [(4, .val (.bool y4.2))]⟩ : Env)) (n3 := (n + 2)) (.inr rfl) hU rfl [.val (.bool y4.2)] ?_ ?_
 ·refine Fit2.trans (E' := (⟨44, [], [(4, .val (.bool y4.2))]⟩ : Env)) (O' := (Zu ((O.upd Zw none).upd i0 (some ⟨false, 139, 2, 1, [.sl l12.length (fl Zb l12), .row n (a0.out ++ [y4.1]).length]⟩)) n [some ⟨true, 25, 3, (a0.out ++ [y4.1]).length, fl Zb (a0.out ++ [y4.1])⟩, none, none, none])) (n' := (n + 4)) (Fit2.of (Yb hU rfl rfl ?_) (by omega)) ?_
  ·simp only [push_cast, seval, ↓reduceIte, Za, hi0, hk0, hN0, hN]
  refine X0 (k := 4) (k' := 2) hU [0, 1, 1, 1] [0, 0] rfl rfl rfl rfl ⟨rfl, rfl⟩ ?_
  simp only [push_cast, seval, ↓reduceIte, Za, hi0, hk0, hN0, hN]
 simp only [push_cast, seval, ↓reduceIte, Za, Try.results129, hi0, hk0, hN0, hN]
theorem Zmo : ∀ k, (∀ {a0 : S_api_Edit} {a1 : S_api_Tree} {r : (S_api_Tree × Bool)} {O : Objs} {n : Nat}, (Zp k).1 a0 a1 = some r → GTo Try.prog 58 [.agg (Zg a0), .agg (Ze a1)] O n (.tup [.agg (Ze r.1), .val (.bool r.2)]) O n) ∧ (∀ {a0 : S_api_Edit} {a1 : S_api_Tree} {r : (S_api_Tree × Bool)} {O : Objs} {n : Nat}, (Zp k).2.1 a0 a1 = some r → GTo Try.prog 94 [.agg (Zg a0), .agg (Ze a1)] O n (.tup [.agg (Ze r.1), .val (.bool r.2)]) O n) ∧ (∀ {a0 : S_api_Edit} {a1 : S_api_Tree} {r : (S_api_Tree × Bool)} {O : Objs} {n : Nat}, (Zp k).2.2.1 a0 a1 = some r → GTo Try.prog 95 [.agg (Zg a0), .agg (Ze a1)] O n (.tup [.agg (Ze r.1), .val (.bool r.2)]) O n) ∧ (∀ {a0 : Zi} {a1 : S_api_Op} {r : (Bool × Zi)} {O : Objs} {n : Nat} {i0 Zw : Nat}, i0 < n → Zw < n → i0 ≠ Zw → O i0 = some ⟨false, 139, 2, 1, [.sl a0.left.length (fl Zb a0.left), .row Zw a0.out.length]⟩ → O Zw = some ⟨true, 25, 3, a0.out.length, fl Zb a0.out⟩ → (Zp k).2.2.2.1 a0 a1 = some r → GTo Try.prog 122 [.ref i0 0, .agg (Yo a1)] O n (.val (.bool r.1)) (Zu ((O.upd Zw none).upd i0 (some ⟨false, 139, 2, 1, [.sl r.2.left.length (fl Zb r.2.left), .row n r.2.out.length]⟩)) n [some ⟨true, 25, 3, r.2.out.length, fl Zb r.2.out⟩]) (n + 1)) ∧ (∀ {a0 : Zi} {a1 : S_api_Edit} {r : (Bool × Zi)} {O : Objs} {n : Nat} {i0 Zw : Nat}, i0 < n → Zw < n → i0 ≠ Zw → O i0 = some ⟨false, 139, 2, 1, [.sl a0.left.length (fl Zb a0.left), .row Zw a0.out.length]⟩ → O Zw = some ⟨true, 25, 3, a0.out.length, fl Zb a0.out⟩ → (Zp k).2.2.2.2 a0 a1 = some r → GTo Try.prog 129 [.ref i0 0, .agg (Zg a1)] O n (.val (.bool r.1)) (Zu ((O.upd Zw none).upd i0 (some ⟨false, 139, 2, 1, [.sl r.2.left.length (fl Zb r.2.left), .row n r.2.out.length]⟩)) n [some ⟨true, 25, 3, r.2.out.length, fl Zb r.2.out⟩]) (n + 1)) := fun k => by
 induction k with
 | zero => exact ⟨@fun a0 a1 r O n h => (nomatch (show (none : Option _) = some _ from h)), @fun a0 a1 r O n h => (nomatch (show (none : Option _) = some _ from h)), @fun a0 a1 r O n h => (nomatch (show (none : Option _) = some _ from h)), @fun a0 a1 r O n i0 Zw hi0 Va Q0 ho0 Vc h => (nomatch (show (none : Option _) = some _ from h)), @fun a0 a1 r O n i0 Zw hi0 Va Q0 ho0 Vc h => (nomatch (show (none : Option _) = some _ from h))⟩
 | succ k ih => exact ⟨@fun a0 a1 r O n h => Zqs (ih.1) (ih.2.1) (ih.2.2.1) (ih.2.2.2.1) (ih.2.2.2.2)  h, @fun a0 a1 r O n h => Zjg (ih.1) (ih.2.1) (ih.2.2.1) (ih.2.2.2.1) (ih.2.2.2.2)  h, @fun a0 a1 r O n h => Zpd (ih.1) (ih.2.1) (ih.2.2.1) (ih.2.2.2.1) (ih.2.2.2.2)  h, @fun a0 a1 r O n i0 Zw hi0 Va Q0 ho0 Vc h => Zhq (ih.1) (ih.2.1) (ih.2.2.1) (ih.2.2.2.1) (ih.2.2.2.2) hi0 Va Q0 ho0 Vc h, @fun a0 a1 r O n i0 Zw hi0 Va Q0 ho0 Vc h => Zf8 (ih.1) (ih.2.1) (ih.2.2.1) (ih.2.2.2.1) (ih.2.2.2.2) hi0 Va Q0 ho0 Vc h⟩
theorem Zqx {a0 : S_api_Edit} {a1 : S_api_Tree} {r : (S_api_Tree × Bool)} {O : Objs} {n : Nat} (h : Zhb a0 a1 = some r) : GTo Try.prog 58 [.agg (Zg a0), .agg (Ze a1)] O n (.tup [.agg (Ze r.1), .val (.bool r.2)]) O n := by
 obtain ⟨k, hk⟩ := Us h
 exact (Zmo k).1  hk
theorem Zdq {a0 : S_api_Edit} {a1 : S_api_Tree} {r : (S_api_Tree × Bool)} {O : Objs} {n : Nat} (h : Kf a0 a1 = some r) : GTo Try.prog 23 [.agg (Zg a0), .agg (Ze a1)] O n (.tup [.agg (Ze r.1), .val (.bool r.2)]) O n := by
 unfold Kf at h
 refine Xf Zd Try.call23 Try.func23 rfl (Nat.le_of_ble_eq_true rfl) (Nat.le_refl _) fun hU => ?_
 have hN0 : O n = none := hU.fresh _ (Nat.le_refl _)
 have hN : ∀ k, O (n + k) = none := fun k => hU.fresh _ (Nat.le_add_right _ _)
 show W _ _ _ _ ⟨19, [], [(0, .agg (Zg a0)), (1, .agg (Ze a1))]⟩ (Zu O n []) _
 refine Zs [2, 3, 4] (Zc Zd [] ?_)
 simp only [push_cast, seval, ↓reduceIte, Za, hN0, hN]
 refine Zo ?_
 obtain ⟨y2, hy2, h⟩ := bC h
 refine Zc Zd [] ?_
 simp only [push_cast, seval, ↓reduceIte, Za, hN0, hN]
 refine (Zqx hy2).then ?_
 simp only [push_cast, seval, ↓reduceIte, Za, hN0, hN]
 refine Zm [4, 6, 7] [false, false, true, true] ?_
 simp only [push_cast, seval, ↓reduceIte]
 refine Zo ?_
 refine Zs [4, 6, 15] (Zc Zd [] ?_)
 simp only [push_cast, seval, ↓reduceIte, Za, hN0, hN]
 refine Zt (t := (!y2.2)) rfl (fun c5 => ?_) (fun c5 => ?_)
 ·replace h := Zx c5 h
  refine Zo ?_
  refine Zc Zd [] ?_
  simp only [push_cast, seval, ↓reduceIte, Za, hN0, hN]
  refine Zm [4, 5] [false, false, true, false] ?_
  simp only [push_cast, seval, ↓reduceIte]
  refine Z6 ?_
  try simp only [Zn, Zj]
  have h := Option.some.inj h; subst h
  refine Zz (.inr rfl) hU [.agg [.val (.int .i64 0), .val (.slice none 0 0), .val (.slice none 0 0)], .val (.bool false)] (by omega) ?_
  simp only [push_cast, seval, ↓reduceIte, Za, Try.results23, hN0, hN]
 replace h := Zy c5 h
 refine Z3 ?_
 try simp only [Zn, Zj]
 refine Zm [4, 6] [false, false, true, true] ?_
 simp only [push_cast, seval, ↓reduceIte]
 refine Zo ?_
 obtain ⟨y4, hy4, h⟩ := bC h
 refine Zc Zd [] ?_
 simp only [push_cast, seval, ↓reduceIte, Za, hN0, hN]
 refine (Gf hy4).then ?_
 simp only [push_cast, seval, ↓reduceIte, Za, hN0, hN]
 refine Zm [4, 5] [false, false, true, false] ?_
 simp only [push_cast, seval, ↓reduceIte]
 refine Z6 ?_
 try simp only [Zn, Zj]
 have h := Option.some.inj h; subst h
 refine Zz (.inr rfl) hU [.agg (Ze y4), .val (.bool true)] (by omega) ?_
 simp only [push_cast, seval, ↓reduceIte, Za, Try.results23, hN0, hN]
theorem Zkj {a0 : (List Int)} {r : (List Int)} {O : Objs} {n : Nat} (h : Ue a0 = some r) : GTo Try.prog 63 [.sl a0.length (fl (eI .u64) a0)] O n (.sl r.length (fl (eI .u64) r)) O n := by
 unfold Ue at h
 refine Xf Zd Try.call63 Try.func63 rfl (Nat.le_of_ble_eq_true rfl) (Nat.le_refl _) fun hU => ?_
 have hN0 : O n = none := hU.fresh _ (Nat.le_refl _)
 have hN : ∀ k, O (n + k) = none := fun k => hU.fresh _ (Nat.le_add_right _ _)
 show W _ _ _ _ ⟨24, [], [(0, .sl a0.length (fl (eI .u64) a0))]⟩ (Zu O n []) _
 refine Zs [0] (Zc Zd [] ?_)
 simp only [push_cast, seval, ↓reduceIte, Za, hN0, hN]
 refine Zs [0, 3] (Zc Zd [] ?_)
 simp only [push_cast, seval, ↓reduceIte, Za, hN0, hN]
 refine Zo ?_
 refine Zm [0, 3] [] ?_
 simp only [push_cast, seval, ↓reduceIte]
 obtain ⟨z7, hz7, h⟩ := bC h
 refine Yy (E' := ⟨24, [], [(0, .sl a0.length (fl (eI .u64) a0)), (3, .val (.int .i64 z7))]⟩) (O' := (Zu O n [])) (n0 := n) ?_ ?_
 ·refine Xa hz7 (fun s0_ => ⟨24, [], [(0, .sl a0.length (fl (eI .u64) a0)), (3, .val (.int .i64 s0_))]⟩) (fun s0_ => (Zu O n [])) (fun z7 => JX 0 n (⟨24, [], [(0, .sl a0.length (fl (eI .u64) a0)), (3, .val (.int .i64 z7))]⟩ : Env) (Zu O n []) n) ?_
  intro s0_ x0_ hs0_
  unfold Kp at hs0_
  try dsimp only
  refine Zo ?_
  obtain ⟨z2, hz2, hs0_⟩ := bC hs0_
  refine Y8 (E' := ⟨24, [], [(0, .sl a0.length (fl (eI .u64) a0)), (3, .val (.int .i64 s0_)), (16, .val (.bool z2))]⟩) (O' := (Zu O n [])) (n0 := n) ?_ ?_
  ·rcases Bool.eq_false_or_eq_true (decide (0 < s0_)) with c5 | c5
   ·replace hz2 := Zx c5 hz2
    obtain ⟨x4, hx4, ax4, bx4, cx4, hz2⟩ := bE (f := (eI .u64)) Ze0 (fun _ => rfl) (by decide) hz2
    refine Zc Zd [some true, some true, some true, some true, some true, some true] ?_
    simp only [push_cast, Nat.reduceAdd, Nat.reduceSub, Nat.reduceMul, Nat.reduceLeDiff, Nat.reduceLT, Nat.reduceEqDiff, ↓reduceIte, reduceCtorEq, Int.reduceBEq, Int.reduceBNe, Nat.reduceBEq, Int.reduceLE, Int.reduceLT, Int.reduceEq, Int.reduceNe, Int.reduceNeg, Nat.reduceDiv, Nat.reduceMod, Nat.reducePow, Za, c5, ax4, bx4, cx4, hN0, hN]
    have hz2 := Option.some.inj hz2; subst hz2
    refine And.intro rfl (Fit2.of (Zl hU rfl rfl ?_) (by omega))
    simp only [push_cast, Nat.reduceAdd, Nat.reduceSub, Nat.reduceMul, Nat.reduceLeDiff, Nat.reduceLT, Nat.reduceEqDiff, ↓reduceIte, reduceCtorEq, Int.reduceBEq, Int.reduceBNe, Nat.reduceBEq, Int.reduceLE, Int.reduceLT, Int.reduceEq, Int.reduceNe, Int.reduceNeg, Nat.reduceDiv, Nat.reduceMod, Nat.reducePow, Za, c5, ax4, bx4, cx4, hN0, hN]
   replace hz2 := Zy c5 hz2
   refine Zc Zd [some false, some false, some false, some false, some false, some false] ?_
   simp only [push_cast, seval, ↓reduceIte, Za, c5, hN0, hN]
   have hz2 := Option.some.inj hz2; subst hz2
   refine And.intro rfl (Fit2.of (Zl hU rfl rfl ?_) (by omega))
   simp only [push_cast, seval, ↓reduceIte, Za, c5, hN0, hN]
  refine Zt (t := z2) rfl (fun c6 => ?_) (fun c6 => ?_)
  ·replace hs0_ := Zx c6 hs0_
   refine Z3 ?_
   try simp only [Zn, Zj]
   refine Zm [0, 3] [] ?_
   simp only [push_cast, seval, ↓reduceIte]
   refine Yw ?_
   refine Zc Zd [] ?_
   simp only [push_cast, seval, ↓reduceIte, Za, hN0, hN]
   have hs0_ := Option.some.inj hs0_; subst hs0_
   refine And.intro rfl (Fit2.of (Zl hU rfl rfl ?_) (by omega))
   simp only [push_cast, seval, ↓reduceIte, Za, hN0, hN]
  replace hs0_ := Zy c6 hs0_
  refine Xw ?_
  try simp only [Zn, Zj, ↓reduceIte, Nat.reduceEqDiff]
  have hs0_ := Option.some.inj hs0_; subst hs0_
  refine And.intro (fun h => by cases h) (And.intro rfl (Fit2.of (Zl hU rfl rfl ?_) (by omega)))
  simp only [push_cast, seval, ↓reduceIte, Za, hN0, hN]
 try simp only [Zn, Zj, ↓reduceIte, Nat.reduceEqDiff]
 refine Zm [0, 3] [] ?_
 simp only [push_cast, seval, ↓reduceIte]
 refine Zs [0, 3, 4] (Zc Zd [] ?_)
 simp only [push_cast, seval, ↓reduceIte, Za, hN0, hN]
 refine Zo ?_
 obtain ⟨l10, al10, bl10, cl10, gl10, h⟩ := bS (lo := none) (hi := (some (.i64, z7))) (f := (eI .u64)) rfl rfl Zlc Ze0 (fun _ => rfl) h
 obtain ⟨l11, pl11, ql11, el11, h⟩ := bA0 (k := l10.length) rfl h
 refine Zc Zd [] ?_
 simp only [push_cast, seval, ↓reduceIte, Za, al10, bl10, cl10, gl10, pl11, ql11, el11, hN0, hN]
 refine Zea ⟨24, [], [(2, .row n l11.length)]⟩ (Zu O n [some ⟨true, 56, 1, l11.length, fl (eI .u64) l11⟩]) (Zl hU rfl rfl ?_) ?_
 ·simp only [push_cast, seval, ↓reduceIte, Za, al10, bl10, cl10, gl10, pl11, ql11, el11, hN0, hN]
 refine Z6 ?_
 try simp only [Zn, Zj]
 have h := Option.some.inj h; subst h
 refine Zz (.inr rfl) hU [.row n l11.length] (by omega) ?_
 simp only [push_cast, seval, ↓reduceIte, Za, Try.results63, hN0, hN]
theorem Zjf {Ky : (S_api_Tree → Option S_api_Tree)} (Zib : ∀ {a0 : S_api_Tree} {r : S_api_Tree} {O : Objs} {n : Nat}, Ky a0 = some r → GTo Try.prog 31 [.agg (Ze a0)] O n (.agg (Ze r)) O n) {a0 : S_api_Tree} {r : S_api_Tree} {O : Objs} {n : Nat} (h : V7 Ky a0 = some r) : GTo Try.prog 31 [.agg (Ze a0)] O n (.agg (Ze r)) O n := by
 unfold V7 at h
 refine Xf Zd Try.call31 Try.func31 rfl (Nat.le_of_ble_eq_true rfl) (Nat.le_refl _) fun hU => ?_
 have hN0 : O n = none := hU.fresh _ (Nat.le_refl _)
 have hN : ∀ k, O (n + k) = none := fun k => hU.fresh _ (Nat.le_add_right _ _)
 show W _ _ _ _ ⟨53, [], [(0, .agg (Ze a0))]⟩ (Zu O n []) _
 refine Zs [1, 2] (Zc Zd [] ?_)
 simp only [push_cast, seval, ↓reduceIte, Za, hN0, hN]
 refine Zo ?_
 refine Zs [1, 2, 10] (Zc Zd [] ?_)
 simp only [push_cast, seval, ↓reduceIte, Za, hN0, hN]
 refine Zt (t := (a0.Kind == 0)) rfl (fun c19 => ?_) (fun c19 => ?_)
 ·replace h := Zx c19 h
  refine Zo ?_
  refine Zc Zd [] ?_
  simp only [push_cast, seval, ↓reduceIte, Za, hN0, hN]
  refine Zm [2] [false, true] ?_
  simp only [push_cast, seval, ↓reduceIte]
  refine Z6 ?_
  try simp only [Zn, Zj]
  have h := Option.some.inj h; subst h
  refine Zz (.inr rfl) hU [.agg [.val (.int .i64 0), .val (.slice none 0 0), .val (.slice none 0 0)]] (by omega) ?_
  simp only [push_cast, seval, ↓reduceIte, Za, Try.results31, hN0, hN]
 replace h := Zy c19 h
 refine Z3 ?_
 try simp only [Zn, Zj]
 refine Zm [1, 2] [true, true] ?_
 simp only [push_cast, seval, ↓reduceIte]
 refine Zs [1, 2, 3] (Zc Zd [] ?_)
 simp only [push_cast, seval, ↓reduceIte, Za, hN0, hN]
 refine Zs [1, 2, 3, 4] (Zc Zd [] ?_)
 simp only [push_cast, seval, ↓reduceIte, Za, hN0, hN]
 refine Zo ?_
 refine Zs [1, 2, 3, 4, 5] (Zc Zd [] ?_)
 simp only [push_cast, seval, ↓reduceIte, Za, hN0, hN]
 refine Zm [1, 2, 3, 4, 5] [true, true] ?_
 simp only [push_cast, seval, ↓reduceIte]
 refine Jd (E' := (⟨53, [], [(1, .ref n 0), (2, .ref (n + 1) 0), (3, .row (n + 2) ([] : List S_api_Tree).length), (4, .val (.int .i64 0)), (5, .val (.int .i64 0))]⟩ : Env)) (O' := (Zu O n [some ⟨false, 25, 3, 1, (Ze a0)⟩, some ⟨false, 25, 3, 1, [.val (.int .i64 0), .val (.slice none 0 0), .val (.slice none 0 0)]⟩, some ⟨true, 25, 3, ([] : List S_api_Tree).length, fl Zb ([] : List S_api_Tree)⟩, none])) (n' := (n + 4)) ?_ ?_
 ·refine Fit2.trans (E' := (⟨53, [], [(1, .ref n 0), (2, .ref (n + 1) 0), (3, .val (.slice none 0 0)), (4, .val (.int .i64 0)), (5, .val (.int .i64 0))]⟩ : Env)) (O' := (Zu O n [some ⟨false, 25, 3, 1, (Ze a0)⟩, some ⟨false, 25, 3, 1, [.val (.int .i64 0), .val (.slice none 0 0), .val (.slice none 0 0)]⟩])) (n' := (n + 2)) (Fit2.of (Zl hU rfl rfl ?_) (by omega)) ?_
  ·simp only [push_cast, seval, ↓reduceIte, Za, hN0, hN]
  refine Fit2.trans (E' := (⟨53, [], [(3, .row (n + 2) 0), (1, .ref n 0), (2, .ref (n + 1) 0), (3, .val (.slice none 0 0)), (4, .val (.int .i64 0)), (5, .val (.int .i64 0))]⟩ : Env)) (O' := (Zu O n [some ⟨false, 25, 3, 1, (Ze a0)⟩, some ⟨false, 25, 3, 1, [.val (.int .i64 0), .val (.slice none 0 0), .val (.slice none 0 0)]⟩, some ⟨true, 25, 3, 0, []⟩])) (n' := (n + 3)) ?_ ?_
  ·have ha := Zi1 (ba := n) (E := (⟨53, [], [(1, .ref n 0), (2, .ref (n + 1) 0), (3, .val (.slice none 0 0)), (4, .val (.int .i64 0)), (5, .val (.int .i64 0))]⟩ : Env)) (O := (Zu O n [some ⟨false, 25, 3, 1, [.val (.int .i64 a0.Kind), .sl a0.Words.length (fl (eI .u64) a0.Words), .sl a0.Kids.length (fl Zb a0.Kids)]⟩, some ⟨false, 25, 3, 1, [.val (.int .i64 0), .val (.slice none 0 0), .val (.slice none 0 0)]⟩])) (n := (n + 2)) 3 25 3 rfl (by omega)
   simp only [Y3, Yn, Un, Vb, List.set_cons_zero, List.set_cons_succ, List.cons_append, List.nil_append, List.length_cons, List.length_nil, Nat.zero_add, Nat.reduceAdd, Nat.reduceLT, Nat.add_assoc] at ha
   exact ha
  refine Fit2.trans (E' := (⟨53, [], [(1, .ref n 0), (2, .ref (n + 1) 0), (3, .row (n + 2) ([] : List S_api_Tree).length), (4, .val (.int .i64 0)), (5, .val (.int .i64 0))]⟩ : Env)) (O' := (Zu O n [some ⟨false, 25, 3, 1, (Ze a0)⟩, some ⟨false, 25, 3, 1, [.val (.int .i64 0), .val (.slice none 0 0), .val (.slice none 0 0)]⟩, some ⟨true, 25, 3, ([] : List S_api_Tree).length, fl Zb ([] : List S_api_Tree)⟩])) (n' := (n + 3)) (Fit2.of (Zl hU rfl rfl ?_) (by omega)) ?_
  ·simp only [push_cast, seval, ↓reduceIte, Za, hN0, hN]
  refine Jv (k := 3) (k' := 4) hU [0, 1, 2] [0, 1, 2, 0] rfl rfl rfl rfl ⟨rfl, rfl⟩ ?_
  simp only [push_cast, seval, ↓reduceIte, Za, hN0, hN]
 obtain ⟨z10, hz10, h⟩ := bC h
 refine Yy (E' := ⟨53, [], [(1, .ref n 0), (2, .ref (n + 1) 0), (3, .row (n + 2) z10.2.length), (4, .val (.int .i64 z10.1))]⟩) (O' := (Zu O n [some ⟨false, 25, 3, 1, (Ze a0)⟩, some ⟨false, 25, 3, 1, [.val (.int .i64 0), .val (.slice none 0 0), .val (.slice none 0 0)]⟩, some ⟨true, 25, 3, z10.2.length, fl Zb z10.2⟩, none])) (n0 := (n + 4)) ?_ ?_
 ·refine Xa hz10 (fun s0_ => ⟨53, [], [(1, .ref n 0), (2, .ref (n + 1) 0), (3, .row (n + 2) s0_.2.2.length), (4, .val (.int .i64 s0_.1)), (5, .val (.int .i64 s0_.2.1))]⟩) (fun s0_ => (Zu O n [some ⟨false, 25, 3, 1, (Ze a0)⟩, some ⟨false, 25, 3, 1, [.val (.int .i64 0), .val (.slice none 0 0), .val (.slice none 0 0)]⟩, some ⟨true, 25, 3, s0_.2.2.length, fl Zb s0_.2.2⟩, none])) (fun z10 => JX 0 n (⟨53, [], [(1, .ref n 0), (2, .ref (n + 1) 0), (3, .row (n + 2) z10.2.length), (4, .val (.int .i64 z10.1))]⟩ : Env) (Zu O n [some ⟨false, 25, 3, 1, (Ze a0)⟩, some ⟨false, 25, 3, 1, [.val (.int .i64 0), .val (.slice none 0 0), .val (.slice none 0 0)]⟩, some ⟨true, 25, 3, z10.2.length, fl Zb z10.2⟩, none]) (n + 4)) ?_
  intro s0_ x0_ hs0_
  unfold Qg at hs0_
  try dsimp only
  refine Zo ?_
  refine Zs [1, 2, 3, 4, 5, 16] (Zc Zd [] ?_)
  simp only [push_cast, seval, ↓reduceIte, Za, hN0, hN]
  refine Zt (t := (decide (s0_.2.1 < (a0.Kids.length : Int)))) rfl (fun c9 => ?_) (fun c9 => ?_)
  ·replace hs0_ := Zx c9 hs0_
   refine Z3 ?_
   try simp only [Zn, Zj]
   refine Zm [1, 2, 3, 4, 5] [true, true, true, false] ?_
   simp only [push_cast, seval, ↓reduceIte]
   obtain ⟨z1, hz1, hs0_⟩ := bC hs0_
   refine Y8 (E' := ⟨53, [], [(1, .ref n 0), (2, .ref (n + 1) 0), (3, .row (n + 2) z1.2.length), (4, .val (.int .i64 z1.1)), (5, .val (.int .i64 s0_.2.1))]⟩) (O' := (Zu O n [some ⟨false, 25, 3, 1, (Ze a0)⟩, some ⟨false, 25, 3, 1, [.val (.int .i64 0), .val (.slice none 0 0), .val (.slice none 0 0)]⟩, some ⟨true, 25, 3, z1.2.length, fl Zb z1.2⟩, none, none, none])) (n0 := (n + 6)) ?_ ?_
   ·refine Yw ?_
    refine Zo ?_
    obtain ⟨x4, hx4, ax4, bx4, cx4, hz1⟩ := bE (f := Zb) Vq (fun _ => rfl) (by decide) hz1
    obtain ⟨y5, hy5, hz1⟩ := bC hz1
    refine Zc Zd [] ?_
    simp only [push_cast, Nat.reduceAdd, Nat.reduceSub, Nat.reduceMul, Nat.reduceLeDiff, Nat.reduceLT, Nat.reduceEqDiff, ↓reduceIte, reduceCtorEq, Int.reduceBEq, Int.reduceBNe, Nat.reduceBEq, Int.reduceLE, Int.reduceLT, Int.reduceEq, Int.reduceNe, Int.reduceNeg, Nat.reduceDiv, Nat.reduceMod, Nat.reducePow, Za, ax4, bx4, cx4, hN0, hN]
    refine (Zib hy5).then ?_
    simp only [push_cast, Nat.reduceAdd, Nat.reduceSub, Nat.reduceMul, Nat.reduceLeDiff, Nat.reduceLT, Nat.reduceEqDiff, ↓reduceIte, reduceCtorEq, Int.reduceBEq, Int.reduceBNe, Nat.reduceBEq, Int.reduceLE, Int.reduceLT, Int.reduceEq, Int.reduceNe, Int.reduceNeg, Nat.reduceDiv, Nat.reduceMod, Nat.reducePow, Za, ax4, bx4, cx4, hN0, hN]
    refine Zm [1, 2, 3, 4, 5, 6] [true, true, true, false, true] ?_
    simp only [push_cast, seval, ↓reduceIte]
    refine Zo ?_
    obtain ⟨l7, pl7, ql7, el7, hz1⟩ := bA (k := 1) rfl hz1
    refine Zc Zd [] ?_
    simp only [push_cast, seval, ↓reduceIte, Za, pl7, ql7, el7, hN0, hN]
    refine Zea ⟨53, [], [(1, .ref n 0), (2, .ref (n + 1) 0), (3, .row (n + 2) l7.length), (4, .val (.int .i64 s0_.1)), (5, .val (.int .i64 s0_.2.1)), (6, .ref (n + 4) 0)]⟩ (Zu O n [some ⟨false, 25, 3, 1, (Ze a0)⟩, some ⟨false, 25, 3, 1, [.val (.int .i64 0), .val (.slice none 0 0), .val (.slice none 0 0)]⟩, some ⟨true, 25, 3, l7.length, fl Zb l7⟩, none, some ⟨false, 25, 3, 1, (Ze y5)⟩, none]) (Zl hU rfl rfl ?_) ?_
    ·simp only [push_cast, seval, ↓reduceIte, Za, pl7, ql7, el7, hN0, hN]
    refine Zs [1, 2, 3, 4, 5, 31] (Zc Zd [] ?_)
    simp only [push_cast, seval, ↓reduceIte, Za, hN0, hN]
    refine Zt (t := (y5.Kind != 0)) rfl (fun c8 => ?_) (fun c8 => ?_)
    ·replace hz1 := Zx c8 hz1
     refine Zc Zd [] ?_
     simp only [push_cast, seval, ↓reduceIte, Za, hN0, hN]
     have hz1 := Option.some.inj hz1; subst hz1
     refine And.intro rfl (Fit2.of (Zl hU rfl rfl ?_) (by omega))
     simp only [push_cast, seval, ↓reduceIte, Za, hN0, hN]
    replace hz1 := Zy c8 hz1
    refine Z3 ?_
    try simp only [Zn, Zj]
    have hz1 := Option.some.inj hz1; subst hz1
    refine And.intro rfl (Fit2.of (Zl hU rfl rfl ?_) (by omega))
    simp only [push_cast, seval, ↓reduceIte, Za, hN0, hN]
   refine Zc Zd [] ?_
   simp only [push_cast, seval, ↓reduceIte, Za, hN0, hN]
   have hs0_ := Option.some.inj hs0_; subst hs0_
   refine And.intro rfl (Fit2.of (Zl hU rfl rfl ?_) (by omega))
   simp only [push_cast, seval, ↓reduceIte, Za, hN0, hN]
  replace hs0_ := Zy c9 hs0_
  refine Xw ?_
  try simp only [Zn, Zj, ↓reduceIte, Nat.reduceEqDiff]
  have hs0_ := Option.some.inj hs0_; subst hs0_
  refine And.intro (fun h => by cases h) (And.intro rfl (Fit2.of (Zl hU rfl rfl ?_) (by omega)))
  simp only [push_cast, seval, ↓reduceIte, Za, hN0, hN]
 try simp only [Zn, Zj, ↓reduceIte, Nat.reduceEqDiff]
 refine Zm [1, 2, 3, 4] [true, true, true, false] ?_
 simp only [push_cast, seval, ↓reduceIte]
 refine Zo ?_
 refine Zs [1, 2, 3, 4, 36] (Zc Zd [] ?_)
 simp only [push_cast, seval, ↓reduceIte, Za, hN0, hN]
 refine Zt (t := (a0.Kind == 1)) rfl (fun c18 => ?_) (fun c18 => ?_)
 ·replace h := Zx c18 h
  refine Zea ⟨53, [], [(1, .ref n 0), (2, .ref (n + 1) 0), (3, .sl z10.2.length (fl Zb z10.2)), (4, .val (.int .i64 z10.1))]⟩ (Zu O n [some ⟨false, 25, 3, 1, (Ze a0)⟩, some ⟨false, 25, 3, 1, [.val (.int .i64 0), .val (.slice none 0 0), .val (.slice none 0 0)]⟩, none, none]) (Zl hU rfl rfl ?_) ?_
  ·simp only [push_cast, seval, ↓reduceIte, Za, hN0, hN]
  refine Zo ?_
  obtain ⟨y14, hy14, h⟩ := bC h
  obtain ⟨l15, al15, bl15, cl15, gl15, h⟩ := bS (lo := none) (hi := (some (.i64, z10.1))) (f := Zb) rfl rfl Zcv Vq (fun _ => rfl) h
  refine Zdr Zd (by kernel_rfl) [false, false, false, false, false, false, false, true] [] (by kernel_rfl) ?_
  simp only [push_cast, seval, ↓reduceIte, Za, al15, bl15, cl15, gl15, hN0, hN]
  refine PCall.of (Zkj hy14) ?_
  simp only [push_cast, seval, ↓reduceIte, Za, al15, bl15, cl15, gl15, hN0, hN]
  refine Zm [2] [false, true, false, false] ?_
  simp only [push_cast, seval, ↓reduceIte]
  refine Z6 ?_
  try simp only [Zn, Zj]
  have h := Option.some.inj h; subst h
  refine Zz (.inr rfl) hU [.agg [.val (.int .i64 1), .sl y14.length (fl (eI .u64) y14), .sl l15.length (fl Zb l15)]] (by omega) ?_
  simp only [push_cast, seval, ↓reduceIte, Za, Try.results31, hN0, hN]
 replace h := Zy c18 h
 refine Z3 ?_
 try simp only [Zn, Zj]
 refine Zm [1, 2, 3] [true, true, true, false] ?_
 simp only [push_cast, seval, ↓reduceIte]
 refine Zs [1, 2, 3, 7] (Zc Zd [] ?_)
 simp only [push_cast, seval, ↓reduceIte, Za, hN0, hN]
 refine Zo ?_
 obtain ⟨l17, pl17, ql17, el17, h⟩ := bA0 (k := a0.Words.length) rfl h
 refine Zc Zd [] ?_
 simp only [push_cast, seval, ↓reduceIte, Za, pl17, ql17, el17, hN0, hN]
 refine Zea ⟨53, [], [(1, .ref n 0), (2, .ref (n + 1) 0), (3, .row (n + 2) z10.2.length), (7, .row (n + 4) l17.length)]⟩ (Zu O n [some ⟨false, 25, 3, 1, (Ze a0)⟩, some ⟨false, 25, 3, 1, [.val (.int .i64 0), .val (.slice none 0 0), .val (.slice none 0 0)]⟩, some ⟨true, 25, 3, z10.2.length, fl Zb z10.2⟩, none, some ⟨true, 56, 1, l17.length, fl (eI .u64) l17⟩]) (Zl hU rfl rfl ?_) ?_
 ·simp only [push_cast, seval, ↓reduceIte, Za, pl17, ql17, el17, hN0, hN]
 refine Zo ?_
 refine Zc Zd [] ?_
 simp only [push_cast, seval, ↓reduceIte, Za, hN0, hN]
 refine Zm [2] [false, true, true, false, true] ?_
 simp only [push_cast, seval, ↓reduceIte]
 refine Z6 ?_
 try simp only [Zn, Zj]
 have h := Option.some.inj h; subst h
 refine Zz (.inr rfl) hU [.agg [.val (.int .i64 a0.Kind), .row (n + 4) l17.length, .row (n + 2) z10.2.length]] (by omega) ?_
 simp only [push_cast, seval, ↓reduceIte, Za, Try.results31, hN0, hN]
theorem Zhn : ∀ k, (∀ {a0 : S_api_Tree} {r : S_api_Tree} {O : Objs} {n : Nat}, (Xk k) a0 = some r → GTo Try.prog 31 [.agg (Ze a0)] O n (.agg (Ze r)) O n) := fun k => by
 induction k with
 | zero => exact @fun a0 r O n h => (nomatch (show (none : Option _) = some _ from h))
 | succ k ih => exact @fun a0 r O n h => Zjf (ih)  h
theorem Zex {a0 : S_api_Tree} {r : S_api_Tree} {O : Objs} {n : Nat} (h : V9 a0 = some r) : GTo Try.prog 31 [.agg (Ze a0)] O n (.agg (Ze r)) O n := by
 obtain ⟨k, hk⟩ := Us h
 exact (Zhn k)  hk
theorem Zj1 {a0 : (List Int)} {a1 : (List Int)} {r : Bool} {O : Objs} {n : Nat} (h : Uf a0 a1 = some r) : GTo Try.prog 60 [.sl a0.length (fl (eI .u64) a0), .sl a1.length (fl (eI .u64) a1)] O n (.val (.bool r)) O n := by
 unfold Uf at h
 refine Xf Zd Try.call60 Try.func60 rfl (Nat.le_of_ble_eq_true rfl) (Nat.le_refl _) fun hU => ?_
 have hN0 : O n = none := hU.fresh _ (Nat.le_refl _)
 have hN : ∀ k, O (n + k) = none := fun k => hU.fresh _ (Nat.le_add_right _ _)
 show W _ _ _ _ ⟨26, [], [(0, .sl a0.length (fl (eI .u64) a0)), (1, .sl a1.length (fl (eI .u64) a1))]⟩ (Zu O n []) _
 refine Zs [0, 1] (Zc Zd [] ?_)
 simp only [push_cast, seval, ↓reduceIte, Za, hN0, hN]
 refine Zo ?_
 refine Zs [0, 1, 10] (Zc Zd [] ?_)
 simp only [push_cast, seval, ↓reduceIte, Za, hN0, hN]
 refine Zt (t := ((a0.length : Int) != (a1.length : Int))) rfl (fun c8 => ?_) (fun c8 => ?_)
 ·replace h := Zx c8 h
  refine Zs [4] (Zc Zd [] ?_)
  simp only [push_cast, seval, ↓reduceIte, Za, hN0, hN]
  refine Z6 ?_
  try simp only [Zn, Zj]
  have h := Option.some.inj h; subst h
  refine Zz (.inr rfl) hU [.val (.bool false)] (by omega) ?_
  simp only [push_cast, seval, ↓reduceIte, Za, Try.results60, hN0, hN]
 replace h := Zy c8 h
 refine Z3 ?_
 try simp only [Zn, Zj]
 refine Zm [0, 1] [] ?_
 simp only [push_cast, seval, ↓reduceIte]
 refine Zo ?_
 refine Zs [0, 1, 5] (Zc Zd [] ?_)
 simp only [push_cast, seval, ↓reduceIte, Za, hN0, hN]
 refine Zm [0, 1, 5] [] ?_
 simp only [push_cast, seval, ↓reduceIte]
 obtain ⟨z7, hz7, h⟩ := bC h
 refine Zcf (J := (Jb (fun z7 => JR n (⟨26, [], [(4, .val (.bool false))]⟩ : Env) (Zu O n []) n) (fun z7 => JX 0 n (⟨26, [], []⟩ : Env) (Zu O n []) n))) (z := z7) ?_ fun hw => ?_
 ·refine Xa hz7 (fun s0_ => ⟨26, [], [(0, .sl a0.length (fl (eI .u64) a0)), (1, .sl a1.length (fl (eI .u64) a1)), (5, .val (.int .i64 s0_))]⟩) (fun s0_ => (Zu O n [])) (Jb (fun z7 => JR n (⟨26, [], [(4, .val (.bool false))]⟩ : Env) (Zu O n []) n) (fun z7 => JX 0 n (⟨26, [], []⟩ : Env) (Zu O n []) n)) ?_
  intro s0_ x0_ hs0_
  unfold Kk at hs0_
  try dsimp only
  refine Zo ?_
  refine Zs [0, 1, 5, 14] (Zc Zd [] ?_)
  simp only [push_cast, seval, ↓reduceIte, Za, hN0, hN]
  refine Zt (t := (decide (s0_ < (a0.length : Int)))) rfl (fun c6 => ?_) (fun c6 => ?_)
  ·replace hs0_ := Zx c6 hs0_
   refine Z3 ?_
   try simp only [Zn, Zj]
   refine Zm [0, 1, 5] [] ?_
   simp only [push_cast, seval, ↓reduceIte]
   refine Zo ?_
   refine Yw ?_
   obtain ⟨x3, hx3, ax3, bx3, cx3, hs0_⟩ := bE (f := (eI .u64)) Ze0 (fun _ => rfl) (by decide) hs0_
   obtain ⟨x4, hx4, ax4, bx4, cx4, hs0_⟩ := bE (f := (eI .u64)) Ze0 (fun _ => rfl) (by decide) hs0_
   refine Zs [0, 1, 5, 25] (Q2 Zd (by kernel_rfl) [] (by kernel_rfl) ?_)
   simp only [push_cast, Nat.reduceAdd, Nat.reduceSub, Nat.reduceMul, Nat.reduceLeDiff, Nat.reduceLT, Nat.reduceEqDiff, ↓reduceIte, reduceCtorEq, Int.reduceBEq, Int.reduceBNe, Nat.reduceBEq, Int.reduceLE, Int.reduceLT, Int.reduceEq, Int.reduceNe, Int.reduceNeg, Nat.reduceDiv, Nat.reduceMod, Nat.reducePow, Za, ax3, bx3, cx3, ax4, bx4, cx4, hN0, hN]
   refine Zt (t := (x3 != x4)) rfl (fun c5 => ?_) (fun c5 => ?_)
   ·replace hs0_ := Zx c5 hs0_
    refine Zs [4] (Zc Zd [] ?_)
    simp only [push_cast, seval, ↓reduceIte, Za, hN0, hN]
    refine Z6 ?_
    try simp only [Zn, Zj]
    have hs0_ := Option.some.inj hs0_; subst hs0_
    refine And.intro (fun h => by cases h) (And.intro rfl (Fit2.of (Zl hU rfl rfl ?_) (by omega)))
    simp only [push_cast, seval, ↓reduceIte, Za, hN0, hN]
   replace hs0_ := Zy c5 hs0_
   refine Z3 ?_
   try simp only [Zn, Zj]
   refine Zm [0, 1, 5] [] ?_
   simp only [push_cast, seval, ↓reduceIte]
   refine Zc Zd [] ?_
   simp only [push_cast, seval, ↓reduceIte, Za, hN0, hN]
   have hs0_ := Option.some.inj hs0_; subst hs0_
   refine And.intro rfl (Fit2.of (Zl hU rfl rfl ?_) (by omega))
   simp only [push_cast, seval, ↓reduceIte, Za, hN0, hN]
  replace hs0_ := Zy c6 hs0_
  refine Xw ?_
  try simp only [Zn, Zj, ↓reduceIte, Nat.reduceEqDiff]
  have hs0_ := Option.some.inj hs0_; subst hs0_
  refine And.intro (fun h => by cases h) (And.intro rfl (Fit2.of (Zl hU rfl rfl ?_) (by omega)))
  simp only [push_cast, seval, ↓reduceIte, Za, hN0, hN]
 rcases z7 with z7 | z7
 ·dsimp only [Jb] at hw h
  refine Uh hw ?_
  try simp only [Zn, Zj, ↓reduceIte, Nat.reduceEqDiff]
  have h := Option.some.inj h; subst h
  refine Zz (.inr rfl) hU [.val (.bool false)] (by omega) ?_
  simp only [push_cast, seval, ↓reduceIte, Za, Try.results60, hN0, hN]
 dsimp only [Jb] at hw h
 refine Yy hw ?_
 try simp only [Zn, Zj, ↓reduceIte, Nat.reduceEqDiff]
 refine Zm [] [] ?_
 simp only [push_cast, seval, ↓reduceIte]
 refine Zs [4] (Zc Zd [] ?_)
 simp only [push_cast, seval, ↓reduceIte, Za, hN0, hN]
 refine Z6 ?_
 try simp only [Zn, Zj]
 have h := Option.some.inj h; subst h
 refine Zz (.inr rfl) hU [.val (.bool true)] (by omega) ?_
 simp only [push_cast, seval, ↓reduceIte, Za, Try.results60, hN0, hN]
theorem Zjb {Ku : (S_api_Tree → S_api_Tree → Option Bool)} (Zhu : ∀ {a0 : S_api_Tree} {a1 : S_api_Tree} {r : Bool} {O : Objs} {n : Nat}, Ku a0 a1 = some r → GTo Try.prog 25 [.agg (Ze a0), .agg (Ze a1)] O n (.val (.bool r)) O n) {a0 : S_api_Tree} {a1 : S_api_Tree} {r : Bool} {O : Objs} {n : Nat} (h : Uc Ku a0 a1 = some r) : GTo Try.prog 25 [.agg (Ze a0), .agg (Ze a1)] O n (.val (.bool r)) O n := by
 unfold Uc at h
 refine Xf Zd Try.call25 Try.func25 rfl (Nat.le_of_ble_eq_true rfl) (Nat.le_refl _) fun hU => ?_
 have hN0 : O n = none := hU.fresh _ (Nat.le_refl _)
 have hN : ∀ k, O (n + k) = none := fun k => hU.fresh _ (Nat.le_add_right _ _)
 show W _ _ _ _ ⟨47, [], [(0, .agg (Ze a0)), (1, .agg (Ze a1))]⟩ (Zu O n []) _
 refine Zs [2, 3] (Zc Zd [] ?_)
 simp only [push_cast, seval, ↓reduceIte, Za, hN0, hN]
 refine Zo ?_
 obtain ⟨z2, hz2, h⟩ := bC h
 refine Y8 (E' := ⟨47, [], [(2, .ref n 0), (3, .ref (n + 1) 0), (27, .val (.bool z2))]⟩) (O' := (Zu O n [some ⟨false, 25, 3, 1, (Ze a0)⟩, some ⟨false, 25, 3, 1, (Ze a1)⟩])) (n0 := (n + 2)) ?_ ?_
 ·rcases Bool.eq_false_or_eq_true (a0.Kind != a1.Kind) with c5 | c5
  ·replace hz2 := Zx c5 hz2
   refine Zc Zd [some false, some false, some false, some false, some false, some false, some false, some false, some false, some false, some false, some false, some false] ?_
   simp only [push_cast, seval, ↓reduceIte, Za, c5, hN0, hN]
   have hz2 := Option.some.inj hz2; subst hz2
   refine And.intro rfl (Fit2.of (Zl hU rfl rfl ?_) (by omega))
   simp only [push_cast, seval, ↓reduceIte, Za, c5, hN0, hN]
  replace hz2 := Zy c5 hz2
  obtain ⟨y4, hy4, hz2⟩ := bC hz2
  refine Zc Zd [some true, some true, some true, some true, some true, some true, none, none, none, none, none, none, none] ?_
  simp only [push_cast, seval, ↓reduceIte, Za, c5, hN0, hN]
  repeat (with_reducible refine And.intro (by first | (intro h0; simp only [h0, and_self]; done) | (intro h0; simp only [h0, Bool.not_false, Bool.not_true, Bool.true_and, Bool.and_true, true_and, and_true, and_self, imp_self, implies_true, bne_iff_ne, ne_eq, beq_iff_eq]; done) | (intros; simp_all; done) | exact True.intro) ?_)
  refine (Zj1 hy4).then ?_
  simp only [push_cast, seval, ↓reduceIte, Za, c5, hN0, hN]
  repeat (with_reducible refine And.intro (by first | (intro h0; simp only [h0, and_self]; done) | (intro h0; simp only [h0, Bool.not_false, Bool.not_true, Bool.true_and, Bool.and_true, true_and, and_true, and_self, imp_self, implies_true, bne_iff_ne, ne_eq, beq_iff_eq]; done) | (intros; simp_all; done) | exact True.intro) ?_)
  have hz2 := Option.some.inj hz2; subst hz2
  refine And.intro rfl (Fit2.of (Zl hU rfl rfl ?_) (by omega))
  simp only [push_cast, seval, ↓reduceIte, Za, c5, hN0, hN]
 refine Zt (t := z2) rfl (fun c15 => ?_) (fun c15 => ?_)
 ·replace h := Zx c15 h
  refine Zs [4] (Zc Zd [] ?_)
  simp only [push_cast, seval, ↓reduceIte, Za, hN0, hN]
  refine Z6 ?_
  try simp only [Zn, Zj]
  have h := Option.some.inj h; subst h
  refine Zz (.inr rfl) hU [.val (.bool false)] (by omega) ?_
  simp only [push_cast, seval, ↓reduceIte, Za, Try.results25, hN0, hN]
 replace h := Zy c15 h
 refine Z3 ?_
 try simp only [Zn, Zj]
 refine Zm [2, 3] [true, true] ?_
 simp only [push_cast, seval, ↓reduceIte]
 refine Zo ?_
 refine Zs [2, 3, 5] (Zc Zd [] ?_)
 simp only [push_cast, seval, ↓reduceIte, Za, hN0, hN]
 refine Zm [2, 3, 5] [true, true] ?_
 simp only [push_cast, seval, ↓reduceIte]
 obtain ⟨z14, hz14, h⟩ := bC h
 refine Zcf (J := (Jb (fun z14 => JR n (⟨47, [], [(4, .val (.bool false))]⟩ : Env) (Zu O n [none, none]) (n + 2)) (fun z14 => JX 0 n (⟨47, [], []⟩ : Env) (Zu O n [none, none]) (n + 2)))) (z := z14) ?_ fun hw => ?_
 ·refine Xa hz14 (fun s0_ => ⟨47, [], [(2, .ref n 0), (3, .ref (n + 1) 0), (5, .val (.int .i64 s0_))]⟩) (fun s0_ => (Zu O n [some ⟨false, 25, 3, 1, (Ze a0)⟩, some ⟨false, 25, 3, 1, (Ze a1)⟩])) (Jb (fun z14 => JR n (⟨47, [], [(4, .val (.bool false))]⟩ : Env) (Zu O n [none, none]) (n + 2)) (fun z14 => JX 0 n (⟨47, [], []⟩ : Env) (Zu O n [none, none]) (n + 2))) ?_
  intro s0_ x0_ hs0_
  unfold Ki at hs0_
  try dsimp only
  refine Zo ?_
  refine Zs [2, 3, 5, 32] (Zc Zd [] ?_)
  simp only [push_cast, seval, ↓reduceIte, Za, hN0, hN]
  refine Zt (t := (decide (s0_ < (a0.Kids.length : Int)))) rfl (fun c13 => ?_) (fun c13 => ?_)
  ·replace hs0_ := Zx c13 hs0_
   refine Z3 ?_
   try simp only [Zn, Zj]
   refine Zm [2, 3, 5] [true, true] ?_
   simp only [push_cast, seval, ↓reduceIte]
   refine Zo ?_
   refine Yw ?_
   refine Zo ?_
   obtain ⟨x9, hx9, ax9, bx9, cx9, hs0_⟩ := bE (f := Zb) Vq (fun _ => rfl) (by decide) hs0_
   obtain ⟨x10, hx10, ax10, bx10, cx10, hs0_⟩ := bE (f := Zb) Vq (fun _ => rfl) (by decide) hs0_
   obtain ⟨y11, hy11, hs0_⟩ := bC hs0_
   refine Q2 Zd (by kernel_rfl) [] (by kernel_rfl) ?_
   simp only [push_cast, Nat.reduceAdd, Nat.reduceSub, Nat.reduceMul, Nat.reduceLeDiff, Nat.reduceLT, Nat.reduceEqDiff, ↓reduceIte, reduceCtorEq, Int.reduceBEq, Int.reduceBNe, Nat.reduceBEq, Int.reduceLE, Int.reduceLT, Int.reduceEq, Int.reduceNe, Int.reduceNeg, Nat.reduceDiv, Nat.reduceMod, Nat.reducePow, Za, ax9, bx9, cx9, ax10, bx10, cx10, hN0, hN]
   refine PCall.of (Zhu hy11) ?_
   simp only [push_cast, Nat.reduceAdd, Nat.reduceSub, Nat.reduceMul, Nat.reduceLeDiff, Nat.reduceLT, Nat.reduceEqDiff, ↓reduceIte, reduceCtorEq, Int.reduceBEq, Int.reduceBNe, Nat.reduceBEq, Int.reduceLE, Int.reduceLT, Int.reduceEq, Int.reduceNe, Int.reduceNeg, Nat.reduceDiv, Nat.reduceMod, Nat.reducePow, Za, ax9, bx9, cx9, ax10, bx10, cx10, hN0, hN]
   refine Zm [2, 3, 5, 46] [true, true] ?_
   simp only [push_cast, seval, ↓reduceIte]
   refine Zt (t := (!y11)) rfl (fun c12 => ?_) (fun c12 => ?_)
   ·replace hs0_ := Zx c12 hs0_
    refine Zs [4] (Zc Zd [] ?_)
    simp only [push_cast, seval, ↓reduceIte, Za, hN0, hN]
    refine Z6 ?_
    try simp only [Zn, Zj]
    have hs0_ := Option.some.inj hs0_; subst hs0_
    refine And.intro (fun h => by cases h) (And.intro rfl (Fit2.of (Zl hU rfl rfl ?_) (by omega)))
    simp only [push_cast, seval, ↓reduceIte, Za, hN0, hN]
   replace hs0_ := Zy c12 hs0_
   refine Z3 ?_
   try simp only [Zn, Zj]
   refine Zm [2, 3, 5] [true, true] ?_
   simp only [push_cast, seval, ↓reduceIte]
   refine Zc Zd [] ?_
   simp only [push_cast, seval, ↓reduceIte, Za, hN0, hN]
   have hs0_ := Option.some.inj hs0_; subst hs0_
   refine And.intro rfl (Fit2.of (Zl hU rfl rfl ?_) (by omega))
   simp only [push_cast, seval, ↓reduceIte, Za, hN0, hN]
  replace hs0_ := Zy c13 hs0_
  refine Xw ?_
  try simp only [Zn, Zj, ↓reduceIte, Nat.reduceEqDiff]
  have hs0_ := Option.some.inj hs0_; subst hs0_
  refine And.intro (fun h => by cases h) (And.intro rfl (Fit2.of (Zl hU rfl rfl ?_) (by omega)))
  simp only [push_cast, seval, ↓reduceIte, Za, hN0, hN]
 rcases z14 with z14 | z14
 ·dsimp only [Jb] at hw h
  refine Uh hw ?_
  try simp only [Zn, Zj, ↓reduceIte, Nat.reduceEqDiff]
  have h := Option.some.inj h; subst h
  refine Zz (.inr rfl) hU [.val (.bool false)] (by omega) ?_
  simp only [push_cast, seval, ↓reduceIte, Za, Try.results25, hN0, hN]
 dsimp only [Jb] at hw h
 refine Yy hw ?_
 try simp only [Zn, Zj, ↓reduceIte, Nat.reduceEqDiff]
 refine Zm [] [false, false] ?_
 simp only [push_cast, seval, ↓reduceIte]
 refine Zs [4] (Zc Zd [] ?_)
 simp only [push_cast, seval, ↓reduceIte, Za, hN0, hN]
 refine Z6 ?_
 try simp only [Zn, Zj]
 have h := Option.some.inj h; subst h
 refine Zz (.inr rfl) hU [.val (.bool true)] (by omega) ?_
 simp only [push_cast, seval, ↓reduceIte, Za, Try.results25, hN0, hN]
theorem Zho : ∀ k, (∀ {a0 : S_api_Tree} {a1 : S_api_Tree} {r : Bool} {O : Objs} {n : Nat}, (Q3 k) a0 a1 = some r → GTo Try.prog 25 [.agg (Ze a0), .agg (Ze a1)] O n (.val (.bool r)) O n) := fun k => by
 induction k with
 | zero => exact @fun a0 a1 r O n h => (nomatch (show (none : Option _) = some _ from h))
 | succ k ih => exact @fun a0 a1 r O n h => Zjb (ih)  h
theorem Zeu {a0 : S_api_Tree} {a1 : S_api_Tree} {r : Bool} {O : Objs} {n : Nat} (h : V5 a0 a1 = some r) : GTo Try.prog 25 [.agg (Ze a0), .agg (Ze a1)] O n (.val (.bool r)) O n := by
 obtain ⟨k, hk⟩ := Us h
 exact (Zho k)  hk
theorem Zgb {a0 : S_api_Edit} {a1 : S_api_Tree} {r : Bool} {O : Objs} {n : Nat} (h : Ks a0 a1 = some r) : GTo Try.prog 7 [.agg (Zg a0), .agg (Ze a1)] O n (.val (.bool r)) O n := by
 unfold Ks at h
 refine Xf Zd Try.call7 Try.func7 rfl (Nat.le_of_ble_eq_true rfl) (Nat.le_refl _) fun hU => ?_
 have hN0 : O n = none := hU.fresh _ (Nat.le_refl _)
 have hN : ∀ k, O (n + k) = none := fun k => hU.fresh _ (Nat.le_add_right _ _)
 show W _ _ _ _ ⟨78, [], [(0, .agg (Zg a0)), (1, .agg (Ze a1))]⟩ (Zu O n []) _
 refine Zs [2, 3] (Zc Zd [] ?_)
 simp only [push_cast, seval, ↓reduceIte, Za, hN0, hN]
 refine Zo ?_
 obtain ⟨z3, hz3, h⟩ := bC h
 refine Y8 (E' := ⟨78, [], [(2, .ref n 0), (3, .ref (n + 1) 0), (21, .val (.bool z3))]⟩) (O' := (Zu O n [some ⟨false, 30, 11, 1, (Zg a0)⟩, some ⟨false, 25, 3, 1, (Ze a1)⟩])) (n0 := (n + 2)) ?_ ?_
 ·obtain ⟨y6, hy6, hz3⟩ := bC hz3
  rcases Bool.eq_false_or_eq_true y6 with c8 | c8
  ·replace hz3 := Zx c8 hz3
   obtain ⟨y7, hy7, hz3⟩ := bC hz3
   refine Zc Zd [some true, some true, some true] ?_
   simp only [push_cast, seval, ↓reduceIte, Za, c8, hN0, hN]
   refine (Gc hy6).then ?_
   simp only [push_cast, seval, ↓reduceIte, Za, c8, hN0, hN]
   refine (Zj2 hy7).then ?_
   simp only [push_cast, seval, ↓reduceIte, Za, c8, hN0, hN]
   have hz3 := Option.some.inj hz3; subst hz3
   refine And.intro rfl (Fit2.of (Zl hU rfl rfl ?_) (by omega))
   simp only [push_cast, seval, ↓reduceIte, Za, c8, hN0, hN]
  replace hz3 := Zy c8 hz3
  refine Zc Zd [some false, some false, some false] ?_
  simp only [push_cast, seval, ↓reduceIte, Za, c8, hN0, hN]
  refine (Gc hy6).then ?_
  simp only [push_cast, seval, ↓reduceIte, Za, c8, hN0, hN]
  have hz3 := Option.some.inj hz3; subst hz3
  refine And.intro rfl (Fit2.of (Zl hU rfl rfl ?_) (by omega))
  simp only [push_cast, seval, ↓reduceIte, Za, c8, hN0, hN]
 refine Zt (t := z3) rfl (fun c55 => ?_) (fun c55 => ?_)
 ·replace h := Zx c55 h
  refine Zo ?_
  obtain ⟨y10, hy10, h⟩ := bC h
  refine Zc Zd [] ?_
  simp only [push_cast, seval, ↓reduceIte, Za, hN0, hN]
  refine (Zei hy10).then ?_
  simp only [push_cast, seval, ↓reduceIte, Za, hN0, hN]
  refine Zm [4] [false, false] ?_
  simp only [push_cast, seval, ↓reduceIte]
  refine Z6 ?_
  try simp only [Zn, Zj]
  have h := Option.some.inj h; subst h
  refine Zz (.inr rfl) hU [.val (.bool y10)] (by omega) ?_
  simp only [push_cast, seval, ↓reduceIte, Za, Try.results7, hN0, hN]
 replace h := Zy c55 h
 refine Z3 ?_
 try simp only [Zn, Zj]
 refine Zm [2, 3] [true, true] ?_
 simp only [push_cast, seval, ↓reduceIte]
 refine Zo ?_
 obtain ⟨y12, hy12, h⟩ := bC h
 refine Zc Zd [] ?_
 simp only [push_cast, seval, ↓reduceIte, Za, hN0, hN]
 refine (Zii hy12).then ?_
 simp only [push_cast, seval, ↓reduceIte, Za, hN0, hN]
 refine Zm [2, 3, 5] [true, true, true] ?_
 simp only [push_cast, seval, ↓reduceIte]
 obtain ⟨z13, hz13, h⟩ := bC h
 refine Z5d (J := (Jb (fun z13 => JN n (⟨78, [], [(2, .ref n 0), (3, .ref (n + 1) 0), (5, .ref (n + 2) 0)]⟩ : Env) (Zu O n [some ⟨false, 30, 11, 1, (Zg a0)⟩, some ⟨false, 25, 3, 1, (Ze a1)⟩, some ⟨false, 30, 11, 1, (Zg y12)⟩, none, none]) (n + 5)) (fun z13 => JR n (⟨78, [], [(4, .val (.bool false))]⟩ : Env) (Zu O n [none, none, none]) (n + 3)))) (z := z13) ?_ fun hw => ?_
 ·refine Zo ?_
  obtain ⟨y15, hy15, hz13⟩ := bC hz13
  refine Zc Zd [] ?_
  simp only [push_cast, seval, ↓reduceIte, Za, hN0, hN]
  refine (Zdq hy15).then ?_
  simp only [push_cast, seval, ↓reduceIte, Za, hN0, hN]
  refine Zm [2, 3, 5, 6, 7] [true, true, true, true] ?_
  simp only [push_cast, seval, ↓reduceIte]
  obtain ⟨z17, hz17, hz13⟩ := bC hz13
  refine Y8 (E' := ⟨78, [], [(2, .ref n 0), (3, .ref (n + 1) 0), (5, .ref (n + 2) 0), (6, .ref (n + 3) 0), (35, .val (.bool z17))]⟩) (O' := (Zu O n [some ⟨false, 30, 11, 1, (Zg a0)⟩, some ⟨false, 25, 3, 1, (Ze a1)⟩, some ⟨false, 30, 11, 1, (Zg y12)⟩, some ⟨false, 25, 3, 1, (Ze y15.1)⟩])) (n0 := (n + 4)) ?_ ?_
  ·rcases Bool.eq_false_or_eq_true y15.2 with c20 | c20
   ·replace hz17 := Zx c20 hz17
    obtain ⟨y19, hy19, hz17⟩ := bC hz17
    refine Zc Zd [some true, some true] ?_
    simp only [push_cast, seval, ↓reduceIte, Za, c20, hN0, hN]
    refine (Gc hy19).then ?_
    simp only [push_cast, seval, ↓reduceIte, Za, c20, hN0, hN]
    have hz17 := Option.some.inj hz17; subst hz17
    refine And.intro rfl (Fit2.of (Zl hU rfl rfl ?_) (by omega))
    simp only [push_cast, seval, ↓reduceIte, Za, c20, hN0, hN]
   replace hz17 := Zy c20 hz17
   refine Zc Zd [some false, some false] ?_
   simp only [push_cast, seval, ↓reduceIte, Za, c20, hN0, hN]
   have hz17 := Option.some.inj hz17; subst hz17
   refine And.intro rfl (Fit2.of (Zl hU rfl rfl ?_) (by omega))
   simp only [push_cast, seval, ↓reduceIte, Za, c20, hN0, hN]
  refine Zt (t := z17) rfl (fun c32 => ?_) (fun c32 => ?_)
  ·replace hz13 := Zx c32 hz13
   refine Zo ?_
   obtain ⟨y22, hy22, hz13⟩ := bC hz13
   refine Zc Zd [] ?_
   simp only [push_cast, seval, ↓reduceIte, Za, hN0, hN]
   refine (Zdq hy22).then ?_
   simp only [push_cast, seval, ↓reduceIte, Za, hN0, hN]
   refine Zm [2, 3, 5, 8, 9] [true, true, true, false, true] ?_
   simp only [push_cast, seval, ↓reduceIte]
   obtain ⟨z25, hz25, hz13⟩ := bC hz13
   refine Y8 (E' := ⟨78, [], [(2, .ref n 0), (3, .ref (n + 1) 0), (5, .ref (n + 2) 0), (50, .val (.bool z25))]⟩) (O' := (Zu O n [some ⟨false, 30, 11, 1, (Zg a0)⟩, some ⟨false, 25, 3, 1, (Ze a1)⟩, some ⟨false, 30, 11, 1, (Zg y12)⟩, none, none])) (n0 := (n + 5)) ?_ ?_
   ·rcases Bool.eq_false_or_eq_true y22.2 with c30 | c30
    ·replace hz25 := Zx c30 hz25
     obtain ⟨y28, hy28, hz25⟩ := bC hz25
     obtain ⟨y29, hy29, hz25⟩ := bC hz25
     refine Q2 Zd (by kernel_rfl) [some true, some true, some true, some true, some true] (by kernel_rfl) ?_
     simp only [push_cast, seval, ↓reduceIte, Za, c30, hN0, hN]
     refine PCall.of (Zex hy28) ?_
     simp only [push_cast, seval, ↓reduceIte, Za, c30, hN0, hN]
     refine PCall.of (Zeu hy29) ?_
     simp only [push_cast, seval, ↓reduceIte, Za, c30, hN0, hN]
     have hz25 := Option.some.inj hz25; subst hz25
     refine And.intro rfl (Fit2.of (Zl hU rfl rfl ?_) (by omega))
     simp only [push_cast, seval, ↓reduceIte, Za, c30, hN0, hN]
    replace hz25 := Zy c30 hz25
    refine Q2 Zd (by kernel_rfl) [some false, some false, some false, some false, some false] (by kernel_rfl) ?_
    simp only [push_cast, seval, ↓reduceIte, Za, c30, hN0, hN]
    have hz25 := Option.some.inj hz25; subst hz25
    refine And.intro rfl (Fit2.of (Zl hU rfl rfl ?_) (by omega))
    simp only [push_cast, seval, ↓reduceIte, Za, c30, hN0, hN]
   refine Zt (t := z25) rfl (fun c31 => ?_) (fun c31 => ?_)
   ·replace hz13 := Zx c31 hz13
    refine Zs [4] (Zc Zd [] ?_)
    simp only [push_cast, seval, ↓reduceIte, Za, hN0, hN]
    refine Z6 ?_
    try simp only [Zn, Zj]
    have hz13 := Option.some.inj hz13; subst hz13
    refine And.intro rfl (Fit2.of (Zl hU rfl rfl ?_) (by omega))
    simp only [push_cast, seval, ↓reduceIte, Za, hN0, hN]
   replace hz13 := Zy c31 hz13
   refine Z3 ?_
   try simp only [Zn, Zj]
   have hz13 := Option.some.inj hz13; subst hz13
   refine And.intro rfl (Fit2.of (Zl hU rfl rfl ?_) (by omega))
   simp only [push_cast, seval, ↓reduceIte, Za, hN0, hN]
  replace hz13 := Zy c32 hz13
  refine Z3 ?_
  try simp only [Zn, Zj]
  have hz13 := Option.some.inj hz13; subst hz13
  refine And.intro rfl (Fit2.of (Zl hU rfl rfl ?_) (by omega))
  simp only [push_cast, seval, ↓reduceIte, Za, hN0, hN]
 rcases z13 with z13 | z13
 ·dsimp only [Jb] at hw h
  refine Y8 hw ?_
  obtain ⟨z33, hz33, h⟩ := bC h
  refine Z5d (J := (Jb (fun z33 => JN n (⟨78, [], []⟩ : Env) (Zu O n [none, none, none, none, none, none, none]) (n + 7)) (fun z33 => JR n (⟨78, [], [(4, .val (.bool false))]⟩ : Env) (Zu O n [none, none, none, none, none]) (n + 5)))) (z := z33) ?_ fun hw => ?_
  ·refine Zo ?_
   obtain ⟨y35, hy35, hz33⟩ := bC hz33
   refine Zc Zd [] ?_
   simp only [push_cast, seval, ↓reduceIte, Za, hN0, hN]
   refine (Zdq hy35).then ?_
   simp only [push_cast, seval, ↓reduceIte, Za, hN0, hN]
   refine Zm [2, 3, 10, 11] [true, true, false, false, false, true] ?_
   simp only [push_cast, seval, ↓reduceIte]
   obtain ⟨z37, hz37, hz33⟩ := bC hz33
   refine Y8 (E' := ⟨78, [], [(2, .ref n 0), (3, .ref (n + 1) 0), (10, .ref (n + 5) 0), (61, .val (.bool z37))]⟩) (O' := (Zu O n [some ⟨false, 30, 11, 1, (Zg a0)⟩, some ⟨false, 25, 3, 1, (Ze a1)⟩, none, none, none, some ⟨false, 25, 3, 1, (Ze y35.1)⟩])) (n0 := (n + 6)) ?_ ?_
   ·rcases Bool.eq_false_or_eq_true y35.2 with c40 | c40
    ·replace hz37 := Zx c40 hz37
     obtain ⟨y39, hy39, hz37⟩ := bC hz37
     refine Zc Zd [some true, some true] ?_
     simp only [push_cast, seval, ↓reduceIte, Za, c40, hN0, hN]
     refine (Gc hy39).then ?_
     simp only [push_cast, seval, ↓reduceIte, Za, c40, hN0, hN]
     have hz37 := Option.some.inj hz37; subst hz37
     refine And.intro rfl (Fit2.of (Zl hU rfl rfl ?_) (by omega))
     simp only [push_cast, seval, ↓reduceIte, Za, c40, hN0, hN]
    replace hz37 := Zy c40 hz37
    refine Zc Zd [some false, some false] ?_
    simp only [push_cast, seval, ↓reduceIte, Za, c40, hN0, hN]
    have hz37 := Option.some.inj hz37; subst hz37
    refine And.intro rfl (Fit2.of (Zl hU rfl rfl ?_) (by omega))
    simp only [push_cast, seval, ↓reduceIte, Za, c40, hN0, hN]
   refine Zt (t := z37) rfl (fun c52 => ?_) (fun c52 => ?_)
   ·replace hz33 := Zx c52 hz33
    refine Zo ?_
    obtain ⟨y42, hy42, hz33⟩ := bC hz33
    refine Zc Zd [] ?_
    simp only [push_cast, seval, ↓reduceIte, Za, hN0, hN]
    refine (Zdq hy42).then ?_
    simp only [push_cast, seval, ↓reduceIte, Za, hN0, hN]
    refine Zm [3, 12, 13] [false, true, false, false, false, false, true] ?_
    simp only [push_cast, seval, ↓reduceIte]
    obtain ⟨z45, hz45, hz33⟩ := bC hz33
    refine Y8 (E' := ⟨78, [], [(76, .val (.bool z45))]⟩) (O' := (Zu O n [none, none, none, none, none, none, none])) (n0 := (n + 7)) ?_ ?_
    ·rcases Bool.eq_false_or_eq_true y42.2 with c50 | c50
     ·replace hz45 := Zx c50 hz45
      obtain ⟨y48, hy48, hz45⟩ := bC hz45
      obtain ⟨y49, hy49, hz45⟩ := bC hz45
      refine Q2 Zd (by kernel_rfl) [some true, some true, some true, some true, some true] (by kernel_rfl) ?_
      simp only [push_cast, seval, ↓reduceIte, Za, c50, hN0, hN]
      refine PCall.of (Zex hy48) ?_
      simp only [push_cast, seval, ↓reduceIte, Za, c50, hN0, hN]
      refine PCall.of (Zeu hy49) ?_
      simp only [push_cast, seval, ↓reduceIte, Za, c50, hN0, hN]
      have hz45 := Option.some.inj hz45; subst hz45
      refine And.intro rfl (Fit2.of (Zl hU rfl rfl ?_) (by omega))
      simp only [push_cast, seval, ↓reduceIte, Za, c50, hN0, hN]
     replace hz45 := Zy c50 hz45
     refine Q2 Zd (by kernel_rfl) [some false, some false, some false, some false, some false] (by kernel_rfl) ?_
     simp only [push_cast, seval, ↓reduceIte, Za, c50, hN0, hN]
     have hz45 := Option.some.inj hz45; subst hz45
     refine And.intro rfl (Fit2.of (Zl hU rfl rfl ?_) (by omega))
     simp only [push_cast, seval, ↓reduceIte, Za, c50, hN0, hN]
    refine Zt (t := z45) rfl (fun c51 => ?_) (fun c51 => ?_)
    ·replace hz33 := Zx c51 hz33
     refine Zs [4] (Zc Zd [] ?_)
     simp only [push_cast, seval, ↓reduceIte, Za, hN0, hN]
     refine Z6 ?_
     try simp only [Zn, Zj]
     have hz33 := Option.some.inj hz33; subst hz33
     refine And.intro rfl (Fit2.of (Zl hU rfl rfl ?_) (by omega))
     simp only [push_cast, seval, ↓reduceIte, Za, hN0, hN]
    replace hz33 := Zy c51 hz33
    refine Z3 ?_
    try simp only [Zn, Zj]
    have hz33 := Option.some.inj hz33; subst hz33
    refine And.intro rfl (Fit2.of (Zl hU rfl rfl ?_) (by omega))
    simp only [push_cast, seval, ↓reduceIte, Za, hN0, hN]
   replace hz33 := Zy c52 hz33
   refine Z3 ?_
   try simp only [Zn, Zj]
   have hz33 := Option.some.inj hz33; subst hz33
   refine And.intro rfl (Fit2.of (Zl hU rfl rfl ?_) (by omega))
   simp only [push_cast, seval, ↓reduceIte, Za, hN0, hN]
  rcases z33 with z33 | z33
  ·dsimp only [Jb] at hw h
   refine Y8 hw ?_
   refine Zo ?_
   obtain ⟨y54, hy54, h⟩ := bC h
   refine Zc Zd [] ?_
   simp only [push_cast, seval, ↓reduceIte, Za, hN0, hN]
   refine (Zei hy54).then ?_
   simp only [push_cast, seval, ↓reduceIte, Za, hN0, hN]
   refine Zm [4] [false, false, false, false, false, false, false] ?_
   simp only [push_cast, seval, ↓reduceIte]
   refine Z6 ?_
   try simp only [Zn, Zj]
   have h := Option.some.inj h; subst h
   refine Zz (.inr rfl) hU [.val (.bool y54)] (by omega) ?_
   simp only [push_cast, seval, ↓reduceIte, Za, Try.results7, hN0, hN]
  dsimp only [Jb] at hw h
  refine Z2d hw ?_
  try simp only [Zn, Zj]
  have h := Option.some.inj h; subst h
  refine Zz (.inr rfl) hU [.val (.bool false)] (by omega) ?_
  simp only [push_cast, seval, ↓reduceIte, Za, Try.results7, hN0, hN]
 dsimp only [Jb] at hw h
 refine Z2d hw ?_
 try simp only [Zn, Zj]
 have h := Option.some.inj h; subst h
 refine Zz (.inr rfl) hU [.val (.bool false)] (by omega) ?_
 simp only [push_cast, seval, ↓reduceIte, Za, Try.results7, hN0, hN]
end Go.Proofs.Ytbcgiaijjaocdaa
