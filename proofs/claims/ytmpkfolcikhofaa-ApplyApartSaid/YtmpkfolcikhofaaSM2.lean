/- Part SM2 of this seat's mirrors: functions of the seat's program, and the plain functions that they are; each theorem bears its own conditions. -/
import Derived.Test.YtmpkfolcikhofaaSE
import Derived.Test.YtmpkfolcikhofaaSM1
namespace Go.Proofs.Ytmpkfolcikhofaa
open Go.RowKit
set_option linter.unusedVariables false
set_option linter.unusedSimpArgs false
set_option maxRecDepth 100000
set_option maxHeartbeats 1000000
attribute [local push_cast] Zh Vi Ym Ze Q8 Zkx Zkw Zlf Zle Zk Zg Zhq Zdh Zdg onW Y7 Zaw Zae Zk1 Zj1 Zey evS wok X0 Op.operands Call.operands gop onK onP atK List.all_cons List.all_nil Bool.and_true Bool.true_and Bool.and_self Value.oneCell' List.take_zero List.take_succ_cons List.take_nil List.drop_zero List.drop_succ_cons List.drop_nil List.append_nil Nat.add_zero Nat.zero_add Vh Yb ev Qf Zj0 Zsv Zn4 Zn3 Zs0 Ze3 Zah Zep Zao Zfl Zcv K6 Zhr Zdi Uw Zeq Ux Zgf Ze2 Zpa bLo bHi bMx Zai Zge Zsw Ze1 Zg0 Zb3 Vt Zns Zs1 Zen Zs4 Zag Zuc Qe Zgh gone Zia Zdy Zdx pop TK.isAgg G.one G.under G.unders List.getD_cons_zero List.getD_cons_succ List.set_cons_zero List.set_cons_succ List.map_cons List.map_nil List.toList_toArray Array.toList_append Option.toArray_none Option.toArray_some Array.toList_map Option.map_some Option.map_none Option.bind_some Option.bind_none List.getElem?_cons_zero List.getElem?_cons_succ List.getElem?_nil List.nil_append List.cons_append List.replicate_succ List.replicate_zero List.length_cons List.length_nil and_true true_and and_false false_and Bool.true_eq_false Bool.false_eq_true forall_const false_implies implies_true IntKind.bits if_true if_false ite_true ite_false eq_self true_implies false_or or_false or_true true_or not_true_eq_false not_false_eq_true decide_true decide_false decide_eq_true_eq decide_eq_false_iff_not beq_iff_eq bne_iff_ne ne_eq Bool.not_eq_true Bool.not_eq_false beq_eq_false_iff_ne bne_eq_false_iff_eq beq_self_eq_true bne_self_eq_false Option.some.injEq exists_eq_left' exists_eq_left ge_iff_le gt_iff_lt decide_not Bool.not_true Bool.not_false imp_self Zpc cond_true cond_false Zzc Zzb Bool.not_not Bool.and_false Bool.false_and Bool.or_true Bool.true_or Bool.or_false Bool.false_or Zad Zgd Zc3 Zb5 Vn Q7 Option.join_some Nat.add_assoc Int.toNat_natCast eI eB eS eL Za7 Zc8 Zcd Zk0 Zky Zkz Zup Zwz Zdb Zcl Zlm Zlk Zll Zrq Zhp Zo4 Zif Zo3 Zbq Zm8 List.length_append G.agg.injEq G.row.injEq G.ref.injEq G.val.injEq G.sl.injEq G.tup.injEq Value.int.injEq Value.bool.injEq Value.string.injEq List.cons.injEq exists_and_left exists_const List.flatten_cons List.flatten_nil Int.le_refl Nat.le_refl Zam Xx K1 Bool.not_eq_true' Bool.not_eq_false' Zm0 Zga Zra Zrg Zq9 Zrf Zwc Zv8 List.size_toArray Zlp Zlq G.ren G.rens Zn9 Zcy Zls Zkr Zks Zih Zrh Zcx G.fn.injEq Zja Zjb Zmz Zv9 Zi9 Zrd Zwb Zwa Zrc Zpi Zuh Option.join_none Yp Kv undef Zg1 Arr.len Arr.put_eq Zda Zfv Zdt Zck Zlj Zlh Zli onB Zuo Znq Zig Zhd Zhe Zhf Zhg Zhh Zhi Zfs Zfz Zfx Zdw Zcm Zfy Zh9 Zh8 Zh7 Zh6 Zwy Zyr Zrp Zpv V0 Zrl Zk4 Zf0 Zdv Ztj Zlu Ze0 Zgz Zbi Zf1 Zhj Zhk Zhl Zhm Zfb Zfc Zfd Zfe Zff Zfg Zfh Zca prT Zc6 Z00 Zqw Zy1 Zqx Z01 Zqy Zrs Zqz Z02 Zq0 Z03 Zq1 Z04 Zq2 Z05 Zq3 Zu5 Zlz Zu6 Zl0 Zu7 Zl1 Zu8 Zl2 Zu9 Zl3 Zva Zl4 Zvb Zl5 Zvc Zl6 Zvd Zl7 Zve Zl8 Zvf Zl9 Zvg Zgv Zqu Zab Zvh Zma V4 Zmb Zvi Zmc Zvj Zmd Zvk Zme Zvl Zmf Zvm Zmg Zvn Zmh Zvo Zmi Zvp Zmj Zvq Zmk Zlx Zml Zvr Zmm Zly Zmn Zvs Zmo Zg5 Zmp Zbp Zmq Zvt Zmr Zvu Zms Zvv Zmt Zvw Zmu Zvx Zmv Zvy Zmw Zvz Zmx Zqv Zmy Zp6 Zij Zp7 Zik Zp8 Zil Zp9 Zim Zqa Zin Zqb Zio Zkh Zf7 Zqc Zip Zqd Ziq Zqe Zir Zqf Zis Zqg Zit Zqh Ziu Zqi Ziv Zqj Ziw Zqk Zix Zql Ziy Zqm Ziz Zqn Zi0 Zqo Zi1 Zqp Zi2 Zqq Zi3 Zqr Zi4 Zqs Zi5 Zqt Zi6 Zb Ya Zei Zeh Zdk Zdr Zek Zcs Zco Zcn Zee Us Ur Ui Um Ut V5 V2 V1 Up Zm Yz Zp Zt Yv Yj Y5 Z7 J4 J0 Jo Jt J6 Q5 Q3 Q1 Jx Kt Ks Kl Kq Ku Jz Jw Jv Kr Gw Gv Gj Gr Gy U7 U6 U5 Gu J5 J3 Jp Ju J7 Q6 Q4 Q2 Jy Zgb Zf9 Zfo Zfu Zgc Zef Zd7 Zd6 Zf8
theorem Zpp {Yi : (S_api_Edit → S_api_Tree → Option (S_api_Tree × Bool))} {Z8 : (S_api_Edit → S_api_Tree → Option (S_api_Tree × Bool))} {Yo : (S_api_Edit → S_api_Tree → Option (S_api_Tree × Bool))} {Z3 : (Zf → S_api_Op → Option (Bool × Zf))} {Zz : (Zf → S_api_Edit → Option (Bool × Zf))} (Qt : ∀ {a0 : S_api_Edit} {a1 : S_api_Tree} {r : (S_api_Tree × Bool)} {O : Objs} {n : Nat}, Yi a0 a1 = some r → GTo Try.prog 86 [.agg (Zh a0), .agg (Ze a1)] O n (.tup [.agg (Ze r.1), .val (.bool r.2)]) O n) (Js : ∀ {a0 : S_api_Edit} {a1 : S_api_Tree} {r : (S_api_Tree × Bool)} {O : Objs} {n : Nat}, Z8 a0 a1 = some r → GTo Try.prog 111 [.agg (Zh a0), .agg (Ze a1)] O n (.tup [.agg (Ze r.1), .val (.bool r.2)]) O n) (U3 : ∀ {a0 : S_api_Edit} {a1 : S_api_Tree} {r : (S_api_Tree × Bool)} {O : Objs} {n : Nat}, Yo a0 a1 = some r → GTo Try.prog 112 [.agg (Zh a0), .agg (Ze a1)] O n (.tup [.agg (Ze r.1), .val (.bool r.2)]) O n) (Qp : ∀ {a0 : Zf} {a1 : S_api_Op} {r : (Bool × Zf)} {O : Objs} {n : Nat} {i0 j0_0 : Nat}, i0 < n → j0_0 < n → i0 ≠ j0_0 → O i0 = some ⟨false, 143, 2, 1, [.sl a0.left.length (fl Zb a0.left), .row j0_0 a0.out.length]⟩ → O j0_0 = some ⟨true, 25, 3, a0.out.length, fl Zb a0.out⟩ → Z3 a0 a1 = some r → GTo Try.prog 134 [.ref i0 0, .agg (Ym a1)] O n (.val (.bool r.1)) (Zy ((O.upd j0_0 none).upd i0 (some ⟨false, 143, 2, 1, [.sl r.2.left.length (fl Zb r.2.left), .row n r.2.out.length]⟩)) n [some ⟨true, 25, 3, r.2.out.length, fl Zb r.2.out⟩]) (n + 1)) (Xz : ∀ {a0 : Zf} {a1 : S_api_Edit} {r : (Bool × Zf)} {O : Objs} {n : Nat} {i0 j0_0 : Nat}, i0 < n → j0_0 < n → i0 ≠ j0_0 → O i0 = some ⟨false, 143, 2, 1, [.sl a0.left.length (fl Zb a0.left), .row j0_0 a0.out.length]⟩ → O j0_0 = some ⟨true, 25, 3, a0.out.length, fl Zb a0.out⟩ → Zz a0 a1 = some r → GTo Try.prog 148 [.ref i0 0, .agg (Zh a1)] O n (.val (.bool r.1)) (Zy ((O.upd j0_0 none).upd i0 (some ⟨false, 143, 2, 1, [.sl r.2.left.length (fl Zb r.2.left), .row n r.2.out.length]⟩)) n [some ⟨true, 25, 3, r.2.out.length, fl Zb r.2.out⟩]) (n + 1)) {a0 : S_api_Edit} {a1 : S_api_Tree} {r : (S_api_Tree × Bool)} {O : Objs} {n : Nat} (h : Vp Yi Z8 Yo Z3 Zz a0 a1 = some r) : GTo Try.prog 86 [.agg (Zh a0), .agg (Ze a1)] O n (.tup [.agg (Ze r.1), .val (.bool r.2)]) O n := by
 unfold Vp at h
 refine Xj Zd Try.call86 Try.func86 rfl (Nat.le_of_ble_eq_true rfl) (Nat.le_refl _) fun hU => ?_
 have hN0 : O n = none := hU.fresh _ (Nat.le_refl _)
 have hN : ∀ k, O (n + k) = none := fun k => hU.fresh _ (Nat.le_add_right _ _)
 show W _ _ _ _ ⟨34, [], [(0, .agg (Zh a0)), (1, .agg (Ze a1))]⟩ (Zy O n []) _
 refine Zr [2, 3, 4] (Zc Zd [] ?_)
 simp only [push_cast, seval, ↓reduceIte, Za, hN0, hN]
 refine Zl ?_
 refine Zr [2, 3, 4, 7] (Zc Zd [] ?_)
 simp only [push_cast, seval, ↓reduceIte, Za, hN0, hN]
 refine Yr ?_
 refine Zr [2, 3, 4, 7, 8] (Zc Zd [] ?_)
 simp only [push_cast, seval, ↓reduceIte, Za, hN0, hN]
 refine Zw (t := (a0.Kind == 0)) rfl (fun c10 => ?_) (fun c10 => ?_)
 ·replace h := Zv c10 h
  refine Zl ?_
  refine Zc Zd [] ?_
  simp only [push_cast, seval, ↓reduceIte, Za, hN0, hN]
  refine Zi [4, 5] [false, false, true] ?_
  simp only [push_cast, seval, ↓reduceIte]
  refine Z5 ?_
  try simp only [Zk, Zg]
  have h := Option.some.inj h; subst h
  refine Zs (.inr rfl) hU [.agg (Ze a1), .val (.bool true)] (by omega) ?_
  simp only [push_cast, seval, ↓reduceIte, Za, Try.results86, hN0, hN]
 replace h := Zu c10 h
 refine Zr [2, 3, 4, 7, 11] (Zc Zd [] ?_)
 simp only [push_cast, seval, ↓reduceIte, Za, hN0, hN]
 refine Zw (t := (a0.Kind == 1)) rfl (fun c9 => ?_) (fun c9 => ?_)
 ·replace h := Zv c9 h
  refine Zl ?_
  obtain ⟨y2, hy2, h⟩ := bC h
  refine Zem Zd (by kernel_rfl) [false, false, false, false, false, false, true, false] [] (by kernel_rfl) ?_
  simp only [push_cast, seval, ↓reduceIte, Za, hN0, hN]
  refine PCall.of (Zrn hy2) ?_
  simp only [push_cast, seval, ↓reduceIte, Za, hN0, hN]
  refine Zi [4, 5] [false, false, true] ?_
  simp only [push_cast, seval, ↓reduceIte]
  refine Z5 ?_
  try simp only [Zk, Zg]
  have h := Option.some.inj h; subst h
  refine Zs (.inr rfl) hU [.agg (Ze a0.New), .val (.bool y2)] (by omega) ?_
  simp only [push_cast, seval, ↓reduceIte, Za, Try.results86, hN0, hN]
 replace h := Zu c9 h
 refine Zr [2, 3, 4, 7, 19] (Zc Zd [] ?_)
 simp only [push_cast, seval, ↓reduceIte, Za, hN0, hN]
 refine Zw (t := (a0.Kind == 2)) rfl (fun c8 => ?_) (fun c8 => ?_)
 ·replace h := Zv c8 h
  refine Zl ?_
  obtain ⟨y4, hy4, h⟩ := bC h
  refine Zc Zd [] ?_
  simp only [push_cast, seval, ↓reduceIte, Za, hN0, hN]
  refine (Js hy4).then ?_
  simp only [push_cast, seval, ↓reduceIte, Za, hN0, hN]
  refine Zi [4, 5] [false, false, true] ?_
  simp only [push_cast, seval, ↓reduceIte]
  refine Z5 ?_
  try simp only [Zk, Zg]
  have h := Option.some.inj h; subst h
  refine Zs (.inr rfl) hU [.agg (Ze y4.1), .val (.bool y4.2)] (by omega) ?_
  simp only [push_cast, seval, ↓reduceIte, Za, Try.results86, hN0, hN]
 replace h := Zu c8 h
 refine Zr [2, 3, 4, 26] (Zc Zd [] ?_)
 simp only [push_cast, seval, ↓reduceIte, Za, hN0, hN]
 refine Zw (t := (a0.Kind == 3)) rfl (fun c7 => ?_) (fun c7 => ?_)
 ·replace h := Zv c7 h
  refine Zl ?_
  obtain ⟨y6, hy6, h⟩ := bC h
  refine Zc Zd [] ?_
  simp only [push_cast, seval, ↓reduceIte, Za, hN0, hN]
  refine (U3 hy6).then ?_
  simp only [push_cast, seval, ↓reduceIte, Za, hN0, hN]
  refine Zi [4, 5] [false, false, true] ?_
  simp only [push_cast, seval, ↓reduceIte]
  refine Z5 ?_
  try simp only [Zk, Zg]
  have h := Option.some.inj h; subst h
  refine Zs (.inr rfl) hU [.agg (Ze y6.1), .val (.bool y6.2)] (by omega) ?_
  simp only [push_cast, seval, ↓reduceIte, Za, Try.results86, hN0, hN]
 replace h := Zu c7 h
 refine Z0 ?_
 try simp only [Zk, Zg]
 refine Zi [4] [false, false, true] ?_
 simp only [push_cast, seval, ↓reduceIte]
 refine Zl ?_
 refine Zc Zd [] ?_
 simp only [push_cast, seval, ↓reduceIte, Za, hN0, hN]
 refine Zi [4, 5] [false, false, true] ?_
 simp only [push_cast, seval, ↓reduceIte]
 refine Z5 ?_
 try simp only [Zk, Zg]
 have h := Option.some.inj h; subst h
 refine Zs (.inr rfl) hU [.agg [.val (.int .i64 0), .val (.slice none 0 0), .val (.slice none 0 0)], .val (.bool false)] (by omega) ?_
 simp only [push_cast, seval, ↓reduceIte, Za, Try.results86, hN0, hN]
theorem Zjq {Yi : (S_api_Edit → S_api_Tree → Option (S_api_Tree × Bool))} {Z8 : (S_api_Edit → S_api_Tree → Option (S_api_Tree × Bool))} {Yo : (S_api_Edit → S_api_Tree → Option (S_api_Tree × Bool))} {Z3 : (Zf → S_api_Op → Option (Bool × Zf))} {Zz : (Zf → S_api_Edit → Option (Bool × Zf))} (Qt : ∀ {a0 : S_api_Edit} {a1 : S_api_Tree} {r : (S_api_Tree × Bool)} {O : Objs} {n : Nat}, Yi a0 a1 = some r → GTo Try.prog 86 [.agg (Zh a0), .agg (Ze a1)] O n (.tup [.agg (Ze r.1), .val (.bool r.2)]) O n) (Js : ∀ {a0 : S_api_Edit} {a1 : S_api_Tree} {r : (S_api_Tree × Bool)} {O : Objs} {n : Nat}, Z8 a0 a1 = some r → GTo Try.prog 111 [.agg (Zh a0), .agg (Ze a1)] O n (.tup [.agg (Ze r.1), .val (.bool r.2)]) O n) (U3 : ∀ {a0 : S_api_Edit} {a1 : S_api_Tree} {r : (S_api_Tree × Bool)} {O : Objs} {n : Nat}, Yo a0 a1 = some r → GTo Try.prog 112 [.agg (Zh a0), .agg (Ze a1)] O n (.tup [.agg (Ze r.1), .val (.bool r.2)]) O n) (Qp : ∀ {a0 : Zf} {a1 : S_api_Op} {r : (Bool × Zf)} {O : Objs} {n : Nat} {i0 j0_0 : Nat}, i0 < n → j0_0 < n → i0 ≠ j0_0 → O i0 = some ⟨false, 143, 2, 1, [.sl a0.left.length (fl Zb a0.left), .row j0_0 a0.out.length]⟩ → O j0_0 = some ⟨true, 25, 3, a0.out.length, fl Zb a0.out⟩ → Z3 a0 a1 = some r → GTo Try.prog 134 [.ref i0 0, .agg (Ym a1)] O n (.val (.bool r.1)) (Zy ((O.upd j0_0 none).upd i0 (some ⟨false, 143, 2, 1, [.sl r.2.left.length (fl Zb r.2.left), .row n r.2.out.length]⟩)) n [some ⟨true, 25, 3, r.2.out.length, fl Zb r.2.out⟩]) (n + 1)) (Xz : ∀ {a0 : Zf} {a1 : S_api_Edit} {r : (Bool × Zf)} {O : Objs} {n : Nat} {i0 j0_0 : Nat}, i0 < n → j0_0 < n → i0 ≠ j0_0 → O i0 = some ⟨false, 143, 2, 1, [.sl a0.left.length (fl Zb a0.left), .row j0_0 a0.out.length]⟩ → O j0_0 = some ⟨true, 25, 3, a0.out.length, fl Zb a0.out⟩ → Zz a0 a1 = some r → GTo Try.prog 148 [.ref i0 0, .agg (Zh a1)] O n (.val (.bool r.1)) (Zy ((O.upd j0_0 none).upd i0 (some ⟨false, 143, 2, 1, [.sl r.2.left.length (fl Zb r.2.left), .row n r.2.out.length]⟩)) n [some ⟨true, 25, 3, r.2.out.length, fl Zb r.2.out⟩]) (n + 1)) {a0 : S_api_Edit} {a1 : S_api_Tree} {r : (S_api_Tree × Bool)} {O : Objs} {n : Nat} (h : J8 Yi Z8 Yo Z3 Zz a0 a1 = some r) : GTo Try.prog 111 [.agg (Zh a0), .agg (Ze a1)] O n (.tup [.agg (Ze r.1), .val (.bool r.2)]) O n := by
 unfold J8 at h
 refine Xj Zd Try.call111 Try.func111 rfl (Nat.le_of_ble_eq_true rfl) (Nat.le_refl _) fun hU => ?_
 have hN0 : O n = none := hU.fresh _ (Nat.le_refl _)
 have hN : ∀ k, O (n + k) = none := fun k => hU.fresh _ (Nat.le_add_right _ _)
 show W _ _ _ _ ⟨92, [], [(0, .agg (Zh a0)), (1, .agg (Ze a1))]⟩ (Zy O n []) _
 refine Zr [2, 3, 4] (Zc Zd [] ?_)
 simp only [push_cast, seval, ↓reduceIte, Za, hN0, hN]
 refine Zl ?_
 refine Zr [2, 3, 4, 16] (Zc Zd [] ?_)
 simp only [push_cast, seval, ↓reduceIte, Za, hN0, hN]
 refine Zw (t := (a1.Kind != 1)) rfl (fun c138 => ?_) (fun c138 => ?_)
 ·replace h := Zv c138 h
  refine Zl ?_
  refine Zc Zd [] ?_
  simp only [push_cast, seval, ↓reduceIte, Za, hN0, hN]
  refine Zi [4, 5] [false, false, true] ?_
  simp only [push_cast, seval, ↓reduceIte]
  refine Z5 ?_
  try simp only [Zk, Zg]
  have h := Option.some.inj h; subst h
  refine Zs (.inr rfl) hU [.agg [.val (.int .i64 0), .val (.slice none 0 0), .val (.slice none 0 0)], .val (.bool false)] (by omega) ?_
  simp only [push_cast, seval, ↓reduceIte, Za, Try.results111, hN0, hN]
 replace h := Zu c138 h
 refine Z0 ?_
 try simp only [Zk, Zg]
 refine Zi [2, 3, 4] [true, true, true] ?_
 simp only [push_cast, seval, ↓reduceIte]
 obtain ⟨y25, hy25, h⟩ := bC h
 obtain ⟨y61, hy61, h⟩ := bC h
 refine Xg (E' := ⟨92, [], [(2, .ref n 0), (3, .ref (n + 1) 0), (4, .ref (n + 2) 0), (6, .ref (n + 5) 0)]⟩) (O' := (Zy O n [some ⟨false, 54, 11, 1, (Zh a0)⟩, some ⟨false, 25, 3, 1, (Ze a1)⟩, some ⟨false, 25, 3, 1, [.val (.int .i64 0), .val (.slice none 0 0), .val (.slice none 0 0)]⟩, some ⟨true, 71, 1, y25.length, fl (eI .u64) y25⟩, some ⟨true, 25, 3, y61.length, fl Zb y61⟩, some ⟨false, 25, 3, 1, [.val (.int .i64 1), .row (n + 3) y25.length, .row (n + 4) y61.length]⟩])) (n0 := (n + 6)) ?_ ?_
 ·refine Z1g Zd (by kernel_rfl) [.low, .low, .pass, .low, .low, .pass, .plain, .pass, .pass] (fun i => i < (n + 3)) [0, 1, 3, 4] [2, 5, 6, 7] [8] (.two 2 (.two 5 (.seq [6, 7]) 7 (.seq [5, 6])) 7 (.seq [2, 5, 6])) [.low, .low, .low, .low] [] (by kernel_rfl) rfl ?_
  simp only [push_cast, seval, ↓reduceIte, Za, hN0, hN]
  repeat (with_reducible refine And.intro (by omega) ?_)
  try simp only [push_cast, seval, ↓reduceIte, Za, hN0, hN]
  refine And.intro ?_ ?_
  ·try simp only [push_cast, seval, ↓reduceIte, Za, hN0, hN]
   repeat (with_reducible refine And.intro (by first | exact Xn rfl | exact Y2) ?_)
   refine (Uu hy25).then ?_
   try simp only [push_cast, seval, ↓reduceIte, Za, hN0, hN]
   repeat (with_reducible refine And.intro (by first | exact Xn rfl | exact Y2) ?_)
   try simp only [push_cast, seval, ↓reduceIte, Za, hN0, hN]
   refine And.intro ?_ ?_
   ·try simp only [push_cast, seval, ↓reduceIte, Za, hN0, hN]
    repeat (with_reducible refine And.intro (by first | exact Xn rfl | exact Y2) ?_)
    refine (Ql hy61).then ?_
    try simp only [push_cast, seval, ↓reduceIte, Za, hN0, hN]
    repeat (with_reducible refine And.intro (by first | exact Xn rfl | exact Y2) ?_)
    try simp only [push_cast, seval, ↓reduceIte, Za, hN0, hN]
    repeat (with_reducible refine And.intro (by first | exact Xn rfl | exact Y2) ?_)
    refine And.intro rfl (Fit2.of (Zj hU rfl rfl ?_) (by omega))
    simp only [push_cast, seval, ↓reduceIte, Za, hN0, hN]
   try simp only [push_cast, seval, ↓reduceIte, Za, hN0, hN]
   repeat (with_reducible refine And.intro (by first | exact Xn rfl | exact Y2) ?_)
   try simp only [push_cast, seval, ↓reduceIte, Za, hN0, hN]
   repeat (with_reducible refine And.intro (by first | exact Xn rfl | exact Y2) ?_)
   refine (Ql hy61).then ?_
   try simp only [push_cast, seval, ↓reduceIte, Za, hN0, hN]
   repeat (with_reducible refine And.intro (by first | exact Xn rfl | exact Y2) ?_)
   refine And.intro rfl ?_
   refine Fit2.trans (E' := (⟨92, [], [(2, .ref n 0), (3, .ref (n + 1) 0), (4, .ref (n + 2) 0), (6, .ref (n + 4) 0)]⟩ : Env)) (O' := (Zy O n [some ⟨false, 54, 11, 1, (Zh a0)⟩, some ⟨false, 25, 3, 1, (Ze a1)⟩, some ⟨false, 25, 3, 1, [.val (.int .i64 0), .val (.slice none 0 0), .val (.slice none 0 0)]⟩, some ⟨true, 71, 1, y25.length, fl (eI .u64) y25⟩, some ⟨false, 25, 3, 1, [.val (.int .i64 1), .row (n + 3) y25.length, .row (n + 5) y61.length]⟩, some ⟨true, 25, 3, y61.length, fl Zb y61⟩])) (n' := (n + 6)) (Fit2.of (Zj hU rfl rfl ?_) (by omega)) ?_
   ·simp only [push_cast, seval, ↓reduceIte, Za, hN0, hN]
   refine Zbg (k := 6) (k' := 6) hU [0, 1, 2, 3, 5, 4] [0, 1, 2, 3, 5, 4] rfl rfl rfl rfl ⟨rfl, rfl⟩ ?_
   simp only [push_cast, seval, ↓reduceIte, Za, hN0, hN]
  try simp only [push_cast, seval, ↓reduceIte, Za, hN0, hN]
  repeat (with_reducible refine And.intro (by first | exact Xn rfl | exact Y2) ?_)
  try simp only [push_cast, seval, ↓reduceIte, Za, hN0, hN]
  repeat (with_reducible refine And.intro (by first | exact Xn rfl | exact Y2) ?_)
  refine (Uu hy25).then ?_
  try simp only [push_cast, seval, ↓reduceIte, Za, hN0, hN]
  repeat (with_reducible refine And.intro (by first | exact Xn rfl | exact Y2) ?_)
  refine (Ql hy61).then ?_
  try simp only [push_cast, seval, ↓reduceIte, Za, hN0, hN]
  repeat (with_reducible refine And.intro (by first | exact Xn rfl | exact Y2) ?_)
  refine And.intro rfl ?_
  refine Fit2.trans (E' := (⟨92, [], [(2, .ref n 0), (3, .ref (n + 1) 0), (4, .ref (n + 2) 0), (6, .ref (n + 3) 0)]⟩ : Env)) (O' := (Zy O n [some ⟨false, 54, 11, 1, (Zh a0)⟩, some ⟨false, 25, 3, 1, (Ze a1)⟩, some ⟨false, 25, 3, 1, [.val (.int .i64 0), .val (.slice none 0 0), .val (.slice none 0 0)]⟩, some ⟨false, 25, 3, 1, [.val (.int .i64 1), .row (n + 4) y25.length, .row (n + 5) y61.length]⟩, some ⟨true, 71, 1, y25.length, fl (eI .u64) y25⟩, some ⟨true, 25, 3, y61.length, fl Zb y61⟩])) (n' := (n + 6)) (Fit2.of (Zj hU rfl rfl ?_) (by omega)) ?_
  ·simp only [push_cast, seval, ↓reduceIte, Za, hN0, hN]
  refine Zbg (k := 6) (k' := 6) hU [0, 1, 2, 5, 3, 4] [0, 1, 2, 4, 5, 3] rfl rfl rfl rfl ⟨rfl, rfl⟩ ?_
  simp only [push_cast, seval, ↓reduceIte, Za, hN0, hN]
 refine Zl ?_
 refine Zr [2, 3, 4, 6, 26, 27, 28] (Zc Zd [] ?_)
 simp only [push_cast, seval, ↓reduceIte, Za, hN0, hN]
 refine Zi [2, 3, 4, 6, 26, 27, 28] [true, true, true, true, true, true] ?_
 simp only [push_cast, seval, ↓reduceIte]
 refine Zez (E' := (⟨92, [], [(2, .ref n 0), (3, .ref (n + 1) 0), (4, .ref (n + 2) 0), (6, .ref (n + 5) 0), (26, .sl a0.Words.length (fl Zm a0.Words)), (27, .val (.int .i64 (a0.Words.length : Int))), (28, .val (.int .i64 0))]⟩ : Env)) (O' := (Zy O n [some ⟨false, 54, 11, 1, (Zh a0)⟩, some ⟨false, 25, 3, 1, (Ze a1)⟩, some ⟨false, 25, 3, 1, [.val (.int .i64 0), .val (.slice none 0 0), .val (.slice none 0 0)]⟩, none, none, some ⟨false, 25, 3, 1, [.val (.int .i64 1), .row (n + 6) y25.length, .row (n + 7) y61.length]⟩, some ⟨true, 71, 1, y25.length, fl (eI .u64) y25⟩, some ⟨true, 25, 3, y61.length, fl Zb y61⟩, none])) (n' := (n + 9)) ?_ ?_
 ·refine Fit2.trans (E' := (⟨92, [], [(2, .ref n 0), (3, .ref (n + 1) 0), (4, .ref (n + 2) 0), (6, .ref (n + 5) 0), (26, .sl a0.Words.length (fl Zm a0.Words)), (27, .val (.int .i64 (a0.Words.length : Int))), (28, .val (.int .i64 0))]⟩ : Env)) (O' := (Zy O n [some ⟨false, 54, 11, 1, (Zh a0)⟩, some ⟨false, 25, 3, 1, (Ze a1)⟩, some ⟨false, 25, 3, 1, [.val (.int .i64 0), .val (.slice none 0 0), .val (.slice none 0 0)]⟩, some ⟨true, 71, 1, y25.length, fl (eI .u64) y25⟩, some ⟨true, 25, 3, y61.length, fl Zb y61⟩, some ⟨false, 25, 3, 1, [.val (.int .i64 1), .row (n + 3) y25.length, .row (n + 4) y61.length]⟩])) (n' := (n + 6)) (Fit2.of (Zj hU rfl rfl ?_) (by omega)) ?_
  ·simp only [push_cast, seval, ↓reduceIte, Za, hN0, hN]
  refine Zbg (k := 6) (k' := 9) hU [0, 1, 2, 6, 7, 5] [0, 1, 2, 0, 0, 5, 3, 4, 0] rfl rfl rfl rfl ⟨rfl, rfl⟩ ?_
  simp only [push_cast, seval, ↓reduceIte, Za, hN0, hN]
 obtain ⟨z125, hz125, h⟩ := bC h
 refine Za3 (J := (Qv (fun z125 => JR n (⟨92, [], [(4, .ref (n + 2) 0), (5, .val (.bool false))]⟩ : Env) (Zy O n [none, none, some ⟨false, 25, 3, 1, [.val (.int .i64 0), .val (.slice none 0 0), .val (.slice none 0 0)]⟩, none, none, none]) (n + 6)) (fun z125 => JX 0 n (⟨92, [], [(2, .ref n 0), (3, .ref (n + 1) 0), (4, .ref (n + 2) 0), (6, .ref (n + 5) 0)]⟩ : Env) (Zy O n [some ⟨false, 54, 11, 1, (Zh a0)⟩, some ⟨false, 25, 3, 1, (Ze a1)⟩, some ⟨false, 25, 3, 1, [.val (.int .i64 0), .val (.slice none 0 0), .val (.slice none 0 0)]⟩, none, none, some ⟨false, 25, 3, 1, [.val (.int .i64 z125.1), .row (n + 6) z125.2.1.length, .row (n + 7) z125.2.2.length]⟩, some ⟨true, 71, 1, z125.2.1.length, fl (eI .u64) z125.2.1⟩, some ⟨true, 25, 3, z125.2.2.length, fl Zb z125.2.2⟩, none]) (n + 9)))) (z := z125) ?_ fun hw => ?_
 ·refine Y6 hz125 (fun s0_ => ⟨92, [], [(2, .ref n 0), (3, .ref (n + 1) 0), (4, .ref (n + 2) 0), (6, .ref (n + 5) 0), (26, .sl a0.Words.length (fl Zm a0.Words)), (27, .val (.int .i64 (a0.Words.length : Int))), (28, .val (.int .i64 s0_.1))]⟩) (fun s0_ => (Zy O n [some ⟨false, 54, 11, 1, (Zh a0)⟩, some ⟨false, 25, 3, 1, (Ze a1)⟩, some ⟨false, 25, 3, 1, [.val (.int .i64 0), .val (.slice none 0 0), .val (.slice none 0 0)]⟩, none, none, some ⟨false, 25, 3, 1, [.val (.int .i64 s0_.2.1), .row (n + 6) s0_.2.2.1.length, .row (n + 7) s0_.2.2.2.length]⟩, some ⟨true, 71, 1, s0_.2.2.1.length, fl (eI .u64) s0_.2.2.1⟩, some ⟨true, 25, 3, s0_.2.2.2.length, fl Zb s0_.2.2.2⟩, none])) (Qv (fun z125 => JR n (⟨92, [], [(4, .ref (n + 2) 0), (5, .val (.bool false))]⟩ : Env) (Zy O n [none, none, some ⟨false, 25, 3, 1, [.val (.int .i64 0), .val (.slice none 0 0), .val (.slice none 0 0)]⟩, none, none, none]) (n + 6)) (fun z125 => JX 0 n (⟨92, [], [(2, .ref n 0), (3, .ref (n + 1) 0), (4, .ref (n + 2) 0), (6, .ref (n + 5) 0)]⟩ : Env) (Zy O n [some ⟨false, 54, 11, 1, (Zh a0)⟩, some ⟨false, 25, 3, 1, (Ze a1)⟩, some ⟨false, 25, 3, 1, [.val (.int .i64 0), .val (.slice none 0 0), .val (.slice none 0 0)]⟩, none, none, some ⟨false, 25, 3, 1, [.val (.int .i64 z125.1), .row (n + 6) z125.2.1.length, .row (n + 7) z125.2.2.length]⟩, some ⟨true, 71, 1, z125.2.1.length, fl (eI .u64) z125.2.1⟩, some ⟨true, 25, 3, z125.2.2.length, fl Zb z125.2.2⟩, none]) (n + 9))) ?_
  intro s0_ x0_ hs0_
  unfold Xo at hs0_
  try dsimp only
  refine Zr [2, 3, 4, 6, 26, 27, 28, 29] (Zc Zd [] ?_)
  simp only [push_cast, seval, ↓reduceIte, Za, hN0, hN]
  refine Zl ?_
  refine Zw (t := (decide (s0_.1 < (a0.Words.length : Int)))) rfl (fun c124 => ?_) (fun c124 => ?_)
  ·replace hs0_ := Zv c124 hs0_
   refine Z0 ?_
   try simp only [Zk, Zg]
   refine Zi [2, 3, 4, 6, 26, 27, 28] [true, true, true, false, false, true, true, true, false] ?_
   simp only [push_cast, seval, ↓reduceIte]
   refine Zl ?_
   refine Yr ?_
   refine Zl ?_
   obtain ⟨x110, hx110, ax110, bx110, cx110, hs0_⟩ := bE (f := Zm) Zqv (fun _ => rfl) (by decide) hs0_
   refine Zc Zd [] ?_
   simp only [push_cast, Nat.reduceAdd, Nat.reduceSub, Nat.reduceMul, Nat.reduceLeDiff, Nat.reduceLT, Nat.reduceEqDiff, ↓reduceIte, reduceCtorEq, Int.reduceBEq, Int.reduceBNe, Nat.reduceBEq, Int.reduceLE, Int.reduceLT, Int.reduceEq, Int.reduceNe, Int.reduceNeg, Nat.reduceDiv, Nat.reduceMod, Nat.reducePow, Za, ax110, bx110, cx110, hN0, hN]
   refine Zi [2, 3, 4, 6, 8, 26, 27, 28] [true, true, true, false, false, true, true, true, false, true] ?_
   simp only [push_cast, seval, ↓reduceIte]
   refine Zl ?_
   obtain ⟨y112, hy112, hs0_⟩ := bC hs0_
   refine Zc Zd [] ?_
   simp only [push_cast, seval, ↓reduceIte, Za, hN0, hN]
   refine (Zth hy112).then ?_
   simp only [push_cast, seval, ↓reduceIte, Za, hN0, hN]
   refine Zi [2, 3, 4, 6, 8, 9, 26, 27, 28] [true, true, true, false, false, true, true, true, false, true] ?_
   simp only [push_cast, seval, ↓reduceIte]
   refine Zl ?_
   obtain ⟨z115, hz115, hs0_⟩ := bC hs0_
   refine Xg (E' := ⟨92, [], [(2, .ref n 0), (3, .ref (n + 1) 0), (4, .ref (n + 2) 0), (6, .ref (n + 5) 0), (8, .ref (n + 9) 0), (9, .val (.int .u64 y112)), (26, .sl a0.Words.length (fl Zm a0.Words)), (27, .val (.int .i64 (a0.Words.length : Int))), (28, .val (.int .i64 s0_.1)), (49, .val (.bool z115))]⟩) (O' := (Zy O n [some ⟨false, 54, 11, 1, (Zh a0)⟩, some ⟨false, 25, 3, 1, (Ze a1)⟩, some ⟨false, 25, 3, 1, [.val (.int .i64 0), .val (.slice none 0 0), .val (.slice none 0 0)]⟩, none, none, some ⟨false, 25, 3, 1, [.val (.int .i64 s0_.2.1), .row (n + 6) s0_.2.2.1.length, .row (n + 7) s0_.2.2.2.length]⟩, some ⟨true, 71, 1, s0_.2.2.1.length, fl (eI .u64) s0_.2.2.1⟩, some ⟨true, 25, 3, s0_.2.2.2.length, fl Zb s0_.2.2.2⟩, none, some ⟨false, 91, 4, 1, (Q8 x110)⟩])) (n0 := (n + 10)) ?_ ?_
   ·obtain ⟨y118, hy118, hz115⟩ := bC hz115
    rcases Bool.eq_false_or_eq_true y118 with c120 | c120
    ·replace hz115 := Zv c120 hz115
     refine X4 Zd (by kernel_rfl) [some false, some false, some false, some false, some false, some false, some false, some false, some false] (by kernel_rfl) ?_
     simp only [push_cast, seval, ↓reduceIte, Za, c120, hN0, hN]
     refine PCall.of (Zbw hy118) ?_
     simp only [push_cast, seval, ↓reduceIte, Za, c120, hN0, hN]
     have hz115 := Option.some.inj hz115; subst hz115
     refine And.intro rfl (Fit2.of (Zj hU rfl rfl ?_) (by omega))
     simp only [push_cast, seval, ↓reduceIte, Za, c120, hN0, hN]
    replace hz115 := Zu c120 hz115
    obtain ⟨y119, hy119, hz115⟩ := bC hz115
    refine X4 Zd (by kernel_rfl) [some true, some true, some true, some true, some true, some true, some true, some true, some true] (by kernel_rfl) ?_
    simp only [push_cast, seval, ↓reduceIte, Za, c120, hN0, hN]
    refine PCall.of (Zbw hy118) ?_
    simp only [push_cast, seval, ↓reduceIte, Za, c120, hN0, hN]
    refine PCall.of (Zla hy119) ?_
    simp only [push_cast, seval, ↓reduceIte, Za, c120, hN0, hN]
    have hz115 := Option.some.inj hz115; subst hz115
    refine And.intro rfl (Fit2.of (Zj hU rfl rfl ?_) (by omega))
    simp only [push_cast, seval, ↓reduceIte, Za, c120, hN0, hN]
   refine Zw (t := z115) rfl (fun c123 => ?_) (fun c123 => ?_)
   ·replace hs0_ := Zv c123 hs0_
    refine Zl ?_
    refine Zc Zd [] ?_
    simp only [push_cast, seval, ↓reduceIte, Za, hN0, hN]
    refine Zi [4, 5] [false, false, true, false, false, false, false, false, false, false] ?_
    simp only [push_cast, seval, ↓reduceIte]
    refine Z5 ?_
    try simp only [Zk, Zg]
    have hs0_ := Option.some.inj hs0_; subst hs0_
    refine And.intro (fun h => by cases h) (And.intro rfl (Fit2.of (Zj hU rfl rfl ?_) (by omega)))
    simp only [push_cast, seval, ↓reduceIte, Za, hN0, hN]
   replace hs0_ := Zu c123 hs0_
   refine Z0 ?_
   try simp only [Zk, Zg]
   refine Zi [2, 3, 4, 6, 8, 9, 26, 27, 28] [true, true, true, false, false, true, true, true, false, true] ?_
   simp only [push_cast, seval, ↓reduceIte]
   obtain ⟨y121, hy121, hs0_⟩ := bC hs0_
   obtain ⟨y122, hy122, hs0_⟩ := bC hs0_
   refine Zem Zd (by kernel_rfl) [false, false, false, false, false, false, false, false, true] [] (by kernel_rfl) ?_
   simp only [push_cast, seval, ↓reduceIte, Za, hN0, hN]
   refine PCall.of (Zun hy121) ?_
   simp only [push_cast, seval, ↓reduceIte, Za, hN0, hN]
   refine (Znd (i0 := (n + 5)) (j0_0 := (n + 7)) (j0_1 := (n + 6)) (by omega) (by omega) (by omega) (by omega) (by omega) (by omega) (by simp only [push_cast, seval, ↓reduceIte, Za, Za7, hN0, hN] <;> rfl) (by simp only [push_cast, seval, ↓reduceIte, Za, Za7, hN0, hN] <;> rfl) (by simp only [push_cast, seval, ↓reduceIte, Za, Za7, hN0, hN] <;> rfl) hy122).then ?_
   simp only [push_cast, seval, ↓reduceIte, Za, hN0, hN]
   refine Zi [2, 3, 4, 6, 26, 27, 28] [true, true, true, false, false, true, false, false, false, false, true, true] ?_
   simp only [push_cast, seval, ↓reduceIte]
   refine Zc Zd [] ?_
   simp only [push_cast, seval, ↓reduceIte, Za, hN0, hN]
   have hs0_ := Option.some.inj hs0_; subst hs0_
   refine And.intro rfl ?_
   refine Fit2.trans (E' := (⟨92, [], [(2, .ref n 0), (3, .ref (n + 1) 0), (4, .ref (n + 2) 0), (6, .ref (n + 5) 0), (26, .sl a0.Words.length (fl Zm a0.Words)), (27, .val (.int .i64 (a0.Words.length : Int))), (28, .val (.int .i64 (IntKind.i64.wrap (s0_.1 + 1))))]⟩ : Env)) (O' := (Zy O n [some ⟨false, 54, 11, 1, (Zh a0)⟩, some ⟨false, 25, 3, 1, (Ze a1)⟩, some ⟨false, 25, 3, 1, [.val (.int .i64 0), .val (.slice none 0 0), .val (.slice none 0 0)]⟩, none, none, some ⟨false, 25, 3, 1, [.val (.int .i64 y122.Kind), .row (n + 11) y122.Words.length, .row (n + 10) y122.Kids.length]⟩, none, none, none, none, some ⟨true, 25, 3, y122.Kids.length, fl Zb y122.Kids⟩, some ⟨true, 71, 1, y122.Words.length, fl (eI .u64) y122.Words⟩])) (n' := (n + 12)) (Fit2.of (Zj hU rfl rfl ?_) (by omega)) ?_
   ·simp only [push_cast, seval, ↓reduceIte, Za, hN0, hN]
   refine Zbg (k := 12) (k' := 9) hU [0, 1, 2, 8, 8, 5, 8, 8, 8, 8, 7, 6] [0, 1, 2, 0, 0, 5, 11, 10, 0] rfl rfl rfl rfl ⟨rfl, rfl⟩ ?_
   simp only [push_cast, seval, ↓reduceIte, Za, hN0, hN]
  replace hs0_ := Zu c124 hs0_
  refine Qd ?_
  try simp only [Zk, Zg, ↓reduceIte, Nat.reduceEqDiff]
  have hs0_ := Option.some.inj hs0_; subst hs0_
  refine And.intro (fun h => by cases h) (And.intro rfl (Fit2.of (Zj hU rfl rfl ?_) (by omega)))
  simp only [push_cast, seval, ↓reduceIte, Za, hN0, hN]
 rcases z125 with z125 | z125
 ·dsimp only [Qv] at hw h
  refine Vo hw ?_
  try simp only [Zk, Zg, ↓reduceIte, Nat.reduceEqDiff]
  have h := Option.some.inj h; subst h
  refine Zs (.inr rfl) hU [.agg [.val (.int .i64 0), .val (.slice none 0 0), .val (.slice none 0 0)], .val (.bool false)] (by omega) ?_
  simp only [push_cast, seval, ↓reduceIte, Za, Try.results111, hN0, hN]
 dsimp only [Qv] at hw h
 refine Yq hw ?_
 try simp only [Zk, Zg, ↓reduceIte, Nat.reduceEqDiff]
 refine Zi [2, 3, 4, 6] [true, true, true, false, false, true, true, true, false] ?_
 simp only [push_cast, seval, ↓reduceIte]
 refine Zl ?_
 refine Zr [3, 4, 6, 62, 63, 64] (Zc Zd [] ?_)
 simp only [push_cast, seval, ↓reduceIte, Za, hN0, hN]
 refine Zi [3, 4, 6, 62, 63, 64] [false, true, true, false, false, true, true, true, false] ?_
 simp only [push_cast, seval, ↓reduceIte]
 refine Zez (E' := (⟨92, [], [(3, .ref (n + 1) 0), (4, .ref (n + 2) 0), (6, .ref (n + 5) 0), (62, .sl a0.Kids.length (fl Zp a0.Kids)), (63, .val (.int .i64 (a0.Kids.length : Int))), (64, .val (.int .i64 0))]⟩ : Env)) (O' := (Zy O n [none, some ⟨false, 25, 3, 1, (Ze a1)⟩, some ⟨false, 25, 3, 1, [.val (.int .i64 0), .val (.slice none 0 0), .val (.slice none 0 0)]⟩, none, none, some ⟨false, 25, 3, 1, [.val (.int .i64 z125.1), .sl z125.2.1.length (fl (eI .u64) z125.2.1), .row (n + 9) z125.2.2.length]⟩, none, none, none, some ⟨true, 25, 3, z125.2.2.length, fl Zb z125.2.2⟩, none])) (n' := (n + 11)) ?_ ?_
 ·refine Fit2.trans (E' := (⟨92, [], [(3, .ref (n + 1) 0), (4, .ref (n + 2) 0), (6, .ref (n + 5) 0), (62, .sl a0.Kids.length (fl Zp a0.Kids)), (63, .val (.int .i64 (a0.Kids.length : Int))), (64, .val (.int .i64 0))]⟩ : Env)) (O' := (Zy O n [none, some ⟨false, 25, 3, 1, (Ze a1)⟩, some ⟨false, 25, 3, 1, [.val (.int .i64 0), .val (.slice none 0 0), .val (.slice none 0 0)]⟩, none, none, some ⟨false, 25, 3, 1, [.val (.int .i64 z125.1), .sl z125.2.1.length (fl (eI .u64) z125.2.1), .row (n + 7) z125.2.2.length]⟩, none, some ⟨true, 25, 3, z125.2.2.length, fl Zb z125.2.2⟩, none])) (n' := (n + 9)) (Fit2.of (Zj hU rfl rfl ?_) (by omega)) ?_
  ·simp only [push_cast, seval, ↓reduceIte, Za, hN0, hN]
  refine Zbg (k := 9) (k' := 11) hU [10, 1, 2, 10, 10, 5, 10, 9, 10] [0, 1, 2, 0, 0, 5, 0, 0, 0, 7, 0] rfl rfl rfl rfl ⟨rfl, rfl⟩ ?_
  simp only [push_cast, seval, ↓reduceIte, Za, hN0, hN]
 obtain ⟨z137, hz137, h⟩ := bC h
 refine Za3 (J := (Qv (fun z137 => JR n (⟨92, [], [(4, .ref (n + 2) 0), (5, .val (.bool false))]⟩ : Env) (Zy O n [none, none, some ⟨false, 25, 3, 1, [.val (.int .i64 0), .val (.slice none 0 0), .val (.slice none 0 0)]⟩, none, none, none, none, none, none]) (n + 9)) (fun z137 => JX 2 n (⟨92, [], [(4, .ref (n + 2) 0), (6, .ref (n + 5) 0)]⟩ : Env) (Zy O n [none, none, some ⟨false, 25, 3, 1, [.val (.int .i64 0), .val (.slice none 0 0), .val (.slice none 0 0)]⟩, none, none, some ⟨false, 25, 3, 1, [.val (.int .i64 z137.1), .sl z137.2.1.length (fl (eI .u64) z137.2.1), .row (n + 9) z137.2.2.length]⟩, none, none, none, some ⟨true, 25, 3, z137.2.2.length, fl Zb z137.2.2⟩, none]) (n + 11)))) (z := z137) ?_ fun hw => ?_
 ·refine Y6 hz137 (fun s1_ => ⟨92, [], [(3, .ref (n + 1) 0), (4, .ref (n + 2) 0), (6, .ref (n + 5) 0), (62, .sl a0.Kids.length (fl Zp a0.Kids)), (63, .val (.int .i64 (a0.Kids.length : Int))), (64, .val (.int .i64 s1_.1))]⟩) (fun s1_ => (Zy O n [none, some ⟨false, 25, 3, 1, (Ze a1)⟩, some ⟨false, 25, 3, 1, [.val (.int .i64 0), .val (.slice none 0 0), .val (.slice none 0 0)]⟩, none, none, some ⟨false, 25, 3, 1, [.val (.int .i64 s1_.2.1), .sl s1_.2.2.1.length (fl (eI .u64) s1_.2.2.1), .row (n + 9) s1_.2.2.2.length]⟩, none, none, none, some ⟨true, 25, 3, s1_.2.2.2.length, fl Zb s1_.2.2.2⟩, none])) (Qv (fun z137 => JR n (⟨92, [], [(4, .ref (n + 2) 0), (5, .val (.bool false))]⟩ : Env) (Zy O n [none, none, some ⟨false, 25, 3, 1, [.val (.int .i64 0), .val (.slice none 0 0), .val (.slice none 0 0)]⟩, none, none, none, none, none, none]) (n + 9)) (fun z137 => JX 2 n (⟨92, [], [(4, .ref (n + 2) 0), (6, .ref (n + 5) 0)]⟩ : Env) (Zy O n [none, none, some ⟨false, 25, 3, 1, [.val (.int .i64 0), .val (.slice none 0 0), .val (.slice none 0 0)]⟩, none, none, some ⟨false, 25, 3, 1, [.val (.int .i64 z137.1), .sl z137.2.1.length (fl (eI .u64) z137.2.1), .row (n + 9) z137.2.2.length]⟩, none, none, none, some ⟨true, 25, 3, z137.2.2.length, fl Zb z137.2.2⟩, none]) (n + 11))) ?_
  intro s1_ x1_ hs1_
  unfold Y8 at hs1_
  try dsimp only
  refine Zr [3, 4, 6, 62, 63, 64, 65] (Zc Zd [] ?_)
  simp only [push_cast, seval, ↓reduceIte, Za, hN0, hN]
  refine Zl ?_
  refine Zw (t := (decide (s1_.1 < (a0.Kids.length : Int)))) rfl (fun c136 => ?_) (fun c136 => ?_)
  ·replace hs1_ := Zv c136 hs1_
   refine Z0 ?_
   try simp only [Zk, Zg]
   refine Zi [3, 4, 6, 62, 63, 64] [false, true, true, false, false, true, false, false, false, true, false] ?_
   simp only [push_cast, seval, ↓reduceIte]
   refine Zl ?_
   refine Yr ?_
   refine Zl ?_
   obtain ⟨x127, hx127, ax127, bx127, cx127, hs1_⟩ := bE (f := Zp) Zly (fun _ => rfl) (by decide) hs1_
   refine Zc Zd [] ?_
   simp only [push_cast, Nat.reduceAdd, Nat.reduceSub, Nat.reduceMul, Nat.reduceLeDiff, Nat.reduceLT, Nat.reduceEqDiff, ↓reduceIte, reduceCtorEq, Int.reduceBEq, Int.reduceBNe, Nat.reduceBEq, Int.reduceLE, Int.reduceLT, Int.reduceEq, Int.reduceNe, Int.reduceNeg, Nat.reduceDiv, Nat.reduceMod, Nat.reducePow, Za, ax127, bx127, cx127, hN0, hN]
   refine Zi [3, 4, 6, 11, 62, 63, 64] [false, true, true, false, false, true, false, false, false, true, false, true] ?_
   simp only [push_cast, seval, ↓reduceIte]
   refine Zl ?_
   obtain ⟨y130, hy130, hs1_⟩ := bC hs1_
   obtain ⟨y131, hy131, hs1_⟩ := bC hs1_
   refine Zkj Zd (by kernel_rfl) [.low, .low, .low, .low, .low, .low, .low, .low, .low, .low, .pass, .pass, .plain] (fun i => i < (n + 12)) [0, 1, 2, 3, 4, 5, 6, 7, 8, 9, 10, 11, 12] [.low, .low, .low, .low, .low, .low, .low, .low, .low, .low, .pass, .pass, .plain] [] (by kernel_rfl) rfl ?_
   simp only [push_cast, seval, ↓reduceIte, Za, hN0, hN]
   repeat (with_reducible refine And.intro (by first | omega | exact Xn rfl | exact Y2 | exact Zb7 rfl rfl) ?_)
   first | refine PCallA.of (fun _ _ => Zny hy130) ?_ | refine PCall.of (Zny hy130) ?_
   simp only [push_cast, seval, ↓reduceIte, Za, hN0, hN]
   repeat (with_reducible refine And.intro (by first | omega | exact Xn rfl | exact Y2 | exact Zb7 rfl rfl) ?_)
   first | refine PCallA.of (fun _ _ => Qt hy131) ?_ | refine PCall.of (Qt hy131) ?_
   simp only [push_cast, seval, ↓reduceIte, Za, hN0, hN]
   repeat (with_reducible refine And.intro (by first | omega | exact Xn rfl | exact Y2 | exact Zb7 rfl rfl) ?_)
   refine Zi [3, 4, 6, 11, 12, 13, 62, 63, 64] [false, true, true, false, false, true, false, false, false, true, false, true, true] ?_
   simp only [push_cast, seval, ↓reduceIte]
   refine Zl ?_
   refine Zl ?_
   obtain ⟨y133, hy133, hs1_⟩ := bC hs1_
   refine Zc Zd [none, none] ?_
   simp only [push_cast, seval, ↓reduceIte, Za, hN0, hN]
   repeat (with_reducible refine And.intro (by first | (intro h0; simp only [h0, and_self]; done) | (intro h0; simp only [h0, Bool.not_false, Bool.not_true, Bool.true_and, Bool.and_true, true_and, and_true, and_self, imp_self, implies_true, bne_iff_ne, ne_eq, beq_iff_eq]; done) | (intros; simp_all; done) | exact True.intro) ?_)
   refine (Zbw hy133).then ?_
   simp only [push_cast, seval, ↓reduceIte, Za, hN0, hN]
   repeat (with_reducible refine And.intro (by first | (intro h0; simp only [h0, and_self]; done) | (intro h0; simp only [h0, Bool.not_false, Bool.not_true, Bool.true_and, Bool.and_true, true_and, and_true, and_self, imp_self, implies_true, bne_iff_ne, ne_eq, beq_iff_eq]; done) | (intros; simp_all; done) | exact True.intro) ?_)
   refine Zi [3, 4, 6, 11, 12, 62, 63, 64, 84] [false, true, true, false, false, true, false, false, false, true, false, true, true] ?_
   simp only [push_cast, seval, ↓reduceIte]
   refine Zw (t := (cond y133 true (!y131.2))) rfl (fun c135 => ?_) (fun c135 => ?_)
   ·replace hs1_ := Zv c135 hs1_
    refine Zl ?_
    refine Zc Zd [] ?_
    simp only [push_cast, seval, ↓reduceIte, Za, hN0, hN]
    refine Zi [4, 5] [false, false, true, false, false, false, false, false, false, false, false, false, false] ?_
    simp only [push_cast, seval, ↓reduceIte]
    refine Z5 ?_
    try simp only [Zk, Zg]
    have hs1_ := Option.some.inj hs1_; subst hs1_
    refine And.intro (fun h => by cases h) (And.intro rfl (Fit2.of (Zj hU rfl rfl ?_) (by omega)))
    simp only [push_cast, seval, ↓reduceIte, Za, hN0, hN]
   replace hs1_ := Zu c135 hs1_
   refine Z0 ?_
   try simp only [Zk, Zg]
   refine Zi [3, 4, 6, 11, 12, 62, 63, 64] [false, true, true, false, false, true, false, false, false, true, false, true, true] ?_
   simp only [push_cast, seval, ↓reduceIte]
   obtain ⟨y134, hy134, hs1_⟩ := bC hs1_
   refine Zc Zd [] ?_
   simp only [push_cast, seval, ↓reduceIte, Za, hN0, hN]
   refine (Zn7 (i0 := (n + 5)) (j0_0 := (n + 9)) (by omega) (by omega) (by omega) (by simp only [push_cast, seval, ↓reduceIte, Za, Za7, hN0, hN] <;> rfl) (by simp only [push_cast, seval, ↓reduceIte, Za, Za7, hN0, hN] <;> rfl) hy134).then ?_
   simp only [push_cast, seval, ↓reduceIte, Za, hN0, hN]
   refine Zi [3, 4, 6, 62, 63, 64] [false, true, true, false, false, true, false, false, false, false, false, false, false, true] ?_
   simp only [push_cast, seval, ↓reduceIte]
   refine Zc Zd [] ?_
   simp only [push_cast, seval, ↓reduceIte, Za, hN0, hN]
   have hs1_ := Option.some.inj hs1_; subst hs1_
   refine And.intro rfl ?_
   refine Fit2.trans (E' := (⟨92, [], [(3, .ref (n + 1) 0), (4, .ref (n + 2) 0), (6, .ref (n + 5) 0), (62, .sl a0.Kids.length (fl Zp a0.Kids)), (63, .val (.int .i64 (a0.Kids.length : Int))), (64, .val (.int .i64 (IntKind.i64.wrap (s1_.1 + 1))))]⟩ : Env)) (O' := (Zy O n [none, some ⟨false, 25, 3, 1, (Ze a1)⟩, some ⟨false, 25, 3, 1, [.val (.int .i64 0), .val (.slice none 0 0), .val (.slice none 0 0)]⟩, none, none, some ⟨false, 25, 3, 1, [.val (.int .i64 y134.Kind), .sl y134.Words.length (fl (eI .u64) y134.Words), .row (n + 13) y134.Kids.length]⟩, none, none, none, none, none, none, none, some ⟨true, 25, 3, y134.Kids.length, fl Zb y134.Kids⟩])) (n' := (n + 14)) (Fit2.of (Zj hU rfl rfl ?_) (by omega)) ?_
   ·simp only [push_cast, seval, ↓reduceIte, Za, hN0, hN]
   refine Zbg (k := 14) (k' := 11) hU [10, 1, 2, 10, 10, 5, 10, 10, 10, 10, 10, 10, 10, 9] [0, 1, 2, 0, 0, 5, 0, 0, 0, 13, 0] rfl rfl rfl rfl ⟨rfl, rfl⟩ ?_
   simp only [push_cast, seval, ↓reduceIte, Za, hN0, hN]
  replace hs1_ := Zu c136 hs1_
  refine Qd ?_
  try simp only [Zk, Zg, ↓reduceIte, Nat.reduceEqDiff]
  have hs1_ := Option.some.inj hs1_; subst hs1_
  refine And.intro (fun h => by cases h) (And.intro rfl (Fit2.of (Zj hU rfl rfl ?_) (by omega)))
  simp only [push_cast, seval, ↓reduceIte, Za, hN0, hN]
 rcases z137 with z137 | z137
 ·dsimp only [Qv] at hw h
  refine Vo hw ?_
  try simp only [Zk, Zg, ↓reduceIte, Nat.reduceEqDiff]
  have h := Option.some.inj h; subst h
  refine Zs (.inr rfl) hU [.agg [.val (.int .i64 0), .val (.slice none 0 0), .val (.slice none 0 0)], .val (.bool false)] (by omega) ?_
  simp only [push_cast, seval, ↓reduceIte, Za, Try.results111, hN0, hN]
 dsimp only [Qv] at hw h
 refine Yq hw ?_
 try simp only [Zk, Zg, ↓reduceIte, Nat.reduceEqDiff]
 refine Zi [4, 6] [false, false, true, false, false, true, false, false, false, true, false] ?_
 simp only [push_cast, seval, ↓reduceIte]
 refine Zl ?_
 refine Zc Zd [] ?_
 simp only [push_cast, seval, ↓reduceIte, Za, hN0, hN]
 refine Zi [4, 5] [false, false, true, false, false, false, false, false, false, true, false] ?_
 simp only [push_cast, seval, ↓reduceIte]
 refine Z5 ?_
 try simp only [Zk, Zg]
 have h := Option.some.inj h; subst h
 refine Zs (.inr rfl) hU [.agg [.val (.int .i64 z137.1), .sl z137.2.1.length (fl (eI .u64) z137.2.1), .row (n + 9) z137.2.2.length], .val (.bool true)] (by omega) ?_
 simp only [push_cast, seval, ↓reduceIte, Za, Try.results111, hN0, hN]
theorem Zpq {Yi : (S_api_Edit → S_api_Tree → Option (S_api_Tree × Bool))} {Z8 : (S_api_Edit → S_api_Tree → Option (S_api_Tree × Bool))} {Yo : (S_api_Edit → S_api_Tree → Option (S_api_Tree × Bool))} {Z3 : (Zf → S_api_Op → Option (Bool × Zf))} {Zz : (Zf → S_api_Edit → Option (Bool × Zf))} (Qt : ∀ {a0 : S_api_Edit} {a1 : S_api_Tree} {r : (S_api_Tree × Bool)} {O : Objs} {n : Nat}, Yi a0 a1 = some r → GTo Try.prog 86 [.agg (Zh a0), .agg (Ze a1)] O n (.tup [.agg (Ze r.1), .val (.bool r.2)]) O n) (Js : ∀ {a0 : S_api_Edit} {a1 : S_api_Tree} {r : (S_api_Tree × Bool)} {O : Objs} {n : Nat}, Z8 a0 a1 = some r → GTo Try.prog 111 [.agg (Zh a0), .agg (Ze a1)] O n (.tup [.agg (Ze r.1), .val (.bool r.2)]) O n) (U3 : ∀ {a0 : S_api_Edit} {a1 : S_api_Tree} {r : (S_api_Tree × Bool)} {O : Objs} {n : Nat}, Yo a0 a1 = some r → GTo Try.prog 112 [.agg (Zh a0), .agg (Ze a1)] O n (.tup [.agg (Ze r.1), .val (.bool r.2)]) O n) (Qp : ∀ {a0 : Zf} {a1 : S_api_Op} {r : (Bool × Zf)} {O : Objs} {n : Nat} {i0 j0_0 : Nat}, i0 < n → j0_0 < n → i0 ≠ j0_0 → O i0 = some ⟨false, 143, 2, 1, [.sl a0.left.length (fl Zb a0.left), .row j0_0 a0.out.length]⟩ → O j0_0 = some ⟨true, 25, 3, a0.out.length, fl Zb a0.out⟩ → Z3 a0 a1 = some r → GTo Try.prog 134 [.ref i0 0, .agg (Ym a1)] O n (.val (.bool r.1)) (Zy ((O.upd j0_0 none).upd i0 (some ⟨false, 143, 2, 1, [.sl r.2.left.length (fl Zb r.2.left), .row n r.2.out.length]⟩)) n [some ⟨true, 25, 3, r.2.out.length, fl Zb r.2.out⟩]) (n + 1)) (Xz : ∀ {a0 : Zf} {a1 : S_api_Edit} {r : (Bool × Zf)} {O : Objs} {n : Nat} {i0 j0_0 : Nat}, i0 < n → j0_0 < n → i0 ≠ j0_0 → O i0 = some ⟨false, 143, 2, 1, [.sl a0.left.length (fl Zb a0.left), .row j0_0 a0.out.length]⟩ → O j0_0 = some ⟨true, 25, 3, a0.out.length, fl Zb a0.out⟩ → Zz a0 a1 = some r → GTo Try.prog 148 [.ref i0 0, .agg (Zh a1)] O n (.val (.bool r.1)) (Zy ((O.upd j0_0 none).upd i0 (some ⟨false, 143, 2, 1, [.sl r.2.left.length (fl Zb r.2.left), .row n r.2.out.length]⟩)) n [some ⟨true, 25, 3, r.2.out.length, fl Zb r.2.out⟩]) (n + 1)) {a0 : S_api_Edit} {a1 : S_api_Tree} {r : (S_api_Tree × Bool)} {O : Objs} {n : Nat} (h : Gz Yi Z8 Yo Z3 Zz a0 a1 = some r) : GTo Try.prog 112 [.agg (Zh a0), .agg (Ze a1)] O n (.tup [.agg (Ze r.1), .val (.bool r.2)]) O n := by
 unfold Gz at h
 refine Xj Zd Try.call112 Try.func112 rfl (Nat.le_of_ble_eq_true rfl) (Nat.le_refl _) fun hU => ?_
 have hN0 : O n = none := hU.fresh _ (Nat.le_refl _)
 have hN : ∀ k, O (n + k) = none := fun k => hU.fresh _ (Nat.le_add_right _ _)
 show W _ _ _ _ ⟨45, [], [(0, .agg (Zh a0)), (1, .agg (Ze a1))]⟩ (Zy O n []) _
 refine Zr [2, 3, 4] (Zc Zd [] ?_)
 simp only [push_cast, seval, ↓reduceIte, Za, hN0, hN]
 refine Zl ?_
 obtain ⟨z2, hz2, h⟩ := bC h
 refine Xg (E' := ⟨45, [], [(2, .ref n 0), (3, .ref (n + 1) 0), (4, .ref (n + 2) 0), (19, .val (.bool z2))]⟩) (O' := (Zy O n [some ⟨false, 54, 11, 1, (Zh a0)⟩, some ⟨false, 25, 3, 1, (Ze a1)⟩, some ⟨false, 25, 3, 1, [.val (.int .i64 0), .val (.slice none 0 0), .val (.slice none 0 0)]⟩])) (n0 := (n + 3)) ?_ ?_
 ·rcases Bool.eq_false_or_eq_true (a1.Kind != a0.List_) with c5 | c5
  ·replace hz2 := Zv c5 hz2
   refine Zc Zd [some false, some false, some false, some false] ?_
   simp only [push_cast, seval, ↓reduceIte, Za, c5, hN0, hN]
   have hz2 := Option.some.inj hz2; subst hz2
   refine And.intro rfl (Fit2.of (Zj hU rfl rfl ?_) (by omega))
   simp only [push_cast, seval, ↓reduceIte, Za, c5, hN0, hN]
  replace hz2 := Zu c5 hz2
  obtain ⟨y4, hy4, hz2⟩ := bC hz2
  refine Zc Zd [some true, some true, some true, some true] ?_
  simp only [push_cast, seval, ↓reduceIte, Za, c5, hN0, hN]
  refine (Ztf hy4).then ?_
  simp only [push_cast, seval, ↓reduceIte, Za, c5, hN0, hN]
  have hz2 := Option.some.inj hz2; subst hz2
  refine And.intro rfl (Fit2.of (Zj hU rfl rfl ?_) (by omega))
  simp only [push_cast, seval, ↓reduceIte, Za, c5, hN0, hN]
 refine Zw (t := z2) rfl (fun c13 => ?_) (fun c13 => ?_)
 ·replace h := Zv c13 h
  refine Zl ?_
  refine Zc Zd [] ?_
  simp only [push_cast, seval, ↓reduceIte, Za, hN0, hN]
  refine Zi [4, 5] [false, false, true] ?_
  simp only [push_cast, seval, ↓reduceIte]
  refine Z5 ?_
  try simp only [Zk, Zg]
  have h := Option.some.inj h; subst h
  refine Zs (.inr rfl) hU [.agg [.val (.int .i64 0), .val (.slice none 0 0), .val (.slice none 0 0)], .val (.bool false)] (by omega) ?_
  simp only [push_cast, seval, ↓reduceIte, Za, Try.results112, hN0, hN]
 replace h := Zu c13 h
 refine Z0 ?_
 try simp only [Zk, Zg]
 refine Zi [2, 3, 4] [true, true, true] ?_
 simp only [push_cast, seval, ↓reduceIte]
 refine Zl ?_
 refine Zc Zd [] ?_
 simp only [push_cast, seval, ↓reduceIte, Za, hN0, hN]
 refine Zi [2, 3, 4, 6] [true, true, true, true] ?_
 simp only [push_cast, seval, ↓reduceIte]
 refine Zl ?_
 refine Zr [3, 4, 6, 25, 26, 27] (Zc Zd [] ?_)
 simp only [push_cast, seval, ↓reduceIte, Za, hN0, hN]
 refine Zi [3, 4, 6, 25, 26, 27] [false, true, true, true] ?_
 simp only [push_cast, seval, ↓reduceIte]
 refine Zez (E' := (⟨45, [], [(3, .ref (n + 1) 0), (4, .ref (n + 2) 0), (6, .ref (n + 3) 0), (25, .sl a0.Ops.length (fl Zt a0.Ops)), (26, .val (.int .i64 (a0.Ops.length : Int))), (27, .val (.int .i64 0))]⟩ : Env)) (O' := (Zy O n [none, some ⟨false, 25, 3, 1, (Ze a1)⟩, some ⟨false, 25, 3, 1, [.val (.int .i64 0), .val (.slice none 0 0), .val (.slice none 0 0)]⟩, some ⟨false, 143, 2, 1, [.sl a1.Kids.length (fl Zb a1.Kids), .row (n + 4) ([] : List S_api_Tree).length]⟩, some ⟨true, 25, 3, ([] : List S_api_Tree).length, fl Zb ([] : List S_api_Tree)⟩, none])) (n' := (n + 6)) ?_ ?_
 ·refine Fit2.trans (E' := (⟨45, [], [(3, .ref (n + 1) 0), (4, .ref (n + 2) 0), (6, .ref (n + 3) 0), (25, .sl a0.Ops.length (fl Zt a0.Ops)), (26, .val (.int .i64 (a0.Ops.length : Int))), (27, .val (.int .i64 0))]⟩ : Env)) (O' := (Zy O n [none, some ⟨false, 25, 3, 1, (Ze a1)⟩, some ⟨false, 25, 3, 1, [.val (.int .i64 0), .val (.slice none 0 0), .val (.slice none 0 0)]⟩, some ⟨false, 143, 2, 1, [.sl a1.Kids.length (fl Zb a1.Kids), .val (.slice none 0 0)]⟩])) (n' := (n + 4)) (Fit2.of (Zj hU rfl rfl ?_) (by omega)) ?_
  ·simp only [push_cast, seval, ↓reduceIte, Za, hN0, hN]
  refine Fit2.trans (E' := (⟨45, [], [(3, .ref (n + 1) 0), (4, .ref (n + 2) 0), (6, .ref (n + 3) 0), (25, .sl a0.Ops.length (fl Zt a0.Ops)), (26, .val (.int .i64 (a0.Ops.length : Int))), (27, .val (.int .i64 0))]⟩ : Env)) (O' := (Zy O n [none, some ⟨false, 25, 3, 1, (Ze a1)⟩, some ⟨false, 25, 3, 1, [.val (.int .i64 0), .val (.slice none 0 0), .val (.slice none 0 0)]⟩, some ⟨false, 143, 2, 1, [.sl a1.Kids.length (fl Zb a1.Kids), .row (n + 4) 0]⟩, some ⟨true, 25, 3, 0, []⟩])) (n' := (n + 5)) ?_ ?_
  ·have ha := Zoq (ba := n) (E := (⟨45, [], [(3, .ref (n + 1) 0), (4, .ref (n + 2) 0), (6, .ref (n + 3) 0), (25, .sl a0.Ops.length (fl Zt a0.Ops)), (26, .val (.int .i64 (a0.Ops.length : Int))), (27, .val (.int .i64 0))]⟩ : Env)) (O := (Zy O n [none, some ⟨false, 25, 3, 1, [.val (.int .i64 a1.Kind), .sl a1.Words.length (fl (eI .u64) a1.Words), .sl a1.Kids.length (fl Zb a1.Kids)]⟩, some ⟨false, 25, 3, 1, [.val (.int .i64 0), .val (.slice none 0 0), .val (.slice none 0 0)]⟩, some ⟨false, 143, 2, 1, [.sl a1.Kids.length (fl Zb a1.Kids), .val (.slice none 0 0)]⟩])) (n := (n + 4)) (p := (n + 3)) (k := 1) (q := ⟨false, 143, 2, 1, [.sl a1.Kids.length (fl Zb a1.Kids), .val (.slice none 0 0)]⟩) 25 3 (by simp only [Zad, Zgd, List.getElem?_cons_zero, List.getElem?_cons_succ, Option.join_some, Yp]) rfl (by omega)
   simp only [Vn, Q7, Zc3, Zb5, List.set_cons_zero, List.set_cons_succ, List.cons_append, List.nil_append, List.length_cons, List.length_nil, Nat.zero_add, Nat.reduceAdd, Nat.reduceLT, Nat.add_assoc] at ha
   exact ha
  refine Fit2.trans (E' := (⟨45, [], [(3, .ref (n + 1) 0), (4, .ref (n + 2) 0), (6, .ref (n + 3) 0), (25, .sl a0.Ops.length (fl Zt a0.Ops)), (26, .val (.int .i64 (a0.Ops.length : Int))), (27, .val (.int .i64 0))]⟩ : Env)) (O' := (Zy O n [none, some ⟨false, 25, 3, 1, (Ze a1)⟩, some ⟨false, 25, 3, 1, [.val (.int .i64 0), .val (.slice none 0 0), .val (.slice none 0 0)]⟩, some ⟨false, 143, 2, 1, [.sl a1.Kids.length (fl Zb a1.Kids), .row (n + 4) ([] : List S_api_Tree).length]⟩, some ⟨true, 25, 3, ([] : List S_api_Tree).length, fl Zb ([] : List S_api_Tree)⟩])) (n' := (n + 5)) (Fit2.of (Zj hU rfl rfl ?_) (by omega)) ?_
  ·simp only [push_cast, seval, ↓reduceIte, Za, hN0, hN]
  refine Zbg (k := 5) (k' := 6) hU [5, 1, 2, 3, 4] [0, 1, 2, 3, 4, 0] rfl rfl rfl rfl ⟨rfl, rfl⟩ ?_
  simp only [push_cast, seval, ↓reduceIte, Za, hN0, hN]
 obtain ⟨z12, hz12, h⟩ := bC h
 refine Za3 (J := (Qv (fun z12 => JR n (⟨45, [], [(4, .ref (n + 2) 0), (5, .val (.bool false))]⟩ : Env) (Zy O n [none, none, some ⟨false, 25, 3, 1, [.val (.int .i64 0), .val (.slice none 0 0), .val (.slice none 0 0)]⟩, none]) (n + 4)) (fun z12 => JX 0 n (⟨45, [], [(3, .ref (n + 1) 0), (4, .ref (n + 2) 0), (6, .ref (n + 3) 0)]⟩ : Env) (Zy O n [none, some ⟨false, 25, 3, 1, (Ze a1)⟩, some ⟨false, 25, 3, 1, [.val (.int .i64 0), .val (.slice none 0 0), .val (.slice none 0 0)]⟩, some ⟨false, 143, 2, 1, [.sl z12.1.length (fl Zb z12.1), .row (n + 4) z12.2.length]⟩, some ⟨true, 25, 3, z12.2.length, fl Zb z12.2⟩, none]) (n + 6)))) (z := z12) ?_ fun hw => ?_
 ·refine Y6 hz12 (fun s0_ => ⟨45, [], [(3, .ref (n + 1) 0), (4, .ref (n + 2) 0), (6, .ref (n + 3) 0), (25, .sl a0.Ops.length (fl Zt a0.Ops)), (26, .val (.int .i64 (a0.Ops.length : Int))), (27, .val (.int .i64 s0_.1))]⟩) (fun s0_ => (Zy O n [none, some ⟨false, 25, 3, 1, (Ze a1)⟩, some ⟨false, 25, 3, 1, [.val (.int .i64 0), .val (.slice none 0 0), .val (.slice none 0 0)]⟩, some ⟨false, 143, 2, 1, [.sl s0_.2.1.length (fl Zb s0_.2.1), .row (n + 4) s0_.2.2.length]⟩, some ⟨true, 25, 3, s0_.2.2.length, fl Zb s0_.2.2⟩, none])) (Qv (fun z12 => JR n (⟨45, [], [(4, .ref (n + 2) 0), (5, .val (.bool false))]⟩ : Env) (Zy O n [none, none, some ⟨false, 25, 3, 1, [.val (.int .i64 0), .val (.slice none 0 0), .val (.slice none 0 0)]⟩, none]) (n + 4)) (fun z12 => JX 0 n (⟨45, [], [(3, .ref (n + 1) 0), (4, .ref (n + 2) 0), (6, .ref (n + 3) 0)]⟩ : Env) (Zy O n [none, some ⟨false, 25, 3, 1, (Ze a1)⟩, some ⟨false, 25, 3, 1, [.val (.int .i64 0), .val (.slice none 0 0), .val (.slice none 0 0)]⟩, some ⟨false, 143, 2, 1, [.sl z12.1.length (fl Zb z12.1), .row (n + 4) z12.2.length]⟩, some ⟨true, 25, 3, z12.2.length, fl Zb z12.2⟩, none]) (n + 6))) ?_
  intro s0_ x0_ hs0_
  unfold Qs at hs0_
  try dsimp only
  refine Zr [3, 4, 6, 25, 26, 27, 28] (Zc Zd [] ?_)
  simp only [push_cast, seval, ↓reduceIte, Za, hN0, hN]
  refine Zl ?_
  refine Zw (t := (decide (s0_.1 < (a0.Ops.length : Int)))) rfl (fun c11 => ?_) (fun c11 => ?_)
  ·replace hs0_ := Zv c11 hs0_
   refine Z0 ?_
   try simp only [Zk, Zg]
   refine Zi [3, 4, 6, 25, 26, 27] [false, true, true, true, true, false] ?_
   simp only [push_cast, seval, ↓reduceIte]
   refine Zl ?_
   refine Yr ?_
   refine Zl ?_
   obtain ⟨x7, hx7, ax7, bx7, cx7, hs0_⟩ := bE (f := Zt) Zg5 (fun _ => rfl) (by decide) hs0_
   refine Zc Zd [] ?_
   simp only [push_cast, Nat.reduceAdd, Nat.reduceSub, Nat.reduceMul, Nat.reduceLeDiff, Nat.reduceLT, Nat.reduceEqDiff, ↓reduceIte, reduceCtorEq, Int.reduceBEq, Int.reduceBNe, Nat.reduceBEq, Int.reduceLE, Int.reduceLT, Int.reduceEq, Int.reduceNe, Int.reduceNeg, Nat.reduceDiv, Nat.reduceMod, Nat.reducePow, Za, ax7, bx7, cx7, hN0, hN]
   refine Zi [3, 4, 6, 8, 25, 26, 27] [false, true, true, true, true, false, true] ?_
   simp only [push_cast, seval, ↓reduceIte]
   refine Zl ?_
   obtain ⟨y9, hy9, hs0_⟩ := bC hs0_
   refine Zc Zd [] ?_
   simp only [push_cast, seval, ↓reduceIte, Za, hN0, hN]
   refine (Qp (i0 := (n + 3)) (j0_0 := (n + 4)) (by omega) (by omega) (by omega) (by simp only [push_cast, seval, ↓reduceIte, Za, Za7, hN0, hN] <;> rfl) (by simp only [push_cast, seval, ↓reduceIte, Za, Za7, hN0, hN] <;> rfl) hy9).then ?_
   simp only [push_cast, seval, ↓reduceIte, Za, hN0, hN]
   refine Zi [3, 4, 6, 25, 26, 27, 33] [false, true, true, true, false, false, false, true] ?_
   simp only [push_cast, seval, ↓reduceIte]
   refine Zw (t := (!y9.1)) rfl (fun c10 => ?_) (fun c10 => ?_)
   ·replace hs0_ := Zv c10 hs0_
    refine Zl ?_
    refine Zc Zd [] ?_
    simp only [push_cast, seval, ↓reduceIte, Za, hN0, hN]
    refine Zi [4, 5] [false, false, true, false, false, false, false, false] ?_
    simp only [push_cast, seval, ↓reduceIte]
    refine Z5 ?_
    try simp only [Zk, Zg]
    have hs0_ := Option.some.inj hs0_; subst hs0_
    refine And.intro (fun h => by cases h) (And.intro rfl (Fit2.of (Zj hU rfl rfl ?_) (by omega)))
    simp only [push_cast, seval, ↓reduceIte, Za, hN0, hN]
   replace hs0_ := Zu c10 hs0_
   refine Z0 ?_
   try simp only [Zk, Zg]
   refine Zi [3, 4, 6, 25, 26, 27] [false, true, true, true, false, false, false, true] ?_
   simp only [push_cast, seval, ↓reduceIte]
   refine Zc Zd [] ?_
   simp only [push_cast, seval, ↓reduceIte, Za, hN0, hN]
   have hs0_ := Option.some.inj hs0_; subst hs0_
   refine And.intro rfl ?_
   refine Fit2.trans (E' := (⟨45, [], [(3, .ref (n + 1) 0), (4, .ref (n + 2) 0), (6, .ref (n + 3) 0), (25, .sl a0.Ops.length (fl Zt a0.Ops)), (26, .val (.int .i64 (a0.Ops.length : Int))), (27, .val (.int .i64 (IntKind.i64.wrap (s0_.1 + 1))))]⟩ : Env)) (O' := (Zy O n [none, some ⟨false, 25, 3, 1, (Ze a1)⟩, some ⟨false, 25, 3, 1, [.val (.int .i64 0), .val (.slice none 0 0), .val (.slice none 0 0)]⟩, some ⟨false, 143, 2, 1, [.sl y9.2.left.length (fl Zb y9.2.left), .row (n + 7) y9.2.out.length]⟩, none, none, none, some ⟨true, 25, 3, y9.2.out.length, fl Zb y9.2.out⟩])) (n' := (n + 8)) (Fit2.of (Zj hU rfl rfl ?_) (by omega)) ?_
   ·simp only [push_cast, seval, ↓reduceIte, Za, hN0, hN]
   refine Zbg (k := 8) (k' := 6) hU [5, 1, 2, 3, 5, 5, 5, 4] [0, 1, 2, 3, 7, 0] rfl rfl rfl rfl ⟨rfl, rfl⟩ ?_
   simp only [push_cast, seval, ↓reduceIte, Za, hN0, hN]
  replace hs0_ := Zu c11 hs0_
  refine Qd ?_
  try simp only [Zk, Zg, ↓reduceIte, Nat.reduceEqDiff]
  have hs0_ := Option.some.inj hs0_; subst hs0_
  refine And.intro (fun h => by cases h) (And.intro rfl (Fit2.of (Zj hU rfl rfl ?_) (by omega)))
  simp only [push_cast, seval, ↓reduceIte, Za, hN0, hN]
 rcases z12 with z12 | z12
 ·dsimp only [Qv] at hw h
  refine Vo hw ?_
  try simp only [Zk, Zg, ↓reduceIte, Nat.reduceEqDiff]
  have h := Option.some.inj h; subst h
  refine Zs (.inr rfl) hU [.agg [.val (.int .i64 0), .val (.slice none 0 0), .val (.slice none 0 0)], .val (.bool false)] (by omega) ?_
  simp only [push_cast, seval, ↓reduceIte, Za, Try.results112, hN0, hN]
 dsimp only [Qv] at hw h
 refine Yq hw ?_
 try simp only [Zk, Zg, ↓reduceIte, Nat.reduceEqDiff]
 refine Zi [3, 4, 6] [false, true, true, true, true, false] ?_
 simp only [push_cast, seval, ↓reduceIte]
 refine Zl ?_
 refine Zkj Zd (by kernel_rfl) [.plain, .plain, .plain, .plain, .plain, .low, .low, .low, .low, .pass, .plain] (fun i => i ≠ n + 2) [0, 1, 2, 3, 4, 5, 6, 7, 8, 9, 10] [.plain, .plain, .plain, .plain, .plain, .low, .low, .low, .low, .pass, .plain] [] (by kernel_rfl) rfl ?_
 simp only [push_cast, seval, ↓reduceIte, Za, hN0, hN]
 repeat (with_reducible refine And.intro (by first | omega | exact Xn rfl | exact Y2 | exact Zb7 rfl rfl) ?_)
 refine Zi [4, 5] [false, false, true, false, true, false] ?_
 simp only [push_cast, seval, ↓reduceIte]
 refine Z5 ?_
 try simp only [Zk, Zg]
 have h := Option.some.inj h; subst h
 refine Zs (.inr rfl) hU [.agg [.val (.int .i64 a1.Kind), .val (.slice none 0 0), .row (n + 4) z12.2.length], .val (.bool ((z12.1.length : Int) == 0))] (by omega) ?_
 simp only [push_cast, seval, ↓reduceIte, Za, Try.results112, hN0, hN]
theorem Zhc {Yi : (S_api_Edit → S_api_Tree → Option (S_api_Tree × Bool))} {Z8 : (S_api_Edit → S_api_Tree → Option (S_api_Tree × Bool))} {Yo : (S_api_Edit → S_api_Tree → Option (S_api_Tree × Bool))} {Z3 : (Zf → S_api_Op → Option (Bool × Zf))} {Zz : (Zf → S_api_Edit → Option (Bool × Zf))} (Qt : ∀ {a0 : S_api_Edit} {a1 : S_api_Tree} {r : (S_api_Tree × Bool)} {O : Objs} {n : Nat}, Yi a0 a1 = some r → GTo Try.prog 86 [.agg (Zh a0), .agg (Ze a1)] O n (.tup [.agg (Ze r.1), .val (.bool r.2)]) O n) (Js : ∀ {a0 : S_api_Edit} {a1 : S_api_Tree} {r : (S_api_Tree × Bool)} {O : Objs} {n : Nat}, Z8 a0 a1 = some r → GTo Try.prog 111 [.agg (Zh a0), .agg (Ze a1)] O n (.tup [.agg (Ze r.1), .val (.bool r.2)]) O n) (U3 : ∀ {a0 : S_api_Edit} {a1 : S_api_Tree} {r : (S_api_Tree × Bool)} {O : Objs} {n : Nat}, Yo a0 a1 = some r → GTo Try.prog 112 [.agg (Zh a0), .agg (Ze a1)] O n (.tup [.agg (Ze r.1), .val (.bool r.2)]) O n) (Qp : ∀ {a0 : Zf} {a1 : S_api_Op} {r : (Bool × Zf)} {O : Objs} {n : Nat} {i0 j0_0 : Nat}, i0 < n → j0_0 < n → i0 ≠ j0_0 → O i0 = some ⟨false, 143, 2, 1, [.sl a0.left.length (fl Zb a0.left), .row j0_0 a0.out.length]⟩ → O j0_0 = some ⟨true, 25, 3, a0.out.length, fl Zb a0.out⟩ → Z3 a0 a1 = some r → GTo Try.prog 134 [.ref i0 0, .agg (Ym a1)] O n (.val (.bool r.1)) (Zy ((O.upd j0_0 none).upd i0 (some ⟨false, 143, 2, 1, [.sl r.2.left.length (fl Zb r.2.left), .row n r.2.out.length]⟩)) n [some ⟨true, 25, 3, r.2.out.length, fl Zb r.2.out⟩]) (n + 1)) (Xz : ∀ {a0 : Zf} {a1 : S_api_Edit} {r : (Bool × Zf)} {O : Objs} {n : Nat} {i0 j0_0 : Nat}, i0 < n → j0_0 < n → i0 ≠ j0_0 → O i0 = some ⟨false, 143, 2, 1, [.sl a0.left.length (fl Zb a0.left), .row j0_0 a0.out.length]⟩ → O j0_0 = some ⟨true, 25, 3, a0.out.length, fl Zb a0.out⟩ → Zz a0 a1 = some r → GTo Try.prog 148 [.ref i0 0, .agg (Zh a1)] O n (.val (.bool r.1)) (Zy ((O.upd j0_0 none).upd i0 (some ⟨false, 143, 2, 1, [.sl r.2.left.length (fl Zb r.2.left), .row n r.2.out.length]⟩)) n [some ⟨true, 25, 3, r.2.out.length, fl Zb r.2.out⟩]) (n + 1)) {a0 : Zf} {a1 : S_api_Op} {r : (Bool × Zf)} {O : Objs} {n : Nat} {i0 j0_0 : Nat} (hi0 : i0 < n) (Zce : j0_0 < n) (Gh : i0 ≠ j0_0) (ho0 : O i0 = some ⟨false, 143, 2, 1, [.sl a0.left.length (fl Zb a0.left), .row j0_0 a0.out.length]⟩) (Zbt : O j0_0 = some ⟨true, 25, 3, a0.out.length, fl Zb a0.out⟩) (h : Kk Yi Z8 Yo Z3 Zz a0 a1 = some r) : GTo Try.prog 134 [.ref i0 0, .agg (Ym a1)] O n (.val (.bool r.1)) (Zy ((O.upd j0_0 none).upd i0 (some ⟨false, 143, 2, 1, [.sl r.2.left.length (fl Zb r.2.left), .row n r.2.out.length]⟩)) n [some ⟨true, 25, 3, r.2.out.length, fl Zb r.2.out⟩]) (n + 1) := by
 unfold Kk at h
 refine Xj Zd Try.call134 Try.func134 rfl (Nat.le_of_ble_eq_true rfl) (by omega) fun hU => ?_
 have e0 := Zii (ba := n) (E := ⟨99, [], Zj0 0 [.ref i0 0, .agg [.val (.int .i64 a1.Kind), .val (.int .i64 a1.N), .sl a1.L.length (fl Zb a1.L), .val (.int .i64 a1.E.Kind), .val (.int .i64 a1.E.Old.Kind), .sl a1.E.Old.Words.length (fl (eI .u64) a1.E.Old.Words), .sl a1.E.Old.Kids.length (fl Zb a1.E.Old.Kids), .val (.int .i64 a1.E.New.Kind), .sl a1.E.New.Words.length (fl (eI .u64) a1.E.New.Words), .sl a1.E.New.Kids.length (fl Zb a1.E.New.Kids), .sl a1.E.Words.length (fl Zm a1.E.Words), .sl a1.E.Kids.length (fl Zp a1.E.Kids), .val (.int .i64 a1.E.List_), .sl a1.E.Ops.length (fl Zt a1.E.Ops)]]⟩) (O := (Zy O n [])) (n := n) (i := i0) (j := j0_0) (k := 1) (len := a0.out.length) (q := ⟨false, 143, 2, 1, [.sl a0.left.length (fl Zb a0.left), .row j0_0 a0.out.length]⟩) (qj := ⟨true, 25, 3, a0.out.length, fl Zb a0.out⟩) (by rw [Xx _ hi0]; first | exact ho0 | exact Yp _ _ _) rfl (by rw [Xx _ Zce]; exact Zbt) Gh (by omega)
 simp only [K1 _ _ Zce, K1 _ _ hi0, Vn, Q7, Zam, Zq8 Gh, List.set_cons_zero, List.set_cons_succ, List.cons_append, List.nil_append, List.length_cons, List.length_nil, Nat.zero_add, Nat.reduceAdd, Nat.add_assoc] at e0
 refine Zez e0 ?_
 have hU := (Und.drop hU j0_0)
 have hk0 : ∀ k, i0 < n + k := fun k => by omega
 have hN0 : ∀ o, Objs.upd (O.upd j0_0 none) i0 o n = none := fun o => Za0 hU hi0 _ (Nat.le_refl _)
 have hN : ∀ o k, Objs.upd (O.upd j0_0 none) i0 o (n + k) = none := fun o k => Za0 hU hi0 _ (Nat.le_add_right _ _)
 show W _ _ _ _ ⟨99, [], [(0, .ref i0 0), (1, .agg (Ym a1))]⟩ (Zy ((O.upd j0_0 none).upd i0 (some ⟨false, 143, 2, 1, [.sl a0.left.length (fl Zb a0.left), .row n a0.out.length]⟩)) n [some ⟨true, 25, 3, a0.out.length, fl Zb a0.out⟩]) _
 refine Zr [0, 3] (Zc Zd [] ?_)
 simp only [push_cast, seval, ↓reduceIte, Za, hi0, hk0, hN0, hN]
 refine Zl ?_
 refine Zr [0, 3, 7] (Zc Zd [] ?_)
 simp only [push_cast, seval, ↓reduceIte, Za, hi0, hk0, hN0, hN]
 refine Yr ?_
 refine Zr [0, 3, 7, 8] (Zc Zd [] ?_)
 simp only [push_cast, seval, ↓reduceIte, Za, hi0, hk0, hN0, hN]
 refine Zw (t := (a1.Kind == 0)) rfl (fun c28 => ?_) (fun c28 => ?_)
 ·replace h := Zv c28 h
  refine Zl ?_
  obtain ⟨z1, hz1, h⟩ := bC h
  refine Xg (E' := ⟨99, [], [(0, .ref i0 0), (3, .ref (n + 1) 0), (22, .val (.bool z1))]⟩) (O' := (Zy ((O.upd j0_0 none).upd i0 (some ⟨false, 143, 2, 1, [.sl a0.left.length (fl Zb a0.left), .row n a0.out.length]⟩)) n [some ⟨true, 25, 3, a0.out.length, fl Zb a0.out⟩, some ⟨false, 64, 14, 1, (Ym a1)⟩])) (n0 := (n + 2)) ?_ ?_
  ·rcases Bool.eq_false_or_eq_true (decide (a1.N < 0)) with c2 | c2
   ·replace hz1 := Zv c2 hz1
    refine X4 Zd (by kernel_rfl) [some false, some false, some false, some false, some false, some false, some false, some false] (by kernel_rfl) ?_
    simp only [push_cast, seval, ↓reduceIte, Za, c2, hi0, hk0, hN0, hN]
    have hz1 := Option.some.inj hz1; subst hz1
    refine And.intro rfl (Fit2.of (Xi hU rfl rfl ?_) (by omega))
    simp only [push_cast, seval, ↓reduceIte, Za, c2, hi0, hk0, hN0, hN]
   replace hz1 := Zu c2 hz1
   refine X4 Zd (by kernel_rfl) [some true, some true, some true, some true, some true, some true, some true, some true] (by kernel_rfl) ?_
   simp only [push_cast, seval, ↓reduceIte, Za, c2, hi0, hk0, hN0, hN]
   have hz1 := Option.some.inj hz1; subst hz1
   refine And.intro rfl (Fit2.of (Xi hU rfl rfl ?_) (by omega))
   simp only [push_cast, seval, ↓reduceIte, Za, c2, hi0, hk0, hN0, hN]
  refine Zw (t := z1) rfl (fun c9 => ?_) (fun c9 => ?_)
  ·replace h := Zv c9 h
   refine Zr [4] (Zc Zd [] ?_)
   simp only [push_cast, seval, ↓reduceIte, Za, hi0, hk0, hN0, hN]
   refine Z5 ?_
   try simp only [Zk, Zg]
   have h := Option.some.inj h; subst h
   refine Ug (k := 1) (i := i0) (q1 := ⟨false, 143, 2, 1, [.sl a0.left.length (fl Zb a0.left), .row n a0.out.length]⟩) (L3 := [some ⟨true, 25, 3, a0.out.length, fl Zb a0.out⟩, none]) (E2 := (⟨99, [], [(4, .val (.bool false))]⟩ : Env)) (n3 := (n + 2)) (.inr rfl) hU rfl [.val (.bool false)] ?_ ?_
   ·refine Fit2.trans (E' := (⟨99, [], [(4, .val (.bool false))]⟩ : Env)) (O' := (Zy ((O.upd j0_0 none).upd i0 (some ⟨false, 143, 2, 1, [.sl a0.left.length (fl Zb a0.left), .row n a0.out.length]⟩)) n [some ⟨true, 25, 3, a0.out.length, fl Zb a0.out⟩, none])) (n' := (n + 2)) (Fit2.of (Xi hU rfl rfl ?_) (by omega)) ?_
    ·simp only [push_cast, seval, ↓reduceIte, Za, hi0, hk0, hN0, hN]
    refine Un (k := 2) (k' := 2) hU [0, 1] [0, 0] rfl rfl rfl rfl ⟨rfl, rfl⟩ ?_
    simp only [push_cast, seval, ↓reduceIte, Za, hi0, hk0, hN0, hN]
   simp only [push_cast, seval, ↓reduceIte, Za, Try.results134, hi0, hk0, hN0, hN]
  replace h := Zu c9 h
  refine Z0 ?_
  try simp only [Zk, Zg]
  refine Zi [0, 3] [true, true] ?_
  simp only [push_cast, seval, ↓reduceIte]
  refine Zl ?_
  obtain ⟨l5, al5, bl5, cl5, gl5, h⟩ := bS (lo := none) (hi := (some (.i64, a1.N))) (f := Zb) rfl rfl Zab V4 (fun _ => rfl) h
  obtain ⟨l6, pl6, ql6, el6, h⟩ := bA (k := l5.length) rfl h
  refine Zem Zd (by kernel_rfl) [false, false, false, false, false, false, false, false, false, false, false, false, true, false, false, true] [] (by kernel_rfl) ?_
  simp only [push_cast, seval, ↓reduceIte, Za, al5, bl5, cl5, gl5, pl6, ql6, el6, hi0, hk0, hN0, hN]
  refine Zkk ⟨99, [], [(0, .ref i0 0), (3, .ref (n + 1) 0)]⟩ (Zy ((O.upd j0_0 none).upd i0 (some ⟨false, 143, 2, 1, [.sl a0.left.length (fl Zb a0.left), .row n l6.length]⟩)) n [some ⟨true, 25, 3, l6.length, fl Zb l6⟩, some ⟨false, 64, 14, 1, (Ym a1)⟩]) (Xi hU rfl rfl ?_) ?_
  ·simp only [push_cast, seval, ↓reduceIte, Za, al5, bl5, cl5, gl5, pl6, ql6, el6, hi0, hk0, hN0, hN]
  refine Zl ?_
  obtain ⟨l8, al8, bl8, cl8, gl8, h⟩ := bS (lo := (some (.i64, a1.N))) (hi := none) (f := Zb) rfl rfl Zab V4 (fun _ => rfl) h
  refine Zem Zd (by kernel_rfl) [false, false, false, false, false, false, false, false, false, false, true] [] (by kernel_rfl) ?_
  simp only [push_cast, seval, ↓reduceIte, Za, al8, bl8, cl8, gl8, hi0, hk0, hN0, hN]
  refine Zi [] [true, false] ?_
  simp only [push_cast, seval, ↓reduceIte]
  refine Zr [4] (Zc Zd [] ?_)
  simp only [push_cast, seval, ↓reduceIte, Za, hi0, hk0, hN0, hN]
  refine Z5 ?_
  try simp only [Zk, Zg]
  have h := Option.some.inj h; subst h
  refine Ug (k := 1) (i := i0) (q1 := ⟨false, 143, 2, 1, [.sl l8.length (fl Zb l8), .row n l6.length]⟩) (L3 := [some ⟨true, 25, 3, l6.length, fl Zb l6⟩, none]) (E2 := (⟨99, [], [(4, .val (.bool true))]⟩ : Env)) (n3 := (n + 2)) (.inr rfl) hU rfl [.val (.bool true)] ?_ ?_
  ·refine Fit2.trans (E' := (⟨99, [], [(4, .val (.bool true))]⟩ : Env)) (O' := (Zy ((O.upd j0_0 none).upd i0 (some ⟨false, 143, 2, 1, [.sl l8.length (fl Zb l8), .row n l6.length]⟩)) n [some ⟨true, 25, 3, l6.length, fl Zb l6⟩, none])) (n' := (n + 2)) (Fit2.of (Xi hU rfl rfl ?_) (by omega)) ?_
   ·simp only [push_cast, seval, ↓reduceIte, Za, hi0, hk0, hN0, hN]
   refine Un (k := 2) (k' := 2) hU [0, 1] [0, 0] rfl rfl rfl rfl ⟨rfl, rfl⟩ ?_
   simp only [push_cast, seval, ↓reduceIte, Za, hi0, hk0, hN0, hN]
  simp only [push_cast, seval, ↓reduceIte, Za, Try.results134, hi0, hk0, hN0, hN]
 replace h := Zu c28 h
 refine Zr [0, 3, 7, 48] (Zc Zd [] ?_)
 simp only [push_cast, seval, ↓reduceIte, Za, hi0, hk0, hN0, hN]
 refine Zw (t := (a1.Kind == 1)) rfl (fun c27 => ?_) (fun c27 => ?_)
 ·replace h := Zv c27 h
  refine Zr [0, 3, 5] (Zc Zd [] ?_)
  simp only [push_cast, seval, ↓reduceIte, Za, hi0, hk0, hN0, hN]
  refine Zl ?_
  obtain ⟨z12, hz12, h⟩ := bC h
  refine Xg (E' := ⟨99, [], [(0, .ref i0 0), (5, .val (.int .i64 (a1.L.length : Int))), (71, .val (.bool z12))]⟩) (O' := (Zy ((O.upd j0_0 none).upd i0 (some ⟨false, 143, 2, 1, [.sl a0.left.length (fl Zb a0.left), .row n a0.out.length]⟩)) n [some ⟨true, 25, 3, a0.out.length, fl Zb a0.out⟩, none])) (n0 := (n + 2)) ?_ ?_
  ·rcases Bool.eq_false_or_eq_true (decide ((a0.left.length : Int) < (a1.L.length : Int))) with c17 | c17
   ·replace hz12 := Zv c17 hz12
    refine X4 Zd (by kernel_rfl) [some false, some false, some false, some false, some false, some false, some false, some false, some false, some false] (by kernel_rfl) ?_
    simp only [push_cast, seval, ↓reduceIte, Za, c17, hi0, hk0, hN0, hN]
    have hz12 := Option.some.inj hz12; subst hz12
    refine And.intro rfl (Fit2.of (Xi hU rfl rfl ?_) (by omega))
    simp only [push_cast, seval, ↓reduceIte, Za, c17, hi0, hk0, hN0, hN]
   replace hz12 := Zu c17 hz12
   obtain ⟨l15, al15, bl15, cl15, gl15, hz12⟩ := bS (lo := none) (hi := (some (.i64, (a1.L.length : Int)))) (f := Zb) rfl rfl Zab V4 (fun _ => rfl) hz12
   obtain ⟨y16, hy16, hz12⟩ := bC hz12
   refine X4 Zd (by kernel_rfl) [some true, some true, some true, some true, some true, some true, some true, some true, some true, some true] (by kernel_rfl) ?_
   simp only [push_cast, seval, ↓reduceIte, Za, c17, al15, bl15, cl15, gl15, hi0, hk0, hN0, hN]
   refine PCall.of (Q0 hy16) ?_
   simp only [push_cast, seval, ↓reduceIte, Za, c17, al15, bl15, cl15, gl15, hi0, hk0, hN0, hN]
   have hz12 := Option.some.inj hz12; subst hz12
   refine And.intro rfl (Fit2.of (Xi hU rfl rfl ?_) (by omega))
   simp only [push_cast, seval, ↓reduceIte, Za, c17, al15, bl15, cl15, gl15, hi0, hk0, hN0, hN]
  refine Zw (t := z12) rfl (fun c20 => ?_) (fun c20 => ?_)
  ·replace h := Zv c20 h
   refine Zr [4] (Zc Zd [] ?_)
   simp only [push_cast, seval, ↓reduceIte, Za, hi0, hk0, hN0, hN]
   refine Z5 ?_
   try simp only [Zk, Zg]
   have h := Option.some.inj h; subst h
   refine Ug (k := 1) (i := i0) (q1 := ⟨false, 143, 2, 1, [.sl a0.left.length (fl Zb a0.left), .row n a0.out.length]⟩) (L3 := [some ⟨true, 25, 3, a0.out.length, fl Zb a0.out⟩, none]) (E2 := (⟨99, [], [(4, .val (.bool false))]⟩ : Env)) (n3 := (n + 2)) (.inr rfl) hU rfl [.val (.bool false)] ?_ ?_
   ·refine Fit2.trans (E' := (⟨99, [], [(4, .val (.bool false))]⟩ : Env)) (O' := (Zy ((O.upd j0_0 none).upd i0 (some ⟨false, 143, 2, 1, [.sl a0.left.length (fl Zb a0.left), .row n a0.out.length]⟩)) n [some ⟨true, 25, 3, a0.out.length, fl Zb a0.out⟩, none])) (n' := (n + 2)) (Fit2.of (Xi hU rfl rfl ?_) (by omega)) ?_
    ·simp only [push_cast, seval, ↓reduceIte, Za, hi0, hk0, hN0, hN]
    refine Un (k := 2) (k' := 2) hU [0, 1] [0, 0] rfl rfl rfl rfl ⟨rfl, rfl⟩ ?_
    simp only [push_cast, seval, ↓reduceIte, Za, hi0, hk0, hN0, hN]
   simp only [push_cast, seval, ↓reduceIte, Za, Try.results134, hi0, hk0, hN0, hN]
  replace h := Zu c20 h
  refine Z0 ?_
  try simp only [Zk, Zg]
  refine Zi [0, 5] [true, false] ?_
  simp only [push_cast, seval, ↓reduceIte]
  refine Zl ?_
  obtain ⟨l19, al19, bl19, cl19, gl19, h⟩ := bS (lo := (some (.i64, (a1.L.length : Int)))) (hi := none) (f := Zb) rfl rfl Zab V4 (fun _ => rfl) h
  refine Zc Zd [] ?_
  simp only [push_cast, seval, ↓reduceIte, Za, al19, bl19, cl19, gl19, hi0, hk0, hN0, hN]
  refine Zi [] [true, false] ?_
  simp only [push_cast, seval, ↓reduceIte]
  refine Zr [4] (Zc Zd [] ?_)
  simp only [push_cast, seval, ↓reduceIte, Za, hi0, hk0, hN0, hN]
  refine Z5 ?_
  try simp only [Zk, Zg]
  have h := Option.some.inj h; subst h
  refine Ug (k := 1) (i := i0) (q1 := ⟨false, 143, 2, 1, [.sl l19.length (fl Zb l19), .row n a0.out.length]⟩) (L3 := [some ⟨true, 25, 3, a0.out.length, fl Zb a0.out⟩, none]) (E2 := (⟨99, [], [(4, .val (.bool true))]⟩ : Env)) (n3 := (n + 2)) (.inr rfl) hU rfl [.val (.bool true)] ?_ ?_
  ·refine Fit2.trans (E' := (⟨99, [], [(4, .val (.bool true))]⟩ : Env)) (O' := (Zy ((O.upd j0_0 none).upd i0 (some ⟨false, 143, 2, 1, [.sl l19.length (fl Zb l19), .row n a0.out.length]⟩)) n [some ⟨true, 25, 3, a0.out.length, fl Zb a0.out⟩, none])) (n' := (n + 2)) (Fit2.of (Xi hU rfl rfl ?_) (by omega)) ?_
   ·simp only [push_cast, seval, ↓reduceIte, Za, hi0, hk0, hN0, hN]
   refine Un (k := 2) (k' := 2) hU [0, 1] [0, 0] rfl rfl rfl rfl ⟨rfl, rfl⟩ ?_
   simp only [push_cast, seval, ↓reduceIte, Za, hi0, hk0, hN0, hN]
  simp only [push_cast, seval, ↓reduceIte, Za, Try.results134, hi0, hk0, hN0, hN]
 replace h := Zu c27 h
 refine Zr [0, 3, 7, 81] (Zc Zd [] ?_)
 simp only [push_cast, seval, ↓reduceIte, Za, hi0, hk0, hN0, hN]
 refine Zw (t := (a1.Kind == 2)) rfl (fun c26 => ?_) (fun c26 => ?_)
 ·replace h := Zv c26 h
  refine Zl ?_
  obtain ⟨l22, pl22, ql22, el22, h⟩ := bA (k := a1.L.length) rfl h
  refine Zem Zd (by kernel_rfl) [false, false, false, false, false, false, false, true, false, false, true] [] (by kernel_rfl) ?_
  simp only [push_cast, seval, ↓reduceIte, Za, pl22, ql22, el22, hi0, hk0, hN0, hN]
  refine Zkk ⟨99, [], []⟩ (Zy ((O.upd j0_0 none).upd i0 (some ⟨false, 143, 2, 1, [.sl a0.left.length (fl Zb a0.left), .row n l22.length]⟩)) n [some ⟨true, 25, 3, l22.length, fl Zb l22⟩, none]) (Xi hU rfl rfl ?_) ?_
  ·simp only [push_cast, seval, ↓reduceIte, Za, pl22, ql22, el22, hi0, hk0, hN0, hN]
  refine Zr [4] (Zc Zd [] ?_)
  simp only [push_cast, seval, ↓reduceIte, Za, hi0, hk0, hN0, hN]
  refine Z5 ?_
  try simp only [Zk, Zg]
  have h := Option.some.inj h; subst h
  refine Ug (k := 1) (i := i0) (q1 := ⟨false, 143, 2, 1, [.sl a0.left.length (fl Zb a0.left), .row n l22.length]⟩) (L3 := [some ⟨true, 25, 3, l22.length, fl Zb l22⟩, none]) (E2 := (⟨99, [], [(4, .val (.bool true))]⟩ : Env)) (n3 := (n + 2)) (.inr rfl) hU rfl [.val (.bool true)] ?_ ?_
  ·refine Fit2.trans (E' := (⟨99, [], [(4, .val (.bool true))]⟩ : Env)) (O' := (Zy ((O.upd j0_0 none).upd i0 (some ⟨false, 143, 2, 1, [.sl a0.left.length (fl Zb a0.left), .row n l22.length]⟩)) n [some ⟨true, 25, 3, l22.length, fl Zb l22⟩, none])) (n' := (n + 2)) (Fit2.of (Xi hU rfl rfl ?_) (by omega)) ?_
   ·simp only [push_cast, seval, ↓reduceIte, Za, hi0, hk0, hN0, hN]
   refine Un (k := 2) (k' := 2) hU [0, 1] [0, 0] rfl rfl rfl rfl ⟨rfl, rfl⟩ ?_
   simp only [push_cast, seval, ↓reduceIte, Za, hi0, hk0, hN0, hN]
  simp only [push_cast, seval, ↓reduceIte, Za, Try.results134, hi0, hk0, hN0, hN]
 replace h := Zu c26 h
 refine Zr [0, 3, 93] (Zc Zd [] ?_)
 simp only [push_cast, seval, ↓reduceIte, Za, hi0, hk0, hN0, hN]
 refine Zw (t := (a1.Kind == 3)) rfl (fun c25 => ?_) (fun c25 => ?_)
 ·replace h := Zv c25 h
  refine Zl ?_
  obtain ⟨y24, hy24, h⟩ := bC h
  refine Zc Zd [] ?_
  simp only [push_cast, seval, ↓reduceIte, Za, hi0, hk0, hN0, hN]
  refine (Xz (i0 := i0) (j0_0 := n) (by omega) (by omega) (by omega) (by simp only [push_cast, seval, ↓reduceIte, Za, Za7, hi0, hk0, hN0, hN] <;> rfl) (by simp only [push_cast, seval, ↓reduceIte, Za, Za7, hi0, hk0, hN0, hN] <;> rfl) hy24).then ?_
  simp only [push_cast, seval, ↓reduceIte, Za, hi0, hk0, hN0, hN]
  refine Zi [4] [false, false, true] ?_
  simp only [push_cast, seval, ↓reduceIte]
  refine Z5 ?_
  try simp only [Zk, Zg]
  have h := Option.some.inj h; subst h
  refine Ug (k := 1) (i := i0) (q1 := ⟨false, 143, 2, 1, [.sl y24.2.left.length (fl Zb y24.2.left), .row n y24.2.out.length]⟩) (L3 := [some ⟨true, 25, 3, y24.2.out.length, fl Zb y24.2.out⟩, none]) (E2 := (⟨99, [], [(4, .val (.bool y24.1))]⟩ : Env)) (n3 := (n + 2)) (.inr rfl) hU rfl [.val (.bool y24.1)] ?_ ?_
  ·refine Fit2.trans (E' := (⟨99, [], [(4, .val (.bool y24.1))]⟩ : Env)) (O' := (Zy ((O.upd j0_0 none).upd i0 (some ⟨false, 143, 2, 1, [.sl y24.2.left.length (fl Zb y24.2.left), .row (n + 2) y24.2.out.length]⟩)) n [none, none, some ⟨true, 25, 3, y24.2.out.length, fl Zb y24.2.out⟩])) (n' := (n + 3)) (Fit2.of (Xi hU rfl rfl ?_) (by omega)) ?_
   ·simp only [push_cast, seval, ↓reduceIte, Za, hi0, hk0, hN0, hN]
   refine Un (k := 3) (k' := 2) hU [1, 1, 0] [2, 0] rfl rfl rfl rfl ⟨rfl, rfl⟩ ?_
   simp only [push_cast, seval, ↓reduceIte, Za, hi0, hk0, hN0, hN]
  simp only [push_cast, seval, ↓reduceIte, Za, Try.results134, hi0, hk0, hN0, hN]
 replace h := Zu c25 h
 refine Z0 ?_
 try simp only [Zk, Zg]
 refine Zi [] [true, false] ?_
 simp only [push_cast, seval, ↓reduceIte]
 refine Zr [4] (Zc Zd [] ?_)
 simp only [push_cast, seval, ↓reduceIte, Za, hi0, hk0, hN0, hN]
 refine Z5 ?_
 try simp only [Zk, Zg]
 have h := Option.some.inj h; subst h
 refine Ug (k := 1) (i := i0) (q1 := ⟨false, 143, 2, 1, [.sl a0.left.length (fl Zb a0.left), .row n a0.out.length]⟩) (L3 := [some ⟨true, 25, 3, a0.out.length, fl Zb a0.out⟩, none]) (E2 := (⟨99, [], [(4, .val (.bool false))]⟩ : Env)) (n3 := (n + 2)) (.inr rfl) hU rfl [.val (.bool false)] ?_ ?_
 ·refine Fit2.trans (E' := (⟨99, [], [(4, .val (.bool false))]⟩ : Env)) (O' := (Zy ((O.upd j0_0 none).upd i0 (some ⟨false, 143, 2, 1, [.sl a0.left.length (fl Zb a0.left), .row n a0.out.length]⟩)) n [some ⟨true, 25, 3, a0.out.length, fl Zb a0.out⟩, none])) (n' := (n + 2)) (Fit2.of (Xi hU rfl rfl ?_) (by omega)) ?_
  ·simp only [push_cast, seval, ↓reduceIte, Za, hi0, hk0, hN0, hN]
  refine Un (k := 2) (k' := 2) hU [0, 1] [0, 0] rfl rfl rfl rfl ⟨rfl, rfl⟩ ?_
  simp only [push_cast, seval, ↓reduceIte, Za, hi0, hk0, hN0, hN]
 simp only [push_cast, seval, ↓reduceIte, Za, Try.results134, hi0, hk0, hN0, hN]
theorem Ze8 {Yi : (S_api_Edit → S_api_Tree → Option (S_api_Tree × Bool))} {Z8 : (S_api_Edit → S_api_Tree → Option (S_api_Tree × Bool))} {Yo : (S_api_Edit → S_api_Tree → Option (S_api_Tree × Bool))} {Z3 : (Zf → S_api_Op → Option (Bool × Zf))} {Zz : (Zf → S_api_Edit → Option (Bool × Zf))} (Qt : ∀ {a0 : S_api_Edit} {a1 : S_api_Tree} {r : (S_api_Tree × Bool)} {O : Objs} {n : Nat}, Yi a0 a1 = some r → GTo Try.prog 86 [.agg (Zh a0), .agg (Ze a1)] O n (.tup [.agg (Ze r.1), .val (.bool r.2)]) O n) (Js : ∀ {a0 : S_api_Edit} {a1 : S_api_Tree} {r : (S_api_Tree × Bool)} {O : Objs} {n : Nat}, Z8 a0 a1 = some r → GTo Try.prog 111 [.agg (Zh a0), .agg (Ze a1)] O n (.tup [.agg (Ze r.1), .val (.bool r.2)]) O n) (U3 : ∀ {a0 : S_api_Edit} {a1 : S_api_Tree} {r : (S_api_Tree × Bool)} {O : Objs} {n : Nat}, Yo a0 a1 = some r → GTo Try.prog 112 [.agg (Zh a0), .agg (Ze a1)] O n (.tup [.agg (Ze r.1), .val (.bool r.2)]) O n) (Qp : ∀ {a0 : Zf} {a1 : S_api_Op} {r : (Bool × Zf)} {O : Objs} {n : Nat} {i0 j0_0 : Nat}, i0 < n → j0_0 < n → i0 ≠ j0_0 → O i0 = some ⟨false, 143, 2, 1, [.sl a0.left.length (fl Zb a0.left), .row j0_0 a0.out.length]⟩ → O j0_0 = some ⟨true, 25, 3, a0.out.length, fl Zb a0.out⟩ → Z3 a0 a1 = some r → GTo Try.prog 134 [.ref i0 0, .agg (Ym a1)] O n (.val (.bool r.1)) (Zy ((O.upd j0_0 none).upd i0 (some ⟨false, 143, 2, 1, [.sl r.2.left.length (fl Zb r.2.left), .row n r.2.out.length]⟩)) n [some ⟨true, 25, 3, r.2.out.length, fl Zb r.2.out⟩]) (n + 1)) (Xz : ∀ {a0 : Zf} {a1 : S_api_Edit} {r : (Bool × Zf)} {O : Objs} {n : Nat} {i0 j0_0 : Nat}, i0 < n → j0_0 < n → i0 ≠ j0_0 → O i0 = some ⟨false, 143, 2, 1, [.sl a0.left.length (fl Zb a0.left), .row j0_0 a0.out.length]⟩ → O j0_0 = some ⟨true, 25, 3, a0.out.length, fl Zb a0.out⟩ → Zz a0 a1 = some r → GTo Try.prog 148 [.ref i0 0, .agg (Zh a1)] O n (.val (.bool r.1)) (Zy ((O.upd j0_0 none).upd i0 (some ⟨false, 143, 2, 1, [.sl r.2.left.length (fl Zb r.2.left), .row n r.2.out.length]⟩)) n [some ⟨true, 25, 3, r.2.out.length, fl Zb r.2.out⟩]) (n + 1)) {a0 : Zf} {a1 : S_api_Edit} {r : (Bool × Zf)} {O : Objs} {n : Nat} {i0 j0_0 : Nat} (hi0 : i0 < n) (Zce : j0_0 < n) (Gh : i0 ≠ j0_0) (ho0 : O i0 = some ⟨false, 143, 2, 1, [.sl a0.left.length (fl Zb a0.left), .row j0_0 a0.out.length]⟩) (Zbt : O j0_0 = some ⟨true, 25, 3, a0.out.length, fl Zb a0.out⟩) (h : Qn Yi Z8 Yo Z3 Zz a0 a1 = some r) : GTo Try.prog 148 [.ref i0 0, .agg (Zh a1)] O n (.val (.bool r.1)) (Zy ((O.upd j0_0 none).upd i0 (some ⟨false, 143, 2, 1, [.sl r.2.left.length (fl Zb r.2.left), .row n r.2.out.length]⟩)) n [some ⟨true, 25, 3, r.2.out.length, fl Zb r.2.out⟩]) (n + 1) := by
 unfold Qn at h
 refine Xj Zd Try.call148 Try.func148 rfl (Nat.le_of_ble_eq_true rfl) (by omega) fun hU => ?_
 have e0 := Zii (ba := n) (E := ⟨44, [], Zj0 0 [.ref i0 0, .agg [.val (.int .i64 a1.Kind), .val (.int .i64 a1.Old.Kind), .sl a1.Old.Words.length (fl (eI .u64) a1.Old.Words), .sl a1.Old.Kids.length (fl Zb a1.Old.Kids), .val (.int .i64 a1.New.Kind), .sl a1.New.Words.length (fl (eI .u64) a1.New.Words), .sl a1.New.Kids.length (fl Zb a1.New.Kids), .sl a1.Words.length (fl Zm a1.Words), .sl a1.Kids.length (fl Zp a1.Kids), .val (.int .i64 a1.List_), .sl a1.Ops.length (fl Zt a1.Ops)]]⟩) (O := (Zy O n [])) (n := n) (i := i0) (j := j0_0) (k := 1) (len := a0.out.length) (q := ⟨false, 143, 2, 1, [.sl a0.left.length (fl Zb a0.left), .row j0_0 a0.out.length]⟩) (qj := ⟨true, 25, 3, a0.out.length, fl Zb a0.out⟩) (by rw [Xx _ hi0]; first | exact ho0 | exact Yp _ _ _) rfl (by rw [Xx _ Zce]; exact Zbt) Gh (by omega)
 simp only [K1 _ _ Zce, K1 _ _ hi0, Vn, Q7, Zam, Zq8 Gh, List.set_cons_zero, List.set_cons_succ, List.cons_append, List.nil_append, List.length_cons, List.length_nil, Nat.zero_add, Nat.reduceAdd, Nat.add_assoc] at e0
 refine Zez e0 ?_
 have hU := (Und.drop hU j0_0)
 have hk0 : ∀ k, i0 < n + k := fun k => by omega
 have hN0 : ∀ o, Objs.upd (O.upd j0_0 none) i0 o n = none := fun o => Za0 hU hi0 _ (Nat.le_refl _)
 have hN : ∀ o k, Objs.upd (O.upd j0_0 none) i0 o (n + k) = none := fun o k => Za0 hU hi0 _ (Nat.le_add_right _ _)
 show W _ _ _ _ ⟨44, [], [(0, .ref i0 0), (1, .agg (Zh a1))]⟩ (Zy ((O.upd j0_0 none).upd i0 (some ⟨false, 143, 2, 1, [.sl a0.left.length (fl Zb a0.left), .row n a0.out.length]⟩)) n [some ⟨true, 25, 3, a0.out.length, fl Zb a0.out⟩]) _
 refine Zr [0, 3] (Zc Zd [] ?_)
 simp only [push_cast, seval, ↓reduceIte, Za, hi0, hk0, hN0, hN]
 refine Zl ?_
 refine Zr [0, 3, 12] (Zc Zd [] ?_)
 simp only [push_cast, seval, ↓reduceIte, Za, hi0, hk0, hN0, hN]
 refine Zw (t := ((a0.left.length : Int) == 0)) rfl (fun c13 => ?_) (fun c13 => ?_)
 ·replace h := Zv c13 h
  refine Zr [4] (Zc Zd [] ?_)
  simp only [push_cast, seval, ↓reduceIte, Za, hi0, hk0, hN0, hN]
  refine Z5 ?_
  try simp only [Zk, Zg]
  have h := Option.some.inj h; subst h
  refine Ug (k := 1) (i := i0) (q1 := ⟨false, 143, 2, 1, [.sl a0.left.length (fl Zb a0.left), .row n a0.out.length]⟩) (L3 := [some ⟨true, 25, 3, a0.out.length, fl Zb a0.out⟩, none]) (E2 := (⟨44, [], [(4, .val (.bool false))]⟩ : Env)) (n3 := (n + 2)) (.inr rfl) hU rfl [.val (.bool false)] ?_ ?_
  ·refine Fit2.trans (E' := (⟨44, [], [(4, .val (.bool false))]⟩ : Env)) (O' := (Zy ((O.upd j0_0 none).upd i0 (some ⟨false, 143, 2, 1, [.sl a0.left.length (fl Zb a0.left), .row n a0.out.length]⟩)) n [some ⟨true, 25, 3, a0.out.length, fl Zb a0.out⟩, none])) (n' := (n + 2)) (Fit2.of (Xi hU rfl rfl ?_) (by omega)) ?_
   ·simp only [push_cast, seval, ↓reduceIte, Za, hi0, hk0, hN0, hN]
   refine Un (k := 2) (k' := 2) hU [0, 1] [0, 0] rfl rfl rfl rfl ⟨rfl, rfl⟩ ?_
   simp only [push_cast, seval, ↓reduceIte, Za, hi0, hk0, hN0, hN]
  simp only [push_cast, seval, ↓reduceIte, Za, Try.results148, hi0, hk0, hN0, hN]
 replace h := Zu c13 h
 refine Z0 ?_
 try simp only [Zk, Zg]
 refine Zi [0, 3] [true, true] ?_
 simp only [push_cast, seval, ↓reduceIte]
 refine Zl ?_
 obtain ⟨x3, hx3, ax3, bx3, cx3, h⟩ := bE (f := Zb) V4 (fun _ => rfl) (by decide) h
 obtain ⟨y4, hy4, h⟩ := bC h
 refine Zkj Zd (by kernel_rfl) [.low, .low, .low, .low, .low, .low, .low, .low, .low, .low, .low, .pass, .pass, .plain] (fun i => i < (n + 2)) [0, 1, 2, 3, 4, 5, 6, 7, 8, 9, 10, 11, 12, 13] [.low, .low, .low, .low, .low, .low, .low, .low, .low, .low, .low, .pass, .pass, .plain] [] (by kernel_rfl) rfl ?_
 simp only [push_cast, Nat.reduceAdd, Nat.reduceSub, Nat.reduceMul, Nat.reduceLeDiff, Nat.reduceLT, Nat.reduceEqDiff, ↓reduceIte, reduceCtorEq, Int.reduceBEq, Int.reduceBNe, Nat.reduceBEq, Int.reduceLE, Int.reduceLT, Int.reduceEq, Int.reduceNe, Int.reduceNeg, Nat.reduceDiv, Nat.reduceMod, Nat.reducePow, Za, ax3, bx3, cx3, hi0, hk0, hN0, hN]
 repeat (with_reducible refine And.intro (by first | omega | exact Xn rfl | exact Y2 | exact Zb7 rfl rfl) ?_)
 first | refine PCallA.of (fun _ _ => Qt hy4) ?_ | refine PCall.of (Qt hy4) ?_
 simp only [push_cast, Nat.reduceAdd, Nat.reduceSub, Nat.reduceMul, Nat.reduceLeDiff, Nat.reduceLT, Nat.reduceEqDiff, ↓reduceIte, reduceCtorEq, Int.reduceBEq, Int.reduceBNe, Nat.reduceBEq, Int.reduceLE, Int.reduceLT, Int.reduceEq, Int.reduceNe, Int.reduceNeg, Nat.reduceDiv, Nat.reduceMod, Nat.reducePow, Za, ax3, bx3, cx3, hi0, hk0, hN0, hN]
 repeat (with_reducible refine And.intro (by first | omega | exact Xn rfl | exact Y2 | exact Zb7 rfl rfl) ?_)
 refine Zi [0, 5, 6] [true, false, true] ?_
 simp only [push_cast, seval, ↓reduceIte]
 refine Zl ?_
 obtain ⟨l8, pl8, ql8, el8, h⟩ := bA (k := 1) rfl h
 obtain ⟨x9, hx9, ax9, bx9, cx9, h⟩ := bE (f := Zb) V4 (fun _ => rfl) (by decide) h
 have gu10 : K8 (fl Zb a0.out ++ [.val (.int .i64 0), .val (.slice none 0 0), .val (.slice none 0 0)]) [.val (.int .i64 y4.1.Kind), .sl y4.1.Words.length (fl (eI .u64) y4.1.Words), .sl y4.1.Kids.length (fl Zb y4.1.Kids)] (List.length a0.out * 3) = some (fl Zb a0.out ++ [.val (.int .i64 y4.1.Kind), .sl y4.1.Words.length (fl (eI .u64) y4.1.Words), .sl y4.1.Kids.length (fl Zb y4.1.Kids)]) := Znu (f := Zb) (sz := 3) (fun _ => rfl) rfl rfl
 refine Zkj Zd (by kernel_rfl) [.low, .low, .low, .low, .low, .low, .pass, .bar, .shp, .fill true, .shp, .shp, .fill false] (fun i => i < (n + 3)) [0, 1, 2, 3, 4, 5, 6, 7, 8, 9, 10, 11, 12] [.low, .low, .low, .low, .low, .low, .pass, .bar, .shp, .fill true, .shp, .shp, .fill false] [] (by kernel_rfl) rfl ?_
 simp only [push_cast, Nat.reduceAdd, Nat.reduceSub, Nat.reduceMul, Nat.reduceLeDiff, Nat.reduceLT, Nat.reduceEqDiff, ↓reduceIte, reduceCtorEq, Int.reduceBEq, Int.reduceBNe, Nat.reduceBEq, Int.reduceLE, Int.reduceLT, Int.reduceEq, Int.reduceNe, Int.reduceNeg, Nat.reduceDiv, Nat.reduceMod, Nat.reducePow, Za, pl8, ql8, el8, ax9, bx9, cx9, gu10, hi0, hk0, hN0, hN]
 repeat (with_reducible refine And.intro (by first | omega | exact Xn rfl | exact Y2 | exact Zb7 rfl rfl) ?_)
 refine Zkk ⟨44, [], [(0, .ref i0 0), (6, .val (.bool y4.2))]⟩ (Zy ((O.upd j0_0 none).upd i0 (some ⟨false, 143, 2, 1, [.sl a0.left.length (fl Zb a0.left), .row n (a0.out ++ [y4.1]).length]⟩)) n [some ⟨true, 25, 3, (a0.out ++ [y4.1]).length, fl Zb (a0.out ++ [y4.1])⟩, none, none, none]) (Xi hU rfl rfl ?_) ?_
 ·simp only [push_cast, Nat.reduceAdd, Nat.reduceSub, Nat.reduceMul, Nat.reduceLeDiff, Nat.reduceLT, Nat.reduceEqDiff, ↓reduceIte, reduceCtorEq, Int.reduceBEq, Int.reduceBNe, Nat.reduceBEq, Int.reduceLE, Int.reduceLT, Int.reduceEq, Int.reduceNe, Int.reduceNeg, Nat.reduceDiv, Nat.reduceMod, Nat.reducePow, Za, pl8, ql8, el8, ax9, bx9, cx9, gu10, hi0, hk0, hN0, hN]
 refine Zl ?_
 obtain ⟨l12, al12, bl12, cl12, gl12, h⟩ := bS (lo := (some (.i64, 1))) (hi := none) (f := Zb) rfl rfl Zab V4 (fun _ => rfl) h
 refine Zc Zd [] ?_
 simp only [push_cast, seval, ↓reduceIte, Za, al12, bl12, cl12, gl12, hi0, hk0, hN0, hN]
 refine Zi [6] [true, false, false, false] ?_
 simp only [push_cast, seval, ↓reduceIte]
 refine Zr [4] (Zc Zd [] ?_)
 simp only [push_cast, seval, ↓reduceIte, Za, hi0, hk0, hN0, hN]
 refine Z5 ?_
 try simp only [Zk, Zg]
 have h := Option.some.inj h; subst h
 refine Ug (k := 1) (i := i0) (q1 := ⟨false, 143, 2, 1, [.sl l12.length (fl Zb l12), .row n (a0.out ++ [y4.1]).length]⟩) (L3 := [some ⟨true, 25, 3, (a0.out ++ [y4.1]).length, fl Zb (a0.out ++ [y4.1])⟩, none]) (E2 := (⟨44, [], [(4, .val (.bool y4.2))]⟩ : Env)) (n3 := (n + 2)) (.inr rfl) hU rfl [.val (.bool y4.2)] ?_ ?_
 ·refine Fit2.trans (E' := (⟨44, [], [(4, .val (.bool y4.2))]⟩ : Env)) (O' := (Zy ((O.upd j0_0 none).upd i0 (some ⟨false, 143, 2, 1, [.sl l12.length (fl Zb l12), .row n (a0.out ++ [y4.1]).length]⟩)) n [some ⟨true, 25, 3, (a0.out ++ [y4.1]).length, fl Zb (a0.out ++ [y4.1])⟩, none, none, none])) (n' := (n + 4)) (Fit2.of (Xi hU rfl rfl ?_) (by omega)) ?_
  ·simp only [push_cast, seval, ↓reduceIte, Za, hi0, hk0, hN0, hN]
  refine Un (k := 4) (k' := 2) hU [0, 1, 1, 1] [0, 0] rfl rfl rfl rfl ⟨rfl, rfl⟩ ?_
  simp only [push_cast, seval, ↓reduceIte, Za, hi0, hk0, hN0, hN]
 simp only [push_cast, seval, ↓reduceIte, Za, Try.results148, hi0, hk0, hN0, hN]
theorem Znc : ∀ k, (∀ {a0 : S_api_Edit} {a1 : S_api_Tree} {r : (S_api_Tree × Bool)} {O : Objs} {n : Nat}, (Zn k).1 a0 a1 = some r → GTo Try.prog 86 [.agg (Zh a0), .agg (Ze a1)] O n (.tup [.agg (Ze r.1), .val (.bool r.2)]) O n) ∧ (∀ {a0 : S_api_Edit} {a1 : S_api_Tree} {r : (S_api_Tree × Bool)} {O : Objs} {n : Nat}, (Zn k).2.1 a0 a1 = some r → GTo Try.prog 111 [.agg (Zh a0), .agg (Ze a1)] O n (.tup [.agg (Ze r.1), .val (.bool r.2)]) O n) ∧ (∀ {a0 : S_api_Edit} {a1 : S_api_Tree} {r : (S_api_Tree × Bool)} {O : Objs} {n : Nat}, (Zn k).2.2.1 a0 a1 = some r → GTo Try.prog 112 [.agg (Zh a0), .agg (Ze a1)] O n (.tup [.agg (Ze r.1), .val (.bool r.2)]) O n) ∧ (∀ {a0 : Zf} {a1 : S_api_Op} {r : (Bool × Zf)} {O : Objs} {n : Nat} {i0 j0_0 : Nat}, i0 < n → j0_0 < n → i0 ≠ j0_0 → O i0 = some ⟨false, 143, 2, 1, [.sl a0.left.length (fl Zb a0.left), .row j0_0 a0.out.length]⟩ → O j0_0 = some ⟨true, 25, 3, a0.out.length, fl Zb a0.out⟩ → (Zn k).2.2.2.1 a0 a1 = some r → GTo Try.prog 134 [.ref i0 0, .agg (Ym a1)] O n (.val (.bool r.1)) (Zy ((O.upd j0_0 none).upd i0 (some ⟨false, 143, 2, 1, [.sl r.2.left.length (fl Zb r.2.left), .row n r.2.out.length]⟩)) n [some ⟨true, 25, 3, r.2.out.length, fl Zb r.2.out⟩]) (n + 1)) ∧ (∀ {a0 : Zf} {a1 : S_api_Edit} {r : (Bool × Zf)} {O : Objs} {n : Nat} {i0 j0_0 : Nat}, i0 < n → j0_0 < n → i0 ≠ j0_0 → O i0 = some ⟨false, 143, 2, 1, [.sl a0.left.length (fl Zb a0.left), .row j0_0 a0.out.length]⟩ → O j0_0 = some ⟨true, 25, 3, a0.out.length, fl Zb a0.out⟩ → (Zn k).2.2.2.2 a0 a1 = some r → GTo Try.prog 148 [.ref i0 0, .agg (Zh a1)] O n (.val (.bool r.1)) (Zy ((O.upd j0_0 none).upd i0 (some ⟨false, 143, 2, 1, [.sl r.2.left.length (fl Zb r.2.left), .row n r.2.out.length]⟩)) n [some ⟨true, 25, 3, r.2.out.length, fl Zb r.2.out⟩]) (n + 1)) := fun k => by
 induction k with
 | zero => exact ⟨@fun a0 a1 r O n h => (nomatch (show (none : Option _) = some _ from h)), @fun a0 a1 r O n h => (nomatch (show (none : Option _) = some _ from h)), @fun a0 a1 r O n h => (nomatch (show (none : Option _) = some _ from h)), @fun a0 a1 r O n i0 j0_0 hi0 Zce Gh ho0 Zbt h => (nomatch (show (none : Option _) = some _ from h)), @fun a0 a1 r O n i0 j0_0 hi0 Zce Gh ho0 Zbt h => (nomatch (show (none : Option _) = some _ from h))⟩
 | succ k ih => exact ⟨@fun a0 a1 r O n h => Zpp (ih.1) (ih.2.1) (ih.2.2.1) (ih.2.2.2.1) (ih.2.2.2.2)  h, @fun a0 a1 r O n h => Zjq (ih.1) (ih.2.1) (ih.2.2.1) (ih.2.2.2.1) (ih.2.2.2.2)  h, @fun a0 a1 r O n h => Zpq (ih.1) (ih.2.1) (ih.2.2.1) (ih.2.2.2.1) (ih.2.2.2.2)  h, @fun a0 a1 r O n i0 j0_0 hi0 Zce Gh ho0 Zbt h => Zhc (ih.1) (ih.2.1) (ih.2.2.1) (ih.2.2.2.1) (ih.2.2.2.2) hi0 Zce Gh ho0 Zbt h, @fun a0 a1 r O n i0 j0_0 hi0 Zce Gh ho0 Zbt h => Ze8 (ih.1) (ih.2.1) (ih.2.2.1) (ih.2.2.2.1) (ih.2.2.2.2) hi0 Zce Gh ho0 Zbt h⟩
theorem Zrm {a0 : S_api_Edit} {a1 : S_api_Tree} {r : (S_api_Tree × Bool)} {O : Objs} {n : Nat} (h : Zgl a0 a1 = some r) : GTo Try.prog 86 [.agg (Zh a0), .agg (Ze a1)] O n (.tup [.agg (Ze r.1), .val (.bool r.2)]) O n := by
 obtain ⟨k, hk⟩ := Gk h
 exact (Znc k).1  hk
theorem Zro {Zaz : (S_api_Tree → Option S_api_Tree)} (Zpo : ∀ {a0 : S_api_Tree} {r : S_api_Tree} {O : Objs} {n : Nat}, Zaz a0 = some r → GTo Try.prog 22 [.agg (Ze a0)] O n (.agg (Ze r)) O n) {a0 : S_api_Tree} {r : S_api_Tree} {O : Objs} {n : Nat} (h : Zb8 Zaz a0 = some r) : GTo Try.prog 22 [.agg (Ze a0)] O n (.agg (Ze r)) O n := by
 unfold Zb8 at h
 refine Xj Zd Try.call22 Try.func22 rfl (Nat.le_of_ble_eq_true rfl) (Nat.le_refl _) fun hU => ?_
 have hN0 : O n = none := hU.fresh _ (Nat.le_refl _)
 have hN : ∀ k, O (n + k) = none := fun k => hU.fresh _ (Nat.le_add_right _ _)
 show W _ _ _ _ ⟨49, [], [(0, .agg (Ze a0))]⟩ (Zy O n []) _
 refine Zr [1, 2] (Zc Zd [] ?_)
 simp only [push_cast, seval, ↓reduceIte, Za, hN0, hN]
 refine Zl ?_
 refine Zr [1, 2, 10] (Zc Zd [] ?_)
 simp only [push_cast, seval, ↓reduceIte, Za, hN0, hN]
 refine Zw (t := (a0.Kind == 0)) rfl (fun c15 => ?_) (fun c15 => ?_)
 ·replace h := Zv c15 h
  refine Zl ?_
  refine Zc Zd [] ?_
  simp only [push_cast, seval, ↓reduceIte, Za, hN0, hN]
  refine Zi [2] [false, true] ?_
  simp only [push_cast, seval, ↓reduceIte]
  refine Z5 ?_
  try simp only [Zk, Zg]
  have h := Option.some.inj h; subst h
  refine Zs (.inr rfl) hU [.agg [.val (.int .i64 0), .val (.slice none 0 0), .val (.slice none 0 0)]] (by omega) ?_
  simp only [push_cast, seval, ↓reduceIte, Za, Try.results22, hN0, hN]
 replace h := Zu c15 h
 refine Z0 ?_
 try simp only [Zk, Zg]
 refine Zi [1, 2] [true, true] ?_
 simp only [push_cast, seval, ↓reduceIte]
 refine Zr [1, 2, 3, 4] (X4 Zd (by kernel_rfl) [] (by kernel_rfl) ?_)
 simp only [push_cast, seval, ↓reduceIte, Za, hN0, hN]
 obtain ⟨z1, hz1, h⟩ := bC h
 refine Xg (E' := ⟨49, [], [(1, .ref n 0), (2, .ref (n + 1) 0), (3, .sl z1.1.length (fl (eI .u64) z1.1)), (4, .sl z1.2.length (fl Zb z1.2))]⟩) (O' := (Zy O n [some ⟨false, 25, 3, 1, (Ze a0)⟩, some ⟨false, 25, 3, 1, [.val (.int .i64 0), .val (.slice none 0 0), .val (.slice none 0 0)]⟩])) (n0 := (n + 2)) ?_ ?_
 ·refine Zr [1, 2, 3, 4, 18] (Zc Zd [] ?_)
  simp only [push_cast, seval, ↓reduceIte, Za, hN0, hN]
  refine Zw (t := (a0.Kind == 1)) rfl (fun c4 => ?_) (fun c4 => ?_)
  ·replace hz1 := Zv c4 hz1
   obtain ⟨y2, hy2, hz1⟩ := bC hz1
   obtain ⟨y3, hy3, hz1⟩ := bC hz1
   refine Zc Zd [] ?_
   simp only [push_cast, seval, ↓reduceIte, Za, hN0, hN]
   refine (Vz hy2).then ?_
   simp only [push_cast, seval, ↓reduceIte, Za, hN0, hN]
   refine (Zbx hy3).then ?_
   simp only [push_cast, seval, ↓reduceIte, Za, hN0, hN]
   have hz1 := Option.some.inj hz1; subst hz1
   refine And.intro rfl (Fit2.of (Zj hU rfl rfl ?_) (by omega))
   simp only [push_cast, seval, ↓reduceIte, Za, hN0, hN]
  replace hz1 := Zu c4 hz1
  refine Z0 ?_
  try simp only [Zk, Zg]
  have hz1 := Option.some.inj hz1; subst hz1
  refine And.intro rfl (Fit2.of (Zj hU rfl rfl ?_) (by omega))
  simp only [push_cast, seval, ↓reduceIte, Za, hN0, hN]
 refine Zl ?_
 refine Zc Zd [] ?_
 simp only [push_cast, seval, ↓reduceIte, Za, hN0, hN]
 refine Zi [2, 4, 5] [false, true, true] ?_
 simp only [push_cast, seval, ↓reduceIte]
 obtain ⟨z5, hz5, h⟩ := bC h
 refine Xg (E' := ⟨49, [], [(2, .ref (n + 1) 0), (4, .sl z1.2.length (fl Zb z1.2)), (5, .ref (n + 2) 0)]⟩) (O' := (Zy O n [none, some ⟨false, 25, 3, 1, [.val (.int .i64 0), .val (.slice none 0 0), .val (.slice none 0 0)]⟩, some ⟨false, 25, 3, 1, [.val (.int .i64 a0.Kind), .sl z1.1.length (fl (eI .u64) z1.1), .row (n + 4) z5.length]⟩, none, some ⟨true, 25, 3, z5.length, fl Zb z5⟩, none])) (n0 := (n + 6)) ?_ ?_
 ·refine Zr [2, 4, 5, 29] (Zc Zd [] ?_)
  simp only [push_cast, seval, ↓reduceIte, Za, hN0, hN]
  refine Zw (t := (decide (0 < (z1.2.length : Int)))) rfl (fun c7 => ?_) (fun c7 => ?_)
  ·replace hz5 := Zv c7 hz5
   obtain ⟨l6, al6, bl6, cl6, el6, hz5⟩ := bM2 (c := 56) rfl hz5
   have nl6 : Int.toNat (z1.2.length : Int) = List.length l6 := by rw [el6, List.length_replicate]
   have fl6 : ∀ O O' n, Ge O O' n (List.replicate (List.length l6) [.val (.int .i64 0), .val (.slice none 0 0), .val (.slice none 0 0)]).flatten (fl Zb l6) = True := fun O O' n => by rw [← nl6, el6]; exact eq_true (Zwd (by simp only [push_cast, seval, ↓reduceIte, Za]) _)
   clear el6
   refine Zc Zd [] ?_
   simp only [push_cast, seval, ↓reduceIte, Za, al6, bl6, cl6, fl6, nl6, hN0, hN]
   have hz5 := Option.some.inj hz5; subst hz5
   refine And.intro rfl ?_
   refine Fit2.trans (E' := (⟨49, [], [(2, .ref (n + 1) 0), (4, .sl z1.2.length (fl Zb z1.2)), (5, .ref (n + 2) 0)]⟩ : Env)) (O' := (Zy O n [none, some ⟨false, 25, 3, 1, [.val (.int .i64 0), .val (.slice none 0 0), .val (.slice none 0 0)]⟩, some ⟨false, 25, 3, 1, [.val (.int .i64 a0.Kind), .sl z1.1.length (fl (eI .u64) z1.1), .row (n + 3) l6.length]⟩, some ⟨true, 25, 3, l6.length, fl Zb l6⟩])) (n' := (n + 4)) (Fit2.of (Zj hU rfl rfl ?_) (by omega)) ?_
   ·simp only [push_cast, seval, ↓reduceIte, Za, al6, bl6, cl6, fl6, nl6, hN0, hN]
   refine Zbg (k := 4) (k' := 6) hU [5, 1, 2, 4] [0, 1, 2, 0, 3, 0] rfl rfl rfl rfl ⟨rfl, rfl⟩ ?_
   simp only [push_cast, seval, ↓reduceIte, Za, hN0, hN]
  replace hz5 := Zu c7 hz5
  refine Z0 ?_
  try simp only [Zk, Zg]
  have hz5 := Option.some.inj hz5; subst hz5
  refine And.intro rfl ?_
  refine Fit2.trans (E' := (⟨49, [], [(2, .ref (n + 1) 0), (4, .sl z1.2.length (fl Zb z1.2)), (5, .ref (n + 2) 0)]⟩ : Env)) (O' := (Zy O n [none, some ⟨false, 25, 3, 1, [.val (.int .i64 0), .val (.slice none 0 0), .val (.slice none 0 0)]⟩, some ⟨false, 25, 3, 1, [.val (.int .i64 a0.Kind), .sl z1.1.length (fl (eI .u64) z1.1), .val (.slice none 0 0)]⟩])) (n' := (n + 3)) (Fit2.of (Zj hU rfl rfl ?_) (by omega)) ?_
  ·simp only [push_cast, seval, ↓reduceIte, Za, hN0, hN]
  refine Fit2.trans (E' := (⟨49, [], [(2, .ref (n + 1) 0), (4, .sl z1.2.length (fl Zb z1.2)), (5, .ref (n + 2) 0)]⟩ : Env)) (O' := (Zy O n [none, some ⟨false, 25, 3, 1, [.val (.int .i64 0), .val (.slice none 0 0), .val (.slice none 0 0)]⟩, some ⟨false, 25, 3, 1, [.val (.int .i64 a0.Kind), .sl z1.1.length (fl (eI .u64) z1.1), .row (n + 3) 0]⟩, some ⟨true, 25, 3, 0, []⟩])) (n' := (n + 4)) ?_ ?_
  ·have ha := Zoq (ba := n) (E := (⟨49, [], [(2, .ref (n + 1) 0), (4, .sl z1.2.length (fl Zb z1.2)), (5, .ref (n + 2) 0)]⟩ : Env)) (O := (Zy O n [none, some ⟨false, 25, 3, 1, [.val (.int .i64 0), .val (.slice none 0 0), .val (.slice none 0 0)]⟩, some ⟨false, 25, 3, 1, [.val (.int .i64 a0.Kind), .sl z1.1.length (fl (eI .u64) z1.1), .val (.slice none 0 0)]⟩])) (n := (n + 3)) (p := (n + 2)) (k := 2) (q := ⟨false, 25, 3, 1, [.val (.int .i64 a0.Kind), .sl z1.1.length (fl (eI .u64) z1.1), .val (.slice none 0 0)]⟩) 25 3 (by simp only [Zad, Zgd, List.getElem?_cons_zero, List.getElem?_cons_succ, Option.join_some, Yp]) rfl (by omega)
   simp only [Vn, Q7, Zc3, Zb5, List.set_cons_zero, List.set_cons_succ, List.cons_append, List.nil_append, List.length_cons, List.length_nil, Nat.zero_add, Nat.reduceAdd, Nat.reduceLT, Nat.add_assoc] at ha
   exact ha
  refine Fit2.trans (E' := (⟨49, [], [(2, .ref (n + 1) 0), (4, .sl z1.2.length (fl Zb z1.2)), (5, .ref (n + 2) 0)]⟩ : Env)) (O' := (Zy O n [none, some ⟨false, 25, 3, 1, [.val (.int .i64 0), .val (.slice none 0 0), .val (.slice none 0 0)]⟩, some ⟨false, 25, 3, 1, [.val (.int .i64 a0.Kind), .sl z1.1.length (fl (eI .u64) z1.1), .row (n + 3) ([] : List S_api_Tree).length]⟩, some ⟨true, 25, 3, ([] : List S_api_Tree).length, fl Zb ([] : List S_api_Tree)⟩])) (n' := (n + 4)) (Fit2.of (Zj hU rfl rfl ?_) (by omega)) ?_
  ·simp only [push_cast, seval, ↓reduceIte, Za, hN0, hN]
  refine Zbg (k := 4) (k' := 6) hU [5, 1, 2, 4] [0, 1, 2, 0, 3, 0] rfl rfl rfl rfl ⟨rfl, rfl⟩ ?_
  simp only [push_cast, seval, ↓reduceIte, Za, hN0, hN]
 refine Zl ?_
 refine Zr [2, 5, 34, 35, 36] (Zc Zd [] ?_)
 simp only [push_cast, seval, ↓reduceIte, Za, hN0, hN]
 refine Zi [2, 5, 34, 35, 36] [false, true, true, false, true, false] ?_
 simp only [push_cast, seval, ↓reduceIte]
 obtain ⟨z14, hz14, h⟩ := bC h
 refine Yq (E' := ⟨49, [], [(2, .ref (n + 1) 0), (5, .ref (n + 2) 0)]⟩) (O' := (Zy O n [none, some ⟨false, 25, 3, 1, [.val (.int .i64 0), .val (.slice none 0 0), .val (.slice none 0 0)]⟩, some ⟨false, 25, 3, 1, [.val (.int .i64 a0.Kind), .sl z1.1.length (fl (eI .u64) z1.1), .row (n + 4) z14.length]⟩, none, some ⟨true, 25, 3, z14.length, fl Zb z14⟩, none])) (n0 := (n + 6)) ?_ ?_
 ·refine Y6 hz14 (fun s0_ => ⟨49, [], [(2, .ref (n + 1) 0), (5, .ref (n + 2) 0), (34, .sl z1.2.length (fl Zb z1.2)), (35, .val (.int .i64 (z1.2.length : Int))), (36, .val (.int .i64 s0_.1))]⟩) (fun s0_ => (Zy O n [none, some ⟨false, 25, 3, 1, [.val (.int .i64 0), .val (.slice none 0 0), .val (.slice none 0 0)]⟩, some ⟨false, 25, 3, 1, [.val (.int .i64 a0.Kind), .sl z1.1.length (fl (eI .u64) z1.1), .row (n + 4) s0_.2.length]⟩, none, some ⟨true, 25, 3, s0_.2.length, fl Zb s0_.2⟩, none])) (fun z14 => JX 0 n (⟨49, [], [(2, .ref (n + 1) 0), (5, .ref (n + 2) 0)]⟩ : Env) (Zy O n [none, some ⟨false, 25, 3, 1, [.val (.int .i64 0), .val (.slice none 0 0), .val (.slice none 0 0)]⟩, some ⟨false, 25, 3, 1, [.val (.int .i64 a0.Kind), .sl z1.1.length (fl (eI .u64) z1.1), .row (n + 4) z14.length]⟩, none, some ⟨true, 25, 3, z14.length, fl Zb z14⟩, none]) (n + 6)) ?_
  intro s0_ x0_ hs0_
  unfold Uf at hs0_
  try dsimp only
  refine Zr [2, 5, 34, 35, 36, 37] (Zc Zd [] ?_)
  simp only [push_cast, seval, ↓reduceIte, Za, hN0, hN]
  refine Zl ?_
  refine Zw (t := (decide (s0_.1 < (z1.2.length : Int)))) rfl (fun c13 => ?_) (fun c13 => ?_)
  ·replace hs0_ := Zv c13 hs0_
   refine Z0 ?_
   try simp only [Zk, Zg]
   refine Zi [2, 5, 34, 35, 36] [false, true, true, false, true, false] ?_
   simp only [push_cast, seval, ↓reduceIte]
   refine Zl ?_
   refine Yr ?_
   refine Zl ?_
   obtain ⟨x9, hx9, ax9, bx9, cx9, hs0_⟩ := bE (f := Zb) V4 (fun _ => rfl) (by decide) hs0_
   refine Zc Zd [] ?_
   simp only [push_cast, Nat.reduceAdd, Nat.reduceSub, Nat.reduceMul, Nat.reduceLeDiff, Nat.reduceLT, Nat.reduceEqDiff, ↓reduceIte, reduceCtorEq, Int.reduceBEq, Int.reduceBNe, Nat.reduceBEq, Int.reduceLE, Int.reduceLT, Int.reduceEq, Int.reduceNe, Int.reduceNeg, Nat.reduceDiv, Nat.reduceMod, Nat.reducePow, Za, ax9, bx9, cx9, hN0, hN]
   refine Zi [2, 5, 6, 7, 34, 35, 36] [false, true, true, false, true, false, true] ?_
   simp only [push_cast, seval, ↓reduceIte]
   obtain ⟨y10, hy10, hs0_⟩ := bC hs0_
   obtain ⟨x11, hx11, ax11, bx11, cx11, hs0_⟩ := bE (f := Zb) V4 (fun _ => rfl) (by decide) hs0_
   have gu12 : K8 (fl Zb s0_.2) [.val (.int .i64 y10.Kind), .sl y10.Words.length (fl (eI .u64) y10.Words), .sl y10.Kids.length (fl Zb y10.Kids)] (Int.toNat s0_.1 * 3) = some (fl Zb (Zav s0_.2 s0_.1 y10)) := (congrArg (fun c => K8 (fl Zb s0_.2) c (Int.toNat s0_.1 * 3)) (show [.val (.int .i64 y10.Kind), .sl y10.Words.length (fl (eI .u64) y10.Words), .sl y10.Kids.length (fl Zb y10.Kids)] = Zb y10 from by simp only [Zb, Ya, eI, eB, eS, eL])).trans (Zfm (f := Zb) (ti := ⟨.bool, 3, 0, [], false⟩) (x := y10) (fun _ => rfl) (Za9 hx11))
   refine Zem Zd (by kernel_rfl) [false, false, false, false, false, false, true] [] (by kernel_rfl) ?_
   simp only [push_cast, Nat.reduceAdd, Nat.reduceSub, Nat.reduceMul, Nat.reduceLeDiff, Nat.reduceLT, Nat.reduceEqDiff, ↓reduceIte, reduceCtorEq, Int.reduceBEq, Int.reduceBNe, Nat.reduceBEq, Int.reduceLE, Int.reduceLT, Int.reduceEq, Int.reduceNe, Int.reduceNeg, Nat.reduceDiv, Nat.reduceMod, Nat.reducePow, Za, ax11, bx11, cx11, gu12, hN0, hN]
   refine PCall.of (Zpo hy10) ?_
   simp only [push_cast, Nat.reduceAdd, Nat.reduceSub, Nat.reduceMul, Nat.reduceLeDiff, Nat.reduceLT, Nat.reduceEqDiff, ↓reduceIte, reduceCtorEq, Int.reduceBEq, Int.reduceBNe, Nat.reduceBEq, Int.reduceLE, Int.reduceLT, Int.reduceEq, Int.reduceNe, Int.reduceNeg, Nat.reduceDiv, Nat.reduceMod, Nat.reducePow, Za, ax11, bx11, cx11, gu12, hN0, hN]
   refine Zi [2, 5, 34, 35, 36] [false, true, true, false, true, false, false] ?_
   simp only [push_cast, seval, ↓reduceIte]
   refine Zc Zd [] ?_
   simp only [push_cast, seval, ↓reduceIte, Za, hN0, hN]
   have hs0_ := Option.some.inj hs0_; subst hs0_
   refine And.intro rfl (Fit2.of (Zj hU rfl rfl ?_) (by omega))
   simp only [push_cast, seval, ↓reduceIte, Za, hN0, hN]
  replace hs0_ := Zu c13 hs0_
  refine Qd ?_
  try simp only [Zk, Zg, ↓reduceIte, Nat.reduceEqDiff]
  have hs0_ := Option.some.inj hs0_; subst hs0_
  refine And.intro (fun h => by cases h) (And.intro rfl (Fit2.of (Zj hU rfl rfl ?_) (by omega)))
  simp only [push_cast, seval, ↓reduceIte, Za, hN0, hN]
 try simp only [Zk, Zg, ↓reduceIte, Nat.reduceEqDiff]
 refine Zi [2, 5] [false, true, true, false, true, false] ?_
 simp only [push_cast, seval, ↓reduceIte]
 refine Zl ?_
 refine Zc Zd [] ?_
 simp only [push_cast, seval, ↓reduceIte, Za, hN0, hN]
 refine Zi [2] [false, true, false, false, true, false] ?_
 simp only [push_cast, seval, ↓reduceIte]
 refine Z5 ?_
 try simp only [Zk, Zg]
 have h := Option.some.inj h; subst h
 refine Zs (.inr rfl) hU [.agg [.val (.int .i64 a0.Kind), .sl z1.1.length (fl (eI .u64) z1.1), .row (n + 4) z14.length]] (by omega) ?_
 simp only [push_cast, seval, ↓reduceIte, Za, Try.results22, hN0, hN]
theorem Zn5 : ∀ k, (∀ {a0 : S_api_Tree} {r : S_api_Tree} {O : Objs} {n : Nat}, (Kw k) a0 = some r → GTo Try.prog 22 [.agg (Ze a0)] O n (.agg (Ze r)) O n) := fun k => by
 induction k with
 | zero => exact @fun a0 r O n h => (nomatch (show (none : Option _) = some _ from h))
 | succ k ih => exact @fun a0 r O n h => Zro (ih)  h
theorem Ztg {a0 : S_api_Tree} {r : S_api_Tree} {O : Objs} {n : Nat} (h : Zhv a0 = some r) : GTo Try.prog 22 [.agg (Ze a0)] O n (.agg (Ze r)) O n := by
 obtain ⟨k, hk⟩ := Gk h
 exact (Zn5 k)  hk
theorem Zb4 {a0 : S_api_Edit} {a1 : S_api_Tree} {r : (S_api_Tree × Bool)} {O : Objs} {n : Nat} (h : Vu a0 a1 = some r) : GTo Try.prog 56 [.agg (Zh a0), .agg (Ze a1)] O n (.tup [.agg (Ze r.1), .val (.bool r.2)]) O n := by
 unfold Vu at h
 refine Xj Zd Try.call56 Try.func56 rfl (Nat.le_of_ble_eq_true rfl) (Nat.le_refl _) fun hU => ?_
 have hN0 : O n = none := hU.fresh _ (Nat.le_refl _)
 have hN : ∀ k, O (n + k) = none := fun k => hU.fresh _ (Nat.le_add_right _ _)
 show W _ _ _ _ ⟨19, [], [(0, .agg (Zh a0)), (1, .agg (Ze a1))]⟩ (Zy O n []) _
 refine Zr [2, 3, 4] (Zc Zd [] ?_)
 simp only [push_cast, seval, ↓reduceIte, Za, hN0, hN]
 refine Zl ?_
 obtain ⟨y2, hy2, h⟩ := bC h
 refine Zc Zd [] ?_
 simp only [push_cast, seval, ↓reduceIte, Za, hN0, hN]
 refine (Zrm hy2).then ?_
 simp only [push_cast, seval, ↓reduceIte, Za, hN0, hN]
 refine Zi [4, 6, 7] [false, false, true, true] ?_
 simp only [push_cast, seval, ↓reduceIte]
 refine Zl ?_
 refine Zr [4, 6, 15] (Zc Zd [] ?_)
 simp only [push_cast, seval, ↓reduceIte, Za, hN0, hN]
 refine Zw (t := (!y2.2)) rfl (fun c5 => ?_) (fun c5 => ?_)
 ·replace h := Zv c5 h
  refine Zl ?_
  refine Zc Zd [] ?_
  simp only [push_cast, seval, ↓reduceIte, Za, hN0, hN]
  refine Zi [4, 5] [false, false, true, false] ?_
  simp only [push_cast, seval, ↓reduceIte]
  refine Z5 ?_
  try simp only [Zk, Zg]
  have h := Option.some.inj h; subst h
  refine Zs (.inr rfl) hU [.agg [.val (.int .i64 0), .val (.slice none 0 0), .val (.slice none 0 0)], .val (.bool false)] (by omega) ?_
  simp only [push_cast, seval, ↓reduceIte, Za, Try.results56, hN0, hN]
 replace h := Zu c5 h
 refine Z0 ?_
 try simp only [Zk, Zg]
 refine Zi [4, 6] [false, false, true, true] ?_
 simp only [push_cast, seval, ↓reduceIte]
 refine Zl ?_
 obtain ⟨y4, hy4, h⟩ := bC h
 refine Zc Zd [] ?_
 simp only [push_cast, seval, ↓reduceIte, Za, hN0, hN]
 refine (Ztg hy4).then ?_
 simp only [push_cast, seval, ↓reduceIte, Za, hN0, hN]
 refine Zi [4, 5] [false, false, true, false] ?_
 simp only [push_cast, seval, ↓reduceIte]
 refine Z5 ?_
 try simp only [Zk, Zg]
 have h := Option.some.inj h; subst h
 refine Zs (.inr rfl) hU [.agg (Ze y4), .val (.bool true)] (by omega) ?_
 simp only [push_cast, seval, ↓reduceIte, Za, Try.results56, hN0, hN]
theorem Uc  {r : Bool} {O : Objs} {n : Nat} (h : Xt = some r) : GTo Try.prog 55 [] O n (.val (.bool r)) O n := by
 unfold Xt at h
 refine Xj Zd Try.call55 Try.func55 rfl (Nat.le_of_ble_eq_true rfl) (Nat.le_refl _) fun hU => ?_
 have hN0 : O n = none := hU.fresh _ (Nat.le_refl _)
 have hN : ∀ k, O (n + k) = none := fun k => hU.fresh _ (Nat.le_add_right _ _)
 show W _ _ _ _ ⟨41, [], []⟩ (Zy O n []) _
 refine Zr [] (Zc Zd [] ?_)
 simp only [push_cast, seval, ↓reduceIte, Za, hN0, hN]
 refine Zl ?_
 refine Zc Zd [] ?_
 simp only [push_cast, seval, ↓reduceIte, Za, hN0, hN]
 refine Zkk ⟨41, [], [(1, .ref (n + 1) 0)]⟩ (Zy O n [some ⟨true, 91, 4, ([(⟨0, 1, 5, 6⟩ : Zo)] : List Zo).length, fl Zm ([(⟨0, 1, 5, 6⟩ : Zo)] : List Zo)⟩, some ⟨false, 54, 11, 1, [.val (.int .i64 2), .val (.int .i64 0), .val (.slice none 0 0), .val (.slice none 0 0), .val (.int .i64 0), .val (.slice none 0 0), .val (.slice none 0 0), .row n ([(⟨0, 1, 5, 6⟩ : Zo)] : List Zo).length, .val (.slice none 0 0), .val (.int .i64 0), .val (.slice none 0 0)]⟩]) (Zj hU rfl rfl ?_) ?_
 ·simp only [push_cast, seval, ↓reduceIte, Za, hN0, hN]
 refine Zkk ⟨41, [], [(1, .ref (n + 1) 0)]⟩ (Zy O n [none, some ⟨false, 54, 11, 1, [.val (.int .i64 2), .val (.int .i64 0), .val (.slice none 0 0), .val (.slice none 0 0), .val (.int .i64 0), .val (.slice none 0 0), .val (.slice none 0 0), .sl ([(⟨0, 1, 5, 6⟩ : Zo)] : List Zo).length (fl Zm ([(⟨0, 1, 5, 6⟩ : Zo)] : List Zo)), .val (.slice none 0 0), .val (.int .i64 0), .val (.slice none 0 0)]⟩]) (Zj hU rfl rfl ?_) ?_
 ·simp only [push_cast, seval, ↓reduceIte, Za, hN0, hN]
 refine Zl ?_
 obtain ⟨y2, hy2, h⟩ := bC h
 refine Zc Zd [] ?_
 simp only [push_cast, seval, ↓reduceIte, Za, hN0, hN]
 refine GCalls.dropL (l' := [none, some ⟨false, 54, 11, 1, [.val (.int .i64 2), .val (.int .i64 0), .val (.slice none 0 0), .val (.slice none 0 0), .val (.int .i64 0), .val (.slice none 0 0), .val (.slice none 0 0), .sl ([(⟨0, 1, 5, 6⟩ : Zo)] : List Zo).length (fl Zm ([(⟨0, 1, 5, 6⟩ : Zo)] : List Zo)), .val (.slice none 0 0), .val (.int .i64 0), .val (.slice none 0 0)]⟩, none]) hU rfl ?_ ((Zb4 hy2).then ?_)
 ·simp only [push_cast, seval, ↓reduceIte, Za, hN0, hN]
 simp only [push_cast, seval, ↓reduceIte, Za, hN0, hN]
 refine Zi [1, 2, 3] [false, true, false, true] ?_
 simp only [push_cast, seval, ↓reduceIte]
 refine Zl ?_
 obtain ⟨y4, hy4, h⟩ := bC h
 refine Zc Zd [] ?_
 simp only [push_cast, seval, ↓reduceIte, Za, hN0, hN]
 refine GCalls.dropL (l' := [none, some ⟨false, 54, 11, 1, [.val (.int .i64 2), .val (.int .i64 0), .val (.slice none 0 0), .val (.slice none 0 0), .val (.int .i64 0), .val (.slice none 0 0), .val (.slice none 0 0), .sl ([(⟨0, 1, 5, 6⟩ : Zo)] : List Zo).length (fl Zm ([(⟨0, 1, 5, 6⟩ : Zo)] : List Zo)), .val (.slice none 0 0), .val (.int .i64 0), .val (.slice none 0 0)]⟩, none, some ⟨false, 25, 3, 1, (Ze y2.1)⟩, none]) hU rfl ?_ ((Zb4 hy4).then ?_)
 ·simp only [push_cast, seval, ↓reduceIte, Za, hN0, hN]
 simp only [push_cast, seval, ↓reduceIte, Za, hN0, hN]
 refine Zi [2, 3, 5] [false, false, false, true, false, false] ?_
 simp only [push_cast, seval, ↓reduceIte]
 obtain ⟨z6, hz6, h⟩ := bC h
 refine Xg (E' := ⟨41, [], [(0, .val (.bool z6))]⟩) (O' := (Zy O n [none, none, none, none, none, none])) (n0 := (n + 6)) ?_ ?_
 ·rcases Bool.eq_false_or_eq_true y2.2 with c9 | c9
  ·replace hz6 := Zv c9 hz6
   rcases Bool.eq_false_or_eq_true y4.2 with c10 | c10
   ·replace hz6 := Zv c10 hz6
    try rw [c10] at c9
    refine Zc Zd [none, none, none, none, none, none, some false, some false, some false, some false, some false] ?_
    simp only [push_cast, seval, ↓reduceIte, Za, c9, c10, hN0, hN]
    repeat (with_reducible refine And.intro (by first | (intro h0; simp only [h0, and_self]; done) | (intro h0; simp only [h0, Bool.not_false, Bool.not_true, Bool.true_and, Bool.and_true, true_and, and_true, and_self, imp_self, implies_true, bne_iff_ne, ne_eq, beq_iff_eq]; done) | (intros; simp_all; done) | exact True.intro) ?_)
    have hz6 := Option.some.inj hz6; subst hz6
    refine And.intro rfl (Fit2.of (Zj hU rfl rfl ?_) (by omega))
    simp only [push_cast, seval, ↓reduceIte, Za, c9, c10, hN0, hN]
   replace hz6 := Zu c10 hz6
   try rw [c10] at c9
   rcases Bool.eq_false_or_eq_true ((y2.1.Words.length : Int) == 1) with c11 | c11
   ·replace hz6 := Zv c11 hz6
    try rw [c11] at c9
    try rw [c11] at c10
    obtain ⟨x8, hx8, ax8, bx8, cx8, hz6⟩ := bE (f := (eI .u64)) Zbp (fun _ => rfl) (by decide) hz6
    refine Zc Zd [none, none, none, none, none, none, some true, some true, some true, some true, some true] ?_
    simp only [push_cast, Nat.reduceAdd, Nat.reduceSub, Nat.reduceMul, Nat.reduceLeDiff, Nat.reduceLT, Nat.reduceEqDiff, ↓reduceIte, reduceCtorEq, Int.reduceBEq, Int.reduceBNe, Nat.reduceBEq, Int.reduceLE, Int.reduceLT, Int.reduceEq, Int.reduceNe, Int.reduceNeg, Nat.reduceDiv, Nat.reduceMod, Nat.reducePow, Za, c9, c10, c11, ax8, bx8, cx8, hN0, hN]
    repeat (with_reducible refine And.intro (by first | (intro h0; simp only [h0, and_self]; done) | (intro h0; simp only [h0, Bool.not_false, Bool.not_true, Bool.true_and, Bool.and_true, true_and, and_true, and_self, imp_self, implies_true, bne_iff_ne, ne_eq, beq_iff_eq]; done) | (intros; simp_all; done) | exact True.intro) ?_)
    have hz6 := Option.some.inj hz6; subst hz6
    refine And.intro rfl (Fit2.of (Zj hU rfl rfl ?_) (by omega))
    simp only [push_cast, Nat.reduceAdd, Nat.reduceSub, Nat.reduceMul, Nat.reduceLeDiff, Nat.reduceLT, Nat.reduceEqDiff, ↓reduceIte, reduceCtorEq, Int.reduceBEq, Int.reduceBNe, Nat.reduceBEq, Int.reduceLE, Int.reduceLT, Int.reduceEq, Int.reduceNe, Int.reduceNeg, Nat.reduceDiv, Nat.reduceMod, Nat.reducePow, Za, c9, c10, c11, ax8, bx8, cx8, hN0, hN]
   replace hz6 := Zu c11 hz6
   try rw [c11] at c9
   try rw [c11] at c10
   refine Zc Zd [none, none, none, none, none, none, some false, some false, some false, some false, some false] ?_
   simp only [push_cast, seval, ↓reduceIte, Za, c9, c10, c11, hN0, hN]
   repeat (with_reducible refine And.intro (by first | (intro h0; simp only [h0, and_self]; done) | (intro h0; simp only [h0, Bool.not_false, Bool.not_true, Bool.true_and, Bool.and_true, true_and, and_true, and_self, imp_self, implies_true, bne_iff_ne, ne_eq, beq_iff_eq]; done) | (intros; simp_all; done) | exact True.intro) ?_)
   have hz6 := Option.some.inj hz6; subst hz6
   refine And.intro rfl (Fit2.of (Zj hU rfl rfl ?_) (by omega))
   simp only [push_cast, seval, ↓reduceIte, Za, c9, c10, c11, hN0, hN]
  replace hz6 := Zu c9 hz6
  refine Zc Zd [none, none, none, none, none, none, some false, some false, some false, some false, some false] ?_
  simp only [push_cast, seval, ↓reduceIte, Za, c9, hN0, hN]
  repeat (with_reducible refine And.intro (by first | (intro h0; simp only [h0, and_self]; done) | (intro h0; simp only [h0, Bool.not_false, Bool.not_true, Bool.true_and, Bool.and_true, true_and, and_true, and_self, imp_self, implies_true, bne_iff_ne, ne_eq, beq_iff_eq]; done) | (intros; simp_all; done) | exact True.intro) ?_)
  have hz6 := Option.some.inj hz6; subst hz6
  refine And.intro rfl (Fit2.of (Zj hU rfl rfl ?_) (by omega))
  simp only [push_cast, seval, ↓reduceIte, Za, c9, hN0, hN]
 refine Z5 ?_
 try simp only [Zk, Zg]
 have h := Option.some.inj h; subst h
 refine Zs (.inr rfl) hU [.val (.bool z6)] (by omega) ?_
 simp only [push_cast, seval, ↓reduceIte, Za, Try.results55, hN0, hN]
end Go.Proofs.Ytmpkfolcikhofaa
