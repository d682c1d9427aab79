/- Part VM4 of this seat's mirrors: functions of the seat's program, and the plain functions that they are; each theorem bears its own conditions. -/
import Derived.Test.YtmlhokaflhlhbaaVE
import Derived.Test.YtmlhokaflhlhbaaVM3
namespace Go.Proofs.Ytmlhokaflhlhbaa
open Go.RowKit
set_option linter.unusedVariables false
set_option linter.unusedSimpArgs false
set_option maxRecDepth 100000
set_option maxHeartbeats 4000000
attribute [local push_cast] Ye Yq Zn Yf Zq Zhy Zhx Zim Zil Zi Zf Zet Zbb Zba onW Yv Ua Vk Zh3 Zg2 Zdi Zdn Zdh Zdm Zfq Zfn Zdl Zfp Zfo Zdj Zfl Zbu evS wok Xd Op.operands Call.operands gop onK onP atK List.all_cons List.all_nil Bool.and_true Bool.true_and Bool.and_self Value.oneCell' List.take_zero List.take_succ_cons List.take_nil List.drop_zero List.drop_succ_cons List.drop_nil List.append_nil Nat.add_zero Nat.zero_add Jj Z8 ev Xf Zne Zhp Zho Zhu Zhs Zht Zhq Zhr Zhn Zj9 Zkv Znf Zcl Vo Zcd V3 Zc0 Zaj Gf Gk Za6 Za3 Gi Za5 Za4 Gh Za1 Gg Gj Ui Za2 Zev Zbc Kt Zce Ku Zdu Zck Zlm bLo bHi bMx Vp Zdt Zoi Zcj Zd8 Gb Jt Zkm Zon Zcb Zor Vn Zpq Zey Ze2 Zex Ze1 Zh9 Zh6 Zh4 Zc4 Zez Zh8 Zh7 Ze0 Zh5 Zdv Zhz Zfe Zbp Zbo pop TK.isAgg Zif Zij Zie Zii Ze8 Zl3 Zl0 Zih Zl2 Zl1 Zig Zlz G.under G.unders List.getD_cons_zero List.getD_cons_succ List.set_cons_zero List.set_cons_succ List.map_cons List.map_nil List.toList_toArray Array.toList_append Option.toArray_none Option.toArray_some Array.toList_map Option.map_some Option.map_none Option.bind_some Option.bind_none List.getElem?_cons_zero List.getElem?_cons_succ List.getElem?_nil List.nil_append List.cons_append List.replicate_succ List.replicate_zero List.length_cons List.length_nil and_true true_and and_false false_and Bool.true_eq_false Bool.false_eq_true forall_const false_implies implies_true IntKind.bits if_true if_false ite_true ite_false eq_self true_implies false_or or_false or_true true_or not_true_eq_false not_false_eq_true decide_true decide_false decide_eq_true_eq decide_eq_false_iff_not beq_iff_eq bne_iff_ne ne_eq Bool.not_eq_true Bool.not_eq_false beq_eq_false_iff_ne bne_eq_false_iff_eq beq_self_eq_true bne_self_eq_false Option.some.injEq exists_eq_left' exists_eq_left ge_iff_le gt_iff_lt decide_not Bool.not_true Bool.not_false imp_self Zlo cond_true cond_false Zt1 Zt0 Bool.not_not Bool.and_false Bool.false_and Bool.or_true Bool.true_or Bool.or_false Bool.false_or Vj Zdq Zca Zaz Gd V8 Option.join_some Nat.add_assoc Int.toNat_natCast eI eB eS eL Za7 Zat Gr Zh2 Zh0 Zh1 Zp5 Zr4 Zav Gy Zit Zir Zis Znn Zes Zlg Zfj Zlf U1 Zj8 List.length_append G.agg.injEq G.row.injEq G.ref.injEq G.val.injEq G.sl.injEq G.tup.injEq Value.int.injEq Value.bool.injEq Value.string.injEq List.cons.injEq exists_and_left exists_const List.flatten_cons List.flatten_nil Int.le_refl Nat.le_refl Zf9 Js Zeq Bool.not_eq_true' Bool.not_eq_false' Zj3 Zb0 Zm7 Znb Zm6 Zna Zrj Zrf List.size_toArray Ziv Ziw G.ren G.rens Zkx Zam Ziz Zhk Zhl Zfm Znc Zbj G.fn.injEq Zdo Zgb Zj1 Zrg Zga Zm9 Zri Zrh Zm8 Zlu Zp0 Option.join_none Xc Ks undef Zd9 Arr.len Arr.put_eq Zau Zc7 Zbk Gx Ziq Zio Zip onB Zp4 Zkk Zfk Zeg Zeh Zei Zej Zek Zel Zc5 Zdb Zc9 Zbn Gz Zda Zfd Zfc Zfb Zfa Zr3 Zth Znm Zl5 Qh Znh Zia Zdd Zbm Zoy Zi1 Zci Zd7 Uu Zde Zem Zen Zeo Zep Zcq Zcr Zcs Zct Zcu Zcv Zcw Gl prT Um Zu1 Zmu Ztq Zmv Zu2 Zmw Zu3 Zmx Zu4 Zmy Zu5 Zmz Zu6 Zm0 Zu7 Zm1 Zqf Zi2 Zqg Zi3 Zqh Zi4 Zqi Zi5 Zqj Zi6 Zqk Zi7 Zql Zi8 Zqm Zi9 Zqn Zja Zqo Zjb Zqp Zjc Zqq Zjd Zqr Zje Zqs Zgn Zqt Zjf Zqu Zjg Zqv Zjh Zag Zji Zqw Zjj Zqx Zjk U0 Zch Zqy Zjl Zqz Zjm Zq0 Zjn Zq1 Zjo Zq2 Zjp Zq3 Zjq Zq4 Zjr Zq5 Zjs Zq6 Zjt Zq7 Zju Zq8 Zjv Zq9 Zjw Zra Zjx Zrb Zjy Zrc Zjz Zrd Zj0 Zmd Zfs Zme Zft Zmf Zfu Zmg Zfv Zmh Zfw Zmi Zfx Zmj Zfy Zmk Zfz Zml Zf0 Zmm Zf1 Zmn Zf2 Zmo Zf3 Zmp Zf4 Zmq Zf5 Zmr Zf6 Zms Zf7 Zmt Zf8 Zb2 Zbz Zbf Zbi Zb5 Zai Zae Zac Zbw Vz Vy Vq Vv V0 Vb Va K9 Vx Zj Qz Qy Qt Qw Q0 Qn Ql Qk Qx Gn Zb1 Zby Zbe Zbh Zb4 Zah Zad Zab Zbv Gm K5 Q6 Q7 Xv Z3 Qb Qa X7 X8 Qc X2 X0 Xz X9 Zu Q1 Km Kl Ka Kg Ko J0 Jy Jx Kj
theorem Zc6 {Ya : (Ze → Zd → Int → Option (Int × Ze))} {Z9 : (Ze → Zd → Int → Option (Int × Ze))} {Yc : (Ze → Zd → Int → Option (Int × Ze))} (J9 : ∀ {a0 : Ze} {a1 : Zd} {a2 : Int} {r : (Int × Ze)} {O : Objs} {n : Nat} {i0 : Nat}, i0 < n → O i0 = some ⟨false, 107, 1, 1, [.val (.int .i64 a0.left)]⟩ → Ya a0 a1 a2 = some r → GTo Try.prog 62 [.ref i0 0, .agg (Zq a1), .val (.int .i64 a2)] O n (.val (.int .i64 r.1)) (Z5 (O.upd i0 (some ⟨false, 107, 1, 1, [.val (.int .i64 r.2.left)]⟩)) n []) (n + 0)) (Qp : ∀ {a0 : Ze} {a1 : Zd} {a2 : Int} {r : (Int × Ze)} {O : Objs} {n : Nat} {i0 : Nat}, i0 < n → O i0 = some ⟨false, 107, 1, 1, [.val (.int .i64 a0.left)]⟩ → Z9 a0 a1 a2 = some r → GTo Try.prog 85 [.ref i0 0, .agg (Zq a1), .val (.int .i64 a2)] O n (.val (.int .i64 r.1)) (Z5 (O.upd i0 (some ⟨false, 107, 1, 1, [.val (.int .i64 r.2.left)]⟩)) n []) (n + 0)) (Jf : ∀ {a0 : Ze} {a1 : Zd} {a2 : Int} {r : (Int × Ze)} {O : Objs} {n : Nat} {i0 : Nat}, i0 < n → O i0 = some ⟨false, 107, 1, 1, [.val (.int .i64 a0.left)]⟩ → Yc a0 a1 a2 = some r → GTo Try.prog 86 [.ref i0 0, .agg (Zq a1), .val (.int .i64 a2)] O n (.val (.int .i64 r.1)) (Z5 (O.upd i0 (some ⟨false, 107, 1, 1, [.val (.int .i64 r.2.left)]⟩)) n []) (n + 0)) {a0 : Ze} {a1 : Zd} {a2 : Int} {r : (Int × Ze)} {O : Objs} {n : Nat} {i0 : Nat} (hi0 : i0 < n) (ho0 : O i0 = some ⟨false, 107, 1, 1, [.val (.int .i64 a0.left)]⟩) (h : Xe Ya Z9 Yc a0 a1 a2 = some r) : GTo Try.prog 62 [.ref i0 0, .agg (Zq a1), .val (.int .i64 a2)] O n (.val (.int .i64 r.1)) (Z5 (O.upd i0 (some ⟨false, 107, 1, 1, [.val (.int .i64 r.2.left)]⟩)) n []) (n + 0) := by
 unfold Xe at h
 refine Yp Zc Try.call62 Try.func62 rfl (Nat.le_of_ble_eq_true rfl) (by omega) fun hU => ?_
 rw [show Z5 O n [] = Z5 (O.upd i0 (some ⟨false, 107, 1, 1, [.val (.int .i64 a0.left)]⟩)) n [] from by rw [Zm5 (show O i0 = _ from by exact ho0)]]
 have hk0 : ∀ k, i0 < n + k := fun k => by omega
 have hN0 : ∀ o, Objs.upd O i0 o n = none := fun o => Zay hU hi0 _ (Nat.le_refl _)
 have hN : ∀ o k, Objs.upd O i0 o (n + k) = none := fun o k => Zay hU hi0 _ (Nat.le_add_right _ _)
 show W _ _ _ _ ⟨46, [], [(0, .ref i0 0), (1, .agg (Zq a1)), (2, .val (.int .i64 a2))]⟩ (Z5 (O.upd i0 (some ⟨false, 107, 1, 1, [.val (.int .i64 a0.left)]⟩)) n []) _
 refine Zr [0, 2, 4] (Zb Zc [] ?_)
 simp only [push_cast, seval, ↓reduceIte, Za, hi0, hk0, hN0, hN]
 refine Zh ?_
 obtain ⟨z3, hz3, h⟩ := bC h
 refine Jk (E' := ⟨46, [], [(0, .ref i0 0), (2, .val (.int .i64 a2)), (4, .ref n 0), (19, .val (.bool z3))]⟩) (O' := (Z5 (O.upd i0 (some ⟨false, 107, 1, 1, [.val (.int .i64 a0.left)]⟩)) n [some ⟨false, 27, 9, 1, (Zq a1)⟩])) (n0 := (n + 1)) ?_ ?_
 ·obtain ⟨y6, hy6, hz3⟩ := bC hz3
  rcases Bool.eq_false_or_eq_true (decide (a2 < y6)) with c8 | c8
  ·replace hz3 := Zw c8 hz3
   refine Vd Zc (by kernel_rfl) [some false, some false, some false, some false, some false, some false, some false] (by kernel_rfl) ?_
   simp only [push_cast, seval, ↓reduceIte, Za, c8, hi0, hk0, hN0, hN]
   refine PCall.of (Zea hy6) ?_
   simp only [push_cast, seval, ↓reduceIte, Za, c8, hi0, hk0, hN0, hN]
   have hz3 := Option.some.inj hz3; subst hz3
   refine And.intro rfl (Fit2.of (Xn hU rfl rfl ?_) (by omega))
   simp only [push_cast, seval, ↓reduceIte, Za, c8, hi0, hk0, hN0, hN]
  replace hz3 := Zv c8 hz3
  obtain ⟨y7, hy7, hz3⟩ := bC hz3
  refine Vd Zc (by kernel_rfl) [some true, some true, some true, some true, some true, some true, some true] (by kernel_rfl) ?_
  simp only [push_cast, seval, ↓reduceIte, Za, c8, hi0, hk0, hN0, hN]
  refine PCall.of (Zea hy6) ?_
  simp only [push_cast, seval, ↓reduceIte, Za, c8, hi0, hk0, hN0, hN]
  refine PCall.of (Zeb hy7) ?_
  simp only [push_cast, seval, ↓reduceIte, Za, c8, hi0, hk0, hN0, hN]
  have hz3 := Option.some.inj hz3; subst hz3
  refine And.intro rfl (Fit2.of (Xn hU rfl rfl ?_) (by omega))
  simp only [push_cast, seval, ↓reduceIte, Za, c8, hi0, hk0, hN0, hN]
 refine Zs (t := z3) rfl (fun c21 => ?_) (fun c21 => ?_)
 ·replace h := Zw c21 h
  refine Zr [6] (Zb Zc [] ?_)
  simp only [push_cast, seval, ↓reduceIte, Za, hi0, hk0, hN0, hN]
  refine Zt ?_
  try simp only [Zi, Zf]
  have h := Option.some.inj h; subst h
  refine Gp (k := 0) (i := i0) (q1 := ⟨false, 107, 1, 1, [.val (.int .i64 a0.left)]⟩) (L3 := [none]) (E2 := (⟨46, [], [(6, .val (.int .i64 3))]⟩ : Env)) (n3 := (n + 1)) (.inr rfl) hU rfl [.val (.int .i64 3)] ?_ ?_
  ·refine Fit2.trans (E' := (⟨46, [], [(6, .val (.int .i64 3))]⟩ : Env)) (O' := (Z5 (O.upd i0 (some ⟨false, 107, 1, 1, [.val (.int .i64 a0.left)]⟩)) n [none])) (n' := (n + 1)) (Fit2.of (Xn hU rfl rfl ?_) (by omega)) ?_
   ·simp only [push_cast, seval, ↓reduceIte, Za, hi0, hk0, hN0, hN]
   refine G0 (k := 1) (k' := 1) hU [0] [0] rfl rfl rfl rfl ⟨rfl, rfl⟩ ?_
   simp only [push_cast, seval, ↓reduceIte, Za, hi0, hk0, hN0, hN]
  simp only [push_cast, seval, ↓reduceIte, Za, Try.results62, hi0, hk0, hN0, hN]
 replace h := Zv c21 h
 refine Zz ?_
 try simp only [Zi, Zf]
 refine Zg [0, 2, 4] [true] ?_
 simp only [push_cast, seval, ↓reduceIte]
 refine Zh ?_
 obtain ⟨y10, hy10, h⟩ := bC h
 refine Zhd Zc (by kernel_rfl) [false, false, false, false, false, false, false, false, false, true] [] (by kernel_rfl) ?_
 simp only [push_cast, seval, ↓reduceIte, Za, hi0, hk0, hN0, hN]
 refine PCall.of (Zeb hy10) ?_
 simp only [push_cast, seval, ↓reduceIte, Za, hi0, hk0, hN0, hN]
 refine Zg [0, 2, 4] [true] ?_
 simp only [push_cast, seval, ↓reduceIte]
 refine Zh ?_
 refine Zh ?_
 obtain ⟨y12, hy12, h⟩ := bC h
 refine Zb Zc [] ?_
 simp only [push_cast, seval, ↓reduceIte, Za, hi0, hk0, hN0, hN]
 refine (Jg hy12).then ?_
 simp only [push_cast, seval, ↓reduceIte, Za, hi0, hk0, hN0, hN]
 refine Zg [0, 2, 4, 30] [true] ?_
 simp only [push_cast, seval, ↓reduceIte]
 refine Xu ?_
 obtain ⟨z13, hz13, h⟩ := bC h
 refine Jk (E' := ⟨46, [], [(0, .ref i0 0), (2, .val (.int .i64 a2)), (4, .ref n 0), (30, .val (.int .i64 y12)), (31, .val (.bool z13))]⟩) (O' := (Z5 (O.upd i0 (some ⟨false, 107, 1, 1, [.val (.int .i64 (IntKind.i64.wrap (a0.left - y10)))]⟩)) n [some ⟨false, 27, 9, 1, (Zq a1)⟩])) (n0 := (n + 1)) ?_ ?_
 ·refine Zr [0, 2, 4, 30, 31] (Zb Zc [] ?_)
  simp only [push_cast, seval, ↓reduceIte, Za, hi0, hk0, hN0, hN]
  refine Zs (t := (y12 == 1)) rfl (fun c14 => ?_) (fun c14 => ?_)
  ·replace hz13 := Zw c14 hz13
   refine Zz ?_
   try simp only [Zi, Zf]
   have hz13 := Option.some.inj hz13; subst hz13
   refine And.intro rfl (Fit2.of (Xn hU rfl rfl ?_) (by omega))
   simp only [push_cast, seval, ↓reduceIte, Za, hi0, hk0, hN0, hN]
  replace hz13 := Zv c14 hz13
  refine Zb Zc [] ?_
  simp only [push_cast, seval, ↓reduceIte, Za, hi0, hk0, hN0, hN]
  have hz13 := Option.some.inj hz13; subst hz13
  refine And.intro rfl (Fit2.of (Xn hU rfl rfl ?_) (by omega))
  simp only [push_cast, seval, ↓reduceIte, Za, hi0, hk0, hN0, hN]
 refine Zs (t := z13) rfl (fun c20 => ?_) (fun c20 => ?_)
 ·replace h := Zw c20 h
  refine Zh ?_
  obtain ⟨y16, hy16, h⟩ := bC h
  refine Zb Zc [] ?_
  simp only [push_cast, seval, ↓reduceIte, Za, hi0, hk0, hN0, hN]
  refine (Qp (i0 := i0) (by omega) (by simp only [push_cast, seval, ↓reduceIte, Za, Za7, hi0, hk0, hN0, hN] <;> rfl) hy16).then ?_
  simp only [push_cast, seval, ↓reduceIte, Za, hi0, hk0, hN0, hN]
  refine Zg [6] [false] ?_
  simp only [push_cast, seval, ↓reduceIte]
  refine Zt ?_
  try simp only [Zi, Zf]
  have h := Option.some.inj h; subst h
  refine Gp (k := 0) (i := i0) (q1 := ⟨false, 107, 1, 1, [.val (.int .i64 y16.2.left)]⟩) (L3 := [none]) (E2 := (⟨46, [], [(6, .val (.int .i64 y16.1))]⟩ : Env)) (n3 := (n + 1)) (.inr rfl) hU rfl [.val (.int .i64 y16.1)] ?_ ?_
  ·refine Fit2.trans (E' := (⟨46, [], [(6, .val (.int .i64 y16.1))]⟩ : Env)) (O' := (Z5 (O.upd i0 (some ⟨false, 107, 1, 1, [.val (.int .i64 y16.2.left)]⟩)) n [none])) (n' := (n + 1)) (Fit2.of (Xn hU rfl rfl ?_) (by omega)) ?_
   ·simp only [push_cast, seval, ↓reduceIte, Za, hi0, hk0, hN0, hN]
   refine G0 (k := 1) (k' := 1) hU [0] [0] rfl rfl rfl rfl ⟨rfl, rfl⟩ ?_
   simp only [push_cast, seval, ↓reduceIte, Za, hi0, hk0, hN0, hN]
  simp only [push_cast, seval, ↓reduceIte, Za, Try.results62, hi0, hk0, hN0, hN]
 replace h := Zv c20 h
 refine Zr [0, 2, 4, 39] (Zb Zc [] ?_)
 simp only [push_cast, seval, ↓reduceIte, Za, hi0, hk0, hN0, hN]
 refine Zs (t := (y12 == 9)) rfl (fun c19 => ?_) (fun c19 => ?_)
 ·replace h := Zw c19 h
  refine Zh ?_
  obtain ⟨y18, hy18, h⟩ := bC h
  refine Zb Zc [] ?_
  simp only [push_cast, seval, ↓reduceIte, Za, hi0, hk0, hN0, hN]
  refine (Jf (i0 := i0) (by omega) (by simp only [push_cast, seval, ↓reduceIte, Za, Za7, hi0, hk0, hN0, hN] <;> rfl) hy18).then ?_
  simp only [push_cast, seval, ↓reduceIte, Za, hi0, hk0, hN0, hN]
  refine Zg [6] [false] ?_
  simp only [push_cast, seval, ↓reduceIte]
  refine Zt ?_
  try simp only [Zi, Zf]
  have h := Option.some.inj h; subst h
  refine Gp (k := 0) (i := i0) (q1 := ⟨false, 107, 1, 1, [.val (.int .i64 y18.2.left)]⟩) (L3 := [none]) (E2 := (⟨46, [], [(6, .val (.int .i64 y18.1))]⟩ : Env)) (n3 := (n + 1)) (.inr rfl) hU rfl [.val (.int .i64 y18.1)] ?_ ?_
  ·refine Fit2.trans (E' := (⟨46, [], [(6, .val (.int .i64 y18.1))]⟩ : Env)) (O' := (Z5 (O.upd i0 (some ⟨false, 107, 1, 1, [.val (.int .i64 y18.2.left)]⟩)) n [none])) (n' := (n + 1)) (Fit2.of (Xn hU rfl rfl ?_) (by omega)) ?_
   ·simp only [push_cast, seval, ↓reduceIte, Za, hi0, hk0, hN0, hN]
   refine G0 (k := 1) (k' := 1) hU [0] [0] rfl rfl rfl rfl ⟨rfl, rfl⟩ ?_
   simp only [push_cast, seval, ↓reduceIte, Za, hi0, hk0, hN0, hN]
  simp only [push_cast, seval, ↓reduceIte, Za, Try.results62, hi0, hk0, hN0, hN]
 replace h := Zv c19 h
 refine Zz ?_
 try simp only [Zi, Zf]
 refine Zg [] [false] ?_
 simp only [push_cast, seval, ↓reduceIte]
 refine Zr [6] (Zb Zc [] ?_)
 simp only [push_cast, seval, ↓reduceIte, Za, hi0, hk0, hN0, hN]
 refine Zt ?_
 try simp only [Zi, Zf]
 have h := Option.some.inj h; subst h
 refine Gp (k := 0) (i := i0) (q1 := ⟨false, 107, 1, 1, [.val (.int .i64 (IntKind.i64.wrap (a0.left - y10)))]⟩) (L3 := [none]) (E2 := (⟨46, [], [(6, .val (.int .i64 0))]⟩ : Env)) (n3 := (n + 1)) (.inr rfl) hU rfl [.val (.int .i64 0)] ?_ ?_
 ·refine Fit2.trans (E' := (⟨46, [], [(6, .val (.int .i64 0))]⟩ : Env)) (O' := (Z5 (O.upd i0 (some ⟨false, 107, 1, 1, [.val (.int .i64 (IntKind.i64.wrap (a0.left - y10)))]⟩)) n [none])) (n' := (n + 1)) (Fit2.of (Xn hU rfl rfl ?_) (by omega)) ?_
  ·simp only [push_cast, seval, ↓reduceIte, Za, hi0, hk0, hN0, hN]
  refine G0 (k := 1) (k' := 1) hU [0] [0] rfl rfl rfl rfl ⟨rfl, rfl⟩ ?_
  simp only [push_cast, seval, ↓reduceIte, Za, hi0, hk0, hN0, hN]
 simp only [push_cast, seval, ↓reduceIte, Za, Try.results62, hi0, hk0, hN0, hN]
theorem Zdz {Ya : (Ze → Zd → Int → Option (Int × Ze))} {Z9 : (Ze → Zd → Int → Option (Int × Ze))} {Yc : (Ze → Zd → Int → Option (Int × Ze))} (J9 : ∀ {a0 : Ze} {a1 : Zd} {a2 : Int} {r : (Int × Ze)} {O : Objs} {n : Nat} {i0 : Nat}, i0 < n → O i0 = some ⟨false, 107, 1, 1, [.val (.int .i64 a0.left)]⟩ → Ya a0 a1 a2 = some r → GTo Try.prog 62 [.ref i0 0, .agg (Zq a1), .val (.int .i64 a2)] O n (.val (.int .i64 r.1)) (Z5 (O.upd i0 (some ⟨false, 107, 1, 1, [.val (.int .i64 r.2.left)]⟩)) n []) (n + 0)) (Qp : ∀ {a0 : Ze} {a1 : Zd} {a2 : Int} {r : (Int × Ze)} {O : Objs} {n : Nat} {i0 : Nat}, i0 < n → O i0 = some ⟨false, 107, 1, 1, [.val (.int .i64 a0.left)]⟩ → Z9 a0 a1 a2 = some r → GTo Try.prog 85 [.ref i0 0, .agg (Zq a1), .val (.int .i64 a2)] O n (.val (.int .i64 r.1)) (Z5 (O.upd i0 (some ⟨false, 107, 1, 1, [.val (.int .i64 r.2.left)]⟩)) n []) (n + 0)) (Jf : ∀ {a0 : Ze} {a1 : Zd} {a2 : Int} {r : (Int × Ze)} {O : Objs} {n : Nat} {i0 : Nat}, i0 < n → O i0 = some ⟨false, 107, 1, 1, [.val (.int .i64 a0.left)]⟩ → Yc a0 a1 a2 = some r → GTo Try.prog 86 [.ref i0 0, .agg (Zq a1), .val (.int .i64 a2)] O n (.val (.int .i64 r.1)) (Z5 (O.upd i0 (some ⟨false, 107, 1, 1, [.val (.int .i64 r.2.left)]⟩)) n []) (n + 0)) {a0 : Ze} {a1 : Zd} {a2 : Int} {r : (Int × Ze)} {O : Objs} {n : Nat} {i0 : Nat} (hi0 : i0 < n) (ho0 : O i0 = some ⟨false, 107, 1, 1, [.val (.int .i64 a0.left)]⟩) (h : Xl Ya Z9 Yc a0 a1 a2 = some r) : GTo Try.prog 85 [.ref i0 0, .agg (Zq a1), .val (.int .i64 a2)] O n (.val (.int .i64 r.1)) (Z5 (O.upd i0 (some ⟨false, 107, 1, 1, [.val (.int .i64 r.2.left)]⟩)) n []) (n + 0) := by
 unfold Xl at h
 refine Yp Zc Try.call85 Try.func85 rfl (Nat.le_of_ble_eq_true rfl) (by omega) fun hU => ?_
 rw [show Z5 O n [] = Z5 (O.upd i0 (some ⟨false, 107, 1, 1, [.val (.int .i64 a0.left)]⟩)) n [] from by rw [Zm5 (show O i0 = _ from by exact ho0)]]
 have hk0 : ∀ k, i0 < n + k := fun k => by omega
 have hN0 : ∀ o, Objs.upd O i0 o n = none := fun o => Zay hU hi0 _ (Nat.le_refl _)
 have hN : ∀ o k, Objs.upd O i0 o (n + k) = none := fun o k => Zay hU hi0 _ (Nat.le_add_right _ _)
 show W _ _ _ _ ⟨33, [], [(0, .ref i0 0), (1, .agg (Zq a1)), (2, .val (.int .i64 a2))]⟩ (Z5 (O.upd i0 (some ⟨false, 107, 1, 1, [.val (.int .i64 a0.left)]⟩)) n []) _
 refine Zr [0, 2, 4] (Zb Zc [] ?_)
 simp only [push_cast, seval, ↓reduceIte, Za, hi0, hk0, hN0, hN]
 refine Zh ?_
 refine Zh ?_
 obtain ⟨y2, hy2, h⟩ := bC h
 refine Zb Zc [] ?_
 simp only [push_cast, seval, ↓reduceIte, Za, hi0, hk0, hN0, hN]
 refine (Xi hy2).then ?_
 simp only [push_cast, seval, ↓reduceIte, Za, hi0, hk0, hN0, hN]
 refine Zg [0, 2, 4, 12, 13] [true] ?_
 simp only [push_cast, seval, ↓reduceIte]
 refine Zg [0, 2, 4, 12, 13] [true] ?_
 simp only [push_cast, seval, ↓reduceIte]
 obtain ⟨z10, hz10, h⟩ := bC h
 refine Zn9 (J := (Zb6 (fun z10 => JR n (⟨33, [], [(6, .val (.int .i64 z10.1))]⟩ : Env) (Z5 (O.upd i0 (some ⟨false, 107, 1, 1, [.val (.int .i64 z10.2)]⟩)) n [none]) (n + 1)) (fun z10 => JX 0 n (⟨33, [], []⟩ : Env) (Z5 (O.upd i0 (some ⟨false, 107, 1, 1, [.val (.int .i64 z10)]⟩)) n [none]) (n + 1)))) (z := z10) ?_ fun hw => ?_
 ·refine Zaq hz10 (fun s0_ => ⟨33, [], [(0, .ref i0 0), (2, .val (.int .i64 a2)), (4, .ref n 0), (12, .val (.int .i64 y2)), (13, .val (.int .i64 s0_.1))]⟩) (fun s0_ => (Z5 (O.upd i0 (some ⟨false, 107, 1, 1, [.val (.int .i64 s0_.2)]⟩)) n [some ⟨false, 27, 9, 1, (Zq a1)⟩])) (Zb6 (fun z10 => JR n (⟨33, [], [(6, .val (.int .i64 z10.1))]⟩ : Env) (Z5 (O.upd i0 (some ⟨false, 107, 1, 1, [.val (.int .i64 z10.2)]⟩)) n [none]) (n + 1)) (fun z10 => JX 0 n (⟨33, [], []⟩ : Env) (Z5 (O.upd i0 (some ⟨false, 107, 1, 1, [.val (.int .i64 z10)]⟩)) n [none]) (n + 1))) ?_
  intro s0_ x0_ hs0_
  unfold Xm at hs0_
  try dsimp only
  refine Zr [0, 2, 4, 12, 13, 14] (Zb Zc [] ?_)
  simp only [push_cast, seval, ↓reduceIte, Za, hi0, hk0, hN0, hN]
  refine Zh ?_
  refine Zs (t := (decide (s0_.1 < y2))) rfl (fun c9 => ?_) (fun c9 => ?_)
  ·replace hs0_ := Zw c9 hs0_
   refine Zz ?_
   try simp only [Zi, Zf]
   refine Zg [0, 2, 4, 12, 13] [true] ?_
   simp only [push_cast, seval, ↓reduceIte]
   refine Zh ?_
   refine Xu ?_
   refine Zr [0, 2, 4, 7, 12, 13] (Zb Zc [] ?_)
   simp only [push_cast, seval, ↓reduceIte, Za, hi0, hk0, hN0, hN]
   refine Zh ?_
   obtain ⟨y4, hy4, hs0_⟩ := bC hs0_
   refine Zb Zc [] ?_
   simp only [push_cast, seval, ↓reduceIte, Za, hi0, hk0, hN0, hN]
   refine (Zcf hy4).then ?_
   simp only [push_cast, seval, ↓reduceIte, Za, hi0, hk0, hN0, hN]
   refine Zg [0, 2, 4, 8, 9, 12, 13] [true, true] ?_
   simp only [push_cast, seval, ↓reduceIte]
   refine Zh ?_
   refine Zr [0, 2, 4, 8, 9, 12, 13, 23] (Zb Zc [] ?_)
   simp only [push_cast, seval, ↓reduceIte, Za, hi0, hk0, hN0, hN]
   refine Zs (t := (y4.2 != 0)) rfl (fun c8 => ?_) (fun c8 => ?_)
   ·replace hs0_ := Zw c8 hs0_
    refine Zr [6] (Zb Zc [] ?_)
    simp only [push_cast, seval, ↓reduceIte, Za, hi0, hk0, hN0, hN]
    refine Zt ?_
    try simp only [Zi, Zf]
    have hs0_ := Option.some.inj hs0_; subst hs0_
    refine And.intro (fun h => by cases h) (And.intro rfl (Fit2.of (Xn hU rfl rfl ?_) (by omega)))
    simp only [push_cast, seval, ↓reduceIte, Za, hi0, hk0, hN0, hN]
   replace hs0_ := Zv c8 hs0_
   refine Zz ?_
   try simp only [Zi, Zf]
   refine Zg [0, 2, 4, 8, 12, 13] [true, true] ?_
   simp only [push_cast, seval, ↓reduceIte]
   refine Zh ?_
   obtain ⟨y6, hy6, hs0_⟩ := bC hs0_
   refine Zb Zc [] ?_
   simp only [push_cast, seval, ↓reduceIte, Za, hi0, hk0, hN0, hN]
   refine (J9 (i0 := i0) (by omega) (by simp only [push_cast, seval, ↓reduceIte, Za, Za7, hi0, hk0, hN0, hN] <;> rfl) hy6).then ?_
   simp only [push_cast, seval, ↓reduceIte, Za, hi0, hk0, hN0, hN]
   refine Zg [0, 2, 4, 10, 12, 13] [true, false] ?_
   simp only [push_cast, seval, ↓reduceIte]
   refine Zr [0, 2, 4, 10, 12, 13, 30] (Zb Zc [] ?_)
   simp only [push_cast, seval, ↓reduceIte, Za, hi0, hk0, hN0, hN]
   refine Zs (t := (y6.1 != 0)) rfl (fun c7 => ?_) (fun c7 => ?_)
   ·replace hs0_ := Zw c7 hs0_
    refine Zr [6] (Zb Zc [] ?_)
    simp only [push_cast, seval, ↓reduceIte, Za, hi0, hk0, hN0, hN]
    refine Zt ?_
    try simp only [Zi, Zf]
    have hs0_ := Option.some.inj hs0_; subst hs0_
    refine And.intro (fun h => by cases h) (And.intro rfl (Fit2.of (Xn hU rfl rfl ?_) (by omega)))
    simp only [push_cast, seval, ↓reduceIte, Za, hi0, hk0, hN0, hN]
   replace hs0_ := Zv c7 hs0_
   refine Zz ?_
   try simp only [Zi, Zf]
   refine Zg [0, 2, 4, 12, 13] [true, false] ?_
   simp only [push_cast, seval, ↓reduceIte]
   refine Zb Zc [] ?_
   simp only [push_cast, seval, ↓reduceIte, Za, hi0, hk0, hN0, hN]
   have hs0_ := Option.some.inj hs0_; subst hs0_
   refine And.intro rfl (Fit2.of (Xn hU rfl rfl ?_) (by omega))
   simp only [push_cast, seval, ↓reduceIte, Za, hi0, hk0, hN0, hN]
  replace hs0_ := Zv c9 hs0_
  refine Zdr ?_
  try simp only [Zi, Zf, ↓reduceIte, Nat.reduceEqDiff]
  have hs0_ := Option.some.inj hs0_; subst hs0_
  refine And.intro (fun h => by cases h) (And.intro rfl (Fit2.of (Xn hU rfl rfl ?_) (by omega)))
  simp only [push_cast, seval, ↓reduceIte, Za, hi0, hk0, hN0, hN]
 rcases z10 with z10 | z10
 ·dsimp only [Zb6] at hw h
  refine Zhc hw ?_
  try simp only [Zi, Zf, ↓reduceIte, Nat.reduceEqDiff]
  have h := Option.some.inj h; subst h
  refine Gp (k := 0) (i := i0) (q1 := ⟨false, 107, 1, 1, [.val (.int .i64 z10.2)]⟩) (L3 := [none]) (E2 := (⟨33, [], [(6, .val (.int .i64 z10.1))]⟩ : Env)) (n3 := (n + 1)) (.inr rfl) hU rfl [.val (.int .i64 z10.1)] ?_ ?_
  ·refine Fit2.trans (E' := (⟨33, [], [(6, .val (.int .i64 z10.1))]⟩ : Env)) (O' := (Z5 (O.upd i0 (some ⟨false, 107, 1, 1, [.val (.int .i64 z10.2)]⟩)) n [none])) (n' := (n + 1)) (Fit2.of (Xn hU rfl rfl ?_) (by omega)) ?_
   ·simp only [push_cast, seval, ↓reduceIte, Za, hi0, hk0, hN0, hN]
   refine G0 (k := 1) (k' := 1) hU [0] [0] rfl rfl rfl rfl ⟨rfl, rfl⟩ ?_
   simp only [push_cast, seval, ↓reduceIte, Za, hi0, hk0, hN0, hN]
  simp only [push_cast, seval, ↓reduceIte, Za, Try.results85, hi0, hk0, hN0, hN]
 dsimp only [Zb6] at hw h
 refine Ug hw ?_
 try simp only [Zi, Zf, ↓reduceIte, Nat.reduceEqDiff]
 refine Zg [] [false] ?_
 simp only [push_cast, seval, ↓reduceIte]
 refine Zr [6] (Zb Zc [] ?_)
 simp only [push_cast, seval, ↓reduceIte, Za, hi0, hk0, hN0, hN]
 refine Zt ?_
 try simp only [Zi, Zf]
 have h := Option.some.inj h; subst h
 refine Gp (k := 0) (i := i0) (q1 := ⟨false, 107, 1, 1, [.val (.int .i64 z10)]⟩) (L3 := [none]) (E2 := (⟨33, [], [(6, .val (.int .i64 0))]⟩ : Env)) (n3 := (n + 1)) (.inr rfl) hU rfl [.val (.int .i64 0)] ?_ ?_
 ·refine Fit2.trans (E' := (⟨33, [], [(6, .val (.int .i64 0))]⟩ : Env)) (O' := (Z5 (O.upd i0 (some ⟨false, 107, 1, 1, [.val (.int .i64 z10)]⟩)) n [none])) (n' := (n + 1)) (Fit2.of (Xn hU rfl rfl ?_) (by omega)) ?_
  ·simp only [push_cast, seval, ↓reduceIte, Za, hi0, hk0, hN0, hN]
  refine G0 (k := 1) (k' := 1) hU [0] [0] rfl rfl rfl rfl ⟨rfl, rfl⟩ ?_
  simp only [push_cast, seval, ↓reduceIte, Za, hi0, hk0, hN0, hN]
 simp only [push_cast, seval, ↓reduceIte, Za, Try.results85, hi0, hk0, hN0, hN]
theorem Zb9 {Ya : (Ze → Zd → Int → Option (Int × Ze))} {Z9 : (Ze → Zd → Int → Option (Int × Ze))} {Yc : (Ze → Zd → Int → Option (Int × Ze))} (J9 : ∀ {a0 : Ze} {a1 : Zd} {a2 : Int} {r : (Int × Ze)} {O : Objs} {n : Nat} {i0 : Nat}, i0 < n → O i0 = some ⟨false, 107, 1, 1, [.val (.int .i64 a0.left)]⟩ → Ya a0 a1 a2 = some r → GTo Try.prog 62 [.ref i0 0, .agg (Zq a1), .val (.int .i64 a2)] O n (.val (.int .i64 r.1)) (Z5 (O.upd i0 (some ⟨false, 107, 1, 1, [.val (.int .i64 r.2.left)]⟩)) n []) (n + 0)) (Qp : ∀ {a0 : Ze} {a1 : Zd} {a2 : Int} {r : (Int × Ze)} {O : Objs} {n : Nat} {i0 : Nat}, i0 < n → O i0 = some ⟨false, 107, 1, 1, [.val (.int .i64 a0.left)]⟩ → Z9 a0 a1 a2 = some r → GTo Try.prog 85 [.ref i0 0, .agg (Zq a1), .val (.int .i64 a2)] O n (.val (.int .i64 r.1)) (Z5 (O.upd i0 (some ⟨false, 107, 1, 1, [.val (.int .i64 r.2.left)]⟩)) n []) (n + 0)) (Jf : ∀ {a0 : Ze} {a1 : Zd} {a2 : Int} {r : (Int × Ze)} {O : Objs} {n : Nat} {i0 : Nat}, i0 < n → O i0 = some ⟨false, 107, 1, 1, [.val (.int .i64 a0.left)]⟩ → Yc a0 a1 a2 = some r → GTo Try.prog 86 [.ref i0 0, .agg (Zq a1), .val (.int .i64 a2)] O n (.val (.int .i64 r.1)) (Z5 (O.upd i0 (some ⟨false, 107, 1, 1, [.val (.int .i64 r.2.left)]⟩)) n []) (n + 0)) {a0 : Ze} {a1 : Zd} {a2 : Int} {r : (Int × Ze)} {O : Objs} {n : Nat} {i0 : Nat} (hi0 : i0 < n) (ho0 : O i0 = some ⟨false, 107, 1, 1, [.val (.int .i64 a0.left)]⟩) (h : Y5 Ya Z9 Yc a0 a1 a2 = some r) : GTo Try.prog 86 [.ref i0 0, .agg (Zq a1), .val (.int .i64 a2)] O n (.val (.int .i64 r.1)) (Z5 (O.upd i0 (some ⟨false, 107, 1, 1, [.val (.int .i64 r.2.left)]⟩)) n []) (n + 0) := by
 unfold Y5 at h
 refine Yp Zc Try.call86 Try.func86 rfl (Nat.le_of_ble_eq_true rfl) (by omega) fun hU => ?_
 rw [show Z5 O n [] = Z5 (O.upd i0 (some ⟨false, 107, 1, 1, [.val (.int .i64 a0.left)]⟩)) n [] from by rw [Zm5 (show O i0 = _ from by exact ho0)]]
 have hk0 : ∀ k, i0 < n + k := fun k => by omega
 have hN0 : ∀ o, Objs.upd O i0 o n = none := fun o => Zay hU hi0 _ (Nat.le_refl _)
 have hN : ∀ o k, Objs.upd O i0 o (n + k) = none := fun o k => Zay hU hi0 _ (Nat.le_add_right _ _)
 show W _ _ _ _ ⟨34, [], [(0, .ref i0 0), (1, .agg (Zq a1)), (2, .val (.int .i64 a2))]⟩ (Z5 (O.upd i0 (some ⟨false, 107, 1, 1, [.val (.int .i64 a0.left)]⟩)) n []) _
 refine Zr [0, 2, 4] (Zb Zc [] ?_)
 simp only [push_cast, seval, ↓reduceIte, Za, hi0, hk0, hN0, hN]
 refine Zh ?_
 refine Zh ?_
 obtain ⟨y2, hy2, h⟩ := bC h
 refine Zb Zc [] ?_
 simp only [push_cast, seval, ↓reduceIte, Za, hi0, hk0, hN0, hN]
 refine (Xi hy2).then ?_
 simp only [push_cast, seval, ↓reduceIte, Za, hi0, hk0, hN0, hN]
 refine Zg [0, 2, 4, 12, 13] [true] ?_
 simp only [push_cast, seval, ↓reduceIte]
 refine Zg [0, 2, 4, 12, 13] [true] ?_
 simp only [push_cast, seval, ↓reduceIte]
 obtain ⟨z10, hz10, h⟩ := bC h
 refine Zn9 (J := (Zb6 (fun z10 => JR n (⟨34, [], [(6, .val (.int .i64 z10.1))]⟩ : Env) (Z5 (O.upd i0 (some ⟨false, 107, 1, 1, [.val (.int .i64 z10.2)]⟩)) n [none]) (n + 1)) (fun z10 => JX 0 n (⟨34, [], []⟩ : Env) (Z5 (O.upd i0 (some ⟨false, 107, 1, 1, [.val (.int .i64 z10)]⟩)) n [none]) (n + 1)))) (z := z10) ?_ fun hw => ?_
 ·refine Zaq hz10 (fun s0_ => ⟨34, [], [(0, .ref i0 0), (2, .val (.int .i64 a2)), (4, .ref n 0), (12, .val (.int .i64 y2)), (13, .val (.int .i64 s0_.1))]⟩) (fun s0_ => (Z5 (O.upd i0 (some ⟨false, 107, 1, 1, [.val (.int .i64 s0_.2)]⟩)) n [some ⟨false, 27, 9, 1, (Zq a1)⟩])) (Zb6 (fun z10 => JR n (⟨34, [], [(6, .val (.int .i64 z10.1))]⟩ : Env) (Z5 (O.upd i0 (some ⟨false, 107, 1, 1, [.val (.int .i64 z10.2)]⟩)) n [none]) (n + 1)) (fun z10 => JX 0 n (⟨34, [], []⟩ : Env) (Z5 (O.upd i0 (some ⟨false, 107, 1, 1, [.val (.int .i64 z10)]⟩)) n [none]) (n + 1))) ?_
  intro s0_ x0_ hs0_
  unfold Y6 at hs0_
  try dsimp only
  refine Zr [0, 2, 4, 12, 13, 14] (Zb Zc [] ?_)
  simp only [push_cast, seval, ↓reduceIte, Za, hi0, hk0, hN0, hN]
  refine Zh ?_
  refine Zs (t := (decide (s0_.1 < y2))) rfl (fun c9 => ?_) (fun c9 => ?_)
  ·replace hs0_ := Zw c9 hs0_
   refine Zz ?_
   try simp only [Zi, Zf]
   refine Zg [0, 2, 4, 12, 13] [true] ?_
   simp only [push_cast, seval, ↓reduceIte]
   refine Zh ?_
   refine Xu ?_
   refine Zr [0, 2, 4, 7, 12, 13] (Zb Zc [] ?_)
   simp only [push_cast, seval, ↓reduceIte, Za, hi0, hk0, hN0, hN]
   refine Zh ?_
   obtain ⟨y4, hy4, hs0_⟩ := bC hs0_
   refine Zb Zc [] ?_
   simp only [push_cast, seval, ↓reduceIte, Za, hi0, hk0, hN0, hN]
   refine (Zcf hy4).then ?_
   simp only [push_cast, seval, ↓reduceIte, Za, hi0, hk0, hN0, hN]
   refine Zg [0, 2, 4, 8, 9, 12, 13] [true, true] ?_
   simp only [push_cast, seval, ↓reduceIte]
   refine Zh ?_
   refine Zr [0, 2, 4, 8, 9, 12, 13, 23] (Zb Zc [] ?_)
   simp only [push_cast, seval, ↓reduceIte, Za, hi0, hk0, hN0, hN]
   refine Zs (t := (y4.2 != 0)) rfl (fun c8 => ?_) (fun c8 => ?_)
   ·replace hs0_ := Zw c8 hs0_
    refine Zr [6] (Zb Zc [] ?_)
    simp only [push_cast, seval, ↓reduceIte, Za, hi0, hk0, hN0, hN]
    refine Zt ?_
    try simp only [Zi, Zf]
    have hs0_ := Option.some.inj hs0_; subst hs0_
    refine And.intro (fun h => by cases h) (And.intro rfl (Fit2.of (Xn hU rfl rfl ?_) (by omega)))
    simp only [push_cast, seval, ↓reduceIte, Za, hi0, hk0, hN0, hN]
   replace hs0_ := Zv c8 hs0_
   refine Zz ?_
   try simp only [Zi, Zf]
   refine Zg [0, 2, 4, 8, 12, 13] [true, true] ?_
   simp only [push_cast, seval, ↓reduceIte]
   refine Zh ?_
   obtain ⟨y6, hy6, hs0_⟩ := bC hs0_
   refine Zb Zc [] ?_
   simp only [push_cast, seval, ↓reduceIte, Za, hi0, hk0, hN0, hN]
   refine (Qp (i0 := i0) (by omega) (by simp only [push_cast, seval, ↓reduceIte, Za, Za7, hi0, hk0, hN0, hN] <;> rfl) hy6).then ?_
   simp only [push_cast, seval, ↓reduceIte, Za, hi0, hk0, hN0, hN]
   refine Zg [0, 2, 4, 10, 12, 13] [true, false] ?_
   simp only [push_cast, seval, ↓reduceIte]
   refine Zr [0, 2, 4, 10, 12, 13, 31] (Zb Zc [] ?_)
   simp only [push_cast, seval, ↓reduceIte, Za, hi0, hk0, hN0, hN]
   refine Zs (t := (y6.1 != 0)) rfl (fun c7 => ?_) (fun c7 => ?_)
   ·replace hs0_ := Zw c7 hs0_
    refine Zr [6] (Zb Zc [] ?_)
    simp only [push_cast, seval, ↓reduceIte, Za, hi0, hk0, hN0, hN]
    refine Zt ?_
    try simp only [Zi, Zf]
    have hs0_ := Option.some.inj hs0_; subst hs0_
    refine And.intro (fun h => by cases h) (And.intro rfl (Fit2.of (Xn hU rfl rfl ?_) (by omega)))
    simp only [push_cast, seval, ↓reduceIte, Za, hi0, hk0, hN0, hN]
   replace hs0_ := Zv c7 hs0_
   refine Zz ?_
   try simp only [Zi, Zf]
   refine Zg [0, 2, 4, 12, 13] [true, false] ?_
   simp only [push_cast, seval, ↓reduceIte]
   refine Zb Zc [] ?_
   simp only [push_cast, seval, ↓reduceIte, Za, hi0, hk0, hN0, hN]
   have hs0_ := Option.some.inj hs0_; subst hs0_
   refine And.intro rfl (Fit2.of (Xn hU rfl rfl ?_) (by omega))
   simp only [push_cast, seval, ↓reduceIte, Za, hi0, hk0, hN0, hN]
  replace hs0_ := Zv c9 hs0_
  refine Zdr ?_
  try simp only [Zi, Zf, ↓reduceIte, Nat.reduceEqDiff]
  have hs0_ := Option.some.inj hs0_; subst hs0_
  refine And.intro (fun h => by cases h) (And.intro rfl (Fit2.of (Xn hU rfl rfl ?_) (by omega)))
  simp only [push_cast, seval, ↓reduceIte, Za, hi0, hk0, hN0, hN]
 rcases z10 with z10 | z10
 ·dsimp only [Zb6] at hw h
  refine Zhc hw ?_
  try simp only [Zi, Zf, ↓reduceIte, Nat.reduceEqDiff]
  have h := Option.some.inj h; subst h
  refine Gp (k := 0) (i := i0) (q1 := ⟨false, 107, 1, 1, [.val (.int .i64 z10.2)]⟩) (L3 := [none]) (E2 := (⟨34, [], [(6, .val (.int .i64 z10.1))]⟩ : Env)) (n3 := (n + 1)) (.inr rfl) hU rfl [.val (.int .i64 z10.1)] ?_ ?_
  ·refine Fit2.trans (E' := (⟨34, [], [(6, .val (.int .i64 z10.1))]⟩ : Env)) (O' := (Z5 (O.upd i0 (some ⟨false, 107, 1, 1, [.val (.int .i64 z10.2)]⟩)) n [none])) (n' := (n + 1)) (Fit2.of (Xn hU rfl rfl ?_) (by omega)) ?_
   ·simp only [push_cast, seval, ↓reduceIte, Za, hi0, hk0, hN0, hN]
   refine G0 (k := 1) (k' := 1) hU [0] [0] rfl rfl rfl rfl ⟨rfl, rfl⟩ ?_
   simp only [push_cast, seval, ↓reduceIte, Za, hi0, hk0, hN0, hN]
  simp only [push_cast, seval, ↓reduceIte, Za, Try.results86, hi0, hk0, hN0, hN]
 dsimp only [Zb6] at hw h
 refine Ug hw ?_
 try simp only [Zi, Zf, ↓reduceIte, Nat.reduceEqDiff]
 refine Zg [] [false] ?_
 simp only [push_cast, seval, ↓reduceIte]
 refine Zr [6] (Zb Zc [] ?_)
 simp only [push_cast, seval, ↓reduceIte, Za, hi0, hk0, hN0, hN]
 refine Zt ?_
 try simp only [Zi, Zf]
 have h := Option.some.inj h; subst h
 refine Gp (k := 0) (i := i0) (q1 := ⟨false, 107, 1, 1, [.val (.int .i64 z10)]⟩) (L3 := [none]) (E2 := (⟨34, [], [(6, .val (.int .i64 0))]⟩ : Env)) (n3 := (n + 1)) (.inr rfl) hU rfl [.val (.int .i64 0)] ?_ ?_
 ·refine Fit2.trans (E' := (⟨34, [], [(6, .val (.int .i64 0))]⟩ : Env)) (O' := (Z5 (O.upd i0 (some ⟨false, 107, 1, 1, [.val (.int .i64 z10)]⟩)) n [none])) (n' := (n + 1)) (Fit2.of (Xn hU rfl rfl ?_) (by omega)) ?_
  ·simp only [push_cast, seval, ↓reduceIte, Za, hi0, hk0, hN0, hN]
  refine G0 (k := 1) (k' := 1) hU [0] [0] rfl rfl rfl rfl ⟨rfl, rfl⟩ ?_
  simp only [push_cast, seval, ↓reduceIte, Za, hi0, hk0, hN0, hN]
 simp only [push_cast, seval, ↓reduceIte, Za, Try.results86, hi0, hk0, hN0, hN]
theorem Zb7 : ∀ k, (∀ {a0 : Ze} {a1 : Zd} {a2 : Int} {r : (Int × Ze)} {O : Objs} {n : Nat} {i0 : Nat}, i0 < n → O i0 = some ⟨false, 107, 1, 1, [.val (.int .i64 a0.left)]⟩ → (Zp k).1 a0 a1 a2 = some r → GTo Try.prog 62 [.ref i0 0, .agg (Zq a1), .val (.int .i64 a2)] O n (.val (.int .i64 r.1)) (Z5 (O.upd i0 (some ⟨false, 107, 1, 1, [.val (.int .i64 r.2.left)]⟩)) n []) (n + 0)) ∧ (∀ {a0 : Ze} {a1 : Zd} {a2 : Int} {r : (Int × Ze)} {O : Objs} {n : Nat} {i0 : Nat}, i0 < n → O i0 = some ⟨false, 107, 1, 1, [.val (.int .i64 a0.left)]⟩ → (Zp k).2.1 a0 a1 a2 = some r → GTo Try.prog 85 [.ref i0 0, .agg (Zq a1), .val (.int .i64 a2)] O n (.val (.int .i64 r.1)) (Z5 (O.upd i0 (some ⟨false, 107, 1, 1, [.val (.int .i64 r.2.left)]⟩)) n []) (n + 0)) ∧ (∀ {a0 : Ze} {a1 : Zd} {a2 : Int} {r : (Int × Ze)} {O : Objs} {n : Nat} {i0 : Nat}, i0 < n → O i0 = some ⟨false, 107, 1, 1, [.val (.int .i64 a0.left)]⟩ → (Zp k).2.2 a0 a1 a2 = some r → GTo Try.prog 86 [.ref i0 0, .agg (Zq a1), .val (.int .i64 a2)] O n (.val (.int .i64 r.1)) (Z5 (O.upd i0 (some ⟨false, 107, 1, 1, [.val (.int .i64 r.2.left)]⟩)) n []) (n + 0)) := fun k => by
 induction k with
 | zero => exact ⟨@fun a0 a1 a2 r O n i0 hi0 ho0 h => (nomatch (show (none : Option _) = some _ from h)), @fun a0 a1 a2 r O n i0 hi0 ho0 h => (nomatch (show (none : Option _) = some _ from h)), @fun a0 a1 a2 r O n i0 hi0 ho0 h => (nomatch (show (none : Option _) = some _ from h))⟩
 | succ k ih => exact ⟨@fun a0 a1 a2 r O n i0 hi0 ho0 h => Zc6 (ih.1) (ih.2.1) (ih.2.2) hi0 ho0 h, @fun a0 a1 a2 r O n i0 hi0 ho0 h => Zdz (ih.1) (ih.2.1) (ih.2.2) hi0 ho0 h, @fun a0 a1 a2 r O n i0 hi0 ho0 h => Zb9 (ih.1) (ih.2.1) (ih.2.2) hi0 ho0 h⟩
theorem Zdx {a0 : Ze} {a1 : Zd} {a2 : Int} {r : (Int × Ze)} {O : Objs} {n : Nat} {i0 : Nat} (hi0 : i0 < n) (ho0 : O i0 = some ⟨false, 107, 1, 1, [.val (.int .i64 a0.left)]⟩) (h : K2 a0 a1 a2 = some r) : GTo Try.prog 62 [.ref i0 0, .agg (Zq a1), .val (.int .i64 a2)] O n (.val (.int .i64 r.1)) (Z5 (O.upd i0 (some ⟨false, 107, 1, 1, [.val (.int .i64 r.2.left)]⟩)) n []) (n + 0) := by
 obtain ⟨k, hk⟩ := Zpz h
 exact (Zb7 k).1 hi0 ho0 hk
theorem Zbg {a0 : (Option Zk)} {a1 : Zy} {r : (Int × Int)} {O : Objs} {n : Nat} (h : J7 a0 a1 = some r) : GTo Try.prog 31 [(gP Zj a0), .agg (Ye a1)] O n (.tup [.val (.int .i64 r.1), .val (.int .i64 r.2)]) O n := by
 unfold J7 at h
 refine Yp Zc Try.call31 Try.func31 rfl (Nat.le_of_ble_eq_true rfl) (Nat.le_refl _) fun hU => ?_
 have hN0 : O n = none := hU.fresh _ (Nat.le_refl _)
 have hN : ∀ k, O (n + k) = none := fun k => hU.fresh _ (Nat.le_add_right _ _)
 show W _ _ _ _ ⟨35, [], [(0, (gP Zj a0)), (1, .agg (Ye a1))]⟩ (Z5 O n []) _
 refine Zr [0, 3] (Zb Zc [] ?_)
 simp only [push_cast, seval, ↓reduceIte, Za, hN0, hN]
 refine Zh ?_
 obtain ⟨y2, hy2, h⟩ := bC h
 refine Zb Zc [] ?_
 simp only [push_cast, seval, ↓reduceIte, Za, hN0, hN]
 refine (Zkw hy2).then ?_
 simp only [push_cast, seval, ↓reduceIte, Za, hN0, hN]
 refine Zg [0, 3] [true] ?_
 simp only [push_cast, seval, ↓reduceIte]
 refine Zh ?_
 obtain ⟨y4, hy4, h⟩ := bC h
 refine Zb Zc [] ?_
 simp only [push_cast, seval, ↓reduceIte, Za, hN0, hN]
 refine (Zly hy4).then ?_
 simp only [push_cast, seval, ↓reduceIte, Za, hN0, hN]
 refine Zg [3, 6, 7] [true, true] ?_
 simp only [push_cast, seval, ↓reduceIte]
 refine Zh ?_
 refine Zr [3, 6, 7, 18] (Zb Zc [] ?_)
 simp only [push_cast, seval, ↓reduceIte, Za, hN0, hN]
 refine Zs (t := (y4.2 != 0)) rfl (fun c8 => ?_) (fun c8 => ?_)
 ·replace h := Zw c8 h
  refine Zr [4, 5] (Zb Zc [] ?_)
  simp only [push_cast, seval, ↓reduceIte, Za, hN0, hN]
  refine Zt ?_
  try simp only [Zi, Zf]
  have h := Option.some.inj h; subst h
  refine Zl (.inr rfl) hU [.val (.int .i64 0), .val (.int .i64 y4.2)] (by omega) ?_
  simp only [push_cast, seval, ↓reduceIte, Za, Try.results31, hN0, hN]
 replace h := Zv c8 h
 refine Zz ?_
 try simp only [Zi, Zf]
 refine Zg [3, 6] [true, true] ?_
 simp only [push_cast, seval, ↓reduceIte]
 refine Zh ?_
 refine Zb Zc [] ?_
 simp only [push_cast, seval, ↓reduceIte, Za, hN0, hN]
 refine Zg [3, 6, 8] [true, true, true] ?_
 simp only [push_cast, seval, ↓reduceIte]
 refine Zh ?_
 refine Zh ?_
 obtain ⟨y6, hy6, h⟩ := bC h
 refine Zb Zc [] ?_
 simp only [push_cast, seval, ↓reduceIte, Za, hN0, hN]
 refine (Zdx (i0 := (n + 2)) (by omega) (by simp only [push_cast, seval, ↓reduceIte, Za, Za7, hN0, hN] <;> rfl) hy6).then ?_
 simp only [push_cast, seval, ↓reduceIte, Za, hN0, hN]
 refine Zg [3, 8, 9] [true, false, true] ?_
 simp only [push_cast, seval, ↓reduceIte]
 refine Zr [3, 8, 9, 28] (Zb Zc [] ?_)
 simp only [push_cast, seval, ↓reduceIte, Za, hN0, hN]
 refine Zs (t := (y6.1 != 0)) rfl (fun c7 => ?_) (fun c7 => ?_)
 ·replace h := Zw c7 h
  refine Zr [4, 5] (Zb Zc [] ?_)
  simp only [push_cast, seval, ↓reduceIte, Za, hN0, hN]
  refine Zt ?_
  try simp only [Zi, Zf]
  have h := Option.some.inj h; subst h
  refine Zl (.inr rfl) hU [.val (.int .i64 0), .val (.int .i64 y6.1)] (by omega) ?_
  simp only [push_cast, seval, ↓reduceIte, Za, Try.results31, hN0, hN]
 replace h := Zv c7 h
 refine Zz ?_
 try simp only [Zi, Zf]
 refine Zg [3, 8] [true, false, true] ?_
 simp only [push_cast, seval, ↓reduceIte]
 refine Zr [4, 5] (Zb Zc [] ?_)
 simp only [push_cast, seval, ↓reduceIte, Za, hN0, hN]
 refine Zt ?_
 try simp only [Zi, Zf]
 have h := Option.some.inj h; subst h
 refine Zl (.inr rfl) hU [.val (.int .i64 (IntKind.i64.wrap (y2.Weight - y6.2.left))), .val (.int .i64 0)] (by omega) ?_
 simp only [push_cast, seval, ↓reduceIte, Za, Try.results31, hN0, hN]
theorem Zgq  {r : Bool} {O : Objs} {n : Nat} (h : Jb = some r) : GTo Try.prog 33 [] O n (.val (.bool r)) O n := by
 unfold Jb at h
 refine Yp Zc Try.call33 Try.func33 rfl (Nat.le_of_ble_eq_true rfl) (Nat.le_refl _) fun hU => ?_
 have hN0 : O n = none := hU.fresh _ (Nat.le_refl _)
 have hN : ∀ k, O (n + k) = none := fun k => hU.fresh _ (Nat.le_add_right _ _)
 show W _ _ _ _ ⟨31, [], []⟩ (Z5 O n []) _
 refine Zr [] (Zb Zc [] ?_)
 simp only [push_cast, seval, ↓reduceIte, Za, hN0, hN]
 refine Zh ?_
 obtain ⟨y2, hy2, h⟩ := bC h
 refine Zb Zc [] ?_
 simp only [push_cast, seval, ↓reduceIte, Za, hN0, hN]
 refine GCalls.dropL (l' := [none, none]) hU rfl ?_ ((Zkr hy2).then ?_)
 ·simp only [push_cast, seval, ↓reduceIte, Za, hN0, hN]
 simp only [push_cast, seval, ↓reduceIte, Za, hN0, hN]
 refine Zg [1] [false, false] ?_
 simp only [push_cast, seval, ↓reduceIte]
 refine Zh ?_
 obtain ⟨y4, hy4, h⟩ := bC h
 refine Zb Zc [] ?_
 simp only [push_cast, seval, ↓reduceIte, Za, hN0, hN]
 refine (Zbg hy4).then ?_
 simp only [push_cast, seval, ↓reduceIte, Za, hN0, hN]
 refine Zg [1, 2, 3] [false, false] ?_
 simp only [push_cast, seval, ↓reduceIte]
 refine Zh ?_
 obtain ⟨y6, hy6, h⟩ := bC h
 refine Zb Zc [] ?_
 simp only [push_cast, seval, ↓reduceIte, Za, hN0, hN]
 refine (Zbg hy6).then ?_
 simp only [push_cast, seval, ↓reduceIte, Za, hN0, hN]
 refine Zg [2, 3, 5] [false, false] ?_
 simp only [push_cast, seval, ↓reduceIte]
 refine Zr [0] (Zb Zc [none, none, none, none] ?_)
 simp only [push_cast, seval, ↓reduceIte, Za, hN0, hN]
 repeat (with_reducible refine And.intro (by first | (intro h0; simp only [h0, and_self]; done) | (intro h0; simp only [h0, Bool.not_false, Bool.not_true, Bool.true_and, Bool.and_true, true_and, and_true, and_self, imp_self, implies_true, bne_iff_ne, ne_eq, beq_iff_eq]; done) | (intros; simp_all; done) | exact True.intro) ?_)
 refine Zt ?_
 try simp only [Zi, Zf]
 have h := Option.some.inj h; subst h
 refine Zl (.inr rfl) hU [.val (.bool (cond (cond (y4.1 == 2) (y4.2 == 0) false) (y6.2 == 3) false))] (by omega) ?_
 simp only [push_cast, seval, ↓reduceIte, Za, Try.results33, hN0, hN]
theorem Zgp {a0 : Zy} {r : Zy} {O : Objs} {n : Nat} (h : Ja a0 = some r) : GTo Try.prog 30 [.agg (Ye a0)] O n (.agg (Ye r)) O n := by
 unfold Ja at h
 refine Yp Zc Try.call30 Try.func30 rfl (Nat.le_of_ble_eq_true rfl) (Nat.le_refl _) fun hU => ?_
 have hN0 : O n = none := hU.fresh _ (Nat.le_refl _)
 have hN : ∀ k, O (n + k) = none := fun k => hU.fresh _ (Nat.le_add_right _ _)
 show W _ _ _ _ ⟨8, [], [(0, .agg (Ye a0))]⟩ (Z5 O n []) _
 refine Zr [1, 2] (Zb Zc [] ?_)
 simp only [push_cast, seval, ↓reduceIte, Za, hN0, hN]
 obtain ⟨z1, hz1, h⟩ := bC h
 refine Jk (E' := ⟨8, [], [(1, .ref n 0), (2, .ref (n + 1) 0)]⟩) (O' := (Z5 O n [some ⟨false, 52, 4, 1, [.val (.int .i64 a0.Depth), .val (.int .i64 z1), .val (.int .i64 a0.MaxD), .val (.int .i64 a0.MaxOut)]⟩, some ⟨false, 52, 4, 1, [.val (.int .i64 0), .val (.int .i64 0), .val (.int .i64 0), .val (.int .i64 0)]⟩])) (n0 := (n + 2)) ?_ ?_
 ·refine Zr [1, 2, 5] (Zb Zc [] ?_)
  simp only [push_cast, seval, ↓reduceIte, Za, hN0, hN]
  refine Zs (t := (decide (3000 < a0.Weight))) rfl (fun c2 => ?_) (fun c2 => ?_)
  ·replace hz1 := Zw c2 hz1
   refine Zb Zc [] ?_
   simp only [push_cast, seval, ↓reduceIte, Za, hN0, hN]
   have hz1 := Option.some.inj hz1; subst hz1
   refine And.intro rfl (Fit2.of (Zx hU rfl rfl ?_) (by omega))
   simp only [push_cast, seval, ↓reduceIte, Za, hN0, hN]
  replace hz1 := Zv c2 hz1
  refine Zz ?_
  try simp only [Zi, Zf]
  have hz1 := Option.some.inj hz1; subst hz1
  refine And.intro rfl (Fit2.of (Zx hU rfl rfl ?_) (by omega))
  simp only [push_cast, seval, ↓reduceIte, Za, hN0, hN]
 refine Zh ?_
 refine Zb Zc [] ?_
 simp only [push_cast, seval, ↓reduceIte, Za, hN0, hN]
 refine Zg [2] [false, true] ?_
 simp only [push_cast, seval, ↓reduceIte]
 refine Zt ?_
 try simp only [Zi, Zf]
 have h := Option.some.inj h; subst h
 refine Zl (.inr rfl) hU [.agg [.val (.int .i64 a0.Depth), .val (.int .i64 z1), .val (.int .i64 a0.MaxD), .val (.int .i64 a0.MaxOut)]] (by omega) ?_
 simp only [push_cast, seval, ↓reduceIte, Za, Try.results30, hN0, hN]
theorem Zdy {Yg : ((List (List Int)) → Zm → Int → Int → Option (Zo × Int × Int))} {Yt : ((List (List Int)) → Zm → Int → Int → Option (Zo × Int × Int))} (Kf : ∀ {a0 : (List (List Int))} {a1 : Zm} {a2 : Int} {a3 : Int} {r : (Zo × Int × Int)} {O : Objs} {n : Nat}, Yg a0 a1 a2 a3 = some r → GTo Try.prog 63 [.sl a0.length (fl (eL (eI .u64)) a0), .agg (Zn a1), .val (.int .i64 a2), .val (.int .i64 a3)] O n (.tup [.agg (Yq r.1), .val (.int .i64 r.2.1), .val (.int .i64 r.2.2)]) O n) (Gw : ∀ {a0 : (List (List Int))} {a1 : Zm} {a2 : Int} {a3 : Int} {r : (Zo × Int × Int)} {O : Objs} {n : Nat}, Yt a0 a1 a2 a3 = some r → GTo Try.prog 87 [.sl a0.length (fl (eL (eI .u64)) a0), .agg (Zn a1), .val (.int .i64 a2), .val (.int .i64 a3)] O n (.tup [.agg (Yq r.1), .val (.int .i64 r.2.1), .val (.int .i64 r.2.2)]) O n) {a0 : (List (List Int))} {a1 : Zm} {a2 : Int} {a3 : Int} {r : (Zo × Int × Int)} {O : Objs} {n : Nat} (h : Xj Yg Yt a0 a1 a2 a3 = some r) : GTo Try.prog 63 [.sl a0.length (fl (eL (eI .u64)) a0), .agg (Zn a1), .val (.int .i64 a2), .val (.int .i64 a3)] O n (.tup [.agg (Yq r.1), .val (.int .i64 r.2.1), .val (.int .i64 r.2.2)]) O n := by
 unfold Xj at h
 refine Yp Zc Try.call63 Try.func63 rfl (Nat.le_of_ble_eq_true rfl) (Nat.le_refl _) fun hU => ?_
 have hN0 : O n = none := hU.fresh _ (Nat.le_refl _)
 have hN : ∀ k, O (n + k) = none := fun k => hU.fresh _ (Nat.le_add_right _ _)
 show W _ _ _ _ ⟨149, [], [(0, .sl a0.length (fl (eL (eI .u64)) a0)), (1, .agg (Zn a1)), (2, .val (.int .i64 a2)), (3, .val (.int .i64 a3))]⟩ (Z5 O n []) _
 refine Zr [0, 2, 3, 5, 8] (Zb Zc [] ?_)
 simp only [push_cast, seval, ↓reduceIte, Za, hN0, hN]
 refine Zh ?_
 obtain ⟨y2, hy2, h⟩ := bC h
 refine Zgd Zc (by kernel_rfl) [.low, .low, .low, .low, .low, .low, .pass, .bar] (fun i => i < (n + 2)) [0, 1, 2, 3, 4, 5, 6, 7] [.low, .low, .low, .low, .low, .low, .pass, .bar] [] (by kernel_rfl) rfl ?_
 simp only [push_cast, seval, ↓reduceIte, Za, hN0, hN]
 repeat (with_reducible refine And.intro (by first | omega | exact Jm rfl | exact Qq | exact V9 rfl | exact Uh rfl rfl) ?_)
 first | refine PCallA.of (fun _ _ => Xr hy2) ?_ | refine PCall.of (Xr hy2) ?_
 simp only [push_cast, seval, ↓reduceIte, Za, hN0, hN]
 repeat (with_reducible refine And.intro (by first | omega | exact Jm rfl | exact Qq | exact V9 rfl | exact Uh rfl rfl) ?_)
 refine Zg [0, 2, 3, 5, 8, 11] [true, true, true] ?_
 simp only [push_cast, seval, ↓reduceIte]
 refine Zh ?_
 refine Zr [0, 2, 3, 5, 8, 11, 25] (Zb Zc [] ?_)
 simp only [push_cast, seval, ↓reduceIte, Za, hN0, hN]
 refine Zs (t := (a1.Kind == 0)) rfl (fun c27 => ?_) (fun c27 => ?_)
 ·replace h := Zw c27 h
  refine Zh ?_
  refine Zb Zc [] ?_
  simp only [push_cast, seval, ↓reduceIte, Za, hN0, hN]
  refine Zg [8, 9, 10] [false, true, false] ?_
  simp only [push_cast, seval, ↓reduceIte]
  refine Zt ?_
  try simp only [Zi, Zf]
  have h := Option.some.inj h; subst h
  refine Zl (.inr rfl) hU [.agg [.val (.int .i64 a1.Kind), .sl y2.length (fl (eI .u64) y2), .val (.slice none 0 0)], .val (.int .i64 a3), .val (.int .i64 0)] (by omega) ?_
  simp only [push_cast, seval, ↓reduceIte, Za, Try.results63, hN0, hN]
 replace h := Zv c27 h
 refine Zz ?_
 try simp only [Zi, Zf]
 refine Zg [0, 2, 3, 5, 8, 11] [true, true, true] ?_
 simp only [push_cast, seval, ↓reduceIte]
 refine Zh ?_
 refine Zr [0, 2, 3, 5, 8, 11, 43] (Zb Zc [none, none, none, none, none, none, none, none, none, none, none, none] ?_)
 simp only [push_cast, seval, ↓reduceIte, Za, hN0, hN]
 repeat (with_reducible refine And.intro (by first | (intro h0; simp only [h0, and_self]; done) | (intro h0; simp only [h0, Bool.not_false, Bool.not_true, Bool.true_and, Bool.and_true, true_and, and_true, and_self, imp_self, implies_true, bne_iff_ne, ne_eq, beq_iff_eq]; done) | (intros; simp_all; done) | exact True.intro) ?_)
 refine Zs (t := (cond (decide (a2 < 1)) true (cond (cond (a1.Kind == 9) (decide (0 < a1.Count)) false) (decide (a2 < 2)) false))) rfl (fun c26 => ?_) (fun c26 => ?_)
 ·replace h := Zw c26 h
  refine Zh ?_
  refine Zb Zc [] ?_
  simp only [push_cast, seval, ↓reduceIte, Za, hN0, hN]
  refine Zg [8, 9, 10] [false, true, false] ?_
  simp only [push_cast, seval, ↓reduceIte]
  refine Zt ?_
  try simp only [Zi, Zf]
  have h := Option.some.inj h; subst h
  refine Zl (.inr rfl) hU [.agg [.val (.int .i64 a1.Kind), .sl y2.length (fl (eI .u64) y2), .val (.slice none 0 0)], .val (.int .i64 a3), .val (.int .i64 3)] (by omega) ?_
  simp only [push_cast, seval, ↓reduceIte, Za, Try.results63, hN0, hN]
 replace h := Zv c26 h
 refine Zz ?_
 try simp only [Zi, Zf]
 refine Zg [0, 2, 3, 5, 8, 11] [true, true, true] ?_
 simp only [push_cast, seval, ↓reduceIte]
 refine Zh ?_
 obtain ⟨y4, hy4, h⟩ := bC h
 refine Zb Zc [] ?_
 simp only [push_cast, seval, ↓reduceIte, Za, hN0, hN]
 refine (Ky hy4).then ?_
 simp only [push_cast, seval, ↓reduceIte, Za, hN0, hN]
 refine Zg [0, 2, 3, 5, 8, 11, 12] [true, true, true] ?_
 simp only [push_cast, seval, ↓reduceIte]
 obtain ⟨z5, hz5, h⟩ := bC h
 refine Jk (E' := ⟨149, [], [(0, .sl a0.length (fl (eL (eI .u64)) a0)), (2, .val (.int .i64 a2)), (3, .val (.int .i64 a3)), (5, .ref n 0), (8, .ref (n + 1) 0), (11, .ref (n + 2) 0), (12, .val (.int .i64 z5))]⟩) (O' := (Z5 O n [some ⟨false, 33, 7, 1, (Zn a1)⟩, some ⟨false, 58, 3, 1, [.val (.int .i64 0), .val (.slice none 0 0), .val (.slice none 0 0)]⟩, some ⟨false, 58, 3, 1, [.val (.int .i64 a1.Kind), .sl y2.length (fl (eI .u64) y2), .val (.slice none 0 0)]⟩])) (n0 := (n + 3)) ?_ ?_
 ·refine Zr [0, 2, 3, 5, 8, 11, 12, 51] (Zb Zc [] ?_)
  simp only [push_cast, seval, ↓reduceIte, Za, hN0, hN]
  refine Zs (t := (a1.Kind == 1)) rfl (fun c6 => ?_) (fun c6 => ?_)
  ·replace hz5 := Zw c6 hz5
   refine Zb Zc [] ?_
   simp only [push_cast, seval, ↓reduceIte, Za, hN0, hN]
   have hz5 := Option.some.inj hz5; subst hz5
   refine And.intro rfl (Fit2.of (Zx hU rfl rfl ?_) (by omega))
   simp only [push_cast, seval, ↓reduceIte, Za, hN0, hN]
  replace hz5 := Zv c6 hz5
  refine Zz ?_
  try simp only [Zi, Zf]
  have hz5 := Option.some.inj hz5; subst hz5
  refine And.intro rfl (Fit2.of (Zx hU rfl rfl ?_) (by omega))
  simp only [push_cast, seval, ↓reduceIte, Za, hN0, hN]
 obtain ⟨z7, hz7, h⟩ := bC h
 refine Jk (E' := ⟨149, [], [(0, .sl a0.length (fl (eL (eI .u64)) a0)), (2, .val (.int .i64 a2)), (3, .val (.int .i64 a3)), (5, .ref n 0), (8, .ref (n + 1) 0), (11, .ref (n + 2) 0), (12, .val (.int .i64 z7))]⟩) (O' := (Z5 O n [some ⟨false, 33, 7, 1, (Zn a1)⟩, some ⟨false, 58, 3, 1, [.val (.int .i64 0), .val (.slice none 0 0), .val (.slice none 0 0)]⟩, some ⟨false, 58, 3, 1, [.val (.int .i64 a1.Kind), .sl y2.length (fl (eI .u64) y2), .val (.slice none 0 0)]⟩])) (n0 := (n + 3)) ?_ ?_
 ·refine Zr [0, 2, 3, 5, 8, 11, 12, 60] (Zb Zc [] ?_)
  simp only [push_cast, seval, ↓reduceIte, Za, hN0, hN]
  refine Zs (t := (a1.Kind == 9)) rfl (fun c8 => ?_) (fun c8 => ?_)
  ·replace hz7 := Zw c8 hz7
   refine Zb Zc [] ?_
   simp only [push_cast, seval, ↓reduceIte, Za, hN0, hN]
   have hz7 := Option.some.inj hz7; subst hz7
   refine And.intro rfl (Fit2.of (Zx hU rfl rfl ?_) (by omega))
   simp only [push_cast, seval, ↓reduceIte, Za, hN0, hN]
  replace hz7 := Zv c8 hz7
  refine Zz ?_
  try simp only [Zi, Zf]
  have hz7 := Option.some.inj hz7; subst hz7
  refine And.intro rfl (Fit2.of (Zx hU rfl rfl ?_) (by omega))
  simp only [push_cast, seval, ↓reduceIte, Za, hN0, hN]
 refine Zh ?_
 refine Zr [0, 2, 3, 5, 8, 11, 12, 73] (Zb Zc [] ?_)
 simp only [push_cast, seval, ↓reduceIte, Za, hN0, hN]
 refine Zs (t := (decide (a3 < z7))) rfl (fun c25 => ?_) (fun c25 => ?_)
 ·replace h := Zw c25 h
  refine Zh ?_
  refine Zb Zc [] ?_
  simp only [push_cast, seval, ↓reduceIte, Za, hN0, hN]
  refine Zg [8, 9, 10] [false, true, false] ?_
  simp only [push_cast, seval, ↓reduceIte]
  refine Zt ?_
  try simp only [Zi, Zf]
  have h := Option.some.inj h; subst h
  refine Zl (.inr rfl) hU [.agg [.val (.int .i64 a1.Kind), .sl y2.length (fl (eI .u64) y2), .val (.slice none 0 0)], .val (.int .i64 a3), .val (.int .i64 3)] (by omega) ?_
  simp only [push_cast, seval, ↓reduceIte, Za, Try.results63, hN0, hN]
 replace h := Zv c25 h
 refine Zz ?_
 try simp only [Zi, Zf]
 refine Zg [0, 2, 3, 5, 8, 11, 12] [true, true, true] ?_
 simp only [push_cast, seval, ↓reduceIte]
 refine Zr [0, 2, 3, 5, 8, 11] (Zb Zc [] ?_)
 simp only [push_cast, seval, ↓reduceIte, Za, hN0, hN]
 refine Zh ?_
 refine Zr [0, 2, 3, 5, 8, 11, 13] (Zb Zc [] ?_)
 simp only [push_cast, seval, ↓reduceIte, Za, hN0, hN]
 refine Zg [0, 2, 3, 5, 8, 11, 13] [true, true, true] ?_
 simp only [push_cast, seval, ↓reduceIte]
 refine Zrn (E' := (⟨149, [], [(0, .sl a0.length (fl (eL (eI .u64)) a0)), (2, .val (.int .i64 a2)), (3, .val (.int .i64 (IntKind.i64.wrap (a3 - z7)))), (5, .ref n 0), (8, .ref (n + 1) 0), (11, .ref (n + 2) 0), (13, .val (.int .i64 0))]⟩ : Env)) (O' := (Z5 O n [some ⟨false, 33, 7, 1, (Zn a1)⟩, some ⟨false, 58, 3, 1, [.val (.int .i64 0), .val (.slice none 0 0), .val (.slice none 0 0)]⟩, some ⟨false, 58, 3, 1, [.val (.int .i64 a1.Kind), .sl y2.length (fl (eI .u64) y2), .row (n + 3) ([] : List Zo).length]⟩, some ⟨true, 58, 3, ([] : List Zo).length, fl Zu ([] : List Zo)⟩, none])) (n' := (n + 5)) ?_ ?_
 ·refine Fit2.trans (E' := (⟨149, [], [(0, .sl a0.length (fl (eL (eI .u64)) a0)), (2, .val (.int .i64 a2)), (3, .val (.int .i64 (IntKind.i64.wrap (a3 - z7)))), (5, .ref n 0), (8, .ref (n + 1) 0), (11, .ref (n + 2) 0), (13, .val (.int .i64 0))]⟩ : Env)) (O' := (Z5 O n [some ⟨false, 33, 7, 1, (Zn a1)⟩, some ⟨false, 58, 3, 1, [.val (.int .i64 0), .val (.slice none 0 0), .val (.slice none 0 0)]⟩, some ⟨false, 58, 3, 1, [.val (.int .i64 a1.Kind), .sl y2.length (fl (eI .u64) y2), .val (.slice none 0 0)]⟩])) (n' := (n + 3)) (Fit2.of (Zx hU rfl rfl ?_) (by omega)) ?_
  ·simp only [push_cast, seval, ↓reduceIte, Za, hN0, hN]
  refine Fit2.trans (E' := (⟨149, [], [(0, .sl a0.length (fl (eL (eI .u64)) a0)), (2, .val (.int .i64 a2)), (3, .val (.int .i64 (IntKind.i64.wrap (a3 - z7)))), (5, .ref n 0), (8, .ref (n + 1) 0), (11, .ref (n + 2) 0), (13, .val (.int .i64 0))]⟩ : Env)) (O' := (Z5 O n [some ⟨false, 33, 7, 1, (Zn a1)⟩, some ⟨false, 58, 3, 1, [.val (.int .i64 0), .val (.slice none 0 0), .val (.slice none 0 0)]⟩, some ⟨false, 58, 3, 1, [.val (.int .i64 a1.Kind), .sl y2.length (fl (eI .u64) y2), .row (n + 3) 0]⟩, some ⟨true, 58, 3, 0, []⟩])) (n' := (n + 4)) ?_ ?_
  ·have ha := Zk9 (ba := n) (E := (⟨149, [], [(0, .sl a0.length (fl (eL (eI .u64)) a0)), (2, .val (.int .i64 a2)), (3, .val (.int .i64 (IntKind.i64.wrap (a3 - z7)))), (5, .ref n 0), (8, .ref (n + 1) 0), (11, .ref (n + 2) 0), (13, .val (.int .i64 0))]⟩ : Env)) (O := (Z5 O n [some ⟨false, 33, 7, 1, [.val (.int .i64 a1.Kind), .val (.int .i64 a1.S), .val (.int .i64 a1.At), .val (.int .i64 a1.Data), .val (.int .i64 a1.Ptrs), .val (.int .i64 a1.Count), .val (.int .u64 a1.N)]⟩, some ⟨false, 58, 3, 1, [.val (.int .i64 0), .val (.slice none 0 0), .val (.slice none 0 0)]⟩, some ⟨false, 58, 3, 1, [.val (.int .i64 a1.Kind), .sl y2.length (fl (eI .u64) y2), .val (.slice none 0 0)]⟩])) (n := (n + 3)) (p := (n + 2)) (k := 2) (q := ⟨false, 58, 3, 1, [.val (.int .i64 a1.Kind), .sl y2.length (fl (eI .u64) y2), .val (.slice none 0 0)]⟩) 58 3 (by simp only [Vj, Zdq, List.getElem?_cons_zero, List.getElem?_cons_succ, Option.join_some, Xc]) rfl (by omega)
   simp only [Gd, V8, Zca, Zaz, List.set_cons_zero, List.set_cons_succ, List.cons_append, List.nil_append, List.length_cons, List.length_nil, Nat.zero_add, Nat.reduceAdd, Nat.reduceLT, Nat.add_assoc] at ha
   exact ha
  refine Fit2.trans (E' := (⟨149, [], [(0, .sl a0.length (fl (eL (eI .u64)) a0)), (2, .val (.int .i64 a2)), (3, .val (.int .i64 (IntKind.i64.wrap (a3 - z7)))), (5, .ref n 0), (8, .ref (n + 1) 0), (11, .ref (n + 2) 0), (13, .val (.int .i64 0))]⟩ : Env)) (O' := (Z5 O n [some ⟨false, 33, 7, 1, (Zn a1)⟩, some ⟨false, 58, 3, 1, [.val (.int .i64 0), .val (.slice none 0 0), .val (.slice none 0 0)]⟩, some ⟨false, 58, 3, 1, [.val (.int .i64 a1.Kind), .sl y2.length (fl (eI .u64) y2), .row (n + 3) ([] : List Zo).length]⟩, some ⟨true, 58, 3, ([] : List Zo).length, fl Zu ([] : List Zo)⟩])) (n' := (n + 4)) (Fit2.of (Zx hU rfl rfl ?_) (by omega)) ?_
  ·simp only [push_cast, seval, ↓reduceIte, Za, hN0, hN]
  refine Zk4 (k := 4) (k' := 5) hU [0, 1, 2, 3] [0, 1, 2, 3, 0] rfl rfl rfl rfl ⟨rfl, rfl⟩ ?_
  simp only [push_cast, seval, ↓reduceIte, Za, hN0, hN]
 obtain ⟨z24, hz24, h⟩ := bC h
 refine Zn9 (J := (Zb6 (fun z24 => JR n (⟨149, [], [(8, .ref (n + 1) 0), (9, .val (.int .i64 z24.1)), (10, .val (.int .i64 z24.2.1))]⟩ : Env) (Z5 O n [none, some ⟨false, 58, 3, 1, [.val (.int .i64 a1.Kind), .sl y2.length (fl (eI .u64) y2), .sl z24.2.2.length (fl Zu z24.2.2)]⟩, none]) (n + 3)) (fun z24 => JX 0 n (⟨149, [], [(3, .val (.int .i64 z24.1)), (8, .ref (n + 1) 0), (11, .ref (n + 2) 0)]⟩ : Env) (Z5 O n [none, some ⟨false, 58, 3, 1, [.val (.int .i64 0), .val (.slice none 0 0), .val (.slice none 0 0)]⟩, some ⟨false, 58, 3, 1, [.val (.int .i64 a1.Kind), .sl y2.length (fl (eI .u64) y2), .row (n + 3) z24.2.length]⟩, some ⟨true, 58, 3, z24.2.length, fl Zu z24.2⟩, none]) (n + 5)))) (z := z24) ?_ fun hw => ?_
 ·refine Zaq hz24 (fun s0_ => ⟨149, [], [(0, .sl a0.length (fl (eL (eI .u64)) a0)), (2, .val (.int .i64 a2)), (3, .val (.int .i64 s0_.1)), (5, .ref n 0), (8, .ref (n + 1) 0), (11, .ref (n + 2) 0), (13, .val (.int .i64 s0_.2.1))]⟩) (fun s0_ => (Z5 O n [some ⟨false, 33, 7, 1, (Zn a1)⟩, some ⟨false, 58, 3, 1, [.val (.int .i64 0), .val (.slice none 0 0), .val (.slice none 0 0)]⟩, some ⟨false, 58, 3, 1, [.val (.int .i64 a1.Kind), .sl y2.length (fl (eI .u64) y2), .row (n + 3) s0_.2.2.length]⟩, some ⟨true, 58, 3, s0_.2.2.length, fl Zu s0_.2.2⟩, none])) (Zb6 (fun z24 => JR n (⟨149, [], [(8, .ref (n + 1) 0), (9, .val (.int .i64 z24.1)), (10, .val (.int .i64 z24.2.1))]⟩ : Env) (Z5 O n [none, some ⟨false, 58, 3, 1, [.val (.int .i64 a1.Kind), .sl y2.length (fl (eI .u64) y2), .sl z24.2.2.length (fl Zu z24.2.2)]⟩, none]) (n + 3)) (fun z24 => JX 0 n (⟨149, [], [(3, .val (.int .i64 z24.1)), (8, .ref (n + 1) 0), (11, .ref (n + 2) 0)]⟩ : Env) (Z5 O n [none, some ⟨false, 58, 3, 1, [.val (.int .i64 0), .val (.slice none 0 0), .val (.slice none 0 0)]⟩, some ⟨false, 58, 3, 1, [.val (.int .i64 a1.Kind), .sl y2.length (fl (eI .u64) y2), .row (n + 3) z24.2.length]⟩, some ⟨true, 58, 3, z24.2.length, fl Zu z24.2⟩, none]) (n + 5))) ?_
  intro s0_ x0_ hs0_
  unfold Xk at hs0_
  try dsimp only
  refine Zh ?_
  refine Zh ?_
  obtain ⟨y10, hy10, hs0_⟩ := bC hs0_
  refine Zb Zc [] ?_
  simp only [push_cast, seval, ↓reduceIte, Za, hN0, hN]
  refine (Ky hy10).then ?_
  simp only [push_cast, seval, ↓reduceIte, Za, hN0, hN]
  refine Zg [0, 2, 3, 5, 8, 11, 13, 82] [true, true, true, true, false] ?_
  simp only [push_cast, seval, ↓reduceIte]
  refine Zs (t := (decide (s0_.2.1 < y10))) rfl (fun c23 => ?_) (fun c23 => ?_)
  ·replace hs0_ := Zw c23 hs0_
   refine Zz ?_
   try simp only [Zi, Zf]
   refine Zg [0, 2, 3, 5, 8, 11, 13] [true, true, true, true, false] ?_
   simp only [push_cast, seval, ↓reduceIte]
   refine Zh ?_
   refine Xu ?_
   refine Zh ?_
   obtain ⟨y12, hy12, hs0_⟩ := bC hs0_
   refine Zb Zc [] ?_
   simp only [push_cast, seval, ↓reduceIte, Za, hN0, hN]
   refine (Uz hy12).then ?_
   simp only [push_cast, seval, ↓reduceIte, Za, hN0, hN]
   refine Zg [0, 2, 3, 5, 8, 11, 13, 14, 15] [true, true, true, true, false, true] ?_
   simp only [push_cast, seval, ↓reduceIte]
   refine Zh ?_
   refine Zr [0, 2, 3, 5, 8, 11, 13, 14, 15, 93] (Zb Zc [] ?_)
   simp only [push_cast, seval, ↓reduceIte, Za, hN0, hN]
   refine Zs (t := (y12.2 != 0)) rfl (fun c22 => ?_) (fun c22 => ?_)
   ·replace hs0_ := Zw c22 hs0_
    refine Zh ?_
    refine Zb Zc [] ?_
    simp only [push_cast, seval, ↓reduceIte, Za, hN0, hN]
    refine Zg [8, 9, 10] [false, true, false, true, false, false] ?_
    simp only [push_cast, seval, ↓reduceIte]
    refine Zt ?_
    try simp only [Zi, Zf]
    have hs0_ := Option.some.inj hs0_; subst hs0_
    refine And.intro (fun h => by cases h) (And.intro rfl (Fit2.of (Zx hU rfl rfl ?_) (by omega)))
    simp only [push_cast, seval, ↓reduceIte, Za, hN0, hN]
   replace hs0_ := Zv c22 hs0_
   refine Zz ?_
   try simp only [Zi, Zf]
   refine Zg [0, 2, 3, 5, 8, 11, 13, 14, 15] [true, true, true, true, false, true] ?_
   simp only [push_cast, seval, ↓reduceIte]
   refine Zh ?_
   obtain ⟨y14, hy14, hs0_⟩ := bC hs0_
   refine Zgd Zc (by kernel_rfl) [.low, .low, .low, .low, .low, .low, .pass, .bar] (fun i => i < (n + 6)) [0, 1, 2, 3, 4, 5, 6, 7] [.low, .low, .low, .low, .low, .low, .pass, .bar] [] (by kernel_rfl) rfl ?_
   simp only [push_cast, seval, ↓reduceIte, Za, hN0, hN]
   repeat (with_reducible refine And.intro (by first | omega | exact Jm rfl | exact Qq | exact V9 rfl | exact Uh rfl rfl) ?_)
   first | refine PCallA.of (fun _ _ => Xr hy14) ?_ | refine PCall.of (Xr hy14) ?_
   simp only [push_cast, seval, ↓reduceIte, Za, hN0, hN]
   repeat (with_reducible refine And.intro (by first | omega | exact Jm rfl | exact Qq | exact V9 rfl | exact Uh rfl rfl) ?_)
   refine Zg [0, 2, 3, 5, 8, 11, 13, 14, 15, 16] [true, true, true, true, false, true, true] ?_
   simp only [push_cast, seval, ↓reduceIte]
   obtain ⟨z15, hz15, hs0_⟩ := bC hs0_
   refine Jk (E' := ⟨149, [], [(0, .sl a0.length (fl (eL (eI .u64)) a0)), (2, .val (.int .i64 a2)), (3, .val (.int .i64 z15.1)), (5, .ref n 0), (8, .ref (n + 1) 0), (11, .ref (n + 2) 0), (13, .val (.int .i64 s0_.2.1)), (15, .val (.int .i64 z15.2.1)), (16, .ref (n + 6) 0)]⟩) (O' := (Z5 O n [some ⟨false, 33, 7, 1, (Zn a1)⟩, some ⟨false, 58, 3, 1, [.val (.int .i64 0), .val (.slice none 0 0), .val (.slice none 0 0)]⟩, some ⟨false, 58, 3, 1, [.val (.int .i64 a1.Kind), .sl y2.length (fl (eI .u64) y2), .row (n + 3) s0_.2.2.length]⟩, some ⟨true, 58, 3, s0_.2.2.length, fl Zu s0_.2.2⟩, none, none, some ⟨false, 58, 3, 1, [.val (.int .i64 z15.2.2.1), .sl z15.2.2.2.1.length (fl (eI .u64) z15.2.2.2.1), .sl z15.2.2.2.2.length (fl Zu z15.2.2.2.2)]⟩])) (n0 := (n + 7)) ?_ ?_
   ·refine Xu ?_
    refine Zr [0, 2, 3, 5, 8, 11, 13, 14, 15, 16, 103] (Zb Zc [] ?_)
    simp only [push_cast, seval, ↓reduceIte, Za, hN0, hN]
    refine Zs (t := (a1.Kind == 9)) rfl (fun c19 => ?_) (fun c19 => ?_)
    ·replace hz15 := Zw c19 hz15
     obtain ⟨y16, hy16, hz15⟩ := bC hz15
     refine Zb Zc [] ?_
     simp only [push_cast, seval, ↓reduceIte, Za, hN0, hN]
     refine (Gw hy16).then ?_
     simp only [push_cast, seval, ↓reduceIte, Za, hN0, hN]
     have hz15 := Option.some.inj hz15; subst hz15
     refine And.intro rfl (Fit2.of (Zx hU rfl rfl ?_) (by omega))
     simp only [push_cast, seval, ↓reduceIte, Za, hN0, hN]
    replace hz15 := Zv c19 hz15
    refine Zr [0, 2, 3, 5, 8, 11, 13, 14, 15, 16, 117] (Zb Zc [none, none, none] ?_)
    simp only [push_cast, seval, ↓reduceIte, Za, hN0, hN]
    repeat (with_reducible refine And.intro (by first | (intro h0; simp only [h0, and_self]; done) | (intro h0; simp only [h0, Bool.not_false, Bool.not_true, Bool.true_and, Bool.and_true, true_and, and_true, and_self, imp_self, implies_true, bne_iff_ne, ne_eq, beq_iff_eq]; done) | (intros; simp_all; done) | exact True.intro) ?_)
    refine Zs (t := (cond (a1.Kind == 1) true (a1.Kind == 8))) rfl (fun c18 => ?_) (fun c18 => ?_)
    ·replace hz15 := Zw c18 hz15
     obtain ⟨y17, hy17, hz15⟩ := bC hz15
     refine Zb Zc [] ?_
     simp only [push_cast, seval, ↓reduceIte, Za, hN0, hN]
     refine (Kf hy17).then ?_
     simp only [push_cast, seval, ↓reduceIte, Za, hN0, hN]
     have hz15 := Option.some.inj hz15; subst hz15
     refine And.intro rfl (Fit2.of (Zx hU rfl rfl ?_) (by omega))
     simp only [push_cast, seval, ↓reduceIte, Za, hN0, hN]
    replace hz15 := Zv c18 hz15
    refine Zz ?_
    try simp only [Zi, Zf]
    have hz15 := Option.some.inj hz15; subst hz15
    refine And.intro rfl (Fit2.of (Zx hU rfl rfl ?_) (by omega))
    simp only [push_cast, seval, ↓reduceIte, Za, hN0, hN]
   refine Zh ?_
   refine Zr [0, 2, 3, 5, 8, 11, 13, 15, 16, 137] (Zb Zc [] ?_)
   simp only [push_cast, seval, ↓reduceIte, Za, hN0, hN]
   refine Zs (t := (z15.2.1 != 0)) rfl (fun c21 => ?_) (fun c21 => ?_)
   ·replace hs0_ := Zw c21 hs0_
    refine Zh ?_
    refine Zb Zc [] ?_
    simp only [push_cast, seval, ↓reduceIte, Za, hN0, hN]
    refine Zg [8, 9, 10] [false, true, false, true, false, false, false] ?_
    simp only [push_cast, seval, ↓reduceIte]
    refine Zt ?_
    try simp only [Zi, Zf]
    have hs0_ := Option.some.inj hs0_; subst hs0_
    refine And.intro (fun h => by cases h) (And.intro rfl (Fit2.of (Zx hU rfl rfl ?_) (by omega)))
    simp only [push_cast, seval, ↓reduceIte, Za, hN0, hN]
   replace hs0_ := Zv c21 hs0_
   refine Zz ?_
   try simp only [Zi, Zf]
   refine Zg [0, 2, 3, 5, 8, 11, 13, 16] [true, true, true, true, false, false, true] ?_
   simp only [push_cast, seval, ↓reduceIte]
   obtain ⟨l20, pl20, ql20, el20, hs0_⟩ := bA (k := 1) rfl hs0_
   refine Zb Zc [] ?_
   simp only [push_cast, seval, ↓reduceIte, Za, pl20, ql20, el20, hN0, hN]
   refine Zo8 ⟨149, [], [(0, .sl a0.length (fl (eL (eI .u64)) a0)), (2, .val (.int .i64 a2)), (3, .val (.int .i64 z15.1)), (5, .ref n 0), (8, .ref (n + 1) 0), (11, .ref (n + 2) 0), (13, .val (.int .i64 s0_.2.1))]⟩ (Z5 O n [some ⟨false, 33, 7, 1, (Zn a1)⟩, some ⟨false, 58, 3, 1, [.val (.int .i64 0), .val (.slice none 0 0), .val (.slice none 0 0)]⟩, some ⟨false, 58, 3, 1, [.val (.int .i64 a1.Kind), .sl y2.length (fl (eI .u64) y2), .row (n + 3) l20.length]⟩, some ⟨true, 58, 3, l20.length, fl Zu l20⟩, none, none, none, none]) (Zx hU rfl rfl ?_) ?_
   ·simp only [push_cast, seval, ↓reduceIte, Za, pl20, ql20, el20, hN0, hN]
   refine Zb Zc [] ?_
   simp only [push_cast, seval, ↓reduceIte, Za, hN0, hN]
   have hs0_ := Option.some.inj hs0_; subst hs0_
   refine And.intro rfl (Fit2.of (Zx hU rfl rfl ?_) (by omega))
   simp only [push_cast, seval, ↓reduceIte, Za, hN0, hN]
  replace hs0_ := Zv c23 hs0_
  refine Zdr ?_
  try simp only [Zi, Zf, ↓reduceIte, Nat.reduceEqDiff]
  have hs0_ := Option.some.inj hs0_; subst hs0_
  refine And.intro (fun h => by cases h) (And.intro rfl (Fit2.of (Zx hU rfl rfl ?_) (by omega)))
  simp only [push_cast, seval, ↓reduceIte, Za, hN0, hN]
 rcases z24 with z24 | z24
 ·dsimp only [Zb6] at hw h
  refine Zhc hw ?_
  try simp only [Zi, Zf, ↓reduceIte, Nat.reduceEqDiff]
  have h := Option.some.inj h; subst h
  refine Zl (.inr rfl) hU [.agg [.val (.int .i64 a1.Kind), .sl y2.length (fl (eI .u64) y2), .sl z24.2.2.length (fl Zu z24.2.2)], .val (.int .i64 z24.1), .val (.int .i64 z24.2.1)] (by omega) ?_
  simp only [push_cast, seval, ↓reduceIte, Za, Try.results63, hN0, hN]
 dsimp only [Zb6] at hw h
 refine Ug hw ?_
 try simp only [Zi, Zf, ↓reduceIte, Nat.reduceEqDiff]
 refine Zg [3, 8, 11] [false, true, true, true, false] ?_
 simp only [push_cast, seval, ↓reduceIte]
 refine Zh ?_
 refine Zb Zc [] ?_
 simp only [push_cast, seval, ↓reduceIte, Za, hN0, hN]
 refine Zg [8, 9, 10] [false, true, false, true, false] ?_
 simp only [push_cast, seval, ↓reduceIte]
 refine Zt ?_
 try simp only [Zi, Zf]
 have h := Option.some.inj h; subst h
 refine Zl (.inr rfl) hU [.agg [.val (.int .i64 a1.Kind), .sl y2.length (fl (eI .u64) y2), .row (n + 3) z24.2.length], .val (.int .i64 z24.1), .val (.int .i64 0)] (by omega) ?_
 simp only [push_cast, seval, ↓reduceIte, Za, Try.results63, hN0, hN]
theorem Zgw {Yg : ((List (List Int)) → Zm → Int → Int → Option (Zo × Int × Int))} {Yt : ((List (List Int)) → Zm → Int → Int → Option (Zo × Int × Int))} (Kf : ∀ {a0 : (List (List Int))} {a1 : Zm} {a2 : Int} {a3 : Int} {r : (Zo × Int × Int)} {O : Objs} {n : Nat}, Yg a0 a1 a2 a3 = some r → GTo Try.prog 63 [.sl a0.length (fl (eL (eI .u64)) a0), .agg (Zn a1), .val (.int .i64 a2), .val (.int .i64 a3)] O n (.tup [.agg (Yq r.1), .val (.int .i64 r.2.1), .val (.int .i64 r.2.2)]) O n) (Gw : ∀ {a0 : (List (List Int))} {a1 : Zm} {a2 : Int} {a3 : Int} {r : (Zo × Int × Int)} {O : Objs} {n : Nat}, Yt a0 a1 a2 a3 = some r → GTo Try.prog 87 [.sl a0.length (fl (eL (eI .u64)) a0), .agg (Zn a1), .val (.int .i64 a2), .val (.int .i64 a3)] O n (.tup [.agg (Yq r.1), .val (.int .i64 r.2.1), .val (.int .i64 r.2.2)]) O n) {a0 : (List (List Int))} {a1 : Zm} {a2 : Int} {a3 : Int} {r : (Zo × Int × Int)} {O : Objs} {n : Nat} (h : Qo Yg Yt a0 a1 a2 a3 = some r) : GTo Try.prog 87 [.sl a0.length (fl (eL (eI .u64)) a0), .agg (Zn a1), .val (.int .i64 a2), .val (.int .i64 a3)] O n (.tup [.agg (Yq r.1), .val (.int .i64 r.2.1), .val (.int .i64 r.2.2)]) O n := by
 unfold Qo at h
 refine Yp Zc Try.call87 Try.func87 rfl (Nat.le_of_ble_eq_true rfl) (Nat.le_refl _) fun hU => ?_
 have hN0 : O n = none := hU.fresh _ (Nat.le_refl _)
 have hN : ∀ k, O (n + k) = none := fun k => hU.fresh _ (Nat.le_add_right _ _)
 show W _ _ _ _ ⟨63, [], [(0, .sl a0.length (fl (eL (eI .u64)) a0)), (1, .agg (Zn a1)), (2, .val (.int .i64 a2)), (3, .val (.int .i64 a3))]⟩ (Z5 O n []) _
 refine Zr [0, 2, 3, 5, 8] (Zb Zc [] ?_)
 simp only [push_cast, seval, ↓reduceIte, Za, hN0, hN]
 refine Zh ?_
 obtain ⟨y2, hy2, h⟩ := bC h
 refine Zb Zc [] ?_
 simp only [push_cast, seval, ↓reduceIte, Za, hN0, hN]
 refine (Xr hy2).then ?_
 simp only [push_cast, seval, ↓reduceIte, Za, hN0, hN]
 refine Zg [0, 2, 3, 5, 8, 11] [true, true, true] ?_
 simp only [push_cast, seval, ↓reduceIte]
 refine Zh ?_
 refine Zr [0, 2, 3, 5, 8, 11, 12] (Zb Zc [] ?_)
 simp only [push_cast, seval, ↓reduceIte, Za, hN0, hN]
 refine Zg [0, 2, 3, 5, 8, 11, 12] [true, true, true] ?_
 simp only [push_cast, seval, ↓reduceIte]
 refine Zrn (E' := (⟨63, [], [(0, .sl a0.length (fl (eL (eI .u64)) a0)), (2, .val (.int .i64 a2)), (3, .val (.int .i64 a3)), (5, .ref n 0), (8, .ref (n + 1) 0), (11, .ref (n + 2) 0), (12, .val (.int .i64 0))]⟩ : Env)) (O' := (Z5 O n [some ⟨false, 33, 7, 1, (Zn a1)⟩, some ⟨false, 58, 3, 1, [.val (.int .i64 0), .val (.slice none 0 0), .val (.slice none 0 0)]⟩, some ⟨false, 58, 3, 1, [.val (.int .i64 1), .sl y2.length (fl (eI .u64) y2), .row (n + 3) ([] : List Zo).length]⟩, some ⟨true, 58, 3, ([] : List Zo).length, fl Zu ([] : List Zo)⟩, none])) (n' := (n + 5)) ?_ ?_
 ·refine Fit2.trans (E' := (⟨63, [], [(0, .sl a0.length (fl (eL (eI .u64)) a0)), (2, .val (.int .i64 a2)), (3, .val (.int .i64 a3)), (5, .ref n 0), (8, .ref (n + 1) 0), (11, .ref (n + 2) 0), (12, .val (.int .i64 0))]⟩ : Env)) (O' := (Z5 O n [some ⟨false, 33, 7, 1, (Zn a1)⟩, some ⟨false, 58, 3, 1, [.val (.int .i64 0), .val (.slice none 0 0), .val (.slice none 0 0)]⟩, some ⟨false, 58, 3, 1, [.val (.int .i64 1), .sl y2.length (fl (eI .u64) y2), .val (.slice none 0 0)]⟩])) (n' := (n + 3)) (Fit2.of (Zx hU rfl rfl ?_) (by omega)) ?_
  ·simp only [push_cast, seval, ↓reduceIte, Za, hN0, hN]
  refine Fit2.trans (E' := (⟨63, [], [(0, .sl a0.length (fl (eL (eI .u64)) a0)), (2, .val (.int .i64 a2)), (3, .val (.int .i64 a3)), (5, .ref n 0), (8, .ref (n + 1) 0), (11, .ref (n + 2) 0), (12, .val (.int .i64 0))]⟩ : Env)) (O' := (Z5 O n [some ⟨false, 33, 7, 1, (Zn a1)⟩, some ⟨false, 58, 3, 1, [.val (.int .i64 0), .val (.slice none 0 0), .val (.slice none 0 0)]⟩, some ⟨false, 58, 3, 1, [.val (.int .i64 1), .sl y2.length (fl (eI .u64) y2), .row (n + 3) 0]⟩, some ⟨true, 58, 3, 0, []⟩])) (n' := (n + 4)) ?_ ?_
  ·have ha := Zk9 (ba := n) (E := (⟨63, [], [(0, .sl a0.length (fl (eL (eI .u64)) a0)), (2, .val (.int .i64 a2)), (3, .val (.int .i64 a3)), (5, .ref n 0), (8, .ref (n + 1) 0), (11, .ref (n + 2) 0), (12, .val (.int .i64 0))]⟩ : Env)) (O := (Z5 O n [some ⟨false, 33, 7, 1, [.val (.int .i64 a1.Kind), .val (.int .i64 a1.S), .val (.int .i64 a1.At), .val (.int .i64 a1.Data), .val (.int .i64 a1.Ptrs), .val (.int .i64 a1.Count), .val (.int .u64 a1.N)]⟩, some ⟨false, 58, 3, 1, [.val (.int .i64 0), .val (.slice none 0 0), .val (.slice none 0 0)]⟩, some ⟨false, 58, 3, 1, [.val (.int .i64 1), .sl y2.length (fl (eI .u64) y2), .val (.slice none 0 0)]⟩])) (n := (n + 3)) (p := (n + 2)) (k := 2) (q := ⟨false, 58, 3, 1, [.val (.int .i64 1), .sl y2.length (fl (eI .u64) y2), .val (.slice none 0 0)]⟩) 58 3 (by simp only [Vj, Zdq, List.getElem?_cons_zero, List.getElem?_cons_succ, Option.join_some, Xc]) rfl (by omega)
   simp only [Gd, V8, Zca, Zaz, List.set_cons_zero, List.set_cons_succ, List.cons_append, List.nil_append, List.length_cons, List.length_nil, Nat.zero_add, Nat.reduceAdd, Nat.reduceLT, Nat.add_assoc] at ha
   exact ha
  refine Fit2.trans (E' := (⟨63, [], [(0, .sl a0.length (fl (eL (eI .u64)) a0)), (2, .val (.int .i64 a2)), (3, .val (.int .i64 a3)), (5, .ref n 0), (8, .ref (n + 1) 0), (11, .ref (n + 2) 0), (12, .val (.int .i64 0))]⟩ : Env)) (O' := (Z5 O n [some ⟨false, 33, 7, 1, (Zn a1)⟩, some ⟨false, 58, 3, 1, [.val (.int .i64 0), .val (.slice none 0 0), .val (.slice none 0 0)]⟩, some ⟨false, 58, 3, 1, [.val (.int .i64 1), .sl y2.length (fl (eI .u64) y2), .row (n + 3) ([] : List Zo).length]⟩, some ⟨true, 58, 3, ([] : List Zo).length, fl Zu ([] : List Zo)⟩])) (n' := (n + 4)) (Fit2.of (Zx hU rfl rfl ?_) (by omega)) ?_
  ·simp only [push_cast, seval, ↓reduceIte, Za, hN0, hN]
  refine Zk4 (k := 4) (k' := 5) hU [0, 1, 2, 3] [0, 1, 2, 3, 0] rfl rfl rfl rfl ⟨rfl, rfl⟩ ?_
  simp only [push_cast, seval, ↓reduceIte, Za, hN0, hN]
 obtain ⟨z11, hz11, h⟩ := bC h
 refine Zn9 (J := (Zb6 (fun z11 => JR n (⟨63, [], [(8, .ref (n + 1) 0), (9, .val (.int .i64 z11.1)), (10, .val (.int .i64 z11.2.1))]⟩ : Env) (Z5 O n [none, some ⟨false, 58, 3, 1, [.val (.int .i64 1), .sl y2.length (fl (eI .u64) y2), .sl z11.2.2.length (fl Zu z11.2.2)]⟩, none]) (n + 3)) (fun z11 => JX 0 n (⟨63, [], [(3, .val (.int .i64 z11.1)), (8, .ref (n + 1) 0), (11, .ref (n + 2) 0)]⟩ : Env) (Z5 O n [none, some ⟨false, 58, 3, 1, [.val (.int .i64 0), .val (.slice none 0 0), .val (.slice none 0 0)]⟩, some ⟨false, 58, 3, 1, [.val (.int .i64 1), .sl y2.length (fl (eI .u64) y2), .row (n + 3) z11.2.length]⟩, some ⟨true, 58, 3, z11.2.length, fl Zu z11.2⟩, none]) (n + 5)))) (z := z11) ?_ fun hw => ?_
 ·refine Zaq hz11 (fun s0_ => ⟨63, [], [(0, .sl a0.length (fl (eL (eI .u64)) a0)), (2, .val (.int .i64 a2)), (3, .val (.int .i64 s0_.1)), (5, .ref n 0), (8, .ref (n + 1) 0), (11, .ref (n + 2) 0), (12, .val (.int .i64 s0_.2.1))]⟩) (fun s0_ => (Z5 O n [some ⟨false, 33, 7, 1, (Zn a1)⟩, some ⟨false, 58, 3, 1, [.val (.int .i64 0), .val (.slice none 0 0), .val (.slice none 0 0)]⟩, some ⟨false, 58, 3, 1, [.val (.int .i64 1), .sl y2.length (fl (eI .u64) y2), .row (n + 3) s0_.2.2.length]⟩, some ⟨true, 58, 3, s0_.2.2.length, fl Zu s0_.2.2⟩, none])) (Zb6 (fun z11 => JR n (⟨63, [], [(8, .ref (n + 1) 0), (9, .val (.int .i64 z11.1)), (10, .val (.int .i64 z11.2.1))]⟩ : Env) (Z5 O n [none, some ⟨false, 58, 3, 1, [.val (.int .i64 1), .sl y2.length (fl (eI .u64) y2), .sl z11.2.2.length (fl Zu z11.2.2)]⟩, none]) (n + 3)) (fun z11 => JX 0 n (⟨63, [], [(3, .val (.int .i64 z11.1)), (8, .ref (n + 1) 0), (11, .ref (n + 2) 0)]⟩ : Env) (Z5 O n [none, some ⟨false, 58, 3, 1, [.val (.int .i64 0), .val (.slice none 0 0), .val (.slice none 0 0)]⟩, some ⟨false, 58, 3, 1, [.val (.int .i64 1), .sl y2.length (fl (eI .u64) y2), .row (n + 3) z11.2.length]⟩, some ⟨true, 58, 3, z11.2.length, fl Zu z11.2⟩, none]) (n + 5))) ?_
  intro s0_ x0_ hs0_
  unfold Qj at hs0_
  try dsimp only
  refine Zh ?_
  refine Zr [0, 2, 3, 5, 8, 11, 12, 25] (Zb Zc [] ?_)
  simp only [push_cast, seval, ↓reduceIte, Za, hN0, hN]
  refine Zs (t := (decide (s0_.2.1 < a1.Ptrs))) rfl (fun c10 => ?_) (fun c10 => ?_)
  ·replace hs0_ := Zw c10 hs0_
   refine Zz ?_
   try simp only [Zi, Zf]
   refine Zg [0, 2, 3, 5, 8, 11, 12] [true, true, true, true, false] ?_
   simp only [push_cast, seval, ↓reduceIte]
   refine Zh ?_
   refine Xu ?_
   refine Zh ?_
   obtain ⟨y4, hy4, hs0_⟩ := bC hs0_
   refine Zb Zc [] ?_
   simp only [push_cast, seval, ↓reduceIte, Za, hN0, hN]
   refine (Uz hy4).then ?_
   simp only [push_cast, seval, ↓reduceIte, Za, hN0, hN]
   refine Zg [0, 2, 3, 5, 8, 11, 12, 13, 14] [true, true, true, true, false, true] ?_
   simp only [push_cast, seval, ↓reduceIte]
   refine Zh ?_
   refine Zr [0, 2, 3, 5, 8, 11, 12, 13, 14, 36] (Zb Zc [] ?_)
   simp only [push_cast, seval, ↓reduceIte, Za, hN0, hN]
   refine Zs (t := (y4.2 != 0)) rfl (fun c9 => ?_) (fun c9 => ?_)
   ·replace hs0_ := Zw c9 hs0_
    refine Zh ?_
    refine Zb Zc [] ?_
    simp only [push_cast, seval, ↓reduceIte, Za, hN0, hN]
    refine Zg [8, 9, 10] [false, true, false, true, false, false] ?_
    simp only [push_cast, seval, ↓reduceIte]
    refine Zt ?_
    try simp only [Zi, Zf]
    have hs0_ := Option.some.inj hs0_; subst hs0_
    refine And.intro (fun h => by cases h) (And.intro rfl (Fit2.of (Zx hU rfl rfl ?_) (by omega)))
    simp only [push_cast, seval, ↓reduceIte, Za, hN0, hN]
   replace hs0_ := Zv c9 hs0_
   refine Zz ?_
   try simp only [Zi, Zf]
   refine Zg [0, 2, 3, 5, 8, 11, 12, 13] [true, true, true, true, false, true] ?_
   simp only [push_cast, seval, ↓reduceIte]
   refine Zh ?_
   obtain ⟨y6, hy6, hs0_⟩ := bC hs0_
   refine Zb Zc [] ?_
   simp only [push_cast, seval, ↓reduceIte, Za, hN0, hN]
   refine (Kf hy6).then ?_
   simp only [push_cast, seval, ↓reduceIte, Za, hN0, hN]
   refine Zg [0, 2, 5, 8, 11, 12, 15, 16, 17] [true, true, true, true, false, false, true] ?_
   simp only [push_cast, seval, ↓reduceIte]
   refine Zh ?_
   refine Zr [0, 2, 5, 8, 11, 12, 15, 16, 17, 50] (Zb Zc [] ?_)
   simp only [push_cast, seval, ↓reduceIte, Za, hN0, hN]
   refine Zs (t := (y6.2.2 != 0)) rfl (fun c8 => ?_) (fun c8 => ?_)
   ·replace hs0_ := Zw c8 hs0_
    refine Zh ?_
    refine Zb Zc [] ?_
    simp only [push_cast, seval, ↓reduceIte, Za, hN0, hN]
    refine Zg [8, 9, 10] [false, true, false, true, false, false, false] ?_
    simp only [push_cast, seval, ↓reduceIte]
    refine Zt ?_
    try simp only [Zi, Zf]
    have hs0_ := Option.some.inj hs0_; subst hs0_
    refine And.intro (fun h => by cases h) (And.intro rfl (Fit2.of (Zx hU rfl rfl ?_) (by omega)))
    simp only [push_cast, seval, ↓reduceIte, Za, hN0, hN]
   replace hs0_ := Zv c8 hs0_
   refine Zz ?_
   try simp only [Zi, Zf]
   refine Zg [0, 2, 5, 8, 11, 12, 15, 16] [true, true, true, true, false, false, true] ?_
   simp only [push_cast, seval, ↓reduceIte]
   refine Zr [0, 2, 3, 5, 8, 11, 12, 15] (Zb Zc [] ?_)
   simp only [push_cast, seval, ↓reduceIte, Za, hN0, hN]
   obtain ⟨l7, pl7, ql7, el7, hs0_⟩ := bA (k := 1) rfl hs0_
   refine Zb Zc [] ?_
   simp only [push_cast, seval, ↓reduceIte, Za, pl7, ql7, el7, hN0, hN]
   refine Zo8 ⟨63, [], [(0, .sl a0.length (fl (eL (eI .u64)) a0)), (2, .val (.int .i64 a2)), (3, .val (.int .i64 y6.2.1)), (5, .ref n 0), (8, .ref (n + 1) 0), (11, .ref (n + 2) 0), (12, .val (.int .i64 s0_.2.1))]⟩ (Z5 O n [some ⟨false, 33, 7, 1, (Zn a1)⟩, some ⟨false, 58, 3, 1, [.val (.int .i64 0), .val (.slice none 0 0), .val (.slice none 0 0)]⟩, some ⟨false, 58, 3, 1, [.val (.int .i64 1), .sl y2.length (fl (eI .u64) y2), .row (n + 3) l7.length]⟩, some ⟨true, 58, 3, l7.length, fl Zu l7⟩, none, none, none, none]) (Zx hU rfl rfl ?_) ?_
   ·simp only [push_cast, seval, ↓reduceIte, Za, pl7, ql7, el7, hN0, hN]
   refine Zb Zc [] ?_
   simp only [push_cast, seval, ↓reduceIte, Za, hN0, hN]
   have hs0_ := Option.some.inj hs0_; subst hs0_
   refine And.intro rfl (Fit2.of (Zx hU rfl rfl ?_) (by omega))
   simp only [push_cast, seval, ↓reduceIte, Za, hN0, hN]
  replace hs0_ := Zv c10 hs0_
  refine Zdr ?_
  try simp only [Zi, Zf, ↓reduceIte, Nat.reduceEqDiff]
  have hs0_ := Option.some.inj hs0_; subst hs0_
  refine And.intro (fun h => by cases h) (And.intro rfl (Fit2.of (Zx hU rfl rfl ?_) (by omega)))
  simp only [push_cast, seval, ↓reduceIte, Za, hN0, hN]
 rcases z11 with z11 | z11
 ·dsimp only [Zb6] at hw h
  refine Zhc hw ?_
  try simp only [Zi, Zf, ↓reduceIte, Nat.reduceEqDiff]
  have h := Option.some.inj h; subst h
  refine Zl (.inr rfl) hU [.agg [.val (.int .i64 1), .sl y2.length (fl (eI .u64) y2), .sl z11.2.2.length (fl Zu z11.2.2)], .val (.int .i64 z11.1), .val (.int .i64 z11.2.1)] (by omega) ?_
  simp only [push_cast, seval, ↓reduceIte, Za, Try.results87, hN0, hN]
 dsimp only [Zb6] at hw h
 refine Ug hw ?_
 try simp only [Zi, Zf, ↓reduceIte, Nat.reduceEqDiff]
 refine Zg [3, 8, 11] [false, true, true, true, false] ?_
 simp only [push_cast, seval, ↓reduceIte]
 refine Zh ?_
 refine Zb Zc [] ?_
 simp only [push_cast, seval, ↓reduceIte, Za, hN0, hN]
 refine Zg [8, 9, 10] [false, true, false, true, false] ?_
 simp only [push_cast, seval, ↓reduceIte]
 refine Zt ?_
 try simp only [Zi, Zf]
 have h := Option.some.inj h; subst h
 refine Zl (.inr rfl) hU [.agg [.val (.int .i64 1), .sl y2.length (fl (eI .u64) y2), .row (n + 3) z11.2.length], .val (.int .i64 z11.1), .val (.int .i64 0)] (by omega) ?_
 simp only [push_cast, seval, ↓reduceIte, Za, Try.results87, hN0, hN]
theorem Zcn : ∀ k, (∀ {a0 : (List (List Int))} {a1 : Zm} {a2 : Int} {a3 : Int} {r : (Zo × Int × Int)} {O : Objs} {n : Nat}, (Yd k).1 a0 a1 a2 a3 = some r → GTo Try.prog 63 [.sl a0.length (fl (eL (eI .u64)) a0), .agg (Zn a1), .val (.int .i64 a2), .val (.int .i64 a3)] O n (.tup [.agg (Yq r.1), .val (.int .i64 r.2.1), .val (.int .i64 r.2.2)]) O n) ∧ (∀ {a0 : (List (List Int))} {a1 : Zm} {a2 : Int} {a3 : Int} {r : (Zo × Int × Int)} {O : Objs} {n : Nat}, (Yd k).2 a0 a1 a2 a3 = some r → GTo Try.prog 87 [.sl a0.length (fl (eL (eI .u64)) a0), .agg (Zn a1), .val (.int .i64 a2), .val (.int .i64 a3)] O n (.tup [.agg (Yq r.1), .val (.int .i64 r.2.1), .val (.int .i64 r.2.2)]) O n) := fun k => by
 induction k with
 | zero => exact ⟨@fun a0 a1 a2 a3 r O n h => (nomatch (show (none : Option _) = some _ from h)), @fun a0 a1 a2 a3 r O n h => (nomatch (show (none : Option _) = some _ from h))⟩
 | succ k ih => exact ⟨@fun a0 a1 a2 a3 r O n h => Zdy (ih.1) (ih.2)  h, @fun a0 a1 a2 a3 r O n h => Zgw (ih.1) (ih.2)  h⟩
theorem Zef {a0 : (List (List Int))} {a1 : Zm} {a2 : Int} {a3 : Int} {r : (Zo × Int × Int)} {O : Objs} {n : Nat} (h : K6 a0 a1 a2 a3 = some r) : GTo Try.prog 63 [.sl a0.length (fl (eL (eI .u64)) a0), .agg (Zn a1), .val (.int .i64 a2), .val (.int .i64 a3)] O n (.tup [.agg (Yq r.1), .val (.int .i64 r.2.1), .val (.int .i64 r.2.2)]) O n := by
 obtain ⟨k, hk⟩ := Zpz h
 exact (Zcn k).1  hk
theorem Ze6 {a0 : (List (List Int))} {a1 : Zy} {r : (Zo × Int × Int)} {O : Objs} {n : Nat} (h : Qv a0 a1 = some r) : GTo Try.prog 32 [.sl a0.length (fl (eL (eI .u64)) a0), .agg (Ye a1)] O n (.tup [.agg (Yq r.1), .val (.int .i64 r.2.1), .val (.int .i64 r.2.2)]) O n := by
 unfold Qv at h
 refine Yp Zc Try.call32 Try.func32 rfl (Nat.le_of_ble_eq_true rfl) (Nat.le_refl _) fun hU => ?_
 have hN0 : O n = none := hU.fresh _ (Nat.le_refl _)
 have hN : ∀ k, O (n + k) = none := fun k => hU.fresh _ (Nat.le_add_right _ _)
 show W _ _ _ _ ⟨43, [], [(0, .sl a0.length (fl (eL (eI .u64)) a0)), (1, .agg (Ye a1))]⟩ (Z5 O n []) _
 refine Zr [0, 3, 4] (Zb Zc [] ?_)
 simp only [push_cast, seval, ↓reduceIte, Za, hN0, hN]
 refine Zh ?_
 obtain ⟨y2, hy2, h⟩ := bC h
 refine Zb Zc [] ?_
 simp only [push_cast, seval, ↓reduceIte, Za, hN0, hN]
 refine (Ze5 hy2).then ?_
 simp only [push_cast, seval, ↓reduceIte, Za, hN0, hN]
 refine Zg [0, 3, 4] [true, true] ?_
 simp only [push_cast, seval, ↓reduceIte]
 refine Zh ?_
 obtain ⟨y4, hy4, h⟩ := bC h
 refine Zb Zc [] ?_
 simp only [push_cast, seval, ↓reduceIte, Za, hN0, hN]
 refine (U5 hy4).then ?_
 simp only [push_cast, seval, ↓reduceIte, Za, hN0, hN]
 refine Zg [0, 3, 4, 7, 8] [true, true, true] ?_
 simp only [push_cast, seval, ↓reduceIte]
 refine Zh ?_
 refine Zr [0, 3, 4, 7, 8, 20] (Zb Zc [] ?_)
 simp only [push_cast, seval, ↓reduceIte, Za, hN0, hN]
 refine Zs (t := (y4.2 != 0)) rfl (fun c8 => ?_) (fun c8 => ?_)
 ·replace h := Zw c8 h
  refine Zh ?_
  refine Zb Zc [] ?_
  simp only [push_cast, seval, ↓reduceIte, Za, hN0, hN]
  refine Zg [4, 5, 6] [false, true, false] ?_
  simp only [push_cast, seval, ↓reduceIte]
  refine Zt ?_
  try simp only [Zi, Zf]
  have h := Option.some.inj h; subst h
  refine Zl (.inr rfl) hU [.agg [.val (.int .i64 0), .val (.slice none 0 0), .val (.slice none 0 0)], .val (.int .i64 0), .val (.int .i64 y4.2)] (by omega) ?_
  simp only [push_cast, seval, ↓reduceIte, Za, Try.results32, hN0, hN]
 replace h := Zv c8 h
 refine Zz ?_
 try simp only [Zi, Zf]
 refine Zg [0, 3, 4, 7] [true, true, true] ?_
 simp only [push_cast, seval, ↓reduceIte]
 refine Zh ?_
 obtain ⟨y6, hy6, h⟩ := bC h
 refine Zb Zc [] ?_
 simp only [push_cast, seval, ↓reduceIte, Za, hN0, hN]
 refine (Zef hy6).then ?_
 simp only [push_cast, seval, ↓reduceIte, Za, hN0, hN]
 refine Zg [3, 4, 9, 10, 11] [true, true, false, true] ?_
 simp only [push_cast, seval, ↓reduceIte]
 refine Zh ?_
 refine Zr [3, 4, 9, 10, 11, 35] (Zb Zc [] ?_)
 simp only [push_cast, seval, ↓reduceIte, Za, hN0, hN]
 refine Zs (t := (y6.2.2 != 0)) rfl (fun c7 => ?_) (fun c7 => ?_)
 ·replace h := Zw c7 h
  refine Zh ?_
  refine Zb Zc [] ?_
  simp only [push_cast, seval, ↓reduceIte, Za, hN0, hN]
  refine Zg [4, 5, 6] [false, true, false, false] ?_
  simp only [push_cast, seval, ↓reduceIte]
  refine Zt ?_
  try simp only [Zi, Zf]
  have h := Option.some.inj h; subst h
  refine Zl (.inr rfl) hU [.agg [.val (.int .i64 0), .val (.slice none 0 0), .val (.slice none 0 0)], .val (.int .i64 0), .val (.int .i64 y6.2.2)] (by omega) ?_
  simp only [push_cast, seval, ↓reduceIte, Za, Try.results32, hN0, hN]
 replace h := Zv c7 h
 refine Zz ?_
 try simp only [Zi, Zf]
 refine Zg [3, 4, 9, 10] [true, true, false, true] ?_
 simp only [push_cast, seval, ↓reduceIte]
 refine Zh ?_
 refine Zgd Zc (by kernel_rfl) [.plain, .low, .low, .low, .low, .pass, .plain, .plain] (fun i => i ≠ n + 1) [0, 1, 2, 3, 4, 5, 6, 7] [.plain, .low, .low, .low, .low, .pass, .plain, .plain] [] (by kernel_rfl) rfl ?_
 simp only [push_cast, seval, ↓reduceIte, Za, hN0, hN]
 repeat (with_reducible refine And.intro (by first | omega | exact Jm rfl | exact Qq | exact V9 rfl | exact Uh rfl rfl) ?_)
 refine Zg [4, 5, 6] [false, true, false, false] ?_
 simp only [push_cast, seval, ↓reduceIte]
 refine Zt ?_
 try simp only [Zi, Zf]
 have h := Option.some.inj h; subst h
 refine Zl (.inr rfl) hU [.agg (Yq y6.1), .val (.int .i64 (IntKind.i64.wrap (y2.Weight - y6.2.1))), .val (.int .i64 0)] (by omega) ?_
 simp only [push_cast, seval, ↓reduceIte, Za, Try.results32, hN0, hN]
theorem Zb8 {a0 : (List (List Int))} {a1 : Zy} {r : Bool} {O : Objs} {n : Nat} (h : Qf a0 a1 = some r) : GTo Try.prog 6 [.sl a0.length (fl (eL (eI .u64)) a0), .agg (Ye a1)] O n (.val (.bool r)) O n := by
 unfold Qf at h
 refine Yp Zc Try.call6 Try.func6 rfl (Nat.le_of_ble_eq_true rfl) (Nat.le_refl _) fun hU => ?_
 have hN0 : O n = none := hU.fresh _ (Nat.le_refl _)
 have hN : ∀ k, O (n + k) = none := fun k => hU.fresh _ (Nat.le_add_right _ _)
 show W _ _ _ _ ⟨37, [], [(0, .sl a0.length (fl (eL (eI .u64)) a0)), (1, .agg (Ye a1))]⟩ (Z5 O n []) _
 refine Zr [0, 3] (Zb Zc [] ?_)
 simp only [push_cast, seval, ↓reduceIte, Za, hN0, hN]
 refine Zh ?_
 obtain ⟨y2, hy2, h⟩ := bC h
 refine Zb Zc [] ?_
 simp only [push_cast, seval, ↓reduceIte, Za, hN0, hN]
 refine (Zgp hy2).then ?_
 simp only [push_cast, seval, ↓reduceIte, Za, hN0, hN]
 refine Zg [0, 3] [true] ?_
 simp only [push_cast, seval, ↓reduceIte]
 refine Zh ?_
 obtain ⟨y5, hy5, h⟩ := bC h
 obtain ⟨y6, hy6, h⟩ := bC h
 refine Vd Zc (by kernel_rfl) [] (by kernel_rfl) ?_
 simp only [push_cast, seval, ↓reduceIte, Za, hN0, hN]
 refine PCall.of (Zkr hy5) ?_
 simp only [push_cast, seval, ↓reduceIte, Za, hN0, hN]
 refine PCall.of (Zbg hy6) ?_
 simp only [push_cast, seval, ↓reduceIte, Za, hN0, hN]
 refine Zg [0, 3, 5, 6] [true] ?_
 simp only [push_cast, seval, ↓reduceIte]
 refine Zh ?_
 obtain ⟨y8, hy8, h⟩ := bC h
 refine Zb Zc [] ?_
 simp only [push_cast, seval, ↓reduceIte, Za, hN0, hN]
 refine (Ze6 hy8).then ?_
 simp only [push_cast, seval, ↓reduceIte, Za, hN0, hN]
 refine Zg [5, 6, 8, 9] [false, false] ?_
 simp only [push_cast, seval, ↓reduceIte]
 obtain ⟨z10, hz10, h⟩ := bC h
 refine Jk (E' := ⟨37, [], [(4, .val (.bool z10))]⟩) (O' := (Z5 O n [none, none])) (n0 := (n + 2)) ?_ ?_
 ·rcases Bool.eq_false_or_eq_true (y6.1 == y8.2.1) with c13 | c13
  ·replace hz10 := Zw c13 hz10
   rcases Bool.eq_false_or_eq_true (y6.2 == y8.2.2) with c14 | c14
   ·replace hz10 := Zw c14 hz10
    try rw [c14] at c13
    obtain ⟨y12, hy12, hz10⟩ := bC hz10
    refine Zb Zc [none, none, none, some true] ?_
    simp only [push_cast, seval, ↓reduceIte, Za, c13, c14, hN0, hN]
    repeat (with_reducible refine And.intro (by first | (intro h0; simp only [h0, and_self]; done) | (intro h0; simp only [h0, Bool.not_false, Bool.not_true, Bool.true_and, Bool.and_true, true_and, and_true, and_self, imp_self, implies_true, bne_iff_ne, ne_eq, beq_iff_eq]; done) | (intros; simp_all; done) | exact True.intro) ?_)
    refine (Zgq hy12).then ?_
    simp only [push_cast, seval, ↓reduceIte, Za, c13, c14, hN0, hN]
    repeat (with_reducible refine And.intro (by first | (intro h0; simp only [h0, and_self]; done) | (intro h0; simp only [h0, Bool.not_false, Bool.not_true, Bool.true_and, Bool.and_true, true_and, and_true, and_self, imp_self, implies_true, bne_iff_ne, ne_eq, beq_iff_eq]; done) | (intros; simp_all; done) | exact True.intro) ?_)
    have hz10 := Option.some.inj hz10; subst hz10
    refine And.intro rfl (Fit2.of (Zx hU rfl rfl ?_) (by omega))
    simp only [push_cast, seval, ↓reduceIte, Za, c13, c14, hN0, hN]
   replace hz10 := Zv c14 hz10
   try rw [c14] at c13
   refine Zb Zc [none, none, none, some false] ?_
   simp only [push_cast, seval, ↓reduceIte, Za, c13, c14, hN0, hN]
   repeat (with_reducible refine And.intro (by first | (intro h0; simp only [h0, and_self]; done) | (intro h0; simp only [h0, Bool.not_false, Bool.not_true, Bool.true_and, Bool.and_true, true_and, and_true, and_self, imp_self, implies_true, bne_iff_ne, ne_eq, beq_iff_eq]; done) | (intros; simp_all; done) | exact True.intro) ?_)
   have hz10 := Option.some.inj hz10; subst hz10
   refine And.intro rfl (Fit2.of (Zx hU rfl rfl ?_) (by omega))
   simp only [push_cast, seval, ↓reduceIte, Za, c13, c14, hN0, hN]
  replace hz10 := Zv c13 hz10
  refine Zb Zc [none, none, none, some false] ?_
  simp only [push_cast, seval, ↓reduceIte, Za, c13, hN0, hN]
  repeat (with_reducible refine And.intro (by first | (intro h0; simp only [h0, and_self]; done) | (intro h0; simp only [h0, Bool.not_false, Bool.not_true, Bool.true_and, Bool.and_true, true_and, and_true, and_self, imp_self, implies_true, bne_iff_ne, ne_eq, beq_iff_eq]; done) | (intros; simp_all; done) | exact True.intro) ?_)
  have hz10 := Option.some.inj hz10; subst hz10
  refine And.intro rfl (Fit2.of (Zx hU rfl rfl ?_) (by omega))
  simp only [push_cast, seval, ↓reduceIte, Za, c13, hN0, hN]
 refine Zt ?_
 try simp only [Zi, Zf]
 have h := Option.some.inj h; subst h
 refine Zl (.inr rfl) hU [.val (.bool z10)] (by omega) ?_
 simp only [push_cast, seval, ↓reduceIte, Za, Try.results6, hN0, hN]
end Go.Proofs.Ytmlhokaflhlhbaa
