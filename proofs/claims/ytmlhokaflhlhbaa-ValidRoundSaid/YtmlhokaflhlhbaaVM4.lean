/- Part VM4 of this seat's mirrors: functions of the seat's program, and the plain functions that they are; each theorem bears its own conditions. -/
import Derived.Test.YtmlhokaflhlhbaaVE
import Derived.Test.YtmlhokaflhlhbaaVM3
namespace Go.Proofs.Ytmlhokaflhlhbaa
open Go.RowKit
set_option linter.unusedVariables false
set_option linter.unusedSimpArgs false
set_option maxRecDepth 100000
set_option maxHeartbeats 4000000
attribute [local push_cast] Z6 K8 Qd Yr Zi Zfu Zft Zgh Zgg Zm Zj Zc3 Gd Gc onW Yd K1 Kc Zfz Ze2 Zbu Zbz Zbt Zby Zdw Zdt Zbx Zdv Zdu Zbv Zdr Gx evS wok Yq Op.operands Call.operands gop onK onP atK List.all_cons List.all_nil Bool.and_true Bool.true_and Bool.and_self Value.oneCell' List.take_zero List.take_succ_cons List.take_nil List.drop_zero List.drop_succ_cons List.drop_nil List.append_nil Nat.add_zero Nat.zero_add Qn Zp ev Yu Zk5 Zfl Zfk Zfq Zfo Zfp Zfm Zfn Zfj Zh3 Zin Zk6 Zaw Kg Zan Kx Zba Up Vx V2 U8 U5 V0 U7 U6 Vz U3 Vy V1 K9 U4 Zc5 Ge Jj Zao Jk Zb5 Zav Zjh bLo bHi bMx Kh Zb4 Zl5 Zau Zch Vv Qu Zih Zl9 Zal Zmd Kf Zna Zc8 Zdc Zc7 Zdb Zf6 Zf3 Zf1 Zbe Zc9 Zf5 Zf4 Zda Zf2 Zb6 Zfv Zdk Gs Gr pop TK.isAgg Zga Zge Zf9 Zgd Zde Zjw Zjt Zgc Zjv Zju Zgb Zjs G.under G.unders List.getD_cons_zero List.getD_cons_succ List.set_cons_zero List.set_cons_succ List.map_cons List.map_nil List.toList_toArray Array.toList_append Option.toArray_none Option.toArray_some Array.toList_map Option.map_some Option.map_none Option.bind_some Option.bind_none List.getElem?_cons_zero List.getElem?_cons_succ List.getElem?_nil List.nil_append List.cons_append List.replicate_succ List.replicate_zero List.length_cons List.length_nil and_true true_and and_false false_and Bool.true_eq_false Bool.false_eq_true forall_const false_implies implies_true IntKind.bits if_true if_false ite_true ite_false eq_self true_implies false_or or_false or_true true_or not_true_eq_false not_false_eq_true decide_true decide_false decide_eq_true_eq decide_eq_false_iff_not beq_iff_eq bne_iff_ne ne_eq Bool.not_eq_true Bool.not_eq_false beq_eq_false_iff_ne bne_eq_false_iff_eq beq_self_eq_true bne_self_eq_false Option.some.injEq exists_eq_left' exists_eq_left ge_iff_le gt_iff_lt decide_not Bool.not_true Bool.not_false imp_self Zjj cond_true cond_false Zqz Zqy Bool.not_not Bool.and_false Bool.false_and Bool.or_true Bool.true_or Bool.or_false Bool.false_or K6 Zfb Zeh Zcy Za6 Uu Option.join_some Nat.add_assoc Int.toNat_natCast eI eB eS eL U9 Ux V8 Zfy Zfw Zfx Znn Zph Uz Ue Zgo Zgm Zgn Zld Zc2 Zja Zdp Zi9 Uv Zjb List.length_append G.agg.injEq G.row.injEq G.ref.injEq G.val.injEq G.sl.injEq G.tup.injEq Value.int.injEq Value.bool.injEq Value.string.injEq List.cons.injEq exists_and_left exists_const List.flatten_cons List.flatten_nil Int.le_refl Nat.le_refl Zee Qt Zcz Bool.not_eq_true' Bool.not_eq_false' Zhz Zac Zkx Zk1 Zkw Zk0 Zoz Zov List.size_toArray Zgq Zgr G.ren G.rens Zio Ur Zgt Zfg Zfh Zds Zk2 Gl G.fn.injEq Zb0 Zeg Zhx Zow Zef Zkz Zoy Zox Zky Zjn Znj Option.join_none Xg Ji undef Zci Arr.len Arr.put_eq Uy Zbi Gm Ud Zgl Zgj Zgk onB Znm Zif Zdq Zco Zcp Zcq Zcr Zcs Zct Zbg Zbm Zbk Gq Uf Zbl Zdj Zdi Zdh Zdg Zpg Zqm Zlc Zjy Xq Zk8 Zf7 Zbo Gp Zmj Zgw Zat Zcg Vj Zbp Zcu Zcv Zcw Zcx Zaz Za0 Za1 Za2 Za3 Za4 Za5 V3 prT Vd Zrv Zkl Zqq Zkm Zrw Zkn Zrx Zko Zry Zkp Zrz Zkq Zr0 Zkr Zr1 Zks Znu Zgy Znv Zgz Znw Zg0 Znx Zg1 Zny Zg2 Znz Zg3 Zn0 Zg4 Zn1 Zg5 Zn2 Zg6 Zn3 Zg7 Zn4 Zg8 Zn5 Zg9 Zn6 Zha Zn7 Zer Zn8 Zhb Zn9 Zhc Zoa Zhd Zgx Zhe Zob Zhf Zoc Zhg Zez Zes Zod Zhh Zoe Zhi Zof Zhj Zog Zhk Zoh Zhl Zoi Zhm Zoj Zhn Zok Zho Zol Zhp Zom Zhq Zon Zhr Zoo Zhs Zop Zht Zoq Zhu Zor Zhv Zos Zhw Zj4 Zdx Zj5 Zdy Zj6 Zdz Zj7 Zd0 Zj8 Zd1 Zj9 Zd2 Zka Zd3 Zkb Zd4 Zkc Zd5 Zkd Zd6 Zke Zd7 Zkf Zd8 Zkg Zd9 Zkh Zea Zki Zeb Zkj Zec Zkk Zed Zae Zab Gi Gk Zah Uo Ul Uj Gz Ks Kr Ki Ko Kt J5 J4 J3 Kq Zf X7 X6 X3 X4 X8 Xw Xu Xt X5 V5 Zad Zaa Gh Gj Zag Un Uk Ui Gy V4 Jy Qe Qf Y5 Zo Xi Xh Xd Xe Xj Xb Xa Y9 Xf Zx X9 Je Jd Q5 Q8 Jf Qy Qx Qw Jc
theorem Zbh {Zr : (Zc → Zd → Int → Option (Int × Zc))} {Zq : (Zc → Zd → Int → Option (Int × Zc))} {Zt : (Zc → Zd → Int → Option (Int × Zc))} (Q2 : ∀ {a0 : Zc} {a1 : Zd} {a2 : Int} {r : (Int × Zc)} {O : Objs} {n : Nat} {i0 : Nat}, i0 < n → O i0 = some ⟨false, 107, 1, 1, [.val (.int .i64 a0.left)]⟩ → Zr a0 a1 a2 = some r → GTo Try.prog 62 [.ref i0 0, .agg (Zi a1), .val (.int .i64 a2)] O n (.val (.int .i64 r.1)) (Zu (O.upd i0 (some ⟨false, 107, 1, 1, [.val (.int .i64 r.2.left)]⟩)) n []) (n + 0)) (X1 : ∀ {a0 : Zc} {a1 : Zd} {a2 : Int} {r : (Int × Zc)} {O : Objs} {n : Nat} {i0 : Nat}, i0 < n → O i0 = some ⟨false, 107, 1, 1, [.val (.int .i64 a0.left)]⟩ → Zq a0 a1 a2 = some r → GTo Try.prog 85 [.ref i0 0, .agg (Zi a1), .val (.int .i64 a2)] O n (.val (.int .i64 r.1)) (Zu (O.upd i0 (some ⟨false, 107, 1, 1, [.val (.int .i64 r.2.left)]⟩)) n []) (n + 0)) (Qk : ∀ {a0 : Zc} {a1 : Zd} {a2 : Int} {r : (Int × Zc)} {O : Objs} {n : Nat} {i0 : Nat}, i0 < n → O i0 = some ⟨false, 107, 1, 1, [.val (.int .i64 a0.left)]⟩ → Zt a0 a1 a2 = some r → GTo Try.prog 86 [.ref i0 0, .agg (Zi a1), .val (.int .i64 a2)] O n (.val (.int .i64 r.1)) (Zu (O.upd i0 (some ⟨false, 107, 1, 1, [.val (.int .i64 r.2.left)]⟩)) n []) (n + 0)) {a0 : Zc} {a1 : Zd} {a2 : Int} {r : (Int × Zc)} {O : Objs} {n : Nat} {i0 : Nat} (hi0 : i0 < n) (ho0 : O i0 = some ⟨false, 107, 1, 1, [.val (.int .i64 a0.left)]⟩) (h : Ys Zr Zq Zt a0 a1 a2 = some r) : GTo Try.prog 62 [.ref i0 0, .agg (Zi a1), .val (.int .i64 a2)] O n (.val (.int .i64 r.1)) (Zu (O.upd i0 (some ⟨false, 107, 1, 1, [.val (.int .i64 r.2.left)]⟩)) n []) (n + 0) := by
 unfold Ys at h
 refine Xn Ze Try.call62 Try.func62 rfl (Nat.le_of_ble_eq_true rfl) (by omega) fun hU => ?_
 rw [show Zu O n [] = Zu (O.upd i0 (some ⟨false, 107, 1, 1, [.val (.int .i64 a0.left)]⟩)) n [] from by rw [Zkv (show O i0 = _ from by exact ho0)]]
 have hk0 : ∀ k, i0 < n + k := fun k => by omega
 have hN0 : ∀ o, Objs.upd O i0 o n = none := fun o => U1 hU hi0 _ (Nat.le_refl _)
 have hN : ∀ o k, Objs.upd O i0 o (n + k) = none := fun o k => U1 hU hi0 _ (Nat.le_add_right _ _)
 show W _ _ _ _ ⟨46, [], [(0, .ref i0 0), (1, .agg (Zi a1)), (2, .val (.int .i64 a2))]⟩ (Zu (O.upd i0 (some ⟨false, 107, 1, 1, [.val (.int .i64 a0.left)]⟩)) n []) _
 refine Zw [0, 2, 4] (Zb Ze [] ?_)
 simp only [push_cast, seval, ↓reduceIte, Za, hi0, hk0, hN0, hN]
 refine Zl ?_
 obtain ⟨z3, hz3, h⟩ := bC h
 refine Zb2 (E' := ⟨46, [], [(0, .ref i0 0), (2, .val (.int .i64 a2)), (4, .ref n 0), (19, .val (.bool z3))]⟩) (O' := (Zu (O.upd i0 (some ⟨false, 107, 1, 1, [.val (.int .i64 a0.left)]⟩)) n [some ⟨false, 27, 9, 1, (Zi a1)⟩])) (n0 := (n + 1)) ?_ ?_
 ·obtain ⟨y6, hy6, hz3⟩ := bC hz3
  rcases Bool.eq_false_or_eq_true (decide (a2 < y6)) with c8 | c8
  ·replace hz3 := Z4 c8 hz3
   refine Zei Ze (by kernel_rfl) [some false, some false, some false, some false, some false, some false, some false] (by kernel_rfl) ?_
   simp only [push_cast, seval, ↓reduceIte, Za, c8, hi0, hk0, hN0, hN]
   refine PCall.of (Zcj hy6) ?_
   simp only [push_cast, seval, ↓reduceIte, Za, c8, hi0, hk0, hN0, hN]
   have hz3 := Option.some.inj hz3; subst hz3
   refine And.intro rfl (Fit2.of (Yy hU rfl rfl ?_) (by omega))
   simp only [push_cast, seval, ↓reduceIte, Za, c8, hi0, hk0, hN0, hN]
  replace hz3 := Z3 c8 hz3
  obtain ⟨y7, hy7, hz3⟩ := bC hz3
  refine Zei Ze (by kernel_rfl) [some true, some true, some true, some true, some true, some true, some true] (by kernel_rfl) ?_
  simp only [push_cast, seval, ↓reduceIte, Za, c8, hi0, hk0, hN0, hN]
  refine PCall.of (Zcj hy6) ?_
  simp only [push_cast, seval, ↓reduceIte, Za, c8, hi0, hk0, hN0, hN]
  refine PCall.of (Zck hy7) ?_
  simp only [push_cast, seval, ↓reduceIte, Za, c8, hi0, hk0, hN0, hN]
  have hz3 := Option.some.inj hz3; subst hz3
  refine And.intro rfl (Fit2.of (Yy hU rfl rfl ?_) (by omega))
  simp only [push_cast, seval, ↓reduceIte, Za, c8, hi0, hk0, hN0, hN]
 refine Z0 (t := z3) rfl (fun c21 => ?_) (fun c21 => ?_)
 ·replace h := Z4 c21 h
  refine Zw [6] (Zb Ze [] ?_)
  simp only [push_cast, seval, ↓reduceIte, Za, hi0, hk0, hN0, hN]
  refine Zy ?_
  try simp only [Zm, Zj]
  have h := Option.some.inj h; subst h
  refine V6 (k := 0) (i := i0) (q1 := ⟨false, 107, 1, 1, [.val (.int .i64 a0.left)]⟩) (L3 := [none]) (E2 := (⟨46, [], [(6, .val (.int .i64 3))]⟩ : Env)) (n3 := (n + 1)) (.inr rfl) hU rfl [.val (.int .i64 3)] ?_ ?_
  ·refine Fit2.trans (E' := (⟨46, [], [(6, .val (.int .i64 3))]⟩ : Env)) (O' := (Zu (O.upd i0 (some ⟨false, 107, 1, 1, [.val (.int .i64 a0.left)]⟩)) n [none])) (n' := (n + 1)) (Fit2.of (Yy hU rfl rfl ?_) (by omega)) ?_
   ·simp only [push_cast, seval, ↓reduceIte, Za, hi0, hk0, hN0, hN]
   refine Ug (k := 1) (k' := 1) hU [0] [0] rfl rfl rfl rfl ⟨rfl, rfl⟩ ?_
   simp only [push_cast, seval, ↓reduceIte, Za, hi0, hk0, hN0, hN]
  simp only [push_cast, seval, ↓reduceIte, Za, Try.results62, hi0, hk0, hN0, hN]
 replace h := Z3 c21 h
 refine Yc ?_
 try simp only [Zm, Zj]
 refine Zk [0, 2, 4] [true] ?_
 simp only [push_cast, seval, ↓reduceIte]
 refine Zl ?_
 obtain ⟨y10, hy10, h⟩ := bC h
 refine Zpm Ze (by kernel_rfl) [false, false, false, false, false, false, false, false, false, true] [] (by kernel_rfl) ?_
 simp only [push_cast, seval, ↓reduceIte, Za, hi0, hk0, hN0, hN]
 refine PCall.of (Zck hy10) ?_
 simp only [push_cast, seval, ↓reduceIte, Za, hi0, hk0, hN0, hN]
 refine Zk [0, 2, 4] [true] ?_
 simp only [push_cast, seval, ↓reduceIte]
 refine Zl ?_
 refine Zl ?_
 obtain ⟨y12, hy12, h⟩ := bC h
 refine Zb Ze [] ?_
 simp only [push_cast, seval, ↓reduceIte, Za, hi0, hk0, hN0, hN]
 refine (Ql hy12).then ?_
 simp only [push_cast, seval, ↓reduceIte, Za, hi0, hk0, hN0, hN]
 refine Zk [0, 2, 4, 30] [true] ?_
 simp only [push_cast, seval, ↓reduceIte]
 refine J7 ?_
 obtain ⟨z13, hz13, h⟩ := bC h
 refine Zb2 (E' := ⟨46, [], [(0, .ref i0 0), (2, .val (.int .i64 a2)), (4, .ref n 0), (30, .val (.int .i64 y12)), (31, .val (.bool z13))]⟩) (O' := (Zu (O.upd i0 (some ⟨false, 107, 1, 1, [.val (.int .i64 (IntKind.i64.wrap (a0.left - y10)))]⟩)) n [some ⟨false, 27, 9, 1, (Zi a1)⟩])) (n0 := (n + 1)) ?_ ?_
 ·refine Zw [0, 2, 4, 30, 31] (Zb Ze [] ?_)
  simp only [push_cast, seval, ↓reduceIte, Za, hi0, hk0, hN0, hN]
  refine Z0 (t := (y12 == 1)) rfl (fun c14 => ?_) (fun c14 => ?_)
  ·replace hz13 := Z4 c14 hz13
   refine Yc ?_
   try simp only [Zm, Zj]
   have hz13 := Option.some.inj hz13; subst hz13
   refine And.intro rfl (Fit2.of (Yy hU rfl rfl ?_) (by omega))
   simp only [push_cast, seval, ↓reduceIte, Za, hi0, hk0, hN0, hN]
  replace hz13 := Z3 c14 hz13
  refine Zb Ze [] ?_
  simp only [push_cast, seval, ↓reduceIte, Za, hi0, hk0, hN0, hN]
  have hz13 := Option.some.inj hz13; subst hz13
  refine And.intro rfl (Fit2.of (Yy hU rfl rfl ?_) (by omega))
  simp only [push_cast, seval, ↓reduceIte, Za, hi0, hk0, hN0, hN]
 refine Z0 (t := z13) rfl (fun c20 => ?_) (fun c20 => ?_)
 ·replace h := Z4 c20 h
  refine Zl ?_
  obtain ⟨y16, hy16, h⟩ := bC h
  refine Zb Ze [] ?_
  simp only [push_cast, seval, ↓reduceIte, Za, hi0, hk0, hN0, hN]
  refine (X1 (i0 := i0) (by omega) (by simp only [push_cast, seval, ↓reduceIte, Za, U9, hi0, hk0, hN0, hN] <;> rfl) hy16).then ?_
  simp only [push_cast, seval, ↓reduceIte, Za, hi0, hk0, hN0, hN]
  refine Zk [6] [false] ?_
  simp only [push_cast, seval, ↓reduceIte]
  refine Zy ?_
  try simp only [Zm, Zj]
  have h := Option.some.inj h; subst h
  refine V6 (k := 0) (i := i0) (q1 := ⟨false, 107, 1, 1, [.val (.int .i64 y16.2.left)]⟩) (L3 := [none]) (E2 := (⟨46, [], [(6, .val (.int .i64 y16.1))]⟩ : Env)) (n3 := (n + 1)) (.inr rfl) hU rfl [.val (.int .i64 y16.1)] ?_ ?_
  ·refine Fit2.trans (E' := (⟨46, [], [(6, .val (.int .i64 y16.1))]⟩ : Env)) (O' := (Zu (O.upd i0 (some ⟨false, 107, 1, 1, [.val (.int .i64 y16.2.left)]⟩)) n [none])) (n' := (n + 1)) (Fit2.of (Yy hU rfl rfl ?_) (by omega)) ?_
   ·simp only [push_cast, seval, ↓reduceIte, Za, hi0, hk0, hN0, hN]
   refine Ug (k := 1) (k' := 1) hU [0] [0] rfl rfl rfl rfl ⟨rfl, rfl⟩ ?_
   simp only [push_cast, seval, ↓reduceIte, Za, hi0, hk0, hN0, hN]
  simp only [push_cast, seval, ↓reduceIte, Za, Try.results62, hi0, hk0, hN0, hN]
 replace h := Z3 c20 h
 refine Zw [0, 2, 4, 39] (Zb Ze [] ?_)
 simp only [push_cast, seval, ↓reduceIte, Za, hi0, hk0, hN0, hN]
 refine Z0 (t := (y12 == 9)) rfl (fun c19 => ?_) (fun c19 => ?_)
 ·replace h := Z4 c19 h
  refine Zl ?_
  obtain ⟨y18, hy18, h⟩ := bC h
  refine Zb Ze [] ?_
  simp only [push_cast, seval, ↓reduceIte, Za, hi0, hk0, hN0, hN]
  refine (Qk (i0 := i0) (by omega) (by simp only [push_cast, seval, ↓reduceIte, Za, U9, hi0, hk0, hN0, hN] <;> rfl) hy18).then ?_
  simp only [push_cast, seval, ↓reduceIte, Za, hi0, hk0, hN0, hN]
  refine Zk [6] [false] ?_
  simp only [push_cast, seval, ↓reduceIte]
  refine Zy ?_
  try simp only [Zm, Zj]
  have h := Option.some.inj h; subst h
  refine V6 (k := 0) (i := i0) (q1 := ⟨false, 107, 1, 1, [.val (.int .i64 y18.2.left)]⟩) (L3 := [none]) (E2 := (⟨46, [], [(6, .val (.int .i64 y18.1))]⟩ : Env)) (n3 := (n + 1)) (.inr rfl) hU rfl [.val (.int .i64 y18.1)] ?_ ?_
  ·refine Fit2.trans (E' := (⟨46, [], [(6, .val (.int .i64 y18.1))]⟩ : Env)) (O' := (Zu (O.upd i0 (some ⟨false, 107, 1, 1, [.val (.int .i64 y18.2.left)]⟩)) n [none])) (n' := (n + 1)) (Fit2.of (Yy hU rfl rfl ?_) (by omega)) ?_
   ·simp only [push_cast, seval, ↓reduceIte, Za, hi0, hk0, hN0, hN]
   refine Ug (k := 1) (k' := 1) hU [0] [0] rfl rfl rfl rfl ⟨rfl, rfl⟩ ?_
   simp only [push_cast, seval, ↓reduceIte, Za, hi0, hk0, hN0, hN]
  simp only [push_cast, seval, ↓reduceIte, Za, Try.results62, hi0, hk0, hN0, hN]
 replace h := Z3 c19 h
 refine Yc ?_
 try simp only [Zm, Zj]
 refine Zk [] [false] ?_
 simp only [push_cast, seval, ↓reduceIte]
 refine Zw [6] (Zb Ze [] ?_)
 simp only [push_cast, seval, ↓reduceIte, Za, hi0, hk0, hN0, hN]
 refine Zy ?_
 try simp only [Zm, Zj]
 have h := Option.some.inj h; subst h
 refine V6 (k := 0) (i := i0) (q1 := ⟨false, 107, 1, 1, [.val (.int .i64 (IntKind.i64.wrap (a0.left - y10)))]⟩) (L3 := [none]) (E2 := (⟨46, [], [(6, .val (.int .i64 0))]⟩ : Env)) (n3 := (n + 1)) (.inr rfl) hU rfl [.val (.int .i64 0)] ?_ ?_
 ·refine Fit2.trans (E' := (⟨46, [], [(6, .val (.int .i64 0))]⟩ : Env)) (O' := (Zu (O.upd i0 (some ⟨false, 107, 1, 1, [.val (.int .i64 (IntKind.i64.wrap (a0.left - y10)))]⟩)) n [none])) (n' := (n + 1)) (Fit2.of (Yy hU rfl rfl ?_) (by omega)) ?_
  ·simp only [push_cast, seval, ↓reduceIte, Za, hi0, hk0, hN0, hN]
  refine Ug (k := 1) (k' := 1) hU [0] [0] rfl rfl rfl rfl ⟨rfl, rfl⟩ ?_
  simp only [push_cast, seval, ↓reduceIte, Za, hi0, hk0, hN0, hN]
 simp only [push_cast, seval, ↓reduceIte, Za, Try.results62, hi0, hk0, hN0, hN]
theorem Zb9 {Zr : (Zc → Zd → Int → Option (Int × Zc))} {Zq : (Zc → Zd → Int → Option (Int × Zc))} {Zt : (Zc → Zd → Int → Option (Int × Zc))} (Q2 : ∀ {a0 : Zc} {a1 : Zd} {a2 : Int} {r : (Int × Zc)} {O : Objs} {n : Nat} {i0 : Nat}, i0 < n → O i0 = some ⟨false, 107, 1, 1, [.val (.int .i64 a0.left)]⟩ → Zr a0 a1 a2 = some r → GTo Try.prog 62 [.ref i0 0, .agg (Zi a1), .val (.int .i64 a2)] O n (.val (.int .i64 r.1)) (Zu (O.upd i0 (some ⟨false, 107, 1, 1, [.val (.int .i64 r.2.left)]⟩)) n []) (n + 0)) (X1 : ∀ {a0 : Zc} {a1 : Zd} {a2 : Int} {r : (Int × Zc)} {O : Objs} {n : Nat} {i0 : Nat}, i0 < n → O i0 = some ⟨false, 107, 1, 1, [.val (.int .i64 a0.left)]⟩ → Zq a0 a1 a2 = some r → GTo Try.prog 85 [.ref i0 0, .agg (Zi a1), .val (.int .i64 a2)] O n (.val (.int .i64 r.1)) (Zu (O.upd i0 (some ⟨false, 107, 1, 1, [.val (.int .i64 r.2.left)]⟩)) n []) (n + 0)) (Qk : ∀ {a0 : Zc} {a1 : Zd} {a2 : Int} {r : (Int × Zc)} {O : Objs} {n : Nat} {i0 : Nat}, i0 < n → O i0 = some ⟨false, 107, 1, 1, [.val (.int .i64 a0.left)]⟩ → Zt a0 a1 a2 = some r → GTo Try.prog 86 [.ref i0 0, .agg (Zi a1), .val (.int .i64 a2)] O n (.val (.int .i64 r.1)) (Zu (O.upd i0 (some ⟨false, 107, 1, 1, [.val (.int .i64 r.2.left)]⟩)) n []) (n + 0)) {a0 : Zc} {a1 : Zd} {a2 : Int} {r : (Int × Zc)} {O : Objs} {n : Nat} {i0 : Nat} (hi0 : i0 < n) (ho0 : O i0 = some ⟨false, 107, 1, 1, [.val (.int .i64 a0.left)]⟩) (h : Yw Zr Zq Zt a0 a1 a2 = some r) : GTo Try.prog 85 [.ref i0 0, .agg (Zi a1), .val (.int .i64 a2)] O n (.val (.int .i64 r.1)) (Zu (O.upd i0 (some ⟨false, 107, 1, 1, [.val (.int .i64 r.2.left)]⟩)) n []) (n + 0) := by
 unfold Yw at h
 refine Xn Ze Try.call85 Try.func85 rfl (Nat.le_of_ble_eq_true rfl) (by omega) fun hU => ?_
 rw [show Zu O n [] = Zu (O.upd i0 (some ⟨false, 107, 1, 1, [.val (.int .i64 a0.left)]⟩)) n [] from by rw [Zkv (show O i0 = _ from by exact ho0)]]
 have hk0 : ∀ k, i0 < n + k := fun k => by omega
 have hN0 : ∀ o, Objs.upd O i0 o n = none := fun o => U1 hU hi0 _ (Nat.le_refl _)
 have hN : ∀ o k, Objs.upd O i0 o (n + k) = none := fun o k => U1 hU hi0 _ (Nat.le_add_right _ _)
 show W _ _ _ _ ⟨33, [], [(0, .ref i0 0), (1, .agg (Zi a1)), (2, .val (.int .i64 a2))]⟩ (Zu (O.upd i0 (some ⟨false, 107, 1, 1, [.val (.int .i64 a0.left)]⟩)) n []) _
 refine Zw [0, 2, 4] (Zb Ze [] ?_)
 simp only [push_cast, seval, ↓reduceIte, Za, hi0, hk0, hN0, hN]
 refine Zl ?_
 refine Zl ?_
 obtain ⟨y2, hy2, h⟩ := bC h
 refine Zb Ze [] ?_
 simp only [push_cast, seval, ↓reduceIte, Za, hi0, hk0, hN0, hN]
 refine (Yv hy2).then ?_
 simp only [push_cast, seval, ↓reduceIte, Za, hi0, hk0, hN0, hN]
 refine Zk [0, 2, 4, 12, 13] [true] ?_
 simp only [push_cast, seval, ↓reduceIte]
 refine Zk [0, 2, 4, 12, 13] [true] ?_
 simp only [push_cast, seval, ↓reduceIte]
 obtain ⟨z10, hz10, h⟩ := bC h
 refine Zqt (J := (Zmt (fun z10 => JR n (⟨33, [], [(6, .val (.int .i64 z10.1))]⟩ : Env) (Zu (O.upd i0 (some ⟨false, 107, 1, 1, [.val (.int .i64 z10.2)]⟩)) n [none]) (n + 1)) (fun z10 => JX 0 n (⟨33, [], []⟩ : Env) (Zu (O.upd i0 (some ⟨false, 107, 1, 1, [.val (.int .i64 z10)]⟩)) n [none]) (n + 1)))) (z := z10) ?_ fun hw => ?_
 ·refine Zlv hz10 (fun s0_ => ⟨33, [], [(0, .ref i0 0), (2, .val (.int .i64 a2)), (4, .ref n 0), (12, .val (.int .i64 y2)), (13, .val (.int .i64 s0_.1))]⟩) (fun s0_ => (Zu (O.upd i0 (some ⟨false, 107, 1, 1, [.val (.int .i64 s0_.2)]⟩)) n [some ⟨false, 27, 9, 1, (Zi a1)⟩])) (Zmt (fun z10 => JR n (⟨33, [], [(6, .val (.int .i64 z10.1))]⟩ : Env) (Zu (O.upd i0 (some ⟨false, 107, 1, 1, [.val (.int .i64 z10.2)]⟩)) n [none]) (n + 1)) (fun z10 => JX 0 n (⟨33, [], []⟩ : Env) (Zu (O.upd i0 (some ⟨false, 107, 1, 1, [.val (.int .i64 z10)]⟩)) n [none]) (n + 1))) ?_
  intro s0_ x0_ hs0_
  unfold Yx at hs0_
  try dsimp only
  refine Zw [0, 2, 4, 12, 13, 14] (Zb Ze [] ?_)
  simp only [push_cast, seval, ↓reduceIte, Za, hi0, hk0, hN0, hN]
  refine Zl ?_
  refine Z0 (t := (decide (s0_.1 < y2))) rfl (fun c9 => ?_) (fun c9 => ?_)
  ·replace hs0_ := Z4 c9 hs0_
   refine Yc ?_
   try simp only [Zm, Zj]
   refine Zk [0, 2, 4, 12, 13] [true] ?_
   simp only [push_cast, seval, ↓reduceIte]
   refine Zl ?_
   refine J7 ?_
   refine Zw [0, 2, 4, 7, 12, 13] (Zb Ze [] ?_)
   simp only [push_cast, seval, ↓reduceIte, Za, hi0, hk0, hN0, hN]
   refine Zl ?_
   obtain ⟨y4, hy4, hs0_⟩ := bC hs0_
   refine Zb Ze [] ?_
   simp only [push_cast, seval, ↓reduceIte, Za, hi0, hk0, hN0, hN]
   refine (Zaq hy4).then ?_
   simp only [push_cast, seval, ↓reduceIte, Za, hi0, hk0, hN0, hN]
   refine Zk [0, 2, 4, 8, 9, 12, 13] [true, true] ?_
   simp only [push_cast, seval, ↓reduceIte]
   refine Zl ?_
   refine Zw [0, 2, 4, 8, 9, 12, 13, 23] (Zb Ze [] ?_)
   simp only [push_cast, seval, ↓reduceIte, Za, hi0, hk0, hN0, hN]
   refine Z0 (t := (y4.2 != 0)) rfl (fun c8 => ?_) (fun c8 => ?_)
   ·replace hs0_ := Z4 c8 hs0_
    refine Zw [6] (Zb Ze [] ?_)
    simp only [push_cast, seval, ↓reduceIte, Za, hi0, hk0, hN0, hN]
    refine Zy ?_
    try simp only [Zm, Zj]
    have hs0_ := Option.some.inj hs0_; subst hs0_
    refine And.intro (fun h => by cases h) (And.intro rfl (Fit2.of (Yy hU rfl rfl ?_) (by omega)))
    simp only [push_cast, seval, ↓reduceIte, Za, hi0, hk0, hN0, hN]
   replace hs0_ := Z3 c8 hs0_
   refine Yc ?_
   try simp only [Zm, Zj]
   refine Zk [0, 2, 4, 8, 12, 13] [true, true] ?_
   simp only [push_cast, seval, ↓reduceIte]
   refine Zl ?_
   obtain ⟨y6, hy6, hs0_⟩ := bC hs0_
   refine Zb Ze [] ?_
   simp only [push_cast, seval, ↓reduceIte, Za, hi0, hk0, hN0, hN]
   refine (Q2 (i0 := i0) (by omega) (by simp only [push_cast, seval, ↓reduceIte, Za, U9, hi0, hk0, hN0, hN] <;> rfl) hy6).then ?_
   simp only [push_cast, seval, ↓reduceIte, Za, hi0, hk0, hN0, hN]
   refine Zk [0, 2, 4, 10, 12, 13] [true, false] ?_
   simp only [push_cast, seval, ↓reduceIte]
   refine Zw [0, 2, 4, 10, 12, 13, 30] (Zb Ze [] ?_)
   simp only [push_cast, seval, ↓reduceIte, Za, hi0, hk0, hN0, hN]
   refine Z0 (t := (y6.1 != 0)) rfl (fun c7 => ?_) (fun c7 => ?_)
   ·replace hs0_ := Z4 c7 hs0_
    refine Zw [6] (Zb Ze [] ?_)
    simp only [push_cast, seval, ↓reduceIte, Za, hi0, hk0, hN0, hN]
    refine Zy ?_
    try simp only [Zm, Zj]
    have hs0_ := Option.some.inj hs0_; subst hs0_
    refine And.intro (fun h => by cases h) (And.intro rfl (Fit2.of (Yy hU rfl rfl ?_) (by omega)))
    simp only [push_cast, seval, ↓reduceIte, Za, hi0, hk0, hN0, hN]
   replace hs0_ := Z3 c7 hs0_
   refine Yc ?_
   try simp only [Zm, Zj]
   refine Zk [0, 2, 4, 12, 13] [true, false] ?_
   simp only [push_cast, seval, ↓reduceIte]
   refine Zb Ze [] ?_
   simp only [push_cast, seval, ↓reduceIte, Za, hi0, hk0, hN0, hN]
   have hs0_ := Option.some.inj hs0_; subst hs0_
   refine And.intro rfl (Fit2.of (Yy hU rfl rfl ?_) (by omega))
   simp only [push_cast, seval, ↓reduceIte, Za, hi0, hk0, hN0, hN]
  replace hs0_ := Z3 c9 hs0_
  refine Zo3 ?_
  try simp only [Zm, Zj, ↓reduceIte, Nat.reduceEqDiff]
  have hs0_ := Option.some.inj hs0_; subst hs0_
  refine And.intro (fun h => by cases h) (And.intro rfl (Fit2.of (Yy hU rfl rfl ?_) (by omega)))
  simp only [push_cast, seval, ↓reduceIte, Za, hi0, hk0, hN0, hN]
 rcases z10 with z10 | z10
 ·dsimp only [Zmt] at hw h
  refine Zmu hw ?_
  try simp only [Zm, Zj, ↓reduceIte, Nat.reduceEqDiff]
  have h := Option.some.inj h; subst h
  refine V6 (k := 0) (i := i0) (q1 := ⟨false, 107, 1, 1, [.val (.int .i64 z10.2)]⟩) (L3 := [none]) (E2 := (⟨33, [], [(6, .val (.int .i64 z10.1))]⟩ : Env)) (n3 := (n + 1)) (.inr rfl) hU rfl [.val (.int .i64 z10.1)] ?_ ?_
  ·refine Fit2.trans (E' := (⟨33, [], [(6, .val (.int .i64 z10.1))]⟩ : Env)) (O' := (Zu (O.upd i0 (some ⟨false, 107, 1, 1, [.val (.int .i64 z10.2)]⟩)) n [none])) (n' := (n + 1)) (Fit2.of (Yy hU rfl rfl ?_) (by omega)) ?_
   ·simp only [push_cast, seval, ↓reduceIte, Za, hi0, hk0, hN0, hN]
   refine Ug (k := 1) (k' := 1) hU [0] [0] rfl rfl rfl rfl ⟨rfl, rfl⟩ ?_
   simp only [push_cast, seval, ↓reduceIte, Za, hi0, hk0, hN0, hN]
  simp only [push_cast, seval, ↓reduceIte, Za, Try.results85, hi0, hk0, hN0, hN]
 dsimp only [Zmt] at hw h
 refine Zi1 hw ?_
 try simp only [Zm, Zj, ↓reduceIte, Nat.reduceEqDiff]
 refine Zk [] [false] ?_
 simp only [push_cast, seval, ↓reduceIte]
 refine Zw [6] (Zb Ze [] ?_)
 simp only [push_cast, seval, ↓reduceIte, Za, hi0, hk0, hN0, hN]
 refine Zy ?_
 try simp only [Zm, Zj]
 have h := Option.some.inj h; subst h
 refine V6 (k := 0) (i := i0) (q1 := ⟨false, 107, 1, 1, [.val (.int .i64 z10)]⟩) (L3 := [none]) (E2 := (⟨33, [], [(6, .val (.int .i64 0))]⟩ : Env)) (n3 := (n + 1)) (.inr rfl) hU rfl [.val (.int .i64 0)] ?_ ?_
 ·refine Fit2.trans (E' := (⟨33, [], [(6, .val (.int .i64 0))]⟩ : Env)) (O' := (Zu (O.upd i0 (some ⟨false, 107, 1, 1, [.val (.int .i64 z10)]⟩)) n [none])) (n' := (n + 1)) (Fit2.of (Yy hU rfl rfl ?_) (by omega)) ?_
  ·simp only [push_cast, seval, ↓reduceIte, Za, hi0, hk0, hN0, hN]
  refine Ug (k := 1) (k' := 1) hU [0] [0] rfl rfl rfl rfl ⟨rfl, rfl⟩ ?_
  simp only [push_cast, seval, ↓reduceIte, Za, hi0, hk0, hN0, hN]
 simp only [push_cast, seval, ↓reduceIte, Za, Try.results85, hi0, hk0, hN0, hN]
theorem Zak {Zr : (Zc → Zd → Int → Option (Int × Zc))} {Zq : (Zc → Zd → Int → Option (Int × Zc))} {Zt : (Zc → Zd → Int → Option (Int × Zc))} (Q2 : ∀ {a0 : Zc} {a1 : Zd} {a2 : Int} {r : (Int × Zc)} {O : Objs} {n : Nat} {i0 : Nat}, i0 < n → O i0 = some ⟨false, 107, 1, 1, [.val (.int .i64 a0.left)]⟩ → Zr a0 a1 a2 = some r → GTo Try.prog 62 [.ref i0 0, .agg (Zi a1), .val (.int .i64 a2)] O n (.val (.int .i64 r.1)) (Zu (O.upd i0 (some ⟨false, 107, 1, 1, [.val (.int .i64 r.2.left)]⟩)) n []) (n + 0)) (X1 : ∀ {a0 : Zc} {a1 : Zd} {a2 : Int} {r : (Int × Zc)} {O : Objs} {n : Nat} {i0 : Nat}, i0 < n → O i0 = some ⟨false, 107, 1, 1, [.val (.int .i64 a0.left)]⟩ → Zq a0 a1 a2 = some r → GTo Try.prog 85 [.ref i0 0, .agg (Zi a1), .val (.int .i64 a2)] O n (.val (.int .i64 r.1)) (Zu (O.upd i0 (some ⟨false, 107, 1, 1, [.val (.int .i64 r.2.left)]⟩)) n []) (n + 0)) (Qk : ∀ {a0 : Zc} {a1 : Zd} {a2 : Int} {r : (Int × Zc)} {O : Objs} {n : Nat} {i0 : Nat}, i0 < n → O i0 = some ⟨false, 107, 1, 1, [.val (.int .i64 a0.left)]⟩ → Zt a0 a1 a2 = some r → GTo Try.prog 86 [.ref i0 0, .agg (Zi a1), .val (.int .i64 a2)] O n (.val (.int .i64 r.1)) (Zu (O.upd i0 (some ⟨false, 107, 1, 1, [.val (.int .i64 r.2.left)]⟩)) n []) (n + 0)) {a0 : Zc} {a1 : Zd} {a2 : Int} {r : (Int × Zc)} {O : Objs} {n : Nat} {i0 : Nat} (hi0 : i0 < n) (ho0 : O i0 = some ⟨false, 107, 1, 1, [.val (.int .i64 a0.left)]⟩) (h : Yk Zr Zq Zt a0 a1 a2 = some r) : GTo Try.prog 86 [.ref i0 0, .agg (Zi a1), .val (.int .i64 a2)] O n (.val (.int .i64 r.1)) (Zu (O.upd i0 (some ⟨false, 107, 1, 1, [.val (.int .i64 r.2.left)]⟩)) n []) (n + 0) := by
 unfold Yk at h
 refine Xn Ze Try.call86 Try.func86 rfl (Nat.le_of_ble_eq_true rfl) (by omega) fun hU => ?_
 rw [show Zu O n [] = Zu (O.upd i0 (some ⟨false, 107, 1, 1, [.val (.int .i64 a0.left)]⟩)) n [] from by rw [Zkv (show O i0 = _ from by exact ho0)]]
 have hk0 : ∀ k, i0 < n + k := fun k => by omega
 have hN0 : ∀ o, Objs.upd O i0 o n = none := fun o => U1 hU hi0 _ (Nat.le_refl _)
 have hN : ∀ o k, Objs.upd O i0 o (n + k) = none := fun o k => U1 hU hi0 _ (Nat.le_add_right _ _)
 show W _ _ _ _ ⟨34, [], [(0, .ref i0 0), (1, .agg (Zi a1)), (2, .val (.int .i64 a2))]⟩ (Zu (O.upd i0 (some ⟨false, 107, 1, 1, [.val (.int .i64 a0.left)]⟩)) n []) _
 refine Zw [0, 2, 4] (Zb Ze [] ?_)
 simp only [push_cast, seval, ↓reduceIte, Za, hi0, hk0, hN0, hN]
 refine Zl ?_
 refine Zl ?_
 obtain ⟨y2, hy2, h⟩ := bC h
 refine Zb Ze [] ?_
 simp only [push_cast, seval, ↓reduceIte, Za, hi0, hk0, hN0, hN]
 refine (Yv hy2).then ?_
 simp only [push_cast, seval, ↓reduceIte, Za, hi0, hk0, hN0, hN]
 refine Zk [0, 2, 4, 12, 13] [true] ?_
 simp only [push_cast, seval, ↓reduceIte]
 refine Zk [0, 2, 4, 12, 13] [true] ?_
 simp only [push_cast, seval, ↓reduceIte]
 obtain ⟨z10, hz10, h⟩ := bC h
 refine Zqt (J := (Zmt (fun z10 => JR n (⟨34, [], [(6, .val (.int .i64 z10.1))]⟩ : Env) (Zu (O.upd i0 (some ⟨false, 107, 1, 1, [.val (.int .i64 z10.2)]⟩)) n [none]) (n + 1)) (fun z10 => JX 0 n (⟨34, [], []⟩ : Env) (Zu (O.upd i0 (some ⟨false, 107, 1, 1, [.val (.int .i64 z10)]⟩)) n [none]) (n + 1)))) (z := z10) ?_ fun hw => ?_
 ·refine Zlv hz10 (fun s0_ => ⟨34, [], [(0, .ref i0 0), (2, .val (.int .i64 a2)), (4, .ref n 0), (12, .val (.int .i64 y2)), (13, .val (.int .i64 s0_.1))]⟩) (fun s0_ => (Zu (O.upd i0 (some ⟨false, 107, 1, 1, [.val (.int .i64 s0_.2)]⟩)) n [some ⟨false, 27, 9, 1, (Zi a1)⟩])) (Zmt (fun z10 => JR n (⟨34, [], [(6, .val (.int .i64 z10.1))]⟩ : Env) (Zu (O.upd i0 (some ⟨false, 107, 1, 1, [.val (.int .i64 z10.2)]⟩)) n [none]) (n + 1)) (fun z10 => JX 0 n (⟨34, [], []⟩ : Env) (Zu (O.upd i0 (some ⟨false, 107, 1, 1, [.val (.int .i64 z10)]⟩)) n [none]) (n + 1))) ?_
  intro s0_ x0_ hs0_
  unfold Yl at hs0_
  try dsimp only
  refine Zw [0, 2, 4, 12, 13, 14] (Zb Ze [] ?_)
  simp only [push_cast, seval, ↓reduceIte, Za, hi0, hk0, hN0, hN]
  refine Zl ?_
  refine Z0 (t := (decide (s0_.1 < y2))) rfl (fun c9 => ?_) (fun c9 => ?_)
  ·replace hs0_ := Z4 c9 hs0_
   refine Yc ?_
   try simp only [Zm, Zj]
   refine Zk [0, 2, 4, 12, 13] [true] ?_
   simp only [push_cast, seval, ↓reduceIte]
   refine Zl ?_
   refine J7 ?_
   refine Zw [0, 2, 4, 7, 12, 13] (Zb Ze [] ?_)
   simp only [push_cast, seval, ↓reduceIte, Za, hi0, hk0, hN0, hN]
   refine Zl ?_
   obtain ⟨y4, hy4, hs0_⟩ := bC hs0_
   refine Zb Ze [] ?_
   simp only [push_cast, seval, ↓reduceIte, Za, hi0, hk0, hN0, hN]
   refine (Zaq hy4).then ?_
   simp only [push_cast, seval, ↓reduceIte, Za, hi0, hk0, hN0, hN]
   refine Zk [0, 2, 4, 8, 9, 12, 13] [true, true] ?_
   simp only [push_cast, seval, ↓reduceIte]
   refine Zl ?_
   refine Zw [0, 2, 4, 8, 9, 12, 13, 23] (Zb Ze [] ?_)
   simp only [push_cast, seval, ↓reduceIte, Za, hi0, hk0, hN0, hN]
   refine Z0 (t := (y4.2 != 0)) rfl (fun c8 => ?_) (fun c8 => ?_)
   ·replace hs0_ := Z4 c8 hs0_
    refine Zw [6] (Zb Ze [] ?_)
    simp only [push_cast, seval, ↓reduceIte, Za, hi0, hk0, hN0, hN]
    refine Zy ?_
    try simp only [Zm, Zj]
    have hs0_ := Option.some.inj hs0_; subst hs0_
    refine And.intro (fun h => by cases h) (And.intro rfl (Fit2.of (Yy hU rfl rfl ?_) (by omega)))
    simp only [push_cast, seval, ↓reduceIte, Za, hi0, hk0, hN0, hN]
   replace hs0_ := Z3 c8 hs0_
   refine Yc ?_
   try simp only [Zm, Zj]
   refine Zk [0, 2, 4, 8, 12, 13] [true, true] ?_
   simp only [push_cast, seval, ↓reduceIte]
   refine Zl ?_
   obtain ⟨y6, hy6, hs0_⟩ := bC hs0_
   refine Zb Ze [] ?_
   simp only [push_cast, seval, ↓reduceIte, Za, hi0, hk0, hN0, hN]
   refine (X1 (i0 := i0) (by omega) (by simp only [push_cast, seval, ↓reduceIte, Za, U9, hi0, hk0, hN0, hN] <;> rfl) hy6).then ?_
   simp only [push_cast, seval, ↓reduceIte, Za, hi0, hk0, hN0, hN]
   refine Zk [0, 2, 4, 10, 12, 13] [true, false] ?_
   simp only [push_cast, seval, ↓reduceIte]
   refine Zw [0, 2, 4, 10, 12, 13, 31] (Zb Ze [] ?_)
   simp only [push_cast, seval, ↓reduceIte, Za, hi0, hk0, hN0, hN]
   refine Z0 (t := (y6.1 != 0)) rfl (fun c7 => ?_) (fun c7 => ?_)
   ·replace hs0_ := Z4 c7 hs0_
    refine Zw [6] (Zb Ze [] ?_)
    simp only [push_cast, seval, ↓reduceIte, Za, hi0, hk0, hN0, hN]
    refine Zy ?_
    try simp only [Zm, Zj]
    have hs0_ := Option.some.inj hs0_; subst hs0_
    refine And.intro (fun h => by cases h) (And.intro rfl (Fit2.of (Yy hU rfl rfl ?_) (by omega)))
    simp only [push_cast, seval, ↓reduceIte, Za, hi0, hk0, hN0, hN]
   replace hs0_ := Z3 c7 hs0_
   refine Yc ?_
   try simp only [Zm, Zj]
   refine Zk [0, 2, 4, 12, 13] [true, false] ?_
   simp only [push_cast, seval, ↓reduceIte]
   refine Zb Ze [] ?_
   simp only [push_cast, seval, ↓reduceIte, Za, hi0, hk0, hN0, hN]
   have hs0_ := Option.some.inj hs0_; subst hs0_
   refine And.intro rfl (Fit2.of (Yy hU rfl rfl ?_) (by omega))
   simp only [push_cast, seval, ↓reduceIte, Za, hi0, hk0, hN0, hN]
  replace hs0_ := Z3 c9 hs0_
  refine Zo3 ?_
  try simp only [Zm, Zj, ↓reduceIte, Nat.reduceEqDiff]
  have hs0_ := Option.some.inj hs0_; subst hs0_
  refine And.intro (fun h => by cases h) (And.intro rfl (Fit2.of (Yy hU rfl rfl ?_) (by omega)))
  simp only [push_cast, seval, ↓reduceIte, Za, hi0, hk0, hN0, hN]
 rcases z10 with z10 | z10
 ·dsimp only [Zmt] at hw h
  refine Zmu hw ?_
  try simp only [Zm, Zj, ↓reduceIte, Nat.reduceEqDiff]
  have h := Option.some.inj h; subst h
  refine V6 (k := 0) (i := i0) (q1 := ⟨false, 107, 1, 1, [.val (.int .i64 z10.2)]⟩) (L3 := [none]) (E2 := (⟨34, [], [(6, .val (.int .i64 z10.1))]⟩ : Env)) (n3 := (n + 1)) (.inr rfl) hU rfl [.val (.int .i64 z10.1)] ?_ ?_
  ·refine Fit2.trans (E' := (⟨34, [], [(6, .val (.int .i64 z10.1))]⟩ : Env)) (O' := (Zu (O.upd i0 (some ⟨false, 107, 1, 1, [.val (.int .i64 z10.2)]⟩)) n [none])) (n' := (n + 1)) (Fit2.of (Yy hU rfl rfl ?_) (by omega)) ?_
   ·simp only [push_cast, seval, ↓reduceIte, Za, hi0, hk0, hN0, hN]
   refine Ug (k := 1) (k' := 1) hU [0] [0] rfl rfl rfl rfl ⟨rfl, rfl⟩ ?_
   simp only [push_cast, seval, ↓reduceIte, Za, hi0, hk0, hN0, hN]
  simp only [push_cast, seval, ↓reduceIte, Za, Try.results86, hi0, hk0, hN0, hN]
 dsimp only [Zmt] at hw h
 refine Zi1 hw ?_
 try simp only [Zm, Zj, ↓reduceIte, Nat.reduceEqDiff]
 refine Zk [] [false] ?_
 simp only [push_cast, seval, ↓reduceIte]
 refine Zw [6] (Zb Ze [] ?_)
 simp only [push_cast, seval, ↓reduceIte, Za, hi0, hk0, hN0, hN]
 refine Zy ?_
 try simp only [Zm, Zj]
 have h := Option.some.inj h; subst h
 refine V6 (k := 0) (i := i0) (q1 := ⟨false, 107, 1, 1, [.val (.int .i64 z10)]⟩) (L3 := [none]) (E2 := (⟨34, [], [(6, .val (.int .i64 0))]⟩ : Env)) (n3 := (n + 1)) (.inr rfl) hU rfl [.val (.int .i64 0)] ?_ ?_
 ·refine Fit2.trans (E' := (⟨34, [], [(6, .val (.int .i64 0))]⟩ : Env)) (O' := (Zu (O.upd i0 (some ⟨false, 107, 1, 1, [.val (.int .i64 z10)]⟩)) n [none])) (n' := (n + 1)) (Fit2.of (Yy hU rfl rfl ?_) (by omega)) ?_
  ·simp only [push_cast, seval, ↓reduceIte, Za, hi0, hk0, hN0, hN]
  refine Ug (k := 1) (k' := 1) hU [0] [0] rfl rfl rfl rfl ⟨rfl, rfl⟩ ?_
  simp only [push_cast, seval, ↓reduceIte, Za, hi0, hk0, hN0, hN]
 simp only [push_cast, seval, ↓reduceIte, Za, Try.results86, hi0, hk0, hN0, hN]
theorem Zai : ∀ k, (∀ {a0 : Zc} {a1 : Zd} {a2 : Int} {r : (Int × Zc)} {O : Objs} {n : Nat} {i0 : Nat}, i0 < n → O i0 = some ⟨false, 107, 1, 1, [.val (.int .i64 a0.left)]⟩ → (Zh k).1 a0 a1 a2 = some r → GTo Try.prog 62 [.ref i0 0, .agg (Zi a1), .val (.int .i64 a2)] O n (.val (.int .i64 r.1)) (Zu (O.upd i0 (some ⟨false, 107, 1, 1, [.val (.int .i64 r.2.left)]⟩)) n []) (n + 0)) ∧ (∀ {a0 : Zc} {a1 : Zd} {a2 : Int} {r : (Int × Zc)} {O : Objs} {n : Nat} {i0 : Nat}, i0 < n → O i0 = some ⟨false, 107, 1, 1, [.val (.int .i64 a0.left)]⟩ → (Zh k).2.1 a0 a1 a2 = some r → GTo Try.prog 85 [.ref i0 0, .agg (Zi a1), .val (.int .i64 a2)] O n (.val (.int .i64 r.1)) (Zu (O.upd i0 (some ⟨false, 107, 1, 1, [.val (.int .i64 r.2.left)]⟩)) n []) (n + 0)) ∧ (∀ {a0 : Zc} {a1 : Zd} {a2 : Int} {r : (Int × Zc)} {O : Objs} {n : Nat} {i0 : Nat}, i0 < n → O i0 = some ⟨false, 107, 1, 1, [.val (.int .i64 a0.left)]⟩ → (Zh k).2.2 a0 a1 a2 = some r → GTo Try.prog 86 [.ref i0 0, .agg (Zi a1), .val (.int .i64 a2)] O n (.val (.int .i64 r.1)) (Zu (O.upd i0 (some ⟨false, 107, 1, 1, [.val (.int .i64 r.2.left)]⟩)) n []) (n + 0)) := fun k => by
 induction k with
 | zero => exact ⟨@fun a0 a1 a2 r O n i0 hi0 ho0 h => (nomatch (show (none : Option _) = some _ from h)), @fun a0 a1 a2 r O n i0 hi0 ho0 h => (nomatch (show (none : Option _) = some _ from h)), @fun a0 a1 a2 r O n i0 hi0 ho0 h => (nomatch (show (none : Option _) = some _ from h))⟩
 | succ k ih => exact ⟨@fun a0 a1 a2 r O n i0 hi0 ho0 h => Zbh (ih.1) (ih.2.1) (ih.2.2) hi0 ho0 h, @fun a0 a1 a2 r O n i0 hi0 ho0 h => Zb9 (ih.1) (ih.2.1) (ih.2.2) hi0 ho0 h, @fun a0 a1 a2 r O n i0 hi0 ho0 h => Zak (ih.1) (ih.2.1) (ih.2.2) hi0 ho0 h⟩
theorem Zb8 {a0 : Zc} {a1 : Zd} {a2 : Int} {r : (Int × Zc)} {O : Objs} {n : Nat} {i0 : Nat} (hi0 : i0 < n) (ho0 : O i0 = some ⟨false, 107, 1, 1, [.val (.int .i64 a0.left)]⟩) (h : Jt a0 a1 a2 = some r) : GTo Try.prog 62 [.ref i0 0, .agg (Zi a1), .val (.int .i64 a2)] O n (.val (.int .i64 r.1)) (Zu (O.upd i0 (some ⟨false, 107, 1, 1, [.val (.int .i64 r.2.left)]⟩)) n []) (n + 0) := by
 obtain ⟨k, hk⟩ := Zri h
 exact (Zai k).1 hi0 ho0 hk
theorem Xs {a0 : (Option Zg)} {a1 : Zv} {r : (Int × Int)} {O : Objs} {n : Nat} (h : Xp a0 a1 = some r) : GTo Try.prog 31 [(gP Zf a0), .agg (Z6 a1)] O n (.tup [.val (.int .i64 r.1), .val (.int .i64 r.2)]) O n := by
 unfold Xp at h
 refine Xn Ze Try.call31 Try.func31 rfl (Nat.le_of_ble_eq_true rfl) (Nat.le_refl _) fun hU => ?_
 have hN0 : O n = none := hU.fresh _ (Nat.le_refl _)
 have hN : ∀ k, O (n + k) = none := fun k => hU.fresh _ (Nat.le_add_right _ _)
 show W _ _ _ _ ⟨35, [], [(0, (gP Zf a0)), (1, .agg (Z6 a1))]⟩ (Zu O n []) _
 refine Zw [0, 3] (Zb Ze [] ?_)
 simp only [push_cast, seval, ↓reduceIte, Za, hN0, hN]
 refine Zl ?_
 obtain ⟨y2, hy2, h⟩ := bC h
 refine Zb Ze [] ?_
 simp only [push_cast, seval, ↓reduceIte, Za, hN0, hN]
 refine (Ku hy2).then ?_
 simp only [push_cast, seval, ↓reduceIte, Za, hN0, hN]
 refine Zk [0, 3] [true] ?_
 simp only [push_cast, seval, ↓reduceIte]
 refine Zl ?_
 obtain ⟨y4, hy4, h⟩ := bC h
 refine Zb Ze [] ?_
 simp only [push_cast, seval, ↓reduceIte, Za, hN0, hN]
 refine (Zjr hy4).then ?_
 simp only [push_cast, seval, ↓reduceIte, Za, hN0, hN]
 refine Zk [3, 6, 7] [true, true] ?_
 simp only [push_cast, seval, ↓reduceIte]
 refine Zl ?_
 refine Zw [3, 6, 7, 18] (Zb Ze [] ?_)
 simp only [push_cast, seval, ↓reduceIte, Za, hN0, hN]
 refine Z0 (t := (y4.2 != 0)) rfl (fun c8 => ?_) (fun c8 => ?_)
 ·replace h := Z4 c8 h
  refine Zw [4, 5] (Zb Ze [] ?_)
  simp only [push_cast, seval, ↓reduceIte, Za, hN0, hN]
  refine Zy ?_
  try simp only [Zm, Zj]
  have h := Option.some.inj h; subst h
  refine Zn (.inr rfl) hU [.val (.int .i64 0), .val (.int .i64 y4.2)] (by omega) ?_
  simp only [push_cast, seval, ↓reduceIte, Za, Try.results31, hN0, hN]
 replace h := Z3 c8 h
 refine Yc ?_
 try simp only [Zm, Zj]
 refine Zk [3, 6] [true, true] ?_
 simp only [push_cast, seval, ↓reduceIte]
 refine Zl ?_
 refine Zb Ze [] ?_
 simp only [push_cast, seval, ↓reduceIte, Za, hN0, hN]
 refine Zk [3, 6, 8] [true, true, true] ?_
 simp only [push_cast, seval, ↓reduceIte]
 refine Zl ?_
 refine Zl ?_
 obtain ⟨y6, hy6, h⟩ := bC h
 refine Zb Ze [] ?_
 simp only [push_cast, seval, ↓reduceIte, Za, hN0, hN]
 refine (Zb8 (i0 := (n + 2)) (by omega) (by simp only [push_cast, seval, ↓reduceIte, Za, U9, hN0, hN] <;> rfl) hy6).then ?_
 simp only [push_cast, seval, ↓reduceIte, Za, hN0, hN]
 refine Zk [3, 8, 9] [true, false, true] ?_
 simp only [push_cast, seval, ↓reduceIte]
 refine Zw [3, 8, 9, 28] (Zb Ze [] ?_)
 simp only [push_cast, seval, ↓reduceIte, Za, hN0, hN]
 refine Z0 (t := (y6.1 != 0)) rfl (fun c7 => ?_) (fun c7 => ?_)
 ·replace h := Z4 c7 h
  refine Zw [4, 5] (Zb Ze [] ?_)
  simp only [push_cast, seval, ↓reduceIte, Za, hN0, hN]
  refine Zy ?_
  try simp only [Zm, Zj]
  have h := Option.some.inj h; subst h
  refine Zn (.inr rfl) hU [.val (.int .i64 0), .val (.int .i64 y6.1)] (by omega) ?_
  simp only [push_cast, seval, ↓reduceIte, Za, Try.results31, hN0, hN]
 replace h := Z3 c7 h
 refine Yc ?_
 try simp only [Zm, Zj]
 refine Zk [3, 8] [true, false, true] ?_
 simp only [push_cast, seval, ↓reduceIte]
 refine Zw [4, 5] (Zb Ze [] ?_)
 simp only [push_cast, seval, ↓reduceIte, Za, hN0, hN]
 refine Zy ?_
 try simp only [Zm, Zj]
 have h := Option.some.inj h; subst h
 refine Zn (.inr rfl) hU [.val (.int .i64 (IntKind.i64.wrap (y2.Weight - y6.2.left))), .val (.int .i64 0)] (by omega) ?_
 simp only [push_cast, seval, ↓reduceIte, Za, Try.results31, hN0, hN]
theorem Ut  {r : Bool} {O : Objs} {n : Nat} (h : Xl = some r) : GTo Try.prog 33 [] O n (.val (.bool r)) O n := by
 unfold Xl at h
 refine Xn Ze Try.call33 Try.func33 rfl (Nat.le_of_ble_eq_true rfl) (Nat.le_refl _) fun hU => ?_
 have hN0 : O n = none := hU.fresh _ (Nat.le_refl _)
 have hN : ∀ k, O (n + k) = none := fun k => hU.fresh _ (Nat.le_add_right _ _)
 show W _ _ _ _ ⟨31, [], []⟩ (Zu O n []) _
 refine Zw [] (Zb Ze [] ?_)
 simp only [push_cast, seval, ↓reduceIte, Za, hN0, hN]
 refine Zl ?_
 obtain ⟨y2, hy2, h⟩ := bC h
 refine Zb Ze [] ?_
 simp only [push_cast, seval, ↓reduceIte, Za, hN0, hN]
 refine GCalls.dropL (l' := [none, none]) hU rfl ?_ ((Zap hy2).then ?_)
 ·simp only [push_cast, seval, ↓reduceIte, Za, hN0, hN]
 simp only [push_cast, seval, ↓reduceIte, Za, hN0, hN]
 refine Zk [1] [false, false] ?_
 simp only [push_cast, seval, ↓reduceIte]
 refine Zl ?_
 obtain ⟨y4, hy4, h⟩ := bC h
 refine Zb Ze [] ?_
 simp only [push_cast, seval, ↓reduceIte, Za, hN0, hN]
 refine (Xs hy4).then ?_
 simp only [push_cast, seval, ↓reduceIte, Za, hN0, hN]
 refine Zk [1, 2, 3] [false, false] ?_
 simp only [push_cast, seval, ↓reduceIte]
 refine Zl ?_
 obtain ⟨y6, hy6, h⟩ := bC h
 refine Zb Ze [] ?_
 simp only [push_cast, seval, ↓reduceIte, Za, hN0, hN]
 refine (Xs hy6).then ?_
 simp only [push_cast, seval, ↓reduceIte, Za, hN0, hN]
 refine Zk [2, 3, 5] [false, false] ?_
 simp only [push_cast, seval, ↓reduceIte]
 refine Zw [0] (Zb Ze [none, none, none, none] ?_)
 simp only [push_cast, seval, ↓reduceIte, Za, hN0, hN]
 repeat (with_reducible refine And.intro (by first | (intro h0; simp only [h0, and_self]; done) | (intro h0; simp only [h0, Bool.not_false, Bool.not_true, Bool.true_and, Bool.and_true, true_and, and_true, and_self, imp_self, implies_true, bne_iff_ne, ne_eq, beq_iff_eq]; done) | (intros; simp_all; done) | exact True.intro) ?_)
 refine Zy ?_
 try simp only [Zm, Zj]
 have h := Option.some.inj h; subst h
 refine Zn (.inr rfl) hU [.val (.bool (cond (cond (y4.1 == 2) (y4.2 == 0) false) (y6.2 == 3) false))] (by omega) ?_
 simp only [push_cast, seval, ↓reduceIte, Za, Try.results33, hN0, hN]
theorem Zax {a0 : Zv} {a1 : Int} {r : Bool} {O : Objs} {n : Nat} (h : X0 a0 a1 = some r) : GTo Try.prog 10 [.agg (Z6 a0), .val (.int .u32 a1)] O n (.val (.bool r)) O n := by
 unfold X0 at h
 refine Xn Ze Try.call10 Try.func10 rfl (Nat.le_of_ble_eq_true rfl) (Nat.le_refl _) fun hU => ?_
 have hN0 : O n = none := hU.fresh _ (Nat.le_refl _)
 have hN : ∀ k, O (n + k) = none := fun k => hU.fresh _ (Nat.le_add_right _ _)
 show W _ _ _ _ ⟨79, [], [(0, .agg (Z6 a0)), (1, .val (.int .u32 a1))]⟩ (Zu O n []) _
 refine Zw [1, 2] (Zb Ze [] ?_)
 simp only [push_cast, seval, ↓reduceIte, Za, hN0, hN]
 refine Zl ?_
 obtain ⟨y3, hy3, h⟩ := bC h
 obtain ⟨y4, hy4, h⟩ := bC h
 refine Zej Ze (by kernel_rfl) [.pass, .pass, .pass, .low, .plain, .plain, .plain, .plain, .plain, .plain] (fun i => i < (n + 1)) [3, 0, 1, 2, 4, 5, 6, 7, 8, 9] [.low, .pass, .pass, .pass, .plain, .plain, .plain, .plain, .plain, .plain] [] (by kernel_rfl) rfl ?_
 simp only [push_cast, seval, ↓reduceIte, Za, hN0, hN]
 repeat (with_reducible refine And.intro (by first | omega | exact Xz rfl | exact Y4 | exact Qo rfl | exact Q4 rfl rfl) ?_)
 refine GCalls.dropL (l' := [some ⟨false, 52, 4, 1, (Z6 a0)⟩, none, none]) hU rfl ?_ ((Zap hy3).then ?_)
 ·simp only [push_cast, seval, ↓reduceIte, Za, hN0, hN]
 simp only [push_cast, seval, ↓reduceIte, Za, hN0, hN]
 repeat (with_reducible refine And.intro (by first | omega | exact Xz rfl | exact Y4 | exact Qo rfl | exact Q4 rfl rfl) ?_)
 first | refine PCallA.of (fun _ _ => Xs hy4) ?_ | refine PCall.of (Xs hy4) ?_
 simp only [push_cast, seval, ↓reduceIte, Za, hN0, hN]
 repeat (with_reducible refine And.intro (by first | omega | exact Xz rfl | exact Y4 | exact Qo rfl | exact Q4 rfl rfl) ?_)
 refine Zk [1, 2, 6] [true, false, false] ?_
 simp only [push_cast, seval, ↓reduceIte]
 refine Zl ?_
 obtain ⟨y7, hy7, h⟩ := bC h
 obtain ⟨y8, hy8, h⟩ := bC h
 refine Zej Ze (by kernel_rfl) [.pass, .pass, .pass, .low, .plain, .plain, .plain, .plain, .plain, .plain] (fun i => i < (n + 3)) [3, 0, 1, 2, 4, 5, 6, 7, 8, 9] [.low, .pass, .pass, .pass, .plain, .plain, .plain, .plain, .plain, .plain] [] (by kernel_rfl) rfl ?_
 simp only [push_cast, seval, ↓reduceIte, Za, hN0, hN]
 repeat (with_reducible refine And.intro (by first | omega | exact Xz rfl | exact Y4 | exact Qo rfl | exact Q4 rfl rfl) ?_)
 refine GCalls.dropL (l' := [some ⟨false, 52, 4, 1, (Z6 a0)⟩, none, none, none, none]) hU rfl ?_ ((Zap hy7).then ?_)
 ·simp only [push_cast, seval, ↓reduceIte, Za, hN0, hN]
 simp only [push_cast, seval, ↓reduceIte, Za, hN0, hN]
 repeat (with_reducible refine And.intro (by first | omega | exact Xz rfl | exact Y4 | exact Qo rfl | exact Q4 rfl rfl) ?_)
 first | refine PCallA.of (fun _ _ => Xs hy8) ?_ | refine PCall.of (Xs hy8) ?_
 simp only [push_cast, seval, ↓reduceIte, Za, hN0, hN]
 repeat (with_reducible refine And.intro (by first | omega | exact Xz rfl | exact Y4 | exact Qo rfl | exact Q4 rfl rfl) ?_)
 refine Zk [1, 2, 6, 8] [true, false, false, false, false] ?_
 simp only [push_cast, seval, ↓reduceIte]
 refine Zw [2, 6, 8, 9] (Zb Ze [] ?_)
 simp only [push_cast, seval, ↓reduceIte, Za, hN0, hN]
 refine Zl ?_
 obtain ⟨y11, hy11, h⟩ := bC h
 obtain ⟨y12, hy12, h⟩ := bC h
 refine Zej Ze (by kernel_rfl) [.plain, .plain, .plain, .plain, .pass, .pass, .pass, .low, .plain, .plain, .plain, .plain, .plain, .plain] (fun i => i < (n + 5)) [0, 1, 2, 3, 7, 4, 5, 6, 8, 9, 10, 11, 12, 13] [.plain, .plain, .plain, .plain, .low, .pass, .pass, .pass, .plain, .plain, .plain, .plain, .plain, .plain] [] (by kernel_rfl) rfl ?_
 simp only [push_cast, seval, ↓reduceIte, Za, hN0, hN]
 repeat (with_reducible refine And.intro (by first | omega | exact Xz rfl | exact Y4 | exact Qo rfl | exact Q4 rfl rfl) ?_)
 refine GCalls.dropL (l' := [some ⟨false, 52, 4, 1, (Z6 a0)⟩, none, none, none, none, none, none]) hU rfl ?_ ((Zap hy11).then ?_)
 ·simp only [push_cast, seval, ↓reduceIte, Za, hN0, hN]
 simp only [push_cast, seval, ↓reduceIte, Za, hN0, hN]
 repeat (with_reducible refine And.intro (by first | omega | exact Xz rfl | exact Y4 | exact Qo rfl | exact Q4 rfl rfl) ?_)
 first | refine PCallA.of (fun _ _ => Xs hy12) ?_ | refine PCall.of (Xs hy12) ?_
 simp only [push_cast, seval, ↓reduceIte, Za, hN0, hN]
 repeat (with_reducible refine And.intro (by first | omega | exact Xz rfl | exact Y4 | exact Qo rfl | exact Q4 rfl rfl) ?_)
 refine Zk [2, 6, 8, 9, 11] [true, false, false, false, false, false, false] ?_
 simp only [push_cast, seval, ↓reduceIte]
 obtain ⟨z15, hz15, h⟩ := bC h
 refine Zb2 (E' := ⟨79, [], [(6, .val (.int .i64 y4.2)), (8, .val (.int .i64 y8.2)), (11, .val (.int .i64 y12.2)), (12, .val (.bool z15))]⟩) (O' := (Zu O n [none, none, none, none, none, none, none])) (n0 := (n + 7)) ?_ ?_
 ·obtain ⟨y18, hy18, hz15⟩ := bC hz15
  rcases Bool.eq_false_or_eq_true (decide (y18.Depth < 1)) with c20 | c20
  ·replace hz15 := Z4 c20 hz15
   refine Zb Ze [some false, some false, some false, some false, some false, some false] ?_
   simp only [push_cast, seval, ↓reduceIte, Za, c20, hN0, hN]
   refine (Ku hy18).then ?_
   simp only [push_cast, seval, ↓reduceIte, Za, c20, hN0, hN]
   have hz15 := Option.some.inj hz15; subst hz15
   refine And.intro rfl (Fit2.of (Y1 hU rfl rfl ?_) (by omega))
   simp only [push_cast, seval, ↓reduceIte, Za, c20, hN0, hN]
  replace hz15 := Z3 c20 hz15
  obtain ⟨y19, hy19, hz15⟩ := bC hz15
  refine Zb Ze [some true, some true, some true, some true, some true, some true] ?_
  simp only [push_cast, seval, ↓reduceIte, Za, c20, hN0, hN]
  refine (Ku hy18).then ?_
  simp only [push_cast, seval, ↓reduceIte, Za, c20, hN0, hN]
  refine (Ku hy19).then ?_
  simp only [push_cast, seval, ↓reduceIte, Za, c20, hN0, hN]
  have hz15 := Option.some.inj hz15; subst hz15
  refine And.intro rfl (Fit2.of (Y1 hU rfl rfl ?_) (by omega))
  simp only [push_cast, seval, ↓reduceIte, Za, c20, hN0, hN]
 obtain ⟨z23, hz23, h⟩ := bC h
 refine Zb2 (E' := ⟨79, [], [(4, .val (.bool z23))]⟩) (O' := (Zu O n [none, none, none, none, none, none, none])) (n0 := (n + 7)) ?_ ?_
 ·rcases Bool.eq_false_or_eq_true (y4.2 == 3) with c28 | c28
  ·replace hz23 := Z4 c28 hz23
   rcases Bool.eq_false_or_eq_true (y8.2 == 3) with c29 | c29
   ·replace hz23 := Z4 c29 hz23
    try rw [c29] at c28
    rcases Bool.eq_false_or_eq_true ((y12.2 == 3) == z15) with c30 | c30
    ·replace hz23 := Z4 c30 hz23
     try rw [c30] at c28
     try rw [c30] at c29
     rcases Bool.eq_false_or_eq_true z15 with c31 | c31
     ·replace hz23 := Z4 c31 hz23
      try rw [c31] at c28
      try rw [c31] at c29
      try rw [c31] at c30
      obtain ⟨y26, hy26, hz23⟩ := bC hz23
      refine Zb Ze [none, none, none, none, none, none, none, none, none, none, none, some true] ?_
      simp only [push_cast, seval, ↓reduceIte, Za, c28, c29, c30, c31, hN0, hN]
      repeat (with_reducible refine And.intro (by first | (intro h0; simp only [h0, and_self]; done) | (intro h0; simp only [h0, Bool.not_false, Bool.not_true, Bool.true_and, Bool.and_true, true_and, and_true, and_self, imp_self, implies_true, bne_iff_ne, ne_eq, beq_iff_eq]; done) | (intros; simp_all; done) | exact True.intro) ?_)
      refine (Ut hy26).then ?_
      simp only [push_cast, seval, ↓reduceIte, Za, c28, c29, c30, c31, hN0, hN]
      repeat (with_reducible refine And.intro (by first | (intro h0; simp only [h0, and_self]; done) | (intro h0; simp only [h0, Bool.not_false, Bool.not_true, Bool.true_and, Bool.and_true, true_and, and_true, and_self, imp_self, implies_true, bne_iff_ne, ne_eq, beq_iff_eq]; done) | (intros; simp_all; done) | exact True.intro) ?_)
      have hz23 := Option.some.inj hz23; subst hz23
      refine And.intro rfl (Fit2.of (Y1 hU rfl rfl ?_) (by omega))
      simp only [push_cast, seval, ↓reduceIte, Za, c28, c29, c30, c31, hN0, hN]
     replace hz23 := Z3 c31 hz23
     try rw [c31] at c28
     try rw [c31] at c29
     try rw [c31] at c30
     rcases Bool.eq_false_or_eq_true (y12.2 == 0) with c32 | c32
     ·replace hz23 := Z4 c32 hz23
      try rw [c32] at c28
      try rw [c32] at c29
      try rw [c32] at c30
      try rw [c32] at c31
      obtain ⟨y27, hy27, hz23⟩ := bC hz23
      refine Zb Ze [none, none, none, none, none, none, none, none, none, none, none, some true] ?_
      simp only [push_cast, seval, ↓reduceIte, Za, c28, c29, c30, c31, c32, hN0, hN]
      repeat (with_reducible refine And.intro (by first | (intro h0; simp only [h0, and_self]; done) | (intro h0; simp only [h0, Bool.not_false, Bool.not_true, Bool.true_and, Bool.and_true, true_and, and_true, and_self, imp_self, implies_true, bne_iff_ne, ne_eq, beq_iff_eq]; done) | (intros; simp_all; done) | exact True.intro) ?_)
      refine (Ut hy27).then ?_
      simp only [push_cast, seval, ↓reduceIte, Za, c28, c29, c30, c31, c32, hN0, hN]
      repeat (with_reducible refine And.intro (by first | (intro h0; simp only [h0, and_self]; done) | (intro h0; simp only [h0, Bool.not_false, Bool.not_true, Bool.true_and, Bool.and_true, true_and, and_true, and_self, imp_self, implies_true, bne_iff_ne, ne_eq, beq_iff_eq]; done) | (intros; simp_all; done) | exact True.intro) ?_)
      have hz23 := Option.some.inj hz23; subst hz23
      refine And.intro rfl (Fit2.of (Y1 hU rfl rfl ?_) (by omega))
      simp only [push_cast, seval, ↓reduceIte, Za, c28, c29, c30, c31, c32, hN0, hN]
     replace hz23 := Z3 c32 hz23
     try rw [c32] at c28
     try rw [c32] at c29
     try rw [c32] at c30
     try rw [c32] at c31
     refine Zb Ze [none, none, none, none, none, none, none, none, none, none, none, some false] ?_
     simp only [push_cast, seval, ↓reduceIte, Za, c28, c29, c30, c31, c32, hN0, hN]
     repeat (with_reducible refine And.intro (by first | (intro h0; simp only [h0, and_self]; done) | (intro h0; simp only [h0, Bool.not_false, Bool.not_true, Bool.true_and, Bool.and_true, true_and, and_true, and_self, imp_self, implies_true, bne_iff_ne, ne_eq, beq_iff_eq]; done) | (intros; simp_all; done) | exact True.intro) ?_)
     have hz23 := Option.some.inj hz23; subst hz23
     refine And.intro rfl (Fit2.of (Y1 hU rfl rfl ?_) (by omega))
     simp only [push_cast, seval, ↓reduceIte, Za, c28, c29, c30, c31, c32, hN0, hN]
    replace hz23 := Z3 c30 hz23
    try rw [c30] at c28
    try rw [c30] at c29
    refine Zb Ze [none, none, none, none, none, none, none, none, none, none, none, some false] ?_
    simp only [push_cast, seval, ↓reduceIte, Za, c28, c29, c30, hN0, hN]
    repeat (with_reducible refine And.intro (by first | (intro h0; simp only [h0, and_self]; done) | (intro h0; simp only [h0, Bool.not_false, Bool.not_true, Bool.true_and, Bool.and_true, true_and, and_true, and_self, imp_self, implies_true, bne_iff_ne, ne_eq, beq_iff_eq]; done) | (intros; simp_all; done) | exact True.intro) ?_)
    have hz23 := Option.some.inj hz23; subst hz23
    refine And.intro rfl (Fit2.of (Y1 hU rfl rfl ?_) (by omega))
    simp only [push_cast, seval, ↓reduceIte, Za, c28, c29, c30, hN0, hN]
   replace hz23 := Z3 c29 hz23
   try rw [c29] at c28
   refine Zb Ze [none, none, none, none, none, none, none, none, none, none, none, some false] ?_
   simp only [push_cast, seval, ↓reduceIte, Za, c28, c29, hN0, hN]
   repeat (with_reducible refine And.intro (by first | (intro h0; simp only [h0, and_self]; done) | (intro h0; simp only [h0, Bool.not_false, Bool.not_true, Bool.true_and, Bool.and_true, true_and, and_true, and_self, imp_self, implies_true, bne_iff_ne, ne_eq, beq_iff_eq]; done) | (intros; simp_all; done) | exact True.intro) ?_)
   have hz23 := Option.some.inj hz23; subst hz23
   refine And.intro rfl (Fit2.of (Y1 hU rfl rfl ?_) (by omega))
   simp only [push_cast, seval, ↓reduceIte, Za, c28, c29, hN0, hN]
  replace hz23 := Z3 c28 hz23
  refine Zb Ze [none, none, none, none, none, none, none, none, none, none, none, some false] ?_
  simp only [push_cast, seval, ↓reduceIte, Za, c28, hN0, hN]
  repeat (with_reducible refine And.intro (by first | (intro h0; simp only [h0, and_self]; done) | (intro h0; simp only [h0, Bool.not_false, Bool.not_true, Bool.true_and, Bool.and_true, true_and, and_true, and_self, imp_self, implies_true, bne_iff_ne, ne_eq, beq_iff_eq]; done) | (intros; simp_all; done) | exact True.intro) ?_)
  have hz23 := Option.some.inj hz23; subst hz23
  refine And.intro rfl (Fit2.of (Y1 hU rfl rfl ?_) (by omega))
  simp only [push_cast, seval, ↓reduceIte, Za, c28, hN0, hN]
 refine Zy ?_
 try simp only [Zm, Zj]
 have h := Option.some.inj h; subst h
 refine Zn (.inr rfl) hU [.val (.bool z23)] (by omega) ?_
 simp only [push_cast, seval, ↓reduceIte, Za, Try.results10, hN0, hN]
end Go.Proofs.Ytmlhokaflhlhbaa
