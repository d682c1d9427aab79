/- Part VM4 of this seat's mirrors: functions of the seat's program, and the plain functions that they are; each theorem bears its own conditions. -/
import Derived.Test.YtmlhokaflhlhbaaVE
import Derived.Test.YtmlhokaflhlhbaaVM3
namespace Go.Proofs.Ytmlhokaflhlhbaa
open Go.RowKit
set_option linter.unusedVariables false
set_option linter.unusedSimpArgs false
set_option maxRecDepth 100000
set_option maxHeartbeats 4000000
attribute [local push_cast] Z6 K4 Qb Yt Zi Zfv Zfu Zgj Zgi Zm Zj Zc2 Gc Gb onW Yd Kx J9 Zf0 Ze2 Zbv Zb0 Zbu Zbz Zdw Zdt Zby Zdv Zdu Zbw Zdr Gy evS wok Ys Op.operands Call.operands gop onK onP atK List.all_cons List.all_nil Bool.and_true Bool.true_and Bool.and_self Value.oneCell' List.take_zero List.take_succ_cons List.take_nil List.drop_zero List.drop_succ_cons List.drop_nil List.append_nil Nat.add_zero Nat.zero_add Ql Zq ev Yw Zk2 Zfm Zfl Zfr Zfp Zfq Zfn Zfo Zfk Zh6 Zio Zk3 Zay Kc Zaq Kt Zbc Uk Vs Vx U7 U4 Vv U6 U5 Vu U2 Vt Vw K5 U3 Zc4 Gd Jd Zar Je Zb5 Zax Zje bLo bHi bMx Ke Zb4 Zl3 Zaw Zch Vq Qr Zij Zl7 Zao Zmb Kb Zm7 Zc7 Zdb Zc6 Zda Zf7 Zf4 Zf2 Zbg Zc8 Zf6 Zf5 Zc9 Zf3 Zb6 Zfw Zdk Gt Gs pop TK.isAgg Zgc Zgg Zgb Zgf Zde Zjt Zjq Zge Zjs Zjr Zgd Zjp G.under G.unders List.getD_cons_zero List.getD_cons_succ List.set_cons_zero List.set_cons_succ List.map_cons List.map_nil List.toList_toArray Array.toList_append Option.toArray_none Option.toArray_some Array.toList_map Option.map_some Option.map_none Option.bind_some Option.bind_none List.getElem?_cons_zero List.getElem?_cons_succ List.getElem?_nil List.nil_append List.cons_append List.replicate_succ List.replicate_zero List.length_cons List.length_nil and_true true_and and_false false_and Bool.true_eq_false Bool.false_eq_true forall_const false_implies implies_true IntKind.bits if_true if_false ite_true ite_false eq_self true_implies false_or or_false or_true true_or not_true_eq_false not_false_eq_true decide_true decide_false decide_eq_true_eq decide_eq_false_iff_not beq_iff_eq bne_iff_ne ne_eq Bool.not_eq_true Bool.not_eq_false beq_eq_false_iff_ne bne_eq_false_iff_eq beq_self_eq_true bne_self_eq_false Option.some.injEq exists_eq_left' exists_eq_left ge_iff_le gt_iff_lt decide_not Bool.not_true Bool.not_false imp_self Zjg cond_true cond_false Zq0 Zqz Bool.not_not Bool.and_false Bool.false_and Bool.or_true Bool.true_or Bool.or_false Bool.false_or K2 Zfb Zeh Zcy Za7 Us Option.join_some Nat.add_assoc Int.toNat_natCast eI eB eS eL U8 Uv V3 Zfz Zfx Zfy Znm Zpe Ux V9 Zgq Zgo Zgp Zla Zc1 Zi8 Zdp Zi7 Ut Zi9 List.length_append G.agg.injEq G.row.injEq G.ref.injEq G.val.injEq G.sl.injEq G.tup.injEq Value.int.injEq Value.bool.injEq Value.string.injEq List.cons.injEq exists_and_left exists_const List.flatten_cons List.flatten_nil Int.le_refl Nat.le_refl Zee Qq Zcz Bool.not_eq_true' Bool.not_eq_false' Zh1 Zad Zku Zky Zkt Zkx Zox Zot List.size_toArray Zgs Zgt G.ren G.rens Zip Un Zgv Zfh Zfi Zds Zkz Gm G.fn.injEq Zb1 Zeg Zhz Zou Zef Zkw Zow Zov Zkv Zjk Zng Option.join_none Xh Jc undef Zci Arr.len Arr.put_eq Uw Zbj Gn V8 Zgn Zgl Zgm onB Znl Zih Zdq Zco Zcp Zcq Zcr Zcs Zct Zbh Zbn Zbl Gr Ua Zbm Zdj Zdi Zdh Zdg Zpd Zqn Zk9 Zjv Xp Zk5 Zf8 Zbp Gq Zmh Zgy Zav Zcg Ve Zbq Zcu Zcv Zcw Zcx Za0 Za1 Za2 Za3 Za4 Za5 Za6 Vy prT K9 Zrx Zki Zqr Zkj Zry Zkk Zrz Zkl Zr0 Zkm Zr1 Zkn Zr2 Zko Zr3 Zkp Zns Zg0 Znt Zg1 Znu Zg2 Znv Zg3 Znw Zg4 Znx Zg5 Zny Zg6 Znz Zg7 Zn0 Zg8 Zn1 Zg9 Zn2 Zha Zn3 Zhb Zn4 Zhc Zn5 Zep Zn6 Zhd Zn7 Zhe Zn8 Zhf Zgz Zhg Zn9 Zhh Zoa Zhi Zez Zeq Zob Zhj Zoc Zhk Zod Zhl Zoe Zhm Zof Zhn Zog Zho Zoh Zhp Zoi Zhq Zoj Zhr Zok Zhs Zol Zht Zom Zhu Zon Zhv Zoo Zhw Zop Zhx Zoq Zhy Zj1 Zdx Zj2 Zdy Zj3 Zdz Zj4 Zd0 Zj5 Zd1 Zj6 Zd2 Zj7 Zd3 Zj8 Zd4 Zj9 Zd5 Zka Zd6 Zkb Zd7 Zkc Zd8 Zkd Zd9 Zke Zea Zkf Zeb Zkg Zec Zkh Zed Zaf Zac Gh Gl Zai Uj Ug Ue G0 Kp Ko Kf Kk Kq Jz Jy Jx Km Zf X3 X2 Xy X0 X4 Xv Xt Xs X1 V0 Zae Zab Gg Gk Zah Ui Uf Ud Gz Vz Jt Qc Qd Y4 Zo Xj Xi Xe Xf Xk Xb Xa Y9 Xg Zy X6 Q8 Q7 Q1 Q3 Q9 Qw Qv Qu Q6
theorem Zbi {Zs : (Zc → Zd → Int → Option (Int × Zc))} {Zr : (Zc → Zd → Int → Option (Int × Zc))} {Zu : (Zc → Zd → Int → Option (Int × Zc))} (Q0 : ∀ {a0 : Zc} {a1 : Zd} {a2 : Int} {r : (Int × Zc)} {O : Objs} {n : Nat} {i0 : Nat}, i0 < n → O i0 = some ⟨false, 107, 1, 1, [.val (.int .i64 a0.left)]⟩ → Zs a0 a1 a2 = some r → GTo Try.prog 62 [.ref i0 0, .agg (Zi a1), .val (.int .i64 a2)] O n (.val (.int .i64 r.1)) (Zx (O.upd i0 (some ⟨false, 107, 1, 1, [.val (.int .i64 r.2.left)]⟩)) n []) (n + 0)) (Xw : ∀ {a0 : Zc} {a1 : Zd} {a2 : Int} {r : (Int × Zc)} {O : Objs} {n : Nat} {i0 : Nat}, i0 < n → O i0 = some ⟨false, 107, 1, 1, [.val (.int .i64 a0.left)]⟩ → Zr a0 a1 a2 = some r → GTo Try.prog 85 [.ref i0 0, .agg (Zi a1), .val (.int .i64 a2)] O n (.val (.int .i64 r.1)) (Zx (O.upd i0 (some ⟨false, 107, 1, 1, [.val (.int .i64 r.2.left)]⟩)) n []) (n + 0)) (Qi : ∀ {a0 : Zc} {a1 : Zd} {a2 : Int} {r : (Int × Zc)} {O : Objs} {n : Nat} {i0 : Nat}, i0 < n → O i0 = some ⟨false, 107, 1, 1, [.val (.int .i64 a0.left)]⟩ → Zu a0 a1 a2 = some r → GTo Try.prog 86 [.ref i0 0, .agg (Zi a1), .val (.int .i64 a2)] O n (.val (.int .i64 r.1)) (Zx (O.upd i0 (some ⟨false, 107, 1, 1, [.val (.int .i64 r.2.left)]⟩)) n []) (n + 0)) {a0 : Zc} {a1 : Zd} {a2 : Int} {r : (Int × Zc)} {O : Objs} {n : Nat} {i0 : Nat} (hi0 : i0 < n) (ho0 : O i0 = some ⟨false, 107, 1, 1, [.val (.int .i64 a0.left)]⟩) (h : Yu Zs Zr Zu a0 a1 a2 = some r) : GTo Try.prog 62 [.ref i0 0, .agg (Zi a1), .val (.int .i64 a2)] O n (.val (.int .i64 r.1)) (Zx (O.upd i0 (some ⟨false, 107, 1, 1, [.val (.int .i64 r.2.left)]⟩)) n []) (n + 0) := by
 unfold Yu at h
 refine Xd Ze Try.call62 Try.func62 rfl (Nat.le_of_ble_eq_true rfl) (by omega) fun hU => ?_
 rw [show Zx O n [] = Zx (O.upd i0 (some ⟨false, 107, 1, 1, [.val (.int .i64 a0.left)]⟩)) n [] from by rw [Zks (show O i0 = _ from by exact ho0)]]
 have hk0 : ∀ k, i0 < n + k := fun k => by omega
 have hN0 : ∀ o, Objs.upd O i0 o n = none := fun o => Uz hU hi0 _ (Nat.le_refl _)
 have hN : ∀ o k, Objs.upd O i0 o (n + k) = none := fun o k => Uz hU hi0 _ (Nat.le_add_right _ _)
 show W _ _ _ _ ⟨46, [], [(0, .ref i0 0), (1, .agg (Zi a1)), (2, .val (.int .i64 a2))]⟩ (Zx (O.upd i0 (some ⟨false, 107, 1, 1, [.val (.int .i64 a0.left)]⟩)) n []) _
 refine Zv [0, 2, 4] (Zb Ze [] ?_)
 simp only [push_cast, seval, ↓reduceIte, Za, hi0, hk0, hN0, hN]
 refine Zl ?_
 obtain ⟨z3, hz3, h⟩ := bC h
 refine Zc0 (E' := ⟨46, [], [(0, .ref i0 0), (2, .val (.int .i64 a2)), (4, .ref n 0), (19, .val (.bool z3))]⟩) (O' := (Zx (O.upd i0 (some ⟨false, 107, 1, 1, [.val (.int .i64 a0.left)]⟩)) n [some ⟨false, 27, 9, 1, (Zi a1)⟩])) (n0 := (n + 1)) ?_ ?_
 ·obtain ⟨y6, hy6, hz3⟩ := bC hz3
  rcases Bool.eq_false_or_eq_true (decide (a2 < y6)) with c8 | c8
  ·replace hz3 := Z5 c8 hz3
   refine Up Ze (by kernel_rfl) [some false, some false, some false, some false, some false, some false, some false] (by kernel_rfl) ?_
   simp only [push_cast, seval, ↓reduceIte, Za, c8, hi0, hk0, hN0, hN]
   refine PCall.of (Zcj hy6) ?_
   simp only [push_cast, seval, ↓reduceIte, Za, c8, hi0, hk0, hN0, hN]
   have hz3 := Option.some.inj hz3; subst hz3
   refine And.intro rfl (Fit2.of (Y0 hU rfl rfl ?_) (by omega))
   simp only [push_cast, seval, ↓reduceIte, Za, c8, hi0, hk0, hN0, hN]
  replace hz3 := Z4 c8 hz3
  obtain ⟨y7, hy7, hz3⟩ := bC hz3
  refine Up Ze (by kernel_rfl) [some true, some true, some true, some true, some true, some true, some true] (by kernel_rfl) ?_
  simp only [push_cast, seval, ↓reduceIte, Za, c8, hi0, hk0, hN0, hN]
  refine PCall.of (Zcj hy6) ?_
  simp only [push_cast, seval, ↓reduceIte, Za, c8, hi0, hk0, hN0, hN]
  refine PCall.of (Zck hy7) ?_
  simp only [push_cast, seval, ↓reduceIte, Za, c8, hi0, hk0, hN0, hN]
  have hz3 := Option.some.inj hz3; subst hz3
  refine And.intro rfl (Fit2.of (Y0 hU rfl rfl ?_) (by omega))
  simp only [push_cast, seval, ↓reduceIte, Za, c8, hi0, hk0, hN0, hN]
 refine Zz (t := z3) rfl (fun c21 => ?_) (fun c21 => ?_)
 ·replace h := Z5 c21 h
  refine Zv [6] (Zb Ze [] ?_)
  simp only [push_cast, seval, ↓reduceIte, Za, hi0, hk0, hN0, hN]
  refine Zw ?_
  try simp only [Zm, Zj]
  have h := Option.some.inj h; subst h
  refine V1 (k := 0) (i := i0) (q1 := ⟨false, 107, 1, 1, [.val (.int .i64 a0.left)]⟩) (L3 := [none]) (E2 := (⟨46, [], [(6, .val (.int .i64 3))]⟩ : Env)) (n3 := (n + 1)) (.inr rfl) hU rfl [.val (.int .i64 3)] ?_ ?_
  ·refine Fit2.trans (E' := (⟨46, [], [(6, .val (.int .i64 3))]⟩ : Env)) (O' := (Zx (O.upd i0 (some ⟨false, 107, 1, 1, [.val (.int .i64 a0.left)]⟩)) n [none])) (n' := (n + 1)) (Fit2.of (Y0 hU rfl rfl ?_) (by omega)) ?_
   ·simp only [push_cast, seval, ↓reduceIte, Za, hi0, hk0, hN0, hN]
   refine Ub (k := 1) (k' := 1) hU [0] [0] rfl rfl rfl rfl ⟨rfl, rfl⟩ ?_
   simp only [push_cast, seval, ↓reduceIte, Za, hi0, hk0, hN0, hN]
  simp only [push_cast, seval, ↓reduceIte, Za, Try.results62, hi0, hk0, hN0, hN]
 replace h := Z4 c21 h
 refine Yb ?_
 try simp only [Zm, Zj]
 refine Zk [0, 2, 4] [true] ?_
 simp only [push_cast, seval, ↓reduceIte]
 refine Zl ?_
 obtain ⟨y10, hy10, h⟩ := bC h
 refine Zls Ze (by kernel_rfl) [false, false, false, false, false, false, false, false, false, true] [] (by kernel_rfl) ?_
 simp only [push_cast, seval, ↓reduceIte, Za, hi0, hk0, hN0, hN]
 refine PCall.of (Zck hy10) ?_
 simp only [push_cast, seval, ↓reduceIte, Za, hi0, hk0, hN0, hN]
 refine Zk [0, 2, 4] [true] ?_
 simp only [push_cast, seval, ↓reduceIte]
 refine Zl ?_
 refine Zl ?_
 obtain ⟨y12, hy12, h⟩ := bC h
 refine Zb Ze [] ?_
 simp only [push_cast, seval, ↓reduceIte, Za, hi0, hk0, hN0, hN]
 refine (Qj hy12).then ?_
 simp only [push_cast, seval, ↓reduceIte, Za, hi0, hk0, hN0, hN]
 refine Zk [0, 2, 4, 30] [true] ?_
 simp only [push_cast, seval, ↓reduceIte]
 refine J3 ?_
 obtain ⟨z13, hz13, h⟩ := bC h
 refine Zc0 (E' := ⟨46, [], [(0, .ref i0 0), (2, .val (.int .i64 a2)), (4, .ref n 0), (30, .val (.int .i64 y12)), (31, .val (.bool z13))]⟩) (O' := (Zx (O.upd i0 (some ⟨false, 107, 1, 1, [.val (.int .i64 (IntKind.i64.wrap (a0.left - y10)))]⟩)) n [some ⟨false, 27, 9, 1, (Zi a1)⟩])) (n0 := (n + 1)) ?_ ?_
 ·refine Zv [0, 2, 4, 30, 31] (Zb Ze [] ?_)
  simp only [push_cast, seval, ↓reduceIte, Za, hi0, hk0, hN0, hN]
  refine Zz (t := (y12 == 1)) rfl (fun c14 => ?_) (fun c14 => ?_)
  ·replace hz13 := Z5 c14 hz13
   refine Yb ?_
   try simp only [Zm, Zj]
   have hz13 := Option.some.inj hz13; subst hz13
   refine And.intro rfl (Fit2.of (Y0 hU rfl rfl ?_) (by omega))
   simp only [push_cast, seval, ↓reduceIte, Za, hi0, hk0, hN0, hN]
  replace hz13 := Z4 c14 hz13
  refine Zb Ze [] ?_
  simp only [push_cast, seval, ↓reduceIte, Za, hi0, hk0, hN0, hN]
  have hz13 := Option.some.inj hz13; subst hz13
  refine And.intro rfl (Fit2.of (Y0 hU rfl rfl ?_) (by omega))
  simp only [push_cast, seval, ↓reduceIte, Za, hi0, hk0, hN0, hN]
 refine Zz (t := z13) rfl (fun c20 => ?_) (fun c20 => ?_)
 ·replace h := Z5 c20 h
  refine Zl ?_
  obtain ⟨y16, hy16, h⟩ := bC h
  refine Zb Ze [] ?_
  simp only [push_cast, seval, ↓reduceIte, Za, hi0, hk0, hN0, hN]
  refine (Xw (i0 := i0) (by omega) (by simp only [push_cast, seval, ↓reduceIte, Za, U8, hi0, hk0, hN0, hN] <;> rfl) hy16).then ?_
  simp only [push_cast, seval, ↓reduceIte, Za, hi0, hk0, hN0, hN]
  refine Zk [6] [false] ?_
  simp only [push_cast, seval, ↓reduceIte]
  refine Zw ?_
  try simp only [Zm, Zj]
  have h := Option.some.inj h; subst h
  refine V1 (k := 0) (i := i0) (q1 := ⟨false, 107, 1, 1, [.val (.int .i64 y16.2.left)]⟩) (L3 := [none]) (E2 := (⟨46, [], [(6, .val (.int .i64 y16.1))]⟩ : Env)) (n3 := (n + 1)) (.inr rfl) hU rfl [.val (.int .i64 y16.1)] ?_ ?_
  ·refine Fit2.trans (E' := (⟨46, [], [(6, .val (.int .i64 y16.1))]⟩ : Env)) (O' := (Zx (O.upd i0 (some ⟨false, 107, 1, 1, [.val (.int .i64 y16.2.left)]⟩)) n [none])) (n' := (n + 1)) (Fit2.of (Y0 hU rfl rfl ?_) (by omega)) ?_
   ·simp only [push_cast, seval, ↓reduceIte, Za, hi0, hk0, hN0, hN]
   refine Ub (k := 1) (k' := 1) hU [0] [0] rfl rfl rfl rfl ⟨rfl, rfl⟩ ?_
   simp only [push_cast, seval, ↓reduceIte, Za, hi0, hk0, hN0, hN]
  simp only [push_cast, seval, ↓reduceIte, Za, Try.results62, hi0, hk0, hN0, hN]
 replace h := Z4 c20 h
 refine Zv [0, 2, 4, 39] (Zb Ze [] ?_)
 simp only [push_cast, seval, ↓reduceIte, Za, hi0, hk0, hN0, hN]
 refine Zz (t := (y12 == 9)) rfl (fun c19 => ?_) (fun c19 => ?_)
 ·replace h := Z5 c19 h
  refine Zl ?_
  obtain ⟨y18, hy18, h⟩ := bC h
  refine Zb Ze [] ?_
  simp only [push_cast, seval, ↓reduceIte, Za, hi0, hk0, hN0, hN]
  refine (Qi (i0 := i0) (by omega) (by simp only [push_cast, seval, ↓reduceIte, Za, U8, hi0, hk0, hN0, hN] <;> rfl) hy18).then ?_
  simp only [push_cast, seval, ↓reduceIte, Za, hi0, hk0, hN0, hN]
  refine Zk [6] [false] ?_
  simp only [push_cast, seval, ↓reduceIte]
  refine Zw ?_
  try simp only [Zm, Zj]
  have h := Option.some.inj h; subst h
  refine V1 (k := 0) (i := i0) (q1 := ⟨false, 107, 1, 1, [.val (.int .i64 y18.2.left)]⟩) (L3 := [none]) (E2 := (⟨46, [], [(6, .val (.int .i64 y18.1))]⟩ : Env)) (n3 := (n + 1)) (.inr rfl) hU rfl [.val (.int .i64 y18.1)] ?_ ?_
  ·refine Fit2.trans (E' := (⟨46, [], [(6, .val (.int .i64 y18.1))]⟩ : Env)) (O' := (Zx (O.upd i0 (some ⟨false, 107, 1, 1, [.val (.int .i64 y18.2.left)]⟩)) n [none])) (n' := (n + 1)) (Fit2.of (Y0 hU rfl rfl ?_) (by omega)) ?_
   ·simp only [push_cast, seval, ↓reduceIte, Za, hi0, hk0, hN0, hN]
   refine Ub (k := 1) (k' := 1) hU [0] [0] rfl rfl rfl rfl ⟨rfl, rfl⟩ ?_
   simp only [push_cast, seval, ↓reduceIte, Za, hi0, hk0, hN0, hN]
  simp only [push_cast, seval, ↓reduceIte, Za, Try.results62, hi0, hk0, hN0, hN]
 replace h := Z4 c19 h
 refine Yb ?_
 try simp only [Zm, Zj]
 refine Zk [] [false] ?_
 simp only [push_cast, seval, ↓reduceIte]
 refine Zv [6] (Zb Ze [] ?_)
 simp only [push_cast, seval, ↓reduceIte, Za, hi0, hk0, hN0, hN]
 refine Zw ?_
 try simp only [Zm, Zj]
 have h := Option.some.inj h; subst h
 refine V1 (k := 0) (i := i0) (q1 := ⟨false, 107, 1, 1, [.val (.int .i64 (IntKind.i64.wrap (a0.left - y10)))]⟩) (L3 := [none]) (E2 := (⟨46, [], [(6, .val (.int .i64 0))]⟩ : Env)) (n3 := (n + 1)) (.inr rfl) hU rfl [.val (.int .i64 0)] ?_ ?_
 ·refine Fit2.trans (E' := (⟨46, [], [(6, .val (.int .i64 0))]⟩ : Env)) (O' := (Zx (O.upd i0 (some ⟨false, 107, 1, 1, [.val (.int .i64 (IntKind.i64.wrap (a0.left - y10)))]⟩)) n [none])) (n' := (n + 1)) (Fit2.of (Y0 hU rfl rfl ?_) (by omega)) ?_
  ·simp only [push_cast, seval, ↓reduceIte, Za, hi0, hk0, hN0, hN]
  refine Ub (k := 1) (k' := 1) hU [0] [0] rfl rfl rfl rfl ⟨rfl, rfl⟩ ?_
  simp only [push_cast, seval, ↓reduceIte, Za, hi0, hk0, hN0, hN]
 simp only [push_cast, seval, ↓reduceIte, Za, Try.results62, hi0, hk0, hN0, hN]
theorem Zb9 {Zs : (Zc → Zd → Int → Option (Int × Zc))} {Zr : (Zc → Zd → Int → Option (Int × Zc))} {Zu : (Zc → Zd → Int → Option (Int × Zc))} (Q0 : ∀ {a0 : Zc} {a1 : Zd} {a2 : Int} {r : (Int × Zc)} {O : Objs} {n : Nat} {i0 : Nat}, i0 < n → O i0 = some ⟨false, 107, 1, 1, [.val (.int .i64 a0.left)]⟩ → Zs a0 a1 a2 = some r → GTo Try.prog 62 [.ref i0 0, .agg (Zi a1), .val (.int .i64 a2)] O n (.val (.int .i64 r.1)) (Zx (O.upd i0 (some ⟨false, 107, 1, 1, [.val (.int .i64 r.2.left)]⟩)) n []) (n + 0)) (Xw : ∀ {a0 : Zc} {a1 : Zd} {a2 : Int} {r : (Int × Zc)} {O : Objs} {n : Nat} {i0 : Nat}, i0 < n → O i0 = some ⟨false, 107, 1, 1, [.val (.int .i64 a0.left)]⟩ → Zr a0 a1 a2 = some r → GTo Try.prog 85 [.ref i0 0, .agg (Zi a1), .val (.int .i64 a2)] O n (.val (.int .i64 r.1)) (Zx (O.upd i0 (some ⟨false, 107, 1, 1, [.val (.int .i64 r.2.left)]⟩)) n []) (n + 0)) (Qi : ∀ {a0 : Zc} {a1 : Zd} {a2 : Int} {r : (Int × Zc)} {O : Objs} {n : Nat} {i0 : Nat}, i0 < n → O i0 = some ⟨false, 107, 1, 1, [.val (.int .i64 a0.left)]⟩ → Zu a0 a1 a2 = some r → GTo Try.prog 86 [.ref i0 0, .agg (Zi a1), .val (.int .i64 a2)] O n (.val (.int .i64 r.1)) (Zx (O.upd i0 (some ⟨false, 107, 1, 1, [.val (.int .i64 r.2.left)]⟩)) n []) (n + 0)) {a0 : Zc} {a1 : Zd} {a2 : Int} {r : (Int × Zc)} {O : Objs} {n : Nat} {i0 : Nat} (hi0 : i0 < n) (ho0 : O i0 = some ⟨false, 107, 1, 1, [.val (.int .i64 a0.left)]⟩) (h : Yy Zs Zr Zu a0 a1 a2 = some r) : GTo Try.prog 85 [.ref i0 0, .agg (Zi a1), .val (.int .i64 a2)] O n (.val (.int .i64 r.1)) (Zx (O.upd i0 (some ⟨false, 107, 1, 1, [.val (.int .i64 r.2.left)]⟩)) n []) (n + 0) := by
 unfold Yy at h
 refine Xd Ze Try.call85 Try.func85 rfl (Nat.le_of_ble_eq_true rfl) (by omega) fun hU => ?_
 rw [show Zx O n [] = Zx (O.upd i0 (some ⟨false, 107, 1, 1, [.val (.int .i64 a0.left)]⟩)) n [] from by rw [Zks (show O i0 = _ from by exact ho0)]]
 have hk0 : ∀ k, i0 < n + k := fun k => by omega
 have hN0 : ∀ o, Objs.upd O i0 o n = none := fun o => Uz hU hi0 _ (Nat.le_refl _)
 have hN : ∀ o k, Objs.upd O i0 o (n + k) = none := fun o k => Uz hU hi0 _ (Nat.le_add_right _ _)
 show W _ _ _ _ ⟨33, [], [(0, .ref i0 0), (1, .agg (Zi a1)), (2, .val (.int .i64 a2))]⟩ (Zx (O.upd i0 (some ⟨false, 107, 1, 1, [.val (.int .i64 a0.left)]⟩)) n []) _
 refine Zv [0, 2, 4] (Zb Ze [] ?_)
 simp only [push_cast, seval, ↓reduceIte, Za, hi0, hk0, hN0, hN]
 refine Zl ?_
 refine Zl ?_
 obtain ⟨y2, hy2, h⟩ := bC h
 refine Zb Ze [] ?_
 simp only [push_cast, seval, ↓reduceIte, Za, hi0, hk0, hN0, hN]
 refine (Yx hy2).then ?_
 simp only [push_cast, seval, ↓reduceIte, Za, hi0, hk0, hN0, hN]
 refine Zk [0, 2, 4, 12, 13] [true] ?_
 simp only [push_cast, seval, ↓reduceIte]
 refine Zk [0, 2, 4, 12, 13] [true] ?_
 simp only [push_cast, seval, ↓reduceIte]
 obtain ⟨z10, hz10, h⟩ := bC h
 refine Zqu (J := (Zmp (fun z10 => JR n (⟨33, [], [(6, .val (.int .i64 z10.1))]⟩ : Env) (Zx (O.upd i0 (some ⟨false, 107, 1, 1, [.val (.int .i64 z10.2)]⟩)) n [none]) (n + 1)) (fun z10 => JX 0 n (⟨33, [], []⟩ : Env) (Zx (O.upd i0 (some ⟨false, 107, 1, 1, [.val (.int .i64 z10)]⟩)) n [none]) (n + 1)))) (z := z10) ?_ fun hw => ?_
 ·refine Zlu hz10 (fun s0_ => ⟨33, [], [(0, .ref i0 0), (2, .val (.int .i64 a2)), (4, .ref n 0), (12, .val (.int .i64 y2)), (13, .val (.int .i64 s0_.1))]⟩) (fun s0_ => (Zx (O.upd i0 (some ⟨false, 107, 1, 1, [.val (.int .i64 s0_.2)]⟩)) n [some ⟨false, 27, 9, 1, (Zi a1)⟩])) (Zmp (fun z10 => JR n (⟨33, [], [(6, .val (.int .i64 z10.1))]⟩ : Env) (Zx (O.upd i0 (some ⟨false, 107, 1, 1, [.val (.int .i64 z10.2)]⟩)) n [none]) (n + 1)) (fun z10 => JX 0 n (⟨33, [], []⟩ : Env) (Zx (O.upd i0 (some ⟨false, 107, 1, 1, [.val (.int .i64 z10)]⟩)) n [none]) (n + 1))) ?_
  intro s0_ x0_ hs0_
  unfold Yz at hs0_
  try dsimp only
  refine Zv [0, 2, 4, 12, 13, 14] (Zb Ze [] ?_)
  simp only [push_cast, seval, ↓reduceIte, Za, hi0, hk0, hN0, hN]
  refine Zl ?_
  refine Zz (t := (decide (s0_.1 < y2))) rfl (fun c9 => ?_) (fun c9 => ?_)
  ·replace hs0_ := Z5 c9 hs0_
   refine Yb ?_
   try simp only [Zm, Zj]
   refine Zk [0, 2, 4, 12, 13] [true] ?_
   simp only [push_cast, seval, ↓reduceIte]
   refine Zl ?_
   refine J3 ?_
   refine Zv [0, 2, 4, 7, 12, 13] (Zb Ze [] ?_)
   simp only [push_cast, seval, ↓reduceIte, Za, hi0, hk0, hN0, hN]
   refine Zl ?_
   obtain ⟨y4, hy4, hs0_⟩ := bC hs0_
   refine Zb Ze [] ?_
   simp only [push_cast, seval, ↓reduceIte, Za, hi0, hk0, hN0, hN]
   refine (Zas hy4).then ?_
   simp only [push_cast, seval, ↓reduceIte, Za, hi0, hk0, hN0, hN]
   refine Zk [0, 2, 4, 8, 9, 12, 13] [true, true] ?_
   simp only [push_cast, seval, ↓reduceIte]
   refine Zl ?_
   refine Zv [0, 2, 4, 8, 9, 12, 13, 23] (Zb Ze [] ?_)
   simp only [push_cast, seval, ↓reduceIte, Za, hi0, hk0, hN0, hN]
   refine Zz (t := (y4.2 != 0)) rfl (fun c8 => ?_) (fun c8 => ?_)
   ·replace hs0_ := Z5 c8 hs0_
    refine Zv [6] (Zb Ze [] ?_)
    simp only [push_cast, seval, ↓reduceIte, Za, hi0, hk0, hN0, hN]
    refine Zw ?_
    try simp only [Zm, Zj]
    have hs0_ := Option.some.inj hs0_; subst hs0_
    refine And.intro (fun h => by cases h) (And.intro rfl (Fit2.of (Y0 hU rfl rfl ?_) (by omega)))
    simp only [push_cast, seval, ↓reduceIte, Za, hi0, hk0, hN0, hN]
   replace hs0_ := Z4 c8 hs0_
   refine Yb ?_
   try simp only [Zm, Zj]
   refine Zk [0, 2, 4, 8, 12, 13] [true, true] ?_
   simp only [push_cast, seval, ↓reduceIte]
   refine Zl ?_
   obtain ⟨y6, hy6, hs0_⟩ := bC hs0_
   refine Zb Ze [] ?_
   simp only [push_cast, seval, ↓reduceIte, Za, hi0, hk0, hN0, hN]
   refine (Q0 (i0 := i0) (by omega) (by simp only [push_cast, seval, ↓reduceIte, Za, U8, hi0, hk0, hN0, hN] <;> rfl) hy6).then ?_
   simp only [push_cast, seval, ↓reduceIte, Za, hi0, hk0, hN0, hN]
   refine Zk [0, 2, 4, 10, 12, 13] [true, false] ?_
   simp only [push_cast, seval, ↓reduceIte]
   refine Zv [0, 2, 4, 10, 12, 13, 30] (Zb Ze [] ?_)
   simp only [push_cast, seval, ↓reduceIte, Za, hi0, hk0, hN0, hN]
   refine Zz (t := (y6.1 != 0)) rfl (fun c7 => ?_) (fun c7 => ?_)
   ·replace hs0_ := Z5 c7 hs0_
    refine Zv [6] (Zb Ze [] ?_)
    simp only [push_cast, seval, ↓reduceIte, Za, hi0, hk0, hN0, hN]
    refine Zw ?_
    try simp only [Zm, Zj]
    have hs0_ := Option.some.inj hs0_; subst hs0_
    refine And.intro (fun h => by cases h) (And.intro rfl (Fit2.of (Y0 hU rfl rfl ?_) (by omega)))
    simp only [push_cast, seval, ↓reduceIte, Za, hi0, hk0, hN0, hN]
   replace hs0_ := Z4 c7 hs0_
   refine Yb ?_
   try simp only [Zm, Zj]
   refine Zk [0, 2, 4, 12, 13] [true, false] ?_
   simp only [push_cast, seval, ↓reduceIte]
   refine Zb Ze [] ?_
   simp only [push_cast, seval, ↓reduceIte, Za, hi0, hk0, hN0, hN]
   have hs0_ := Option.some.inj hs0_; subst hs0_
   refine And.intro rfl (Fit2.of (Y0 hU rfl rfl ?_) (by omega))
   simp only [push_cast, seval, ↓reduceIte, Za, hi0, hk0, hN0, hN]
  replace hs0_ := Z4 c9 hs0_
  refine Zo1 ?_
  try simp only [Zm, Zj, ↓reduceIte, Nat.reduceEqDiff]
  have hs0_ := Option.some.inj hs0_; subst hs0_
  refine And.intro (fun h => by cases h) (And.intro rfl (Fit2.of (Y0 hU rfl rfl ?_) (by omega)))
  simp only [push_cast, seval, ↓reduceIte, Za, hi0, hk0, hN0, hN]
 rcases z10 with z10 | z10
 ·dsimp only [Zmp] at hw h
  refine Zmq hw ?_
  try simp only [Zm, Zj, ↓reduceIte, Nat.reduceEqDiff]
  have h := Option.some.inj h; subst h
  refine V1 (k := 0) (i := i0) (q1 := ⟨false, 107, 1, 1, [.val (.int .i64 z10.2)]⟩) (L3 := [none]) (E2 := (⟨33, [], [(6, .val (.int .i64 z10.1))]⟩ : Env)) (n3 := (n + 1)) (.inr rfl) hU rfl [.val (.int .i64 z10.1)] ?_ ?_
  ·refine Fit2.trans (E' := (⟨33, [], [(6, .val (.int .i64 z10.1))]⟩ : Env)) (O' := (Zx (O.upd i0 (some ⟨false, 107, 1, 1, [.val (.int .i64 z10.2)]⟩)) n [none])) (n' := (n + 1)) (Fit2.of (Y0 hU rfl rfl ?_) (by omega)) ?_
   ·simp only [push_cast, seval, ↓reduceIte, Za, hi0, hk0, hN0, hN]
   refine Ub (k := 1) (k' := 1) hU [0] [0] rfl rfl rfl rfl ⟨rfl, rfl⟩ ?_
   simp only [push_cast, seval, ↓reduceIte, Za, hi0, hk0, hN0, hN]
  simp only [push_cast, seval, ↓reduceIte, Za, Try.results85, hi0, hk0, hN0, hN]
 dsimp only [Zmp] at hw h
 refine Zi0 hw ?_
 try simp only [Zm, Zj, ↓reduceIte, Nat.reduceEqDiff]
 refine Zk [] [false] ?_
 simp only [push_cast, seval, ↓reduceIte]
 refine Zv [6] (Zb Ze [] ?_)
 simp only [push_cast, seval, ↓reduceIte, Za, hi0, hk0, hN0, hN]
 refine Zw ?_
 try simp only [Zm, Zj]
 have h := Option.some.inj h; subst h
 refine V1 (k := 0) (i := i0) (q1 := ⟨false, 107, 1, 1, [.val (.int .i64 z10)]⟩) (L3 := [none]) (E2 := (⟨33, [], [(6, .val (.int .i64 0))]⟩ : Env)) (n3 := (n + 1)) (.inr rfl) hU rfl [.val (.int .i64 0)] ?_ ?_
 ·refine Fit2.trans (E' := (⟨33, [], [(6, .val (.int .i64 0))]⟩ : Env)) (O' := (Zx (O.upd i0 (some ⟨false, 107, 1, 1, [.val (.int .i64 z10)]⟩)) n [none])) (n' := (n + 1)) (Fit2.of (Y0 hU rfl rfl ?_) (by omega)) ?_
  ·simp only [push_cast, seval, ↓reduceIte, Za, hi0, hk0, hN0, hN]
  refine Ub (k := 1) (k' := 1) hU [0] [0] rfl rfl rfl rfl ⟨rfl, rfl⟩ ?_
  simp only [push_cast, seval, ↓reduceIte, Za, hi0, hk0, hN0, hN]
 simp only [push_cast, seval, ↓reduceIte, Za, Try.results85, hi0, hk0, hN0, hN]
theorem Zal {Zs : (Zc → Zd → Int → Option (Int × Zc))} {Zr : (Zc → Zd → Int → Option (Int × Zc))} {Zu : (Zc → Zd → Int → Option (Int × Zc))} (Q0 : ∀ {a0 : Zc} {a1 : Zd} {a2 : Int} {r : (Int × Zc)} {O : Objs} {n : Nat} {i0 : Nat}, i0 < n → O i0 = some ⟨false, 107, 1, 1, [.val (.int .i64 a0.left)]⟩ → Zs a0 a1 a2 = some r → GTo Try.prog 62 [.ref i0 0, .agg (Zi a1), .val (.int .i64 a2)] O n (.val (.int .i64 r.1)) (Zx (O.upd i0 (some ⟨false, 107, 1, 1, [.val (.int .i64 r.2.left)]⟩)) n []) (n + 0)) (Xw : ∀ {a0 : Zc} {a1 : Zd} {a2 : Int} {r : (Int × Zc)} {O : Objs} {n : Nat} {i0 : Nat}, i0 < n → O i0 = some ⟨false, 107, 1, 1, [.val (.int .i64 a0.left)]⟩ → Zr a0 a1 a2 = some r → GTo Try.prog 85 [.ref i0 0, .agg (Zi a1), .val (.int .i64 a2)] O n (.val (.int .i64 r.1)) (Zx (O.upd i0 (some ⟨false, 107, 1, 1, [.val (.int .i64 r.2.left)]⟩)) n []) (n + 0)) (Qi : ∀ {a0 : Zc} {a1 : Zd} {a2 : Int} {r : (Int × Zc)} {O : Objs} {n : Nat} {i0 : Nat}, i0 < n → O i0 = some ⟨false, 107, 1, 1, [.val (.int .i64 a0.left)]⟩ → Zu a0 a1 a2 = some r → GTo Try.prog 86 [.ref i0 0, .agg (Zi a1), .val (.int .i64 a2)] O n (.val (.int .i64 r.1)) (Zx (O.upd i0 (some ⟨false, 107, 1, 1, [.val (.int .i64 r.2.left)]⟩)) n []) (n + 0)) {a0 : Zc} {a1 : Zd} {a2 : Int} {r : (Int × Zc)} {O : Objs} {n : Nat} {i0 : Nat} (hi0 : i0 < n) (ho0 : O i0 = some ⟨false, 107, 1, 1, [.val (.int .i64 a0.left)]⟩) (h : Yl Zs Zr Zu a0 a1 a2 = some r) : GTo Try.prog 86 [.ref i0 0, .agg (Zi a1), .val (.int .i64 a2)] O n (.val (.int .i64 r.1)) (Zx (O.upd i0 (some ⟨false, 107, 1, 1, [.val (.int .i64 r.2.left)]⟩)) n []) (n + 0) := by
 unfold Yl at h
 refine Xd Ze Try.call86 Try.func86 rfl (Nat.le_of_ble_eq_true rfl) (by omega) fun hU => ?_
 rw [show Zx O n [] = Zx (O.upd i0 (some ⟨false, 107, 1, 1, [.val (.int .i64 a0.left)]⟩)) n [] from by rw [Zks (show O i0 = _ from by exact ho0)]]
 have hk0 : ∀ k, i0 < n + k := fun k => by omega
 have hN0 : ∀ o, Objs.upd O i0 o n = none := fun o => Uz hU hi0 _ (Nat.le_refl _)
 have hN : ∀ o k, Objs.upd O i0 o (n + k) = none := fun o k => Uz hU hi0 _ (Nat.le_add_right _ _)
 show W _ _ _ _ ⟨34, [], [(0, .ref i0 0), (1, .agg (Zi a1)), (2, .val (.int .i64 a2))]⟩ (Zx (O.upd i0 (some ⟨false, 107, 1, 1, [.val (.int .i64 a0.left)]⟩)) n []) _
 refine Zv [0, 2, 4] (Zb Ze [] ?_)
 simp only [push_cast, seval, ↓reduceIte, Za, hi0, hk0, hN0, hN]
 refine Zl ?_
 refine Zl ?_
 obtain ⟨y2, hy2, h⟩ := bC h
 refine Zb Ze [] ?_
 simp only [push_cast, seval, ↓reduceIte, Za, hi0, hk0, hN0, hN]
 refine (Yx hy2).then ?_
 simp only [push_cast, seval, ↓reduceIte, Za, hi0, hk0, hN0, hN]
 refine Zk [0, 2, 4, 12, 13] [true] ?_
 simp only [push_cast, seval, ↓reduceIte]
 refine Zk [0, 2, 4, 12, 13] [true] ?_
 simp only [push_cast, seval, ↓reduceIte]
 obtain ⟨z10, hz10, h⟩ := bC h
 refine Zqu (J := (Zmp (fun z10 => JR n (⟨34, [], [(6, .val (.int .i64 z10.1))]⟩ : Env) (Zx (O.upd i0 (some ⟨false, 107, 1, 1, [.val (.int .i64 z10.2)]⟩)) n [none]) (n + 1)) (fun z10 => JX 0 n (⟨34, [], []⟩ : Env) (Zx (O.upd i0 (some ⟨false, 107, 1, 1, [.val (.int .i64 z10)]⟩)) n [none]) (n + 1)))) (z := z10) ?_ fun hw => ?_
 ·refine Zlu hz10 (fun s0_ => ⟨34, [], [(0, .ref i0 0), (2, .val (.int .i64 a2)), (4, .ref n 0), (12, .val (.int .i64 y2)), (13, .val (.int .i64 s0_.1))]⟩) (fun s0_ => (Zx (O.upd i0 (some ⟨false, 107, 1, 1, [.val (.int .i64 s0_.2)]⟩)) n [some ⟨false, 27, 9, 1, (Zi a1)⟩])) (Zmp (fun z10 => JR n (⟨34, [], [(6, .val (.int .i64 z10.1))]⟩ : Env) (Zx (O.upd i0 (some ⟨false, 107, 1, 1, [.val (.int .i64 z10.2)]⟩)) n [none]) (n + 1)) (fun z10 => JX 0 n (⟨34, [], []⟩ : Env) (Zx (O.upd i0 (some ⟨false, 107, 1, 1, [.val (.int .i64 z10)]⟩)) n [none]) (n + 1))) ?_
  intro s0_ x0_ hs0_
  unfold Ym at hs0_
  try dsimp only
  refine Zv [0, 2, 4, 12, 13, 14] (Zb Ze [] ?_)
  simp only [push_cast, seval, ↓reduceIte, Za, hi0, hk0, hN0, hN]
  refine Zl ?_
  refine Zz (t := (decide (s0_.1 < y2))) rfl (fun c9 => ?_) (fun c9 => ?_)
  ·replace hs0_ := Z5 c9 hs0_
   refine Yb ?_
   try simp only [Zm, Zj]
   refine Zk [0, 2, 4, 12, 13] [true] ?_
   simp only [push_cast, seval, ↓reduceIte]
   refine Zl ?_
   refine J3 ?_
   refine Zv [0, 2, 4, 7, 12, 13] (Zb Ze [] ?_)
   simp only [push_cast, seval, ↓reduceIte, Za, hi0, hk0, hN0, hN]
   refine Zl ?_
   obtain ⟨y4, hy4, hs0_⟩ := bC hs0_
   refine Zb Ze [] ?_
   simp only [push_cast, seval, ↓reduceIte, Za, hi0, hk0, hN0, hN]
   refine (Zas hy4).then ?_
   simp only [push_cast, seval, ↓reduceIte, Za, hi0, hk0, hN0, hN]
   refine Zk [0, 2, 4, 8, 9, 12, 13] [true, true] ?_
   simp only [push_cast, seval, ↓reduceIte]
   refine Zl ?_
   refine Zv [0, 2, 4, 8, 9, 12, 13, 23] (Zb Ze [] ?_)
   simp only [push_cast, seval, ↓reduceIte, Za, hi0, hk0, hN0, hN]
   refine Zz (t := (y4.2 != 0)) rfl (fun c8 => ?_) (fun c8 => ?_)
   ·replace hs0_ := Z5 c8 hs0_
    refine Zv [6] (Zb Ze [] ?_)
    simp only [push_cast, seval, ↓reduceIte, Za, hi0, hk0, hN0, hN]
    refine Zw ?_
    try simp only [Zm, Zj]
    have hs0_ := Option.some.inj hs0_; subst hs0_
    refine And.intro (fun h => by cases h) (And.intro rfl (Fit2.of (Y0 hU rfl rfl ?_) (by omega)))
    simp only [push_cast, seval, ↓reduceIte, Za, hi0, hk0, hN0, hN]
   replace hs0_ := Z4 c8 hs0_
   refine Yb ?_
   try simp only [Zm, Zj]
   refine Zk [0, 2, 4, 8, 12, 13] [true, true] ?_
   simp only [push_cast, seval, ↓reduceIte]
   refine Zl ?_
   obtain ⟨y6, hy6, hs0_⟩ := bC hs0_
   refine Zb Ze [] ?_
   simp only [push_cast, seval, ↓reduceIte, Za, hi0, hk0, hN0, hN]
   refine (Xw (i0 := i0) (by omega) (by simp only [push_cast, seval, ↓reduceIte, Za, U8, hi0, hk0, hN0, hN] <;> rfl) hy6).then ?_
   simp only [push_cast, seval, ↓reduceIte, Za, hi0, hk0, hN0, hN]
   refine Zk [0, 2, 4, 10, 12, 13] [true, false] ?_
   simp only [push_cast, seval, ↓reduceIte]
   refine Zv [0, 2, 4, 10, 12, 13, 31] (Zb Ze [] ?_)
   simp only [push_cast, seval, ↓reduceIte, Za, hi0, hk0, hN0, hN]
   refine Zz (t := (y6.1 != 0)) rfl (fun c7 => ?_) (fun c7 => ?_)
   ·replace hs0_ := Z5 c7 hs0_
    refine Zv [6] (Zb Ze [] ?_)
    simp only [push_cast, seval, ↓reduceIte, Za, hi0, hk0, hN0, hN]
    refine Zw ?_
    try simp only [Zm, Zj]
    have hs0_ := Option.some.inj hs0_; subst hs0_
    refine And.intro (fun h => by cases h) (And.intro rfl (Fit2.of (Y0 hU rfl rfl ?_) (by omega)))
    simp only [push_cast, seval, ↓reduceIte, Za, hi0, hk0, hN0, hN]
   replace hs0_ := Z4 c7 hs0_
   refine Yb ?_
   try simp only [Zm, Zj]
   refine Zk [0, 2, 4, 12, 13] [true, false] ?_
   simp only [push_cast, seval, ↓reduceIte]
   refine Zb Ze [] ?_
   simp only [push_cast, seval, ↓reduceIte, Za, hi0, hk0, hN0, hN]
   have hs0_ := Option.some.inj hs0_; subst hs0_
   refine And.intro rfl (Fit2.of (Y0 hU rfl rfl ?_) (by omega))
   simp only [push_cast, seval, ↓reduceIte, Za, hi0, hk0, hN0, hN]
  replace hs0_ := Z4 c9 hs0_
  refine Zo1 ?_
  try simp only [Zm, Zj, ↓reduceIte, Nat.reduceEqDiff]
  have hs0_ := Option.some.inj hs0_; subst hs0_
  refine And.intro (fun h => by cases h) (And.intro rfl (Fit2.of (Y0 hU rfl rfl ?_) (by omega)))
  simp only [push_cast, seval, ↓reduceIte, Za, hi0, hk0, hN0, hN]
 rcases z10 with z10 | z10
 ·dsimp only [Zmp] at hw h
  refine Zmq hw ?_
  try simp only [Zm, Zj, ↓reduceIte, Nat.reduceEqDiff]
  have h := Option.some.inj h; subst h
  refine V1 (k := 0) (i := i0) (q1 := ⟨false, 107, 1, 1, [.val (.int .i64 z10.2)]⟩) (L3 := [none]) (E2 := (⟨34, [], [(6, .val (.int .i64 z10.1))]⟩ : Env)) (n3 := (n + 1)) (.inr rfl) hU rfl [.val (.int .i64 z10.1)] ?_ ?_
  ·refine Fit2.trans (E' := (⟨34, [], [(6, .val (.int .i64 z10.1))]⟩ : Env)) (O' := (Zx (O.upd i0 (some ⟨false, 107, 1, 1, [.val (.int .i64 z10.2)]⟩)) n [none])) (n' := (n + 1)) (Fit2.of (Y0 hU rfl rfl ?_) (by omega)) ?_
   ·simp only [push_cast, seval, ↓reduceIte, Za, hi0, hk0, hN0, hN]
   refine Ub (k := 1) (k' := 1) hU [0] [0] rfl rfl rfl rfl ⟨rfl, rfl⟩ ?_
   simp only [push_cast, seval, ↓reduceIte, Za, hi0, hk0, hN0, hN]
  simp only [push_cast, seval, ↓reduceIte, Za, Try.results86, hi0, hk0, hN0, hN]
 dsimp only [Zmp] at hw h
 refine Zi0 hw ?_
 try simp only [Zm, Zj, ↓reduceIte, Nat.reduceEqDiff]
 refine Zk [] [false] ?_
 simp only [push_cast, seval, ↓reduceIte]
 refine Zv [6] (Zb Ze [] ?_)
 simp only [push_cast, seval, ↓reduceIte, Za, hi0, hk0, hN0, hN]
 refine Zw ?_
 try simp only [Zm, Zj]
 have h := Option.some.inj h; subst h
 refine V1 (k := 0) (i := i0) (q1 := ⟨false, 107, 1, 1, [.val (.int .i64 z10)]⟩) (L3 := [none]) (E2 := (⟨34, [], [(6, .val (.int .i64 0))]⟩ : Env)) (n3 := (n + 1)) (.inr rfl) hU rfl [.val (.int .i64 0)] ?_ ?_
 ·refine Fit2.trans (E' := (⟨34, [], [(6, .val (.int .i64 0))]⟩ : Env)) (O' := (Zx (O.upd i0 (some ⟨false, 107, 1, 1, [.val (.int .i64 z10)]⟩)) n [none])) (n' := (n + 1)) (Fit2.of (Y0 hU rfl rfl ?_) (by omega)) ?_
  ·simp only [push_cast, seval, ↓reduceIte, Za, hi0, hk0, hN0, hN]
  refine Ub (k := 1) (k' := 1) hU [0] [0] rfl rfl rfl rfl ⟨rfl, rfl⟩ ?_
  simp only [push_cast, seval, ↓reduceIte, Za, hi0, hk0, hN0, hN]
 simp only [push_cast, seval, ↓reduceIte, Za, Try.results86, hi0, hk0, hN0, hN]
theorem Zaj : ∀ k, (∀ {a0 : Zc} {a1 : Zd} {a2 : Int} {r : (Int × Zc)} {O : Objs} {n : Nat} {i0 : Nat}, i0 < n → O i0 = some ⟨false, 107, 1, 1, [.val (.int .i64 a0.left)]⟩ → (Zh k).1 a0 a1 a2 = some r → GTo Try.prog 62 [.ref i0 0, .agg (Zi a1), .val (.int .i64 a2)] O n (.val (.int .i64 r.1)) (Zx (O.upd i0 (some ⟨false, 107, 1, 1, [.val (.int .i64 r.2.left)]⟩)) n []) (n + 0)) ∧ (∀ {a0 : Zc} {a1 : Zd} {a2 : Int} {r : (Int × Zc)} {O : Objs} {n : Nat} {i0 : Nat}, i0 < n → O i0 = some ⟨false, 107, 1, 1, [.val (.int .i64 a0.left)]⟩ → (Zh k).2.1 a0 a1 a2 = some r → GTo Try.prog 85 [.ref i0 0, .agg (Zi a1), .val (.int .i64 a2)] O n (.val (.int .i64 r.1)) (Zx (O.upd i0 (some ⟨false, 107, 1, 1, [.val (.int .i64 r.2.left)]⟩)) n []) (n + 0)) ∧ (∀ {a0 : Zc} {a1 : Zd} {a2 : Int} {r : (Int × Zc)} {O : Objs} {n : Nat} {i0 : Nat}, i0 < n → O i0 = some ⟨false, 107, 1, 1, [.val (.int .i64 a0.left)]⟩ → (Zh k).2.2 a0 a1 a2 = some r → GTo Try.prog 86 [.ref i0 0, .agg (Zi a1), .val (.int .i64 a2)] O n (.val (.int .i64 r.1)) (Zx (O.upd i0 (some ⟨false, 107, 1, 1, [.val (.int .i64 r.2.left)]⟩)) n []) (n + 0)) := fun k => by
 induction k with
 | zero => exact ⟨@fun a0 a1 a2 r O n i0 hi0 ho0 h => (nomatch (show (none : Option _) = some _ from h)), @fun a0 a1 a2 r O n i0 hi0 ho0 h => (nomatch (show (none : Option _) = some _ from h)), @fun a0 a1 a2 r O n i0 hi0 ho0 h => (nomatch (show (none : Option _) = some _ from h))⟩
 | succ k ih => exact ⟨@fun a0 a1 a2 r O n i0 hi0 ho0 h => Zbi (ih.1) (ih.2.1) (ih.2.2) hi0 ho0 h, @fun a0 a1 a2 r O n i0 hi0 ho0 h => Zb9 (ih.1) (ih.2.1) (ih.2.2) hi0 ho0 h, @fun a0 a1 a2 r O n i0 hi0 ho0 h => Zal (ih.1) (ih.2.1) (ih.2.2) hi0 ho0 h⟩
theorem Zb8 {a0 : Zc} {a1 : Zd} {a2 : Int} {r : (Int × Zc)} {O : Objs} {n : Nat} {i0 : Nat} (hi0 : i0 < n) (ho0 : O i0 = some ⟨false, 107, 1, 1, [.val (.int .i64 a0.left)]⟩) (h : Jp a0 a1 a2 = some r) : GTo Try.prog 62 [.ref i0 0, .agg (Zi a1), .val (.int .i64 a2)] O n (.val (.int .i64 r.1)) (Zx (O.upd i0 (some ⟨false, 107, 1, 1, [.val (.int .i64 r.2.left)]⟩)) n []) (n + 0) := by
 obtain ⟨k, hk⟩ := Zrj h
 exact (Zaj k).1 hi0 ho0 hk
theorem Zdc {a0 : (Option Zg)} {a1 : Zp} {r : (Int × Int)} {O : Objs} {n : Nat} (h : Jm a0 a1 = some r) : GTo Try.prog 31 [(gP Zf a0), .agg (Z6 a1)] O n (.tup [.val (.int .i64 r.1), .val (.int .i64 r.2)]) O n := by
 unfold Jm at h
 refine Xd Ze Try.call31 Try.func31 rfl (Nat.le_of_ble_eq_true rfl) (Nat.le_refl _) fun hU => ?_
 have hN0 : O n = none := hU.fresh _ (Nat.le_refl _)
 have hN : ∀ k, O (n + k) = none := fun k => hU.fresh _ (Nat.le_add_right _ _)
 show W _ _ _ _ ⟨35, [], [(0, (gP Zf a0)), (1, .agg (Z6 a1))]⟩ (Zx O n []) _
 refine Zv [0, 3] (Zb Ze [] ?_)
 simp only [push_cast, seval, ↓reduceIte, Za, hN0, hN]
 refine Zl ?_
 obtain ⟨y2, hy2, h⟩ := bC h
 refine Zb Ze [] ?_
 simp only [push_cast, seval, ↓reduceIte, Za, hN0, hN]
 refine (Yp hy2).then ?_
 simp only [push_cast, seval, ↓reduceIte, Za, hN0, hN]
 refine Zk [0, 3] [true] ?_
 simp only [push_cast, seval, ↓reduceIte]
 refine Zl ?_
 obtain ⟨y4, hy4, h⟩ := bC h
 refine Zb Ze [] ?_
 simp only [push_cast, seval, ↓reduceIte, Za, hN0, hN]
 refine (Zjo hy4).then ?_
 simp only [push_cast, seval, ↓reduceIte, Za, hN0, hN]
 refine Zk [3, 6, 7] [true, true] ?_
 simp only [push_cast, seval, ↓reduceIte]
 refine Zl ?_
 refine Zv [3, 6, 7, 18] (Zb Ze [] ?_)
 simp only [push_cast, seval, ↓reduceIte, Za, hN0, hN]
 refine Zz (t := (y4.2 != 0)) rfl (fun c8 => ?_) (fun c8 => ?_)
 ·replace h := Z5 c8 h
  refine Zv [4, 5] (Zb Ze [] ?_)
  simp only [push_cast, seval, ↓reduceIte, Za, hN0, hN]
  refine Zw ?_
  try simp only [Zm, Zj]
  have h := Option.some.inj h; subst h
  refine Zn (.inr rfl) hU [.val (.int .i64 0), .val (.int .i64 y4.2)] (by omega) ?_
  simp only [push_cast, seval, ↓reduceIte, Za, Try.results31, hN0, hN]
 replace h := Z4 c8 h
 refine Yb ?_
 try simp only [Zm, Zj]
 refine Zk [3, 6] [true, true] ?_
 simp only [push_cast, seval, ↓reduceIte]
 refine Zl ?_
 refine Zb Ze [] ?_
 simp only [push_cast, seval, ↓reduceIte, Za, hN0, hN]
 refine Zk [3, 6, 8] [true, true, true] ?_
 simp only [push_cast, seval, ↓reduceIte]
 refine Zl ?_
 refine Zl ?_
 obtain ⟨y6, hy6, h⟩ := bC h
 refine Zb Ze [] ?_
 simp only [push_cast, seval, ↓reduceIte, Za, hN0, hN]
 refine (Zb8 (i0 := (n + 2)) (by omega) (by simp only [push_cast, seval, ↓reduceIte, Za, U8, hN0, hN] <;> rfl) hy6).then ?_
 simp only [push_cast, seval, ↓reduceIte, Za, hN0, hN]
 refine Zk [3, 8, 9] [true, false, true] ?_
 simp only [push_cast, seval, ↓reduceIte]
 refine Zv [3, 8, 9, 28] (Zb Ze [] ?_)
 simp only [push_cast, seval, ↓reduceIte, Za, hN0, hN]
 refine Zz (t := (y6.1 != 0)) rfl (fun c7 => ?_) (fun c7 => ?_)
 ·replace h := Z5 c7 h
  refine Zv [4, 5] (Zb Ze [] ?_)
  simp only [push_cast, seval, ↓reduceIte, Za, hN0, hN]
  refine Zw ?_
  try simp only [Zm, Zj]
  have h := Option.some.inj h; subst h
  refine Zn (.inr rfl) hU [.val (.int .i64 0), .val (.int .i64 y6.1)] (by omega) ?_
  simp only [push_cast, seval, ↓reduceIte, Za, Try.results31, hN0, hN]
 replace h := Z4 c7 h
 refine Yb ?_
 try simp only [Zm, Zj]
 refine Zk [3, 8] [true, false, true] ?_
 simp only [push_cast, seval, ↓reduceIte]
 refine Zv [4, 5] (Zb Ze [] ?_)
 simp only [push_cast, seval, ↓reduceIte, Za, hN0, hN]
 refine Zw ?_
 try simp only [Zm, Zj]
 have h := Option.some.inj h; subst h
 refine Zn (.inr rfl) hU [.val (.int .i64 (IntKind.i64.wrap (y2.Weight - y6.2.left))), .val (.int .i64 0)] (by omega) ?_
 simp only [push_cast, seval, ↓reduceIte, Za, Try.results31, hN0, hN]
theorem Zet  {r : Bool} {O : Objs} {n : Nat} (h : Qg = some r) : GTo Try.prog 33 [] O n (.val (.bool r)) O n := by
 unfold Qg at h
 refine Xd Ze Try.call33 Try.func33 rfl (Nat.le_of_ble_eq_true rfl) (Nat.le_refl _) fun hU => ?_
 have hN0 : O n = none := hU.fresh _ (Nat.le_refl _)
 have hN : ∀ k, O (n + k) = none := fun k => hU.fresh _ (Nat.le_add_right _ _)
 show W _ _ _ _ ⟨31, [], []⟩ (Zx O n []) _
 refine Zv [] (Zb Ze [] ?_)
 simp only [push_cast, seval, ↓reduceIte, Za, hN0, hN]
 refine Zl ?_
 obtain ⟨y2, hy2, h⟩ := bC h
 refine Zb Ze [] ?_
 simp only [push_cast, seval, ↓reduceIte, Za, hN0, hN]
 refine GCalls.dropL (l' := [none, none]) hU rfl ?_ ((Znk hy2).then ?_)
 ·simp only [push_cast, seval, ↓reduceIte, Za, hN0, hN]
 simp only [push_cast, seval, ↓reduceIte, Za, hN0, hN]
 refine Zk [1] [false, false] ?_
 simp only [push_cast, seval, ↓reduceIte]
 refine Zl ?_
 obtain ⟨y4, hy4, h⟩ := bC h
 refine Zb Ze [] ?_
 simp only [push_cast, seval, ↓reduceIte, Za, hN0, hN]
 refine (Zdc hy4).then ?_
 simp only [push_cast, seval, ↓reduceIte, Za, hN0, hN]
 refine Zk [1, 2, 3] [false, false] ?_
 simp only [push_cast, seval, ↓reduceIte]
 refine Zl ?_
 obtain ⟨y6, hy6, h⟩ := bC h
 refine Zb Ze [] ?_
 simp only [push_cast, seval, ↓reduceIte, Za, hN0, hN]
 refine (Zdc hy6).then ?_
 simp only [push_cast, seval, ↓reduceIte, Za, hN0, hN]
 refine Zk [2, 3, 5] [false, false] ?_
 simp only [push_cast, seval, ↓reduceIte]
 refine Zv [0] (Zb Ze [none, none, none, none] ?_)
 simp only [push_cast, seval, ↓reduceIte, Za, hN0, hN]
 repeat (with_reducible refine And.intro (by first | (intro h0; simp only [h0, and_self]; done) | (intro h0; simp only [h0, Bool.not_false, Bool.not_true, Bool.true_and, Bool.and_true, true_and, and_true, and_self, imp_self, implies_true, bne_iff_ne, ne_eq, beq_iff_eq]; done) | (intros; simp_all; done) | exact True.intro) ?_)
 refine Zw ?_
 try simp only [Zm, Zj]
 have h := Option.some.inj h; subst h
 refine Zn (.inr rfl) hU [.val (.bool (cond (cond (y4.1 == 2) (y4.2 == 0) false) (y6.2 == 3) false))] (by omega) ?_
 simp only [push_cast, seval, ↓reduceIte, Za, Try.results33, hN0, hN]
theorem Zak {a0 : Zp} {r : Bool} {O : Objs} {n : Nat} (h : Xn a0 = some r) : GTo Try.prog 9 [.agg (Z6 a0)] O n (.val (.bool r)) O n := by
 unfold Xn at h
 refine Xd Ze Try.call9 Try.func9 rfl (Nat.le_of_ble_eq_true rfl) (Nat.le_refl _) fun hU => ?_
 have hN0 : O n = none := hU.fresh _ (Nat.le_refl _)
 have hN : ∀ k, O (n + k) = none := fun k => hU.fresh _ (Nat.le_add_right _ _)
 show W _ _ _ _ ⟨19, [], [(0, .agg (Z6 a0))]⟩ (Zx O n []) _
 refine Zv [1] (Zb Ze [] ?_)
 simp only [push_cast, seval, ↓reduceIte, Za, hN0, hN]
 obtain ⟨z7, hz7, h⟩ := bC h
 refine Zc0 (E' := ⟨19, [], [(2, .val (.bool z7))]⟩) (O' := (Zx O n [none])) (n0 := (n + 1)) ?_ ?_
 ·obtain ⟨y14, hy14, hz7⟩ := bC hz7
  obtain ⟨y15, hy15, hz7⟩ := bC hz7
  rcases Bool.eq_false_or_eq_true ((y14.Depth == y15.Depth) && ((y14.Weight == y15.Weight) && ((y14.MaxD == y15.MaxD) && (y14.MaxOut == y15.MaxOut)))) with c20 | c20
  ·replace hz7 := Z5 c20 hz7
   obtain ⟨y16, hy16, hz7⟩ := bC hz7
   obtain ⟨y17, hy17, hz7⟩ := bC hz7
   obtain ⟨y18, hy18, hz7⟩ := bC hz7
   rcases Bool.eq_false_or_eq_true ((y17.Depth == y18.Depth) && ((y17.Weight == y18.Weight) && ((y17.MaxD == y18.MaxD) && (y17.MaxOut == y18.MaxOut)))) with c21 | c21
   ·replace hz7 := Z5 c21 hz7
    try rw [c21] at c20
    obtain ⟨y19, hy19, hz7⟩ := bC hz7
    refine Up Ze (by kernel_rfl) [some true, some true, some true, some true, some true, some true, some true] (by kernel_rfl) ?_
    simp only [push_cast, seval, ↓reduceIte, Za, c20, c21, hN0, hN]
    refine PCall.of (Yp hy14) ?_
    simp only [push_cast, seval, ↓reduceIte, Za, c20, c21, hN0, hN]
    refine PCall.of (Jw hy15) ?_
    simp only [push_cast, seval, ↓reduceIte, Za, c20, c21, hN0, hN]
    refine PCall.of (Yp hy16) ?_
    simp only [push_cast, seval, ↓reduceIte, Za, c20, c21, hN0, hN]
    refine PCall.of (Yp hy17) ?_
    simp only [push_cast, seval, ↓reduceIte, Za, c20, c21, hN0, hN]
    refine PCall.of (Yp hy18) ?_
    simp only [push_cast, seval, ↓reduceIte, Za, c20, c21, hN0, hN]
    refine PCall.of (Zet hy19) ?_
    simp only [push_cast, seval, ↓reduceIte, Za, c20, c21, hN0, hN]
    have hz7 := Option.some.inj hz7; subst hz7
    refine And.intro rfl (Fit2.of (X5 hU rfl rfl ?_) (by omega))
    simp only [push_cast, seval, ↓reduceIte, Za, c20, c21, hN0, hN]
   replace hz7 := Z4 c21 hz7
   try rw [c21] at c20
   refine Up Ze (by kernel_rfl) [some true, some true, some true, some true, some true, some true, some false] (by kernel_rfl) ?_
   simp only [push_cast, seval, ↓reduceIte, Za, c20, c21, hN0, hN]
   refine PCall.of (Yp hy14) ?_
   simp only [push_cast, seval, ↓reduceIte, Za, c20, c21, hN0, hN]
   refine PCall.of (Jw hy15) ?_
   simp only [push_cast, seval, ↓reduceIte, Za, c20, c21, hN0, hN]
   refine PCall.of (Yp hy16) ?_
   simp only [push_cast, seval, ↓reduceIte, Za, c20, c21, hN0, hN]
   refine PCall.of (Yp hy17) ?_
   simp only [push_cast, seval, ↓reduceIte, Za, c20, c21, hN0, hN]
   refine PCall.of (Yp hy18) ?_
   simp only [push_cast, seval, ↓reduceIte, Za, c20, c21, hN0, hN]
   have hz7 := Option.some.inj hz7; subst hz7
   refine And.intro rfl (Fit2.of (X5 hU rfl rfl ?_) (by omega))
   simp only [push_cast, seval, ↓reduceIte, Za, c20, c21, hN0, hN]
  replace hz7 := Z4 c20 hz7
  refine Up Ze (by kernel_rfl) [some false, some false, some false, some false, some false, some false, some false] (by kernel_rfl) ?_
  simp only [push_cast, seval, ↓reduceIte, Za, c20, hN0, hN]
  refine PCall.of (Yp hy14) ?_
  simp only [push_cast, seval, ↓reduceIte, Za, c20, hN0, hN]
  refine PCall.of (Jw hy15) ?_
  simp only [push_cast, seval, ↓reduceIte, Za, c20, hN0, hN]
  have hz7 := Option.some.inj hz7; subst hz7
  refine And.intro rfl (Fit2.of (X5 hU rfl rfl ?_) (by omega))
  simp only [push_cast, seval, ↓reduceIte, Za, c20, hN0, hN]
 refine Zw ?_
 try simp only [Zm, Zj]
 have h := Option.some.inj h; subst h
 refine Zn (.inr rfl) hU [.val (.bool z7)] (by omega) ?_
 simp only [push_cast, seval, ↓reduceIte, Za, Try.results9, hN0, hN]
end Go.Proofs.Ytmlhokaflhlhbaa
