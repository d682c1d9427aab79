/- Part VM4 of this seat's mirrors: functions of the seat's program, and the plain functions that they are; each theorem bears its own conditions. -/
import Derived.Test.YtmlhokaflhlhbaaVE
import Derived.Test.YtmlhokaflhlhbaaVM3
namespace Go.Proofs.Ytmlhokaflhlhbaa
open Go.RowKit
set_option linter.unusedVariables false
set_option linter.unusedSimpArgs false
set_option maxRecDepth 100000
set_option maxHeartbeats 4000000
attribute [local push_cast] Z6 K4 Qb Ys Zi Zfx Zfw Zgn Zgm Zm Zj Zc2 Ga U9 onW Yd Kx J6 Zf2 Ze2 Zbt Zby Zbs Zbx Zdw Zdt Zbw Zdv Zdu Zbu Zdr Gu evS wok Yr Op.operands Call.operands gop onK onP atK List.all_cons List.all_nil Bool.and_true Bool.true_and Bool.and_self Value.oneCell' List.take_zero List.take_succ_cons List.take_nil List.drop_zero List.drop_succ_cons List.drop_nil List.append_nil Nat.add_zero Nat.zero_add Ql Zq ev Yv Zk9 Zfo Zfn Zft Zfr Zfs Zfp Zfq Zfm Zid Ziw Zla Zau Ka Zal Ks Zba Um Vu Vz U5 U2 Vx U4 U3 Vw U0 Vv Vy K5 U1 Zc4 Gb Je Zam Jf Zb4 Zat Zjl bLo bHi bMx Kb Zb3 Zmb Zas Zcg Vs Qs Zip Zmf Zaj Zmk J9 Znf Zc7 Zdb Zc6 Zda Zga Zf7 Zf5 Zbe Zc8 Zf9 Zf8 Zc9 Zf6 Zb5 Zfy Zdk Gp Gn pop TK.isAgg Zgf Zgj Zge Zgi Zde Zj0 Zjx Zgh Zjz Zjy Zgg Zjw G.under G.unders List.getD_cons_zero List.getD_cons_succ List.set_cons_zero List.set_cons_succ List.map_cons List.map_nil List.toList_toArray Array.toList_append Option.toArray_none Option.toArray_some Array.toList_map Option.map_some Option.map_none Option.bind_some Option.bind_none List.getElem?_cons_zero List.getElem?_cons_succ List.getElem?_nil List.nil_append List.cons_append List.replicate_succ List.replicate_zero List.length_cons List.length_nil and_true true_and and_false false_and Bool.true_eq_false Bool.false_eq_true forall_const false_implies implies_true IntKind.bits if_true if_false ite_true ite_false eq_self true_implies false_or or_false or_true true_or not_true_eq_false not_false_eq_true decide_true decide_false decide_eq_true_eq decide_eq_false_iff_not beq_iff_eq bne_iff_ne ne_eq Bool.not_eq_true Bool.not_eq_false beq_eq_false_iff_ne bne_eq_false_iff_eq beq_self_eq_true bne_self_eq_false Option.some.injEq exists_eq_left' exists_eq_left ge_iff_le gt_iff_lt decide_not Bool.not_true Bool.not_false imp_self Zjn cond_true cond_false Zq8 Zq7 Bool.not_not Bool.and_false Bool.false_and Bool.or_true Bool.true_or Bool.or_false Bool.false_or K2 Zfb Zeh Zcy Za5 Ur Option.join_some Nat.add_assoc Int.toNat_natCast eI eB eS eL U6 Ut V5 Zf1 Zfz Zf0 Znt Zpn Uv Ub Zgu Zgs Zgt Zlh Zc1 Zjg Zdp Zjf Vj Zic List.length_append G.agg.injEq G.row.injEq G.ref.injEq G.val.injEq G.sl.injEq G.tup.injEq Value.int.injEq Value.bool.injEq Value.string.injEq List.cons.injEq exists_and_left exists_const List.flatten_cons List.flatten_nil Int.le_refl Nat.le_refl Zee Qr Zcz Bool.not_eq_true' Bool.not_eq_false' Zh5 G0 Zk1 Zk5 Zk0 Zk4 Zo4 Zo0 List.size_toArray Zgw Zgx G.ren G.rens Zix Uo Zgz Zfj Zfk Zds Zk6 Gi G.fn.injEq Zbz Zeg Zh3 Zo1 Zef Zk3 Zo3 Zo2 Zk2 Zjr Zno Option.join_none Xh Jd undef Zch Arr.len Arr.put_eq Uu Zbi Gj Ua Zgr Zgp Zgq onB Zns Zin Zdq Zco Zcp Zcq Zcr Zcs Zct Zbf Zbm Zbk Gm Uc Zbl Zdj Zdi Zdh Zdg Zpm Zqt Zlg Zj2 Xp Zlc Zgb Zbo Gl Zmq Zg2 Zar Zcf Vf Zbp Zcu Zcv Zcw Zcx Zay Zaz Za0 Za1 Za2 Za3 Za4 V0 prT K9 Zr8 Zkp Zqy Zkq Zr9 Zkr Zsa Zks Zsb Zkt Zsc Zku Zsd Zkv Zse Zkw Zny Zg4 Znz Zg5 Zn0 Zg6 Zn1 Zg7 Zn2 Zg8 Zn3 Zg9 Zn4 Zha Zn5 Zhb Zn6 Zhc Zn7 Zhd Zn8 Zhe Zn9 Zhf Zoa Zhg Zob Zeq Zoc Zhh Zod Zhi Zoe Zhj Zg3 Zhk Zof Zhl Zog Zhm Zez Zer Zoh Zhn Zoi Zho Zoj Zhp Zok Zhq Zol Zhr Zom Zhs Zon Zht Zoo Zhu Zop Zhv Zoq Zhw Zor Zhx Zos Zhy Zot Zhz Zou Zh0 Zov Zh1 Zow Zh2 Zj8 Zdx Zj9 Zdy Zka Zdz Zkb Zd0 Zkc Zd1 Zkd Zd2 Zke Zd3 Zkf Zd4 Zkg Zd5 Zkh Zd6 Zki Zd7 Zkj Zd8 Zkk Zd9 Zkl Zea Zkm Zeb Zkn Zec Zko Zed Zab Gz Gf Gh Zae Ul Ui Ug Gw Ko Km Kc Kj Kp Jx Jw Jv Kl Zf X1 X0 Xx Xy X2 Xt Xs Xr Xz V2 Zaa Gy Ge Gg Zad Uk Uh Uf Gv V1 Jr Qc Qd Y3 Zo Xj Xi Xe Xf Xk Xa Y8 Y7 Xg Zy X7 Q9 Q8 Q3 Q5 Ja Qx Qv Qu Q7
theorem Zbh {Zs : (Zd → Zc → Int → Option (Int × Zd))} {Zr : (Zd → Zc → Int → Option (Int × Zd))} {Zu : (Zd → Zc → Int → Option (Int × Zd))} (Q1 : ∀ {a0 : Zd} {a1 : Zc} {a2 : Int} {r : (Int × Zd)} {O : Objs} {n : Nat} {i0 : Nat}, i0 < n → O i0 = some ⟨false, 107, 1, 1, [.val (.int .i64 a0.left)]⟩ → Zs a0 a1 a2 = some r → GTo Try.prog 62 [.ref i0 0, .agg (Zi a1), .val (.int .i64 a2)] O n (.val (.int .i64 r.1)) (Zv (O.upd i0 (some ⟨false, 107, 1, 1, [.val (.int .i64 r.2.left)]⟩)) n []) (n + 0)) (Xu : ∀ {a0 : Zd} {a1 : Zc} {a2 : Int} {r : (Int × Zd)} {O : Objs} {n : Nat} {i0 : Nat}, i0 < n → O i0 = some ⟨false, 107, 1, 1, [.val (.int .i64 a0.left)]⟩ → Zr a0 a1 a2 = some r → GTo Try.prog 85 [.ref i0 0, .agg (Zi a1), .val (.int .i64 a2)] O n (.val (.int .i64 r.1)) (Zv (O.upd i0 (some ⟨false, 107, 1, 1, [.val (.int .i64 r.2.left)]⟩)) n []) (n + 0)) (Qi : ∀ {a0 : Zd} {a1 : Zc} {a2 : Int} {r : (Int × Zd)} {O : Objs} {n : Nat} {i0 : Nat}, i0 < n → O i0 = some ⟨false, 107, 1, 1, [.val (.int .i64 a0.left)]⟩ → Zu a0 a1 a2 = some r → GTo Try.prog 86 [.ref i0 0, .agg (Zi a1), .val (.int .i64 a2)] O n (.val (.int .i64 r.1)) (Zv (O.upd i0 (some ⟨false, 107, 1, 1, [.val (.int .i64 r.2.left)]⟩)) n []) (n + 0)) {a0 : Zd} {a1 : Zc} {a2 : Int} {r : (Int × Zd)} {O : Objs} {n : Nat} {i0 : Nat} (hi0 : i0 < n) (ho0 : O i0 = some ⟨false, 107, 1, 1, [.val (.int .i64 a0.left)]⟩) (h : Yt Zs Zr Zu a0 a1 a2 = some r) : GTo Try.prog 62 [.ref i0 0, .agg (Zi a1), .val (.int .i64 a2)] O n (.val (.int .i64 r.1)) (Zv (O.upd i0 (some ⟨false, 107, 1, 1, [.val (.int .i64 r.2.left)]⟩)) n []) (n + 0) := by
 unfold Yt at h
 refine Xd Ze Try.call62 Try.func62 rfl (Nat.le_of_ble_eq_true rfl) (by omega) fun hU => ?_
 rw [show Zv O n [] = Zv (O.upd i0 (some ⟨false, 107, 1, 1, [.val (.int .i64 a0.left)]⟩)) n [] from by rw [Zkz (show O i0 = _ from by exact ho0)]]
 have hk0 : ∀ k, i0 < n + k := fun k => by omega
 have hN0 : ∀ o, Objs.upd O i0 o n = none := fun o => Ux hU hi0 _ (Nat.le_refl _)
 have hN : ∀ o k, Objs.upd O i0 o (n + k) = none := fun o k => Ux hU hi0 _ (Nat.le_add_right _ _)
 show W _ _ _ _ ⟨46, [], [(0, .ref i0 0), (1, .agg (Zi a1)), (2, .val (.int .i64 a2))]⟩ (Zv (O.upd i0 (some ⟨false, 107, 1, 1, [.val (.int .i64 a0.left)]⟩)) n []) _
 refine Zw [0, 2, 4] (Zb Ze [] ?_)
 simp only [push_cast, seval, ↓reduceIte, Za, hi0, hk0, hN0, hN]
 refine Zl ?_
 obtain ⟨z3, hz3, h⟩ := bC h
 refine Zb1 (E' := ⟨46, [], [(0, .ref i0 0), (2, .val (.int .i64 a2)), (4, .ref n 0), (19, .val (.bool z3))]⟩) (O' := (Zv (O.upd i0 (some ⟨false, 107, 1, 1, [.val (.int .i64 a0.left)]⟩)) n [some ⟨false, 27, 9, 1, (Zi a1)⟩])) (n0 := (n + 1)) ?_ ?_
 ·obtain ⟨y6, hy6, hz3⟩ := bC hz3
  rcases Bool.eq_false_or_eq_true (decide (a2 < y6)) with c8 | c8
  ·replace hz3 := Z5 c8 hz3
   refine Zai Ze (by kernel_rfl) [some false, some false, some false, some false, some false, some false, some false] (by kernel_rfl) ?_
   simp only [push_cast, seval, ↓reduceIte, Za, c8, hi0, hk0, hN0, hN]
   refine PCall.of (Zcj hy6) ?_
   simp only [push_cast, seval, ↓reduceIte, Za, c8, hi0, hk0, hN0, hN]
   have hz3 := Option.some.inj hz3; subst hz3
   refine And.intro rfl (Fit2.of (Yz hU rfl rfl ?_) (by omega))
   simp only [push_cast, seval, ↓reduceIte, Za, c8, hi0, hk0, hN0, hN]
  replace hz3 := Z4 c8 hz3
  obtain ⟨y7, hy7, hz3⟩ := bC hz3
  refine Zai Ze (by kernel_rfl) [some true, some true, some true, some true, some true, some true, some true] (by kernel_rfl) ?_
  simp only [push_cast, seval, ↓reduceIte, Za, c8, hi0, hk0, hN0, hN]
  refine PCall.of (Zcj hy6) ?_
  simp only [push_cast, seval, ↓reduceIte, Za, c8, hi0, hk0, hN0, hN]
  refine PCall.of (Zck hy7) ?_
  simp only [push_cast, seval, ↓reduceIte, Za, c8, hi0, hk0, hN0, hN]
  have hz3 := Option.some.inj hz3; subst hz3
  refine And.intro rfl (Fit2.of (Yz hU rfl rfl ?_) (by omega))
  simp only [push_cast, seval, ↓reduceIte, Za, c8, hi0, hk0, hN0, hN]
 refine Zz (t := z3) rfl (fun c21 => ?_) (fun c21 => ?_)
 ·replace h := Z5 c21 h
  refine Zw [6] (Zb Ze [] ?_)
  simp only [push_cast, seval, ↓reduceIte, Za, hi0, hk0, hN0, hN]
  refine Zx ?_
  try simp only [Zm, Zj]
  have h := Option.some.inj h; subst h
  refine V3 (k := 0) (i := i0) (q1 := ⟨false, 107, 1, 1, [.val (.int .i64 a0.left)]⟩) (L3 := [none]) (E2 := (⟨46, [], [(6, .val (.int .i64 3))]⟩ : Env)) (n3 := (n + 1)) (.inr rfl) hU rfl [.val (.int .i64 3)] ?_ ?_
  ·refine Fit2.trans (E' := (⟨46, [], [(6, .val (.int .i64 3))]⟩ : Env)) (O' := (Zv (O.upd i0 (some ⟨false, 107, 1, 1, [.val (.int .i64 a0.left)]⟩)) n [none])) (n' := (n + 1)) (Fit2.of (Yz hU rfl rfl ?_) (by omega)) ?_
   ·simp only [push_cast, seval, ↓reduceIte, Za, hi0, hk0, hN0, hN]
   refine Ud (k := 1) (k' := 1) hU [0] [0] rfl rfl rfl rfl ⟨rfl, rfl⟩ ?_
   simp only [push_cast, seval, ↓reduceIte, Za, hi0, hk0, hN0, hN]
  simp only [push_cast, seval, ↓reduceIte, Za, Try.results62, hi0, hk0, hN0, hN]
 replace h := Z4 c21 h
 refine Yb ?_
 try simp only [Zm, Zj]
 refine Zk [0, 2, 4] [true] ?_
 simp only [push_cast, seval, ↓reduceIte]
 refine Zl ?_
 obtain ⟨y10, hy10, h⟩ := bC h
 refine Zps Ze (by kernel_rfl) [false, false, false, false, false, false, false, false, false, true] [] (by kernel_rfl) ?_
 simp only [push_cast, seval, ↓reduceIte, Za, hi0, hk0, hN0, hN]
 refine PCall.of (Zck hy10) ?_
 simp only [push_cast, seval, ↓reduceIte, Za, hi0, hk0, hN0, hN]
 refine Zk [0, 2, 4] [true] ?_
 simp only [push_cast, seval, ↓reduceIte]
 refine Zl ?_
 refine Zl ?_
 obtain ⟨y12, hy12, h⟩ := bC h
 refine Zb Ze [] ?_
 simp only [push_cast, seval, ↓reduceIte, Za, hi0, hk0, hN0, hN]
 refine (Qj hy12).then ?_
 simp only [push_cast, seval, ↓reduceIte, Za, hi0, hk0, hN0, hN]
 refine Zk [0, 2, 4, 30] [true] ?_
 simp only [push_cast, seval, ↓reduceIte]
 refine Jz ?_
 obtain ⟨z13, hz13, h⟩ := bC h
 refine Zb1 (E' := ⟨46, [], [(0, .ref i0 0), (2, .val (.int .i64 a2)), (4, .ref n 0), (30, .val (.int .i64 y12)), (31, .val (.bool z13))]⟩) (O' := (Zv (O.upd i0 (some ⟨false, 107, 1, 1, [.val (.int .i64 (IntKind.i64.wrap (a0.left - y10)))]⟩)) n [some ⟨false, 27, 9, 1, (Zi a1)⟩])) (n0 := (n + 1)) ?_ ?_
 ·refine Zw [0, 2, 4, 30, 31] (Zb Ze [] ?_)
  simp only [push_cast, seval, ↓reduceIte, Za, hi0, hk0, hN0, hN]
  refine Zz (t := (y12 == 1)) rfl (fun c14 => ?_) (fun c14 => ?_)
  ·replace hz13 := Z5 c14 hz13
   refine Yb ?_
   try simp only [Zm, Zj]
   have hz13 := Option.some.inj hz13; subst hz13
   refine And.intro rfl (Fit2.of (Yz hU rfl rfl ?_) (by omega))
   simp only [push_cast, seval, ↓reduceIte, Za, hi0, hk0, hN0, hN]
  replace hz13 := Z4 c14 hz13
  refine Zb Ze [] ?_
  simp only [push_cast, seval, ↓reduceIte, Za, hi0, hk0, hN0, hN]
  have hz13 := Option.some.inj hz13; subst hz13
  refine And.intro rfl (Fit2.of (Yz hU rfl rfl ?_) (by omega))
  simp only [push_cast, seval, ↓reduceIte, Za, hi0, hk0, hN0, hN]
 refine Zz (t := z13) rfl (fun c20 => ?_) (fun c20 => ?_)
 ·replace h := Z5 c20 h
  refine Zl ?_
  obtain ⟨y16, hy16, h⟩ := bC h
  refine Zb Ze [] ?_
  simp only [push_cast, seval, ↓reduceIte, Za, hi0, hk0, hN0, hN]
  refine (Xu (i0 := i0) (by omega) (by simp only [push_cast, seval, ↓reduceIte, Za, U6, hi0, hk0, hN0, hN] <;> rfl) hy16).then ?_
  simp only [push_cast, seval, ↓reduceIte, Za, hi0, hk0, hN0, hN]
  refine Zk [6] [false] ?_
  simp only [push_cast, seval, ↓reduceIte]
  refine Zx ?_
  try simp only [Zm, Zj]
  have h := Option.some.inj h; subst h
  refine V3 (k := 0) (i := i0) (q1 := ⟨false, 107, 1, 1, [.val (.int .i64 y16.2.left)]⟩) (L3 := [none]) (E2 := (⟨46, [], [(6, .val (.int .i64 y16.1))]⟩ : Env)) (n3 := (n + 1)) (.inr rfl) hU rfl [.val (.int .i64 y16.1)] ?_ ?_
  ·refine Fit2.trans (E' := (⟨46, [], [(6, .val (.int .i64 y16.1))]⟩ : Env)) (O' := (Zv (O.upd i0 (some ⟨false, 107, 1, 1, [.val (.int .i64 y16.2.left)]⟩)) n [none])) (n' := (n + 1)) (Fit2.of (Yz hU rfl rfl ?_) (by omega)) ?_
   ·simp only [push_cast, seval, ↓reduceIte, Za, hi0, hk0, hN0, hN]
   refine Ud (k := 1) (k' := 1) hU [0] [0] rfl rfl rfl rfl ⟨rfl, rfl⟩ ?_
   simp only [push_cast, seval, ↓reduceIte, Za, hi0, hk0, hN0, hN]
  simp only [push_cast, seval, ↓reduceIte, Za, Try.results62, hi0, hk0, hN0, hN]
 replace h := Z4 c20 h
 refine Zw [0, 2, 4, 39] (Zb Ze [] ?_)
 simp only [push_cast, seval, ↓reduceIte, Za, hi0, hk0, hN0, hN]
 refine Zz (t := (y12 == 9)) rfl (fun c19 => ?_) (fun c19 => ?_)
 ·replace h := Z5 c19 h
  refine Zl ?_
  obtain ⟨y18, hy18, h⟩ := bC h
  refine Zb Ze [] ?_
  simp only [push_cast, seval, ↓reduceIte, Za, hi0, hk0, hN0, hN]
  refine (Qi (i0 := i0) (by omega) (by simp only [push_cast, seval, ↓reduceIte, Za, U6, hi0, hk0, hN0, hN] <;> rfl) hy18).then ?_
  simp only [push_cast, seval, ↓reduceIte, Za, hi0, hk0, hN0, hN]
  refine Zk [6] [false] ?_
  simp only [push_cast, seval, ↓reduceIte]
  refine Zx ?_
  try simp only [Zm, Zj]
  have h := Option.some.inj h; subst h
  refine V3 (k := 0) (i := i0) (q1 := ⟨false, 107, 1, 1, [.val (.int .i64 y18.2.left)]⟩) (L3 := [none]) (E2 := (⟨46, [], [(6, .val (.int .i64 y18.1))]⟩ : Env)) (n3 := (n + 1)) (.inr rfl) hU rfl [.val (.int .i64 y18.1)] ?_ ?_
  ·refine Fit2.trans (E' := (⟨46, [], [(6, .val (.int .i64 y18.1))]⟩ : Env)) (O' := (Zv (O.upd i0 (some ⟨false, 107, 1, 1, [.val (.int .i64 y18.2.left)]⟩)) n [none])) (n' := (n + 1)) (Fit2.of (Yz hU rfl rfl ?_) (by omega)) ?_
   ·simp only [push_cast, seval, ↓reduceIte, Za, hi0, hk0, hN0, hN]
   refine Ud (k := 1) (k' := 1) hU [0] [0] rfl rfl rfl rfl ⟨rfl, rfl⟩ ?_
   simp only [push_cast, seval, ↓reduceIte, Za, hi0, hk0, hN0, hN]
  simp only [push_cast, seval, ↓reduceIte, Za, Try.results62, hi0, hk0, hN0, hN]
 replace h := Z4 c19 h
 refine Yb ?_
 try simp only [Zm, Zj]
 refine Zk [] [false] ?_
 simp only [push_cast, seval, ↓reduceIte]
 refine Zw [6] (Zb Ze [] ?_)
 simp only [push_cast, seval, ↓reduceIte, Za, hi0, hk0, hN0, hN]
 refine Zx ?_
 try simp only [Zm, Zj]
 have h := Option.some.inj h; subst h
 refine V3 (k := 0) (i := i0) (q1 := ⟨false, 107, 1, 1, [.val (.int .i64 (IntKind.i64.wrap (a0.left - y10)))]⟩) (L3 := [none]) (E2 := (⟨46, [], [(6, .val (.int .i64 0))]⟩ : Env)) (n3 := (n + 1)) (.inr rfl) hU rfl [.val (.int .i64 0)] ?_ ?_
 ·refine Fit2.trans (E' := (⟨46, [], [(6, .val (.int .i64 0))]⟩ : Env)) (O' := (Zv (O.upd i0 (some ⟨false, 107, 1, 1, [.val (.int .i64 (IntKind.i64.wrap (a0.left - y10)))]⟩)) n [none])) (n' := (n + 1)) (Fit2.of (Yz hU rfl rfl ?_) (by omega)) ?_
  ·simp only [push_cast, seval, ↓reduceIte, Za, hi0, hk0, hN0, hN]
  refine Ud (k := 1) (k' := 1) hU [0] [0] rfl rfl rfl rfl ⟨rfl, rfl⟩ ?_
  simp only [push_cast, seval, ↓reduceIte, Za, hi0, hk0, hN0, hN]
 simp only [push_cast, seval, ↓reduceIte, Za, Try.results62, hi0, hk0, hN0, hN]
theorem Zb8 {Zs : (Zd → Zc → Int → Option (Int × Zd))} {Zr : (Zd → Zc → Int → Option (Int × Zd))} {Zu : (Zd → Zc → Int → Option (Int × Zd))} (Q1 : ∀ {a0 : Zd} {a1 : Zc} {a2 : Int} {r : (Int × Zd)} {O : Objs} {n : Nat} {i0 : Nat}, i0 < n → O i0 = some ⟨false, 107, 1, 1, [.val (.int .i64 a0.left)]⟩ → Zs a0 a1 a2 = some r → GTo Try.prog 62 [.ref i0 0, .agg (Zi a1), .val (.int .i64 a2)] O n (.val (.int .i64 r.1)) (Zv (O.upd i0 (some ⟨false, 107, 1, 1, [.val (.int .i64 r.2.left)]⟩)) n []) (n + 0)) (Xu : ∀ {a0 : Zd} {a1 : Zc} {a2 : Int} {r : (Int × Zd)} {O : Objs} {n : Nat} {i0 : Nat}, i0 < n → O i0 = some ⟨false, 107, 1, 1, [.val (.int .i64 a0.left)]⟩ → Zr a0 a1 a2 = some r → GTo Try.prog 85 [.ref i0 0, .agg (Zi a1), .val (.int .i64 a2)] O n (.val (.int .i64 r.1)) (Zv (O.upd i0 (some ⟨false, 107, 1, 1, [.val (.int .i64 r.2.left)]⟩)) n []) (n + 0)) (Qi : ∀ {a0 : Zd} {a1 : Zc} {a2 : Int} {r : (Int × Zd)} {O : Objs} {n : Nat} {i0 : Nat}, i0 < n → O i0 = some ⟨false, 107, 1, 1, [.val (.int .i64 a0.left)]⟩ → Zu a0 a1 a2 = some r → GTo Try.prog 86 [.ref i0 0, .agg (Zi a1), .val (.int .i64 a2)] O n (.val (.int .i64 r.1)) (Zv (O.upd i0 (some ⟨false, 107, 1, 1, [.val (.int .i64 r.2.left)]⟩)) n []) (n + 0)) {a0 : Zd} {a1 : Zc} {a2 : Int} {r : (Int × Zd)} {O : Objs} {n : Nat} {i0 : Nat} (hi0 : i0 < n) (ho0 : O i0 = some ⟨false, 107, 1, 1, [.val (.int .i64 a0.left)]⟩) (h : Yx Zs Zr Zu a0 a1 a2 = some r) : GTo Try.prog 85 [.ref i0 0, .agg (Zi a1), .val (.int .i64 a2)] O n (.val (.int .i64 r.1)) (Zv (O.upd i0 (some ⟨false, 107, 1, 1, [.val (.int .i64 r.2.left)]⟩)) n []) (n + 0) := by
 unfold Yx at h
 refine Xd Ze Try.call85 Try.func85 rfl (Nat.le_of_ble_eq_true rfl) (by omega) fun hU => ?_
 rw [show Zv O n [] = Zv (O.upd i0 (some ⟨false, 107, 1, 1, [.val (.int .i64 a0.left)]⟩)) n [] from by rw [Zkz (show O i0 = _ from by exact ho0)]]
 have hk0 : ∀ k, i0 < n + k := fun k => by omega
 have hN0 : ∀ o, Objs.upd O i0 o n = none := fun o => Ux hU hi0 _ (Nat.le_refl _)
 have hN : ∀ o k, Objs.upd O i0 o (n + k) = none := fun o k => Ux hU hi0 _ (Nat.le_add_right _ _)
 show W _ _ _ _ ⟨33, [], [(0, .ref i0 0), (1, .agg (Zi a1)), (2, .val (.int .i64 a2))]⟩ (Zv (O.upd i0 (some ⟨false, 107, 1, 1, [.val (.int .i64 a0.left)]⟩)) n []) _
 refine Zw [0, 2, 4] (Zb Ze [] ?_)
 simp only [push_cast, seval, ↓reduceIte, Za, hi0, hk0, hN0, hN]
 refine Zl ?_
 refine Zl ?_
 obtain ⟨y2, hy2, h⟩ := bC h
 refine Zb Ze [] ?_
 simp only [push_cast, seval, ↓reduceIte, Za, hi0, hk0, hN0, hN]
 refine (Yw hy2).then ?_
 simp only [push_cast, seval, ↓reduceIte, Za, hi0, hk0, hN0, hN]
 refine Zk [0, 2, 4, 12, 13] [true] ?_
 simp only [push_cast, seval, ↓reduceIte]
 refine Zk [0, 2, 4, 12, 13] [true] ?_
 simp only [push_cast, seval, ↓reduceIte]
 obtain ⟨z10, hz10, h⟩ := bC h
 refine Zq1 (J := (Zmy (fun z10 => JR n (⟨33, [], [(6, .val (.int .i64 z10.1))]⟩ : Env) (Zv (O.upd i0 (some ⟨false, 107, 1, 1, [.val (.int .i64 z10.2)]⟩)) n [none]) (n + 1)) (fun z10 => JX 0 n (⟨33, [], []⟩ : Env) (Zv (O.upd i0 (some ⟨false, 107, 1, 1, [.val (.int .i64 z10)]⟩)) n [none]) (n + 1)))) (z := z10) ?_ fun hw => ?_
 ·refine Zl1 hz10 (fun s0_ => ⟨33, [], [(0, .ref i0 0), (2, .val (.int .i64 a2)), (4, .ref n 0), (12, .val (.int .i64 y2)), (13, .val (.int .i64 s0_.1))]⟩) (fun s0_ => (Zv (O.upd i0 (some ⟨false, 107, 1, 1, [.val (.int .i64 s0_.2)]⟩)) n [some ⟨false, 27, 9, 1, (Zi a1)⟩])) (Zmy (fun z10 => JR n (⟨33, [], [(6, .val (.int .i64 z10.1))]⟩ : Env) (Zv (O.upd i0 (some ⟨false, 107, 1, 1, [.val (.int .i64 z10.2)]⟩)) n [none]) (n + 1)) (fun z10 => JX 0 n (⟨33, [], []⟩ : Env) (Zv (O.upd i0 (some ⟨false, 107, 1, 1, [.val (.int .i64 z10)]⟩)) n [none]) (n + 1))) ?_
  intro s0_ x0_ hs0_
  unfold Yy at hs0_
  try dsimp only
  refine Zw [0, 2, 4, 12, 13, 14] (Zb Ze [] ?_)
  simp only [push_cast, seval, ↓reduceIte, Za, hi0, hk0, hN0, hN]
  refine Zl ?_
  refine Zz (t := (decide (s0_.1 < y2))) rfl (fun c9 => ?_) (fun c9 => ?_)
  ·replace hs0_ := Z5 c9 hs0_
   refine Yb ?_
   try simp only [Zm, Zj]
   refine Zk [0, 2, 4, 12, 13] [true] ?_
   simp only [push_cast, seval, ↓reduceIte]
   refine Zl ?_
   refine Jz ?_
   refine Zw [0, 2, 4, 7, 12, 13] (Zb Ze [] ?_)
   simp only [push_cast, seval, ↓reduceIte, Za, hi0, hk0, hN0, hN]
   refine Zl ?_
   obtain ⟨y4, hy4, hs0_⟩ := bC hs0_
   refine Zb Ze [] ?_
   simp only [push_cast, seval, ↓reduceIte, Za, hi0, hk0, hN0, hN]
   refine (Zao hy4).then ?_
   simp only [push_cast, seval, ↓reduceIte, Za, hi0, hk0, hN0, hN]
   refine Zk [0, 2, 4, 8, 9, 12, 13] [true, true] ?_
   simp only [push_cast, seval, ↓reduceIte]
   refine Zl ?_
   refine Zw [0, 2, 4, 8, 9, 12, 13, 23] (Zb Ze [] ?_)
   simp only [push_cast, seval, ↓reduceIte, Za, hi0, hk0, hN0, hN]
   refine Zz (t := (y4.2 != 0)) rfl (fun c8 => ?_) (fun c8 => ?_)
   ·replace hs0_ := Z5 c8 hs0_
    refine Zw [6] (Zb Ze [] ?_)
    simp only [push_cast, seval, ↓reduceIte, Za, hi0, hk0, hN0, hN]
    refine Zx ?_
    try simp only [Zm, Zj]
    have hs0_ := Option.some.inj hs0_; subst hs0_
    refine And.intro (fun h => by cases h) (And.intro rfl (Fit2.of (Yz hU rfl rfl ?_) (by omega)))
    simp only [push_cast, seval, ↓reduceIte, Za, hi0, hk0, hN0, hN]
   replace hs0_ := Z4 c8 hs0_
   refine Yb ?_
   try simp only [Zm, Zj]
   refine Zk [0, 2, 4, 8, 12, 13] [true, true] ?_
   simp only [push_cast, seval, ↓reduceIte]
   refine Zl ?_
   obtain ⟨y6, hy6, hs0_⟩ := bC hs0_
   refine Zb Ze [] ?_
   simp only [push_cast, seval, ↓reduceIte, Za, hi0, hk0, hN0, hN]
   refine (Q1 (i0 := i0) (by omega) (by simp only [push_cast, seval, ↓reduceIte, Za, U6, hi0, hk0, hN0, hN] <;> rfl) hy6).then ?_
   simp only [push_cast, seval, ↓reduceIte, Za, hi0, hk0, hN0, hN]
   refine Zk [0, 2, 4, 10, 12, 13] [true, false] ?_
   simp only [push_cast, seval, ↓reduceIte]
   refine Zw [0, 2, 4, 10, 12, 13, 30] (Zb Ze [] ?_)
   simp only [push_cast, seval, ↓reduceIte, Za, hi0, hk0, hN0, hN]
   refine Zz (t := (y6.1 != 0)) rfl (fun c7 => ?_) (fun c7 => ?_)
   ·replace hs0_ := Z5 c7 hs0_
    refine Zw [6] (Zb Ze [] ?_)
    simp only [push_cast, seval, ↓reduceIte, Za, hi0, hk0, hN0, hN]
    refine Zx ?_
    try simp only [Zm, Zj]
    have hs0_ := Option.some.inj hs0_; subst hs0_
    refine And.intro (fun h => by cases h) (And.intro rfl (Fit2.of (Yz hU rfl rfl ?_) (by omega)))
    simp only [push_cast, seval, ↓reduceIte, Za, hi0, hk0, hN0, hN]
   replace hs0_ := Z4 c7 hs0_
   refine Yb ?_
   try simp only [Zm, Zj]
   refine Zk [0, 2, 4, 12, 13] [true, false] ?_
   simp only [push_cast, seval, ↓reduceIte]
   refine Zb Ze [] ?_
   simp only [push_cast, seval, ↓reduceIte, Za, hi0, hk0, hN0, hN]
   have hs0_ := Option.some.inj hs0_; subst hs0_
   refine And.intro rfl (Fit2.of (Yz hU rfl rfl ?_) (by omega))
   simp only [push_cast, seval, ↓reduceIte, Za, hi0, hk0, hN0, hN]
  replace hs0_ := Z4 c9 hs0_
  refine Zo8 ?_
  try simp only [Zm, Zj, ↓reduceIte, Nat.reduceEqDiff]
  have hs0_ := Option.some.inj hs0_; subst hs0_
  refine And.intro (fun h => by cases h) (And.intro rfl (Fit2.of (Yz hU rfl rfl ?_) (by omega)))
  simp only [push_cast, seval, ↓reduceIte, Za, hi0, hk0, hN0, hN]
 rcases z10 with z10 | z10
 ·dsimp only [Zmy] at hw h
  refine Zmz hw ?_
  try simp only [Zm, Zj, ↓reduceIte, Nat.reduceEqDiff]
  have h := Option.some.inj h; subst h
  refine V3 (k := 0) (i := i0) (q1 := ⟨false, 107, 1, 1, [.val (.int .i64 z10.2)]⟩) (L3 := [none]) (E2 := (⟨33, [], [(6, .val (.int .i64 z10.1))]⟩ : Env)) (n3 := (n + 1)) (.inr rfl) hU rfl [.val (.int .i64 z10.1)] ?_ ?_
  ·refine Fit2.trans (E' := (⟨33, [], [(6, .val (.int .i64 z10.1))]⟩ : Env)) (O' := (Zv (O.upd i0 (some ⟨false, 107, 1, 1, [.val (.int .i64 z10.2)]⟩)) n [none])) (n' := (n + 1)) (Fit2.of (Yz hU rfl rfl ?_) (by omega)) ?_
   ·simp only [push_cast, seval, ↓reduceIte, Za, hi0, hk0, hN0, hN]
   refine Ud (k := 1) (k' := 1) hU [0] [0] rfl rfl rfl rfl ⟨rfl, rfl⟩ ?_
   simp only [push_cast, seval, ↓reduceIte, Za, hi0, hk0, hN0, hN]
  simp only [push_cast, seval, ↓reduceIte, Za, Try.results85, hi0, hk0, hN0, hN]
 dsimp only [Zmy] at hw h
 refine Zi9 hw ?_
 try simp only [Zm, Zj, ↓reduceIte, Nat.reduceEqDiff]
 refine Zk [] [false] ?_
 simp only [push_cast, seval, ↓reduceIte]
 refine Zw [6] (Zb Ze [] ?_)
 simp only [push_cast, seval, ↓reduceIte, Za, hi0, hk0, hN0, hN]
 refine Zx ?_
 try simp only [Zm, Zj]
 have h := Option.some.inj h; subst h
 refine V3 (k := 0) (i := i0) (q1 := ⟨false, 107, 1, 1, [.val (.int .i64 z10)]⟩) (L3 := [none]) (E2 := (⟨33, [], [(6, .val (.int .i64 0))]⟩ : Env)) (n3 := (n + 1)) (.inr rfl) hU rfl [.val (.int .i64 0)] ?_ ?_
 ·refine Fit2.trans (E' := (⟨33, [], [(6, .val (.int .i64 0))]⟩ : Env)) (O' := (Zv (O.upd i0 (some ⟨false, 107, 1, 1, [.val (.int .i64 z10)]⟩)) n [none])) (n' := (n + 1)) (Fit2.of (Yz hU rfl rfl ?_) (by omega)) ?_
  ·simp only [push_cast, seval, ↓reduceIte, Za, hi0, hk0, hN0, hN]
  refine Ud (k := 1) (k' := 1) hU [0] [0] rfl rfl rfl rfl ⟨rfl, rfl⟩ ?_
  simp only [push_cast, seval, ↓reduceIte, Za, hi0, hk0, hN0, hN]
 simp only [push_cast, seval, ↓reduceIte, Za, Try.results85, hi0, hk0, hN0, hN]
theorem Zag {Zs : (Zd → Zc → Int → Option (Int × Zd))} {Zr : (Zd → Zc → Int → Option (Int × Zd))} {Zu : (Zd → Zc → Int → Option (Int × Zd))} (Q1 : ∀ {a0 : Zd} {a1 : Zc} {a2 : Int} {r : (Int × Zd)} {O : Objs} {n : Nat} {i0 : Nat}, i0 < n → O i0 = some ⟨false, 107, 1, 1, [.val (.int .i64 a0.left)]⟩ → Zs a0 a1 a2 = some r → GTo Try.prog 62 [.ref i0 0, .agg (Zi a1), .val (.int .i64 a2)] O n (.val (.int .i64 r.1)) (Zv (O.upd i0 (some ⟨false, 107, 1, 1, [.val (.int .i64 r.2.left)]⟩)) n []) (n + 0)) (Xu : ∀ {a0 : Zd} {a1 : Zc} {a2 : Int} {r : (Int × Zd)} {O : Objs} {n : Nat} {i0 : Nat}, i0 < n → O i0 = some ⟨false, 107, 1, 1, [.val (.int .i64 a0.left)]⟩ → Zr a0 a1 a2 = some r → GTo Try.prog 85 [.ref i0 0, .agg (Zi a1), .val (.int .i64 a2)] O n (.val (.int .i64 r.1)) (Zv (O.upd i0 (some ⟨false, 107, 1, 1, [.val (.int .i64 r.2.left)]⟩)) n []) (n + 0)) (Qi : ∀ {a0 : Zd} {a1 : Zc} {a2 : Int} {r : (Int × Zd)} {O : Objs} {n : Nat} {i0 : Nat}, i0 < n → O i0 = some ⟨false, 107, 1, 1, [.val (.int .i64 a0.left)]⟩ → Zu a0 a1 a2 = some r → GTo Try.prog 86 [.ref i0 0, .agg (Zi a1), .val (.int .i64 a2)] O n (.val (.int .i64 r.1)) (Zv (O.upd i0 (some ⟨false, 107, 1, 1, [.val (.int .i64 r.2.left)]⟩)) n []) (n + 0)) {a0 : Zd} {a1 : Zc} {a2 : Int} {r : (Int × Zd)} {O : Objs} {n : Nat} {i0 : Nat} (hi0 : i0 < n) (ho0 : O i0 = some ⟨false, 107, 1, 1, [.val (.int .i64 a0.left)]⟩) (h : Yl Zs Zr Zu a0 a1 a2 = some r) : GTo Try.prog 86 [.ref i0 0, .agg (Zi a1), .val (.int .i64 a2)] O n (.val (.int .i64 r.1)) (Zv (O.upd i0 (some ⟨false, 107, 1, 1, [.val (.int .i64 r.2.left)]⟩)) n []) (n + 0) := by
 unfold Yl at h
 refine Xd Ze Try.call86 Try.func86 rfl (Nat.le_of_ble_eq_true rfl) (by omega) fun hU => ?_
 rw [show Zv O n [] = Zv (O.upd i0 (some ⟨false, 107, 1, 1, [.val (.int .i64 a0.left)]⟩)) n [] from by rw [Zkz (show O i0 = _ from by exact ho0)]]
 have hk0 : ∀ k, i0 < n + k := fun k => by omega
 have hN0 : ∀ o, Objs.upd O i0 o n = none := fun o => Ux hU hi0 _ (Nat.le_refl _)
 have hN : ∀ o k, Objs.upd O i0 o (n + k) = none := fun o k => Ux hU hi0 _ (Nat.le_add_right _ _)
 show W _ _ _ _ ⟨34, [], [(0, .ref i0 0), (1, .agg (Zi a1)), (2, .val (.int .i64 a2))]⟩ (Zv (O.upd i0 (some ⟨false, 107, 1, 1, [.val (.int .i64 a0.left)]⟩)) n []) _
 refine Zw [0, 2, 4] (Zb Ze [] ?_)
 simp only [push_cast, seval, ↓reduceIte, Za, hi0, hk0, hN0, hN]
 refine Zl ?_
 refine Zl ?_
 obtain ⟨y2, hy2, h⟩ := bC h
 refine Zb Ze [] ?_
 simp only [push_cast, seval, ↓reduceIte, Za, hi0, hk0, hN0, hN]
 refine (Yw hy2).then ?_
 simp only [push_cast, seval, ↓reduceIte, Za, hi0, hk0, hN0, hN]
 refine Zk [0, 2, 4, 12, 13] [true] ?_
 simp only [push_cast, seval, ↓reduceIte]
 refine Zk [0, 2, 4, 12, 13] [true] ?_
 simp only [push_cast, seval, ↓reduceIte]
 obtain ⟨z10, hz10, h⟩ := bC h
 refine Zq1 (J := (Zmy (fun z10 => JR n (⟨34, [], [(6, .val (.int .i64 z10.1))]⟩ : Env) (Zv (O.upd i0 (some ⟨false, 107, 1, 1, [.val (.int .i64 z10.2)]⟩)) n [none]) (n + 1)) (fun z10 => JX 0 n (⟨34, [], []⟩ : Env) (Zv (O.upd i0 (some ⟨false, 107, 1, 1, [.val (.int .i64 z10)]⟩)) n [none]) (n + 1)))) (z := z10) ?_ fun hw => ?_
 ·refine Zl1 hz10 (fun s0_ => ⟨34, [], [(0, .ref i0 0), (2, .val (.int .i64 a2)), (4, .ref n 0), (12, .val (.int .i64 y2)), (13, .val (.int .i64 s0_.1))]⟩) (fun s0_ => (Zv (O.upd i0 (some ⟨false, 107, 1, 1, [.val (.int .i64 s0_.2)]⟩)) n [some ⟨false, 27, 9, 1, (Zi a1)⟩])) (Zmy (fun z10 => JR n (⟨34, [], [(6, .val (.int .i64 z10.1))]⟩ : Env) (Zv (O.upd i0 (some ⟨false, 107, 1, 1, [.val (.int .i64 z10.2)]⟩)) n [none]) (n + 1)) (fun z10 => JX 0 n (⟨34, [], []⟩ : Env) (Zv (O.upd i0 (some ⟨false, 107, 1, 1, [.val (.int .i64 z10)]⟩)) n [none]) (n + 1))) ?_
  intro s0_ x0_ hs0_
  unfold Ym at hs0_
  try dsimp only
  refine Zw [0, 2, 4, 12, 13, 14] (Zb Ze [] ?_)
  simp only [push_cast, seval, ↓reduceIte, Za, hi0, hk0, hN0, hN]
  refine Zl ?_
  refine Zz (t := (decide (s0_.1 < y2))) rfl (fun c9 => ?_) (fun c9 => ?_)
  ·replace hs0_ := Z5 c9 hs0_
   refine Yb ?_
   try simp only [Zm, Zj]
   refine Zk [0, 2, 4, 12, 13] [true] ?_
   simp only [push_cast, seval, ↓reduceIte]
   refine Zl ?_
   refine Jz ?_
   refine Zw [0, 2, 4, 7, 12, 13] (Zb Ze [] ?_)
   simp only [push_cast, seval, ↓reduceIte, Za, hi0, hk0, hN0, hN]
   refine Zl ?_
   obtain ⟨y4, hy4, hs0_⟩ := bC hs0_
   refine Zb Ze [] ?_
   simp only [push_cast, seval, ↓reduceIte, Za, hi0, hk0, hN0, hN]
   refine (Zao hy4).then ?_
   simp only [push_cast, seval, ↓reduceIte, Za, hi0, hk0, hN0, hN]
   refine Zk [0, 2, 4, 8, 9, 12, 13] [true, true] ?_
   simp only [push_cast, seval, ↓reduceIte]
   refine Zl ?_
   refine Zw [0, 2, 4, 8, 9, 12, 13, 23] (Zb Ze [] ?_)
   simp only [push_cast, seval, ↓reduceIte, Za, hi0, hk0, hN0, hN]
   refine Zz (t := (y4.2 != 0)) rfl (fun c8 => ?_) (fun c8 => ?_)
   ·replace hs0_ := Z5 c8 hs0_
    refine Zw [6] (Zb Ze [] ?_)
    simp only [push_cast, seval, ↓reduceIte, Za, hi0, hk0, hN0, hN]
    refine Zx ?_
    try simp only [Zm, Zj]
    have hs0_ := Option.some.inj hs0_; subst hs0_
    refine And.intro (fun h => by cases h) (And.intro rfl (Fit2.of (Yz hU rfl rfl ?_) (by omega)))
    simp only [push_cast, seval, ↓reduceIte, Za, hi0, hk0, hN0, hN]
   replace hs0_ := Z4 c8 hs0_
   refine Yb ?_
   try simp only [Zm, Zj]
   refine Zk [0, 2, 4, 8, 12, 13] [true, true] ?_
   simp only [push_cast, seval, ↓reduceIte]
   refine Zl ?_
   obtain ⟨y6, hy6, hs0_⟩ := bC hs0_
   refine Zb Ze [] ?_
   simp only [push_cast, seval, ↓reduceIte, Za, hi0, hk0, hN0, hN]
   refine (Xu (i0 := i0) (by omega) (by simp only [push_cast, seval, ↓reduceIte, Za, U6, hi0, hk0, hN0, hN] <;> rfl) hy6).then ?_
   simp only [push_cast, seval, ↓reduceIte, Za, hi0, hk0, hN0, hN]
   refine Zk [0, 2, 4, 10, 12, 13] [true, false] ?_
   simp only [push_cast, seval, ↓reduceIte]
   refine Zw [0, 2, 4, 10, 12, 13, 31] (Zb Ze [] ?_)
   simp only [push_cast, seval, ↓reduceIte, Za, hi0, hk0, hN0, hN]
   refine Zz (t := (y6.1 != 0)) rfl (fun c7 => ?_) (fun c7 => ?_)
   ·replace hs0_ := Z5 c7 hs0_
    refine Zw [6] (Zb Ze [] ?_)
    simp only [push_cast, seval, ↓reduceIte, Za, hi0, hk0, hN0, hN]
    refine Zx ?_
    try simp only [Zm, Zj]
    have hs0_ := Option.some.inj hs0_; subst hs0_
    refine And.intro (fun h => by cases h) (And.intro rfl (Fit2.of (Yz hU rfl rfl ?_) (by omega)))
    simp only [push_cast, seval, ↓reduceIte, Za, hi0, hk0, hN0, hN]
   replace hs0_ := Z4 c7 hs0_
   refine Yb ?_
   try simp only [Zm, Zj]
   refine Zk [0, 2, 4, 12, 13] [true, false] ?_
   simp only [push_cast, seval, ↓reduceIte]
   refine Zb Ze [] ?_
   simp only [push_cast, seval, ↓reduceIte, Za, hi0, hk0, hN0, hN]
   have hs0_ := Option.some.inj hs0_; subst hs0_
   refine And.intro rfl (Fit2.of (Yz hU rfl rfl ?_) (by omega))
   simp only [push_cast, seval, ↓reduceIte, Za, hi0, hk0, hN0, hN]
  replace hs0_ := Z4 c9 hs0_
  refine Zo8 ?_
  try simp only [Zm, Zj, ↓reduceIte, Nat.reduceEqDiff]
  have hs0_ := Option.some.inj hs0_; subst hs0_
  refine And.intro (fun h => by cases h) (And.intro rfl (Fit2.of (Yz hU rfl rfl ?_) (by omega)))
  simp only [push_cast, seval, ↓reduceIte, Za, hi0, hk0, hN0, hN]
 rcases z10 with z10 | z10
 ·dsimp only [Zmy] at hw h
  refine Zmz hw ?_
  try simp only [Zm, Zj, ↓reduceIte, Nat.reduceEqDiff]
  have h := Option.some.inj h; subst h
  refine V3 (k := 0) (i := i0) (q1 := ⟨false, 107, 1, 1, [.val (.int .i64 z10.2)]⟩) (L3 := [none]) (E2 := (⟨34, [], [(6, .val (.int .i64 z10.1))]⟩ : Env)) (n3 := (n + 1)) (.inr rfl) hU rfl [.val (.int .i64 z10.1)] ?_ ?_
  ·refine Fit2.trans (E' := (⟨34, [], [(6, .val (.int .i64 z10.1))]⟩ : Env)) (O' := (Zv (O.upd i0 (some ⟨false, 107, 1, 1, [.val (.int .i64 z10.2)]⟩)) n [none])) (n' := (n + 1)) (Fit2.of (Yz hU rfl rfl ?_) (by omega)) ?_
   ·simp only [push_cast, seval, ↓reduceIte, Za, hi0, hk0, hN0, hN]
   refine Ud (k := 1) (k' := 1) hU [0] [0] rfl rfl rfl rfl ⟨rfl, rfl⟩ ?_
   simp only [push_cast, seval, ↓reduceIte, Za, hi0, hk0, hN0, hN]
  simp only [push_cast, seval, ↓reduceIte, Za, Try.results86, hi0, hk0, hN0, hN]
 dsimp only [Zmy] at hw h
 refine Zi9 hw ?_
 try simp only [Zm, Zj, ↓reduceIte, Nat.reduceEqDiff]
 refine Zk [] [false] ?_
 simp only [push_cast, seval, ↓reduceIte]
 refine Zw [6] (Zb Ze [] ?_)
 simp only [push_cast, seval, ↓reduceIte, Za, hi0, hk0, hN0, hN]
 refine Zx ?_
 try simp only [Zm, Zj]
 have h := Option.some.inj h; subst h
 refine V3 (k := 0) (i := i0) (q1 := ⟨false, 107, 1, 1, [.val (.int .i64 z10)]⟩) (L3 := [none]) (E2 := (⟨34, [], [(6, .val (.int .i64 0))]⟩ : Env)) (n3 := (n + 1)) (.inr rfl) hU rfl [.val (.int .i64 0)] ?_ ?_
 ·refine Fit2.trans (E' := (⟨34, [], [(6, .val (.int .i64 0))]⟩ : Env)) (O' := (Zv (O.upd i0 (some ⟨false, 107, 1, 1, [.val (.int .i64 z10)]⟩)) n [none])) (n' := (n + 1)) (Fit2.of (Yz hU rfl rfl ?_) (by omega)) ?_
  ·simp only [push_cast, seval, ↓reduceIte, Za, hi0, hk0, hN0, hN]
  refine Ud (k := 1) (k' := 1) hU [0] [0] rfl rfl rfl rfl ⟨rfl, rfl⟩ ?_
  simp only [push_cast, seval, ↓reduceIte, Za, hi0, hk0, hN0, hN]
 simp only [push_cast, seval, ↓reduceIte, Za, Try.results86, hi0, hk0, hN0, hN]
theorem Zaf : ∀ k, (∀ {a0 : Zd} {a1 : Zc} {a2 : Int} {r : (Int × Zd)} {O : Objs} {n : Nat} {i0 : Nat}, i0 < n → O i0 = some ⟨false, 107, 1, 1, [.val (.int .i64 a0.left)]⟩ → (Zh k).1 a0 a1 a2 = some r → GTo Try.prog 62 [.ref i0 0, .agg (Zi a1), .val (.int .i64 a2)] O n (.val (.int .i64 r.1)) (Zv (O.upd i0 (some ⟨false, 107, 1, 1, [.val (.int .i64 r.2.left)]⟩)) n []) (n + 0)) ∧ (∀ {a0 : Zd} {a1 : Zc} {a2 : Int} {r : (Int × Zd)} {O : Objs} {n : Nat} {i0 : Nat}, i0 < n → O i0 = some ⟨false, 107, 1, 1, [.val (.int .i64 a0.left)]⟩ → (Zh k).2.1 a0 a1 a2 = some r → GTo Try.prog 85 [.ref i0 0, .agg (Zi a1), .val (.int .i64 a2)] O n (.val (.int .i64 r.1)) (Zv (O.upd i0 (some ⟨false, 107, 1, 1, [.val (.int .i64 r.2.left)]⟩)) n []) (n + 0)) ∧ (∀ {a0 : Zd} {a1 : Zc} {a2 : Int} {r : (Int × Zd)} {O : Objs} {n : Nat} {i0 : Nat}, i0 < n → O i0 = some ⟨false, 107, 1, 1, [.val (.int .i64 a0.left)]⟩ → (Zh k).2.2 a0 a1 a2 = some r → GTo Try.prog 86 [.ref i0 0, .agg (Zi a1), .val (.int .i64 a2)] O n (.val (.int .i64 r.1)) (Zv (O.upd i0 (some ⟨false, 107, 1, 1, [.val (.int .i64 r.2.left)]⟩)) n []) (n + 0)) := fun k => by
 induction k with
 | zero => exact ⟨@fun a0 a1 a2 r O n i0 hi0 ho0 h => (nomatch (show (none : Option _) = some _ from h)), @fun a0 a1 a2 r O n i0 hi0 ho0 h => (nomatch (show (none : Option _) = some _ from h)), @fun a0 a1 a2 r O n i0 hi0 ho0 h => (nomatch (show (none : Option _) = some _ from h))⟩
 | succ k ih => exact ⟨@fun a0 a1 a2 r O n i0 hi0 ho0 h => Zbh (ih.1) (ih.2.1) (ih.2.2) hi0 ho0 h, @fun a0 a1 a2 r O n i0 hi0 ho0 h => Zb8 (ih.1) (ih.2.1) (ih.2.2) hi0 ho0 h, @fun a0 a1 a2 r O n i0 hi0 ho0 h => Zag (ih.1) (ih.2.1) (ih.2.2) hi0 ho0 h⟩
theorem Zb7 {a0 : Zd} {a1 : Zc} {a2 : Int} {r : (Int × Zd)} {O : Objs} {n : Nat} {i0 : Nat} (hi0 : i0 < n) (ho0 : O i0 = some ⟨false, 107, 1, 1, [.val (.int .i64 a0.left)]⟩) (h : Jn a0 a1 a2 = some r) : GTo Try.prog 62 [.ref i0 0, .agg (Zi a1), .val (.int .i64 a2)] O n (.val (.int .i64 r.1)) (Zv (O.upd i0 (some ⟨false, 107, 1, 1, [.val (.int .i64 r.2.left)]⟩)) n []) (n + 0) := by
 obtain ⟨k, hk⟩ := Zrt h
 exact (Zaf k).1 hi0 ho0 hk
theorem Ve {a0 : (Option Zg)} {a1 : Zp} {r : (Int × Int)} {O : Objs} {n : Nat} (h : X6 a0 a1 = some r) : GTo Try.prog 31 [(gP Zf a0), .agg (Z6 a1)] O n (.tup [.val (.int .i64 r.1), .val (.int .i64 r.2)]) O n := by
 unfold X6 at h
 refine Xd Ze Try.call31 Try.func31 rfl (Nat.le_of_ble_eq_true rfl) (Nat.le_refl _) fun hU => ?_
 have hN0 : O n = none := hU.fresh _ (Nat.le_refl _)
 have hN : ∀ k, O (n + k) = none := fun k => hU.fresh _ (Nat.le_add_right _ _)
 show W _ _ _ _ ⟨35, [], [(0, (gP Zf a0)), (1, .agg (Z6 a1))]⟩ (Zv O n []) _
 refine Zw [0, 3] (Zb Ze [] ?_)
 simp only [push_cast, seval, ↓reduceIte, Za, hN0, hN]
 refine Zl ?_
 obtain ⟨y2, hy2, h⟩ := bC h
 refine Zb Ze [] ?_
 simp only [push_cast, seval, ↓reduceIte, Za, hN0, hN]
 refine (Zci hy2).then ?_
 simp only [push_cast, seval, ↓reduceIte, Za, hN0, hN]
 refine Zk [0, 3] [true] ?_
 simp only [push_cast, seval, ↓reduceIte]
 refine Zl ?_
 obtain ⟨y4, hy4, h⟩ := bC h
 refine Zb Ze [] ?_
 simp only [push_cast, seval, ↓reduceIte, Za, hN0, hN]
 refine (Zjv hy4).then ?_
 simp only [push_cast, seval, ↓reduceIte, Za, hN0, hN]
 refine Zk [3, 6, 7] [true, true] ?_
 simp only [push_cast, seval, ↓reduceIte]
 refine Zl ?_
 refine Zw [3, 6, 7, 18] (Zb Ze [] ?_)
 simp only [push_cast, seval, ↓reduceIte, Za, hN0, hN]
 refine Zz (t := (y4.2 != 0)) rfl (fun c8 => ?_) (fun c8 => ?_)
 ·replace h := Z5 c8 h
  refine Zw [4, 5] (Zb Ze [] ?_)
  simp only [push_cast, seval, ↓reduceIte, Za, hN0, hN]
  refine Zx ?_
  try simp only [Zm, Zj]
  have h := Option.some.inj h; subst h
  refine Zn (.inr rfl) hU [.val (.int .i64 0), .val (.int .i64 y4.2)] (by omega) ?_
  simp only [push_cast, seval, ↓reduceIte, Za, Try.results31, hN0, hN]
 replace h := Z4 c8 h
 refine Yb ?_
 try simp only [Zm, Zj]
 refine Zk [3, 6] [true, true] ?_
 simp only [push_cast, seval, ↓reduceIte]
 refine Zl ?_
 refine Zb Ze [] ?_
 simp only [push_cast, seval, ↓reduceIte, Za, hN0, hN]
 refine Zk [3, 6, 8] [true, true, true] ?_
 simp only [push_cast, seval, ↓reduceIte]
 refine Zl ?_
 refine Zl ?_
 obtain ⟨y6, hy6, h⟩ := bC h
 refine Zb Ze [] ?_
 simp only [push_cast, seval, ↓reduceIte, Za, hN0, hN]
 refine (Zb7 (i0 := (n + 2)) (by omega) (by simp only [push_cast, seval, ↓reduceIte, Za, U6, hN0, hN] <;> rfl) hy6).then ?_
 simp only [push_cast, seval, ↓reduceIte, Za, hN0, hN]
 refine Zk [3, 8, 9] [true, false, true] ?_
 simp only [push_cast, seval, ↓reduceIte]
 refine Zw [3, 8, 9, 28] (Zb Ze [] ?_)
 simp only [push_cast, seval, ↓reduceIte, Za, hN0, hN]
 refine Zz (t := (y6.1 != 0)) rfl (fun c7 => ?_) (fun c7 => ?_)
 ·replace h := Z5 c7 h
  refine Zw [4, 5] (Zb Ze [] ?_)
  simp only [push_cast, seval, ↓reduceIte, Za, hN0, hN]
  refine Zx ?_
  try simp only [Zm, Zj]
  have h := Option.some.inj h; subst h
  refine Zn (.inr rfl) hU [.val (.int .i64 0), .val (.int .i64 y6.1)] (by omega) ?_
  simp only [push_cast, seval, ↓reduceIte, Za, Try.results31, hN0, hN]
 replace h := Z4 c7 h
 refine Yb ?_
 try simp only [Zm, Zj]
 refine Zk [3, 8] [true, false, true] ?_
 simp only [push_cast, seval, ↓reduceIte]
 refine Zw [4, 5] (Zb Ze [] ?_)
 simp only [push_cast, seval, ↓reduceIte, Za, hN0, hN]
 refine Zx ?_
 try simp only [Zm, Zj]
 have h := Option.some.inj h; subst h
 refine Zn (.inr rfl) hU [.val (.int .i64 (IntKind.i64.wrap (y2.Weight - y6.2.left))), .val (.int .i64 0)] (by omega) ?_
 simp only [push_cast, seval, ↓reduceIte, Za, Try.results31, hN0, hN]
theorem Uq  {r : Bool} {O : Objs} {n : Nat} (h : Xm = some r) : GTo Try.prog 33 [] O n (.val (.bool r)) O n := by
 unfold Xm at h
 refine Xd Ze Try.call33 Try.func33 rfl (Nat.le_of_ble_eq_true rfl) (Nat.le_refl _) fun hU => ?_
 have hN0 : O n = none := hU.fresh _ (Nat.le_refl _)
 have hN : ∀ k, O (n + k) = none := fun k => hU.fresh _ (Nat.le_add_right _ _)
 show W _ _ _ _ ⟨31, [], []⟩ (Zv O n []) _
 refine Zw [] (Zb Ze [] ?_)
 simp only [push_cast, seval, ↓reduceIte, Za, hN0, hN]
 refine Zl ?_
 obtain ⟨y2, hy2, h⟩ := bC h
 refine Zb Ze [] ?_
 simp only [push_cast, seval, ↓reduceIte, Za, hN0, hN]
 refine GCalls.dropL (l' := [none, none]) hU rfl ?_ ((Zdc hy2).then ?_)
 ·simp only [push_cast, seval, ↓reduceIte, Za, hN0, hN]
 simp only [push_cast, seval, ↓reduceIte, Za, hN0, hN]
 refine Zk [1] [false, false] ?_
 simp only [push_cast, seval, ↓reduceIte]
 refine Zl ?_
 obtain ⟨y4, hy4, h⟩ := bC h
 refine Zb Ze [] ?_
 simp only [push_cast, seval, ↓reduceIte, Za, hN0, hN]
 refine (Ve hy4).then ?_
 simp only [push_cast, seval, ↓reduceIte, Za, hN0, hN]
 refine Zk [1, 2, 3] [false, false] ?_
 simp only [push_cast, seval, ↓reduceIte]
 refine Zl ?_
 obtain ⟨y6, hy6, h⟩ := bC h
 refine Zb Ze [] ?_
 simp only [push_cast, seval, ↓reduceIte, Za, hN0, hN]
 refine (Ve hy6).then ?_
 simp only [push_cast, seval, ↓reduceIte, Za, hN0, hN]
 refine Zk [2, 3, 5] [false, false] ?_
 simp only [push_cast, seval, ↓reduceIte]
 refine Zw [0] (Zb Ze [none, none, none, none] ?_)
 simp only [push_cast, seval, ↓reduceIte, Za, hN0, hN]
 repeat (with_reducible refine And.intro (by first | (intro h0; simp only [h0, and_self]; done) | (intro h0; simp only [h0, Bool.not_false, Bool.not_true, Bool.true_and, Bool.and_true, true_and, and_true, and_self, imp_self, implies_true, bne_iff_ne, ne_eq, beq_iff_eq]; done) | (intros; simp_all; done) | exact True.intro) ?_)
 refine Zx ?_
 try simp only [Zm, Zj]
 have h := Option.some.inj h; subst h
 refine Zn (.inr rfl) hU [.val (.bool (cond (cond (y4.1 == 2) (y4.2 == 0) false) (y6.2 == 3) false))] (by omega) ?_
 simp only [push_cast, seval, ↓reduceIte, Za, Try.results33, hN0, hN]
theorem Zet {a0 : Zp} {r : Zp} {O : Objs} {n : Nat} (h : Qg a0 = some r) : GTo Try.prog 30 [.agg (Z6 a0)] O n (.agg (Z6 r)) O n := by
 unfold Qg at h
 refine Xd Ze Try.call30 Try.func30 rfl (Nat.le_of_ble_eq_true rfl) (Nat.le_refl _) fun hU => ?_
 have hN0 : O n = none := hU.fresh _ (Nat.le_refl _)
 have hN : ∀ k, O (n + k) = none := fun k => hU.fresh _ (Nat.le_add_right _ _)
 show W _ _ _ _ ⟨8, [], [(0, .agg (Z6 a0))]⟩ (Zv O n []) _
 refine Zw [1, 2] (Zb Ze [] ?_)
 simp only [push_cast, seval, ↓reduceIte, Za, hN0, hN]
 obtain ⟨z1, hz1, h⟩ := bC h
 refine Zb1 (E' := ⟨8, [], [(1, .ref n 0), (2, .ref (n + 1) 0)]⟩) (O' := (Zv O n [some ⟨false, 52, 4, 1, [.val (.int .i64 a0.Depth), .val (.int .i64 z1), .val (.int .i64 a0.MaxD), .val (.int .i64 a0.MaxOut)]⟩, some ⟨false, 52, 4, 1, [.val (.int .i64 0), .val (.int .i64 0), .val (.int .i64 0), .val (.int .i64 0)]⟩])) (n0 := (n + 2)) ?_ ?_
 ·refine Zw [1, 2, 5] (Zb Ze [] ?_)
  simp only [push_cast, seval, ↓reduceIte, Za, hN0, hN]
  refine Zz (t := (decide (3000 < a0.Weight))) rfl (fun c2 => ?_) (fun c2 => ?_)
  ·replace hz1 := Z5 c2 hz1
   refine Zb Ze [] ?_
   simp only [push_cast, seval, ↓reduceIte, Za, hN0, hN]
   have hz1 := Option.some.inj hz1; subst hz1
   refine And.intro rfl (Fit2.of (Xc hU rfl rfl ?_) (by omega))
   simp only [push_cast, seval, ↓reduceIte, Za, hN0, hN]
  replace hz1 := Z4 c2 hz1
  refine Yb ?_
  try simp only [Zm, Zj]
  have hz1 := Option.some.inj hz1; subst hz1
  refine And.intro rfl (Fit2.of (Xc hU rfl rfl ?_) (by omega))
  simp only [push_cast, seval, ↓reduceIte, Za, hN0, hN]
 refine Zl ?_
 refine Zb Ze [] ?_
 simp only [push_cast, seval, ↓reduceIte, Za, hN0, hN]
 refine Zk [2] [false, true] ?_
 simp only [push_cast, seval, ↓reduceIte]
 refine Zx ?_
 try simp only [Zm, Zj]
 have h := Option.some.inj h; subst h
 refine Zn (.inr rfl) hU [.agg [.val (.int .i64 a0.Depth), .val (.int .i64 z1), .val (.int .i64 a0.MaxD), .val (.int .i64 a0.MaxOut)]] (by omega) ?_
 simp only [push_cast, seval, ↓reduceIte, Za, Try.results30, hN0, hN]
theorem Zbg {a0 : (List (List Int))} {a1 : Zp} {a2 : Int} {a3 : Int} {r : Bool} {O : Objs} {n : Nat} (h : X5 a0 a1 a2 a3 = some r) : GTo Try.prog 8 [.sl a0.length (fl (eL (eI .u64)) a0), .agg (Z6 a1), .val (.int .u8 a2), .val (.int .u8 a3)] O n (.val (.bool r)) O n := by
 unfold X5 at h
 refine Xd Ze Try.call8 Try.func8 rfl (Nat.le_of_ble_eq_true rfl) (Nat.le_refl _) fun hU => ?_
 have hN0 : O n = none := hU.fresh _ (Nat.le_refl _)
 have hN : ∀ k, O (n + k) = none := fun k => hU.fresh _ (Nat.le_add_right _ _)
 show W _ _ _ _ ⟨58, [], [(0, .sl a0.length (fl (eL (eI .u64)) a0)), (1, .agg (Z6 a1)), (2, .val (.int .u8 a2)), (3, .val (.int .u8 a3))]⟩ (Zv O n []) _
 refine Zw [0, 2, 3, 5] (Zb Ze [] ?_)
 simp only [push_cast, seval, ↓reduceIte, Za, hN0, hN]
 refine Zl ?_
 obtain ⟨y2, hy2, h⟩ := bC h
 refine Zb Ze [] ?_
 simp only [push_cast, seval, ↓reduceIte, Za, hN0, hN]
 refine (Zet hy2).then ?_
 simp only [push_cast, seval, ↓reduceIte, Za, hN0, hN]
 refine Zk [0, 2, 3, 5] [true] ?_
 simp only [push_cast, seval, ↓reduceIte]
 refine Zl ?_
 obtain ⟨y5, hy5, h⟩ := bC h
 obtain ⟨y6, hy6, h⟩ := bC h
 refine Zai Ze (by kernel_rfl) [] (by kernel_rfl) ?_
 simp only [push_cast, seval, ↓reduceIte, Za, hN0, hN]
 refine PCall.of (Zdc hy5) ?_
 simp only [push_cast, seval, ↓reduceIte, Za, hN0, hN]
 refine PCall.of (Ve hy6) ?_
 simp only [push_cast, seval, ↓reduceIte, Za, hN0, hN]
 refine Zk [0, 2, 3, 5, 9, 10] [true] ?_
 simp only [push_cast, seval, ↓reduceIte]
 refine Zl ?_
 obtain ⟨y8, hy8, h⟩ := bC h
 refine Zb Ze [] ?_
 simp only [push_cast, seval, ↓reduceIte, Za, hN0, hN]
 refine (Zci hy8).then ?_
 simp only [push_cast, seval, ↓reduceIte, Za, hN0, hN]
 refine Zk [0, 2, 3, 9, 10, 11] [false, true] ?_
 simp only [push_cast, seval, ↓reduceIte]
 refine Zl ?_
 refine Zb Ze [] ?_
 simp only [push_cast, seval, ↓reduceIte, Za, hN0, hN]
 refine Zk [0, 3, 9, 10, 11] [false, true] ?_
 simp only [push_cast, seval, ↓reduceIte]
 refine Zl ?_
 refine Zb Ze [] ?_
 simp only [push_cast, seval, ↓reduceIte, Za, hN0, hN]
 refine Zk [0, 9, 10, 11] [false, true] ?_
 simp only [push_cast, seval, ↓reduceIte]
 refine Zl ?_
 obtain ⟨y11, hy11, h⟩ := bC h
 obtain ⟨y12, hy12, h⟩ := bC h
 refine Zai Ze (by kernel_rfl) [] (by kernel_rfl) ?_
 simp only [push_cast, seval, ↓reduceIte, Za, hN0, hN]
 refine PCall.of (Zdc hy11) ?_
 simp only [push_cast, seval, ↓reduceIte, Za, hN0, hN]
 refine PCall.of (Ve hy12) ?_
 simp only [push_cast, seval, ↓reduceIte, Za, hN0, hN]
 refine Zk [9, 10, 12, 13] [false, false] ?_
 simp only [push_cast, seval, ↓reduceIte]
 obtain ⟨z15, hz15, h⟩ := bC h
 refine Zb1 (E' := ⟨58, [], [(8, .val (.bool z15))]⟩) (O' := (Zv O n [none, none])) (n0 := (n + 2)) ?_ ?_
 ·rcases Bool.eq_false_or_eq_true (y6.2 != 0) with c20 | c20
  ·replace hz15 := Z5 c20 hz15
   obtain ⟨y18, hy18, hz15⟩ := bC hz15
   refine Zb Ze [none, none, none, none, none, none, none, some true] ?_
   simp only [push_cast, seval, ↓reduceIte, Za, c20, hN0, hN]
   repeat (with_reducible refine And.intro (by first | (intro h0; simp only [h0, and_self]; done) | (intro h0; simp only [h0, Bool.not_false, Bool.not_true, Bool.true_and, Bool.and_true, true_and, and_true, and_self, imp_self, implies_true, bne_iff_ne, ne_eq, beq_iff_eq]; done) | (intros; simp_all; done) | exact True.intro) ?_)
   refine (Uq hy18).then ?_
   simp only [push_cast, seval, ↓reduceIte, Za, c20, hN0, hN]
   repeat (with_reducible refine And.intro (by first | (intro h0; simp only [h0, and_self]; done) | (intro h0; simp only [h0, Bool.not_false, Bool.not_true, Bool.true_and, Bool.and_true, true_and, and_true, and_self, imp_self, implies_true, bne_iff_ne, ne_eq, beq_iff_eq]; done) | (intros; simp_all; done) | exact True.intro) ?_)
   have hz15 := Option.some.inj hz15; subst hz15
   refine And.intro rfl (Fit2.of (Xc hU rfl rfl ?_) (by omega))
   simp only [push_cast, seval, ↓reduceIte, Za, c20, hN0, hN]
  replace hz15 := Z4 c20 hz15
  rcases Bool.eq_false_or_eq_true (y12.2 == 0) with c21 | c21
  ·replace hz15 := Z5 c21 hz15
   try rw [c21] at c20
   rcases Bool.eq_false_or_eq_true (y6.1 == y12.1) with c22 | c22
   ·replace hz15 := Z5 c22 hz15
    try rw [c22] at c20
    try rw [c22] at c21
    obtain ⟨y19, hy19, hz15⟩ := bC hz15
    refine Zb Ze [none, none, none, none, none, none, none, some true] ?_
    simp only [push_cast, seval, ↓reduceIte, Za, c20, c21, c22, hN0, hN]
    repeat (with_reducible refine And.intro (by first | (intro h0; simp only [h0, and_self]; done) | (intro h0; simp only [h0, Bool.not_false, Bool.not_true, Bool.true_and, Bool.and_true, true_and, and_true, and_self, imp_self, implies_true, bne_iff_ne, ne_eq, beq_iff_eq]; done) | (intros; simp_all; done) | exact True.intro) ?_)
    refine (Uq hy19).then ?_
    simp only [push_cast, seval, ↓reduceIte, Za, c20, c21, c22, hN0, hN]
    repeat (with_reducible refine And.intro (by first | (intro h0; simp only [h0, and_self]; done) | (intro h0; simp only [h0, Bool.not_false, Bool.not_true, Bool.true_and, Bool.and_true, true_and, and_true, and_self, imp_self, implies_true, bne_iff_ne, ne_eq, beq_iff_eq]; done) | (intros; simp_all; done) | exact True.intro) ?_)
    have hz15 := Option.some.inj hz15; subst hz15
    refine And.intro rfl (Fit2.of (Xc hU rfl rfl ?_) (by omega))
    simp only [push_cast, seval, ↓reduceIte, Za, c20, c21, c22, hN0, hN]
   replace hz15 := Z4 c22 hz15
   try rw [c22] at c20
   try rw [c22] at c21
   refine Zb Ze [none, none, none, none, none, none, none, some false] ?_
   simp only [push_cast, seval, ↓reduceIte, Za, c20, c21, c22, hN0, hN]
   repeat (with_reducible refine And.intro (by first | (intro h0; simp only [h0, and_self]; done) | (intro h0; simp only [h0, Bool.not_false, Bool.not_true, Bool.true_and, Bool.and_true, true_and, and_true, and_self, imp_self, implies_true, bne_iff_ne, ne_eq, beq_iff_eq]; done) | (intros; simp_all; done) | exact True.intro) ?_)
   have hz15 := Option.some.inj hz15; subst hz15
   refine And.intro rfl (Fit2.of (Xc hU rfl rfl ?_) (by omega))
   simp only [push_cast, seval, ↓reduceIte, Za, c20, c21, c22, hN0, hN]
  replace hz15 := Z4 c21 hz15
  try rw [c21] at c20
  refine Zb Ze [none, none, none, none, none, none, none, some false] ?_
  simp only [push_cast, seval, ↓reduceIte, Za, c20, c21, hN0, hN]
  repeat (with_reducible refine And.intro (by first | (intro h0; simp only [h0, and_self]; done) | (intro h0; simp only [h0, Bool.not_false, Bool.not_true, Bool.true_and, Bool.and_true, true_and, and_true, and_self, imp_self, implies_true, bne_iff_ne, ne_eq, beq_iff_eq]; done) | (intros; simp_all; done) | exact True.intro) ?_)
  have hz15 := Option.some.inj hz15; subst hz15
  refine And.intro rfl (Fit2.of (Xc hU rfl rfl ?_) (by omega))
  simp only [push_cast, seval, ↓reduceIte, Za, c20, c21, hN0, hN]
 refine Zx ?_
 try simp only [Zm, Zj]
 have h := Option.some.inj h; subst h
 refine Zn (.inr rfl) hU [.val (.bool z15)] (by omega) ?_
 simp only [push_cast, seval, ↓reduceIte, Za, Try.results8, hN0, hN]
end Go.Proofs.Ytmlhokaflhlhbaa
