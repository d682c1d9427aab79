/- Part VM3 of this seat's mirrors: functions of the seat's program, and the plain functions that they are; each theorem bears its own conditions. -/
import Derived.Test.YtmlhokaflhlhbaaVE
import Derived.Test.YtmlhokaflhlhbaaVM2
namespace Go.Proofs.Ytmlhokaflhlhbaa
open Go.RowKit
set_option linter.unusedVariables false
set_option linter.unusedSimpArgs false
set_option maxRecDepth 100000
set_option maxHeartbeats 4000000
attribute [local push_cast] Z6 K4 Qb Yt Zi Zfv Zfu Zgj Zgi Zm Zj Zc2 Gc Gb onW Yd Kx J9 Zf0 Ze2 Zbv Zb0 Zbu Zbz Zdw Zdt Zby Zdv Zdu Zbw Zdr Gy evS wok Ys Op.operands Call.operands gop onK onP atK List.all_cons List.all_nil Bool.and_true Bool.true_and Bool.and_self Value.oneCell' List.take_zero List.take_succ_cons List.take_nil List.drop_zero List.drop_succ_cons List.drop_nil List.append_nil Nat.add_zero Nat.zero_add Ql Zq ev Yw Zk2 Zfm Zfl Zfr Zfp Zfq Zfn Zfo Zfk Zh6 Zio Zk3 Zay Kc Zaq Kt Zbc Uk Vs Vx U7 U4 Vv U6 U5 Vu U2 Vt Vw K5 U3 Zc4 Gd Jd Zar Je Zb5 Zax Zje bLo bHi bMx Ke Zb4 Zl3 Zaw Zch Vq Qr Zij Zl7 Zao Zmb Kb Zm7 Zc7 Zdb Zc6 Zda Zf7 Zf4 Zf2 Zbg Zc8 Zf6 Zf5 Zc9 Zf3 Zb6 Zfw Zdk Gt Gs pop TK.isAgg Zgc Zgg Zgb Zgf Zde Zjt Zjq Zge Zjs Zjr Zgd Zjp G.under G.unders List.getD_cons_zero List.getD_cons_succ List.set_cons_zero List.set_cons_succ List.map_cons List.map_nil List.toList_toArray Array.toList_append Option.toArray_none Option.toArray_some Array.toList_map Option.map_some Option.map_none Option.bind_some Option.bind_none List.getElem?_cons_zero List.getElem?_cons_succ List.getElem?_nil List.nil_append List.cons_append List.replicate_succ List.replicate_zero List.length_cons List.length_nil and_true true_and and_false false_and Bool.true_eq_false Bool.false_eq_true forall_const false_implies implies_true IntKind.bits if_true if_false ite_true ite_false eq_self true_implies false_or or_false or_true true_or not_true_eq_false not_false_eq_true decide_true decide_false decide_eq_true_eq decide_eq_false_iff_not beq_iff_eq bne_iff_ne ne_eq Bool.not_eq_true Bool.not_eq_false beq_eq_false_iff_ne bne_eq_false_iff_eq beq_self_eq_true bne_self_eq_false Option.some.injEq exists_eq_left' exists_eq_left ge_iff_le gt_iff_lt decide_not Bool.not_true Bool.not_false imp_self Zjg cond_true cond_false Zq0 Zqz Bool.not_not Bool.and_false Bool.false_and Bool.or_true Bool.true_or Bool.or_false Bool.false_or K2 Zfb Zeh Zcy Za7 Us Option.join_some Nat.add_assoc Int.toNat_natCast eI eB eS eL U8 Uv V3 Zfz Zfx Zfy Znm Zpe Ux V9 Zgq Zgo Zgp Zla Zc1 Zi8 Zdp Zi7 Ut Zi9 List.length_append G.agg.injEq G.row.injEq G.ref.injEq G.val.injEq G.sl.injEq G.tup.injEq Value.int.injEq Value.bool.injEq Value.string.injEq List.cons.injEq exists_and_left exists_const List.flatten_cons List.flatten_nil Int.le_refl Nat.le_refl Zee Qq Zcz Bool.not_eq_true' Bool.not_eq_false' Zh1 Zad Zku Zky Zkt Zkx Zox Zot List.size_toArray Zgs Zgt G.ren G.rens Zip Un Zgv Zfh Zfi Zds Zkz Gm G.fn.injEq Zb1 Zeg Zhz Zou Zef Zkw Zow Zov Zkv Zjk Zng Option.join_none Xh Jc undef Zci Arr.len Arr.put_eq Uw Zbj Gn V8 Zgn Zgl Zgm onB Znl Zih Zdq Zco Zcp Zcq Zcr Zcs Zct Zbh Zbn Zbl Gr Ua Zbm Zdj Zdi Zdh Zdg Zpd Zqn Zk9 Zjv Xp Zk5 Zf8 Zbp Gq Zmh Zgy Zav Zcg Ve Zbq Zcu Zcv Zcw Zcx Za0 Za1 Za2 Za3 Za4 Za5 Za6 Vy prT K9 Zrx Zki Zqr Zkj Zry Zkk Zrz Zkl Zr0 Zkm Zr1 Zkn Zr2 Zko Zr3 Zkp Zns Zg0 Znt Zg1 Znu Zg2 Znv Zg3 Znw Zg4 Znx Zg5 Zny Zg6 Znz Zg7 Zn0 Zg8 Zn1 Zg9 Zn2 Zha Zn3 Zhb Zn4 Zhc Zn5 Zep Zn6 Zhd Zn7 Zhe Zn8 Zhf Zgz Zhg Zn9 Zhh Zoa Zhi Zez Zeq Zob Zhj Zoc Zhk Zod Zhl Zoe Zhm Zof Zhn Zog Zho Zoh Zhp Zoi Zhq Zoj Zhr Zok Zhs Zol Zht Zom Zhu Zon Zhv Zoo Zhw Zop Zhx Zoq Zhy Zj1 Zdx Zj2 Zdy Zj3 Zdz Zj4 Zd0 Zj5 Zd1 Zj6 Zd2 Zj7 Zd3 Zj8 Zd4 Zj9 Zd5 Zka Zd6 Zkb Zd7 Zkc Zd8 Zkd Zd9 Zke Zea Zkf Zeb Zkg Zec Zkh Zed Zaf Zac Gh Gl Zai Uj Ug Ue G0 Kp Ko Kf Kk Kq Jz Jy Jx Km Zf X3 X2 Xy X0 X4 Xv Xt Xs X1 V0 Zae Zab Gg Gk Zah Ui Uf Ud Gz Vz Jt Qc Qd Y4 Zo Xj Xi Xe Xf Xk Xb Xa Y9 Xg Zy X6 Q8 Q7 Q1 Q3 Q9 Qw Qv Qu Q6
theorem Zeu {a0 : Zd} {r : (Int × Int)} {O : Objs} {n : Nat} (h : Jg a0 = some r) : GTo Try.prog 54 [.agg (Zi a0)] O n (.tup [.val (.int .i64 r.1), .val (.int .i64 r.2)]) O n := by
 unfold Jg at h
 refine Xd Ze Try.call54 Try.func54 rfl (Nat.le_of_ble_eq_true rfl) (Nat.le_refl _) fun hU => ?_
 have hN0 : O n = none := hU.fresh _ (Nat.le_refl _)
 have hN : ∀ k, O (n + k) = none := fun k => hU.fresh _ (Nat.le_add_right _ _)
 show W _ _ _ _ ⟨11, [], [(0, .agg (Zi a0))]⟩ (Zx O n []) _
 refine Zv [1] (Zb Ze [] ?_)
 simp only [push_cast, seval, ↓reduceIte, Za, hN0, hN]
 refine Zl ?_
 refine Zv [1, 6] (Zb Ze [] ?_)
 simp only [push_cast, seval, ↓reduceIte, Za, hN0, hN]
 refine Zz (t := (a0.kind != 9)) rfl (fun c1 => ?_) (fun c1 => ?_)
 ·replace h := Z5 c1 h
  refine Zv [2, 3] (Zb Ze [] ?_)
  simp only [push_cast, seval, ↓reduceIte, Za, hN0, hN]
  refine Zw ?_
  try simp only [Zm, Zj]
  have h := Option.some.inj h; subst h
  refine Zn (.inr rfl) hU [.val (.int .i64 0), .val (.int .i64 0)] (by omega) ?_
  simp only [push_cast, seval, ↓reduceIte, Za, Try.results54, hN0, hN]
 replace h := Z4 c1 h
 refine Yb ?_
 try simp only [Zm, Zj]
 refine Zk [1] [true] ?_
 simp only [push_cast, seval, ↓reduceIte]
 refine Zv [2, 3] (Up Ze (by kernel_rfl) [] (by kernel_rfl) ?_)
 simp only [push_cast, seval, ↓reduceIte, Za, hN0, hN]
 refine Zw ?_
 try simp only [Zm, Zj]
 have h := Option.some.inj h; subst h
 refine Zn (.inr rfl) hU [.val (.int .i64 a0.words), .val (.int .i64 a0.ptrs)] (by omega) ?_
 simp only [push_cast, seval, ↓reduceIte, Za, Try.results54, hN0, hN]
theorem J5 {a0 : Int} {a1 : Int} {r : Int} {O : Objs} {n : Nat} (h : Qm a0 a1 = some r) : GTo Try.prog 64 [.val (.int .i64 a0), .val (.int .i64 a1)] O n (.val (.int .i64 r)) O n := by
 unfold Qm at h
 refine Xd Ze Try.call64 Try.func64 rfl (Nat.le_of_ble_eq_true rfl) (Nat.le_refl _) fun hU => ?_
 have hN0 : O n = none := hU.fresh _ (Nat.le_refl _)
 have hN : ∀ k, O (n + k) = none := fun k => hU.fresh _ (Nat.le_add_right _ _)
 show W _ _ _ _ ⟨9, [], [(0, .val (.int .i64 a0)), (1, .val (.int .i64 a1))]⟩ (Zx O n []) _
 refine Zv [0, 1] (Zb Ze [] ?_)
 simp only [push_cast, seval, ↓reduceIte, Za, hN0, hN]
 refine Zv [4] (Zb Ze [] ?_)
 simp only [push_cast, seval, ↓reduceIte, Za, hN0, hN]
 refine Zw ?_
 try simp only [Zm, Zj]
 have h := Option.some.inj h; subst h
 refine Zn (.inr rfl) hU [.val (.int .i64 (if a1 < (if a0 < 0 then 0 else a0) then a1 else (if a0 < 0 then 0 else a0)))] (by omega) ?_
 simp only [push_cast, seval, ↓reduceIte, Za, Try.results64, hN0, hN]
theorem Yp {a0 : Zp} {r : Zp} {O : Objs} {n : Nat} (h : Xr a0 = some r) : GTo Try.prog 36 [.agg (Z6 a0)] O n (.agg (Z6 r)) O n := by
 unfold Xr at h
 refine Xd Ze Try.call36 Try.func36 rfl (Nat.le_of_ble_eq_true rfl) (Nat.le_refl _) fun hU => ?_
 have hN0 : O n = none := hU.fresh _ (Nat.le_refl _)
 have hN : ∀ k, O (n + k) = none := fun k => hU.fresh _ (Nat.le_add_right _ _)
 show W _ _ _ _ ⟨16, [], [(0, .agg (Z6 a0))]⟩ (Zx O n []) _
 refine Zv [1, 2] (Zb Ze [] ?_)
 simp only [push_cast, seval, ↓reduceIte, Za, hN0, hN]
 refine Zl ?_
 obtain ⟨y5, hy5, h⟩ := bC h
 obtain ⟨y6, hy6, h⟩ := bC h
 obtain ⟨y7, hy7, h⟩ := bC h
 obtain ⟨y8, hy8, h⟩ := bC h
 refine Zls Ze (by kernel_rfl) [false, false, false, false, false, false, false, false, false, false, false, false, false, true] [] (by kernel_rfl) ?_
 simp only [push_cast, seval, ↓reduceIte, Za, hN0, hN]
 refine PCall.of (J5 hy5) ?_
 simp only [push_cast, seval, ↓reduceIte, Za, hN0, hN]
 refine PCall.of (J5 hy6) ?_
 simp only [push_cast, seval, ↓reduceIte, Za, hN0, hN]
 refine PCall.of (J5 hy7) ?_
 simp only [push_cast, seval, ↓reduceIte, Za, hN0, hN]
 refine PCall.of (J5 hy8) ?_
 simp only [push_cast, seval, ↓reduceIte, Za, hN0, hN]
 refine Zk [2] [false, true] ?_
 simp only [push_cast, seval, ↓reduceIte]
 refine Zw ?_
 try simp only [Zm, Zj]
 have h := Option.some.inj h; subst h
 refine Zn (.inr rfl) hU [.agg [.val (.int .i64 y5), .val (.int .i64 y6), .val (.int .i64 y7), .val (.int .i64 y8)]] (by omega) ?_
 simp only [push_cast, seval, ↓reduceIte, Za, Try.results36, hN0, hN]
theorem Qs {a0 : Int} {a1 : Int} {r : Int} {O : Objs} {n : Nat} (h : Yi a0 a1 = some r) : GTo Try.prog 65 [.val (.int .i64 a0), .val (.int .i64 a1)] O n (.val (.int .i64 r)) O n := by
 unfold Yi at h
 refine Xd Ze Try.call65 Try.func65 rfl (Nat.le_of_ble_eq_true rfl) (Nat.le_refl _) fun hU => ?_
 have hN0 : O n = none := hU.fresh _ (Nat.le_refl _)
 have hN : ∀ k, O (n + k) = none := fun k => hU.fresh _ (Nat.le_add_right _ _)
 show W _ _ _ _ ⟨12, [], [(0, .val (.int .i64 a0)), (1, .val (.int .i64 a1))]⟩ (Zx O n []) _
 refine Zv [0, 1] (Zb Ze [] ?_)
 simp only [push_cast, seval, ↓reduceIte, Za, hN0, hN]
 refine Zl ?_
 refine Zv [0, 1, 6] (Zb Ze [] ?_)
 simp only [push_cast, seval, ↓reduceIte, Za, hN0, hN]
 refine Zz (t := (decide (a0 < 0))) rfl (fun c2 => ?_) (fun c2 => ?_)
 ·replace h := Z5 c2 h
  refine Zv [4] (Zb Ze [] ?_)
  simp only [push_cast, seval, ↓reduceIte, Za, hN0, hN]
  refine Zw ?_
  try simp only [Zm, Zj]
  have h := Option.some.inj h; subst h
  refine Zn (.inr rfl) hU [.val (.int .i64 0)] (by omega) ?_
  simp only [push_cast, seval, ↓reduceIte, Za, Try.results65, hN0, hN]
 replace h := Z4 c2 h
 refine Yb ?_
 try simp only [Zm, Zj]
 refine Zk [0, 1] [] ?_
 simp only [push_cast, seval, ↓reduceIte]
 refine Zl ?_
 refine Zv [0, 1, 9] (Zb Ze [] ?_)
 simp only [push_cast, seval, ↓reduceIte, Za, hN0, hN]
 refine Zz (t := (decide (a1 < a0))) rfl (fun c1 => ?_) (fun c1 => ?_)
 ·replace h := Z5 c1 h
  refine Zv [4] (Zb Ze [] ?_)
  simp only [push_cast, seval, ↓reduceIte, Za, hN0, hN]
  refine Zw ?_
  try simp only [Zm, Zj]
  have h := Option.some.inj h; subst h
  refine Zn (.inr rfl) hU [.val (.int .i64 a1)] (by omega) ?_
  simp only [push_cast, seval, ↓reduceIte, Za, Try.results65, hN0, hN]
 replace h := Z4 c1 h
 refine Yb ?_
 try simp only [Zm, Zj]
 refine Zk [0] [] ?_
 simp only [push_cast, seval, ↓reduceIte]
 refine Zv [4] (Zb Ze [] ?_)
 simp only [push_cast, seval, ↓reduceIte, Za, hN0, hN]
 refine Zw ?_
 try simp only [Zm, Zj]
 have h := Option.some.inj h; subst h
 refine Zn (.inr rfl) hU [.val (.int .i64 a0)] (by omega) ?_
 simp only [push_cast, seval, ↓reduceIte, Za, Try.results65, hN0, hN]
theorem Jw {a0 : Zp} {r : Zp} {O : Objs} {n : Nat} (h : Xz a0 = some r) : GTo Try.prog 38 [.agg (Z6 a0)] O n (.agg (Z6 r)) O n := by
 unfold Xz at h
 refine Xd Ze Try.call38 Try.func38 rfl (Nat.le_of_ble_eq_true rfl) (Nat.le_refl _) fun hU => ?_
 have hN0 : O n = none := hU.fresh _ (Nat.le_refl _)
 have hN : ∀ k, O (n + k) = none := fun k => hU.fresh _ (Nat.le_add_right _ _)
 show W _ _ _ _ ⟨16, [], [(0, .agg (Z6 a0))]⟩ (Zx O n []) _
 refine Zv [1, 2] (Zb Ze [] ?_)
 simp only [push_cast, seval, ↓reduceIte, Za, hN0, hN]
 refine Zl ?_
 obtain ⟨y5, hy5, h⟩ := bC h
 obtain ⟨y6, hy6, h⟩ := bC h
 obtain ⟨y7, hy7, h⟩ := bC h
 obtain ⟨y8, hy8, h⟩ := bC h
 refine Zls Ze (by kernel_rfl) [false, false, false, false, false, false, false, false, false, false, false, false, false, true] [] (by kernel_rfl) ?_
 simp only [push_cast, seval, ↓reduceIte, Za, hN0, hN]
 refine PCall.of (Qs hy5) ?_
 simp only [push_cast, seval, ↓reduceIte, Za, hN0, hN]
 refine PCall.of (Qs hy6) ?_
 simp only [push_cast, seval, ↓reduceIte, Za, hN0, hN]
 refine PCall.of (Qs hy7) ?_
 simp only [push_cast, seval, ↓reduceIte, Za, hN0, hN]
 refine PCall.of (Qs hy8) ?_
 simp only [push_cast, seval, ↓reduceIte, Za, hN0, hN]
 refine Zk [2] [false, true] ?_
 simp only [push_cast, seval, ↓reduceIte]
 refine Zw ?_
 try simp only [Zm, Zj]
 have h := Option.some.inj h; subst h
 refine Zn (.inr rfl) hU [.agg [.val (.int .i64 y5), .val (.int .i64 y6), .val (.int .i64 y7), .val (.int .i64 y8)]] (by omega) ?_
 simp only [push_cast, seval, ↓reduceIte, Za, Try.results38, hN0, hN]
theorem Zcj {a0 : Zd} {r : Int} {O : Objs} {n : Nat} (h : Jv a0 = some r) : GTo Try.prog 83 [.agg (Zi a0)] O n (.val (.int .i64 r)) O n := by
 unfold Jv at h
 refine Xd Ze Try.call83 Try.func83 rfl (Nat.le_of_ble_eq_true rfl) (Nat.le_refl _) fun hU => ?_
 have hN0 : O n = none := hU.fresh _ (Nat.le_refl _)
 have hN : ∀ k, O (n + k) = none := fun k => hU.fresh _ (Nat.le_add_right _ _)
 show W _ _ _ _ ⟨16, [], [(0, .agg (Zi a0))]⟩ (Zx O n []) _
 refine Zv [1] (Zb Ze [] ?_)
 simp only [push_cast, seval, ↓reduceIte, Za, hN0, hN]
 refine Zl ?_
 refine J3 ?_
 refine Zl ?_
 obtain ⟨y2, hy2, h⟩ := bC h
 refine Zb Ze [] ?_
 simp only [push_cast, seval, ↓reduceIte, Za, hN0, hN]
 refine (Qj hy2).then ?_
 simp only [push_cast, seval, ↓reduceIte, Za, hN0, hN]
 refine Zk [1, 3] [true] ?_
 simp only [push_cast, seval, ↓reduceIte]
 refine Zz (t := (y2 == 0)) rfl (fun c12 => ?_) (fun c12 => ?_)
 ·replace h := Z5 c12 h
  refine Zv [2] (Zb Ze [] ?_)
  simp only [push_cast, seval, ↓reduceIte, Za, hN0, hN]
  refine Zw ?_
  try simp only [Zm, Zj]
  have h := Option.some.inj h; subst h
  refine Zn (.inr rfl) hU [.val (.int .i64 0)] (by omega) ?_
  simp only [push_cast, seval, ↓reduceIte, Za, Try.results83, hN0, hN]
 replace h := Z4 c12 h
 obtain ⟨z5, hz5, h⟩ := bC h
 refine Zc0 (E' := ⟨16, [], [(7, .val (.bool z5))]⟩) (O' := (Zx O n [none])) (n0 := (n + 1)) ?_ ?_
 ·obtain ⟨y8, hy8, hz5⟩ := bC hz5
  rcases Bool.eq_false_or_eq_true (y8 == 9) with c10 | c10
  ·replace hz5 := Z5 c10 hz5
   obtain ⟨y9, hy9, hz5⟩ := bC hz5
   refine Zb Ze [some true, some true, some true] ?_
   simp only [push_cast, seval, ↓reduceIte, Za, c10, hN0, hN]
   refine (Qj hy8).then ?_
   simp only [push_cast, seval, ↓reduceIte, Za, c10, hN0, hN]
   refine (Yx hy9).then ?_
   simp only [push_cast, seval, ↓reduceIte, Za, c10, hN0, hN]
   have hz5 := Option.some.inj hz5; subst hz5
   refine And.intro rfl (Fit2.of (X5 hU rfl rfl ?_) (by omega))
   simp only [push_cast, seval, ↓reduceIte, Za, c10, hN0, hN]
  replace hz5 := Z4 c10 hz5
  refine Zb Ze [some false, some false, some false] ?_
  simp only [push_cast, seval, ↓reduceIte, Za, c10, hN0, hN]
  refine (Qj hy8).then ?_
  simp only [push_cast, seval, ↓reduceIte, Za, c10, hN0, hN]
  have hz5 := Option.some.inj hz5; subst hz5
  refine And.intro rfl (Fit2.of (X5 hU rfl rfl ?_) (by omega))
  simp only [push_cast, seval, ↓reduceIte, Za, c10, hN0, hN]
 refine Zz (t := z5) rfl (fun c11 => ?_) (fun c11 => ?_)
 ·replace h := Z5 c11 h
  refine Zv [2] (Zb Ze [] ?_)
  simp only [push_cast, seval, ↓reduceIte, Za, hN0, hN]
  refine Zw ?_
  try simp only [Zm, Zj]
  have h := Option.some.inj h; subst h
  refine Zn (.inr rfl) hU [.val (.int .i64 2)] (by omega) ?_
  simp only [push_cast, seval, ↓reduceIte, Za, Try.results83, hN0, hN]
 replace h := Z4 c11 h
 refine Yb ?_
 try simp only [Zm, Zj]
 refine Zk [] [false] ?_
 simp only [push_cast, seval, ↓reduceIte]
 refine Zv [2] (Zb Ze [] ?_)
 simp only [push_cast, seval, ↓reduceIte, Za, hN0, hN]
 refine Zw ?_
 try simp only [Zm, Zj]
 have h := Option.some.inj h; subst h
 refine Zn (.inr rfl) hU [.val (.int .i64 1)] (by omega) ?_
 simp only [push_cast, seval, ↓reduceIte, Za, Try.results83, hN0, hN]
theorem Zck {a0 : Zd} {r : Int} {O : Objs} {n : Nat} (h : Q2 a0 = some r) : GTo Try.prog 84 [.agg (Zi a0)] O n (.val (.int .i64 r)) O n := by
 unfold Q2 at h
 refine Xd Ze Try.call84 Try.func84 rfl (Nat.le_of_ble_eq_true rfl) (Nat.le_refl _) fun hU => ?_
 have hN0 : O n = none := hU.fresh _ (Nat.le_refl _)
 have hN : ∀ k, O (n + k) = none := fun k => hU.fresh _ (Nat.le_add_right _ _)
 show W _ _ _ _ ⟨35, [], [(0, .agg (Zi a0))]⟩ (Zx O n []) _
 refine Zv [1] (Zb Ze [] ?_)
 simp only [push_cast, seval, ↓reduceIte, Za, hN0, hN]
 refine Zl ?_
 refine Zl ?_
 obtain ⟨y2, hy2, h⟩ := bC h
 refine Zb Ze [] ?_
 simp only [push_cast, seval, ↓reduceIte, Za, hN0, hN]
 refine (Qj hy2).then ?_
 simp only [push_cast, seval, ↓reduceIte, Za, hN0, hN]
 refine Zk [1, 6] [true] ?_
 simp only [push_cast, seval, ↓reduceIte]
 refine J3 ?_
 refine Zv [1, 6, 7] (Zb Ze [] ?_)
 simp only [push_cast, seval, ↓reduceIte, Za, hN0, hN]
 refine Zz (t := (y2 == 0)) rfl (fun c15 => ?_) (fun c15 => ?_)
 ·replace h := Z5 c15 h
  refine Zv [2] (Zb Ze [] ?_)
  simp only [push_cast, seval, ↓reduceIte, Za, hN0, hN]
  refine Zw ?_
  try simp only [Zm, Zj]
  have h := Option.some.inj h; subst h
  refine Zn (.inr rfl) hU [.val (.int .i64 0)] (by omega) ?_
  simp only [push_cast, seval, ↓reduceIte, Za, Try.results84, hN0, hN]
 replace h := Z4 c15 h
 refine Zv [1, 6, 9] (Zb Ze [] ?_)
 simp only [push_cast, seval, ↓reduceIte, Za, hN0, hN]
 refine Zz (t := (y2 == 1)) rfl (fun c14 => ?_) (fun c14 => ?_)
 ·replace h := Z5 c14 h
  refine Zl ?_
  obtain ⟨y5, hy5, h⟩ := bC h
  obtain ⟨y6, hy6, h⟩ := bC h
  refine Up Ze (by kernel_rfl) [] (by kernel_rfl) ?_
  simp only [push_cast, seval, ↓reduceIte, Za, hN0, hN]
  refine PCall.of (Zev hy5) ?_
  simp only [push_cast, seval, ↓reduceIte, Za, hN0, hN]
  refine PCall.of (Yx hy6) ?_
  simp only [push_cast, seval, ↓reduceIte, Za, hN0, hN]
  refine Zk [2] [false] ?_
  simp only [push_cast, seval, ↓reduceIte]
  refine Zw ?_
  try simp only [Zm, Zj]
  have h := Option.some.inj h; subst h
  refine Zn (.inr rfl) hU [.val (.int .i64 (IntKind.i64.wrap ((IntKind.i64.wrap (1 + y5)) + y6)))] (by omega) ?_
  simp only [push_cast, seval, ↓reduceIte, Za, Try.results84, hN0, hN]
 replace h := Z4 c14 h
 refine Zv [1, 17] (Zb Ze [] ?_)
 simp only [push_cast, seval, ↓reduceIte, Za, hN0, hN]
 refine Zz (t := (y2 == 9)) rfl (fun c13 => ?_) (fun c13 => ?_)
 ·replace h := Z5 c13 h
  refine Zl ?_
  obtain ⟨y8, hy8, h⟩ := bC h
  refine Zb Ze [] ?_
  simp only [push_cast, seval, ↓reduceIte, Za, hN0, hN]
  refine (Zeu hy8).then ?_
  simp only [push_cast, seval, ↓reduceIte, Za, hN0, hN]
  refine Zk [1, 3, 4] [true] ?_
  simp only [push_cast, seval, ↓reduceIte]
  refine Zl ?_
  obtain ⟨y10, hy10, h⟩ := bC h
  refine Zb Ze [] ?_
  simp only [push_cast, seval, ↓reduceIte, Za, hN0, hN]
  refine (Yx hy10).then ?_
  simp only [push_cast, seval, ↓reduceIte, Za, hN0, hN]
  refine Zk [2] [false] ?_
  simp only [push_cast, seval, ↓reduceIte]
  refine Zw ?_
  try simp only [Zm, Zj]
  have h := Option.some.inj h; subst h
  refine Zn (.inr rfl) hU [.val (.int .i64 (IntKind.i64.wrap (1 + (IntKind.i64.wrap (y10 * (IntKind.i64.wrap ((IntKind.i64.wrap (1 + y8.1)) + y8.2)))))))] (by omega) ?_
  simp only [push_cast, seval, ↓reduceIte, Za, Try.results84, hN0, hN]
 replace h := Z4 c13 h
 refine Yb ?_
 try simp only [Zm, Zj]
 refine Zk [1] [true] ?_
 simp only [push_cast, seval, ↓reduceIte]
 refine Zl ?_
 obtain ⟨y12, hy12, h⟩ := bC h
 refine Zb Ze [] ?_
 simp only [push_cast, seval, ↓reduceIte, Za, hN0, hN]
 refine (Yx hy12).then ?_
 simp only [push_cast, seval, ↓reduceIte, Za, hN0, hN]
 refine Zk [2] [false] ?_
 simp only [push_cast, seval, ↓reduceIte]
 refine Zw ?_
 try simp only [Zm, Zj]
 have h := Option.some.inj h; subst h
 refine Zn (.inr rfl) hU [.val (.int .i64 (IntKind.i64.wrap (1 + y12)))] (by omega) ?_
 simp only [push_cast, seval, ↓reduceIte, Za, Try.results84, hN0, hN]
end Go.Proofs.Ytmlhokaflhlhbaa
