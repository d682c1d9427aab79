/- Part VM3 of this seat's mirrors: functions of the seat's program, and the plain functions that they are; each theorem bears its own conditions. -/
import Derived.Test.YtmlhokaflhlhbaaVE
import Derived.Test.YtmlhokaflhlhbaaVM2
namespace Go.Proofs.Ytmlhokaflhlhbaa
open Go.RowKit
set_option linter.unusedVariables false
set_option linter.unusedSimpArgs false
set_option maxRecDepth 100000
set_option maxHeartbeats 4000000
attribute [local push_cast] Z6 K8 Qd Yr Zi Zfu Zft Zgh Zgg Zm Zj Zc3 Gd Gc onW Yd K1 Kc Zfz Ze2 Zbu Zbz Zbt Zby Zdw Zdt Zbx Zdv Zdu Zbv Zdr Gx evS wok Yq Op.operands Call.operands gop onK onP atK List.all_cons List.all_nil Bool.and_true Bool.true_and Bool.and_self Value.oneCell' List.take_zero List.take_succ_cons List.take_nil List.drop_zero List.drop_succ_cons List.drop_nil List.append_nil Nat.add_zero Nat.zero_add Qn Zp ev Yu Zk5 Zfl Zfk Zfq Zfo Zfp Zfm Zfn Zfj Zh3 Zin Zk6 Zaw Kg Zan Kx Zba Up Vx V2 U8 U5 V0 U7 U6 Vz U3 Vy V1 K9 U4 Zc5 Ge Jj Zao Jk Zb5 Zav Zjh bLo bHi bMx Kh Zb4 Zl5 Zau Zch Vv Qu Zih Zl9 Zal Zmd Kf Zna Zc8 Zdc Zc7 Zdb Zf6 Zf3 Zf1 Zbe Zc9 Zf5 Zf4 Zda Zf2 Zb6 Zfv Zdk Gs Gr pop TK.isAgg Zga Zge Zf9 Zgd Zde Zjw Zjt Zgc Zjv Zju Zgb Zjs G.under G.unders List.getD_cons_zero List.getD_cons_succ List.set_cons_zero List.set_cons_succ List.map_cons List.map_nil List.toList_toArray Array.toList_append Option.toArray_none Option.toArray_some Array.toList_map Option.map_some Option.map_none Option.bind_some Option.bind_none List.getElem?_cons_zero List.getElem?_cons_succ List.getElem?_nil List.nil_append List.cons_append List.replicate_succ List.replicate_zero List.length_cons List.length_nil and_true true_and and_false false_and Bool.true_eq_false Bool.false_eq_true forall_const false_implies implies_true IntKind.bits if_true if_false ite_true ite_false eq_self true_implies false_or or_false or_true true_or not_true_eq_false not_false_eq_true decide_true decide_false decide_eq_true_eq decide_eq_false_iff_not beq_iff_eq bne_iff_ne ne_eq Bool.not_eq_true Bool.not_eq_false beq_eq_false_iff_ne bne_eq_false_iff_eq beq_self_eq_true bne_self_eq_false Option.some.injEq exists_eq_left' exists_eq_left ge_iff_le gt_iff_lt decide_not Bool.not_true Bool.not_false imp_self Zjj cond_true cond_false Zqz Zqy Bool.not_not Bool.and_false Bool.false_and Bool.or_true Bool.true_or Bool.or_false Bool.false_or K6 Zfb Zeh Zcy Za6 Uu Option.join_some Nat.add_assoc Int.toNat_natCast eI eB eS eL U9 Ux V8 Zfy Zfw Zfx Znn Zph Uz Ue Zgo Zgm Zgn Zld Zc2 Zja Zdp Zi9 Uv Zjb List.length_append G.agg.injEq G.row.injEq G.ref.injEq G.val.injEq G.sl.injEq G.tup.injEq Value.int.injEq Value.bool.injEq Value.string.injEq List.cons.injEq exists_and_left exists_const List.flatten_cons List.flatten_nil Int.le_refl Nat.le_refl Zee Qt Zcz Bool.not_eq_true' Bool.not_eq_false' Zhz Zac Zkx Zk1 Zkw Zk0 Zoz Zov List.size_toArray Zgq Zgr G.ren G.rens Zio Ur Zgt Zfg Zfh Zds Zk2 Gl G.fn.injEq Zb0 Zeg Zhx Zow Zef Zkz Zoy Zox Zky Zjn Znj Option.join_none Xg Ji undef Zci Arr.len Arr.put_eq Uy Zbi Gm Ud Zgl Zgj Zgk onB Znm Zif Zdq Zco Zcp Zcq Zcr Zcs Zct Zbg Zbm Zbk Gq Uf Zbl Zdj Zdi Zdh Zdg Zpg Zqm Zlc Zjy Xq Zk8 Zf7 Zbo Gp Zmj Zgw Zat Zcg Vj Zbp Zcu Zcv Zcw Zcx Zaz Za0 Za1 Za2 Za3 Za4 Za5 V3 prT Vd Zrv Zkl Zqq Zkm Zrw Zkn Zrx Zko Zry Zkp Zrz Zkq Zr0 Zkr Zr1 Zks Znu Zgy Znv Zgz Znw Zg0 Znx Zg1 Zny Zg2 Znz Zg3 Zn0 Zg4 Zn1 Zg5 Zn2 Zg6 Zn3 Zg7 Zn4 Zg8 Zn5 Zg9 Zn6 Zha Zn7 Zer Zn8 Zhb Zn9 Zhc Zoa Zhd Zgx Zhe Zob Zhf Zoc Zhg Zez Zes Zod Zhh Zoe Zhi Zof Zhj Zog Zhk Zoh Zhl Zoi Zhm Zoj Zhn Zok Zho Zol Zhp Zom Zhq Zon Zhr Zoo Zhs Zop Zht Zoq Zhu Zor Zhv Zos Zhw Zj4 Zdx Zj5 Zdy Zj6 Zdz Zj7 Zd0 Zj8 Zd1 Zj9 Zd2 Zka Zd3 Zkb Zd4 Zkc Zd5 Zkd Zd6 Zke Zd7 Zkf Zd8 Zkg Zd9 Zkh Zea Zki Zeb Zkj Zec Zkk Zed Zae Zab Gi Gk Zah Uo Ul Uj Gz Ks Kr Ki Ko Kt J5 J4 J3 Kq Zf X7 X6 X3 X4 X8 Xw Xu Xt X5 V5 Zad Zaa Gh Gj Zag Un Uk Ui Gy V4 Jy Qe Qf Y5 Zo Xi Xh Xd Xe Xj Xb Xa Y9 Xf Zx X9 Je Jd Q5 Q8 Jf Qy Qx Qw Jc
theorem Zeu {a0 : Zd} {r : (Int × Int)} {O : Objs} {n : Nat} (h : Jm a0 = some r) : GTo Try.prog 54 [.agg (Zi a0)] O n (.tup [.val (.int .i64 r.1), .val (.int .i64 r.2)]) O n := by
 unfold Jm at h
 refine Xn Ze Try.call54 Try.func54 rfl (Nat.le_of_ble_eq_true rfl) (Nat.le_refl _) fun hU => ?_
 have hN0 : O n = none := hU.fresh _ (Nat.le_refl _)
 have hN : ∀ k, O (n + k) = none := fun k => hU.fresh _ (Nat.le_add_right _ _)
 show W _ _ _ _ ⟨11, [], [(0, .agg (Zi a0))]⟩ (Zu O n []) _
 refine Zw [1] (Zb Ze [] ?_)
 simp only [push_cast, seval, ↓reduceIte, Za, hN0, hN]
 refine Zl ?_
 refine Zw [1, 6] (Zb Ze [] ?_)
 simp only [push_cast, seval, ↓reduceIte, Za, hN0, hN]
 refine Z0 (t := (a0.kind != 9)) rfl (fun c1 => ?_) (fun c1 => ?_)
 ·replace h := Z4 c1 h
  refine Zw [2, 3] (Zb Ze [] ?_)
  simp only [push_cast, seval, ↓reduceIte, Za, hN0, hN]
  refine Zy ?_
  try simp only [Zm, Zj]
  have h := Option.some.inj h; subst h
  refine Zn (.inr rfl) hU [.val (.int .i64 0), .val (.int .i64 0)] (by omega) ?_
  simp only [push_cast, seval, ↓reduceIte, Za, Try.results54, hN0, hN]
 replace h := Z3 c1 h
 refine Yc ?_
 try simp only [Zm, Zj]
 refine Zk [1] [true] ?_
 simp only [push_cast, seval, ↓reduceIte]
 refine Zw [2, 3] (Zei Ze (by kernel_rfl) [] (by kernel_rfl) ?_)
 simp only [push_cast, seval, ↓reduceIte, Za, hN0, hN]
 refine Zy ?_
 try simp only [Zm, Zj]
 have h := Option.some.inj h; subst h
 refine Zn (.inr rfl) hU [.val (.int .i64 a0.words), .val (.int .i64 a0.ptrs)] (by omega) ?_
 simp only [push_cast, seval, ↓reduceIte, Za, Try.results54, hN0, hN]
theorem J9 {a0 : Int} {a1 : Int} {r : Int} {O : Objs} {n : Nat} (h : Qp a0 a1 = some r) : GTo Try.prog 64 [.val (.int .i64 a0), .val (.int .i64 a1)] O n (.val (.int .i64 r)) O n := by
 unfold Qp at h
 refine Xn Ze Try.call64 Try.func64 rfl (Nat.le_of_ble_eq_true rfl) (Nat.le_refl _) fun hU => ?_
 have hN0 : O n = none := hU.fresh _ (Nat.le_refl _)
 have hN : ∀ k, O (n + k) = none := fun k => hU.fresh _ (Nat.le_add_right _ _)
 show W _ _ _ _ ⟨9, [], [(0, .val (.int .i64 a0)), (1, .val (.int .i64 a1))]⟩ (Zu O n []) _
 refine Zw [0, 1] (Zb Ze [] ?_)
 simp only [push_cast, seval, ↓reduceIte, Za, hN0, hN]
 refine Zw [4] (Zb Ze [] ?_)
 simp only [push_cast, seval, ↓reduceIte, Za, hN0, hN]
 refine Zy ?_
 try simp only [Zm, Zj]
 have h := Option.some.inj h; subst h
 refine Zn (.inr rfl) hU [.val (.int .i64 (if a1 < (if a0 < 0 then 0 else a0) then a1 else (if a0 < 0 then 0 else a0)))] (by omega) ?_
 simp only [push_cast, seval, ↓reduceIte, Za, Try.results64, hN0, hN]
theorem Ku {a0 : Zv} {r : Zv} {O : Objs} {n : Nat} (h : Q6 a0 = some r) : GTo Try.prog 36 [.agg (Z6 a0)] O n (.agg (Z6 r)) O n := by
 unfold Q6 at h
 refine Xn Ze Try.call36 Try.func36 rfl (Nat.le_of_ble_eq_true rfl) (Nat.le_refl _) fun hU => ?_
 have hN0 : O n = none := hU.fresh _ (Nat.le_refl _)
 have hN : ∀ k, O (n + k) = none := fun k => hU.fresh _ (Nat.le_add_right _ _)
 show W _ _ _ _ ⟨16, [], [(0, .agg (Z6 a0))]⟩ (Zu O n []) _
 refine Zw [1, 2] (Zb Ze [] ?_)
 simp only [push_cast, seval, ↓reduceIte, Za, hN0, hN]
 refine Zl ?_
 obtain ⟨y5, hy5, h⟩ := bC h
 obtain ⟨y6, hy6, h⟩ := bC h
 obtain ⟨y7, hy7, h⟩ := bC h
 obtain ⟨y8, hy8, h⟩ := bC h
 refine Zpm Ze (by kernel_rfl) [false, false, false, false, false, false, false, false, false, false, false, false, false, true] [] (by kernel_rfl) ?_
 simp only [push_cast, seval, ↓reduceIte, Za, hN0, hN]
 refine PCall.of (J9 hy5) ?_
 simp only [push_cast, seval, ↓reduceIte, Za, hN0, hN]
 refine PCall.of (J9 hy6) ?_
 simp only [push_cast, seval, ↓reduceIte, Za, hN0, hN]
 refine PCall.of (J9 hy7) ?_
 simp only [push_cast, seval, ↓reduceIte, Za, hN0, hN]
 refine PCall.of (J9 hy8) ?_
 simp only [push_cast, seval, ↓reduceIte, Za, hN0, hN]
 refine Zk [2] [false, true] ?_
 simp only [push_cast, seval, ↓reduceIte]
 refine Zy ?_
 try simp only [Zm, Zj]
 have h := Option.some.inj h; subst h
 refine Zn (.inr rfl) hU [.agg [.val (.int .i64 y5), .val (.int .i64 y6), .val (.int .i64 y7), .val (.int .i64 y8)]] (by omega) ?_
 simp only [push_cast, seval, ↓reduceIte, Za, Try.results36, hN0, hN]
theorem Zcj {a0 : Zd} {r : Int} {O : Objs} {n : Nat} (h : J0 a0 = some r) : GTo Try.prog 83 [.agg (Zi a0)] O n (.val (.int .i64 r)) O n := by
 unfold J0 at h
 refine Xn Ze Try.call83 Try.func83 rfl (Nat.le_of_ble_eq_true rfl) (Nat.le_refl _) fun hU => ?_
 have hN0 : O n = none := hU.fresh _ (Nat.le_refl _)
 have hN : ∀ k, O (n + k) = none := fun k => hU.fresh _ (Nat.le_add_right _ _)
 show W _ _ _ _ ⟨16, [], [(0, .agg (Zi a0))]⟩ (Zu O n []) _
 refine Zw [1] (Zb Ze [] ?_)
 simp only [push_cast, seval, ↓reduceIte, Za, hN0, hN]
 refine Zl ?_
 refine J7 ?_
 refine Zl ?_
 obtain ⟨y2, hy2, h⟩ := bC h
 refine Zb Ze [] ?_
 simp only [push_cast, seval, ↓reduceIte, Za, hN0, hN]
 refine (Ql hy2).then ?_
 simp only [push_cast, seval, ↓reduceIte, Za, hN0, hN]
 refine Zk [1, 3] [true] ?_
 simp only [push_cast, seval, ↓reduceIte]
 refine Z0 (t := (y2 == 0)) rfl (fun c12 => ?_) (fun c12 => ?_)
 ·replace h := Z4 c12 h
  refine Zw [2] (Zb Ze [] ?_)
  simp only [push_cast, seval, ↓reduceIte, Za, hN0, hN]
  refine Zy ?_
  try simp only [Zm, Zj]
  have h := Option.some.inj h; subst h
  refine Zn (.inr rfl) hU [.val (.int .i64 0)] (by omega) ?_
  simp only [push_cast, seval, ↓reduceIte, Za, Try.results83, hN0, hN]
 replace h := Z3 c12 h
 obtain ⟨z5, hz5, h⟩ := bC h
 refine Zb2 (E' := ⟨16, [], [(7, .val (.bool z5))]⟩) (O' := (Zu O n [none])) (n0 := (n + 1)) ?_ ?_
 ·obtain ⟨y8, hy8, hz5⟩ := bC hz5
  rcases Bool.eq_false_or_eq_true (y8 == 9) with c10 | c10
  ·replace hz5 := Z4 c10 hz5
   obtain ⟨y9, hy9, hz5⟩ := bC hz5
   refine Zb Ze [some true, some true, some true] ?_
   simp only [push_cast, seval, ↓reduceIte, Za, c10, hN0, hN]
   refine (Ql hy8).then ?_
   simp only [push_cast, seval, ↓reduceIte, Za, c10, hN0, hN]
   refine (Yv hy9).then ?_
   simp only [push_cast, seval, ↓reduceIte, Za, c10, hN0, hN]
   have hz5 := Option.some.inj hz5; subst hz5
   refine And.intro rfl (Fit2.of (Y1 hU rfl rfl ?_) (by omega))
   simp only [push_cast, seval, ↓reduceIte, Za, c10, hN0, hN]
  replace hz5 := Z3 c10 hz5
  refine Zb Ze [some false, some false, some false] ?_
  simp only [push_cast, seval, ↓reduceIte, Za, c10, hN0, hN]
  refine (Ql hy8).then ?_
  simp only [push_cast, seval, ↓reduceIte, Za, c10, hN0, hN]
  have hz5 := Option.some.inj hz5; subst hz5
  refine And.intro rfl (Fit2.of (Y1 hU rfl rfl ?_) (by omega))
  simp only [push_cast, seval, ↓reduceIte, Za, c10, hN0, hN]
 refine Z0 (t := z5) rfl (fun c11 => ?_) (fun c11 => ?_)
 ·replace h := Z4 c11 h
  refine Zw [2] (Zb Ze [] ?_)
  simp only [push_cast, seval, ↓reduceIte, Za, hN0, hN]
  refine Zy ?_
  try simp only [Zm, Zj]
  have h := Option.some.inj h; subst h
  refine Zn (.inr rfl) hU [.val (.int .i64 2)] (by omega) ?_
  simp only [push_cast, seval, ↓reduceIte, Za, Try.results83, hN0, hN]
 replace h := Z3 c11 h
 refine Yc ?_
 try simp only [Zm, Zj]
 refine Zk [] [false] ?_
 simp only [push_cast, seval, ↓reduceIte]
 refine Zw [2] (Zb Ze [] ?_)
 simp only [push_cast, seval, ↓reduceIte, Za, hN0, hN]
 refine Zy ?_
 try simp only [Zm, Zj]
 have h := Option.some.inj h; subst h
 refine Zn (.inr rfl) hU [.val (.int .i64 1)] (by omega) ?_
 simp only [push_cast, seval, ↓reduceIte, Za, Try.results83, hN0, hN]
theorem Zck {a0 : Zd} {r : Int} {O : Objs} {n : Nat} (h : Q7 a0 = some r) : GTo Try.prog 84 [.agg (Zi a0)] O n (.val (.int .i64 r)) O n := by
 unfold Q7 at h
 refine Xn Ze Try.call84 Try.func84 rfl (Nat.le_of_ble_eq_true rfl) (Nat.le_refl _) fun hU => ?_
 have hN0 : O n = none := hU.fresh _ (Nat.le_refl _)
 have hN : ∀ k, O (n + k) = none := fun k => hU.fresh _ (Nat.le_add_right _ _)
 show W _ _ _ _ ⟨35, [], [(0, .agg (Zi a0))]⟩ (Zu O n []) _
 refine Zw [1] (Zb Ze [] ?_)
 simp only [push_cast, seval, ↓reduceIte, Za, hN0, hN]
 refine Zl ?_
 refine Zl ?_
 obtain ⟨y2, hy2, h⟩ := bC h
 refine Zb Ze [] ?_
 simp only [push_cast, seval, ↓reduceIte, Za, hN0, hN]
 refine (Ql hy2).then ?_
 simp only [push_cast, seval, ↓reduceIte, Za, hN0, hN]
 refine Zk [1, 6] [true] ?_
 simp only [push_cast, seval, ↓reduceIte]
 refine J7 ?_
 refine Zw [1, 6, 7] (Zb Ze [] ?_)
 simp only [push_cast, seval, ↓reduceIte, Za, hN0, hN]
 refine Z0 (t := (y2 == 0)) rfl (fun c15 => ?_) (fun c15 => ?_)
 ·replace h := Z4 c15 h
  refine Zw [2] (Zb Ze [] ?_)
  simp only [push_cast, seval, ↓reduceIte, Za, hN0, hN]
  refine Zy ?_
  try simp only [Zm, Zj]
  have h := Option.some.inj h; subst h
  refine Zn (.inr rfl) hU [.val (.int .i64 0)] (by omega) ?_
  simp only [push_cast, seval, ↓reduceIte, Za, Try.results84, hN0, hN]
 replace h := Z3 c15 h
 refine Zw [1, 6, 9] (Zb Ze [] ?_)
 simp only [push_cast, seval, ↓reduceIte, Za, hN0, hN]
 refine Z0 (t := (y2 == 1)) rfl (fun c14 => ?_) (fun c14 => ?_)
 ·replace h := Z4 c14 h
  refine Zl ?_
  obtain ⟨y5, hy5, h⟩ := bC h
  obtain ⟨y6, hy6, h⟩ := bC h
  refine Zei Ze (by kernel_rfl) [] (by kernel_rfl) ?_
  simp only [push_cast, seval, ↓reduceIte, Za, hN0, hN]
  refine PCall.of (Zev hy5) ?_
  simp only [push_cast, seval, ↓reduceIte, Za, hN0, hN]
  refine PCall.of (Yv hy6) ?_
  simp only [push_cast, seval, ↓reduceIte, Za, hN0, hN]
  refine Zk [2] [false] ?_
  simp only [push_cast, seval, ↓reduceIte]
  refine Zy ?_
  try simp only [Zm, Zj]
  have h := Option.some.inj h; subst h
  refine Zn (.inr rfl) hU [.val (.int .i64 (IntKind.i64.wrap ((IntKind.i64.wrap (1 + y5)) + y6)))] (by omega) ?_
  simp only [push_cast, seval, ↓reduceIte, Za, Try.results84, hN0, hN]
 replace h := Z3 c14 h
 refine Zw [1, 17] (Zb Ze [] ?_)
 simp only [push_cast, seval, ↓reduceIte, Za, hN0, hN]
 refine Z0 (t := (y2 == 9)) rfl (fun c13 => ?_) (fun c13 => ?_)
 ·replace h := Z4 c13 h
  refine Zl ?_
  obtain ⟨y8, hy8, h⟩ := bC h
  refine Zb Ze [] ?_
  simp only [push_cast, seval, ↓reduceIte, Za, hN0, hN]
  refine (Zeu hy8).then ?_
  simp only [push_cast, seval, ↓reduceIte, Za, hN0, hN]
  refine Zk [1, 3, 4] [true] ?_
  simp only [push_cast, seval, ↓reduceIte]
  refine Zl ?_
  obtain ⟨y10, hy10, h⟩ := bC h
  refine Zb Ze [] ?_
  simp only [push_cast, seval, ↓reduceIte, Za, hN0, hN]
  refine (Yv hy10).then ?_
  simp only [push_cast, seval, ↓reduceIte, Za, hN0, hN]
  refine Zk [2] [false] ?_
  simp only [push_cast, seval, ↓reduceIte]
  refine Zy ?_
  try simp only [Zm, Zj]
  have h := Option.some.inj h; subst h
  refine Zn (.inr rfl) hU [.val (.int .i64 (IntKind.i64.wrap (1 + (IntKind.i64.wrap (y10 * (IntKind.i64.wrap ((IntKind.i64.wrap (1 + y8.1)) + y8.2)))))))] (by omega) ?_
  simp only [push_cast, seval, ↓reduceIte, Za, Try.results84, hN0, hN]
 replace h := Z3 c13 h
 refine Yc ?_
 try simp only [Zm, Zj]
 refine Zk [1] [true] ?_
 simp only [push_cast, seval, ↓reduceIte]
 refine Zl ?_
 obtain ⟨y12, hy12, h⟩ := bC h
 refine Zb Ze [] ?_
 simp only [push_cast, seval, ↓reduceIte, Za, hN0, hN]
 refine (Yv hy12).then ?_
 simp only [push_cast, seval, ↓reduceIte, Za, hN0, hN]
 refine Zk [2] [false] ?_
 simp only [push_cast, seval, ↓reduceIte]
 refine Zy ?_
 try simp only [Zm, Zj]
 have h := Option.some.inj h; subst h
 refine Zn (.inr rfl) hU [.val (.int .i64 (IntKind.i64.wrap (1 + y12)))] (by omega) ?_
 simp only [push_cast, seval, ↓reduceIte, Za, Try.results84, hN0, hN]
end Go.Proofs.Ytmlhokaflhlhbaa
