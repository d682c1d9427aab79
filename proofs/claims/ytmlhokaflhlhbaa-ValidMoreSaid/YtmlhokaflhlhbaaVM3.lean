/- Part VM3 of this seat's mirrors: functions of the seat's program, and the plain functions that they are; each theorem bears its own conditions. -/
import Derived.Test.YtmlhokaflhlhbaaVE
import Derived.Test.YtmlhokaflhlhbaaVM2
namespace Go.Proofs.Ytmlhokaflhlhbaa
open Go.RowKit
set_option linter.unusedVariables false
set_option linter.unusedSimpArgs false
set_option maxRecDepth 100000
set_option maxHeartbeats 4000000
attribute [local push_cast] Z6 K4 Qb Ys Zi Zfx Zfw Zgn Zgm Zm Zj Zc2 Ga U9 onW Yd Kx J6 Zf2 Ze2 Zbt Zby Zbs Zbx Zdw Zdt Zbw Zdv Zdu Zbu Zdr Gu evS wok Yr Op.operands Call.operands gop onK onP atK List.all_cons List.all_nil Bool.and_true Bool.true_and Bool.and_self Value.oneCell' List.take_zero List.take_succ_cons List.take_nil List.drop_zero List.drop_succ_cons List.drop_nil List.append_nil Nat.add_zero Nat.zero_add Ql Zq ev Yv Zk9 Zfo Zfn Zft Zfr Zfs Zfp Zfq Zfm Zid Ziw Zla Zau Ka Zal Ks Zba Um Vu Vz U5 U2 Vx U4 U3 Vw U0 Vv Vy K5 U1 Zc4 Gb Je Zam Jf Zb4 Zat Zjl bLo bHi bMx Kb Zb3 Zmb Zas Zcg Vs Qs Zip Zmf Zaj Zmk J9 Znf Zc7 Zdb Zc6 Zda Zga Zf7 Zf5 Zbe Zc8 Zf9 Zf8 Zc9 Zf6 Zb5 Zfy Zdk Gp Gn pop TK.isAgg Zgf Zgj Zge Zgi Zde Zj0 Zjx Zgh Zjz Zjy Zgg Zjw G.under G.unders List.getD_cons_zero List.getD_cons_succ List.set_cons_zero List.set_cons_succ List.map_cons List.map_nil List.toList_toArray Array.toList_append Option.toArray_none Option.toArray_some Array.toList_map Option.map_some Option.map_none Option.bind_some Option.bind_none List.getElem?_cons_zero List.getElem?_cons_succ List.getElem?_nil List.nil_append List.cons_append List.replicate_succ List.replicate_zero List.length_cons List.length_nil and_true true_and and_false false_and Bool.true_eq_false Bool.false_eq_true forall_const false_implies implies_true IntKind.bits if_true if_false ite_true ite_false eq_self true_implies false_or or_false or_true true_or not_true_eq_false not_false_eq_true decide_true decide_false decide_eq_true_eq decide_eq_false_iff_not beq_iff_eq bne_iff_ne ne_eq Bool.not_eq_true Bool.not_eq_false beq_eq_false_iff_ne bne_eq_false_iff_eq beq_self_eq_true bne_self_eq_false Option.some.injEq exists_eq_left' exists_eq_left ge_iff_le gt_iff_lt decide_not Bool.not_true Bool.not_false imp_self Zjn cond_true cond_false Zq8 Zq7 Bool.not_not Bool.and_false Bool.false_and Bool.or_true Bool.true_or Bool.or_false Bool.false_or K2 Zfb Zeh Zcy Za5 Ur Option.join_some Nat.add_assoc Int.toNat_natCast eI eB eS eL U6 Ut V5 Zf1 Zfz Zf0 Znt Zpn Uv Ub Zgu Zgs Zgt Zlh Zc1 Zjg Zdp Zjf Vj Zic List.length_append G.agg.injEq G.row.injEq G.ref.injEq G.val.injEq G.sl.injEq G.tup.injEq Value.int.injEq Value.bool.injEq Value.string.injEq List.cons.injEq exists_and_left exists_const List.flatten_cons List.flatten_nil Int.le_refl Nat.le_refl Zee Qr Zcz Bool.not_eq_true' Bool.not_eq_false' Zh5 G0 Zk1 Zk5 Zk0 Zk4 Zo4 Zo0 List.size_toArray Zgw Zgx G.ren G.rens Zix Uo Zgz Zfj Zfk Zds Zk6 Gi G.fn.injEq Zbz Zeg Zh3 Zo1 Zef Zk3 Zo3 Zo2 Zk2 Zjr Zno Option.join_none Xh Jd undef Zch Arr.len Arr.put_eq Uu Zbi Gj Ua Zgr Zgp Zgq onB Zns Zin Zdq Zco Zcp Zcq Zcr Zcs Zct Zbf Zbm Zbk Gm Uc Zbl Zdj Zdi Zdh Zdg Zpm Zqt Zlg Zj2 Xp Zlc Zgb Zbo Gl Zmq Zg2 Zar Zcf Vf Zbp Zcu Zcv Zcw Zcx Zay Zaz Za0 Za1 Za2 Za3 Za4 V0 prT K9 Zr8 Zkp Zqy Zkq Zr9 Zkr Zsa Zks Zsb Zkt Zsc Zku Zsd Zkv Zse Zkw Zny Zg4 Znz Zg5 Zn0 Zg6 Zn1 Zg7 Zn2 Zg8 Zn3 Zg9 Zn4 Zha Zn5 Zhb Zn6 Zhc Zn7 Zhd Zn8 Zhe Zn9 Zhf Zoa Zhg Zob Zeq Zoc Zhh Zod Zhi Zoe Zhj Zg3 Zhk Zof Zhl Zog Zhm Zez Zer Zoh Zhn Zoi Zho Zoj Zhp Zok Zhq Zol Zhr Zom Zhs Zon Zht Zoo Zhu Zop Zhv Zoq Zhw Zor Zhx Zos Zhy Zot Zhz Zou Zh0 Zov Zh1 Zow Zh2 Zj8 Zdx Zj9 Zdy Zka Zdz Zkb Zd0 Zkc Zd1 Zkd Zd2 Zke Zd3 Zkf Zd4 Zkg Zd5 Zkh Zd6 Zki Zd7 Zkj Zd8 Zkk Zd9 Zkl Zea Zkm Zeb Zkn Zec Zko Zed Zab Gz Gf Gh Zae Ul Ui Ug Gw Ko Km Kc Kj Kp Jx Jw Jv Kl Zf X1 X0 Xx Xy X2 Xt Xs Xr Xz V2 Zaa Gy Ge Gg Zad Uk Uh Uf Gv V1 Jr Qc Qd Y3 Zo Xj Xi Xe Xf Xk Xa Y8 Y7 Xg Zy X7 Q9 Q8 Q3 Q5 Ja Qx Qv Qu Q7
theorem Zeu {a0 : Zc} {r : (Int × Int)} {O : Objs} {n : Nat} (h : Jh a0 = some r) : GTo Try.prog 54 [.agg (Zi a0)] O n (.tup [.val (.int .i64 r.1), .val (.int .i64 r.2)]) O n := by
 unfold Jh at h
 refine Xd Ze Try.call54 Try.func54 rfl (Nat.le_of_ble_eq_true rfl) (Nat.le_refl _) fun hU => ?_
 have hN0 : O n = none := hU.fresh _ (Nat.le_refl _)
 have hN : ∀ k, O (n + k) = none := fun k => hU.fresh _ (Nat.le_add_right _ _)
 show W _ _ _ _ ⟨11, [], [(0, .agg (Zi a0))]⟩ (Zv O n []) _
 refine Zw [1] (Zb Ze [] ?_)
 simp only [push_cast, seval, ↓reduceIte, Za, hN0, hN]
 refine Zl ?_
 refine Zw [1, 6] (Zb Ze [] ?_)
 simp only [push_cast, seval, ↓reduceIte, Za, hN0, hN]
 refine Zz (t := (a0.kind != 9)) rfl (fun c1 => ?_) (fun c1 => ?_)
 ·replace h := Z5 c1 h
  refine Zw [2, 3] (Zb Ze [] ?_)
  simp only [push_cast, seval, ↓reduceIte, Za, hN0, hN]
  refine Zx ?_
  try simp only [Zm, Zj]
  have h := Option.some.inj h; subst h
  refine Zn (.inr rfl) hU [.val (.int .i64 0), .val (.int .i64 0)] (by omega) ?_
  simp only [push_cast, seval, ↓reduceIte, Za, Try.results54, hN0, hN]
 replace h := Z4 c1 h
 refine Yb ?_
 try simp only [Zm, Zj]
 refine Zk [1] [true] ?_
 simp only [push_cast, seval, ↓reduceIte]
 refine Zw [2, 3] (Zai Ze (by kernel_rfl) [] (by kernel_rfl) ?_)
 simp only [push_cast, seval, ↓reduceIte, Za, hN0, hN]
 refine Zx ?_
 try simp only [Zm, Zj]
 have h := Option.some.inj h; subst h
 refine Zn (.inr rfl) hU [.val (.int .i64 a0.words), .val (.int .i64 a0.ptrs)] (by omega) ?_
 simp only [push_cast, seval, ↓reduceIte, Za, Try.results54, hN0, hN]
theorem J3 {a0 : Int} {a1 : Int} {r : Int} {O : Objs} {n : Nat} (h : Qn a0 a1 = some r) : GTo Try.prog 64 [.val (.int .i64 a0), .val (.int .i64 a1)] O n (.val (.int .i64 r)) O n := by
 unfold Qn at h
 refine Xd Ze Try.call64 Try.func64 rfl (Nat.le_of_ble_eq_true rfl) (Nat.le_refl _) fun hU => ?_
 have hN0 : O n = none := hU.fresh _ (Nat.le_refl _)
 have hN : ∀ k, O (n + k) = none := fun k => hU.fresh _ (Nat.le_add_right _ _)
 show W _ _ _ _ ⟨9, [], [(0, .val (.int .i64 a0)), (1, .val (.int .i64 a1))]⟩ (Zv O n []) _
 refine Zw [0, 1] (Zb Ze [] ?_)
 simp only [push_cast, seval, ↓reduceIte, Za, hN0, hN]
 refine Zw [4] (Zb Ze [] ?_)
 simp only [push_cast, seval, ↓reduceIte, Za, hN0, hN]
 refine Zx ?_
 try simp only [Zm, Zj]
 have h := Option.some.inj h; subst h
 refine Zn (.inr rfl) hU [.val (.int .i64 (if a1 < (if a0 < 0 then 0 else a0) then a1 else (if a0 < 0 then 0 else a0)))] (by omega) ?_
 simp only [push_cast, seval, ↓reduceIte, Za, Try.results64, hN0, hN]
theorem Zci {a0 : Zp} {r : Zp} {O : Objs} {n : Nat} (h : Jt a0 = some r) : GTo Try.prog 36 [.agg (Z6 a0)] O n (.agg (Z6 r)) O n := by
 unfold Jt at h
 refine Xd Ze Try.call36 Try.func36 rfl (Nat.le_of_ble_eq_true rfl) (Nat.le_refl _) fun hU => ?_
 have hN0 : O n = none := hU.fresh _ (Nat.le_refl _)
 have hN : ∀ k, O (n + k) = none := fun k => hU.fresh _ (Nat.le_add_right _ _)
 show W _ _ _ _ ⟨16, [], [(0, .agg (Z6 a0))]⟩ (Zv O n []) _
 refine Zw [1, 2] (Zb Ze [] ?_)
 simp only [push_cast, seval, ↓reduceIte, Za, hN0, hN]
 refine Zl ?_
 obtain ⟨y5, hy5, h⟩ := bC h
 obtain ⟨y6, hy6, h⟩ := bC h
 obtain ⟨y7, hy7, h⟩ := bC h
 obtain ⟨y8, hy8, h⟩ := bC h
 refine Zps Ze (by kernel_rfl) [false, false, false, false, false, false, false, false, false, false, false, false, false, true] [] (by kernel_rfl) ?_
 simp only [push_cast, seval, ↓reduceIte, Za, hN0, hN]
 refine PCall.of (J3 hy5) ?_
 simp only [push_cast, seval, ↓reduceIte, Za, hN0, hN]
 refine PCall.of (J3 hy6) ?_
 simp only [push_cast, seval, ↓reduceIte, Za, hN0, hN]
 refine PCall.of (J3 hy7) ?_
 simp only [push_cast, seval, ↓reduceIte, Za, hN0, hN]
 refine PCall.of (J3 hy8) ?_
 simp only [push_cast, seval, ↓reduceIte, Za, hN0, hN]
 refine Zk [2] [false, true] ?_
 simp only [push_cast, seval, ↓reduceIte]
 refine Zx ?_
 try simp only [Zm, Zj]
 have h := Option.some.inj h; subst h
 refine Zn (.inr rfl) hU [.agg [.val (.int .i64 y5), .val (.int .i64 y6), .val (.int .i64 y7), .val (.int .i64 y8)]] (by omega) ?_
 simp only [push_cast, seval, ↓reduceIte, Za, Try.results36, hN0, hN]
theorem Zcj {a0 : Zc} {r : Int} {O : Objs} {n : Nat} (h : Ju a0 = some r) : GTo Try.prog 83 [.agg (Zi a0)] O n (.val (.int .i64 r)) O n := by
 unfold Ju at h
 refine Xd Ze Try.call83 Try.func83 rfl (Nat.le_of_ble_eq_true rfl) (Nat.le_refl _) fun hU => ?_
 have hN0 : O n = none := hU.fresh _ (Nat.le_refl _)
 have hN : ∀ k, O (n + k) = none := fun k => hU.fresh _ (Nat.le_add_right _ _)
 show W _ _ _ _ ⟨16, [], [(0, .agg (Zi a0))]⟩ (Zv O n []) _
 refine Zw [1] (Zb Ze [] ?_)
 simp only [push_cast, seval, ↓reduceIte, Za, hN0, hN]
 refine Zl ?_
 refine Jz ?_
 refine Zl ?_
 obtain ⟨y2, hy2, h⟩ := bC h
 refine Zb Ze [] ?_
 simp only [push_cast, seval, ↓reduceIte, Za, hN0, hN]
 refine (Qj hy2).then ?_
 simp only [push_cast, seval, ↓reduceIte, Za, hN0, hN]
 refine Zk [1, 3] [true] ?_
 simp only [push_cast, seval, ↓reduceIte]
 refine Zz (t := (y2 == 0)) rfl (fun c12 => ?_) (fun c12 => ?_)
 ·replace h := Z5 c12 h
  refine Zw [2] (Zb Ze [] ?_)
  simp only [push_cast, seval, ↓reduceIte, Za, hN0, hN]
  refine Zx ?_
  try simp only [Zm, Zj]
  have h := Option.some.inj h; subst h
  refine Zn (.inr rfl) hU [.val (.int .i64 0)] (by omega) ?_
  simp only [push_cast, seval, ↓reduceIte, Za, Try.results83, hN0, hN]
 replace h := Z4 c12 h
 obtain ⟨z5, hz5, h⟩ := bC h
 refine Zb1 (E' := ⟨16, [], [(7, .val (.bool z5))]⟩) (O' := (Zv O n [none])) (n0 := (n + 1)) ?_ ?_
 ·obtain ⟨y8, hy8, hz5⟩ := bC hz5
  rcases Bool.eq_false_or_eq_true (y8 == 9) with c10 | c10
  ·replace hz5 := Z5 c10 hz5
   obtain ⟨y9, hy9, hz5⟩ := bC hz5
   refine Zb Ze [some true, some true, some true] ?_
   simp only [push_cast, seval, ↓reduceIte, Za, c10, hN0, hN]
   refine (Qj hy8).then ?_
   simp only [push_cast, seval, ↓reduceIte, Za, c10, hN0, hN]
   refine (Yw hy9).then ?_
   simp only [push_cast, seval, ↓reduceIte, Za, c10, hN0, hN]
   have hz5 := Option.some.inj hz5; subst hz5
   refine And.intro rfl (Fit2.of (Xc hU rfl rfl ?_) (by omega))
   simp only [push_cast, seval, ↓reduceIte, Za, c10, hN0, hN]
  replace hz5 := Z4 c10 hz5
  refine Zb Ze [some false, some false, some false] ?_
  simp only [push_cast, seval, ↓reduceIte, Za, c10, hN0, hN]
  refine (Qj hy8).then ?_
  simp only [push_cast, seval, ↓reduceIte, Za, c10, hN0, hN]
  have hz5 := Option.some.inj hz5; subst hz5
  refine And.intro rfl (Fit2.of (Xc hU rfl rfl ?_) (by omega))
  simp only [push_cast, seval, ↓reduceIte, Za, c10, hN0, hN]
 refine Zz (t := z5) rfl (fun c11 => ?_) (fun c11 => ?_)
 ·replace h := Z5 c11 h
  refine Zw [2] (Zb Ze [] ?_)
  simp only [push_cast, seval, ↓reduceIte, Za, hN0, hN]
  refine Zx ?_
  try simp only [Zm, Zj]
  have h := Option.some.inj h; subst h
  refine Zn (.inr rfl) hU [.val (.int .i64 2)] (by omega) ?_
  simp only [push_cast, seval, ↓reduceIte, Za, Try.results83, hN0, hN]
 replace h := Z4 c11 h
 refine Yb ?_
 try simp only [Zm, Zj]
 refine Zk [] [false] ?_
 simp only [push_cast, seval, ↓reduceIte]
 refine Zw [2] (Zb Ze [] ?_)
 simp only [push_cast, seval, ↓reduceIte, Za, hN0, hN]
 refine Zx ?_
 try simp only [Zm, Zj]
 have h := Option.some.inj h; subst h
 refine Zn (.inr rfl) hU [.val (.int .i64 1)] (by omega) ?_
 simp only [push_cast, seval, ↓reduceIte, Za, Try.results83, hN0, hN]
theorem Zck {a0 : Zc} {r : Int} {O : Objs} {n : Nat} (h : Q4 a0 = some r) : GTo Try.prog 84 [.agg (Zi a0)] O n (.val (.int .i64 r)) O n := by
 unfold Q4 at h
 refine Xd Ze Try.call84 Try.func84 rfl (Nat.le_of_ble_eq_true rfl) (Nat.le_refl _) fun hU => ?_
 have hN0 : O n = none := hU.fresh _ (Nat.le_refl _)
 have hN : ∀ k, O (n + k) = none := fun k => hU.fresh _ (Nat.le_add_right _ _)
 show W _ _ _ _ ⟨35, [], [(0, .agg (Zi a0))]⟩ (Zv O n []) _
 refine Zw [1] (Zb Ze [] ?_)
 simp only [push_cast, seval, ↓reduceIte, Za, hN0, hN]
 refine Zl ?_
 refine Zl ?_
 obtain ⟨y2, hy2, h⟩ := bC h
 refine Zb Ze [] ?_
 simp only [push_cast, seval, ↓reduceIte, Za, hN0, hN]
 refine (Qj hy2).then ?_
 simp only [push_cast, seval, ↓reduceIte, Za, hN0, hN]
 refine Zk [1, 6] [true] ?_
 simp only [push_cast, seval, ↓reduceIte]
 refine Jz ?_
 refine Zw [1, 6, 7] (Zb Ze [] ?_)
 simp only [push_cast, seval, ↓reduceIte, Za, hN0, hN]
 refine Zz (t := (y2 == 0)) rfl (fun c15 => ?_) (fun c15 => ?_)
 ·replace h := Z5 c15 h
  refine Zw [2] (Zb Ze [] ?_)
  simp only [push_cast, seval, ↓reduceIte, Za, hN0, hN]
  refine Zx ?_
  try simp only [Zm, Zj]
  have h := Option.some.inj h; subst h
  refine Zn (.inr rfl) hU [.val (.int .i64 0)] (by omega) ?_
  simp only [push_cast, seval, ↓reduceIte, Za, Try.results84, hN0, hN]
 replace h := Z4 c15 h
 refine Zw [1, 6, 9] (Zb Ze [] ?_)
 simp only [push_cast, seval, ↓reduceIte, Za, hN0, hN]
 refine Zz (t := (y2 == 1)) rfl (fun c14 => ?_) (fun c14 => ?_)
 ·replace h := Z5 c14 h
  refine Zl ?_
  obtain ⟨y5, hy5, h⟩ := bC h
  obtain ⟨y6, hy6, h⟩ := bC h
  refine Zai Ze (by kernel_rfl) [] (by kernel_rfl) ?_
  simp only [push_cast, seval, ↓reduceIte, Za, hN0, hN]
  refine PCall.of (Zev hy5) ?_
  simp only [push_cast, seval, ↓reduceIte, Za, hN0, hN]
  refine PCall.of (Yw hy6) ?_
  simp only [push_cast, seval, ↓reduceIte, Za, hN0, hN]
  refine Zk [2] [false] ?_
  simp only [push_cast, seval, ↓reduceIte]
  refine Zx ?_
  try simp only [Zm, Zj]
  have h := Option.some.inj h; subst h
  refine Zn (.inr rfl) hU [.val (.int .i64 (IntKind.i64.wrap ((IntKind.i64.wrap (1 + y5)) + y6)))] (by omega) ?_
  simp only [push_cast, seval, ↓reduceIte, Za, Try.results84, hN0, hN]
 replace h := Z4 c14 h
 refine Zw [1, 17] (Zb Ze [] ?_)
 simp only [push_cast, seval, ↓reduceIte, Za, hN0, hN]
 refine Zz (t := (y2 == 9)) rfl (fun c13 => ?_) (fun c13 => ?_)
 ·replace h := Z5 c13 h
  refine Zl ?_
  obtain ⟨y8, hy8, h⟩ := bC h
  refine Zb Ze [] ?_
  simp only [push_cast, seval, ↓reduceIte, Za, hN0, hN]
  refine (Zeu hy8).then ?_
  simp only [push_cast, seval, ↓reduceIte, Za, hN0, hN]
  refine Zk [1, 3, 4] [true] ?_
  simp only [push_cast, seval, ↓reduceIte]
  refine Zl ?_
  obtain ⟨y10, hy10, h⟩ := bC h
  refine Zb Ze [] ?_
  simp only [push_cast, seval, ↓reduceIte, Za, hN0, hN]
  refine (Yw hy10).then ?_
  simp only [push_cast, seval, ↓reduceIte, Za, hN0, hN]
  refine Zk [2] [false] ?_
  simp only [push_cast, seval, ↓reduceIte]
  refine Zx ?_
  try simp only [Zm, Zj]
  have h := Option.some.inj h; subst h
  refine Zn (.inr rfl) hU [.val (.int .i64 (IntKind.i64.wrap (1 + (IntKind.i64.wrap (y10 * (IntKind.i64.wrap ((IntKind.i64.wrap (1 + y8.1)) + y8.2)))))))] (by omega) ?_
  simp only [push_cast, seval, ↓reduceIte, Za, Try.results84, hN0, hN]
 replace h := Z4 c13 h
 refine Yb ?_
 try simp only [Zm, Zj]
 refine Zk [1] [true] ?_
 simp only [push_cast, seval, ↓reduceIte]
 refine Zl ?_
 obtain ⟨y12, hy12, h⟩ := bC h
 refine Zb Ze [] ?_
 simp only [push_cast, seval, ↓reduceIte, Za, hN0, hN]
 refine (Yw hy12).then ?_
 simp only [push_cast, seval, ↓reduceIte, Za, hN0, hN]
 refine Zk [2] [false] ?_
 simp only [push_cast, seval, ↓reduceIte]
 refine Zx ?_
 try simp only [Zm, Zj]
 have h := Option.some.inj h; subst h
 refine Zn (.inr rfl) hU [.val (.int .i64 (IntKind.i64.wrap (1 + y12)))] (by omega) ?_
 simp only [push_cast, seval, ↓reduceIte, Za, Try.results84, hN0, hN]
end Go.Proofs.Ytmlhokaflhlhbaa
