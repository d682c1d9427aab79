/- Part BM5 of this seat's mirrors: functions of the seat's program, and the plain functions that they are; each theorem bears its own conditions. -/
import Derived.Test.YtgpaglmhkklneaaBE
import Derived.Test.YtgpaglmhkklneaaBM3
namespace Go.Proofs.Ytgpaglmhkklneaa
open Go.RowKit
set_option linter.unusedVariables false
set_option linter.unusedSimpArgs false
set_option maxRecDepth 100000
set_option maxHeartbeats 4000000
attribute [local push_cast] Try.results10 Try.results11 Try.results25 Try.results41 Try.results56 Try.results57 Try.results58 Try.results59 Try.results71 vI vB nV sL oR Zi Za7 Yq Ze Gs Vh Zvu Zvt Zwm Zwl Y2 Ye Zrw Zl6 Zl5 onW Q0 Zgw Zfr Zus Zt1 Zps Zpw Zpr Zpv Zs6 Zs2 Zpu Zs5 Zs4 Zs3 Zpt Zs0 Zm6 evS wok Kb Op.operands Call.operands gop onK onP atK List.all_cons List.all_nil Bool.and_true Bool.true_and Bool.and_self Value.oneCell' List.take_zero List.take_succ_cons List.take_nil List.drop_zero List.drop_succ_cons List.drop_nil List.append_nil Nat.add_zero Nat.zero_add Zbj Yy ev Kr Zc3 Zvn Zvm Zvs Zvq Zvr Zvo Zvp Zvl Zu8 Zyp Z1q Zl9 Zgy Zla Zgx Zpc Zjb Zj7 Zkc Zl0 Zlw Zka Zlz Zly Zlx Zj9 Zlu Zj8 Zkb Ziv Zlv Zn1 Zl7 Zeh Zl8 Zei Zn0 Zl4 Zz2 bLo bHi bMx Zg0 Zny Z4b Zl3 Znz Ziw Zc4 Zyr Z4d Zl2 Zi8 Z4h Zgv Z5w Zr1 Zr5 Zr0 Zr4 Zv9 Zv5 Zv3 Zpe Zr2 Zv8 Zv7 Zv6 Zr3 Zvz Zv2 Zvy Zv1 Z14 Z1z Z1y Zv0 Z12 Z13 Zv4 Znp gone Zsr Zmt Zms pop TK.isAgg Zwf Zwj Zwe Zwi Zsj Z2n Z2j Zwh Z2m Z2l Z2k Zwg Z2i G.under G.unders List.getD_cons_zero List.getD_cons_succ List.set_cons_zero List.set_cons_succ List.map_cons List.map_nil List.toList_toArray Array.toList_append Option.toArray_none Option.toArray_some Array.toList_map Option.map_some Option.map_none Option.bind_some Option.bind_none List.getElem?_cons_zero List.getElem?_cons_succ List.getElem?_nil List.nil_append List.cons_append List.replicate_succ List.replicate_zero List.length_cons List.length_nil and_true true_and and_false false_and Bool.true_eq_false Bool.false_eq_true forall_const false_implies implies_true IntKind.bits if_true if_false ite_true ite_false eq_self true_implies false_or or_false or_true true_or not_true_eq_false not_false_eq_true decide_true decide_false decide_eq_true_eq decide_eq_false_iff_not beq_iff_eq bne_iff_ne ne_eq Bool.not_eq_true Bool.not_eq_false beq_eq_false_iff_ne bne_eq_false_iff_eq beq_self_eq_true bne_self_eq_false Option.some.injEq exists_eq_left' exists_eq_left ge_iff_le gt_iff_lt decide_not Bool.not_true Bool.not_false imp_self Z1s cond_true cond_false Ycm Ycl Bool.not_not Bool.and_false Bool.false_and Bool.or_true Bool.true_or Bool.or_false Bool.false_or Kl Vq Vr Ka Yo Yc Option.join_some Nat.add_assoc Int.toNat_natCast eI eB eS eL Z5 Zlb Zke Zvx Zvv Zvw Z54 Z9d Zln Zkl Zwt Zwr Zws Z2h Zp5 Z0q Zqk Zzz Ziz Zyj List.length_append G.agg.injEq G.row.injEq G.ref.injEq G.val.injEq G.sl.injEq G.tup.injEq Value.int.injEq Value.bool.injEq Value.string.injEq List.cons.injEq exists_and_left exists_const List.flatten_cons List.flatten_nil Int.le_refl Nat.le_refl Xd Z6 Z8 Bool.not_eq_true' Bool.not_eq_false' Zx0 Zoq Z3p Z3u Z3o Z3t Z8s Z8n List.size_toArray Zue Zux G.ren G.rens Zzh Zjv Zwv Zvj Zvk Zs1 Z3v Zga G.fn.injEq Zto Ztp Zxz Z8o Ztn Z3s Z8r Z8q Z8p Z3q Z18 Z62 Option.join_none Z4 Zar undef Zn5 Arr.len Arr.put_eq Zlm Zpi Zmp Zkk Zwq Zwo Zwp onB Z53 Zyo Zsw Zo9 Zq7 Zq8 Zq9 Zra Zrb Zrc Zpf Zpl Zpj Zmr Zkm Zpk Zsq Zsp Zso Zsn Z9c Ya9 Z2g Z0a Zdf Z2a Zr7 Zpm Zmq Z4y Zu0 Zl1 Znx Zh7 Zoi Zrd Zre Zrf Zrg Zou Zov Zow Zox Zoy Zoz Zo0 Zo1 Zo2 Zo3 Zo4 Zo5 Zo6 Zip prT Zj1 Ydr Z3e Z9p Z3f Yds Z3g Z3d Z3h Ydt Z3i Ydu Z3j Ydv Z3k Ydw Z3l Z7q Zwz Z7r Zw0 Z7s Zw1 Z7t Zw2 Z7u Zw3 Z7v Zw4 Z7w Zw5 Z7x Zw6 Z7y Zw7 Z7z Zw8 Z70 Zw9 Z71 Zpy Z08 Zf1 Z72 Zxa Up Zxb Z73 Zpz Z74 Zxc Z75 Zxd Z76 Zxe Z77 Zxf Z78 Zxg Ziu Zxh Z79 Zxi Z8a Zxj Z8b Zxk Zhf Zxl Z8c Zxm Zu1 Zxn Z8d Zxo Z8e Zxp Z8f Zxq Zon Zxr Z8g Zxs Zhg Zxt Z8h Zxu Z8i Zxv Z8j Zxw Z09 Ztm Z8k Zxx Z8l Zxy Z20 Zs9 Z21 Zta Z22 Ztb Z23 Ztc Z24 Ztd Z25 Zte Z26 Ztf Z27 Ztg Z28 Zth Z29 Zti Z3a Ztj Z3b Ztk Z3c Ztl Za Yx Znf Znd Zmc Zmo Znh Zku Zkr Zkp Zna Zfh Zff Ze4 Ze9 Zfj Zea Zd8 Zd6 Zfd Zne Znc Zmb Zmn Zng Zkt Zkq Zko Zm9 Zh Zd Zk Zg Xw Xe Qr Yb Zb6 Zb4 Zbk Zbx Zb8 Za0 Zax Zav Zb1 Zco Zcn Zck Zcl Zcp Zb3 Zb0 Zbz Zcm Zhk Zhj Zg4 Zha Zhl Zf2 Zf0 Zfz Zhi Zfg Zfe Ze3 Ze8 Zfi Zd9 Zd7 Zd5 Zfc Yn Zb7 Zb5 Zbl Zby Zb9 Za1 Zay Zaw Zb2 Yj Za3 Za2 Zas Zau Za4 Gn Gm Gl Zaz U3 U2 Us Uz U5 Ud Uc Ub U1 Zp2 Zp1 Zpd Zph Zp3 Znb Zmx Zmw Zp0 Zci
theorem Un {a0 : Zx} {r : Zx} {O : Objs} {n : Nat} {i0 j0_0 j0_1 j0_2 : Nat} (hi0 : i0 < n) (Ji : j0_0 < n) (Gp : j0_1 < n) (Zkf : j0_2 < n) (Xy : i0 ≠ j0_0) (Qk : i0 ≠ j0_1) (Zdc : i0 ≠ j0_2) (Qj : j0_0 ≠ j0_1) (Zda : j0_0 ≠ j0_2) (Zdb : j0_1 ≠ j0_2) (ho0 : O i0 = some ⟨false, 82, 4, 1, [.row j0_2 a0.out.length, (vI a0.kept), .row j0_0 a0.gone.length, .row j0_1 a0.come.length]⟩) (Js : O j0_0 = some (oR 25 3 Za a0.gone)) (Zcd : O j0_1 = some (oR 25 3 Za a0.come)) (Zma : O j0_2 = some (oR 68 14 Zg a0.out)) (h : X5 a0 = some r) : GTo Try.prog 59 [.ref i0 0] O n (.tup []) (Zv ((((O.upd j0_0 none).upd j0_1 none).upd j0_2 none).upd i0 (some ⟨false, 82, 4, 1, [.row (n + 2) r.out.length, (vI r.kept), .row n r.gone.length, .row (n + 1) r.come.length]⟩)) n [some (oR 25 3 Za r.gone), some (oR 25 3 Za r.come), some (oR 68 14 Zg r.out)]) (n + 3) := by
 unfold X5 at h
 refine Zi6 Z0 Try.call59 Try.func59 rfl (Nat.le_of_ble_eq_true rfl) (by omega) fun hU => ?_
 have e0 := X8 (ba := n) (E := ⟨73, [], Zc3 0 [.ref i0 0]⟩) (O := (Zv O n [])) (n := n) (i := i0) (j := j0_0) (k := 2) (len := a0.gone.length) (q := ⟨false, 82, 4, 1, [.row j0_2 a0.out.length, .val (.int .i64 a0.kept), .row j0_0 a0.gone.length, .row j0_1 a0.come.length]⟩) (qj := ⟨true, 25, 3, a0.gone.length, fl Za a0.gone⟩) (by rw [Z6 _ hi0]; first | exact ho0 | exact Z4 _ _ _) rfl (by rw [Z6 _ Ji]; exact Js) Xy (by omega)
 simp only [Z8 _ _ Ji, Z8 _ _ hi0, Yo, Yc, Xd, K4 Xy, List.set_cons_zero, List.set_cons_succ, List.cons_append, List.nil_append, List.length_cons, List.length_nil, Nat.zero_add, Nat.reduceAdd, Nat.add_assoc] at e0
 refine Qc e0 ?_
 have e1 := X8 (ba := n) (E := ⟨73, [], Zc3 0 [.ref i0 0]⟩) (O := (Zv ((O.upd j0_0 none).upd i0 (some ⟨false, 82, 4, 1, [.row j0_2 a0.out.length, .val (.int .i64 a0.kept), .row n a0.gone.length, .row j0_1 a0.come.length]⟩)) n [some ⟨true, 25, 3, a0.gone.length, fl Za a0.gone⟩])) (n := (n + 1)) (i := i0) (j := j0_1) (k := 3) (len := a0.come.length) (q := ⟨false, 82, 4, 1, [.row j0_2 a0.out.length, .val (.int .i64 a0.kept), .row n a0.gone.length, .row j0_1 a0.come.length]⟩) (qj := ⟨true, 25, 3, a0.come.length, fl Za a0.come⟩) (by rw [Z6 _ hi0]; first | exact ho0 | exact Z4 _ _ _) rfl (by rw [Z6 _ Gp, Yp _ _ (Ne.symm Qk), Yp _ _ (Ne.symm Qj)]; exact Zcd) Qk (by omega)
 simp only [Z8 _ _ Gp, Z8 _ _ hi0, Yo, Yc, Xd, K4 Qk, List.set_cons_zero, List.set_cons_succ, List.cons_append, List.nil_append, List.length_cons, List.length_nil, Nat.zero_add, Nat.reduceAdd, Nat.add_assoc] at e1
 refine Qc e1 ?_
 have e2 := X8 (ba := n) (E := ⟨73, [], Zc3 0 [.ref i0 0]⟩) (O := (Zv (((O.upd j0_0 none).upd j0_1 none).upd i0 (some ⟨false, 82, 4, 1, [.row j0_2 a0.out.length, .val (.int .i64 a0.kept), .row n a0.gone.length, .row (n + 1) a0.come.length]⟩)) n [some ⟨true, 25, 3, a0.gone.length, fl Za a0.gone⟩, some ⟨true, 25, 3, a0.come.length, fl Za a0.come⟩])) (n := (n + 2)) (i := i0) (j := j0_2) (k := 0) (len := a0.out.length) (q := ⟨false, 82, 4, 1, [.row j0_2 a0.out.length, .val (.int .i64 a0.kept), .row n a0.gone.length, .row (n + 1) a0.come.length]⟩) (qj := ⟨true, 68, 14, a0.out.length, fl Zg a0.out⟩) (by rw [Z6 _ hi0]; first | exact ho0 | exact Z4 _ _ _) rfl (by rw [Z6 _ Zkf, Yp _ _ (Ne.symm Zdc), Yp _ _ (Ne.symm Zdb), Yp _ _ (Ne.symm Zda)]; exact Zma) Zdc (by omega)
 simp only [Z8 _ _ Zkf, Z8 _ _ hi0, Yo, Yc, Xd, K4 Zdc, List.set_cons_zero, List.set_cons_succ, List.cons_append, List.nil_append, List.length_cons, List.length_nil, Nat.zero_add, Nat.reduceAdd, Nat.add_assoc] at e2
 refine Qc e2 ?_
 have hU := (Und.drop (Und.drop (Und.drop hU j0_0) j0_1) j0_2)
 have hk0 : ∀ k, i0 < n + k := fun k => by omega
 have hN0 : ∀ o, Objs.upd (((O.upd j0_0 none).upd j0_1 none).upd j0_2 none) i0 o n = none := fun o => Xr hU hi0 _ (Nat.le_refl _)
 have hN : ∀ o k, Objs.upd (((O.upd j0_0 none).upd j0_1 none).upd j0_2 none) i0 o (n + k) = none := fun o k => Xr hU hi0 _ (Nat.le_add_right _ _)
 show W _ _ _ _ ⟨73, [], [(0, .ref i0 0)]⟩ (Zv ((((O.upd j0_0 none).upd j0_1 none).upd j0_2 none).upd i0 (some ⟨false, 82, 4, 1, [.row (n + 2) a0.out.length, (vI a0.kept), .row n a0.gone.length, .row (n + 1) a0.come.length]⟩)) n [some (oR 25 3 Za a0.gone), some (oR 25 3 Za a0.come), some (oR 68 14 Zg a0.out)]) _
 obtain ⟨z1, hz1, h⟩ := bC h
 refine Y6 (E' := ⟨73, [], [(0, .ref i0 0)]⟩) (O' := (Zv ((((O.upd j0_0 none).upd j0_1 none).upd j0_2 none).upd i0 (some ⟨false, 82, 4, 1, [.row (n + 2) z1.length, (vI a0.kept), .row n a0.gone.length, .row (n + 1) a0.come.length]⟩)) n [some (oR 25 3 Za a0.gone), some (oR 25 3 Za a0.come), some (oR 68 14 Zg z1), none])) (n0 := (n + 4)) ?_ ?_
 ·refine Gj [0, 6] hi0 hk0 ?_
  refine Zs (t := (decide (0 < a0.kept))) rfl (fun c5 => ?_) (fun c5 => ?_)
  ·replace hz1 := Zr c5 hz1
   obtain ⟨l2, pl2, ql2, el2, hz1⟩ := bA (k := 1) rfl hz1
   obtain ⟨x3, hx3, ax3, bx3, cx3, hz1⟩ := bE (f := Zg) Zhg (fun _ => rfl) (by decide) hz1
   have gu4 : Kc (fl Zg a0.out ++ [.val (.int .i64 0), .val (.int .i64 0), .val (.slice none 0 0), .val (.int .i64 0), .val (.int .i64 0), .val (.slice none 0 0), .val (.slice none 0 0), .val (.int .i64 0), .val (.slice none 0 0), .val (.slice none 0 0), .val (.slice none 0 0), .val (.slice none 0 0), .val (.int .i64 0), .val (.slice none 0 0)]) [.val (.int .i64 0), .val (.int .i64 a0.kept), .val (.slice none 0 0), .val (.int .i64 0), .val (.int .i64 0), .val (.slice none 0 0), .val (.slice none 0 0), .val (.int .i64 0), .val (.slice none 0 0), .val (.slice none 0 0), .val (.slice none 0 0), .val (.slice none 0 0), .val (.int .i64 0), .val (.slice none 0 0)] (List.length a0.out * 14) = some (fl Zg a0.out ++ [.val (.int .i64 0), .val (.int .i64 a0.kept), .val (.slice none 0 0), .val (.int .i64 0), .val (.int .i64 0), .val (.slice none 0 0), .val (.slice none 0 0), .val (.int .i64 0), .val (.slice none 0 0), .val (.slice none 0 0), .val (.slice none 0 0), .val (.slice none 0 0), .val (.int .i64 0), .val (.slice none 0 0)]) := Zc5 (f := Zg) (sz := 14) (fun _ => rfl) rfl rfl
   refine Uq Z0 (by kernel_rfl) [.plain, .low, .low, .low, .plain, .low, .low, .low, .plain, .low, .pass, .bar, .shp, .fill true, .shp, .shp, .fill false] (fun i => i < (n + 3)) [0, 1, 2, 3, 4, 5, 6, 7, 8, 9, 10, 11, 12, 13, 14, 15, 16] [.plain, .low, .low, .low, .plain, .low, .low, .low, .plain, .low, .pass, .bar, .shp, .fill true, .shp, .shp, .fill false] [] (by kernel_rfl) rfl ?_
   refine zF9 pl2 ql2 el2 ax3 bx3 cx3 gu4 hi0 hk0 ?_
   refine zO ?_
   obtain rfl := sI hz1
   refine And.intro rfl (Fit2.of (Z9 hU rfl rfl ?_) (by omega))
   exact Z3w pl2 ql2 el2 ax3 bx3 cx3 gu4 hi0 hk0
  replace hz1 := Zq c5 hz1
  refine zK ?_
  obtain rfl := sI hz1
  refine And.intro rfl (Fit2.of (Z9 hU rfl rfl ?_) (by omega))
  exact X3 hi0 hk0
 obtain ⟨z6, hz6, h⟩ := bC h
 refine Y6 (E' := ⟨73, [], [(0, .ref i0 0)]⟩) (O' := (Zv ((((O.upd j0_0 none).upd j0_1 none).upd j0_2 none).upd i0 (some ⟨false, 82, 4, 1, [.row (n + 2) z6.1.length, (vI a0.kept), (sL Za z6.2), .row (n + 1) a0.come.length]⟩)) n [none, some (oR 25 3 Za a0.come), some (oR 68 14 Zg z6.1), none, none])) (n0 := (n + 5)) ?_ ?_
 ·refine Gj [0, 27] hi0 hk0 ?_
  refine Zs (t := (decide (0 < (a0.gone.length : Int)))) rfl (fun c12 => ?_) (fun c12 => ?_)
  ·replace hz6 := Zr c12 hz6
   refine Zgb ⟨73, [], [(0, .ref i0 0)]⟩ (Zv ((((O.upd j0_0 none).upd j0_1 none).upd j0_2 none).upd i0 (some ⟨false, 82, 4, 1, [.row (n + 2) z1.length, (vI a0.kept), (sL Za a0.gone), .row (n + 1) a0.come.length]⟩)) n [none, some (oR 25 3 Za a0.come), some (oR 68 14 Zg z1), none]) (Z9 hU rfl rfl ?_) ?_
   ·exact X3 hi0 hk0
   obtain ⟨l9, pl9, ql9, el9, hz6⟩ := bA (k := 1) rfl hz6
   obtain ⟨x10, hx10, ax10, bx10, cx10, hz6⟩ := bE (f := Zg) Zhg (fun _ => rfl) (by decide) hz6
   have gu11 : Kc (fl Zg z1 ++ [.val (.int .i64 0), .val (.int .i64 0), .val (.slice none 0 0), .val (.int .i64 0), .val (.int .i64 0), .val (.slice none 0 0), .val (.slice none 0 0), .val (.int .i64 0), .val (.slice none 0 0), .val (.slice none 0 0), .val (.slice none 0 0), .val (.slice none 0 0), .val (.int .i64 0), .val (.slice none 0 0)]) [.val (.int .i64 1), .val (.int .i64 0), .sl a0.gone.length (fl Za a0.gone), .val (.int .i64 0), .val (.int .i64 0), .val (.slice none 0 0), .val (.slice none 0 0), .val (.int .i64 0), .val (.slice none 0 0), .val (.slice none 0 0), .val (.slice none 0 0), .val (.slice none 0 0), .val (.int .i64 0), .val (.slice none 0 0)] (List.length z1 * 14) = some (fl Zg z1 ++ [.val (.int .i64 1), .val (.int .i64 0), .sl a0.gone.length (fl Za a0.gone), .val (.int .i64 0), .val (.int .i64 0), .val (.slice none 0 0), .val (.slice none 0 0), .val (.int .i64 0), .val (.slice none 0 0), .val (.slice none 0 0), .val (.slice none 0 0), .val (.slice none 0 0), .val (.int .i64 0), .val (.slice none 0 0)]) := Zc5 (f := Zg) (sz := 14) (fun _ => rfl) rfl rfl
   refine Uq Z0 (by kernel_rfl) [.plain, .low, .low, .low, .plain, .low, .low, .low, .plain, .low, .pass, .bar, .shp, .fill true, .shp, .shp, .fill false] (fun i => i < (n + 4)) [0, 1, 2, 3, 4, 5, 6, 7, 8, 9, 10, 11, 12, 13, 14, 15, 16] [.plain, .low, .low, .low, .plain, .low, .low, .low, .plain, .low, .pass, .bar, .shp, .fill true, .shp, .shp, .fill false] [] (by kernel_rfl) rfl ?_
   refine zF9 pl9 ql9 el9 ax10 bx10 cx10 gu11 hi0 hk0 ?_
   refine zO ?_
   obtain rfl := sI hz6
   refine And.intro rfl (Fit2.of (Z9 hU rfl rfl ?_) (by omega))
   exact Z3w pl9 ql9 el9 ax10 bx10 cx10 gu11 hi0 hk0
  replace hz6 := Zq c12 hz6
  refine zK ?_
  obtain rfl := sI hz6
  refine And.intro rfl (Fit2.of (Z9 hU rfl rfl ?_) (by omega))
  exact X3 hi0 hk0
 obtain ⟨z13, hz13, h⟩ := bC h
 refine Y6 (E' := ⟨73, [], [(0, .ref i0 0)]⟩) (O' := (Zv ((((O.upd j0_0 none).upd j0_1 none).upd j0_2 none).upd i0 (some ⟨false, 82, 4, 1, [.row (n + 2) z13.1.length, (vI a0.kept), (sL Za z6.2), (sL Za z13.2)]⟩)) n [none, none, some (oR 68 14 Zg z13.1), none, none, none])) (n0 := (n + 6)) ?_ ?_
 ·refine Gj [0, 48] hi0 hk0 ?_
  refine Zs (t := (decide (0 < (a0.come.length : Int)))) rfl (fun c19 => ?_) (fun c19 => ?_)
  ·replace hz13 := Zr c19 hz13
   refine Zgb ⟨73, [], [(0, .ref i0 0)]⟩ (Zv ((((O.upd j0_0 none).upd j0_1 none).upd j0_2 none).upd i0 (some ⟨false, 82, 4, 1, [.row (n + 2) z6.1.length, (vI a0.kept), (sL Za z6.2), (sL Za a0.come)]⟩)) n [none, none, some (oR 68 14 Zg z6.1), none, none]) (Z9 hU rfl rfl ?_) ?_
   ·exact X3 hi0 hk0
   obtain ⟨l16, pl16, ql16, el16, hz13⟩ := bA (k := 1) rfl hz13
   obtain ⟨x17, hx17, ax17, bx17, cx17, hz13⟩ := bE (f := Zg) Zhg (fun _ => rfl) (by decide) hz13
   have gu18 : Kc (fl Zg z6.1 ++ [.val (.int .i64 0), .val (.int .i64 0), .val (.slice none 0 0), .val (.int .i64 0), .val (.int .i64 0), .val (.slice none 0 0), .val (.slice none 0 0), .val (.int .i64 0), .val (.slice none 0 0), .val (.slice none 0 0), .val (.slice none 0 0), .val (.slice none 0 0), .val (.int .i64 0), .val (.slice none 0 0)]) [.val (.int .i64 2), .val (.int .i64 0), .sl a0.come.length (fl Za a0.come), .val (.int .i64 0), .val (.int .i64 0), .val (.slice none 0 0), .val (.slice none 0 0), .val (.int .i64 0), .val (.slice none 0 0), .val (.slice none 0 0), .val (.slice none 0 0), .val (.slice none 0 0), .val (.int .i64 0), .val (.slice none 0 0)] (List.length z6.1 * 14) = some (fl Zg z6.1 ++ [.val (.int .i64 2), .val (.int .i64 0), .sl a0.come.length (fl Za a0.come), .val (.int .i64 0), .val (.int .i64 0), .val (.slice none 0 0), .val (.slice none 0 0), .val (.int .i64 0), .val (.slice none 0 0), .val (.slice none 0 0), .val (.slice none 0 0), .val (.slice none 0 0), .val (.int .i64 0), .val (.slice none 0 0)]) := Zc5 (f := Zg) (sz := 14) (fun _ => rfl) rfl rfl
   refine Uq Z0 (by kernel_rfl) [.plain, .low, .low, .low, .plain, .low, .low, .low, .plain, .low, .pass, .bar, .shp, .fill true, .shp, .shp, .fill false] (fun i => i < (n + 5)) [0, 1, 2, 3, 4, 5, 6, 7, 8, 9, 10, 11, 12, 13, 14, 15, 16] [.plain, .low, .low, .low, .plain, .low, .low, .low, .plain, .low, .pass, .bar, .shp, .fill true, .shp, .shp, .fill false] [] (by kernel_rfl) rfl ?_
   refine zF9 pl16 ql16 el16 ax17 bx17 cx17 gu18 hi0 hk0 ?_
   refine zO ?_
   obtain rfl := sI hz13
   refine And.intro rfl (Fit2.of (Z9 hU rfl rfl ?_) (by omega))
   exact Z3w pl16 ql16 el16 ax17 bx17 cx17 gu18 hi0 hk0
  replace hz13 := Zq c19 hz13
  refine zK ?_
  obtain rfl := sI hz13
  refine And.intro rfl (Fit2.of (Z9 hU rfl rfl ?_) (by omega))
  exact X3 hi0 hk0
 refine J5 [] hi0 hk0 ?_
 obtain rfl := sI h
 refine X7 (k := 3) (i := i0) (q1 := ⟨false, 82, 4, 1, [.row (n + 2) z13.1.length, (vI 0), .row n ([] : List Zb).length, .row (n + 1) ([] : List Zb).length]⟩) (L3 := [some (oR 25 3 Za ([] : List Zb)), some (oR 25 3 Za ([] : List Zb)), some (oR 68 14 Zg z13.1), none]) (E2 := (⟨73, [], []⟩ : Env)) (n3 := (n + 4)) (.inl rfl) hU rfl [] ?_ ?_
 ·refine Fit2.trans (E' := (⟨73, [], []⟩ : Env)) (O' := (Zv ((((O.upd j0_0 none).upd j0_1 none).upd j0_2 none).upd i0 (some ⟨false, 82, 4, 1, [.row (n + 2) z13.1.length, (vI 0), nV, nV]⟩)) n [none, none, some (oR 68 14 Zg z13.1), none, none, none])) (n' := (n + 6)) (Fit2.of (Z9 hU rfl rfl ?_) (by omega)) ?_
  ·exact X3 hi0 hk0
  refine Fit2.trans (Va (p := i0) (k := 2) (q := ⟨false, 82, 4, 1, [.row (n + 2) z13.1.length, (vI 0), nV, nV]⟩) 25 3 (by simp only [Kl, Vq, List.getElem?_cons_zero, List.getElem?_cons_succ, Option.join_some, List.length_nil, Z4, Z6, hi0, hk0, hN0, hN]) rfl (by omega)) ?_
  simp only [Yo, Yc, Vr, Ka, List.set_cons_zero, List.set_cons_succ, List.cons_append, List.nil_append, List.length_cons, List.length_nil, Nat.zero_add, Nat.reduceAdd, Nat.reduceLT, Nat.add_assoc, Z8, Xd, hi0, hk0, hN0, hN]
  refine Fit2.trans (Va (p := i0) (k := 3) (q := ⟨false, 82, 4, 1, [.row (n + 2) z13.1.length, (vI 0), .row (n + 6) ([] : List Zb).length, nV]⟩) 25 3 (by simp only [Kl, Vq, List.getElem?_cons_zero, List.getElem?_cons_succ, Option.join_some, List.length_nil, Z4, Z6, hi0, hk0, hN0, hN]) rfl (by omega)) ?_
  simp only [Yo, Yc, Vr, Ka, List.set_cons_zero, List.set_cons_succ, List.cons_append, List.nil_append, List.length_cons, List.length_nil, Nat.zero_add, Nat.reduceAdd, Nat.reduceLT, Nat.add_assoc, Z8, Xd, hi0, hk0, hN0, hN]
  refine Xc (k := 8) (k' := 4) hU [3, 3, 2, 3, 3, 3, 0, 1] [6, 7, 2, 0] rfl rfl rfl rfl ⟨rfl, rfl⟩ ?_
  exact X3 hi0 hk0
 simp only [push_cast, seval, ↓reduceIte, Zf, Try.results59, hi0, hk0, hN0, hN]
theorem Zhr {a0 : Zx} {a1 : Int} {r : Zx} {O : Objs} {n : Nat} {i0 j0_0 j0_1 j0_2 : Nat} (hi0 : i0 < n) (Ji : j0_0 < n) (Gp : j0_1 < n) (Zkf : j0_2 < n) (Xy : i0 ≠ j0_0) (Qk : i0 ≠ j0_1) (Zdc : i0 ≠ j0_2) (Qj : j0_0 ≠ j0_1) (Zda : j0_0 ≠ j0_2) (Zdb : j0_1 ≠ j0_2) (ho0 : O i0 = some ⟨false, 82, 4, 1, [.row j0_2 a0.out.length, (vI a0.kept), .row j0_0 a0.gone.length, .row j0_1 a0.come.length]⟩) (Js : O j0_0 = some (oR 25 3 Za a0.gone)) (Zcd : O j0_1 = some (oR 25 3 Za a0.come)) (Zma : O j0_2 = some (oR 68 14 Zg a0.out)) (h : Kv a0 a1 = some r) : GTo Try.prog 56 [.ref i0 0, (vI a1)] O n (.tup []) (Zv ((((O.upd j0_0 none).upd j0_1 none).upd j0_2 none).upd i0 (some ⟨false, 82, 4, 1, [.row (n + 2) r.out.length, (vI r.kept), .row n r.gone.length, .row (n + 1) r.come.length]⟩)) n [some (oR 25 3 Za r.gone), some (oR 25 3 Za r.come), some (oR 68 14 Zg r.out)]) (n + 3) := by
 unfold Kv at h
 refine Zi6 Z0 Try.call56 Try.func56 rfl (Nat.le_of_ble_eq_true rfl) (by omega) fun hU => ?_
 have e0 := X8 (ba := n) (E := ⟨19, [], Zc3 0 [.ref i0 0, .val (.int .i64 a1)]⟩) (O := (Zv O n [])) (n := n) (i := i0) (j := j0_0) (k := 2) (len := a0.gone.length) (q := ⟨false, 82, 4, 1, [.row j0_2 a0.out.length, .val (.int .i64 a0.kept), .row j0_0 a0.gone.length, .row j0_1 a0.come.length]⟩) (qj := ⟨true, 25, 3, a0.gone.length, fl Za a0.gone⟩) (by rw [Z6 _ hi0]; first | exact ho0 | exact Z4 _ _ _) rfl (by rw [Z6 _ Ji]; exact Js) Xy (by omega)
 simp only [Z8 _ _ Ji, Z8 _ _ hi0, Yo, Yc, Xd, K4 Xy, List.set_cons_zero, List.set_cons_succ, List.cons_append, List.nil_append, List.length_cons, List.length_nil, Nat.zero_add, Nat.reduceAdd, Nat.add_assoc] at e0
 refine Qc e0 ?_
 have e1 := X8 (ba := n) (E := ⟨19, [], Zc3 0 [.ref i0 0, .val (.int .i64 a1)]⟩) (O := (Zv ((O.upd j0_0 none).upd i0 (some ⟨false, 82, 4, 1, [.row j0_2 a0.out.length, .val (.int .i64 a0.kept), .row n a0.gone.length, .row j0_1 a0.come.length]⟩)) n [some ⟨true, 25, 3, a0.gone.length, fl Za a0.gone⟩])) (n := (n + 1)) (i := i0) (j := j0_1) (k := 3) (len := a0.come.length) (q := ⟨false, 82, 4, 1, [.row j0_2 a0.out.length, .val (.int .i64 a0.kept), .row n a0.gone.length, .row j0_1 a0.come.length]⟩) (qj := ⟨true, 25, 3, a0.come.length, fl Za a0.come⟩) (by rw [Z6 _ hi0]; first | exact ho0 | exact Z4 _ _ _) rfl (by rw [Z6 _ Gp, Yp _ _ (Ne.symm Qk), Yp _ _ (Ne.symm Qj)]; exact Zcd) Qk (by omega)
 simp only [Z8 _ _ Gp, Z8 _ _ hi0, Yo, Yc, Xd, K4 Qk, List.set_cons_zero, List.set_cons_succ, List.cons_append, List.nil_append, List.length_cons, List.length_nil, Nat.zero_add, Nat.reduceAdd, Nat.add_assoc] at e1
 refine Qc e1 ?_
 have e2 := X8 (ba := n) (E := ⟨19, [], Zc3 0 [.ref i0 0, .val (.int .i64 a1)]⟩) (O := (Zv (((O.upd j0_0 none).upd j0_1 none).upd i0 (some ⟨false, 82, 4, 1, [.row j0_2 a0.out.length, .val (.int .i64 a0.kept), .row n a0.gone.length, .row (n + 1) a0.come.length]⟩)) n [some ⟨true, 25, 3, a0.gone.length, fl Za a0.gone⟩, some ⟨true, 25, 3, a0.come.length, fl Za a0.come⟩])) (n := (n + 2)) (i := i0) (j := j0_2) (k := 0) (len := a0.out.length) (q := ⟨false, 82, 4, 1, [.row j0_2 a0.out.length, .val (.int .i64 a0.kept), .row n a0.gone.length, .row (n + 1) a0.come.length]⟩) (qj := ⟨true, 68, 14, a0.out.length, fl Zg a0.out⟩) (by rw [Z6 _ hi0]; first | exact ho0 | exact Z4 _ _ _) rfl (by rw [Z6 _ Zkf, Yp _ _ (Ne.symm Zdc), Yp _ _ (Ne.symm Zdb), Yp _ _ (Ne.symm Zda)]; exact Zma) Zdc (by omega)
 simp only [Z8 _ _ Zkf, Z8 _ _ hi0, Yo, Yc, Xd, K4 Zdc, List.set_cons_zero, List.set_cons_succ, List.cons_append, List.nil_append, List.length_cons, List.length_nil, Nat.zero_add, Nat.reduceAdd, Nat.add_assoc] at e2
 refine Qc e2 ?_
 have hU := (Und.drop (Und.drop (Und.drop hU j0_0) j0_1) j0_2)
 have hk0 : ∀ k, i0 < n + k := fun k => by omega
 have hN0 : ∀ o, Objs.upd (((O.upd j0_0 none).upd j0_1 none).upd j0_2 none) i0 o n = none := fun o => Xr hU hi0 _ (Nat.le_refl _)
 have hN : ∀ o k, Objs.upd (((O.upd j0_0 none).upd j0_1 none).upd j0_2 none) i0 o (n + k) = none := fun o k => Xr hU hi0 _ (Nat.le_add_right _ _)
 show W _ _ _ _ ⟨19, [], [(0, .ref i0 0), (1, (vI a1))]⟩ (Zv ((((O.upd j0_0 none).upd j0_1 none).upd j0_2 none).upd i0 (some ⟨false, 82, 4, 1, [.row (n + 2) a0.out.length, (vI a0.kept), .row n a0.gone.length, .row (n + 1) a0.come.length]⟩)) n [some (oR 25 3 Za a0.gone), some (oR 25 3 Za a0.come), some (oR 68 14 Zg a0.out)]) _
 obtain ⟨z1, hz1, h⟩ := bC h
 refine Y6 (E' := ⟨19, [], [(0, .ref i0 0), (1, (vI a1))]⟩) (O' := (Zv ((((O.upd j0_0 none).upd j0_1 none).upd j0_2 none).upd i0 (some ⟨false, 82, 4, 1, [.row (n + 6) z1.1.length, (vI z1.2.2.2), .row (n + 7) z1.2.1.length, .row (n + 8) z1.2.2.1.length]⟩)) n [none, none, none, none, none, none, some (oR 68 14 Zg z1.1), some (oR 25 3 Za z1.2.1), some (oR 25 3 Za z1.2.2.1)])) (n0 := (n + 9)) ?_ ?_
 ·refine Gj [0, 1, 8] hi0 hk0 ?_
  refine Zs (t := (a0.kept == 0)) rfl (fun c3 => ?_) (fun c3 => ?_)
  ·replace hz1 := Zr c3 hz1
   obtain ⟨y2, hy2, hz1⟩ := bC hz1
   refine J5 [] hi0 hk0 ?_
   refine (Un (i0 := i0) (j0_0 := n) (j0_1 := (n + 1)) (j0_2 := (n + 2)) (by omega) (by omega) (by omega) (by omega) (by omega) (by omega) (by omega) (by omega) (by omega) (by omega) (by simp only [push_cast, seval, ↓reduceIte, Zf, Z5, hi0, hk0, hN0, hN] <;> rfl) (by simp only [push_cast, seval, ↓reduceIte, Zf, Z5, hi0, hk0, hN0, hN] <;> rfl) (by simp only [push_cast, seval, ↓reduceIte, Zf, Z5, hi0, hk0, hN0, hN] <;> rfl) (by simp only [push_cast, seval, ↓reduceIte, Zf, Z5, hi0, hk0, hN0, hN] <;> rfl) hy2).then ?_
   refine zX2 hi0 hk0 ?_
   obtain rfl := sI hz1
   refine And.intro rfl ?_
   refine Fit2.trans (E' := (⟨19, [], [(0, .ref i0 0), (1, (vI a1))]⟩ : Env)) (O' := (Zv ((((O.upd j0_0 none).upd j0_1 none).upd j0_2 none).upd i0 (some ⟨false, 82, 4, 1, [.row (n + 5) y2.out.length, (vI y2.kept), .row (n + 3) y2.gone.length, .row (n + 4) y2.come.length]⟩)) n [none, none, none, some (oR 25 3 Za y2.gone), some (oR 25 3 Za y2.come), some (oR 68 14 Zg y2.out)])) (n' := (n + 6)) (Fit2.of (Z9 hU rfl rfl ?_) (by omega)) ?_
   ·exact X3 hi0 hk0
   refine Xc (k := 6) (k' := 9) hU [5, 5, 5, 7, 8, 6] [0, 0, 0, 0, 0, 0, 5, 3, 4] rfl rfl rfl rfl ⟨rfl, rfl⟩ ?_
   exact X3 hi0 hk0
  replace hz1 := Zq c3 hz1
  refine zK ?_
  obtain rfl := sI hz1
  refine And.intro rfl ?_
  refine Fit2.trans (E' := (⟨19, [], [(0, .ref i0 0), (1, (vI a1))]⟩ : Env)) (O' := (Zv ((((O.upd j0_0 none).upd j0_1 none).upd j0_2 none).upd i0 (some ⟨false, 82, 4, 1, [.row (n + 2) a0.out.length, (vI a0.kept), .row n a0.gone.length, .row (n + 1) a0.come.length]⟩)) n [some (oR 25 3 Za a0.gone), some (oR 25 3 Za a0.come), some (oR 68 14 Zg a0.out)])) (n' := (n + 3)) (Fit2.of (Z9 hU rfl rfl ?_) (by omega)) ?_
  ·exact X3 hi0 hk0
  refine Xc (k := 3) (k' := 9) hU [7, 8, 6] [0, 0, 0, 0, 0, 0, 2, 0, 1] rfl rfl rfl rfl ⟨rfl, rfl⟩ ?_
  exact X3 hi0 hk0
 refine J5 [] hi0 hk0 ?_
 obtain rfl := sI h
 refine X7 (k := 3) (i := i0) (q1 := ⟨false, 82, 4, 1, [.row (n + 2) z1.1.length, (vI (IntKind.i64.wrap (z1.2.2.2 + a1))), .row n z1.2.1.length, .row (n + 1) z1.2.2.1.length]⟩) (L3 := [some (oR 25 3 Za z1.2.1), some (oR 25 3 Za z1.2.2.1), some (oR 68 14 Zg z1.1), none]) (E2 := (⟨19, [], []⟩ : Env)) (n3 := (n + 4)) (.inl rfl) hU rfl [] ?_ ?_
 ·refine Fit2.trans (E' := (⟨19, [], []⟩ : Env)) (O' := (Zv ((((O.upd j0_0 none).upd j0_1 none).upd j0_2 none).upd i0 (some ⟨false, 82, 4, 1, [.row (n + 6) z1.1.length, (vI (IntKind.i64.wrap (z1.2.2.2 + a1))), .row (n + 7) z1.2.1.length, .row (n + 8) z1.2.2.1.length]⟩)) n [none, none, none, none, none, none, some (oR 68 14 Zg z1.1), some (oR 25 3 Za z1.2.1), some (oR 25 3 Za z1.2.2.1)])) (n' := (n + 9)) (Fit2.of (Z9 hU rfl rfl ?_) (by omega)) ?_
  ·exact X3 hi0 hk0
  refine Xc (k := 9) (k' := 4) hU [3, 3, 3, 3, 3, 3, 2, 0, 1] [7, 8, 6, 0] rfl rfl rfl rfl ⟨rfl, rfl⟩ ?_
  exact X3 hi0 hk0
 simp only [push_cast, seval, ↓reduceIte, Zf, Try.results56, hi0, hk0, hN0, hN]
theorem Zj3 {a0 : Zx} {a2 : (List Zb)} {r : Zx} {O : Objs} {n : Nat} {i0 j0_0 j0_1 j0_2 : Nat} (hi0 : i0 < n) (Ji : j0_0 < n) (Gp : j0_1 < n) (Zkf : j0_2 < n) (Xy : i0 ≠ j0_0) (Qk : i0 ≠ j0_1) (Zdc : i0 ≠ j0_2) (Qj : j0_0 ≠ j0_1) (Zda : j0_0 ≠ j0_2) (Zdb : j0_1 ≠ j0_2) (ho0 : O i0 = some ⟨false, 82, 4, 1, [.row j0_2 a0.out.length, (vI a0.kept), .row j0_0 a0.gone.length, .row j0_1 a0.come.length]⟩) (Js : O j0_0 = some (oR 25 3 Za a0.gone)) (Zcd : O j0_1 = some (oR 25 3 Za a0.come)) (Zma : O j0_2 = some (oR 68 14 Zg a0.out)) (h : Ke a0 a2 = some r) : GTo Try.prog 57 [.ref i0 0, .ref i0 2, (sL Za a2)] O n (.tup []) (Zv ((((O.upd j0_0 none).upd j0_1 none).upd j0_2 none).upd i0 (some ⟨false, 82, 4, 1, [.row (n + 2) r.out.length, (vI r.kept), .row n r.gone.length, .row (n + 1) r.come.length]⟩)) n [some (oR 25 3 Za r.gone), some (oR 25 3 Za r.come), some (oR 68 14 Zg r.out)]) (n + 3) := by
 unfold Ke at h
 refine Zi6 Z0 Try.call57 Try.func57 rfl (Nat.le_of_ble_eq_true rfl) (by omega) fun hU => ?_
 have e0 := X8 (ba := n) (E := ⟨32, [], Zc3 0 [.ref i0 0, .ref i0 2, .sl a2.length (fl Za a2)]⟩) (O := (Zv O n [])) (n := n) (i := i0) (j := j0_0) (k := 2) (len := a0.gone.length) (q := ⟨false, 82, 4, 1, [.row j0_2 a0.out.length, .val (.int .i64 a0.kept), .row j0_0 a0.gone.length, .row j0_1 a0.come.length]⟩) (qj := ⟨true, 25, 3, a0.gone.length, fl Za a0.gone⟩) (by rw [Z6 _ hi0]; first | exact ho0 | exact Z4 _ _ _) rfl (by rw [Z6 _ Ji]; exact Js) Xy (by omega)
 simp only [Z8 _ _ Ji, Z8 _ _ hi0, Yo, Yc, Xd, K4 Xy, List.set_cons_zero, List.set_cons_succ, List.cons_append, List.nil_append, List.length_cons, List.length_nil, Nat.zero_add, Nat.reduceAdd, Nat.add_assoc] at e0
 refine Qc e0 ?_
 have e1 := X8 (ba := n) (E := ⟨32, [], Zc3 0 [.ref i0 0, .ref i0 2, .sl a2.length (fl Za a2)]⟩) (O := (Zv ((O.upd j0_0 none).upd i0 (some ⟨false, 82, 4, 1, [.row j0_2 a0.out.length, .val (.int .i64 a0.kept), .row n a0.gone.length, .row j0_1 a0.come.length]⟩)) n [some ⟨true, 25, 3, a0.gone.length, fl Za a0.gone⟩])) (n := (n + 1)) (i := i0) (j := j0_1) (k := 3) (len := a0.come.length) (q := ⟨false, 82, 4, 1, [.row j0_2 a0.out.length, .val (.int .i64 a0.kept), .row n a0.gone.length, .row j0_1 a0.come.length]⟩) (qj := ⟨true, 25, 3, a0.come.length, fl Za a0.come⟩) (by rw [Z6 _ hi0]; first | exact ho0 | exact Z4 _ _ _) rfl (by rw [Z6 _ Gp, Yp _ _ (Ne.symm Qk), Yp _ _ (Ne.symm Qj)]; exact Zcd) Qk (by omega)
 simp only [Z8 _ _ Gp, Z8 _ _ hi0, Yo, Yc, Xd, K4 Qk, List.set_cons_zero, List.set_cons_succ, List.cons_append, List.nil_append, List.length_cons, List.length_nil, Nat.zero_add, Nat.reduceAdd, Nat.add_assoc] at e1
 refine Qc e1 ?_
 have e2 := X8 (ba := n) (E := ⟨32, [], Zc3 0 [.ref i0 0, .ref i0 2, .sl a2.length (fl Za a2)]⟩) (O := (Zv (((O.upd j0_0 none).upd j0_1 none).upd i0 (some ⟨false, 82, 4, 1, [.row j0_2 a0.out.length, .val (.int .i64 a0.kept), .row n a0.gone.length, .row (n + 1) a0.come.length]⟩)) n [some ⟨true, 25, 3, a0.gone.length, fl Za a0.gone⟩, some ⟨true, 25, 3, a0.come.length, fl Za a0.come⟩])) (n := (n + 2)) (i := i0) (j := j0_2) (k := 0) (len := a0.out.length) (q := ⟨false, 82, 4, 1, [.row j0_2 a0.out.length, .val (.int .i64 a0.kept), .row n a0.gone.length, .row (n + 1) a0.come.length]⟩) (qj := ⟨true, 68, 14, a0.out.length, fl Zg a0.out⟩) (by rw [Z6 _ hi0]; first | exact ho0 | exact Z4 _ _ _) rfl (by rw [Z6 _ Zkf, Yp _ _ (Ne.symm Zdc), Yp _ _ (Ne.symm Zdb), Yp _ _ (Ne.symm Zda)]; exact Zma) Zdc (by omega)
 simp only [Z8 _ _ Zkf, Z8 _ _ hi0, Yo, Yc, Xd, K4 Zdc, List.set_cons_zero, List.set_cons_succ, List.cons_append, List.nil_append, List.length_cons, List.length_nil, Nat.zero_add, Nat.reduceAdd, Nat.add_assoc] at e2
 refine Qc e2 ?_
 have hU := (Und.drop (Und.drop (Und.drop hU j0_0) j0_1) j0_2)
 have hk0 : ∀ k, i0 < n + k := fun k => by omega
 have hN0 : ∀ o, Objs.upd (((O.upd j0_0 none).upd j0_1 none).upd j0_2 none) i0 o n = none := fun o => Xr hU hi0 _ (Nat.le_refl _)
 have hN : ∀ o k, Objs.upd (((O.upd j0_0 none).upd j0_1 none).upd j0_2 none) i0 o (n + k) = none := fun o k => Xr hU hi0 _ (Nat.le_add_right _ _)
 show W _ _ _ _ ⟨32, [], [(0, .ref i0 0), (1, .ref i0 2), (2, (sL Za a2))]⟩ (Zv ((((O.upd j0_0 none).upd j0_1 none).upd j0_2 none).upd i0 (some ⟨false, 82, 4, 1, [.row (n + 2) a0.out.length, (vI a0.kept), .row n a0.gone.length, .row (n + 1) a0.come.length]⟩)) n [some (oR 25 3 Za a0.gone), some (oR 25 3 Za a0.come), some (oR 68 14 Zg a0.out)]) _
 obtain ⟨z1, hz1, h⟩ := bC h
 refine Y6 (E' := ⟨32, [], [(1, .ref i0 2), (2, (sL Za a2))]⟩) (O' := (Zv ((((O.upd j0_0 none).upd j0_1 none).upd j0_2 none).upd i0 (some ⟨false, 82, 4, 1, [.row (n + 6) z1.1.length, (vI z1.2.2.2), .row (n + 7) z1.2.1.length, .row (n + 8) z1.2.2.1.length]⟩)) n [none, none, none, none, none, none, some (oR 68 14 Zg z1.1), some (oR 25 3 Za z1.2.1), some (oR 25 3 Za z1.2.2.1)])) (n0 := (n + 9)) ?_ ?_
 ·refine Gj [0, 1, 2, 12] hi0 hk0 ?_
  refine Zs (t := (decide (0 < a0.kept))) rfl (fun c3 => ?_) (fun c3 => ?_)
  ·replace hz1 := Zr c3 hz1
   obtain ⟨y2, hy2, hz1⟩ := bC hz1
   refine J5 [] hi0 hk0 ?_
   refine (Un (i0 := i0) (j0_0 := n) (j0_1 := (n + 1)) (j0_2 := (n + 2)) (by omega) (by omega) (by omega) (by omega) (by omega) (by omega) (by omega) (by omega) (by omega) (by omega) (by simp only [push_cast, seval, ↓reduceIte, Zf, Z5, hi0, hk0, hN0, hN] <;> rfl) (by simp only [push_cast, seval, ↓reduceIte, Zf, Z5, hi0, hk0, hN0, hN] <;> rfl) (by simp only [push_cast, seval, ↓reduceIte, Zf, Z5, hi0, hk0, hN0, hN] <;> rfl) (by simp only [push_cast, seval, ↓reduceIte, Zf, Z5, hi0, hk0, hN0, hN] <;> rfl) hy2).then ?_
   refine zX2 hi0 hk0 ?_
   obtain rfl := sI hz1
   refine And.intro rfl ?_
   refine Fit2.trans (E' := (⟨32, [], [(1, .ref i0 2), (2, (sL Za a2))]⟩ : Env)) (O' := (Zv ((((O.upd j0_0 none).upd j0_1 none).upd j0_2 none).upd i0 (some ⟨false, 82, 4, 1, [.row (n + 5) y2.out.length, (vI y2.kept), .row (n + 3) y2.gone.length, .row (n + 4) y2.come.length]⟩)) n [none, none, none, some (oR 25 3 Za y2.gone), some (oR 25 3 Za y2.come), some (oR 68 14 Zg y2.out)])) (n' := (n + 6)) (Fit2.of (Z9 hU rfl rfl ?_) (by omega)) ?_
   ·exact X3 hi0 hk0
   refine Xc (k := 6) (k' := 9) hU [5, 5, 5, 7, 8, 6] [0, 0, 0, 0, 0, 0, 5, 3, 4] rfl rfl rfl rfl ⟨rfl, rfl⟩ ?_
   exact X3 hi0 hk0
  replace hz1 := Zq c3 hz1
  refine zK ?_
  obtain rfl := sI hz1
  refine And.intro rfl ?_
  refine Fit2.trans (E' := (⟨32, [], [(1, .ref i0 2), (2, (sL Za a2))]⟩ : Env)) (O' := (Zv ((((O.upd j0_0 none).upd j0_1 none).upd j0_2 none).upd i0 (some ⟨false, 82, 4, 1, [.row (n + 2) a0.out.length, (vI a0.kept), .row n a0.gone.length, .row (n + 1) a0.come.length]⟩)) n [some (oR 25 3 Za a0.gone), some (oR 25 3 Za a0.come), some (oR 68 14 Zg a0.out)])) (n' := (n + 3)) (Fit2.of (Z9 hU rfl rfl ?_) (by omega)) ?_
  ·exact X3 hi0 hk0
  refine Xc (k := 3) (k' := 9) hU [7, 8, 6] [0, 0, 0, 0, 0, 0, 2, 0, 1] rfl rfl rfl rfl ⟨rfl, rfl⟩ ?_
  exact X3 hi0 hk0
 refine Gj [1, 15, 16, 17] hi0 hk0 ?_
 refine zD [1, 15, 16, 17] [false, false, false, false, false, false, true, true, true] ?_
 obtain ⟨z11, hz11, h⟩ := bC h
 refine Yu (E' := ⟨32, [], []⟩) (O' := (Zv ((((O.upd j0_0 none).upd j0_1 none).upd j0_2 none).upd i0 (some ⟨false, 82, 4, 1, [.row (n + 6) z1.1.length, (vI z1.2.2.2), .row (n + 7) z11.length, .row (n + 8) z1.2.2.1.length]⟩)) n [none, none, none, none, none, none, some (oR 68 14 Zg z1.1), some (oR 25 3 Za z11), some (oR 25 3 Za z1.2.2.1)])) (n0 := (n + 9)) ?_ ?_
 ·refine Y9 hz11 (fun s0_ => ⟨32, [], [(1, .ref i0 2), (15, (sL Za a2)), (16, (vI (a2.length : Int))), (17, (vI s0_.1))]⟩) (fun s0_ => (Zv ((((O.upd j0_0 none).upd j0_1 none).upd j0_2 none).upd i0 (some ⟨false, 82, 4, 1, [.row (n + 6) z1.1.length, (vI z1.2.2.2), .row (n + 7) s0_.2.length, .row (n + 8) z1.2.2.1.length]⟩)) n [none, none, none, none, none, none, some (oR 68 14 Zg z1.1), some (oR 25 3 Za s0_.2), some (oR 25 3 Za z1.2.2.1)])) (fun z11 => JX 0 n (⟨32, [], []⟩ : Env) (Zv ((((O.upd j0_0 none).upd j0_1 none).upd j0_2 none).upd i0 (some ⟨false, 82, 4, 1, [.row (n + 6) z1.1.length, (vI z1.2.2.2), .row (n + 7) z11.length, .row (n + 8) z1.2.2.1.length]⟩)) n [none, none, none, none, none, none, some (oR 68 14 Zg z1.1), some (oR 25 3 Za z11), some (oR 25 3 Za z1.2.2.1)]) (n + 9)) ?_
  intro s0_ x0_ hs0_
  unfold Q7 at hs0_
  try dsimp only
  refine Gj [1, 15, 16, 17, 18] hi0 hk0 ?_
  refine Zl ?_
  refine Zs (t := (decide (s0_.1 < (a2.length : Int)))) rfl (fun c10 => ?_) (fun c10 => ?_)
  ·replace hs0_ := Zr c10 hs0_
   refine Jq [1, 15, 16, 17] [false, false, false, false, false, false, true, true, true] ?_
   refine Zl ?_
   refine Yl ?_
   refine Zl ?_
   obtain ⟨x5, hx5, ax5, bx5, cx5, hs0_⟩ := bE (f := Za) Up (fun _ => rfl) (by decide) hs0_
   refine Z8v [] ax5 bx5 cx5 hi0 hk0 ?_
   refine zD [1, 7, 15, 16, 17] [false, false, false, false, false, false, true, true, true, true] ?_
   obtain ⟨y6, hy6, hs0_⟩ := bC hs0_
   obtain ⟨l7, pl7, ql7, el7, hs0_⟩ := bA (k := 1) rfl hs0_
   obtain ⟨x8, hx8, ax8, bx8, cx8, hs0_⟩ := bE (f := Za) Up (fun _ => rfl) (by decide) hs0_
   have gu9 : Kc (fl Za s0_.2 ++ [.val (.int .i64 0), .val (.slice none 0 0), .val (.slice none 0 0)]) [.val (.int .i64 y6.Kind), .sl y6.Words.length (fl (eI .u64) y6.Words), .sl y6.Kids.length (fl Za y6.Kids)] (List.length s0_.2 * 3) = some (fl Za s0_.2 ++ [.val (.int .i64 y6.Kind), .sl y6.Words.length (fl (eI .u64) y6.Words), .sl y6.Kids.length (fl Za y6.Kids)]) := Zc5 (f := Za) (sz := 3) (fun _ => rfl) rfl rfl
   refine Uq Z0 (by kernel_rfl) [.plain, .low, .low, .low, .low, .low, .pass, .bar, .shp, .fill true, .shp, .fill false] (fun i => i < (n + 10)) [0, 1, 2, 3, 4, 5, 6, 7, 8, 9, 10, 11] [.plain, .low, .low, .low, .low, .low, .pass, .bar, .shp, .fill true, .shp, .fill false] [] (by kernel_rfl) rfl ?_
   refine zF9 pl7 ql7 el7 ax8 bx8 cx8 gu9 hi0 hk0 ?_
   refine zO ?_
   first | refine PCallA.of (fun _ _ => Zbv hy6) ?_ | refine PCall.of (Zbv hy6) ?_
   refine zF9 pl7 ql7 el7 ax8 bx8 cx8 gu9 hi0 hk0 ?_
   refine zO ?_
   refine Zgb ⟨32, [], [(1, .ref i0 2), (15, (sL Za a2)), (16, (vI (a2.length : Int))), (17, (vI s0_.1))]⟩ (Zv ((((O.upd j0_0 none).upd j0_1 none).upd j0_2 none).upd i0 (some ⟨false, 82, 4, 1, [.row (n + 6) z1.1.length, (vI z1.2.2.2), .row (n + 7) (s0_.2 ++ [y6]).length, .row (n + 8) z1.2.2.1.length]⟩)) n [none, none, none, none, none, none, some (oR 68 14 Zg z1.1), some (oR 25 3 Za (s0_.2 ++ [y6])), some (oR 25 3 Za z1.2.2.1), none, none]) (Z9 hU rfl rfl ?_) ?_
   ·exact Z3w pl7 ql7 el7 ax8 bx8 cx8 gu9 hi0 hk0
   refine J5 [] hi0 hk0 ?_
   obtain rfl := sI hs0_
   refine And.intro rfl (Fit2.of (Z9 hU rfl rfl ?_) (by omega))
   exact X3 hi0 hk0
  replace hs0_ := Zq c10 hs0_
  refine zXt ?_
  obtain rfl := sI hs0_
  refine And.intro (fun h => by cases h) (And.intro rfl (Fit2.of (Z9 hU rfl rfl ?_) (by omega)))
  exact X3 hi0 hk0
 try simp only [Y2, Ye, ↓reduceIte, Nat.reduceEqDiff]
 obtain rfl := sI h
 refine X7 (k := 3) (i := i0) (q1 := ⟨false, 82, 4, 1, [.row (n + 2) z1.1.length, (vI z1.2.2.2), .row n z11.length, .row (n + 1) z1.2.2.1.length]⟩) (L3 := [some (oR 25 3 Za z11), some (oR 25 3 Za z1.2.2.1), some (oR 68 14 Zg z1.1), none]) (E2 := (⟨32, [], []⟩ : Env)) (n3 := (n + 4)) (.inl rfl) hU rfl [] ?_ ?_
 ·refine Fit2.trans (E' := (⟨32, [], []⟩ : Env)) (O' := (Zv ((((O.upd j0_0 none).upd j0_1 none).upd j0_2 none).upd i0 (some ⟨false, 82, 4, 1, [.row (n + 6) z1.1.length, (vI z1.2.2.2), .row (n + 7) z11.length, .row (n + 8) z1.2.2.1.length]⟩)) n [none, none, none, none, none, none, some (oR 68 14 Zg z1.1), some (oR 25 3 Za z11), some (oR 25 3 Za z1.2.2.1)])) (n' := (n + 9)) (Fit2.of (Z9 hU rfl rfl ?_) (by omega)) ?_
  ·exact X3 hi0 hk0
  refine Xc (k := 9) (k' := 4) hU [3, 3, 3, 3, 3, 3, 2, 0, 1] [7, 8, 6, 0] rfl rfl rfl rfl ⟨rfl, rfl⟩ ?_
  exact X3 hi0 hk0
 simp only [push_cast, seval, ↓reduceIte, Zf, Try.results57, hi0, hk0, hN0, hN]
theorem Zj4 {a0 : Zx} {a2 : (List Zb)} {r : Zx} {O : Objs} {n : Nat} {i0 j0_0 j0_1 j0_2 : Nat} (hi0 : i0 < n) (Ji : j0_0 < n) (Gp : j0_1 < n) (Zkf : j0_2 < n) (Xy : i0 ≠ j0_0) (Qk : i0 ≠ j0_1) (Zdc : i0 ≠ j0_2) (Qj : j0_0 ≠ j0_1) (Zda : j0_0 ≠ j0_2) (Zdb : j0_1 ≠ j0_2) (ho0 : O i0 = some ⟨false, 82, 4, 1, [.row j0_2 a0.out.length, (vI a0.kept), .row j0_0 a0.gone.length, .row j0_1 a0.come.length]⟩) (Js : O j0_0 = some (oR 25 3 Za a0.gone)) (Zcd : O j0_1 = some (oR 25 3 Za a0.come)) (Zma : O j0_2 = some (oR 68 14 Zg a0.out)) (h : Kf a0 a2 = some r) : GTo Try.prog 57 [.ref i0 0, .ref i0 3, (sL Za a2)] O n (.tup []) (Zv ((((O.upd j0_0 none).upd j0_1 none).upd j0_2 none).upd i0 (some ⟨false, 82, 4, 1, [.row (n + 2) r.out.length, (vI r.kept), .row n r.gone.length, .row (n + 1) r.come.length]⟩)) n [some (oR 25 3 Za r.gone), some (oR 25 3 Za r.come), some (oR 68 14 Zg r.out)]) (n + 3) := by
 unfold Kf at h
 refine Zi6 Z0 Try.call57 Try.func57 rfl (Nat.le_of_ble_eq_true rfl) (by omega) fun hU => ?_
 have e0 := X8 (ba := n) (E := ⟨32, [], Zc3 0 [.ref i0 0, .ref i0 3, .sl a2.length (fl Za a2)]⟩) (O := (Zv O n [])) (n := n) (i := i0) (j := j0_0) (k := 2) (len := a0.gone.length) (q := ⟨false, 82, 4, 1, [.row j0_2 a0.out.length, .val (.int .i64 a0.kept), .row j0_0 a0.gone.length, .row j0_1 a0.come.length]⟩) (qj := ⟨true, 25, 3, a0.gone.length, fl Za a0.gone⟩) (by rw [Z6 _ hi0]; first | exact ho0 | exact Z4 _ _ _) rfl (by rw [Z6 _ Ji]; exact Js) Xy (by omega)
 simp only [Z8 _ _ Ji, Z8 _ _ hi0, Yo, Yc, Xd, K4 Xy, List.set_cons_zero, List.set_cons_succ, List.cons_append, List.nil_append, List.length_cons, List.length_nil, Nat.zero_add, Nat.reduceAdd, Nat.add_assoc] at e0
 refine Qc e0 ?_
 have e1 := X8 (ba := n) (E := ⟨32, [], Zc3 0 [.ref i0 0, .ref i0 3, .sl a2.length (fl Za a2)]⟩) (O := (Zv ((O.upd j0_0 none).upd i0 (some ⟨false, 82, 4, 1, [.row j0_2 a0.out.length, .val (.int .i64 a0.kept), .row n a0.gone.length, .row j0_1 a0.come.length]⟩)) n [some ⟨true, 25, 3, a0.gone.length, fl Za a0.gone⟩])) (n := (n + 1)) (i := i0) (j := j0_1) (k := 3) (len := a0.come.length) (q := ⟨false, 82, 4, 1, [.row j0_2 a0.out.length, .val (.int .i64 a0.kept), .row n a0.gone.length, .row j0_1 a0.come.length]⟩) (qj := ⟨true, 25, 3, a0.come.length, fl Za a0.come⟩) (by rw [Z6 _ hi0]; first | exact ho0 | exact Z4 _ _ _) rfl (by rw [Z6 _ Gp, Yp _ _ (Ne.symm Qk), Yp _ _ (Ne.symm Qj)]; exact Zcd) Qk (by omega)
 simp only [Z8 _ _ Gp, Z8 _ _ hi0, Yo, Yc, Xd, K4 Qk, List.set_cons_zero, List.set_cons_succ, List.cons_append, List.nil_append, List.length_cons, List.length_nil, Nat.zero_add, Nat.reduceAdd, Nat.add_assoc] at e1
 refine Qc e1 ?_
 have e2 := X8 (ba := n) (E := ⟨32, [], Zc3 0 [.ref i0 0, .ref i0 3, .sl a2.length (fl Za a2)]⟩) (O := (Zv (((O.upd j0_0 none).upd j0_1 none).upd i0 (some ⟨false, 82, 4, 1, [.row j0_2 a0.out.length, .val (.int .i64 a0.kept), .row n a0.gone.length, .row (n + 1) a0.come.length]⟩)) n [some ⟨true, 25, 3, a0.gone.length, fl Za a0.gone⟩, some ⟨true, 25, 3, a0.come.length, fl Za a0.come⟩])) (n := (n + 2)) (i := i0) (j := j0_2) (k := 0) (len := a0.out.length) (q := ⟨false, 82, 4, 1, [.row j0_2 a0.out.length, .val (.int .i64 a0.kept), .row n a0.gone.length, .row (n + 1) a0.come.length]⟩) (qj := ⟨true, 68, 14, a0.out.length, fl Zg a0.out⟩) (by rw [Z6 _ hi0]; first | exact ho0 | exact Z4 _ _ _) rfl (by rw [Z6 _ Zkf, Yp _ _ (Ne.symm Zdc), Yp _ _ (Ne.symm Zdb), Yp _ _ (Ne.symm Zda)]; exact Zma) Zdc (by omega)
 simp only [Z8 _ _ Zkf, Z8 _ _ hi0, Yo, Yc, Xd, K4 Zdc, List.set_cons_zero, List.set_cons_succ, List.cons_append, List.nil_append, List.length_cons, List.length_nil, Nat.zero_add, Nat.reduceAdd, Nat.add_assoc] at e2
 refine Qc e2 ?_
 have hU := (Und.drop (Und.drop (Und.drop hU j0_0) j0_1) j0_2)
 have hk0 : ∀ k, i0 < n + k := fun k => by omega
 have hN0 : ∀ o, Objs.upd (((O.upd j0_0 none).upd j0_1 none).upd j0_2 none) i0 o n = none := fun o => Xr hU hi0 _ (Nat.le_refl _)
 have hN : ∀ o k, Objs.upd (((O.upd j0_0 none).upd j0_1 none).upd j0_2 none) i0 o (n + k) = none := fun o k => Xr hU hi0 _ (Nat.le_add_right _ _)
 show W _ _ _ _ ⟨32, [], [(0, .ref i0 0), (1, .ref i0 3), (2, (sL Za a2))]⟩ (Zv ((((O.upd j0_0 none).upd j0_1 none).upd j0_2 none).upd i0 (some ⟨false, 82, 4, 1, [.row (n + 2) a0.out.length, (vI a0.kept), .row n a0.gone.length, .row (n + 1) a0.come.length]⟩)) n [some (oR 25 3 Za a0.gone), some (oR 25 3 Za a0.come), some (oR 68 14 Zg a0.out)]) _
 obtain ⟨z1, hz1, h⟩ := bC h
 refine Y6 (E' := ⟨32, [], [(1, .ref i0 3), (2, (sL Za a2))]⟩) (O' := (Zv ((((O.upd j0_0 none).upd j0_1 none).upd j0_2 none).upd i0 (some ⟨false, 82, 4, 1, [.row (n + 6) z1.1.length, (vI z1.2.2.2), .row (n + 7) z1.2.1.length, .row (n + 8) z1.2.2.1.length]⟩)) n [none, none, none, none, none, none, some (oR 68 14 Zg z1.1), some (oR 25 3 Za z1.2.1), some (oR 25 3 Za z1.2.2.1)])) (n0 := (n + 9)) ?_ ?_
 ·refine Gj [0, 1, 2, 12] hi0 hk0 ?_
  refine Zs (t := (decide (0 < a0.kept))) rfl (fun c3 => ?_) (fun c3 => ?_)
  ·replace hz1 := Zr c3 hz1
   obtain ⟨y2, hy2, hz1⟩ := bC hz1
   refine J5 [] hi0 hk0 ?_
   refine (Un (i0 := i0) (j0_0 := n) (j0_1 := (n + 1)) (j0_2 := (n + 2)) (by omega) (by omega) (by omega) (by omega) (by omega) (by omega) (by omega) (by omega) (by omega) (by omega) (by simp only [push_cast, seval, ↓reduceIte, Zf, Z5, hi0, hk0, hN0, hN] <;> rfl) (by simp only [push_cast, seval, ↓reduceIte, Zf, Z5, hi0, hk0, hN0, hN] <;> rfl) (by simp only [push_cast, seval, ↓reduceIte, Zf, Z5, hi0, hk0, hN0, hN] <;> rfl) (by simp only [push_cast, seval, ↓reduceIte, Zf, Z5, hi0, hk0, hN0, hN] <;> rfl) hy2).then ?_
   refine zX2 hi0 hk0 ?_
   obtain rfl := sI hz1
   refine And.intro rfl ?_
   refine Fit2.trans (E' := (⟨32, [], [(1, .ref i0 3), (2, (sL Za a2))]⟩ : Env)) (O' := (Zv ((((O.upd j0_0 none).upd j0_1 none).upd j0_2 none).upd i0 (some ⟨false, 82, 4, 1, [.row (n + 5) y2.out.length, (vI y2.kept), .row (n + 3) y2.gone.length, .row (n + 4) y2.come.length]⟩)) n [none, none, none, some (oR 25 3 Za y2.gone), some (oR 25 3 Za y2.come), some (oR 68 14 Zg y2.out)])) (n' := (n + 6)) (Fit2.of (Z9 hU rfl rfl ?_) (by omega)) ?_
   ·exact X3 hi0 hk0
   refine Xc (k := 6) (k' := 9) hU [5, 5, 5, 7, 8, 6] [0, 0, 0, 0, 0, 0, 5, 3, 4] rfl rfl rfl rfl ⟨rfl, rfl⟩ ?_
   exact X3 hi0 hk0
  replace hz1 := Zq c3 hz1
  refine zK ?_
  obtain rfl := sI hz1
  refine And.intro rfl ?_
  refine Fit2.trans (E' := (⟨32, [], [(1, .ref i0 3), (2, (sL Za a2))]⟩ : Env)) (O' := (Zv ((((O.upd j0_0 none).upd j0_1 none).upd j0_2 none).upd i0 (some ⟨false, 82, 4, 1, [.row (n + 2) a0.out.length, (vI a0.kept), .row n a0.gone.length, .row (n + 1) a0.come.length]⟩)) n [some (oR 25 3 Za a0.gone), some (oR 25 3 Za a0.come), some (oR 68 14 Zg a0.out)])) (n' := (n + 3)) (Fit2.of (Z9 hU rfl rfl ?_) (by omega)) ?_
  ·exact X3 hi0 hk0
  refine Xc (k := 3) (k' := 9) hU [7, 8, 6] [0, 0, 0, 0, 0, 0, 2, 0, 1] rfl rfl rfl rfl ⟨rfl, rfl⟩ ?_
  exact X3 hi0 hk0
 refine Gj [1, 15, 16, 17] hi0 hk0 ?_
 refine zD [1, 15, 16, 17] [false, false, false, false, false, false, true, true, true] ?_
 obtain ⟨z11, hz11, h⟩ := bC h
 refine Yu (E' := ⟨32, [], []⟩) (O' := (Zv ((((O.upd j0_0 none).upd j0_1 none).upd j0_2 none).upd i0 (some ⟨false, 82, 4, 1, [.row (n + 6) z1.1.length, (vI z1.2.2.2), .row (n + 7) z1.2.1.length, .row (n + 8) z11.length]⟩)) n [none, none, none, none, none, none, some (oR 68 14 Zg z1.1), some (oR 25 3 Za z1.2.1), some (oR 25 3 Za z11)])) (n0 := (n + 9)) ?_ ?_
 ·refine Y9 hz11 (fun s0_ => ⟨32, [], [(1, .ref i0 3), (15, (sL Za a2)), (16, (vI (a2.length : Int))), (17, (vI s0_.1))]⟩) (fun s0_ => (Zv ((((O.upd j0_0 none).upd j0_1 none).upd j0_2 none).upd i0 (some ⟨false, 82, 4, 1, [.row (n + 6) z1.1.length, (vI z1.2.2.2), .row (n + 7) z1.2.1.length, .row (n + 8) s0_.2.length]⟩)) n [none, none, none, none, none, none, some (oR 68 14 Zg z1.1), some (oR 25 3 Za z1.2.1), some (oR 25 3 Za s0_.2)])) (fun z11 => JX 0 n (⟨32, [], []⟩ : Env) (Zv ((((O.upd j0_0 none).upd j0_1 none).upd j0_2 none).upd i0 (some ⟨false, 82, 4, 1, [.row (n + 6) z1.1.length, (vI z1.2.2.2), .row (n + 7) z1.2.1.length, .row (n + 8) z11.length]⟩)) n [none, none, none, none, none, none, some (oR 68 14 Zg z1.1), some (oR 25 3 Za z1.2.1), some (oR 25 3 Za z11)]) (n + 9)) ?_
  intro s0_ x0_ hs0_
  unfold Q8 at hs0_
  try dsimp only
  refine Gj [1, 15, 16, 17, 18] hi0 hk0 ?_
  refine Zl ?_
  refine Zs (t := (decide (s0_.1 < (a2.length : Int)))) rfl (fun c10 => ?_) (fun c10 => ?_)
  ·replace hs0_ := Zr c10 hs0_
   refine Jq [1, 15, 16, 17] [false, false, false, false, false, false, true, true, true] ?_
   refine Zl ?_
   refine Yl ?_
   refine Zl ?_
   obtain ⟨x5, hx5, ax5, bx5, cx5, hs0_⟩ := bE (f := Za) Up (fun _ => rfl) (by decide) hs0_
   refine Z8v [] ax5 bx5 cx5 hi0 hk0 ?_
   refine zD [1, 7, 15, 16, 17] [false, false, false, false, false, false, true, true, true, true] ?_
   obtain ⟨y6, hy6, hs0_⟩ := bC hs0_
   obtain ⟨l7, pl7, ql7, el7, hs0_⟩ := bA (k := 1) rfl hs0_
   obtain ⟨x8, hx8, ax8, bx8, cx8, hs0_⟩ := bE (f := Za) Up (fun _ => rfl) (by decide) hs0_
   have gu9 : Kc (fl Za s0_.2 ++ [.val (.int .i64 0), .val (.slice none 0 0), .val (.slice none 0 0)]) [.val (.int .i64 y6.Kind), .sl y6.Words.length (fl (eI .u64) y6.Words), .sl y6.Kids.length (fl Za y6.Kids)] (List.length s0_.2 * 3) = some (fl Za s0_.2 ++ [.val (.int .i64 y6.Kind), .sl y6.Words.length (fl (eI .u64) y6.Words), .sl y6.Kids.length (fl Za y6.Kids)]) := Zc5 (f := Za) (sz := 3) (fun _ => rfl) rfl rfl
   refine Uq Z0 (by kernel_rfl) [.plain, .low, .low, .low, .low, .low, .pass, .bar, .shp, .fill true, .shp, .fill false] (fun i => i < (n + 10)) [0, 1, 2, 3, 4, 5, 6, 7, 8, 9, 10, 11] [.plain, .low, .low, .low, .low, .low, .pass, .bar, .shp, .fill true, .shp, .fill false] [] (by kernel_rfl) rfl ?_
   refine zF9 pl7 ql7 el7 ax8 bx8 cx8 gu9 hi0 hk0 ?_
   refine zO ?_
   first | refine PCallA.of (fun _ _ => Zbv hy6) ?_ | refine PCall.of (Zbv hy6) ?_
   refine zF9 pl7 ql7 el7 ax8 bx8 cx8 gu9 hi0 hk0 ?_
   refine zO ?_
   refine Zgb ⟨32, [], [(1, .ref i0 3), (15, (sL Za a2)), (16, (vI (a2.length : Int))), (17, (vI s0_.1))]⟩ (Zv ((((O.upd j0_0 none).upd j0_1 none).upd j0_2 none).upd i0 (some ⟨false, 82, 4, 1, [.row (n + 6) z1.1.length, (vI z1.2.2.2), .row (n + 7) z1.2.1.length, .row (n + 8) (s0_.2 ++ [y6]).length]⟩)) n [none, none, none, none, none, none, some (oR 68 14 Zg z1.1), some (oR 25 3 Za z1.2.1), some (oR 25 3 Za (s0_.2 ++ [y6])), none, none]) (Z9 hU rfl rfl ?_) ?_
   ·exact Z3w pl7 ql7 el7 ax8 bx8 cx8 gu9 hi0 hk0
   refine J5 [] hi0 hk0 ?_
   obtain rfl := sI hs0_
   refine And.intro rfl (Fit2.of (Z9 hU rfl rfl ?_) (by omega))
   exact X3 hi0 hk0
  replace hs0_ := Zq c10 hs0_
  refine zXt ?_
  obtain rfl := sI hs0_
  refine And.intro (fun h => by cases h) (And.intro rfl (Fit2.of (Z9 hU rfl rfl ?_) (by omega)))
  exact X3 hi0 hk0
 try simp only [Y2, Ye, ↓reduceIte, Nat.reduceEqDiff]
 obtain rfl := sI h
 refine X7 (k := 3) (i := i0) (q1 := ⟨false, 82, 4, 1, [.row (n + 2) z1.1.length, (vI z1.2.2.2), .row n z1.2.1.length, .row (n + 1) z11.length]⟩) (L3 := [some (oR 25 3 Za z1.2.1), some (oR 25 3 Za z11), some (oR 68 14 Zg z1.1), none]) (E2 := (⟨32, [], []⟩ : Env)) (n3 := (n + 4)) (.inl rfl) hU rfl [] ?_ ?_
 ·refine Fit2.trans (E' := (⟨32, [], []⟩ : Env)) (O' := (Zv ((((O.upd j0_0 none).upd j0_1 none).upd j0_2 none).upd i0 (some ⟨false, 82, 4, 1, [.row (n + 6) z1.1.length, (vI z1.2.2.2), .row (n + 7) z1.2.1.length, .row (n + 8) z11.length]⟩)) n [none, none, none, none, none, none, some (oR 68 14 Zg z1.1), some (oR 25 3 Za z1.2.1), some (oR 25 3 Za z11)])) (n' := (n + 9)) (Fit2.of (Z9 hU rfl rfl ?_) (by omega)) ?_
  ·exact X3 hi0 hk0
  refine Xc (k := 9) (k' := 4) hU [3, 3, 3, 3, 3, 3, 2, 0, 1] [7, 8, 6, 0] rfl rfl rfl rfl ⟨rfl, rfl⟩ ?_
  exact X3 hi0 hk0
 simp only [push_cast, seval, ↓reduceIte, Zf, Try.results57, hi0, hk0, hN0, hN]
theorem Zy4 {a0 : Int} {a1 : Zc} {r : Bool} {O : Objs} {n : Nat} (h : Zfu a0 a1 = some r) : GTo Try.prog 71 [(vI a0), .agg (Zi a1)] O n ((vB r)) O n := by
 unfold Zfu at h
 refine zFn Try.call71 Try.func71 fun hU hN0 hN => ?_
 show W _ _ _ _ ⟨27, [], [(0, (vI a0)), (1, .agg (Zi a1))]⟩ (Zv O n []) _
 refine zQ [0, 3] ?_
 refine zQD [4] [none, none, none, none, none, none, none, none, none, none, none, none, none, none, none, none, none] ?_
 exact Y4 [(vB (cond (a1.Kind == 0) true (cond (cond (a0 == 9) (a1.Kind == 2) false) ((IntKind.i64.wrap ((a1.Words.length : Int) + (a1.Kids.length : Int))) == 0) false)))]
theorem Zk0 {a0 : Zx} {a1 : Int} {a2 : Zc} {r : Zx} {O : Objs} {n : Nat} {i0 j0_0 j0_1 j0_2 : Nat} (hi0 : i0 < n) (Ji : j0_0 < n) (Gp : j0_1 < n) (Zkf : j0_2 < n) (Xy : i0 ≠ j0_0) (Qk : i0 ≠ j0_1) (Zdc : i0 ≠ j0_2) (Qj : j0_0 ≠ j0_1) (Zda : j0_0 ≠ j0_2) (Zdb : j0_1 ≠ j0_2) (ho0 : O i0 = some ⟨false, 82, 4, 1, [.row j0_2 a0.out.length, (vI a0.kept), .row j0_0 a0.gone.length, .row j0_1 a0.come.length]⟩) (Js : O j0_0 = some (oR 25 3 Za a0.gone)) (Zcd : O j0_1 = some (oR 25 3 Za a0.come)) (Zma : O j0_2 = some (oR 68 14 Zg a0.out)) (h : Ku a0 a1 a2 = some r) : GTo Try.prog 58 [.ref i0 0, (vI a1), .agg (Zi a2)] O n (.tup []) (Zv ((((O.upd j0_0 none).upd j0_1 none).upd j0_2 none).upd i0 (some ⟨false, 82, 4, 1, [.row (n + 2) r.out.length, (vI r.kept), .row n r.gone.length, .row (n + 1) r.come.length]⟩)) n [some (oR 25 3 Za r.gone), some (oR 25 3 Za r.come), some (oR 68 14 Zg r.out)]) (n + 3) := by
 unfold Ku at h
 refine Zi6 Z0 Try.call58 Try.func58 rfl (Nat.le_of_ble_eq_true rfl) (by omega) fun hU => ?_
 have e0 := X8 (ba := n) (E := ⟨25, [], Zc3 0 [.ref i0 0, .val (.int .i64 a1), .agg [.val (.int .i64 a2.Kind), .val (.int .i64 a2.Old.Kind), .sl a2.Old.Words.length (fl (eI .u64) a2.Old.Words), .sl a2.Old.Kids.length (fl Za a2.Old.Kids), .val (.int .i64 a2.New.Kind), .sl a2.New.Words.length (fl (eI .u64) a2.New.Words), .sl a2.New.Kids.length (fl Za a2.New.Kids), .sl a2.Words.length (fl Zh a2.Words), .sl a2.Kids.length (fl Zk a2.Kids), .val (.int .i64 a2.List_), .sl a2.Ops.length (fl Zg a2.Ops)]]⟩) (O := (Zv O n [])) (n := n) (i := i0) (j := j0_0) (k := 2) (len := a0.gone.length) (q := ⟨false, 82, 4, 1, [.row j0_2 a0.out.length, .val (.int .i64 a0.kept), .row j0_0 a0.gone.length, .row j0_1 a0.come.length]⟩) (qj := ⟨true, 25, 3, a0.gone.length, fl Za a0.gone⟩) (by rw [Z6 _ hi0]; first | exact ho0 | exact Z4 _ _ _) rfl (by rw [Z6 _ Ji]; exact Js) Xy (by omega)
 simp only [Z8 _ _ Ji, Z8 _ _ hi0, Yo, Yc, Xd, K4 Xy, List.set_cons_zero, List.set_cons_succ, List.cons_append, List.nil_append, List.length_cons, List.length_nil, Nat.zero_add, Nat.reduceAdd, Nat.add_assoc] at e0
 refine Qc e0 ?_
 have e1 := X8 (ba := n) (E := ⟨25, [], Zc3 0 [.ref i0 0, .val (.int .i64 a1), .agg [.val (.int .i64 a2.Kind), .val (.int .i64 a2.Old.Kind), .sl a2.Old.Words.length (fl (eI .u64) a2.Old.Words), .sl a2.Old.Kids.length (fl Za a2.Old.Kids), .val (.int .i64 a2.New.Kind), .sl a2.New.Words.length (fl (eI .u64) a2.New.Words), .sl a2.New.Kids.length (fl Za a2.New.Kids), .sl a2.Words.length (fl Zh a2.Words), .sl a2.Kids.length (fl Zk a2.Kids), .val (.int .i64 a2.List_), .sl a2.Ops.length (fl Zg a2.Ops)]]⟩) (O := (Zv ((O.upd j0_0 none).upd i0 (some ⟨false, 82, 4, 1, [.row j0_2 a0.out.length, .val (.int .i64 a0.kept), .row n a0.gone.length, .row j0_1 a0.come.length]⟩)) n [some ⟨true, 25, 3, a0.gone.length, fl Za a0.gone⟩])) (n := (n + 1)) (i := i0) (j := j0_1) (k := 3) (len := a0.come.length) (q := ⟨false, 82, 4, 1, [.row j0_2 a0.out.length, .val (.int .i64 a0.kept), .row n a0.gone.length, .row j0_1 a0.come.length]⟩) (qj := ⟨true, 25, 3, a0.come.length, fl Za a0.come⟩) (by rw [Z6 _ hi0]; first | exact ho0 | exact Z4 _ _ _) rfl (by rw [Z6 _ Gp, Yp _ _ (Ne.symm Qk), Yp _ _ (Ne.symm Qj)]; exact Zcd) Qk (by omega)
 simp only [Z8 _ _ Gp, Z8 _ _ hi0, Yo, Yc, Xd, K4 Qk, List.set_cons_zero, List.set_cons_succ, List.cons_append, List.nil_append, List.length_cons, List.length_nil, Nat.zero_add, Nat.reduceAdd, Nat.add_assoc] at e1
 refine Qc e1 ?_
 have e2 := X8 (ba := n) (E := ⟨25, [], Zc3 0 [.ref i0 0, .val (.int .i64 a1), .agg [.val (.int .i64 a2.Kind), .val (.int .i64 a2.Old.Kind), .sl a2.Old.Words.length (fl (eI .u64) a2.Old.Words), .sl a2.Old.Kids.length (fl Za a2.Old.Kids), .val (.int .i64 a2.New.Kind), .sl a2.New.Words.length (fl (eI .u64) a2.New.Words), .sl a2.New.Kids.length (fl Za a2.New.Kids), .sl a2.Words.length (fl Zh a2.Words), .sl a2.Kids.length (fl Zk a2.Kids), .val (.int .i64 a2.List_), .sl a2.Ops.length (fl Zg a2.Ops)]]⟩) (O := (Zv (((O.upd j0_0 none).upd j0_1 none).upd i0 (some ⟨false, 82, 4, 1, [.row j0_2 a0.out.length, .val (.int .i64 a0.kept), .row n a0.gone.length, .row (n + 1) a0.come.length]⟩)) n [some ⟨true, 25, 3, a0.gone.length, fl Za a0.gone⟩, some ⟨true, 25, 3, a0.come.length, fl Za a0.come⟩])) (n := (n + 2)) (i := i0) (j := j0_2) (k := 0) (len := a0.out.length) (q := ⟨false, 82, 4, 1, [.row j0_2 a0.out.length, .val (.int .i64 a0.kept), .row n a0.gone.length, .row (n + 1) a0.come.length]⟩) (qj := ⟨true, 68, 14, a0.out.length, fl Zg a0.out⟩) (by rw [Z6 _ hi0]; first | exact ho0 | exact Z4 _ _ _) rfl (by rw [Z6 _ Zkf, Yp _ _ (Ne.symm Zdc), Yp _ _ (Ne.symm Zdb), Yp _ _ (Ne.symm Zda)]; exact Zma) Zdc (by omega)
 simp only [Z8 _ _ Zkf, Z8 _ _ hi0, Yo, Yc, Xd, K4 Zdc, List.set_cons_zero, List.set_cons_succ, List.cons_append, List.nil_append, List.length_cons, List.length_nil, Nat.zero_add, Nat.reduceAdd, Nat.add_assoc] at e2
 refine Qc e2 ?_
 have hU := (Und.drop (Und.drop (Und.drop hU j0_0) j0_1) j0_2)
 have hk0 : ∀ k, i0 < n + k := fun k => by omega
 have hN0 : ∀ o, Objs.upd (((O.upd j0_0 none).upd j0_1 none).upd j0_2 none) i0 o n = none := fun o => Xr hU hi0 _ (Nat.le_refl _)
 have hN : ∀ o k, Objs.upd (((O.upd j0_0 none).upd j0_1 none).upd j0_2 none) i0 o (n + k) = none := fun o k => Xr hU hi0 _ (Nat.le_add_right _ _)
 show W _ _ _ _ ⟨25, [], [(0, .ref i0 0), (1, (vI a1)), (2, .agg (Zi a2))]⟩ (Zv ((((O.upd j0_0 none).upd j0_1 none).upd j0_2 none).upd i0 (some ⟨false, 82, 4, 1, [.row (n + 2) a0.out.length, (vI a0.kept), .row n a0.gone.length, .row (n + 1) a0.come.length]⟩)) n [some (oR 25 3 Za a0.gone), some (oR 25 3 Za a0.come), some (oR 68 14 Zg a0.out)]) _
 refine Gj [0, 1, 5] hi0 hk0 ?_
 refine Zl ?_
 refine Zl ?_
 obtain ⟨y2, hy2, h⟩ := bC h
 refine J5 [] hi0 hk0 ?_
 refine (Zy4 hy2).then ?_
 refine zX2 hi0 hk0 ?_
 refine zD [0, 5, 8] [true, true, true, true] ?_
 refine Zs (t := y2) rfl (fun c10 => ?_) (fun c10 => ?_)
 ·replace h := Zr c10 h
  refine Zl ?_
  obtain ⟨y4, hy4, h⟩ := bC h
  refine J5 [] hi0 hk0 ?_
  refine (Zhr (i0 := i0) (j0_0 := n) (j0_1 := (n + 1)) (j0_2 := (n + 2)) (by omega) (by omega) (by omega) (by omega) (by omega) (by omega) (by omega) (by omega) (by omega) (by omega) (by simp only [push_cast, seval, ↓reduceIte, Zf, Z5, hi0, hk0, hN0, hN] <;> rfl) (by simp only [push_cast, seval, ↓reduceIte, Zf, Z5, hi0, hk0, hN0, hN] <;> rfl) (by simp only [push_cast, seval, ↓reduceIte, Zf, Z5, hi0, hk0, hN0, hN] <;> rfl) (by simp only [push_cast, seval, ↓reduceIte, Zf, Z5, hi0, hk0, hN0, hN] <;> rfl) hy4).then ?_
  refine zX2 hi0 hk0 ?_
  refine zD [] [false, false, false, false, true, true, true] ?_
  refine zW ?_
  obtain rfl := sI h
  refine X7 (k := 3) (i := i0) (q1 := ⟨false, 82, 4, 1, [.row (n + 2) y4.out.length, (vI y4.kept), .row n y4.gone.length, .row (n + 1) y4.come.length]⟩) (L3 := [some (oR 25 3 Za y4.gone), some (oR 25 3 Za y4.come), some (oR 68 14 Zg y4.out), none]) (E2 := (⟨25, [], []⟩ : Env)) (n3 := (n + 4)) (.inr rfl) hU rfl [] ?_ ?_
  ·refine Fit2.trans (E' := (⟨25, [], []⟩ : Env)) (O' := (Zv ((((O.upd j0_0 none).upd j0_1 none).upd j0_2 none).upd i0 (some ⟨false, 82, 4, 1, [.row (n + 6) y4.out.length, (vI y4.kept), .row (n + 4) y4.gone.length, .row (n + 5) y4.come.length]⟩)) n [none, none, none, none, some (oR 25 3 Za y4.gone), some (oR 25 3 Za y4.come), some (oR 68 14 Zg y4.out)])) (n' := (n + 7)) (Fit2.of (Z9 hU rfl rfl ?_) (by omega)) ?_
   ·exact X3 hi0 hk0
   refine Xc (k := 7) (k' := 4) hU [3, 3, 3, 3, 0, 1, 2] [4, 5, 6, 0] rfl rfl rfl rfl ⟨rfl, rfl⟩ ?_
   exact X3 hi0 hk0
  simp only [push_cast, seval, ↓reduceIte, Zf, Try.results58, hi0, hk0, hN0, hN]
 replace h := Zq c10 h
 refine Jq [0, 5] [true, true, true, true] ?_
 refine Zl ?_
 obtain ⟨y6, hy6, h⟩ := bC h
 refine J5 [] hi0 hk0 ?_
 refine (Un (i0 := i0) (j0_0 := n) (j0_1 := (n + 1)) (j0_2 := (n + 2)) (by omega) (by omega) (by omega) (by omega) (by omega) (by omega) (by omega) (by omega) (by omega) (by omega) (by simp only [push_cast, seval, ↓reduceIte, Zf, Z5, hi0, hk0, hN0, hN] <;> rfl) (by simp only [push_cast, seval, ↓reduceIte, Zf, Z5, hi0, hk0, hN0, hN] <;> rfl) (by simp only [push_cast, seval, ↓reduceIte, Zf, Z5, hi0, hk0, hN0, hN] <;> rfl) (by simp only [push_cast, seval, ↓reduceIte, Zf, Z5, hi0, hk0, hN0, hN] <;> rfl) hy6).then ?_
 refine zX2 hi0 hk0 ?_
 refine zD [0, 5] [false, false, false, true, true, true, true] ?_
 obtain ⟨l7, pl7, ql7, el7, h⟩ := bA (k := 1) rfl h
 obtain ⟨x8, hx8, ax8, bx8, cx8, h⟩ := bE (f := Zg) Zhg (fun _ => rfl) (by decide) h
 have gu9 : Kc (fl Zg y6.out ++ [.val (.int .i64 0), .val (.int .i64 0), .val (.slice none 0 0), .val (.int .i64 0), .val (.int .i64 0), .val (.slice none 0 0), .val (.slice none 0 0), .val (.int .i64 0), .val (.slice none 0 0), .val (.slice none 0 0), .val (.slice none 0 0), .val (.slice none 0 0), .val (.int .i64 0), .val (.slice none 0 0)]) [.val (.int .i64 3), .val (.int .i64 0), .val (.slice none 0 0), .val (.int .i64 a2.Kind), .val (.int .i64 a2.Old.Kind), .sl a2.Old.Words.length (fl (eI .u64) a2.Old.Words), .sl a2.Old.Kids.length (fl Za a2.Old.Kids), .val (.int .i64 a2.New.Kind), .sl a2.New.Words.length (fl (eI .u64) a2.New.Words), .sl a2.New.Kids.length (fl Za a2.New.Kids), .sl a2.Words.length (fl Zh a2.Words), .sl a2.Kids.length (fl Zk a2.Kids), .val (.int .i64 a2.List_), .sl a2.Ops.length (fl Zg a2.Ops)] (List.length y6.out * 14) = some (fl Zg y6.out ++ [.val (.int .i64 3), .val (.int .i64 0), .val (.slice none 0 0), .val (.int .i64 a2.Kind), .val (.int .i64 a2.Old.Kind), .sl a2.Old.Words.length (fl (eI .u64) a2.Old.Words), .sl a2.Old.Kids.length (fl Za a2.Old.Kids), .val (.int .i64 a2.New.Kind), .sl a2.New.Words.length (fl (eI .u64) a2.New.Words), .sl a2.New.Kids.length (fl Za a2.New.Kids), .sl a2.Words.length (fl Zh a2.Words), .sl a2.Kids.length (fl Zk a2.Kids), .val (.int .i64 a2.List_), .sl a2.Ops.length (fl Zg a2.Ops)]) := Zc5 (f := Zg) (sz := 14) (fun _ => rfl) rfl rfl
 refine Uq Z0 (by kernel_rfl) [.plain, .low, .low, .low, .low, .plain, .low, .pass, .bar, .shp, .fill true, .shp, .shp, .fill false] (fun i => i < (n + 7)) [0, 1, 2, 3, 4, 5, 6, 7, 8, 9, 10, 11, 12, 13] [.plain, .low, .low, .low, .low, .plain, .low, .pass, .bar, .shp, .fill true, .shp, .shp, .fill false] [] (by kernel_rfl) rfl ?_
 refine zF9 pl7 ql7 el7 ax8 bx8 cx8 gu9 hi0 hk0 ?_
 refine zO ?_
 obtain rfl := sI h
 refine X7 (k := 3) (i := i0) (q1 := ⟨false, 82, 4, 1, [.row (n + 2) (y6.out ++ [(⟨3, 0, ([] : (List Zb)), a2⟩ : Zm)]).length, (vI y6.kept), .row n y6.gone.length, .row (n + 1) y6.come.length]⟩) (L3 := [some (oR 25 3 Za y6.gone), some (oR 25 3 Za y6.come), some (oR 68 14 Zg (y6.out ++ [(⟨3, 0, ([] : (List Zb)), a2⟩ : Zm)])), none]) (E2 := (⟨25, [], []⟩ : Env)) (n3 := (n + 4)) (.inl rfl) hU rfl [] ?_ ?_
 ·refine Fit2.trans (E' := (⟨25, [], []⟩ : Env)) (O' := (Zv ((((O.upd j0_0 none).upd j0_1 none).upd j0_2 none).upd i0 (some ⟨false, 82, 4, 1, [.row (n + 6) (y6.out ++ [(⟨3, 0, ([] : (List Zb)), a2⟩ : Zm)]).length, (vI y6.kept), .row (n + 4) y6.gone.length, .row (n + 5) y6.come.length]⟩)) n [none, none, none, none, some (oR 25 3 Za y6.gone), some (oR 25 3 Za y6.come), some (oR 68 14 Zg (y6.out ++ [(⟨3, 0, ([] : (List Zb)), a2⟩ : Zm)])), none])) (n' := (n + 8)) (Fit2.of (Z9 hU rfl rfl ?_) (by omega)) ?_
  ·exact Z3w pl7 ql7 el7 ax8 bx8 cx8 gu9 hi0 hk0
  refine Xc (k := 8) (k' := 4) hU [3, 3, 3, 3, 0, 1, 2, 3] [4, 5, 6, 0] rfl rfl rfl rfl ⟨rfl, rfl⟩ ?_
  exact X3 hi0 hk0
 simp only [push_cast, seval, ↓reduceIte, Zf, Try.results58, hi0, hk0, hN0, hN]
def Zhy (Qm : (Zc → Option Zc)) : Prop := ∀ {a0 : Zc} {r : Zc} {O : Objs} {n : Nat}, Qm a0 = some r → GTo Try.prog 25 [.agg (Zi a0)] O n (.agg (Zi r)) O n
def Zim (Ua : (Int → (List Zm) → Option (List Zm))) : Prop := ∀ {a0 : Int} {a1 : (List Zm)} {r : (List Zm)} {O : Objs} {n : Nat}, Ua a0 a1 = some r → GTo Try.prog 41 [(vI a0), (sL Zg a1)] O n ((sL Zg r)) O n
theorem Zvc {Qm : (Zc → Option Zc)} {Ua : (Int → (List Zm) → Option (List Zm))} (Ze7 : Zhy Qm) (Znk : Zim Ua) {a0 : Zc} {r : Zc} {O : Objs} {n : Nat} (h : Zfq Qm Ua a0 = some r) : GTo Try.prog 25 [.agg (Zi a0)] O n (.agg (Zi r)) O n := by
 unfold Zfq at h
 refine zFn Try.call25 Try.func25 fun hU hN0 hN => ?_
 show W _ _ _ _ ⟨54, [], [(0, .agg (Zi a0))]⟩ (Zv O n []) _
 refine zQ [1, 2] ?_
 refine Zl ?_
 refine zQ [1, 2, 7] ?_
 refine Yl ?_
 refine zQ [1, 2, 7, 8] ?_
 refine Zs (t := (a0.Kind == 1)) rfl (fun c17 => ?_) (fun c17 => ?_)
 ·replace h := Zr c17 h
  refine Zl ?_
  obtain ⟨y3, hy3, h⟩ := bC h
  obtain ⟨y4, hy4, h⟩ := bC h
  refine Zey Z0 (by kernel_rfl) [false, false, false, false, false, false, false, true] [] (by kernel_rfl) ?_
  refine zS ?_
  refine PCall.of (Zbv hy3) ?_
  refine zS ?_
  refine PCall.of (Zbv hy4) ?_
  refine zS ?_
  refine zD [2] [false, true] ?_
  exact Y4 [.agg [(vI 1), (vI y3.Kind), (sL (eI .u64) y3.Words), (sL Za y3.Kids), (vI y4.Kind), (sL (eI .u64) y4.Words), (sL Za y4.Kids), nV, nV, (vI 0), nV]]
 replace h := Zq c17 h
 refine zQ [1, 2, 7, 17] ?_
 refine Zs (t := (a0.Kind == 2)) rfl (fun c16 => ?_) (fun c16 => ?_)
 ·replace h := Zr c16 h
  refine Zl ?_
  obtain ⟨y6, hy6, h⟩ := bC h
  refine zR ?_
  refine (Zds  hy6).then ?_
  refine zS ?_
  refine zDs [1, 2, 3] [true, true, true, true] ?_
  refine zQd [2, 3, 24, 25, 26] [2, 3, 24, 25, 26] [false, true, true, true] ?_
  refine Qc (E' := (⟨54, [], [(2, .ref (n + 1) 0), (3, .ref (n + 3) 0), (24, (sL Zk a0.Kids)), (25, (vI (a0.Kids.length : Int))), (26, (vI 0))]⟩ : Env)) (O' := (Zv O n [none, some ⟨false, 37, 11, 1, [(vI 0), (vI 0), nV, nV, (vI 0), nV, nV, nV, nV, (vI 0), nV]⟩, some (oR 52 4 Zh y6), some ⟨false, 37, 11, 1, [(vI 2), (vI 0), nV, nV, (vI 0), nV, nV, .row (n + 2) y6.length, .row (n + 4) ([] : List Zp).length, (vI 0), nV]⟩, some (oR 65 12 Zk ([] : List Zp)), none])) (n' := (n + 6)) ?_ ?_
  ·refine Fit2.trans (E' := (⟨54, [], [(2, .ref (n + 1) 0), (3, .ref (n + 3) 0), (24, (sL Zk a0.Kids)), (25, (vI (a0.Kids.length : Int))), (26, (vI 0))]⟩ : Env)) (O' := (Zv O n [none, some ⟨false, 37, 11, 1, [(vI 0), (vI 0), nV, nV, (vI 0), nV, nV, nV, nV, (vI 0), nV]⟩, some (oR 52 4 Zh y6), some ⟨false, 37, 11, 1, [(vI 2), (vI 0), nV, nV, (vI 0), nV, nV, .row (n + 2) y6.length, nV, (vI 0), nV]⟩])) (n' := (n + 4)) (Fit2.of (Yw hU rfl rfl ?_) (by omega)) ?_
   ·exact zSe
   refine Fit2.trans (Va (p := (n + 3)) (k := 8) (q := ⟨false, 37, 11, 1, [(vI 2), (vI 0), nV, nV, (vI 0), nV, nV, .row (n + 2) y6.length, nV, (vI 0), nV]⟩) 65 12 (by simp only [Kl, Vq, List.getElem?_cons_zero, List.getElem?_cons_succ, Option.join_some, List.length_nil, Z4]) rfl (by omega)) ?_
   simp only [Yo, Yc, Vr, Ka, List.set_cons_zero, List.set_cons_succ, List.cons_append, List.nil_append, List.length_cons, List.length_nil, Nat.zero_add, Nat.reduceAdd, Nat.reduceLT, Nat.add_assoc]
   refine Q9 (k := 5) (k' := 6) hU [5, 1, 2, 3, 4] [0, 1, 2, 3, 4, 0] rfl rfl rfl rfl ⟨rfl, rfl⟩ ?_
   exact zSe
  obtain ⟨z12, hz12, h⟩ := bC h
  refine Yu (E' := ⟨54, [], [(2, .ref (n + 1) 0), (3, .ref (n + 3) 0)]⟩) (O' := (Zv O n [none, some ⟨false, 37, 11, 1, [(vI 0), (vI 0), nV, nV, (vI 0), nV, nV, nV, nV, (vI 0), nV]⟩, some (oR 52 4 Zh y6), some ⟨false, 37, 11, 1, [(vI 2), (vI 0), nV, nV, (vI 0), nV, nV, .row (n + 2) y6.length, .row (n + 4) z12.length, (vI 0), nV]⟩, some (oR 65 12 Zk z12), none])) (n0 := (n + 6)) ?_ ?_
  ·refine Y9 hz12 (fun s0_ => ⟨54, [], [(2, .ref (n + 1) 0), (3, .ref (n + 3) 0), (24, (sL Zk a0.Kids)), (25, (vI (a0.Kids.length : Int))), (26, (vI s0_.1))]⟩) (fun s0_ => (Zv O n [none, some ⟨false, 37, 11, 1, [(vI 0), (vI 0), nV, nV, (vI 0), nV, nV, nV, nV, (vI 0), nV]⟩, some (oR 52 4 Zh y6), some ⟨false, 37, 11, 1, [(vI 2), (vI 0), nV, nV, (vI 0), nV, nV, .row (n + 2) y6.length, .row (n + 4) s0_.2.length, (vI 0), nV]⟩, some (oR 65 12 Zk s0_.2), none])) (fun z12 => JX 1 n (⟨54, [], [(2, .ref (n + 1) 0), (3, .ref (n + 3) 0)]⟩ : Env) (Zv O n [none, some ⟨false, 37, 11, 1, [(vI 0), (vI 0), nV, nV, (vI 0), nV, nV, nV, nV, (vI 0), nV]⟩, some (oR 52 4 Zh y6), some ⟨false, 37, 11, 1, [(vI 2), (vI 0), nV, nV, (vI 0), nV, nV, .row (n + 2) y6.length, .row (n + 4) z12.length, (vI 0), nV]⟩, some (oR 65 12 Zk z12), none]) (n + 6)) ?_
   intro s0_ x0_ hs0_
   unfold Zcs at hs0_
   try dsimp only
   refine zQ [2, 3, 24, 25, 26, 27] ?_
   refine Zl ?_
   refine Zs (t := (decide (s0_.1 < (a0.Kids.length : Int)))) rfl (fun c11 => ?_) (fun c11 => ?_)
   ·replace hs0_ := Zr c11 hs0_
    refine Jq [2, 3, 24, 25, 26] [false, true, true, true, true, false] ?_
    refine Zl ?_
    refine Yl ?_
    refine Zl ?_
    obtain ⟨x8, hx8, ax8, bx8, cx8, hs0_⟩ := bE (f := Zk) Zon (fun _ => rfl) (by decide) hs0_
    refine Zc2 [] ax8 bx8 cx8 ?_
    refine zD [2, 3, 5, 24, 25, 26] [false, true, true, true, true, false, true] ?_
    obtain ⟨y9, hy9, hs0_⟩ := bC hs0_
    obtain ⟨l10, pl10, ql10, el10, hs0_⟩ := bA (k := 1) rfl hs0_
    refine Uq Z0 (by kernel_rfl) [.low, .low, .plain, .plain, .plain, .plain, .plain, .plain, .pass, .bar, .plain, .bar] (fun i => i < (n + 7)) [0, 1, 2, 3, 4, 5, 6, 7, 8, 9, 10, 11] [.low, .low, .plain, .plain, .plain, .plain, .plain, .plain, .pass, .bar, .plain, .bar] [] (by kernel_rfl) rfl ?_
    refine zX3 pl10 ql10 el10 ?_
    refine zO ?_
    first | refine PCallA.of (fun _ _ => Ze7 hy9) ?_ | refine PCall.of (Ze7 hy9) ?_
    refine zX3 pl10 ql10 el10 ?_
    refine zO ?_
    refine Zgb ⟨54, [], [(2, .ref (n + 1) 0), (3, .ref (n + 3) 0), (24, (sL Zk a0.Kids)), (25, (vI (a0.Kids.length : Int))), (26, (vI s0_.1))]⟩ (Zv O n [none, some ⟨false, 37, 11, 1, [(vI 0), (vI 0), nV, nV, (vI 0), nV, nV, nV, nV, (vI 0), nV]⟩, some (oR 52 4 Zh y6), some ⟨false, 37, 11, 1, [(vI 2), (vI 0), nV, nV, (vI 0), nV, nV, .row (n + 2) y6.length, .row (n + 4) l10.length, (vI 0), nV]⟩, some (oR 65 12 Zk l10), none, none, none]) (Yw hU rfl rfl ?_) ?_
    ·exact Zzy pl10 ql10 el10
    refine zR ?_
    exact zEn hs0_
   replace hs0_ := Zq c11 hs0_
   exact zEx hs0_
  try simp only [Y2, Ye, ↓reduceIte, Nat.reduceEqDiff]
  refine zDs [2, 3] [false, true, true, true, true, false] ?_
  refine zRd [2] [false, true, true, false, true, false] ?_
  exact Y4 [.agg [(vI 2), (vI 0), nV, nV, (vI 0), nV, nV, .row (n + 2) y6.length, .row (n + 4) z12.length, (vI 0), nV]]
 replace h := Zq c16 h
 refine zQ [1, 2, 43] ?_
 refine Zs (t := (a0.Kind == 3)) rfl (fun c15 => ?_) (fun c15 => ?_)
 ·replace h := Zr c15 h
  refine Zl ?_
  obtain ⟨y14, hy14, h⟩ := bC h
  refine Zey Z0 (by kernel_rfl) [false, false, false, false, false, false, false, false, true] [] (by kernel_rfl) ?_
  refine zS ?_
  refine PCall.of (Znk hy14) ?_
  refine zS ?_
  refine zD [2] [false, true] ?_
  exact Y4 [.agg [(vI 3), (vI 0), nV, nV, (vI 0), nV, nV, nV, nV, (vI a0.List_), (sL Zg y14)]]
 replace h := Zq c15 h
 refine Jq [2] [false, true] ?_
 refine Zl ?_
 refine zRd [2] [false, true] ?_
 exact Y4 [.agg [(vI 0), (vI 0), nV, nV, (vI 0), nV, nV, nV, nV, (vI 0), nV]]
theorem Zza {Qm : (Zc → Option Zc)} {Ua : (Int → (List Zm) → Option (List Zm))} (Ze7 : Zhy Qm) (Znk : Zim Ua) {a0 : Int} {a1 : (List Zm)} {r : (List Zm)} {O : Objs} {n : Nat} (h : Ze0 Qm Ua a0 a1 = some r) : GTo Try.prog 41 [(vI a0), (sL Zg a1)] O n ((sL Zg r)) O n := by
 unfold Ze0 at h
 refine zFn Try.call41 Try.func41 fun hU hN0 hN => ?_
 show W _ _ _ _ ⟨44, [], [(0, (vI a0)), (1, (sL Zg a1))]⟩ (Zv O n []) _
 refine zQ [0, 1] ?_
 refine zQ [0, 1, 5] ?_
 refine Zl ?_
 refine zQd [0, 5, 8, 9, 10] [0, 5, 8, 9, 10] [true] ?_
 refine Qc (E' := (⟨44, [], [(0, (vI a0)), (5, .ref n 0), (8, (sL Zg a1)), (9, (vI (a1.length : Int))), (10, (vI 0))]⟩ : Env)) (O' := (Zv O n [some ⟨false, 82, 4, 1, [.row (n + 1) ([] : List Zm).length, (vI 0), .row (n + 2) ([] : List Zb).length, .row (n + 3) ([] : List Zb).length]⟩, some (oR 68 14 Zg ([] : List Zm)), some (oR 25 3 Za ([] : List Zb)), some (oR 25 3 Za ([] : List Zb)), none])) (n' := (n + 5)) ?_ ?_
 ·refine Fit2.trans (E' := (⟨44, [], [(0, (vI a0)), (5, .ref n 0), (8, (sL Zg a1)), (9, (vI (a1.length : Int))), (10, (vI 0))]⟩ : Env)) (O' := (Zv O n [some ⟨false, 82, 4, 1, [nV, (vI 0), nV, nV]⟩])) (n' := (n + 1)) (Fit2.of (Yw hU rfl rfl ?_) (by omega)) ?_
  ·exact zSe
  refine Fit2.trans (Va (p := n) (k := 0) (q := ⟨false, 82, 4, 1, [nV, (vI 0), nV, nV]⟩) 68 14 (by simp only [Kl, Vq, List.getElem?_cons_zero, List.getElem?_cons_succ, Option.join_some, List.length_nil, Z4]) rfl (by omega)) ?_
  simp only [Yo, Yc, Vr, Ka, List.set_cons_zero, List.set_cons_succ, List.cons_append, List.nil_append, List.length_cons, List.length_nil, Nat.zero_add, Nat.reduceAdd, Nat.reduceLT, Nat.add_assoc]
  refine Fit2.trans (Va (p := n) (k := 2) (q := ⟨false, 82, 4, 1, [.row (n + 1) ([] : List Zm).length, (vI 0), nV, nV]⟩) 25 3 (by simp only [Kl, Vq, List.getElem?_cons_zero, List.getElem?_cons_succ, Option.join_some, List.length_nil, Z4]) rfl (by omega)) ?_
  simp only [Yo, Yc, Vr, Ka, List.set_cons_zero, List.set_cons_succ, List.cons_append, List.nil_append, List.length_cons, List.length_nil, Nat.zero_add, Nat.reduceAdd, Nat.reduceLT, Nat.add_assoc]
  refine Fit2.trans (Va (p := n) (k := 3) (q := ⟨false, 82, 4, 1, [.row (n + 1) ([] : List Zm).length, (vI 0), .row (n + 2) ([] : List Zb).length, nV]⟩) 25 3 (by simp only [Kl, Vq, List.getElem?_cons_zero, List.getElem?_cons_succ, Option.join_some, List.length_nil, Z4]) rfl (by omega)) ?_
  simp only [Yo, Yc, Vr, Ka, List.set_cons_zero, List.set_cons_succ, List.cons_append, List.nil_append, List.length_cons, List.length_nil, Nat.zero_add, Nat.reduceAdd, Nat.reduceLT, Nat.add_assoc]
  refine Q9 (k := 4) (k' := 5) hU [0, 1, 2, 3] [0, 1, 2, 3, 0] rfl rfl rfl rfl ⟨rfl, rfl⟩ ?_
  exact zSe
 obtain ⟨z14, hz14, h⟩ := bC h
 refine Yu (E' := ⟨44, [], [(5, .ref n 0)]⟩) (O' := (Zv O n [some ⟨false, 82, 4, 1, [.row (n + 1) z14.2.1.length, (vI z14.1), .row (n + 2) z14.2.2.1.length, .row (n + 3) z14.2.2.2.length]⟩, some (oR 68 14 Zg z14.2.1), some (oR 25 3 Za z14.2.2.1), some (oR 25 3 Za z14.2.2.2), none])) (n0 := (n + 5)) ?_ ?_
 ·refine Y9 hz14 (fun s0_ => ⟨44, [], [(0, (vI a0)), (5, .ref n 0), (8, (sL Zg a1)), (9, (vI (a1.length : Int))), (10, (vI s0_.1))]⟩) (fun s0_ => (Zv O n [some ⟨false, 82, 4, 1, [.row (n + 1) s0_.2.2.1.length, (vI s0_.2.1), .row (n + 2) s0_.2.2.2.1.length, .row (n + 3) s0_.2.2.2.2.length]⟩, some (oR 68 14 Zg s0_.2.2.1), some (oR 25 3 Za s0_.2.2.2.1), some (oR 25 3 Za s0_.2.2.2.2), none])) (fun z14 => JX 0 n (⟨44, [], [(5, .ref n 0)]⟩ : Env) (Zv O n [some ⟨false, 82, 4, 1, [.row (n + 1) z14.2.1.length, (vI z14.1), .row (n + 2) z14.2.2.1.length, .row (n + 3) z14.2.2.2.length]⟩, some (oR 68 14 Zg z14.2.1), some (oR 25 3 Za z14.2.2.1), some (oR 25 3 Za z14.2.2.2), none]) (n + 5)) ?_
  intro s0_ x0_ hs0_
  unfold U7 at hs0_
  try dsimp only
  refine zQ [0, 5, 8, 9, 10, 11] ?_
  refine Zl ?_
  refine Zs (t := (decide (s0_.1 < (a1.length : Int)))) rfl (fun c13 => ?_) (fun c13 => ?_)
  ·replace hs0_ := Zr c13 hs0_
   refine Jq [0, 5, 8, 9, 10] [true, true, true, true, false] ?_
   obtain ⟨z1, hz1, hs0_⟩ := bC hs0_
   refine Y6 (E' := ⟨44, [], [(0, (vI a0)), (5, .ref n 0), (8, (sL Zg a1)), (9, (vI (a1.length : Int))), (10, (vI s0_.1))]⟩) (O' := (Zv O n [some ⟨false, 82, 4, 1, [.row (n + 9) z1.2.1.length, (vI z1.1), .row (n + 10) z1.2.2.1.length, .row (n + 11) z1.2.2.2.length]⟩, none, none, none, none, none, none, none, none, some (oR 68 14 Zg z1.2.1), some (oR 25 3 Za z1.2.2.1), some (oR 25 3 Za z1.2.2.2), none])) (n0 := (n + 13)) ?_ ?_
   ·refine Yl ?_
    refine Zl ?_
    obtain ⟨x3, hx3, ax3, bx3, cx3, hz1⟩ := bE (f := Zg) Zhg (fun _ => rfl) (by decide) hz1
    refine Zc2 [] ax3 bx3 cx3 ?_
    refine zD [0, 5, 7, 8, 9, 10] [true, true, true, true, false, true] ?_
    refine zQ [0, 5, 7, 8, 9, 10, 15] ?_
    refine Yl ?_
    refine zQ [0, 5, 7, 8, 9, 10, 15, 16] ?_
    refine Zs (t := (x3.Kind == 0)) rfl (fun c12 => ?_) (fun c12 => ?_)
    ·replace hz1 := Zr c12 hz1
     obtain ⟨y4, hy4, hz1⟩ := bC hz1
     refine zR ?_
     refine (Zhr (i0 := n) (j0_0 := (n + 2)) (j0_1 := (n + 3)) (j0_2 := (n + 1)) (by omega) (by omega) (by omega) (by omega) (by omega) (by omega) (by omega) (by omega) (by omega) (by omega) (by simp only [push_cast, seval, ↓reduceIte, Zf, Z5, hN0, hN] <;> rfl) (by simp only [push_cast, seval, ↓reduceIte, Zf, Z5, hN0, hN] <;> rfl) (by simp only [push_cast, seval, ↓reduceIte, Zf, Z5, hN0, hN] <;> rfl) (by simp only [push_cast, seval, ↓reduceIte, Zf, Z5, hN0, hN] <;> rfl) hy4).then ?_
     refine zS ?_
     obtain rfl := sI hz1
     refine And.intro rfl ?_
     refine Fit2.trans (E' := (⟨44, [], [(0, (vI a0)), (5, .ref n 0), (8, (sL Zg a1)), (9, (vI (a1.length : Int))), (10, (vI s0_.1))]⟩ : Env)) (O' := (Zv O n [some ⟨false, 82, 4, 1, [.row (n + 8) y4.out.length, (vI y4.kept), .row (n + 6) y4.gone.length, .row (n + 7) y4.come.length]⟩, none, none, none, none, none, some (oR 25 3 Za y4.gone), some (oR 25 3 Za y4.come), some (oR 68 14 Zg y4.out)])) (n' := (n + 9)) (Fit2.of (Yw hU rfl rfl ?_) (by omega)) ?_
     ·exact zSe
     refine Q9 (k := 9) (k' := 13) hU [0, 12, 12, 12, 12, 12, 10, 11, 9] [0, 0, 0, 0, 0, 0, 0, 0, 0, 8, 6, 7, 0] rfl rfl rfl rfl ⟨rfl, rfl⟩ ?_
     exact zSe
    replace hz1 := Zq c12 hz1
    refine zQ [0, 5, 7, 8, 9, 10, 15, 21] ?_
    refine Zs (t := (x3.Kind == 1)) rfl (fun c11 => ?_) (fun c11 => ?_)
    ·replace hz1 := Zr c11 hz1
     obtain ⟨y5, hy5, hz1⟩ := bC hz1
     refine zR ?_
     refine (Zj3 (i0 := n) (j0_0 := (n + 2)) (j0_1 := (n + 3)) (j0_2 := (n + 1)) (by omega) (by omega) (by omega) (by omega) (by omega) (by omega) (by omega) (by omega) (by omega) (by omega) (by simp only [push_cast, seval, ↓reduceIte, Zf, Z5, hN0, hN] <;> rfl) (by simp only [push_cast, seval, ↓reduceIte, Zf, Z5, hN0, hN] <;> rfl) (by simp only [push_cast, seval, ↓reduceIte, Zf, Z5, hN0, hN] <;> rfl) (by simp only [push_cast, seval, ↓reduceIte, Zf, Z5, hN0, hN] <;> rfl) hy5).then ?_
     refine zS ?_
     obtain rfl := sI hz1
     refine And.intro rfl ?_
     refine Fit2.trans (E' := (⟨44, [], [(0, (vI a0)), (5, .ref n 0), (8, (sL Zg a1)), (9, (vI (a1.length : Int))), (10, (vI s0_.1))]⟩ : Env)) (O' := (Zv O n [some ⟨false, 82, 4, 1, [.row (n + 8) y5.out.length, (vI y5.kept), .row (n + 6) y5.gone.length, .row (n + 7) y5.come.length]⟩, none, none, none, none, none, some (oR 25 3 Za y5.gone), some (oR 25 3 Za y5.come), some (oR 68 14 Zg y5.out)])) (n' := (n + 9)) (Fit2.of (Yw hU rfl rfl ?_) (by omega)) ?_
     ·exact zSe
     refine Q9 (k := 9) (k' := 13) hU [0, 12, 12, 12, 12, 12, 10, 11, 9] [0, 0, 0, 0, 0, 0, 0, 0, 0, 8, 6, 7, 0] rfl rfl rfl rfl ⟨rfl, rfl⟩ ?_
     exact zSe
    replace hz1 := Zq c11 hz1
    refine zQ [0, 5, 7, 8, 9, 10, 15, 27] ?_
    refine Zs (t := (x3.Kind == 2)) rfl (fun c10 => ?_) (fun c10 => ?_)
    ·replace hz1 := Zr c10 hz1
     obtain ⟨y6, hy6, hz1⟩ := bC hz1
     refine zR ?_
     refine (Zj4 (i0 := n) (j0_0 := (n + 2)) (j0_1 := (n + 3)) (j0_2 := (n + 1)) (by omega) (by omega) (by omega) (by omega) (by omega) (by omega) (by omega) (by omega) (by omega) (by omega) (by simp only [push_cast, seval, ↓reduceIte, Zf, Z5, hN0, hN] <;> rfl) (by simp only [push_cast, seval, ↓reduceIte, Zf, Z5, hN0, hN] <;> rfl) (by simp only [push_cast, seval, ↓reduceIte, Zf, Z5, hN0, hN] <;> rfl) (by simp only [push_cast, seval, ↓reduceIte, Zf, Z5, hN0, hN] <;> rfl) hy6).then ?_
     refine zS ?_
     obtain rfl := sI hz1
     refine And.intro rfl ?_
     refine Fit2.trans (E' := (⟨44, [], [(0, (vI a0)), (5, .ref n 0), (8, (sL Zg a1)), (9, (vI (a1.length : Int))), (10, (vI s0_.1))]⟩ : Env)) (O' := (Zv O n [some ⟨false, 82, 4, 1, [.row (n + 8) y6.out.length, (vI y6.kept), .row (n + 6) y6.gone.length, .row (n + 7) y6.come.length]⟩, none, none, none, none, none, some (oR 25 3 Za y6.gone), some (oR 25 3 Za y6.come), some (oR 68 14 Zg y6.out)])) (n' := (n + 9)) (Fit2.of (Yw hU rfl rfl ?_) (by omega)) ?_
     ·exact zSe
     refine Q9 (k := 9) (k' := 13) hU [0, 12, 12, 12, 12, 12, 10, 11, 9] [0, 0, 0, 0, 0, 0, 0, 0, 0, 8, 6, 7, 0] rfl rfl rfl rfl ⟨rfl, rfl⟩ ?_
     exact zSe
    replace hz1 := Zq c10 hz1
    refine zQ [0, 5, 7, 8, 9, 10, 33] ?_
    refine Zs (t := (x3.Kind == 3)) rfl (fun c9 => ?_) (fun c9 => ?_)
    ·replace hz1 := Zr c9 hz1
     obtain ⟨y7, hy7, hz1⟩ := bC hz1
     obtain ⟨y8, hy8, hz1⟩ := bC hz1
     refine zC (Ze7 hy7) ?_
     refine (Zk0 (i0 := n) (j0_0 := (n + 2)) (j0_1 := (n + 3)) (j0_2 := (n + 1)) (by omega) (by omega) (by omega) (by omega) (by omega) (by omega) (by omega) (by omega) (by omega) (by omega) (by simp only [push_cast, seval, ↓reduceIte, Zf, Z5, hN0, hN] <;> rfl) (by simp only [push_cast, seval, ↓reduceIte, Zf, Z5, hN0, hN] <;> rfl) (by simp only [push_cast, seval, ↓reduceIte, Zf, Z5, hN0, hN] <;> rfl) (by simp only [push_cast, seval, ↓reduceIte, Zf, Z5, hN0, hN] <;> rfl) hy8).then ?_
     refine zS ?_
     obtain rfl := sI hz1
     refine And.intro rfl ?_
     refine Fit2.trans (E' := (⟨44, [], [(0, (vI a0)), (5, .ref n 0), (8, (sL Zg a1)), (9, (vI (a1.length : Int))), (10, (vI s0_.1))]⟩ : Env)) (O' := (Zv O n [some ⟨false, 82, 4, 1, [.row (n + 8) y8.out.length, (vI y8.kept), .row (n + 6) y8.gone.length, .row (n + 7) y8.come.length]⟩, none, none, none, none, none, some (oR 25 3 Za y8.gone), some (oR 25 3 Za y8.come), some (oR 68 14 Zg y8.out)])) (n' := (n + 9)) (Fit2.of (Yw hU rfl rfl ?_) (by omega)) ?_
     ·exact zSe
     refine Q9 (k := 9) (k' := 13) hU [0, 12, 12, 12, 12, 12, 10, 11, 9] [0, 0, 0, 0, 0, 0, 0, 0, 0, 8, 6, 7, 0] rfl rfl rfl rfl ⟨rfl, rfl⟩ ?_
     exact zSe
    replace hz1 := Zq c9 hz1
    refine zK ?_
    obtain rfl := sI hz1
    refine And.intro rfl ?_
    refine Fit2.trans (E' := (⟨44, [], [(0, (vI a0)), (5, .ref n 0), (8, (sL Zg a1)), (9, (vI (a1.length : Int))), (10, (vI s0_.1))]⟩ : Env)) (O' := (Zv O n [some ⟨false, 82, 4, 1, [.row (n + 1) s0_.2.2.1.length, (vI s0_.2.1), .row (n + 2) s0_.2.2.2.1.length, .row (n + 3) s0_.2.2.2.2.length]⟩, some (oR 68 14 Zg s0_.2.2.1), some (oR 25 3 Za s0_.2.2.2.1), some (oR 25 3 Za s0_.2.2.2.2), none, none])) (n' := (n + 6)) (Fit2.of (Yw hU rfl rfl ?_) (by omega)) ?_
    ·exact zSe
    refine Q9 (k := 6) (k' := 13) hU [0, 9, 10, 11, 12, 12] [0, 0, 0, 0, 0, 0, 0, 0, 0, 1, 2, 3, 0] rfl rfl rfl rfl ⟨rfl, rfl⟩ ?_
    exact zSe
   refine zR ?_
   obtain rfl := sI hs0_
   refine And.intro rfl ?_
   refine Fit2.trans (E' := (⟨44, [], [(0, (vI a0)), (5, .ref n 0), (8, (sL Zg a1)), (9, (vI (a1.length : Int))), (10, (vI (IntKind.i64.wrap (s0_.1 + 1))))]⟩ : Env)) (O' := (Zv O n [some ⟨false, 82, 4, 1, [.row (n + 9) z1.2.1.length, (vI z1.1), .row (n + 10) z1.2.2.1.length, .row (n + 11) z1.2.2.2.length]⟩, none, none, none, none, none, none, none, none, some (oR 68 14 Zg z1.2.1), some (oR 25 3 Za z1.2.2.1), some (oR 25 3 Za z1.2.2.2), none])) (n' := (n + 13)) (Fit2.of (Yw hU rfl rfl ?_) (by omega)) ?_
   ·exact zSe
   refine Q9 (k := 13) (k' := 5) hU [0, 4, 4, 4, 4, 4, 4, 4, 4, 1, 2, 3, 4] [0, 9, 10, 11, 0] rfl rfl rfl rfl ⟨rfl, rfl⟩ ?_
   exact zSe
  replace hs0_ := Zq c13 hs0_
  exact zEx hs0_
 try simp only [Y2, Ye, ↓reduceIte, Nat.reduceEqDiff]
 refine zDs [5] [true, true, true, true, false] ?_
 obtain ⟨y16, hy16, h⟩ := bC h
 refine zR ?_
 refine (Un (i0 := n) (j0_0 := (n + 2)) (j0_1 := (n + 3)) (j0_2 := (n + 1)) (by omega) (by omega) (by omega) (by omega) (by omega) (by omega) (by omega) (by omega) (by omega) (by omega) (by simp only [push_cast, seval, ↓reduceIte, Zf, Z5, hN0, hN] <;> rfl) (by simp only [push_cast, seval, ↓reduceIte, Zf, Z5, hN0, hN] <;> rfl) (by simp only [push_cast, seval, ↓reduceIte, Zf, Z5, hN0, hN] <;> rfl) (by simp only [push_cast, seval, ↓reduceIte, Zf, Z5, hN0, hN] <;> rfl) hy16).then ?_
 refine zS ?_
 refine zD [5] [true, false, false, false, false, true, true, true] ?_
 refine zQ [4] ?_
 exact Y4 [.row (n + 7) y16.out.length]
theorem Zr8 : ∀ k, (Zhy ((Qd k).1)) ∧ (Zim ((Qd k).2)) := fun k => by
 induction k with
 | zero => exact ⟨@fun a0 r O n h => (nomatch (show (none : Option _) = some _ from h)), @fun a0 a1 r O n h => (nomatch (show (none : Option _) = some _ from h))⟩
 | succ k ih => exact ⟨@fun a0 r O n h => Zvc (ih.1) (ih.2)  h, @fun a0 a1 r O n h => Zza (ih.1) (ih.2)  h⟩
theorem Zji {a0 : Zc} {r : Zc} {O : Objs} {n : Nat} (h : Zh5 a0 = some r) : GTo Try.prog 25 [.agg (Zi a0)] O n (.agg (Zi r)) O n := by
 obtain ⟨k, hk⟩ := Zaf h
 exact (Zr8 k).1  hk
theorem Zhq {a0 : Zo} {a1 : Zc} {r : (Int × Zo)} {O : Objs} {n : Nat} {i0 j0_0 j0_1 : Nat} (hi0 : i0 < n) (Ji : j0_0 < n) (Gp : j0_1 < n) (Xy : i0 ≠ j0_0) (Qk : i0 ≠ j0_1) (Qj : j0_0 ≠ j0_1) (ho0 : O i0 = some ⟨false, 54, 5, 1, [(vI a0.now.Kind), (sL (eI .u64) a0.now.Words), (sL Za a0.now.Kids), .row j0_0 a0.done.length, .row j0_1 a0.back.length]⟩) (Js : O j0_0 = some (oR 37 11 Zd a0.done)) (Zcd : O j0_1 = some (oR 37 11 Zd a0.back)) (h : Xv a0 a1 = some r) : GTo Try.prog 10 [.ref i0 0, .agg (Zi a1)] O n ((vI r.1)) (Zv (((O.upd j0_0 none).upd j0_1 none).upd i0 (some ⟨false, 54, 5, 1, [(vI r.2.now.Kind), (sL (eI .u64) r.2.now.Words), (sL Za r.2.now.Kids), .row n r.2.done.length, .row (n + 1) r.2.back.length]⟩)) n [some (oR 37 11 Zd r.2.done), some (oR 37 11 Zd r.2.back)]) (n + 2) := by
 unfold Xv at h
 refine Zi6 Z0 Try.call10 Try.func10 rfl (Nat.le_of_ble_eq_true rfl) (by omega) fun hU => ?_
 have e0 := X8 (ba := n) (E := ⟨31, [], Zc3 0 [.ref i0 0, .agg [.val (.int .i64 a1.Kind), .val (.int .i64 a1.Old.Kind), .sl a1.Old.Words.length (fl (eI .u64) a1.Old.Words), .sl a1.Old.Kids.length (fl Za a1.Old.Kids), .val (.int .i64 a1.New.Kind), .sl a1.New.Words.length (fl (eI .u64) a1.New.Words), .sl a1.New.Kids.length (fl Za a1.New.Kids), .sl a1.Words.length (fl Zh a1.Words), .sl a1.Kids.length (fl Zk a1.Kids), .val (.int .i64 a1.List_), .sl a1.Ops.length (fl Zg a1.Ops)]]⟩) (O := (Zv O n [])) (n := n) (i := i0) (j := j0_0) (k := 3) (len := a0.done.length) (q := ⟨false, 54, 5, 1, [.val (.int .i64 a0.now.Kind), .sl a0.now.Words.length (fl (eI .u64) a0.now.Words), .sl a0.now.Kids.length (fl Za a0.now.Kids), .row j0_0 a0.done.length, .row j0_1 a0.back.length]⟩) (qj := ⟨true, 37, 11, a0.done.length, fl Zd a0.done⟩) (by rw [Z6 _ hi0]; first | exact ho0 | exact Z4 _ _ _) rfl (by rw [Z6 _ Ji]; exact Js) Xy (by omega)
 simp only [Z8 _ _ Ji, Z8 _ _ hi0, Yo, Yc, Xd, K4 Xy, List.set_cons_zero, List.set_cons_succ, List.cons_append, List.nil_append, List.length_cons, List.length_nil, Nat.zero_add, Nat.reduceAdd, Nat.add_assoc] at e0
 refine Qc e0 ?_
 have e1 := X8 (ba := n) (E := ⟨31, [], Zc3 0 [.ref i0 0, .agg [.val (.int .i64 a1.Kind), .val (.int .i64 a1.Old.Kind), .sl a1.Old.Words.length (fl (eI .u64) a1.Old.Words), .sl a1.Old.Kids.length (fl Za a1.Old.Kids), .val (.int .i64 a1.New.Kind), .sl a1.New.Words.length (fl (eI .u64) a1.New.Words), .sl a1.New.Kids.length (fl Za a1.New.Kids), .sl a1.Words.length (fl Zh a1.Words), .sl a1.Kids.length (fl Zk a1.Kids), .val (.int .i64 a1.List_), .sl a1.Ops.length (fl Zg a1.Ops)]]⟩) (O := (Zv ((O.upd j0_0 none).upd i0 (some ⟨false, 54, 5, 1, [.val (.int .i64 a0.now.Kind), .sl a0.now.Words.length (fl (eI .u64) a0.now.Words), .sl a0.now.Kids.length (fl Za a0.now.Kids), .row n a0.done.length, .row j0_1 a0.back.length]⟩)) n [some ⟨true, 37, 11, a0.done.length, fl Zd a0.done⟩])) (n := (n + 1)) (i := i0) (j := j0_1) (k := 4) (len := a0.back.length) (q := ⟨false, 54, 5, 1, [.val (.int .i64 a0.now.Kind), .sl a0.now.Words.length (fl (eI .u64) a0.now.Words), .sl a0.now.Kids.length (fl Za a0.now.Kids), .row n a0.done.length, .row j0_1 a0.back.length]⟩) (qj := ⟨true, 37, 11, a0.back.length, fl Zd a0.back⟩) (by rw [Z6 _ hi0]; first | exact ho0 | exact Z4 _ _ _) rfl (by rw [Z6 _ Gp, Yp _ _ (Ne.symm Qk), Yp _ _ (Ne.symm Qj)]; exact Zcd) Qk (by omega)
 simp only [Z8 _ _ Gp, Z8 _ _ hi0, Yo, Yc, Xd, K4 Qk, List.set_cons_zero, List.set_cons_succ, List.cons_append, List.nil_append, List.length_cons, List.length_nil, Nat.zero_add, Nat.reduceAdd, Nat.add_assoc] at e1
 refine Qc e1 ?_
 have hU := (Und.drop (Und.drop hU j0_0) j0_1)
 have hk0 : ∀ k, i0 < n + k := fun k => by omega
 have hN0 : ∀ o, Objs.upd ((O.upd j0_0 none).upd j0_1 none) i0 o n = none := fun o => Xr hU hi0 _ (Nat.le_refl _)
 have hN : ∀ o k, Objs.upd ((O.upd j0_0 none).upd j0_1 none) i0 o (n + k) = none := fun o k => Xr hU hi0 _ (Nat.le_add_right _ _)
 show W _ _ _ _ ⟨31, [], [(0, .ref i0 0), (1, .agg (Zi a1))]⟩ (Zv (((O.upd j0_0 none).upd j0_1 none).upd i0 (some ⟨false, 54, 5, 1, [(vI a0.now.Kind), (sL (eI .u64) a0.now.Words), (sL Za a0.now.Kids), .row n a0.done.length, .row (n + 1) a0.back.length]⟩)) n [some (oR 37 11 Zd a0.done), some (oR 37 11 Zd a0.back)]) _
 refine Gj [0, 3] hi0 hk0 ?_
 refine Zl ?_
 refine Gj [0, 3, 7] hi0 hk0 ?_
 refine Zs (t := false) rfl (fun hc => by cases hc) (fun _ => ?_)
 refine Jq [0, 3] [true, true, true] ?_
 refine Zl ?_
 refine Zl ?_
 obtain ⟨y2, hy2, h⟩ := bC h
 refine J5 [] hi0 hk0 ?_
 refine (Zz6 hy2).then ?_
 refine zX2 hi0 hk0 ?_
 refine zD [0, 3, 10] [true, true, true] ?_
 refine Zs (t := (!y2)) rfl (fun c10 => ?_) (fun c10 => ?_)
 ·replace h := Zr c10 h
  refine Gj [4] hi0 hk0 ?_
  refine zW ?_
  obtain rfl := sI h
  refine X7 (k := 2) (i := i0) (q1 := ⟨false, 54, 5, 1, [(vI a0.now.Kind), (sL (eI .u64) a0.now.Words), (sL Za a0.now.Kids), .row n a0.done.length, .row (n + 1) a0.back.length]⟩) (L3 := [some (oR 37 11 Zd a0.done), some (oR 37 11 Zd a0.back), none]) (E2 := (⟨31, [], [(4, (vI 2))]⟩ : Env)) (n3 := (n + 3)) (.inr rfl) hU rfl [(vI 2)] ?_ ?_
  ·refine Fit2.trans (E' := (⟨31, [], [(4, (vI 2))]⟩ : Env)) (O' := (Zv (((O.upd j0_0 none).upd j0_1 none).upd i0 (some ⟨false, 54, 5, 1, [(vI a0.now.Kind), (sL (eI .u64) a0.now.Words), (sL Za a0.now.Kids), .row n a0.done.length, .row (n + 1) a0.back.length]⟩)) n [some (oR 37 11 Zd a0.done), some (oR 37 11 Zd a0.back), none])) (n' := (n + 3)) (Fit2.of (Z9 hU rfl rfl ?_) (by omega)) ?_
   ·exact X3 hi0 hk0
   refine Xc (k := 3) (k' := 3) hU [0, 1, 2] [0, 1, 0] rfl rfl rfl rfl ⟨rfl, rfl⟩ ?_
   exact X3 hi0 hk0
  simp only [push_cast, seval, ↓reduceIte, Zf, Try.results10, hi0, hk0, hN0, hN]
 replace h := Zq c10 h
 refine Jq [0, 3] [true, true, true] ?_
 refine Zl ?_
 refine Zl ?_
 obtain ⟨y4, hy4, h⟩ := bC h
 refine J5 [] hi0 hk0 ?_
 refine (Zcx (i0 := i0) (j0_0 := n) (j0_1 := (n + 1)) (by omega) (by omega) (by omega) (by omega) (by omega) (by omega) (by simp only [push_cast, seval, ↓reduceIte, Zf, Z5, hi0, hk0, hN0, hN] <;> rfl) (by simp only [push_cast, seval, ↓reduceIte, Zf, Z5, hi0, hk0, hN0, hN] <;> rfl) (by simp only [push_cast, seval, ↓reduceIte, Zf, Z5, hi0, hk0, hN0, hN] <;> rfl) hy4).then ?_
 refine zX2 hi0 hk0 ?_
 refine zD [0, 3, 5] [false, false, true, true, true] ?_
 refine Gj [0, 3, 5, 15] hi0 hk0 ?_
 refine Zs (t := (y4.1 != 0)) rfl (fun c9 => ?_) (fun c9 => ?_)
 ·replace h := Zr c9 h
  refine Gj [4] hi0 hk0 ?_
  refine zW ?_
  obtain rfl := sI h
  refine X7 (k := 2) (i := i0) (q1 := ⟨false, 54, 5, 1, [(vI y4.2.now.Kind), (sL (eI .u64) y4.2.now.Words), (sL Za y4.2.now.Kids), .row n y4.2.done.length, .row (n + 1) y4.2.back.length]⟩) (L3 := [some (oR 37 11 Zd y4.2.done), some (oR 37 11 Zd y4.2.back), none]) (E2 := (⟨31, [], [(4, (vI y4.1))]⟩ : Env)) (n3 := (n + 3)) (.inr rfl) hU rfl [(vI y4.1)] ?_ ?_
  ·refine Fit2.trans (E' := (⟨31, [], [(4, (vI y4.1))]⟩ : Env)) (O' := (Zv (((O.upd j0_0 none).upd j0_1 none).upd i0 (some ⟨false, 54, 5, 1, [(vI y4.2.now.Kind), (sL (eI .u64) y4.2.now.Words), (sL Za y4.2.now.Kids), .row (n + 3) y4.2.done.length, .row (n + 4) y4.2.back.length]⟩)) n [none, none, none, some (oR 37 11 Zd y4.2.done), some (oR 37 11 Zd y4.2.back)])) (n' := (n + 5)) (Fit2.of (Z9 hU rfl rfl ?_) (by omega)) ?_
   ·exact X3 hi0 hk0
   refine Xc (k := 5) (k' := 3) hU [2, 2, 2, 0, 1] [3, 4, 0] rfl rfl rfl rfl ⟨rfl, rfl⟩ ?_
   exact X3 hi0 hk0
  simp only [push_cast, seval, ↓reduceIte, Zf, Try.results10, hi0, hk0, hN0, hN]
 replace h := Zq c9 h
 refine Jq [0, 3] [false, false, true, true, true] ?_
 refine Zl ?_
 obtain ⟨y7, hy7, h⟩ := bC h
 obtain ⟨l8, pl8, ql8, el8, h⟩ := bA (k := 1) rfl h
 refine Uq Z0 (by kernel_rfl) [.plain, .plain, .plain, .low, .low, .low, .plain, .plain, .pass, .pass, .plain, .plain, .bar, .plain, .plain, .bar] (fun i => i < (n + 5) ∧ ¬ i = n + 3) [0, 1, 2, 3, 4, 5, 6, 7, 8, 9, 10, 11, 12, 13, 14, 15] [.plain, .plain, .plain, .low, .low, .low, .plain, .plain, .pass, .pass, .plain, .plain, .bar, .plain, .plain, .bar] [] (by kernel_rfl) rfl ?_
 refine zX5 pl8 ql8 el8 hi0 hk0 ?_
 refine zO ?_
 first | refine PCallA.of (fun _ _ => Zji hy7) ?_ | refine PCall.of (Zji hy7) ?_
 refine zX5 pl8 ql8 el8 hi0 hk0 ?_
 refine zO ?_
 refine Zgb ⟨31, [], []⟩ (Zv (((O.upd j0_0 none).upd j0_1 none).upd i0 (some ⟨false, 54, 5, 1, [(vI y4.2.now.Kind), (sL (eI .u64) y4.2.now.Words), (sL Za y4.2.now.Kids), .row (n + 3) l8.length, nV]⟩)) n [none, none, none, some (oR 37 11 Zd l8), none, none]) (Z9 hU rfl rfl ?_) ?_
 ·exact Yfp pl8 ql8 el8 hi0 hk0
 refine Gj [4] hi0 hk0 ?_
 refine zW ?_
 obtain rfl := sI h
 refine X7 (k := 2) (i := i0) (q1 := ⟨false, 54, 5, 1, [(vI y4.2.now.Kind), (sL (eI .u64) y4.2.now.Words), (sL Za y4.2.now.Kids), .row n l8.length, .row (n + 1) ([] : List Zc).length]⟩) (L3 := [some (oR 37 11 Zd l8), some (oR 37 11 Zd ([] : List Zc)), none]) (E2 := (⟨31, [], [(4, (vI 0))]⟩ : Env)) (n3 := (n + 3)) (.inr rfl) hU rfl [(vI 0)] ?_ ?_
 ·refine Fit2.trans (E' := (⟨31, [], [(4, (vI 0))]⟩ : Env)) (O' := (Zv (((O.upd j0_0 none).upd j0_1 none).upd i0 (some ⟨false, 54, 5, 1, [(vI y4.2.now.Kind), (sL (eI .u64) y4.2.now.Words), (sL Za y4.2.now.Kids), .row (n + 3) l8.length, nV]⟩)) n [none, none, none, some (oR 37 11 Zd l8), none, none])) (n' := (n + 6)) (Fit2.of (Z9 hU rfl rfl ?_) (by omega)) ?_
  ·exact X3 hi0 hk0
  refine Fit2.trans (Va (p := i0) (k := 4) (q := ⟨false, 54, 5, 1, [(vI y4.2.now.Kind), (sL (eI .u64) y4.2.now.Words), (sL Za y4.2.now.Kids), .row (n + 3) l8.length, nV]⟩) 37 11 (by simp only [Kl, Vq, List.getElem?_cons_zero, List.getElem?_cons_succ, Option.join_some, List.length_nil, Z4, Z6, hi0, hk0, hN0, hN]) rfl (by omega)) ?_
  simp only [Yo, Yc, Vr, Ka, List.set_cons_zero, List.set_cons_succ, List.cons_append, List.nil_append, List.length_cons, List.length_nil, Nat.zero_add, Nat.reduceAdd, Nat.reduceLT, Nat.add_assoc, Z8, Xd, hi0, hk0, hN0, hN]
  refine Xc (k := 7) (k' := 3) hU [2, 2, 2, 0, 2, 2, 1] [3, 6, 0] rfl rfl rfl rfl ⟨rfl, rfl⟩ ?_
  exact X3 hi0 hk0
 simp only [push_cast, seval, ↓reduceIte, Zf, Try.results10, hi0, hk0, hN0, hN]
theorem Za6 {a0 : Zo} {r : (Int × Int × Zo)} {O : Objs} {n : Nat} {i0 j0_0 j0_1 : Nat} (hi0 : i0 < n) (Ji : j0_0 < n) (Gp : j0_1 < n) (Xy : i0 ≠ j0_0) (Qk : i0 ≠ j0_1) (Qj : j0_0 ≠ j0_1) (ho0 : O i0 = some ⟨false, 54, 5, 1, [(vI a0.now.Kind), (sL (eI .u64) a0.now.Words), (sL Za a0.now.Kids), .row j0_0 a0.done.length, .row j0_1 a0.back.length]⟩) (Js : O j0_0 = some (oR 37 11 Zd a0.done)) (Zcd : O j0_1 = some (oR 37 11 Zd a0.back)) (h : Xu a0 = some r) : GTo Try.prog 11 [.ref i0 0] O n (.tup [(vI r.1), (vI r.2.1)]) (Zv (((O.upd j0_0 none).upd j0_1 none).upd i0 (some ⟨false, 54, 5, 1, [(vI r.2.2.now.Kind), (sL (eI .u64) r.2.2.now.Words), (sL Za r.2.2.now.Kids), .row n r.2.2.done.length, .row (n + 1) r.2.2.back.length]⟩)) n [some (oR 37 11 Zd r.2.2.done), some (oR 37 11 Zd r.2.2.back)]) (n + 2) := by
 unfold Xu at h
 refine Zi6 Z0 Try.call11 Try.func11 rfl (Nat.le_of_ble_eq_true rfl) (by omega) fun hU => ?_
 have e0 := X8 (ba := n) (E := ⟨16, [], Zc3 0 [.ref i0 0]⟩) (O := (Zv O n [])) (n := n) (i := i0) (j := j0_0) (k := 3) (len := a0.done.length) (q := ⟨false, 54, 5, 1, [.val (.int .i64 a0.now.Kind), .sl a0.now.Words.length (fl (eI .u64) a0.now.Words), .sl a0.now.Kids.length (fl Za a0.now.Kids), .row j0_0 a0.done.length, .row j0_1 a0.back.length]⟩) (qj := ⟨true, 37, 11, a0.done.length, fl Zd a0.done⟩) (by rw [Z6 _ hi0]; first | exact ho0 | exact Z4 _ _ _) rfl (by rw [Z6 _ Ji]; exact Js) Xy (by omega)
 simp only [Z8 _ _ Ji, Z8 _ _ hi0, Yo, Yc, Xd, K4 Xy, List.set_cons_zero, List.set_cons_succ, List.cons_append, List.nil_append, List.length_cons, List.length_nil, Nat.zero_add, Nat.reduceAdd, Nat.add_assoc] at e0
 refine Qc e0 ?_
 have e1 := X8 (ba := n) (E := ⟨16, [], Zc3 0 [.ref i0 0]⟩) (O := (Zv ((O.upd j0_0 none).upd i0 (some ⟨false, 54, 5, 1, [.val (.int .i64 a0.now.Kind), .sl a0.now.Words.length (fl (eI .u64) a0.now.Words), .sl a0.now.Kids.length (fl Za a0.now.Kids), .row n a0.done.length, .row j0_1 a0.back.length]⟩)) n [some ⟨true, 37, 11, a0.done.length, fl Zd a0.done⟩])) (n := (n + 1)) (i := i0) (j := j0_1) (k := 4) (len := a0.back.length) (q := ⟨false, 54, 5, 1, [.val (.int .i64 a0.now.Kind), .sl a0.now.Words.length (fl (eI .u64) a0.now.Words), .sl a0.now.Kids.length (fl Za a0.now.Kids), .row n a0.done.length, .row j0_1 a0.back.length]⟩) (qj := ⟨true, 37, 11, a0.back.length, fl Zd a0.back⟩) (by rw [Z6 _ hi0]; first | exact ho0 | exact Z4 _ _ _) rfl (by rw [Z6 _ Gp, Yp _ _ (Ne.symm Qk), Yp _ _ (Ne.symm Qj)]; exact Zcd) Qk (by omega)
 simp only [Z8 _ _ Gp, Z8 _ _ hi0, Yo, Yc, Xd, K4 Qk, List.set_cons_zero, List.set_cons_succ, List.cons_append, List.nil_append, List.length_cons, List.length_nil, Nat.zero_add, Nat.reduceAdd, Nat.add_assoc] at e1
 refine Qc e1 ?_
 have hU := (Und.drop (Und.drop hU j0_0) j0_1)
 have hk0 : ∀ k, i0 < n + k := fun k => by omega
 have hN0 : ∀ o, Objs.upd ((O.upd j0_0 none).upd j0_1 none) i0 o n = none := fun o => Xr hU hi0 _ (Nat.le_refl _)
 have hN : ∀ o k, Objs.upd ((O.upd j0_0 none).upd j0_1 none) i0 o (n + k) = none := fun o k => Xr hU hi0 _ (Nat.le_add_right _ _)
 show W _ _ _ _ ⟨16, [], [(0, .ref i0 0)]⟩ (Zv (((O.upd j0_0 none).upd j0_1 none).upd i0 (some ⟨false, 54, 5, 1, [(vI a0.now.Kind), (sL (eI .u64) a0.now.Words), (sL Za a0.now.Kids), .row n a0.done.length, .row (n + 1) a0.back.length]⟩)) n [some (oR 37 11 Zd a0.done), some (oR 37 11 Zd a0.back)]) _
 refine Gj [0] hi0 hk0 ?_
 refine Zl ?_
 refine Gj [0, 5] hi0 hk0 ?_
 refine Zs (t := false) rfl (fun hc => by cases hc) (fun _ => ?_)
 refine Jq [0] [true, true] ?_
 refine Zno [2, 3] (K9 Z0 (by kernel_rfl) [] (by kernel_rfl) ?_)
 refine zX2 hi0 hk0 ?_
 refine zW ?_
 obtain rfl := sI h
 refine X7 (k := 2) (i := i0) (q1 := ⟨false, 54, 5, 1, [(vI a0.now.Kind), (sL (eI .u64) a0.now.Words), (sL Za a0.now.Kids), .row n a0.done.length, .row (n + 1) a0.back.length]⟩) (L3 := [some (oR 37 11 Zd a0.done), some (oR 37 11 Zd a0.back), none]) (E2 := (⟨16, [], [(2, (vI (a0.done.length : Int))), (3, (vI (a0.back.length : Int)))]⟩ : Env)) (n3 := (n + 3)) (.inr rfl) hU rfl [(vI (a0.done.length : Int)), (vI (a0.back.length : Int))] ?_ ?_
 ·refine Fit2.trans (E' := (⟨16, [], [(2, (vI (a0.done.length : Int))), (3, (vI (a0.back.length : Int)))]⟩ : Env)) (O' := (Zv (((O.upd j0_0 none).upd j0_1 none).upd i0 (some ⟨false, 54, 5, 1, [(vI a0.now.Kind), (sL (eI .u64) a0.now.Words), (sL Za a0.now.Kids), .row n a0.done.length, .row (n + 1) a0.back.length]⟩)) n [some (oR 37 11 Zd a0.done), some (oR 37 11 Zd a0.back)])) (n' := (n + 2)) (Fit2.of (Z9 hU rfl rfl ?_) (by omega)) ?_
  ·exact X3 hi0 hk0
  refine Xc (k := 2) (k' := 3) hU [0, 1] [0, 1, 0] rfl rfl rfl rfl ⟨rfl, rfl⟩ ?_
  exact X3 hi0 hk0
 simp only [push_cast, seval, ↓reduceIte, Zf, Try.results11, hi0, hk0, hN0, hN]
attribute [local push_cast] Try.results12 Try.results15 Try.results20 Try.results26 Try.results33 Try.results34 Try.results35 Try.results42 Try.results47 Try.results6 Try.results60 Try.results62 Try.results63 Try.results64 Try.results9
def Zf8 (Qb : (Zc → Option Zc)) : Prop := ∀ {a0 : Zc} {r : Zc} {O : Objs} {n : Nat}, Qb a0 = some r → GTo Try.prog 42 [.agg (Zi a0)] O n (.agg (Zi r)) O n
def Zep (Xx : (Zm → Option Zm)) : Prop := ∀ {a0 : Zm} {r : Zm} {O : Objs} {n : Nat}, Xx a0 = some r → GTo Try.prog 60 [.agg (Yq a0)] O n (.agg (Yq r)) O n
theorem Zsg {Qb : (Zc → Option Zc)} {Xx : (Zm → Option Zm)} (Zdd : Zf8 Qb) (Zer : Zep Xx) {a0 : Zc} {r : Zc} {O : Objs} {n : Nat} (h : Zdi Qb Xx a0 = some r) : GTo Try.prog 42 [.agg (Zi a0)] O n (.agg (Zi r)) O n := by
 unfold Zdi at h
 refine zFn Try.call42 Try.func42 fun hU hN0 hN => ?_
 show W _ _ _ _ ⟨76, [], [(0, .agg (Zi a0))]⟩ (Zv O n []) _
 refine zQ [1, 2] ?_
 refine Zl ?_
 refine zRd [1, 2, 3] [true, true, true] ?_
 refine Zl ?_
 refine zQd [1, 2, 3, 20, 21, 22] [1, 2, 3, 20, 21, 22] [true, true, true] ?_
 refine Qc (E' := (⟨76, [], [(1, .ref n 0), (2, .ref (n + 1) 0), (3, .ref (n + 2) 0), (20, (sL Zh a0.Words)), (21, (vI (a0.Words.length : Int))), (22, (vI 0))]⟩ : Env)) (O' := (Zv O n [some ⟨false, 37, 11, 1, (Zi a0)⟩, some ⟨false, 37, 11, 1, [(vI 0), (vI 0), nV, nV, (vI 0), nV, nV, nV, nV, (vI 0), nV]⟩, some ⟨false, 37, 11, 1, [(vI a0.Kind), (vI a0.New.Kind), (sL (eI .u64) a0.New.Words), (sL Za a0.New.Kids), (vI a0.Old.Kind), (sL (eI .u64) a0.Old.Words), (sL Za a0.Old.Kids), .row (n + 3) ([] : List Zu).length, nV, (vI a0.List_), nV]⟩, some (oR 52 4 Zh ([] : List Zu)), none])) (n' := (n + 5)) ?_ ?_
 ·refine Fit2.trans (E' := (⟨76, [], [(1, .ref n 0), (2, .ref (n + 1) 0), (3, .ref (n + 2) 0), (20, (sL Zh a0.Words)), (21, (vI (a0.Words.length : Int))), (22, (vI 0))]⟩ : Env)) (O' := (Zv O n [some ⟨false, 37, 11, 1, (Zi a0)⟩, some ⟨false, 37, 11, 1, [(vI 0), (vI 0), nV, nV, (vI 0), nV, nV, nV, nV, (vI 0), nV]⟩, some ⟨false, 37, 11, 1, [(vI a0.Kind), (vI a0.New.Kind), (sL (eI .u64) a0.New.Words), (sL Za a0.New.Kids), (vI a0.Old.Kind), (sL (eI .u64) a0.Old.Words), (sL Za a0.Old.Kids), nV, nV, (vI a0.List_), nV]⟩])) (n' := (n + 3)) (Fit2.of (Yw hU rfl rfl ?_) (by omega)) ?_
  ·exact zSe
  refine Fit2.trans (Va (p := (n + 2)) (k := 7) (q := ⟨false, 37, 11, 1, [(vI a0.Kind), (vI a0.New.Kind), (sL (eI .u64) a0.New.Words), (sL Za a0.New.Kids), (vI a0.Old.Kind), (sL (eI .u64) a0.Old.Words), (sL Za a0.Old.Kids), nV, nV, (vI a0.List_), nV]⟩) 52 4 (by simp only [Kl, Vq, List.getElem?_cons_zero, List.getElem?_cons_succ, Option.join_some, List.length_nil, Z4]) rfl (by omega)) ?_
  simp only [Yo, Yc, Vr, Ka, List.set_cons_zero, List.set_cons_succ, List.cons_append, List.nil_append, List.length_cons, List.length_nil, Nat.zero_add, Nat.reduceAdd, Nat.reduceLT, Nat.add_assoc]
  refine Q9 (k := 4) (k' := 5) hU [0, 1, 2, 3] [0, 1, 2, 3, 0] rfl rfl rfl rfl ⟨rfl, rfl⟩ ?_
  exact zSe
 obtain ⟨z5, hz5, h⟩ := bC h
 refine Yu (E' := ⟨76, [], [(1, .ref n 0), (2, .ref (n + 1) 0), (3, .ref (n + 2) 0)]⟩) (O' := (Zv O n [some ⟨false, 37, 11, 1, (Zi a0)⟩, some ⟨false, 37, 11, 1, [(vI 0), (vI 0), nV, nV, (vI 0), nV, nV, nV, nV, (vI 0), nV]⟩, some ⟨false, 37, 11, 1, [(vI a0.Kind), (vI a0.New.Kind), (sL (eI .u64) a0.New.Words), (sL Za a0.New.Kids), (vI a0.Old.Kind), (sL (eI .u64) a0.Old.Words), (sL Za a0.Old.Kids), .row (n + 3) z5.length, nV, (vI a0.List_), nV]⟩, some (oR 52 4 Zh z5), none])) (n0 := (n + 5)) ?_ ?_
 ·refine Y9 hz5 (fun s0_ => ⟨76, [], [(1, .ref n 0), (2, .ref (n + 1) 0), (3, .ref (n + 2) 0), (20, (sL Zh a0.Words)), (21, (vI (a0.Words.length : Int))), (22, (vI s0_.1))]⟩) (fun s0_ => (Zv O n [some ⟨false, 37, 11, 1, (Zi a0)⟩, some ⟨false, 37, 11, 1, [(vI 0), (vI 0), nV, nV, (vI 0), nV, nV, nV, nV, (vI 0), nV]⟩, some ⟨false, 37, 11, 1, [(vI a0.Kind), (vI a0.New.Kind), (sL (eI .u64) a0.New.Words), (sL Za a0.New.Kids), (vI a0.Old.Kind), (sL (eI .u64) a0.Old.Words), (sL Za a0.Old.Kids), .row (n + 3) s0_.2.length, nV, (vI a0.List_), nV]⟩, some (oR 52 4 Zh s0_.2), none])) (fun z5 => JX 0 n (⟨76, [], [(1, .ref n 0), (2, .ref (n + 1) 0), (3, .ref (n + 2) 0)]⟩ : Env) (Zv O n [some ⟨false, 37, 11, 1, (Zi a0)⟩, some ⟨false, 37, 11, 1, [(vI 0), (vI 0), nV, nV, (vI 0), nV, nV, nV, nV, (vI 0), nV]⟩, some ⟨false, 37, 11, 1, [(vI a0.Kind), (vI a0.New.Kind), (sL (eI .u64) a0.New.Words), (sL Za a0.New.Kids), (vI a0.Old.Kind), (sL (eI .u64) a0.Old.Words), (sL Za a0.Old.Kids), .row (n + 3) z5.length, nV, (vI a0.List_), nV]⟩, some (oR 52 4 Zh z5), none]) (n + 5)) ?_
  intro s0_ x0_ hs0_
  unfold G0 at hs0_
  try dsimp only
  refine zQ [1, 2, 3, 20, 21, 22, 23] ?_
  refine Zl ?_
  refine Zs (t := (decide (s0_.1 < (a0.Words.length : Int)))) rfl (fun c4 => ?_) (fun c4 => ?_)
  ·replace hs0_ := Zr c4 hs0_
   refine Jq [1, 2, 3, 20, 21, 22] [true, true, true, true, false] ?_
   refine Zl ?_
   refine Yl ?_
   refine Zl ?_
   obtain ⟨x2, hx2, ax2, bx2, cx2, hs0_⟩ := bE (f := Zh) Zu1 (fun _ => rfl) (by decide) hs0_
   refine Zc2 [] ax2 bx2 cx2 ?_
   refine zD [1, 2, 3, 5, 20, 21, 22] [true, true, true, true, false, true] ?_
   obtain ⟨l3, pl3, ql3, el3, hs0_⟩ := bA (k := 1) rfl hs0_
   refine Zgh [] pl3 ql3 el3 ?_
   refine Zgb ⟨76, [], [(1, .ref n 0), (2, .ref (n + 1) 0), (3, .ref (n + 2) 0), (20, (sL Zh a0.Words)), (21, (vI (a0.Words.length : Int))), (22, (vI s0_.1))]⟩ (Zv O n [some ⟨false, 37, 11, 1, (Zi a0)⟩, some ⟨false, 37, 11, 1, [(vI 0), (vI 0), nV, nV, (vI 0), nV, nV, nV, nV, (vI 0), nV]⟩, some ⟨false, 37, 11, 1, [(vI a0.Kind), (vI a0.New.Kind), (sL (eI .u64) a0.New.Words), (sL Za a0.New.Kids), (vI a0.Old.Kind), (sL (eI .u64) a0.Old.Words), (sL Za a0.Old.Kids), .row (n + 3) l3.length, nV, (vI a0.List_), nV]⟩, some (oR 52 4 Zh l3), none, none, none]) (Yw hU rfl rfl ?_) ?_
   ·exact Zzy pl3 ql3 el3
   refine zR ?_
   exact zEn hs0_
  replace hs0_ := Zq c4 hs0_
  exact zEx hs0_
 try simp only [Y2, Ye, ↓reduceIte, Nat.reduceEqDiff]
 refine zDs [1, 2, 3] [true, true, true, true, false] ?_
 refine zQd [1, 2, 3, 42, 43, 44] [1, 2, 3, 42, 43, 44] [true, true, true, true, false] ?_
 refine Qc (E' := (⟨76, [], [(1, .ref n 0), (2, .ref (n + 1) 0), (3, .ref (n + 2) 0), (42, (sL Zk a0.Kids)), (43, (vI (a0.Kids.length : Int))), (44, (vI 0))]⟩ : Env)) (O' := (Zv O n [some ⟨false, 37, 11, 1, (Zi a0)⟩, some ⟨false, 37, 11, 1, [(vI 0), (vI 0), nV, nV, (vI 0), nV, nV, nV, nV, (vI 0), nV]⟩, some ⟨false, 37, 11, 1, [(vI a0.Kind), (vI a0.New.Kind), (sL (eI .u64) a0.New.Words), (sL Za a0.New.Kids), (vI a0.Old.Kind), (sL (eI .u64) a0.Old.Words), (sL Za a0.Old.Kids), .row (n + 3) z5.length, .row (n + 5) ([] : List Zp).length, (vI a0.List_), nV]⟩, some (oR 52 4 Zh z5), none, some (oR 65 12 Zk ([] : List Zp)), none])) (n' := (n + 7)) ?_ ?_
 ·refine Fit2.trans (E' := (⟨76, [], [(1, .ref n 0), (2, .ref (n + 1) 0), (3, .ref (n + 2) 0), (42, (sL Zk a0.Kids)), (43, (vI (a0.Kids.length : Int))), (44, (vI 0))]⟩ : Env)) (O' := (Zv O n [some ⟨false, 37, 11, 1, (Zi a0)⟩, some ⟨false, 37, 11, 1, [(vI 0), (vI 0), nV, nV, (vI 0), nV, nV, nV, nV, (vI 0), nV]⟩, some ⟨false, 37, 11, 1, [(vI a0.Kind), (vI a0.New.Kind), (sL (eI .u64) a0.New.Words), (sL Za a0.New.Kids), (vI a0.Old.Kind), (sL (eI .u64) a0.Old.Words), (sL Za a0.Old.Kids), .row (n + 3) z5.length, nV, (vI a0.List_), nV]⟩, some (oR 52 4 Zh z5), none])) (n' := (n + 5)) (Fit2.of (Yw hU rfl rfl ?_) (by omega)) ?_
  ·exact zSe
  refine Fit2.trans (Va (p := (n + 2)) (k := 8) (q := ⟨false, 37, 11, 1, [(vI a0.Kind), (vI a0.New.Kind), (sL (eI .u64) a0.New.Words), (sL Za a0.New.Kids), (vI a0.Old.Kind), (sL (eI .u64) a0.Old.Words), (sL Za a0.Old.Kids), .row (n + 3) z5.length, nV, (vI a0.List_), nV]⟩) 65 12 (by simp only [Kl, Vq, List.getElem?_cons_zero, List.getElem?_cons_succ, Option.join_some, List.length_nil, Z4]) rfl (by omega)) ?_
  simp only [Yo, Yc, Vr, Ka, List.set_cons_zero, List.set_cons_succ, List.cons_append, List.nil_append, List.length_cons, List.length_nil, Nat.zero_add, Nat.reduceAdd, Nat.reduceLT, Nat.add_assoc]
  refine Q9 (k := 6) (k' := 7) hU [0, 1, 2, 3, 6, 5] [0, 1, 2, 3, 0, 5, 0] rfl rfl rfl rfl ⟨rfl, rfl⟩ ?_
  exact zSe
 obtain ⟨z11, hz11, h⟩ := bC h
 refine Yu (E' := ⟨76, [], [(1, .ref n 0), (2, .ref (n + 1) 0), (3, .ref (n + 2) 0)]⟩) (O' := (Zv O n [some ⟨false, 37, 11, 1, (Zi a0)⟩, some ⟨false, 37, 11, 1, [(vI 0), (vI 0), nV, nV, (vI 0), nV, nV, nV, nV, (vI 0), nV]⟩, some ⟨false, 37, 11, 1, [(vI a0.Kind), (vI a0.New.Kind), (sL (eI .u64) a0.New.Words), (sL Za a0.New.Kids), (vI a0.Old.Kind), (sL (eI .u64) a0.Old.Words), (sL Za a0.Old.Kids), .row (n + 3) z5.length, .row (n + 5) z11.length, (vI a0.List_), nV]⟩, some (oR 52 4 Zh z5), none, some (oR 65 12 Zk z11), none])) (n0 := (n + 7)) ?_ ?_
 ·refine Y9 hz11 (fun s1_ => ⟨76, [], [(1, .ref n 0), (2, .ref (n + 1) 0), (3, .ref (n + 2) 0), (42, (sL Zk a0.Kids)), (43, (vI (a0.Kids.length : Int))), (44, (vI s1_.1))]⟩) (fun s1_ => (Zv O n [some ⟨false, 37, 11, 1, (Zi a0)⟩, some ⟨false, 37, 11, 1, [(vI 0), (vI 0), nV, nV, (vI 0), nV, nV, nV, nV, (vI 0), nV]⟩, some ⟨false, 37, 11, 1, [(vI a0.Kind), (vI a0.New.Kind), (sL (eI .u64) a0.New.Words), (sL Za a0.New.Kids), (vI a0.Old.Kind), (sL (eI .u64) a0.Old.Words), (sL Za a0.Old.Kids), .row (n + 3) z5.length, .row (n + 5) s1_.2.length, (vI a0.List_), nV]⟩, some (oR 52 4 Zh z5), none, some (oR 65 12 Zk s1_.2), none])) (fun z11 => JX 2 n (⟨76, [], [(1, .ref n 0), (2, .ref (n + 1) 0), (3, .ref (n + 2) 0)]⟩ : Env) (Zv O n [some ⟨false, 37, 11, 1, (Zi a0)⟩, some ⟨false, 37, 11, 1, [(vI 0), (vI 0), nV, nV, (vI 0), nV, nV, nV, nV, (vI 0), nV]⟩, some ⟨false, 37, 11, 1, [(vI a0.Kind), (vI a0.New.Kind), (sL (eI .u64) a0.New.Words), (sL Za a0.New.Kids), (vI a0.Old.Kind), (sL (eI .u64) a0.Old.Words), (sL Za a0.Old.Kids), .row (n + 3) z5.length, .row (n + 5) z11.length, (vI a0.List_), nV]⟩, some (oR 52 4 Zh z5), none, some (oR 65 12 Zk z11), none]) (n + 7)) ?_
  intro s1_ x1_ hs1_
  unfold Zaa at hs1_
  try dsimp only
  refine zQ [1, 2, 3, 42, 43, 44, 45] ?_
  refine Zl ?_
  refine Zs (t := (decide (s1_.1 < (a0.Kids.length : Int)))) rfl (fun c10 => ?_) (fun c10 => ?_)
  ·replace hs1_ := Zr c10 hs1_
   refine Jq [1, 2, 3, 42, 43, 44] [true, true, true, true, false, true, false] ?_
   refine Zl ?_
   refine Yl ?_
   refine Zl ?_
   obtain ⟨x7, hx7, ax7, bx7, cx7, hs1_⟩ := bE (f := Zk) Zon (fun _ => rfl) (by decide) hs1_
   refine Zc2 [] ax7 bx7 cx7 ?_
   refine zD [1, 2, 3, 7, 42, 43, 44] [true, true, true, true, false, true, false, true] ?_
   obtain ⟨y8, hy8, hs1_⟩ := bC hs1_
   obtain ⟨l9, pl9, ql9, el9, hs1_⟩ := bA (k := 1) rfl hs1_
   refine Uq Z0 (by kernel_rfl) [.low, .low, .plain, .plain, .plain, .plain, .plain, .plain, .pass, .bar, .plain, .bar] (fun i => i < (n + 8)) [0, 1, 2, 3, 4, 5, 6, 7, 8, 9, 10, 11] [.low, .low, .plain, .plain, .plain, .plain, .plain, .plain, .pass, .bar, .plain, .bar] [] (by kernel_rfl) rfl ?_
   refine zX3 pl9 ql9 el9 ?_
   refine zO ?_
   first | refine PCallA.of (fun _ _ => Zdd hy8) ?_ | refine PCall.of (Zdd hy8) ?_
   refine zX3 pl9 ql9 el9 ?_
   refine zO ?_
   refine Zgb ⟨76, [], [(1, .ref n 0), (2, .ref (n + 1) 0), (3, .ref (n + 2) 0), (42, (sL Zk a0.Kids)), (43, (vI (a0.Kids.length : Int))), (44, (vI s1_.1))]⟩ (Zv O n [some ⟨false, 37, 11, 1, (Zi a0)⟩, some ⟨false, 37, 11, 1, [(vI 0), (vI 0), nV, nV, (vI 0), nV, nV, nV, nV, (vI 0), nV]⟩, some ⟨false, 37, 11, 1, [(vI a0.Kind), (vI a0.New.Kind), (sL (eI .u64) a0.New.Words), (sL Za a0.New.Kids), (vI a0.Old.Kind), (sL (eI .u64) a0.Old.Words), (sL Za a0.Old.Kids), .row (n + 3) z5.length, .row (n + 5) l9.length, (vI a0.List_), nV]⟩, some (oR 52 4 Zh z5), none, some (oR 65 12 Zk l9), none, none, none]) (Yw hU rfl rfl ?_) ?_
   ·exact Zzy pl9 ql9 el9
   refine zR ?_
   exact zEn hs1_
  replace hs1_ := Zq c10 hs1_
  exact zEx hs1_
 try simp only [Y2, Ye, ↓reduceIte, Nat.reduceEqDiff]
 refine zDs [1, 2, 3] [true, true, true, true, false, true, false] ?_
 refine zQd [2, 3, 61, 62, 63] [2, 3, 61, 62, 63] [false, true, true, true, false, true, false] ?_
 refine Qc (E' := (⟨76, [], [(2, .ref (n + 1) 0), (3, .ref (n + 2) 0), (61, (sL Zg a0.Ops)), (62, (vI (a0.Ops.length : Int))), (63, (vI 0))]⟩ : Env)) (O' := (Zv O n [none, some ⟨false, 37, 11, 1, [(vI 0), (vI 0), nV, nV, (vI 0), nV, nV, nV, nV, (vI 0), nV]⟩, some ⟨false, 37, 11, 1, [(vI a0.Kind), (vI a0.New.Kind), (sL (eI .u64) a0.New.Words), (sL Za a0.New.Kids), (vI a0.Old.Kind), (sL (eI .u64) a0.Old.Words), (sL Za a0.Old.Kids), .row (n + 3) z5.length, .row (n + 5) z11.length, (vI a0.List_), .row (n + 7) ([] : List Zm).length]⟩, some (oR 52 4 Zh z5), none, some (oR 65 12 Zk z11), none, some (oR 68 14 Zg ([] : List Zm)), none])) (n' := (n + 9)) ?_ ?_
 ·refine Fit2.trans (E' := (⟨76, [], [(2, .ref (n + 1) 0), (3, .ref (n + 2) 0), (61, (sL Zg a0.Ops)), (62, (vI (a0.Ops.length : Int))), (63, (vI 0))]⟩ : Env)) (O' := (Zv O n [none, some ⟨false, 37, 11, 1, [(vI 0), (vI 0), nV, nV, (vI 0), nV, nV, nV, nV, (vI 0), nV]⟩, some ⟨false, 37, 11, 1, [(vI a0.Kind), (vI a0.New.Kind), (sL (eI .u64) a0.New.Words), (sL Za a0.New.Kids), (vI a0.Old.Kind), (sL (eI .u64) a0.Old.Words), (sL Za a0.Old.Kids), .row (n + 3) z5.length, .row (n + 5) z11.length, (vI a0.List_), nV]⟩, some (oR 52 4 Zh z5), none, some (oR 65 12 Zk z11), none])) (n' := (n + 7)) (Fit2.of (Yw hU rfl rfl ?_) (by omega)) ?_
  ·exact zSe
  refine Fit2.trans (Va (p := (n + 2)) (k := 10) (q := ⟨false, 37, 11, 1, [(vI a0.Kind), (vI a0.New.Kind), (sL (eI .u64) a0.New.Words), (sL Za a0.New.Kids), (vI a0.Old.Kind), (sL (eI .u64) a0.Old.Words), (sL Za a0.Old.Kids), .row (n + 3) z5.length, .row (n + 5) z11.length, (vI a0.List_), nV]⟩) 68 14 (by simp only [Kl, Vq, List.getElem?_cons_zero, List.getElem?_cons_succ, Option.join_some, List.length_nil, Z4]) rfl (by omega)) ?_
  simp only [Yo, Yc, Vr, Ka, List.set_cons_zero, List.set_cons_succ, List.cons_append, List.nil_append, List.length_cons, List.length_nil, Nat.zero_add, Nat.reduceAdd, Nat.reduceLT, Nat.add_assoc]
  refine Q9 (k := 8) (k' := 9) hU [8, 1, 2, 3, 8, 5, 8, 7] [0, 1, 2, 3, 0, 5, 0, 7, 0] rfl rfl rfl rfl ⟨rfl, rfl⟩ ?_
  exact zSe
 obtain ⟨z17, hz17, h⟩ := bC h
 refine Yu (E' := ⟨76, [], [(2, .ref (n + 1) 0), (3, .ref (n + 2) 0)]⟩) (O' := (Zv O n [none, some ⟨false, 37, 11, 1, [(vI 0), (vI 0), nV, nV, (vI 0), nV, nV, nV, nV, (vI 0), nV]⟩, some ⟨false, 37, 11, 1, [(vI a0.Kind), (vI a0.New.Kind), (sL (eI .u64) a0.New.Words), (sL Za a0.New.Kids), (vI a0.Old.Kind), (sL (eI .u64) a0.Old.Words), (sL Za a0.Old.Kids), .row (n + 3) z5.length, .row (n + 5) z11.length, (vI a0.List_), .row (n + 7) z17.length]⟩, some (oR 52 4 Zh z5), none, some (oR 65 12 Zk z11), none, some (oR 68 14 Zg z17), none])) (n0 := (n + 9)) ?_ ?_
 ·refine Y9 hz17 (fun s2_ => ⟨76, [], [(2, .ref (n + 1) 0), (3, .ref (n + 2) 0), (61, (sL Zg a0.Ops)), (62, (vI (a0.Ops.length : Int))), (63, (vI s2_.1))]⟩) (fun s2_ => (Zv O n [none, some ⟨false, 37, 11, 1, [(vI 0), (vI 0), nV, nV, (vI 0), nV, nV, nV, nV, (vI 0), nV]⟩, some ⟨false, 37, 11, 1, [(vI a0.Kind), (vI a0.New.Kind), (sL (eI .u64) a0.New.Words), (sL Za a0.New.Kids), (vI a0.Old.Kind), (sL (eI .u64) a0.Old.Words), (sL Za a0.Old.Kids), .row (n + 3) z5.length, .row (n + 5) z11.length, (vI a0.List_), .row (n + 7) s2_.2.length]⟩, some (oR 52 4 Zh z5), none, some (oR 65 12 Zk z11), none, some (oR 68 14 Zg s2_.2), none])) (fun z17 => JX 4 n (⟨76, [], [(2, .ref (n + 1) 0), (3, .ref (n + 2) 0)]⟩ : Env) (Zv O n [none, some ⟨false, 37, 11, 1, [(vI 0), (vI 0), nV, nV, (vI 0), nV, nV, nV, nV, (vI 0), nV]⟩, some ⟨false, 37, 11, 1, [(vI a0.Kind), (vI a0.New.Kind), (sL (eI .u64) a0.New.Words), (sL Za a0.New.Kids), (vI a0.Old.Kind), (sL (eI .u64) a0.Old.Words), (sL Za a0.Old.Kids), .row (n + 3) z5.length, .row (n + 5) z11.length, (vI a0.List_), .row (n + 7) z17.length]⟩, some (oR 52 4 Zh z5), none, some (oR 65 12 Zk z11), none, some (oR 68 14 Zg z17), none]) (n + 9)) ?_
  intro s2_ x2_ hs2_
  unfold Zab at hs2_
  try dsimp only
  refine zQ [2, 3, 61, 62, 63, 64] ?_
  refine Zl ?_
  refine Zs (t := (decide (s2_.1 < (a0.Ops.length : Int)))) rfl (fun c16 => ?_) (fun c16 => ?_)
  ·replace hs2_ := Zr c16 hs2_
   refine Jq [2, 3, 61, 62, 63] [false, true, true, true, false, true, false, true, false] ?_
   refine Zl ?_
   refine Yl ?_
   refine Zl ?_
   obtain ⟨x13, hx13, ax13, bx13, cx13, hs2_⟩ := bE (f := Zg) Zhg (fun _ => rfl) (by decide) hs2_
   refine Zc2 [] ax13 bx13 cx13 ?_
   refine zD [2, 3, 9, 61, 62, 63] [false, true, true, true, false, true, false, true, false, true] ?_
   obtain ⟨y14, hy14, hs2_⟩ := bC hs2_
   obtain ⟨l15, pl15, ql15, el15, hs2_⟩ := bA (k := 1) rfl hs2_
   refine Uq Z0 (by kernel_rfl) [.low, .low, .plain, .plain, .pass, .bar, .plain, .bar] (fun i => i < (n + 10)) [0, 1, 2, 3, 4, 5, 6, 7] [.low, .low, .plain, .plain, .pass, .bar, .plain, .bar] [] (by kernel_rfl) rfl ?_
   refine zX3 pl15 ql15 el15 ?_
   refine zO ?_
   first | refine PCallA.of (fun _ _ => Zer hy14) ?_ | refine PCall.of (Zer hy14) ?_
   refine zX3 pl15 ql15 el15 ?_
   refine zO ?_
   refine Zgb ⟨76, [], [(2, .ref (n + 1) 0), (3, .ref (n + 2) 0), (61, (sL Zg a0.Ops)), (62, (vI (a0.Ops.length : Int))), (63, (vI s2_.1))]⟩ (Zv O n [none, some ⟨false, 37, 11, 1, [(vI 0), (vI 0), nV, nV, (vI 0), nV, nV, nV, nV, (vI 0), nV]⟩, some ⟨false, 37, 11, 1, [(vI a0.Kind), (vI a0.New.Kind), (sL (eI .u64) a0.New.Words), (sL Za a0.New.Kids), (vI a0.Old.Kind), (sL (eI .u64) a0.Old.Words), (sL Za a0.Old.Kids), .row (n + 3) z5.length, .row (n + 5) z11.length, (vI a0.List_), .row (n + 7) l15.length]⟩, some (oR 52 4 Zh z5), none, some (oR 65 12 Zk z11), none, some (oR 68 14 Zg l15), none, none, none]) (Yw hU rfl rfl ?_) ?_
   ·exact Zzy pl15 ql15 el15
   refine zR ?_
   exact zEn hs2_
  replace hs2_ := Zq c16 hs2_
  exact zEx hs2_
 try simp only [Y2, Ye, ↓reduceIte, Nat.reduceEqDiff]
 refine zDs [2, 3] [false, true, true, true, false, true, false, true, false] ?_
 refine zRd [2] [false, true, false, true, false, true, false, true, false] ?_
 exact Y4 [.agg [(vI a0.Kind), (vI a0.New.Kind), (sL (eI .u64) a0.New.Words), (sL Za a0.New.Kids), (vI a0.Old.Kind), (sL (eI .u64) a0.Old.Words), (sL Za a0.Old.Kids), .row (n + 3) z5.length, .row (n + 5) z11.length, (vI a0.List_), .row (n + 7) z17.length]]
theorem Zqf {Qb : (Zc → Option Zc)} {Xx : (Zm → Option Zm)} (Zdd : Zf8 Qb) (Zer : Zep Xx) {a0 : Zm} {r : Zm} {O : Objs} {n : Nat} (h : Zbg Qb Xx a0 = some r) : GTo Try.prog 60 [.agg (Yq a0)] O n (.agg (Yq r)) O n := by
 unfold Zbg at h
 refine zFn Try.call60 Try.func60 fun hU hN0 hN => ?_
 show W _ _ _ _ ⟨18, [], [(0, .agg (Yq a0))]⟩ (Zv O n []) _
 refine zQ [1, 2] ?_
 obtain ⟨z1, hz1, h⟩ := bC h
 refine Y6 (E' := ⟨18, [], [(1, .ref n 0), (2, .ref (n + 1) 0)]⟩) (O' := (Zv O n [some ⟨false, 68, 14, 1, [(vI z1.1), (vI a0.N), (sL Za a0.L), (vI z1.2.1), (vI z1.2.2.1), (sL (eI .u64) z1.2.2.2.1), (sL Za z1.2.2.2.2.1), (vI z1.2.2.2.2.2.1), (sL (eI .u64) z1.2.2.2.2.2.2.1), (sL Za z1.2.2.2.2.2.2.2.1), (sL Zh z1.2.2.2.2.2.2.2.2.1), (sL Zk z1.2.2.2.2.2.2.2.2.2.1), (vI z1.2.2.2.2.2.2.2.2.2.2.1), (sL Zg z1.2.2.2.2.2.2.2.2.2.2.2)]⟩, some ⟨false, 68, 14, 1, [(vI 0), (vI 0), nV, (vI 0), (vI 0), nV, nV, (vI 0), nV, nV, nV, nV, (vI 0), nV]⟩])) (n0 := (n + 2)) ?_ ?_
 ·refine zQ [1, 2, 4] ?_
  refine Yl ?_
  refine zQ [1, 2, 4, 5] ?_
  refine Zs (t := (a0.Kind == 1)) rfl (fun c5 => ?_) (fun c5 => ?_)
  ·replace hz1 := Zr c5 hz1
   refine zR ?_
   exact zEn hz1
  replace hz1 := Zq c5 hz1
  refine zQ [1, 2, 4, 8] ?_
  refine Zs (t := (a0.Kind == 2)) rfl (fun c4 => ?_) (fun c4 => ?_)
  ·replace hz1 := Zr c4 hz1
   refine zR ?_
   exact zEn hz1
  replace hz1 := Zq c4 hz1
  refine zQ [1, 2, 11] ?_
  refine Zs (t := (a0.Kind == 3)) rfl (fun c3 => ?_) (fun c3 => ?_)
  ·replace hz1 := Zr c3 hz1
   obtain ⟨y2, hy2, hz1⟩ := bC hz1
   refine zC (Zdd hy2) ?_
   exact zEn hz1
  replace hz1 := Zq c3 hz1
  refine zK ?_
  exact zEn hz1
 refine Zl ?_
 refine zRd [2] [false, true] ?_
 exact Y4 [.agg [(vI z1.1), (vI a0.N), (sL Za a0.L), (vI z1.2.1), (vI z1.2.2.1), (sL (eI .u64) z1.2.2.2.1), (sL Za z1.2.2.2.2.1), (vI z1.2.2.2.2.2.1), (sL (eI .u64) z1.2.2.2.2.2.2.1), (sL Za z1.2.2.2.2.2.2.2.1), (sL Zh z1.2.2.2.2.2.2.2.2.1), (sL Zk z1.2.2.2.2.2.2.2.2.2.1), (vI z1.2.2.2.2.2.2.2.2.2.2.1), (sL Zg z1.2.2.2.2.2.2.2.2.2.2.2)]]
theorem Zp7 : ∀ k, (Zf8 ((Xj k).1)) ∧ (Zep ((Xj k).2)) := fun k => by
 induction k with
 | zero => exact ⟨@fun a0 r O n h => (nomatch (show (none : Option _) = some _ from h)), @fun a0 r O n h => (nomatch (show (none : Option _) = some _ from h))⟩
 | succ k ih => exact ⟨@fun a0 r O n h => Zsg (ih.1) (ih.2)  h, @fun a0 r O n h => Zqf (ih.1) (ih.2)  h⟩
theorem Zt9 {a0 : Zc} {r : Zc} {O : Objs} {n : Nat} (h : Zik a0 = some r) : GTo Try.prog 42 [.agg (Zi a0)] O n (.agg (Zi r)) O n := by
 obtain ⟨k, hk⟩ := Zaf h
 exact (Zp7 k).1  hk
theorem Zy3 {a0 : Zc} {r : Zc} {O : Objs} {n : Nat} (h : Zft a0 = some r) : GTo Try.prog 26 [.agg (Zi a0)] O n (.agg (Zi r)) O n := by
 unfold Zft at h
 refine zFn Try.call26 Try.func26 fun hU hN0 hN => ?_
 show W _ _ _ _ ⟨6, [], [(0, .agg (Zi a0))]⟩ (Zv O n []) _
 refine zQ [1, 2] ?_
 refine Zl ?_
 obtain ⟨y3, hy3, h⟩ := bC h
 obtain ⟨y4, hy4, h⟩ := bC h
 refine zC (Zt9 hy3) ?_
 refine zTs (Zji hy4) ?_
 refine zD [2] [false, true] ?_
 exact Y4 [.agg (Zi y4)]
theorem Ux {a0 : Zo} {r : (Bool × Zo)} {O : Objs} {n : Nat} {i0 j0_0 j0_1 : Nat} (hi0 : i0 < n) (Ji : j0_0 < n) (Gp : j0_1 < n) (Xy : i0 ≠ j0_0) (Qk : i0 ≠ j0_1) (Qj : j0_0 ≠ j0_1) (ho0 : O i0 = some ⟨false, 54, 5, 1, [(vI a0.now.Kind), (sL (eI .u64) a0.now.Words), (sL Za a0.now.Kids), .row j0_0 a0.done.length, .row j0_1 a0.back.length]⟩) (Js : O j0_0 = some (oR 37 11 Zd a0.done)) (Zcd : O j0_1 = some (oR 37 11 Zd a0.back)) (h : Qf a0 = some r) : GTo Try.prog 12 [.ref i0 0] O n ((vB r.1)) (Zv (((O.upd j0_0 none).upd j0_1 none).upd i0 (some ⟨false, 54, 5, 1, [(vI r.2.now.Kind), (sL (eI .u64) r.2.now.Words), (sL Za r.2.now.Kids), .row n r.2.done.length, .row (n + 1) r.2.back.length]⟩)) n [some (oR 37 11 Zd r.2.done), some (oR 37 11 Zd r.2.back)]) (n + 2) := by
 unfold Qf at h
 refine Zi6 Z0 Try.call12 Try.func12 rfl (Nat.le_of_ble_eq_true rfl) (by omega) fun hU => ?_
 have e0 := X8 (ba := n) (E := ⟨53, [], Zc3 0 [.ref i0 0]⟩) (O := (Zv O n [])) (n := n) (i := i0) (j := j0_0) (k := 3) (len := a0.done.length) (q := ⟨false, 54, 5, 1, [.val (.int .i64 a0.now.Kind), .sl a0.now.Words.length (fl (eI .u64) a0.now.Words), .sl a0.now.Kids.length (fl Za a0.now.Kids), .row j0_0 a0.done.length, .row j0_1 a0.back.length]⟩) (qj := ⟨true, 37, 11, a0.done.length, fl Zd a0.done⟩) (by rw [Z6 _ hi0]; first | exact ho0 | exact Z4 _ _ _) rfl (by rw [Z6 _ Ji]; exact Js) Xy (by omega)
 simp only [Z8 _ _ Ji, Z8 _ _ hi0, Yo, Yc, Xd, K4 Xy, List.set_cons_zero, List.set_cons_succ, List.cons_append, List.nil_append, List.length_cons, List.length_nil, Nat.zero_add, Nat.reduceAdd, Nat.add_assoc] at e0
 refine Qc e0 ?_
 have e1 := X8 (ba := n) (E := ⟨53, [], Zc3 0 [.ref i0 0]⟩) (O := (Zv ((O.upd j0_0 none).upd i0 (some ⟨false, 54, 5, 1, [.val (.int .i64 a0.now.Kind), .sl a0.now.Words.length (fl (eI .u64) a0.now.Words), .sl a0.now.Kids.length (fl Za a0.now.Kids), .row n a0.done.length, .row j0_1 a0.back.length]⟩)) n [some ⟨true, 37, 11, a0.done.length, fl Zd a0.done⟩])) (n := (n + 1)) (i := i0) (j := j0_1) (k := 4) (len := a0.back.length) (q := ⟨false, 54, 5, 1, [.val (.int .i64 a0.now.Kind), .sl a0.now.Words.length (fl (eI .u64) a0.now.Words), .sl a0.now.Kids.length (fl Za a0.now.Kids), .row n a0.done.length, .row j0_1 a0.back.length]⟩) (qj := ⟨true, 37, 11, a0.back.length, fl Zd a0.back⟩) (by rw [Z6 _ hi0]; first | exact ho0 | exact Z4 _ _ _) rfl (by rw [Z6 _ Gp, Yp _ _ (Ne.symm Qk), Yp _ _ (Ne.symm Qj)]; exact Zcd) Qk (by omega)
 simp only [Z8 _ _ Gp, Z8 _ _ hi0, Yo, Yc, Xd, K4 Qk, List.set_cons_zero, List.set_cons_succ, List.cons_append, List.nil_append, List.length_cons, List.length_nil, Nat.zero_add, Nat.reduceAdd, Nat.add_assoc] at e1
 refine Qc e1 ?_
 have hU := (Und.drop (Und.drop hU j0_0) j0_1)
 have hk0 : ∀ k, i0 < n + k := fun k => by omega
 have hN0 : ∀ o, Objs.upd ((O.upd j0_0 none).upd j0_1 none) i0 o n = none := fun o => Xr hU hi0 _ (Nat.le_refl _)
 have hN : ∀ o k, Objs.upd ((O.upd j0_0 none).upd j0_1 none) i0 o (n + k) = none := fun o k => Xr hU hi0 _ (Nat.le_add_right _ _)
 show W _ _ _ _ ⟨53, [], [(0, .ref i0 0)]⟩ (Zv (((O.upd j0_0 none).upd j0_1 none).upd i0 (some ⟨false, 54, 5, 1, [(vI a0.now.Kind), (sL (eI .u64) a0.now.Words), (sL Za a0.now.Kids), .row n a0.done.length, .row (n + 1) a0.back.length]⟩)) n [some (oR 37 11 Zd a0.done), some (oR 37 11 Zd a0.back)]) _
 refine Gj [0] hi0 hk0 ?_
 refine Zl ?_
 obtain ⟨y2, hy2, h⟩ := bC h
 refine J5 [] hi0 hk0 ?_
 refine (Za6 (i0 := i0) (j0_0 := n) (j0_1 := (n + 1)) (by omega) (by omega) (by omega) (by omega) (by omega) (by omega) (by simp only [push_cast, seval, ↓reduceIte, Zf, Z5, hi0, hk0, hN0, hN] <;> rfl) (by simp only [push_cast, seval, ↓reduceIte, Zf, Z5, hi0, hk0, hN0, hN] <;> rfl) (by simp only [push_cast, seval, ↓reduceIte, Zf, Z5, hi0, hk0, hN0, hN] <;> rfl) hy2).then ?_
 refine zX2 hi0 hk0 ?_
 refine zDs [0, 3] [false, false, true, true] ?_
 obtain ⟨z6, hz6, h⟩ := bC h
 refine Y6 (E' := ⟨53, [], [(0, .ref i0 0), (3, (vI y2.1)), (25, (vB z6.1))]⟩) (O' := (Zv (((O.upd j0_0 none).upd j0_1 none).upd i0 (some ⟨false, 54, 5, 1, [(vI z6.2.2.2.1), (sL (eI .u64) z6.2.2.2.2.1), (sL Za z6.2.2.2.2.2), .row (n + 6) z6.2.1.length, .row (n + 7) z6.2.2.1.length]⟩)) n [none, none, none, none, none, none, some (oR 37 11 Zd z6.2.1), some (oR 37 11 Zd z6.2.2.1)])) (n0 := (n + 8)) ?_ ?_
 ·rcases Bool.eq_false_or_eq_true (y2.1 == 0) with c13 | c13
  ·replace hz6 := Zr c13 hz6
   refine Zgh [some false, some false, some false, some false, some false, some false, some false, some false, some false, some false, some false, some false] c13 hi0 hk0 ?_
   obtain rfl := sI hz6
   refine And.intro rfl ?_
   refine Fit2.trans (E' := (⟨53, [], [(0, .ref i0 0), (3, (vI y2.1)), (25, (vB true))]⟩ : Env)) (O' := (Zv (((O.upd j0_0 none).upd j0_1 none).upd i0 (some ⟨false, 54, 5, 1, [(vI y2.2.2.now.Kind), (sL (eI .u64) y2.2.2.now.Words), (sL Za y2.2.2.now.Kids), .row (n + 2) y2.2.2.done.length, .row (n + 3) y2.2.2.back.length]⟩)) n [none, none, some (oR 37 11 Zd y2.2.2.done), some (oR 37 11 Zd y2.2.2.back)])) (n' := (n + 4)) (Fit2.of (Z9 hU rfl rfl ?_) (by omega)) ?_
   ·exact Zzy c13 hi0 hk0
   refine Xc (k := 4) (k' := 8) hU [5, 5, 6, 7] [0, 0, 0, 0, 0, 0, 2, 3] rfl rfl rfl rfl ⟨rfl, rfl⟩ ?_
   exact X3 hi0 hk0
  replace hz6 := Zq c13 hz6
  obtain ⟨x10, hx10, ax10, bx10, cx10, hz6⟩ := bE (f := Zd) Ziu (fun _ => rfl) (by decide) hz6
  obtain ⟨y11, hy11, hz6⟩ := bC hz6
  obtain ⟨y12, hy12, hz6⟩ := bC hz6
  refine Ycd [some true, some true, some true, some true, some true, some true, some true, some true, some true, some true, some true, some true] c13 ax10 bx10 cx10 hi0 hk0 ?_
  refine (Zy3 hy11).then ?_
  refine zF6 c13 ax10 bx10 cx10 hi0 hk0 ?_
  refine (Zcx (i0 := i0) (j0_0 := (n + 2)) (j0_1 := (n + 3)) (by omega) (by omega) (by omega) (by omega) (by omega) (by omega) (by simp only [push_cast, Nat.reduceAdd, Nat.reduceSub, Nat.reduceMul, Nat.reduceLeDiff, Nat.reduceLT, Nat.reduceEqDiff, ↓reduceIte, reduceCtorEq, Int.reduceBEq, Int.reduceBNe, Nat.reduceBEq, Int.reduceLE, Int.reduceLT, Int.reduceEq, Int.reduceNe, Int.reduceNeg, Nat.reduceDiv, Nat.reduceMod, Nat.reducePow, Zf, Z5, c13, ax10, bx10, cx10, hi0, hk0, hN0, hN] <;> rfl) (by simp only [push_cast, Nat.reduceAdd, Nat.reduceSub, Nat.reduceMul, Nat.reduceLeDiff, Nat.reduceLT, Nat.reduceEqDiff, ↓reduceIte, reduceCtorEq, Int.reduceBEq, Int.reduceBNe, Nat.reduceBEq, Int.reduceLE, Int.reduceLT, Int.reduceEq, Int.reduceNe, Int.reduceNeg, Nat.reduceDiv, Nat.reduceMod, Nat.reducePow, Zf, Z5, c13, ax10, bx10, cx10, hi0, hk0, hN0, hN] <;> rfl) (by simp only [push_cast, Nat.reduceAdd, Nat.reduceSub, Nat.reduceMul, Nat.reduceLeDiff, Nat.reduceLT, Nat.reduceEqDiff, ↓reduceIte, reduceCtorEq, Int.reduceBEq, Int.reduceBNe, Nat.reduceBEq, Int.reduceLE, Int.reduceLT, Int.reduceEq, Int.reduceNe, Int.reduceNeg, Nat.reduceDiv, Nat.reduceMod, Nat.reducePow, Zf, Z5, c13, ax10, bx10, cx10, hi0, hk0, hN0, hN] <;> rfl) hy12).then ?_
  refine zF6 c13 ax10 bx10 cx10 hi0 hk0 ?_
  obtain rfl := sI hz6
  refine And.intro rfl ?_
  refine Fit2.trans (E' := (⟨53, [], [(0, .ref i0 0), (3, (vI y2.1)), (25, (vB (cond (y2.1 == 0) true (y12.1 != 0))))]⟩ : Env)) (O' := (Zv (((O.upd j0_0 none).upd j0_1 none).upd i0 (some ⟨false, 54, 5, 1, [(vI y12.2.now.Kind), (sL (eI .u64) y12.2.now.Words), (sL Za y12.2.now.Kids), .row (n + 4) y12.2.done.length, .row (n + 5) y12.2.back.length]⟩)) n [none, none, none, none, some (oR 37 11 Zd y12.2.done), some (oR 37 11 Zd y12.2.back)])) (n' := (n + 6)) (Fit2.of (Z9 hU rfl rfl ?_) (by omega)) ?_
  ·exact Yd6 c13 ax10 bx10 cx10 hi0 hk0
  refine Xc (k := 6) (k' := 8) hU [5, 5, 5, 5, 6, 7] [0, 0, 0, 0, 0, 0, 4, 5] rfl rfl rfl rfl ⟨rfl, rfl⟩ ?_
  exact X3 hi0 hk0
 refine Zs (t := z6.1) rfl (fun c20 => ?_) (fun c20 => ?_)
 ·replace h := Zr c20 h
  refine Gj [2] hi0 hk0 ?_
  refine zW ?_
  obtain rfl := sI h
  refine X7 (k := 2) (i := i0) (q1 := ⟨false, 54, 5, 1, [(vI z6.2.2.2.1), (sL (eI .u64) z6.2.2.2.2.1), (sL Za z6.2.2.2.2.2), .row n z6.2.1.length, .row (n + 1) z6.2.2.1.length]⟩) (L3 := [some (oR 37 11 Zd z6.2.1), some (oR 37 11 Zd z6.2.2.1), none]) (E2 := (⟨53, [], [(2, (vB false))]⟩ : Env)) (n3 := (n + 3)) (.inr rfl) hU rfl [(vB false)] ?_ ?_
  ·refine Fit2.trans (E' := (⟨53, [], [(2, (vB false))]⟩ : Env)) (O' := (Zv (((O.upd j0_0 none).upd j0_1 none).upd i0 (some ⟨false, 54, 5, 1, [(vI z6.2.2.2.1), (sL (eI .u64) z6.2.2.2.2.1), (sL Za z6.2.2.2.2.2), .row (n + 6) z6.2.1.length, .row (n + 7) z6.2.2.1.length]⟩)) n [none, none, none, none, none, none, some (oR 37 11 Zd z6.2.1), some (oR 37 11 Zd z6.2.2.1)])) (n' := (n + 8)) (Fit2.of (Z9 hU rfl rfl ?_) (by omega)) ?_
   ·exact X3 hi0 hk0
   refine Xc (k := 8) (k' := 3) hU [2, 2, 2, 2, 2, 2, 0, 1] [6, 7, 0] rfl rfl rfl rfl ⟨rfl, rfl⟩ ?_
   exact X3 hi0 hk0
  simp only [push_cast, seval, ↓reduceIte, Zf, Try.results12, hi0, hk0, hN0, hN]
 replace h := Zq c20 h
 refine Jq [0, 3] [false, false, false, false, false, false, true, true] ?_
 refine Zl ?_
 obtain ⟨x16, hx16, ax16, bx16, cx16, h⟩ := bE (f := Zd) Ziu (fun _ => rfl) (by decide) h
 obtain ⟨l17, pl17, ql17, el17, h⟩ := bA (k := 1) rfl h
 refine Uq Z0 (by kernel_rfl) [.plain, .plain, .low, .low, .low, .plain, .plain, .plain, .plain, .plain, .plain, .plain, .plain, .pass, .pass, .plain, .plain, .bar] (fun i => i < (n + 8) ∧ ¬ i = n + 7) [0, 1, 2, 3, 4, 5, 6, 7, 8, 9, 10, 11, 12, 13, 14, 15, 16, 17] [.plain, .plain, .low, .low, .low, .plain, .plain, .plain, .plain, .plain, .plain, .plain, .plain, .pass, .pass, .plain, .plain, .bar] [] (by kernel_rfl) rfl ?_
 refine zF8 ax16 bx16 cx16 pl17 ql17 el17 hi0 hk0 ?_
 refine zO ?_
 refine Zgb ⟨53, [], [(0, .ref i0 0), (3, (vI y2.1))]⟩ (Zv (((O.upd j0_0 none).upd j0_1 none).upd i0 (some ⟨false, 54, 5, 1, [(vI z6.2.2.2.1), (sL (eI .u64) z6.2.2.2.2.1), (sL Za z6.2.2.2.2.2), .row (n + 6) z6.2.1.length, .row (n + 7) l17.length]⟩)) n [none, none, none, none, none, none, some (oR 37 11 Zd z6.2.1), some (oR 37 11 Zd l17), none]) (Z9 hU rfl rfl ?_) ?_
 ·exact Yhh ax16 bx16 cx16 pl17 ql17 el17 hi0 hk0
 refine Zl ?_
 obtain ⟨pu19, h⟩ := bG h
 have su19 := fun j => Zrx (T := Kq) (j := j) Zpz Ziu pu19
 refine Ys Z0 [] ?_
 simp only [push_cast, seval, ↓reduceIte, Zf, pu19.1, pu19.2.1, pu19.2.2, su19, hi0, hk0, hN0, hN]
 refine zD [] [false, false, false, false, false, false, true, true, false] ?_
 refine Z9t (f := Zd) (p := i0) (j := (n + 6)) (k := 3) (xs := z6.2.1) (a := (IntKind.i64.wrap (y2.1 - 1))) (t := 37) (sz := 11) (q := ⟨false, 54, 5, 1, [(vI z6.2.2.2.1), (sL (eI .u64) z6.2.2.2.2.1), (sL Za z6.2.2.2.2.2), .rl (n + 6) z6.2.1.length 0 (Int.toNat (IntKind.i64.wrap (y2.1 - 1))), .row (n + 7) l17.length]⟩) (fun _ => rfl) ?_ rfl ?_ pu19.2 (fun _ => by omega) ?_
 ·simp only [Kl, Vq, List.getElem?_cons_zero, List.getElem?_cons_succ, Option.join_some, Z4, Z6, hi0, hk0, hN0, hN]
 ·simp only [Kl, Vq, List.getElem?_cons_zero, List.getElem?_cons_succ, Option.join_some]
 simp only [Z8, Xd, hi0, hk0, hN0, hN, Yo, Yc, Vr, Ka, List.set_cons_zero, List.set_cons_succ, List.cons_append, List.nil_append, List.length_cons, List.length_nil, Nat.zero_add, Nat.reduceAdd, Nat.reduceLT, Nat.add_assoc]
 refine Gj [2] hi0 hk0 ?_
 refine zW ?_
 obtain rfl := sI h
 refine X7 (k := 2) (i := i0) (q1 := ⟨false, 54, 5, 1, [(vI z6.2.2.2.1), (sL (eI .u64) z6.2.2.2.2.1), (sL Za z6.2.2.2.2.2), .row n (List.take (Int.toNat (IntKind.i64.wrap (y2.1 - 1))) z6.2.1).length, .row (n + 1) l17.length]⟩) (L3 := [some (oR 37 11 Zd (List.take (Int.toNat (IntKind.i64.wrap (y2.1 - 1))) z6.2.1)), some (oR 37 11 Zd l17), none]) (E2 := (⟨53, [], [(2, (vB true))]⟩ : Env)) (n3 := (n + 3)) (.inr rfl) hU rfl [(vB true)] ?_ ?_
 ·refine Fit2.trans (E' := (⟨53, [], [(2, (vB true))]⟩ : Env)) (O' := (Zv (((O.upd j0_0 none).upd j0_1 none).upd i0 (some ⟨false, 54, 5, 1, [(vI z6.2.2.2.1), (sL (eI .u64) z6.2.2.2.2.1), (sL Za z6.2.2.2.2.2), .row (n + 9) (List.take (Int.toNat (IntKind.i64.wrap (y2.1 - 1))) z6.2.1).length, .row (n + 7) l17.length]⟩)) n [none, none, none, none, none, none, none, some (oR 37 11 Zd l17), none, some (oR 37 11 Zd (List.take (Int.toNat (IntKind.i64.wrap (y2.1 - 1))) z6.2.1))])) (n' := (n + 10)) (Fit2.of (Z9 hU rfl rfl ?_) (by omega)) ?_
  ·exact X3 hi0 hk0
  refine Xc (k := 10) (k' := 3) hU [2, 2, 2, 2, 2, 2, 2, 1, 2, 0] [9, 7, 0] rfl rfl rfl rfl ⟨rfl, rfl⟩ ?_
  exact X3 hi0 hk0
 simp only [push_cast, seval, ↓reduceIte, Zf, Try.results12, hi0, hk0, hN0, hN]
theorem X9 {a : Zb} {d e : G} {O : Objs} {n : Nat} {i0 : Nat} (hi0 : i0 < n) (ho0 : O i0 = some ⟨false, 54, 5, 1, [(vI a.Kind), (sL (eI .u64) a.Words), (sL Za a.Kids), d, e]⟩) : GTo Try.prog 9 [.ref i0 0] O n (.agg (Ze a)) O n := by
 refine zFn Try.call9 Try.func9 fun hU hN0 hN => ?_
 show W _ _ _ _ ⟨10, [], [(0, .ref i0 0)]⟩ (Zv O n []) _
 refine Zno [0, 2] (Ys Z0 [] ?_)
 simp only [push_cast, seval, ↓reduceIte, Zf, hi0, Z6, ho0, hN0, hN]
 refine Zl ?_
 refine Zno [0, 2, 4] (Ys Z0 [] ?_)
 simp only [push_cast, seval, ↓reduceIte, Zf, hi0, Z6, ho0, hN0, hN]
 refine Zs (t := false) rfl (fun hc => by cases hc) (fun _ => ?_)
 refine Jq [0, 2] [true] ?_
 refine Zl ?_
 refine Ys Z0 [] ?_
 simp only [push_cast, seval, ↓reduceIte, Zf, hi0, Z6, ho0, hN0, hN]
 refine zD [2] [true] ?_
 refine zW ?_
 refine Zvh (.inr rfl) hU [.agg (Ze a)] (by omega) ?_
 simp only [push_cast, seval, ↓reduceIte, Zf, Try.results9, hi0, Z6, ho0, hN0, hN]
theorem Kx {a0 : Zo} {r : (Bool × Zo)} {O : Objs} {n : Nat} {i0 j0_0 j0_1 : Nat} (hi0 : i0 < n) (Ji : j0_0 < n) (Gp : j0_1 < n) (Xy : i0 ≠ j0_0) (Qk : i0 ≠ j0_1) (Qj : j0_0 ≠ j0_1) (ho0 : O i0 = some ⟨false, 54, 5, 1, [(vI a0.now.Kind), (sL (eI .u64) a0.now.Words), (sL Za a0.now.Kids), .row j0_0 a0.done.length, .row j0_1 a0.back.length]⟩) (Js : O j0_0 = some (oR 37 11 Zd a0.done)) (Zcd : O j0_1 = some (oR 37 11 Zd a0.back)) (h : Qe a0 = some r) : GTo Try.prog 15 [.ref i0 0] O n ((vB r.1)) (Zv (((O.upd j0_0 none).upd j0_1 none).upd i0 (some ⟨false, 54, 5, 1, [(vI r.2.now.Kind), (sL (eI .u64) r.2.now.Words), (sL Za r.2.now.Kids), .row n r.2.done.length, .row (n + 1) r.2.back.length]⟩)) n [some (oR 37 11 Zd r.2.done), some (oR 37 11 Zd r.2.back)]) (n + 2) := by
 unfold Qe at h
 refine Zi6 Z0 Try.call15 Try.func15 rfl (Nat.le_of_ble_eq_true rfl) (by omega) fun hU => ?_
 have e0 := X8 (ba := n) (E := ⟨52, [], Zc3 0 [.ref i0 0]⟩) (O := (Zv O n [])) (n := n) (i := i0) (j := j0_0) (k := 3) (len := a0.done.length) (q := ⟨false, 54, 5, 1, [.val (.int .i64 a0.now.Kind), .sl a0.now.Words.length (fl (eI .u64) a0.now.Words), .sl a0.now.Kids.length (fl Za a0.now.Kids), .row j0_0 a0.done.length, .row j0_1 a0.back.length]⟩) (qj := ⟨true, 37, 11, a0.done.length, fl Zd a0.done⟩) (by rw [Z6 _ hi0]; first | exact ho0 | exact Z4 _ _ _) rfl (by rw [Z6 _ Ji]; exact Js) Xy (by omega)
 simp only [Z8 _ _ Ji, Z8 _ _ hi0, Yo, Yc, Xd, K4 Xy, List.set_cons_zero, List.set_cons_succ, List.cons_append, List.nil_append, List.length_cons, List.length_nil, Nat.zero_add, Nat.reduceAdd, Nat.add_assoc] at e0
 refine Qc e0 ?_
 have e1 := X8 (ba := n) (E := ⟨52, [], Zc3 0 [.ref i0 0]⟩) (O := (Zv ((O.upd j0_0 none).upd i0 (some ⟨false, 54, 5, 1, [.val (.int .i64 a0.now.Kind), .sl a0.now.Words.length (fl (eI .u64) a0.now.Words), .sl a0.now.Kids.length (fl Za a0.now.Kids), .row n a0.done.length, .row j0_1 a0.back.length]⟩)) n [some ⟨true, 37, 11, a0.done.length, fl Zd a0.done⟩])) (n := (n + 1)) (i := i0) (j := j0_1) (k := 4) (len := a0.back.length) (q := ⟨false, 54, 5, 1, [.val (.int .i64 a0.now.Kind), .sl a0.now.Words.length (fl (eI .u64) a0.now.Words), .sl a0.now.Kids.length (fl Za a0.now.Kids), .row n a0.done.length, .row j0_1 a0.back.length]⟩) (qj := ⟨true, 37, 11, a0.back.length, fl Zd a0.back⟩) (by rw [Z6 _ hi0]; first | exact ho0 | exact Z4 _ _ _) rfl (by rw [Z6 _ Gp, Yp _ _ (Ne.symm Qk), Yp _ _ (Ne.symm Qj)]; exact Zcd) Qk (by omega)
 simp only [Z8 _ _ Gp, Z8 _ _ hi0, Yo, Yc, Xd, K4 Qk, List.set_cons_zero, List.set_cons_succ, List.cons_append, List.nil_append, List.length_cons, List.length_nil, Nat.zero_add, Nat.reduceAdd, Nat.add_assoc] at e1
 refine Qc e1 ?_
 have hU := (Und.drop (Und.drop hU j0_0) j0_1)
 have hk0 : ∀ k, i0 < n + k := fun k => by omega
 have hN0 : ∀ o, Objs.upd ((O.upd j0_0 none).upd j0_1 none) i0 o n = none := fun o => Xr hU hi0 _ (Nat.le_refl _)
 have hN : ∀ o k, Objs.upd ((O.upd j0_0 none).upd j0_1 none) i0 o (n + k) = none := fun o k => Xr hU hi0 _ (Nat.le_add_right _ _)
 show W _ _ _ _ ⟨52, [], [(0, .ref i0 0)]⟩ (Zv (((O.upd j0_0 none).upd j0_1 none).upd i0 (some ⟨false, 54, 5, 1, [(vI a0.now.Kind), (sL (eI .u64) a0.now.Words), (sL Za a0.now.Kids), .row n a0.done.length, .row (n + 1) a0.back.length]⟩)) n [some (oR 37 11 Zd a0.done), some (oR 37 11 Zd a0.back)]) _
 refine Gj [0] hi0 hk0 ?_
 refine Zl ?_
 obtain ⟨y2, hy2, h⟩ := bC h
 refine J5 [] hi0 hk0 ?_
 refine (Za6 (i0 := i0) (j0_0 := n) (j0_1 := (n + 1)) (by omega) (by omega) (by omega) (by omega) (by omega) (by omega) (by simp only [push_cast, seval, ↓reduceIte, Zf, Z5, hi0, hk0, hN0, hN] <;> rfl) (by simp only [push_cast, seval, ↓reduceIte, Zf, Z5, hi0, hk0, hN0, hN] <;> rfl) (by simp only [push_cast, seval, ↓reduceIte, Zf, Z5, hi0, hk0, hN0, hN] <;> rfl) hy2).then ?_
 refine zX2 hi0 hk0 ?_
 refine zDs [0, 4] [false, false, true, true] ?_
 obtain ⟨z5, hz5, h⟩ := bC h
 refine Y6 (E' := ⟨52, [], [(0, .ref i0 0), (4, (vI y2.2.1)), (24, (vB z5.1))]⟩) (O' := (Zv (((O.upd j0_0 none).upd j0_1 none).upd i0 (some ⟨false, 54, 5, 1, [(vI z5.2.2.2.1), (sL (eI .u64) z5.2.2.2.2.1), (sL Za z5.2.2.2.2.2), .row (n + 6) z5.2.1.length, .row (n + 7) z5.2.2.1.length]⟩)) n [none, none, none, none, none, none, some (oR 37 11 Zd z5.2.1), some (oR 37 11 Zd z5.2.2.1)])) (n0 := (n + 8)) ?_ ?_
 ·rcases Bool.eq_false_or_eq_true (y2.2.1 == 0) with c10 | c10
  ·replace hz5 := Zr c10 hz5
   refine Zgh [some false, some false, some false, some false, some false, some false, some false, some false, some false, some false, some false] c10 hi0 hk0 ?_
   obtain rfl := sI hz5
   refine And.intro rfl ?_
   refine Fit2.trans (E' := (⟨52, [], [(0, .ref i0 0), (4, (vI y2.2.1)), (24, (vB true))]⟩ : Env)) (O' := (Zv (((O.upd j0_0 none).upd j0_1 none).upd i0 (some ⟨false, 54, 5, 1, [(vI y2.2.2.now.Kind), (sL (eI .u64) y2.2.2.now.Words), (sL Za y2.2.2.now.Kids), .row (n + 2) y2.2.2.done.length, .row (n + 3) y2.2.2.back.length]⟩)) n [none, none, some (oR 37 11 Zd y2.2.2.done), some (oR 37 11 Zd y2.2.2.back)])) (n' := (n + 4)) (Fit2.of (Z9 hU rfl rfl ?_) (by omega)) ?_
   ·exact Zzy c10 hi0 hk0
   refine Xc (k := 4) (k' := 8) hU [5, 5, 6, 7] [0, 0, 0, 0, 0, 0, 2, 3] rfl rfl rfl rfl ⟨rfl, rfl⟩ ?_
   exact X3 hi0 hk0
  replace hz5 := Zq c10 hz5
  obtain ⟨x8, hx8, ax8, bx8, cx8, hz5⟩ := bE (f := Zd) Ziu (fun _ => rfl) (by decide) hz5
  obtain ⟨y9, hy9, hz5⟩ := bC hz5
  refine Ycd [some true, some true, some true, some true, some true, some true, some true, some true, some true, some true, some true] c10 ax8 bx8 cx8 hi0 hk0 ?_
  refine (Zcx (i0 := i0) (j0_0 := (n + 2)) (j0_1 := (n + 3)) (by omega) (by omega) (by omega) (by omega) (by omega) (by omega) (by simp only [push_cast, Nat.reduceAdd, Nat.reduceSub, Nat.reduceMul, Nat.reduceLeDiff, Nat.reduceLT, Nat.reduceEqDiff, ↓reduceIte, reduceCtorEq, Int.reduceBEq, Int.reduceBNe, Nat.reduceBEq, Int.reduceLE, Int.reduceLT, Int.reduceEq, Int.reduceNe, Int.reduceNeg, Nat.reduceDiv, Nat.reduceMod, Nat.reducePow, Zf, Z5, c10, ax8, bx8, cx8, hi0, hk0, hN0, hN] <;> rfl) (by simp only [push_cast, Nat.reduceAdd, Nat.reduceSub, Nat.reduceMul, Nat.reduceLeDiff, Nat.reduceLT, Nat.reduceEqDiff, ↓reduceIte, reduceCtorEq, Int.reduceBEq, Int.reduceBNe, Nat.reduceBEq, Int.reduceLE, Int.reduceLT, Int.reduceEq, Int.reduceNe, Int.reduceNeg, Nat.reduceDiv, Nat.reduceMod, Nat.reducePow, Zf, Z5, c10, ax8, bx8, cx8, hi0, hk0, hN0, hN] <;> rfl) (by simp only [push_cast, Nat.reduceAdd, Nat.reduceSub, Nat.reduceMul, Nat.reduceLeDiff, Nat.reduceLT, Nat.reduceEqDiff, ↓reduceIte, reduceCtorEq, Int.reduceBEq, Int.reduceBNe, Nat.reduceBEq, Int.reduceLE, Int.reduceLT, Int.reduceEq, Int.reduceNe, Int.reduceNeg, Nat.reduceDiv, Nat.reduceMod, Nat.reducePow, Zf, Z5, c10, ax8, bx8, cx8, hi0, hk0, hN0, hN] <;> rfl) hy9).then ?_
  refine zF6 c10 ax8 bx8 cx8 hi0 hk0 ?_
  obtain rfl := sI hz5
  refine And.intro rfl ?_
  refine Fit2.trans (E' := (⟨52, [], [(0, .ref i0 0), (4, (vI y2.2.1)), (24, (vB (cond (y2.2.1 == 0) true (y9.1 != 0))))]⟩ : Env)) (O' := (Zv (((O.upd j0_0 none).upd j0_1 none).upd i0 (some ⟨false, 54, 5, 1, [(vI y9.2.now.Kind), (sL (eI .u64) y9.2.now.Words), (sL Za y9.2.now.Kids), .row (n + 4) y9.2.done.length, .row (n + 5) y9.2.back.length]⟩)) n [none, none, none, none, some (oR 37 11 Zd y9.2.done), some (oR 37 11 Zd y9.2.back)])) (n' := (n + 6)) (Fit2.of (Z9 hU rfl rfl ?_) (by omega)) ?_
  ·exact Yd6 c10 ax8 bx8 cx8 hi0 hk0
  refine Xc (k := 6) (k' := 8) hU [5, 5, 5, 5, 6, 7] [0, 0, 0, 0, 0, 0, 4, 5] rfl rfl rfl rfl ⟨rfl, rfl⟩ ?_
  exact X3 hi0 hk0
 refine Zs (t := z5.1) rfl (fun c17 => ?_) (fun c17 => ?_)
 ·replace h := Zr c17 h
  refine Gj [2] hi0 hk0 ?_
  refine zW ?_
  obtain rfl := sI h
  refine X7 (k := 2) (i := i0) (q1 := ⟨false, 54, 5, 1, [(vI z5.2.2.2.1), (sL (eI .u64) z5.2.2.2.2.1), (sL Za z5.2.2.2.2.2), .row n z5.2.1.length, .row (n + 1) z5.2.2.1.length]⟩) (L3 := [some (oR 37 11 Zd z5.2.1), some (oR 37 11 Zd z5.2.2.1), none]) (E2 := (⟨52, [], [(2, (vB false))]⟩ : Env)) (n3 := (n + 3)) (.inr rfl) hU rfl [(vB false)] ?_ ?_
  ·refine Fit2.trans (E' := (⟨52, [], [(2, (vB false))]⟩ : Env)) (O' := (Zv (((O.upd j0_0 none).upd j0_1 none).upd i0 (some ⟨false, 54, 5, 1, [(vI z5.2.2.2.1), (sL (eI .u64) z5.2.2.2.2.1), (sL Za z5.2.2.2.2.2), .row (n + 6) z5.2.1.length, .row (n + 7) z5.2.2.1.length]⟩)) n [none, none, none, none, none, none, some (oR 37 11 Zd z5.2.1), some (oR 37 11 Zd z5.2.2.1)])) (n' := (n + 8)) (Fit2.of (Z9 hU rfl rfl ?_) (by omega)) ?_
   ·exact X3 hi0 hk0
   refine Xc (k := 8) (k' := 3) hU [2, 2, 2, 2, 2, 2, 0, 1] [6, 7, 0] rfl rfl rfl rfl ⟨rfl, rfl⟩ ?_
   exact X3 hi0 hk0
  simp only [push_cast, seval, ↓reduceIte, Zf, Try.results15, hi0, hk0, hN0, hN]
 replace h := Zq c17 h
 refine Jq [0, 4] [false, false, false, false, false, false, true, true] ?_
 refine Zl ?_
 obtain ⟨x13, hx13, ax13, bx13, cx13, h⟩ := bE (f := Zd) Ziu (fun _ => rfl) (by decide) h
 obtain ⟨l14, pl14, ql14, el14, h⟩ := bA (k := 1) rfl h
 refine Uq Z0 (by kernel_rfl) [.plain, .plain, .low, .low, .low, .plain, .plain, .plain, .plain, .plain, .plain, .plain, .plain, .pass, .pass, .plain, .plain, .bar] (fun i => i < (n + 8) ∧ ¬ i = n + 6) [0, 1, 2, 3, 4, 5, 6, 7, 8, 9, 10, 11, 12, 13, 14, 15, 16, 17] [.plain, .plain, .low, .low, .low, .plain, .plain, .plain, .plain, .plain, .plain, .plain, .plain, .pass, .pass, .plain, .plain, .bar] [] (by kernel_rfl) rfl ?_
 refine zF8 ax13 bx13 cx13 pl14 ql14 el14 hi0 hk0 ?_
 refine zO ?_
 refine Zgb ⟨52, [], [(0, .ref i0 0), (4, (vI y2.2.1))]⟩ (Zv (((O.upd j0_0 none).upd j0_1 none).upd i0 (some ⟨false, 54, 5, 1, [(vI z5.2.2.2.1), (sL (eI .u64) z5.2.2.2.2.1), (sL Za z5.2.2.2.2.2), .row (n + 6) l14.length, .row (n + 7) z5.2.2.1.length]⟩)) n [none, none, none, none, none, none, some (oR 37 11 Zd l14), some (oR 37 11 Zd z5.2.2.1), none]) (Z9 hU rfl rfl ?_) ?_
 ·exact Yhh ax13 bx13 cx13 pl14 ql14 el14 hi0 hk0
 refine Zl ?_
 obtain ⟨pu16, h⟩ := bG h
 have su16 := fun j => Zrx (T := Kq) (j := j) Zpz Ziu pu16
 refine Ys Z0 [] ?_
 simp only [push_cast, seval, ↓reduceIte, Zf, pu16.1, pu16.2.1, pu16.2.2, su16, hi0, hk0, hN0, hN]
 refine zD [] [false, false, false, false, false, false, true, true, false] ?_
 refine Z9t (f := Zd) (p := i0) (j := (n + 7)) (k := 4) (xs := z5.2.2.1) (a := (IntKind.i64.wrap (y2.2.1 - 1))) (t := 37) (sz := 11) (q := ⟨false, 54, 5, 1, [(vI z5.2.2.2.1), (sL (eI .u64) z5.2.2.2.2.1), (sL Za z5.2.2.2.2.2), .row (n + 6) l14.length, .rl (n + 7) z5.2.2.1.length 0 (Int.toNat (IntKind.i64.wrap (y2.2.1 - 1)))]⟩) (fun _ => rfl) ?_ rfl ?_ pu16.2 (fun _ => by omega) ?_
 ·simp only [Kl, Vq, List.getElem?_cons_zero, List.getElem?_cons_succ, Option.join_some, Z4, Z6, hi0, hk0, hN0, hN]
 ·simp only [Kl, Vq, List.getElem?_cons_zero, List.getElem?_cons_succ, Option.join_some]
 simp only [Z8, Xd, hi0, hk0, hN0, hN, Yo, Yc, Vr, Ka, List.set_cons_zero, List.set_cons_succ, List.cons_append, List.nil_append, List.length_cons, List.length_nil, Nat.zero_add, Nat.reduceAdd, Nat.reduceLT, Nat.add_assoc]
 refine Gj [2] hi0 hk0 ?_
 refine zW ?_
 obtain rfl := sI h
 refine X7 (k := 2) (i := i0) (q1 := ⟨false, 54, 5, 1, [(vI z5.2.2.2.1), (sL (eI .u64) z5.2.2.2.2.1), (sL Za z5.2.2.2.2.2), .row n l14.length, .row (n + 1) (List.take (Int.toNat (IntKind.i64.wrap (y2.2.1 - 1))) z5.2.2.1).length]⟩) (L3 := [some (oR 37 11 Zd l14), some (oR 37 11 Zd (List.take (Int.toNat (IntKind.i64.wrap (y2.2.1 - 1))) z5.2.2.1)), none]) (E2 := (⟨52, [], [(2, (vB true))]⟩ : Env)) (n3 := (n + 3)) (.inr rfl) hU rfl [(vB true)] ?_ ?_
 ·refine Fit2.trans (E' := (⟨52, [], [(2, (vB true))]⟩ : Env)) (O' := (Zv (((O.upd j0_0 none).upd j0_1 none).upd i0 (some ⟨false, 54, 5, 1, [(vI z5.2.2.2.1), (sL (eI .u64) z5.2.2.2.2.1), (sL Za z5.2.2.2.2.2), .row (n + 6) l14.length, .row (n + 9) (List.take (Int.toNat (IntKind.i64.wrap (y2.2.1 - 1))) z5.2.2.1).length]⟩)) n [none, none, none, none, none, none, some (oR 37 11 Zd l14), none, none, some (oR 37 11 Zd (List.take (Int.toNat (IntKind.i64.wrap (y2.2.1 - 1))) z5.2.2.1))])) (n' := (n + 10)) (Fit2.of (Z9 hU rfl rfl ?_) (by omega)) ?_
  ·exact X3 hi0 hk0
  refine Xc (k := 10) (k' := 3) hU [2, 2, 2, 2, 2, 2, 0, 2, 2, 1] [6, 9, 0] rfl rfl rfl rfl ⟨rfl, rfl⟩ ?_
  exact X3 hi0 hk0
 simp only [push_cast, seval, ↓reduceIte, Zf, Try.results15, hi0, hk0, hN0, hN]
theorem Zfn  {r : Bool} {O : Objs} {n : Nat} (h : Ko = some r) : GTo Try.prog 6 [] O n ((vB r)) O n := by
 unfold Ko at h
 refine zFn Try.call6 Try.func6 fun hU hN0 hN => ?_
 show W _ _ _ _ ⟨57, [], []⟩ (Zv O n []) _
 refine zQ [] ?_
 refine Zl ?_
 obtain ⟨y2, hy2, h⟩ := bC h
 refine zR ?_
 refine GCalls.dropL (l' := [none]) hU rfl ?_ ((Zob  hy2).then ?_)
 ·exact zSe
 refine zS ?_
 refine zDs [1] [false, true, true, true] ?_
 obtain ⟨y4, hy4, h⟩ := bC h
 refine zR ?_
 refine GCalls.dropL (l' := [none, some ⟨false, 54, 5, 1, [(vI y2.now.Kind), (sL (eI .u64) y2.now.Words), (sL Za y2.now.Kids), .row (n + 2) y2.done.length, .row (n + 3) y2.back.length]⟩, some (oR 37 11 Zd y2.done), some (oR 37 11 Zd y2.back), none]) hU rfl ?_ ((Zhq (i0 := (n + 1)) (j0_0 := (n + 2)) (j0_1 := (n + 3)) (by omega) (by omega) (by omega) (by omega) (by omega) (by omega) (by simp only [push_cast, seval, ↓reduceIte, Zf, Z5, hN0, hN] <;> rfl) (by simp only [push_cast, seval, ↓reduceIte, Zf, Z5, hN0, hN] <;> rfl) (by simp only [push_cast, seval, ↓reduceIte, Zf, Z5, hN0, hN] <;> rfl) hy4).then ?_)
 ·exact zSe
 refine zS ?_
 refine zDs [1, 2] [false, true, false, false, false, true, true] ?_
 obtain ⟨y6, hy6, h⟩ := bC h
 refine zR ?_
 refine (Ux (i0 := (n + 1)) (j0_0 := (n + 5)) (j0_1 := (n + 6)) (by omega) (by omega) (by omega) (by omega) (by omega) (by omega) (by simp only [push_cast, seval, ↓reduceIte, Zf, Z5, hN0, hN] <;> rfl) (by simp only [push_cast, seval, ↓reduceIte, Zf, Z5, hN0, hN] <;> rfl) (by simp only [push_cast, seval, ↓reduceIte, Zf, Z5, hN0, hN] <;> rfl) hy6).then ?_
 refine zS ?_
 refine zDs [1, 2, 3] [false, true, false, false, false, false, false, true, true] ?_
 skip
 refine zR ?_
 refine (X9 (a := y6.2.now) (d := .row (n + 7) y6.2.done.length) (e := .row (n + 8) y6.2.back.length) (i0 := (n + 1)) (by omega) (by simp only [push_cast, seval, ↓reduceIte, Zf, Z5, hN0, hN] <;> rfl)).then ?_
 refine zS ?_
 refine zDs [1, 2, 3, 4] [false, true, false, false, false, false, false, true, true, true] ?_
 obtain ⟨y8, hy8, h⟩ := bC h
 refine zR ?_
 refine (Kx (i0 := (n + 1)) (j0_0 := (n + 7)) (j0_1 := (n + 8)) (by omega) (by omega) (by omega) (by omega) (by omega) (by omega) (by simp only [push_cast, seval, ↓reduceIte, Zf, Z5, hN0, hN] <;> rfl) (by simp only [push_cast, seval, ↓reduceIte, Zf, Z5, hN0, hN] <;> rfl) (by simp only [push_cast, seval, ↓reduceIte, Zf, Z5, hN0, hN] <;> rfl) hy8).then ?_
 refine zS ?_
 refine zDs [1, 2, 3, 4, 5] [false, true, false, false, false, false, false, false, false, true, true, true] ?_
 skip
 refine zR ?_
 refine (X9 (a := y8.2.now) (d := .row (n + 10) y8.2.done.length) (e := .row (n + 11) y8.2.back.length) (i0 := (n + 1)) (by omega) (by simp only [push_cast, seval, ↓reduceIte, Zf, Z5, hN0, hN] <;> rfl)).then ?_
 refine zS ?_
 refine zD [2, 3, 4, 5, 6] [false, false, false, false, false, false, false, false, false, true, false, false, true] ?_
 obtain ⟨z11, hz11, h⟩ := bC h
 refine Y6 (E' := ⟨57, [], [(0, (vB z11))]⟩) (O' := (Zv O n [none, none, none, none, none, none, none, none, none, none, none, none, none])) (n0 := (n + 13)) ?_ ?_
 ·rcases Bool.eq_false_or_eq_true (y4.1 == 0) with c16 | c16
  ·replace hz11 := Zr c16 hz11
   rcases Bool.eq_false_or_eq_true y6.1 with c17 | c17
   ·replace hz11 := Zr c17 hz11
    try rw [c17] at c16
    rcases Bool.eq_false_or_eq_true y8.1 with c18 | c18
    ·replace hz11 := Zr c18 hz11
     try rw [c18] at c16
     try rw [c18] at c17
     rcases Bool.eq_false_or_eq_true ((y6.2.now.Words.length : Int) == 1) with c19 | c19
     ·replace hz11 := Zr c19 hz11
      try rw [c19] at c16
      try rw [c19] at c17
      try rw [c19] at c18
      obtain ⟨x14, hx14, ax14, bx14, cx14, hz11⟩ := bE (f := (eI .u64)) Zhf (fun _ => rfl) (by decide) hz11
      rcases Bool.eq_false_or_eq_true (x14 == 1) with c20 | c20
      ·replace hz11 := Zr c20 hz11
       try rw [c20] at c16
       try rw [c20] at c17
       try rw [c20] at c18
       try rw [c20] at c19
       rcases Bool.eq_false_or_eq_true ((y8.2.now.Words.length : Int) == 1) with c21 | c21
       ·replace hz11 := Zr c21 hz11
        try rw [c21] at c16
        try rw [c21] at c17
        try rw [c21] at c18
        try rw [c21] at c19
        try rw [c21] at c20
        obtain ⟨x15, hx15, ax15, bx15, cx15, hz11⟩ := bE (f := (eI .u64)) Zhf (fun _ => rfl) (by decide) hz11
        refine Ys Z0 [none, none, none, none, none, none, some true, some true, some true, some true, some true, none, none, none, none, some true, some true, some true, some true, some true] ?_
        refine Yiw c16 c17 c18 c19 ax14 bx14 cx14 c20 c21 ax15 bx15 cx15 ?_
        refine zG ?_
        obtain rfl := sI hz11
        refine And.intro rfl (Fit2.of (Yw hU rfl rfl ?_) (by omega))
        exact Yhg c16 c17 c18 c19 ax14 bx14 cx14 c20 c21 ax15 bx15 cx15
       replace hz11 := Zq c21 hz11
       try rw [c21] at c16
       try rw [c21] at c17
       try rw [c21] at c18
       try rw [c21] at c19
       try rw [c21] at c20
       refine Ys Z0 [none, none, none, none, none, none, some true, some true, some true, some true, some true, none, none, none, none, some false, some false, some false, some false, some false] ?_
       refine zF9 c16 c17 c18 c19 ax14 bx14 cx14 c20 c21 ?_
       refine zG ?_
       obtain rfl := sI hz11
       refine And.intro rfl (Fit2.of (Yw hU rfl rfl ?_) (by omega))
       exact Z3w c16 c17 c18 c19 ax14 bx14 cx14 c20 c21
      replace hz11 := Zq c20 hz11
      try rw [c20] at c16
      try rw [c20] at c17
      try rw [c20] at c18
      try rw [c20] at c19
      refine Yhj [none, none, none, none, none, none, some true, some true, some true, some true, some true, none, none, none, none, some false, some false, some false, some false, some false] c16 c17 c18 c19 ax14 bx14 cx14 c20 ?_
      refine zG ?_
      exact Yes hz11 c16 c17 c18 c19 ax14 bx14 cx14 c20
     replace hz11 := Zq c19 hz11
     try rw [c19] at c16
     try rw [c19] at c17
     try rw [c19] at c18
     refine Zos [none, none, none, none, none, none, some false, some false, some false, some false, some false, some false, some false, some false, some false, some false, some false, some false, some false, some false] c16 c17 c18 c19 ?_
     refine zG ?_
     exact Zor hz11 c16 c17 c18 c19
    replace hz11 := Zq c18 hz11
    try rw [c18] at c16
    try rw [c18] at c17
    refine Zgh [none, none, none, none, none, none, some false, some false, some false, some false, some false, some false, some false, some false, some false, some false, some false, some false, some false, some false] c16 c17 c18 ?_
    refine zG ?_
    exact Zj0 hz11 c16 c17 c18
   replace hz11 := Zq c17 hz11
   try rw [c17] at c16
   refine J5 [none, none, none, none, none, none, some false, some false, some false, some false, some false, some false, some false, some false, some false, some false, some false, some false, some false, some false] c16 c17 ?_
   refine zG ?_
   exact Zc1 hz11 c16 c17
  replace hz11 := Zq c16 hz11
  refine K6 [none, none, none, none, none, none, some false, some false, some false, some false, some false, some false, some false, some false, some false, some false, some false, some false, some false, some false] c16 ?_
  refine zG ?_
  exact Jb hz11 c16
 exact Y4 [(vB z11)]
def Zih (Qi : (Zc → Int → Int → Option Int)) : Prop := ∀ {a0 : Zc} {a1 : Int} {a2 : Int} {r : Int} {O : Objs} {n : Nat}, Qi a0 a1 a2 = some r → GTo Try.prog 33 [.agg (Zi a0), (vI a1), (vI a2)] O n ((vI r)) O n
theorem Zqe {Qi : (Zc → Int → Int → Option Int)} (Zii : Zih Qi) {a0 : Zc} {a1 : Int} {a2 : Int} {r : Int} {O : Objs} {n : Nat} (h : Jx Qi a0 a1 a2 = some r) : GTo Try.prog 33 [.agg (Zi a0), (vI a1), (vI a2)] O n ((vI r)) O n := by
 unfold Jx at h
 refine zFn Try.call33 Try.func33 fun hU hN0 hN => ?_
 show W _ _ _ _ ⟨107, [], [(0, .agg (Zi a0)), (1, (vI a1)), (2, (vI a2))]⟩ (Zv O n []) _
 refine zQ [1, 2, 3] ?_
 refine zQ [1, 2, 3] ?_
 refine Zl ?_
 refine zQD [1, 2, 3, 25] [none, none] ?_
 refine Zs (t := (cond (a1 == 0) true (decide ((IntKind.i64.wrap ((IntKind.i64.wrap ((IntKind.i64.wrap (a2 - 1)) - (a0.Words.length : Int))) - (a0.Ops.length : Int))) < 0)))) rfl (fun c28 => ?_) (fun c28 => ?_)
 ·replace h := Zr c28 h
  refine zQ [6] ?_
  exact Y4 [(vI (-1))]
 replace h := Zq c28 h
 refine Jq [1, 2, 3] [true] ?_
 refine Zl ?_
 obtain ⟨y2, hy2, h⟩ := bC h
 refine zCd (Zat hy2) [1, 2, 3] [true] ?_
 obtain ⟨z3, hz3, h⟩ := bC h
 refine Y6 (E' := ⟨107, [], [(1, (vI a1)), (2, (vI z3)), (3, .ref n 0)]⟩) (O' := (Zv O n [some ⟨false, 37, 11, 1, (Zi a0)⟩])) (n0 := (n + 1)) ?_ ?_
 ·refine zQ [1, 2, 3, 31] ?_
  refine Zs (t := (decide (0 ≤ y2))) rfl (fun c5 => ?_) (fun c5 => ?_)
  ·replace hz3 := Zr c5 hz3
   obtain ⟨y4, hy4, hz3⟩ := bC hz3
   refine zC (Zat hy4) ?_
   exact zEn hz3
  replace hz3 := Zq c5 hz3
  refine zK ?_
  exact zEn hz3
 refine Zl ?_
 refine zQd [1, 2, 3, 7] [1, 2, 3, 7] [true] ?_
 obtain ⟨z10, hz10, h⟩ := bC h
 refine Yu (E' := ⟨107, [], [(1, (vI a1)), (2, (vI z10)), (3, .ref n 0)]⟩) (O' := (Zv O n [some ⟨false, 37, 11, 1, (Zi a0)⟩])) (n0 := (n + 1)) ?_ ?_
 ·refine Y9 hz10 (fun s0_ => ⟨107, [], [(1, (vI a1)), (2, (vI s0_.1)), (3, .ref n 0), (7, (vI s0_.2))]⟩) (fun s0_ => (Zv O n [some ⟨false, 37, 11, 1, (Zi a0)⟩])) (fun z10 => JX 0 n (⟨107, [], [(1, (vI a1)), (2, (vI z10)), (3, .ref n 0)]⟩ : Env) (Zv O n [some ⟨false, 37, 11, 1, (Zi a0)⟩]) (n + 1)) ?_
  intro s0_ x0_ hs0_
  unfold Jf at hs0_
  try dsimp only
  refine Zl ?_
  refine zQD [1, 2, 3, 7, 44] [none, none] ?_
  refine Zs (t := (cond (decide (s0_.2 < (a0.Kids.length : Int))) (decide (0 ≤ s0_.1)) false)) rfl (fun c9 => ?_) (fun c9 => ?_)
  ·replace hs0_ := Zr c9 hs0_
   refine Jq [1, 2, 3, 7] [true] ?_
   refine Zl ?_
   refine Yl ?_
   obtain ⟨x6, hx6, ax6, bx6, cx6, hs0_⟩ := bE (f := Zk) Zon (fun _ => rfl) (by decide) hs0_
   have g7 := Zhv (f := Zk) (off := 1) (sz := 12) Ziu (fun _ => rfl) (by decide) (by decide) hx6
   obtain ⟨y8, hy8, hs0_⟩ := bC hs0_
   refine Zzx [] ax6 bx6 cx6 g7 ?_
   refine (Zii hy8).then ?_
   refine zF4 ax6 bx6 cx6 g7 ?_
   refine zD [1, 2, 3, 7] [true] ?_
   refine zR ?_
   exact zEn hs0_
  replace hs0_ := Zq c9 hs0_
  exact zEx hs0_
 try simp only [Y2, Ye, ↓reduceIte, Nat.reduceEqDiff]
 refine zDs [1, 2, 3] [true] ?_
 refine zQd [1, 2, 3, 8] [1, 2, 3, 8] [true] ?_
 obtain ⟨z27, hz27, h⟩ := bC h
 refine Yu (E' := ⟨107, [], [(2, (vI z27))]⟩) (O' := (Zv O n [none])) (n0 := (n + 1)) ?_ ?_
 ·refine Y9 hz27 (fun s1_ => ⟨107, [], [(1, (vI a1)), (2, (vI s1_.1)), (3, .ref n 0), (8, (vI s1_.2))]⟩) (fun s1_ => (Zv O n [some ⟨false, 37, 11, 1, (Zi a0)⟩])) (fun z27 => JX 2 n (⟨107, [], [(2, (vI z27))]⟩ : Env) (Zv O n [none]) (n + 1)) ?_
  intro s1_ x1_ hs1_
  unfold Jg at hs1_
  try dsimp only
  refine Zl ?_
  refine zQD [1, 2, 3, 8, 65] [none, none] ?_
  refine Zs (t := (cond (decide (s1_.2 < (a0.Ops.length : Int))) (decide (0 ≤ s1_.1)) false)) rfl (fun c26 => ?_) (fun c26 => ?_)
  ·replace hs1_ := Zr c26 hs1_
   refine Jq [1, 2, 3, 8] [true] ?_
   obtain ⟨z11, hz11, hs1_⟩ := bC hs1_
   refine Y6 (E' := ⟨107, [], [(1, (vI a1)), (2, (vI z11)), (3, .ref n 0), (8, (vI s1_.2))]⟩) (O' := (Zv O n [some ⟨false, 37, 11, 1, (Zi a0)⟩])) (n0 := (n + 1)) ?_ ?_
   ·refine Yl ?_
    refine Zl ?_
    refine zQd [1, 2, 3, 8, 9] [1, 2, 3, 8, 9] [true] ?_
    obtain ⟨z21, hz21, hz11⟩ := bC hz11
    refine Yu (E' := ⟨107, [], [(1, (vI a1)), (2, (vI z21)), (3, .ref n 0), (8, (vI s1_.2))]⟩) (O' := (Zv O n [some ⟨false, 37, 11, 1, (Zi a0)⟩])) (n0 := (n + 1)) ?_ ?_
    ·refine Y9 hz21 (fun s2_ => ⟨107, [], [(1, (vI a1)), (2, (vI s2_.1)), (3, .ref n 0), (8, (vI s1_.2)), (9, (vI s2_.2))]⟩) (fun s2_ => (Zv O n [some ⟨false, 37, 11, 1, (Zi a0)⟩])) (fun z21 => JX 4 n (⟨107, [], [(1, (vI a1)), (2, (vI z21)), (3, .ref n 0), (8, (vI s1_.2))]⟩ : Env) (Zv O n [some ⟨false, 37, 11, 1, (Zi a0)⟩]) (n + 1)) ?_
     intro s2_ x2_ hs2_
     unfold Ug at hs2_
     try dsimp only
     refine Zl ?_
     obtain ⟨x14, hx14, ax14, bx14, cx14, hs2_⟩ := bE (f := Zg) Zhg (fun _ => rfl) (by decide) hs2_
     have g15 := Zhv (f := Zg) (off := 2) (sz := 14) Z08 (fun _ => rfl) (by decide) (by decide) hx14
     refine Zno [1, 2, 3, 8, 9, 80] (Ys Z0 [none, none] ?_)
     refine zF4 ax14 bx14 cx14 g15 ?_
     refine zG ?_
     refine Zs (t := (cond (decide (s2_.2 < (x14.L.length : Int))) (decide (0 ≤ s2_.1)) false)) rfl (fun c20 => ?_) (fun c20 => ?_)
     ·replace hs2_ := Zr c20 hs2_
      refine Jq [1, 2, 3, 8, 9] [true] ?_
      refine Zl ?_
      refine Yl ?_
      obtain ⟨x16, hx16, ax16, bx16, cx16, hs2_⟩ := bE (f := Zg) Zhg (fun _ => rfl) (by decide) hs2_
      have g17 := Zhv (f := Zg) (off := 2) (sz := 14) Z08 (fun _ => rfl) (by decide) (by decide) hx16
      obtain ⟨x18, hx18, ax18, bx18, cx18, hs2_⟩ := bE (f := Za) Up (fun _ => rfl) (by decide) hs2_
      obtain ⟨y19, hy19, hs2_⟩ := bC hs2_
      refine Yeu [] ax16 bx16 cx16 g17 ax18 bx18 cx18 ?_
      refine (Zat hy19).then ?_
      refine zF7 ax16 bx16 cx16 g17 ax18 bx18 cx18 ?_
      refine zD [1, 2, 3, 8, 9] [true] ?_
      refine zR ?_
      exact zEn hs2_
     replace hs2_ := Zq c20 hs2_
     exact zEx hs2_
    try simp only [Y2, Ye, ↓reduceIte, Nat.reduceEqDiff]
    refine zD [1, 2, 3, 8] [true] ?_
    refine zQ [1, 2, 3, 8, 95] ?_
    refine Zs (t := (decide (0 ≤ z21))) rfl (fun c25 => ?_) (fun c25 => ?_)
    ·replace hz11 := Zr c25 hz11
     obtain ⟨x22, hx22, ax22, bx22, cx22, hz11⟩ := bE (f := Zg) Zhg (fun _ => rfl) (by decide) hz11
     have g23 := Zhv (f := Zg) (off := 3) (sz := 14) Ziu (fun _ => rfl) (by decide) (by decide) hx22
     obtain ⟨y24, hy24, hz11⟩ := bC hz11
     refine Zzx [] ax22 bx22 cx22 g23 ?_
     refine (Zii hy24).then ?_
     refine zF4 ax22 bx22 cx22 g23 ?_
     exact Ycc hz11 ax22 bx22 cx22 g23
    replace hz11 := Zq c25 hz11
    refine zK ?_
    exact zEn hz11
   refine zR ?_
   exact zEn hs1_
  replace hs1_ := Zq c26 hs1_
  exact zEx hs1_
 try simp only [Y2, Ye, ↓reduceIte, Nat.reduceEqDiff]
 refine zD [2] [false] ?_
 refine zQ [6] ?_
 exact Y4 [(vI z27)]
theorem Zns : ∀ k, (Zih (Y0 k)) := fun k => by
 induction k with
 | zero => exact @fun a0 a1 a2 r O n h => (nomatch (show (none : Option _) = some _ from h))
 | succ k ih => exact @fun a0 a1 a2 r O n h => Zqe (ih)  h
theorem Zqz {a0 : Zc} {a1 : Int} {a2 : Int} {r : Int} {O : Objs} {n : Nat} (h : Zg8 a0 a1 a2 = some r) : GTo Try.prog 33 [.agg (Zi a0), (vI a1), (vI a2)] O n ((vI r)) O n := by
 obtain ⟨k, hk⟩ := Zaf h
 exact (Zns k)  hk
theorem Zd4 {a0 : Zc} {r : Bool} {O : Objs} {n : Nat} (h : Zcv a0 = some r) : GTo Try.prog 20 [.agg (Zi a0)] O n ((vB r)) O n := by
 unfold Zcv at h
 refine zFn Try.call20 Try.func20 fun hU hN0 hN => ?_
 show W _ _ _ _ ⟨6, [], [(0, .agg (Zi a0))]⟩ (Zv O n []) _
 refine zQ [1] ?_
 refine Zl ?_
 obtain ⟨y2, hy2, h⟩ := bC h
 refine zCd (Zqz hy2) [2] [false] ?_
 exact Y4 [(vB (decide (0 ≤ y2)))]
theorem V4 {a0 : Zb} {r : Bool} {O : Objs} {n : Nat} (h : Jy a0 = some r) : GTo Try.prog 34 [.agg (Ze a0)] O n ((vB r)) O n := by
 unfold Jy at h
 refine zFn Try.call34 Try.func34 fun hU hN0 hN => ?_
 show W _ _ _ _ ⟨16, [], [(0, .agg (Ze a0))]⟩ (Zv O n []) _
 refine zQ [1] ?_
 refine zQD [2] [none, none, none, none, none, none, none, none] ?_
 exact Y4 [(vB (cond (a0.Kind == 0) ((IntKind.i64.wrap ((a0.Words.length : Int) + (a0.Kids.length : Int))) == 0) false))]
theorem Zis {a0 : Int} {r : (Arr Int 8)} {O : Objs} {n : Nat} (h : V1 a0 = some r) : GTo Try.prog 62 [.val (.int .u64 a0)] O n (.agg (fl (eI .u8) r.1)) O n := by
 unfold V1 at h
 refine zFn Try.call62 Try.func62 fun hU hN0 hN => ?_
 show W _ _ _ _ ⟨18, [], [(0, .val (.int .u64 a0))]⟩ (Zv O n []) _
 obtain ⟨y3, hy3, ey3, h⟩ := bY (f := (eI .u8)) (cs := [.val (.int .u8 0), .val (.int .u8 0), .val (.int .u8 0), .val (.int .u8 0), .val (.int .u8 0), .val (.int .u8 0), .val (.int .u8 0), .val (.int .u8 0)]) rfl h
 have g4 := congrArg (GObj.mk false 88 8 1) ey3
 refine Yix [0, 2] g4 ?_
 refine Zl ?_
 obtain ⟨y9, hy9, ey9, h⟩ := bY (f := (eI .u8)) (cs := [.val (.int .u8 0), .val (.int .u8 0), .val (.int .u8 0), .val (.int .u8 0), .val (.int .u8 0), .val (.int .u8 0), .val (.int .u8 0), .val (.int .u8 0)]) rfl h
 have g10 := congrArg G.agg ey9
 have g11 := congrArg (GObj.mk false 88 8 1) ey9
 have g12 := Zja (f := (eI .u8)) y9 y9 (fun _ => rfl)
 refine Zgh [] g10 g11 g12 ?_
 refine zDs [0, 2, 3] [true, true] ?_
 refine zQd [0, 2, 3, 4] [0, 2, 3, 4] [true, true] ?_
 obtain ⟨z18, hz18, h⟩ := bC h
 refine Yu (E' := ⟨18, [], [(2, .ref n 0), (3, .ref (n + 1) 0)]⟩) (O' := (Zv O n [some ⟨false, 88, 8, 1, fl (eI .u8) y3.1⟩, some ⟨false, 88, 8, 1, fl (eI .u8) z18.1⟩])) (n0 := (n + 2)) ?_ ?_
 ·refine Y9 hz18 (fun s0_ => ⟨18, [], [(0, .val (.int .u64 s0_.1)), (2, .ref n 0), (3, .ref (n + 1) 0), (4, (vI s0_.2.1))]⟩) (fun s0_ => (Zv O n [some ⟨false, 88, 8, 1, fl (eI .u8) y3.1⟩, some ⟨false, 88, 8, 1, fl (eI .u8) s0_.2.2.1⟩])) (fun z18 => JX 0 n (⟨18, [], [(2, .ref n 0), (3, .ref (n + 1) 0)]⟩ : Env) (Zv O n [some ⟨false, 88, 8, 1, fl (eI .u8) y3.1⟩, some ⟨false, 88, 8, 1, fl (eI .u8) z18.1⟩]) (n + 2)) ?_
  intro s0_ x0_ hs0_
  unfold Vx at hs0_
  try dsimp only
  refine Zl ?_
  refine zQ [0, 2, 3, 4, 7] ?_
  refine Zs (t := (decide (s0_.2.1 < 8))) rfl (fun c17 => ?_) (fun c17 => ?_)
  ·replace hs0_ := Zr c17 hs0_
   refine Jq [0, 2, 3, 4] [true, true] ?_
   refine Zl ?_
   refine Yl ?_
   refine Zl ?_
   obtain ⟨x15, hx15, ax15, bx15, cx15, hs0_⟩ := bEA (f := (eI .u8)) (b := 8) rfl Z3d (fun _ => rfl) (by decide) hs0_
   have gu16 : Kc (fl (eI .u8) s0_.2.2.1) [.val (.int .u8 (IntKind.u8.wrap (Int.tmod s0_.1 256)))] (Int.toNat s0_.2.1 * 1) = some (fl (eI .u8) (Zh2 s0_.2.2.1 s0_.2.1 (IntKind.u8.wrap (Int.tmod s0_.1 256)))) := Zlc (f := (eI .u8)) (ti := ⟨.bool, 1, 0, [], false⟩) (x := (IntKind.u8.wrap (Int.tmod s0_.1 256))) (fun _ => rfl) (Zgz hx15)
   refine Zzx [] ax15 bx15 cx15 gu16 ?_
   refine zD [0, 2, 3, 4] [true, true] ?_
   refine zRd [0, 2, 3, 4] [true, true] ?_
   refine zR ?_
   exact zEn hs0_
  replace hs0_ := Zq c17 hs0_
  exact zEx hs0_
 try simp only [Y2, Ye, ↓reduceIte, Nat.reduceEqDiff]
 refine zDs [2, 3] [true, true] ?_
 have g21 := Z0s (f := (eI .u8)) z18 Z09 rfl (fun _ => rfl) rfl
 have g22 := Zja (f := (eI .u8)) y3 z18 (fun _ => rfl)
 refine J5 [] g21 g22 ?_
 refine zD [2] [true, false] ?_
 refine zW ?_
 obtain rfl := sI h
 have gR0 := Z0s (f := (eI .u8)) z18 Z09 rfl (fun _ => rfl) rfl
 refine Zvh (.inr rfl) hU [.agg (fl (eI .u8) z18.1)] (by omega) ?_
 simp only [push_cast, seval, ↓reduceIte, Zf, Try.results62, hN0, hN, gR0]
theorem Zp9 {a0 : Int} {a1 : Int} {r : Bool} {O : Objs} {n : Nat} (h : Zai a0 a1 = some r) : GTo Try.prog 63 [.val (.int .u8 a0), (vI a1)] O n ((vB r)) O n := by
 unfold Zai at h
 refine zFn Try.call63 Try.func63 fun hU hN0 hN => ?_
 show W _ _ _ _ ⟨16, [], [(0, .val (.int .u8 a0)), (1, (vI a1))]⟩ (Zv O n []) _
 refine zQ [0, 1] ?_
 refine Zl ?_
 refine zQd [0, 1, 5] [0, 1, 5] [] ?_
 obtain ⟨z2, hz2, h⟩ := bC h
 refine Yu (E' := ⟨16, [], [(0, .val (.int .u8 z2))]⟩) (O' := (Zv O n [])) (n0 := n) ?_ ?_
 ·refine Y9 hz2 (fun s0_ => ⟨16, [], [(0, .val (.int .u8 s0_.1)), (1, (vI a1)), (5, (vI s0_.2))]⟩) (fun s0_ => (Zv O n [])) (fun z2 => JX 0 n (⟨16, [], [(0, .val (.int .u8 z2))]⟩ : Env) (Zv O n []) n) ?_
  intro s0_ x0_ hs0_
  unfold J8 at hs0_
  try dsimp only
  refine Zl ?_
  refine zQ [0, 1, 5, 8] ?_
  refine Zs (t := (decide (s0_.2 < a1))) rfl (fun c1 => ?_) (fun c1 => ?_)
  ·replace hs0_ := Zr c1 hs0_
   refine Jq [0, 1, 5] [] ?_
   refine Zl ?_
   refine Yl ?_
   refine zRd [0, 1, 5] [] ?_
   refine zR ?_
   exact zEn hs0_
  replace hs0_ := Zq c1 hs0_
  exact zEx hs0_
 try simp only [Y2, Ye, ↓reduceIte, Nat.reduceEqDiff]
 refine zD [0] [] ?_
 refine zQ [4] ?_
 exact Y4 [(vB ((Int.tmod z2 2) == 1))]
theorem Zt8 {a0 : (List Int)} {a1 : Int} {r : Int} {O : Objs} {n : Nat} (h : Zfy a0 a1 = some r) : GTo Try.prog 64 [(sL (eI .u8) a0), (vI a1)] O n (.val (.int .u64 r)) O n := by
 unfold Zfy at h
 refine zFn Try.call64 Try.func64 fun hU hN0 hN => ?_
 show W _ _ _ _ ⟨22, [], [(0, (sL (eI .u8) a0)), (1, (vI a1))]⟩ (Zv O n []) _
 refine zQ [0, 1] ?_
 refine zQ [0, 1, 5] ?_
 refine Zl ?_
 refine zQd [0, 1, 5, 6] [0, 1, 5, 6] [] ?_
 obtain ⟨z3, hz3, h⟩ := bC h
 refine Yu (E' := ⟨22, [], [(5, .val (.int .u64 z3))]⟩) (O' := (Zv O n [])) (n0 := n) ?_ ?_
 ·refine Y9 hz3 (fun s0_ => ⟨22, [], [(0, (sL (eI .u8) a0)), (1, (vI a1)), (5, .val (.int .u64 s0_.1)), (6, (vI s0_.2))]⟩) (fun s0_ => (Zv O n [])) (fun z3 => JX 0 n (⟨22, [], [(5, .val (.int .u64 z3))]⟩ : Env) (Zv O n []) n) ?_
  intro s0_ x0_ hs0_
  unfold Zaj at hs0_
  try dsimp only
  refine Zl ?_
  refine zQ [0, 1, 5, 6, 8] ?_
  refine Zs (t := (decide (0 ≤ s0_.2))) rfl (fun c2 => ?_) (fun c2 => ?_)
  ·replace hs0_ := Zr c2 hs0_
   refine Jq [0, 1, 5, 6] [] ?_
   refine Zl ?_
   refine Yl ?_
   obtain ⟨x1, hx1, ax1, bx1, cx1, hs0_⟩ := bE (f := (eI .u8)) Z3d (fun _ => rfl) (by decide) hs0_
   refine Zc2 [] ax1 bx1 cx1 ?_
   refine zD [0, 1, 5, 6] [] ?_
   refine zR ?_
   exact zEn hs0_
  replace hs0_ := Zq c2 hs0_
  exact zEx hs0_
 try simp only [Y2, Ye, ↓reduceIte, Nat.reduceEqDiff]
 refine zD [5] [] ?_
 refine zQ [4] ?_
 exact Y4 [.val (.int .u64 z3)]
theorem Zsd {a0 : Int} {a1 : Int} {a2 : Int} {r : Int} {O : Objs} {n : Nat} (h : Zcu a0 a1 a2 = some r) : GTo Try.prog 47 [.val (.int .u64 a0), .val (.int .u64 a1), .val (.int .u8 a2)] O n (.val (.int .u64 r)) O n := by
 unfold Zcu at h
 refine zFn Try.call47 Try.func47 fun hU hN0 hN => ?_
 show W _ _ _ _ ⟨28, [], [(0, .val (.int .u64 a0)), (1, .val (.int .u64 a1)), (2, .val (.int .u8 a2))]⟩ (Zv O n []) _
 refine zQ [0, 1, 2] ?_
 refine Zl ?_
 obtain ⟨y8, hy8, h⟩ := bC h
 obtain ⟨y9, hy9, h⟩ := bC h
 obtain ⟨y10, hy10, ey10, h⟩ := bY (f := (eI .u8)) (cs := [.val (.int .u8 0), .val (.int .u8 0), .val (.int .u8 0), .val (.int .u8 0), .val (.int .u8 0), .val (.int .u8 0), .val (.int .u8 0), .val (.int .u8 0)]) rfl h
 have g11 := congrArg (GObj.mk false 88 8 1) ey10
 have g12 := congrArg (GObj.mk false 88 8 1) ey10
 have g13 := Zja (f := (eI .u8)) y10 y8 (fun _ => rfl)
 have g14 := Zja (f := (eI .u8)) y10 y9 (fun _ => rfl)
 refine Zos [] g11 g12 g13 g14 ?_
 refine (Zis hy8).then ?_
 refine zX4 g11 g12 g13 g14 ?_
 refine (Zis hy9).then ?_
 refine zX4 g11 g12 g13 g14 ?_
 refine zDs [2, 7, 8] [true, true] ?_
 refine zQd [2, 7, 8, 9] [2, 7, 8, 9] [true, true] ?_
 obtain ⟨z23, hz23, h⟩ := bC h
 refine Yu (E' := ⟨28, [], [(7, .ref n 0)]⟩) (O' := (Zv O n [some ⟨false, 88, 8, 1, fl (eI .u8) z23.1⟩, none])) (n0 := (n + 2)) ?_ ?_
 ·refine Y9 hz23 (fun s0_ => ⟨28, [], [(2, .val (.int .u8 a2)), (7, .ref n 0), (8, .ref (n + 1) 0), (9, (vI s0_.1))]⟩) (fun s0_ => (Zv O n [some ⟨false, 88, 8, 1, fl (eI .u8) s0_.2.1⟩, some ⟨false, 88, 8, 1, fl (eI .u8) y9.1⟩])) (fun z23 => JX 0 n (⟨28, [], [(7, .ref n 0)]⟩ : Env) (Zv O n [some ⟨false, 88, 8, 1, fl (eI .u8) z23.1⟩, none]) (n + 2)) ?_
  intro s0_ x0_ hs0_
  unfold Gg at hs0_
  try dsimp only
  refine Zl ?_
  refine zQ [2, 7, 8, 9, 15] ?_
  refine Zs (t := (decide (s0_.1 < 8))) rfl (fun c22 => ?_) (fun c22 => ?_)
  ·replace hs0_ := Zr c22 hs0_
   refine Jq [2, 7, 8, 9] [true, true] ?_
   obtain ⟨z15, hz15, hs0_⟩ := bC hs0_
   refine Y6 (E' := ⟨28, [], [(2, .val (.int .u8 a2)), (7, .ref n 0), (8, .ref (n + 1) 0), (9, (vI s0_.1))]⟩) (O' := (Zv O n [some ⟨false, 88, 8, 1, fl (eI .u8) z15.1⟩, some ⟨false, 88, 8, 1, fl (eI .u8) y9.1⟩])) (n0 := (n + 2)) ?_ ?_
   ·refine Yl ?_
    refine Zl ?_
    obtain ⟨y17, hy17, hz15⟩ := bC hz15
    refine zCd (Zp9 hy17) [2, 7, 8, 9, 20] [true, true] ?_
    refine Zs (t := y17) rfl (fun c21 => ?_) (fun c21 => ?_)
    ·replace hz15 := Zr c21 hz15
     obtain ⟨x18, hx18, ax18, bx18, cx18, hz15⟩ := bEA (f := (eI .u8)) (b := 8) rfl Z3d (fun _ => rfl) (by decide) hz15
     obtain ⟨x19, hx19, ax19, bx19, cx19, hz15⟩ := bEA (f := (eI .u8)) (b := 8) rfl Z3d (fun _ => rfl) (by decide) hz15
     have gu20 : Kc (fl (eI .u8) s0_.2.1) [.val (.int .u8 x18)] (Int.toNat s0_.1 * 1) = some (fl (eI .u8) (Zh2 s0_.2.1 s0_.1 x18)) := Zlc (f := (eI .u8)) (ti := ⟨.bool, 1, 0, [], false⟩) (x := x18) (fun _ => rfl) (Zgz hx19)
     refine Yeu [] ax18 bx18 cx18 ax19 bx19 cx19 gu20 ?_
     exact Yer hz15 ax18 bx18 cx18 ax19 bx19 cx19 gu20
    replace hz15 := Zq c21 hz15
    refine zK ?_
    exact zEn hz15
   refine zR ?_
   exact zEn hs0_
  replace hs0_ := Zq c22 hs0_
  exact zEx hs0_
 try simp only [Y2, Ye, ↓reduceIte, Nat.reduceEqDiff]
 refine zDs [7] [true, false] ?_
 have g27 := Z5y (j := n) Ztm Z3d (by decide)
 have g28 := z23.2
 obtain ⟨y29, hy29, h⟩ := bC h
 refine J5 [] g27 g28 ?_
 refine GCalls.lend (Zt8 hy29) rfl ?_ ?_
 ·exact X3 g27 g28
 refine zX2 g27 g28 ?_
 refine zD [6] [false, false] ?_
 exact Y4 [.val (.int .u64 y29)]
theorem Zeq {a0 : Int} {a1 : Int} {r : Bool} {O : Objs} {n : Nat} (h : Vi a0 a1 = some r) : GTo Try.prog 35 [.val (.int .u64 a0), .val (.int .u8 a1)] O n ((vB r)) O n := by
 unfold Vi at h
 refine zFn Try.call35 Try.func35 fun hU hN0 hN => ?_
 show W _ _ _ _ ⟨9, [], [(0, .val (.int .u64 a0)), (1, .val (.int .u8 a1))]⟩ (Zv O n []) _
 refine zQ [0, 1] ?_
 refine Zl ?_
 obtain ⟨y2, hy2, h⟩ := bC h
 refine zCd (Zsd hy2) [4] [] ?_
 exact Y4 [(vB (y2 == 0))]
end Go.Proofs.Ytgpaglmhkklneaa
