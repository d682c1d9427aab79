/- Part BM7 of this seat's mirrors: functions of the seat's program, and the plain functions that they are; each theorem bears its own conditions. -/
import Derived.Test.YtgpaglmhkklneaaBE
import Derived.Test.YtgpaglmhkklneaaBM5
namespace Go.Proofs.Ytgpaglmhkklneaa
open Go.RowKit
set_option linter.unusedVariables false
set_option linter.unusedSimpArgs false
set_option maxRecDepth 100000
set_option maxHeartbeats 4000000
attribute [local push_cast] Try.results14 Try.results21 Try.results22 Try.results27 Try.results28 Try.results36 Try.results37 Try.results48 Try.results8 vI vB nV sL oR Zi Za7 Yq Ze Gs Vh Zvu Zvt Zwm Zwl Y2 Ye Zrw Zl6 Zl5 onW Q0 Zgw Zfr Zus Zt1 Zps Zpw Zpr Zpv Zs6 Zs2 Zpu Zs5 Zs4 Zs3 Zpt Zs0 Zm6 evS wok Kb Op.operands Call.operands gop onK onP atK List.all_cons List.all_nil Bool.and_true Bool.true_and Bool.and_self Value.oneCell' List.take_zero List.take_succ_cons List.take_nil List.drop_zero List.drop_succ_cons List.drop_nil List.append_nil Nat.add_zero Nat.zero_add Zbj Yy ev Kr Zc3 Zvn Zvm Zvs Zvq Zvr Zvo Zvp Zvl Zu8 Zyp Z1q Zl9 Zgy Zla Zgx Zpc Zjb Zj7 Zkc Zl0 Zlw Zka Zlz Zly Zlx Zj9 Zlu Zj8 Zkb Ziv Zlv Zn1 Zl7 Zeh Zl8 Zei Zn0 Zl4 Zz2 bLo bHi bMx Zg0 Zny Z4b Zl3 Znz Ziw Zc4 Zyr Z4d Zl2 Zi8 Z4h Zgv Z5w Zr1 Zr5 Zr0 Zr4 Zv9 Zv5 Zv3 Zpe Zr2 Zv8 Zv7 Zv6 Zr3 Zvz Zv2 Zvy Zv1 Z14 Z1z Z1y Zv0 Z12 Z13 Zv4 Znp gone Zsr Zmt Zms pop TK.isAgg Zwf Zwj Zwe Zwi Zsj Z2n Z2j Zwh Z2m Z2l Z2k Zwg Z2i G.under G.unders List.getD_cons_zero List.getD_cons_succ List.set_cons_zero List.set_cons_succ List.map_cons List.map_nil List.toList_toArray Array.toList_append Option.toArray_none Option.toArray_some Array.toList_map Option.map_some Option.map_none Option.bind_some Option.bind_none List.getElem?_cons_zero List.getElem?_cons_succ List.getElem?_nil List.nil_append List.cons_append List.replicate_succ List.replicate_zero List.length_cons List.length_nil and_true true_and and_false false_and Bool.true_eq_false Bool.false_eq_true forall_const false_implies implies_true IntKind.bits if_true if_false ite_true ite_false eq_self true_implies false_or or_false or_true true_or not_true_eq_false not_false_eq_true decide_true decide_false decide_eq_true_eq decide_eq_false_iff_not beq_iff_eq bne_iff_ne ne_eq Bool.not_eq_true Bool.not_eq_false beq_eq_false_iff_ne bne_eq_false_iff_eq beq_self_eq_true bne_self_eq_false Option.some.injEq exists_eq_left' exists_eq_left ge_iff_le gt_iff_lt decide_not Bool.not_true Bool.not_false imp_self Z1s cond_true cond_false Ycm Ycl Bool.not_not Bool.and_false Bool.false_and Bool.or_true Bool.true_or Bool.or_false Bool.false_or Kl Vq Vr Ka Yo Yc Option.join_some Nat.add_assoc Int.toNat_natCast eI eB eS eL Z5 Zlb Zke Zvx Zvv Zvw Z54 Z9d Zln Zkl Zwt Zwr Zws Z2h Zp5 Z0q Zqk Zzz Ziz Zyj List.length_append G.agg.injEq G.row.injEq G.ref.injEq G.val.injEq G.sl.injEq G.tup.injEq Value.int.injEq Value.bool.injEq Value.string.injEq List.cons.injEq exists_and_left exists_const List.flatten_cons List.flatten_nil Int.le_refl Nat.le_refl Xd Z6 Z8 Bool.not_eq_true' Bool.not_eq_false' Zx0 Zoq Z3p Z3u Z3o Z3t Z8s Z8n List.size_toArray Zue Zux G.ren G.rens Zzh Zjv Zwv Zvj Zvk Zs1 Z3v Zga G.fn.injEq Zto Ztp Zxz Z8o Ztn Z3s Z8r Z8q Z8p Z3q Z18 Z62 Option.join_none Z4 Zar undef Zn5 Arr.len Arr.put_eq Zlm Zpi Zmp Zkk Zwq Zwo Zwp onB Z53 Zyo Zsw Zo9 Zq7 Zq8 Zq9 Zra Zrb Zrc Zpf Zpl Zpj Zmr Zkm Zpk Zsq Zsp Zso Zsn Z9c Ya9 Z2g Z0a Zdf Z2a Zr7 Zpm Zmq Z4y Zu0 Zl1 Znx Zh7 Zoi Zrd Zre Zrf Zrg Zou Zov Zow Zox Zoy Zoz Zo0 Zo1 Zo2 Zo3 Zo4 Zo5 Zo6 Zip prT Zj1 Ydr Z3e Z9p Z3f Yds Z3g Z3d Z3h Ydt Z3i Ydu Z3j Ydv Z3k Ydw Z3l Z7q Zwz Z7r Zw0 Z7s Zw1 Z7t Zw2 Z7u Zw3 Z7v Zw4 Z7w Zw5 Z7x Zw6 Z7y Zw7 Z7z Zw8 Z70 Zw9 Z71 Zpy Z08 Zf1 Z72 Zxa Up Zxb Z73 Zpz Z74 Zxc Z75 Zxd Z76 Zxe Z77 Zxf Z78 Zxg Ziu Zxh Z79 Zxi Z8a Zxj Z8b Zxk Zhf Zxl Z8c Zxm Zu1 Zxn Z8d Zxo Z8e Zxp Z8f Zxq Zon Zxr Z8g Zxs Zhg Zxt Z8h Zxu Z8i Zxv Z8j Zxw Z09 Ztm Z8k Zxx Z8l Zxy Z20 Zs9 Z21 Zta Z22 Ztb Z23 Ztc Z24 Ztd Z25 Zte Z26 Ztf Z27 Ztg Z28 Zth Z29 Zti Z3a Ztj Z3b Ztk Z3c Ztl Za Yx Znf Znd Zmc Zmo Znh Zku Zkr Zkp Zna Zfh Zff Ze4 Ze9 Zfj Zea Zd8 Zd6 Zfd Zne Znc Zmb Zmn Zng Zkt Zkq Zko Zm9 Zh Zd Zk Zg Xw Xe Qr Yb Zb6 Zb4 Zbk Zbx Zb8 Za0 Zax Zav Zb1 Zco Zcn Zck Zcl Zcp Zb3 Zb0 Zbz Zcm Zhk Zhj Zg4 Zha Zhl Zf2 Zf0 Zfz Zhi Zfg Zfe Ze3 Ze8 Zfi Zd9 Zd7 Zd5 Zfc Yn Zb7 Zb5 Zbl Zby Zb9 Za1 Zay Zaw Zb2 Yj Za3 Za2 Zas Zau Za4 Gn Gm Gl Zaz U3 U2 Us Uz U5 Ud Uc Ub U1 Zp2 Zp1 Zpd Zph Zp3 Znb Zmx Zmw Zp0 Zci
theorem Zjg {a0 : Zc} {r : Bool} {O : Objs} {n : Nat} (h : Uu a0 = some r) : GTo Try.prog 48 [.agg (Zi a0)] O n ((vB r)) O n := by
 unfold Uu at h
 refine zFn Try.call48 Try.func48 fun hU hN0 hN => ?_
 show W _ _ _ _ ⟨35, [], [(0, .agg (Zi a0))]⟩ (Zv O n []) _
 refine zQ [1] ?_
 obtain ⟨z3, hz3, h⟩ := bC h
 refine Y6 (E' := ⟨35, [], [(2, (vB z3))]⟩) (O' := (Zv O n [none])) (n0 := (n + 1)) ?_ ?_
 ·rcases Bool.eq_false_or_eq_true (a0.Kind == 0) with c8 | c8
  ·replace hz3 := Zr c8 hz3
   obtain ⟨y6, hy6, hz3⟩ := bC hz3
   rcases Bool.eq_false_or_eq_true y6 with c9 | c9
   ·replace hz3 := Zr c9 hz3
    try rw [c9] at c8
    obtain ⟨y7, hy7, hz3⟩ := bC hz3
    refine J5 [some true, some true, some true, some true, some true, some true, none, none, none, none, none, none, none, none, none, none, none, none, none, none, none] c8 c9 ?_
    refine zG ?_
    refine (V4 hy6).then ?_
    refine zX2 c8 c9 ?_
    refine zG ?_
    refine (V4 hy7).then ?_
    refine zX2 c8 c9 ?_
    refine zG ?_
    exact Zc1 hz3 c8 c9
   replace hz3 := Zq c9 hz3
   try rw [c9] at c8
   refine J5 [some true, some true, some true, some false, some false, some false, some false, some false, some false, some false, some false, some false, some false, some false, some false, some false, some false, some false, some false, some false, some false] c8 c9 ?_
   refine (V4 hy6).then ?_
   refine zX2 c8 c9 ?_
   exact Zc1 hz3 c8 c9
  replace hz3 := Zq c8 hz3
  refine K6 [some false, some false, some false, some false, some false, some false, some false, some false, some false, some false, some false, some false, some false, some false, some false, some false, some false, some false, some false, some false, some false] c8 ?_
  exact Jb hz3 c8
 exact Y4 [(vB z3)]
theorem Zhp {a0 : Zc} {r : (Int × Int)} {O : Objs} {n : Nat} (h : Ks a0 = some r) : GTo Try.prog 37 [.agg (Zi a0)] O n (.tup [(vI r.1), (vI r.2)]) O n := by
 unfold Ks at h
 refine zFn Try.call37 Try.func37 fun hU hN0 hN => ?_
 show W _ _ _ _ ⟨48, [], [(0, .agg (Zi a0))]⟩ (Zv O n []) _
 refine zQ [1] ?_
 refine zQ [1, 4, 5] ?_
 refine Zl ?_
 refine zQd [1, 4, 5, 6] [1, 4, 5, 6] [true] ?_
 obtain ⟨z14, hz14, h⟩ := bC h
 refine Yu (E' := ⟨48, [], [(4, (vI z14.1)), (5, (vI z14.2))]⟩) (O' := (Zv O n [none])) (n0 := (n + 1)) ?_ ?_
 ·refine Y9 hz14 (fun s0_ => ⟨48, [], [(1, .ref n 0), (4, (vI s0_.1)), (5, (vI s0_.2.1)), (6, (vI s0_.2.2))]⟩) (fun s0_ => (Zv O n [some ⟨false, 37, 11, 1, (Zi a0)⟩])) (fun z14 => JX 0 n (⟨48, [], [(4, (vI z14.1)), (5, (vI z14.2))]⟩ : Env) (Zv O n [none]) (n + 1)) ?_
  intro s0_ x0_ hs0_
  unfold Kt at hs0_
  try dsimp only
  refine Zl ?_
  refine zQ [1, 4, 5, 6, 13] ?_
  refine Zs (t := (decide (s0_.2.2 < (a0.Ops.length : Int)))) rfl (fun c13 => ?_) (fun c13 => ?_)
  ·replace hs0_ := Zr c13 hs0_
   refine Jq [1, 4, 5, 6] [true] ?_
   obtain ⟨z1, hz1, hs0_⟩ := bC hs0_
   refine Y6 (E' := ⟨48, [], [(1, .ref n 0), (4, (vI z1.1)), (5, (vI z1.2)), (6, (vI s0_.2.2))]⟩) (O' := (Zv O n [some ⟨false, 37, 11, 1, (Zi a0)⟩, none])) (n0 := (n + 2)) ?_ ?_
   ·refine Yl ?_
    refine Zl ?_
    obtain ⟨x3, hx3, ax3, bx3, cx3, hz1⟩ := bE (f := Zg) Zhg (fun _ => rfl) (by decide) hz1
    refine Zc2 [] ax3 bx3 cx3 ?_
    refine zD [1, 4, 5, 6, 7] [true, true] ?_
    refine zQ [1, 4, 5, 6, 7, 8] ?_
    obtain ⟨z4, hz4, hz1⟩ := bC hz1
    refine Y6 (E' := ⟨48, [], [(1, .ref n 0), (4, (vI s0_.1)), (5, (vI s0_.2.1)), (6, (vI s0_.2.2)), (7, .ref (n + 1) 0), (8, (vI z4))]⟩) (O' := (Zv O n [some ⟨false, 37, 11, 1, (Zi a0)⟩, some ⟨false, 68, 14, 1, (Yq x3)⟩])) (n0 := (n + 2)) ?_ ?_
    ·refine zQ [1, 4, 5, 6, 7, 8, 29] ?_
     refine Zs (t := (x3.Kind == 3)) rfl (fun c5 => ?_) (fun c5 => ?_)
     ·replace hz4 := Zr c5 hz4
      refine zR ?_
      exact zEn hz4
     replace hz4 := Zq c5 hz4
     refine zK ?_
     exact zEn hz4
    obtain ⟨z6, hz6, hz1⟩ := bC hz1
    refine Y6 (E' := ⟨48, [], [(1, .ref n 0), (4, (vI z6)), (5, (vI s0_.2.1)), (6, (vI s0_.2.2)), (7, .ref (n + 1) 0), (8, (vI z4))]⟩) (O' := (Zv O n [some ⟨false, 37, 11, 1, (Zi a0)⟩, some ⟨false, 68, 14, 1, (Yq x3)⟩])) (n0 := (n + 2)) ?_ ?_
    ·refine zQ [1, 4, 5, 6, 7, 8, 32] ?_
     refine Zs (t := (x3.Kind != 2)) rfl (fun c7 => ?_) (fun c7 => ?_)
     ·replace hz6 := Zr c7 hz6
      refine zR ?_
      exact zEn hz6
     replace hz6 := Zq c7 hz6
     refine zK ?_
     exact zEn hz6
    obtain ⟨z8, hz8, hz1⟩ := bC hz1
    refine Y6 (E' := ⟨48, [], [(1, .ref n 0), (4, (vI z6)), (5, (vI z8)), (6, (vI s0_.2.2))]⟩) (O' := (Zv O n [some ⟨false, 37, 11, 1, (Zi a0)⟩, none])) (n0 := (n + 2)) ?_ ?_
    ·refine zQ [1, 4, 5, 6, 8, 38] ?_
     refine Zs (t := (x3.Kind != 1)) rfl (fun c9 => ?_) (fun c9 => ?_)
     ·replace hz8 := Zr c9 hz8
      refine zR ?_
      exact zEn hz8
     replace hz8 := Zq c9 hz8
     refine zK ?_
     exact zEn hz8
    obtain ⟨z10, hz10, hz1⟩ := bC hz1
    refine Y6 (E' := ⟨48, [], [(1, .ref n 0), (4, (vI z10)), (5, (vI z8)), (6, (vI s0_.2.2))]⟩) (O' := (Zv O n [some ⟨false, 37, 11, 1, (Zi a0)⟩, none])) (n0 := (n + 2)) ?_ ?_
    ·refine zQ [1, 4, 5, 6, 43] ?_
     refine Zs (t := (decide (1048576 < z6))) rfl (fun c11 => ?_) (fun c11 => ?_)
     ·replace hz10 := Zr c11 hz10
      refine zR ?_
      exact zEn hz10
     replace hz10 := Zq c11 hz10
     refine zK ?_
     exact zEn hz10
    refine zQ [1, 4, 5, 6, 45] ?_
    refine Zs (t := (decide (1048576 < z8))) rfl (fun c12 => ?_) (fun c12 => ?_)
    ·replace hz1 := Zr c12 hz1
     refine zR ?_
     exact zEn hz1
    replace hz1 := Zq c12 hz1
    refine zK ?_
    exact zEn hz1
   refine zR ?_
   exact zEn hs0_
  replace hs0_ := Zq c13 hs0_
  exact zEx hs0_
 try simp only [Y2, Ye, ↓reduceIte, Nat.reduceEqDiff]
 refine zD [4, 5] [false] ?_
 refine zQ [2, 3] ?_
 exact Y4 [(vI z14.1), (vI z14.2)]
def Zd1 (Xl : (Zc → Int → Option Bool)) : Prop := ∀ {a0 : Zc} {a1 : Int} {r : Bool} {O : Objs} {n : Nat}, Xl a0 a1 = some r → GTo Try.prog 21 [.agg (Zi a0), (vI a1)] O n ((vB r)) O n
def Zf7 (Qo : (Int → Zm → Int → Option Bool)) : Prop := ∀ {a0 : Int} {a1 : Zm} {a2 : Int} {r : Bool} {O : Objs} {n : Nat}, Qo a0 a1 a2 = some r → GTo Try.prog 36 [(vI a0), .agg (Yq a1), (vI a2)] O n ((vB r)) O n
theorem Zog {Xl : (Zc → Int → Option Bool)} {Qo : (Int → Zm → Int → Option Bool)} (Zd2 : Zd1 Xl) (Zjj : Zf7 Qo) {a0 : Zc} {a1 : Int} {r : Bool} {O : Objs} {n : Nat} (h : Gx Xl Qo a0 a1 = some r) : GTo Try.prog 21 [.agg (Zi a0), (vI a1)] O n ((vB r)) O n := by
 unfold Gx at h
 refine zFn Try.call21 Try.func21 fun hU hN0 hN => ?_
 show W _ _ _ _ ⟨216, [], [(0, .agg (Zi a0)), (1, (vI a1))]⟩ (Zv O n []) _
 refine zQ [1, 2] ?_
 refine Zl ?_
 refine zQD [1, 2, 24] [none, none, none, none, none, none] ?_
 refine Zs (t := (cond (cond (a1 == 0) true (decide (a0.Kind < 0))) true (decide (3 < a0.Kind)))) rfl (fun c58 => ?_) (fun c58 => ?_)
 ·replace h := Zr c58 h
  refine zQ [4] ?_
  exact Y4 [(vB false)]
 replace h := Zq c58 h
 refine Jq [1, 2] [true] ?_
 refine Zl ?_
 obtain ⟨z3, hz3, h⟩ := bC h
 refine Y6 (E' := ⟨216, [], [(1, (vI a1)), (2, .ref n 0), (69, (vB z3))]⟩) (O' := (Zv O n [some ⟨false, 37, 11, 1, (Zi a0)⟩])) (n0 := (n + 1)) ?_ ?_
 ·rcases Bool.eq_false_or_eq_true (a0.Kind != 1) with c8 | c8
  ·replace hz3 := Zr c8 hz3
   obtain ⟨y6, hy6, hz3⟩ := bC hz3
   rcases Bool.eq_false_or_eq_true y6 with c9 | c9
   ·replace hz3 := Zr c9 hz3
    try rw [c9] at c8
    obtain ⟨y7, hy7, hz3⟩ := bC hz3
    refine J5 [some true, some true, some true, some true, some true, some true, some true, some true, some true, none, none, none, none, none, none, none, none, none, none, none, none, none, none, none, none, none, none, none, none, none, none, none, none, none, none, none] c8 c9 ?_
    refine zG ?_
    refine (V4 hy6).then ?_
    refine zX2 c8 c9 ?_
    refine zG ?_
    refine (V4 hy7).then ?_
    refine zX2 c8 c9 ?_
    refine zG ?_
    exact Zc1 hz3 c8 c9
   replace hz3 := Zq c9 hz3
   try rw [c9] at c8
   refine J5 [some true, some true, some true, some true, some false, some false, some false, some true, some true, some false, some false, some false, some false, some false, some false, some false, some false, some false, some false, some false, some false, some false, some false, some false, some false, some false, some false, some false, some false, some false, some false, some false, some false, some false, some false, some false] c8 c9 ?_
   refine (V4 hy6).then ?_
   refine zX2 c8 c9 ?_
   exact Zc1 hz3 c8 c9
  replace hz3 := Zq c8 hz3
  refine K6 [some false, some false, some false, some false, some false, some false, some false, some false, some false, some true, some true, some true, some true, none, none, none, none, none, none, none, none, some true, none, none, none, none, none, none, none, none, none, none, none, none, none, none] c8 ?_
  refine zG ?_
  exact Jb hz3 c8
 refine Zs (t := z3) rfl (fun c57 => ?_) (fun c57 => ?_)
 ·replace h := Zr c57 h
  refine zQ [4] ?_
  exact Y4 [(vB false)]
 replace h := Zq c57 h
 refine Jq [1, 2] [true] ?_
 refine Zl ?_
 refine zQ [1, 2, 72] ?_
 refine Zs (t := (a0.Kind == 1)) rfl (fun c56 => ?_) (fun c56 => ?_)
 ·replace h := Zr c56 h
  obtain ⟨z12, hz12, h⟩ := bC h
  refine Y6 (E' := ⟨216, [], [(4, (vB z12))]⟩) (O' := (Zv O n [none])) (n0 := (n + 1)) ?_ ?_
  ·obtain ⟨y15, hy15, hz12⟩ := bC hz12
   rcases Bool.eq_false_or_eq_true y15 with c17 | c17
   ·replace hz12 := Zr c17 hz12
    obtain ⟨y16, hy16, hz12⟩ := bC hz12
    refine K6 [some true, some true, some true, none, none, none, none, none, none, none, none] c17 ?_
    refine zG ?_
    refine (Gi hy15).then ?_
    refine zX1 c17 ?_
    refine zG ?_
    refine (Gi hy16).then ?_
    refine zX1 c17 ?_
    refine zG ?_
    exact Jb hz12 c17
   replace hz12 := Zq c17 hz12
   refine K6 [some false, some false, some false, some false, some false, some false, some false, some false, some false, some false, some false] c17 ?_
   refine (Gi hy15).then ?_
   refine zX1 c17 ?_
   exact Jb hz12 c17
  exact Y4 [(vB z12)]
 replace h := Zq c56 h
 refine Jq [1, 2] [true] ?_
 refine zQ [1, 2, 5] ?_
 refine Zl ?_
 refine zQd [1, 2, 5, 6] [1, 2, 5, 6] [true] ?_
 obtain ⟨z33, hz33, h⟩ := bC h
 refine Gu (J := (Xs (fun z33 => JR n (⟨216, [], [(4, (vB false))]⟩ : Env) (Zv O n [none]) (n + 1)) (fun z33 => JX 0 n (⟨216, [], [(1, (vI a1)), (2, .ref n 0)]⟩ : Env) (Zv O n [some ⟨false, 37, 11, 1, (Zi a0)⟩]) (n + 1)))) (z := z33) ?_ fun hw => ?_
 ·refine Y9 hz33 (fun s0_ => ⟨216, [], [(1, (vI a1)), (2, .ref n 0), (5, (vI s0_.1)), (6, (vI s0_.2))]⟩) (fun s0_ => (Zv O n [some ⟨false, 37, 11, 1, (Zi a0)⟩])) (Xs (fun z33 => JR n (⟨216, [], [(4, (vB false))]⟩ : Env) (Zv O n [none]) (n + 1)) (fun z33 => JX 0 n (⟨216, [], [(1, (vI a1)), (2, .ref n 0)]⟩ : Env) (Zv O n [some ⟨false, 37, 11, 1, (Zi a0)⟩]) (n + 1))) ?_
  intro s0_ x0_ hs0_
  unfold J6 at hs0_
  try dsimp only
  refine Zl ?_
  refine zQ [1, 2, 5, 6, 97] ?_
  refine Zs (t := (decide (s0_.2 < (a0.Words.length : Int)))) rfl (fun c32 => ?_) (fun c32 => ?_)
  ·replace hs0_ := Zr c32 hs0_
   refine Jq [1, 2, 5, 6] [true] ?_
   refine Zl ?_
   refine Yl ?_
   refine Zl ?_
   obtain ⟨x19, hx19, ax19, bx19, cx19, hs0_⟩ := bE (f := Zh) Zu1 (fun _ => rfl) (by decide) hs0_
   refine Zc2 [] ax19 bx19 cx19 ?_
   refine zDs [1, 2, 5, 6, 7] [true, true] ?_
   obtain ⟨z22, hz22, hs0_⟩ := bC hs0_
   refine Y6 (E' := ⟨216, [], [(1, (vI a1)), (2, .ref n 0), (6, (vI s0_.2)), (7, .ref (n + 1) 0), (134, (vB z22))]⟩) (O' := (Zv O n [some ⟨false, 37, 11, 1, (Zi a0)⟩, some ⟨false, 52, 4, 1, (Gs x19)⟩])) (n0 := (n + 2)) ?_ ?_
   ·rcases Bool.eq_false_or_eq_true (decide (x19.At ≤ s0_.1)) with c27 | c27
    ·replace hz22 := Zr c27 hz22
     refine K6 [none, none, none, none, none, none, some false, some false, some false, some false, some false, some false, some false, some false, some false, some false, some false, some false] c27 ?_
     refine zG ?_
     exact Jb hz22 c27
    replace hz22 := Zq c27 hz22
    rcases Bool.eq_false_or_eq_true (decide (65534 < x19.At)) with c28 | c28
    ·replace hz22 := Zr c28 hz22
     try rw [c28] at c27
     refine J5 [none, none, none, none, none, none, some false, some false, some false, some false, some false, some false, some false, some false, some false, some false, some false, some false] c27 c28 ?_
     refine zG ?_
     exact Zc1 hz22 c27 c28
    replace hz22 := Zq c28 hz22
    try rw [c28] at c27
    rcases Bool.eq_false_or_eq_true (x19.Mask == 0) with c29 | c29
    ·replace hz22 := Zr c29 hz22
     try rw [c29] at c27
     try rw [c29] at c28
     refine Zgh [none, none, none, none, none, none, some false, some false, some false, some false, some false, some false, some false, some false, some false, some false, some false, some false] c27 c28 c29 ?_
     refine zG ?_
     exact Zj0 hz22 c27 c28 c29
    replace hz22 := Zq c29 hz22
    try rw [c29] at c27
    try rw [c29] at c28
    obtain ⟨y25, hy25, hz22⟩ := bC hz22
    rcases Bool.eq_false_or_eq_true y25 with c30 | c30
    ·replace hz22 := Zr c30 hz22
     try rw [c30] at c27
     try rw [c30] at c28
     try rw [c30] at c29
     obtain ⟨y26, hy26, hz22⟩ := bC hz22
     refine Zos [none, none, none, none, none, none, some true, some true, some true, some true, some true, some true, some true, some true, some true, some true, some true, some true] c27 c28 c29 c30 ?_
     refine zG ?_
     refine (Zeq hy25).then ?_
     refine zX4 c27 c28 c29 c30 ?_
     refine zG ?_
     refine (Zeq hy26).then ?_
     refine zX4 c27 c28 c29 c30 ?_
     refine zG ?_
     exact Zor hz22 c27 c28 c29 c30
    replace hz22 := Zq c30 hz22
    try rw [c30] at c27
    try rw [c30] at c28
    try rw [c30] at c29
    refine Zos [none, none, none, none, none, none, some true, some true, some true, some true, some true, some true, some false, some false, some false, some false, some false, some false] c27 c28 c29 c30 ?_
    refine zG ?_
    refine (Zeq hy25).then ?_
    refine zX4 c27 c28 c29 c30 ?_
    refine zG ?_
    exact Zor hz22 c27 c28 c29 c30
   refine Zs (t := z22) rfl (fun c31 => ?_) (fun c31 => ?_)
   ·replace hs0_ := Zr c31 hs0_
    refine zQ [4] ?_
    refine zW ?_
    exact zEy hs0_
   replace hs0_ := Zq c31 hs0_
   refine Jq [1, 2, 6, 7] [true, true] ?_
   refine zRd [1, 2, 5, 6] [true, false] ?_
   refine zR ?_
   exact zEn hs0_
  replace hs0_ := Zq c32 hs0_
  exact zEx hs0_
 rcases z33 with z33 | z33
 ·dsimp only [Xs] at hw h
  refine Jc hw ?_
  try simp only [Y2, Ye, ↓reduceIte, Nat.reduceEqDiff]
  exact Ziy [(vB false)]
 dsimp only [Xs] at hw h
 refine Yu hw ?_
 try simp only [Y2, Ye, ↓reduceIte, Nat.reduceEqDiff]
 refine zD [1, 2] [true] ?_
 refine zQ [1, 2, 5] ?_
 refine Zl ?_
 refine zQd [1, 2, 5, 8] [1, 2, 5, 8] [true] ?_
 obtain ⟨z45, hz45, h⟩ := bC h
 refine Gu (J := (Xs (fun z45 => JR n (⟨216, [], [(4, (vB false))]⟩ : Env) (Zv O n [none]) (n + 1)) (fun z45 => JX 2 n (⟨216, [], [(1, (vI a1)), (2, .ref n 0)]⟩ : Env) (Zv O n [some ⟨false, 37, 11, 1, (Zi a0)⟩]) (n + 1)))) (z := z45) ?_ fun hw => ?_
 ·refine Y9 hz45 (fun s1_ => ⟨216, [], [(1, (vI a1)), (2, .ref n 0), (5, (vI s1_.1)), (8, (vI s1_.2))]⟩) (fun s1_ => (Zv O n [some ⟨false, 37, 11, 1, (Zi a0)⟩])) (Xs (fun z45 => JR n (⟨216, [], [(4, (vB false))]⟩ : Env) (Zv O n [none]) (n + 1)) (fun z45 => JX 2 n (⟨216, [], [(1, (vI a1)), (2, .ref n 0)]⟩ : Env) (Zv O n [some ⟨false, 37, 11, 1, (Zi a0)⟩]) (n + 1))) ?_
  intro s1_ x1_ hs1_
  unfold J7 at hs1_
  try dsimp only
  refine Zl ?_
  refine zQ [1, 2, 5, 8, 141] ?_
  refine Zs (t := (decide (s1_.2 < (a0.Kids.length : Int)))) rfl (fun c44 => ?_) (fun c44 => ?_)
  ·replace hs1_ := Zr c44 hs1_
   refine Jq [1, 2, 5, 8] [true] ?_
   refine Zl ?_
   refine Yl ?_
   refine Zl ?_
   obtain ⟨x35, hx35, ax35, bx35, cx35, hs1_⟩ := bE (f := Zk) Zon (fun _ => rfl) (by decide) hs1_
   refine Zc2 [] ax35 bx35 cx35 ?_
   refine zDs [1, 2, 5, 8, 9] [true, true] ?_
   obtain ⟨z37, hz37, hs1_⟩ := bC hs1_
   refine Y6 (E' := ⟨216, [], [(1, (vI a1)), (2, .ref n 0), (8, (vI s1_.2)), (9, .ref (n + 1) 0), (171, (vB z37))]⟩) (O' := (Zv O n [some ⟨false, 37, 11, 1, (Zi a0)⟩, some ⟨false, 65, 12, 1, (Za7 x35)⟩])) (n0 := (n + 2)) ?_ ?_
   ·rcases Bool.eq_false_or_eq_true (decide (x35.At ≤ s1_.1)) with c40 | c40
    ·replace hz37 := Zr c40 hz37
     refine K6 [none, none, none, none, none, none, none, some false, some false, some false, some false, some false, some false] c40 ?_
     refine zG ?_
     exact Jb hz37 c40
    replace hz37 := Zq c40 hz37
    rcases Bool.eq_false_or_eq_true (decide (65534 < x35.At)) with c41 | c41
    ·replace hz37 := Zr c41 hz37
     try rw [c41] at c40
     refine J5 [none, none, none, none, none, none, none, some false, some false, some false, some false, some false, some false] c40 c41 ?_
     refine zG ?_
     exact Zc1 hz37 c40 c41
    replace hz37 := Zq c41 hz37
    try rw [c41] at c40
    rcases Bool.eq_false_or_eq_true (x35.E.Kind == 0) with c42 | c42
    ·replace hz37 := Zr c42 hz37
     try rw [c42] at c40
     try rw [c42] at c41
     refine Zgh [none, none, none, none, none, none, none, some false, some false, some false, some false, some false, some false] c40 c41 c42 ?_
     refine zG ?_
     exact Zj0 hz37 c40 c41 c42
    replace hz37 := Zq c42 hz37
    try rw [c42] at c40
    try rw [c42] at c41
    obtain ⟨y39, hy39, hz37⟩ := bC hz37
    refine Zgh [none, none, none, none, none, none, none, some true, some true, some true, some true, some true, some true] c40 c41 c42 ?_
    refine zG ?_
    refine (Zd2 hy39).then ?_
    refine zX3 c40 c41 c42 ?_
    refine zG ?_
    exact Zj0 hz37 c40 c41 c42
   refine Zs (t := z37) rfl (fun c43 => ?_) (fun c43 => ?_)
   ·replace hs1_ := Zr c43 hs1_
    refine zQ [4] ?_
    refine zW ?_
    exact zEy hs1_
   replace hs1_ := Zq c43 hs1_
   refine Jq [1, 2, 8, 9] [true, true] ?_
   refine zRd [1, 2, 5, 8] [true, false] ?_
   refine zR ?_
   exact zEn hs1_
  replace hs1_ := Zq c44 hs1_
  exact zEx hs1_
 rcases z45 with z45 | z45
 ·dsimp only [Xs] at hw h
  refine Jc hw ?_
  try simp only [Y2, Ye, ↓reduceIte, Nat.reduceEqDiff]
  exact Ziy [(vB false)]
 dsimp only [Xs] at hw h
 refine Yu hw ?_
 try simp only [Y2, Ye, ↓reduceIte, Nat.reduceEqDiff]
 refine zDs [1, 2] [true] ?_
 refine zQD [1, 2, 186] [none, none, none, none, none, none, none, none] ?_
 refine Zs (t := (cond (a0.Kind == 3) (cond (decide (a0.List_ < 2)) true (decide (9 < a0.List_))) false)) rfl (fun c55 => ?_) (fun c55 => ?_)
 ·replace h := Zr c55 h
  refine zQ [4] ?_
  exact Y4 [(vB false)]
 replace h := Zq c55 h
 refine Jq [1, 2] [true] ?_
 refine Zl ?_
 refine zQd [1, 2, 10] [1, 2, 10] [true] ?_
 obtain ⟨z52, hz52, h⟩ := bC h
 refine Gu (J := (Xs (fun z52 => JR n (⟨216, [], [(4, (vB false))]⟩ : Env) (Zv O n [none]) (n + 1)) (fun z52 => JX 4 n (⟨216, [], [(2, .ref n 0)]⟩ : Env) (Zv O n [some ⟨false, 37, 11, 1, (Zi a0)⟩]) (n + 1)))) (z := z52) ?_ fun hw => ?_
 ·refine Y9 hz52 (fun s2_ => ⟨216, [], [(1, (vI a1)), (2, .ref n 0), (10, (vI s2_))]⟩) (fun s2_ => (Zv O n [some ⟨false, 37, 11, 1, (Zi a0)⟩])) (Xs (fun z52 => JR n (⟨216, [], [(4, (vB false))]⟩ : Env) (Zv O n [none]) (n + 1)) (fun z52 => JX 4 n (⟨216, [], [(2, .ref n 0)]⟩ : Env) (Zv O n [some ⟨false, 37, 11, 1, (Zi a0)⟩]) (n + 1))) ?_
  intro s2_ x2_ hs2_
  unfold Q4 at hs2_
  try dsimp only
  refine Zl ?_
  refine zQ [1, 2, 10, 191] ?_
  refine Zs (t := (decide (s2_ < (a0.Ops.length : Int)))) rfl (fun c51 => ?_) (fun c51 => ?_)
  ·replace hs2_ := Zr c51 hs2_
   refine Jq [1, 2, 10] [true] ?_
   refine Zl ?_
   refine Yl ?_
   refine Zl ?_
   obtain ⟨x48, hx48, ax48, bx48, cx48, hs2_⟩ := bE (f := Zg) Zhg (fun _ => rfl) (by decide) hs2_
   obtain ⟨y49, hy49, hs2_⟩ := bC hs2_
   refine K9 Z0 (by kernel_rfl) [] (by kernel_rfl) ?_
   refine zF3 ax48 bx48 cx48 ?_
   refine PCall.of (Zjj hy49) ?_
   refine zF3 ax48 bx48 cx48 ?_
   refine zD [1, 2, 10, 204] [true] ?_
   refine Zs (t := (!y49)) rfl (fun c50 => ?_) (fun c50 => ?_)
   ·replace hs2_ := Zr c50 hs2_
    refine zQ [4] ?_
    refine zW ?_
    exact zEy hs2_
   replace hs2_ := Zq c50 hs2_
   refine Jq [1, 2, 10] [true] ?_
   refine zR ?_
   exact zEn hs2_
  replace hs2_ := Zq c51 hs2_
  exact zEx hs2_
 rcases z52 with z52 | z52
 ·dsimp only [Xs] at hw h
  refine Jc hw ?_
  try simp only [Y2, Ye, ↓reduceIte, Nat.reduceEqDiff]
  exact Ziy [(vB false)]
 dsimp only [Xs] at hw h
 refine Yu hw ?_
 try simp only [Y2, Ye, ↓reduceIte, Nat.reduceEqDiff]
 refine zDs [2] [true] ?_
 obtain ⟨y54, hy54, h⟩ := bC h
 refine zCd (Zhp hy54) [11, 12] [false] ?_
 refine zQD [4] [none, none] ?_
 exact Y4 [(vB (cond (decide (y54.1 < 1048576)) (decide (y54.2 < 1048576)) false))]
theorem Zse {Xl : (Zc → Int → Option Bool)} {Qo : (Int → Zm → Int → Option Bool)} (Zd2 : Zd1 Xl) (Zjj : Zf7 Qo) {a0 : Int} {a1 : Zm} {a2 : Int} {r : Bool} {O : Objs} {n : Nat} (h : Zdg Xl Qo a0 a1 a2 = some r) : GTo Try.prog 36 [(vI a0), .agg (Yq a1), (vI a2)] O n ((vB r)) O n := by
 unfold Zdg at h
 refine zFn Try.call36 Try.func36 fun hU hN0 hN => ?_
 show W _ _ _ _ ⟨121, [], [(0, (vI a0)), (1, .agg (Yq a1)), (2, (vI a2))]⟩ (Zv O n []) _
 refine zQ [0, 2, 4] ?_
 refine Zl ?_
 refine zQ [0, 2, 4, 10] ?_
 refine Zs (t := (a1.Kind == 0)) rfl (fun c30 => ?_) (fun c30 => ?_)
 ·replace h := Zr c30 h
  obtain ⟨z2, hz2, h⟩ := bC h
  refine Y6 (E' := ⟨121, [], [(6, (vB z2))]⟩) (O' := (Zv O n [none])) (n0 := (n + 1)) ?_ ?_
  ·rcases Bool.eq_false_or_eq_true (decide (1 ≤ a1.N)) with c5 | c5
   ·replace hz2 := Zr c5 hz2
    rcases Bool.eq_false_or_eq_true (decide (a1.N ≤ 1048576)) with c6 | c6
    ·replace hz2 := Zr c6 hz2
     try rw [c6] at c5
     rcases Bool.eq_false_or_eq_true ((a1.L.length : Int) == 0) with c7 | c7
     ·replace hz2 := Zr c7 hz2
      try rw [c7] at c5
      try rw [c7] at c6
      obtain ⟨y4, hy4, hz2⟩ := bC hz2
      refine Zgh [none, none, none, none, none, none, none, some true, some true, some true] c5 c6 c7 ?_
      refine zG ?_
      refine (Zjg hy4).then ?_
      refine zX3 c5 c6 c7 ?_
      refine zG ?_
      exact Zj0 hz2 c5 c6 c7
     replace hz2 := Zq c7 hz2
     try rw [c7] at c5
     try rw [c7] at c6
     refine Zgh [none, none, none, none, none, none, none, some false, some false, some false] c5 c6 c7 ?_
     refine zG ?_
     exact Zj0 hz2 c5 c6 c7
    replace hz2 := Zq c6 hz2
    try rw [c6] at c5
    refine J5 [none, none, none, none, none, none, none, some false, some false, some false] c5 c6 ?_
    refine zG ?_
    exact Zc1 hz2 c5 c6
   replace hz2 := Zq c5 hz2
   refine K6 [none, none, none, none, none, none, none, some false, some false, some false] c5 ?_
   refine zG ?_
   exact Jb hz2 c5
  exact Y4 [(vB z2)]
 replace h := Zq c30 h
 refine Jq [0, 2, 4] [true] ?_
 refine Zl ?_
 refine zQD [0, 2, 4, 42] [none, none, none, none, none, none] ?_
 refine Zs (t := (cond (cond (a1.N != 0) true (decide (a1.Kind < 0))) true (decide (3 < a1.Kind)))) rfl (fun c29 => ?_) (fun c29 => ?_)
 ·replace h := Zr c29 h
  refine zQ [6] ?_
  exact Y4 [(vB false)]
 replace h := Zq c29 h
 refine Jq [0, 2, 4] [true] ?_
 refine Zl ?_
 refine zQ [0, 2, 4, 45] ?_
 refine Zs (t := (decide (a1.Kind < 3))) rfl (fun c28 => ?_) (fun c28 => ?_)
 ·replace h := Zr c28 h
  refine Zl ?_
  refine zQd [0, 4, 7] [0, 4, 7] [true] ?_
  obtain ⟨z14, hz14, h⟩ := bC h
  refine Gu (J := (Xs (fun z14 => JR n (⟨121, [], [(6, (vB false))]⟩ : Env) (Zv O n [none]) (n + 1)) (fun z14 => JX 0 n (⟨121, [], [(4, .ref n 0)]⟩ : Env) (Zv O n [some ⟨false, 68, 14, 1, (Yq a1)⟩]) (n + 1)))) (z := z14) ?_ fun hw => ?_
  ·refine Y9 hz14 (fun s0_ => ⟨121, [], [(0, (vI a0)), (4, .ref n 0), (7, (vI s0_))]⟩) (fun s0_ => (Zv O n [some ⟨false, 68, 14, 1, (Yq a1)⟩])) (Xs (fun z14 => JR n (⟨121, [], [(6, (vB false))]⟩ : Env) (Zv O n [none]) (n + 1)) (fun z14 => JX 0 n (⟨121, [], [(4, .ref n 0)]⟩ : Env) (Zv O n [some ⟨false, 68, 14, 1, (Yq a1)⟩]) (n + 1))) ?_
   intro s0_ x0_ hs0_
   unfold Gy at hs0_
   try dsimp only
   refine Zl ?_
   refine zQ [0, 4, 7, 50] ?_
   refine Zs (t := (decide (s0_ < (a1.L.length : Int)))) rfl (fun c13 => ?_) (fun c13 => ?_)
   ·replace hs0_ := Zr c13 hs0_
    refine Jq [0, 4, 7] [true] ?_
    refine Zl ?_
    refine Yl ?_
    refine Zl ?_
    obtain ⟨l10, al10, bl10, cl10, gl10, hs0_⟩ := bS (lo := (some (.i64, s0_))) (hi := (some (.i64, (IntKind.i64.wrap (s0_ + 1))))) (f := Za) rfl rfl Zf1 Up (fun _ => rfl) hs0_
    obtain ⟨y11, hy11, hs0_⟩ := bC hs0_
    refine Zos [] al10 bl10 cl10 gl10 ?_
    refine GCalls.argsW ?_ ((Gi hy11).then ?_)
    ·exact Yiy al10 bl10 cl10 gl10
    refine zX4 al10 bl10 cl10 gl10 ?_
    refine zD [0, 4, 7, 62] [true] ?_
    refine Zs (t := (!y11)) rfl (fun c12 => ?_) (fun c12 => ?_)
    ·replace hs0_ := Zr c12 hs0_
     refine zQ [6] ?_
     refine zW ?_
     exact zEy hs0_
    replace hs0_ := Zq c12 hs0_
    refine Jq [0, 4, 7] [true] ?_
    refine zR ?_
    exact zEn hs0_
   replace hs0_ := Zq c13 hs0_
   exact zEx hs0_
  rcases z14 with z14 | z14
  ·dsimp only [Xs] at hw h
   refine Jc hw ?_
   try simp only [Y2, Ye, ↓reduceIte, Nat.reduceEqDiff]
   exact Ziy [(vB false)]
  dsimp only [Xs] at hw h
  refine Yu hw ?_
  try simp only [Y2, Ye, ↓reduceIte, Nat.reduceEqDiff]
  refine zD [4] [true] ?_
  obtain ⟨z16, hz16, h⟩ := bC h
  refine Y6 (E' := ⟨121, [], [(6, (vB z16))]⟩) (O' := (Zv O n [none])) (n0 := (n + 1)) ?_ ?_
  ·rcases Bool.eq_false_or_eq_true (decide (0 < (a1.L.length : Int))) with c19 | c19
   ·replace hz16 := Zr c19 hz16
    obtain ⟨y18, hy18, hz16⟩ := bC hz16
    refine K6 [some true, some true, some true] c19 ?_
    refine (Zjg hy18).then ?_
    refine zX1 c19 ?_
    exact Jb hz16 c19
   replace hz16 := Zq c19 hz16
   refine K6 [some false, some false, some false] c19 ?_
   exact Jb hz16 c19
  exact Y4 [(vB z16)]
 replace h := Zq c28 h
 refine Jq [0, 2, 4] [true] ?_
 refine Zl ?_
 obtain ⟨z21, hz21, h⟩ := bC h
 refine Y6 (E' := ⟨121, [], [(0, (vI a0)), (4, .ref n 0), (92, (vB z21))]⟩) (O' := (Zv O n [some ⟨false, 68, 14, 1, (Yq a1)⟩])) (n0 := (n + 1)) ?_ ?_
 ·rcases Bool.eq_false_or_eq_true (decide (0 < (a1.L.length : Int))) with c24 | c24
  ·replace hz21 := Zr c24 hz21
   refine K6 [none, none, none, none, none, none, some false, some false, some false, some false, some false] c24 ?_
   refine zG ?_
   exact Jb hz21 c24
  replace hz21 := Zq c24 hz21
  rcases Bool.eq_false_or_eq_true (a1.E.Kind == 0) with c25 | c25
  ·replace hz21 := Zr c25 hz21
   try rw [c25] at c24
   refine J5 [none, none, none, none, none, none, some false, some false, some false, some false, some false] c24 c25 ?_
   refine zG ?_
   exact Zc1 hz21 c24 c25
  replace hz21 := Zq c25 hz21
  try rw [c25] at c24
  rcases Bool.eq_false_or_eq_true (decide (a0 ≤ 7)) with c26 | c26
  ·replace hz21 := Zr c26 hz21
   try rw [c26] at c24
   try rw [c26] at c25
   refine Zgh [none, none, none, none, none, none, some false, some false, some false, some false, some false] c24 c25 c26 ?_
   refine zG ?_
   exact Zj0 hz21 c24 c25 c26
  replace hz21 := Zq c26 hz21
  try rw [c26] at c24
  try rw [c26] at c25
  obtain ⟨y23, hy23, hz21⟩ := bC hz21
  refine Zgh [none, none, none, none, none, none, some true, some true, some true, some true, some true] c24 c25 c26 ?_
  refine zG ?_
  refine (Zd2 hy23).then ?_
  refine zX3 c24 c25 c26 ?_
  refine zG ?_
  exact Zj0 hz21 c24 c25 c26
 refine Zs (t := z21) rfl (fun c27 => ?_) (fun c27 => ?_)
 ·replace h := Zr c27 h
  refine zQ [6] ?_
  exact Y4 [(vB false)]
 replace h := Zq c27 h
 refine Jq [0, 4] [true] ?_
 refine zQD [6] [none, none, none, none, none, none, none, none, none, none, none, none, none, none, none, none, none, none, none, none, none, none] ?_
 exact Y4 [(vB (cond (cond (a0 == 8) true (a1.E.Kind == 2)) true (cond (cond (a1.E.Kind == 1) (a1.E.Old.Kind == 1) false) (a1.E.New.Kind == 1) false)))]
theorem Zmf : ∀ k, (Zd1 ((Yt k).1)) ∧ (Zf7 ((Yt k).2)) := fun k => by
 induction k with
 | zero => exact ⟨@fun a0 a1 r O n h => (nomatch (show (none : Option _) = some _ from h)), @fun a0 a1 a2 r O n h => (nomatch (show (none : Option _) = some _ from h))⟩
 | succ k ih => exact ⟨@fun a0 a1 r O n h => Zog (ih.1) (ih.2)  h, @fun a0 a1 a2 r O n h => Zse (ih.1) (ih.2)  h⟩
theorem Zfo {a0 : Zc} {a1 : Int} {r : Bool} {O : Objs} {n : Nat} (h : Zf6 a0 a1 = some r) : GTo Try.prog 21 [.agg (Zi a0), (vI a1)] O n ((vB r)) O n := by
 obtain ⟨k, hk⟩ := Zaf h
 exact (Zmf k).1  hk
def Zho (X0 : (Zc → Option Bool)) : Prop := ∀ {a0 : Zc} {r : Bool} {O : Objs} {n : Nat}, X0 a0 = some r → GTo Try.prog 22 [.agg (Zi a0)] O n ((vB r)) O n
theorem Zof {X0 : (Zc → Option Bool)} (Zhs : Zho X0) {a0 : Zc} {r : Bool} {O : Objs} {n : Nat} (h : Gw X0 a0 = some r) : GTo Try.prog 22 [.agg (Zi a0)] O n ((vB r)) O n := by
 unfold Gw at h
 refine zFn Try.call22 Try.func22 fun hU hN0 hN => ?_
 show W _ _ _ _ ⟨48, [], [(0, .agg (Zi a0))]⟩ (Zv O n []) _
 refine zQ [1] ?_
 refine Zl ?_
 obtain ⟨y2, hy2, h⟩ := bC h
 refine zCd (Zhp hy2) [1, 3, 4] [true] ?_
 refine Zl ?_
 refine zQD [1, 17] [none, none] ?_
 refine Zs (t := (cond (decide (2000 < y2.1)) true (decide (2000 < y2.2)))) rfl (fun c21 => ?_) (fun c21 => ?_)
 ·replace h := Zr c21 h
  refine zQ [2] ?_
  exact Y4 [(vB false)]
 replace h := Zq c21 h
 refine Jq [1] [true] ?_
 refine Zl ?_
 refine zQd [1, 5] [1, 5] [true] ?_
 obtain ⟨z11, hz11, h⟩ := bC h
 refine Gu (J := (Xs (fun z11 => JR n (⟨48, [], [(2, (vB false))]⟩ : Env) (Zv O n [none]) (n + 1)) (fun z11 => JX 0 n (⟨48, [], [(1, .ref n 0)]⟩ : Env) (Zv O n [some ⟨false, 37, 11, 1, (Zi a0)⟩]) (n + 1)))) (z := z11) ?_ fun hw => ?_
 ·refine Y9 hz11 (fun s0_ => ⟨48, [], [(1, .ref n 0), (5, (vI s0_))]⟩) (fun s0_ => (Zv O n [some ⟨false, 37, 11, 1, (Zi a0)⟩])) (Xs (fun z11 => JR n (⟨48, [], [(2, (vB false))]⟩ : Env) (Zv O n [none]) (n + 1)) (fun z11 => JX 0 n (⟨48, [], [(1, .ref n 0)]⟩ : Env) (Zv O n [some ⟨false, 37, 11, 1, (Zi a0)⟩]) (n + 1))) ?_
  intro s0_ x0_ hs0_
  unfold Vv at hs0_
  try dsimp only
  refine Zl ?_
  refine zQ [1, 5, 22] ?_
  refine Zs (t := (decide (s0_ < (a0.Kids.length : Int)))) rfl (fun c10 => ?_) (fun c10 => ?_)
  ·replace hs0_ := Zr c10 hs0_
   refine Jq [1, 5] [true] ?_
   refine Zl ?_
   refine Yl ?_
   refine Zl ?_
   obtain ⟨x6, hx6, ax6, bx6, cx6, hs0_⟩ := bE (f := Zk) Zon (fun _ => rfl) (by decide) hs0_
   have g7 := Zhv (f := Zk) (off := 1) (sz := 12) Ziu (fun _ => rfl) (by decide) (by decide) hx6
   obtain ⟨y8, hy8, hs0_⟩ := bC hs0_
   refine Zzx [] ax6 bx6 cx6 g7 ?_
   refine (Zhs hy8).then ?_
   refine zF4 ax6 bx6 cx6 g7 ?_
   refine zD [1, 5, 32] [true] ?_
   refine Zs (t := (!y8)) rfl (fun c9 => ?_) (fun c9 => ?_)
   ·replace hs0_ := Zr c9 hs0_
    refine zQ [2] ?_
    refine zW ?_
    exact zEy hs0_
   replace hs0_ := Zq c9 hs0_
   refine Jq [1, 5] [true] ?_
   refine zR ?_
   exact zEn hs0_
  replace hs0_ := Zq c10 hs0_
  exact zEx hs0_
 rcases z11 with z11 | z11
 ·dsimp only [Xs] at hw h
  refine Jc hw ?_
  try simp only [Y2, Ye, ↓reduceIte, Nat.reduceEqDiff]
  exact Ziy [(vB false)]
 dsimp only [Xs] at hw h
 refine Yu hw ?_
 try simp only [Y2, Ye, ↓reduceIte, Nat.reduceEqDiff]
 refine zDs [1] [true] ?_
 refine zQd [1, 6] [1, 6] [true] ?_
 obtain ⟨z20, hz20, h⟩ := bC h
 refine Gu (J := (Xs (fun z20 => JR n (⟨48, [], [(2, (vB false))]⟩ : Env) (Zv O n [none]) (n + 1)) (fun z20 => JX 2 n (⟨48, [], []⟩ : Env) (Zv O n [none]) (n + 1)))) (z := z20) ?_ fun hw => ?_
 ·refine Y9 hz20 (fun s1_ => ⟨48, [], [(1, .ref n 0), (6, (vI s1_))]⟩) (fun s1_ => (Zv O n [some ⟨false, 37, 11, 1, (Zi a0)⟩])) (Xs (fun z20 => JR n (⟨48, [], [(2, (vB false))]⟩ : Env) (Zv O n [none]) (n + 1)) (fun z20 => JX 2 n (⟨48, [], []⟩ : Env) (Zv O n [none]) (n + 1))) ?_
  intro s1_ x1_ hs1_
  unfold Vw at hs1_
  try dsimp only
  refine Zl ?_
  refine zQ [1, 6, 37] ?_
  refine Zs (t := (decide (s1_ < (a0.Ops.length : Int)))) rfl (fun c19 => ?_) (fun c19 => ?_)
  ·replace hs1_ := Zr c19 hs1_
   refine Jq [1, 6] [true] ?_
   refine Zl ?_
   refine Yl ?_
   refine Zl ?_
   obtain ⟨x15, hx15, ax15, bx15, cx15, hs1_⟩ := bE (f := Zg) Zhg (fun _ => rfl) (by decide) hs1_
   have g16 := Zhv (f := Zg) (off := 3) (sz := 14) Ziu (fun _ => rfl) (by decide) (by decide) hx15
   obtain ⟨y17, hy17, hs1_⟩ := bC hs1_
   refine Zzx [] ax15 bx15 cx15 g16 ?_
   refine (Zhs hy17).then ?_
   refine zF4 ax15 bx15 cx15 g16 ?_
   refine zD [1, 6, 47] [true] ?_
   refine Zs (t := (!y17)) rfl (fun c18 => ?_) (fun c18 => ?_)
   ·replace hs1_ := Zr c18 hs1_
    refine zQ [2] ?_
    refine zW ?_
    exact zEy hs1_
   replace hs1_ := Zq c18 hs1_
   refine Jq [1, 6] [true] ?_
   refine zR ?_
   exact zEn hs1_
  replace hs1_ := Zq c19 hs1_
  exact zEx hs1_
 rcases z20 with z20 | z20
 ·dsimp only [Xs] at hw h
  refine Jc hw ?_
  try simp only [Y2, Ye, ↓reduceIte, Nat.reduceEqDiff]
  exact Ziy [(vB false)]
 dsimp only [Xs] at hw h
 refine Yu hw ?_
 try simp only [Y2, Ye, ↓reduceIte, Nat.reduceEqDiff]
 refine zD [] [false] ?_
 refine zQ [2] ?_
 exact Y4 [(vB true)]
theorem Zme : ∀ k, (Zho (Ju k)) := fun k => by
 induction k with
 | zero => exact @fun a0 r O n h => (nomatch (show (none : Option _) = some _ from h))
 | succ k ih => exact @fun a0 r O n h => Zof (ih)  h
theorem Zit {a0 : Zc} {r : Bool} {O : Objs} {n : Nat} (h : Zf5 a0 = some r) : GTo Try.prog 22 [.agg (Zi a0)] O n ((vB r)) O n := by
 obtain ⟨k, hk⟩ := Zaf h
 exact (Zme k)  hk
theorem Zp8 {a0 : Zbc} {a1 : Zb} {r : Bool} {O : Objs} {n : Nat} (h : Zah a0 a1 = some r) : GTo Try.prog 8 [.agg (Vh a0), .agg (Ze a1)] O n ((vB r)) O n := by
 unfold Zah at h
 refine zFn Try.call8 Try.func8 fun hU hN0 hN => ?_
 show W _ _ _ _ ⟨33, [], [(0, .agg (Vh a0)), (1, .agg (Ze a1))]⟩ (Zv O n []) _
 refine zQ [2, 3] ?_
 obtain ⟨z8, hz8, h⟩ := bC h
 refine Y6 (E' := ⟨33, [], [(4, (vB z8))]⟩) (O' := (Zv O n [none, none])) (n0 := (n + 2)) ?_ ?_
 ·rcases Bool.eq_false_or_eq_true (decide (a0.Kind < 0)) with c23 | c23
  ·replace hz8 := Zr c23 hz8
   obtain ⟨y16, hy16, hz8⟩ := bC hz8
   refine K6 [none, none, none, some false, some false, some false, some false, some false, some false, some false, some false, some false, some false, some false, some false, some false, some false, some true, some true] c23 ?_
   refine zG ?_
   refine (Uw hy16).then ?_
   refine zX1 c23 ?_
   refine zG ?_
   exact Jb hz8 c23
  replace hz8 := Zq c23 hz8
  rcases Bool.eq_false_or_eq_true (decide (3 < a0.Kind)) with c24 | c24
  ·replace hz8 := Zr c24 hz8
   try rw [c24] at c23
   obtain ⟨y17, hy17, hz8⟩ := bC hz8
   refine J5 [none, none, none, some false, some false, some false, some false, some false, some false, some false, some false, some false, some false, some false, some false, some false, some false, some true, some true] c23 c24 ?_
   refine zG ?_
   refine (Uw hy17).then ?_
   refine zX2 c23 c24 ?_
   refine zG ?_
   exact Zc1 hz8 c23 c24
  replace hz8 := Zq c24 hz8
  try rw [c24] at c23
  obtain ⟨y18, hy18, hz8⟩ := bC hz8
  rcases Bool.eq_false_or_eq_true y18 with c25 | c25
  ·replace hz8 := Zr c25 hz8
   try rw [c25] at c23
   try rw [c25] at c24
   obtain ⟨y19, hy19, hz8⟩ := bC hz8
   rcases Bool.eq_false_or_eq_true y19 with c26 | c26
   ·replace hz8 := Zr c26 hz8
    try rw [c26] at c23
    try rw [c26] at c24
    try rw [c26] at c25
    obtain ⟨y20, hy20, hz8⟩ := bC hz8
    rcases Bool.eq_false_or_eq_true y20 with c27 | c27
    ·replace hz8 := Zr c27 hz8
     try rw [c27] at c23
     try rw [c27] at c24
     try rw [c27] at c25
     try rw [c27] at c26
     obtain ⟨y21, hy21, hz8⟩ := bC hz8
     refine Zu6 [none, none, none, some true, some true, some true, some true, some true, some true, some true, some true, some true, some true, some true, some true, some true, some true, some true, some true] c23 c24 c25 c26 c27 ?_
     refine zG ?_
     refine (Zd4 hy18).then ?_
     refine zX5 c23 c24 c25 c26 c27 ?_
     refine zG ?_
     refine (Zfo hy19).then ?_
     refine zX5 c23 c24 c25 c26 c27 ?_
     refine zG ?_
     refine (Zit hy20).then ?_
     refine zX5 c23 c24 c25 c26 c27 ?_
     refine zG ?_
     refine (Uw hy21).then ?_
     refine zX5 c23 c24 c25 c26 c27 ?_
     refine zG ?_
     exact Zu5 hz8 c23 c24 c25 c26 c27
    replace hz8 := Zq c27 hz8
    try rw [c27] at c23
    try rw [c27] at c24
    try rw [c27] at c25
    try rw [c27] at c26
    refine Zu6 [none, none, none, some true, some true, some true, some true, some true, some true, some true, some true, some true, some true, some true, some true, some true, some true, some false, some false] c23 c24 c25 c26 c27 ?_
    refine zG ?_
    refine (Zd4 hy18).then ?_
    refine zX5 c23 c24 c25 c26 c27 ?_
    refine zG ?_
    refine (Zfo hy19).then ?_
    refine zX5 c23 c24 c25 c26 c27 ?_
    refine zG ?_
    refine (Zit hy20).then ?_
    refine zX5 c23 c24 c25 c26 c27 ?_
    refine zG ?_
    exact Zu5 hz8 c23 c24 c25 c26 c27
   replace hz8 := Zq c26 hz8
   try rw [c26] at c23
   try rw [c26] at c24
   try rw [c26] at c25
   obtain ⟨y22, hy22, hz8⟩ := bC hz8
   refine Zos [none, none, none, some true, some true, some true, some true, some true, some true, some true, some true, some true, some false, some false, some false, some true, some true, some true, some true] c23 c24 c25 c26 ?_
   refine zG ?_
   refine (Zd4 hy18).then ?_
   refine zX4 c23 c24 c25 c26 ?_
   refine zG ?_
   refine (Zfo hy19).then ?_
   refine zX4 c23 c24 c25 c26 ?_
   refine zG ?_
   refine (Uw hy22).then ?_
   refine zX4 c23 c24 c25 c26 ?_
   refine zG ?_
   exact Zor hz8 c23 c24 c25 c26
  replace hz8 := Zq c25 hz8
  try rw [c25] at c23
  try rw [c25] at c24
  refine Zgh [none, none, none, some true, some true, some true, some true, some false, some false, some false, some false, some false, some false, some false, some false, some false, some true, some false, some false] c23 c24 c25 ?_
  refine zG ?_
  refine (Zd4 hy18).then ?_
  refine zX3 c23 c24 c25 ?_
  refine zG ?_
  exact Zj0 hz8 c23 c24 c25
 exact Y4 [(vB z8)]
theorem Zqy {a0 : (List Int)} {r : (List Int)} {O : Objs} {n : Nat} (h : Zbo a0 = some r) : GTo Try.prog 28 [(sL (eI .u64) a0)] O n ((sL (eI .u64) r)) O n := by
 unfold Zbo at h
 refine zFn Try.call28 Try.func28 fun hU hN0 hN => ?_
 show W _ _ _ _ ⟨24, [], [(0, (sL (eI .u64) a0))]⟩ (Zv O n []) _
 refine zQ [0] ?_
 refine zQ [0, 3] ?_
 refine Zl ?_
 refine zD [0, 3] [] ?_
 obtain ⟨z7, hz7, h⟩ := bC h
 refine Yu (E' := ⟨24, [], [(0, (sL (eI .u64) a0)), (3, (vI z7))]⟩) (O' := (Zv O n [])) (n0 := n) ?_ ?_
 ·refine Y9 hz7 (fun s0_ => ⟨24, [], [(0, (sL (eI .u64) a0)), (3, (vI s0_))]⟩) (fun s0_ => (Zv O n [])) (fun z7 => JX 0 n (⟨24, [], [(0, (sL (eI .u64) a0)), (3, (vI z7))]⟩ : Env) (Zv O n []) n) ?_
  intro s0_ x0_ hs0_
  unfold Uj at hs0_
  try dsimp only
  refine Zl ?_
  obtain ⟨z2, hz2, hs0_⟩ := bC hs0_
  refine Y6 (E' := ⟨24, [], [(0, (sL (eI .u64) a0)), (3, (vI s0_)), (16, (vB z2))]⟩) (O' := (Zv O n [])) (n0 := n) ?_ ?_
  ·rcases Bool.eq_false_or_eq_true (decide (0 < s0_)) with c5 | c5
   ·replace hz2 := Zr c5 hz2
    obtain ⟨x4, hx4, ax4, bx4, cx4, hz2⟩ := bE (f := (eI .u64)) Zhf (fun _ => rfl) (by decide) hz2
    refine Zzx [some true, some true, some true, some true, some true, some true] c5 ax4 bx4 cx4 ?_
    exact Ycc hz2 c5 ax4 bx4 cx4
   replace hz2 := Zq c5 hz2
   refine K6 [some false, some false, some false, some false, some false, some false] c5 ?_
   exact Jb hz2 c5
  refine Zs (t := z2) rfl (fun c6 => ?_) (fun c6 => ?_)
  ·replace hs0_ := Zr c6 hs0_
   refine Jq [0, 3] [] ?_
   refine Yl ?_
   refine zR ?_
   exact zEn hs0_
  replace hs0_ := Zq c6 hs0_
  exact zEx hs0_
 try simp only [Y2, Ye, ↓reduceIte, Nat.reduceEqDiff]
 refine zD [0, 3] [] ?_
 refine zQ [0, 3, 4] ?_
 refine Zl ?_
 obtain ⟨l10, al10, bl10, cl10, gl10, h⟩ := bS (lo := none) (hi := (some (.i64, z7))) (f := (eI .u64)) rfl rfl Zpy Zhf (fun _ => rfl) h
 obtain ⟨l11, pl11, ql11, el11, h⟩ := bA0 (k := l10.length) rfl h
 refine Yhk [] al10 bl10 cl10 gl10 pl11 ql11 el11 ?_
 refine Zgb ⟨24, [], [(2, .row n l11.length)]⟩ (Zv O n [some (oR 50 1 (eI .u64) l11)]) (Yw hU rfl rfl ?_) ?_
 ·simp only [push_cast, seval, ↓reduceIte, Zf, al10, bl10, cl10, gl10, pl11, ql11, el11, hN0, hN]
 exact Y4 [.row n l11.length]
def Zif (J0 : (Zb → Option Zb)) : Prop := ∀ {a0 : Zb} {r : Zb} {O : Objs} {n : Nat}, J0 a0 = some r → GTo Try.prog 14 [.agg (Ze a0)] O n (.agg (Ze r)) O n
theorem Zqc {J0 : (Zb → Option Zb)} (Zoc : Zif J0) {a0 : Zb} {r : Zb} {O : Objs} {n : Nat} (h : Zbe J0 a0 = some r) : GTo Try.prog 14 [.agg (Ze a0)] O n (.agg (Ze r)) O n := by
 unfold Zbe at h
 refine zFn Try.call14 Try.func14 fun hU hN0 hN => ?_
 show W _ _ _ _ ⟨53, [], [(0, .agg (Ze a0))]⟩ (Zv O n []) _
 refine zQ [1, 2] ?_
 refine Zl ?_
 refine zQ [1, 2, 10] ?_
 refine Zs (t := (a0.Kind == 0)) rfl (fun c19 => ?_) (fun c19 => ?_)
 ·replace h := Zr c19 h
  refine Zl ?_
  refine zRd [2] [false, true] ?_
  exact Y4 [.agg [(vI 0), nV, nV]]
 replace h := Zq c19 h
 refine Jq [1, 2] [true, true] ?_
 refine zQ [1, 2, 3] ?_
 refine zQ [1, 2, 3, 4] ?_
 refine Zl ?_
 refine zQd [1, 2, 3, 4, 5] [1, 2, 3, 4, 5] [true, true] ?_
 refine Qc (E' := (⟨53, [], [(1, .ref n 0), (2, .ref (n + 1) 0), (3, .row (n + 2) ([] : List Zb).length), (4, (vI 0)), (5, (vI 0))]⟩ : Env)) (O' := (Zv O n [some ⟨false, 25, 3, 1, (Ze a0)⟩, some ⟨false, 25, 3, 1, [(vI 0), nV, nV]⟩, some (oR 25 3 Za ([] : List Zb)), none])) (n' := (n + 4)) ?_ ?_
 ·refine Fit2.trans (E' := (⟨53, [], [(1, .ref n 0), (2, .ref (n + 1) 0), (3, nV), (4, (vI 0)), (5, (vI 0))]⟩ : Env)) (O' := (Zv O n [some ⟨false, 25, 3, 1, (Ze a0)⟩, some ⟨false, 25, 3, 1, [(vI 0), nV, nV]⟩])) (n' := (n + 2)) (Fit2.of (Yw hU rfl rfl ?_) (by omega)) ?_
  ·exact zSe
  refine Fit2.trans (Zo7 3 25 3 rfl (by omega)) ?_
  simp only [Yo, Yc, Vr, Ka, List.set_cons_zero, List.set_cons_succ, List.cons_append, List.nil_append, List.length_cons, List.length_nil, Nat.zero_add, Nat.reduceAdd, Nat.reduceLT, Nat.add_assoc]
  refine Fit2.trans (E' := (⟨53, [], [(1, .ref n 0), (2, .ref (n + 1) 0), (3, .row (n + 2) ([] : List Zb).length), (4, (vI 0)), (5, (vI 0))]⟩ : Env)) (O' := (Zv O n [some ⟨false, 25, 3, 1, (Ze a0)⟩, some ⟨false, 25, 3, 1, [(vI 0), nV, nV]⟩, some (oR 25 3 Za ([] : List Zb))])) (n' := (n + 3)) (Fit2.of (Yw hU rfl rfl ?_) (by omega)) ?_
  ·exact zSe
  refine Q9 (k := 3) (k' := 4) hU [0, 1, 2] [0, 1, 2, 0] rfl rfl rfl rfl ⟨rfl, rfl⟩ ?_
  exact zSe
 obtain ⟨z10, hz10, h⟩ := bC h
 refine Yu (E' := ⟨53, [], [(1, .ref n 0), (2, .ref (n + 1) 0), (3, .row (n + 2) z10.2.length), (4, (vI z10.1))]⟩) (O' := (Zv O n [some ⟨false, 25, 3, 1, (Ze a0)⟩, some ⟨false, 25, 3, 1, [(vI 0), nV, nV]⟩, some (oR 25 3 Za z10.2), none])) (n0 := (n + 4)) ?_ ?_
 ·refine Y9 hz10 (fun s0_ => ⟨53, [], [(1, .ref n 0), (2, .ref (n + 1) 0), (3, .row (n + 2) s0_.2.2.length), (4, (vI s0_.1)), (5, (vI s0_.2.1))]⟩) (fun s0_ => (Zv O n [some ⟨false, 25, 3, 1, (Ze a0)⟩, some ⟨false, 25, 3, 1, [(vI 0), nV, nV]⟩, some (oR 25 3 Za s0_.2.2), none])) (fun z10 => JX 0 n (⟨53, [], [(1, .ref n 0), (2, .ref (n + 1) 0), (3, .row (n + 2) z10.2.length), (4, (vI z10.1))]⟩ : Env) (Zv O n [some ⟨false, 25, 3, 1, (Ze a0)⟩, some ⟨false, 25, 3, 1, [(vI 0), nV, nV]⟩, some (oR 25 3 Za z10.2), none]) (n + 4)) ?_
  intro s0_ x0_ hs0_
  unfold Je at hs0_
  try dsimp only
  refine Zl ?_
  refine zQ [1, 2, 3, 4, 5, 16] ?_
  refine Zs (t := (decide (s0_.2.1 < (a0.Kids.length : Int)))) rfl (fun c9 => ?_) (fun c9 => ?_)
  ·replace hs0_ := Zr c9 hs0_
   refine Jq [1, 2, 3, 4, 5] [true, true, true, false] ?_
   obtain ⟨z1, hz1, hs0_⟩ := bC hs0_
   refine Y6 (E' := ⟨53, [], [(1, .ref n 0), (2, .ref (n + 1) 0), (3, .row (n + 2) z1.2.length), (4, (vI z1.1)), (5, (vI s0_.2.1))]⟩) (O' := (Zv O n [some ⟨false, 25, 3, 1, (Ze a0)⟩, some ⟨false, 25, 3, 1, [(vI 0), nV, nV]⟩, some (oR 25 3 Za z1.2), none, none, none])) (n0 := (n + 6)) ?_ ?_
   ·refine Yl ?_
    refine Zl ?_
    obtain ⟨x4, hx4, ax4, bx4, cx4, hz1⟩ := bE (f := Za) Up (fun _ => rfl) (by decide) hz1
    obtain ⟨y5, hy5, hz1⟩ := bC hz1
    refine Zc2 [] ax4 bx4 cx4 ?_
    refine (Zoc hy5).then ?_
    refine zF3 ax4 bx4 cx4 ?_
    refine zDs [1, 2, 3, 4, 5, 6] [true, true, true, false, true] ?_
    obtain ⟨l7, pl7, ql7, el7, hz1⟩ := bA (k := 1) rfl hz1
    refine Zgh [] pl7 ql7 el7 ?_
    refine Zgb ⟨53, [], [(1, .ref n 0), (2, .ref (n + 1) 0), (3, .row (n + 2) l7.length), (4, (vI s0_.1)), (5, (vI s0_.2.1)), (6, .ref (n + 4) 0)]⟩ (Zv O n [some ⟨false, 25, 3, 1, (Ze a0)⟩, some ⟨false, 25, 3, 1, [(vI 0), nV, nV]⟩, some (oR 25 3 Za l7), none, some ⟨false, 25, 3, 1, (Ze y5)⟩, none]) (Yw hU rfl rfl ?_) ?_
    ·exact Zzy pl7 ql7 el7
    refine zQ [1, 2, 3, 4, 5, 31] ?_
    refine Zs (t := (y5.Kind != 0)) rfl (fun c8 => ?_) (fun c8 => ?_)
    ·replace hz1 := Zr c8 hz1
     refine zR ?_
     exact zEn hz1
    replace hz1 := Zq c8 hz1
    refine zK ?_
    exact zEn hz1
   refine zR ?_
   exact zEn hs0_
  replace hs0_ := Zq c9 hs0_
  exact zEx hs0_
 try simp only [Y2, Ye, ↓reduceIte, Nat.reduceEqDiff]
 refine zDs [1, 2, 3, 4] [true, true, true, false] ?_
 refine zQ [1, 2, 3, 4, 36] ?_
 refine Zs (t := (a0.Kind == 1)) rfl (fun c18 => ?_) (fun c18 => ?_)
 ·replace h := Zr c18 h
  refine Zgb ⟨53, [], [(1, .ref n 0), (2, .ref (n + 1) 0), (3, (sL Za z10.2)), (4, (vI z10.1))]⟩ (Zv O n [some ⟨false, 25, 3, 1, (Ze a0)⟩, some ⟨false, 25, 3, 1, [(vI 0), nV, nV]⟩, none, none]) (Yw hU rfl rfl ?_) ?_
  ·exact zSe
  refine Zl ?_
  obtain ⟨y14, hy14, h⟩ := bC h
  obtain ⟨l15, al15, bl15, cl15, gl15, h⟩ := bS (lo := none) (hi := (some (.i64, z10.1))) (f := Za) rfl rfl Zf1 Up (fun _ => rfl) h
  refine Zey Z0 (by kernel_rfl) [false, false, false, false, false, false, false, true] [] (by kernel_rfl) ?_
  refine zX4 al15 bl15 cl15 gl15 ?_
  refine PCall.of (Zqy hy14) ?_
  refine zX4 al15 bl15 cl15 gl15 ?_
  refine zD [2] [false, true, false, false] ?_
  exact Y4 [.agg [(vI 1), (sL (eI .u64) y14), (sL Za l15)]]
 replace h := Zq c18 h
 refine Jq [1, 2, 3] [true, true, true, false] ?_
 refine zQ [1, 2, 3, 7] ?_
 refine Zl ?_
 obtain ⟨l17, pl17, ql17, el17, h⟩ := bA0 (k := a0.Words.length) rfl h
 refine Zgh [] pl17 ql17 el17 ?_
 refine Zgb ⟨53, [], [(1, .ref n 0), (2, .ref (n + 1) 0), (3, .row (n + 2) z10.2.length), (7, .row (n + 4) l17.length)]⟩ (Zv O n [some ⟨false, 25, 3, 1, (Ze a0)⟩, some ⟨false, 25, 3, 1, [(vI 0), nV, nV]⟩, some (oR 25 3 Za z10.2), none, some (oR 50 1 (eI .u64) l17)]) (Yw hU rfl rfl ?_) ?_
 ·exact Zzy pl17 ql17 el17
 refine Zl ?_
 refine zRd [2] [false, true, true, false, true] ?_
 exact Y4 [.agg [(vI a0.Kind), .row (n + 4) l17.length, .row (n + 2) z10.2.length]]
theorem Znq : ∀ k, (Zif (Ql k)) := fun k => by
 induction k with
 | zero => exact @fun a0 r O n h => (nomatch (show (none : Option _) = some _ from h))
 | succ k ih => exact @fun a0 r O n h => Zqc (ih)  h
theorem Zqx {a0 : Zb} {r : Zb} {O : Objs} {n : Nat} (h : Zg7 a0 = some r) : GTo Try.prog 14 [.agg (Ze a0)] O n (.agg (Ze r)) O n := by
 obtain ⟨k, hk⟩ := Zaf h
 exact (Znq k)  hk
theorem Zqw {a0 : (List Int)} {a1 : (List Int)} {r : Bool} {O : Objs} {n : Nat} (h : Zbn a0 a1 = some r) : GTo Try.prog 27 [(sL (eI .u64) a0), (sL (eI .u64) a1)] O n ((vB r)) O n := by
 unfold Zbn at h
 refine zFn Try.call27 Try.func27 fun hU hN0 hN => ?_
 show W _ _ _ _ ⟨26, [], [(0, (sL (eI .u64) a0)), (1, (sL (eI .u64) a1))]⟩ (Zv O n []) _
 refine zQ [0, 1] ?_
 refine Zl ?_
 refine zQ [0, 1, 10] ?_
 refine Zs (t := ((a0.length : Int) != (a1.length : Int))) rfl (fun c8 => ?_) (fun c8 => ?_)
 ·replace h := Zr c8 h
  refine zQ [4] ?_
  exact Y4 [(vB false)]
 replace h := Zq c8 h
 refine Jq [0, 1] [] ?_
 refine Zl ?_
 refine zQd [0, 1, 5] [0, 1, 5] [] ?_
 obtain ⟨z7, hz7, h⟩ := bC h
 refine Gu (J := (Xs (fun z7 => JR n (⟨26, [], [(4, (vB false))]⟩ : Env) (Zv O n []) n) (fun z7 => JX 0 n (⟨26, [], []⟩ : Env) (Zv O n []) n))) (z := z7) ?_ fun hw => ?_
 ·refine Y9 hz7 (fun s0_ => ⟨26, [], [(0, (sL (eI .u64) a0)), (1, (sL (eI .u64) a1)), (5, (vI s0_))]⟩) (fun s0_ => (Zv O n [])) (Xs (fun z7 => JR n (⟨26, [], [(4, (vB false))]⟩ : Env) (Zv O n []) n) (fun z7 => JX 0 n (⟨26, [], []⟩ : Env) (Zv O n []) n)) ?_
  intro s0_ x0_ hs0_
  unfold Ui at hs0_
  try dsimp only
  refine Zl ?_
  refine zQ [0, 1, 5, 14] ?_
  refine Zs (t := (decide (s0_ < (a0.length : Int)))) rfl (fun c6 => ?_) (fun c6 => ?_)
  ·replace hs0_ := Zr c6 hs0_
   refine Jq [0, 1, 5] [] ?_
   refine Zl ?_
   refine Yl ?_
   obtain ⟨x3, hx3, ax3, bx3, cx3, hs0_⟩ := bE (f := (eI .u64)) Zhf (fun _ => rfl) (by decide) hs0_
   obtain ⟨x4, hx4, ax4, bx4, cx4, hs0_⟩ := bE (f := (eI .u64)) Zhf (fun _ => rfl) (by decide) hs0_
   refine Zno [0, 1, 5, 25] (K9 Z0 (by kernel_rfl) [] (by kernel_rfl) ?_)
   refine zF6 ax3 bx3 cx3 ax4 bx4 cx4 ?_
   refine Zs (t := (x3 != x4)) rfl (fun c5 => ?_) (fun c5 => ?_)
   ·replace hs0_ := Zr c5 hs0_
    refine zQ [4] ?_
    refine zW ?_
    exact zEy hs0_
   replace hs0_ := Zq c5 hs0_
   refine Jq [0, 1, 5] [] ?_
   refine zR ?_
   exact zEn hs0_
  replace hs0_ := Zq c6 hs0_
  exact zEx hs0_
 rcases z7 with z7 | z7
 ·dsimp only [Xs] at hw h
  refine Jc hw ?_
  try simp only [Y2, Ye, ↓reduceIte, Nat.reduceEqDiff]
  exact Ziy [(vB false)]
 dsimp only [Xs] at hw h
 refine Yu hw ?_
 try simp only [Y2, Ye, ↓reduceIte, Nat.reduceEqDiff]
 refine zD [] [] ?_
 refine zQ [4] ?_
 exact Y4 [(vB true)]
attribute [local push_cast] Try.results13 Try.results3
def Zig (J3 : (Zb → Zb → Option Bool)) : Prop := ∀ {a0 : Zb} {a1 : Zb} {r : Bool} {O : Objs} {n : Nat}, J3 a0 a1 = some r → GTo Try.prog 13 [.agg (Ze a0), .agg (Ze a1)] O n ((vB r)) O n
theorem Zqd {J3 : (Zb → Zb → Option Bool)} (Zod : Zig J3) {a0 : Zb} {a1 : Zb} {r : Bool} {O : Objs} {n : Nat} (h : Zbf J3 a0 a1 = some r) : GTo Try.prog 13 [.agg (Ze a0), .agg (Ze a1)] O n ((vB r)) O n := by
 unfold Zbf at h
 refine zFn Try.call13 Try.func13 fun hU hN0 hN => ?_
 show W _ _ _ _ ⟨47, [], [(0, .agg (Ze a0)), (1, .agg (Ze a1))]⟩ (Zv O n []) _
 refine zQ [2, 3] ?_
 refine Zl ?_
 obtain ⟨z2, hz2, h⟩ := bC h
 refine Y6 (E' := ⟨47, [], [(2, .ref n 0), (3, .ref (n + 1) 0), (27, (vB z2))]⟩) (O' := (Zv O n [some ⟨false, 25, 3, 1, (Ze a0)⟩, some ⟨false, 25, 3, 1, (Ze a1)⟩])) (n0 := (n + 2)) ?_ ?_
 ·rcases Bool.eq_false_or_eq_true (a0.Kind != a1.Kind) with c5 | c5
  ·replace hz2 := Zr c5 hz2
   refine K6 [some false, some false, some false, some false, some false, some false, some false, some false, some false, some false, some false, some false, some false] c5 ?_
   exact Jb hz2 c5
  replace hz2 := Zq c5 hz2
  obtain ⟨y4, hy4, hz2⟩ := bC hz2
  refine K6 [some true, some true, some true, some true, some true, some true, none, none, none, none, none, none, none] c5 ?_
  refine zG ?_
  refine (Zqw hy4).then ?_
  refine zX1 c5 ?_
  refine zG ?_
  exact Jb hz2 c5
 refine Zs (t := z2) rfl (fun c15 => ?_) (fun c15 => ?_)
 ·replace h := Zr c15 h
  refine zQ [4] ?_
  exact Y4 [(vB false)]
 replace h := Zq c15 h
 refine Jq [2, 3] [true, true] ?_
 refine Zl ?_
 refine zQd [2, 3, 5] [2, 3, 5] [true, true] ?_
 obtain ⟨z14, hz14, h⟩ := bC h
 refine Gu (J := (Xs (fun z14 => JR n (⟨47, [], [(4, (vB false))]⟩ : Env) (Zv O n [none, none]) (n + 2)) (fun z14 => JX 0 n (⟨47, [], []⟩ : Env) (Zv O n [none, none]) (n + 2)))) (z := z14) ?_ fun hw => ?_
 ·refine Y9 hz14 (fun s0_ => ⟨47, [], [(2, .ref n 0), (3, .ref (n + 1) 0), (5, (vI s0_))]⟩) (fun s0_ => (Zv O n [some ⟨false, 25, 3, 1, (Ze a0)⟩, some ⟨false, 25, 3, 1, (Ze a1)⟩])) (Xs (fun z14 => JR n (⟨47, [], [(4, (vB false))]⟩ : Env) (Zv O n [none, none]) (n + 2)) (fun z14 => JX 0 n (⟨47, [], []⟩ : Env) (Zv O n [none, none]) (n + 2))) ?_
  intro s0_ x0_ hs0_
  unfold Uf at hs0_
  try dsimp only
  refine Zl ?_
  refine zQ [2, 3, 5, 32] ?_
  refine Zs (t := (decide (s0_ < (a0.Kids.length : Int)))) rfl (fun c13 => ?_) (fun c13 => ?_)
  ·replace hs0_ := Zr c13 hs0_
   refine Jq [2, 3, 5] [true, true] ?_
   refine Zl ?_
   refine Yl ?_
   refine Zl ?_
   obtain ⟨x9, hx9, ax9, bx9, cx9, hs0_⟩ := bE (f := Za) Up (fun _ => rfl) (by decide) hs0_
   obtain ⟨x10, hx10, ax10, bx10, cx10, hs0_⟩ := bE (f := Za) Up (fun _ => rfl) (by decide) hs0_
   obtain ⟨y11, hy11, hs0_⟩ := bC hs0_
   refine K9 Z0 (by kernel_rfl) [] (by kernel_rfl) ?_
   refine zF6 ax9 bx9 cx9 ax10 bx10 cx10 ?_
   refine PCall.of (Zod hy11) ?_
   refine zF6 ax9 bx9 cx9 ax10 bx10 cx10 ?_
   refine zD [2, 3, 5, 46] [true, true] ?_
   refine Zs (t := (!y11)) rfl (fun c12 => ?_) (fun c12 => ?_)
   ·replace hs0_ := Zr c12 hs0_
    refine zQ [4] ?_
    refine zW ?_
    exact zEy hs0_
   replace hs0_ := Zq c12 hs0_
   refine Jq [2, 3, 5] [true, true] ?_
   refine zR ?_
   exact zEn hs0_
  replace hs0_ := Zq c13 hs0_
  exact zEx hs0_
 rcases z14 with z14 | z14
 ·dsimp only [Xs] at hw h
  refine Jc hw ?_
  try simp only [Y2, Ye, ↓reduceIte, Nat.reduceEqDiff]
  exact Ziy [(vB false)]
 dsimp only [Xs] at hw h
 refine Yu hw ?_
 try simp only [Y2, Ye, ↓reduceIte, Nat.reduceEqDiff]
 refine zD [] [false, false] ?_
 refine zQ [4] ?_
 exact Y4 [(vB true)]
theorem Znr : ∀ k, (Zig (Km k)) := fun k => by
 induction k with
 | zero => exact @fun a0 a1 r O n h => (nomatch (show (none : Option _) = some _ from h))
 | succ k ih => exact @fun a0 a1 r O n h => Zqd (ih)  h
theorem Zf9 {a0 : Zb} {a1 : Zb} {r : Bool} {O : Objs} {n : Nat} (h : Zd3 a0 a1 = some r) : GTo Try.prog 13 [.agg (Ze a0), .agg (Ze a1)] O n ((vB r)) O n := by
 obtain ⟨k, hk⟩ := Zaf h
 exact (Znr k)  hk
theorem Zj2 {a0 : Zb} {a1 : (List Zc)} {r : Bool} {O : Objs} {n : Nat} (h : V9 a0 a1 = some r) : GTo Try.prog 3 [.agg (Ze a0), (sL Zd a1)] O n ((vB r)) O n := by
 unfold V9 at h
 refine zFn Try.call3 Try.func3 fun hU hN0 hN => ?_
 show W _ _ _ _ ⟨101, [], [(0, .agg (Ze a0)), (1, (sL Zd a1))]⟩ (Zv O n []) _
 refine zQ [1, 2] ?_
 refine Zl ?_
 obtain ⟨z3, hz3, h⟩ := bC h
 refine Y6 (E' := ⟨101, [], [(1, (sL Zd a1)), (2, .ref n 0), (25, (vB z3))]⟩) (O' := (Zv O n [some ⟨false, 25, 3, 1, (Ze a0)⟩])) (n0 := (n + 1)) ?_ ?_
 ·obtain ⟨y6, hy6, hz3⟩ := bC hz3
  rcases Bool.eq_false_or_eq_true y6 with c8 | c8
  ·replace hz3 := Zr c8 hz3
   obtain ⟨y7, hy7, hz3⟩ := bC hz3
   refine K6 [some true, some true, some true, none, none, none] c8 ?_
   refine zG ?_
   refine (Uw hy6).then ?_
   refine zX1 c8 ?_
   refine zG ?_
   refine (Gi hy7).then ?_
   refine zX1 c8 ?_
   refine zG ?_
   exact Jb hz3 c8
  replace hz3 := Zq c8 hz3
  refine K6 [some false, some false, some false, some false, some false, some false] c8 ?_
  refine (Uw hy6).then ?_
  refine zX1 c8 ?_
  exact Jb hz3 c8
 refine Zs (t := z3) rfl (fun c60 => ?_) (fun c60 => ?_)
 ·replace h := Zr c60 h
  refine Zl ?_
  obtain ⟨y10, hy10, h⟩ := bC h
  refine zCd (Zfn hy10) [4] [false] ?_
  exact Y4 [(vB y10)]
 replace h := Zq c60 h
 refine Jq [1, 2] [true] ?_
 refine Zl ?_
 obtain ⟨y12, hy12, h⟩ := bC h
 refine zR ?_
 refine (Zob  hy12).then ?_
 refine zS ?_
 refine zDs [1, 2, 5] [true, true, true, true] ?_
 refine zQd [1, 2, 5, 6] [1, 2, 5, 6] [true, true, true, true] ?_
 refine Qc (E' := (⟨101, [], [(1, (sL Zd a1)), (2, .ref n 0), (5, .ref (n + 1) 0), (6, (vI 0))]⟩ : Env)) (O' := (Zv O n [some ⟨false, 25, 3, 1, (Ze a0)⟩, some ⟨false, 54, 5, 1, [(vI y12.now.Kind), (sL (eI .u64) y12.now.Words), (sL Za y12.now.Kids), .row (n + 4) y12.done.length, .row (n + 5) y12.back.length]⟩, none, none, some (oR 37 11 Zd y12.done), some (oR 37 11 Zd y12.back), none])) (n' := (n + 7)) ?_ ?_
 ·refine Fit2.trans (E' := (⟨101, [], [(1, (sL Zd a1)), (2, .ref n 0), (5, .ref (n + 1) 0), (6, (vI 0))]⟩ : Env)) (O' := (Zv O n [some ⟨false, 25, 3, 1, (Ze a0)⟩, some ⟨false, 54, 5, 1, [(vI y12.now.Kind), (sL (eI .u64) y12.now.Words), (sL Za y12.now.Kids), .row (n + 2) y12.done.length, .row (n + 3) y12.back.length]⟩, some (oR 37 11 Zd y12.done), some (oR 37 11 Zd y12.back)])) (n' := (n + 4)) (Fit2.of (Yw hU rfl rfl ?_) (by omega)) ?_
  ·exact zSe
  refine Q9 (k := 4) (k' := 7) hU [0, 1, 4, 5] [0, 1, 0, 0, 2, 3, 0] rfl rfl rfl rfl ⟨rfl, rfl⟩ ?_
  exact zSe
 obtain ⟨z23, hz23, h⟩ := bC h
 refine Gu (J := (Xs (fun z23 => JR n (⟨101, [], [(4, (vB z23))]⟩ : Env) (Zv O n [none, none, none, none]) (n + 4)) (fun z23 => JX 0 n (⟨101, [], [(2, .ref n 0), (5, .ref (n + 1) 0)]⟩ : Env) (Zv O n [some ⟨false, 25, 3, 1, (Ze a0)⟩, some ⟨false, 54, 5, 1, [(vI z23.1), (sL (eI .u64) z23.2.1), (sL Za z23.2.2.1), .row (n + 4) z23.2.2.2.1.length, .row (n + 5) z23.2.2.2.2.length]⟩, none, none, some (oR 37 11 Zd z23.2.2.2.1), some (oR 37 11 Zd z23.2.2.2.2), none]) (n + 7)))) (z := z23) ?_ fun hw => ?_
 ·refine Y9 hz23 (fun s0_ => ⟨101, [], [(1, (sL Zd a1)), (2, .ref n 0), (5, .ref (n + 1) 0), (6, (vI s0_.1))]⟩) (fun s0_ => (Zv O n [some ⟨false, 25, 3, 1, (Ze a0)⟩, some ⟨false, 54, 5, 1, [(vI s0_.2.1), (sL (eI .u64) s0_.2.2.1), (sL Za s0_.2.2.2.1), .row (n + 4) s0_.2.2.2.2.1.length, .row (n + 5) s0_.2.2.2.2.2.length]⟩, none, none, some (oR 37 11 Zd s0_.2.2.2.2.1), some (oR 37 11 Zd s0_.2.2.2.2.2), none])) (Xs (fun z23 => JR n (⟨101, [], [(4, (vB z23))]⟩ : Env) (Zv O n [none, none, none, none]) (n + 4)) (fun z23 => JX 0 n (⟨101, [], [(2, .ref n 0), (5, .ref (n + 1) 0)]⟩ : Env) (Zv O n [some ⟨false, 25, 3, 1, (Ze a0)⟩, some ⟨false, 54, 5, 1, [(vI z23.1), (sL (eI .u64) z23.2.1), (sL Za z23.2.2.1), .row (n + 4) z23.2.2.2.1.length, .row (n + 5) z23.2.2.2.2.length]⟩, none, none, some (oR 37 11 Zd z23.2.2.2.1), some (oR 37 11 Zd z23.2.2.2.2), none]) (n + 7))) ?_
  intro s0_ x0_ hs0_
  unfold K0 at hs0_
  try dsimp only
  refine Zl ?_
  refine zQD [1, 2, 5, 6, 36] [none, none] ?_
  refine Zs (t := (cond (decide (s0_.1 < (a1.length : Int))) (decide (s0_.1 < 12)) false)) rfl (fun c22 => ?_) (fun c22 => ?_)
  ·replace hs0_ := Zr c22 hs0_
   refine Jq [1, 2, 5, 6] [true, true, false, false, true, true, false] ?_
   refine Zl ?_
   refine Yl ?_
   refine Zl ?_
   refine Zl ?_
   obtain ⟨x15, hx15, ax15, bx15, cx15, hs0_⟩ := bE (f := Zd) Ziu (fun _ => rfl) (by decide) hs0_
   skip
   obtain ⟨y16, hy16, hs0_⟩ := bC hs0_
   refine K9 Z0 (by kernel_rfl) [] (by kernel_rfl) ?_
   refine zF3 ax15 bx15 cx15 ?_
   refine PCall.of (X9 (a := (⟨s0_.2.1, s0_.2.2.1, s0_.2.2.2.1⟩ : Zb)) (d := .row (n + 4) s0_.2.2.2.2.1.length) (e := .row (n + 5) s0_.2.2.2.2.2.length) (i0 := (n + 1)) (by omega) (by simp only [push_cast, Nat.reduceAdd, Nat.reduceSub, Nat.reduceMul, Nat.reduceLeDiff, Nat.reduceLT, Nat.reduceEqDiff, ↓reduceIte, reduceCtorEq, Int.reduceBEq, Int.reduceBNe, Nat.reduceBEq, Int.reduceLE, Int.reduceLT, Int.reduceEq, Int.reduceNe, Int.reduceNeg, Nat.reduceDiv, Nat.reduceMod, Nat.reducePow, Zf, Z5, ax15, bx15, cx15, hN0, hN] <;> rfl)) ?_
   refine zF3 ax15 bx15 cx15 ?_
   refine PCall.of (Zp8 hy16) ?_
   refine zF3 ax15 bx15 cx15 ?_
   refine zD [1, 2, 5, 6, 47] [true, true, false, false, true, true, false] ?_
   refine Zs (t := (!y16)) rfl (fun c21 => ?_) (fun c21 => ?_)
   ·replace hs0_ := Zr c21 hs0_
    refine Zl ?_
    obtain ⟨y18, hy18, hs0_⟩ := bC hs0_
    refine zCd (Zfn hy18) [4] [false, false, false, false, false, false, false] ?_
    refine zW ?_
    exact zEy hs0_
   replace hs0_ := Zq c21 hs0_
   refine Jq [1, 2, 5, 6] [true, true, false, false, true, true, false] ?_
   obtain ⟨x19, hx19, ax19, bx19, cx19, hs0_⟩ := bE (f := Zd) Ziu (fun _ => rfl) (by decide) hs0_
   obtain ⟨y20, hy20, hs0_⟩ := bC hs0_
   refine Zc2 [] ax19 bx19 cx19 ?_
   refine (Zhq (i0 := (n + 1)) (j0_0 := (n + 4)) (j0_1 := (n + 5)) (by omega) (by omega) (by omega) (by omega) (by omega) (by omega) (by simp only [push_cast, Nat.reduceAdd, Nat.reduceSub, Nat.reduceMul, Nat.reduceLeDiff, Nat.reduceLT, Nat.reduceEqDiff, ↓reduceIte, reduceCtorEq, Int.reduceBEq, Int.reduceBNe, Nat.reduceBEq, Int.reduceLE, Int.reduceLT, Int.reduceEq, Int.reduceNe, Int.reduceNeg, Nat.reduceDiv, Nat.reduceMod, Nat.reducePow, Zf, Z5, ax19, bx19, cx19, hN0, hN] <;> rfl) (by simp only [push_cast, Nat.reduceAdd, Nat.reduceSub, Nat.reduceMul, Nat.reduceLeDiff, Nat.reduceLT, Nat.reduceEqDiff, ↓reduceIte, reduceCtorEq, Int.reduceBEq, Int.reduceBNe, Nat.reduceBEq, Int.reduceLE, Int.reduceLT, Int.reduceEq, Int.reduceNe, Int.reduceNeg, Nat.reduceDiv, Nat.reduceMod, Nat.reducePow, Zf, Z5, ax19, bx19, cx19, hN0, hN] <;> rfl) (by simp only [push_cast, Nat.reduceAdd, Nat.reduceSub, Nat.reduceMul, Nat.reduceLeDiff, Nat.reduceLT, Nat.reduceEqDiff, ↓reduceIte, reduceCtorEq, Int.reduceBEq, Int.reduceBNe, Nat.reduceBEq, Int.reduceLE, Int.reduceLT, Int.reduceEq, Int.reduceNe, Int.reduceNeg, Nat.reduceDiv, Nat.reduceMod, Nat.reducePow, Zf, Z5, ax19, bx19, cx19, hN0, hN] <;> rfl) hy20).then ?_
   refine zF3 ax19 bx19 cx19 ?_
   refine zD [1, 2, 5, 6] [true, true, false, false, false, false, false, true, true] ?_
   refine zR ?_
   obtain rfl := sI hs0_
   refine And.intro rfl ?_
   refine Fit2.trans (E' := (⟨101, [], [(1, (sL Zd a1)), (2, .ref n 0), (5, .ref (n + 1) 0), (6, (vI (IntKind.i64.wrap (s0_.1 + 1))))]⟩ : Env)) (O' := (Zv O n [some ⟨false, 25, 3, 1, (Ze a0)⟩, some ⟨false, 54, 5, 1, [(vI y20.2.now.Kind), (sL (eI .u64) y20.2.now.Words), (sL Za y20.2.now.Kids), .row (n + 7) y20.2.done.length, .row (n + 8) y20.2.back.length]⟩, none, none, none, none, none, some (oR 37 11 Zd y20.2.done), some (oR 37 11 Zd y20.2.back)])) (n' := (n + 9)) (Fit2.of (Yw hU rfl rfl ?_) (by omega)) ?_
   ·exact zSe
   refine Q9 (k := 9) (k' := 7) hU [0, 1, 6, 6, 6, 6, 6, 4, 5] [0, 1, 0, 0, 7, 8, 0] rfl rfl rfl rfl ⟨rfl, rfl⟩ ?_
   exact zSe
  replace hs0_ := Zq c22 hs0_
  exact zEx hs0_
 rcases z23 with z23 | z23
 ·dsimp only [Xs] at hw h
  refine Jc hw ?_
  try simp only [Y2, Ye, ↓reduceIte, Nat.reduceEqDiff]
  exact Ziy [(vB z23)]
 dsimp only [Xs] at hw h
 refine Yu hw ?_
 try simp only [Y2, Ye, ↓reduceIte, Nat.reduceEqDiff]
 refine zDs [2, 5] [true, true, false, false, true, true, false] ?_
 skip
 refine zR ?_
 refine (X9 (a := (⟨z23.1, z23.2.1, z23.2.2.1⟩ : Zb)) (d := .row (n + 4) z23.2.2.2.1.length) (e := .row (n + 5) z23.2.2.2.2.length) (i0 := (n + 1)) (by omega) (by simp only [push_cast, seval, ↓reduceIte, Zf, Z5, hN0, hN] <;> rfl)).then ?_
 refine zS ?_
 refine zDs [2, 5, 7] [true, true, false, false, true, true, false, true] ?_
 obtain ⟨y25, hy25, h⟩ := bC h
 refine zR ?_
 refine (Za6 (i0 := (n + 1)) (j0_0 := (n + 4)) (j0_1 := (n + 5)) (by omega) (by omega) (by omega) (by omega) (by omega) (by omega) (by simp only [push_cast, seval, ↓reduceIte, Zf, Z5, hN0, hN] <;> rfl) (by simp only [push_cast, seval, ↓reduceIte, Zf, Z5, hN0, hN] <;> rfl) (by simp only [push_cast, seval, ↓reduceIte, Zf, Z5, hN0, hN] <;> rfl) hy25).then ?_
 refine zS ?_
 refine zDs [2, 5, 7, 8] [true, true, false, false, false, false, false, true, true, true] ?_
 refine zQd [2, 5, 7, 8, 10] [2, 5, 7, 8, 10] [true, true, false, false, false, false, false, true, true, true] ?_
 refine Qc (E' := (⟨101, [], [(2, .ref n 0), (5, .ref (n + 1) 0), (7, .ref (n + 7) 0), (8, (vI y25.1)), (10, (vI 0))]⟩ : Env)) (O' := (Zv O n [some ⟨false, 25, 3, 1, (Ze a0)⟩, some ⟨false, 54, 5, 1, [(vI y25.2.2.now.Kind), (sL (eI .u64) y25.2.2.now.Words), (sL Za y25.2.2.now.Kids), .row (n + 10) y25.2.2.done.length, .row (n + 11) y25.2.2.back.length]⟩, none, none, none, none, none, some ⟨false, 25, 3, 1, [(vI z23.1), (sL (eI .u64) z23.2.1), (sL Za z23.2.2.1)]⟩, none, none, some (oR 37 11 Zd y25.2.2.done), some (oR 37 11 Zd y25.2.2.back), none])) (n' := (n + 13)) ?_ ?_
 ·refine Fit2.trans (E' := (⟨101, [], [(2, .ref n 0), (5, .ref (n + 1) 0), (7, .ref (n + 7) 0), (8, (vI y25.1)), (10, (vI 0))]⟩ : Env)) (O' := (Zv O n [some ⟨false, 25, 3, 1, (Ze a0)⟩, some ⟨false, 54, 5, 1, [(vI y25.2.2.now.Kind), (sL (eI .u64) y25.2.2.now.Words), (sL Za y25.2.2.now.Kids), .row (n + 8) y25.2.2.done.length, .row (n + 9) y25.2.2.back.length]⟩, none, none, none, none, none, some ⟨false, 25, 3, 1, [(vI z23.1), (sL (eI .u64) z23.2.1), (sL Za z23.2.2.1)]⟩, some (oR 37 11 Zd y25.2.2.done), some (oR 37 11 Zd y25.2.2.back)])) (n' := (n + 10)) (Fit2.of (Yw hU rfl rfl ?_) (by omega)) ?_
  ·exact zSe
  refine Q9 (k := 10) (k' := 13) hU [0, 1, 12, 12, 12, 12, 12, 7, 10, 11] [0, 1, 0, 0, 0, 0, 0, 7, 0, 0, 8, 9, 0] rfl rfl rfl rfl ⟨rfl, rfl⟩ ?_
  exact zSe
 obtain ⟨z30, hz30, h⟩ := bC h
 refine Gu (J := (Xs (fun z30 => JR n (⟨101, [], [(4, (vB false))]⟩ : Env) (Zv O n [none, none, none, none, none, none, none, none, none, none]) (n + 10)) (fun z30 => JX 2 n (⟨101, [], [(2, .ref n 0), (5, .ref (n + 1) 0), (7, .ref (n + 7) 0), (8, (vI y25.1))]⟩ : Env) (Zv O n [some ⟨false, 25, 3, 1, (Ze a0)⟩, some ⟨false, 54, 5, 1, [(vI z30.1), (sL (eI .u64) z30.2.1), (sL Za z30.2.2.1), .row (n + 10) z30.2.2.2.1.length, .row (n + 11) z30.2.2.2.2.length]⟩, none, none, none, none, none, some ⟨false, 25, 3, 1, [(vI z23.1), (sL (eI .u64) z23.2.1), (sL Za z23.2.2.1)]⟩, none, none, some (oR 37 11 Zd z30.2.2.2.1), some (oR 37 11 Zd z30.2.2.2.2), none]) (n + 13)))) (z := z30) ?_ fun hw => ?_
 ·refine Y9 hz30 (fun s1_ => ⟨101, [], [(2, .ref n 0), (5, .ref (n + 1) 0), (7, .ref (n + 7) 0), (8, (vI y25.1)), (10, (vI s1_.1))]⟩) (fun s1_ => (Zv O n [some ⟨false, 25, 3, 1, (Ze a0)⟩, some ⟨false, 54, 5, 1, [(vI s1_.2.1), (sL (eI .u64) s1_.2.2.1), (sL Za s1_.2.2.2.1), .row (n + 10) s1_.2.2.2.2.1.length, .row (n + 11) s1_.2.2.2.2.2.length]⟩, none, none, none, none, none, some ⟨false, 25, 3, 1, [(vI z23.1), (sL (eI .u64) z23.2.1), (sL Za z23.2.2.1)]⟩, none, none, some (oR 37 11 Zd s1_.2.2.2.2.1), some (oR 37 11 Zd s1_.2.2.2.2.2), none])) (Xs (fun z30 => JR n (⟨101, [], [(4, (vB false))]⟩ : Env) (Zv O n [none, none, none, none, none, none, none, none, none, none]) (n + 10)) (fun z30 => JX 2 n (⟨101, [], [(2, .ref n 0), (5, .ref (n + 1) 0), (7, .ref (n + 7) 0), (8, (vI y25.1))]⟩ : Env) (Zv O n [some ⟨false, 25, 3, 1, (Ze a0)⟩, some ⟨false, 54, 5, 1, [(vI z30.1), (sL (eI .u64) z30.2.1), (sL Za z30.2.2.1), .row (n + 10) z30.2.2.2.1.length, .row (n + 11) z30.2.2.2.2.length]⟩, none, none, none, none, none, some ⟨false, 25, 3, 1, [(vI z23.1), (sL (eI .u64) z23.2.1), (sL Za z23.2.2.1)]⟩, none, none, some (oR 37 11 Zd z30.2.2.2.1), some (oR 37 11 Zd z30.2.2.2.2), none]) (n + 13))) ?_
  intro s1_ x1_ hs1_
  unfold K1 at hs1_
  try dsimp only
  refine Zl ?_
  refine zQ [2, 5, 7, 8, 10, 64] ?_
  refine Zs (t := (decide (s1_.1 < y25.1))) rfl (fun c29 => ?_) (fun c29 => ?_)
  ·replace hs1_ := Zr c29 hs1_
   refine Jq [2, 5, 7, 8, 10] [true, true, false, false, false, false, false, true, false, false, true, true, false] ?_
   refine Zl ?_
   refine Yl ?_
   refine Zl ?_
   obtain ⟨y27, hy27, hs1_⟩ := bC hs1_
   refine zR ?_
   refine (Ux (i0 := (n + 1)) (j0_0 := (n + 10)) (j0_1 := (n + 11)) (by omega) (by omega) (by omega) (by omega) (by omega) (by omega) (by simp only [push_cast, seval, ↓reduceIte, Zf, Z5, hN0, hN] <;> rfl) (by simp only [push_cast, seval, ↓reduceIte, Zf, Z5, hN0, hN] <;> rfl) (by simp only [push_cast, seval, ↓reduceIte, Zf, Z5, hN0, hN] <;> rfl) hy27).then ?_
   refine zS ?_
   refine zD [2, 5, 7, 8, 10, 69] [true, true, false, false, false, false, false, true, false, false, false, false, false, true, true] ?_
   refine Zs (t := (!y27.1)) rfl (fun c28 => ?_) (fun c28 => ?_)
   ·replace hs1_ := Zr c28 hs1_
    refine zQ [4] ?_
    refine zW ?_
    exact zEy hs1_
   replace hs1_ := Zq c28 hs1_
   refine Jq [2, 5, 7, 8, 10] [true, true, false, false, false, false, false, true, false, false, false, false, false, true, true] ?_
   refine zR ?_
   obtain rfl := sI hs1_
   refine And.intro rfl ?_
   refine Fit2.trans (E' := (⟨101, [], [(2, .ref n 0), (5, .ref (n + 1) 0), (7, .ref (n + 7) 0), (8, (vI y25.1)), (10, (vI (IntKind.i64.wrap (s1_.1 + 1))))]⟩ : Env)) (O' := (Zv O n [some ⟨false, 25, 3, 1, (Ze a0)⟩, some ⟨false, 54, 5, 1, [(vI y27.2.now.Kind), (sL (eI .u64) y27.2.now.Words), (sL Za y27.2.now.Kids), .row (n + 13) y27.2.done.length, .row (n + 14) y27.2.back.length]⟩, none, none, none, none, none, some ⟨false, 25, 3, 1, [(vI z23.1), (sL (eI .u64) z23.2.1), (sL Za z23.2.2.1)]⟩, none, none, none, none, none, some (oR 37 11 Zd y27.2.done), some (oR 37 11 Zd y27.2.back)])) (n' := (n + 15)) (Fit2.of (Yw hU rfl rfl ?_) (by omega)) ?_
   ·exact zSe
   refine Q9 (k := 15) (k' := 13) hU [0, 1, 12, 12, 12, 12, 12, 7, 12, 12, 12, 12, 12, 10, 11] [0, 1, 0, 0, 0, 0, 0, 7, 0, 0, 13, 14, 0] rfl rfl rfl rfl ⟨rfl, rfl⟩ ?_
   exact zSe
  replace hs1_ := Zq c29 hs1_
  exact zEx hs1_
 rcases z30 with z30 | z30
 ·dsimp only [Xs] at hw h
  refine Jc hw ?_
  try simp only [Y2, Ye, ↓reduceIte, Nat.reduceEqDiff]
  exact Ziy [(vB false)]
 dsimp only [Xs] at hw h
 refine Yu hw ?_
 try simp only [Y2, Ye, ↓reduceIte, Nat.reduceEqDiff]
 refine zDs [2, 5, 7, 8] [true, true, false, false, false, false, false, true, false, false, true, true, false] ?_
 skip
 refine zR ?_
 refine (X9 (a := (⟨z30.1, z30.2.1, z30.2.2.1⟩ : Zb)) (d := .row (n + 10) z30.2.2.2.1.length) (e := .row (n + 11) z30.2.2.2.2.length) (i0 := (n + 1)) (by omega) (by simp only [push_cast, seval, ↓reduceIte, Zf, Z5, hN0, hN] <;> rfl)).then ?_
 refine zS ?_
 refine zDs [2, 5, 7, 8, 11] [true, true, false, false, false, false, false, true, false, false, true, true, false, true] ?_
 obtain ⟨z34, hz34, h⟩ := bC h
 refine Y6 (E' := ⟨101, [], [(5, .ref (n + 1) 0), (7, .ref (n + 7) 0), (8, (vI y25.1)), (80, (vB z34.1))]⟩) (O' := (Zv O n [none, some ⟨false, 54, 5, 1, [(vI z34.2.1), (sL (eI .u64) z34.2.2.1), (sL Za z34.2.2.2.1), .row (n + 14) z34.2.2.2.2.1.length, .row (n + 15) z34.2.2.2.2.2.length]⟩, none, none, none, none, none, some ⟨false, 25, 3, 1, [(vI z23.1), (sL (eI .u64) z23.2.1), (sL Za z23.2.2.1)]⟩, none, none, none, none, none, none, some (oR 37 11 Zd z34.2.2.2.2.1), some (oR 37 11 Zd z34.2.2.2.2.2)])) (n0 := (n + 16)) ?_ ?_
 ·obtain ⟨y38, hy38, hz34⟩ := bC hz34
  rcases Bool.eq_false_or_eq_true y38.1 with c41 | c41
  ·replace hz34 := Zr c41 hz34
   refine Zey Z0 (by kernel_rfl) [false, true, false, false, false, false, false, false, false] [some false, some false, some false, some false, some false] (by kernel_rfl) ?_
   refine zX1 c41 ?_
   refine (Ux (i0 := (n + 1)) (j0_0 := (n + 10)) (j0_1 := (n + 11)) (by omega) (by omega) (by omega) (by omega) (by omega) (by omega) (by simp only [push_cast, seval, ↓reduceIte, Zf, Z5, c41, hN0, hN] <;> rfl) (by simp only [push_cast, seval, ↓reduceIte, Zf, Z5, c41, hN0, hN] <;> rfl) (by simp only [push_cast, seval, ↓reduceIte, Zf, Z5, c41, hN0, hN] <;> rfl) hy38).then ?_
   refine zX1 c41 ?_
   exact Jb hz34 c41
  replace hz34 := Zq c41 hz34
  obtain ⟨y39, hy39, hz34⟩ := bC hz34
  obtain ⟨y40, hy40, hz34⟩ := bC hz34
  refine Zey Z0 (by kernel_rfl) [false, true, false, false, false, false, false, false, false] [some true, some true, some true, some true, some true] (by kernel_rfl) ?_
  refine zX1 c41 ?_
  refine (Ux (i0 := (n + 1)) (j0_0 := (n + 10)) (j0_1 := (n + 11)) (by omega) (by omega) (by omega) (by omega) (by omega) (by omega) (by simp only [push_cast, seval, ↓reduceIte, Zf, Z5, c41, hN0, hN] <;> rfl) (by simp only [push_cast, seval, ↓reduceIte, Zf, Z5, c41, hN0, hN] <;> rfl) (by simp only [push_cast, seval, ↓reduceIte, Zf, Z5, c41, hN0, hN] <;> rfl) hy38).then ?_
  refine zX1 c41 ?_
  refine PCall.of (Zqx hy39) ?_
  refine zX1 c41 ?_
  refine PCall.of (Zf9 hy40) ?_
  refine zX1 c41 ?_
  exact Jb hz34 c41
 refine Zs (t := z34.1) rfl (fun c59 => ?_) (fun c59 => ?_)
 ·replace h := Zr c59 h
  refine zQ [4] ?_
  exact Y4 [(vB false)]
 replace h := Zq c59 h
 refine Jq [5, 7, 8] [false, true, false, false, false, false, false, true, false, false, false, false, false, false, true, true] ?_
 refine Zl ?_
 refine zQd [5, 7, 8, 12] [5, 7, 8, 12] [false, true, false, false, false, false, false, true, false, false, false, false, false, false, true, true] ?_
 refine Qc (E' := (⟨101, [], [(5, .ref (n + 1) 0), (7, .ref (n + 7) 0), (8, (vI y25.1)), (12, (vI 0))]⟩ : Env)) (O' := (Zv O n [none, some ⟨false, 54, 5, 1, [(vI z34.2.1), (sL (eI .u64) z34.2.2.1), (sL Za z34.2.2.2.1), .row (n + 16) z34.2.2.2.2.1.length, .row (n + 17) z34.2.2.2.2.2.length]⟩, none, none, none, none, none, some ⟨false, 25, 3, 1, [(vI z23.1), (sL (eI .u64) z23.2.1), (sL Za z23.2.2.1)]⟩, none, none, none, none, none, none, none, none, some (oR 37 11 Zd z34.2.2.2.2.1), some (oR 37 11 Zd z34.2.2.2.2.2), none])) (n' := (n + 19)) ?_ ?_
 ·refine Fit2.trans (E' := (⟨101, [], [(5, .ref (n + 1) 0), (7, .ref (n + 7) 0), (8, (vI y25.1)), (12, (vI 0))]⟩ : Env)) (O' := (Zv O n [none, some ⟨false, 54, 5, 1, [(vI z34.2.1), (sL (eI .u64) z34.2.2.1), (sL Za z34.2.2.2.1), .row (n + 14) z34.2.2.2.2.1.length, .row (n + 15) z34.2.2.2.2.2.length]⟩, none, none, none, none, none, some ⟨false, 25, 3, 1, [(vI z23.1), (sL (eI .u64) z23.2.1), (sL Za z23.2.2.1)]⟩, none, none, none, none, none, none, some (oR 37 11 Zd z34.2.2.2.2.1), some (oR 37 11 Zd z34.2.2.2.2.2)])) (n' := (n + 16)) (Fit2.of (Yw hU rfl rfl ?_) (by omega)) ?_
  ·exact zSe
  refine Q9 (k := 16) (k' := 19) hU [18, 1, 18, 18, 18, 18, 18, 7, 18, 18, 18, 18, 18, 18, 16, 17] [0, 1, 0, 0, 0, 0, 0, 7, 0, 0, 0, 0, 0, 0, 0, 0, 14, 15, 0] rfl rfl rfl rfl ⟨rfl, rfl⟩ ?_
  exact zSe
 obtain ⟨z46, hz46, h⟩ := bC h
 refine Gu (J := (Xs (fun z46 => JR n (⟨101, [], [(4, (vB false))]⟩ : Env) (Zv O n [none, none, none, none, none, none, none, none, none, none, none, none, none, none, none, none]) (n + 16)) (fun z46 => JX 4 n (⟨101, [], [(5, .ref (n + 1) 0), (7, .ref (n + 7) 0)]⟩ : Env) (Zv O n [none, some ⟨false, 54, 5, 1, [(vI z46.1), (sL (eI .u64) z46.2.1), (sL Za z46.2.2.1), .row (n + 16) z46.2.2.2.1.length, .row (n + 17) z46.2.2.2.2.length]⟩, none, none, none, none, none, some ⟨false, 25, 3, 1, [(vI z23.1), (sL (eI .u64) z23.2.1), (sL Za z23.2.2.1)]⟩, none, none, none, none, none, none, none, none, some (oR 37 11 Zd z46.2.2.2.1), some (oR 37 11 Zd z46.2.2.2.2), none]) (n + 19)))) (z := z46) ?_ fun hw => ?_
 ·refine Y9 hz46 (fun s2_ => ⟨101, [], [(5, .ref (n + 1) 0), (7, .ref (n + 7) 0), (8, (vI y25.1)), (12, (vI s2_.1))]⟩) (fun s2_ => (Zv O n [none, some ⟨false, 54, 5, 1, [(vI s2_.2.1), (sL (eI .u64) s2_.2.2.1), (sL Za s2_.2.2.2.1), .row (n + 16) s2_.2.2.2.2.1.length, .row (n + 17) s2_.2.2.2.2.2.length]⟩, none, none, none, none, none, some ⟨false, 25, 3, 1, [(vI z23.1), (sL (eI .u64) z23.2.1), (sL Za z23.2.2.1)]⟩, none, none, none, none, none, none, none, none, some (oR 37 11 Zd s2_.2.2.2.2.1), some (oR 37 11 Zd s2_.2.2.2.2.2), none])) (Xs (fun z46 => JR n (⟨101, [], [(4, (vB false))]⟩ : Env) (Zv O n [none, none, none, none, none, none, none, none, none, none, none, none, none, none, none, none]) (n + 16)) (fun z46 => JX 4 n (⟨101, [], [(5, .ref (n + 1) 0), (7, .ref (n + 7) 0)]⟩ : Env) (Zv O n [none, some ⟨false, 54, 5, 1, [(vI z46.1), (sL (eI .u64) z46.2.1), (sL Za z46.2.2.1), .row (n + 16) z46.2.2.2.1.length, .row (n + 17) z46.2.2.2.2.length]⟩, none, none, none, none, none, some ⟨false, 25, 3, 1, [(vI z23.1), (sL (eI .u64) z23.2.1), (sL Za z23.2.2.1)]⟩, none, none, none, none, none, none, none, none, some (oR 37 11 Zd z46.2.2.2.1), some (oR 37 11 Zd z46.2.2.2.2), none]) (n + 19))) ?_
  intro s2_ x2_ hs2_
  unfold K2 at hs2_
  try dsimp only
  refine Zl ?_
  refine zQ [5, 7, 8, 12, 83] ?_
  refine Zs (t := (decide (s2_.1 < y25.1))) rfl (fun c45 => ?_) (fun c45 => ?_)
  ·replace hs2_ := Zr c45 hs2_
   refine Jq [5, 7, 8, 12] [false, true, false, false, false, false, false, true, false, false, false, false, false, false, false, false, true, true, false] ?_
   refine Zl ?_
   refine Yl ?_
   refine Zl ?_
   obtain ⟨y43, hy43, hs2_⟩ := bC hs2_
   refine zR ?_
   refine (Kx (i0 := (n + 1)) (j0_0 := (n + 16)) (j0_1 := (n + 17)) (by omega) (by omega) (by omega) (by omega) (by omega) (by omega) (by simp only [push_cast, seval, ↓reduceIte, Zf, Z5, hN0, hN] <;> rfl) (by simp only [push_cast, seval, ↓reduceIte, Zf, Z5, hN0, hN] <;> rfl) (by simp only [push_cast, seval, ↓reduceIte, Zf, Z5, hN0, hN] <;> rfl) hy43).then ?_
   refine zS ?_
   refine zD [5, 7, 8, 12, 88] [false, true, false, false, false, false, false, true, false, false, false, false, false, false, false, false, false, false, false, true, true] ?_
   refine Zs (t := (!y43.1)) rfl (fun c44 => ?_) (fun c44 => ?_)
   ·replace hs2_ := Zr c44 hs2_
    refine zQ [4] ?_
    refine zW ?_
    exact zEy hs2_
   replace hs2_ := Zq c44 hs2_
   refine Jq [5, 7, 8, 12] [false, true, false, false, false, false, false, true, false, false, false, false, false, false, false, false, false, false, false, true, true] ?_
   refine zR ?_
   obtain rfl := sI hs2_
   refine And.intro rfl ?_
   refine Fit2.trans (E' := (⟨101, [], [(5, .ref (n + 1) 0), (7, .ref (n + 7) 0), (8, (vI y25.1)), (12, (vI (IntKind.i64.wrap (s2_.1 + 1))))]⟩ : Env)) (O' := (Zv O n [none, some ⟨false, 54, 5, 1, [(vI y43.2.now.Kind), (sL (eI .u64) y43.2.now.Words), (sL Za y43.2.now.Kids), .row (n + 19) y43.2.done.length, .row (n + 20) y43.2.back.length]⟩, none, none, none, none, none, some ⟨false, 25, 3, 1, [(vI z23.1), (sL (eI .u64) z23.2.1), (sL Za z23.2.2.1)]⟩, none, none, none, none, none, none, none, none, none, none, none, some (oR 37 11 Zd y43.2.done), some (oR 37 11 Zd y43.2.back)])) (n' := (n + 21)) (Fit2.of (Yw hU rfl rfl ?_) (by omega)) ?_
   ·exact zSe
   refine Q9 (k := 21) (k' := 19) hU [18, 1, 18, 18, 18, 18, 18, 7, 18, 18, 18, 18, 18, 18, 18, 18, 18, 18, 18, 16, 17] [0, 1, 0, 0, 0, 0, 0, 7, 0, 0, 0, 0, 0, 0, 0, 0, 19, 20, 0] rfl rfl rfl rfl ⟨rfl, rfl⟩ ?_
   exact zSe
  replace hs2_ := Zq c45 hs2_
  exact zEx hs2_
 rcases z46 with z46 | z46
 ·dsimp only [Xs] at hw h
  refine Jc hw ?_
  try simp only [Y2, Ye, ↓reduceIte, Nat.reduceEqDiff]
  exact Ziy [(vB false)]
 dsimp only [Xs] at hw h
 refine Yu hw ?_
 try simp only [Y2, Ye, ↓reduceIte, Nat.reduceEqDiff]
 refine zD [5, 7] [false, true, false, false, false, false, false, true, false, false, false, false, false, false, false, false, true, true, false] ?_
 obtain ⟨z50, hz50, h⟩ := bC h
 refine Y6 (E' := ⟨101, [], [(4, (vB z50))]⟩) (O' := (Zv O n [none, none, none, none, none, none, none, none, none, none, none, none, none, none, none, none, none, none, none, none, none])) (n0 := (n + 21)) ?_ ?_
 ·obtain ⟨y54, hy54, hz50⟩ := bC hz50
  rcases Bool.eq_false_or_eq_true y54.1 with c57 | c57
  ·replace hz50 := Zr c57 hz50
   refine Zey Z0 (by kernel_rfl) [false, true, false, false, false, false, false, false, false, false, false, false, false] [some false, some false, some false, some false, some false] (by kernel_rfl) ?_
   refine zX1 c57 ?_
   refine (Kx (i0 := (n + 1)) (j0_0 := (n + 16)) (j0_1 := (n + 17)) (by omega) (by omega) (by omega) (by omega) (by omega) (by omega) (by simp only [push_cast, seval, ↓reduceIte, Zf, Z5, c57, hN0, hN] <;> rfl) (by simp only [push_cast, seval, ↓reduceIte, Zf, Z5, c57, hN0, hN] <;> rfl) (by simp only [push_cast, seval, ↓reduceIte, Zf, Z5, c57, hN0, hN] <;> rfl) hy54).then ?_
   refine zX1 c57 ?_
   exact Jb hz50 c57
  replace hz50 := Zq c57 hz50
  skip
  obtain ⟨y55, hy55, hz50⟩ := bC hz50
  rcases Bool.eq_false_or_eq_true y55 with c58 | c58
  ·replace hz50 := Zr c58 hz50
   try rw [c58] at c57
   obtain ⟨y56, hy56, hz50⟩ := bC hz50
   refine Zey Z0 (by kernel_rfl) [false, true, false, false, false, false, false, false, false, false, false, false, false] [some true, some true, some true, some true, some true] (by kernel_rfl) ?_
   refine zX2 c57 c58 ?_
   refine (Kx (i0 := (n + 1)) (j0_0 := (n + 16)) (j0_1 := (n + 17)) (by omega) (by omega) (by omega) (by omega) (by omega) (by omega) (by simp only [push_cast, seval, ↓reduceIte, Zf, Z5, c57, c58, hN0, hN] <;> rfl) (by simp only [push_cast, seval, ↓reduceIte, Zf, Z5, c57, c58, hN0, hN] <;> rfl) (by simp only [push_cast, seval, ↓reduceIte, Zf, Z5, c57, c58, hN0, hN] <;> rfl) hy54).then ?_
   refine zX2 c57 c58 ?_
   refine PCall.of (X9 (a := y54.2.now) (d := .row (n + 19) y54.2.done.length) (e := .row (n + 20) y54.2.back.length) (i0 := (n + 1)) (by omega) (by simp only [push_cast, seval, ↓reduceIte, Zf, Z5, c57, c58, hN0, hN] <;> rfl)) ?_
   refine zX2 c57 c58 ?_
   refine PCall.of (Zf9 hy55) ?_
   refine zX2 c57 c58 ?_
   refine PCall.of (Zfn hy56) ?_
   refine zX2 c57 c58 ?_
   exact Zc1 hz50 c57 c58
  replace hz50 := Zq c58 hz50
  try rw [c58] at c57
  refine Zey Z0 (by kernel_rfl) [false, true, false, false, false, false, false, false, false, false, false, false, false] [some true, some true, some true, some true, some false] (by kernel_rfl) ?_
  refine zX2 c57 c58 ?_
  refine (Kx (i0 := (n + 1)) (j0_0 := (n + 16)) (j0_1 := (n + 17)) (by omega) (by omega) (by omega) (by omega) (by omega) (by omega) (by simp only [push_cast, seval, ↓reduceIte, Zf, Z5, c57, c58, hN0, hN] <;> rfl) (by simp only [push_cast, seval, ↓reduceIte, Zf, Z5, c57, c58, hN0, hN] <;> rfl) (by simp only [push_cast, seval, ↓reduceIte, Zf, Z5, c57, c58, hN0, hN] <;> rfl) hy54).then ?_
  refine zX2 c57 c58 ?_
  refine PCall.of (X9 (a := y54.2.now) (d := .row (n + 19) y54.2.done.length) (e := .row (n + 20) y54.2.back.length) (i0 := (n + 1)) (by omega) (by simp only [push_cast, seval, ↓reduceIte, Zf, Z5, c57, c58, hN0, hN] <;> rfl)) ?_
  refine zX2 c57 c58 ?_
  refine PCall.of (Zf9 hy55) ?_
  refine zX2 c57 c58 ?_
  exact Zc1 hz50 c57 c58
 exact Y4 [(vB z50)]
end Go.Proofs.Ytgpaglmhkklneaa
