/- Part BM1 of this seat's mirrors: functions of the seat's program, and the plain functions that they are; each theorem bears its own conditions. -/
import Derived.Test.YtgpaglmhkklneaaBE
namespace Go.Proofs.Ytgpaglmhkklneaa
open Go.RowKit
set_option linter.unusedVariables false
set_option linter.unusedSimpArgs false
set_option maxRecDepth 100000
set_option maxHeartbeats 4000000
attribute [local push_cast] Try.results16 Try.results17 Try.results18 Try.results19 Try.results29 Try.results30 Try.results31 Try.results32 Try.results4 Try.results43 Try.results44 Try.results45 Try.results46 Try.results49 Try.results5 Try.results50 Try.results51 Try.results52 Try.results61 Try.results65 Try.results7 Try.results72 vI vB nV sL oR Zi Za7 Yq Ze Gs Vh Zvu Zvt Zwm Zwl Y2 Ye Zrw Zl6 Zl5 onW Q0 Zgw Zfr Zus Zt1 Zps Zpw Zpr Zpv Zs6 Zs2 Zpu Zs5 Zs4 Zs3 Zpt Zs0 Zm6 evS wok Kb Op.operands Call.operands gop onK onP atK List.all_cons List.all_nil Bool.and_true Bool.true_and Bool.and_self Value.oneCell' List.take_zero List.take_succ_cons List.take_nil List.drop_zero List.drop_succ_cons List.drop_nil List.append_nil Nat.add_zero Nat.zero_add Zbj Yy ev Kr Zc3 Zvn Zvm Zvs Zvq Zvr Zvo Zvp Zvl Zu8 Zyp Z1q Zl9 Zgy Zla Zgx Zpc Zjb Zj7 Zkc Zl0 Zlw Zka Zlz Zly Zlx Zj9 Zlu Zj8 Zkb Ziv Zlv Zn1 Zl7 Zeh Zl8 Zei Zn0 Zl4 Zz2 bLo bHi bMx Zg0 Zny Z4b Zl3 Znz Ziw Zc4 Zyr Z4d Zl2 Zi8 Z4h Zgv Z5w Zr1 Zr5 Zr0 Zr4 Zv9 Zv5 Zv3 Zpe Zr2 Zv8 Zv7 Zv6 Zr3 Zvz Zv2 Zvy Zv1 Z14 Z1z Z1y Zv0 Z12 Z13 Zv4 Znp gone Zsr Zmt Zms pop TK.isAgg Zwf Zwj Zwe Zwi Zsj Z2n Z2j Zwh Z2m Z2l Z2k Zwg Z2i G.under G.unders List.getD_cons_zero List.getD_cons_succ List.set_cons_zero List.set_cons_succ List.map_cons List.map_nil List.toList_toArray Array.toList_append Option.toArray_none Option.toArray_some Array.toList_map Option.map_some Option.map_none Option.bind_some Option.bind_none List.getElem?_cons_zero List.getElem?_cons_succ List.getElem?_nil List.nil_append List.cons_append List.replicate_succ List.replicate_zero List.length_cons List.length_nil and_true true_and and_false false_and Bool.true_eq_false Bool.false_eq_true forall_const false_implies implies_true IntKind.bits if_true if_false ite_true ite_false eq_self true_implies false_or or_false or_true true_or not_true_eq_false not_false_eq_true decide_true decide_false decide_eq_true_eq decide_eq_false_iff_not beq_iff_eq bne_iff_ne ne_eq Bool.not_eq_true Bool.not_eq_false beq_eq_false_iff_ne bne_eq_false_iff_eq beq_self_eq_true bne_self_eq_false Option.some.injEq exists_eq_left' exists_eq_left ge_iff_le gt_iff_lt decide_not Bool.not_true Bool.not_false imp_self Z1s cond_true cond_false Ycm Ycl Bool.not_not Bool.and_false Bool.false_and Bool.or_true Bool.true_or Bool.or_false Bool.false_or Kl Vq Vr Ka Yo Yc Option.join_some Nat.add_assoc Int.toNat_natCast eI eB eS eL Z5 Zlb Zke Zvx Zvv Zvw Z54 Z9d Zln Zkl Zwt Zwr Zws Z2h Zp5 Z0q Zqk Zzz Ziz Zyj List.length_append G.agg.injEq G.row.injEq G.ref.injEq G.val.injEq G.sl.injEq G.tup.injEq Value.int.injEq Value.bool.injEq Value.string.injEq List.cons.injEq exists_and_left exists_const List.flatten_cons List.flatten_nil Int.le_refl Nat.le_refl Xd Z6 Z8 Bool.not_eq_true' Bool.not_eq_false' Zx0 Zoq Z3p Z3u Z3o Z3t Z8s Z8n List.size_toArray Zue Zux G.ren G.rens Zzh Zjv Zwv Zvj Zvk Zs1 Z3v Zga G.fn.injEq Zto Ztp Zxz Z8o Ztn Z3s Z8r Z8q Z8p Z3q Z18 Z62 Option.join_none Z4 Zar undef Zn5 Arr.len Arr.put_eq Zlm Zpi Zmp Zkk Zwq Zwo Zwp onB Z53 Zyo Zsw Zo9 Zq7 Zq8 Zq9 Zra Zrb Zrc Zpf Zpl Zpj Zmr Zkm Zpk Zsq Zsp Zso Zsn Z9c Ya9 Z2g Z0a Zdf Z2a Zr7 Zpm Zmq Z4y Zu0 Zl1 Znx Zh7 Zoi Zrd Zre Zrf Zrg Zou Zov Zow Zox Zoy Zoz Zo0 Zo1 Zo2 Zo3 Zo4 Zo5 Zo6 Zip prT Zj1 Ydr Z3e Z9p Z3f Yds Z3g Z3d Z3h Ydt Z3i Ydu Z3j Ydv Z3k Ydw Z3l Z7q Zwz Z7r Zw0 Z7s Zw1 Z7t Zw2 Z7u Zw3 Z7v Zw4 Z7w Zw5 Z7x Zw6 Z7y Zw7 Z7z Zw8 Z70 Zw9 Z71 Zpy Z08 Zf1 Z72 Zxa Up Zxb Z73 Zpz Z74 Zxc Z75 Zxd Z76 Zxe Z77 Zxf Z78 Zxg Ziu Zxh Z79 Zxi Z8a Zxj Z8b Zxk Zhf Zxl Z8c Zxm Zu1 Zxn Z8d Zxo Z8e Zxp Z8f Zxq Zon Zxr Z8g Zxs Zhg Zxt Z8h Zxu Z8i Zxv Z8j Zxw Z09 Ztm Z8k Zxx Z8l Zxy Z20 Zs9 Z21 Zta Z22 Ztb Z23 Ztc Z24 Ztd Z25 Zte Z26 Ztf Z27 Ztg Z28 Zth Z29 Zti Z3a Ztj Z3b Ztk Z3c Ztl Za Yx Znf Znd Zmc Zmo Znh Zku Zkr Zkp Zna Zfh Zff Ze4 Ze9 Zfj Zea Zd8 Zd6 Zfd Zne Znc Zmb Zmn Zng Zkt Zkq Zko Zm9 Zh Zd Zk Zg Xw Xe Qr Yb Zb6 Zb4 Zbk Zbx Zb8 Za0 Zax Zav Zb1 Zco Zcn Zck Zcl Zcp Zb3 Zb0 Zbz Zcm Zhk Zhj Zg4 Zha Zhl Zf2 Zf0 Zfz Zhi Zfg Zfe Ze3 Ze8 Zfi Zd9 Zd7 Zd5 Zfc Yn Zb7 Zb5 Zbl Zby Zb9 Za1 Zay Zaw Zb2 Yj Za3 Za2 Zas Zau Za4 Gn Gm Gl Zaz U3 U2 Us Uz U5 Ud Uc Ub U1 Zp2 Zp1 Zpd Zph Zp3 Znb Zmx Zmw Zp0 Zci
def Zge (Qy : (Zb → Int → Int → Option Int)) : Prop := ∀ {a0 : Zb} {a1 : Int} {a2 : Int} {r : Int} {O : Objs} {n : Nat}, Qy a0 a1 a2 = some r → GTo Try.prog 16 [.agg (Ze a0), (vI a1), (vI a2)] O n ((vI r)) O n
theorem Zmm {Qy : (Zb → Int → Int → Option Int)} (Zlk : Zge Qy) {a0 : Zb} {a1 : Int} {a2 : Int} {r : Int} {O : Objs} {n : Nat} (h : Qv Qy a0 a1 a2 = some r) : GTo Try.prog 16 [.agg (Ze a0), (vI a1), (vI a2)] O n ((vI r)) O n := by
 unfold Qv at h
 refine zFn Try.call16 Try.func16 fun hU hN0 hN => ?_
 show W _ _ _ _ ⟨41, [], [(0, .agg (Ze a0)), (1, (vI a1)), (2, (vI a2))]⟩ (Zv O n []) _
 refine zQ [1, 2, 3] ?_
 refine zQ [1, 2, 3] ?_
 refine Zl ?_
 refine zQD [1, 2, 3, 19] [none, none] ?_
 refine Zs (t := (cond (a1 == 0) true (decide ((IntKind.i64.wrap ((IntKind.i64.wrap (a2 - 1)) - (a0.Words.length : Int))) < 0)))) rfl (fun c5 => ?_) (fun c5 => ?_)
 ·replace h := Zr c5 h
  refine zQ [6] ?_
  exact Y4 [(vI (-1))]
 replace h := Zq c5 h
 refine Jq [1, 2, 3] [true] ?_
 refine Zl ?_
 refine zQd [1, 2, 3, 7] [1, 2, 3, 7] [true] ?_
 obtain ⟨z4, hz4, h⟩ := bC h
 refine Yu (E' := ⟨41, [], [(2, (vI z4))]⟩) (O' := (Zv O n [none])) (n0 := (n + 1)) ?_ ?_
 ·refine Y9 hz4 (fun s0_ => ⟨41, [], [(1, (vI a1)), (2, (vI s0_.1)), (3, .ref n 0), (7, (vI s0_.2))]⟩) (fun s0_ => (Zv O n [some ⟨false, 25, 3, 1, (Ze a0)⟩])) (fun z4 => JX 0 n (⟨41, [], [(2, (vI z4))]⟩ : Env) (Zv O n [none]) (n + 1)) ?_
  intro s0_ x0_ hs0_
  unfold Qp at hs0_
  try dsimp only
  refine Zl ?_
  refine zQD [1, 2, 3, 7, 28] [none, none] ?_
  refine Zs (t := (cond (decide (s0_.2 < (a0.Kids.length : Int))) (decide (0 ≤ s0_.1)) false)) rfl (fun c3 => ?_) (fun c3 => ?_)
  ·replace hs0_ := Zr c3 hs0_
   refine Jq [1, 2, 3, 7] [true] ?_
   refine Zl ?_
   refine Yl ?_
   obtain ⟨x1, hx1, ax1, bx1, cx1, hs0_⟩ := bE (f := Za) Up (fun _ => rfl) (by decide) hs0_
   obtain ⟨y2, hy2, hs0_⟩ := bC hs0_
   refine Zc2 [] ax1 bx1 cx1 ?_
   refine (Zlk hy2).then ?_
   refine zF3 ax1 bx1 cx1 ?_
   refine zD [1, 2, 3, 7] [true] ?_
   refine zR ?_
   exact zEn hs0_
  replace hs0_ := Zq c3 hs0_
  exact zEx hs0_
 try simp only [Y2, Ye, ↓reduceIte, Nat.reduceEqDiff]
 refine zD [2] [false] ?_
 refine zQ [6] ?_
 exact Y4 [(vI z4)]
theorem Zkw : ∀ k, (Zge (Y5 k)) := fun k => by
 induction k with
 | zero => exact @fun a0 a1 a2 r O n h => (nomatch (show (none : Option _) = some _ from h))
 | succ k ih => exact @fun a0 a1 a2 r O n h => Zmm (ih)  h
theorem Zat {a0 : Zb} {a1 : Int} {a2 : Int} {r : Int} {O : Objs} {n : Nat} (h : Qx a0 a1 a2 = some r) : GTo Try.prog 16 [.agg (Ze a0), (vI a1), (vI a2)] O n ((vI r)) O n := by
 obtain ⟨k, hk⟩ := Zaf h
 exact (Zkw k)  hk
theorem Uw {a0 : Zb} {r : Bool} {O : Objs} {n : Nat} (h : Jo a0 = some r) : GTo Try.prog 4 [.agg (Ze a0)] O n ((vB r)) O n := by
 unfold Jo at h
 refine zFn Try.call4 Try.func4 fun hU hN0 hN => ?_
 show W _ _ _ _ ⟨6, [], [(0, .agg (Ze a0))]⟩ (Zv O n []) _
 refine zQ [1] ?_
 refine Zl ?_
 obtain ⟨y2, hy2, h⟩ := bC h
 refine zCd (Zat hy2) [2] [false] ?_
 exact Y4 [(vB (decide (0 ≤ y2)))]
theorem Zqa {a0 : Int} {r : Int} {O : Objs} {n : Nat} (h : Zf4 a0 = some r) : GTo Try.prog 29 [(vI a0)] O n ((vI r)) O n := by
 unfold Zf4 at h
 refine zFn Try.call29 Try.func29 fun hU hN0 hN => ?_
 show W _ _ _ _ ⟨16, [], [(0, (vI a0))]⟩ (Zv O n []) _
 refine zQ [0] ?_
 refine Zl ?_
 refine zQ [3] ?_
 refine Yl ?_
 refine zQ [3, 4] ?_
 refine Zs (t := (a0 == 0)) rfl (fun c6 => ?_) (fun c6 => ?_)
 ·replace h := Zr c6 h
  refine zQ [2] ?_
  exact Y4 [(vI 0)]
 replace h := Zq c6 h
 refine zQ [3, 6] ?_
 refine Zs (t := (a0 == 1)) rfl (fun c5 => ?_) (fun c5 => ?_)
 ·replace h := Zr c5 h
  refine zQ [2] ?_
  exact Y4 [(vI 1)]
 replace h := Zq c5 h
 refine zQ [3, 8] ?_
 refine Zs (t := (a0 == 2)) rfl (fun c4 => ?_) (fun c4 => ?_)
 ·replace h := Zr c4 h
  refine zQ [2] ?_
  exact Y4 [(vI 8)]
 replace h := Zq c4 h
 refine zQ [3, 10] ?_
 refine Zs (t := (a0 == 3)) rfl (fun c3 => ?_) (fun c3 => ?_)
 ·replace h := Zr c3 h
  refine zQ [2] ?_
  exact Y4 [(vI 16)]
 replace h := Zq c3 h
 refine zQ [3, 12] ?_
 refine Zs (t := (a0 == 4)) rfl (fun c2 => ?_) (fun c2 => ?_)
 ·replace h := Zr c2 h
  refine zQ [2] ?_
  exact Y4 [(vI 32)]
 replace h := Zq c2 h
 refine zQ [14] ?_
 refine Zs (t := (a0 == 5)) rfl (fun c1 => ?_) (fun c1 => ?_)
 ·replace h := Zr c1 h
  refine zQ [2] ?_
  exact Y4 [(vI 64)]
 replace h := Zq c1 h
 refine Jq [] [] ?_
 refine zQ [2] ?_
 exact Y4 [(vI (-1))]
theorem Zjf {a0 : Int} {a1 : Int} {r : Bool} {O : Objs} {n : Nat} (h : Ut a0 a1 = some r) : GTo Try.prog 17 [(vI a0), .val (.int .u64 a1)] O n ((vB r)) O n := by
 unfold Ut at h
 refine zFn Try.call17 Try.func17 fun hU hN0 hN => ?_
 show W _ _ _ _ ⟨20, [], [(0, (vI a0)), (1, .val (.int .u64 a1))]⟩ (Zv O n []) _
 refine zQ [0, 1] ?_
 refine Zl ?_
 obtain ⟨y2, hy2, h⟩ := bC h
 refine zCd (Zqa hy2) [1, 5] [] ?_
 refine Zl ?_
 refine zQ [1, 5, 10] ?_
 refine Zs (t := (decide (y2 < 0))) rfl (fun c5 => ?_) (fun c5 => ?_)
 ·replace h := Zr c5 h
  refine zQ [4] ?_
  exact Y4 [(vB false)]
 replace h := Zq c5 h
 refine Jq [1, 5] [] ?_
 refine Zl ?_
 refine zQd [1, 5, 6] [1, 5, 6] [] ?_
 obtain ⟨z4, hz4, h⟩ := bC h
 refine Yu (E' := ⟨20, [], [(1, .val (.int .u64 z4))]⟩) (O' := (Zv O n [])) (n0 := n) ?_ ?_
 ·refine Y9 hz4 (fun s0_ => ⟨20, [], [(1, .val (.int .u64 s0_.1)), (5, (vI y2)), (6, (vI s0_.2))]⟩) (fun s0_ => (Zv O n [])) (fun z4 => JX 0 n (⟨20, [], [(1, .val (.int .u64 z4))]⟩ : Env) (Zv O n []) n) ?_
  intro s0_ x0_ hs0_
  unfold Qw at hs0_
  try dsimp only
  refine Zl ?_
  refine zQ [1, 5, 6, 13] ?_
  refine Zs (t := (decide (s0_.2 < y2))) rfl (fun c3 => ?_) (fun c3 => ?_)
  ·replace hs0_ := Zr c3 hs0_
   refine Jq [1, 5, 6] [] ?_
   refine Zl ?_
   refine Yl ?_
   refine zRd [1, 5, 6] [] ?_
   refine zR ?_
   exact zEn hs0_
  replace hs0_ := Zq c3 hs0_
  exact zEx hs0_
 try simp only [Y2, Ye, ↓reduceIte, Nat.reduceEqDiff]
 refine zD [1] [] ?_
 refine zQ [4] ?_
 exact Y4 [(vB (z4 == 0))]
def Zhn (Jj : (Zb → Int → Option Bool)) : Prop := ∀ {a0 : Zb} {a1 : Int} {r : Bool} {O : Objs} {n : Nat}, Jj a0 a1 = some r → GTo Try.prog 5 [.agg (Ze a0), (vI a1)] O n ((vB r)) O n
theorem Zoe {Jj : (Zb → Int → Option Bool)} (Znt : Zhn Jj) {a0 : Zb} {a1 : Int} {r : Bool} {O : Objs} {n : Nat} (h : Gv Jj a0 a1 = some r) : GTo Try.prog 5 [.agg (Ze a0), (vI a1)] O n ((vB r)) O n := by
 unfold Gv at h
 refine zFn Try.call5 Try.func5 fun hU hN0 hN => ?_
 show W _ _ _ _ ⟨132, [], [(0, .agg (Ze a0)), (1, (vI a1))]⟩ (Zv O n []) _
 refine zQ [1, 2] ?_
 refine Zl ?_
 refine zQ [1, 2, 10] ?_
 refine Zs (t := (a0.Kind == 0)) rfl (fun c32 => ?_) (fun c32 => ?_)
 ·replace h := Zr c32 h
  refine zQD [4] [none, none, none, none] ?_
  exact Y4 [(vB (cond ((a0.Words.length : Int) == 0) ((a0.Kids.length : Int) == 0) false))]
 replace h := Zq c32 h
 refine Jq [1, 2] [true] ?_
 refine Zl ?_
 refine zQ [1, 2, 23] ?_
 refine Zs (t := (a0.Kind == 10)) rfl (fun c31 => ?_) (fun c31 => ?_)
 ·replace h := Zr c31 h
  refine zQD [4] [none, none, none, none] ?_
  exact Y4 [(vB (cond ((a0.Words.length : Int) == 1) ((a0.Kids.length : Int) == 0) false))]
 replace h := Zq c31 h
 refine Jq [1, 2] [true] ?_
 refine Zl ?_
 refine zQD [1, 2, 68] [none, none, none, none, none, none, none, none, none, none, none, none, none, none, none, none, none, none, none, none, none, none] ?_
 refine Zs (t := (cond (cond (cond (cond (cond (decide (a0.Kind < 0)) true (decide (10 < a0.Kind))) true (a1 == 0)) true (decide (65536 ≤ (a0.Words.length : Int)))) true (cond (a0.Kind == 1) (decide (65536 ≤ (a0.Kids.length : Int))) false)) true (decide (1048576 ≤ (a0.Kids.length : Int))))) rfl (fun c30 => ?_) (fun c30 => ?_)
 ·replace h := Zr c30 h
  refine zQ [4] ?_
  exact Y4 [(vB false)]
 replace h := Zq c30 h
 refine Jq [1, 2] [true] ?_
 refine Zl ?_
 refine zQD [1, 2, 77] [none, none, none, none] ?_
 refine Zs (t := (cond (decide (1 < a0.Kind)) (decide (0 < (a0.Words.length : Int))) false)) rfl (fun c29 => ?_) (fun c29 => ?_)
 ·replace h := Zr c29 h
  refine zQ [4] ?_
  exact Y4 [(vB false)]
 replace h := Zq c29 h
 refine Jq [1, 2] [true] ?_
 refine Zl ?_
 refine zQd [1, 2, 5] [1, 2, 5] [true] ?_
 obtain ⟨z28, hz28, h⟩ := bC h
 refine Gu (J := (Xs (fun z28 => JR n (⟨132, [], [(4, (vB false))]⟩ : Env) (Zv O n [none]) (n + 1)) (fun z28 => JX 0 n (⟨132, [], []⟩ : Env) (Zv O n [none]) (n + 1)))) (z := z28) ?_ fun hw => ?_
 ·refine Y9 hz28 (fun s0_ => ⟨132, [], [(1, (vI a1)), (2, .ref n 0), (5, (vI s0_))]⟩) (fun s0_ => (Zv O n [some ⟨false, 25, 3, 1, (Ze a0)⟩])) (Xs (fun z28 => JR n (⟨132, [], [(4, (vB false))]⟩ : Env) (Zv O n [none]) (n + 1)) (fun z28 => JX 0 n (⟨132, [], []⟩ : Env) (Zv O n [none]) (n + 1))) ?_
  intro s0_ x0_ hs0_
  unfold Vu at hs0_
  try dsimp only
  refine Zl ?_
  refine zQ [1, 2, 5, 82] ?_
  refine Zs (t := (decide (s0_ < (a0.Kids.length : Int)))) rfl (fun c27 => ?_) (fun c27 => ?_)
  ·replace hs0_ := Zr c27 hs0_
   refine Jq [1, 2, 5] [true] ?_
   refine Zl ?_
   refine Yl ?_
   refine Zl ?_
   obtain ⟨x2, hx2, ax2, bx2, cx2, hs0_⟩ := bE (f := Za) Up (fun _ => rfl) (by decide) hs0_
   refine Zc2 [] ax2 bx2 cx2 ?_
   refine zDs [1, 2, 5, 6] [true, true] ?_
   refine Zl ?_
   obtain ⟨y4, hy4, hs0_⟩ := bC hs0_
   refine zCd (Znt hy4) [1, 2, 5, 6, 94] [true, true] ?_
   refine Zs (t := (!y4)) rfl (fun c26 => ?_) (fun c26 => ?_)
   ·replace hs0_ := Zr c26 hs0_
    refine zQ [4] ?_
    refine zW ?_
    exact zEy hs0_
   replace hs0_ := Zq c26 hs0_
   refine Jq [1, 2, 5, 6] [true, true] ?_
   refine zQD [1, 2, 5, 6, 7] [none, none, none] ?_
   obtain ⟨z9, hz9, hs0_⟩ := bC hs0_
   refine Y6 (E' := ⟨132, [], [(1, (vI a1)), (2, .ref n 0), (5, (vI s0_)), (131, (vB z9))]⟩) (O' := (Zv O n [some ⟨false, 25, 3, 1, (Ze a0)⟩, none])) (n0 := (n + 2)) ?_ ?_
   ·rcases Bool.eq_false_or_eq_true ((cond (decide (2 ≤ a0.Kind)) (decide (a0.Kind ≤ 7)) false) != (x2.Kind == 10)) with c18 | c18
    ·replace hz9 := Zr c18 hz9
     refine K9 Z0 (by kernel_rfl) [none, none, none, none, none, none, none, none, some false, some false, some false, some false, some false, some false, some false, some false, some false, some false, some false, some false] (by kernel_rfl) ?_
     refine zX1 c18 ?_
     refine zG ?_
     exact Jb hz9 c18
    replace hz9 := Zq c18 hz9
    rcases Bool.eq_false_or_eq_true (a0.Kind == 9) with c19 | c19
    ·replace hz9 := Zr c19 hz9
     try rw [c19] at c18
     try simp only [Bool.cond_true, Bool.cond_false, Bool.true_bne, Bool.false_bne, Bool.true_beq, Bool.false_beq, Bool.not_eq_true', Bool.not_eq_false'] at c18
     rcases Bool.eq_false_or_eq_true (x2.Kind != 1) with c20 | c20
     ·replace hz9 := Zr c20 hz9
      try rw [c20] at c18
      try rw [c20] at c19
      try simp only [Bool.cond_true, Bool.cond_false, Bool.true_bne, Bool.false_bne, Bool.true_beq, Bool.false_beq, Bool.not_eq_true', Bool.not_eq_false'] at c18
      refine K9 Z0 (by kernel_rfl) [none, none, none, none, none, none, none, none, some false, some false, some false, some false, some false, some false, some false, some false, some false, some false, some false, some false] (by kernel_rfl) ?_
      refine zX3 c18 c19 c20 ?_
      refine zG ?_
      exact Zj0 hz9 c18 c19 c20
     replace hz9 := Zq c20 hz9
     try rw [c20] at c18
     try rw [c20] at c19
     try simp only [Bool.cond_true, Bool.cond_false, Bool.true_bne, Bool.false_bne, Bool.true_beq, Bool.false_beq, Bool.not_eq_true', Bool.not_eq_false'] at c18
     rcases Bool.eq_false_or_eq_true (decide (2 ≤ a0.Kind)) with c21 | c21
     ·replace hz9 := Zr c21 hz9
      try rw [c21] at c18
      try rw [c21] at c19
      try rw [c21] at c20
      try simp only [Bool.cond_true, Bool.cond_false, Bool.true_bne, Bool.false_bne, Bool.true_beq, Bool.false_beq, Bool.not_eq_true', Bool.not_eq_false'] at c18
      rcases Bool.eq_false_or_eq_true (decide (a0.Kind ≤ 7)) with c22 | c22
      ·replace hz9 := Zr c22 hz9
       try rw [c22] at c18
       try rw [c22] at c19
       try rw [c22] at c20
       try rw [c22] at c21
       try simp only [Bool.cond_true, Bool.cond_false, Bool.true_bne, Bool.false_bne, Bool.true_beq, Bool.false_beq, Bool.not_eq_true', Bool.not_eq_false'] at c18
       obtain ⟨x14, hx14, ax14, bx14, cx14, hz9⟩ := bE (f := (eI .u64)) Zhf (fun _ => rfl) (by decide) hz9
       obtain ⟨y15, hy15, hz9⟩ := bC hz9
       refine K9 Z0 (by kernel_rfl) [none, none, none, none, none, none, none, none, some true, some true, some true, some true, some true, some true, some true, some true, some true, some true, some true, some true] (by kernel_rfl) ?_
       refine zF8 c18 c19 c20 c21 c22 ax14 bx14 cx14 ?_
       refine zG ?_
       refine PCall.of (Zjf hy15) ?_
       refine zF8 c18 c19 c20 c21 c22 ax14 bx14 cx14 ?_
       refine zG ?_
       exact Yes hz9 c18 c19 c20 c21 c22 ax14 bx14 cx14
      replace hz9 := Zq c22 hz9
      try rw [c22] at c18
      try rw [c22] at c19
      try rw [c22] at c20
      try rw [c22] at c21
      try simp only [Bool.cond_true, Bool.cond_false, Bool.true_bne, Bool.false_bne, Bool.true_beq, Bool.false_beq, Bool.not_eq_true', Bool.not_eq_false'] at c18
      refine K9 Z0 (by kernel_rfl) [none, none, none, none, none, none, none, none, some true, some true, some false, some false, some false, some false, some false, some false, some false, some false, some false, some true] (by kernel_rfl) ?_
      refine zX5 c18 c19 c20 c21 c22 ?_
      refine zG ?_
      exact Zu5 hz9 c18 c19 c20 c21 c22
     replace hz9 := Zq c21 hz9
     try rw [c21] at c18
     try rw [c21] at c19
     try rw [c21] at c20
     try simp only [Bool.cond_true, Bool.cond_false, Bool.true_bne, Bool.false_bne, Bool.true_beq, Bool.false_beq, Bool.not_eq_true', Bool.not_eq_false'] at c18
     refine K9 Z0 (by kernel_rfl) [none, none, none, none, none, none, none, none, some true, some true, some false, some false, some false, some false, some false, some false, some false, some false, some false, some true] (by kernel_rfl) ?_
     refine zX4 c18 c19 c20 c21 ?_
     refine zG ?_
     exact Zor hz9 c18 c19 c20 c21
    replace hz9 := Zq c19 hz9
    try rw [c19] at c18
    try simp only [Bool.cond_true, Bool.cond_false, Bool.true_bne, Bool.false_bne, Bool.true_beq, Bool.false_beq, Bool.not_eq_true', Bool.not_eq_false'] at c18
    rcases Bool.eq_false_or_eq_true (decide (2 ≤ a0.Kind)) with c23 | c23
    ·replace hz9 := Zr c23 hz9
     try rw [c23] at c18
     try rw [c23] at c19
     try simp only [Bool.cond_true, Bool.cond_false, Bool.true_bne, Bool.false_bne, Bool.true_beq, Bool.false_beq, Bool.not_eq_true', Bool.not_eq_false'] at c18
     rcases Bool.eq_false_or_eq_true (decide (a0.Kind ≤ 7)) with c24 | c24
     ·replace hz9 := Zr c24 hz9
      try rw [c24] at c18
      try rw [c24] at c19
      try rw [c24] at c23
      try simp only [Bool.cond_true, Bool.cond_false, Bool.true_bne, Bool.false_bne, Bool.true_beq, Bool.false_beq, Bool.not_eq_true', Bool.not_eq_false'] at c18
      obtain ⟨x16, hx16, ax16, bx16, cx16, hz9⟩ := bE (f := (eI .u64)) Zhf (fun _ => rfl) (by decide) hz9
      obtain ⟨y17, hy17, hz9⟩ := bC hz9
      refine K9 Z0 (by kernel_rfl) [none, none, none, none, none, none, none, none, some true, some true, some true, some true, some true, some true, some true, some true, some true, some true, some true, some true] (by kernel_rfl) ?_
      refine zF7 c18 c19 c23 c24 ax16 bx16 cx16 ?_
      refine zG ?_
      refine PCall.of (Zjf hy17) ?_
      refine zF7 c18 c19 c23 c24 ax16 bx16 cx16 ?_
      refine zG ?_
      exact Yer hz9 c18 c19 c23 c24 ax16 bx16 cx16
     replace hz9 := Zq c24 hz9
     try rw [c24] at c18
     try rw [c24] at c19
     try rw [c24] at c23
     try simp only [Bool.cond_true, Bool.cond_false, Bool.true_bne, Bool.false_bne, Bool.true_beq, Bool.false_beq, Bool.not_eq_true', Bool.not_eq_false'] at c18
     refine K9 Z0 (by kernel_rfl) [none, none, none, none, none, none, none, none, some true, some true, some false, some false, some false, some false, some false, some false, some false, some false, some false, some true] (by kernel_rfl) ?_
     refine zX4 c18 c19 c23 c24 ?_
     refine zG ?_
     exact Zor hz9 c18 c19 c23 c24
    replace hz9 := Zq c23 hz9
    try rw [c23] at c18
    try rw [c23] at c19
    try simp only [Bool.cond_true, Bool.cond_false, Bool.true_bne, Bool.false_bne, Bool.true_beq, Bool.false_beq, Bool.not_eq_true', Bool.not_eq_false'] at c18
    refine K9 Z0 (by kernel_rfl) [none, none, none, none, none, none, none, none, some true, some true, some false, some false, some false, some false, some false, some false, some false, some false, some false, some true] (by kernel_rfl) ?_
    refine zX3 c18 c19 c23 ?_
    refine zG ?_
    exact Zj0 hz9 c18 c19 c23
   refine Zs (t := z9) rfl (fun c25 => ?_) (fun c25 => ?_)
   ·replace hs0_ := Zr c25 hs0_
    refine zQ [4] ?_
    refine zW ?_
    exact zEy hs0_
   replace hs0_ := Zq c25 hs0_
   refine Jq [1, 2, 5] [true, false] ?_
   refine zR ?_
   exact zEn hs0_
  replace hs0_ := Zq c27 hs0_
  exact zEx hs0_
 rcases z28 with z28 | z28
 ·dsimp only [Xs] at hw h
  refine Jc hw ?_
  try simp only [Y2, Ye, ↓reduceIte, Nat.reduceEqDiff]
  exact Ziy [(vB false)]
 dsimp only [Xs] at hw h
 refine Yu hw ?_
 try simp only [Y2, Ye, ↓reduceIte, Nat.reduceEqDiff]
 refine zD [] [false] ?_
 refine zQ [4] ?_
 exact Y4 [(vB true)]
theorem Zmd : ∀ k, (Zhn (Jt k)) := fun k => by
 induction k with
 | zero => exact @fun a0 a1 r O n h => (nomatch (show (none : Option _) = some _ from h))
 | succ k ih => exact @fun a0 a1 r O n h => Zoe (ih)  h
theorem Gi {a0 : Zb} {a1 : Int} {r : Bool} {O : Objs} {n : Nat} (h : V2 a0 a1 = some r) : GTo Try.prog 5 [.agg (Ze a0), (vI a1)] O n ((vB r)) O n := by
 obtain ⟨k, hk⟩ := Zaf h
 exact (Zmd k)  hk
theorem Zmk {a0 : Int} {r : Bool} {O : Objs} {n : Nat} (h : Zen a0 = some r) : GTo Try.prog 44 [(vI a0)] O n ((vB r)) O n := by
 unfold Zen at h
 refine zFn Try.call44 Try.func44 fun hU hN0 hN => ?_
 show W _ _ _ _ ⟨9, [], [(0, (vI a0))]⟩ (Zv O n []) _
 refine zQ [0] ?_
 refine zQD [2] [none, none] ?_
 exact Y4 [(vB (cond (decide (2 ≤ a0)) (decide (a0 ≤ 9)) false))]
theorem Zjk {a0 : (List Zb)} {r : Bool} {O : Objs} {n : Nat} (h : Zbs a0 = some r) : GTo Try.prog 45 [(sL Za a0)] O n ((vB r)) O n := by
 unfold Zbs at h
 refine zFn Try.call45 Try.func45 fun hU hN0 hN => ?_
 show W _ _ _ _ ⟨15, [], [(0, (sL Za a0))]⟩ (Zv O n []) _
 refine zQ [0] ?_
 refine Zl ?_
 refine zQd [5, 6, 7] [5, 6, 7] [] ?_
 obtain ⟨z5, hz5, h⟩ := bC h
 refine Gu (J := (Xs (fun z5 => JR n (⟨15, [], [(2, (vB false))]⟩ : Env) (Zv O n []) n) (fun z5 => JX 0 n (⟨15, [], []⟩ : Env) (Zv O n []) n))) (z := z5) ?_ fun hw => ?_
 ·refine Y9 hz5 (fun s0_ => ⟨15, [], [(5, (sL Za a0)), (6, (vI (a0.length : Int))), (7, (vI s0_))]⟩) (fun s0_ => (Zv O n [])) (Xs (fun z5 => JR n (⟨15, [], [(2, (vB false))]⟩ : Env) (Zv O n []) n) (fun z5 => JX 0 n (⟨15, [], []⟩ : Env) (Zv O n []) n)) ?_
  intro s0_ x0_ hs0_
  unfold Um at hs0_
  try dsimp only
  refine zQ [5, 6, 7, 8] ?_
  refine Zl ?_
  refine Zs (t := (decide (s0_ < (a0.length : Int)))) rfl (fun c4 => ?_) (fun c4 => ?_)
  ·replace hs0_ := Zr c4 hs0_
   refine Jq [5, 6, 7] [] ?_
   refine Zl ?_
   refine Yl ?_
   refine Zl ?_
   obtain ⟨x2, hx2, ax2, bx2, cx2, hs0_⟩ := bE (f := Za) Up (fun _ => rfl) (by decide) hs0_
   refine Zc2 [] ax2 bx2 cx2 ?_
   refine zD [4, 5, 6, 7] [true] ?_
   refine zQ [5, 6, 7, 13] ?_
   refine Zs (t := (x2.Kind != 1)) rfl (fun c3 => ?_) (fun c3 => ?_)
   ·replace hs0_ := Zr c3 hs0_
    refine zQ [2] ?_
    refine zW ?_
    exact zEy hs0_
   replace hs0_ := Zq c3 hs0_
   refine Jq [5, 6, 7] [false] ?_
   refine zR ?_
   exact zEn hs0_
  replace hs0_ := Zq c4 hs0_
  exact zEx hs0_
 rcases z5 with z5 | z5
 ·dsimp only [Xs] at hw h
  refine Jc hw ?_
  try simp only [Y2, Ye, ↓reduceIte, Nat.reduceEqDiff]
  exact Ziy [(vB false)]
 dsimp only [Xs] at hw h
 refine Yu hw ?_
 try simp only [Y2, Ye, ↓reduceIte, Nat.reduceEqDiff]
 refine zD [] [] ?_
 refine zQ [2] ?_
 exact Y4 [(vB true)]
theorem Zz8 {a0 : Int} {r : (Int × Bool)} {O : Objs} {n : Nat} (h : Zmj a0 = some r) : GTo Try.prog 72 [(vI a0)] O n (.tup [(vI r.1), (vB r.2)]) O n := by
 unfold Zmj at h
 refine zFn Try.call72 Try.func72 fun hU hN0 hN => ?_
 show W _ _ _ _ ⟨15, [], [(0, (vI a0))]⟩ (Zv O n []) _
 refine zQ [0] ?_
 refine Zl ?_
 obtain ⟨y6, hy6, ey6, h⟩ := bY (f := (eI .i64)) (cs := [.val (.int .i64 0), .val (.int .i64 1), .val (.int .i64 8), .val (.int .i64 16), .val (.int .i64 32), .val (.int .i64 64)]) rfl h
 have g7 := congrArg G.agg ey6
 obtain ⟨y8, hy8, ey8, h⟩ := bY (f := (eI .i64)) (cs := [.val (.int .i64 0), .val (.int .i64 0), .val (.int .i64 0), .val (.int .i64 0), .val (.int .i64 0), .val (.int .i64 0)]) rfl h
 have g9 := congrArg (GObj.mk false 108 6 1) ey8
 have g10 := Zja (f := (eI .i64)) y8 y6 (fun _ => rfl)
 refine Zgh [] g7 g9 g10 ?_
 refine zDs [0, 4] [true] ?_
 refine zQD [0, 4, 11] [none, none] ?_
 refine Zs (t := (cond (decide (a0 < 0)) true (decide (6 ≤ a0)))) rfl (fun c13 => ?_) (fun c13 => ?_)
 ·replace h := Zr c13 h
  refine zQ [2, 3] ?_
  exact Y4 [(vI 0), (vB false)]
 replace h := Zq c13 h
 refine Jq [0, 4] [true] ?_
 obtain ⟨x12, hx12, ax12, bx12, cx12, h⟩ := bEA (f := (eI .i64)) (b := 6) rfl Z9p (fun _ => rfl) (by decide) h
 refine Zno [2, 3] (Ys Z0 [] ?_)
 refine zF3 ax12 bx12 cx12 ?_
 exact Y4 [(vI x12), (vB true)]
theorem Z2f {a0 : Int} {a1 : Int} {r : Bool} {O : Objs} {n : Nat} (h : Zie a0 a1 = some r) : GTo Try.prog 61 [(vI a0), .val (.int .u64 a1)] O n ((vB r)) O n := by
 unfold Zie at h
 refine zFn Try.call61 Try.func61 fun hU hN0 hN => ?_
 show W _ _ _ _ ⟨19, [], [(0, (vI a0)), (1, .val (.int .u64 a1))]⟩ (Zv O n []) _
 refine zQ [0, 1] ?_
 refine Zl ?_
 obtain ⟨y2, hy2, h⟩ := bC h
 refine zCd (Zz8 hy2) [1, 5, 6] [] ?_
 obtain ⟨z4, hz4, h⟩ := bC h
 refine Y6 (E' := ⟨19, [], [(4, (vB z4))]⟩) (O' := (Zv O n [])) (n0 := n) ?_ ?_
 ·rcases Bool.eq_false_or_eq_true y2.2 with c7 | c7
  ·replace hz4 := Zr c7 hz4
   obtain ⟨pu6, hz4⟩ := bG hz4
   refine Ys Z0 [some true, some true, some true, some true] ?_
   simp only [push_cast, seval, ↓reduceIte, Zf, c7, pu6, hN0, hN]
   obtain rfl := sI hz4
   refine And.intro rfl (Fit2.of (Yw hU rfl rfl ?_) (by omega))
   simp only [push_cast, seval, ↓reduceIte, Zf, c7, pu6, hN0, hN]
  replace hz4 := Zq c7 hz4
  refine K6 [some false, some false, some false, some false] c7 ?_
  exact Jb hz4 c7
 exact Y4 [(vB z4)]
def Zdn (Xq : (Zb → Option Bool)) : Prop := ∀ {a0 : Zb} {r : Bool} {O : Objs} {n : Nat}, Xq a0 = some r → GTo Try.prog 18 [.agg (Ze a0)] O n ((vB r)) O n
def Zdo (Xo : (Zb → Int → Option Bool)) : Prop := ∀ {a0 : Zb} {a1 : Int} {r : Bool} {O : Objs} {n : Nat}, Xo a0 a1 = some r → GTo Try.prog 30 [.agg (Ze a0), (vI a1)] O n ((vB r)) O n
def Zan (Y3 : ((List Zb) → Int → Option Bool)) : Prop := ∀ {a0 : (List Zb)} {a1 : Int} {r : Bool} {O : Objs} {n : Nat}, Y3 a0 a1 = some r → GTo Try.prog 43 [(sL Za a0), (vI a1)] O n ((vB r)) O n
def Zam (Xb : ((List Zb) → Int → Option Bool)) : Prop := ∀ {a0 : (List Zb)} {a1 : Int} {r : Bool} {O : Objs} {n : Nat}, Xb a0 a1 = some r → GTo Try.prog 46 [(sL Za a0), (vI a1)] O n ((vB r)) O n
theorem Zzc {Xq : (Zb → Option Bool)} {Xo : (Zb → Int → Option Bool)} {Y3 : ((List Zb) → Int → Option Bool)} {Xb : ((List Zb) → Int → Option Bool)} (Zdq : Zdn Xq) (Zdr : Zdo Xo) (V6 : Zan Y3) (Zde : Zam Xb) {a0 : Zb} {r : Bool} {O : Objs} {n : Nat} (h : Zgo Xq Xo Y3 Xb a0 = some r) : GTo Try.prog 18 [.agg (Ze a0)] O n ((vB r)) O n := by
 unfold Zgo at h
 refine zFn Try.call18 Try.func18 fun hU hN0 hN => ?_
 show W _ _ _ _ ⟨18, [], [(0, .agg (Ze a0))]⟩ (Zv O n []) _
 refine zQ [1] ?_
 refine Zl ?_
 refine zQ [1, 5] ?_
 refine Zs (t := (a0.Kind == 10)) rfl (fun c3 => ?_) (fun c3 => ?_)
 ·replace h := Zr c3 h
  refine zQD [2] [none, none, none, none] ?_
  exact Y4 [(vB (cond ((a0.Words.length : Int) == 1) ((a0.Kids.length : Int) == 0) false))]
 replace h := Zq c3 h
 refine Jq [1] [true] ?_
 refine Zl ?_
 obtain ⟨y2, hy2, h⟩ := bC h
 refine zCd (Zdr hy2) [2] [false] ?_
 exact Y4 [(vB y2)]
theorem Zzd {Xq : (Zb → Option Bool)} {Xo : (Zb → Int → Option Bool)} {Y3 : ((List Zb) → Int → Option Bool)} {Xb : ((List Zb) → Int → Option Bool)} (Zdq : Zdn Xq) (Zdr : Zdo Xo) (V6 : Zan Y3) (Zde : Zam Xb) {a0 : Zb} {a1 : Int} {r : Bool} {O : Objs} {n : Nat} (h : Zgp Xq Xo Y3 Xb a0 a1 = some r) : GTo Try.prog 30 [.agg (Ze a0), (vI a1)] O n ((vB r)) O n := by
 unfold Zgp at h
 refine zFn Try.call30 Try.func30 fun hU hN0 hN => ?_
 show W _ _ _ _ ⟨83, [], [(0, .agg (Ze a0)), (1, (vI a1))]⟩ (Zv O n []) _
 refine zQ [1, 2] ?_
 refine Zl ?_
 refine zQ [1, 2, 7] ?_
 refine Zs (t := (a0.Kind == 0)) rfl (fun c26 => ?_) (fun c26 => ?_)
 ·replace h := Zr c26 h
  refine zQD [4] [none, none, none, none] ?_
  exact Y4 [(vB (cond ((a0.Words.length : Int) == 0) ((a0.Kids.length : Int) == 0) false))]
 replace h := Zq c26 h
 refine Jq [1, 2] [true] ?_
 refine Zl ?_
 refine zQ [1, 2, 19] ?_
 refine Zs (t := (a1 == 0)) rfl (fun c25 => ?_) (fun c25 => ?_)
 ·replace h := Zr c25 h
  refine zQ [4] ?_
  exact Y4 [(vB false)]
 replace h := Zq c25 h
 refine Jq [1, 2] [true] ?_
 refine Zl ?_
 refine zQ [1, 2, 22] ?_
 refine Zs (t := (a0.Kind == 1)) rfl (fun c24 => ?_) (fun c24 => ?_)
 ·replace h := Zr c24 h
  obtain ⟨z2, hz2, h⟩ := bC h
  refine Y6 (E' := ⟨83, [], [(4, (vB z2))]⟩) (O' := (Zv O n [none])) (n0 := (n + 1)) ?_ ?_
  ·rcases Bool.eq_false_or_eq_true (decide ((a0.Words.length : Int) < 65536)) with c5 | c5
   ·replace hz2 := Zr c5 hz2
    rcases Bool.eq_false_or_eq_true (decide ((a0.Kids.length : Int) < 65536)) with c6 | c6
    ·replace hz2 := Zr c6 hz2
     try rw [c6] at c5
     obtain ⟨y4, hy4, hz2⟩ := bC hz2
     refine J5 [none, none, none, none, some true, some true, some true, some true, some true] c5 c6 ?_
     refine zG ?_
     refine (V6 hy4).then ?_
     refine zX2 c5 c6 ?_
     refine zG ?_
     exact Zc1 hz2 c5 c6
    replace hz2 := Zq c6 hz2
    try rw [c6] at c5
    refine J5 [none, none, none, none, some false, some false, some false, some false, some false] c5 c6 ?_
    refine zG ?_
    exact Zc1 hz2 c5 c6
   replace hz2 := Zq c5 hz2
   refine K6 [none, none, none, none, some false, some false, some false, some false, some false] c5 ?_
   refine zG ?_
   exact Jb hz2 c5
  exact Y4 [(vB z2)]
 replace h := Zq c24 h
 refine Jq [1, 2] [true] ?_
 refine Zl ?_
 refine Zl ?_
 obtain ⟨y8, hy8, h⟩ := bC h
 refine zRo [none, none, none, none, none, none, none, none] ?_
 refine zG ?_
 refine zTs (Zmk hy8) ?_
 refine zG ?_
 refine zD [1, 2, 55] [true] ?_
 refine Zs (t := (cond (cond (!y8) true (decide (0 < (a0.Words.length : Int)))) true (decide (1048576 ≤ (a0.Kids.length : Int))))) rfl (fun c23 => ?_) (fun c23 => ?_)
 ·replace h := Zr c23 h
  refine zQ [4] ?_
  exact Y4 [(vB false)]
 replace h := Zq c23 h
 refine Jq [1, 2] [true] ?_
 refine Zl ?_
 refine zQ [1, 2, 57] ?_
 refine Yl ?_
 refine zQ [1, 2, 57, 58] ?_
 refine Zs (t := (a0.Kind == 8)) rfl (fun c22 => ?_) (fun c22 => ?_)
 ·replace h := Zr c22 h
  refine Zl ?_
  obtain ⟨y10, hy10, h⟩ := bC h
  refine zCd (V6 hy10) [4] [false] ?_
  exact Y4 [(vB y10)]
 replace h := Zq c22 h
 refine zQ [1, 2, 65] ?_
 refine Zs (t := (a0.Kind == 9)) rfl (fun c21 => ?_) (fun c21 => ?_)
 ·replace h := Zr c21 h
  obtain ⟨z13, hz13, h⟩ := bC h
  refine Y6 (E' := ⟨83, [], [(4, (vB z13))]⟩) (O' := (Zv O n [none])) (n0 := (n + 1)) ?_ ?_
  ·obtain ⟨y16, hy16, hz13⟩ := bC hz13
   rcases Bool.eq_false_or_eq_true y16 with c18 | c18
   ·replace hz13 := Zr c18 hz13
    obtain ⟨y17, hy17, hz13⟩ := bC hz13
    refine K6 [some true, some true, some true, some true, some true] c18 ?_
    refine (Zjk hy16).then ?_
    refine zX1 c18 ?_
    refine (V6 hy17).then ?_
    refine zX1 c18 ?_
    exact Jb hz13 c18
   replace hz13 := Zq c18 hz13
   refine K6 [some false, some false, some false, some false, some false] c18 ?_
   refine (Zjk hy16).then ?_
   refine zX1 c18 ?_
   exact Jb hz13 c18
  exact Y4 [(vB z13)]
 replace h := Zq c21 h
 refine Jq [2] [true] ?_
 refine Zl ?_
 obtain ⟨y20, hy20, h⟩ := bC h
 refine zCd (Zde hy20) [4] [false] ?_
 exact Y4 [(vB y20)]
theorem Zsi {Xq : (Zb → Option Bool)} {Xo : (Zb → Int → Option Bool)} {Y3 : ((List Zb) → Int → Option Bool)} {Xb : ((List Zb) → Int → Option Bool)} (Zdq : Zdn Xq) (Zdr : Zdo Xo) (V6 : Zan Y3) (Zde : Zam Xb) {a0 : (List Zb)} {a1 : Int} {r : Bool} {O : Objs} {n : Nat} (h : Zdk Xq Xo Y3 Xb a0 a1 = some r) : GTo Try.prog 43 [(sL Za a0), (vI a1)] O n ((vB r)) O n := by
 unfold Zdk at h
 refine zFn Try.call43 Try.func43 fun hU hN0 hN => ?_
 show W _ _ _ _ ⟨18, [], [(0, (sL Za a0)), (1, (vI a1))]⟩ (Zv O n []) _
 refine zQ [0, 1] ?_
 refine Zl ?_
 refine zQd [1, 7, 8, 9] [1, 7, 8, 9] [] ?_
 obtain ⟨z7, hz7, h⟩ := bC h
 refine Gu (J := (Xs (fun z7 => JR n (⟨18, [], [(4, (vB false))]⟩ : Env) (Zv O n []) n) (fun z7 => JX 0 n (⟨18, [], []⟩ : Env) (Zv O n []) n))) (z := z7) ?_ fun hw => ?_
 ·refine Y9 hz7 (fun s0_ => ⟨18, [], [(1, (vI a1)), (7, (sL Za a0)), (8, (vI (a0.length : Int))), (9, (vI s0_))]⟩) (fun s0_ => (Zv O n [])) (Xs (fun z7 => JR n (⟨18, [], [(4, (vB false))]⟩ : Env) (Zv O n []) n) (fun z7 => JX 0 n (⟨18, [], []⟩ : Env) (Zv O n []) n)) ?_
  intro s0_ x0_ hs0_
  unfold Zad at hs0_
  try dsimp only
  refine zQ [1, 7, 8, 9, 10] ?_
  refine Zl ?_
  refine Zs (t := (decide (s0_ < (a0.length : Int)))) rfl (fun c6 => ?_) (fun c6 => ?_)
  ·replace hs0_ := Zr c6 hs0_
   refine Jq [1, 7, 8, 9] [] ?_
   refine Zl ?_
   refine Yl ?_
   refine Zl ?_
   obtain ⟨x2, hx2, ax2, bx2, cx2, hs0_⟩ := bE (f := Za) Up (fun _ => rfl) (by decide) hs0_
   refine Zc2 [] ax2 bx2 cx2 ?_
   refine zDs [1, 6, 7, 8, 9] [true] ?_
   obtain ⟨y4, hy4, hs0_⟩ := bC hs0_
   refine zCd (Zdr hy4) [1, 7, 8, 9, 16] [false] ?_
   refine Zs (t := (!y4)) rfl (fun c5 => ?_) (fun c5 => ?_)
   ·replace hs0_ := Zr c5 hs0_
    refine zQ [4] ?_
    refine zW ?_
    exact zEy hs0_
   replace hs0_ := Zq c5 hs0_
   refine Jq [1, 7, 8, 9] [false] ?_
   refine zR ?_
   exact zEn hs0_
  replace hs0_ := Zq c6 hs0_
  exact zEx hs0_
 rcases z7 with z7 | z7
 ·dsimp only [Xs] at hw h
  refine Jc hw ?_
  try simp only [Y2, Ye, ↓reduceIte, Nat.reduceEqDiff]
  exact Ziy [(vB false)]
 dsimp only [Xs] at hw h
 refine Yu hw ?_
 try simp only [Y2, Ye, ↓reduceIte, Nat.reduceEqDiff]
 refine zD [] [] ?_
 refine zQ [4] ?_
 exact Y4 [(vB true)]
theorem Zsh {Xq : (Zb → Option Bool)} {Xo : (Zb → Int → Option Bool)} {Y3 : ((List Zb) → Int → Option Bool)} {Xb : ((List Zb) → Int → Option Bool)} (Zdq : Zdn Xq) (Zdr : Zdo Xo) (V6 : Zan Y3) (Zde : Zam Xb) {a0 : (List Zb)} {a1 : Int} {r : Bool} {O : Objs} {n : Nat} (h : Zdj Xq Xo Y3 Xb a0 a1 = some r) : GTo Try.prog 46 [(sL Za a0), (vI a1)] O n ((vB r)) O n := by
 unfold Zdj at h
 refine zFn Try.call46 Try.func46 fun hU hN0 hN => ?_
 show W _ _ _ _ ⟨31, [], [(0, (sL Za a0)), (1, (vI a1))]⟩ (Zv O n []) _
 refine zQ [0, 1] ?_
 refine Zl ?_
 refine zQd [1, 7, 8, 9] [1, 7, 8, 9] [] ?_
 obtain ⟨z17, hz17, h⟩ := bC h
 refine Gu (J := (Xs (fun z17 => JR n (⟨31, [], [(4, (vB false))]⟩ : Env) (Zv O n []) n) (fun z17 => JX 0 n (⟨31, [], []⟩ : Env) (Zv O n []) n))) (z := z17) ?_ fun hw => ?_
 ·refine Y9 hz17 (fun s0_ => ⟨31, [], [(1, (vI a1)), (7, (sL Za a0)), (8, (vI (a0.length : Int))), (9, (vI s0_))]⟩) (fun s0_ => (Zv O n [])) (Xs (fun z17 => JR n (⟨31, [], [(4, (vB false))]⟩ : Env) (Zv O n []) n) (fun z17 => JX 0 n (⟨31, [], []⟩ : Env) (Zv O n []) n)) ?_
  intro s0_ x0_ hs0_
  unfold Zac at hs0_
  try dsimp only
  refine zQ [1, 7, 8, 9, 10] ?_
  refine Zl ?_
  refine Zs (t := (decide (s0_ < (a0.length : Int)))) rfl (fun c16 => ?_) (fun c16 => ?_)
  ·replace hs0_ := Zr c16 hs0_
   refine Jq [1, 7, 8, 9] [] ?_
   refine Zl ?_
   refine Yl ?_
   refine Zl ?_
   obtain ⟨x2, hx2, ax2, bx2, cx2, hs0_⟩ := bE (f := Za) Up (fun _ => rfl) (by decide) hs0_
   refine Zc2 [] ax2 bx2 cx2 ?_
   refine zD [1, 6, 7, 8, 9] [true] ?_
   obtain ⟨z6, hz6, hs0_⟩ := bC hs0_
   refine Y6 (E' := ⟨31, [], [(1, (vI a1)), (7, (sL Za a0)), (8, (vI (a0.length : Int))), (9, (vI s0_)), (29, (vB z6))]⟩) (O' := (Zv O n [none])) (n0 := (n + 1)) ?_ ?_
   ·rcases Bool.eq_false_or_eq_true (x2.Kind != 10) with c13 | c13
    ·replace hz6 := Zr c13 hz6
     refine K6 [some false, some false, some false, some false, some false, some false, some false, some false, some false, some false] c13 ?_
     exact Jb hz6 c13
    replace hz6 := Zq c13 hz6
    obtain ⟨y10, hy10, hz6⟩ := bC hz6
    rcases Bool.eq_false_or_eq_true y10 with c14 | c14
    ·replace hz6 := Zr c14 hz6
     try rw [c14] at c13
     obtain ⟨x11, hx11, ax11, bx11, cx11, hz6⟩ := bE (f := (eI .u64)) Zhf (fun _ => rfl) (by decide) hz6
     obtain ⟨y12, hy12, hz6⟩ := bC hz6
     refine Z8v [some true, some true, some true, some true, some true, some true, some true, some true, some true, some true] c13 c14 ax11 bx11 cx11 ?_
     refine (Zdq hy10).then ?_
     refine zF5 c13 c14 ax11 bx11 cx11 ?_
     refine (Z2f hy12).then ?_
     refine zF5 c13 c14 ax11 bx11 cx11 ?_
     exact Yeq hz6 c13 c14 ax11 bx11 cx11
    replace hz6 := Zq c14 hz6
    try rw [c14] at c13
    refine J5 [some true, some true, some true, some false, some false, some false, some false, some false, some false, some false] c13 c14 ?_
    refine (Zdq hy10).then ?_
    refine zX2 c13 c14 ?_
    exact Zc1 hz6 c13 c14
   refine Zs (t := z6) rfl (fun c15 => ?_) (fun c15 => ?_)
   ·replace hs0_ := Zr c15 hs0_
    refine zQ [4] ?_
    refine zW ?_
    exact zEy hs0_
   replace hs0_ := Zq c15 hs0_
   refine Jq [1, 7, 8, 9] [false] ?_
   refine zR ?_
   exact zEn hs0_
  replace hs0_ := Zq c16 hs0_
  exact zEx hs0_
 rcases z17 with z17 | z17
 ·dsimp only [Xs] at hw h
  refine Jc hw ?_
  try simp only [Y2, Ye, ↓reduceIte, Nat.reduceEqDiff]
  exact Ziy [(vB false)]
 dsimp only [Xs] at hw h
 refine Yu hw ?_
 try simp only [Y2, Ye, ↓reduceIte, Nat.reduceEqDiff]
 refine zD [] [] ?_
 refine zQ [4] ?_
 exact Y4 [(vB true)]
theorem Zt5 : ∀ k, (Zdn ((Zz k).1)) ∧ (Zdo ((Zz k).2.1)) ∧ (Zan ((Zz k).2.2.1)) ∧ (Zam ((Zz k).2.2.2)) := fun k => by
 induction k with
 | zero => exact ⟨@fun a0 r O n h => (nomatch (show (none : Option _) = some _ from h)), @fun a0 a1 r O n h => (nomatch (show (none : Option _) = some _ from h)), @fun a0 a1 r O n h => (nomatch (show (none : Option _) = some _ from h)), @fun a0 a1 r O n h => (nomatch (show (none : Option _) = some _ from h))⟩
 | succ k ih => exact ⟨@fun a0 r O n h => Zzc (ih.1) (ih.2.1) (ih.2.2.1) (ih.2.2.2)  h, @fun a0 a1 r O n h => Zzd (ih.1) (ih.2.1) (ih.2.2.1) (ih.2.2.2)  h, @fun a0 a1 r O n h => Zsi (ih.1) (ih.2.1) (ih.2.2.1) (ih.2.2.2)  h, @fun a0 a1 r O n h => Zsh (ih.1) (ih.2.1) (ih.2.2.1) (ih.2.2.2)  h⟩
theorem Zh6 {a0 : Zb} {r : Bool} {O : Objs} {n : Nat} (h : Ze6 a0 = some r) : GTo Try.prog 18 [.agg (Ze a0)] O n ((vB r)) O n := by
 obtain ⟨k, hk⟩ := Zaf h
 exact (Zt5 k).1  hk
theorem Zbw {a0 : (List Int)} {r : (List Int)} {O : Objs} {n : Nat} (h : V3 a0 = some r) : GTo Try.prog 31 [(sL (eI .u64) a0)] O n ((sL (eI .u64) r)) O n := by
 unfold V3 at h
 refine zFn Try.call31 Try.func31 fun hU hN0 hN => ?_
 show W _ _ _ _ ⟨22, [], [(0, (sL (eI .u64) a0))]⟩ (Zv O n []) _
 refine zQ [0] ?_
 refine zQ [0, 3] ?_
 refine Zl ?_
 refine zD [0, 3] [] ?_
 obtain ⟨z7, hz7, h⟩ := bC h
 refine Yu (E' := ⟨22, [], [(0, (sL (eI .u64) a0)), (3, (vI z7))]⟩) (O' := (Zv O n [])) (n0 := n) ?_ ?_
 ·refine Y9 hz7 (fun s0_ => ⟨22, [], [(0, (sL (eI .u64) a0)), (3, (vI s0_))]⟩) (fun s0_ => (Zv O n [])) (fun z7 => JX 0 n (⟨22, [], [(0, (sL (eI .u64) a0)), (3, (vI z7))]⟩ : Env) (Zv O n []) n) ?_
  intro s0_ x0_ hs0_
  unfold Gh at hs0_
  try dsimp only
  refine Zl ?_
  obtain ⟨z2, hz2, hs0_⟩ := bC hs0_
  refine Y6 (E' := ⟨22, [], [(0, (sL (eI .u64) a0)), (3, (vI s0_)), (15, (vB z2))]⟩) (O' := (Zv O n [])) (n0 := n) ?_ ?_
  ·rcases Bool.eq_false_or_eq_true (decide (0 < s0_)) with c5 | c5
   ·replace hz2 := Zr c5 hz2
    obtain ⟨x4, hx4, ax4, bx4, cx4, hz2⟩ := bE (f := (eI .u64)) Zhf (fun _ => rfl) (by decide) hz2
    refine Zzx [some true, some true, some true, some true, some true, some true] c5 ax4 bx4 cx4 ?_
    exact Ycc hz2 c5 ax4 bx4 cx4
   replace hz2 := Zq c5 hz2
   refine K6 [some false, some false, some false, some false, some false, some false] c5 ?_
   exact Jb hz2 c5
  refine Zs (t := z2) rfl (fun c6 => ?_) (fun c6 => ?_)
  ·replace hs0_ := Zr c6 hs0_
   refine Jq [0, 3] [] ?_
   refine Yl ?_
   refine zR ?_
   exact zEn hs0_
  replace hs0_ := Zq c6 hs0_
  exact zEx hs0_
 try simp only [Y2, Ye, ↓reduceIte, Nat.reduceEqDiff]
 refine zD [0, 3] [] ?_
 obtain ⟨l9, al9, bl9, cl9, gl9, h⟩ := bS3 (lo := none) (hi := (.i64, z7)) (f := (eI .u64)) rfl rfl Zpy Zhf (fun _ => rfl) h
 refine Yhi [2] al9 bl9 cl9 gl9 ?_
 exact Y4 [(sL (eI .u64) l9)]
theorem Zh0 {a0 : (List Zb)} {r : (List Zb)} {O : Objs} {n : Nat} (h : Ga a0 = some r) : GTo Try.prog 32 [(sL Za a0)] O n ((sL Za r)) O n := by
 unfold Ga at h
 refine zFn Try.call32 Try.func32 fun hU hN0 hN => ?_
 show W _ _ _ _ ⟨23, [], [(0, (sL Za a0))]⟩ (Zv O n []) _
 refine zQ [0] ?_
 refine zQ [0, 3] ?_
 refine Zl ?_
 refine zD [0, 3] [] ?_
 obtain ⟨z10, hz10, h⟩ := bC h
 refine Yu (E' := ⟨23, [], [(0, (sL Za a0)), (3, (vI z10))]⟩) (O' := (Zv O n [])) (n0 := n) ?_ ?_
 ·refine Y9 hz10 (fun s0_ => ⟨23, [], [(0, (sL Za a0)), (3, (vI s0_))]⟩) (fun s0_ => (Zv O n [])) (fun z10 => JX 0 n (⟨23, [], [(0, (sL Za a0)), (3, (vI z10))]⟩ : Env) (Zv O n []) n) ?_
  intro s0_ x0_ hs0_
  unfold Zak at hs0_
  try dsimp only
  refine Zl ?_
  obtain ⟨z3, hz3, hs0_⟩ := bC hs0_
  refine Y6 (E' := ⟨23, [], [(0, (sL Za a0)), (3, (vI s0_)), (16, (vB z3))]⟩) (O' := (Zv O n [])) (n0 := n) ?_ ?_
  ·rcases Bool.eq_false_or_eq_true (decide (0 < s0_)) with c8 | c8
   ·replace hz3 := Zr c8 hz3
    obtain ⟨x6, hx6, ax6, bx6, cx6, hz3⟩ := bE (f := Za) Up (fun _ => rfl) (by decide) hz3
    have g7 := Z5x (f := Za) (sz := 3) Z9p (fun _ => rfl) (by decide) (by decide) hx6
    refine Z8v [some true, some true, some true, some true, some true, some true, some true] c8 ax6 bx6 cx6 g7 ?_
    exact Yeq hz3 c8 ax6 bx6 cx6 g7
   replace hz3 := Zq c8 hz3
   refine K6 [some false, some false, some false, some false, some false, some false, some false] c8 ?_
   exact Jb hz3 c8
  refine Zs (t := z3) rfl (fun c9 => ?_) (fun c9 => ?_)
  ·replace hs0_ := Zr c9 hs0_
   refine Jq [0, 3] [] ?_
   refine Yl ?_
   refine zR ?_
   exact zEn hs0_
  replace hs0_ := Zq c9 hs0_
  exact zEx hs0_
 try simp only [Y2, Ye, ↓reduceIte, Nat.reduceEqDiff]
 refine zD [0, 3] [] ?_
 obtain ⟨l12, al12, bl12, cl12, gl12, h⟩ := bS3 (lo := none) (hi := (.i64, z10)) (f := Za) rfl rfl Zf1 Up (fun _ => rfl) h
 refine Yhi [2] al12 bl12 cl12 gl12 ?_
 exact Y4 [(sL Za l12)]
def Zoa (Zc8 : (Zb → Option Zb)) : Prop := ∀ {a0 : Zb} {r : Zb} {O : Objs} {n : Nat}, Zc8 a0 = some r → GTo Try.prog 19 [.agg (Ze a0)] O n (.agg (Ze r)) O n
theorem Zz9 {Zc8 : (Zb → Option Zb)} (Zy5 : Zoa Zc8) {a0 : Zb} {r : Zb} {O : Objs} {n : Nat} (h : Zh8 Zc8 a0 = some r) : GTo Try.prog 19 [.agg (Ze a0)] O n (.agg (Ze r)) O n := by
 unfold Zh8 at h
 refine zFn Try.call19 Try.func19 fun hU hN0 hN => ?_
 show W _ _ _ _ ⟨49, [], [(0, .agg (Ze a0))]⟩ (Zv O n []) _
 refine zQ [1, 2] ?_
 refine Zl ?_
 refine zQ [1, 2, 10] ?_
 refine Zs (t := (a0.Kind == 0)) rfl (fun c15 => ?_) (fun c15 => ?_)
 ·replace h := Zr c15 h
  refine Zl ?_
  refine zRd [2] [false, true] ?_
  exact Y4 [.agg [(vI 0), nV, nV]]
 replace h := Zq c15 h
 refine Jq [1, 2] [true, true] ?_
 refine Zno [1, 2, 3, 4] (K9 Z0 (by kernel_rfl) [] (by kernel_rfl) ?_)
 refine zS ?_
 obtain ⟨z1, hz1, h⟩ := bC h
 refine Y6 (E' := ⟨49, [], [(1, .ref n 0), (2, .ref (n + 1) 0), (3, (sL (eI .u64) z1.1)), (4, (sL Za z1.2))]⟩) (O' := (Zv O n [some ⟨false, 25, 3, 1, (Ze a0)⟩, some ⟨false, 25, 3, 1, [(vI 0), nV, nV]⟩])) (n0 := (n + 2)) ?_ ?_
 ·refine zQ [1, 2, 3, 4, 18] ?_
  refine Zs (t := (a0.Kind == 1)) rfl (fun c4 => ?_) (fun c4 => ?_)
  ·replace hz1 := Zr c4 hz1
   obtain ⟨y2, hy2, hz1⟩ := bC hz1
   obtain ⟨y3, hy3, hz1⟩ := bC hz1
   refine zC (Zbw hy2) ?_
   refine zTs (Zh0 hy3) ?_
   exact zEn hz1
  replace hz1 := Zq c4 hz1
  refine zK ?_
  exact zEn hz1
 refine Zl ?_
 refine zRd [2, 4, 5] [false, true, true] ?_
 obtain ⟨z5, hz5, h⟩ := bC h
 refine Y6 (E' := ⟨49, [], [(2, .ref (n + 1) 0), (4, (sL Za z1.2)), (5, .ref (n + 2) 0)]⟩) (O' := (Zv O n [none, some ⟨false, 25, 3, 1, [(vI 0), nV, nV]⟩, some ⟨false, 25, 3, 1, [(vI a0.Kind), (sL (eI .u64) z1.1), .row (n + 4) z5.length]⟩, none, some (oR 25 3 Za z5), none])) (n0 := (n + 6)) ?_ ?_
 ·refine zQ [2, 4, 5, 29] ?_
  refine Zs (t := (decide (0 < (z1.2.length : Int)))) rfl (fun c7 => ?_) (fun c7 => ?_)
  ·replace hz5 := Zr c7 hz5
   obtain ⟨l6, al6, bl6, cl6, el6, hz5⟩ := bM2 (c := 56) rfl hz5
   have nl6 : Int.toNat (z1.2.length : Int) = List.length l6 := by rw [el6, List.length_replicate]
   have fl6 : ∀ O O' n, wkl O O' n (List.replicate (List.length l6) [.val (.int .i64 0), .val (.slice none 0 0), .val (.slice none 0 0)]).flatten (fl Za l6) = True := fun O O' n => by rw [← nl6, el6]; exact eq_true (Z5h (by simp only [push_cast, seval, ↓reduceIte, Zf]) _)
   clear el6
   refine Ys Z0 [] ?_
   simp only [push_cast, seval, ↓reduceIte, Zf, al6, bl6, cl6, fl6, nl6, hN0, hN]
   obtain rfl := sI hz5
   refine And.intro rfl ?_
   refine Fit2.trans (E' := (⟨49, [], [(2, .ref (n + 1) 0), (4, (sL Za z1.2)), (5, .ref (n + 2) 0)]⟩ : Env)) (O' := (Zv O n [none, some ⟨false, 25, 3, 1, [(vI 0), nV, nV]⟩, some ⟨false, 25, 3, 1, [(vI a0.Kind), (sL (eI .u64) z1.1), .row (n + 3) l6.length]⟩, some (oR 25 3 Za l6)])) (n' := (n + 4)) (Fit2.of (Yw hU rfl rfl ?_) (by omega)) ?_
   ·simp only [push_cast, seval, ↓reduceIte, Zf, al6, bl6, cl6, fl6, nl6, hN0, hN]
   refine Q9 (k := 4) (k' := 6) hU [5, 1, 2, 4] [0, 1, 2, 0, 3, 0] rfl rfl rfl rfl ⟨rfl, rfl⟩ ?_
   exact zSe
  replace hz5 := Zq c7 hz5
  refine zK ?_
  obtain rfl := sI hz5
  refine And.intro rfl ?_
  refine Fit2.trans (E' := (⟨49, [], [(2, .ref (n + 1) 0), (4, (sL Za z1.2)), (5, .ref (n + 2) 0)]⟩ : Env)) (O' := (Zv O n [none, some ⟨false, 25, 3, 1, [(vI 0), nV, nV]⟩, some ⟨false, 25, 3, 1, [(vI a0.Kind), (sL (eI .u64) z1.1), nV]⟩])) (n' := (n + 3)) (Fit2.of (Yw hU rfl rfl ?_) (by omega)) ?_
  ·exact zSe
  refine Fit2.trans (Va (p := (n + 2)) (k := 2) (q := ⟨false, 25, 3, 1, [(vI a0.Kind), (sL (eI .u64) z1.1), nV]⟩) 25 3 (by simp only [Kl, Vq, List.getElem?_cons_zero, List.getElem?_cons_succ, Option.join_some, List.length_nil, Z4]) rfl (by omega)) ?_
  simp only [Yo, Yc, Vr, Ka, List.set_cons_zero, List.set_cons_succ, List.cons_append, List.nil_append, List.length_cons, List.length_nil, Nat.zero_add, Nat.reduceAdd, Nat.reduceLT, Nat.add_assoc]
  refine Q9 (k := 4) (k' := 6) hU [5, 1, 2, 4] [0, 1, 2, 0, 3, 0] rfl rfl rfl rfl ⟨rfl, rfl⟩ ?_
  exact zSe
 refine Zl ?_
 refine zQd [2, 5, 34, 35, 36] [2, 5, 34, 35, 36] [false, true, true, false, true, false] ?_
 obtain ⟨z14, hz14, h⟩ := bC h
 refine Yu (E' := ⟨49, [], [(2, .ref (n + 1) 0), (5, .ref (n + 2) 0)]⟩) (O' := (Zv O n [none, some ⟨false, 25, 3, 1, [(vI 0), nV, nV]⟩, some ⟨false, 25, 3, 1, [(vI a0.Kind), (sL (eI .u64) z1.1), .row (n + 4) z14.length]⟩, none, some (oR 25 3 Za z14), none])) (n0 := (n + 6)) ?_ ?_
 ·refine Y9 hz14 (fun s0_ => ⟨49, [], [(2, .ref (n + 1) 0), (5, .ref (n + 2) 0), (34, (sL Za z1.2)), (35, (vI (z1.2.length : Int))), (36, (vI s0_.1))]⟩) (fun s0_ => (Zv O n [none, some ⟨false, 25, 3, 1, [(vI 0), nV, nV]⟩, some ⟨false, 25, 3, 1, [(vI a0.Kind), (sL (eI .u64) z1.1), .row (n + 4) s0_.2.length]⟩, none, some (oR 25 3 Za s0_.2), none])) (fun z14 => JX 0 n (⟨49, [], [(2, .ref (n + 1) 0), (5, .ref (n + 2) 0)]⟩ : Env) (Zv O n [none, some ⟨false, 25, 3, 1, [(vI 0), nV, nV]⟩, some ⟨false, 25, 3, 1, [(vI a0.Kind), (sL (eI .u64) z1.1), .row (n + 4) z14.length]⟩, none, some (oR 25 3 Za z14), none]) (n + 6)) ?_
  intro s0_ x0_ hs0_
  unfold Zct at hs0_
  try dsimp only
  refine zQ [2, 5, 34, 35, 36, 37] ?_
  refine Zl ?_
  refine Zs (t := (decide (s0_.1 < (z1.2.length : Int)))) rfl (fun c13 => ?_) (fun c13 => ?_)
  ·replace hs0_ := Zr c13 hs0_
   refine Jq [2, 5, 34, 35, 36] [false, true, true, false, true, false] ?_
   refine Zl ?_
   refine Yl ?_
   refine Zl ?_
   obtain ⟨x9, hx9, ax9, bx9, cx9, hs0_⟩ := bE (f := Za) Up (fun _ => rfl) (by decide) hs0_
   refine Zc2 [] ax9 bx9 cx9 ?_
   refine zD [2, 5, 6, 7, 34, 35, 36] [false, true, true, false, true, false, true] ?_
   obtain ⟨y10, hy10, hs0_⟩ := bC hs0_
   obtain ⟨x11, hx11, ax11, bx11, cx11, hs0_⟩ := bE (f := Za) Up (fun _ => rfl) (by decide) hs0_
   have gu12 : Kc (fl Za s0_.2) [.val (.int .i64 y10.Kind), .sl y10.Words.length (fl (eI .u64) y10.Words), .sl y10.Kids.length (fl Za y10.Kids)] (Int.toNat s0_.1 * 3) = some (fl Za (Zh2 s0_.2 s0_.1 y10)) := (congrArg (fun c => Kc (fl Za s0_.2) c (Int.toNat s0_.1 * 3)) (show [.val (.int .i64 y10.Kind), .sl y10.Words.length (fl (eI .u64) y10.Words), .sl y10.Kids.length (fl Za y10.Kids)] = Za y10 from by simp only [Za, Yx, eI, eB, eS, eL])).trans (Zlc (f := Za) (ti := ⟨.bool, 3, 0, [], false⟩) (x := y10) (fun _ => rfl) (Zgz hx11))
   refine Zey Z0 (by kernel_rfl) [false, false, false, false, false, false, true] [] (by kernel_rfl) ?_
   refine zF4 ax11 bx11 cx11 gu12 ?_
   refine PCall.of (Zy5 hy10) ?_
   refine zF4 ax11 bx11 cx11 gu12 ?_
   refine zD [2, 5, 34, 35, 36] [false, true, true, false, true, false, false] ?_
   refine zR ?_
   exact zEn hs0_
  replace hs0_ := Zq c13 hs0_
  exact zEx hs0_
 try simp only [Y2, Ye, ↓reduceIte, Nat.reduceEqDiff]
 refine zDs [2, 5] [false, true, true, false, true, false] ?_
 refine zRd [2] [false, true, false, false, true, false] ?_
 exact Y4 [.agg [(vI a0.Kind), (sL (eI .u64) z1.1), .row (n + 4) z14.length]]
theorem Zu9 : ∀ k, (Zoa (Gk k)) := fun k => by
 induction k with
 | zero => exact @fun a0 r O n h => (nomatch (show (none : Option _) = some _ from h))
 | succ k ih => exact @fun a0 r O n h => Zz9 (ih)  h
theorem Zbv {a0 : Zb} {r : Zb} {O : Objs} {n : Nat} (h : Zbr a0 = some r) : GTo Try.prog 19 [.agg (Ze a0)] O n (.agg (Ze r)) O n := by
 obtain ⟨k, hk⟩ := Zaf h
 exact (Zu9 k)  hk
theorem Zob {a0 : Zb} {r : Zo} {O : Objs} {n : Nat}  (h : Zdx a0 = some r) : GTo Try.prog 7 [.agg (Ze a0)] O n (.ref n 0) (Zv O n [some ⟨false, 54, 5, 1, [(vI r.now.Kind), (sL (eI .u64) r.now.Words), (sL Za r.now.Kids), .row (n + 1) r.done.length, .row (n + 2) r.back.length]⟩, some (oR 37 11 Zd r.done), some (oR 37 11 Zd r.back)]) (n + 3) := by
 unfold Zdx at h
 refine zFn Try.call7 Try.func7 fun hU hN0 hN => ?_
 show W _ _ _ _ ⟨15, [], [(0, .agg (Ze a0))]⟩ (Zv O n []) _
 refine zQ [1] ?_
 refine Zl ?_
 obtain ⟨z2, hz2, h⟩ := bC h
 refine Y6 (E' := ⟨15, [], [(1, .ref n 0), (10, (vB z2))]⟩) (O' := (Zv O n [some ⟨false, 25, 3, 1, (Ze a0)⟩])) (n0 := (n + 1)) ?_ ?_
 ·rcases Bool.eq_false_or_eq_true (a0.Kind == 10) with c5 | c5
  ·replace hz2 := Zr c5 hz2
   refine K6 [some false, some false, some false] c5 ?_
   exact Jb hz2 c5
  replace hz2 := Zq c5 hz2
  obtain ⟨y4, hy4, hz2⟩ := bC hz2
  refine K6 [some true, some true, some true] c5 ?_
  refine (Zh6 hy4).then ?_
  refine zX1 c5 ?_
  exact Jb hz2 c5
 refine Zs (t := z2) rfl (fun c8 => ?_) (fun c8 => ?_)
 ·replace h := Zr c8 h
  refine zQ [2] ?_
  refine zW ?_
  cases h
 replace h := Zq c8 h
 refine Jq [1] [true] ?_
 refine Zl ?_
 obtain ⟨y7, hy7, h⟩ := bC h
 refine zCd (Zbv hy7) [2] [false, true] ?_
 refine zW ?_
 obtain rfl := sI h
 refine Zrp (k := 3) (L3 := [some ⟨false, 54, 5, 1, [(vI y7.Kind), (sL (eI .u64) y7.Words), (sL Za y7.Kids), .row (n + 1) ([] : List Zc).length, .row (n + 2) ([] : List Zc).length]⟩, some (oR 37 11 Zd ([] : List Zc)), some (oR 37 11 Zd ([] : List Zc)), none]) (E2 := (⟨15, [], [(2, .ref n 0)]⟩ : Env)) (n3 := (n + 4)) (.inr rfl) hU rfl [.ref n 0] ?_ ?_
 ·refine Fit2.trans (E' := (⟨15, [], [(2, .ref (n + 1) 0)]⟩ : Env)) (O' := (Zv O n [none, some ⟨false, 54, 5, 1, [(vI y7.Kind), (sL (eI .u64) y7.Words), (sL Za y7.Kids), nV, nV]⟩])) (n' := (n + 2)) (Fit2.of (Yw hU rfl rfl ?_) (by omega)) ?_
  ·exact zSe
  refine Fit2.trans (Va (p := (n + 1)) (k := 3) (q := ⟨false, 54, 5, 1, [(vI y7.Kind), (sL (eI .u64) y7.Words), (sL Za y7.Kids), nV, nV]⟩) 37 11 (by simp only [Kl, Vq, List.getElem?_cons_zero, List.getElem?_cons_succ, Option.join_some, List.length_nil, Z4]) rfl (by omega)) ?_
  simp only [Yo, Yc, Vr, Ka, List.set_cons_zero, List.set_cons_succ, List.cons_append, List.nil_append, List.length_cons, List.length_nil, Nat.zero_add, Nat.reduceAdd, Nat.reduceLT, Nat.add_assoc]
  refine Fit2.trans (Va (p := (n + 1)) (k := 4) (q := ⟨false, 54, 5, 1, [(vI y7.Kind), (sL (eI .u64) y7.Words), (sL Za y7.Kids), .row (n + 2) ([] : List Zc).length, nV]⟩) 37 11 (by simp only [Kl, Vq, List.getElem?_cons_zero, List.getElem?_cons_succ, Option.join_some, List.length_nil, Z4]) rfl (by omega)) ?_
  simp only [Yo, Yc, Vr, Ka, List.set_cons_zero, List.set_cons_succ, List.cons_append, List.nil_append, List.length_cons, List.length_nil, Nat.zero_add, Nat.reduceAdd, Nat.reduceLT, Nat.add_assoc]
  refine Q9 (k := 4) (k' := 4) hU [3, 0, 1, 2] [1, 2, 3, 0] rfl rfl rfl rfl ⟨rfl, rfl⟩ ?_
  exact zSe
 simp only [push_cast, seval, ↓reduceIte, Zf, Try.results7, hN0, hN]
theorem Zg9 {a0 : Zb} {r : Bool} {O : Objs} {n : Nat} (h : Gt a0 = some r) : GTo Try.prog 50 [.agg (Ze a0)] O n ((vB r)) O n := by
 unfold Gt at h
 refine zFn Try.call50 Try.func50 fun hU hN0 hN => ?_
 show W _ _ _ _ ⟨16, [], [(0, .agg (Ze a0))]⟩ (Zv O n []) _
 refine zQ [1] ?_
 refine zQD [2] [none, none, none, none, none, none, none, none] ?_
 exact Y4 [(vB (cond (a0.Kind != 0) true (decide (0 < (IntKind.i64.wrap ((a0.Words.length : Int) + (a0.Kids.length : Int)))))))]
theorem Ki {a0 : Bool} {a1 : Bool} {a2 : Bool} {a3 : Zc} {r : Bool} {O : Objs} {n : Nat} (h : Ul a0 a1 a2 a3 = some r) : GTo Try.prog 49 [(vB a0), (vB a1), (vB a2), .ip (Zi a3) 0] O n ((vB r)) O n := by
 unfold Ul at h
 refine zFn Try.call49 Try.func49 fun hU hN0 hN => ?_
 show W _ _ _ _ ⟨49, [], [(0, (vB a0)), (1, (vB a1)), (2, (vB a2)), (3, .ip (Zi a3) 0)]⟩ (Zv O n []) _
 refine zQ [0, 1, 2, 3] ?_
 obtain ⟨z3, hz3, h⟩ := bC h
 refine Y6 (E' := ⟨49, [], [(7, (vB z3))]⟩) (O' := (Zv O n [])) (n0 := n) ?_ ?_
 ·rcases Bool.eq_false_or_eq_true a0 with c8 | c8
  ·replace hz3 := Zr c8 hz3
   obtain ⟨y6, hy6, hz3⟩ := bC hz3
   rcases Bool.eq_false_or_eq_true y6 with c9 | c9
   ·replace hz3 := Zr c9 hz3
    try rw [c9] at c8
    refine J5 [some true, some true, some true, some true, some false, some false, some false, some true, some false, some false, some false, some false, some false, some false, some false, some false, some false, some false, some false, some false, some false, some false, some false, some false, some false, some false, some false, some false, some false, some false, some false, some false, some false] c8 c9 ?_
    refine (Zg9 hy6).then ?_
    refine zX2 c8 c9 ?_
    exact Zc1 hz3 c8 c9
   replace hz3 := Zq c9 hz3
   try rw [c9] at c8
   obtain ⟨y7, hy7, hz3⟩ := bC hz3
   refine J5 [some true, some true, some true, some true, some true, some true, some true, some true, none, none, none, none, none, none, none, none, none, none, none, none, none, none, none, none, none, none, none, none, none, none, none, none, none] c8 c9 ?_
   refine zG ?_
   refine (Zg9 hy6).then ?_
   refine zX2 c8 c9 ?_
   refine zG ?_
   refine (Zg9 hy7).then ?_
   refine zX2 c8 c9 ?_
   refine zG ?_
   exact Zc1 hz3 c8 c9
  replace hz3 := Zq c8 hz3
  refine K6 [some false, some false, some false, some false, some false, some false, some false, some false, some true, some true, none, none, none, none, none, none, none, none, some true, some true, none, none, none, none, none, none, none, none, none, none, none, none, none] c8 ?_
  refine zG ?_
  exact Jb hz3 c8
 exact Y4 [(vB z3)]
theorem Zkz {a0 : Zb} {r : Bool} {O : Objs} {n : Nat} (h : Ze5 a0 = some r) : GTo Try.prog 51 [.agg (Ze a0)] O n ((vB r)) O n := by
 unfold Ze5 at h
 refine zFn Try.call51 Try.func51 fun hU hN0 hN => ?_
 show W _ _ _ _ ⟨10, [], [(0, .agg (Ze a0))]⟩ (Zv O n []) _
 refine zQ [1] ?_
 obtain ⟨z2, hz2, h⟩ := bC h
 refine Y6 (E' := ⟨10, [], [(2, (vB z2))]⟩) (O' := (Zv O n [none])) (n0 := (n + 1)) ?_ ?_
 ·rcases Bool.eq_false_or_eq_true (a0.Kind != 10) with c5 | c5
  ·replace hz2 := Zr c5 hz2
   obtain ⟨y4, hy4, hz2⟩ := bC hz2
   refine K6 [some true, some true] c5 ?_
   refine (Zh6 hy4).then ?_
   refine zX1 c5 ?_
   exact Jb hz2 c5
  replace hz2 := Zq c5 hz2
  refine K6 [some false, some false] c5 ?_
  exact Jb hz2 c5
 exact Y4 [(vB z2)]
theorem Zml {a0 : Int} {r : Int} {O : Objs} {n : Nat} (h : Zbt a0 = some r) : GTo Try.prog 65 [.val (.int .u8 a0)] O n (.val (.int .u64 r)) O n := by
 unfold Zbt at h
 refine zFn Try.call65 Try.func65 fun hU hN0 hN => ?_
 show W _ _ _ _ ⟨20, [], [(0, .val (.int .u8 a0))]⟩ (Zv O n []) _
 refine zQ [0] ?_
 refine zQ [0, 3] ?_
 refine Zl ?_
 refine zQd [0, 3, 5] [0, 3, 5] [] ?_
 obtain ⟨z7, hz7, h⟩ := bC h
 refine Yu (E' := ⟨20, [], [(3, .val (.int .u64 z7))]⟩) (O' := (Zv O n [])) (n0 := n) ?_ ?_
 ·refine Y9 hz7 (fun s0_ => ⟨20, [], [(0, .val (.int .u8 a0)), (3, .val (.int .u64 s0_.1)), (5, (vI s0_.2))]⟩) (fun s0_ => (Zv O n [])) (fun z7 => JX 0 n (⟨20, [], [(3, .val (.int .u64 z7))]⟩ : Env) (Zv O n []) n) ?_
  intro s0_ x0_ hs0_
  unfold Zeo at hs0_
  try dsimp only
  refine zQ [0, 3, 5, 6] ?_
  refine Zl ?_
  refine Zs (t := (decide (s0_.2 < 8))) rfl (fun c6 => ?_) (fun c6 => ?_)
  ·replace hs0_ := Zr c6 hs0_
   refine Jq [0, 3, 5] [] ?_
   obtain ⟨z1, hz1, hs0_⟩ := bC hs0_
   refine Y6 (E' := ⟨20, [], [(0, .val (.int .u8 a0)), (3, .val (.int .u64 z1)), (5, (vI s0_.2))]⟩) (O' := (Zv O n [])) (n0 := n) ?_ ?_
   ·refine Yl ?_
    refine zQ [0, 3, 4, 5] ?_
    obtain ⟨pu3, hz1⟩ := bG hz1
    refine Zno [0, 3, 4, 5, 12] (Ys Z0 [] ?_)
    simp only [push_cast, seval, ↓reduceIte, Zf, pu3, hN0, hN]
    refine Zs (t := ((IntKind.u8.wrap (Zgd .u8 (Int.fdiv a0 (2 ^ min (Int.toNat s0_.2) 8)) 1)) == 1)) rfl (fun c5 => ?_) (fun c5 => ?_)
    ·replace hz1 := Zr c5 hz1
     obtain ⟨pu4, hz1⟩ := bG hz1
     refine Ys Z0 [] ?_
     simp only [push_cast, seval, ↓reduceIte, Zf, pu4, hN0, hN]
     obtain rfl := sI hz1
     refine And.intro rfl (Fit2.of (Yw hU rfl rfl ?_) (by omega))
     simp only [push_cast, seval, ↓reduceIte, Zf, pu4, hN0, hN]
    replace hz1 := Zq c5 hz1
    refine zK ?_
    exact zEn hz1
   refine zR ?_
   exact zEn hs0_
  replace hs0_ := Zq c6 hs0_
  exact zEx hs0_
 try simp only [Y2, Ye, ↓reduceIte, Nat.reduceEqDiff]
 refine zD [3] [] ?_
 refine zQ [2] ?_
 exact Y4 [.val (.int .u64 z7)]
theorem Zjh {a0 : (List Zu)} {r : Bool} {O : Objs} {n : Nat} (h : Zbq a0 = some r) : GTo Try.prog 52 [(sL Zh a0)] O n ((vB r)) O n := by
 unfold Zbq at h
 refine zFn Try.call52 Try.func52 fun hU hN0 hN => ?_
 show W _ _ _ _ ⟨48, [], [(0, (sL Zh a0))]⟩ (Zv O n []) _
 refine zQ [0] ?_
 refine zQ [0, 3] ?_
 refine Zl ?_
 refine zQd [3, 7, 8, 9] [3, 7, 8, 9] [] ?_
 obtain ⟨z7, hz7, h⟩ := bC h
 refine Gu (J := (Xs (fun z7 => JR n (⟨48, [], [(2, (vB false))]⟩ : Env) (Zv O n []) n) (fun z7 => JX 0 n (⟨48, [], []⟩ : Env) (Zv O n []) n))) (z := z7) ?_ fun hw => ?_
 ·refine Y9 hz7 (fun s0_ => ⟨48, [], [(3, (vI s0_.1)), (7, (sL Zh a0)), (8, (vI (a0.length : Int))), (9, (vI s0_.2))]⟩) (fun s0_ => (Zv O n [])) (Xs (fun z7 => JR n (⟨48, [], [(2, (vB false))]⟩ : Env) (Zv O n []) n) (fun z7 => JX 0 n (⟨48, [], []⟩ : Env) (Zv O n []) n)) ?_
  intro s0_ x0_ hs0_
  unfold Uk at hs0_
  try dsimp only
  refine zQ [3, 7, 8, 9, 10] ?_
  refine Zl ?_
  refine Zs (t := (decide (s0_.2 < (a0.length : Int)))) rfl (fun c6 => ?_) (fun c6 => ?_)
  ·replace hs0_ := Zr c6 hs0_
   refine Jq [3, 7, 8, 9] [] ?_
   refine Zl ?_
   refine Yl ?_
   refine Zl ?_
   obtain ⟨x2, hx2, ax2, bx2, cx2, hs0_⟩ := bE (f := Zh) Zu1 (fun _ => rfl) (by decide) hs0_
   refine Zc2 [] ax2 bx2 cx2 ?_
   refine zDs [3, 5, 7, 8, 9] [true] ?_
   obtain ⟨y4, hy4, hs0_⟩ := bC hs0_
   refine zCd (Zml hy4) [3, 5, 6, 7, 8, 9] [true] ?_
   refine Zl ?_
   refine zQD [5, 7, 8, 9, 44] [none, none, none, none, none, none, none, none, none, none, none, none, none, none, none, none] ?_
   refine Zs (t := (cond (cond (cond (cond (decide (x2.At ≤ s0_.1)) true (decide (65534 < x2.At))) true (x2.Mask == 0)) true ((IntKind.u64.wrap (Zgd .u64 x2.Old (IntKind.u64.wrap (Zic .u64 (if IntKind.signed .u64 = true then -1 else IntKind.max .u64) y4)))) != 0)) true ((IntKind.u64.wrap (Zgd .u64 x2.New (IntKind.u64.wrap (Zic .u64 (if IntKind.signed .u64 = true then -1 else IntKind.max .u64) y4)))) != 0))) rfl (fun c5 => ?_) (fun c5 => ?_)
   ·replace hs0_ := Zr c5 hs0_
    refine zQ [2] ?_
    refine zW ?_
    exact zEy hs0_
   replace hs0_ := Zq c5 hs0_
   refine Jq [5, 7, 8, 9] [true] ?_
   refine zRd [3, 7, 8, 9] [false] ?_
   refine zR ?_
   exact zEn hs0_
  replace hs0_ := Zq c6 hs0_
  exact zEx hs0_
 rcases z7 with z7 | z7
 ·dsimp only [Xs] at hw h
  refine Jc hw ?_
  try simp only [Y2, Ye, ↓reduceIte, Nat.reduceEqDiff]
  exact Ziy [(vB false)]
 dsimp only [Xs] at hw h
 refine Yu hw ?_
 try simp only [Y2, Ye, ↓reduceIte, Nat.reduceEqDiff]
 refine zD [] [] ?_
 refine zQ [2] ?_
 exact Y4 [(vB true)]
attribute [local push_cast] Try.results23 Try.results38 Try.results53 Try.results54 Try.results66 Try.results67 Try.results73 Try.results74 Try.results75 Try.results76
theorem Zlj {a0 : Int} {a1 : Zc} {r : Bool} {O : Objs} {n : Nat} (h : Zdm a0 a1 = some r) : GTo Try.prog 74 [(vI a0), .agg (Zi a1)] O n ((vB r)) O n := by
 unfold Zdm at h
 refine zFn Try.call74 Try.func74 fun hU hN0 hN => ?_
 show W _ _ _ _ ⟨33, [], [(0, (vI a0)), (1, .agg (Zi a1))]⟩ (Zv O n []) _
 refine zQ [0, 3] ?_
 refine Zl ?_
 refine zQ [3, 5] ?_
 refine Yl ?_
 refine zQ [3, 5, 6] ?_
 refine Zs (t := (a0 == 8)) rfl (fun c2 => ?_) (fun c2 => ?_)
 ·replace h := Zr c2 h
  refine zQ [4] ?_
  exact Y4 [(vB (a1.Kind != 0))]
 replace h := Zq c2 h
 refine zQ [3, 11] ?_
 refine Zs (t := (a0 == 9)) rfl (fun c1 => ?_) (fun c1 => ?_)
 ·replace h := Zr c1 h
  refine zQD [4] [none, none, none, none, none, none, none, none, none, none, none, none, none, none, none] ?_
  exact Y4 [(vB (cond (a1.Kind == 2) true (cond (cond (a1.Kind == 1) (a1.Old.Kind == 1) false) (a1.New.Kind == 1) false)))]
 replace h := Zq c1 h
 refine Jq [] [false] ?_
 refine zQ [4] ?_
 exact Y4 [(vB false)]
theorem Znj {a0 : Zm} {r : Int} {O : Objs} {n : Nat} (h : Zcw a0 = some r) : GTo Try.prog 75 [.agg (Yq a0)] O n ((vI r)) O n := by
 unfold Zcw at h
 refine zFn Try.call75 Try.func75 fun hU hN0 hN => ?_
 show W _ _ _ _ ⟨19, [], [(0, .agg (Yq a0))]⟩ (Zv O n []) _
 refine zQ [1] ?_
 refine Zl ?_
 refine zQ [1, 4] ?_
 refine Yl ?_
 refine zQ [1, 4, 5] ?_
 refine Zs (t := (a0.Kind == 0)) rfl (fun c5 => ?_) (fun c5 => ?_)
 ·replace h := Zr c5 h
  refine zQ [2] ?_
  exact Y4 [(vI (if 1048576 < (if a0.N < 0 then 0 else a0.N) then 1048576 else (if a0.N < 0 then 0 else a0.N)))]
 replace h := Zq c5 h
 obtain ⟨z1, hz1, h⟩ := bC h
 refine Y6 (E' := ⟨19, [], [(1, .ref n 0), (4, (vI a0.Kind)), (11, (vB z1))]⟩) (O' := (Zv O n [some ⟨false, 68, 14, 1, (Yq a0)⟩])) (n0 := (n + 1)) ?_ ?_
 ·refine zQ [1, 4, 11] ?_
  refine Zs (t := (a0.Kind == 1)) rfl (fun c2 => ?_) (fun c2 => ?_)
  ·replace hz1 := Zr c2 hz1
   refine zK ?_
   exact zEn hz1
  replace hz1 := Zq c2 hz1
  refine zR ?_
  exact zEn hz1
 refine Zs (t := z1) rfl (fun c4 => ?_) (fun c4 => ?_)
 ·replace h := Zr c4 h
  refine zQ [2] ?_
  exact Y4 [(vI (a0.L.length : Int))]
 replace h := Zq c4 h
 refine zQ [17] ?_
 refine Zs (t := (a0.Kind == 3)) rfl (fun c3 => ?_) (fun c3 => ?_)
 ·replace h := Zr c3 h
  refine zQ [2] ?_
  exact Y4 [(vI 1)]
 replace h := Zq c3 h
 refine Jq [] [false] ?_
 refine zQ [2] ?_
 exact Y4 [(vI 0)]
theorem Zvb {a0 : Zc} {r : (Int × Int)} {O : Objs} {n : Nat} (h : Zem a0 = some r) : GTo Try.prog 67 [.agg (Zi a0)] O n (.tup [(vI r.1), (vI r.2)]) O n := by
 unfold Zem at h
 refine zFn Try.call67 Try.func67 fun hU hN0 hN => ?_
 show W _ _ _ _ ⟨34, [], [(0, .agg (Zi a0))]⟩ (Zv O n []) _
 refine zQ [1] ?_
 refine zQ [1, 4, 5] ?_
 refine Zl ?_
 refine zQd [4, 5, 9, 10, 11] [4, 5, 9, 10, 11] [false] ?_
 obtain ⟨z10, hz10, h⟩ := bC h
 refine Yu (E' := ⟨34, [], [(4, (vI z10.1)), (5, (vI z10.2))]⟩) (O' := (Zv O n [none])) (n0 := (n + 1)) ?_ ?_
 ·refine Y9 hz10 (fun s0_ => ⟨34, [], [(4, (vI s0_.1)), (5, (vI s0_.2.1)), (9, (sL Zg a0.Ops)), (10, (vI (a0.Ops.length : Int))), (11, (vI s0_.2.2))]⟩) (fun s0_ => (Zv O n [none])) (fun z10 => JX 0 n (⟨34, [], [(4, (vI z10.1)), (5, (vI z10.2))]⟩ : Env) (Zv O n [none]) (n + 1)) ?_
  intro s0_ x0_ hs0_
  unfold Zbp at hs0_
  try dsimp only
  refine zQ [4, 5, 9, 10, 11, 12] ?_
  refine Zl ?_
  refine Zs (t := (decide (s0_.2.2 < (a0.Ops.length : Int)))) rfl (fun c9 => ?_) (fun c9 => ?_)
  ·replace hs0_ := Zr c9 hs0_
   refine Jq [4, 5, 9, 10, 11] [false] ?_
   obtain ⟨z1, hz1, hs0_⟩ := bC hs0_
   refine Y6 (E' := ⟨34, [], [(4, (vI z1.1)), (5, (vI z1.2)), (9, (sL Zg a0.Ops)), (10, (vI (a0.Ops.length : Int))), (11, (vI s0_.2.2))]⟩) (O' := (Zv O n [none, none])) (n0 := (n + 2)) ?_ ?_
   ·refine Yl ?_
    refine Zl ?_
    obtain ⟨x3, hx3, ax3, bx3, cx3, hz1⟩ := bE (f := Zg) Zhg (fun _ => rfl) (by decide) hz1
    refine Zc2 [] ax3 bx3 cx3 ?_
    refine zD [4, 5, 7, 9, 10, 11] [false, true] ?_
    obtain ⟨z4, hz4, hz1⟩ := bC hz1
    refine Y6 (E' := ⟨34, [], [(4, (vI z4)), (5, (vI s0_.2.1)), (7, .ref (n + 1) 0), (9, (sL Zg a0.Ops)), (10, (vI (a0.Ops.length : Int))), (11, (vI s0_.2.2))]⟩) (O' := (Zv O n [none, some ⟨false, 68, 14, 1, (Yq x3)⟩])) (n0 := (n + 2)) ?_ ?_
    ·refine zQ [4, 5, 7, 9, 10, 11, 17] ?_
     refine Zs (t := (x3.Kind != 2)) rfl (fun c6 => ?_) (fun c6 => ?_)
     ·replace hz4 := Zr c6 hz4
      obtain ⟨y5, hy5, hz4⟩ := bC hz4
      refine zC (Znj hy5) ?_
      exact zEn hz4
     replace hz4 := Zq c6 hz4
     refine zK ?_
     exact zEn hz4
    refine zQ [4, 5, 7, 9, 10, 11, 25] ?_
    refine Zs (t := (x3.Kind != 1)) rfl (fun c8 => ?_) (fun c8 => ?_)
    ·replace hz1 := Zr c8 hz1
     obtain ⟨y7, hy7, hz1⟩ := bC hz1
     refine zC (Znj hy7) ?_
     exact zEn hz1
    replace hz1 := Zq c8 hz1
    refine zK ?_
    exact zEn hz1
   refine zR ?_
   exact zEn hs0_
  replace hs0_ := Zq c9 hs0_
  exact zEx hs0_
 try simp only [Y2, Ye, ↓reduceIte, Nat.reduceEqDiff]
 refine zD [4, 5] [false] ?_
 refine zQ [2, 3] ?_
 exact Y4 [(vI z10.1), (vI z10.2)]
def Gb (Yv : (Zc → Option Bool)) : Prop := ∀ {a0 : Zc} {r : Bool} {O : Objs} {n : Nat}, Yv a0 = some r → GTo Try.prog 23 [.agg (Zi a0)] O n ((vB r)) O n
def Gc (Yr : (Zc → Int → Option Bool)) : Prop := ∀ {a0 : Zc} {a1 : Int} {r : Bool} {O : Objs} {n : Nat}, Yr a0 a1 = some r → GTo Try.prog 38 [.agg (Zi a0), (vI a1)] O n ((vB r)) O n
def Jv (Yd : ((List Zp) → Int → Option Bool)) : Prop := ∀ {a0 : (List Zp)} {a1 : Int} {r : Bool} {O : Objs} {n : Nat}, Yd a0 a1 = some r → GTo Try.prog 53 [(sL Zk a0), (vI a1)] O n ((vB r)) O n
def Kp (Yh : (Zc → Int → Option Bool)) : Prop := ∀ {a0 : Zc} {a1 : Int} {r : Bool} {O : Objs} {n : Nat}, Yh a0 a1 = some r → GTo Try.prog 54 [.agg (Zi a0), (vI a1)] O n ((vB r)) O n
def Ve (Yi : (Int → Zm → Int → Option Bool)) : Prop := ∀ {a0 : Int} {a1 : Zm} {a2 : Int} {r : Bool} {O : Objs} {n : Nat}, Yi a0 a1 a2 = some r → GTo Try.prog 66 [(vI a0), .agg (Yq a1), (vI a2)] O n ((vB r)) O n
def Jw (Ya : (Bool → Bool → Bool → Zm → Option Bool)) : Prop := ∀ {a0 : Bool} {a1 : Bool} {a2 : Bool} {a3 : Zm} {r : Bool} {O : Objs} {n : Nat}, Ya a0 a1 a2 a3 = some r → GTo Try.prog 73 [(vB a0), (vB a1), (vB a2), .ip (Yq a3) 0] O n ((vB r)) O n
theorem Zy8 {Yv : (Zc → Option Bool)} {Yr : (Zc → Int → Option Bool)} {Yd : ((List Zp) → Int → Option Bool)} {Yh : (Zc → Int → Option Bool)} {Yi : (Int → Zm → Int → Option Bool)} {Ya : (Bool → Bool → Bool → Zm → Option Bool)} (Kj : Gb Yv) (Vm : Gc Yr) (Vj : Jv Yd) (V5 : Kp Yh) (Uy : Ve Yi) (Xm : Jw Ya) {a0 : Zc} {r : Bool} {O : Objs} {n : Nat} (h : Zgl Yv Yr Yd Yh Yi Ya a0 = some r) : GTo Try.prog 23 [.agg (Zi a0)] O n ((vB r)) O n := by
 unfold Zgl at h
 refine zFn Try.call23 Try.func23 fun hU hN0 hN => ?_
 show W _ _ _ _ ⟨5, [], [(0, .agg (Zi a0))]⟩ (Zv O n []) _
 refine zQ [1] ?_
 refine Zl ?_
 obtain ⟨y2, hy2, h⟩ := bC h
 refine zCd (Vm hy2) [2] [false] ?_
 exact Y4 [(vB y2)]
theorem Zy9 {Yv : (Zc → Option Bool)} {Yr : (Zc → Int → Option Bool)} {Yd : ((List Zp) → Int → Option Bool)} {Yh : (Zc → Int → Option Bool)} {Yi : (Int → Zm → Int → Option Bool)} {Ya : (Bool → Bool → Bool → Zm → Option Bool)} (Kj : Gb Yv) (Vm : Gc Yr) (Vj : Jv Yd) (V5 : Kp Yh) (Uy : Ve Yi) (Xm : Jw Ya) {a0 : Zc} {a1 : Int} {r : Bool} {O : Objs} {n : Nat} (h : Zgm Yv Yr Yd Yh Yi Ya a0 a1 = some r) : GTo Try.prog 38 [.agg (Zi a0), (vI a1)] O n ((vB r)) O n := by
 unfold Zgm at h
 refine zFn Try.call38 Try.func38 fun hU hN0 hN => ?_
 show W _ _ _ _ ⟨55, [], [(0, .agg (Zi a0)), (1, (vI a1))]⟩ (Zv O n []) _
 refine zQ [1, 2] ?_
 refine Zl ?_
 refine zQ [1, 2, 7] ?_
 refine Zs (t := (a1 == 0)) rfl (fun c39 => ?_) (fun c39 => ?_)
 ·replace h := Zr c39 h
  refine zQ [4] ?_
  exact Y4 [(vB false)]
 replace h := Zq c39 h
 refine Jq [1, 2] [true] ?_
 refine Zgb ⟨55, [], [(1, (vI a1)), (2, .ip (Zi a0) 0)]⟩ (Zv O n [none]) (Yw hU rfl rfl ?_) ?_
 ·exact zSe
 refine zQ [1, 2, 5] ?_
 refine Zl ?_
 refine zQ [1, 2, 5, 10] ?_
 refine Yl ?_
 refine zQ [1, 2, 5, 10, 11] ?_
 refine Zs (t := (a0.Kind == 0)) rfl (fun c38 => ?_) (fun c38 => ?_)
 ·replace h := Zr c38 h
  refine Zl ?_
  obtain ⟨y2, hy2, h⟩ := bC h
  refine zR ?_
  refine GCalls.argsW ?_ ((Ki hy2).then ?_)
  ·exact zSe
  refine zS ?_
  refine zD [4] [false] ?_
  exact Y4 [(vB y2)]
 replace h := Zq c38 h
 refine zQ [1, 2, 5, 10, 15] ?_
 refine Zs (t := (a0.Kind == 1)) rfl (fun c37 => ?_) (fun c37 => ?_)
 ·replace h := Zr c37 h
  obtain ⟨z6, hz6, h⟩ := bC h
  refine Y6 (E' := ⟨55, [], [(4, (vB z6))]⟩) (O' := (Zv O n [none])) (n0 := (n + 1)) ?_ ?_
  ·obtain ⟨y10, hy10, hz6⟩ := bC hz6
   rcases Bool.eq_false_or_eq_true y10 with c13 | c13
   ·replace hz6 := Zr c13 hz6
    obtain ⟨y11, hy11, hz6⟩ := bC hz6
    rcases Bool.eq_false_or_eq_true y11 with c14 | c14
    ·replace hz6 := Zr c14 hz6
     try rw [c14] at c13
     obtain ⟨y12, hy12, hz6⟩ := bC hz6
     refine J5 [some true, some true, some true, some true, some true, some true] c13 c14 ?_
     refine GCalls.argsW ?_ ((Ki hy10).then ?_)
     ·exact X3 c13 c14
     refine zX2 c13 c14 ?_
     refine (Zkz hy11).then ?_
     refine zX2 c13 c14 ?_
     refine (Zkz hy12).then ?_
     refine zX2 c13 c14 ?_
     exact Zc1 hz6 c13 c14
    replace hz6 := Zq c14 hz6
    try rw [c14] at c13
    refine J5 [some true, some true, some true, some false, some false, some false] c13 c14 ?_
    refine GCalls.argsW ?_ ((Ki hy10).then ?_)
    ·exact X3 c13 c14
    refine zX2 c13 c14 ?_
    refine (Zkz hy11).then ?_
    refine zX2 c13 c14 ?_
    exact Zc1 hz6 c13 c14
   replace hz6 := Zq c13 hz6
   refine K6 [some false, some false, some false, some false, some false, some false] c13 ?_
   refine GCalls.argsW ?_ ((Ki hy10).then ?_)
   ·exact Z9r c13
   refine zX1 c13 ?_
   exact Jb hz6 c13
  exact Y4 [(vB z6)]
 replace h := Zq c37 h
 refine zQ [1, 2, 5, 10, 29] ?_
 refine Zs (t := (a0.Kind == 2)) rfl (fun c36 => ?_) (fun c36 => ?_)
 ·replace h := Zr c36 h
  obtain ⟨z18, hz18, h⟩ := bC h
  refine Y6 (E' := ⟨55, [], [(4, (vB z18))]⟩) (O' := (Zv O n [none])) (n0 := (n + 1)) ?_ ?_
  ·obtain ⟨y22, hy22, hz18⟩ := bC hz18
   rcases Bool.eq_false_or_eq_true y22 with c25 | c25
   ·replace hz18 := Zr c25 hz18
    obtain ⟨y23, hy23, hz18⟩ := bC hz18
    rcases Bool.eq_false_or_eq_true y23 with c26 | c26
    ·replace hz18 := Zr c26 hz18
     try rw [c26] at c25
     obtain ⟨y24, hy24, hz18⟩ := bC hz18
     refine J5 [some true, some true, some true, some true, some true, some true, some true, some true] c25 c26 ?_
     refine GCalls.argsW ?_ ((Ki hy22).then ?_)
     ·exact X3 c25 c26
     refine zX2 c25 c26 ?_
     refine (Zjh hy23).then ?_
     refine zX2 c25 c26 ?_
     refine (Vj hy24).then ?_
     refine zX2 c25 c26 ?_
     exact Zc1 hz18 c25 c26
    replace hz18 := Zq c26 hz18
    try rw [c26] at c25
    refine J5 [some true, some true, some true, some false, some false, some false, some false, some false] c25 c26 ?_
    refine GCalls.argsW ?_ ((Ki hy22).then ?_)
    ·exact X3 c25 c26
    refine zX2 c25 c26 ?_
    refine (Zjh hy23).then ?_
    refine zX2 c25 c26 ?_
    exact Zc1 hz18 c25 c26
   replace hz18 := Zq c25 hz18
   refine K6 [some false, some false, some false, some false, some false, some false, some false, some false] c25 ?_
   refine GCalls.argsW ?_ ((Ki hy22).then ?_)
   ·exact Z9r c25
   refine zX1 c25 ?_
   exact Jb hz18 c25
  exact Y4 [(vB z18)]
 replace h := Zq c36 h
 refine zQ [1, 2, 5, 45] ?_
 refine Zs (t := (a0.Kind == 3)) rfl (fun c35 => ?_) (fun c35 => ?_)
 ·replace h := Zr c35 h
  obtain ⟨z29, hz29, h⟩ := bC h
  refine Y6 (E' := ⟨55, [], [(4, (vB z29))]⟩) (O' := (Zv O n [none])) (n0 := (n + 1)) ?_ ?_
  ·obtain ⟨y32, hy32, hz29⟩ := bC hz29
   rcases Bool.eq_false_or_eq_true y32 with c34 | c34
   ·replace hz29 := Zr c34 hz29
    obtain ⟨y33, hy33, hz29⟩ := bC hz29
    refine K6 [some true, some true, some true, some true] c34 ?_
    refine GCalls.argsW ?_ ((Ki hy32).then ?_)
    ·exact Z9r c34
    refine zX1 c34 ?_
    refine (V5 hy33).then ?_
    refine zX1 c34 ?_
    exact Jb hz29 c34
   replace hz29 := Zq c34 hz29
   refine K6 [some false, some false, some false, some false] c34 ?_
   refine GCalls.argsW ?_ ((Ki hy32).then ?_)
   ·exact Z9r c34
   refine zX1 c34 ?_
   exact Jb hz29 c34
  exact Y4 [(vB z29)]
 replace h := Zq c35 h
 refine Jq [] [false] ?_
 refine zQ [4] ?_
 exact Y4 [(vB false)]
theorem Zq0 {Yv : (Zc → Option Bool)} {Yr : (Zc → Int → Option Bool)} {Yd : ((List Zp) → Int → Option Bool)} {Yh : (Zc → Int → Option Bool)} {Yi : (Int → Zm → Int → Option Bool)} {Ya : (Bool → Bool → Bool → Zm → Option Bool)} (Kj : Gb Yv) (Vm : Gc Yr) (Vj : Jv Yd) (V5 : Kp Yh) (Uy : Ve Yi) (Xm : Jw Ya) {a0 : (List Zp)} {a1 : Int} {r : Bool} {O : Objs} {n : Nat} (h : Zcq Yv Yr Yd Yh Yi Ya a0 a1 = some r) : GTo Try.prog 53 [(sL Zk a0), (vI a1)] O n ((vB r)) O n := by
 unfold Zcq at h
 refine zFn Try.call53 Try.func53 fun hU hN0 hN => ?_
 show W _ _ _ _ ⟨39, [], [(0, (sL Zk a0)), (1, (vI a1))]⟩ (Zv O n []) _
 refine zQ [0, 1] ?_
 refine zQ [0, 1, 5] ?_
 refine Zl ?_
 refine zQd [1, 5, 8, 9, 10] [1, 5, 8, 9, 10] [] ?_
 obtain ⟨z12, hz12, h⟩ := bC h
 refine Gu (J := (Xs (fun z12 => JR n (⟨39, [], [(4, (vB false))]⟩ : Env) (Zv O n []) n) (fun z12 => JX 0 n (⟨39, [], []⟩ : Env) (Zv O n []) n))) (z := z12) ?_ fun hw => ?_
 ·refine Y9 hz12 (fun s0_ => ⟨39, [], [(1, (vI a1)), (5, (vI s0_.1)), (8, (sL Zk a0)), (9, (vI (a0.length : Int))), (10, (vI s0_.2))]⟩) (fun s0_ => (Zv O n [])) (Xs (fun z12 => JR n (⟨39, [], [(4, (vB false))]⟩ : Env) (Zv O n []) n) (fun z12 => JX 0 n (⟨39, [], []⟩ : Env) (Zv O n []) n)) ?_
  intro s0_ x0_ hs0_
  unfold Gf at hs0_
  try dsimp only
  refine zQ [1, 5, 8, 9, 10, 11] ?_
  refine Zl ?_
  refine Zs (t := (decide (s0_.2 < (a0.length : Int)))) rfl (fun c11 => ?_) (fun c11 => ?_)
  ·replace hs0_ := Zr c11 hs0_
   refine Jq [1, 5, 8, 9, 10] [] ?_
   refine Zl ?_
   refine Yl ?_
   refine Zl ?_
   obtain ⟨x2, hx2, ax2, bx2, cx2, hs0_⟩ := bE (f := Zk) Zon (fun _ => rfl) (by decide) hs0_
   refine Zc2 [] ax2 bx2 cx2 ?_
   refine zDs [1, 5, 7, 8, 9, 10] [true] ?_
   obtain ⟨z4, hz4, hs0_⟩ := bC hs0_
   refine Y6 (E' := ⟨39, [], [(1, (vI a1)), (7, .ref n 0), (8, (sL Zk a0)), (9, (vI (a0.length : Int))), (10, (vI s0_.2)), (35, (vB z4))]⟩) (O' := (Zv O n [some ⟨false, 65, 12, 1, (Za7 x2)⟩])) (n0 := (n + 1)) ?_ ?_
   ·rcases Bool.eq_false_or_eq_true (decide (x2.At ≤ s0_.1)) with c7 | c7
    ·replace hz4 := Zr c7 hz4
     refine K6 [none, none, none, none, none, none, none, some false, some false, some false, some false, some false] c7 ?_
     refine zG ?_
     exact Jb hz4 c7
    replace hz4 := Zq c7 hz4
    rcases Bool.eq_false_or_eq_true (decide (65534 < x2.At)) with c8 | c8
    ·replace hz4 := Zr c8 hz4
     try rw [c8] at c7
     refine J5 [none, none, none, none, none, none, none, some false, some false, some false, some false, some false] c7 c8 ?_
     refine zG ?_
     exact Zc1 hz4 c7 c8
    replace hz4 := Zq c8 hz4
    try rw [c8] at c7
    rcases Bool.eq_false_or_eq_true (x2.E.Kind == 0) with c9 | c9
    ·replace hz4 := Zr c9 hz4
     try rw [c9] at c7
     try rw [c9] at c8
     refine Zgh [none, none, none, none, none, none, none, some false, some false, some false, some false, some false] c7 c8 c9 ?_
     refine zG ?_
     exact Zj0 hz4 c7 c8 c9
    replace hz4 := Zq c9 hz4
    try rw [c9] at c7
    try rw [c9] at c8
    obtain ⟨y6, hy6, hz4⟩ := bC hz4
    refine Zgh [none, none, none, none, none, none, none, some true, some true, some true, some true, some true] c7 c8 c9 ?_
    refine zG ?_
    refine (Vm hy6).then ?_
    refine zX3 c7 c8 c9 ?_
    refine zG ?_
    exact Zj0 hz4 c7 c8 c9
   refine Zs (t := z4) rfl (fun c10 => ?_) (fun c10 => ?_)
   ·replace hs0_ := Zr c10 hs0_
    refine zQ [4] ?_
    refine zW ?_
    exact zEy hs0_
   replace hs0_ := Zq c10 hs0_
   refine Jq [1, 7, 8, 9, 10] [true] ?_
   refine zRd [1, 5, 8, 9, 10] [false] ?_
   refine zR ?_
   exact zEn hs0_
  replace hs0_ := Zq c11 hs0_
  exact zEx hs0_
 rcases z12 with z12 | z12
 ·dsimp only [Xs] at hw h
  refine Jc hw ?_
  try simp only [Y2, Ye, ↓reduceIte, Nat.reduceEqDiff]
  exact Ziy [(vB false)]
 dsimp only [Xs] at hw h
 refine Yu hw ?_
 try simp only [Y2, Ye, ↓reduceIte, Nat.reduceEqDiff]
 refine zD [] [] ?_
 refine zQ [4] ?_
 exact Y4 [(vB true)]
theorem Zsf {Yv : (Zc → Option Bool)} {Yr : (Zc → Int → Option Bool)} {Yd : ((List Zp) → Int → Option Bool)} {Yh : (Zc → Int → Option Bool)} {Yi : (Int → Zm → Int → Option Bool)} {Ya : (Bool → Bool → Bool → Zm → Option Bool)} (Kj : Gb Yv) (Vm : Gc Yr) (Vj : Jv Yd) (V5 : Kp Yh) (Uy : Ve Yi) (Xm : Jw Ya) {a0 : Zc} {a1 : Int} {r : Bool} {O : Objs} {n : Nat} (h : Zdh Yv Yr Yd Yh Yi Ya a0 a1 = some r) : GTo Try.prog 54 [.agg (Zi a0), (vI a1)] O n ((vB r)) O n := by
 unfold Zdh at h
 refine zFn Try.call54 Try.func54 fun hU hN0 hN => ?_
 show W _ _ _ _ ⟨38, [], [(0, .agg (Zi a0)), (1, (vI a1))]⟩ (Zv O n []) _
 refine zQ [1, 2] ?_
 refine Zl ?_
 refine Zl ?_
 obtain ⟨y2, hy2, h⟩ := bC h
 refine zCd (Zmk hy2) [1, 2, 12] [true] ?_
 refine Zs (t := (!y2)) rfl (fun c12 => ?_) (fun c12 => ?_)
 ·replace h := Zr c12 h
  refine zQ [4] ?_
  exact Y4 [(vB false)]
 replace h := Zq c12 h
 refine Jq [1, 2] [true] ?_
 refine Zl ?_
 refine zQd [1, 2, 14, 15, 16] [1, 2, 14, 15, 16] [true] ?_
 obtain ⟨z9, hz9, h⟩ := bC h
 refine Gu (J := (Xs (fun z9 => JR n (⟨38, [], [(4, (vB false))]⟩ : Env) (Zv O n [none]) (n + 1)) (fun z9 => JX 0 n (⟨38, [], [(2, .ref n 0)]⟩ : Env) (Zv O n [some ⟨false, 37, 11, 1, (Zi a0)⟩]) (n + 1)))) (z := z9) ?_ fun hw => ?_
 ·refine Y9 hz9 (fun s0_ => ⟨38, [], [(1, (vI a1)), (2, .ref n 0), (14, (sL Zg a0.Ops)), (15, (vI (a0.Ops.length : Int))), (16, (vI s0_))]⟩) (fun s0_ => (Zv O n [some ⟨false, 37, 11, 1, (Zi a0)⟩])) (Xs (fun z9 => JR n (⟨38, [], [(4, (vB false))]⟩ : Env) (Zv O n [none]) (n + 1)) (fun z9 => JX 0 n (⟨38, [], [(2, .ref n 0)]⟩ : Env) (Zv O n [some ⟨false, 37, 11, 1, (Zi a0)⟩]) (n + 1))) ?_
  intro s0_ x0_ hs0_
  unfold Gz at hs0_
  try dsimp only
  refine zQ [1, 2, 14, 15, 16, 17] ?_
  refine Zl ?_
  refine Zs (t := (decide (s0_ < (a0.Ops.length : Int)))) rfl (fun c8 => ?_) (fun c8 => ?_)
  ·replace hs0_ := Zr c8 hs0_
   refine Jq [1, 2, 14, 15, 16] [true] ?_
   refine Zl ?_
   refine Yl ?_
   refine Zl ?_
   obtain ⟨x4, hx4, ax4, bx4, cx4, hs0_⟩ := bE (f := Zg) Zhg (fun _ => rfl) (by decide) hs0_
   refine Zc2 [] ax4 bx4 cx4 ?_
   refine zDs [1, 2, 6, 14, 15, 16] [true, true] ?_
   obtain ⟨y6, hy6, hs0_⟩ := bC hs0_
   refine zCd (Uy hy6) [1, 2, 14, 15, 16, 25] [true, false] ?_
   refine Zs (t := (!y6)) rfl (fun c7 => ?_) (fun c7 => ?_)
   ·replace hs0_ := Zr c7 hs0_
    refine zQ [4] ?_
    refine zW ?_
    exact zEy hs0_
   replace hs0_ := Zq c7 hs0_
   refine Jq [1, 2, 14, 15, 16] [true, false] ?_
   refine zR ?_
   exact zEn hs0_
  replace hs0_ := Zq c8 hs0_
  exact zEx hs0_
 rcases z9 with z9 | z9
 ·dsimp only [Xs] at hw h
  refine Jc hw ?_
  try simp only [Y2, Ye, ↓reduceIte, Nat.reduceEqDiff]
  exact Ziy [(vB false)]
 dsimp only [Xs] at hw h
 refine Yu hw ?_
 try simp only [Y2, Ye, ↓reduceIte, Nat.reduceEqDiff]
 refine zDs [2] [true] ?_
 obtain ⟨y11, hy11, h⟩ := bC h
 refine zCd (Zvb hy11) [7, 8] [false] ?_
 refine zQD [4] [none, none] ?_
 exact Y4 [(vB (cond (decide (y11.1 < 1048576)) (decide (y11.2 < 1048576)) false))]
theorem Zua {Yv : (Zc → Option Bool)} {Yr : (Zc → Int → Option Bool)} {Yd : ((List Zp) → Int → Option Bool)} {Yh : (Zc → Int → Option Bool)} {Yi : (Int → Zm → Int → Option Bool)} {Ya : (Bool → Bool → Bool → Zm → Option Bool)} (Kj : Gb Yv) (Vm : Gc Yr) (Vj : Jv Yd) (V5 : Kp Yh) (Uy : Ve Yi) (Xm : Jw Ya) {a0 : Int} {a1 : Zm} {a2 : Int} {r : Bool} {O : Objs} {n : Nat} (h : Zee Yv Yr Yd Yh Yi Ya a0 a1 a2 = some r) : GTo Try.prog 66 [(vI a0), .agg (Yq a1), (vI a2)] O n ((vB r)) O n := by
 unfold Zee at h
 refine zFn Try.call66 Try.func66 fun hU hN0 hN => ?_
 show W _ _ _ _ ⟨60, [], [(0, (vI a0)), (1, .agg (Yq a1)), (2, (vI a2))]⟩ (Zv O n []) _
 refine zQ [0, 2, 4] ?_
 refine Zgb ⟨60, [], [(0, (vI a0)), (2, (vI a2)), (4, .ip (Yq a1) 0)]⟩ (Zv O n [none]) (Yw hU rfl rfl ?_) ?_
 ·exact zSe
 refine zQ [0, 2, 4, 7] ?_
 refine Zl ?_
 refine zQ [0, 2, 4, 7, 10] ?_
 refine Yl ?_
 refine Zl ?_
 refine Yl ?_
 obtain ⟨z1, hz1, h⟩ := bC h
 refine Yfu (J := (Xs (fun z1 => JN n (⟨60, [], [(0, (vI a0)), (4, .ip (Yq a1) 0), (7, .fn 73 0 [.ip (Yq a1) 0])]⟩ : Env) (Zv O n [none]) (n + 1)) (Xs (fun z1 => JR n (⟨60, [], [(6, (vB z1))]⟩ : Env) (Zv O n [none]) (n + 1)) (Xs (fun z1 => JX 4 n (⟨60, [], [(0, (vI a0)), (2, (vI a2)), (4, .ip (Yq a1) 0), (7, .fn 73 0 [.ip (Yq a1) 0])]⟩ : Env) (Zv O n [none]) (n + 1)) (fun z1 => JX 0 n (⟨60, [], []⟩ : Env) (Zv O n [none]) (n + 1)))))) (z := z1) ?_ fun hw => ?_
 ·refine Yl ?_
  refine Yl ?_
  refine Zl ?_
  refine Yl ?_
  refine Zl ?_
  refine Zl ?_
  refine zQ [0, 2, 4, 7, 10, 11] ?_
  refine Zs (t := (a1.Kind == 0)) rfl (fun c7 => ?_) (fun c7 => ?_)
  ·replace hz1 := Zr c7 hz1
   refine zXt ?_
   refine zDs [4, 7] [false] ?_
   refine Zl ?_
   obtain ⟨y3, hy3, hz1⟩ := bC hz1
   refine zRo [none, none, none, none, none, none] ?_
   refine zG ?_
   refine GCalls.argsW ?_ ((Xm hy3).then ?_)
   ·exact zSe
   refine zS ?_
   refine zG ?_
   refine zD [6] [false] ?_
   refine zW ?_
   exact zEn hz1
  replace hz1 := Zq c7 hz1
  refine Jq [0, 2, 4, 7, 10] [false] ?_
  refine Zl ?_
  refine zQ [0, 2, 4, 7, 10, 13] ?_
  refine Zs (t := (a1.Kind == 1)) rfl (fun c6 => ?_) (fun c6 => ?_)
  ·replace hz1 := Zr c6 hz1
   refine zXt ?_
   exact zEn hz1
  replace hz1 := Zq c6 hz1
  refine Jq [0, 2, 4, 7, 10] [false] ?_
  refine Zl ?_
  refine zQ [0, 2, 4, 7, 10, 15] ?_
  refine Zs (t := (a1.Kind == 2)) rfl (fun c5 => ?_) (fun c5 => ?_)
  ·replace hz1 := Zr c5 hz1
   refine zXt ?_
   exact zEn hz1
  replace hz1 := Zq c5 hz1
  refine Jq [0, 2, 4, 7, 10] [false] ?_
  refine zQ [0, 2, 4, 7, 17] ?_
  refine Zs (t := (a1.Kind == 3)) rfl (fun c4 => ?_) (fun c4 => ?_)
  ·replace hz1 := Zr c4 hz1
   refine zXt ?_
   exact zEn hz1
  replace hz1 := Zq c4 hz1
  refine Jq [] [false] ?_
  refine zXt ?_
  exact zEn hz1
 rcases z1 with z1 | z1
 ·dsimp only [Xs] at hw h
  refine Y6 hw ?_
  refine Zl ?_
  obtain ⟨z10, hz10, h⟩ := bC h
  refine Y6 (E' := ⟨60, [], [(6, (vB z10))]⟩) (O' := (Zv O n [none])) (n0 := (n + 1)) ?_ ?_
  ·obtain ⟨y13, hy13, hz10⟩ := bC hz10
   rcases Bool.eq_false_or_eq_true y13 with c15 | c15
   ·replace hz10 := Zr c15 hz10
    rcases Bool.eq_false_or_eq_true (decide (0 < (a1.L.length : Int))) with c16 | c16
    ·replace hz10 := Zr c16 hz10
     try rw [c16] at c15
     obtain ⟨y14, hy14, hz10⟩ := bC hz10
     refine J5 [none, none, none, none, some true, some true, some true, some true, some true] c15 c16 ?_
     refine zG ?_
     refine GCalls.argsW ?_ ((Xm hy13).then ?_)
     ·exact X3 c15 c16
     refine zX2 c15 c16 ?_
     refine zG ?_
     refine GCalls.argsW ?_ ((Zh6 hy14).then ?_)
     ·exact X3 c15 c16
     refine zX2 c15 c16 ?_
     refine zG ?_
     exact Zc1 hz10 c15 c16
    replace hz10 := Zq c16 hz10
    try rw [c16] at c15
    refine J5 [none, none, none, none, some false, some false, some false, some false, some false] c15 c16 ?_
    refine zG ?_
    refine GCalls.argsW ?_ ((Xm hy13).then ?_)
    ·exact X3 c15 c16
    refine zX2 c15 c16 ?_
    refine zG ?_
    exact Zc1 hz10 c15 c16
   replace hz10 := Zq c15 hz10
   refine K6 [none, none, none, none, some false, some false, some false, some false, some false] c15 ?_
   refine zG ?_
   refine GCalls.argsW ?_ ((Xm hy13).then ?_)
   ·exact Z9r c15
   refine zX1 c15 ?_
   refine zG ?_
   exact Jb hz10 c15
  exact Y4 [(vB z10)]
 rcases z1 with z1 | z1
 ·dsimp only [Xs] at hw h
  refine Yey hw ?_
  try simp only [Y2, Ye]
  exact Ziy [(vB z1)]
 rcases z1 with z1 | z1
 ·dsimp only [Xs] at hw h
  refine Z9v hw ?_
  try simp only [Y2, Ye, ↓reduceIte, Nat.reduceEqDiff]
  refine zDs [0, 2, 4, 7] [false] ?_
  obtain ⟨z20, hz20, h⟩ := bC h
  refine Y6 (E' := ⟨60, [], [(6, (vB z20))]⟩) (O' := (Zv O n [none])) (n0 := (n + 1)) ?_ ?_
  ·obtain ⟨y24, hy24, hz20⟩ := bC hz20
   rcases Bool.eq_false_or_eq_true y24 with c27 | c27
   ·replace hz20 := Zr c27 hz20
    obtain ⟨y25, hy25, hz20⟩ := bC hz20
    rcases Bool.eq_false_or_eq_true y25 with c28 | c28
    ·replace hz20 := Zr c28 hz20
     try rw [c28] at c27
     obtain ⟨y26, hy26, hz20⟩ := bC hz20
     refine J5 [some true, some true, some true, some true, some true, some true, some true, some true] c27 c28 ?_
     refine GCalls.argsW ?_ ((Xm hy24).then ?_)
     ·exact X3 c27 c28
     refine zX2 c27 c28 ?_
     refine (Zlj hy25).then ?_
     refine zX2 c27 c28 ?_
     refine (Vm hy26).then ?_
     refine zX2 c27 c28 ?_
     exact Zc1 hz20 c27 c28
    replace hz20 := Zq c28 hz20
    try rw [c28] at c27
    refine J5 [some true, some true, some true, some true, some false, some false, some false, some false] c27 c28 ?_
    refine GCalls.argsW ?_ ((Xm hy24).then ?_)
    ·exact X3 c27 c28
    refine zX2 c27 c28 ?_
    refine (Zlj hy25).then ?_
    refine zX2 c27 c28 ?_
    exact Zc1 hz20 c27 c28
   replace hz20 := Zq c27 hz20
   refine K6 [some false, some false, some false, some false, some false, some false, some false, some false] c27 ?_
   refine GCalls.argsW ?_ ((Xm hy24).then ?_)
   ·exact Z9r c27
   refine zX1 c27 ?_
   exact Jb hz20 c27
  exact Y4 [(vB z20)]
 dsimp only [Xs] at hw h
 refine Z9v hw ?_
 try simp only [Y2, Ye, ↓reduceIte, Nat.reduceEqDiff]
 refine zD [] [false] ?_
 refine zQ [6] ?_
 exact Y4 [(vB false)]
theorem Zq1 {Yv : (Zc → Option Bool)} {Yr : (Zc → Int → Option Bool)} {Yd : ((List Zp) → Int → Option Bool)} {Yh : (Zc → Int → Option Bool)} {Yi : (Int → Zm → Int → Option Bool)} {Ya : (Bool → Bool → Bool → Zm → Option Bool)} (Kj : Gb Yv) (Vm : Gc Yr) (Vj : Jv Yd) (V5 : Kp Yh) (Uy : Ve Yi) (Xm : Jw Ya) {a0 : Bool} {a1 : Bool} {a2 : Bool} {a3 : Zm} {r : Bool} {O : Objs} {n : Nat} (h : Zcr Yv Yr Yd Yh Yi Ya a0 a1 a2 a3 = some r) : GTo Try.prog 73 [(vB a0), (vB a1), (vB a2), .ip (Yq a3) 0] O n ((vB r)) O n := by
 unfold Zcr at h
 refine zFn Try.call73 Try.func73 fun hU hN0 hN => ?_
 show W _ _ _ _ ⟨41, [], [(0, (vB a0)), (1, (vB a1)), (2, (vB a2)), (3, .ip (Yq a3) 0)]⟩ (Zv O n []) _
 refine zQ [0, 1, 2, 3] ?_
 obtain ⟨z5, hz5, h⟩ := bC h
 refine Y6 (E' := ⟨41, [], [(7, (vB z5))]⟩) (O' := (Zv O n [])) (n0 := n) ?_ ?_
 ·rcases Bool.eq_false_or_eq_true a0 with c14 | c14
  ·replace hz5 := Zr c14 hz5
   rcases Bool.eq_false_or_eq_true (a3.N != 0) with c15 | c15
   ·replace hz5 := Zr c15 hz5
    try rw [c15] at c14
    refine J5 [none, none, none, none, none, none, none, none, none, none, none, some false, some false, some false, some false, some false, some false, some false, some false, some false, some false, some false, some false, some false, some false] c14 c15 ?_
    refine zG ?_
    exact Zc1 hz5 c14 c15
   replace hz5 := Zq c15 hz5
   try rw [c15] at c14
   rcases Bool.eq_false_or_eq_true a1 with c16 | c16
   ·replace hz5 := Zr c16 hz5
    try rw [c16] at c14
    try rw [c16] at c15
    rcases Bool.eq_false_or_eq_true (decide (0 < (a3.L.length : Int))) with c17 | c17
    ·replace hz5 := Zr c17 hz5
     try rw [c17] at c14
     try rw [c17] at c15
     try rw [c17] at c16
     refine Zos [none, none, none, none, none, none, none, none, none, none, none, some false, some false, some false, some false, some false, some false, some false, some false, some false, some false, some false, some false, some false, some false] c14 c15 c16 c17 ?_
     refine zG ?_
     exact Zor hz5 c14 c15 c16 c17
    replace hz5 := Zq c17 hz5
    try rw [c17] at c14
    try rw [c17] at c15
    try rw [c17] at c16
    rcases Bool.eq_false_or_eq_true a2 with c18 | c18
    ·replace hz5 := Zr c18 hz5
     try rw [c18] at c14
     try rw [c18] at c15
     try rw [c18] at c16
     try rw [c18] at c17
     rcases Bool.eq_false_or_eq_true (a3.E.Kind != 0) with c19 | c19
     ·replace hz5 := Zr c19 hz5
      try rw [c19] at c14
      try rw [c19] at c15
      try rw [c19] at c16
      try rw [c19] at c17
      try rw [c19] at c18
      refine Z8w [none, none, none, none, none, none, none, none, none, none, none, some true, some true, some true, some true, some true, some true, some true, some false, some false, some false, some false, some true, some true, some true] c14 c15 c16 c17 c18 c19 ?_
      refine zG ?_
      exact Yet hz5 c14 c15 c16 c17 c18 c19
     replace hz5 := Zq c19 hz5
     try rw [c19] at c14
     try rw [c19] at c15
     try rw [c19] at c16
     try rw [c19] at c17
     try rw [c19] at c18
     obtain ⟨y10, hy10, hz5⟩ := bC hz5
     refine Z8w [none, none, none, none, none, none, none, none, none, none, none, some true, some true, some true, some true, some true, some true, some true, some true, some true, some true, some true, some true, some true, some true] c14 c15 c16 c17 c18 c19 ?_
     refine zG ?_
     refine (Kj hy10).then ?_
     refine zX6 c14 c15 c16 c17 c18 c19 ?_
     refine zG ?_
     exact Yet hz5 c14 c15 c16 c17 c18 c19
    replace hz5 := Zq c18 hz5
    try rw [c18] at c14
    try rw [c18] at c15
    try rw [c18] at c16
    try rw [c18] at c17
    refine Zu6 [none, none, none, none, none, none, none, none, none, none, none, some true, some true, some false, some false, some false, some false, some false, some false, some false, some false, some false, some false, some true, some true] c14 c15 c16 c17 c18 ?_
    refine zG ?_
    exact Zu5 hz5 c14 c15 c16 c17 c18
   replace hz5 := Zq c16 hz5
   try rw [c16] at c14
   try rw [c16] at c15
   rcases Bool.eq_false_or_eq_true a2 with c20 | c20
   ·replace hz5 := Zr c20 hz5
    try rw [c20] at c14
    try rw [c20] at c15
    try rw [c20] at c16
    rcases Bool.eq_false_or_eq_true (a3.E.Kind != 0) with c21 | c21
    ·replace hz5 := Zr c21 hz5
     try rw [c21] at c14
     try rw [c21] at c15
     try rw [c21] at c16
     try rw [c21] at c20
     refine Zu6 [none, none, none, none, none, none, none, none, none, none, none, some true, some true, some true, some true, some true, some true, some true, some false, some false, some false, some false, some true, some true, some true] c14 c15 c16 c20 c21 ?_
     refine zG ?_
     exact Zu5 hz5 c14 c15 c16 c20 c21
    replace hz5 := Zq c21 hz5
    try rw [c21] at c14
    try rw [c21] at c15
    try rw [c21] at c16
    try rw [c21] at c20
    obtain ⟨y11, hy11, hz5⟩ := bC hz5
    refine Zu6 [none, none, none, none, none, none, none, none, none, none, none, some true, some true, some true, some true, some true, some true, some true, some true, some true, some true, some true, some true, some true, some true] c14 c15 c16 c20 c21 ?_
    refine zG ?_
    refine (Kj hy11).then ?_
    refine zX5 c14 c15 c16 c20 c21 ?_
    refine zG ?_
    exact Zu5 hz5 c14 c15 c16 c20 c21
   replace hz5 := Zq c20 hz5
   try rw [c20] at c14
   try rw [c20] at c15
   try rw [c20] at c16
   refine Zos [none, none, none, none, none, none, none, none, none, none, none, some true, some true, some false, some false, some false, some false, some false, some false, some false, some false, some false, some false, some true, some true] c14 c15 c16 c20 ?_
   refine zG ?_
   exact Zor hz5 c14 c15 c16 c20
  replace hz5 := Zq c14 hz5
  rcases Bool.eq_false_or_eq_true a1 with c22 | c22
  ·replace hz5 := Zr c22 hz5
   try rw [c22] at c14
   rcases Bool.eq_false_or_eq_true (decide (0 < (a3.L.length : Int))) with c23 | c23
   ·replace hz5 := Zr c23 hz5
    try rw [c23] at c14
    try rw [c23] at c22
    refine Zgh [none, none, none, none, none, none, none, none, none, none, none, some false, some false, some false, some false, some false, some false, some false, some false, some false, some false, some false, some false, some false, some false] c14 c22 c23 ?_
    refine zG ?_
    exact Zj0 hz5 c14 c22 c23
   replace hz5 := Zq c23 hz5
   try rw [c23] at c14
   try rw [c23] at c22
   rcases Bool.eq_false_or_eq_true a2 with c24 | c24
   ·replace hz5 := Zr c24 hz5
    try rw [c24] at c14
    try rw [c24] at c22
    try rw [c24] at c23
    rcases Bool.eq_false_or_eq_true (a3.E.Kind != 0) with c25 | c25
    ·replace hz5 := Zr c25 hz5
     try rw [c25] at c14
     try rw [c25] at c22
     try rw [c25] at c23
     try rw [c25] at c24
     refine Zu6 [none, none, none, none, none, none, none, none, none, none, none, some true, some true, some true, some true, some true, some true, some true, some false, some false, some false, some false, some true, some true, some true] c14 c22 c23 c24 c25 ?_
     refine zG ?_
     exact Zu5 hz5 c14 c22 c23 c24 c25
    replace hz5 := Zq c25 hz5
    try rw [c25] at c14
    try rw [c25] at c22
    try rw [c25] at c23
    try rw [c25] at c24
    obtain ⟨y12, hy12, hz5⟩ := bC hz5
    refine Zu6 [none, none, none, none, none, none, none, none, none, none, none, some true, some true, some true, some true, some true, some true, some true, some true, some true, some true, some true, some true, some true, some true] c14 c22 c23 c24 c25 ?_
    refine zG ?_
    refine (Kj hy12).then ?_
    refine zX5 c14 c22 c23 c24 c25 ?_
    refine zG ?_
    exact Zu5 hz5 c14 c22 c23 c24 c25
   replace hz5 := Zq c24 hz5
   try rw [c24] at c14
   try rw [c24] at c22
   try rw [c24] at c23
   refine Zos [none, none, none, none, none, none, none, none, none, none, none, some true, some true, some false, some false, some false, some false, some false, some false, some false, some false, some false, some false, some true, some true] c14 c22 c23 c24 ?_
   refine zG ?_
   exact Zor hz5 c14 c22 c23 c24
  replace hz5 := Zq c22 hz5
  try rw [c22] at c14
  rcases Bool.eq_false_or_eq_true a2 with c26 | c26
  ·replace hz5 := Zr c26 hz5
   try rw [c26] at c14
   try rw [c26] at c22
   rcases Bool.eq_false_or_eq_true (a3.E.Kind != 0) with c27 | c27
   ·replace hz5 := Zr c27 hz5
    try rw [c27] at c14
    try rw [c27] at c22
    try rw [c27] at c26
    refine Zos [none, none, none, none, none, none, none, none, none, none, none, some true, some true, some true, some true, some true, some true, some true, some false, some false, some false, some false, some true, some true, some true] c14 c22 c26 c27 ?_
    refine zG ?_
    exact Zor hz5 c14 c22 c26 c27
   replace hz5 := Zq c27 hz5
   try rw [c27] at c14
   try rw [c27] at c22
   try rw [c27] at c26
   obtain ⟨y13, hy13, hz5⟩ := bC hz5
   refine Zos [none, none, none, none, none, none, none, none, none, none, none, some true, some true, some true, some true, some true, some true, some true, some true, some true, some true, some true, some true, some true, some true] c14 c22 c26 c27 ?_
   refine zG ?_
   refine (Kj hy13).then ?_
   refine zX4 c14 c22 c26 c27 ?_
   refine zG ?_
   exact Zor hz5 c14 c22 c26 c27
  replace hz5 := Zq c26 hz5
  try rw [c26] at c14
  try rw [c26] at c22
  refine Zgh [none, none, none, none, none, none, none, none, none, none, none, some true, some true, some false, some false, some false, some false, some false, some false, some false, some false, some false, some false, some true, some true] c14 c22 c26 ?_
  refine zG ?_
  exact Zj0 hz5 c14 c22 c26
 exact Y4 [(vB z5)]
theorem Zt4 : ∀ k, (Gb ((Zn k).1)) ∧ (Gc ((Zn k).2.1)) ∧ (Jv ((Zn k).2.2.1)) ∧ (Kp ((Zn k).2.2.2.1)) ∧ (Ve ((Zn k).2.2.2.2.1)) ∧ (Jw ((Zn k).2.2.2.2.2)) := fun k => by
 induction k with
 | zero => exact ⟨@fun a0 r O n h => (nomatch (show (none : Option _) = some _ from h)), @fun a0 a1 r O n h => (nomatch (show (none : Option _) = some _ from h)), @fun a0 a1 r O n h => (nomatch (show (none : Option _) = some _ from h)), @fun a0 a1 r O n h => (nomatch (show (none : Option _) = some _ from h)), @fun a0 a1 a2 r O n h => (nomatch (show (none : Option _) = some _ from h)), @fun a0 a1 a2 a3 r O n h => (nomatch (show (none : Option _) = some _ from h))⟩
 | succ k ih => exact ⟨@fun a0 r O n h => Zy8 (ih.1) (ih.2.1) (ih.2.2.1) (ih.2.2.2.1) (ih.2.2.2.2.1) (ih.2.2.2.2.2)  h, @fun a0 a1 r O n h => Zy9 (ih.1) (ih.2.1) (ih.2.2.1) (ih.2.2.2.1) (ih.2.2.2.2.1) (ih.2.2.2.2.2)  h, @fun a0 a1 r O n h => Zq0 (ih.1) (ih.2.1) (ih.2.2.1) (ih.2.2.2.1) (ih.2.2.2.2.1) (ih.2.2.2.2.2)  h, @fun a0 a1 r O n h => Zsf (ih.1) (ih.2.1) (ih.2.2.1) (ih.2.2.2.1) (ih.2.2.2.2.1) (ih.2.2.2.2.2)  h, @fun a0 a1 a2 r O n h => Zua (ih.1) (ih.2.1) (ih.2.2.1) (ih.2.2.2.1) (ih.2.2.2.2.1) (ih.2.2.2.2.2)  h, @fun a0 a1 a2 a3 r O n h => Zq1 (ih.1) (ih.2.1) (ih.2.2.1) (ih.2.2.2.1) (ih.2.2.2.2.1) (ih.2.2.2.2.2)  h⟩
theorem Zz6 {a0 : Zc} {r : Bool} {O : Objs} {n : Nat} (h : Zmh a0 = some r) : GTo Try.prog 23 [.agg (Zi a0)] O n ((vB r)) O n := by
 obtain ⟨k, hk⟩ := Zaf h
 exact (Zt4 k).1  hk
theorem Jz {a0 : (List Int)} {a1 : (List Int)} {r : Bool} {O : Objs} {n : Nat} (h : Qa a0 a1 = some r) : GTo Try.prog 76 [(sL (eI .u64) a0), (sL (eI .u64) a1)] O n ((vB r)) O n := by
 unfold Qa at h
 refine zFn Try.call76 Try.func76 fun hU hN0 hN => ?_
 show W _ _ _ _ ⟨26, [], [(0, (sL (eI .u64) a0)), (1, (sL (eI .u64) a1))]⟩ (Zv O n []) _
 refine zQ [0, 1] ?_
 refine Zl ?_
 refine zQ [0, 1, 10] ?_
 refine Zs (t := ((a0.length : Int) != (a1.length : Int))) rfl (fun c8 => ?_) (fun c8 => ?_)
 ·replace h := Zr c8 h
  refine zQ [4] ?_
  exact Y4 [(vB false)]
 replace h := Zq c8 h
 refine Jq [0, 1] [] ?_
 refine Zl ?_
 refine zQd [0, 1, 12, 13] [0, 1, 12, 13] [] ?_
 obtain ⟨z7, hz7, h⟩ := bC h
 refine Gu (J := (Xs (fun z7 => JR n (⟨26, [], [(4, (vB false))]⟩ : Env) (Zv O n []) n) (fun z7 => JX 0 n (⟨26, [], []⟩ : Env) (Zv O n []) n))) (z := z7) ?_ fun hw => ?_
 ·refine Y9 hz7 (fun s0_ => ⟨26, [], [(0, (sL (eI .u64) a0)), (1, (sL (eI .u64) a1)), (12, (vI (a0.length : Int))), (13, (vI s0_))]⟩) (fun s0_ => (Zv O n [])) (Xs (fun z7 => JR n (⟨26, [], [(4, (vB false))]⟩ : Env) (Zv O n []) n) (fun z7 => JX 0 n (⟨26, [], []⟩ : Env) (Zv O n []) n)) ?_
  intro s0_ x0_ hs0_
  unfold Qn at hs0_
  try dsimp only
  refine zQ [0, 1, 12, 13, 14] ?_
  refine Zl ?_
  refine Zs (t := (decide (s0_ < (a0.length : Int)))) rfl (fun c6 => ?_) (fun c6 => ?_)
  ·replace hs0_ := Zr c6 hs0_
   refine Jq [0, 1, 12, 13] [] ?_
   refine Zl ?_
   refine Yl ?_
   refine zQ [0, 1, 5, 12, 13] ?_
   obtain ⟨x3, hx3, ax3, bx3, cx3, hs0_⟩ := bE (f := (eI .u64)) Zhf (fun _ => rfl) (by decide) hs0_
   obtain ⟨x4, hx4, ax4, bx4, cx4, hs0_⟩ := bE (f := (eI .u64)) Zhf (fun _ => rfl) (by decide) hs0_
   refine Zno [0, 1, 12, 13, 24] (K9 Z0 (by kernel_rfl) [] (by kernel_rfl) ?_)
   refine zF6 ax3 bx3 cx3 ax4 bx4 cx4 ?_
   refine Zs (t := (x3 != x4)) rfl (fun c5 => ?_) (fun c5 => ?_)
   ·replace hs0_ := Zr c5 hs0_
    refine zQ [4] ?_
    refine zW ?_
    exact zEy hs0_
   replace hs0_ := Zq c5 hs0_
   refine Jq [0, 1, 12, 13] [] ?_
   refine zR ?_
   exact zEn hs0_
  replace hs0_ := Zq c6 hs0_
  exact zEx hs0_
 rcases z7 with z7 | z7
 ·dsimp only [Xs] at hw h
  refine Jc hw ?_
  try simp only [Y2, Ye, ↓reduceIte, Nat.reduceEqDiff]
  exact Ziy [(vB false)]
 dsimp only [Xs] at hw h
 refine Yu hw ?_
 try simp only [Y2, Ye, ↓reduceIte, Nat.reduceEqDiff]
 refine zD [] [] ?_
 refine zQ [4] ?_
 exact Y4 [(vB true)]
end Go.Proofs.Ytgpaglmhkklneaa
