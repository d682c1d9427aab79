/- Part BM3 of this seat's mirrors: functions of the seat's program, and the plain functions that they are; each theorem bears its own conditions. -/
import Derived.Test.YtgpaglmhkklneaaBE
import Derived.Test.YtgpaglmhkklneaaBM1
namespace Go.Proofs.Ytgpaglmhkklneaa
open Go.RowKit
set_option linter.unusedVariables false
set_option linter.unusedSimpArgs false
set_option maxRecDepth 100000
set_option maxHeartbeats 4000000
attribute [local push_cast] Try.results68 Try.results77 Try.results78 Try.results79 Try.results80 Try.results81 Try.results82 Try.results83 Try.results84 Try.results85 vI vB nV sL oR Zi Za7 Yq Ze Gs Vh Zvu Zvt Zwm Zwl Y2 Ye Zrw Zl6 Zl5 onW Q0 Zgw Zfr Zus Zt1 Zps Zpw Zpr Zpv Zs6 Zs2 Zpu Zs5 Zs4 Zs3 Zpt Zs0 Zm6 evS wok Kb Op.operands Call.operands gop onK onP atK List.all_cons List.all_nil Bool.and_true Bool.true_and Bool.and_self Value.oneCell' List.take_zero List.take_succ_cons List.take_nil List.drop_zero List.drop_succ_cons List.drop_nil List.append_nil Nat.add_zero Nat.zero_add Zbj Yy ev Kr Zc3 Zvn Zvm Zvs Zvq Zvr Zvo Zvp Zvl Zu8 Zyp Z1q Zl9 Zgy Zla Zgx Zpc Zjb Zj7 Zkc Zl0 Zlw Zka Zlz Zly Zlx Zj9 Zlu Zj8 Zkb Ziv Zlv Zn1 Zl7 Zeh Zl8 Zei Zn0 Zl4 Zz2 bLo bHi bMx Zg0 Zny Z4b Zl3 Znz Ziw Zc4 Zyr Z4d Zl2 Zi8 Z4h Zgv Z5w Zr1 Zr5 Zr0 Zr4 Zv9 Zv5 Zv3 Zpe Zr2 Zv8 Zv7 Zv6 Zr3 Zvz Zv2 Zvy Zv1 Z14 Z1z Z1y Zv0 Z12 Z13 Zv4 Znp gone Zsr Zmt Zms pop TK.isAgg Zwf Zwj Zwe Zwi Zsj Z2n Z2j Zwh Z2m Z2l Z2k Zwg Z2i G.under G.unders List.getD_cons_zero List.getD_cons_succ List.set_cons_zero List.set_cons_succ List.map_cons List.map_nil List.toList_toArray Array.toList_append Option.toArray_none Option.toArray_some Array.toList_map Option.map_some Option.map_none Option.bind_some Option.bind_none List.getElem?_cons_zero List.getElem?_cons_succ List.getElem?_nil List.nil_append List.cons_append List.replicate_succ List.replicate_zero List.length_cons List.length_nil and_true true_and and_false false_and Bool.true_eq_false Bool.false_eq_true forall_const false_implies implies_true IntKind.bits if_true if_false ite_true ite_false eq_self true_implies false_or or_false or_true true_or not_true_eq_false not_false_eq_true decide_true decide_false decide_eq_true_eq decide_eq_false_iff_not beq_iff_eq bne_iff_ne ne_eq Bool.not_eq_true Bool.not_eq_false beq_eq_false_iff_ne bne_eq_false_iff_eq beq_self_eq_true bne_self_eq_false Option.some.injEq exists_eq_left' exists_eq_left ge_iff_le gt_iff_lt decide_not Bool.not_true Bool.not_false imp_self Z1s cond_true cond_false Ycm Ycl Bool.not_not Bool.and_false Bool.false_and Bool.or_true Bool.true_or Bool.or_false Bool.false_or Kl Vq Vr Ka Yo Yc Option.join_some Nat.add_assoc Int.toNat_natCast eI eB eS eL Z5 Zlb Zke Zvx Zvv Zvw Z54 Z9d Zln Zkl Zwt Zwr Zws Z2h Zp5 Z0q Zqk Zzz Ziz Zyj List.length_append G.agg.injEq G.row.injEq G.ref.injEq G.val.injEq G.sl.injEq G.tup.injEq Value.int.injEq Value.bool.injEq Value.string.injEq List.cons.injEq exists_and_left exists_const List.flatten_cons List.flatten_nil Int.le_refl Nat.le_refl Xd Z6 Z8 Bool.not_eq_true' Bool.not_eq_false' Zx0 Zoq Z3p Z3u Z3o Z3t Z8s Z8n List.size_toArray Zue Zux G.ren G.rens Zzh Zjv Zwv Zvj Zvk Zs1 Z3v Zga G.fn.injEq Zto Ztp Zxz Z8o Ztn Z3s Z8r Z8q Z8p Z3q Z18 Z62 Option.join_none Z4 Zar undef Zn5 Arr.len Arr.put_eq Zlm Zpi Zmp Zkk Zwq Zwo Zwp onB Z53 Zyo Zsw Zo9 Zq7 Zq8 Zq9 Zra Zrb Zrc Zpf Zpl Zpj Zmr Zkm Zpk Zsq Zsp Zso Zsn Z9c Ya9 Z2g Z0a Zdf Z2a Zr7 Zpm Zmq Z4y Zu0 Zl1 Znx Zh7 Zoi Zrd Zre Zrf Zrg Zou Zov Zow Zox Zoy Zoz Zo0 Zo1 Zo2 Zo3 Zo4 Zo5 Zo6 Zip prT Zj1 Ydr Z3e Z9p Z3f Yds Z3g Z3d Z3h Ydt Z3i Ydu Z3j Ydv Z3k Ydw Z3l Z7q Zwz Z7r Zw0 Z7s Zw1 Z7t Zw2 Z7u Zw3 Z7v Zw4 Z7w Zw5 Z7x Zw6 Z7y Zw7 Z7z Zw8 Z70 Zw9 Z71 Zpy Z08 Zf1 Z72 Zxa Up Zxb Z73 Zpz Z74 Zxc Z75 Zxd Z76 Zxe Z77 Zxf Z78 Zxg Ziu Zxh Z79 Zxi Z8a Zxj Z8b Zxk Zhf Zxl Z8c Zxm Zu1 Zxn Z8d Zxo Z8e Zxp Z8f Zxq Zon Zxr Z8g Zxs Zhg Zxt Z8h Zxu Z8i Zxv Z8j Zxw Z09 Ztm Z8k Zxx Z8l Zxy Z20 Zs9 Z21 Zta Z22 Ztb Z23 Ztc Z24 Ztd Z25 Zte Z26 Ztf Z27 Ztg Z28 Zth Z29 Zti Z3a Ztj Z3b Ztk Z3c Ztl Za Yx Znf Znd Zmc Zmo Znh Zku Zkr Zkp Zna Zfh Zff Ze4 Ze9 Zfj Zea Zd8 Zd6 Zfd Zne Znc Zmb Zmn Zng Zkt Zkq Zko Zm9 Zh Zd Zk Zg Xw Xe Qr Yb Zb6 Zb4 Zbk Zbx Zb8 Za0 Zax Zav Zb1 Zco Zcn Zck Zcl Zcp Zb3 Zb0 Zbz Zcm Zhk Zhj Zg4 Zha Zhl Zf2 Zf0 Zfz Zhi Zfg Zfe Ze3 Ze8 Zfi Zd9 Zd7 Zd5 Zfc Yn Zb7 Zb5 Zbl Zby Zb9 Za1 Zay Zaw Zb2 Yj Za3 Za2 Zas Zau Za4 Gn Gm Gl Zaz U3 U2 Us Uz U5 Ud Uc Ub U1 Zp2 Zp1 Zpd Zph Zp3 Znb Zmx Zmw Zp0 Zci
def Zin (Kk : (Zb → Zb → Option Bool)) : Prop := ∀ {a0 : Zb} {a1 : Zb} {r : Bool} {O : Objs} {n : Nat}, Kk a0 a1 = some r → GTo Try.prog 68 [.agg (Ze a0), .agg (Ze a1)] O n ((vB r)) O n
def Xf (Zw : ((List Zb) → (List Zb) → Option Bool)) : Prop := ∀ {a0 : (List Zb)} {a1 : (List Zb)} {r : Bool} {O : Objs} {n : Nat}, Zw a0 a1 = some r → GTo Try.prog 77 [(sL Za a0), (sL Za a1), .fn 68 0 []] O n ((vB r)) O n
theorem Zzb {Kk : (Zb → Zb → Option Bool)} {Zw : ((List Zb) → (List Zb) → Option Bool)} (Znl : Zin Kk) (Xg : Xf Zw) {a0 : Zb} {a1 : Zb} {r : Bool} {O : Objs} {n : Nat} (h : Zgn Kk Zw a0 a1 = some r) : GTo Try.prog 68 [.agg (Ze a0), .agg (Ze a1)] O n ((vB r)) O n := by
 unfold Zgn at h
 refine zFn Try.call68 Try.func68 fun hU hN0 hN => ?_
 show W _ _ _ _ ⟨44, [], [(0, .agg (Ze a0)), (1, .agg (Ze a1))]⟩ (Zv O n []) _
 refine zQ [2, 3] ?_
 refine Zl ?_
 refine zQ [2, 3, 9] ?_
 refine Zs (t := (a0.Kind != a1.Kind)) rfl (fun c31 => ?_) (fun c31 => ?_)
 ·replace h := Zr c31 h
  refine zQ [4] ?_
  exact Y4 [(vB false)]
 replace h := Zq c31 h
 refine Jq [2, 3] [true, true] ?_
 refine Zl ?_
 refine zQ [2, 3, 11] ?_
 refine Yl ?_
 refine zQ [2, 3, 11, 12] ?_
 refine Zs (t := (a0.Kind == 0)) rfl (fun c30 => ?_) (fun c30 => ?_)
 ·replace h := Zr c30 h
  refine zQ [4] ?_
  exact Y4 [(vB true)]
 replace h := Zq c30 h
 refine zQ [2, 3, 14] ?_
 refine Zs (t := (a0.Kind == 1)) rfl (fun c29 => ?_) (fun c29 => ?_)
 ·replace h := Zr c29 h
  obtain ⟨z7, hz7, h⟩ := bC h
  refine Y6 (E' := ⟨44, [], [(4, (vB z7))]⟩) (O' := (Zv O n [none, none])) (n0 := (n + 2)) ?_ ?_
  ·obtain ⟨y14, hy14, hz7⟩ := bC hz7
   obtain ⟨y15, hy15, hz7⟩ := bC hz7
   obtain ⟨y16, hy16, hz7⟩ := bC hz7
   rcases Bool.eq_false_or_eq_true y16 with c20 | c20
   ·replace hz7 := Zr c20 hz7
    obtain ⟨y17, hy17, hz7⟩ := bC hz7
    obtain ⟨y18, hy18, hz7⟩ := bC hz7
    obtain ⟨y19, hy19, hz7⟩ := bC hz7
    refine K9 Z0 (by kernel_rfl) [some true, some true, some true, some true, some true, some true, some true] (by kernel_rfl) ?_
    refine zX1 c20 ?_
    refine PCall.of (Zbw hy14) ?_
    refine zX1 c20 ?_
    refine PCall.of (Zbw hy15) ?_
    refine zX1 c20 ?_
    refine PCall.of (Jz hy16) ?_
    refine zX1 c20 ?_
    refine PCall.of (Zh0 hy17) ?_
    refine zX1 c20 ?_
    refine PCall.of (Zh0 hy18) ?_
    refine zX1 c20 ?_
    refine PCall.of (Xg hy19) ?_
    refine zX1 c20 ?_
    exact Jb hz7 c20
   replace hz7 := Zq c20 hz7
   refine K9 Z0 (by kernel_rfl) [some false, some false, some false, some false, some false, some false, some false] (by kernel_rfl) ?_
   refine zX1 c20 ?_
   refine PCall.of (Zbw hy14) ?_
   refine zX1 c20 ?_
   refine PCall.of (Zbw hy15) ?_
   refine zX1 c20 ?_
   refine PCall.of (Jz hy16) ?_
   refine zX1 c20 ?_
   exact Jb hz7 c20
  exact Y4 [(vB z7)]
 replace h := Zq c29 h
 refine Jq [2, 3] [true, true] ?_
 obtain ⟨z23, hz23, h⟩ := bC h
 refine Y6 (E' := ⟨44, [], [(4, (vB z23))]⟩) (O' := (Zv O n [none, none])) (n0 := (n + 2)) ?_ ?_
 ·obtain ⟨y26, hy26, hz23⟩ := bC hz23
  rcases Bool.eq_false_or_eq_true y26 with c28 | c28
  ·replace hz23 := Zr c28 hz23
   obtain ⟨y27, hy27, hz23⟩ := bC hz23
   refine K6 [some true, some true, some true, some true, some true] c28 ?_
   refine (Jz hy26).then ?_
   refine zX1 c28 ?_
   refine (Xg hy27).then ?_
   refine zX1 c28 ?_
   exact Jb hz23 c28
  replace hz23 := Zq c28 hz23
  refine K6 [some false, some false, some false, some false, some false] c28 ?_
  refine (Jz hy26).then ?_
  refine zX1 c28 ?_
  exact Jb hz23 c28
 exact Y4 [(vB z23)]
theorem Vo {Kk : (Zb → Zb → Option Bool)} {Zw : ((List Zb) → (List Zb) → Option Bool)} (Znl : Zin Kk) (Xg : Xf Zw) {a0 : (List Zb)} {a1 : (List Zb)} {r : Bool} {O : Objs} {n : Nat} (h : Ym Kk Zw a0 a1 = some r) : GTo Try.prog 77 [(sL Za a0), (sL Za a1), .fn 68 0 []] O n ((vB r)) O n := by
 unfold Ym at h
 refine zFn Try.call77 Try.func77 fun hU hN0 hN => ?_
 show W _ _ _ _ ⟨32, [], [(0, (sL Za a0)), (1, (sL Za a1)), (2, .fn 68 0 [])]⟩ (Zv O n []) _
 refine zQ [0, 1, 2] ?_
 refine Zl ?_
 refine zQ [0, 1, 2, 14] ?_
 refine Zs (t := ((a0.length : Int) != (a1.length : Int))) rfl (fun c10 => ?_) (fun c10 => ?_)
 ·replace h := Zr c10 h
  refine zQ [6] ?_
  exact Y4 [(vB false)]
 replace h := Zq c10 h
 refine Jq [0, 1, 2] [] ?_
 refine Zl ?_
 refine zQd [1, 2, 15, 16, 17] [1, 2, 15, 16, 17] [] ?_
 obtain ⟨z9, hz9, h⟩ := bC h
 refine Gu (J := (Xs (fun z9 => JR n (⟨32, [], [(6, (vB false))]⟩ : Env) (Zv O n []) n) (fun z9 => JX 0 n (⟨32, [], []⟩ : Env) (Zv O n []) n))) (z := z9) ?_ fun hw => ?_
 ·refine Y9 hz9 (fun s0_ => ⟨32, [], [(1, (sL Za a1)), (2, .fn 68 0 []), (15, (sL Za a0)), (16, (vI (a0.length : Int))), (17, (vI s0_))]⟩) (fun s0_ => (Zv O n [])) (Xs (fun z9 => JR n (⟨32, [], [(6, (vB false))]⟩ : Env) (Zv O n []) n) (fun z9 => JX 0 n (⟨32, [], []⟩ : Env) (Zv O n []) n)) ?_
  intro s0_ x0_ hs0_
  unfold Yg at hs0_
  try dsimp only
  refine zQ [1, 2, 15, 16, 17, 18] ?_
  refine Zl ?_
  refine Zs (t := (decide (s0_ < (a0.length : Int)))) rfl (fun c8 => ?_) (fun c8 => ?_)
  ·replace hs0_ := Zr c8 hs0_
   refine Jq [1, 2, 15, 16, 17] [] ?_
   refine Zl ?_
   refine Yl ?_
   refine Zl ?_
   obtain ⟨x2, hx2, ax2, bx2, cx2, hs0_⟩ := bE (f := Za) Up (fun _ => rfl) (by decide) hs0_
   refine Zc2 [] ax2 bx2 cx2 ?_
   refine zDs [1, 2, 7, 8, 15, 16, 17] [true] ?_
   obtain ⟨x4, hx4, ax4, bx4, cx4, hs0_⟩ := bE (f := Za) Up (fun _ => rfl) (by decide) hs0_
   refine Zc2 [] ax4 bx4 cx4 ?_
   refine zDs [1, 2, 8, 9, 15, 16, 17] [true, true] ?_
   obtain ⟨y6, hy6, hs0_⟩ := bC hs0_
   refine zCd (Znl hy6) [1, 2, 15, 16, 17, 30] [false, false] ?_
   refine Zs (t := (!y6)) rfl (fun c7 => ?_) (fun c7 => ?_)
   ·replace hs0_ := Zr c7 hs0_
    refine zQ [6] ?_
    refine zW ?_
    exact zEy hs0_
   replace hs0_ := Zq c7 hs0_
   refine Jq [1, 2, 15, 16, 17] [false, false] ?_
   refine zR ?_
   exact zEn hs0_
  replace hs0_ := Zq c8 hs0_
  exact zEx hs0_
 rcases z9 with z9 | z9
 ·dsimp only [Xs] at hw h
  refine Jc hw ?_
  try simp only [Y2, Ye, ↓reduceIte, Nat.reduceEqDiff]
  exact Ziy [(vB false)]
 dsimp only [Xs] at hw h
 refine Yu hw ?_
 try simp only [Y2, Ye, ↓reduceIte, Nat.reduceEqDiff]
 refine zD [] [] ?_
 refine zQ [6] ?_
 exact Y4 [(vB true)]
theorem Zlg : ∀ k, (Zin ((X4 k).1)) ∧ (Xf ((X4 k).2)) := fun k => by
 induction k with
 | zero => exact ⟨@fun a0 a1 r O n h => (nomatch (show (none : Option _) = some _ from h)), @fun a0 a1 r O n h => (nomatch (show (none : Option _) = some _ from h))⟩
 | succ k ih => exact ⟨@fun a0 a1 r O n h => Zzb (ih.1) (ih.2)  h, @fun a0 a1 r O n h => Vo (ih.1) (ih.2)  h⟩
theorem Zz7 {a0 : Zb} {a1 : Zb} {r : Bool} {O : Objs} {n : Nat} (h : Zmi a0 a1 = some r) : GTo Try.prog 68 [.agg (Ze a0), .agg (Ze a1)] O n ((vB r)) O n := by
 obtain ⟨k, hk⟩ := Zaf h
 exact (Zlg k).1  hk
theorem Vy {a0 : (List Zb)} {a1 : (List Zb)} {r : Bool} {O : Objs} {n : Nat} (h : Xk a0 a1 = some r) : GTo Try.prog 77 [(sL Za a0), (sL Za a1), .fn 68 0 []] O n ((vB r)) O n := by
 obtain ⟨k, hk⟩ := Zaf h
 exact (Zlg k).2  hk
theorem Zc7 {a0 r : List Int} {O : Objs} {n : Nat} (h : U9 a0 = some r) : GTo Try.prog 78 [(sL (eI .u64) a0)] O n (.row n r.length) (Zv O n [some (oR 50 1 (eI .u64) r)]) (n + 1) := by
 have h1 := Zx5 h
 have h2 := Zx6 h
 have h3 := Zrj h
 rw [List.nil_append] at h3
 subst h3
 simp only [List.length_nil, Nat.zero_add] at h1 h2
 clear h
 refine zFn Try.call78 Try.func78 fun hU hN0 hN => ?_
 show W _ _ _ _ ⟨8, [], [(0, (sL (eI .u64) r))]⟩ (Zv O n []) _
 refine zQ [0] ?_
 refine Z5j 0 r.length (fl (eI .u64) r) rfl (Nat.le_of_ble_eq_true rfl) (Yf Ky _) fun A c hA => ?_
 refine zQ [0, 4] ?_
 cases A with
 | none =>
  obtain rfl : r = [] := List.eq_nil_of_length_eq_zero (hA rfl)
  refine Zs (t := true) rfl (fun _ => ?_) (fun hc => by cases hc)
  refine zQ [2] ?_
  refine zW ?_
  refine Zrp (k := 1) (L3 := [some ⟨true, 50, 1, 0, []⟩]) (E2 := ⟨8, [], [(2, .row n 0), (2, nV)]⟩) (n3 := (n + 1)) (.inr rfl) hU rfl [.row n 0] ?_ ?_
  ·have ha := Zo7 (ba := n) (E := ⟨8, [], [(2, .val (.slice none 0 0))]⟩) (O := (Zv O n [])) (n := n) 2 50 1 rfl (by omega)
   simp only [Yc] at ha
   exact ha
  simp only [push_cast, seval, ↓reduceIte, Zf, Try.results78, hN0, hN]
 | some A =>
  refine Zs (t := false) rfl (fun hc => by cases hc) (fun _ => ?_)
  refine zK ?_
  refine And.intro rfl (And.intro (Nat.le_of_ble_eq_true rfl) ?_)
  refine Zl ?_
  refine Ys Z0 [] ?_
  simp only [push_cast, seval, ↓reduceIte, Zf, h1, h2, hN0, hN]
  refine zW ?_
  refine Zyi (.inr rfl) hU rfl [.row n r.length] (by omega) ?_
  simp only [push_cast, seval, ↓reduceIte, Zf, Try.results78, hN0, hN]
theorem K3 {a0 r : List Zb} {O : Objs} {n : Nat} (h : Vd a0 = some r) : GTo Try.prog 79 [(sL Za a0)] O n (.row n r.length) (Zv O n [some (oR 25 3 Za r)]) (n + 1) := by
 have h1 := Zx5 h
 have h2 := Zx6 h
 have h3 := Zrj h
 rw [List.nil_append] at h3
 subst h3
 simp only [List.length_nil, Nat.zero_add] at h1 h2
 clear h
 refine zFn Try.call79 Try.func79 fun hU hN0 hN => ?_
 show W _ _ _ _ ⟨8, [], [(0, (sL Za r))]⟩ (Zv O n []) _
 refine zQ [0] ?_
 refine Z5j 0 r.length (fl Za r) rfl (Nat.le_of_ble_eq_true rfl) (Yf Xh _) fun A c hA => ?_
 refine zQ [0, 4] ?_
 cases A with
 | none =>
  obtain rfl : r = [] := List.eq_nil_of_length_eq_zero (hA rfl)
  refine Zs (t := true) rfl (fun _ => ?_) (fun hc => by cases hc)
  refine zQ [2] ?_
  refine zW ?_
  refine Zrp (k := 1) (L3 := [some ⟨true, 25, 3, 0, []⟩]) (E2 := ⟨8, [], [(2, .row n 0), (2, nV)]⟩) (n3 := (n + 1)) (.inr rfl) hU rfl [.row n 0] ?_ ?_
  ·have ha := Zo7 (ba := n) (E := ⟨8, [], [(2, .val (.slice none 0 0))]⟩) (O := (Zv O n [])) (n := n) 2 25 3 rfl (by omega)
   simp only [Yc] at ha
   exact ha
  simp only [push_cast, seval, ↓reduceIte, Zf, Try.results79, hN0, hN]
 | some A =>
  refine Zs (t := false) rfl (fun hc => by cases hc) (fun _ => ?_)
  refine zK ?_
  refine And.intro rfl (And.intro (Nat.le_of_ble_eq_true rfl) ?_)
  refine Zl ?_
  refine Ys Z0 [] ?_
  simp only [push_cast, seval, ↓reduceIte, Zf, h1, h2, hN0, hN]
  refine zW ?_
  refine Zyi (.inr rfl) hU rfl [.row n r.length] (by omega) ?_
  simp only [push_cast, seval, ↓reduceIte, Zf, Try.results79, hN0, hN]
theorem Z2e {a0 : Zb} {a1 : Int} {r : Int} {O : Objs} {n : Nat} (h : Zid a0 a1 = some r) : GTo Try.prog 80 [.agg (Ze a0), (vI a1)] O n (.val (.int .u64 r)) O n := by
 unfold Zid at h
 refine zFn Try.call80 Try.func80 fun hU hN0 hN => ?_
 show W _ _ _ _ ⟨19, [], [(0, .agg (Ze a0)), (1, (vI a1))]⟩ (Zv O n []) _
 refine zQ [1, 2] ?_
 refine Zl ?_
 refine zQD [1, 2, 13] [none, none, none, none, none] ?_
 refine Zs (t := (cond (decide (a1 < 0)) true (decide ((a0.Words.length : Int) ≤ a1)))) rfl (fun c3 => ?_) (fun c3 => ?_)
 ·replace h := Zr c3 h
  refine zQ [4] ?_
  exact Y4 [.val (.int .u64 0)]
 replace h := Zq c3 h
 refine Jq [1, 2] [true] ?_
 obtain ⟨x2, hx2, ax2, bx2, cx2, h⟩ := bE (f := (eI .u64)) Zhf (fun _ => rfl) (by decide) h
 refine Zno [4] (Ys Z0 [] ?_)
 refine zF3 ax2 bx2 cx2 ?_
 exact Y4 [.val (.int .u64 x2)]
theorem Zhz {a0 : Int} {r : Bool} {O : Objs} {n : Nat} (h : Za9 a0 = some r) : GTo Try.prog 81 [(vI a0)] O n ((vB r)) O n := by
 unfold Za9 at h
 refine zFn Try.call81 Try.func81 fun hU hN0 hN => ?_
 show W _ _ _ _ ⟨9, [], [(0, (vI a0))]⟩ (Zv O n []) _
 refine zQ [0] ?_
 refine zQD [2] [none, none] ?_
 exact Y4 [(vB (cond (decide (a0 < 0)) true (decide (65534 < a0))))]
theorem Z4u {a0 : Int} {a1 : Int} {a2 : Int} {r : Int} {O : Objs} {n : Nat} (h : Zhw a0 a1 a2 = some r) : GTo Try.prog 83 [.val (.int .u64 a0), .val (.int .u64 a1), .val (.int .u8 a2)] O n (.val (.int .u64 r)) O n := by
 unfold Zhw at h
 refine zFn Try.call83 Try.func83 fun hU hN0 hN => ?_
 show W _ _ _ _ ⟨17, [], [(0, .val (.int .u64 a0)), (1, .val (.int .u64 a1)), (2, .val (.int .u8 a2))]⟩ (Zv O n []) _
 refine zQ [0, 1, 2] ?_
 refine Zl ?_
 obtain ⟨y2, hy2, h⟩ := bC h
 refine zCd (Zml hy2) [0, 1, 7] [] ?_
 refine zQ [6] ?_
 exact Y4 [.val (.int .u64 (IntKind.u64.wrap (Zy0 .u64 (IntKind.u64.wrap (Z0t .u64 a0 y2)) (IntKind.u64.wrap (Zgd .u64 a1 y2)))))]
theorem Zt7 {a0 : Zb} {a1 : Int} {a2 : Int} {r : Zb} {O : Objs} {n : Nat} {i0 j0_0 j0_1 : Nat} (hi0 : i0 < n) (Ji : j0_0 < n) (Gp : j0_1 < n) (Xy : i0 ≠ j0_0) (Qk : i0 ≠ j0_1) (Qj : j0_0 ≠ j0_1) (ho0 : O i0 = some ⟨false, 25, 3, 1, [(vI a0.Kind), .row j0_1 a0.Words.length, .row j0_0 a0.Kids.length]⟩) (Js : O j0_0 = some (oR 25 3 Za a0.Kids)) (Zcd : O j0_1 = some (oR 50 1 (eI .u64) a0.Words)) (h : Zdl a0 a1 a2 = some r) : GTo Try.prog 82 [.ref i0 0, (vI a1), .val (.int .u64 a2)] O n (.tup []) (Zv (((O.upd j0_0 none).upd j0_1 none).upd i0 (some ⟨false, 25, 3, 1, [(vI r.Kind), .row (n + 1) r.Words.length, .row n r.Kids.length]⟩)) n [some (oR 25 3 Za r.Kids), some (oR 50 1 (eI .u64) r.Words)]) (n + 2) := by
 unfold Zdl at h
 refine Zi6 Z0 Try.call82 Try.func82 rfl (Nat.le_of_ble_eq_true rfl) (by omega) fun hU => ?_
 have e0 := X8 (ba := n) (E := ⟨40, [], Zc3 0 [.ref i0 0, .val (.int .i64 a1), .val (.int .u64 a2)]⟩) (O := (Zv O n [])) (n := n) (i := i0) (j := j0_0) (k := 2) (len := a0.Kids.length) (q := ⟨false, 25, 3, 1, [.val (.int .i64 a0.Kind), .row j0_1 a0.Words.length, .row j0_0 a0.Kids.length]⟩) (qj := ⟨true, 25, 3, a0.Kids.length, fl Za a0.Kids⟩) (by rw [Z6 _ hi0]; first | exact ho0 | exact Z4 _ _ _) rfl (by rw [Z6 _ Ji]; exact Js) Xy (by omega)
 simp only [Z8 _ _ Ji, Z8 _ _ hi0, Yo, Yc, Xd, K4 Xy, List.set_cons_zero, List.set_cons_succ, List.cons_append, List.nil_append, List.length_cons, List.length_nil, Nat.zero_add, Nat.reduceAdd, Nat.add_assoc] at e0
 refine Qc e0 ?_
 have e1 := X8 (ba := n) (E := ⟨40, [], Zc3 0 [.ref i0 0, .val (.int .i64 a1), .val (.int .u64 a2)]⟩) (O := (Zv ((O.upd j0_0 none).upd i0 (some ⟨false, 25, 3, 1, [.val (.int .i64 a0.Kind), .row j0_1 a0.Words.length, .row n a0.Kids.length]⟩)) n [some ⟨true, 25, 3, a0.Kids.length, fl Za a0.Kids⟩])) (n := (n + 1)) (i := i0) (j := j0_1) (k := 1) (len := a0.Words.length) (q := ⟨false, 25, 3, 1, [.val (.int .i64 a0.Kind), .row j0_1 a0.Words.length, .row n a0.Kids.length]⟩) (qj := ⟨true, 50, 1, a0.Words.length, fl (eI .u64) a0.Words⟩) (by rw [Z6 _ hi0]; first | exact ho0 | exact Z4 _ _ _) rfl (by rw [Z6 _ Gp, Yp _ _ (Ne.symm Qk), Yp _ _ (Ne.symm Qj)]; exact Zcd) Qk (by omega)
 simp only [Z8 _ _ Gp, Z8 _ _ hi0, Yo, Yc, Xd, K4 Qk, List.set_cons_zero, List.set_cons_succ, List.cons_append, List.nil_append, List.length_cons, List.length_nil, Nat.zero_add, Nat.reduceAdd, Nat.add_assoc] at e1
 refine Qc e1 ?_
 have hU := (Und.drop (Und.drop hU j0_0) j0_1)
 have hk0 : ∀ k, i0 < n + k := fun k => by omega
 have hN0 : ∀ o, Objs.upd ((O.upd j0_0 none).upd j0_1 none) i0 o n = none := fun o => Xr hU hi0 _ (Nat.le_refl _)
 have hN : ∀ o k, Objs.upd ((O.upd j0_0 none).upd j0_1 none) i0 o (n + k) = none := fun o k => Xr hU hi0 _ (Nat.le_add_right _ _)
 show W _ _ _ _ ⟨40, [], [(0, .ref i0 0), (1, (vI a1)), (2, .val (.int .u64 a2))]⟩ (Zv (((O.upd j0_0 none).upd j0_1 none).upd i0 (some ⟨false, 25, 3, 1, [(vI a0.Kind), .row (n + 1) a0.Words.length, .row n a0.Kids.length]⟩)) n [some (oR 25 3 Za a0.Kids), some (oR 50 1 (eI .u64) a0.Words)]) _
 refine Zl ?_
 refine zD [0, 1, 2] [true, true] ?_
 obtain ⟨z3, hz3, h⟩ := bC h
 refine Yu (E' := ⟨40, [], [(0, .ref i0 0), (1, (vI a1)), (2, .val (.int .u64 a2))]⟩) (O' := (Zv (((O.upd j0_0 none).upd j0_1 none).upd i0 (some ⟨false, 25, 3, 1, [(vI a0.Kind), .row (n + 1) z3.length, .row n a0.Kids.length]⟩)) n [some (oR 25 3 Za a0.Kids), some (oR 50 1 (eI .u64) z3)])) (n0 := (n + 2)) ?_ ?_
 ·refine Y9 hz3 (fun s0_ => ⟨40, [], [(0, .ref i0 0), (1, (vI a1)), (2, .val (.int .u64 a2))]⟩) (fun s0_ => (Zv (((O.upd j0_0 none).upd j0_1 none).upd i0 (some ⟨false, 25, 3, 1, [(vI a0.Kind), .row (n + 1) s0_.length, .row n a0.Kids.length]⟩)) n [some (oR 25 3 Za a0.Kids), some (oR 50 1 (eI .u64) s0_)])) (fun z3 => JX 0 n (⟨40, [], [(0, .ref i0 0), (1, (vI a1)), (2, .val (.int .u64 a2))]⟩ : Env) (Zv (((O.upd j0_0 none).upd j0_1 none).upd i0 (some ⟨false, 25, 3, 1, [(vI a0.Kind), .row (n + 1) z3.length, .row n a0.Kids.length]⟩)) n [some (oR 25 3 Za a0.Kids), some (oR 50 1 (eI .u64) z3)]) (n + 2)) ?_
  intro s0_ x0_ hs0_
  unfold Zag at hs0_
  try dsimp only
  refine Zl ?_
  refine Zno [0, 1, 2, 16] (Ys Z0 [none, none] ?_)
  refine zX2 hi0 hk0 ?_
  refine zG ?_
  refine Zs (t := (cond (decide ((s0_.length : Int) ≤ a1)) (a2 != 0) false)) rfl (fun c2 => ?_) (fun c2 => ?_)
  ·replace hs0_ := Zr c2 hs0_
   refine Jq [0, 1, 2] [true, true] ?_
   refine Yl ?_
   obtain ⟨l1, pl1, ql1, el1, hs0_⟩ := bA (k := 1) rfl hs0_
   refine Zu6 [] pl1 ql1 el1 hi0 hk0 ?_
   obtain rfl := sI hs0_
   refine And.intro rfl (Fit2.of (Z9 hU rfl rfl ?_) (by omega))
   exact Yfp pl1 ql1 el1 hi0 hk0
  replace hs0_ := Zq c2 hs0_
  refine zXt ?_
  obtain rfl := sI hs0_
  refine And.intro (fun h => by cases h) (And.intro rfl (Fit2.of (Z9 hU rfl rfl ?_) (by omega)))
  exact X3 hi0 hk0
 try simp only [Y2, Ye, ↓reduceIte, Nat.reduceEqDiff]
 refine zD [0, 1, 2] [true, true] ?_
 refine Gj [0, 1, 2, 32] hi0 hk0 ?_
 refine Zs (t := (decide (a1 < (z3.length : Int)))) rfl (fun c6 => ?_) (fun c6 => ?_)
 ·replace h := Zr c6 h
  obtain ⟨x4, hx4, ax4, bx4, cx4, h⟩ := bE (f := (eI .u64)) Zhf (fun _ => rfl) (by decide) h
  have gu5 : Kc (fl (eI .u64) z3) [.val (.int .u64 a2)] (Int.toNat a1 * 1) = some (fl (eI .u64) (Zh2 z3 a1 a2)) := Zlc (f := (eI .u64)) (ti := ⟨.bool, 1, 0, [], false⟩) (x := a2) (fun _ => rfl) (Zgz hx4)
  refine Ycd [] ax4 bx4 cx4 gu5 hi0 hk0 ?_
  obtain rfl := sI h
  refine X7 (k := 2) (i := i0) (q1 := ⟨false, 25, 3, 1, [(vI a0.Kind), .row (n + 1) (Zh2 z3 a1 a2).length, .row n a0.Kids.length]⟩) (L3 := [some (oR 25 3 Za a0.Kids), some (oR 50 1 (eI .u64) (Zh2 z3 a1 a2)), none]) (E2 := (⟨40, [], []⟩ : Env)) (n3 := (n + 3)) (.inl rfl) hU rfl [] ?_ ?_
  ·refine Fit2.trans (E' := (⟨40, [], []⟩ : Env)) (O' := (Zv (((O.upd j0_0 none).upd j0_1 none).upd i0 (some ⟨false, 25, 3, 1, [(vI a0.Kind), .row (n + 1) (Zh2 z3 a1 a2).length, .row n a0.Kids.length]⟩)) n [some (oR 25 3 Za a0.Kids), some (oR 50 1 (eI .u64) (Zh2 z3 a1 a2))])) (n' := (n + 2)) (Fit2.of (Z9 hU rfl rfl ?_) (by omega)) ?_
   ·exact Yd6 ax4 bx4 cx4 gu5 hi0 hk0
   refine Xc (k := 2) (k' := 3) hU [0, 1] [0, 1, 0] rfl rfl rfl rfl ⟨rfl, rfl⟩ ?_
   exact X3 hi0 hk0
  simp only [push_cast, seval, ↓reduceIte, Zf, Try.results82, hi0, hk0, hN0, hN]
 replace h := Zq c6 h
 refine zK ?_
 obtain rfl := sI h
 refine X7 (k := 2) (i := i0) (q1 := ⟨false, 25, 3, 1, [(vI a0.Kind), .row (n + 1) z3.length, .row n a0.Kids.length]⟩) (L3 := [some (oR 25 3 Za a0.Kids), some (oR 50 1 (eI .u64) z3), none]) (E2 := (⟨40, [], []⟩ : Env)) (n3 := (n + 3)) (.inl rfl) hU rfl [] ?_ ?_
 ·refine Fit2.trans (E' := (⟨40, [], []⟩ : Env)) (O' := (Zv (((O.upd j0_0 none).upd j0_1 none).upd i0 (some ⟨false, 25, 3, 1, [(vI a0.Kind), .row (n + 1) z3.length, .row n a0.Kids.length]⟩)) n [some (oR 25 3 Za a0.Kids), some (oR 50 1 (eI .u64) z3)])) (n' := (n + 2)) (Fit2.of (Z9 hU rfl rfl ?_) (by omega)) ?_
  ·exact X3 hi0 hk0
  refine Xc (k := 2) (k' := 3) hU [0, 1] [0, 1, 0] rfl rfl rfl rfl ⟨rfl, rfl⟩ ?_
  exact X3 hi0 hk0
 simp only [push_cast, seval, ↓reduceIte, Zf, Try.results82, hi0, hk0, hN0, hN]
theorem Zuv {a0 : Zb} {a1 : Int} {r : Zb} {O : Objs} {n : Nat} (h : Zje a0 a1 = some r) : GTo Try.prog 84 [.agg (Ze a0), (vI a1)] O n (.agg (Ze r)) O n := by
 unfold Zje at h
 refine zFn Try.call84 Try.func84 fun hU hN0 hN => ?_
 show W _ _ _ _ ⟨20, [], [(0, .agg (Ze a0)), (1, (vI a1))]⟩ (Zv O n []) _
 refine zQ [1, 2, 4] ?_
 refine Zl ?_
 refine zQD [1, 2, 4, 13] [none, none, none, none, none] ?_
 refine Zs (t := (cond (decide (a1 < 0)) true (decide ((a0.Kids.length : Int) ≤ a1)))) rfl (fun c3 => ?_) (fun c3 => ?_)
 ·replace h := Zr c3 h
  refine Zl ?_
  refine zRd [4] [false, true] ?_
  exact Y4 [.agg [(vI 0), nV, nV]]
 replace h := Zq c3 h
 refine Jq [1, 2, 4] [true, true] ?_
 refine Zl ?_
 obtain ⟨x2, hx2, ax2, bx2, cx2, h⟩ := bE (f := Za) Up (fun _ => rfl) (by decide) h
 refine Zc2 [] ax2 bx2 cx2 ?_
 refine zD [4] [false, true] ?_
 exact Y4 [.agg (Ze x2)]
theorem Zva {a0 : Zb} {a1 : Int} {a2 : Zb} {r : Zb} {O : Objs} {n : Nat} {i0 j0_0 : Nat} (hi0 : i0 < n) (Ji : j0_0 < n) (Xy : i0 ≠ j0_0) (ho0 : O i0 = some ⟨false, 25, 3, 1, [(vI a0.Kind), (sL (eI .u64) a0.Words), .row j0_0 a0.Kids.length]⟩) (Js : O j0_0 = some (oR 25 3 Za a0.Kids)) (h : Zel a0 a1 a2 = some r) : GTo Try.prog 85 [.ref i0 0, (vI a1), .agg (Ze a2)] O n (.tup []) (Zv ((O.upd j0_0 none).upd i0 (some ⟨false, 25, 3, 1, [(vI r.Kind), (sL (eI .u64) r.Words), .row n r.Kids.length]⟩)) n [some (oR 25 3 Za r.Kids)]) (n + 1) := by
 unfold Zel at h
 refine Zi6 Z0 Try.call85 Try.func85 rfl (Nat.le_of_ble_eq_true rfl) (by omega) fun hU => ?_
 have e0 := X8 (ba := n) (E := ⟨43, [], Zc3 0 [.ref i0 0, .val (.int .i64 a1), .agg [.val (.int .i64 a2.Kind), .sl a2.Words.length (fl (eI .u64) a2.Words), .sl a2.Kids.length (fl Za a2.Kids)]]⟩) (O := (Zv O n [])) (n := n) (i := i0) (j := j0_0) (k := 2) (len := a0.Kids.length) (q := ⟨false, 25, 3, 1, [.val (.int .i64 a0.Kind), .sl a0.Words.length (fl (eI .u64) a0.Words), .row j0_0 a0.Kids.length]⟩) (qj := ⟨true, 25, 3, a0.Kids.length, fl Za a0.Kids⟩) (by rw [Z6 _ hi0]; first | exact ho0 | exact Z4 _ _ _) rfl (by rw [Z6 _ Ji]; exact Js) Xy (by omega)
 simp only [Z8 _ _ Ji, Z8 _ _ hi0, Yo, Yc, Xd, K4 Xy, List.set_cons_zero, List.set_cons_succ, List.cons_append, List.nil_append, List.length_cons, List.length_nil, Nat.zero_add, Nat.reduceAdd, Nat.add_assoc] at e0
 refine Qc e0 ?_
 have hU := (Und.drop hU j0_0)
 have hk0 : ∀ k, i0 < n + k := fun k => by omega
 have hN0 : ∀ o, Objs.upd (O.upd j0_0 none) i0 o n = none := fun o => Xr hU hi0 _ (Nat.le_refl _)
 have hN : ∀ o k, Objs.upd (O.upd j0_0 none) i0 o (n + k) = none := fun o k => Xr hU hi0 _ (Nat.le_add_right _ _)
 show W _ _ _ _ ⟨43, [], [(0, .ref i0 0), (1, (vI a1)), (2, .agg (Ze a2))]⟩ (Zv ((O.upd j0_0 none).upd i0 (some ⟨false, 25, 3, 1, [(vI a0.Kind), (sL (eI .u64) a0.Words), .row n a0.Kids.length]⟩)) n [some (oR 25 3 Za a0.Kids)]) _
 refine Gj [0, 1, 5] hi0 hk0 ?_
 refine Zl ?_
 refine zD [0, 1, 5] [true, true] ?_
 obtain ⟨z5, hz5, h⟩ := bC h
 refine Yu (E' := ⟨43, [], [(0, .ref i0 0), (1, (vI a1)), (5, .ref (n + 1) 0)]⟩) (O' := (Zv ((O.upd j0_0 none).upd i0 (some ⟨false, 25, 3, 1, [(vI a0.Kind), (sL (eI .u64) a0.Words), .row n z5.length]⟩)) n [some (oR 25 3 Za z5), some ⟨false, 25, 3, 1, (Ze a2)⟩])) (n0 := (n + 2)) ?_ ?_
 ·refine Y9 hz5 (fun s0_ => ⟨43, [], [(0, .ref i0 0), (1, (vI a1)), (5, .ref (n + 1) 0)]⟩) (fun s0_ => (Zv ((O.upd j0_0 none).upd i0 (some ⟨false, 25, 3, 1, [(vI a0.Kind), (sL (eI .u64) a0.Words), .row n s0_.length]⟩)) n [some (oR 25 3 Za s0_), some ⟨false, 25, 3, 1, (Ze a2)⟩])) (fun z5 => JX 0 n (⟨43, [], [(0, .ref i0 0), (1, (vI a1)), (5, .ref (n + 1) 0)]⟩ : Env) (Zv ((O.upd j0_0 none).upd i0 (some ⟨false, 25, 3, 1, [(vI a0.Kind), (sL (eI .u64) a0.Words), .row n z5.length]⟩)) n [some (oR 25 3 Za z5), some ⟨false, 25, 3, 1, (Ze a2)⟩]) (n + 2)) ?_
  intro s0_ x0_ hs0_
  unfold Zbm at hs0_
  try dsimp only
  refine Zl ?_
  refine Zno [0, 1, 5, 17] (Ys Z0 [none, none, none] ?_)
  refine zX2 hi0 hk0 ?_
  refine zG ?_
  refine Zs (t := (cond (decide ((s0_.length : Int) ≤ a1)) (a2.Kind != 0) false)) rfl (fun c4 => ?_) (fun c4 => ?_)
  ·replace hs0_ := Zr c4 hs0_
   refine Jq [0, 1, 5] [true, true] ?_
   refine Yl ?_
   obtain ⟨l1, pl1, ql1, el1, hs0_⟩ := bA (k := 1) rfl hs0_
   obtain ⟨x2, hx2, ax2, bx2, cx2, hs0_⟩ := bE (f := Za) Up (fun _ => rfl) (by decide) hs0_
   have gu3 : Kc (fl Za s0_ ++ [.val (.int .i64 0), .val (.slice none 0 0), .val (.slice none 0 0)]) [.val (.int .i64 0), .val (.slice none 0 0), .val (.slice none 0 0)] (List.length s0_ * 3) = some (fl Za s0_ ++ [.val (.int .i64 0), .val (.slice none 0 0), .val (.slice none 0 0)]) := Zc5 (f := Za) (sz := 3) (fun _ => rfl) rfl rfl
   refine Uq Z0 (by kernel_rfl) [.plain, .low, .low, .low, .plain, .low, .pass, .bar, .shp, .fill true, .shp, .shp, .fill false] (fun i => i < (n + 2)) [0, 1, 2, 3, 4, 5, 6, 7, 8, 9, 10, 11, 12] [.plain, .low, .low, .low, .plain, .low, .pass, .bar, .shp, .fill true, .shp, .shp, .fill false] [] (by kernel_rfl) rfl ?_
   refine zF9 pl1 ql1 el1 ax2 bx2 cx2 gu3 hi0 hk0 ?_
   refine zO ?_
   obtain rfl := sI hs0_
   refine And.intro rfl (Fit2.of (Z9 hU rfl rfl ?_) (by omega))
   exact Z3w pl1 ql1 el1 ax2 bx2 cx2 gu3 hi0 hk0
  replace hs0_ := Zq c4 hs0_
  refine zXt ?_
  obtain rfl := sI hs0_
  refine And.intro (fun h => by cases h) (And.intro rfl (Fit2.of (Z9 hU rfl rfl ?_) (by omega)))
  exact X3 hi0 hk0
 try simp only [Y2, Ye, ↓reduceIte, Nat.reduceEqDiff]
 refine zD [0, 1, 5] [true, true] ?_
 refine Gj [0, 1, 5, 35] hi0 hk0 ?_
 refine Zs (t := (decide (a1 < (z5.length : Int)))) rfl (fun c8 => ?_) (fun c8 => ?_)
 ·replace h := Zr c8 h
  obtain ⟨x6, hx6, ax6, bx6, cx6, h⟩ := bE (f := Za) Up (fun _ => rfl) (by decide) h
  have gu7 : Kc (fl Za z5) [.val (.int .i64 a2.Kind), .sl a2.Words.length (fl (eI .u64) a2.Words), .sl a2.Kids.length (fl Za a2.Kids)] (Int.toNat a1 * 3) = some (fl Za (Zh2 z5 a1 a2)) := (congrArg (fun c => Kc (fl Za z5) c (Int.toNat a1 * 3)) (show [.val (.int .i64 a2.Kind), .sl a2.Words.length (fl (eI .u64) a2.Words), .sl a2.Kids.length (fl Za a2.Kids)] = Za a2 from by simp only [Za, Yx, eI, eB, eS, eL])).trans (Zlc (f := Za) (ti := ⟨.bool, 3, 0, [], false⟩) (x := a2) (fun _ => rfl) (Zgz hx6))
  refine Zey Z0 (by kernel_rfl) [false, false, false, false, false, false, false, true] [] (by kernel_rfl) ?_
  refine zF6 ax6 bx6 cx6 gu7 hi0 hk0 ?_
  obtain rfl := sI h
  refine X7 (k := 1) (i := i0) (q1 := ⟨false, 25, 3, 1, [(vI a0.Kind), (sL (eI .u64) a0.Words), .row n (Zh2 z5 a1 a2).length]⟩) (L3 := [some (oR 25 3 Za (Zh2 z5 a1 a2)), none]) (E2 := (⟨43, [], []⟩ : Env)) (n3 := (n + 2)) (.inl rfl) hU rfl [] ?_ ?_
  ·refine Fit2.trans (E' := (⟨43, [], []⟩ : Env)) (O' := (Zv ((O.upd j0_0 none).upd i0 (some ⟨false, 25, 3, 1, [(vI a0.Kind), (sL (eI .u64) a0.Words), .row n (Zh2 z5 a1 a2).length]⟩)) n [some (oR 25 3 Za (Zh2 z5 a1 a2)), none])) (n' := (n + 2)) (Fit2.of (Z9 hU rfl rfl ?_) (by omega)) ?_
   ·exact Yd6 ax6 bx6 cx6 gu7 hi0 hk0
   refine Xc (k := 2) (k' := 2) hU [0, 1] [0, 0] rfl rfl rfl rfl ⟨rfl, rfl⟩ ?_
   exact X3 hi0 hk0
  simp only [push_cast, seval, ↓reduceIte, Zf, Try.results85, hi0, hk0, hN0, hN]
 replace h := Zq c8 h
 refine zK ?_
 obtain rfl := sI h
 refine X7 (k := 1) (i := i0) (q1 := ⟨false, 25, 3, 1, [(vI a0.Kind), (sL (eI .u64) a0.Words), .row n z5.length]⟩) (L3 := [some (oR 25 3 Za z5), none]) (E2 := (⟨43, [], []⟩ : Env)) (n3 := (n + 2)) (.inl rfl) hU rfl [] ?_ ?_
 ·refine Fit2.trans (E' := (⟨43, [], []⟩ : Env)) (O' := (Zv ((O.upd j0_0 none).upd i0 (some ⟨false, 25, 3, 1, [(vI a0.Kind), (sL (eI .u64) a0.Words), .row n z5.length]⟩)) n [some (oR 25 3 Za z5), none])) (n' := (n + 2)) (Fit2.of (Z9 hU rfl rfl ?_) (by omega)) ?_
  ·exact X3 hi0 hk0
  refine Xc (k := 2) (k' := 2) hU [0, 1] [0, 0] rfl rfl rfl rfl ⟨rfl, rfl⟩ ?_
  exact X3 hi0 hk0
 simp only [push_cast, seval, ↓reduceIte, Zf, Try.results85, hi0, hk0, hN0, hN]
attribute [local push_cast] Try.results24 Try.results39 Try.results40 Try.results55 Try.results69 Try.results70 Try.results86 Try.results87
def Zba (Y8 : (Zc → Zb → Option (Zb × Bool))) : Prop := ∀ {a0 : Zc} {a1 : Zb} {r : (Zb × Bool)} {O : Objs} {n : Nat}, Y8 a0 a1 = some r → GTo Try.prog 55 [.agg (Zi a0), .agg (Ze a1)] O n (.tup [.agg (Ze r.1), (vB r.2)]) O n
def Kw (Yk : (Zc → Zb → Option (Zb × Bool))) : Prop := ∀ {a0 : Zc} {a1 : Zb} {r : (Zb × Bool)} {O : Objs} {n : Nat}, Yk a0 a1 = some r → GTo Try.prog 69 [.agg (Zi a0), .agg (Ze a1)] O n (.tup [.agg (Ze r.1), (vB r.2)]) O n
def Zbb (Xi : (Zc → Zb → Option (Zb × Bool))) : Prop := ∀ {a0 : Zc} {a1 : Zb} {r : (Zb × Bool)} {O : Objs} {n : Nat}, Xi a0 a1 = some r → GTo Try.prog 70 [.agg (Zi a0), .agg (Ze a1)] O n (.tup [.agg (Ze r.1), (vB r.2)]) O n
def Jp (Z7 : (Zj → Zm → Option (Bool × Zj))) : Prop := ∀ {a0 : Zj} {a1 : Zm} {r : (Bool × Zj)} {O : Objs} {n : Nat} {i0 j0_0 : Nat}, i0 < n → j0_0 < n → i0 ≠ j0_0 → O i0 = some ⟨false, 106, 2, 1, [(sL Za a0.left), .row j0_0 a0.out.length]⟩ → O j0_0 = some (oR 25 3 Za a0.out) → Z7 a0 a1 = some r → GTo Try.prog 86 [.ref i0 0, .agg (Yq a1)] O n ((vB r.1)) (Zv ((O.upd j0_0 none).upd i0 (some ⟨false, 106, 2, 1, [(sL Za r.2.left), .row n r.2.out.length]⟩)) n [some (oR 25 3 Za r.2.out)]) (n + 1)
def Qz (Z3 : (Zj → Zc → Option (Bool × Zj))) : Prop := ∀ {a0 : Zj} {a1 : Zc} {r : (Bool × Zj)} {O : Objs} {n : Nat} {i0 j0_0 : Nat}, i0 < n → j0_0 < n → i0 ≠ j0_0 → O i0 = some ⟨false, 106, 2, 1, [(sL Za a0.left), .row j0_0 a0.out.length]⟩ → O j0_0 = some (oR 25 3 Za a0.out) → Z3 a0 a1 = some r → GTo Try.prog 87 [.ref i0 0, .agg (Zi a1)] O n ((vB r.1)) (Zv ((O.upd j0_0 none).upd i0 (some ⟨false, 106, 2, 1, [(sL Za r.2.left), .row n r.2.out.length]⟩)) n [some (oR 25 3 Za r.2.out)]) (n + 1)
theorem Zy6 {Y8 : (Zc → Zb → Option (Zb × Bool))} {Yk : (Zc → Zb → Option (Zb × Bool))} {Xi : (Zc → Zb → Option (Zb × Bool))} {Z7 : (Zj → Zm → Option (Bool × Zj))} {Z3 : (Zj → Zc → Option (Bool × Zj))} (Vl : Zba Y8) (Uo : Kw Yk) (Zdp : Zbb Xi) (Vf : Jp Z7) (Jr : Qz Z3) {a0 : Zc} {a1 : Zb} {r : (Zb × Bool)} {O : Objs} {n : Nat} (h : Zbd Y8 Yk Xi Z7 Z3 a0 a1 = some r) : GTo Try.prog 55 [.agg (Zi a0), .agg (Ze a1)] O n (.tup [.agg (Ze r.1), (vB r.2)]) O n := by
 unfold Zbd at h
 refine zFn Try.call55 Try.func55 fun hU hN0 hN => ?_
 show W _ _ _ _ ⟨34, [], [(0, .agg (Zi a0)), (1, .agg (Ze a1))]⟩ (Zv O n []) _
 refine zQ [2, 3, 4] ?_
 refine Zl ?_
 refine zQ [2, 3, 4, 7] ?_
 refine Yl ?_
 refine zQ [2, 3, 4, 7, 8] ?_
 refine Zs (t := (a0.Kind == 0)) rfl (fun c10 => ?_) (fun c10 => ?_)
 ·replace h := Zr c10 h
  refine Zl ?_
  refine zRd [4, 5] [false, false, true] ?_
  exact Y4 [.agg (Ze a1), (vB true)]
 replace h := Zq c10 h
 refine zQ [2, 3, 4, 7, 11] ?_
 refine Zs (t := (a0.Kind == 1)) rfl (fun c9 => ?_) (fun c9 => ?_)
 ·replace h := Zr c9 h
  refine Zl ?_
  obtain ⟨y2, hy2, h⟩ := bC h
  refine Zey Z0 (by kernel_rfl) [false, false, false, false, false, false, true, false] [] (by kernel_rfl) ?_
  refine zS ?_
  refine PCall.of (Zz7 hy2) ?_
  refine zS ?_
  refine zD [4, 5] [false, false, true] ?_
  exact Y4 [.agg (Ze a0.New), (vB y2)]
 replace h := Zq c9 h
 refine zQ [2, 3, 4, 7, 19] ?_
 refine Zs (t := (a0.Kind == 2)) rfl (fun c8 => ?_) (fun c8 => ?_)
 ·replace h := Zr c8 h
  refine Zl ?_
  obtain ⟨y4, hy4, h⟩ := bC h
  refine zCd (Uo hy4) [4, 5] [false, false, true] ?_
  exact Y4 [.agg (Ze y4.1), (vB y4.2)]
 replace h := Zq c8 h
 refine zQ [2, 3, 4, 26] ?_
 refine Zs (t := (a0.Kind == 3)) rfl (fun c7 => ?_) (fun c7 => ?_)
 ·replace h := Zr c7 h
  refine Zl ?_
  obtain ⟨y6, hy6, h⟩ := bC h
  refine zCd (Zdp hy6) [4, 5] [false, false, true] ?_
  exact Y4 [.agg (Ze y6.1), (vB y6.2)]
 replace h := Zq c7 h
 refine Jq [4] [false, false, true] ?_
 refine Zl ?_
 refine zRd [4, 5] [false, false, true] ?_
 exact Y4 [.agg [(vI 0), nV, nV], (vB false)]
theorem Zqb {Y8 : (Zc → Zb → Option (Zb × Bool))} {Yk : (Zc → Zb → Option (Zb × Bool))} {Xi : (Zc → Zb → Option (Zb × Bool))} {Z7 : (Zj → Zm → Option (Bool × Zj))} {Z3 : (Zj → Zc → Option (Bool × Zj))} (Vl : Zba Y8) (Uo : Kw Yk) (Zdp : Zbb Xi) (Vf : Jp Z7) (Jr : Qz Z3) {a0 : Zc} {a1 : Zb} {r : (Zb × Bool)} {O : Objs} {n : Nat} (h : Ur Y8 Yk Xi Z7 Z3 a0 a1 = some r) : GTo Try.prog 69 [.agg (Zi a0), .agg (Ze a1)] O n (.tup [.agg (Ze r.1), (vB r.2)]) O n := by
 unfold Ur at h
 refine zFn Try.call69 Try.func69 fun hU hN0 hN => ?_
 show W _ _ _ _ ⟨92, [], [(0, .agg (Zi a0)), (1, .agg (Ze a1))]⟩ (Zv O n []) _
 refine zQ [2, 3, 4] ?_
 refine Zl ?_
 refine zQ [2, 3, 4, 16] ?_
 refine Zs (t := (a1.Kind != 1)) rfl (fun c138 => ?_) (fun c138 => ?_)
 ·replace h := Zr c138 h
  refine Zl ?_
  refine zRd [4, 5] [false, false, true] ?_
  exact Y4 [.agg [(vI 0), nV, nV], (vB false)]
 replace h := Zq c138 h
 refine Jq [2, 3, 4] [true, true, true] ?_
 obtain ⟨y25, hy25, h⟩ := bC h
 obtain ⟨y61, hy61, h⟩ := bC h
 refine Y6 (E' := ⟨92, [], [(2, .ref n 0), (3, .ref (n + 1) 0), (4, .ref (n + 2) 0), (6, .ref (n + 5) 0)]⟩) (O' := (Zv O n [some ⟨false, 37, 11, 1, (Zi a0)⟩, some ⟨false, 25, 3, 1, (Ze a1)⟩, some ⟨false, 25, 3, 1, [(vI 0), nV, nV]⟩, some (oR 50 1 (eI .u64) y25), some (oR 25 3 Za y61), some ⟨false, 25, 3, 1, [(vI 1), .row (n + 3) y25.length, .row (n + 4) y61.length]⟩])) (n0 := (n + 6)) ?_ ?_
 ·refine Ych Z0 (by kernel_rfl) [.low, .low, .pass, .low, .low, .pass, .plain, .pass, .pass] (fun i => i < (n + 3)) [0, 1, 3, 4] [2, 5, 6, 7] [8] (.alt 2 (.alt 5 (.seq [6, 7]) (.one 7 (.seq [5, 6]))) (.one 7 (.seq [2, 5, 6]))) [.low, .low, .low, .low] [] (by kernel_rfl) rfl ?_
  simp (maxSteps := 4000000) only [push_cast, seval, ↓reduceIte, Zf, hN0, hN]
  repeat (with_reducible refine And.intro (by omega) ?_)
  try simp only [push_cast, seval, ↓reduceIte, Zf, hN0, hN]
  refine And.intro ?_ ?_
  ·try simp only [push_cast, seval, ↓reduceIte, Zf, hN0, hN]
   repeat (with_reducible refine And.intro (by first | exact Gr rfl | exact Vz) ?_)
   refine (Zc7 hy25).then ?_
   try simp only [push_cast, seval, ↓reduceIte, Zf, hN0, hN]
   repeat (with_reducible refine And.intro (by first | exact Gr rfl | exact Vz) ?_)
   try simp only [push_cast, seval, ↓reduceIte, Zf, hN0, hN]
   refine And.intro ?_ ?_
   ·try simp only [push_cast, seval, ↓reduceIte, Zf, hN0, hN]
    repeat (with_reducible refine And.intro (by first | exact Gr rfl | exact Vz) ?_)
    refine (K3 hy61).then ?_
    try simp only [push_cast, seval, ↓reduceIte, Zf, hN0, hN]
    repeat (with_reducible refine And.intro (by first | exact Gr rfl | exact Vz) ?_)
    try simp only [push_cast, seval, ↓reduceIte, Zf, hN0, hN]
    repeat (with_reducible refine And.intro (by first | exact Gr rfl | exact Vz) ?_)
    exact zEf
   try simp only [push_cast, seval, ↓reduceIte, Zf, hN0, hN]
   repeat (with_reducible refine And.intro (by first | exact Gr rfl | exact Vz) ?_)
   try simp only [push_cast, seval, ↓reduceIte, Zf, hN0, hN]
   repeat (with_reducible refine And.intro (by first | exact Gr rfl | exact Vz) ?_)
   refine (K3 hy61).then ?_
   try simp only [push_cast, seval, ↓reduceIte, Zf, hN0, hN]
   repeat (with_reducible refine And.intro (by first | exact Gr rfl | exact Vz) ?_)
   refine And.intro rfl ?_
   refine Fit2.trans (E' := (⟨92, [], [(2, .ref n 0), (3, .ref (n + 1) 0), (4, .ref (n + 2) 0), (6, .ref (n + 4) 0)]⟩ : Env)) (O' := (Zv O n [some ⟨false, 37, 11, 1, (Zi a0)⟩, some ⟨false, 25, 3, 1, (Ze a1)⟩, some ⟨false, 25, 3, 1, [(vI 0), nV, nV]⟩, some (oR 50 1 (eI .u64) y25), some ⟨false, 25, 3, 1, [(vI 1), .row (n + 3) y25.length, .row (n + 5) y61.length]⟩, some (oR 25 3 Za y61)])) (n' := (n + 6)) (Fit2.of (Yw hU rfl rfl ?_) (by omega)) ?_
   ·exact zSe
   refine Q9 (k := 6) (k' := 6) hU [0, 1, 2, 3, 5, 4] [0, 1, 2, 3, 5, 4] rfl rfl rfl rfl ⟨rfl, rfl⟩ ?_
   exact zSe
  try simp only [push_cast, seval, ↓reduceIte, Zf, hN0, hN]
  repeat (with_reducible refine And.intro (by first | exact Gr rfl | exact Vz) ?_)
  try simp only [push_cast, seval, ↓reduceIte, Zf, hN0, hN]
  repeat (with_reducible refine And.intro (by first | exact Gr rfl | exact Vz) ?_)
  refine (Zc7 hy25).then ?_
  try simp only [push_cast, seval, ↓reduceIte, Zf, hN0, hN]
  repeat (with_reducible refine And.intro (by first | exact Gr rfl | exact Vz) ?_)
  refine (K3 hy61).then ?_
  try simp only [push_cast, seval, ↓reduceIte, Zf, hN0, hN]
  repeat (with_reducible refine And.intro (by first | exact Gr rfl | exact Vz) ?_)
  refine And.intro rfl ?_
  refine Fit2.trans (E' := (⟨92, [], [(2, .ref n 0), (3, .ref (n + 1) 0), (4, .ref (n + 2) 0), (6, .ref (n + 3) 0)]⟩ : Env)) (O' := (Zv O n [some ⟨false, 37, 11, 1, (Zi a0)⟩, some ⟨false, 25, 3, 1, (Ze a1)⟩, some ⟨false, 25, 3, 1, [(vI 0), nV, nV]⟩, some ⟨false, 25, 3, 1, [(vI 1), .row (n + 4) y25.length, .row (n + 5) y61.length]⟩, some (oR 50 1 (eI .u64) y25), some (oR 25 3 Za y61)])) (n' := (n + 6)) (Fit2.of (Yw hU rfl rfl ?_) (by omega)) ?_
  ·exact zSe
  refine Q9 (k := 6) (k' := 6) hU [0, 1, 2, 5, 3, 4] [0, 1, 2, 4, 5, 3] rfl rfl rfl rfl ⟨rfl, rfl⟩ ?_
  exact zSe
 refine Zl ?_
 refine zQd [2, 3, 4, 6, 26, 27, 28] [2, 3, 4, 6, 26, 27, 28] [true, true, true, true, true, true] ?_
 refine Qc (E' := (⟨92, [], [(2, .ref n 0), (3, .ref (n + 1) 0), (4, .ref (n + 2) 0), (6, .ref (n + 5) 0), (26, (sL Zh a0.Words)), (27, (vI (a0.Words.length : Int))), (28, (vI 0))]⟩ : Env)) (O' := (Zv O n [some ⟨false, 37, 11, 1, (Zi a0)⟩, some ⟨false, 25, 3, 1, (Ze a1)⟩, some ⟨false, 25, 3, 1, [(vI 0), nV, nV]⟩, none, none, some ⟨false, 25, 3, 1, [(vI 1), .row (n + 6) y25.length, .row (n + 7) y61.length]⟩, some (oR 50 1 (eI .u64) y25), some (oR 25 3 Za y61), none])) (n' := (n + 9)) ?_ ?_
 ·refine Fit2.trans (E' := (⟨92, [], [(2, .ref n 0), (3, .ref (n + 1) 0), (4, .ref (n + 2) 0), (6, .ref (n + 5) 0), (26, (sL Zh a0.Words)), (27, (vI (a0.Words.length : Int))), (28, (vI 0))]⟩ : Env)) (O' := (Zv O n [some ⟨false, 37, 11, 1, (Zi a0)⟩, some ⟨false, 25, 3, 1, (Ze a1)⟩, some ⟨false, 25, 3, 1, [(vI 0), nV, nV]⟩, some (oR 50 1 (eI .u64) y25), some (oR 25 3 Za y61), some ⟨false, 25, 3, 1, [(vI 1), .row (n + 3) y25.length, .row (n + 4) y61.length]⟩])) (n' := (n + 6)) (Fit2.of (Yw hU rfl rfl ?_) (by omega)) ?_
  ·exact zSe
  refine Q9 (k := 6) (k' := 9) hU [0, 1, 2, 6, 7, 5] [0, 1, 2, 0, 0, 5, 3, 4, 0] rfl rfl rfl rfl ⟨rfl, rfl⟩ ?_
  exact zSe
 obtain ⟨z125, hz125, h⟩ := bC h
 refine Gu (J := (Xs (fun z125 => JR n (⟨92, [], [(4, .ref (n + 2) 0), (5, (vB false))]⟩ : Env) (Zv O n [none, none, some ⟨false, 25, 3, 1, [(vI 0), nV, nV]⟩, none, none, none]) (n + 6)) (fun z125 => JX 0 n (⟨92, [], [(2, .ref n 0), (3, .ref (n + 1) 0), (4, .ref (n + 2) 0), (6, .ref (n + 5) 0)]⟩ : Env) (Zv O n [some ⟨false, 37, 11, 1, (Zi a0)⟩, some ⟨false, 25, 3, 1, (Ze a1)⟩, some ⟨false, 25, 3, 1, [(vI 0), nV, nV]⟩, none, none, some ⟨false, 25, 3, 1, [(vI z125.1), .row (n + 6) z125.2.1.length, .row (n + 7) z125.2.2.length]⟩, some (oR 50 1 (eI .u64) z125.2.1), some (oR 25 3 Za z125.2.2), none]) (n + 9)))) (z := z125) ?_ fun hw => ?_
 ·refine Y9 hz125 (fun s0_ => ⟨92, [], [(2, .ref n 0), (3, .ref (n + 1) 0), (4, .ref (n + 2) 0), (6, .ref (n + 5) 0), (26, (sL Zh a0.Words)), (27, (vI (a0.Words.length : Int))), (28, (vI s0_.1))]⟩) (fun s0_ => (Zv O n [some ⟨false, 37, 11, 1, (Zi a0)⟩, some ⟨false, 25, 3, 1, (Ze a1)⟩, some ⟨false, 25, 3, 1, [(vI 0), nV, nV]⟩, none, none, some ⟨false, 25, 3, 1, [(vI s0_.2.1), .row (n + 6) s0_.2.2.1.length, .row (n + 7) s0_.2.2.2.length]⟩, some (oR 50 1 (eI .u64) s0_.2.2.1), some (oR 25 3 Za s0_.2.2.2), none])) (Xs (fun z125 => JR n (⟨92, [], [(4, .ref (n + 2) 0), (5, (vB false))]⟩ : Env) (Zv O n [none, none, some ⟨false, 25, 3, 1, [(vI 0), nV, nV]⟩, none, none, none]) (n + 6)) (fun z125 => JX 0 n (⟨92, [], [(2, .ref n 0), (3, .ref (n + 1) 0), (4, .ref (n + 2) 0), (6, .ref (n + 5) 0)]⟩ : Env) (Zv O n [some ⟨false, 37, 11, 1, (Zi a0)⟩, some ⟨false, 25, 3, 1, (Ze a1)⟩, some ⟨false, 25, 3, 1, [(vI 0), nV, nV]⟩, none, none, some ⟨false, 25, 3, 1, [(vI z125.1), .row (n + 6) z125.2.1.length, .row (n + 7) z125.2.2.length]⟩, some (oR 50 1 (eI .u64) z125.2.1), some (oR 25 3 Za z125.2.2), none]) (n + 9))) ?_
  intro s0_ x0_ hs0_
  unfold Jd at hs0_
  try dsimp only
  refine zQ [2, 3, 4, 6, 26, 27, 28, 29] ?_
  refine Zl ?_
  refine Zs (t := (decide (s0_.1 < (a0.Words.length : Int)))) rfl (fun c124 => ?_) (fun c124 => ?_)
  ·replace hs0_ := Zr c124 hs0_
   refine Jq [2, 3, 4, 6, 26, 27, 28] [true, true, true, false, false, true, true, true, false] ?_
   refine Zl ?_
   refine Yl ?_
   refine Zl ?_
   obtain ⟨x110, hx110, ax110, bx110, cx110, hs0_⟩ := bE (f := Zh) Zu1 (fun _ => rfl) (by decide) hs0_
   refine Zc2 [] ax110 bx110 cx110 ?_
   refine zDs [2, 3, 4, 6, 8, 26, 27, 28] [true, true, true, false, false, true, true, true, false, true] ?_
   obtain ⟨y112, hy112, hs0_⟩ := bC hs0_
   refine zCd (Z2e hy112) [2, 3, 4, 6, 8, 9, 26, 27, 28] [true, true, true, false, false, true, true, true, false, true] ?_
   refine Zl ?_
   obtain ⟨z115, hz115, hs0_⟩ := bC hs0_
   refine Y6 (E' := ⟨92, [], [(2, .ref n 0), (3, .ref (n + 1) 0), (4, .ref (n + 2) 0), (6, .ref (n + 5) 0), (8, .ref (n + 9) 0), (9, .val (.int .u64 y112)), (26, (sL Zh a0.Words)), (27, (vI (a0.Words.length : Int))), (28, (vI s0_.1)), (49, (vB z115))]⟩) (O' := (Zv O n [some ⟨false, 37, 11, 1, (Zi a0)⟩, some ⟨false, 25, 3, 1, (Ze a1)⟩, some ⟨false, 25, 3, 1, [(vI 0), nV, nV]⟩, none, none, some ⟨false, 25, 3, 1, [(vI s0_.2.1), .row (n + 6) s0_.2.2.1.length, .row (n + 7) s0_.2.2.2.length]⟩, some (oR 50 1 (eI .u64) s0_.2.2.1), some (oR 25 3 Za s0_.2.2.2), none, some ⟨false, 52, 4, 1, (Gs x110)⟩])) (n0 := (n + 10)) ?_ ?_
   ·obtain ⟨y118, hy118, hz115⟩ := bC hz115
    rcases Bool.eq_false_or_eq_true y118 with c120 | c120
    ·replace hz115 := Zr c120 hz115
     refine K9 Z0 (by kernel_rfl) [some false, some false, some false, some false, some false, some false, some false, some false, some false] (by kernel_rfl) ?_
     refine zX1 c120 ?_
     refine PCall.of (Zhz hy118) ?_
     refine zX1 c120 ?_
     exact Jb hz115 c120
    replace hz115 := Zq c120 hz115
    obtain ⟨y119, hy119, hz115⟩ := bC hz115
    refine K9 Z0 (by kernel_rfl) [some true, some true, some true, some true, some true, some true, some true, some true, some true] (by kernel_rfl) ?_
    refine zX1 c120 ?_
    refine PCall.of (Zhz hy118) ?_
    refine zX1 c120 ?_
    refine PCall.of (Zml hy119) ?_
    refine zX1 c120 ?_
    exact Jb hz115 c120
   refine Zs (t := z115) rfl (fun c123 => ?_) (fun c123 => ?_)
   ·replace hs0_ := Zr c123 hs0_
    refine Zl ?_
    refine zRd [4, 5] [false, false, true, false, false, false, false, false, false, false] ?_
    refine zW ?_
    exact zEy hs0_
   replace hs0_ := Zq c123 hs0_
   refine Jq [2, 3, 4, 6, 8, 9, 26, 27, 28] [true, true, true, false, false, true, true, true, false, true] ?_
   obtain ⟨y121, hy121, hs0_⟩ := bC hs0_
   obtain ⟨y122, hy122, hs0_⟩ := bC hs0_
   refine Zey Z0 (by kernel_rfl) [false, false, false, false, false, false, false, false, true] [] (by kernel_rfl) ?_
   refine zS ?_
   refine PCall.of (Z4u hy121) ?_
   refine zS ?_
   refine (Zt7 (i0 := (n + 5)) (j0_0 := (n + 7)) (j0_1 := (n + 6)) (by omega) (by omega) (by omega) (by omega) (by omega) (by omega) (by simp only [push_cast, seval, ↓reduceIte, Zf, Z5, hN0, hN] <;> rfl) (by simp only [push_cast, seval, ↓reduceIte, Zf, Z5, hN0, hN] <;> rfl) (by simp only [push_cast, seval, ↓reduceIte, Zf, Z5, hN0, hN] <;> rfl) hy122).then ?_
   refine zS ?_
   refine zD [2, 3, 4, 6, 26, 27, 28] [true, true, true, false, false, true, false, false, false, false, true, true] ?_
   refine zR ?_
   obtain rfl := sI hs0_
   refine And.intro rfl ?_
   refine Fit2.trans (E' := (⟨92, [], [(2, .ref n 0), (3, .ref (n + 1) 0), (4, .ref (n + 2) 0), (6, .ref (n + 5) 0), (26, (sL Zh a0.Words)), (27, (vI (a0.Words.length : Int))), (28, (vI (IntKind.i64.wrap (s0_.1 + 1))))]⟩ : Env)) (O' := (Zv O n [some ⟨false, 37, 11, 1, (Zi a0)⟩, some ⟨false, 25, 3, 1, (Ze a1)⟩, some ⟨false, 25, 3, 1, [(vI 0), nV, nV]⟩, none, none, some ⟨false, 25, 3, 1, [(vI y122.Kind), .row (n + 11) y122.Words.length, .row (n + 10) y122.Kids.length]⟩, none, none, none, none, some (oR 25 3 Za y122.Kids), some (oR 50 1 (eI .u64) y122.Words)])) (n' := (n + 12)) (Fit2.of (Yw hU rfl rfl ?_) (by omega)) ?_
   ·exact zSe
   refine Q9 (k := 12) (k' := 9) hU [0, 1, 2, 8, 8, 5, 8, 8, 8, 8, 7, 6] [0, 1, 2, 0, 0, 5, 11, 10, 0] rfl rfl rfl rfl ⟨rfl, rfl⟩ ?_
   exact zSe
  replace hs0_ := Zq c124 hs0_
  exact zEx hs0_
 rcases z125 with z125 | z125
 ·dsimp only [Xs] at hw h
  refine Jc hw ?_
  try simp only [Y2, Ye, ↓reduceIte, Nat.reduceEqDiff]
  exact Ziy [.agg [(vI 0), nV, nV], (vB false)]
 dsimp only [Xs] at hw h
 refine Yu hw ?_
 try simp only [Y2, Ye, ↓reduceIte, Nat.reduceEqDiff]
 refine zDs [2, 3, 4, 6] [true, true, true, false, false, true, true, true, false] ?_
 refine zQd [3, 4, 6, 62, 63, 64] [3, 4, 6, 62, 63, 64] [false, true, true, false, false, true, true, true, false] ?_
 refine Qc (E' := (⟨92, [], [(3, .ref (n + 1) 0), (4, .ref (n + 2) 0), (6, .ref (n + 5) 0), (62, (sL Zk a0.Kids)), (63, (vI (a0.Kids.length : Int))), (64, (vI 0))]⟩ : Env)) (O' := (Zv O n [none, some ⟨false, 25, 3, 1, (Ze a1)⟩, some ⟨false, 25, 3, 1, [(vI 0), nV, nV]⟩, none, none, some ⟨false, 25, 3, 1, [(vI z125.1), (sL (eI .u64) z125.2.1), .row (n + 9) z125.2.2.length]⟩, none, none, none, some (oR 25 3 Za z125.2.2), none])) (n' := (n + 11)) ?_ ?_
 ·refine Fit2.trans (E' := (⟨92, [], [(3, .ref (n + 1) 0), (4, .ref (n + 2) 0), (6, .ref (n + 5) 0), (62, (sL Zk a0.Kids)), (63, (vI (a0.Kids.length : Int))), (64, (vI 0))]⟩ : Env)) (O' := (Zv O n [none, some ⟨false, 25, 3, 1, (Ze a1)⟩, some ⟨false, 25, 3, 1, [(vI 0), nV, nV]⟩, none, none, some ⟨false, 25, 3, 1, [(vI z125.1), (sL (eI .u64) z125.2.1), .row (n + 7) z125.2.2.length]⟩, none, some (oR 25 3 Za z125.2.2), none])) (n' := (n + 9)) (Fit2.of (Yw hU rfl rfl ?_) (by omega)) ?_
  ·exact zSe
  refine Q9 (k := 9) (k' := 11) hU [10, 1, 2, 10, 10, 5, 10, 9, 10] [0, 1, 2, 0, 0, 5, 0, 0, 0, 7, 0] rfl rfl rfl rfl ⟨rfl, rfl⟩ ?_
  exact zSe
 obtain ⟨z137, hz137, h⟩ := bC h
 refine Gu (J := (Xs (fun z137 => JR n (⟨92, [], [(4, .ref (n + 2) 0), (5, (vB false))]⟩ : Env) (Zv O n [none, none, some ⟨false, 25, 3, 1, [(vI 0), nV, nV]⟩, none, none, none, none, none, none]) (n + 9)) (fun z137 => JX 2 n (⟨92, [], [(4, .ref (n + 2) 0), (6, .ref (n + 5) 0)]⟩ : Env) (Zv O n [none, none, some ⟨false, 25, 3, 1, [(vI 0), nV, nV]⟩, none, none, some ⟨false, 25, 3, 1, [(vI z137.1), (sL (eI .u64) z137.2.1), .row (n + 9) z137.2.2.length]⟩, none, none, none, some (oR 25 3 Za z137.2.2), none]) (n + 11)))) (z := z137) ?_ fun hw => ?_
 ·refine Y9 hz137 (fun s1_ => ⟨92, [], [(3, .ref (n + 1) 0), (4, .ref (n + 2) 0), (6, .ref (n + 5) 0), (62, (sL Zk a0.Kids)), (63, (vI (a0.Kids.length : Int))), (64, (vI s1_.1))]⟩) (fun s1_ => (Zv O n [none, some ⟨false, 25, 3, 1, (Ze a1)⟩, some ⟨false, 25, 3, 1, [(vI 0), nV, nV]⟩, none, none, some ⟨false, 25, 3, 1, [(vI s1_.2.1), (sL (eI .u64) s1_.2.2.1), .row (n + 9) s1_.2.2.2.length]⟩, none, none, none, some (oR 25 3 Za s1_.2.2.2), none])) (Xs (fun z137 => JR n (⟨92, [], [(4, .ref (n + 2) 0), (5, (vB false))]⟩ : Env) (Zv O n [none, none, some ⟨false, 25, 3, 1, [(vI 0), nV, nV]⟩, none, none, none, none, none, none]) (n + 9)) (fun z137 => JX 2 n (⟨92, [], [(4, .ref (n + 2) 0), (6, .ref (n + 5) 0)]⟩ : Env) (Zv O n [none, none, some ⟨false, 25, 3, 1, [(vI 0), nV, nV]⟩, none, none, some ⟨false, 25, 3, 1, [(vI z137.1), (sL (eI .u64) z137.2.1), .row (n + 9) z137.2.2.length]⟩, none, none, none, some (oR 25 3 Za z137.2.2), none]) (n + 11))) ?_
  intro s1_ x1_ hs1_
  unfold Qu at hs1_
  try dsimp only
  refine zQ [3, 4, 6, 62, 63, 64, 65] ?_
  refine Zl ?_
  refine Zs (t := (decide (s1_.1 < (a0.Kids.length : Int)))) rfl (fun c136 => ?_) (fun c136 => ?_)
  ·replace hs1_ := Zr c136 hs1_
   refine Jq [3, 4, 6, 62, 63, 64] [false, true, true, false, false, true, false, false, false, true, false] ?_
   refine Zl ?_
   refine Yl ?_
   refine Zl ?_
   obtain ⟨x127, hx127, ax127, bx127, cx127, hs1_⟩ := bE (f := Zk) Zon (fun _ => rfl) (by decide) hs1_
   refine Zc2 [] ax127 bx127 cx127 ?_
   refine zDs [3, 4, 6, 11, 62, 63, 64] [false, true, true, false, false, true, false, false, false, true, false, true] ?_
   obtain ⟨y130, hy130, hs1_⟩ := bC hs1_
   obtain ⟨y131, hy131, hs1_⟩ := bC hs1_
   refine Uq Z0 (by kernel_rfl) [.low, .low, .low, .low, .low, .low, .low, .plain, .plain, .plain, .pass, .bar, .plain] (fun i => i < (n + 12)) [0, 1, 2, 3, 4, 5, 6, 7, 8, 9, 10, 11, 12] [.low, .low, .low, .low, .low, .low, .low, .plain, .plain, .plain, .pass, .bar, .plain] [] (by kernel_rfl) rfl ?_
   refine zS ?_
   refine zO ?_
   first | refine PCallA.of (fun _ _ => Zuv hy130) ?_ | refine PCall.of (Zuv hy130) ?_
   refine zS ?_
   refine zO ?_
   first | refine PCallA.of (fun _ _ => Vl hy131) ?_ | refine PCall.of (Vl hy131) ?_
   refine zS ?_
   refine zO ?_
   refine zDs [3, 4, 6, 11, 12, 13, 62, 63, 64] [false, true, true, false, false, true, false, false, false, true, false, true, true] ?_
   refine Zl ?_
   obtain ⟨y133, hy133, hs1_⟩ := bC hs1_
   refine zRo [none, none] ?_
   refine zG ?_
   refine zTs (Zhz hy133) ?_
   refine zG ?_
   refine zD [3, 4, 6, 11, 12, 62, 63, 64, 84] [false, true, true, false, false, true, false, false, false, true, false, true, true] ?_
   refine Zs (t := (cond y133 true (!y131.2))) rfl (fun c135 => ?_) (fun c135 => ?_)
   ·replace hs1_ := Zr c135 hs1_
    refine Zl ?_
    refine zRd [4, 5] [false, false, true, false, false, false, false, false, false, false, false, false, false] ?_
    refine zW ?_
    exact zEy hs1_
   replace hs1_ := Zq c135 hs1_
   refine Jq [3, 4, 6, 11, 12, 62, 63, 64] [false, true, true, false, false, true, false, false, false, true, false, true, true] ?_
   obtain ⟨y134, hy134, hs1_⟩ := bC hs1_
   refine zR ?_
   refine (Zva (i0 := (n + 5)) (j0_0 := (n + 9)) (by omega) (by omega) (by omega) (by simp only [push_cast, seval, ↓reduceIte, Zf, Z5, hN0, hN] <;> rfl) (by simp only [push_cast, seval, ↓reduceIte, Zf, Z5, hN0, hN] <;> rfl) hy134).then ?_
   refine zS ?_
   refine zD [3, 4, 6, 62, 63, 64] [false, true, true, false, false, true, false, false, false, false, false, false, false, true] ?_
   refine zR ?_
   obtain rfl := sI hs1_
   refine And.intro rfl ?_
   refine Fit2.trans (E' := (⟨92, [], [(3, .ref (n + 1) 0), (4, .ref (n + 2) 0), (6, .ref (n + 5) 0), (62, (sL Zk a0.Kids)), (63, (vI (a0.Kids.length : Int))), (64, (vI (IntKind.i64.wrap (s1_.1 + 1))))]⟩ : Env)) (O' := (Zv O n [none, some ⟨false, 25, 3, 1, (Ze a1)⟩, some ⟨false, 25, 3, 1, [(vI 0), nV, nV]⟩, none, none, some ⟨false, 25, 3, 1, [(vI y134.Kind), (sL (eI .u64) y134.Words), .row (n + 13) y134.Kids.length]⟩, none, none, none, none, none, none, none, some (oR 25 3 Za y134.Kids)])) (n' := (n + 14)) (Fit2.of (Yw hU rfl rfl ?_) (by omega)) ?_
   ·exact zSe
   refine Q9 (k := 14) (k' := 11) hU [10, 1, 2, 10, 10, 5, 10, 10, 10, 10, 10, 10, 10, 9] [0, 1, 2, 0, 0, 5, 0, 0, 0, 13, 0] rfl rfl rfl rfl ⟨rfl, rfl⟩ ?_
   exact zSe
  replace hs1_ := Zq c136 hs1_
  exact zEx hs1_
 rcases z137 with z137 | z137
 ·dsimp only [Xs] at hw h
  refine Jc hw ?_
  try simp only [Y2, Ye, ↓reduceIte, Nat.reduceEqDiff]
  exact Ziy [.agg [(vI 0), nV, nV], (vB false)]
 dsimp only [Xs] at hw h
 refine Yu hw ?_
 try simp only [Y2, Ye, ↓reduceIte, Nat.reduceEqDiff]
 refine zDs [4, 6] [false, false, true, false, false, true, false, false, false, true, false] ?_
 refine zRd [4, 5] [false, false, true, false, false, false, false, false, false, true, false] ?_
 exact Y4 [.agg [(vI z137.1), (sL (eI .u64) z137.2.1), .row (n + 9) z137.2.2.length], (vB true)]
theorem Zy7 {Y8 : (Zc → Zb → Option (Zb × Bool))} {Yk : (Zc → Zb → Option (Zb × Bool))} {Xi : (Zc → Zb → Option (Zb × Bool))} {Z7 : (Zj → Zm → Option (Bool × Zj))} {Z3 : (Zj → Zc → Option (Bool × Zj))} (Vl : Zba Y8) (Uo : Kw Yk) (Zdp : Zbb Xi) (Vf : Jp Z7) (Jr : Qz Z3) {a0 : Zc} {a1 : Zb} {r : (Zb × Bool)} {O : Objs} {n : Nat} (h : Zez Y8 Yk Xi Z7 Z3 a0 a1 = some r) : GTo Try.prog 70 [.agg (Zi a0), .agg (Ze a1)] O n (.tup [.agg (Ze r.1), (vB r.2)]) O n := by
 unfold Zez at h
 refine zFn Try.call70 Try.func70 fun hU hN0 hN => ?_
 show W _ _ _ _ ⟨45, [], [(0, .agg (Zi a0)), (1, .agg (Ze a1))]⟩ (Zv O n []) _
 refine zQ [2, 3, 4] ?_
 refine Zl ?_
 obtain ⟨z2, hz2, h⟩ := bC h
 refine Y6 (E' := ⟨45, [], [(2, .ref n 0), (3, .ref (n + 1) 0), (4, .ref (n + 2) 0), (19, (vB z2))]⟩) (O' := (Zv O n [some ⟨false, 37, 11, 1, (Zi a0)⟩, some ⟨false, 25, 3, 1, (Ze a1)⟩, some ⟨false, 25, 3, 1, [(vI 0), nV, nV]⟩])) (n0 := (n + 3)) ?_ ?_
 ·rcases Bool.eq_false_or_eq_true (a1.Kind != a0.List_) with c5 | c5
  ·replace hz2 := Zr c5 hz2
   refine K6 [some false, some false, some false, some false] c5 ?_
   exact Jb hz2 c5
  replace hz2 := Zq c5 hz2
  obtain ⟨y4, hy4, hz2⟩ := bC hz2
  refine K6 [some true, some true, some true, some true] c5 ?_
  refine (Zmk hy4).then ?_
  refine zX1 c5 ?_
  exact Jb hz2 c5
 refine Zs (t := z2) rfl (fun c13 => ?_) (fun c13 => ?_)
 ·replace h := Zr c13 h
  refine Zl ?_
  refine zRd [4, 5] [false, false, true] ?_
  exact Y4 [.agg [(vI 0), nV, nV], (vB false)]
 replace h := Zq c13 h
 refine Jq [2, 3, 4] [true, true, true] ?_
 refine Zl ?_
 refine zRd [2, 3, 4, 6] [true, true, true, true] ?_
 refine Zl ?_
 refine zQd [3, 4, 6, 25, 26, 27] [3, 4, 6, 25, 26, 27] [false, true, true, true] ?_
 refine Qc (E' := (⟨45, [], [(3, .ref (n + 1) 0), (4, .ref (n + 2) 0), (6, .ref (n + 3) 0), (25, (sL Zg a0.Ops)), (26, (vI (a0.Ops.length : Int))), (27, (vI 0))]⟩ : Env)) (O' := (Zv O n [none, some ⟨false, 25, 3, 1, (Ze a1)⟩, some ⟨false, 25, 3, 1, [(vI 0), nV, nV]⟩, some ⟨false, 106, 2, 1, [(sL Za a1.Kids), .row (n + 4) ([] : List Zb).length]⟩, some (oR 25 3 Za ([] : List Zb)), none])) (n' := (n + 6)) ?_ ?_
 ·refine Fit2.trans (E' := (⟨45, [], [(3, .ref (n + 1) 0), (4, .ref (n + 2) 0), (6, .ref (n + 3) 0), (25, (sL Zg a0.Ops)), (26, (vI (a0.Ops.length : Int))), (27, (vI 0))]⟩ : Env)) (O' := (Zv O n [none, some ⟨false, 25, 3, 1, (Ze a1)⟩, some ⟨false, 25, 3, 1, [(vI 0), nV, nV]⟩, some ⟨false, 106, 2, 1, [(sL Za a1.Kids), nV]⟩])) (n' := (n + 4)) (Fit2.of (Yw hU rfl rfl ?_) (by omega)) ?_
  ·exact zSe
  refine Fit2.trans (Va (p := (n + 3)) (k := 1) (q := ⟨false, 106, 2, 1, [(sL Za a1.Kids), nV]⟩) 25 3 (by simp only [Kl, Vq, List.getElem?_cons_zero, List.getElem?_cons_succ, Option.join_some, List.length_nil, Z4]) rfl (by omega)) ?_
  simp only [Yo, Yc, Vr, Ka, List.set_cons_zero, List.set_cons_succ, List.cons_append, List.nil_append, List.length_cons, List.length_nil, Nat.zero_add, Nat.reduceAdd, Nat.reduceLT, Nat.add_assoc]
  refine Q9 (k := 5) (k' := 6) hU [5, 1, 2, 3, 4] [0, 1, 2, 3, 4, 0] rfl rfl rfl rfl ⟨rfl, rfl⟩ ?_
  exact zSe
 obtain ⟨z12, hz12, h⟩ := bC h
 refine Gu (J := (Xs (fun z12 => JR n (⟨45, [], [(4, .ref (n + 2) 0), (5, (vB false))]⟩ : Env) (Zv O n [none, none, some ⟨false, 25, 3, 1, [(vI 0), nV, nV]⟩, none]) (n + 4)) (fun z12 => JX 0 n (⟨45, [], [(3, .ref (n + 1) 0), (4, .ref (n + 2) 0), (6, .ref (n + 3) 0)]⟩ : Env) (Zv O n [none, some ⟨false, 25, 3, 1, (Ze a1)⟩, some ⟨false, 25, 3, 1, [(vI 0), nV, nV]⟩, some ⟨false, 106, 2, 1, [(sL Za z12.1), .row (n + 4) z12.2.length]⟩, some (oR 25 3 Za z12.2), none]) (n + 6)))) (z := z12) ?_ fun hw => ?_
 ·refine Y9 hz12 (fun s0_ => ⟨45, [], [(3, .ref (n + 1) 0), (4, .ref (n + 2) 0), (6, .ref (n + 3) 0), (25, (sL Zg a0.Ops)), (26, (vI (a0.Ops.length : Int))), (27, (vI s0_.1))]⟩) (fun s0_ => (Zv O n [none, some ⟨false, 25, 3, 1, (Ze a1)⟩, some ⟨false, 25, 3, 1, [(vI 0), nV, nV]⟩, some ⟨false, 106, 2, 1, [(sL Za s0_.2.1), .row (n + 4) s0_.2.2.length]⟩, some (oR 25 3 Za s0_.2.2), none])) (Xs (fun z12 => JR n (⟨45, [], [(4, .ref (n + 2) 0), (5, (vB false))]⟩ : Env) (Zv O n [none, none, some ⟨false, 25, 3, 1, [(vI 0), nV, nV]⟩, none]) (n + 4)) (fun z12 => JX 0 n (⟨45, [], [(3, .ref (n + 1) 0), (4, .ref (n + 2) 0), (6, .ref (n + 3) 0)]⟩ : Env) (Zv O n [none, some ⟨false, 25, 3, 1, (Ze a1)⟩, some ⟨false, 25, 3, 1, [(vI 0), nV, nV]⟩, some ⟨false, 106, 2, 1, [(sL Za z12.1), .row (n + 4) z12.2.length]⟩, some (oR 25 3 Za z12.2), none]) (n + 6))) ?_
  intro s0_ x0_ hs0_
  unfold Vk at hs0_
  try dsimp only
  refine zQ [3, 4, 6, 25, 26, 27, 28] ?_
  refine Zl ?_
  refine Zs (t := (decide (s0_.1 < (a0.Ops.length : Int)))) rfl (fun c11 => ?_) (fun c11 => ?_)
  ·replace hs0_ := Zr c11 hs0_
   refine Jq [3, 4, 6, 25, 26, 27] [false, true, true, true, true, false] ?_
   refine Zl ?_
   refine Yl ?_
   refine Zl ?_
   obtain ⟨x7, hx7, ax7, bx7, cx7, hs0_⟩ := bE (f := Zg) Zhg (fun _ => rfl) (by decide) hs0_
   refine Zc2 [] ax7 bx7 cx7 ?_
   refine zDs [3, 4, 6, 8, 25, 26, 27] [false, true, true, true, true, false, true] ?_
   obtain ⟨y9, hy9, hs0_⟩ := bC hs0_
   refine zR ?_
   refine (Vf (i0 := (n + 3)) (j0_0 := (n + 4)) (by omega) (by omega) (by omega) (by simp only [push_cast, seval, ↓reduceIte, Zf, Z5, hN0, hN] <;> rfl) (by simp only [push_cast, seval, ↓reduceIte, Zf, Z5, hN0, hN] <;> rfl) hy9).then ?_
   refine zS ?_
   refine zD [3, 4, 6, 25, 26, 27, 33] [false, true, true, true, false, false, false, true] ?_
   refine Zs (t := (!y9.1)) rfl (fun c10 => ?_) (fun c10 => ?_)
   ·replace hs0_ := Zr c10 hs0_
    refine Zl ?_
    refine zRd [4, 5] [false, false, true, false, false, false, false, false] ?_
    refine zW ?_
    exact zEy hs0_
   replace hs0_ := Zq c10 hs0_
   refine Jq [3, 4, 6, 25, 26, 27] [false, true, true, true, false, false, false, true] ?_
   refine zR ?_
   obtain rfl := sI hs0_
   refine And.intro rfl ?_
   refine Fit2.trans (E' := (⟨45, [], [(3, .ref (n + 1) 0), (4, .ref (n + 2) 0), (6, .ref (n + 3) 0), (25, (sL Zg a0.Ops)), (26, (vI (a0.Ops.length : Int))), (27, (vI (IntKind.i64.wrap (s0_.1 + 1))))]⟩ : Env)) (O' := (Zv O n [none, some ⟨false, 25, 3, 1, (Ze a1)⟩, some ⟨false, 25, 3, 1, [(vI 0), nV, nV]⟩, some ⟨false, 106, 2, 1, [(sL Za y9.2.left), .row (n + 7) y9.2.out.length]⟩, none, none, none, some (oR 25 3 Za y9.2.out)])) (n' := (n + 8)) (Fit2.of (Yw hU rfl rfl ?_) (by omega)) ?_
   ·exact zSe
   refine Q9 (k := 8) (k' := 6) hU [5, 1, 2, 3, 5, 5, 5, 4] [0, 1, 2, 3, 7, 0] rfl rfl rfl rfl ⟨rfl, rfl⟩ ?_
   exact zSe
  replace hs0_ := Zq c11 hs0_
  exact zEx hs0_
 rcases z12 with z12 | z12
 ·dsimp only [Xs] at hw h
  refine Jc hw ?_
  try simp only [Y2, Ye, ↓reduceIte, Nat.reduceEqDiff]
  exact Ziy [.agg [(vI 0), nV, nV], (vB false)]
 dsimp only [Xs] at hw h
 refine Yu hw ?_
 try simp only [Y2, Ye, ↓reduceIte, Nat.reduceEqDiff]
 refine zDs [3, 4, 6] [false, true, true, true, true, false] ?_
 refine Uq Z0 (by kernel_rfl) [.plain, .plain, .plain, .plain, .plain, .low, .low, .low, .low, .pass, .plain] (fun i => i ≠ n + 2) [0, 1, 2, 3, 4, 5, 6, 7, 8, 9, 10] [.plain, .plain, .plain, .plain, .plain, .low, .low, .low, .low, .pass, .plain] [] (by kernel_rfl) rfl ?_
 refine zS ?_
 refine zO ?_
 refine zD [4, 5] [false, false, true, false, true, false] ?_
 exact Y4 [.agg [(vI a1.Kind), nV, .row (n + 4) z12.2.length], (vB ((z12.1.length : Int) == 0))]
theorem Znu {Y8 : (Zc → Zb → Option (Zb × Bool))} {Yk : (Zc → Zb → Option (Zb × Bool))} {Xi : (Zc → Zb → Option (Zb × Bool))} {Z7 : (Zj → Zm → Option (Bool × Zj))} {Z3 : (Zj → Zc → Option (Bool × Zj))} (Vl : Zba Y8) (Uo : Kw Yk) (Zdp : Zbb Xi) (Vf : Jp Z7) (Jr : Qz Z3) {a0 : Zj} {a1 : Zm} {r : (Bool × Zj)} {O : Objs} {n : Nat} {i0 j0_0 : Nat} (hi0 : i0 < n) (Ji : j0_0 < n) (Xy : i0 ≠ j0_0) (ho0 : O i0 = some ⟨false, 106, 2, 1, [(sL Za a0.left), .row j0_0 a0.out.length]⟩) (Js : O j0_0 = some (oR 25 3 Za a0.out)) (h : Ge Y8 Yk Xi Z7 Z3 a0 a1 = some r) : GTo Try.prog 86 [.ref i0 0, .agg (Yq a1)] O n ((vB r.1)) (Zv ((O.upd j0_0 none).upd i0 (some ⟨false, 106, 2, 1, [(sL Za r.2.left), .row n r.2.out.length]⟩)) n [some (oR 25 3 Za r.2.out)]) (n + 1) := by
 unfold Ge at h
 refine Zi6 Z0 Try.call86 Try.func86 rfl (Nat.le_of_ble_eq_true rfl) (by omega) fun hU => ?_
 have e0 := X8 (ba := n) (E := ⟨99, [], Zc3 0 [.ref i0 0, .agg [.val (.int .i64 a1.Kind), .val (.int .i64 a1.N), .sl a1.L.length (fl Za a1.L), .val (.int .i64 a1.E.Kind), .val (.int .i64 a1.E.Old.Kind), .sl a1.E.Old.Words.length (fl (eI .u64) a1.E.Old.Words), .sl a1.E.Old.Kids.length (fl Za a1.E.Old.Kids), .val (.int .i64 a1.E.New.Kind), .sl a1.E.New.Words.length (fl (eI .u64) a1.E.New.Words), .sl a1.E.New.Kids.length (fl Za a1.E.New.Kids), .sl a1.E.Words.length (fl Zh a1.E.Words), .sl a1.E.Kids.length (fl Zk a1.E.Kids), .val (.int .i64 a1.E.List_), .sl a1.E.Ops.length (fl Zg a1.E.Ops)]]⟩) (O := (Zv O n [])) (n := n) (i := i0) (j := j0_0) (k := 1) (len := a0.out.length) (q := ⟨false, 106, 2, 1, [.sl a0.left.length (fl Za a0.left), .row j0_0 a0.out.length]⟩) (qj := ⟨true, 25, 3, a0.out.length, fl Za a0.out⟩) (by rw [Z6 _ hi0]; first | exact ho0 | exact Z4 _ _ _) rfl (by rw [Z6 _ Ji]; exact Js) Xy (by omega)
 simp only [Z8 _ _ Ji, Z8 _ _ hi0, Yo, Yc, Xd, K4 Xy, List.set_cons_zero, List.set_cons_succ, List.cons_append, List.nil_append, List.length_cons, List.length_nil, Nat.zero_add, Nat.reduceAdd, Nat.add_assoc] at e0
 refine Qc e0 ?_
 have hU := (Und.drop hU j0_0)
 have hk0 : ∀ k, i0 < n + k := fun k => by omega
 have hN0 : ∀ o, Objs.upd (O.upd j0_0 none) i0 o n = none := fun o => Xr hU hi0 _ (Nat.le_refl _)
 have hN : ∀ o k, Objs.upd (O.upd j0_0 none) i0 o (n + k) = none := fun o k => Xr hU hi0 _ (Nat.le_add_right _ _)
 show W _ _ _ _ ⟨99, [], [(0, .ref i0 0), (1, .agg (Yq a1))]⟩ (Zv ((O.upd j0_0 none).upd i0 (some ⟨false, 106, 2, 1, [(sL Za a0.left), .row n a0.out.length]⟩)) n [some (oR 25 3 Za a0.out)]) _
 refine Gj [0, 3] hi0 hk0 ?_
 refine Zl ?_
 refine Gj [0, 3, 7] hi0 hk0 ?_
 refine Yl ?_
 refine Gj [0, 3, 7, 8] hi0 hk0 ?_
 refine Zs (t := (a1.Kind == 0)) rfl (fun c28 => ?_) (fun c28 => ?_)
 ·replace h := Zr c28 h
  refine Zl ?_
  obtain ⟨z1, hz1, h⟩ := bC h
  refine Y6 (E' := ⟨99, [], [(0, .ref i0 0), (3, .ref (n + 1) 0), (22, (vB z1))]⟩) (O' := (Zv ((O.upd j0_0 none).upd i0 (some ⟨false, 106, 2, 1, [(sL Za a0.left), .row n a0.out.length]⟩)) n [some (oR 25 3 Za a0.out), some ⟨false, 68, 14, 1, (Yq a1)⟩])) (n0 := (n + 2)) ?_ ?_
  ·rcases Bool.eq_false_or_eq_true (decide (a1.N < 0)) with c2 | c2
   ·replace hz1 := Zr c2 hz1
    refine K9 Z0 (by kernel_rfl) [some false, some false, some false, some false, some false, some false, some false, some false] (by kernel_rfl) ?_
    refine zX3 c2 hi0 hk0 ?_
    obtain rfl := sI hz1
    refine And.intro rfl (Fit2.of (Z9 hU rfl rfl ?_) (by omega))
    exact Zzy c2 hi0 hk0
   replace hz1 := Zq c2 hz1
   refine K9 Z0 (by kernel_rfl) [some true, some true, some true, some true, some true, some true, some true, some true] (by kernel_rfl) ?_
   refine zX3 c2 hi0 hk0 ?_
   obtain rfl := sI hz1
   refine And.intro rfl (Fit2.of (Z9 hU rfl rfl ?_) (by omega))
   exact Zzy c2 hi0 hk0
  refine Zs (t := z1) rfl (fun c9 => ?_) (fun c9 => ?_)
  ·replace h := Zr c9 h
   refine Gj [4] hi0 hk0 ?_
   refine zW ?_
   obtain rfl := sI h
   refine X7 (k := 1) (i := i0) (q1 := ⟨false, 106, 2, 1, [(sL Za a0.left), .row n a0.out.length]⟩) (L3 := [some (oR 25 3 Za a0.out), none]) (E2 := (⟨99, [], [(4, (vB false))]⟩ : Env)) (n3 := (n + 2)) (.inr rfl) hU rfl [(vB false)] ?_ ?_
   ·refine Fit2.trans (E' := (⟨99, [], [(4, (vB false))]⟩ : Env)) (O' := (Zv ((O.upd j0_0 none).upd i0 (some ⟨false, 106, 2, 1, [(sL Za a0.left), .row n a0.out.length]⟩)) n [some (oR 25 3 Za a0.out), none])) (n' := (n + 2)) (Fit2.of (Z9 hU rfl rfl ?_) (by omega)) ?_
    ·exact X3 hi0 hk0
    refine Xc (k := 2) (k' := 2) hU [0, 1] [0, 0] rfl rfl rfl rfl ⟨rfl, rfl⟩ ?_
    exact X3 hi0 hk0
   simp only [push_cast, seval, ↓reduceIte, Zf, Try.results86, hi0, hk0, hN0, hN]
  replace h := Zq c9 h
  refine Jq [0, 3] [true, true] ?_
  refine Zl ?_
  obtain ⟨l5, al5, bl5, cl5, gl5, h⟩ := bS (lo := none) (hi := (some (.i64, a1.N))) (f := Za) rfl rfl Zf1 Up (fun _ => rfl) h
  obtain ⟨l6, pl6, ql6, el6, h⟩ := bA (k := l5.length) rfl h
  refine Uq Z0 (by kernel_rfl) [.plain, .plain, .plain, .plain, .plain, .plain, .plain, .plain, .plain, .plain, .plain, .plain, .pass, .plain, .plain, .bar] (fun i => i ≠ n + 0) [0, 1, 2, 3, 4, 5, 6, 7, 8, 9, 10, 11, 12, 13, 14, 15] [.plain, .plain, .plain, .plain, .plain, .plain, .plain, .plain, .plain, .plain, .plain, .plain, .pass, .plain, .plain, .bar] [] (by kernel_rfl) rfl ?_
  simp only [push_cast, seval, ↓reduceIte, Zf, al5, bl5, cl5, gl5, pl6, ql6, el6, hi0, hk0, hN0, hN]
  refine zO ?_
  refine Zgb ⟨99, [], [(0, .ref i0 0), (3, .ref (n + 1) 0)]⟩ (Zv ((O.upd j0_0 none).upd i0 (some ⟨false, 106, 2, 1, [(sL Za a0.left), .row n l6.length]⟩)) n [some (oR 25 3 Za l6), some ⟨false, 68, 14, 1, (Yq a1)⟩]) (Z9 hU rfl rfl ?_) ?_
  ·simp only [push_cast, seval, ↓reduceIte, Zf, al5, bl5, cl5, gl5, pl6, ql6, el6, hi0, hk0, hN0, hN]
  refine Zl ?_
  obtain ⟨l8, al8, bl8, cl8, gl8, h⟩ := bS (lo := (some (.i64, a1.N))) (hi := none) (f := Za) rfl rfl Zf1 Up (fun _ => rfl) h
  refine Zey Z0 (by kernel_rfl) [false, false, false, false, false, false, false, false, false, false, true] [] (by kernel_rfl) ?_
  refine zX6 al8 bl8 cl8 gl8 hi0 hk0 ?_
  refine zD [] [true, false] ?_
  refine Gj [4] hi0 hk0 ?_
  refine zW ?_
  obtain rfl := sI h
  refine X7 (k := 1) (i := i0) (q1 := ⟨false, 106, 2, 1, [(sL Za l8), .row n l6.length]⟩) (L3 := [some (oR 25 3 Za l6), none]) (E2 := (⟨99, [], [(4, (vB true))]⟩ : Env)) (n3 := (n + 2)) (.inr rfl) hU rfl [(vB true)] ?_ ?_
  ·refine Fit2.trans (E' := (⟨99, [], [(4, (vB true))]⟩ : Env)) (O' := (Zv ((O.upd j0_0 none).upd i0 (some ⟨false, 106, 2, 1, [(sL Za l8), .row n l6.length]⟩)) n [some (oR 25 3 Za l6), none])) (n' := (n + 2)) (Fit2.of (Z9 hU rfl rfl ?_) (by omega)) ?_
   ·exact X3 hi0 hk0
   refine Xc (k := 2) (k' := 2) hU [0, 1] [0, 0] rfl rfl rfl rfl ⟨rfl, rfl⟩ ?_
   exact X3 hi0 hk0
  simp only [push_cast, seval, ↓reduceIte, Zf, Try.results86, hi0, hk0, hN0, hN]
 replace h := Zq c28 h
 refine Gj [0, 3, 7, 48] hi0 hk0 ?_
 refine Zs (t := (a1.Kind == 1)) rfl (fun c27 => ?_) (fun c27 => ?_)
 ·replace h := Zr c27 h
  refine Gj [0, 3, 5] hi0 hk0 ?_
  refine Zl ?_
  obtain ⟨z12, hz12, h⟩ := bC h
  refine Y6 (E' := ⟨99, [], [(0, .ref i0 0), (5, (vI (a1.L.length : Int))), (71, (vB z12))]⟩) (O' := (Zv ((O.upd j0_0 none).upd i0 (some ⟨false, 106, 2, 1, [(sL Za a0.left), .row n a0.out.length]⟩)) n [some (oR 25 3 Za a0.out), none])) (n0 := (n + 2)) ?_ ?_
  ·rcases Bool.eq_false_or_eq_true (decide ((a0.left.length : Int) < (a1.L.length : Int))) with c17 | c17
   ·replace hz12 := Zr c17 hz12
    refine K9 Z0 (by kernel_rfl) [some false, some false, some false, some false, some false, some false, some false, some false, some false, some false] (by kernel_rfl) ?_
    refine zX3 c17 hi0 hk0 ?_
    obtain rfl := sI hz12
    refine And.intro rfl (Fit2.of (Z9 hU rfl rfl ?_) (by omega))
    exact Zzy c17 hi0 hk0
   replace hz12 := Zq c17 hz12
   obtain ⟨l15, al15, bl15, cl15, gl15, hz12⟩ := bS (lo := none) (hi := (some (.i64, (a1.L.length : Int)))) (f := Za) rfl rfl Zf1 Up (fun _ => rfl) hz12
   obtain ⟨y16, hy16, hz12⟩ := bC hz12
   refine K9 Z0 (by kernel_rfl) [some true, some true, some true, some true, some true, some true, some true, some true, some true, some true] (by kernel_rfl) ?_
   simp only [push_cast, seval, ↓reduceIte, Zf, c17, al15, bl15, cl15, gl15, hi0, hk0, hN0, hN]
   refine PCall.of (Vy hy16) ?_
   simp only [push_cast, seval, ↓reduceIte, Zf, c17, al15, bl15, cl15, gl15, hi0, hk0, hN0, hN]
   obtain rfl := sI hz12
   refine And.intro rfl (Fit2.of (Z9 hU rfl rfl ?_) (by omega))
   simp only [push_cast, seval, ↓reduceIte, Zf, c17, al15, bl15, cl15, gl15, hi0, hk0, hN0, hN]
  refine Zs (t := z12) rfl (fun c20 => ?_) (fun c20 => ?_)
  ·replace h := Zr c20 h
   refine Gj [4] hi0 hk0 ?_
   refine zW ?_
   obtain rfl := sI h
   refine X7 (k := 1) (i := i0) (q1 := ⟨false, 106, 2, 1, [(sL Za a0.left), .row n a0.out.length]⟩) (L3 := [some (oR 25 3 Za a0.out), none]) (E2 := (⟨99, [], [(4, (vB false))]⟩ : Env)) (n3 := (n + 2)) (.inr rfl) hU rfl [(vB false)] ?_ ?_
   ·refine Fit2.trans (E' := (⟨99, [], [(4, (vB false))]⟩ : Env)) (O' := (Zv ((O.upd j0_0 none).upd i0 (some ⟨false, 106, 2, 1, [(sL Za a0.left), .row n a0.out.length]⟩)) n [some (oR 25 3 Za a0.out), none])) (n' := (n + 2)) (Fit2.of (Z9 hU rfl rfl ?_) (by omega)) ?_
    ·exact X3 hi0 hk0
    refine Xc (k := 2) (k' := 2) hU [0, 1] [0, 0] rfl rfl rfl rfl ⟨rfl, rfl⟩ ?_
    exact X3 hi0 hk0
   simp only [push_cast, seval, ↓reduceIte, Zf, Try.results86, hi0, hk0, hN0, hN]
  replace h := Zq c20 h
  refine Jq [0, 5] [true, false] ?_
  refine Zl ?_
  obtain ⟨l19, al19, bl19, cl19, gl19, h⟩ := bS (lo := (some (.i64, (a1.L.length : Int)))) (hi := none) (f := Za) rfl rfl Zf1 Up (fun _ => rfl) h
  refine Z8w [] al19 bl19 cl19 gl19 hi0 hk0 ?_
  refine zD [] [true, false] ?_
  refine Gj [4] hi0 hk0 ?_
  refine zW ?_
  obtain rfl := sI h
  refine X7 (k := 1) (i := i0) (q1 := ⟨false, 106, 2, 1, [(sL Za l19), .row n a0.out.length]⟩) (L3 := [some (oR 25 3 Za a0.out), none]) (E2 := (⟨99, [], [(4, (vB true))]⟩ : Env)) (n3 := (n + 2)) (.inr rfl) hU rfl [(vB true)] ?_ ?_
  ·refine Fit2.trans (E' := (⟨99, [], [(4, (vB true))]⟩ : Env)) (O' := (Zv ((O.upd j0_0 none).upd i0 (some ⟨false, 106, 2, 1, [(sL Za l19), .row n a0.out.length]⟩)) n [some (oR 25 3 Za a0.out), none])) (n' := (n + 2)) (Fit2.of (Z9 hU rfl rfl ?_) (by omega)) ?_
   ·exact X3 hi0 hk0
   refine Xc (k := 2) (k' := 2) hU [0, 1] [0, 0] rfl rfl rfl rfl ⟨rfl, rfl⟩ ?_
   exact X3 hi0 hk0
  simp only [push_cast, seval, ↓reduceIte, Zf, Try.results86, hi0, hk0, hN0, hN]
 replace h := Zq c27 h
 refine Gj [0, 3, 7, 81] hi0 hk0 ?_
 refine Zs (t := (a1.Kind == 2)) rfl (fun c26 => ?_) (fun c26 => ?_)
 ·replace h := Zr c26 h
  refine Zl ?_
  obtain ⟨l22, pl22, ql22, el22, h⟩ := bA (k := a1.L.length) rfl h
  refine Uq Z0 (by kernel_rfl) [.plain, .plain, .plain, .plain, .plain, .plain, .plain, .pass, .plain, .plain, .bar] (fun i => i ≠ n + 0) [0, 1, 2, 3, 4, 5, 6, 7, 8, 9, 10] [.plain, .plain, .plain, .plain, .plain, .plain, .plain, .pass, .plain, .plain, .bar] [] (by kernel_rfl) rfl ?_
  refine zX5 pl22 ql22 el22 hi0 hk0 ?_
  refine zO ?_
  refine Zgb ⟨99, [], []⟩ (Zv ((O.upd j0_0 none).upd i0 (some ⟨false, 106, 2, 1, [(sL Za a0.left), .row n l22.length]⟩)) n [some (oR 25 3 Za l22), none]) (Z9 hU rfl rfl ?_) ?_
  ·exact Yfp pl22 ql22 el22 hi0 hk0
  refine Gj [4] hi0 hk0 ?_
  refine zW ?_
  obtain rfl := sI h
  refine X7 (k := 1) (i := i0) (q1 := ⟨false, 106, 2, 1, [(sL Za a0.left), .row n l22.length]⟩) (L3 := [some (oR 25 3 Za l22), none]) (E2 := (⟨99, [], [(4, (vB true))]⟩ : Env)) (n3 := (n + 2)) (.inr rfl) hU rfl [(vB true)] ?_ ?_
  ·refine Fit2.trans (E' := (⟨99, [], [(4, (vB true))]⟩ : Env)) (O' := (Zv ((O.upd j0_0 none).upd i0 (some ⟨false, 106, 2, 1, [(sL Za a0.left), .row n l22.length]⟩)) n [some (oR 25 3 Za l22), none])) (n' := (n + 2)) (Fit2.of (Z9 hU rfl rfl ?_) (by omega)) ?_
   ·exact X3 hi0 hk0
   refine Xc (k := 2) (k' := 2) hU [0, 1] [0, 0] rfl rfl rfl rfl ⟨rfl, rfl⟩ ?_
   exact X3 hi0 hk0
  simp only [push_cast, seval, ↓reduceIte, Zf, Try.results86, hi0, hk0, hN0, hN]
 replace h := Zq c26 h
 refine Gj [0, 3, 93] hi0 hk0 ?_
 refine Zs (t := (a1.Kind == 3)) rfl (fun c25 => ?_) (fun c25 => ?_)
 ·replace h := Zr c25 h
  refine Zl ?_
  obtain ⟨y24, hy24, h⟩ := bC h
  refine J5 [] hi0 hk0 ?_
  refine (Jr (i0 := i0) (j0_0 := n) (by omega) (by omega) (by omega) (by simp only [push_cast, seval, ↓reduceIte, Zf, Z5, hi0, hk0, hN0, hN] <;> rfl) (by simp only [push_cast, seval, ↓reduceIte, Zf, Z5, hi0, hk0, hN0, hN] <;> rfl) hy24).then ?_
  refine zX2 hi0 hk0 ?_
  refine zD [4] [false, false, true] ?_
  refine zW ?_
  obtain rfl := sI h
  refine X7 (k := 1) (i := i0) (q1 := ⟨false, 106, 2, 1, [(sL Za y24.2.left), .row n y24.2.out.length]⟩) (L3 := [some (oR 25 3 Za y24.2.out), none]) (E2 := (⟨99, [], [(4, (vB y24.1))]⟩ : Env)) (n3 := (n + 2)) (.inr rfl) hU rfl [(vB y24.1)] ?_ ?_
  ·refine Fit2.trans (E' := (⟨99, [], [(4, (vB y24.1))]⟩ : Env)) (O' := (Zv ((O.upd j0_0 none).upd i0 (some ⟨false, 106, 2, 1, [(sL Za y24.2.left), .row (n + 2) y24.2.out.length]⟩)) n [none, none, some (oR 25 3 Za y24.2.out)])) (n' := (n + 3)) (Fit2.of (Z9 hU rfl rfl ?_) (by omega)) ?_
   ·exact X3 hi0 hk0
   refine Xc (k := 3) (k' := 2) hU [1, 1, 0] [2, 0] rfl rfl rfl rfl ⟨rfl, rfl⟩ ?_
   exact X3 hi0 hk0
  simp only [push_cast, seval, ↓reduceIte, Zf, Try.results86, hi0, hk0, hN0, hN]
 replace h := Zq c25 h
 refine Jq [] [true, false] ?_
 refine Gj [4] hi0 hk0 ?_
 refine zW ?_
 obtain rfl := sI h
 refine X7 (k := 1) (i := i0) (q1 := ⟨false, 106, 2, 1, [(sL Za a0.left), .row n a0.out.length]⟩) (L3 := [some (oR 25 3 Za a0.out), none]) (E2 := (⟨99, [], [(4, (vB false))]⟩ : Env)) (n3 := (n + 2)) (.inr rfl) hU rfl [(vB false)] ?_ ?_
 ·refine Fit2.trans (E' := (⟨99, [], [(4, (vB false))]⟩ : Env)) (O' := (Zv ((O.upd j0_0 none).upd i0 (some ⟨false, 106, 2, 1, [(sL Za a0.left), .row n a0.out.length]⟩)) n [some (oR 25 3 Za a0.out), none])) (n' := (n + 2)) (Fit2.of (Z9 hU rfl rfl ?_) (by omega)) ?_
  ·exact X3 hi0 hk0
  refine Xc (k := 2) (k' := 2) hU [0, 1] [0, 0] rfl rfl rfl rfl ⟨rfl, rfl⟩ ?_
  exact X3 hi0 hk0
 simp only [push_cast, seval, ↓reduceIte, Zf, Try.results86, hi0, hk0, hN0, hN]
theorem Zk1 {Y8 : (Zc → Zb → Option (Zb × Bool))} {Yk : (Zc → Zb → Option (Zb × Bool))} {Xi : (Zc → Zb → Option (Zb × Bool))} {Z7 : (Zj → Zm → Option (Bool × Zj))} {Z3 : (Zj → Zc → Option (Bool × Zj))} (Vl : Zba Y8) (Uo : Kw Yk) (Zdp : Zbb Xi) (Vf : Jp Z7) (Jr : Qz Z3) {a0 : Zj} {a1 : Zc} {r : (Bool × Zj)} {O : Objs} {n : Nat} {i0 j0_0 : Nat} (hi0 : i0 < n) (Ji : j0_0 < n) (Xy : i0 ≠ j0_0) (ho0 : O i0 = some ⟨false, 106, 2, 1, [(sL Za a0.left), .row j0_0 a0.out.length]⟩) (Js : O j0_0 = some (oR 25 3 Za a0.out)) (h : Vc Y8 Yk Xi Z7 Z3 a0 a1 = some r) : GTo Try.prog 87 [.ref i0 0, .agg (Zi a1)] O n ((vB r.1)) (Zv ((O.upd j0_0 none).upd i0 (some ⟨false, 106, 2, 1, [(sL Za r.2.left), .row n r.2.out.length]⟩)) n [some (oR 25 3 Za r.2.out)]) (n + 1) := by
 unfold Vc at h
 refine Zi6 Z0 Try.call87 Try.func87 rfl (Nat.le_of_ble_eq_true rfl) (by omega) fun hU => ?_
 have e0 := X8 (ba := n) (E := ⟨44, [], Zc3 0 [.ref i0 0, .agg [.val (.int .i64 a1.Kind), .val (.int .i64 a1.Old.Kind), .sl a1.Old.Words.length (fl (eI .u64) a1.Old.Words), .sl a1.Old.Kids.length (fl Za a1.Old.Kids), .val (.int .i64 a1.New.Kind), .sl a1.New.Words.length (fl (eI .u64) a1.New.Words), .sl a1.New.Kids.length (fl Za a1.New.Kids), .sl a1.Words.length (fl Zh a1.Words), .sl a1.Kids.length (fl Zk a1.Kids), .val (.int .i64 a1.List_), .sl a1.Ops.length (fl Zg a1.Ops)]]⟩) (O := (Zv O n [])) (n := n) (i := i0) (j := j0_0) (k := 1) (len := a0.out.length) (q := ⟨false, 106, 2, 1, [.sl a0.left.length (fl Za a0.left), .row j0_0 a0.out.length]⟩) (qj := ⟨true, 25, 3, a0.out.length, fl Za a0.out⟩) (by rw [Z6 _ hi0]; first | exact ho0 | exact Z4 _ _ _) rfl (by rw [Z6 _ Ji]; exact Js) Xy (by omega)
 simp only [Z8 _ _ Ji, Z8 _ _ hi0, Yo, Yc, Xd, K4 Xy, List.set_cons_zero, List.set_cons_succ, List.cons_append, List.nil_append, List.length_cons, List.length_nil, Nat.zero_add, Nat.reduceAdd, Nat.add_assoc] at e0
 refine Qc e0 ?_
 have hU := (Und.drop hU j0_0)
 have hk0 : ∀ k, i0 < n + k := fun k => by omega
 have hN0 : ∀ o, Objs.upd (O.upd j0_0 none) i0 o n = none := fun o => Xr hU hi0 _ (Nat.le_refl _)
 have hN : ∀ o k, Objs.upd (O.upd j0_0 none) i0 o (n + k) = none := fun o k => Xr hU hi0 _ (Nat.le_add_right _ _)
 show W _ _ _ _ ⟨44, [], [(0, .ref i0 0), (1, .agg (Zi a1))]⟩ (Zv ((O.upd j0_0 none).upd i0 (some ⟨false, 106, 2, 1, [(sL Za a0.left), .row n a0.out.length]⟩)) n [some (oR 25 3 Za a0.out)]) _
 refine Gj [0, 3] hi0 hk0 ?_
 refine Zl ?_
 refine Gj [0, 3, 12] hi0 hk0 ?_
 refine Zs (t := ((a0.left.length : Int) == 0)) rfl (fun c13 => ?_) (fun c13 => ?_)
 ·replace h := Zr c13 h
  refine Gj [4] hi0 hk0 ?_
  refine zW ?_
  obtain rfl := sI h
  refine X7 (k := 1) (i := i0) (q1 := ⟨false, 106, 2, 1, [(sL Za a0.left), .row n a0.out.length]⟩) (L3 := [some (oR 25 3 Za a0.out), none]) (E2 := (⟨44, [], [(4, (vB false))]⟩ : Env)) (n3 := (n + 2)) (.inr rfl) hU rfl [(vB false)] ?_ ?_
  ·refine Fit2.trans (E' := (⟨44, [], [(4, (vB false))]⟩ : Env)) (O' := (Zv ((O.upd j0_0 none).upd i0 (some ⟨false, 106, 2, 1, [(sL Za a0.left), .row n a0.out.length]⟩)) n [some (oR 25 3 Za a0.out), none])) (n' := (n + 2)) (Fit2.of (Z9 hU rfl rfl ?_) (by omega)) ?_
   ·exact X3 hi0 hk0
   refine Xc (k := 2) (k' := 2) hU [0, 1] [0, 0] rfl rfl rfl rfl ⟨rfl, rfl⟩ ?_
   exact X3 hi0 hk0
  simp only [push_cast, seval, ↓reduceIte, Zf, Try.results87, hi0, hk0, hN0, hN]
 replace h := Zq c13 h
 refine Jq [0, 3] [true, true] ?_
 refine Zl ?_
 obtain ⟨x3, hx3, ax3, bx3, cx3, h⟩ := bE (f := Za) Up (fun _ => rfl) (by decide) h
 obtain ⟨y4, hy4, h⟩ := bC h
 refine Uq Z0 (by kernel_rfl) [.low, .plain, .low, .low, .low, .low, .low, .low, .plain, .plain, .plain, .pass, .bar, .plain] (fun i => i < (n + 2)) [0, 1, 2, 3, 4, 5, 6, 7, 8, 9, 10, 11, 12, 13] [.low, .plain, .low, .low, .low, .low, .low, .low, .plain, .plain, .plain, .pass, .bar, .plain] [] (by kernel_rfl) rfl ?_
 refine zF5 ax3 bx3 cx3 hi0 hk0 ?_
 refine zO ?_
 first | refine PCallA.of (fun _ _ => Vl hy4) ?_ | refine PCall.of (Vl hy4) ?_
 refine zF5 ax3 bx3 cx3 hi0 hk0 ?_
 refine zO ?_
 refine zDs [0, 5, 6] [true, false, true] ?_
 obtain ⟨l8, pl8, ql8, el8, h⟩ := bA (k := 1) rfl h
 obtain ⟨x9, hx9, ax9, bx9, cx9, h⟩ := bE (f := Za) Up (fun _ => rfl) (by decide) h
 have gu10 : Kc (fl Za a0.out ++ [.val (.int .i64 0), .val (.slice none 0 0), .val (.slice none 0 0)]) [.val (.int .i64 y4.1.Kind), .sl y4.1.Words.length (fl (eI .u64) y4.1.Words), .sl y4.1.Kids.length (fl Za y4.1.Kids)] (List.length a0.out * 3) = some (fl Za a0.out ++ [.val (.int .i64 y4.1.Kind), .sl y4.1.Words.length (fl (eI .u64) y4.1.Words), .sl y4.1.Kids.length (fl Za y4.1.Kids)]) := Zc5 (f := Za) (sz := 3) (fun _ => rfl) rfl rfl
 refine Uq Z0 (by kernel_rfl) [.plain, .low, .low, .low, .low, .low, .pass, .bar, .shp, .fill true, .shp, .shp, .fill false] (fun i => i < (n + 3)) [0, 1, 2, 3, 4, 5, 6, 7, 8, 9, 10, 11, 12] [.plain, .low, .low, .low, .low, .low, .pass, .bar, .shp, .fill true, .shp, .shp, .fill false] [] (by kernel_rfl) rfl ?_
 refine zF9 pl8 ql8 el8 ax9 bx9 cx9 gu10 hi0 hk0 ?_
 refine zO ?_
 refine Zgb ⟨44, [], [(0, .ref i0 0), (6, (vB y4.2))]⟩ (Zv ((O.upd j0_0 none).upd i0 (some ⟨false, 106, 2, 1, [(sL Za a0.left), .row n (a0.out ++ [y4.1]).length]⟩)) n [some (oR 25 3 Za (a0.out ++ [y4.1])), none, none, none]) (Z9 hU rfl rfl ?_) ?_
 ·exact Z3w pl8 ql8 el8 ax9 bx9 cx9 gu10 hi0 hk0
 refine Zl ?_
 obtain ⟨l12, al12, bl12, cl12, gl12, h⟩ := bS (lo := (some (.i64, 1))) (hi := none) (f := Za) rfl rfl Zf1 Up (fun _ => rfl) h
 refine Z8w [] al12 bl12 cl12 gl12 hi0 hk0 ?_
 refine zD [6] [true, false, false, false] ?_
 refine Gj [4] hi0 hk0 ?_
 refine zW ?_
 obtain rfl := sI h
 refine X7 (k := 1) (i := i0) (q1 := ⟨false, 106, 2, 1, [(sL Za l12), .row n (a0.out ++ [y4.1]).length]⟩) (L3 := [some (oR 25 3 Za (a0.out ++ [y4.1])), none]) (E2 := (⟨44, [], [(4, (vB y4.2))]⟩ : Env)) (n3 := (n + 2)) (.inr rfl) hU rfl [(vB y4.2)] ?_ ?_
 ·refine Fit2.trans (E' := (⟨44, [], [(4, (vB y4.2))]⟩ : Env)) (O' := (Zv ((O.upd j0_0 none).upd i0 (some ⟨false, 106, 2, 1, [(sL Za l12), .row n (a0.out ++ [y4.1]).length]⟩)) n [some (oR 25 3 Za (a0.out ++ [y4.1])), none, none, none])) (n' := (n + 4)) (Fit2.of (Z9 hU rfl rfl ?_) (by omega)) ?_
  ·exact X3 hi0 hk0
  refine Xc (k := 4) (k' := 2) hU [0, 1, 1, 1] [0, 0] rfl rfl rfl rfl ⟨rfl, rfl⟩ ?_
  exact X3 hi0 hk0
 simp only [push_cast, seval, ↓reduceIte, Zf, Try.results87, hi0, hk0, hN0, hN]
theorem Zt3 : ∀ k, (Zba ((Zt k).1)) ∧ (Kw ((Zt k).2.1)) ∧ (Zbb ((Zt k).2.2.1)) ∧ (Jp ((Zt k).2.2.2.1)) ∧ (Qz ((Zt k).2.2.2.2)) := fun k => by
 induction k with
 | zero => exact ⟨@fun a0 a1 r O n h => (nomatch (show (none : Option _) = some _ from h)), @fun a0 a1 r O n h => (nomatch (show (none : Option _) = some _ from h)), @fun a0 a1 r O n h => (nomatch (show (none : Option _) = some _ from h)), @fun a0 a1 r O n i0 j0_0 hi0 Ji Xy ho0 Js h => (nomatch (show (none : Option _) = some _ from h)), @fun a0 a1 r O n i0 j0_0 hi0 Ji Xy ho0 Js h => (nomatch (show (none : Option _) = some _ from h))⟩
 | succ k ih => exact ⟨@fun a0 a1 r O n h => Zy6 (ih.1) (ih.2.1) (ih.2.2.1) (ih.2.2.2.1) (ih.2.2.2.2)  h, @fun a0 a1 r O n h => Zqb (ih.1) (ih.2.1) (ih.2.2.1) (ih.2.2.2.1) (ih.2.2.2.2)  h, @fun a0 a1 r O n h => Zy7 (ih.1) (ih.2.1) (ih.2.2.1) (ih.2.2.2.1) (ih.2.2.2.2)  h, @fun a0 a1 r O n i0 j0_0 hi0 Ji Xy ho0 Js h => Znu (ih.1) (ih.2.1) (ih.2.2.1) (ih.2.2.2.1) (ih.2.2.2.2) hi0 Ji Xy ho0 Js h, @fun a0 a1 r O n i0 j0_0 hi0 Ji Xy ho0 Js h => Zk1 (ih.1) (ih.2.1) (ih.2.2.1) (ih.2.2.2.1) (ih.2.2.2.2) hi0 Ji Xy ho0 Js h⟩
theorem Zz5 {a0 : Zc} {a1 : Zb} {r : (Zb × Bool)} {O : Objs} {n : Nat} (h : Zmg a0 a1 = some r) : GTo Try.prog 55 [.agg (Zi a0), .agg (Ze a1)] O n (.tup [.agg (Ze r.1), (vB r.2)]) O n := by
 obtain ⟨k, hk⟩ := Zaf h
 exact (Zt3 k).1  hk
theorem Zqi {a0 : Zc} {a1 : Zb} {r : (Zb × Bool)} {O : Objs} {n : Nat} (h : Zg6 a0 a1 = some r) : GTo Try.prog 39 [.agg (Zi a0), .agg (Ze a1)] O n (.tup [.agg (Ze r.1), (vB r.2)]) O n := by
 unfold Zg6 at h
 refine zFn Try.call39 Try.func39 fun hU hN0 hN => ?_
 show W _ _ _ _ ⟨19, [], [(0, .agg (Zi a0)), (1, .agg (Ze a1))]⟩ (Zv O n []) _
 refine zQ [2, 3, 4] ?_
 refine Zl ?_
 obtain ⟨y2, hy2, h⟩ := bC h
 refine zCd (Zz5 hy2) [4, 6, 7] [false, false, true, true] ?_
 refine Zl ?_
 refine zQ [4, 6, 15] ?_
 refine Zs (t := (!y2.2)) rfl (fun c5 => ?_) (fun c5 => ?_)
 ·replace h := Zr c5 h
  refine Zl ?_
  refine zRd [4, 5] [false, false, true, false] ?_
  exact Y4 [.agg [(vI 0), nV, nV], (vB false)]
 replace h := Zq c5 h
 refine Jq [4, 6] [false, false, true, true] ?_
 refine Zl ?_
 obtain ⟨y4, hy4, h⟩ := bC h
 refine zCd (Zbv hy4) [4, 5] [false, false, true, false] ?_
 exact Y4 [.agg (Ze y4), (vB true)]
theorem Zcx {a0 : Zo} {a1 : Zc} {r : (Int × Zo)} {O : Objs} {n : Nat} {i0 j0_0 j0_1 : Nat} (hi0 : i0 < n) (Ji : j0_0 < n) (Gp : j0_1 < n) (Xy : i0 ≠ j0_0) (Qk : i0 ≠ j0_1) (Qj : j0_0 ≠ j0_1) (ho0 : O i0 = some ⟨false, 54, 5, 1, [(vI a0.now.Kind), (sL (eI .u64) a0.now.Words), (sL Za a0.now.Kids), .row j0_0 a0.done.length, .row j0_1 a0.back.length]⟩) (Js : O j0_0 = some (oR 37 11 Zd a0.done)) (Zcd : O j0_1 = some (oR 37 11 Zd a0.back)) (h : Xt a0 a1 = some r) : GTo Try.prog 24 [.ref i0 0, .agg (Zi a1)] O n ((vI r.1)) (Zv (((O.upd j0_0 none).upd j0_1 none).upd i0 (some ⟨false, 54, 5, 1, [(vI r.2.now.Kind), (sL (eI .u64) r.2.now.Words), (sL Za r.2.now.Kids), .row n r.2.done.length, .row (n + 1) r.2.back.length]⟩)) n [some (oR 37 11 Zd r.2.done), some (oR 37 11 Zd r.2.back)]) (n + 2) := by
 unfold Xt at h
 refine Zi6 Z0 Try.call24 Try.func24 rfl (Nat.le_of_ble_eq_true rfl) (by omega) fun hU => ?_
 have e0 := X8 (ba := n) (E := ⟨25, [], Zc3 0 [.ref i0 0, .agg [.val (.int .i64 a1.Kind), .val (.int .i64 a1.Old.Kind), .sl a1.Old.Words.length (fl (eI .u64) a1.Old.Words), .sl a1.Old.Kids.length (fl Za a1.Old.Kids), .val (.int .i64 a1.New.Kind), .sl a1.New.Words.length (fl (eI .u64) a1.New.Words), .sl a1.New.Kids.length (fl Za a1.New.Kids), .sl a1.Words.length (fl Zh a1.Words), .sl a1.Kids.length (fl Zk a1.Kids), .val (.int .i64 a1.List_), .sl a1.Ops.length (fl Zg a1.Ops)]]⟩) (O := (Zv O n [])) (n := n) (i := i0) (j := j0_0) (k := 3) (len := a0.done.length) (q := ⟨false, 54, 5, 1, [.val (.int .i64 a0.now.Kind), .sl a0.now.Words.length (fl (eI .u64) a0.now.Words), .sl a0.now.Kids.length (fl Za a0.now.Kids), .row j0_0 a0.done.length, .row j0_1 a0.back.length]⟩) (qj := ⟨true, 37, 11, a0.done.length, fl Zd a0.done⟩) (by rw [Z6 _ hi0]; first | exact ho0 | exact Z4 _ _ _) rfl (by rw [Z6 _ Ji]; exact Js) Xy (by omega)
 simp only [Z8 _ _ Ji, Z8 _ _ hi0, Yo, Yc, Xd, K4 Xy, List.set_cons_zero, List.set_cons_succ, List.cons_append, List.nil_append, List.length_cons, List.length_nil, Nat.zero_add, Nat.reduceAdd, Nat.add_assoc] at e0
 refine Qc e0 ?_
 have e1 := X8 (ba := n) (E := ⟨25, [], Zc3 0 [.ref i0 0, .agg [.val (.int .i64 a1.Kind), .val (.int .i64 a1.Old.Kind), .sl a1.Old.Words.length (fl (eI .u64) a1.Old.Words), .sl a1.Old.Kids.length (fl Za a1.Old.Kids), .val (.int .i64 a1.New.Kind), .sl a1.New.Words.length (fl (eI .u64) a1.New.Words), .sl a1.New.Kids.length (fl Za a1.New.Kids), .sl a1.Words.length (fl Zh a1.Words), .sl a1.Kids.length (fl Zk a1.Kids), .val (.int .i64 a1.List_), .sl a1.Ops.length (fl Zg a1.Ops)]]⟩) (O := (Zv ((O.upd j0_0 none).upd i0 (some ⟨false, 54, 5, 1, [.val (.int .i64 a0.now.Kind), .sl a0.now.Words.length (fl (eI .u64) a0.now.Words), .sl a0.now.Kids.length (fl Za a0.now.Kids), .row n a0.done.length, .row j0_1 a0.back.length]⟩)) n [some ⟨true, 37, 11, a0.done.length, fl Zd a0.done⟩])) (n := (n + 1)) (i := i0) (j := j0_1) (k := 4) (len := a0.back.length) (q := ⟨false, 54, 5, 1, [.val (.int .i64 a0.now.Kind), .sl a0.now.Words.length (fl (eI .u64) a0.now.Words), .sl a0.now.Kids.length (fl Za a0.now.Kids), .row n a0.done.length, .row j0_1 a0.back.length]⟩) (qj := ⟨true, 37, 11, a0.back.length, fl Zd a0.back⟩) (by rw [Z6 _ hi0]; first | exact ho0 | exact Z4 _ _ _) rfl (by rw [Z6 _ Gp, Yp _ _ (Ne.symm Qk), Yp _ _ (Ne.symm Qj)]; exact Zcd) Qk (by omega)
 simp only [Z8 _ _ Gp, Z8 _ _ hi0, Yo, Yc, Xd, K4 Qk, List.set_cons_zero, List.set_cons_succ, List.cons_append, List.nil_append, List.length_cons, List.length_nil, Nat.zero_add, Nat.reduceAdd, Nat.add_assoc] at e1
 refine Qc e1 ?_
 have hU := (Und.drop (Und.drop hU j0_0) j0_1)
 have hk0 : ∀ k, i0 < n + k := fun k => by omega
 have hN0 : ∀ o, Objs.upd ((O.upd j0_0 none).upd j0_1 none) i0 o n = none := fun o => Xr hU hi0 _ (Nat.le_refl _)
 have hN : ∀ o k, Objs.upd ((O.upd j0_0 none).upd j0_1 none) i0 o (n + k) = none := fun o k => Xr hU hi0 _ (Nat.le_add_right _ _)
 show W _ _ _ _ ⟨25, [], [(0, .ref i0 0), (1, .agg (Zi a1))]⟩ (Zv (((O.upd j0_0 none).upd j0_1 none).upd i0 (some ⟨false, 54, 5, 1, [(vI a0.now.Kind), (sL (eI .u64) a0.now.Words), (sL Za a0.now.Kids), .row n a0.done.length, .row (n + 1) a0.back.length]⟩)) n [some (oR 37 11 Zd a0.done), some (oR 37 11 Zd a0.back)]) _
 refine Gj [0, 3] hi0 hk0 ?_
 refine Zl ?_
 obtain ⟨y2, hy2, h⟩ := bC h
 refine Uq Z0 (by kernel_rfl) [.low, .plain, .low, .low, .low, .low, .plain, .plain, .plain, .pass, .bar, .plain] (fun i => i < (n + 3)) [0, 1, 2, 3, 4, 5, 6, 7, 8, 9, 10, 11] [.low, .plain, .low, .low, .low, .low, .plain, .plain, .plain, .pass, .bar, .plain] [] (by kernel_rfl) rfl ?_
 refine zX2 hi0 hk0 ?_
 refine zO ?_
 first | refine PCallA.of (fun _ _ => Zqi hy2) ?_ | refine PCall.of (Zqi hy2) ?_
 refine zX2 hi0 hk0 ?_
 refine zO ?_
 refine zDs [0, 5, 6] [true, true, false, true] ?_
 refine Gj [0, 5, 17] hi0 hk0 ?_
 refine Zs (t := (!y2.2)) rfl (fun c6 => ?_) (fun c6 => ?_)
 ·replace h := Zr c6 h
  refine Gj [4] hi0 hk0 ?_
  refine zW ?_
  obtain rfl := sI h
  refine X7 (k := 2) (i := i0) (q1 := ⟨false, 54, 5, 1, [(vI a0.now.Kind), (sL (eI .u64) a0.now.Words), (sL Za a0.now.Kids), .row n a0.done.length, .row (n + 1) a0.back.length]⟩) (L3 := [some (oR 37 11 Zd a0.done), some (oR 37 11 Zd a0.back), none]) (E2 := (⟨25, [], [(4, (vI 13))]⟩ : Env)) (n3 := (n + 3)) (.inr rfl) hU rfl [(vI 13)] ?_ ?_
  ·refine Fit2.trans (E' := (⟨25, [], [(4, (vI 13))]⟩ : Env)) (O' := (Zv (((O.upd j0_0 none).upd j0_1 none).upd i0 (some ⟨false, 54, 5, 1, [(vI a0.now.Kind), (sL (eI .u64) a0.now.Words), (sL Za a0.now.Kids), .row n a0.done.length, .row (n + 1) a0.back.length]⟩)) n [some (oR 37 11 Zd a0.done), some (oR 37 11 Zd a0.back), none, none])) (n' := (n + 4)) (Fit2.of (Z9 hU rfl rfl ?_) (by omega)) ?_
   ·exact X3 hi0 hk0
   refine Xc (k := 4) (k' := 3) hU [0, 1, 2, 2] [0, 1, 0] rfl rfl rfl rfl ⟨rfl, rfl⟩ ?_
   exact X3 hi0 hk0
  simp only [push_cast, seval, ↓reduceIte, Zf, Try.results24, hi0, hk0, hN0, hN]
 replace h := Zq c6 h
 refine Jq [0, 5] [true, true, false, true] ?_
 refine Zl ?_
 refine Zl ?_
 obtain ⟨y4, hy4, h⟩ := bC h
 refine J5 [] hi0 hk0 ?_
 refine (Zh6 hy4).then ?_
 refine zX2 hi0 hk0 ?_
 refine zD [0, 5, 20] [true, true, false, true] ?_
 refine Zs (t := (!y4)) rfl (fun c5 => ?_) (fun c5 => ?_)
 ·replace h := Zr c5 h
  refine Gj [4] hi0 hk0 ?_
  refine zW ?_
  obtain rfl := sI h
  refine X7 (k := 2) (i := i0) (q1 := ⟨false, 54, 5, 1, [(vI a0.now.Kind), (sL (eI .u64) a0.now.Words), (sL Za a0.now.Kids), .row n a0.done.length, .row (n + 1) a0.back.length]⟩) (L3 := [some (oR 37 11 Zd a0.done), some (oR 37 11 Zd a0.back), none]) (E2 := (⟨25, [], [(4, (vI 3))]⟩ : Env)) (n3 := (n + 3)) (.inr rfl) hU rfl [(vI 3)] ?_ ?_
  ·refine Fit2.trans (E' := (⟨25, [], [(4, (vI 3))]⟩ : Env)) (O' := (Zv (((O.upd j0_0 none).upd j0_1 none).upd i0 (some ⟨false, 54, 5, 1, [(vI a0.now.Kind), (sL (eI .u64) a0.now.Words), (sL Za a0.now.Kids), .row n a0.done.length, .row (n + 1) a0.back.length]⟩)) n [some (oR 37 11 Zd a0.done), some (oR 37 11 Zd a0.back), none, none])) (n' := (n + 4)) (Fit2.of (Z9 hU rfl rfl ?_) (by omega)) ?_
   ·exact X3 hi0 hk0
   refine Xc (k := 4) (k' := 3) hU [0, 1, 2, 2] [0, 1, 0] rfl rfl rfl rfl ⟨rfl, rfl⟩ ?_
   exact X3 hi0 hk0
  simp only [push_cast, seval, ↓reduceIte, Zf, Try.results24, hi0, hk0, hN0, hN]
 replace h := Zq c5 h
 refine Jq [0, 5] [true, true, false, true] ?_
 refine Zl ?_
 refine J5 [] hi0 hk0 ?_
 refine zD [] [true, true, false, false] ?_
 refine Gj [4] hi0 hk0 ?_
 refine zW ?_
 obtain rfl := sI h
 refine X7 (k := 2) (i := i0) (q1 := ⟨false, 54, 5, 1, [(vI y2.1.Kind), (sL (eI .u64) y2.1.Words), (sL Za y2.1.Kids), .row n a0.done.length, .row (n + 1) a0.back.length]⟩) (L3 := [some (oR 37 11 Zd a0.done), some (oR 37 11 Zd a0.back), none]) (E2 := (⟨25, [], [(4, (vI 0))]⟩ : Env)) (n3 := (n + 3)) (.inr rfl) hU rfl [(vI 0)] ?_ ?_
 ·refine Fit2.trans (E' := (⟨25, [], [(4, (vI 0))]⟩ : Env)) (O' := (Zv (((O.upd j0_0 none).upd j0_1 none).upd i0 (some ⟨false, 54, 5, 1, [(vI y2.1.Kind), (sL (eI .u64) y2.1.Words), (sL Za y2.1.Kids), .row n a0.done.length, .row (n + 1) a0.back.length]⟩)) n [some (oR 37 11 Zd a0.done), some (oR 37 11 Zd a0.back), none, none])) (n' := (n + 4)) (Fit2.of (Z9 hU rfl rfl ?_) (by omega)) ?_
  ·exact X3 hi0 hk0
  refine Xc (k := 4) (k' := 3) hU [0, 1, 2, 2] [0, 1, 0] rfl rfl rfl rfl ⟨rfl, rfl⟩ ?_
  exact X3 hi0 hk0
 simp only [push_cast, seval, ↓reduceIte, Zf, Try.results24, hi0, hk0, hN0, hN]
theorem Zds {a0 r : List Zu} {O : Objs} {n : Nat} (h : Q5 a0 = some r) : GTo Try.prog 40 [(sL Zh a0)] O n (.row n r.length) (Zv O n [some (oR 52 4 Zh r)]) (n + 1) := by
 have h1 := Zx5 h
 have h2 := Zx6 h
 have h3 := Zrj h
 rw [List.nil_append] at h3
 subst h3
 simp only [List.length_nil, Nat.zero_add] at h1 h2
 clear h
 refine zFn Try.call40 Try.func40 fun hU hN0 hN => ?_
 show W _ _ _ _ ⟨8, [], [(0, (sL Zh r))]⟩ (Zv O n []) _
 refine zQ [0] ?_
 refine Z5j 0 r.length (fl Zh r) rfl (Nat.le_of_ble_eq_true rfl) (Yf Xn _) fun A c hA => ?_
 refine zQ [0, 4] ?_
 cases A with
 | none =>
  obtain rfl : r = [] := List.eq_nil_of_length_eq_zero (hA rfl)
  refine Zs (t := true) rfl (fun _ => ?_) (fun hc => by cases hc)
  refine zQ [2] ?_
  refine zW ?_
  refine Zrp (k := 1) (L3 := [some ⟨true, 52, 4, 0, []⟩]) (E2 := ⟨8, [], [(2, .row n 0), (2, nV)]⟩) (n3 := (n + 1)) (.inr rfl) hU rfl [.row n 0] ?_ ?_
  ·have ha := Zo7 (ba := n) (E := ⟨8, [], [(2, .val (.slice none 0 0))]⟩) (O := (Zv O n [])) (n := n) 2 52 4 rfl (by omega)
   simp only [Yc] at ha
   exact ha
  simp only [push_cast, seval, ↓reduceIte, Zf, Try.results40, hN0, hN]
 | some A =>
  refine Zs (t := false) rfl (fun hc => by cases hc) (fun _ => ?_)
  refine zK ?_
  refine And.intro rfl (And.intro (Nat.le_of_ble_eq_true rfl) ?_)
  refine Zl ?_
  refine Ys Z0 [] ?_
  simp only [push_cast, seval, ↓reduceIte, Zf, h1, h2, hN0, hN]
  refine zW ?_
  refine Zyi (.inr rfl) hU rfl [.row n r.length] (by omega) ?_
  simp only [push_cast, seval, ↓reduceIte, Zf, Try.results40, hN0, hN]
end Go.Proofs.Ytgpaglmhkklneaa
