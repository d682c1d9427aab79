/- Part IM1 of this seat's mirrors: functions of the seat's program, and the plain functions that they are; each theorem bears its own conditions. -/
import Derived.Test.YtgffgbdnbjbmoaaIE
namespace Go.Proofs.Ytgffgbdnbjbmoaa
open Go.RowKit
set_option linter.unusedVariables false
set_option linter.unusedSimpArgs false
set_option maxRecDepth 100000
set_option maxHeartbeats 4000000
attribute [local push_cast] Try.results16 Try.results26 Try.results27 Try.results33 Try.results34 Try.results42 Try.results43 Try.results44 Try.results46 Try.results48 Try.results62 Try.results63 Try.results64 Try.results66 Try.results67 Try.results68 Try.results69 Try.results73 Try.results74 Try.results75 Try.results76 Try.results77 Try.results78 Try.results79 Try.results80 Try.results81 Try.results82 Try.results83 Try.results84 Try.results85 Try.results86 Try.results87 vI vB nV sL oR Zdw Zr Za5 Z9 Q1 Zc Zsc Zsb Zs9 Zs8 Xm Yo Zo7 Zjv Zju onW Xb Gn V0 Zlz Znc Zml Zmp Zmk Zmo Zqh Zqd Zmn Zqg Zqf Zqe Zmm Zqb Zkt evS wok X9 Op.operands Call.operands gop onK onP atK List.all_cons List.all_nil Bool.and_true Bool.true_and Bool.and_self Value.oneCell' List.take_zero List.take_succ_cons List.take_nil List.drop_zero List.drop_succ_cons List.drop_nil List.append_nil Nat.add_zero Nat.zero_add J8 Z4 ev X2 Zgj Zr4 Zr3 Zr9 Zr7 Zr8 Zr5 Zr6 Zr2 Zk9 Zm8 Zrb Zfv Zbb Zd4 Zai Zly Zc5 Zhp Zhu Zjh Zjd Zhs Zjg Zjf Zje Zhr Zjb Zhq Zht Zga Zjc Zfr Zjx Ge Zgl Gf Zg7 Zfq Zo8 bLo bHi bMx Zbc Zg5 Zu7 Zfp Zgk Zc4 Vt Zo4 Zu9 Zgf Zd2 Zvd Za9 Zwg Zph Zpl Zpg Zpk Zsv Zsr Zsp Zl2 Zpi Zsu Zst Zss Zpj Zsk Zsn Zsj Zsm Zws Zwp Zwo Zsl Zwq Zwr Zsq Zey Zjt Zp5 Zkk Zkj pop TK.isAgg Zs1 Zs7 Zs0 Zs6 Zpv Zxg Zxc Zs5 Zxf Zxe Zxd Zs3 Zxb G.under G.unders List.getD_cons_zero List.getD_cons_succ List.set_cons_zero List.set_cons_succ List.map_cons List.map_nil List.toList_toArray Array.toList_append Option.toArray_none Option.toArray_some Array.toList_map Option.map_some Option.map_none Option.bind_some Option.bind_none List.getElem?_cons_zero List.getElem?_cons_succ List.getElem?_nil List.nil_append List.cons_append List.replicate_succ List.replicate_zero List.length_cons List.length_nil and_true true_and and_false false_and Bool.true_eq_false Bool.false_eq_true forall_const false_implies implies_true IntKind.bits if_true if_false ite_true ite_false eq_self true_implies false_or or_false or_true true_or not_true_eq_false not_false_eq_true decide_true decide_false decide_eq_true_eq decide_eq_false_iff_not beq_iff_eq bne_iff_ne ne_eq Bool.not_eq_true Bool.not_eq_false beq_eq_false_iff_ne bne_eq_false_iff_eq beq_self_eq_true bne_self_eq_false Option.some.injEq exists_eq_left' exists_eq_left ge_iff_le gt_iff_lt decide_not Bool.not_true Bool.not_false imp_self Zwi cond_true cond_false Z28 Z27 Bool.not_not Bool.and_false Bool.false_and Bool.or_true Bool.true_or Bool.or_false Bool.false_or Gb Zir Gm V1 Qp Xy Option.join_some Nat.add_assoc Int.toNat_natCast eI eB eS eL Qa Zg9 Zh1 Zsf Zsd Zse Zxa Zzp Zhh Zh9 Ztf Ztd Zte Zrl Zgd Zrz Zig Zox Zg4 Zwf List.length_append G.agg.injEq G.row.injEq G.ref.injEq G.val.injEq G.sl.injEq G.tup.injEq Value.int.injEq Value.bool.injEq Value.string.injEq List.cons.injEq exists_and_left exists_const List.flatten_cons List.flatten_nil Int.le_refl Nat.le_refl Zab Y7 Qq Bool.not_eq_true' Bool.not_eq_false' Zuv Zgv Zym Zyr Zyl Zyq Z1x Z1s List.size_toArray Zkm Zmc G.ren G.rens Znw Zdg Zth Zr0 Zr1 Zqc Zys Gi G.fn.injEq Zk0 Zqz Zuu Z1t Zqy Zyp Z1w Z1v Z1u Zyo Zwx Z0f Option.join_none Yi Vq undef Zgm Arr.len Arr.put_eq Zhg Zl4 Zkg Zh8 Ztc Zta Ztb onB Zw9 Zo1 Zqa Zlt Zoa Zob Zoc Zod Zoe Zof Zl3 Zl8 Zl6 Zki Zia Zl7 Zp4 Zp3 Zp2 Zp1 Zzo Z2u Zrk Zpz Jy Zrh Zio Zl9 Zkh Zvn Zmj Zfm Zgc Zb2 Zkn Zog Zoh Zoi Zoj Zlh Zli Zlj Zlk Zll Zlm Zln Zbt prT Zaj Z33 Zx8 Zkv Zx9 Z34 Zya Z35 Zyb Z36 Zyc Z37 Zyd Z38 Zye Z39 Zyf Z0n Ztp Z0o Ztq Z0p Ztr Z0q Zts Z0r Ztt Z0s Ztu Z0t Ztv Z0u Ztw Z0v Ztx Z0w Zty Z0x Ztz Z0y Zt0 Z0z Zt1 Z00 Zt2 Zku Zi1 Z01 Zn2 Z02 Zt3 Zii Zt4 Z03 Zn3 Z04 Zt5 Z05 Zt6 Z06 Zt7 Zdo Zt8 Z07 Zt9 Z08 Zn4 Z09 Zua Z1a Zub Z1b Zuc Z1c Zud Z1d Zue Z1e Zuf Z1f Zug Z1g Zuh Z1h Zui Z1i Zuj Z1j Zuk Z1k Zul Zqj Zum Z1l Zun Z1m Zuo Z1n Zup Z1o Zuq Z1p Zur Z1q Zus Z1r Zut Zxu Zql Zxv Zqm Zxw Zqn Zxx Zqo Zxy Zqp Zxz Zqq Zx0 Zqr Zx1 Zqs Zx2 Zqt Zx3 Zqu Zx4 Zqv Zx5 Zqw Zx6 Zqx Zk4 Zk2 Zj6 Zkf Zk6 Zin Zie Zic Zkx Zfi Zfh Ze8 Zfd Zfj Zel Zei Zeh Zff Zj Zar Zaq Zam Zao Zas Zaa G5 G4 Zap Zhw Zk3 Zk1 Zj5 Zke Zk5 Zim Zid Zib Zkw Zhv Zdz Zz Zae Zac Gq G0 Zag U6 U3 U1 G8 Zb Zq U9 U8 Ux U0 Ga Ur Um Ul U5 Zaf Zad Gr G3 Zah U7 U4 U2 G9 Zv Ut Us Ua Uk Uu Vy Vx Vw Uq Zf Vb Zc1 Zcz Zci Zco Zc3 Zb5 Zb1 Zbz Zcx Zdy Za6 Za7 Zc0 Zcy Zch Zcn Zc2 Zb4 Zb0 Zby Zcw
theorem Kg {a0 r : List Int} {O : Objs} {n : Nat} (h : Yp a0 = some r) : GTo Try.prog 64 [(sL (eI .u64) a0)] O n (.row n r.length) (Zo O n [some (oR 40 1 (eI .u64) r)]) (n + 1) := by
 have h1 := Zq4 h
 have h2 := Zq5 h
 have h3 := Zmw h
 rw [List.nil_append] at h3
 subst h3
 simp only [List.length_nil, Nat.zero_add] at h1 h2
 clear h
 refine zFn Try.call64 Try.func64 fun hU hN0 hN => ?_
 show W _ _ _ _ ⟨8, [], [(0, (sL (eI .u64) r))]⟩ (Zo O n []) _
 refine zQ [0] ?_
 refine Z16 0 r.length (fl (eI .u64) r) rfl (Nat.le_of_ble_eq_true rfl) (Zx X7 _) fun A c hA => ?_
 refine zQ [0, 4] ?_
 cases A with
 | none =>
  obtain rfl : r = [] := List.eq_nil_of_length_eq_zero (hA rfl)
  refine Zp (t := true) rfl (fun _ => ?_) (fun hc => by cases hc)
  refine zQ [2] ?_
  refine zW ?_
  refine Zd0 (k := 1) (L3 := [some ⟨true, 40, 1, 0, []⟩]) (E2 := ⟨8, [], [(2, .row n 0), (2, nV)]⟩) (n3 := (n + 1)) (.inr rfl) hU rfl [.row n 0] ?_ ?_
  ·have ha := Zax (ba := n) (E := ⟨8, [], [(2, .val (.slice none 0 0))]⟩) (O := (Zo O n [])) (n := n) 2 40 1 rfl (by omega)
   simp only [Xy] at ha
   exact ha
  simp only [push_cast, seval, ↓reduceIte, Zk, Try.results64, hN0, hN]
 | some A =>
  refine Zp (t := false) rfl (fun hc => by cases hc) (fun _ => ?_)
  refine zK ?_
  refine And.intro rfl (And.intro (Nat.le_of_ble_eq_true rfl) ?_)
  refine Zh ?_
  refine Z3 Zy [] ?_
  simp only [push_cast, seval, ↓reduceIte, Zk, h1, h2, hN0, hN]
  refine zW ?_
  refine Zwe (.inr rfl) hU rfl [.row n r.length] (by omega) ?_
  simp only [push_cast, seval, ↓reduceIte, Zk, Try.results64, hN0, hN]
theorem Gh {a0 r : List Int} {O : Objs} {n : Nat} (h : Yp a0 = some r) : GTo Try.prog 64 [(sL (eI .u64) a0)] O n ((sL (eI .u64) r)) O n := by
 refine GTo.freeze (Kg h) fun hU => ?_
 have hN0 : O n = none := hU.fresh _ (Nat.le_refl _)
 have hN : ∀ k, O (n + k) = none := fun k => hU.fresh _ (Nat.le_add_right _ _)
 exact zSe
theorem Zkc {a0 : (List (List Int))} {r : (List (List Int))} {O : Objs} {n : Nat} (h : Vl a0 = some r) : GTo Try.prog 43 [(sL (eL (eI .u64)) a0)] O n ((sL (eL (eI .u64)) r)) O n := by
 unfold Vl at h
 refine zFn Try.call43 Try.func43 fun hU hN0 hN => ?_
 show W _ _ _ _ ⟨23, [], [(0, (sL (eL (eI .u64)) a0))]⟩ (Zo O n []) _
 refine zQ [0] ?_
 refine Zh ?_
 obtain ⟨l2, al2, bl2, cl2, el2, h⟩ := bM2 (c := 24) rfl h
 have nl2 : Int.toNat (a0.length : Int) = List.length l2 := by rw [el2, List.length_replicate]
 have fl2 : ∀ O O' n, Ku O O' n (List.replicate (List.length l2) [G.val (.slice none 0 0)]).flatten (fl (eL (eI .u64)) l2) = True := fun O O' n => by rw [← nl2, el2]; exact eq_true (Zq0 _ _)
 clear el2
 refine Z3 Zy [] ?_
 simp only [push_cast, seval, ↓reduceIte, Zk, al2, bl2, cl2, fl2, nl2, hN0, hN]
 refine Kv ⟨23, [], [(0, (sL (eL (eI .u64)) a0)), (3, .row n l2.length)]⟩ (Zo O n [some (oR 26 1 (eL (eI .u64)) l2)]) (Yc hU rfl rfl ?_) ?_
 ·simp only [push_cast, seval, ↓reduceIte, Zk, al2, bl2, cl2, fl2, nl2, hN0, hN]
 refine Zh ?_
 refine zQd [3, 9, 10, 11] [3, 9, 10, 11] [true] ?_
 obtain ⟨z9, hz9, h⟩ := bC h
 refine Xz (E' := ⟨23, [], [(3, .row n z9.length)]⟩) (O' := (Zo O n [some (oR 26 1 (eL (eI .u64)) z9)])) (n0 := (n + 1)) ?_ ?_
 ·refine Qw hz9 (fun s0_ => ⟨23, [], [(3, .row n s0_.2.length), (9, (sL (eL (eI .u64)) a0)), (10, (vI (a0.length : Int))), (11, (vI s0_.1))]⟩) (fun s0_ => (Zo O n [some (oR 26 1 (eL (eI .u64)) s0_.2)])) (fun z9 => JX 0 n (⟨23, [], [(3, .row n z9.length)]⟩ : Env) (Zo O n [some (oR 26 1 (eL (eI .u64)) z9)]) (n + 1)) ?_
  intro s0_ x0_ hs0_
  unfold Jg at hs0_
  try dsimp only
  refine zQ [3, 9, 10, 11, 12] ?_
  refine Zh ?_
  refine Zp (t := (decide (s0_.1 < (a0.length : Int)))) rfl (fun c8 => ?_) (fun c8 => ?_)
  ·replace hs0_ := Zu c8 hs0_
   refine Kf [3, 9, 10, 11] [true] ?_
   refine Zh ?_
   refine Xg ?_
   obtain ⟨x4, hx4, ax4, bx4, cx4, hs0_⟩ := bE (f := (eL (eI .u64))) Zku (fun _ => rfl) (by decide) hs0_
   refine Gc [3, 4, 5, 9, 10, 11] (Z3 Zy [] ?_)
   refine zF3 ax4 bx4 cx4 ?_
   obtain ⟨y5, hy5, hs0_⟩ := bC hs0_
   obtain ⟨x6, hx6, ax6, bx6, cx6, hs0_⟩ := bE (f := (eL (eI .u64))) Zku (fun _ => rfl) (by decide) hs0_
   have gu7 : Ks (fl (eL (eI .u64)) s0_.2) [.sl y5.length (fl (eI .u64) y5)] (Int.toNat s0_.1 * 1) = some (fl (eL (eI .u64)) (Zbo s0_.2 s0_.1 y5)) := Zha (f := (eL (eI .u64))) (ti := ⟨.bool, 1, 0, [], false⟩) (x := y5) (fun _ => rfl) (Zd3 hx6)
   refine Z12 [] ax6 bx6 cx6 gu7 ?_
   refine (Gh hy5).then ?_
   refine zF4 ax6 bx6 cx6 gu7 ?_
   refine zD [3, 9, 10, 11] [true] ?_
   refine zR ?_
   exact zEn hs0_
  replace hs0_ := Zt c8 hs0_
  exact zEx hs0_
 try simp only [Xm, Yo, ↓reduceIte, Nat.reduceEqDiff]
 refine zD [3] [true] ?_
 refine zQ [2] ?_
 exact Yk [.row n z9.length]
theorem Zpt {a0 : (List (List Int))} {r : (Option Ze)} {O : Objs} {n : Nat} (h : Zbh a0 = some r) : GTo Try.prog 27 [(sL (eL (eI .u64)) a0)] O n ((gP Zj r)) O n := by
 unfold Zbh at h
 refine zFn Try.call27 Try.func27 fun hU hN0 hN => ?_
 show W _ _ _ _ ⟨7, [], [(0, (sL (eL (eI .u64)) a0))]⟩ (Zo O n []) _
 refine zQ [0] ?_
 refine Zh ?_
 obtain ⟨y2, hy2, h⟩ := bC h
 refine zCd (Zkc hy2) [2] [true] ?_
 exact Yk [.ref n 0]
theorem Zfz {a0 : (Option Ze)} {r : Int} {O : Objs} {n : Nat} (h : Kw a0 = some r) : GTo Try.prog 87 [(gP Zj a0)] O n ((vI r)) O n := by
 unfold Kw at h
 refine zFn Try.call87 Try.func87 fun hU hN0 hN => ?_
 show W _ _ _ _ ⟨10, [], [(0, (gP Zj a0))]⟩ (Zo O n []) _
 refine zQ [0] ?_
 refine Zh ?_
 have g2 := Zhz (f := Zj) (t := 33) Zn3 a0
 refine Z4s [0, 4] g2 ?_
 refine Zp (t := (Option.isNone a0)) rfl (fun c5 => ?_) (fun c5 => ?_)
 ·replace h := Zu c5 h
  refine zQ [2] ?_
  exact Yk [(vI 0)]
 replace h := Zt c5 h
 refine Kf [0] [] ?_
 obtain ⟨x4, hx4, h⟩ := bC h
 refine Gc [2] (Z3 Zy [] ?_)
 simp only [push_cast, seval, ↓reduceIte, Zk, hx4, hN0, hN]
 exact Yk [(vI (x4.segments.length : Int))]
theorem X6 {a0 : (Option Ze)} {a1 : Int} {r : Bool} {O : Objs} {n : Nat} (h : Qh a0 a1 = some r) : GTo Try.prog 84 [(gP Zj a0), (vI a1)] O n ((vB r)) O n := by
 unfold Qh at h
 refine zFn Try.call84 Try.func84 fun hU hN0 hN => ?_
 show W _ _ _ _ ⟨13, [], [(0, (gP Zj a0)), (1, (vI a1))]⟩ (Zo O n []) _
 refine zQ [0, 1] ?_
 obtain ⟨z2, hz2, h⟩ := bC h
 refine V4 (E' := ⟨13, [], [(4, (vB z2))]⟩) (O' := (Zo O n [])) (n0 := n) ?_ ?_
 ·rcases Bool.eq_false_or_eq_true (decide (0 ≤ a1)) with c5 | c5
  ·replace hz2 := Zu c5 hz2
   obtain ⟨y4, hy4, hz2⟩ := bC hz2
   refine Zau [some true, some true, some true, some true] c5 ?_
   refine (Zfz hy4).then ?_
   refine zX1 c5 ?_
   exact Zat hz2 c5
  replace hz2 := Zt c5 hz2
  refine Zau [some false, some false, some false, some false] c5 ?_
  exact Zat hz2 c5
 exact Yk [(vB z2)]
theorem Vi {a0 : (Option Ze)} {a1 : Int} {r : Int} {O : Objs} {n : Nat} (h : Qt a0 a1 = some r) : GTo Try.prog 85 [(gP Zj a0), (vI a1)] O n ((vI r)) O n := by
 unfold Qt at h
 refine zFn Try.call85 Try.func85 fun hU hN0 hN => ?_
 show W _ _ _ _ ⟨17, [], [(0, (gP Zj a0)), (1, (vI a1))]⟩ (Zo O n []) _
 refine zQ [0, 1] ?_
 refine Zh ?_
 refine Zh ?_
 obtain ⟨y2, hy2, h⟩ := bC h
 refine zCd (X6 hy2) [0, 1, 8] [] ?_
 refine Zp (t := (!y2)) rfl (fun c7 => ?_) (fun c7 => ?_)
 ·replace h := Zu c7 h
  refine zQ [4] ?_
  exact Yk [(vI 0)]
 replace h := Zt c7 h
 refine Kf [0, 1] [] ?_
 obtain ⟨x5, hx5, h⟩ := bC h
 obtain ⟨x6, hx6, ax6, bx6, cx6, h⟩ := bE (f := (eL (eI .u64))) Zku (fun _ => rfl) (by decide) h
 refine Gc [4] (Z3 Zy [] ?_)
 refine zF4 hx5 ax6 bx6 cx6 ?_
 exact Yk [(vI (x6.length : Int))]
theorem Vr {a0 : (Option Ze)} {a1 : Int} {a2 : Int} {a3 : Int} {r : Bool} {O : Objs} {n : Nat} (h : Qc a0 a1 a2 a3 = some r) : GTo Try.prog 79 [(gP Zj a0), (vI a1), (vI a2), (vI a3)] O n ((vB r)) O n := by
 unfold Qc at h
 refine zFn Try.call79 Try.func79 fun hU hN0 hN => ?_
 show W _ _ _ _ ⟨36, [], [(0, (gP Zj a0)), (1, (vI a1)), (2, (vI a2)), (3, (vI a3))]⟩ (Zo O n []) _
 refine zQ [0, 1, 2, 3] ?_
 obtain ⟨z4, hz4, h⟩ := bC h
 refine V4 (E' := ⟨36, [], [(8, (vB z4))]⟩) (O' := (Zo O n [])) (n0 := n) ?_ ?_
 ·obtain ⟨y8, hy8, hz4⟩ := bC hz4
  rcases Bool.eq_false_or_eq_true y8 with c11 | c11
  ·replace hz4 := Zu c11 hz4
   rcases Bool.eq_false_or_eq_true (decide (0 ≤ a2)) with c12 | c12
   ·replace hz4 := Zu c12 hz4
    try rw [c12] at c11
    rcases Bool.eq_false_or_eq_true (decide (0 ≤ a3)) with c13 | c13
    ·replace hz4 := Zu c13 hz4
     try rw [c13] at c11
     try rw [c13] at c12
     obtain ⟨y9, hy9, hz4⟩ := bC hz4
     rcases Bool.eq_false_or_eq_true (decide (a3 ≤ y9)) with c14 | c14
     ·replace hz4 := Zu c14 hz4
      try rw [c14] at c11
      try rw [c14] at c12
      try rw [c14] at c13
      obtain ⟨y10, hy10, hz4⟩ := bC hz4
      refine Zyx [none, none, none, none, some true, some true, some true, some true, some true, some true, some true, some true, some true, some true, some true, some true] c11 c12 c13 c14 ?_
      refine zG ?_
      refine (X6 hy8).then ?_
      refine zX4 c11 c12 c13 c14 ?_
      refine zG ?_
      refine (Vi hy9).then ?_
      refine zX4 c11 c12 c13 c14 ?_
      refine zG ?_
      refine (Vi hy10).then ?_
      refine zX4 c11 c12 c13 c14 ?_
      refine zG ?_
      exact Zyv hz4 c11 c12 c13 c14
     replace hz4 := Zt c14 hz4
     try rw [c14] at c11
     try rw [c14] at c12
     try rw [c14] at c13
     refine Zyx [none, none, none, none, some true, some true, some true, some true, some true, some false, some false, some false, some false, some false, some false, some false] c11 c12 c13 c14 ?_
     refine zG ?_
     refine (X6 hy8).then ?_
     refine zX4 c11 c12 c13 c14 ?_
     refine zG ?_
     refine (Vi hy9).then ?_
     refine zX4 c11 c12 c13 c14 ?_
     refine zG ?_
     exact Zyv hz4 c11 c12 c13 c14
    replace hz4 := Zt c13 hz4
    try rw [c13] at c11
    try rw [c13] at c12
    refine Zgw [none, none, none, none, some false, some false, some false, some false, some false, some false, some false, some false, some false, some false, some false, some false] c11 c12 c13 ?_
    refine zG ?_
    refine (X6 hy8).then ?_
    refine zX3 c11 c12 c13 ?_
    refine zG ?_
    exact Z1z hz4 c11 c12 c13
   replace hz4 := Zt c12 hz4
   try rw [c12] at c11
   refine Qn [none, none, none, none, some false, some false, some false, some false, some false, some false, some false, some false, some false, some false, some false, some false] c11 c12 ?_
   refine zG ?_
   refine (X6 hy8).then ?_
   refine zX2 c11 c12 ?_
   refine zG ?_
   exact Zux hz4 c11 c12
  replace hz4 := Zt c11 hz4
  refine Zau [none, none, none, none, some false, some false, some false, some false, some false, some false, some false, some false, some false, some false, some false, some false] c11 ?_
  refine zG ?_
  refine (X6 hy8).then ?_
  refine zX1 c11 ?_
  refine zG ?_
  exact Zat hz4 c11
 exact Yk [(vB z4)]
theorem Jo {a0 : (Option Ze)} {a1 : Int} {a2 : Int} {r : (Int × Bool)} {O : Objs} {n : Nat} (h : Xd a0 a1 a2 = some r) : GTo Try.prog 69 [(gP Zj a0), (vI a1), (vI a2)] O n (.tup [.val (.int .u64 r.1), (vB r.2)]) O n := by
 unfold Xd at h
 refine zFn Try.call69 Try.func69 fun hU hN0 hN => ?_
 show W _ _ _ _ ⟨23, [], [(0, (gP Zj a0)), (1, (vI a1)), (2, (vI a2))]⟩ (Zo O n []) _
 refine zQ [0, 1, 2] ?_
 refine Zh ?_
 refine Zh ?_
 obtain ⟨y2, hy2, h⟩ := bC h
 refine zCd (Vr hy2) [0, 1, 2, 12] [] ?_
 refine Zp (t := (!y2)) rfl (fun c9 => ?_) (fun c9 => ?_)
 ·replace h := Zu c9 h
  refine zQ [6, 7] ?_
  exact Yk [.val (.int .u64 0), (vB false)]
 replace h := Zt c9 h
 refine Kf [0, 1, 2] [] ?_
 obtain ⟨x6, hx6, h⟩ := bC h
 obtain ⟨x7, hx7, ax7, bx7, cx7, h⟩ := bE (f := (eL (eI .u64))) Zku (fun _ => rfl) (by decide) h
 obtain ⟨x8, hx8, ax8, bx8, cx8, h⟩ := bE (f := (eI .u64)) Zdo (fun _ => rfl) (by decide) h
 refine Gc [6, 7] (Z3 Zy [] ?_)
 refine zF7 hx6 ax7 bx7 cx7 ax8 bx8 cx8 ?_
 exact Yk [.val (.int .u64 x8), (vB true)]
theorem Zfb {a0 : Int} {r : Int} {O : Objs} {n : Nat} (h : Uj a0 = some r) : GTo Try.prog 80 [.val (.int .u64 a0)] O n ((vI r)) O n := by
 unfold Uj at h
 refine zFn Try.call80 Try.func80 fun hU hN0 hN => ?_
 show W _ _ _ _ ⟨8, [], [(0, .val (.int .u64 a0))]⟩ (Zo O n []) _
 refine zQ [0] ?_
 refine zQ [2] ?_
 exact Yk [(vI (IntKind.i64.wrap (Int.fdiv (IntKind.i32.wrap (IntKind.u32.wrap a0)) (2 ^ min (Int.toNat 2) 32))))]
theorem Ve {a0 : Int} {a1 : Int} {a2 : Int} {r : Int} {O : Objs} {n : Nat} (h : Y9 a0 a1 a2 = some r) : GTo Try.prog 81 [.val (.int .u64 a0), (vI a1), (vI a2)] O n ((vI r)) O n := by
 unfold Y9 at h
 refine zFn Try.call81 Try.func81 fun hU hN0 hN => ?_
 show W _ _ _ _ ⟨15, [], [(0, .val (.int .u64 a0)), (1, (vI a1)), (2, (vI a2))]⟩ (Zo O n []) _
 refine zQ [0, 1, 2] ?_
 obtain ⟨pu3, h⟩ := bG h
 obtain ⟨pu4, h⟩ := bG h
 refine Gc [6] (Va Zy (by kernel_rfl) [] (by kernel_rfl) ?_)
 simp only [push_cast, seval, ↓reduceIte, Zk, pu3, pu4, hN0, hN]
 exact Yk [(vI (IntKind.i64.wrap (IntKind.u64.wrap (Xr .u64 (Int.fdiv a0 (2 ^ min (Int.toNat a1) 64)) (IntKind.u64.wrap ((IntKind.u64.wrap (1 * 2 ^ min (Int.toNat a2) 64)) - 1))))))]
theorem J5 {a0 : Int} {r : Ym} {O : Objs} {n : Nat} (h : Qy a0 = some r) : GTo Try.prog 73 [.val (.int .u64 a0)] O n (.agg (Q1 r)) O n := by
 unfold Qy at h
 refine zFn Try.call73 Try.func73 fun hU hN0 hN => ?_
 show W _ _ _ _ ⟨38, [], [(0, .val (.int .u64 a0))]⟩ (Zo O n []) _
 refine zQ [0, 2] ?_
 refine Zh ?_
 refine zQ [0, 2, 4] ?_
 refine Zp (t := (a0 == 0)) rfl (fun c20 => ?_) (fun c20 => ?_)
 ·replace h := Zu c20 h
  refine Zh ?_
  refine zR ?_
  refine Kv ⟨38, [], [(2, .ref n 0)]⟩ (Zo O n [some ⟨false, 116, 8, 1, [(vI 0), (vI 0), (vI 0), (vI 0), (vI 0), (vI 0), (vI 0), (vB false)]⟩]) (Yc hU rfl rfl ?_) ?_
  ·exact zSe
  exact Yk [.agg [(vI 0), (vI 0), (vI 0), (vI 0), (vI 0), (vI 0), (vI 0), (vB false)]]
 replace h := Zt c20 h
 refine zK ?_
 refine Kv ⟨38, [], [(0, .val (.int .u64 a0)), (2, .ref n 0)]⟩ (Zo O n [some ⟨false, 116, 8, 1, [(vI 0), (vI 0), (vI 0), (vI 0), (vI 0), (vI 0), (vI 0), (vB false)]⟩]) (Yc hU rfl rfl ?_) ?_
 ·exact zSe
 refine Zh ?_
 refine zQ [0, 2, 7] ?_
 refine Xg ?_
 refine zQ [0, 2, 7, 8] ?_
 refine Zp (t := ((IntKind.u64.wrap (Xr .u64 a0 3)) == 0)) rfl (fun c19 => ?_) (fun c19 => ?_)
 ·replace h := Zu c19 h
  refine Zh ?_
  obtain ⟨y4, hy4, h⟩ := bC h
  obtain ⟨y5, hy5, h⟩ := bC h
  obtain ⟨y6, hy6, h⟩ := bC h
  refine zC (Zfb hy4) ?_
  refine zTs (Ve hy5) ?_
  refine zTs (Ve hy6) ?_
  refine Kv ⟨38, [], [(2, .ref n 0)]⟩ (Zo O n [some ⟨false, 116, 8, 1, [(vI 1), (vI y4), (vI y5), (vI y6), (vI 0), (vI 0), (vI 0), (vB false)]⟩]) (Yc hU rfl rfl ?_) ?_
  ·exact zSe
  exact Yk [.agg [(vI 1), (vI y4), (vI y5), (vI y6), (vI 0), (vI 0), (vI 0), (vB false)]]
 replace h := Zt c19 h
 refine zQ [0, 2, 7, 17] ?_
 refine Zp (t := ((IntKind.u64.wrap (Xr .u64 a0 3)) == 1)) rfl (fun c18 => ?_) (fun c18 => ?_)
 ·replace h := Zu c18 h
  refine Zh ?_
  obtain ⟨y10, hy10, h⟩ := bC h
  obtain ⟨y11, hy11, h⟩ := bC h
  obtain ⟨y12, hy12, h⟩ := bC h
  refine zC (Zfb hy10) ?_
  refine zTs (Ve hy11) ?_
  refine zTs (Ve hy12) ?_
  refine Kv ⟨38, [], [(2, .ref n 0)]⟩ (Zo O n [some ⟨false, 116, 8, 1, [(vI 2), (vI y10), (vI 0), (vI 0), (vI y11), (vI y12), (vI 0), (vB false)]⟩]) (Yc hU rfl rfl ?_) ?_
  ·exact zSe
  exact Yk [.agg [(vI 2), (vI y10), (vI 0), (vI 0), (vI y11), (vI y12), (vI 0), (vB false)]]
 replace h := Zt c18 h
 refine zQ [0, 2, 26] ?_
 refine Zp (t := ((IntKind.u64.wrap (Xr .u64 a0 3)) == 2)) rfl (fun c17 => ?_) (fun c17 => ?_)
 ·replace h := Zu c17 h
  refine Zh ?_
  obtain ⟨y15, hy15, h⟩ := bC h
  obtain ⟨y16, hy16, h⟩ := bC h
  refine zC (Ve hy15) ?_
  refine zTs (Ve hy16) ?_
  refine Kv ⟨38, [], [(2, .ref n 0)]⟩ (Zo O n [some ⟨false, 116, 8, 1, [(vI 3), (vI y15), (vI 0), (vI 0), (vI 0), (vI 0), (vI y16), (vB ((IntKind.u64.wrap (Xr .u64 (Int.fdiv a0 (2 ^ min (Int.toNat 2) 64)) 1)) == 1))]⟩]) (Yc hU rfl rfl ?_) ?_
  ·exact zSe
  exact Yk [.agg [(vI 3), (vI y15), (vI 0), (vI 0), (vI 0), (vI 0), (vI y16), (vB ((IntKind.u64.wrap (Xr .u64 (Int.fdiv a0 (2 ^ min (Int.toNat 2) 64)) 1)) == 1))]]
 replace h := Zt c17 h
 refine zK ?_
 refine Kv ⟨38, [], [(2, .ref n 0)]⟩ (Zo O n [some ⟨false, 116, 8, 1, [(vI 0), (vI 0), (vI 0), (vI 0), (vI 0), (vI 0), (vI 0), (vB false)]⟩]) (Yc hU rfl rfl ?_) ?_
 ·exact zSe
 refine Zh ?_
 refine zR ?_
 refine Kv ⟨38, [], [(2, .ref n 0)]⟩ (Zo O n [some ⟨false, 116, 8, 1, [(vI 4), (vI 0), (vI 0), (vI 0), (vI 0), (vI 0), (vI 0), (vB false)]⟩]) (Yc hU rfl rfl ?_) ?_
 ·exact zSe
 exact Yk [.agg [(vI 4), (vI 0), (vI 0), (vI 0), (vI 0), (vI 0), (vI 0), (vB false)]]
theorem Ze1 {a0 : (Option Ze)} {a1 : Int} {a2 : Int} {a3 : Int} {r : ((List Int) × Bool)} {O : Objs} {n : Nat} (h : Jl a0 a1 a2 a3 = some r) : GTo Try.prog 82 [(gP Zj a0), (vI a1), (vI a2), (vI a3)] O n (.tup [(sL (eI .u64) r.1), (vB r.2)]) O n := by
 unfold Jl at h
 refine zFn Try.call82 Try.func82 fun hU hN0 hN => ?_
 show W _ _ _ _ ⟨29, [], [(0, (gP Zj a0)), (1, (vI a1)), (2, (vI a2)), (3, (vI a3))]⟩ (Zo O n []) _
 refine zQ [0, 1, 2, 3] ?_
 refine Zh ?_
 refine Zh ?_
 obtain ⟨y2, hy2, h⟩ := bC h
 refine zCd (Vr hy2) [0, 1, 2, 3, 15] [] ?_
 refine Zp (t := (!y2)) rfl (fun c11 => ?_) (fun c11 => ?_)
 ·replace h := Zu c11 h
  refine zQ [8, 9] ?_
  exact Yk [nV, (vB false)]
 replace h := Zt c11 h
 refine Kf [0, 1, 2, 3] [] ?_
 refine Zh ?_
 obtain ⟨x7, hx7, h⟩ := bC h
 obtain ⟨x8, hx8, ax8, bx8, cx8, h⟩ := bE (f := (eL (eI .u64))) Zku (fun _ => rfl) (by decide) h
 obtain ⟨l9, al9, bl9, cl9, gl9, h⟩ := bS (lo := (some (.i64, a2))) (hi := (some (.i64, (IntKind.i64.wrap (a2 + a3))))) (f := (eI .u64)) rfl rfl Zi1 Zdo (fun _ => rfl) h
 obtain ⟨y10, hy10, h⟩ := bC h
 refine Z4t [] hx7 ax8 bx8 cx8 al9 bl9 cl9 gl9 ?_
 refine (Kg  hy10).then ?_
 refine zF8 hx7 ax8 bx8 cx8 al9 bl9 cl9 gl9 ?_
 refine zD [8, 9] [true] ?_
 exact Yk [.row n y10.length, (vB true)]
theorem Zns {a0 : Int} {r : Int} {O : Objs} {n : Nat} (h : Gw a0 = some r) : GTo Try.prog 86 [(vI a0)] O n ((vI r)) O n := by
 unfold Gw at h
 refine zFn Try.call86 Try.func86 fun hU hN0 hN => ?_
 show W _ _ _ _ ⟨8, [], [(0, (vI a0))]⟩ (Zo O n []) _
 refine zQ [0] ?_
 refine Zh ?_
 obtain ⟨y6, hy6, ey6, h⟩ := bY (f := (eI .i64)) (cs := [.val (.int .i64 0), .val (.int .i64 1), .val (.int .i64 8), .val (.int .i64 16), .val (.int .i64 32), .val (.int .i64 64), .val (.int .i64 64)]) rfl h
 have g7 := congrArg G.agg ey6
 obtain ⟨y8, hy8, ey8, h⟩ := bY (f := (eI .i64)) (cs := [.val (.int .i64 0), .val (.int .i64 0), .val (.int .i64 0), .val (.int .i64 0), .val (.int .i64 0), .val (.int .i64 0), .val (.int .i64 0)]) rfl h
 have g9 := congrArg (GObj.mk false 138 7 1) ey8
 have g10 := Zjw (f := (eI .i64)) y8 y6 (fun _ => rfl)
 refine Zgw [] g7 g9 g10 ?_
 refine zD [0, 3] [true] ?_
 obtain ⟨x12, hx12, ax12, bx12, cx12, h⟩ := bEA (f := (eI .i64)) (b := 7) rfl Zkv (fun _ => rfl) (by decide) h
 refine Gc [2] (Z3 Zy [] ?_)
 refine zF3 ax12 bx12 cx12 ?_
 exact Yk [(vI x12)]
theorem Zhd {a0 : Ym} {r : (Int × Bool)} {O : Objs} {n : Nat} (h : Ko a0 = some r) : GTo Try.prog 83 [.agg (Q1 a0)] O n (.tup [(vI r.1), (vB r.2)]) O n := by
 unfold Ko at h
 refine zFn Try.call83 Try.func83 fun hU hN0 hN => ?_
 show W _ _ _ _ ⟨57, [], [(0, .agg (Q1 a0))]⟩ (Zo O n []) _
 refine zQ [1] ?_
 refine Zh ?_
 refine Xg ?_
 refine zQ [1, 4] ?_
 refine Zp (t := (a0.Kind == 1)) rfl (fun c5 => ?_) (fun c5 => ?_)
 ·replace h := Zu c5 h
  refine zQ [2, 3] ?_
  exact Yk [(vI (IntKind.i64.wrap (a0.Data + a0.Ptrs))), (vB true)]
 replace h := Zt c5 h
 refine zQD [1, 13] [none, none, none] ?_
 refine Zp (t := (cond (a0.Kind == 2) (a0.Code == 7) false)) rfl (fun c4 => ?_) (fun c4 => ?_)
 ·replace h := Zu c4 h
  refine zQ [2, 3] ?_
  exact Yk [(vI (IntKind.i64.wrap (a0.Count + 1))), (vB true)]
 replace h := Zt c4 h
 refine zQD [1, 25] [none, none, none, none, none, none, none, none, none, none, none, none] ?_
 refine Zp (t := (cond (cond (cond (cond (a0.Kind == 2) (decide (0 ≤ a0.Code)) false) (decide (a0.Code < 7)) false) (decide (0 ≤ a0.Count)) false) (decide (a0.Count ≤ 536870911)) false)) rfl (fun c3 => ?_) (fun c3 => ?_)
 ·replace h := Zu c3 h
  refine Zh ?_
  obtain ⟨y2, hy2, h⟩ := bC h
  refine Va Zy (by kernel_rfl) [] (by kernel_rfl) ?_
  refine zS ?_
  refine PCall.of (Zns hy2) ?_
  refine zS ?_
  refine zD [2, 3] [false] ?_
  exact Yk [(vI (IntKind.i64.wrap (Int.tdiv (IntKind.i64.wrap ((IntKind.i64.wrap (a0.Count * y2)) + 63)) 64))), (vB true)]
 replace h := Zt c3 h
 refine Kf [] [false] ?_
 refine zQ [2, 3] ?_
 exact Yk [(vI 0), (vB false)]
theorem Zcb {a0 : (Option Ze)} {a1 : Ym} {a2 : Int} {a3 : Int} {r : (Y3 × Int)} {O : Objs} {n : Nat} (h : Kj a0 a1 a2 a3 = some r) : GTo Try.prog 76 [(gP Zj a0), .agg (Q1 a1), (vI a2), (vI a3)] O n (.tup [.agg [(vI r.1.P.Kind), (vI r.1.P.Off), (vI r.1.P.Data), (vI r.1.P.Ptrs), (vI r.1.P.Code), (vI r.1.P.Count), (vI r.1.P.Segment), (vB r.1.P.Double), (vI r.1.Segment), (vI r.1.At)], (vI r.2)]) O n := by
 unfold Kj at h
 refine zFn Try.call76 Try.func76 fun hU hN0 hN => ?_
 show W _ _ _ _ ⟨36, [], [(0, (gP Zj a0)), (1, .agg (Q1 a1)), (2, (vI a2)), (3, (vI a3))]⟩ (Zo O n []) _
 refine zQ [0, 2, 3, 5, 8] ?_
 refine Zh ?_
 refine zQ [0, 2, 3, 5, 8, 14] ?_
 refine Zp (t := (a1.Kind == 4)) rfl (fun c7 => ?_) (fun c7 => ?_)
 ·replace h := Zu c7 h
  refine Zh ?_
  refine zRd [8, 9] [false, true] ?_
  exact Yk [.agg [(vI 0), (vI 0), (vI 0), (vI 0), (vI 0), (vI 0), (vI 0), (vB false), (vI 0), (vI 0)], (vI 9)]
 replace h := Zt c7 h
 refine Kf [0, 2, 3, 5, 8] [true, true] ?_
 refine Zh ?_
 obtain ⟨y2, hy2, h⟩ := bC h
 refine zCd (Zhd hy2) [0, 2, 3, 5, 8, 10, 11] [true, true] ?_
 refine Zh ?_
 refine zQ [0, 2, 3, 5, 8, 10, 22] ?_
 refine Zp (t := (!y2.2)) rfl (fun c6 => ?_) (fun c6 => ?_)
 ·replace h := Zu c6 h
  refine Zh ?_
  refine zRd [8, 9] [false, true] ?_
  exact Yk [.agg [(vI 0), (vI 0), (vI 0), (vI 0), (vI 0), (vI 0), (vI 0), (vB false), (vI 0), (vI 0)], (vI 8)]
 replace h := Zt c6 h
 refine Kf [0, 2, 3, 5, 8, 10] [true, true] ?_
 refine Zh ?_
 refine Zh ?_
 obtain ⟨y4, hy4, h⟩ := bC h
 refine zCd (Vr hy4) [2, 3, 5, 8, 29] [true, true] ?_
 refine Zp (t := (!y4)) rfl (fun c5 => ?_) (fun c5 => ?_)
 ·replace h := Zu c5 h
  refine Zh ?_
  refine zRd [8, 9] [false, true] ?_
  exact Yk [.agg [(vI 0), (vI 0), (vI 0), (vI 0), (vI 0), (vI 0), (vI 0), (vB false), (vI 0), (vI 0)], (vI 7)]
 replace h := Zt c5 h
 refine Kf [2, 3, 5, 8] [true, true] ?_
 refine Zh ?_
 refine zRd [2, 3, 5, 8] [true, true] ?_
 refine Zh ?_
 refine zRd [8, 9] [false, true] ?_
 exact Yk [.agg [(vI a1.Kind), (vI 0), (vI a1.Data), (vI a1.Ptrs), (vI a1.Code), (vI a1.Count), (vI a1.Segment), (vB a1.Double), (vI a2), (vI a3)], (vI 0)]
theorem Zld {a0 : (Option Ze)} {a1 : Int} {a2 : Int} {r : (Y3 × Int)} {O : Objs} {n : Nat} (h : Uh a0 a1 a2 = some r) : GTo Try.prog 74 [(gP Zj a0), (vI a1), (vI a2)] O n (.tup [.agg [(vI r.1.P.Kind), (vI r.1.P.Off), (vI r.1.P.Data), (vI r.1.P.Ptrs), (vI r.1.P.Code), (vI r.1.P.Count), (vI r.1.P.Segment), (vB r.1.P.Double), (vI r.1.Segment), (vI r.1.At)], (vI r.2)]) O n := by
 unfold Uh at h
 refine zFn Try.call74 Try.func74 fun hU hN0 hN => ?_
 show W _ _ _ _ ⟨56, [], [(0, (gP Zj a0)), (1, (vI a1)), (2, (vI a2))]⟩ (Zo O n []) _
 refine zQ [0, 1, 2, 6] ?_
 refine Zh ?_
 obtain ⟨y2, hy2, h⟩ := bC h
 refine zCd (Ze1 hy2) [0, 6, 8, 9] [true] ?_
 refine Zh ?_
 refine zQ [0, 6, 8, 20] ?_
 refine Zp (t := (!y2.2)) rfl (fun c11 => ?_) (fun c11 => ?_)
 ·replace h := Zu c11 h
  refine Zh ?_
  refine zRd [6, 7] [true] ?_
  exact Yk [.agg [(vI 0), (vI 0), (vI 0), (vI 0), (vI 0), (vI 0), (vI 0), (vB false), (vI 0), (vI 0)], (vI 7)]
 replace h := Zt c11 h
 refine Kf [0, 6, 8] [true] ?_
 obtain ⟨x3, hx3, ax3, bx3, cx3, h⟩ := bE (f := (eI .u64)) Zdo (fun _ => rfl) (by decide) h
 obtain ⟨y4, hy4, h⟩ := bC h
 obtain ⟨x5, hx5, ax5, bx5, cx5, h⟩ := bE (f := (eI .u64)) Zdo (fun _ => rfl) (by decide) h
 obtain ⟨y6, hy6, h⟩ := bC h
 refine V4 (E' := ⟨56, [], [(0, (gP Zj a0)), (6, .ref n 0), (10, .ref (n + 1) 0), (11, .ref (n + 2) 0)]⟩) (O' := (Zo O n [some ⟨false, 118, 10, 1, [(vI 0), (vI 0), (vI 0), (vI 0), (vI 0), (vI 0), (vI 0), (vB false), (vI 0), (vI 0)]⟩, some ⟨false, 116, 8, 1, (Q1 y4)⟩, some ⟨false, 116, 8, 1, (Q1 y6)⟩])) (n0 := (n + 3)) ?_ ?_
 ·refine Zy1 Zy (by kernel_rfl) [.low, .low, .low, .low, .low, .low, .low, .low, .pass, .pass, .pass, .pass] (fun i => i < (n + 1)) 8 9 [0, 1, 2, 3, 4, 5, 6, 7] [10, 11] [.low, .low, .low, .low, .low, .low, .low, .low] [.pass, .pass, .pass, .pass] [.pass, .pass, .pass, .pass] [] (by kernel_rfl) rfl rfl rfl ?_
  refine zF6 ax3 bx3 cx3 ax5 bx5 cx5 ?_
  repeat (with_reducible refine And.intro (by omega) ?_)
  first | refine PCallA.of (fun _ _ => J5 hy4) ?_ | refine PCall.of (J5 hy4) ?_
  refine zF6 ax3 bx3 cx3 ax5 bx5 cx5 ?_
  repeat (with_reducible refine And.intro (by omega) ?_)
  first | refine PCallA.of (fun _ _ => J5 hy6) ?_ | refine PCall.of (J5 hy6) ?_
  refine zF6 ax3 bx3 cx3 ax5 bx5 cx5 ?_
  repeat (with_reducible refine And.intro (by omega) ?_)
  refine And.intro ?_ ?_
  ·refine zF6 ax3 bx3 cx3 ax5 bx5 cx5 ?_
   repeat (with_reducible refine And.intro (by first | exact Zg1 rfl | exact Zfk) ?_)
   exact Z4p ax3 bx3 cx3 ax5 bx5 cx5
  refine zF6 ax3 bx3 cx3 ax5 bx5 cx5 ?_
  repeat (with_reducible refine And.intro (by first | exact Zg1 rfl | exact Zfk) ?_)
  refine And.intro rfl ?_
  refine Fit2.trans (E' := (⟨56, [], [(0, (gP Zj a0)), (6, .ref n 0), (10, .ref (n + 2) 0), (11, .ref (n + 1) 0)]⟩ : Env)) (O' := (Zo O n [some ⟨false, 118, 10, 1, [(vI 0), (vI 0), (vI 0), (vI 0), (vI 0), (vI 0), (vI 0), (vB false), (vI 0), (vI 0)]⟩, some ⟨false, 116, 8, 1, (Q1 y6)⟩, some ⟨false, 116, 8, 1, (Q1 y4)⟩])) (n' := (n + 3)) (Fit2.of (Yc hU rfl rfl ?_) (by omega)) ?_
  ·exact Z4r ax3 bx3 cx3 ax5 bx5 cx5
  refine Zaw (k := 3) (k' := 3) hU [0, 2, 1] [0, 2, 1] rfl rfl rfl rfl ⟨rfl, rfl⟩ ?_
  exact zSe
 refine Zh ?_
 refine zQD [0, 6, 10, 11, 36] [none, none] ?_
 refine Zp (t := (cond (y4.Kind != 3) true y4.Double)) rfl (fun c10 => ?_) (fun c10 => ?_)
 ·replace h := Zu c10 h
  refine Zh ?_
  refine zRd [6, 7] [true, false, false] ?_
  exact Yk [.agg [(vI 0), (vI 0), (vI 0), (vI 0), (vI 0), (vI 0), (vI 0), (vB false), (vI 0), (vI 0)], (vI 8)]
 replace h := Zt c10 h
 refine Kf [0, 6, 10, 11] [true, true, true] ?_
 refine Zh ?_
 refine zQD [0, 6, 10, 11, 45] [none, none, none] ?_
 refine Zp (t := (cond (y6.Kind != 4) (y6.Off != 0) false)) rfl (fun c9 => ?_) (fun c9 => ?_)
 ·replace h := Zu c9 h
  refine Zh ?_
  refine zRd [6, 7] [true, false, false] ?_
  exact Yk [.agg [(vI 0), (vI 0), (vI 0), (vI 0), (vI 0), (vI 0), (vI 0), (vB false), (vI 0), (vI 0)], (vI 8)]
 replace h := Zt c9 h
 refine Kf [0, 6, 10, 11] [true, true, true] ?_
 refine Zh ?_
 obtain ⟨y8, hy8, h⟩ := bC h
 refine zCd (Zcb hy8) [6, 7] [true, false, false] ?_
 exact Yk [.agg [(vI y8.1.P.Kind), (vI y8.1.P.Off), (vI y8.1.P.Data), (vI y8.1.P.Ptrs), (vI y8.1.P.Code), (vI y8.1.P.Count), (vI y8.1.P.Segment), (vB y8.1.P.Double), (vI y8.1.Segment), (vI y8.1.At)], (vI y8.2)]
theorem Zle {a0 : (Option Ze)} {a1 : Int} {a2 : Int} {r : (Y3 × Int)} {O : Objs} {n : Nat} (h : Ui a0 a1 a2 = some r) : GTo Try.prog 75 [(gP Zj a0), (vI a1), (vI a2)] O n (.tup [.agg [(vI r.1.P.Kind), (vI r.1.P.Off), (vI r.1.P.Data), (vI r.1.P.Ptrs), (vI r.1.P.Code), (vI r.1.P.Count), (vI r.1.P.Segment), (vB r.1.P.Double), (vI r.1.Segment), (vI r.1.At)], (vI r.2)]) O n := by
 unfold Ui at h
 refine zFn Try.call75 Try.func75 fun hU hN0 hN => ?_
 show W _ _ _ _ ⟨34, [], [(0, (gP Zj a0)), (1, (vI a1)), (2, (vI a2))]⟩ (Zo O n []) _
 refine zQ [0, 1, 2, 6] ?_
 refine Zh ?_
 obtain ⟨y2, hy2, h⟩ := bC h
 refine zCd (Jo hy2) [0, 1, 2, 6, 8, 9] [true] ?_
 refine Zh ?_
 refine zQ [0, 1, 2, 6, 8, 19] ?_
 refine Zp (t := (!y2.2)) rfl (fun c7 => ?_) (fun c7 => ?_)
 ·replace h := Zu c7 h
  refine Zh ?_
  refine zRd [6, 7] [true] ?_
  exact Yk [.agg [(vI 0), (vI 0), (vI 0), (vI 0), (vI 0), (vI 0), (vI 0), (vB false), (vI 0), (vI 0)], (vI 7)]
 replace h := Zt c7 h
 refine Kf [0, 1, 2, 6, 8] [true] ?_
 refine Zh ?_
 obtain ⟨y4, hy4, h⟩ := bC h
 refine zCd (J5 hy4) [0, 1, 2, 6, 10] [true, true] ?_
 refine Zh ?_
 obtain ⟨y6, hy6, h⟩ := bC h
 refine zCd (Zcb hy6) [6, 7] [true, false] ?_
 exact Yk [.agg [(vI y6.1.P.Kind), (vI y6.1.P.Off), (vI y6.1.P.Data), (vI y6.1.P.Ptrs), (vI y6.1.P.Code), (vI y6.1.P.Count), (vI y6.1.P.Segment), (vB y6.1.P.Double), (vI y6.1.Segment), (vI y6.1.At)], (vI y6.2)]
theorem Zlc {a0 : (Option Ze)} {a1 : Int} {a2 : Int} {r : (Y3 × Int)} {O : Objs} {n : Nat} (h : Ug a0 a1 a2 = some r) : GTo Try.prog 62 [(gP Zj a0), (vI a1), (vI a2)] O n (.tup [.agg [(vI r.1.P.Kind), (vI r.1.P.Off), (vI r.1.P.Data), (vI r.1.P.Ptrs), (vI r.1.P.Code), (vI r.1.P.Count), (vI r.1.P.Segment), (vB r.1.P.Double), (vI r.1.Segment), (vI r.1.At)], (vI r.2)]) O n := by
 unfold Ug at h
 refine zFn Try.call62 Try.func62 fun hU hN0 hN => ?_
 show W _ _ _ _ ⟨67, [], [(0, (gP Zj a0)), (1, (vI a1)), (2, (vI a2))]⟩ (Zo O n []) _
 refine zQ [0, 1, 2, 6] ?_
 refine Zh ?_
 obtain ⟨y2, hy2, h⟩ := bC h
 refine zCd (Jo hy2) [0, 1, 2, 6, 8, 9] [true] ?_
 refine Zh ?_
 refine zQ [0, 1, 2, 6, 8, 19] ?_
 refine Zp (t := (!y2.2)) rfl (fun c14 => ?_) (fun c14 => ?_)
 ·replace h := Zu c14 h
  refine Zh ?_
  refine zRd [6, 7] [true] ?_
  exact Yk [.agg [(vI 0), (vI 0), (vI 0), (vI 0), (vI 0), (vI 0), (vI 0), (vB false), (vI 0), (vI 0)], (vI 7)]
 replace h := Zt c14 h
 refine Kf [0, 1, 2, 6, 8] [true] ?_
 refine Zh ?_
 obtain ⟨y4, hy4, h⟩ := bC h
 refine zCd (J5 hy4) [0, 1, 2, 6, 10] [true, true] ?_
 refine Zh ?_
 refine Xg ?_
 refine zQ [0, 1, 2, 6, 10, 23] ?_
 refine Zp (t := (y4.Kind == 0)) rfl (fun c13 => ?_) (fun c13 => ?_)
 ·replace h := Zu c13 h
  refine Zh ?_
  refine zRd [6, 7] [true, false] ?_
  exact Yk [.agg [(vI 0), (vI 0), (vI 0), (vI 0), (vI 0), (vI 0), (vI 0), (vB false), (vI 0), (vI 0)], (vI 0)]
 replace h := Zt c13 h
 refine zQD [0, 1, 2, 6, 10, 28] [none, none] ?_
 refine Zp (t := (cond (y4.Kind == 3) y4.Double false)) rfl (fun c12 => ?_) (fun c12 => ?_)
 ·replace h := Zu c12 h
  refine Zh ?_
  obtain ⟨y6, hy6, h⟩ := bC h
  refine zCd (Zld hy6) [6, 7] [true, false] ?_
  exact Yk [.agg [(vI y6.1.P.Kind), (vI y6.1.P.Off), (vI y6.1.P.Data), (vI y6.1.P.Ptrs), (vI y6.1.P.Code), (vI y6.1.P.Count), (vI y6.1.P.Segment), (vB y6.1.P.Double), (vI y6.1.Segment), (vI y6.1.At)], (vI y6.2)]
 replace h := Zt c12 h
 refine zQ [0, 1, 2, 6, 10, 44] ?_
 refine Zp (t := (y4.Kind == 3)) rfl (fun c11 => ?_) (fun c11 => ?_)
 ·replace h := Zu c11 h
  refine Zh ?_
  obtain ⟨y8, hy8, h⟩ := bC h
  refine zCd (Zle hy8) [6, 7] [true, false] ?_
  exact Yk [.agg [(vI y8.1.P.Kind), (vI y8.1.P.Off), (vI y8.1.P.Data), (vI y8.1.P.Ptrs), (vI y8.1.P.Code), (vI y8.1.P.Count), (vI y8.1.P.Segment), (vB y8.1.P.Double), (vI y8.1.Segment), (vI y8.1.At)], (vI y8.2)]
 replace h := Zt c11 h
 refine Kf [0, 1, 2, 6, 10] [true, true] ?_
 refine Zh ?_
 obtain ⟨y10, hy10, h⟩ := bC h
 refine zCd (Zcb hy10) [6, 7] [true, false] ?_
 exact Yk [.agg [(vI y10.1.P.Kind), (vI y10.1.P.Off), (vI y10.1.P.Data), (vI y10.1.P.Ptrs), (vI y10.1.P.Code), (vI y10.1.P.Count), (vI y10.1.P.Segment), (vB y10.1.P.Double), (vI y10.1.Segment), (vI y10.1.At)], (vI y10.2)]
theorem Ze4 {a0 : Za} {r : (Za × Int)} {O : Objs} {n : Nat} (h : Kk a0 = some r) : GTo Try.prog 63 [.agg (Zc a0)] O n (.tup [.agg (Zc r.1), (vI r.2)]) O n := by
 unfold Kk at h
 refine zFn Try.call63 Try.func63 fun hU hN0 hN => ?_
 show W _ _ _ _ ⟨56, [], [(0, .agg (Zc a0))]⟩ (Zo O n []) _
 refine zQ [1, 2] ?_
 refine Zh ?_
 obtain ⟨y2, hy2, h⟩ := bC h
 refine zCd (Jo hy2) [1, 2, 4] [true, true] ?_
 refine Zh ?_
 obtain ⟨y4, hy4, h⟩ := bC h
 refine zCd (J5 hy4) [1, 2, 6] [true, true, true] ?_
 refine Zh ?_
 refine zQD [1, 2, 6, 44] [none, none, none, none, none, none, none, none, none, none, none, none, none, none, none, none, none] ?_
 refine Zp (t := (cond (cond (cond (y4.Kind != 0) (y4.Kind != 1) false) true (decide (y4.Off < 0))) true (decide (a0.count < (IntKind.i64.wrap (y4.Off * (IntKind.i64.wrap (y4.Data + y4.Ptrs)))))))) rfl (fun c5 => ?_) (fun c5 => ?_)
 ·replace h := Zu c5 h
  refine Zh ?_
  refine zRd [2, 3] [false, true, false] ?_
  exact Yk [.agg [.val (.pointer none), (vI 0), (vI 0), (vI 0), (vI 0), (vI 0), (vI 0), (vI 0), (vI 0)], (vI 8)]
 replace h := Zt c5 h
 refine Kf [1, 2, 6] [true, true, true] ?_
 refine Zh ?_
 refine Zf7 Zy (by kernel_rfl) [.plain, .plain, .low, .low, .low, .low, .plain, .pass, .plain, .pass, .plain, .bar] (fun i => i ≠ n + 0) [0, 1, 2, 3, 4, 5, 6, 7, 8, 9, 10, 11] [.plain, .plain, .low, .low, .low, .low, .plain, .pass, .plain, .pass, .plain, .bar] [] (by kernel_rfl) rfl ?_
 refine zS ?_
 refine zO ?_
 refine zDs [1, 2] [true, true, false] ?_
 refine zRd [2, 3] [false, true, false] ?_
 exact Yk [.agg [(gP Zj a0.a), (vI a0.kind), (vI a0.segment), (vI a0.at_), (vI y4.Data), (vI y4.Ptrs), (vI y4.Off), (vI a0.code), (vI a0.index)], (vI 0)]
theorem Zdb {a0 : (Option Ze)} {a1 : Int} {a2 : Int} {r : (Za × Int)} {O : Objs} {n : Nat} (h : K3 a0 a1 a2 = some r) : GTo Try.prog 42 [(gP Zj a0), (vI a1), (vI a2)] O n (.tup [.agg (Zc r.1), (vI r.2)]) O n := by
 unfold K3 at h
 refine zFn Try.call42 Try.func42 fun hU hN0 hN => ?_
 show W _ _ _ _ ⟨66, [], [(0, (gP Zj a0)), (1, (vI a1)), (2, (vI a2))]⟩ (Zo O n []) _
 refine zQ [0, 1, 2, 6] ?_
 refine Zh ?_
 obtain ⟨y2, hy2, h⟩ := bC h
 refine zCd (Zlc hy2) [0, 6, 8, 9] [true, true] ?_
 refine Zh ?_
 refine zQD [0, 6, 8, 9, 25] [none, none, none, none] ?_
 refine Zp (t := (cond (y2.2 != 0) true (y2.1.P.Kind == 0))) rfl (fun c7 => ?_) (fun c7 => ?_)
 ·replace h := Zu c7 h
  refine Zh ?_
  refine zRd [6, 7] [true, false] ?_
  exact Yk [.agg [.val (.pointer none), (vI 0), (vI 0), (vI 0), (vI 0), (vI 0), (vI 0), (vI 0), (vI 0)], (vI y2.2)]
 replace h := Zt c7 h
 refine Kf [0, 6, 8] [true, true] ?_
 refine Zh ?_
 refine zRd [6, 8, 10] [true, true, true] ?_
 refine Zh ?_
 refine zQ [6, 8, 10, 37] ?_
 refine Zp (t := (y2.1.P.Kind == 1)) rfl (fun c6 => ?_) (fun c6 => ?_)
 ·replace h := Zu c6 h
  refine Zh ?_
  refine Zf7 Zy (by kernel_rfl) [.low, .low, .low, .low, .low, .low, .plain, .pass, .plain, .pass, .plain, .bar] (fun i => i ≠ n + 2) [0, 1, 2, 3, 4, 5, 6, 7, 8, 9, 10, 11] [.low, .low, .low, .low, .low, .low, .plain, .pass, .plain, .pass, .plain, .bar] [] (by kernel_rfl) rfl ?_
  refine zS ?_
  refine zO ?_
  refine zDs [6, 10] [true, false, true] ?_
  refine zRd [6, 7] [true, false, false] ?_
  exact Yk [.agg [(gP Zj a0), (vI 1), (vI y2.1.Segment), (vI y2.1.At), (vI y2.1.P.Data), (vI y2.1.P.Ptrs), (vI 0), (vI 0), (vI 0)], (vI 0)]
 replace h := Zt c6 h
 refine Kf [6, 8, 10] [true, true, true] ?_
 refine Zh ?_
 refine Zf7 Zy (by kernel_rfl) [.plain, .plain, .plain, .plain, .low, .low, .low, .plain, .pass, .plain, .bar] (fun i => i ≠ n + 2) [0, 1, 2, 3, 4, 5, 6, 7, 8, 9, 10] [.plain, .plain, .plain, .plain, .low, .low, .low, .plain, .pass, .plain, .bar] [] (by kernel_rfl) rfl ?_
 refine zS ?_
 refine zO ?_
 refine zDs [6, 8, 10] [true, true, true] ?_
 refine zQ [6, 10, 60] ?_
 refine Zp (t := (y2.1.P.Code == 7)) rfl (fun c5 => ?_) (fun c5 => ?_)
 ·replace h := Zu c5 h
  refine Zh ?_
  obtain ⟨y4, hy4, h⟩ := bC h
  refine zCd (Ze4 hy4) [6, 7] [true, false, false] ?_
  exact Yk [.agg (Zc y4.1), (vI y4.2)]
 replace h := Zt c5 h
 refine Kf [6, 10] [true, false, true] ?_
 refine Zh ?_
 refine zRd [6, 7] [true, false, false] ?_
 exact Yk [.agg [(gP Zj a0), (vI (IntKind.i64.wrap (y2.1.P.Code + 2))), (vI y2.1.Segment), (vI y2.1.At), (vI 0), (vI 0), (vI y2.1.P.Count), (vI 0), (vI 0)], (vI 0)]
theorem Zkd {a0 : (Option Ze)} {r : (Za × Int)} {O : Objs} {n : Nat} (h : Vm a0 = some r) : GTo Try.prog 26 [(gP Zj a0)] O n (.tup [.agg (Zc r.1), (vI r.2)]) O n := by
 unfold Vm at h
 refine zFn Try.call26 Try.func26 fun hU hN0 hN => ?_
 show W _ _ _ _ ⟨8, [], [(0, (gP Zj a0))]⟩ (Zo O n []) _
 refine zQ [0, 2] ?_
 refine Zh ?_
 obtain ⟨y2, hy2, h⟩ := bC h
 refine zCd (Zdb hy2) [2, 3] [true] ?_
 exact Yk [.agg (Zc y2.1), (vI y2.2)]
theorem Vs {a0 : (List (List Int))} {r : Za} {O : Objs} {n : Nat} (h : Qd a0 = some r) : GTo Try.prog 16 [(sL (eL (eI .u64)) a0)] O n (.agg (Zc r)) O n := by
 unfold Qd at h
 refine zFn Try.call16 Try.func16 fun hU hN0 hN => ?_
 show W _ _ _ _ ⟨12, [], [(0, (sL (eL (eI .u64)) a0))]⟩ (Zo O n []) _
 refine zQ [0, 2] ?_
 refine Zh ?_
 obtain ⟨y3, hy3, h⟩ := bC h
 obtain ⟨y4, hy4, h⟩ := bC h
 refine zC (Zpt hy3) ?_
 refine zTs (Zkd hy4) ?_
 refine zDs [2, 3] [true, true] ?_
 refine zRd [2] [true, false] ?_
 exact Yk [.agg (Zc y4.1)]
theorem X4 {a0 : Za} {r : Int} {O : Objs} {n : Nat} (h : Yj a0 = some r) : GTo Try.prog 44 [.agg (Zc a0)] O n ((vI r)) O n := by
 unfold Yj at h
 refine zFn Try.call44 Try.func44 fun hU hN0 hN => ?_
 show W _ _ _ _ ⟨5, [], [(0, .agg (Zc a0))]⟩ (Zo O n []) _
 refine zQ [1] ?_
 refine zQ [2] ?_
 exact Yk [(vI a0.kind)]
theorem Kl {a0 : Za} {r : Int} {O : Objs} {n : Nat} (h : Xt a0 = some r) : GTo Try.prog 33 [.agg (Zc a0)] O n ((vI r)) O n := by
 unfold Xt at h
 refine zFn Try.call33 Try.func33 fun hU hN0 hN => ?_
 show W _ _ _ _ ⟨10, [], [(0, .agg (Zc a0))]⟩ (Zo O n []) _
 refine zQ [1] ?_
 refine Zh ?_
 refine zQ [1, 5] ?_
 refine Zp (t := (a0.kind == 1)) rfl (fun c1 => ?_) (fun c1 => ?_)
 ·replace h := Zu c1 h
  refine zQ [2] ?_
  exact Yk [(vI a0.ptrs)]
 replace h := Zt c1 h
 refine Kf [1] [true] ?_
 refine zQ [2] ?_
 exact Yk [(vI a0.count)]
theorem Jx {a0 : Za} {a1 : Int} {r : (Za × Int)} {O : Objs} {n : Nat} (h : Xq a0 a1 = some r) : GTo Try.prog 34 [.agg (Zc a0), (vI a1)] O n (.tup [.agg (Zc r.1), (vI r.2)]) O n := by
 unfold Xq at h
 refine zFn Try.call34 Try.func34 fun hU hN0 hN => ?_
 show W _ _ _ _ ⟨81, [], [(0, .agg (Zc a0)), (1, (vI a1))]⟩ (Zo O n []) _
 refine zQ [1, 2, 4] ?_
 refine Zh ?_
 obtain ⟨z2, hz2, h⟩ := bC h
 refine V4 (E' := ⟨81, [], [(1, (vI a1)), (2, .ref n 0), (4, .ref (n + 1) 0), (14, (vB z2))]⟩) (O' := (Zo O n [some ⟨false, 35, 9, 1, (Zc a0)⟩, some ⟨false, 35, 9, 1, [.val (.pointer none), (vI 0), (vI 0), (vI 0), (vI 0), (vI 0), (vI 0), (vI 0), (vI 0)]⟩])) (n0 := (n + 2)) ?_ ?_
 ·rcases Bool.eq_false_or_eq_true (decide (a1 < 0)) with c5 | c5
  ·replace hz2 := Zu c5 hz2
   refine Zau [some false, some false, some false, some false] c5 ?_
   exact Zat hz2 c5
  replace hz2 := Zt c5 hz2
  obtain ⟨y4, hy4, hz2⟩ := bC hz2
  refine Zau [some true, some true, some true, some true] c5 ?_
  refine (Kl hy4).then ?_
  refine zX1 c5 ?_
  exact Zat hz2 c5
 refine Zp (t := z2) rfl (fun c13 => ?_) (fun c13 => ?_)
 ·replace h := Zu c13 h
  refine Zh ?_
  refine zRd [4, 5] [false, true] ?_
  exact Yk [.agg [.val (.pointer none), (vI 0), (vI 0), (vI 0), (vI 0), (vI 0), (vI 0), (vI 0), (vI 0)], (vI 0)]
 replace h := Zt c13 h
 refine Kf [1, 2, 4] [true, true] ?_
 refine Zh ?_
 refine zQ [1, 2, 4, 17] ?_
 refine Xg ?_
 refine zQ [1, 2, 4, 17, 18] ?_
 refine Zp (t := (a0.kind == 1)) rfl (fun c12 => ?_) (fun c12 => ?_)
 ·replace h := Zu c12 h
  refine Zh ?_
  obtain ⟨y7, hy7, h⟩ := bC h
  refine zCd (Zdb hy7) [4, 5] [false, true] ?_
  exact Yk [.agg (Zc y7.1), (vI y7.2)]
 replace h := Zt c12 h
 refine zQ [1, 2, 4, 17, 34] ?_
 refine Zp (t := (a0.kind == 8)) rfl (fun c11 => ?_) (fun c11 => ?_)
 ·replace h := Zu c11 h
  refine Zh ?_
  obtain ⟨y9, hy9, h⟩ := bC h
  refine zCd (Zdb hy9) [4, 5] [false, true] ?_
  exact Yk [.agg (Zc y9.1), (vI y9.2)]
 replace h := Zt c11 h
 refine zQ [1, 2, 4, 47] ?_
 refine Zp (t := (a0.kind == 9)) rfl (fun c10 => ?_) (fun c10 => ?_)
 ·replace h := Zu c10 h
  refine zQ [2, 4, 6] ?_
  refine Zh ?_
  refine zRd [4, 5] [false, true] ?_
  exact Yk [.agg [(gP Zj a0.a), (vI 1), (vI a0.segment), (vI (IntKind.i64.wrap ((IntKind.i64.wrap (a0.at_ + 1)) + (IntKind.i64.wrap (a1 * (IntKind.i64.wrap (a0.words + a0.ptrs))))))), (vI a0.words), (vI a0.ptrs), (vI 0), (vI 0), (vI 0)], (vI 0)]
 replace h := Zt c10 h
 refine Kf [1, 2, 4] [true, true] ?_
 refine Zh ?_
 refine zRd [4, 5] [false, true] ?_
 exact Yk [.agg [(gP Zj a0.a), (vI 10), (vI a0.segment), (vI a0.at_), (vI 0), (vI 0), (vI 0), (vI (IntKind.i64.wrap (a0.kind - 2))), (vI a1)], (vI 0)]
theorem Znr {a0 : Za} {r : (Int × Int)} {O : Objs} {n : Nat} (h : Gv a0 = some r) : GTo Try.prog 66 [.agg (Zc a0)] O n (.tup [(vI r.1), (vI r.2)]) O n := by
 unfold Gv at h
 refine zFn Try.call66 Try.func66 fun hU hN0 hN => ?_
 show W _ _ _ _ ⟨29, [], [(0, .agg (Zc a0))]⟩ (Zo O n []) _
 refine zQ [1] ?_
 refine Zh ?_
 obtain ⟨y2, hy2, h⟩ := bC h
 refine zCd (Kl hy2) [1, 4] [true] ?_
 refine Zh ?_
 refine zD [1, 4] [true] ?_
 obtain ⟨z12, hz12, h⟩ := bC h
 refine Za3 (J := (Jr (fun z12 => JR n (⟨29, [], [(2, (vI z12.1)), (3, (vI z12.2))]⟩ : Env) (Zo O n [none]) (n + 1)) (fun z12 => JX 0 n (⟨29, [], []⟩ : Env) (Zo O n [none]) (n + 1)))) (z := z12) ?_ fun hw => ?_
 ·refine Qw hz12 (fun s0_ => ⟨29, [], [(1, .ref n 0), (4, (vI s0_))]⟩) (fun s0_ => (Zo O n [some ⟨false, 35, 9, 1, (Zc a0)⟩])) (Jr (fun z12 => JR n (⟨29, [], [(2, (vI z12.1)), (3, (vI z12.2))]⟩ : Env) (Zo O n [none]) (n + 1)) (fun z12 => JX 0 n (⟨29, [], []⟩ : Env) (Zo O n [none]) (n + 1))) ?_
  intro s0_ x0_ hs0_
  unfold Ue at hs0_
  try dsimp only
  refine Zh ?_
  refine zQ [1, 4, 10] ?_
  refine Zp (t := (decide (0 < s0_))) rfl (fun c11 => ?_) (fun c11 => ?_)
  ·replace hs0_ := Zu c11 hs0_
   refine Kf [1, 4] [true] ?_
   refine Xg ?_
   refine Zh ?_
   obtain ⟨y4, hy4, hs0_⟩ := bC hs0_
   refine zCd (Jx hy4) [1, 4, 5, 6] [true, true] ?_
   refine Zh ?_
   obtain ⟨z6, hz6, hs0_⟩ := bC hs0_
   refine V4 (E' := ⟨29, [], [(1, .ref n 0), (4, (vI s0_)), (6, (vI y4.2)), (24, (vB z6))]⟩) (O' := (Zo O n [some ⟨false, 35, 9, 1, (Zc a0)⟩, none])) (n0 := (n + 2)) ?_ ?_
   ·rcases Bool.eq_false_or_eq_true (y4.2 != 0) with c9 | c9
    ·replace hz6 := Zu c9 hz6
     refine Zau [some false, some false, some false] c9 ?_
     exact Zat hz6 c9
    replace hz6 := Zt c9 hz6
    obtain ⟨y8, hy8, hz6⟩ := bC hz6
    refine Zau [some true, some true, some true] c9 ?_
    refine (X4 hy8).then ?_
    refine zX1 c9 ?_
    exact Zat hz6 c9
   refine Zp (t := z6) rfl (fun c10 => ?_) (fun c10 => ?_)
   ·replace hs0_ := Zu c10 hs0_
    refine zQ [2, 3] ?_
    refine zW ?_
    exact zEy hs0_
   replace hs0_ := Zt c10 hs0_
   refine Kf [1, 4] [true, false] ?_
   refine zR ?_
   exact zEn hs0_
  replace hs0_ := Zt c11 hs0_
  exact zEx hs0_
 rcases z12 with z12 | z12
 ·dsimp only [Jr] at hw h
  refine Kx hw ?_
  try simp only [Xm, Yo, ↓reduceIte, Nat.reduceEqDiff]
  exact Zyw [(vI z12.1), (vI z12.2)]
 dsimp only [Jr] at hw h
 refine Xz hw ?_
 try simp only [Xm, Yo, ↓reduceIte, Nat.reduceEqDiff]
 refine zD [] [false] ?_
 refine zQ [2, 3] ?_
 exact Yk [(vI 0), (vI 0)]
theorem Zca {a0 : Za} {r : (Int × Int)} {O : Objs} {n : Nat} (h : Ki a0 = some r) : GTo Try.prog 46 [.agg (Zc a0)] O n (.tup [(vI r.1), (vI r.2)]) O n := by
 unfold Ki at h
 refine zFn Try.call46 Try.func46 fun hU hN0 hN => ?_
 show W _ _ _ _ ⟨20, [], [(0, .agg (Zc a0))]⟩ (Zo O n []) _
 refine zQ [1] ?_
 refine Zh ?_
 refine Zh ?_
 obtain ⟨y2, hy2, h⟩ := bC h
 refine zCd (X4 hy2) [1, 8] [true] ?_
 refine Zp (t := (y2 != 1)) rfl (fun c8 => ?_) (fun c8 => ?_)
 ·replace h := Zu c8 h
  refine Zh ?_
  obtain ⟨y4, hy4, h⟩ := bC h
  refine zCd (Kl hy4) [2, 3] [false] ?_
  exact Yk [(vI y4), (vI 0)]
 replace h := Zt c8 h
 refine Kf [1] [true] ?_
 refine Zh ?_
 obtain ⟨y6, hy6, h⟩ := bC h
 refine zCd (Znr hy6) [4, 5] [false] ?_
 refine Zh ?_
 refine zQ [4, 5, 17] ?_
 refine Zp (t := (y6.2 != 0)) rfl (fun c7 => ?_) (fun c7 => ?_)
 ·replace h := Zu c7 h
  refine zQ [2, 3] ?_
  exact Yk [(vI 0), (vI y6.2)]
 replace h := Zt c7 h
 refine Kf [4] [false] ?_
 refine zQ [2, 3] ?_
 exact Yk [(vI y6.1), (vI 0)]
theorem J7 {a0 : Zm} {a1 : Int} {r : Zm} {O : Objs} {n : Nat} {i0 : Nat} (hi0 : i0 < n) (ho0 : O i0 = some ⟨false, 74, 2, 1, [.val (.int .u64 a0.sum), (vI a0.left)]⟩) (h : Xk a0 a1 = some r) : GTo Try.prog 48 [.ref i0 0, .val (.int .u64 a1)] O n (.tup []) (Zo (O.upd i0 (some ⟨false, 74, 2, 1, [.val (.int .u64 r.sum), (vI r.left)]⟩)) n []) (n + 0) := by
 unfold Xk at h
 refine Zd1 Zy Try.call48 Try.func48 rfl (Nat.le_of_ble_eq_true rfl) (by omega) fun hU => ?_
 rw [show Zo O n [] = Zo (O.upd i0 (some ⟨false, 74, 2, 1, [.val (.int .u64 a0.sum), (vI a0.left)]⟩)) n [] from by rw [Zem (show O i0 = _ from by exact ho0)]]
 have hk0 : ∀ k, i0 < n + k := fun k => by omega
 have hN0 : ∀ o, Objs.upd O i0 o n = none := fun o => Ql hU hi0 _ (Nat.le_refl _)
 have hN : ∀ o k, Objs.upd O i0 o (n + k) = none := fun o k => Ql hU hi0 _ (Nat.le_add_right _ _)
 show W _ _ _ _ ⟨26, [], [(0, .ref i0 0), (1, .val (.int .u64 a1))]⟩ (Zo (O.upd i0 (some ⟨false, 74, 2, 1, [.val (.int .u64 a0.sum), (vI a0.left)]⟩)) n []) _
 refine Zh ?_
 refine Qn [] hi0 hk0 ?_
 refine zD [0] [] ?_
 refine Zmu Zy (by kernel_rfl) [false, false, false, false, false, false, false, false, false, false, false, false, true] [] (by kernel_rfl) ?_
 refine zX2 hi0 hk0 ?_
 obtain rfl := sI h
 refine Qb (k := 0) (i := i0) (q1 := ⟨false, 74, 2, 1, [.val (.int .u64 (IntKind.u64.wrap (Gu .u64 (IntKind.u64.wrap ((IntKind.u64.wrap (Gu .u64 a0.sum a1)) * 11400714819323198485)) (Int.fdiv (IntKind.u64.wrap ((IntKind.u64.wrap (Gu .u64 a0.sum a1)) * 11400714819323198485)) (2 ^ min (Int.toNat 32) 64))))), (vI a0.left)]⟩) (L3 := [none]) (E2 := (⟨26, [], []⟩ : Env)) (n3 := (n + 1)) (.inl rfl) hU rfl [] ?_ ?_
 ·refine Fit2.trans (E' := (⟨26, [], []⟩ : Env)) (O' := (Zo (O.upd i0 (some ⟨false, 74, 2, 1, [.val (.int .u64 (IntKind.u64.wrap (Gu .u64 (IntKind.u64.wrap ((IntKind.u64.wrap (Gu .u64 a0.sum a1)) * 11400714819323198485)) (Int.fdiv (IntKind.u64.wrap ((IntKind.u64.wrap (Gu .u64 a0.sum a1)) * 11400714819323198485)) (2 ^ min (Int.toNat 32) 64))))), (vI a0.left)]⟩)) n [])) (n' := n) (Fit2.of (Zs hU rfl rfl ?_) (by omega)) ?_
  ·exact Yy hi0 hk0
  refine Y6 (k := 0) (k' := 1) hU [] [0] rfl rfl rfl rfl ⟨rfl, rfl⟩ ?_
  exact Yy hi0 hk0
 simp only [push_cast, seval, ↓reduceIte, Zk, Try.results48, hi0, hk0, hN0, hN]
theorem Zan {a0 : Za} {r : Int} {O : Objs} {n : Nat} (h : Qv a0 = some r) : GTo Try.prog 67 [.agg (Zc a0)] O n ((vI r)) O n := by
 unfold Qv at h
 refine zFn Try.call67 Try.func67 fun hU hN0 hN => ?_
 show W _ _ _ _ ⟨11, [], [(0, .agg (Zc a0))]⟩ (Zo O n []) _
 refine zQ [1] ?_
 refine Zh ?_
 refine zQ [1, 4] ?_
 refine Xg ?_
 refine zQ [1, 4, 5] ?_
 refine Zp (t := (a0.kind == 1)) rfl (fun c2 => ?_) (fun c2 => ?_)
 ·replace h := Zu c2 h
  refine zQ [2] ?_
  exact Yk [(vI a0.words)]
 replace h := Zt c2 h
 refine zQ [9] ?_
 refine Zp (t := (a0.kind == 10)) rfl (fun c1 => ?_) (fun c1 => ?_)
 ·replace h := Zu c1 h
  refine zQ [2] ?_
  exact Yk [(vI 1)]
 replace h := Zt c1 h
 refine Kf [] [false] ?_
 refine zQ [2] ?_
 exact Yk [(vI 0)]
theorem Zfc {a0 : Int} {r : (Int × Bool)} {O : Objs} {n : Nat} (h : Vd a0 = some r) : GTo Try.prog 77 [(vI a0)] O n (.tup [(vI r.1), (vB r.2)]) O n := by
 unfold Vd at h
 refine zFn Try.call77 Try.func77 fun hU hN0 hN => ?_
 show W _ _ _ _ ⟨15, [], [(0, (vI a0))]⟩ (Zo O n []) _
 refine zQ [0] ?_
 refine Zh ?_
 obtain ⟨y6, hy6, ey6, h⟩ := bY (f := (eI .i64)) (cs := [.val (.int .i64 0), .val (.int .i64 1), .val (.int .i64 8), .val (.int .i64 16), .val (.int .i64 32), .val (.int .i64 64)]) rfl h
 have g7 := congrArg G.agg ey6
 obtain ⟨y8, hy8, ey8, h⟩ := bY (f := (eI .i64)) (cs := [.val (.int .i64 0), .val (.int .i64 0), .val (.int .i64 0), .val (.int .i64 0), .val (.int .i64 0), .val (.int .i64 0)]) rfl h
 have g9 := congrArg (GObj.mk false 135 6 1) ey8
 have g10 := Zjw (f := (eI .i64)) y8 y6 (fun _ => rfl)
 refine Zgw [] g7 g9 g10 ?_
 refine zDs [0, 4] [true] ?_
 refine zQD [0, 4, 11] [none, none] ?_
 refine Zp (t := (cond (decide (a0 < 0)) true (decide (6 ≤ a0)))) rfl (fun c13 => ?_) (fun c13 => ?_)
 ·replace h := Zu c13 h
  refine zQ [2, 3] ?_
  exact Yk [(vI 0), (vB false)]
 replace h := Zt c13 h
 refine Kf [0, 4] [true] ?_
 obtain ⟨x12, hx12, ax12, bx12, cx12, h⟩ := bEA (f := (eI .i64)) (b := 6) rfl Zkv (fun _ => rfl) (by decide) h
 refine Gc [2, 3] (Z3 Zy [] ?_)
 refine zF3 ax12 bx12 cx12 ?_
 exact Yk [(vI x12), (vB true)]
theorem Zpu {a0 : (List Int)} {a1 : Int} {a2 : Int} {r : Int} {O : Objs} {n : Nat} (h : Zbi a0 a1 a2 = some r) : GTo Try.prog 78 [(sL (eI .u64) a0), (vI a1), (vI a2)] O n (.val (.int .u64 r)) O n := by
 unfold Zbi at h
 refine zFn Try.call78 Try.func78 fun hU hN0 hN => ?_
 show W _ _ _ _ ⟨45, [], [(0, (sL (eI .u64) a0)), (1, (vI a1)), (2, (vI a2))]⟩ (Zo O n []) _
 refine zQ [0, 1, 2] ?_
 refine Zh ?_
 obtain ⟨y2, hy2, h⟩ := bC h
 refine zCd (Zfc hy2) [0, 2, 7] [] ?_
 refine Zh ?_
 refine zQD [0, 2, 7, 20] [none, none] ?_
 refine Zp (t := (cond (y2.1 == 0) true (decide (a2 < 0)))) rfl (fun c18 => ?_) (fun c18 => ?_)
 ·replace h := Zu c18 h
  refine zQ [6] ?_
  exact Yk [.val (.int .u64 0)]
 replace h := Zt c18 h
 refine Kf [0, 2, 7] [] ?_
 obtain ⟨pu4, h⟩ := bG h
 refine Gc [0, 2, 7, 9] (Z3 Zy [] ?_)
 simp only [push_cast, seval, ↓reduceIte, Zk, pu4, hN0, hN]
 refine Zh ?_
 obtain ⟨pu6, h⟩ := bG h
 refine Gc [0, 2, 7, 9, 28] (Z3 Zy [] ?_)
 simp only [push_cast, seval, ↓reduceIte, Zk, pu6, hN0, hN]
 refine Zp (t := (decide ((a0.length : Int) ≤ (IntKind.i64.wrap (Int.tdiv a2 (IntKind.i64.wrap (Int.tdiv 64 y2.1))))))) rfl (fun c17 => ?_) (fun c17 => ?_)
 ·replace h := Zu c17 h
  refine zQ [6] ?_
  exact Yk [.val (.int .u64 0)]
 replace h := Zt c17 h
 refine Kf [0, 2, 7, 9] [] ?_
 obtain ⟨pu12, h⟩ := bG h
 obtain ⟨x13, hx13, ax13, bx13, cx13, h⟩ := bE (f := (eI .u64)) Zdo (fun _ => rfl) (by decide) h
 obtain ⟨pu14, h⟩ := bG h
 obtain ⟨pu15, h⟩ := bG h
 obtain ⟨pu16, h⟩ := bG h
 refine Gc [6] (Va Zy (by kernel_rfl) [] (by kernel_rfl) ?_)
 refine zF7 pu12 ax13 bx13 cx13 pu14 pu15 pu16 ?_
 exact Yk [.val (.int .u64 (IntKind.u64.wrap (Xr .u64 (Int.fdiv x13 (2 ^ min (Int.toNat (IntKind.i64.wrap ((Int.tmod a2 (IntKind.i64.wrap (Int.tdiv 64 y2.1))) * y2.1))) 64)) (IntKind.u64.wrap ((IntKind.u64.wrap (1 * 2 ^ min (Int.toNat y2.1) 64)) - 1)))))]
theorem Zee {a0 : Za} {r : Int} {O : Objs} {n : Nat} (h : Jf a0 = some r) : GTo Try.prog 68 [.agg (Zc a0)] O n (.val (.int .u64 r)) O n := by
 unfold Jf at h
 refine zFn Try.call68 Try.func68 fun hU hN0 hN => ?_
 show W _ _ _ _ ⟨42, [], [(0, .agg (Zc a0))]⟩ (Zo O n []) _
 refine zQ [1] ?_
 refine Zh ?_
 obtain ⟨y2, hy2, h⟩ := bC h
 refine zCd (Zfc hy2) [1, 3] [true] ?_
 refine Zh ?_
 refine zQ [1, 3, 15] ?_
 refine Zp (t := (y2.1 == 0)) rfl (fun c13 => ?_) (fun c13 => ?_)
 ·replace h := Zu c13 h
  refine zQ [2] ?_
  exact Yk [.val (.int .u64 0)]
 replace h := Zt c13 h
 refine Kf [1, 3] [true] ?_
 obtain ⟨pu4, h⟩ := bG h
 refine Gc [1, 5] (Z3 Zy [] ?_)
 simp only [push_cast, seval, ↓reduceIte, Zk, pu4, hN0, hN]
 refine Zh ?_
 obtain ⟨pu7, h⟩ := bG h
 obtain ⟨y8, hy8, h⟩ := bC h
 refine Va Zy (by kernel_rfl) [] (by kernel_rfl) ?_
 simp only [push_cast, seval, ↓reduceIte, Zk, pu7, hN0, hN]
 refine PCall.of (Jo hy8) ?_
 simp only [push_cast, seval, ↓reduceIte, Zk, pu7, hN0, hN]
 refine zDs [1, 5, 6] [true] ?_
 obtain ⟨pu11, h⟩ := bG h
 obtain ⟨y12, hy12, h⟩ := bC h
 refine Zf7 Zy (by kernel_rfl) [.plain, .pass, .low, .low, .low, .low, .plain, .low, .bar, .plain] (fun i => i < (n + 1)) [0, 2, 3, 4, 5, 6, 7, 1, 8, 9] [.plain, .low, .low, .low, .low, .plain, .low, .pass, .bar, .plain] [] (by kernel_rfl) rfl ?_
 simp only [push_cast, seval, ↓reduceIte, Zk, pu11, hN0, hN]
 refine zO ?_
 refine GCalls.lend (Zpu hy12) rfl ?_ ?_
 ·simp only [push_cast, seval, ↓reduceIte, Zk, pu11, hN0, hN]
 simp only [push_cast, seval, ↓reduceIte, Zk, pu11, hN0, hN]
 refine zO ?_
 refine Kv ⟨42, [], [(2, .val (.int .u64 y12))]⟩ (Zo O n [none, none]) (Yc hU rfl rfl ?_) ?_
 ·simp only [push_cast, seval, ↓reduceIte, Zk, pu11, hN0, hN]
 exact Yk [.val (.int .u64 y12)]
attribute [local push_cast] Try.results11 Try.results12 Try.results15 Try.results18 Try.results21 Try.results28 Try.results29 Try.results32 Try.results45 Try.results47 Try.results49 Try.results50 Try.results53 Try.results54 Try.results55 Try.results56 Try.results65
theorem Km {a0 : Za} {a1 : Int} {r : Int} {O : Objs} {n : Nat} (h : Xu a0 a1 = some r) : GTo Try.prog 50 [.agg (Zc a0), (vI a1)] O n (.val (.int .u64 r)) O n := by
 unfold Xu at h
 refine zFn Try.call50 Try.func50 fun hU hN0 hN => ?_
 show W _ _ _ _ ⟨33, [], [(0, .agg (Zc a0)), (1, (vI a1))]⟩ (Zo O n []) _
 refine zQ [1, 2] ?_
 refine Zh ?_
 obtain ⟨z2, hz2, h⟩ := bC h
 refine V4 (E' := ⟨33, [], [(1, (vI a1)), (2, .ref n 0), (14, (vB z2))]⟩) (O' := (Zo O n [some ⟨false, 35, 9, 1, (Zc a0)⟩])) (n0 := (n + 1)) ?_ ?_
 ·rcases Bool.eq_false_or_eq_true (decide (a1 < 0)) with c5 | c5
  ·replace hz2 := Zu c5 hz2
   refine Zau [some false, some false, some false, some false] c5 ?_
   exact Zat hz2 c5
  replace hz2 := Zt c5 hz2
  obtain ⟨y4, hy4, hz2⟩ := bC hz2
  refine Zau [some true, some true, some true, some true] c5 ?_
  refine (Zan hy4).then ?_
  refine zX1 c5 ?_
  exact Zat hz2 c5
 refine Zp (t := z2) rfl (fun c11 => ?_) (fun c11 => ?_)
 ·replace h := Zu c11 h
  refine zQ [4] ?_
  exact Yk [.val (.int .u64 0)]
 replace h := Zt c11 h
 refine Kf [1, 2] [true] ?_
 refine Zh ?_
 refine zQ [1, 2, 17] ?_
 refine Zp (t := (a0.kind == 10)) rfl (fun c10 => ?_) (fun c10 => ?_)
 ·replace h := Zu c10 h
  refine Zh ?_
  obtain ⟨y7, hy7, h⟩ := bC h
  refine zCd (Zee hy7) [4] [false] ?_
  exact Yk [.val (.int .u64 y7)]
 replace h := Zt c10 h
 refine Kf [1, 2] [true] ?_
 refine Zh ?_
 obtain ⟨y9, hy9, h⟩ := bC h
 refine zCd (Jo hy9) [5] [false] ?_
 refine zQ [4] ?_
 exact Yk [.val (.int .u64 y9.1)]
theorem Zc9 {a0 : Za} {r : Int} {O : Objs} {n : Nat} (h : K0 a0 = some r) : GTo Try.prog 65 [.agg (Zc a0)] O n ((vI r)) O n := by
 unfold K0 at h
 refine zFn Try.call65 Try.func65 fun hU hN0 hN => ?_
 show W _ _ _ _ ⟨18, [], [(0, .agg (Zc a0))]⟩ (Zo O n []) _
 refine zQ [1] ?_
 refine Zh ?_
 obtain ⟨y2, hy2, h⟩ := bC h
 refine zCd (Zan hy2) [1, 3] [true] ?_
 refine Zh ?_
 refine zD [1, 3] [true] ?_
 obtain ⟨z9, hz9, h⟩ := bC h
 refine Xz (E' := ⟨18, [], [(3, (vI z9))]⟩) (O' := (Zo O n [none])) (n0 := (n + 1)) ?_ ?_
 ·refine Qw hz9 (fun s0_ => ⟨18, [], [(1, .ref n 0), (3, (vI s0_))]⟩) (fun s0_ => (Zo O n [some ⟨false, 35, 9, 1, (Zc a0)⟩])) (fun z9 => JX 0 n (⟨18, [], [(3, (vI z9))]⟩ : Env) (Zo O n [none]) (n + 1)) ?_
  intro s0_ x0_ hs0_
  unfold Ud at hs0_
  try dsimp only
  refine Zh ?_
  obtain ⟨z4, hz4, hs0_⟩ := bC hs0_
  refine V4 (E' := ⟨18, [], [(1, .ref n 0), (3, (vI s0_)), (14, (vB z4))]⟩) (O' := (Zo O n [some ⟨false, 35, 9, 1, (Zc a0)⟩])) (n0 := (n + 1)) ?_ ?_
  ·rcases Bool.eq_false_or_eq_true (decide (0 < s0_)) with c7 | c7
   ·replace hz4 := Zu c7 hz4
    obtain ⟨y6, hy6, hz4⟩ := bC hz4
    refine Zau [some true, some true, some true, some true, some true] c7 ?_
    refine (Km hy6).then ?_
    refine zX1 c7 ?_
    exact Zat hz4 c7
   replace hz4 := Zt c7 hz4
   refine Zau [some false, some false, some false, some false, some false] c7 ?_
   exact Zat hz4 c7
  refine Zp (t := z4) rfl (fun c8 => ?_) (fun c8 => ?_)
  ·replace hs0_ := Zu c8 hs0_
   refine Kf [1, 3] [true] ?_
   refine Xg ?_
   refine zR ?_
   exact zEn hs0_
  replace hs0_ := Zt c8 hs0_
  exact zEx hs0_
 try simp only [Xm, Yo, ↓reduceIte, Nat.reduceEqDiff]
 refine zD [3] [false] ?_
 refine zQ [2] ?_
 exact Yk [(vI z9)]
theorem Zbs {a0 : Za} {a2 : Zm} {r : Zm} {O : Objs} {n : Nat} {i2 : Nat} (hi2 : i2 < n) (ho2 : O i2 = some ⟨false, 74, 2, 1, [.val (.int .u64 a2.sum), (vI a2.left)]⟩) (h : X0 a0 a2 = some r) : GTo Try.prog 49 [.agg (Zc a0), .fn 50 0 [], .fn 48 1 [.ref i2 0]] O n (.tup []) (Zo (O.upd i2 (some ⟨false, 74, 2, 1, [.val (.int .u64 r.sum), (vI r.left)]⟩)) n []) (n + 0) := by
 unfold X0 at h
 refine Zd1 Zy Try.call49 Try.func49 rfl (Nat.le_of_ble_eq_true rfl) (by omega) fun hU => ?_
 rw [show Zo O n [] = Zo (O.upd i2 (some ⟨false, 74, 2, 1, [.val (.int .u64 a2.sum), (vI a2.left)]⟩)) n [] from by rw [Zem (show O i2 = _ from by exact ho2)]]
 have hk2 : ∀ k, i2 < n + k := fun k => by omega
 have hN0 : ∀ o, Objs.upd O i2 o n = none := fun o => Ql hU hi2 _ (Nat.le_refl _)
 have hN : ∀ o k, Objs.upd O i2 o (n + k) = none := fun o k => Ql hU hi2 _ (Nat.le_add_right _ _)
 show W _ _ _ _ ⟨25, [], [(0, .agg (Zc a0)), (1, .fn 50 0 []), (2, .fn 48 1 [.ref i2 0])]⟩ (Zo (O.upd i2 (some ⟨false, 74, 2, 1, [.val (.int .u64 a2.sum), (vI a2.left)]⟩)) n []) _
 refine Qo [1, 2, 3] hi2 hk2 ?_
 refine Zh ?_
 obtain ⟨y2, hy2, h⟩ := bC h
 refine Qn [] hi2 hk2 ?_
 refine (Zc9 hy2).then ?_
 refine zX2 hi2 hk2 ?_
 refine zDs [1, 2, 3, 6] [true] ?_
 obtain ⟨y4, hy4, h⟩ := bC h
 refine Qn [] hi2 hk2 ?_
 refine (J7 (i0 := i2) (by omega) (by simp only [push_cast, seval, ↓reduceIte, Zk, Qa, hi2, hk2, hN0, hN] <;> rfl) hy4).then ?_
 refine zX2 hi2 hk2 ?_
 refine zD [1, 2, 3, 6] [true] ?_
 refine Qo [1, 2, 3, 14, 15] hi2 hk2 ?_
 refine zD [1, 2, 3, 14, 15] [true] ?_
 obtain ⟨z8, hz8, h⟩ := bC h
 refine Xz (E' := ⟨25, [], []⟩) (O' := (Zo (O.upd i2 (some ⟨false, 74, 2, 1, [.val (.int .u64 z8.1), (vI z8.2)]⟩)) n [none])) (n0 := (n + 1)) ?_ ?_
 ·refine Qw hz8 (fun s0_ => ⟨25, [], [(1, .fn 50 0 []), (2, .fn 48 1 [.ref i2 0]), (3, .ref n 0), (14, (vI y2)), (15, (vI s0_.1))]⟩) (fun s0_ => (Zo (O.upd i2 (some ⟨false, 74, 2, 1, [.val (.int .u64 s0_.2.1), (vI s0_.2.2)]⟩)) n [some ⟨false, 35, 9, 1, (Zc a0)⟩])) (fun z8 => JX 0 n (⟨25, [], []⟩ : Env) (Zo (O.upd i2 (some ⟨false, 74, 2, 1, [.val (.int .u64 z8.1), (vI z8.2)]⟩)) n [none]) (n + 1)) ?_
  intro s0_ x0_ hs0_
  unfold Xe at hs0_
  try dsimp only
  refine Qo [1, 2, 3, 14, 15, 16] hi2 hk2 ?_
  refine Zh ?_
  refine Zp (t := (decide (s0_.1 < y2))) rfl (fun c7 => ?_) (fun c7 => ?_)
  ·replace hs0_ := Zu c7 hs0_
   refine Kf [1, 2, 3, 14, 15] [true] ?_
   refine Zh ?_
   refine Xg ?_
   refine Qo [1, 2, 3, 7, 14, 15] hi2 hk2 ?_
   obtain ⟨y5, hy5, hs0_⟩ := bC hs0_
   obtain ⟨y6, hy6, hs0_⟩ := bC hs0_
   refine Qn [] hi2 hk2 ?_
   refine (Km hy5).then ?_
   refine zX2 hi2 hk2 ?_
   refine (J7 (i0 := i2) (by omega) (by simp only [push_cast, seval, ↓reduceIte, Zk, Qa, hi2, hk2, hN0, hN] <;> rfl) hy6).then ?_
   refine zX2 hi2 hk2 ?_
   refine zD [1, 2, 3, 14, 15] [true] ?_
   refine Qn [] hi2 hk2 ?_
   obtain rfl := sI hs0_
   refine And.intro rfl (Fit2.of (Zs hU rfl rfl ?_) (by omega))
   exact Yy hi2 hk2
  replace hs0_ := Zt c7 hs0_
  refine zXt ?_
  obtain rfl := sI hs0_
  refine And.intro (fun h => by cases h) (And.intro rfl (Fit2.of (Zs hU rfl rfl ?_) (by omega)))
  exact Yy hi2 hk2
 try simp only [Xm, Yo, ↓reduceIte, Nat.reduceEqDiff]
 obtain rfl := sI h
 refine Qb (k := 0) (i := i2) (q1 := ⟨false, 74, 2, 1, [.val (.int .u64 z8.1), (vI z8.2)]⟩) (L3 := [none]) (E2 := (⟨25, [], []⟩ : Env)) (n3 := (n + 1)) (.inl rfl) hU rfl [] ?_ ?_
 ·refine Fit2.trans (E' := (⟨25, [], []⟩ : Env)) (O' := (Zo (O.upd i2 (some ⟨false, 74, 2, 1, [.val (.int .u64 z8.1), (vI z8.2)]⟩)) n [none])) (n' := (n + 1)) (Fit2.of (Zs hU rfl rfl ?_) (by omega)) ?_
  ·exact Yy hi2 hk2
  refine Y6 (k := 1) (k' := 1) hU [0] [0] rfl rfl rfl rfl ⟨rfl, rfl⟩ ?_
  exact Yy hi2 hk2
 simp only [push_cast, seval, ↓reduceIte, Zk, Try.results49, hi2, hk2, hN0, hN]
def Vv (Y2 : (Zm → Za → Option (Int × Zm))) : Prop := ∀ {a0 : Zm} {a1 : Za} {r : (Int × Zm)} {O : Objs} {n : Nat} {i0 : Nat}, i0 < n → O i0 = some ⟨false, 74, 2, 1, [.val (.int .u64 a0.sum), (vI a0.left)]⟩ → Y2 a0 a1 = some r → GTo Try.prog 29 [.ref i0 0, .agg (Zc a1)] O n ((vI r.1)) (Zo (O.upd i0 (some ⟨false, 74, 2, 1, [.val (.int .u64 r.2.sum), (vI r.2.left)]⟩)) n []) (n + 0)
theorem Zdc {Y2 : (Zm → Za → Option (Int × Zm))} (Zcl : Vv Y2) {a0 : Zm} {a1 : Za} {r : (Int × Zm)} {O : Objs} {n : Nat} {i0 : Nat} (hi0 : i0 < n) (ho0 : O i0 = some ⟨false, 74, 2, 1, [.val (.int .u64 a0.sum), (vI a0.left)]⟩) (h : Y0 Y2 a0 a1 = some r) : GTo Try.prog 29 [.ref i0 0, .agg (Zc a1)] O n ((vI r.1)) (Zo (O.upd i0 (some ⟨false, 74, 2, 1, [.val (.int .u64 r.2.sum), (vI r.2.left)]⟩)) n []) (n + 0) := by
 unfold Y0 at h
 refine Zd1 Zy Try.call29 Try.func29 rfl (Nat.le_of_ble_eq_true rfl) (by omega) fun hU => ?_
 rw [show Zo O n [] = Zo (O.upd i0 (some ⟨false, 74, 2, 1, [.val (.int .u64 a0.sum), (vI a0.left)]⟩)) n [] from by rw [Zem (show O i0 = _ from by exact ho0)]]
 have hk0 : ∀ k, i0 < n + k := fun k => by omega
 have hN0 : ∀ o, Objs.upd O i0 o n = none := fun o => Ql hU hi0 _ (Nat.le_refl _)
 have hN : ∀ o k, Objs.upd O i0 o (n + k) = none := fun o k => Ql hU hi0 _ (Nat.le_add_right _ _)
 show W _ _ _ _ ⟨64, [], [(0, .ref i0 0), (1, .agg (Zc a1))]⟩ (Zo (O.upd i0 (some ⟨false, 74, 2, 1, [.val (.int .u64 a0.sum), (vI a0.left)]⟩)) n []) _
 refine Qo [0, 3] hi0 hk0 ?_
 refine Zh ?_
 refine Qo [0, 3, 15] hi0 hk0 ?_
 refine Zp (t := (a0.left == 0)) rfl (fun c20 => ?_) (fun c20 => ?_)
 ·replace h := Zu c20 h
  refine Qo [4] hi0 hk0 ?_
  refine zW ?_
  obtain rfl := sI h
  refine Qb (k := 0) (i := i0) (q1 := ⟨false, 74, 2, 1, [.val (.int .u64 a0.sum), (vI a0.left)]⟩) (L3 := [none]) (E2 := (⟨64, [], [(4, (vI 3))]⟩ : Env)) (n3 := (n + 1)) (.inr rfl) hU rfl [(vI 3)] ?_ ?_
  ·refine Fit2.trans (E' := (⟨64, [], [(4, (vI 3))]⟩ : Env)) (O' := (Zo (O.upd i0 (some ⟨false, 74, 2, 1, [.val (.int .u64 a0.sum), (vI a0.left)]⟩)) n [none])) (n' := (n + 1)) (Fit2.of (Zs hU rfl rfl ?_) (by omega)) ?_
   ·exact Yy hi0 hk0
   refine Y6 (k := 1) (k' := 1) hU [0] [0] rfl rfl rfl rfl ⟨rfl, rfl⟩ ?_
   exact Yy hi0 hk0
  simp only [push_cast, seval, ↓reduceIte, Zk, Try.results29, hi0, hk0, hN0, hN]
 replace h := Zt c20 h
 refine Kf [0, 3] [true] ?_
 refine Zh ?_
 refine Qn [] hi0 hk0 ?_
 refine zDs [0, 3] [true] ?_
 obtain ⟨y2, hy2, h⟩ := bC h
 refine Qn [] hi0 hk0 ?_
 refine (Zca hy2).then ?_
 refine zX2 hi0 hk0 ?_
 refine zDs [0, 3, 5, 6] [true] ?_
 refine Qo [0, 3, 5, 6, 29] hi0 hk0 ?_
 refine Zp (t := (y2.2 != 0)) rfl (fun c19 => ?_) (fun c19 => ?_)
 ·replace h := Zu c19 h
  refine Qo [4] hi0 hk0 ?_
  refine zW ?_
  obtain rfl := sI h
  refine Qb (k := 0) (i := i0) (q1 := ⟨false, 74, 2, 1, [.val (.int .u64 a0.sum), (vI (IntKind.i64.wrap (a0.left - 1)))]⟩) (L3 := [none]) (E2 := (⟨64, [], [(4, (vI y2.2))]⟩ : Env)) (n3 := (n + 1)) (.inr rfl) hU rfl [(vI y2.2)] ?_ ?_
  ·refine Fit2.trans (E' := (⟨64, [], [(4, (vI y2.2))]⟩ : Env)) (O' := (Zo (O.upd i0 (some ⟨false, 74, 2, 1, [.val (.int .u64 a0.sum), (vI (IntKind.i64.wrap (a0.left - 1)))]⟩)) n [none])) (n' := (n + 1)) (Fit2.of (Zs hU rfl rfl ?_) (by omega)) ?_
   ·exact Yy hi0 hk0
   refine Y6 (k := 1) (k' := 1) hU [0] [0] rfl rfl rfl rfl ⟨rfl, rfl⟩ ?_
   exact Yy hi0 hk0
  simp only [push_cast, seval, ↓reduceIte, Zk, Try.results29, hi0, hk0, hN0, hN]
 replace h := Zt c19 h
 refine Kf [0, 3, 5] [true] ?_
 refine Zh ?_
 obtain ⟨y5, hy5, h⟩ := bC h
 obtain ⟨y6, hy6, h⟩ := bC h
 refine Qn [] hi0 hk0 ?_
 refine (X4 hy5).then ?_
 refine zX2 hi0 hk0 ?_
 refine (J7 (i0 := i0) (by omega) (by simp only [push_cast, seval, ↓reduceIte, Zk, Qa, hi0, hk0, hN0, hN] <;> rfl) hy6).then ?_
 refine zX2 hi0 hk0 ?_
 refine zDs [0, 3, 5] [true] ?_
 obtain ⟨y8, hy8, h⟩ := bC h
 refine Qn [] hi0 hk0 ?_
 refine (J7 (i0 := i0) (by omega) (by simp only [push_cast, seval, ↓reduceIte, Zk, Qa, hi0, hk0, hN0, hN] <;> rfl) hy8).then ?_
 refine zX2 hi0 hk0 ?_
 refine zDs [0, 3, 5] [true] ?_
 obtain ⟨y10, hy10, h⟩ := bC h
 refine Qn [] hi0 hk0 ?_
 refine (Zbs (i2 := i0) (by omega) (by simp only [push_cast, seval, ↓reduceIte, Zk, Qa, hi0, hk0, hN0, hN] <;> rfl) hy10).then ?_
 refine zX2 hi0 hk0 ?_
 refine zDs [0, 3, 5] [true] ?_
 refine Qo [0, 3, 44, 45] hi0 hk0 ?_
 refine zD [0, 3, 44, 45] [true] ?_
 obtain ⟨z18, hz18, h⟩ := bC h
 refine Za3 (J := (Jr (fun z18 => JR n (⟨64, [], [(4, (vI z18.1))]⟩ : Env) (Zo (O.upd i0 (some ⟨false, 74, 2, 1, [.val (.int .u64 z18.2.1), (vI z18.2.2)]⟩)) n [none]) (n + 1)) (fun z18 => JX 0 n (⟨64, [], []⟩ : Env) (Zo (O.upd i0 (some ⟨false, 74, 2, 1, [.val (.int .u64 z18.1), (vI z18.2)]⟩)) n [none]) (n + 1)))) (z := z18) ?_ fun hw => ?_
 ·refine Qw hz18 (fun s0_ => ⟨64, [], [(0, .ref i0 0), (3, .ref n 0), (44, (vI y2.1)), (45, (vI s0_.1))]⟩) (fun s0_ => (Zo (O.upd i0 (some ⟨false, 74, 2, 1, [.val (.int .u64 s0_.2.1), (vI s0_.2.2)]⟩)) n [some ⟨false, 35, 9, 1, (Zc a1)⟩])) (Jr (fun z18 => JR n (⟨64, [], [(4, (vI z18.1))]⟩ : Env) (Zo (O.upd i0 (some ⟨false, 74, 2, 1, [.val (.int .u64 z18.2.1), (vI z18.2.2)]⟩)) n [none]) (n + 1)) (fun z18 => JX 0 n (⟨64, [], []⟩ : Env) (Zo (O.upd i0 (some ⟨false, 74, 2, 1, [.val (.int .u64 z18.1), (vI z18.2)]⟩)) n [none]) (n + 1))) ?_
  intro s0_ x0_ hs0_
  unfold X5 at hs0_
  try dsimp only
  refine Qo [0, 3, 44, 45, 46] hi0 hk0 ?_
  refine Zh ?_
  refine Zp (t := (decide (s0_.1 < y2.1))) rfl (fun c17 => ?_) (fun c17 => ?_)
  ·replace hs0_ := Zu c17 hs0_
   refine Kf [0, 3, 44, 45] [true] ?_
   refine Zh ?_
   refine Xg ?_
   refine Qo [0, 3, 7, 44, 45] hi0 hk0 ?_
   refine Zh ?_
   obtain ⟨y12, hy12, hs0_⟩ := bC hs0_
   refine Qn [] hi0 hk0 ?_
   refine (Jx hy12).then ?_
   refine zX2 hi0 hk0 ?_
   refine zDs [0, 3, 8, 9, 44, 45] [true, true] ?_
   refine Qo [0, 3, 8, 9, 44, 45, 55] hi0 hk0 ?_
   refine Zp (t := (y12.2 != 0)) rfl (fun c16 => ?_) (fun c16 => ?_)
   ·replace hs0_ := Zu c16 hs0_
    refine Qo [4] hi0 hk0 ?_
    refine zW ?_
    obtain rfl := sI hs0_
    refine And.intro (fun h => by cases h) (And.intro rfl (Fit2.of (Zs hU rfl rfl ?_) (by omega)))
    exact Yy hi0 hk0
   replace hs0_ := Zt c16 hs0_
   refine Kf [0, 3, 8, 44, 45] [true, true] ?_
   refine Zh ?_
   obtain ⟨y14, hy14, hs0_⟩ := bC hs0_
   refine Qn [] hi0 hk0 ?_
   refine (Zcl (i0 := i0) (by omega) (by simp only [push_cast, seval, ↓reduceIte, Zk, Qa, hi0, hk0, hN0, hN] <;> rfl) hy14).then ?_
   refine zX2 hi0 hk0 ?_
   refine zD [0, 3, 10, 44, 45] [true, false] ?_
   refine Qo [0, 3, 10, 44, 45, 61] hi0 hk0 ?_
   refine Zp (t := (y14.1 != 0)) rfl (fun c15 => ?_) (fun c15 => ?_)
   ·replace hs0_ := Zu c15 hs0_
    refine Qo [4] hi0 hk0 ?_
    refine zW ?_
    obtain rfl := sI hs0_
    refine And.intro (fun h => by cases h) (And.intro rfl (Fit2.of (Zs hU rfl rfl ?_) (by omega)))
    exact Yy hi0 hk0
   replace hs0_ := Zt c15 hs0_
   refine Kf [0, 3, 44, 45] [true, false] ?_
   refine Qn [] hi0 hk0 ?_
   obtain rfl := sI hs0_
   refine And.intro rfl (Fit2.of (Zs hU rfl rfl ?_) (by omega))
   exact Yy hi0 hk0
  replace hs0_ := Zt c17 hs0_
  refine zXt ?_
  obtain rfl := sI hs0_
  refine And.intro (fun h => by cases h) (And.intro rfl (Fit2.of (Zs hU rfl rfl ?_) (by omega)))
  exact Yy hi0 hk0
 rcases z18 with z18 | z18
 ·dsimp only [Jr] at hw h
  refine Kx hw ?_
  try simp only [Xm, Yo, ↓reduceIte, Nat.reduceEqDiff]
  obtain rfl := sI h
  refine Qb (k := 0) (i := i0) (q1 := ⟨false, 74, 2, 1, [.val (.int .u64 z18.2.1), (vI z18.2.2)]⟩) (L3 := [none]) (E2 := (⟨64, [], [(4, (vI z18.1))]⟩ : Env)) (n3 := (n + 1)) (.inr rfl) hU rfl [(vI z18.1)] ?_ ?_
  ·refine Fit2.trans (E' := (⟨64, [], [(4, (vI z18.1))]⟩ : Env)) (O' := (Zo (O.upd i0 (some ⟨false, 74, 2, 1, [.val (.int .u64 z18.2.1), (vI z18.2.2)]⟩)) n [none])) (n' := (n + 1)) (Fit2.of (Zs hU rfl rfl ?_) (by omega)) ?_
   ·exact Yy hi0 hk0
   refine Y6 (k := 1) (k' := 1) hU [0] [0] rfl rfl rfl rfl ⟨rfl, rfl⟩ ?_
   exact Yy hi0 hk0
  simp only [push_cast, seval, ↓reduceIte, Zk, Try.results29, hi0, hk0, hN0, hN]
 dsimp only [Jr] at hw h
 refine Xz hw ?_
 try simp only [Xm, Yo, ↓reduceIte, Nat.reduceEqDiff]
 refine zD [] [false] ?_
 refine Qo [4] hi0 hk0 ?_
 refine zW ?_
 obtain rfl := sI h
 refine Qb (k := 0) (i := i0) (q1 := ⟨false, 74, 2, 1, [.val (.int .u64 z18.1), (vI z18.2)]⟩) (L3 := [none]) (E2 := (⟨64, [], [(4, (vI 0))]⟩ : Env)) (n3 := (n + 1)) (.inr rfl) hU rfl [(vI 0)] ?_ ?_
 ·refine Fit2.trans (E' := (⟨64, [], [(4, (vI 0))]⟩ : Env)) (O' := (Zo (O.upd i0 (some ⟨false, 74, 2, 1, [.val (.int .u64 z18.1), (vI z18.2)]⟩)) n [none])) (n' := (n + 1)) (Fit2.of (Zs hU rfl rfl ?_) (by omega)) ?_
  ·exact Yy hi0 hk0
  refine Y6 (k := 1) (k' := 1) hU [0] [0] rfl rfl rfl rfl ⟨rfl, rfl⟩ ?_
  exact Yy hi0 hk0
 simp only [push_cast, seval, ↓reduceIte, Zk, Try.results29, hi0, hk0, hN0, hN]
theorem Zb8 : ∀ k, (Vv (Z8 k)) := fun k => by
 induction k with
 | zero => exact @fun a0 a1 r O n i0 hi0 ho0 h => (nomatch (show (none : Option _) = some _ from h))
 | succ k ih => exact @fun a0 a1 r O n i0 hi0 ho0 h => Zdc (ih) hi0 ho0 h
theorem Zds {a0 : Zm} {a1 : Za} {r : (Int × Zm)} {O : Objs} {n : Nat} {i0 : Nat} (hi0 : i0 < n) (ho0 : O i0 = some ⟨false, 74, 2, 1, [.val (.int .u64 a0.sum), (vI a0.left)]⟩) (h : K2 a0 a1 = some r) : GTo Try.prog 29 [.ref i0 0, .agg (Zc a1)] O n ((vI r.1)) (Zo (O.upd i0 (some ⟨false, 74, 2, 1, [.val (.int .u64 r.2.sum), (vI r.2.left)]⟩)) n []) (n + 0) := by
 obtain ⟨k, hk⟩ := Zgn h
 exact (Zb8 k) hi0 ho0 hk
theorem Zlb {a0 : Za} {r : (Int × Int)} {O : Objs} {n : Nat} (h : Uf a0 = some r) : GTo Try.prog 12 [.agg (Zc a0)] O n (.tup [.val (.int .u64 r.1), (vI r.2)]) O n := by
 unfold Uf at h
 refine zFn Try.call12 Try.func12 fun hU hN0 hN => ?_
 show W _ _ _ _ ⟨14, [], [(0, .agg (Zc a0))]⟩ (Zo O n []) _
 refine zQ [1] ?_
 refine Zh ?_
 refine zRd [1, 4] [true, true] ?_
 refine Zh ?_
 refine Zh ?_
 obtain ⟨y2, hy2, h⟩ := bC h
 refine zR ?_
 refine (Zds (i0 := (n + 1)) (by omega) (by simp only [push_cast, seval, ↓reduceIte, Zk, Qa, hN0, hN] <;> rfl) hy2).then ?_
 refine zS ?_
 refine zD [4, 5] [false, true] ?_
 refine zQ [4, 5, 10] ?_
 refine Zp (t := (y2.1 != 0)) rfl (fun c3 => ?_) (fun c3 => ?_)
 ·replace h := Zu c3 h
  refine zQ [2, 3] ?_
  exact Yk [.val (.int .u64 0), (vI y2.1)]
 replace h := Zt c3 h
 refine Kf [4] [false, true] ?_
 refine zQ [2, 3] ?_
 exact Yk [.val (.int .u64 y2.2.sum), (vI 0)]
theorem Uz {a0 : (Option Zl)} {a1 : Int} {r : Int} {O : Objs} {n : Nat} (h : Xl a0 a1 = some r) : GTo Try.prog 54 [(gP Zq a0), .val (.int .u64 a1)] O n ((vI r)) O n := by
 unfold Xl at h
 refine zFn Try.call54 Try.func54 fun hU hN0 hN => ?_
 show W _ _ _ _ ⟨14, [], [(0, (gP Zq a0)), (1, .val (.int .u64 a1))]⟩ (Zo O n []) _
 refine zQ [0, 1] ?_
 obtain ⟨x3, hx3, h⟩ := bC h
 obtain ⟨pu4, h⟩ := bG h
 refine Gc [4] (Z3 Zy [] ?_)
 simp only [push_cast, seval, ↓reduceIte, Zk, hx3, pu4, hN0, hN]
 exact Yk [(vI (IntKind.i64.wrap (Int.tmod a1 (IntKind.u64.wrap (x3.places.length : Int)))))]
theorem Gz {a0 : (Option Zl)} {a1 : Int} {r : Int} {O : Objs} {n : Nat} (h : Qj a0 a1 = some r) : GTo Try.prog 55 [(gP Zq a0), (vI a1)] O n ((vI r)) O n := by
 unfold Qj at h
 refine zFn Try.call55 Try.func55 fun hU hN0 hN => ?_
 show W _ _ _ _ ⟨13, [], [(0, (gP Zq a0)), (1, (vI a1))]⟩ (Zo O n []) _
 refine zQ [0, 1] ?_
 obtain ⟨x3, hx3, h⟩ := bC h
 obtain ⟨pu4, h⟩ := bG h
 refine Gc [4] (Z3 Zy [] ?_)
 simp only [push_cast, seval, ↓reduceIte, Zk, hx3, pu4, hN0, hN]
 exact Yk [(vI (Int.tmod (IntKind.i64.wrap (a1 + 1)) (x3.places.length : Int)))]
theorem Zeb {a0 : Zl} {r : Zl} {O : Objs} {n : Nat} {i0 j0_0 j0_1 : Nat} (hi0 : i0 < n) (Zh4 : j0_0 < n) (Zh5 : j0_1 < n) (Zd8 : i0 ≠ j0_0) (Zbe : i0 ≠ j0_1) (Zbd : j0_0 ≠ j0_1) (ho0 : O i0 = some ⟨false, 79, 2, 1, [.row j0_0 a0.classes.length, .row j0_1 a0.places.length]⟩) (Zj0 : O j0_0 = some (oR 82 10 Zb a0.classes)) (Zj1 : O j0_1 = some (oR 3 1 (eI .i64) a0.places)) (h : Qi a0 = some r) : GTo Try.prog 53 [.ref i0 0] O n (.tup []) (Zo (((O.upd j0_0 none).upd j0_1 none).upd i0 (some ⟨false, 79, 2, 1, [.row n r.classes.length, .row (n + 1) r.places.length]⟩)) n [some (oR 82 10 Zb r.classes), some (oR 3 1 (eI .i64) r.places)]) (n + 2) := by
 unfold Qi at h
 refine Zd1 Zy Try.call53 Try.func53 rfl (Nat.le_of_ble_eq_true rfl) (by omega) fun hU => ?_
 have e0 := Zcv (ba := n) (E := ⟨53, [], Zgj 0 [.ref i0 0]⟩) (O := (Zo O n [])) (n := n) (i := i0) (j := j0_0) (k := 0) (len := a0.classes.length) (q := ⟨false, 79, 2, 1, [.row j0_0 a0.classes.length, .row j0_1 a0.places.length]⟩) (qj := ⟨true, 82, 10, a0.classes.length, fl Zb a0.classes⟩) (by rw [Y7 _ hi0]; first | exact ho0 | exact Yi _ _ _) rfl (by rw [Y7 _ Zh4]; exact Zj0) Zd8 (by omega)
 simp only [Qq _ _ Zh4, Qq _ _ hi0, Qp, Xy, Zab, Zhl Zd8, List.set_cons_zero, List.set_cons_succ, List.cons_append, List.nil_append, List.length_cons, List.length_nil, Nat.zero_add, Nat.reduceAdd, Nat.add_assoc] at e0
 refine V3 e0 ?_
 have e1 := Zcv (ba := n) (E := ⟨53, [], Zgj 0 [.ref i0 0]⟩) (O := (Zo ((O.upd j0_0 none).upd i0 (some ⟨false, 79, 2, 1, [.row n a0.classes.length, .row j0_1 a0.places.length]⟩)) n [some ⟨true, 82, 10, a0.classes.length, fl Zb a0.classes⟩])) (n := (n + 1)) (i := i0) (j := j0_1) (k := 1) (len := a0.places.length) (q := ⟨false, 79, 2, 1, [.row n a0.classes.length, .row j0_1 a0.places.length]⟩) (qj := ⟨true, 3, 1, a0.places.length, fl (eI .i64) a0.places⟩) (by rw [Y7 _ hi0]; first | exact ho0 | exact Yi _ _ _) rfl (by rw [Y7 _ Zh5, Y5 _ _ (Ne.symm Zbe), Y5 _ _ (Ne.symm Zbd)]; exact Zj1) Zbe (by omega)
 simp only [Qq _ _ Zh5, Qq _ _ hi0, Qp, Xy, Zab, Zhl Zbe, List.set_cons_zero, List.set_cons_succ, List.cons_append, List.nil_append, List.length_cons, List.length_nil, Nat.zero_add, Nat.reduceAdd, Nat.add_assoc] at e1
 refine V3 e1 ?_
 have hU := (Und.drop (Und.drop hU j0_0) j0_1)
 have hk0 : ∀ k, i0 < n + k := fun k => by omega
 have hN0 : ∀ o, Objs.upd ((O.upd j0_0 none).upd j0_1 none) i0 o n = none := fun o => Ql hU hi0 _ (Nat.le_refl _)
 have hN : ∀ o k, Objs.upd ((O.upd j0_0 none).upd j0_1 none) i0 o (n + k) = none := fun o k => Ql hU hi0 _ (Nat.le_add_right _ _)
 show W _ _ _ _ ⟨53, [], [(0, .ref i0 0)]⟩ (Zo (((O.upd j0_0 none).upd j0_1 none).upd i0 (some ⟨false, 79, 2, 1, [.row n a0.classes.length, .row (n + 1) a0.places.length]⟩)) n [some (oR 82 10 Zb a0.classes), some (oR 3 1 (eI .i64) a0.places)]) _
 refine Zh ?_
 obtain ⟨l2, al2, bl2, cl2, el2, h⟩ := bM2 (c := 8) rfl h
 have nl2 : Int.toNat (if 16 < (IntKind.i64.wrap (2 * (a0.places.length : Int))) then (IntKind.i64.wrap (2 * (a0.places.length : Int))) else 16) = List.length l2 := by rw [el2, List.length_replicate]
 have fl2 : (List.replicate (List.length l2) [.val (.int .i64 0)]).flatten = fl (eI .i64) l2 := by rw [← nl2, el2]; exact (Zm3 (f := (eI .i64)) _ _).symm
 clear el2
 refine Z3 Zy [] ?_
 simp only [push_cast, seval, ↓reduceIte, Zk, al2, bl2, cl2, fl2, nl2, hi0, hk0, hN0, hN]
 refine Kv ⟨53, [], [(0, .ref i0 0)]⟩ (Zo (((O.upd j0_0 none).upd j0_1 none).upd i0 (some ⟨false, 79, 2, 1, [.row n a0.classes.length, .row (n + 2) l2.length]⟩)) n [some (oR 82 10 Zb a0.classes), none, some (oR 3 1 (eI .i64) l2)]) (Zs hU rfl rfl ?_) ?_
 ·simp only [push_cast, seval, ↓reduceIte, Zk, al2, bl2, cl2, fl2, nl2, hi0, hk0, hN0, hN]
 refine Qo [0, 2] hi0 hk0 ?_
 refine Qo [0, 2, 22, 23, 24] hi0 hk0 ?_
 refine zD [0, 2, 22, 23, 24] [true, false, true] ?_
 obtain ⟨z15, hz15, h⟩ := bC h
 refine Xz (E' := ⟨53, [], []⟩) (O' := (Zo (((O.upd j0_0 none).upd j0_1 none).upd i0 (some ⟨false, 79, 2, 1, [.row n a0.classes.length, .row (n + 2) z15.length]⟩)) n [some (oR 82 10 Zb a0.classes), none, some (oR 3 1 (eI .i64) z15)])) (n0 := (n + 3)) ?_ ?_
 ·refine Qw hz15 (fun s0_ => ⟨53, [], [(0, .ref i0 0), (2, .fn 55 1 [.ref i0 0]), (22, .row n a0.classes.length), (23, (vI (a0.classes.length : Int))), (24, (vI s0_.1))]⟩) (fun s0_ => (Zo (((O.upd j0_0 none).upd j0_1 none).upd i0 (some ⟨false, 79, 2, 1, [.row n a0.classes.length, .row (n + 2) s0_.2.length]⟩)) n [some (oR 82 10 Zb a0.classes), none, some (oR 3 1 (eI .i64) s0_.2)])) (fun z15 => JX 0 n (⟨53, [], []⟩ : Env) (Zo (((O.upd j0_0 none).upd j0_1 none).upd i0 (some ⟨false, 79, 2, 1, [.row n a0.classes.length, .row (n + 2) z15.length]⟩)) n [some (oR 82 10 Zb a0.classes), none, some (oR 3 1 (eI .i64) z15)]) (n + 3)) ?_
  intro s0_ x0_ hs0_
  unfold Qe at hs0_
  try dsimp only
  refine Qo [0, 2, 22, 23, 24, 25] hi0 hk0 ?_
  refine Zh ?_
  refine Zp (t := (decide (s0_.1 < (a0.classes.length : Int)))) rfl (fun c14 => ?_) (fun c14 => ?_)
  ·replace hs0_ := Zu c14 hs0_
   refine Kf [0, 2, 22, 23, 24] [true, false, true] ?_
   refine Zh ?_
   refine Xg ?_
   refine Zh ?_
   obtain ⟨x4, hx4, ax4, bx4, cx4, hs0_⟩ := bE (f := Zb) Zqj (fun _ => rfl) (by decide) hs0_
   refine Z13 [] ax4 bx4 cx4 hi0 hk0 ?_
   refine zDs [0, 2, 3, 4, 22, 23, 24] [true, false, true, true] ?_
   obtain ⟨y6, hy6, hs0_⟩ := bC hs0_
   refine Qn [] hi0 hk0 ?_
   refine GCalls.lend (Uz hy6) rfl ?_ ?_
   ·exact Yy hi0 hk0
   refine zX2 hi0 hk0 ?_
   refine zDs [0, 2, 3, 5, 22, 23, 24] [true, false, true, false] ?_
   refine zD [0, 2, 3, 5, 22, 23, 24] [true, false, true, false] ?_
   obtain ⟨z11, hz11, hs0_⟩ := bC hs0_
   refine Xz (E' := ⟨53, [], [(0, .ref i0 0), (2, .fn 55 1 [.ref i0 0]), (3, (vI s0_.1)), (5, (vI z11)), (22, .row n a0.classes.length), (23, (vI (a0.classes.length : Int))), (24, (vI s0_.1))]⟩) (O' := (Zo (((O.upd j0_0 none).upd j0_1 none).upd i0 (some ⟨false, 79, 2, 1, [.row n a0.classes.length, .row (n + 2) s0_.2.length]⟩)) n [some (oR 82 10 Zb a0.classes), none, some (oR 3 1 (eI .i64) s0_.2), none])) (n0 := (n + 4)) ?_ ?_
   ·refine Qw hz11 (fun s1_ => ⟨53, [], [(0, .ref i0 0), (2, .fn 55 1 [.ref i0 0]), (3, (vI s0_.1)), (5, (vI s1_)), (22, .row n a0.classes.length), (23, (vI (a0.classes.length : Int))), (24, (vI s0_.1))]⟩) (fun s1_ => (Zo (((O.upd j0_0 none).upd j0_1 none).upd i0 (some ⟨false, 79, 2, 1, [.row n a0.classes.length, .row (n + 2) s0_.2.length]⟩)) n [some (oR 82 10 Zb a0.classes), none, some (oR 3 1 (eI .i64) s0_.2), none])) (fun z11 => JX 2 n (⟨53, [], [(0, .ref i0 0), (2, .fn 55 1 [.ref i0 0]), (3, (vI s0_.1)), (5, (vI z11)), (22, .row n a0.classes.length), (23, (vI (a0.classes.length : Int))), (24, (vI s0_.1))]⟩ : Env) (Zo (((O.upd j0_0 none).upd j0_1 none).upd i0 (some ⟨false, 79, 2, 1, [.row n a0.classes.length, .row (n + 2) s0_.2.length]⟩)) n [some (oR 82 10 Zb a0.classes), none, some (oR 3 1 (eI .i64) s0_.2), none]) (n + 4)) ?_
    intro s1_ x1_ hs1_
    unfold Qf at hs1_
    try dsimp only
    refine Zh ?_
    obtain ⟨x8, hx8, ax8, bx8, cx8, hs1_⟩ := bE (f := (eI .i64)) Zkv (fun _ => rfl) (by decide) hs1_
    refine Gc [0, 2, 3, 5, 22, 23, 24, 40] (Z3 Zy [] ?_)
    refine zF5 ax8 bx8 cx8 hi0 hk0 ?_
    refine Zp (t := (x8 != 0)) rfl (fun c10 => ?_) (fun c10 => ?_)
    ·replace hs1_ := Zu c10 hs1_
     refine Kf [0, 2, 3, 5, 22, 23, 24] [true, false, true, false] ?_
     refine Xg ?_
     obtain ⟨y9, hy9, hs1_⟩ := bC hs1_
     refine Qn [] hi0 hk0 ?_
     refine GCalls.lend (Gz hy9) rfl ?_ ?_
     ·exact Yy hi0 hk0
     refine zX2 hi0 hk0 ?_
     obtain rfl := sI hs1_
     refine And.intro rfl (Fit2.of (Zs hU rfl rfl ?_) (by omega))
     exact Yy hi0 hk0
    replace hs1_ := Zt c10 hs1_
    refine zXt ?_
    obtain rfl := sI hs1_
    refine And.intro (fun h => by cases h) (And.intro rfl (Fit2.of (Zs hU rfl rfl ?_) (by omega)))
    exact Yy hi0 hk0
   try simp only [Xm, Yo, ↓reduceIte, Nat.reduceEqDiff]
   refine zD [0, 2, 3, 5, 22, 23, 24] [true, false, true, false] ?_
   obtain ⟨x12, hx12, ax12, bx12, cx12, hs0_⟩ := bE (f := (eI .i64)) Zkv (fun _ => rfl) (by decide) hs0_
   have gu13 : Ks (fl (eI .i64) s0_.2) [.val (.int .i64 (IntKind.i64.wrap (s0_.1 + 1)))] (Int.toNat z11 * 1) = some (fl (eI .i64) (Zbo s0_.2 z11 (IntKind.i64.wrap (s0_.1 + 1)))) := Zha (f := (eI .i64)) (ti := ⟨.bool, 1, 0, [], false⟩) (x := (IntKind.i64.wrap (s0_.1 + 1))) (fun _ => rfl) (Zd3 hx12)
   refine Z14 [] ax12 bx12 cx12 gu13 hi0 hk0 ?_
   refine zD [0, 2, 22, 23, 24] [true, false, true, false] ?_
   refine Qn [] hi0 hk0 ?_
   obtain rfl := sI hs0_
   refine And.intro rfl (Fit2.of (Zs hU rfl rfl ?_) (by omega))
   exact Yy hi0 hk0
  replace hs0_ := Zt c14 hs0_
  refine zXt ?_
  obtain rfl := sI hs0_
  refine And.intro (fun h => by cases h) (And.intro rfl (Fit2.of (Zs hU rfl rfl ?_) (by omega)))
  exact Yy hi0 hk0
 try simp only [Xm, Yo, ↓reduceIte, Nat.reduceEqDiff]
 obtain rfl := sI h
 refine Qb (k := 2) (i := i0) (q1 := ⟨false, 79, 2, 1, [.row n a0.classes.length, .row (n + 1) z15.length]⟩) (L3 := [some (oR 82 10 Zb a0.classes), some (oR 3 1 (eI .i64) z15), none]) (E2 := (⟨53, [], []⟩ : Env)) (n3 := (n + 3)) (.inl rfl) hU rfl [] ?_ ?_
 ·refine Fit2.trans (E' := (⟨53, [], []⟩ : Env)) (O' := (Zo (((O.upd j0_0 none).upd j0_1 none).upd i0 (some ⟨false, 79, 2, 1, [.row n a0.classes.length, .row (n + 2) z15.length]⟩)) n [some (oR 82 10 Zb a0.classes), none, some (oR 3 1 (eI .i64) z15)])) (n' := (n + 3)) (Fit2.of (Zs hU rfl rfl ?_) (by omega)) ?_
  ·exact Yy hi0 hk0
  refine Y6 (k := 3) (k' := 3) hU [0, 2, 1] [0, 2, 0] rfl rfl rfl rfl ⟨rfl, rfl⟩ ?_
  exact Yy hi0 hk0
 simp only [push_cast, seval, ↓reduceIte, Zk, Try.results53, hi0, hk0, hN0, hN]
theorem Zf4 {a0 : Za} {a1 : Za} {r : Bool} {O : Objs} {n : Nat} (h : Jw a0 a1 = some r) : GTo Try.prog 45 [.agg (Zc a0), .agg (Zc a1)] O n ((vB r)) O n := by
 unfold Jw at h
 refine zFn Try.call45 Try.func45 fun hU hN0 hN => ?_
 show W _ _ _ _ ⟨25, [], [(0, .agg (Zc a0)), (1, .agg (Zc a1))]⟩ (Zo O n []) _
 refine zQ [2, 3] ?_
 refine Zh ?_
 obtain ⟨y2, hy2, h⟩ := bC h
 refine zCd (Zc9 hy2) [2, 3, 5] [true, true] ?_
 refine Zh ?_
 refine Zh ?_
 obtain ⟨y4, hy4, h⟩ := bC h
 refine zCd (Zc9 hy4) [2, 3, 5, 12] [true, true] ?_
 refine Zp (t := (y4 != y2)) rfl (fun c12 => ?_) (fun c12 => ?_)
 ·replace h := Zu c12 h
  refine zQ [4] ?_
  exact Yk [(vB false)]
 replace h := Zt c12 h
 refine Kf [2, 3, 5] [true, true] ?_
 refine Zh ?_
 refine zQd [2, 3, 13, 14] [2, 3, 13, 14] [true, true] ?_
 obtain ⟨z11, hz11, h⟩ := bC h
 refine Za3 (J := (Jr (fun z11 => JR n (⟨25, [], [(4, (vB false))]⟩ : Env) (Zo O n [none, none]) (n + 2)) (fun z11 => JX 0 n (⟨25, [], []⟩ : Env) (Zo O n [none, none]) (n + 2)))) (z := z11) ?_ fun hw => ?_
 ·refine Qw hz11 (fun s0_ => ⟨25, [], [(2, .ref n 0), (3, .ref (n + 1) 0), (13, (vI y2)), (14, (vI s0_))]⟩) (fun s0_ => (Zo O n [some ⟨false, 35, 9, 1, (Zc a0)⟩, some ⟨false, 35, 9, 1, (Zc a1)⟩])) (Jr (fun z11 => JR n (⟨25, [], [(4, (vB false))]⟩ : Env) (Zo O n [none, none]) (n + 2)) (fun z11 => JX 0 n (⟨25, [], []⟩ : Env) (Zo O n [none, none]) (n + 2))) ?_
  intro s0_ x0_ hs0_
  unfold Q6 at hs0_
  try dsimp only
  refine zQ [2, 3, 13, 14, 15] ?_
  refine Zh ?_
  refine Zp (t := (decide (s0_ < y2))) rfl (fun c10 => ?_) (fun c10 => ?_)
  ·replace hs0_ := Zu c10 hs0_
   refine Kf [2, 3, 13, 14] [true, true] ?_
   refine Zh ?_
   refine Xg ?_
   refine zQ [2, 3, 6, 13, 14] ?_
   refine Zh ?_
   obtain ⟨y7, hy7, hs0_⟩ := bC hs0_
   obtain ⟨y8, hy8, hs0_⟩ := bC hs0_
   refine Va Zy (by kernel_rfl) [] (by kernel_rfl) ?_
   refine zS ?_
   refine PCall.of (Km hy7) ?_
   refine zS ?_
   refine PCall.of (Km hy8) ?_
   refine zS ?_
   refine zD [2, 3, 13, 14, 23] [true, true] ?_
   refine Zp (t := (y7 != y8)) rfl (fun c9 => ?_) (fun c9 => ?_)
   ·replace hs0_ := Zu c9 hs0_
    refine zQ [4] ?_
    refine zW ?_
    exact zEy hs0_
   replace hs0_ := Zt c9 hs0_
   refine Kf [2, 3, 13, 14] [true, true] ?_
   refine zR ?_
   exact zEn hs0_
  replace hs0_ := Zt c10 hs0_
  exact zEx hs0_
 rcases z11 with z11 | z11
 ·dsimp only [Jr] at hw h
  refine Kx hw ?_
  try simp only [Xm, Yo, ↓reduceIte, Nat.reduceEqDiff]
  exact Zyw [(vB false)]
 dsimp only [Jr] at hw h
 refine Xz hw ?_
 try simp only [Xm, Yo, ↓reduceIte, Nat.reduceEqDiff]
 refine zD [] [false, false] ?_
 refine zQ [4] ?_
 exact Yk [(vB true)]
def J4 (Z6 : (Zd → Za → Za → Option (Bool × Int × Zd))) : Prop := ∀ {a0 : Zd} {a1 : Za} {a2 : Za} {r : (Bool × Int × Zd)} {O : Objs} {n : Nat} {i0 : Nat}, i0 < n → O i0 = some ⟨false, 72, 1, 1, [(vI a0.left)]⟩ → Z6 a0 a1 a2 = some r → GTo Try.prog 28 [.ref i0 0, .agg (Zc a1), .agg (Zc a2)] O n (.tup [(vB r.1), (vI r.2.1)]) (Zo (O.upd i0 (some ⟨false, 72, 1, 1, [(vI r.2.2.left)]⟩)) n []) (n + 0)
def Jd (Z5 : (Zd → Za → Za → Int → Option (Bool × Int × Zd))) : Prop := ∀ {a0 : Zd} {a1 : Za} {a2 : Za} {a3 : Int} {r : (Bool × Int × Zd)} {O : Objs} {n : Nat} {i0 : Nat}, i0 < n → O i0 = some ⟨false, 72, 1, 1, [(vI a0.left)]⟩ → Z5 a0 a1 a2 a3 = some r → GTo Try.prog 47 [.ref i0 0, .agg (Zc a1), .agg (Zc a2), (vI a3)] O n (.tup [(vB r.1), (vI r.2.1)]) (Zo (O.upd i0 (some ⟨false, 72, 1, 1, [(vI r.2.2.left)]⟩)) n []) (n + 0)
theorem Zcm {Z6 : (Zd → Za → Za → Option (Bool × Int × Zd))} {Z5 : (Zd → Za → Za → Int → Option (Bool × Int × Zd))} (Vo : J4 Z6) (Kp : Jd Z5) {a0 : Zd} {a1 : Za} {a2 : Za} {r : (Bool × Int × Zd)} {O : Objs} {n : Nat} {i0 : Nat} (hi0 : i0 < n) (ho0 : O i0 = some ⟨false, 72, 1, 1, [(vI a0.left)]⟩) (h : Yu Z6 Z5 a0 a1 a2 = some r) : GTo Try.prog 28 [.ref i0 0, .agg (Zc a1), .agg (Zc a2)] O n (.tup [(vB r.1), (vI r.2.1)]) (Zo (O.upd i0 (some ⟨false, 72, 1, 1, [(vI r.2.2.left)]⟩)) n []) (n + 0) := by
 unfold Yu at h
 refine Zd1 Zy Try.call28 Try.func28 rfl (Nat.le_of_ble_eq_true rfl) (by omega) fun hU => ?_
 rw [show Zo O n [] = Zo (O.upd i0 (some ⟨false, 72, 1, 1, [(vI a0.left)]⟩)) n [] from by rw [Zem (show O i0 = _ from by exact ho0)]]
 have hk0 : ∀ k, i0 < n + k := fun k => by omega
 have hN0 : ∀ o, Objs.upd O i0 o n = none := fun o => Ql hU hi0 _ (Nat.le_refl _)
 have hN : ∀ o k, Objs.upd O i0 o (n + k) = none := fun o k => Ql hU hi0 _ (Nat.le_add_right _ _)
 show W _ _ _ _ ⟨62, [], [(0, .ref i0 0), (1, .agg (Zc a1)), (2, .agg (Zc a2))]⟩ (Zo (O.upd i0 (some ⟨false, 72, 1, 1, [(vI a0.left)]⟩)) n []) _
 refine Qo [0, 4, 5] hi0 hk0 ?_
 refine Zh ?_
 refine Qo [0, 4, 5, 15] hi0 hk0 ?_
 refine Zp (t := (a0.left == 0)) rfl (fun c21 => ?_) (fun c21 => ?_)
 ·replace h := Zu c21 h
  refine Qo [6, 7] hi0 hk0 ?_
  refine zW ?_
  obtain rfl := sI h
  refine Qb (k := 0) (i := i0) (q1 := ⟨false, 72, 1, 1, [(vI a0.left)]⟩) (L3 := [none]) (E2 := (⟨62, [], [(6, (vB false)), (7, (vI 3))]⟩ : Env)) (n3 := (n + 1)) (.inr rfl) hU rfl [(vB false), (vI 3)] ?_ ?_
  ·refine Fit2.trans (E' := (⟨62, [], [(6, (vB false)), (7, (vI 3))]⟩ : Env)) (O' := (Zo (O.upd i0 (some ⟨false, 72, 1, 1, [(vI a0.left)]⟩)) n [none, none])) (n' := (n + 2)) (Fit2.of (Zs hU rfl rfl ?_) (by omega)) ?_
   ·exact Yy hi0 hk0
   refine Y6 (k := 2) (k' := 1) hU [0, 0] [0] rfl rfl rfl rfl ⟨rfl, rfl⟩ ?_
   exact Yy hi0 hk0
  simp only [push_cast, seval, ↓reduceIte, Zk, Try.results28, hi0, hk0, hN0, hN]
 replace h := Zt c21 h
 refine Kf [0, 4, 5] [true, true] ?_
 refine Zh ?_
 refine Qn [] hi0 hk0 ?_
 refine zDs [0, 4, 5] [true, true] ?_
 obtain ⟨z4, hz4, h⟩ := bC h
 refine V4 (E' := ⟨62, [], [(0, .ref i0 0), (4, .ref n 0), (5, .ref (n + 1) 0), (33, (vB z4))]⟩) (O' := (Zo (O.upd i0 (some ⟨false, 72, 1, 1, [(vI (IntKind.i64.wrap (a0.left - 1)))]⟩)) n [some ⟨false, 35, 9, 1, (Zc a1)⟩, some ⟨false, 35, 9, 1, (Zc a2)⟩])) (n0 := (n + 2)) ?_ ?_
 ·obtain ⟨y8, hy8, hz4⟩ := bC hz4
  obtain ⟨y9, hy9, hz4⟩ := bC hz4
  rcases Bool.eq_false_or_eq_true (y8 != y9) with c11 | c11
  ·replace hz4 := Zu c11 hz4
   refine Va Zy (by kernel_rfl) [some false, some false, some false, some false] (by kernel_rfl) ?_
   refine zX3 c11 hi0 hk0 ?_
   refine PCall.of (X4 hy8) ?_
   refine zX3 c11 hi0 hk0 ?_
   refine PCall.of (X4 hy9) ?_
   refine zX3 c11 hi0 hk0 ?_
   obtain rfl := sI hz4
   refine And.intro rfl (Fit2.of (Zs hU rfl rfl ?_) (by omega))
   exact Zrt c11 hi0 hk0
  replace hz4 := Zt c11 hz4
  obtain ⟨y10, hy10, hz4⟩ := bC hz4
  refine Va Zy (by kernel_rfl) [some true, some true, some true, some true] (by kernel_rfl) ?_
  refine zX3 c11 hi0 hk0 ?_
  refine PCall.of (X4 hy8) ?_
  refine zX3 c11 hi0 hk0 ?_
  refine PCall.of (X4 hy9) ?_
  refine zX3 c11 hi0 hk0 ?_
  refine PCall.of (Zf4 hy10) ?_
  refine zX3 c11 hi0 hk0 ?_
  obtain rfl := sI hz4
  refine And.intro rfl (Fit2.of (Zs hU rfl rfl ?_) (by omega))
  exact Zrt c11 hi0 hk0
 refine Zp (t := z4) rfl (fun c20 => ?_) (fun c20 => ?_)
 ·replace h := Zu c20 h
  refine Qo [6, 7] hi0 hk0 ?_
  refine zW ?_
  obtain rfl := sI h
  refine Qb (k := 0) (i := i0) (q1 := ⟨false, 72, 1, 1, [(vI (IntKind.i64.wrap (a0.left - 1)))]⟩) (L3 := [none]) (E2 := (⟨62, [], [(6, (vB false)), (7, (vI 0))]⟩ : Env)) (n3 := (n + 1)) (.inr rfl) hU rfl [(vB false), (vI 0)] ?_ ?_
  ·refine Fit2.trans (E' := (⟨62, [], [(6, (vB false)), (7, (vI 0))]⟩ : Env)) (O' := (Zo (O.upd i0 (some ⟨false, 72, 1, 1, [(vI (IntKind.i64.wrap (a0.left - 1)))]⟩)) n [none, none])) (n' := (n + 2)) (Fit2.of (Zs hU rfl rfl ?_) (by omega)) ?_
   ·exact Yy hi0 hk0
   refine Y6 (k := 2) (k' := 1) hU [0, 0] [0] rfl rfl rfl rfl ⟨rfl, rfl⟩ ?_
   exact Yy hi0 hk0
  simp only [push_cast, seval, ↓reduceIte, Zk, Try.results28, hi0, hk0, hN0, hN]
 replace h := Zt c20 h
 refine Kf [0, 4, 5] [true, true] ?_
 refine Zh ?_
 obtain ⟨y13, hy13, h⟩ := bC h
 refine Qn [] hi0 hk0 ?_
 refine (Zca hy13).then ?_
 refine zX2 hi0 hk0 ?_
 refine zDs [0, 4, 5, 8, 9] [true, true] ?_
 refine Qo [0, 4, 5, 8, 9, 40] hi0 hk0 ?_
 refine Zp (t := (y13.2 != 0)) rfl (fun c19 => ?_) (fun c19 => ?_)
 ·replace h := Zu c19 h
  refine Qo [6, 7] hi0 hk0 ?_
  refine zW ?_
  obtain rfl := sI h
  refine Qb (k := 0) (i := i0) (q1 := ⟨false, 72, 1, 1, [(vI (IntKind.i64.wrap (a0.left - 1)))]⟩) (L3 := [none]) (E2 := (⟨62, [], [(6, (vB false)), (7, (vI y13.2))]⟩ : Env)) (n3 := (n + 1)) (.inr rfl) hU rfl [(vB false), (vI y13.2)] ?_ ?_
  ·refine Fit2.trans (E' := (⟨62, [], [(6, (vB false)), (7, (vI y13.2))]⟩ : Env)) (O' := (Zo (O.upd i0 (some ⟨false, 72, 1, 1, [(vI (IntKind.i64.wrap (a0.left - 1)))]⟩)) n [none, none])) (n' := (n + 2)) (Fit2.of (Zs hU rfl rfl ?_) (by omega)) ?_
   ·exact Yy hi0 hk0
   refine Y6 (k := 2) (k' := 1) hU [0, 0] [0] rfl rfl rfl rfl ⟨rfl, rfl⟩ ?_
   exact Yy hi0 hk0
  simp only [push_cast, seval, ↓reduceIte, Zk, Try.results28, hi0, hk0, hN0, hN]
 replace h := Zt c19 h
 refine Kf [0, 4, 5, 8] [true, true] ?_
 refine Zh ?_
 obtain ⟨y15, hy15, h⟩ := bC h
 refine Qn [] hi0 hk0 ?_
 refine (Zca hy15).then ?_
 refine zX2 hi0 hk0 ?_
 refine zDs [0, 4, 5, 8, 9, 10] [true, true] ?_
 refine Gc [0, 4, 5, 8, 9, 53] (Z3 Zy [none, none, none] ?_)
 refine zX2 hi0 hk0 ?_
 refine zG ?_
 refine Zp (t := (cond (y15.2 != 0) true (y13.1 != y15.1))) rfl (fun c18 => ?_) (fun c18 => ?_)
 ·replace h := Zu c18 h
  refine Qo [6, 7] hi0 hk0 ?_
  refine zW ?_
  obtain rfl := sI h
  refine Qb (k := 0) (i := i0) (q1 := ⟨false, 72, 1, 1, [(vI (IntKind.i64.wrap (a0.left - 1)))]⟩) (L3 := [none]) (E2 := (⟨62, [], [(6, (vB false)), (7, (vI y15.2))]⟩ : Env)) (n3 := (n + 1)) (.inr rfl) hU rfl [(vB false), (vI y15.2)] ?_ ?_
  ·refine Fit2.trans (E' := (⟨62, [], [(6, (vB false)), (7, (vI y15.2))]⟩ : Env)) (O' := (Zo (O.upd i0 (some ⟨false, 72, 1, 1, [(vI (IntKind.i64.wrap (a0.left - 1)))]⟩)) n [none, none])) (n' := (n + 2)) (Fit2.of (Zs hU rfl rfl ?_) (by omega)) ?_
   ·exact Yy hi0 hk0
   refine Y6 (k := 2) (k' := 1) hU [0, 0] [0] rfl rfl rfl rfl ⟨rfl, rfl⟩ ?_
   exact Yy hi0 hk0
  simp only [push_cast, seval, ↓reduceIte, Zk, Try.results28, hi0, hk0, hN0, hN]
 replace h := Zt c18 h
 refine Kf [0, 4, 5, 8] [true, true] ?_
 refine Zh ?_
 obtain ⟨y17, hy17, h⟩ := bC h
 refine Qn [] hi0 hk0 ?_
 refine (Kp (i0 := i0) (by omega) (by simp only [push_cast, seval, ↓reduceIte, Zk, Qa, hi0, hk0, hN0, hN] <;> rfl) hy17).then ?_
 refine zX2 hi0 hk0 ?_
 refine zD [6, 7] [false, false] ?_
 refine zW ?_
 obtain rfl := sI h
 refine Qb (k := 0) (i := i0) (q1 := ⟨false, 72, 1, 1, [(vI y17.2.2.left)]⟩) (L3 := [none]) (E2 := (⟨62, [], [(6, (vB y17.1)), (7, (vI y17.2.1))]⟩ : Env)) (n3 := (n + 1)) (.inr rfl) hU rfl [(vB y17.1), (vI y17.2.1)] ?_ ?_
 ·refine Fit2.trans (E' := (⟨62, [], [(6, (vB y17.1)), (7, (vI y17.2.1))]⟩ : Env)) (O' := (Zo (O.upd i0 (some ⟨false, 72, 1, 1, [(vI y17.2.2.left)]⟩)) n [none, none])) (n' := (n + 2)) (Fit2.of (Zs hU rfl rfl ?_) (by omega)) ?_
  ·exact Yy hi0 hk0
  refine Y6 (k := 2) (k' := 1) hU [0, 0] [0] rfl rfl rfl rfl ⟨rfl, rfl⟩ ?_
  exact Yy hi0 hk0
 simp only [push_cast, seval, ↓reduceIte, Zk, Try.results28, hi0, hk0, hN0, hN]
theorem Zav {Z6 : (Zd → Za → Za → Option (Bool × Int × Zd))} {Z5 : (Zd → Za → Za → Int → Option (Bool × Int × Zd))} (Vo : J4 Z6) (Kp : Jd Z5) {a0 : Zd} {a1 : Za} {a2 : Za} {a3 : Int} {r : (Bool × Int × Zd)} {O : Objs} {n : Nat} {i0 : Nat} (hi0 : i0 < n) (ho0 : O i0 = some ⟨false, 72, 1, 1, [(vI a0.left)]⟩) (h : Yg Z6 Z5 a0 a1 a2 a3 = some r) : GTo Try.prog 47 [.ref i0 0, .agg (Zc a1), .agg (Zc a2), (vI a3)] O n (.tup [(vB r.1), (vI r.2.1)]) (Zo (O.upd i0 (some ⟨false, 72, 1, 1, [(vI r.2.2.left)]⟩)) n []) (n + 0) := by
 unfold Yg at h
 refine Zd1 Zy Try.call47 Try.func47 rfl (Nat.le_of_ble_eq_true rfl) (by omega) fun hU => ?_
 rw [show Zo O n [] = Zo (O.upd i0 (some ⟨false, 72, 1, 1, [(vI a0.left)]⟩)) n [] from by rw [Zem (show O i0 = _ from by exact ho0)]]
 have hk0 : ∀ k, i0 < n + k := fun k => by omega
 have hN0 : ∀ o, Objs.upd O i0 o n = none := fun o => Ql hU hi0 _ (Nat.le_refl _)
 have hN : ∀ o k, Objs.upd O i0 o (n + k) = none := fun o k => Ql hU hi0 _ (Nat.le_add_right _ _)
 show W _ _ _ _ ⟨53, [], [(0, .ref i0 0), (1, .agg (Zc a1)), (2, .agg (Zc a2)), (3, (vI a3))]⟩ (Zo (O.upd i0 (some ⟨false, 72, 1, 1, [(vI a0.left)]⟩)) n []) _
 refine Qo [0, 3, 5, 6] hi0 hk0 ?_
 refine Zh ?_
 refine Qo [0, 5, 6, 16, 17] hi0 hk0 ?_
 refine zD [0, 5, 6, 16, 17] [true, true] ?_
 obtain ⟨z11, hz11, h⟩ := bC h
 refine Za3 (J := (Jr (fun z11 => JR n (⟨53, [], [(8, (vB false)), (9, (vI z11.1))]⟩ : Env) (Zo (O.upd i0 (some ⟨false, 72, 1, 1, [(vI z11.2)]⟩)) n [none, none]) (n + 2)) (fun z11 => JX 0 n (⟨53, [], []⟩ : Env) (Zo (O.upd i0 (some ⟨false, 72, 1, 1, [(vI z11)]⟩)) n [none, none]) (n + 2)))) (z := z11) ?_ fun hw => ?_
 ·refine Qw hz11 (fun s0_ => ⟨53, [], [(0, .ref i0 0), (5, .ref n 0), (6, .ref (n + 1) 0), (16, (vI a3)), (17, (vI s0_.1))]⟩) (fun s0_ => (Zo (O.upd i0 (some ⟨false, 72, 1, 1, [(vI s0_.2)]⟩)) n [some ⟨false, 35, 9, 1, (Zc a1)⟩, some ⟨false, 35, 9, 1, (Zc a2)⟩])) (Jr (fun z11 => JR n (⟨53, [], [(8, (vB false)), (9, (vI z11.1))]⟩ : Env) (Zo (O.upd i0 (some ⟨false, 72, 1, 1, [(vI z11.2)]⟩)) n [none, none]) (n + 2)) (fun z11 => JX 0 n (⟨53, [], []⟩ : Env) (Zo (O.upd i0 (some ⟨false, 72, 1, 1, [(vI z11)]⟩)) n [none, none]) (n + 2))) ?_
  intro s0_ x0_ hs0_
  unfold Yf at hs0_
  try dsimp only
  refine Qo [0, 5, 6, 16, 17, 18] hi0 hk0 ?_
  refine Zh ?_
  refine Zp (t := (decide (s0_.1 < a3))) rfl (fun c10 => ?_) (fun c10 => ?_)
  ·replace hs0_ := Zu c10 hs0_
   refine Kf [0, 5, 6, 16, 17] [true, true] ?_
   refine Zh ?_
   refine Xg ?_
   refine Qo [0, 5, 6, 10, 16, 17] hi0 hk0 ?_
   refine Zh ?_
   obtain ⟨y2, hy2, hs0_⟩ := bC hs0_
   refine Qn [] hi0 hk0 ?_
   refine (Jx hy2).then ?_
   refine zX2 hi0 hk0 ?_
   refine zDs [0, 5, 6, 10, 11, 12, 16, 17] [true, true, true] ?_
   refine Qo [0, 5, 6, 10, 11, 12, 16, 17, 27] hi0 hk0 ?_
   refine Zp (t := (y2.2 != 0)) rfl (fun c9 => ?_) (fun c9 => ?_)
   ·replace hs0_ := Zu c9 hs0_
    refine Qo [8, 9] hi0 hk0 ?_
    refine zW ?_
    obtain rfl := sI hs0_
    refine And.intro (fun h => by cases h) (And.intro rfl (Fit2.of (Zs hU rfl rfl ?_) (by omega)))
    exact Yy hi0 hk0
   replace hs0_ := Zt c9 hs0_
   refine Kf [0, 5, 6, 10, 11, 16, 17] [true, true, true] ?_
   refine Zh ?_
   obtain ⟨y4, hy4, hs0_⟩ := bC hs0_
   refine Qn [] hi0 hk0 ?_
   refine (Jx hy4).then ?_
   refine zX2 hi0 hk0 ?_
   refine zDs [0, 5, 6, 11, 12, 13, 16, 17] [true, true, true, true] ?_
   refine Qo [0, 5, 6, 11, 12, 13, 16, 17, 36] hi0 hk0 ?_
   refine Zp (t := (y4.2 != 0)) rfl (fun c8 => ?_) (fun c8 => ?_)
   ·replace hs0_ := Zu c8 hs0_
    refine Qo [8, 9] hi0 hk0 ?_
    refine zW ?_
    obtain rfl := sI hs0_
    refine And.intro (fun h => by cases h) (And.intro rfl (Fit2.of (Zs hU rfl rfl ?_) (by omega)))
    exact Yy hi0 hk0
   replace hs0_ := Zt c8 hs0_
   refine Kf [0, 5, 6, 11, 13, 16, 17] [true, true, true, true] ?_
   refine Zh ?_
   obtain ⟨y6, hy6, hs0_⟩ := bC hs0_
   refine Qn [] hi0 hk0 ?_
   refine (Vo (i0 := i0) (by omega) (by simp only [push_cast, seval, ↓reduceIte, Zk, Qa, hi0, hk0, hN0, hN] <;> rfl) hy6).then ?_
   refine zX2 hi0 hk0 ?_
   refine zD [0, 5, 6, 14, 15, 16, 17] [true, true, false, false] ?_
   refine Gc [0, 5, 6, 15, 16, 17, 50] (Z3 Zy [none, none] ?_)
   refine zX2 hi0 hk0 ?_
   refine zG ?_
   refine Zp (t := (cond (!y6.1) true (y6.2.1 != 0))) rfl (fun c7 => ?_) (fun c7 => ?_)
   ·replace hs0_ := Zu c7 hs0_
    refine Qo [8, 9] hi0 hk0 ?_
    refine zW ?_
    obtain rfl := sI hs0_
    refine And.intro (fun h => by cases h) (And.intro rfl (Fit2.of (Zs hU rfl rfl ?_) (by omega)))
    exact Yy hi0 hk0
   replace hs0_ := Zt c7 hs0_
   refine Kf [0, 5, 6, 16, 17] [true, true, false, false] ?_
   refine Qn [] hi0 hk0 ?_
   obtain rfl := sI hs0_
   refine And.intro rfl (Fit2.of (Zs hU rfl rfl ?_) (by omega))
   exact Yy hi0 hk0
  replace hs0_ := Zt c10 hs0_
  refine zXt ?_
  obtain rfl := sI hs0_
  refine And.intro (fun h => by cases h) (And.intro rfl (Fit2.of (Zs hU rfl rfl ?_) (by omega)))
  exact Yy hi0 hk0
 rcases z11 with z11 | z11
 ·dsimp only [Jr] at hw h
  refine Kx hw ?_
  try simp only [Xm, Yo, ↓reduceIte, Nat.reduceEqDiff]
  obtain rfl := sI h
  refine Qb (k := 0) (i := i0) (q1 := ⟨false, 72, 1, 1, [(vI z11.2)]⟩) (L3 := [none]) (E2 := (⟨53, [], [(8, (vB false)), (9, (vI z11.1))]⟩ : Env)) (n3 := (n + 1)) (.inr rfl) hU rfl [(vB false), (vI z11.1)] ?_ ?_
  ·refine Fit2.trans (E' := (⟨53, [], [(8, (vB false)), (9, (vI z11.1))]⟩ : Env)) (O' := (Zo (O.upd i0 (some ⟨false, 72, 1, 1, [(vI z11.2)]⟩)) n [none, none])) (n' := (n + 2)) (Fit2.of (Zs hU rfl rfl ?_) (by omega)) ?_
   ·exact Yy hi0 hk0
   refine Y6 (k := 2) (k' := 1) hU [0, 0] [0] rfl rfl rfl rfl ⟨rfl, rfl⟩ ?_
   exact Yy hi0 hk0
  simp only [push_cast, seval, ↓reduceIte, Zk, Try.results47, hi0, hk0, hN0, hN]
 dsimp only [Jr] at hw h
 refine Xz hw ?_
 try simp only [Xm, Yo, ↓reduceIte, Nat.reduceEqDiff]
 refine zD [] [false, false] ?_
 refine Qo [8, 9] hi0 hk0 ?_
 refine zW ?_
 obtain rfl := sI h
 refine Qb (k := 0) (i := i0) (q1 := ⟨false, 72, 1, 1, [(vI z11)]⟩) (L3 := [none]) (E2 := (⟨53, [], [(8, (vB true)), (9, (vI 0))]⟩ : Env)) (n3 := (n + 1)) (.inr rfl) hU rfl [(vB true), (vI 0)] ?_ ?_
 ·refine Fit2.trans (E' := (⟨53, [], [(8, (vB true)), (9, (vI 0))]⟩ : Env)) (O' := (Zo (O.upd i0 (some ⟨false, 72, 1, 1, [(vI z11)]⟩)) n [none, none])) (n' := (n + 2)) (Fit2.of (Zs hU rfl rfl ?_) (by omega)) ?_
  ·exact Yy hi0 hk0
  refine Y6 (k := 2) (k' := 1) hU [0, 0] [0] rfl rfl rfl rfl ⟨rfl, rfl⟩ ?_
  exact Yy hi0 hk0
 simp only [push_cast, seval, ↓reduceIte, Zk, Try.results47, hi0, hk0, hN0, hN]
theorem Zbr : ∀ k, (J4 ((Zn k).1)) ∧ (Jd ((Zn k).2)) := fun k => by
 induction k with
 | zero => exact ⟨@fun a0 a1 a2 r O n i0 hi0 ho0 h => (nomatch (show (none : Option _) = some _ from h)), @fun a0 a1 a2 a3 r O n i0 hi0 ho0 h => (nomatch (show (none : Option _) = some _ from h))⟩
 | succ k ih => exact ⟨@fun a0 a1 a2 r O n i0 hi0 ho0 h => Zcm (ih.1) (ih.2) hi0 ho0 h, @fun a0 a1 a2 a3 r O n i0 hi0 ho0 h => Zav (ih.1) (ih.2) hi0 ho0 h⟩
theorem Zda {a0 : Zd} {a1 : Za} {a2 : Za} {r : (Bool × Int × Zd)} {O : Objs} {n : Nat} {i0 : Nat} (hi0 : i0 < n) (ho0 : O i0 = some ⟨false, 72, 1, 1, [(vI a0.left)]⟩) (h : Kt a0 a1 a2 = some r) : GTo Try.prog 28 [.ref i0 0, .agg (Zc a1), .agg (Zc a2)] O n (.tup [(vB r.1), (vI r.2.1)]) (Zo (O.upd i0 (some ⟨false, 72, 1, 1, [(vI r.2.2.left)]⟩)) n []) (n + 0) := by
 obtain ⟨k, hk⟩ := Zgn h
 exact (Zbr k).1 hi0 ho0 hk
theorem Ziq {a0 : Za} {a1 : Za} {r : (Bool × Int)} {O : Objs} {n : Nat} (h : K1 a0 a1 = some r) : GTo Try.prog 11 [.agg (Zc a0), .agg (Zc a1)] O n (.tup [(vB r.1), (vI r.2)]) O n := by
 unfold K1 at h
 refine zFn Try.call11 Try.func11 fun hU hN0 hN => ?_
 show W _ _ _ _ ⟨13, [], [(0, .agg (Zc a0)), (1, .agg (Zc a1))]⟩ (Zo O n []) _
 refine zQ [2, 3] ?_
 refine Zh ?_
 refine zRd [2, 3, 6] [true, true, true] ?_
 refine Zh ?_
 obtain ⟨y2, hy2, h⟩ := bC h
 refine zR ?_
 refine (Zda (i0 := (n + 2)) (by omega) (by simp only [push_cast, seval, ↓reduceIte, Zk, Qa, hN0, hN] <;> rfl) hy2).then ?_
 refine zS ?_
 refine zD [4, 5] [false, false, false] ?_
 exact Yk [(vB y2.1), (vI y2.2.1)]
theorem Zdu {a0 : Zi} {a1 : Zi} {r : (Bool × Int)} {O : Objs} {n : Nat} (h : Q8 a0 a1 = some r) : GTo Try.prog 56 [.agg (Z9 a0), .agg (Z9 a1)] O n (.tup [(vB r.1), (vI r.2)]) O n := by
 unfold Q8 at h
 refine zFn Try.call56 Try.func56 fun hU hN0 hN => ?_
 show W _ _ _ _ ⟨18, [], [(0, .agg (Z9 a0)), (1, .agg (Z9 a1))]⟩ (Zo O n []) _
 refine zQ [2, 3] ?_
 refine Zh ?_
 refine zQ [2, 3, 10] ?_
 refine Zp (t := (a0.hash != a1.hash)) rfl (fun c3 => ?_) (fun c3 => ?_)
 ·replace h := Zu c3 h
  refine zQ [4, 5] ?_
  exact Yk [(vB false), (vI 0)]
 replace h := Zt c3 h
 refine Kf [2, 3] [true, true] ?_
 refine Zh ?_
 obtain ⟨y2, hy2, h⟩ := bC h
 refine zCd (Ziq hy2) [4, 5] [false, false] ?_
 exact Yk [(vB y2.1), (vI y2.2)]
theorem Zdt {a0 : Zl} {a1 : Zi} {r : (Int × Int × Zl)} {O : Objs} {n : Nat} {i0 j0_0 j0_1 : Nat} (hi0 : i0 < n) (Zh4 : j0_0 < n) (Zh5 : j0_1 < n) (Zd8 : i0 ≠ j0_0) (Zbe : i0 ≠ j0_1) (Zbd : j0_0 ≠ j0_1) (ho0 : O i0 = some ⟨false, 79, 2, 1, [.row j0_0 a0.classes.length, .row j0_1 a0.places.length]⟩) (Zj0 : O j0_0 = some (oR 82 10 Zb a0.classes)) (Zj1 : O j0_1 = some (oR 3 1 (eI .i64) a0.places)) (h : Q7 a0 a1 = some r) : GTo Try.prog 32 [.ref i0 0, .agg (Z9 a1)] O n (.tup [(vI r.1), (vI r.2.1)]) (Zo (((O.upd j0_0 none).upd j0_1 none).upd i0 (some ⟨false, 79, 2, 1, [.row n r.2.2.classes.length, .row (n + 1) r.2.2.places.length]⟩)) n [some (oR 82 10 Zb r.2.2.classes), some (oR 3 1 (eI .i64) r.2.2.places)]) (n + 2) := by
 unfold Q7 at h
 refine Zd1 Zy Try.call32 Try.func32 rfl (Nat.le_of_ble_eq_true rfl) (by omega) fun hU => ?_
 have e0 := Zcv (ba := n) (E := ⟨94, [], Zgj 0 [.ref i0 0, .agg [.val (.int .u64 a1.hash), (gP Zj a1.r.a), .val (.int .i64 a1.r.kind), .val (.int .i64 a1.r.segment), .val (.int .i64 a1.r.at_), .val (.int .i64 a1.r.words), .val (.int .i64 a1.r.ptrs), .val (.int .i64 a1.r.count), .val (.int .i64 a1.r.code), .val (.int .i64 a1.r.index)]]⟩) (O := (Zo O n [])) (n := n) (i := i0) (j := j0_0) (k := 0) (len := a0.classes.length) (q := ⟨false, 79, 2, 1, [.row j0_0 a0.classes.length, .row j0_1 a0.places.length]⟩) (qj := ⟨true, 82, 10, a0.classes.length, fl Zb a0.classes⟩) (by rw [Y7 _ hi0]; first | exact ho0 | exact Yi _ _ _) rfl (by rw [Y7 _ Zh4]; exact Zj0) Zd8 (by omega)
 simp only [Qq _ _ Zh4, Qq _ _ hi0, Qp, Xy, Zab, Zhl Zd8, List.set_cons_zero, List.set_cons_succ, List.cons_append, List.nil_append, List.length_cons, List.length_nil, Nat.zero_add, Nat.reduceAdd, Nat.add_assoc] at e0
 refine V3 e0 ?_
 have e1 := Zcv (ba := n) (E := ⟨94, [], Zgj 0 [.ref i0 0, .agg [.val (.int .u64 a1.hash), (gP Zj a1.r.a), .val (.int .i64 a1.r.kind), .val (.int .i64 a1.r.segment), .val (.int .i64 a1.r.at_), .val (.int .i64 a1.r.words), .val (.int .i64 a1.r.ptrs), .val (.int .i64 a1.r.count), .val (.int .i64 a1.r.code), .val (.int .i64 a1.r.index)]]⟩) (O := (Zo ((O.upd j0_0 none).upd i0 (some ⟨false, 79, 2, 1, [.row n a0.classes.length, .row j0_1 a0.places.length]⟩)) n [some ⟨true, 82, 10, a0.classes.length, fl Zb a0.classes⟩])) (n := (n + 1)) (i := i0) (j := j0_1) (k := 1) (len := a0.places.length) (q := ⟨false, 79, 2, 1, [.row n a0.classes.length, .row j0_1 a0.places.length]⟩) (qj := ⟨true, 3, 1, a0.places.length, fl (eI .i64) a0.places⟩) (by rw [Y7 _ hi0]; first | exact ho0 | exact Yi _ _ _) rfl (by rw [Y7 _ Zh5, Y5 _ _ (Ne.symm Zbe), Y5 _ _ (Ne.symm Zbd)]; exact Zj1) Zbe (by omega)
 simp only [Qq _ _ Zh5, Qq _ _ hi0, Qp, Xy, Zab, Zhl Zbe, List.set_cons_zero, List.set_cons_succ, List.cons_append, List.nil_append, List.length_cons, List.length_nil, Nat.zero_add, Nat.reduceAdd, Nat.add_assoc] at e1
 refine V3 e1 ?_
 have hU := (Und.drop (Und.drop hU j0_0) j0_1)
 have hk0 : ∀ k, i0 < n + k := fun k => by omega
 have hN0 : ∀ o, Objs.upd ((O.upd j0_0 none).upd j0_1 none) i0 o n = none := fun o => Ql hU hi0 _ (Nat.le_refl _)
 have hN : ∀ o k, Objs.upd ((O.upd j0_0 none).upd j0_1 none) i0 o (n + k) = none := fun o k => Ql hU hi0 _ (Nat.le_add_right _ _)
 show W _ _ _ _ ⟨94, [], [(0, .ref i0 0), (1, .agg (Z9 a1))]⟩ (Zo (((O.upd j0_0 none).upd j0_1 none).upd i0 (some ⟨false, 79, 2, 1, [.row n a0.classes.length, .row (n + 1) a0.places.length]⟩)) n [some (oR 82 10 Zb a0.classes), some (oR 3 1 (eI .i64) a0.places)]) _
 refine Qo [0, 3] hi0 hk0 ?_
 obtain ⟨z1, hz1, h⟩ := bC h
 refine V4 (E' := ⟨94, [], [(0, .ref i0 0), (3, .ref (n + 2) 0)]⟩) (O' := (Zo (((O.upd j0_0 none).upd j0_1 none).upd i0 (some ⟨false, 79, 2, 1, [.row (n + 5) z1.1.length, .row (n + 6) z1.2.length]⟩)) n [none, none, some ⟨false, 82, 10, 1, (Z9 a1)⟩, none, none, some (oR 82 10 Zb z1.1), some (oR 3 1 (eI .i64) z1.2)])) (n0 := (n + 7)) ?_ ?_
 ·refine Gc [0, 3, 22] (Va Zy (by kernel_rfl) [] (by kernel_rfl) ?_)
  refine zX2 hi0 hk0 ?_
  refine Zp (t := (decide ((a0.places.length : Int) ≤ (IntKind.i64.wrap (2 * (a0.classes.length : Int)))))) rfl (fun c3 => ?_) (fun c3 => ?_)
  ·replace hz1 := Zu c3 hz1
   obtain ⟨y2, hy2, hz1⟩ := bC hz1
   refine Qn [] hi0 hk0 ?_
   refine (Zeb (i0 := i0) (j0_0 := n) (j0_1 := (n + 1)) (by omega) (by omega) (by omega) (by omega) (by omega) (by omega) (by simp only [push_cast, seval, ↓reduceIte, Zk, Qa, hi0, hk0, hN0, hN] <;> rfl) (by simp only [push_cast, seval, ↓reduceIte, Zk, Qa, hi0, hk0, hN0, hN] <;> rfl) (by simp only [push_cast, seval, ↓reduceIte, Zk, Qa, hi0, hk0, hN0, hN] <;> rfl) hy2).then ?_
   refine zX2 hi0 hk0 ?_
   obtain rfl := sI hz1
   refine And.intro rfl ?_
   refine Fit2.trans (E' := (⟨94, [], [(0, .ref i0 0), (3, .ref (n + 2) 0)]⟩ : Env)) (O' := (Zo (((O.upd j0_0 none).upd j0_1 none).upd i0 (some ⟨false, 79, 2, 1, [.row (n + 3) y2.classes.length, .row (n + 4) y2.places.length]⟩)) n [none, none, some ⟨false, 82, 10, 1, (Z9 a1)⟩, some (oR 82 10 Zb y2.classes), some (oR 3 1 (eI .i64) y2.places)])) (n' := (n + 5)) (Fit2.of (Zs hU rfl rfl ?_) (by omega)) ?_
   ·exact Yy hi0 hk0
   refine Y6 (k := 5) (k' := 7) hU [4, 4, 2, 5, 6] [0, 0, 2, 0, 0, 3, 4] rfl rfl rfl rfl ⟨rfl, rfl⟩ ?_
   exact Yy hi0 hk0
  replace hz1 := Zt c3 hz1
  refine zK ?_
  obtain rfl := sI hz1
  refine And.intro rfl ?_
  refine Fit2.trans (E' := (⟨94, [], [(0, .ref i0 0), (3, .ref (n + 2) 0)]⟩ : Env)) (O' := (Zo (((O.upd j0_0 none).upd j0_1 none).upd i0 (some ⟨false, 79, 2, 1, [.row n a0.classes.length, .row (n + 1) a0.places.length]⟩)) n [some (oR 82 10 Zb a0.classes), some (oR 3 1 (eI .i64) a0.places), some ⟨false, 82, 10, 1, (Z9 a1)⟩])) (n' := (n + 3)) (Fit2.of (Zs hU rfl rfl ?_) (by omega)) ?_
  ·exact Yy hi0 hk0
  refine Y6 (k := 3) (k' := 7) hU [5, 6, 2] [0, 0, 2, 0, 0, 0, 1] rfl rfl rfl rfl ⟨rfl, rfl⟩ ?_
  exact Yy hi0 hk0
 refine Zh ?_
 obtain ⟨y5, hy5, h⟩ := bC h
 refine Qn [] hi0 hk0 ?_
 refine GCalls.lend (Uz hy5) rfl ?_ ?_
 ·exact Yy hi0 hk0
 refine zX2 hi0 hk0 ?_
 refine zDs [0, 3, 6, 7] [false, false, true, false, false, true, true] ?_
 refine zD [0, 3, 6, 7] [false, false, true, false, false, true, true] ?_
 obtain ⟨z18, hz18, h⟩ := bC h
 refine Za3 (J := (Jr (fun z18 => JR n (⟨94, [], [(4, (vI z18.1)), (5, (vI z18.2))]⟩ : Env) (Zo (((O.upd j0_0 none).upd j0_1 none).upd i0 (some ⟨false, 79, 2, 1, [.row (n + 5) z1.1.length, .row (n + 6) z1.2.length]⟩)) n [none, none, none, none, none, some (oR 82 10 Zb z1.1), some (oR 3 1 (eI .i64) z1.2)]) (n + 7)) (fun z18 => JX 0 n (⟨94, [], [(0, .ref i0 0), (3, .ref (n + 2) 0), (6, (vI z18))]⟩ : Env) (Zo (((O.upd j0_0 none).upd j0_1 none).upd i0 (some ⟨false, 79, 2, 1, [.row (n + 5) z1.1.length, .row (n + 6) z1.2.length]⟩)) n [none, none, some ⟨false, 82, 10, 1, (Z9 a1)⟩, none, none, some (oR 82 10 Zb z1.1), some (oR 3 1 (eI .i64) z1.2)]) (n + 7)))) (z := z18) ?_ fun hw => ?_
 ·refine Qw hz18 (fun s0_ => ⟨94, [], [(0, .ref i0 0), (3, .ref (n + 2) 0), (6, (vI s0_)), (7, .fn 55 1 [.ref i0 0])]⟩) (fun s0_ => (Zo (((O.upd j0_0 none).upd j0_1 none).upd i0 (some ⟨false, 79, 2, 1, [.row (n + 5) z1.1.length, .row (n + 6) z1.2.length]⟩)) n [none, none, some ⟨false, 82, 10, 1, (Z9 a1)⟩, none, none, some (oR 82 10 Zb z1.1), some (oR 3 1 (eI .i64) z1.2)])) (Jr (fun z18 => JR n (⟨94, [], [(4, (vI z18.1)), (5, (vI z18.2))]⟩ : Env) (Zo (((O.upd j0_0 none).upd j0_1 none).upd i0 (some ⟨false, 79, 2, 1, [.row (n + 5) z1.1.length, .row (n + 6) z1.2.length]⟩)) n [none, none, none, none, none, some (oR 82 10 Zb z1.1), some (oR 3 1 (eI .i64) z1.2)]) (n + 7)) (fun z18 => JX 0 n (⟨94, [], [(0, .ref i0 0), (3, .ref (n + 2) 0), (6, (vI z18))]⟩ : Env) (Zo (((O.upd j0_0 none).upd j0_1 none).upd i0 (some ⟨false, 79, 2, 1, [.row (n + 5) z1.1.length, .row (n + 6) z1.2.length]⟩)) n [none, none, some ⟨false, 82, 10, 1, (Z9 a1)⟩, none, none, some (oR 82 10 Zb z1.1), some (oR 3 1 (eI .i64) z1.2)]) (n + 7))) ?_
  intro s0_ x0_ hs0_
  unfold Yd at hs0_
  try dsimp only
  refine Zh ?_
  obtain ⟨x7, hx7, ax7, bx7, cx7, hs0_⟩ := bE (f := (eI .i64)) Zkv (fun _ => rfl) (by decide) hs0_
  refine Gc [0, 3, 6, 7, 38] (Z3 Zy [] ?_)
  refine zF5 ax7 bx7 cx7 hi0 hk0 ?_
  refine Zp (t := (x7 != 0)) rfl (fun c17 => ?_) (fun c17 => ?_)
  ·replace hs0_ := Zu c17 hs0_
   refine Kf [0, 3, 6, 7] [false, false, true, false, false, true, true] ?_
   refine Xg ?_
   obtain ⟨x9, hx9, ax9, bx9, cx9, hs0_⟩ := bE (f := (eI .i64)) Zkv (fun _ => rfl) (by decide) hs0_
   refine Gc [0, 3, 6, 7, 8] (Z3 Zy [] ?_)
   refine zF5 ax9 bx9 cx9 hi0 hk0 ?_
   refine Zh ?_
   obtain ⟨x12, hx12, ax12, bx12, cx12, hs0_⟩ := bE (f := Zb) Zqj (fun _ => rfl) (by decide) hs0_
   obtain ⟨y13, hy13, hs0_⟩ := bC hs0_
   refine Va Zy (by kernel_rfl) [] (by kernel_rfl) ?_
   refine zF5 ax12 bx12 cx12 hi0 hk0 ?_
   refine PCall.of (Zdu hy13) ?_
   refine zF5 ax12 bx12 cx12 hi0 hk0 ?_
   refine zDs [0, 3, 6, 7, 8, 9, 10] [false, false, true, false, false, true, true] ?_
   refine Qo [0, 3, 6, 7, 8, 9, 10, 60] hi0 hk0 ?_
   refine Zp (t := (y13.2 != 0)) rfl (fun c16 => ?_) (fun c16 => ?_)
   ·replace hs0_ := Zu c16 hs0_
    refine Qo [4, 5] hi0 hk0 ?_
    refine zW ?_
    obtain rfl := sI hs0_
    refine And.intro (fun h => by cases h) (And.intro rfl (Fit2.of (Zs hU rfl rfl ?_) (by omega)))
    exact Yy hi0 hk0
   replace hs0_ := Zt c16 hs0_
   refine Kf [0, 3, 6, 7, 8, 9] [false, false, true, false, false, true, true] ?_
   refine Zh ?_
   refine Qo [0, 3, 6, 7, 8, 62] hi0 hk0 ?_
   refine Zp (t := y13.1) rfl (fun c15 => ?_) (fun c15 => ?_)
   ·replace hs0_ := Zu c15 hs0_
    refine Qo [4, 5] hi0 hk0 ?_
    refine zW ?_
    obtain rfl := sI hs0_
    refine And.intro (fun h => by cases h) (And.intro rfl (Fit2.of (Zs hU rfl rfl ?_) (by omega)))
    exact Yy hi0 hk0
   replace hs0_ := Zt c15 hs0_
   refine Kf [0, 3, 6, 7] [false, false, true, false, false, true, true] ?_
   obtain ⟨y14, hy14, hs0_⟩ := bC hs0_
   refine Qn [] hi0 hk0 ?_
   refine GCalls.lend (Gz hy14) rfl ?_ ?_
   ·exact Yy hi0 hk0
   refine zX2 hi0 hk0 ?_
   obtain rfl := sI hs0_
   refine And.intro rfl (Fit2.of (Zs hU rfl rfl ?_) (by omega))
   exact Yy hi0 hk0
  replace hs0_ := Zt c17 hs0_
  refine zXt ?_
  obtain rfl := sI hs0_
  refine And.intro (fun h => by cases h) (And.intro rfl (Fit2.of (Zs hU rfl rfl ?_) (by omega)))
  exact Yy hi0 hk0
 rcases z18 with z18 | z18
 ·dsimp only [Jr] at hw h
  refine Kx hw ?_
  try simp only [Xm, Yo, ↓reduceIte, Nat.reduceEqDiff]
  obtain rfl := sI h
  refine Qb (k := 2) (i := i0) (q1 := ⟨false, 79, 2, 1, [.row n z1.1.length, .row (n + 1) z1.2.length]⟩) (L3 := [some (oR 82 10 Zb z1.1), some (oR 3 1 (eI .i64) z1.2), none]) (E2 := (⟨94, [], [(4, (vI z18.1)), (5, (vI z18.2))]⟩ : Env)) (n3 := (n + 3)) (.inr rfl) hU rfl [(vI z18.1), (vI z18.2)] ?_ ?_
  ·refine Fit2.trans (E' := (⟨94, [], [(4, (vI z18.1)), (5, (vI z18.2))]⟩ : Env)) (O' := (Zo (((O.upd j0_0 none).upd j0_1 none).upd i0 (some ⟨false, 79, 2, 1, [.row (n + 5) z1.1.length, .row (n + 6) z1.2.length]⟩)) n [none, none, none, none, none, some (oR 82 10 Zb z1.1), some (oR 3 1 (eI .i64) z1.2)])) (n' := (n + 7)) (Fit2.of (Zs hU rfl rfl ?_) (by omega)) ?_
   ·exact Yy hi0 hk0
   refine Y6 (k := 7) (k' := 3) hU [2, 2, 2, 2, 2, 0, 1] [5, 6, 0] rfl rfl rfl rfl ⟨rfl, rfl⟩ ?_
   exact Yy hi0 hk0
  simp only [push_cast, seval, ↓reduceIte, Zk, Try.results32, hi0, hk0, hN0, hN]
 dsimp only [Jr] at hw h
 refine Xz hw ?_
 try simp only [Xm, Yo, ↓reduceIte, Nat.reduceEqDiff]
 refine zDs [0, 3, 6] [false, false, true, false, false, true, true] ?_
 obtain ⟨l20, pl20, ql20, el20, h⟩ := bA (k := 1) rfl h
 refine Zf7 Zy (by kernel_rfl) [.plain, .plain, .low, .low, .low, .plain, .pass, .pass, .plain, .plain, .bar] (fun i => i < (n + 7) ∧ ¬ i = n + 5) [0, 1, 2, 3, 4, 5, 6, 7, 8, 9, 10] [.plain, .plain, .low, .low, .low, .plain, .pass, .pass, .plain, .plain, .bar] [] (by kernel_rfl) rfl ?_
 refine zX5 pl20 ql20 el20 hi0 hk0 ?_
 refine zO ?_
 refine Kv ⟨94, [], [(0, .ref i0 0), (6, (vI z18))]⟩ (Zo (((O.upd j0_0 none).upd j0_1 none).upd i0 (some ⟨false, 79, 2, 1, [.row (n + 5) l20.length, .row (n + 6) z1.2.length]⟩)) n [none, none, none, none, none, some (oR 82 10 Zb l20), some (oR 3 1 (eI .i64) z1.2), none]) (Zs hU rfl rfl ?_) ?_
 ·exact Zyy pl20 ql20 el20 hi0 hk0
 refine Zh ?_
 obtain ⟨x23, hx23, ax23, bx23, cx23, h⟩ := bE (f := (eI .i64)) Zkv (fun _ => rfl) (by decide) h
 have gu24 : Ks (fl (eI .i64) z1.2) [.val (.int .i64 (l20.length : Int))] (Int.toNat z18 * 1) = some (fl (eI .i64) (Zbo z1.2 z18 (l20.length : Int))) := Zha (f := (eI .i64)) (ti := ⟨.bool, 1, 0, [], false⟩) (x := (l20.length : Int)) (fun _ => rfl) (Zd3 hx23)
 refine Zmu Zy (by kernel_rfl) [false, false, false, false, false, false, false, false, false, false, false, true] [] (by kernel_rfl) ?_
 refine zF6 ax23 bx23 cx23 gu24 hi0 hk0 ?_
 refine zD [0] [false, false, false, false, false, true, true, false] ?_
 refine Qo [4, 5] hi0 hk0 ?_
 refine zW ?_
 obtain rfl := sI h
 refine Qb (k := 2) (i := i0) (q1 := ⟨false, 79, 2, 1, [.row n l20.length, .row (n + 1) (Zbo z1.2 z18 (l20.length : Int)).length]⟩) (L3 := [some (oR 82 10 Zb l20), some (oR 3 1 (eI .i64) (Zbo z1.2 z18 (l20.length : Int))), none]) (E2 := (⟨94, [], [(4, (vI (IntKind.i64.wrap ((l20.length : Int) - 1)))), (5, (vI 0))]⟩ : Env)) (n3 := (n + 3)) (.inr rfl) hU rfl [(vI (IntKind.i64.wrap ((l20.length : Int) - 1))), (vI 0)] ?_ ?_
 ·refine Fit2.trans (E' := (⟨94, [], [(4, (vI (IntKind.i64.wrap ((l20.length : Int) - 1)))), (5, (vI 0))]⟩ : Env)) (O' := (Zo (((O.upd j0_0 none).upd j0_1 none).upd i0 (some ⟨false, 79, 2, 1, [.row (n + 5) l20.length, .row (n + 6) (Zbo z1.2 z18 (l20.length : Int)).length]⟩)) n [none, none, none, none, none, some (oR 82 10 Zb l20), some (oR 3 1 (eI .i64) (Zbo z1.2 z18 (l20.length : Int))), none])) (n' := (n + 8)) (Fit2.of (Zs hU rfl rfl ?_) (by omega)) ?_
  ·exact Yy hi0 hk0
  refine Y6 (k := 8) (k' := 3) hU [2, 2, 2, 2, 2, 0, 1, 2] [5, 6, 0] rfl rfl rfl rfl ⟨rfl, rfl⟩ ?_
  exact Yy hi0 hk0
 simp only [push_cast, seval, ↓reduceIte, Zk, Try.results32, hi0, hk0, hN0, hN]
theorem Vj {a0 : (Option Zl)} {r : Int} {O : Objs} {n : Nat} (h : Qu a0 = some r) : GTo Try.prog 18 [(gP Zq a0)] O n ((vI r)) O n := by
 unfold Qu at h
 refine zFn Try.call18 Try.func18 fun hU hN0 hN => ?_
 show W _ _ _ _ ⟨10, [], [(0, (gP Zq a0))]⟩ (Zo O n []) _
 refine zQ [0] ?_
 refine Zh ?_
 have g2 := Zhz (f := Zq) (t := 46) Zn4 a0
 refine Z4s [0, 4] g2 ?_
 refine Zp (t := (Option.isNone a0)) rfl (fun c5 => ?_) (fun c5 => ?_)
 ·replace h := Zu c5 h
  refine zQ [2] ?_
  exact Yk [(vI 0)]
 replace h := Zt c5 h
 refine Kf [0] [] ?_
 obtain ⟨x4, hx4, h⟩ := bC h
 refine Gc [2] (Z3 Zy [] ?_)
 simp only [push_cast, seval, ↓reduceIte, Zk, hx4, hN0, hN]
 exact Yk [(vI (x4.classes.length : Int))]
attribute [local push_cast] Try.results14 Try.results17 Try.results19 Try.results20 Try.results22 Try.results30 Try.results31 Try.results5 Try.results51 Try.results52 Try.results6 Try.results7
theorem Zfa  {r : Zl} {O : Objs} {n : Nat}  (h : Vc = some r) : GTo Try.prog 14 [] O n (.ref n 0) (Zo O n [some ⟨false, 79, 2, 1, [.row (n + 1) r.classes.length, .row (n + 2) r.places.length]⟩, some (oR 82 10 Zb r.classes), some (oR 3 1 (eI .i64) r.places)]) (n + 3) := by
 unfold Vc at h
 refine zFn Try.call14 Try.func14 fun hU hN0 hN => ?_
 show W _ _ _ _ ⟨3, [], []⟩ (Zo O n []) _
 refine zQ [] ?_
 refine zQ [0] ?_
 refine zW ?_
 obtain rfl := sI h
 refine Zd0 (k := 3) (L3 := [some ⟨false, 79, 2, 1, [.row (n + 1) ([] : List Zi).length, .row (n + 2) ([] : List Int).length]⟩, some (oR 82 10 Zb ([] : List Zi)), some (oR 3 1 (eI .i64) ([] : List Int)), none]) (E2 := (⟨3, [], [(0, .ref n 0)]⟩ : Env)) (n3 := (n + 4)) (.inr rfl) hU rfl [.ref n 0] ?_ ?_
 ·refine Fit2.trans (E' := (⟨3, [], [(0, .ref n 0)]⟩ : Env)) (O' := (Zo O n [some ⟨false, 79, 2, 1, [nV, nV]⟩])) (n' := (n + 1)) (Fit2.of (Yc hU rfl rfl ?_) (by omega)) ?_
  ·exact zSe
  refine Fit2.trans (Zi5 (p := n) (k := 0) (q := ⟨false, 79, 2, 1, [nV, nV]⟩) 82 10 (by simp only [Gb, Zir, List.getElem?_cons_zero, List.getElem?_cons_succ, Option.join_some, List.length_nil, Yi]) rfl (by omega)) ?_
  simp only [Qp, Xy, Gm, V1, List.set_cons_zero, List.set_cons_succ, List.cons_append, List.nil_append, List.length_cons, List.length_nil, Nat.zero_add, Nat.reduceAdd, Nat.reduceLT, Nat.add_assoc]
  refine Fit2.trans (Zi5 (p := n) (k := 1) (q := ⟨false, 79, 2, 1, [.row (n + 1) ([] : List Zi).length, nV]⟩) 3 1 (by simp only [Gb, Zir, List.getElem?_cons_zero, List.getElem?_cons_succ, Option.join_some, List.length_nil, Yi]) rfl (by omega)) ?_
  simp only [Qp, Xy, Gm, V1, List.set_cons_zero, List.set_cons_succ, List.cons_append, List.nil_append, List.length_cons, List.length_nil, Nat.zero_add, Nat.reduceAdd, Nat.reduceLT, Nat.add_assoc]
  refine Zaw (k := 3) (k' := 4) hU [0, 1, 2] [0, 1, 2, 0] rfl rfl rfl rfl ⟨rfl, rfl⟩ ?_
  exact zSe
 simp only [push_cast, seval, ↓reduceIte, Zk, Try.results14, hN0, hN]
theorem K4 {a0 : Zl} {a1 : Za} {r : ((List Int) × Int × Zl)} {O : Objs} {n : Nat} {i0 j0_0 j0_1 : Nat} (hi0 : i0 < n) (Zh4 : j0_0 < n) (Zh5 : j0_1 < n) (Zd8 : i0 ≠ j0_0) (Zbe : i0 ≠ j0_1) (Zbd : j0_0 ≠ j0_1) (ho0 : O i0 = some ⟨false, 79, 2, 1, [.row j0_0 a0.classes.length, .row j0_1 a0.places.length]⟩) (Zj0 : O j0_0 = some (oR 82 10 Zb a0.classes)) (Zj1 : O j0_1 = some (oR 3 1 (eI .i64) a0.places)) (h : Xs a0 a1 = some r) : GTo Try.prog 21 [.ref i0 0, .agg (Zc a1)] O n (.tup [(sL (eI .i64) r.1), (vI r.2.1)]) (Zo (((O.upd j0_0 none).upd j0_1 none).upd i0 (some ⟨false, 79, 2, 1, [.row n r.2.2.classes.length, .row (n + 1) r.2.2.places.length]⟩)) n [some (oR 82 10 Zb r.2.2.classes), some (oR 3 1 (eI .i64) r.2.2.places)]) (n + 2) := by
 unfold Xs at h
 refine Zd1 Zy Try.call21 Try.func21 rfl (Nat.le_of_ble_eq_true rfl) (by omega) fun hU => ?_
 have e0 := Zcv (ba := n) (E := ⟨73, [], Zgj 0 [.ref i0 0, .agg [(gP Zj a1.a), .val (.int .i64 a1.kind), .val (.int .i64 a1.segment), .val (.int .i64 a1.at_), .val (.int .i64 a1.words), .val (.int .i64 a1.ptrs), .val (.int .i64 a1.count), .val (.int .i64 a1.code), .val (.int .i64 a1.index)]]⟩) (O := (Zo O n [])) (n := n) (i := i0) (j := j0_0) (k := 0) (len := a0.classes.length) (q := ⟨false, 79, 2, 1, [.row j0_0 a0.classes.length, .row j0_1 a0.places.length]⟩) (qj := ⟨true, 82, 10, a0.classes.length, fl Zb a0.classes⟩) (by rw [Y7 _ hi0]; first | exact ho0 | exact Yi _ _ _) rfl (by rw [Y7 _ Zh4]; exact Zj0) Zd8 (by omega)
 simp only [Qq _ _ Zh4, Qq _ _ hi0, Qp, Xy, Zab, Zhl Zd8, List.set_cons_zero, List.set_cons_succ, List.cons_append, List.nil_append, List.length_cons, List.length_nil, Nat.zero_add, Nat.reduceAdd, Nat.add_assoc] at e0
 refine V3 e0 ?_
 have e1 := Zcv (ba := n) (E := ⟨73, [], Zgj 0 [.ref i0 0, .agg [(gP Zj a1.a), .val (.int .i64 a1.kind), .val (.int .i64 a1.segment), .val (.int .i64 a1.at_), .val (.int .i64 a1.words), .val (.int .i64 a1.ptrs), .val (.int .i64 a1.count), .val (.int .i64 a1.code), .val (.int .i64 a1.index)]]⟩) (O := (Zo ((O.upd j0_0 none).upd i0 (some ⟨false, 79, 2, 1, [.row n a0.classes.length, .row j0_1 a0.places.length]⟩)) n [some ⟨true, 82, 10, a0.classes.length, fl Zb a0.classes⟩])) (n := (n + 1)) (i := i0) (j := j0_1) (k := 1) (len := a0.places.length) (q := ⟨false, 79, 2, 1, [.row n a0.classes.length, .row j0_1 a0.places.length]⟩) (qj := ⟨true, 3, 1, a0.places.length, fl (eI .i64) a0.places⟩) (by rw [Y7 _ hi0]; first | exact ho0 | exact Yi _ _ _) rfl (by rw [Y7 _ Zh5, Y5 _ _ (Ne.symm Zbe), Y5 _ _ (Ne.symm Zbd)]; exact Zj1) Zbe (by omega)
 simp only [Qq _ _ Zh5, Qq _ _ hi0, Qp, Xy, Zab, Zhl Zbe, List.set_cons_zero, List.set_cons_succ, List.cons_append, List.nil_append, List.length_cons, List.length_nil, Nat.zero_add, Nat.reduceAdd, Nat.add_assoc] at e1
 refine V3 e1 ?_
 have hU := (Und.drop (Und.drop hU j0_0) j0_1)
 have hk0 : ∀ k, i0 < n + k := fun k => by omega
 have hN0 : ∀ o, Objs.upd ((O.upd j0_0 none).upd j0_1 none) i0 o n = none := fun o => Ql hU hi0 _ (Nat.le_refl _)
 have hN : ∀ o k, Objs.upd ((O.upd j0_0 none).upd j0_1 none) i0 o (n + k) = none := fun o k => Ql hU hi0 _ (Nat.le_add_right _ _)
 show W _ _ _ _ ⟨73, [], [(0, .ref i0 0), (1, .agg (Zc a1))]⟩ (Zo (((O.upd j0_0 none).upd j0_1 none).upd i0 (some ⟨false, 79, 2, 1, [.row n a0.classes.length, .row (n + 1) a0.places.length]⟩)) n [some (oR 82 10 Zb a0.classes), some (oR 3 1 (eI .i64) a0.places)]) _
 refine Qo [0, 3] hi0 hk0 ?_
 refine Zh ?_
 refine Zh ?_
 refine Qn [some false, some false, some false] hi0 hk0 ?_
 refine zD [0, 3, 22] [true, true, true] ?_
 refine Zp (t := false) rfl (fun hc => by cases hc) (fun _ => ?_)
 refine Kf [0, 3] [true, true, true] ?_
 refine Qo [0, 3, 6] hi0 hk0 ?_
 refine Zh ?_
 refine Zh ?_
 obtain ⟨y2, hy2, h⟩ := bC h
 refine Qn [] hi0 hk0 ?_
 refine (Kl hy2).then ?_
 refine zX2 hi0 hk0 ?_
 refine zD [0, 3, 6, 24, 25] [true, true, true] ?_
 refine zD [0, 3, 6, 24, 25] [true, true, true] ?_
 refine V3 (E' := (⟨73, [], [(0, .ref i0 0), (3, .ref (n + 2) 0), (6, .row (n + 3) ([] : List Zi).length), (24, (vI y2)), (25, (vI 0))]⟩ : Env)) (O' := (Zo (((O.upd j0_0 none).upd j0_1 none).upd i0 (some ⟨false, 79, 2, 1, [.row n a0.classes.length, .row (n + 1) a0.places.length]⟩)) n [some (oR 82 10 Zb a0.classes), some (oR 3 1 (eI .i64) a0.places), some ⟨false, 35, 9, 1, (Zc a1)⟩, some (oR 82 10 Zb ([] : List Zi)), none])) (n' := (n + 5)) ?_ ?_
 ·refine Fit2.trans (E' := (⟨73, [], [(0, .ref i0 0), (3, .ref (n + 2) 0), (6, nV), (24, (vI y2)), (25, (vI 0))]⟩ : Env)) (O' := (Zo (((O.upd j0_0 none).upd j0_1 none).upd i0 (some ⟨false, 79, 2, 1, [.row n a0.classes.length, .row (n + 1) a0.places.length]⟩)) n [some (oR 82 10 Zb a0.classes), some (oR 3 1 (eI .i64) a0.places), some ⟨false, 35, 9, 1, (Zc a1)⟩])) (n' := (n + 3)) (Fit2.of (Zs hU rfl rfl ?_) (by omega)) ?_
  ·exact Yy hi0 hk0
  refine Fit2.trans (Zax 6 82 10 rfl (by omega)) ?_
  simp only [Qp, Xy, Gm, V1, List.set_cons_zero, List.set_cons_succ, List.cons_append, List.nil_append, List.length_cons, List.length_nil, Nat.zero_add, Nat.reduceAdd, Nat.reduceLT, Nat.add_assoc, Qq, hi0, hk0, hN0, hN]
  refine Fit2.trans (E' := (⟨73, [], [(0, .ref i0 0), (3, .ref (n + 2) 0), (6, .row (n + 3) ([] : List Zi).length), (24, (vI y2)), (25, (vI 0))]⟩ : Env)) (O' := (Zo (((O.upd j0_0 none).upd j0_1 none).upd i0 (some ⟨false, 79, 2, 1, [.row n a0.classes.length, .row (n + 1) a0.places.length]⟩)) n [some (oR 82 10 Zb a0.classes), some (oR 3 1 (eI .i64) a0.places), some ⟨false, 35, 9, 1, (Zc a1)⟩, some (oR 82 10 Zb ([] : List Zi))])) (n' := (n + 4)) (Fit2.of (Zs hU rfl rfl ?_) (by omega)) ?_
  ·exact Yy hi0 hk0
  refine Y6 (k := 4) (k' := 5) hU [0, 1, 2, 3] [0, 1, 2, 3, 0] rfl rfl rfl rfl ⟨rfl, rfl⟩ ?_
  exact Yy hi0 hk0
 obtain ⟨z11, hz11, h⟩ := bC h
 refine Za3 (J := (Jr (fun z11 => JR n (⟨73, [], [(4, nV), (5, (vI z11))]⟩ : Env) (Zo (((O.upd j0_0 none).upd j0_1 none).upd i0 (some ⟨false, 79, 2, 1, [.row n a0.classes.length, .row (n + 1) a0.places.length]⟩)) n [some (oR 82 10 Zb a0.classes), some (oR 3 1 (eI .i64) a0.places), none]) (n + 3)) (fun z11 => JX 0 n (⟨73, [], [(0, .ref i0 0), (6, .row (n + 3) z11.length)]⟩ : Env) (Zo (((O.upd j0_0 none).upd j0_1 none).upd i0 (some ⟨false, 79, 2, 1, [.row n a0.classes.length, .row (n + 1) a0.places.length]⟩)) n [some (oR 82 10 Zb a0.classes), some (oR 3 1 (eI .i64) a0.places), none, some (oR 82 10 Zb z11), none]) (n + 5)))) (z := z11) ?_ fun hw => ?_
 ·refine Qw hz11 (fun s0_ => ⟨73, [], [(0, .ref i0 0), (3, .ref (n + 2) 0), (6, .row (n + 3) s0_.2.length), (24, (vI y2)), (25, (vI s0_.1))]⟩) (fun s0_ => (Zo (((O.upd j0_0 none).upd j0_1 none).upd i0 (some ⟨false, 79, 2, 1, [.row n a0.classes.length, .row (n + 1) a0.places.length]⟩)) n [some (oR 82 10 Zb a0.classes), some (oR 3 1 (eI .i64) a0.places), some ⟨false, 35, 9, 1, (Zc a1)⟩, some (oR 82 10 Zb s0_.2), none])) (Jr (fun z11 => JR n (⟨73, [], [(4, nV), (5, (vI z11))]⟩ : Env) (Zo (((O.upd j0_0 none).upd j0_1 none).upd i0 (some ⟨false, 79, 2, 1, [.row n a0.classes.length, .row (n + 1) a0.places.length]⟩)) n [some (oR 82 10 Zb a0.classes), some (oR 3 1 (eI .i64) a0.places), none]) (n + 3)) (fun z11 => JX 0 n (⟨73, [], [(0, .ref i0 0), (6, .row (n + 3) z11.length)]⟩ : Env) (Zo (((O.upd j0_0 none).upd j0_1 none).upd i0 (some ⟨false, 79, 2, 1, [.row n a0.classes.length, .row (n + 1) a0.places.length]⟩)) n [some (oR 82 10 Zb a0.classes), some (oR 3 1 (eI .i64) a0.places), none, some (oR 82 10 Zb z11), none]) (n + 5))) ?_
  intro s0_ x0_ hs0_
  unfold Xo at hs0_
  try dsimp only
  refine Qo [0, 3, 6, 24, 25, 26] hi0 hk0 ?_
  refine Zh ?_
  refine Zp (t := (decide (s0_.1 < y2))) rfl (fun c10 => ?_) (fun c10 => ?_)
  ·replace hs0_ := Zu c10 hs0_
   refine Kf [0, 3, 6, 24, 25] [true, true, true, true, false] ?_
   refine Zh ?_
   refine Xg ?_
   refine Qo [0, 3, 6, 7, 24, 25] hi0 hk0 ?_
   refine Zh ?_
   obtain ⟨y4, hy4, hs0_⟩ := bC hs0_
   refine Qn [] hi0 hk0 ?_
   refine (Jx hy4).then ?_
   refine zX2 hi0 hk0 ?_
   refine zDs [0, 3, 6, 8, 9, 24, 25] [true, true, true, true, false, true] ?_
   refine Qo [0, 3, 6, 8, 9, 24, 25, 35] hi0 hk0 ?_
   refine Zp (t := (y4.2 != 0)) rfl (fun c9 => ?_) (fun c9 => ?_)
   ·replace hs0_ := Zu c9 hs0_
    refine Qo [4, 5] hi0 hk0 ?_
    refine zW ?_
    obtain rfl := sI hs0_
    refine And.intro (fun h => by cases h) (And.intro rfl (Fit2.of (Zs hU rfl rfl ?_) (by omega)))
    exact Yy hi0 hk0
   replace hs0_ := Zt c9 hs0_
   refine Kf [0, 3, 6, 8, 24, 25] [true, true, true, true, false, true] ?_
   refine Zh ?_
   obtain ⟨y6, hy6, hs0_⟩ := bC hs0_
   refine Qn [] hi0 hk0 ?_
   refine (Zlb hy6).then ?_
   refine zX2 hi0 hk0 ?_
   refine zDs [0, 3, 6, 8, 9, 10, 24, 25] [true, true, true, true, false, true] ?_
   refine Qo [0, 3, 6, 8, 9, 10, 24, 25, 43] hi0 hk0 ?_
   refine Zp (t := (y6.2 != 0)) rfl (fun c8 => ?_) (fun c8 => ?_)
   ·replace hs0_ := Zu c8 hs0_
    refine Qo [4, 5] hi0 hk0 ?_
    refine zW ?_
    obtain rfl := sI hs0_
    refine And.intro (fun h => by cases h) (And.intro rfl (Fit2.of (Zs hU rfl rfl ?_) (by omega)))
    exact Yy hi0 hk0
   replace hs0_ := Zt c8 hs0_
   refine Kf [0, 3, 6, 8, 10, 24, 25] [true, true, true, true, false, true] ?_
   obtain ⟨l7, pl7, ql7, el7, hs0_⟩ := bA (k := 1) rfl hs0_
   refine Zuy [] pl7 ql7 el7 hi0 hk0 ?_
   refine Kv ⟨73, [], [(0, .ref i0 0), (3, .ref (n + 2) 0), (6, .row (n + 3) l7.length), (24, (vI y2)), (25, (vI s0_.1))]⟩ (Zo (((O.upd j0_0 none).upd j0_1 none).upd i0 (some ⟨false, 79, 2, 1, [.row n a0.classes.length, .row (n + 1) a0.places.length]⟩)) n [some (oR 82 10 Zb a0.classes), some (oR 3 1 (eI .i64) a0.places), some ⟨false, 35, 9, 1, (Zc a1)⟩, some (oR 82 10 Zb l7), none, none, none]) (Zs hU rfl rfl ?_) ?_
   ·exact Zyy pl7 ql7 el7 hi0 hk0
   refine Qn [] hi0 hk0 ?_
   obtain rfl := sI hs0_
   refine And.intro rfl (Fit2.of (Zs hU rfl rfl ?_) (by omega))
   exact Yy hi0 hk0
  replace hs0_ := Zt c10 hs0_
  refine zXt ?_
  obtain rfl := sI hs0_
  refine And.intro (fun h => by cases h) (And.intro rfl (Fit2.of (Zs hU rfl rfl ?_) (by omega)))
  exact Yy hi0 hk0
 rcases z11 with z11 | z11
 ·dsimp only [Jr] at hw h
  refine Kx hw ?_
  try simp only [Xm, Yo, ↓reduceIte, Nat.reduceEqDiff]
  obtain rfl := sI h
  refine Qb (k := 2) (i := i0) (q1 := ⟨false, 79, 2, 1, [.row n a0.classes.length, .row (n + 1) a0.places.length]⟩) (L3 := [some (oR 82 10 Zb a0.classes), some (oR 3 1 (eI .i64) a0.places), none]) (E2 := (⟨73, [], [(4, nV), (5, (vI z11))]⟩ : Env)) (n3 := (n + 3)) (.inr rfl) hU rfl [nV, (vI z11)] ?_ ?_
  ·refine Fit2.trans (E' := (⟨73, [], [(4, nV), (5, (vI z11))]⟩ : Env)) (O' := (Zo (((O.upd j0_0 none).upd j0_1 none).upd i0 (some ⟨false, 79, 2, 1, [.row n a0.classes.length, .row (n + 1) a0.places.length]⟩)) n [some (oR 82 10 Zb a0.classes), some (oR 3 1 (eI .i64) a0.places), none])) (n' := (n + 3)) (Fit2.of (Zs hU rfl rfl ?_) (by omega)) ?_
   ·exact Yy hi0 hk0
   refine Y6 (k := 3) (k' := 3) hU [0, 1, 2] [0, 1, 0] rfl rfl rfl rfl ⟨rfl, rfl⟩ ?_
   exact Yy hi0 hk0
  simp only [push_cast, seval, ↓reduceIte, Zk, Try.results21, hi0, hk0, hN0, hN]
 dsimp only [Jr] at hw h
 refine Xz hw ?_
 try simp only [Xm, Yo, ↓reduceIte, Nat.reduceEqDiff]
 refine zD [0, 6] [true, true, false, true, false] ?_
 refine Qo [0, 6, 11] hi0 hk0 ?_
 refine Zh ?_
 refine Qo [0, 11, 52, 53, 54] hi0 hk0 ?_
 refine zD [0, 11, 52, 53, 54] [true, true, false, true, false] ?_
 refine V3 (E' := (⟨73, [], [(0, .ref i0 0), (11, .row (n + 5) ([] : List Int).length), (52, .row (n + 3) z11.length), (53, (vI (z11.length : Int))), (54, (vI 0))]⟩ : Env)) (O' := (Zo (((O.upd j0_0 none).upd j0_1 none).upd i0 (some ⟨false, 79, 2, 1, [.row (n + 6) a0.classes.length, .row (n + 7) a0.places.length]⟩)) n [none, none, none, some (oR 82 10 Zb z11), none, some (oR 3 1 (eI .i64) ([] : List Int)), some (oR 82 10 Zb a0.classes), some (oR 3 1 (eI .i64) a0.places)])) (n' := (n + 8)) ?_ ?_
 ·refine Fit2.trans (E' := (⟨73, [], [(0, .ref i0 0), (11, nV), (52, .row (n + 3) z11.length), (53, (vI (z11.length : Int))), (54, (vI 0))]⟩ : Env)) (O' := (Zo (((O.upd j0_0 none).upd j0_1 none).upd i0 (some ⟨false, 79, 2, 1, [.row n a0.classes.length, .row (n + 1) a0.places.length]⟩)) n [some (oR 82 10 Zb a0.classes), some (oR 3 1 (eI .i64) a0.places), none, some (oR 82 10 Zb z11), none])) (n' := (n + 5)) (Fit2.of (Zs hU rfl rfl ?_) (by omega)) ?_
  ·exact Yy hi0 hk0
  refine Fit2.trans (Zax 11 3 1 rfl (by omega)) ?_
  simp only [Qp, Xy, Gm, V1, List.set_cons_zero, List.set_cons_succ, List.cons_append, List.nil_append, List.length_cons, List.length_nil, Nat.zero_add, Nat.reduceAdd, Nat.reduceLT, Nat.add_assoc, Qq, hi0, hk0, hN0, hN]
  refine Fit2.trans (E' := (⟨73, [], [(0, .ref i0 0), (11, .row (n + 5) ([] : List Int).length), (52, .row (n + 3) z11.length), (53, (vI (z11.length : Int))), (54, (vI 0))]⟩ : Env)) (O' := (Zo (((O.upd j0_0 none).upd j0_1 none).upd i0 (some ⟨false, 79, 2, 1, [.row n a0.classes.length, .row (n + 1) a0.places.length]⟩)) n [some (oR 82 10 Zb a0.classes), some (oR 3 1 (eI .i64) a0.places), none, some (oR 82 10 Zb z11), none, some (oR 3 1 (eI .i64) ([] : List Int))])) (n' := (n + 6)) (Fit2.of (Zs hU rfl rfl ?_) (by omega)) ?_
  ·exact Yy hi0 hk0
  refine Y6 (k := 6) (k' := 8) hU [6, 7, 4, 3, 4, 5] [0, 0, 0, 3, 0, 5, 0, 1] rfl rfl rfl rfl ⟨rfl, rfl⟩ ?_
  exact Yy hi0 hk0
 obtain ⟨z19, hz19, h⟩ := bC h
 refine Za3 (J := (Jr (fun z19 => JR n (⟨73, [], [(4, nV), (5, (vI z19.1))]⟩ : Env) (Zo (((O.upd j0_0 none).upd j0_1 none).upd i0 (some ⟨false, 79, 2, 1, [.row (n + 5) z19.2.1.length, .row (n + 6) z19.2.2.length]⟩)) n [none, none, none, none, none, some (oR 82 10 Zb z19.2.1), some (oR 3 1 (eI .i64) z19.2.2)]) (n + 7)) (fun z19 => JX 2 n (⟨73, [], [(11, .row (n + 5) z19.1.length)]⟩ : Env) (Zo (((O.upd j0_0 none).upd j0_1 none).upd i0 (some ⟨false, 79, 2, 1, [.row (n + 6) z19.2.1.length, .row (n + 7) z19.2.2.length]⟩)) n [none, none, none, none, none, some (oR 3 1 (eI .i64) z19.1), some (oR 82 10 Zb z19.2.1), some (oR 3 1 (eI .i64) z19.2.2)]) (n + 8)))) (z := z19) ?_ fun hw => ?_
 ·refine Qw hz19 (fun s1_ => ⟨73, [], [(0, .ref i0 0), (11, .row (n + 5) s1_.2.1.length), (52, .row (n + 3) z11.length), (53, (vI (z11.length : Int))), (54, (vI s1_.1))]⟩) (fun s1_ => (Zo (((O.upd j0_0 none).upd j0_1 none).upd i0 (some ⟨false, 79, 2, 1, [.row (n + 6) s1_.2.2.1.length, .row (n + 7) s1_.2.2.2.length]⟩)) n [none, none, none, some (oR 82 10 Zb z11), none, some (oR 3 1 (eI .i64) s1_.2.1), some (oR 82 10 Zb s1_.2.2.1), some (oR 3 1 (eI .i64) s1_.2.2.2)])) (Jr (fun z19 => JR n (⟨73, [], [(4, nV), (5, (vI z19.1))]⟩ : Env) (Zo (((O.upd j0_0 none).upd j0_1 none).upd i0 (some ⟨false, 79, 2, 1, [.row (n + 5) z19.2.1.length, .row (n + 6) z19.2.2.length]⟩)) n [none, none, none, none, none, some (oR 82 10 Zb z19.2.1), some (oR 3 1 (eI .i64) z19.2.2)]) (n + 7)) (fun z19 => JX 2 n (⟨73, [], [(11, .row (n + 5) z19.1.length)]⟩ : Env) (Zo (((O.upd j0_0 none).upd j0_1 none).upd i0 (some ⟨false, 79, 2, 1, [.row (n + 6) z19.2.1.length, .row (n + 7) z19.2.2.length]⟩)) n [none, none, none, none, none, some (oR 3 1 (eI .i64) z19.1), some (oR 82 10 Zb z19.2.1), some (oR 3 1 (eI .i64) z19.2.2)]) (n + 8))) ?_
  intro s1_ x1_ hs1_
  unfold Xp at hs1_
  try dsimp only
  refine Qo [0, 11, 52, 53, 54, 55] hi0 hk0 ?_
  refine Zh ?_
  refine Zp (t := (decide (s1_.1 < (z11.length : Int)))) rfl (fun c18 => ?_) (fun c18 => ?_)
  ·replace hs1_ := Zu c18 hs1_
   refine Kf [0, 11, 52, 53, 54] [false, false, false, true, false, true, true, true] ?_
   refine Zh ?_
   refine Xg ?_
   refine Zh ?_
   obtain ⟨x13, hx13, ax13, bx13, cx13, hs1_⟩ := bE (f := Zb) Zqj (fun _ => rfl) (by decide) hs1_
   refine Z13 [] ax13 bx13 cx13 hi0 hk0 ?_
   refine zDs [0, 11, 13, 52, 53, 54] [false, false, false, true, false, true, true, true, true] ?_
   obtain ⟨y15, hy15, hs1_⟩ := bC hs1_
   refine Qn [] hi0 hk0 ?_
   refine (Zdt (i0 := i0) (j0_0 := (n + 6)) (j0_1 := (n + 7)) (by omega) (by omega) (by omega) (by omega) (by omega) (by omega) (by simp only [push_cast, seval, ↓reduceIte, Zk, Qa, hi0, hk0, hN0, hN] <;> rfl) (by simp only [push_cast, seval, ↓reduceIte, Zk, Qa, hi0, hk0, hN0, hN] <;> rfl) (by simp only [push_cast, seval, ↓reduceIte, Zk, Qa, hi0, hk0, hN0, hN] <;> rfl) hy15).then ?_
   refine zX2 hi0 hk0 ?_
   refine zDs [0, 11, 14, 15, 52, 53, 54] [false, false, false, true, false, true, false, false, false, true, true] ?_
   refine Qo [0, 11, 14, 15, 52, 53, 54, 65] hi0 hk0 ?_
   refine Zp (t := (y15.2.1 != 0)) rfl (fun c17 => ?_) (fun c17 => ?_)
   ·replace hs1_ := Zu c17 hs1_
    refine Qo [4, 5] hi0 hk0 ?_
    refine zW ?_
    obtain rfl := sI hs1_
    refine And.intro (fun h => by cases h) (And.intro rfl ?_)
    refine Fit2.trans (E' := (⟨73, [], [(4, nV), (5, (vI y15.2.1))]⟩ : Env)) (O' := (Zo (((O.upd j0_0 none).upd j0_1 none).upd i0 (some ⟨false, 79, 2, 1, [.row (n + 9) y15.2.2.classes.length, .row (n + 10) y15.2.2.places.length]⟩)) n [none, none, none, none, none, none, none, none, none, some (oR 82 10 Zb y15.2.2.classes), some (oR 3 1 (eI .i64) y15.2.2.places)])) (n' := (n + 11)) (Fit2.of (Zs hU rfl rfl ?_) (by omega)) ?_
    ·exact Yy hi0 hk0
    refine Y6 (k := 11) (k' := 7) hU [4, 4, 4, 4, 4, 4, 4, 4, 4, 5, 6] [0, 0, 0, 0, 0, 9, 10] rfl rfl rfl rfl ⟨rfl, rfl⟩ ?_
    exact Yy hi0 hk0
   replace hs1_ := Zt c17 hs1_
   refine Kf [0, 11, 14, 52, 53, 54] [false, false, false, true, false, true, false, false, false, true, true] ?_
   obtain ⟨l16, pl16, ql16, el16, hs1_⟩ := bA (k := 1) rfl hs1_
   refine Zuy [] pl16 ql16 el16 hi0 hk0 ?_
   refine Kv ⟨73, [], [(0, .ref i0 0), (11, .row (n + 5) l16.length), (52, .row (n + 3) z11.length), (53, (vI (z11.length : Int))), (54, (vI s1_.1))]⟩ (Zo (((O.upd j0_0 none).upd j0_1 none).upd i0 (some ⟨false, 79, 2, 1, [.row (n + 9) y15.2.2.classes.length, .row (n + 10) y15.2.2.places.length]⟩)) n [none, none, none, some (oR 82 10 Zb z11), none, some (oR 3 1 (eI .i64) l16), none, none, none, some (oR 82 10 Zb y15.2.2.classes), some (oR 3 1 (eI .i64) y15.2.2.places), none]) (Zs hU rfl rfl ?_) ?_
   ·exact Zyy pl16 ql16 el16 hi0 hk0
   refine Qn [] hi0 hk0 ?_
   obtain rfl := sI hs1_
   refine And.intro rfl ?_
   refine Fit2.trans (E' := (⟨73, [], [(0, .ref i0 0), (11, .row (n + 5) l16.length), (52, .row (n + 3) z11.length), (53, (vI (z11.length : Int))), (54, (vI (IntKind.i64.wrap (s1_.1 + 1))))]⟩ : Env)) (O' := (Zo (((O.upd j0_0 none).upd j0_1 none).upd i0 (some ⟨false, 79, 2, 1, [.row (n + 9) y15.2.2.classes.length, .row (n + 10) y15.2.2.places.length]⟩)) n [none, none, none, some (oR 82 10 Zb z11), none, some (oR 3 1 (eI .i64) l16), none, none, none, some (oR 82 10 Zb y15.2.2.classes), some (oR 3 1 (eI .i64) y15.2.2.places), none])) (n' := (n + 12)) (Fit2.of (Zs hU rfl rfl ?_) (by omega)) ?_
   ·exact Yy hi0 hk0
   refine Y6 (k := 12) (k' := 8) hU [4, 4, 4, 3, 4, 5, 4, 4, 4, 6, 7, 4] [0, 0, 0, 3, 0, 5, 9, 10] rfl rfl rfl rfl ⟨rfl, rfl⟩ ?_
   exact Yy hi0 hk0
  replace hs1_ := Zt c18 hs1_
  refine zXt ?_
  obtain rfl := sI hs1_
  refine And.intro (fun h => by cases h) (And.intro rfl (Fit2.of (Zs hU rfl rfl ?_) (by omega)))
  exact Yy hi0 hk0
 rcases z19 with z19 | z19
 ·dsimp only [Jr] at hw h
  refine Kx hw ?_
  try simp only [Xm, Yo, ↓reduceIte, Nat.reduceEqDiff]
  obtain rfl := sI h
  refine Qb (k := 2) (i := i0) (q1 := ⟨false, 79, 2, 1, [.row n z19.2.1.length, .row (n + 1) z19.2.2.length]⟩) (L3 := [some (oR 82 10 Zb z19.2.1), some (oR 3 1 (eI .i64) z19.2.2), none]) (E2 := (⟨73, [], [(4, nV), (5, (vI z19.1))]⟩ : Env)) (n3 := (n + 3)) (.inr rfl) hU rfl [nV, (vI z19.1)] ?_ ?_
  ·refine Fit2.trans (E' := (⟨73, [], [(4, nV), (5, (vI z19.1))]⟩ : Env)) (O' := (Zo (((O.upd j0_0 none).upd j0_1 none).upd i0 (some ⟨false, 79, 2, 1, [.row (n + 5) z19.2.1.length, .row (n + 6) z19.2.2.length]⟩)) n [none, none, none, none, none, some (oR 82 10 Zb z19.2.1), some (oR 3 1 (eI .i64) z19.2.2)])) (n' := (n + 7)) (Fit2.of (Zs hU rfl rfl ?_) (by omega)) ?_
   ·exact Yy hi0 hk0
   refine Y6 (k := 7) (k' := 3) hU [2, 2, 2, 2, 2, 0, 1] [5, 6, 0] rfl rfl rfl rfl ⟨rfl, rfl⟩ ?_
   exact Yy hi0 hk0
  simp only [push_cast, seval, ↓reduceIte, Zk, Try.results21, hi0, hk0, hN0, hN]
 dsimp only [Jr] at hw h
 refine Xz hw ?_
 try simp only [Xm, Yo, ↓reduceIte, Nat.reduceEqDiff]
 refine zD [11] [false, false, false, false, false, true, true, true] ?_
 refine Qo [4, 5] hi0 hk0 ?_
 refine zW ?_
 obtain rfl := sI h
 refine Qb (k := 2) (i := i0) (q1 := ⟨false, 79, 2, 1, [.row n z19.2.1.length, .row (n + 1) z19.2.2.length]⟩) (L3 := [some (oR 82 10 Zb z19.2.1), some (oR 3 1 (eI .i64) z19.2.2), some (oR 3 1 (eI .i64) z19.1), none]) (E2 := (⟨73, [], [(4, .row (n + 2) z19.1.length), (5, (vI 0))]⟩ : Env)) (n3 := (n + 4)) (.inr rfl) hU rfl [.row (n + 2) z19.1.length, (vI 0)] ?_ ?_
 ·refine Fit2.trans (E' := (⟨73, [], [(4, .row (n + 5) z19.1.length), (5, (vI 0))]⟩ : Env)) (O' := (Zo (((O.upd j0_0 none).upd j0_1 none).upd i0 (some ⟨false, 79, 2, 1, [.row (n + 6) z19.2.1.length, .row (n + 7) z19.2.2.length]⟩)) n [none, none, none, none, none, some (oR 3 1 (eI .i64) z19.1), some (oR 82 10 Zb z19.2.1), some (oR 3 1 (eI .i64) z19.2.2)])) (n' := (n + 8)) (Fit2.of (Zs hU rfl rfl ?_) (by omega)) ?_
  ·exact Yy hi0 hk0
  refine Y6 (k := 8) (k' := 4) hU [3, 3, 3, 3, 3, 2, 0, 1] [6, 7, 5, 0] rfl rfl rfl rfl ⟨rfl, rfl⟩ ?_
  exact Yy hi0 hk0
 simp only [push_cast, seval, ↓reduceIte, Zk, Try.results21, hi0, hk0, hN0, hN]
theorem Yh {a0 : (List Int)} {a1 : (List Int)} {r : Bool} {O : Objs} {n : Nat} (h : Yv a0 a1 = some r) : GTo Try.prog 22 [(sL (eI .i64) a0), (sL (eI .i64) a1)] O n ((vB r)) O n := by
 unfold Yv at h
 refine zFn Try.call22 Try.func22 fun hU hN0 hN => ?_
 show W _ _ _ _ ⟨26, [], [(0, (sL (eI .i64) a0)), (1, (sL (eI .i64) a1))]⟩ (Zo O n []) _
 refine zQ [0, 1] ?_
 refine Zh ?_
 refine zQ [0, 1, 10] ?_
 refine Zp (t := ((a0.length : Int) != (a1.length : Int))) rfl (fun c8 => ?_) (fun c8 => ?_)
 ·replace h := Zu c8 h
  refine zQ [4] ?_
  exact Yk [(vB false)]
 replace h := Zt c8 h
 refine Kf [0, 1] [] ?_
 refine Zh ?_
 refine zQd [0, 1, 5] [0, 1, 5] [] ?_
 obtain ⟨z7, hz7, h⟩ := bC h
 refine Za3 (J := (Jr (fun z7 => JR n (⟨26, [], [(4, (vB false))]⟩ : Env) (Zo O n []) n) (fun z7 => JX 0 n (⟨26, [], []⟩ : Env) (Zo O n []) n))) (z := z7) ?_ fun hw => ?_
 ·refine Qw hz7 (fun s0_ => ⟨26, [], [(0, (sL (eI .i64) a0)), (1, (sL (eI .i64) a1)), (5, (vI s0_))]⟩) (fun s0_ => (Zo O n [])) (Jr (fun z7 => JR n (⟨26, [], [(4, (vB false))]⟩ : Env) (Zo O n []) n) (fun z7 => JX 0 n (⟨26, [], []⟩ : Env) (Zo O n []) n)) ?_
  intro s0_ x0_ hs0_
  unfold Qx at hs0_
  try dsimp only
  refine Zh ?_
  refine zQ [0, 1, 5, 14] ?_
  refine Zp (t := (decide (s0_ < (a0.length : Int)))) rfl (fun c6 => ?_) (fun c6 => ?_)
  ·replace hs0_ := Zu c6 hs0_
   refine Kf [0, 1, 5] [] ?_
   refine Zh ?_
   refine Xg ?_
   obtain ⟨x3, hx3, ax3, bx3, cx3, hs0_⟩ := bE (f := (eI .i64)) Zkv (fun _ => rfl) (by decide) hs0_
   obtain ⟨x4, hx4, ax4, bx4, cx4, hs0_⟩ := bE (f := (eI .i64)) Zkv (fun _ => rfl) (by decide) hs0_
   refine Gc [0, 1, 5, 25] (Va Zy (by kernel_rfl) [] (by kernel_rfl) ?_)
   refine zF6 ax3 bx3 cx3 ax4 bx4 cx4 ?_
   refine Zp (t := (x3 != x4)) rfl (fun c5 => ?_) (fun c5 => ?_)
   ·replace hs0_ := Zu c5 hs0_
    refine zQ [4] ?_
    refine zW ?_
    exact zEy hs0_
   replace hs0_ := Zt c5 hs0_
   refine Kf [0, 1, 5] [] ?_
   refine zR ?_
   exact zEn hs0_
  replace hs0_ := Zt c6 hs0_
  exact zEx hs0_
 rcases z7 with z7 | z7
 ·dsimp only [Jr] at hw h
  refine Kx hw ?_
  try simp only [Xm, Yo, ↓reduceIte, Nat.reduceEqDiff]
  exact Zyw [(vB false)]
 dsimp only [Jr] at hw h
 refine Xz hw ?_
 try simp only [Xm, Yo, ↓reduceIte, Nat.reduceEqDiff]
 refine zD [] [] ?_
 refine zQ [4] ?_
 exact Yk [(vB true)]
theorem Ze2  {r : Bool} {O : Objs} {n : Nat} (h : Jm = some r) : GTo Try.prog 19 [] O n ((vB r)) O n := by
 unfold Jm at h
 refine zFn Try.call19 Try.func19 fun hU hN0 hN => ?_
 show W _ _ _ _ ⟨25, [], []⟩ (Zo O n []) _
 refine zQ [] ?_
 refine Zh ?_
 obtain ⟨y2, hy2, h⟩ := bC h
 refine zR ?_
 refine (Zfa  hy2).then ?_
 refine zS ?_
 refine zDs [1] [true, true, true] ?_
 obtain ⟨y5, hy5, h⟩ := bC h
 obtain ⟨y6, hy6, h⟩ := bC h
 refine zR ?_
 refine GCalls.dropL (l' := [some ⟨false, 79, 2, 1, [.row (n + 1) y2.classes.length, .row (n + 2) y2.places.length]⟩, some (oR 82 10 Zb y2.classes), some (oR 3 1 (eI .i64) y2.places), none, none]) hU rfl ?_ ((Vs hy5).then ?_)
 ·exact zSe
 refine zS ?_
 refine (K4 (i0 := n) (j0_0 := (n + 1)) (j0_1 := (n + 2)) (by omega) (by omega) (by omega) (by omega) (by omega) (by omega) (by simp only [push_cast, seval, ↓reduceIte, Zk, Qa, hN0, hN] <;> rfl) (by simp only [push_cast, seval, ↓reduceIte, Zk, Qa, hN0, hN] <;> rfl) (by simp only [push_cast, seval, ↓reduceIte, Zk, Qa, hN0, hN] <;> rfl) hy6).then ?_
 refine zS ?_
 refine zD [1, 2, 3] [true, false, false, false, false, true, true] ?_
 obtain ⟨z9, hz9, h⟩ := bC h
 refine V4 (E' := ⟨25, [], [(0, (vB z9))]⟩) (O' := (Zo O n [none, none, none, none, none, none, none, none])) (n0 := (n + 8)) ?_ ?_
 ·rcases Bool.eq_false_or_eq_true (y6.2.1 == 0) with c14 | c14
  ·replace hz9 := Zu c14 hz9
   obtain ⟨y12, hy12, hz9⟩ := bC hz9
   rcases Bool.eq_false_or_eq_true y12 with c15 | c15
   ·replace hz9 := Zu c15 hz9
    try rw [c15] at c14
    obtain ⟨y13, hy13, hz9⟩ := bC hz9
    refine Qn [some true, some true, some true, some true, some true, some true] c14 c15 ?_
    refine GCalls.lend (Yh hy12) rfl ?_ ?_
    ·exact Yy c14 c15
    refine zX2 c14 c15 ?_
    refine GCalls.lend (Vj hy13) rfl ?_ ?_
    ·exact Yy c14 c15
    refine zX2 c14 c15 ?_
    exact Zux hz9 c14 c15
   replace hz9 := Zt c15 hz9
   try rw [c15] at c14
   refine Qn [some true, some true, some true, some false, some false, some false] c14 c15 ?_
   refine GCalls.lend (Yh hy12) rfl ?_ ?_
   ·exact Yy c14 c15
   refine zX2 c14 c15 ?_
   exact Zux hz9 c14 c15
  replace hz9 := Zt c14 hz9
  refine Zau [some false, some false, some false, some false, some false, some false] c14 ?_
  exact Zat hz9 c14
 exact Yk [(vB z9)]
theorem Zf3 {a0 : (List Int)} {r : (List Int)} {O : Objs} {n : Nat} (h : Jv a0 = some r) : GTo Try.prog 52 [(sL (eI .u64) a0)] O n ((sL (eI .u64) r)) O n := by
 unfold Jv at h
 refine zFn Try.call52 Try.func52 fun hU hN0 hN => ?_
 show W _ _ _ _ ⟨24, [], [(0, (sL (eI .u64) a0))]⟩ (Zo O n []) _
 refine zQ [0] ?_
 refine zQ [0, 3] ?_
 refine Zh ?_
 refine zD [0, 3] [] ?_
 obtain ⟨z7, hz7, h⟩ := bC h
 refine Xz (E' := ⟨24, [], [(0, (sL (eI .u64) a0)), (3, (vI z7))]⟩) (O' := (Zo O n [])) (n0 := n) ?_ ?_
 ·refine Qw hz7 (fun s0_ => ⟨24, [], [(0, (sL (eI .u64) a0)), (3, (vI s0_))]⟩) (fun s0_ => (Zo O n [])) (fun z7 => JX 0 n (⟨24, [], [(0, (sL (eI .u64) a0)), (3, (vI z7))]⟩ : Env) (Zo O n []) n) ?_
  intro s0_ x0_ hs0_
  unfold Q4 at hs0_
  try dsimp only
  refine Zh ?_
  obtain ⟨z2, hz2, hs0_⟩ := bC hs0_
  refine V4 (E' := ⟨24, [], [(0, (sL (eI .u64) a0)), (3, (vI s0_)), (16, (vB z2))]⟩) (O' := (Zo O n [])) (n0 := n) ?_ ?_
  ·rcases Bool.eq_false_or_eq_true (decide (0 < s0_)) with c5 | c5
   ·replace hz2 := Zu c5 hz2
    obtain ⟨x4, hx4, ax4, bx4, cx4, hz2⟩ := bE (f := (eI .u64)) Zdo (fun _ => rfl) (by decide) hz2
    refine Z12 [some true, some true, some true, some true, some true, some true] c5 ax4 bx4 cx4 ?_
    exact Z4q hz2 c5 ax4 bx4 cx4
   replace hz2 := Zt c5 hz2
   refine Zau [some false, some false, some false, some false, some false, some false] c5 ?_
   exact Zat hz2 c5
  refine Zp (t := z2) rfl (fun c6 => ?_) (fun c6 => ?_)
  ·replace hs0_ := Zu c6 hs0_
   refine Kf [0, 3] [] ?_
   refine Xg ?_
   refine zR ?_
   exact zEn hs0_
  replace hs0_ := Zt c6 hs0_
  exact zEx hs0_
 try simp only [Xm, Yo, ↓reduceIte, Nat.reduceEqDiff]
 refine zD [0, 3] [] ?_
 refine zQ [0, 3, 4] ?_
 refine Zh ?_
 obtain ⟨l10, al10, bl10, cl10, gl10, h⟩ := bS (lo := none) (hi := (some (.i64, z7))) (f := (eI .u64)) rfl rfl Zi1 Zdo (fun _ => rfl) h
 obtain ⟨l11, pl11, ql11, el11, h⟩ := bA0 (k := l10.length) rfl h
 refine Z4u [] al10 bl10 cl10 gl10 pl11 ql11 el11 ?_
 refine Kv ⟨24, [], [(2, .row n l11.length)]⟩ (Zo O n [some (oR 40 1 (eI .u64) l11)]) (Yc hU rfl rfl ?_) ?_
 ·simp only [push_cast, seval, ↓reduceIte, Zk, al10, bl10, cl10, gl10, pl11, ql11, el11, hN0, hN]
 exact Yk [.row n l11.length]
def Gx (Xv : (Zg → Option Zg)) : Prop := ∀ {a0 : Zg} {r : Zg} {O : Objs} {n : Nat}, Xv a0 = some r → GTo Try.prog 31 [.agg (Zr a0)] O n (.agg (Zr r)) O n
theorem Ze5 {Xv : (Zg → Option Zg)} (Zec : Gx Xv) {a0 : Zg} {r : Zg} {O : Objs} {n : Nat} (h : Js Xv a0 = some r) : GTo Try.prog 31 [.agg (Zr a0)] O n (.agg (Zr r)) O n := by
 unfold Js at h
 refine zFn Try.call31 Try.func31 fun hU hN0 hN => ?_
 show W _ _ _ _ ⟨53, [], [(0, .agg (Zr a0))]⟩ (Zo O n []) _
 refine zQ [1, 2] ?_
 refine Zh ?_
 refine zQ [1, 2, 10] ?_
 refine Zp (t := (a0.Kind == 0)) rfl (fun c19 => ?_) (fun c19 => ?_)
 ·replace h := Zu c19 h
  refine Zh ?_
  refine zRd [2] [false, true] ?_
  exact Yk [.agg [(vI 0), nV, nV]]
 replace h := Zt c19 h
 refine Kf [1, 2] [true, true] ?_
 refine zQ [1, 2, 3] ?_
 refine zQ [1, 2, 3, 4] ?_
 refine Zh ?_
 refine zQd [1, 2, 3, 4, 5] [1, 2, 3, 4, 5] [true, true] ?_
 refine V3 (E' := (⟨53, [], [(1, .ref n 0), (2, .ref (n + 1) 0), (3, .row (n + 2) ([] : List Zg).length), (4, (vI 0)), (5, (vI 0))]⟩ : Env)) (O' := (Zo O n [some ⟨false, 29, 3, 1, (Zr a0)⟩, some ⟨false, 29, 3, 1, [(vI 0), nV, nV]⟩, some (oR 29 3 Zf ([] : List Zg)), none])) (n' := (n + 4)) ?_ ?_
 ·refine Fit2.trans (E' := (⟨53, [], [(1, .ref n 0), (2, .ref (n + 1) 0), (3, nV), (4, (vI 0)), (5, (vI 0))]⟩ : Env)) (O' := (Zo O n [some ⟨false, 29, 3, 1, (Zr a0)⟩, some ⟨false, 29, 3, 1, [(vI 0), nV, nV]⟩])) (n' := (n + 2)) (Fit2.of (Yc hU rfl rfl ?_) (by omega)) ?_
  ·exact zSe
  refine Fit2.trans (Zax 3 29 3 rfl (by omega)) ?_
  simp only [Qp, Xy, Gm, V1, List.set_cons_zero, List.set_cons_succ, List.cons_append, List.nil_append, List.length_cons, List.length_nil, Nat.zero_add, Nat.reduceAdd, Nat.reduceLT, Nat.add_assoc]
  refine Fit2.trans (E' := (⟨53, [], [(1, .ref n 0), (2, .ref (n + 1) 0), (3, .row (n + 2) ([] : List Zg).length), (4, (vI 0)), (5, (vI 0))]⟩ : Env)) (O' := (Zo O n [some ⟨false, 29, 3, 1, (Zr a0)⟩, some ⟨false, 29, 3, 1, [(vI 0), nV, nV]⟩, some (oR 29 3 Zf ([] : List Zg))])) (n' := (n + 3)) (Fit2.of (Yc hU rfl rfl ?_) (by omega)) ?_
  ·exact zSe
  refine Zaw (k := 3) (k' := 4) hU [0, 1, 2] [0, 1, 2, 0] rfl rfl rfl rfl ⟨rfl, rfl⟩ ?_
  exact zSe
 obtain ⟨z10, hz10, h⟩ := bC h
 refine Xz (E' := ⟨53, [], [(1, .ref n 0), (2, .ref (n + 1) 0), (3, .row (n + 2) z10.2.length), (4, (vI z10.1))]⟩) (O' := (Zo O n [some ⟨false, 29, 3, 1, (Zr a0)⟩, some ⟨false, 29, 3, 1, [(vI 0), nV, nV]⟩, some (oR 29 3 Zf z10.2), none])) (n0 := (n + 4)) ?_ ?_
 ·refine Qw hz10 (fun s0_ => ⟨53, [], [(1, .ref n 0), (2, .ref (n + 1) 0), (3, .row (n + 2) s0_.2.2.length), (4, (vI s0_.1)), (5, (vI s0_.2.1))]⟩) (fun s0_ => (Zo O n [some ⟨false, 29, 3, 1, (Zr a0)⟩, some ⟨false, 29, 3, 1, [(vI 0), nV, nV]⟩, some (oR 29 3 Zf s0_.2.2), none])) (fun z10 => JX 0 n (⟨53, [], [(1, .ref n 0), (2, .ref (n + 1) 0), (3, .row (n + 2) z10.2.length), (4, (vI z10.1))]⟩ : Env) (Zo O n [some ⟨false, 29, 3, 1, (Zr a0)⟩, some ⟨false, 29, 3, 1, [(vI 0), nV, nV]⟩, some (oR 29 3 Zf z10.2), none]) (n + 4)) ?_
  intro s0_ x0_ hs0_
  unfold Xi at hs0_
  try dsimp only
  refine Zh ?_
  refine zQ [1, 2, 3, 4, 5, 16] ?_
  refine Zp (t := (decide (s0_.2.1 < (a0.Kids.length : Int)))) rfl (fun c9 => ?_) (fun c9 => ?_)
  ·replace hs0_ := Zu c9 hs0_
   refine Kf [1, 2, 3, 4, 5] [true, true, true, false] ?_
   obtain ⟨z1, hz1, hs0_⟩ := bC hs0_
   refine V4 (E' := ⟨53, [], [(1, .ref n 0), (2, .ref (n + 1) 0), (3, .row (n + 2) z1.2.length), (4, (vI z1.1)), (5, (vI s0_.2.1))]⟩) (O' := (Zo O n [some ⟨false, 29, 3, 1, (Zr a0)⟩, some ⟨false, 29, 3, 1, [(vI 0), nV, nV]⟩, some (oR 29 3 Zf z1.2), none, none, none])) (n0 := (n + 6)) ?_ ?_
   ·refine Xg ?_
    refine Zh ?_
    obtain ⟨x4, hx4, ax4, bx4, cx4, hz1⟩ := bE (f := Zf) Zii (fun _ => rfl) (by decide) hz1
    obtain ⟨y5, hy5, hz1⟩ := bC hz1
    refine Z11 [] ax4 bx4 cx4 ?_
    refine (Zec hy5).then ?_
    refine zF3 ax4 bx4 cx4 ?_
    refine zDs [1, 2, 3, 4, 5, 6] [true, true, true, false, true] ?_
    obtain ⟨l7, pl7, ql7, el7, hz1⟩ := bA (k := 1) rfl hz1
    refine Zgw [] pl7 ql7 el7 ?_
    refine Kv ⟨53, [], [(1, .ref n 0), (2, .ref (n + 1) 0), (3, .row (n + 2) l7.length), (4, (vI s0_.1)), (5, (vI s0_.2.1)), (6, .ref (n + 4) 0)]⟩ (Zo O n [some ⟨false, 29, 3, 1, (Zr a0)⟩, some ⟨false, 29, 3, 1, [(vI 0), nV, nV]⟩, some (oR 29 3 Zf l7), none, some ⟨false, 29, 3, 1, (Zr y5)⟩, none]) (Yc hU rfl rfl ?_) ?_
    ·exact Zrt pl7 ql7 el7
    refine zQ [1, 2, 3, 4, 5, 31] ?_
    refine Zp (t := (y5.Kind != 0)) rfl (fun c8 => ?_) (fun c8 => ?_)
    ·replace hz1 := Zu c8 hz1
     refine zR ?_
     exact zEn hz1
    replace hz1 := Zt c8 hz1
    refine zK ?_
    exact zEn hz1
   refine zR ?_
   exact zEn hs0_
  replace hs0_ := Zt c9 hs0_
  exact zEx hs0_
 try simp only [Xm, Yo, ↓reduceIte, Nat.reduceEqDiff]
 refine zDs [1, 2, 3, 4] [true, true, true, false] ?_
 refine zQ [1, 2, 3, 4, 36] ?_
 refine Zp (t := (a0.Kind == 1)) rfl (fun c18 => ?_) (fun c18 => ?_)
 ·replace h := Zu c18 h
  refine Kv ⟨53, [], [(1, .ref n 0), (2, .ref (n + 1) 0), (3, (sL Zf z10.2)), (4, (vI z10.1))]⟩ (Zo O n [some ⟨false, 29, 3, 1, (Zr a0)⟩, some ⟨false, 29, 3, 1, [(vI 0), nV, nV]⟩, none, none]) (Yc hU rfl rfl ?_) ?_
  ·exact zSe
  refine Zh ?_
  obtain ⟨y14, hy14, h⟩ := bC h
  obtain ⟨l15, al15, bl15, cl15, gl15, h⟩ := bS (lo := none) (hi := (some (.i64, z10.1))) (f := Zf) rfl rfl Zn2 Zii (fun _ => rfl) h
  refine Zmu Zy (by kernel_rfl) [false, false, false, false, false, false, false, true] [] (by kernel_rfl) ?_
  refine zX4 al15 bl15 cl15 gl15 ?_
  refine PCall.of (Zf3 hy14) ?_
  refine zX4 al15 bl15 cl15 gl15 ?_
  refine zD [2] [false, true, false, false] ?_
  exact Yk [.agg [(vI 1), (sL (eI .u64) y14), (sL Zf l15)]]
 replace h := Zt c18 h
 refine Kf [1, 2, 3] [true, true, true, false] ?_
 refine zQ [1, 2, 3, 7] ?_
 refine Zh ?_
 obtain ⟨l17, pl17, ql17, el17, h⟩ := bA0 (k := a0.Words.length) rfl h
 refine Zgw [] pl17 ql17 el17 ?_
 refine Kv ⟨53, [], [(1, .ref n 0), (2, .ref (n + 1) 0), (3, .row (n + 2) z10.2.length), (7, .row (n + 4) l17.length)]⟩ (Zo O n [some ⟨false, 29, 3, 1, (Zr a0)⟩, some ⟨false, 29, 3, 1, [(vI 0), nV, nV]⟩, some (oR 29 3 Zf z10.2), none, some (oR 40 1 (eI .u64) l17)]) (Yc hU rfl rfl ?_) ?_
 ·exact Zrt pl17 ql17 el17
 refine Zh ?_
 refine zRd [2] [false, true, true, false, true] ?_
 exact Yk [.agg [(vI a0.Kind), .row (n + 4) l17.length, .row (n + 2) z10.2.length]]
theorem Zdp : ∀ k, (Gx (Yt k)) := fun k => by
 induction k with
 | zero => exact @fun a0 r O n h => (nomatch (show (none : Option _) = some _ from h))
 | succ k ih => exact @fun a0 r O n h => Ze5 (ih)  h
theorem Zf1 {a0 : Zg} {r : Zg} {O : Objs} {n : Nat} (h : Ub a0 = some r) : GTo Try.prog 31 [.agg (Zr a0)] O n (.agg (Zr r)) O n := by
 obtain ⟨k, hk⟩ := Zgn h
 exact (Zdp k)  hk
theorem Zf0 {a0 : (List Int)} {a1 : (List Int)} {r : Bool} {O : Objs} {n : Nat} (h : Ju a0 a1 = some r) : GTo Try.prog 51 [(sL (eI .u64) a0), (sL (eI .u64) a1)] O n ((vB r)) O n := by
 unfold Ju at h
 refine zFn Try.call51 Try.func51 fun hU hN0 hN => ?_
 show W _ _ _ _ ⟨26, [], [(0, (sL (eI .u64) a0)), (1, (sL (eI .u64) a1))]⟩ (Zo O n []) _
 refine zQ [0, 1] ?_
 refine Zh ?_
 refine zQ [0, 1, 10] ?_
 refine Zp (t := ((a0.length : Int) != (a1.length : Int))) rfl (fun c8 => ?_) (fun c8 => ?_)
 ·replace h := Zu c8 h
  refine zQ [4] ?_
  exact Yk [(vB false)]
 replace h := Zt c8 h
 refine Kf [0, 1] [] ?_
 refine Zh ?_
 refine zQd [0, 1, 5] [0, 1, 5] [] ?_
 obtain ⟨z7, hz7, h⟩ := bC h
 refine Za3 (J := (Jr (fun z7 => JR n (⟨26, [], [(4, (vB false))]⟩ : Env) (Zo O n []) n) (fun z7 => JX 0 n (⟨26, [], []⟩ : Env) (Zo O n []) n))) (z := z7) ?_ fun hw => ?_
 ·refine Qw hz7 (fun s0_ => ⟨26, [], [(0, (sL (eI .u64) a0)), (1, (sL (eI .u64) a1)), (5, (vI s0_))]⟩) (fun s0_ => (Zo O n [])) (Jr (fun z7 => JR n (⟨26, [], [(4, (vB false))]⟩ : Env) (Zo O n []) n) (fun z7 => JX 0 n (⟨26, [], []⟩ : Env) (Zo O n []) n)) ?_
  intro s0_ x0_ hs0_
  unfold Q3 at hs0_
  try dsimp only
  refine Zh ?_
  refine zQ [0, 1, 5, 14] ?_
  refine Zp (t := (decide (s0_ < (a0.length : Int)))) rfl (fun c6 => ?_) (fun c6 => ?_)
  ·replace hs0_ := Zu c6 hs0_
   refine Kf [0, 1, 5] [] ?_
   refine Zh ?_
   refine Xg ?_
   obtain ⟨x3, hx3, ax3, bx3, cx3, hs0_⟩ := bE (f := (eI .u64)) Zdo (fun _ => rfl) (by decide) hs0_
   obtain ⟨x4, hx4, ax4, bx4, cx4, hs0_⟩ := bE (f := (eI .u64)) Zdo (fun _ => rfl) (by decide) hs0_
   refine Gc [0, 1, 5, 25] (Va Zy (by kernel_rfl) [] (by kernel_rfl) ?_)
   refine zF6 ax3 bx3 cx3 ax4 bx4 cx4 ?_
   refine Zp (t := (x3 != x4)) rfl (fun c5 => ?_) (fun c5 => ?_)
   ·replace hs0_ := Zu c5 hs0_
    refine zQ [4] ?_
    refine zW ?_
    exact zEy hs0_
   replace hs0_ := Zt c5 hs0_
   refine Kf [0, 1, 5] [] ?_
   refine zR ?_
   exact zEn hs0_
  replace hs0_ := Zt c6 hs0_
  exact zEx hs0_
 rcases z7 with z7 | z7
 ·dsimp only [Jr] at hw h
  refine Kx hw ?_
  try simp only [Xm, Yo, ↓reduceIte, Nat.reduceEqDiff]
  exact Zyw [(vB false)]
 dsimp only [Jr] at hw h
 refine Xz hw ?_
 try simp only [Xm, Yo, ↓reduceIte, Nat.reduceEqDiff]
 refine zD [] [] ?_
 refine zQ [4] ?_
 exact Yk [(vB true)]
def Gy (Xw : (Zg → Zg → Option Bool)) : Prop := ∀ {a0 : Zg} {a1 : Zg} {r : Bool} {O : Objs} {n : Nat}, Xw a0 a1 = some r → GTo Try.prog 30 [.agg (Zr a0), .agg (Zr a1)] O n ((vB r)) O n
theorem Ze6 {Xw : (Zg → Zg → Option Bool)} (Zed : Gy Xw) {a0 : Zg} {a1 : Zg} {r : Bool} {O : Objs} {n : Nat} (h : Jt Xw a0 a1 = some r) : GTo Try.prog 30 [.agg (Zr a0), .agg (Zr a1)] O n ((vB r)) O n := by
 unfold Jt at h
 refine zFn Try.call30 Try.func30 fun hU hN0 hN => ?_
 show W _ _ _ _ ⟨47, [], [(0, .agg (Zr a0)), (1, .agg (Zr a1))]⟩ (Zo O n []) _
 refine zQ [2, 3] ?_
 refine Zh ?_
 obtain ⟨z2, hz2, h⟩ := bC h
 refine V4 (E' := ⟨47, [], [(2, .ref n 0), (3, .ref (n + 1) 0), (27, (vB z2))]⟩) (O' := (Zo O n [some ⟨false, 29, 3, 1, (Zr a0)⟩, some ⟨false, 29, 3, 1, (Zr a1)⟩])) (n0 := (n + 2)) ?_ ?_
 ·rcases Bool.eq_false_or_eq_true (a0.Kind != a1.Kind) with c5 | c5
  ·replace hz2 := Zu c5 hz2
   refine Zau [some false, some false, some false, some false, some false, some false, some false, some false, some false, some false, some false, some false, some false] c5 ?_
   exact Zat hz2 c5
  replace hz2 := Zt c5 hz2
  obtain ⟨y4, hy4, hz2⟩ := bC hz2
  refine Zau [some true, some true, some true, some true, some true, some true, none, none, none, none, none, none, none] c5 ?_
  refine zG ?_
  refine (Zf0 hy4).then ?_
  refine zX1 c5 ?_
  refine zG ?_
  exact Zat hz2 c5
 refine Zp (t := z2) rfl (fun c15 => ?_) (fun c15 => ?_)
 ·replace h := Zu c15 h
  refine zQ [4] ?_
  exact Yk [(vB false)]
 replace h := Zt c15 h
 refine Kf [2, 3] [true, true] ?_
 refine Zh ?_
 refine zQd [2, 3, 5] [2, 3, 5] [true, true] ?_
 obtain ⟨z14, hz14, h⟩ := bC h
 refine Za3 (J := (Jr (fun z14 => JR n (⟨47, [], [(4, (vB false))]⟩ : Env) (Zo O n [none, none]) (n + 2)) (fun z14 => JX 0 n (⟨47, [], []⟩ : Env) (Zo O n [none, none]) (n + 2)))) (z := z14) ?_ fun hw => ?_
 ·refine Qw hz14 (fun s0_ => ⟨47, [], [(2, .ref n 0), (3, .ref (n + 1) 0), (5, (vI s0_))]⟩) (fun s0_ => (Zo O n [some ⟨false, 29, 3, 1, (Zr a0)⟩, some ⟨false, 29, 3, 1, (Zr a1)⟩])) (Jr (fun z14 => JR n (⟨47, [], [(4, (vB false))]⟩ : Env) (Zo O n [none, none]) (n + 2)) (fun z14 => JX 0 n (⟨47, [], []⟩ : Env) (Zo O n [none, none]) (n + 2))) ?_
  intro s0_ x0_ hs0_
  unfold Q0 at hs0_
  try dsimp only
  refine Zh ?_
  refine zQ [2, 3, 5, 32] ?_
  refine Zp (t := (decide (s0_ < (a0.Kids.length : Int)))) rfl (fun c13 => ?_) (fun c13 => ?_)
  ·replace hs0_ := Zu c13 hs0_
   refine Kf [2, 3, 5] [true, true] ?_
   refine Zh ?_
   refine Xg ?_
   refine Zh ?_
   obtain ⟨x9, hx9, ax9, bx9, cx9, hs0_⟩ := bE (f := Zf) Zii (fun _ => rfl) (by decide) hs0_
   obtain ⟨x10, hx10, ax10, bx10, cx10, hs0_⟩ := bE (f := Zf) Zii (fun _ => rfl) (by decide) hs0_
   obtain ⟨y11, hy11, hs0_⟩ := bC hs0_
   refine Va Zy (by kernel_rfl) [] (by kernel_rfl) ?_
   refine zF6 ax9 bx9 cx9 ax10 bx10 cx10 ?_
   refine PCall.of (Zed hy11) ?_
   refine zF6 ax9 bx9 cx9 ax10 bx10 cx10 ?_
   refine zD [2, 3, 5, 46] [true, true] ?_
   refine Zp (t := (!y11)) rfl (fun c12 => ?_) (fun c12 => ?_)
   ·replace hs0_ := Zu c12 hs0_
    refine zQ [4] ?_
    refine zW ?_
    exact zEy hs0_
   replace hs0_ := Zt c12 hs0_
   refine Kf [2, 3, 5] [true, true] ?_
   refine zR ?_
   exact zEn hs0_
  replace hs0_ := Zt c13 hs0_
  exact zEx hs0_
 rcases z14 with z14 | z14
 ·dsimp only [Jr] at hw h
  refine Kx hw ?_
  try simp only [Xm, Yo, ↓reduceIte, Nat.reduceEqDiff]
  exact Zyw [(vB false)]
 dsimp only [Jr] at hw h
 refine Xz hw ?_
 try simp only [Xm, Yo, ↓reduceIte, Nat.reduceEqDiff]
 refine zD [] [false, false] ?_
 refine zQ [4] ?_
 exact Yk [(vB true)]
theorem Zdq : ∀ k, (Gy (X3 k)) := fun k => by
 induction k with
 | zero => exact @fun a0 a1 r O n h => (nomatch (show (none : Option _) = some _ from h))
 | succ k ih => exact @fun a0 a1 r O n h => Ze6 (ih)  h
theorem Zf2 {a0 : Zg} {a1 : Zg} {r : Bool} {O : Objs} {n : Nat} (h : Uc a0 a1 = some r) : GTo Try.prog 30 [.agg (Zr a0), .agg (Zr a1)] O n ((vB r)) O n := by
 obtain ⟨k, hk⟩ := Zgn h
 exact (Zdq k)  hk
theorem Ze3 {a0 : (List Zg)} {a1 : Zg} {r : ((List Zg) × Int)} {O : Objs} {n : Nat} {t0 : Nat} (ht0 : t0 < n) (hot0 : O t0 = some (oR 29 3 Zf a0)) (h : Jn a0 a1 = some r) : GTo Try.prog 17 [.row t0 a0.length, .agg (Zr a1)] O n (.tup [.row n r.1.length, (vI r.2)]) (Zo (O.upd t0 none) n [some (oR 29 3 Zf r.1)]) (n + 1) := by
 unfold Jn at h
 refine Zd1 Zy Try.call17 Try.func17 rfl (Nat.le_of_ble_eq_true rfl) (by omega) fun hU => ?_
 have e0 := Zmq (ba := n) (E := ⟨30, [], [(0, .row t0 a0.length), (1, .agg [.val (.int .i64 a1.Kind), .sl a1.Words.length (fl (eI .u64) a1.Words), .sl a1.Kids.length (fl Zf a1.Kids)])]⟩) (O := (Zo O n [])) (n := n) (j := t0) (len := a0.length) (q := ⟨true, 29, 3, a0.length, fl Zf a0⟩) 0 rfl (by rw [Y7 _ ht0]; exact hot0) (by omega)
 simp only [Qq _ _ ht0, Qp, Xy, List.cons_append, List.nil_append, List.length_cons, List.length_nil, Nat.zero_add, Nat.reduceAdd, Nat.add_assoc] at e0
 refine V3 e0 ?_
 have hU := (Und.drop hU t0)
 have hN0 : (O.upd t0 none) n = none := hU.fresh _ (Nat.le_refl _)
 have hN : ∀ k, (O.upd t0 none) (n + k) = none := fun k => hU.fresh _ (Nat.le_add_right _ _)
 show W _ _ _ _ ⟨30, [], [(0, .row n a0.length), (0, .row t0 a0.length), (1, .agg (Zr a1))]⟩ (Zo (O.upd t0 none) n [some (oR 29 3 Zf a0)]) _
 refine zQ [0, 3] ?_
 refine Zh ?_
 obtain ⟨y2, hy2, h⟩ := bC h
 refine zCd (Zf1 hy2) [0, 6] [true, false, true] ?_
 refine Zh ?_
 refine zQd [0, 6, 7] [0, 6, 7] [true, false, true] ?_
 obtain ⟨z9, hz9, h⟩ := bC h
 refine Za3 (J := (Jr (fun z9 => JR n (⟨30, [], [(4, .row n a0.length), (5, (vI z9))]⟩ : Env) (Zo (O.upd t0 none) n [some (oR 29 3 Zf a0), none, none]) (n + 3)) (fun z9 => JX 0 n (⟨30, [], [(0, .row n a0.length), (6, .ref (n + 2) 0)]⟩ : Env) (Zo (O.upd t0 none) n [some (oR 29 3 Zf a0), none, some ⟨false, 29, 3, 1, (Zr y2)⟩]) (n + 3)))) (z := z9) ?_ fun hw => ?_
 ·refine Qw hz9 (fun s0_ => ⟨30, [], [(0, .row n a0.length), (6, .ref (n + 2) 0), (7, (vI s0_))]⟩) (fun s0_ => (Zo (O.upd t0 none) n [some (oR 29 3 Zf a0), none, some ⟨false, 29, 3, 1, (Zr y2)⟩])) (Jr (fun z9 => JR n (⟨30, [], [(4, .row n a0.length), (5, (vI z9))]⟩ : Env) (Zo (O.upd t0 none) n [some (oR 29 3 Zf a0), none, none]) (n + 3)) (fun z9 => JX 0 n (⟨30, [], [(0, .row n a0.length), (6, .ref (n + 2) 0)]⟩ : Env) (Zo (O.upd t0 none) n [some (oR 29 3 Zf a0), none, some ⟨false, 29, 3, 1, (Zr y2)⟩]) (n + 3))) ?_
  intro s0_ x0_ hs0_
  unfold Ye at hs0_
  try dsimp only
  refine Zh ?_
  refine zQ [0, 6, 7, 13] ?_
  refine Zp (t := (decide (s0_ < (a0.length : Int)))) rfl (fun c8 => ?_) (fun c8 => ?_)
  ·replace hs0_ := Zu c8 hs0_
   refine Kf [0, 6, 7] [true, false, true] ?_
   refine Zh ?_
   refine Xg ?_
   refine Zh ?_
   obtain ⟨x5, hx5, ax5, bx5, cx5, hs0_⟩ := bE (f := Zf) Zii (fun _ => rfl) (by decide) hs0_
   obtain ⟨y6, hy6, hs0_⟩ := bC hs0_
   refine Va Zy (by kernel_rfl) [] (by kernel_rfl) ?_
   refine zF3 ax5 bx5 cx5 ?_
   refine PCall.of (Zf2 hy6) ?_
   refine zF3 ax5 bx5 cx5 ?_
   refine zD [0, 6, 7, 21] [true, false, true] ?_
   refine Zp (t := y6) rfl (fun c7 => ?_) (fun c7 => ?_)
   ·replace hs0_ := Zu c7 hs0_
    refine zQ [4, 5] ?_
    refine zW ?_
    exact zEy hs0_
   replace hs0_ := Zt c7 hs0_
   refine Kf [0, 6, 7] [true, false, true] ?_
   refine zR ?_
   exact zEn hs0_
  replace hs0_ := Zt c8 hs0_
  exact zEx hs0_
 rcases z9 with z9 | z9
 ·dsimp only [Jr] at hw h
  refine Kx hw ?_
  try simp only [Xm, Yo, ↓reduceIte, Nat.reduceEqDiff]
  obtain rfl := sI h
  refine Zd0 (k := 1) (L3 := [some (oR 29 3 Zf a0), none]) (E2 := (⟨30, [], [(4, .row n a0.length), (5, (vI z9))]⟩ : Env)) (n3 := (n + 2)) (.inr rfl) hU rfl [.row n a0.length, (vI z9)] ?_ ?_
  ·refine Fit2.trans (E' := (⟨30, [], [(4, .row n a0.length), (5, (vI z9))]⟩ : Env)) (O' := (Zo (O.upd t0 none) n [some (oR 29 3 Zf a0), none, none])) (n' := (n + 3)) (Fit2.of (Yc hU rfl rfl ?_) (by omega)) ?_
   ·exact zSe
   refine Zaw (k := 3) (k' := 2) hU [0, 1, 1] [0, 0] rfl rfl rfl rfl ⟨rfl, rfl⟩ ?_
   exact zSe
  simp only [push_cast, seval, ↓reduceIte, Zk, Try.results17, hN0, hN]
 dsimp only [Jr] at hw h
 refine Xz hw ?_
 try simp only [Xm, Yo, ↓reduceIte, Nat.reduceEqDiff]
 refine zDs [0, 6] [true, false, true] ?_
 obtain ⟨l11, pl11, ql11, el11, h⟩ := bA (k := 1) rfl h
 refine Zgw [] pl11 ql11 el11 ?_
 refine Kv ⟨30, [], [(4, .row n l11.length), (5, (vI (a0.length : Int)))]⟩ (Zo (O.upd t0 none) n [some (oR 29 3 Zf l11), none, none, none]) (Yc hU rfl rfl ?_) ?_
 ·exact Zrt pl11 ql11 el11
 refine zW ?_
 obtain rfl := sI h
 refine Zd0 (k := 1) (L3 := [some (oR 29 3 Zf l11), none]) (E2 := (⟨30, [], [(4, .row n l11.length), (5, (vI (a0.length : Int)))]⟩ : Env)) (n3 := (n + 2)) (.inr rfl) hU rfl [.row n l11.length, (vI (a0.length : Int))] ?_ ?_
 ·refine Fit2.trans (E' := (⟨30, [], [(4, .row n l11.length), (5, (vI (a0.length : Int)))]⟩ : Env)) (O' := (Zo (O.upd t0 none) n [some (oR 29 3 Zf l11), none, none, none])) (n' := (n + 4)) (Fit2.of (Yc hU rfl rfl ?_) (by omega)) ?_
  ·exact zSe
  refine Zaw (k := 4) (k' := 2) hU [0, 1, 1, 1] [0, 0] rfl rfl rfl rfl ⟨rfl, rfl⟩ ?_
  exact zSe
 simp only [push_cast, seval, ↓reduceIte, Zk, Try.results17, hN0, hN]
theorem Zdr {a0 : (List Zg)} {a1 : (List Zg)} {r : ((List Zg) × (List Int))} {O : Objs} {n : Nat} {t0 : Nat} (ht0 : t0 < n) (hot0 : O t0 = some (oR 29 3 Zf a0)) (h : Q5 a0 a1 = some r) : GTo Try.prog 20 [.row t0 a0.length, (sL Zf a1)] O n (.tup [(sL Zf r.1), (sL (eI .i64) r.2)]) (Zo (O.upd t0 none) n []) (n + 0) := by
 unfold Q5 at h
 refine Zd1 Zy Try.call20 Try.func20 rfl (Nat.le_of_ble_eq_true rfl) (by omega) fun hU => ?_
 have e0 := Zmq (ba := n) (E := ⟨32, [], [(0, .row t0 a0.length), (1, .sl a1.length (fl Zf a1))]⟩) (O := (Zo O n [])) (n := n) (j := t0) (len := a0.length) (q := ⟨true, 29, 3, a0.length, fl Zf a0⟩) 0 rfl (by rw [Y7 _ ht0]; exact hot0) (by omega)
 simp only [Qq _ _ ht0, Qp, Xy, List.cons_append, List.nil_append, List.length_cons, List.length_nil, Nat.zero_add, Nat.reduceAdd, Nat.add_assoc] at e0
 refine V3 e0 ?_
 have hU := (Und.drop hU t0)
 have hN0 : (O.upd t0 none) n = none := hU.fresh _ (Nat.le_refl _)
 have hN : ∀ k, (O.upd t0 none) (n + k) = none := fun k => hU.fresh _ (Nat.le_add_right _ _)
 show W _ _ _ _ ⟨32, [], [(0, .row n a0.length), (0, .row t0 a0.length), (1, (sL Zf a1))]⟩ (Zo (O.upd t0 none) n [some (oR 29 3 Zf a0)]) _
 refine zQ [0, 1] ?_
 refine zQ [0, 1, 6] ?_
 refine Zh ?_
 refine zQd [0, 1, 6, 7] [0, 1, 6, 7] [true] ?_
 refine V3 (E' := (⟨32, [], [(0, .row (n + 1) a0.length), (1, (sL Zf a1)), (6, .row (n + 2) ([] : List Int).length), (7, (vI 0))]⟩ : Env)) (O' := (Zo (O.upd t0 none) n [none, some (oR 29 3 Zf a0), some (oR 3 1 (eI .i64) ([] : List Int)), none])) (n' := (n + 4)) ?_ ?_
 ·refine Fit2.trans (E' := (⟨32, [], [(0, .row n a0.length), (1, (sL Zf a1)), (6, nV), (7, (vI 0))]⟩ : Env)) (O' := (Zo (O.upd t0 none) n [some (oR 29 3 Zf a0)])) (n' := (n + 1)) (Fit2.of (Yc hU rfl rfl ?_) (by omega)) ?_
  ·exact zSe
  refine Fit2.trans (Zax 6 3 1 rfl (by omega)) ?_
  simp only [Qp, Xy, Gm, V1, List.set_cons_zero, List.set_cons_succ, List.cons_append, List.nil_append, List.length_cons, List.length_nil, Nat.zero_add, Nat.reduceAdd, Nat.reduceLT, Nat.add_assoc]
  refine Fit2.trans (E' := (⟨32, [], [(0, .row n a0.length), (1, (sL Zf a1)), (6, .row (n + 1) ([] : List Int).length), (7, (vI 0))]⟩ : Env)) (O' := (Zo (O.upd t0 none) n [some (oR 29 3 Zf a0), some (oR 3 1 (eI .i64) ([] : List Int))])) (n' := (n + 2)) (Fit2.of (Yc hU rfl rfl ?_) (by omega)) ?_
  ·exact zSe
  refine Zaw (k := 2) (k' := 4) hU [1, 2] [0, 0, 1, 0] rfl rfl rfl rfl ⟨rfl, rfl⟩ ?_
  exact zSe
 obtain ⟨z7, hz7, h⟩ := bC h
 refine Xz (E' := ⟨32, [], [(0, .row (n + 1) z7.1.length), (6, .row (n + 2) z7.2.length)]⟩) (O' := (Zo (O.upd t0 none) n [none, some (oR 29 3 Zf z7.1), some (oR 3 1 (eI .i64) z7.2), none])) (n0 := (n + 4)) ?_ ?_
 ·refine Qw hz7 (fun s0_ => ⟨32, [], [(0, .row (n + 1) s0_.2.1.length), (1, (sL Zf a1)), (6, .row (n + 2) s0_.2.2.length), (7, (vI s0_.1))]⟩) (fun s0_ => (Zo (O.upd t0 none) n [none, some (oR 29 3 Zf s0_.2.1), some (oR 3 1 (eI .i64) s0_.2.2), none])) (fun z7 => JX 0 n (⟨32, [], [(0, .row (n + 1) z7.1.length), (6, .row (n + 2) z7.2.length)]⟩ : Env) (Zo (O.upd t0 none) n [none, some (oR 29 3 Zf z7.1), some (oR 3 1 (eI .i64) z7.2), none]) (n + 4)) ?_
  intro s0_ x0_ hs0_
  unfold Xf at hs0_
  try dsimp only
  refine Zh ?_
  refine zQ [0, 1, 6, 7, 13] ?_
  refine Zp (t := (decide (s0_.1 < (a1.length : Int)))) rfl (fun c6 => ?_) (fun c6 => ?_)
  ·replace hs0_ := Zu c6 hs0_
   refine Kf [0, 1, 6, 7] [false, true, true, false] ?_
   refine Zh ?_
   refine Xg ?_
   refine Zh ?_
   obtain ⟨x3, hx3, ax3, bx3, cx3, hs0_⟩ := bE (f := Zf) Zii (fun _ => rfl) (by decide) hs0_
   obtain ⟨y4, hy4, hs0_⟩ := bC hs0_
   refine Z11 [] ax3 bx3 cx3 ?_
   refine (Ze3 (t0 := (n + 1)) (by omega) (by simp only [push_cast, Nat.reduceAdd, Nat.reduceSub, Nat.reduceMul, Nat.reduceLeDiff, Nat.reduceLT, Nat.reduceEqDiff, ↓reduceIte, reduceCtorEq, Int.reduceBEq, Int.reduceBNe, Nat.reduceBEq, Int.reduceLE, Int.reduceLT, Int.reduceEq, Int.reduceNe, Int.reduceNeg, Nat.reduceDiv, Nat.reduceMod, Nat.reducePow, Zk, Qa, ax3, bx3, cx3, hN0, hN] <;> rfl) hy4).then ?_
   refine zF3 ax3 bx3 cx3 ?_
   refine zD [1, 6, 7, 8, 9] [false, false, true, false, true] ?_
   refine zQ [0, 1, 6, 7, 9] ?_
   obtain ⟨l5, pl5, ql5, el5, hs0_⟩ := bA (k := 1) rfl hs0_
   refine Zgw [] pl5 ql5 el5 ?_
   refine Kv ⟨32, [], [(0, .row (n + 4) y4.1.length), (1, (sL Zf a1)), (6, .row (n + 2) l5.length), (7, (vI s0_.1))]⟩ (Zo (O.upd t0 none) n [none, none, some (oR 3 1 (eI .i64) l5), none, some (oR 29 3 Zf y4.1), none]) (Yc hU rfl rfl ?_) ?_
   ·exact Zrt pl5 ql5 el5
   refine zR ?_
   obtain rfl := sI hs0_
   refine And.intro rfl ?_
   refine Fit2.trans (E' := (⟨32, [], [(0, .row (n + 4) y4.1.length), (1, (sL Zf a1)), (6, .row (n + 2) l5.length), (7, (vI (IntKind.i64.wrap (s0_.1 + 1))))]⟩ : Env)) (O' := (Zo (O.upd t0 none) n [none, none, some (oR 3 1 (eI .i64) l5), none, some (oR 29 3 Zf y4.1), none])) (n' := (n + 6)) (Fit2.of (Yc hU rfl rfl ?_) (by omega)) ?_
   ·exact zSe
   refine Zaw (k := 6) (k' := 4) hU [3, 3, 2, 3, 1, 3] [0, 4, 2, 0] rfl rfl rfl rfl ⟨rfl, rfl⟩ ?_
   exact zSe
  replace hs0_ := Zt c6 hs0_
  exact zEx hs0_
 try simp only [Xm, Yo, ↓reduceIte, Nat.reduceEqDiff]
 refine zD [0, 6] [false, true, true, false] ?_
 refine zQ [4, 5] ?_
 refine zW ?_
 obtain rfl := sI h
 refine Zd0 (k := 0) (L3 := [some (oR 29 3 Zf z7.1), some (oR 3 1 (eI .i64) z7.2), none]) (E2 := (⟨32, [], [(4, .row n z7.1.length), (5, .row (n + 1) z7.2.length)]⟩ : Env)) (n3 := (n + 3)) (.inr rfl) hU rfl [.row n z7.1.length, .row (n + 1) z7.2.length] ?_ ?_
 ·refine Fit2.trans (E' := (⟨32, [], [(4, .row (n + 1) z7.1.length), (5, .row (n + 2) z7.2.length)]⟩ : Env)) (O' := (Zo (O.upd t0 none) n [none, some (oR 29 3 Zf z7.1), some (oR 3 1 (eI .i64) z7.2), none])) (n' := (n + 4)) (Fit2.of (Yc hU rfl rfl ?_) (by omega)) ?_
  ·exact zSe
  refine Zaw (k := 4) (k' := 3) hU [2, 0, 1, 2] [1, 2, 0] rfl rfl rfl rfl ⟨rfl, rfl⟩ ?_
  exact zSe
 simp only [push_cast, seval, ↓reduceIte, Zk, Try.results20, hN0, hN]
theorem Zb9 {a0 : Int} {a1 : Int} {r : Bool} {O : Objs} {n : Nat} (h : Ja a0 a1 = some r) : GTo Try.prog 5 [(vI a0), .val (.int .u64 a1)] O n ((vB r)) O n := by
 unfold Ja at h
 refine zFn Try.call5 Try.func5 fun hU hN0 hN => ?_
 show W _ _ _ _ ⟨102, [], [(0, (vI a0)), (1, .val (.int .u64 a1))]⟩ (Zo O n []) _
 refine zQ [0, 1] ?_
 refine zQ [0, 1] ?_
 refine Zh ?_
 refine zR ?_
 refine Kv ⟨102, [], [(0, (vI (IntKind.i64.wrap (Xr .i64 a0 127)))), (1, .val (.int .u64 a1)), (5, .row n ([(IntKind.u64.wrap (Zgo .u64 21474836481 (IntKind.u64.wrap ((IntKind.u64.wrap (IntKind.i64.wrap (Xr .i64 a0 127))) * 2 ^ min (Int.toNat 35) 64))))] : List Int).length)]⟩ (Zo O n [some (oR 40 1 (eI .u64) ([(IntKind.u64.wrap (Zgo .u64 21474836481 (IntKind.u64.wrap ((IntKind.u64.wrap (IntKind.i64.wrap (Xr .i64 a0 127))) * 2 ^ min (Int.toNat 35) 64))))] : List Int))]) (Yc hU rfl rfl ?_) ?_
 ·exact zSe
 refine Zh ?_
 refine zQd [0, 1, 5, 6] [0, 1, 5, 6] [true] ?_
 obtain ⟨z3, hz3, h⟩ := bC h
 refine Xz (E' := ⟨102, [], [(0, (vI (IntKind.i64.wrap (Xr .i64 a0 127)))), (5, .row n z3.length)]⟩) (O' := (Zo O n [some (oR 40 1 (eI .u64) z3)])) (n0 := (n + 1)) ?_ ?_
 ·refine Qw hz3 (fun s0_ => ⟨102, [], [(0, (vI (IntKind.i64.wrap (Xr .i64 a0 127)))), (1, .val (.int .u64 a1)), (5, .row n s0_.2.length), (6, (vI s0_.1))]⟩) (fun s0_ => (Zo O n [some (oR 40 1 (eI .u64) s0_.2)])) (fun z3 => JX 0 n (⟨102, [], [(0, (vI (IntKind.i64.wrap (Xr .i64 a0 127)))), (5, .row n z3.length)]⟩ : Env) (Zo O n [some (oR 40 1 (eI .u64) z3)]) (n + 1)) ?_
  intro s0_ x0_ hs0_
  unfold Yw at hs0_
  try dsimp only
  refine Zh ?_
  refine zQ [0, 1, 5, 6, 25] ?_
  refine Zp (t := (decide (s0_.1 < (IntKind.i64.wrap (Xr .i64 a0 127))))) rfl (fun c2 => ?_) (fun c2 => ?_)
  ·replace hs0_ := Zu c2 hs0_
   refine Kf [0, 1, 5, 6] [true] ?_
   refine Zh ?_
   refine Xg ?_
   obtain ⟨l1, pl1, ql1, el1, hs0_⟩ := bA (k := 1) rfl hs0_
   refine Zgw [] pl1 ql1 el1 ?_
   refine Kv ⟨102, [], [(0, (vI (IntKind.i64.wrap (Xr .i64 a0 127)))), (1, .val (.int .u64 a1)), (5, .row n l1.length), (6, (vI s0_.1))]⟩ (Zo O n [some (oR 40 1 (eI .u64) l1), none]) (Yc hU rfl rfl ?_) ?_
   ·exact Zrt pl1 ql1 el1
   refine zR ?_
   exact zEn hs0_
  replace hs0_ := Zt c2 hs0_
  exact zEx hs0_
 try simp only [Xm, Yo, ↓reduceIte, Nat.reduceEqDiff]
 refine zD [0, 5] [true] ?_
 refine zQ [0, 5, 7] ?_
 refine zQ [0, 5, 7, 8] ?_
 refine Zh ?_
 refine zQd [0, 5, 7, 8, 9] [0, 5, 7, 8, 9] [true] ?_
 refine V3 (E' := (⟨102, [], [(0, (vI (IntKind.i64.wrap (Xr .i64 a0 127)))), (5, .row n z3.length), (7, nV), (8, .row (n + 1) ([] : List Zg).length), (9, (vI 0))]⟩ : Env)) (O' := (Zo O n [some (oR 40 1 (eI .u64) z3), some (oR 29 3 Zf ([] : List Zg)), none])) (n' := (n + 3)) ?_ ?_
 ·refine Fit2.trans (E' := (⟨102, [], [(0, (vI (IntKind.i64.wrap (Xr .i64 a0 127)))), (5, .row n z3.length), (7, nV), (8, nV), (9, (vI 0))]⟩ : Env)) (O' := (Zo O n [some (oR 40 1 (eI .u64) z3)])) (n' := (n + 1)) (Fit2.of (Yc hU rfl rfl ?_) (by omega)) ?_
  ·exact zSe
  refine Fit2.trans (Zax 8 29 3 rfl (by omega)) ?_
  simp only [Qp, Xy, Gm, V1, List.set_cons_zero, List.set_cons_succ, List.cons_append, List.nil_append, List.length_cons, List.length_nil, Nat.zero_add, Nat.reduceAdd, Nat.reduceLT, Nat.add_assoc]
  refine Fit2.trans (E' := (⟨102, [], [(0, (vI (IntKind.i64.wrap (Xr .i64 a0 127)))), (5, .row n z3.length), (7, nV), (8, .row (n + 1) ([] : List Zg).length), (9, (vI 0))]⟩ : Env)) (O' := (Zo O n [some (oR 40 1 (eI .u64) z3), some (oR 29 3 Zf ([] : List Zg))])) (n' := (n + 2)) (Fit2.of (Yc hU rfl rfl ?_) (by omega)) ?_
  ·exact zSe
  refine Zaw (k := 2) (k' := 3) hU [0, 1] [0, 1, 0] rfl rfl rfl rfl ⟨rfl, rfl⟩ ?_
  exact zSe
 obtain ⟨z7, hz7, h⟩ := bC h
 refine Xz (E' := ⟨102, [], [(5, .row n z3.length), (7, nV), (8, .row (n + 1) z7.length)]⟩) (O' := (Zo O n [some (oR 40 1 (eI .u64) z3), some (oR 29 3 Zf z7), none])) (n0 := (n + 3)) ?_ ?_
 ·refine Qw hz7 (fun s1_ => ⟨102, [], [(0, (vI (IntKind.i64.wrap (Xr .i64 a0 127)))), (5, .row n z3.length), (7, nV), (8, .row (n + 1) s1_.2.length), (9, (vI s1_.1))]⟩) (fun s1_ => (Zo O n [some (oR 40 1 (eI .u64) z3), some (oR 29 3 Zf s1_.2), none])) (fun z7 => JX 2 n (⟨102, [], [(5, .row n z3.length), (7, nV), (8, .row (n + 1) z7.length)]⟩ : Env) (Zo O n [some (oR 40 1 (eI .u64) z3), some (oR 29 3 Zf z7), none]) (n + 3)) ?_
  intro s1_ x1_ hs1_
  unfold Yx at hs1_
  try dsimp only
  refine Zh ?_
  refine zQ [0, 5, 7, 8, 9, 40] ?_
  refine Zp (t := (decide (s1_.1 < (IntKind.i64.wrap (Xr .i64 a0 127))))) rfl (fun c6 => ?_) (fun c6 => ?_)
  ·replace hs1_ := Zu c6 hs1_
   refine Kf [0, 5, 7, 8, 9] [true, true, false] ?_
   refine Zh ?_
   refine Xg ?_
   obtain ⟨x4, hx4, ax4, bx4, cx4, hs1_⟩ := bE (f := (eI .u64)) Zdo (fun _ => rfl) (by decide) hs1_
   obtain ⟨l5, pl5, ql5, el5, hs1_⟩ := bA (k := 1) rfl hs1_
   refine Z14 [] ax4 bx4 cx4 pl5 ql5 el5 ?_
   refine Kv ⟨102, [], [(0, (vI (IntKind.i64.wrap (Xr .i64 a0 127)))), (5, .row n z3.length), (7, nV), (8, .row (n + 1) l5.length), (9, (vI s1_.1))]⟩ (Zo O n [some (oR 40 1 (eI .u64) z3), some (oR 29 3 Zf l5), none, none, none]) (Yc hU rfl rfl ?_) ?_
   ·exact Z4r ax4 bx4 cx4 pl5 ql5 el5
   refine zR ?_
   exact zEn hs1_
  replace hs1_ := Zt c6 hs1_
  exact zEx hs1_
 try simp only [Xm, Yo, ↓reduceIte, Nat.reduceEqDiff]
 refine zD [5, 7, 8] [true, true, false] ?_
 refine Kv ⟨102, [], [(5, .row n z3.length), (7, nV), (8, (sL Zf z7))]⟩ (Zo O n [some (oR 40 1 (eI .u64) z3), none, none]) (Yc hU rfl rfl ?_) ?_
 ·exact zSe
 refine Zh ?_
 obtain ⟨y9, hy9, h⟩ := bC h
 refine zR ?_
 refine GCalls.adopt (pre := []) 29 3 ?_
 simp only [push_cast, seval, ↓reduceIte, Zk, List.append_eq, List.cons_append, List.nil_append, hN0, hN]
 refine (Zdr (t0 := (n + 3)) (by omega) (by simp only [push_cast, seval, ↓reduceIte, Zk, Qa, hN0, hN] <;> rfl) hy9).then ?_
 refine zS ?_
 refine zDs [5, 7, 10] [true, false, false, false] ?_
 obtain ⟨y11, hy11, h⟩ := bC h
 refine zR ?_
 refine (Zfa  hy11).then ?_
 refine zS ?_
 refine zD [5, 7, 10, 11] [true, false, false, false, true, true, true] ?_
 refine Kv ⟨102, [], [(5, (sL (eI .u64) z3)), (7, (sL Zf y9.1)), (10, (sL (eI .i64) y9.2)), (11, .ref (n + 4) 0)]⟩ (Zo O n [none, none, none, none, some ⟨false, 79, 2, 1, [.row (n + 5) y11.classes.length, .row (n + 6) y11.places.length]⟩, some (oR 82 10 Zb y11.classes), some (oR 3 1 (eI .i64) y11.places)]) (Yc hU rfl rfl ?_) ?_
 ·exact zSe
 refine Zh ?_
 obtain ⟨y14, hy14, h⟩ := bC h
 obtain ⟨y15, hy15, h⟩ := bC h
 refine zR ?_
 refine GCalls.dropL (l' := [none, none, none, none, some ⟨false, 79, 2, 1, [.row (n + 5) y11.classes.length, .row (n + 6) y11.places.length]⟩, some (oR 82 10 Zb y11.classes), some (oR 3 1 (eI .i64) y11.places), none]) hU rfl ?_ ((Vs hy14).then ?_)
 ·exact zSe
 refine zS ?_
 refine (K4 (i0 := (n + 4)) (j0_0 := (n + 5)) (j0_1 := (n + 6)) (by omega) (by omega) (by omega) (by omega) (by omega) (by omega) (by simp only [push_cast, seval, ↓reduceIte, Zk, Qa, hN0, hN] <;> rfl) (by simp only [push_cast, seval, ↓reduceIte, Zk, Qa, hN0, hN] <;> rfl) (by simp only [push_cast, seval, ↓reduceIte, Zk, Qa, hN0, hN] <;> rfl) hy15).then ?_
 refine zS ?_
 refine zDs [5, 7, 10, 11, 12, 13] [false, false, false, false, true, false, false, false, true, true] ?_
 obtain ⟨y18, hy18, h⟩ := bC h
 obtain ⟨y19, hy19, h⟩ := bC h
 refine zR ?_
 refine GCalls.dropL (l' := [none, none, none, none, some ⟨false, 79, 2, 1, [.row (n + 8) y15.2.2.classes.length, .row (n + 9) y15.2.2.places.length]⟩, none, none, none, some (oR 82 10 Zb y15.2.2.classes), some (oR 3 1 (eI .i64) y15.2.2.places), none]) hU rfl ?_ ((Vs hy18).then ?_)
 ·exact zSe
 refine zS ?_
 refine (K4 (i0 := (n + 4)) (j0_0 := (n + 8)) (j0_1 := (n + 9)) (by omega) (by omega) (by omega) (by omega) (by omega) (by omega) (by simp only [push_cast, seval, ↓reduceIte, Zk, Qa, hN0, hN] <;> rfl) (by simp only [push_cast, seval, ↓reduceIte, Zk, Qa, hN0, hN] <;> rfl) (by simp only [push_cast, seval, ↓reduceIte, Zk, Qa, hN0, hN] <;> rfl) hy19).then ?_
 refine zS ?_
 refine zD [7, 10, 11, 12, 13, 14, 15] [false, false, false, false, true, false, false, false, false, false, false, true, true] ?_
 obtain ⟨z24, hz24, h⟩ := bC h
 refine V4 (E' := ⟨102, [], [(4, (vB z24))]⟩) (O' := (Zo O n [none, none, none, none, none, none, none, none, none, none, none, none, none])) (n0 := (n + 13)) ?_ ?_
 ·rcases Bool.eq_false_or_eq_true (y15.2.1 == 0) with c33 | c33
  ·replace hz24 := Zu c33 hz24
   rcases Bool.eq_false_or_eq_true (y19.2.1 == 0) with c34 | c34
   ·replace hz24 := Zu c34 hz24
    try rw [c34] at c33
    obtain ⟨y29, hy29, hz24⟩ := bC hz24
    rcases Bool.eq_false_or_eq_true y29 with c35 | c35
    ·replace hz24 := Zu c35 hz24
     try rw [c35] at c33
     try rw [c35] at c34
     obtain ⟨y30, hy30, hz24⟩ := bC hz24
     rcases Bool.eq_false_or_eq_true y30 with c36 | c36
     ·replace hz24 := Zu c36 hz24
      try rw [c36] at c33
      try rw [c36] at c34
      try rw [c36] at c35
      obtain ⟨y31, hy31, hz24⟩ := bC hz24
      rcases Bool.eq_false_or_eq_true (y31 == (y9.1.length : Int)) with c37 | c37
      ·replace hz24 := Zu c37 hz24
       try rw [c37] at c33
       try rw [c37] at c34
       try rw [c37] at c35
       try rw [c37] at c36
       obtain ⟨y32, hy32, hz24⟩ := bC hz24
       refine Zuy [none, none, some true, some true, some true, some true, some true, some true, some true, some true, some true, some true, some true, some true] c33 c34 c35 c36 c37 ?_
       refine zG ?_
       refine (Yh hy29).then ?_
       refine zX5 c33 c34 c35 c36 c37 ?_
       refine zG ?_
       refine (Yh hy30).then ?_
       refine zX5 c33 c34 c35 c36 c37 ?_
       refine zG ?_
       refine GCalls.lend (Vj hy31) rfl ?_ ?_
       ·exact Zyy c33 c34 c35 c36 c37
       refine zX5 c33 c34 c35 c36 c37 ?_
       refine zG ?_
       refine (Ze2 hy32).then ?_
       refine zX5 c33 c34 c35 c36 c37 ?_
       refine zG ?_
       exact Z10 hz24 c33 c34 c35 c36 c37
      replace hz24 := Zt c37 hz24
      try rw [c37] at c33
      try rw [c37] at c34
      try rw [c37] at c35
      try rw [c37] at c36
      refine Zuy [none, none, some true, some true, some true, some true, some true, some true, some true, some true, some true, some true, some true, some false] c33 c34 c35 c36 c37 ?_
      refine zG ?_
      refine (Yh hy29).then ?_
      refine zX5 c33 c34 c35 c36 c37 ?_
      refine zG ?_
      refine (Yh hy30).then ?_
      refine zX5 c33 c34 c35 c36 c37 ?_
      refine zG ?_
      refine GCalls.lend (Vj hy31) rfl ?_ ?_
      ·exact Zyy c33 c34 c35 c36 c37
      refine zX5 c33 c34 c35 c36 c37 ?_
      refine zG ?_
      exact Z10 hz24 c33 c34 c35 c36 c37
     replace hz24 := Zt c36 hz24
     try rw [c36] at c33
     try rw [c36] at c34
     try rw [c36] at c35
     refine Zyx [none, none, some true, some true, some true, some true, some true, some true, some false, some false, some false, some false, some false, some false] c33 c34 c35 c36 ?_
     refine zG ?_
     refine (Yh hy29).then ?_
     refine zX4 c33 c34 c35 c36 ?_
     refine zG ?_
     refine (Yh hy30).then ?_
     refine zX4 c33 c34 c35 c36 ?_
     refine zG ?_
     exact Zyv hz24 c33 c34 c35 c36
    replace hz24 := Zt c35 hz24
    try rw [c35] at c33
    try rw [c35] at c34
    refine Zgw [none, none, some true, some true, some true, some false, some false, some false, some false, some false, some false, some false, some false, some false] c33 c34 c35 ?_
    refine zG ?_
    refine (Yh hy29).then ?_
    refine zX3 c33 c34 c35 ?_
    refine zG ?_
    exact Z1z hz24 c33 c34 c35
   replace hz24 := Zt c34 hz24
   try rw [c34] at c33
   refine Qn [none, none, some false, some false, some false, some false, some false, some false, some false, some false, some false, some false, some false, some false] c33 c34 ?_
   refine zG ?_
   exact Zux hz24 c33 c34
  replace hz24 := Zt c33 hz24
  refine Zau [none, none, some false, some false, some false, some false, some false, some false, some false, some false, some false, some false, some false, some false] c33 ?_
  refine zG ?_
  exact Zat hz24 c33
 exact Yk [(vB z24)]
end Go.Proofs.Ytgffgbdnbjbmoaa
