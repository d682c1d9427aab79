/- Part IM1 of this seat's mirrors: functions of the seat's program, and the plain functions that they are; each theorem bears its own conditions. -/
import Derived.Test.YtgffgbdnbjbmoaaIE
namespace Go.Proofs.Ytgffgbdnbjbmoaa
open Go.RowKit
set_option linter.unusedVariables false
set_option linter.unusedSimpArgs false
set_option maxRecDepth 100000
set_option maxHeartbeats 4000000
attribute [local push_cast] Try.results16 Try.results26 Try.results27 Try.results33 Try.results34 Try.results42 Try.results43 Try.results44 Try.results46 Try.results48 Try.results62 Try.results63 Try.results64 Try.results66 Try.results67 Try.results68 Try.results69 Try.results73 Try.results74 Try.results75 Try.results76 Try.results77 Try.results78 Try.results79 Try.results80 Try.results81 Try.results82 Try.results83 Try.results84 Try.results85 Try.results86 Try.results87 vI vB nV sL oR Yf Zu Zs Yk Yl Ze Zu8 Zu7 Zv5 Zv4 Xc Yn Zrl Zl5 Zl4 onW Xs Zbf Gp Zof Zpr Zo2 Zo6 Zo1 Zo5 Zs1 Zsx Zo4 Zs0 Zsz Zsy Zo3 Zsv Zm3 evS wok Q6 Op.operands Call.operands gop onK onP atK List.all_cons List.all_nil Bool.and_true Bool.true_and Bool.and_self Value.oneCell' List.take_zero List.take_succ_cons List.take_nil List.drop_zero List.drop_succ_cons List.drop_nil List.append_nil Nat.add_zero Nat.zero_add Vj Yc ev Qr Zg7 Zu0 Zuz Zu5 Zu3 Zu4 Zu1 Zu2 Zuy Znl Zpn Ztz Zh7 Zc7 Zf3 Zb9 Zoe Ze6 Zj5 Zka Zlt Zlp Zj8 Zls Zlr Zlq Zj7 Zln Zj6 Zj9 Zir Zlo Zh3 Zl7 Za5 Zi3 Za6 Zjo Zh2 Zrm bLo bHi bMx Zc8 Zjm Zx4 Zh1 Zi2 Ze5 Gh Zri Zx6 Ziy Zf1 Zya Zc5 Zzj Zrw Zr0 Zrv Zrz Zvs Zvo Zvm Zoi Zrx Zvr Zvq Zvp Zry Zvh Zvk Zvg Zvj Zzv Zzs Zzr Zvi Zzt Zzu Zvn Zg8 Zl3 Zsm Zms Zmr pop TK.isAgg Zvy Zv3 Zvx Zv2 Zsc Z0h Z0d Zv1 Z0g Z0f Z0e Zvz Z0c G.under G.unders List.getD_cons_zero List.getD_cons_succ List.set_cons_zero List.set_cons_succ List.map_cons List.map_nil List.toList_toArray Array.toList_append Option.toArray_none Option.toArray_some Array.toList_map Option.map_some Option.map_none Option.bind_some Option.bind_none List.getElem?_cons_zero List.getElem?_cons_succ List.getElem?_nil List.nil_append List.cons_append List.replicate_succ List.replicate_zero List.length_cons List.length_nil and_true true_and and_false false_and Bool.true_eq_false Bool.false_eq_true forall_const false_implies implies_true IntKind.bits if_true if_false ite_true ite_false eq_self true_implies false_or or_false or_true true_or not_true_eq_false not_false_eq_true decide_true decide_false decide_eq_true_eq decide_eq_false_iff_not beq_iff_eq bne_iff_ne ne_eq Bool.not_eq_true Bool.not_eq_false beq_eq_false_iff_ne bne_eq_false_iff_eq beq_self_eq_true bne_self_eq_false Option.some.injEq exists_eq_left' exists_eq_left ge_iff_le gt_iff_lt decide_not Bool.not_true Bool.not_false imp_self Zzl cond_true cond_false Z56 Z55 Bool.not_not Bool.and_false Bool.false_and Bool.or_true Bool.true_or Bool.or_false Bool.false_or Gc Zgt Gq Uz Qw Xy Option.join_some Nat.add_assoc Int.toNat_natCast eI eB eS eL Q9 Zjq Zkh Zvb Zu9 Zva Z0b Z2o Zjz Zko Zwb Zv9 Zwa Zub Ziw Zuv Zku Zrb Zgw Ztw List.length_append G.agg.injEq G.row.injEq G.ref.injEq G.val.injEq G.sl.injEq G.tup.injEq Value.int.injEq Value.bool.injEq Value.string.injEq List.cons.injEq exists_and_left exists_const List.flatten_cons List.flatten_nil Int.le_refl Nat.le_refl U6 Xd Qi Bool.not_eq_true' Bool.not_eq_false' Zxr Zjf Z1r Z1w Z1q Z1v Z4z Z4u List.size_toArray Zmv Zot G.ren G.rens Zp7 Zfh Zwd Zuw Zux Zsw Z1x Zbb G.fn.injEq Znb Ztj Zxq Z4v Zti Z1u Z4y Z4x Z4w Z1t Zzz Z3i Option.join_none Yo U9 undef Zi5 Arr.len Arr.put_eq Zjy Zol Zmo Zkn Zv8 Zv6 Zv7 onB Z0a Zre Zsu Zn9 Zqm Zqn Zqo Zqp Zqq Zqr Zok Zop Zon Zmq Zkp Zoo Zsl Zsk Zsj Zsi Z2n Z5s Zua Zsg K8 Zt7 Zk2 Zoq Zmp Zyk Zo0 Zhy Ziu Zdz Zmw Zqs Zqt Zqu Zqv Znw Znx Zny Znz Zn0 Zn1 Zn2 Zdr prT Zca Z62 Z1c Zm5 Z1d Z63 Z1e Z64 Z1f Z65 Z1g Z66 Z1h Z67 Z1i Z68 Z1j Z3q Zwl Z3r Zwm Z3s Zwn Z3t Zwo Z3u Zwp Z3v Zwq Z3w Zwr Z3x Zws Z3y Zwt Z3z Zwu Z30 Zwv Zwk Zww Z31 Zwx Z32 Zwy Zdo Zg5 Z33 Zqe Z34 Zwz Zm4 Zw0 Z35 Zqf Z36 Zw1 Z37 Zw2 Z38 Zw3 Zaj Zw4 Z39 Zw5 Z4a Zqg Z4b Zw6 Z4c Zw7 Z4d Zw8 Z4e Zw9 Z4f Zxa Z4g Zxb Z4h Zxc Z4i Zxd Z4j Zxe Z4k Zxf Z4l Zxg Z4m Zxh Zs3 Zxi Z4n Zxj Z4o Zxk Z4p Zxl Z4q Zxm Z4r Zxn Z4s Zxo Z4t Zxp Z0z Zs5 Z00 Zs6 Z01 Zs7 Z02 Zs8 Z03 Zs9 Z04 Zta Z05 Ztb Z06 Ztc Z07 Ztd Z08 Zte Z09 Ztf Z1a Ztg Z1b Zth Znf Znd Zme Zmn Znh Zk0 Zkt Zkr Zm8 Zhv Zhu Zhk Zhr Zhw Zgp Zgm Zgl Zhs Zi Zcl Zck Zcd Zci Zcm Zb2 Zbx Zbw Zcj Zkc Zne Znc Zmd Zmm Zng Zkz Zks Zkq Zm7 Zkb Zfz Z9 Zb5 Zb3 Zbh Zbu Zb7 Za0 Zax Zav Zb0 Zb Zv Za3 Za2 Zaq Zau Za4 Zal Zad Zac Zaz Zb6 Zb4 Zbi Zbv Zb8 Za1 Zay Zaw Zb1 Z4 Zan Zam Gy Zab Zao Gm Gl Gk Zak Zk Un Zez Zex Zeh Zen Ze1 Zd2 Zdy Zdw Zev Vi Zc2 Zc3 Zey Zew Zeg Zem Ze0 Zd1 Zdx Zdv Zeu
theorem Vt {a0 r : List Int} {O : Objs} {n : Nat} (h : Y5 a0 = some r) : GTo Try.prog 64 [(sL (eI .u64) a0)] O n (.row n r.length) (Zt O n [some (oR 40 1 (eI .u64) r)]) (n + 1) := by
 have h1 := Ztq h
 have h2 := Ztr h
 have h3 := Zpb h
 rw [List.nil_append] at h3
 subst h3
 simp only [List.length_nil, Nat.zero_add] at h1 h2
 clear h
 refine Uw Try.call64 Try.func64 fun hU hN0 hN => ?_
 show W _ _ _ _ ⟨8, [], [(0, (sL (eI .u64) r))]⟩ (Zt O n []) _
 refine zQ [0] ?_
 refine Z48 0 r.length (fl (eI .u64) r) rfl (Nat.le_of_ble_eq_true rfl) (Z7 Q5 _) fun A c hA => ?_
 refine zQ [0, 4] ?_
 cases A with
 | none =>
  obtain rfl : r = [] := List.eq_nil_of_length_eq_zero (hA rfl)
  refine Zn (t := true) rfl (fun _ => ?_) (fun hc => by cases hc)
  refine zQ [2] ?_
  refine zW ?_
  refine Ziv (k := 1) (L3 := [some ⟨true, 40, 1, 0, []⟩]) (E2 := ⟨8, [], [(2, .row n 0), (2, nV)]⟩) (n3 := (n + 1)) (.inr rfl) hU rfl [.row n 0] ?_ ?_
  ·have ha := Zeb (ba := n) (E := ⟨8, [], [(2, .val (.slice none 0 0))]⟩) (O := (Zt O n [])) (n := n) 2 40 1 rfl (by omega)
   simp only [Xy] at ha
   exact ha
  simp only [push_cast, seval, ↓reduceIte, Zj, Try.results64, hN0, hN]
 | some A =>
  refine Zn (t := false) rfl (fun hc => by cases hc) (fun _ => ?_)
  refine zK ?_
  refine And.intro rfl (And.intro (Nat.le_of_ble_eq_true rfl) ?_)
  refine Zc ?_
  refine Z8 Zz [] ?_
  simp only [push_cast, seval, ↓reduceIte, Zj, h1, h2, hN0, hN]
  refine zW ?_
  refine Zzi (.inr rfl) hU rfl [.row n r.length] (by omega) ?_
  simp only [push_cast, seval, ↓reduceIte, Zj, Try.results64, hN0, hN]
theorem Zba {a0 r : List Int} {O : Objs} {n : Nat} (h : Y5 a0 = some r) : GTo Try.prog 64 [(sL (eI .u64) a0)] O n ((sL (eI .u64) r)) O n := by
 refine GTo.freeze (Vt h) fun hU => ?_
 have hN0 : O n = none := hU.fresh _ (Nat.le_refl _)
 have hN : ∀ k, O (n + k) = none := fun k => hU.fresh _ (Nat.le_add_right _ _)
 exact zSe
theorem Zmk {a0 : (List (List Int))} {r : (List (List Int))} {O : Objs} {n : Nat} (h : U2 a0 = some r) : GTo Try.prog 43 [(sL (eL (eI .u64)) a0)] O n ((sL (eL (eI .u64)) r)) O n := by
 unfold U2 at h
 refine Uw Try.call43 Try.func43 fun hU hN0 hN => ?_
 show W _ _ _ _ ⟨23, [], [(0, (sL (eL (eI .u64)) a0))]⟩ (Zt O n []) _
 refine zQ [0] ?_
 refine Zc ?_
 obtain ⟨l2, al2, bl2, cl2, el2, h⟩ := bM2 (c := 24) rfl h
 have nl2 : Int.toNat (a0.length : Int) = List.length l2 := by rw [el2, List.length_replicate]
 have fl2 : ∀ O O' n, V8 O O' n (List.replicate (List.length l2) [G.val (.slice none 0 0)]).flatten (fl (eL (eI .u64)) l2) = True := fun O O' n => by rw [← nl2, el2]; exact eq_true (Ztk _ _)
 clear el2
 refine Z8 Zz [] ?_
 simp only [push_cast, seval, ↓reduceIte, Zj, al2, bl2, cl2, fl2, nl2, hN0, hN]
 refine Ut ⟨23, [], [(0, (sL (eL (eI .u64)) a0)), (3, .row n l2.length)]⟩ (Zt O n [some (oR 26 1 (eL (eI .u64)) l2)]) (Ym hU rfl rfl ?_) ?_
 ·simp only [push_cast, seval, ↓reduceIte, Zj, al2, bl2, cl2, fl2, nl2, hN0, hN]
 refine Zc ?_
 refine zQd [3, 9, 10, 11] [3, 9, 10, 11] [true] ?_
 obtain ⟨z9, hz9, h⟩ := bC h
 refine Xo (E' := ⟨23, [], [(3, .row n z9.length)]⟩) (O' := (Zt O n [some (oR 26 1 (eL (eI .u64)) z9)])) (n0 := (n + 1)) ?_ ?_
 ·refine Qo hz9 (fun s0_ => ⟨23, [], [(3, .row n s0_.2.length), (9, (sL (eL (eI .u64)) a0)), (10, (vI (a0.length : Int))), (11, (vI s0_.1))]⟩) (fun s0_ => (Zt O n [some (oR 26 1 (eL (eI .u64)) s0_.2)])) (fun z9 => JX 0 n (⟨23, [], [(3, .row n z9.length)]⟩ : Env) (Zt O n [some (oR 26 1 (eL (eI .u64)) z9)]) (n + 1)) ?_
  intro s0_ x0_ hs0_
  unfold Kf at hs0_
  try dsimp only
  refine zQ [3, 9, 10, 11, 12] ?_
  refine Zc ?_
  refine Zn (t := (decide (s0_.1 < (a0.length : Int)))) rfl (fun c8 => ?_) (fun c8 => ?_)
  ·replace hs0_ := Zq c8 hs0_
   refine Qg [3, 9, 10, 11] [true] ?_
   refine Zc ?_
   refine Y4 ?_
   obtain ⟨x4, hx4, ax4, bx4, cx4, hs0_⟩ := bE (f := (eL (eI .u64))) Zdo (fun _ => rfl) (by decide) hs0_
   refine U0 [3, 4, 5, 9, 10, 11] (Z8 Zz [] ?_)
   refine zF3 ax4 bx4 cx4 ?_
   obtain ⟨y5, hy5, hs0_⟩ := bC hs0_
   obtain ⟨x6, hx6, ax6, bx6, cx6, hs0_⟩ := bE (f := (eL (eI .u64))) Zdo (fun _ => rfl) (by decide) hs0_
   have gu7 : V6 (fl (eL (eI .u64)) s0_.2) [.sl y5.length (fl (eI .u64) y5)] (Int.toNat s0_.1 * 1) = some (fl (eL (eI .u64)) (Zdl s0_.2 s0_.1 y5)) := Zjr (f := (eL (eI .u64))) (ti := ⟨.bool, 1, 0, [], false⟩) (x := y5) (fun _ => rfl) (Zf2 hx6)
   refine Z44 [] ax6 bx6 cx6 gu7 ?_
   refine (Zba hy5).then ?_
   refine zF4 ax6 bx6 cx6 gu7 ?_
   refine zD [3, 9, 10, 11] [true] ?_
   refine zR ?_
   exact zEn hs0_
  replace hs0_ := Zp c8 hs0_
  exact zEx hs0_
 try simp only [Xc, Yn, ↓reduceIte, Nat.reduceEqDiff]
 refine zD [3] [true] ?_
 refine zQ [2] ?_
 exact Z5 [.row n z9.length]
theorem Zsa {a0 : (List (List Int))} {r : (Option Zf)} {O : Objs} {n : Nat} (h : Zdd a0 = some r) : GTo Try.prog 27 [(sL (eL (eI .u64)) a0)] O n ((gP Zi r)) O n := by
 unfold Zdd at h
 refine Uw Try.call27 Try.func27 fun hU hN0 hN => ?_
 show W _ _ _ _ ⟨7, [], [(0, (sL (eL (eI .u64)) a0))]⟩ (Zt O n []) _
 refine zQ [0] ?_
 refine Zc ?_
 obtain ⟨y2, hy2, h⟩ := bC h
 refine Gg (Zmk hy2) [2] [true] ?_
 exact Z5 [.ref n 0]
theorem Zie {a0 : (Option Zf)} {r : Int} {O : Objs} {n : Nat} (h : V9 a0 = some r) : GTo Try.prog 87 [(gP Zi a0)] O n ((vI r)) O n := by
 unfold V9 at h
 refine Uw Try.call87 Try.func87 fun hU hN0 hN => ?_
 show W _ _ _ _ ⟨10, [], [(0, (gP Zi a0))]⟩ (Zt O n []) _
 refine zQ [0] ?_
 refine Zc ?_
 have g2 := Zkf (f := Zi) (t := 33) Zqf a0
 refine Z7u [0, 4] g2 ?_
 refine Zn (t := (Option.isNone a0)) rfl (fun c5 => ?_) (fun c5 => ?_)
 ·replace h := Zq c5 h
  refine zQ [2] ?_
  exact Z5 [(vI 0)]
 replace h := Zp c5 h
 refine Qg [0] [] ?_
 obtain ⟨x4, hx4, h⟩ := bC h
 refine U0 [2] (Z8 Zz [] ?_)
 simp only [push_cast, seval, ↓reduceIte, Zj, hx4, hN0, hN]
 exact Z5 [(vI (x4.segments.length : Int))]
theorem Q3 {a0 : (Option Zf)} {a1 : Int} {r : Bool} {O : Objs} {n : Nat} (h : Jf a0 a1 = some r) : GTo Try.prog 84 [(gP Zi a0), (vI a1)] O n ((vB r)) O n := by
 unfold Jf at h
 refine Uw Try.call84 Try.func84 fun hU hN0 hN => ?_
 show W _ _ _ _ ⟨13, [], [(0, (gP Zi a0)), (1, (vI a1))]⟩ (Zt O n []) _
 refine zQ [0, 1] ?_
 obtain ⟨z2, hz2, h⟩ := bC h
 refine Q8 (E' := ⟨13, [], [(4, (vB z2))]⟩) (O' := (Zt O n [])) (n0 := n) ?_ ?_
 ·rcases Bool.eq_false_or_eq_true (decide (0 ≤ a1)) with c5 | c5
  ·replace hz2 := Zq c5 hz2
   obtain ⟨y4, hy4, hz2⟩ := bC hz2
   refine U8 [some true, some true, some true, some true] c5 ?_
   refine (Zie hy4).then ?_
   refine zX1 c5 ?_
   exact Uv hz2 c5
  replace hz2 := Zp c5 hz2
  refine U8 [some false, some false, some false, some false] c5 ?_
  exact Uv hz2 c5
 exact Z5 [(vB z2)]
theorem Uy {a0 : (Option Zf)} {a1 : Int} {r : Int} {O : Objs} {n : Nat} (h : Jp a0 a1 = some r) : GTo Try.prog 85 [(gP Zi a0), (vI a1)] O n ((vI r)) O n := by
 unfold Jp at h
 refine Uw Try.call85 Try.func85 fun hU hN0 hN => ?_
 show W _ _ _ _ ⟨17, [], [(0, (gP Zi a0)), (1, (vI a1))]⟩ (Zt O n []) _
 refine zQ [0, 1] ?_
 refine Zc ?_
 refine Zc ?_
 obtain ⟨y2, hy2, h⟩ := bC h
 refine Gg (Q3 hy2) [0, 1, 8] [] ?_
 refine Zn (t := (!y2)) rfl (fun c7 => ?_) (fun c7 => ?_)
 ·replace h := Zq c7 h
  refine zQ [4] ?_
  exact Z5 [(vI 0)]
 replace h := Zp c7 h
 refine Qg [0, 1] [] ?_
 obtain ⟨x5, hx5, h⟩ := bC h
 obtain ⟨x6, hx6, ax6, bx6, cx6, h⟩ := bE (f := (eL (eI .u64))) Zdo (fun _ => rfl) (by decide) h
 refine U0 [4] (Z8 Zz [] ?_)
 refine zF4 hx5 ax6 bx6 cx6 ?_
 exact Z5 [(vI (x6.length : Int))]
theorem Gf {a0 : (Option Zf)} {a1 : Int} {a2 : Int} {a3 : Int} {r : Bool} {O : Objs} {n : Nat} (h : Ja a0 a1 a2 a3 = some r) : GTo Try.prog 79 [(gP Zi a0), (vI a1), (vI a2), (vI a3)] O n ((vB r)) O n := by
 unfold Ja at h
 refine Uw Try.call79 Try.func79 fun hU hN0 hN => ?_
 show W _ _ _ _ ⟨36, [], [(0, (gP Zi a0)), (1, (vI a1)), (2, (vI a2)), (3, (vI a3))]⟩ (Zt O n []) _
 refine zQ [0, 1, 2, 3] ?_
 obtain ⟨z4, hz4, h⟩ := bC h
 refine Q8 (E' := ⟨36, [], [(8, (vB z4))]⟩) (O' := (Zt O n [])) (n0 := n) ?_ ?_
 ·obtain ⟨y8, hy8, hz4⟩ := bC hz4
  rcases Bool.eq_false_or_eq_true y8 with c11 | c11
  ·replace hz4 := Zq c11 hz4
   rcases Bool.eq_false_or_eq_true (decide (0 ≤ a2)) with c12 | c12
   ·replace hz4 := Zq c12 hz4
    try rw [c12] at c11
    rcases Bool.eq_false_or_eq_true (decide (0 ≤ a3)) with c13 | c13
    ·replace hz4 := Zq c13 hz4
     try rw [c13] at c11
     try rw [c13] at c12
     obtain ⟨y9, hy9, hz4⟩ := bC hz4
     rcases Bool.eq_false_or_eq_true (decide (a3 ≤ y9)) with c14 | c14
     ·replace hz4 := Zq c14 hz4
      try rw [c14] at c11
      try rw [c14] at c12
      try rw [c14] at c13
      obtain ⟨y10, hy10, hz4⟩ := bC hz4
      refine Z46 [none, none, none, none, some true, some true, some true, some true, some true, some true, some true, some true, some true, some true, some true, some true] c11 c12 c13 c14 ?_
      refine zG ?_
      refine (Q3 hy8).then ?_
      refine zX4 c11 c12 c13 c14 ?_
      refine zG ?_
      refine (Uy hy9).then ?_
      refine zX4 c11 c12 c13 c14 ?_
      refine zG ?_
      refine (Uy hy10).then ?_
      refine zX4 c11 c12 c13 c14 ?_
      refine zG ?_
      exact Z42 hz4 c11 c12 c13 c14
     replace hz4 := Zp c14 hz4
     try rw [c14] at c11
     try rw [c14] at c12
     try rw [c14] at c13
     refine Z46 [none, none, none, none, some true, some true, some true, some true, some true, some false, some false, some false, some false, some false, some false, some false] c11 c12 c13 c14 ?_
     refine zG ?_
     refine (Q3 hy8).then ?_
     refine zX4 c11 c12 c13 c14 ?_
     refine zG ?_
     refine (Uy hy9).then ?_
     refine zX4 c11 c12 c13 c14 ?_
     refine zG ?_
     exact Z42 hz4 c11 c12 c13 c14
    replace hz4 := Zp c13 hz4
    try rw [c13] at c11
    try rw [c13] at c12
    refine Zjg [none, none, none, none, some false, some false, some false, some false, some false, some false, some false, some false, some false, some false, some false, some false] c11 c12 c13 ?_
    refine zG ?_
    refine (Q3 hy8).then ?_
    refine zX3 c11 c12 c13 ?_
    refine zG ?_
    exact Z10 hz4 c11 c12 c13
   replace hz4 := Zp c12 hz4
   try rw [c12] at c11
   refine Qq [none, none, none, none, some false, some false, some false, some false, some false, some false, some false, some false, some false, some false, some false, some false] c11 c12 ?_
   refine zG ?_
   refine (Q3 hy8).then ?_
   refine zX2 c11 c12 ?_
   refine zG ?_
   exact Znj hz4 c11 c12
  replace hz4 := Zp c11 hz4
  refine U8 [none, none, none, none, some false, some false, some false, some false, some false, some false, some false, some false, some false, some false, some false, some false] c11 ?_
  refine zG ?_
  refine (Q3 hy8).then ?_
  refine zX1 c11 ?_
  refine zG ?_
  exact Uv hz4 c11
 exact Z5 [(vB z4)]
theorem Ks {a0 : (Option Zf)} {a1 : Int} {a2 : Int} {r : (Int × Bool)} {O : Objs} {n : Nat} (h : Xw a0 a1 a2 = some r) : GTo Try.prog 69 [(gP Zi a0), (vI a1), (vI a2)] O n (.tup [.val (.int .u64 r.1), (vB r.2)]) O n := by
 unfold Xw at h
 refine Uw Try.call69 Try.func69 fun hU hN0 hN => ?_
 show W _ _ _ _ ⟨23, [], [(0, (gP Zi a0)), (1, (vI a1)), (2, (vI a2))]⟩ (Zt O n []) _
 refine zQ [0, 1, 2] ?_
 refine Zc ?_
 refine Zc ?_
 obtain ⟨y2, hy2, h⟩ := bC h
 refine Gg (Gf hy2) [0, 1, 2, 12] [] ?_
 refine Zn (t := (!y2)) rfl (fun c9 => ?_) (fun c9 => ?_)
 ·replace h := Zq c9 h
  refine zQ [6, 7] ?_
  exact Z5 [.val (.int .u64 0), (vB false)]
 replace h := Zp c9 h
 refine Qg [0, 1, 2] [] ?_
 obtain ⟨x6, hx6, h⟩ := bC h
 obtain ⟨x7, hx7, ax7, bx7, cx7, h⟩ := bE (f := (eL (eI .u64))) Zdo (fun _ => rfl) (by decide) h
 obtain ⟨x8, hx8, ax8, bx8, cx8, h⟩ := bE (f := (eI .u64)) Zaj (fun _ => rfl) (by decide) h
 refine U0 [6, 7] (Z8 Zz [] ?_)
 refine zF7 hx6 ax7 bx7 cx7 ax8 bx8 cx8 ?_
 exact Z5 [.val (.int .u64 x8), (vB true)]
theorem Zhp {a0 : Int} {r : Int} {O : Objs} {n : Nat} (h : G9 a0 = some r) : GTo Try.prog 80 [.val (.int .u64 a0)] O n ((vI r)) O n := by
 unfold G9 at h
 refine Uw Try.call80 Try.func80 fun hU hN0 hN => ?_
 show W _ _ _ _ ⟨8, [], [(0, .val (.int .u64 a0))]⟩ (Zt O n []) _
 refine zQ [0] ?_
 refine zQ [2] ?_
 exact Z5 [(vI (IntKind.i64.wrap (Int.fdiv (IntKind.i32.wrap (IntKind.u32.wrap a0)) (2 ^ min (Int.toNat 2) 32))))]
theorem Ur {a0 : Int} {a1 : Int} {a2 : Int} {r : Int} {O : Objs} {n : Nat} (h : Xr a0 a1 a2 = some r) : GTo Try.prog 81 [.val (.int .u64 a0), (vI a1), (vI a2)] O n ((vI r)) O n := by
 unfold Xr at h
 refine Uw Try.call81 Try.func81 fun hU hN0 hN => ?_
 show W _ _ _ _ ⟨15, [], [(0, .val (.int .u64 a0)), (1, (vI a1)), (2, (vI a2))]⟩ (Zt O n []) _
 refine zQ [0, 1, 2] ?_
 obtain ⟨pu3, h⟩ := bG h
 obtain ⟨pu4, h⟩ := bG h
 refine U0 [6] (Ke Zz (by kernel_rfl) [] (by kernel_rfl) ?_)
 simp only [push_cast, seval, ↓reduceIte, Zj, pu3, pu4, hN0, hN]
 exact Z5 [(vI (IntKind.i64.wrap (IntKind.u64.wrap (Ub .u64 (Int.fdiv a0 (2 ^ min (Int.toNat a1) 64)) (IntKind.u64.wrap ((IntKind.u64.wrap (1 * 2 ^ min (Int.toNat a2) 64)) - 1))))))]
theorem Ve {a0 : Int} {r : Z6} {O : Objs} {n : Nat} (h : Jt a0 = some r) : GTo Try.prog 73 [.val (.int .u64 a0)] O n (.agg (Yl r)) O n := by
 unfold Jt at h
 refine Uw Try.call73 Try.func73 fun hU hN0 hN => ?_
 show W _ _ _ _ ⟨38, [], [(0, .val (.int .u64 a0))]⟩ (Zt O n []) _
 refine zQ [0, 2] ?_
 refine Zc ?_
 refine zQ [0, 2, 4] ?_
 refine Zn (t := (a0 == 0)) rfl (fun c20 => ?_) (fun c20 => ?_)
 ·replace h := Zq c20 h
  refine Zc ?_
  refine zR ?_
  refine Ut ⟨38, [], [(2, .ref n 0)]⟩ (Zt O n [some ⟨false, 116, 8, 1, [(vI 0), (vI 0), (vI 0), (vI 0), (vI 0), (vI 0), (vI 0), (vB false)]⟩]) (Ym hU rfl rfl ?_) ?_
  ·exact zSe
  exact Z5 [.agg [(vI 0), (vI 0), (vI 0), (vI 0), (vI 0), (vI 0), (vI 0), (vB false)]]
 replace h := Zp c20 h
 refine zK ?_
 refine Ut ⟨38, [], [(0, .val (.int .u64 a0)), (2, .ref n 0)]⟩ (Zt O n [some ⟨false, 116, 8, 1, [(vI 0), (vI 0), (vI 0), (vI 0), (vI 0), (vI 0), (vI 0), (vB false)]⟩]) (Ym hU rfl rfl ?_) ?_
 ·exact zSe
 refine Zc ?_
 refine zQ [0, 2, 7] ?_
 refine Y4 ?_
 refine zQ [0, 2, 7, 8] ?_
 refine Zn (t := ((IntKind.u64.wrap (Ub .u64 a0 3)) == 0)) rfl (fun c19 => ?_) (fun c19 => ?_)
 ·replace h := Zq c19 h
  refine Zc ?_
  obtain ⟨y4, hy4, h⟩ := bC h
  obtain ⟨y5, hy5, h⟩ := bC h
  obtain ⟨y6, hy6, h⟩ := bC h
  refine zC (Zhp hy4) ?_
  refine zTs (Ur hy5) ?_
  refine zTs (Ur hy6) ?_
  refine Ut ⟨38, [], [(2, .ref n 0)]⟩ (Zt O n [some ⟨false, 116, 8, 1, [(vI 1), (vI y4), (vI y5), (vI y6), (vI 0), (vI 0), (vI 0), (vB false)]⟩]) (Ym hU rfl rfl ?_) ?_
  ·exact zSe
  exact Z5 [.agg [(vI 1), (vI y4), (vI y5), (vI y6), (vI 0), (vI 0), (vI 0), (vB false)]]
 replace h := Zp c19 h
 refine zQ [0, 2, 7, 17] ?_
 refine Zn (t := ((IntKind.u64.wrap (Ub .u64 a0 3)) == 1)) rfl (fun c18 => ?_) (fun c18 => ?_)
 ·replace h := Zq c18 h
  refine Zc ?_
  obtain ⟨y10, hy10, h⟩ := bC h
  obtain ⟨y11, hy11, h⟩ := bC h
  obtain ⟨y12, hy12, h⟩ := bC h
  refine zC (Zhp hy10) ?_
  refine zTs (Ur hy11) ?_
  refine zTs (Ur hy12) ?_
  refine Ut ⟨38, [], [(2, .ref n 0)]⟩ (Zt O n [some ⟨false, 116, 8, 1, [(vI 2), (vI y10), (vI 0), (vI 0), (vI y11), (vI y12), (vI 0), (vB false)]⟩]) (Ym hU rfl rfl ?_) ?_
  ·exact zSe
  exact Z5 [.agg [(vI 2), (vI y10), (vI 0), (vI 0), (vI y11), (vI y12), (vI 0), (vB false)]]
 replace h := Zp c18 h
 refine zQ [0, 2, 26] ?_
 refine Zn (t := ((IntKind.u64.wrap (Ub .u64 a0 3)) == 2)) rfl (fun c17 => ?_) (fun c17 => ?_)
 ·replace h := Zq c17 h
  refine Zc ?_
  obtain ⟨y15, hy15, h⟩ := bC h
  obtain ⟨y16, hy16, h⟩ := bC h
  refine zC (Ur hy15) ?_
  refine zTs (Ur hy16) ?_
  refine Ut ⟨38, [], [(2, .ref n 0)]⟩ (Zt O n [some ⟨false, 116, 8, 1, [(vI 3), (vI y15), (vI 0), (vI 0), (vI 0), (vI 0), (vI y16), (vB ((IntKind.u64.wrap (Ub .u64 (Int.fdiv a0 (2 ^ min (Int.toNat 2) 64)) 1)) == 1))]⟩]) (Ym hU rfl rfl ?_) ?_
  ·exact zSe
  exact Z5 [.agg [(vI 3), (vI y15), (vI 0), (vI 0), (vI 0), (vI 0), (vI y16), (vB ((IntKind.u64.wrap (Ub .u64 (Int.fdiv a0 (2 ^ min (Int.toNat 2) 64)) 1)) == 1))]]
 replace h := Zp c17 h
 refine zK ?_
 refine Ut ⟨38, [], [(2, .ref n 0)]⟩ (Zt O n [some ⟨false, 116, 8, 1, [(vI 0), (vI 0), (vI 0), (vI 0), (vI 0), (vI 0), (vI 0), (vB false)]⟩]) (Ym hU rfl rfl ?_) ?_
 ·exact zSe
 refine Zc ?_
 refine zR ?_
 refine Ut ⟨38, [], [(2, .ref n 0)]⟩ (Zt O n [some ⟨false, 116, 8, 1, [(vI 4), (vI 0), (vI 0), (vI 0), (vI 0), (vI 0), (vI 0), (vB false)]⟩]) (Ym hU rfl rfl ?_) ?_
 ·exact zSe
 exact Z5 [.agg [(vI 4), (vI 0), (vI 0), (vI 0), (vI 0), (vI 0), (vI 0), (vB false)]]
theorem Zg9 {a0 : (Option Zf)} {a1 : Int} {a2 : Int} {a3 : Int} {r : ((List Int) × Bool)} {O : Objs} {n : Nat} (h : Kl a0 a1 a2 a3 = some r) : GTo Try.prog 82 [(gP Zi a0), (vI a1), (vI a2), (vI a3)] O n (.tup [(sL (eI .u64) r.1), (vB r.2)]) O n := by
 unfold Kl at h
 refine Uw Try.call82 Try.func82 fun hU hN0 hN => ?_
 show W _ _ _ _ ⟨29, [], [(0, (gP Zi a0)), (1, (vI a1)), (2, (vI a2)), (3, (vI a3))]⟩ (Zt O n []) _
 refine zQ [0, 1, 2, 3] ?_
 refine Zc ?_
 refine Zc ?_
 obtain ⟨y2, hy2, h⟩ := bC h
 refine Gg (Gf hy2) [0, 1, 2, 3, 15] [] ?_
 refine Zn (t := (!y2)) rfl (fun c11 => ?_) (fun c11 => ?_)
 ·replace h := Zq c11 h
  refine zQ [8, 9] ?_
  exact Z5 [nV, (vB false)]
 replace h := Zp c11 h
 refine Qg [0, 1, 2, 3] [] ?_
 refine Zc ?_
 obtain ⟨x7, hx7, h⟩ := bC h
 obtain ⟨x8, hx8, ax8, bx8, cx8, h⟩ := bE (f := (eL (eI .u64))) Zdo (fun _ => rfl) (by decide) h
 obtain ⟨l9, al9, bl9, cl9, gl9, h⟩ := bS (lo := (some (.i64, a2))) (hi := (some (.i64, (IntKind.i64.wrap (a2 + a3))))) (f := (eI .u64)) rfl rfl Zg5 Zaj (fun _ => rfl) h
 obtain ⟨y10, hy10, h⟩ := bC h
 refine Z7v [] hx7 ax8 bx8 cx8 al9 bl9 cl9 gl9 ?_
 refine (Vt  hy10).then ?_
 refine zF8 hx7 ax8 bx8 cx8 al9 bl9 cl9 gl9 ?_
 refine zD [8, 9] [true] ?_
 exact Z5 [.row n y10.length, (vB true)]
theorem Zp2 {a0 : Int} {r : Int} {O : Objs} {n : Nat} (h : Zbn a0 = some r) : GTo Try.prog 86 [(vI a0)] O n ((vI r)) O n := by
 unfold Zbn at h
 refine Uw Try.call86 Try.func86 fun hU hN0 hN => ?_
 show W _ _ _ _ ⟨8, [], [(0, (vI a0))]⟩ (Zt O n []) _
 refine zQ [0] ?_
 refine Zc ?_
 obtain ⟨y6, hy6, ey6, h⟩ := bY (f := (eI .i64)) (cs := [.val (.int .i64 0), .val (.int .i64 1), .val (.int .i64 8), .val (.int .i64 16), .val (.int .i64 32), .val (.int .i64 64), .val (.int .i64 64)]) rfl h
 have g7 := congrArg G.agg ey6
 obtain ⟨y8, hy8, ey8, h⟩ := bY (f := (eI .i64)) (cs := [.val (.int .i64 0), .val (.int .i64 0), .val (.int .i64 0), .val (.int .i64 0), .val (.int .i64 0), .val (.int .i64 0), .val (.int .i64 0)]) rfl h
 have g9 := congrArg (GObj.mk false 138 7 1) ey8
 have g10 := Zl6 (f := (eI .i64)) y8 y6 (fun _ => rfl)
 refine Zjg [] g7 g9 g10 ?_
 refine zD [0, 3] [true] ?_
 obtain ⟨x12, hx12, ax12, bx12, cx12, h⟩ := bEA (f := (eI .i64)) (b := 7) rfl Zm5 (fun _ => rfl) (by decide) h
 refine U0 [2] (Z8 Zz [] ?_)
 refine zF3 ax12 bx12 cx12 ?_
 exact Z5 [(vI x12)]
theorem Zjv {a0 : Z6} {r : (Int × Bool)} {O : Objs} {n : Nat} (h : V2 a0 = some r) : GTo Try.prog 83 [.agg (Yl a0)] O n (.tup [(vI r.1), (vB r.2)]) O n := by
 unfold V2 at h
 refine Uw Try.call83 Try.func83 fun hU hN0 hN => ?_
 show W _ _ _ _ ⟨57, [], [(0, .agg (Yl a0))]⟩ (Zt O n []) _
 refine zQ [1] ?_
 refine Zc ?_
 refine Y4 ?_
 refine zQ [1, 4] ?_
 refine Zn (t := (a0.Kind == 1)) rfl (fun c5 => ?_) (fun c5 => ?_)
 ·replace h := Zq c5 h
  refine zQ [2, 3] ?_
  exact Z5 [(vI (IntKind.i64.wrap (a0.Data + a0.Ptrs))), (vB true)]
 replace h := Zp c5 h
 refine zQD [1, 13] [none, none, none] ?_
 refine Zn (t := (cond (a0.Kind == 2) (a0.Code == 7) false)) rfl (fun c4 => ?_) (fun c4 => ?_)
 ·replace h := Zq c4 h
  refine zQ [2, 3] ?_
  exact Z5 [(vI (IntKind.i64.wrap (a0.Count + 1))), (vB true)]
 replace h := Zp c4 h
 refine zQD [1, 25] [none, none, none, none, none, none, none, none, none, none, none, none] ?_
 refine Zn (t := (cond (cond (cond (cond (a0.Kind == 2) (decide (0 ≤ a0.Code)) false) (decide (a0.Code < 7)) false) (decide (0 ≤ a0.Count)) false) (decide (a0.Count ≤ 536870911)) false)) rfl (fun c3 => ?_) (fun c3 => ?_)
 ·replace h := Zq c3 h
  refine Zc ?_
  obtain ⟨y2, hy2, h⟩ := bC h
  refine Ke Zz (by kernel_rfl) [] (by kernel_rfl) ?_
  refine zS ?_
  refine PCall.of (Zp2 hy2) ?_
  refine zS ?_
  refine zD [2, 3] [false] ?_
  exact Z5 [(vI (IntKind.i64.wrap (Int.tdiv (IntKind.i64.wrap ((IntKind.i64.wrap (a0.Count * y2)) + 63)) 64))), (vB true)]
 replace h := Zp c3 h
 refine Qg [] [false] ?_
 refine zQ [2, 3] ?_
 exact Z5 [(vI 0), (vB false)]
theorem Zd8 {a0 : (Option Zf)} {a1 : Z6} {a2 : Int} {a3 : Int} {r : (Xa × Int)} {O : Objs} {n : Nat} (h : Vx a0 a1 a2 a3 = some r) : GTo Try.prog 76 [(gP Zi a0), .agg (Yl a1), (vI a2), (vI a3)] O n (.tup [.agg [(vI r.1.P.Kind), (vI r.1.P.Off), (vI r.1.P.Data), (vI r.1.P.Ptrs), (vI r.1.P.Code), (vI r.1.P.Count), (vI r.1.P.Segment), (vB r.1.P.Double), (vI r.1.Segment), (vI r.1.At)], (vI r.2)]) O n := by
 unfold Vx at h
 refine Uw Try.call76 Try.func76 fun hU hN0 hN => ?_
 show W _ _ _ _ ⟨36, [], [(0, (gP Zi a0)), (1, .agg (Yl a1)), (2, (vI a2)), (3, (vI a3))]⟩ (Zt O n []) _
 refine zQ [0, 2, 3, 5, 8] ?_
 refine Zc ?_
 refine zQ [0, 2, 3, 5, 8, 14] ?_
 refine Zn (t := (a1.Kind == 4)) rfl (fun c7 => ?_) (fun c7 => ?_)
 ·replace h := Zq c7 h
  refine Zc ?_
  refine zRd [8, 9] [false, true] ?_
  exact Z5 [.agg [(vI 0), (vI 0), (vI 0), (vI 0), (vI 0), (vI 0), (vI 0), (vB false), (vI 0), (vI 0)], (vI 9)]
 replace h := Zp c7 h
 refine Qg [0, 2, 3, 5, 8] [true, true] ?_
 refine Zc ?_
 obtain ⟨y2, hy2, h⟩ := bC h
 refine Gg (Zjv hy2) [0, 2, 3, 5, 8, 10, 11] [true, true] ?_
 refine Zc ?_
 refine zQ [0, 2, 3, 5, 8, 10, 22] ?_
 refine Zn (t := (!y2.2)) rfl (fun c6 => ?_) (fun c6 => ?_)
 ·replace h := Zq c6 h
  refine Zc ?_
  refine zRd [8, 9] [false, true] ?_
  exact Z5 [.agg [(vI 0), (vI 0), (vI 0), (vI 0), (vI 0), (vI 0), (vI 0), (vB false), (vI 0), (vI 0)], (vI 8)]
 replace h := Zp c6 h
 refine Qg [0, 2, 3, 5, 8, 10] [true, true] ?_
 refine Zc ?_
 refine Zc ?_
 obtain ⟨y4, hy4, h⟩ := bC h
 refine Gg (Gf hy4) [2, 3, 5, 8, 29] [true, true] ?_
 refine Zn (t := (!y4)) rfl (fun c5 => ?_) (fun c5 => ?_)
 ·replace h := Zq c5 h
  refine Zc ?_
  refine zRd [8, 9] [false, true] ?_
  exact Z5 [.agg [(vI 0), (vI 0), (vI 0), (vI 0), (vI 0), (vI 0), (vI 0), (vB false), (vI 0), (vI 0)], (vI 7)]
 replace h := Zp c5 h
 refine Qg [2, 3, 5, 8] [true, true] ?_
 refine Zc ?_
 refine zRd [2, 3, 5, 8] [true, true] ?_
 refine Zc ?_
 refine zRd [8, 9] [false, true] ?_
 exact Z5 [.agg [(vI a1.Kind), (vI 0), (vI a1.Data), (vI a1.Ptrs), (vI a1.Code), (vI a1.Count), (vI a1.Segment), (vB a1.Double), (vI a2), (vI a3)], (vI 0)]
theorem Znp {a0 : (Option Zf)} {a1 : Int} {a2 : Int} {r : (Xa × Int)} {O : Objs} {n : Nat} (h : G7 a0 a1 a2 = some r) : GTo Try.prog 74 [(gP Zi a0), (vI a1), (vI a2)] O n (.tup [.agg [(vI r.1.P.Kind), (vI r.1.P.Off), (vI r.1.P.Data), (vI r.1.P.Ptrs), (vI r.1.P.Code), (vI r.1.P.Count), (vI r.1.P.Segment), (vB r.1.P.Double), (vI r.1.Segment), (vI r.1.At)], (vI r.2)]) O n := by
 unfold G7 at h
 refine Uw Try.call74 Try.func74 fun hU hN0 hN => ?_
 show W _ _ _ _ ⟨56, [], [(0, (gP Zi a0)), (1, (vI a1)), (2, (vI a2))]⟩ (Zt O n []) _
 refine zQ [0, 1, 2, 6] ?_
 refine Zc ?_
 obtain ⟨y2, hy2, h⟩ := bC h
 refine Gg (Zg9 hy2) [0, 6, 8, 9] [true] ?_
 refine Zc ?_
 refine zQ [0, 6, 8, 20] ?_
 refine Zn (t := (!y2.2)) rfl (fun c11 => ?_) (fun c11 => ?_)
 ·replace h := Zq c11 h
  refine Zc ?_
  refine zRd [6, 7] [true] ?_
  exact Z5 [.agg [(vI 0), (vI 0), (vI 0), (vI 0), (vI 0), (vI 0), (vI 0), (vB false), (vI 0), (vI 0)], (vI 7)]
 replace h := Zp c11 h
 refine Qg [0, 6, 8] [true] ?_
 obtain ⟨x3, hx3, ax3, bx3, cx3, h⟩ := bE (f := (eI .u64)) Zaj (fun _ => rfl) (by decide) h
 obtain ⟨y4, hy4, h⟩ := bC h
 obtain ⟨x5, hx5, ax5, bx5, cx5, h⟩ := bE (f := (eI .u64)) Zaj (fun _ => rfl) (by decide) h
 obtain ⟨y6, hy6, h⟩ := bC h
 refine Q8 (E' := ⟨56, [], [(0, (gP Zi a0)), (6, .ref n 0), (10, .ref (n + 1) 0), (11, .ref (n + 2) 0)]⟩) (O' := (Zt O n [some ⟨false, 118, 10, 1, [(vI 0), (vI 0), (vI 0), (vI 0), (vI 0), (vI 0), (vI 0), (vB false), (vI 0), (vI 0)]⟩, some ⟨false, 116, 8, 1, (Yl y4)⟩, some ⟨false, 116, 8, 1, (Yl y6)⟩])) (n0 := (n + 3)) ?_ ?_
 ·refine Zuq Zz (by kernel_rfl) [.low, .low, .low, .low, .low, .low, .low, .low, .pass, .pass, .pass, .pass] (fun i => i < (n + 1)) 8 9 [0, 1, 2, 3, 4, 5, 6, 7] [10, 11] [.low, .low, .low, .low, .low, .low, .low, .low] [.pass, .pass, .pass, .pass] [.pass, .pass, .pass, .pass] [] (by kernel_rfl) rfl rfl rfl ?_
  refine zF6 ax3 bx3 cx3 ax5 bx5 cx5 ?_
  repeat (with_reducible refine And.intro (by omega) ?_)
  first | refine PCallA.of (fun _ _ => Ve hy4) ?_ | refine PCall.of (Ve hy4) ?_
  refine zF6 ax3 bx3 cx3 ax5 bx5 cx5 ?_
  repeat (with_reducible refine And.intro (by omega) ?_)
  first | refine PCallA.of (fun _ _ => Ve hy6) ?_ | refine PCall.of (Ve hy6) ?_
  refine zF6 ax3 bx3 cx3 ax5 bx5 cx5 ?_
  repeat (with_reducible refine And.intro (by omega) ?_)
  refine And.intro ?_ ?_
  ·refine zF6 ax3 bx3 cx3 ax5 bx5 cx5 ?_
   repeat (with_reducible refine And.intro (by first | exact Zec rfl | exact Zc0) ?_)
   exact Z7q ax3 bx3 cx3 ax5 bx5 cx5
  refine zF6 ax3 bx3 cx3 ax5 bx5 cx5 ?_
  repeat (with_reducible refine And.intro (by first | exact Zec rfl | exact Zc0) ?_)
  refine And.intro rfl ?_
  refine Fit2.trans (E' := (⟨56, [], [(0, (gP Zi a0)), (6, .ref n 0), (10, .ref (n + 2) 0), (11, .ref (n + 1) 0)]⟩ : Env)) (O' := (Zt O n [some ⟨false, 118, 10, 1, [(vI 0), (vI 0), (vI 0), (vI 0), (vI 0), (vI 0), (vI 0), (vB false), (vI 0), (vI 0)]⟩, some ⟨false, 116, 8, 1, (Yl y6)⟩, some ⟨false, 116, 8, 1, (Yl y4)⟩])) (n' := (n + 3)) (Fit2.of (Ym hU rfl rfl ?_) (by omega)) ?_
  ·exact Z9g ax3 bx3 cx3 ax5 bx5 cx5
  refine Ga (k := 3) (k' := 3) hU [0, 2, 1] [0, 2, 1] rfl rfl rfl rfl ⟨rfl, rfl⟩ ?_
  exact zSe
 refine Zc ?_
 refine zQD [0, 6, 10, 11, 36] [none, none] ?_
 refine Zn (t := (cond (y4.Kind != 3) true y4.Double)) rfl (fun c10 => ?_) (fun c10 => ?_)
 ·replace h := Zq c10 h
  refine Zc ?_
  refine zRd [6, 7] [true, false, false] ?_
  exact Z5 [.agg [(vI 0), (vI 0), (vI 0), (vI 0), (vI 0), (vI 0), (vI 0), (vB false), (vI 0), (vI 0)], (vI 8)]
 replace h := Zp c10 h
 refine Qg [0, 6, 10, 11] [true, true, true] ?_
 refine Zc ?_
 refine zQD [0, 6, 10, 11, 45] [none, none, none] ?_
 refine Zn (t := (cond (y6.Kind != 4) (y6.Off != 0) false)) rfl (fun c9 => ?_) (fun c9 => ?_)
 ·replace h := Zq c9 h
  refine Zc ?_
  refine zRd [6, 7] [true, false, false] ?_
  exact Z5 [.agg [(vI 0), (vI 0), (vI 0), (vI 0), (vI 0), (vI 0), (vI 0), (vB false), (vI 0), (vI 0)], (vI 8)]
 replace h := Zp c9 h
 refine Qg [0, 6, 10, 11] [true, true, true] ?_
 refine Zc ?_
 obtain ⟨y8, hy8, h⟩ := bC h
 refine Gg (Zd8 hy8) [6, 7] [true, false, false] ?_
 exact Z5 [.agg [(vI y8.1.P.Kind), (vI y8.1.P.Off), (vI y8.1.P.Data), (vI y8.1.P.Ptrs), (vI y8.1.P.Code), (vI y8.1.P.Count), (vI y8.1.P.Segment), (vB y8.1.P.Double), (vI y8.1.Segment), (vI y8.1.At)], (vI y8.2)]
theorem Znq {a0 : (Option Zf)} {a1 : Int} {a2 : Int} {r : (Xa × Int)} {O : Objs} {n : Nat} (h : G8 a0 a1 a2 = some r) : GTo Try.prog 75 [(gP Zi a0), (vI a1), (vI a2)] O n (.tup [.agg [(vI r.1.P.Kind), (vI r.1.P.Off), (vI r.1.P.Data), (vI r.1.P.Ptrs), (vI r.1.P.Code), (vI r.1.P.Count), (vI r.1.P.Segment), (vB r.1.P.Double), (vI r.1.Segment), (vI r.1.At)], (vI r.2)]) O n := by
 unfold G8 at h
 refine Uw Try.call75 Try.func75 fun hU hN0 hN => ?_
 show W _ _ _ _ ⟨34, [], [(0, (gP Zi a0)), (1, (vI a1)), (2, (vI a2))]⟩ (Zt O n []) _
 refine zQ [0, 1, 2, 6] ?_
 refine Zc ?_
 obtain ⟨y2, hy2, h⟩ := bC h
 refine Gg (Ks hy2) [0, 1, 2, 6, 8, 9] [true] ?_
 refine Zc ?_
 refine zQ [0, 1, 2, 6, 8, 19] ?_
 refine Zn (t := (!y2.2)) rfl (fun c7 => ?_) (fun c7 => ?_)
 ·replace h := Zq c7 h
  refine Zc ?_
  refine zRd [6, 7] [true] ?_
  exact Z5 [.agg [(vI 0), (vI 0), (vI 0), (vI 0), (vI 0), (vI 0), (vI 0), (vB false), (vI 0), (vI 0)], (vI 7)]
 replace h := Zp c7 h
 refine Qg [0, 1, 2, 6, 8] [true] ?_
 refine Zc ?_
 obtain ⟨y4, hy4, h⟩ := bC h
 refine Gg (Ve hy4) [0, 1, 2, 6, 10] [true, true] ?_
 refine Zc ?_
 obtain ⟨y6, hy6, h⟩ := bC h
 refine Gg (Zd8 hy6) [6, 7] [true, false] ?_
 exact Z5 [.agg [(vI y6.1.P.Kind), (vI y6.1.P.Off), (vI y6.1.P.Data), (vI y6.1.P.Ptrs), (vI y6.1.P.Code), (vI y6.1.P.Count), (vI y6.1.P.Segment), (vB y6.1.P.Double), (vI y6.1.Segment), (vI y6.1.At)], (vI y6.2)]
theorem Zno {a0 : (Option Zf)} {a1 : Int} {a2 : Int} {r : (Xa × Int)} {O : Objs} {n : Nat} (h : G5 a0 a1 a2 = some r) : GTo Try.prog 62 [(gP Zi a0), (vI a1), (vI a2)] O n (.tup [.agg [(vI r.1.P.Kind), (vI r.1.P.Off), (vI r.1.P.Data), (vI r.1.P.Ptrs), (vI r.1.P.Code), (vI r.1.P.Count), (vI r.1.P.Segment), (vB r.1.P.Double), (vI r.1.Segment), (vI r.1.At)], (vI r.2)]) O n := by
 unfold G5 at h
 refine Uw Try.call62 Try.func62 fun hU hN0 hN => ?_
 show W _ _ _ _ ⟨67, [], [(0, (gP Zi a0)), (1, (vI a1)), (2, (vI a2))]⟩ (Zt O n []) _
 refine zQ [0, 1, 2, 6] ?_
 refine Zc ?_
 obtain ⟨y2, hy2, h⟩ := bC h
 refine Gg (Ks hy2) [0, 1, 2, 6, 8, 9] [true] ?_
 refine Zc ?_
 refine zQ [0, 1, 2, 6, 8, 19] ?_
 refine Zn (t := (!y2.2)) rfl (fun c14 => ?_) (fun c14 => ?_)
 ·replace h := Zq c14 h
  refine Zc ?_
  refine zRd [6, 7] [true] ?_
  exact Z5 [.agg [(vI 0), (vI 0), (vI 0), (vI 0), (vI 0), (vI 0), (vI 0), (vB false), (vI 0), (vI 0)], (vI 7)]
 replace h := Zp c14 h
 refine Qg [0, 1, 2, 6, 8] [true] ?_
 refine Zc ?_
 obtain ⟨y4, hy4, h⟩ := bC h
 refine Gg (Ve hy4) [0, 1, 2, 6, 10] [true, true] ?_
 refine Zc ?_
 refine Y4 ?_
 refine zQ [0, 1, 2, 6, 10, 23] ?_
 refine Zn (t := (y4.Kind == 0)) rfl (fun c13 => ?_) (fun c13 => ?_)
 ·replace h := Zq c13 h
  refine Zc ?_
  refine zRd [6, 7] [true, false] ?_
  exact Z5 [.agg [(vI 0), (vI 0), (vI 0), (vI 0), (vI 0), (vI 0), (vI 0), (vB false), (vI 0), (vI 0)], (vI 0)]
 replace h := Zp c13 h
 refine zQD [0, 1, 2, 6, 10, 28] [none, none] ?_
 refine Zn (t := (cond (y4.Kind == 3) y4.Double false)) rfl (fun c12 => ?_) (fun c12 => ?_)
 ·replace h := Zq c12 h
  refine Zc ?_
  obtain ⟨y6, hy6, h⟩ := bC h
  refine Gg (Znp hy6) [6, 7] [true, false] ?_
  exact Z5 [.agg [(vI y6.1.P.Kind), (vI y6.1.P.Off), (vI y6.1.P.Data), (vI y6.1.P.Ptrs), (vI y6.1.P.Code), (vI y6.1.P.Count), (vI y6.1.P.Segment), (vB y6.1.P.Double), (vI y6.1.Segment), (vI y6.1.At)], (vI y6.2)]
 replace h := Zp c12 h
 refine zQ [0, 1, 2, 6, 10, 44] ?_
 refine Zn (t := (y4.Kind == 3)) rfl (fun c11 => ?_) (fun c11 => ?_)
 ·replace h := Zq c11 h
  refine Zc ?_
  obtain ⟨y8, hy8, h⟩ := bC h
  refine Gg (Znq hy8) [6, 7] [true, false] ?_
  exact Z5 [.agg [(vI y8.1.P.Kind), (vI y8.1.P.Off), (vI y8.1.P.Data), (vI y8.1.P.Ptrs), (vI y8.1.P.Code), (vI y8.1.P.Count), (vI y8.1.P.Segment), (vB y8.1.P.Double), (vI y8.1.Segment), (vI y8.1.At)], (vI y8.2)]
 replace h := Zp c11 h
 refine Qg [0, 1, 2, 6, 10] [true, true] ?_
 refine Zc ?_
 obtain ⟨y10, hy10, h⟩ := bC h
 refine Gg (Zd8 hy10) [6, 7] [true, false] ?_
 exact Z5 [.agg [(vI y10.1.P.Kind), (vI y10.1.P.Off), (vI y10.1.P.Data), (vI y10.1.P.Ptrs), (vI y10.1.P.Code), (vI y10.1.P.Count), (vI y10.1.P.Segment), (vB y10.1.P.Double), (vI y10.1.Segment), (vI y10.1.At)], (vI y10.2)]
theorem Zhf {a0 : Za} {r : (Za × Int)} {O : Objs} {n : Nat} (h : Vy a0 = some r) : GTo Try.prog 63 [.agg (Ze a0)] O n (.tup [.agg (Ze r.1), (vI r.2)]) O n := by
 unfold Vy at h
 refine Uw Try.call63 Try.func63 fun hU hN0 hN => ?_
 show W _ _ _ _ ⟨56, [], [(0, .agg (Ze a0))]⟩ (Zt O n []) _
 refine zQ [1, 2] ?_
 refine Zc ?_
 obtain ⟨y2, hy2, h⟩ := bC h
 refine Gg (Ks hy2) [1, 2, 4] [true, true] ?_
 refine Zc ?_
 obtain ⟨y4, hy4, h⟩ := bC h
 refine Gg (Ve hy4) [1, 2, 6] [true, true, true] ?_
 refine Zc ?_
 refine zQD [1, 2, 6, 44] [none, none, none, none, none, none, none, none, none, none, none, none, none, none, none, none, none] ?_
 refine Zn (t := (cond (cond (cond (y4.Kind != 0) (y4.Kind != 1) false) true (decide (y4.Off < 0))) true (decide (a0.count < (IntKind.i64.wrap (y4.Off * (IntKind.i64.wrap (y4.Data + y4.Ptrs)))))))) rfl (fun c5 => ?_) (fun c5 => ?_)
 ·replace h := Zq c5 h
  refine Zc ?_
  refine zRd [2, 3] [false, true, false] ?_
  exact Z5 [.agg [.val (.pointer none), (vI 0), (vI 0), (vI 0), (vI 0), (vI 0), (vI 0), (vI 0), (vI 0)], (vI 8)]
 replace h := Zp c5 h
 refine Qg [1, 2, 6] [true, true, true] ?_
 refine Zc ?_
 refine Zcn Zz (by kernel_rfl) [.plain, .plain, .low, .low, .low, .low, .plain, .pass, .plain, .pass, .plain, .bar] (fun i => i ≠ n + 0) [0, 1, 2, 3, 4, 5, 6, 7, 8, 9, 10, 11] [.plain, .plain, .low, .low, .low, .low, .plain, .pass, .plain, .pass, .plain, .bar] [] (by kernel_rfl) rfl ?_
 refine zS ?_
 refine zO ?_
 refine zDs [1, 2] [true, true, false] ?_
 refine zRd [2, 3] [false, true, false] ?_
 exact Z5 [.agg [(gP Zi a0.a), (vI a0.kind), (vI a0.segment), (vI a0.at_), (vI y4.Data), (vI y4.Ptrs), (vI y4.Off), (vI a0.code), (vI a0.index)], (vI 0)]
theorem Zfb {a0 : (Option Zf)} {a1 : Int} {a2 : Int} {r : (Za × Int)} {O : Objs} {n : Nat} (h : Uh a0 a1 a2 = some r) : GTo Try.prog 42 [(gP Zi a0), (vI a1), (vI a2)] O n (.tup [.agg (Ze r.1), (vI r.2)]) O n := by
 unfold Uh at h
 refine Uw Try.call42 Try.func42 fun hU hN0 hN => ?_
 show W _ _ _ _ ⟨66, [], [(0, (gP Zi a0)), (1, (vI a1)), (2, (vI a2))]⟩ (Zt O n []) _
 refine zQ [0, 1, 2, 6] ?_
 refine Zc ?_
 obtain ⟨y2, hy2, h⟩ := bC h
 refine Gg (Zno hy2) [0, 6, 8, 9] [true, true] ?_
 refine Zc ?_
 refine zQD [0, 6, 8, 9, 25] [none, none, none, none] ?_
 refine Zn (t := (cond (y2.2 != 0) true (y2.1.P.Kind == 0))) rfl (fun c7 => ?_) (fun c7 => ?_)
 ·replace h := Zq c7 h
  refine Zc ?_
  refine zRd [6, 7] [true, false] ?_
  exact Z5 [.agg [.val (.pointer none), (vI 0), (vI 0), (vI 0), (vI 0), (vI 0), (vI 0), (vI 0), (vI 0)], (vI y2.2)]
 replace h := Zp c7 h
 refine Qg [0, 6, 8] [true, true] ?_
 refine Zc ?_
 refine zRd [6, 8, 10] [true, true, true] ?_
 refine Zc ?_
 refine zQ [6, 8, 10, 37] ?_
 refine Zn (t := (y2.1.P.Kind == 1)) rfl (fun c6 => ?_) (fun c6 => ?_)
 ·replace h := Zq c6 h
  refine Zc ?_
  refine Zcn Zz (by kernel_rfl) [.low, .low, .low, .low, .low, .low, .plain, .pass, .plain, .pass, .plain, .bar] (fun i => i ≠ n + 2) [0, 1, 2, 3, 4, 5, 6, 7, 8, 9, 10, 11] [.low, .low, .low, .low, .low, .low, .plain, .pass, .plain, .pass, .plain, .bar] [] (by kernel_rfl) rfl ?_
  refine zS ?_
  refine zO ?_
  refine zDs [6, 10] [true, false, true] ?_
  refine zRd [6, 7] [true, false, false] ?_
  exact Z5 [.agg [(gP Zi a0), (vI 1), (vI y2.1.Segment), (vI y2.1.At), (vI y2.1.P.Data), (vI y2.1.P.Ptrs), (vI 0), (vI 0), (vI 0)], (vI 0)]
 replace h := Zp c6 h
 refine Qg [6, 8, 10] [true, true, true] ?_
 refine Zc ?_
 refine Zcn Zz (by kernel_rfl) [.plain, .plain, .plain, .plain, .low, .low, .low, .plain, .pass, .plain, .bar] (fun i => i ≠ n + 2) [0, 1, 2, 3, 4, 5, 6, 7, 8, 9, 10] [.plain, .plain, .plain, .plain, .low, .low, .low, .plain, .pass, .plain, .bar] [] (by kernel_rfl) rfl ?_
 refine zS ?_
 refine zO ?_
 refine zDs [6, 8, 10] [true, true, true] ?_
 refine zQ [6, 10, 60] ?_
 refine Zn (t := (y2.1.P.Code == 7)) rfl (fun c5 => ?_) (fun c5 => ?_)
 ·replace h := Zq c5 h
  refine Zc ?_
  obtain ⟨y4, hy4, h⟩ := bC h
  refine Gg (Zhf hy4) [6, 7] [true, false, false] ?_
  exact Z5 [.agg (Ze y4.1), (vI y4.2)]
 replace h := Zp c5 h
 refine Qg [6, 10] [true, false, true] ?_
 refine Zc ?_
 refine zRd [6, 7] [true, false, false] ?_
 exact Z5 [.agg [(gP Zi a0), (vI (IntKind.i64.wrap (y2.1.P.Code + 2))), (vI y2.1.Segment), (vI y2.1.At), (vI 0), (vI 0), (vI y2.1.P.Count), (vI 0), (vI 0)], (vI 0)]
theorem Zml {a0 : (Option Zf)} {r : (Za × Int)} {O : Objs} {n : Nat} (h : U3 a0 = some r) : GTo Try.prog 26 [(gP Zi a0)] O n (.tup [.agg (Ze r.1), (vI r.2)]) O n := by
 unfold U3 at h
 refine Uw Try.call26 Try.func26 fun hU hN0 hN => ?_
 show W _ _ _ _ ⟨8, [], [(0, (gP Zi a0))]⟩ (Zt O n []) _
 refine zQ [0, 2] ?_
 refine Zc ?_
 obtain ⟨y2, hy2, h⟩ := bC h
 refine Gg (Zfb hy2) [2, 3] [true] ?_
 exact Z5 [.agg (Ze y2.1), (vI y2.2)]
theorem Zdf {a0 : (List (List Int))} {r : Za} {O : Objs} {n : Nat} (h : J5 a0 = some r) : GTo Try.prog 16 [(sL (eL (eI .u64)) a0)] O n (.agg (Ze r)) O n := by
 unfold J5 at h
 refine Uw Try.call16 Try.func16 fun hU hN0 hN => ?_
 show W _ _ _ _ ⟨12, [], [(0, (sL (eL (eI .u64)) a0))]⟩ (Zt O n []) _
 refine zQ [0, 2] ?_
 refine Zc ?_
 obtain ⟨y3, hy3, h⟩ := bC h
 obtain ⟨y4, hy4, h⟩ := bC h
 refine zC (Zsa hy3) ?_
 refine zTs (Zml hy4) ?_
 refine zDs [2, 3] [true, true] ?_
 refine zRd [2] [true, false] ?_
 exact Z5 [.agg (Ze y4.1)]
theorem Qv {a0 : Za} {r : Int} {O : Objs} {n : Nat} (h : Yx a0 = some r) : GTo Try.prog 44 [.agg (Ze a0)] O n ((vI r)) O n := by
 unfold Yx at h
 refine Uw Try.call44 Try.func44 fun hU hN0 hN => ?_
 show W _ _ _ _ ⟨5, [], [(0, .agg (Ze a0))]⟩ (Zt O n []) _
 refine zQ [1] ?_
 refine zQ [2] ?_
 exact Z5 [(vI a0.kind)]
theorem V0 {a0 : Za} {r : Int} {O : Objs} {n : Nat} (h : Qb a0 = some r) : GTo Try.prog 33 [.agg (Ze a0)] O n ((vI r)) O n := by
 unfold Qb at h
 refine Uw Try.call33 Try.func33 fun hU hN0 hN => ?_
 show W _ _ _ _ ⟨10, [], [(0, .agg (Ze a0))]⟩ (Zt O n []) _
 refine zQ [1] ?_
 refine Zc ?_
 refine zQ [1, 5] ?_
 refine Zn (t := (a0.kind == 1)) rfl (fun c1 => ?_) (fun c1 => ?_)
 ·replace h := Zq c1 h
  refine zQ [2] ?_
  exact Z5 [(vI a0.ptrs)]
 replace h := Zp c1 h
 refine Qg [1] [true] ?_
 refine zQ [2] ?_
 exact Z5 [(vI a0.count)]
theorem K6 {a0 : Za} {a1 : Int} {r : (Za × Int)} {O : Objs} {n : Nat} (h : X8 a0 a1 = some r) : GTo Try.prog 34 [.agg (Ze a0), (vI a1)] O n (.tup [.agg (Ze r.1), (vI r.2)]) O n := by
 unfold X8 at h
 refine Uw Try.call34 Try.func34 fun hU hN0 hN => ?_
 show W _ _ _ _ ⟨81, [], [(0, .agg (Ze a0)), (1, (vI a1))]⟩ (Zt O n []) _
 refine zQ [1, 2, 4] ?_
 refine Zc ?_
 obtain ⟨z2, hz2, h⟩ := bC h
 refine Q8 (E' := ⟨81, [], [(1, (vI a1)), (2, .ref n 0), (4, .ref (n + 1) 0), (14, (vB z2))]⟩) (O' := (Zt O n [some ⟨false, 35, 9, 1, (Ze a0)⟩, some ⟨false, 35, 9, 1, [.val (.pointer none), (vI 0), (vI 0), (vI 0), (vI 0), (vI 0), (vI 0), (vI 0), (vI 0)]⟩])) (n0 := (n + 2)) ?_ ?_
 ·rcases Bool.eq_false_or_eq_true (decide (a1 < 0)) with c5 | c5
  ·replace hz2 := Zq c5 hz2
   refine U8 [some false, some false, some false, some false] c5 ?_
   exact Uv hz2 c5
  replace hz2 := Zp c5 hz2
  obtain ⟨y4, hy4, hz2⟩ := bC hz2
  refine U8 [some true, some true, some true, some true] c5 ?_
  refine (V0 hy4).then ?_
  refine zX1 c5 ?_
  exact Uv hz2 c5
 refine Zn (t := z2) rfl (fun c13 => ?_) (fun c13 => ?_)
 ·replace h := Zq c13 h
  refine Zc ?_
  refine zRd [4, 5] [false, true] ?_
  exact Z5 [.agg [.val (.pointer none), (vI 0), (vI 0), (vI 0), (vI 0), (vI 0), (vI 0), (vI 0), (vI 0)], (vI 0)]
 replace h := Zp c13 h
 refine Qg [1, 2, 4] [true, true] ?_
 refine Zc ?_
 refine zQ [1, 2, 4, 17] ?_
 refine Y4 ?_
 refine zQ [1, 2, 4, 17, 18] ?_
 refine Zn (t := (a0.kind == 1)) rfl (fun c12 => ?_) (fun c12 => ?_)
 ·replace h := Zq c12 h
  refine Zc ?_
  obtain ⟨y7, hy7, h⟩ := bC h
  refine Gg (Zfb hy7) [4, 5] [false, true] ?_
  exact Z5 [.agg (Ze y7.1), (vI y7.2)]
 replace h := Zp c12 h
 refine zQ [1, 2, 4, 17, 34] ?_
 refine Zn (t := (a0.kind == 8)) rfl (fun c11 => ?_) (fun c11 => ?_)
 ·replace h := Zq c11 h
  refine Zc ?_
  obtain ⟨y9, hy9, h⟩ := bC h
  refine Gg (Zfb hy9) [4, 5] [false, true] ?_
  exact Z5 [.agg (Ze y9.1), (vI y9.2)]
 replace h := Zp c11 h
 refine zQ [1, 2, 4, 47] ?_
 refine Zn (t := (a0.kind == 9)) rfl (fun c10 => ?_) (fun c10 => ?_)
 ·replace h := Zq c10 h
  refine zQ [2, 4, 6] ?_
  refine Zc ?_
  refine zRd [4, 5] [false, true] ?_
  exact Z5 [.agg [(gP Zi a0.a), (vI 1), (vI a0.segment), (vI (IntKind.i64.wrap ((IntKind.i64.wrap (a0.at_ + 1)) + (IntKind.i64.wrap (a1 * (IntKind.i64.wrap (a0.words + a0.ptrs))))))), (vI a0.words), (vI a0.ptrs), (vI 0), (vI 0), (vI 0)], (vI 0)]
 replace h := Zp c10 h
 refine Qg [1, 2, 4] [true, true] ?_
 refine Zc ?_
 refine zRd [4, 5] [false, true] ?_
 exact Z5 [.agg [(gP Zi a0.a), (vI 10), (vI a0.segment), (vI a0.at_), (vI 0), (vI 0), (vI 0), (vI (IntKind.i64.wrap (a0.kind - 2))), (vI a1)], (vI 0)]
theorem Zp1 {a0 : Za} {r : (Int × Int)} {O : Objs} {n : Nat} (h : Zbm a0 = some r) : GTo Try.prog 66 [.agg (Ze a0)] O n (.tup [(vI r.1), (vI r.2)]) O n := by
 unfold Zbm at h
 refine Uw Try.call66 Try.func66 fun hU hN0 hN => ?_
 show W _ _ _ _ ⟨29, [], [(0, .agg (Ze a0))]⟩ (Zt O n []) _
 refine zQ [1] ?_
 refine Zc ?_
 obtain ⟨y2, hy2, h⟩ := bC h
 refine Gg (V0 hy2) [1, 4] [true] ?_
 refine Zc ?_
 refine zD [1, 4] [true] ?_
 obtain ⟨z12, hz12, h⟩ := bC h
 refine Gs (J := (Qj (fun z12 => JR n (⟨29, [], [(2, (vI z12.1)), (3, (vI z12.2))]⟩ : Env) (Zt O n [none]) (n + 1)) (fun z12 => JX 0 n (⟨29, [], []⟩ : Env) (Zt O n [none]) (n + 1)))) (z := z12) ?_ fun hw => ?_
 ·refine Qo hz12 (fun s0_ => ⟨29, [], [(1, .ref n 0), (4, (vI s0_))]⟩) (fun s0_ => (Zt O n [some ⟨false, 35, 9, 1, (Ze a0)⟩])) (Qj (fun z12 => JR n (⟨29, [], [(2, (vI z12.1)), (3, (vI z12.2))]⟩ : Env) (Zt O n [none]) (n + 1)) (fun z12 => JX 0 n (⟨29, [], []⟩ : Env) (Zt O n [none]) (n + 1))) ?_
  intro s0_ x0_ hs0_
  unfold G4 at hs0_
  try dsimp only
  refine Zc ?_
  refine zQ [1, 4, 10] ?_
  refine Zn (t := (decide (0 < s0_))) rfl (fun c11 => ?_) (fun c11 => ?_)
  ·replace hs0_ := Zq c11 hs0_
   refine Qg [1, 4] [true] ?_
   refine Y4 ?_
   refine Zc ?_
   obtain ⟨y4, hy4, hs0_⟩ := bC hs0_
   refine Gg (K6 hy4) [1, 4, 5, 6] [true, true] ?_
   refine Zc ?_
   obtain ⟨z6, hz6, hs0_⟩ := bC hs0_
   refine Q8 (E' := ⟨29, [], [(1, .ref n 0), (4, (vI s0_)), (6, (vI y4.2)), (24, (vB z6))]⟩) (O' := (Zt O n [some ⟨false, 35, 9, 1, (Ze a0)⟩, none])) (n0 := (n + 2)) ?_ ?_
   ·rcases Bool.eq_false_or_eq_true (y4.2 != 0) with c9 | c9
    ·replace hz6 := Zq c9 hz6
     refine U8 [some false, some false, some false] c9 ?_
     exact Uv hz6 c9
    replace hz6 := Zp c9 hz6
    obtain ⟨y8, hy8, hz6⟩ := bC hz6
    refine U8 [some true, some true, some true] c9 ?_
    refine (Qv hy8).then ?_
    refine zX1 c9 ?_
    exact Uv hz6 c9
   refine Zn (t := z6) rfl (fun c10 => ?_) (fun c10 => ?_)
   ·replace hs0_ := Zq c10 hs0_
    refine zQ [2, 3] ?_
    refine zW ?_
    exact zEy hs0_
   replace hs0_ := Zp c10 hs0_
   refine Qg [1, 4] [true, false] ?_
   refine zR ?_
   exact zEn hs0_
  replace hs0_ := Zp c11 hs0_
  exact zEx hs0_
 rcases z12 with z12 | z12
 ·dsimp only [Qj] at hw h
  refine Ky hw ?_
  try simp only [Xc, Yn, ↓reduceIte, Nat.reduceEqDiff]
  exact Znv [(vI z12.1), (vI z12.2)]
 dsimp only [Qj] at hw h
 refine Xo hw ?_
 try simp only [Xc, Yn, ↓reduceIte, Nat.reduceEqDiff]
 refine zD [] [false] ?_
 refine zQ [2, 3] ?_
 exact Z5 [(vI 0), (vI 0)]
theorem Zd7 {a0 : Za} {r : (Int × Int)} {O : Objs} {n : Nat} (h : Vw a0 = some r) : GTo Try.prog 46 [.agg (Ze a0)] O n (.tup [(vI r.1), (vI r.2)]) O n := by
 unfold Vw at h
 refine Uw Try.call46 Try.func46 fun hU hN0 hN => ?_
 show W _ _ _ _ ⟨20, [], [(0, .agg (Ze a0))]⟩ (Zt O n []) _
 refine zQ [1] ?_
 refine Zc ?_
 refine Zc ?_
 obtain ⟨y2, hy2, h⟩ := bC h
 refine Gg (Qv hy2) [1, 8] [true] ?_
 refine Zn (t := (y2 != 1)) rfl (fun c8 => ?_) (fun c8 => ?_)
 ·replace h := Zq c8 h
  refine Zc ?_
  obtain ⟨y4, hy4, h⟩ := bC h
  refine Gg (V0 hy4) [2, 3] [false] ?_
  exact Z5 [(vI y4), (vI 0)]
 replace h := Zp c8 h
 refine Qg [1] [true] ?_
 refine Zc ?_
 obtain ⟨y6, hy6, h⟩ := bC h
 refine Gg (Zp1 hy6) [4, 5] [false] ?_
 refine Zc ?_
 refine zQ [4, 5, 17] ?_
 refine Zn (t := (y6.2 != 0)) rfl (fun c7 => ?_) (fun c7 => ?_)
 ·replace h := Zq c7 h
  refine zQ [2, 3] ?_
  exact Z5 [(vI 0), (vI y6.2)]
 replace h := Zp c7 h
 refine Qg [4] [false] ?_
 refine zQ [2, 3] ?_
 exact Z5 [(vI y6.1), (vI 0)]
theorem Vh {a0 : Zo} {a1 : Int} {r : Zo} {O : Objs} {n : Nat} {i0 : Nat} (hi0 : i0 < n) (ho0 : O i0 = some ⟨false, 74, 2, 1, [.val (.int .u64 a0.sum), (vI a0.left)]⟩) (h : X2 a0 a1 = some r) : GTo Try.prog 48 [.ref i0 0, .val (.int .u64 a1)] O n (.tup []) (Zt (O.upd i0 (some ⟨false, 74, 2, 1, [.val (.int .u64 r.sum), (vI r.left)]⟩)) n []) (n + 0) := by
 unfold X2 at h
 refine Zf0 Zz Try.call48 Try.func48 rfl (Nat.le_of_ble_eq_true rfl) (by omega) fun hU => ?_
 rw [show Zt O n [] = Zt (O.upd i0 (some ⟨false, 74, 2, 1, [.val (.int .u64 a0.sum), (vI a0.left)]⟩)) n [] from by rw [Zgr (show O i0 = _ from by exact ho0)]]
 have hk0 : ∀ k, i0 < n + k := fun k => by omega
 have hN0 : ∀ o, Objs.upd O i0 o n = none := fun o => Qh hU hi0 _ (Nat.le_refl _)
 have hN : ∀ o k, Objs.upd O i0 o (n + k) = none := fun o k => Qh hU hi0 _ (Nat.le_add_right _ _)
 show W _ _ _ _ ⟨26, [], [(0, .ref i0 0), (1, .val (.int .u64 a1))]⟩ (Zt (O.upd i0 (some ⟨false, 74, 2, 1, [.val (.int .u64 a0.sum), (vI a0.left)]⟩)) n []) _
 refine Zc ?_
 refine Qq [] hi0 hk0 ?_
 refine zD [0] [] ?_
 refine Zgu Zz (by kernel_rfl) [false, false, false, false, false, false, false, false, false, false, false, false, true] [] (by kernel_rfl) ?_
 refine zX2 hi0 hk0 ?_
 obtain rfl := sI h
 refine Qk (k := 0) (i := i0) (q1 := ⟨false, 74, 2, 1, [.val (.int .u64 (IntKind.u64.wrap (Zbl .u64 (IntKind.u64.wrap ((IntKind.u64.wrap (Zbl .u64 a0.sum a1)) * 11400714819323198485)) (Int.fdiv (IntKind.u64.wrap ((IntKind.u64.wrap (Zbl .u64 a0.sum a1)) * 11400714819323198485)) (2 ^ min (Int.toNat 32) 64))))), (vI a0.left)]⟩) (L3 := [none]) (E2 := (⟨26, [], []⟩ : Env)) (n3 := (n + 1)) (.inl rfl) hU rfl [] ?_ ?_
 ·refine Fit2.trans (E' := (⟨26, [], []⟩ : Env)) (O' := (Zt (O.upd i0 (some ⟨false, 74, 2, 1, [.val (.int .u64 (IntKind.u64.wrap (Zbl .u64 (IntKind.u64.wrap ((IntKind.u64.wrap (Zbl .u64 a0.sum a1)) * 11400714819323198485)) (Int.fdiv (IntKind.u64.wrap ((IntKind.u64.wrap (Zbl .u64 a0.sum a1)) * 11400714819323198485)) (2 ^ min (Int.toNat 32) 64))))), (vI a0.left)]⟩)) n [])) (n' := n) (Fit2.of (Z0 hU rfl rfl ?_) (by omega)) ?_
  ·exact Y7 hi0 hk0
  refine Xg (k := 0) (k' := 1) hU [] [0] rfl rfl rfl rfl ⟨rfl, rfl⟩ ?_
  exact Y7 hi0 hk0
 simp only [push_cast, seval, ↓reduceIte, Zj, Try.results48, hi0, hk0, hN0, hN]
theorem Zch {a0 : Za} {r : Int} {O : Objs} {n : Nat} (h : Jr a0 = some r) : GTo Try.prog 67 [.agg (Ze a0)] O n ((vI r)) O n := by
 unfold Jr at h
 refine Uw Try.call67 Try.func67 fun hU hN0 hN => ?_
 show W _ _ _ _ ⟨11, [], [(0, .agg (Ze a0))]⟩ (Zt O n []) _
 refine zQ [1] ?_
 refine Zc ?_
 refine zQ [1, 4] ?_
 refine Y4 ?_
 refine zQ [1, 4, 5] ?_
 refine Zn (t := (a0.kind == 1)) rfl (fun c2 => ?_) (fun c2 => ?_)
 ·replace h := Zq c2 h
  refine zQ [2] ?_
  exact Z5 [(vI a0.words)]
 replace h := Zp c2 h
 refine zQ [9] ?_
 refine Zn (t := (a0.kind == 10)) rfl (fun c1 => ?_) (fun c1 => ?_)
 ·replace h := Zq c1 h
  refine zQ [2] ?_
  exact Z5 [(vI 1)]
 replace h := Zp c1 h
 refine Qg [] [false] ?_
 refine zQ [2] ?_
 exact Z5 [(vI 0)]
theorem Zhq {a0 : Int} {r : (Int × Bool)} {O : Objs} {n : Nat} (h : Uq a0 = some r) : GTo Try.prog 77 [(vI a0)] O n (.tup [(vI r.1), (vB r.2)]) O n := by
 unfold Uq at h
 refine Uw Try.call77 Try.func77 fun hU hN0 hN => ?_
 show W _ _ _ _ ⟨15, [], [(0, (vI a0))]⟩ (Zt O n []) _
 refine zQ [0] ?_
 refine Zc ?_
 obtain ⟨y6, hy6, ey6, h⟩ := bY (f := (eI .i64)) (cs := [.val (.int .i64 0), .val (.int .i64 1), .val (.int .i64 8), .val (.int .i64 16), .val (.int .i64 32), .val (.int .i64 64)]) rfl h
 have g7 := congrArg G.agg ey6
 obtain ⟨y8, hy8, ey8, h⟩ := bY (f := (eI .i64)) (cs := [.val (.int .i64 0), .val (.int .i64 0), .val (.int .i64 0), .val (.int .i64 0), .val (.int .i64 0), .val (.int .i64 0)]) rfl h
 have g9 := congrArg (GObj.mk false 135 6 1) ey8
 have g10 := Zl6 (f := (eI .i64)) y8 y6 (fun _ => rfl)
 refine Zjg [] g7 g9 g10 ?_
 refine zDs [0, 4] [true] ?_
 refine zQD [0, 4, 11] [none, none] ?_
 refine Zn (t := (cond (decide (a0 < 0)) true (decide (6 ≤ a0)))) rfl (fun c13 => ?_) (fun c13 => ?_)
 ·replace h := Zq c13 h
  refine zQ [2, 3] ?_
  exact Z5 [(vI 0), (vB false)]
 replace h := Zp c13 h
 refine Qg [0, 4] [true] ?_
 obtain ⟨x12, hx12, ax12, bx12, cx12, h⟩ := bEA (f := (eI .i64)) (b := 6) rfl Zm5 (fun _ => rfl) (by decide) h
 refine U0 [2, 3] (Z8 Zz [] ?_)
 refine zF3 ax12 bx12 cx12 ?_
 exact Z5 [(vI x12), (vB true)]
theorem Zsb {a0 : (List Int)} {a1 : Int} {a2 : Int} {r : Int} {O : Objs} {n : Nat} (h : Zde a0 a1 a2 = some r) : GTo Try.prog 78 [(sL (eI .u64) a0), (vI a1), (vI a2)] O n (.val (.int .u64 r)) O n := by
 unfold Zde at h
 refine Uw Try.call78 Try.func78 fun hU hN0 hN => ?_
 show W _ _ _ _ ⟨45, [], [(0, (sL (eI .u64) a0)), (1, (vI a1)), (2, (vI a2))]⟩ (Zt O n []) _
 refine zQ [0, 1, 2] ?_
 refine Zc ?_
 obtain ⟨y2, hy2, h⟩ := bC h
 refine Gg (Zhq hy2) [0, 2, 7] [] ?_
 refine Zc ?_
 refine zQD [0, 2, 7, 20] [none, none] ?_
 refine Zn (t := (cond (y2.1 == 0) true (decide (a2 < 0)))) rfl (fun c18 => ?_) (fun c18 => ?_)
 ·replace h := Zq c18 h
  refine zQ [6] ?_
  exact Z5 [.val (.int .u64 0)]
 replace h := Zp c18 h
 refine Qg [0, 2, 7] [] ?_
 obtain ⟨pu4, h⟩ := bG h
 refine U0 [0, 2, 7, 9] (Z8 Zz [] ?_)
 simp only [push_cast, seval, ↓reduceIte, Zj, pu4, hN0, hN]
 refine Zc ?_
 obtain ⟨pu6, h⟩ := bG h
 refine U0 [0, 2, 7, 9, 28] (Z8 Zz [] ?_)
 simp only [push_cast, seval, ↓reduceIte, Zj, pu6, hN0, hN]
 refine Zn (t := (decide ((a0.length : Int) ≤ (IntKind.i64.wrap (Int.tdiv a2 (IntKind.i64.wrap (Int.tdiv 64 y2.1))))))) rfl (fun c17 => ?_) (fun c17 => ?_)
 ·replace h := Zq c17 h
  refine zQ [6] ?_
  exact Z5 [.val (.int .u64 0)]
 replace h := Zp c17 h
 refine Qg [0, 2, 7, 9] [] ?_
 obtain ⟨pu12, h⟩ := bG h
 obtain ⟨x13, hx13, ax13, bx13, cx13, h⟩ := bE (f := (eI .u64)) Zaj (fun _ => rfl) (by decide) h
 obtain ⟨pu14, h⟩ := bG h
 obtain ⟨pu15, h⟩ := bG h
 obtain ⟨pu16, h⟩ := bG h
 refine U0 [6] (Ke Zz (by kernel_rfl) [] (by kernel_rfl) ?_)
 refine zF7 pu12 ax13 bx13 cx13 pu14 pu15 pu16 ?_
 exact Z5 [.val (.int .u64 (IntKind.u64.wrap (Ub .u64 (Int.fdiv x13 (2 ^ min (Int.toNat (IntKind.i64.wrap ((Int.tmod a2 (IntKind.i64.wrap (Int.tdiv 64 y2.1))) * y2.1))) 64)) (IntKind.u64.wrap ((IntKind.u64.wrap (1 * 2 ^ min (Int.toNat y2.1) 64)) - 1)))))]
theorem Zgh {a0 : Za} {r : Int} {O : Objs} {n : Nat} (h : Kc a0 = some r) : GTo Try.prog 68 [.agg (Ze a0)] O n (.val (.int .u64 r)) O n := by
 unfold Kc at h
 refine Uw Try.call68 Try.func68 fun hU hN0 hN => ?_
 show W _ _ _ _ ⟨42, [], [(0, .agg (Ze a0))]⟩ (Zt O n []) _
 refine zQ [1] ?_
 refine Zc ?_
 obtain ⟨y2, hy2, h⟩ := bC h
 refine Gg (Zhq hy2) [1, 3] [true] ?_
 refine Zc ?_
 refine zQ [1, 3, 15] ?_
 refine Zn (t := (y2.1 == 0)) rfl (fun c13 => ?_) (fun c13 => ?_)
 ·replace h := Zq c13 h
  refine zQ [2] ?_
  exact Z5 [.val (.int .u64 0)]
 replace h := Zp c13 h
 refine Qg [1, 3] [true] ?_
 obtain ⟨pu4, h⟩ := bG h
 refine U0 [1, 5] (Z8 Zz [] ?_)
 simp only [push_cast, seval, ↓reduceIte, Zj, pu4, hN0, hN]
 refine Zc ?_
 obtain ⟨pu7, h⟩ := bG h
 obtain ⟨y8, hy8, h⟩ := bC h
 refine Ke Zz (by kernel_rfl) [] (by kernel_rfl) ?_
 simp only [push_cast, seval, ↓reduceIte, Zj, pu7, hN0, hN]
 refine PCall.of (Ks hy8) ?_
 simp only [push_cast, seval, ↓reduceIte, Zj, pu7, hN0, hN]
 refine zDs [1, 5, 6] [true] ?_
 obtain ⟨pu11, h⟩ := bG h
 obtain ⟨y12, hy12, h⟩ := bC h
 refine Zcn Zz (by kernel_rfl) [.plain, .pass, .low, .low, .low, .low, .plain, .low, .bar, .plain] (fun i => i < (n + 1)) [0, 2, 3, 4, 5, 6, 7, 1, 8, 9] [.plain, .low, .low, .low, .low, .plain, .low, .pass, .bar, .plain] [] (by kernel_rfl) rfl ?_
 simp only [push_cast, seval, ↓reduceIte, Zj, pu11, hN0, hN]
 refine zO ?_
 refine GCalls.lend (Zsb hy12) rfl ?_ ?_
 ·simp only [push_cast, seval, ↓reduceIte, Zj, pu11, hN0, hN]
 simp only [push_cast, seval, ↓reduceIte, Zj, pu11, hN0, hN]
 refine zO ?_
 refine Ut ⟨42, [], [(2, .val (.int .u64 y12))]⟩ (Zt O n [none, none]) (Ym hU rfl rfl ?_) ?_
 ·simp only [push_cast, seval, ↓reduceIte, Zj, pu11, hN0, hN]
 exact Z5 [.val (.int .u64 y12)]
attribute [local push_cast] Try.results11 Try.results12 Try.results15 Try.results18 Try.results21 Try.results28 Try.results29 Try.results32 Try.results45 Try.results47 Try.results49 Try.results50 Try.results53 Try.results54 Try.results55 Try.results56 Try.results65
theorem V1 {a0 : Za} {a1 : Int} {r : Int} {O : Objs} {n : Nat} (h : Qc a0 a1 = some r) : GTo Try.prog 50 [.agg (Ze a0), (vI a1)] O n (.val (.int .u64 r)) O n := by
 unfold Qc at h
 refine Uw Try.call50 Try.func50 fun hU hN0 hN => ?_
 show W _ _ _ _ ⟨33, [], [(0, .agg (Ze a0)), (1, (vI a1))]⟩ (Zt O n []) _
 refine zQ [1, 2] ?_
 refine Zc ?_
 obtain ⟨z2, hz2, h⟩ := bC h
 refine Q8 (E' := ⟨33, [], [(1, (vI a1)), (2, .ref n 0), (14, (vB z2))]⟩) (O' := (Zt O n [some ⟨false, 35, 9, 1, (Ze a0)⟩])) (n0 := (n + 1)) ?_ ?_
 ·rcases Bool.eq_false_or_eq_true (decide (a1 < 0)) with c5 | c5
  ·replace hz2 := Zq c5 hz2
   refine U8 [some false, some false, some false, some false] c5 ?_
   exact Uv hz2 c5
  replace hz2 := Zp c5 hz2
  obtain ⟨y4, hy4, hz2⟩ := bC hz2
  refine U8 [some true, some true, some true, some true] c5 ?_
  refine (Zch hy4).then ?_
  refine zX1 c5 ?_
  exact Uv hz2 c5
 refine Zn (t := z2) rfl (fun c11 => ?_) (fun c11 => ?_)
 ·replace h := Zq c11 h
  refine zQ [4] ?_
  exact Z5 [.val (.int .u64 0)]
 replace h := Zp c11 h
 refine Qg [1, 2] [true] ?_
 refine Zc ?_
 refine zQ [1, 2, 17] ?_
 refine Zn (t := (a0.kind == 10)) rfl (fun c10 => ?_) (fun c10 => ?_)
 ·replace h := Zq c10 h
  refine Zc ?_
  obtain ⟨y7, hy7, h⟩ := bC h
  refine Gg (Zgh hy7) [4] [false] ?_
  exact Z5 [.val (.int .u64 y7)]
 replace h := Zp c10 h
 refine Qg [1, 2] [true] ?_
 refine Zc ?_
 obtain ⟨y9, hy9, h⟩ := bC h
 refine Gg (Ks hy9) [5] [false] ?_
 refine zQ [4] ?_
 exact Z5 [.val (.int .u64 y9.1)]
theorem Ze9 {a0 : Za} {r : Int} {O : Objs} {n : Nat} (h : Ue a0 = some r) : GTo Try.prog 65 [.agg (Ze a0)] O n ((vI r)) O n := by
 unfold Ue at h
 refine Uw Try.call65 Try.func65 fun hU hN0 hN => ?_
 show W _ _ _ _ ⟨18, [], [(0, .agg (Ze a0))]⟩ (Zt O n []) _
 refine zQ [1] ?_
 refine Zc ?_
 obtain ⟨y2, hy2, h⟩ := bC h
 refine Gg (Zch hy2) [1, 3] [true] ?_
 refine Zc ?_
 refine zD [1, 3] [true] ?_
 obtain ⟨z9, hz9, h⟩ := bC h
 refine Xo (E' := ⟨18, [], [(3, (vI z9))]⟩) (O' := (Zt O n [none])) (n0 := (n + 1)) ?_ ?_
 ·refine Qo hz9 (fun s0_ => ⟨18, [], [(1, .ref n 0), (3, (vI s0_))]⟩) (fun s0_ => (Zt O n [some ⟨false, 35, 9, 1, (Ze a0)⟩])) (fun z9 => JX 0 n (⟨18, [], [(3, (vI z9))]⟩ : Env) (Zt O n [none]) (n + 1)) ?_
  intro s0_ x0_ hs0_
  unfold G3 at hs0_
  try dsimp only
  refine Zc ?_
  obtain ⟨z4, hz4, hs0_⟩ := bC hs0_
  refine Q8 (E' := ⟨18, [], [(1, .ref n 0), (3, (vI s0_)), (14, (vB z4))]⟩) (O' := (Zt O n [some ⟨false, 35, 9, 1, (Ze a0)⟩])) (n0 := (n + 1)) ?_ ?_
  ·rcases Bool.eq_false_or_eq_true (decide (0 < s0_)) with c7 | c7
   ·replace hz4 := Zq c7 hz4
    obtain ⟨y6, hy6, hz4⟩ := bC hz4
    refine U8 [some true, some true, some true, some true, some true] c7 ?_
    refine (V1 hy6).then ?_
    refine zX1 c7 ?_
    exact Uv hz4 c7
   replace hz4 := Zp c7 hz4
   refine U8 [some false, some false, some false, some false, some false] c7 ?_
   exact Uv hz4 c7
  refine Zn (t := z4) rfl (fun c8 => ?_) (fun c8 => ?_)
  ·replace hs0_ := Zq c8 hs0_
   refine Qg [1, 3] [true] ?_
   refine Y4 ?_
   refine zR ?_
   exact zEn hs0_
  replace hs0_ := Zp c8 hs0_
  exact zEx hs0_
 try simp only [Xc, Yn, ↓reduceIte, Nat.reduceEqDiff]
 refine zD [3] [false] ?_
 refine zQ [2] ?_
 exact Z5 [(vI z9)]
theorem Zdq {a0 : Za} {a2 : Zo} {r : Zo} {O : Objs} {n : Nat} {i2 : Nat} (hi2 : i2 < n) (ho2 : O i2 = some ⟨false, 74, 2, 1, [.val (.int .u64 a2.sum), (vI a2.left)]⟩) (h : Qm a0 a2 = some r) : GTo Try.prog 49 [.agg (Ze a0), .fn 50 0 [], .fn 48 1 [.ref i2 0]] O n (.tup []) (Zt (O.upd i2 (some ⟨false, 74, 2, 1, [.val (.int .u64 r.sum), (vI r.left)]⟩)) n []) (n + 0) := by
 unfold Qm at h
 refine Zf0 Zz Try.call49 Try.func49 rfl (Nat.le_of_ble_eq_true rfl) (by omega) fun hU => ?_
 rw [show Zt O n [] = Zt (O.upd i2 (some ⟨false, 74, 2, 1, [.val (.int .u64 a2.sum), (vI a2.left)]⟩)) n [] from by rw [Zgr (show O i2 = _ from by exact ho2)]]
 have hk2 : ∀ k, i2 < n + k := fun k => by omega
 have hN0 : ∀ o, Objs.upd O i2 o n = none := fun o => Qh hU hi2 _ (Nat.le_refl _)
 have hN : ∀ o k, Objs.upd O i2 o (n + k) = none := fun o k => Qh hU hi2 _ (Nat.le_add_right _ _)
 show W _ _ _ _ ⟨25, [], [(0, .agg (Ze a0)), (1, .fn 50 0 []), (2, .fn 48 1 [.ref i2 0])]⟩ (Zt (O.upd i2 (some ⟨false, 74, 2, 1, [.val (.int .u64 a2.sum), (vI a2.left)]⟩)) n []) _
 refine Q7 [1, 2, 3] hi2 hk2 ?_
 refine Zc ?_
 obtain ⟨y2, hy2, h⟩ := bC h
 refine Qq [] hi2 hk2 ?_
 refine (Ze9 hy2).then ?_
 refine zX2 hi2 hk2 ?_
 refine zDs [1, 2, 3, 6] [true] ?_
 obtain ⟨y4, hy4, h⟩ := bC h
 refine Qq [] hi2 hk2 ?_
 refine (Vh (i0 := i2) (by omega) (by simp only [push_cast, seval, ↓reduceIte, Zj, Q9, hi2, hk2, hN0, hN] <;> rfl) hy4).then ?_
 refine zX2 hi2 hk2 ?_
 refine zD [1, 2, 3, 6] [true] ?_
 refine Q7 [1, 2, 3, 14, 15] hi2 hk2 ?_
 refine zD [1, 2, 3, 14, 15] [true] ?_
 obtain ⟨z8, hz8, h⟩ := bC h
 refine Xo (E' := ⟨25, [], []⟩) (O' := (Zt (O.upd i2 (some ⟨false, 74, 2, 1, [.val (.int .u64 z8.1), (vI z8.2)]⟩)) n [none])) (n0 := (n + 1)) ?_ ?_
 ·refine Qo hz8 (fun s0_ => ⟨25, [], [(1, .fn 50 0 []), (2, .fn 48 1 [.ref i2 0]), (3, .ref n 0), (14, (vI y2)), (15, (vI s0_.1))]⟩) (fun s0_ => (Zt (O.upd i2 (some ⟨false, 74, 2, 1, [.val (.int .u64 s0_.2.1), (vI s0_.2.2)]⟩)) n [some ⟨false, 35, 9, 1, (Ze a0)⟩])) (fun z8 => JX 0 n (⟨25, [], []⟩ : Env) (Zt (O.upd i2 (some ⟨false, 74, 2, 1, [.val (.int .u64 z8.1), (vI z8.2)]⟩)) n [none]) (n + 1)) ?_
  intro s0_ x0_ hs0_
  unfold Xx at hs0_
  try dsimp only
  refine Q7 [1, 2, 3, 14, 15, 16] hi2 hk2 ?_
  refine Zc ?_
  refine Zn (t := (decide (s0_.1 < y2))) rfl (fun c7 => ?_) (fun c7 => ?_)
  ·replace hs0_ := Zq c7 hs0_
   refine Qg [1, 2, 3, 14, 15] [true] ?_
   refine Zc ?_
   refine Y4 ?_
   refine Q7 [1, 2, 3, 7, 14, 15] hi2 hk2 ?_
   obtain ⟨y5, hy5, hs0_⟩ := bC hs0_
   obtain ⟨y6, hy6, hs0_⟩ := bC hs0_
   refine Qq [] hi2 hk2 ?_
   refine (V1 hy5).then ?_
   refine zX2 hi2 hk2 ?_
   refine (Vh (i0 := i2) (by omega) (by simp only [push_cast, seval, ↓reduceIte, Zj, Q9, hi2, hk2, hN0, hN] <;> rfl) hy6).then ?_
   refine zX2 hi2 hk2 ?_
   refine zD [1, 2, 3, 14, 15] [true] ?_
   refine Qq [] hi2 hk2 ?_
   obtain rfl := sI hs0_
   refine And.intro rfl (Fit2.of (Z0 hU rfl rfl ?_) (by omega))
   exact Y7 hi2 hk2
  replace hs0_ := Zp c7 hs0_
  refine zXt ?_
  obtain rfl := sI hs0_
  refine And.intro (fun h => by cases h) (And.intro rfl (Fit2.of (Z0 hU rfl rfl ?_) (by omega)))
  exact Y7 hi2 hk2
 try simp only [Xc, Yn, ↓reduceIte, Nat.reduceEqDiff]
 obtain rfl := sI h
 refine Qk (k := 0) (i := i2) (q1 := ⟨false, 74, 2, 1, [.val (.int .u64 z8.1), (vI z8.2)]⟩) (L3 := [none]) (E2 := (⟨25, [], []⟩ : Env)) (n3 := (n + 1)) (.inl rfl) hU rfl [] ?_ ?_
 ·refine Fit2.trans (E' := (⟨25, [], []⟩ : Env)) (O' := (Zt (O.upd i2 (some ⟨false, 74, 2, 1, [.val (.int .u64 z8.1), (vI z8.2)]⟩)) n [none])) (n' := (n + 1)) (Fit2.of (Z0 hU rfl rfl ?_) (by omega)) ?_
  ·exact Y7 hi2 hk2
  refine Xg (k := 1) (k' := 1) hU [0] [0] rfl rfl rfl rfl ⟨rfl, rfl⟩ ?_
  exact Y7 hi2 hk2
 simp only [push_cast, seval, ↓reduceIte, Zj, Try.results49, hi2, hk2, hN0, hN]
def Gj (Xl : (Zo → Za → Option (Int × Zo))) : Prop := ∀ {a0 : Zo} {a1 : Za} {r : (Int × Zo)} {O : Objs} {n : Nat} {i0 : Nat}, i0 < n → O i0 = some ⟨false, 74, 2, 1, [.val (.int .u64 a0.sum), (vI a0.left)]⟩ → Xl a0 a1 = some r → GTo Try.prog 29 [.ref i0 0, .agg (Ze a1)] O n ((vI r.1)) (Zt (O.upd i0 (some ⟨false, 74, 2, 1, [.val (.int .u64 r.2.sum), (vI r.2.left)]⟩)) n []) (n + 0)
theorem Zfd {Xl : (Zo → Za → Option (Int × Zo))} (Zek : Gj Xl) {a0 : Zo} {a1 : Za} {r : (Int × Zo)} {O : Objs} {n : Nat} {i0 : Nat} (hi0 : i0 < n) (ho0 : O i0 = some ⟨false, 74, 2, 1, [.val (.int .u64 a0.sum), (vI a0.left)]⟩) (h : Xj Xl a0 a1 = some r) : GTo Try.prog 29 [.ref i0 0, .agg (Ze a1)] O n ((vI r.1)) (Zt (O.upd i0 (some ⟨false, 74, 2, 1, [.val (.int .u64 r.2.sum), (vI r.2.left)]⟩)) n []) (n + 0) := by
 unfold Xj at h
 refine Zf0 Zz Try.call29 Try.func29 rfl (Nat.le_of_ble_eq_true rfl) (by omega) fun hU => ?_
 rw [show Zt O n [] = Zt (O.upd i0 (some ⟨false, 74, 2, 1, [.val (.int .u64 a0.sum), (vI a0.left)]⟩)) n [] from by rw [Zgr (show O i0 = _ from by exact ho0)]]
 have hk0 : ∀ k, i0 < n + k := fun k => by omega
 have hN0 : ∀ o, Objs.upd O i0 o n = none := fun o => Qh hU hi0 _ (Nat.le_refl _)
 have hN : ∀ o k, Objs.upd O i0 o (n + k) = none := fun o k => Qh hU hi0 _ (Nat.le_add_right _ _)
 show W _ _ _ _ ⟨64, [], [(0, .ref i0 0), (1, .agg (Ze a1))]⟩ (Zt (O.upd i0 (some ⟨false, 74, 2, 1, [.val (.int .u64 a0.sum), (vI a0.left)]⟩)) n []) _
 refine Q7 [0, 3] hi0 hk0 ?_
 refine Zc ?_
 refine Q7 [0, 3, 15] hi0 hk0 ?_
 refine Zn (t := (a0.left == 0)) rfl (fun c20 => ?_) (fun c20 => ?_)
 ·replace h := Zq c20 h
  refine Q7 [4] hi0 hk0 ?_
  refine zW ?_
  obtain rfl := sI h
  refine Qk (k := 0) (i := i0) (q1 := ⟨false, 74, 2, 1, [.val (.int .u64 a0.sum), (vI a0.left)]⟩) (L3 := [none]) (E2 := (⟨64, [], [(4, (vI 3))]⟩ : Env)) (n3 := (n + 1)) (.inr rfl) hU rfl [(vI 3)] ?_ ?_
  ·refine Fit2.trans (E' := (⟨64, [], [(4, (vI 3))]⟩ : Env)) (O' := (Zt (O.upd i0 (some ⟨false, 74, 2, 1, [.val (.int .u64 a0.sum), (vI a0.left)]⟩)) n [none])) (n' := (n + 1)) (Fit2.of (Z0 hU rfl rfl ?_) (by omega)) ?_
   ·exact Y7 hi0 hk0
   refine Xg (k := 1) (k' := 1) hU [0] [0] rfl rfl rfl rfl ⟨rfl, rfl⟩ ?_
   exact Y7 hi0 hk0
  simp only [push_cast, seval, ↓reduceIte, Zj, Try.results29, hi0, hk0, hN0, hN]
 replace h := Zp c20 h
 refine Qg [0, 3] [true] ?_
 refine Zc ?_
 refine Qq [] hi0 hk0 ?_
 refine zDs [0, 3] [true] ?_
 obtain ⟨y2, hy2, h⟩ := bC h
 refine Qq [] hi0 hk0 ?_
 refine (Zd7 hy2).then ?_
 refine zX2 hi0 hk0 ?_
 refine zDs [0, 3, 5, 6] [true] ?_
 refine Q7 [0, 3, 5, 6, 29] hi0 hk0 ?_
 refine Zn (t := (y2.2 != 0)) rfl (fun c19 => ?_) (fun c19 => ?_)
 ·replace h := Zq c19 h
  refine Q7 [4] hi0 hk0 ?_
  refine zW ?_
  obtain rfl := sI h
  refine Qk (k := 0) (i := i0) (q1 := ⟨false, 74, 2, 1, [.val (.int .u64 a0.sum), (vI (IntKind.i64.wrap (a0.left - 1)))]⟩) (L3 := [none]) (E2 := (⟨64, [], [(4, (vI y2.2))]⟩ : Env)) (n3 := (n + 1)) (.inr rfl) hU rfl [(vI y2.2)] ?_ ?_
  ·refine Fit2.trans (E' := (⟨64, [], [(4, (vI y2.2))]⟩ : Env)) (O' := (Zt (O.upd i0 (some ⟨false, 74, 2, 1, [.val (.int .u64 a0.sum), (vI (IntKind.i64.wrap (a0.left - 1)))]⟩)) n [none])) (n' := (n + 1)) (Fit2.of (Z0 hU rfl rfl ?_) (by omega)) ?_
   ·exact Y7 hi0 hk0
   refine Xg (k := 1) (k' := 1) hU [0] [0] rfl rfl rfl rfl ⟨rfl, rfl⟩ ?_
   exact Y7 hi0 hk0
  simp only [push_cast, seval, ↓reduceIte, Zj, Try.results29, hi0, hk0, hN0, hN]
 replace h := Zp c19 h
 refine Qg [0, 3, 5] [true] ?_
 refine Zc ?_
 obtain ⟨y5, hy5, h⟩ := bC h
 obtain ⟨y6, hy6, h⟩ := bC h
 refine Qq [] hi0 hk0 ?_
 refine (Qv hy5).then ?_
 refine zX2 hi0 hk0 ?_
 refine (Vh (i0 := i0) (by omega) (by simp only [push_cast, seval, ↓reduceIte, Zj, Q9, hi0, hk0, hN0, hN] <;> rfl) hy6).then ?_
 refine zX2 hi0 hk0 ?_
 refine zDs [0, 3, 5] [true] ?_
 obtain ⟨y8, hy8, h⟩ := bC h
 refine Qq [] hi0 hk0 ?_
 refine (Vh (i0 := i0) (by omega) (by simp only [push_cast, seval, ↓reduceIte, Zj, Q9, hi0, hk0, hN0, hN] <;> rfl) hy8).then ?_
 refine zX2 hi0 hk0 ?_
 refine zDs [0, 3, 5] [true] ?_
 obtain ⟨y10, hy10, h⟩ := bC h
 refine Qq [] hi0 hk0 ?_
 refine (Zdq (i2 := i0) (by omega) (by simp only [push_cast, seval, ↓reduceIte, Zj, Q9, hi0, hk0, hN0, hN] <;> rfl) hy10).then ?_
 refine zX2 hi0 hk0 ?_
 refine zDs [0, 3, 5] [true] ?_
 refine Q7 [0, 3, 44, 45] hi0 hk0 ?_
 refine zD [0, 3, 44, 45] [true] ?_
 obtain ⟨z18, hz18, h⟩ := bC h
 refine Gs (J := (Qj (fun z18 => JR n (⟨64, [], [(4, (vI z18.1))]⟩ : Env) (Zt (O.upd i0 (some ⟨false, 74, 2, 1, [.val (.int .u64 z18.2.1), (vI z18.2.2)]⟩)) n [none]) (n + 1)) (fun z18 => JX 0 n (⟨64, [], []⟩ : Env) (Zt (O.upd i0 (some ⟨false, 74, 2, 1, [.val (.int .u64 z18.1), (vI z18.2)]⟩)) n [none]) (n + 1)))) (z := z18) ?_ fun hw => ?_
 ·refine Qo hz18 (fun s0_ => ⟨64, [], [(0, .ref i0 0), (3, .ref n 0), (44, (vI y2.1)), (45, (vI s0_.1))]⟩) (fun s0_ => (Zt (O.upd i0 (some ⟨false, 74, 2, 1, [.val (.int .u64 s0_.2.1), (vI s0_.2.2)]⟩)) n [some ⟨false, 35, 9, 1, (Ze a1)⟩])) (Qj (fun z18 => JR n (⟨64, [], [(4, (vI z18.1))]⟩ : Env) (Zt (O.upd i0 (some ⟨false, 74, 2, 1, [.val (.int .u64 z18.2.1), (vI z18.2.2)]⟩)) n [none]) (n + 1)) (fun z18 => JX 0 n (⟨64, [], []⟩ : Env) (Zt (O.upd i0 (some ⟨false, 74, 2, 1, [.val (.int .u64 z18.1), (vI z18.2)]⟩)) n [none]) (n + 1))) ?_
  intro s0_ x0_ hs0_
  unfold Qz at hs0_
  try dsimp only
  refine Q7 [0, 3, 44, 45, 46] hi0 hk0 ?_
  refine Zc ?_
  refine Zn (t := (decide (s0_.1 < y2.1))) rfl (fun c17 => ?_) (fun c17 => ?_)
  ·replace hs0_ := Zq c17 hs0_
   refine Qg [0, 3, 44, 45] [true] ?_
   refine Zc ?_
   refine Y4 ?_
   refine Q7 [0, 3, 7, 44, 45] hi0 hk0 ?_
   refine Zc ?_
   obtain ⟨y12, hy12, hs0_⟩ := bC hs0_
   refine Qq [] hi0 hk0 ?_
   refine (K6 hy12).then ?_
   refine zX2 hi0 hk0 ?_
   refine zDs [0, 3, 8, 9, 44, 45] [true, true] ?_
   refine Q7 [0, 3, 8, 9, 44, 45, 55] hi0 hk0 ?_
   refine Zn (t := (y12.2 != 0)) rfl (fun c16 => ?_) (fun c16 => ?_)
   ·replace hs0_ := Zq c16 hs0_
    refine Q7 [4] hi0 hk0 ?_
    refine zW ?_
    obtain rfl := sI hs0_
    refine And.intro (fun h => by cases h) (And.intro rfl (Fit2.of (Z0 hU rfl rfl ?_) (by omega)))
    exact Y7 hi0 hk0
   replace hs0_ := Zp c16 hs0_
   refine Qg [0, 3, 8, 44, 45] [true, true] ?_
   refine Zc ?_
   obtain ⟨y14, hy14, hs0_⟩ := bC hs0_
   refine Qq [] hi0 hk0 ?_
   refine (Zek (i0 := i0) (by omega) (by simp only [push_cast, seval, ↓reduceIte, Zj, Q9, hi0, hk0, hN0, hN] <;> rfl) hy14).then ?_
   refine zX2 hi0 hk0 ?_
   refine zD [0, 3, 10, 44, 45] [true, false] ?_
   refine Q7 [0, 3, 10, 44, 45, 61] hi0 hk0 ?_
   refine Zn (t := (y14.1 != 0)) rfl (fun c15 => ?_) (fun c15 => ?_)
   ·replace hs0_ := Zq c15 hs0_
    refine Q7 [4] hi0 hk0 ?_
    refine zW ?_
    obtain rfl := sI hs0_
    refine And.intro (fun h => by cases h) (And.intro rfl (Fit2.of (Z0 hU rfl rfl ?_) (by omega)))
    exact Y7 hi0 hk0
   replace hs0_ := Zp c15 hs0_
   refine Qg [0, 3, 44, 45] [true, false] ?_
   refine Qq [] hi0 hk0 ?_
   obtain rfl := sI hs0_
   refine And.intro rfl (Fit2.of (Z0 hU rfl rfl ?_) (by omega))
   exact Y7 hi0 hk0
  replace hs0_ := Zp c17 hs0_
  refine zXt ?_
  obtain rfl := sI hs0_
  refine And.intro (fun h => by cases h) (And.intro rfl (Fit2.of (Z0 hU rfl rfl ?_) (by omega)))
  exact Y7 hi0 hk0
 rcases z18 with z18 | z18
 ·dsimp only [Qj] at hw h
  refine Ky hw ?_
  try simp only [Xc, Yn, ↓reduceIte, Nat.reduceEqDiff]
  obtain rfl := sI h
  refine Qk (k := 0) (i := i0) (q1 := ⟨false, 74, 2, 1, [.val (.int .u64 z18.2.1), (vI z18.2.2)]⟩) (L3 := [none]) (E2 := (⟨64, [], [(4, (vI z18.1))]⟩ : Env)) (n3 := (n + 1)) (.inr rfl) hU rfl [(vI z18.1)] ?_ ?_
  ·refine Fit2.trans (E' := (⟨64, [], [(4, (vI z18.1))]⟩ : Env)) (O' := (Zt (O.upd i0 (some ⟨false, 74, 2, 1, [.val (.int .u64 z18.2.1), (vI z18.2.2)]⟩)) n [none])) (n' := (n + 1)) (Fit2.of (Z0 hU rfl rfl ?_) (by omega)) ?_
   ·exact Y7 hi0 hk0
   refine Xg (k := 1) (k' := 1) hU [0] [0] rfl rfl rfl rfl ⟨rfl, rfl⟩ ?_
   exact Y7 hi0 hk0
  simp only [push_cast, seval, ↓reduceIte, Zj, Try.results29, hi0, hk0, hN0, hN]
 dsimp only [Qj] at hw h
 refine Xo hw ?_
 try simp only [Xc, Yn, ↓reduceIte, Nat.reduceEqDiff]
 refine zD [] [false] ?_
 refine Q7 [4] hi0 hk0 ?_
 refine zW ?_
 obtain rfl := sI h
 refine Qk (k := 0) (i := i0) (q1 := ⟨false, 74, 2, 1, [.val (.int .u64 z18.1), (vI z18.2)]⟩) (L3 := [none]) (E2 := (⟨64, [], [(4, (vI 0))]⟩ : Env)) (n3 := (n + 1)) (.inr rfl) hU rfl [(vI 0)] ?_ ?_
 ·refine Fit2.trans (E' := (⟨64, [], [(4, (vI 0))]⟩ : Env)) (O' := (Zt (O.upd i0 (some ⟨false, 74, 2, 1, [.val (.int .u64 z18.1), (vI z18.2)]⟩)) n [none])) (n' := (n + 1)) (Fit2.of (Z0 hU rfl rfl ?_) (by omega)) ?_
  ·exact Y7 hi0 hk0
  refine Xg (k := 1) (k' := 1) hU [0] [0] rfl rfl rfl rfl ⟨rfl, rfl⟩ ?_
  exact Y7 hi0 hk0
 simp only [push_cast, seval, ↓reduceIte, Zj, Try.results29, hi0, hk0, hN0, hN]
theorem Zd6 : ∀ k, (Gj (Yj k)) := fun k => by
 induction k with
 | zero => exact @fun a0 a1 r O n i0 hi0 ho0 h => (nomatch (show (none : Option _) = some _ from h))
 | succ k ih => exact @fun a0 a1 r O n i0 hi0 ho0 h => Zfd (ih) hi0 ho0 h
theorem Zfu {a0 : Zo} {a1 : Za} {r : (Int × Zo)} {O : Objs} {n : Nat} {i0 : Nat} (hi0 : i0 < n) (ho0 : O i0 = some ⟨false, 74, 2, 1, [.val (.int .u64 a0.sum), (vI a0.left)]⟩) (h : Ug a0 a1 = some r) : GTo Try.prog 29 [.ref i0 0, .agg (Ze a1)] O n ((vI r.1)) (Zt (O.upd i0 (some ⟨false, 74, 2, 1, [.val (.int .u64 r.2.sum), (vI r.2.left)]⟩)) n []) (n + 0) := by
 obtain ⟨k, hk⟩ := Zga h
 exact (Zd6 k) hi0 ho0 hk
theorem Zhn {a0 : Za} {r : (Int × Int)} {O : Objs} {n : Nat} (h : Uo a0 = some r) : GTo Try.prog 12 [.agg (Ze a0)] O n (.tup [.val (.int .u64 r.1), (vI r.2)]) O n := by
 unfold Uo at h
 refine Uw Try.call12 Try.func12 fun hU hN0 hN => ?_
 show W _ _ _ _ ⟨14, [], [(0, .agg (Ze a0))]⟩ (Zt O n []) _
 refine zQ [1] ?_
 refine Zc ?_
 refine zRd [1, 4] [true, true] ?_
 refine Zc ?_
 refine Zc ?_
 obtain ⟨y2, hy2, h⟩ := bC h
 refine zR ?_
 refine (Zfu (i0 := (n + 1)) (by omega) (by simp only [push_cast, seval, ↓reduceIte, Zj, Q9, hN0, hN] <;> rfl) hy2).then ?_
 refine zS ?_
 refine zD [4, 5] [false, true] ?_
 refine zQ [4, 5, 10] ?_
 refine Zn (t := (y2.1 != 0)) rfl (fun c3 => ?_) (fun c3 => ?_)
 ·replace h := Zq c3 h
  refine zQ [2, 3] ?_
  exact Z5 [.val (.int .u64 0), (vI y2.1)]
 replace h := Zp c3 h
 refine Qg [4] [false, true] ?_
 refine zQ [2, 3] ?_
 exact Z5 [.val (.int .u64 y2.2.sum), (vI 0)]
theorem Zat {a0 : (Option Zl)} {a1 : Int} {r : Int} {O : Objs} {n : Nat} (h : X3 a0 a1 = some r) : GTo Try.prog 54 [(gP Zv a0), .val (.int .u64 a1)] O n ((vI r)) O n := by
 unfold X3 at h
 refine Uw Try.call54 Try.func54 fun hU hN0 hN => ?_
 show W _ _ _ _ ⟨14, [], [(0, (gP Zv a0)), (1, .val (.int .u64 a1))]⟩ (Zt O n []) _
 refine zQ [0, 1] ?_
 obtain ⟨x3, hx3, h⟩ := bC h
 obtain ⟨pu4, h⟩ := bG h
 refine U0 [4] (Z8 Zz [] ?_)
 simp only [push_cast, seval, ↓reduceIte, Zj, hx3, pu4, hN0, hN]
 exact Z5 [(vI (IntKind.i64.wrap (Int.tmod a1 (IntKind.u64.wrap (x3.places.length : Int)))))]
theorem Zbs {a0 : (Option Zl)} {a1 : Int} {r : Int} {O : Objs} {n : Nat} (h : Jk a0 a1 = some r) : GTo Try.prog 55 [(gP Zv a0), (vI a1)] O n ((vI r)) O n := by
 unfold Jk at h
 refine Uw Try.call55 Try.func55 fun hU hN0 hN => ?_
 show W _ _ _ _ ⟨13, [], [(0, (gP Zv a0)), (1, (vI a1))]⟩ (Zt O n []) _
 refine zQ [0, 1] ?_
 obtain ⟨x3, hx3, h⟩ := bC h
 obtain ⟨pu4, h⟩ := bG h
 refine U0 [4] (Z8 Zz [] ?_)
 simp only [push_cast, seval, ↓reduceIte, Zj, hx3, pu4, hN0, hN]
 exact Z5 [(vI (Int.tmod (IntKind.i64.wrap (a1 + 1)) (x3.places.length : Int)))]
theorem Zge {a0 : Zl} {r : Zl} {O : Objs} {n : Nat} {i0 j0_0 j0_1 : Nat} (hi0 : i0 < n) (Zf7 : j0_0 < n) (Zf8 : j0_1 < n) (Zc9 : i0 ≠ j0_0) (Ge : i0 ≠ j0_1) (Gd : j0_0 ≠ j0_1) (ho0 : O i0 = some ⟨false, 79, 2, 1, [.row j0_0 a0.classes.length, .row j0_1 a0.places.length]⟩) (Zh8 : O j0_0 = some (oR 82 10 Zb a0.classes)) (Zh9 : O j0_1 = some (oR 3 1 (eI .i64) a0.places)) (h : Jj a0 = some r) : GTo Try.prog 53 [.ref i0 0] O n (.tup []) (Zt (((O.upd j0_0 none).upd j0_1 none).upd i0 (some ⟨false, 79, 2, 1, [.row n r.classes.length, .row (n + 1) r.places.length]⟩)) n [some (oR 82 10 Zb r.classes), some (oR 3 1 (eI .i64) r.places)]) (n + 2) := by
 unfold Jj at h
 refine Zf0 Zz Try.call53 Try.func53 rfl (Nat.le_of_ble_eq_true rfl) (by omega) fun hU => ?_
 have e0 := Zbz (ba := n) (E := ⟨53, [], Zg7 0 [.ref i0 0]⟩) (O := (Zt O n [])) (n := n) (i := i0) (j := j0_0) (k := 0) (len := a0.classes.length) (q := ⟨false, 79, 2, 1, [.row j0_0 a0.classes.length, .row j0_1 a0.places.length]⟩) (qj := ⟨true, 82, 10, a0.classes.length, fl Zb a0.classes⟩) (by rw [Xd _ hi0]; first | exact ho0 | exact Yo _ _ _) rfl (by rw [Xd _ Zf7]; exact Zh8) Zc9 (by omega)
 simp only [Qi _ _ Zf7, Qi _ _ hi0, Qw, Xy, U6, Zgq Zc9, List.set_cons_zero, List.set_cons_succ, List.cons_append, List.nil_append, List.length_cons, List.length_nil, Nat.zero_add, Nat.reduceAdd, Nat.add_assoc] at e0
 refine Ux e0 ?_
 have e1 := Zbz (ba := n) (E := ⟨53, [], Zg7 0 [.ref i0 0]⟩) (O := (Zt ((O.upd j0_0 none).upd i0 (some ⟨false, 79, 2, 1, [.row n a0.classes.length, .row j0_1 a0.places.length]⟩)) n [some ⟨true, 82, 10, a0.classes.length, fl Zb a0.classes⟩])) (n := (n + 1)) (i := i0) (j := j0_1) (k := 1) (len := a0.places.length) (q := ⟨false, 79, 2, 1, [.row n a0.classes.length, .row j0_1 a0.places.length]⟩) (qj := ⟨true, 3, 1, a0.places.length, fl (eI .i64) a0.places⟩) (by rw [Xd _ hi0]; first | exact ho0 | exact Yo _ _ _) rfl (by rw [Xd _ Zf8, Xh _ _ (Ne.symm Ge), Xh _ _ (Ne.symm Gd)]; exact Zh9) Ge (by omega)
 simp only [Qi _ _ Zf8, Qi _ _ hi0, Qw, Xy, U6, Zgq Ge, List.set_cons_zero, List.set_cons_succ, List.cons_append, List.nil_append, List.length_cons, List.length_nil, Nat.zero_add, Nat.reduceAdd, Nat.add_assoc] at e1
 refine Ux e1 ?_
 have hU := (Und.drop (Und.drop hU j0_0) j0_1)
 have hk0 : ∀ k, i0 < n + k := fun k => by omega
 have hN0 : ∀ o, Objs.upd ((O.upd j0_0 none).upd j0_1 none) i0 o n = none := fun o => Qh hU hi0 _ (Nat.le_refl _)
 have hN : ∀ o k, Objs.upd ((O.upd j0_0 none).upd j0_1 none) i0 o (n + k) = none := fun o k => Qh hU hi0 _ (Nat.le_add_right _ _)
 show W _ _ _ _ ⟨53, [], [(0, .ref i0 0)]⟩ (Zt (((O.upd j0_0 none).upd j0_1 none).upd i0 (some ⟨false, 79, 2, 1, [.row n a0.classes.length, .row (n + 1) a0.places.length]⟩)) n [some (oR 82 10 Zb a0.classes), some (oR 3 1 (eI .i64) a0.places)]) _
 refine Zc ?_
 obtain ⟨l2, al2, bl2, cl2, el2, h⟩ := bM2 (c := 8) rfl h
 have nl2 : Int.toNat (if 16 < (IntKind.i64.wrap (2 * (a0.places.length : Int))) then (IntKind.i64.wrap (2 * (a0.places.length : Int))) else 16) = List.length l2 := by rw [el2, List.length_replicate]
 have fl2 : (List.replicate (List.length l2) [.val (.int .i64 0)]).flatten = fl (eI .i64) l2 := by rw [← nl2, el2]; exact (Zpi (f := (eI .i64)) _ _).symm
 clear el2
 refine Z8 Zz [] ?_
 simp only [push_cast, seval, ↓reduceIte, Zj, al2, bl2, cl2, fl2, nl2, hi0, hk0, hN0, hN]
 refine Ut ⟨53, [], [(0, .ref i0 0)]⟩ (Zt (((O.upd j0_0 none).upd j0_1 none).upd i0 (some ⟨false, 79, 2, 1, [.row n a0.classes.length, .row (n + 2) l2.length]⟩)) n [some (oR 82 10 Zb a0.classes), none, some (oR 3 1 (eI .i64) l2)]) (Z0 hU rfl rfl ?_) ?_
 ·simp only [push_cast, seval, ↓reduceIte, Zj, al2, bl2, cl2, fl2, nl2, hi0, hk0, hN0, hN]
 refine Q7 [0, 2] hi0 hk0 ?_
 refine Q7 [0, 2, 22, 23, 24] hi0 hk0 ?_
 refine zD [0, 2, 22, 23, 24] [true, false, true] ?_
 obtain ⟨z15, hz15, h⟩ := bC h
 refine Xo (E' := ⟨53, [], []⟩) (O' := (Zt (((O.upd j0_0 none).upd j0_1 none).upd i0 (some ⟨false, 79, 2, 1, [.row n a0.classes.length, .row (n + 2) z15.length]⟩)) n [some (oR 82 10 Zb a0.classes), none, some (oR 3 1 (eI .i64) z15)])) (n0 := (n + 3)) ?_ ?_
 ·refine Qo hz15 (fun s0_ => ⟨53, [], [(0, .ref i0 0), (2, .fn 55 1 [.ref i0 0]), (22, .row n a0.classes.length), (23, (vI (a0.classes.length : Int))), (24, (vI s0_.1))]⟩) (fun s0_ => (Zt (((O.upd j0_0 none).upd j0_1 none).upd i0 (some ⟨false, 79, 2, 1, [.row n a0.classes.length, .row (n + 2) s0_.2.length]⟩)) n [some (oR 82 10 Zb a0.classes), none, some (oR 3 1 (eI .i64) s0_.2)])) (fun z15 => JX 0 n (⟨53, [], []⟩ : Env) (Zt (((O.upd j0_0 none).upd j0_1 none).upd i0 (some ⟨false, 79, 2, 1, [.row n a0.classes.length, .row (n + 2) z15.length]⟩)) n [some (oR 82 10 Zb a0.classes), none, some (oR 3 1 (eI .i64) z15)]) (n + 3)) ?_
  intro s0_ x0_ hs0_
  unfold Jc at hs0_
  try dsimp only
  refine Q7 [0, 2, 22, 23, 24, 25] hi0 hk0 ?_
  refine Zc ?_
  refine Zn (t := (decide (s0_.1 < (a0.classes.length : Int)))) rfl (fun c14 => ?_) (fun c14 => ?_)
  ·replace hs0_ := Zq c14 hs0_
   refine Qg [0, 2, 22, 23, 24] [true, false, true] ?_
   refine Zc ?_
   refine Y4 ?_
   refine Zc ?_
   obtain ⟨x4, hx4, ax4, bx4, cx4, hs0_⟩ := bE (f := Zb) Zs3 (fun _ => rfl) (by decide) hs0_
   refine Z45 [] ax4 bx4 cx4 hi0 hk0 ?_
   refine zDs [0, 2, 3, 4, 22, 23, 24] [true, false, true, true] ?_
   obtain ⟨y6, hy6, hs0_⟩ := bC hs0_
   refine Qq [] hi0 hk0 ?_
   refine GCalls.lend (Zat hy6) rfl ?_ ?_
   ·exact Y7 hi0 hk0
   refine zX2 hi0 hk0 ?_
   refine zDs [0, 2, 3, 5, 22, 23, 24] [true, false, true, false] ?_
   refine zD [0, 2, 3, 5, 22, 23, 24] [true, false, true, false] ?_
   obtain ⟨z11, hz11, hs0_⟩ := bC hs0_
   refine Xo (E' := ⟨53, [], [(0, .ref i0 0), (2, .fn 55 1 [.ref i0 0]), (3, (vI s0_.1)), (5, (vI z11)), (22, .row n a0.classes.length), (23, (vI (a0.classes.length : Int))), (24, (vI s0_.1))]⟩) (O' := (Zt (((O.upd j0_0 none).upd j0_1 none).upd i0 (some ⟨false, 79, 2, 1, [.row n a0.classes.length, .row (n + 2) s0_.2.length]⟩)) n [some (oR 82 10 Zb a0.classes), none, some (oR 3 1 (eI .i64) s0_.2), none])) (n0 := (n + 4)) ?_ ?_
   ·refine Qo hz11 (fun s1_ => ⟨53, [], [(0, .ref i0 0), (2, .fn 55 1 [.ref i0 0]), (3, (vI s0_.1)), (5, (vI s1_)), (22, .row n a0.classes.length), (23, (vI (a0.classes.length : Int))), (24, (vI s0_.1))]⟩) (fun s1_ => (Zt (((O.upd j0_0 none).upd j0_1 none).upd i0 (some ⟨false, 79, 2, 1, [.row n a0.classes.length, .row (n + 2) s0_.2.length]⟩)) n [some (oR 82 10 Zb a0.classes), none, some (oR 3 1 (eI .i64) s0_.2), none])) (fun z11 => JX 2 n (⟨53, [], [(0, .ref i0 0), (2, .fn 55 1 [.ref i0 0]), (3, (vI s0_.1)), (5, (vI z11)), (22, .row n a0.classes.length), (23, (vI (a0.classes.length : Int))), (24, (vI s0_.1))]⟩ : Env) (Zt (((O.upd j0_0 none).upd j0_1 none).upd i0 (some ⟨false, 79, 2, 1, [.row n a0.classes.length, .row (n + 2) s0_.2.length]⟩)) n [some (oR 82 10 Zb a0.classes), none, some (oR 3 1 (eI .i64) s0_.2), none]) (n + 4)) ?_
    intro s1_ x1_ hs1_
    unfold Jd at hs1_
    try dsimp only
    refine Zc ?_
    obtain ⟨x8, hx8, ax8, bx8, cx8, hs1_⟩ := bE (f := (eI .i64)) Zm5 (fun _ => rfl) (by decide) hs1_
    refine U0 [0, 2, 3, 5, 22, 23, 24, 40] (Z8 Zz [] ?_)
    refine zF5 ax8 bx8 cx8 hi0 hk0 ?_
    refine Zn (t := (x8 != 0)) rfl (fun c10 => ?_) (fun c10 => ?_)
    ·replace hs1_ := Zq c10 hs1_
     refine Qg [0, 2, 3, 5, 22, 23, 24] [true, false, true, false] ?_
     refine Y4 ?_
     obtain ⟨y9, hy9, hs1_⟩ := bC hs1_
     refine Qq [] hi0 hk0 ?_
     refine GCalls.lend (Zbs hy9) rfl ?_ ?_
     ·exact Y7 hi0 hk0
     refine zX2 hi0 hk0 ?_
     obtain rfl := sI hs1_
     refine And.intro rfl (Fit2.of (Z0 hU rfl rfl ?_) (by omega))
     exact Y7 hi0 hk0
    replace hs1_ := Zp c10 hs1_
    refine zXt ?_
    obtain rfl := sI hs1_
    refine And.intro (fun h => by cases h) (And.intro rfl (Fit2.of (Z0 hU rfl rfl ?_) (by omega)))
    exact Y7 hi0 hk0
   try simp only [Xc, Yn, ↓reduceIte, Nat.reduceEqDiff]
   refine zD [0, 2, 3, 5, 22, 23, 24] [true, false, true, false] ?_
   obtain ⟨x12, hx12, ax12, bx12, cx12, hs0_⟩ := bE (f := (eI .i64)) Zm5 (fun _ => rfl) (by decide) hs0_
   have gu13 : V6 (fl (eI .i64) s0_.2) [.val (.int .i64 (IntKind.i64.wrap (s0_.1 + 1)))] (Int.toNat z11 * 1) = some (fl (eI .i64) (Zdl s0_.2 z11 (IntKind.i64.wrap (s0_.1 + 1)))) := Zjr (f := (eI .i64)) (ti := ⟨.bool, 1, 0, [], false⟩) (x := (IntKind.i64.wrap (s0_.1 + 1))) (fun _ => rfl) (Zf2 hx12)
   refine Zxt [] ax12 bx12 cx12 gu13 hi0 hk0 ?_
   refine zD [0, 2, 22, 23, 24] [true, false, true, false] ?_
   refine Qq [] hi0 hk0 ?_
   obtain rfl := sI hs0_
   refine And.intro rfl (Fit2.of (Z0 hU rfl rfl ?_) (by omega))
   exact Y7 hi0 hk0
  replace hs0_ := Zp c14 hs0_
  refine zXt ?_
  obtain rfl := sI hs0_
  refine And.intro (fun h => by cases h) (And.intro rfl (Fit2.of (Z0 hU rfl rfl ?_) (by omega)))
  exact Y7 hi0 hk0
 try simp only [Xc, Yn, ↓reduceIte, Nat.reduceEqDiff]
 obtain rfl := sI h
 refine Qk (k := 2) (i := i0) (q1 := ⟨false, 79, 2, 1, [.row n a0.classes.length, .row (n + 1) z15.length]⟩) (L3 := [some (oR 82 10 Zb a0.classes), some (oR 3 1 (eI .i64) z15), none]) (E2 := (⟨53, [], []⟩ : Env)) (n3 := (n + 3)) (.inl rfl) hU rfl [] ?_ ?_
 ·refine Fit2.trans (E' := (⟨53, [], []⟩ : Env)) (O' := (Zt (((O.upd j0_0 none).upd j0_1 none).upd i0 (some ⟨false, 79, 2, 1, [.row n a0.classes.length, .row (n + 2) z15.length]⟩)) n [some (oR 82 10 Zb a0.classes), none, some (oR 3 1 (eI .i64) z15)])) (n' := (n + 3)) (Fit2.of (Z0 hU rfl rfl ?_) (by omega)) ?_
  ·exact Y7 hi0 hk0
  refine Xg (k := 3) (k' := 3) hU [0, 2, 1] [0, 2, 0] rfl rfl rfl rfl ⟨rfl, rfl⟩ ?_
  exact Y7 hi0 hk0
 simp only [push_cast, seval, ↓reduceIte, Zj, Try.results53, hi0, hk0, hN0, hN]
theorem Zij {a0 : Za} {a1 : Za} {r : Bool} {O : Objs} {n : Nat} (h : K3 a0 a1 = some r) : GTo Try.prog 45 [.agg (Ze a0), .agg (Ze a1)] O n ((vB r)) O n := by
 unfold K3 at h
 refine Uw Try.call45 Try.func45 fun hU hN0 hN => ?_
 show W _ _ _ _ ⟨25, [], [(0, .agg (Ze a0)), (1, .agg (Ze a1))]⟩ (Zt O n []) _
 refine zQ [2, 3] ?_
 refine Zc ?_
 obtain ⟨y2, hy2, h⟩ := bC h
 refine Gg (Ze9 hy2) [2, 3, 5] [true, true] ?_
 refine Zc ?_
 refine Zc ?_
 obtain ⟨y4, hy4, h⟩ := bC h
 refine Gg (Ze9 hy4) [2, 3, 5, 12] [true, true] ?_
 refine Zn (t := (y4 != y2)) rfl (fun c12 => ?_) (fun c12 => ?_)
 ·replace h := Zq c12 h
  refine zQ [4] ?_
  exact Z5 [(vB false)]
 replace h := Zp c12 h
 refine Qg [2, 3, 5] [true, true] ?_
 refine Zc ?_
 refine zQd [2, 3, 13, 14] [2, 3, 13, 14] [true, true] ?_
 obtain ⟨z11, hz11, h⟩ := bC h
 refine Gs (J := (Qj (fun z11 => JR n (⟨25, [], [(4, (vB false))]⟩ : Env) (Zt O n [none, none]) (n + 2)) (fun z11 => JX 0 n (⟨25, [], []⟩ : Env) (Zt O n [none, none]) (n + 2)))) (z := z11) ?_ fun hw => ?_
 ·refine Qo hz11 (fun s0_ => ⟨25, [], [(2, .ref n 0), (3, .ref (n + 1) 0), (13, (vI y2)), (14, (vI s0_))]⟩) (fun s0_ => (Zt O n [some ⟨false, 35, 9, 1, (Ze a0)⟩, some ⟨false, 35, 9, 1, (Ze a1)⟩])) (Qj (fun z11 => JR n (⟨25, [], [(4, (vB false))]⟩ : Env) (Zt O n [none, none]) (n + 2)) (fun z11 => JX 0 n (⟨25, [], []⟩ : Env) (Zt O n [none, none]) (n + 2))) ?_
  intro s0_ x0_ hs0_
  unfold Jz at hs0_
  try dsimp only
  refine zQ [2, 3, 13, 14, 15] ?_
  refine Zc ?_
  refine Zn (t := (decide (s0_ < y2))) rfl (fun c10 => ?_) (fun c10 => ?_)
  ·replace hs0_ := Zq c10 hs0_
   refine Qg [2, 3, 13, 14] [true, true] ?_
   refine Zc ?_
   refine Y4 ?_
   refine zQ [2, 3, 6, 13, 14] ?_
   refine Zc ?_
   obtain ⟨y7, hy7, hs0_⟩ := bC hs0_
   obtain ⟨y8, hy8, hs0_⟩ := bC hs0_
   refine Ke Zz (by kernel_rfl) [] (by kernel_rfl) ?_
   refine zS ?_
   refine PCall.of (V1 hy7) ?_
   refine zS ?_
   refine PCall.of (V1 hy8) ?_
   refine zS ?_
   refine zD [2, 3, 13, 14, 23] [true, true] ?_
   refine Zn (t := (y7 != y8)) rfl (fun c9 => ?_) (fun c9 => ?_)
   ·replace hs0_ := Zq c9 hs0_
    refine zQ [4] ?_
    refine zW ?_
    exact zEy hs0_
   replace hs0_ := Zp c9 hs0_
   refine Qg [2, 3, 13, 14] [true, true] ?_
   refine zR ?_
   exact zEn hs0_
  replace hs0_ := Zp c10 hs0_
  exact zEx hs0_
 rcases z11 with z11 | z11
 ·dsimp only [Qj] at hw h
  refine Ky hw ?_
  try simp only [Xc, Yn, ↓reduceIte, Nat.reduceEqDiff]
  exact Znv [(vB false)]
 dsimp only [Qj] at hw h
 refine Xo hw ?_
 try simp only [Xc, Yn, ↓reduceIte, Nat.reduceEqDiff]
 refine zD [] [false, false] ?_
 refine zQ [4] ?_
 exact Z5 [(vB true)]
def Vd (Yh : (Zh → Za → Za → Option (Bool × Int × Zh))) : Prop := ∀ {a0 : Zh} {a1 : Za} {a2 : Za} {r : (Bool × Int × Zh)} {O : Objs} {n : Nat} {i0 : Nat}, i0 < n → O i0 = some ⟨false, 72, 1, 1, [(vI a0.left)]⟩ → Yh a0 a1 a2 = some r → GTo Try.prog 28 [.ref i0 0, .agg (Ze a1), .agg (Ze a2)] O n (.tup [(vB r.1), (vI r.2.1)]) (Zt (O.upd i0 (some ⟨false, 72, 1, 1, [(vI r.2.2.left)]⟩)) n []) (n + 0)
def J8 (Yg : (Zh → Za → Za → Int → Option (Bool × Int × Zh))) : Prop := ∀ {a0 : Zh} {a1 : Za} {a2 : Za} {a3 : Int} {r : (Bool × Int × Zh)} {O : Objs} {n : Nat} {i0 : Nat}, i0 < n → O i0 = some ⟨false, 72, 1, 1, [(vI a0.left)]⟩ → Yg a0 a1 a2 a3 = some r → GTo Try.prog 47 [.ref i0 0, .agg (Ze a1), .agg (Ze a2), (vI a3)] O n (.tup [(vB r.1), (vI r.2.1)]) (Zt (O.upd i0 (some ⟨false, 72, 1, 1, [(vI r.2.2.left)]⟩)) n []) (n + 0)
theorem Zel {Yh : (Zh → Za → Za → Option (Bool × Int × Zh))} {Yg : (Zh → Za → Za → Int → Option (Bool × Int × Zh))} (U5 : Vd Yh) (V3 : J8 Yg) {a0 : Zh} {a1 : Za} {a2 : Za} {r : (Bool × Int × Zh)} {O : Objs} {n : Nat} {i0 : Nat} (hi0 : i0 < n) (ho0 : O i0 = some ⟨false, 72, 1, 1, [(vI a0.left)]⟩) (h : Xb Yh Yg a0 a1 a2 = some r) : GTo Try.prog 28 [.ref i0 0, .agg (Ze a1), .agg (Ze a2)] O n (.tup [(vB r.1), (vI r.2.1)]) (Zt (O.upd i0 (some ⟨false, 72, 1, 1, [(vI r.2.2.left)]⟩)) n []) (n + 0) := by
 unfold Xb at h
 refine Zf0 Zz Try.call28 Try.func28 rfl (Nat.le_of_ble_eq_true rfl) (by omega) fun hU => ?_
 rw [show Zt O n [] = Zt (O.upd i0 (some ⟨false, 72, 1, 1, [(vI a0.left)]⟩)) n [] from by rw [Zgr (show O i0 = _ from by exact ho0)]]
 have hk0 : ∀ k, i0 < n + k := fun k => by omega
 have hN0 : ∀ o, Objs.upd O i0 o n = none := fun o => Qh hU hi0 _ (Nat.le_refl _)
 have hN : ∀ o k, Objs.upd O i0 o (n + k) = none := fun o k => Qh hU hi0 _ (Nat.le_add_right _ _)
 show W _ _ _ _ ⟨62, [], [(0, .ref i0 0), (1, .agg (Ze a1)), (2, .agg (Ze a2))]⟩ (Zt (O.upd i0 (some ⟨false, 72, 1, 1, [(vI a0.left)]⟩)) n []) _
 refine Q7 [0, 4, 5] hi0 hk0 ?_
 refine Zc ?_
 refine Q7 [0, 4, 5, 15] hi0 hk0 ?_
 refine Zn (t := (a0.left == 0)) rfl (fun c21 => ?_) (fun c21 => ?_)
 ·replace h := Zq c21 h
  refine Q7 [6, 7] hi0 hk0 ?_
  refine zW ?_
  obtain rfl := sI h
  refine Qk (k := 0) (i := i0) (q1 := ⟨false, 72, 1, 1, [(vI a0.left)]⟩) (L3 := [none]) (E2 := (⟨62, [], [(6, (vB false)), (7, (vI 3))]⟩ : Env)) (n3 := (n + 1)) (.inr rfl) hU rfl [(vB false), (vI 3)] ?_ ?_
  ·refine Fit2.trans (E' := (⟨62, [], [(6, (vB false)), (7, (vI 3))]⟩ : Env)) (O' := (Zt (O.upd i0 (some ⟨false, 72, 1, 1, [(vI a0.left)]⟩)) n [none, none])) (n' := (n + 2)) (Fit2.of (Z0 hU rfl rfl ?_) (by omega)) ?_
   ·exact Y7 hi0 hk0
   refine Xg (k := 2) (k' := 1) hU [0, 0] [0] rfl rfl rfl rfl ⟨rfl, rfl⟩ ?_
   exact Y7 hi0 hk0
  simp only [push_cast, seval, ↓reduceIte, Zj, Try.results28, hi0, hk0, hN0, hN]
 replace h := Zp c21 h
 refine Qg [0, 4, 5] [true, true] ?_
 refine Zc ?_
 refine Qq [] hi0 hk0 ?_
 refine zDs [0, 4, 5] [true, true] ?_
 obtain ⟨z4, hz4, h⟩ := bC h
 refine Q8 (E' := ⟨62, [], [(0, .ref i0 0), (4, .ref n 0), (5, .ref (n + 1) 0), (33, (vB z4))]⟩) (O' := (Zt (O.upd i0 (some ⟨false, 72, 1, 1, [(vI (IntKind.i64.wrap (a0.left - 1)))]⟩)) n [some ⟨false, 35, 9, 1, (Ze a1)⟩, some ⟨false, 35, 9, 1, (Ze a2)⟩])) (n0 := (n + 2)) ?_ ?_
 ·obtain ⟨y8, hy8, hz4⟩ := bC hz4
  obtain ⟨y9, hy9, hz4⟩ := bC hz4
  rcases Bool.eq_false_or_eq_true (y8 != y9) with c11 | c11
  ·replace hz4 := Zq c11 hz4
   refine Ke Zz (by kernel_rfl) [some false, some false, some false, some false] (by kernel_rfl) ?_
   refine zX3 c11 hi0 hk0 ?_
   refine PCall.of (Qv hy8) ?_
   refine zX3 c11 hi0 hk0 ?_
   refine PCall.of (Qv hy9) ?_
   refine zX3 c11 hi0 hk0 ?_
   obtain rfl := sI hz4
   refine And.intro rfl (Fit2.of (Z0 hU rfl rfl ?_) (by omega))
   exact Zup c11 hi0 hk0
  replace hz4 := Zp c11 hz4
  obtain ⟨y10, hy10, hz4⟩ := bC hz4
  refine Ke Zz (by kernel_rfl) [some true, some true, some true, some true] (by kernel_rfl) ?_
  refine zX3 c11 hi0 hk0 ?_
  refine PCall.of (Qv hy8) ?_
  refine zX3 c11 hi0 hk0 ?_
  refine PCall.of (Qv hy9) ?_
  refine zX3 c11 hi0 hk0 ?_
  refine PCall.of (Zij hy10) ?_
  refine zX3 c11 hi0 hk0 ?_
  obtain rfl := sI hz4
  refine And.intro rfl (Fit2.of (Z0 hU rfl rfl ?_) (by omega))
  exact Zup c11 hi0 hk0
 refine Zn (t := z4) rfl (fun c20 => ?_) (fun c20 => ?_)
 ·replace h := Zq c20 h
  refine Q7 [6, 7] hi0 hk0 ?_
  refine zW ?_
  obtain rfl := sI h
  refine Qk (k := 0) (i := i0) (q1 := ⟨false, 72, 1, 1, [(vI (IntKind.i64.wrap (a0.left - 1)))]⟩) (L3 := [none]) (E2 := (⟨62, [], [(6, (vB false)), (7, (vI 0))]⟩ : Env)) (n3 := (n + 1)) (.inr rfl) hU rfl [(vB false), (vI 0)] ?_ ?_
  ·refine Fit2.trans (E' := (⟨62, [], [(6, (vB false)), (7, (vI 0))]⟩ : Env)) (O' := (Zt (O.upd i0 (some ⟨false, 72, 1, 1, [(vI (IntKind.i64.wrap (a0.left - 1)))]⟩)) n [none, none])) (n' := (n + 2)) (Fit2.of (Z0 hU rfl rfl ?_) (by omega)) ?_
   ·exact Y7 hi0 hk0
   refine Xg (k := 2) (k' := 1) hU [0, 0] [0] rfl rfl rfl rfl ⟨rfl, rfl⟩ ?_
   exact Y7 hi0 hk0
  simp only [push_cast, seval, ↓reduceIte, Zj, Try.results28, hi0, hk0, hN0, hN]
 replace h := Zp c20 h
 refine Qg [0, 4, 5] [true, true] ?_
 refine Zc ?_
 obtain ⟨y13, hy13, h⟩ := bC h
 refine Qq [] hi0 hk0 ?_
 refine (Zd7 hy13).then ?_
 refine zX2 hi0 hk0 ?_
 refine zDs [0, 4, 5, 8, 9] [true, true] ?_
 refine Q7 [0, 4, 5, 8, 9, 40] hi0 hk0 ?_
 refine Zn (t := (y13.2 != 0)) rfl (fun c19 => ?_) (fun c19 => ?_)
 ·replace h := Zq c19 h
  refine Q7 [6, 7] hi0 hk0 ?_
  refine zW ?_
  obtain rfl := sI h
  refine Qk (k := 0) (i := i0) (q1 := ⟨false, 72, 1, 1, [(vI (IntKind.i64.wrap (a0.left - 1)))]⟩) (L3 := [none]) (E2 := (⟨62, [], [(6, (vB false)), (7, (vI y13.2))]⟩ : Env)) (n3 := (n + 1)) (.inr rfl) hU rfl [(vB false), (vI y13.2)] ?_ ?_
  ·refine Fit2.trans (E' := (⟨62, [], [(6, (vB false)), (7, (vI y13.2))]⟩ : Env)) (O' := (Zt (O.upd i0 (some ⟨false, 72, 1, 1, [(vI (IntKind.i64.wrap (a0.left - 1)))]⟩)) n [none, none])) (n' := (n + 2)) (Fit2.of (Z0 hU rfl rfl ?_) (by omega)) ?_
   ·exact Y7 hi0 hk0
   refine Xg (k := 2) (k' := 1) hU [0, 0] [0] rfl rfl rfl rfl ⟨rfl, rfl⟩ ?_
   exact Y7 hi0 hk0
  simp only [push_cast, seval, ↓reduceIte, Zj, Try.results28, hi0, hk0, hN0, hN]
 replace h := Zp c19 h
 refine Qg [0, 4, 5, 8] [true, true] ?_
 refine Zc ?_
 obtain ⟨y15, hy15, h⟩ := bC h
 refine Qq [] hi0 hk0 ?_
 refine (Zd7 hy15).then ?_
 refine zX2 hi0 hk0 ?_
 refine zDs [0, 4, 5, 8, 9, 10] [true, true] ?_
 refine U0 [0, 4, 5, 8, 9, 53] (Z8 Zz [none, none, none] ?_)
 refine zX2 hi0 hk0 ?_
 refine zG ?_
 refine Zn (t := (cond (y15.2 != 0) true (y13.1 != y15.1))) rfl (fun c18 => ?_) (fun c18 => ?_)
 ·replace h := Zq c18 h
  refine Q7 [6, 7] hi0 hk0 ?_
  refine zW ?_
  obtain rfl := sI h
  refine Qk (k := 0) (i := i0) (q1 := ⟨false, 72, 1, 1, [(vI (IntKind.i64.wrap (a0.left - 1)))]⟩) (L3 := [none]) (E2 := (⟨62, [], [(6, (vB false)), (7, (vI y15.2))]⟩ : Env)) (n3 := (n + 1)) (.inr rfl) hU rfl [(vB false), (vI y15.2)] ?_ ?_
  ·refine Fit2.trans (E' := (⟨62, [], [(6, (vB false)), (7, (vI y15.2))]⟩ : Env)) (O' := (Zt (O.upd i0 (some ⟨false, 72, 1, 1, [(vI (IntKind.i64.wrap (a0.left - 1)))]⟩)) n [none, none])) (n' := (n + 2)) (Fit2.of (Z0 hU rfl rfl ?_) (by omega)) ?_
   ·exact Y7 hi0 hk0
   refine Xg (k := 2) (k' := 1) hU [0, 0] [0] rfl rfl rfl rfl ⟨rfl, rfl⟩ ?_
   exact Y7 hi0 hk0
  simp only [push_cast, seval, ↓reduceIte, Zj, Try.results28, hi0, hk0, hN0, hN]
 replace h := Zp c18 h
 refine Qg [0, 4, 5, 8] [true, true] ?_
 refine Zc ?_
 obtain ⟨y17, hy17, h⟩ := bC h
 refine Qq [] hi0 hk0 ?_
 refine (V3 (i0 := i0) (by omega) (by simp only [push_cast, seval, ↓reduceIte, Zj, Q9, hi0, hk0, hN0, hN] <;> rfl) hy17).then ?_
 refine zX2 hi0 hk0 ?_
 refine zD [6, 7] [false, false] ?_
 refine zW ?_
 obtain rfl := sI h
 refine Qk (k := 0) (i := i0) (q1 := ⟨false, 72, 1, 1, [(vI y17.2.2.left)]⟩) (L3 := [none]) (E2 := (⟨62, [], [(6, (vB y17.1)), (7, (vI y17.2.1))]⟩ : Env)) (n3 := (n + 1)) (.inr rfl) hU rfl [(vB y17.1), (vI y17.2.1)] ?_ ?_
 ·refine Fit2.trans (E' := (⟨62, [], [(6, (vB y17.1)), (7, (vI y17.2.1))]⟩ : Env)) (O' := (Zt (O.upd i0 (some ⟨false, 72, 1, 1, [(vI y17.2.2.left)]⟩)) n [none, none])) (n' := (n + 2)) (Fit2.of (Z0 hU rfl rfl ?_) (by omega)) ?_
  ·exact Y7 hi0 hk0
  refine Xg (k := 2) (k' := 1) hU [0, 0] [0] rfl rfl rfl rfl ⟨rfl, rfl⟩ ?_
  exact Y7 hi0 hk0
 simp only [push_cast, seval, ↓reduceIte, Zj, Try.results28, hi0, hk0, hN0, hN]
theorem Zcq {Yh : (Zh → Za → Za → Option (Bool × Int × Zh))} {Yg : (Zh → Za → Za → Int → Option (Bool × Int × Zh))} (U5 : Vd Yh) (V3 : J8 Yg) {a0 : Zh} {a1 : Za} {a2 : Za} {a3 : Int} {r : (Bool × Int × Zh)} {O : Objs} {n : Nat} {i0 : Nat} (hi0 : i0 < n) (ho0 : O i0 = some ⟨false, 72, 1, 1, [(vI a0.left)]⟩) (h : Yv Yh Yg a0 a1 a2 a3 = some r) : GTo Try.prog 47 [.ref i0 0, .agg (Ze a1), .agg (Ze a2), (vI a3)] O n (.tup [(vB r.1), (vI r.2.1)]) (Zt (O.upd i0 (some ⟨false, 72, 1, 1, [(vI r.2.2.left)]⟩)) n []) (n + 0) := by
 unfold Yv at h
 refine Zf0 Zz Try.call47 Try.func47 rfl (Nat.le_of_ble_eq_true rfl) (by omega) fun hU => ?_
 rw [show Zt O n [] = Zt (O.upd i0 (some ⟨false, 72, 1, 1, [(vI a0.left)]⟩)) n [] from by rw [Zgr (show O i0 = _ from by exact ho0)]]
 have hk0 : ∀ k, i0 < n + k := fun k => by omega
 have hN0 : ∀ o, Objs.upd O i0 o n = none := fun o => Qh hU hi0 _ (Nat.le_refl _)
 have hN : ∀ o k, Objs.upd O i0 o (n + k) = none := fun o k => Qh hU hi0 _ (Nat.le_add_right _ _)
 show W _ _ _ _ ⟨53, [], [(0, .ref i0 0), (1, .agg (Ze a1)), (2, .agg (Ze a2)), (3, (vI a3))]⟩ (Zt (O.upd i0 (some ⟨false, 72, 1, 1, [(vI a0.left)]⟩)) n []) _
 refine Q7 [0, 3, 5, 6] hi0 hk0 ?_
 refine Zc ?_
 refine Q7 [0, 5, 6, 16, 17] hi0 hk0 ?_
 refine zD [0, 5, 6, 16, 17] [true, true] ?_
 obtain ⟨z11, hz11, h⟩ := bC h
 refine Gs (J := (Qj (fun z11 => JR n (⟨53, [], [(8, (vB false)), (9, (vI z11.1))]⟩ : Env) (Zt (O.upd i0 (some ⟨false, 72, 1, 1, [(vI z11.2)]⟩)) n [none, none]) (n + 2)) (fun z11 => JX 0 n (⟨53, [], []⟩ : Env) (Zt (O.upd i0 (some ⟨false, 72, 1, 1, [(vI z11)]⟩)) n [none, none]) (n + 2)))) (z := z11) ?_ fun hw => ?_
 ·refine Qo hz11 (fun s0_ => ⟨53, [], [(0, .ref i0 0), (5, .ref n 0), (6, .ref (n + 1) 0), (16, (vI a3)), (17, (vI s0_.1))]⟩) (fun s0_ => (Zt (O.upd i0 (some ⟨false, 72, 1, 1, [(vI s0_.2)]⟩)) n [some ⟨false, 35, 9, 1, (Ze a1)⟩, some ⟨false, 35, 9, 1, (Ze a2)⟩])) (Qj (fun z11 => JR n (⟨53, [], [(8, (vB false)), (9, (vI z11.1))]⟩ : Env) (Zt (O.upd i0 (some ⟨false, 72, 1, 1, [(vI z11.2)]⟩)) n [none, none]) (n + 2)) (fun z11 => JX 0 n (⟨53, [], []⟩ : Env) (Zt (O.upd i0 (some ⟨false, 72, 1, 1, [(vI z11)]⟩)) n [none, none]) (n + 2))) ?_
  intro s0_ x0_ hs0_
  unfold Yu at hs0_
  try dsimp only
  refine Q7 [0, 5, 6, 16, 17, 18] hi0 hk0 ?_
  refine Zc ?_
  refine Zn (t := (decide (s0_.1 < a3))) rfl (fun c10 => ?_) (fun c10 => ?_)
  ·replace hs0_ := Zq c10 hs0_
   refine Qg [0, 5, 6, 16, 17] [true, true] ?_
   refine Zc ?_
   refine Y4 ?_
   refine Q7 [0, 5, 6, 10, 16, 17] hi0 hk0 ?_
   refine Zc ?_
   obtain ⟨y2, hy2, hs0_⟩ := bC hs0_
   refine Qq [] hi0 hk0 ?_
   refine (K6 hy2).then ?_
   refine zX2 hi0 hk0 ?_
   refine zDs [0, 5, 6, 10, 11, 12, 16, 17] [true, true, true] ?_
   refine Q7 [0, 5, 6, 10, 11, 12, 16, 17, 27] hi0 hk0 ?_
   refine Zn (t := (y2.2 != 0)) rfl (fun c9 => ?_) (fun c9 => ?_)
   ·replace hs0_ := Zq c9 hs0_
    refine Q7 [8, 9] hi0 hk0 ?_
    refine zW ?_
    obtain rfl := sI hs0_
    refine And.intro (fun h => by cases h) (And.intro rfl (Fit2.of (Z0 hU rfl rfl ?_) (by omega)))
    exact Y7 hi0 hk0
   replace hs0_ := Zp c9 hs0_
   refine Qg [0, 5, 6, 10, 11, 16, 17] [true, true, true] ?_
   refine Zc ?_
   obtain ⟨y4, hy4, hs0_⟩ := bC hs0_
   refine Qq [] hi0 hk0 ?_
   refine (K6 hy4).then ?_
   refine zX2 hi0 hk0 ?_
   refine zDs [0, 5, 6, 11, 12, 13, 16, 17] [true, true, true, true] ?_
   refine Q7 [0, 5, 6, 11, 12, 13, 16, 17, 36] hi0 hk0 ?_
   refine Zn (t := (y4.2 != 0)) rfl (fun c8 => ?_) (fun c8 => ?_)
   ·replace hs0_ := Zq c8 hs0_
    refine Q7 [8, 9] hi0 hk0 ?_
    refine zW ?_
    obtain rfl := sI hs0_
    refine And.intro (fun h => by cases h) (And.intro rfl (Fit2.of (Z0 hU rfl rfl ?_) (by omega)))
    exact Y7 hi0 hk0
   replace hs0_ := Zp c8 hs0_
   refine Qg [0, 5, 6, 11, 13, 16, 17] [true, true, true, true] ?_
   refine Zc ?_
   obtain ⟨y6, hy6, hs0_⟩ := bC hs0_
   refine Qq [] hi0 hk0 ?_
   refine (U5 (i0 := i0) (by omega) (by simp only [push_cast, seval, ↓reduceIte, Zj, Q9, hi0, hk0, hN0, hN] <;> rfl) hy6).then ?_
   refine zX2 hi0 hk0 ?_
   refine zD [0, 5, 6, 14, 15, 16, 17] [true, true, false, false] ?_
   refine U0 [0, 5, 6, 15, 16, 17, 50] (Z8 Zz [none, none] ?_)
   refine zX2 hi0 hk0 ?_
   refine zG ?_
   refine Zn (t := (cond (!y6.1) true (y6.2.1 != 0))) rfl (fun c7 => ?_) (fun c7 => ?_)
   ·replace hs0_ := Zq c7 hs0_
    refine Q7 [8, 9] hi0 hk0 ?_
    refine zW ?_
    obtain rfl := sI hs0_
    refine And.intro (fun h => by cases h) (And.intro rfl (Fit2.of (Z0 hU rfl rfl ?_) (by omega)))
    exact Y7 hi0 hk0
   replace hs0_ := Zp c7 hs0_
   refine Qg [0, 5, 6, 16, 17] [true, true, false, false] ?_
   refine Qq [] hi0 hk0 ?_
   obtain rfl := sI hs0_
   refine And.intro rfl (Fit2.of (Z0 hU rfl rfl ?_) (by omega))
   exact Y7 hi0 hk0
  replace hs0_ := Zp c10 hs0_
  refine zXt ?_
  obtain rfl := sI hs0_
  refine And.intro (fun h => by cases h) (And.intro rfl (Fit2.of (Z0 hU rfl rfl ?_) (by omega)))
  exact Y7 hi0 hk0
 rcases z11 with z11 | z11
 ·dsimp only [Qj] at hw h
  refine Ky hw ?_
  try simp only [Xc, Yn, ↓reduceIte, Nat.reduceEqDiff]
  obtain rfl := sI h
  refine Qk (k := 0) (i := i0) (q1 := ⟨false, 72, 1, 1, [(vI z11.2)]⟩) (L3 := [none]) (E2 := (⟨53, [], [(8, (vB false)), (9, (vI z11.1))]⟩ : Env)) (n3 := (n + 1)) (.inr rfl) hU rfl [(vB false), (vI z11.1)] ?_ ?_
  ·refine Fit2.trans (E' := (⟨53, [], [(8, (vB false)), (9, (vI z11.1))]⟩ : Env)) (O' := (Zt (O.upd i0 (some ⟨false, 72, 1, 1, [(vI z11.2)]⟩)) n [none, none])) (n' := (n + 2)) (Fit2.of (Z0 hU rfl rfl ?_) (by omega)) ?_
   ·exact Y7 hi0 hk0
   refine Xg (k := 2) (k' := 1) hU [0, 0] [0] rfl rfl rfl rfl ⟨rfl, rfl⟩ ?_
   exact Y7 hi0 hk0
  simp only [push_cast, seval, ↓reduceIte, Zj, Try.results47, hi0, hk0, hN0, hN]
 dsimp only [Qj] at hw h
 refine Xo hw ?_
 try simp only [Xc, Yn, ↓reduceIte, Nat.reduceEqDiff]
 refine zD [] [false, false] ?_
 refine Q7 [8, 9] hi0 hk0 ?_
 refine zW ?_
 obtain rfl := sI h
 refine Qk (k := 0) (i := i0) (q1 := ⟨false, 72, 1, 1, [(vI z11)]⟩) (L3 := [none]) (E2 := (⟨53, [], [(8, (vB true)), (9, (vI 0))]⟩ : Env)) (n3 := (n + 1)) (.inr rfl) hU rfl [(vB true), (vI 0)] ?_ ?_
 ·refine Fit2.trans (E' := (⟨53, [], [(8, (vB true)), (9, (vI 0))]⟩ : Env)) (O' := (Zt (O.upd i0 (some ⟨false, 72, 1, 1, [(vI z11)]⟩)) n [none, none])) (n' := (n + 2)) (Fit2.of (Z0 hU rfl rfl ?_) (by omega)) ?_
  ·exact Y7 hi0 hk0
  refine Xg (k := 2) (k' := 1) hU [0, 0] [0] rfl rfl rfl rfl ⟨rfl, rfl⟩ ?_
  exact Y7 hi0 hk0
 simp only [push_cast, seval, ↓reduceIte, Zj, Try.results47, hi0, hk0, hN0, hN]
theorem Zdp : ∀ k, (Vd ((Zr k).1)) ∧ (J8 ((Zr k).2)) := fun k => by
 induction k with
 | zero => exact ⟨@fun a0 a1 a2 r O n i0 hi0 ho0 h => (nomatch (show (none : Option _) = some _ from h)), @fun a0 a1 a2 a3 r O n i0 hi0 ho0 h => (nomatch (show (none : Option _) = some _ from h))⟩
 | succ k ih => exact ⟨@fun a0 a1 a2 r O n i0 hi0 ho0 h => Zel (ih.1) (ih.2) hi0 ho0 h, @fun a0 a1 a2 a3 r O n i0 hi0 ho0 h => Zcq (ih.1) (ih.2) hi0 ho0 h⟩
theorem Zfa {a0 : Zh} {a1 : Za} {a2 : Za} {r : (Bool × Int × Zh)} {O : Objs} {n : Nat} {i0 : Nat} (hi0 : i0 < n) (ho0 : O i0 = some ⟨false, 72, 1, 1, [(vI a0.left)]⟩) (h : V7 a0 a1 a2 = some r) : GTo Try.prog 28 [.ref i0 0, .agg (Ze a1), .agg (Ze a2)] O n (.tup [(vB r.1), (vI r.2.1)]) (Zt (O.upd i0 (some ⟨false, 72, 1, 1, [(vI r.2.2.left)]⟩)) n []) (n + 0) := by
 obtain ⟨k, hk⟩ := Zga h
 exact (Zdp k).1 hi0 ho0 hk
theorem Zk3 {a0 : Za} {a1 : Za} {r : (Bool × Int)} {O : Objs} {n : Nat} (h : Uf a0 a1 = some r) : GTo Try.prog 11 [.agg (Ze a0), .agg (Ze a1)] O n (.tup [(vB r.1), (vI r.2)]) O n := by
 unfold Uf at h
 refine Uw Try.call11 Try.func11 fun hU hN0 hN => ?_
 show W _ _ _ _ ⟨13, [], [(0, .agg (Ze a0)), (1, .agg (Ze a1))]⟩ (Zt O n []) _
 refine zQ [2, 3] ?_
 refine Zc ?_
 refine zRd [2, 3, 6] [true, true, true] ?_
 refine Zc ?_
 obtain ⟨y2, hy2, h⟩ := bC h
 refine zR ?_
 refine (Zfa (i0 := (n + 2)) (by omega) (by simp only [push_cast, seval, ↓reduceIte, Zj, Q9, hN0, hN] <;> rfl) hy2).then ?_
 refine zS ?_
 refine zD [4, 5] [false, false, false] ?_
 exact Z5 [(vB y2.1), (vI y2.2.1)]
theorem Zfw {a0 : Zg} {a1 : Zg} {r : (Bool × Int)} {O : Objs} {n : Nat} (h : J3 a0 a1 = some r) : GTo Try.prog 56 [.agg (Yk a0), .agg (Yk a1)] O n (.tup [(vB r.1), (vI r.2)]) O n := by
 unfold J3 at h
 refine Uw Try.call56 Try.func56 fun hU hN0 hN => ?_
 show W _ _ _ _ ⟨18, [], [(0, .agg (Yk a0)), (1, .agg (Yk a1))]⟩ (Zt O n []) _
 refine zQ [2, 3] ?_
 refine Zc ?_
 refine zQ [2, 3, 10] ?_
 refine Zn (t := (a0.hash != a1.hash)) rfl (fun c3 => ?_) (fun c3 => ?_)
 ·replace h := Zq c3 h
  refine zQ [4, 5] ?_
  exact Z5 [(vB false), (vI 0)]
 replace h := Zp c3 h
 refine Qg [2, 3] [true, true] ?_
 refine Zc ?_
 obtain ⟨y2, hy2, h⟩ := bC h
 refine Gg (Zk3 hy2) [4, 5] [false, false] ?_
 exact Z5 [(vB y2.1), (vI y2.2)]
theorem Zas {a0 : Zl} {a1 : Zg} {r : (Int × Int × Zl)} {O : Objs} {n : Nat} {i0 j0_0 j0_1 : Nat} (hi0 : i0 < n) (Zf7 : j0_0 < n) (Zf8 : j0_1 < n) (Zc9 : i0 ≠ j0_0) (Ge : i0 ≠ j0_1) (Gd : j0_0 ≠ j0_1) (ho0 : O i0 = some ⟨false, 79, 2, 1, [.row j0_0 a0.classes.length, .row j0_1 a0.places.length]⟩) (Zh8 : O j0_0 = some (oR 82 10 Zb a0.classes)) (Zh9 : O j0_1 = some (oR 3 1 (eI .i64) a0.places)) (h : Q2 a0 a1 = some r) : GTo Try.prog 32 [.ref i0 0, .agg (Yk a1)] O n (.tup [(vI r.1), (vI r.2.1)]) (Zt (((O.upd j0_0 none).upd j0_1 none).upd i0 (some ⟨false, 79, 2, 1, [.row n r.2.2.classes.length, .row (n + 1) r.2.2.places.length]⟩)) n [some (oR 82 10 Zb r.2.2.classes), some (oR 3 1 (eI .i64) r.2.2.places)]) (n + 2) := by
 unfold Q2 at h
 refine Zf0 Zz Try.call32 Try.func32 rfl (Nat.le_of_ble_eq_true rfl) (by omega) fun hU => ?_
 have e0 := Zbz (ba := n) (E := ⟨94, [], Zg7 0 [.ref i0 0, .agg [.val (.int .u64 a1.hash), (gP Zi a1.r.a), .val (.int .i64 a1.r.kind), .val (.int .i64 a1.r.segment), .val (.int .i64 a1.r.at_), .val (.int .i64 a1.r.words), .val (.int .i64 a1.r.ptrs), .val (.int .i64 a1.r.count), .val (.int .i64 a1.r.code), .val (.int .i64 a1.r.index)]]⟩) (O := (Zt O n [])) (n := n) (i := i0) (j := j0_0) (k := 0) (len := a0.classes.length) (q := ⟨false, 79, 2, 1, [.row j0_0 a0.classes.length, .row j0_1 a0.places.length]⟩) (qj := ⟨true, 82, 10, a0.classes.length, fl Zb a0.classes⟩) (by rw [Xd _ hi0]; first | exact ho0 | exact Yo _ _ _) rfl (by rw [Xd _ Zf7]; exact Zh8) Zc9 (by omega)
 simp only [Qi _ _ Zf7, Qi _ _ hi0, Qw, Xy, U6, Zgq Zc9, List.set_cons_zero, List.set_cons_succ, List.cons_append, List.nil_append, List.length_cons, List.length_nil, Nat.zero_add, Nat.reduceAdd, Nat.add_assoc] at e0
 refine Ux e0 ?_
 have e1 := Zbz (ba := n) (E := ⟨94, [], Zg7 0 [.ref i0 0, .agg [.val (.int .u64 a1.hash), (gP Zi a1.r.a), .val (.int .i64 a1.r.kind), .val (.int .i64 a1.r.segment), .val (.int .i64 a1.r.at_), .val (.int .i64 a1.r.words), .val (.int .i64 a1.r.ptrs), .val (.int .i64 a1.r.count), .val (.int .i64 a1.r.code), .val (.int .i64 a1.r.index)]]⟩) (O := (Zt ((O.upd j0_0 none).upd i0 (some ⟨false, 79, 2, 1, [.row n a0.classes.length, .row j0_1 a0.places.length]⟩)) n [some ⟨true, 82, 10, a0.classes.length, fl Zb a0.classes⟩])) (n := (n + 1)) (i := i0) (j := j0_1) (k := 1) (len := a0.places.length) (q := ⟨false, 79, 2, 1, [.row n a0.classes.length, .row j0_1 a0.places.length]⟩) (qj := ⟨true, 3, 1, a0.places.length, fl (eI .i64) a0.places⟩) (by rw [Xd _ hi0]; first | exact ho0 | exact Yo _ _ _) rfl (by rw [Xd _ Zf8, Xh _ _ (Ne.symm Ge), Xh _ _ (Ne.symm Gd)]; exact Zh9) Ge (by omega)
 simp only [Qi _ _ Zf8, Qi _ _ hi0, Qw, Xy, U6, Zgq Ge, List.set_cons_zero, List.set_cons_succ, List.cons_append, List.nil_append, List.length_cons, List.length_nil, Nat.zero_add, Nat.reduceAdd, Nat.add_assoc] at e1
 refine Ux e1 ?_
 have hU := (Und.drop (Und.drop hU j0_0) j0_1)
 have hk0 : ∀ k, i0 < n + k := fun k => by omega
 have hN0 : ∀ o, Objs.upd ((O.upd j0_0 none).upd j0_1 none) i0 o n = none := fun o => Qh hU hi0 _ (Nat.le_refl _)
 have hN : ∀ o k, Objs.upd ((O.upd j0_0 none).upd j0_1 none) i0 o (n + k) = none := fun o k => Qh hU hi0 _ (Nat.le_add_right _ _)
 show W _ _ _ _ ⟨94, [], [(0, .ref i0 0), (1, .agg (Yk a1))]⟩ (Zt (((O.upd j0_0 none).upd j0_1 none).upd i0 (some ⟨false, 79, 2, 1, [.row n a0.classes.length, .row (n + 1) a0.places.length]⟩)) n [some (oR 82 10 Zb a0.classes), some (oR 3 1 (eI .i64) a0.places)]) _
 refine Q7 [0, 3] hi0 hk0 ?_
 obtain ⟨z1, hz1, h⟩ := bC h
 refine Q8 (E' := ⟨94, [], [(0, .ref i0 0), (3, .ref (n + 2) 0)]⟩) (O' := (Zt (((O.upd j0_0 none).upd j0_1 none).upd i0 (some ⟨false, 79, 2, 1, [.row (n + 5) z1.1.length, .row (n + 6) z1.2.length]⟩)) n [none, none, some ⟨false, 82, 10, 1, (Yk a1)⟩, none, none, some (oR 82 10 Zb z1.1), some (oR 3 1 (eI .i64) z1.2)])) (n0 := (n + 7)) ?_ ?_
 ·refine U0 [0, 3, 22] (Ke Zz (by kernel_rfl) [] (by kernel_rfl) ?_)
  refine zX2 hi0 hk0 ?_
  refine Zn (t := (decide ((a0.places.length : Int) ≤ (IntKind.i64.wrap (2 * (a0.classes.length : Int)))))) rfl (fun c3 => ?_) (fun c3 => ?_)
  ·replace hz1 := Zq c3 hz1
   obtain ⟨y2, hy2, hz1⟩ := bC hz1
   refine Qq [] hi0 hk0 ?_
   refine (Zge (i0 := i0) (j0_0 := n) (j0_1 := (n + 1)) (by omega) (by omega) (by omega) (by omega) (by omega) (by omega) (by simp only [push_cast, seval, ↓reduceIte, Zj, Q9, hi0, hk0, hN0, hN] <;> rfl) (by simp only [push_cast, seval, ↓reduceIte, Zj, Q9, hi0, hk0, hN0, hN] <;> rfl) (by simp only [push_cast, seval, ↓reduceIte, Zj, Q9, hi0, hk0, hN0, hN] <;> rfl) hy2).then ?_
   refine zX2 hi0 hk0 ?_
   obtain rfl := sI hz1
   refine And.intro rfl ?_
   refine Fit2.trans (E' := (⟨94, [], [(0, .ref i0 0), (3, .ref (n + 2) 0)]⟩ : Env)) (O' := (Zt (((O.upd j0_0 none).upd j0_1 none).upd i0 (some ⟨false, 79, 2, 1, [.row (n + 3) y2.classes.length, .row (n + 4) y2.places.length]⟩)) n [none, none, some ⟨false, 82, 10, 1, (Yk a1)⟩, some (oR 82 10 Zb y2.classes), some (oR 3 1 (eI .i64) y2.places)])) (n' := (n + 5)) (Fit2.of (Z0 hU rfl rfl ?_) (by omega)) ?_
   ·exact Y7 hi0 hk0
   refine Xg (k := 5) (k' := 7) hU [4, 4, 2, 5, 6] [0, 0, 2, 0, 0, 3, 4] rfl rfl rfl rfl ⟨rfl, rfl⟩ ?_
   exact Y7 hi0 hk0
  replace hz1 := Zp c3 hz1
  refine zK ?_
  obtain rfl := sI hz1
  refine And.intro rfl ?_
  refine Fit2.trans (E' := (⟨94, [], [(0, .ref i0 0), (3, .ref (n + 2) 0)]⟩ : Env)) (O' := (Zt (((O.upd j0_0 none).upd j0_1 none).upd i0 (some ⟨false, 79, 2, 1, [.row n a0.classes.length, .row (n + 1) a0.places.length]⟩)) n [some (oR 82 10 Zb a0.classes), some (oR 3 1 (eI .i64) a0.places), some ⟨false, 82, 10, 1, (Yk a1)⟩])) (n' := (n + 3)) (Fit2.of (Z0 hU rfl rfl ?_) (by omega)) ?_
  ·exact Y7 hi0 hk0
  refine Xg (k := 3) (k' := 7) hU [5, 6, 2] [0, 0, 2, 0, 0, 0, 1] rfl rfl rfl rfl ⟨rfl, rfl⟩ ?_
  exact Y7 hi0 hk0
 refine Zc ?_
 obtain ⟨y5, hy5, h⟩ := bC h
 refine Qq [] hi0 hk0 ?_
 refine GCalls.lend (Zat hy5) rfl ?_ ?_
 ·exact Y7 hi0 hk0
 refine zX2 hi0 hk0 ?_
 refine zDs [0, 3, 6, 7] [false, false, true, false, false, true, true] ?_
 refine zD [0, 3, 6, 7] [false, false, true, false, false, true, true] ?_
 obtain ⟨z18, hz18, h⟩ := bC h
 refine Gs (J := (Qj (fun z18 => JR n (⟨94, [], [(4, (vI z18.1)), (5, (vI z18.2))]⟩ : Env) (Zt (((O.upd j0_0 none).upd j0_1 none).upd i0 (some ⟨false, 79, 2, 1, [.row (n + 5) z1.1.length, .row (n + 6) z1.2.length]⟩)) n [none, none, none, none, none, some (oR 82 10 Zb z1.1), some (oR 3 1 (eI .i64) z1.2)]) (n + 7)) (fun z18 => JX 0 n (⟨94, [], [(0, .ref i0 0), (3, .ref (n + 2) 0), (6, (vI z18))]⟩ : Env) (Zt (((O.upd j0_0 none).upd j0_1 none).upd i0 (some ⟨false, 79, 2, 1, [.row (n + 5) z1.1.length, .row (n + 6) z1.2.length]⟩)) n [none, none, some ⟨false, 82, 10, 1, (Yk a1)⟩, none, none, some (oR 82 10 Zb z1.1), some (oR 3 1 (eI .i64) z1.2)]) (n + 7)))) (z := z18) ?_ fun hw => ?_
 ·refine Qo hz18 (fun s0_ => ⟨94, [], [(0, .ref i0 0), (3, .ref (n + 2) 0), (6, (vI s0_)), (7, .fn 55 1 [.ref i0 0])]⟩) (fun s0_ => (Zt (((O.upd j0_0 none).upd j0_1 none).upd i0 (some ⟨false, 79, 2, 1, [.row (n + 5) z1.1.length, .row (n + 6) z1.2.length]⟩)) n [none, none, some ⟨false, 82, 10, 1, (Yk a1)⟩, none, none, some (oR 82 10 Zb z1.1), some (oR 3 1 (eI .i64) z1.2)])) (Qj (fun z18 => JR n (⟨94, [], [(4, (vI z18.1)), (5, (vI z18.2))]⟩ : Env) (Zt (((O.upd j0_0 none).upd j0_1 none).upd i0 (some ⟨false, 79, 2, 1, [.row (n + 5) z1.1.length, .row (n + 6) z1.2.length]⟩)) n [none, none, none, none, none, some (oR 82 10 Zb z1.1), some (oR 3 1 (eI .i64) z1.2)]) (n + 7)) (fun z18 => JX 0 n (⟨94, [], [(0, .ref i0 0), (3, .ref (n + 2) 0), (6, (vI z18))]⟩ : Env) (Zt (((O.upd j0_0 none).upd j0_1 none).upd i0 (some ⟨false, 79, 2, 1, [.row (n + 5) z1.1.length, .row (n + 6) z1.2.length]⟩)) n [none, none, some ⟨false, 82, 10, 1, (Yk a1)⟩, none, none, some (oR 82 10 Zb z1.1), some (oR 3 1 (eI .i64) z1.2)]) (n + 7))) ?_
  intro s0_ x0_ hs0_
  unfold Ys at hs0_
  try dsimp only
  refine Zc ?_
  obtain ⟨x7, hx7, ax7, bx7, cx7, hs0_⟩ := bE (f := (eI .i64)) Zm5 (fun _ => rfl) (by decide) hs0_
  refine U0 [0, 3, 6, 7, 38] (Z8 Zz [] ?_)
  refine zF5 ax7 bx7 cx7 hi0 hk0 ?_
  refine Zn (t := (x7 != 0)) rfl (fun c17 => ?_) (fun c17 => ?_)
  ·replace hs0_ := Zq c17 hs0_
   refine Qg [0, 3, 6, 7] [false, false, true, false, false, true, true] ?_
   refine Y4 ?_
   obtain ⟨x9, hx9, ax9, bx9, cx9, hs0_⟩ := bE (f := (eI .i64)) Zm5 (fun _ => rfl) (by decide) hs0_
   refine U0 [0, 3, 6, 7, 8] (Z8 Zz [] ?_)
   refine zF5 ax9 bx9 cx9 hi0 hk0 ?_
   refine Zc ?_
   obtain ⟨x12, hx12, ax12, bx12, cx12, hs0_⟩ := bE (f := Zb) Zs3 (fun _ => rfl) (by decide) hs0_
   obtain ⟨y13, hy13, hs0_⟩ := bC hs0_
   refine Ke Zz (by kernel_rfl) [] (by kernel_rfl) ?_
   refine zF5 ax12 bx12 cx12 hi0 hk0 ?_
   refine PCall.of (Zfw hy13) ?_
   refine zF5 ax12 bx12 cx12 hi0 hk0 ?_
   refine zDs [0, 3, 6, 7, 8, 9, 10] [false, false, true, false, false, true, true] ?_
   refine Q7 [0, 3, 6, 7, 8, 9, 10, 60] hi0 hk0 ?_
   refine Zn (t := (y13.2 != 0)) rfl (fun c16 => ?_) (fun c16 => ?_)
   ·replace hs0_ := Zq c16 hs0_
    refine Q7 [4, 5] hi0 hk0 ?_
    refine zW ?_
    obtain rfl := sI hs0_
    refine And.intro (fun h => by cases h) (And.intro rfl (Fit2.of (Z0 hU rfl rfl ?_) (by omega)))
    exact Y7 hi0 hk0
   replace hs0_ := Zp c16 hs0_
   refine Qg [0, 3, 6, 7, 8, 9] [false, false, true, false, false, true, true] ?_
   refine Zc ?_
   refine Q7 [0, 3, 6, 7, 8, 62] hi0 hk0 ?_
   refine Zn (t := y13.1) rfl (fun c15 => ?_) (fun c15 => ?_)
   ·replace hs0_ := Zq c15 hs0_
    refine Q7 [4, 5] hi0 hk0 ?_
    refine zW ?_
    obtain rfl := sI hs0_
    refine And.intro (fun h => by cases h) (And.intro rfl (Fit2.of (Z0 hU rfl rfl ?_) (by omega)))
    exact Y7 hi0 hk0
   replace hs0_ := Zp c15 hs0_
   refine Qg [0, 3, 6, 7] [false, false, true, false, false, true, true] ?_
   obtain ⟨y14, hy14, hs0_⟩ := bC hs0_
   refine Qq [] hi0 hk0 ?_
   refine GCalls.lend (Zbs hy14) rfl ?_ ?_
   ·exact Y7 hi0 hk0
   refine zX2 hi0 hk0 ?_
   obtain rfl := sI hs0_
   refine And.intro rfl (Fit2.of (Z0 hU rfl rfl ?_) (by omega))
   exact Y7 hi0 hk0
  replace hs0_ := Zp c17 hs0_
  refine zXt ?_
  obtain rfl := sI hs0_
  refine And.intro (fun h => by cases h) (And.intro rfl (Fit2.of (Z0 hU rfl rfl ?_) (by omega)))
  exact Y7 hi0 hk0
 rcases z18 with z18 | z18
 ·dsimp only [Qj] at hw h
  refine Ky hw ?_
  try simp only [Xc, Yn, ↓reduceIte, Nat.reduceEqDiff]
  obtain rfl := sI h
  refine Qk (k := 2) (i := i0) (q1 := ⟨false, 79, 2, 1, [.row n z1.1.length, .row (n + 1) z1.2.length]⟩) (L3 := [some (oR 82 10 Zb z1.1), some (oR 3 1 (eI .i64) z1.2), none]) (E2 := (⟨94, [], [(4, (vI z18.1)), (5, (vI z18.2))]⟩ : Env)) (n3 := (n + 3)) (.inr rfl) hU rfl [(vI z18.1), (vI z18.2)] ?_ ?_
  ·refine Fit2.trans (E' := (⟨94, [], [(4, (vI z18.1)), (5, (vI z18.2))]⟩ : Env)) (O' := (Zt (((O.upd j0_0 none).upd j0_1 none).upd i0 (some ⟨false, 79, 2, 1, [.row (n + 5) z1.1.length, .row (n + 6) z1.2.length]⟩)) n [none, none, none, none, none, some (oR 82 10 Zb z1.1), some (oR 3 1 (eI .i64) z1.2)])) (n' := (n + 7)) (Fit2.of (Z0 hU rfl rfl ?_) (by omega)) ?_
   ·exact Y7 hi0 hk0
   refine Xg (k := 7) (k' := 3) hU [2, 2, 2, 2, 2, 0, 1] [5, 6, 0] rfl rfl rfl rfl ⟨rfl, rfl⟩ ?_
   exact Y7 hi0 hk0
  simp only [push_cast, seval, ↓reduceIte, Zj, Try.results32, hi0, hk0, hN0, hN]
 dsimp only [Qj] at hw h
 refine Xo hw ?_
 try simp only [Xc, Yn, ↓reduceIte, Nat.reduceEqDiff]
 refine zDs [0, 3, 6] [false, false, true, false, false, true, true] ?_
 obtain ⟨l20, pl20, ql20, el20, h⟩ := bA (k := 1) rfl h
 refine Zcn Zz (by kernel_rfl) [.plain, .plain, .low, .low, .low, .plain, .pass, .pass, .plain, .plain, .bar] (fun i => i < (n + 7) ∧ ¬ i = n + 5) [0, 1, 2, 3, 4, 5, 6, 7, 8, 9, 10] [.plain, .plain, .low, .low, .low, .plain, .pass, .pass, .plain, .plain, .bar] [] (by kernel_rfl) rfl ?_
 refine zX5 pl20 ql20 el20 hi0 hk0 ?_
 refine zO ?_
 refine Ut ⟨94, [], [(0, .ref i0 0), (6, (vI z18))]⟩ (Zt (((O.upd j0_0 none).upd j0_1 none).upd i0 (some ⟨false, 79, 2, 1, [.row (n + 5) l20.length, .row (n + 6) z1.2.length]⟩)) n [none, none, none, none, none, some (oR 82 10 Zb l20), some (oR 3 1 (eI .i64) z1.2), none]) (Z0 hU rfl rfl ?_) ?_
 ·exact Z5y pl20 ql20 el20 hi0 hk0
 refine Zc ?_
 obtain ⟨x23, hx23, ax23, bx23, cx23, h⟩ := bE (f := (eI .i64)) Zm5 (fun _ => rfl) (by decide) h
 have gu24 : V6 (fl (eI .i64) z1.2) [.val (.int .i64 (l20.length : Int))] (Int.toNat z18 * 1) = some (fl (eI .i64) (Zdl z1.2 z18 (l20.length : Int))) := Zjr (f := (eI .i64)) (ti := ⟨.bool, 1, 0, [], false⟩) (x := (l20.length : Int)) (fun _ => rfl) (Zf2 hx23)
 refine Zgu Zz (by kernel_rfl) [false, false, false, false, false, false, false, false, false, false, false, true] [] (by kernel_rfl) ?_
 refine zF6 ax23 bx23 cx23 gu24 hi0 hk0 ?_
 refine zD [0] [false, false, false, false, false, true, true, false] ?_
 refine Q7 [4, 5] hi0 hk0 ?_
 refine zW ?_
 obtain rfl := sI h
 refine Qk (k := 2) (i := i0) (q1 := ⟨false, 79, 2, 1, [.row n l20.length, .row (n + 1) (Zdl z1.2 z18 (l20.length : Int)).length]⟩) (L3 := [some (oR 82 10 Zb l20), some (oR 3 1 (eI .i64) (Zdl z1.2 z18 (l20.length : Int))), none]) (E2 := (⟨94, [], [(4, (vI (IntKind.i64.wrap ((l20.length : Int) - 1)))), (5, (vI 0))]⟩ : Env)) (n3 := (n + 3)) (.inr rfl) hU rfl [(vI (IntKind.i64.wrap ((l20.length : Int) - 1))), (vI 0)] ?_ ?_
 ·refine Fit2.trans (E' := (⟨94, [], [(4, (vI (IntKind.i64.wrap ((l20.length : Int) - 1)))), (5, (vI 0))]⟩ : Env)) (O' := (Zt (((O.upd j0_0 none).upd j0_1 none).upd i0 (some ⟨false, 79, 2, 1, [.row (n + 5) l20.length, .row (n + 6) (Zdl z1.2 z18 (l20.length : Int)).length]⟩)) n [none, none, none, none, none, some (oR 82 10 Zb l20), some (oR 3 1 (eI .i64) (Zdl z1.2 z18 (l20.length : Int))), none])) (n' := (n + 8)) (Fit2.of (Z0 hU rfl rfl ?_) (by omega)) ?_
  ·exact Y7 hi0 hk0
  refine Xg (k := 8) (k' := 3) hU [2, 2, 2, 2, 2, 0, 1, 2] [5, 6, 0] rfl rfl rfl rfl ⟨rfl, rfl⟩ ?_
  exact Y7 hi0 hk0
 simp only [push_cast, seval, ↓reduceIte, Zj, Try.results32, hi0, hk0, hN0, hN]
theorem Zcg {a0 : (Option Zl)} {r : Int} {O : Objs} {n : Nat} (h : Jq a0 = some r) : GTo Try.prog 18 [(gP Zv a0)] O n ((vI r)) O n := by
 unfold Jq at h
 refine Uw Try.call18 Try.func18 fun hU hN0 hN => ?_
 show W _ _ _ _ ⟨10, [], [(0, (gP Zv a0))]⟩ (Zt O n []) _
 refine zQ [0] ?_
 refine Zc ?_
 have g2 := Zkf (f := Zv) (t := 46) Zqg a0
 refine Z7u [0, 4] g2 ?_
 refine Zn (t := (Option.isNone a0)) rfl (fun c5 => ?_) (fun c5 => ?_)
 ·replace h := Zq c5 h
  refine zQ [2] ?_
  exact Z5 [(vI 0)]
 replace h := Zp c5 h
 refine Qg [0] [] ?_
 obtain ⟨x4, hx4, h⟩ := bC h
 refine U0 [2] (Z8 Zz [] ?_)
 simp only [push_cast, seval, ↓reduceIte, Zj, hx4, hN0, hN]
 exact Z5 [(vI (x4.classes.length : Int))]
attribute [local push_cast] Try.results14 Try.results17 Try.results19 Try.results20 Try.results22 Try.results30 Try.results31 Try.results5 Try.results51 Try.results52 Try.results6 Try.results7
theorem Zho  {r : Zl} {O : Objs} {n : Nat}  (h : Up = some r) : GTo Try.prog 14 [] O n (.ref n 0) (Zt O n [some ⟨false, 79, 2, 1, [.row (n + 1) r.classes.length, .row (n + 2) r.places.length]⟩, some (oR 82 10 Zb r.classes), some (oR 3 1 (eI .i64) r.places)]) (n + 3) := by
 unfold Up at h
 refine Uw Try.call14 Try.func14 fun hU hN0 hN => ?_
 show W _ _ _ _ ⟨3, [], []⟩ (Zt O n []) _
 refine zQ [] ?_
 refine zQ [0] ?_
 refine zW ?_
 obtain rfl := sI h
 refine Ziv (k := 3) (L3 := [some ⟨false, 79, 2, 1, [.row (n + 1) ([] : List Zg).length, .row (n + 2) ([] : List Int).length]⟩, some (oR 82 10 Zb ([] : List Zg)), some (oR 3 1 (eI .i64) ([] : List Int)), none]) (E2 := (⟨3, [], [(0, .ref n 0)]⟩ : Env)) (n3 := (n + 4)) (.inr rfl) hU rfl [.ref n 0] ?_ ?_
 ·refine Fit2.trans (E' := (⟨3, [], [(0, .ref n 0)]⟩ : Env)) (O' := (Zt O n [some ⟨false, 79, 2, 1, [nV, nV]⟩])) (n' := (n + 1)) (Fit2.of (Ym hU rfl rfl ?_) (by omega)) ?_
  ·exact zSe
  refine Fit2.trans (Ze3 (p := n) (k := 0) (q := ⟨false, 79, 2, 1, [nV, nV]⟩) 82 10 (by simp only [Gc, Zgt, List.getElem?_cons_zero, List.getElem?_cons_succ, Option.join_some, List.length_nil, Yo]) rfl (by omega)) ?_
  simp only [Qw, Xy, Gq, Uz, List.set_cons_zero, List.set_cons_succ, List.cons_append, List.nil_append, List.length_cons, List.length_nil, Nat.zero_add, Nat.reduceAdd, Nat.reduceLT, Nat.add_assoc]
  refine Fit2.trans (Ze3 (p := n) (k := 1) (q := ⟨false, 79, 2, 1, [.row (n + 1) ([] : List Zg).length, nV]⟩) 3 1 (by simp only [Gc, Zgt, List.getElem?_cons_zero, List.getElem?_cons_succ, Option.join_some, List.length_nil, Yo]) rfl (by omega)) ?_
  simp only [Qw, Xy, Gq, Uz, List.set_cons_zero, List.set_cons_succ, List.cons_append, List.nil_append, List.length_cons, List.length_nil, Nat.zero_add, Nat.reduceAdd, Nat.reduceLT, Nat.add_assoc]
  refine Ga (k := 3) (k' := 4) hU [0, 1, 2] [0, 1, 2, 0] rfl rfl rfl rfl ⟨rfl, rfl⟩ ?_
  exact zSe
 simp only [push_cast, seval, ↓reduceIte, Zj, Try.results14, hN0, hN]
theorem Zgd {a0 : Zl} {a1 : Za} {r : ((List Int) × Int × Zl)} {O : Objs} {n : Nat} {i0 j0_0 j0_1 : Nat} (hi0 : i0 < n) (Zf7 : j0_0 < n) (Zf8 : j0_1 < n) (Zc9 : i0 ≠ j0_0) (Ge : i0 ≠ j0_1) (Gd : j0_0 ≠ j0_1) (ho0 : O i0 = some ⟨false, 79, 2, 1, [.row j0_0 a0.classes.length, .row j0_1 a0.places.length]⟩) (Zh8 : O j0_0 = some (oR 82 10 Zb a0.classes)) (Zh9 : O j0_1 = some (oR 3 1 (eI .i64) a0.places)) (h : Kb a0 a1 = some r) : GTo Try.prog 21 [.ref i0 0, .agg (Ze a1)] O n (.tup [(sL (eI .i64) r.1), (vI r.2.1)]) (Zt (((O.upd j0_0 none).upd j0_1 none).upd i0 (some ⟨false, 79, 2, 1, [.row n r.2.2.classes.length, .row (n + 1) r.2.2.places.length]⟩)) n [some (oR 82 10 Zb r.2.2.classes), some (oR 3 1 (eI .i64) r.2.2.places)]) (n + 2) := by
 unfold Kb at h
 refine Zf0 Zz Try.call21 Try.func21 rfl (Nat.le_of_ble_eq_true rfl) (by omega) fun hU => ?_
 have e0 := Zbz (ba := n) (E := ⟨73, [], Zg7 0 [.ref i0 0, .agg [(gP Zi a1.a), .val (.int .i64 a1.kind), .val (.int .i64 a1.segment), .val (.int .i64 a1.at_), .val (.int .i64 a1.words), .val (.int .i64 a1.ptrs), .val (.int .i64 a1.count), .val (.int .i64 a1.code), .val (.int .i64 a1.index)]]⟩) (O := (Zt O n [])) (n := n) (i := i0) (j := j0_0) (k := 0) (len := a0.classes.length) (q := ⟨false, 79, 2, 1, [.row j0_0 a0.classes.length, .row j0_1 a0.places.length]⟩) (qj := ⟨true, 82, 10, a0.classes.length, fl Zb a0.classes⟩) (by rw [Xd _ hi0]; first | exact ho0 | exact Yo _ _ _) rfl (by rw [Xd _ Zf7]; exact Zh8) Zc9 (by omega)
 simp only [Qi _ _ Zf7, Qi _ _ hi0, Qw, Xy, U6, Zgq Zc9, List.set_cons_zero, List.set_cons_succ, List.cons_append, List.nil_append, List.length_cons, List.length_nil, Nat.zero_add, Nat.reduceAdd, Nat.add_assoc] at e0
 refine Ux e0 ?_
 have e1 := Zbz (ba := n) (E := ⟨73, [], Zg7 0 [.ref i0 0, .agg [(gP Zi a1.a), .val (.int .i64 a1.kind), .val (.int .i64 a1.segment), .val (.int .i64 a1.at_), .val (.int .i64 a1.words), .val (.int .i64 a1.ptrs), .val (.int .i64 a1.count), .val (.int .i64 a1.code), .val (.int .i64 a1.index)]]⟩) (O := (Zt ((O.upd j0_0 none).upd i0 (some ⟨false, 79, 2, 1, [.row n a0.classes.length, .row j0_1 a0.places.length]⟩)) n [some ⟨true, 82, 10, a0.classes.length, fl Zb a0.classes⟩])) (n := (n + 1)) (i := i0) (j := j0_1) (k := 1) (len := a0.places.length) (q := ⟨false, 79, 2, 1, [.row n a0.classes.length, .row j0_1 a0.places.length]⟩) (qj := ⟨true, 3, 1, a0.places.length, fl (eI .i64) a0.places⟩) (by rw [Xd _ hi0]; first | exact ho0 | exact Yo _ _ _) rfl (by rw [Xd _ Zf8, Xh _ _ (Ne.symm Ge), Xh _ _ (Ne.symm Gd)]; exact Zh9) Ge (by omega)
 simp only [Qi _ _ Zf8, Qi _ _ hi0, Qw, Xy, U6, Zgq Ge, List.set_cons_zero, List.set_cons_succ, List.cons_append, List.nil_append, List.length_cons, List.length_nil, Nat.zero_add, Nat.reduceAdd, Nat.add_assoc] at e1
 refine Ux e1 ?_
 have hU := (Und.drop (Und.drop hU j0_0) j0_1)
 have hk0 : ∀ k, i0 < n + k := fun k => by omega
 have hN0 : ∀ o, Objs.upd ((O.upd j0_0 none).upd j0_1 none) i0 o n = none := fun o => Qh hU hi0 _ (Nat.le_refl _)
 have hN : ∀ o k, Objs.upd ((O.upd j0_0 none).upd j0_1 none) i0 o (n + k) = none := fun o k => Qh hU hi0 _ (Nat.le_add_right _ _)
 show W _ _ _ _ ⟨73, [], [(0, .ref i0 0), (1, .agg (Ze a1))]⟩ (Zt (((O.upd j0_0 none).upd j0_1 none).upd i0 (some ⟨false, 79, 2, 1, [.row n a0.classes.length, .row (n + 1) a0.places.length]⟩)) n [some (oR 82 10 Zb a0.classes), some (oR 3 1 (eI .i64) a0.places)]) _
 refine Q7 [0, 3] hi0 hk0 ?_
 refine Zc ?_
 refine Zc ?_
 refine Qq [some false, some false, some false] hi0 hk0 ?_
 refine zD [0, 3, 22] [true, true, true] ?_
 refine Zn (t := false) rfl (fun hc => by cases hc) (fun _ => ?_)
 refine Qg [0, 3] [true, true, true] ?_
 refine Q7 [0, 3, 6] hi0 hk0 ?_
 refine Zc ?_
 refine Zc ?_
 obtain ⟨y2, hy2, h⟩ := bC h
 refine Qq [] hi0 hk0 ?_
 refine (V0 hy2).then ?_
 refine zX2 hi0 hk0 ?_
 refine zD [0, 3, 6, 24, 25] [true, true, true] ?_
 refine zD [0, 3, 6, 24, 25] [true, true, true] ?_
 refine Ux (E' := (⟨73, [], [(0, .ref i0 0), (3, .ref (n + 2) 0), (6, .row (n + 3) ([] : List Zg).length), (24, (vI y2)), (25, (vI 0))]⟩ : Env)) (O' := (Zt (((O.upd j0_0 none).upd j0_1 none).upd i0 (some ⟨false, 79, 2, 1, [.row n a0.classes.length, .row (n + 1) a0.places.length]⟩)) n [some (oR 82 10 Zb a0.classes), some (oR 3 1 (eI .i64) a0.places), some ⟨false, 35, 9, 1, (Ze a1)⟩, some (oR 82 10 Zb ([] : List Zg)), none])) (n' := (n + 5)) ?_ ?_
 ·refine Fit2.trans (E' := (⟨73, [], [(0, .ref i0 0), (3, .ref (n + 2) 0), (6, nV), (24, (vI y2)), (25, (vI 0))]⟩ : Env)) (O' := (Zt (((O.upd j0_0 none).upd j0_1 none).upd i0 (some ⟨false, 79, 2, 1, [.row n a0.classes.length, .row (n + 1) a0.places.length]⟩)) n [some (oR 82 10 Zb a0.classes), some (oR 3 1 (eI .i64) a0.places), some ⟨false, 35, 9, 1, (Ze a1)⟩])) (n' := (n + 3)) (Fit2.of (Z0 hU rfl rfl ?_) (by omega)) ?_
  ·exact Y7 hi0 hk0
  refine Fit2.trans (Zeb 6 82 10 rfl (by omega)) ?_
  simp only [Qw, Xy, Gq, Uz, List.set_cons_zero, List.set_cons_succ, List.cons_append, List.nil_append, List.length_cons, List.length_nil, Nat.zero_add, Nat.reduceAdd, Nat.reduceLT, Nat.add_assoc, Qi, hi0, hk0, hN0, hN]
  refine Fit2.trans (E' := (⟨73, [], [(0, .ref i0 0), (3, .ref (n + 2) 0), (6, .row (n + 3) ([] : List Zg).length), (24, (vI y2)), (25, (vI 0))]⟩ : Env)) (O' := (Zt (((O.upd j0_0 none).upd j0_1 none).upd i0 (some ⟨false, 79, 2, 1, [.row n a0.classes.length, .row (n + 1) a0.places.length]⟩)) n [some (oR 82 10 Zb a0.classes), some (oR 3 1 (eI .i64) a0.places), some ⟨false, 35, 9, 1, (Ze a1)⟩, some (oR 82 10 Zb ([] : List Zg))])) (n' := (n + 4)) (Fit2.of (Z0 hU rfl rfl ?_) (by omega)) ?_
  ·exact Y7 hi0 hk0
  refine Xg (k := 4) (k' := 5) hU [0, 1, 2, 3] [0, 1, 2, 3, 0] rfl rfl rfl rfl ⟨rfl, rfl⟩ ?_
  exact Y7 hi0 hk0
 obtain ⟨z11, hz11, h⟩ := bC h
 refine Gs (J := (Qj (fun z11 => JR n (⟨73, [], [(4, nV), (5, (vI z11))]⟩ : Env) (Zt (((O.upd j0_0 none).upd j0_1 none).upd i0 (some ⟨false, 79, 2, 1, [.row n a0.classes.length, .row (n + 1) a0.places.length]⟩)) n [some (oR 82 10 Zb a0.classes), some (oR 3 1 (eI .i64) a0.places), none]) (n + 3)) (fun z11 => JX 0 n (⟨73, [], [(0, .ref i0 0), (6, .row (n + 3) z11.length)]⟩ : Env) (Zt (((O.upd j0_0 none).upd j0_1 none).upd i0 (some ⟨false, 79, 2, 1, [.row n a0.classes.length, .row (n + 1) a0.places.length]⟩)) n [some (oR 82 10 Zb a0.classes), some (oR 3 1 (eI .i64) a0.places), none, some (oR 82 10 Zb z11), none]) (n + 5)))) (z := z11) ?_ fun hw => ?_
 ·refine Qo hz11 (fun s0_ => ⟨73, [], [(0, .ref i0 0), (3, .ref (n + 2) 0), (6, .row (n + 3) s0_.2.length), (24, (vI y2)), (25, (vI s0_.1))]⟩) (fun s0_ => (Zt (((O.upd j0_0 none).upd j0_1 none).upd i0 (some ⟨false, 79, 2, 1, [.row n a0.classes.length, .row (n + 1) a0.places.length]⟩)) n [some (oR 82 10 Zb a0.classes), some (oR 3 1 (eI .i64) a0.places), some ⟨false, 35, 9, 1, (Ze a1)⟩, some (oR 82 10 Zb s0_.2), none])) (Qj (fun z11 => JR n (⟨73, [], [(4, nV), (5, (vI z11))]⟩ : Env) (Zt (((O.upd j0_0 none).upd j0_1 none).upd i0 (some ⟨false, 79, 2, 1, [.row n a0.classes.length, .row (n + 1) a0.places.length]⟩)) n [some (oR 82 10 Zb a0.classes), some (oR 3 1 (eI .i64) a0.places), none]) (n + 3)) (fun z11 => JX 0 n (⟨73, [], [(0, .ref i0 0), (6, .row (n + 3) z11.length)]⟩ : Env) (Zt (((O.upd j0_0 none).upd j0_1 none).upd i0 (some ⟨false, 79, 2, 1, [.row n a0.classes.length, .row (n + 1) a0.places.length]⟩)) n [some (oR 82 10 Zb a0.classes), some (oR 3 1 (eI .i64) a0.places), none, some (oR 82 10 Zb z11), none]) (n + 5))) ?_
  intro s0_ x0_ hs0_
  unfold X6 at hs0_
  try dsimp only
  refine Q7 [0, 3, 6, 24, 25, 26] hi0 hk0 ?_
  refine Zc ?_
  refine Zn (t := (decide (s0_.1 < y2))) rfl (fun c10 => ?_) (fun c10 => ?_)
  ·replace hs0_ := Zq c10 hs0_
   refine Qg [0, 3, 6, 24, 25] [true, true, true, true, false] ?_
   refine Zc ?_
   refine Y4 ?_
   refine Q7 [0, 3, 6, 7, 24, 25] hi0 hk0 ?_
   refine Zc ?_
   obtain ⟨y4, hy4, hs0_⟩ := bC hs0_
   refine Qq [] hi0 hk0 ?_
   refine (K6 hy4).then ?_
   refine zX2 hi0 hk0 ?_
   refine zDs [0, 3, 6, 8, 9, 24, 25] [true, true, true, true, false, true] ?_
   refine Q7 [0, 3, 6, 8, 9, 24, 25, 35] hi0 hk0 ?_
   refine Zn (t := (y4.2 != 0)) rfl (fun c9 => ?_) (fun c9 => ?_)
   ·replace hs0_ := Zq c9 hs0_
    refine Q7 [4, 5] hi0 hk0 ?_
    refine zW ?_
    obtain rfl := sI hs0_
    refine And.intro (fun h => by cases h) (And.intro rfl (Fit2.of (Z0 hU rfl rfl ?_) (by omega)))
    exact Y7 hi0 hk0
   replace hs0_ := Zp c9 hs0_
   refine Qg [0, 3, 6, 8, 24, 25] [true, true, true, true, false, true] ?_
   refine Zc ?_
   obtain ⟨y6, hy6, hs0_⟩ := bC hs0_
   refine Qq [] hi0 hk0 ?_
   refine (Zhn hy6).then ?_
   refine zX2 hi0 hk0 ?_
   refine zDs [0, 3, 6, 8, 9, 10, 24, 25] [true, true, true, true, false, true] ?_
   refine Q7 [0, 3, 6, 8, 9, 10, 24, 25, 43] hi0 hk0 ?_
   refine Zn (t := (y6.2 != 0)) rfl (fun c8 => ?_) (fun c8 => ?_)
   ·replace hs0_ := Zq c8 hs0_
    refine Q7 [4, 5] hi0 hk0 ?_
    refine zW ?_
    obtain rfl := sI hs0_
    refine And.intro (fun h => by cases h) (And.intro rfl (Fit2.of (Z0 hU rfl rfl ?_) (by omega)))
    exact Y7 hi0 hk0
   replace hs0_ := Zp c8 hs0_
   refine Qg [0, 3, 6, 8, 10, 24, 25] [true, true, true, true, false, true] ?_
   obtain ⟨l7, pl7, ql7, el7, hs0_⟩ := bA (k := 1) rfl hs0_
   refine Z47 [] pl7 ql7 el7 hi0 hk0 ?_
   refine Ut ⟨73, [], [(0, .ref i0 0), (3, .ref (n + 2) 0), (6, .row (n + 3) l7.length), (24, (vI y2)), (25, (vI s0_.1))]⟩ (Zt (((O.upd j0_0 none).upd j0_1 none).upd i0 (some ⟨false, 79, 2, 1, [.row n a0.classes.length, .row (n + 1) a0.places.length]⟩)) n [some (oR 82 10 Zb a0.classes), some (oR 3 1 (eI .i64) a0.places), some ⟨false, 35, 9, 1, (Ze a1)⟩, some (oR 82 10 Zb l7), none, none, none]) (Z0 hU rfl rfl ?_) ?_
   ·exact Z5y pl7 ql7 el7 hi0 hk0
   refine Qq [] hi0 hk0 ?_
   obtain rfl := sI hs0_
   refine And.intro rfl (Fit2.of (Z0 hU rfl rfl ?_) (by omega))
   exact Y7 hi0 hk0
  replace hs0_ := Zp c10 hs0_
  refine zXt ?_
  obtain rfl := sI hs0_
  refine And.intro (fun h => by cases h) (And.intro rfl (Fit2.of (Z0 hU rfl rfl ?_) (by omega)))
  exact Y7 hi0 hk0
 rcases z11 with z11 | z11
 ·dsimp only [Qj] at hw h
  refine Ky hw ?_
  try simp only [Xc, Yn, ↓reduceIte, Nat.reduceEqDiff]
  obtain rfl := sI h
  refine Qk (k := 2) (i := i0) (q1 := ⟨false, 79, 2, 1, [.row n a0.classes.length, .row (n + 1) a0.places.length]⟩) (L3 := [some (oR 82 10 Zb a0.classes), some (oR 3 1 (eI .i64) a0.places), none]) (E2 := (⟨73, [], [(4, nV), (5, (vI z11))]⟩ : Env)) (n3 := (n + 3)) (.inr rfl) hU rfl [nV, (vI z11)] ?_ ?_
  ·refine Fit2.trans (E' := (⟨73, [], [(4, nV), (5, (vI z11))]⟩ : Env)) (O' := (Zt (((O.upd j0_0 none).upd j0_1 none).upd i0 (some ⟨false, 79, 2, 1, [.row n a0.classes.length, .row (n + 1) a0.places.length]⟩)) n [some (oR 82 10 Zb a0.classes), some (oR 3 1 (eI .i64) a0.places), none])) (n' := (n + 3)) (Fit2.of (Z0 hU rfl rfl ?_) (by omega)) ?_
   ·exact Y7 hi0 hk0
   refine Xg (k := 3) (k' := 3) hU [0, 1, 2] [0, 1, 0] rfl rfl rfl rfl ⟨rfl, rfl⟩ ?_
   exact Y7 hi0 hk0
  simp only [push_cast, seval, ↓reduceIte, Zj, Try.results21, hi0, hk0, hN0, hN]
 dsimp only [Qj] at hw h
 refine Xo hw ?_
 try simp only [Xc, Yn, ↓reduceIte, Nat.reduceEqDiff]
 refine zD [0, 6] [true, true, false, true, false] ?_
 refine Q7 [0, 6, 11] hi0 hk0 ?_
 refine Zc ?_
 refine Q7 [0, 11, 52, 53, 54] hi0 hk0 ?_
 refine zD [0, 11, 52, 53, 54] [true, true, false, true, false] ?_
 refine Ux (E' := (⟨73, [], [(0, .ref i0 0), (11, .row (n + 5) ([] : List Int).length), (52, .row (n + 3) z11.length), (53, (vI (z11.length : Int))), (54, (vI 0))]⟩ : Env)) (O' := (Zt (((O.upd j0_0 none).upd j0_1 none).upd i0 (some ⟨false, 79, 2, 1, [.row (n + 6) a0.classes.length, .row (n + 7) a0.places.length]⟩)) n [none, none, none, some (oR 82 10 Zb z11), none, some (oR 3 1 (eI .i64) ([] : List Int)), some (oR 82 10 Zb a0.classes), some (oR 3 1 (eI .i64) a0.places)])) (n' := (n + 8)) ?_ ?_
 ·refine Fit2.trans (E' := (⟨73, [], [(0, .ref i0 0), (11, nV), (52, .row (n + 3) z11.length), (53, (vI (z11.length : Int))), (54, (vI 0))]⟩ : Env)) (O' := (Zt (((O.upd j0_0 none).upd j0_1 none).upd i0 (some ⟨false, 79, 2, 1, [.row n a0.classes.length, .row (n + 1) a0.places.length]⟩)) n [some (oR 82 10 Zb a0.classes), some (oR 3 1 (eI .i64) a0.places), none, some (oR 82 10 Zb z11), none])) (n' := (n + 5)) (Fit2.of (Z0 hU rfl rfl ?_) (by omega)) ?_
  ·exact Y7 hi0 hk0
  refine Fit2.trans (Zeb 11 3 1 rfl (by omega)) ?_
  simp only [Qw, Xy, Gq, Uz, List.set_cons_zero, List.set_cons_succ, List.cons_append, List.nil_append, List.length_cons, List.length_nil, Nat.zero_add, Nat.reduceAdd, Nat.reduceLT, Nat.add_assoc, Qi, hi0, hk0, hN0, hN]
  refine Fit2.trans (E' := (⟨73, [], [(0, .ref i0 0), (11, .row (n + 5) ([] : List Int).length), (52, .row (n + 3) z11.length), (53, (vI (z11.length : Int))), (54, (vI 0))]⟩ : Env)) (O' := (Zt (((O.upd j0_0 none).upd j0_1 none).upd i0 (some ⟨false, 79, 2, 1, [.row n a0.classes.length, .row (n + 1) a0.places.length]⟩)) n [some (oR 82 10 Zb a0.classes), some (oR 3 1 (eI .i64) a0.places), none, some (oR 82 10 Zb z11), none, some (oR 3 1 (eI .i64) ([] : List Int))])) (n' := (n + 6)) (Fit2.of (Z0 hU rfl rfl ?_) (by omega)) ?_
  ·exact Y7 hi0 hk0
  refine Xg (k := 6) (k' := 8) hU [6, 7, 4, 3, 4, 5] [0, 0, 0, 3, 0, 5, 0, 1] rfl rfl rfl rfl ⟨rfl, rfl⟩ ?_
  exact Y7 hi0 hk0
 obtain ⟨z19, hz19, h⟩ := bC h
 refine Gs (J := (Qj (fun z19 => JR n (⟨73, [], [(4, nV), (5, (vI z19.1))]⟩ : Env) (Zt (((O.upd j0_0 none).upd j0_1 none).upd i0 (some ⟨false, 79, 2, 1, [.row (n + 5) z19.2.1.length, .row (n + 6) z19.2.2.length]⟩)) n [none, none, none, none, none, some (oR 82 10 Zb z19.2.1), some (oR 3 1 (eI .i64) z19.2.2)]) (n + 7)) (fun z19 => JX 2 n (⟨73, [], [(11, .row (n + 5) z19.1.length)]⟩ : Env) (Zt (((O.upd j0_0 none).upd j0_1 none).upd i0 (some ⟨false, 79, 2, 1, [.row (n + 6) z19.2.1.length, .row (n + 7) z19.2.2.length]⟩)) n [none, none, none, none, none, some (oR 3 1 (eI .i64) z19.1), some (oR 82 10 Zb z19.2.1), some (oR 3 1 (eI .i64) z19.2.2)]) (n + 8)))) (z := z19) ?_ fun hw => ?_
 ·refine Qo hz19 (fun s1_ => ⟨73, [], [(0, .ref i0 0), (11, .row (n + 5) s1_.2.1.length), (52, .row (n + 3) z11.length), (53, (vI (z11.length : Int))), (54, (vI s1_.1))]⟩) (fun s1_ => (Zt (((O.upd j0_0 none).upd j0_1 none).upd i0 (some ⟨false, 79, 2, 1, [.row (n + 6) s1_.2.2.1.length, .row (n + 7) s1_.2.2.2.length]⟩)) n [none, none, none, some (oR 82 10 Zb z11), none, some (oR 3 1 (eI .i64) s1_.2.1), some (oR 82 10 Zb s1_.2.2.1), some (oR 3 1 (eI .i64) s1_.2.2.2)])) (Qj (fun z19 => JR n (⟨73, [], [(4, nV), (5, (vI z19.1))]⟩ : Env) (Zt (((O.upd j0_0 none).upd j0_1 none).upd i0 (some ⟨false, 79, 2, 1, [.row (n + 5) z19.2.1.length, .row (n + 6) z19.2.2.length]⟩)) n [none, none, none, none, none, some (oR 82 10 Zb z19.2.1), some (oR 3 1 (eI .i64) z19.2.2)]) (n + 7)) (fun z19 => JX 2 n (⟨73, [], [(11, .row (n + 5) z19.1.length)]⟩ : Env) (Zt (((O.upd j0_0 none).upd j0_1 none).upd i0 (some ⟨false, 79, 2, 1, [.row (n + 6) z19.2.1.length, .row (n + 7) z19.2.2.length]⟩)) n [none, none, none, none, none, some (oR 3 1 (eI .i64) z19.1), some (oR 82 10 Zb z19.2.1), some (oR 3 1 (eI .i64) z19.2.2)]) (n + 8))) ?_
  intro s1_ x1_ hs1_
  unfold X7 at hs1_
  try dsimp only
  refine Q7 [0, 11, 52, 53, 54, 55] hi0 hk0 ?_
  refine Zc ?_
  refine Zn (t := (decide (s1_.1 < (z11.length : Int)))) rfl (fun c18 => ?_) (fun c18 => ?_)
  ·replace hs1_ := Zq c18 hs1_
   refine Qg [0, 11, 52, 53, 54] [false, false, false, true, false, true, true, true] ?_
   refine Zc ?_
   refine Y4 ?_
   refine Zc ?_
   obtain ⟨x13, hx13, ax13, bx13, cx13, hs1_⟩ := bE (f := Zb) Zs3 (fun _ => rfl) (by decide) hs1_
   refine Z45 [] ax13 bx13 cx13 hi0 hk0 ?_
   refine zDs [0, 11, 13, 52, 53, 54] [false, false, false, true, false, true, true, true, true] ?_
   obtain ⟨y15, hy15, hs1_⟩ := bC hs1_
   refine Qq [] hi0 hk0 ?_
   refine (Zas (i0 := i0) (j0_0 := (n + 6)) (j0_1 := (n + 7)) (by omega) (by omega) (by omega) (by omega) (by omega) (by omega) (by simp only [push_cast, seval, ↓reduceIte, Zj, Q9, hi0, hk0, hN0, hN] <;> rfl) (by simp only [push_cast, seval, ↓reduceIte, Zj, Q9, hi0, hk0, hN0, hN] <;> rfl) (by simp only [push_cast, seval, ↓reduceIte, Zj, Q9, hi0, hk0, hN0, hN] <;> rfl) hy15).then ?_
   refine zX2 hi0 hk0 ?_
   refine zDs [0, 11, 14, 15, 52, 53, 54] [false, false, false, true, false, true, false, false, false, true, true] ?_
   refine Q7 [0, 11, 14, 15, 52, 53, 54, 65] hi0 hk0 ?_
   refine Zn (t := (y15.2.1 != 0)) rfl (fun c17 => ?_) (fun c17 => ?_)
   ·replace hs1_ := Zq c17 hs1_
    refine Q7 [4, 5] hi0 hk0 ?_
    refine zW ?_
    obtain rfl := sI hs1_
    refine And.intro (fun h => by cases h) (And.intro rfl ?_)
    refine Fit2.trans (E' := (⟨73, [], [(4, nV), (5, (vI y15.2.1))]⟩ : Env)) (O' := (Zt (((O.upd j0_0 none).upd j0_1 none).upd i0 (some ⟨false, 79, 2, 1, [.row (n + 9) y15.2.2.classes.length, .row (n + 10) y15.2.2.places.length]⟩)) n [none, none, none, none, none, none, none, none, none, some (oR 82 10 Zb y15.2.2.classes), some (oR 3 1 (eI .i64) y15.2.2.places)])) (n' := (n + 11)) (Fit2.of (Z0 hU rfl rfl ?_) (by omega)) ?_
    ·exact Y7 hi0 hk0
    refine Xg (k := 11) (k' := 7) hU [4, 4, 4, 4, 4, 4, 4, 4, 4, 5, 6] [0, 0, 0, 0, 0, 9, 10] rfl rfl rfl rfl ⟨rfl, rfl⟩ ?_
    exact Y7 hi0 hk0
   replace hs1_ := Zp c17 hs1_
   refine Qg [0, 11, 14, 52, 53, 54] [false, false, false, true, false, true, false, false, false, true, true] ?_
   obtain ⟨l16, pl16, ql16, el16, hs1_⟩ := bA (k := 1) rfl hs1_
   refine Z47 [] pl16 ql16 el16 hi0 hk0 ?_
   refine Ut ⟨73, [], [(0, .ref i0 0), (11, .row (n + 5) l16.length), (52, .row (n + 3) z11.length), (53, (vI (z11.length : Int))), (54, (vI s1_.1))]⟩ (Zt (((O.upd j0_0 none).upd j0_1 none).upd i0 (some ⟨false, 79, 2, 1, [.row (n + 9) y15.2.2.classes.length, .row (n + 10) y15.2.2.places.length]⟩)) n [none, none, none, some (oR 82 10 Zb z11), none, some (oR 3 1 (eI .i64) l16), none, none, none, some (oR 82 10 Zb y15.2.2.classes), some (oR 3 1 (eI .i64) y15.2.2.places), none]) (Z0 hU rfl rfl ?_) ?_
   ·exact Z5y pl16 ql16 el16 hi0 hk0
   refine Qq [] hi0 hk0 ?_
   obtain rfl := sI hs1_
   refine And.intro rfl ?_
   refine Fit2.trans (E' := (⟨73, [], [(0, .ref i0 0), (11, .row (n + 5) l16.length), (52, .row (n + 3) z11.length), (53, (vI (z11.length : Int))), (54, (vI (IntKind.i64.wrap (s1_.1 + 1))))]⟩ : Env)) (O' := (Zt (((O.upd j0_0 none).upd j0_1 none).upd i0 (some ⟨false, 79, 2, 1, [.row (n + 9) y15.2.2.classes.length, .row (n + 10) y15.2.2.places.length]⟩)) n [none, none, none, some (oR 82 10 Zb z11), none, some (oR 3 1 (eI .i64) l16), none, none, none, some (oR 82 10 Zb y15.2.2.classes), some (oR 3 1 (eI .i64) y15.2.2.places), none])) (n' := (n + 12)) (Fit2.of (Z0 hU rfl rfl ?_) (by omega)) ?_
   ·exact Y7 hi0 hk0
   refine Xg (k := 12) (k' := 8) hU [4, 4, 4, 3, 4, 5, 4, 4, 4, 6, 7, 4] [0, 0, 0, 3, 0, 5, 9, 10] rfl rfl rfl rfl ⟨rfl, rfl⟩ ?_
   exact Y7 hi0 hk0
  replace hs1_ := Zp c18 hs1_
  refine zXt ?_
  obtain rfl := sI hs1_
  refine And.intro (fun h => by cases h) (And.intro rfl (Fit2.of (Z0 hU rfl rfl ?_) (by omega)))
  exact Y7 hi0 hk0
 rcases z19 with z19 | z19
 ·dsimp only [Qj] at hw h
  refine Ky hw ?_
  try simp only [Xc, Yn, ↓reduceIte, Nat.reduceEqDiff]
  obtain rfl := sI h
  refine Qk (k := 2) (i := i0) (q1 := ⟨false, 79, 2, 1, [.row n z19.2.1.length, .row (n + 1) z19.2.2.length]⟩) (L3 := [some (oR 82 10 Zb z19.2.1), some (oR 3 1 (eI .i64) z19.2.2), none]) (E2 := (⟨73, [], [(4, nV), (5, (vI z19.1))]⟩ : Env)) (n3 := (n + 3)) (.inr rfl) hU rfl [nV, (vI z19.1)] ?_ ?_
  ·refine Fit2.trans (E' := (⟨73, [], [(4, nV), (5, (vI z19.1))]⟩ : Env)) (O' := (Zt (((O.upd j0_0 none).upd j0_1 none).upd i0 (some ⟨false, 79, 2, 1, [.row (n + 5) z19.2.1.length, .row (n + 6) z19.2.2.length]⟩)) n [none, none, none, none, none, some (oR 82 10 Zb z19.2.1), some (oR 3 1 (eI .i64) z19.2.2)])) (n' := (n + 7)) (Fit2.of (Z0 hU rfl rfl ?_) (by omega)) ?_
   ·exact Y7 hi0 hk0
   refine Xg (k := 7) (k' := 3) hU [2, 2, 2, 2, 2, 0, 1] [5, 6, 0] rfl rfl rfl rfl ⟨rfl, rfl⟩ ?_
   exact Y7 hi0 hk0
  simp only [push_cast, seval, ↓reduceIte, Zj, Try.results21, hi0, hk0, hN0, hN]
 dsimp only [Qj] at hw h
 refine Xo hw ?_
 try simp only [Xc, Yn, ↓reduceIte, Nat.reduceEqDiff]
 refine zD [11] [false, false, false, false, false, true, true, true] ?_
 refine Q7 [4, 5] hi0 hk0 ?_
 refine zW ?_
 obtain rfl := sI h
 refine Qk (k := 2) (i := i0) (q1 := ⟨false, 79, 2, 1, [.row n z19.2.1.length, .row (n + 1) z19.2.2.length]⟩) (L3 := [some (oR 82 10 Zb z19.2.1), some (oR 3 1 (eI .i64) z19.2.2), some (oR 3 1 (eI .i64) z19.1), none]) (E2 := (⟨73, [], [(4, .row (n + 2) z19.1.length), (5, (vI 0))]⟩ : Env)) (n3 := (n + 4)) (.inr rfl) hU rfl [.row (n + 2) z19.1.length, (vI 0)] ?_ ?_
 ·refine Fit2.trans (E' := (⟨73, [], [(4, .row (n + 5) z19.1.length), (5, (vI 0))]⟩ : Env)) (O' := (Zt (((O.upd j0_0 none).upd j0_1 none).upd i0 (some ⟨false, 79, 2, 1, [.row (n + 6) z19.2.1.length, .row (n + 7) z19.2.2.length]⟩)) n [none, none, none, none, none, some (oR 3 1 (eI .i64) z19.1), some (oR 82 10 Zb z19.2.1), some (oR 3 1 (eI .i64) z19.2.2)])) (n' := (n + 8)) (Fit2.of (Z0 hU rfl rfl ?_) (by omega)) ?_
  ·exact Y7 hi0 hk0
  refine Xg (k := 8) (k' := 4) hU [3, 3, 3, 3, 3, 2, 0, 1] [6, 7, 5, 0] rfl rfl rfl rfl ⟨rfl, rfl⟩ ?_
  exact Y7 hi0 hk0
 simp only [push_cast, seval, ↓reduceIte, Zj, Try.results21, hi0, hk0, hN0, hN]
theorem Zaa {a0 : (List Int)} {a1 : (List Int)} {r : Bool} {O : Objs} {n : Nat} (h : Jn a0 a1 = some r) : GTo Try.prog 22 [(sL (eI .i64) a0), (sL (eI .i64) a1)] O n ((vB r)) O n := by
 unfold Jn at h
 refine Uw Try.call22 Try.func22 fun hU hN0 hN => ?_
 show W _ _ _ _ ⟨26, [], [(0, (sL (eI .i64) a0)), (1, (sL (eI .i64) a1))]⟩ (Zt O n []) _
 refine zQ [0, 1] ?_
 refine Zc ?_
 refine zQ [0, 1, 10] ?_
 refine Zn (t := ((a0.length : Int) != (a1.length : Int))) rfl (fun c8 => ?_) (fun c8 => ?_)
 ·replace h := Zq c8 h
  refine zQ [4] ?_
  exact Z5 [(vB false)]
 replace h := Zp c8 h
 refine Qg [0, 1] [] ?_
 refine Zc ?_
 refine zQd [0, 1, 5] [0, 1, 5] [] ?_
 obtain ⟨z7, hz7, h⟩ := bC h
 refine Gs (J := (Qj (fun z7 => JR n (⟨26, [], [(4, (vB false))]⟩ : Env) (Zt O n []) n) (fun z7 => JX 0 n (⟨26, [], []⟩ : Env) (Zt O n []) n))) (z := z7) ?_ fun hw => ?_
 ·refine Qo hz7 (fun s0_ => ⟨26, [], [(0, (sL (eI .i64) a0)), (1, (sL (eI .i64) a1)), (5, (vI s0_))]⟩) (fun s0_ => (Zt O n [])) (Qj (fun z7 => JR n (⟨26, [], [(4, (vB false))]⟩ : Env) (Zt O n []) n) (fun z7 => JX 0 n (⟨26, [], []⟩ : Env) (Zt O n []) n)) ?_
  intro s0_ x0_ hs0_
  unfold Js at hs0_
  try dsimp only
  refine Zc ?_
  refine zQ [0, 1, 5, 14] ?_
  refine Zn (t := (decide (s0_ < (a0.length : Int)))) rfl (fun c6 => ?_) (fun c6 => ?_)
  ·replace hs0_ := Zq c6 hs0_
   refine Qg [0, 1, 5] [] ?_
   refine Zc ?_
   refine Y4 ?_
   obtain ⟨x3, hx3, ax3, bx3, cx3, hs0_⟩ := bE (f := (eI .i64)) Zm5 (fun _ => rfl) (by decide) hs0_
   obtain ⟨x4, hx4, ax4, bx4, cx4, hs0_⟩ := bE (f := (eI .i64)) Zm5 (fun _ => rfl) (by decide) hs0_
   refine U0 [0, 1, 5, 25] (Ke Zz (by kernel_rfl) [] (by kernel_rfl) ?_)
   refine zF6 ax3 bx3 cx3 ax4 bx4 cx4 ?_
   refine Zn (t := (x3 != x4)) rfl (fun c5 => ?_) (fun c5 => ?_)
   ·replace hs0_ := Zq c5 hs0_
    refine zQ [4] ?_
    refine zW ?_
    exact zEy hs0_
   replace hs0_ := Zp c5 hs0_
   refine Qg [0, 1, 5] [] ?_
   refine zR ?_
   exact zEn hs0_
  replace hs0_ := Zp c6 hs0_
  exact zEx hs0_
 rcases z7 with z7 | z7
 ·dsimp only [Qj] at hw h
  refine Ky hw ?_
  try simp only [Xc, Yn, ↓reduceIte, Nat.reduceEqDiff]
  exact Znv [(vB false)]
 dsimp only [Qj] at hw h
 refine Xo hw ?_
 try simp only [Xc, Yn, ↓reduceIte, Nat.reduceEqDiff]
 refine zD [] [] ?_
 refine zQ [4] ?_
 exact Z5 [(vB true)]
theorem Zhb  {r : Bool} {O : Objs} {n : Nat} (h : Ko = some r) : GTo Try.prog 19 [] O n ((vB r)) O n := by
 unfold Ko at h
 refine Uw Try.call19 Try.func19 fun hU hN0 hN => ?_
 show W _ _ _ _ ⟨25, [], []⟩ (Zt O n []) _
 refine zQ [] ?_
 refine Zc ?_
 obtain ⟨y2, hy2, h⟩ := bC h
 refine zR ?_
 refine (Zho  hy2).then ?_
 refine zS ?_
 refine zDs [1] [true, true, true] ?_
 obtain ⟨y5, hy5, h⟩ := bC h
 obtain ⟨y6, hy6, h⟩ := bC h
 refine zR ?_
 refine GCalls.dropL (l' := [some ⟨false, 79, 2, 1, [.row (n + 1) y2.classes.length, .row (n + 2) y2.places.length]⟩, some (oR 82 10 Zb y2.classes), some (oR 3 1 (eI .i64) y2.places), none, none]) hU rfl ?_ ((Zdf hy5).then ?_)
 ·exact zSe
 refine zS ?_
 refine (Zgd (i0 := n) (j0_0 := (n + 1)) (j0_1 := (n + 2)) (by omega) (by omega) (by omega) (by omega) (by omega) (by omega) (by simp only [push_cast, seval, ↓reduceIte, Zj, Q9, hN0, hN] <;> rfl) (by simp only [push_cast, seval, ↓reduceIte, Zj, Q9, hN0, hN] <;> rfl) (by simp only [push_cast, seval, ↓reduceIte, Zj, Q9, hN0, hN] <;> rfl) hy6).then ?_
 refine zS ?_
 refine zD [1, 2, 3] [true, false, false, false, false, true, true] ?_
 obtain ⟨z9, hz9, h⟩ := bC h
 refine Q8 (E' := ⟨25, [], [(0, (vB z9))]⟩) (O' := (Zt O n [none, none, none, none, none, none, none, none])) (n0 := (n + 8)) ?_ ?_
 ·rcases Bool.eq_false_or_eq_true (y6.2.1 == 0) with c14 | c14
  ·replace hz9 := Zq c14 hz9
   obtain ⟨y12, hy12, hz9⟩ := bC hz9
   rcases Bool.eq_false_or_eq_true y12 with c15 | c15
   ·replace hz9 := Zq c15 hz9
    try rw [c15] at c14
    obtain ⟨y13, hy13, hz9⟩ := bC hz9
    refine Qq [some true, some true, some true, some true, some true, some true] c14 c15 ?_
    refine GCalls.lend (Zaa hy12) rfl ?_ ?_
    ·exact Y7 c14 c15
    refine zX2 c14 c15 ?_
    refine GCalls.lend (Zcg hy13) rfl ?_ ?_
    ·exact Y7 c14 c15
    refine zX2 c14 c15 ?_
    exact Znj hz9 c14 c15
   replace hz9 := Zp c15 hz9
   try rw [c15] at c14
   refine Qq [some true, some true, some true, some false, some false, some false] c14 c15 ?_
   refine GCalls.lend (Zaa hy12) rfl ?_ ?_
   ·exact Y7 c14 c15
   refine zX2 c14 c15 ?_
   exact Znj hz9 c14 c15
  replace hz9 := Zp c14 hz9
  refine U8 [some false, some false, some false, some false, some false, some false] c14 ?_
  exact Uv hz9 c14
 exact Z5 [(vB z9)]
theorem Zii {a0 : (List Int)} {r : (List Int)} {O : Objs} {n : Nat} (h : K2 a0 = some r) : GTo Try.prog 52 [(sL (eI .u64) a0)] O n ((sL (eI .u64) r)) O n := by
 unfold K2 at h
 refine Uw Try.call52 Try.func52 fun hU hN0 hN => ?_
 show W _ _ _ _ ⟨24, [], [(0, (sL (eI .u64) a0))]⟩ (Zt O n []) _
 refine zQ [0] ?_
 refine zQ [0, 3] ?_
 refine Zc ?_
 refine zD [0, 3] [] ?_
 obtain ⟨z7, hz7, h⟩ := bC h
 refine Xo (E' := ⟨24, [], [(0, (sL (eI .u64) a0)), (3, (vI z7))]⟩) (O' := (Zt O n [])) (n0 := n) ?_ ?_
 ·refine Qo hz7 (fun s0_ => ⟨24, [], [(0, (sL (eI .u64) a0)), (3, (vI s0_))]⟩) (fun s0_ => (Zt O n [])) (fun z7 => JX 0 n (⟨24, [], [(0, (sL (eI .u64) a0)), (3, (vI z7))]⟩ : Env) (Zt O n []) n) ?_
  intro s0_ x0_ hs0_
  unfold Jy at hs0_
  try dsimp only
  refine Zc ?_
  obtain ⟨z2, hz2, hs0_⟩ := bC hs0_
  refine Q8 (E' := ⟨24, [], [(0, (sL (eI .u64) a0)), (3, (vI s0_)), (16, (vB z2))]⟩) (O' := (Zt O n [])) (n0 := n) ?_ ?_
  ·rcases Bool.eq_false_or_eq_true (decide (0 < s0_)) with c5 | c5
   ·replace hz2 := Zq c5 hz2
    obtain ⟨x4, hx4, ax4, bx4, cx4, hz2⟩ := bE (f := (eI .u64)) Zaj (fun _ => rfl) (by decide) hz2
    refine Z44 [some true, some true, some true, some true, some true, some true] c5 ax4 bx4 cx4 ?_
    exact Z7r hz2 c5 ax4 bx4 cx4
   replace hz2 := Zp c5 hz2
   refine U8 [some false, some false, some false, some false, some false, some false] c5 ?_
   exact Uv hz2 c5
  refine Zn (t := z2) rfl (fun c6 => ?_) (fun c6 => ?_)
  ·replace hs0_ := Zq c6 hs0_
   refine Qg [0, 3] [] ?_
   refine Y4 ?_
   refine zR ?_
   exact zEn hs0_
  replace hs0_ := Zp c6 hs0_
  exact zEx hs0_
 try simp only [Xc, Yn, ↓reduceIte, Nat.reduceEqDiff]
 refine zD [0, 3] [] ?_
 refine zQ [0, 3, 4] ?_
 refine Zc ?_
 obtain ⟨l10, al10, bl10, cl10, gl10, h⟩ := bS (lo := none) (hi := (some (.i64, z7))) (f := (eI .u64)) rfl rfl Zg5 Zaj (fun _ => rfl) h
 obtain ⟨l11, pl11, ql11, el11, h⟩ := bA0 (k := l10.length) rfl h
 refine Z7w [] al10 bl10 cl10 gl10 pl11 ql11 el11 ?_
 refine Ut ⟨24, [], [(2, .row n l11.length)]⟩ (Zt O n [some (oR 40 1 (eI .u64) l11)]) (Ym hU rfl rfl ?_) ?_
 ·simp only [push_cast, seval, ↓reduceIte, Zj, al10, bl10, cl10, gl10, pl11, ql11, el11, hN0, hN]
 exact Z5 [.row n l11.length]
def Zbp (Qd : (Zd → Option Zd)) : Prop := ∀ {a0 : Zd} {r : Zd} {O : Objs} {n : Nat}, Qd a0 = some r → GTo Try.prog 31 [.agg (Zu a0)] O n (.agg (Zu r)) O n
theorem Zhg {Qd : (Zd → Option Zd)} (Zgf : Zbp Qd) {a0 : Zd} {r : Zd} {O : Objs} {n : Nat} (h : Kz Qd a0 = some r) : GTo Try.prog 31 [.agg (Zu a0)] O n (.agg (Zu r)) O n := by
 unfold Kz at h
 refine Uw Try.call31 Try.func31 fun hU hN0 hN => ?_
 show W _ _ _ _ ⟨53, [], [(0, .agg (Zu a0))]⟩ (Zt O n []) _
 refine zQ [1, 2] ?_
 refine Zc ?_
 refine zQ [1, 2, 10] ?_
 refine Zn (t := (a0.Kind == 0)) rfl (fun c19 => ?_) (fun c19 => ?_)
 ·replace h := Zq c19 h
  refine Zc ?_
  refine zRd [2] [false, true] ?_
  exact Z5 [.agg [(vI 0), nV, nV]]
 replace h := Zp c19 h
 refine Qg [1, 2] [true, true] ?_
 refine zQ [1, 2, 3] ?_
 refine zQ [1, 2, 3, 4] ?_
 refine Zc ?_
 refine zQd [1, 2, 3, 4, 5] [1, 2, 3, 4, 5] [true, true] ?_
 refine Ux (E' := (⟨53, [], [(1, .ref n 0), (2, .ref (n + 1) 0), (3, .row (n + 2) ([] : List Zd).length), (4, (vI 0)), (5, (vI 0))]⟩ : Env)) (O' := (Zt O n [some ⟨false, 29, 3, 1, (Zu a0)⟩, some ⟨false, 29, 3, 1, [(vI 0), nV, nV]⟩, some (oR 29 3 Zk ([] : List Zd)), none])) (n' := (n + 4)) ?_ ?_
 ·refine Fit2.trans (E' := (⟨53, [], [(1, .ref n 0), (2, .ref (n + 1) 0), (3, nV), (4, (vI 0)), (5, (vI 0))]⟩ : Env)) (O' := (Zt O n [some ⟨false, 29, 3, 1, (Zu a0)⟩, some ⟨false, 29, 3, 1, [(vI 0), nV, nV]⟩])) (n' := (n + 2)) (Fit2.of (Ym hU rfl rfl ?_) (by omega)) ?_
  ·exact zSe
  refine Fit2.trans (Zeb 3 29 3 rfl (by omega)) ?_
  simp only [Qw, Xy, Gq, Uz, List.set_cons_zero, List.set_cons_succ, List.cons_append, List.nil_append, List.length_cons, List.length_nil, Nat.zero_add, Nat.reduceAdd, Nat.reduceLT, Nat.add_assoc]
  refine Fit2.trans (E' := (⟨53, [], [(1, .ref n 0), (2, .ref (n + 1) 0), (3, .row (n + 2) ([] : List Zd).length), (4, (vI 0)), (5, (vI 0))]⟩ : Env)) (O' := (Zt O n [some ⟨false, 29, 3, 1, (Zu a0)⟩, some ⟨false, 29, 3, 1, [(vI 0), nV, nV]⟩, some (oR 29 3 Zk ([] : List Zd))])) (n' := (n + 3)) (Fit2.of (Ym hU rfl rfl ?_) (by omega)) ?_
  ·exact zSe
  refine Ga (k := 3) (k' := 4) hU [0, 1, 2] [0, 1, 2, 0] rfl rfl rfl rfl ⟨rfl, rfl⟩ ?_
  exact zSe
 obtain ⟨z10, hz10, h⟩ := bC h
 refine Xo (E' := ⟨53, [], [(1, .ref n 0), (2, .ref (n + 1) 0), (3, .row (n + 2) z10.2.length), (4, (vI z10.1))]⟩) (O' := (Zt O n [some ⟨false, 29, 3, 1, (Zu a0)⟩, some ⟨false, 29, 3, 1, [(vI 0), nV, nV]⟩, some (oR 29 3 Zk z10.2), none])) (n0 := (n + 4)) ?_ ?_
 ·refine Qo hz10 (fun s0_ => ⟨53, [], [(1, .ref n 0), (2, .ref (n + 1) 0), (3, .row (n + 2) s0_.2.2.length), (4, (vI s0_.1)), (5, (vI s0_.2.1))]⟩) (fun s0_ => (Zt O n [some ⟨false, 29, 3, 1, (Zu a0)⟩, some ⟨false, 29, 3, 1, [(vI 0), nV, nV]⟩, some (oR 29 3 Zk s0_.2.2), none])) (fun z10 => JX 0 n (⟨53, [], [(1, .ref n 0), (2, .ref (n + 1) 0), (3, .row (n + 2) z10.2.length), (4, (vI z10.1))]⟩ : Env) (Zt O n [some ⟨false, 29, 3, 1, (Zu a0)⟩, some ⟨false, 29, 3, 1, [(vI 0), nV, nV]⟩, some (oR 29 3 Zk z10.2), none]) (n + 4)) ?_
  intro s0_ x0_ hs0_
  unfold X0 at hs0_
  try dsimp only
  refine Zc ?_
  refine zQ [1, 2, 3, 4, 5, 16] ?_
  refine Zn (t := (decide (s0_.2.1 < (a0.Kids.length : Int)))) rfl (fun c9 => ?_) (fun c9 => ?_)
  ·replace hs0_ := Zq c9 hs0_
   refine Qg [1, 2, 3, 4, 5] [true, true, true, false] ?_
   obtain ⟨z1, hz1, hs0_⟩ := bC hs0_
   refine Q8 (E' := ⟨53, [], [(1, .ref n 0), (2, .ref (n + 1) 0), (3, .row (n + 2) z1.2.length), (4, (vI z1.1)), (5, (vI s0_.2.1))]⟩) (O' := (Zt O n [some ⟨false, 29, 3, 1, (Zu a0)⟩, some ⟨false, 29, 3, 1, [(vI 0), nV, nV]⟩, some (oR 29 3 Zk z1.2), none, none, none])) (n0 := (n + 6)) ?_ ?_
   ·refine Y4 ?_
    refine Zc ?_
    obtain ⟨x4, hx4, ax4, bx4, cx4, hz1⟩ := bE (f := Zk) Zm4 (fun _ => rfl) (by decide) hz1
    obtain ⟨y5, hy5, hz1⟩ := bC hz1
    refine Z43 [] ax4 bx4 cx4 ?_
    refine (Zgf hy5).then ?_
    refine zF3 ax4 bx4 cx4 ?_
    refine zDs [1, 2, 3, 4, 5, 6] [true, true, true, false, true] ?_
    obtain ⟨l7, pl7, ql7, el7, hz1⟩ := bA (k := 1) rfl hz1
    refine Zjg [] pl7 ql7 el7 ?_
    refine Ut ⟨53, [], [(1, .ref n 0), (2, .ref (n + 1) 0), (3, .row (n + 2) l7.length), (4, (vI s0_.1)), (5, (vI s0_.2.1)), (6, .ref (n + 4) 0)]⟩ (Zt O n [some ⟨false, 29, 3, 1, (Zu a0)⟩, some ⟨false, 29, 3, 1, [(vI 0), nV, nV]⟩, some (oR 29 3 Zk l7), none, some ⟨false, 29, 3, 1, (Zu y5)⟩, none]) (Ym hU rfl rfl ?_) ?_
    ·exact Zup pl7 ql7 el7
    refine zQ [1, 2, 3, 4, 5, 31] ?_
    refine Zn (t := (y5.Kind != 0)) rfl (fun c8 => ?_) (fun c8 => ?_)
    ·replace hz1 := Zq c8 hz1
     refine zR ?_
     exact zEn hz1
    replace hz1 := Zp c8 hz1
    refine zK ?_
    exact zEn hz1
   refine zR ?_
   exact zEn hs0_
  replace hs0_ := Zp c9 hs0_
  exact zEx hs0_
 try simp only [Xc, Yn, ↓reduceIte, Nat.reduceEqDiff]
 refine zDs [1, 2, 3, 4] [true, true, true, false] ?_
 refine zQ [1, 2, 3, 4, 36] ?_
 refine Zn (t := (a0.Kind == 1)) rfl (fun c18 => ?_) (fun c18 => ?_)
 ·replace h := Zq c18 h
  refine Ut ⟨53, [], [(1, .ref n 0), (2, .ref (n + 1) 0), (3, (sL Zk z10.2)), (4, (vI z10.1))]⟩ (Zt O n [some ⟨false, 29, 3, 1, (Zu a0)⟩, some ⟨false, 29, 3, 1, [(vI 0), nV, nV]⟩, none, none]) (Ym hU rfl rfl ?_) ?_
  ·exact zSe
  refine Zc ?_
  obtain ⟨y14, hy14, h⟩ := bC h
  obtain ⟨l15, al15, bl15, cl15, gl15, h⟩ := bS (lo := none) (hi := (some (.i64, z10.1))) (f := Zk) rfl rfl Zqe Zm4 (fun _ => rfl) h
  refine Zgu Zz (by kernel_rfl) [false, false, false, false, false, false, false, true] [] (by kernel_rfl) ?_
  refine zX4 al15 bl15 cl15 gl15 ?_
  refine PCall.of (Zii hy14) ?_
  refine zX4 al15 bl15 cl15 gl15 ?_
  refine zD [2] [false, true, false, false] ?_
  exact Z5 [.agg [(vI 1), (sL (eI .u64) y14), (sL Zk l15)]]
 replace h := Zp c18 h
 refine Qg [1, 2, 3] [true, true, true, false] ?_
 refine zQ [1, 2, 3, 7] ?_
 refine Zc ?_
 obtain ⟨l17, pl17, ql17, el17, h⟩ := bA0 (k := a0.Words.length) rfl h
 refine Zjg [] pl17 ql17 el17 ?_
 refine Ut ⟨53, [], [(1, .ref n 0), (2, .ref (n + 1) 0), (3, .row (n + 2) z10.2.length), (7, .row (n + 4) l17.length)]⟩ (Zt O n [some ⟨false, 29, 3, 1, (Zu a0)⟩, some ⟨false, 29, 3, 1, [(vI 0), nV, nV]⟩, some (oR 29 3 Zk z10.2), none, some (oR 40 1 (eI .u64) l17)]) (Ym hU rfl rfl ?_) ?_
 ·exact Zup pl17 ql17 el17
 refine Zc ?_
 refine zRd [2] [false, true, true, false, true] ?_
 exact Z5 [.agg [(vI a0.Kind), .row (n + 4) l17.length, .row (n + 2) z10.2.length]]
theorem Zfr : ∀ k, (Zbp (Y9 k)) := fun k => by
 induction k with
 | zero => exact @fun a0 r O n h => (nomatch (show (none : Option _) = some _ from h))
 | succ k ih => exact @fun a0 r O n h => Zhg (ih)  h
theorem Zig {a0 : Zd} {r : Zd} {O : Objs} {n : Nat} (h : Gz a0 = some r) : GTo Try.prog 31 [.agg (Zu a0)] O n (.agg (Zu r)) O n := by
 obtain ⟨k, hk⟩ := Zga h
 exact (Zfr k)  hk
theorem Zif {a0 : (List Int)} {a1 : (List Int)} {r : Bool} {O : Objs} {n : Nat} (h : K1 a0 a1 = some r) : GTo Try.prog 51 [(sL (eI .u64) a0), (sL (eI .u64) a1)] O n ((vB r)) O n := by
 unfold K1 at h
 refine Uw Try.call51 Try.func51 fun hU hN0 hN => ?_
 show W _ _ _ _ ⟨26, [], [(0, (sL (eI .u64) a0)), (1, (sL (eI .u64) a1))]⟩ (Zt O n []) _
 refine zQ [0, 1] ?_
 refine Zc ?_
 refine zQ [0, 1, 10] ?_
 refine Zn (t := ((a0.length : Int) != (a1.length : Int))) rfl (fun c8 => ?_) (fun c8 => ?_)
 ·replace h := Zq c8 h
  refine zQ [4] ?_
  exact Z5 [(vB false)]
 replace h := Zp c8 h
 refine Qg [0, 1] [] ?_
 refine Zc ?_
 refine zQd [0, 1, 5] [0, 1, 5] [] ?_
 obtain ⟨z7, hz7, h⟩ := bC h
 refine Gs (J := (Qj (fun z7 => JR n (⟨26, [], [(4, (vB false))]⟩ : Env) (Zt O n []) n) (fun z7 => JX 0 n (⟨26, [], []⟩ : Env) (Zt O n []) n))) (z := z7) ?_ fun hw => ?_
 ·refine Qo hz7 (fun s0_ => ⟨26, [], [(0, (sL (eI .u64) a0)), (1, (sL (eI .u64) a1)), (5, (vI s0_))]⟩) (fun s0_ => (Zt O n [])) (Qj (fun z7 => JR n (⟨26, [], [(4, (vB false))]⟩ : Env) (Zt O n []) n) (fun z7 => JX 0 n (⟨26, [], []⟩ : Env) (Zt O n []) n)) ?_
  intro s0_ x0_ hs0_
  unfold Jx at hs0_
  try dsimp only
  refine Zc ?_
  refine zQ [0, 1, 5, 14] ?_
  refine Zn (t := (decide (s0_ < (a0.length : Int)))) rfl (fun c6 => ?_) (fun c6 => ?_)
  ·replace hs0_ := Zq c6 hs0_
   refine Qg [0, 1, 5] [] ?_
   refine Zc ?_
   refine Y4 ?_
   obtain ⟨x3, hx3, ax3, bx3, cx3, hs0_⟩ := bE (f := (eI .u64)) Zaj (fun _ => rfl) (by decide) hs0_
   obtain ⟨x4, hx4, ax4, bx4, cx4, hs0_⟩ := bE (f := (eI .u64)) Zaj (fun _ => rfl) (by decide) hs0_
   refine U0 [0, 1, 5, 25] (Ke Zz (by kernel_rfl) [] (by kernel_rfl) ?_)
   refine zF6 ax3 bx3 cx3 ax4 bx4 cx4 ?_
   refine Zn (t := (x3 != x4)) rfl (fun c5 => ?_) (fun c5 => ?_)
   ·replace hs0_ := Zq c5 hs0_
    refine zQ [4] ?_
    refine zW ?_
    exact zEy hs0_
   replace hs0_ := Zp c5 hs0_
   refine Qg [0, 1, 5] [] ?_
   refine zR ?_
   exact zEn hs0_
  replace hs0_ := Zp c6 hs0_
  exact zEx hs0_
 rcases z7 with z7 | z7
 ·dsimp only [Qj] at hw h
  refine Ky hw ?_
  try simp only [Xc, Yn, ↓reduceIte, Nat.reduceEqDiff]
  exact Znv [(vB false)]
 dsimp only [Qj] at hw h
 refine Xo hw ?_
 try simp only [Xc, Yn, ↓reduceIte, Nat.reduceEqDiff]
 refine zD [] [] ?_
 refine zQ [4] ?_
 exact Z5 [(vB true)]
def Zbq (Qe : (Zd → Zd → Option Bool)) : Prop := ∀ {a0 : Zd} {a1 : Zd} {r : Bool} {O : Objs} {n : Nat}, Qe a0 a1 = some r → GTo Try.prog 30 [.agg (Zu a0), .agg (Zu a1)] O n ((vB r)) O n
theorem Zhh {Qe : (Zd → Zd → Option Bool)} (Zgg : Zbq Qe) {a0 : Zd} {a1 : Zd} {r : Bool} {O : Objs} {n : Nat} (h : K0 Qe a0 a1 = some r) : GTo Try.prog 30 [.agg (Zu a0), .agg (Zu a1)] O n ((vB r)) O n := by
 unfold K0 at h
 refine Uw Try.call30 Try.func30 fun hU hN0 hN => ?_
 show W _ _ _ _ ⟨47, [], [(0, .agg (Zu a0)), (1, .agg (Zu a1))]⟩ (Zt O n []) _
 refine zQ [2, 3] ?_
 refine Zc ?_
 obtain ⟨z2, hz2, h⟩ := bC h
 refine Q8 (E' := ⟨47, [], [(2, .ref n 0), (3, .ref (n + 1) 0), (27, (vB z2))]⟩) (O' := (Zt O n [some ⟨false, 29, 3, 1, (Zu a0)⟩, some ⟨false, 29, 3, 1, (Zu a1)⟩])) (n0 := (n + 2)) ?_ ?_
 ·rcases Bool.eq_false_or_eq_true (a0.Kind != a1.Kind) with c5 | c5
  ·replace hz2 := Zq c5 hz2
   refine U8 [some false, some false, some false, some false, some false, some false, some false, some false, some false, some false, some false, some false, some false] c5 ?_
   exact Uv hz2 c5
  replace hz2 := Zp c5 hz2
  obtain ⟨y4, hy4, hz2⟩ := bC hz2
  refine U8 [some true, some true, some true, some true, some true, some true, none, none, none, none, none, none, none] c5 ?_
  refine zG ?_
  refine (Zif hy4).then ?_
  refine zX1 c5 ?_
  refine zG ?_
  exact Uv hz2 c5
 refine Zn (t := z2) rfl (fun c15 => ?_) (fun c15 => ?_)
 ·replace h := Zq c15 h
  refine zQ [4] ?_
  exact Z5 [(vB false)]
 replace h := Zp c15 h
 refine Qg [2, 3] [true, true] ?_
 refine Zc ?_
 refine zQd [2, 3, 5] [2, 3, 5] [true, true] ?_
 obtain ⟨z14, hz14, h⟩ := bC h
 refine Gs (J := (Qj (fun z14 => JR n (⟨47, [], [(4, (vB false))]⟩ : Env) (Zt O n [none, none]) (n + 2)) (fun z14 => JX 0 n (⟨47, [], []⟩ : Env) (Zt O n [none, none]) (n + 2)))) (z := z14) ?_ fun hw => ?_
 ·refine Qo hz14 (fun s0_ => ⟨47, [], [(2, .ref n 0), (3, .ref (n + 1) 0), (5, (vI s0_))]⟩) (fun s0_ => (Zt O n [some ⟨false, 29, 3, 1, (Zu a0)⟩, some ⟨false, 29, 3, 1, (Zu a1)⟩])) (Qj (fun z14 => JR n (⟨47, [], [(4, (vB false))]⟩ : Env) (Zt O n [none, none]) (n + 2)) (fun z14 => JX 0 n (⟨47, [], []⟩ : Env) (Zt O n [none, none]) (n + 2))) ?_
  intro s0_ x0_ hs0_
  unfold Jv at hs0_
  try dsimp only
  refine Zc ?_
  refine zQ [2, 3, 5, 32] ?_
  refine Zn (t := (decide (s0_ < (a0.Kids.length : Int)))) rfl (fun c13 => ?_) (fun c13 => ?_)
  ·replace hs0_ := Zq c13 hs0_
   refine Qg [2, 3, 5] [true, true] ?_
   refine Zc ?_
   refine Y4 ?_
   refine Zc ?_
   obtain ⟨x9, hx9, ax9, bx9, cx9, hs0_⟩ := bE (f := Zk) Zm4 (fun _ => rfl) (by decide) hs0_
   obtain ⟨x10, hx10, ax10, bx10, cx10, hs0_⟩ := bE (f := Zk) Zm4 (fun _ => rfl) (by decide) hs0_
   obtain ⟨y11, hy11, hs0_⟩ := bC hs0_
   refine Ke Zz (by kernel_rfl) [] (by kernel_rfl) ?_
   refine zF6 ax9 bx9 cx9 ax10 bx10 cx10 ?_
   refine PCall.of (Zgg hy11) ?_
   refine zF6 ax9 bx9 cx9 ax10 bx10 cx10 ?_
   refine zD [2, 3, 5, 46] [true, true] ?_
   refine Zn (t := (!y11)) rfl (fun c12 => ?_) (fun c12 => ?_)
   ·replace hs0_ := Zq c12 hs0_
    refine zQ [4] ?_
    refine zW ?_
    exact zEy hs0_
   replace hs0_ := Zp c12 hs0_
   refine Qg [2, 3, 5] [true, true] ?_
   refine zR ?_
   exact zEn hs0_
  replace hs0_ := Zp c13 hs0_
  exact zEx hs0_
 rcases z14 with z14 | z14
 ·dsimp only [Qj] at hw h
  refine Ky hw ?_
  try simp only [Xc, Yn, ↓reduceIte, Nat.reduceEqDiff]
  exact Znv [(vB false)]
 dsimp only [Qj] at hw h
 refine Xo hw ?_
 try simp only [Xc, Yn, ↓reduceIte, Nat.reduceEqDiff]
 refine zD [] [false, false] ?_
 refine zQ [4] ?_
 exact Z5 [(vB true)]
theorem Zfs : ∀ k, (Zbq (Qs k)) := fun k => by
 induction k with
 | zero => exact @fun a0 a1 r O n h => (nomatch (show (none : Option _) = some _ from h))
 | succ k ih => exact @fun a0 a1 r O n h => Zhh (ih)  h
theorem Zih {a0 : Zd} {a1 : Zd} {r : Bool} {O : Objs} {n : Nat} (h : G0 a0 a1 = some r) : GTo Try.prog 30 [.agg (Zu a0), .agg (Zu a1)] O n ((vB r)) O n := by
 obtain ⟨k, hk⟩ := Zga h
 exact (Zfs k)  hk
theorem Zhe {a0 : (List Zd)} {a1 : Zd} {r : ((List Zd) × Int)} {O : Objs} {n : Nat} {t0 : Nat} (ht0 : t0 < n) (hot0 : O t0 = some (oR 29 3 Zk a0)) (h : Kr a0 a1 = some r) : GTo Try.prog 17 [.row t0 a0.length, .agg (Zu a1)] O n (.tup [.row n r.1.length, (vI r.2)]) (Zt (O.upd t0 none) n [some (oR 29 3 Zk r.1)]) (n + 1) := by
 unfold Kr at h
 refine Zf0 Zz Try.call17 Try.func17 rfl (Nat.le_of_ble_eq_true rfl) (by omega) fun hU => ?_
 have e0 := Zyu (ba := n) (E := ⟨30, [], [(0, .row t0 a0.length), (1, .agg [.val (.int .i64 a1.Kind), .sl a1.Words.length (fl (eI .u64) a1.Words), .sl a1.Kids.length (fl Zk a1.Kids)])]⟩) (O := (Zt O n [])) (n := n) (j := t0) (len := a0.length) (q := ⟨true, 29, 3, a0.length, fl Zk a0⟩) 0 rfl (by rw [Xd _ ht0]; exact hot0) (by omega)
 simp only [Qi _ _ ht0, Qw, Xy, List.cons_append, List.nil_append, List.length_cons, List.length_nil, Nat.zero_add, Nat.reduceAdd, Nat.add_assoc] at e0
 refine Ux e0 ?_
 have hU := (Und.drop hU t0)
 have hN0 : (O.upd t0 none) n = none := hU.fresh _ (Nat.le_refl _)
 have hN : ∀ k, (O.upd t0 none) (n + k) = none := fun k => hU.fresh _ (Nat.le_add_right _ _)
 show W _ _ _ _ ⟨30, [], [(0, .row n a0.length), (0, .row t0 a0.length), (1, .agg (Zu a1))]⟩ (Zt (O.upd t0 none) n [some (oR 29 3 Zk a0)]) _
 refine zQ [0, 3] ?_
 refine Zc ?_
 obtain ⟨y2, hy2, h⟩ := bC h
 refine Gg (Zig hy2) [0, 6] [true, false, true] ?_
 refine Zc ?_
 refine zQd [0, 6, 7] [0, 6, 7] [true, false, true] ?_
 obtain ⟨z9, hz9, h⟩ := bC h
 refine Gs (J := (Qj (fun z9 => JR n (⟨30, [], [(4, .row n a0.length), (5, (vI z9))]⟩ : Env) (Zt (O.upd t0 none) n [some (oR 29 3 Zk a0), none, none]) (n + 3)) (fun z9 => JX 0 n (⟨30, [], [(0, .row n a0.length), (6, .ref (n + 2) 0)]⟩ : Env) (Zt (O.upd t0 none) n [some (oR 29 3 Zk a0), none, some ⟨false, 29, 3, 1, (Zu y2)⟩]) (n + 3)))) (z := z9) ?_ fun hw => ?_
 ·refine Qo hz9 (fun s0_ => ⟨30, [], [(0, .row n a0.length), (6, .ref (n + 2) 0), (7, (vI s0_))]⟩) (fun s0_ => (Zt (O.upd t0 none) n [some (oR 29 3 Zk a0), none, some ⟨false, 29, 3, 1, (Zu y2)⟩])) (Qj (fun z9 => JR n (⟨30, [], [(4, .row n a0.length), (5, (vI z9))]⟩ : Env) (Zt (O.upd t0 none) n [some (oR 29 3 Zk a0), none, none]) (n + 3)) (fun z9 => JX 0 n (⟨30, [], [(0, .row n a0.length), (6, .ref (n + 2) 0)]⟩ : Env) (Zt (O.upd t0 none) n [some (oR 29 3 Zk a0), none, some ⟨false, 29, 3, 1, (Zu y2)⟩]) (n + 3))) ?_
  intro s0_ x0_ hs0_
  unfold Yt at hs0_
  try dsimp only
  refine Zc ?_
  refine zQ [0, 6, 7, 13] ?_
  refine Zn (t := (decide (s0_ < (a0.length : Int)))) rfl (fun c8 => ?_) (fun c8 => ?_)
  ·replace hs0_ := Zq c8 hs0_
   refine Qg [0, 6, 7] [true, false, true] ?_
   refine Zc ?_
   refine Y4 ?_
   refine Zc ?_
   obtain ⟨x5, hx5, ax5, bx5, cx5, hs0_⟩ := bE (f := Zk) Zm4 (fun _ => rfl) (by decide) hs0_
   obtain ⟨y6, hy6, hs0_⟩ := bC hs0_
   refine Ke Zz (by kernel_rfl) [] (by kernel_rfl) ?_
   refine zF3 ax5 bx5 cx5 ?_
   refine PCall.of (Zih hy6) ?_
   refine zF3 ax5 bx5 cx5 ?_
   refine zD [0, 6, 7, 21] [true, false, true] ?_
   refine Zn (t := y6) rfl (fun c7 => ?_) (fun c7 => ?_)
   ·replace hs0_ := Zq c7 hs0_
    refine zQ [4, 5] ?_
    refine zW ?_
    exact zEy hs0_
   replace hs0_ := Zp c7 hs0_
   refine Qg [0, 6, 7] [true, false, true] ?_
   refine zR ?_
   exact zEn hs0_
  replace hs0_ := Zp c8 hs0_
  exact zEx hs0_
 rcases z9 with z9 | z9
 ·dsimp only [Qj] at hw h
  refine Ky hw ?_
  try simp only [Xc, Yn, ↓reduceIte, Nat.reduceEqDiff]
  obtain rfl := sI h
  refine Ziv (k := 1) (L3 := [some (oR 29 3 Zk a0), none]) (E2 := (⟨30, [], [(4, .row n a0.length), (5, (vI z9))]⟩ : Env)) (n3 := (n + 2)) (.inr rfl) hU rfl [.row n a0.length, (vI z9)] ?_ ?_
  ·refine Fit2.trans (E' := (⟨30, [], [(4, .row n a0.length), (5, (vI z9))]⟩ : Env)) (O' := (Zt (O.upd t0 none) n [some (oR 29 3 Zk a0), none, none])) (n' := (n + 3)) (Fit2.of (Ym hU rfl rfl ?_) (by omega)) ?_
   ·exact zSe
   refine Ga (k := 3) (k' := 2) hU [0, 1, 1] [0, 0] rfl rfl rfl rfl ⟨rfl, rfl⟩ ?_
   exact zSe
  simp only [push_cast, seval, ↓reduceIte, Zj, Try.results17, hN0, hN]
 dsimp only [Qj] at hw h
 refine Xo hw ?_
 try simp only [Xc, Yn, ↓reduceIte, Nat.reduceEqDiff]
 refine zDs [0, 6] [true, false, true] ?_
 obtain ⟨l11, pl11, ql11, el11, h⟩ := bA (k := 1) rfl h
 refine Zjg [] pl11 ql11 el11 ?_
 refine Ut ⟨30, [], [(4, .row n l11.length), (5, (vI (a0.length : Int)))]⟩ (Zt (O.upd t0 none) n [some (oR 29 3 Zk l11), none, none, none]) (Ym hU rfl rfl ?_) ?_
 ·exact Zup pl11 ql11 el11
 refine zW ?_
 obtain rfl := sI h
 refine Ziv (k := 1) (L3 := [some (oR 29 3 Zk l11), none]) (E2 := (⟨30, [], [(4, .row n l11.length), (5, (vI (a0.length : Int)))]⟩ : Env)) (n3 := (n + 2)) (.inr rfl) hU rfl [.row n l11.length, (vI (a0.length : Int))] ?_ ?_
 ·refine Fit2.trans (E' := (⟨30, [], [(4, .row n l11.length), (5, (vI (a0.length : Int)))]⟩ : Env)) (O' := (Zt (O.upd t0 none) n [some (oR 29 3 Zk l11), none, none, none])) (n' := (n + 4)) (Fit2.of (Ym hU rfl rfl ?_) (by omega)) ?_
  ·exact zSe
  refine Ga (k := 4) (k' := 2) hU [0, 1, 1, 1] [0, 0] rfl rfl rfl rfl ⟨rfl, rfl⟩ ?_
  exact zSe
 simp only [push_cast, seval, ↓reduceIte, Zj, Try.results17, hN0, hN]
theorem Zha {a0 : Zw} {r : Zw} {O : Objs} {n : Nat} (h : Km a0 = some r) : GTo Try.prog 7 [.agg (Yf a0)] O n (.agg (Yf r)) O n := by
 unfold Km at h
 refine Uw Try.call7 Try.func7 fun hU hN0 hN => ?_
 show W _ _ _ _ ⟨8, [], [(0, .agg (Yf a0))]⟩ (Zt O n []) _
 refine zQ [1, 2] ?_
 obtain ⟨z1, hz1, h⟩ := bC h
 refine Q8 (E' := ⟨8, [], [(1, .ref n 0), (2, .ref (n + 1) 0)]⟩) (O' := (Zt O n [some ⟨false, 24, 4, 1, [(vI a0.Depth), (vI z1), (vI a0.MaxD), (vI a0.MaxOut)]⟩, some ⟨false, 24, 4, 1, [(vI 0), (vI 0), (vI 0), (vI 0)]⟩])) (n0 := (n + 2)) ?_ ?_
 ·refine zQ [1, 2, 5] ?_
  refine Zn (t := (decide (3000 < a0.Weight))) rfl (fun c2 => ?_) (fun c2 => ?_)
  ·replace hz1 := Zq c2 hz1
   refine zR ?_
   exact zEn hz1
  replace hz1 := Zp c2 hz1
  refine zK ?_
  exact zEn hz1
 refine Zc ?_
 refine zRd [2] [false, true] ?_
 exact Z5 [.agg [(vI a0.Depth), (vI z1), (vI a0.MaxD), (vI a0.MaxOut)]]
end Go.Proofs.Ytgffgbdnbjbmoaa
