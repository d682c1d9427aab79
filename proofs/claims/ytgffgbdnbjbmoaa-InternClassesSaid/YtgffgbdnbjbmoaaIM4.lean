/- Part IM4 of this seat's mirrors: functions of the seat's program, and the plain functions that they are; each theorem bears its own conditions. -/
import Derived.Test.YtgffgbdnbjbmoaaIE
import Derived.Test.YtgffgbdnbjbmoaaIM1
namespace Go.Proofs.Ytgffgbdnbjbmoaa
open Go.RowKit
set_option linter.unusedVariables false
set_option linter.unusedSimpArgs false
set_option maxRecDepth 100000
set_option maxHeartbeats 4000000
attribute [local push_cast] Try.results23 Try.results24 Try.results35 Try.results36 Try.results37 Try.results38 Try.results39 Try.results40 Try.results57 Try.results58 Try.results59 Try.results60 Try.results61 Try.results70 Try.results71 Try.results72 vI vB nV sL oR Yf Zu Zs Yk Yl Ze Zu8 Zu7 Zv5 Zv4 Xc Yn Zrl Zl5 Zl4 onW Xs Zbf Gp Zof Zpr Zo2 Zo6 Zo1 Zo5 Zs1 Zsx Zo4 Zs0 Zsz Zsy Zo3 Zsv Zm3 evS wok Q6 Op.operands Call.operands gop onK onP atK List.all_cons List.all_nil Bool.and_true Bool.true_and Bool.and_self Value.oneCell' List.take_zero List.take_succ_cons List.take_nil List.drop_zero List.drop_succ_cons List.drop_nil List.append_nil Nat.add_zero Nat.zero_add Vj Yc ev Qr Zg7 Zu0 Zuz Zu5 Zu3 Zu4 Zu1 Zu2 Zuy Znl Zpn Ztz Zh7 Zc7 Zf3 Zb9 Zoe Ze6 Zj5 Zka Zlt Zlp Zj8 Zls Zlr Zlq Zj7 Zln Zj6 Zj9 Zir Zlo Zh3 Zl7 Za5 Zi3 Za6 Zjo Zh2 Zrm bLo bHi bMx Zc8 Zjm Zx4 Zh1 Zi2 Ze5 Gh Zri Zx6 Ziy Zf1 Zya Zc5 Zzj Zrw Zr0 Zrv Zrz Zvs Zvo Zvm Zoi Zrx Zvr Zvq Zvp Zry Zvh Zvk Zvg Zvj Zzv Zzs Zzr Zvi Zzt Zzu Zvn Zg8 Zl3 Zsm Zms Zmr pop TK.isAgg Zvy Zv3 Zvx Zv2 Zsc Z0h Z0d Zv1 Z0g Z0f Z0e Zvz Z0c G.under G.unders List.getD_cons_zero List.getD_cons_succ List.set_cons_zero List.set_cons_succ List.map_cons List.map_nil List.toList_toArray Array.toList_append Option.toArray_none Option.toArray_some Array.toList_map Option.map_some Option.map_none Option.bind_some Option.bind_none List.getElem?_cons_zero List.getElem?_cons_succ List.getElem?_nil List.nil_append List.cons_append List.replicate_succ List.replicate_zero List.length_cons List.length_nil and_true true_and and_false false_and Bool.true_eq_false Bool.false_eq_true forall_const false_implies implies_true IntKind.bits if_true if_false ite_true ite_false eq_self true_implies false_or or_false or_true true_or not_true_eq_false not_false_eq_true decide_true decide_false decide_eq_true_eq decide_eq_false_iff_not beq_iff_eq bne_iff_ne ne_eq Bool.not_eq_true Bool.not_eq_false beq_eq_false_iff_ne bne_eq_false_iff_eq beq_self_eq_true bne_self_eq_false Option.some.injEq exists_eq_left' exists_eq_left ge_iff_le gt_iff_lt decide_not Bool.not_true Bool.not_false imp_self Zzl cond_true cond_false Z56 Z55 Bool.not_not Bool.and_false Bool.false_and Bool.or_true Bool.true_or Bool.or_false Bool.false_or Gc Zgt Gq Uz Qw Xy Option.join_some Nat.add_assoc Int.toNat_natCast eI eB eS eL Q9 Zjq Zkh Zvb Zu9 Zva Z0b Z2o Zjz Zko Zwb Zv9 Zwa Zub Ziw Zuv Zku Zrb Zgw Ztw List.length_append G.agg.injEq G.row.injEq G.ref.injEq G.val.injEq G.sl.injEq G.tup.injEq Value.int.injEq Value.bool.injEq Value.string.injEq List.cons.injEq exists_and_left exists_const List.flatten_cons List.flatten_nil Int.le_refl Nat.le_refl U6 Xd Qi Bool.not_eq_true' Bool.not_eq_false' Zxr Zjf Z1r Z1w Z1q Z1v Z4z Z4u List.size_toArray Zmv Zot G.ren G.rens Zp7 Zfh Zwd Zuw Zux Zsw Z1x Zbb G.fn.injEq Znb Ztj Zxq Z4v Zti Z1u Z4y Z4x Z4w Z1t Zzz Z3i Option.join_none Yo U9 undef Zi5 Arr.len Arr.put_eq Zjy Zol Zmo Zkn Zv8 Zv6 Zv7 onB Z0a Zre Zsu Zn9 Zqm Zqn Zqo Zqp Zqq Zqr Zok Zop Zon Zmq Zkp Zoo Zsl Zsk Zsj Zsi Z2n Z5s Zua Zsg K8 Zt7 Zk2 Zoq Zmp Zyk Zo0 Zhy Ziu Zdz Zmw Zqs Zqt Zqu Zqv Znw Znx Zny Znz Zn0 Zn1 Zn2 Zdr prT Zca Z62 Z1c Zm5 Z1d Z63 Z1e Z64 Z1f Z65 Z1g Z66 Z1h Z67 Z1i Z68 Z1j Z3q Zwl Z3r Zwm Z3s Zwn Z3t Zwo Z3u Zwp Z3v Zwq Z3w Zwr Z3x Zws Z3y Zwt Z3z Zwu Z30 Zwv Zwk Zww Z31 Zwx Z32 Zwy Zdo Zg5 Z33 Zqe Z34 Zwz Zm4 Zw0 Z35 Zqf Z36 Zw1 Z37 Zw2 Z38 Zw3 Zaj Zw4 Z39 Zw5 Z4a Zqg Z4b Zw6 Z4c Zw7 Z4d Zw8 Z4e Zw9 Z4f Zxa Z4g Zxb Z4h Zxc Z4i Zxd Z4j Zxe Z4k Zxf Z4l Zxg Z4m Zxh Zs3 Zxi Z4n Zxj Z4o Zxk Z4p Zxl Z4q Zxm Z4r Zxn Z4s Zxo Z4t Zxp Z0z Zs5 Z00 Zs6 Z01 Zs7 Z02 Zs8 Z03 Zs9 Z04 Zta Z05 Ztb Z06 Ztc Z07 Ztd Z08 Zte Z09 Ztf Z1a Ztg Z1b Zth Znf Znd Zme Zmn Znh Zk0 Zkt Zkr Zm8 Zhv Zhu Zhk Zhr Zhw Zgp Zgm Zgl Zhs Zi Zcl Zck Zcd Zci Zcm Zb2 Zbx Zbw Zcj Zkc Zne Znc Zmd Zmm Zng Zkz Zks Zkq Zm7 Zkb Zfz Z9 Zb5 Zb3 Zbh Zbu Zb7 Za0 Zax Zav Zb0 Zb Zv Za3 Za2 Zaq Zau Za4 Zal Zad Zac Zaz Zb6 Zb4 Zbi Zbv Zb8 Za1 Zay Zaw Zb1 Z4 Zan Zam Gy Zab Zao Gm Gl Gk Zak Zk Un Zez Zex Zeh Zen Ze1 Zd2 Zdy Zdw Zev Vi Zc2 Zc3 Zey Zew Zeg Zem Ze0 Zd1 Zdx Zdv Zeu
theorem K5 {a0 : Int} {a1 : Int} {r : Int} {O : Objs} {n : Nat} (h : Xq a0 a1 = some r) : GTo Try.prog 35 [(vI a0), (vI a1)] O n ((vI r)) O n := by
 unfold Xq at h
 refine Uw Try.call35 Try.func35 fun hU hN0 hN => ?_
 show W _ _ _ _ ⟨12, [], [(0, (vI a0)), (1, (vI a1))]⟩ (Zt O n []) _
 refine zQ [0, 1] ?_
 refine Zc ?_
 refine zQ [0, 1, 6] ?_
 refine Zn (t := (decide (a0 < 0))) rfl (fun c2 => ?_) (fun c2 => ?_)
 ·replace h := Zq c2 h
  refine zQ [4] ?_
  exact Z5 [(vI 0)]
 replace h := Zp c2 h
 refine Qg [0, 1] [] ?_
 refine Zc ?_
 refine zQ [0, 1, 9] ?_
 refine Zn (t := (decide (a1 < a0))) rfl (fun c1 => ?_) (fun c1 => ?_)
 ·replace h := Zq c1 h
  refine zQ [4] ?_
  exact Z5 [(vI a1)]
 replace h := Zp c1 h
 refine Qg [0] [] ?_
 refine zQ [4] ?_
 exact Z5 [(vI a0)]
theorem Zgc {a0 : Zw} {r : Zw} {O : Objs} {n : Nat} (h : Ka a0 = some r) : GTo Try.prog 23 [.agg (Yf a0)] O n (.agg (Yf r)) O n := by
 unfold Ka at h
 refine Uw Try.call23 Try.func23 fun hU hN0 hN => ?_
 show W _ _ _ _ ⟨16, [], [(0, .agg (Yf a0))]⟩ (Zt O n []) _
 refine zQ [1, 2] ?_
 refine Zc ?_
 obtain ⟨y5, hy5, h⟩ := bC h
 obtain ⟨y6, hy6, h⟩ := bC h
 obtain ⟨y7, hy7, h⟩ := bC h
 obtain ⟨y8, hy8, h⟩ := bC h
 refine Zgu Zz (by kernel_rfl) [false, false, false, false, false, false, false, false, false, false, false, false, false, true] [] (by kernel_rfl) ?_
 refine zS ?_
 refine PCall.of (K5 hy5) ?_
 refine zS ?_
 refine PCall.of (K5 hy6) ?_
 refine zS ?_
 refine PCall.of (K5 hy7) ?_
 refine zS ?_
 refine PCall.of (K5 hy8) ?_
 refine zS ?_
 refine zD [2] [false, true] ?_
 exact Z5 [.agg [(vI y5), (vI y6), (vI y7), (vI y8)]]
theorem K4 {a0 : (List (List Int))} {a1 : Int} {a2 : Int} {r : Bool} {O : Objs} {n : Nat} (h : Q0 a0 a1 a2 = some r) : GTo Try.prog 57 [(sL (eL (eI .u64)) a0), (vI a1), (vI a2)] O n ((vB r)) O n := by
 unfold Q0 at h
 refine Uw Try.call57 Try.func57 fun hU hN0 hN => ?_
 show W _ _ _ _ ⟨28, [], [(0, (sL (eL (eI .u64)) a0)), (1, (vI a1)), (2, (vI a2))]⟩ (Zt O n []) _
 refine zQ [0, 1, 2] ?_
 obtain ⟨z2, hz2, h⟩ := bC h
 refine Q8 (E' := ⟨28, [], [(6, (vB z2))]⟩) (O' := (Zt O n [])) (n0 := n) ?_ ?_
 ·rcases Bool.eq_false_or_eq_true (decide (0 ≤ a1)) with c5 | c5
  ·replace hz2 := Zq c5 hz2
   rcases Bool.eq_false_or_eq_true (decide (a1 < (a0.length : Int))) with c6 | c6
   ·replace hz2 := Zq c6 hz2
    try rw [c6] at c5
    rcases Bool.eq_false_or_eq_true (decide (0 ≤ a2)) with c7 | c7
    ·replace hz2 := Zq c7 hz2
     try rw [c7] at c5
     try rw [c7] at c6
     obtain ⟨x4, hx4, ax4, bx4, cx4, hz2⟩ := bE (f := (eL (eI .u64))) Zdo (fun _ => rfl) (by decide) hz2
     refine Zxt [none, none, none, none, none, none, some true, some true, some true, some true, some true, some true, some true] c5 c6 c7 ax4 bx4 cx4 ?_
     refine zG ?_
     exact Z40 hz2 c5 c6 c7 ax4 bx4 cx4
    replace hz2 := Zp c7 hz2
    try rw [c7] at c5
    try rw [c7] at c6
    refine Zjg [none, none, none, none, none, none, some false, some false, some false, some false, some false, some false, some false] c5 c6 c7 ?_
    refine zG ?_
    exact Z10 hz2 c5 c6 c7
   replace hz2 := Zp c6 hz2
   try rw [c6] at c5
   refine Qq [none, none, none, none, none, none, some false, some false, some false, some false, some false, some false, some false] c5 c6 ?_
   refine zG ?_
   exact Znj hz2 c5 c6
  replace hz2 := Zp c5 hz2
  refine U8 [none, none, none, none, none, none, some false, some false, some false, some false, some false, some false, some false] c5 ?_
  refine zG ?_
  exact Uv hz2 c5
 exact Z5 [(vB z2)]
theorem Xe {a0 : Int} {a1 : Int} {a2 : Int} {r : Int} {O : Objs} {n : Nat} (h : Zy a0 a1 a2 = some r) : GTo Try.prog 60 [.val (.int .u64 a0), (vI a1), (vI a2)] O n ((vI r)) O n := by
 unfold Zy at h
 refine Uw Try.call60 Try.func60 fun hU hN0 hN => ?_
 show W _ _ _ _ ⟨34, [], [(0, .val (.int .u64 a0)), (1, (vI a1)), (2, (vI a2))]⟩ (Zt O n []) _
 refine zQ [0, 1, 2] ?_
 refine Zc ?_
 refine zQd [0, 1, 2, 7] [0, 1, 2, 7] [] ?_
 obtain ⟨z2, hz2, h⟩ := bC h
 refine Xo (E' := ⟨34, [], [(0, .val (.int .u64 z2)), (2, (vI a2))]⟩) (O' := (Zt O n [])) (n0 := n) ?_ ?_
 ·refine Qo hz2 (fun s0_ => ⟨34, [], [(0, .val (.int .u64 s0_.1)), (1, (vI a1)), (2, (vI a2)), (7, (vI s0_.2))]⟩) (fun s0_ => (Zt O n [])) (fun z2 => JX 0 n (⟨34, [], [(0, .val (.int .u64 z2)), (2, (vI a2))]⟩ : Env) (Zt O n []) n) ?_
  intro s0_ x0_ hs0_
  unfold Ku at hs0_
  try dsimp only
  refine Zc ?_
  refine zQ [0, 1, 2, 7, 13] ?_
  refine Zn (t := (decide (s0_.2 < a1))) rfl (fun c1 => ?_) (fun c1 => ?_)
  ·replace hs0_ := Zq c1 hs0_
   refine Qg [0, 1, 2, 7] [] ?_
   refine Zc ?_
   refine Y4 ?_
   refine zRd [0, 1, 2, 7] [] ?_
   refine zR ?_
   exact zEn hs0_
  replace hs0_ := Zp c1 hs0_
  exact zEx hs0_
 try simp only [Xc, Yn, ↓reduceIte, Nat.reduceEqDiff]
 refine zD [0, 2] [] ?_
 refine zQ [0, 2, 8, 9] ?_
 refine Zc ?_
 refine zQd [0, 2, 8, 9, 10] [0, 2, 8, 9, 10] [] ?_
 obtain ⟨z6, hz6, h⟩ := bC h
 refine Xo (E' := ⟨34, [], [(8, (vI z6))]⟩) (O' := (Zt O n [])) (n0 := n) ?_ ?_
 ·refine Qo hz6 (fun s1_ => ⟨34, [], [(0, .val (.int .u64 s1_.1)), (2, (vI a2)), (8, (vI s1_.2.1)), (9, (vI s1_.2.2.1)), (10, (vI s1_.2.2.2))]⟩) (fun s1_ => (Zt O n [])) (fun z6 => JX 2 n (⟨34, [], [(8, (vI z6))]⟩ : Env) (Zt O n []) n) ?_
  intro s1_ x1_ hs1_
  unfold Kv at hs1_
  try dsimp only
  refine Zc ?_
  refine zQ [0, 2, 8, 9, 10, 20] ?_
  refine Zn (t := (decide (s1_.2.2.2 < a2))) rfl (fun c5 => ?_) (fun c5 => ?_)
  ·replace hs1_ := Zq c5 hs1_
   refine Qg [0, 2, 8, 9, 10] [] ?_
   refine Zc ?_
   refine Y4 ?_
   obtain ⟨z3, hz3, hs1_⟩ := bC hs1_
   refine Q8 (E' := ⟨34, [], [(0, .val (.int .u64 s1_.1)), (2, (vI a2)), (8, (vI z3)), (9, (vI s1_.2.2.1)), (10, (vI s1_.2.2.2))]⟩) (O' := (Zt O n [])) (n0 := n) ?_ ?_
   ·refine zQ [0, 2, 8, 9, 10, 25] ?_
    refine Zn (t := ((Int.tmod s1_.1 2) == 1)) rfl (fun c4 => ?_) (fun c4 => ?_)
    ·replace hz3 := Zq c4 hz3
     refine zR ?_
     exact zEn hz3
    replace hz3 := Zp c4 hz3
    refine zK ?_
    exact zEn hz3
   refine zQ [0, 2, 8, 9, 10] ?_
   refine zRd [0, 2, 8, 9, 10] [] ?_
   refine zR ?_
   exact zEn hs1_
  replace hs1_ := Zp c5 hs1_
  exact zEx hs1_
 try simp only [Xc, Yn, ↓reduceIte, Nat.reduceEqDiff]
 refine zD [8] [] ?_
 refine zQ [6] ?_
 exact Z5 [(vI z6)]
theorem X4 {a0 : Int} {r : Z6} {O : Objs} {n : Nat} (h : Y1 a0 = some r) : GTo Try.prog 37 [.val (.int .u64 a0)] O n (.agg (Yl r)) O n := by
 unfold Y1 at h
 refine Uw Try.call37 Try.func37 fun hU hN0 hN => ?_
 show W _ _ _ _ ⟨42, [], [(0, .val (.int .u64 a0))]⟩ (Zt O n []) _
 refine zQ [0, 2] ?_
 refine Zc ?_
 refine zQ [0, 2, 5] ?_
 refine Zn (t := (a0 == 0)) rfl (fun c24 => ?_) (fun c24 => ?_)
 ·replace h := Zq c24 h
  refine Zc ?_
  refine zRd [2] [true] ?_
  exact Z5 [.agg [(vI 0), (vI 0), (vI 0), (vI 0), (vI 0), (vI 0), (vI 0), (vB false)]]
 replace h := Zp c24 h
 refine Qg [0, 2] [true] ?_
 refine Zc ?_
 obtain ⟨y2, hy2, h⟩ := bC h
 refine Gg (Xe hy2) [0, 2, 3] [true] ?_
 obtain ⟨z3, hz3, h⟩ := bC h
 refine Q8 (E' := ⟨42, [], [(0, .val (.int .u64 a0)), (2, .ref n 0), (3, (vI z3))]⟩) (O' := (Zt O n [some ⟨false, 86, 8, 1, [(vI 0), (vI 0), (vI 0), (vI 0), (vI 0), (vI 0), (vI 0), (vB false)]⟩])) (n0 := (n + 1)) ?_ ?_
 ·refine zQ [0, 2, 3, 10] ?_
  refine Zn (t := (decide (536870912 ≤ y2))) rfl (fun c4 => ?_) (fun c4 => ?_)
  ·replace hz3 := Zq c4 hz3
   refine zR ?_
   exact zEn hz3
  replace hz3 := Zp c4 hz3
  refine zK ?_
  exact zEn hz3
 refine Zc ?_
 refine Zc ?_
 obtain ⟨y6, hy6, h⟩ := bC h
 refine Gg (Xe hy6) [0, 2, 3, 14] [true] ?_
 refine Y4 ?_
 refine zQ [0, 2, 3, 14, 15] ?_
 refine Zn (t := (y6 == 0)) rfl (fun c23 => ?_) (fun c23 => ?_)
 ·replace h := Zq c23 h
  refine Zc ?_
  obtain ⟨y9, hy9, h⟩ := bC h
  obtain ⟨y10, hy10, h⟩ := bC h
  refine zC (Xe hy9) ?_
  refine zTs (Xe hy10) ?_
  refine zD [2] [true] ?_
  exact Z5 [.agg [(vI 1), (vI z3), (vI y9), (vI y10), (vI 0), (vI 0), (vI 0), (vB false)]]
 replace h := Zp c23 h
 refine zQ [0, 2, 3, 14, 23] ?_
 refine Zn (t := (y6 == 1)) rfl (fun c22 => ?_) (fun c22 => ?_)
 ·replace h := Zq c22 h
  refine Zc ?_
  obtain ⟨y13, hy13, h⟩ := bC h
  obtain ⟨y14, hy14, h⟩ := bC h
  refine zC (Xe hy13) ?_
  refine zTs (Xe hy14) ?_
  refine zD [2] [true] ?_
  exact Z5 [.agg [(vI 2), (vI z3), (vI 0), (vI 0), (vI y13), (vI y14), (vI 0), (vB false)]]
 replace h := Zp c22 h
 refine zQ [0, 2, 31] ?_
 refine Zn (t := (y6 == 2)) rfl (fun c21 => ?_) (fun c21 => ?_)
 ·replace h := Zq c21 h
  refine Zc ?_
  obtain ⟨y18, hy18, h⟩ := bC h
  obtain ⟨y19, hy19, h⟩ := bC h
  obtain ⟨y20, hy20, h⟩ := bC h
  refine zC (Xe hy18) ?_
  refine zTs (Xe hy19) ?_
  refine zTs (Xe hy20) ?_
  refine zD [2] [true] ?_
  exact Z5 [.agg [(vI 3), (vI y18), (vI 0), (vI 0), (vI 0), (vI 0), (vI y19), (vB (y20 == 1))]]
 replace h := Zp c21 h
 refine Qg [2] [true] ?_
 refine Zc ?_
 refine zRd [2] [true] ?_
 exact Z5 [.agg [(vI 4), (vI 0), (vI 0), (vI 0), (vI 0), (vI 0), (vI 0), (vB false)]]
theorem Zce {a0 : Z6} {r : Int} {O : Objs} {n : Nat} (h : Qt a0 = some r) : GTo Try.prog 58 [.agg (Yl a0)] O n ((vI r)) O n := by
 unfold Qt at h
 refine Uw Try.call58 Try.func58 fun hU hN0 hN => ?_
 show W _ _ _ _ ⟨14, [], [(0, .agg (Yl a0))]⟩ (Zt O n []) _
 refine zQ [1] ?_
 refine Zc ?_
 refine zQ [1, 5] ?_
 refine Zn (t := (a0.Kind == 4)) rfl (fun c2 => ?_) (fun c2 => ?_)
 ·replace h := Zq c2 h
  refine zQ [2] ?_
  exact Z5 [(vI 9)]
 replace h := Zp c2 h
 refine Qg [1] [true] ?_
 refine Zc ?_
 refine zQD [13] [none, none, none] ?_
 refine Zn (t := (cond (a0.Kind != 1) (a0.Kind != 2) false)) rfl (fun c1 => ?_) (fun c1 => ?_)
 ·replace h := Zq c1 h
  refine zQ [2] ?_
  exact Z5 [(vI 8)]
 replace h := Zp c1 h
 refine Qg [] [false] ?_
 refine zQ [2] ?_
 exact Z5 [(vI 0)]
theorem Zhd {a0 : Z6} {r : Int} {O : Objs} {n : Nat} (h : Kq a0 = some r) : GTo Try.prog 70 [.agg (Yl a0)] O n ((vI r)) O n := by
 unfold Kq at h
 refine Uw Try.call70 Try.func70 fun hU hN0 hN => ?_
 show W _ _ _ _ ⟨65, [], [(0, .agg (Yl a0))]⟩ (Zt O n []) _
 refine zQ [1] ?_
 refine Zc ?_
 refine zQ [1, 6] ?_
 refine Zn (t := (a0.Kind == 1)) rfl (fun c17 => ?_) (fun c17 => ?_)
 ·replace h := Zq c17 h
  refine zQ [2] ?_
  exact Z5 [(vI (IntKind.i64.wrap (a0.Data + a0.Ptrs)))]
 replace h := Zp c17 h
 refine Qg [1] [true] ?_
 refine Zc ?_
 refine zQ [1, 14] ?_
 refine Zn (t := (a0.Kind != 2)) rfl (fun c16 => ?_) (fun c16 => ?_)
 ·replace h := Zq c16 h
  refine zQ [2] ?_
  exact Z5 [(vI (-1))]
 replace h := Zp c16 h
 refine Qg [1] [true] ?_
 refine Zc ?_
 refine zQ [1, 17] ?_
 refine Zn (t := (a0.Code == 7)) rfl (fun c15 => ?_) (fun c15 => ?_)
 ·replace h := Zq c15 h
  refine zQ [2] ?_
  exact Z5 [(vI (IntKind.i64.wrap (a0.Count + 1)))]
 replace h := Zp c15 h
 refine Qg [1] [true] ?_
 refine Zc ?_
 refine zQD [1, 38] [none, none, none, none, none, none, none, none, none] ?_
 refine Zn (t := (cond (cond (cond (decide (a0.Code < 0)) true (decide (6 < a0.Code))) true (decide (a0.Count < 0))) true (decide (536870912 ≤ a0.Count)))) rfl (fun c14 => ?_) (fun c14 => ?_)
 ·replace h := Zq c14 h
  refine zQ [2] ?_
  exact Z5 [(vI (-1))]
 replace h := Zp c14 h
 refine Qg [1] [true] ?_
 refine zQ [1, 3] ?_
 obtain ⟨z1, hz1, h⟩ := bC h
 refine Zyz (J := (Qj (fun z1 => JN n (⟨65, [], [(1, .ref n 0), (3, (vI z1))]⟩ : Env) (Zt O n [some ⟨false, 86, 8, 1, (Yl a0)⟩]) (n + 1)) (fun z1 => JR n (⟨65, [], [(2, (vI 0))]⟩ : Env) (Zt O n [none]) (n + 1)))) (z := z1) ?_ fun hw => ?_
 ·refine zQ [1, 3, 40] ?_
  refine Y4 ?_
  refine zQ [1, 3, 40, 41] ?_
  refine Zn (t := (a0.Code == 0)) rfl (fun c6 => ?_) (fun c6 => ?_)
  ·replace hz1 := Zq c6 hz1
   refine zQ [2] ?_
   refine zW ?_
   exact zEn hz1
  replace hz1 := Zp c6 hz1
  refine zQ [1, 3, 40, 43] ?_
  refine Zn (t := (a0.Code == 1)) rfl (fun c5 => ?_) (fun c5 => ?_)
  ·replace hz1 := Zq c5 hz1
   refine zR ?_
   exact zEn hz1
  replace hz1 := Zp c5 hz1
  refine zQ [1, 3, 40, 45] ?_
  refine Zn (t := (a0.Code == 2)) rfl (fun c4 => ?_) (fun c4 => ?_)
  ·replace hz1 := Zq c4 hz1
   refine zR ?_
   exact zEn hz1
  replace hz1 := Zp c4 hz1
  refine zQ [1, 3, 40, 47] ?_
  refine Zn (t := (a0.Code == 3)) rfl (fun c3 => ?_) (fun c3 => ?_)
  ·replace hz1 := Zq c3 hz1
   refine zR ?_
   exact zEn hz1
  replace hz1 := Zp c3 hz1
  refine zQ [1, 3, 49] ?_
  refine Zn (t := (a0.Code == 4)) rfl (fun c2 => ?_) (fun c2 => ?_)
  ·replace hz1 := Zq c2 hz1
   refine zR ?_
   exact zEn hz1
  replace hz1 := Zp c2 hz1
  refine zK ?_
  exact zEn hz1
 rcases z1 with z1 | z1
 ·dsimp only [Qj] at hw h
  refine Q8 hw ?_
  refine Zc ?_
  obtain ⟨pu8, h⟩ := bG h
  refine U0 [1, 3, 55] (Z8 Zz [] ?_)
  simp only [push_cast, seval, ↓reduceIte, Zj, pu8, hN0, hN]
  refine Zn (t := (decide (0 < (Int.tmod a0.Count z1)))) rfl (fun c13 => ?_) (fun c13 => ?_)
  ·replace h := Zq c13 h
   obtain ⟨pu10, h⟩ := bG h
   refine U0 [2] (Z8 Zz [] ?_)
   simp only [push_cast, seval, ↓reduceIte, Zj, pu10, hN0, hN]
   exact Z5 [(vI (IntKind.i64.wrap ((IntKind.i64.wrap (Int.tdiv a0.Count z1)) + 1)))]
  replace h := Zp c13 h
  refine Qg [1, 3] [true] ?_
  obtain ⟨pu12, h⟩ := bG h
  refine U0 [2] (Z8 Zz [] ?_)
  simp only [push_cast, seval, ↓reduceIte, Zj, pu12, hN0, hN]
  exact Z5 [(vI (IntKind.i64.wrap (Int.tdiv a0.Count z1)))]
 dsimp only [Qj] at hw h
 refine Ztn hw ?_
 try simp only [Xc, Yn]
 exact Znv [(vI 0)]
theorem Zcf {a0 : (List (List Int))} {a1 : Z3} {r : (Z3 × Int)} {O : Objs} {n : Nat} (h : Qu a0 a1 = some r) : GTo Try.prog 59 [(sL (eL (eI .u64)) a0), .agg [(vI a1.P.Kind), (vI a1.P.Off), (vI a1.P.Data), (vI a1.P.Ptrs), (vI a1.P.Code), (vI a1.P.Count), (vI a1.P.Segment), (vB a1.P.Double), (vI a1.Segment), (vI a1.At)]] O n (.tup [.agg [(vI r.1.P.Kind), (vI r.1.P.Off), (vI r.1.P.Data), (vI r.1.P.Ptrs), (vI r.1.P.Code), (vI r.1.P.Count), (vI r.1.P.Segment), (vB r.1.P.Double), (vI r.1.Segment), (vI r.1.At)], (vI r.2)]) O n := by
 unfold Qu at h
 refine Uw Try.call59 Try.func59 fun hU hN0 hN => ?_
 show W _ _ _ _ ⟨53, [], [(0, (sL (eL (eI .u64)) a0)), (1, .agg [(vI a1.P.Kind), (vI a1.P.Off), (vI a1.P.Data), (vI a1.P.Ptrs), (vI a1.P.Code), (vI a1.P.Count), (vI a1.P.Segment), (vB a1.P.Double), (vI a1.Segment), (vI a1.At)])]⟩ (Zt O n []) _
 refine zQ [0, 3, 4] ?_
 refine Zc ?_
 obtain ⟨y2, hy2, h⟩ := bC h
 refine Gg (Zhd hy2) [0, 3, 4, 6] [true, true] ?_
 refine Zc ?_
 obtain ⟨z5, hz5, h⟩ := bC h
 refine Q8 (E' := ⟨53, [], [(3, .ref n 0), (4, .ref (n + 1) 0), (48, (vB z5))]⟩) (O' := (Zt O n [some ⟨false, 88, 10, 1, [(vI a1.P.Kind), (vI a1.P.Off), (vI a1.P.Data), (vI a1.P.Ptrs), (vI a1.P.Code), (vI a1.P.Count), (vI a1.P.Segment), (vB a1.P.Double), (vI a1.Segment), (vI a1.At)]⟩, some ⟨false, 88, 10, 1, [(vI 0), (vI 0), (vI 0), (vI 0), (vI 0), (vI 0), (vI 0), (vB false), (vI 0), (vI 0)]⟩])) (n0 := (n + 2)) ?_ ?_
 ·rcases Bool.eq_false_or_eq_true (decide (a1.Segment < 0)) with c10 | c10
  ·replace hz5 := Zq c10 hz5
   refine Ke Zz (by kernel_rfl) [none, none, none, none, none, none, none, none, some false, some false, some false, some false, some false, some false, some false, some false, some false, some false, some false, some false, some false, some false, some false, some false, some false, some false, some false, some false] (by kernel_rfl) ?_
   refine zX1 c10 ?_
   refine zG ?_
   exact Uv hz5 c10
  replace hz5 := Zp c10 hz5
  rcases Bool.eq_false_or_eq_true (decide ((a0.length : Int) ≤ a1.Segment)) with c11 | c11
  ·replace hz5 := Zq c11 hz5
   try rw [c11] at c10
   refine Ke Zz (by kernel_rfl) [none, none, none, none, none, none, none, none, some false, some false, some false, some false, some false, some false, some false, some false, some false, some false, some false, some false, some false, some false, some false, some false, some false, some false, some false, some false] (by kernel_rfl) ?_
   refine zX2 c10 c11 ?_
   refine zG ?_
   exact Znj hz5 c10 c11
  replace hz5 := Zp c11 hz5
  try rw [c11] at c10
  rcases Bool.eq_false_or_eq_true (decide (a1.At < 0)) with c12 | c12
  ·replace hz5 := Zq c12 hz5
   try rw [c12] at c10
   try rw [c12] at c11
   refine Ke Zz (by kernel_rfl) [none, none, none, none, none, none, none, none, some false, some false, some false, some false, some false, some false, some false, some false, some false, some false, some false, some false, some false, some false, some false, some false, some false, some false, some false, some false] (by kernel_rfl) ?_
   refine zX3 c10 c11 c12 ?_
   refine zG ?_
   exact Z10 hz5 c10 c11 c12
  replace hz5 := Zp c12 hz5
  try rw [c12] at c10
  try rw [c12] at c11
  obtain ⟨x8, hx8, ax8, bx8, cx8, hz5⟩ := bE (f := (eL (eI .u64))) Zdo (fun _ => rfl) (by decide) hz5
  rcases Bool.eq_false_or_eq_true (decide ((x8.length : Int) < a1.At)) with c13 | c13
  ·replace hz5 := Zq c13 hz5
   try rw [c13] at c10
   try rw [c13] at c11
   try rw [c13] at c12
   refine Ke Zz (by kernel_rfl) [none, none, none, none, none, none, none, none, some true, some true, some true, some true, some true, some true, some true, some true, some true, some false, some false, some false, some false, some false, some false, some false, some false, some false, some false, some false] (by kernel_rfl) ?_
   refine zF7 c10 c11 c12 ax8 bx8 cx8 c13 ?_
   refine zG ?_
   exact Z41 hz5 c10 c11 c12 ax8 bx8 cx8 c13
  replace hz5 := Zp c13 hz5
  try rw [c13] at c10
  try rw [c13] at c11
  try rw [c13] at c12
  refine Ke Zz (by kernel_rfl) [none, none, none, none, none, none, none, none, some true, some true, some true, some true, some true, some true, some true, some true, some true, some true, some true, some true, some true, some true, some true, some true, some true, some true, some true, some true] (by kernel_rfl) ?_
  refine zF7 c10 c11 c12 ax8 bx8 cx8 c13 ?_
  refine zG ?_
  exact Z41 hz5 c10 c11 c12 ax8 bx8 cx8 c13
 refine Zn (t := z5) rfl (fun c14 => ?_) (fun c14 => ?_)
 ·replace h := Zq c14 h
  refine Zc ?_
  refine zRd [4, 5] [false, true] ?_
  exact Z5 [.agg [(vI 0), (vI 0), (vI 0), (vI 0), (vI 0), (vI 0), (vI 0), (vB false), (vI 0), (vI 0)], (vI 7)]
 replace h := Zp c14 h
 refine Qg [3, 4] [true, true] ?_
 refine Zc ?_
 refine zRd [3, 4] [true, true] ?_
 refine Zc ?_
 refine zRd [4, 5] [false, true] ?_
 exact Z5 [.agg [(vI a1.P.Kind), (vI 0), (vI a1.P.Data), (vI a1.P.Ptrs), (vI a1.P.Code), (vI a1.P.Count), (vI a1.P.Segment), (vB a1.P.Double), (vI a1.Segment), (vI a1.At)], (vI 0)]
theorem Zgb {a0 : (List (List Int))} {a1 : Int} {a2 : Int} {r : (Z3 × Int)} {O : Objs} {n : Nat} (h : Ji a0 a1 a2 = some r) : GTo Try.prog 36 [(sL (eL (eI .u64)) a0), (vI a1), (vI a2)] O n (.tup [.agg [(vI r.1.P.Kind), (vI r.1.P.Off), (vI r.1.P.Data), (vI r.1.P.Ptrs), (vI r.1.P.Code), (vI r.1.P.Count), (vI r.1.P.Segment), (vB r.1.P.Double), (vI r.1.Segment), (vI r.1.At)], (vI r.2)]) O n := by
 unfold Ji at h
 refine Uw Try.call36 Try.func36 fun hU hN0 hN => ?_
 show W _ _ _ _ ⟨147, [], [(0, (sL (eL (eI .u64)) a0)), (1, (vI a1)), (2, (vI a2))]⟩ (Zt O n []) _
 refine zQ [0, 1, 2, 6] ?_
 refine Zc ?_
 refine Zc ?_
 obtain ⟨y2, hy2, h⟩ := bC h
 refine Gg (K4 hy2) [0, 1, 2, 6, 17] [true] ?_
 refine Zn (t := (!y2)) rfl (fun c47 => ?_) (fun c47 => ?_)
 ·replace h := Zq c47 h
  refine Zc ?_
  refine zRd [6, 7] [true] ?_
  exact Z5 [.agg [(vI 0), (vI 0), (vI 0), (vI 0), (vI 0), (vI 0), (vI 0), (vB false), (vI 0), (vI 0)], (vI 7)]
 replace h := Zp c47 h
 refine Qg [0, 1, 2, 6] [true] ?_
 refine Zc ?_
 obtain ⟨x6, hx6, ax6, bx6, cx6, h⟩ := bE (f := (eL (eI .u64))) Zdo (fun _ => rfl) (by decide) h
 obtain ⟨x7, hx7, ax7, bx7, cx7, h⟩ := bE (f := (eI .u64)) Zaj (fun _ => rfl) (by decide) h
 obtain ⟨y8, hy8, h⟩ := bC h
 refine Zxt [] ax6 bx6 cx6 ax7 bx7 cx7 ?_
 refine (X4 hy8).then ?_
 refine zF6 ax6 bx6 cx6 ax7 bx7 cx7 ?_
 refine zDs [0, 1, 2, 6, 8] [true, true] ?_
 refine zQ [0, 1, 2, 6, 8, 29] ?_
 refine Zn (t := (y8.Kind == 0)) rfl (fun c46 => ?_) (fun c46 => ?_)
 ·replace h := Zq c46 h
  refine Zc ?_
  refine zRd [6, 7] [true, false] ?_
  exact Z5 [.agg [(vI 0), (vI 0), (vI 0), (vI 0), (vI 0), (vI 0), (vI 0), (vB false), (vI 0), (vI 0)], (vI 0)]
 replace h := Zp c46 h
 refine Qg [0, 1, 2, 6, 8] [true, true] ?_
 refine Zc ?_
 refine zQD [0, 1, 2, 6, 8, 37] [none, none] ?_
 refine Zn (t := (cond (y8.Kind == 3) y8.Double false)) rfl (fun c45 => ?_) (fun c45 => ?_)
 ·replace h := Zq c45 h
  refine Zc ?_
  obtain ⟨z11, hz11, h⟩ := bC h
  refine Q8 (E' := ⟨147, [], [(0, (sL (eL (eI .u64)) a0)), (6, .ref n 0), (8, .ref (n + 1) 0), (54, (vB z11))]⟩) (O' := (Zt O n [some ⟨false, 88, 10, 1, [(vI 0), (vI 0), (vI 0), (vI 0), (vI 0), (vI 0), (vI 0), (vB false), (vI 0), (vI 0)]⟩, some ⟨false, 86, 8, 1, (Yl y8)⟩])) (n0 := (n + 2)) ?_ ?_
  ·obtain ⟨y14, hy14, hz11⟩ := bC hz11
   rcases Bool.eq_false_or_eq_true y14 with c16 | c16
   ·replace hz11 := Zq c16 hz11
    obtain ⟨y15, hy15, hz11⟩ := bC hz11
    refine U8 [some true, some true, some true, some true, some true, some true, some true, some true] c16 ?_
    refine (K4 hy14).then ?_
    refine zX1 c16 ?_
    refine (K4 hy15).then ?_
    refine zX1 c16 ?_
    exact Uv hz11 c16
   replace hz11 := Zp c16 hz11
   refine U8 [some false, some false, some false, some false, some false, some false, some false, some false] c16 ?_
   refine (K4 hy14).then ?_
   refine zX1 c16 ?_
   exact Uv hz11 c16
  refine Zn (t := z11) rfl (fun c31 => ?_) (fun c31 => ?_)
  ·replace h := Zq c31 h
   refine Zc ?_
   refine zRd [6, 7] [true, false] ?_
   exact Z5 [.agg [(vI 0), (vI 0), (vI 0), (vI 0), (vI 0), (vI 0), (vI 0), (vB false), (vI 0), (vI 0)], (vI 7)]
  replace h := Zp c31 h
  refine Qg [0, 6, 8] [true, true] ?_
  obtain ⟨x17, hx17, ax17, bx17, cx17, h⟩ := bE (f := (eL (eI .u64))) Zdo (fun _ => rfl) (by decide) h
  obtain ⟨x18, hx18, ax18, bx18, cx18, h⟩ := bE (f := (eI .u64)) Zaj (fun _ => rfl) (by decide) h
  obtain ⟨y19, hy19, h⟩ := bC h
  obtain ⟨x21, hx21, ax21, bx21, cx21, h⟩ := bE (f := (eI .u64)) Zaj (fun _ => rfl) (by decide) h
  obtain ⟨y22, hy22, h⟩ := bC h
  refine Q8 (E' := ⟨147, [], [(0, (sL (eL (eI .u64)) a0)), (6, .ref n 0), (9, .ref (n + 2) 0), (10, .ref (n + 3) 0)]⟩) (O' := (Zt O n [some ⟨false, 88, 10, 1, [(vI 0), (vI 0), (vI 0), (vI 0), (vI 0), (vI 0), (vI 0), (vB false), (vI 0), (vI 0)]⟩, none, some ⟨false, 86, 8, 1, (Yl y19)⟩, some ⟨false, 86, 8, 1, (Yl y22)⟩])) (n0 := (n + 4)) ?_ ?_
  ·refine Zuq Zz (by kernel_rfl) [.low, .low, .low, .low, .low, .low, .low, .low, .low, .low, .low, .low, .low, .low, .low, .low, .low, .low, .low, .low, .low, .pass, .pass, .pass, .pass] (fun i => i < (n + 2)) 21 22 [0, 1, 2, 3, 4, 5, 6, 7, 8, 9, 10, 11, 12, 13, 14, 15, 16, 17, 18, 19, 20] [23, 24] [.low, .low, .low, .low, .low, .low, .low, .low, .low, .low, .low, .low, .low, .low, .low, .low, .low, .low, .low, .low, .low] [.pass, .pass, .pass, .pass] [.pass, .pass, .pass, .pass] [] (by kernel_rfl) rfl rfl rfl ?_
   refine zF9 ax17 bx17 cx17 ax18 bx18 cx18 ax21 bx21 cx21 ?_
   repeat (with_reducible refine And.intro (by omega) ?_)
   first | refine PCallA.of (fun _ _ => X4 hy19) ?_ | refine PCall.of (X4 hy19) ?_
   refine zF9 ax17 bx17 cx17 ax18 bx18 cx18 ax21 bx21 cx21 ?_
   repeat (with_reducible refine And.intro (by omega) ?_)
   first | refine PCallA.of (fun _ _ => X4 hy22) ?_ | refine PCall.of (X4 hy22) ?_
   refine zF9 ax17 bx17 cx17 ax18 bx18 cx18 ax21 bx21 cx21 ?_
   repeat (with_reducible refine And.intro (by omega) ?_)
   refine And.intro ?_ ?_
   ·refine zF9 ax17 bx17 cx17 ax18 bx18 cx18 ax21 bx21 cx21 ?_
    repeat (with_reducible refine And.intro (by first | exact Zec rfl | exact Zc0) ?_)
    refine And.intro rfl (Fit2.of (Ym hU rfl rfl ?_) (by omega))
    exact Z7t ax17 bx17 cx17 ax18 bx18 cx18 ax21 bx21 cx21
   refine zF9 ax17 bx17 cx17 ax18 bx18 cx18 ax21 bx21 cx21 ?_
   repeat (with_reducible refine And.intro (by first | exact Zec rfl | exact Zc0) ?_)
   refine And.intro rfl ?_
   refine Fit2.trans (E' := (⟨147, [], [(0, (sL (eL (eI .u64)) a0)), (6, .ref n 0), (9, .ref (n + 3) 0), (10, .ref (n + 2) 0)]⟩ : Env)) (O' := (Zt O n [some ⟨false, 88, 10, 1, [(vI 0), (vI 0), (vI 0), (vI 0), (vI 0), (vI 0), (vI 0), (vB false), (vI 0), (vI 0)]⟩, none, some ⟨false, 86, 8, 1, (Yl y22)⟩, some ⟨false, 86, 8, 1, (Yl y19)⟩])) (n' := (n + 4)) (Fit2.of (Ym hU rfl rfl ?_) (by omega)) ?_
   ·exact Z7t ax17 bx17 cx17 ax18 bx18 cx18 ax21 bx21 cx21
   refine Ga (k := 4) (k' := 4) hU [0, 1, 3, 2] [0, 1, 3, 2] rfl rfl rfl rfl ⟨rfl, rfl⟩ ?_
   exact zSe
  refine Zc ?_
  refine zQD [0, 6, 9, 10, 83] [none, none] ?_
  refine Zn (t := (cond (y19.Kind != 3) true y19.Double)) rfl (fun c30 => ?_) (fun c30 => ?_)
  ·replace h := Zq c30 h
   refine Zc ?_
   refine zRd [6, 7] [true, false, false, false] ?_
   exact Z5 [.agg [(vI 0), (vI 0), (vI 0), (vI 0), (vI 0), (vI 0), (vI 0), (vB false), (vI 0), (vI 0)], (vI 8)]
  replace h := Zp c30 h
  refine Qg [0, 6, 9, 10] [true, false, true, true] ?_
  refine Zc ?_
  obtain ⟨y24, hy24, h⟩ := bC h
  refine Gg (Zce hy24) [0, 6, 9, 10, 11] [true, false, true, true] ?_
  obtain ⟨z25, hz25, h⟩ := bC h
  refine Q8 (E' := ⟨147, [], [(0, (sL (eL (eI .u64)) a0)), (6, .ref n 0), (9, .ref (n + 2) 0), (10, .ref (n + 3) 0), (11, (vI z25))]⟩) (O' := (Zt O n [some ⟨false, 88, 10, 1, [(vI 0), (vI 0), (vI 0), (vI 0), (vI 0), (vI 0), (vI 0), (vB false), (vI 0), (vI 0)]⟩, none, some ⟨false, 86, 8, 1, (Yl y19)⟩, some ⟨false, 86, 8, 1, (Yl y22)⟩])) (n0 := (n + 4)) ?_ ?_
  ·refine zQD [0, 6, 9, 10, 11, 93] [none, none, none] ?_
   refine Zn (t := (cond (y24 == 0) (y22.Off != 0) false)) rfl (fun c26 => ?_) (fun c26 => ?_)
   ·replace hz25 := Zq c26 hz25
    refine zR ?_
    exact zEn hz25
   replace hz25 := Zp c26 hz25
   refine zK ?_
   exact zEn hz25
  refine Zc ?_
  refine zQ [0, 6, 9, 10, 11, 95] ?_
  refine Zn (t := (z25 != 0)) rfl (fun c29 => ?_) (fun c29 => ?_)
  ·replace h := Zq c29 h
   refine Zc ?_
   refine zRd [6, 7] [true, false, false, false] ?_
   exact Z5 [.agg [(vI 0), (vI 0), (vI 0), (vI 0), (vI 0), (vI 0), (vI 0), (vB false), (vI 0), (vI 0)], (vI z25)]
  replace h := Zp c29 h
  refine Qg [0, 6, 9, 10] [true, false, true, true] ?_
  refine Zc ?_
  obtain ⟨y28, hy28, h⟩ := bC h
  refine Gg (Zcf hy28) [6, 7] [true, false, false, false] ?_
  exact Z5 [.agg [(vI y28.1.P.Kind), (vI y28.1.P.Off), (vI y28.1.P.Data), (vI y28.1.P.Ptrs), (vI y28.1.P.Code), (vI y28.1.P.Count), (vI y28.1.P.Segment), (vB y28.1.P.Double), (vI y28.1.Segment), (vI y28.1.At)], (vI y28.2)]
 replace h := Zp c45 h
 refine Qg [0, 1, 2, 6, 8] [true, true] ?_
 obtain ⟨z32, hz32, h⟩ := bC h
 refine Zyz (J := (Qj (fun z32 => JN n (⟨147, [], [(0, (sL (eL (eI .u64)) a0)), (1, (vI z32.1)), (2, (vI z32.2.1)), (6, .ref n 0), (8, .ref (n + 1) 0)]⟩ : Env) (Zt O n [some ⟨false, 88, 10, 1, [(vI 0), (vI 0), (vI 0), (vI 0), (vI 0), (vI 0), (vI 0), (vB false), (vI 0), (vI 0)]⟩, some ⟨false, 86, 8, 1, [(vI z32.2.2.1), (vI z32.2.2.2.1), (vI z32.2.2.2.2.1), (vI z32.2.2.2.2.2.1), (vI z32.2.2.2.2.2.2.1), (vI z32.2.2.2.2.2.2.2.1), (vI z32.2.2.2.2.2.2.2.2.1), (vB z32.2.2.2.2.2.2.2.2.2)]⟩]) (n + 2)) (fun z32 => JR n (⟨147, [], [(6, .ref n 0), (7, (vI 7))]⟩ : Env) (Zt O n [some ⟨false, 88, 10, 1, [(vI 0), (vI 0), (vI 0), (vI 0), (vI 0), (vI 0), (vI 0), (vB false), (vI 0), (vI 0)]⟩, none]) (n + 2)))) (z := z32) ?_ fun hw => ?_
 ·refine zQ [0, 1, 2, 6, 8, 110] ?_
  refine Zn (t := (y8.Kind == 3)) rfl (fun c39 => ?_) (fun c39 => ?_)
  ·replace hz32 := Zq c39 hz32
   refine zQ [0, 1, 6, 8] ?_
   refine zQ [0, 1, 2, 6, 8] ?_
   refine Zc ?_
   refine Zc ?_
   obtain ⟨y34, hy34, hz32⟩ := bC hz32
   refine Gg (K4 hy34) [0, 1, 2, 6, 8, 119] [true, true] ?_
   refine Zn (t := (!y34)) rfl (fun c38 => ?_) (fun c38 => ?_)
   ·replace hz32 := Zq c38 hz32
    refine Zc ?_
    refine zRd [6, 7] [true, false] ?_
    refine zW ?_
    exact zEn hz32
   replace hz32 := Zp c38 hz32
   refine Qg [0, 1, 2, 6, 8] [true, true] ?_
   obtain ⟨x35, hx35, ax35, bx35, cx35, hz32⟩ := bE (f := (eL (eI .u64))) Zdo (fun _ => rfl) (by decide) hz32
   obtain ⟨x36, hx36, ax36, bx36, cx36, hz32⟩ := bE (f := (eI .u64)) Zaj (fun _ => rfl) (by decide) hz32
   obtain ⟨y37, hy37, hz32⟩ := bC hz32
   refine Zxt [] ax35 bx35 cx35 ax36 bx36 cx36 ?_
   refine (X4 hy37).then ?_
   refine zF6 ax35 bx35 cx35 ax36 bx36 cx36 ?_
   exact Z40 hz32 ax35 bx35 cx35 ax36 bx36 cx36
  replace hz32 := Zp c39 hz32
  refine zK ?_
  exact zEn hz32
 rcases z32 with z32 | z32
 ·dsimp only [Qj] at hw h
  refine Q8 hw ?_
  refine Zc ?_
  obtain ⟨y41, hy41, h⟩ := bC h
  refine Gg (Zce hy41) [0, 1, 2, 6, 8, 12] [true, true] ?_
  refine Zc ?_
  refine zQ [0, 1, 2, 6, 8, 12, 132] ?_
  refine Zn (t := (y41 != 0)) rfl (fun c44 => ?_) (fun c44 => ?_)
  ·replace h := Zq c44 h
   refine Zc ?_
   refine zRd [6, 7] [true, false] ?_
   exact Z5 [.agg [(vI 0), (vI 0), (vI 0), (vI 0), (vI 0), (vI 0), (vI 0), (vB false), (vI 0), (vI 0)], (vI y41)]
  replace h := Zp c44 h
  refine Qg [0, 1, 2, 6, 8] [true, true] ?_
  refine Zc ?_
  obtain ⟨y43, hy43, h⟩ := bC h
  refine Gg (Zcf hy43) [6, 7] [true, false] ?_
  exact Z5 [.agg [(vI y43.1.P.Kind), (vI y43.1.P.Off), (vI y43.1.P.Data), (vI y43.1.P.Ptrs), (vI y43.1.P.Code), (vI y43.1.P.Count), (vI y43.1.P.Segment), (vB y43.1.P.Double), (vI y43.1.Segment), (vI y43.1.At)], (vI y43.2)]
 dsimp only [Qj] at hw h
 refine Ztn hw ?_
 try simp only [Xc, Yn]
 exact Znv [.agg [(vI 0), (vI 0), (vI 0), (vI 0), (vI 0), (vI 0), (vI 0), (vB false), (vI 0), (vI 0)], (vI 7)]
theorem Za9 {a0 : (List (List Int))} {a1 : Int} {a2 : Int} {r : (Zm × Int)} {O : Objs} {n : Nat} (h : J7 a0 a1 a2 = some r) : GTo Try.prog 24 [(sL (eL (eI .u64)) a0), (vI a1), (vI a2)] O n (.tup [.agg (Zs r.1), (vI r.2)]) O n := by
 unfold J7 at h
 refine Uw Try.call24 Try.func24 fun hU hN0 hN => ?_
 show W _ _ _ _ ⟨110, [], [(0, (sL (eL (eI .u64)) a0)), (1, (vI a1)), (2, (vI a2))]⟩ (Zt O n []) _
 refine zQ [0, 1, 2, 6] ?_
 refine Zc ?_
 obtain ⟨y2, hy2, h⟩ := bC h
 refine Gg (Zgb hy2) [0, 6, 8, 9] [true, true] ?_
 refine Zc ?_
 refine zQD [0, 6, 8, 9, 26] [none, none, none, none] ?_
 refine Zn (t := (cond (y2.2 != 0) true (y2.1.P.Kind == 0))) rfl (fun c12 => ?_) (fun c12 => ?_)
 ·replace h := Zq c12 h
  refine Zc ?_
  refine zRd [6, 7] [true, false] ?_
  exact Z5 [.agg [(vI 0), (vI 0), (vI 0), (vI 0), (vI 0), (vI 0), .val (.int .u64 0)], (vI y2.2)]
 replace h := Zp c12 h
 refine Qg [0, 6, 8] [true, true] ?_
 refine Zc ?_
 refine zQ [0, 6, 8, 32] ?_
 refine Zn (t := (y2.1.P.Kind == 1)) rfl (fun c11 => ?_) (fun c11 => ?_)
 ·replace h := Zq c11 h
  refine Zc ?_
  refine zRd [6, 7] [true, false] ?_
  exact Z5 [.agg [(vI 1), (vI y2.1.Segment), (vI y2.1.At), (vI y2.1.P.Data), (vI y2.1.P.Ptrs), (vI 0), .val (.int .u64 0)], (vI 0)]
 replace h := Zp c11 h
 refine Qg [0, 6, 8] [true, true] ?_
 refine Zc ?_
 refine zQ [0, 6, 8, 47] ?_
 refine Zn (t := (decide (y2.1.P.Code < 7))) rfl (fun c10 => ?_) (fun c10 => ?_)
 ·replace h := Zq c10 h
  refine Zc ?_
  refine zRd [6, 7] [true, false] ?_
  exact Z5 [.agg [(vI (IntKind.i64.wrap (2 + y2.1.P.Code))), (vI y2.1.Segment), (vI y2.1.At), (vI 0), (vI 0), (vI y2.1.P.Count), .val (.int .u64 0)], (vI 0)]
 replace h := Zp c10 h
 refine Qg [0, 6, 8] [true, true] ?_
 obtain ⟨x5, hx5, ax5, bx5, cx5, h⟩ := bE (f := (eL (eI .u64))) Zdo (fun _ => rfl) (by decide) h
 obtain ⟨x6, hx6, ax6, bx6, cx6, h⟩ := bE (f := (eI .u64)) Zaj (fun _ => rfl) (by decide) h
 refine U0 [6, 8, 10] (Ke Zz (by kernel_rfl) [] (by kernel_rfl) ?_)
 refine zF6 ax5 bx5 cx5 ax6 bx6 cx6 ?_
 refine Zc ?_
 obtain ⟨y8, hy8, h⟩ := bC h
 refine Gg (X4 hy8) [6, 8, 10, 11] [true, true, true] ?_
 refine Zc ?_
 refine zQD [6, 8, 11, 96] [none, none, none, none, none, none, none, none, none, none, none, none, none, none, none, none, none, none] ?_
 refine Zn (t := (cond (cond (cond (x6 != 0) (y8.Kind != 1) false) true (decide (y8.Off < 0))) true (decide (y2.1.P.Count < (IntKind.i64.wrap (y8.Off * (IntKind.i64.wrap (y8.Data + y8.Ptrs)))))))) rfl (fun c9 => ?_) (fun c9 => ?_)
 ·replace h := Zq c9 h
  refine Zc ?_
  refine zRd [6, 7] [true, false, false] ?_
  exact Z5 [.agg [(vI 0), (vI 0), (vI 0), (vI 0), (vI 0), (vI 0), .val (.int .u64 0)], (vI 8)]
 replace h := Zp c9 h
 refine Qg [6, 8, 11] [true, true, true] ?_
 refine Zc ?_
 refine zRd [6, 7] [true, false, false] ?_
 exact Z5 [.agg [(vI 9), (vI y2.1.Segment), (vI (IntKind.i64.wrap (y2.1.At + 1))), (vI y8.Data), (vI y8.Ptrs), (vI y8.Off), .val (.int .u64 0)], (vI 0)]
theorem Q4 {a0 : Zm} {a1 : (List (List Int))} {r : (List Int)} {O : Objs} {n : Nat} (h : Xm a0 a1 = some r) : GTo Try.prog 38 [.agg (Zs a0), (sL (eL (eI .u64)) a1)] O n ((sL (eI .u64) r)) O n := by
 unfold Xm at h
 refine Uw Try.call38 Try.func38 fun hU hN0 hN => ?_
 show W _ _ _ _ ⟨30, [], [(0, .agg (Zs a0)), (1, (sL (eL (eI .u64)) a1))]⟩ (Zt O n []) _
 refine zQ [1, 2] ?_
 refine Zc ?_
 refine zQ [1, 2, 8] ?_
 refine Zn (t := (a0.Kind == 10)) rfl (fun c8 => ?_) (fun c8 => ?_)
 ·replace h := Zq c8 h
  refine Zc ?_
  refine zR ?_
  refine Ut ⟨30, [], [(4, .row (n + 1) ([a0.N] : List Int).length)]⟩ (Zt O n [none, some (oR 40 1 (eI .u64) ([a0.N] : List Int))]) (Ym hU rfl rfl ?_) ?_
  ·exact zSe
  exact Z5 [.row (n + 1) ([a0.N] : List Int).length]
 replace h := Zp c8 h
 refine Qg [1, 2] [true] ?_
 refine Zc ?_
 refine zQ [1, 2, 14] ?_
 refine Zn (t := (a0.Kind != 1)) rfl (fun c7 => ?_) (fun c7 => ?_)
 ·replace h := Zq c7 h
  refine zQ [4] ?_
  exact Z5 [nV]
 replace h := Zp c7 h
 refine Qg [1, 2] [true] ?_
 refine zQ [1, 2, 5] ?_
 refine Zc ?_
 obtain ⟨x4, hx4, ax4, bx4, cx4, h⟩ := bE (f := (eL (eI .u64))) Zdo (fun _ => rfl) (by decide) h
 obtain ⟨l5, al5, bl5, cl5, gl5, h⟩ := bS (lo := (some (.i64, a0.At))) (hi := (some (.i64, (IntKind.i64.wrap (a0.At + a0.Data))))) (f := (eI .u64)) rfl rfl Zg5 Zaj (fun _ => rfl) h
 obtain ⟨l6, pl6, ql6, el6, h⟩ := bA0 (k := l5.length) rfl h
 refine Zgu Zz (by kernel_rfl) [false, false, false, false, false, false, false, false, false, false, false, false, false, false, true, false] [] (by kernel_rfl) ?_
 refine Z9f ax4 bx4 cx4 al5 bl5 cl5 gl5 pl6 ql6 el6 ?_
 refine Ut ⟨30, [], [(4, .row (n + 1) l6.length)]⟩ (Zt O n [none, some (oR 40 1 (eI .u64) l6)]) (Ym hU rfl rfl ?_) ?_
 ·exact Z7s ax4 bx4 cx4 al5 bl5 cl5 gl5 pl6 ql6 el6
 exact Z5 [.row (n + 1) l6.length]
theorem Vz {a0 : Zm} {r : Int} {O : Objs} {n : Nat} (h : Xu a0 = some r) : GTo Try.prog 39 [.agg (Zs a0)] O n ((vI r)) O n := by
 unfold Xu at h
 refine Uw Try.call39 Try.func39 fun hU hN0 hN => ?_
 show W _ _ _ _ ⟨10, [], [(0, .agg (Zs a0))]⟩ (Zt O n []) _
 refine zQ [1] ?_
 refine Zc ?_
 refine zQ [1, 5] ?_
 refine Zn (t := (a0.Kind == 1)) rfl (fun c1 => ?_) (fun c1 => ?_)
 ·replace h := Zq c1 h
  refine zQ [2] ?_
  exact Z5 [(vI a0.Ptrs)]
 replace h := Zp c1 h
 refine Qg [1] [true] ?_
 refine zQ [2] ?_
 exact Z5 [(vI a0.Count)]
theorem Zhc {a0 : Int} {r : Int} {O : Objs} {n : Nat} (h : Kp a0 = some r) : GTo Try.prog 71 [(vI a0)] O n ((vI r)) O n := by
 unfold Kp at h
 refine Uw Try.call71 Try.func71 fun hU hN0 hN => ?_
 show W _ _ _ _ ⟨16, [], [(0, (vI a0))]⟩ (Zt O n []) _
 refine zQ [0] ?_
 refine Zc ?_
 refine zQ [3] ?_
 refine Y4 ?_
 refine zQ [3, 4] ?_
 refine Zn (t := (a0 == 0)) rfl (fun c6 => ?_) (fun c6 => ?_)
 ·replace h := Zq c6 h
  refine zQ [2] ?_
  exact Z5 [(vI 0)]
 replace h := Zp c6 h
 refine zQ [3, 6] ?_
 refine Zn (t := (a0 == 1)) rfl (fun c5 => ?_) (fun c5 => ?_)
 ·replace h := Zq c5 h
  refine zQ [2] ?_
  exact Z5 [(vI 1)]
 replace h := Zp c5 h
 refine zQ [3, 8] ?_
 refine Zn (t := (a0 == 2)) rfl (fun c4 => ?_) (fun c4 => ?_)
 ·replace h := Zq c4 h
  refine zQ [2] ?_
  exact Z5 [(vI 8)]
 replace h := Zp c4 h
 refine zQ [3, 10] ?_
 refine Zn (t := (a0 == 3)) rfl (fun c3 => ?_) (fun c3 => ?_)
 ·replace h := Zq c3 h
  refine zQ [2] ?_
  exact Z5 [(vI 16)]
 replace h := Zp c3 h
 refine zQ [3, 12] ?_
 refine Zn (t := (a0 == 4)) rfl (fun c2 => ?_) (fun c2 => ?_)
 ·replace h := Zq c2 h
  refine zQ [2] ?_
  exact Z5 [(vI 32)]
 replace h := Zp c2 h
 refine zQ [14] ?_
 refine Zn (t := (a0 == 5)) rfl (fun c1 => ?_) (fun c1 => ?_)
 ·replace h := Zq c1 h
  refine zQ [2] ?_
  exact Z5 [(vI 64)]
 replace h := Zp c1 h
 refine Qg [] [] ?_
 refine zQ [2] ?_
 exact Z5 [(vI (-1))]
theorem Zi7 {a0 : (List Int)} {a1 : Int} {r : Int} {O : Objs} {n : Nat} (h : Vm a0 a1 = some r) : GTo Try.prog 72 [(sL (eI .u64) a0), (vI a1)] O n (.val (.int .u64 r)) O n := by
 unfold Vm at h
 refine Uw Try.call72 Try.func72 fun hU hN0 hN => ?_
 show W _ _ _ _ ⟨31, [], [(0, (sL (eI .u64) a0)), (1, (vI a1))]⟩ (Zt O n []) _
 refine zQ [0, 1] ?_
 refine Zc ?_
 refine zQD [0, 1, 15] [none, none, none, none, none] ?_
 refine Zn (t := (cond (decide (a1 < 0)) true (decide ((a0.length : Int) ≤ (IntKind.i64.wrap (Int.tdiv a1 64)))))) rfl (fun c5 => ?_) (fun c5 => ?_)
 ·replace h := Zq c5 h
  refine zQ [4] ?_
  exact Z5 [.val (.int .u64 0)]
 replace h := Zp c5 h
 refine Qg [0, 1] [] ?_
 obtain ⟨x2, hx2, ax2, bx2, cx2, h⟩ := bE (f := (eI .u64)) Zaj (fun _ => rfl) (by decide) h
 refine U0 [1, 5] (Z8 Zz [] ?_)
 refine zF3 ax2 bx2 cx2 ?_
 refine Zc ?_
 refine zQd [1, 5, 6] [1, 5, 6] [] ?_
 obtain ⟨z4, hz4, h⟩ := bC h
 refine Xo (E' := ⟨31, [], [(5, .val (.int .u64 z4))]⟩) (O' := (Zt O n [])) (n0 := n) ?_ ?_
 ·refine Qo hz4 (fun s0_ => ⟨31, [], [(1, (vI a1)), (5, .val (.int .u64 s0_.1)), (6, (vI s0_.2))]⟩) (fun s0_ => (Zt O n [])) (fun z4 => JX 0 n (⟨31, [], [(5, .val (.int .u64 z4))]⟩ : Env) (Zt O n []) n) ?_
  intro s0_ x0_ hs0_
  unfold Jg at hs0_
  try dsimp only
  refine Zc ?_
  refine zQ [1, 5, 6, 24] ?_
  refine Zn (t := (decide (s0_.2 < (Int.tmod a1 64)))) rfl (fun c3 => ?_) (fun c3 => ?_)
  ·replace hs0_ := Zq c3 hs0_
   refine Qg [1, 5, 6] [] ?_
   refine Zc ?_
   refine Y4 ?_
   refine zRd [1, 5, 6] [] ?_
   refine zR ?_
   exact zEn hs0_
  replace hs0_ := Zp c3 hs0_
  exact zEx hs0_
 try simp only [Xc, Yn, ↓reduceIte, Nat.reduceEqDiff]
 refine zD [5] [] ?_
 refine zQ [4] ?_
 exact Z5 [.val (.int .u64 (Int.tmod z4 2))]
theorem Zi8 {a0 : (List Int)} {a1 : Int} {a2 : Int} {r : Int} {O : Objs} {n : Nat} (h : Vn a0 a1 a2 = some r) : GTo Try.prog 61 [(sL (eI .u64) a0), (vI a1), (vI a2)] O n (.val (.int .u64 r)) O n := by
 unfold Vn at h
 refine Uw Try.call61 Try.func61 fun hU hN0 hN => ?_
 show W _ _ _ _ ⟨39, [], [(0, (sL (eI .u64) a0)), (1, (vI a1)), (2, (vI a2))]⟩ (Zt O n []) _
 refine zQ [0, 1, 2] ?_
 refine Zc ?_
 obtain ⟨y2, hy2, h⟩ := bC h
 refine Gg (Zhc hy2) [0, 2, 7] [] ?_
 refine Zc ?_
 refine zQD [0, 2, 7, 21] [none, none, none, none] ?_
 refine Zn (t := (cond (cond (decide (y2 < 1)) true (decide (a2 < 0))) true (decide (1099511627776 < a2)))) rfl (fun c6 => ?_) (fun c6 => ?_)
 ·replace h := Zq c6 h
  refine zQ [6] ?_
  exact Z5 [.val (.int .u64 0)]
 replace h := Zp c6 h
 refine Qg [0, 2, 7] [] ?_
 refine zQ [0, 2, 7, 8] ?_
 refine Zc ?_
 refine zQd [0, 2, 7, 8, 9] [0, 2, 7, 8, 9] [] ?_
 obtain ⟨z5, hz5, h⟩ := bC h
 refine Xo (E' := ⟨39, [], [(8, .val (.int .u64 z5))]⟩) (O' := (Zt O n [])) (n0 := n) ?_ ?_
 ·refine Qo hz5 (fun s0_ => ⟨39, [], [(0, (sL (eI .u64) a0)), (2, (vI a2)), (7, (vI y2)), (8, .val (.int .u64 s0_.1)), (9, (vI s0_.2))]⟩) (fun s0_ => (Zt O n [])) (fun z5 => JX 0 n (⟨39, [], [(8, .val (.int .u64 z5))]⟩ : Env) (Zt O n []) n) ?_
  intro s0_ x0_ hs0_
  unfold Jh at hs0_
  try dsimp only
  refine Zc ?_
  refine zQ [0, 2, 7, 8, 9, 25] ?_
  refine Zn (t := (decide (0 ≤ s0_.2))) rfl (fun c4 => ?_) (fun c4 => ?_)
  ·replace hs0_ := Zq c4 hs0_
   refine Qg [0, 2, 7, 8, 9] [] ?_
   refine Zc ?_
   refine Y4 ?_
   obtain ⟨y3, hy3, hs0_⟩ := bC hs0_
   refine Gg (Zi7 hy3) [0, 2, 7, 8, 9] [] ?_
   refine zR ?_
   exact zEn hs0_
  replace hs0_ := Zp c4 hs0_
  exact zEx hs0_
 try simp only [Xc, Yn, ↓reduceIte, Nat.reduceEqDiff]
 refine zD [8] [] ?_
 refine zQ [6] ?_
 exact Z5 [.val (.int .u64 z5)]
theorem Zar {a0 : Zm} {a1 : (List (List Int))} {a2 : Int} {r : (Zm × Int)} {O : Objs} {n : Nat} (h : Q1 a0 a1 a2 = some r) : GTo Try.prog 40 [.agg (Zs a0), (sL (eL (eI .u64)) a1), (vI a2)] O n (.tup [.agg (Zs r.1), (vI r.2)]) O n := by
 unfold Q1 at h
 refine Uw Try.call40 Try.func40 fun hU hN0 hN => ?_
 show W _ _ _ _ ⟨80, [], [(0, .agg (Zs a0)), (1, (sL (eL (eI .u64)) a1)), (2, (vI a2))]⟩ (Zt O n []) _
 refine zQ [1, 2, 3, 6] ?_
 refine Zc ?_
 obtain ⟨z2, hz2, h⟩ := bC h
 refine Q8 (E' := ⟨80, [], [(1, (sL (eL (eI .u64)) a1)), (2, (vI a2)), (3, .ref n 0), (6, .ref (n + 1) 0), (15, (vB z2))]⟩) (O' := (Zt O n [some ⟨false, 64, 7, 1, (Zs a0)⟩, some ⟨false, 64, 7, 1, [(vI 0), (vI 0), (vI 0), (vI 0), (vI 0), (vI 0), .val (.int .u64 0)]⟩])) (n0 := (n + 2)) ?_ ?_
 ·rcases Bool.eq_false_or_eq_true (decide (a2 < 0)) with c5 | c5
  ·replace hz2 := Zq c5 hz2
   refine U8 [some false, some false, some false, some false] c5 ?_
   exact Uv hz2 c5
  replace hz2 := Zp c5 hz2
  obtain ⟨y4, hy4, hz2⟩ := bC hz2
  refine U8 [some true, some true, some true, some true] c5 ?_
  refine (Vz hy4).then ?_
  refine zX1 c5 ?_
  exact Uv hz2 c5
 refine Zn (t := z2) rfl (fun c19 => ?_) (fun c19 => ?_)
 ·replace h := Zq c19 h
  refine Zc ?_
  refine zRd [6, 7] [false, true] ?_
  exact Z5 [.agg [(vI 0), (vI 0), (vI 0), (vI 0), (vI 0), (vI 0), .val (.int .u64 0)], (vI 0)]
 replace h := Zp c19 h
 refine Qg [1, 2, 3, 6] [true, true] ?_
 refine Zc ?_
 refine zQ [1, 2, 3, 6, 19] ?_
 refine Zn (t := (a0.Kind == 1)) rfl (fun c18 => ?_) (fun c18 => ?_)
 ·replace h := Zq c18 h
  refine Zc ?_
  obtain ⟨y7, hy7, h⟩ := bC h
  refine Gg (Za9 hy7) [6, 7] [false, true] ?_
  exact Z5 [.agg (Zs y7.1), (vI y7.2)]
 replace h := Zp c18 h
 refine Qg [1, 2, 3, 6] [true, true] ?_
 refine Zc ?_
 refine zQ [1, 2, 3, 6, 35] ?_
 refine Zn (t := (a0.Kind == 8)) rfl (fun c17 => ?_) (fun c17 => ?_)
 ·replace h := Zq c17 h
  refine Zc ?_
  obtain ⟨y9, hy9, h⟩ := bC h
  refine Gg (Za9 hy9) [6, 7] [false, true] ?_
  exact Z5 [.agg (Zs y9.1), (vI y9.2)]
 replace h := Zp c17 h
 refine Qg [1, 2, 3, 6] [true, true] ?_
 refine Zc ?_
 refine zQ [1, 2, 3, 6, 48] ?_
 refine Zn (t := (a0.Kind == 9)) rfl (fun c16 => ?_) (fun c16 => ?_)
 ·replace h := Zq c16 h
  refine Zc ?_
  refine zRd [6, 7] [false, true] ?_
  exact Z5 [.agg [(vI 1), (vI a0.S), (vI (IntKind.i64.wrap (a0.At + (IntKind.i64.wrap (a2 * (IntKind.i64.wrap (a0.Data + a0.Ptrs))))))), (vI a0.Data), (vI a0.Ptrs), (vI 0), .val (.int .u64 0)], (vI 0)]
 replace h := Zp c16 h
 refine Qg [1, 2, 3, 6] [true, true] ?_
 refine Zc ?_
 obtain ⟨x13, hx13, ax13, bx13, cx13, h⟩ := bE (f := (eL (eI .u64))) Zdo (fun _ => rfl) (by decide) h
 obtain ⟨l14, al14, bl14, cl14, gl14, h⟩ := bS (lo := (some (.i64, a0.At))) (hi := none) (f := (eI .u64)) rfl rfl Zg5 Zaj (fun _ => rfl) h
 obtain ⟨y15, hy15, h⟩ := bC h
 refine Zgu Zz (by kernel_rfl) [false, false, false, false, false, false, false, false, false, false, false, false, false, false, true, false] [] (by kernel_rfl) ?_
 refine zF7 ax13 bx13 cx13 al14 bl14 cl14 gl14 ?_
 refine PCall.of (Zi8 hy15) ?_
 refine zF7 ax13 bx13 cx13 al14 bl14 cl14 gl14 ?_
 refine zD [6, 7] [false, true] ?_
 exact Z5 [.agg [(vI 10), (vI 0), (vI 0), (vI 0), (vI 0), (vI 0), .val (.int .u64 y15)], (vI 0)]
attribute [local push_cast] Try.results15 Try.results25 Try.results4 Try.results41 Try.results8
def Vo (Yb : ((List (List Int)) → Zm → Int → Int → Option (Zd × Int × Int))) : Prop := ∀ {a0 : (List (List Int))} {a1 : Zm} {a2 : Int} {a3 : Int} {r : (Zd × Int × Int)} {O : Objs} {n : Nat}, Yb a0 a1 a2 a3 = some r → GTo Try.prog 25 [(sL (eL (eI .u64)) a0), .agg (Zs a1), (vI a2), (vI a3)] O n (.tup [.agg (Zu r.1), (vI r.2.1), (vI r.2.2)]) O n
def Ui (Yy : ((List (List Int)) → Zm → Int → Int → Option (Zd × Int × Int))) : Prop := ∀ {a0 : (List (List Int))} {a1 : Zm} {a2 : Int} {a3 : Int} {r : (Zd × Int × Int)} {O : Objs} {n : Nat}, Yy a0 a1 a2 a3 = some r → GTo Try.prog 41 [(sL (eL (eI .u64)) a0), .agg (Zs a1), (vI a2), (vI a3)] O n (.tup [.agg (Zu r.1), (vI r.2.1), (vI r.2.2)]) O n
theorem Zfc {Yb : ((List (List Int)) → Zm → Int → Int → Option (Zd × Int × Int))} {Yy : ((List (List Int)) → Zm → Int → Int → Option (Zd × Int × Int))} (Vp : Vo Yb) (Zbt : Ui Yy) {a0 : (List (List Int))} {a1 : Zm} {a2 : Int} {a3 : Int} {r : (Zd × Int × Int)} {O : Objs} {n : Nat} (h : Qx Yb Yy a0 a1 a2 a3 = some r) : GTo Try.prog 25 [(sL (eL (eI .u64)) a0), .agg (Zs a1), (vI a2), (vI a3)] O n (.tup [.agg (Zu r.1), (vI r.2.1), (vI r.2.2)]) O n := by
 unfold Qx at h
 refine Uw Try.call25 Try.func25 fun hU hN0 hN => ?_
 show W _ _ _ _ ⟨149, [], [(0, (sL (eL (eI .u64)) a0)), (1, .agg (Zs a1)), (2, (vI a2)), (3, (vI a3))]⟩ (Zt O n []) _
 refine zQ [0, 2, 3, 5, 8] ?_
 refine Zc ?_
 obtain ⟨y2, hy2, h⟩ := bC h
 refine Zcn Zz (by kernel_rfl) [.low, .low, .low, .plain, .low, .plain, .pass, .bar] (fun i => i < (n + 2)) [0, 1, 2, 3, 4, 5, 6, 7] [.low, .low, .low, .plain, .low, .plain, .pass, .bar] [] (by kernel_rfl) rfl ?_
 refine zS ?_
 refine zO ?_
 first | refine PCallA.of (fun _ _ => Q4 hy2) ?_ | refine PCall.of (Q4 hy2) ?_
 refine zS ?_
 refine zO ?_
 refine zDs [0, 2, 3, 5, 8, 11] [true, true, true] ?_
 refine zQ [0, 2, 3, 5, 8, 11, 25] ?_
 refine Zn (t := (a1.Kind == 0)) rfl (fun c27 => ?_) (fun c27 => ?_)
 ·replace h := Zq c27 h
  refine Zc ?_
  refine zRd [8, 9, 10] [false, true, false] ?_
  exact Z5 [.agg [(vI a1.Kind), (sL (eI .u64) y2), nV], (vI a3), (vI 0)]
 replace h := Zp c27 h
 refine Qg [0, 2, 3, 5, 8, 11] [true, true, true] ?_
 refine Zc ?_
 refine zQD [0, 2, 3, 5, 8, 11, 43] [none, none, none, none, none, none, none, none, none, none, none, none] ?_
 refine Zn (t := (cond (decide (a2 < 1)) true (cond (cond (a1.Kind == 9) (decide (0 < a1.Count)) false) (decide (a2 < 2)) false))) rfl (fun c26 => ?_) (fun c26 => ?_)
 ·replace h := Zq c26 h
  refine Zc ?_
  refine zRd [8, 9, 10] [false, true, false] ?_
  exact Z5 [.agg [(vI a1.Kind), (sL (eI .u64) y2), nV], (vI a3), (vI 3)]
 replace h := Zp c26 h
 refine Qg [0, 2, 3, 5, 8, 11] [true, true, true] ?_
 refine Zc ?_
 obtain ⟨y4, hy4, h⟩ := bC h
 refine Gg (Vz hy4) [0, 2, 3, 5, 8, 11, 12] [true, true, true] ?_
 obtain ⟨z5, hz5, h⟩ := bC h
 refine Q8 (E' := ⟨149, [], [(0, (sL (eL (eI .u64)) a0)), (2, (vI a2)), (3, (vI a3)), (5, .ref n 0), (8, .ref (n + 1) 0), (11, .ref (n + 2) 0), (12, (vI z5))]⟩) (O' := (Zt O n [some ⟨false, 64, 7, 1, (Zs a1)⟩, some ⟨false, 29, 3, 1, [(vI 0), nV, nV]⟩, some ⟨false, 29, 3, 1, [(vI a1.Kind), (sL (eI .u64) y2), nV]⟩])) (n0 := (n + 3)) ?_ ?_
 ·refine zQ [0, 2, 3, 5, 8, 11, 12, 51] ?_
  refine Zn (t := (a1.Kind == 1)) rfl (fun c6 => ?_) (fun c6 => ?_)
  ·replace hz5 := Zq c6 hz5
   refine zR ?_
   exact zEn hz5
  replace hz5 := Zp c6 hz5
  refine zK ?_
  exact zEn hz5
 obtain ⟨z7, hz7, h⟩ := bC h
 refine Q8 (E' := ⟨149, [], [(0, (sL (eL (eI .u64)) a0)), (2, (vI a2)), (3, (vI a3)), (5, .ref n 0), (8, .ref (n + 1) 0), (11, .ref (n + 2) 0), (12, (vI z7))]⟩) (O' := (Zt O n [some ⟨false, 64, 7, 1, (Zs a1)⟩, some ⟨false, 29, 3, 1, [(vI 0), nV, nV]⟩, some ⟨false, 29, 3, 1, [(vI a1.Kind), (sL (eI .u64) y2), nV]⟩])) (n0 := (n + 3)) ?_ ?_
 ·refine zQ [0, 2, 3, 5, 8, 11, 12, 60] ?_
  refine Zn (t := (a1.Kind == 9)) rfl (fun c8 => ?_) (fun c8 => ?_)
  ·replace hz7 := Zq c8 hz7
   refine zR ?_
   exact zEn hz7
  replace hz7 := Zp c8 hz7
  refine zK ?_
  exact zEn hz7
 refine Zc ?_
 refine zQ [0, 2, 3, 5, 8, 11, 12, 73] ?_
 refine Zn (t := (decide (a3 < z7))) rfl (fun c25 => ?_) (fun c25 => ?_)
 ·replace h := Zq c25 h
  refine Zc ?_
  refine zRd [8, 9, 10] [false, true, false] ?_
  exact Z5 [.agg [(vI a1.Kind), (sL (eI .u64) y2), nV], (vI a3), (vI 3)]
 replace h := Zp c25 h
 refine Qg [0, 2, 3, 5, 8, 11, 12] [true, true, true] ?_
 refine zQ [0, 2, 3, 5, 8, 11] ?_
 refine Zc ?_
 refine zQd [0, 2, 3, 5, 8, 11, 13] [0, 2, 3, 5, 8, 11, 13] [true, true, true] ?_
 refine Ux (E' := (⟨149, [], [(0, (sL (eL (eI .u64)) a0)), (2, (vI a2)), (3, (vI (IntKind.i64.wrap (a3 - z7)))), (5, .ref n 0), (8, .ref (n + 1) 0), (11, .ref (n + 2) 0), (13, (vI 0))]⟩ : Env)) (O' := (Zt O n [some ⟨false, 64, 7, 1, (Zs a1)⟩, some ⟨false, 29, 3, 1, [(vI 0), nV, nV]⟩, some ⟨false, 29, 3, 1, [(vI a1.Kind), (sL (eI .u64) y2), .row (n + 3) ([] : List Zd).length]⟩, some (oR 29 3 Zk ([] : List Zd)), none])) (n' := (n + 5)) ?_ ?_
 ·refine Fit2.trans (E' := (⟨149, [], [(0, (sL (eL (eI .u64)) a0)), (2, (vI a2)), (3, (vI (IntKind.i64.wrap (a3 - z7)))), (5, .ref n 0), (8, .ref (n + 1) 0), (11, .ref (n + 2) 0), (13, (vI 0))]⟩ : Env)) (O' := (Zt O n [some ⟨false, 64, 7, 1, (Zs a1)⟩, some ⟨false, 29, 3, 1, [(vI 0), nV, nV]⟩, some ⟨false, 29, 3, 1, [(vI a1.Kind), (sL (eI .u64) y2), nV]⟩])) (n' := (n + 3)) (Fit2.of (Ym hU rfl rfl ?_) (by omega)) ?_
  ·exact zSe
  refine Fit2.trans (Ze3 (p := (n + 2)) (k := 2) (q := ⟨false, 29, 3, 1, [(vI a1.Kind), (sL (eI .u64) y2), nV]⟩) 29 3 (by simp only [Gc, Zgt, List.getElem?_cons_zero, List.getElem?_cons_succ, Option.join_some, List.length_nil, Yo]) rfl (by omega)) ?_
  simp only [Qw, Xy, Gq, Uz, List.set_cons_zero, List.set_cons_succ, List.cons_append, List.nil_append, List.length_cons, List.length_nil, Nat.zero_add, Nat.reduceAdd, Nat.reduceLT, Nat.add_assoc]
  refine Ga (k := 4) (k' := 5) hU [0, 1, 2, 3] [0, 1, 2, 3, 0] rfl rfl rfl rfl ⟨rfl, rfl⟩ ?_
  exact zSe
 obtain ⟨z24, hz24, h⟩ := bC h
 refine Gs (J := (Qj (fun z24 => JR n (⟨149, [], [(8, .ref (n + 1) 0), (9, (vI z24.1)), (10, (vI z24.2.1))]⟩ : Env) (Zt O n [none, some ⟨false, 29, 3, 1, [(vI a1.Kind), (sL (eI .u64) y2), (sL Zk z24.2.2)]⟩, none]) (n + 3)) (fun z24 => JX 0 n (⟨149, [], [(3, (vI z24.1)), (8, .ref (n + 1) 0), (11, .ref (n + 2) 0)]⟩ : Env) (Zt O n [none, some ⟨false, 29, 3, 1, [(vI 0), nV, nV]⟩, some ⟨false, 29, 3, 1, [(vI a1.Kind), (sL (eI .u64) y2), .row (n + 3) z24.2.length]⟩, some (oR 29 3 Zk z24.2), none]) (n + 5)))) (z := z24) ?_ fun hw => ?_
 ·refine Qo hz24 (fun s0_ => ⟨149, [], [(0, (sL (eL (eI .u64)) a0)), (2, (vI a2)), (3, (vI s0_.1)), (5, .ref n 0), (8, .ref (n + 1) 0), (11, .ref (n + 2) 0), (13, (vI s0_.2.1))]⟩) (fun s0_ => (Zt O n [some ⟨false, 64, 7, 1, (Zs a1)⟩, some ⟨false, 29, 3, 1, [(vI 0), nV, nV]⟩, some ⟨false, 29, 3, 1, [(vI a1.Kind), (sL (eI .u64) y2), .row (n + 3) s0_.2.2.length]⟩, some (oR 29 3 Zk s0_.2.2), none])) (Qj (fun z24 => JR n (⟨149, [], [(8, .ref (n + 1) 0), (9, (vI z24.1)), (10, (vI z24.2.1))]⟩ : Env) (Zt O n [none, some ⟨false, 29, 3, 1, [(vI a1.Kind), (sL (eI .u64) y2), (sL Zk z24.2.2)]⟩, none]) (n + 3)) (fun z24 => JX 0 n (⟨149, [], [(3, (vI z24.1)), (8, .ref (n + 1) 0), (11, .ref (n + 2) 0)]⟩ : Env) (Zt O n [none, some ⟨false, 29, 3, 1, [(vI 0), nV, nV]⟩, some ⟨false, 29, 3, 1, [(vI a1.Kind), (sL (eI .u64) y2), .row (n + 3) z24.2.length]⟩, some (oR 29 3 Zk z24.2), none]) (n + 5))) ?_
  intro s0_ x0_ hs0_
  unfold Qy at hs0_
  try dsimp only
  refine Zc ?_
  refine Zc ?_
  obtain ⟨y10, hy10, hs0_⟩ := bC hs0_
  refine Gg (Vz hy10) [0, 2, 3, 5, 8, 11, 13, 82] [true, true, true, true, false] ?_
  refine Zn (t := (decide (s0_.2.1 < y10))) rfl (fun c23 => ?_) (fun c23 => ?_)
  ·replace hs0_ := Zq c23 hs0_
   refine Qg [0, 2, 3, 5, 8, 11, 13] [true, true, true, true, false] ?_
   refine Zc ?_
   refine Y4 ?_
   refine Zc ?_
   obtain ⟨y12, hy12, hs0_⟩ := bC hs0_
   refine Gg (Zar hy12) [0, 2, 3, 5, 8, 11, 13, 14, 15] [true, true, true, true, false, true] ?_
   refine Zc ?_
   refine zQ [0, 2, 3, 5, 8, 11, 13, 14, 15, 93] ?_
   refine Zn (t := (y12.2 != 0)) rfl (fun c22 => ?_) (fun c22 => ?_)
   ·replace hs0_ := Zq c22 hs0_
    refine Zc ?_
    refine zRd [8, 9, 10] [false, true, false, true, false, false] ?_
    refine zW ?_
    exact zEy hs0_
   replace hs0_ := Zp c22 hs0_
   refine Qg [0, 2, 3, 5, 8, 11, 13, 14, 15] [true, true, true, true, false, true] ?_
   refine Zc ?_
   obtain ⟨y14, hy14, hs0_⟩ := bC hs0_
   refine Zcn Zz (by kernel_rfl) [.low, .low, .low, .plain, .low, .plain, .pass, .bar] (fun i => i < (n + 6)) [0, 1, 2, 3, 4, 5, 6, 7] [.low, .low, .low, .plain, .low, .plain, .pass, .bar] [] (by kernel_rfl) rfl ?_
   refine zS ?_
   refine zO ?_
   first | refine PCallA.of (fun _ _ => Q4 hy14) ?_ | refine PCall.of (Q4 hy14) ?_
   refine zS ?_
   refine zO ?_
   refine zD [0, 2, 3, 5, 8, 11, 13, 14, 15, 16] [true, true, true, true, false, true, true] ?_
   obtain ⟨z15, hz15, hs0_⟩ := bC hs0_
   refine Q8 (E' := ⟨149, [], [(0, (sL (eL (eI .u64)) a0)), (2, (vI a2)), (3, (vI z15.1)), (5, .ref n 0), (8, .ref (n + 1) 0), (11, .ref (n + 2) 0), (13, (vI s0_.2.1)), (15, (vI z15.2.1)), (16, .ref (n + 6) 0)]⟩) (O' := (Zt O n [some ⟨false, 64, 7, 1, (Zs a1)⟩, some ⟨false, 29, 3, 1, [(vI 0), nV, nV]⟩, some ⟨false, 29, 3, 1, [(vI a1.Kind), (sL (eI .u64) y2), .row (n + 3) s0_.2.2.length]⟩, some (oR 29 3 Zk s0_.2.2), none, none, some ⟨false, 29, 3, 1, [(vI z15.2.2.1), (sL (eI .u64) z15.2.2.2.1), (sL Zk z15.2.2.2.2)]⟩])) (n0 := (n + 7)) ?_ ?_
   ·refine Y4 ?_
    refine zQ [0, 2, 3, 5, 8, 11, 13, 14, 15, 16, 103] ?_
    refine Zn (t := (a1.Kind == 9)) rfl (fun c19 => ?_) (fun c19 => ?_)
    ·replace hz15 := Zq c19 hz15
     obtain ⟨y16, hy16, hz15⟩ := bC hz15
     refine zC (Zbt hy16) ?_
     exact zEn hz15
    replace hz15 := Zp c19 hz15
    refine zQD [0, 2, 3, 5, 8, 11, 13, 14, 15, 16, 117] [none, none, none] ?_
    refine Zn (t := (cond (a1.Kind == 1) true (a1.Kind == 8))) rfl (fun c18 => ?_) (fun c18 => ?_)
    ·replace hz15 := Zq c18 hz15
     obtain ⟨y17, hy17, hz15⟩ := bC hz15
     refine zC (Vp hy17) ?_
     exact zEn hz15
    replace hz15 := Zp c18 hz15
    refine zK ?_
    exact zEn hz15
   refine Zc ?_
   refine zQ [0, 2, 3, 5, 8, 11, 13, 15, 16, 137] ?_
   refine Zn (t := (z15.2.1 != 0)) rfl (fun c21 => ?_) (fun c21 => ?_)
   ·replace hs0_ := Zq c21 hs0_
    refine Zc ?_
    refine zRd [8, 9, 10] [false, true, false, true, false, false, false] ?_
    refine zW ?_
    exact zEy hs0_
   replace hs0_ := Zp c21 hs0_
   refine Qg [0, 2, 3, 5, 8, 11, 13, 16] [true, true, true, true, false, false, true] ?_
   obtain ⟨l20, pl20, ql20, el20, hs0_⟩ := bA (k := 1) rfl hs0_
   refine Zjg [] pl20 ql20 el20 ?_
   refine Ut ⟨149, [], [(0, (sL (eL (eI .u64)) a0)), (2, (vI a2)), (3, (vI z15.1)), (5, .ref n 0), (8, .ref (n + 1) 0), (11, .ref (n + 2) 0), (13, (vI s0_.2.1))]⟩ (Zt O n [some ⟨false, 64, 7, 1, (Zs a1)⟩, some ⟨false, 29, 3, 1, [(vI 0), nV, nV]⟩, some ⟨false, 29, 3, 1, [(vI a1.Kind), (sL (eI .u64) y2), .row (n + 3) l20.length]⟩, some (oR 29 3 Zk l20), none, none, none, none]) (Ym hU rfl rfl ?_) ?_
   ·exact Zup pl20 ql20 el20
   refine zR ?_
   exact zEn hs0_
  replace hs0_ := Zp c23 hs0_
  exact zEx hs0_
 rcases z24 with z24 | z24
 ·dsimp only [Qj] at hw h
  refine Ky hw ?_
  try simp only [Xc, Yn, ↓reduceIte, Nat.reduceEqDiff]
  exact Znv [.agg [(vI a1.Kind), (sL (eI .u64) y2), (sL Zk z24.2.2)], (vI z24.1), (vI z24.2.1)]
 dsimp only [Qj] at hw h
 refine Xo hw ?_
 try simp only [Xc, Yn, ↓reduceIte, Nat.reduceEqDiff]
 refine zDs [3, 8, 11] [false, true, true, true, false] ?_
 refine zRd [8, 9, 10] [false, true, false, true, false] ?_
 exact Z5 [.agg [(vI a1.Kind), (sL (eI .u64) y2), .row (n + 3) z24.2.length], (vI z24.1), (vI 0)]
theorem Zhi {Yb : ((List (List Int)) → Zm → Int → Int → Option (Zd × Int × Int))} {Yy : ((List (List Int)) → Zm → Int → Int → Option (Zd × Int × Int))} (Vp : Vo Yb) (Zbt : Ui Yy) {a0 : (List (List Int))} {a1 : Zm} {a2 : Int} {a3 : Int} {r : (Zd × Int × Int)} {O : Objs} {n : Nat} (h : J4 Yb Yy a0 a1 a2 a3 = some r) : GTo Try.prog 41 [(sL (eL (eI .u64)) a0), .agg (Zs a1), (vI a2), (vI a3)] O n (.tup [.agg (Zu r.1), (vI r.2.1), (vI r.2.2)]) O n := by
 unfold J4 at h
 refine Uw Try.call41 Try.func41 fun hU hN0 hN => ?_
 show W _ _ _ _ ⟨63, [], [(0, (sL (eL (eI .u64)) a0)), (1, .agg (Zs a1)), (2, (vI a2)), (3, (vI a3))]⟩ (Zt O n []) _
 refine zQ [0, 2, 3, 5, 8] ?_
 refine Zc ?_
 obtain ⟨y2, hy2, h⟩ := bC h
 refine Gg (Q4 hy2) [0, 2, 3, 5, 8, 11] [true, true, true] ?_
 refine Zc ?_
 refine zQd [0, 2, 3, 5, 8, 11, 12] [0, 2, 3, 5, 8, 11, 12] [true, true, true] ?_
 refine Ux (E' := (⟨63, [], [(0, (sL (eL (eI .u64)) a0)), (2, (vI a2)), (3, (vI a3)), (5, .ref n 0), (8, .ref (n + 1) 0), (11, .ref (n + 2) 0), (12, (vI 0))]⟩ : Env)) (O' := (Zt O n [some ⟨false, 64, 7, 1, (Zs a1)⟩, some ⟨false, 29, 3, 1, [(vI 0), nV, nV]⟩, some ⟨false, 29, 3, 1, [(vI 1), (sL (eI .u64) y2), .row (n + 3) ([] : List Zd).length]⟩, some (oR 29 3 Zk ([] : List Zd)), none])) (n' := (n + 5)) ?_ ?_
 ·refine Fit2.trans (E' := (⟨63, [], [(0, (sL (eL (eI .u64)) a0)), (2, (vI a2)), (3, (vI a3)), (5, .ref n 0), (8, .ref (n + 1) 0), (11, .ref (n + 2) 0), (12, (vI 0))]⟩ : Env)) (O' := (Zt O n [some ⟨false, 64, 7, 1, (Zs a1)⟩, some ⟨false, 29, 3, 1, [(vI 0), nV, nV]⟩, some ⟨false, 29, 3, 1, [(vI 1), (sL (eI .u64) y2), nV]⟩])) (n' := (n + 3)) (Fit2.of (Ym hU rfl rfl ?_) (by omega)) ?_
  ·exact zSe
  refine Fit2.trans (Ze3 (p := (n + 2)) (k := 2) (q := ⟨false, 29, 3, 1, [(vI 1), (sL (eI .u64) y2), nV]⟩) 29 3 (by simp only [Gc, Zgt, List.getElem?_cons_zero, List.getElem?_cons_succ, Option.join_some, List.length_nil, Yo]) rfl (by omega)) ?_
  simp only [Qw, Xy, Gq, Uz, List.set_cons_zero, List.set_cons_succ, List.cons_append, List.nil_append, List.length_cons, List.length_nil, Nat.zero_add, Nat.reduceAdd, Nat.reduceLT, Nat.add_assoc]
  refine Ga (k := 4) (k' := 5) hU [0, 1, 2, 3] [0, 1, 2, 3, 0] rfl rfl rfl rfl ⟨rfl, rfl⟩ ?_
  exact zSe
 obtain ⟨z11, hz11, h⟩ := bC h
 refine Gs (J := (Qj (fun z11 => JR n (⟨63, [], [(8, .ref (n + 1) 0), (9, (vI z11.1)), (10, (vI z11.2.1))]⟩ : Env) (Zt O n [none, some ⟨false, 29, 3, 1, [(vI 1), (sL (eI .u64) y2), (sL Zk z11.2.2)]⟩, none]) (n + 3)) (fun z11 => JX 0 n (⟨63, [], [(3, (vI z11.1)), (8, .ref (n + 1) 0), (11, .ref (n + 2) 0)]⟩ : Env) (Zt O n [none, some ⟨false, 29, 3, 1, [(vI 0), nV, nV]⟩, some ⟨false, 29, 3, 1, [(vI 1), (sL (eI .u64) y2), .row (n + 3) z11.2.length]⟩, some (oR 29 3 Zk z11.2), none]) (n + 5)))) (z := z11) ?_ fun hw => ?_
 ·refine Qo hz11 (fun s0_ => ⟨63, [], [(0, (sL (eL (eI .u64)) a0)), (2, (vI a2)), (3, (vI s0_.1)), (5, .ref n 0), (8, .ref (n + 1) 0), (11, .ref (n + 2) 0), (12, (vI s0_.2.1))]⟩) (fun s0_ => (Zt O n [some ⟨false, 64, 7, 1, (Zs a1)⟩, some ⟨false, 29, 3, 1, [(vI 0), nV, nV]⟩, some ⟨false, 29, 3, 1, [(vI 1), (sL (eI .u64) y2), .row (n + 3) s0_.2.2.length]⟩, some (oR 29 3 Zk s0_.2.2), none])) (Qj (fun z11 => JR n (⟨63, [], [(8, .ref (n + 1) 0), (9, (vI z11.1)), (10, (vI z11.2.1))]⟩ : Env) (Zt O n [none, some ⟨false, 29, 3, 1, [(vI 1), (sL (eI .u64) y2), (sL Zk z11.2.2)]⟩, none]) (n + 3)) (fun z11 => JX 0 n (⟨63, [], [(3, (vI z11.1)), (8, .ref (n + 1) 0), (11, .ref (n + 2) 0)]⟩ : Env) (Zt O n [none, some ⟨false, 29, 3, 1, [(vI 0), nV, nV]⟩, some ⟨false, 29, 3, 1, [(vI 1), (sL (eI .u64) y2), .row (n + 3) z11.2.length]⟩, some (oR 29 3 Zk z11.2), none]) (n + 5))) ?_
  intro s0_ x0_ hs0_
  unfold Jw at hs0_
  try dsimp only
  refine Zc ?_
  refine zQ [0, 2, 3, 5, 8, 11, 12, 25] ?_
  refine Zn (t := (decide (s0_.2.1 < a1.Ptrs))) rfl (fun c10 => ?_) (fun c10 => ?_)
  ·replace hs0_ := Zq c10 hs0_
   refine Qg [0, 2, 3, 5, 8, 11, 12] [true, true, true, true, false] ?_
   refine Zc ?_
   refine Y4 ?_
   refine Zc ?_
   obtain ⟨y4, hy4, hs0_⟩ := bC hs0_
   refine Gg (Zar hy4) [0, 2, 3, 5, 8, 11, 12, 13, 14] [true, true, true, true, false, true] ?_
   refine Zc ?_
   refine zQ [0, 2, 3, 5, 8, 11, 12, 13, 14, 36] ?_
   refine Zn (t := (y4.2 != 0)) rfl (fun c9 => ?_) (fun c9 => ?_)
   ·replace hs0_ := Zq c9 hs0_
    refine Zc ?_
    refine zRd [8, 9, 10] [false, true, false, true, false, false] ?_
    refine zW ?_
    exact zEy hs0_
   replace hs0_ := Zp c9 hs0_
   refine Qg [0, 2, 3, 5, 8, 11, 12, 13] [true, true, true, true, false, true] ?_
   refine Zc ?_
   obtain ⟨y6, hy6, hs0_⟩ := bC hs0_
   refine Gg (Vp hy6) [0, 2, 5, 8, 11, 12, 15, 16, 17] [true, true, true, true, false, false, true] ?_
   refine Zc ?_
   refine zQ [0, 2, 5, 8, 11, 12, 15, 16, 17, 50] ?_
   refine Zn (t := (y6.2.2 != 0)) rfl (fun c8 => ?_) (fun c8 => ?_)
   ·replace hs0_ := Zq c8 hs0_
    refine Zc ?_
    refine zRd [8, 9, 10] [false, true, false, true, false, false, false] ?_
    refine zW ?_
    exact zEy hs0_
   replace hs0_ := Zp c8 hs0_
   refine Qg [0, 2, 5, 8, 11, 12, 15, 16] [true, true, true, true, false, false, true] ?_
   refine zQ [0, 2, 3, 5, 8, 11, 12, 15] ?_
   obtain ⟨l7, pl7, ql7, el7, hs0_⟩ := bA (k := 1) rfl hs0_
   refine Zjg [] pl7 ql7 el7 ?_
   refine Ut ⟨63, [], [(0, (sL (eL (eI .u64)) a0)), (2, (vI a2)), (3, (vI y6.2.1)), (5, .ref n 0), (8, .ref (n + 1) 0), (11, .ref (n + 2) 0), (12, (vI s0_.2.1))]⟩ (Zt O n [some ⟨false, 64, 7, 1, (Zs a1)⟩, some ⟨false, 29, 3, 1, [(vI 0), nV, nV]⟩, some ⟨false, 29, 3, 1, [(vI 1), (sL (eI .u64) y2), .row (n + 3) l7.length]⟩, some (oR 29 3 Zk l7), none, none, none, none]) (Ym hU rfl rfl ?_) ?_
   ·exact Zup pl7 ql7 el7
   refine zR ?_
   exact zEn hs0_
  replace hs0_ := Zp c10 hs0_
  exact zEx hs0_
 rcases z11 with z11 | z11
 ·dsimp only [Qj] at hw h
  refine Ky hw ?_
  try simp only [Xc, Yn, ↓reduceIte, Nat.reduceEqDiff]
  exact Znv [.agg [(vI 1), (sL (eI .u64) y2), (sL Zk z11.2.2)], (vI z11.1), (vI z11.2.1)]
 dsimp only [Qj] at hw h
 refine Xo hw ?_
 try simp only [Xc, Yn, ↓reduceIte, Nat.reduceEqDiff]
 refine zDs [3, 8, 11] [false, true, true, true, false] ?_
 refine zRd [8, 9, 10] [false, true, false, true, false] ?_
 exact Z5 [.agg [(vI 1), (sL (eI .u64) y2), .row (n + 3) z11.2.length], (vI z11.1), (vI 0)]
theorem Zd5 : ∀ k, (Vo ((Ye k).1)) ∧ (Ui ((Ye k).2)) := fun k => by
 induction k with
 | zero => exact ⟨@fun a0 a1 a2 a3 r O n h => (nomatch (show (none : Option _) = some _ from h)), @fun a0 a1 a2 a3 r O n h => (nomatch (show (none : Option _) = some _ from h))⟩
 | succ k ih => exact ⟨@fun a0 a1 a2 a3 r O n h => Zfc (ih.1) (ih.2)  h, @fun a0 a1 a2 a3 r O n h => Zhi (ih.1) (ih.2)  h⟩
theorem Zft {a0 : (List (List Int))} {a1 : Zm} {a2 : Int} {a3 : Int} {r : (Zd × Int × Int)} {O : Objs} {n : Nat} (h : Ud a0 a1 a2 a3 = some r) : GTo Try.prog 25 [(sL (eL (eI .u64)) a0), .agg (Zs a1), (vI a2), (vI a3)] O n (.tup [.agg (Zu r.1), (vI r.2.1), (vI r.2.2)]) O n := by
 obtain ⟨k, hk⟩ := Zga h
 exact (Zd5 k).1  hk
theorem Zbr {a0 : (List (List Int))} {a1 : Zw} {r : (Zd × Int × Int)} {O : Objs} {n : Nat} (h : Qa a0 a1 = some r) : GTo Try.prog 8 [(sL (eL (eI .u64)) a0), .agg (Yf a1)] O n (.tup [.agg (Zu r.1), (vI r.2.1), (vI r.2.2)]) O n := by
 unfold Qa at h
 refine Uw Try.call8 Try.func8 fun hU hN0 hN => ?_
 show W _ _ _ _ ⟨43, [], [(0, (sL (eL (eI .u64)) a0)), (1, .agg (Yf a1))]⟩ (Zt O n []) _
 refine zQ [0, 3, 4] ?_
 refine Zc ?_
 obtain ⟨y2, hy2, h⟩ := bC h
 refine Gg (Zgc hy2) [0, 3, 4] [true, true] ?_
 refine Zc ?_
 obtain ⟨y4, hy4, h⟩ := bC h
 refine Gg (Za9 hy4) [0, 3, 4, 7, 8] [true, true, true] ?_
 refine Zc ?_
 refine zQ [0, 3, 4, 7, 8, 20] ?_
 refine Zn (t := (y4.2 != 0)) rfl (fun c8 => ?_) (fun c8 => ?_)
 ·replace h := Zq c8 h
  refine Zc ?_
  refine zRd [4, 5, 6] [false, true, false] ?_
  exact Z5 [.agg [(vI 0), nV, nV], (vI 0), (vI y4.2)]
 replace h := Zp c8 h
 refine Qg [0, 3, 4, 7] [true, true, true] ?_
 refine Zc ?_
 obtain ⟨y6, hy6, h⟩ := bC h
 refine Gg (Zft hy6) [3, 4, 9, 10, 11] [true, true, false, true] ?_
 refine Zc ?_
 refine zQ [3, 4, 9, 10, 11, 35] ?_
 refine Zn (t := (y6.2.2 != 0)) rfl (fun c7 => ?_) (fun c7 => ?_)
 ·replace h := Zq c7 h
  refine Zc ?_
  refine zRd [4, 5, 6] [false, true, false, false] ?_
  exact Z5 [.agg [(vI 0), nV, nV], (vI 0), (vI y6.2.2)]
 replace h := Zp c7 h
 refine Qg [3, 4, 9, 10] [true, true, false, true] ?_
 refine Zc ?_
 refine Zcn Zz (by kernel_rfl) [.plain, .low, .low, .plain, .low, .pass, .plain, .plain] (fun i => i ≠ n + 1) [0, 1, 2, 3, 4, 5, 6, 7] [.plain, .low, .low, .plain, .low, .pass, .plain, .plain] [] (by kernel_rfl) rfl ?_
 refine zS ?_
 refine zO ?_
 refine zD [4, 5, 6] [false, true, false, false] ?_
 exact Z5 [.agg (Zu y6.1), (vI (IntKind.i64.wrap (y2.Weight - y6.2.1))), (vI 0)]
theorem Zfv {a0 : Zl} {a1 : Za} {r : (Int × Int × Zl)} {O : Objs} {n : Nat} {i0 j0_0 j0_1 : Nat} (hi0 : i0 < n) (Zf7 : j0_0 < n) (Zf8 : j0_1 < n) (Zc9 : i0 ≠ j0_0) (Ge : i0 ≠ j0_1) (Gd : j0_0 ≠ j0_1) (ho0 : O i0 = some ⟨false, 79, 2, 1, [.row j0_0 a0.classes.length, .row j0_1 a0.places.length]⟩) (Zh8 : O j0_0 = some (oR 82 10 Zb a0.classes)) (Zh9 : O j0_1 = some (oR 3 1 (eI .i64) a0.places)) (h : J0 a0 a1 = some r) : GTo Try.prog 15 [.ref i0 0, .agg (Ze a1)] O n (.tup [(vI r.1), (vI r.2.1)]) (Zt (((O.upd j0_0 none).upd j0_1 none).upd i0 (some ⟨false, 79, 2, 1, [.row n r.2.2.classes.length, .row (n + 1) r.2.2.places.length]⟩)) n [some (oR 82 10 Zb r.2.2.classes), some (oR 3 1 (eI .i64) r.2.2.places)]) (n + 2) := by
 unfold J0 at h
 refine Zf0 Zz Try.call15 Try.func15 rfl (Nat.le_of_ble_eq_true rfl) (by omega) fun hU => ?_
 have e0 := Zbz (ba := n) (E := ⟨25, [], Zg7 0 [.ref i0 0, .agg [(gP Zi a1.a), .val (.int .i64 a1.kind), .val (.int .i64 a1.segment), .val (.int .i64 a1.at_), .val (.int .i64 a1.words), .val (.int .i64 a1.ptrs), .val (.int .i64 a1.count), .val (.int .i64 a1.code), .val (.int .i64 a1.index)]]⟩) (O := (Zt O n [])) (n := n) (i := i0) (j := j0_0) (k := 0) (len := a0.classes.length) (q := ⟨false, 79, 2, 1, [.row j0_0 a0.classes.length, .row j0_1 a0.places.length]⟩) (qj := ⟨true, 82, 10, a0.classes.length, fl Zb a0.classes⟩) (by rw [Xd _ hi0]; first | exact ho0 | exact Yo _ _ _) rfl (by rw [Xd _ Zf7]; exact Zh8) Zc9 (by omega)
 simp only [Qi _ _ Zf7, Qi _ _ hi0, Qw, Xy, U6, Zgq Zc9, List.set_cons_zero, List.set_cons_succ, List.cons_append, List.nil_append, List.length_cons, List.length_nil, Nat.zero_add, Nat.reduceAdd, Nat.add_assoc] at e0
 refine Ux e0 ?_
 have e1 := Zbz (ba := n) (E := ⟨25, [], Zg7 0 [.ref i0 0, .agg [(gP Zi a1.a), .val (.int .i64 a1.kind), .val (.int .i64 a1.segment), .val (.int .i64 a1.at_), .val (.int .i64 a1.words), .val (.int .i64 a1.ptrs), .val (.int .i64 a1.count), .val (.int .i64 a1.code), .val (.int .i64 a1.index)]]⟩) (O := (Zt ((O.upd j0_0 none).upd i0 (some ⟨false, 79, 2, 1, [.row n a0.classes.length, .row j0_1 a0.places.length]⟩)) n [some ⟨true, 82, 10, a0.classes.length, fl Zb a0.classes⟩])) (n := (n + 1)) (i := i0) (j := j0_1) (k := 1) (len := a0.places.length) (q := ⟨false, 79, 2, 1, [.row n a0.classes.length, .row j0_1 a0.places.length]⟩) (qj := ⟨true, 3, 1, a0.places.length, fl (eI .i64) a0.places⟩) (by rw [Xd _ hi0]; first | exact ho0 | exact Yo _ _ _) rfl (by rw [Xd _ Zf8, Xh _ _ (Ne.symm Ge), Xh _ _ (Ne.symm Gd)]; exact Zh9) Ge (by omega)
 simp only [Qi _ _ Zf8, Qi _ _ hi0, Qw, Xy, U6, Zgq Ge, List.set_cons_zero, List.set_cons_succ, List.cons_append, List.nil_append, List.length_cons, List.length_nil, Nat.zero_add, Nat.reduceAdd, Nat.add_assoc] at e1
 refine Ux e1 ?_
 have hU := (Und.drop (Und.drop hU j0_0) j0_1)
 have hk0 : ∀ k, i0 < n + k := fun k => by omega
 have hN0 : ∀ o, Objs.upd ((O.upd j0_0 none).upd j0_1 none) i0 o n = none := fun o => Qh hU hi0 _ (Nat.le_refl _)
 have hN : ∀ o k, Objs.upd ((O.upd j0_0 none).upd j0_1 none) i0 o (n + k) = none := fun o k => Qh hU hi0 _ (Nat.le_add_right _ _)
 show W _ _ _ _ ⟨25, [], [(0, .ref i0 0), (1, .agg (Ze a1))]⟩ (Zt (((O.upd j0_0 none).upd j0_1 none).upd i0 (some ⟨false, 79, 2, 1, [.row n a0.classes.length, .row (n + 1) a0.places.length]⟩)) n [some (oR 82 10 Zb a0.classes), some (oR 3 1 (eI .i64) a0.places)]) _
 refine Q7 [0, 3] hi0 hk0 ?_
 refine Zc ?_
 refine Q7 [0, 3, 9] hi0 hk0 ?_
 refine Zn (t := false) rfl (fun hc => by cases hc) (fun _ => ?_)
 refine Qg [0, 3] [true, true, true] ?_
 refine Zc ?_
 obtain ⟨y2, hy2, h⟩ := bC h
 refine Qq [] hi0 hk0 ?_
 refine (Zhn hy2).then ?_
 refine zX2 hi0 hk0 ?_
 refine zDs [0, 3, 6, 7] [true, true, true] ?_
 refine Q7 [0, 3, 6, 7, 16] hi0 hk0 ?_
 refine Zn (t := (y2.2 != 0)) rfl (fun c5 => ?_) (fun c5 => ?_)
 ·replace h := Zq c5 h
  refine Q7 [4, 5] hi0 hk0 ?_
  refine zW ?_
  obtain rfl := sI h
  refine Qk (k := 2) (i := i0) (q1 := ⟨false, 79, 2, 1, [.row n a0.classes.length, .row (n + 1) a0.places.length]⟩) (L3 := [some (oR 82 10 Zb a0.classes), some (oR 3 1 (eI .i64) a0.places), none]) (E2 := (⟨25, [], [(4, (vI 0)), (5, (vI y2.2))]⟩ : Env)) (n3 := (n + 3)) (.inr rfl) hU rfl [(vI 0), (vI y2.2)] ?_ ?_
  ·refine Fit2.trans (E' := (⟨25, [], [(4, (vI 0)), (5, (vI y2.2))]⟩ : Env)) (O' := (Zt (((O.upd j0_0 none).upd j0_1 none).upd i0 (some ⟨false, 79, 2, 1, [.row n a0.classes.length, .row (n + 1) a0.places.length]⟩)) n [some (oR 82 10 Zb a0.classes), some (oR 3 1 (eI .i64) a0.places), none])) (n' := (n + 3)) (Fit2.of (Z0 hU rfl rfl ?_) (by omega)) ?_
   ·exact Y7 hi0 hk0
   refine Xg (k := 3) (k' := 3) hU [0, 1, 2] [0, 1, 0] rfl rfl rfl rfl ⟨rfl, rfl⟩ ?_
   exact Y7 hi0 hk0
  simp only [push_cast, seval, ↓reduceIte, Zj, Try.results15, hi0, hk0, hN0, hN]
 replace h := Zp c5 h
 refine Qg [0, 3, 6] [true, true, true] ?_
 refine Zc ?_
 obtain ⟨y4, hy4, h⟩ := bC h
 refine Qq [] hi0 hk0 ?_
 refine (Zas (i0 := i0) (j0_0 := n) (j0_1 := (n + 1)) (by omega) (by omega) (by omega) (by omega) (by omega) (by omega) (by simp only [push_cast, seval, ↓reduceIte, Zj, Q9, hi0, hk0, hN0, hN] <;> rfl) (by simp only [push_cast, seval, ↓reduceIte, Zj, Q9, hi0, hk0, hN0, hN] <;> rfl) (by simp only [push_cast, seval, ↓reduceIte, Zj, Q9, hi0, hk0, hN0, hN] <;> rfl) hy4).then ?_
 refine zX2 hi0 hk0 ?_
 refine zD [4, 5] [false, false, false, true, true] ?_
 refine zW ?_
 obtain rfl := sI h
 refine Qk (k := 2) (i := i0) (q1 := ⟨false, 79, 2, 1, [.row n y4.2.2.classes.length, .row (n + 1) y4.2.2.places.length]⟩) (L3 := [some (oR 82 10 Zb y4.2.2.classes), some (oR 3 1 (eI .i64) y4.2.2.places), none]) (E2 := (⟨25, [], [(4, (vI y4.1)), (5, (vI y4.2.1))]⟩ : Env)) (n3 := (n + 3)) (.inr rfl) hU rfl [(vI y4.1), (vI y4.2.1)] ?_ ?_
 ·refine Fit2.trans (E' := (⟨25, [], [(4, (vI y4.1)), (5, (vI y4.2.1))]⟩ : Env)) (O' := (Zt (((O.upd j0_0 none).upd j0_1 none).upd i0 (some ⟨false, 79, 2, 1, [.row (n + 3) y4.2.2.classes.length, .row (n + 4) y4.2.2.places.length]⟩)) n [none, none, none, some (oR 82 10 Zb y4.2.2.classes), some (oR 3 1 (eI .i64) y4.2.2.places)])) (n' := (n + 5)) (Fit2.of (Z0 hU rfl rfl ?_) (by omega)) ?_
  ·exact Y7 hi0 hk0
  refine Xg (k := 5) (k' := 3) hU [2, 2, 2, 0, 1] [3, 4, 0] rfl rfl rfl rfl ⟨rfl, rfl⟩ ?_
  exact Y7 hi0 hk0
 simp only [push_cast, seval, ↓reduceIte, Zj, Try.results15, hi0, hk0, hN0, hN]
theorem Zcp {a0 : (List (List (List Int)))} {a1 : Zw} {r : Bool} {O : Objs} {n : Nat} (h : Jb a0 a1 = some r) : GTo Try.prog 4 [(sL (eL (eL (eI .u64))) a0), .agg (Yf a1)] O n ((vB r)) O n := by
 unfold Jb at h
 refine Uw Try.call4 Try.func4 fun hU hN0 hN => ?_
 show W _ _ _ _ ⟨72, [], [(0, (sL (eL (eL (eI .u64))) a0)), (1, .agg (Yf a1))]⟩ (Zt O n []) _
 refine zQ [0, 3] ?_
 refine Zc ?_
 obtain ⟨y2, hy2, h⟩ := bC h
 refine Gg (Zha hy2) [0, 3] [true] ?_
 refine Zc ?_
 obtain ⟨y4, hy4, h⟩ := bC h
 refine zR ?_
 refine (Zho  hy4).then ?_
 refine zS ?_
 refine zD [0, 3, 5] [true, true, true, true] ?_
 refine zQ [0, 3, 5, 6] ?_
 refine Zc ?_
 refine zQd [0, 3, 5, 6, 7] [0, 3, 5, 6, 7] [true, true, true, true] ?_
 refine Ux (E' := (⟨72, [], [(0, (sL (eL (eL (eI .u64))) a0)), (3, .ref n 0), (5, .ref (n + 1) 0), (6, .row (n + 4) ([] : List Zd).length), (7, (vI 0))]⟩ : Env)) (O' := (Zt O n [some ⟨false, 24, 4, 1, (Yf y2)⟩, some ⟨false, 79, 2, 1, [.row (n + 5) y4.classes.length, .row (n + 6) y4.places.length]⟩, none, none, some (oR 29 3 Zk ([] : List Zd)), some (oR 82 10 Zb y4.classes), some (oR 3 1 (eI .i64) y4.places), none])) (n' := (n + 8)) ?_ ?_
 ·refine Fit2.trans (E' := (⟨72, [], [(0, (sL (eL (eL (eI .u64))) a0)), (3, .ref n 0), (5, .ref (n + 1) 0), (6, nV), (7, (vI 0))]⟩ : Env)) (O' := (Zt O n [some ⟨false, 24, 4, 1, (Yf y2)⟩, some ⟨false, 79, 2, 1, [.row (n + 2) y4.classes.length, .row (n + 3) y4.places.length]⟩, some (oR 82 10 Zb y4.classes), some (oR 3 1 (eI .i64) y4.places)])) (n' := (n + 4)) (Fit2.of (Ym hU rfl rfl ?_) (by omega)) ?_
  ·exact zSe
  refine Fit2.trans (Zeb 6 29 3 rfl (by omega)) ?_
  simp only [Qw, Xy, Gq, Uz, List.set_cons_zero, List.set_cons_succ, List.cons_append, List.nil_append, List.length_cons, List.length_nil, Nat.zero_add, Nat.reduceAdd, Nat.reduceLT, Nat.add_assoc]
  refine Fit2.trans (E' := (⟨72, [], [(0, (sL (eL (eL (eI .u64))) a0)), (3, .ref n 0), (5, .ref (n + 1) 0), (6, .row (n + 4) ([] : List Zd).length), (7, (vI 0))]⟩ : Env)) (O' := (Zt O n [some ⟨false, 24, 4, 1, (Yf y2)⟩, some ⟨false, 79, 2, 1, [.row (n + 2) y4.classes.length, .row (n + 3) y4.places.length]⟩, some (oR 82 10 Zb y4.classes), some (oR 3 1 (eI .i64) y4.places), some (oR 29 3 Zk ([] : List Zd))])) (n' := (n + 5)) (Fit2.of (Ym hU rfl rfl ?_) (by omega)) ?_
  ·exact zSe
  refine Ga (k := 5) (k' := 8) hU [0, 1, 5, 6, 4] [0, 1, 0, 0, 4, 2, 3, 0] rfl rfl rfl rfl ⟨rfl, rfl⟩ ?_
  exact zSe
 obtain ⟨z27, hz27, h⟩ := bC h
 refine Gs (J := (Qj (fun z27 => JR n (⟨72, [], [(4, (vB false))]⟩ : Env) (Zt O n [none, none, none, none]) (n + 4)) (fun z27 => JX 0 n (⟨72, [], []⟩ : Env) (Zt O n [none, none, none, none, none, none, none, none]) (n + 8)))) (z := z27) ?_ fun hw => ?_
 ·refine Qo hz27 (fun s0_ => ⟨72, [], [(0, (sL (eL (eL (eI .u64))) a0)), (3, .ref n 0), (5, .ref (n + 1) 0), (6, .row (n + 4) s0_.2.1.length), (7, (vI s0_.1))]⟩) (fun s0_ => (Zt O n [some ⟨false, 24, 4, 1, (Yf y2)⟩, some ⟨false, 79, 2, 1, [.row (n + 5) s0_.2.2.1.length, .row (n + 6) s0_.2.2.2.length]⟩, none, none, some (oR 29 3 Zk s0_.2.1), some (oR 82 10 Zb s0_.2.2.1), some (oR 3 1 (eI .i64) s0_.2.2.2), none])) (Qj (fun z27 => JR n (⟨72, [], [(4, (vB false))]⟩ : Env) (Zt O n [none, none, none, none]) (n + 4)) (fun z27 => JX 0 n (⟨72, [], []⟩ : Env) (Zt O n [none, none, none, none, none, none, none, none]) (n + 8))) ?_
  intro s0_ x0_ hs0_
  unfold Yq at hs0_
  try dsimp only
  refine Zc ?_
  refine zQD [0, 3, 5, 6, 7, 25] [none, none] ?_
  refine Zn (t := (cond (decide (s0_.1 < (a0.length : Int))) (decide (s0_.1 < 30)) false)) rfl (fun c26 => ?_) (fun c26 => ?_)
  ·replace hs0_ := Zq c26 hs0_
   refine Qg [0, 3, 5, 6, 7] [true, true, false, false, true, true, true, false] ?_
   obtain ⟨z5, hz5, hs0_⟩ := bC hs0_
   refine Zyz (J := (Qj (fun z5 => JN n (⟨72, [], [(0, (sL (eL (eL (eI .u64))) a0)), (3, .ref n 0), (5, .ref (n + 1) 0), (6, .row (n + 12) z5.1.length), (7, (vI s0_.1))]⟩ : Env) (Zt O n [some ⟨false, 24, 4, 1, (Yf y2)⟩, some ⟨false, 79, 2, 1, [.row (n + 13) z5.2.1.length, .row (n + 14) z5.2.2.length]⟩, none, none, none, none, none, none, none, none, none, none, some (oR 29 3 Zk z5.1), some (oR 82 10 Zb z5.2.1), some (oR 3 1 (eI .i64) z5.2.2), none]) (n + 16)) (fun z5 => JR n (⟨72, [], [(4, (vB false))]⟩ : Env) (Zt O n [none, none, none, none, none, none, none, none]) (n + 8)))) (z := z5) ?_ fun hw => ?_
   ·refine Y4 ?_
    refine Zc ?_
    obtain ⟨x8, hx8, ax8, bx8, cx8, hz5⟩ := bE (f := (eL (eL (eI .u64)))) Zwk (fun _ => rfl) (by decide) hz5
    obtain ⟨y9, hy9, hz5⟩ := bC hz5
    refine Zcn Zz (by kernel_rfl) [.plain, .plain, .low, .low, .low, .low, .plain, .plain, .plain, .plain, .pass, .bar, .plain, .plain] (fun i => i < (n + 8)) [0, 1, 2, 3, 4, 5, 6, 7, 8, 9, 10, 11, 12, 13] [.plain, .plain, .low, .low, .low, .low, .plain, .plain, .plain, .plain, .pass, .bar, .plain, .plain] [] (by kernel_rfl) rfl ?_
    refine zF3 ax8 bx8 cx8 ?_
    refine zO ?_
    first | refine PCallA.of (fun _ _ => Zbr hy9) ?_ | refine PCall.of (Zbr hy9) ?_
    refine zF3 ax8 bx8 cx8 ?_
    refine zO ?_
    refine zDs [0, 3, 5, 6, 7, 8, 10] [true, true, false, false, true, true, true, false, true] ?_
    refine zQ [0, 3, 5, 6, 7, 8, 39] ?_
    refine Zn (t := (y9.2.2 != 0)) rfl (fun c25 => ?_) (fun c25 => ?_)
    ·replace hz5 := Zq c25 hz5
     refine zXt ?_
     obtain rfl := sI hz5
     refine And.intro rfl ?_
     refine Fit2.trans (E' := (⟨72, [], [(0, (sL (eL (eL (eI .u64))) a0)), (3, .ref n 0), (5, .ref (n + 1) 0), (6, .row (n + 4) s0_.2.1.length), (7, (vI s0_.1))]⟩ : Env)) (O' := (Zt O n [some ⟨false, 24, 4, 1, (Yf y2)⟩, some ⟨false, 79, 2, 1, [.row (n + 5) s0_.2.2.1.length, .row (n + 6) s0_.2.2.2.length]⟩, none, none, some (oR 29 3 Zk s0_.2.1), some (oR 82 10 Zb s0_.2.2.1), some (oR 3 1 (eI .i64) s0_.2.2.2), none, none])) (n' := (n + 9)) (Fit2.of (Ym hU rfl rfl ?_) (by omega)) ?_
     ·exact zSe
     refine Ga (k := 9) (k' := 16) hU [0, 1, 15, 15, 12, 13, 14, 15, 15] [0, 1, 0, 0, 0, 0, 0, 0, 0, 0, 0, 0, 4, 5, 6, 0] rfl rfl rfl rfl ⟨rfl, rfl⟩ ?_
     exact zSe
    replace hz5 := Zp c25 hz5
    refine Qg [0, 3, 5, 6, 7, 8] [true, true, false, false, true, true, true, false, true] ?_
    refine Zc ?_
    obtain ⟨x13, hx13, ax13, bx13, cx13, hz5⟩ := bE (f := (eL (eL (eI .u64)))) Zwk (fun _ => rfl) (by decide) hz5
    obtain ⟨y14, hy14, hz5⟩ := bC hz5
    obtain ⟨y15, hy15, hz5⟩ := bC hz5
    refine Z43 [] ax13 bx13 cx13 ?_
    refine (Zdf hy14).then ?_
    refine zF3 ax13 bx13 cx13 ?_
    refine (Zfv (i0 := (n + 1)) (j0_0 := (n + 5)) (j0_1 := (n + 6)) (by omega) (by omega) (by omega) (by omega) (by omega) (by omega) (by simp only [push_cast, Nat.reduceAdd, Nat.reduceSub, Nat.reduceMul, Nat.reduceLeDiff, Nat.reduceLT, Nat.reduceEqDiff, ↓reduceIte, reduceCtorEq, Int.reduceBEq, Int.reduceBNe, Nat.reduceBEq, Int.reduceLE, Int.reduceLT, Int.reduceEq, Int.reduceNe, Int.reduceNeg, Nat.reduceDiv, Nat.reduceMod, Nat.reducePow, Zj, Q9, ax13, bx13, cx13, hN0, hN] <;> rfl) (by simp only [push_cast, Nat.reduceAdd, Nat.reduceSub, Nat.reduceMul, Nat.reduceLeDiff, Nat.reduceLT, Nat.reduceEqDiff, ↓reduceIte, reduceCtorEq, Int.reduceBEq, Int.reduceBNe, Nat.reduceBEq, Int.reduceLE, Int.reduceLT, Int.reduceEq, Int.reduceNe, Int.reduceNeg, Nat.reduceDiv, Nat.reduceMod, Nat.reducePow, Zj, Q9, ax13, bx13, cx13, hN0, hN] <;> rfl) (by simp only [push_cast, Nat.reduceAdd, Nat.reduceSub, Nat.reduceMul, Nat.reduceLeDiff, Nat.reduceLT, Nat.reduceEqDiff, ↓reduceIte, reduceCtorEq, Int.reduceBEq, Int.reduceBNe, Nat.reduceBEq, Int.reduceLE, Int.reduceLT, Int.reduceEq, Int.reduceNe, Int.reduceNeg, Nat.reduceDiv, Nat.reduceMod, Nat.reducePow, Zj, Q9, ax13, bx13, cx13, hN0, hN] <;> rfl) hy15).then ?_
    refine zF3 ax13 bx13 cx13 ?_
    refine zDs [0, 3, 5, 6, 7, 8, 11, 12] [true, true, false, false, true, false, false, false, true, true, true] ?_
    obtain ⟨y17, hy17, hz5⟩ := bC hz5
    refine zR ?_
    refine (Zhe (t0 := (n + 4)) (by omega) (by simp only [push_cast, seval, ↓reduceIte, Zj, Q9, hN0, hN] <;> rfl) hy17).then ?_
    refine zS ?_
    refine zD [0, 3, 5, 7, 11, 12, 13, 14] [true, true, false, false, false, false, false, false, false, true, true, true] ?_
    refine zQ [0, 3, 5, 6, 7, 11, 12, 14] ?_
    obtain ⟨z19, hz19, hz5⟩ := bC hz5
    refine Q8 (E' := ⟨72, [], [(0, (sL (eL (eL (eI .u64))) a0)), (3, .ref n 0), (5, .ref (n + 1) 0), (6, .row (n + 11) y17.1.length), (7, (vI s0_.1)), (70, (vB z19))]⟩) (O' := (Zt O n [some ⟨false, 24, 4, 1, (Yf y2)⟩, some ⟨false, 79, 2, 1, [.row (n + 9) y15.2.2.classes.length, .row (n + 10) y15.2.2.places.length]⟩, none, none, none, none, none, none, none, some (oR 82 10 Zb y15.2.2.classes), some (oR 3 1 (eI .i64) y15.2.2.places), some (oR 29 3 Zk y17.1)])) (n0 := (n + 12)) ?_ ?_
    ·rcases Bool.eq_false_or_eq_true (y15.2.1 != 0) with c22 | c22
     ·replace hz19 := Zq c22 hz19
      refine U8 [none, none, none, some false, some false, some false, some false, some false] c22 ?_
      refine zG ?_
      exact Uv hz19 c22
     replace hz19 := Zp c22 hz19
     rcases Bool.eq_false_or_eq_true (y15.1 != y17.2) with c23 | c23
     ·replace hz19 := Zq c23 hz19
      try rw [c23] at c22
      refine Qq [none, none, none, some false, some false, some false, some false, some false] c22 c23 ?_
      refine zG ?_
      exact Znj hz19 c22 c23
     replace hz19 := Zp c23 hz19
     try rw [c23] at c22
     obtain ⟨y21, hy21, hz19⟩ := bC hz19
     refine Qq [none, none, none, some true, some true, some true, some true, some true] c22 c23 ?_
     refine zG ?_
     refine GCalls.lend (Zcg hy21) rfl ?_ ?_
     ·exact Y7 c22 c23
     refine zX2 c22 c23 ?_
     refine zG ?_
     exact Znj hz19 c22 c23
    refine Zn (t := z19) rfl (fun c24 => ?_) (fun c24 => ?_)
    ·replace hz5 := Zq c24 hz5
     refine zQ [4] ?_
     refine zW ?_
     exact zEn hz5
    replace hz5 := Zp c24 hz5
    refine zK ?_
    obtain rfl := sI hz5
    refine And.intro rfl ?_
    refine Fit2.trans (E' := (⟨72, [], [(0, (sL (eL (eL (eI .u64))) a0)), (3, .ref n 0), (5, .ref (n + 1) 0), (6, .row (n + 11) y17.1.length), (7, (vI s0_.1))]⟩ : Env)) (O' := (Zt O n [some ⟨false, 24, 4, 1, (Yf y2)⟩, some ⟨false, 79, 2, 1, [.row (n + 9) y15.2.2.classes.length, .row (n + 10) y15.2.2.places.length]⟩, none, none, none, none, none, none, none, some (oR 82 10 Zb y15.2.2.classes), some (oR 3 1 (eI .i64) y15.2.2.places), some (oR 29 3 Zk y17.1)])) (n' := (n + 12)) (Fit2.of (Ym hU rfl rfl ?_) (by omega)) ?_
    ·exact zSe
    refine Ga (k := 12) (k' := 16) hU [0, 1, 15, 15, 15, 15, 15, 15, 15, 13, 14, 12] [0, 1, 0, 0, 0, 0, 0, 0, 0, 0, 0, 0, 11, 9, 10, 0] rfl rfl rfl rfl ⟨rfl, rfl⟩ ?_
    exact zSe
   rcases z5 with z5 | z5
   ·dsimp only [Qj] at hw hs0_
    refine Q8 hw ?_
    refine zR ?_
    obtain rfl := sI hs0_
    refine And.intro rfl ?_
    refine Fit2.trans (E' := (⟨72, [], [(0, (sL (eL (eL (eI .u64))) a0)), (3, .ref n 0), (5, .ref (n + 1) 0), (6, .row (n + 12) z5.1.length), (7, (vI (IntKind.i64.wrap (s0_.1 + 1))))]⟩ : Env)) (O' := (Zt O n [some ⟨false, 24, 4, 1, (Yf y2)⟩, some ⟨false, 79, 2, 1, [.row (n + 13) z5.2.1.length, .row (n + 14) z5.2.2.length]⟩, none, none, none, none, none, none, none, none, none, none, some (oR 29 3 Zk z5.1), some (oR 82 10 Zb z5.2.1), some (oR 3 1 (eI .i64) z5.2.2), none])) (n' := (n + 16)) (Fit2.of (Ym hU rfl rfl ?_) (by omega)) ?_
    ·exact zSe
    refine Ga (k := 16) (k' := 8) hU [0, 1, 7, 7, 7, 7, 7, 7, 7, 7, 7, 7, 4, 5, 6, 7] [0, 1, 0, 0, 12, 13, 14, 0] rfl rfl rfl rfl ⟨rfl, rfl⟩ ?_
    exact zSe
   dsimp only [Qj] at hw hs0_
   refine Ztn hw ?_
   try simp only [Xc, Yn]
   exact zEy hs0_
  replace hs0_ := Zp c26 hs0_
  exact zEx hs0_
 rcases z27 with z27 | z27
 ·dsimp only [Qj] at hw h
  refine Ky hw ?_
  try simp only [Xc, Yn, ↓reduceIte, Nat.reduceEqDiff]
  exact Znv [(vB false)]
 dsimp only [Qj] at hw h
 refine Xo hw ?_
 try simp only [Xc, Yn, ↓reduceIte, Nat.reduceEqDiff]
 refine zDs [] [false, false, false, false, false, false, false, false] ?_
 obtain ⟨y29, hy29, h⟩ := bC h
 refine Gg (Zhb hy29) [4] [false, false, false, false, false, false, false, false] ?_
 exact Z5 [(vB y29)]
end Go.Proofs.Ytgffgbdnbjbmoaa
