/- Part JM3 of this seat's mirrors: functions of the seat's program, and the plain functions that they are; each theorem bears its own conditions. -/
import Derived.Test.YtmlcnhambfkjaaaGreatJM1
namespace Go.Proofs.YtmlcnhambfkjaaaGreat
open Go.RowKit
set_option linter.unusedVariables false
set_option linter.unusedSimpArgs false
set_option maxRecDepth 100000
set_option maxHeartbeats 4000000
attribute [local push_cast] vI vB nV sL oR Zm Q2 X5 Xn Zg Jv Z3 Xh Zk Yv Z9 Je Zfw Zdq Ztp Zsm Zna Zne Zm9 Znd Zqk Zqg Znc Zqj Zqi Zqh Znb Zqf Zk7 evS wok K8 Op.operands Call.operands gop atK List.all_cons List.all_nil Bool.and_true Bool.true_and Bool.and_self Value.oneCell' List.take_zero List.take_succ_cons List.take_nil List.drop_zero List.drop_succ_cons List.drop_nil List.append_nil Nat.add_zero Nat.zero_add Zao Y2 ev Kv Zo6 Zuc Zub Zuh Zuf Zug Zud Zue Zua Ztz Zw1 Zz0 Zkl Zel Zjg Zek Zmv Zhg Zid Zii Zke Zka Zig Zkd Zkc Zkb Zif Zj9 Zie Zih Zgv Zly Zkj Zcp Zkk Zcq Zlx Zki Zx5 bLo bHi bMx Zen Zlv Z39 Zkh Zlw Zgw Zbr Zw3 Z4c Zkg Zhe Z4h Zej Z6l Zpf Zpj Zpe Zpi Zuw Zus Zur Zmw Zpg Zuv Zuu Zut Zph Zun Zuq Zum Zup Z0f Z0c Z0b Zuo Z0d Z0e Yfr Zli gone pop TK.isAgg Zu3 Zu7 Zu2 Zu6 Zpz Z01 Z0x Zu5 Z00 Z0z Z0y Zu4 Z0w G.under G.unders List.set_cons_zero List.set_cons_succ List.map_cons List.map_nil List.toList_toArray Array.toList_append Option.toArray_none Option.toArray_some Option.map_some Option.map_none Option.bind_some Option.bind_none List.getElem?_cons_zero List.getElem?_cons_succ List.getElem?_nil List.nil_append List.cons_append List.replicate_succ List.replicate_zero List.length_cons List.length_nil and_true true_and false_and Bool.true_eq_false Bool.false_eq_true forall_const implies_true IntKind.bits ite_true ite_false eq_self not_false_eq_true decide_eq_true_eq decide_eq_false_iff_not beq_iff_eq bne_iff_ne ne_eq beq_eq_false_iff_ne bne_eq_false_iff_eq beq_self_eq_true bne_self_eq_false Option.some.injEq exists_eq_left' ge_iff_le gt_iff_lt Bool.not_true Bool.not_false imp_self cond_true cond_false Yfd Yfc Bool.not_not Zaa Zc8 Zah Zwk Kg Q3 Option.join_some Nat.add_assoc Int.toNat_natCast eI eL Zbx Zjh Zik Zuk Zui Zuj Z60 Ya6 Zju Ziq Zvd Zvb Zvc Z0v Znh Zyr Zn1 Zx3 G.agg.injEq G.tup.injEq List.flatten_cons List.flatten_nil Int.le_refl Nat.le_refl Bool.not_eq_true' Bool.not_eq_false' Zwj Zj1 Z3p Z3k Z3o Yab Zs3 Zts G.ren G.rens Zxl Zt8 Zt9 Yeq Yka G.fn.injEq Zmo Zsa Ye4 Z3n Z3l Z0i Z78 Option.join_none G5 undef Zl2 Arr.put_eq Zkv Zva Zu8 Zu9 onB Z6z Zw0 Zxt Zmx Zp5 Zp4 Zp3 Zp2 Ya5 Ydq Z0u Zyf Zbb Z0j Zpk Z48 Ztu Zkf Zlu Zgk Zgx Ygu Z28 Ztb Z29 Ygv Z3a Z27 Z3b Ygw Z3c Ygx Z3d Ygy Z3e Ygz Z3f Z9h Zvm Z9i Zvn Z9j Zvo Z9k Zvp Z9l Zvq Z9m Zvr Z9n Zvs Z9o Zvt Z9p Zvu Z9q Zvv Z9r Zvw Zgd Zg0 Zzi Zk8 Z9s Zvx Zcc Zvy Z9t Zvz Z9u Zv0 Z9v Zv1 Z9w Zv2 Zn2 Zv3 Z9x Zv4 Z9y Zv5 Z9z Zv6 Z90 Zv7 Z91 Zr8 Z92 Zv8 Z93 Zv9 Za6 Zwa Z94 Zwb Z95 Zwc Zn3 Zwd Z96 Zwe Zh6 Zwf Z97 Zwg Zlg Zwh Z1m Zqn Z1n Zqo Z1o Zqp Z1p Zqq Z1q Zqr Z1r Zqs Z1s Zqt Z1t Zqu Z1u Zqv Z1v Zqw Z1w Zqx Z1x Zqy Z1y Zqz Z1z Zq0 Z10 Zq1 Z11 Zq2 Z12 Zq3 Z13 Zq4 Z14 Zq5 Z15 Zq6 Z16 Zq7 Z17 Zq8 Z18 Zq9 Zta Zmn Z19 Zra Z2a Zrb Z2b Zrc Z2c Zrd Z2d Zre Z2e Zrf Z2f Zrg Z2g Zrh Z2h Zri Z2i Zrj Z2j Zrk Z2k Zrl Z2l Zrm Z2m Zrn Z2n Zro Z2o Zrp Z2p Zrq Z2q Zrr Z2r Zrs Z2s Zrt Z2t Zru Z2u Zrv Z2v Zrw Z2w Zrx Z2x Zry Z2y Zrz Z2z Zr0 Z20 Zr1 Z21 Zr2 Z22 Zr3 Z23 Zr4 Z24 Zr5 Z25 Zr6 Z26 Zr7 Uf Zk9 Zoa Zom Zjb Zc Zdj Zu Qv Zr Yg Qf Vb Zaz Zbc Ze5 Zh
theorem Zfb {a0:Zi} {r:(Int×Int)} {O:Objs} {n:Nat} (h:Kz a0=some r):GTo Tryz.prog 71 [.agg (Zm a0)] O n (.tup [(vI r.1),(vI r.2)]) O n:=by
 unfold Kz at h
 refine Uw Zs Tryz.call71 Tryz.func71 rfl fun hU hN0 hN => ?_
 show W _ _ _ _ ⟨48,[],[(0,.agg (Zm a0))]⟩ (Zx O n []) _
 refine zQ [1] ?_
 refine zQ [1,4,5] ?_
 refine Zf ?_
 refine zQd [1,4,5,6] [1,4,5,6] [true] ?_
 obtain ⟨z14,hz14,h⟩:=bC h
 refine Yn (E':=⟨48,[],[(4,(vI z14.1)),(5,(vI z14.2))]⟩) (O':=(Zx O n [none])) (n0:=(n+1)) ?_ ?_
 ·refine Xd hz14 (fun s0_=>⟨48,[],[(1,.ref n 0),(4,(vI s0_.1)),(5,(vI s0_.2.1)),(6,(vI s0_.2.2))]⟩) (fun s0_=>(Zx O n [some ⟨false,30,11,1,(Zm a0)⟩])) (fun z14=>JX 0 n (⟨48,[],[(4,(vI z14.1)),(5,(vI z14.2))]⟩:Env) (Zx O n [none]) (n+1)) ?_
  intro s0_ x0_ hs0_
  unfold K0 at hs0_
  try dsimp only
  refine Zf ?_
  refine zQ [1,4,5,6,13] ?_
  refine Zo (t:=(decide (s0_.2.2 < (a0.Ops.length:Int)))) rfl (fun c13 => ?_) (fun c13 => ?_)
  ·replace hs0_:=Zq c13 hs0_
   refine Xs [1,4,5,6] [true] ?_
   obtain ⟨z1,hz1,hs0_⟩:=bC hs0_
   refine Y1 (E':=⟨48,[],[(1,.ref n 0),(4,(vI z1.1)),(5,(vI z1.2)),(6,(vI s0_.2.2))]⟩) (O':=(Zx O n [some ⟨false,30,11,1,(Zm a0)⟩,none])) (n0:=(n+2)) ?_ ?_
   ·refine Yh ?_
    refine Zf ?_
    obtain ⟨x3,hx3,ax3,bx3,cx3,hz1⟩:=bE (f:=Yg) Zlg (fun _=>rfl) (by decide) hz1
    refine Zgu [] ax3 bx3 cx3 ?_
    refine zD [1,4,5,6,7] [true,true] ?_
    refine zQ [1,4,5,6,7,8] ?_
    obtain ⟨z4,hz4,hz1⟩:=bC hz1
    refine Y1 (E':=⟨48,[],[(1,.ref n 0),(4,(vI s0_.1)),(5,(vI s0_.2.1)),(6,(vI s0_.2.2)),(7,.ref (n+1) 0),(8,(vI z4))]⟩) (O':=(Zx O n [some ⟨false,30,11,1,(Zm a0)⟩,some ⟨false,89,14,1,(Xn x3)⟩])) (n0:=(n+2)) ?_ ?_
    ·refine zQ [1,4,5,6,7,8,29] ?_
     refine Zo (t:=(x3.Kind == 3)) rfl (fun c5 => ?_) (fun c5 => ?_)
     ·replace hz4:=Zq c5 hz4
      refine zR ?_
      exact Vh hz4
     replace hz4:=Zp c5 hz4
     refine zK ?_
     exact Vh hz4
    obtain ⟨z6,hz6,hz1⟩:=bC hz1
    refine Y1 (E':=⟨48,[],[(1,.ref n 0),(4,(vI z6)),(5,(vI s0_.2.1)),(6,(vI s0_.2.2)),(7,.ref (n+1) 0),(8,(vI z4))]⟩) (O':=(Zx O n [some ⟨false,30,11,1,(Zm a0)⟩,some ⟨false,89,14,1,(Xn x3)⟩])) (n0:=(n+2)) ?_ ?_
    ·refine zQ [1,4,5,6,7,8,32] ?_
     refine Zo (t:=(x3.Kind != 2)) rfl (fun c7 => ?_) (fun c7 => ?_)
     ·replace hz6:=Zq c7 hz6
      refine zR ?_
      exact Vh hz6
     replace hz6:=Zp c7 hz6
     refine zK ?_
     exact Vh hz6
    obtain ⟨z8,hz8,hz1⟩:=bC hz1
    refine Y1 (E':=⟨48,[],[(1,.ref n 0),(4,(vI z6)),(5,(vI z8)),(6,(vI s0_.2.2))]⟩) (O':=(Zx O n [some ⟨false,30,11,1,(Zm a0)⟩,none])) (n0:=(n+2)) ?_ ?_
    ·refine zQ [1,4,5,6,8,38] ?_
     refine Zo (t:=(x3.Kind != 1)) rfl (fun c9 => ?_) (fun c9 => ?_)
     ·replace hz8:=Zq c9 hz8
      refine zR ?_
      exact Vh hz8
     replace hz8:=Zp c9 hz8
     refine zK ?_
     exact Vh hz8
    obtain ⟨z10,hz10,hz1⟩:=bC hz1
    refine Y1 (E':=⟨48,[],[(1,.ref n 0),(4,(vI z10)),(5,(vI z8)),(6,(vI s0_.2.2))]⟩) (O':=(Zx O n [some ⟨false,30,11,1,(Zm a0)⟩,none])) (n0:=(n+2)) ?_ ?_
    ·refine zQ [1,4,5,6,43] ?_
     refine Zo (t:=(decide (1048576 < z6))) rfl (fun Jz => ?_) (fun Jz => ?_)
     ·replace hz10:=Zq Jz hz10
      refine zR ?_
      exact Vh hz10
     replace hz10:=Zp Jz hz10
     refine zK ?_
     exact Vh hz10
    refine zQ [1,4,5,6,45] ?_
    refine Zo (t:=(decide (1048576 < z8))) rfl (fun G9 => ?_) (fun G9 => ?_)
    ·replace hz1:=Zq G9 hz1
     refine zR ?_
     exact Vh hz1
    replace hz1:=Zp G9 hz1
    refine zK ?_
    exact Vh hz1
   refine zR ?_
   exact Vh hs0_
  replace hs0_:=Zp c13 hs0_
  exact zEx hs0_
 try simp only [Yv,Z9,↓reduceIte,Nat.reduceEqDiff]
 refine zD [4,5] [false] ?_
 refine zQ [2,3] ?_
 refine zW ?_
 obtain rfl:=sI h
 refine Zl (.inr rfl) hU [(vI z14.1),(vI z14.2)] (by omega) ?_
 simp only [push_cast,seval,↓reduceIte,Zd,Tryz.results71,hN0,hN]
def Zcg (Xo:(Zi→Int→Option Bool)):Prop:=∀ {a0:Zi} {a1:Int} {r:Bool} {O:Objs} {n:Nat},Xo a0 a1=some r→GTo Tryz.prog 26 [.agg (Zm a0),(vI a1)] O n ((vB r)) O n
def Zd4 (Qh:(Int→Ya→Int→Option Bool)):Prop:=∀ {a0:Int} {a1:Ya} {a2:Int} {r:Bool} {O:Objs} {n:Nat},Qh a0 a1 a2=some r→GTo Tryz.prog 70 [(vI a0),.agg (Xn a1),(vI a2)] O n ((vB r)) O n
theorem Zmg {Xo:(Zi→Int→Option Bool)} {Qh:(Int→Ya→Int→Option Bool)} (Zci:Zcg Xo) (Zhs:Zd4 Qh) {a0:Zi} {a1:Int} {r:Bool} {O:Objs} {n:Nat} (h:Gl Xo Qh a0 a1=some r):GTo Tryz.prog 26 [.agg (Zm a0),(vI a1)] O n ((vB r)) O n:=by
 unfold Gl at h
 refine Uw Zs Tryz.call26 Tryz.func26 rfl fun hU hN0 hN => ?_
 show W _ _ _ _ ⟨216,[],[(0,.agg (Zm a0)),(1,(vI a1))]⟩ (Zx O n []) _
 refine zQ [1,2] ?_
 refine Zf ?_
 refine zQD [1,2,24] [none,none,none,none,none,none] ?_
 refine Zo (t:=(cond (cond (a1 == 0) true (decide (a0.Kind < 0))) true (decide (3 < a0.Kind)))) rfl (fun c58 => ?_) (fun c58 => ?_)
 ·replace h:=Zq c58 h
  refine zQ [4] ?_
  refine zW ?_
  obtain rfl:=sI h
  refine Zl (.inr rfl) hU [(vB false)] (by omega) ?_
  simp only [push_cast,seval,↓reduceIte,Zd,Tryz.results26,hN0,hN]
 replace h:=Zp c58 h
 refine Xs [1,2] [true] ?_
 refine Zf ?_
 obtain ⟨z3,hz3,h⟩:=bC h
 refine Y1 (E':=⟨216,[],[(1,(vI a1)),(2,.ref n 0),(69,(vB z3))]⟩) (O':=(Zx O n [some ⟨false,30,11,1,(Zm a0)⟩])) (n0:=(n+1)) ?_ ?_
 ·rcases Bool.eq_false_or_eq_true (a0.Kind != 1) with c8 | c8
  ·replace hz3:=Zq c8 hz3
   obtain ⟨y6,hy6,hz3⟩:=bC hz3
   rcases Bool.eq_false_or_eq_true y6 with c9 | c9
   ·replace hz3:=Zq c9 hz3
    try rw [c9] at c8
    obtain ⟨y7,hy7,hz3⟩:=bC hz3
    refine Vq (Ydo (Yk1 [])) c8 c9 ?_
    refine zG ?_
    refine (V4 hy6).then ?_
    refine zX2 c8 c9 ?_
    refine zG ?_
    refine (V4 hy7).then ?_
    refine zX2 c8 c9 ?_
    refine zG ?_
    exact Zgf hz3 c8 c9
   replace hz3:=Zp c9 hz3
   try rw [c9] at c8
   refine Vq (Zx8 (Z6y (Uj::Uj::Yky []))) c8 c9 ?_
   refine (V4 hy6).then ?_
   refine zX2 c8 c9 ?_
   exact Zgf hz3 c8 c9
  replace hz3:=Zp c8 hz3
  refine Vi (Z0n (Zx8 (Zi3 (Uj::Ykz [])))) c8 ?_
  refine zG ?_
  exact Ju hz3 c8
 refine Zo (t:=z3) rfl (fun c57 => ?_) (fun c57 => ?_)
 ·replace h:=Zq c57 h
  refine zQ [4] ?_
  refine zW ?_
  obtain rfl:=sI h
  refine Zl (.inr rfl) hU [(vB false)] (by omega) ?_
  simp only [push_cast,seval,↓reduceIte,Zd,Tryz.results26,hN0,hN]
 replace h:=Zp c57 h
 refine Xs [1,2] [true] ?_
 refine Zf ?_
 refine zQ [1,2,72] ?_
 refine Zo (t:=(a0.Kind == 1)) rfl (fun c56 => ?_) (fun c56 => ?_)
 ·replace h:=Zq c56 h
  obtain ⟨z12,hz12,h⟩:=bC h
  refine Y1 (E':=⟨216,[],[(4,(vB z12))]⟩) (O':=(Zx O n [none])) (n0:=(n+1)) ?_ ?_
  ·obtain ⟨y15,hy15,hz12⟩:=bC hz12
   rcases Bool.eq_false_or_eq_true y15 with c17 | c17
   ·replace hz12:=Zq c17 hz12
    obtain ⟨y16,hy16,hz12⟩:=bC hz12
    refine Vi (Z0p (Zi3 [])) c17 ?_
    refine zG ?_
    refine (Zba hy15).then ?_
    refine zX1 c17 ?_
    refine zG ?_
    refine (Zba hy16).then ?_
    refine zX1 c17 ?_
    refine zG ?_
    exact Ju hz12 c17
   replace hz12:=Zp c17 hz12
   refine Vi (Yhp []) c17 ?_
   refine (Zba hy15).then ?_
   refine zX1 c17 ?_
   exact Ju hz12 c17
  refine zW ?_
  obtain rfl:=sI h
  refine Zl (.inr rfl) hU [(vB z12)] (by omega) ?_
  simp only [push_cast,seval,↓reduceIte,Zd,Tryz.results26,hN0,hN]
 replace h:=Zp c56 h
 refine Xs [1,2] [true] ?_
 refine zQ [1,2,5] ?_
 refine Zf ?_
 refine zQd [1,2,5,6] [1,2,5,6] [true] ?_
 obtain ⟨z33,hz33,h⟩:=bC h
 refine Ut (J:=(Xg (fun z33=>JR n (⟨216,[],[(4,(vB false))]⟩:Env) (Zx O n [none]) (n+1)) (fun z33=>JX 0 n (⟨216,[],[(1,(vI a1)),(2,.ref n 0)]⟩:Env) (Zx O n [some ⟨false,30,11,1,(Zm a0)⟩]) (n+1)))) (z:=z33) ?_ fun hw => ?_
 ·refine Xd hz33 (fun s0_=>⟨216,[],[(1,(vI a1)),(2,.ref n 0),(5,(vI s0_.1)),(6,(vI s0_.2))]⟩) (fun s0_=>(Zx O n [some ⟨false,30,11,1,(Zm a0)⟩])) (Xg (fun z33=>JR n (⟨216,[],[(4,(vB false))]⟩:Env) (Zx O n [none]) (n+1)) (fun z33=>JX 0 n (⟨216,[],[(1,(vI a1)),(2,.ref n 0)]⟩:Env) (Zx O n [some ⟨false,30,11,1,(Zm a0)⟩]) (n+1))) ?_
  intro s0_ x0_ hs0_
  unfold Kb at hs0_
  try dsimp only
  refine Zf ?_
  refine zQ [1,2,5,6,97] ?_
  refine Zo (t:=(decide (s0_.2 < (a0.Words.length:Int)))) rfl (fun c32 => ?_) (fun c32 => ?_)
  ·replace hs0_:=Zq c32 hs0_
   refine Xs [1,2,5,6] [true] ?_
   refine Zf ?_
   refine Yh ?_
   refine Zf ?_
   obtain ⟨x19,hx19,ax19,bx19,cx19,hs0_⟩:=bE (f:=Zu) Zn3 (fun _=>rfl) (by decide) hs0_
   refine Zgu [] ax19 bx19 cx19 ?_
   refine zDs [1,2,5,6,7] [true,true] ?_
   obtain ⟨z22,hz22,hs0_⟩:=bC hs0_
   refine Y1 (E':=⟨216,[],[(1,(vI a1)),(2,.ref n 0),(6,(vI s0_.2)),(7,.ref (n+1) 0),(134,(vB z22))]⟩) (O':=(Zx O n [some ⟨false,30,11,1,(Zm a0)⟩,some ⟨false,84,4,1,(Jv x19)⟩])) (n0:=(n+2)) ?_ ?_
   ·rcases Bool.eq_false_or_eq_true (decide (x19.At≤s0_.1)) with c27 | c27
    ·replace hz22:=Zq c27 hz22
     refine Vi (Zsr (Zpp [])) c27 ?_
     refine zG ?_
     exact Ju hz22 c27
    replace hz22:=Zp c27 hz22
    rcases Bool.eq_false_or_eq_true (decide (65534 < x19.At)) with c28 | c28
    ·replace hz22:=Zq c28 hz22
     try rw [c28] at c27
     refine Vq (Zsr (Zpp [])) c27 c28 ?_
     refine zG ?_
     exact Zgf hz22 c27 c28
    replace hz22:=Zp c28 hz22
    try rw [c28] at c27
    rcases Bool.eq_false_or_eq_true (x19.Mask == 0) with c29 | c29
    ·replace hz22:=Zq c29 hz22
     try rw [c29] at c27
     try rw [c29] at c28
     refine Za0 (Zsr (Zpp [])) c27 c28 c29 ?_
     refine zG ?_
     exact Ze6 hz22 c27 c28 c29
    replace hz22:=Zp c29 hz22
    try rw [c29] at c27
    try rw [c29] at c28
    obtain ⟨y25,hy25,hz22⟩:=bC hz22
    rcases Bool.eq_false_or_eq_true y25 with c30 | c30
    ·replace hz22:=Zq c30 hz22
     try rw [c30] at c27
     try rw [c30] at c28
     try rw [c30] at c29
     obtain ⟨y26,hy26,hz22⟩:=bC hz22
     refine Zty (Zsr (Z4z [])) c27 c28 c29 c30 ?_
     refine zG ?_
     refine (Zc2 hy25).then ?_
     refine zX4 c27 c28 c29 c30 ?_
     refine zG ?_
     refine (Zc2 hy26).then ?_
     refine zX4 c27 c28 c29 c30 ?_
     refine zG ?_
     exact Zzn hz22 c27 c28 c29 c30
    replace hz22:=Zp c30 hz22
    try rw [c30] at c27
    try rw [c30] at c28
    try rw [c30] at c29
    refine Zty (Zsr (Z40 (Z4y []))) c27 c28 c29 c30 ?_
    refine zG ?_
    refine (Zc2 hy25).then ?_
    refine zX4 c27 c28 c29 c30 ?_
    refine zG ?_
    exact Zzn hz22 c27 c28 c29 c30
   refine Zo (t:=z22) rfl (fun c31 => ?_) (fun c31 => ?_)
   ·replace hs0_:=Zq c31 hs0_
    refine zQ [4] ?_
    refine zW ?_
    exact zEy hs0_
   replace hs0_:=Zp c31 hs0_
   refine Xs [1,2,6,7] [true,true] ?_
   refine Gi [1,2,5,6] [true,false] ?_
   refine zR ?_
   exact Vh hs0_
  replace hs0_:=Zp c32 hs0_
  exact zEx hs0_
 rcases z33 with z33 | z33
 ·dsimp only [Xg] at hw h
  refine Q1 hw ?_
  try simp only [Yv,Z9,↓reduceIte,Nat.reduceEqDiff]
  obtain rfl:=sI h
  refine Zl (.inr rfl) hU [(vB false)] (by omega) ?_
  simp only [push_cast,seval,↓reduceIte,Zd,Tryz.results26,hN0,hN]
 dsimp only [Xg] at hw h
 refine Yn hw ?_
 try simp only [Yv,Z9,↓reduceIte,Nat.reduceEqDiff]
 refine zD [1,2] [true] ?_
 refine zQ [1,2,5] ?_
 refine Zf ?_
 refine zQd [1,2,5,8] [1,2,5,8] [true] ?_
 obtain ⟨z45,hz45,h⟩:=bC h
 refine Ut (J:=(Xg (fun z45=>JR n (⟨216,[],[(4,(vB false))]⟩:Env) (Zx O n [none]) (n+1)) (fun z45=>JX 2 n (⟨216,[],[(1,(vI a1)),(2,.ref n 0)]⟩:Env) (Zx O n [some ⟨false,30,11,1,(Zm a0)⟩]) (n+1)))) (z:=z45) ?_ fun hw => ?_
 ·refine Xd hz45 (fun s1_=>⟨216,[],[(1,(vI a1)),(2,.ref n 0),(5,(vI s1_.1)),(8,(vI s1_.2))]⟩) (fun s1_=>(Zx O n [some ⟨false,30,11,1,(Zm a0)⟩])) (Xg (fun z45=>JR n (⟨216,[],[(4,(vB false))]⟩:Env) (Zx O n [none]) (n+1)) (fun z45=>JX 2 n (⟨216,[],[(1,(vI a1)),(2,.ref n 0)]⟩:Env) (Zx O n [some ⟨false,30,11,1,(Zm a0)⟩]) (n+1))) ?_
  intro s1_ x1_ hs1_
  unfold Kc at hs1_
  try dsimp only
  refine Zf ?_
  refine zQ [1,2,5,8,141] ?_
  refine Zo (t:=(decide (s1_.2 < (a0.Kids.length:Int)))) rfl (fun c44 => ?_) (fun c44 => ?_)
  ·replace hs1_:=Zq c44 hs1_
   refine Xs [1,2,5,8] [true] ?_
   refine Zf ?_
   refine Yh ?_
   refine Zf ?_
   obtain ⟨x35,hx35,ax35,bx35,cx35,hs1_⟩:=bE (f:=Zr) Zh6 (fun _=>rfl) (by decide) hs1_
   refine Zgu [] ax35 bx35 cx35 ?_
   refine zDs [1,2,5,8,9] [true,true] ?_
   obtain ⟨z37,hz37,hs1_⟩:=bC hs1_
   refine Y1 (E':=⟨216,[],[(1,(vI a1)),(2,.ref n 0),(8,(vI s1_.2)),(9,.ref (n+1) 0),(171,(vB z37))]⟩) (O':=(Zx O n [some ⟨false,30,11,1,(Zm a0)⟩,some ⟨false,86,12,1,(Q2 x35)⟩])) (n0:=(n+2)) ?_ ?_
   ·rcases Bool.eq_false_or_eq_true (decide (x35.At≤s1_.1)) with c40 | c40
    ·replace hz37:=Zq c40 hz37
     refine Vi (Z0o (Z4y [])) c40 ?_
     refine zG ?_
     exact Ju hz37 c40
    replace hz37:=Zp c40 hz37
    rcases Bool.eq_false_or_eq_true (decide (65534 < x35.At)) with c41 | c41
    ·replace hz37:=Zq c41 hz37
     try rw [c41] at c40
     refine Vq (Z0o (Z4y [])) c40 c41 ?_
     refine zG ?_
     exact Zgf hz37 c40 c41
    replace hz37:=Zp c41 hz37
    try rw [c41] at c40
    rcases Bool.eq_false_or_eq_true (x35.E.Kind == 0) with c42 | c42
    ·replace hz37:=Zq c42 hz37
     try rw [c42] at c40
     try rw [c42] at c41
     refine Za0 (Z0o (Z4y [])) c40 c41 c42 ?_
     refine zG ?_
     exact Ze6 hz37 c40 c41 c42
    replace hz37:=Zp c42 hz37
    try rw [c42] at c40
    try rw [c42] at c41
    obtain ⟨y39,hy39,hz37⟩:=bC hz37
    refine Za0 (Z0o (Z40 [])) c40 c41 c42 ?_
    refine zG ?_
    refine (Zci hy39).then ?_
    refine zX3 c40 c41 c42 ?_
    refine zG ?_
    exact Ze6 hz37 c40 c41 c42
   refine Zo (t:=z37) rfl (fun c43 => ?_) (fun c43 => ?_)
   ·replace hs1_:=Zq c43 hs1_
    refine zQ [4] ?_
    refine zW ?_
    exact zEy hs1_
   replace hs1_:=Zp c43 hs1_
   refine Xs [1,2,8,9] [true,true] ?_
   refine Gi [1,2,5,8] [true,false] ?_
   refine zR ?_
   exact Vh hs1_
  replace hs1_:=Zp c44 hs1_
  exact zEx hs1_
 rcases z45 with z45 | z45
 ·dsimp only [Xg] at hw h
  refine Q1 hw ?_
  try simp only [Yv,Z9,↓reduceIte,Nat.reduceEqDiff]
  obtain rfl:=sI h
  refine Zl (.inr rfl) hU [(vB false)] (by omega) ?_
  simp only [push_cast,seval,↓reduceIte,Zd,Tryz.results26,hN0,hN]
 dsimp only [Xg] at hw h
 refine Yn hw ?_
 try simp only [Yv,Z9,↓reduceIte,Nat.reduceEqDiff]
 refine zDs [1,2] [true] ?_
 refine zQD [1,2,186] [none,none,none,none,none,none,none,none] ?_
 refine Zo (t:=(cond (a0.Kind == 3) (cond (decide (a0.List_ < 2)) true (decide (9 < a0.List_))) false)) rfl (fun c55 => ?_) (fun c55 => ?_)
 ·replace h:=Zq c55 h
  refine zQ [4] ?_
  refine zW ?_
  obtain rfl:=sI h
  refine Zl (.inr rfl) hU [(vB false)] (by omega) ?_
  simp only [push_cast,seval,↓reduceIte,Zd,Tryz.results26,hN0,hN]
 replace h:=Zp c55 h
 refine Xs [1,2] [true] ?_
 refine Zf ?_
 refine zQd [1,2,10] [1,2,10] [true] ?_
 obtain ⟨z52,hz52,h⟩:=bC h
 refine Ut (J:=(Xg (fun z52=>JR n (⟨216,[],[(4,(vB false))]⟩:Env) (Zx O n [none]) (n+1)) (fun z52=>JX 4 n (⟨216,[],[(2,.ref n 0)]⟩:Env) (Zx O n [some ⟨false,30,11,1,(Zm a0)⟩]) (n+1)))) (z:=z52) ?_ fun hw => ?_
 ·refine Xd hz52 (fun s2_=>⟨216,[],[(1,(vI a1)),(2,.ref n 0),(10,(vI s2_))]⟩) (fun s2_=>(Zx O n [some ⟨false,30,11,1,(Zm a0)⟩])) (Xg (fun z52=>JR n (⟨216,[],[(4,(vB false))]⟩:Env) (Zx O n [none]) (n+1)) (fun z52=>JX 4 n (⟨216,[],[(2,.ref n 0)]⟩:Env) (Zx O n [some ⟨false,30,11,1,(Zm a0)⟩]) (n+1))) ?_
  intro s2_ x2_ hs2_
  unfold Jd at hs2_
  try dsimp only
  refine Zf ?_
  refine zQ [1,2,10,191] ?_
  refine Zo (t:=(decide (s2_ < (a0.Ops.length:Int)))) rfl (fun c51 => ?_) (fun c51 => ?_)
  ·replace hs2_:=Zq c51 hs2_
   refine Xs [1,2,10] [true] ?_
   refine Zf ?_
   refine Yh ?_
   refine Zf ?_
   obtain ⟨x48,hx48,ax48,bx48,cx48,hs2_⟩:=bE (f:=Yg) Zlg (fun _=>rfl) (by decide) hs2_
   obtain ⟨y49,hy49,hs2_⟩:=bC hs2_
   refine Xl Zs (by kernel_rfl) [] (by kernel_rfl) ?_
   refine zF3 ax48 bx48 cx48 ?_
   refine PCall.of (Zhs hy49) ?_
   refine zF3 ax48 bx48 cx48 ?_
   refine zD [1,2,10,204] [true] ?_
   refine Zo (t:=(!y49)) rfl (fun c50 => ?_) (fun c50 => ?_)
   ·replace hs2_:=Zq c50 hs2_
    refine zQ [4] ?_
    refine zW ?_
    exact zEy hs2_
   replace hs2_:=Zp c50 hs2_
   refine Xs [1,2,10] [true] ?_
   refine zR ?_
   exact Vh hs2_
  replace hs2_:=Zp c51 hs2_
  exact zEx hs2_
 rcases z52 with z52 | z52
 ·dsimp only [Xg] at hw h
  refine Q1 hw ?_
  try simp only [Yv,Z9,↓reduceIte,Nat.reduceEqDiff]
  obtain rfl:=sI h
  refine Zl (.inr rfl) hU [(vB false)] (by omega) ?_
  simp only [push_cast,seval,↓reduceIte,Zd,Tryz.results26,hN0,hN]
 dsimp only [Xg] at hw h
 refine Yn hw ?_
 try simp only [Yv,Z9,↓reduceIte,Nat.reduceEqDiff]
 refine zDs [2] [true] ?_
 obtain ⟨y54,hy54,h⟩:=bC h
 refine zCd (Zfb hy54) [11,12] [false] ?_
 refine zQD [4] [none,none] ?_
 refine zW ?_
 obtain rfl:=sI h
 refine Zl (.inr rfl) hU [(vB (cond (decide (y54.1 < 1048576)) (decide (y54.2 < 1048576)) false))] (by omega) ?_
 simp only [push_cast,seval,↓reduceIte,Zd,Tryz.results26,hN0,hN]
theorem Zpw {Xo:(Zi→Int→Option Bool)} {Qh:(Int→Ya→Int→Option Bool)} (Zci:Zcg Xo) (Zhs:Zd4 Qh) {a0:Int} {a1:Ya} {a2:Int} {r:Bool} {O:Objs} {n:Nat} (h:Zb5 Xo Qh a0 a1 a2=some r):GTo Tryz.prog 70 [(vI a0),.agg (Xn a1),(vI a2)] O n ((vB r)) O n:=by
 unfold Zb5 at h
 refine Uw Zs Tryz.call70 Tryz.func70 rfl fun hU hN0 hN => ?_
 show W _ _ _ _ ⟨121,[],[(0,(vI a0)),(1,.agg (Xn a1)),(2,(vI a2))]⟩ (Zx O n []) _
 refine zQ [0,2,4] ?_
 refine Zf ?_
 refine zQ [0,2,4,10] ?_
 refine Zo (t:=(a1.Kind == 0)) rfl (fun c30 => ?_) (fun c30 => ?_)
 ·replace h:=Zq c30 h
  obtain ⟨z2,hz2,h⟩:=bC h
  refine Y1 (E':=⟨121,[],[(6,(vB z2))]⟩) (O':=(Zx O n [none])) (n0:=(n+1)) ?_ ?_
  ·rcases Bool.eq_false_or_eq_true (decide (1≤a1.N)) with c5 | c5
   ·replace hz2:=Zq c5 hz2
    rcases Bool.eq_false_or_eq_true (decide (a1.N≤1048576)) with c6 | c6
    ·replace hz2:=Zq c6 hz2
     try rw [c6] at c5
     rcases Bool.eq_false_or_eq_true ((a1.L.length:Int) == 0) with c7 | c7
     ·replace hz2:=Zq c7 hz2
      try rw [c7] at c5
      try rw [c7] at c6
      obtain ⟨y4,hy4,hz2⟩:=bC hz2
      refine Za0 (Z0o (Z0p [])) c5 c6 c7 ?_
      refine zG ?_
      refine (Zhr hy4).then ?_
      refine zX3 c5 c6 c7 ?_
      refine zG ?_
      exact Ze6 hz2 c5 c6 c7
     replace hz2:=Zp c7 hz2
     try rw [c7] at c5
     try rw [c7] at c6
     refine Za0 (Z0o (Z6y [])) c5 c6 c7 ?_
     refine zG ?_
     exact Ze6 hz2 c5 c6 c7
    replace hz2:=Zp c6 hz2
    try rw [c6] at c5
    refine Vq (Z0o (Z6y [])) c5 c6 ?_
    refine zG ?_
    exact Zgf hz2 c5 c6
   replace hz2:=Zp c5 hz2
   refine Vi (Z0o (Z6y [])) c5 ?_
   refine zG ?_
   exact Ju hz2 c5
  refine zW ?_
  obtain rfl:=sI h
  refine Zl (.inr rfl) hU [(vB z2)] (by omega) ?_
  simp only [push_cast,seval,↓reduceIte,Zd,Tryz.results70,hN0,hN]
 replace h:=Zp c30 h
 refine Xs [0,2,4] [true] ?_
 refine Zf ?_
 refine zQD [0,2,4,42] [none,none,none,none,none,none] ?_
 refine Zo (t:=(cond (cond (a1.N != 0) true (decide (a1.Kind < 0))) true (decide (3 < a1.Kind)))) rfl (fun c29 => ?_) (fun c29 => ?_)
 ·replace h:=Zq c29 h
  refine zQ [6] ?_
  refine zW ?_
  obtain rfl:=sI h
  refine Zl (.inr rfl) hU [(vB false)] (by omega) ?_
  simp only [push_cast,seval,↓reduceIte,Zd,Tryz.results70,hN0,hN]
 replace h:=Zp c29 h
 refine Xs [0,2,4] [true] ?_
 refine Zf ?_
 refine zQ [0,2,4,45] ?_
 refine Zo (t:=(decide (a1.Kind < 3))) rfl (fun c28 => ?_) (fun c28 => ?_)
 ·replace h:=Zq c28 h
  refine Zf ?_
  refine zQd [0,4,7] [0,4,7] [true] ?_
  obtain ⟨z14,hz14,h⟩:=bC h
  refine Ut (J:=(Xg (fun z14=>JR n (⟨121,[],[(6,(vB false))]⟩:Env) (Zx O n [none]) (n+1)) (fun z14=>JX 0 n (⟨121,[],[(4,.ref n 0)]⟩:Env) (Zx O n [some ⟨false,89,14,1,(Xn a1)⟩]) (n+1)))) (z:=z14) ?_ fun hw => ?_
  ·refine Xd hz14 (fun s0_=>⟨121,[],[(0,(vI a0)),(4,.ref n 0),(7,(vI s0_))]⟩) (fun s0_=>(Zx O n [some ⟨false,89,14,1,(Xn a1)⟩])) (Xg (fun z14=>JR n (⟨121,[],[(6,(vB false))]⟩:Env) (Zx O n [none]) (n+1)) (fun z14=>JX 0 n (⟨121,[],[(4,.ref n 0)]⟩:Env) (Zx O n [some ⟨false,89,14,1,(Xn a1)⟩]) (n+1))) ?_
   intro s0_ x0_ hs0_
   unfold Gm at hs0_
   try dsimp only
   refine Zf ?_
   refine zQ [0,4,7,50] ?_
   refine Zo (t:=(decide (s0_ < (a1.L.length:Int)))) rfl (fun c13 => ?_) (fun c13 => ?_)
   ·replace hs0_:=Zq c13 hs0_
    refine Xs [0,4,7] [true] ?_
    refine Zf ?_
    refine Yh ?_
    refine Zf ?_
    obtain ⟨l10,al10,bl10,cl10,gl10,hs0_⟩:=bS (lo:=(some (.i64,s0_))) (hi:=(some (.i64,(IntKind.i64.wrap (s0_+1))))) (f:=Zc) rfl rfl Zk8 Zcc (fun _=>rfl) hs0_
    obtain ⟨y11,hy11,hs0_⟩:=bC hs0_
    refine Zty [] al10 bl10 cl10 gl10 ?_
    refine GCalls.argsW ?_ ((Zba hy11).then ?_)
    ·exact Yke al10 bl10 cl10 gl10
    refine zX4 al10 bl10 cl10 gl10 ?_
    refine zD [0,4,7,62] [true] ?_
    refine Zo (t:=(!y11)) rfl (fun G9 => ?_) (fun G9 => ?_)
    ·replace hs0_:=Zq G9 hs0_
     refine zQ [6] ?_
     refine zW ?_
     exact zEy hs0_
    replace hs0_:=Zp G9 hs0_
    refine Xs [0,4,7] [true] ?_
    refine zR ?_
    exact Vh hs0_
   replace hs0_:=Zp c13 hs0_
   exact zEx hs0_
  rcases z14 with z14 | z14
  ·dsimp only [Xg] at hw h
   refine Q1 hw ?_
   try simp only [Yv,Z9,↓reduceIte,Nat.reduceEqDiff]
   obtain rfl:=sI h
   refine Zl (.inr rfl) hU [(vB false)] (by omega) ?_
   simp only [push_cast,seval,↓reduceIte,Zd,Tryz.results70,hN0,hN]
  dsimp only [Xg] at hw h
  refine Yn hw ?_
  try simp only [Yv,Z9,↓reduceIte,Nat.reduceEqDiff]
  refine zD [4] [true] ?_
  obtain ⟨z16,hz16,h⟩:=bC h
  refine Y1 (E':=⟨121,[],[(6,(vB z16))]⟩) (O':=(Zx O n [none])) (n0:=(n+1)) ?_ ?_
  ·rcases Bool.eq_false_or_eq_true (decide (0 < (a1.L.length:Int))) with c19 | c19
   ·replace hz16:=Zq c19 hz16
    obtain ⟨y18,hy18,hz16⟩:=bC hz16
    refine Vi (Z0p []) c19 ?_
    refine (Zhr hy18).then ?_
    refine zX1 c19 ?_
    exact Ju hz16 c19
   replace hz16:=Zp c19 hz16
   refine Vi (Z6y []) c19 ?_
   exact Ju hz16 c19
  refine zW ?_
  obtain rfl:=sI h
  refine Zl (.inr rfl) hU [(vB z16)] (by omega) ?_
  simp only [push_cast,seval,↓reduceIte,Zd,Tryz.results70,hN0,hN]
 replace h:=Zp c28 h
 refine Xs [0,2,4] [true] ?_
 refine Zf ?_
 obtain ⟨z21,hz21,h⟩:=bC h
 refine Y1 (E':=⟨121,[],[(0,(vI a0)),(4,.ref n 0),(92,(vB z21))]⟩) (O':=(Zx O n [some ⟨false,89,14,1,(Xn a1)⟩])) (n0:=(n+1)) ?_ ?_
 ·rcases Bool.eq_false_or_eq_true (decide (0 < (a1.L.length:Int))) with c24 | c24
  ·replace hz21:=Zq c24 hz21
   refine Vi (Zsr (Yf3 [])) c24 ?_
   refine zG ?_
   exact Ju hz21 c24
  replace hz21:=Zp c24 hz21
  rcases Bool.eq_false_or_eq_true (a1.E.Kind == 0) with c25 | c25
  ·replace hz21:=Zq c25 hz21
   try rw [c25] at c24
   refine Vq (Zsr (Yf3 [])) c24 c25 ?_
   refine zG ?_
   exact Zgf hz21 c24 c25
  replace hz21:=Zp c25 hz21
  try rw [c25] at c24
  rcases Bool.eq_false_or_eq_true (decide (a0≤7)) with c26 | c26
  ·replace hz21:=Zq c26 hz21
   try rw [c26] at c24
   try rw [c26] at c25
   refine Za0 (Zsr (Yf3 [])) c24 c25 c26 ?_
   refine zG ?_
   exact Ze6 hz21 c24 c25 c26
  replace hz21:=Zp c26 hz21
  try rw [c26] at c24
  try rw [c26] at c25
  obtain ⟨y23,hy23,hz21⟩:=bC hz21
  refine Za0 (Zsr (Yjz [])) c24 c25 c26 ?_
  refine zG ?_
  refine (Zci hy23).then ?_
  refine zX3 c24 c25 c26 ?_
  refine zG ?_
  exact Ze6 hz21 c24 c25 c26
 refine Zo (t:=z21) rfl (fun c27 => ?_) (fun c27 => ?_)
 ·replace h:=Zq c27 h
  refine zQ [6] ?_
  refine zW ?_
  obtain rfl:=sI h
  refine Zl (.inr rfl) hU [(vB false)] (by omega) ?_
  simp only [push_cast,seval,↓reduceIte,Zd,Tryz.results70,hN0,hN]
 replace h:=Zp c27 h
 refine Xs [0,4] [true] ?_
 refine zQD [6] [none,none,none,none,none,none,none,none,none,none,none,none,none,none,none,none,none,none,none,none,none,none] ?_
 refine zW ?_
 obtain rfl:=sI h
 refine Zl (.inr rfl) hU [(vB (cond (cond (a0 == 8) true (a1.E.Kind == 2)) true (cond (cond (a1.E.Kind == 1) (a1.E.Old.Kind == 1) false) (a1.E.New.Kind == 1) false)))] (by omega) ?_
 simp only [push_cast,seval,↓reduceIte,Zd,Tryz.results70,hN0,hN]
theorem Zko:∀ k,(Zcg ((Yu k).1))∧(Zd4 ((Yu k).2)):=fun k=>by
 induction k with
 | zero=>exact ⟨@fun a0 a1 r O n h=>(nomatch (show (none:Option _)=some _ from h)),@fun a0 a1 a2 r O n h=>(nomatch (show (none:Option _)=some _ from h))⟩
 | succ k ih=>exact ⟨@fun a0 a1 r O n h=>Zmg (ih.1) (ih.2)  h,@fun a0 a1 a2 r O n h=>Zpw (ih.1) (ih.2)  h⟩
theorem Zgr {a0:Zi} {a1:Int} {r:Bool} {O:Objs} {n:Nat} (h:Zd3 a0 a1=some r):GTo Tryz.prog 26 [.agg (Zm a0),(vI a1)] O n ((vB r)) O n:=by
 obtain ⟨k,hk⟩:=Zbg h
 exact (Zko k).1  hk
def Ze9 (Xx:(Zi→Option Bool)):Prop:=∀ {a0:Zi} {r:Bool} {O:Objs} {n:Nat},Xx a0=some r→GTo Tryz.prog 27 [.agg (Zm a0)] O n ((vB r)) O n
theorem Zmf {Xx:(Zi→Option Bool)} (Zfc:Ze9 Xx) {a0:Zi} {r:Bool} {O:Objs} {n:Nat} (h:Gk Xx a0=some r):GTo Tryz.prog 27 [.agg (Zm a0)] O n ((vB r)) O n:=by
 unfold Gk at h
 refine Uw Zs Tryz.call27 Tryz.func27 rfl fun hU hN0 hN => ?_
 show W _ _ _ _ ⟨48,[],[(0,.agg (Zm a0))]⟩ (Zx O n []) _
 refine zQ [1] ?_
 refine Zf ?_
 obtain ⟨y2,hy2,h⟩:=bC h
 refine zCd (Zfb hy2) [1,3,4] [true] ?_
 refine Zf ?_
 refine zQD [1,17] [none,none] ?_
 refine Zo (t:=(cond (decide (2000 < y2.1)) true (decide (2000 < y2.2)))) rfl (fun c21 => ?_) (fun c21 => ?_)
 ·replace h:=Zq c21 h
  refine zQ [2] ?_
  refine zW ?_
  obtain rfl:=sI h
  refine Zl (.inr rfl) hU [(vB false)] (by omega) ?_
  simp only [push_cast,seval,↓reduceIte,Zd,Tryz.results27,hN0,hN]
 replace h:=Zp c21 h
 refine Xs [1] [true] ?_
 refine Zf ?_
 refine zQd [1,5] [1,5] [true] ?_
 obtain ⟨z11,hz11,h⟩:=bC h
 refine Ut (J:=(Xg (fun z11=>JR n (⟨48,[],[(2,(vB false))]⟩:Env) (Zx O n [none]) (n+1)) (fun z11=>JX 0 n (⟨48,[],[(1,.ref n 0)]⟩:Env) (Zx O n [some ⟨false,30,11,1,(Zm a0)⟩]) (n+1)))) (z:=z11) ?_ fun hw => ?_
 ·refine Xd hz11 (fun s0_=>⟨48,[],[(1,.ref n 0),(5,(vI s0_))]⟩) (fun s0_=>(Zx O n [some ⟨false,30,11,1,(Zm a0)⟩])) (Xg (fun z11=>JR n (⟨48,[],[(2,(vB false))]⟩:Env) (Zx O n [none]) (n+1)) (fun z11=>JX 0 n (⟨48,[],[(1,.ref n 0)]⟩:Env) (Zx O n [some ⟨false,30,11,1,(Zm a0)⟩]) (n+1))) ?_
  intro s0_ x0_ hs0_
  unfold Vt at hs0_
  try dsimp only
  refine Zf ?_
  refine zQ [1,5,22] ?_
  refine Zo (t:=(decide (s0_ < (a0.Kids.length:Int)))) rfl (fun c10 => ?_) (fun c10 => ?_)
  ·replace hs0_:=Zq c10 hs0_
   refine Xs [1,5] [true] ?_
   refine Zf ?_
   refine Yh ?_
   refine Zf ?_
   obtain ⟨x6,hx6,ax6,bx6,cx6,hs0_⟩:=bE (f:=Zr) Zh6 (fun _=>rfl) (by decide) hs0_
   have g7:=Zdb (f:=Zr) (off:=1) (sz:=12) Zn2 (fun _=>rfl) (by decide) (by decide) hx6
   obtain ⟨y8,hy8,hs0_⟩:=bC hs0_
   refine Zj4 [] ax6 bx6 cx6 g7 ?_
   refine (Zfc hy8).then ?_
   refine zF4 ax6 bx6 cx6 g7 ?_
   refine zD [1,5,32] [true] ?_
   refine Zo (t:=(!y8)) rfl (fun c9 => ?_) (fun c9 => ?_)
   ·replace hs0_:=Zq c9 hs0_
    refine zQ [2] ?_
    refine zW ?_
    exact zEy hs0_
   replace hs0_:=Zp c9 hs0_
   refine Xs [1,5] [true] ?_
   refine zR ?_
   exact Vh hs0_
  replace hs0_:=Zp c10 hs0_
  exact zEx hs0_
 rcases z11 with z11 | z11
 ·dsimp only [Xg] at hw h
  refine Q1 hw ?_
  try simp only [Yv,Z9,↓reduceIte,Nat.reduceEqDiff]
  obtain rfl:=sI h
  refine Zl (.inr rfl) hU [(vB false)] (by omega) ?_
  simp only [push_cast,seval,↓reduceIte,Zd,Tryz.results27,hN0,hN]
 dsimp only [Xg] at hw h
 refine Yn hw ?_
 try simp only [Yv,Z9,↓reduceIte,Nat.reduceEqDiff]
 refine zDs [1] [true] ?_
 refine zQd [1,6] [1,6] [true] ?_
 obtain ⟨z20,hz20,h⟩:=bC h
 refine Ut (J:=(Xg (fun z20=>JR n (⟨48,[],[(2,(vB false))]⟩:Env) (Zx O n [none]) (n+1)) (fun z20=>JX 2 n (⟨48,[],[]⟩:Env) (Zx O n [none]) (n+1)))) (z:=z20) ?_ fun hw => ?_
 ·refine Xd hz20 (fun s1_=>⟨48,[],[(1,.ref n 0),(6,(vI s1_))]⟩) (fun s1_=>(Zx O n [some ⟨false,30,11,1,(Zm a0)⟩])) (Xg (fun z20=>JR n (⟨48,[],[(2,(vB false))]⟩:Env) (Zx O n [none]) (n+1)) (fun z20=>JX 2 n (⟨48,[],[]⟩:Env) (Zx O n [none]) (n+1))) ?_
  intro s1_ x1_ hs1_
  unfold Vu at hs1_
  try dsimp only
  refine Zf ?_
  refine zQ [1,6,37] ?_
  refine Zo (t:=(decide (s1_ < (a0.Ops.length:Int)))) rfl (fun c19 => ?_) (fun c19 => ?_)
  ·replace hs1_:=Zq c19 hs1_
   refine Xs [1,6] [true] ?_
   refine Zf ?_
   refine Yh ?_
   refine Zf ?_
   obtain ⟨x15,hx15,ax15,bx15,cx15,hs1_⟩:=bE (f:=Yg) Zlg (fun _=>rfl) (by decide) hs1_
   have g16:=Zdb (f:=Yg) (off:=3) (sz:=14) Zn2 (fun _=>rfl) (by decide) (by decide) hx15
   obtain ⟨y17,hy17,hs1_⟩:=bC hs1_
   refine Zj4 [] ax15 bx15 cx15 g16 ?_
   refine (Zfc hy17).then ?_
   refine zF4 ax15 bx15 cx15 g16 ?_
   refine zD [1,6,47] [true] ?_
   refine Zo (t:=(!y17)) rfl (fun c18 => ?_) (fun c18 => ?_)
   ·replace hs1_:=Zq c18 hs1_
    refine zQ [2] ?_
    refine zW ?_
    exact zEy hs1_
   replace hs1_:=Zp c18 hs1_
   refine Xs [1,6] [true] ?_
   refine zR ?_
   exact Vh hs1_
  replace hs1_:=Zp c19 hs1_
  exact zEx hs1_
 rcases z20 with z20 | z20
 ·dsimp only [Xg] at hw h
  refine Q1 hw ?_
  try simp only [Yv,Z9,↓reduceIte,Nat.reduceEqDiff]
  obtain rfl:=sI h
  refine Zl (.inr rfl) hU [(vB false)] (by omega) ?_
  simp only [push_cast,seval,↓reduceIte,Zd,Tryz.results27,hN0,hN]
 dsimp only [Xg] at hw h
 refine Yn hw ?_
 try simp only [Yv,Z9,↓reduceIte,Nat.reduceEqDiff]
 refine zD [] [false] ?_
 refine zQ [2] ?_
 refine zW ?_
 obtain rfl:=sI h
 refine Zl (.inr rfl) hU [(vB true)] (by omega) ?_
 simp only [push_cast,seval,↓reduceIte,Zd,Tryz.results27,hN0,hN]
theorem Zkn:∀ k,(Ze9 (J3 k)):=fun k=>by
 induction k with
 | zero=>exact @fun a0 r O n h=>(nomatch (show (none:Option _)=some _ from h))
 | succ k ih=>exact @fun a0 r O n h=>Zmf (ih)  h
theorem Zno {a0:Zi} {r:Bool} {O:Objs} {n:Nat} (h:Zd2 a0=some r):GTo Tryz.prog 27 [.agg (Zm a0)] O n ((vB r)) O n:=by
 obtain ⟨k,hk⟩:=Zbg h
 exact (Zkn k)  hk
theorem Zog {a0:Zi} {r:Bool} {O:Objs} {n:Nat} (h:Zas a0=some r):GTo Tryz.prog 14 [.agg (Zm a0)] O n ((vB r)) O n:=by
 unfold Zas at h
 refine Uw Zs Tryz.call14 Tryz.func14 rfl fun hU hN0 hN => ?_
 show W _ _ _ _ ⟨13,[],[(0,.agg (Zm a0))]⟩ (Zx O n []) _
 refine zQ [1] ?_
 obtain ⟨z4,hz4,h⟩:=bC h
 refine Y1 (E':=⟨13,[],[(2,(vB z4))]⟩) (O':=(Zx O n [none])) (n0:=(n+1)) ?_ ?_
 ·obtain ⟨y8,hy8,hz4⟩:=bC hz4
  rcases Bool.eq_false_or_eq_true y8 with Jz | Jz
  ·replace hz4:=Zq Jz hz4
   obtain ⟨y9,hy9,hz4⟩:=bC hz4
   rcases Bool.eq_false_or_eq_true y9 with G9 | G9
   ·replace hz4:=Zq G9 hz4
    try rw [G9] at Jz
    obtain ⟨y10,hy10,hz4⟩:=bC hz4
    refine Vq (Zx8 []) Jz G9 ?_
    refine (Zex hy8).then ?_
    refine zX2 Jz G9 ?_
    refine (Zgr hy9).then ?_
    refine zX2 Jz G9 ?_
    refine (Zno hy10).then ?_
    refine zX2 Jz G9 ?_
    exact Zgf hz4 Jz G9
   replace hz4:=Zp G9 hz4
   try rw [G9] at Jz
   refine Vq (Uj::Uj::[Qe,Qe]) Jz G9 ?_
   refine (Zex hy8).then ?_
   refine zX2 Jz G9 ?_
   refine (Zgr hy9).then ?_
   refine zX2 Jz G9 ?_
   exact Zgf hz4 Jz G9
  replace hz4:=Zp Jz hz4
  refine Vi (Z4x []) Jz ?_
  refine (Zex hy8).then ?_
  refine zX1 Jz ?_
  exact Ju hz4 Jz
 refine zW ?_
 obtain rfl:=sI h
 refine Zl (.inr rfl) hU [(vB z4)] (by omega) ?_
 simp only [push_cast,seval,↓reduceIte,Zd,Tryz.results14,hN0,hN]
theorem Zbs {a0 r:List Int} {O:Objs} {n:Nat} (h:X3 a0=some r):GTo Tryz.prog 185 [(sL (eI .u64) a0)] O n (.row n r.length) (Zx O n [some (oR 77 1 (eI .u64) r)]) (n+1):=by
 have h1:=Z56 h
 have h2:=Z57 h
 have h3:=Zzq h
 rw [List.nil_append] at h3
 subst h3
 simp only [List.length_nil,Nat.zero_add] at h1 h2
 clear h
 refine Zwv Zs Tryz.call185 Tryz.func185 rfl (Nat.le_of_ble_eq_true rfl) (by omega) fun hU => ?_
 have hN0:O n=none:=hU.fresh _ (Nat.le_refl _)
 have hN:∀ k,O (n+k)=none:=fun k=>hU.fresh _ (Nat.le_add_right _ _)
 show W _ _ _ _ ⟨8,[],[(0,(sL (eI .u64) r))]⟩ (Zx O n []) _
 refine zQ [0] ?_
 refine Yi7 0 r.length (fl (eI .u64) r) rfl (Nat.le_of_ble_eq_true rfl) (Js Zm3 _) fun A c hA => ?_
 refine zQ [0,4] ?_
 cases A with
 | none =>
  obtain rfl:r=[]:=List.eq_nil_of_length_eq_zero (hA rfl)
  refine Zo (t:=true) rfl (fun _ => ?_) (fun hc=>by cases hc)
  refine zQ [2] ?_
  refine zW ?_
  refine Yco (k:=1) (L3:=[some ⟨true,77,1,0,[]⟩]) (E2:=⟨8,[],[(2,.row n 0),(2,nV)]⟩) (n3:=(n+1)) (.inr rfl) hU rfl [.row n 0] ?_ ?_
  ·have ha:=Zmq (ba:=n) (E:=⟨8,[],[(2,.val (.slice none 0 0))]⟩) (O:=(Zx O n [])) (n:=n) 2 77 1 rfl (by omega)
   simp only [Q3] at ha
   exact ha
  simp only [push_cast,seval,↓reduceIte,Zd,Tryz.results185,hN0,hN]
 | some A =>
  refine Zo (t:=false) rfl (fun hc=>by cases hc) (fun _ => ?_)
  refine zK ?_
  refine And.intro rfl (And.intro (Nat.le_of_ble_eq_true rfl) ?_)
  refine Zf ?_
  refine Yr Zs [] ?_
  simp only [push_cast,seval,↓reduceIte,Zd,h1,h2,hN0,hN]
  refine zW ?_
  refine Ycn (.inr rfl) hU rfl [.row n r.length] (by omega) ?_
  simp only [push_cast,seval,↓reduceIte,Zd,Tryz.results185,hN0,hN]
theorem Zfk {a0 r:List Int} {O:Objs} {n:Nat} (h:X3 a0=some r):GTo Tryz.prog 185 [(sL (eI .u64) a0)] O n ((sL (eI .u64) r)) O n:=by
 refine GTo.freeze (Zbs h) fun hU => ?_
 have hN0:O n=none:=hU.fresh _ (Nat.le_refl _)
 have hN:∀ k,O (n+k)=none:=fun k=>hU.fresh _ (Nat.le_add_right _ _)
 exact zSe
theorem Zxf {a0:(List (List Int))} {r:(List (List Int))} {O:Objs} {n:Nat} (h:Zds a0=some r):GTo Tryz.prog 119 [(sL (eL (eI .u64)) a0)] O n ((sL (eL (eI .u64)) r)) O n:=by
 unfold Zds at h
 refine Uw Zs Tryz.call119 Tryz.func119 rfl fun hU hN0 hN => ?_
 show W _ _ _ _ ⟨23,[],[(0,(sL (eL (eI .u64)) a0))]⟩ (Zx O n []) _
 refine zQ [0] ?_
 refine Zf ?_
 obtain ⟨l2,al2,bl2,cl2,el2,h⟩:=bM2 (c:=24) rfl h
 have nl2:Int.toNat (a0.length:Int)=List.length l2:=by rw [el2,List.length_replicate]
 have fl2:∀ O O' n,wkl O O' n (List.replicate (List.length l2) [G.val (.slice none 0 0)]).flatten (fl (eL (eI .u64)) l2)=True:=fun O O' n=>by rw [← nl2,el2];exact eq_true (Z5y _ _)
 clear el2
 refine Yr Zs [] ?_
 simp only [push_cast,seval,↓reduceIte,Zd,al2,bl2,cl2,fl2,nl2,hN0,hN]
 refine Za5 ⟨23,[],[(0,(sL (eL (eI .u64)) a0)),(3,.row n l2.length)]⟩ (Zx O n [some (oR 22 1 (eL (eI .u64)) l2)]) (Y0 hU rfl rfl ?_) ?_
 ·simp only [push_cast,seval,↓reduceIte,Zd,al2,bl2,cl2,fl2,nl2,hN0,hN]
 refine Zf ?_
 refine zQd [3,9,10,11] [3,9,10,11] [true] ?_
 obtain ⟨z9,hz9,h⟩:=bC h
 refine Yn (E':=⟨23,[],[(3,.row n z9.length)]⟩) (O':=(Zx O n [some (oR 22 1 (eL (eI .u64)) z9)])) (n0:=(n+1)) ?_ ?_
 ·refine Xd hz9 (fun s0_=>⟨23,[],[(3,.row n s0_.2.length),(9,(sL (eL (eI .u64)) a0)),(10,(vI (a0.length:Int))),(11,(vI s0_.1))]⟩) (fun s0_=>(Zx O n [some (oR 22 1 (eL (eI .u64)) s0_.2)])) (fun z9=>JX 0 n (⟨23,[],[(3,.row n z9.length)]⟩:Env) (Zx O n [some (oR 22 1 (eL (eI .u64)) z9)]) (n+1)) ?_
  intro s0_ x0_ hs0_
  unfold Gf at hs0_
  try dsimp only
  refine zQ [3,9,10,11,12] ?_
  refine Zf ?_
  refine Zo (t:=(decide (s0_.1 < (a0.length:Int)))) rfl (fun c8 => ?_) (fun c8 => ?_)
  ·replace hs0_:=Zq c8 hs0_
   refine Xs [3,9,10,11] [true] ?_
   refine Zf ?_
   refine Yh ?_
   obtain ⟨x4,hx4,ax4,bx4,cx4,hs0_⟩:=bE (f:=(eL (eI .u64))) Zgd (fun _=>rfl) (by decide) hs0_
   refine Zef [3,4,5,9,10,11] (Yr Zs [] ?_)
   refine zF3 ax4 bx4 cx4 ?_
   obtain ⟨y5,hy5,hs0_⟩:=bC hs0_
   obtain ⟨x6,hx6,ax6,bx6,cx6,hs0_⟩:=bE (f:=(eL (eI .u64))) Zgd (fun _=>rfl) (by decide) hs0_
   have gu7:Ga (fl (eL (eI .u64)) s0_.2) [.sl y5.length (fl (eI .u64) y5)] (Int.toNat s0_.1 * 1)=some (fl (eL (eI .u64)) (Zic s0_.2 s0_.1 y5)):=Zji (f:=(eL (eI .u64))) (ti:=⟨.bool,1,0,[],false⟩) (x:=y5) (fun _=>rfl) (Zem hx6)
   refine Zj4 [] ax6 bx6 cx6 gu7 ?_
   refine (Zfk hy5).then ?_
   refine zF4 ax6 bx6 cx6 gu7 ?_
   refine zD [3,9,10,11] [true] ?_
   refine zR ?_
   exact Vh hs0_
  replace hs0_:=Zp c8 hs0_
  exact zEx hs0_
 try simp only [Yv,Z9,↓reduceIte,Nat.reduceEqDiff]
 refine zD [3] [true] ?_
 refine zQ [2] ?_
 refine zW ?_
 obtain rfl:=sI h
 refine Zl (.inr rfl) hU [.row n z9.length] (by omega) ?_
 simp only [push_cast,seval,↓reduceIte,Zd,Tryz.results119,hN0,hN]
theorem Z43 {a0:(List (List Int))} {r:(Option Zn)} {O:Objs} {n:Nat} (h:Zhi a0=some r):GTo Tryz.prog 74 [(sL (eL (eI .u64)) a0)] O n ((gP Zh r)) O n:=by
 unfold Zhi at h
 refine Uw Zs Tryz.call74 Tryz.func74 rfl fun hU hN0 hN => ?_
 show W _ _ _ _ ⟨7,[],[(0,(sL (eL (eI .u64)) a0))]⟩ (Zx O n []) _
 refine zQ [0] ?_
 refine Zf ?_
 obtain ⟨y2,hy2,h⟩:=bC h
 refine zCd (Zxf hy2) [2] [true] ?_
 refine zW ?_
 obtain rfl:=sI h
 refine Zl (.inr rfl) hU [.ref n 0] (by omega) ?_
 simp only [push_cast,seval,↓reduceIte,Zd,Tryz.results74,hN0,hN]
theorem Zod {a0:(Option Zn)} {r:Int} {O:Objs} {n:Nat} (h:Zcj a0=some r):GTo Tryz.prog 340 [(gP Zh a0)] O n ((vI r)) O n:=by
 unfold Zcj at h
 refine Uw Zs Tryz.call340 Tryz.func340 rfl fun hU hN0 hN => ?_
 show W _ _ _ _ ⟨10,[],[(0,(gP Zh a0))]⟩ (Zx O n []) _
 refine zQ [0] ?_
 refine Zf ?_
 have g2:=Z38 (f:=Zh) (t:=60) Zr8 a0
 refine Yo0 [0,4] g2 ?_
 refine Zo (t:=(Option.isNone a0)) rfl (fun c5 => ?_) (fun c5 => ?_)
 ·replace h:=Zq c5 h
  refine zQ [2] ?_
  refine zW ?_
  obtain rfl:=sI h
  refine Zl (.inr rfl) hU [(vI 0)] (by omega) ?_
  simp only [push_cast,seval,↓reduceIte,Zd,Tryz.results340,hN0,hN]
 replace h:=Zp c5 h
 refine Xs [0] [] ?_
 obtain ⟨x4,hx4,h⟩:=bC h
 refine Zef [2] (Yr Zs [] ?_)
 simp only [push_cast,seval,↓reduceIte,Zd,hx4,hN0,hN]
 refine zW ?_
 obtain rfl:=sI h
 refine Zl (.inr rfl) hU [(vI (x4.segments.length:Int))] (by omega) ?_
 simp only [push_cast,seval,↓reduceIte,Zd,Tryz.results340,hN0,hN]
theorem K3 {a0:(Option Zn)} {a1:Int} {r:Bool} {O:Objs} {n:Nat} (h:Vj a0 a1=some r):GTo Tryz.prog 320 [(gP Zh a0),(vI a1)] O n ((vB r)) O n:=by
 unfold Vj at h
 refine Uw Zs Tryz.call320 Tryz.func320 rfl fun hU hN0 hN => ?_
 show W _ _ _ _ ⟨13,[],[(0,(gP Zh a0)),(1,(vI a1))]⟩ (Zx O n []) _
 refine zQ [0,1] ?_
 obtain ⟨z2,hz2,h⟩:=bC h
 refine Y1 (E':=⟨13,[],[(4,(vB z2))]⟩) (O':=(Zx O n [])) (n0:=n) ?_ ?_
 ·rcases Bool.eq_false_or_eq_true (decide (0≤a1)) with c5 | c5
  ·replace hz2:=Zq c5 hz2
   obtain ⟨y4,hy4,hz2⟩:=bC hz2
   refine Vi (Zx8 []) c5 ?_
   refine (Zod hy4).then ?_
   refine zX1 c5 ?_
   exact Ju hz2 c5
  replace hz2:=Zp c5 hz2
  refine Vi (Z4x []) c5 ?_
  exact Ju hz2 c5
 refine zW ?_
 obtain rfl:=sI h
 refine Zl (.inr rfl) hU [(vB z2)] (by omega) ?_
 simp only [push_cast,seval,↓reduceIte,Zd,Tryz.results320,hN0,hN]
theorem Zdm {a0:(Option Zn)} {a1:Int} {r:Int} {O:Objs} {n:Nat} (h:V0 a0 a1=some r):GTo Tryz.prog 321 [(gP Zh a0),(vI a1)] O n ((vI r)) O n:=by
 unfold V0 at h
 refine Uw Zs Tryz.call321 Tryz.func321 rfl fun hU hN0 hN => ?_
 show W _ _ _ _ ⟨17,[],[(0,(gP Zh a0)),(1,(vI a1))]⟩ (Zx O n []) _
 refine zQ [0,1] ?_
 refine Zf ?_
 refine Zf ?_
 obtain ⟨y2,hy2,h⟩:=bC h
 refine zCd (K3 hy2) [0,1,8] [] ?_
 refine Zo (t:=(!y2)) rfl (fun c7 => ?_) (fun c7 => ?_)
 ·replace h:=Zq c7 h
  refine zQ [4] ?_
  refine zW ?_
  obtain rfl:=sI h
  refine Zl (.inr rfl) hU [(vI 0)] (by omega) ?_
  simp only [push_cast,seval,↓reduceIte,Zd,Tryz.results321,hN0,hN]
 replace h:=Zp c7 h
 refine Xs [0,1] [] ?_
 obtain ⟨x5,hx5,h⟩:=bC h
 obtain ⟨x6,hx6,ax6,bx6,cx6,h⟩:=bE (f:=(eL (eI .u64))) Zgd (fun _=>rfl) (by decide) h
 refine Zef [4] (Yr Zs [] ?_)
 refine zF4 hx5 ax6 bx6 cx6 ?_
 refine zW ?_
 obtain rfl:=sI h
 refine Zl (.inr rfl) hU [(vI (x6.length:Int))] (by omega) ?_
 simp only [push_cast,seval,↓reduceIte,Zd,Tryz.results321,hN0,hN]
theorem Zd5 {a0:(Option Zn)} {a1:Int} {a2:Int} {a3:Int} {r:Bool} {O:Objs} {n:Nat} (h:Ve a0 a1 a2 a3=some r):GTo Tryz.prog 299 [(gP Zh a0),(vI a1),(vI a2),(vI a3)] O n ((vB r)) O n:=by
 unfold Ve at h
 refine Uw Zs Tryz.call299 Tryz.func299 rfl fun hU hN0 hN => ?_
 show W _ _ _ _ ⟨36,[],[(0,(gP Zh a0)),(1,(vI a1)),(2,(vI a2)),(3,(vI a3))]⟩ (Zx O n []) _
 refine zQ [0,1,2,3] ?_
 obtain ⟨z4,hz4,h⟩:=bC h
 refine Y1 (E':=⟨36,[],[(8,(vB z4))]⟩) (O':=(Zx O n [])) (n0:=n) ?_ ?_
 ·obtain ⟨y8,hy8,hz4⟩:=bC hz4
  rcases Bool.eq_false_or_eq_true y8 with Jz | Jz
  ·replace hz4:=Zq Jz hz4
   rcases Bool.eq_false_or_eq_true (decide (0≤a2)) with G9 | G9
   ·replace hz4:=Zq G9 hz4
    try rw [G9] at Jz
    rcases Bool.eq_false_or_eq_true (decide (0≤a3)) with c13 | c13
    ·replace hz4:=Zq c13 hz4
     try rw [c13] at Jz
     try rw [c13] at G9
     obtain ⟨y9,hy9,hz4⟩:=bC hz4
     rcases Bool.eq_false_or_eq_true (decide (a3≤y9)) with c14 | c14
     ·replace hz4:=Zq c14 hz4
      try rw [c14] at Jz
      try rw [c14] at G9
      try rw [c14] at c13
      obtain ⟨y10,hy10,hz4⟩:=bC hz4
      refine Zty (Ydn (Z4z [])) Jz G9 c13 c14 ?_
      refine zG ?_
      refine (K3 hy8).then ?_
      refine zX4 Jz G9 c13 c14 ?_
      refine zG ?_
      refine (Zdm hy9).then ?_
      refine zX4 Jz G9 c13 c14 ?_
      refine zG ?_
      refine (Zdm hy10).then ?_
      refine zX4 Jz G9 c13 c14 ?_
      refine zG ?_
      exact Zzn hz4 Jz G9 c13 c14
     replace hz4:=Zp c14 hz4
     try rw [c14] at Jz
     try rw [c14] at G9
     try rw [c14] at c13
     refine Zty (Ydn (Yjz (Ydm []))) Jz G9 c13 c14 ?_
     refine zG ?_
     refine (K3 hy8).then ?_
     refine zX4 Jz G9 c13 c14 ?_
     refine zG ?_
     refine (Zdm hy9).then ?_
     refine zX4 Jz G9 c13 c14 ?_
     refine zG ?_
     exact Zzn hz4 Jz G9 c13 c14
    replace hz4:=Zp c13 hz4
    try rw [c13] at Jz
    try rw [c13] at G9
    refine Za0 (Ydn (Zpp [])) Jz G9 c13 ?_
    refine zG ?_
    refine (K3 hy8).then ?_
    refine zX3 Jz G9 c13 ?_
    refine zG ?_
    exact Ze6 hz4 Jz G9 c13
   replace hz4:=Zp G9 hz4
   try rw [G9] at Jz
   refine Vq (Ydn (Zpp [])) Jz G9 ?_
   refine zG ?_
   refine (K3 hy8).then ?_
   refine zX2 Jz G9 ?_
   refine zG ?_
   exact Zgf hz4 Jz G9
  replace hz4:=Zp Jz hz4
  refine Vi (Ydn (Zpp [])) Jz ?_
  refine zG ?_
  refine (K3 hy8).then ?_
  refine zX1 Jz ?_
  refine zG ?_
  exact Ju hz4 Jz
 refine zW ?_
 obtain rfl:=sI h
 refine Zl (.inr rfl) hU [(vB z4)] (by omega) ?_
 simp only [push_cast,seval,↓reduceIte,Zd,Tryz.results299,hN0,hN]
theorem G0 {a0:(Option Zn)} {a1:Int} {a2:Int} {r:(Int×Bool)} {O:Objs} {n:Nat} (h:Jh a0 a1 a2=some r):GTo Tryz.prog 258 [(gP Zh a0),(vI a1),(vI a2)] O n (.tup [.val (.int .u64 r.1),(vB r.2)]) O n:=by
 unfold Jh at h
 refine Uw Zs Tryz.call258 Tryz.func258 rfl fun hU hN0 hN => ?_
 show W _ _ _ _ ⟨23,[],[(0,(gP Zh a0)),(1,(vI a1)),(2,(vI a2))]⟩ (Zx O n []) _
 refine zQ [0,1,2] ?_
 refine Zf ?_
 refine Zf ?_
 obtain ⟨y2,hy2,h⟩:=bC h
 refine zCd (Zd5 hy2) [0,1,2,12] [] ?_
 refine Zo (t:=(!y2)) rfl (fun c9 => ?_) (fun c9 => ?_)
 ·replace h:=Zq c9 h
  refine zQ [6,7] ?_
  refine zW ?_
  obtain rfl:=sI h
  refine Zl (.inr rfl) hU [.val (.int .u64 0),(vB false)] (by omega) ?_
  simp only [push_cast,seval,↓reduceIte,Zd,Tryz.results258,hN0,hN]
 replace h:=Zp c9 h
 refine Xs [0,1,2] [] ?_
 obtain ⟨x6,hx6,h⟩:=bC h
 obtain ⟨x7,hx7,ax7,bx7,cx7,h⟩:=bE (f:=(eL (eI .u64))) Zgd (fun _=>rfl) (by decide) h
 obtain ⟨x8,hx8,ax8,bx8,cx8,h⟩:=bE (f:=(eI .u64)) Za6 (fun _=>rfl) (by decide) h
 refine Zef [6,7] (Yr Zs [] ?_)
 refine zF7 hx6 ax7 bx7 cx7 ax8 bx8 cx8 ?_
 refine zW ?_
 obtain rfl:=sI h
 refine Zl (.inr rfl) hU [.val (.int .u64 x8),(vB true)] (by omega) ?_
 simp only [push_cast,seval,↓reduceIte,Zd,Tryz.results258,hN0,hN]
theorem Znx {a0:Int} {r:Int} {O:Objs} {n:Nat} (h:Zev a0=some r):GTo Tryz.prog 283 [.val (.int .u64 a0)] O n ((vI r)) O n:=by
 unfold Zev at h
 refine Uw Zs Tryz.call283 Tryz.func283 rfl fun hU hN0 hN => ?_
 show W _ _ _ _ ⟨8,[],[(0,.val (.int .u64 a0))]⟩ (Zx O n []) _
 refine zQ [0] ?_
 refine zQ [2] ?_
 refine zW ?_
 obtain rfl:=sI h
 refine Zl (.inr rfl) hU [(vI (IntKind.i64.wrap (Int.fdiv (IntKind.i32.wrap (IntKind.u32.wrap a0)) (2 ^ min (Int.toNat 2) 32))))] (by omega) ?_
 simp only [push_cast,seval,↓reduceIte,Zd,Tryz.results283,hN0,hN]
theorem Zdf {a0:Int} {a1:Int} {a2:Int} {r:Int} {O:Objs} {n:Nat} (h:Jb a0 a1 a2=some r):GTo Tryz.prog 284 [.val (.int .u64 a0),(vI a1),(vI a2)] O n ((vI r)) O n:=by
 unfold Jb at h
 refine Uw Zs Tryz.call284 Tryz.func284 rfl fun hU hN0 hN => ?_
 show W _ _ _ _ ⟨15,[],[(0,.val (.int .u64 a0)),(1,(vI a1)),(2,(vI a2))]⟩ (Zx O n []) _
 refine zQ [0,1,2] ?_
 obtain ⟨pu3,h⟩:=bG h
 obtain ⟨pu4,h⟩:=bG h
 refine Zef [6] (Xl Zs (by kernel_rfl) [] (by kernel_rfl) ?_)
 simp only [push_cast,seval,↓reduceIte,Zd,pu3,pu4,hN0,hN]
 refine zW ?_
 obtain rfl:=sI h
 refine Zl (.inr rfl) hU [(vI (IntKind.i64.wrap (IntKind.u64.wrap (Uz .u64 (Int.fdiv a0 (2 ^ min (Int.toNat a1) 64)) (IntKind.u64.wrap ((IntKind.u64.wrap (1 * 2 ^ min (Int.toNat a2) 64)) - 1))))))] (by omega) ?_
 simp only [push_cast,seval,↓reduceIte,Zd,Tryz.results284,hN0,hN]
attribute [local push_cast] Z59 List.getD_cons_zero List.getD_cons_succ or_false Zg2 List.length_append Zge K7 Zb3 Zh3 Zvj Z62 X2 Arr.len Zjt Zmz Zip Ybr Zm2 Zm0 Zkw Zir Zm1 Ziu Ybv Zoq Zit Ql Zdi Zez Zdo Zga Z6s Z61
theorem Za4 {a0:Int} {r:Yp} {O:Objs} {n:Nat} (h:V8 a0=some r):GTo Tryz.prog 241 [.val (.int .u64 a0)] O n (.agg (Xh r)) O n:=by
 unfold V8 at h
 refine Uw Zs Tryz.call241 Tryz.func241 rfl fun hU hN0 hN => ?_
 show W _ _ _ _ ⟨38,[],[(0,.val (.int .u64 a0))]⟩ (Zx O n []) _
 refine zQ [0,2] ?_
 refine Zf ?_
 refine zQ [0,2,4] ?_
 refine Zo (t:=(a0 == 0)) rfl (fun c20 => ?_) (fun c20 => ?_)
 ·replace h:=Zq c20 h
  refine Zf ?_
  refine zR ?_
  refine Za5 ⟨38,[],[(2,.ref n 0)]⟩ (Zx O n [some ⟨false,191,8,1,[(vI 0),(vI 0),(vI 0),(vI 0),(vI 0),(vI 0),(vI 0),(vB false)]⟩]) (Y0 hU rfl rfl ?_) ?_
  ·exact zSe
  refine zW ?_
  obtain rfl:=sI h
  refine Zl (.inr rfl) hU [.agg [(vI 0),(vI 0),(vI 0),(vI 0),(vI 0),(vI 0),(vI 0),(vB false)]] (by omega) ?_
  simp only [push_cast,seval,↓reduceIte,Zd,Tryz.results241,hN0,hN]
 replace h:=Zp c20 h
 refine zK ?_
 refine Za5 ⟨38,[],[(0,.val (.int .u64 a0)),(2,.ref n 0)]⟩ (Zx O n [some ⟨false,191,8,1,[(vI 0),(vI 0),(vI 0),(vI 0),(vI 0),(vI 0),(vI 0),(vB false)]⟩]) (Y0 hU rfl rfl ?_) ?_
 ·exact zSe
 refine Zf ?_
 refine zQ [0,2,7] ?_
 refine Yh ?_
 refine zQ [0,2,7,8] ?_
 refine Zo (t:=((IntKind.u64.wrap (Uz .u64 a0 3)) == 0)) rfl (fun c19 => ?_) (fun c19 => ?_)
 ·replace h:=Zq c19 h
  refine Zf ?_
  obtain ⟨y4,hy4,h⟩:=bC h
  obtain ⟨y5,hy5,h⟩:=bC h
  obtain ⟨y6,hy6,h⟩:=bC h
  refine zC (Znx hy4) ?_
  refine zTs (Zdf hy5) ?_
  refine zTs (Zdf hy6) ?_
  refine Za5 ⟨38,[],[(2,.ref n 0)]⟩ (Zx O n [some ⟨false,191,8,1,[(vI 1),(vI y4),(vI y5),(vI y6),(vI 0),(vI 0),(vI 0),(vB false)]⟩]) (Y0 hU rfl rfl ?_) ?_
  ·exact zSe
  refine zW ?_
  obtain rfl:=sI h
  refine Zl (.inr rfl) hU [.agg [(vI 1),(vI y4),(vI y5),(vI y6),(vI 0),(vI 0),(vI 0),(vB false)]] (by omega) ?_
  simp only [push_cast,seval,↓reduceIte,Zd,Tryz.results241,hN0,hN]
 replace h:=Zp c19 h
 refine zQ [0,2,7,17] ?_
 refine Zo (t:=((IntKind.u64.wrap (Uz .u64 a0 3)) == 1)) rfl (fun c18 => ?_) (fun c18 => ?_)
 ·replace h:=Zq c18 h
  refine Zf ?_
  obtain ⟨y10,hy10,h⟩:=bC h
  obtain ⟨y11,hy11,h⟩:=bC h
  obtain ⟨y12,hy12,h⟩:=bC h
  refine zC (Znx hy10) ?_
  refine zTs (Zdf hy11) ?_
  refine zTs (Zdf hy12) ?_
  refine Za5 ⟨38,[],[(2,.ref n 0)]⟩ (Zx O n [some ⟨false,191,8,1,[(vI 2),(vI y10),(vI 0),(vI 0),(vI y11),(vI y12),(vI 0),(vB false)]⟩]) (Y0 hU rfl rfl ?_) ?_
  ·exact zSe
  refine zW ?_
  obtain rfl:=sI h
  refine Zl (.inr rfl) hU [.agg [(vI 2),(vI y10),(vI 0),(vI 0),(vI y11),(vI y12),(vI 0),(vB false)]] (by omega) ?_
  simp only [push_cast,seval,↓reduceIte,Zd,Tryz.results241,hN0,hN]
 replace h:=Zp c18 h
 refine zQ [0,2,26] ?_
 refine Zo (t:=((IntKind.u64.wrap (Uz .u64 a0 3)) == 2)) rfl (fun c17 => ?_) (fun c17 => ?_)
 ·replace h:=Zq c17 h
  refine Zf ?_
  obtain ⟨y15,hy15,h⟩:=bC h
  obtain ⟨y16,hy16,h⟩:=bC h
  refine zC (Zdf hy15) ?_
  refine zTs (Zdf hy16) ?_
  refine Za5 ⟨38,[],[(2,.ref n 0)]⟩ (Zx O n [some ⟨false,191,8,1,[(vI 3),(vI y15),(vI 0),(vI 0),(vI 0),(vI 0),(vI y16),(vB ((IntKind.u64.wrap (Uz .u64 (Int.fdiv a0 (2 ^ min (Int.toNat 2) 64)) 1)) == 1))]⟩]) (Y0 hU rfl rfl ?_) ?_
  ·exact zSe
  refine zW ?_
  obtain rfl:=sI h
  refine Zl (.inr rfl) hU [.agg [(vI 3),(vI y15),(vI 0),(vI 0),(vI 0),(vI 0),(vI y16),(vB ((IntKind.u64.wrap (Uz .u64 (Int.fdiv a0 (2 ^ min (Int.toNat 2) 64)) 1)) == 1))]] (by omega) ?_
  simp only [push_cast,seval,↓reduceIte,Zd,Tryz.results241,hN0,hN]
 replace h:=Zp c17 h
 refine zK ?_
 refine Za5 ⟨38,[],[(2,.ref n 0)]⟩ (Zx O n [some ⟨false,191,8,1,[(vI 0),(vI 0),(vI 0),(vI 0),(vI 0),(vI 0),(vI 0),(vB false)]⟩]) (Y0 hU rfl rfl ?_) ?_
 ·exact zSe
 refine Zf ?_
 refine zR ?_
 refine Za5 ⟨38,[],[(2,.ref n 0)]⟩ (Zx O n [some ⟨false,191,8,1,[(vI 4),(vI 0),(vI 0),(vI 0),(vI 0),(vI 0),(vI 0),(vB false)]⟩]) (Y0 hU rfl rfl ?_) ?_
 ·exact zSe
 refine zW ?_
 obtain rfl:=sI h
 refine Zl (.inr rfl) hU [.agg [(vI 4),(vI 0),(vI 0),(vI 0),(vI 0),(vI 0),(vI 0),(vB false)]] (by omega) ?_
 simp only [push_cast,seval,↓reduceIte,Zd,Tryz.results241,hN0,hN]
theorem Znk {a0:(Option Zn)} {a1:Int} {a2:Int} {a3:Int} {r:((List Int)×Bool)} {O:Objs} {n:Nat} (h:Gr a0 a1 a2 a3=some r):GTo Tryz.prog 302 [(gP Zh a0),(vI a1),(vI a2),(vI a3)] O n (.tup [(sL (eI .u64) r.1),(vB r.2)]) O n:=by
 unfold Gr at h
 refine Uw Zs Tryz.call302 Tryz.func302 rfl fun hU hN0 hN => ?_
 show W _ _ _ _ ⟨29,[],[(0,(gP Zh a0)),(1,(vI a1)),(2,(vI a2)),(3,(vI a3))]⟩ (Zx O n []) _
 refine zQ [0,1,2,3] ?_
 refine Zf ?_
 refine Zf ?_
 obtain ⟨y2,hy2,h⟩:=bC h
 refine zCd (Zd5 hy2) [0,1,2,3,15] [] ?_
 refine Zo (t:=(!y2)) rfl (fun Jz => ?_) (fun Jz => ?_)
 ·replace h:=Zq Jz h
  refine zQ [8,9] ?_
  refine zW ?_
  obtain rfl:=sI h
  refine Zl (.inr rfl) hU [nV,(vB false)] (by omega) ?_
  simp only [push_cast,seval,↓reduceIte,Zd,Tryz.results302,hN0,hN]
 replace h:=Zp Jz h
 refine Xs [0,1,2,3] [] ?_
 refine Zf ?_
 obtain ⟨x7,hx7,h⟩:=bC h
 obtain ⟨x8,hx8,ax8,bx8,cx8,h⟩:=bE (f:=(eL (eI .u64))) Zgd (fun _=>rfl) (by decide) h
 obtain ⟨l9,al9,bl9,cl9,gl9,h⟩:=bS (lo:=(some (.i64,a2))) (hi:=(some (.i64,(IntKind.i64.wrap (a2+a3))))) (f:=(eI .u64)) rfl rfl Zg0 Za6 (fun _=>rfl) h
 obtain ⟨y10,hy10,h⟩:=bC h
 refine Yo2 [] hx7 ax8 bx8 cx8 al9 bl9 cl9 gl9 ?_
 refine (Zbs  hy10).then ?_
 refine zF8 hx7 ax8 bx8 cx8 al9 bl9 cl9 gl9 ?_
 refine zD [8,9] [true] ?_
 refine zW ?_
 obtain rfl:=sI h
 refine Zl (.inr rfl) hU [.row n y10.length,(vB true)] (by omega) ?_
 simp only [push_cast,seval,↓reduceIte,Zd,Tryz.results302,hN0,hN]
theorem Z0r {a0:Int} {r:Int} {O:Objs} {n:Nat} (h:Zf2 a0=some r):GTo Tryz.prog 239 [(vI a0)] O n ((vI r)) O n:=by
 unfold Zf2 at h
 refine Uw Zs Tryz.call239 Tryz.func239 rfl fun hU hN0 hN => ?_
 show W _ _ _ _ ⟨8,[],[(0,(vI a0))]⟩ (Zx O n []) _
 refine zQ [0] ?_
 refine Zf ?_
 obtain ⟨y6,hy6,ey6,h⟩:=bY (f:=(eI .i64)) (cs:=[.val (.int .i64 0),.val (.int .i64 1),.val (.int .i64 8),.val (.int .i64 16),.val (.int .i64 32),.val (.int .i64 64),.val (.int .i64 64)]) rfl h
 have g7:=congrArg G.agg ey6
 obtain ⟨y8,hy8,ey8,h⟩:=bY (f:=(eI .i64)) (cs:=[.val (.int .i64 0),.val (.int .i64 0),.val (.int .i64 0),.val (.int .i64 0),.val (.int .i64 0),.val (.int .i64 0),.val (.int .i64 0)]) rfl h
 have g9:=congrArg (GObj.mk false 309 7 1) ey8
 have g10:=Zff (f:=(eI .i64)) y8 y6 (fun _=>rfl)
 refine Za0 [] g7 g9 g10 ?_
 refine zD [0,3] [true] ?_
 obtain ⟨x12,hx12,ax12,bx12,cx12,h⟩:=bEA (f:=(eI .i64)) (b:=7) rfl Ztb (fun _=>rfl) (by decide) h
 refine Zef [2] (Yr Zs [] ?_)
 refine zF3 ax12 bx12 cx12 ?_
 refine zW ?_
 obtain rfl:=sI h
 refine Zl (.inr rfl) hU [(vI x12)] (by omega) ?_
 simp only [push_cast,seval,↓reduceIte,Zd,Tryz.results239,hN0,hN]
theorem Zst {a0:Yp} {r:(Int×Bool)} {O:Objs} {n:Nat} (h:Zb7 a0=some r):GTo Tryz.prog 177 [.agg (Xh a0)] O n (.tup [(vI r.1),(vB r.2)]) O n:=by
 unfold Zb7 at h
 refine Uw Zs Tryz.call177 Tryz.func177 rfl fun hU hN0 hN => ?_
 show W _ _ _ _ ⟨57,[],[(0,.agg (Xh a0))]⟩ (Zx O n []) _
 refine zQ [1] ?_
 refine Zf ?_
 refine Yh ?_
 refine zQ [1,4] ?_
 refine Zo (t:=(a0.Kind == 1)) rfl (fun c5 => ?_) (fun c5 => ?_)
 ·replace h:=Zq c5 h
  refine zQ [2,3] ?_
  refine zW ?_
  obtain rfl:=sI h
  refine Zl (.inr rfl) hU [(vI (IntKind.i64.wrap (a0.Data+a0.Ptrs))),(vB true)] (by omega) ?_
  simp only [push_cast,seval,↓reduceIte,Zd,Tryz.results177,hN0,hN]
 replace h:=Zp c5 h
 refine zQD [1,13] [none,none,none] ?_
 refine Zo (t:=(cond (a0.Kind == 2) (a0.Code == 7) false)) rfl (fun c4 => ?_) (fun c4 => ?_)
 ·replace h:=Zq c4 h
  refine zQ [2,3] ?_
  refine zW ?_
  obtain rfl:=sI h
  refine Zl (.inr rfl) hU [(vI (IntKind.i64.wrap (a0.Count+1))),(vB true)] (by omega) ?_
  simp only [push_cast,seval,↓reduceIte,Zd,Tryz.results177,hN0,hN]
 replace h:=Zp c4 h
 refine zQD [1,25] [none,none,none,none,none,none,none,none,none,none,none,none] ?_
 refine Zo (t:=(cond (cond (cond (cond (a0.Kind == 2) (decide (0≤a0.Code)) false) (decide (a0.Code < 7)) false) (decide (0≤a0.Count)) false) (decide (a0.Count≤536870911)) false)) rfl (fun c3 => ?_) (fun c3 => ?_)
 ·replace h:=Zq c3 h
  refine Zf ?_
  obtain ⟨y2,hy2,h⟩:=bC h
  refine Xl Zs (by kernel_rfl) [] (by kernel_rfl) ?_
  refine zS ?_
  refine PCall.of (Z0r hy2) ?_
  refine zS ?_
  refine zD [2,3] [false] ?_
  refine zW ?_
  obtain rfl:=sI h
  refine Zl (.inr rfl) hU [(vI (IntKind.i64.wrap (Int.tdiv (IntKind.i64.wrap ((IntKind.i64.wrap (a0.Count * y2))+63)) 64))),(vB true)] (by omega) ?_
  simp only [push_cast,seval,↓reduceIte,Zd,Tryz.results177,hN0,hN]
 replace h:=Zp c3 h
 refine Xs [] [false] ?_
 refine zQ [2,3] ?_
 refine zW ?_
 obtain rfl:=sI h
 refine Zl (.inr rfl) hU [(vI 0),(vB false)] (by omega) ?_
 simp only [push_cast,seval,↓reduceIte,Zd,Tryz.results177,hN0,hN]
theorem Zi4 {a0:(Option Zn)} {a1:Yp} {a2:Int} {a3:Int} {r:(Qi×Int)} {O:Objs} {n:Nat} (h:Zbz a0 a1 a2 a3=some r):GTo Tryz.prog 264 [(gP Zh a0),.agg (Xh a1),(vI a2),(vI a3)] O n (.tup [.agg [(vI r.1.P.Kind),(vI r.1.P.Off),(vI r.1.P.Data),(vI r.1.P.Ptrs),(vI r.1.P.Code),(vI r.1.P.Count),(vI r.1.P.Segment),(vB r.1.P.Double),(vI r.1.Segment),(vI r.1.At)],(vI r.2)]) O n:=by
 unfold Zbz at h
 refine Uw Zs Tryz.call264 Tryz.func264 rfl fun hU hN0 hN => ?_
 show W _ _ _ _ ⟨36,[],[(0,(gP Zh a0)),(1,.agg (Xh a1)),(2,(vI a2)),(3,(vI a3))]⟩ (Zx O n []) _
 refine zQ [0,2,3,5,8] ?_
 refine Zf ?_
 refine zQ [0,2,3,5,8,14] ?_
 refine Zo (t:=(a1.Kind == 4)) rfl (fun c7 => ?_) (fun c7 => ?_)
 ·replace h:=Zq c7 h
  refine Zf ?_
  refine Gi [8,9] [false,true] ?_
  refine zW ?_
  obtain rfl:=sI h
  refine Zl (.inr rfl) hU [.agg [(vI 0),(vI 0),(vI 0),(vI 0),(vI 0),(vI 0),(vI 0),(vB false),(vI 0),(vI 0)],(vI 9)] (by omega) ?_
  simp only [push_cast,seval,↓reduceIte,Zd,Tryz.results264,hN0,hN]
 replace h:=Zp c7 h
 refine Xs [0,2,3,5,8] [true,true] ?_
 refine Zf ?_
 obtain ⟨y2,hy2,h⟩:=bC h
 refine zCd (Zst hy2) [0,2,3,5,8,10,11] [true,true] ?_
 refine Zf ?_
 refine zQ [0,2,3,5,8,10,22] ?_
 refine Zo (t:=(!y2.2)) rfl (fun c6 => ?_) (fun c6 => ?_)
 ·replace h:=Zq c6 h
  refine Zf ?_
  refine Gi [8,9] [false,true] ?_
  refine zW ?_
  obtain rfl:=sI h
  refine Zl (.inr rfl) hU [.agg [(vI 0),(vI 0),(vI 0),(vI 0),(vI 0),(vI 0),(vI 0),(vB false),(vI 0),(vI 0)],(vI 8)] (by omega) ?_
  simp only [push_cast,seval,↓reduceIte,Zd,Tryz.results264,hN0,hN]
 replace h:=Zp c6 h
 refine Xs [0,2,3,5,8,10] [true,true] ?_
 refine Zf ?_
 refine Zf ?_
 obtain ⟨y4,hy4,h⟩:=bC h
 refine zCd (Zd5 hy4) [2,3,5,8,29] [true,true] ?_
 refine Zo (t:=(!y4)) rfl (fun c5 => ?_) (fun c5 => ?_)
 ·replace h:=Zq c5 h
  refine Zf ?_
  refine Gi [8,9] [false,true] ?_
  refine zW ?_
  obtain rfl:=sI h
  refine Zl (.inr rfl) hU [.agg [(vI 0),(vI 0),(vI 0),(vI 0),(vI 0),(vI 0),(vI 0),(vB false),(vI 0),(vI 0)],(vI 7)] (by omega) ?_
  simp only [push_cast,seval,↓reduceIte,Zd,Tryz.results264,hN0,hN]
 replace h:=Zp c5 h
 refine Xs [2,3,5,8] [true,true] ?_
 refine Zf ?_
 refine Gi [2,3,5,8] [true,true] ?_
 refine Zf ?_
 refine Gi [8,9] [false,true] ?_
 refine zW ?_
 obtain rfl:=sI h
 refine Zl (.inr rfl) hU [.agg [(vI a1.Kind),(vI 0),(vI a1.Data),(vI a1.Ptrs),(vI a1.Code),(vI a1.Count),(vI a1.Segment),(vB a1.Double),(vI a2),(vI a3)],(vI 0)] (by omega) ?_
 simp only [push_cast,seval,↓reduceIte,Zd,Tryz.results264,hN0,hN]
theorem Zyb {a0:(Option Zn)} {a1:Int} {a2:Int} {r:(Qi×Int)} {O:Objs} {n:Nat} (h:Zet a0 a1 a2=some r):GTo Tryz.prog 262 [(gP Zh a0),(vI a1),(vI a2)] O n (.tup [.agg [(vI r.1.P.Kind),(vI r.1.P.Off),(vI r.1.P.Data),(vI r.1.P.Ptrs),(vI r.1.P.Code),(vI r.1.P.Count),(vI r.1.P.Segment),(vB r.1.P.Double),(vI r.1.Segment),(vI r.1.At)],(vI r.2)]) O n:=by
 unfold Zet at h
 refine Uw Zs Tryz.call262 Tryz.func262 rfl fun hU hN0 hN => ?_
 show W _ _ _ _ ⟨56,[],[(0,(gP Zh a0)),(1,(vI a1)),(2,(vI a2))]⟩ (Zx O n []) _
 refine zQ [0,1,2,6] ?_
 refine Zf ?_
 obtain ⟨y2,hy2,h⟩:=bC h
 refine zCd (Znk hy2) [0,6,8,9] [true] ?_
 refine Zf ?_
 refine zQ [0,6,8,20] ?_
 refine Zo (t:=(!y2.2)) rfl (fun Jz => ?_) (fun Jz => ?_)
 ·replace h:=Zq Jz h
  refine Zf ?_
  refine Gi [6,7] [true] ?_
  refine zW ?_
  obtain rfl:=sI h
  refine Zl (.inr rfl) hU [.agg [(vI 0),(vI 0),(vI 0),(vI 0),(vI 0),(vI 0),(vI 0),(vB false),(vI 0),(vI 0)],(vI 7)] (by omega) ?_
  simp only [push_cast,seval,↓reduceIte,Zd,Tryz.results262,hN0,hN]
 replace h:=Zp Jz h
 refine Xs [0,6,8] [true] ?_
 obtain ⟨x3,hx3,ax3,bx3,cx3,h⟩:=bE (f:=(eI .u64)) Za6 (fun _=>rfl) (by decide) h
 obtain ⟨y4,hy4,h⟩:=bC h
 obtain ⟨x5,hx5,ax5,bx5,cx5,h⟩:=bE (f:=(eI .u64)) Za6 (fun _=>rfl) (by decide) h
 obtain ⟨y6,hy6,h⟩:=bC h
 refine Y1 (E':=⟨56,[],[(0,(gP Zh a0)),(6,.ref n 0),(10,.ref (n+1) 0),(11,.ref (n+2) 0)]⟩) (O':=(Zx O n [some ⟨false,228,10,1,[(vI 0),(vI 0),(vI 0),(vI 0),(vI 0),(vI 0),(vI 0),(vB false),(vI 0),(vI 0)]⟩,some ⟨false,191,8,1,(Xh y4)⟩,some ⟨false,191,8,1,(Xh y6)⟩])) (n0:=(n+3)) ?_ ?_
 ·refine Z7m Zs (by kernel_rfl) [.low,.low,.low,.low,.low,.low,.low,.low,.pass,.pass,.pass,.pass] (fun i=>i < (n+1)) 8 9 [0,1,2,3,4,5,6,7] [10,11] [.low,.low,.low,.low,.low,.low,.low,.low] [.pass,.pass,.pass,.pass] [.pass,.pass,.pass,.pass] [] (by kernel_rfl) rfl rfl rfl ?_
  refine zF6 ax3 bx3 cx3 ax5 bx5 cx5 ?_
  repeat (with_reducible refine And.intro (by omega) ?_)
  first | refine PCallA.of (fun _ _=>Za4 hy4) ?_ | refine PCall.of (Za4 hy4) ?_
  refine zF6 ax3 bx3 cx3 ax5 bx5 cx5 ?_
  repeat (with_reducible refine And.intro (by omega) ?_)
  first | refine PCallA.of (fun _ _=>Za4 hy6) ?_ | refine PCall.of (Za4 hy6) ?_
  refine zF6 ax3 bx3 cx3 ax5 bx5 cx5 ?_
  repeat (with_reducible refine And.intro (by omega) ?_)
  refine And.intro ?_ ?_
  ·refine zF6 ax3 bx3 cx3 ax5 bx5 cx5 ?_
   repeat (with_reducible refine And.intro (by first | exact Zjc rfl | exact Zg8) ?_)
   exact Yow ax3 bx3 cx3 ax5 bx5 cx5
  refine zF6 ax3 bx3 cx3 ax5 bx5 cx5 ?_
  repeat (with_reducible refine And.intro (by first | exact Zjc rfl | exact Zg8) ?_)
  refine And.intro rfl ?_
  refine Fit2.trans (E':=(⟨56,[],[(0,(gP Zh a0)),(6,.ref n 0),(10,.ref (n+2) 0),(11,.ref (n+1) 0)]⟩:Env)) (O':=(Zx O n [some ⟨false,228,10,1,[(vI 0),(vI 0),(vI 0),(vI 0),(vI 0),(vI 0),(vI 0),(vB false),(vI 0),(vI 0)]⟩,some ⟨false,191,8,1,(Xh y6)⟩,some ⟨false,191,8,1,(Xh y4)⟩])) (n':=(n+3)) (Fit2.of (Y0 hU rfl rfl ?_) (by omega)) ?_
  ·exact Ykc ax3 bx3 cx3 ax5 bx5 cx5
  refine Zcm (k:=3) (k':=3) hU [0,2,1] [0,2,1] rfl rfl rfl rfl ⟨rfl,rfl⟩ ?_
  exact zSe
 refine Zf ?_
 refine zQD [0,6,10,11,36] [none,none] ?_
 refine Zo (t:=(cond (y4.Kind != 3) true y4.Double)) rfl (fun c10 => ?_) (fun c10 => ?_)
 ·replace h:=Zq c10 h
  refine Zf ?_
  refine Gi [6,7] [true,false,false] ?_
  refine zW ?_
  obtain rfl:=sI h
  refine Zl (.inr rfl) hU [.agg [(vI 0),(vI 0),(vI 0),(vI 0),(vI 0),(vI 0),(vI 0),(vB false),(vI 0),(vI 0)],(vI 8)] (by omega) ?_
  simp only [push_cast,seval,↓reduceIte,Zd,Tryz.results262,hN0,hN]
 replace h:=Zp c10 h
 refine Xs [0,6,10,11] [true,true,true] ?_
 refine Zf ?_
 refine zQD [0,6,10,11,45] [none,none,none] ?_
 refine Zo (t:=(cond (y6.Kind != 4) (y6.Off != 0) false)) rfl (fun c9 => ?_) (fun c9 => ?_)
 ·replace h:=Zq c9 h
  refine Zf ?_
  refine Gi [6,7] [true,false,false] ?_
  refine zW ?_
  obtain rfl:=sI h
  refine Zl (.inr rfl) hU [.agg [(vI 0),(vI 0),(vI 0),(vI 0),(vI 0),(vI 0),(vI 0),(vB false),(vI 0),(vI 0)],(vI 8)] (by omega) ?_
  simp only [push_cast,seval,↓reduceIte,Zd,Tryz.results262,hN0,hN]
 replace h:=Zp c9 h
 refine Xs [0,6,10,11] [true,true,true] ?_
 refine Zf ?_
 obtain ⟨y8,hy8,h⟩:=bC h
 refine zCd (Zi4 hy8) [6,7] [true,false,false] ?_
 refine zW ?_
 obtain rfl:=sI h
 refine Zl (.inr rfl) hU [.agg [(vI y8.1.P.Kind),(vI y8.1.P.Off),(vI y8.1.P.Data),(vI y8.1.P.Ptrs),(vI y8.1.P.Code),(vI y8.1.P.Count),(vI y8.1.P.Segment),(vB y8.1.P.Double),(vI y8.1.Segment),(vI y8.1.At)],(vI y8.2)] (by omega) ?_
 simp only [push_cast,seval,↓reduceIte,Zd,Tryz.results262,hN0,hN]
theorem Zyc {a0:(Option Zn)} {a1:Int} {a2:Int} {r:(Qi×Int)} {O:Objs} {n:Nat} (h:Zeu a0 a1 a2=some r):GTo Tryz.prog 263 [(gP Zh a0),(vI a1),(vI a2)] O n (.tup [.agg [(vI r.1.P.Kind),(vI r.1.P.Off),(vI r.1.P.Data),(vI r.1.P.Ptrs),(vI r.1.P.Code),(vI r.1.P.Count),(vI r.1.P.Segment),(vB r.1.P.Double),(vI r.1.Segment),(vI r.1.At)],(vI r.2)]) O n:=by
 unfold Zeu at h
 refine Uw Zs Tryz.call263 Tryz.func263 rfl fun hU hN0 hN => ?_
 show W _ _ _ _ ⟨34,[],[(0,(gP Zh a0)),(1,(vI a1)),(2,(vI a2))]⟩ (Zx O n []) _
 refine zQ [0,1,2,6] ?_
 refine Zf ?_
 obtain ⟨y2,hy2,h⟩:=bC h
 refine zCd (G0 hy2) [0,1,2,6,8,9] [true] ?_
 refine Zf ?_
 refine zQ [0,1,2,6,8,19] ?_
 refine Zo (t:=(!y2.2)) rfl (fun c7 => ?_) (fun c7 => ?_)
 ·replace h:=Zq c7 h
  refine Zf ?_
  refine Gi [6,7] [true] ?_
  refine zW ?_
  obtain rfl:=sI h
  refine Zl (.inr rfl) hU [.agg [(vI 0),(vI 0),(vI 0),(vI 0),(vI 0),(vI 0),(vI 0),(vB false),(vI 0),(vI 0)],(vI 7)] (by omega) ?_
  simp only [push_cast,seval,↓reduceIte,Zd,Tryz.results263,hN0,hN]
 replace h:=Zp c7 h
 refine Xs [0,1,2,6,8] [true] ?_
 refine Zf ?_
 obtain ⟨y4,hy4,h⟩:=bC h
 refine zCd (Za4 hy4) [0,1,2,6,10] [true,true] ?_
 refine Zf ?_
 obtain ⟨y6,hy6,h⟩:=bC h
 refine zCd (Zi4 hy6) [6,7] [true,false] ?_
 refine zW ?_
 obtain rfl:=sI h
 refine Zl (.inr rfl) hU [.agg [(vI y6.1.P.Kind),(vI y6.1.P.Off),(vI y6.1.P.Data),(vI y6.1.P.Ptrs),(vI y6.1.P.Code),(vI y6.1.P.Count),(vI y6.1.P.Segment),(vB y6.1.P.Double),(vI y6.1.Segment),(vI y6.1.At)],(vI y6.2)] (by omega) ?_
 simp only [push_cast,seval,↓reduceIte,Zd,Tryz.results263,hN0,hN]
theorem Zya {a0:(Option Zn)} {a1:Int} {a2:Int} {r:(Qi×Int)} {O:Objs} {n:Nat} (h:Zes a0 a1 a2=some r):GTo Tryz.prog 207 [(gP Zh a0),(vI a1),(vI a2)] O n (.tup [.agg [(vI r.1.P.Kind),(vI r.1.P.Off),(vI r.1.P.Data),(vI r.1.P.Ptrs),(vI r.1.P.Code),(vI r.1.P.Count),(vI r.1.P.Segment),(vB r.1.P.Double),(vI r.1.Segment),(vI r.1.At)],(vI r.2)]) O n:=by
 unfold Zes at h
 refine Uw Zs Tryz.call207 Tryz.func207 rfl fun hU hN0 hN => ?_
 show W _ _ _ _ ⟨67,[],[(0,(gP Zh a0)),(1,(vI a1)),(2,(vI a2))]⟩ (Zx O n []) _
 refine zQ [0,1,2,6] ?_
 refine Zf ?_
 obtain ⟨y2,hy2,h⟩:=bC h
 refine zCd (G0 hy2) [0,1,2,6,8,9] [true] ?_
 refine Zf ?_
 refine zQ [0,1,2,6,8,19] ?_
 refine Zo (t:=(!y2.2)) rfl (fun c14 => ?_) (fun c14 => ?_)
 ·replace h:=Zq c14 h
  refine Zf ?_
  refine Gi [6,7] [true] ?_
  refine zW ?_
  obtain rfl:=sI h
  refine Zl (.inr rfl) hU [.agg [(vI 0),(vI 0),(vI 0),(vI 0),(vI 0),(vI 0),(vI 0),(vB false),(vI 0),(vI 0)],(vI 7)] (by omega) ?_
  simp only [push_cast,seval,↓reduceIte,Zd,Tryz.results207,hN0,hN]
 replace h:=Zp c14 h
 refine Xs [0,1,2,6,8] [true] ?_
 refine Zf ?_
 obtain ⟨y4,hy4,h⟩:=bC h
 refine zCd (Za4 hy4) [0,1,2,6,10] [true,true] ?_
 refine Zf ?_
 refine Yh ?_
 refine zQ [0,1,2,6,10,23] ?_
 refine Zo (t:=(y4.Kind == 0)) rfl (fun c13 => ?_) (fun c13 => ?_)
 ·replace h:=Zq c13 h
  refine Zf ?_
  refine Gi [6,7] [true,false] ?_
  refine zW ?_
  obtain rfl:=sI h
  refine Zl (.inr rfl) hU [.agg [(vI 0),(vI 0),(vI 0),(vI 0),(vI 0),(vI 0),(vI 0),(vB false),(vI 0),(vI 0)],(vI 0)] (by omega) ?_
  simp only [push_cast,seval,↓reduceIte,Zd,Tryz.results207,hN0,hN]
 replace h:=Zp c13 h
 refine zQD [0,1,2,6,10,28] [none,none] ?_
 refine Zo (t:=(cond (y4.Kind == 3) y4.Double false)) rfl (fun G9 => ?_) (fun G9 => ?_)
 ·replace h:=Zq G9 h
  refine Zf ?_
  obtain ⟨y6,hy6,h⟩:=bC h
  refine zCd (Zyb hy6) [6,7] [true,false] ?_
  refine zW ?_
  obtain rfl:=sI h
  refine Zl (.inr rfl) hU [.agg [(vI y6.1.P.Kind),(vI y6.1.P.Off),(vI y6.1.P.Data),(vI y6.1.P.Ptrs),(vI y6.1.P.Code),(vI y6.1.P.Count),(vI y6.1.P.Segment),(vB y6.1.P.Double),(vI y6.1.Segment),(vI y6.1.At)],(vI y6.2)] (by omega) ?_
  simp only [push_cast,seval,↓reduceIte,Zd,Tryz.results207,hN0,hN]
 replace h:=Zp G9 h
 refine zQ [0,1,2,6,10,44] ?_
 refine Zo (t:=(y4.Kind == 3)) rfl (fun Jz => ?_) (fun Jz => ?_)
 ·replace h:=Zq Jz h
  refine Zf ?_
  obtain ⟨y8,hy8,h⟩:=bC h
  refine zCd (Zyc hy8) [6,7] [true,false] ?_
  refine zW ?_
  obtain rfl:=sI h
  refine Zl (.inr rfl) hU [.agg [(vI y8.1.P.Kind),(vI y8.1.P.Off),(vI y8.1.P.Data),(vI y8.1.P.Ptrs),(vI y8.1.P.Code),(vI y8.1.P.Count),(vI y8.1.P.Segment),(vB y8.1.P.Double),(vI y8.1.Segment),(vI y8.1.At)],(vI y8.2)] (by omega) ?_
  simp only [push_cast,seval,↓reduceIte,Zd,Tryz.results207,hN0,hN]
 replace h:=Zp Jz h
 refine Xs [0,1,2,6,10] [true,true] ?_
 refine Zf ?_
 obtain ⟨y10,hy10,h⟩:=bC h
 refine zCd (Zi4 hy10) [6,7] [true,false] ?_
 refine zW ?_
 obtain rfl:=sI h
 refine Zl (.inr rfl) hU [.agg [(vI y10.1.P.Kind),(vI y10.1.P.Off),(vI y10.1.P.Data),(vI y10.1.P.Ptrs),(vI y10.1.P.Code),(vI y10.1.P.Count),(vI y10.1.P.Segment),(vB y10.1.P.Double),(vI y10.1.Segment),(vI y10.1.At)],(vI y10.2)] (by omega) ?_
 simp only [push_cast,seval,↓reduceIte,Zd,Tryz.results207,hN0,hN]
theorem Znp {a0:Zb} {r:(Zb×Int)} {O:Objs} {n:Nat} (h:Zb0 a0=some r):GTo Tryz.prog 208 [.agg (Zk a0)] O n (.tup [.agg (Zk r.1),(vI r.2)]) O n:=by
 unfold Zb0 at h
 refine Uw Zs Tryz.call208 Tryz.func208 rfl fun hU hN0 hN => ?_
 show W _ _ _ _ ⟨56,[],[(0,.agg (Zk a0))]⟩ (Zx O n []) _
 refine zQ [1,2] ?_
 refine Zf ?_
 obtain ⟨y2,hy2,h⟩:=bC h
 refine zCd (G0 hy2) [1,2,4] [true,true] ?_
 refine Zf ?_
 obtain ⟨y4,hy4,h⟩:=bC h
 refine zCd (Za4 hy4) [1,2,6] [true,true,true] ?_
 refine Zf ?_
 refine zQD [1,2,6,44] [none,none,none,none,none,none,none,none,none,none,none,none,none,none,none,none,none] ?_
 refine Zo (t:=(cond (cond (cond (y4.Kind != 0) (y4.Kind != 1) false) true (decide (y4.Off < 0))) true (decide (a0.count < (IntKind.i64.wrap (y4.Off * (IntKind.i64.wrap (y4.Data+y4.Ptrs)))))))) rfl (fun c5 => ?_) (fun c5 => ?_)
 ·replace h:=Zq c5 h
  refine Zf ?_
  refine Gi [2,3] [false,true,false] ?_
  refine zW ?_
  obtain rfl:=sI h
  refine Zl (.inr rfl) hU [.agg [.val (.pointer none),(vI 0),(vI 0),(vI 0),(vI 0),(vI 0),(vI 0),(vI 0),(vI 0)],(vI 8)] (by omega) ?_
  simp only [push_cast,seval,↓reduceIte,Zd,Tryz.results208,hN0,hN]
 replace h:=Zp c5 h
 refine Xs [1,2,6] [true,true,true] ?_
 refine Zf ?_
 refine Zai Zs (by kernel_rfl) [.plain,.plain,.low,.low,.low,.low,.plain,.pass,.plain,.pass,.plain,.bar] (fun i=>i≠n+0) [0,1,2,3,4,5,6,7,8,9,10,11] [.plain,.plain,.low,.low,.low,.low,.plain,.pass,.plain,.pass,.plain,.bar] [] (by kernel_rfl) rfl ?_
 refine zS ?_
 refine zO ?_
 refine zDs [1,2] [true,true,false] ?_
 refine Gi [2,3] [false,true,false] ?_
 refine zW ?_
 obtain rfl:=sI h
 refine Zl (.inr rfl) hU [.agg [(gP Zh a0.a),(vI a0.kind),(vI a0.segment),(vI a0.at_),(vI y4.Data),(vI y4.Ptrs),(vI y4.Off),(vI a0.code),(vI a0.index)],(vI 0)] (by omega) ?_
 simp only [push_cast,seval,↓reduceIte,Zd,Tryz.results208,hN0,hN]
theorem Zkq {a0:(Option Zn)} {a1:Int} {a2:Int} {r:(Zb×Int)} {O:Objs} {n:Nat} (h:Zcv a0 a1 a2=some r):GTo Tryz.prog 140 [(gP Zh a0),(vI a1),(vI a2)] O n (.tup [.agg (Zk r.1),(vI r.2)]) O n:=by
 unfold Zcv at h
 refine Uw Zs Tryz.call140 Tryz.func140 rfl fun hU hN0 hN => ?_
 show W _ _ _ _ ⟨66,[],[(0,(gP Zh a0)),(1,(vI a1)),(2,(vI a2))]⟩ (Zx O n []) _
 refine zQ [0,1,2,6] ?_
 refine Zf ?_
 obtain ⟨y2,hy2,h⟩:=bC h
 refine zCd (Zya hy2) [0,6,8,9] [true,true] ?_
 refine Zf ?_
 refine zQD [0,6,8,9,25] [none,none,none,none] ?_
 refine Zo (t:=(cond (y2.2 != 0) true (y2.1.P.Kind == 0))) rfl (fun c7 => ?_) (fun c7 => ?_)
 ·replace h:=Zq c7 h
  refine Zf ?_
  refine Gi [6,7] [true,false] ?_
  refine zW ?_
  obtain rfl:=sI h
  refine Zl (.inr rfl) hU [.agg [.val (.pointer none),(vI 0),(vI 0),(vI 0),(vI 0),(vI 0),(vI 0),(vI 0),(vI 0)],(vI y2.2)] (by omega) ?_
  simp only [push_cast,seval,↓reduceIte,Zd,Tryz.results140,hN0,hN]
 replace h:=Zp c7 h
 refine Xs [0,6,8] [true,true] ?_
 refine Zf ?_
 refine Gi [6,8,10] [true,true,true] ?_
 refine Zf ?_
 refine zQ [6,8,10,37] ?_
 refine Zo (t:=(y2.1.P.Kind == 1)) rfl (fun c6 => ?_) (fun c6 => ?_)
 ·replace h:=Zq c6 h
  refine Zf ?_
  refine Zai Zs (by kernel_rfl) [.low,.low,.low,.low,.low,.low,.plain,.pass,.plain,.pass,.plain,.bar] (fun i=>i≠n+2) [0,1,2,3,4,5,6,7,8,9,10,11] [.low,.low,.low,.low,.low,.low,.plain,.pass,.plain,.pass,.plain,.bar] [] (by kernel_rfl) rfl ?_
  refine zS ?_
  refine zO ?_
  refine zDs [6,10] [true,false,true] ?_
  refine Gi [6,7] [true,false,false] ?_
  refine zW ?_
  obtain rfl:=sI h
  refine Zl (.inr rfl) hU [.agg [(gP Zh a0),(vI 1),(vI y2.1.Segment),(vI y2.1.At),(vI y2.1.P.Data),(vI y2.1.P.Ptrs),(vI 0),(vI 0),(vI 0)],(vI 0)] (by omega) ?_
  simp only [push_cast,seval,↓reduceIte,Zd,Tryz.results140,hN0,hN]
 replace h:=Zp c6 h
 refine Xs [6,8,10] [true,true,true] ?_
 refine Zf ?_
 refine Zai Zs (by kernel_rfl) [.plain,.plain,.plain,.plain,.low,.low,.low,.plain,.pass,.plain,.bar] (fun i=>i≠n+2) [0,1,2,3,4,5,6,7,8,9,10] [.plain,.plain,.plain,.plain,.low,.low,.low,.plain,.pass,.plain,.bar] [] (by kernel_rfl) rfl ?_
 refine zS ?_
 refine zO ?_
 refine zDs [6,8,10] [true,true,true] ?_
 refine zQ [6,10,60] ?_
 refine Zo (t:=(y2.1.P.Code == 7)) rfl (fun c5 => ?_) (fun c5 => ?_)
 ·replace h:=Zq c5 h
  refine Zf ?_
  obtain ⟨y4,hy4,h⟩:=bC h
  refine zCd (Znp hy4) [6,7] [true,false,false] ?_
  refine zW ?_
  obtain rfl:=sI h
  refine Zl (.inr rfl) hU [.agg (Zk y4.1),(vI y4.2)] (by omega) ?_
  simp only [push_cast,seval,↓reduceIte,Zd,Tryz.results140,hN0,hN]
 replace h:=Zp c5 h
 refine Xs [6,10] [true,false,true] ?_
 refine Zf ?_
 refine Gi [6,7] [true,false,false] ?_
 refine zW ?_
 obtain rfl:=sI h
 refine Zl (.inr rfl) hU [.agg [(gP Zh a0),(vI (IntKind.i64.wrap (y2.1.P.Code+2))),(vI y2.1.Segment),(vI y2.1.At),(vI 0),(vI 0),(vI y2.1.P.Count),(vI 0),(vI 0)],(vI 0)] (by omega) ?_
 simp only [push_cast,seval,↓reduceIte,Zd,Tryz.results140,hN0,hN]
theorem Zxh {a0:(Option Zn)} {r:(Zb×Int)} {O:Objs} {n:Nat} (h:Zdt a0=some r):GTo Tryz.prog 86 [(gP Zh a0)] O n (.tup [.agg (Zk r.1),(vI r.2)]) O n:=by
 unfold Zdt at h
 refine Uw Zs Tryz.call86 Tryz.func86 rfl fun hU hN0 hN => ?_
 show W _ _ _ _ ⟨8,[],[(0,(gP Zh a0))]⟩ (Zx O n []) _
 refine zQ [0,2] ?_
 refine Zf ?_
 obtain ⟨y2,hy2,h⟩:=bC h
 refine zCd (Zkq hy2) [2,3] [true] ?_
 refine zW ?_
 obtain rfl:=sI h
 refine Zl (.inr rfl) hU [.agg (Zk y2.1),(vI y2.2)] (by omega) ?_
 simp only [push_cast,seval,↓reduceIte,Zd,Tryz.results86,hN0,hN]
theorem Zd6 {a0:(List (List Int))} {r:Zb} {O:Objs} {n:Nat} (h:Um a0=some r):GTo Tryz.prog 47 [(sL (eL (eI .u64)) a0)] O n (.agg (Zk r)) O n:=by
 unfold Um at h
 refine Uw Zs Tryz.call47 Tryz.func47 rfl fun hU hN0 hN => ?_
 show W _ _ _ _ ⟨12,[],[(0,(sL (eL (eI .u64)) a0))]⟩ (Zx O n []) _
 refine zQ [0,2] ?_
 refine Zf ?_
 obtain ⟨y3,hy3,h⟩:=bC h
 obtain ⟨y4,hy4,h⟩:=bC h
 refine zC (Z43 hy3) ?_
 refine zTs (Zxh hy4) ?_
 refine zDs [2,3] [true,true] ?_
 refine Gi [2] [true,false] ?_
 refine zW ?_
 obtain rfl:=sI h
 refine Zl (.inr rfl) hU [.agg (Zk y4.1)] (by omega) ?_
 simp only [push_cast,seval,↓reduceIte,Zd,Tryz.results47,hN0,hN]
theorem Q0 {a0:Zb} {r:Int} {O:Objs} {n:Nat} (h:Xf a0=some r):GTo Tryz.prog 136 [.agg (Zk a0)] O n ((vI r)) O n:=by
 unfold Xf at h
 refine Uw Zs Tryz.call136 Tryz.func136 rfl fun hU hN0 hN => ?_
 show W _ _ _ _ ⟨5,[],[(0,.agg (Zk a0))]⟩ (Zx O n []) _
 refine zQ [1] ?_
 refine zQ [2] ?_
 refine zW ?_
 obtain rfl:=sI h
 refine Zl (.inr rfl) hU [(vI a0.kind)] (by omega) ?_
 simp only [push_cast,seval,↓reduceIte,Zd,Tryz.results136,hN0,hN]
theorem U6 {a0:Zb} {r:Int} {O:Objs} {n:Nat} (h:Qx a0=some r):GTo Tryz.prog 223 [.agg (Zk a0)] O n ((vI r)) O n:=by
 unfold Qx at h
 refine Uw Zs Tryz.call223 Tryz.func223 rfl fun hU hN0 hN => ?_
 show W _ _ _ _ ⟨11,[],[(0,.agg (Zk a0))]⟩ (Zx O n []) _
 refine zQ [1] ?_
 refine Zf ?_
 refine zQ [1,4] ?_
 refine Yh ?_
 refine zQ [1,4,5] ?_
 refine Zo (t:=(a0.kind == 1)) rfl (fun c2 => ?_) (fun c2 => ?_)
 ·replace h:=Zq c2 h
  refine zQ [2] ?_
  refine zW ?_
  obtain rfl:=sI h
  refine Zl (.inr rfl) hU [(vI a0.words)] (by omega) ?_
  simp only [push_cast,seval,↓reduceIte,Zd,Tryz.results223,hN0,hN]
 replace h:=Zp c2 h
 refine zQ [9] ?_
 refine Zo (t:=(a0.kind == 10)) rfl (fun c1 => ?_) (fun c1 => ?_)
 ·replace h:=Zq c1 h
  refine zQ [2] ?_
  refine zW ?_
  obtain rfl:=sI h
  refine Zl (.inr rfl) hU [(vI 1)] (by omega) ?_
  simp only [push_cast,seval,↓reduceIte,Zd,Tryz.results223,hN0,hN]
 replace h:=Zp c1 h
 refine Xs [] [false] ?_
 refine zQ [2] ?_
 refine zW ?_
 obtain rfl:=sI h
 refine Zl (.inr rfl) hU [(vI 0)] (by omega) ?_
 simp only [push_cast,seval,↓reduceIte,Zd,Tryz.results223,hN0,hN]
theorem Xw {a0:Zb} {r:Int} {O:Objs} {n:Nat} (h:Xi a0=some r):GTo Tryz.prog 202 [.agg (Zk a0)] O n ((vI r)) O n:=by
 unfold Xi at h
 refine Uw Zs Tryz.call202 Tryz.func202 rfl fun hU hN0 hN => ?_
 show W _ _ _ _ ⟨10,[],[(0,.agg (Zk a0))]⟩ (Zx O n []) _
 refine zQ [1] ?_
 refine Zf ?_
 refine zQ [1,5] ?_
 refine Zo (t:=(a0.kind == 1)) rfl (fun c1 => ?_) (fun c1 => ?_)
 ·replace h:=Zq c1 h
  refine zQ [2] ?_
  refine zW ?_
  obtain rfl:=sI h
  refine Zl (.inr rfl) hU [(vI a0.ptrs)] (by omega) ?_
  simp only [push_cast,seval,↓reduceIte,Zd,Tryz.results202,hN0,hN]
 replace h:=Zp c1 h
 refine Xs [1] [true] ?_
 refine zQ [2] ?_
 refine zW ?_
 obtain rfl:=sI h
 refine Zl (.inr rfl) hU [(vI a0.count)] (by omega) ?_
 simp only [push_cast,seval,↓reduceIte,Zd,Tryz.results202,hN0,hN]
theorem Zsv {a0:Zb} {r:Int} {O:Objs} {n:Nat} (h:Zb9 a0=some r):GTo Tryz.prog 272 [.agg (Zk a0)] O n ((vI r)) O n:=by
 unfold Zb9 at h
 refine Uw Zs Tryz.call272 Tryz.func272 rfl fun hU hN0 hN => ?_
 show W _ _ _ _ ⟨20,[],[(0,.agg (Zk a0))]⟩ (Zx O n []) _
 refine zQ [1] ?_
 refine Zf ?_
 refine Zf ?_
 obtain ⟨y2,hy2,h⟩:=bC h
 refine zCd (Q0 hy2) [1,4] [true] ?_
 refine Yh ?_
 refine zQ [1,4,5] ?_
 refine Zo (t:=(y2 == 0)) rfl (fun Jz => ?_) (fun Jz => ?_)
 ·replace h:=Zq Jz h
  refine zQ [2] ?_
  refine zW ?_
  obtain rfl:=sI h
  refine Zl (.inr rfl) hU [(vI 0)] (by omega) ?_
  simp only [push_cast,seval,↓reduceIte,Zd,Tryz.results272,hN0,hN]
 replace h:=Zp Jz h
 refine zQ [1,4,7] ?_
 refine Zo (t:=(y2 == 1)) rfl (fun c10 => ?_) (fun c10 => ?_)
 ·replace h:=Zq c10 h
  refine Zf ?_
  obtain ⟨y5,hy5,h⟩:=bC h
  obtain ⟨y6,hy6,h⟩:=bC h
  refine Xl Zs (by kernel_rfl) [] (by kernel_rfl) ?_
  refine zS ?_
  refine PCall.of (U6 hy5) ?_
  refine zS ?_
  refine PCall.of (Xw hy6) ?_
  refine zS ?_
  refine zD [2] [false] ?_
  refine zW ?_
  obtain rfl:=sI h
  refine Zl (.inr rfl) hU [(vI (IntKind.i64.wrap ((IntKind.i64.wrap (1+y5))+y6)))] (by omega) ?_
  simp only [push_cast,seval,↓reduceIte,Zd,Tryz.results272,hN0,hN]
 replace h:=Zp c10 h
 refine zQ [1,15] ?_
 refine Zo (t:=(y2 == 8)) rfl (fun c9 => ?_) (fun c9 => ?_)
 ·replace h:=Zq c9 h
  refine Zf ?_
  obtain ⟨y8,hy8,h⟩:=bC h
  refine zCd (Xw hy8) [2] [false] ?_
  refine zW ?_
  obtain rfl:=sI h
  refine Zl (.inr rfl) hU [(vI (IntKind.i64.wrap (1+y8)))] (by omega) ?_
  simp only [push_cast,seval,↓reduceIte,Zd,Tryz.results272,hN0,hN]
 replace h:=Zp c9 h
 refine Xs [] [false] ?_
 refine zQ [2] ?_
 refine zW ?_
 obtain rfl:=sI h
 refine Zl (.inr rfl) hU [(vI 1)] (by omega) ?_
 simp only [push_cast,seval,↓reduceIte,Zd,Tryz.results272,hN0,hN]
theorem Zpt {a0:Int} {r:Bool} {O:Objs} {n:Nat} (h:Zcw a0=some r):GTo Tryz.prog 126 [(vI a0)] O n ((vB r)) O n:=by
 unfold Zcw at h
 refine Uw Zs Tryz.call126 Tryz.func126 rfl fun hU hN0 hN => ?_
 show W _ _ _ _ ⟨9,[],[(0,(vI a0))]⟩ (Zx O n []) _
 refine zQ [0] ?_
 refine zQD [2] [none,none] ?_
 refine zW ?_
 obtain rfl:=sI h
 refine Zl (.inr rfl) hU [(vB (cond (decide (2≤a0)) (decide (a0≤9)) false))] (by omega) ?_
 simp only [push_cast,seval,↓reduceIte,Zd,Tryz.results126,hN0,hN]
theorem Zt3 {a0:Zb} {r:Bool} {O:Objs} {n:Nat} (h:Zcx a0=some r):GTo Tryz.prog 273 [.agg (Zk a0)] O n ((vB r)) O n:=by
 unfold Zcx at h
 refine Uw Zs Tryz.call273 Tryz.func273 rfl fun hU hN0 hN => ?_
 show W _ _ _ _ ⟨11,[],[(0,.agg (Zk a0))]⟩ (Zx O n []) _
 refine zQ [1] ?_
 obtain ⟨z4,hz4,h⟩:=bC h
 refine Y1 (E':=⟨11,[],[(2,(vB z4))]⟩) (O':=(Zx O n [none])) (n0:=(n+1)) ?_ ?_
 ·obtain ⟨y8,hy8,hz4⟩:=bC hz4
  rcases Bool.eq_false_or_eq_true (y8 == 1) with Jz | Jz
  ·replace hz4:=Zq Jz hz4
   refine Vi (Z6y []) Jz ?_
   refine (Q0 hy8).then ?_
   refine zX1 Jz ?_
   exact Ju hz4 Jz
  replace hz4:=Zp Jz hz4
  obtain ⟨y9,hy9,hz4⟩:=bC hz4
  obtain ⟨y10,hy10,hz4⟩:=bC hz4
  refine Vi (Z0p []) Jz ?_
  refine (Q0 hy8).then ?_
  refine zX1 Jz ?_
  refine (Q0 hy9).then ?_
  refine zX1 Jz ?_
  refine (Zpt hy10).then ?_
  refine zX1 Jz ?_
  exact Ju hz4 Jz
 refine zW ?_
 obtain rfl:=sI h
 refine Zl (.inr rfl) hU [(vB z4)] (by omega) ?_
 simp only [push_cast,seval,↓reduceIte,Zd,Tryz.results273,hN0,hN]
theorem Zny {a0:Int} {r:(Int×Bool)} {O:Objs} {n:Nat} (h:Zde a0=some r):GTo Tryz.prog 282 [(vI a0)] O n (.tup [(vI r.1),(vB r.2)]) O n:=by
 unfold Zde at h
 refine Uw Zs Tryz.call282 Tryz.func282 rfl fun hU hN0 hN => ?_
 show W _ _ _ _ ⟨15,[],[(0,(vI a0))]⟩ (Zx O n []) _
 refine zQ [0] ?_
 refine Zf ?_
 obtain ⟨y6,hy6,ey6,h⟩:=bY (f:=(eI .i64)) (cs:=[.val (.int .i64 0),.val (.int .i64 1),.val (.int .i64 8),.val (.int .i64 16),.val (.int .i64 32),.val (.int .i64 64)]) rfl h
 have g7:=congrArg G.agg ey6
 obtain ⟨y8,hy8,ey8,h⟩:=bY (f:=(eI .i64)) (cs:=[.val (.int .i64 0),.val (.int .i64 0),.val (.int .i64 0),.val (.int .i64 0),.val (.int .i64 0),.val (.int .i64 0)]) rfl h
 have g9:=congrArg (GObj.mk false 346 6 1) ey8
 have g10:=Zff (f:=(eI .i64)) y8 y6 (fun _=>rfl)
 refine Za0 [] g7 g9 g10 ?_
 refine zDs [0,4] [true] ?_
 refine zQD [0,4,11] [none,none] ?_
 refine Zo (t:=(cond (decide (a0 < 0)) true (decide (6≤a0)))) rfl (fun c13 => ?_) (fun c13 => ?_)
 ·replace h:=Zq c13 h
  refine zQ [2,3] ?_
  refine zW ?_
  obtain rfl:=sI h
  refine Zl (.inr rfl) hU [(vI 0),(vB false)] (by omega) ?_
  simp only [push_cast,seval,↓reduceIte,Zd,Tryz.results282,hN0,hN]
 replace h:=Zp c13 h
 refine Xs [0,4] [true] ?_
 obtain ⟨x12,hx12,ax12,bx12,cx12,h⟩:=bEA (f:=(eI .i64)) (b:=6) rfl Ztb (fun _=>rfl) (by decide) h
 refine Zef [2,3] (Yr Zs [] ?_)
 refine zF3 ax12 bx12 cx12 ?_
 refine zW ?_
 obtain rfl:=sI h
 refine Zl (.inr rfl) hU [(vI x12),(vB true)] (by omega) ?_
 simp only [push_cast,seval,↓reduceIte,Zd,Tryz.results282,hN0,hN]
theorem Z45 {a0:(List Int)} {a1:Int} {a2:Int} {r:Int} {O:Objs} {n:Nat} (h:Zhl a0 a1 a2=some r):GTo Tryz.prog 298 [(sL (eI .u64) a0),(vI a1),(vI a2)] O n (.val (.int .u64 r)) O n:=by
 unfold Zhl at h
 refine Uw Zs Tryz.call298 Tryz.func298 rfl fun hU hN0 hN => ?_
 show W _ _ _ _ ⟨45,[],[(0,(sL (eI .u64) a0)),(1,(vI a1)),(2,(vI a2))]⟩ (Zx O n []) _
 refine zQ [0,1,2] ?_
 refine Zf ?_
 obtain ⟨y2,hy2,h⟩:=bC h
 refine zCd (Zny hy2) [0,2,7] [] ?_
 refine Zf ?_
 refine zQD [0,2,7,20] [none,none] ?_
 refine Zo (t:=(cond (y2.1 == 0) true (decide (a2 < 0)))) rfl (fun c18 => ?_) (fun c18 => ?_)
 ·replace h:=Zq c18 h
  refine zQ [6] ?_
  refine zW ?_
  obtain rfl:=sI h
  refine Zl (.inr rfl) hU [.val (.int .u64 0)] (by omega) ?_
  simp only [push_cast,seval,↓reduceIte,Zd,Tryz.results298,hN0,hN]
 replace h:=Zp c18 h
 refine Xs [0,2,7] [] ?_
 obtain ⟨pu4,h⟩:=bG h
 refine Zef [0,2,7,9] (Yr Zs [] ?_)
 simp only [push_cast,seval,↓reduceIte,Zd,pu4,hN0,hN]
 refine Zf ?_
 obtain ⟨pu6,h⟩:=bG h
 refine Zef [0,2,7,9,28] (Yr Zs [] ?_)
 simp only [push_cast,seval,↓reduceIte,Zd,pu6,hN0,hN]
 refine Zo (t:=(decide ((a0.length:Int)≤(IntKind.i64.wrap (Int.tdiv a2 (IntKind.i64.wrap (Int.tdiv 64 y2.1))))))) rfl (fun c17 => ?_) (fun c17 => ?_)
 ·replace h:=Zq c17 h
  refine zQ [6] ?_
  refine zW ?_
  obtain rfl:=sI h
  refine Zl (.inr rfl) hU [.val (.int .u64 0)] (by omega) ?_
  simp only [push_cast,seval,↓reduceIte,Zd,Tryz.results298,hN0,hN]
 replace h:=Zp c17 h
 refine Xs [0,2,7,9] [] ?_
 obtain ⟨pu12,h⟩:=bG h
 obtain ⟨x13,hx13,ax13,bx13,cx13,h⟩:=bE (f:=(eI .u64)) Za6 (fun _=>rfl) (by decide) h
 obtain ⟨pu14,h⟩:=bG h
 obtain ⟨pu15,h⟩:=bG h
 obtain ⟨pu16,h⟩:=bG h
 refine Zef [6] (Xl Zs (by kernel_rfl) [] (by kernel_rfl) ?_)
 refine zF7 pu12 ax13 bx13 cx13 pu14 pu15 pu16 ?_
 refine zW ?_
 obtain rfl:=sI h
 refine Zl (.inr rfl) hU [.val (.int .u64 (IntKind.u64.wrap (Uz .u64 (Int.fdiv x13 (2 ^ min (Int.toNat (IntKind.i64.wrap ((Int.tmod a2 (IntKind.i64.wrap (Int.tdiv 64 y2.1))) * y2.1))) 64)) (IntKind.u64.wrap ((IntKind.u64.wrap (1 * 2 ^ min (Int.toNat y2.1) 64)) - 1)))))] (by omega) ?_
 simp only [push_cast,seval,↓reduceIte,Zd,Tryz.results298,hN0,hN]
theorem Zmd {a0:Zb} {r:Int} {O:Objs} {n:Nat} (h:U2 a0=some r):GTo Tryz.prog 257 [.agg (Zk a0)] O n (.val (.int .u64 r)) O n:=by
 unfold U2 at h
 refine Uw Zs Tryz.call257 Tryz.func257 rfl fun hU hN0 hN => ?_
 show W _ _ _ _ ⟨42,[],[(0,.agg (Zk a0))]⟩ (Zx O n []) _
 refine zQ [1] ?_
 refine Zf ?_
 obtain ⟨y2,hy2,h⟩:=bC h
 refine zCd (Zny hy2) [1,3] [true] ?_
 refine Zf ?_
 refine zQ [1,3,15] ?_
 refine Zo (t:=(y2.1 == 0)) rfl (fun c13 => ?_) (fun c13 => ?_)
 ·replace h:=Zq c13 h
  refine zQ [2] ?_
  refine zW ?_
  obtain rfl:=sI h
  refine Zl (.inr rfl) hU [.val (.int .u64 0)] (by omega) ?_
  simp only [push_cast,seval,↓reduceIte,Zd,Tryz.results257,hN0,hN]
 replace h:=Zp c13 h
 refine Xs [1,3] [true] ?_
 obtain ⟨pu4,h⟩:=bG h
 refine Zef [1,5] (Yr Zs [] ?_)
 simp only [push_cast,seval,↓reduceIte,Zd,pu4,hN0,hN]
 refine Zf ?_
 obtain ⟨pu7,h⟩:=bG h
 obtain ⟨y8,hy8,h⟩:=bC h
 refine Xl Zs (by kernel_rfl) [] (by kernel_rfl) ?_
 simp only [push_cast,seval,↓reduceIte,Zd,pu7,hN0,hN]
 refine PCall.of (G0 hy8) ?_
 simp only [push_cast,seval,↓reduceIte,Zd,pu7,hN0,hN]
 refine zDs [1,5,6] [true] ?_
 obtain ⟨pu11,h⟩:=bG h
 obtain ⟨y12,hy12,h⟩:=bC h
 refine Zai Zs (by kernel_rfl) [.plain,.pass,.low,.low,.low,.low,.plain,.low,.bar,.plain] (fun i=>i < (n+1)) [0,2,3,4,5,6,7,1,8,9] [.plain,.low,.low,.low,.low,.plain,.low,.pass,.bar,.plain] [] (by kernel_rfl) rfl ?_
 simp only [push_cast,seval,↓reduceIte,Zd,pu11,hN0,hN]
 refine zO ?_
 refine GCalls.lend (Z45 hy12) rfl ?_ ?_
 ·simp only [push_cast,seval,↓reduceIte,Zd,pu11,hN0,hN]
 simp only [push_cast,seval,↓reduceIte,Zd,pu11,hN0,hN]
 refine zO ?_
 refine Za5 ⟨42,[],[(2,.val (.int .u64 y12))]⟩ (Zx O n [none,none]) (Y0 hU rfl rfl ?_) ?_
 ·simp only [push_cast,seval,↓reduceIte,Zd,pu11,hN0,hN]
 refine zW ?_
 obtain rfl:=sI h
 refine Zl (.inr rfl) hU [.val (.int .u64 y12)] (by omega) ?_
 simp only [push_cast,seval,↓reduceIte,Zd,Tryz.results257,hN0,hN]
theorem V5 {a0:Zb} {a1:Int} {r:Int} {O:Objs} {n:Nat} (h:Qn a0 a1=some r):GTo Tryz.prog 201 [.agg (Zk a0),(vI a1)] O n (.val (.int .u64 r)) O n:=by
 unfold Qn at h
 refine Uw Zs Tryz.call201 Tryz.func201 rfl fun hU hN0 hN => ?_
 show W _ _ _ _ ⟨33,[],[(0,.agg (Zk a0)),(1,(vI a1))]⟩ (Zx O n []) _
 refine zQ [1,2] ?_
 refine Zf ?_
 obtain ⟨z2,hz2,h⟩:=bC h
 refine Y1 (E':=⟨33,[],[(1,(vI a1)),(2,.ref n 0),(14,(vB z2))]⟩) (O':=(Zx O n [some ⟨false,62,9,1,(Zk a0)⟩])) (n0:=(n+1)) ?_ ?_
 ·rcases Bool.eq_false_or_eq_true (decide (a1 < 0)) with c5 | c5
  ·replace hz2:=Zq c5 hz2
   refine Vi (Z4x []) c5 ?_
   exact Ju hz2 c5
  replace hz2:=Zp c5 hz2
  obtain ⟨y4,hy4,hz2⟩:=bC hz2
  refine Vi (Zx8 []) c5 ?_
  refine (U6 hy4).then ?_
  refine zX1 c5 ?_
  exact Ju hz2 c5
 refine Zo (t:=z2) rfl (fun Jz => ?_) (fun Jz => ?_)
 ·replace h:=Zq Jz h
  refine zQ [4] ?_
  refine zW ?_
  obtain rfl:=sI h
  refine Zl (.inr rfl) hU [.val (.int .u64 0)] (by omega) ?_
  simp only [push_cast,seval,↓reduceIte,Zd,Tryz.results201,hN0,hN]
 replace h:=Zp Jz h
 refine Xs [1,2] [true] ?_
 refine Zf ?_
 refine zQ [1,2,17] ?_
 refine Zo (t:=(a0.kind == 10)) rfl (fun c10 => ?_) (fun c10 => ?_)
 ·replace h:=Zq c10 h
  refine Zf ?_
  obtain ⟨y7,hy7,h⟩:=bC h
  refine zCd (Zmd hy7) [4] [false] ?_
  refine zW ?_
  obtain rfl:=sI h
  refine Zl (.inr rfl) hU [.val (.int .u64 y7)] (by omega) ?_
  simp only [push_cast,seval,↓reduceIte,Zd,Tryz.results201,hN0,hN]
 replace h:=Zp c10 h
 refine Xs [1,2] [true] ?_
 refine Zf ?_
 obtain ⟨y9,hy9,h⟩:=bC h
 refine zCd (G0 hy9) [5] [false] ?_
 refine zQ [4] ?_
 refine zW ?_
 obtain rfl:=sI h
 refine Zl (.inr rfl) hU [.val (.int .u64 y9.1)] (by omega) ?_
 simp only [push_cast,seval,↓reduceIte,Zd,Tryz.results201,hN0,hN]
theorem Zck {a0:Zb} {a1:Int} {r:(Zb×Int)} {O:Objs} {n:Nat} (h:K2 a0 a1=some r):GTo Tryz.prog 224 [.agg (Zk a0),(vI a1)] O n (.tup [.agg (Zk r.1),(vI r.2)]) O n:=by
 unfold K2 at h
 refine Uw Zs Tryz.call224 Tryz.func224 rfl fun hU hN0 hN => ?_
 show W _ _ _ _ ⟨81,[],[(0,.agg (Zk a0)),(1,(vI a1))]⟩ (Zx O n []) _
 refine zQ [1,2,4] ?_
 refine Zf ?_
 obtain ⟨z2,hz2,h⟩:=bC h
 refine Y1 (E':=⟨81,[],[(1,(vI a1)),(2,.ref n 0),(4,.ref (n+1) 0),(14,(vB z2))]⟩) (O':=(Zx O n [some ⟨false,62,9,1,(Zk a0)⟩,some ⟨false,62,9,1,[.val (.pointer none),(vI 0),(vI 0),(vI 0),(vI 0),(vI 0),(vI 0),(vI 0),(vI 0)]⟩])) (n0:=(n+2)) ?_ ?_
 ·rcases Bool.eq_false_or_eq_true (decide (a1 < 0)) with c5 | c5
  ·replace hz2:=Zq c5 hz2
   refine Vi (Z4x []) c5 ?_
   exact Ju hz2 c5
  replace hz2:=Zp c5 hz2
  obtain ⟨y4,hy4,hz2⟩:=bC hz2
  refine Vi (Zx8 []) c5 ?_
  refine (Xw hy4).then ?_
  refine zX1 c5 ?_
  exact Ju hz2 c5
 refine Zo (t:=z2) rfl (fun c13 => ?_) (fun c13 => ?_)
 ·replace h:=Zq c13 h
  refine Zf ?_
  refine Gi [4,5] [false,true] ?_
  refine zW ?_
  obtain rfl:=sI h
  refine Zl (.inr rfl) hU [.agg [.val (.pointer none),(vI 0),(vI 0),(vI 0),(vI 0),(vI 0),(vI 0),(vI 0),(vI 0)],(vI 0)] (by omega) ?_
  simp only [push_cast,seval,↓reduceIte,Zd,Tryz.results224,hN0,hN]
 replace h:=Zp c13 h
 refine Xs [1,2,4] [true,true] ?_
 refine Zf ?_
 refine zQ [1,2,4,17] ?_
 refine Yh ?_
 refine zQ [1,2,4,17,18] ?_
 refine Zo (t:=(a0.kind == 1)) rfl (fun G9 => ?_) (fun G9 => ?_)
 ·replace h:=Zq G9 h
  refine Zf ?_
  obtain ⟨y7,hy7,h⟩:=bC h
  refine zCd (Zkq hy7) [4,5] [false,true] ?_
  refine zW ?_
  obtain rfl:=sI h
  refine Zl (.inr rfl) hU [.agg (Zk y7.1),(vI y7.2)] (by omega) ?_
  simp only [push_cast,seval,↓reduceIte,Zd,Tryz.results224,hN0,hN]
 replace h:=Zp G9 h
 refine zQ [1,2,4,17,34] ?_
 refine Zo (t:=(a0.kind == 8)) rfl (fun Jz => ?_) (fun Jz => ?_)
 ·replace h:=Zq Jz h
  refine Zf ?_
  obtain ⟨y9,hy9,h⟩:=bC h
  refine zCd (Zkq hy9) [4,5] [false,true] ?_
  refine zW ?_
  obtain rfl:=sI h
  refine Zl (.inr rfl) hU [.agg (Zk y9.1),(vI y9.2)] (by omega) ?_
  simp only [push_cast,seval,↓reduceIte,Zd,Tryz.results224,hN0,hN]
 replace h:=Zp Jz h
 refine zQ [1,2,4,47] ?_
 refine Zo (t:=(a0.kind == 9)) rfl (fun c10 => ?_) (fun c10 => ?_)
 ·replace h:=Zq c10 h
  refine zQ [2,4,6] ?_
  refine Zf ?_
  refine Gi [4,5] [false,true] ?_
  refine zW ?_
  obtain rfl:=sI h
  refine Zl (.inr rfl) hU [.agg [(gP Zh a0.a),(vI 1),(vI a0.segment),(vI (IntKind.i64.wrap ((IntKind.i64.wrap (a0.at_+1))+(IntKind.i64.wrap (a1 * (IntKind.i64.wrap (a0.words+a0.ptrs))))))),(vI a0.words),(vI a0.ptrs),(vI 0),(vI 0),(vI 0)],(vI 0)] (by omega) ?_
  simp only [push_cast,seval,↓reduceIte,Zd,Tryz.results224,hN0,hN]
 replace h:=Zp c10 h
 refine Xs [1,2,4] [true,true] ?_
 refine Zf ?_
 refine Gi [4,5] [false,true] ?_
 refine zW ?_
 obtain rfl:=sI h
 refine Zl (.inr rfl) hU [.agg [(gP Zh a0.a),(vI 10),(vI a0.segment),(vI a0.at_),(vI 0),(vI 0),(vI 0),(vI (IntKind.i64.wrap (a0.kind - 2))),(vI a1)],(vI 0)] (by omega) ?_
 simp only [push_cast,seval,↓reduceIte,Zd,Tryz.results224,hN0,hN]
def Zc1 (X0:(Z7→Zb→Int→Option (Za×Int×Z7))):Prop:=∀ {a0:Z7} {a1:Zb} {a2:Int} {r:(Za×Int×Z7)} {O:Objs} {n:Nat} {i0:Nat},i0 < n→O i0=some ⟨false,247,1,1,[(vI a0.left)]⟩→X0 a0 a1 a2=some r→GTo Tryz.prog 222 [.ref i0 0,.agg (Zk a1),(vI a2)] O n (.tup [.agg (Zg r.1),(vI r.2.1)]) (Zx (O.upd i0 (some ⟨false,247,1,1,[(vI r.2.2.left)]⟩)) n []) (n+0)
theorem Zib {X0:(Z7→Zb→Int→Option (Za×Int×Z7))} (Zht:Zc1 X0) {a0:Z7} {a1:Zb} {a2:Int} {r:(Za×Int×Z7)} {O:Objs} {n:Nat} {i0:Nat} (hi0:i0 < n) (ho0:O i0=some ⟨false,247,1,1,[(vI a0.left)]⟩) (h:Xy X0 a0 a1 a2=some r):GTo Tryz.prog 222 [.ref i0 0,.agg (Zk a1),(vI a2)] O n (.tup [.agg (Zg r.1),(vI r.2.1)]) (Zx (O.upd i0 (some ⟨false,247,1,1,[(vI r.2.2.left)]⟩)) n []) (n+0):=by
 unfold Xy at h
 refine Zwv Zs Tryz.call222 Tryz.func222 rfl (Nat.le_of_ble_eq_true rfl) (by omega) fun hU => ?_
 rw [show Zx O n []=Zx (O.upd i0 (some ⟨false,247,1,1,[(vI a0.left)]⟩)) n [] from by rw [Yez (show O i0=_ from by exact ho0)]]
 have hk0:∀ k,i0 < n+k:=fun k=>by omega
 have hN0:∀ o,Objs.upd O i0 o n=none:=fun o=>Zce hU hi0 _ (Nat.le_refl _)
 have hN:∀ o k,Objs.upd O i0 o (n+k)=none:=fun o k=>Zce hU hi0 _ (Nat.le_add_right _ _)
 show W _ _ _ _ ⟨89,[],[(0,.ref i0 0),(1,.agg (Zk a1)),(2,(vI a2))]⟩ (Zx (O.upd i0 (some ⟨false,247,1,1,[(vI a0.left)]⟩)) n []) _
 refine Zcn [0,2,4,6] hi0 hk0 ?_
 refine Zf ?_
 obtain ⟨y2,hy2,h⟩:=bC h
 refine Zj5 Zs (by kernel_rfl) [false,false,false,false,false,false,false,false,false,true] [] (by kernel_rfl) ?_
 refine zX2 hi0 hk0 ?_
 refine PCall.of (Zsv hy2) ?_
 refine zX2 hi0 hk0 ?_
 refine zDs [0,2,4,6] [true,true] ?_
 obtain ⟨z4,hz4,h⟩:=bC h
 refine Y1 (E':=⟨89,[],[(0,.ref i0 0),(2,(vI a2)),(4,.ref n 0),(6,.ref (n+1) 0),(35,(vB z4))]⟩) (O':=(Zx (O.upd i0 (some ⟨false,247,1,1,[(vI (IntKind.i64.wrap (a0.left - y2)))]⟩)) n [some ⟨false,62,9,1,(Zk a1)⟩,some ⟨false,25,3,1,[(vI 0),nV,nV]⟩])) (n0:=(n+2)) ?_ ?_
 ·rcases Bool.eq_false_or_eq_true (decide ((IntKind.i64.wrap (a0.left - y2)) < 0)) with c7 | c7
  ·replace hz4:=Zq c7 hz4
   refine Za0 (Z4y []) c7 hi0 hk0 ?_
   obtain rfl:=sI hz4
   refine And.intro rfl (Fit2.of (Xe hU rfl rfl ?_) (by omega))
   exact Zt5 c7 hi0 hk0
  replace hz4:=Zp c7 hz4
  rcases Bool.eq_false_or_eq_true (a2 == 0) with c8 | c8
  ·replace hz4:=Zq c8 hz4
   try rw [c8] at c7
   obtain ⟨y6,hy6,hz4⟩:=bC hz4
   refine Zty (Z40 []) c7 c8 hi0 hk0 ?_
   refine (Zt3 hy6).then ?_
   refine zX4 c7 c8 hi0 hk0 ?_
   obtain rfl:=sI hz4
   refine And.intro rfl (Fit2.of (Xe hU rfl rfl ?_) (by omega))
   exact Yke c7 c8 hi0 hk0
  replace hz4:=Zp c8 hz4
  try rw [c8] at c7
  refine Zty (Z0p (Qe::Qe::[Uj])) c7 c8 hi0 hk0 ?_
  obtain rfl:=sI hz4
  refine And.intro rfl (Fit2.of (Xe hU rfl rfl ?_) (by omega))
  exact Yke c7 c8 hi0 hk0
 refine Zo (t:=z4) rfl (fun c28 => ?_) (fun c28 => ?_)
 ·replace h:=Zq c28 h
  refine Zf ?_
  refine Vq [] hi0 hk0 ?_
  refine zD [6,7] [false,true] ?_
  refine zW ?_
  obtain rfl:=sI h
  refine Ux (k:=0) (i:=i0) (q1:=⟨false,247,1,1,[(vI (IntKind.i64.wrap (a0.left - y2)))]⟩) (L3:=[some ⟨false,25,3,1,[(vI 0),nV,nV]⟩,none]) (E2:=(⟨89,[],[(6,.ref n 0),(7,(vI 3))]⟩:Env)) (n3:=(n+2)) (.inr rfl) hU rfl [.agg [(vI 0),nV,nV],(vI 3)] ?_ ?_
  ·refine Fit2.trans (E':=(⟨89,[],[(6,.ref (n+1) 0),(7,(vI 3))]⟩:Env)) (O':=(Zx (O.upd i0 (some ⟨false,247,1,1,[(vI (IntKind.i64.wrap (a0.left - y2)))]⟩)) n [none,some ⟨false,25,3,1,[(vI 0),nV,nV]⟩])) (n':=(n+2)) (Fit2.of (Xe hU rfl rfl ?_) (by omega)) ?_
   ·exact K6 hi0 hk0
   refine Qu (k:=2) (k':=2) hU [1,0] [1,0] rfl rfl rfl rfl ⟨rfl,rfl⟩ ?_
   exact K6 hi0 hk0
  simp only [push_cast,seval,↓reduceIte,Zd,Tryz.results222,hi0,hk0,hN0,hN]
 replace h:=Zp c28 h
 refine Xs [0,2,4,6] [true,true] ?_
 refine Zf ?_
 obtain ⟨y10,hy10,h⟩:=bC h
 refine Vq [] hi0 hk0 ?_
 refine (Q0 hy10).then ?_
 refine zX2 hi0 hk0 ?_
 refine zDs [0,2,4,6,8] [true,true,true] ?_
 refine Zf ?_
 obtain ⟨y12,hy12,h⟩:=bC h
 refine Vq [] hi0 hk0 ?_
 refine (U6 hy12).then ?_
 refine zX2 hi0 hk0 ?_
 refine zD [0,2,4,6,8,41,42] [true,true,true] ?_
 refine zD [0,2,4,6,8,41,42] [true,true,true] ?_
 refine Zcf (E':=(⟨89,[],[(0,.ref i0 0),(2,(vI a2)),(4,.ref n 0),(6,.ref (n+1) 0),(8,.ref (n+2) 0),(41,(vI y12)),(42,(vI 0))]⟩:Env)) (O':=(Zx (O.upd i0 (some ⟨false,247,1,1,[(vI (IntKind.i64.wrap (a0.left - y2)))]⟩)) n [some ⟨false,62,9,1,(Zk a1)⟩,some ⟨false,25,3,1,[(vI 0),nV,nV]⟩,some ⟨false,25,3,1,[(vI y10),.row (n+3) ([]:List Int).length,nV]⟩,some (oR 77 1 (eI .u64) ([]:List Int)),none])) (n':=(n+5)) ?_ ?_
 ·refine Fit2.trans (E':=(⟨89,[],[(0,.ref i0 0),(2,(vI a2)),(4,.ref n 0),(6,.ref (n+1) 0),(8,.ref (n+2) 0),(41,(vI y12)),(42,(vI 0))]⟩:Env)) (O':=(Zx (O.upd i0 (some ⟨false,247,1,1,[(vI (IntKind.i64.wrap (a0.left - y2)))]⟩)) n [some ⟨false,62,9,1,(Zk a1)⟩,some ⟨false,25,3,1,[(vI 0),nV,nV]⟩,some ⟨false,25,3,1,[(vI y10),nV,nV]⟩])) (n':=(n+3)) (Fit2.of (Xe hU rfl rfl ?_) (by omega)) ?_
  ·exact K6 hi0 hk0
  refine Fit2.trans (Zbw (p:=(n+2)) (k:=1) (q:=⟨false,25,3,1,[(vI y10),nV,nV]⟩) 77 1 (by simp only [Zaa,Zc8,List.getElem?_cons_zero,List.getElem?_cons_succ,Option.join_some,List.length_nil,X2]) rfl (by omega)) ?_
  simp only [Kg,Q3,Zah,List.set_cons_zero,List.set_cons_succ,List.cons_append,List.nil_append,List.length_cons,List.length_nil,Nat.zero_add,Nat.reduceAdd,Nat.reduceLT,Nat.add_assoc,Zb3,Zge,hi0,hk0,hN0,hN]
  refine Qu (k:=4) (k':=5) hU [0,1,2,3] [0,1,2,3,0] rfl rfl rfl rfl ⟨rfl,rfl⟩ ?_
  exact K6 hi0 hk0
 obtain ⟨z16,hz16,h⟩:=bC h
 refine Yn (E':=⟨89,[],[(0,.ref i0 0),(2,(vI a2)),(4,.ref n 0),(6,.ref (n+1) 0),(8,.ref (n+2) 0)]⟩) (O':=(Zx (O.upd i0 (some ⟨false,247,1,1,[(vI (IntKind.i64.wrap (a0.left - y2)))]⟩)) n [some ⟨false,62,9,1,(Zk a1)⟩,some ⟨false,25,3,1,[(vI 0),nV,nV]⟩,some ⟨false,25,3,1,[(vI y10),.row (n+3) z16.length,nV]⟩,some (oR 77 1 (eI .u64) z16),none])) (n0:=(n+5)) ?_ ?_
 ·refine Xd hz16 (fun s0_=>⟨89,[],[(0,.ref i0 0),(2,(vI a2)),(4,.ref n 0),(6,.ref (n+1) 0),(8,.ref (n+2) 0),(41,(vI y12)),(42,(vI s0_.1))]⟩) (fun s0_=>(Zx (O.upd i0 (some ⟨false,247,1,1,[(vI (IntKind.i64.wrap (a0.left - y2)))]⟩)) n [some ⟨false,62,9,1,(Zk a1)⟩,some ⟨false,25,3,1,[(vI 0),nV,nV]⟩,some ⟨false,25,3,1,[(vI y10),.row (n+3) s0_.2.length,nV]⟩,some (oR 77 1 (eI .u64) s0_.2),none])) (fun z16=>JX 0 n (⟨89,[],[(0,.ref i0 0),(2,(vI a2)),(4,.ref n 0),(6,.ref (n+1) 0),(8,.ref (n+2) 0)]⟩:Env) (Zx (O.upd i0 (some ⟨false,247,1,1,[(vI (IntKind.i64.wrap (a0.left - y2)))]⟩)) n [some ⟨false,62,9,1,(Zk a1)⟩,some ⟨false,25,3,1,[(vI 0),nV,nV]⟩,some ⟨false,25,3,1,[(vI y10),.row (n+3) z16.length,nV]⟩,some (oR 77 1 (eI .u64) z16),none]) (n+5)) ?_
  intro s0_ x0_ hs0_
  unfold Xv at hs0_
  try dsimp only
  refine Zcn [0,2,4,6,8,41,42,43] hi0 hk0 ?_
  refine Zf ?_
  refine Zo (t:=(decide (s0_.1 < y12))) rfl (fun c15 => ?_) (fun c15 => ?_)
  ·replace hs0_:=Zq c15 hs0_
   refine Xs [0,2,4,6,8,41,42] [true,true,true,true,false] ?_
   refine Zf ?_
   refine Yh ?_
   refine Zcn [0,2,4,6,8,9,41,42] hi0 hk0 ?_
   obtain ⟨y13,hy13,hs0_⟩:=bC hs0_
   obtain ⟨l14,pl14,ql14,el14,hs0_⟩:=bA (k:=1) rfl hs0_
   refine Zai Zs (by kernel_rfl) [.low,.low,.plain,.plain,.plain,.pass,.bar,.plain,.bar] (fun i=>i < (n+5)) [0,1,2,3,4,5,6,7,8] [.low,.low,.plain,.plain,.plain,.pass,.bar,.plain,.bar] [] (by kernel_rfl) rfl ?_
   refine zX5 pl14 ql14 el14 hi0 hk0 ?_
   refine zO ?_
   first | refine PCallA.of (fun _ _=>V5 hy13) ?_ | refine PCall.of (V5 hy13) ?_
   refine zX5 pl14 ql14 el14 hi0 hk0 ?_
   refine zO ?_
   refine Za5 ⟨89,[],[(0,.ref i0 0),(2,(vI a2)),(4,.ref n 0),(6,.ref (n+1) 0),(8,.ref (n+2) 0),(41,(vI y12)),(42,(vI s0_.1))]⟩ (Zx (O.upd i0 (some ⟨false,247,1,1,[(vI (IntKind.i64.wrap (a0.left - y2)))]⟩)) n [some ⟨false,62,9,1,(Zk a1)⟩,some ⟨false,25,3,1,[(vI 0),nV,nV]⟩,some ⟨false,25,3,1,[(vI y10),.row (n+3) l14.length,nV]⟩,some (oR 77 1 (eI .u64) l14),none,none]) (Xe hU rfl rfl ?_) ?_
   ·exact Ykf pl14 ql14 el14 hi0 hk0
   refine Vq [] hi0 hk0 ?_
   obtain rfl:=sI hs0_
   refine And.intro rfl (Fit2.of (Xe hU rfl rfl ?_) (by omega))
   exact K6 hi0 hk0
  replace hs0_:=Zp c15 hs0_
  refine zXt ?_
  obtain rfl:=sI hs0_
  refine And.intro (fun h=>by cases h) (And.intro rfl (Fit2.of (Xe hU rfl rfl ?_) (by omega)))
  exact K6 hi0 hk0
 try simp only [Yv,Z9,↓reduceIte,Nat.reduceEqDiff]
 refine zDs [0,2,4,6,8] [true,true,true,true,false] ?_
 refine Zf ?_
 obtain ⟨y18,hy18,h⟩:=bC h
 refine Vq [] hi0 hk0 ?_
 refine (Xw hy18).then ?_
 refine zX2 hi0 hk0 ?_
 refine zD [0,2,4,6,8,55,56] [true,true,true,true,false] ?_
 refine zD [0,2,4,6,8,55,56] [true,true,true,true,false] ?_
 refine Zcf (E':=(⟨89,[],[(0,.ref i0 0),(2,(vI a2)),(4,.ref n 0),(6,.ref (n+1) 0),(8,.ref (n+2) 0),(55,(vI y18)),(56,(vI 0))]⟩:Env)) (O':=(Zx (O.upd i0 (some ⟨false,247,1,1,[(vI (IntKind.i64.wrap (a0.left - y2)))]⟩)) n [some ⟨false,62,9,1,(Zk a1)⟩,some ⟨false,25,3,1,[(vI 0),nV,nV]⟩,some ⟨false,25,3,1,[(vI y10),.row (n+3) z16.length,.row (n+5) ([]:List Za).length]⟩,some (oR 77 1 (eI .u64) z16),none,some (oR 25 3 Zc ([]:List Za)),none])) (n':=(n+7)) ?_ ?_
 ·refine Fit2.trans (E':=(⟨89,[],[(0,.ref i0 0),(2,(vI a2)),(4,.ref n 0),(6,.ref (n+1) 0),(8,.ref (n+2) 0),(55,(vI y18)),(56,(vI 0))]⟩:Env)) (O':=(Zx (O.upd i0 (some ⟨false,247,1,1,[(vI (IntKind.i64.wrap (a0.left - y2)))]⟩)) n [some ⟨false,62,9,1,(Zk a1)⟩,some ⟨false,25,3,1,[(vI 0),nV,nV]⟩,some ⟨false,25,3,1,[(vI y10),.row (n+3) z16.length,nV]⟩,some (oR 77 1 (eI .u64) z16),none])) (n':=(n+5)) (Fit2.of (Xe hU rfl rfl ?_) (by omega)) ?_
  ·exact K6 hi0 hk0
  refine Fit2.trans (Zbw (p:=(n+2)) (k:=2) (q:=⟨false,25,3,1,[(vI y10),.row (n+3) z16.length,nV]⟩) 25 3 (by simp only [Zaa,Zc8,List.getElem?_cons_zero,List.getElem?_cons_succ,Option.join_some,List.length_nil,X2]) rfl (by omega)) ?_
  simp only [Kg,Q3,Zah,List.set_cons_zero,List.set_cons_succ,List.cons_append,List.nil_append,List.length_cons,List.length_nil,Nat.zero_add,Nat.reduceAdd,Nat.reduceLT,Nat.add_assoc,Zb3,Zge,hi0,hk0,hN0,hN]
  refine Qu (k:=6) (k':=7) hU [0,1,2,3,6,5] [0,1,2,3,0,5,0] rfl rfl rfl rfl ⟨rfl,rfl⟩ ?_
  exact K6 hi0 hk0
 obtain ⟨z27,hz27,h⟩:=bC h
 refine Ut (J:=(Xg (fun z27=>JR n (⟨89,[],[(6,.ref (n+1) 0),(7,(vI z27.1))]⟩:Env) (Zx (O.upd i0 (some ⟨false,247,1,1,[(vI z27.2)]⟩)) n [none,some ⟨false,25,3,1,[(vI 0),nV,nV]⟩,none,none,none]) (n+5)) (fun z27=>JX 2 n (⟨89,[],[(6,.ref (n+1) 0),(8,.ref (n+2) 0)]⟩:Env) (Zx (O.upd i0 (some ⟨false,247,1,1,[(vI z27.2)]⟩)) n [none,some ⟨false,25,3,1,[(vI 0),nV,nV]⟩,some ⟨false,25,3,1,[(vI y10),.row (n+3) z16.length,.row (n+5) z27.1.length]⟩,some (oR 77 1 (eI .u64) z16),none,some (oR 25 3 Zc z27.1),none]) (n+7)))) (z:=z27) ?_ fun hw => ?_
 ·refine Xd hz27 (fun s1_=>⟨89,[],[(0,.ref i0 0),(2,(vI a2)),(4,.ref n 0),(6,.ref (n+1) 0),(8,.ref (n+2) 0),(55,(vI y18)),(56,(vI s1_.1))]⟩) (fun s1_=>(Zx (O.upd i0 (some ⟨false,247,1,1,[(vI s1_.2.2)]⟩)) n [some ⟨false,62,9,1,(Zk a1)⟩,some ⟨false,25,3,1,[(vI 0),nV,nV]⟩,some ⟨false,25,3,1,[(vI y10),.row (n+3) z16.length,.row (n+5) s1_.2.1.length]⟩,some (oR 77 1 (eI .u64) z16),none,some (oR 25 3 Zc s1_.2.1),none])) (Xg (fun z27=>JR n (⟨89,[],[(6,.ref (n+1) 0),(7,(vI z27.1))]⟩:Env) (Zx (O.upd i0 (some ⟨false,247,1,1,[(vI z27.2)]⟩)) n [none,some ⟨false,25,3,1,[(vI 0),nV,nV]⟩,none,none,none]) (n+5)) (fun z27=>JX 2 n (⟨89,[],[(6,.ref (n+1) 0),(8,.ref (n+2) 0)]⟩:Env) (Zx (O.upd i0 (some ⟨false,247,1,1,[(vI z27.2)]⟩)) n [none,some ⟨false,25,3,1,[(vI 0),nV,nV]⟩,some ⟨false,25,3,1,[(vI y10),.row (n+3) z16.length,.row (n+5) z27.1.length]⟩,some (oR 77 1 (eI .u64) z16),none,some (oR 25 3 Zc z27.1),none]) (n+7))) ?_
  intro s1_ x1_ hs1_
  unfold Xp at hs1_
  try dsimp only
  refine Zcn [0,2,4,6,8,55,56,57] hi0 hk0 ?_
  refine Zf ?_
  refine Zo (t:=(decide (s1_.1 < y18))) rfl (fun c26 => ?_) (fun c26 => ?_)
  ·replace hs1_:=Zq c26 hs1_
   refine Xs [0,2,4,6,8,55,56] [true,true,true,true,false,true,false] ?_
   refine Zf ?_
   refine Yh ?_
   refine Zcn [0,2,4,6,8,10,55,56] hi0 hk0 ?_
   refine Zf ?_
   obtain ⟨y20,hy20,hs1_⟩:=bC hs1_
   refine Vq [] hi0 hk0 ?_
   refine (Zck hy20).then ?_
   refine zX2 hi0 hk0 ?_
   refine zDs [0,2,4,6,8,11,12,55,56] [true,true,true,true,false,true,false,true] ?_
   refine Zcn [0,2,4,6,8,11,12,55,56,66] hi0 hk0 ?_
   refine Zo (t:=(y20.2 != 0)) rfl (fun c25 => ?_) (fun c25 => ?_)
   ·replace hs1_:=Zq c25 hs1_
    refine Zf ?_
    refine Vq [] hi0 hk0 ?_
    refine zD [6,7] [false,true,false,false,false,false,false,false] ?_
    refine zW ?_
    obtain rfl:=sI hs1_
    refine And.intro (fun h=>by cases h) (And.intro rfl (Fit2.of (Xe hU rfl rfl ?_) (by omega)))
    exact K6 hi0 hk0
   replace hs1_:=Zp c25 hs1_
   refine Xs [0,2,4,6,8,11,55,56] [true,true,true,true,false,true,false,true] ?_
   refine Zf ?_
   obtain ⟨y22,hy22,hs1_⟩:=bC hs1_
   refine Vq [] hi0 hk0 ?_
   refine (Zht (i0:=i0) (by omega) (by simp only [push_cast,seval,↓reduceIte,Zd,Zbx,hi0,hk0,hN0,hN] <;> rfl) hy22).then ?_
   refine zX2 hi0 hk0 ?_
   refine zDs [0,2,4,6,8,12,13,55,56] [true,true,true,true,false,true,false,false,true] ?_
   refine Zcn [0,2,4,6,8,12,13,55,56,78] hi0 hk0 ?_
   refine Zo (t:=(y22.2.1 != 0)) rfl (fun c24 => ?_) (fun c24 => ?_)
   ·replace hs1_:=Zq c24 hs1_
    refine Zf ?_
    refine Vq [] hi0 hk0 ?_
    refine zD [6,7] [false,true,false,false,false,false,false,false,false] ?_
    refine zW ?_
    obtain rfl:=sI hs1_
    refine And.intro (fun h=>by cases h) (And.intro rfl (Fit2.of (Xe hU rfl rfl ?_) (by omega)))
    exact K6 hi0 hk0
   replace hs1_:=Zp c24 hs1_
   refine Xs [0,2,4,6,8,13,55,56] [true,true,true,true,false,true,false,false,true] ?_
   obtain ⟨l23,pl23,ql23,el23,hs1_⟩:=bA (k:=1) rfl hs1_
   refine Yo3 [] pl23 ql23 el23 hi0 hk0 ?_
   refine Za5 ⟨89,[],[(0,.ref i0 0),(2,(vI a2)),(4,.ref n 0),(6,.ref (n+1) 0),(8,.ref (n+2) 0),(55,(vI y18)),(56,(vI s1_.1))]⟩ (Zx (O.upd i0 (some ⟨false,247,1,1,[(vI y22.2.2.left)]⟩)) n [some ⟨false,62,9,1,(Zk a1)⟩,some ⟨false,25,3,1,[(vI 0),nV,nV]⟩,some ⟨false,25,3,1,[(vI y10),.row (n+3) z16.length,.row (n+5) l23.length]⟩,some (oR 77 1 (eI .u64) z16),none,some (oR 25 3 Zc l23),none,none,none,none]) (Xe hU rfl rfl ?_) ?_
   ·exact Ykf pl23 ql23 el23 hi0 hk0
   refine Vq [] hi0 hk0 ?_
   obtain rfl:=sI hs1_
   refine And.intro rfl (Fit2.of (Xe hU rfl rfl ?_) (by omega))
   exact K6 hi0 hk0
  replace hs1_:=Zp c26 hs1_
  refine zXt ?_
  obtain rfl:=sI hs1_
  refine And.intro (fun h=>by cases h) (And.intro rfl (Fit2.of (Xe hU rfl rfl ?_) (by omega)))
  exact K6 hi0 hk0
 rcases z27 with z27 | z27
 ·dsimp only [Xg] at hw h
  refine Q1 hw ?_
  try simp only [Yv,Z9,↓reduceIte,Nat.reduceEqDiff]
  obtain rfl:=sI h
  refine Ux (k:=0) (i:=i0) (q1:=⟨false,247,1,1,[(vI z27.2)]⟩) (L3:=[some ⟨false,25,3,1,[(vI 0),nV,nV]⟩,none]) (E2:=(⟨89,[],[(6,.ref n 0),(7,(vI z27.1))]⟩:Env)) (n3:=(n+2)) (.inr rfl) hU rfl [.agg [(vI 0),nV,nV],(vI z27.1)] ?_ ?_
  ·refine Fit2.trans (E':=(⟨89,[],[(6,.ref (n+1) 0),(7,(vI z27.1))]⟩:Env)) (O':=(Zx (O.upd i0 (some ⟨false,247,1,1,[(vI z27.2)]⟩)) n [none,some ⟨false,25,3,1,[(vI 0),nV,nV]⟩,none,none,none])) (n':=(n+5)) (Fit2.of (Xe hU rfl rfl ?_) (by omega)) ?_
   ·exact K6 hi0 hk0
   refine Qu (k:=5) (k':=2) hU [1,0,1,1,1] [1,0] rfl rfl rfl rfl ⟨rfl,rfl⟩ ?_
   exact K6 hi0 hk0
  simp only [push_cast,seval,↓reduceIte,Zd,Tryz.results222,hi0,hk0,hN0,hN]
 dsimp only [Xg] at hw h
 refine Yn hw ?_
 try simp only [Yv,Z9,↓reduceIte,Nat.reduceEqDiff]
 refine zDs [6,8] [false,true,true,true,false,true,false] ?_
 refine Vq [] hi0 hk0 ?_
 refine zD [6,7] [false,true,false,true,false,true,false] ?_
 refine zW ?_
 obtain rfl:=sI h
 refine Ux (k:=0) (i:=i0) (q1:=⟨false,247,1,1,[(vI z27.2)]⟩) (L3:=[some ⟨false,25,3,1,[(vI y10),.row (n+1) z16.length,.row (n+2) z27.1.length]⟩,some (oR 77 1 (eI .u64) z16),some (oR 25 3 Zc z27.1),none]) (E2:=(⟨89,[],[(6,.ref n 0),(7,(vI 0))]⟩:Env)) (n3:=(n+4)) (.inr rfl) hU rfl [.agg [(vI y10),.row (n+1) z16.length,.row (n+2) z27.1.length],(vI 0)] ?_ ?_
 ·refine Fit2.trans (E':=(⟨89,[],[(6,.ref (n+1) 0),(7,(vI 0))]⟩:Env)) (O':=(Zx (O.upd i0 (some ⟨false,247,1,1,[(vI z27.2)]⟩)) n [none,some ⟨false,25,3,1,[(vI y10),.row (n+3) z16.length,.row (n+5) z27.1.length]⟩,none,some (oR 77 1 (eI .u64) z16),none,some (oR 25 3 Zc z27.1),none])) (n':=(n+7)) (Fit2.of (Xe hU rfl rfl ?_) (by omega)) ?_
  ·exact K6 hi0 hk0
  refine Qu (k:=7) (k':=4) hU [3,0,3,1,3,2,3] [1,3,5,0] rfl rfl rfl rfl ⟨rfl,rfl⟩ ?_
  exact K6 hi0 hk0
 simp only [push_cast,seval,↓reduceIte,Zd,Tryz.results222,hi0,hk0,hN0,hN]
theorem Zgy:∀ k,(Zc1 (Ys k)):=fun k=>by
 induction k with
 | zero=>exact @fun a0 a1 a2 r O n i0 hi0 ho0 h=>(nomatch (show (none:Option _)=some _ from h))
 | succ k ih=>exact @fun a0 a1 a2 r O n i0 hi0 ho0 h=>Zib (ih) hi0 ho0 h
theorem Zi6 {a0:Z7} {a1:Zb} {a2:Int} {r:(Za×Int×Z7)} {O:Objs} {n:Nat} {i0:Nat} (hi0:i0 < n) (ho0:O i0=some ⟨false,247,1,1,[(vI a0.left)]⟩) (h:Uq a0 a1 a2=some r):GTo Tryz.prog 222 [.ref i0 0,.agg (Zk a1),(vI a2)] O n (.tup [.agg (Zg r.1),(vI r.2.1)]) (Zx (O.upd i0 (some ⟨false,247,1,1,[(vI r.2.2.left)]⟩)) n []) (n+0):=by
 obtain ⟨k,hk⟩:=Zbg h
 exact (Zgy k) hi0 ho0 hk
end Go.Proofs.YtmlcnhambfkjaaaGreat
