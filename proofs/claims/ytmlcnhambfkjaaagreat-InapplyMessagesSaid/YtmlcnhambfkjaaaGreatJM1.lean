/- Part JM1 of this seat's mirrors: functions of the seat's program, and the plain functions that they are; each theorem bears its own conditions. -/
import Derived.Test.YtmlcnhambfkjaaaGreatJD
namespace Go.Proofs.YtmlcnhambfkjaaaGreat
open Go.RowKit
set_option linter.unusedVariables false
set_option linter.unusedSimpArgs false
set_option maxRecDepth 100000
set_option maxHeartbeats 4000000
attribute [local push_cast] vI vB nV sL oR Zm Q2 X5 Xn Zg Jv Z3 Xh Zk Yv Z9 Je Zfw Zdq Ztp Zsm Zna Zne Zm9 Znd Zqk Zqg Znc Zqj Zqi Zqh Znb Zqf Zk7 evS wok K8 Op.operands Call.operands gop atK List.all_cons List.all_nil Bool.and_self Value.oneCell' List.take_zero List.take_succ_cons List.take_nil List.drop_zero List.drop_succ_cons List.drop_nil List.append_nil Nat.add_zero Nat.zero_add Zao Y2 ev Kv Zo6 Zuc Zub Zuh Zuf Zug Zud Zue Zua Ztz Zw1 Zz0 Zkl Zel Zjg Zek Zmv Zhg Zid Zii Zke Zka Zig Zkd Zkc Zkb Zif Zj9 Zie Zih Zgv Zly Zkj Zcp Zkk Zcq Zlx Zki Zx5 bLo bHi bMx Zen Zlv Z39 Zkh Zlw Zgw Zbr Zw3 Z4c Zkg Zhe Z4h Zej Z6l Zpf Zpj Zpe Zpi Zuw Zus Zur Zmw Zpg Zuv Zuu Zut Zph Zun Zuq Zum Zup Z0f Z0c Z0b Zuo Z0d Z0e Zli gone pop TK.isAgg Zu3 Zu7 Zu2 Zu6 Zpz Z01 Z0x Zu5 Z00 Z0z Z0y Zu4 Z0w G.under G.unders List.getD_cons_zero List.getD_cons_succ List.set_cons_zero List.set_cons_succ List.map_cons List.map_nil List.toList_toArray Array.toList_append Option.toArray_none Option.toArray_some Option.map_some Option.map_none Option.bind_some Option.bind_none List.getElem?_cons_zero List.getElem?_cons_succ List.getElem?_nil List.nil_append List.cons_append List.replicate_succ List.replicate_zero List.length_cons List.length_nil and_true true_and and_false false_and Bool.true_eq_false Bool.false_eq_true forall_const implies_true IntKind.bits ite_true ite_false eq_self or_false not_false_eq_true decide_true decide_eq_true_eq decide_eq_false_iff_not beq_iff_eq bne_iff_ne ne_eq beq_eq_false_iff_ne bne_eq_false_iff_eq beq_self_eq_true Option.some.injEq exists_eq_left' ge_iff_le gt_iff_lt Bool.not_true Bool.not_false imp_self cond_true cond_false Yfd Yfc Zaa Zc8 Zah Zwk Kg Q3 Option.join_some Nat.add_assoc Int.toNat_natCast eI eL Zbx Zjh Zik Zuk Zui Zuj Z60 Ya6 Zju Ziq Zvd Zvb Zvc Z0v Znh Zyr Zn1 Zx3 G.agg.injEq G.tup.injEq List.flatten_cons List.flatten_nil Nat.le_refl Bool.not_eq_true' Zwj Zj1 Z3p Z3k Z3o Yab Zs3 Zts G.ren G.rens Zxl Zh3 Zvj Zt8 Zt9 G.fn.injEq Zmo Zsa Z3n Z3l Z0i Z78 Option.join_none G5 undef Zl2 Arr.put_eq Zjt Zmz Zkv Zip Zva Zu8 Zu9 onB Z6z Zw0 Zmx Zm2 Zkw Zm1 Zp5 Zp4 Zp3 Zp2 Ya5 Ydq Z0u Zyf Zbb Z0j Zpk Z48 Ztu Zkf Zlu Zgk Zgx Ygu Z28 Ztb Z29 Ygv Z3a Z27 Z3b Ygw Z3c Ygx Z3d Ygy Z3e Ygz Z3f Z9h Zvm Z9i Zvn Z9j Zvo Z9k Zvp Z9l Zvq Z9m Zvr Z9n Zvs Z9o Zvt Z9p Zvu Z9q Zvv Z9r Zvw Zgd Zg0 Zzi Zk8 Z9s Zvx Zcc Zvy Z9t Zvz Z9u Zv0 Z9v Zv1 Z9w Zv2 Zn2 Zv3 Z9x Zv4 Z9y Zv5 Z9z Zv6 Z90 Zv7 Z91 Zr8 Z92 Zv8 Z93 Zv9 Za6 Zwa Z94 Zwb Z95 Zwc Zn3 Zwd Z96 Zwe Zh6 Zwf Z97 Zwg Zlg Zwh Z1m Zqn Z1n Zqo Z1o Zqp Z1p Zqq Z1q Zqr Z1r Zqs Z1s Zqt Z1t Zqu Z1u Zqv Z1v Zqw Z1w Zqx Z1x Zqy Z1y Zqz Z1z Zq0 Z10 Zq1 Z11 Zq2 Z12 Zq3 Z13 Zq4 Z14 Zq5 Z15 Zq6 Z16 Zq7 Z17 Zq8 Z18 Zq9 Zta Zmn Z19 Zra Z2a Zrb Z2b Zrc Z2c Zrd Z2d Zre Z2e Zrf Z2f Zrg Z2g Zrh Z2h Zri Z2i Zrj Z2j Zrk Z2k Zrl Z2l Zrm Z2m Zrn Z2n Zro Z2o Zrp Z2p Zrq Z2q Zrr Z2r Zrs Z2s Zrt Z2t Zru Z2u Zrv Z2v Zrw Z2w Zrx Z2x Zry Z2y Zrz Z2z Zr0 Z20 Zr1 Z21 Zr2 Z22 Zr3 Z23 Zr4 Z24 Zr5 Z25 Zr6 Z26 Zr7 Uf Zk9 Zoa Zom Zjb Zxn Zc Zu Qv Zr Yg Zh
theorem Znl {a0:Yi} {r:Yi} {O:Objs} {n:Nat} (h:Gs a0=some r):GTo Tryz.prog 37 [.agg (X5 a0)] O n (.agg (X5 r)) O n:=by
 unfold Gs at h
 refine Uw Zs Tryz.call37 Tryz.func37 rfl fun hU hN0 hN => ?_
 show W _ _ _ _ ⟨8,[],[(0,.agg (X5 a0))]⟩ (Zx O n []) _
 refine zQ [1,2] ?_
 obtain ⟨z1,hz1,h⟩:=bC h
 refine Y1 (E':=⟨8,[],[(1,.ref n 0),(2,.ref (n+1) 0)]⟩) (O':=(Zx O n [some ⟨false,55,4,1,[(vI a0.Depth),(vI z1),(vI a0.MaxD),(vI a0.MaxOut)]⟩,some ⟨false,55,4,1,[(vI 0),(vI 0),(vI 0),(vI 0)]⟩])) (n0:=(n+2)) ?_ ?_
 ·refine zQ [1,2,5] ?_
  refine Zo (t:=(decide (3000 < a0.Weight))) rfl (fun c2 => ?_) (fun c2 => ?_)
  ·replace hz1:=Zq c2 hz1
   refine zR ?_
   exact Vh hz1
  replace hz1:=Zp c2 hz1
  refine zK ?_
  exact Vh hz1
 refine Zf ?_
 refine Gi [2] [false,true] ?_
 refine zW ?_
 obtain rfl:=sI h
 refine Zl (.inr rfl) hU [.agg [(vI a0.Depth),(vI z1),(vI a0.MaxD),(vI a0.MaxOut)]] (by omega) ?_
 simp only [push_cast,seval,↓reduceIte,Zd,Tryz.results37,hN0,hN]
theorem Zay {a0:Int} {a1:Int} {r:Int} {O:Objs} {n:Nat} (h:Ja a0 a1=some r):GTo Tryz.prog 128 [(vI a0),(vI a1)] O n ((vI r)) O n:=by
 unfold Ja at h
 refine Uw Zs Tryz.call128 Tryz.func128 rfl fun hU hN0 hN => ?_
 show W _ _ _ _ ⟨12,[],[(0,(vI a0)),(1,(vI a1))]⟩ (Zx O n []) _
 refine zQ [0,1] ?_
 refine Zf ?_
 refine zQ [0,1,6] ?_
 refine Zo (t:=(decide (a0 < 0))) rfl (fun c2 => ?_) (fun c2 => ?_)
 ·replace h:=Zq c2 h
  refine zQ [4] ?_
  refine zW ?_
  obtain rfl:=sI h
  refine Zl (.inr rfl) hU [(vI 0)] (by omega) ?_
  simp only [push_cast,seval,↓reduceIte,Zd,Tryz.results128,hN0,hN]
 replace h:=Zp c2 h
 refine Xs [0,1] [] ?_
 refine Zf ?_
 refine zQ [0,1,9] ?_
 refine Zo (t:=(decide (a1 < a0))) rfl (fun c1 => ?_) (fun c1 => ?_)
 ·replace h:=Zq c1 h
  refine zQ [4] ?_
  refine zW ?_
  obtain rfl:=sI h
  refine Zl (.inr rfl) hU [(vI a1)] (by omega) ?_
  simp only [push_cast,seval,↓reduceIte,Zd,Tryz.results128,hN0,hN]
 replace h:=Zp c1 h
 refine Xs [0] [] ?_
 refine zQ [4] ?_
 refine zW ?_
 obtain rfl:=sI h
 refine Zl (.inr rfl) hU [(vI a0)] (by omega) ?_
 simp only [push_cast,seval,↓reduceIte,Zd,Tryz.results128,hN0,hN]
theorem Zl9 {a0:Yi} {r:Yi} {O:Objs} {n:Nat} (h:U1 a0=some r):GTo Tryz.prog 82 [.agg (X5 a0)] O n (.agg (X5 r)) O n:=by
 unfold U1 at h
 refine Uw Zs Tryz.call82 Tryz.func82 rfl fun hU hN0 hN => ?_
 show W _ _ _ _ ⟨16,[],[(0,.agg (X5 a0))]⟩ (Zx O n []) _
 refine zQ [1,2] ?_
 refine Zf ?_
 obtain ⟨y5,hy5,h⟩:=bC h
 obtain ⟨y6,hy6,h⟩:=bC h
 obtain ⟨y7,hy7,h⟩:=bC h
 obtain ⟨y8,hy8,h⟩:=bC h
 refine Zj5 Zs (by kernel_rfl) [false,false,false,false,false,false,false,false,false,false,false,false,false,true] [] (by kernel_rfl) ?_
 refine zS ?_
 refine PCall.of (Zay hy5) ?_
 refine zS ?_
 refine PCall.of (Zay hy6) ?_
 refine zS ?_
 refine PCall.of (Zay hy7) ?_
 refine zS ?_
 refine PCall.of (Zay hy8) ?_
 refine zS ?_
 refine zD [2] [false,true] ?_
 refine zW ?_
 obtain rfl:=sI h
 refine Zl (.inr rfl) hU [.agg [(vI y5),(vI y6),(vI y7),(vI y8)]] (by omega) ?_
 simp only [push_cast,seval,↓reduceIte,Zd,Tryz.results82,hN0,hN]
theorem Zax {a0:(List (List Int))} {a1:Int} {a2:Int} {r:Bool} {O:Objs} {n:Nat} (h:Kw a0 a1 a2=some r):GTo Tryz.prog 194 [(sL (eL (eI .u64)) a0),(vI a1),(vI a2)] O n ((vB r)) O n:=by
 unfold Kw at h
 refine Uw Zs Tryz.call194 Tryz.func194 rfl fun hU hN0 hN => ?_
 show W _ _ _ _ ⟨28,[],[(0,(sL (eL (eI .u64)) a0)),(1,(vI a1)),(2,(vI a2))]⟩ (Zx O n []) _
 refine zQ [0,1,2] ?_
 obtain ⟨z2,hz2,h⟩:=bC h
 refine Y1 (E':=⟨28,[],[(6,(vB z2))]⟩) (O':=(Zx O n [])) (n0:=n) ?_ ?_
 ·rcases Bool.eq_false_or_eq_true (decide (0≤a1)) with c5 | c5
  ·replace hz2:=Zq c5 hz2
   rcases Bool.eq_false_or_eq_true (decide (a1 < (a0.length:Int))) with c6 | c6
   ·replace hz2:=Zq c6 hz2
    try rw [c6] at c5
    rcases Bool.eq_false_or_eq_true (decide (0≤a2)) with c7 | c7
    ·replace hz2:=Zq c7 hz2
     try rw [c7] at c5
     try rw [c7] at c6
     obtain ⟨x4,hx4,ax4,bx4,cx4,hz2⟩:=bE (f:=(eL (eI .u64))) Zgd (fun _=>rfl) (by decide) hz2
     refine Ye7 (Zsr (Yk4 [])) c5 c6 c7 ax4 bx4 cx4 ?_
     refine zG ?_
     exact Yi5 hz2 c5 c6 c7 ax4 bx4 cx4
    replace hz2:=Zp c7 hz2
    try rw [c7] at c5
    try rw [c7] at c6
    refine Za0 (Zsr (Ydm [])) c5 c6 c7 ?_
    refine zG ?_
    exact Ze6 hz2 c5 c6 c7
   replace hz2:=Zp c6 hz2
   try rw [c6] at c5
   refine Vq (Zsr (Ydm [])) c5 c6 ?_
   refine zG ?_
   exact Zgf hz2 c5 c6
  replace hz2:=Zp c5 hz2
  refine Vi (Zsr (Ydm [])) c5 ?_
  refine zG ?_
  exact Ju hz2 c5
 refine zW ?_
 obtain rfl:=sI h
 refine Zl (.inr rfl) hU [(vB z2)] (by omega) ?_
 simp only [push_cast,seval,↓reduceIte,Zd,Tryz.results194,hN0,hN]
theorem Qg {a0:Int} {a1:Int} {a2:Int} {r:Int} {O:Objs} {n:Nat} (h:Yf a0 a1 a2=some r):GTo Tryz.prog 197 [.val (.int .u64 a0),(vI a1),(vI a2)] O n ((vI r)) O n:=by
 unfold Yf at h
 refine Uw Zs Tryz.call197 Tryz.func197 rfl fun hU hN0 hN => ?_
 show W _ _ _ _ ⟨34,[],[(0,.val (.int .u64 a0)),(1,(vI a1)),(2,(vI a2))]⟩ (Zx O n []) _
 refine zQ [0,1,2] ?_
 refine Zf ?_
 refine zQd [0,1,2,7] [0,1,2,7] [] ?_
 obtain ⟨z2,hz2,h⟩:=bC h
 refine Yn (E':=⟨34,[],[(0,.val (.int .u64 z2)),(2,(vI a2))]⟩) (O':=(Zx O n [])) (n0:=n) ?_ ?_
 ·refine Xd hz2 (fun s0_=>⟨34,[],[(0,.val (.int .u64 s0_.1)),(1,(vI a1)),(2,(vI a2)),(7,(vI s0_.2))]⟩) (fun s0_=>(Zx O n [])) (fun z2=>JX 0 n (⟨34,[],[(0,.val (.int .u64 z2)),(2,(vI a2))]⟩:Env) (Zx O n []) n) ?_
  intro s0_ x0_ hs0_
  unfold G7 at hs0_
  try dsimp only
  refine Zf ?_
  refine zQ [0,1,2,7,13] ?_
  refine Zo (t:=(decide (s0_.2 < a1))) rfl (fun c1 => ?_) (fun c1 => ?_)
  ·replace hs0_:=Zq c1 hs0_
   refine Xs [0,1,2,7] [] ?_
   refine Zf ?_
   refine Yh ?_
   refine Gi [0,1,2,7] [] ?_
   refine zR ?_
   exact Vh hs0_
  replace hs0_:=Zp c1 hs0_
  exact zEx hs0_
 try simp only [Yv,Z9,↓reduceIte,Nat.reduceEqDiff]
 refine zD [0,2] [] ?_
 refine zQ [0,2,8,9] ?_
 refine Zf ?_
 refine zQd [0,2,8,9,10] [0,2,8,9,10] [] ?_
 obtain ⟨z6,hz6,h⟩:=bC h
 refine Yn (E':=⟨34,[],[(8,(vI z6))]⟩) (O':=(Zx O n [])) (n0:=n) ?_ ?_
 ·refine Xd hz6 (fun s1_=>⟨34,[],[(0,.val (.int .u64 s1_.1)),(2,(vI a2)),(8,(vI s1_.2.1)),(9,(vI s1_.2.2.1)),(10,(vI s1_.2.2.2))]⟩) (fun s1_=>(Zx O n [])) (fun z6=>JX 2 n (⟨34,[],[(8,(vI z6))]⟩:Env) (Zx O n []) n) ?_
  intro s1_ x1_ hs1_
  unfold G8 at hs1_
  try dsimp only
  refine Zf ?_
  refine zQ [0,2,8,9,10,20] ?_
  refine Zo (t:=(decide (s1_.2.2.2 < a2))) rfl (fun c5 => ?_) (fun c5 => ?_)
  ·replace hs1_:=Zq c5 hs1_
   refine Xs [0,2,8,9,10] [] ?_
   refine Zf ?_
   refine Yh ?_
   obtain ⟨z3,hz3,hs1_⟩:=bC hs1_
   refine Y1 (E':=⟨34,[],[(0,.val (.int .u64 s1_.1)),(2,(vI a2)),(8,(vI z3)),(9,(vI s1_.2.2.1)),(10,(vI s1_.2.2.2))]⟩) (O':=(Zx O n [])) (n0:=n) ?_ ?_
   ·refine zQ [0,2,8,9,10,25] ?_
    refine Zo (t:=((Int.tmod s1_.1 2) == 1)) rfl (fun c4 => ?_) (fun c4 => ?_)
    ·replace hz3:=Zq c4 hz3
     refine zR ?_
     exact Vh hz3
    replace hz3:=Zp c4 hz3
    refine zK ?_
    exact Vh hz3
   refine zQ [0,2,8,9,10] ?_
   refine Gi [0,2,8,9,10] [] ?_
   refine zR ?_
   exact Vh hs1_
  replace hs1_:=Zp c5 hs1_
  exact zEx hs1_
 try simp only [Yv,Z9,↓reduceIte,Nat.reduceEqDiff]
 refine zD [8] [] ?_
 refine zQ [6] ?_
 refine zW ?_
 obtain rfl:=sI h
 refine Zl (.inr rfl) hU [(vI z6)] (by omega) ?_
 simp only [push_cast,seval,↓reduceIte,Zd,Tryz.results197,hN0,hN]
theorem Jr {a0:Int} {r:Yp} {O:Objs} {n:Nat} (h:X1 a0=some r):GTo Tryz.prog 130 [.val (.int .u64 a0)] O n (.agg (Xh r)) O n:=by
 unfold X1 at h
 refine Uw Zs Tryz.call130 Tryz.func130 rfl fun hU hN0 hN => ?_
 show W _ _ _ _ ⟨42,[],[(0,.val (.int .u64 a0))]⟩ (Zx O n []) _
 refine zQ [0,2] ?_
 refine Zf ?_
 refine zQ [0,2,5] ?_
 refine Zo (t:=(a0 == 0)) rfl (fun c24 => ?_) (fun c24 => ?_)
 ·replace h:=Zq c24 h
  refine Zf ?_
  refine Gi [2] [true] ?_
  refine zW ?_
  obtain rfl:=sI h
  refine Zl (.inr rfl) hU [.agg [(vI 0),(vI 0),(vI 0),(vI 0),(vI 0),(vI 0),(vI 0),(vB false)]] (by omega) ?_
  simp only [push_cast,seval,↓reduceIte,Zd,Tryz.results130,hN0,hN]
 replace h:=Zp c24 h
 refine Xs [0,2] [true] ?_
 refine Zf ?_
 obtain ⟨y2,hy2,h⟩:=bC h
 refine zCd (Qg hy2) [0,2,3] [true] ?_
 obtain ⟨z3,hz3,h⟩:=bC h
 refine Y1 (E':=⟨42,[],[(0,.val (.int .u64 a0)),(2,.ref n 0),(3,(vI z3))]⟩) (O':=(Zx O n [some ⟨false,155,8,1,[(vI 0),(vI 0),(vI 0),(vI 0),(vI 0),(vI 0),(vI 0),(vB false)]⟩])) (n0:=(n+1)) ?_ ?_
 ·refine zQ [0,2,3,10] ?_
  refine Zo (t:=(decide (536870912≤y2))) rfl (fun c4 => ?_) (fun c4 => ?_)
  ·replace hz3:=Zq c4 hz3
   refine zR ?_
   exact Vh hz3
  replace hz3:=Zp c4 hz3
  refine zK ?_
  exact Vh hz3
 refine Zf ?_
 refine Zf ?_
 obtain ⟨y6,hy6,h⟩:=bC h
 refine zCd (Qg hy6) [0,2,3,14] [true] ?_
 refine Yh ?_
 refine zQ [0,2,3,14,15] ?_
 refine Zo (t:=(y6 == 0)) rfl (fun c23 => ?_) (fun c23 => ?_)
 ·replace h:=Zq c23 h
  refine Zf ?_
  obtain ⟨y9,hy9,h⟩:=bC h
  obtain ⟨y10,hy10,h⟩:=bC h
  refine zC (Qg hy9) ?_
  refine zTs (Qg hy10) ?_
  refine zD [2] [true] ?_
  refine zW ?_
  obtain rfl:=sI h
  refine Zl (.inr rfl) hU [.agg [(vI 1),(vI z3),(vI y9),(vI y10),(vI 0),(vI 0),(vI 0),(vB false)]] (by omega) ?_
  simp only [push_cast,seval,↓reduceIte,Zd,Tryz.results130,hN0,hN]
 replace h:=Zp c23 h
 refine zQ [0,2,3,14,23] ?_
 refine Zo (t:=(y6 == 1)) rfl (fun c22 => ?_) (fun c22 => ?_)
 ·replace h:=Zq c22 h
  refine Zf ?_
  obtain ⟨y13,hy13,h⟩:=bC h
  obtain ⟨y14,hy14,h⟩:=bC h
  refine zC (Qg hy13) ?_
  refine zTs (Qg hy14) ?_
  refine zD [2] [true] ?_
  refine zW ?_
  obtain rfl:=sI h
  refine Zl (.inr rfl) hU [.agg [(vI 2),(vI z3),(vI 0),(vI 0),(vI y13),(vI y14),(vI 0),(vB false)]] (by omega) ?_
  simp only [push_cast,seval,↓reduceIte,Zd,Tryz.results130,hN0,hN]
 replace h:=Zp c22 h
 refine zQ [0,2,31] ?_
 refine Zo (t:=(y6 == 2)) rfl (fun c21 => ?_) (fun c21 => ?_)
 ·replace h:=Zq c21 h
  refine Zf ?_
  obtain ⟨y18,hy18,h⟩:=bC h
  obtain ⟨y19,hy19,h⟩:=bC h
  obtain ⟨y20,hy20,h⟩:=bC h
  refine zC (Qg hy18) ?_
  refine zTs (Qg hy19) ?_
  refine zTs (Qg hy20) ?_
  refine zD [2] [true] ?_
  refine zW ?_
  obtain rfl:=sI h
  refine Zl (.inr rfl) hU [.agg [(vI 3),(vI y18),(vI 0),(vI 0),(vI 0),(vI 0),(vI y19),(vB (y20 == 1))]] (by omega) ?_
  simp only [push_cast,seval,↓reduceIte,Zd,Tryz.results130,hN0,hN]
 replace h:=Zp c21 h
 refine Xs [2] [true] ?_
 refine Zf ?_
 refine Gi [2] [true] ?_
 refine zW ?_
 obtain rfl:=sI h
 refine Zl (.inr rfl) hU [.agg [(vI 4),(vI 0),(vI 0),(vI 0),(vI 0),(vI 0),(vI 0),(vB false)]] (by omega) ?_
 simp only [push_cast,seval,↓reduceIte,Zd,Tryz.results130,hN0,hN]
theorem Zgo {a0:Yp} {r:Int} {O:Objs} {n:Nat} (h:Kq a0=some r):GTo Tryz.prog 195 [.agg (Xh a0)] O n ((vI r)) O n:=by
 unfold Kq at h
 refine Uw Zs Tryz.call195 Tryz.func195 rfl fun hU hN0 hN => ?_
 show W _ _ _ _ ⟨14,[],[(0,.agg (Xh a0))]⟩ (Zx O n []) _
 refine zQ [1] ?_
 refine Zf ?_
 refine zQ [1,5] ?_
 refine Zo (t:=(a0.Kind == 4)) rfl (fun c2 => ?_) (fun c2 => ?_)
 ·replace h:=Zq c2 h
  refine zQ [2] ?_
  refine zW ?_
  obtain rfl:=sI h
  refine Zl (.inr rfl) hU [(vI 9)] (by omega) ?_
  simp only [push_cast,seval,↓reduceIte,Zd,Tryz.results195,hN0,hN]
 replace h:=Zp c2 h
 refine Xs [1] [true] ?_
 refine Zf ?_
 refine zQD [13] [none,none,none] ?_
 refine Zo (t:=(cond (a0.Kind != 1) (a0.Kind != 2) false)) rfl (fun c1 => ?_) (fun c1 => ?_)
 ·replace h:=Zq c1 h
  refine zQ [2] ?_
  refine zW ?_
  obtain rfl:=sI h
  refine Zl (.inr rfl) hU [(vI 8)] (by omega) ?_
  simp only [push_cast,seval,↓reduceIte,Zd,Tryz.results195,hN0,hN]
 replace h:=Zp c1 h
 refine Xs [] [false] ?_
 refine zQ [2] ?_
 refine zW ?_
 obtain rfl:=sI h
 refine Zl (.inr rfl) hU [(vI 0)] (by omega) ?_
 simp only [push_cast,seval,↓reduceIte,Zd,Tryz.results195,hN0,hN]
theorem Znn {a0:Yp} {r:Int} {O:Objs} {n:Nat} (h:Gv a0=some r):GTo Tryz.prog 252 [.agg (Xh a0)] O n ((vI r)) O n:=by
 unfold Gv at h
 refine Uw Zs Tryz.call252 Tryz.func252 rfl fun hU hN0 hN => ?_
 show W _ _ _ _ ⟨65,[],[(0,.agg (Xh a0))]⟩ (Zx O n []) _
 refine zQ [1] ?_
 refine Zf ?_
 refine zQ [1,6] ?_
 refine Zo (t:=(a0.Kind == 1)) rfl (fun c17 => ?_) (fun c17 => ?_)
 ·replace h:=Zq c17 h
  refine zQ [2] ?_
  refine zW ?_
  obtain rfl:=sI h
  refine Zl (.inr rfl) hU [(vI (IntKind.i64.wrap (a0.Data+a0.Ptrs)))] (by omega) ?_
  simp only [push_cast,seval,↓reduceIte,Zd,Tryz.results252,hN0,hN]
 replace h:=Zp c17 h
 refine Xs [1] [true] ?_
 refine Zf ?_
 refine zQ [1,14] ?_
 refine Zo (t:=(a0.Kind != 2)) rfl (fun c16 => ?_) (fun c16 => ?_)
 ·replace h:=Zq c16 h
  refine zQ [2] ?_
  refine zW ?_
  obtain rfl:=sI h
  refine Zl (.inr rfl) hU [(vI (-1))] (by omega) ?_
  simp only [push_cast,seval,↓reduceIte,Zd,Tryz.results252,hN0,hN]
 replace h:=Zp c16 h
 refine Xs [1] [true] ?_
 refine Zf ?_
 refine zQ [1,17] ?_
 refine Zo (t:=(a0.Code == 7)) rfl (fun c15 => ?_) (fun c15 => ?_)
 ·replace h:=Zq c15 h
  refine zQ [2] ?_
  refine zW ?_
  obtain rfl:=sI h
  refine Zl (.inr rfl) hU [(vI (IntKind.i64.wrap (a0.Count+1)))] (by omega) ?_
  simp only [push_cast,seval,↓reduceIte,Zd,Tryz.results252,hN0,hN]
 replace h:=Zp c15 h
 refine Xs [1] [true] ?_
 refine Zf ?_
 refine zQD [1,38] [none,none,none,none,none,none,none,none,none] ?_
 refine Zo (t:=(cond (cond (cond (decide (a0.Code < 0)) true (decide (6 < a0.Code))) true (decide (a0.Count < 0))) true (decide (536870912≤a0.Count)))) rfl (fun c14 => ?_) (fun c14 => ?_)
 ·replace h:=Zq c14 h
  refine zQ [2] ?_
  refine zW ?_
  obtain rfl:=sI h
  refine Zl (.inr rfl) hU [(vI (-1))] (by omega) ?_
  simp only [push_cast,seval,↓reduceIte,Zd,Tryz.results252,hN0,hN]
 replace h:=Zp c14 h
 refine Xs [1] [true] ?_
 refine zQ [1,3] ?_
 obtain ⟨z1,hz1,h⟩:=bC h
 refine Ztk (J:=(Xg (fun z1=>JN n (⟨65,[],[(1,.ref n 0),(3,(vI z1))]⟩:Env) (Zx O n [some ⟨false,155,8,1,(Xh a0)⟩]) (n+1)) (fun z1=>JR n (⟨65,[],[(2,(vI 0))]⟩:Env) (Zx O n [none]) (n+1)))) (z:=z1) ?_ fun hw => ?_
 ·refine zQ [1,3,40] ?_
  refine Yh ?_
  refine zQ [1,3,40,41] ?_
  refine Zo (t:=(a0.Code == 0)) rfl (fun c6 => ?_) (fun c6 => ?_)
  ·replace hz1:=Zq c6 hz1
   refine zQ [2] ?_
   refine zW ?_
   exact Vh hz1
  replace hz1:=Zp c6 hz1
  refine zQ [1,3,40,43] ?_
  refine Zo (t:=(a0.Code == 1)) rfl (fun c5 => ?_) (fun c5 => ?_)
  ·replace hz1:=Zq c5 hz1
   refine zR ?_
   exact Vh hz1
  replace hz1:=Zp c5 hz1
  refine zQ [1,3,40,45] ?_
  refine Zo (t:=(a0.Code == 2)) rfl (fun c4 => ?_) (fun c4 => ?_)
  ·replace hz1:=Zq c4 hz1
   refine zR ?_
   exact Vh hz1
  replace hz1:=Zp c4 hz1
  refine zQ [1,3,40,47] ?_
  refine Zo (t:=(a0.Code == 3)) rfl (fun c3 => ?_) (fun c3 => ?_)
  ·replace hz1:=Zq c3 hz1
   refine zR ?_
   exact Vh hz1
  replace hz1:=Zp c3 hz1
  refine zQ [1,3,49] ?_
  refine Zo (t:=(a0.Code == 4)) rfl (fun c2 => ?_) (fun c2 => ?_)
  ·replace hz1:=Zq c2 hz1
   refine zR ?_
   exact Vh hz1
  replace hz1:=Zp c2 hz1
  refine zK ?_
  exact Vh hz1
 rcases z1 with z1 | z1
 ·dsimp only [Xg] at hw h
  refine Y1 hw ?_
  refine Zf ?_
  obtain ⟨pu8,h⟩:=bG h
  refine Zef [1,3,55] (Yr Zs [] ?_)
  simp only [push_cast,seval,↓reduceIte,Zd,pu8,hN0,hN]
  refine Zo (t:=(decide (0 < (Int.tmod a0.Count z1)))) rfl (fun c13 => ?_) (fun c13 => ?_)
  ·replace h:=Zq c13 h
   obtain ⟨pu10,h⟩:=bG h
   refine Zef [2] (Yr Zs [] ?_)
   simp only [push_cast,seval,↓reduceIte,Zd,pu10,hN0,hN]
   refine zW ?_
   obtain rfl:=sI h
   refine Zl (.inr rfl) hU [(vI (IntKind.i64.wrap ((IntKind.i64.wrap (Int.tdiv a0.Count z1))+1)))] (by omega) ?_
   simp only [push_cast,seval,↓reduceIte,Zd,Tryz.results252,hN0,hN]
  replace h:=Zp c13 h
  refine Xs [1,3] [true] ?_
  obtain ⟨pu12,h⟩:=bG h
  refine Zef [2] (Yr Zs [] ?_)
  simp only [push_cast,seval,↓reduceIte,Zd,pu12,hN0,hN]
  refine zW ?_
  obtain rfl:=sI h
  refine Zl (.inr rfl) hU [(vI (IntKind.i64.wrap (Int.tdiv a0.Count z1)))] (by omega) ?_
  simp only [push_cast,seval,↓reduceIte,Zd,Tryz.results252,hN0,hN]
 dsimp only [Xg] at hw h
 refine Zlr hw ?_
 try simp only [Yv,Z9]
 obtain rfl:=sI h
 refine Zl (.inr rfl) hU [(vI 0)] (by omega) ?_
 simp only [push_cast,seval,↓reduceIte,Zd,Tryz.results252,hN0,hN]
theorem Zgp {a0:(List (List Int))} {a1:Yj} {r:(Yj×Int)} {O:Objs} {n:Nat} (h:Kr a0 a1=some r):GTo Tryz.prog 196 [(sL (eL (eI .u64)) a0),.agg [(vI a1.P.Kind),(vI a1.P.Off),(vI a1.P.Data),(vI a1.P.Ptrs),(vI a1.P.Code),(vI a1.P.Count),(vI a1.P.Segment),(vB a1.P.Double),(vI a1.Segment),(vI a1.At)]] O n (.tup [.agg [(vI r.1.P.Kind),(vI r.1.P.Off),(vI r.1.P.Data),(vI r.1.P.Ptrs),(vI r.1.P.Code),(vI r.1.P.Count),(vI r.1.P.Segment),(vB r.1.P.Double),(vI r.1.Segment),(vI r.1.At)],(vI r.2)]) O n:=by
 unfold Kr at h
 refine Uw Zs Tryz.call196 Tryz.func196 rfl fun hU hN0 hN => ?_
 show W _ _ _ _ ⟨53,[],[(0,(sL (eL (eI .u64)) a0)),(1,.agg [(vI a1.P.Kind),(vI a1.P.Off),(vI a1.P.Data),(vI a1.P.Ptrs),(vI a1.P.Code),(vI a1.P.Count),(vI a1.P.Segment),(vB a1.P.Double),(vI a1.Segment),(vI a1.At)])]⟩ (Zx O n []) _
 refine zQ [0,3,4] ?_
 refine Zf ?_
 obtain ⟨y2,hy2,h⟩:=bC h
 refine zCd (Znn hy2) [0,3,4,6] [true,true] ?_
 refine Zf ?_
 obtain ⟨z5,hz5,h⟩:=bC h
 refine Y1 (E':=⟨53,[],[(3,.ref n 0),(4,.ref (n+1) 0),(48,(vB z5))]⟩) (O':=(Zx O n [some ⟨false,157,10,1,[(vI a1.P.Kind),(vI a1.P.Off),(vI a1.P.Data),(vI a1.P.Ptrs),(vI a1.P.Code),(vI a1.P.Count),(vI a1.P.Segment),(vB a1.P.Double),(vI a1.Segment),(vI a1.At)]⟩,some ⟨false,157,10,1,[(vI 0),(vI 0),(vI 0),(vI 0),(vI 0),(vI 0),(vI 0),(vB false),(vI 0),(vI 0)]⟩])) (n0:=(n+2)) ?_ ?_
 ·rcases Bool.eq_false_or_eq_true (decide (a1.Segment < 0)) with c10 | c10
  ·replace hz5:=Zq c10 hz5
   refine Xl Zs (by kernel_rfl) (Zi3 (Ydl [])) (by kernel_rfl) ?_
   refine zX1 c10 ?_
   refine zG ?_
   exact Ju hz5 c10
  replace hz5:=Zp c10 hz5
  rcases Bool.eq_false_or_eq_true (decide ((a0.length:Int)≤a1.Segment)) with Jz | Jz
  ·replace hz5:=Zq Jz hz5
   try rw [Jz] at c10
   refine Xl Zs (by kernel_rfl) (Zi3 (Ydl [])) (by kernel_rfl) ?_
   refine zX2 c10 Jz ?_
   refine zG ?_
   exact Zgf hz5 c10 Jz
  replace hz5:=Zp Jz hz5
  try rw [Jz] at c10
  rcases Bool.eq_false_or_eq_true (decide (a1.At < 0)) with G9 | G9
  ·replace hz5:=Zq G9 hz5
   try rw [G9] at c10
   try rw [G9] at Jz
   refine Xl Zs (by kernel_rfl) (Zi3 (Ydl [])) (by kernel_rfl) ?_
   refine zX3 c10 Jz G9 ?_
   refine zG ?_
   exact Ze6 hz5 c10 Jz G9
  replace hz5:=Zp G9 hz5
  try rw [G9] at c10
  try rw [G9] at Jz
  obtain ⟨x8,hx8,ax8,bx8,cx8,hz5⟩:=bE (f:=(eL (eI .u64))) Zgd (fun _=>rfl) (by decide) hz5
  rcases Bool.eq_false_or_eq_true (decide ((x8.length:Int) < a1.At)) with c13 | c13
  ·replace hz5:=Zq c13 hz5
   try rw [c13] at c10
   try rw [c13] at Jz
   try rw [c13] at G9
   refine Xl Zs (by kernel_rfl) (Zi3 (Ydo (Yhp []))) (by kernel_rfl) ?_
   refine zF7 c10 Jz G9 ax8 bx8 cx8 c13 ?_
   refine zG ?_
   exact Z52 hz5 c10 Jz G9 ax8 bx8 cx8 c13
  replace hz5:=Zp c13 hz5
  try rw [c13] at c10
  try rw [c13] at Jz
  try rw [c13] at G9
  refine Xl Zs (by kernel_rfl) (Zi3 (Yk3 [])) (by kernel_rfl) ?_
  refine zF7 c10 Jz G9 ax8 bx8 cx8 c13 ?_
  refine zG ?_
  exact Z52 hz5 c10 Jz G9 ax8 bx8 cx8 c13
 refine Zo (t:=z5) rfl (fun c14 => ?_) (fun c14 => ?_)
 ·replace h:=Zq c14 h
  refine Zf ?_
  refine Gi [4,5] [false,true] ?_
  refine zW ?_
  obtain rfl:=sI h
  refine Zl (.inr rfl) hU [.agg [(vI 0),(vI 0),(vI 0),(vI 0),(vI 0),(vI 0),(vI 0),(vB false),(vI 0),(vI 0)],(vI 7)] (by omega) ?_
  simp only [push_cast,seval,↓reduceIte,Zd,Tryz.results196,hN0,hN]
 replace h:=Zp c14 h
 refine Xs [3,4] [true,true] ?_
 refine Zf ?_
 refine Gi [3,4] [true,true] ?_
 refine Zf ?_
 refine Gi [4,5] [false,true] ?_
 refine zW ?_
 obtain rfl:=sI h
 refine Zl (.inr rfl) hU [.agg [(vI a1.P.Kind),(vI 0),(vI a1.P.Data),(vI a1.P.Ptrs),(vI a1.P.Code),(vI a1.P.Count),(vI a1.P.Segment),(vB a1.P.Double),(vI a1.Segment),(vI a1.At)],(vI 0)] (by omega) ?_
 simp only [push_cast,seval,↓reduceIte,Zd,Tryz.results196,hN0,hN]
theorem Zl8 {a0:(List (List Int))} {a1:Int} {a2:Int} {r:(Yj×Int)} {O:Objs} {n:Nat} (h:Vm a0 a1 a2=some r):GTo Tryz.prog 129 [(sL (eL (eI .u64)) a0),(vI a1),(vI a2)] O n (.tup [.agg [(vI r.1.P.Kind),(vI r.1.P.Off),(vI r.1.P.Data),(vI r.1.P.Ptrs),(vI r.1.P.Code),(vI r.1.P.Count),(vI r.1.P.Segment),(vB r.1.P.Double),(vI r.1.Segment),(vI r.1.At)],(vI r.2)]) O n:=by
 unfold Vm at h
 refine Uw Zs Tryz.call129 Tryz.func129 rfl fun hU hN0 hN => ?_
 show W _ _ _ _ ⟨147,[],[(0,(sL (eL (eI .u64)) a0)),(1,(vI a1)),(2,(vI a2))]⟩ (Zx O n []) _
 refine zQ [0,1,2,6] ?_
 refine Zf ?_
 refine Zf ?_
 obtain ⟨y2,hy2,h⟩:=bC h
 refine zCd (Zax hy2) [0,1,2,6,17] [true] ?_
 refine Zo (t:=(!y2)) rfl (fun c47 => ?_) (fun c47 => ?_)
 ·replace h:=Zq c47 h
  refine Zf ?_
  refine Gi [6,7] [true] ?_
  refine zW ?_
  obtain rfl:=sI h
  refine Zl (.inr rfl) hU [.agg [(vI 0),(vI 0),(vI 0),(vI 0),(vI 0),(vI 0),(vI 0),(vB false),(vI 0),(vI 0)],(vI 7)] (by omega) ?_
  simp only [push_cast,seval,↓reduceIte,Zd,Tryz.results129,hN0,hN]
 replace h:=Zp c47 h
 refine Xs [0,1,2,6] [true] ?_
 refine Zf ?_
 obtain ⟨x6,hx6,ax6,bx6,cx6,h⟩:=bE (f:=(eL (eI .u64))) Zgd (fun _=>rfl) (by decide) h
 obtain ⟨x7,hx7,ax7,bx7,cx7,h⟩:=bE (f:=(eI .u64)) Za6 (fun _=>rfl) (by decide) h
 obtain ⟨y8,hy8,h⟩:=bC h
 refine Ye7 [] ax6 bx6 cx6 ax7 bx7 cx7 ?_
 refine (Jr hy8).then ?_
 refine zF6 ax6 bx6 cx6 ax7 bx7 cx7 ?_
 refine zDs [0,1,2,6,8] [true,true] ?_
 refine zQ [0,1,2,6,8,29] ?_
 refine Zo (t:=(y8.Kind == 0)) rfl (fun c46 => ?_) (fun c46 => ?_)
 ·replace h:=Zq c46 h
  refine Zf ?_
  refine Gi [6,7] [true,false] ?_
  refine zW ?_
  obtain rfl:=sI h
  refine Zl (.inr rfl) hU [.agg [(vI 0),(vI 0),(vI 0),(vI 0),(vI 0),(vI 0),(vI 0),(vB false),(vI 0),(vI 0)],(vI 0)] (by omega) ?_
  simp only [push_cast,seval,↓reduceIte,Zd,Tryz.results129,hN0,hN]
 replace h:=Zp c46 h
 refine Xs [0,1,2,6,8] [true,true] ?_
 refine Zf ?_
 refine zQD [0,1,2,6,8,37] [none,none] ?_
 refine Zo (t:=(cond (y8.Kind == 3) y8.Double false)) rfl (fun c45 => ?_) (fun c45 => ?_)
 ·replace h:=Zq c45 h
  refine Zf ?_
  obtain ⟨z11,hz11,h⟩:=bC h
  refine Y1 (E':=⟨147,[],[(0,(sL (eL (eI .u64)) a0)),(6,.ref n 0),(8,.ref (n+1) 0),(54,(vB z11))]⟩) (O':=(Zx O n [some ⟨false,157,10,1,[(vI 0),(vI 0),(vI 0),(vI 0),(vI 0),(vI 0),(vI 0),(vB false),(vI 0),(vI 0)]⟩,some ⟨false,155,8,1,(Xh y8)⟩])) (n0:=(n+2)) ?_ ?_
  ·obtain ⟨y14,hy14,hz11⟩:=bC hz11
   rcases Bool.eq_false_or_eq_true y14 with c16 | c16
   ·replace hz11:=Zq c16 hz11
    obtain ⟨y15,hy15,hz11⟩:=bC hz11
    refine Vi (Yf5 []) c16 ?_
    refine (Zax hy14).then ?_
    refine zX1 c16 ?_
    refine (Zax hy15).then ?_
    refine zX1 c16 ?_
    exact Ju hz11 c16
   replace hz11:=Zp c16 hz11
   refine Vi (Yf4 []) c16 ?_
   refine (Zax hy14).then ?_
   refine zX1 c16 ?_
   exact Ju hz11 c16
  refine Zo (t:=z11) rfl (fun c31 => ?_) (fun c31 => ?_)
  ·replace h:=Zq c31 h
   refine Zf ?_
   refine Gi [6,7] [true,false] ?_
   refine zW ?_
   obtain rfl:=sI h
   refine Zl (.inr rfl) hU [.agg [(vI 0),(vI 0),(vI 0),(vI 0),(vI 0),(vI 0),(vI 0),(vB false),(vI 0),(vI 0)],(vI 7)] (by omega) ?_
   simp only [push_cast,seval,↓reduceIte,Zd,Tryz.results129,hN0,hN]
  replace h:=Zp c31 h
  refine Xs [0,6,8] [true,true] ?_
  obtain ⟨x17,hx17,ax17,bx17,cx17,h⟩:=bE (f:=(eL (eI .u64))) Zgd (fun _=>rfl) (by decide) h
  obtain ⟨x18,hx18,ax18,bx18,cx18,h⟩:=bE (f:=(eI .u64)) Za6 (fun _=>rfl) (by decide) h
  obtain ⟨y19,hy19,h⟩:=bC h
  obtain ⟨x21,hx21,ax21,bx21,cx21,h⟩:=bE (f:=(eI .u64)) Za6 (fun _=>rfl) (by decide) h
  obtain ⟨y22,hy22,h⟩:=bC h
  refine Y1 (E':=⟨147,[],[(0,(sL (eL (eI .u64)) a0)),(6,.ref n 0),(9,.ref (n+2) 0),(10,.ref (n+3) 0)]⟩) (O':=(Zx O n [some ⟨false,157,10,1,[(vI 0),(vI 0),(vI 0),(vI 0),(vI 0),(vI 0),(vI 0),(vB false),(vI 0),(vI 0)]⟩,none,some ⟨false,155,8,1,(Xh y19)⟩,some ⟨false,155,8,1,(Xh y22)⟩])) (n0:=(n+4)) ?_ ?_
  ·refine Z7m Zs (by kernel_rfl) [.low,.low,.low,.low,.low,.low,.low,.low,.low,.low,.low,.low,.low,.low,.low,.low,.low,.low,.low,.low,.low,.pass,.pass,.pass,.pass] (fun i=>i < (n+2)) 21 22 [0,1,2,3,4,5,6,7,8,9,10,11,12,13,14,15,16,17,18,19,20] [23,24] [.low,.low,.low,.low,.low,.low,.low,.low,.low,.low,.low,.low,.low,.low,.low,.low,.low,.low,.low,.low,.low] [.pass,.pass,.pass,.pass] [.pass,.pass,.pass,.pass] [] (by kernel_rfl) rfl rfl rfl ?_
   refine zF9 ax17 bx17 cx17 ax18 bx18 cx18 ax21 bx21 cx21 ?_
   repeat (with_reducible refine And.intro (by omega) ?_)
   first | refine PCallA.of (fun _ _=>Jr hy19) ?_ | refine PCall.of (Jr hy19) ?_
   refine zF9 ax17 bx17 cx17 ax18 bx18 cx18 ax21 bx21 cx21 ?_
   repeat (with_reducible refine And.intro (by omega) ?_)
   first | refine PCallA.of (fun _ _=>Jr hy22) ?_ | refine PCall.of (Jr hy22) ?_
   refine zF9 ax17 bx17 cx17 ax18 bx18 cx18 ax21 bx21 cx21 ?_
   repeat (with_reducible refine And.intro (by omega) ?_)
   refine And.intro ?_ ?_
   ·refine zF9 ax17 bx17 cx17 ax18 bx18 cx18 ax21 bx21 cx21 ?_
    repeat (with_reducible refine And.intro (by first | exact Zjc rfl | exact Zg8) ?_)
    refine And.intro rfl (Fit2.of (Y0 hU rfl rfl ?_) (by omega))
    exact Ykd ax17 bx17 cx17 ax18 bx18 cx18 ax21 bx21 cx21
   refine zF9 ax17 bx17 cx17 ax18 bx18 cx18 ax21 bx21 cx21 ?_
   repeat (with_reducible refine And.intro (by first | exact Zjc rfl | exact Zg8) ?_)
   refine And.intro rfl ?_
   refine Fit2.trans (E':=(⟨147,[],[(0,(sL (eL (eI .u64)) a0)),(6,.ref n 0),(9,.ref (n+3) 0),(10,.ref (n+2) 0)]⟩:Env)) (O':=(Zx O n [some ⟨false,157,10,1,[(vI 0),(vI 0),(vI 0),(vI 0),(vI 0),(vI 0),(vI 0),(vB false),(vI 0),(vI 0)]⟩,none,some ⟨false,155,8,1,(Xh y22)⟩,some ⟨false,155,8,1,(Xh y19)⟩])) (n':=(n+4)) (Fit2.of (Y0 hU rfl rfl ?_) (by omega)) ?_
   ·exact Ykd ax17 bx17 cx17 ax18 bx18 cx18 ax21 bx21 cx21
   refine Zcm (k:=4) (k':=4) hU [0,1,3,2] [0,1,3,2] rfl rfl rfl rfl ⟨rfl,rfl⟩ ?_
   exact zSe
  refine Zf ?_
  refine zQD [0,6,9,10,83] [none,none] ?_
  refine Zo (t:=(cond (y19.Kind != 3) true y19.Double)) rfl (fun c30 => ?_) (fun c30 => ?_)
  ·replace h:=Zq c30 h
   refine Zf ?_
   refine Gi [6,7] [true,false,false,false] ?_
   refine zW ?_
   obtain rfl:=sI h
   refine Zl (.inr rfl) hU [.agg [(vI 0),(vI 0),(vI 0),(vI 0),(vI 0),(vI 0),(vI 0),(vB false),(vI 0),(vI 0)],(vI 8)] (by omega) ?_
   simp only [push_cast,seval,↓reduceIte,Zd,Tryz.results129,hN0,hN]
  replace h:=Zp c30 h
  refine Xs [0,6,9,10] [true,false,true,true] ?_
  refine Zf ?_
  obtain ⟨y24,hy24,h⟩:=bC h
  refine zCd (Zgo hy24) [0,6,9,10,11] [true,false,true,true] ?_
  obtain ⟨z25,hz25,h⟩:=bC h
  refine Y1 (E':=⟨147,[],[(0,(sL (eL (eI .u64)) a0)),(6,.ref n 0),(9,.ref (n+2) 0),(10,.ref (n+3) 0),(11,(vI z25))]⟩) (O':=(Zx O n [some ⟨false,157,10,1,[(vI 0),(vI 0),(vI 0),(vI 0),(vI 0),(vI 0),(vI 0),(vB false),(vI 0),(vI 0)]⟩,none,some ⟨false,155,8,1,(Xh y19)⟩,some ⟨false,155,8,1,(Xh y22)⟩])) (n0:=(n+4)) ?_ ?_
  ·refine zQD [0,6,9,10,11,93] [none,none,none] ?_
   refine Zo (t:=(cond (y24 == 0) (y22.Off != 0) false)) rfl (fun c26 => ?_) (fun c26 => ?_)
   ·replace hz25:=Zq c26 hz25
    refine zR ?_
    exact Vh hz25
   replace hz25:=Zp c26 hz25
   refine zK ?_
   exact Vh hz25
  refine Zf ?_
  refine zQ [0,6,9,10,11,95] ?_
  refine Zo (t:=(z25 != 0)) rfl (fun c29 => ?_) (fun c29 => ?_)
  ·replace h:=Zq c29 h
   refine Zf ?_
   refine Gi [6,7] [true,false,false,false] ?_
   refine zW ?_
   obtain rfl:=sI h
   refine Zl (.inr rfl) hU [.agg [(vI 0),(vI 0),(vI 0),(vI 0),(vI 0),(vI 0),(vI 0),(vB false),(vI 0),(vI 0)],(vI z25)] (by omega) ?_
   simp only [push_cast,seval,↓reduceIte,Zd,Tryz.results129,hN0,hN]
  replace h:=Zp c29 h
  refine Xs [0,6,9,10] [true,false,true,true] ?_
  refine Zf ?_
  obtain ⟨y28,hy28,h⟩:=bC h
  refine zCd (Zgp hy28) [6,7] [true,false,false,false] ?_
  refine zW ?_
  obtain rfl:=sI h
  refine Zl (.inr rfl) hU [.agg [(vI y28.1.P.Kind),(vI y28.1.P.Off),(vI y28.1.P.Data),(vI y28.1.P.Ptrs),(vI y28.1.P.Code),(vI y28.1.P.Count),(vI y28.1.P.Segment),(vB y28.1.P.Double),(vI y28.1.Segment),(vI y28.1.At)],(vI y28.2)] (by omega) ?_
  simp only [push_cast,seval,↓reduceIte,Zd,Tryz.results129,hN0,hN]
 replace h:=Zp c45 h
 refine Xs [0,1,2,6,8] [true,true] ?_
 obtain ⟨z32,hz32,h⟩:=bC h
 refine Ztk (J:=(Xg (fun z32=>JN n (⟨147,[],[(0,(sL (eL (eI .u64)) a0)),(1,(vI z32.1)),(2,(vI z32.2.1)),(6,.ref n 0),(8,.ref (n+1) 0)]⟩:Env) (Zx O n [some ⟨false,157,10,1,[(vI 0),(vI 0),(vI 0),(vI 0),(vI 0),(vI 0),(vI 0),(vB false),(vI 0),(vI 0)]⟩,some ⟨false,155,8,1,[(vI z32.2.2.1),(vI z32.2.2.2.1),(vI z32.2.2.2.2.1),(vI z32.2.2.2.2.2.1),(vI z32.2.2.2.2.2.2.1),(vI z32.2.2.2.2.2.2.2.1),(vI z32.2.2.2.2.2.2.2.2.1),(vB z32.2.2.2.2.2.2.2.2.2)]⟩]) (n+2)) (fun z32=>JR n (⟨147,[],[(6,.ref n 0),(7,(vI 7))]⟩:Env) (Zx O n [some ⟨false,157,10,1,[(vI 0),(vI 0),(vI 0),(vI 0),(vI 0),(vI 0),(vI 0),(vB false),(vI 0),(vI 0)]⟩,none]) (n+2)))) (z:=z32) ?_ fun hw => ?_
 ·refine zQ [0,1,2,6,8,110] ?_
  refine Zo (t:=(y8.Kind == 3)) rfl (fun c39 => ?_) (fun c39 => ?_)
  ·replace hz32:=Zq c39 hz32
   refine zQ [0,1,6,8] ?_
   refine zQ [0,1,2,6,8] ?_
   refine Zf ?_
   refine Zf ?_
   obtain ⟨y34,hy34,hz32⟩:=bC hz32
   refine zCd (Zax hy34) [0,1,2,6,8,119] [true,true] ?_
   refine Zo (t:=(!y34)) rfl (fun c38 => ?_) (fun c38 => ?_)
   ·replace hz32:=Zq c38 hz32
    refine Zf ?_
    refine Gi [6,7] [true,false] ?_
    refine zW ?_
    exact Vh hz32
   replace hz32:=Zp c38 hz32
   refine Xs [0,1,2,6,8] [true,true] ?_
   obtain ⟨x35,hx35,ax35,bx35,cx35,hz32⟩:=bE (f:=(eL (eI .u64))) Zgd (fun _=>rfl) (by decide) hz32
   obtain ⟨x36,hx36,ax36,bx36,cx36,hz32⟩:=bE (f:=(eI .u64)) Za6 (fun _=>rfl) (by decide) hz32
   obtain ⟨y37,hy37,hz32⟩:=bC hz32
   refine Ye7 [] ax35 bx35 cx35 ax36 bx36 cx36 ?_
   refine (Jr hy37).then ?_
   refine zF6 ax35 bx35 cx35 ax36 bx36 cx36 ?_
   exact Yi5 hz32 ax35 bx35 cx35 ax36 bx36 cx36
  replace hz32:=Zp c39 hz32
  refine zK ?_
  exact Vh hz32
 rcases z32 with z32 | z32
 ·dsimp only [Xg] at hw h
  refine Y1 hw ?_
  refine Zf ?_
  obtain ⟨y41,hy41,h⟩:=bC h
  refine zCd (Zgo hy41) [0,1,2,6,8,12] [true,true] ?_
  refine Zf ?_
  refine zQ [0,1,2,6,8,12,132] ?_
  refine Zo (t:=(y41 != 0)) rfl (fun c44 => ?_) (fun c44 => ?_)
  ·replace h:=Zq c44 h
   refine Zf ?_
   refine Gi [6,7] [true,false] ?_
   refine zW ?_
   obtain rfl:=sI h
   refine Zl (.inr rfl) hU [.agg [(vI 0),(vI 0),(vI 0),(vI 0),(vI 0),(vI 0),(vI 0),(vB false),(vI 0),(vI 0)],(vI y41)] (by omega) ?_
   simp only [push_cast,seval,↓reduceIte,Zd,Tryz.results129,hN0,hN]
  replace h:=Zp c44 h
  refine Xs [0,1,2,6,8] [true,true] ?_
  refine Zf ?_
  obtain ⟨y43,hy43,h⟩:=bC h
  refine zCd (Zgp hy43) [6,7] [true,false] ?_
  refine zW ?_
  obtain rfl:=sI h
  refine Zl (.inr rfl) hU [.agg [(vI y43.1.P.Kind),(vI y43.1.P.Off),(vI y43.1.P.Data),(vI y43.1.P.Ptrs),(vI y43.1.P.Code),(vI y43.1.P.Count),(vI y43.1.P.Segment),(vB y43.1.P.Double),(vI y43.1.Segment),(vI y43.1.At)],(vI y43.2)] (by omega) ?_
  simp only [push_cast,seval,↓reduceIte,Zd,Tryz.results129,hN0,hN]
 dsimp only [Xg] at hw h
 refine Zlr hw ?_
 try simp only [Yv,Z9]
 obtain rfl:=sI h
 refine Zl (.inr rfl) hU [.agg [(vI 0),(vI 0),(vI 0),(vI 0),(vI 0),(vI 0),(vI 0),(vB false),(vI 0),(vI 0)],(vI 7)] (by omega) ?_
 simp only [push_cast,seval,↓reduceIte,Zd,Tryz.results129,hN0,hN]
theorem Zfj {a0:(List (List Int))} {a1:Int} {a2:Int} {r:(Zw×Int)} {O:Objs} {n:Nat} (h:Uv a0 a1 a2=some r):GTo Tryz.prog 83 [(sL (eL (eI .u64)) a0),(vI a1),(vI a2)] O n (.tup [.agg (Z3 r.1),(vI r.2)]) O n:=by
 unfold Uv at h
 refine Uw Zs Tryz.call83 Tryz.func83 rfl fun hU hN0 hN => ?_
 show W _ _ _ _ ⟨110,[],[(0,(sL (eL (eI .u64)) a0)),(1,(vI a1)),(2,(vI a2))]⟩ (Zx O n []) _
 refine zQ [0,1,2,6] ?_
 refine Zf ?_
 obtain ⟨y2,hy2,h⟩:=bC h
 refine zCd (Zl8 hy2) [0,6,8,9] [true,true] ?_
 refine Zf ?_
 refine zQD [0,6,8,9,26] [none,none,none,none] ?_
 refine Zo (t:=(cond (y2.2 != 0) true (y2.1.P.Kind == 0))) rfl (fun G9 => ?_) (fun G9 => ?_)
 ·replace h:=Zq G9 h
  refine Zf ?_
  refine Gi [6,7] [true,false] ?_
  refine zW ?_
  obtain rfl:=sI h
  refine Zl (.inr rfl) hU [.agg [(vI 0),(vI 0),(vI 0),(vI 0),(vI 0),(vI 0),.val (.int .u64 0)],(vI y2.2)] (by omega) ?_
  simp only [push_cast,seval,↓reduceIte,Zd,Tryz.results83,hN0,hN]
 replace h:=Zp G9 h
 refine Xs [0,6,8] [true,true] ?_
 refine Zf ?_
 refine zQ [0,6,8,32] ?_
 refine Zo (t:=(y2.1.P.Kind == 1)) rfl (fun Jz => ?_) (fun Jz => ?_)
 ·replace h:=Zq Jz h
  refine Zf ?_
  refine Gi [6,7] [true,false] ?_
  refine zW ?_
  obtain rfl:=sI h
  refine Zl (.inr rfl) hU [.agg [(vI 1),(vI y2.1.Segment),(vI y2.1.At),(vI y2.1.P.Data),(vI y2.1.P.Ptrs),(vI 0),.val (.int .u64 0)],(vI 0)] (by omega) ?_
  simp only [push_cast,seval,↓reduceIte,Zd,Tryz.results83,hN0,hN]
 replace h:=Zp Jz h
 refine Xs [0,6,8] [true,true] ?_
 refine Zf ?_
 refine zQ [0,6,8,47] ?_
 refine Zo (t:=(decide (y2.1.P.Code < 7))) rfl (fun c10 => ?_) (fun c10 => ?_)
 ·replace h:=Zq c10 h
  refine Zf ?_
  refine Gi [6,7] [true,false] ?_
  refine zW ?_
  obtain rfl:=sI h
  refine Zl (.inr rfl) hU [.agg [(vI (IntKind.i64.wrap (2+y2.1.P.Code))),(vI y2.1.Segment),(vI y2.1.At),(vI 0),(vI 0),(vI y2.1.P.Count),.val (.int .u64 0)],(vI 0)] (by omega) ?_
  simp only [push_cast,seval,↓reduceIte,Zd,Tryz.results83,hN0,hN]
 replace h:=Zp c10 h
 refine Xs [0,6,8] [true,true] ?_
 obtain ⟨x5,hx5,ax5,bx5,cx5,h⟩:=bE (f:=(eL (eI .u64))) Zgd (fun _=>rfl) (by decide) h
 obtain ⟨x6,hx6,ax6,bx6,cx6,h⟩:=bE (f:=(eI .u64)) Za6 (fun _=>rfl) (by decide) h
 refine Zef [6,8,10] (Xl Zs (by kernel_rfl) [] (by kernel_rfl) ?_)
 refine zF6 ax5 bx5 cx5 ax6 bx6 cx6 ?_
 refine Zf ?_
 obtain ⟨y8,hy8,h⟩:=bC h
 refine zCd (Jr hy8) [6,8,10,11] [true,true,true] ?_
 refine Zf ?_
 refine zQD [6,8,11,96] [none,none,none,none,none,none,none,none,none,none,none,none,none,none,none,none,none,none] ?_
 refine Zo (t:=(cond (cond (cond (x6 != 0) (y8.Kind != 1) false) true (decide (y8.Off < 0))) true (decide (y2.1.P.Count < (IntKind.i64.wrap (y8.Off * (IntKind.i64.wrap (y8.Data+y8.Ptrs)))))))) rfl (fun c9 => ?_) (fun c9 => ?_)
 ·replace h:=Zq c9 h
  refine Zf ?_
  refine Gi [6,7] [true,false,false] ?_
  refine zW ?_
  obtain rfl:=sI h
  refine Zl (.inr rfl) hU [.agg [(vI 0),(vI 0),(vI 0),(vI 0),(vI 0),(vI 0),.val (.int .u64 0)],(vI 8)] (by omega) ?_
  simp only [push_cast,seval,↓reduceIte,Zd,Tryz.results83,hN0,hN]
 replace h:=Zp c9 h
 refine Xs [6,8,11] [true,true,true] ?_
 refine Zf ?_
 refine Gi [6,7] [true,false,false] ?_
 refine zW ?_
 obtain rfl:=sI h
 refine Zl (.inr rfl) hU [.agg [(vI 9),(vI y2.1.Segment),(vI (IntKind.i64.wrap (y2.1.At+1))),(vI y8.Data),(vI y8.Ptrs),(vI y8.Off),.val (.int .u64 0)],(vI 0)] (by omega) ?_
 simp only [push_cast,seval,↓reduceIte,Zd,Tryz.results83,hN0,hN]
theorem K4 {a0:Zw} {a1:(List (List Int))} {r:(List Int)} {O:Objs} {n:Nat} (h:Qw a0 a1=some r):GTo Tryz.prog 131 [.agg (Z3 a0),(sL (eL (eI .u64)) a1)] O n ((sL (eI .u64) r)) O n:=by
 unfold Qw at h
 refine Uw Zs Tryz.call131 Tryz.func131 rfl fun hU hN0 hN => ?_
 show W _ _ _ _ ⟨30,[],[(0,.agg (Z3 a0)),(1,(sL (eL (eI .u64)) a1))]⟩ (Zx O n []) _
 refine zQ [1,2] ?_
 refine Zf ?_
 refine zQ [1,2,8] ?_
 refine Zo (t:=(a0.Kind == 10)) rfl (fun c8 => ?_) (fun c8 => ?_)
 ·replace h:=Zq c8 h
  refine Zf ?_
  refine zR ?_
  refine Za5 ⟨30,[],[(4,.row (n+1) ([a0.N]:List Int).length)]⟩ (Zx O n [none,some (oR 77 1 (eI .u64) ([a0.N]:List Int))]) (Y0 hU rfl rfl ?_) ?_
  ·exact zSe
  refine zW ?_
  obtain rfl:=sI h
  refine Zl (.inr rfl) hU [.row (n+1) ([a0.N]:List Int).length] (by omega) ?_
  simp only [push_cast,seval,↓reduceIte,Zd,Tryz.results131,hN0,hN]
 replace h:=Zp c8 h
 refine Xs [1,2] [true] ?_
 refine Zf ?_
 refine zQ [1,2,14] ?_
 refine Zo (t:=(a0.Kind != 1)) rfl (fun c7 => ?_) (fun c7 => ?_)
 ·replace h:=Zq c7 h
  refine zQ [4] ?_
  refine zW ?_
  obtain rfl:=sI h
  refine Zl (.inr rfl) hU [nV] (by omega) ?_
  simp only [push_cast,seval,↓reduceIte,Zd,Tryz.results131,hN0,hN]
 replace h:=Zp c7 h
 refine Xs [1,2] [true] ?_
 refine zQ [1,2,5] ?_
 refine Zf ?_
 obtain ⟨x4,hx4,ax4,bx4,cx4,h⟩:=bE (f:=(eL (eI .u64))) Zgd (fun _=>rfl) (by decide) h
 obtain ⟨l5,al5,bl5,cl5,gl5,h⟩:=bS (lo:=(some (.i64,a0.At))) (hi:=(some (.i64,(IntKind.i64.wrap (a0.At+a0.Data))))) (f:=(eI .u64)) rfl rfl Zg0 Za6 (fun _=>rfl) h
 obtain ⟨l6,pl6,ql6,el6,h⟩:=bA0 (k:=l5.length) rfl h
 refine Zj5 Zs (by kernel_rfl) [false,false,false,false,false,false,false,false,false,false,false,false,false,false,true,false] [] (by kernel_rfl) ?_
 refine Yqi ax4 bx4 cx4 al5 bl5 cl5 gl5 pl6 ql6 el6 ?_
 refine Za5 ⟨30,[],[(4,.row (n+1) l6.length)]⟩ (Zx O n [none,some (oR 77 1 (eI .u64) l6)]) (Y0 hU rfl rfl ?_) ?_
 ·exact Yoz ax4 bx4 cx4 al5 bl5 cl5 gl5 pl6 ql6 el6
 refine zW ?_
 obtain rfl:=sI h
 refine Zl (.inr rfl) hU [.row (n+1) l6.length] (by omega) ?_
 simp only [push_cast,seval,↓reduceIte,Zd,Tryz.results131,hN0,hN]
theorem Zb1 {a0:Zw} {r:Int} {O:Objs} {n:Nat} (h:Jf a0=some r):GTo Tryz.prog 132 [.agg (Z3 a0)] O n ((vI r)) O n:=by
 unfold Jf at h
 refine Uw Zs Tryz.call132 Tryz.func132 rfl fun hU hN0 hN => ?_
 show W _ _ _ _ ⟨10,[],[(0,.agg (Z3 a0))]⟩ (Zx O n []) _
 refine zQ [1] ?_
 refine Zf ?_
 refine zQ [1,5] ?_
 refine Zo (t:=(a0.Kind == 1)) rfl (fun c1 => ?_) (fun c1 => ?_)
 ·replace h:=Zq c1 h
  refine zQ [2] ?_
  refine zW ?_
  obtain rfl:=sI h
  refine Zl (.inr rfl) hU [(vI a0.Ptrs)] (by omega) ?_
  simp only [push_cast,seval,↓reduceIte,Zd,Tryz.results132,hN0,hN]
 replace h:=Zp c1 h
 refine Xs [1] [true] ?_
 refine zQ [2] ?_
 refine zW ?_
 obtain rfl:=sI h
 refine Zl (.inr rfl) hU [(vI a0.Count)] (by omega) ?_
 simp only [push_cast,seval,↓reduceIte,Zd,Tryz.results132,hN0,hN]
theorem Zgn {a0:Int} {r:Int} {O:Objs} {n:Nat} (h:V2 a0=some r):GTo Tryz.prog 109 [(vI a0)] O n ((vI r)) O n:=by
 unfold V2 at h
 refine Uw Zs Tryz.call109 Tryz.func109 rfl fun hU hN0 hN => ?_
 show W _ _ _ _ ⟨16,[],[(0,(vI a0))]⟩ (Zx O n []) _
 refine zQ [0] ?_
 refine Zf ?_
 refine zQ [3] ?_
 refine Yh ?_
 refine zQ [3,4] ?_
 refine Zo (t:=(a0 == 0)) rfl (fun c6 => ?_) (fun c6 => ?_)
 ·replace h:=Zq c6 h
  refine zQ [2] ?_
  refine zW ?_
  obtain rfl:=sI h
  refine Zl (.inr rfl) hU [(vI 0)] (by omega) ?_
  simp only [push_cast,seval,↓reduceIte,Zd,Tryz.results109,hN0,hN]
 replace h:=Zp c6 h
 refine zQ [3,6] ?_
 refine Zo (t:=(a0 == 1)) rfl (fun c5 => ?_) (fun c5 => ?_)
 ·replace h:=Zq c5 h
  refine zQ [2] ?_
  refine zW ?_
  obtain rfl:=sI h
  refine Zl (.inr rfl) hU [(vI 1)] (by omega) ?_
  simp only [push_cast,seval,↓reduceIte,Zd,Tryz.results109,hN0,hN]
 replace h:=Zp c5 h
 refine zQ [3,8] ?_
 refine Zo (t:=(a0 == 2)) rfl (fun c4 => ?_) (fun c4 => ?_)
 ·replace h:=Zq c4 h
  refine zQ [2] ?_
  refine zW ?_
  obtain rfl:=sI h
  refine Zl (.inr rfl) hU [(vI 8)] (by omega) ?_
  simp only [push_cast,seval,↓reduceIte,Zd,Tryz.results109,hN0,hN]
 replace h:=Zp c4 h
 refine zQ [3,10] ?_
 refine Zo (t:=(a0 == 3)) rfl (fun c3 => ?_) (fun c3 => ?_)
 ·replace h:=Zq c3 h
  refine zQ [2] ?_
  refine zW ?_
  obtain rfl:=sI h
  refine Zl (.inr rfl) hU [(vI 16)] (by omega) ?_
  simp only [push_cast,seval,↓reduceIte,Zd,Tryz.results109,hN0,hN]
 replace h:=Zp c3 h
 refine zQ [3,12] ?_
 refine Zo (t:=(a0 == 4)) rfl (fun c2 => ?_) (fun c2 => ?_)
 ·replace h:=Zq c2 h
  refine zQ [2] ?_
  refine zW ?_
  obtain rfl:=sI h
  refine Zl (.inr rfl) hU [(vI 32)] (by omega) ?_
  simp only [push_cast,seval,↓reduceIte,Zd,Tryz.results109,hN0,hN]
 replace h:=Zp c2 h
 refine zQ [14] ?_
 refine Zo (t:=(a0 == 5)) rfl (fun c1 => ?_) (fun c1 => ?_)
 ·replace h:=Zq c1 h
  refine zQ [2] ?_
  refine zW ?_
  obtain rfl:=sI h
  refine Zl (.inr rfl) hU [(vI 64)] (by omega) ?_
  simp only [push_cast,seval,↓reduceIte,Zd,Tryz.results109,hN0,hN]
 replace h:=Zp c1 h
 refine Xs [] [] ?_
 refine zQ [2] ?_
 refine zW ?_
 obtain rfl:=sI h
 refine Zl (.inr rfl) hU [(vI (-1))] (by omega) ?_
 simp only [push_cast,seval,↓reduceIte,Zd,Tryz.results109,hN0,hN]
theorem Zpq {a0:(List Int)} {a1:Int} {r:Int} {O:Objs} {n:Nat} (h:Zbh a0 a1=some r):GTo Tryz.prog 253 [(sL (eI .u64) a0),(vI a1)] O n (.val (.int .u64 r)) O n:=by
 unfold Zbh at h
 refine Uw Zs Tryz.call253 Tryz.func253 rfl fun hU hN0 hN => ?_
 show W _ _ _ _ ⟨31,[],[(0,(sL (eI .u64) a0)),(1,(vI a1))]⟩ (Zx O n []) _
 refine zQ [0,1] ?_
 refine Zf ?_
 refine zQD [0,1,15] [none,none,none,none,none] ?_
 refine Zo (t:=(cond (decide (a1 < 0)) true (decide ((a0.length:Int)≤(IntKind.i64.wrap (Int.tdiv a1 64)))))) rfl (fun c5 => ?_) (fun c5 => ?_)
 ·replace h:=Zq c5 h
  refine zQ [4] ?_
  refine zW ?_
  obtain rfl:=sI h
  refine Zl (.inr rfl) hU [.val (.int .u64 0)] (by omega) ?_
  simp only [push_cast,seval,↓reduceIte,Zd,Tryz.results253,hN0,hN]
 replace h:=Zp c5 h
 refine Xs [0,1] [] ?_
 obtain ⟨x2,hx2,ax2,bx2,cx2,h⟩:=bE (f:=(eI .u64)) Za6 (fun _=>rfl) (by decide) h
 refine Zef [1,5] (Yr Zs [] ?_)
 refine zF3 ax2 bx2 cx2 ?_
 refine Zf ?_
 refine zQd [1,5,6] [1,5,6] [] ?_
 obtain ⟨z4,hz4,h⟩:=bC h
 refine Yn (E':=⟨31,[],[(5,.val (.int .u64 z4))]⟩) (O':=(Zx O n [])) (n0:=n) ?_ ?_
 ·refine Xd hz4 (fun s0_=>⟨31,[],[(1,(vI a1)),(5,.val (.int .u64 s0_.1)),(6,(vI s0_.2))]⟩) (fun s0_=>(Zx O n [])) (fun z4=>JX 0 n (⟨31,[],[(5,.val (.int .u64 z4))]⟩:Env) (Zx O n []) n) ?_
  intro s0_ x0_ hs0_
  unfold Vk at hs0_
  try dsimp only
  refine Zf ?_
  refine zQ [1,5,6,24] ?_
  refine Zo (t:=(decide (s0_.2 < (Int.tmod a1 64)))) rfl (fun c3 => ?_) (fun c3 => ?_)
  ·replace hs0_:=Zq c3 hs0_
   refine Xs [1,5,6] [] ?_
   refine Zf ?_
   refine Yh ?_
   refine Gi [1,5,6] [] ?_
   refine zR ?_
   exact Vh hs0_
  replace hs0_:=Zp c3 hs0_
  exact zEx hs0_
 try simp only [Yv,Z9,↓reduceIte,Nat.reduceEqDiff]
 refine zD [5] [] ?_
 refine zQ [4] ?_
 refine zW ?_
 obtain rfl:=sI h
 refine Zl (.inr rfl) hU [.val (.int .u64 (Int.tmod z4 2))] (by omega) ?_
 simp only [push_cast,seval,↓reduceIte,Zd,Tryz.results253,hN0,hN]
theorem Zpr {a0:(List Int)} {a1:Int} {a2:Int} {r:Int} {O:Objs} {n:Nat} (h:Zbi a0 a1 a2=some r):GTo Tryz.prog 198 [(sL (eI .u64) a0),(vI a1),(vI a2)] O n (.val (.int .u64 r)) O n:=by
 unfold Zbi at h
 refine Uw Zs Tryz.call198 Tryz.func198 rfl fun hU hN0 hN => ?_
 show W _ _ _ _ ⟨39,[],[(0,(sL (eI .u64) a0)),(1,(vI a1)),(2,(vI a2))]⟩ (Zx O n []) _
 refine zQ [0,1,2] ?_
 refine Zf ?_
 obtain ⟨y2,hy2,h⟩:=bC h
 refine zCd (Zgn hy2) [0,2,7] [] ?_
 refine Zf ?_
 refine zQD [0,2,7,21] [none,none,none,none] ?_
 refine Zo (t:=(cond (cond (decide (y2 < 1)) true (decide (a2 < 0))) true (decide (1099511627776 < a2)))) rfl (fun c6 => ?_) (fun c6 => ?_)
 ·replace h:=Zq c6 h
  refine zQ [6] ?_
  refine zW ?_
  obtain rfl:=sI h
  refine Zl (.inr rfl) hU [.val (.int .u64 0)] (by omega) ?_
  simp only [push_cast,seval,↓reduceIte,Zd,Tryz.results198,hN0,hN]
 replace h:=Zp c6 h
 refine Xs [0,2,7] [] ?_
 refine zQ [0,2,7,8] ?_
 refine Zf ?_
 refine zQd [0,2,7,8,9] [0,2,7,8,9] [] ?_
 obtain ⟨z5,hz5,h⟩:=bC h
 refine Yn (E':=⟨39,[],[(8,.val (.int .u64 z5))]⟩) (O':=(Zx O n [])) (n0:=n) ?_ ?_
 ·refine Xd hz5 (fun s0_=>⟨39,[],[(0,(sL (eI .u64) a0)),(2,(vI a2)),(7,(vI y2)),(8,.val (.int .u64 s0_.1)),(9,(vI s0_.2))]⟩) (fun s0_=>(Zx O n [])) (fun z5=>JX 0 n (⟨39,[],[(8,.val (.int .u64 z5))]⟩:Env) (Zx O n []) n) ?_
  intro s0_ x0_ hs0_
  unfold Vl at hs0_
  try dsimp only
  refine Zf ?_
  refine zQ [0,2,7,8,9,25] ?_
  refine Zo (t:=(decide (0≤s0_.2))) rfl (fun c4 => ?_) (fun c4 => ?_)
  ·replace hs0_:=Zq c4 hs0_
   refine Xs [0,2,7,8,9] [] ?_
   refine Zf ?_
   refine Yh ?_
   obtain ⟨y3,hy3,hs0_⟩:=bC hs0_
   refine zCd (Zpq hy3) [0,2,7,8,9] [] ?_
   refine zR ?_
   exact Vh hs0_
  replace hs0_:=Zp c4 hs0_
  exact zEx hs0_
 try simp only [Yv,Z9,↓reduceIte,Nat.reduceEqDiff]
 refine zD [8] [] ?_
 refine zQ [6] ?_
 refine zW ?_
 obtain rfl:=sI h
 refine Zl (.inr rfl) hU [.val (.int .u64 z5)] (by omega) ?_
 simp only [push_cast,seval,↓reduceIte,Zd,Tryz.results198,hN0,hN]
theorem Zfa {a0:Zw} {a1:(List (List Int))} {a2:Int} {r:(Zw×Int)} {O:Objs} {n:Nat} (h:Ky a0 a1 a2=some r):GTo Tryz.prog 133 [.agg (Z3 a0),(sL (eL (eI .u64)) a1),(vI a2)] O n (.tup [.agg (Z3 r.1),(vI r.2)]) O n:=by
 unfold Ky at h
 refine Uw Zs Tryz.call133 Tryz.func133 rfl fun hU hN0 hN => ?_
 show W _ _ _ _ ⟨80,[],[(0,.agg (Z3 a0)),(1,(sL (eL (eI .u64)) a1)),(2,(vI a2))]⟩ (Zx O n []) _
 refine zQ [1,2,3,6] ?_
 refine Zf ?_
 obtain ⟨z2,hz2,h⟩:=bC h
 refine Y1 (E':=⟨80,[],[(1,(sL (eL (eI .u64)) a1)),(2,(vI a2)),(3,.ref n 0),(6,.ref (n+1) 0),(15,(vB z2))]⟩) (O':=(Zx O n [some ⟨false,107,7,1,(Z3 a0)⟩,some ⟨false,107,7,1,[(vI 0),(vI 0),(vI 0),(vI 0),(vI 0),(vI 0),.val (.int .u64 0)]⟩])) (n0:=(n+2)) ?_ ?_
 ·rcases Bool.eq_false_or_eq_true (decide (a2 < 0)) with c5 | c5
  ·replace hz2:=Zq c5 hz2
   refine Vi (Z4x []) c5 ?_
   exact Ju hz2 c5
  replace hz2:=Zp c5 hz2
  obtain ⟨y4,hy4,hz2⟩:=bC hz2
  refine Vi (Zx8 []) c5 ?_
  refine (Zb1 hy4).then ?_
  refine zX1 c5 ?_
  exact Ju hz2 c5
 refine Zo (t:=z2) rfl (fun c19 => ?_) (fun c19 => ?_)
 ·replace h:=Zq c19 h
  refine Zf ?_
  refine Gi [6,7] [false,true] ?_
  refine zW ?_
  obtain rfl:=sI h
  refine Zl (.inr rfl) hU [.agg [(vI 0),(vI 0),(vI 0),(vI 0),(vI 0),(vI 0),.val (.int .u64 0)],(vI 0)] (by omega) ?_
  simp only [push_cast,seval,↓reduceIte,Zd,Tryz.results133,hN0,hN]
 replace h:=Zp c19 h
 refine Xs [1,2,3,6] [true,true] ?_
 refine Zf ?_
 refine zQ [1,2,3,6,19] ?_
 refine Zo (t:=(a0.Kind == 1)) rfl (fun c18 => ?_) (fun c18 => ?_)
 ·replace h:=Zq c18 h
  refine Zf ?_
  obtain ⟨y7,hy7,h⟩:=bC h
  refine zCd (Zfj hy7) [6,7] [false,true] ?_
  refine zW ?_
  obtain rfl:=sI h
  refine Zl (.inr rfl) hU [.agg (Z3 y7.1),(vI y7.2)] (by omega) ?_
  simp only [push_cast,seval,↓reduceIte,Zd,Tryz.results133,hN0,hN]
 replace h:=Zp c18 h
 refine Xs [1,2,3,6] [true,true] ?_
 refine Zf ?_
 refine zQ [1,2,3,6,35] ?_
 refine Zo (t:=(a0.Kind == 8)) rfl (fun c17 => ?_) (fun c17 => ?_)
 ·replace h:=Zq c17 h
  refine Zf ?_
  obtain ⟨y9,hy9,h⟩:=bC h
  refine zCd (Zfj hy9) [6,7] [false,true] ?_
  refine zW ?_
  obtain rfl:=sI h
  refine Zl (.inr rfl) hU [.agg (Z3 y9.1),(vI y9.2)] (by omega) ?_
  simp only [push_cast,seval,↓reduceIte,Zd,Tryz.results133,hN0,hN]
 replace h:=Zp c17 h
 refine Xs [1,2,3,6] [true,true] ?_
 refine Zf ?_
 refine zQ [1,2,3,6,48] ?_
 refine Zo (t:=(a0.Kind == 9)) rfl (fun c16 => ?_) (fun c16 => ?_)
 ·replace h:=Zq c16 h
  refine Zf ?_
  refine Gi [6,7] [false,true] ?_
  refine zW ?_
  obtain rfl:=sI h
  refine Zl (.inr rfl) hU [.agg [(vI 1),(vI a0.S),(vI (IntKind.i64.wrap (a0.At+(IntKind.i64.wrap (a2 * (IntKind.i64.wrap (a0.Data+a0.Ptrs))))))),(vI a0.Data),(vI a0.Ptrs),(vI 0),.val (.int .u64 0)],(vI 0)] (by omega) ?_
  simp only [push_cast,seval,↓reduceIte,Zd,Tryz.results133,hN0,hN]
 replace h:=Zp c16 h
 refine Xs [1,2,3,6] [true,true] ?_
 refine Zf ?_
 obtain ⟨x13,hx13,ax13,bx13,cx13,h⟩:=bE (f:=(eL (eI .u64))) Zgd (fun _=>rfl) (by decide) h
 obtain ⟨l14,al14,bl14,cl14,gl14,h⟩:=bS (lo:=(some (.i64,a0.At))) (hi:=none) (f:=(eI .u64)) rfl rfl Zg0 Za6 (fun _=>rfl) h
 obtain ⟨y15,hy15,h⟩:=bC h
 refine Zj5 Zs (by kernel_rfl) [false,false,false,false,false,false,false,false,false,false,false,false,false,false,true,false] [] (by kernel_rfl) ?_
 refine zF7 ax13 bx13 cx13 al14 bl14 cl14 gl14 ?_
 refine PCall.of (Zpr hy15) ?_
 refine zF7 ax13 bx13 cx13 al14 bl14 cl14 gl14 ?_
 refine zD [6,7] [false,true] ?_
 refine zW ?_
 obtain rfl:=sI h
 refine Zl (.inr rfl) hU [.agg [(vI 10),(vI 0),(vI 0),(vI 0),(vI 0),(vI 0),.val (.int .u64 y15)],(vI 0)] (by omega) ?_
 simp only [push_cast,seval,↓reduceIte,Zd,Tryz.results133,hN0,hN]
attribute [local push_cast] Bool.and_true Bool.true_and bne_self_eq_false Bool.and_false Bool.false_and Zg2 List.length_append Bool.not_eq_false' Yhd Arr.len Zm0 Zir Zit Ql Zdj Zdi Qf Vb Zaz Zbc Ze5 Ybq Yaz Ya7
def Zbn (Y4:((List (List Int))→Zw→Int→Int→Option (Za×Int×Int))):Prop:=∀ {a0:(List (List Int))} {a1:Zw} {a2:Int} {a3:Int} {r:(Za×Int×Int)} {O:Objs} {n:Nat},Y4 a0 a1 a2 a3=some r→GTo Tryz.prog 84 [(sL (eL (eI .u64)) a0),.agg (Z3 a1),(vI a2),(vI a3)] O n (.tup [.agg (Zg r.1),(vI r.2.1),(vI r.2.2)]) O n
def Zc0 (Xu:((List (List Int))→Zw→Int→Int→Option (Za×Int×Int))):Prop:=∀ {a0:(List (List Int))} {a1:Zw} {a2:Int} {a3:Int} {r:(Za×Int×Int)} {O:Objs} {n:Nat},Xu a0 a1 a2 a3=some r→GTo Tryz.prog 134 [(sL (eL (eI .u64)) a0),.agg (Z3 a1),(vI a2),(vI a3)] O n (.tup [.agg (Zg r.1),(vI r.2.1),(vI r.2.2)]) O n
theorem Zks {Y4:((List (List Int))→Zw→Int→Int→Option (Za×Int×Int))} {Xu:((List (List Int))→Zw→Int→Int→Option (Za×Int×Int))} (Zbo:Zbn Y4) (Zf8:Zc0 Xu) {a0:(List (List Int))} {a1:Zw} {a2:Int} {a3:Int} {r:(Za×Int×Int)} {O:Objs} {n:Nat} (h:Kt Y4 Xu a0 a1 a2 a3=some r):GTo Tryz.prog 84 [(sL (eL (eI .u64)) a0),.agg (Z3 a1),(vI a2),(vI a3)] O n (.tup [.agg (Zg r.1),(vI r.2.1),(vI r.2.2)]) O n:=by
 unfold Kt at h
 refine Uw Zs Tryz.call84 Tryz.func84 rfl fun hU hN0 hN => ?_
 show W _ _ _ _ ⟨149,[],[(0,(sL (eL (eI .u64)) a0)),(1,.agg (Z3 a1)),(2,(vI a2)),(3,(vI a3))]⟩ (Zx O n []) _
 refine zQ [0,2,3,5,8] ?_
 refine Zf ?_
 obtain ⟨y2,hy2,h⟩:=bC h
 refine Zai Zs (by kernel_rfl) [.low,.low,.low,.plain,.low,.plain,.pass,.bar] (fun i=>i < (n+2)) [0,1,2,3,4,5,6,7] [.low,.low,.low,.plain,.low,.plain,.pass,.bar] [] (by kernel_rfl) rfl ?_
 refine zS ?_
 refine zO ?_
 first | refine PCallA.of (fun _ _=>K4 hy2) ?_ | refine PCall.of (K4 hy2) ?_
 refine zS ?_
 refine zO ?_
 refine zDs [0,2,3,5,8,11] [true,true,true] ?_
 refine zQ [0,2,3,5,8,11,25] ?_
 refine Zo (t:=(a1.Kind == 0)) rfl (fun c27 => ?_) (fun c27 => ?_)
 ·replace h:=Zq c27 h
  refine Zf ?_
  refine Gi [8,9,10] [false,true,false] ?_
  refine zW ?_
  obtain rfl:=sI h
  refine Zl (.inr rfl) hU [.agg [(vI a1.Kind),(sL (eI .u64) y2),nV],(vI a3),(vI 0)] (by omega) ?_
  simp only [push_cast,seval,↓reduceIte,Zd,Tryz.results84,hN0,hN]
 replace h:=Zp c27 h
 refine Xs [0,2,3,5,8,11] [true,true,true] ?_
 refine Zf ?_
 refine zQD [0,2,3,5,8,11,43] [none,none,none,none,none,none,none,none,none,none,none,none] ?_
 refine Zo (t:=(cond (decide (a2 < 1)) true (cond (cond (a1.Kind == 9) (decide (0 < a1.Count)) false) (decide (a2 < 2)) false))) rfl (fun c26 => ?_) (fun c26 => ?_)
 ·replace h:=Zq c26 h
  refine Zf ?_
  refine Gi [8,9,10] [false,true,false] ?_
  refine zW ?_
  obtain rfl:=sI h
  refine Zl (.inr rfl) hU [.agg [(vI a1.Kind),(sL (eI .u64) y2),nV],(vI a3),(vI 3)] (by omega) ?_
  simp only [push_cast,seval,↓reduceIte,Zd,Tryz.results84,hN0,hN]
 replace h:=Zp c26 h
 refine Xs [0,2,3,5,8,11] [true,true,true] ?_
 refine Zf ?_
 obtain ⟨y4,hy4,h⟩:=bC h
 refine zCd (Zb1 hy4) [0,2,3,5,8,11,12] [true,true,true] ?_
 obtain ⟨z5,hz5,h⟩:=bC h
 refine Y1 (E':=⟨149,[],[(0,(sL (eL (eI .u64)) a0)),(2,(vI a2)),(3,(vI a3)),(5,.ref n 0),(8,.ref (n+1) 0),(11,.ref (n+2) 0),(12,(vI z5))]⟩) (O':=(Zx O n [some ⟨false,107,7,1,(Z3 a1)⟩,some ⟨false,25,3,1,[(vI 0),nV,nV]⟩,some ⟨false,25,3,1,[(vI a1.Kind),(sL (eI .u64) y2),nV]⟩])) (n0:=(n+3)) ?_ ?_
 ·refine zQ [0,2,3,5,8,11,12,51] ?_
  refine Zo (t:=(a1.Kind == 1)) rfl (fun c6 => ?_) (fun c6 => ?_)
  ·replace hz5:=Zq c6 hz5
   refine zR ?_
   exact Vh hz5
  replace hz5:=Zp c6 hz5
  refine zK ?_
  exact Vh hz5
 obtain ⟨z7,hz7,h⟩:=bC h
 refine Y1 (E':=⟨149,[],[(0,(sL (eL (eI .u64)) a0)),(2,(vI a2)),(3,(vI a3)),(5,.ref n 0),(8,.ref (n+1) 0),(11,.ref (n+2) 0),(12,(vI z7))]⟩) (O':=(Zx O n [some ⟨false,107,7,1,(Z3 a1)⟩,some ⟨false,25,3,1,[(vI 0),nV,nV]⟩,some ⟨false,25,3,1,[(vI a1.Kind),(sL (eI .u64) y2),nV]⟩])) (n0:=(n+3)) ?_ ?_
 ·refine zQ [0,2,3,5,8,11,12,60] ?_
  refine Zo (t:=(a1.Kind == 9)) rfl (fun c8 => ?_) (fun c8 => ?_)
  ·replace hz7:=Zq c8 hz7
   refine zR ?_
   exact Vh hz7
  replace hz7:=Zp c8 hz7
  refine zK ?_
  exact Vh hz7
 refine Zf ?_
 refine zQ [0,2,3,5,8,11,12,73] ?_
 refine Zo (t:=(decide (a3 < z7))) rfl (fun c25 => ?_) (fun c25 => ?_)
 ·replace h:=Zq c25 h
  refine Zf ?_
  refine Gi [8,9,10] [false,true,false] ?_
  refine zW ?_
  obtain rfl:=sI h
  refine Zl (.inr rfl) hU [.agg [(vI a1.Kind),(sL (eI .u64) y2),nV],(vI a3),(vI 3)] (by omega) ?_
  simp only [push_cast,seval,↓reduceIte,Zd,Tryz.results84,hN0,hN]
 replace h:=Zp c25 h
 refine Xs [0,2,3,5,8,11,12] [true,true,true] ?_
 refine zQ [0,2,3,5,8,11] ?_
 refine Zf ?_
 refine zQd [0,2,3,5,8,11,13] [0,2,3,5,8,11,13] [true,true,true] ?_
 refine Zcf (E':=(⟨149,[],[(0,(sL (eL (eI .u64)) a0)),(2,(vI a2)),(3,(vI (IntKind.i64.wrap (a3 - z7)))),(5,.ref n 0),(8,.ref (n+1) 0),(11,.ref (n+2) 0),(13,(vI 0))]⟩:Env)) (O':=(Zx O n [some ⟨false,107,7,1,(Z3 a1)⟩,some ⟨false,25,3,1,[(vI 0),nV,nV]⟩,some ⟨false,25,3,1,[(vI a1.Kind),(sL (eI .u64) y2),.row (n+3) ([]:List Za).length]⟩,some (oR 25 3 Zc ([]:List Za)),none])) (n':=(n+5)) ?_ ?_
 ·refine Fit2.trans (E':=(⟨149,[],[(0,(sL (eL (eI .u64)) a0)),(2,(vI a2)),(3,(vI (IntKind.i64.wrap (a3 - z7)))),(5,.ref n 0),(8,.ref (n+1) 0),(11,.ref (n+2) 0),(13,(vI 0))]⟩:Env)) (O':=(Zx O n [some ⟨false,107,7,1,(Z3 a1)⟩,some ⟨false,25,3,1,[(vI 0),nV,nV]⟩,some ⟨false,25,3,1,[(vI a1.Kind),(sL (eI .u64) y2),nV]⟩])) (n':=(n+3)) (Fit2.of (Y0 hU rfl rfl ?_) (by omega)) ?_
  ·exact zSe
  refine Fit2.trans (Zbw (p:=(n+2)) (k:=2) (q:=⟨false,25,3,1,[(vI a1.Kind),(sL (eI .u64) y2),nV]⟩) 25 3 (by simp only [Zaa,Zc8,List.getElem?_cons_zero,List.getElem?_cons_succ,Option.join_some,List.length_nil]) rfl (by omega)) ?_
  simp only [Kg,Q3,Zah,List.set_cons_zero,List.set_cons_succ,List.cons_append,List.nil_append,List.length_cons,List.length_nil,Nat.zero_add,Nat.reduceAdd,Nat.reduceLT,Nat.add_assoc]
  refine Zcm (k:=4) (k':=5) hU [0,1,2,3] [0,1,2,3,0] rfl rfl rfl rfl ⟨rfl,rfl⟩ ?_
  exact zSe
 obtain ⟨z24,hz24,h⟩:=bC h
 refine Ut (J:=(Xg (fun z24=>JR n (⟨149,[],[(8,.ref (n+1) 0),(9,(vI z24.1)),(10,(vI z24.2.1))]⟩:Env) (Zx O n [none,some ⟨false,25,3,1,[(vI a1.Kind),(sL (eI .u64) y2),(sL Zc z24.2.2)]⟩,none]) (n+3)) (fun z24=>JX 0 n (⟨149,[],[(3,(vI z24.1)),(8,.ref (n+1) 0),(11,.ref (n+2) 0)]⟩:Env) (Zx O n [none,some ⟨false,25,3,1,[(vI 0),nV,nV]⟩,some ⟨false,25,3,1,[(vI a1.Kind),(sL (eI .u64) y2),.row (n+3) z24.2.length]⟩,some (oR 25 3 Zc z24.2),none]) (n+5)))) (z:=z24) ?_ fun hw => ?_
 ·refine Xd hz24 (fun s0_=>⟨149,[],[(0,(sL (eL (eI .u64)) a0)),(2,(vI a2)),(3,(vI s0_.1)),(5,.ref n 0),(8,.ref (n+1) 0),(11,.ref (n+2) 0),(13,(vI s0_.2.1))]⟩) (fun s0_=>(Zx O n [some ⟨false,107,7,1,(Z3 a1)⟩,some ⟨false,25,3,1,[(vI 0),nV,nV]⟩,some ⟨false,25,3,1,[(vI a1.Kind),(sL (eI .u64) y2),.row (n+3) s0_.2.2.length]⟩,some (oR 25 3 Zc s0_.2.2),none])) (Xg (fun z24=>JR n (⟨149,[],[(8,.ref (n+1) 0),(9,(vI z24.1)),(10,(vI z24.2.1))]⟩:Env) (Zx O n [none,some ⟨false,25,3,1,[(vI a1.Kind),(sL (eI .u64) y2),(sL Zc z24.2.2)]⟩,none]) (n+3)) (fun z24=>JX 0 n (⟨149,[],[(3,(vI z24.1)),(8,.ref (n+1) 0),(11,.ref (n+2) 0)]⟩:Env) (Zx O n [none,some ⟨false,25,3,1,[(vI 0),nV,nV]⟩,some ⟨false,25,3,1,[(vI a1.Kind),(sL (eI .u64) y2),.row (n+3) z24.2.length]⟩,some (oR 25 3 Zc z24.2),none]) (n+5))) ?_
  intro s0_ x0_ hs0_
  unfold Ku at hs0_
  try dsimp only
  refine Zf ?_
  refine Zf ?_
  obtain ⟨y10,hy10,hs0_⟩:=bC hs0_
  refine zCd (Zb1 hy10) [0,2,3,5,8,11,13,82] [true,true,true,true,false] ?_
  refine Zo (t:=(decide (s0_.2.1 < y10))) rfl (fun c23 => ?_) (fun c23 => ?_)
  ·replace hs0_:=Zq c23 hs0_
   refine Xs [0,2,3,5,8,11,13] [true,true,true,true,false] ?_
   refine Zf ?_
   refine Yh ?_
   refine Zf ?_
   obtain ⟨y12,hy12,hs0_⟩:=bC hs0_
   refine zCd (Zfa hy12) [0,2,3,5,8,11,13,14,15] [true,true,true,true,false,true] ?_
   refine Zf ?_
   refine zQ [0,2,3,5,8,11,13,14,15,93] ?_
   refine Zo (t:=(y12.2 != 0)) rfl (fun c22 => ?_) (fun c22 => ?_)
   ·replace hs0_:=Zq c22 hs0_
    refine Zf ?_
    refine Gi [8,9,10] [false,true,false,true,false,false] ?_
    refine zW ?_
    exact zEy hs0_
   replace hs0_:=Zp c22 hs0_
   refine Xs [0,2,3,5,8,11,13,14,15] [true,true,true,true,false,true] ?_
   refine Zf ?_
   obtain ⟨y14,hy14,hs0_⟩:=bC hs0_
   refine Zai Zs (by kernel_rfl) [.low,.low,.low,.plain,.low,.plain,.pass,.bar] (fun i=>i < (n+6)) [0,1,2,3,4,5,6,7] [.low,.low,.low,.plain,.low,.plain,.pass,.bar] [] (by kernel_rfl) rfl ?_
   refine zS ?_
   refine zO ?_
   first | refine PCallA.of (fun _ _=>K4 hy14) ?_ | refine PCall.of (K4 hy14) ?_
   refine zS ?_
   refine zO ?_
   refine zD [0,2,3,5,8,11,13,14,15,16] [true,true,true,true,false,true,true] ?_
   obtain ⟨z15,hz15,hs0_⟩:=bC hs0_
   refine Y1 (E':=⟨149,[],[(0,(sL (eL (eI .u64)) a0)),(2,(vI a2)),(3,(vI z15.1)),(5,.ref n 0),(8,.ref (n+1) 0),(11,.ref (n+2) 0),(13,(vI s0_.2.1)),(15,(vI z15.2.1)),(16,.ref (n+6) 0)]⟩) (O':=(Zx O n [some ⟨false,107,7,1,(Z3 a1)⟩,some ⟨false,25,3,1,[(vI 0),nV,nV]⟩,some ⟨false,25,3,1,[(vI a1.Kind),(sL (eI .u64) y2),.row (n+3) s0_.2.2.length]⟩,some (oR 25 3 Zc s0_.2.2),none,none,some ⟨false,25,3,1,[(vI z15.2.2.1),(sL (eI .u64) z15.2.2.2.1),(sL Zc z15.2.2.2.2)]⟩])) (n0:=(n+7)) ?_ ?_
   ·refine Yh ?_
    refine zQ [0,2,3,5,8,11,13,14,15,16,103] ?_
    refine Zo (t:=(a1.Kind == 9)) rfl (fun c19 => ?_) (fun c19 => ?_)
    ·replace hz15:=Zq c19 hz15
     obtain ⟨y16,hy16,hz15⟩:=bC hz15
     refine zC (Zf8 hy16) ?_
     exact Vh hz15
    replace hz15:=Zp c19 hz15
    refine zQD [0,2,3,5,8,11,13,14,15,16,117] [none,none,none] ?_
    refine Zo (t:=(cond (a1.Kind == 1) true (a1.Kind == 8))) rfl (fun c18 => ?_) (fun c18 => ?_)
    ·replace hz15:=Zq c18 hz15
     obtain ⟨y17,hy17,hz15⟩:=bC hz15
     refine zC (Zbo hy17) ?_
     exact Vh hz15
    replace hz15:=Zp c18 hz15
    refine zK ?_
    exact Vh hz15
   refine Zf ?_
   refine zQ [0,2,3,5,8,11,13,15,16,137] ?_
   refine Zo (t:=(z15.2.1 != 0)) rfl (fun c21 => ?_) (fun c21 => ?_)
   ·replace hs0_:=Zq c21 hs0_
    refine Zf ?_
    refine Gi [8,9,10] [false,true,false,true,false,false,false] ?_
    refine zW ?_
    exact zEy hs0_
   replace hs0_:=Zp c21 hs0_
   refine Xs [0,2,3,5,8,11,13,16] [true,true,true,true,false,false,true] ?_
   obtain ⟨l20,pl20,ql20,el20,hs0_⟩:=bA (k:=1) rfl hs0_
   refine Za0 [] pl20 ql20 el20 ?_
   refine Za5 ⟨149,[],[(0,(sL (eL (eI .u64)) a0)),(2,(vI a2)),(3,(vI z15.1)),(5,.ref n 0),(8,.ref (n+1) 0),(11,.ref (n+2) 0),(13,(vI s0_.2.1))]⟩ (Zx O n [some ⟨false,107,7,1,(Z3 a1)⟩,some ⟨false,25,3,1,[(vI 0),nV,nV]⟩,some ⟨false,25,3,1,[(vI a1.Kind),(sL (eI .u64) y2),.row (n+3) l20.length]⟩,some (oR 25 3 Zc l20),none,none,none,none]) (Y0 hU rfl rfl ?_) ?_
   ·exact Zt5 pl20 ql20 el20
   refine zR ?_
   exact Vh hs0_
  replace hs0_:=Zp c23 hs0_
  exact zEx hs0_
 rcases z24 with z24 | z24
 ·dsimp only [Xg] at hw h
  refine Q1 hw ?_
  try simp only [Yv,Z9,↓reduceIte,Nat.reduceEqDiff]
  obtain rfl:=sI h
  refine Zl (.inr rfl) hU [.agg [(vI a1.Kind),(sL (eI .u64) y2),(sL Zc z24.2.2)],(vI z24.1),(vI z24.2.1)] (by omega) ?_
  simp only [push_cast,seval,↓reduceIte,Zd,Tryz.results84,hN0,hN]
 dsimp only [Xg] at hw h
 refine Yn hw ?_
 try simp only [Yv,Z9,↓reduceIte,Nat.reduceEqDiff]
 refine zDs [3,8,11] [false,true,true,true,false] ?_
 refine Gi [8,9,10] [false,true,false,true,false] ?_
 refine zW ?_
 obtain rfl:=sI h
 refine Zl (.inr rfl) hU [.agg [(vI a1.Kind),(sL (eI .u64) y2),.row (n+3) z24.2.length],(vI z24.1),(vI 0)] (by omega) ?_
 simp only [push_cast,seval,↓reduceIte,Zd,Tryz.results84,hN0,hN]
theorem Zns {Y4:((List (List Int))→Zw→Int→Int→Option (Za×Int×Int))} {Xu:((List (List Int))→Zw→Int→Int→Option (Za×Int×Int))} (Zbo:Zbn Y4) (Zf8:Zc0 Xu) {a0:(List (List Int))} {a1:Zw} {a2:Int} {a3:Int} {r:(Za×Int×Int)} {O:Objs} {n:Nat} (h:Uk Y4 Xu a0 a1 a2 a3=some r):GTo Tryz.prog 134 [(sL (eL (eI .u64)) a0),.agg (Z3 a1),(vI a2),(vI a3)] O n (.tup [.agg (Zg r.1),(vI r.2.1),(vI r.2.2)]) O n:=by
 unfold Uk at h
 refine Uw Zs Tryz.call134 Tryz.func134 rfl fun hU hN0 hN => ?_
 show W _ _ _ _ ⟨63,[],[(0,(sL (eL (eI .u64)) a0)),(1,.agg (Z3 a1)),(2,(vI a2)),(3,(vI a3))]⟩ (Zx O n []) _
 refine zQ [0,2,3,5,8] ?_
 refine Zf ?_
 obtain ⟨y2,hy2,h⟩:=bC h
 refine zCd (K4 hy2) [0,2,3,5,8,11] [true,true,true] ?_
 refine Zf ?_
 refine zQd [0,2,3,5,8,11,12] [0,2,3,5,8,11,12] [true,true,true] ?_
 refine Zcf (E':=(⟨63,[],[(0,(sL (eL (eI .u64)) a0)),(2,(vI a2)),(3,(vI a3)),(5,.ref n 0),(8,.ref (n+1) 0),(11,.ref (n+2) 0),(12,(vI 0))]⟩:Env)) (O':=(Zx O n [some ⟨false,107,7,1,(Z3 a1)⟩,some ⟨false,25,3,1,[(vI 0),nV,nV]⟩,some ⟨false,25,3,1,[(vI 1),(sL (eI .u64) y2),.row (n+3) ([]:List Za).length]⟩,some (oR 25 3 Zc ([]:List Za)),none])) (n':=(n+5)) ?_ ?_
 ·refine Fit2.trans (E':=(⟨63,[],[(0,(sL (eL (eI .u64)) a0)),(2,(vI a2)),(3,(vI a3)),(5,.ref n 0),(8,.ref (n+1) 0),(11,.ref (n+2) 0),(12,(vI 0))]⟩:Env)) (O':=(Zx O n [some ⟨false,107,7,1,(Z3 a1)⟩,some ⟨false,25,3,1,[(vI 0),nV,nV]⟩,some ⟨false,25,3,1,[(vI 1),(sL (eI .u64) y2),nV]⟩])) (n':=(n+3)) (Fit2.of (Y0 hU rfl rfl ?_) (by omega)) ?_
  ·exact zSe
  refine Fit2.trans (Zbw (p:=(n+2)) (k:=2) (q:=⟨false,25,3,1,[(vI 1),(sL (eI .u64) y2),nV]⟩) 25 3 (by simp only [Zaa,Zc8,List.getElem?_cons_zero,List.getElem?_cons_succ,Option.join_some,List.length_nil]) rfl (by omega)) ?_
  simp only [Kg,Q3,Zah,List.set_cons_zero,List.set_cons_succ,List.cons_append,List.nil_append,List.length_cons,List.length_nil,Nat.zero_add,Nat.reduceAdd,Nat.reduceLT,Nat.add_assoc]
  refine Zcm (k:=4) (k':=5) hU [0,1,2,3] [0,1,2,3,0] rfl rfl rfl rfl ⟨rfl,rfl⟩ ?_
  exact zSe
 obtain ⟨z11,hz11,h⟩:=bC h
 refine Ut (J:=(Xg (fun z11=>JR n (⟨63,[],[(8,.ref (n+1) 0),(9,(vI z11.1)),(10,(vI z11.2.1))]⟩:Env) (Zx O n [none,some ⟨false,25,3,1,[(vI 1),(sL (eI .u64) y2),(sL Zc z11.2.2)]⟩,none]) (n+3)) (fun z11=>JX 0 n (⟨63,[],[(3,(vI z11.1)),(8,.ref (n+1) 0),(11,.ref (n+2) 0)]⟩:Env) (Zx O n [none,some ⟨false,25,3,1,[(vI 0),nV,nV]⟩,some ⟨false,25,3,1,[(vI 1),(sL (eI .u64) y2),.row (n+3) z11.2.length]⟩,some (oR 25 3 Zc z11.2),none]) (n+5)))) (z:=z11) ?_ fun hw => ?_
 ·refine Xd hz11 (fun s0_=>⟨63,[],[(0,(sL (eL (eI .u64)) a0)),(2,(vI a2)),(3,(vI s0_.1)),(5,.ref n 0),(8,.ref (n+1) 0),(11,.ref (n+2) 0),(12,(vI s0_.2.1))]⟩) (fun s0_=>(Zx O n [some ⟨false,107,7,1,(Z3 a1)⟩,some ⟨false,25,3,1,[(vI 0),nV,nV]⟩,some ⟨false,25,3,1,[(vI 1),(sL (eI .u64) y2),.row (n+3) s0_.2.2.length]⟩,some (oR 25 3 Zc s0_.2.2),none])) (Xg (fun z11=>JR n (⟨63,[],[(8,.ref (n+1) 0),(9,(vI z11.1)),(10,(vI z11.2.1))]⟩:Env) (Zx O n [none,some ⟨false,25,3,1,[(vI 1),(sL (eI .u64) y2),(sL Zc z11.2.2)]⟩,none]) (n+3)) (fun z11=>JX 0 n (⟨63,[],[(3,(vI z11.1)),(8,.ref (n+1) 0),(11,.ref (n+2) 0)]⟩:Env) (Zx O n [none,some ⟨false,25,3,1,[(vI 0),nV,nV]⟩,some ⟨false,25,3,1,[(vI 1),(sL (eI .u64) y2),.row (n+3) z11.2.length]⟩,some (oR 25 3 Zc z11.2),none]) (n+5))) ?_
  intro s0_ x0_ hs0_
  unfold Ub at hs0_
  try dsimp only
  refine Zf ?_
  refine zQ [0,2,3,5,8,11,12,25] ?_
  refine Zo (t:=(decide (s0_.2.1 < a1.Ptrs))) rfl (fun c10 => ?_) (fun c10 => ?_)
  ·replace hs0_:=Zq c10 hs0_
   refine Xs [0,2,3,5,8,11,12] [true,true,true,true,false] ?_
   refine Zf ?_
   refine Yh ?_
   refine Zf ?_
   obtain ⟨y4,hy4,hs0_⟩:=bC hs0_
   refine zCd (Zfa hy4) [0,2,3,5,8,11,12,13,14] [true,true,true,true,false,true] ?_
   refine Zf ?_
   refine zQ [0,2,3,5,8,11,12,13,14,36] ?_
   refine Zo (t:=(y4.2 != 0)) rfl (fun c9 => ?_) (fun c9 => ?_)
   ·replace hs0_:=Zq c9 hs0_
    refine Zf ?_
    refine Gi [8,9,10] [false,true,false,true,false,false] ?_
    refine zW ?_
    exact zEy hs0_
   replace hs0_:=Zp c9 hs0_
   refine Xs [0,2,3,5,8,11,12,13] [true,true,true,true,false,true] ?_
   refine Zf ?_
   obtain ⟨y6,hy6,hs0_⟩:=bC hs0_
   refine zCd (Zbo hy6) [0,2,5,8,11,12,15,16,17] [true,true,true,true,false,false,true] ?_
   refine Zf ?_
   refine zQ [0,2,5,8,11,12,15,16,17,50] ?_
   refine Zo (t:=(y6.2.2 != 0)) rfl (fun c8 => ?_) (fun c8 => ?_)
   ·replace hs0_:=Zq c8 hs0_
    refine Zf ?_
    refine Gi [8,9,10] [false,true,false,true,false,false,false] ?_
    refine zW ?_
    exact zEy hs0_
   replace hs0_:=Zp c8 hs0_
   refine Xs [0,2,5,8,11,12,15,16] [true,true,true,true,false,false,true] ?_
   refine zQ [0,2,3,5,8,11,12,15] ?_
   obtain ⟨l7,pl7,ql7,el7,hs0_⟩:=bA (k:=1) rfl hs0_
   refine Za0 [] pl7 ql7 el7 ?_
   refine Za5 ⟨63,[],[(0,(sL (eL (eI .u64)) a0)),(2,(vI a2)),(3,(vI y6.2.1)),(5,.ref n 0),(8,.ref (n+1) 0),(11,.ref (n+2) 0),(12,(vI s0_.2.1))]⟩ (Zx O n [some ⟨false,107,7,1,(Z3 a1)⟩,some ⟨false,25,3,1,[(vI 0),nV,nV]⟩,some ⟨false,25,3,1,[(vI 1),(sL (eI .u64) y2),.row (n+3) l7.length]⟩,some (oR 25 3 Zc l7),none,none,none,none]) (Y0 hU rfl rfl ?_) ?_
   ·exact Zt5 pl7 ql7 el7
   refine zR ?_
   exact Vh hs0_
  replace hs0_:=Zp c10 hs0_
  exact zEx hs0_
 rcases z11 with z11 | z11
 ·dsimp only [Xg] at hw h
  refine Q1 hw ?_
  try simp only [Yv,Z9,↓reduceIte,Nat.reduceEqDiff]
  obtain rfl:=sI h
  refine Zl (.inr rfl) hU [.agg [(vI 1),(sL (eI .u64) y2),(sL Zc z11.2.2)],(vI z11.1),(vI z11.2.1)] (by omega) ?_
  simp only [push_cast,seval,↓reduceIte,Zd,Tryz.results134,hN0,hN]
 dsimp only [Xg] at hw h
 refine Yn hw ?_
 try simp only [Yv,Z9,↓reduceIte,Nat.reduceEqDiff]
 refine zDs [3,8,11] [false,true,true,true,false] ?_
 refine Gi [8,9,10] [false,true,false,true,false] ?_
 refine zW ?_
 obtain rfl:=sI h
 refine Zl (.inr rfl) hU [.agg [(vI 1),(sL (eI .u64) y2),.row (n+3) z11.2.length],(vI z11.1),(vI 0)] (by omega) ?_
 simp only [push_cast,seval,↓reduceIte,Zd,Tryz.results134,hN0,hN]
theorem Zi0:∀ k,(Zbn ((Xc k).1))∧(Zc0 ((Xc k).2)):=fun k=>by
 induction k with
 | zero=>exact ⟨@fun a0 a1 a2 a3 r O n h=>(nomatch (show (none:Option _)=some _ from h)),@fun a0 a1 a2 a3 r O n h=>(nomatch (show (none:Option _)=some _ from h))⟩
 | succ k ih=>exact ⟨@fun a0 a1 a2 a3 r O n h=>Zks (ih.1) (ih.2)  h,@fun a0 a1 a2 a3 r O n h=>Zns (ih.1) (ih.2)  h⟩
theorem Zln {a0:(List (List Int))} {a1:Zw} {a2:Int} {a3:Int} {r:(Za×Int×Int)} {O:Objs} {n:Nat} (h:Zct a0 a1 a2 a3=some r):GTo Tryz.prog 84 [(sL (eL (eI .u64)) a0),.agg (Z3 a1),(vI a2),(vI a3)] O n (.tup [.agg (Zg r.1),(vI r.2.1),(vI r.2.2)]) O n:=by
 obtain ⟨k,hk⟩:=Zbg h
 exact (Zi0 k).1  hk
theorem Zma {a0:(List (List Int))} {a1:Yi} {r:(Za×Int×Int)} {O:Objs} {n:Nat} (h:Vn a0 a1=some r):GTo Tryz.prog 38 [(sL (eL (eI .u64)) a0),.agg (X5 a1)] O n (.tup [.agg (Zg r.1),(vI r.2.1),(vI r.2.2)]) O n:=by
 unfold Vn at h
 refine Uw Zs Tryz.call38 Tryz.func38 rfl fun hU hN0 hN => ?_
 show W _ _ _ _ ⟨43,[],[(0,(sL (eL (eI .u64)) a0)),(1,.agg (X5 a1))]⟩ (Zx O n []) _
 refine zQ [0,3,4] ?_
 refine Zf ?_
 obtain ⟨y2,hy2,h⟩:=bC h
 refine zCd (Zl9 hy2) [0,3,4] [true,true] ?_
 refine Zf ?_
 obtain ⟨y4,hy4,h⟩:=bC h
 refine zCd (Zfj hy4) [0,3,4,7,8] [true,true,true] ?_
 refine Zf ?_
 refine zQ [0,3,4,7,8,20] ?_
 refine Zo (t:=(y4.2 != 0)) rfl (fun c8 => ?_) (fun c8 => ?_)
 ·replace h:=Zq c8 h
  refine Zf ?_
  refine Gi [4,5,6] [false,true,false] ?_
  refine zW ?_
  obtain rfl:=sI h
  refine Zl (.inr rfl) hU [.agg [(vI 0),nV,nV],(vI 0),(vI y4.2)] (by omega) ?_
  simp only [push_cast,seval,↓reduceIte,Zd,Tryz.results38,hN0,hN]
 replace h:=Zp c8 h
 refine Xs [0,3,4,7] [true,true,true] ?_
 refine Zf ?_
 obtain ⟨y6,hy6,h⟩:=bC h
 refine zCd (Zln hy6) [3,4,9,10,11] [true,true,false,true] ?_
 refine Zf ?_
 refine zQ [3,4,9,10,11,35] ?_
 refine Zo (t:=(y6.2.2 != 0)) rfl (fun c7 => ?_) (fun c7 => ?_)
 ·replace h:=Zq c7 h
  refine Zf ?_
  refine Gi [4,5,6] [false,true,false,false] ?_
  refine zW ?_
  obtain rfl:=sI h
  refine Zl (.inr rfl) hU [.agg [(vI 0),nV,nV],(vI 0),(vI y6.2.2)] (by omega) ?_
  simp only [push_cast,seval,↓reduceIte,Zd,Tryz.results38,hN0,hN]
 replace h:=Zp c7 h
 refine Xs [3,4,9,10] [true,true,false,true] ?_
 refine Zf ?_
 refine Zai Zs (by kernel_rfl) [.plain,.low,.low,.plain,.low,.pass,.plain,.plain] (fun i=>i≠n+1) [0,1,2,3,4,5,6,7] [.plain,.low,.low,.plain,.low,.pass,.plain,.plain] [] (by kernel_rfl) rfl ?_
 refine zS ?_
 refine zO ?_
 refine zD [4,5,6] [false,true,false,false] ?_
 refine zW ?_
 obtain rfl:=sI h
 refine Zl (.inr rfl) hU [.agg (Zg y6.1),(vI (IntKind.i64.wrap (y2.Weight - y6.2.1))),(vI 0)] (by omega) ?_
 simp only [push_cast,seval,↓reduceIte,Zd,Tryz.results38,hN0,hN]
def Zea (Qt:(Za→Int→Int→Option Int)):Prop:=∀ {a0:Za} {a1:Int} {a2:Int} {r:Int} {O:Objs} {n:Nat},Qt a0 a1 a2=some r→GTo Tryz.prog 64 [.agg (Zg a0),(vI a1),(vI a2)] O n ((vI r)) O n
theorem Zkr {Qt:(Za→Int→Int→Option Int)} (Zjq:Zea Qt) {a0:Za} {a1:Int} {a2:Int} {r:Int} {O:Objs} {n:Nat} (h:Qq Qt a0 a1 a2=some r):GTo Tryz.prog 64 [.agg (Zg a0),(vI a1),(vI a2)] O n ((vI r)) O n:=by
 unfold Qq at h
 refine Uw Zs Tryz.call64 Tryz.func64 rfl fun hU hN0 hN => ?_
 show W _ _ _ _ ⟨41,[],[(0,.agg (Zg a0)),(1,(vI a1)),(2,(vI a2))]⟩ (Zx O n []) _
 refine zQ [1,2,3] ?_
 refine zQ [1,2,3] ?_
 refine Zf ?_
 refine zQD [1,2,3,19] [none,none] ?_
 refine Zo (t:=(cond (a1 == 0) true (decide ((IntKind.i64.wrap ((IntKind.i64.wrap (a2 - 1)) - (a0.Words.length:Int))) < 0)))) rfl (fun c5 => ?_) (fun c5 => ?_)
 ·replace h:=Zq c5 h
  refine zQ [6] ?_
  refine zW ?_
  obtain rfl:=sI h
  refine Zl (.inr rfl) hU [(vI (-1))] (by omega) ?_
  simp only [push_cast,seval,↓reduceIte,Zd,Tryz.results64,hN0,hN]
 replace h:=Zp c5 h
 refine Xs [1,2,3] [true] ?_
 refine Zf ?_
 refine zQd [1,2,3,7] [1,2,3,7] [true] ?_
 obtain ⟨z4,hz4,h⟩:=bC h
 refine Yn (E':=⟨41,[],[(2,(vI z4))]⟩) (O':=(Zx O n [none])) (n0:=(n+1)) ?_ ?_
 ·refine Xd hz4 (fun s0_=>⟨41,[],[(1,(vI a1)),(2,(vI s0_.1)),(3,.ref n 0),(7,(vI s0_.2))]⟩) (fun s0_=>(Zx O n [some ⟨false,25,3,1,(Zg a0)⟩])) (fun z4=>JX 0 n (⟨41,[],[(2,(vI z4))]⟩:Env) (Zx O n [none]) (n+1)) ?_
  intro s0_ x0_ hs0_
  unfold Qj at hs0_
  try dsimp only
  refine Zf ?_
  refine zQD [1,2,3,7,28] [none,none] ?_
  refine Zo (t:=(cond (decide (s0_.2 < (a0.Kids.length:Int))) (decide (0≤s0_.1)) false)) rfl (fun c3 => ?_) (fun c3 => ?_)
  ·replace hs0_:=Zq c3 hs0_
   refine Xs [1,2,3,7] [true] ?_
   refine Zf ?_
   refine Yh ?_
   obtain ⟨x1,hx1,ax1,bx1,cx1,hs0_⟩:=bE (f:=Zc) Zcc (fun _=>rfl) (by decide) hs0_
   obtain ⟨y2,hy2,hs0_⟩:=bC hs0_
   refine Zgu [] ax1 bx1 cx1 ?_
   refine (Zjq hy2).then ?_
   refine zF3 ax1 bx1 cx1 ?_
   refine zD [1,2,3,7] [true] ?_
   refine zR ?_
   exact Vh hs0_
  replace hs0_:=Zp c3 hs0_
  exact zEx hs0_
 try simp only [Yv,Z9,↓reduceIte,Nat.reduceEqDiff]
 refine zD [2] [false] ?_
 refine zQ [6] ?_
 refine zW ?_
 obtain rfl:=sI h
 refine Zl (.inr rfl) hU [(vI z4)] (by omega) ?_
 simp only [push_cast,seval,↓reduceIte,Zd,Tryz.results64,hN0,hN]
theorem Ziz:∀ k,(Zea (Xb k)):=fun k=>by
 induction k with
 | zero=>exact @fun a0 a1 a2 r O n h=>(nomatch (show (none:Option _)=some _ from h))
 | succ k ih=>exact @fun a0 a1 a2 r O n h=>Zkr (ih)  h
theorem Zch {a0:Za} {a1:Int} {a2:Int} {r:Int} {O:Objs} {n:Nat} (h:Kx a0 a1 a2=some r):GTo Tryz.prog 64 [.agg (Zg a0),(vI a1),(vI a2)] O n ((vI r)) O n:=by
 obtain ⟨k,hk⟩:=Zbg h
 exact (Ziz k)  hk
def Zf6 (X6:(Zi→Int→Int→Option Int)):Prop:=∀ {a0:Zi} {a1:Int} {a2:Int} {r:Int} {O:Objs} {n:Nat},X6 a0 a1 a2=some r→GTo Tryz.prog 67 [.agg (Zm a0),(vI a1),(vI a2)] O n ((vI r)) O n
theorem Znt {X6:(Zi→Int→Int→Option Int)} (Zf9:Zf6 X6) {a0:Zi} {a1:Int} {a2:Int} {r:Int} {O:Objs} {n:Nat} (h:J6 X6 a0 a1 a2=some r):GTo Tryz.prog 67 [.agg (Zm a0),(vI a1),(vI a2)] O n ((vI r)) O n:=by
 unfold J6 at h
 refine Uw Zs Tryz.call67 Tryz.func67 rfl fun hU hN0 hN => ?_
 show W _ _ _ _ ⟨107,[],[(0,.agg (Zm a0)),(1,(vI a1)),(2,(vI a2))]⟩ (Zx O n []) _
 refine zQ [1,2,3] ?_
 refine zQ [1,2,3] ?_
 refine Zf ?_
 refine zQD [1,2,3,25] [none,none] ?_
 refine Zo (t:=(cond (a1 == 0) true (decide ((IntKind.i64.wrap ((IntKind.i64.wrap ((IntKind.i64.wrap (a2 - 1)) - (a0.Words.length:Int))) - (a0.Ops.length:Int))) < 0)))) rfl (fun c28 => ?_) (fun c28 => ?_)
 ·replace h:=Zq c28 h
  refine zQ [6] ?_
  refine zW ?_
  obtain rfl:=sI h
  refine Zl (.inr rfl) hU [(vI (-1))] (by omega) ?_
  simp only [push_cast,seval,↓reduceIte,Zd,Tryz.results67,hN0,hN]
 replace h:=Zp c28 h
 refine Xs [1,2,3] [true] ?_
 refine Zf ?_
 obtain ⟨y2,hy2,h⟩:=bC h
 refine zCd (Zch hy2) [1,2,3] [true] ?_
 obtain ⟨z3,hz3,h⟩:=bC h
 refine Y1 (E':=⟨107,[],[(1,(vI a1)),(2,(vI z3)),(3,.ref n 0)]⟩) (O':=(Zx O n [some ⟨false,30,11,1,(Zm a0)⟩])) (n0:=(n+1)) ?_ ?_
 ·refine zQ [1,2,3,31] ?_
  refine Zo (t:=(decide (0≤y2))) rfl (fun c5 => ?_) (fun c5 => ?_)
  ·replace hz3:=Zq c5 hz3
   obtain ⟨y4,hy4,hz3⟩:=bC hz3
   refine zC (Zch hy4) ?_
   exact Vh hz3
  replace hz3:=Zp c5 hz3
  refine zK ?_
  exact Vh hz3
 refine Zf ?_
 refine zQd [1,2,3,7] [1,2,3,7] [true] ?_
 obtain ⟨z10,hz10,h⟩:=bC h
 refine Yn (E':=⟨107,[],[(1,(vI a1)),(2,(vI z10)),(3,.ref n 0)]⟩) (O':=(Zx O n [some ⟨false,30,11,1,(Zm a0)⟩])) (n0:=(n+1)) ?_ ?_
 ·refine Xd hz10 (fun s0_=>⟨107,[],[(1,(vI a1)),(2,(vI s0_.1)),(3,.ref n 0),(7,(vI s0_.2))]⟩) (fun s0_=>(Zx O n [some ⟨false,30,11,1,(Zm a0)⟩])) (fun z10=>JX 0 n (⟨107,[],[(1,(vI a1)),(2,(vI z10)),(3,.ref n 0)]⟩:Env) (Zx O n [some ⟨false,30,11,1,(Zm a0)⟩]) (n+1)) ?_
  intro s0_ x0_ hs0_
  unfold Jo at hs0_
  try dsimp only
  refine Zf ?_
  refine zQD [1,2,3,7,44] [none,none] ?_
  refine Zo (t:=(cond (decide (s0_.2 < (a0.Kids.length:Int))) (decide (0≤s0_.1)) false)) rfl (fun c9 => ?_) (fun c9 => ?_)
  ·replace hs0_:=Zq c9 hs0_
   refine Xs [1,2,3,7] [true] ?_
   refine Zf ?_
   refine Yh ?_
   obtain ⟨x6,hx6,ax6,bx6,cx6,hs0_⟩:=bE (f:=Zr) Zh6 (fun _=>rfl) (by decide) hs0_
   have g7:=Zdb (f:=Zr) (off:=1) (sz:=12) Zn2 (fun _=>rfl) (by decide) (by decide) hx6
   obtain ⟨y8,hy8,hs0_⟩:=bC hs0_
   refine Zj4 [] ax6 bx6 cx6 g7 ?_
   refine (Zf9 hy8).then ?_
   refine zF4 ax6 bx6 cx6 g7 ?_
   refine zD [1,2,3,7] [true] ?_
   refine zR ?_
   exact Vh hs0_
  replace hs0_:=Zp c9 hs0_
  exact zEx hs0_
 try simp only [Yv,Z9,↓reduceIte,Nat.reduceEqDiff]
 refine zDs [1,2,3] [true] ?_
 refine zQd [1,2,3,8] [1,2,3,8] [true] ?_
 obtain ⟨z27,hz27,h⟩:=bC h
 refine Yn (E':=⟨107,[],[(2,(vI z27))]⟩) (O':=(Zx O n [none])) (n0:=(n+1)) ?_ ?_
 ·refine Xd hz27 (fun s1_=>⟨107,[],[(1,(vI a1)),(2,(vI s1_.1)),(3,.ref n 0),(8,(vI s1_.2))]⟩) (fun s1_=>(Zx O n [some ⟨false,30,11,1,(Zm a0)⟩])) (fun z27=>JX 2 n (⟨107,[],[(2,(vI z27))]⟩:Env) (Zx O n [none]) (n+1)) ?_
  intro s1_ x1_ hs1_
  unfold Jp at hs1_
  try dsimp only
  refine Zf ?_
  refine zQD [1,2,3,8,65] [none,none] ?_
  refine Zo (t:=(cond (decide (s1_.2 < (a0.Ops.length:Int))) (decide (0≤s1_.1)) false)) rfl (fun c26 => ?_) (fun c26 => ?_)
  ·replace hs1_:=Zq c26 hs1_
   refine Xs [1,2,3,8] [true] ?_
   obtain ⟨z11,hz11,hs1_⟩:=bC hs1_
   refine Y1 (E':=⟨107,[],[(1,(vI a1)),(2,(vI z11)),(3,.ref n 0),(8,(vI s1_.2))]⟩) (O':=(Zx O n [some ⟨false,30,11,1,(Zm a0)⟩])) (n0:=(n+1)) ?_ ?_
   ·refine Yh ?_
    refine Zf ?_
    refine zQd [1,2,3,8,9] [1,2,3,8,9] [true] ?_
    obtain ⟨z21,hz21,hz11⟩:=bC hz11
    refine Yn (E':=⟨107,[],[(1,(vI a1)),(2,(vI z21)),(3,.ref n 0),(8,(vI s1_.2))]⟩) (O':=(Zx O n [some ⟨false,30,11,1,(Zm a0)⟩])) (n0:=(n+1)) ?_ ?_
    ·refine Xd hz21 (fun s2_=>⟨107,[],[(1,(vI a1)),(2,(vI s2_.1)),(3,.ref n 0),(8,(vI s1_.2)),(9,(vI s2_.2))]⟩) (fun s2_=>(Zx O n [some ⟨false,30,11,1,(Zm a0)⟩])) (fun z21=>JX 4 n (⟨107,[],[(1,(vI a1)),(2,(vI z21)),(3,.ref n 0),(8,(vI s1_.2))]⟩:Env) (Zx O n [some ⟨false,30,11,1,(Zm a0)⟩]) (n+1)) ?_
     intro s2_ x2_ hs2_
     unfold Uc at hs2_
     try dsimp only
     refine Zf ?_
     obtain ⟨x14,hx14,ax14,bx14,cx14,hs2_⟩:=bE (f:=Yg) Zlg (fun _=>rfl) (by decide) hs2_
     have g15:=Zdb (f:=Yg) (off:=2) (sz:=14) Zzi (fun _=>rfl) (by decide) (by decide) hx14
     refine Zef [1,2,3,8,9,80] (Yr Zs [none,none] ?_)
     refine zF4 ax14 bx14 cx14 g15 ?_
     refine zG ?_
     refine Zo (t:=(cond (decide (s2_.2 < (x14.L.length:Int))) (decide (0≤s2_.1)) false)) rfl (fun c20 => ?_) (fun c20 => ?_)
     ·replace hs2_:=Zq c20 hs2_
      refine Xs [1,2,3,8,9] [true] ?_
      refine Zf ?_
      refine Yh ?_
      obtain ⟨x16,hx16,ax16,bx16,cx16,hs2_⟩:=bE (f:=Yg) Zlg (fun _=>rfl) (by decide) hs2_
      have g17:=Zdb (f:=Yg) (off:=2) (sz:=14) Zzi (fun _=>rfl) (by decide) (by decide) hx16
      obtain ⟨x18,hx18,ax18,bx18,cx18,hs2_⟩:=bE (f:=Zc) Zcc (fun _=>rfl) (by decide) hs2_
      obtain ⟨y19,hy19,hs2_⟩:=bC hs2_
      refine Yi6 [] ax16 bx16 cx16 g17 ax18 bx18 cx18 ?_
      refine (Zch hy19).then ?_
      refine zF7 ax16 bx16 cx16 g17 ax18 bx18 cx18 ?_
      refine zD [1,2,3,8,9] [true] ?_
      refine zR ?_
      exact Vh hs2_
     replace hs2_:=Zp c20 hs2_
     exact zEx hs2_
    try simp only [Yv,Z9,↓reduceIte,Nat.reduceEqDiff]
    refine zD [1,2,3,8] [true] ?_
    refine zQ [1,2,3,8,95] ?_
    refine Zo (t:=(decide (0≤z21))) rfl (fun c25 => ?_) (fun c25 => ?_)
    ·replace hz11:=Zq c25 hz11
     obtain ⟨x22,hx22,ax22,bx22,cx22,hz11⟩:=bE (f:=Yg) Zlg (fun _=>rfl) (by decide) hz11
     have g23:=Zdb (f:=Yg) (off:=3) (sz:=14) Zn2 (fun _=>rfl) (by decide) (by decide) hx22
     obtain ⟨y24,hy24,hz11⟩:=bC hz11
     refine Zj4 [] ax22 bx22 cx22 g23 ?_
     refine (Zf9 hy24).then ?_
     refine zF4 ax22 bx22 cx22 g23 ?_
     exact Zx2 hz11 ax22 bx22 cx22 g23
    replace hz11:=Zp c25 hz11
    refine zK ?_
    exact Vh hz11
   refine zR ?_
   exact Vh hs1_
  replace hs1_:=Zp c26 hs1_
  exact zEx hs1_
 try simp only [Yv,Z9,↓reduceIte,Nat.reduceEqDiff]
 refine zD [2] [false] ?_
 refine zQ [6] ?_
 refine zW ?_
 obtain rfl:=sI h
 refine Zl (.inr rfl) hU [(vI z27)] (by omega) ?_
 simp only [push_cast,seval,↓reduceIte,Zd,Tryz.results67,hN0,hN]
theorem Zll:∀ k,(Zf6 (Y3 k)):=fun k=>by
 induction k with
 | zero=>exact @fun a0 a1 a2 r O n h=>(nomatch (show (none:Option _)=some _ from h))
 | succ k ih=>exact @fun a0 a1 a2 r O n h=>Znt (ih)  h
theorem Zoh {a0:Zi} {a1:Int} {a2:Int} {r:Int} {O:Objs} {n:Nat} (h:Zeq a0 a1 a2=some r):GTo Tryz.prog 67 [.agg (Zm a0),(vI a1),(vI a2)] O n ((vI r)) O n:=by
 obtain ⟨k,hk⟩:=Zbg h
 exact (Zll k)  hk
theorem Zex {a0:Zi} {r:Bool} {O:Objs} {n:Nat} (h:Zbj a0=some r):GTo Tryz.prog 25 [.agg (Zm a0)] O n ((vB r)) O n:=by
 unfold Zbj at h
 refine Uw Zs Tryz.call25 Tryz.func25 rfl fun hU hN0 hN => ?_
 show W _ _ _ _ ⟨6,[],[(0,.agg (Zm a0))]⟩ (Zx O n []) _
 refine zQ [1] ?_
 refine Zf ?_
 obtain ⟨y2,hy2,h⟩:=bC h
 refine zCd (Zoh hy2) [2] [false] ?_
 refine zW ?_
 obtain rfl:=sI h
 refine Zl (.inr rfl) hU [(vB (decide (0≤y2)))] (by omega) ?_
 simp only [push_cast,seval,↓reduceIte,Zd,Tryz.results25,hN0,hN]
theorem V4 {a0:Za} {r:Bool} {O:Objs} {n:Nat} (h:J7 a0=some r):GTo Tryz.prog 68 [.agg (Zg a0)] O n ((vB r)) O n:=by
 unfold J7 at h
 refine Uw Zs Tryz.call68 Tryz.func68 rfl fun hU hN0 hN => ?_
 show W _ _ _ _ ⟨16,[],[(0,.agg (Zg a0))]⟩ (Zx O n []) _
 refine zQ [1] ?_
 refine zQD [2] [none,none,none,none,none,none,none,none] ?_
 refine zW ?_
 obtain rfl:=sI h
 refine Zl (.inr rfl) hU [(vB (cond (a0.Kind == 0) ((IntKind.i64.wrap ((a0.Words.length:Int)+(a0.Kids.length:Int))) == 0) false))] (by omega) ?_
 simp only [push_cast,seval,↓reduceIte,Zd,Tryz.results68,hN0,hN]
theorem Zhq {a0:Int} {a1:Int} {r:Bool} {O:Objs} {n:Nat} (h:Un a0 a1=some r):GTo Tryz.prog 61 [(vI a0),.val (.int .u64 a1)] O n ((vB r)) O n:=by
 unfold Un at h
 refine Uw Zs Tryz.call61 Tryz.func61 rfl fun hU hN0 hN => ?_
 show W _ _ _ _ ⟨20,[],[(0,(vI a0)),(1,.val (.int .u64 a1))]⟩ (Zx O n []) _
 refine zQ [0,1] ?_
 refine Zf ?_
 obtain ⟨y2,hy2,h⟩:=bC h
 refine zCd (Zgn hy2) [1,5] [] ?_
 refine Zf ?_
 refine zQ [1,5,10] ?_
 refine Zo (t:=(decide (y2 < 0))) rfl (fun c5 => ?_) (fun c5 => ?_)
 ·replace h:=Zq c5 h
  refine zQ [4] ?_
  refine zW ?_
  obtain rfl:=sI h
  refine Zl (.inr rfl) hU [(vB false)] (by omega) ?_
  simp only [push_cast,seval,↓reduceIte,Zd,Tryz.results61,hN0,hN]
 replace h:=Zp c5 h
 refine Xs [1,5] [] ?_
 refine Zf ?_
 refine zQd [1,5,6] [1,5,6] [] ?_
 obtain ⟨z4,hz4,h⟩:=bC h
 refine Yn (E':=⟨20,[],[(1,.val (.int .u64 z4))]⟩) (O':=(Zx O n [])) (n0:=n) ?_ ?_
 ·refine Xd hz4 (fun s0_=>⟨20,[],[(1,.val (.int .u64 s0_.1)),(5,(vI y2)),(6,(vI s0_.2))]⟩) (fun s0_=>(Zx O n [])) (fun z4=>JX 0 n (⟨20,[],[(1,.val (.int .u64 z4))]⟩:Env) (Zx O n []) n) ?_
  intro s0_ x0_ hs0_
  unfold Qs at hs0_
  try dsimp only
  refine Zf ?_
  refine zQ [1,5,6,13] ?_
  refine Zo (t:=(decide (s0_.2 < y2))) rfl (fun c3 => ?_) (fun c3 => ?_)
  ·replace hs0_:=Zq c3 hs0_
   refine Xs [1,5,6] [] ?_
   refine Zf ?_
   refine Yh ?_
   refine Gi [1,5,6] [] ?_
   refine zR ?_
   exact Vh hs0_
  replace hs0_:=Zp c3 hs0_
  exact zEx hs0_
 try simp only [Yv,Z9,↓reduceIte,Nat.reduceEqDiff]
 refine zD [1] [] ?_
 refine zQ [4] ?_
 refine zW ?_
 obtain rfl:=sI h
 refine Zl (.inr rfl) hU [(vB (z4 == 0))] (by omega) ?_
 simp only [push_cast,seval,↓reduceIte,Zd,Tryz.results61,hN0,hN]
def Ze8 (Jt:(Za→Int→Option Bool)):Prop:=∀ {a0:Za} {a1:Int} {r:Bool} {O:Objs} {n:Nat},Jt a0 a1=some r→GTo Tryz.prog 20 [.agg (Zg a0),(vI a1)] O n ((vB r)) O n
theorem Zme {Jt:(Za→Int→Option Bool)} (Zlo:Ze8 Jt) {a0:Za} {a1:Int} {r:Bool} {O:Objs} {n:Nat} (h:Gj Jt a0 a1=some r):GTo Tryz.prog 20 [.agg (Zg a0),(vI a1)] O n ((vB r)) O n:=by
 unfold Gj at h
 refine Uw Zs Tryz.call20 Tryz.func20 rfl fun hU hN0 hN => ?_
 show W _ _ _ _ ⟨132,[],[(0,.agg (Zg a0)),(1,(vI a1))]⟩ (Zx O n []) _
 refine zQ [1,2] ?_
 refine Zf ?_
 refine zQ [1,2,10] ?_
 refine Zo (t:=(a0.Kind == 0)) rfl (fun c32 => ?_) (fun c32 => ?_)
 ·replace h:=Zq c32 h
  refine zQD [4] [none,none,none,none] ?_
  refine zW ?_
  obtain rfl:=sI h
  refine Zl (.inr rfl) hU [(vB (cond ((a0.Words.length:Int) == 0) ((a0.Kids.length:Int) == 0) false))] (by omega) ?_
  simp only [push_cast,seval,↓reduceIte,Zd,Tryz.results20,hN0,hN]
 replace h:=Zp c32 h
 refine Xs [1,2] [true] ?_
 refine Zf ?_
 refine zQ [1,2,23] ?_
 refine Zo (t:=(a0.Kind == 10)) rfl (fun c31 => ?_) (fun c31 => ?_)
 ·replace h:=Zq c31 h
  refine zQD [4] [none,none,none,none] ?_
  refine zW ?_
  obtain rfl:=sI h
  refine Zl (.inr rfl) hU [(vB (cond ((a0.Words.length:Int) == 1) ((a0.Kids.length:Int) == 0) false))] (by omega) ?_
  simp only [push_cast,seval,↓reduceIte,Zd,Tryz.results20,hN0,hN]
 replace h:=Zp c31 h
 refine Xs [1,2] [true] ?_
 refine Zf ?_
 refine zQD [1,2,68] [none,none,none,none,none,none,none,none,none,none,none,none,none,none,none,none,none,none,none,none,none,none] ?_
 refine Zo (t:=(cond (cond (cond (cond (cond (decide (a0.Kind < 0)) true (decide (10 < a0.Kind))) true (a1 == 0)) true (decide (65536≤(a0.Words.length:Int)))) true (cond (a0.Kind == 1) (decide (65536≤(a0.Kids.length:Int))) false)) true (decide (1048576≤(a0.Kids.length:Int))))) rfl (fun c30 => ?_) (fun c30 => ?_)
 ·replace h:=Zq c30 h
  refine zQ [4] ?_
  refine zW ?_
  obtain rfl:=sI h
  refine Zl (.inr rfl) hU [(vB false)] (by omega) ?_
  simp only [push_cast,seval,↓reduceIte,Zd,Tryz.results20,hN0,hN]
 replace h:=Zp c30 h
 refine Xs [1,2] [true] ?_
 refine Zf ?_
 refine zQD [1,2,77] [none,none,none,none] ?_
 refine Zo (t:=(cond (decide (1 < a0.Kind)) (decide (0 < (a0.Words.length:Int))) false)) rfl (fun c29 => ?_) (fun c29 => ?_)
 ·replace h:=Zq c29 h
  refine zQ [4] ?_
  refine zW ?_
  obtain rfl:=sI h
  refine Zl (.inr rfl) hU [(vB false)] (by omega) ?_
  simp only [push_cast,seval,↓reduceIte,Zd,Tryz.results20,hN0,hN]
 replace h:=Zp c29 h
 refine Xs [1,2] [true] ?_
 refine Zf ?_
 refine zQd [1,2,5] [1,2,5] [true] ?_
 obtain ⟨z28,hz28,h⟩:=bC h
 refine Ut (J:=(Xg (fun z28=>JR n (⟨132,[],[(4,(vB false))]⟩:Env) (Zx O n [none]) (n+1)) (fun z28=>JX 0 n (⟨132,[],[]⟩:Env) (Zx O n [none]) (n+1)))) (z:=z28) ?_ fun hw => ?_
 ·refine Xd hz28 (fun s0_=>⟨132,[],[(1,(vI a1)),(2,.ref n 0),(5,(vI s0_))]⟩) (fun s0_=>(Zx O n [some ⟨false,25,3,1,(Zg a0)⟩])) (Xg (fun z28=>JR n (⟨132,[],[(4,(vB false))]⟩:Env) (Zx O n [none]) (n+1)) (fun z28=>JX 0 n (⟨132,[],[]⟩:Env) (Zx O n [none]) (n+1))) ?_
  intro s0_ x0_ hs0_
  unfold Vs at hs0_
  try dsimp only
  refine Zf ?_
  refine zQ [1,2,5,82] ?_
  refine Zo (t:=(decide (s0_ < (a0.Kids.length:Int)))) rfl (fun c27 => ?_) (fun c27 => ?_)
  ·replace hs0_:=Zq c27 hs0_
   refine Xs [1,2,5] [true] ?_
   refine Zf ?_
   refine Yh ?_
   refine Zf ?_
   obtain ⟨x2,hx2,ax2,bx2,cx2,hs0_⟩:=bE (f:=Zc) Zcc (fun _=>rfl) (by decide) hs0_
   refine Zgu [] ax2 bx2 cx2 ?_
   refine zDs [1,2,5,6] [true,true] ?_
   refine Zf ?_
   obtain ⟨y4,hy4,hs0_⟩:=bC hs0_
   refine zCd (Zlo hy4) [1,2,5,6,94] [true,true] ?_
   refine Zo (t:=(!y4)) rfl (fun c26 => ?_) (fun c26 => ?_)
   ·replace hs0_:=Zq c26 hs0_
    refine zQ [4] ?_
    refine zW ?_
    exact zEy hs0_
   replace hs0_:=Zp c26 hs0_
   refine Xs [1,2,5,6] [true,true] ?_
   refine zQD [1,2,5,6,7] [none,none,none] ?_
   obtain ⟨z9,hz9,hs0_⟩:=bC hs0_
   refine Y1 (E':=⟨132,[],[(1,(vI a1)),(2,.ref n 0),(5,(vI s0_)),(131,(vB z9))]⟩) (O':=(Zx O n [some ⟨false,25,3,1,(Zg a0)⟩,none])) (n0:=(n+2)) ?_ ?_
   ·rcases Bool.eq_false_or_eq_true ((cond (decide (2≤a0.Kind)) (decide (a0.Kind≤7)) false) != (x2.Kind == 10)) with c18 | c18
    ·replace hz9:=Zq c18 hz9
     refine Xl Zs (by kernel_rfl) (Zi3 (Zpp [])) (by kernel_rfl) ?_
     refine zX1 c18 ?_
     refine zG ?_
     exact Ju hz9 c18
    replace hz9:=Zp c18 hz9
    rcases Bool.eq_false_or_eq_true (a0.Kind == 9) with c19 | c19
    ·replace hz9:=Zq c19 hz9
     try rw [c19] at c18
     try simp only [Bool.cond_true,Bool.cond_false,Bool.true_bne,Bool.false_bne,Bool.not_eq_true',Bool.not_eq_false'] at c18
     rcases Bool.eq_false_or_eq_true (x2.Kind != 1) with c20 | c20
     ·replace hz9:=Zq c20 hz9
      try rw [c20] at c18
      try rw [c20] at c19
      try simp only [Bool.cond_true,Bool.cond_false,Bool.true_bne,Bool.false_bne,Bool.not_eq_true',Bool.not_eq_false'] at c18
      refine Xl Zs (by kernel_rfl) (Zi3 (Zpp [])) (by kernel_rfl) ?_
      refine zX3 c18 c19 c20 ?_
      refine zG ?_
      exact Ze6 hz9 c18 c19 c20
     replace hz9:=Zp c20 hz9
     try rw [c20] at c18
     try rw [c20] at c19
     try simp only [Bool.cond_true,Bool.cond_false,Bool.true_bne,Bool.false_bne,Bool.not_eq_true',Bool.not_eq_false'] at c18
     rcases Bool.eq_false_or_eq_true (decide (2≤a0.Kind)) with c21 | c21
     ·replace hz9:=Zq c21 hz9
      try rw [c21] at c18
      try rw [c21] at c19
      try rw [c21] at c20
      try simp only [Bool.cond_true,Bool.cond_false,Bool.true_bne,Bool.false_bne,Bool.not_eq_true',Bool.not_eq_false'] at c18
      rcases Bool.eq_false_or_eq_true (decide (a0.Kind≤7)) with c22 | c22
      ·replace hz9:=Zq c22 hz9
       try rw [c22] at c18
       try rw [c22] at c19
       try rw [c22] at c20
       try rw [c22] at c21
       try simp only [Bool.cond_true,Bool.cond_false,Bool.true_bne,Bool.false_bne,Bool.not_eq_true',Bool.not_eq_false'] at c18
       obtain ⟨x14,hx14,ax14,bx14,cx14,hz9⟩:=bE (f:=(eI .u64)) Za6 (fun _=>rfl) (by decide) hz9
       obtain ⟨y15,hy15,hz9⟩:=bC hz9
       refine Xl Zs (by kernel_rfl) (Zi3 (Z4z [])) (by kernel_rfl) ?_
       refine zF8 c18 c19 c20 c21 c22 ax14 bx14 cx14 ?_
       refine zG ?_
       refine PCall.of (Zhq hy15) ?_
       refine zF8 c18 c19 c20 c21 c22 ax14 bx14 cx14 ?_
       refine zG ?_
       exact Yox hz9 c18 c19 c20 c21 c22 ax14 bx14 cx14
      replace hz9:=Zp c22 hz9
      try rw [c22] at c18
      try rw [c22] at c19
      try rw [c22] at c20
      try rw [c22] at c21
      try simp only [Bool.cond_true,Bool.cond_false,Bool.true_bne,Bool.false_bne,Bool.not_eq_true',Bool.not_eq_false'] at c18
      refine Xl Zs (by kernel_rfl) (Zi3 (Uj::Uj::Z0n [Uj])) (by kernel_rfl) ?_
      refine zX5 c18 c19 c20 c21 c22 ?_
      refine zG ?_
      exact Yoy hz9 c18 c19 c20 c21 c22
     replace hz9:=Zp c21 hz9
     try rw [c21] at c18
     try rw [c21] at c19
     try rw [c21] at c20
     try simp only [Bool.cond_true,Bool.cond_false,Bool.true_bne,Bool.false_bne,Bool.not_eq_true',Bool.not_eq_false'] at c18
     refine Xl Zs (by kernel_rfl) (Zi3 (Uj::Uj::Z0n [Uj])) (by kernel_rfl) ?_
     refine zX4 c18 c19 c20 c21 ?_
     refine zG ?_
     exact Zzn hz9 c18 c19 c20 c21
    replace hz9:=Zp c19 hz9
    try rw [c19] at c18
    try simp only [Bool.cond_true,Bool.cond_false,Bool.true_bne,Bool.false_bne,Bool.not_eq_true',Bool.not_eq_false'] at c18
    rcases Bool.eq_false_or_eq_true (decide (2≤a0.Kind)) with c23 | c23
    ·replace hz9:=Zq c23 hz9
     try rw [c23] at c18
     try rw [c23] at c19
     try simp only [Bool.cond_true,Bool.cond_false,Bool.true_bne,Bool.false_bne,Bool.not_eq_true',Bool.not_eq_false'] at c18
     rcases Bool.eq_false_or_eq_true (decide (a0.Kind≤7)) with c24 | c24
     ·replace hz9:=Zq c24 hz9
      try rw [c24] at c18
      try rw [c24] at c19
      try rw [c24] at c23
      try simp only [Bool.cond_true,Bool.cond_false,Bool.true_bne,Bool.false_bne,Bool.not_eq_true',Bool.not_eq_false'] at c18
      obtain ⟨x16,hx16,ax16,bx16,cx16,hz9⟩:=bE (f:=(eI .u64)) Za6 (fun _=>rfl) (by decide) hz9
      obtain ⟨y17,hy17,hz9⟩:=bC hz9
      refine Xl Zs (by kernel_rfl) (Zi3 (Z4z [])) (by kernel_rfl) ?_
      refine zF7 c18 c19 c23 c24 ax16 bx16 cx16 ?_
      refine zG ?_
      refine PCall.of (Zhq hy17) ?_
      refine zF7 c18 c19 c23 c24 ax16 bx16 cx16 ?_
      refine zG ?_
      exact Z52 hz9 c18 c19 c23 c24 ax16 bx16 cx16
     replace hz9:=Zp c24 hz9
     try rw [c24] at c18
     try rw [c24] at c19
     try rw [c24] at c23
     try simp only [Bool.cond_true,Bool.cond_false,Bool.true_bne,Bool.false_bne,Bool.not_eq_true',Bool.not_eq_false'] at c18
     refine Xl Zs (by kernel_rfl) (Zi3 (Uj::Uj::Z0n [Uj])) (by kernel_rfl) ?_
     refine zX4 c18 c19 c23 c24 ?_
     refine zG ?_
     exact Zzn hz9 c18 c19 c23 c24
    replace hz9:=Zp c23 hz9
    try rw [c23] at c18
    try rw [c23] at c19
    try simp only [Bool.cond_true,Bool.cond_false,Bool.true_bne,Bool.false_bne,Bool.not_eq_true',Bool.not_eq_false'] at c18
    refine Xl Zs (by kernel_rfl) (Zi3 (Uj::Uj::Z0n [Uj])) (by kernel_rfl) ?_
    refine zX3 c18 c19 c23 ?_
    refine zG ?_
    exact Ze6 hz9 c18 c19 c23
   refine Zo (t:=z9) rfl (fun c25 => ?_) (fun c25 => ?_)
   ·replace hs0_:=Zq c25 hs0_
    refine zQ [4] ?_
    refine zW ?_
    exact zEy hs0_
   replace hs0_:=Zp c25 hs0_
   refine Xs [1,2,5] [true,false] ?_
   refine zR ?_
   exact Vh hs0_
  replace hs0_:=Zp c27 hs0_
  exact zEx hs0_
 rcases z28 with z28 | z28
 ·dsimp only [Xg] at hw h
  refine Q1 hw ?_
  try simp only [Yv,Z9,↓reduceIte,Nat.reduceEqDiff]
  obtain rfl:=sI h
  refine Zl (.inr rfl) hU [(vB false)] (by omega) ?_
  simp only [push_cast,seval,↓reduceIte,Zd,Tryz.results20,hN0,hN]
 dsimp only [Xg] at hw h
 refine Yn hw ?_
 try simp only [Yv,Z9,↓reduceIte,Nat.reduceEqDiff]
 refine zD [] [false] ?_
 refine zQ [4] ?_
 refine zW ?_
 obtain rfl:=sI h
 refine Zl (.inr rfl) hU [(vB true)] (by omega) ?_
 simp only [push_cast,seval,↓reduceIte,Zd,Tryz.results20,hN0,hN]
theorem Zkm:∀ k,(Ze8 (J0 k)):=fun k=>by
 induction k with
 | zero=>exact @fun a0 a1 r O n h=>(nomatch (show (none:Option _)=some _ from h))
 | succ k ih=>exact @fun a0 a1 r O n h=>Zme (ih)  h
theorem Zba {a0:Za} {a1:Int} {r:Bool} {O:Objs} {n:Nat} (h:Gw a0 a1=some r):GTo Tryz.prog 20 [.agg (Zg a0),(vI a1)] O n ((vB r)) O n:=by
 obtain ⟨k,hk⟩:=Zbg h
 exact (Zkm k)  hk
theorem Zgm {a0:Int} {r:(Arr Int 8)} {O:Objs} {n:Nat} (h:V1 a0=some r):GTo Tryz.prog 171 [.val (.int .u64 a0)] O n (.agg (fl (eI .u8) r.1)) O n:=by
 unfold V1 at h
 refine Uw Zs Tryz.call171 Tryz.func171 rfl fun hU hN0 hN => ?_
 show W _ _ _ _ ⟨18,[],[(0,.val (.int .u64 a0))]⟩ (Zx O n []) _
 obtain ⟨y3,hy3,ey3,h⟩:=bY (f:=(eI .u8)) (cs:=[.val (.int .u8 0),.val (.int .u8 0),.val (.int .u8 0),.val (.int .u8 0),.val (.int .u8 0),.val (.int .u8 0),.val (.int .u8 0),.val (.int .u8 0)]) rfl h
 have g4:=congrArg (GObj.mk false 185 8 1) ey3
 refine Yo0 [0,2] g4 ?_
 refine Zf ?_
 obtain ⟨y9,hy9,ey9,h⟩:=bY (f:=(eI .u8)) (cs:=[.val (.int .u8 0),.val (.int .u8 0),.val (.int .u8 0),.val (.int .u8 0),.val (.int .u8 0),.val (.int .u8 0),.val (.int .u8 0),.val (.int .u8 0)]) rfl h
 have g10:=congrArg G.agg ey9
 have g11:=congrArg (GObj.mk false 185 8 1) ey9
 have g12:=Zff (f:=(eI .u8)) y9 y9 (fun _=>rfl)
 refine Za0 [] g10 g11 g12 ?_
 refine zDs [0,2,3] [true,true] ?_
 refine zQd [0,2,3,4] [0,2,3,4] [true,true] ?_
 obtain ⟨z18,hz18,h⟩:=bC h
 refine Yn (E':=⟨18,[],[(2,.ref n 0),(3,.ref (n+1) 0)]⟩) (O':=(Zx O n [some ⟨false,185,8,1,fl (eI .u8) y3.1⟩,some ⟨false,185,8,1,fl (eI .u8) z18.1⟩])) (n0:=(n+2)) ?_ ?_
 ·refine Xd hz18 (fun s0_=>⟨18,[],[(0,.val (.int .u64 s0_.1)),(2,.ref n 0),(3,.ref (n+1) 0),(4,(vI s0_.2.1))]⟩) (fun s0_=>(Zx O n [some ⟨false,185,8,1,fl (eI .u8) y3.1⟩,some ⟨false,185,8,1,fl (eI .u8) s0_.2.2.1⟩])) (fun z18=>JX 0 n (⟨18,[],[(2,.ref n 0),(3,.ref (n+1) 0)]⟩:Env) (Zx O n [some ⟨false,185,8,1,fl (eI .u8) y3.1⟩,some ⟨false,185,8,1,fl (eI .u8) z18.1⟩]) (n+2)) ?_
  intro s0_ x0_ hs0_
  unfold Vv at hs0_
  try dsimp only
  refine Zf ?_
  refine zQ [0,2,3,4,7] ?_
  refine Zo (t:=(decide (s0_.2.1 < 8))) rfl (fun c17 => ?_) (fun c17 => ?_)
  ·replace hs0_:=Zq c17 hs0_
   refine Xs [0,2,3,4] [true,true] ?_
   refine Zf ?_
   refine Yh ?_
   refine Zf ?_
   obtain ⟨x15,hx15,ax15,bx15,cx15,hs0_⟩:=bEA (f:=(eI .u8)) (b:=8) rfl Z27 (fun _=>rfl) (by decide) hs0_
   have gu16:Ga (fl (eI .u8) s0_.2.2.1) [.val (.int .u8 (IntKind.u8.wrap (Int.tmod s0_.1 256)))] (Int.toNat s0_.2.1 * 1)=some (fl (eI .u8) (Zic s0_.2.2.1 s0_.2.1 (IntKind.u8.wrap (Int.tmod s0_.1 256)))):=Zji (f:=(eI .u8)) (ti:=⟨.bool,1,0,[],false⟩) (x:=(IntKind.u8.wrap (Int.tmod s0_.1 256))) (fun _=>rfl) (Zem hx15)
   refine Zj4 [] ax15 bx15 cx15 gu16 ?_
   refine zD [0,2,3,4] [true,true] ?_
   refine Gi [0,2,3,4] [true,true] ?_
   refine zR ?_
   exact Vh hs0_
  replace hs0_:=Zp c17 hs0_
  exact zEx hs0_
 try simp only [Yv,Z9,↓reduceIte,Nat.reduceEqDiff]
 refine zDs [2,3] [true,true] ?_
 have g21:=Zyw (f:=(eI .u8)) z18 Zta rfl (fun _=>rfl) rfl
 have g22:=Zff (f:=(eI .u8)) y3 z18 (fun _=>rfl)
 refine Vq [] g21 g22 ?_
 refine zD [2] [true,false] ?_
 refine zW ?_
 obtain rfl:=sI h
 have gR0:=Zyw (f:=(eI .u8)) z18 Zta rfl (fun _=>rfl) rfl
 refine Zl (.inr rfl) hU [.agg (fl (eI .u8) z18.1)] (by omega) ?_
 simp only [push_cast,seval,↓reduceIte,Zd,Tryz.results171,hN0,hN,gR0]
theorem Znm {a0:Int} {a1:Int} {r:Bool} {O:Objs} {n:Nat} (h:Gt a0 a1=some r):GTo Tryz.prog 172 [.val (.int .u8 a0),(vI a1)] O n ((vB r)) O n:=by
 unfold Gt at h
 refine Uw Zs Tryz.call172 Tryz.func172 rfl fun hU hN0 hN => ?_
 show W _ _ _ _ ⟨16,[],[(0,.val (.int .u8 a0)),(1,(vI a1))]⟩ (Zx O n []) _
 refine zQ [0,1] ?_
 refine Zf ?_
 refine zQd [0,1,5] [0,1,5] [] ?_
 obtain ⟨z2,hz2,h⟩:=bC h
 refine Yn (E':=⟨16,[],[(0,.val (.int .u8 z2))]⟩) (O':=(Zx O n [])) (n0:=n) ?_ ?_
 ·refine Xd hz2 (fun s0_=>⟨16,[],[(0,.val (.int .u8 s0_.1)),(1,(vI a1)),(5,(vI s0_.2))]⟩) (fun s0_=>(Zx O n [])) (fun z2=>JX 0 n (⟨16,[],[(0,.val (.int .u8 z2))]⟩:Env) (Zx O n []) n) ?_
  intro s0_ x0_ hs0_
  unfold Ke at hs0_
  try dsimp only
  refine Zf ?_
  refine zQ [0,1,5,8] ?_
  refine Zo (t:=(decide (s0_.2 < a1))) rfl (fun c1 => ?_) (fun c1 => ?_)
  ·replace hs0_:=Zq c1 hs0_
   refine Xs [0,1,5] [] ?_
   refine Zf ?_
   refine Yh ?_
   refine Gi [0,1,5] [] ?_
   refine zR ?_
   exact Vh hs0_
  replace hs0_:=Zp c1 hs0_
  exact zEx hs0_
 try simp only [Yv,Z9,↓reduceIte,Nat.reduceEqDiff]
 refine zD [0] [] ?_
 refine zQ [4] ?_
 refine zW ?_
 obtain rfl:=sI h
 refine Zl (.inr rfl) hU [(vB ((Int.tmod z2 2) == 1))] (by omega) ?_
 simp only [push_cast,seval,↓reduceIte,Zd,Tryz.results172,hN0,hN]
theorem Zss {a0:(List Int)} {a1:Int} {r:Int} {O:Objs} {n:Nat} (h:Zdx a0 a1=some r):GTo Tryz.prog 173 [(sL (eI .u8) a0),(vI a1)] O n (.val (.int .u64 r)) O n:=by
 unfold Zdx at h
 refine Uw Zs Tryz.call173 Tryz.func173 rfl fun hU hN0 hN => ?_
 show W _ _ _ _ ⟨22,[],[(0,(sL (eI .u8) a0)),(1,(vI a1))]⟩ (Zx O n []) _
 refine zQ [0,1] ?_
 refine zQ [0,1,5] ?_
 refine Zf ?_
 refine zQd [0,1,5,6] [0,1,5,6] [] ?_
 obtain ⟨z3,hz3,h⟩:=bC h
 refine Yn (E':=⟨22,[],[(5,.val (.int .u64 z3))]⟩) (O':=(Zx O n [])) (n0:=n) ?_ ?_
 ·refine Xd hz3 (fun s0_=>⟨22,[],[(0,(sL (eI .u8) a0)),(1,(vI a1)),(5,.val (.int .u64 s0_.1)),(6,(vI s0_.2))]⟩) (fun s0_=>(Zx O n [])) (fun z3=>JX 0 n (⟨22,[],[(5,.val (.int .u64 z3))]⟩:Env) (Zx O n []) n) ?_
  intro s0_ x0_ hs0_
  unfold Gu at hs0_
  try dsimp only
  refine Zf ?_
  refine zQ [0,1,5,6,8] ?_
  refine Zo (t:=(decide (0≤s0_.2))) rfl (fun c2 => ?_) (fun c2 => ?_)
  ·replace hs0_:=Zq c2 hs0_
   refine Xs [0,1,5,6] [] ?_
   refine Zf ?_
   refine Yh ?_
   obtain ⟨x1,hx1,ax1,bx1,cx1,hs0_⟩:=bE (f:=(eI .u8)) Z27 (fun _=>rfl) (by decide) hs0_
   refine Zgu [] ax1 bx1 cx1 ?_
   refine zD [0,1,5,6] [] ?_
   refine zR ?_
   exact Vh hs0_
  replace hs0_:=Zp c2 hs0_
  exact zEx hs0_
 try simp only [Yv,Z9,↓reduceIte,Nat.reduceEqDiff]
 refine zD [5] [] ?_
 refine zQ [4] ?_
 refine zW ?_
 obtain rfl:=sI h
 refine Zl (.inr rfl) hU [.val (.int .u64 z3)] (by omega) ?_
 simp only [push_cast,seval,↓reduceIte,Zd,Tryz.results173,hN0,hN]
theorem Zew {a0:Int} {a1:Int} {a2:Int} {r:Int} {O:Objs} {n:Nat} (h:Jx a0 a1 a2=some r):GTo Tryz.prog 112 [.val (.int .u64 a0),.val (.int .u64 a1),.val (.int .u8 a2)] O n (.val (.int .u64 r)) O n:=by
 unfold Jx at h
 refine Uw Zs Tryz.call112 Tryz.func112 rfl fun hU hN0 hN => ?_
 show W _ _ _ _ ⟨28,[],[(0,.val (.int .u64 a0)),(1,.val (.int .u64 a1)),(2,.val (.int .u8 a2))]⟩ (Zx O n []) _
 refine zQ [0,1,2] ?_
 refine Zf ?_
 obtain ⟨y8,hy8,h⟩:=bC h
 obtain ⟨y9,hy9,h⟩:=bC h
 obtain ⟨y10,hy10,ey10,h⟩:=bY (f:=(eI .u8)) (cs:=[.val (.int .u8 0),.val (.int .u8 0),.val (.int .u8 0),.val (.int .u8 0),.val (.int .u8 0),.val (.int .u8 0),.val (.int .u8 0),.val (.int .u8 0)]) rfl h
 have g11:=congrArg (GObj.mk false 185 8 1) ey10
 have g12:=congrArg (GObj.mk false 185 8 1) ey10
 have g13:=Zff (f:=(eI .u8)) y10 y8 (fun _=>rfl)
 have g14:=Zff (f:=(eI .u8)) y10 y9 (fun _=>rfl)
 refine Zty [] g11 g12 g13 g14 ?_
 refine (Zgm hy8).then ?_
 refine zX4 g11 g12 g13 g14 ?_
 refine (Zgm hy9).then ?_
 refine zX4 g11 g12 g13 g14 ?_
 refine zDs [2,7,8] [true,true] ?_
 refine zQd [2,7,8,9] [2,7,8,9] [true,true] ?_
 obtain ⟨z23,hz23,h⟩:=bC h
 refine Yn (E':=⟨28,[],[(7,.ref n 0)]⟩) (O':=(Zx O n [some ⟨false,185,8,1,fl (eI .u8) z23.1⟩,none])) (n0:=(n+2)) ?_ ?_
 ·refine Xd hz23 (fun s0_=>⟨28,[],[(2,.val (.int .u8 a2)),(7,.ref n 0),(8,.ref (n+1) 0),(9,(vI s0_.1))]⟩) (fun s0_=>(Zx O n [some ⟨false,185,8,1,fl (eI .u8) s0_.2.1⟩,some ⟨false,185,8,1,fl (eI .u8) y9.1⟩])) (fun z23=>JX 0 n (⟨28,[],[(7,.ref n 0)]⟩:Env) (Zx O n [some ⟨false,185,8,1,fl (eI .u8) z23.1⟩,none]) (n+2)) ?_
  intro s0_ x0_ hs0_
  unfold U0 at hs0_
  try dsimp only
  refine Zf ?_
  refine zQ [2,7,8,9,15] ?_
  refine Zo (t:=(decide (s0_.1 < 8))) rfl (fun c22 => ?_) (fun c22 => ?_)
  ·replace hs0_:=Zq c22 hs0_
   refine Xs [2,7,8,9] [true,true] ?_
   obtain ⟨z15,hz15,hs0_⟩:=bC hs0_
   refine Y1 (E':=⟨28,[],[(2,.val (.int .u8 a2)),(7,.ref n 0),(8,.ref (n+1) 0),(9,(vI s0_.1))]⟩) (O':=(Zx O n [some ⟨false,185,8,1,fl (eI .u8) z15.1⟩,some ⟨false,185,8,1,fl (eI .u8) y9.1⟩])) (n0:=(n+2)) ?_ ?_
   ·refine Yh ?_
    refine Zf ?_
    obtain ⟨y17,hy17,hz15⟩:=bC hz15
    refine zCd (Znm hy17) [2,7,8,9,20] [true,true] ?_
    refine Zo (t:=y17) rfl (fun c21 => ?_) (fun c21 => ?_)
    ·replace hz15:=Zq c21 hz15
     obtain ⟨x18,hx18,ax18,bx18,cx18,hz15⟩:=bEA (f:=(eI .u8)) (b:=8) rfl Z27 (fun _=>rfl) (by decide) hz15
     obtain ⟨x19,hx19,ax19,bx19,cx19,hz15⟩:=bEA (f:=(eI .u8)) (b:=8) rfl Z27 (fun _=>rfl) (by decide) hz15
     have gu20:Ga (fl (eI .u8) s0_.2.1) [.val (.int .u8 x18)] (Int.toNat s0_.1 * 1)=some (fl (eI .u8) (Zic s0_.2.1 s0_.1 x18)):=Zji (f:=(eI .u8)) (ti:=⟨.bool,1,0,[],false⟩) (x:=x18) (fun _=>rfl) (Zem hx19)
     refine Yi6 [] ax18 bx18 cx18 ax19 bx19 cx19 gu20 ?_
     exact Z52 hz15 ax18 bx18 cx18 ax19 bx19 cx19 gu20
    replace hz15:=Zp c21 hz15
    refine zK ?_
    exact Vh hz15
   refine zR ?_
   exact Vh hs0_
  replace hs0_:=Zp c22 hs0_
  exact zEx hs0_
 try simp only [Yv,Z9,↓reduceIte,Nat.reduceEqDiff]
 refine zDs [7] [true,false] ?_
 have g27:=Z6n (j:=n) Zmn Z27 (by decide)
 have g28:=z23.2
 obtain ⟨y29,hy29,h⟩:=bC h
 refine Vq [] g27 g28 ?_
 refine GCalls.lend (Zss hy29) rfl ?_ ?_
 ·exact K6 g27 g28
 refine zX2 g27 g28 ?_
 refine zD [6] [false,false] ?_
 refine zW ?_
 obtain rfl:=sI h
 refine Zl (.inr rfl) hU [.val (.int .u64 y29)] (by omega) ?_
 simp only [push_cast,seval,↓reduceIte,Zd,Tryz.results112,hN0,hN]
theorem Zc2 {a0:Int} {a1:Int} {r:Bool} {O:Objs} {n:Nat} (h:Vo a0 a1=some r):GTo Tryz.prog 69 [.val (.int .u64 a0),.val (.int .u8 a1)] O n ((vB r)) O n:=by
 unfold Vo at h
 refine Uw Zs Tryz.call69 Tryz.func69 rfl fun hU hN0 hN => ?_
 show W _ _ _ _ ⟨9,[],[(0,.val (.int .u64 a0)),(1,.val (.int .u8 a1))]⟩ (Zx O n []) _
 refine zQ [0,1] ?_
 refine Zf ?_
 obtain ⟨y2,hy2,h⟩:=bC h
 refine zCd (Zew hy2) [4] [] ?_
 refine zW ?_
 obtain rfl:=sI h
 refine Zl (.inr rfl) hU [(vB (y2 == 0))] (by omega) ?_
 simp only [push_cast,seval,↓reduceIte,Zd,Tryz.results69,hN0,hN]
theorem Zhr {a0:Zi} {r:Bool} {O:Objs} {n:Nat} (h:Up a0=some r):GTo Tryz.prog 113 [.agg (Zm a0)] O n ((vB r)) O n:=by
 unfold Up at h
 refine Uw Zs Tryz.call113 Tryz.func113 rfl fun hU hN0 hN => ?_
 show W _ _ _ _ ⟨35,[],[(0,.agg (Zm a0))]⟩ (Zx O n []) _
 refine zQ [1] ?_
 obtain ⟨z3,hz3,h⟩:=bC h
 refine Y1 (E':=⟨35,[],[(2,(vB z3))]⟩) (O':=(Zx O n [none])) (n0:=(n+1)) ?_ ?_
 ·rcases Bool.eq_false_or_eq_true (a0.Kind == 0) with c8 | c8
  ·replace hz3:=Zq c8 hz3
   obtain ⟨y6,hy6,hz3⟩:=bC hz3
   rcases Bool.eq_false_or_eq_true y6 with c9 | c9
   ·replace hz3:=Zq c9 hz3
    try rw [c9] at c8
    obtain ⟨y7,hy7,hz3⟩:=bC hz3
    refine Vq (Z40 (Yk0 [])) c8 c9 ?_
    refine zG ?_
    refine (V4 hy6).then ?_
    refine zX2 c8 c9 ?_
    refine zG ?_
    refine (V4 hy7).then ?_
    refine zX2 c8 c9 ?_
    refine zG ?_
    exact Zgf hz3 c8 c9
   replace hz3:=Zp c9 hz3
   try rw [c9] at c8
   refine Vq (Z0p (Ykw [])) c8 c9 ?_
   refine (V4 hy6).then ?_
   refine zX2 c8 c9 ?_
   exact Zgf hz3 c8 c9
  replace hz3:=Zp c8 hz3
  refine Vi (Ykx []) c8 ?_
  exact Ju hz3 c8
 refine zW ?_
 obtain rfl:=sI h
 refine Zl (.inr rfl) hU [(vB z3)] (by omega) ?_
 simp only [push_cast,seval,↓reduceIte,Zd,Tryz.results113,hN0,hN]
end Go.Proofs.YtmlcnhambfkjaaaGreat
