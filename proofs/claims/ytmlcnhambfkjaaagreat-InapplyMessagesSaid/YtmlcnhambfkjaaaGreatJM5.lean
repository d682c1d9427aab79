/- Part JM5 of this seat's mirrors: functions of the seat's program, and the plain functions that they are; each theorem bears its own conditions. -/
import Derived.Test.YtmlcnhambfkjaaaGreatJM3
namespace Go.Proofs.YtmlcnhambfkjaaaGreat
open Go.RowKit
set_option linter.unusedVariables false
set_option linter.unusedSimpArgs false
set_option maxRecDepth 100000
set_option maxHeartbeats 4000000
attribute [local push_cast] vI vB nV sL oR Zm Q2 X5 Xn Zg Jv Z3 Xh Zk Yv Z9 Je Zfw Zdq Ztp Zsm Zna Zne Zm9 Znd Zqk Zqg Znc Zqj Zqi Zqh Znb Zqf Zk7 evS wok K8 Op.operands Call.operands gop atK List.all_cons List.all_nil Bool.and_self Value.oneCell' List.take_zero List.take_succ_cons List.take_nil List.drop_zero List.drop_succ_cons List.drop_nil List.append_nil Nat.add_zero Nat.zero_add Zao Y2 ev Kv Zo6 Zuc Zub Zuh Zuf Zug Zud Zue Zua Ztz Zw1 Zz0 Zkl Zel Zjg Zek Zmv Zhg Zid Zii Zke Zka Zig Zkd Zkc Zkb Zif Zj9 Zie Zih Zgv Zly Zkj Zcp Zkk Zcq Zlx Zki Zx5 bLo bHi bMx Zen Zlv Z39 Zkh Zlw Zgw Zbr Zw3 Z4c Zkg Zhe Z4h Zej Z6l Zpf Zpj Zpe Zpi Zuw Zus Zur Zmw Zpg Zuv Zuu Zut Zph Zun Zuq Zum Zup Z0f Z0c Z0b Zuo Z0d Z0e Zli gone pop TK.isAgg Zu3 Zu7 Zu2 Zu6 Zpz Z01 Z0x Zu5 Z00 Z0z Z0y Zu4 Z0w G.under G.unders List.getD_cons_zero List.getD_cons_succ List.set_cons_zero List.set_cons_succ List.map_cons List.map_nil List.toList_toArray Array.toList_append Option.toArray_none Option.toArray_some Option.map_some Option.map_none Option.bind_some Option.bind_none List.getElem?_cons_zero List.getElem?_cons_succ List.getElem?_nil List.nil_append List.cons_append List.replicate_succ List.replicate_zero List.length_cons List.length_nil and_true true_and false_and Bool.true_eq_false Bool.false_eq_true forall_const implies_true IntKind.bits ite_true ite_false eq_self or_false decide_true decide_eq_true_eq decide_eq_false_iff_not ne_eq beq_self_eq_true bne_self_eq_false Option.some.injEq exists_eq_left' ge_iff_le gt_iff_lt Bool.not_true imp_self cond_true cond_false Yfd Yfc Bool.not_not Zaa Zc8 Zah Zwk Kg Q3 Option.join_some Nat.add_assoc Int.toNat_natCast eI eL Zbx Zjh Zik Zuk Zui Zuj Z60 Ya6 Zju Ziq Zvd Zvb Zvc Z0v Znh Zyr Zn1 Zx3 Zg2 List.length_append G.agg.injEq G.tup.injEq List.flatten_cons List.flatten_nil Nat.le_refl Zge K7 Zb3 Bool.not_eq_true' Bool.not_eq_false' Zwj Zj1 Z3p Z3k Z3o Yab Yot Zs3 Zts G.ren G.rens Zxl Zh3 Zvj Zt8 Zt9 Z62 G.fn.injEq Zmo Zsa Z3n Z3l Z0i Z78 Option.join_none X2 G5 undef Zl2 Arr.put_eq Zjt Zmz Zkv Zip Zva Zu8 Zu9 onB Z6z Zw0 Zxt Ybt Zmx Zp5 Zp4 Zp3 Zp2 Ya5 Ydq Z0u Zyf Zbb Z0j Zpk Z48 Ztu Zkf Zlu Ziu Zgk Zgx Ygu Z28 Ztb Z29 Ygv Z3a Z27 Z3b Ygw Z3c Ygx Z3d Ygy Z3e Ygz Z3f Z9h Zvm Z9i Zvn Z9j Zvo Z9k Zvp Z9l Zvq Z9m Zvr Z9n Zvs Z9o Zvt Z9p Zvu Z9q Zvv Z9r Zvw Zgd Zg0 Zzi Zk8 Z9s Zvx Zcc Zvy Z9t Zvz Z9u Zv0 Z9v Zv1 Z9w Zv2 Zn2 Zv3 Z9x Zv4 Z9y Zv5 Z9z Zv6 Z90 Zv7 Z91 Zr8 Z92 Zv8 Z93 Zv9 Za6 Zwa Z94 Zwb Z95 Zwc Zn3 Zwd Z96 Zwe Zh6 Zwf Z97 Zwg Zlg Zwh Z1m Zqn Z1n Zqo Z1o Zqp Z1p Zqq Z1q Zqr Z1r Zqs Z1s Zqt Z1t Zqu Z1u Zqv Z1v Zqw Z1w Zqx Z1x Zqy Z1y Zqz Z1z Zq0 Z10 Zq1 Z11 Zq2 Z12 Zq3 Z13 Zq4 Z14 Zq5 Z15 Zq6 Z16 Zq7 Z17 Zq8 Z18 Zq9 Zta Zmn Z19 Zra Z2a Zrb Z2b Zrc Z2c Zrd Z2d Zre Z2e Zrf Z2f Zrg Z2g Zrh Z2h Zri Z2i Zrj Z2j Zrk Z2k Zrl Z2l Zrm Z2m Zrn Z2n Zro Z2o Zrp Z2p Zrq Z2q Zrr Z2r Zrs Z2s Zrt Z2t Zru Z2u Zrv Z2v Zrw Z2w Zrx Z2x Zry Z2y Zrz Z2z Zr0 Z20 Zr1 Z21 Zr2 Z22 Zr3 Z23 Zr4 Z24 Zr5 Z25 Zr6 Z26 Zr7 Uf Zk9 Zoq Zc Ql Zdj Zez Zu Qv Zr Yg Qf Vb Zaz Zfd Zbc Ze5 Zh Zdo Zga
theorem Zt2 {a0:Zb} {r:(Za×Int)} {O:Objs} {n:Nat} (h:Gz a0=some r):GTo Tryz.prog 150 [.agg (Zk a0)] O n (.tup [.agg (Zg r.1),(vI r.2)]) O n:=by
 unfold Gz at h
 refine Uw Zs Tryz.call150 Tryz.func150 rfl fun hU hN0 hN => ?_
 show W _ _ _ _ ⟨10,[],[(0,.agg (Zk a0))]⟩ (Zx O n []) _
 refine zQ [1,2] ?_
 refine Zf ?_
 refine Gi [1,2,4] [true,true,true] ?_
 refine Zf ?_
 obtain ⟨y2,hy2,h⟩:=bC h
 refine zR ?_
 refine (Zi6 (i0:=(n+2)) (by omega) (by simp only [push_cast,seval,↓reduceIte,Zd,Zbx,hN0,hN] <;> rfl) hy2).then ?_
 refine zS ?_
 refine zD [2,3] [false,true,false] ?_
 refine zW ?_
 obtain rfl:=sI h
 refine Zl (.inr rfl) hU [.agg (Zg y2.1),(vI y2.2.1)] (by omega) ?_
 simp only [push_cast,seval,↓reduceIte,Zd,Tryz.results150,hN0,hN]
theorem Z0t {a0:Za} {a1:Int} {r:Int} {O:Objs} {n:Nat} (h:Zf3 a0 a1=some r):GTo Tryz.prog 99 [.agg (Zg a0),(vI a1)] O n (.val (.int .u64 r)) O n:=by
 unfold Zf3 at h
 refine Uw Zs Tryz.call99 Tryz.func99 rfl fun hU hN0 hN => ?_
 show W _ _ _ _ ⟨19,[],[(0,.agg (Zg a0)),(1,(vI a1))]⟩ (Zx O n []) _
 refine zQ [1,2] ?_
 refine Zf ?_
 refine zQD [1,2,13] [none,none,none,none,none] ?_
 refine Zo (t:=(cond (decide (a1 < 0)) true (decide ((a0.Words.length:Int)≤a1)))) rfl (fun c3 => ?_) (fun c3 => ?_)
 ·replace h:=Zq c3 h
  refine zQ [4] ?_
  refine zW ?_
  obtain rfl:=sI h
  refine Zl (.inr rfl) hU [.val (.int .u64 0)] (by omega) ?_
  simp only [push_cast,seval,↓reduceIte,Zd,Tryz.results99,hN0,hN]
 replace h:=Zp c3 h
 refine Xs [1,2] [true] ?_
 obtain ⟨x2,hx2,ax2,bx2,cx2,h⟩:=bE (f:=(eI .u64)) Za6 (fun _=>rfl) (by decide) h
 refine Zef [4] (Yr Zs [] ?_)
 refine zF3 ax2 bx2 cx2 ?_
 refine zW ?_
 obtain rfl:=sI h
 refine Zl (.inr rfl) hU [.val (.int .u64 x2)] (by omega) ?_
 simp only [push_cast,seval,↓reduceIte,Zd,Tryz.results99,hN0,hN]
theorem Z44 {a0:Za} {a1:Int} {r:Za} {O:Objs} {n:Nat} (h:Zhk a0 a1=some r):GTo Tryz.prog 100 [.agg (Zg a0),(vI a1)] O n (.agg (Zg r)) O n:=by
 unfold Zhk at h
 refine Uw Zs Tryz.call100 Tryz.func100 rfl fun hU hN0 hN => ?_
 show W _ _ _ _ ⟨20,[],[(0,.agg (Zg a0)),(1,(vI a1))]⟩ (Zx O n []) _
 refine zQ [1,2,4] ?_
 refine Zf ?_
 refine zQD [1,2,4,13] [none,none,none,none,none] ?_
 refine Zo (t:=(cond (decide (a1 < 0)) true (decide ((a0.Kids.length:Int)≤a1)))) rfl (fun c3 => ?_) (fun c3 => ?_)
 ·replace h:=Zq c3 h
  refine Zf ?_
  refine Gi [4] [false,true] ?_
  refine zW ?_
  obtain rfl:=sI h
  refine Zl (.inr rfl) hU [.agg [(vI 0),nV,nV]] (by omega) ?_
  simp only [push_cast,seval,↓reduceIte,Zd,Tryz.results100,hN0,hN]
 replace h:=Zp c3 h
 refine Xs [1,2,4] [true,true] ?_
 refine Zf ?_
 obtain ⟨x2,hx2,ax2,bx2,cx2,h⟩:=bE (f:=Zc) Zcc (fun _=>rfl) (by decide) h
 refine Zgu [] ax2 bx2 cx2 ?_
 refine zD [4] [false,true] ?_
 refine zW ?_
 obtain rfl:=sI h
 refine Zl (.inr rfl) hU [.agg (Zg x2)] (by omega) ?_
 simp only [push_cast,seval,↓reduceIte,Zd,Tryz.results100,hN0,hN]
def Zhp (Vp:(Zb→Za→Option (Bool×Int))):Prop:=∀ {a0:Zb} {a1:Za} {r:(Bool×Int)} {O:Objs} {n:Nat},Vp a0 a1=some r→GTo Tryz.prog 151 [.agg (Zk a0),.agg (Zg a1)] O n (.tup [(vB r.1),(vI r.2)]) O n
theorem Zpx {Vp:(Zb→Za→Option (Bool×Int))} (Zol:Zhp Vp) {a0:Zb} {a1:Za} {r:(Bool×Int)} {O:Objs} {n:Nat} (h:Zb6 Vp a0 a1=some r):GTo Tryz.prog 151 [.agg (Zk a0),.agg (Zg a1)] O n (.tup [(vB r.1),(vI r.2)]) O n:=by
 unfold Zb6 at h
 refine Uw Zs Tryz.call151 Tryz.func151 rfl fun hU hN0 hN => ?_
 show W _ _ _ _ ⟨88,[],[(0,.agg (Zk a0)),(1,.agg (Zg a1))]⟩ (Zx O n []) _
 refine zQ [2,3] ?_
 refine Zf ?_
 refine Zf ?_
 obtain ⟨y2,hy2,h⟩:=bC h
 refine Xl Zs (by kernel_rfl) [] (by kernel_rfl) ?_
 refine zS ?_
 refine PCall.of (Q0 hy2) ?_
 refine zS ?_
 refine zD [2,3,18] [true,true] ?_
 refine Zo (t:=(y2 != a1.Kind)) rfl (fun c31 => ?_) (fun c31 => ?_)
 ·replace h:=Zq c31 h
  refine zQ [4,5] ?_
  refine zW ?_
  obtain rfl:=sI h
  refine Zl (.inr rfl) hU [(vB false),(vI 0)] (by omega) ?_
  simp only [push_cast,seval,↓reduceIte,Zd,Tryz.results151,hN0,hN]
 replace h:=Zp c31 h
 refine Xs [2,3] [true,true] ?_
 refine Zf ?_
 obtain ⟨y5,hy5,h⟩:=bC h
 obtain ⟨y6,hy6,h⟩:=bC h
 refine Xl Zs (by kernel_rfl) [] (by kernel_rfl) ?_
 refine zS ?_
 refine PCall.of (U6 hy5) ?_
 refine zS ?_
 refine PCall.of (Xw hy6) ?_
 refine zS ?_
 refine zDs [2,3,6,7] [true,true] ?_
 refine Yh ?_
 refine zQ [2,3,6,7,31] ?_
 refine Zo (t:=(a1.Kind == 0)) rfl (fun c30 => ?_) (fun c30 => ?_)
 ·replace h:=Zq c30 h
  refine zQ [4,5] ?_
  refine zW ?_
  obtain rfl:=sI h
  refine Zl (.inr rfl) hU [(vB true),(vI 0)] (by omega) ?_
  simp only [push_cast,seval,↓reduceIte,Zd,Tryz.results151,hN0,hN]
 replace h:=Zp c30 h
 obtain ⟨z8,hz8,h⟩:=bC h
 refine Y1 (E':=⟨88,[],[(2,.ref n 0),(3,.ref (n+1) 0),(6,(vI (if y5 < (a1.Words.length:Int) then (a1.Words.length:Int) else y5))),(7,(vI (if y6 < (a1.Kids.length:Int) then (a1.Kids.length:Int) else y6))),(35,(vB z8))]⟩) (O':=(Zx O n [some ⟨false,62,9,1,(Zk a0)⟩,some ⟨false,25,3,1,(Zg a1)⟩])) (n0:=(n+2)) ?_ ?_
 ·rcases Bool.eq_false_or_eq_true (a1.Kind != 1) with Jz | Jz
  ·replace hz8:=Zq Jz hz8
   obtain ⟨y10,hy10,hz8⟩:=bC hz8
   refine Xl Zs (by kernel_rfl) (Z40 []) (by kernel_rfl) ?_
   refine zX1 Jz ?_
   refine PCall.of (Xw hy10) ?_
   refine zX1 Jz ?_
   exact Ju hz8 Jz
  replace hz8:=Zp Jz hz8
  refine Xl Zs (by kernel_rfl) (Z4y []) (by kernel_rfl) ?_
  refine zX1 Jz ?_
  exact Ju hz8 Jz
 refine Zo (t:=z8) rfl (fun c29 => ?_) (fun c29 => ?_)
 ·replace h:=Zq c29 h
  refine zQ [4,5] ?_
  refine zW ?_
  obtain rfl:=sI h
  refine Zl (.inr rfl) hU [(vB false),(vI 0)] (by omega) ?_
  simp only [push_cast,seval,↓reduceIte,Zd,Tryz.results151,hN0,hN]
 replace h:=Zp c29 h
 refine Xs [2,3,6,7] [true,true] ?_
 refine Zf ?_
 refine zQd [2,3,7,47,48] [2,3,7,47,48] [true,true] ?_
 obtain ⟨z18,hz18,h⟩:=bC h
 refine Ut (J:=(Xg (fun z18=>JR n (⟨88,[],[(4,(vB false)),(5,(vI 0))]⟩:Env) (Zx O n [none,none]) (n+2)) (fun z18=>JX 1 n (⟨88,[],[(2,.ref n 0),(3,.ref (n+1) 0),(7,(vI (if y6 < (a1.Kids.length:Int) then (a1.Kids.length:Int) else y6)))]⟩:Env) (Zx O n [some ⟨false,62,9,1,(Zk a0)⟩,some ⟨false,25,3,1,(Zg a1)⟩]) (n+2)))) (z:=z18) ?_ fun hw => ?_
 ·refine Xd hz18 (fun s0_=>⟨88,[],[(2,.ref n 0),(3,.ref (n+1) 0),(7,(vI (if y6 < (a1.Kids.length:Int) then (a1.Kids.length:Int) else y6))),(47,(vI (if y5 < (a1.Words.length:Int) then (a1.Words.length:Int) else y5))),(48,(vI s0_))]⟩) (fun s0_=>(Zx O n [some ⟨false,62,9,1,(Zk a0)⟩,some ⟨false,25,3,1,(Zg a1)⟩])) (Xg (fun z18=>JR n (⟨88,[],[(4,(vB false)),(5,(vI 0))]⟩:Env) (Zx O n [none,none]) (n+2)) (fun z18=>JX 1 n (⟨88,[],[(2,.ref n 0),(3,.ref (n+1) 0),(7,(vI (if y6 < (a1.Kids.length:Int) then (a1.Kids.length:Int) else y6)))]⟩:Env) (Zx O n [some ⟨false,62,9,1,(Zk a0)⟩,some ⟨false,25,3,1,(Zg a1)⟩]) (n+2))) ?_
  intro s0_ x0_ hs0_
  unfold Gn at hs0_
  try dsimp only
  refine zQ [2,3,7,47,48,49] ?_
  refine Zf ?_
  refine Zo (t:=(decide (s0_ < (if y5 < (a1.Words.length:Int) then (a1.Words.length:Int) else y5)))) rfl (fun c17 => ?_) (fun c17 => ?_)
  ·replace hs0_:=Zq c17 hs0_
   refine Xs [2,3,7,47,48] [true,true] ?_
   refine Zf ?_
   refine Yh ?_
   refine zQ [2,3,7,8,47,48] ?_
   refine Zf ?_
   obtain ⟨y14,hy14,hs0_⟩:=bC hs0_
   obtain ⟨y15,hy15,hs0_⟩:=bC hs0_
   refine Xl Zs (by kernel_rfl) [] (by kernel_rfl) ?_
   refine zS ?_
   refine PCall.of (V5 hy14) ?_
   refine zS ?_
   refine PCall.of (Z0t hy15) ?_
   refine zS ?_
   refine zD [2,3,7,47,48,57] [true,true] ?_
   refine Zo (t:=(y14 != y15)) rfl (fun c16 => ?_) (fun c16 => ?_)
   ·replace hs0_:=Zq c16 hs0_
    refine zQ [4,5] ?_
    refine zW ?_
    exact zEy hs0_
   replace hs0_:=Zp c16 hs0_
   refine Xs [2,3,7,47,48] [true,true] ?_
   refine zR ?_
   exact Vh hs0_
  replace hs0_:=Zp c17 hs0_
  exact zEx hs0_
 rcases z18 with z18 | z18
 ·dsimp only [Xg] at hw h
  refine Q1 hw ?_
  try simp only [Yv,Z9,↓reduceIte,Nat.reduceEqDiff]
  obtain rfl:=sI h
  refine Zl (.inr rfl) hU [(vB false),(vI 0)] (by omega) ?_
  simp only [push_cast,seval,↓reduceIte,Zd,Tryz.results151,hN0,hN]
 dsimp only [Xg] at hw h
 refine Yn hw ?_
 try simp only [Yv,Z9,↓reduceIte,Nat.reduceEqDiff]
 refine zDs [2,3,7] [true,true] ?_
 refine zQd [2,3,59,60] [2,3,59,60] [true,true] ?_
 obtain ⟨z28,hz28,h⟩:=bC h
 refine Ut (J:=(Xg (fun z28=>JR n (⟨88,[],[(4,(vB false)),(5,(vI z28))]⟩:Env) (Zx O n [none,none]) (n+2)) (fun z28=>JX 3 n (⟨88,[],[]⟩:Env) (Zx O n [none,none]) (n+2)))) (z:=z28) ?_ fun hw => ?_
 ·refine Xd hz28 (fun s1_=>⟨88,[],[(2,.ref n 0),(3,.ref (n+1) 0),(59,(vI (if y6 < (a1.Kids.length:Int) then (a1.Kids.length:Int) else y6))),(60,(vI s1_))]⟩) (fun s1_=>(Zx O n [some ⟨false,62,9,1,(Zk a0)⟩,some ⟨false,25,3,1,(Zg a1)⟩])) (Xg (fun z28=>JR n (⟨88,[],[(4,(vB false)),(5,(vI z28))]⟩:Env) (Zx O n [none,none]) (n+2)) (fun z28=>JX 3 n (⟨88,[],[]⟩:Env) (Zx O n [none,none]) (n+2))) ?_
  intro s1_ x1_ hs1_
  unfold Gp at hs1_
  try dsimp only
  refine zQ [2,3,59,60,61] ?_
  refine Zf ?_
  refine Zo (t:=(decide (s1_ < (if y6 < (a1.Kids.length:Int) then (a1.Kids.length:Int) else y6)))) rfl (fun c27 => ?_) (fun c27 => ?_)
  ·replace hs1_:=Zq c27 hs1_
   refine Xs [2,3,59,60] [true,true] ?_
   refine Zf ?_
   refine Yh ?_
   refine zQ [2,3,9,59,60] ?_
   refine Zf ?_
   obtain ⟨y20,hy20,hs1_⟩:=bC hs1_
   refine zCd (Zck hy20) [2,3,9,10,11,59,60] [true,true,true] ?_
   refine Zf ?_
   refine zQ [2,3,9,10,11,59,60,70] ?_
   refine Zo (t:=(y20.2 != 0)) rfl (fun c26 => ?_) (fun c26 => ?_)
   ·replace hs1_:=Zq c26 hs1_
    refine zQ [4,5] ?_
    refine zW ?_
    exact zEy hs1_
   replace hs1_:=Zp c26 hs1_
   refine Xs [2,3,9,10,59,60] [true,true,true] ?_
   refine Zf ?_
   obtain ⟨y23,hy23,hs1_⟩:=bC hs1_
   obtain ⟨y24,hy24,hs1_⟩:=bC hs1_
   refine Xl Zs (by kernel_rfl) [] (by kernel_rfl) ?_
   refine zS ?_
   refine PCall.of (Z44 hy23) ?_
   refine zS ?_
   refine PCall.of (Zol hy24) ?_
   refine zS ?_
   refine zD [2,3,12,13,59,60] [true,true,false] ?_
   refine zQD [2,3,13,59,60,85] [none,none] ?_
   refine Zo (t:=(cond (!y24.1) true (y24.2 != 0))) rfl (fun c25 => ?_) (fun c25 => ?_)
   ·replace hs1_:=Zq c25 hs1_
    refine zQ [4,5] ?_
    refine zW ?_
    exact zEy hs1_
   replace hs1_:=Zp c25 hs1_
   refine Xs [2,3,59,60] [true,true,false] ?_
   refine zR ?_
   exact Vh hs1_
  replace hs1_:=Zp c27 hs1_
  exact zEx hs1_
 rcases z28 with z28 | z28
 ·dsimp only [Xg] at hw h
  refine Q1 hw ?_
  try simp only [Yv,Z9,↓reduceIte,Nat.reduceEqDiff]
  obtain rfl:=sI h
  refine Zl (.inr rfl) hU [(vB false),(vI z28)] (by omega) ?_
  simp only [push_cast,seval,↓reduceIte,Zd,Tryz.results151,hN0,hN]
 dsimp only [Xg] at hw h
 refine Yn hw ?_
 try simp only [Yv,Z9,↓reduceIte,Nat.reduceEqDiff]
 refine zD [] [false,false] ?_
 refine zQ [4,5] ?_
 refine zW ?_
 obtain rfl:=sI h
 refine Zl (.inr rfl) hU [(vB true),(vI 0)] (by omega) ?_
 simp only [push_cast,seval,↓reduceIte,Zd,Tryz.results151,hN0,hN]
theorem Znj:∀ k,(Zhp (Ge k)):=fun k=>by
 induction k with
 | zero=>exact @fun a0 a1 r O n h=>(nomatch (show (none:Option _)=some _ from h))
 | succ k ih=>exact @fun a0 a1 r O n h=>Zpx (ih)  h
theorem Zjp {a0:Zb} {a1:Za} {r:(Bool×Int)} {O:Objs} {n:Nat} (h:Zdy a0 a1=some r):GTo Tryz.prog 151 [.agg (Zk a0),.agg (Zg a1)] O n (.tup [(vB r.1),(vI r.2)]) O n:=by
 obtain ⟨k,hk⟩:=Zbg h
 exact (Znj k)  hk
theorem Z0q {a0:Zb} {r:Int} {O:Objs} {n:Nat} (h:Zf1 a0=some r):GTo Tryz.prog 200 [.agg (Zk a0)] O n ((vI r)) O n:=by
 unfold Zf1 at h
 refine Uw Zs Tryz.call200 Tryz.func200 rfl fun hU hN0 hN => ?_
 show W _ _ _ _ ⟨18,[],[(0,.agg (Zk a0))]⟩ (Zx O n []) _
 refine zQ [1] ?_
 refine Zf ?_
 obtain ⟨y2,hy2,h⟩:=bC h
 refine zCd (U6 hy2) [1,3] [true] ?_
 refine Zf ?_
 refine zD [1,3] [true] ?_
 obtain ⟨z9,hz9,h⟩:=bC h
 refine Yn (E':=⟨18,[],[(3,(vI z9))]⟩) (O':=(Zx O n [none])) (n0:=(n+1)) ?_ ?_
 ·refine Xd hz9 (fun s0_=>⟨18,[],[(1,.ref n 0),(3,(vI s0_))]⟩) (fun s0_=>(Zx O n [some ⟨false,62,9,1,(Zk a0)⟩])) (fun z9=>JX 0 n (⟨18,[],[(3,(vI z9))]⟩:Env) (Zx O n [none]) (n+1)) ?_
  intro s0_ x0_ hs0_
  unfold Zcu at hs0_
  try dsimp only
  refine Zf ?_
  obtain ⟨z4,hz4,hs0_⟩:=bC hs0_
  refine Y1 (E':=⟨18,[],[(1,.ref n 0),(3,(vI s0_)),(14,(vB z4))]⟩) (O':=(Zx O n [some ⟨false,62,9,1,(Zk a0)⟩])) (n0:=(n+1)) ?_ ?_
  ·rcases Bool.eq_false_or_eq_true (decide (0 < s0_)) with c7 | c7
   ·replace hz4:=Zq c7 hz4
    obtain ⟨y6,hy6,hz4⟩:=bC hz4
    refine Vi (Yjz []) c7 ?_
    refine (V5 hy6).then ?_
    refine zX1 c7 ?_
    exact Ju hz4 c7
   replace hz4:=Zp c7 hz4
   refine Vi (Yf3 []) c7 ?_
   exact Ju hz4 c7
  refine Zo (t:=z4) rfl (fun c8 => ?_) (fun c8 => ?_)
  ·replace hs0_:=Zq c8 hs0_
   refine Xs [1,3] [true] ?_
   refine Yh ?_
   refine zR ?_
   exact Vh hs0_
  replace hs0_:=Zp c8 hs0_
  exact zEx hs0_
 try simp only [Yv,Z9,↓reduceIte,Nat.reduceEqDiff]
 refine zD [3] [false] ?_
 refine zQ [2] ?_
 refine zW ?_
 obtain rfl:=sI h
 refine Zl (.inr rfl) hU [(vI z9)] (by omega) ?_
 simp only [push_cast,seval,↓reduceIte,Zd,Tryz.results200,hN0,hN]
theorem Zpv {a0:Int} {r:Int} {O:Objs} {n:Nat} (h:Zcy a0=some r):GTo Tryz.prog 229 [.val (.int .u8 a0)] O n (.val (.int .u64 r)) O n:=by
 unfold Zcy at h
 refine Uw Zs Tryz.call229 Tryz.func229 rfl fun hU hN0 hN => ?_
 show W _ _ _ _ ⟨20,[],[(0,.val (.int .u8 a0))]⟩ (Zx O n []) _
 refine zQ [0] ?_
 refine zQ [0,3] ?_
 refine Zf ?_
 refine zQd [0,3,5] [0,3,5] [] ?_
 obtain ⟨z7,hz7,h⟩:=bC h
 refine Yn (E':=⟨20,[],[(3,.val (.int .u64 z7))]⟩) (O':=(Zx O n [])) (n0:=n) ?_ ?_
 ·refine Xd hz7 (fun s0_=>⟨20,[],[(0,.val (.int .u8 a0)),(3,.val (.int .u64 s0_.1)),(5,(vI s0_.2))]⟩) (fun s0_=>(Zx O n [])) (fun z7=>JX 0 n (⟨20,[],[(3,.val (.int .u64 z7))]⟩:Env) (Zx O n []) n) ?_
  intro s0_ x0_ hs0_
  unfold Zcz at hs0_
  try dsimp only
  refine zQ [0,3,5,6] ?_
  refine Zf ?_
  refine Zo (t:=(decide (s0_.2 < 8))) rfl (fun c6 => ?_) (fun c6 => ?_)
  ·replace hs0_:=Zq c6 hs0_
   refine Xs [0,3,5] [] ?_
   obtain ⟨z1,hz1,hs0_⟩:=bC hs0_
   refine Y1 (E':=⟨20,[],[(0,.val (.int .u8 a0)),(3,.val (.int .u64 z1)),(5,(vI s0_.2))]⟩) (O':=(Zx O n [])) (n0:=n) ?_ ?_
   ·refine Yh ?_
    refine zQ [0,3,4,5] ?_
    obtain ⟨pu3,hz1⟩:=bG hz1
    refine Zef [0,3,4,5,12] (Yr Zs [] ?_)
    simp only [push_cast,seval,↓reduceIte,Zd,pu3,hN0,hN]
    refine Zo (t:=((IntKind.u8.wrap (Uz .u8 (Int.fdiv a0 (2 ^ min (Int.toNat s0_.2) 8)) 1)) == 1)) rfl (fun c5 => ?_) (fun c5 => ?_)
    ·replace hz1:=Zq c5 hz1
     obtain ⟨pu4,hz1⟩:=bG hz1
     refine Yr Zs [] ?_
     simp only [push_cast,seval,↓reduceIte,Zd,pu4,hN0,hN]
     obtain rfl:=sI hz1
     refine And.intro rfl (Fit2.of (Y0 hU rfl rfl ?_) (by omega))
     simp only [push_cast,seval,↓reduceIte,Zd,pu4,hN0,hN]
    replace hz1:=Zp c5 hz1
    refine zK ?_
    exact Vh hz1
   refine zR ?_
   exact Vh hs0_
  replace hs0_:=Zp c6 hs0_
  exact zEx hs0_
 try simp only [Yv,Z9,↓reduceIte,Nat.reduceEqDiff]
 refine zD [3] [] ?_
 refine zQ [2] ?_
 refine zW ?_
 obtain rfl:=sI h
 refine Zl (.inr rfl) hU [.val (.int .u64 z7)] (by omega) ?_
 simp only [push_cast,seval,↓reduceIte,Zd,Tryz.results229,hN0,hN]
theorem Z46 {a0:Int} {a1:Int} {a2:Int} {r:Int} {O:Objs} {n:Nat} (h:Zfi a0 a1 a2=some r):GTo Tryz.prog 274 [.val (.int .u64 a0),.val (.int .u64 a1),.val (.int .u8 a2)] O n (.val (.int .u64 r)) O n:=by
 unfold Zfi at h
 refine Uw Zs Tryz.call274 Tryz.func274 rfl fun hU hN0 hN => ?_
 show W _ _ _ _ ⟨17,[],[(0,.val (.int .u64 a0)),(1,.val (.int .u64 a1)),(2,.val (.int .u8 a2))]⟩ (Zx O n []) _
 refine zQ [0,1,2] ?_
 refine Zf ?_
 obtain ⟨y2,hy2,h⟩:=bC h
 refine zCd (Zpv hy2) [0,1,7] [] ?_
 refine zQ [6] ?_
 refine zW ?_
 obtain rfl:=sI h
 refine Zl (.inr rfl) hU [.val (.int .u64 (IntKind.u64.wrap (Zxc .u64 (IntKind.u64.wrap (Zyy .u64 a0 y2)) (IntKind.u64.wrap (Uz .u64 a1 y2)))))] (by omega) ?_
 simp only [push_cast,seval,↓reduceIte,Zd,Tryz.results274,hN0,hN]
theorem Zkp {a0:(List Zy)} {a1:Zb} {r:((List Int)×Int)} {O:Objs} {n:Nat} (h:Vw a0 a1=some r):GTo Tryz.prog 225 [(sL Zu a0),.agg (Zk a1)] O n (.tup [(sL (eI .u64) r.1),(vI r.2)]) O n:=by
 unfold Vw at h
 refine Uw Zs Tryz.call225 Tryz.func225 rfl fun hU hN0 hN => ?_
 show W _ _ _ _ ⟨82,[],[(0,(sL Zu a0)),(1,.agg (Zk a1))]⟩ (Zx O n []) _
 refine zQ [0,3] ?_
 refine zQ [0,3,6] ?_
 refine Zf ?_
 refine Zf ?_
 obtain ⟨y2,hy2,h⟩:=bC h
 refine zCd (Z0q hy2) [0,3,6,12,13] [true] ?_
 refine zD [0,3,6,12,13] [true] ?_
 refine Zcf (E':=(⟨82,[],[(0,(sL Zu a0)),(3,.ref n 0),(6,.row (n+1) ([]:List Int).length),(12,(vI y2)),(13,(vI 0))]⟩:Env)) (O':=(Zx O n [some ⟨false,62,9,1,(Zk a1)⟩,some (oR 77 1 (eI .u64) ([]:List Int)),none])) (n':=(n+3)) ?_ ?_
 ·refine Fit2.trans (E':=(⟨82,[],[(0,(sL Zu a0)),(3,.ref n 0),(6,nV),(12,(vI y2)),(13,(vI 0))]⟩:Env)) (O':=(Zx O n [some ⟨false,62,9,1,(Zk a1)⟩])) (n':=(n+1)) (Fit2.of (Y0 hU rfl rfl ?_) (by omega)) ?_
  ·exact zSe
  refine Fit2.trans (Zmq 6 77 1 rfl (by omega)) ?_
  simp only [Kg,Q3,Zah,List.set_cons_zero,List.set_cons_succ,List.cons_append,List.nil_append,List.length_cons,List.length_nil,Nat.zero_add,Nat.reduceAdd,Nat.reduceLT,Nat.add_assoc]
  refine Fit2.trans (E':=(⟨82,[],[(0,(sL Zu a0)),(3,.ref n 0),(6,.row (n+1) ([]:List Int).length),(12,(vI y2)),(13,(vI 0))]⟩:Env)) (O':=(Zx O n [some ⟨false,62,9,1,(Zk a1)⟩,some (oR 77 1 (eI .u64) ([]:List Int))])) (n':=(n+2)) (Fit2.of (Y0 hU rfl rfl ?_) (by omega)) ?_
  ·exact zSe
  refine Zcm (k:=2) (k':=3) hU [0,1] [0,1,0] rfl rfl rfl rfl ⟨rfl,rfl⟩ ?_
  exact zSe
 obtain ⟨z6,hz6,h⟩:=bC h
 refine Yn (E':=⟨82,[],[(0,(sL Zu a0)),(3,.ref n 0),(6,.row (n+1) z6.length)]⟩) (O':=(Zx O n [some ⟨false,62,9,1,(Zk a1)⟩,some (oR 77 1 (eI .u64) z6),none])) (n0:=(n+3)) ?_ ?_
 ·refine Xd hz6 (fun s0_=>⟨82,[],[(0,(sL Zu a0)),(3,.ref n 0),(6,.row (n+1) s0_.2.length),(12,(vI y2)),(13,(vI s0_.1))]⟩) (fun s0_=>(Zx O n [some ⟨false,62,9,1,(Zk a1)⟩,some (oR 77 1 (eI .u64) s0_.2),none])) (fun z6=>JX 0 n (⟨82,[],[(0,(sL Zu a0)),(3,.ref n 0),(6,.row (n+1) z6.length)]⟩:Env) (Zx O n [some ⟨false,62,9,1,(Zk a1)⟩,some (oR 77 1 (eI .u64) z6),none]) (n+3)) ?_
  intro s0_ x0_ hs0_
  unfold Ki at hs0_
  try dsimp only
  refine zQ [0,3,6,12,13,14] ?_
  refine Zf ?_
  refine Zo (t:=(decide (s0_.1 < y2))) rfl (fun c5 => ?_) (fun c5 => ?_)
  ·replace hs0_:=Zq c5 hs0_
   refine Xs [0,3,6,12,13] [true,true,false] ?_
   refine Zf ?_
   refine Yh ?_
   refine zQ [0,3,6,7,12,13] ?_
   obtain ⟨y3,hy3,hs0_⟩:=bC hs0_
   obtain ⟨l4,pl4,ql4,el4,hs0_⟩:=bA (k:=1) rfl hs0_
   refine Za0 [] pl4 ql4 el4 ?_
   refine (V5 hy3).then ?_
   refine zX3 pl4 ql4 el4 ?_
   refine Za5 ⟨82,[],[(0,(sL Zu a0)),(3,.ref n 0),(6,.row (n+1) l4.length),(12,(vI y2)),(13,(vI s0_.1))]⟩ (Zx O n [some ⟨false,62,9,1,(Zk a1)⟩,some (oR 77 1 (eI .u64) l4),none,none]) (Y0 hU rfl rfl ?_) ?_
   ·exact Zt5 pl4 ql4 el4
   refine zR ?_
   exact Vh hs0_
  replace hs0_:=Zp c5 hs0_
  exact zEx hs0_
 try simp only [Yv,Z9,↓reduceIte,Nat.reduceEqDiff]
 refine zDs [0,3,6] [true,true,false] ?_
 refine zQd [3,6,23,24,25] [3,6,23,24,25] [true,true,false] ?_
 obtain ⟨z28,hz28,h⟩:=bC h
 refine Ut (J:=(Xg (fun z28=>JR n (⟨82,[],[(4,nV),(5,(vI 13))]⟩:Env) (Zx O n [none,none,none]) (n+3)) (fun z28=>JX 2 n (⟨82,[],[(6,.row (n+1) z28.length)]⟩:Env) (Zx O n [none,some (oR 77 1 (eI .u64) z28),none]) (n+3)))) (z:=z28) ?_ fun hw => ?_
 ·refine Xd hz28 (fun s1_=>⟨82,[],[(3,.ref n 0),(6,.row (n+1) s1_.2.length),(23,(sL Zu a0)),(24,(vI (a0.length:Int))),(25,(vI s1_.1))]⟩) (fun s1_=>(Zx O n [some ⟨false,62,9,1,(Zk a1)⟩,some (oR 77 1 (eI .u64) s1_.2),none])) (Xg (fun z28=>JR n (⟨82,[],[(4,nV),(5,(vI 13))]⟩:Env) (Zx O n [none,none,none]) (n+3)) (fun z28=>JX 2 n (⟨82,[],[(6,.row (n+1) z28.length)]⟩:Env) (Zx O n [none,some (oR 77 1 (eI .u64) z28),none]) (n+3))) ?_
  intro s1_ x1_ hs1_
  unfold X8 at hs1_
  try dsimp only
  refine zQ [3,6,23,24,25,26] ?_
  refine Zf ?_
  refine Zo (t:=(decide (s1_.1 < (a0.length:Int)))) rfl (fun c27 => ?_) (fun c27 => ?_)
  ·replace hs1_:=Zq c27 hs1_
   refine Xs [3,6,23,24,25] [true,true,false] ?_
   obtain ⟨z7,hz7,hs1_⟩:=bC hs1_
   refine Ztk (J:=(Xg (fun z7=>JN n (⟨82,[],[(3,.ref n 0),(6,.row (n+1) z7.length),(23,(sL Zu a0)),(24,(vI (a0.length:Int))),(25,(vI s1_.1))]⟩:Env) (Zx O n [some ⟨false,62,9,1,(Zk a1)⟩,some (oR 77 1 (eI .u64) z7),none,none]) (n+4)) (fun z7=>JR n (⟨82,[],[(4,nV),(5,(vI 13))]⟩:Env) (Zx O n [none,none,none]) (n+3)))) (z:=z7) ?_ fun hw => ?_
   ·refine Yh ?_
    refine Zf ?_
    obtain ⟨x9,hx9,ax9,bx9,cx9,hz7⟩:=bE (f:=Zu) Zn3 (fun _=>rfl) (by decide) hz7
    refine Zgu [] ax9 bx9 cx9 ?_
    refine zDs [3,6,9,23,24,25] [true,true,false,true] ?_
    obtain ⟨y11,hy11,hz7⟩:=bC hz7
    refine zCd (V5 hy11) [3,6,9,10,23,24,25] [true,true,false,true] ?_
    refine Zf ?_
    obtain ⟨z13,hz13,hz7⟩:=bC hz7
    refine Y1 (E':=⟨82,[],[(3,.ref n 0),(6,.row (n+1) s1_.2.length),(9,.ref (n+3) 0),(10,.val (.int .u64 y11)),(23,(sL Zu a0)),(24,(vI (a0.length:Int))),(25,(vI s1_.1)),(51,(vB z13))]⟩) (O':=(Zx O n [some ⟨false,62,9,1,(Zk a1)⟩,some (oR 77 1 (eI .u64) s1_.2),none,some ⟨false,84,4,1,(Jv x9)⟩])) (n0:=(n+4)) ?_ ?_
    ·rcases Bool.eq_false_or_eq_true (decide (x9.At < 0)) with c16 | c16
     ·replace hz13:=Zq c16 hz13
      refine Xl Zs (by kernel_rfl) (Yjy (Z0n [])) (by kernel_rfl) ?_
      refine zX1 c16 ?_
      refine zG ?_
      exact Ju hz13 c16
     replace hz13:=Zp c16 hz13
     rcases Bool.eq_false_or_eq_true (decide (65534 < x9.At)) with c17 | c17
     ·replace hz13:=Zq c17 hz13
      try rw [c17] at c16
      refine Xl Zs (by kernel_rfl) (Yjy (Z0n [])) (by kernel_rfl) ?_
      refine zX2 c16 c17 ?_
      refine zG ?_
      exact Zgf hz13 c16 c17
     replace hz13:=Zp c17 hz13
     try rw [c17] at c16
     obtain ⟨y15,hy15,hz13⟩:=bC hz13
     refine Xl Zs (by kernel_rfl) (Yjy (Ydo [])) (by kernel_rfl) ?_
     refine zX2 c16 c17 ?_
     refine zG ?_
     refine PCall.of (Zpv hy15) ?_
     refine zX2 c16 c17 ?_
     refine zG ?_
     exact Zgf hz13 c16 c17
    refine Zo (t:=z13) rfl (fun c26 => ?_) (fun c26 => ?_)
    ·replace hz7:=Zq c26 hz7
     refine zQ [4,5] ?_
     refine zW ?_
     exact Vh hz7
    replace hz7:=Zp c26 hz7
    refine Xs [3,6,9,10,23,24,25] [true,true,false,true] ?_
    refine Zf ?_
    obtain ⟨y19,hy19,hz7⟩:=bC hz7
    refine zCd (Z46 hy19) [3,6,9,10,23,24,25] [true,true,false,true] ?_
    refine Zf ?_
    refine zD [3,6,9,10,23,24,25] [true,true,false,true] ?_
    obtain ⟨z22,hz22,hz7⟩:=bC hz7
    refine Yn (E':=⟨82,[],[(3,.ref n 0),(6,.row (n+1) z22.length),(9,.ref (n+3) 0),(10,.val (.int .u64 y19)),(23,(sL Zu a0)),(24,(vI (a0.length:Int))),(25,(vI s1_.1))]⟩) (O':=(Zx O n [some ⟨false,62,9,1,(Zk a1)⟩,some (oR 77 1 (eI .u64) z22),none,some ⟨false,84,4,1,(Jv x9)⟩])) (n0:=(n+4)) ?_ ?_
    ·refine Xd hz22 (fun s2_=>⟨82,[],[(3,.ref n 0),(6,.row (n+1) s2_.length),(9,.ref (n+3) 0),(10,.val (.int .u64 y19)),(23,(sL Zu a0)),(24,(vI (a0.length:Int))),(25,(vI s1_.1))]⟩) (fun s2_=>(Zx O n [some ⟨false,62,9,1,(Zk a1)⟩,some (oR 77 1 (eI .u64) s2_),none,some ⟨false,84,4,1,(Jv x9)⟩])) (fun z22=>JX 4 n (⟨82,[],[(3,.ref n 0),(6,.row (n+1) z22.length),(9,.ref (n+3) 0),(10,.val (.int .u64 y19)),(23,(sL Zu a0)),(24,(vI (a0.length:Int))),(25,(vI s1_.1))]⟩:Env) (Zx O n [some ⟨false,62,9,1,(Zk a1)⟩,some (oR 77 1 (eI .u64) z22),none,some ⟨false,84,4,1,(Jv x9)⟩]) (n+4)) ?_
     intro s2_ x2_ hs2_
     unfold Q5 at hs2_
     try dsimp only
     refine Zf ?_
     refine zQD [3,6,9,10,23,24,25,66] [none,none] ?_
     refine Zo (t:=(cond (decide ((s2_.length:Int)≤x9.At)) (y19 != 0) false)) rfl (fun c21 => ?_) (fun c21 => ?_)
     ·replace hs2_:=Zq c21 hs2_
      refine Xs [3,6,9,10,23,24,25] [true,true,false,true] ?_
      refine Yh ?_
      obtain ⟨l20,pl20,ql20,el20,hs2_⟩:=bA (k:=1) rfl hs2_
      refine Za0 [] pl20 ql20 el20 ?_
      exact Ze6 hs2_ pl20 ql20 el20
     replace hs2_:=Zp c21 hs2_
     exact zEx hs2_
    try simp only [Yv,Z9,↓reduceIte,Nat.reduceEqDiff]
    refine zD [3,6,9,10,23,24,25] [true,true,false,true] ?_
    refine zQ [3,6,9,10,23,24,25,74] ?_
    refine Zo (t:=(decide (x9.At < (z22.length:Int)))) rfl (fun c25 => ?_) (fun c25 => ?_)
    ·replace hz7:=Zq c25 hz7
     obtain ⟨x23,hx23,ax23,bx23,cx23,hz7⟩:=bE (f:=(eI .u64)) Za6 (fun _=>rfl) (by decide) hz7
     have gu24:Ga (fl (eI .u64) z22) [.val (.int .u64 y19)] (Int.toNat x9.At * 1)=some (fl (eI .u64) (Zic z22 x9.At y19)):=Zji (f:=(eI .u64)) (ti:=⟨.bool,1,0,[],false⟩) (x:=y19) (fun _=>rfl) (Zem hx23)
     refine Zj4 [] ax23 bx23 cx23 gu24 ?_
     exact Zx2 hz7 ax23 bx23 cx23 gu24
    replace hz7:=Zp c25 hz7
    refine zK ?_
    exact Vh hz7
   rcases z7 with z7 | z7
   ·dsimp only [Xg] at hw hs1_
    refine Y1 hw ?_
    refine zR ?_
    exact Vh hs1_
   dsimp only [Xg] at hw hs1_
   refine Zlr hw ?_
   try simp only [Yv,Z9]
   exact zEy hs1_
  replace hs1_:=Zp c27 hs1_
  exact zEx hs1_
 rcases z28 with z28 | z28
 ·dsimp only [Xg] at hw h
  refine Q1 hw ?_
  try simp only [Yv,Z9,↓reduceIte,Nat.reduceEqDiff]
  obtain rfl:=sI h
  refine Zl (.inr rfl) hU [nV,(vI 13)] (by omega) ?_
  simp only [push_cast,seval,↓reduceIte,Zd,Tryz.results225,hN0,hN]
 dsimp only [Xg] at hw h
 refine Yn hw ?_
 try simp only [Yv,Z9,↓reduceIte,Nat.reduceEqDiff]
 refine zD [6] [false,true,false] ?_
 refine zQ [4,5] ?_
 refine zW ?_
 obtain rfl:=sI h
 refine Zl (.inr rfl) hU [.row (n+1) z28.length,(vI 0)] (by omega) ?_
 simp only [push_cast,seval,↓reduceIte,Zd,Tryz.results225,hN0,hN]
theorem Zjo {a0:Int} {r:Bool} {O:Objs} {n:Nat} (h:Zad a0=some r):GTo Tryz.prog 328 [(vI a0)] O n ((vB r)) O n:=by
 unfold Zad at h
 refine Uw Zs Tryz.call328 Tryz.func328 rfl fun hU hN0 hN => ?_
 show W _ _ _ _ ⟨6,[],[(0,(vI a0))]⟩ (Zx O n []) _
 refine zQ [0] ?_
 refine zQ [2] ?_
 refine zW ?_
 obtain rfl:=sI h
 refine Zl (.inr rfl) hU [(vB (a0 != a0))] (by omega) ?_
 simp only [push_cast,seval,↓reduceIte,Zd,Tryz.results328,hN0,hN]
theorem Zok {a0:Int} {a1:Int} {r:Int} {O:Objs} {n:Nat} (h:Zau a0 a1=some r):GTo Tryz.prog 310 [(vI a0),(vI a1)] O n ((vI r)) O n:=by
 unfold Zau at h
 refine Uw Zs Tryz.call310 Tryz.func310 rfl fun hU hN0 hN => ?_
 show W _ _ _ _ ⟨20,[],[(0,(vI a0)),(1,(vI a1))]⟩ (Zx O n []) _
 refine zQ [0,1] ?_
 refine Zf ?_
 obtain ⟨y2,hy2,h⟩:=bC h
 refine zCd (Zjo hy2) [0,1,5] [] ?_
 refine Zf ?_
 obtain ⟨y4,hy4,h⟩:=bC h
 refine zCd (Zjo hy4) [0,1,5,6] [] ?_
 refine Zf ?_
 refine zQ [0,1,6,11] ?_
 refine Zo (t:=y2) rfl (fun c9 => ?_) (fun c9 => ?_)
 ·replace h:=Zq c9 h
  refine Zf ?_
  refine zQ [12] ?_
  refine Zo (t:=y4) rfl (fun c5 => ?_) (fun c5 => ?_)
  ·replace h:=Zq c5 h
   refine zQ [4] ?_
   refine zW ?_
   obtain rfl:=sI h
   refine Zl (.inr rfl) hU [(vI 0)] (by omega) ?_
   simp only [push_cast,seval,↓reduceIte,Zd,Tryz.results310,hN0,hN]
  replace h:=Zp c5 h
  refine Xs [] [] ?_
  refine zQ [4] ?_
  refine zW ?_
  obtain rfl:=sI h
  refine Zl (.inr rfl) hU [(vI (-1))] (by omega) ?_
  simp only [push_cast,seval,↓reduceIte,Zd,Tryz.results310,hN0,hN]
 replace h:=Zp c9 h
 refine Xs [0,1,6] [] ?_
 refine Zf ?_
 refine zQ [0,1,13] ?_
 refine Zo (t:=y4) rfl (fun c8 => ?_) (fun c8 => ?_)
 ·replace h:=Zq c8 h
  refine zQ [4] ?_
  refine zW ?_
  obtain rfl:=sI h
  refine Zl (.inr rfl) hU [(vI 1)] (by omega) ?_
  simp only [push_cast,seval,↓reduceIte,Zd,Tryz.results310,hN0,hN]
 replace h:=Zp c8 h
 refine Xs [0,1] [] ?_
 refine Zf ?_
 refine zQ [0,1,16] ?_
 refine Zo (t:=(decide (a0 < a1))) rfl (fun c7 => ?_) (fun c7 => ?_)
 ·replace h:=Zq c7 h
  refine zQ [4] ?_
  refine zW ?_
  obtain rfl:=sI h
  refine Zl (.inr rfl) hU [(vI (-1))] (by omega) ?_
  simp only [push_cast,seval,↓reduceIte,Zd,Tryz.results310,hN0,hN]
 replace h:=Zp c7 h
 refine Xs [0,1] [] ?_
 refine Zf ?_
 refine zQ [19] ?_
 refine Zo (t:=(decide (a1 < a0))) rfl (fun c6 => ?_) (fun c6 => ?_)
 ·replace h:=Zq c6 h
  refine zQ [4] ?_
  refine zW ?_
  obtain rfl:=sI h
  refine Zl (.inr rfl) hU [(vI 1)] (by omega) ?_
  simp only [push_cast,seval,↓reduceIte,Zd,Tryz.results310,hN0,hN]
 replace h:=Zp c6 h
 refine Xs [] [] ?_
 refine zQ [4] ?_
 refine zW ?_
 obtain rfl:=sI h
 refine Zl (.inr rfl) hU [(vI 0)] (by omega) ?_
 simp only [push_cast,seval,↓reduceIte,Zd,Tryz.results310,hN0,hN]
theorem Zgs {a0:Zt} {a1:Int} {r:Int} {O:Objs} {n:Nat} (h:V3 a0 a1=some r):GTo Tryz.prog 309 [.agg (Q2 a0),(vI a1)] O n ((vI r)) O n:=by
 unfold V3 at h
 refine Uw Zs Tryz.call309 Tryz.func309 rfl fun hU hN0 hN => ?_
 show W _ _ _ _ ⟨9,[],[(0,.agg (Q2 a0)),(1,(vI a1))]⟩ (Zx O n []) _
 refine zQ [1,2] ?_
 refine Zf ?_
 obtain ⟨y2,hy2,h⟩:=bC h
 refine zCd (Zok hy2) [4] [false] ?_
 refine zW ?_
 obtain rfl:=sI h
 refine Zl (.inr rfl) hU [(vI y2)] (by omega) ?_
 simp only [push_cast,seval,↓reduceIte,Zd,Tryz.results309,hN0,hN]
theorem Vx {a0:(List Zt)} {a1:Int} {r:(Int×Bool)} {O:Objs} {n:Nat} (h:Y7 a0 a1=some r):GTo Tryz.prog 308 [(sL Zr a0),(vI a1),.fn 309 0 []] O n (.tup [(vI r.1),(vB r.2)]) O n:=by
 unfold Y7 at h
 refine Uw Zs Tryz.call308 Tryz.func308 rfl fun hU hN0 hN => ?_
 show W _ _ _ _ ⟨49,[],[(0,(sL Zr a0)),(1,(vI a1)),(2,.fn 309 0 [])]⟩ (Zx O n []) _
 refine zQ [0,1,2] ?_
 refine zQ [0,1,2,8] ?_
 refine zQ [0,1,2,8,9,10] ?_
 refine Zf ?_
 refine zD [0,1,2,8,9,10] [] ?_
 obtain ⟨z7,hz7,h⟩:=bC h
 refine Yn (E':=⟨49,[],[(0,(sL Zr a0)),(1,(vI a1)),(2,.fn 309 0 []),(8,(vI (a0.length:Int))),(9,(vI z7))]⟩) (O':=(Zx O n [])) (n0:=n) ?_ ?_
 ·refine Xd hz7 (fun s0_=>⟨49,[],[(0,(sL Zr a0)),(1,(vI a1)),(2,.fn 309 0 []),(8,(vI (a0.length:Int))),(9,(vI s0_.1)),(10,(vI s0_.2))]⟩) (fun s0_=>(Zx O n [])) (fun z7=>JX 0 n (⟨49,[],[(0,(sL Zr a0)),(1,(vI a1)),(2,.fn 309 0 []),(8,(vI (a0.length:Int))),(9,(vI z7))]⟩:Env) (Zx O n []) n) ?_
  intro s0_ x0_ hs0_
  unfold Yy at hs0_
  try dsimp only
  refine Zf ?_
  refine zQ [0,1,2,8,9,10,17] ?_
  refine Zo (t:=(decide (s0_.1 < s0_.2))) rfl (fun c6 => ?_) (fun c6 => ?_)
  ·replace hs0_:=Zq c6 hs0_
   refine Xs [0,1,2,8,9,10] [] ?_
   refine Yh ?_
   refine zQ [0,1,2,8,9,10,11] ?_
   refine Zf ?_
   obtain ⟨x3,hx3,ax3,bx3,cx3,hs0_⟩:=bE (f:=Zr) Zh6 (fun _=>rfl) (by decide) hs0_
   try simp only [Int.reduceToNat] at ax3 bx3 cx3
   obtain ⟨y4,hy4,hs0_⟩:=bC hs0_
   refine Zgu [] ax3 bx3 cx3 ?_
   refine (Zgs hy4).then ?_
   refine zF3 ax3 bx3 cx3 ?_
   refine zD [0,1,2,8,9,10,11,31] [] ?_
   refine Zo (t:=(decide (y4 < 0))) rfl (fun c5 => ?_) (fun c5 => ?_)
   ·replace hs0_:=Zq c5 hs0_
    refine zR ?_
    exact Vh hs0_
   replace hs0_:=Zp c5 hs0_
   refine zR ?_
   exact Vh hs0_
  replace hs0_:=Zp c6 hs0_
  exact zEx hs0_
 try simp only [Yv,Z9,↓reduceIte,Nat.reduceEqDiff]
 refine zD [0,1,2,8,9] [] ?_
 obtain ⟨z10,hz10,h⟩:=bC h
 refine Y1 (E':=⟨49,[],[(6,(vI z7)),(7,(vB z10))]⟩) (O':=(Zx O n [])) (n0:=n) ?_ ?_
 ·rcases Bool.eq_false_or_eq_true (decide (z7 < (a0.length:Int))) with c15 | c15
  ·replace hz10:=Zq c15 hz10
   obtain ⟨x13,hx13,ax13,bx13,cx13,hz10⟩:=bE (f:=Zr) Zh6 (fun _=>rfl) (by decide) hz10
   obtain ⟨y14,hy14,hz10⟩:=bC hz10
   refine Zj4 (Yf5 []) c15 ax13 bx13 cx13 ?_
   refine (Zgs hy14).then ?_
   refine zF4 c15 ax13 bx13 cx13 ?_
   exact Zx2 hz10 c15 ax13 bx13 cx13
  replace hz10:=Zp c15 hz10
  refine Vi (Yf4 []) c15 ?_
  exact Ju hz10 c15
 refine zW ?_
 obtain rfl:=sI h
 refine Zl (.inr rfl) hU [(vI z7),(vB z10)] (by omega) ?_
 simp only [push_cast,seval,↓reduceIte,Zd,Tryz.results308,hN0,hN]
theorem Zio {a0:(List Zt)} {a1:Int} {r:Zi} {O:Objs} {n:Nat} (h:Zbl a0 a1=some r):GTo Tryz.prog 275 [(sL Zr a0),(vI a1)] O n (.agg (Zm r)) O n:=by
 unfold Zbl at h
 refine Uw Zs Tryz.call275 Tryz.func275 rfl fun hU hN0 hN => ?_
 show W _ _ _ _ ⟨21,[],[(0,(sL Zr a0)),(1,(vI a1))]⟩ (Zx O n []) _
 refine zQ [0,1,4] ?_
 refine Zf ?_
 obtain ⟨y2,hy2,h⟩:=bC h
 refine zCd (Vx hy2) [0,4,5,6] [true] ?_
 refine Zf ?_
 refine zQ [0,4,5,14] ?_
 refine Zo (t:=(!y2.2)) rfl (fun c7 => ?_) (fun c7 => ?_)
 ·replace h:=Zq c7 h
  refine Zf ?_
  refine Gi [4] [true] ?_
  refine zW ?_
  obtain rfl:=sI h
  refine Zl (.inr rfl) hU [.agg [(vI 0),(vI 0),nV,nV,(vI 0),nV,nV,nV,nV,(vI 0),nV]] (by omega) ?_
  simp only [push_cast,seval,↓reduceIte,Zd,Tryz.results275,hN0,hN]
 replace h:=Zp c7 h
 refine Xs [0,4,5] [true] ?_
 refine Zf ?_
 obtain ⟨x5,hx5,ax5,bx5,cx5,h⟩:=bE (f:=Zr) Zh6 (fun _=>rfl) (by decide) h
 have g6:=Zdb (f:=Zr) (off:=1) (sz:=12) Zn2 (fun _=>rfl) (by decide) (by decide) hx5
 refine Zj4 [] ax5 bx5 cx5 g6 ?_
 refine zD [4] [true] ?_
 refine zW ?_
 obtain rfl:=sI h
 refine Zl (.inr rfl) hU [.agg (Zm x5.E)] (by omega) ?_
 simp only [push_cast,seval,↓reduceIte,Zd,Tryz.results275,hN0,hN]
theorem Zey {a0:Zj} {r:(Zb×Int×Zj)} {O:Objs} {n:Nat} {i0 j0_0:Nat} (hi0:i0 < n) (Zfy:j0_0 < n) (Zfg:i0≠j0_0) (ho0:O i0=some ⟨false,255,11,1,[(gP Zh a0.r.a),(vI a0.r.kind),(vI a0.r.segment),(vI a0.r.at_),(vI a0.r.words),(vI a0.r.ptrs),(vI a0.r.count),(vI a0.r.code),(vI a0.r.index),(vI a0.gone),.row j0_0 a0.out.length]⟩) (Zfh:O j0_0=some (oR 25 3 Zc a0.out)) (h:Kf a0=some r):GTo Tryz.prog 311 [.ref i0 0] O n (.tup [.agg (Zk r.1),(vI r.2.1)]) (Zx ((O.upd j0_0 none).upd i0 (some ⟨false,255,11,1,[(gP Zh r.2.2.r.a),(vI r.2.2.r.kind),(vI r.2.2.r.segment),(vI r.2.2.r.at_),(vI r.2.2.r.words),(vI r.2.2.r.ptrs),(vI r.2.2.r.count),(vI r.2.2.r.code),(vI r.2.2.r.index),(vI r.2.2.gone),.row n r.2.2.out.length]⟩)) n [some (oR 25 3 Zc r.2.2.out)]) (n+1):=by
 unfold Kf at h
 refine Zwv Zs Tryz.call311 Tryz.func311 rfl (Nat.le_of_ble_eq_true rfl) (by omega) fun hU => ?_
 have e0:=Zqm (ba:=n) (E:=⟨34,[],Zo6 0 [.ref i0 0]⟩) (O:=(Zx O n [])) (n:=n) (i:=i0) (j:=j0_0) (k:=10) (len:=a0.out.length) (q:=⟨false,255,11,1,[(gP Zh a0.r.a),.val (.int .i64 a0.r.kind),.val (.int .i64 a0.r.segment),.val (.int .i64 a0.r.at_),.val (.int .i64 a0.r.words),.val (.int .i64 a0.r.ptrs),.val (.int .i64 a0.r.count),.val (.int .i64 a0.r.code),.val (.int .i64 a0.r.index),.val (.int .i64 a0.gone),.row j0_0 a0.out.length]⟩) (qj:=⟨true,25,3,a0.out.length,fl Zc a0.out⟩) (by rw [K7 _ hi0];first | exact ho0 | exact X2 _ _ _) rfl (by rw [K7 _ Zfy];exact Zfh) Zfg (by omega)
 simp only [Zb3 _ _ Zfy,Zb3 _ _ hi0,Kg,Q3,Zge,List.set_cons_zero,List.set_cons_succ,List.cons_append,List.nil_append,List.length_cons,List.length_nil,Nat.zero_add,Nat.reduceAdd,Nat.add_assoc] at e0
 refine Zcf e0 ?_
 have hU:=(Und.drop hU j0_0)
 have hk0:∀ k,i0 < n+k:=fun k=>by omega
 have hN0:∀ o,Objs.upd (O.upd j0_0 none) i0 o n=none:=fun o=>Zce hU hi0 _ (Nat.le_refl _)
 have hN:∀ o k,Objs.upd (O.upd j0_0 none) i0 o (n+k)=none:=fun o k=>Zce hU hi0 _ (Nat.le_add_right _ _)
 show W _ _ _ _ ⟨34,[],[(0,.ref i0 0)]⟩ (Zx ((O.upd j0_0 none).upd i0 (some ⟨false,255,11,1,[(gP Zh a0.r.a),(vI a0.r.kind),(vI a0.r.segment),(vI a0.r.at_),(vI a0.r.words),(vI a0.r.ptrs),(vI a0.r.count),(vI a0.r.code),(vI a0.r.index),(vI a0.gone),.row n a0.out.length]⟩)) n [some (oR 25 3 Zc a0.out)]) _
 refine Zcn [0,2] hi0 hk0 ?_
 refine Zf ?_
 refine Zf ?_
 obtain ⟨y2,hy2,h⟩:=bC h
 refine Xl Zs (by kernel_rfl) [] (by kernel_rfl) ?_
 refine zX2 hi0 hk0 ?_
 refine PCall.of (Xw hy2) ?_
 refine zX2 hi0 hk0 ?_
 refine zD [0,2,13] [true,true] ?_
 refine Zo (t:=(a0.gone == y2)) rfl (fun c5 => ?_) (fun c5 => ?_)
 ·replace h:=Zq c5 h
  refine Zf ?_
  refine Vq [] hi0 hk0 ?_
  refine zD [2,3] [true,true] ?_
  refine zW ?_
  obtain rfl:=sI h
  refine Ux (k:=1) (i:=i0) (q1:=⟨false,255,11,1,[(gP Zh a0.r.a),(vI a0.r.kind),(vI a0.r.segment),(vI a0.r.at_),(vI a0.r.words),(vI a0.r.ptrs),(vI a0.r.count),(vI a0.r.code),(vI a0.r.index),(vI a0.gone),.row n a0.out.length]⟩) (L3:=[some (oR 25 3 Zc a0.out),some ⟨false,62,9,1,[.val (.pointer none),(vI 0),(vI 0),(vI 0),(vI 0),(vI 0),(vI 0),(vI 0),(vI 0)]⟩,none]) (E2:=(⟨34,[],[(2,.ref (n+1) 0),(3,(vI 13))]⟩:Env)) (n3:=(n+3)) (.inr rfl) hU rfl [.agg [.val (.pointer none),(vI 0),(vI 0),(vI 0),(vI 0),(vI 0),(vI 0),(vI 0),(vI 0)],(vI 13)] ?_ ?_
  ·refine Fit2.trans (E':=(⟨34,[],[(2,.ref (n+1) 0),(3,(vI 13))]⟩:Env)) (O':=(Zx ((O.upd j0_0 none).upd i0 (some ⟨false,255,11,1,[(gP Zh a0.r.a),(vI a0.r.kind),(vI a0.r.segment),(vI a0.r.at_),(vI a0.r.words),(vI a0.r.ptrs),(vI a0.r.count),(vI a0.r.code),(vI a0.r.index),(vI a0.gone),.row n a0.out.length]⟩)) n [some (oR 25 3 Zc a0.out),some ⟨false,62,9,1,[.val (.pointer none),(vI 0),(vI 0),(vI 0),(vI 0),(vI 0),(vI 0),(vI 0),(vI 0)]⟩])) (n':=(n+2)) (Fit2.of (Xe hU rfl rfl ?_) (by omega)) ?_
   ·exact K6 hi0 hk0
   refine Qu (k:=2) (k':=3) hU [0,1] [0,1,0] rfl rfl rfl rfl ⟨rfl,rfl⟩ ?_
   exact K6 hi0 hk0
  simp only [push_cast,seval,↓reduceIte,Zd,Tryz.results311,hi0,hk0,hN0,hN]
 replace h:=Zp c5 h
 refine Xs [0,2] [true,true] ?_
 refine Zf ?_
 refine Vq [] hi0 hk0 ?_
 refine zDs [0,2] [true,true] ?_
 obtain ⟨y4,hy4,h⟩:=bC h
 refine Zj5 Zs (by kernel_rfl) [false,false,false,false,false,false,false,false,false,false,false,false,true,false] [] (by kernel_rfl) ?_
 refine zX2 hi0 hk0 ?_
 refine PCall.of (Zck hy4) ?_
 refine zX2 hi0 hk0 ?_
 refine zD [2,3] [true,true] ?_
 refine zW ?_
 obtain rfl:=sI h
 refine Ux (k:=1) (i:=i0) (q1:=⟨false,255,11,1,[(gP Zh a0.r.a),(vI a0.r.kind),(vI a0.r.segment),(vI a0.r.at_),(vI a0.r.words),(vI a0.r.ptrs),(vI a0.r.count),(vI a0.r.code),(vI a0.r.index),(vI (IntKind.i64.wrap (a0.gone+1))),.row n a0.out.length]⟩) (L3:=[some (oR 25 3 Zc a0.out),some ⟨false,62,9,1,(Zk y4.1)⟩,none]) (E2:=(⟨34,[],[(2,.ref (n+1) 0),(3,(vI y4.2))]⟩:Env)) (n3:=(n+3)) (.inr rfl) hU rfl [.agg (Zk y4.1),(vI y4.2)] ?_ ?_
 ·refine Fit2.trans (E':=(⟨34,[],[(2,.ref (n+1) 0),(3,(vI y4.2))]⟩:Env)) (O':=(Zx ((O.upd j0_0 none).upd i0 (some ⟨false,255,11,1,[(gP Zh a0.r.a),(vI a0.r.kind),(vI a0.r.segment),(vI a0.r.at_),(vI a0.r.words),(vI a0.r.ptrs),(vI a0.r.count),(vI a0.r.code),(vI a0.r.index),(vI (IntKind.i64.wrap (a0.gone+1))),.row n a0.out.length]⟩)) n [some (oR 25 3 Zc a0.out),some ⟨false,62,9,1,(Zk y4.1)⟩])) (n':=(n+2)) (Fit2.of (Xe hU rfl rfl ?_) (by omega)) ?_
  ·exact K6 hi0 hk0
  refine Qu (k:=2) (k':=3) hU [0,1] [0,1,0] rfl rfl rfl rfl ⟨rfl,rfl⟩ ?_
  exact K6 hi0 hk0
 simp only [push_cast,seval,↓reduceIte,Zd,Tryz.results311,hi0,hk0,hN0,hN]
theorem Zi5 {a0:Zj} {a1:(List Za)} {r:(Int×Zj)} {O:Objs} {n:Nat} {i0 j0_0:Nat} (hi0:i0 < n) (Zfy:j0_0 < n) (Zfg:i0≠j0_0) (ho0:O i0=some ⟨false,255,11,1,[(gP Zh a0.r.a),(vI a0.r.kind),(vI a0.r.segment),(vI a0.r.at_),(vI a0.r.words),(vI a0.r.ptrs),(vI a0.r.count),(vI a0.r.code),(vI a0.r.index),(vI a0.gone),.row j0_0 a0.out.length]⟩) (Zfh:O j0_0=some (oR 25 3 Zc a0.out)) (h:K1 a0 a1=some r):GTo Tryz.prog 277 [.ref i0 0,(sL Zc a1)] O n ((vI r.1)) (Zx ((O.upd j0_0 none).upd i0 (some ⟨false,255,11,1,[(gP Zh r.2.r.a),(vI r.2.r.kind),(vI r.2.r.segment),(vI r.2.r.at_),(vI r.2.r.words),(vI r.2.r.ptrs),(vI r.2.r.count),(vI r.2.r.code),(vI r.2.r.index),(vI r.2.gone),.row n r.2.out.length]⟩)) n [some (oR 25 3 Zc r.2.out)]) (n+1):=by
 unfold K1 at h
 refine Zwv Zs Tryz.call277 Tryz.func277 rfl (Nat.le_of_ble_eq_true rfl) (by omega) fun hU => ?_
 have e0:=Zqm (ba:=n) (E:=⟨36,[],Zo6 0 [.ref i0 0,.sl a1.length (fl Zc a1)]⟩) (O:=(Zx O n [])) (n:=n) (i:=i0) (j:=j0_0) (k:=10) (len:=a0.out.length) (q:=⟨false,255,11,1,[(gP Zh a0.r.a),.val (.int .i64 a0.r.kind),.val (.int .i64 a0.r.segment),.val (.int .i64 a0.r.at_),.val (.int .i64 a0.r.words),.val (.int .i64 a0.r.ptrs),.val (.int .i64 a0.r.count),.val (.int .i64 a0.r.code),.val (.int .i64 a0.r.index),.val (.int .i64 a0.gone),.row j0_0 a0.out.length]⟩) (qj:=⟨true,25,3,a0.out.length,fl Zc a0.out⟩) (by rw [K7 _ hi0];first | exact ho0 | exact X2 _ _ _) rfl (by rw [K7 _ Zfy];exact Zfh) Zfg (by omega)
 simp only [Zb3 _ _ Zfy,Zb3 _ _ hi0,Kg,Q3,Zge,List.set_cons_zero,List.set_cons_succ,List.cons_append,List.nil_append,List.length_cons,List.length_nil,Nat.zero_add,Nat.reduceAdd,Nat.add_assoc] at e0
 refine Zcf e0 ?_
 have hU:=(Und.drop hU j0_0)
 have hk0:∀ k,i0 < n+k:=fun k=>by omega
 have hN0:∀ o,Objs.upd (O.upd j0_0 none) i0 o n=none:=fun o=>Zce hU hi0 _ (Nat.le_refl _)
 have hN:∀ o k,Objs.upd (O.upd j0_0 none) i0 o (n+k)=none:=fun o k=>Zce hU hi0 _ (Nat.le_add_right _ _)
 show W _ _ _ _ ⟨36,[],[(0,.ref i0 0),(1,(sL Zc a1))]⟩ (Zx ((O.upd j0_0 none).upd i0 (some ⟨false,255,11,1,[(gP Zh a0.r.a),(vI a0.r.kind),(vI a0.r.segment),(vI a0.r.at_),(vI a0.r.words),(vI a0.r.ptrs),(vI a0.r.count),(vI a0.r.code),(vI a0.r.index),(vI a0.gone),.row n a0.out.length]⟩)) n [some (oR 25 3 Zc a0.out)]) _
 refine Zcn [0,1] hi0 hk0 ?_
 refine Zf ?_
 refine Zcn [0,10,11,12] hi0 hk0 ?_
 refine zD [0,10,11,12] [true] ?_
 refine Zcf (E':=(⟨36,[],[(0,.ref i0 0),(10,(sL Zc a1)),(11,(vI (a1.length:Int))),(12,(vI 0))]⟩:Env)) (O':=(Zx ((O.upd j0_0 none).upd i0 (some ⟨false,255,11,1,[(gP Zh a0.r.a),(vI a0.r.kind),(vI a0.r.segment),(vI a0.r.at_),(vI a0.r.words),(vI a0.r.ptrs),(vI a0.r.count),(vI a0.r.code),(vI a0.r.index),(vI a0.gone),.row (n+1) a0.out.length]⟩)) n [none,some (oR 25 3 Zc a0.out)])) (n':=(n+2)) ?_ ?_
 ·refine Fit2.trans (E':=(⟨36,[],[(0,.ref i0 0),(10,(sL Zc a1)),(11,(vI (a1.length:Int))),(12,(vI 0))]⟩:Env)) (O':=(Zx ((O.upd j0_0 none).upd i0 (some ⟨false,255,11,1,[(gP Zh a0.r.a),(vI a0.r.kind),(vI a0.r.segment),(vI a0.r.at_),(vI a0.r.words),(vI a0.r.ptrs),(vI a0.r.count),(vI a0.r.code),(vI a0.r.index),(vI a0.gone),.row n a0.out.length]⟩)) n [some (oR 25 3 Zc a0.out)])) (n':=(n+1)) (Fit2.of (Xe hU rfl rfl ?_) (by omega)) ?_
  ·exact K6 hi0 hk0
  refine Qu (k:=1) (k':=2) hU [1] [0,0] rfl rfl rfl rfl ⟨rfl,rfl⟩ ?_
  exact K6 hi0 hk0
 obtain ⟨z11,hz11,h⟩:=bC h
 refine Ut (J:=(Xg (fun z11=>JR n (⟨36,[],[(4,(vI z11.1))]⟩:Env) (Zx ((O.upd j0_0 none).upd i0 (some ⟨false,255,11,1,[(gP Zh z11.2.2.1),(vI z11.2.2.2.1),(vI z11.2.2.2.2.1),(vI z11.2.2.2.2.2.1),(vI z11.2.2.2.2.2.2.1),(vI z11.2.2.2.2.2.2.2.1),(vI z11.2.2.2.2.2.2.2.2.1),(vI z11.2.2.2.2.2.2.2.2.2.1),(vI z11.2.2.2.2.2.2.2.2.2.2.1),(vI z11.2.2.2.2.2.2.2.2.2.2.2),.row (n+1) z11.2.1.length]⟩)) n [none,some (oR 25 3 Zc z11.2.1)]) (n+2)) (fun z11=>JX 0 n (⟨36,[],[]⟩:Env) (Zx ((O.upd j0_0 none).upd i0 (some ⟨false,255,11,1,[(gP Zh z11.2.1),(vI z11.2.2.1),(vI z11.2.2.2.1),(vI z11.2.2.2.2.1),(vI z11.2.2.2.2.2.1),(vI z11.2.2.2.2.2.2.1),(vI z11.2.2.2.2.2.2.2.1),(vI z11.2.2.2.2.2.2.2.2.1),(vI z11.2.2.2.2.2.2.2.2.2.1),(vI z11.2.2.2.2.2.2.2.2.2.2),.row (n+1) z11.1.length]⟩)) n [none,some (oR 25 3 Zc z11.1)]) (n+2)))) (z:=z11) ?_ fun hw => ?_
 ·refine Xd hz11 (fun s0_=>⟨36,[],[(0,.ref i0 0),(10,(sL Zc a1)),(11,(vI (a1.length:Int))),(12,(vI s0_.1))]⟩) (fun s0_=>(Zx ((O.upd j0_0 none).upd i0 (some ⟨false,255,11,1,[(gP Zh s0_.2.2.1),(vI s0_.2.2.2.1),(vI s0_.2.2.2.2.1),(vI s0_.2.2.2.2.2.1),(vI s0_.2.2.2.2.2.2.1),(vI s0_.2.2.2.2.2.2.2.1),(vI s0_.2.2.2.2.2.2.2.2.1),(vI s0_.2.2.2.2.2.2.2.2.2.1),(vI s0_.2.2.2.2.2.2.2.2.2.2.1),(vI s0_.2.2.2.2.2.2.2.2.2.2.2),.row (n+1) s0_.2.1.length]⟩)) n [none,some (oR 25 3 Zc s0_.2.1)])) (Xg (fun z11=>JR n (⟨36,[],[(4,(vI z11.1))]⟩:Env) (Zx ((O.upd j0_0 none).upd i0 (some ⟨false,255,11,1,[(gP Zh z11.2.2.1),(vI z11.2.2.2.1),(vI z11.2.2.2.2.1),(vI z11.2.2.2.2.2.1),(vI z11.2.2.2.2.2.2.1),(vI z11.2.2.2.2.2.2.2.1),(vI z11.2.2.2.2.2.2.2.2.1),(vI z11.2.2.2.2.2.2.2.2.2.1),(vI z11.2.2.2.2.2.2.2.2.2.2.1),(vI z11.2.2.2.2.2.2.2.2.2.2.2),.row (n+1) z11.2.1.length]⟩)) n [none,some (oR 25 3 Zc z11.2.1)]) (n+2)) (fun z11=>JX 0 n (⟨36,[],[]⟩:Env) (Zx ((O.upd j0_0 none).upd i0 (some ⟨false,255,11,1,[(gP Zh z11.2.1),(vI z11.2.2.1),(vI z11.2.2.2.1),(vI z11.2.2.2.2.1),(vI z11.2.2.2.2.2.1),(vI z11.2.2.2.2.2.2.1),(vI z11.2.2.2.2.2.2.2.1),(vI z11.2.2.2.2.2.2.2.2.1),(vI z11.2.2.2.2.2.2.2.2.2.1),(vI z11.2.2.2.2.2.2.2.2.2.2),.row (n+1) z11.1.length]⟩)) n [none,some (oR 25 3 Zc z11.1)]) (n+2))) ?_
  intro s0_ x0_ hs0_
  unfold Xq at hs0_
  try dsimp only
  refine Zcn [0,10,11,12,13] hi0 hk0 ?_
  refine Zf ?_
  refine Zo (t:=(decide (s0_.1 < (a1.length:Int)))) rfl (fun c10 => ?_) (fun c10 => ?_)
  ·replace hs0_:=Zq c10 hs0_
   refine Xs [0,10,11,12] [false,true] ?_
   refine Zf ?_
   refine Yh ?_
   refine Zf ?_
   obtain ⟨x2,hx2,ax2,bx2,cx2,hs0_⟩:=bE (f:=Zc) Zcc (fun _=>rfl) (by decide) hs0_
   refine Zzo [] ax2 bx2 cx2 hi0 hk0 ?_
   refine zDs [0,6,10,11,12] [false,true,true] ?_
   obtain ⟨y4,hy4,hs0_⟩:=bC hs0_
   refine Vq [] hi0 hk0 ?_
   refine (Zey (i0:=i0) (j0_0:=(n+1)) (by omega) (by omega) (by omega) (by simp only [push_cast,seval,↓reduceIte,Zd,Zbx,hi0,hk0,hN0,hN] <;> rfl) (by simp only [push_cast,seval,↓reduceIte,Zd,Zbx,hi0,hk0,hN0,hN] <;> rfl) hy4).then ?_
   refine zX2 hi0 hk0 ?_
   refine zDs [0,6,7,8,10,11,12] [false,false,true,true,true] ?_
   refine Zcn [0,6,7,8,10,11,12,22] hi0 hk0 ?_
   refine Zo (t:=(y4.2.1 != 0)) rfl (fun c9 => ?_) (fun c9 => ?_)
   ·replace hs0_:=Zq c9 hs0_
    refine Zcn [4] hi0 hk0 ?_
    refine zW ?_
    obtain rfl:=sI hs0_
    refine And.intro (fun h=>by cases h) (And.intro rfl ?_)
    refine Fit2.trans (E':=(⟨36,[],[(4,(vI y4.2.1))]⟩:Env)) (O':=(Zx ((O.upd j0_0 none).upd i0 (some ⟨false,255,11,1,[(gP Zh y4.2.2.r.a),(vI y4.2.2.r.kind),(vI y4.2.2.r.segment),(vI y4.2.2.r.at_),(vI y4.2.2.r.words),(vI y4.2.2.r.ptrs),(vI y4.2.2.r.count),(vI y4.2.2.r.code),(vI y4.2.2.r.index),(vI y4.2.2.gone),.row (n+3) y4.2.2.out.length]⟩)) n [none,none,none,some (oR 25 3 Zc y4.2.2.out),none])) (n':=(n+5)) (Fit2.of (Xe hU rfl rfl ?_) (by omega)) ?_
    ·exact K6 hi0 hk0
    refine Qu (k:=5) (k':=2) hU [0,0,0,1,0] [0,3] rfl rfl rfl rfl ⟨rfl,rfl⟩ ?_
    exact K6 hi0 hk0
   replace hs0_:=Zp c9 hs0_
   refine Xs [0,6,7,10,11,12] [false,false,true,true,true] ?_
   refine Zf ?_
   obtain ⟨y6,hy6,hs0_⟩:=bC hs0_
   refine Vq [] hi0 hk0 ?_
   refine (Zjp hy6).then ?_
   refine zX2 hi0 hk0 ?_
   refine zDs [0,8,9,10,11,12] [false,false,false,true,false] ?_
   refine Zcn [0,8,9,10,11,12,31] hi0 hk0 ?_
   refine Zo (t:=(y6.2 != 0)) rfl (fun c8 => ?_) (fun c8 => ?_)
   ·replace hs0_:=Zq c8 hs0_
    refine Zcn [4] hi0 hk0 ?_
    refine zW ?_
    obtain rfl:=sI hs0_
    refine And.intro (fun h=>by cases h) (And.intro rfl ?_)
    refine Fit2.trans (E':=(⟨36,[],[(4,(vI y6.2))]⟩:Env)) (O':=(Zx ((O.upd j0_0 none).upd i0 (some ⟨false,255,11,1,[(gP Zh y4.2.2.r.a),(vI y4.2.2.r.kind),(vI y4.2.2.r.segment),(vI y4.2.2.r.at_),(vI y4.2.2.r.words),(vI y4.2.2.r.ptrs),(vI y4.2.2.r.count),(vI y4.2.2.r.code),(vI y4.2.2.r.index),(vI y4.2.2.gone),.row (n+3) y4.2.2.out.length]⟩)) n [none,none,none,some (oR 25 3 Zc y4.2.2.out),none])) (n':=(n+5)) (Fit2.of (Xe hU rfl rfl ?_) (by omega)) ?_
    ·exact K6 hi0 hk0
    refine Qu (k:=5) (k':=2) hU [0,0,0,1,0] [0,3] rfl rfl rfl rfl ⟨rfl,rfl⟩ ?_
    exact K6 hi0 hk0
   replace hs0_:=Zp c8 hs0_
   refine Xs [0,9,10,11,12] [false,false,false,true,false] ?_
   refine Zcn [0,10,11,12,34] hi0 hk0 ?_
   refine Zo (t:=(!y6.1)) rfl (fun c7 => ?_) (fun c7 => ?_)
   ·replace hs0_:=Zq c7 hs0_
    refine Zcn [4] hi0 hk0 ?_
    refine zW ?_
    obtain rfl:=sI hs0_
    refine And.intro (fun h=>by cases h) (And.intro rfl ?_)
    refine Fit2.trans (E':=(⟨36,[],[(4,(vI 13))]⟩:Env)) (O':=(Zx ((O.upd j0_0 none).upd i0 (some ⟨false,255,11,1,[(gP Zh y4.2.2.r.a),(vI y4.2.2.r.kind),(vI y4.2.2.r.segment),(vI y4.2.2.r.at_),(vI y4.2.2.r.words),(vI y4.2.2.r.ptrs),(vI y4.2.2.r.count),(vI y4.2.2.r.code),(vI y4.2.2.r.index),(vI y4.2.2.gone),.row (n+3) y4.2.2.out.length]⟩)) n [none,none,none,some (oR 25 3 Zc y4.2.2.out),none])) (n':=(n+5)) (Fit2.of (Xe hU rfl rfl ?_) (by omega)) ?_
    ·exact K6 hi0 hk0
    refine Qu (k:=5) (k':=2) hU [0,0,0,1,0] [0,3] rfl rfl rfl rfl ⟨rfl,rfl⟩ ?_
    exact K6 hi0 hk0
   replace hs0_:=Zp c7 hs0_
   refine Xs [0,10,11,12] [false,false,false,true,false] ?_
   refine Vq [] hi0 hk0 ?_
   obtain rfl:=sI hs0_
   refine And.intro rfl ?_
   refine Fit2.trans (E':=(⟨36,[],[(0,.ref i0 0),(10,(sL Zc a1)),(11,(vI (a1.length:Int))),(12,(vI (IntKind.i64.wrap (s0_.1+1))))]⟩:Env)) (O':=(Zx ((O.upd j0_0 none).upd i0 (some ⟨false,255,11,1,[(gP Zh y4.2.2.r.a),(vI y4.2.2.r.kind),(vI y4.2.2.r.segment),(vI y4.2.2.r.at_),(vI y4.2.2.r.words),(vI y4.2.2.r.ptrs),(vI y4.2.2.r.count),(vI y4.2.2.r.code),(vI y4.2.2.r.index),(vI y4.2.2.gone),.row (n+3) y4.2.2.out.length]⟩)) n [none,none,none,some (oR 25 3 Zc y4.2.2.out),none])) (n':=(n+5)) (Fit2.of (Xe hU rfl rfl ?_) (by omega)) ?_
   ·exact K6 hi0 hk0
   refine Qu (k:=5) (k':=2) hU [0,0,0,1,0] [0,3] rfl rfl rfl rfl ⟨rfl,rfl⟩ ?_
   exact K6 hi0 hk0
  replace hs0_:=Zp c10 hs0_
  refine zXt ?_
  obtain rfl:=sI hs0_
  refine And.intro (fun h=>by cases h) (And.intro rfl (Fit2.of (Xe hU rfl rfl ?_) (by omega)))
  exact K6 hi0 hk0
 rcases z11 with z11 | z11
 ·dsimp only [Xg] at hw h
  refine Q1 hw ?_
  try simp only [Yv,Z9,↓reduceIte,Nat.reduceEqDiff]
  obtain rfl:=sI h
  refine Ux (k:=1) (i:=i0) (q1:=⟨false,255,11,1,[(gP Zh z11.2.2.1),(vI z11.2.2.2.1),(vI z11.2.2.2.2.1),(vI z11.2.2.2.2.2.1),(vI z11.2.2.2.2.2.2.1),(vI z11.2.2.2.2.2.2.2.1),(vI z11.2.2.2.2.2.2.2.2.1),(vI z11.2.2.2.2.2.2.2.2.2.1),(vI z11.2.2.2.2.2.2.2.2.2.2.1),(vI z11.2.2.2.2.2.2.2.2.2.2.2),.row n z11.2.1.length]⟩) (L3:=[some (oR 25 3 Zc z11.2.1),none]) (E2:=(⟨36,[],[(4,(vI z11.1))]⟩:Env)) (n3:=(n+2)) (.inr rfl) hU rfl [(vI z11.1)] ?_ ?_
  ·refine Fit2.trans (E':=(⟨36,[],[(4,(vI z11.1))]⟩:Env)) (O':=(Zx ((O.upd j0_0 none).upd i0 (some ⟨false,255,11,1,[(gP Zh z11.2.2.1),(vI z11.2.2.2.1),(vI z11.2.2.2.2.1),(vI z11.2.2.2.2.2.1),(vI z11.2.2.2.2.2.2.1),(vI z11.2.2.2.2.2.2.2.1),(vI z11.2.2.2.2.2.2.2.2.1),(vI z11.2.2.2.2.2.2.2.2.2.1),(vI z11.2.2.2.2.2.2.2.2.2.2.1),(vI z11.2.2.2.2.2.2.2.2.2.2.2),.row (n+1) z11.2.1.length]⟩)) n [none,some (oR 25 3 Zc z11.2.1)])) (n':=(n+2)) (Fit2.of (Xe hU rfl rfl ?_) (by omega)) ?_
   ·exact K6 hi0 hk0
   refine Qu (k:=2) (k':=2) hU [1,0] [1,0] rfl rfl rfl rfl ⟨rfl,rfl⟩ ?_
   exact K6 hi0 hk0
  simp only [push_cast,seval,↓reduceIte,Zd,Tryz.results277,hi0,hk0,hN0,hN]
 dsimp only [Xg] at hw h
 refine Yn hw ?_
 try simp only [Yv,Z9,↓reduceIte,Nat.reduceEqDiff]
 refine zD [] [false,true] ?_
 refine Zcn [4] hi0 hk0 ?_
 refine zW ?_
 obtain rfl:=sI h
 refine Ux (k:=1) (i:=i0) (q1:=⟨false,255,11,1,[(gP Zh z11.2.1),(vI z11.2.2.1),(vI z11.2.2.2.1),(vI z11.2.2.2.2.1),(vI z11.2.2.2.2.2.1),(vI z11.2.2.2.2.2.2.1),(vI z11.2.2.2.2.2.2.2.1),(vI z11.2.2.2.2.2.2.2.2.1),(vI z11.2.2.2.2.2.2.2.2.2.1),(vI z11.2.2.2.2.2.2.2.2.2.2),.row n z11.1.length]⟩) (L3:=[some (oR 25 3 Zc z11.1),none]) (E2:=(⟨36,[],[(4,(vI 0))]⟩:Env)) (n3:=(n+2)) (.inr rfl) hU rfl [(vI 0)] ?_ ?_
 ·refine Fit2.trans (E':=(⟨36,[],[(4,(vI 0))]⟩:Env)) (O':=(Zx ((O.upd j0_0 none).upd i0 (some ⟨false,255,11,1,[(gP Zh z11.2.1),(vI z11.2.2.1),(vI z11.2.2.2.1),(vI z11.2.2.2.2.1),(vI z11.2.2.2.2.2.1),(vI z11.2.2.2.2.2.2.1),(vI z11.2.2.2.2.2.2.2.1),(vI z11.2.2.2.2.2.2.2.2.1),(vI z11.2.2.2.2.2.2.2.2.2.1),(vI z11.2.2.2.2.2.2.2.2.2.2),.row (n+1) z11.1.length]⟩)) n [none,some (oR 25 3 Zc z11.1)])) (n':=(n+2)) (Fit2.of (Xe hU rfl rfl ?_) (by omega)) ?_
  ·exact K6 hi0 hk0
  refine Qu (k:=2) (k':=2) hU [1,0] [1,0] rfl rfl rfl rfl ⟨rfl,rfl⟩ ?_
  exact K6 hi0 hk0
 simp only [push_cast,seval,↓reduceIte,Zd,Tryz.results277,hi0,hk0,hN0,hN]
attribute [local push_cast] beq_iff_eq beq_eq_false_iff_ne Ybs Zm2 Zm0 Zkw Zir Zm1 Ybb Z63 Z5e Ybu Zit Zdi Zsp Zsy Zgb Zld
def Vf (Yb:(Zi→Zb→Option (Za×Int))):Prop:=∀ {a0:Zi} {a1:Zb} {r:(Za×Int)} {O:Objs} {n:Nat},Yb a0 a1=some r→GTo Tryz.prog 92 [.agg (Zm a0),.agg (Zk a1)] O n (.tup [.agg (Zg r.1),(vI r.2)]) O n
def Qz (Z6:(Zi→Zb→Option (Za×Int))):Prop:=∀ {a0:Zi} {a1:Zb} {r:(Za×Int)} {O:Objs} {n:Nat},Z6 a0 a1=some r→GTo Tryz.prog 152 [.agg (Zm a0),.agg (Zk a1)] O n (.tup [.agg (Zg r.1),(vI r.2)]) O n
def Vg (Ym:(Zi→Zb→Option (Za×Int))):Prop:=∀ {a0:Zi} {a1:Zb} {r:(Za×Int)} {O:Objs} {n:Nat},Ym a0 a1=some r→GTo Tryz.prog 153 [.agg (Zm a0),.agg (Zk a1)] O n (.tup [.agg (Zg r.1),(vI r.2)]) O n
def Qm (Z5:((List Zt)→Zb→Option ((List Za)×Int))):Prop:=∀ {a0:(List Zt)} {a1:Zb} {r:((List Za)×Int)} {O:Objs} {n:Nat},Z5 a0 a1=some r→GTo Tryz.prog 226 [(sL Zr a0),.agg (Zk a1)] O n (.tup [(sL Zc r.1),(vI r.2)]) O n
def Qa (Z0:(Zj→Ya→Option (Int×Zj))):Prop:=∀ {a0:Zj} {a1:Ya} {r:(Int×Zj)} {O:Objs} {n:Nat} {i0 j0_0:Nat},i0 < n→j0_0 < n→i0≠j0_0→O i0=some ⟨false,255,11,1,[(gP Zh a0.r.a),(vI a0.r.kind),(vI a0.r.segment),(vI a0.r.at_),(vI a0.r.words),(vI a0.r.ptrs),(vI a0.r.count),(vI a0.r.code),(vI a0.r.index),(vI a0.gone),.row j0_0 a0.out.length]⟩→O j0_0=some (oR 25 3 Zc a0.out)→Z0 a0 a1=some r→GTo Tryz.prog 227 [.ref i0 0,.agg (Xn a1)] O n ((vI r.1)) (Zx ((O.upd j0_0 none).upd i0 (some ⟨false,255,11,1,[(gP Zh r.2.r.a),(vI r.2.r.kind),(vI r.2.r.segment),(vI r.2.r.at_),(vI r.2.r.words),(vI r.2.r.ptrs),(vI r.2.r.count),(vI r.2.r.code),(vI r.2.r.index),(vI r.2.gone),.row n r.2.out.length]⟩)) n [some (oR 25 3 Zc r.2.out)]) (n+1)
def X9 (Zz:(Zj→Zi→Option (Int×Zj))):Prop:=∀ {a0:Zj} {a1:Zi} {r:(Int×Zj)} {O:Objs} {n:Nat} {i0 j0_0:Nat},i0 < n→j0_0 < n→i0≠j0_0→O i0=some ⟨false,255,11,1,[(gP Zh a0.r.a),(vI a0.r.kind),(vI a0.r.segment),(vI a0.r.at_),(vI a0.r.words),(vI a0.r.ptrs),(vI a0.r.count),(vI a0.r.code),(vI a0.r.index),(vI a0.gone),.row j0_0 a0.out.length]⟩→O j0_0=some (oR 25 3 Zc a0.out)→Zz a0 a1=some r→GTo Tryz.prog 276 [.ref i0 0,.agg (Zm a1)] O n ((vI r.1)) (Zx ((O.upd j0_0 none).upd i0 (some ⟨false,255,11,1,[(gP Zh r.2.r.a),(vI r.2.r.kind),(vI r.2.r.segment),(vI r.2.r.at_),(vI r.2.r.words),(vI r.2.r.ptrs),(vI r.2.r.count),(vI r.2.r.code),(vI r.2.r.index),(vI r.2.gone),.row n r.2.out.length]⟩)) n [some (oR 25 3 Zc r.2.out)]) (n+1)
theorem Zsw {Yb:(Zi→Zb→Option (Za×Int))} {Z6:(Zi→Zb→Option (Za×Int))} {Ym:(Zi→Zb→Option (Za×Int))} {Z5:((List Zt)→Zb→Option ((List Za)×Int))} {Z0:(Zj→Ya→Option (Int×Zj))} {Zz:(Zj→Zi→Option (Int×Zj))} (Ji:Vf Yb) (Jy:Qz Z6) (Ur:Vg Ym) (Jm:Qm Z5) (Q6:Qa Z0) (Qb:X9 Zz) {a0:Zi} {a1:Zb} {r:(Za×Int)} {O:Objs} {n:Nat} (h:Ud Yb Z6 Ym Z5 Z0 Zz a0 a1=some r):GTo Tryz.prog 92 [.agg (Zm a0),.agg (Zk a1)] O n (.tup [.agg (Zg r.1),(vI r.2)]) O n:=by
 unfold Ud at h
 refine Uw Zs Tryz.call92 Tryz.func92 rfl fun hU hN0 hN => ?_
 show W _ _ _ _ ⟨49,[],[(0,.agg (Zm a0)),(1,.agg (Zk a1))]⟩ (Zx O n []) _
 refine zQ [2,3,4] ?_
 refine Zf ?_
 refine zQ [2,3,4,9] ?_
 refine Yh ?_
 refine zQ [2,3,4,9,10] ?_
 refine Zo (t:=(a0.Kind == 0)) rfl (fun c14 => ?_) (fun c14 => ?_)
 ·replace h:=Zq c14 h
  refine Zf ?_
  obtain ⟨y2,hy2,h⟩:=bC h
  refine zCd (Zt2 hy2) [4,5] [false,false,true] ?_
  refine zW ?_
  obtain rfl:=sI h
  refine Zl (.inr rfl) hU [.agg (Zg y2.1),(vI y2.2)] (by omega) ?_
  simp only [push_cast,seval,↓reduceIte,Zd,Tryz.results92,hN0,hN]
 replace h:=Zp c14 h
 refine zQ [2,3,4,9,16] ?_
 refine Zo (t:=(a0.Kind == 1)) rfl (fun c13 => ?_) (fun c13 => ?_)
 ·replace h:=Zq c13 h
  refine Zf ?_
  obtain ⟨y4,hy4,h⟩:=bC h
  refine zCd (Zjp hy4) [2,4,6,7] [true,false,true] ?_
  obtain ⟨z5,hz5,h⟩:=bC h
  refine Y1 (E':=⟨49,[],[(2,.ref n 0),(4,.ref (n+2) 0),(7,(vI z5))]⟩) (O':=(Zx O n [some ⟨false,30,11,1,(Zm a0)⟩,none,some ⟨false,25,3,1,[(vI 0),nV,nV]⟩])) (n0:=(n+3)) ?_ ?_
  ·refine zQD [2,4,7,30] [none,none] ?_
   refine Zo (t:=(cond (y4.2 == 0) (!y4.1) false)) rfl (fun c6 => ?_) (fun c6 => ?_)
   ·replace hz5:=Zq c6 hz5
    refine zR ?_
    exact Vh hz5
   replace hz5:=Zp c6 hz5
   refine zK ?_
   exact Vh hz5
  refine Zf ?_
  refine Gi [4,5] [false,false,true] ?_
  refine zW ?_
  obtain rfl:=sI h
  refine Zl (.inr rfl) hU [.agg (Zg a0.New),(vI z5)] (by omega) ?_
  simp only [push_cast,seval,↓reduceIte,Zd,Tryz.results92,hN0,hN]
 replace h:=Zp c13 h
 refine zQ [2,3,4,9,34] ?_
 refine Zo (t:=(a0.Kind == 2)) rfl (fun G9 => ?_) (fun G9 => ?_)
 ·replace h:=Zq G9 h
  refine Zf ?_
  obtain ⟨y8,hy8,h⟩:=bC h
  refine zCd (Jy hy8) [4,5] [false,false,true] ?_
  refine zW ?_
  obtain rfl:=sI h
  refine Zl (.inr rfl) hU [.agg (Zg y8.1),(vI y8.2)] (by omega) ?_
  simp only [push_cast,seval,↓reduceIte,Zd,Tryz.results92,hN0,hN]
 replace h:=Zp G9 h
 refine zQ [2,3,4,41] ?_
 refine Zo (t:=(a0.Kind == 3)) rfl (fun Jz => ?_) (fun Jz => ?_)
 ·replace h:=Zq Jz h
  refine Zf ?_
  obtain ⟨y10,hy10,h⟩:=bC h
  refine zCd (Ur hy10) [4,5] [false,false,true] ?_
  refine zW ?_
  obtain rfl:=sI h
  refine Zl (.inr rfl) hU [.agg (Zg y10.1),(vI y10.2)] (by omega) ?_
  simp only [push_cast,seval,↓reduceIte,Zd,Tryz.results92,hN0,hN]
 replace h:=Zp Jz h
 refine Xs [4] [false,false,true] ?_
 refine Zf ?_
 refine Gi [4,5] [false,false,true] ?_
 refine zW ?_
 obtain rfl:=sI h
 refine Zl (.inr rfl) hU [.agg [(vI 0),nV,nV],(vI 13)] (by omega) ?_
 simp only [push_cast,seval,↓reduceIte,Zd,Tryz.results92,hN0,hN]
theorem Zlp {Yb:(Zi→Zb→Option (Za×Int))} {Z6:(Zi→Zb→Option (Za×Int))} {Ym:(Zi→Zb→Option (Za×Int))} {Z5:((List Zt)→Zb→Option ((List Za)×Int))} {Z0:(Zj→Ya→Option (Int×Zj))} {Zz:(Zj→Zi→Option (Int×Zj))} (Ji:Vf Yb) (Jy:Qz Z6) (Ur:Vg Ym) (Jm:Qm Z5) (Q6:Qa Z0) (Qb:X9 Zz) {a0:Zi} {a1:Zb} {r:(Za×Int)} {O:Objs} {n:Nat} (h:Q8 Yb Z6 Ym Z5 Z0 Zz a0 a1=some r):GTo Tryz.prog 152 [.agg (Zm a0),.agg (Zk a1)] O n (.tup [.agg (Zg r.1),(vI r.2)]) O n:=by
 unfold Q8 at h
 refine Uw Zs Tryz.call152 Tryz.func152 rfl fun hU hN0 hN => ?_
 show W _ _ _ _ ⟨35,[],[(0,.agg (Zm a0)),(1,.agg (Zk a1))]⟩ (Zx O n []) _
 refine zQ [2,3,4] ?_
 refine Zf ?_
 refine Zf ?_
 obtain ⟨y2,hy2,h⟩:=bC h
 refine zCd (Q0 hy2) [2,3,4,11] [true,true,true] ?_
 refine Zo (t:=(y2 != 1)) rfl (fun c8 => ?_) (fun c8 => ?_)
 ·replace h:=Zq c8 h
  refine Zf ?_
  refine Gi [4,5] [false,false,true] ?_
  refine zW ?_
  obtain rfl:=sI h
  refine Zl (.inr rfl) hU [.agg [(vI 0),nV,nV],(vI 13)] (by omega) ?_
  simp only [push_cast,seval,↓reduceIte,Zd,Tryz.results152,hN0,hN]
 replace h:=Zp c8 h
 refine Xs [2,3,4] [true,true,true] ?_
 refine Zf ?_
 obtain ⟨y4,hy4,h⟩:=bC h
 refine zCd (Zkp hy4) [2,3,4,6,7] [true,true,true] ?_
 refine Zf ?_
 refine zQ [2,3,4,6,7,21] ?_
 refine Zo (t:=(y4.2 != 0)) rfl (fun c7 => ?_) (fun c7 => ?_)
 ·replace h:=Zq c7 h
  refine Zf ?_
  refine Gi [4,5] [false,false,true] ?_
  refine zW ?_
  obtain rfl:=sI h
  refine Zl (.inr rfl) hU [.agg [(vI 0),nV,nV],(vI y4.2)] (by omega) ?_
  simp only [push_cast,seval,↓reduceIte,Zd,Tryz.results152,hN0,hN]
 replace h:=Zp c7 h
 refine Xs [2,3,4,6] [true,true,true] ?_
 refine Zf ?_
 obtain ⟨y6,hy6,h⟩:=bC h
 refine zCd (Jm hy6) [4,6,7,8] [false,false,true] ?_
 refine Zf ?_
 refine Gi [4,5] [false,false,true] ?_
 refine zW ?_
 obtain rfl:=sI h
 refine Zl (.inr rfl) hU [.agg [(vI 1),(sL (eI .u64) y4.1),(sL Zc y6.1)],(vI y6.2)] (by omega) ?_
 simp only [push_cast,seval,↓reduceIte,Zd,Tryz.results152,hN0,hN]
theorem Zsx {Yb:(Zi→Zb→Option (Za×Int))} {Z6:(Zi→Zb→Option (Za×Int))} {Ym:(Zi→Zb→Option (Za×Int))} {Z5:((List Zt)→Zb→Option ((List Za)×Int))} {Z0:(Zj→Ya→Option (Int×Zj))} {Zz:(Zj→Zi→Option (Int×Zj))} (Ji:Vf Yb) (Jy:Qz Z6) (Ur:Vg Ym) (Jm:Qm Z5) (Q6:Qa Z0) (Qb:X9 Zz) {a0:Zi} {a1:Zb} {r:(Za×Int)} {O:Objs} {n:Nat} (h:Kh Yb Z6 Ym Z5 Z0 Zz a0 a1=some r):GTo Tryz.prog 153 [.agg (Zm a0),.agg (Zk a1)] O n (.tup [.agg (Zg r.1),(vI r.2)]) O n:=by
 unfold Kh at h
 refine Uw Zs Tryz.call153 Tryz.func153 rfl fun hU hN0 hN => ?_
 show W _ _ _ _ ⟨49,[],[(0,.agg (Zm a0)),(1,.agg (Zk a1))]⟩ (Zx O n []) _
 refine zQ [2,3,4] ?_
 refine Zf ?_
 obtain ⟨z3,hz3,h⟩:=bC h
 refine Y1 (E':=⟨49,[],[(2,.ref n 0),(3,.ref (n+1) 0),(4,.ref (n+2) 0),(20,(vB z3))]⟩) (O':=(Zx O n [some ⟨false,30,11,1,(Zm a0)⟩,some ⟨false,62,9,1,(Zk a1)⟩,some ⟨false,25,3,1,[(vI 0),nV,nV]⟩])) (n0:=(n+3)) ?_ ?_
 ·obtain ⟨y6,hy6,hz3⟩:=bC hz3
  rcases Bool.eq_false_or_eq_true (y6 != a0.List_) with c8 | c8
  ·replace hz3:=Zq c8 hz3
   refine Xl Zs (by kernel_rfl) (Z4x []) (by kernel_rfl) ?_
   refine zX1 c8 ?_
   refine PCall.of (Q0 hy6) ?_
   refine zX1 c8 ?_
   exact Ju hz3 c8
  replace hz3:=Zp c8 hz3
  obtain ⟨y7,hy7,hz3⟩:=bC hz3
  refine Xl Zs (by kernel_rfl) (Zx8 []) (by kernel_rfl) ?_
  refine zX1 c8 ?_
  refine PCall.of (Q0 hy6) ?_
  refine zX1 c8 ?_
  refine PCall.of (Zpt hy7) ?_
  refine zX1 c8 ?_
  exact Ju hz3 c8
 refine Zo (t:=z3) rfl (fun c19 => ?_) (fun c19 => ?_)
 ·replace h:=Zq c19 h
  refine Zf ?_
  refine Gi [4,5] [false,false,true] ?_
  refine zW ?_
  obtain rfl:=sI h
  refine Zl (.inr rfl) hU [.agg [(vI 0),nV,nV],(vI 13)] (by omega) ?_
  simp only [push_cast,seval,↓reduceIte,Zd,Tryz.results153,hN0,hN]
 replace h:=Zp c19 h
 refine Xs [2,3,4] [true,true,true] ?_
 refine Zf ?_
 refine Gi [2,3,4,6] [true,true,true,true] ?_
 refine Zf ?_
 refine zQd [2,3,4,6,25,26,27] [2,3,4,6,25,26,27] [true,true,true,true] ?_
 refine Zcf (E':=(⟨49,[],[(2,.ref n 0),(3,.ref (n+1) 0),(4,.ref (n+2) 0),(6,.ref (n+3) 0),(25,(sL Yg a0.Ops)),(26,(vI (a0.Ops.length:Int))),(27,(vI 0))]⟩:Env)) (O':=(Zx O n [some ⟨false,30,11,1,(Zm a0)⟩,some ⟨false,62,9,1,(Zk a1)⟩,some ⟨false,25,3,1,[(vI 0),nV,nV]⟩,some ⟨false,255,11,1,[(gP Zh a1.a),(vI a1.kind),(vI a1.segment),(vI a1.at_),(vI a1.words),(vI a1.ptrs),(vI a1.count),(vI a1.code),(vI a1.index),(vI 0),.row (n+4) ([]:List Za).length]⟩,some (oR 25 3 Zc ([]:List Za)),none])) (n':=(n+6)) ?_ ?_
 ·refine Fit2.trans (E':=(⟨49,[],[(2,.ref n 0),(3,.ref (n+1) 0),(4,.ref (n+2) 0),(6,.ref (n+3) 0),(25,(sL Yg a0.Ops)),(26,(vI (a0.Ops.length:Int))),(27,(vI 0))]⟩:Env)) (O':=(Zx O n [some ⟨false,30,11,1,(Zm a0)⟩,some ⟨false,62,9,1,(Zk a1)⟩,some ⟨false,25,3,1,[(vI 0),nV,nV]⟩,some ⟨false,255,11,1,[(gP Zh a1.a),(vI a1.kind),(vI a1.segment),(vI a1.at_),(vI a1.words),(vI a1.ptrs),(vI a1.count),(vI a1.code),(vI a1.index),(vI 0),nV]⟩])) (n':=(n+4)) (Fit2.of (Y0 hU rfl rfl ?_) (by omega)) ?_
  ·exact zSe
  refine Fit2.trans (Zbw (p:=(n+3)) (k:=10) (q:=⟨false,255,11,1,[(gP Zh a1.a),(vI a1.kind),(vI a1.segment),(vI a1.at_),(vI a1.words),(vI a1.ptrs),(vI a1.count),(vI a1.code),(vI a1.index),(vI 0),nV]⟩) 25 3 (by simp only [Zaa,Zc8,List.getElem?_cons_zero,List.getElem?_cons_succ,Option.join_some,List.length_nil]) rfl (by omega)) ?_
  simp only [Kg,Q3,Zah,List.set_cons_zero,List.set_cons_succ,List.cons_append,List.nil_append,List.length_cons,List.length_nil,Nat.zero_add,Nat.reduceAdd,Nat.reduceLT,Nat.add_assoc]
  refine Zcm (k:=5) (k':=6) hU [0,1,2,3,4] [0,1,2,3,4,0] rfl rfl rfl rfl ⟨rfl,rfl⟩ ?_
  exact zSe
 obtain ⟨z15,hz15,h⟩:=bC h
 refine Ut (J:=(Xg (fun z15=>JR n (⟨49,[],[(4,.ref (n+2) 0),(5,(vI z15))]⟩:Env) (Zx O n [none,none,some ⟨false,25,3,1,[(vI 0),nV,nV]⟩,none]) (n+4)) (fun z15=>JX 0 n (⟨49,[],[(2,.ref n 0),(3,.ref (n+1) 0),(4,.ref (n+2) 0),(6,.ref (n+3) 0)]⟩:Env) (Zx O n [some ⟨false,30,11,1,(Zm a0)⟩,some ⟨false,62,9,1,(Zk a1)⟩,some ⟨false,25,3,1,[(vI 0),nV,nV]⟩,some ⟨false,255,11,1,[(gP Zh z15.1),(vI z15.2.1),(vI z15.2.2.1),(vI z15.2.2.2.1),(vI z15.2.2.2.2.1),(vI z15.2.2.2.2.2.1),(vI z15.2.2.2.2.2.2.1),(vI z15.2.2.2.2.2.2.2.1),(vI z15.2.2.2.2.2.2.2.2.1),(vI z15.2.2.2.2.2.2.2.2.2.1),.row (n+4) z15.2.2.2.2.2.2.2.2.2.2.length]⟩,some (oR 25 3 Zc z15.2.2.2.2.2.2.2.2.2.2),none]) (n+6)))) (z:=z15) ?_ fun hw => ?_
 ·refine Xd hz15 (fun s0_=>⟨49,[],[(2,.ref n 0),(3,.ref (n+1) 0),(4,.ref (n+2) 0),(6,.ref (n+3) 0),(25,(sL Yg a0.Ops)),(26,(vI (a0.Ops.length:Int))),(27,(vI s0_.1))]⟩) (fun s0_=>(Zx O n [some ⟨false,30,11,1,(Zm a0)⟩,some ⟨false,62,9,1,(Zk a1)⟩,some ⟨false,25,3,1,[(vI 0),nV,nV]⟩,some ⟨false,255,11,1,[(gP Zh s0_.2.1),(vI s0_.2.2.1),(vI s0_.2.2.2.1),(vI s0_.2.2.2.2.1),(vI s0_.2.2.2.2.2.1),(vI s0_.2.2.2.2.2.2.1),(vI s0_.2.2.2.2.2.2.2.1),(vI s0_.2.2.2.2.2.2.2.2.1),(vI s0_.2.2.2.2.2.2.2.2.2.1),(vI s0_.2.2.2.2.2.2.2.2.2.2.1),.row (n+4) s0_.2.2.2.2.2.2.2.2.2.2.2.length]⟩,some (oR 25 3 Zc s0_.2.2.2.2.2.2.2.2.2.2.2),none])) (Xg (fun z15=>JR n (⟨49,[],[(4,.ref (n+2) 0),(5,(vI z15))]⟩:Env) (Zx O n [none,none,some ⟨false,25,3,1,[(vI 0),nV,nV]⟩,none]) (n+4)) (fun z15=>JX 0 n (⟨49,[],[(2,.ref n 0),(3,.ref (n+1) 0),(4,.ref (n+2) 0),(6,.ref (n+3) 0)]⟩:Env) (Zx O n [some ⟨false,30,11,1,(Zm a0)⟩,some ⟨false,62,9,1,(Zk a1)⟩,some ⟨false,25,3,1,[(vI 0),nV,nV]⟩,some ⟨false,255,11,1,[(gP Zh z15.1),(vI z15.2.1),(vI z15.2.2.1),(vI z15.2.2.2.1),(vI z15.2.2.2.2.1),(vI z15.2.2.2.2.2.1),(vI z15.2.2.2.2.2.2.1),(vI z15.2.2.2.2.2.2.2.1),(vI z15.2.2.2.2.2.2.2.2.1),(vI z15.2.2.2.2.2.2.2.2.2.1),.row (n+4) z15.2.2.2.2.2.2.2.2.2.2.length]⟩,some (oR 25 3 Zc z15.2.2.2.2.2.2.2.2.2.2),none]) (n+6))) ?_
  intro s0_ x0_ hs0_
  unfold Ul at hs0_
  try dsimp only
  refine zQ [2,3,4,6,25,26,27,28] ?_
  refine Zf ?_
  refine Zo (t:=(decide (s0_.1 < (a0.Ops.length:Int)))) rfl (fun c14 => ?_) (fun c14 => ?_)
  ·replace hs0_:=Zq c14 hs0_
   refine Xs [2,3,4,6,25,26,27] [true,true,true,true,true,false] ?_
   refine Zf ?_
   refine Yh ?_
   refine Zf ?_
   obtain ⟨x10,hx10,ax10,bx10,cx10,hs0_⟩:=bE (f:=Yg) Zlg (fun _=>rfl) (by decide) hs0_
   refine Zgu [] ax10 bx10 cx10 ?_
   refine zDs [2,3,4,6,8,25,26,27] [true,true,true,true,true,false,true] ?_
   obtain ⟨y12,hy12,hs0_⟩:=bC hs0_
   refine zR ?_
   refine (Q6 (i0:=(n+3)) (j0_0:=(n+4)) (by omega) (by omega) (by omega) (by simp only [push_cast,seval,↓reduceIte,Zd,Zbx,hN0,hN] <;> rfl) (by simp only [push_cast,seval,↓reduceIte,Zd,Zbx,hN0,hN] <;> rfl) hy12).then ?_
   refine zS ?_
   refine zD [2,3,4,6,9,25,26,27] [true,true,true,true,false,false,false,true] ?_
   refine zQ [2,3,4,6,9,25,26,27,34] ?_
   refine Zo (t:=(y12.1 != 0)) rfl (fun c13 => ?_) (fun c13 => ?_)
   ·replace hs0_:=Zq c13 hs0_
    refine Zf ?_
    refine Gi [4,5] [false,false,true,false,false,false,false,false] ?_
    refine zW ?_
    exact zEy hs0_
   replace hs0_:=Zp c13 hs0_
   refine Xs [2,3,4,6,25,26,27] [true,true,true,true,false,false,false,true] ?_
   refine zR ?_
   obtain rfl:=sI hs0_
   refine And.intro rfl ?_
   refine Fit2.trans (E':=(⟨49,[],[(2,.ref n 0),(3,.ref (n+1) 0),(4,.ref (n+2) 0),(6,.ref (n+3) 0),(25,(sL Yg a0.Ops)),(26,(vI (a0.Ops.length:Int))),(27,(vI (IntKind.i64.wrap (s0_.1+1))))]⟩:Env)) (O':=(Zx O n [some ⟨false,30,11,1,(Zm a0)⟩,some ⟨false,62,9,1,(Zk a1)⟩,some ⟨false,25,3,1,[(vI 0),nV,nV]⟩,some ⟨false,255,11,1,[(gP Zh y12.2.r.a),(vI y12.2.r.kind),(vI y12.2.r.segment),(vI y12.2.r.at_),(vI y12.2.r.words),(vI y12.2.r.ptrs),(vI y12.2.r.count),(vI y12.2.r.code),(vI y12.2.r.index),(vI y12.2.gone),.row (n+7) y12.2.out.length]⟩,none,none,none,some (oR 25 3 Zc y12.2.out)])) (n':=(n+8)) (Fit2.of (Y0 hU rfl rfl ?_) (by omega)) ?_
   ·exact zSe
   refine Zcm (k:=8) (k':=6) hU [0,1,2,3,5,5,5,4] [0,1,2,3,7,0] rfl rfl rfl rfl ⟨rfl,rfl⟩ ?_
   exact zSe
  replace hs0_:=Zp c14 hs0_
  exact zEx hs0_
 rcases z15 with z15 | z15
 ·dsimp only [Xg] at hw h
  refine Q1 hw ?_
  try simp only [Yv,Z9,↓reduceIte,Nat.reduceEqDiff]
  obtain rfl:=sI h
  refine Zl (.inr rfl) hU [.agg [(vI 0),nV,nV],(vI z15)] (by omega) ?_
  simp only [push_cast,seval,↓reduceIte,Zd,Tryz.results153,hN0,hN]
 dsimp only [Xg] at hw h
 refine Yn hw ?_
 try simp only [Yv,Z9,↓reduceIte,Nat.reduceEqDiff]
 refine zDs [2,3,4,6] [true,true,true,true,true,false] ?_
 refine Zf ?_
 obtain ⟨y17,hy17,h⟩:=bC h
 refine Xl Zs (by kernel_rfl) [] (by kernel_rfl) ?_
 refine zS ?_
 refine PCall.of (Xw hy17) ?_
 refine zS ?_
 refine zD [2,4,6,42] [true,false,true,true,true,false] ?_
 refine Zo (t:=(decide (z15.2.2.2.2.2.2.2.2.2.1 < y17))) rfl (fun c18 => ?_) (fun c18 => ?_)
 ·replace h:=Zq c18 h
  refine Zf ?_
  refine Gi [4,5] [false,false,true,false,false,false] ?_
  refine zW ?_
  obtain rfl:=sI h
  refine Zl (.inr rfl) hU [.agg [(vI 0),nV,nV],(vI 13)] (by omega) ?_
  simp only [push_cast,seval,↓reduceIte,Zd,Tryz.results153,hN0,hN]
 replace h:=Zp c18 h
 refine Xs [2,4,6] [true,false,true,true,true,false] ?_
 refine Zf ?_
 refine Gi [4,5] [false,false,true,false,true,false] ?_
 refine zW ?_
 obtain rfl:=sI h
 refine Zl (.inr rfl) hU [.agg [(vI a0.List_),nV,.row (n+4) z15.2.2.2.2.2.2.2.2.2.2.length],(vI 0)] (by omega) ?_
 simp only [push_cast,seval,↓reduceIte,Zd,Tryz.results153,hN0,hN]
theorem Zkt {Yb:(Zi→Zb→Option (Za×Int))} {Z6:(Zi→Zb→Option (Za×Int))} {Ym:(Zi→Zb→Option (Za×Int))} {Z5:((List Zt)→Zb→Option ((List Za)×Int))} {Z0:(Zj→Ya→Option (Int×Zj))} {Zz:(Zj→Zi→Option (Int×Zj))} (Ji:Vf Yb) (Jy:Qz Z6) (Ur:Vg Ym) (Jm:Qm Z5) (Q6:Qa Z0) (Qb:X9 Zz) {a0:(List Zt)} {a1:Zb} {r:((List Za)×Int)} {O:Objs} {n:Nat} (h:Qr Yb Z6 Ym Z5 Z0 Zz a0 a1=some r):GTo Tryz.prog 226 [(sL Zr a0),.agg (Zk a1)] O n (.tup [(sL Zc r.1),(vI r.2)]) O n:=by
 unfold Qr at h
 refine Uw Zs Tryz.call226 Tryz.func226 rfl fun hU hN0 hN => ?_
 show W _ _ _ _ ⟨94,[],[(0,(sL Zr a0)),(1,.agg (Zk a1))]⟩ (Zx O n []) _
 refine zQ [0,3] ?_
 refine zQ [0,3,6] ?_
 refine Zf ?_
 refine Zf ?_
 obtain ⟨y2,hy2,h⟩:=bC h
 refine zCd (Xw hy2) [0,3,6,16,17] [true] ?_
 refine zD [0,3,6,16,17] [true] ?_
 refine Zcf (E':=(⟨94,[],[(0,(sL Zr a0)),(3,.ref n 0),(6,.row (n+1) ([]:List Za).length),(16,(vI y2)),(17,(vI 0))]⟩:Env)) (O':=(Zx O n [some ⟨false,62,9,1,(Zk a1)⟩,some (oR 25 3 Zc ([]:List Za)),none])) (n':=(n+3)) ?_ ?_
 ·refine Fit2.trans (E':=(⟨94,[],[(0,(sL Zr a0)),(3,.ref n 0),(6,nV),(16,(vI y2)),(17,(vI 0))]⟩:Env)) (O':=(Zx O n [some ⟨false,62,9,1,(Zk a1)⟩])) (n':=(n+1)) (Fit2.of (Y0 hU rfl rfl ?_) (by omega)) ?_
  ·exact zSe
  refine Fit2.trans (Zmq 6 25 3 rfl (by omega)) ?_
  simp only [Kg,Q3,Zah,List.set_cons_zero,List.set_cons_succ,List.cons_append,List.nil_append,List.length_cons,List.length_nil,Nat.zero_add,Nat.reduceAdd,Nat.reduceLT,Nat.add_assoc]
  refine Fit2.trans (E':=(⟨94,[],[(0,(sL Zr a0)),(3,.ref n 0),(6,.row (n+1) ([]:List Za).length),(16,(vI y2)),(17,(vI 0))]⟩:Env)) (O':=(Zx O n [some ⟨false,62,9,1,(Zk a1)⟩,some (oR 25 3 Zc ([]:List Za))])) (n':=(n+2)) (Fit2.of (Y0 hU rfl rfl ?_) (by omega)) ?_
  ·exact zSe
  refine Zcm (k:=2) (k':=3) hU [0,1] [0,1,0] rfl rfl rfl rfl ⟨rfl,rfl⟩ ?_
  exact zSe
 obtain ⟨z13,hz13,h⟩:=bC h
 refine Ut (J:=(Xg (fun z13=>JR n (⟨94,[],[(4,nV),(5,(vI z13))]⟩:Env) (Zx O n [none]) (n+1)) (fun z13=>JX 0 n (⟨94,[],[(0,(sL Zr a0)),(3,.ref n 0),(6,.row (n+1) z13.length)]⟩:Env) (Zx O n [some ⟨false,62,9,1,(Zk a1)⟩,some (oR 25 3 Zc z13),none]) (n+3)))) (z:=z13) ?_ fun hw => ?_
 ·refine Xd hz13 (fun s0_=>⟨94,[],[(0,(sL Zr a0)),(3,.ref n 0),(6,.row (n+1) s0_.2.length),(16,(vI y2)),(17,(vI s0_.1))]⟩) (fun s0_=>(Zx O n [some ⟨false,62,9,1,(Zk a1)⟩,some (oR 25 3 Zc s0_.2),none])) (Xg (fun z13=>JR n (⟨94,[],[(4,nV),(5,(vI z13))]⟩:Env) (Zx O n [none]) (n+1)) (fun z13=>JX 0 n (⟨94,[],[(0,(sL Zr a0)),(3,.ref n 0),(6,.row (n+1) z13.length)]⟩:Env) (Zx O n [some ⟨false,62,9,1,(Zk a1)⟩,some (oR 25 3 Zc z13),none]) (n+3))) ?_
  intro s0_ x0_ hs0_
  unfold Jk at hs0_
  try dsimp only
  refine zQ [0,3,6,16,17,18] ?_
  refine Zf ?_
  refine Zo (t:=(decide (s0_.1 < y2))) rfl (fun G9 => ?_) (fun G9 => ?_)
  ·replace hs0_:=Zq G9 hs0_
   refine Xs [0,3,6,16,17] [true,true,false] ?_
   refine Zf ?_
   refine Yh ?_
   refine zQ [0,3,6,7,16,17] ?_
   refine Zf ?_
   obtain ⟨y4,hy4,hs0_⟩:=bC hs0_
   refine zCd (Zck hy4) [0,3,6,7,8,9,16,17] [true,true,false,true] ?_
   refine Zf ?_
   refine zQ [0,3,6,7,8,9,16,17,27] ?_
   refine Zo (t:=(y4.2 != 0)) rfl (fun Jz => ?_) (fun Jz => ?_)
   ·replace hs0_:=Zq Jz hs0_
    refine zQ [4,5] ?_
    refine zW ?_
    exact zEy hs0_
   replace hs0_:=Zp Jz hs0_
   refine Xs [0,3,6,7,8,16,17] [true,true,false,true] ?_
   refine Zf ?_
   obtain ⟨y7,hy7,hs0_⟩:=bC hs0_
   obtain ⟨y8,hy8,hs0_⟩:=bC hs0_
   refine Zai Zs (by kernel_rfl) [.plain,.plain,.low,.low,.low,.plain,.plain,.plain,.pass,.bar,.plain] (fun i=>i < (n+4)) [0,1,2,3,4,5,6,7,8,9,10] [.plain,.plain,.low,.low,.low,.plain,.plain,.plain,.pass,.bar,.plain] [] (by kernel_rfl) rfl ?_
   refine zS ?_
   refine zO ?_
   first | refine PCallA.of (fun _ _=>Zio hy7) ?_ | refine PCall.of (Zio hy7) ?_
   refine zS ?_
   refine zO ?_
   first | refine PCallA.of (fun _ _=>Ji hy8) ?_ | refine PCall.of (Ji hy8) ?_
   refine zS ?_
   refine zO ?_
   refine zDs [0,3,6,9,10,16,17] [true,true,false,false,true] ?_
   refine zQ [0,3,6,9,10,16,17,38] ?_
   refine Zo (t:=(y8.2 != 0)) rfl (fun c10 => ?_) (fun c10 => ?_)
   ·replace hs0_:=Zq c10 hs0_
    refine zQ [4,5] ?_
    refine zW ?_
    exact zEy hs0_
   replace hs0_:=Zp c10 hs0_
   refine Xs [0,3,6,10,16,17] [true,true,false,false,true] ?_
   obtain ⟨l9,pl9,ql9,el9,hs0_⟩:=bA (k:=1) rfl hs0_
   refine Za0 [] pl9 ql9 el9 ?_
   refine Za5 ⟨94,[],[(0,(sL Zr a0)),(3,.ref n 0),(6,.row (n+1) l9.length),(16,(vI y2)),(17,(vI s0_.1))]⟩ (Zx O n [some ⟨false,62,9,1,(Zk a1)⟩,some (oR 25 3 Zc l9),none,none,none,none]) (Y0 hU rfl rfl ?_) ?_
   ·exact Zt5 pl9 ql9 el9
   refine zR ?_
   exact Vh hs0_
  replace hs0_:=Zp G9 hs0_
  exact zEx hs0_
 rcases z13 with z13 | z13
 ·dsimp only [Xg] at hw h
  refine Q1 hw ?_
  try simp only [Yv,Z9,↓reduceIte,Nat.reduceEqDiff]
  obtain rfl:=sI h
  refine Zl (.inr rfl) hU [nV,(vI z13)] (by omega) ?_
  simp only [push_cast,seval,↓reduceIte,Zd,Tryz.results226,hN0,hN]
 dsimp only [Xg] at hw h
 refine Yn hw ?_
 try simp only [Yv,Z9,↓reduceIte,Nat.reduceEqDiff]
 refine zDs [0,3,6] [true,true,false] ?_
 refine zQd [3,6,45,46,47] [3,6,45,46,47] [true,true,false] ?_
 obtain ⟨z31,hz31,h⟩:=bC h
 refine Ut (J:=(Xg (fun z31=>JR n (⟨94,[],[(4,nV),(5,(vI z31))]⟩:Env) (Zx O n [none,none,none]) (n+3)) (fun z31=>JX 2 n (⟨94,[],[(6,.row (n+1) z31.length)]⟩:Env) (Zx O n [none,some (oR 25 3 Zc z31),none]) (n+3)))) (z:=z31) ?_ fun hw => ?_
 ·refine Xd hz31 (fun s1_=>⟨94,[],[(3,.ref n 0),(6,.row (n+1) s1_.2.length),(45,(sL Zr a0)),(46,(vI (a0.length:Int))),(47,(vI s1_.1))]⟩) (fun s1_=>(Zx O n [some ⟨false,62,9,1,(Zk a1)⟩,some (oR 25 3 Zc s1_.2),none])) (Xg (fun z31=>JR n (⟨94,[],[(4,nV),(5,(vI z31))]⟩:Env) (Zx O n [none,none,none]) (n+3)) (fun z31=>JX 2 n (⟨94,[],[(6,.row (n+1) z31.length)]⟩:Env) (Zx O n [none,some (oR 25 3 Zc z31),none]) (n+3))) ?_
  intro s1_ x1_ hs1_
  unfold Xr at hs1_
  try dsimp only
  refine zQ [3,6,45,46,47,48] ?_
  refine Zf ?_
  refine Zo (t:=(decide (s1_.1 < (a0.length:Int)))) rfl (fun c30 => ?_) (fun c30 => ?_)
  ·replace hs1_:=Zq c30 hs1_
   refine Xs [3,6,45,46,47] [true,true,false] ?_
   obtain ⟨z14,hz14,hs1_⟩:=bC hs1_
   refine Ztk (J:=(Xg (fun z14=>JN n (⟨94,[],[(3,.ref n 0),(6,.row (n+1) z14.length),(45,(sL Zr a0)),(46,(vI (a0.length:Int))),(47,(vI s1_.1))]⟩:Env) (Zx O n [some ⟨false,62,9,1,(Zk a1)⟩,some (oR 25 3 Zc z14),none,none,none,none]) (n+6)) (fun z14=>JR n (⟨94,[],[(4,nV),(5,(vI z14))]⟩:Env) (Zx O n [none,none,none]) (n+3)))) (z:=z14) ?_ fun hw => ?_
   ·refine Yh ?_
    refine Zf ?_
    obtain ⟨x16,hx16,ax16,bx16,cx16,hz14⟩:=bE (f:=Zr) Zh6 (fun _=>rfl) (by decide) hz14
    refine Zgu [] ax16 bx16 cx16 ?_
    refine zDs [3,6,12,45,46,47] [true,true,false,true] ?_
    refine Zf ?_
    obtain ⟨y18,hy18,hz14⟩:=bC hz14
    refine Xl Zs (by kernel_rfl) [] (by kernel_rfl) ?_
    refine zS ?_
    refine PCall.of (Xw hy18) ?_
    refine zS ?_
    refine zD [3,6,12,45,46,47,55] [true,true,false,true] ?_
    refine Zo (t:=(decide (x16.At < y18))) rfl (fun c29 => ?_) (fun c29 => ?_)
    ·replace hz14:=Zq c29 hz14
     refine zXt ?_
     exact Vh hz14
    replace hz14:=Zp c29 hz14
    refine Xs [3,6,12,45,46,47] [true,true,false,true] ?_
    refine Zf ?_
    obtain ⟨y20,hy20,hz14⟩:=bC hz14
    refine zCd (Ji hy20) [3,6,12,13,14,45,46,47] [true,true,false,true,true] ?_
    obtain ⟨z21,hz21,hz14⟩:=bC hz14
    refine Y1 (E':=⟨94,[],[(3,.ref n 0),(6,.row (n+1) s1_.2.length),(12,.ref (n+3) 0),(13,.ref (n+4) 0),(14,(vI z21)),(45,(sL Zr a0)),(46,(vI (a0.length:Int))),(47,(vI s1_.1))]⟩) (O':=(Zx O n [some ⟨false,62,9,1,(Zk a1)⟩,some (oR 25 3 Zc s1_.2),none,some ⟨false,86,12,1,(Q2 x16)⟩,some ⟨false,25,3,1,(Zg y20.1)⟩])) (n0:=(n+5)) ?_ ?_
    ·refine zQ [3,6,12,13,14,45,46,47,65] ?_
     refine Zo (t:=(decide (65534 < x16.At))) rfl (fun c22 => ?_) (fun c22 => ?_)
     ·replace hz21:=Zq c22 hz21
      refine zR ?_
      exact Vh hz21
     replace hz21:=Zp c22 hz21
     refine zK ?_
     exact Vh hz21
    refine Zf ?_
    refine zQ [3,6,12,13,14,45,46,47,67] ?_
    refine Zo (t:=(z21 != 0)) rfl (fun c28 => ?_) (fun c28 => ?_)
    ·replace hz14:=Zq c28 hz14
     refine zQ [4,5] ?_
     refine zW ?_
     exact Vh hz14
    replace hz14:=Zp c28 hz14
    refine Xs [3,6,12,13,45,46,47] [true,true,false,true,true] ?_
    refine Zf ?_
    refine zD [3,6,12,13,45,46,47] [true,true,false,true,true] ?_
    obtain ⟨z25,hz25,hz14⟩:=bC hz14
    refine Yn (E':=⟨94,[],[(3,.ref n 0),(6,.row (n+1) z25.length),(12,.ref (n+3) 0),(13,.ref (n+4) 0),(45,(sL Zr a0)),(46,(vI (a0.length:Int))),(47,(vI s1_.1))]⟩) (O':=(Zx O n [some ⟨false,62,9,1,(Zk a1)⟩,some (oR 25 3 Zc z25),none,some ⟨false,86,12,1,(Q2 x16)⟩,some ⟨false,25,3,1,(Zg y20.1)⟩])) (n0:=(n+5)) ?_ ?_
    ·refine Xd hz25 (fun s2_=>⟨94,[],[(3,.ref n 0),(6,.row (n+1) s2_.length),(12,.ref (n+3) 0),(13,.ref (n+4) 0),(45,(sL Zr a0)),(46,(vI (a0.length:Int))),(47,(vI s1_.1))]⟩) (fun s2_=>(Zx O n [some ⟨false,62,9,1,(Zk a1)⟩,some (oR 25 3 Zc s2_),none,some ⟨false,86,12,1,(Q2 x16)⟩,some ⟨false,25,3,1,(Zg y20.1)⟩])) (fun z25=>JX 4 n (⟨94,[],[(3,.ref n 0),(6,.row (n+1) z25.length),(12,.ref (n+3) 0),(13,.ref (n+4) 0),(45,(sL Zr a0)),(46,(vI (a0.length:Int))),(47,(vI s1_.1))]⟩:Env) (Zx O n [some ⟨false,62,9,1,(Zk a1)⟩,some (oR 25 3 Zc z25),none,some ⟨false,86,12,1,(Q2 x16)⟩,some ⟨false,25,3,1,(Zg y20.1)⟩]) (n+5)) ?_
     intro s2_ x2_ hs2_
     unfold Jl at hs2_
     try dsimp only
     refine Zf ?_
     refine zQD [3,6,12,13,45,46,47,78] [none,none,none] ?_
     refine Zo (t:=(cond (decide ((s2_.length:Int) < x16.At)) (y20.1.Kind != 0) false)) rfl (fun c24 => ?_) (fun c24 => ?_)
     ·replace hs2_:=Zq c24 hs2_
      refine Xs [3,6,12,13,45,46,47] [true,true,false,true,true] ?_
      refine Yh ?_
      obtain ⟨l23,pl23,ql23,el23,hs2_⟩:=bA (k:=1) rfl hs2_
      refine Za0 [] pl23 ql23 el23 ?_
      exact Ze6 hs2_ pl23 ql23 el23
     replace hs2_:=Zp c24 hs2_
     exact zEx hs2_
    try simp only [Yv,Z9,↓reduceIte,Nat.reduceEqDiff]
    refine zD [3,6,12,13,45,46,47] [true,true,false,true,true] ?_
    refine zQ [3,6,13,45,46,47,87] ?_
    refine Zo (t:=(x16.At == (z25.length:Int))) rfl (fun c27 => ?_) (fun c27 => ?_)
    ·replace hz14:=Zq c27 hz14
     obtain ⟨l26,pl26,ql26,el26,hz14⟩:=bA (k:=1) rfl hz14
     refine Za0 [] pl26 ql26 el26 ?_
     exact Ze6 hz14 pl26 ql26 el26
    replace hz14:=Zp c27 hz14
    refine zK ?_
    exact Vh hz14
   rcases z14 with z14 | z14
   ·dsimp only [Xg] at hw hs1_
    refine Y1 hw ?_
    refine zR ?_
    exact Vh hs1_
   dsimp only [Xg] at hw hs1_
   refine Zlr hw ?_
   try simp only [Yv,Z9]
   exact zEy hs1_
  replace hs1_:=Zp c30 hs1_
  exact zEx hs1_
 rcases z31 with z31 | z31
 ·dsimp only [Xg] at hw h
  refine Q1 hw ?_
  try simp only [Yv,Z9,↓reduceIte,Nat.reduceEqDiff]
  obtain rfl:=sI h
  refine Zl (.inr rfl) hU [nV,(vI z31)] (by omega) ?_
  simp only [push_cast,seval,↓reduceIte,Zd,Tryz.results226,hN0,hN]
 dsimp only [Xg] at hw h
 refine Yn hw ?_
 try simp only [Yv,Z9,↓reduceIte,Nat.reduceEqDiff]
 refine zD [6] [false,true,false] ?_
 refine zQ [4,5] ?_
 refine zW ?_
 obtain rfl:=sI h
 refine Zl (.inr rfl) hU [.row (n+1) z31.length,(vI 0)] (by omega) ?_
 simp only [push_cast,seval,↓reduceIte,Zd,Tryz.results226,hN0,hN]
theorem Zjs {Yb:(Zi→Zb→Option (Za×Int))} {Z6:(Zi→Zb→Option (Za×Int))} {Ym:(Zi→Zb→Option (Za×Int))} {Z5:((List Zt)→Zb→Option ((List Za)×Int))} {Z0:(Zj→Ya→Option (Int×Zj))} {Zz:(Zj→Zi→Option (Int×Zj))} (Ji:Vf Yb) (Jy:Qz Z6) (Ur:Vg Ym) (Jm:Qm Z5) (Q6:Qa Z0) (Qb:X9 Zz) {a0:Zj} {a1:Ya} {r:(Int×Zj)} {O:Objs} {n:Nat} {i0 j0_0:Nat} (hi0:i0 < n) (Zfy:j0_0 < n) (Zfg:i0≠j0_0) (ho0:O i0=some ⟨false,255,11,1,[(gP Zh a0.r.a),(vI a0.r.kind),(vI a0.r.segment),(vI a0.r.at_),(vI a0.r.words),(vI a0.r.ptrs),(vI a0.r.count),(vI a0.r.code),(vI a0.r.index),(vI a0.gone),.row j0_0 a0.out.length]⟩) (Zfh:O j0_0=some (oR 25 3 Zc a0.out)) (h:Qd Yb Z6 Ym Z5 Z0 Zz a0 a1=some r):GTo Tryz.prog 227 [.ref i0 0,.agg (Xn a1)] O n ((vI r.1)) (Zx ((O.upd j0_0 none).upd i0 (some ⟨false,255,11,1,[(gP Zh r.2.r.a),(vI r.2.r.kind),(vI r.2.r.segment),(vI r.2.r.at_),(vI r.2.r.words),(vI r.2.r.ptrs),(vI r.2.r.count),(vI r.2.r.code),(vI r.2.r.index),(vI r.2.gone),.row n r.2.out.length]⟩)) n [some (oR 25 3 Zc r.2.out)]) (n+1):=by
 unfold Qd at h
 refine Zwv Zs Tryz.call227 Tryz.func227 rfl (Nat.le_of_ble_eq_true rfl) (by omega) fun hU => ?_
 have e0:=Zqm (ba:=n) (E:=⟨63,[],Zo6 0 [.ref i0 0,.agg [.val (.int .i64 a1.Kind),.val (.int .i64 a1.N),.sl a1.L.length (fl Zc a1.L),.val (.int .i64 a1.E.Kind),.val (.int .i64 a1.E.Old.Kind),.sl a1.E.Old.Words.length (fl (eI .u64) a1.E.Old.Words),.sl a1.E.Old.Kids.length (fl Zc a1.E.Old.Kids),.val (.int .i64 a1.E.New.Kind),.sl a1.E.New.Words.length (fl (eI .u64) a1.E.New.Words),.sl a1.E.New.Kids.length (fl Zc a1.E.New.Kids),.sl a1.E.Words.length (fl Zu a1.E.Words),.sl a1.E.Kids.length (fl Zr a1.E.Kids),.val (.int .i64 a1.E.List_),.sl a1.E.Ops.length (fl Yg a1.E.Ops)]]⟩) (O:=(Zx O n [])) (n:=n) (i:=i0) (j:=j0_0) (k:=10) (len:=a0.out.length) (q:=⟨false,255,11,1,[(gP Zh a0.r.a),.val (.int .i64 a0.r.kind),.val (.int .i64 a0.r.segment),.val (.int .i64 a0.r.at_),.val (.int .i64 a0.r.words),.val (.int .i64 a0.r.ptrs),.val (.int .i64 a0.r.count),.val (.int .i64 a0.r.code),.val (.int .i64 a0.r.index),.val (.int .i64 a0.gone),.row j0_0 a0.out.length]⟩) (qj:=⟨true,25,3,a0.out.length,fl Zc a0.out⟩) (by rw [K7 _ hi0];first | exact ho0 | exact X2 _ _ _) rfl (by rw [K7 _ Zfy];exact Zfh) Zfg (by omega)
 simp only [Zb3 _ _ Zfy,Zb3 _ _ hi0,Kg,Q3,Zge,List.set_cons_zero,List.set_cons_succ,List.cons_append,List.nil_append,List.length_cons,List.length_nil,Nat.zero_add,Nat.reduceAdd,Nat.add_assoc] at e0
 refine Zcf e0 ?_
 have hU:=(Und.drop hU j0_0)
 have hk0:∀ k,i0 < n+k:=fun k=>by omega
 have hN0:∀ o,Objs.upd (O.upd j0_0 none) i0 o n=none:=fun o=>Zce hU hi0 _ (Nat.le_refl _)
 have hN:∀ o k,Objs.upd (O.upd j0_0 none) i0 o (n+k)=none:=fun o k=>Zce hU hi0 _ (Nat.le_add_right _ _)
 show W _ _ _ _ ⟨63,[],[(0,.ref i0 0),(1,.agg (Xn a1))]⟩ (Zx ((O.upd j0_0 none).upd i0 (some ⟨false,255,11,1,[(gP Zh a0.r.a),(vI a0.r.kind),(vI a0.r.segment),(vI a0.r.at_),(vI a0.r.words),(vI a0.r.ptrs),(vI a0.r.count),(vI a0.r.code),(vI a0.r.index),(vI a0.gone),.row n a0.out.length]⟩)) n [some (oR 25 3 Zc a0.out)]) _
 refine Zcn [0,3] hi0 hk0 ?_
 refine Zf ?_
 refine Zcn [0,3,7] hi0 hk0 ?_
 refine Yh ?_
 refine Zcn [0,3,7,8] hi0 hk0 ?_
 refine Zo (t:=(a1.Kind == 0)) rfl (fun c21 => ?_) (fun c21 => ?_)
 ·replace h:=Zq c21 h
  refine Zf ?_
  obtain ⟨z2,hz2,h⟩:=bC h
  refine Y1 (E':=⟨63,[],[(0,.ref i0 0),(3,.ref (n+1) 0),(27,(vB z2))]⟩) (O':=(Zx ((O.upd j0_0 none).upd i0 (some ⟨false,255,11,1,[(gP Zh a0.r.a),(vI a0.r.kind),(vI a0.r.segment),(vI a0.r.at_),(vI a0.r.words),(vI a0.r.ptrs),(vI a0.r.count),(vI a0.r.code),(vI a0.r.index),(vI a0.gone),.row n a0.out.length]⟩)) n [some (oR 25 3 Zc a0.out),some ⟨false,89,14,1,(Xn a1)⟩])) (n0:=(n+2)) ?_ ?_
  ·rcases Bool.eq_false_or_eq_true (decide (a1.N < 0)) with c5 | c5
   ·replace hz2:=Zq c5 hz2
    refine Xl Zs (by kernel_rfl) (Yhq []) (by kernel_rfl) ?_
    refine zX3 c5 hi0 hk0 ?_
    obtain rfl:=sI hz2
    refine And.intro rfl (Fit2.of (Xe hU rfl rfl ?_) (by omega))
    exact Zt5 c5 hi0 hk0
   replace hz2:=Zp c5 hz2
   obtain ⟨y4,hy4,hz2⟩:=bC hz2
   refine Xl Zs (by kernel_rfl) (Yk2 []) (by kernel_rfl) ?_
   refine zX3 c5 hi0 hk0 ?_
   refine PCall.of (Xw hy4) ?_
   refine zX3 c5 hi0 hk0 ?_
   obtain rfl:=sI hz2
   refine And.intro rfl (Fit2.of (Xe hU rfl rfl ?_) (by omega))
   exact Zt5 c5 hi0 hk0
  refine Zo (t:=z2) rfl (fun Jz => ?_) (fun Jz => ?_)
  ·replace h:=Zq Jz h
   refine Zcn [4] hi0 hk0 ?_
   refine zW ?_
   obtain rfl:=sI h
   refine Ux (k:=1) (i:=i0) (q1:=⟨false,255,11,1,[(gP Zh a0.r.a),(vI a0.r.kind),(vI a0.r.segment),(vI a0.r.at_),(vI a0.r.words),(vI a0.r.ptrs),(vI a0.r.count),(vI a0.r.code),(vI a0.r.index),(vI a0.gone),.row n a0.out.length]⟩) (L3:=[some (oR 25 3 Zc a0.out),none]) (E2:=(⟨63,[],[(4,(vI 13))]⟩:Env)) (n3:=(n+2)) (.inr rfl) hU rfl [(vI 13)] ?_ ?_
   ·refine Fit2.trans (E':=(⟨63,[],[(4,(vI 13))]⟩:Env)) (O':=(Zx ((O.upd j0_0 none).upd i0 (some ⟨false,255,11,1,[(gP Zh a0.r.a),(vI a0.r.kind),(vI a0.r.segment),(vI a0.r.at_),(vI a0.r.words),(vI a0.r.ptrs),(vI a0.r.count),(vI a0.r.code),(vI a0.r.index),(vI a0.gone),.row n a0.out.length]⟩)) n [some (oR 25 3 Zc a0.out),none])) (n':=(n+2)) (Fit2.of (Xe hU rfl rfl ?_) (by omega)) ?_
    ·exact K6 hi0 hk0
    refine Qu (k:=2) (k':=2) hU [0,1] [0,0] rfl rfl rfl rfl ⟨rfl,rfl⟩ ?_
    exact K6 hi0 hk0
   simp only [push_cast,seval,↓reduceIte,Zd,Tryz.results227,hi0,hk0,hN0,hN]
  replace h:=Zp Jz h
  refine Xs [0,3] [true,true] ?_
  refine Zf ?_
  refine Zcn [0,29,30] hi0 hk0 ?_
  refine zD [0,29,30] [true,false] ?_
  refine Zcf (E':=(⟨63,[],[(0,.ref i0 0),(29,(vI a1.N)),(30,(vI 0))]⟩:Env)) (O':=(Zx ((O.upd j0_0 none).upd i0 (some ⟨false,255,11,1,[(gP Zh a0.r.a),(vI a0.r.kind),(vI a0.r.segment),(vI a0.r.at_),(vI a0.r.words),(vI a0.r.ptrs),(vI a0.r.count),(vI a0.r.code),(vI a0.r.index),(vI a0.gone),.row (n+2) a0.out.length]⟩)) n [none,none,some (oR 25 3 Zc a0.out)])) (n':=(n+3)) ?_ ?_
  ·refine Fit2.trans (E':=(⟨63,[],[(0,.ref i0 0),(29,(vI a1.N)),(30,(vI 0))]⟩:Env)) (O':=(Zx ((O.upd j0_0 none).upd i0 (some ⟨false,255,11,1,[(gP Zh a0.r.a),(vI a0.r.kind),(vI a0.r.segment),(vI a0.r.at_),(vI a0.r.words),(vI a0.r.ptrs),(vI a0.r.count),(vI a0.r.code),(vI a0.r.index),(vI a0.gone),.row n a0.out.length]⟩)) n [some (oR 25 3 Zc a0.out),none])) (n':=(n+2)) (Fit2.of (Xe hU rfl rfl ?_) (by omega)) ?_
   ·exact K6 hi0 hk0
   refine Qu (k:=2) (k':=3) hU [2,1] [0,0,0] rfl rfl rfl rfl ⟨rfl,rfl⟩ ?_
   exact K6 hi0 hk0
  obtain ⟨z10,hz10,h⟩:=bC h
  refine Ut (J:=(Xg (fun z10=>JR n (⟨63,[],[(4,(vI z10.1))]⟩:Env) (Zx ((O.upd j0_0 none).upd i0 (some ⟨false,255,11,1,[(gP Zh z10.2.2.1),(vI z10.2.2.2.1),(vI z10.2.2.2.2.1),(vI z10.2.2.2.2.2.1),(vI z10.2.2.2.2.2.2.1),(vI z10.2.2.2.2.2.2.2.1),(vI z10.2.2.2.2.2.2.2.2.1),(vI z10.2.2.2.2.2.2.2.2.2.1),(vI z10.2.2.2.2.2.2.2.2.2.2.1),(vI z10.2.2.2.2.2.2.2.2.2.2.2),.row (n+2) z10.2.1.length]⟩)) n [none,none,some (oR 25 3 Zc z10.2.1)]) (n+3)) (fun z10=>JX 1 n (⟨63,[],[]⟩:Env) (Zx ((O.upd j0_0 none).upd i0 (some ⟨false,255,11,1,[(gP Zh z10.2.1),(vI z10.2.2.1),(vI z10.2.2.2.1),(vI z10.2.2.2.2.1),(vI z10.2.2.2.2.2.1),(vI z10.2.2.2.2.2.2.1),(vI z10.2.2.2.2.2.2.2.1),(vI z10.2.2.2.2.2.2.2.2.1),(vI z10.2.2.2.2.2.2.2.2.2.1),(vI z10.2.2.2.2.2.2.2.2.2.2),.row (n+2) z10.1.length]⟩)) n [none,none,some (oR 25 3 Zc z10.1)]) (n+3)))) (z:=z10) ?_ fun hw => ?_
  ·refine Xd hz10 (fun s0_=>⟨63,[],[(0,.ref i0 0),(29,(vI a1.N)),(30,(vI s0_.1))]⟩) (fun s0_=>(Zx ((O.upd j0_0 none).upd i0 (some ⟨false,255,11,1,[(gP Zh s0_.2.2.1),(vI s0_.2.2.2.1),(vI s0_.2.2.2.2.1),(vI s0_.2.2.2.2.2.1),(vI s0_.2.2.2.2.2.2.1),(vI s0_.2.2.2.2.2.2.2.1),(vI s0_.2.2.2.2.2.2.2.2.1),(vI s0_.2.2.2.2.2.2.2.2.2.1),(vI s0_.2.2.2.2.2.2.2.2.2.2.1),(vI s0_.2.2.2.2.2.2.2.2.2.2.2),.row (n+2) s0_.2.1.length]⟩)) n [none,none,some (oR 25 3 Zc s0_.2.1)])) (Xg (fun z10=>JR n (⟨63,[],[(4,(vI z10.1))]⟩:Env) (Zx ((O.upd j0_0 none).upd i0 (some ⟨false,255,11,1,[(gP Zh z10.2.2.1),(vI z10.2.2.2.1),(vI z10.2.2.2.2.1),(vI z10.2.2.2.2.2.1),(vI z10.2.2.2.2.2.2.1),(vI z10.2.2.2.2.2.2.2.1),(vI z10.2.2.2.2.2.2.2.2.1),(vI z10.2.2.2.2.2.2.2.2.2.1),(vI z10.2.2.2.2.2.2.2.2.2.2.1),(vI z10.2.2.2.2.2.2.2.2.2.2.2),.row (n+2) z10.2.1.length]⟩)) n [none,none,some (oR 25 3 Zc z10.2.1)]) (n+3)) (fun z10=>JX 1 n (⟨63,[],[]⟩:Env) (Zx ((O.upd j0_0 none).upd i0 (some ⟨false,255,11,1,[(gP Zh z10.2.1),(vI z10.2.2.1),(vI z10.2.2.2.1),(vI z10.2.2.2.2.1),(vI z10.2.2.2.2.2.1),(vI z10.2.2.2.2.2.2.1),(vI z10.2.2.2.2.2.2.2.1),(vI z10.2.2.2.2.2.2.2.2.1),(vI z10.2.2.2.2.2.2.2.2.2.1),(vI z10.2.2.2.2.2.2.2.2.2.2),.row (n+2) z10.1.length]⟩)) n [none,none,some (oR 25 3 Zc z10.1)]) (n+3))) ?_
   intro s0_ x0_ hs0_
   unfold Q4 at hs0_
   try dsimp only
   refine Zcn [0,29,30,31] hi0 hk0 ?_
   refine Zf ?_
   refine Zo (t:=(decide (s0_.1 < a1.N))) rfl (fun c9 => ?_) (fun c9 => ?_)
   ·replace hs0_:=Zq c9 hs0_
    refine Xs [0,29,30] [false,false,true] ?_
    refine Zf ?_
    refine Yh ?_
    refine Zf ?_
    obtain ⟨y7,hy7,hs0_⟩:=bC hs0_
    refine Vq [] hi0 hk0 ?_
    refine GCalls.argsW ?_ ((Qb (i0:=i0) (j0_0:=(n+2)) (by omega) (by omega) (by omega) (by simp only [push_cast,seval,↓reduceIte,Zd,Zbx,hi0,hk0,hN0,hN] <;> rfl) (by simp only [push_cast,seval,↓reduceIte,Zd,Zbx,hi0,hk0,hN0,hN] <;> rfl) hy7).then ?_)
    ·exact K6 hi0 hk0
    refine zX2 hi0 hk0 ?_
    refine zD [0,5,29,30] [false,false,false,true] ?_
    refine Zcn [0,5,29,30,36] hi0 hk0 ?_
    refine Zo (t:=(y7.1 != 0)) rfl (fun c8 => ?_) (fun c8 => ?_)
    ·replace hs0_:=Zq c8 hs0_
     refine Zcn [4] hi0 hk0 ?_
     refine zW ?_
     obtain rfl:=sI hs0_
     refine And.intro (fun h=>by cases h) (And.intro rfl ?_)
     refine Fit2.trans (E':=(⟨63,[],[(4,(vI y7.1))]⟩:Env)) (O':=(Zx ((O.upd j0_0 none).upd i0 (some ⟨false,255,11,1,[(gP Zh y7.2.r.a),(vI y7.2.r.kind),(vI y7.2.r.segment),(vI y7.2.r.at_),(vI y7.2.r.words),(vI y7.2.r.ptrs),(vI y7.2.r.count),(vI y7.2.r.code),(vI y7.2.r.index),(vI y7.2.gone),.row (n+3) y7.2.out.length]⟩)) n [none,none,none,some (oR 25 3 Zc y7.2.out)])) (n':=(n+4)) (Fit2.of (Xe hU rfl rfl ?_) (by omega)) ?_
     ·exact K6 hi0 hk0
     refine Qu (k:=4) (k':=3) hU [1,1,1,2] [0,0,3] rfl rfl rfl rfl ⟨rfl,rfl⟩ ?_
     exact K6 hi0 hk0
    replace hs0_:=Zp c8 hs0_
    refine Xs [0,29,30] [false,false,false,true] ?_
    refine Vq [] hi0 hk0 ?_
    obtain rfl:=sI hs0_
    refine And.intro rfl ?_
    refine Fit2.trans (E':=(⟨63,[],[(0,.ref i0 0),(29,(vI a1.N)),(30,(vI (IntKind.i64.wrap (s0_.1+1))))]⟩:Env)) (O':=(Zx ((O.upd j0_0 none).upd i0 (some ⟨false,255,11,1,[(gP Zh y7.2.r.a),(vI y7.2.r.kind),(vI y7.2.r.segment),(vI y7.2.r.at_),(vI y7.2.r.words),(vI y7.2.r.ptrs),(vI y7.2.r.count),(vI y7.2.r.code),(vI y7.2.r.index),(vI y7.2.gone),.row (n+3) y7.2.out.length]⟩)) n [none,none,none,some (oR 25 3 Zc y7.2.out)])) (n':=(n+4)) (Fit2.of (Xe hU rfl rfl ?_) (by omega)) ?_
    ·exact K6 hi0 hk0
    refine Qu (k:=4) (k':=3) hU [1,1,1,2] [0,0,3] rfl rfl rfl rfl ⟨rfl,rfl⟩ ?_
    exact K6 hi0 hk0
   replace hs0_:=Zp c9 hs0_
   refine zXt ?_
   obtain rfl:=sI hs0_
   refine And.intro (fun h=>by cases h) (And.intro rfl (Fit2.of (Xe hU rfl rfl ?_) (by omega)))
   exact K6 hi0 hk0
  rcases z10 with z10 | z10
  ·dsimp only [Xg] at hw h
   refine Q1 hw ?_
   try simp only [Yv,Z9,↓reduceIte,Nat.reduceEqDiff]
   obtain rfl:=sI h
   refine Ux (k:=1) (i:=i0) (q1:=⟨false,255,11,1,[(gP Zh z10.2.2.1),(vI z10.2.2.2.1),(vI z10.2.2.2.2.1),(vI z10.2.2.2.2.2.1),(vI z10.2.2.2.2.2.2.1),(vI z10.2.2.2.2.2.2.2.1),(vI z10.2.2.2.2.2.2.2.2.1),(vI z10.2.2.2.2.2.2.2.2.2.1),(vI z10.2.2.2.2.2.2.2.2.2.2.1),(vI z10.2.2.2.2.2.2.2.2.2.2.2),.row n z10.2.1.length]⟩) (L3:=[some (oR 25 3 Zc z10.2.1),none]) (E2:=(⟨63,[],[(4,(vI z10.1))]⟩:Env)) (n3:=(n+2)) (.inr rfl) hU rfl [(vI z10.1)] ?_ ?_
   ·refine Fit2.trans (E':=(⟨63,[],[(4,(vI z10.1))]⟩:Env)) (O':=(Zx ((O.upd j0_0 none).upd i0 (some ⟨false,255,11,1,[(gP Zh z10.2.2.1),(vI z10.2.2.2.1),(vI z10.2.2.2.2.1),(vI z10.2.2.2.2.2.1),(vI z10.2.2.2.2.2.2.1),(vI z10.2.2.2.2.2.2.2.1),(vI z10.2.2.2.2.2.2.2.2.1),(vI z10.2.2.2.2.2.2.2.2.2.1),(vI z10.2.2.2.2.2.2.2.2.2.2.1),(vI z10.2.2.2.2.2.2.2.2.2.2.2),.row (n+2) z10.2.1.length]⟩)) n [none,none,some (oR 25 3 Zc z10.2.1)])) (n':=(n+3)) (Fit2.of (Xe hU rfl rfl ?_) (by omega)) ?_
    ·exact K6 hi0 hk0
    refine Qu (k:=3) (k':=2) hU [1,1,0] [2,0] rfl rfl rfl rfl ⟨rfl,rfl⟩ ?_
    exact K6 hi0 hk0
   simp only [push_cast,seval,↓reduceIte,Zd,Tryz.results227,hi0,hk0,hN0,hN]
  dsimp only [Xg] at hw h
  refine Yn hw ?_
  try simp only [Yv,Z9,↓reduceIte,Nat.reduceEqDiff]
  refine zD [] [false,false,true] ?_
  refine Zcn [4] hi0 hk0 ?_
  refine zW ?_
  obtain rfl:=sI h
  refine Ux (k:=1) (i:=i0) (q1:=⟨false,255,11,1,[(gP Zh z10.2.1),(vI z10.2.2.1),(vI z10.2.2.2.1),(vI z10.2.2.2.2.1),(vI z10.2.2.2.2.2.1),(vI z10.2.2.2.2.2.2.1),(vI z10.2.2.2.2.2.2.2.1),(vI z10.2.2.2.2.2.2.2.2.1),(vI z10.2.2.2.2.2.2.2.2.2.1),(vI z10.2.2.2.2.2.2.2.2.2.2),.row n z10.1.length]⟩) (L3:=[some (oR 25 3 Zc z10.1),none]) (E2:=(⟨63,[],[(4,(vI 0))]⟩:Env)) (n3:=(n+2)) (.inr rfl) hU rfl [(vI 0)] ?_ ?_
  ·refine Fit2.trans (E':=(⟨63,[],[(4,(vI 0))]⟩:Env)) (O':=(Zx ((O.upd j0_0 none).upd i0 (some ⟨false,255,11,1,[(gP Zh z10.2.1),(vI z10.2.2.1),(vI z10.2.2.2.1),(vI z10.2.2.2.2.1),(vI z10.2.2.2.2.2.1),(vI z10.2.2.2.2.2.2.1),(vI z10.2.2.2.2.2.2.2.1),(vI z10.2.2.2.2.2.2.2.2.1),(vI z10.2.2.2.2.2.2.2.2.2.1),(vI z10.2.2.2.2.2.2.2.2.2.2),.row (n+2) z10.1.length]⟩)) n [none,none,some (oR 25 3 Zc z10.1)])) (n':=(n+3)) (Fit2.of (Xe hU rfl rfl ?_) (by omega)) ?_
   ·exact K6 hi0 hk0
   refine Qu (k:=3) (k':=2) hU [1,1,0] [2,0] rfl rfl rfl rfl ⟨rfl,rfl⟩ ?_
   exact K6 hi0 hk0
  simp only [push_cast,seval,↓reduceIte,Zd,Tryz.results227,hi0,hk0,hN0,hN]
 replace h:=Zp c21 h
 refine Zcn [0,3,7,39] hi0 hk0 ?_
 refine Zo (t:=(a1.Kind == 1)) rfl (fun c20 => ?_) (fun c20 => ?_)
 ·replace h:=Zq c20 h
  refine Zf ?_
  obtain ⟨y13,hy13,h⟩:=bC h
  refine Vq [] hi0 hk0 ?_
  refine (Zi5 (i0:=i0) (j0_0:=n) (by omega) (by omega) (by omega) (by simp only [push_cast,seval,↓reduceIte,Zd,Zbx,hi0,hk0,hN0,hN] <;> rfl) (by simp only [push_cast,seval,↓reduceIte,Zd,Zbx,hi0,hk0,hN0,hN] <;> rfl) hy13).then ?_
  refine zX2 hi0 hk0 ?_
  refine zD [4] [false,false,true] ?_
  refine zW ?_
  obtain rfl:=sI h
  refine Ux (k:=1) (i:=i0) (q1:=⟨false,255,11,1,[(gP Zh y13.2.r.a),(vI y13.2.r.kind),(vI y13.2.r.segment),(vI y13.2.r.at_),(vI y13.2.r.words),(vI y13.2.r.ptrs),(vI y13.2.r.count),(vI y13.2.r.code),(vI y13.2.r.index),(vI y13.2.gone),.row n y13.2.out.length]⟩) (L3:=[some (oR 25 3 Zc y13.2.out),none]) (E2:=(⟨63,[],[(4,(vI y13.1))]⟩:Env)) (n3:=(n+2)) (.inr rfl) hU rfl [(vI y13.1)] ?_ ?_
  ·refine Fit2.trans (E':=(⟨63,[],[(4,(vI y13.1))]⟩:Env)) (O':=(Zx ((O.upd j0_0 none).upd i0 (some ⟨false,255,11,1,[(gP Zh y13.2.r.a),(vI y13.2.r.kind),(vI y13.2.r.segment),(vI y13.2.r.at_),(vI y13.2.r.words),(vI y13.2.r.ptrs),(vI y13.2.r.count),(vI y13.2.r.code),(vI y13.2.r.index),(vI y13.2.gone),.row (n+2) y13.2.out.length]⟩)) n [none,none,some (oR 25 3 Zc y13.2.out)])) (n':=(n+3)) (Fit2.of (Xe hU rfl rfl ?_) (by omega)) ?_
   ·exact K6 hi0 hk0
   refine Qu (k:=3) (k':=2) hU [1,1,0] [2,0] rfl rfl rfl rfl ⟨rfl,rfl⟩ ?_
   exact K6 hi0 hk0
  simp only [push_cast,seval,↓reduceIte,Zd,Tryz.results227,hi0,hk0,hN0,hN]
 replace h:=Zp c20 h
 refine Zcn [0,3,7,45] hi0 hk0 ?_
 refine Zo (t:=(a1.Kind == 2)) rfl (fun c19 => ?_) (fun c19 => ?_)
 ·replace h:=Zq c19 h
  refine Zf ?_
  obtain ⟨l15,pl15,ql15,el15,h⟩:=bA (k:=a1.L.length) rfl h
  refine Zai Zs (by kernel_rfl) [.plain,.plain,.plain,.plain,.plain,.plain,.plain,.pass,.plain,.plain,.bar] (fun i=>i≠n+0) [0,1,2,3,4,5,6,7,8,9,10] [.plain,.plain,.plain,.plain,.plain,.plain,.plain,.pass,.plain,.plain,.bar] [] (by kernel_rfl) rfl ?_
  refine zX5 pl15 ql15 el15 hi0 hk0 ?_
  refine zO ?_
  refine Za5 ⟨63,[],[]⟩ (Zx ((O.upd j0_0 none).upd i0 (some ⟨false,255,11,1,[(gP Zh a0.r.a),(vI a0.r.kind),(vI a0.r.segment),(vI a0.r.at_),(vI a0.r.words),(vI a0.r.ptrs),(vI a0.r.count),(vI a0.r.code),(vI a0.r.index),(vI a0.gone),.row n l15.length]⟩)) n [some (oR 25 3 Zc l15),none]) (Xe hU rfl rfl ?_) ?_
  ·exact Ykf pl15 ql15 el15 hi0 hk0
  refine Zcn [4] hi0 hk0 ?_
  refine zW ?_
  obtain rfl:=sI h
  refine Ux (k:=1) (i:=i0) (q1:=⟨false,255,11,1,[(gP Zh a0.r.a),(vI a0.r.kind),(vI a0.r.segment),(vI a0.r.at_),(vI a0.r.words),(vI a0.r.ptrs),(vI a0.r.count),(vI a0.r.code),(vI a0.r.index),(vI a0.gone),.row n l15.length]⟩) (L3:=[some (oR 25 3 Zc l15),none]) (E2:=(⟨63,[],[(4,(vI 0))]⟩:Env)) (n3:=(n+2)) (.inr rfl) hU rfl [(vI 0)] ?_ ?_
  ·refine Fit2.trans (E':=(⟨63,[],[(4,(vI 0))]⟩:Env)) (O':=(Zx ((O.upd j0_0 none).upd i0 (some ⟨false,255,11,1,[(gP Zh a0.r.a),(vI a0.r.kind),(vI a0.r.segment),(vI a0.r.at_),(vI a0.r.words),(vI a0.r.ptrs),(vI a0.r.count),(vI a0.r.code),(vI a0.r.index),(vI a0.gone),.row n l15.length]⟩)) n [some (oR 25 3 Zc l15),none])) (n':=(n+2)) (Fit2.of (Xe hU rfl rfl ?_) (by omega)) ?_
   ·exact K6 hi0 hk0
   refine Qu (k:=2) (k':=2) hU [0,1] [0,0] rfl rfl rfl rfl ⟨rfl,rfl⟩ ?_
   exact K6 hi0 hk0
  simp only [push_cast,seval,↓reduceIte,Zd,Tryz.results227,hi0,hk0,hN0,hN]
 replace h:=Zp c19 h
 refine Zcn [0,3,57] hi0 hk0 ?_
 refine Zo (t:=(a1.Kind == 3)) rfl (fun c18 => ?_) (fun c18 => ?_)
 ·replace h:=Zq c18 h
  refine Zf ?_
  obtain ⟨y17,hy17,h⟩:=bC h
  refine Vq [] hi0 hk0 ?_
  refine (Qb (i0:=i0) (j0_0:=n) (by omega) (by omega) (by omega) (by simp only [push_cast,seval,↓reduceIte,Zd,Zbx,hi0,hk0,hN0,hN] <;> rfl) (by simp only [push_cast,seval,↓reduceIte,Zd,Zbx,hi0,hk0,hN0,hN] <;> rfl) hy17).then ?_
  refine zX2 hi0 hk0 ?_
  refine zD [4] [false,false,true] ?_
  refine zW ?_
  obtain rfl:=sI h
  refine Ux (k:=1) (i:=i0) (q1:=⟨false,255,11,1,[(gP Zh y17.2.r.a),(vI y17.2.r.kind),(vI y17.2.r.segment),(vI y17.2.r.at_),(vI y17.2.r.words),(vI y17.2.r.ptrs),(vI y17.2.r.count),(vI y17.2.r.code),(vI y17.2.r.index),(vI y17.2.gone),.row n y17.2.out.length]⟩) (L3:=[some (oR 25 3 Zc y17.2.out),none]) (E2:=(⟨63,[],[(4,(vI y17.1))]⟩:Env)) (n3:=(n+2)) (.inr rfl) hU rfl [(vI y17.1)] ?_ ?_
  ·refine Fit2.trans (E':=(⟨63,[],[(4,(vI y17.1))]⟩:Env)) (O':=(Zx ((O.upd j0_0 none).upd i0 (some ⟨false,255,11,1,[(gP Zh y17.2.r.a),(vI y17.2.r.kind),(vI y17.2.r.segment),(vI y17.2.r.at_),(vI y17.2.r.words),(vI y17.2.r.ptrs),(vI y17.2.r.count),(vI y17.2.r.code),(vI y17.2.r.index),(vI y17.2.gone),.row (n+2) y17.2.out.length]⟩)) n [none,none,some (oR 25 3 Zc y17.2.out)])) (n':=(n+3)) (Fit2.of (Xe hU rfl rfl ?_) (by omega)) ?_
   ·exact K6 hi0 hk0
   refine Qu (k:=3) (k':=2) hU [1,1,0] [2,0] rfl rfl rfl rfl ⟨rfl,rfl⟩ ?_
   exact K6 hi0 hk0
  simp only [push_cast,seval,↓reduceIte,Zd,Tryz.results227,hi0,hk0,hN0,hN]
 replace h:=Zp c18 h
 refine Xs [] [true,false] ?_
 refine Zcn [4] hi0 hk0 ?_
 refine zW ?_
 obtain rfl:=sI h
 refine Ux (k:=1) (i:=i0) (q1:=⟨false,255,11,1,[(gP Zh a0.r.a),(vI a0.r.kind),(vI a0.r.segment),(vI a0.r.at_),(vI a0.r.words),(vI a0.r.ptrs),(vI a0.r.count),(vI a0.r.code),(vI a0.r.index),(vI a0.gone),.row n a0.out.length]⟩) (L3:=[some (oR 25 3 Zc a0.out),none]) (E2:=(⟨63,[],[(4,(vI 13))]⟩:Env)) (n3:=(n+2)) (.inr rfl) hU rfl [(vI 13)] ?_ ?_
 ·refine Fit2.trans (E':=(⟨63,[],[(4,(vI 13))]⟩:Env)) (O':=(Zx ((O.upd j0_0 none).upd i0 (some ⟨false,255,11,1,[(gP Zh a0.r.a),(vI a0.r.kind),(vI a0.r.segment),(vI a0.r.at_),(vI a0.r.words),(vI a0.r.ptrs),(vI a0.r.count),(vI a0.r.code),(vI a0.r.index),(vI a0.gone),.row n a0.out.length]⟩)) n [some (oR 25 3 Zc a0.out),none])) (n':=(n+2)) (Fit2.of (Xe hU rfl rfl ?_) (by omega)) ?_
  ·exact K6 hi0 hk0
  refine Qu (k:=2) (k':=2) hU [0,1] [0,0] rfl rfl rfl rfl ⟨rfl,rfl⟩ ?_
  exact K6 hi0 hk0
 simp only [push_cast,seval,↓reduceIte,Zd,Tryz.results227,hi0,hk0,hN0,hN]
theorem Zjr {Yb:(Zi→Zb→Option (Za×Int))} {Z6:(Zi→Zb→Option (Za×Int))} {Ym:(Zi→Zb→Option (Za×Int))} {Z5:((List Zt)→Zb→Option ((List Za)×Int))} {Z0:(Zj→Ya→Option (Int×Zj))} {Zz:(Zj→Zi→Option (Int×Zj))} (Ji:Vf Yb) (Jy:Qz Z6) (Ur:Vg Ym) (Jm:Qm Z5) (Q6:Qa Z0) (Qb:X9 Zz) {a0:Zj} {a1:Zi} {r:(Int×Zj)} {O:Objs} {n:Nat} {i0 j0_0:Nat} (hi0:i0 < n) (Zfy:j0_0 < n) (Zfg:i0≠j0_0) (ho0:O i0=some ⟨false,255,11,1,[(gP Zh a0.r.a),(vI a0.r.kind),(vI a0.r.segment),(vI a0.r.at_),(vI a0.r.words),(vI a0.r.ptrs),(vI a0.r.count),(vI a0.r.code),(vI a0.r.index),(vI a0.gone),.row j0_0 a0.out.length]⟩) (Zfh:O j0_0=some (oR 25 3 Zc a0.out)) (h:Qc Yb Z6 Ym Z5 Z0 Zz a0 a1=some r):GTo Tryz.prog 276 [.ref i0 0,.agg (Zm a1)] O n ((vI r.1)) (Zx ((O.upd j0_0 none).upd i0 (some ⟨false,255,11,1,[(gP Zh r.2.r.a),(vI r.2.r.kind),(vI r.2.r.segment),(vI r.2.r.at_),(vI r.2.r.words),(vI r.2.r.ptrs),(vI r.2.r.count),(vI r.2.r.code),(vI r.2.r.index),(vI r.2.gone),.row n r.2.out.length]⟩)) n [some (oR 25 3 Zc r.2.out)]) (n+1):=by
 unfold Qc at h
 refine Zwv Zs Tryz.call276 Tryz.func276 rfl (Nat.le_of_ble_eq_true rfl) (by omega) fun hU => ?_
 have e0:=Zqm (ba:=n) (E:=⟨34,[],Zo6 0 [.ref i0 0,.agg [.val (.int .i64 a1.Kind),.val (.int .i64 a1.Old.Kind),.sl a1.Old.Words.length (fl (eI .u64) a1.Old.Words),.sl a1.Old.Kids.length (fl Zc a1.Old.Kids),.val (.int .i64 a1.New.Kind),.sl a1.New.Words.length (fl (eI .u64) a1.New.Words),.sl a1.New.Kids.length (fl Zc a1.New.Kids),.sl a1.Words.length (fl Zu a1.Words),.sl a1.Kids.length (fl Zr a1.Kids),.val (.int .i64 a1.List_),.sl a1.Ops.length (fl Yg a1.Ops)]]⟩) (O:=(Zx O n [])) (n:=n) (i:=i0) (j:=j0_0) (k:=10) (len:=a0.out.length) (q:=⟨false,255,11,1,[(gP Zh a0.r.a),.val (.int .i64 a0.r.kind),.val (.int .i64 a0.r.segment),.val (.int .i64 a0.r.at_),.val (.int .i64 a0.r.words),.val (.int .i64 a0.r.ptrs),.val (.int .i64 a0.r.count),.val (.int .i64 a0.r.code),.val (.int .i64 a0.r.index),.val (.int .i64 a0.gone),.row j0_0 a0.out.length]⟩) (qj:=⟨true,25,3,a0.out.length,fl Zc a0.out⟩) (by rw [K7 _ hi0];first | exact ho0 | exact X2 _ _ _) rfl (by rw [K7 _ Zfy];exact Zfh) Zfg (by omega)
 simp only [Zb3 _ _ Zfy,Zb3 _ _ hi0,Kg,Q3,Zge,List.set_cons_zero,List.set_cons_succ,List.cons_append,List.nil_append,List.length_cons,List.length_nil,Nat.zero_add,Nat.reduceAdd,Nat.add_assoc] at e0
 refine Zcf e0 ?_
 have hU:=(Und.drop hU j0_0)
 have hk0:∀ k,i0 < n+k:=fun k=>by omega
 have hN0:∀ o,Objs.upd (O.upd j0_0 none) i0 o n=none:=fun o=>Zce hU hi0 _ (Nat.le_refl _)
 have hN:∀ o k,Objs.upd (O.upd j0_0 none) i0 o (n+k)=none:=fun o k=>Zce hU hi0 _ (Nat.le_add_right _ _)
 show W _ _ _ _ ⟨34,[],[(0,.ref i0 0),(1,.agg (Zm a1))]⟩ (Zx ((O.upd j0_0 none).upd i0 (some ⟨false,255,11,1,[(gP Zh a0.r.a),(vI a0.r.kind),(vI a0.r.segment),(vI a0.r.at_),(vI a0.r.words),(vI a0.r.ptrs),(vI a0.r.count),(vI a0.r.code),(vI a0.r.index),(vI a0.gone),.row n a0.out.length]⟩)) n [some (oR 25 3 Zc a0.out)]) _
 refine Zcn [0,3] hi0 hk0 ?_
 refine Zf ?_
 obtain ⟨y2,hy2,h⟩:=bC h
 refine Vq [] hi0 hk0 ?_
 refine (Zey (i0:=i0) (j0_0:=n) (by omega) (by omega) (by omega) (by simp only [push_cast,seval,↓reduceIte,Zd,Zbx,hi0,hk0,hN0,hN] <;> rfl) (by simp only [push_cast,seval,↓reduceIte,Zd,Zbx,hi0,hk0,hN0,hN] <;> rfl) hy2).then ?_
 refine zX2 hi0 hk0 ?_
 refine zDs [0,3,5,6] [false,true,true,true] ?_
 refine Zcn [0,3,5,6,14] hi0 hk0 ?_
 refine Zo (t:=(y2.2.1 != 0)) rfl (fun Jz => ?_) (fun Jz => ?_)
 ·replace h:=Zq Jz h
  refine Zcn [4] hi0 hk0 ?_
  refine zW ?_
  obtain rfl:=sI h
  refine Ux (k:=1) (i:=i0) (q1:=⟨false,255,11,1,[(gP Zh y2.2.2.r.a),(vI y2.2.2.r.kind),(vI y2.2.2.r.segment),(vI y2.2.2.r.at_),(vI y2.2.2.r.words),(vI y2.2.2.r.ptrs),(vI y2.2.2.r.count),(vI y2.2.2.r.code),(vI y2.2.2.r.index),(vI y2.2.2.gone),.row n y2.2.2.out.length]⟩) (L3:=[some (oR 25 3 Zc y2.2.2.out),none]) (E2:=(⟨34,[],[(4,(vI y2.2.1))]⟩:Env)) (n3:=(n+2)) (.inr rfl) hU rfl [(vI y2.2.1)] ?_ ?_
  ·refine Fit2.trans (E':=(⟨34,[],[(4,(vI y2.2.1))]⟩:Env)) (O':=(Zx ((O.upd j0_0 none).upd i0 (some ⟨false,255,11,1,[(gP Zh y2.2.2.r.a),(vI y2.2.2.r.kind),(vI y2.2.2.r.segment),(vI y2.2.2.r.at_),(vI y2.2.2.r.words),(vI y2.2.2.r.ptrs),(vI y2.2.2.r.count),(vI y2.2.2.r.code),(vI y2.2.2.r.index),(vI y2.2.2.gone),.row (n+2) y2.2.2.out.length]⟩)) n [none,none,some (oR 25 3 Zc y2.2.2.out),none])) (n':=(n+4)) (Fit2.of (Xe hU rfl rfl ?_) (by omega)) ?_
   ·exact K6 hi0 hk0
   refine Qu (k:=4) (k':=2) hU [1,1,0,1] [2,0] rfl rfl rfl rfl ⟨rfl,rfl⟩ ?_
   exact K6 hi0 hk0
  simp only [push_cast,seval,↓reduceIte,Zd,Tryz.results276,hi0,hk0,hN0,hN]
 replace h:=Zp Jz h
 refine Xs [0,3,5] [false,true,true,true] ?_
 refine Zf ?_
 obtain ⟨y4,hy4,h⟩:=bC h
 refine Vq [] hi0 hk0 ?_
 refine (Ji hy4).then ?_
 refine zX2 hi0 hk0 ?_
 refine zDs [0,6,7] [false,false,true,false,true] ?_
 obtain ⟨l8,pl8,ql8,el8,h⟩:=bA (k:=1) rfl h
 obtain ⟨x9,hx9,ax9,bx9,cx9,h⟩:=bE (f:=Zc) Zcc (fun _=>rfl) (by decide) h
 have gu10:Ga (fl Zc y2.2.2.out++[.val (.int .i64 0),.val (.slice none 0 0),.val (.slice none 0 0)]) [.val (.int .i64 y4.1.Kind),.sl y4.1.Words.length (fl (eI .u64) y4.1.Words),.sl y4.1.Kids.length (fl Zc y4.1.Kids)] (List.length y2.2.2.out * 3)=some (fl Zc y2.2.2.out++[.val (.int .i64 y4.1.Kind),.sl y4.1.Words.length (fl (eI .u64) y4.1.Words),.sl y4.1.Kids.length (fl Zc y4.1.Kids)]):=Z4g (f:=Zc) (sz:=3) (fun _=>rfl) rfl rfl
 refine Zai Zs (by kernel_rfl) [.plain,.low,.low,.low,.low,.low,.pass,.bar,.shp,.fill true,.shp,.shp,.fill false] (fun i=>i < (n+5)) [0,1,2,3,4,5,6,7,8,9,10,11,12] [.plain,.low,.low,.low,.low,.low,.pass,.bar,.shp,.fill true,.shp,.shp,.fill false] [] (by kernel_rfl) rfl ?_
 refine zF9 pl8 ql8 el8 ax9 bx9 cx9 gu10 hi0 hk0 ?_
 refine zO ?_
 refine Za5 ⟨34,[],[(6,(vI y4.2))]⟩ (Zx ((O.upd j0_0 none).upd i0 (some ⟨false,255,11,1,[(gP Zh y2.2.2.r.a),(vI y2.2.2.r.kind),(vI y2.2.2.r.segment),(vI y2.2.2.r.at_),(vI y2.2.2.r.words),(vI y2.2.2.r.ptrs),(vI y2.2.2.r.count),(vI y2.2.2.r.code),(vI y2.2.2.r.index),(vI y2.2.2.gone),.row (n+2) (y2.2.2.out++[y4.1]).length]⟩)) n [none,none,some (oR 25 3 Zc (y2.2.2.out++[y4.1])),none,none,none]) (Xe hU rfl rfl ?_) ?_
 ·exact Ykd pl8 ql8 el8 ax9 bx9 cx9 gu10 hi0 hk0
 refine Zcn [4] hi0 hk0 ?_
 refine zW ?_
 obtain rfl:=sI h
 refine Ux (k:=1) (i:=i0) (q1:=⟨false,255,11,1,[(gP Zh y2.2.2.r.a),(vI y2.2.2.r.kind),(vI y2.2.2.r.segment),(vI y2.2.2.r.at_),(vI y2.2.2.r.words),(vI y2.2.2.r.ptrs),(vI y2.2.2.r.count),(vI y2.2.2.r.code),(vI y2.2.2.r.index),(vI y2.2.2.gone),.row n (y2.2.2.out++[y4.1]).length]⟩) (L3:=[some (oR 25 3 Zc (y2.2.2.out++[y4.1])),none]) (E2:=(⟨34,[],[(4,(vI y4.2))]⟩:Env)) (n3:=(n+2)) (.inr rfl) hU rfl [(vI y4.2)] ?_ ?_
 ·refine Fit2.trans (E':=(⟨34,[],[(4,(vI y4.2))]⟩:Env)) (O':=(Zx ((O.upd j0_0 none).upd i0 (some ⟨false,255,11,1,[(gP Zh y2.2.2.r.a),(vI y2.2.2.r.kind),(vI y2.2.2.r.segment),(vI y2.2.2.r.at_),(vI y2.2.2.r.words),(vI y2.2.2.r.ptrs),(vI y2.2.2.r.count),(vI y2.2.2.r.code),(vI y2.2.2.r.index),(vI y2.2.2.gone),.row (n+2) (y2.2.2.out++[y4.1]).length]⟩)) n [none,none,some (oR 25 3 Zc (y2.2.2.out++[y4.1])),none,none,none])) (n':=(n+6)) (Fit2.of (Xe hU rfl rfl ?_) (by omega)) ?_
  ·exact K6 hi0 hk0
  refine Qu (k:=6) (k':=2) hU [1,1,0,1,1,1] [2,0] rfl rfl rfl rfl ⟨rfl,rfl⟩ ?_
  exact K6 hi0 hk0
 simp only [push_cast,seval,↓reduceIte,Zd,Tryz.results276,hi0,hk0,hN0,hN]
theorem Zoc:∀ k,(Vf ((Ze k).1))∧(Qz ((Ze k).2.1))∧(Vg ((Ze k).2.2.1))∧(Qm ((Ze k).2.2.2.1))∧(Qa ((Ze k).2.2.2.2.1))∧(X9 ((Ze k).2.2.2.2.2)):=fun k=>by
 induction k with
 | zero=>exact ⟨@fun a0 a1 r O n h=>(nomatch (show (none:Option _)=some _ from h)),@fun a0 a1 r O n h=>(nomatch (show (none:Option _)=some _ from h)),@fun a0 a1 r O n h=>(nomatch (show (none:Option _)=some _ from h)),@fun a0 a1 r O n h=>(nomatch (show (none:Option _)=some _ from h)),@fun a0 a1 r O n i0 j0_0 hi0 Zfy Zfg ho0 Zfh h=>(nomatch (show (none:Option _)=some _ from h)),@fun a0 a1 r O n i0 j0_0 hi0 Zfy Zfg ho0 Zfh h=>(nomatch (show (none:Option _)=some _ from h))⟩
 | succ k ih=>exact ⟨@fun a0 a1 r O n h=>Zsw (ih.1) (ih.2.1) (ih.2.2.1) (ih.2.2.2.1) (ih.2.2.2.2.1) (ih.2.2.2.2.2)  h,@fun a0 a1 r O n h=>Zlp (ih.1) (ih.2.1) (ih.2.2.1) (ih.2.2.2.1) (ih.2.2.2.2.1) (ih.2.2.2.2.2)  h,@fun a0 a1 r O n h=>Zsx (ih.1) (ih.2.1) (ih.2.2.1) (ih.2.2.2.1) (ih.2.2.2.2.1) (ih.2.2.2.2.2)  h,@fun a0 a1 r O n h=>Zkt (ih.1) (ih.2.1) (ih.2.2.1) (ih.2.2.2.1) (ih.2.2.2.2.1) (ih.2.2.2.2.2)  h,@fun a0 a1 r O n i0 j0_0 hi0 Zfy Zfg ho0 Zfh h=>Zjs (ih.1) (ih.2.1) (ih.2.2.1) (ih.2.2.2.1) (ih.2.2.2.2.1) (ih.2.2.2.2.2) hi0 Zfy Zfg ho0 Zfh h,@fun a0 a1 r O n i0 j0_0 hi0 Zfy Zfg ho0 Zfh h=>Zjr (ih.1) (ih.2.1) (ih.2.2.1) (ih.2.2.2.1) (ih.2.2.2.2.1) (ih.2.2.2.2.2) hi0 Zfy Zfg ho0 Zfh h⟩
theorem Zt1 {a0:Zi} {a1:Zb} {r:(Za×Int)} {O:Objs} {n:Nat} (h:Zhj a0 a1=some r):GTo Tryz.prog 92 [.agg (Zm a0),.agg (Zk a1)] O n (.tup [.agg (Zg r.1),(vI r.2)]) O n:=by
 obtain ⟨k,hk⟩:=Zbg h
 exact (Zoc k).1  hk
end Go.Proofs.YtmlcnhambfkjaaaGreat
