/- Part JM7 of this seat's mirrors: functions of the seat's program, and the plain functions that they are; each theorem bears its own conditions. -/
import Derived.Test.YtmlcnhambfkjaaaGreatJM5
namespace Go.Proofs.YtmlcnhambfkjaaaGreat
open Go.RowKit
set_option linter.unusedVariables false
set_option linter.unusedSimpArgs false
set_option maxRecDepth 100000
set_option maxHeartbeats 4000000
attribute [local push_cast] vI vB nV sL oR Zm Q2 X5 Xn Zg Jv Z3 Xh Zk Yv Z9 Je Zfw Zdq Ztp Zsm Zna Zne Zm9 Znd Zqk Zqg Znc Zqj Zqi Zqh Znb Zqf Zk7 evS wok K8 Op.operands Call.operands gop atK List.all_cons List.all_nil Bool.and_self Value.oneCell' List.take_zero List.take_succ_cons List.take_nil List.drop_zero List.drop_succ_cons List.drop_nil List.append_nil Nat.add_zero Nat.zero_add Zao Y2 ev Kv Zo6 Zuc Zub Zuh Zuf Zug Zud Zue Zua Ztz Zw1 Zz0 Zkl Zel Zjg Zek Zmv Zhg Zid Zii Zke Zka Zig Zkd Zkc Zkb Zif Zj9 Zie Zih Zgv Zly Zkj Zcp Zkk Zcq Zlx Zki Zx5 bLo bHi bMx Zen Zlv Z39 Zkh Zlw Zgw Zbr Zw3 Z4c Zkg Zhe Z4h Zej Z6l Zpf Zpj Zpe Zpi Zuw Zus Zur Zmw Zpg Zuv Zuu Zut Zph Zun Zuq Zum Zup Z0f Z0c Z0b Zuo Z0d Z0e Zli gone pop TK.isAgg Zu3 Zu7 Zu2 Zu6 Zpz Z01 Z0x Zu5 Z00 Z0z Z0y Zu4 Z0w G.under G.unders List.getD_cons_zero List.getD_cons_succ List.set_cons_zero List.set_cons_succ List.map_cons List.map_nil List.toList_toArray Array.toList_append Option.toArray_none Option.toArray_some Option.map_some Option.map_none Option.bind_some Option.bind_none List.getElem?_cons_zero List.getElem?_cons_succ List.getElem?_nil List.nil_append List.cons_append List.replicate_succ List.replicate_zero List.length_cons List.length_nil and_true true_and Bool.true_eq_false Bool.false_eq_true forall_const implies_true IntKind.bits ite_true ite_false eq_self or_false decide_true beq_iff_eq ne_eq beq_eq_false_iff_ne beq_self_eq_true Option.some.injEq exists_eq_left' gt_iff_lt Bool.not_true imp_self cond_true cond_false Yfd Yfc Bool.not_not Zaa Zc8 Zah Kg Q3 Option.join_some Nat.add_assoc Int.toNat_natCast eI eL Zbx Zjh Zik Zuk Zui Zuj Z60 Ya6 Zju Ziq Zvd Zvb Zvc Z0v Znh Zyr Zn1 Zx3 Zg2 List.length_append G.agg.injEq G.tup.injEq List.flatten_cons List.flatten_nil Int.le_refl Nat.le_refl Bool.not_eq_true' Bool.not_eq_false' Zwj Zj1 Z3p Z3k Z3o Yab Zs3 Zts G.ren G.rens Zxl Zh3 Zvj Zt8 Zt9 Z62 G.fn.injEq Zmo Zsa Z3n Z3l Z0i Z78 Option.join_none G5 undef Zl2 Arr.put_eq Zjt Zmz Zkv Zip Zva Zu8 Zu9 onB Z6z Zw0 Zxt Zmx Zp5 Zp4 Zp3 Zp2 Ya5 Ydq Z0u Zyf Zbb Z0j Zpk Z48 Ztu Zkf Zlu Zgk Zgx Ygu Z28 Ztb Z29 Ygv Z3a Z27 Z3b Ygw Z3c Ygx Z3d Ygy Z3e Ygz Z3f Z9h Zvm Z9i Zvn Z9j Zvo Z9k Zvp Z9l Zvq Z9m Zvr Z9n Zvs Z9o Zvt Z9p Zvu Z9q Zvv Z9r Zvw Zgd Zg0 Zzi Zk8 Z9s Zvx Zcc Zvy Z9t Zvz Z9u Zv0 Z9v Zv1 Z9w Zv2 Zn2 Zv3 Z9x Zv4 Z9y Zv5 Z9z Zv6 Z90 Zv7 Z91 Zr8 Z92 Zv8 Z93 Zv9 Za6 Zwa Z94 Zwb Z95 Zwc Zn3 Zwd Z96 Zwe Zh6 Zwf Z97 Zwg Zlg Zwh Z1m Zqn Z1n Zqo Z1o Zqp Z1p Zqq Z1q Zqr Z1r Zqs Z1s Zqt Z1t Zqu Z1u Zqv Z1v Zqw Z1w Zqx Z1x Zqy Z1y Zqz Z1z Zq0 Z10 Zq1 Z11 Zq2 Z12 Zq3 Z13 Zq4 Z14 Zq5 Z15 Zq6 Z16 Zq7 Z17 Zq8 Z18 Zq9 Zta Zmn Z19 Zra Z2a Zrb Z2b Zrc Z2c Zrd Z2d Zre Z2e Zrf Z2f Zrg Z2g Zrh Z2h Zri Z2i Zrj Z2j Zrk Z2k Zrl Z2l Zrm Z2m Zrn Z2n Zro Z2o Zrp Z2p Zrq Z2q Zrr Z2r Zrs Z2s Zrt Z2t Zru Z2u Zrv Z2v Zrw Z2w Zrx Z2x Zry Z2y Zrz Z2z Zr0 Z20 Zr1 Z21 Zr2 Z22 Zr3 Z23 Zr4 Z24 Zr5 Z25 Zr6 Z26 Zr7 Uf Zk9 Zoa Zom Zit Zc Ql Zdj Zdi Zez Zu Qv Zr Yg Zh Zdo
theorem Zpu {a0:(List Int)} {r:(List Int)} {O:Objs} {n:Nat} (h:Zbm a0=some r):GTo Tryz.prog 106 [(sL (eI .u64) a0)] O n ((sL (eI .u64) r)) O n:=by
 unfold Zbm at h
 refine Uw Zs Tryz.call106 Tryz.func106 rfl fun hU hN0 hN => ?_
 show W _ _ _ _ ⟨22,[],[(0,(sL (eI .u64) a0))]⟩ (Zx O n []) _
 refine zQ [0] ?_
 refine zQ [0,3] ?_
 refine Zf ?_
 refine zD [0,3] [] ?_
 obtain ⟨z7,hz7,h⟩:=bC h
 refine Yn (E':=⟨22,[],[(0,(sL (eI .u64) a0)),(3,(vI z7))]⟩) (O':=(Zx O n [])) (n0:=n) ?_ ?_
 ·refine Xd hz7 (fun s0_=>⟨22,[],[(0,(sL (eI .u64) a0)),(3,(vI s0_))]⟩) (fun s0_=>(Zx O n [])) (fun z7=>JX 0 n (⟨22,[],[(0,(sL (eI .u64) a0)),(3,(vI z7))]⟩:Env) (Zx O n []) n) ?_
  intro s0_ x0_ hs0_
  unfold U3 at hs0_
  try dsimp only
  refine Zf ?_
  obtain ⟨z2,hz2,hs0_⟩:=bC hs0_
  refine Y1 (E':=⟨22,[],[(0,(sL (eI .u64) a0)),(3,(vI s0_)),(15,(vB z2))]⟩) (O':=(Zx O n [])) (n0:=n) ?_ ?_
  ·rcases Bool.eq_false_or_eq_true (decide (0 < s0_)) with c5 | c5
   ·replace hz2:=Zq c5 hz2
    obtain ⟨x4,hx4,ax4,bx4,cx4,hz2⟩:=bE (f:=(eI .u64)) Za6 (fun _=>rfl) (by decide) hz2
    refine Zj4 (Z40 []) c5 ax4 bx4 cx4 ?_
    exact Zx2 hz2 c5 ax4 bx4 cx4
   replace hz2:=Zp c5 hz2
   refine Vi (Z4y []) c5 ?_
   exact Ju hz2 c5
  refine Zo (t:=z2) rfl (fun c6 => ?_) (fun c6 => ?_)
  ·replace hs0_:=Zq c6 hs0_
   refine Xs [0,3] [] ?_
   refine Yh ?_
   refine zR ?_
   exact Vh hs0_
  replace hs0_:=Zp c6 hs0_
  exact zEx hs0_
 try simp only [Yv,Z9,↓reduceIte,Nat.reduceEqDiff]
 refine zD [0,3] [] ?_
 obtain ⟨l9,al9,bl9,cl9,gl9,h⟩:=bS3 (lo:=none) (hi:=(.i64,z7)) (f:=(eI .u64)) rfl rfl Zg0 Za6 (fun _=>rfl) h
 refine Yo1 [2] al9 bl9 cl9 gl9 ?_
 refine zW ?_
 obtain rfl:=sI h
 refine Zl (.inr rfl) hU [(sL (eI .u64) l9)] (by omega) ?_
 simp only [push_cast,seval,↓reduceIte,Zd,Tryz.results106,hN0,hN]
theorem Zsu {a0:(List Za)} {r:(List Za)} {O:Objs} {n:Nat} (h:Zb8 a0=some r):GTo Tryz.prog 108 [(sL Zc a0)] O n ((sL Zc r)) O n:=by
 unfold Zb8 at h
 refine Uw Zs Tryz.call108 Tryz.func108 rfl fun hU hN0 hN => ?_
 show W _ _ _ _ ⟨23,[],[(0,(sL Zc a0))]⟩ (Zx O n []) _
 refine zQ [0] ?_
 refine zQ [0,3] ?_
 refine Zf ?_
 refine zD [0,3] [] ?_
 obtain ⟨z10,hz10,h⟩:=bC h
 refine Yn (E':=⟨23,[],[(0,(sL Zc a0)),(3,(vI z10))]⟩) (O':=(Zx O n [])) (n0:=n) ?_ ?_
 ·refine Xd hz10 (fun s0_=>⟨23,[],[(0,(sL Zc a0)),(3,(vI s0_))]⟩) (fun s0_=>(Zx O n [])) (fun z10=>JX 0 n (⟨23,[],[(0,(sL Zc a0)),(3,(vI z10))]⟩:Env) (Zx O n []) n) ?_
  intro s0_ x0_ hs0_
  unfold Gy at hs0_
  try dsimp only
  refine Zf ?_
  obtain ⟨z3,hz3,hs0_⟩:=bC hs0_
  refine Y1 (E':=⟨23,[],[(0,(sL Zc a0)),(3,(vI s0_)),(16,(vB z3))]⟩) (O':=(Zx O n [])) (n0:=n) ?_ ?_
  ·rcases Bool.eq_false_or_eq_true (decide (0 < s0_)) with c8 | c8
   ·replace hz3:=Zq c8 hz3
    obtain ⟨x6,hx6,ax6,bx6,cx6,hz3⟩:=bE (f:=Zc) Zcc (fun _=>rfl) (by decide) hz3
    have g7:=Zd1 (f:=Zc) (sz:=3) Ztb (fun _=>rfl) (by decide) (by decide) hx6
    refine Zzo (Yk4 []) c8 ax6 bx6 cx6 g7 ?_
    exact Z51 hz3 c8 ax6 bx6 cx6 g7
   replace hz3:=Zp c8 hz3
   refine Vi (Ydm []) c8 ?_
   exact Ju hz3 c8
  refine Zo (t:=z3) rfl (fun c9 => ?_) (fun c9 => ?_)
  ·replace hs0_:=Zq c9 hs0_
   refine Xs [0,3] [] ?_
   refine Yh ?_
   refine zR ?_
   exact Vh hs0_
  replace hs0_:=Zp c9 hs0_
  exact zEx hs0_
 try simp only [Yv,Z9,↓reduceIte,Nat.reduceEqDiff]
 refine zD [0,3] [] ?_
 obtain ⟨l12,al12,bl12,cl12,gl12,h⟩:=bS3 (lo:=none) (hi:=(.i64,z10)) (f:=Zc) rfl rfl Zk8 Zcc (fun _=>rfl) h
 refine Yo1 [2] al12 bl12 cl12 gl12 ?_
 refine zW ?_
 obtain rfl:=sI h
 refine Zl (.inr rfl) hU [(sL Zc l12)] (by omega) ?_
 simp only [push_cast,seval,↓reduceIte,Zd,Tryz.results108,hN0,hN]
def Zl7 (Zbu:(Za→Option Za)):Prop:=∀ {a0:Za} {r:Za} {O:Objs} {n:Nat},Zbu a0=some r→GTo Tryz.prog 81 [.agg (Zg a0)] O n (.agg (Zg r)) O n
theorem Zyd {Zbu:(Za→Option Za)} (Zxg:Zl7 Zbu) {a0:Za} {r:Za} {O:Objs} {n:Nat} (h:Zfu Zbu a0=some r):GTo Tryz.prog 81 [.agg (Zg a0)] O n (.agg (Zg r)) O n:=by
 unfold Zfu at h
 refine Uw Zs Tryz.call81 Tryz.func81 rfl fun hU hN0 hN => ?_
 show W _ _ _ _ ⟨49,[],[(0,.agg (Zg a0))]⟩ (Zx O n []) _
 refine zQ [1,2] ?_
 refine Zf ?_
 refine zQ [1,2,10] ?_
 refine Zo (t:=(a0.Kind == 0)) rfl (fun c15 => ?_) (fun c15 => ?_)
 ·replace h:=Zq c15 h
  refine Zf ?_
  refine Gi [2] [false,true] ?_
  refine zW ?_
  obtain rfl:=sI h
  refine Zl (.inr rfl) hU [.agg [(vI 0),nV,nV]] (by omega) ?_
  simp only [push_cast,seval,↓reduceIte,Zd,Tryz.results81,hN0,hN]
 replace h:=Zp c15 h
 refine Xs [1,2] [true,true] ?_
 refine Zef [1,2,3,4] (Xl Zs (by kernel_rfl) [] (by kernel_rfl) ?_)
 refine zS ?_
 obtain ⟨z1,hz1,h⟩:=bC h
 refine Y1 (E':=⟨49,[],[(1,.ref n 0),(2,.ref (n+1) 0),(3,(sL (eI .u64) z1.1)),(4,(sL Zc z1.2))]⟩) (O':=(Zx O n [some ⟨false,25,3,1,(Zg a0)⟩,some ⟨false,25,3,1,[(vI 0),nV,nV]⟩])) (n0:=(n+2)) ?_ ?_
 ·refine zQ [1,2,3,4,18] ?_
  refine Zo (t:=(a0.Kind == 1)) rfl (fun c4 => ?_) (fun c4 => ?_)
  ·replace hz1:=Zq c4 hz1
   obtain ⟨y2,hy2,hz1⟩:=bC hz1
   obtain ⟨y3,hy3,hz1⟩:=bC hz1
   refine zC (Zpu hy2) ?_
   refine zTs (Zsu hy3) ?_
   exact Vh hz1
  replace hz1:=Zp c4 hz1
  refine zK ?_
  exact Vh hz1
 refine Zf ?_
 refine Gi [2,4,5] [false,true,true] ?_
 obtain ⟨z5,hz5,h⟩:=bC h
 refine Y1 (E':=⟨49,[],[(2,.ref (n+1) 0),(4,(sL Zc z1.2)),(5,.ref (n+2) 0)]⟩) (O':=(Zx O n [none,some ⟨false,25,3,1,[(vI 0),nV,nV]⟩,some ⟨false,25,3,1,[(vI a0.Kind),(sL (eI .u64) z1.1),.row (n+4) z5.length]⟩,none,some (oR 25 3 Zc z5),none])) (n0:=(n+6)) ?_ ?_
 ·refine zQ [2,4,5,29] ?_
  refine Zo (t:=(decide (0 < (z1.2.length:Int)))) rfl (fun c7 => ?_) (fun c7 => ?_)
  ·replace hz5:=Zq c7 hz5
   obtain ⟨l6,al6,bl6,cl6,el6,hz5⟩:=bM2 (c:=56) rfl hz5
   have nl6:Int.toNat (z1.2.length:Int)=List.length l6:=by rw [el6,List.length_replicate]
   have fl6:∀ O O' n,wkl O O' n (List.replicate (List.length l6) [.val (.int .i64 0),.val (.slice none 0 0),.val (.slice none 0 0)]).flatten (fl Zc l6)=True:=fun O O' n=>by rw [← nl6,el6];exact eq_true (Z5z (by simp only [push_cast,seval,↓reduceIte,Zd]) _)
   clear el6
   refine Yr Zs [] ?_
   simp only [push_cast,seval,↓reduceIte,Zd,al6,bl6,cl6,fl6,nl6,hN0,hN]
   obtain rfl:=sI hz5
   refine And.intro rfl ?_
   refine Fit2.trans (E':=(⟨49,[],[(2,.ref (n+1) 0),(4,(sL Zc z1.2)),(5,.ref (n+2) 0)]⟩:Env)) (O':=(Zx O n [none,some ⟨false,25,3,1,[(vI 0),nV,nV]⟩,some ⟨false,25,3,1,[(vI a0.Kind),(sL (eI .u64) z1.1),.row (n+3) l6.length]⟩,some (oR 25 3 Zc l6)])) (n':=(n+4)) (Fit2.of (Y0 hU rfl rfl ?_) (by omega)) ?_
   ·simp only [push_cast,seval,↓reduceIte,Zd,al6,bl6,cl6,fl6,nl6,hN0,hN]
   refine Zcm (k:=4) (k':=6) hU [5,1,2,4] [0,1,2,0,3,0] rfl rfl rfl rfl ⟨rfl,rfl⟩ ?_
   exact zSe
  replace hz5:=Zp c7 hz5
  refine zK ?_
  obtain rfl:=sI hz5
  refine And.intro rfl ?_
  refine Fit2.trans (E':=(⟨49,[],[(2,.ref (n+1) 0),(4,(sL Zc z1.2)),(5,.ref (n+2) 0)]⟩:Env)) (O':=(Zx O n [none,some ⟨false,25,3,1,[(vI 0),nV,nV]⟩,some ⟨false,25,3,1,[(vI a0.Kind),(sL (eI .u64) z1.1),nV]⟩])) (n':=(n+3)) (Fit2.of (Y0 hU rfl rfl ?_) (by omega)) ?_
  ·exact zSe
  refine Fit2.trans (Zbw (p:=(n+2)) (k:=2) (q:=⟨false,25,3,1,[(vI a0.Kind),(sL (eI .u64) z1.1),nV]⟩) 25 3 (by simp only [Zaa,Zc8,List.getElem?_cons_zero,List.getElem?_cons_succ,Option.join_some,List.length_nil]) rfl (by omega)) ?_
  simp only [Kg,Q3,Zah,List.set_cons_zero,List.set_cons_succ,List.cons_append,List.nil_append,List.length_cons,List.length_nil,Nat.zero_add,Nat.reduceAdd,Nat.reduceLT,Nat.add_assoc]
  refine Zcm (k:=4) (k':=6) hU [5,1,2,4] [0,1,2,0,3,0] rfl rfl rfl rfl ⟨rfl,rfl⟩ ?_
  exact zSe
 refine Zf ?_
 refine zQd [2,5,34,35,36] [2,5,34,35,36] [false,true,true,false,true,false] ?_
 obtain ⟨z14,hz14,h⟩:=bC h
 refine Yn (E':=⟨49,[],[(2,.ref (n+1) 0),(5,.ref (n+2) 0)]⟩) (O':=(Zx O n [none,some ⟨false,25,3,1,[(vI 0),nV,nV]⟩,some ⟨false,25,3,1,[(vI a0.Kind),(sL (eI .u64) z1.1),.row (n+4) z14.length]⟩,none,some (oR 25 3 Zc z14),none])) (n0:=(n+6)) ?_ ?_
 ·refine Xd hz14 (fun s0_=>⟨49,[],[(2,.ref (n+1) 0),(5,.ref (n+2) 0),(34,(sL Zc z1.2)),(35,(vI (z1.2.length:Int))),(36,(vI s0_.1))]⟩) (fun s0_=>(Zx O n [none,some ⟨false,25,3,1,[(vI 0),nV,nV]⟩,some ⟨false,25,3,1,[(vI a0.Kind),(sL (eI .u64) z1.1),.row (n+4) s0_.2.length]⟩,none,some (oR 25 3 Zc s0_.2),none])) (fun z14=>JX 0 n (⟨49,[],[(2,.ref (n+1) 0),(5,.ref (n+2) 0)]⟩:Env) (Zx O n [none,some ⟨false,25,3,1,[(vI 0),nV,nV]⟩,some ⟨false,25,3,1,[(vI a0.Kind),(sL (eI .u64) z1.1),.row (n+4) z14.length]⟩,none,some (oR 25 3 Zc z14),none]) (n+6)) ?_
  intro s0_ x0_ hs0_
  unfold Zbd at hs0_
  try dsimp only
  refine zQ [2,5,34,35,36,37] ?_
  refine Zf ?_
  refine Zo (t:=(decide (s0_.1 < (z1.2.length:Int)))) rfl (fun c13 => ?_) (fun c13 => ?_)
  ·replace hs0_:=Zq c13 hs0_
   refine Xs [2,5,34,35,36] [false,true,true,false,true,false] ?_
   refine Zf ?_
   refine Yh ?_
   refine Zf ?_
   obtain ⟨x9,hx9,ax9,bx9,cx9,hs0_⟩:=bE (f:=Zc) Zcc (fun _=>rfl) (by decide) hs0_
   refine Zgu [] ax9 bx9 cx9 ?_
   refine zD [2,5,6,7,34,35,36] [false,true,true,false,true,false,true] ?_
   obtain ⟨y10,hy10,hs0_⟩:=bC hs0_
   obtain ⟨x11,hx11,ax11,bx11,cx11,hs0_⟩:=bE (f:=Zc) Zcc (fun _=>rfl) (by decide) hs0_
   have gu12:Ga (fl Zc s0_.2) [.val (.int .i64 y10.Kind),.sl y10.Words.length (fl (eI .u64) y10.Words),.sl y10.Kids.length (fl Zc y10.Kids)] (Int.toNat s0_.1 * 3)=some (fl Zc (Zic s0_.2 s0_.1 y10)):=(congrArg (fun c=>Ga (fl Zc s0_.2) c (Int.toNat s0_.1 * 3)) (show [.val (.int .i64 y10.Kind),.sl y10.Words.length (fl (eI .u64) y10.Words),.sl y10.Kids.length (fl Zc y10.Kids)]=Zc y10 from by simp only [Zc,Ql,eI,eB,eS,eL])).trans (Zji (f:=Zc) (ti:=⟨.bool,3,0,[],false⟩) (x:=y10) (fun _=>rfl) (Zem hx11))
   refine Zj5 Zs (by kernel_rfl) [false,false,false,false,false,false,true] [] (by kernel_rfl) ?_
   refine zF4 ax11 bx11 cx11 gu12 ?_
   refine PCall.of (Zxg hy10) ?_
   refine zF4 ax11 bx11 cx11 gu12 ?_
   refine zD [2,5,34,35,36] [false,true,true,false,true,false,false] ?_
   refine zR ?_
   exact Vh hs0_
  replace hs0_:=Zp c13 hs0_
  exact zEx hs0_
 try simp only [Yv,Z9,↓reduceIte,Nat.reduceEqDiff]
 refine zDs [2,5] [false,true,true,false,true,false] ?_
 refine Gi [2] [false,true,false,false,true,false] ?_
 refine zW ?_
 obtain rfl:=sI h
 refine Zl (.inr rfl) hU [.agg [(vI a0.Kind),(sL (eI .u64) z1.1),.row (n+4) z14.length]] (by omega) ?_
 simp only [push_cast,seval,↓reduceIte,Zd,Tryz.results81,hN0,hN]
theorem Zt0:∀ k,(Zl7 (Gb k)):=fun k=>by
 induction k with
 | zero=>exact @fun a0 r O n h=>(nomatch (show (none:Option _)=some _ from h))
 | succ k ih=>exact @fun a0 r O n h=>Zyd (ih)  h
theorem Z0s {a0:Za} {r:Za} {O:Objs} {n:Nat} (h:Zl5 a0=some r):GTo Tryz.prog 81 [.agg (Zg a0)] O n (.agg (Zg r)) O n:=by
 obtain ⟨k,hk⟩:=Zbg h
 exact (Zt0 k)  hk
theorem Zdz {a0:Zi} {a1:Zb} {r:(Za×Int)} {O:Objs} {n:Nat} (h:Gx a0 a1=some r):GTo Tryz.prog 46 [.agg (Zm a0),.agg (Zk a1)] O n (.tup [.agg (Zg r.1),(vI r.2)]) O n:=by
 unfold Gx at h
 refine Uw Zs Tryz.call46 Tryz.func46 rfl fun hU hN0 hN => ?_
 show W _ _ _ _ ⟨20,[],[(0,.agg (Zm a0)),(1,.agg (Zk a1))]⟩ (Zx O n []) _
 refine zQ [2,3,4] ?_
 refine Zf ?_
 obtain ⟨y2,hy2,h⟩:=bC h
 refine zCd (Zt1 hy2) [4,6,7] [false,false,true,true] ?_
 refine Zf ?_
 refine zQ [4,6,7,15] ?_
 refine Zo (t:=(y2.2 != 0)) rfl (fun c5 => ?_) (fun c5 => ?_)
 ·replace h:=Zq c5 h
  refine Zf ?_
  refine Gi [4,5] [false,false,true,false] ?_
  refine zW ?_
  obtain rfl:=sI h
  refine Zl (.inr rfl) hU [.agg [(vI 0),nV,nV],(vI y2.2)] (by omega) ?_
  simp only [push_cast,seval,↓reduceIte,Zd,Tryz.results46,hN0,hN]
 replace h:=Zp c5 h
 refine Xs [4,6] [false,false,true,true] ?_
 refine Zf ?_
 obtain ⟨y4,hy4,h⟩:=bC h
 refine zCd (Z0s hy4) [4,5] [false,false,true,false] ?_
 refine zW ?_
 obtain rfl:=sI h
 refine Zl (.inr rfl) hU [.agg (Zg y4),(vI 0)] (by omega) ?_
 simp only [push_cast,seval,↓reduceIte,Zd,Tryz.results46,hN0,hN]
theorem Zdn  {r:Bool} {O:Objs} {n:Nat} (h:Kp=some r):GTo Tryz.prog 45 [] O n ((vB r)) O n:=by
 unfold Kp at h
 refine Uw Zs Tryz.call45 Tryz.func45 rfl fun hU hN0 hN => ?_
 show W _ _ _ _ ⟨38,[],[]⟩ (Zx O n []) _
 refine zQ [] ?_
 refine Zf ?_
 obtain ⟨y2,hy2,h⟩:=bC h
 refine zR ?_
 refine GCalls.dropL (l':=[none,none]) hU rfl ?_ ((Zd6 hy2).then ?_)
 ·exact zSe
 refine zS ?_
 refine zDs [1] [false,false,true] ?_
 obtain ⟨y4,hy4,h⟩:=bC h
 refine zR ?_
 refine GCalls.argsW ?_ ((Zdz hy4).then ?_)
 ·exact zSe
 refine zS ?_
 refine zDs [1,3] [false,false,true,false] ?_
 obtain ⟨y6,hy6,h⟩:=bC h
 refine zR ?_
 refine GCalls.argsW ?_ ((Zdz hy6).then ?_)
 ·exact zSe
 refine zS ?_
 refine zD [3,4,5] [false,false,false,false,true] ?_
 refine zQD [0] [none,none,none,none,none,none,none,none,none] ?_
 refine zW ?_
 obtain rfl:=sI h
 refine Zl (.inr rfl) hU [(vB (cond (cond (cond (y4.2 == 13) (y6.2 == 0) false) (y6.1.Kind == 1) false) ((y6.1.Words.length:Int) == 1) false))] (by omega) ?_
 simp only [push_cast,seval,↓reduceIte,Zd,Tryz.results45,hN0,hN]
theorem Zof {a0:(List Int)} {r:(List Int)} {O:Objs} {n:Nat} (h:Zar a0=some r):GTo Tryz.prog 121 [(sL (eI .u64) a0)] O n ((sL (eI .u64) r)) O n:=by
 unfold Zar at h
 refine Uw Zs Tryz.call121 Tryz.func121 rfl fun hU hN0 hN => ?_
 show W _ _ _ _ ⟨24,[],[(0,(sL (eI .u64) a0))]⟩ (Zx O n []) _
 refine zQ [0] ?_
 refine zQ [0,3] ?_
 refine Zf ?_
 refine zD [0,3] [] ?_
 obtain ⟨z7,hz7,h⟩:=bC h
 refine Yn (E':=⟨24,[],[(0,(sL (eI .u64) a0)),(3,(vI z7))]⟩) (O':=(Zx O n [])) (n0:=n) ?_ ?_
 ·refine Xd hz7 (fun s0_=>⟨24,[],[(0,(sL (eI .u64) a0)),(3,(vI s0_))]⟩) (fun s0_=>(Zx O n [])) (fun z7=>JX 0 n (⟨24,[],[(0,(sL (eI .u64) a0)),(3,(vI z7))]⟩:Env) (Zx O n []) n) ?_
  intro s0_ x0_ hs0_
  unfold Uh at hs0_
  try dsimp only
  refine Zf ?_
  obtain ⟨z2,hz2,hs0_⟩:=bC hs0_
  refine Y1 (E':=⟨24,[],[(0,(sL (eI .u64) a0)),(3,(vI s0_)),(16,(vB z2))]⟩) (O':=(Zx O n [])) (n0:=n) ?_ ?_
  ·rcases Bool.eq_false_or_eq_true (decide (0 < s0_)) with c5 | c5
   ·replace hz2:=Zq c5 hz2
    obtain ⟨x4,hx4,ax4,bx4,cx4,hz2⟩:=bE (f:=(eI .u64)) Za6 (fun _=>rfl) (by decide) hz2
    refine Zj4 (Z40 []) c5 ax4 bx4 cx4 ?_
    exact Zx2 hz2 c5 ax4 bx4 cx4
   replace hz2:=Zp c5 hz2
   refine Vi (Z4y []) c5 ?_
   exact Ju hz2 c5
  refine Zo (t:=z2) rfl (fun c6 => ?_) (fun c6 => ?_)
  ·replace hs0_:=Zq c6 hs0_
   refine Xs [0,3] [] ?_
   refine Yh ?_
   refine zR ?_
   exact Vh hs0_
  replace hs0_:=Zp c6 hs0_
  exact zEx hs0_
 try simp only [Yv,Z9,↓reduceIte,Nat.reduceEqDiff]
 refine zD [0,3] [] ?_
 refine zQ [0,3,4] ?_
 refine Zf ?_
 obtain ⟨l10,al10,bl10,cl10,gl10,h⟩:=bS (lo:=none) (hi:=(some (.i64,z7))) (f:=(eI .u64)) rfl rfl Zg0 Za6 (fun _=>rfl) h
 obtain ⟨l11,pl11,ql11,el11,h⟩:=bA0 (k:=l10.length) rfl h
 refine Yo4 [] al10 bl10 cl10 gl10 pl11 ql11 el11 ?_
 refine Za5 ⟨24,[],[(2,.row n l11.length)]⟩ (Zx O n [some (oR 77 1 (eI .u64) l11)]) (Y0 hU rfl rfl ?_) ?_
 ·simp only [push_cast,seval,↓reduceIte,Zd,al10,bl10,cl10,gl10,pl11,ql11,el11,hN0,hN]
 refine zW ?_
 obtain rfl:=sI h
 refine Zl (.inr rfl) hU [.row n l11.length] (by omega) ?_
 simp only [push_cast,seval,↓reduceIte,Zd,Tryz.results121,hN0,hN]
def Zf4 (J8:(Za→Option Za)):Prop:=∀ {a0:Za} {r:Za} {O:Objs} {n:Nat},J8 a0=some r→GTo Tryz.prog 77 [.agg (Zg a0)] O n (.agg (Zg r)) O n
theorem Znq {J8:(Za→Option Za)} (Zmb:Zf4 J8) {a0:Za} {r:Za} {O:Objs} {n:Nat} (h:Zaj J8 a0=some r):GTo Tryz.prog 77 [.agg (Zg a0)] O n (.agg (Zg r)) O n:=by
 unfold Zaj at h
 refine Uw Zs Tryz.call77 Tryz.func77 rfl fun hU hN0 hN => ?_
 show W _ _ _ _ ⟨53,[],[(0,.agg (Zg a0))]⟩ (Zx O n []) _
 refine zQ [1,2] ?_
 refine Zf ?_
 refine zQ [1,2,10] ?_
 refine Zo (t:=(a0.Kind == 0)) rfl (fun c19 => ?_) (fun c19 => ?_)
 ·replace h:=Zq c19 h
  refine Zf ?_
  refine Gi [2] [false,true] ?_
  refine zW ?_
  obtain rfl:=sI h
  refine Zl (.inr rfl) hU [.agg [(vI 0),nV,nV]] (by omega) ?_
  simp only [push_cast,seval,↓reduceIte,Zd,Tryz.results77,hN0,hN]
 replace h:=Zp c19 h
 refine Xs [1,2] [true,true] ?_
 refine zQ [1,2,3] ?_
 refine zQ [1,2,3,4] ?_
 refine Zf ?_
 refine zQd [1,2,3,4,5] [1,2,3,4,5] [true,true] ?_
 refine Zcf (E':=(⟨53,[],[(1,.ref n 0),(2,.ref (n+1) 0),(3,.row (n+2) ([]:List Za).length),(4,(vI 0)),(5,(vI 0))]⟩:Env)) (O':=(Zx O n [some ⟨false,25,3,1,(Zg a0)⟩,some ⟨false,25,3,1,[(vI 0),nV,nV]⟩,some (oR 25 3 Zc ([]:List Za)),none])) (n':=(n+4)) ?_ ?_
 ·refine Fit2.trans (E':=(⟨53,[],[(1,.ref n 0),(2,.ref (n+1) 0),(3,nV),(4,(vI 0)),(5,(vI 0))]⟩:Env)) (O':=(Zx O n [some ⟨false,25,3,1,(Zg a0)⟩,some ⟨false,25,3,1,[(vI 0),nV,nV]⟩])) (n':=(n+2)) (Fit2.of (Y0 hU rfl rfl ?_) (by omega)) ?_
  ·exact zSe
  refine Fit2.trans (Zmq 3 25 3 rfl (by omega)) ?_
  simp only [Kg,Q3,Zah,List.set_cons_zero,List.set_cons_succ,List.cons_append,List.nil_append,List.length_cons,List.length_nil,Nat.zero_add,Nat.reduceAdd,Nat.reduceLT,Nat.add_assoc]
  refine Fit2.trans (E':=(⟨53,[],[(1,.ref n 0),(2,.ref (n+1) 0),(3,.row (n+2) ([]:List Za).length),(4,(vI 0)),(5,(vI 0))]⟩:Env)) (O':=(Zx O n [some ⟨false,25,3,1,(Zg a0)⟩,some ⟨false,25,3,1,[(vI 0),nV,nV]⟩,some (oR 25 3 Zc ([]:List Za))])) (n':=(n+3)) (Fit2.of (Y0 hU rfl rfl ?_) (by omega)) ?_
  ·exact zSe
  refine Zcm (k:=3) (k':=4) hU [0,1,2] [0,1,2,0] rfl rfl rfl rfl ⟨rfl,rfl⟩ ?_
  exact zSe
 obtain ⟨z10,hz10,h⟩:=bC h
 refine Yn (E':=⟨53,[],[(1,.ref n 0),(2,.ref (n+1) 0),(3,.row (n+2) z10.2.length),(4,(vI z10.1))]⟩) (O':=(Zx O n [some ⟨false,25,3,1,(Zg a0)⟩,some ⟨false,25,3,1,[(vI 0),nV,nV]⟩,some (oR 25 3 Zc z10.2),none])) (n0:=(n+4)) ?_ ?_
 ·refine Xd hz10 (fun s0_=>⟨53,[],[(1,.ref n 0),(2,.ref (n+1) 0),(3,.row (n+2) s0_.2.2.length),(4,(vI s0_.1)),(5,(vI s0_.2.1))]⟩) (fun s0_=>(Zx O n [some ⟨false,25,3,1,(Zg a0)⟩,some ⟨false,25,3,1,[(vI 0),nV,nV]⟩,some (oR 25 3 Zc s0_.2.2),none])) (fun z10=>JX 0 n (⟨53,[],[(1,.ref n 0),(2,.ref (n+1) 0),(3,.row (n+2) z10.2.length),(4,(vI z10.1))]⟩:Env) (Zx O n [some ⟨false,25,3,1,(Zg a0)⟩,some ⟨false,25,3,1,[(vI 0),nV,nV]⟩,some (oR 25 3 Zc z10.2),none]) (n+4)) ?_
  intro s0_ x0_ hs0_
  unfold Jn at hs0_
  try dsimp only
  refine Zf ?_
  refine zQ [1,2,3,4,5,16] ?_
  refine Zo (t:=(decide (s0_.2.1 < (a0.Kids.length:Int)))) rfl (fun c9 => ?_) (fun c9 => ?_)
  ·replace hs0_:=Zq c9 hs0_
   refine Xs [1,2,3,4,5] [true,true,true,false] ?_
   obtain ⟨z1,hz1,hs0_⟩:=bC hs0_
   refine Y1 (E':=⟨53,[],[(1,.ref n 0),(2,.ref (n+1) 0),(3,.row (n+2) z1.2.length),(4,(vI z1.1)),(5,(vI s0_.2.1))]⟩) (O':=(Zx O n [some ⟨false,25,3,1,(Zg a0)⟩,some ⟨false,25,3,1,[(vI 0),nV,nV]⟩,some (oR 25 3 Zc z1.2),none,none,none])) (n0:=(n+6)) ?_ ?_
   ·refine Yh ?_
    refine Zf ?_
    obtain ⟨x4,hx4,ax4,bx4,cx4,hz1⟩:=bE (f:=Zc) Zcc (fun _=>rfl) (by decide) hz1
    obtain ⟨y5,hy5,hz1⟩:=bC hz1
    refine Zgu [] ax4 bx4 cx4 ?_
    refine (Zmb hy5).then ?_
    refine zF3 ax4 bx4 cx4 ?_
    refine zDs [1,2,3,4,5,6] [true,true,true,false,true] ?_
    obtain ⟨l7,pl7,ql7,el7,hz1⟩:=bA (k:=1) rfl hz1
    refine Za0 [] pl7 ql7 el7 ?_
    refine Za5 ⟨53,[],[(1,.ref n 0),(2,.ref (n+1) 0),(3,.row (n+2) l7.length),(4,(vI s0_.1)),(5,(vI s0_.2.1)),(6,.ref (n+4) 0)]⟩ (Zx O n [some ⟨false,25,3,1,(Zg a0)⟩,some ⟨false,25,3,1,[(vI 0),nV,nV]⟩,some (oR 25 3 Zc l7),none,some ⟨false,25,3,1,(Zg y5)⟩,none]) (Y0 hU rfl rfl ?_) ?_
    ·exact Zt5 pl7 ql7 el7
    refine zQ [1,2,3,4,5,31] ?_
    refine Zo (t:=(y5.Kind != 0)) rfl (fun c8 => ?_) (fun c8 => ?_)
    ·replace hz1:=Zq c8 hz1
     refine zR ?_
     exact Vh hz1
    replace hz1:=Zp c8 hz1
    refine zK ?_
    exact Vh hz1
   refine zR ?_
   exact Vh hs0_
  replace hs0_:=Zp c9 hs0_
  exact zEx hs0_
 try simp only [Yv,Z9,↓reduceIte,Nat.reduceEqDiff]
 refine zDs [1,2,3,4] [true,true,true,false] ?_
 refine zQ [1,2,3,4,36] ?_
 refine Zo (t:=(a0.Kind == 1)) rfl (fun c18 => ?_) (fun c18 => ?_)
 ·replace h:=Zq c18 h
  refine Za5 ⟨53,[],[(1,.ref n 0),(2,.ref (n+1) 0),(3,(sL Zc z10.2)),(4,(vI z10.1))]⟩ (Zx O n [some ⟨false,25,3,1,(Zg a0)⟩,some ⟨false,25,3,1,[(vI 0),nV,nV]⟩,none,none]) (Y0 hU rfl rfl ?_) ?_
  ·exact zSe
  refine Zf ?_
  obtain ⟨y14,hy14,h⟩:=bC h
  obtain ⟨l15,al15,bl15,cl15,gl15,h⟩:=bS (lo:=none) (hi:=(some (.i64,z10.1))) (f:=Zc) rfl rfl Zk8 Zcc (fun _=>rfl) h
  refine Zj5 Zs (by kernel_rfl) [false,false,false,false,false,false,false,true] [] (by kernel_rfl) ?_
  refine zX4 al15 bl15 cl15 gl15 ?_
  refine PCall.of (Zof hy14) ?_
  refine zX4 al15 bl15 cl15 gl15 ?_
  refine zD [2] [false,true,false,false] ?_
  refine zW ?_
  obtain rfl:=sI h
  refine Zl (.inr rfl) hU [.agg [(vI 1),(sL (eI .u64) y14),(sL Zc l15)]] (by omega) ?_
  simp only [push_cast,seval,↓reduceIte,Zd,Tryz.results77,hN0,hN]
 replace h:=Zp c18 h
 refine Xs [1,2,3] [true,true,true,false] ?_
 refine zQ [1,2,3,7] ?_
 refine Zf ?_
 obtain ⟨l17,pl17,ql17,el17,h⟩:=bA0 (k:=a0.Words.length) rfl h
 refine Za0 [] pl17 ql17 el17 ?_
 refine Za5 ⟨53,[],[(1,.ref n 0),(2,.ref (n+1) 0),(3,.row (n+2) z10.2.length),(7,.row (n+4) l17.length)]⟩ (Zx O n [some ⟨false,25,3,1,(Zg a0)⟩,some ⟨false,25,3,1,[(vI 0),nV,nV]⟩,some (oR 25 3 Zc z10.2),none,some (oR 77 1 (eI .u64) l17)]) (Y0 hU rfl rfl ?_) ?_
 ·exact Zt5 pl17 ql17 el17
 refine Zf ?_
 refine Gi [2] [false,true,true,false,true] ?_
 refine zW ?_
 obtain rfl:=sI h
 refine Zl (.inr rfl) hU [.agg [(vI a0.Kind),.row (n+4) l17.length,.row (n+2) z10.2.length]] (by omega) ?_
 simp only [push_cast,seval,↓reduceIte,Zd,Tryz.results77,hN0,hN]
theorem Zlj:∀ k,(Zf4 (X7 k)):=fun k=>by
 induction k with
 | zero=>exact @fun a0 r O n h=>(nomatch (show (none:Option _)=some _ from h))
 | succ k ih=>exact @fun a0 r O n h=>Znq (ih)  h
theorem Zd7 {a0:Za} {r:Za} {O:Objs} {n:Nat} (h:Uo a0=some r):GTo Tryz.prog 77 [.agg (Zg a0)] O n (.agg (Zg r)) O n:=by
 obtain ⟨k,hk⟩:=Zbg h
 exact (Zlj k)  hk
theorem Zoe {a0:(List Int)} {a1:(List Int)} {r:Bool} {O:Objs} {n:Nat} (h:Zap a0 a1=some r):GTo Tryz.prog 30 [(sL (eI .u64) a0),(sL (eI .u64) a1)] O n ((vB r)) O n:=by
 unfold Zap at h
 refine Uw Zs Tryz.call30 Tryz.func30 rfl fun hU hN0 hN => ?_
 show W _ _ _ _ ⟨26,[],[(0,(sL (eI .u64) a0)),(1,(sL (eI .u64) a1))]⟩ (Zx O n []) _
 refine zQ [0,1] ?_
 refine Zf ?_
 refine zQ [0,1,10] ?_
 refine Zo (t:=((a0.length:Int) != (a1.length:Int))) rfl (fun c8 => ?_) (fun c8 => ?_)
 ·replace h:=Zq c8 h
  refine zQ [4] ?_
  refine zW ?_
  obtain rfl:=sI h
  refine Zl (.inr rfl) hU [(vB false)] (by omega) ?_
  simp only [push_cast,seval,↓reduceIte,Zd,Tryz.results30,hN0,hN]
 replace h:=Zp c8 h
 refine Xs [0,1] [] ?_
 refine Zf ?_
 refine zQd [0,1,5] [0,1,5] [] ?_
 obtain ⟨z7,hz7,h⟩:=bC h
 refine Ut (J:=(Xg (fun z7=>JR n (⟨26,[],[(4,(vB false))]⟩:Env) (Zx O n []) n) (fun z7=>JX 0 n (⟨26,[],[]⟩:Env) (Zx O n []) n))) (z:=z7) ?_ fun hw => ?_
 ·refine Xd hz7 (fun s0_=>⟨26,[],[(0,(sL (eI .u64) a0)),(1,(sL (eI .u64) a1)),(5,(vI s0_))]⟩) (fun s0_=>(Zx O n [])) (Xg (fun z7=>JR n (⟨26,[],[(4,(vB false))]⟩:Env) (Zx O n []) n) (fun z7=>JX 0 n (⟨26,[],[]⟩:Env) (Zx O n []) n)) ?_
  intro s0_ x0_ hs0_
  unfold Ug at hs0_
  try dsimp only
  refine Zf ?_
  refine zQ [0,1,5,14] ?_
  refine Zo (t:=(decide (s0_ < (a0.length:Int)))) rfl (fun c6 => ?_) (fun c6 => ?_)
  ·replace hs0_:=Zq c6 hs0_
   refine Xs [0,1,5] [] ?_
   refine Zf ?_
   refine Yh ?_
   obtain ⟨x3,hx3,ax3,bx3,cx3,hs0_⟩:=bE (f:=(eI .u64)) Za6 (fun _=>rfl) (by decide) hs0_
   obtain ⟨x4,hx4,ax4,bx4,cx4,hs0_⟩:=bE (f:=(eI .u64)) Za6 (fun _=>rfl) (by decide) hs0_
   refine Zef [0,1,5,25] (Xl Zs (by kernel_rfl) [] (by kernel_rfl) ?_)
   refine zF6 ax3 bx3 cx3 ax4 bx4 cx4 ?_
   refine Zo (t:=(x3 != x4)) rfl (fun c5 => ?_) (fun c5 => ?_)
   ·replace hs0_:=Zq c5 hs0_
    refine zQ [4] ?_
    refine zW ?_
    exact zEy hs0_
   replace hs0_:=Zp c5 hs0_
   refine Xs [0,1,5] [] ?_
   refine zR ?_
   exact Vh hs0_
  replace hs0_:=Zp c6 hs0_
  exact zEx hs0_
 rcases z7 with z7 | z7
 ·dsimp only [Xg] at hw h
  refine Q1 hw ?_
  try simp only [Yv,Z9,↓reduceIte,Nat.reduceEqDiff]
  obtain rfl:=sI h
  refine Zl (.inr rfl) hU [(vB false)] (by omega) ?_
  simp only [push_cast,seval,↓reduceIte,Zd,Tryz.results30,hN0,hN]
 dsimp only [Xg] at hw h
 refine Yn hw ?_
 try simp only [Yv,Z9,↓reduceIte,Nat.reduceEqDiff]
 refine zD [] [] ?_
 refine zQ [4] ?_
 refine zW ?_
 obtain rfl:=sI h
 refine Zl (.inr rfl) hU [(vB true)] (by omega) ?_
 simp only [push_cast,seval,↓reduceIte,Zd,Tryz.results30,hN0,hN]
def Zf5 (J9:(Za→Za→Option Bool)):Prop:=∀ {a0:Za} {a1:Za} {r:Bool} {O:Objs} {n:Nat},J9 a0 a1=some r→GTo Tryz.prog 17 [.agg (Zg a0),.agg (Zg a1)] O n ((vB r)) O n
theorem Znr {J9:(Za→Za→Option Bool)} (Zmc:Zf5 J9) {a0:Za} {a1:Za} {r:Bool} {O:Objs} {n:Nat} (h:Zak J9 a0 a1=some r):GTo Tryz.prog 17 [.agg (Zg a0),.agg (Zg a1)] O n ((vB r)) O n:=by
 unfold Zak at h
 refine Uw Zs Tryz.call17 Tryz.func17 rfl fun hU hN0 hN => ?_
 show W _ _ _ _ ⟨47,[],[(0,.agg (Zg a0)),(1,.agg (Zg a1))]⟩ (Zx O n []) _
 refine zQ [2,3] ?_
 refine Zf ?_
 obtain ⟨z2,hz2,h⟩:=bC h
 refine Y1 (E':=⟨47,[],[(2,.ref n 0),(3,.ref (n+1) 0),(27,(vB z2))]⟩) (O':=(Zx O n [some ⟨false,25,3,1,(Zg a0)⟩,some ⟨false,25,3,1,(Zg a1)⟩])) (n0:=(n+2)) ?_ ?_
 ·rcases Bool.eq_false_or_eq_true (a0.Kind != a1.Kind) with c5 | c5
  ·replace hz2:=Zq c5 hz2
   refine Vi (Yhq []) c5 ?_
   exact Ju hz2 c5
  replace hz2:=Zp c5 hz2
  obtain ⟨y4,hy4,hz2⟩:=bC hz2
  refine Vi (Z40 (Z0o [])) c5 ?_
  refine zG ?_
  refine (Zoe hy4).then ?_
  refine zX1 c5 ?_
  refine zG ?_
  exact Ju hz2 c5
 refine Zo (t:=z2) rfl (fun c15 => ?_) (fun c15 => ?_)
 ·replace h:=Zq c15 h
  refine zQ [4] ?_
  refine zW ?_
  obtain rfl:=sI h
  refine Zl (.inr rfl) hU [(vB false)] (by omega) ?_
  simp only [push_cast,seval,↓reduceIte,Zd,Tryz.results17,hN0,hN]
 replace h:=Zp c15 h
 refine Xs [2,3] [true,true] ?_
 refine Zf ?_
 refine zQd [2,3,5] [2,3,5] [true,true] ?_
 obtain ⟨z14,hz14,h⟩:=bC h
 refine Ut (J:=(Xg (fun z14=>JR n (⟨47,[],[(4,(vB false))]⟩:Env) (Zx O n [none,none]) (n+2)) (fun z14=>JX 0 n (⟨47,[],[]⟩:Env) (Zx O n [none,none]) (n+2)))) (z:=z14) ?_ fun hw => ?_
 ·refine Xd hz14 (fun s0_=>⟨47,[],[(2,.ref n 0),(3,.ref (n+1) 0),(5,(vI s0_))]⟩) (fun s0_=>(Zx O n [some ⟨false,25,3,1,(Zg a0)⟩,some ⟨false,25,3,1,(Zg a1)⟩])) (Xg (fun z14=>JR n (⟨47,[],[(4,(vB false))]⟩:Env) (Zx O n [none,none]) (n+2)) (fun z14=>JX 0 n (⟨47,[],[]⟩:Env) (Zx O n [none,none]) (n+2))) ?_
  intro s0_ x0_ hs0_
  unfold Ua at hs0_
  try dsimp only
  refine Zf ?_
  refine zQ [2,3,5,32] ?_
  refine Zo (t:=(decide (s0_ < (a0.Kids.length:Int)))) rfl (fun c13 => ?_) (fun c13 => ?_)
  ·replace hs0_:=Zq c13 hs0_
   refine Xs [2,3,5] [true,true] ?_
   refine Zf ?_
   refine Yh ?_
   refine Zf ?_
   obtain ⟨x9,hx9,ax9,bx9,cx9,hs0_⟩:=bE (f:=Zc) Zcc (fun _=>rfl) (by decide) hs0_
   obtain ⟨x10,hx10,ax10,bx10,cx10,hs0_⟩:=bE (f:=Zc) Zcc (fun _=>rfl) (by decide) hs0_
   obtain ⟨y11,hy11,hs0_⟩:=bC hs0_
   refine Xl Zs (by kernel_rfl) [] (by kernel_rfl) ?_
   refine zF6 ax9 bx9 cx9 ax10 bx10 cx10 ?_
   refine PCall.of (Zmc hy11) ?_
   refine zF6 ax9 bx9 cx9 ax10 bx10 cx10 ?_
   refine zD [2,3,5,46] [true,true] ?_
   refine Zo (t:=(!y11)) rfl (fun G9 => ?_) (fun G9 => ?_)
   ·replace hs0_:=Zq G9 hs0_
    refine zQ [4] ?_
    refine zW ?_
    exact zEy hs0_
   replace hs0_:=Zp G9 hs0_
   refine Xs [2,3,5] [true,true] ?_
   refine zR ?_
   exact Vh hs0_
  replace hs0_:=Zp c13 hs0_
  exact zEx hs0_
 rcases z14 with z14 | z14
 ·dsimp only [Xg] at hw h
  refine Q1 hw ?_
  try simp only [Yv,Z9,↓reduceIte,Nat.reduceEqDiff]
  obtain rfl:=sI h
  refine Zl (.inr rfl) hU [(vB false)] (by omega) ?_
  simp only [push_cast,seval,↓reduceIte,Zd,Tryz.results17,hN0,hN]
 dsimp only [Xg] at hw h
 refine Yn hw ?_
 try simp only [Yv,Z9,↓reduceIte,Nat.reduceEqDiff]
 refine zD [] [false,false] ?_
 refine zQ [4] ?_
 refine zW ?_
 obtain rfl:=sI h
 refine Zl (.inr rfl) hU [(vB true)] (by omega) ?_
 simp only [push_cast,seval,↓reduceIte,Zd,Tryz.results17,hN0,hN]
theorem Zlk:∀ k,(Zf5 (Ko k)):=fun k=>by
 induction k with
 | zero=>exact @fun a0 a1 r O n h=>(nomatch (show (none:Option _)=some _ from h))
 | succ k ih=>exact @fun a0 a1 r O n h=>Znr (ih)  h
theorem G3 {a0:Za} {a1:Za} {r:Bool} {O:Objs} {n:Nat} (h:Zaq a0 a1=some r):GTo Tryz.prog 17 [.agg (Zg a0),.agg (Zg a1)] O n ((vB r)) O n:=by
 obtain ⟨k,hk⟩:=Zbg h
 exact (Zlk k)  hk
theorem Zgq {a0:Za} {a1:Za} {r:Bool} {O:Objs} {n:Nat} (h:Ks a0 a1=some r):GTo Tryz.prog 62 [.agg (Zg a0),.agg (Zg a1)] O n ((vB r)) O n:=by
 unfold Ks at h
 refine Uw Zs Tryz.call62 Tryz.func62 rfl fun hU hN0 hN => ?_
 show W _ _ _ _ ⟨10,[],[(0,.agg (Zg a0)),(1,.agg (Zg a1))]⟩ (Zx O n []) _
 refine zQ [2,3] ?_
 refine Zf ?_
 obtain ⟨y4,hy4,h⟩:=bC h
 obtain ⟨y5,hy5,h⟩:=bC h
 obtain ⟨y6,hy6,h⟩:=bC h
 refine Xl Zs (by kernel_rfl) [] (by kernel_rfl) ?_
 refine zS ?_
 refine PCall.of (Zd7 hy4) ?_
 refine zS ?_
 refine PCall.of (Zd7 hy5) ?_
 refine zS ?_
 refine PCall.of (G3 hy6) ?_
 refine zS ?_
 refine zD [4] [false,false] ?_
 refine zW ?_
 obtain rfl:=sI h
 refine Zl (.inr rfl) hU [(vB y6)] (by omega) ?_
 simp only [push_cast,seval,↓reduceIte,Zd,Tryz.results62,hN0,hN]
theorem Zoj {a0:Za} {a1:Int} {r:Int} {O:Objs} {n:Nat} (h:Zat a0 a1=some r):GTo Tryz.prog 154 [.agg (Zg a0),(vI a1)] O n (.val (.int .u64 r)) O n:=by
 unfold Zat at h
 refine Uw Zs Tryz.call154 Tryz.func154 rfl fun hU hN0 hN => ?_
 show W _ _ _ _ ⟨15,[],[(0,.agg (Zg a0)),(1,(vI a1))]⟩ (Zx O n []) _
 refine zQ [1,2] ?_
 refine Zf ?_
 refine zQ [1,2,9] ?_
 refine Zo (t:=(decide (a1 < (a0.Words.length:Int)))) rfl (fun c3 => ?_) (fun c3 => ?_)
 ·replace h:=Zq c3 h
  obtain ⟨x2,hx2,ax2,bx2,cx2,h⟩:=bE (f:=(eI .u64)) Za6 (fun _=>rfl) (by decide) h
  refine Zef [4] (Yr Zs [] ?_)
  refine zF3 ax2 bx2 cx2 ?_
  refine zW ?_
  obtain rfl:=sI h
  refine Zl (.inr rfl) hU [.val (.int .u64 x2)] (by omega) ?_
  simp only [push_cast,seval,↓reduceIte,Zd,Tryz.results154,hN0,hN]
 replace h:=Zp c3 h
 refine Xs [] [false] ?_
 refine zQ [4] ?_
 refine zW ?_
 obtain rfl:=sI h
 refine Zl (.inr rfl) hU [.val (.int .u64 0)] (by omega) ?_
 simp only [push_cast,seval,↓reduceIte,Zd,Tryz.results154,hN0,hN]
theorem Zps {a0:Za} {a1:Int} {r:Za} {O:Objs} {n:Nat} (h:Zbk a0 a1=some r):GTo Tryz.prog 155 [.agg (Zg a0),(vI a1)] O n (.agg (Zg r)) O n:=by
 unfold Zbk at h
 refine Uw Zs Tryz.call155 Tryz.func155 rfl fun hU hN0 hN => ?_
 show W _ _ _ _ ⟨16,[],[(0,.agg (Zg a0)),(1,(vI a1))]⟩ (Zx O n []) _
 refine zQ [1,2,4] ?_
 refine Zf ?_
 refine zQ [1,2,4,9] ?_
 refine Zo (t:=(decide (a1 < (a0.Kids.length:Int)))) rfl (fun c3 => ?_) (fun c3 => ?_)
 ·replace h:=Zq c3 h
  refine Zf ?_
  obtain ⟨x2,hx2,ax2,bx2,cx2,h⟩:=bE (f:=Zc) Zcc (fun _=>rfl) (by decide) h
  refine Zgu [] ax2 bx2 cx2 ?_
  refine zD [4] [false,true] ?_
  refine zW ?_
  obtain rfl:=sI h
  refine Zl (.inr rfl) hU [.agg (Zg x2)] (by omega) ?_
  simp only [push_cast,seval,↓reduceIte,Zd,Tryz.results155,hN0,hN]
 replace h:=Zp c3 h
 refine Xs [4] [false,true] ?_
 refine Zf ?_
 refine Gi [4] [false,true] ?_
 refine zW ?_
 obtain rfl:=sI h
 refine Zl (.inr rfl) hU [.agg [(vI 0),nV,nV]] (by omega) ?_
 simp only [push_cast,seval,↓reduceIte,Zd,Tryz.results155,hN0,hN]
attribute [local push_cast] false_and decide_eq_true_eq decide_eq_false_iff_not ge_iff_le Bool.not_false Bool.and_false Zm2 Zm0 Zkw Zir Zm1 Zoq Zjb Qf Vb Zaz Zfd Zbc Zgb Ze5 Zld
def Zav (Yw:(Zi→Za→Option (Za×Bool))):Prop:=∀ {a0:Zi} {a1:Za} {r:(Za×Bool)} {O:Objs} {n:Nat},Yw a0 a1=some r→GTo Tryz.prog 48 [.agg (Zm a0),.agg (Zg a1)] O n (.tup [.agg (Zg r.1),(vB r.2)]) O n
def Vr (Yx:(Zi→Za→Option (Za×Bool))):Prop:=∀ {a0:Zi} {a1:Za} {r:(Za×Bool)} {O:Objs} {n:Nat},Yx a0 a1=some r→GTo Tryz.prog 93 [.agg (Zm a0),.agg (Zg a1)] O n (.tup [.agg (Zg r.1),(vB r.2)]) O n
def Zaw (Xm:(Zi→Za→Option (Za×Bool))):Prop:=∀ {a0:Zi} {a1:Za} {r:(Za×Bool)} {O:Objs} {n:Nat},Xm a0 a1=some r→GTo Tryz.prog 94 [.agg (Zm a0),.agg (Zg a1)] O n (.tup [.agg (Zg r.1),(vB r.2)]) O n
theorem Znu {Yw:(Zi→Za→Option (Za×Bool))} {Yx:(Zi→Za→Option (Za×Bool))} {Xm:(Zi→Za→Option (Za×Bool))} (K5:Zav Yw) (Zab:Vr Yx) (Zc3:Zaw Xm) {a0:Zi} {a1:Za} {r:(Za×Bool)} {O:Objs} {n:Nat} (h:Zal Yw Yx Xm a0 a1=some r):GTo Tryz.prog 48 [.agg (Zm a0),.agg (Zg a1)] O n (.tup [.agg (Zg r.1),(vB r.2)]) O n:=by
 unfold Zal at h
 refine Uw Zs Tryz.call48 Tryz.func48 rfl fun hU hN0 hN => ?_
 show W _ _ _ _ ⟨42,[],[(0,.agg (Zm a0)),(1,.agg (Zg a1))]⟩ (Zx O n []) _
 refine zQ [2,3,4] ?_
 refine Zf ?_
 refine Gi [2,3,4,6] [true,true,true,true] ?_
 obtain ⟨z1,hz1,h⟩:=bC h
 refine Y1 (E':=⟨42,[],[(4,.ref (n+2) 0),(6,.ref (n+3) 0),(7,(vB z1.1))]⟩) (O':=(Zx O n [none,none,some ⟨false,25,3,1,[(vI 0),nV,nV]⟩,some ⟨false,25,3,1,[(vI z1.2.1),(sL (eI .u64) z1.2.2.1),(sL Zc z1.2.2.2)]⟩])) (n0:=(n+4)) ?_ ?_
 ·refine zQ [2,3,4,6,10] ?_
  refine Yh ?_
  refine zQ [2,3,4,6,10,11] ?_
  refine Zo (t:=(a0.Kind == 0)) rfl (fun c8 => ?_) (fun c8 => ?_)
  ·replace hz1:=Zq c8 hz1
   refine zR ?_
   exact Vh hz1
  replace hz1:=Zp c8 hz1
  refine zQ [2,3,4,6,10,13] ?_
  refine Zo (t:=(a0.Kind == 1)) rfl (fun c7 => ?_) (fun c7 => ?_)
  ·replace hz1:=Zq c7 hz1
   refine Zf ?_
   refine Gi [2,3,4,6] [true,true,true,true] ?_
   obtain ⟨y2,hy2,hz1⟩:=bC hz1
   refine zC (Zgq hy2) ?_
   exact Vh hz1
  replace hz1:=Zp c7 hz1
  refine zQ [2,3,4,6,10,21] ?_
  refine Zo (t:=(a0.Kind == 2)) rfl (fun c6 => ?_) (fun c6 => ?_)
  ·replace hz1:=Zq c6 hz1
   obtain ⟨y3,hy3,hz1⟩:=bC hz1
   refine zC (Zab hy3) ?_
   exact Vh hz1
  replace hz1:=Zp c6 hz1
  refine zQ [2,3,4,6,29] ?_
  refine Zo (t:=(a0.Kind == 3)) rfl (fun c5 => ?_) (fun c5 => ?_)
  ·replace hz1:=Zq c5 hz1
   obtain ⟨y4,hy4,hz1⟩:=bC hz1
   refine zC (Zc3 hy4) ?_
   exact Vh hz1
  replace hz1:=Zp c5 hz1
  refine zR ?_
  exact Vh hz1
 refine Zf ?_
 refine zQ [4,6,38] ?_
 refine Zo (t:=(!z1.1)) rfl (fun Jz => ?_) (fun Jz => ?_)
 ·replace h:=Zq Jz h
  refine Zf ?_
  refine Gi [4,5] [false,false,true,false] ?_
  refine zW ?_
  obtain rfl:=sI h
  refine Zl (.inr rfl) hU [.agg [(vI 0),nV,nV],(vB false)] (by omega) ?_
  simp only [push_cast,seval,↓reduceIte,Zd,Tryz.results48,hN0,hN]
 replace h:=Zp Jz h
 refine Xs [4,6] [false,false,true,true] ?_
 refine Zf ?_
 obtain ⟨y10,hy10,h⟩:=bC h
 refine zCd (Zd7 hy10) [4,5] [false,false,true,false] ?_
 refine zW ?_
 obtain rfl:=sI h
 refine Zl (.inr rfl) hU [.agg (Zg y10),(vB true)] (by omega) ?_
 simp only [push_cast,seval,↓reduceIte,Zd,Tryz.results48,hN0,hN]
theorem Zi7 {Yw:(Zi→Za→Option (Za×Bool))} {Yx:(Zi→Za→Option (Za×Bool))} {Xm:(Zi→Za→Option (Za×Bool))} (K5:Zav Yw) (Zab:Vr Yx) (Zc3:Zaw Xm) {a0:Zi} {a1:Za} {r:(Za×Bool)} {O:Objs} {n:Nat} (h:Va Yw Yx Xm a0 a1=some r):GTo Tryz.prog 93 [.agg (Zm a0),.agg (Zg a1)] O n (.tup [.agg (Zg r.1),(vB r.2)]) O n:=by
 unfold Va at h
 refine Uw Zs Tryz.call93 Tryz.func93 rfl fun hU hN0 hN => ?_
 show W _ _ _ _ ⟨175,[],[(0,.agg (Zm a0)),(1,.agg (Zg a1))]⟩ (Zx O n []) _
 refine zQ [2,3,4] ?_
 refine Zf ?_
 refine zQ [2,3,4,21] ?_
 refine Zo (t:=(a1.Kind != 1)) rfl (fun c69 => ?_) (fun c69 => ?_)
 ·replace h:=Zq c69 h
  refine Zf ?_
  refine Gi [4,5] [false,false,true] ?_
  refine zW ?_
  obtain rfl:=sI h
  refine Zl (.inr rfl) hU [.agg [(vI 0),nV,nV],(vB false)] (by omega) ?_
  simp only [push_cast,seval,↓reduceIte,Zd,Tryz.results93,hN0,hN]
 replace h:=Zp c69 h
 refine Xs [2,3,4] [true,true,true] ?_
 refine Zf ?_
 refine Gi [2,3,4,6] [true,true,true,true] ?_
 refine Zef [2,3,4,6,7,8] (Xl Zs (by kernel_rfl) [] (by kernel_rfl) ?_)
 refine zS ?_
 obtain ⟨z1,hz1,h⟩:=bC h
 refine Y1 (E':=⟨175,[],[(2,.ref n 0),(3,.ref (n+1) 0),(4,.ref (n+2) 0),(6,.ref (n+3) 0),(7,(vI z1)),(8,(vI (a1.Kids.length:Int)))]⟩) (O':=(Zx O n [some ⟨false,30,11,1,(Zm a0)⟩,some ⟨false,25,3,1,(Zg a1)⟩,some ⟨false,25,3,1,[(vI 0),nV,nV]⟩,some ⟨false,25,3,1,[(vI 1),nV,nV]⟩])) (n0:=(n+4)) ?_ ?_
 ·refine zQ [2,3,4,6,7,8,9] ?_
  obtain ⟨z4,hz4,hz1⟩:=bC hz1
  refine Y1 (E':=⟨175,[],[(2,.ref n 0),(3,.ref (n+1) 0),(4,.ref (n+2) 0),(6,.ref (n+3) 0),(7,(vI (a1.Words.length:Int))),(8,(vI (a1.Kids.length:Int))),(9,(vI (a0.Words.length:Int))),(45,(vB z4))]⟩) (O':=(Zx O n [some ⟨false,30,11,1,(Zm a0)⟩,some ⟨false,25,3,1,(Zg a1)⟩,some ⟨false,25,3,1,[(vI 0),nV,nV]⟩,some ⟨false,25,3,1,[(vI 1),nV,nV]⟩])) (n0:=(n+4)) ?_ ?_
  ·rcases Bool.eq_false_or_eq_true (decide (0 < (a0.Words.length:Int))) with c9 | c9
   ·replace hz4:=Zq c9 hz4
    obtain ⟨x7,hx7,ax7,bx7,cx7,hz4⟩:=bE (f:=Zu) Zn3 (fun _=>rfl) (by decide) hz4
    have g8:=Zd1 (f:=Zu) (sz:=4) Ztb (fun _=>rfl) (by decide) (by decide) hx7
    refine Zzo (Ydo []) c9 ax7 bx7 cx7 g8 ?_
    exact Z51 hz4 c9 ax7 bx7 cx7 g8
   replace hz4:=Zp c9 hz4
   refine Vi (Z0n []) c9 ?_
   exact Ju hz4 c9
  refine Zo (t:=z4) rfl (fun G9 => ?_) (fun G9 => ?_)
  ·replace hz1:=Zq G9 hz1
   obtain ⟨x10,hx10,ax10,bx10,cx10,hz1⟩:=bE (f:=Zu) Zn3 (fun _=>rfl) (by decide) hz1
   have g11:=Zd1 (f:=Zu) (sz:=4) Ztb (fun _=>rfl) (by decide) (by decide) hx10
   refine Zj4 [] ax10 bx10 cx10 g11 ?_
   exact Zx2 hz1 ax10 bx10 cx10 g11
  replace hz1:=Zp G9 hz1
  refine zK ?_
  exact Vh hz1
 obtain ⟨z13,hz13,h⟩:=bC h
 refine Y1 (E':=⟨175,[],[(2,.ref n 0),(3,.ref (n+1) 0),(4,.ref (n+2) 0),(6,.ref (n+3) 0),(7,(vI z1)),(8,(vI z13))]⟩) (O':=(Zx O n [some ⟨false,30,11,1,(Zm a0)⟩,some ⟨false,25,3,1,(Zg a1)⟩,some ⟨false,25,3,1,[(vI 0),nV,nV]⟩,some ⟨false,25,3,1,[(vI 1),nV,nV]⟩])) (n0:=(n+4)) ?_ ?_
 ·refine zQ [2,3,4,6,7,8,10] ?_
  obtain ⟨z16,hz16,hz13⟩:=bC hz13
  refine Y1 (E':=⟨175,[],[(2,.ref n 0),(3,.ref (n+1) 0),(4,.ref (n+2) 0),(6,.ref (n+3) 0),(7,(vI z1)),(8,(vI (a1.Kids.length:Int))),(10,(vI (a0.Kids.length:Int))),(69,(vB z16))]⟩) (O':=(Zx O n [some ⟨false,30,11,1,(Zm a0)⟩,some ⟨false,25,3,1,(Zg a1)⟩,some ⟨false,25,3,1,[(vI 0),nV,nV]⟩,some ⟨false,25,3,1,[(vI 1),nV,nV]⟩])) (n0:=(n+4)) ?_ ?_
  ·rcases Bool.eq_false_or_eq_true (decide (0 < (a0.Kids.length:Int))) with c21 | c21
   ·replace hz16:=Zq c21 hz16
    obtain ⟨x19,hx19,ax19,bx19,cx19,hz16⟩:=bE (f:=Zr) Zh6 (fun _=>rfl) (by decide) hz16
    have g20:=Zd1 (f:=Zr) (sz:=12) Ztb (fun _=>rfl) (by decide) (by decide) hx19
    refine Zzo (Ydo []) c21 ax19 bx19 cx19 g20 ?_
    exact Z51 hz16 c21 ax19 bx19 cx19 g20
   replace hz16:=Zp c21 hz16
   refine Vi (Z0n []) c21 ?_
   exact Ju hz16 c21
  refine Zo (t:=z16) rfl (fun c24 => ?_) (fun c24 => ?_)
  ·replace hz13:=Zq c24 hz13
   obtain ⟨x22,hx22,ax22,bx22,cx22,hz13⟩:=bE (f:=Zr) Zh6 (fun _=>rfl) (by decide) hz13
   have g23:=Zd1 (f:=Zr) (sz:=12) Ztb (fun _=>rfl) (by decide) (by decide) hx22
   refine Zj4 [] ax22 bx22 cx22 g23 ?_
   exact Zx2 hz13 ax22 bx22 cx22 g23
  replace hz13:=Zp c24 hz13
  refine zK ?_
  exact Vh hz13
 refine zQ [2,3,4,6,7,8,11] ?_
 refine Zf ?_
 refine zQd [2,3,4,6,7,8,11,12] [2,3,4,6,7,8,11,12] [true,true,true,true] ?_
 refine Zcf (E':=(⟨175,[],[(2,.ref n 0),(3,.ref (n+1) 0),(4,.ref (n+2) 0),(6,.ref (n+3) 0),(7,(vI z1)),(8,(vI z13)),(11,(vI 0)),(12,(vI 0))]⟩:Env)) (O':=(Zx O n [some ⟨false,30,11,1,(Zm a0)⟩,some ⟨false,25,3,1,(Zg a1)⟩,some ⟨false,25,3,1,[(vI 0),nV,nV]⟩,some ⟨false,25,3,1,[(vI 1),.row (n+4) ([]:List Int).length,nV]⟩,some (oR 77 1 (eI .u64) ([]:List Int)),none])) (n':=(n+6)) ?_ ?_
 ·refine Fit2.trans (E':=(⟨175,[],[(2,.ref n 0),(3,.ref (n+1) 0),(4,.ref (n+2) 0),(6,.ref (n+3) 0),(7,(vI z1)),(8,(vI z13)),(11,(vI 0)),(12,(vI 0))]⟩:Env)) (O':=(Zx O n [some ⟨false,30,11,1,(Zm a0)⟩,some ⟨false,25,3,1,(Zg a1)⟩,some ⟨false,25,3,1,[(vI 0),nV,nV]⟩,some ⟨false,25,3,1,[(vI 1),nV,nV]⟩])) (n':=(n+4)) (Fit2.of (Y0 hU rfl rfl ?_) (by omega)) ?_
  ·exact zSe
  refine Fit2.trans (Zbw (p:=(n+3)) (k:=1) (q:=⟨false,25,3,1,[(vI 1),nV,nV]⟩) 77 1 (by simp only [Zaa,Zc8,List.getElem?_cons_zero,List.getElem?_cons_succ,Option.join_some,List.length_nil]) rfl (by omega)) ?_
  simp only [Kg,Q3,Zah,List.set_cons_zero,List.set_cons_succ,List.cons_append,List.nil_append,List.length_cons,List.length_nil,Nat.zero_add,Nat.reduceAdd,Nat.reduceLT,Nat.add_assoc]
  refine Zcm (k:=5) (k':=6) hU [0,1,2,3,4] [0,1,2,3,4,0] rfl rfl rfl rfl ⟨rfl,rfl⟩ ?_
  exact zSe
 obtain ⟨z46,hz46,h⟩:=bC h
 refine Ut (J:=(Xg (fun z46=>JR n (⟨175,[],[(4,.ref (n+2) 0),(5,(vB false))]⟩:Env) (Zx O n [none,none,some ⟨false,25,3,1,[(vI 0),nV,nV]⟩,none]) (n+4)) (fun z46=>JX 0 n (⟨175,[],[(2,.ref n 0),(3,.ref (n+1) 0),(4,.ref (n+2) 0),(6,.ref (n+3) 0),(8,(vI z13))]⟩:Env) (Zx O n [some ⟨false,30,11,1,(Zm a0)⟩,some ⟨false,25,3,1,(Zg a1)⟩,some ⟨false,25,3,1,[(vI 0),nV,nV]⟩,some ⟨false,25,3,1,[(vI 1),.row (n+4) z46.length,nV]⟩,some (oR 77 1 (eI .u64) z46),none]) (n+6)))) (z:=z46) ?_ fun hw => ?_
 ·refine Xd hz46 (fun s0_=>⟨175,[],[(2,.ref n 0),(3,.ref (n+1) 0),(4,.ref (n+2) 0),(6,.ref (n+3) 0),(7,(vI z1)),(8,(vI z13)),(11,(vI s0_.1)),(12,(vI s0_.2.1))]⟩) (fun s0_=>(Zx O n [some ⟨false,30,11,1,(Zm a0)⟩,some ⟨false,25,3,1,(Zg a1)⟩,some ⟨false,25,3,1,[(vI 0),nV,nV]⟩,some ⟨false,25,3,1,[(vI 1),.row (n+4) s0_.2.2.length,nV]⟩,some (oR 77 1 (eI .u64) s0_.2.2),none])) (Xg (fun z46=>JR n (⟨175,[],[(4,.ref (n+2) 0),(5,(vB false))]⟩:Env) (Zx O n [none,none,some ⟨false,25,3,1,[(vI 0),nV,nV]⟩,none]) (n+4)) (fun z46=>JX 0 n (⟨175,[],[(2,.ref n 0),(3,.ref (n+1) 0),(4,.ref (n+2) 0),(6,.ref (n+3) 0),(8,(vI z13))]⟩:Env) (Zx O n [some ⟨false,30,11,1,(Zm a0)⟩,some ⟨false,25,3,1,(Zg a1)⟩,some ⟨false,25,3,1,[(vI 0),nV,nV]⟩,some ⟨false,25,3,1,[(vI 1),.row (n+4) z46.length,nV]⟩,some (oR 77 1 (eI .u64) z46),none]) (n+6))) ?_
  intro s0_ x0_ hs0_
  unfold Y8 at hs0_
  try dsimp only
  refine Zf ?_
  refine zQ [2,3,4,6,7,8,11,12,80] ?_
  refine Zo (t:=(decide (s0_.2.1 < z1))) rfl (fun c45 => ?_) (fun c45 => ?_)
  ·replace hs0_:=Zq c45 hs0_
   refine Xs [2,3,4,6,7,8,11,12] [true,true,true,true,true,false] ?_
   refine Zf ?_
   refine Yh ?_
   refine Zf ?_
   obtain ⟨y26,hy26,hs0_⟩:=bC hs0_
   refine zCd (Zoj hy26) [2,3,4,6,7,8,11,12,13] [true,true,true,true,true,false] ?_
   obtain ⟨z27,hz27,hs0_⟩:=bC hs0_
   refine Ztk (J:=(Xg (fun z27=>JN n (⟨175,[],[(2,.ref n 0),(3,.ref (n+1) 0),(4,.ref (n+2) 0),(6,.ref (n+3) 0),(7,(vI z1)),(8,(vI z13)),(11,(vI z27.1)),(12,(vI s0_.2.1)),(13,.val (.int .u64 z27.2))]⟩:Env) (Zx O n [some ⟨false,30,11,1,(Zm a0)⟩,some ⟨false,25,3,1,(Zg a1)⟩,some ⟨false,25,3,1,[(vI 0),nV,nV]⟩,some ⟨false,25,3,1,[(vI 1),.row (n+4) s0_.2.2.length,nV]⟩,some (oR 77 1 (eI .u64) s0_.2.2),none,none]) (n+7)) (fun z27=>JR n (⟨175,[],[(4,.ref (n+2) 0),(5,(vB false))]⟩:Env) (Zx O n [none,none,some ⟨false,25,3,1,[(vI 0),nV,nV]⟩,none,none,none]) (n+6)))) (z:=z27) ?_ fun hw => ?_
   ·obtain ⟨z30,hz30,hz27⟩:=bC hz27
    refine Y1 (E':=⟨175,[],[(2,.ref n 0),(3,.ref (n+1) 0),(4,.ref (n+2) 0),(6,.ref (n+3) 0),(7,(vI z1)),(8,(vI z13)),(11,(vI s0_.1)),(12,(vI s0_.2.1)),(13,.val (.int .u64 y26)),(100,(vB z30))]⟩) (O':=(Zx O n [some ⟨false,30,11,1,(Zm a0)⟩,some ⟨false,25,3,1,(Zg a1)⟩,some ⟨false,25,3,1,[(vI 0),nV,nV]⟩,some ⟨false,25,3,1,[(vI 1),.row (n+4) s0_.2.2.length,nV]⟩,some (oR 77 1 (eI .u64) s0_.2.2),none])) (n0:=(n+6)) ?_ ?_
    ·rcases Bool.eq_false_or_eq_true (decide (s0_.1 < (a0.Words.length:Int))) with c35 | c35
     ·replace hz30:=Zq c35 hz30
      obtain ⟨x33,hx33,ax33,bx33,cx33,hz30⟩:=bE (f:=Zu) Zn3 (fun _=>rfl) (by decide) hz30
      have g34:=Zd1 (f:=Zu) (sz:=4) Ztb (fun _=>rfl) (by decide) (by decide) hx33
      refine Zzo (Yf5 []) c35 ax33 bx33 cx33 g34 ?_
      exact Z51 hz30 c35 ax33 bx33 cx33 g34
     replace hz30:=Zp c35 hz30
     refine Vi (Yf4 []) c35 ?_
     exact Ju hz30 c35
    refine Zo (t:=z30) rfl (fun c43 => ?_) (fun c43 => ?_)
    ·replace hz27:=Zq c43 hz27
     refine Zf ?_
     obtain ⟨x37,hx37,ax37,bx37,cx37,hz27⟩:=bE (f:=Zu) Zn3 (fun _=>rfl) (by decide) hz27
     refine Zgu [] ax37 bx37 cx37 ?_
     refine zDs [2,3,4,6,7,8,11,12,13,14] [true,true,true,true,true,false,true] ?_
     refine Zf ?_
     obtain ⟨y39,hy39,hz27⟩:=bC hz27
     refine Xl Zs (by kernel_rfl) [] (by kernel_rfl) ?_
     refine zS ?_
     refine PCall.of (Zew hy39) ?_
     refine zS ?_
     refine zD [2,3,4,6,7,8,11,12,13,14,112] [true,true,true,true,true,false,true] ?_
     refine Zo (t:=(y39 != x37.Old)) rfl (fun c42 => ?_) (fun c42 => ?_)
     ·replace hz27:=Zq c42 hz27
      refine Zf ?_
      refine Gi [4,5] [false,false,true,false,false,false,false] ?_
      refine zW ?_
      exact Vh hz27
     replace hz27:=Zp c42 hz27
     refine Xs [2,3,4,6,7,8,11,12,13,14] [true,true,true,true,true,false,true] ?_
     refine Zf ?_
     obtain ⟨y41,hy41,hz27⟩:=bC hz27
     refine zCd (Zew hy41) [2,3,4,6,7,8,11,12,13] [true,true,true,true,true,false,false] ?_
     refine zR ?_
     exact Vh hz27
    replace hz27:=Zp c43 hz27
    refine zK ?_
    exact Vh hz27
   rcases z27 with z27 | z27
   ·dsimp only [Xg] at hw hs0_
    refine Y1 hw ?_
    obtain ⟨l44,pl44,ql44,el44,hs0_⟩:=bA (k:=1) rfl hs0_
    refine Za0 [] pl44 ql44 el44 ?_
    refine Za5 ⟨175,[],[(2,.ref n 0),(3,.ref (n+1) 0),(4,.ref (n+2) 0),(6,.ref (n+3) 0),(7,(vI z1)),(8,(vI z13)),(11,(vI z27.1)),(12,(vI s0_.2.1))]⟩ (Zx O n [some ⟨false,30,11,1,(Zm a0)⟩,some ⟨false,25,3,1,(Zg a1)⟩,some ⟨false,25,3,1,[(vI 0),nV,nV]⟩,some ⟨false,25,3,1,[(vI 1),.row (n+4) l44.length,nV]⟩,some (oR 77 1 (eI .u64) l44),none,none,none]) (Y0 hU rfl rfl ?_) ?_
    ·exact Zt5 pl44 ql44 el44
    refine zR ?_
    exact Vh hs0_
   dsimp only [Xg] at hw hs0_
   refine Zlr hw ?_
   try simp only [Yv,Z9]
   exact zEy hs0_
  replace hs0_:=Zp c45 hs0_
  exact zEx hs0_
 rcases z46 with z46 | z46
 ·dsimp only [Xg] at hw h
  refine Q1 hw ?_
  try simp only [Yv,Z9,↓reduceIte,Nat.reduceEqDiff]
  obtain rfl:=sI h
  refine Zl (.inr rfl) hU [.agg [(vI 0),nV,nV],(vB false)] (by omega) ?_
  simp only [push_cast,seval,↓reduceIte,Zd,Tryz.results93,hN0,hN]
 dsimp only [Xg] at hw h
 refine Yn hw ?_
 try simp only [Yv,Z9,↓reduceIte,Nat.reduceEqDiff]
 refine zD [2,3,4,6,8] [true,true,true,true,true,false] ?_
 refine zQ [2,3,4,6,8,11] ?_
 refine Zf ?_
 refine zQd [2,3,4,6,8,11,15] [2,3,4,6,8,11,15] [true,true,true,true,true,false] ?_
 refine Zcf (E':=(⟨175,[],[(2,.ref n 0),(3,.ref (n+1) 0),(4,.ref (n+2) 0),(6,.ref (n+3) 0),(8,(vI z13)),(11,(vI 0)),(15,(vI 0))]⟩:Env)) (O':=(Zx O n [some ⟨false,30,11,1,(Zm a0)⟩,some ⟨false,25,3,1,(Zg a1)⟩,some ⟨false,25,3,1,[(vI 0),nV,nV]⟩,some ⟨false,25,3,1,[(vI 1),.row (n+4) z46.length,.row (n+6) ([]:List Za).length]⟩,some (oR 77 1 (eI .u64) z46),none,some (oR 25 3 Zc ([]:List Za)),none])) (n':=(n+8)) ?_ ?_
 ·refine Fit2.trans (E':=(⟨175,[],[(2,.ref n 0),(3,.ref (n+1) 0),(4,.ref (n+2) 0),(6,.ref (n+3) 0),(8,(vI z13)),(11,(vI 0)),(15,(vI 0))]⟩:Env)) (O':=(Zx O n [some ⟨false,30,11,1,(Zm a0)⟩,some ⟨false,25,3,1,(Zg a1)⟩,some ⟨false,25,3,1,[(vI 0),nV,nV]⟩,some ⟨false,25,3,1,[(vI 1),.row (n+4) z46.length,nV]⟩,some (oR 77 1 (eI .u64) z46),none])) (n':=(n+6)) (Fit2.of (Y0 hU rfl rfl ?_) (by omega)) ?_
  ·exact zSe
  refine Fit2.trans (Zbw (p:=(n+3)) (k:=2) (q:=⟨false,25,3,1,[(vI 1),.row (n+4) z46.length,nV]⟩) 25 3 (by simp only [Zaa,Zc8,List.getElem?_cons_zero,List.getElem?_cons_succ,Option.join_some,List.length_nil]) rfl (by omega)) ?_
  simp only [Kg,Q3,Zah,List.set_cons_zero,List.set_cons_succ,List.cons_append,List.nil_append,List.length_cons,List.length_nil,Nat.zero_add,Nat.reduceAdd,Nat.reduceLT,Nat.add_assoc]
  refine Zcm (k:=7) (k':=8) hU [0,1,2,3,4,7,6] [0,1,2,3,4,0,6,0] rfl rfl rfl rfl ⟨rfl,rfl⟩ ?_
  exact zSe
 obtain ⟨z68,hz68,h⟩:=bC h
 refine Ut (J:=(Xg (fun z68=>JR n (⟨175,[],[(4,.ref (n+2) 0),(5,(vB false))]⟩:Env) (Zx O n [none,none,some ⟨false,25,3,1,[(vI 0),nV,nV]⟩,none,none,none]) (n+6)) (fun z68=>JX 2 n (⟨175,[],[(4,.ref (n+2) 0),(6,.ref (n+3) 0)]⟩:Env) (Zx O n [none,none,some ⟨false,25,3,1,[(vI 0),nV,nV]⟩,some ⟨false,25,3,1,[(vI 1),.row (n+4) z46.length,.row (n+6) z68.length]⟩,some (oR 77 1 (eI .u64) z46),none,some (oR 25 3 Zc z68),none]) (n+8)))) (z:=z68) ?_ fun hw => ?_
 ·refine Xd hz68 (fun s1_=>⟨175,[],[(2,.ref n 0),(3,.ref (n+1) 0),(4,.ref (n+2) 0),(6,.ref (n+3) 0),(8,(vI z13)),(11,(vI s1_.1)),(15,(vI s1_.2.1))]⟩) (fun s1_=>(Zx O n [some ⟨false,30,11,1,(Zm a0)⟩,some ⟨false,25,3,1,(Zg a1)⟩,some ⟨false,25,3,1,[(vI 0),nV,nV]⟩,some ⟨false,25,3,1,[(vI 1),.row (n+4) z46.length,.row (n+6) s1_.2.2.length]⟩,some (oR 77 1 (eI .u64) z46),none,some (oR 25 3 Zc s1_.2.2),none])) (Xg (fun z68=>JR n (⟨175,[],[(4,.ref (n+2) 0),(5,(vB false))]⟩:Env) (Zx O n [none,none,some ⟨false,25,3,1,[(vI 0),nV,nV]⟩,none,none,none]) (n+6)) (fun z68=>JX 2 n (⟨175,[],[(4,.ref (n+2) 0),(6,.ref (n+3) 0)]⟩:Env) (Zx O n [none,none,some ⟨false,25,3,1,[(vI 0),nV,nV]⟩,some ⟨false,25,3,1,[(vI 1),.row (n+4) z46.length,.row (n+6) z68.length]⟩,some (oR 77 1 (eI .u64) z46),none,some (oR 25 3 Zc z68),none]) (n+8))) ?_
  intro s1_ x1_ hs1_
  unfold Y9 at hs1_
  try dsimp only
  refine Zf ?_
  refine zQ [2,3,4,6,8,11,15,130] ?_
  refine Zo (t:=(decide (s1_.2.1 < z13))) rfl (fun c67 => ?_) (fun c67 => ?_)
  ·replace hs1_:=Zq c67 hs1_
   refine Xs [2,3,4,6,8,11,15] [true,true,true,true,true,false,true,false] ?_
   refine Zf ?_
   refine Yh ?_
   refine Zf ?_
   obtain ⟨y48,hy48,hs1_⟩:=bC hs1_
   refine zCd (Zps hy48) [2,3,4,6,8,11,15,16] [true,true,true,true,true,false,true,false,true] ?_
   obtain ⟨z49,hz49,hs1_⟩:=bC hs1_
   refine Ztk (J:=(Xg (fun z49=>JN n (⟨175,[],[(2,.ref n 0),(3,.ref (n+1) 0),(4,.ref (n+2) 0),(6,.ref (n+3) 0),(8,(vI z13)),(11,(vI z49.1)),(15,(vI s1_.2.1)),(16,.ref (n+8) 0)]⟩:Env) (Zx O n [some ⟨false,30,11,1,(Zm a0)⟩,some ⟨false,25,3,1,(Zg a1)⟩,some ⟨false,25,3,1,[(vI 0),nV,nV]⟩,some ⟨false,25,3,1,[(vI 1),.row (n+4) z46.length,.row (n+6) s1_.2.2.length]⟩,some (oR 77 1 (eI .u64) z46),none,some (oR 25 3 Zc s1_.2.2),none,some ⟨false,25,3,1,[(vI z49.2.1),(sL (eI .u64) z49.2.2.1),(sL Zc z49.2.2.2)]⟩,none]) (n+10)) (fun z49=>JR n (⟨175,[],[(4,.ref (n+2) 0),(5,(vB false))]⟩:Env) (Zx O n [none,none,some ⟨false,25,3,1,[(vI 0),nV,nV]⟩,none,none,none,none,none,none]) (n+9)))) (z:=z49) ?_ fun hw => ?_
   ·obtain ⟨z52,hz52,hz49⟩:=bC hz49
    refine Y1 (E':=⟨175,[],[(2,.ref n 0),(3,.ref (n+1) 0),(4,.ref (n+2) 0),(6,.ref (n+3) 0),(8,(vI z13)),(11,(vI s1_.1)),(15,(vI s1_.2.1)),(16,.ref (n+8) 0),(150,(vB z52))]⟩) (O':=(Zx O n [some ⟨false,30,11,1,(Zm a0)⟩,some ⟨false,25,3,1,(Zg a1)⟩,some ⟨false,25,3,1,[(vI 0),nV,nV]⟩,some ⟨false,25,3,1,[(vI 1),.row (n+4) z46.length,.row (n+6) s1_.2.2.length]⟩,some (oR 77 1 (eI .u64) z46),none,some (oR 25 3 Zc s1_.2.2),none,some ⟨false,25,3,1,(Zg y48)⟩])) (n0:=(n+9)) ?_ ?_
    ·rcases Bool.eq_false_or_eq_true (decide (s1_.1 < (a0.Kids.length:Int))) with c57 | c57
     ·replace hz52:=Zq c57 hz52
      obtain ⟨x55,hx55,ax55,bx55,cx55,hz52⟩:=bE (f:=Zr) Zh6 (fun _=>rfl) (by decide) hz52
      have g56:=Zd1 (f:=Zr) (sz:=12) Ztb (fun _=>rfl) (by decide) (by decide) hx55
      refine Zzo (Yf5 []) c57 ax55 bx55 cx55 g56 ?_
      exact Z51 hz52 c57 ax55 bx55 cx55 g56
     replace hz52:=Zp c57 hz52
     refine Vi (Yf4 []) c57 ?_
     exact Ju hz52 c57
    refine Zo (t:=z52) rfl (fun c65 => ?_) (fun c65 => ?_)
    ·replace hz49:=Zq c65 hz49
     refine Zf ?_
     obtain ⟨x61,hx61,ax61,bx61,cx61,hz49⟩:=bE (f:=Zr) Zh6 (fun _=>rfl) (by decide) hz49
     have g62:=Zdb (f:=Zr) (off:=1) (sz:=12) Zn2 (fun _=>rfl) (by decide) (by decide) hx61
     obtain ⟨y63,hy63,hz49⟩:=bC hz49
     refine Zai Zs (by kernel_rfl) [.low,.low,.plain,.low,.low,.low,.low,.low,.plain,.plain,.plain,.pass,.bar,.plain] (fun i=>i < (n+9)) [0,1,2,3,4,5,6,7,8,9,10,11,12,13] [.low,.low,.plain,.low,.low,.low,.low,.low,.plain,.plain,.plain,.pass,.bar,.plain] [] (by kernel_rfl) rfl ?_
     refine zF4 ax61 bx61 cx61 g62 ?_
     refine zO ?_
     first | refine PCallA.of (fun _ _=>K5 hy63) ?_ | refine PCall.of (K5 hy63) ?_
     refine zF4 ax61 bx61 cx61 g62 ?_
     refine zO ?_
     refine zDs [2,3,4,6,8,11,15,16,17,18] [true,true,true,true,true,false,true,false,true,true] ?_
     refine zQ [2,3,4,6,8,11,15,16,17,163] ?_
     refine Zo (t:=(!y63.2)) rfl (fun c64 => ?_) (fun c64 => ?_)
     ·replace hz49:=Zq c64 hz49
      refine Zf ?_
      refine Gi [4,5] [false,false,true,false,false,false,false,false,false,false] ?_
      refine zW ?_
      exact Vh hz49
     replace hz49:=Zp c64 hz49
     refine Xs [2,3,4,6,8,11,15,16,17] [true,true,true,true,true,false,true,false,true,true] ?_
     refine Zf ?_
     refine Gi [2,3,4,6,8,11,15,16] [true,true,true,true,true,false,true,false,true,false] ?_
     refine zR ?_
     exact Vh hz49
    replace hz49:=Zp c65 hz49
    refine zK ?_
    exact Vh hz49
   rcases z49 with z49 | z49
   ·dsimp only [Xg] at hw hs1_
    refine Y1 hw ?_
    obtain ⟨l66,pl66,ql66,el66,hs1_⟩:=bA (k:=1) rfl hs1_
    refine Za0 [] pl66 ql66 el66 ?_
    refine Za5 ⟨175,[],[(2,.ref n 0),(3,.ref (n+1) 0),(4,.ref (n+2) 0),(6,.ref (n+3) 0),(8,(vI z13)),(11,(vI z49.1)),(15,(vI s1_.2.1))]⟩ (Zx O n [some ⟨false,30,11,1,(Zm a0)⟩,some ⟨false,25,3,1,(Zg a1)⟩,some ⟨false,25,3,1,[(vI 0),nV,nV]⟩,some ⟨false,25,3,1,[(vI 1),.row (n+4) z46.length,.row (n+6) l66.length]⟩,some (oR 77 1 (eI .u64) z46),none,some (oR 25 3 Zc l66),none,none,none,none]) (Y0 hU rfl rfl ?_) ?_
    ·exact Zt5 pl66 ql66 el66
    refine zR ?_
    exact Vh hs1_
   dsimp only [Xg] at hw hs1_
   refine Zlr hw ?_
   try simp only [Yv,Z9]
   exact zEy hs1_
  replace hs1_:=Zp c67 hs1_
  exact zEx hs1_
 rcases z68 with z68 | z68
 ·dsimp only [Xg] at hw h
  refine Q1 hw ?_
  try simp only [Yv,Z9,↓reduceIte,Nat.reduceEqDiff]
  obtain rfl:=sI h
  refine Zl (.inr rfl) hU [.agg [(vI 0),nV,nV],(vB false)] (by omega) ?_
  simp only [push_cast,seval,↓reduceIte,Zd,Tryz.results93,hN0,hN]
 dsimp only [Xg] at hw h
 refine Yn hw ?_
 try simp only [Yv,Z9,↓reduceIte,Nat.reduceEqDiff]
 refine zDs [4,6] [false,false,true,true,true,false,true,false] ?_
 refine Gi [4,5] [false,false,true,false,true,false,true,false] ?_
 refine zW ?_
 obtain rfl:=sI h
 refine Zl (.inr rfl) hU [.agg [(vI 1),.row (n+4) z46.length,.row (n+6) z68.length],(vB true)] (by omega) ?_
 simp only [push_cast,seval,↓reduceIte,Zd,Tryz.results93,hN0,hN]
theorem Znv {Yw:(Zi→Za→Option (Za×Bool))} {Yx:(Zi→Za→Option (Za×Bool))} {Xm:(Zi→Za→Option (Za×Bool))} (K5:Zav Yw) (Zab:Vr Yx) (Zc3:Zaw Xm) {a0:Zi} {a1:Za} {r:(Za×Bool)} {O:Objs} {n:Nat} (h:Zam Yw Yx Xm a0 a1=some r):GTo Tryz.prog 94 [.agg (Zm a0),.agg (Zg a1)] O n (.tup [.agg (Zg r.1),(vB r.2)]) O n:=by
 unfold Zam at h
 refine Uw Zs Tryz.call94 Tryz.func94 rfl fun hU hN0 hN => ?_
 show W _ _ _ _ ⟨143,[],[(0,.agg (Zm a0)),(1,.agg (Zg a1))]⟩ (Zx O n []) _
 refine zQ [2,3,4] ?_
 refine Zf ?_
 refine zQ [2,3,4,18] ?_
 refine Zo (t:=(a1.Kind != a0.List_)) rfl (fun c42 => ?_) (fun c42 => ?_)
 ·replace h:=Zq c42 h
  refine Zf ?_
  refine Gi [4,5] [false,false,true] ?_
  refine zW ?_
  obtain rfl:=sI h
  refine Zl (.inr rfl) hU [.agg [(vI 0),nV,nV],(vB false)] (by omega) ?_
  simp only [push_cast,seval,↓reduceIte,Zd,Tryz.results94,hN0,hN]
 replace h:=Zp c42 h
 refine Xs [2,3,4] [true,true,true] ?_
 refine Zf ?_
 refine Gi [2,3,4,6] [true,true,true,true] ?_
 refine zQ [2,3,4,6,7] ?_
 refine Zf ?_
 refine zQd [2,3,4,6,7,8] [2,3,4,6,7,8] [true,true,true,true] ?_
 refine Zcf (E':=(⟨143,[],[(2,.ref n 0),(3,.ref (n+1) 0),(4,.ref (n+2) 0),(6,.ref (n+3) 0),(7,(vI 0)),(8,(vI 0))]⟩:Env)) (O':=(Zx O n [some ⟨false,30,11,1,(Zm a0)⟩,some ⟨false,25,3,1,(Zg a1)⟩,some ⟨false,25,3,1,[(vI 0),nV,nV]⟩,some ⟨false,25,3,1,[(vI a1.Kind),nV,.row (n+4) ([]:List Za).length]⟩,some (oR 25 3 Zc ([]:List Za)),none])) (n':=(n+6)) ?_ ?_
 ·refine Fit2.trans (E':=(⟨143,[],[(2,.ref n 0),(3,.ref (n+1) 0),(4,.ref (n+2) 0),(6,.ref (n+3) 0),(7,(vI 0)),(8,(vI 0))]⟩:Env)) (O':=(Zx O n [some ⟨false,30,11,1,(Zm a0)⟩,some ⟨false,25,3,1,(Zg a1)⟩,some ⟨false,25,3,1,[(vI 0),nV,nV]⟩,some ⟨false,25,3,1,[(vI a1.Kind),nV,nV]⟩])) (n':=(n+4)) (Fit2.of (Y0 hU rfl rfl ?_) (by omega)) ?_
  ·exact zSe
  refine Fit2.trans (Zbw (p:=(n+3)) (k:=2) (q:=⟨false,25,3,1,[(vI a1.Kind),nV,nV]⟩) 25 3 (by simp only [Zaa,Zc8,List.getElem?_cons_zero,List.getElem?_cons_succ,Option.join_some,List.length_nil]) rfl (by omega)) ?_
  simp only [Kg,Q3,Zah,List.set_cons_zero,List.set_cons_succ,List.cons_append,List.nil_append,List.length_cons,List.length_nil,Nat.zero_add,Nat.reduceAdd,Nat.reduceLT,Nat.add_assoc]
  refine Zcm (k:=5) (k':=6) hU [0,1,2,3,4] [0,1,2,3,4,0] rfl rfl rfl rfl ⟨rfl,rfl⟩ ?_
  exact zSe
 obtain ⟨z41,hz41,h⟩:=bC h
 refine Ut (J:=(Xg (fun z41=>JR n (⟨143,[],[(4,.ref (n+2) 0),(5,(vB false))]⟩:Env) (Zx O n [none,none,some ⟨false,25,3,1,[(vI 0),nV,nV]⟩,none]) (n+4)) (fun z41=>JX 0 n (⟨143,[],[(3,.ref (n+1) 0),(4,.ref (n+2) 0),(6,.ref (n+3) 0),(7,(vI z41.1))]⟩:Env) (Zx O n [none,some ⟨false,25,3,1,(Zg a1)⟩,some ⟨false,25,3,1,[(vI 0),nV,nV]⟩,some ⟨false,25,3,1,[(vI a1.Kind),nV,.row (n+4) z41.2.length]⟩,some (oR 25 3 Zc z41.2),none]) (n+6)))) (z:=z41) ?_ fun hw => ?_
 ·refine Xd hz41 (fun s0_=>⟨143,[],[(2,.ref n 0),(3,.ref (n+1) 0),(4,.ref (n+2) 0),(6,.ref (n+3) 0),(7,(vI s0_.1)),(8,(vI s0_.2.1))]⟩) (fun s0_=>(Zx O n [some ⟨false,30,11,1,(Zm a0)⟩,some ⟨false,25,3,1,(Zg a1)⟩,some ⟨false,25,3,1,[(vI 0),nV,nV]⟩,some ⟨false,25,3,1,[(vI a1.Kind),nV,.row (n+4) s0_.2.2.length]⟩,some (oR 25 3 Zc s0_.2.2),none])) (Xg (fun z41=>JR n (⟨143,[],[(4,.ref (n+2) 0),(5,(vB false))]⟩:Env) (Zx O n [none,none,some ⟨false,25,3,1,[(vI 0),nV,nV]⟩,none]) (n+4)) (fun z41=>JX 0 n (⟨143,[],[(3,.ref (n+1) 0),(4,.ref (n+2) 0),(6,.ref (n+3) 0),(7,(vI z41.1))]⟩:Env) (Zx O n [none,some ⟨false,25,3,1,(Zg a1)⟩,some ⟨false,25,3,1,[(vI 0),nV,nV]⟩,some ⟨false,25,3,1,[(vI a1.Kind),nV,.row (n+4) z41.2.length]⟩,some (oR 25 3 Zc z41.2),none]) (n+6))) ?_
  intro s0_ x0_ hs0_
  unfold Yt at hs0_
  try dsimp only
  refine Zf ?_
  refine zQ [2,3,4,6,7,8,27] ?_
  refine Zo (t:=(decide (s0_.2.1 < (a0.Ops.length:Int)))) rfl (fun c40 => ?_) (fun c40 => ?_)
  ·replace hs0_:=Zq c40 hs0_
   refine Xs [2,3,4,6,7,8] [true,true,true,true,true,false] ?_
   obtain ⟨z1,hz1,hs0_⟩:=bC hs0_
   refine Ztk (J:=(Xg (fun z1=>JN n (⟨143,[],[(2,.ref n 0),(3,.ref (n+1) 0),(4,.ref (n+2) 0),(6,.ref (n+3) 0),(7,(vI z1.1)),(8,(vI s0_.2.1))]⟩:Env) (Zx O n [some ⟨false,30,11,1,(Zm a0)⟩,some ⟨false,25,3,1,(Zg a1)⟩,some ⟨false,25,3,1,[(vI 0),nV,nV]⟩,some ⟨false,25,3,1,[(vI a1.Kind),nV,.row (n+4) z1.2.length]⟩,some (oR 25 3 Zc z1.2),none,none,none,none]) (n+9)) (fun z1=>JR n (⟨143,[],[(4,.ref (n+2) 0),(5,(vB false))]⟩:Env) (Zx O n [none,none,some ⟨false,25,3,1,[(vI 0),nV,nV]⟩,none,none,none]) (n+6)))) (z:=z1) ?_ fun hw => ?_
   ·refine Yh ?_
    refine Zf ?_
    obtain ⟨x3,hx3,ax3,bx3,cx3,hz1⟩:=bE (f:=Yg) Zlg (fun _=>rfl) (by decide) hz1
    refine Zgu [] ax3 bx3 cx3 ?_
    refine zDs [2,3,4,6,7,8,9] [true,true,true,true,true,false,true] ?_
    refine zQd [2,3,4,6,7,8,9,10] [2,3,4,6,7,8,9,10] [true,true,true,true,true,false,true] ?_
    obtain ⟨z10,hz10,hz1⟩:=bC hz1
    refine Ut (J:=(Xg (fun z10=>JR n (⟨143,[],[(4,.ref (n+2) 0),(5,(vB false))]⟩:Env) (Zx O n [none,none,some ⟨false,25,3,1,[(vI 0),nV,nV]⟩,none,none,none,none]) (n+7)) (fun z10=>JX 2 n (⟨143,[],[(2,.ref n 0),(3,.ref (n+1) 0),(4,.ref (n+2) 0),(6,.ref (n+3) 0),(7,(vI z10.1)),(8,(vI s0_.2.1)),(9,.ref (n+6) 0)]⟩:Env) (Zx O n [some ⟨false,30,11,1,(Zm a0)⟩,some ⟨false,25,3,1,(Zg a1)⟩,some ⟨false,25,3,1,[(vI 0),nV,nV]⟩,some ⟨false,25,3,1,[(vI a1.Kind),nV,.row (n+4) z10.2.length]⟩,some (oR 25 3 Zc z10.2),none,some ⟨false,89,14,1,(Xn x3)⟩]) (n+7)))) (z:=z10) ?_ fun hw => ?_
    ·refine Xd hz10 (fun s1_=>⟨143,[],[(2,.ref n 0),(3,.ref (n+1) 0),(4,.ref (n+2) 0),(6,.ref (n+3) 0),(7,(vI s1_.1)),(8,(vI s0_.2.1)),(9,.ref (n+6) 0),(10,(vI s1_.2.1))]⟩) (fun s1_=>(Zx O n [some ⟨false,30,11,1,(Zm a0)⟩,some ⟨false,25,3,1,(Zg a1)⟩,some ⟨false,25,3,1,[(vI 0),nV,nV]⟩,some ⟨false,25,3,1,[(vI a1.Kind),nV,.row (n+4) s1_.2.2.length]⟩,some (oR 25 3 Zc s1_.2.2),none,some ⟨false,89,14,1,(Xn x3)⟩])) (Xg (fun z10=>JR n (⟨143,[],[(4,.ref (n+2) 0),(5,(vB false))]⟩:Env) (Zx O n [none,none,some ⟨false,25,3,1,[(vI 0),nV,nV]⟩,none,none,none,none]) (n+7)) (fun z10=>JX 2 n (⟨143,[],[(2,.ref n 0),(3,.ref (n+1) 0),(4,.ref (n+2) 0),(6,.ref (n+3) 0),(7,(vI z10.1)),(8,(vI s0_.2.1)),(9,.ref (n+6) 0)]⟩:Env) (Zx O n [some ⟨false,30,11,1,(Zm a0)⟩,some ⟨false,25,3,1,(Zg a1)⟩,some ⟨false,25,3,1,[(vI 0),nV,nV]⟩,some ⟨false,25,3,1,[(vI a1.Kind),nV,.row (n+4) z10.2.length]⟩,some (oR 25 3 Zc z10.2),none,some ⟨false,89,14,1,(Xn x3)⟩]) (n+7))) ?_
     intro s1_ x1_ hs1_
     unfold X4 at hs1_
     try dsimp only
     refine Zf ?_
     refine zQD [2,3,4,6,7,8,9,10,43] [none,none,none] ?_
     refine Zo (t:=(cond (decide (s1_.2.1 < x3.N)) (x3.Kind == 0) false)) rfl (fun c9 => ?_) (fun c9 => ?_)
     ·replace hs1_:=Zq c9 hs1_
      refine Xs [2,3,4,6,7,8,9,10] [true,true,true,true,true,false,true] ?_
      refine Zf ?_
      refine Yh ?_
      refine Zf ?_
      refine zQ [2,3,4,6,7,8,9,10,50] ?_
      refine Zo (t:=(decide ((a1.Kids.length:Int)≤s1_.1))) rfl (fun c8 => ?_) (fun c8 => ?_)
      ·replace hs1_:=Zq c8 hs1_
       refine Zf ?_
       refine Gi [4,5] [false,false,true,false,false,false,false] ?_
       refine zW ?_
       exact zEy hs1_
      replace hs1_:=Zp c8 hs1_
      refine Xs [2,3,4,6,7,8,9,10] [true,true,true,true,true,false,true] ?_
      refine Zf ?_
      obtain ⟨x6,hx6,ax6,bx6,cx6,hs1_⟩:=bE (f:=Zc) Zcc (fun _=>rfl) (by decide) hs1_
      obtain ⟨l7,pl7,ql7,el7,hs1_⟩:=bA (k:=1) rfl hs1_
      refine Zai Zs (by kernel_rfl) [.low,.low,.plain,.plain,.plain,.plain,.plain,.pass,.bar,.plain,.bar] (fun i=>i < (n+7)) [0,1,2,3,4,5,6,7,8,9,10] [.low,.low,.plain,.plain,.plain,.plain,.plain,.pass,.bar,.plain,.bar] [] (by kernel_rfl) rfl ?_
      refine zF6 ax6 bx6 cx6 pl7 ql7 el7 ?_
      refine zO ?_
      refine Za5 ⟨143,[],[(2,.ref n 0),(3,.ref (n+1) 0),(4,.ref (n+2) 0),(6,.ref (n+3) 0),(7,(vI s1_.1)),(8,(vI s0_.2.1)),(9,.ref (n+6) 0),(10,(vI s1_.2.1))]⟩ (Zx O n [some ⟨false,30,11,1,(Zm a0)⟩,some ⟨false,25,3,1,(Zg a1)⟩,some ⟨false,25,3,1,[(vI 0),nV,nV]⟩,some ⟨false,25,3,1,[(vI a1.Kind),nV,.row (n+4) l7.length]⟩,some (oR 25 3 Zc l7),none,some ⟨false,89,14,1,(Xn x3)⟩,none]) (Y0 hU rfl rfl ?_) ?_
      ·exact Ykc ax6 bx6 cx6 pl7 ql7 el7
      refine Gi [2,3,4,6,7,8,9,10] [true,true,true,true,true,false,true,false] ?_
      refine zR ?_
      exact Vh hs1_
     replace hs1_:=Zp c9 hs1_
     exact zEx hs1_
    rcases z10 with z10 | z10
    ·dsimp only [Xg] at hw hz1
     refine Q1 hw ?_
     try simp only [Yv,Z9,↓reduceIte,Nat.reduceEqDiff]
     exact Vh hz1
    dsimp only [Xg] at hw hz1
    refine Yn hw ?_
    try simp only [Yv,Z9,↓reduceIte,Nat.reduceEqDiff]
    refine zDs [2,3,4,6,7,8,9] [true,true,true,true,true,false,true] ?_
    refine zQd [2,3,4,6,7,8,9,11] [2,3,4,6,7,8,9,11] [true,true,true,true,true,false,true] ?_
    obtain ⟨z30,hz30,hz1⟩:=bC hz1
    refine Ut (J:=(Xg (fun z30=>JR n (⟨143,[],[(4,.ref (n+2) 0),(5,(vB false))]⟩:Env) (Zx O n [none,none,some ⟨false,25,3,1,[(vI 0),nV,nV]⟩,none,none,none,none]) (n+7)) (fun z30=>JX 4 n (⟨143,[],[(2,.ref n 0),(3,.ref (n+1) 0),(4,.ref (n+2) 0),(6,.ref (n+3) 0),(7,(vI z30.1)),(8,(vI s0_.2.1)),(9,.ref (n+6) 0)]⟩:Env) (Zx O n [some ⟨false,30,11,1,(Zm a0)⟩,some ⟨false,25,3,1,(Zg a1)⟩,some ⟨false,25,3,1,[(vI 0),nV,nV]⟩,some ⟨false,25,3,1,[(vI a1.Kind),nV,.row (n+4) z30.2.length]⟩,some (oR 25 3 Zc z30.2),none,some ⟨false,89,14,1,(Xn x3)⟩]) (n+7)))) (z:=z30) ?_ fun hw => ?_
    ·refine Xd hz30 (fun s2_=>⟨143,[],[(2,.ref n 0),(3,.ref (n+1) 0),(4,.ref (n+2) 0),(6,.ref (n+3) 0),(7,(vI s2_.1)),(8,(vI s0_.2.1)),(9,.ref (n+6) 0),(11,(vI s2_.2.1))]⟩) (fun s2_=>(Zx O n [some ⟨false,30,11,1,(Zm a0)⟩,some ⟨false,25,3,1,(Zg a1)⟩,some ⟨false,25,3,1,[(vI 0),nV,nV]⟩,some ⟨false,25,3,1,[(vI a1.Kind),nV,.row (n+4) s2_.2.2.length]⟩,some (oR 25 3 Zc s2_.2.2),none,some ⟨false,89,14,1,(Xn x3)⟩])) (Xg (fun z30=>JR n (⟨143,[],[(4,.ref (n+2) 0),(5,(vB false))]⟩:Env) (Zx O n [none,none,some ⟨false,25,3,1,[(vI 0),nV,nV]⟩,none,none,none,none]) (n+7)) (fun z30=>JX 4 n (⟨143,[],[(2,.ref n 0),(3,.ref (n+1) 0),(4,.ref (n+2) 0),(6,.ref (n+3) 0),(7,(vI z30.1)),(8,(vI s0_.2.1)),(9,.ref (n+6) 0)]⟩:Env) (Zx O n [some ⟨false,30,11,1,(Zm a0)⟩,some ⟨false,25,3,1,(Zg a1)⟩,some ⟨false,25,3,1,[(vI 0),nV,nV]⟩,some ⟨false,25,3,1,[(vI a1.Kind),nV,.row (n+4) z30.2.length]⟩,some (oR 25 3 Zc z30.2),none,some ⟨false,89,14,1,(Xn x3)⟩]) (n+7))) ?_
     intro s2_ x2_ hs2_
     unfold Xa at hs2_
     try dsimp only
     refine Zf ?_
     refine zQ [2,3,4,6,7,8,9,11,68] ?_
     refine Zo (t:=(decide (s2_.2.1 < (x3.L.length:Int)))) rfl (fun c29 => ?_) (fun c29 => ?_)
     ·replace hs2_:=Zq c29 hs2_
      refine Xs [2,3,4,6,7,8,9,11] [true,true,true,true,true,false,true] ?_
      obtain ⟨z11,hz11,hs2_⟩:=bC hs2_
      refine Ztk (J:=(Xg (fun z11=>JN n (⟨143,[],[(2,.ref n 0),(3,.ref (n+1) 0),(4,.ref (n+2) 0),(6,.ref (n+3) 0),(7,(vI z11.1)),(8,(vI s0_.2.1)),(9,.ref (n+6) 0),(11,(vI s2_.2.1))]⟩:Env) (Zx O n [some ⟨false,30,11,1,(Zm a0)⟩,some ⟨false,25,3,1,(Zg a1)⟩,some ⟨false,25,3,1,[(vI 0),nV,nV]⟩,some ⟨false,25,3,1,[(vI a1.Kind),nV,.row (n+4) z11.2.length]⟩,some (oR 25 3 Zc z11.2),none,some ⟨false,89,14,1,(Xn x3)⟩,none]) (n+8)) (fun z11=>JR n (⟨143,[],[(4,.ref (n+2) 0),(5,(vB false))]⟩:Env) (Zx O n [none,none,some ⟨false,25,3,1,[(vI 0),nV,nV]⟩,none,none,none,none]) (n+7)))) (z:=z11) ?_ fun hw => ?_
      ·refine Yh ?_
       refine Zf ?_
       refine zQ [2,3,4,6,7,8,9,11,73] ?_
       refine Zo (t:=(x3.Kind == 2)) rfl (fun c28 => ?_) (fun c28 => ?_)
       ·replace hz11:=Zq c28 hz11
        refine Zf ?_
        obtain ⟨x14,hx14,ax14,bx14,cx14,hz11⟩:=bE (f:=Zc) Zcc (fun _=>rfl) (by decide) hz11
        obtain ⟨l15,pl15,ql15,el15,hz11⟩:=bA (k:=1) rfl hz11
        refine Zai Zs (by kernel_rfl) [.low,.low,.plain,.plain,.plain,.plain,.plain,.pass,.bar,.plain,.bar] (fun i=>i < (n+7)) [0,1,2,3,4,5,6,7,8,9,10] [.low,.low,.plain,.plain,.plain,.plain,.plain,.pass,.bar,.plain,.bar] [] (by kernel_rfl) rfl ?_
        refine zF6 ax14 bx14 cx14 pl15 ql15 el15 ?_
        refine zO ?_
        refine Za5 ⟨143,[],[(2,.ref n 0),(3,.ref (n+1) 0),(4,.ref (n+2) 0),(6,.ref (n+3) 0),(7,(vI s2_.1)),(8,(vI s0_.2.1)),(9,.ref (n+6) 0),(11,(vI s2_.2.1))]⟩ (Zx O n [some ⟨false,30,11,1,(Zm a0)⟩,some ⟨false,25,3,1,(Zg a1)⟩,some ⟨false,25,3,1,[(vI 0),nV,nV]⟩,some ⟨false,25,3,1,[(vI a1.Kind),nV,.row (n+4) l15.length]⟩,some (oR 25 3 Zc l15),none,some ⟨false,89,14,1,(Xn x3)⟩,none]) (Y0 hU rfl rfl ?_) ?_
        ·exact Ykc ax14 bx14 cx14 pl15 ql15 el15
        refine zXt ?_
        exact Vh hz11
       replace hz11:=Zp c28 hz11
       refine Xs [2,3,4,6,7,8,9,11] [true,true,true,true,true,false,true] ?_
       refine Zf ?_
       obtain ⟨z19,hz19,hz11⟩:=bC hz11
       refine Y1 (E':=⟨143,[],[(2,.ref n 0),(3,.ref (n+1) 0),(4,.ref (n+2) 0),(6,.ref (n+3) 0),(7,(vI s2_.1)),(8,(vI s0_.2.1)),(9,.ref (n+6) 0),(11,(vI s2_.2.1)),(102,(vB z19))]⟩) (O':=(Zx O n [some ⟨false,30,11,1,(Zm a0)⟩,some ⟨false,25,3,1,(Zg a1)⟩,some ⟨false,25,3,1,[(vI 0),nV,nV]⟩,some ⟨false,25,3,1,[(vI a1.Kind),nV,.row (n+4) s2_.2.2.length]⟩,some (oR 25 3 Zc s2_.2.2),none,some ⟨false,89,14,1,(Xn x3)⟩])) (n0:=(n+7)) ?_ ?_
       ·rcases Bool.eq_false_or_eq_true (decide ((a1.Kids.length:Int)≤s2_.1)) with c26 | c26
        ·replace hz19:=Zq c26 hz19
         refine Xl Zs (by kernel_rfl) (Zpp []) (by kernel_rfl) ?_
         refine zX1 c26 ?_
         exact Ju hz19 c26
        replace hz19:=Zp c26 hz19
        obtain ⟨x23,hx23,ax23,bx23,cx23,hz19⟩:=bE (f:=Zc) Zcc (fun _=>rfl) (by decide) hz19
        obtain ⟨x24,hx24,ax24,bx24,cx24,hz19⟩:=bE (f:=Zc) Zcc (fun _=>rfl) (by decide) hz19
        obtain ⟨y25,hy25,hz19⟩:=bC hz19
        refine Xl Zs (by kernel_rfl) (Z4z []) (by kernel_rfl) ?_
        refine zF7 c26 ax23 bx23 cx23 ax24 bx24 cx24 ?_
        refine PCall.of (Zgq hy25) ?_
        refine zF7 c26 ax23 bx23 cx23 ax24 bx24 cx24 ?_
        exact Z52 hz19 c26 ax23 bx23 cx23 ax24 bx24 cx24
       refine Zo (t:=z19) rfl (fun c27 => ?_) (fun c27 => ?_)
       ·replace hz11:=Zq c27 hz11
        refine Zf ?_
        refine Gi [4,5] [false,false,true,false,false,false,false] ?_
        refine zW ?_
        exact Vh hz11
       replace hz11:=Zp c27 hz11
       refine Xs [2,3,4,6,7,8,9,11] [true,true,true,true,true,false,true] ?_
       refine zR ?_
       exact Vh hz11
      rcases z11 with z11 | z11
      ·dsimp only [Xg] at hw hs2_
       refine Y1 hw ?_
       refine zR ?_
       exact Vh hs2_
      dsimp only [Xg] at hw hs2_
      refine Zlr hw ?_
      try simp only [Yv,Z9]
      exact zEy hs2_
     replace hs2_:=Zp c29 hs2_
     exact zEx hs2_
    rcases z30 with z30 | z30
    ·dsimp only [Xg] at hw hz1
     refine Q1 hw ?_
     try simp only [Yv,Z9,↓reduceIte,Nat.reduceEqDiff]
     exact Vh hz1
    dsimp only [Xg] at hw hz1
    refine Yn hw ?_
    try simp only [Yv,Z9,↓reduceIte,Nat.reduceEqDiff]
    refine zD [2,3,4,6,7,8,9] [true,true,true,true,true,false,true] ?_
    refine zQ [2,3,4,6,7,8,9,108] ?_
    refine Zo (t:=(x3.Kind == 3)) rfl (fun c39 => ?_) (fun c39 => ?_)
    ·replace hz1:=Zq c39 hz1
     refine Zf ?_
     refine zQ [2,3,4,6,7,8,9,113] ?_
     refine Zo (t:=(decide ((a1.Kids.length:Int)≤z30.1))) rfl (fun c38 => ?_) (fun c38 => ?_)
     ·replace hz1:=Zq c38 hz1
      refine Zf ?_
      refine Gi [4,5] [false,false,true,false,false,false,false] ?_
      refine zW ?_
      exact Vh hz1
     replace hz1:=Zp c38 hz1
     refine Xs [2,3,4,6,7,8,9] [true,true,true,true,true,false,true] ?_
     refine Zf ?_
     obtain ⟨x33,hx33,ax33,bx33,cx33,hz1⟩:=bE (f:=Zc) Zcc (fun _=>rfl) (by decide) hz1
     obtain ⟨y34,hy34,hz1⟩:=bC hz1
     refine Zai Zs (by kernel_rfl) [.low,.low,.low,.low,.plain,.low,.low,.low,.plain,.plain,.plain,.pass,.bar,.plain] (fun i=>i < (n+7)) [0,1,2,3,4,5,6,7,8,9,10,11,12,13] [.low,.low,.low,.low,.plain,.low,.low,.low,.plain,.plain,.plain,.pass,.bar,.plain] [] (by kernel_rfl) rfl ?_
     refine zF3 ax33 bx33 cx33 ?_
     refine zO ?_
     first | refine PCallA.of (fun _ _=>K5 hy34) ?_ | refine PCall.of (K5 hy34) ?_
     refine zF3 ax33 bx33 cx33 ?_
     refine zO ?_
     refine zDs [2,3,4,6,7,8,12,13] [true,true,true,true,true,false,false,true] ?_
     refine zQ [2,3,4,6,7,8,12,127] ?_
     refine Zo (t:=(!y34.2)) rfl (fun c37 => ?_) (fun c37 => ?_)
     ·replace hz1:=Zq c37 hz1
      refine Zf ?_
      refine Gi [4,5] [false,false,true,false,false,false,false,false] ?_
      refine zW ?_
      exact Vh hz1
     replace hz1:=Zp c37 hz1
     refine Xs [2,3,4,6,7,8,12] [true,true,true,true,true,false,false,true] ?_
     refine Zf ?_
     obtain ⟨l36,pl36,ql36,el36,hz1⟩:=bA (k:=1) rfl hz1
     refine Za0 [] pl36 ql36 el36 ?_
     refine Za5 ⟨143,[],[(2,.ref n 0),(3,.ref (n+1) 0),(4,.ref (n+2) 0),(6,.ref (n+3) 0),(7,(vI z30.1)),(8,(vI s0_.2.1))]⟩ (Zx O n [some ⟨false,30,11,1,(Zm a0)⟩,some ⟨false,25,3,1,(Zg a1)⟩,some ⟨false,25,3,1,[(vI 0),nV,nV]⟩,some ⟨false,25,3,1,[(vI a1.Kind),nV,.row (n+4) l36.length]⟩,some (oR 25 3 Zc l36),none,none,none,none]) (Y0 hU rfl rfl ?_) ?_
     ·exact Zt5 pl36 ql36 el36
     refine zR ?_
     exact Vh hz1
    replace hz1:=Zp c39 hz1
    refine zK ?_
    exact Vh hz1
   rcases z1 with z1 | z1
   ·dsimp only [Xg] at hw hs0_
    refine Y1 hw ?_
    refine zR ?_
    exact Vh hs0_
   dsimp only [Xg] at hw hs0_
   refine Zlr hw ?_
   try simp only [Yv,Z9]
   exact zEy hs0_
  replace hs0_:=Zp c40 hs0_
  exact zEx hs0_
 rcases z41 with z41 | z41
 ·dsimp only [Xg] at hw h
  refine Q1 hw ?_
  try simp only [Yv,Z9,↓reduceIte,Nat.reduceEqDiff]
  obtain rfl:=sI h
  refine Zl (.inr rfl) hU [.agg [(vI 0),nV,nV],(vB false)] (by omega) ?_
  simp only [push_cast,seval,↓reduceIte,Zd,Tryz.results94,hN0,hN]
 dsimp only [Xg] at hw h
 refine Yn hw ?_
 try simp only [Yv,Z9,↓reduceIte,Nat.reduceEqDiff]
 refine zDs [3,4,6,7] [false,true,true,true,true,false] ?_
 refine Zai Zs (by kernel_rfl) [.plain,.plain,.low,.low,.low,.low,.pass,.plain] (fun i=>i≠n+2) [0,1,2,3,4,5,6,7] [.plain,.plain,.low,.low,.low,.low,.pass,.plain] [] (by kernel_rfl) rfl ?_
 refine zS ?_
 refine zO ?_
 refine zD [4,5] [false,false,true,false,true,false] ?_
 refine zW ?_
 obtain rfl:=sI h
 refine Zl (.inr rfl) hU [.agg [(vI a1.Kind),nV,.row (n+4) z41.2.length],(vB (z41.1 == (a1.Kids.length:Int)))] (by omega) ?_
 simp only [push_cast,seval,↓reduceIte,Zd,Tryz.results94,hN0,hN]
theorem Zlm:∀ k,(Zav ((Yc k).1))∧(Vr ((Yc k).2.1))∧(Zaw ((Yc k).2.2)):=fun k=>by
 induction k with
 | zero=>exact ⟨@fun a0 a1 r O n h=>(nomatch (show (none:Option _)=some _ from h)),@fun a0 a1 r O n h=>(nomatch (show (none:Option _)=some _ from h)),@fun a0 a1 r O n h=>(nomatch (show (none:Option _)=some _ from h))⟩
 | succ k ih=>exact ⟨@fun a0 a1 r O n h=>Znu (ih.1) (ih.2.1) (ih.2.2)  h,@fun a0 a1 r O n h=>Zi7 (ih.1) (ih.2.1) (ih.2.2)  h,@fun a0 a1 r O n h=>Znv (ih.1) (ih.2.1) (ih.2.2)  h⟩
theorem Zoi {a0:Zi} {a1:Za} {r:(Za×Bool)} {O:Objs} {n:Nat} (h:Zer a0 a1=some r):GTo Tryz.prog 48 [.agg (Zm a0),.agg (Zg a1)] O n (.tup [.agg (Zg r.1),(vB r.2)]) O n:=by
 obtain ⟨k,hk⟩:=Zbg h
 exact (Zlm k).1  hk
theorem Zf7 {a0:Zi} {a1:(List (List Int))} {a2:Yi} {r:Bool} {O:Objs} {n:Nat} (h:Kl a0 a1 a2=some r):GTo Tryz.prog 11 [.agg (Zm a0),(sL (eL (eI .u64)) a1),.agg (X5 a2)] O n ((vB r)) O n:=by
 unfold Kl at h
 refine Uw Zs Tryz.call11 Tryz.func11 rfl fun hU hN0 hN => ?_
 show W _ _ _ _ ⟨65,[],[(0,.agg (Zm a0)),(1,(sL (eL (eI .u64)) a1)),(2,.agg (X5 a2))]⟩ (Zx O n []) _
 refine zQ [1,3,5] ?_
 refine Zf ?_
 obtain ⟨y2,hy2,h⟩:=bC h
 refine zCd (Znl hy2) [1,3,5] [true,true] ?_
 refine Zf ?_
 obtain ⟨y4,hy4,h⟩:=bC h
 refine zCd (Zma hy4) [1,3,7,9] [true,false,true] ?_
 refine Zf ?_
 obtain ⟨z6,hz6,h⟩:=bC h
 refine Y1 (E':=⟨65,[],[(1,(sL (eL (eI .u64)) a1)),(3,.ref n 0),(7,.ref (n+2) 0),(29,(vB z6))]⟩) (O':=(Zx O n [some ⟨false,30,11,1,(Zm a0)⟩,none,some ⟨false,25,3,1,(Zg y4.1)⟩])) (n0:=(n+3)) ?_ ?_
 ·rcases Bool.eq_false_or_eq_true (y4.2.2 != 0) with c9 | c9
  ·replace hz6:=Zq c9 hz6
   refine Vi (Z6y []) c9 ?_
   exact Ju hz6 c9
  replace hz6:=Zp c9 hz6
  obtain ⟨y8,hy8,hz6⟩:=bC hz6
  refine Vi (Z0p []) c9 ?_
  refine (Zog hy8).then ?_
  refine zX1 c9 ?_
  exact Ju hz6 c9
 refine Zo (t:=z6) rfl (fun c36 => ?_) (fun c36 => ?_)
 ·replace h:=Zq c36 h
  refine Zf ?_
  obtain ⟨y11,hy11,h⟩:=bC h
  refine zCd (Zdn hy11) [6] [false,false,false] ?_
  refine zW ?_
  obtain rfl:=sI h
  refine Zl (.inr rfl) hU [(vB y11)] (by omega) ?_
  simp only [push_cast,seval,↓reduceIte,Zd,Tryz.results11,hN0,hN]
 replace h:=Zp c36 h
 refine Xs [1,3,7] [true,false,true] ?_
 refine Zf ?_
 obtain ⟨y14,hy14,h⟩:=bC h
 obtain ⟨y15,hy15,h⟩:=bC h
 refine Zai Zs (by kernel_rfl) [.low,.plain,.low,.low,.plain,.plain,.plain,.pass,.bar,.plain] (fun i=>i < (n+3)) [0,1,2,3,4,5,6,7,8,9] [.low,.plain,.low,.low,.plain,.plain,.plain,.pass,.bar,.plain] [] (by kernel_rfl) rfl ?_
 refine zS ?_
 refine zO ?_
 first | refine PCallA.of (fun _ _=>Zd6 hy14) ?_ | refine PCall.of (Zd6 hy14) ?_
 refine zS ?_
 refine zO ?_
 first | refine PCallA.of (fun _ _=>Zdz hy15) ?_ | refine PCall.of (Zdz hy15) ?_
 refine zS ?_
 refine zO ?_
 refine zDs [3,7,10,11] [true,false,true,true] ?_
 obtain ⟨y17,hy17,h⟩:=bC h
 refine zCd (Zoi hy17) [10,11,12,13] [false,false,false,true,true] ?_
 obtain ⟨z22,hz22,h⟩:=bC h
 refine Y1 (E':=⟨65,[],[(6,(vB z22))]⟩) (O':=(Zx O n [none,none,none,none,none])) (n0:=(n+5)) ?_ ?_
 ·rcases Bool.eq_false_or_eq_true y17.2 with c31 | c31
  ·replace hz22:=Zq c31 hz22
   rcases Bool.eq_false_or_eq_true (y15.2 == 0) with c32 | c32
   ·replace hz22:=Zq c32 hz22
    try rw [c32] at c31
    obtain ⟨y27,hy27,hz22⟩:=bC hz22
    rcases Bool.eq_false_or_eq_true y27 with c33 | c33
    ·replace hz22:=Zq c33 hz22
     try rw [c33] at c31
     try rw [c33] at c32
     obtain ⟨y28,hy28,hz22⟩:=bC hz22
     refine Za0 (Zi3 (Zx8 [])) c31 c32 c33 ?_
     refine zG ?_
     refine (G3 hy27).then ?_
     refine zX3 c31 c32 c33 ?_
     refine zG ?_
     refine (Zdn hy28).then ?_
     refine zX3 c31 c32 c33 ?_
     refine zG ?_
     exact Ze6 hz22 c31 c32 c33
    replace hz22:=Zp c33 hz22
    try rw [c33] at c31
    try rw [c33] at c32
    refine Za0 (Zi3 (Z0p [Qe])) c31 c32 c33 ?_
    refine zG ?_
    refine (G3 hy27).then ?_
    refine zX3 c31 c32 c33 ?_
    refine zG ?_
    exact Ze6 hz22 c31 c32 c33
   replace hz22:=Zp c32 hz22
   try rw [c32] at c31
   refine Vq (Zi3 (Z4x [])) c31 c32 ?_
   refine zG ?_
   exact Zgf hz22 c31 c32
  replace hz22:=Zp c31 hz22
  rcases Bool.eq_false_or_eq_true (y15.2 == 13) with c34 | c34
  ·replace hz22:=Zq c34 hz22
   try rw [c34] at c31
   obtain ⟨y29,hy29,hz22⟩:=bC hz22
   rcases Bool.eq_false_or_eq_true y29 with c35 | c35
   ·replace hz22:=Zq c35 hz22
    try rw [c35] at c31
    try rw [c35] at c34
    obtain ⟨y30,hy30,hz22⟩:=bC hz22
    refine Za0 (Zi3 (Zx8 [])) c31 c34 c35 ?_
    refine zG ?_
    refine (G3 hy29).then ?_
    refine zX3 c31 c34 c35 ?_
    refine zG ?_
    refine (Zdn hy30).then ?_
    refine zX3 c31 c34 c35 ?_
    refine zG ?_
    exact Ze6 hz22 c31 c34 c35
   replace hz22:=Zp c35 hz22
   try rw [c35] at c31
   try rw [c35] at c34
   refine Za0 (Zi3 (Z0p [Qe])) c31 c34 c35 ?_
   refine zG ?_
   refine (G3 hy29).then ?_
   refine zX3 c31 c34 c35 ?_
   refine zG ?_
   exact Ze6 hz22 c31 c34 c35
  replace hz22:=Zp c34 hz22
  try rw [c34] at c31
  refine Vq (Zi3 (Z4x [])) c31 c34 ?_
  refine zG ?_
  exact Zgf hz22 c31 c34
 refine zW ?_
 obtain rfl:=sI h
 refine Zl (.inr rfl) hU [(vB z22)] (by omega) ?_
 simp only [push_cast,seval,↓reduceIte,Zd,Tryz.results11,hN0,hN]
end Go.Proofs.YtmlcnhambfkjaaaGreat
