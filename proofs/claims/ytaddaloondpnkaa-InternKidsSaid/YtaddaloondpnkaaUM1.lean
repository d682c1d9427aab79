/- Part UM1 of this seat's mirrors: functions of the seat's program, and the plain functions that they are; each theorem bears its own conditions. -/
import Derived.Test.YtaddaloondpnkaaUD
namespace Go.Proofs.Ytaddaloondpnkaa
open Go.RowKit
set_option linter.unusedVariables false
set_option linter.unusedSimpArgs false
set_option maxRecDepth 100000
set_option maxHeartbeats 4000000
attribute [local push_cast] Qj Zm Z0 Yj Yp Zk Zh Ze Xi Zbs Zaj Znf Zjf Zen Zer Zem Zeq Zhi Zhd Zep Zhh Zhg Zhf Zeo Zhc Zc6 evS wok Q6 Op.operands Call.operands gop atK List.all_cons List.all_nil Bool.and_self Value.oneCell' List.take_zero List.take_succ_cons List.take_nil List.drop_zero List.drop_succ_cons List.drop_nil List.append_nil Nat.add_zero Nat.zero_add Vp Yh ev Qs Zf4 Zkk Zkj Zkp Zkn Zko Zkl Zkm Zki Zo2 Zp0 Ztj Ze2 Gr Ze0 Zas Zef Zcx Zbd Zbi Zcr Zcn Zbg Zcq Zcp Zco Zbf Zcm Zbe Zbh Zai Zh6 Zcw Uf Zd5 Ug Zf5 Zez Zsb bLo bHi bMx Gs Zf3 Zu0 Zex Zgn Zbt Vi Zo6 Zu1 Zd4 Zbr Zu2 Gq Zxp Zgr Zgv Zgq Zgu Zk7 Zk3 Zk2 Zej Zgs Zk6 Zk5 Zk4 Zgt Zky Zk1 Zkx Zk0 Zp9 Zp6 Zp5 Zkz Zp7 Zp8 Z2y Zf6 Zm1 pop TK.isAgg Zk9 Zld Zk8 Zlc Zgz Zqk Zqg Zlb Zqj Zqi Zqh Zla Zqf G.under G.unders List.getD_cons_zero List.getD_cons_succ List.set_cons_zero List.set_cons_succ List.map_cons List.map_nil List.toList_toArray Array.toList_append Option.toArray_none Option.toArray_some Option.map_some Option.map_none Option.bind_some Option.bind_none List.getElem?_cons_zero List.getElem?_cons_succ List.getElem?_nil List.nil_append List.cons_append List.replicate_succ List.replicate_zero List.length_cons List.length_nil and_true true_and false_and Bool.true_eq_false Bool.false_eq_true forall_const implies_true IntKind.bits ite_true ite_false eq_self not_false_eq_true decide_eq_true_eq decide_eq_false_iff_not beq_iff_eq ne_eq beq_eq_false_iff_ne beq_self_eq_true Option.some.injEq exists_eq_left' ge_iff_le gt_iff_lt Bool.not_true Bool.not_false imp_self cond_true cond_false Z5s Z5r Bool.not_not Gk Zc9 Zae Zgg Qh Xl Option.join_some Nat.add_assoc Int.toNat_natCast eI eL Qk Zcv Zbj Zkt Zkr Zks Zyb Z0f Zg0 Zfv Zlm Zlk Zll Zua Zi2 Zrw Ziz Zou G.agg.injEq G.tup.injEq List.flatten_cons List.flatten_nil Int.le_refl Nat.le_refl Bool.not_eq_true' Bool.not_eq_false' Zmz Zds Zrr Z2h Zrq Z04 Zog Znn G.ren G.rens Zqs Zfk Zst Zkg Zkh Z0x Z8c G.fn.injEq Zj8 Zpu Zyw Zrp Zx3 Z2z Option.join_none V3 undef Zgo Arr.len Zli Zqn Zc0 Zjx Zlj Zlg Zlh onB Zya Zo1 Vg Zek Zg5 Zg4 Zg3 Zg2 Z0e Z0d Zu7 Zsd Vy Zt3 Zm2 Zyc Znq Zf2 Zgk Zce Zdi Z41 Zrf Zok Zrg Z42 Zrh Z43 Zri Z44 Zrj Z45 Zrk Z46 Zrl Z47 Zrm Zv2 Zlv Zv3 Zlw Zv4 Zlx Zv5 Zly Zv6 Zlz Zv7 Zl0 Zv8 Zl1 Zv9 Zl2 Zwa Zl3 Zwb Zl4 Zwc Zl5 U1 Zdd Zr8 Ziu Zwd Zl6 Za3 Zl7 Zwe Ziv Zwf Zl8 Zwg Zl9 Zwh Zma Zwi Ziw Zwj Zmb Zwk Zmc Zwl Zmd Zwm Zme Vz Zmf Zwn Zmg Zwo Zmh Zwp Zmi Zwq Zmj Zwr Zmk Zws Zml Zwt Zmm Zwu Zmn Zwv Zmo Zww Zmp Zwx Zmq Zwy Zmr Zwz Zms Zw0 Zmt Zw1 Zmu Zw2 Zmv Zw3 Zmw Zw4 Zmx Zps Zmy Zqy Zhl Zqz Zhm Zq0 Zhn Zq1 Zho Zq2 Zhp Zq3 Zhq Zq4 Zhr Zq5 Zhs Zq6 Zht Zq7 Zhu Zq8 Zhv Zq9 Zhw Zra Zhx Zrb Zhy Zrc Zhz Zrd Zh0 Zre Zh1 Zx Zbc Ztv Zub Zfw Zgf Zl Kh Zc8 Zb5 Z1o Z1v Zj Y6
theorem Zpe {a0:Int} {a1:Int} {r:Za5} {O:Objs} {n:Nat}  (h:Zal a0 a1=some r):GTo Try.prog 28 [.val (.int .i64 a0),.val (.int .i64 a1)] O n (.ref n 0) (Z4 O n [some ⟨false,76,4,1,[.row (n+1) r.L.length,.val (.int .i64 r.Size),.val (.int .i64 r.Most),.val (.int .i64 r.Used)]⟩,some ⟨true,22,1,r.L.length,fl (eL (eI .u64)) r.L⟩]) (n+2):=by
 unfold Zal at h
 refine Yi Zc Try.call28 Try.func28 rfl (Nat.le_of_ble_eq_true rfl) (by omega) fun hU => ?_
 have hN0:O n=none:=hU.fresh _ (Nat.le_refl _)
 have hN:∀ k,O (n+k)=none:=fun k=>hU.fresh _ (Nat.le_add_right _ _)
 show W _ _ _ _ ⟨15,[],[(0,.val (.int .i64 a0)),(1,.val (.int .i64 a1))]⟩ (Z4 O n []) _
 refine Zn [0,1] (Zb Zc [] ?_)
 simp only [push_cast,seval,Za,hN0,hN]
 obtain ⟨z1,hz1,h⟩:=bC h
 refine Yt (E':=⟨15,[],[(0,.val (.int .i64 z1)),(1,.val (.int .i64 a1))]⟩) (O':=(Z4 O n [])) (n0:=n) ?_ ?_
 ·refine Zn [0,1,6] (Zb Zc [] ?_)
  simp only [push_cast,seval,Za,hN0,hN]
  refine Zq (t:=(decide (a0 < 1))) rfl (fun c2 => ?_) (fun c2 => ?_)
  ·replace hz1:=Zz c2 hz1
   refine Zb Zc [] ?_
   simp only [push_cast,seval,Za,hN0,hN]
   have hz1:=Option.some.inj hz1;subst hz1
   refine And.intro rfl (Fit2.of (Zp hU rfl rfl ?_) (by omega))
   simp only [push_cast,seval,Za,hN0,hN]
  replace hz1:=Zy c2 hz1
  refine Zt ?_
  try simp only [Zh,Ze]
  have hz1:=Option.some.inj hz1;subst hz1
  refine And.intro rfl (Fit2.of (Zp hU rfl rfl ?_) (by omega))
  simp only [push_cast,seval,Za,hN0,hN]
 obtain ⟨z3,hz3,h⟩:=bC h
 refine Yt (E':=⟨15,[],[(0,.val (.int .i64 z1)),(1,.val (.int .i64 z3))]⟩) (O':=(Z4 O n [])) (n0:=n) ?_ ?_
 ·refine Zn [0,1,8] (Zb Zc [] ?_)
  simp only [push_cast,seval,Za,hN0,hN]
  refine Zq (t:=(decide (a1 < 0))) rfl (fun c4 => ?_) (fun c4 => ?_)
  ·replace hz3:=Zz c4 hz3
   refine Zb Zc [] ?_
   simp only [push_cast,seval,Za,hN0,hN]
   have hz3:=Option.some.inj hz3;subst hz3
   refine And.intro rfl (Fit2.of (Zp hU rfl rfl ?_) (by omega))
   simp only [push_cast,seval,Za,hN0,hN]
  replace hz3:=Zy c4 hz3
  refine Zt ?_
  try simp only [Zh,Ze]
  have hz3:=Option.some.inj hz3;subst hz3
  refine And.intro rfl (Fit2.of (Zp hU rfl rfl ?_) (by omega))
  simp only [push_cast,seval,Za,hN0,hN]
 obtain ⟨z5,hz5,h⟩:=bC h
 refine Yt (E':=⟨15,[],[(0,.val (.int .i64 z1)),(1,.val (.int .i64 z5))]⟩) (O':=(Z4 O n [])) (n0:=n) ?_ ?_
 ·refine Zn [0,1,10] (Zb Zc [] ?_)
  simp only [push_cast,seval,Za,hN0,hN]
  refine Zq (t:=(decide (131072 < z3))) rfl (fun c6 => ?_) (fun c6 => ?_)
  ·replace hz5:=Zz c6 hz5
   refine Zb Zc [] ?_
   simp only [push_cast,seval,Za,hN0,hN]
   have hz5:=Option.some.inj hz5;subst hz5
   refine And.intro rfl (Fit2.of (Zp hU rfl rfl ?_) (by omega))
   simp only [push_cast,seval,Za,hN0,hN]
  replace hz5:=Zy c6 hz5
  refine Zt ?_
  try simp only [Zh,Ze]
  have hz5:=Option.some.inj hz5;subst hz5
  refine And.intro rfl (Fit2.of (Zp hU rfl rfl ?_) (by omega))
  simp only [push_cast,seval,Za,hN0,hN]
 refine Zn [4] (Zb Zc [] ?_)
 simp only [push_cast,seval,Za,hN0,hN]
 refine Zv ?_
 try simp only [Zh,Ze]
 have h:=Option.some.inj h;subst h
 refine Zgl (k:=2) (L3:=[some ⟨false,76,4,1,[.row (n+1) ([]:List (List Int)).length,.val (.int .i64 z1),.val (.int .i64 z5),.val (.int .i64 0)]⟩,some ⟨true,22,1,([]:List (List Int)).length,fl (eL (eI .u64)) ([]:List (List Int))⟩,none]) (E2:=(⟨15,[],[(4,.ref n 0)]⟩:Env)) (n3:=(n+3)) (.inr rfl) hU rfl [.ref n 0] ?_ ?_
 ·refine Fit2.trans (E':=(⟨15,[],[(4,.ref n 0)]⟩:Env)) (O':=(Z4 O n [some ⟨false,76,4,1,[.val (.slice none 0 0),.val (.int .i64 z1),.val (.int .i64 z5),.val (.int .i64 0)]⟩])) (n':=(n+1)) (Fit2.of (Zp hU rfl rfl ?_) (by omega)) ?_
  ·simp only [push_cast,seval,Za,hN0,hN]
  refine Fit2.trans (Zcl (p:=n) (k:=0) (q:=⟨false,76,4,1,[.val (.slice none 0 0),.val (.int .i64 z1),.val (.int .i64 z5),.val (.int .i64 0)]⟩) 22 1 (by simp only [Zc9,List.getElem?_cons_zero,List.getElem?_cons_succ,Option.join_some,List.length_nil]) rfl (by omega)) ?_
  simp only [Qh,Xl,Zgg,List.set_cons_zero,List.set_cons_succ,List.cons_append,List.nil_append,List.length_cons,List.length_nil,Nat.zero_add,Nat.reduceAdd,Nat.reduceLT,Nat.add_assoc]
  refine Zap (k:=2) (k':=3) hU [0,1] [0,1,0] rfl rfl rfl rfl ⟨rfl,rfl⟩ ?_
  simp only [push_cast,seval,Za,hN0,hN]
 simp only [push_cast,seval,Za,Try.results28,hN0,hN]
theorem Zn7 {a0:(Option Zr)} {r:Int} {O:Objs} {n:Nat} (h:Gm a0=some r):GTo Try.prog 142 [(gP Zx a0)] O n (.val (.int .i64 r)) O n:=by
 unfold Gm at h
 refine Yi Zc Try.call142 Try.func142 rfl (Nat.le_of_ble_eq_true rfl) (Nat.le_refl _) fun hU => ?_
 have hN0:O n=none:=hU.fresh _ (Nat.le_refl _)
 have hN:∀ k,O (n+k)=none:=fun k=>hU.fresh _ (Nat.le_add_right _ _)
 show W _ _ _ _ ⟨10,[],[(0,(gP Zx a0))]⟩ (Z4 O n []) _
 refine Zn [0] (Zb Zc [] ?_)
 simp only [push_cast,seval,Za,hN0,hN]
 refine Zf ?_
 have g2:=Zry (f:=Zx) (t:=28) Ziv a0
 refine Zn [0,4] (Zb Zc [] ?_)
 simp only [push_cast,seval,Za,g2,hN0,hN]
 refine Zq (t:=(Option.isNone a0)) rfl (fun c5 => ?_) (fun c5 => ?_)
 ·replace h:=Zz c5 h
  refine Zn [2] (Zb Zc [] ?_)
  simp only [push_cast,seval,Za,hN0,hN]
  refine Zv ?_
  try simp only [Zh,Ze]
  have h:=Option.some.inj h;subst h
  refine Zo (.inr rfl) hU [.val (.int .i64 0)] (by omega) ?_
  simp only [push_cast,seval,Za,Try.results142,hN0,hN]
 replace h:=Zy c5 h
 refine Zt ?_
 try simp only [Zh,Ze]
 refine Zg [0] [] ?_
 simp only [push_cast,seval]
 obtain ⟨x4,hx4,h⟩:=bC h
 refine Zn [2] (Zb Zc [] ?_)
 simp only [push_cast,seval,Za,hx4,hN0,hN]
 refine Zv ?_
 try simp only [Zh,Ze]
 have h:=Option.some.inj h;subst h
 refine Zo (.inr rfl) hU [.val (.int .i64 (x4.segments.length:Int))] (by omega) ?_
 simp only [push_cast,seval,Za,Try.results142,hN0,hN]
theorem U5 {a0 r:List Int} {O:Objs} {n:Nat} (h:Xf a0=some r):GTo Try.prog 64 [.sl a0.length (fl (eI .u64) a0)] O n (.row n r.length) (Z4 O n [some ⟨true,58,1,r.length,fl (eI .u64) r⟩]) (n+1):=by
 have h1:=Z1b h
 have h2:=Z1c h
 have h3:=Zxb h
 rw [List.nil_append] at h3
 subst h3
 simp only [List.length_nil,Nat.zero_add] at h1 h2
 clear h
 refine Yi Zc Try.call64 Try.func64 rfl (Nat.le_of_ble_eq_true rfl) (by omega) fun hU => ?_
 have hN0:O n=none:=hU.fresh _ (Nat.le_refl _)
 have hN:∀ k,O (n+k)=none:=fun k=>hU.fresh _ (Nat.le_add_right _ _)
 show W _ _ _ _ ⟨8,[],[(0,.sl r.length (fl (eI .u64) r))]⟩ (Z4 O n []) _
 refine Zn [0] (Zb Zc [] ?_)
 simp only [push_cast,seval,Za,hN0,hN]
 refine Ya0 0 r.length (fl (eI .u64) r) rfl (Nat.le_of_ble_eq_true rfl) (Jo Zg7 _) fun A c hA => ?_
 refine Zn [0,4] (Zb Zc [] ?_)
 simp only [push_cast,seval,Za,hN0,hN]
 cases A with
 | none =>
  obtain rfl:r=[]:=List.eq_nil_of_length_eq_zero (hA rfl)
  refine Zq (t:=true) rfl (fun _ => ?_) (fun hc=>by cases hc)
  refine Zn [2] (Zb Zc [] ?_)
  simp only [push_cast,seval,Za,hN0,hN]
  refine Zv ?_
  try simp only [Zh,Ze]
  refine Zgl (k:=1) (L3:=[some ⟨true,58,1,0,[]⟩]) (E2:=⟨8,[],[(2,.row n 0),(2,.val (.slice none 0 0))]⟩) (n3:=(n+1)) (.inr rfl) hU rfl [.row n 0] ?_ ?_
  ·have ha:=Zec (ba:=n) (E:=⟨8,[],[(2,.val (.slice none 0 0))]⟩) (O:=(Z4 O n [])) (n:=n) 2 58 1 rfl (by omega)
   simp only [Xl] at ha
   exact ha
  simp only [push_cast,seval,Za,Try.results64,hN0,hN]
 | some A =>
  refine Zq (t:=false) rfl (fun hc=>by cases hc) (fun _ => ?_)
  refine Zt ?_
  try simp only [Zh,Ze]
  refine And.intro rfl (And.intro (Nat.le_of_ble_eq_true rfl) ?_)
  refine Zf ?_
  refine Zb Zc [] ?_
  simp only [push_cast,seval,Za,h1,h2,hN0,hN]
  refine Zv ?_
  try simp only [Zh,Ze]
  refine Z57 (.inr rfl) hU rfl [.row n r.length] (by omega) ?_
  simp only [push_cast,seval,Za,Try.results64,hN0,hN]
theorem Zcz {a0 r:List Int} {O:Objs} {n:Nat} (h:Xf a0=some r):GTo Try.prog 64 [.sl a0.length (fl (eI .u64) a0)] O n (.sl r.length (fl (eI .u64) r)) O n:=by
 refine GTo.freeze (U5 h) fun hU => ?_
 have hN0:O n=none:=hU.fresh _ (Nat.le_refl _)
 have hN:∀ k,O (n+k)=none:=fun k=>hU.fresh _ (Nat.le_add_right _ _)
 simp only [push_cast,seval,Za,hN0,hN]
theorem Zt8 {a0:(List (List Int))} {r:(List (List Int))} {O:Objs} {n:Nat} (h:Zaz a0=some r):GTo Try.prog 33 [.sl a0.length (fl (eL (eI .u64)) a0)] O n (.sl r.length (fl (eL (eI .u64)) r)) O n:=by
 unfold Zaz at h
 refine Yi Zc Try.call33 Try.func33 rfl (Nat.le_of_ble_eq_true rfl) (Nat.le_refl _) fun hU => ?_
 have hN0:O n=none:=hU.fresh _ (Nat.le_refl _)
 have hN:∀ k,O (n+k)=none:=fun k=>hU.fresh _ (Nat.le_add_right _ _)
 show W _ _ _ _ ⟨23,[],[(0,.sl a0.length (fl (eL (eI .u64)) a0))]⟩ (Z4 O n []) _
 refine Zn [0] (Zb Zc [] ?_)
 simp only [push_cast,seval,Za,hN0,hN]
 refine Zf ?_
 obtain ⟨l2,al2,bl2,cl2,el2,h⟩:=bM2 (c:=24) rfl h
 have nl2:Int.toNat (a0.length:Int)=List.length l2:=by rw [el2,List.length_replicate]
 have fl2:∀ O O' n,wkl O O' n (List.replicate (List.length l2) [G.val (.slice none 0 0)]).flatten (fl (eL (eI .u64)) l2)=True:=fun O O' n=>by rw [← nl2,el2];exact eq_true (Z05 _ _)
 clear el2
 refine Zb Zc [] ?_
 simp only [push_cast,seval,Za,al2,bl2,cl2,fl2,nl2,hN0,hN]
 refine U3 ⟨23,[],[(0,.sl a0.length (fl (eL (eI .u64)) a0)),(3,.row n l2.length)]⟩ (Z4 O n [some ⟨true,22,1,l2.length,fl (eL (eI .u64)) l2⟩]) (Zp hU rfl rfl ?_) ?_
 ·simp only [push_cast,seval,Za,al2,bl2,cl2,fl2,nl2,hN0,hN]
 refine Zf ?_
 refine Zn [3,9,10,11] (Zb Zc [] ?_)
 simp only [push_cast,seval,Za,hN0,hN]
 refine Zg [3,9,10,11] [true] ?_
 simp only [push_cast,seval]
 obtain ⟨z9,hz9,h⟩:=bC h
 refine Y2 (E':=⟨23,[],[(3,.row n z9.length)]⟩) (O':=(Z4 O n [some ⟨true,22,1,z9.length,fl (eL (eI .u64)) z9⟩])) (n0:=(n+1)) ?_ ?_
 ·refine Xp hz9 (fun s0_=>⟨23,[],[(3,.row n s0_.2.length),(9,.sl a0.length (fl (eL (eI .u64)) a0)),(10,.val (.int .i64 (a0.length:Int))),(11,.val (.int .i64 s0_.1))]⟩) (fun s0_=>(Z4 O n [some ⟨true,22,1,s0_.2.length,fl (eL (eI .u64)) s0_.2⟩])) (fun z9=>JX 0 n (⟨23,[],[(3,.row n z9.length)]⟩:Env) (Z4 O n [some ⟨true,22,1,z9.length,fl (eL (eI .u64)) z9⟩]) (n+1)) ?_
  intro s0_ x0_ hs0_
  unfold Vk at hs0_
  try dsimp only
  refine Zn [3,9,10,11,12] (Zb Zc [] ?_)
  simp only [push_cast,seval,Za,hN0,hN]
  refine Zf ?_
  refine Zq (t:=(decide (s0_.1 < (a0.length:Int)))) rfl (fun c8 => ?_) (fun c8 => ?_)
  ·replace hs0_:=Zz c8 hs0_
   refine Zt ?_
   try simp only [Zh,Ze]
   refine Zg [3,9,10,11] [true] ?_
   simp only [push_cast,seval]
   refine Zf ?_
   refine Yl ?_
   obtain ⟨x4,hx4,ax4,bx4,cx4,hs0_⟩:=bE (f:=(eL (eI .u64))) U1 (fun _=>rfl) (by decide) hs0_
   refine Zn [3,4,5,9,10,11] (Zb Zc [] ?_)
   simp only [push_cast,Nat.reduceAdd,Nat.reduceSub,Nat.reduceMul,Nat.reduceLeDiff,Nat.reduceLT,Nat.reduceEqDiff,↓reduceIte,reduceCtorEq,Int.reduceBEq,Int.reduceBNe,Nat.reduceBEq,Int.reduceLE,Int.reduceLT,Int.reduceEq,Int.reduceNe,Int.reduceNeg,Nat.reduceDiv,Nat.reduceMod,Nat.reducePow,Za,ax4,bx4,cx4,hN0,hN]
   obtain ⟨y5,hy5,hs0_⟩:=bC hs0_
   obtain ⟨x6,hx6,ax6,bx6,cx6,hs0_⟩:=bE (f:=(eL (eI .u64))) U1 (fun _=>rfl) (by decide) hs0_
   have gu7:Uh (fl (eL (eI .u64)) s0_.2) [.sl y5.length (fl (eI .u64) y5)] (Int.toNat s0_.1 * 1)=some (fl (eL (eI .u64)) (Y5 s0_.2 s0_.1 y5)):=Zeg (f:=(eL (eI .u64))) (ti:=⟨.bool,1,0,[],false⟩) (x:=y5) (fun _=>rfl) (Zax hx6)
   refine Zb Zc [] ?_
   simp only [push_cast,Nat.reduceAdd,Nat.reduceSub,Nat.reduceMul,Nat.reduceLeDiff,Nat.reduceLT,Nat.reduceEqDiff,↓reduceIte,reduceCtorEq,Int.reduceBEq,Int.reduceBNe,Nat.reduceBEq,Int.reduceLE,Int.reduceLT,Int.reduceEq,Int.reduceNe,Int.reduceNeg,Nat.reduceDiv,Nat.reduceMod,Nat.reducePow,Za,ax6,bx6,cx6,gu7,hN0,hN]
   refine (Zcz hy5).then ?_
   simp only [push_cast,Nat.reduceAdd,Nat.reduceSub,Nat.reduceMul,Nat.reduceLeDiff,Nat.reduceLT,Nat.reduceEqDiff,↓reduceIte,reduceCtorEq,Int.reduceBEq,Int.reduceBNe,Nat.reduceBEq,Int.reduceLE,Int.reduceLT,Int.reduceEq,Int.reduceNe,Int.reduceNeg,Nat.reduceDiv,Nat.reduceMod,Nat.reducePow,Za,ax6,bx6,cx6,gu7,hN0,hN]
   refine Zg [3,9,10,11] [true] ?_
   simp only [push_cast,seval]
   refine Zb Zc [] ?_
   simp only [push_cast,seval,Za,hN0,hN]
   have hs0_:=Option.some.inj hs0_;subst hs0_
   refine And.intro rfl (Fit2.of (Zp hU rfl rfl ?_) (by omega))
   simp only [push_cast,seval,Za,hN0,hN]
  replace hs0_:=Zy c8 hs0_
  refine X9 ?_
  try simp only [Zh,Ze,↓reduceIte,Nat.reduceEqDiff]
  have hs0_:=Option.some.inj hs0_;subst hs0_
  refine And.intro (fun h=>by cases h) (And.intro rfl (Fit2.of (Zp hU rfl rfl ?_) (by omega)))
  simp only [push_cast,seval,Za,hN0,hN]
 try simp only [Zh,Ze,↓reduceIte,Nat.reduceEqDiff]
 refine Zg [3] [true] ?_
 simp only [push_cast,seval]
 refine Zn [2] (Zb Zc [] ?_)
 simp only [push_cast,seval,Za,hN0,hN]
 refine Zv ?_
 try simp only [Zh,Ze]
 have h:=Option.some.inj h;subst h
 refine Zo (.inr rfl) hU [.row n z9.length] (by omega) ?_
 simp only [push_cast,seval,Za,Try.results33,hN0,hN]
theorem Jl {a0:(Option Zr)} {a1:Int} {r:Bool} {O:Objs} {n:Nat} (h:J0 a0 a1=some r):GTo Try.prog 124 [(gP Zx a0),.val (.int .i64 a1)] O n (.val (.bool r)) O n:=by
 unfold J0 at h
 refine Yi Zc Try.call124 Try.func124 rfl (Nat.le_of_ble_eq_true rfl) (Nat.le_refl _) fun hU => ?_
 have hN0:O n=none:=hU.fresh _ (Nat.le_refl _)
 have hN:∀ k,O (n+k)=none:=fun k=>hU.fresh _ (Nat.le_add_right _ _)
 show W _ _ _ _ ⟨13,[],[(0,(gP Zx a0)),(1,.val (.int .i64 a1))]⟩ (Z4 O n []) _
 refine Zn [0,1] (Zb Zc [] ?_)
 simp only [push_cast,seval,Za,hN0,hN]
 obtain ⟨z2,hz2,h⟩:=bC h
 refine Yt (E':=⟨13,[],[(4,.val (.bool z2))]⟩) (O':=(Z4 O n [])) (n0:=n) ?_ ?_
 ·rcases Bool.eq_false_or_eq_true (decide (0≤a1)) with c5 | c5
  ·replace hz2:=Zz c5 hz2
   obtain ⟨y4,hy4,hz2⟩:=bC hz2
   refine Zb Zc (Zx6 []) ?_
   simp only [push_cast,seval,Za,c5,hN0,hN]
   refine (Zn7 hy4).then ?_
   simp only [push_cast,seval,Za,c5,hN0,hN]
   have hz2:=Option.some.inj hz2;subst hz2
   refine And.intro rfl (Fit2.of (Zp hU rfl rfl ?_) (by omega))
   simp only [push_cast,seval,Za,c5,hN0,hN]
  replace hz2:=Zy c5 hz2
  refine Zb Zc (Z1u []) ?_
  simp only [push_cast,seval,Za,c5,hN0,hN]
  have hz2:=Option.some.inj hz2;subst hz2
  refine And.intro rfl (Fit2.of (Zp hU rfl rfl ?_) (by omega))
  simp only [push_cast,seval,Za,c5,hN0,hN]
 refine Zv ?_
 try simp only [Zh,Ze]
 have h:=Option.some.inj h;subst h
 refine Zo (.inr rfl) hU [.val (.bool z2)] (by omega) ?_
 simp only [push_cast,seval,Za,Try.results124,hN0,hN]
theorem Zat {a0:(Option Zr)} {a1:Int} {r:Int} {O:Objs} {n:Nat} (h:Ki a0 a1=some r):GTo Try.prog 147 [(gP Zx a0),.val (.int .i64 a1)] O n (.val (.int .i64 r)) O n:=by
 unfold Ki at h
 refine Yi Zc Try.call147 Try.func147 rfl (Nat.le_of_ble_eq_true rfl) (Nat.le_refl _) fun hU => ?_
 have hN0:O n=none:=hU.fresh _ (Nat.le_refl _)
 have hN:∀ k,O (n+k)=none:=fun k=>hU.fresh _ (Nat.le_add_right _ _)
 show W _ _ _ _ ⟨17,[],[(0,(gP Zx a0)),(1,.val (.int .i64 a1))]⟩ (Z4 O n []) _
 refine Zn [0,1] (Zb Zc [] ?_)
 simp only [push_cast,seval,Za,hN0,hN]
 refine Zf ?_
 refine Zf ?_
 obtain ⟨y2,hy2,h⟩:=bC h
 refine Zb Zc [] ?_
 simp only [push_cast,seval,Za,hN0,hN]
 refine (Jl hy2).then ?_
 simp only [push_cast,seval,Za,hN0,hN]
 refine Zg [0,1,8] [] ?_
 simp only [push_cast,seval]
 refine Zq (t:=(!y2)) rfl (fun c7 => ?_) (fun c7 => ?_)
 ·replace h:=Zz c7 h
  refine Zn [4] (Zb Zc [] ?_)
  simp only [push_cast,seval,Za,hN0,hN]
  refine Zv ?_
  try simp only [Zh,Ze]
  have h:=Option.some.inj h;subst h
  refine Zo (.inr rfl) hU [.val (.int .i64 0)] (by omega) ?_
  simp only [push_cast,seval,Za,Try.results147,hN0,hN]
 replace h:=Zy c7 h
 refine Zt ?_
 try simp only [Zh,Ze]
 refine Zg [0,1] [] ?_
 simp only [push_cast,seval]
 obtain ⟨x5,hx5,h⟩:=bC h
 obtain ⟨x6,hx6,ax6,bx6,cx6,h⟩:=bE (f:=(eL (eI .u64))) U1 (fun _=>rfl) (by decide) h
 refine Zn [4] (Zb Zc [] ?_)
 simp only [push_cast,Nat.reduceAdd,Nat.reduceSub,Nat.reduceMul,Nat.reduceLeDiff,Nat.reduceLT,Nat.reduceEqDiff,↓reduceIte,reduceCtorEq,Int.reduceBEq,Int.reduceBNe,Nat.reduceBEq,Int.reduceLE,Int.reduceLT,Int.reduceEq,Int.reduceNe,Int.reduceNeg,Nat.reduceDiv,Nat.reduceMod,Nat.reducePow,Za,hx5,ax6,bx6,cx6,hN0,hN]
 refine Zv ?_
 try simp only [Zh,Ze]
 have h:=Option.some.inj h;subst h
 refine Zo (.inr rfl) hU [.val (.int .i64 (x6.length:Int))] (by omega) ?_
 simp only [push_cast,seval,Za,Try.results147,hN0,hN]
theorem Za8 {a0:(Option Zr)} {a1:Int} {a2:Int} {a3:Int} {r:Bool} {O:Objs} {n:Nat} (h:Ju a0 a1 a2 a3=some r):GTo Try.prog 141 [(gP Zx a0),.val (.int .i64 a1),.val (.int .i64 a2),.val (.int .i64 a3)] O n (.val (.bool r)) O n:=by
 unfold Ju at h
 refine Yi Zc Try.call141 Try.func141 rfl (Nat.le_of_ble_eq_true rfl) (Nat.le_refl _) fun hU => ?_
 have hN0:O n=none:=hU.fresh _ (Nat.le_refl _)
 have hN:∀ k,O (n+k)=none:=fun k=>hU.fresh _ (Nat.le_add_right _ _)
 show W _ _ _ _ ⟨36,[],[(0,(gP Zx a0)),(1,.val (.int .i64 a1)),(2,.val (.int .i64 a2)),(3,.val (.int .i64 a3))]⟩ (Z4 O n []) _
 refine Zn [0,1,2,3] (Zb Zc [] ?_)
 simp only [push_cast,seval,Za,hN0,hN]
 obtain ⟨z4,hz4,h⟩:=bC h
 refine Yt (E':=⟨36,[],[(8,.val (.bool z4))]⟩) (O':=(Z4 O n [])) (n0:=n) ?_ ?_
 ·obtain ⟨y8,hy8,hz4⟩:=bC hz4
  rcases Bool.eq_false_or_eq_true y8 with c11 | c11
  ·replace hz4:=Zz c11 hz4
   rcases Bool.eq_false_or_eq_true (decide (0≤a2)) with c12 | c12
   ·replace hz4:=Zz c12 hz4
    try rw [c12] at c11
    rcases Bool.eq_false_or_eq_true (decide (0≤a3)) with c13 | c13
    ·replace hz4:=Zz c13 hz4
     try rw [c13] at c11
     try rw [c13] at c12
     obtain ⟨y9,hy9,hz4⟩:=bC hz4
     rcases Bool.eq_false_or_eq_true (decide (a3≤y9)) with c14 | c14
     ·replace hz4:=Zz c14 hz4
      try rw [c14] at c11
      try rw [c14] at c12
      try rw [c14] at c13
      obtain ⟨y10,hy10,hz4⟩:=bC hz4
      refine Zb Zc (Z65 (Zz8 [])) ?_
      simp only [push_cast,seval,Za,c11,c12,c13,c14,hN0,hN]
      repeat (with_reducible refine And.intro (by first | (intro h0;simp only [h0];done) | (intro h0;simp only [h0,true_and,and_true,imp_self,implies_true,ne_eq];done) | (intros;simp_all;done) | exact True.intro) ?_)
      refine (Jl hy8).then ?_
      simp only [push_cast,seval,Za,c11,c12,c13,c14,hN0,hN]
      repeat (with_reducible refine And.intro (by first | (intro h0;simp only [h0];done) | (intro h0;simp only [h0,true_and,and_true,imp_self,implies_true,ne_eq];done) | (intros;simp_all;done) | exact True.intro) ?_)
      refine (Zat hy9).then ?_
      simp only [push_cast,seval,Za,c11,c12,c13,c14,hN0,hN]
      repeat (with_reducible refine And.intro (by first | (intro h0;simp only [h0];done) | (intro h0;simp only [h0,true_and,and_true,imp_self,implies_true,ne_eq];done) | (intros;simp_all;done) | exact True.intro) ?_)
      refine (Zat hy10).then ?_
      simp only [push_cast,seval,Za,c11,c12,c13,c14,hN0,hN]
      repeat (with_reducible refine And.intro (by first | (intro h0;simp only [h0];done) | (intro h0;simp only [h0,true_and,and_true,imp_self,implies_true,ne_eq];done) | (intros;simp_all;done) | exact True.intro) ?_)
      have hz4:=Option.some.inj hz4;subst hz4
      refine And.intro rfl (Fit2.of (Zp hU rfl rfl ?_) (by omega))
      simp only [push_cast,seval,Za,c11,c12,c13,c14,hN0,hN]
     replace hz4:=Zy c14 hz4
     try rw [c14] at c11
     try rw [c14] at c12
     try rw [c14] at c13
     refine Zb Zc (Z65 (Ycq (Z63 []))) ?_
     simp only [push_cast,seval,Za,c11,c12,c13,c14,hN0,hN]
     repeat (with_reducible refine And.intro (by first | (intro h0;simp only [h0];done) | (intro h0;simp only [h0,true_and,and_true,imp_self,implies_true,ne_eq];done) | (intros;simp_all;done) | exact True.intro) ?_)
     refine (Jl hy8).then ?_
     simp only [push_cast,seval,Za,c11,c12,c13,c14,hN0,hN]
     repeat (with_reducible refine And.intro (by first | (intro h0;simp only [h0];done) | (intro h0;simp only [h0,true_and,and_true,imp_self,implies_true,ne_eq];done) | (intros;simp_all;done) | exact True.intro) ?_)
     refine (Zat hy9).then ?_
     simp only [push_cast,seval,Za,c11,c12,c13,c14,hN0,hN]
     repeat (with_reducible refine And.intro (by first | (intro h0;simp only [h0];done) | (intro h0;simp only [h0,true_and,and_true,imp_self,implies_true,ne_eq];done) | (intros;simp_all;done) | exact True.intro) ?_)
     have hz4:=Option.some.inj hz4;subst hz4
     refine And.intro rfl (Fit2.of (Zp hU rfl rfl ?_) (by omega))
     simp only [push_cast,seval,Za,c11,c12,c13,c14,hN0,hN]
    replace hz4:=Zy c13 hz4
    try rw [c13] at c11
    try rw [c13] at c12
    refine Zb Zc (Z65 (Zt7 [])) ?_
    simp only [push_cast,seval,Za,c11,c12,c13,hN0,hN]
    repeat (with_reducible refine And.intro (by first | (intro h0;simp only [h0];done) | (intro h0;simp only [h0,true_and,and_true,imp_self,implies_true,ne_eq];done) | (intros;simp_all;done) | exact True.intro) ?_)
    refine (Jl hy8).then ?_
    simp only [push_cast,seval,Za,c11,c12,c13,hN0,hN]
    repeat (with_reducible refine And.intro (by first | (intro h0;simp only [h0];done) | (intro h0;simp only [h0,true_and,and_true,imp_self,implies_true,ne_eq];done) | (intros;simp_all;done) | exact True.intro) ?_)
    have hz4:=Option.some.inj hz4;subst hz4
    refine And.intro rfl (Fit2.of (Zp hU rfl rfl ?_) (by omega))
    simp only [push_cast,seval,Za,c11,c12,c13,hN0,hN]
   replace hz4:=Zy c12 hz4
   try rw [c12] at c11
   refine Zb Zc (Z65 (Zt7 [])) ?_
   simp only [push_cast,seval,Za,c11,c12,hN0,hN]
   repeat (with_reducible refine And.intro (by first | (intro h0;simp only [h0];done) | (intro h0;simp only [h0,true_and,and_true,imp_self,implies_true,ne_eq];done) | (intros;simp_all;done) | exact True.intro) ?_)
   refine (Jl hy8).then ?_
   simp only [push_cast,seval,Za,c11,c12,hN0,hN]
   repeat (with_reducible refine And.intro (by first | (intro h0;simp only [h0];done) | (intro h0;simp only [h0,true_and,and_true,imp_self,implies_true,ne_eq];done) | (intros;simp_all;done) | exact True.intro) ?_)
   have hz4:=Option.some.inj hz4;subst hz4
   refine And.intro rfl (Fit2.of (Zp hU rfl rfl ?_) (by omega))
   simp only [push_cast,seval,Za,c11,c12,hN0,hN]
  replace hz4:=Zy c11 hz4
  refine Zb Zc (Z65 (Zt7 [])) ?_
  simp only [push_cast,seval,Za,c11,hN0,hN]
  repeat (with_reducible refine And.intro (by first | (intro h0;simp only [h0];done) | (intro h0;simp only [h0,true_and,and_true,imp_self,implies_true,ne_eq];done) | (intros;simp_all;done) | exact True.intro) ?_)
  refine (Jl hy8).then ?_
  simp only [push_cast,seval,Za,c11,hN0,hN]
  repeat (with_reducible refine And.intro (by first | (intro h0;simp only [h0];done) | (intro h0;simp only [h0,true_and,and_true,imp_self,implies_true,ne_eq];done) | (intros;simp_all;done) | exact True.intro) ?_)
  have hz4:=Option.some.inj hz4;subst hz4
  refine And.intro rfl (Fit2.of (Zp hU rfl rfl ?_) (by omega))
  simp only [push_cast,seval,Za,c11,hN0,hN]
 refine Zv ?_
 try simp only [Zh,Ze]
 have h:=Option.some.inj h;subst h
 refine Zo (.inr rfl) hU [.val (.bool z4)] (by omega) ?_
 simp only [push_cast,seval,Za,Try.results141,hN0,hN]
theorem Vu {a0:(Option Zr)} {a1:Int} {a2:Int} {r:(Int×Bool)} {O:Objs} {n:Nat} (h:Qd a0 a1 a2=some r):GTo Try.prog 132 [(gP Zx a0),.val (.int .i64 a1),.val (.int .i64 a2)] O n (.tup [.val (.int .u64 r.1),.val (.bool r.2)]) O n:=by
 unfold Qd at h
 refine Yi Zc Try.call132 Try.func132 rfl (Nat.le_of_ble_eq_true rfl) (Nat.le_refl _) fun hU => ?_
 have hN0:O n=none:=hU.fresh _ (Nat.le_refl _)
 have hN:∀ k,O (n+k)=none:=fun k=>hU.fresh _ (Nat.le_add_right _ _)
 show W _ _ _ _ ⟨23,[],[(0,(gP Zx a0)),(1,.val (.int .i64 a1)),(2,.val (.int .i64 a2))]⟩ (Z4 O n []) _
 refine Zn [0,1,2] (Zb Zc [] ?_)
 simp only [push_cast,seval,Za,hN0,hN]
 refine Zf ?_
 refine Zf ?_
 obtain ⟨y2,hy2,h⟩:=bC h
 refine Zb Zc [] ?_
 simp only [push_cast,seval,Za,hN0,hN]
 refine (Za8 hy2).then ?_
 simp only [push_cast,seval,Za,hN0,hN]
 refine Zg [0,1,2,12] [] ?_
 simp only [push_cast,seval]
 refine Zq (t:=(!y2)) rfl (fun c9 => ?_) (fun c9 => ?_)
 ·replace h:=Zz c9 h
  refine Zn [6,7] (Zb Zc [] ?_)
  simp only [push_cast,seval,Za,hN0,hN]
  refine Zv ?_
  try simp only [Zh,Ze]
  have h:=Option.some.inj h;subst h
  refine Zo (.inr rfl) hU [.val (.int .u64 0),.val (.bool false)] (by omega) ?_
  simp only [push_cast,seval,Za,Try.results132,hN0,hN]
 replace h:=Zy c9 h
 refine Zt ?_
 try simp only [Zh,Ze]
 refine Zg [0,1,2] [] ?_
 simp only [push_cast,seval]
 obtain ⟨x6,hx6,h⟩:=bC h
 obtain ⟨x7,hx7,ax7,bx7,cx7,h⟩:=bE (f:=(eL (eI .u64))) U1 (fun _=>rfl) (by decide) h
 obtain ⟨x8,hx8,ax8,bx8,cx8,h⟩:=bE (f:=(eI .u64)) Vz (fun _=>rfl) (by decide) h
 refine Zn [6,7] (Zb Zc [] ?_)
 simp only [push_cast,Nat.reduceAdd,Nat.reduceSub,Nat.reduceMul,Nat.reduceLeDiff,Nat.reduceLT,Nat.reduceEqDiff,↓reduceIte,reduceCtorEq,Int.reduceBEq,Int.reduceBNe,Nat.reduceBEq,Int.reduceLE,Int.reduceLT,Int.reduceEq,Int.reduceNe,Int.reduceNeg,Nat.reduceDiv,Nat.reduceMod,Nat.reducePow,Za,hx6,ax7,bx7,cx7,ax8,bx8,cx8,hN0,hN]
 refine Zv ?_
 try simp only [Zh,Ze]
 have h:=Option.some.inj h;subst h
 refine Zo (.inr rfl) hU [.val (.int .u64 x8),.val (.bool true)] (by omega) ?_
 simp only [push_cast,seval,Za,Try.results132,hN0,hN]
theorem Zn9 {a0:(List Int)} {a1:(List Int)} {r:Bool} {O:Objs} {n:Nat} (h:V5 a0 a1=some r):GTo Try.prog 32 [.sl a0.length (fl (eI .u64) a0),.sl a1.length (fl (eI .u64) a1)] O n (.val (.bool r)) O n:=by
 unfold V5 at h
 refine Yi Zc Try.call32 Try.func32 rfl (Nat.le_of_ble_eq_true rfl) (Nat.le_refl _) fun hU => ?_
 have hN0:O n=none:=hU.fresh _ (Nat.le_refl _)
 have hN:∀ k,O (n+k)=none:=fun k=>hU.fresh _ (Nat.le_add_right _ _)
 show W _ _ _ _ ⟨26,[],[(0,.sl a0.length (fl (eI .u64) a0)),(1,.sl a1.length (fl (eI .u64) a1))]⟩ (Z4 O n []) _
 refine Zn [0,1] (Zb Zc [] ?_)
 simp only [push_cast,seval,Za,hN0,hN]
 refine Zf ?_
 refine Zn [0,1,10] (Zb Zc [] ?_)
 simp only [push_cast,seval,Za,hN0,hN]
 refine Zq (t:=((a0.length:Int) != (a1.length:Int))) rfl (fun c8 => ?_) (fun c8 => ?_)
 ·replace h:=Zz c8 h
  refine Zn [4] (Zb Zc [] ?_)
  simp only [push_cast,seval,Za,hN0,hN]
  refine Zv ?_
  try simp only [Zh,Ze]
  have h:=Option.some.inj h;subst h
  refine Zo (.inr rfl) hU [.val (.bool false)] (by omega) ?_
  simp only [push_cast,seval,Za,Try.results32,hN0,hN]
 replace h:=Zy c8 h
 refine Zt ?_
 try simp only [Zh,Ze]
 refine Zg [0,1] [] ?_
 simp only [push_cast,seval]
 refine Zf ?_
 refine Zn [0,1,5] (Zb Zc [] ?_)
 simp only [push_cast,seval,Za,hN0,hN]
 refine Zg [0,1,5] [] ?_
 simp only [push_cast,seval]
 obtain ⟨z7,hz7,h⟩:=bC h
 refine Za6 (J:=(Qu (fun z7=>JR n (⟨26,[],[(4,.val (.bool false))]⟩:Env) (Z4 O n []) n) (fun z7=>JX 0 n (⟨26,[],[]⟩:Env) (Z4 O n []) n))) (z:=z7) ?_ fun hw => ?_
 ·refine Xp hz7 (fun s0_=>⟨26,[],[(0,.sl a0.length (fl (eI .u64) a0)),(1,.sl a1.length (fl (eI .u64) a1)),(5,.val (.int .i64 s0_))]⟩) (fun s0_=>(Z4 O n [])) (Qu (fun z7=>JR n (⟨26,[],[(4,.val (.bool false))]⟩:Env) (Z4 O n []) n) (fun z7=>JX 0 n (⟨26,[],[]⟩:Env) (Z4 O n []) n)) ?_
  intro s0_ x0_ hs0_
  unfold Kx at hs0_
  try dsimp only
  refine Zf ?_
  refine Zn [0,1,5,14] (Zb Zc [] ?_)
  simp only [push_cast,seval,Za,hN0,hN]
  refine Zq (t:=(decide (s0_ < (a0.length:Int)))) rfl (fun c6 => ?_) (fun c6 => ?_)
  ·replace hs0_:=Zz c6 hs0_
   refine Zt ?_
   try simp only [Zh,Ze]
   refine Zg [0,1,5] [] ?_
   simp only [push_cast,seval]
   refine Zf ?_
   refine Yl ?_
   obtain ⟨x3,hx3,ax3,bx3,cx3,hs0_⟩:=bE (f:=(eI .u64)) Vz (fun _=>rfl) (by decide) hs0_
   obtain ⟨x4,hx4,ax4,bx4,cx4,hs0_⟩:=bE (f:=(eI .u64)) Vz (fun _=>rfl) (by decide) hs0_
   refine Zn [0,1,5,25] (Y1 Zc (by kernel_rfl) [] (by kernel_rfl) ?_)
   simp only [push_cast,Nat.reduceAdd,Nat.reduceSub,Nat.reduceMul,Nat.reduceLeDiff,Nat.reduceLT,Nat.reduceEqDiff,↓reduceIte,reduceCtorEq,Int.reduceBEq,Int.reduceBNe,Nat.reduceBEq,Int.reduceLE,Int.reduceLT,Int.reduceEq,Int.reduceNe,Int.reduceNeg,Nat.reduceDiv,Nat.reduceMod,Nat.reducePow,Za,ax3,bx3,cx3,ax4,bx4,cx4,hN0,hN]
   refine Zq (t:=(x3 != x4)) rfl (fun c5 => ?_) (fun c5 => ?_)
   ·replace hs0_:=Zz c5 hs0_
    refine Zn [4] (Zb Zc [] ?_)
    simp only [push_cast,seval,Za,hN0,hN]
    refine Zv ?_
    try simp only [Zh,Ze]
    have hs0_:=Option.some.inj hs0_;subst hs0_
    refine And.intro (fun h=>by cases h) (And.intro rfl (Fit2.of (Zp hU rfl rfl ?_) (by omega)))
    simp only [push_cast,seval,Za,hN0,hN]
   replace hs0_:=Zy c5 hs0_
   refine Zt ?_
   try simp only [Zh,Ze]
   refine Zg [0,1,5] [] ?_
   simp only [push_cast,seval]
   refine Zb Zc [] ?_
   simp only [push_cast,seval,Za,hN0,hN]
   have hs0_:=Option.some.inj hs0_;subst hs0_
   refine And.intro rfl (Fit2.of (Zp hU rfl rfl ?_) (by omega))
   simp only [push_cast,seval,Za,hN0,hN]
  replace hs0_:=Zy c6 hs0_
  refine X9 ?_
  try simp only [Zh,Ze,↓reduceIte,Nat.reduceEqDiff]
  have hs0_:=Option.some.inj hs0_;subst hs0_
  refine And.intro (fun h=>by cases h) (And.intro rfl (Fit2.of (Zp hU rfl rfl ?_) (by omega)))
  simp only [push_cast,seval,Za,hN0,hN]
 rcases z7 with z7 | z7
 ·dsimp only [Qu] at hw h
  refine Vn hw ?_
  try simp only [Zh,Ze,↓reduceIte,Nat.reduceEqDiff]
  have h:=Option.some.inj h;subst h
  refine Zo (.inr rfl) hU [.val (.bool false)] (by omega) ?_
  simp only [push_cast,seval,Za,Try.results32,hN0,hN]
 dsimp only [Qu] at hw h
 refine Y2 hw ?_
 try simp only [Zh,Ze,↓reduceIte,Nat.reduceEqDiff]
 refine Zg [] [] ?_
 simp only [push_cast,seval]
 refine Zn [4] (Zb Zc [] ?_)
 simp only [push_cast,seval,Za,hN0,hN]
 refine Zv ?_
 try simp only [Zh,Ze]
 have h:=Option.some.inj h;subst h
 refine Zo (.inr rfl) hU [.val (.bool true)] (by omega) ?_
 simp only [push_cast,seval,Za,Try.results32,hN0,hN]
theorem Zif {Jp:(Zi→Int→Int→Option Int)} (Zgw:∀ {a0:Zi} {a1:Int} {a2:Int} {r:Int} {O:Objs} {n:Nat},Jp a0 a1 a2=some r→GTo Try.prog 21 [.agg (Zm a0),.val (.int .i64 a1),.val (.int .i64 a2)] O n (.val (.int .i64 r)) O n) {a0:Zi} {a1:Int} {a2:Int} {r:Int} {O:Objs} {n:Nat} (h:Xx Jp a0 a1 a2=some r):GTo Try.prog 21 [.agg (Zm a0),.val (.int .i64 a1),.val (.int .i64 a2)] O n (.val (.int .i64 r)) O n:=by
 unfold Xx at h
 refine Yi Zc Try.call21 Try.func21 rfl (Nat.le_of_ble_eq_true rfl) (Nat.le_refl _) fun hU => ?_
 have hN0:O n=none:=hU.fresh _ (Nat.le_refl _)
 have hN:∀ k,O (n+k)=none:=fun k=>hU.fresh _ (Nat.le_add_right _ _)
 show W _ _ _ _ ⟨41,[],[(0,.agg (Zm a0)),(1,.val (.int .i64 a1)),(2,.val (.int .i64 a2))]⟩ (Z4 O n []) _
 refine Zn [1,2,3] (Zb Zc [] ?_)
 simp only [push_cast,seval,Za,hN0,hN]
 refine Zn [1,2,3] (Zb Zc [] ?_)
 simp only [push_cast,seval,Za,hN0,hN]
 refine Zf ?_
 refine Zn [1,2,3,19] (Zb Zc [none,none] ?_)
 simp only [push_cast,seval,Za,hN0,hN]
 repeat (with_reducible refine And.intro (by first | (intro h0;simp only [h0];done) | (intro h0;simp only [h0,true_and,and_true,imp_self,implies_true,ne_eq,beq_iff_eq];done) | (intros;simp_all;done) | exact True.intro) ?_)
 refine Zq (t:=(cond (a1 == 0) true (decide ((IntKind.i64.wrap ((IntKind.i64.wrap (a2 - 1)) - (a0.Words.length:Int))) < 0)))) rfl (fun c5 => ?_) (fun c5 => ?_)
 ·replace h:=Zz c5 h
  refine Zn [6] (Zb Zc [] ?_)
  simp only [push_cast,seval,Za,hN0,hN]
  refine Zv ?_
  try simp only [Zh,Ze]
  have h:=Option.some.inj h;subst h
  refine Zo (.inr rfl) hU [.val (.int .i64 (-1))] (by omega) ?_
  simp only [push_cast,seval,Za,Try.results21,hN0,hN]
 replace h:=Zy c5 h
 refine Zt ?_
 try simp only [Zh,Ze]
 refine Zg [1,2,3] [true] ?_
 simp only [push_cast,seval]
 refine Zf ?_
 refine Zn [1,2,3,7] (Zb Zc [] ?_)
 simp only [push_cast,seval,Za,hN0,hN]
 refine Zg [1,2,3,7] [true] ?_
 simp only [push_cast,seval]
 obtain ⟨z4,hz4,h⟩:=bC h
 refine Y2 (E':=⟨41,[],[(2,.val (.int .i64 z4))]⟩) (O':=(Z4 O n [none])) (n0:=(n+1)) ?_ ?_
 ·refine Xp hz4 (fun s0_=>⟨41,[],[(1,.val (.int .i64 a1)),(2,.val (.int .i64 s0_.1)),(3,.ref n 0),(7,.val (.int .i64 s0_.2))]⟩) (fun s0_=>(Z4 O n [some ⟨false,25,3,1,(Zm a0)⟩])) (fun z4=>JX 0 n (⟨41,[],[(2,.val (.int .i64 z4))]⟩:Env) (Z4 O n [none]) (n+1)) ?_
  intro s0_ x0_ hs0_
  unfold Xs at hs0_
  try dsimp only
  refine Zf ?_
  refine Zn [1,2,3,7,28] (Zb Zc [none,none] ?_)
  simp only [push_cast,seval,Za,hN0,hN]
  repeat (with_reducible refine And.intro (by first | (intro h0;simp only [h0];done) | (intro h0;simp only [h0,true_and,and_true,imp_self,implies_true,ne_eq,beq_iff_eq];done) | (intros;simp_all;done) | exact True.intro) ?_)
  refine Zq (t:=(cond (decide (s0_.2 < (a0.Kids.length:Int))) (decide (0≤s0_.1)) false)) rfl (fun c3 => ?_) (fun c3 => ?_)
  ·replace hs0_:=Zz c3 hs0_
   refine Zt ?_
   try simp only [Zh,Ze]
   refine Zg [1,2,3,7] [true] ?_
   simp only [push_cast,seval]
   refine Zf ?_
   refine Yl ?_
   obtain ⟨x1,hx1,ax1,bx1,cx1,hs0_⟩:=bE (f:=Zl) Za3 (fun _=>rfl) (by decide) hs0_
   obtain ⟨y2,hy2,hs0_⟩:=bC hs0_
   refine Zb Zc [] ?_
   simp only [push_cast,Nat.reduceAdd,Nat.reduceSub,Nat.reduceMul,Nat.reduceLeDiff,Nat.reduceLT,Nat.reduceEqDiff,↓reduceIte,reduceCtorEq,Int.reduceBEq,Int.reduceBNe,Nat.reduceBEq,Int.reduceLE,Int.reduceLT,Int.reduceEq,Int.reduceNe,Int.reduceNeg,Nat.reduceDiv,Nat.reduceMod,Nat.reducePow,Za,ax1,bx1,cx1,hN0,hN]
   refine (Zgw hy2).then ?_
   simp only [push_cast,Nat.reduceAdd,Nat.reduceSub,Nat.reduceMul,Nat.reduceLeDiff,Nat.reduceLT,Nat.reduceEqDiff,↓reduceIte,reduceCtorEq,Int.reduceBEq,Int.reduceBNe,Nat.reduceBEq,Int.reduceLE,Int.reduceLT,Int.reduceEq,Int.reduceNe,Int.reduceNeg,Nat.reduceDiv,Nat.reduceMod,Nat.reducePow,Za,ax1,bx1,cx1,hN0,hN]
   refine Zg [1,2,3,7] [true] ?_
   simp only [push_cast,seval]
   refine Zb Zc [] ?_
   simp only [push_cast,seval,Za,hN0,hN]
   have hs0_:=Option.some.inj hs0_;subst hs0_
   refine And.intro rfl (Fit2.of (Zp hU rfl rfl ?_) (by omega))
   simp only [push_cast,seval,Za,hN0,hN]
  replace hs0_:=Zy c3 hs0_
  refine X9 ?_
  try simp only [Zh,Ze,↓reduceIte,Nat.reduceEqDiff]
  have hs0_:=Option.some.inj hs0_;subst hs0_
  refine And.intro (fun h=>by cases h) (And.intro rfl (Fit2.of (Zp hU rfl rfl ?_) (by omega)))
  simp only [push_cast,seval,Za,hN0,hN]
 try simp only [Zh,Ze,↓reduceIte,Nat.reduceEqDiff]
 refine Zg [2] [false] ?_
 simp only [push_cast,seval]
 refine Zn [6] (Zb Zc [] ?_)
 simp only [push_cast,seval,Za,hN0,hN]
 refine Zv ?_
 try simp only [Zh,Ze]
 have h:=Option.some.inj h;subst h
 refine Zo (.inr rfl) hU [.val (.int .i64 z4)] (by omega) ?_
 simp only [push_cast,seval,Za,Try.results21,hN0,hN]
theorem Zf7:∀ k,(∀ {a0:Zi} {a1:Int} {a2:Int} {r:Int} {O:Objs} {n:Nat},(Ym k) a0 a1 a2=some r→GTo Try.prog 21 [.agg (Zm a0),.val (.int .i64 a1),.val (.int .i64 a2)] O n (.val (.int .i64 r)) O n):=fun k=>by
 induction k with
 | zero=>exact @fun a0 a1 a2 r O n h=>(nomatch (show (none:Option _)=some _ from h))
 | succ k ih=>exact @fun a0 a1 a2 r O n h=>Zif (ih)  h
theorem Zi5 {a0:Zi} {a1:Int} {a2:Int} {r:Int} {O:Objs} {n:Nat} (h:Gw a0 a1 a2=some r):GTo Try.prog 21 [.agg (Zm a0),.val (.int .i64 a1),.val (.int .i64 a2)] O n (.val (.int .i64 r)) O n:=by
 obtain ⟨k,hk⟩:=Ze9 h
 exact (Zf7 k)  hk
theorem Zb4 {a0:Zi} {r:Bool} {O:Objs} {n:Nat} (h:Vl a0=some r):GTo Try.prog 6 [.agg (Zm a0)] O n (.val (.bool r)) O n:=by
 unfold Vl at h
 refine Yi Zc Try.call6 Try.func6 rfl (Nat.le_of_ble_eq_true rfl) (Nat.le_refl _) fun hU => ?_
 have hN0:O n=none:=hU.fresh _ (Nat.le_refl _)
 have hN:∀ k,O (n+k)=none:=fun k=>hU.fresh _ (Nat.le_add_right _ _)
 show W _ _ _ _ ⟨6,[],[(0,.agg (Zm a0))]⟩ (Z4 O n []) _
 refine Zn [1] (Zb Zc [] ?_)
 simp only [push_cast,seval,Za,hN0,hN]
 refine Zf ?_
 obtain ⟨y2,hy2,h⟩:=bC h
 refine Zb Zc [] ?_
 simp only [push_cast,seval,Za,hN0,hN]
 refine (Zi5 hy2).then ?_
 simp only [push_cast,seval,Za,hN0,hN]
 refine Zg [2] [false] ?_
 simp only [push_cast,seval]
 refine Zv ?_
 try simp only [Zh,Ze]
 have h:=Option.some.inj h;subst h
 refine Zo (.inr rfl) hU [.val (.bool (decide (0≤y2)))] (by omega) ?_
 simp only [push_cast,seval,Za,Try.results6,hN0,hN]
theorem Znl {a0:Int} {r:(Int×Bool)} {O:Objs} {n:Nat} (h:Qz a0=some r):GTo Try.prog 127 [.val (.int .i64 a0)] O n (.tup [.val (.int .i64 r.1),.val (.bool r.2)]) O n:=by
 unfold Qz at h
 refine Yi Zc Try.call127 Try.func127 rfl (Nat.le_of_ble_eq_true rfl) (Nat.le_refl _) fun hU => ?_
 have hN0:O n=none:=hU.fresh _ (Nat.le_refl _)
 have hN:∀ k,O (n+k)=none:=fun k=>hU.fresh _ (Nat.le_add_right _ _)
 show W _ _ _ _ ⟨15,[],[(0,.val (.int .i64 a0))]⟩ (Z4 O n []) _
 refine Zn [0] (Zb Zc [] ?_)
 simp only [push_cast,seval,Za,hN0,hN]
 refine Zf ?_
 obtain ⟨y6,hy6,ey6,h⟩:=bY (f:=(eI .i64)) (cs:=[.val (.int .i64 0),.val (.int .i64 1),.val (.int .i64 8),.val (.int .i64 16),.val (.int .i64 32),.val (.int .i64 64)]) rfl h
 have g7:=congrArg G.agg ey6
 obtain ⟨y8,hy8,ey8,h⟩:=bY (f:=(eI .i64)) (cs:=[.val (.int .i64 0),.val (.int .i64 0),.val (.int .i64 0),.val (.int .i64 0),.val (.int .i64 0),.val (.int .i64 0)]) rfl h
 have g9:=congrArg (GObj.mk false 185 6 1) ey8
 have g10:=Ztl (f:=(eI .i64)) y8 y6 (fun _=>rfl)
 refine Zb Zc [] ?_
 simp only [push_cast,seval,Za,g7,g9,g10,hN0,hN]
 refine Zg [0,4] [true] ?_
 simp only [push_cast,seval]
 refine Zf ?_
 refine Zn [0,4,11] (Zb Zc [none,none] ?_)
 simp only [push_cast,seval,Za,hN0,hN]
 repeat (with_reducible refine And.intro (by first | (intro h0;simp only [h0];done) | (intro h0;simp only [h0,true_and,and_true,imp_self,implies_true,ne_eq];done) | (intros;simp_all;done) | exact True.intro) ?_)
 refine Zq (t:=(cond (decide (a0 < 0)) true (decide (6≤a0)))) rfl (fun c13 => ?_) (fun c13 => ?_)
 ·replace h:=Zz c13 h
  refine Zn [2,3] (Zb Zc [] ?_)
  simp only [push_cast,seval,Za,hN0,hN]
  refine Zv ?_
  try simp only [Zh,Ze]
  have h:=Option.some.inj h;subst h
  refine Zo (.inr rfl) hU [.val (.int .i64 0),.val (.bool false)] (by omega) ?_
  simp only [push_cast,seval,Za,Try.results127,hN0,hN]
 replace h:=Zy c13 h
 refine Zt ?_
 try simp only [Zh,Ze]
 refine Zg [0,4] [true] ?_
 simp only [push_cast,seval]
 obtain ⟨x12,hx12,ax12,bx12,cx12,h⟩:=bEA (f:=(eI .i64)) (b:=6) rfl Zok (fun _=>rfl) (by decide) h
 refine Zn [2,3] (Zb Zc [] ?_)
 simp only [push_cast,Nat.reduceAdd,Nat.reduceSub,Nat.reduceMul,Nat.reduceLeDiff,Nat.reduceLT,Nat.reduceEqDiff,↓reduceIte,reduceCtorEq,Int.reduceBEq,Int.reduceBNe,Nat.reduceBEq,Int.reduceLE,Int.reduceLT,Int.reduceEq,Int.reduceNe,Int.reduceNeg,Nat.reduceDiv,Nat.reduceMod,Nat.reducePow,Za,ax12,bx12,cx12,hN0,hN]
 refine Zv ?_
 try simp only [Zh,Ze]
 have h:=Option.some.inj h;subst h
 refine Zo (.inr rfl) hU [.val (.int .i64 x12),.val (.bool true)] (by omega) ?_
 simp only [push_cast,seval,Za,Try.results127,hN0,hN]
theorem Ve {a0:Int} {r:Int} {O:Objs} {n:Nat} (h:Y9 a0=some r):GTo Try.prog 95 [.val (.int .i64 a0)] O n (.val (.int .i64 r)) O n:=by
 unfold Y9 at h
 refine Yi Zc Try.call95 Try.func95 rfl (Nat.le_of_ble_eq_true rfl) (Nat.le_refl _) fun hU => ?_
 have hN0:O n=none:=hU.fresh _ (Nat.le_refl _)
 have hN:∀ k,O (n+k)=none:=fun k=>hU.fresh _ (Nat.le_add_right _ _)
 show W _ _ _ _ ⟨16,[],[(0,.val (.int .i64 a0))]⟩ (Z4 O n []) _
 refine Zn [0] (Zb Zc [] ?_)
 simp only [push_cast,seval,Za,hN0,hN]
 refine Zf ?_
 refine Zn [3] (Zb Zc [] ?_)
 simp only [push_cast,seval,Za,hN0,hN]
 refine Yl ?_
 refine Zn [3,4] (Zb Zc [] ?_)
 simp only [push_cast,seval,Za,hN0,hN]
 refine Zq (t:=(a0 == 0)) rfl (fun c6 => ?_) (fun c6 => ?_)
 ·replace h:=Zz c6 h
  refine Zn [2] (Zb Zc [] ?_)
  simp only [push_cast,seval,Za,hN0,hN]
  refine Zv ?_
  try simp only [Zh,Ze]
  have h:=Option.some.inj h;subst h
  refine Zo (.inr rfl) hU [.val (.int .i64 0)] (by omega) ?_
  simp only [push_cast,seval,Za,Try.results95,hN0,hN]
 replace h:=Zy c6 h
 refine Zn [3,6] (Zb Zc [] ?_)
 simp only [push_cast,seval,Za,hN0,hN]
 refine Zq (t:=(a0 == 1)) rfl (fun c5 => ?_) (fun c5 => ?_)
 ·replace h:=Zz c5 h
  refine Zn [2] (Zb Zc [] ?_)
  simp only [push_cast,seval,Za,hN0,hN]
  refine Zv ?_
  try simp only [Zh,Ze]
  have h:=Option.some.inj h;subst h
  refine Zo (.inr rfl) hU [.val (.int .i64 1)] (by omega) ?_
  simp only [push_cast,seval,Za,Try.results95,hN0,hN]
 replace h:=Zy c5 h
 refine Zn [3,8] (Zb Zc [] ?_)
 simp only [push_cast,seval,Za,hN0,hN]
 refine Zq (t:=(a0 == 2)) rfl (fun c4 => ?_) (fun c4 => ?_)
 ·replace h:=Zz c4 h
  refine Zn [2] (Zb Zc [] ?_)
  simp only [push_cast,seval,Za,hN0,hN]
  refine Zv ?_
  try simp only [Zh,Ze]
  have h:=Option.some.inj h;subst h
  refine Zo (.inr rfl) hU [.val (.int .i64 8)] (by omega) ?_
  simp only [push_cast,seval,Za,Try.results95,hN0,hN]
 replace h:=Zy c4 h
 refine Zn [3,10] (Zb Zc [] ?_)
 simp only [push_cast,seval,Za,hN0,hN]
 refine Zq (t:=(a0 == 3)) rfl (fun c3 => ?_) (fun c3 => ?_)
 ·replace h:=Zz c3 h
  refine Zn [2] (Zb Zc [] ?_)
  simp only [push_cast,seval,Za,hN0,hN]
  refine Zv ?_
  try simp only [Zh,Ze]
  have h:=Option.some.inj h;subst h
  refine Zo (.inr rfl) hU [.val (.int .i64 16)] (by omega) ?_
  simp only [push_cast,seval,Za,Try.results95,hN0,hN]
 replace h:=Zy c3 h
 refine Zn [3,12] (Zb Zc [] ?_)
 simp only [push_cast,seval,Za,hN0,hN]
 refine Zq (t:=(a0 == 4)) rfl (fun c2 => ?_) (fun c2 => ?_)
 ·replace h:=Zz c2 h
  refine Zn [2] (Zb Zc [] ?_)
  simp only [push_cast,seval,Za,hN0,hN]
  refine Zv ?_
  try simp only [Zh,Ze]
  have h:=Option.some.inj h;subst h
  refine Zo (.inr rfl) hU [.val (.int .i64 32)] (by omega) ?_
  simp only [push_cast,seval,Za,Try.results95,hN0,hN]
 replace h:=Zy c2 h
 refine Zn [14] (Zb Zc [] ?_)
 simp only [push_cast,seval,Za,hN0,hN]
 refine Zq (t:=(a0 == 5)) rfl (fun c1 => ?_) (fun c1 => ?_)
 ·replace h:=Zz c1 h
  refine Zn [2] (Zb Zc [] ?_)
  simp only [push_cast,seval,Za,hN0,hN]
  refine Zv ?_
  try simp only [Zh,Ze]
  have h:=Option.some.inj h;subst h
  refine Zo (.inr rfl) hU [.val (.int .i64 64)] (by omega) ?_
  simp only [push_cast,seval,Za,Try.results95,hN0,hN]
 replace h:=Zy c1 h
 refine Zt ?_
 try simp only [Zh,Ze]
 refine Zg [] [] ?_
 simp only [push_cast,seval]
 refine Zn [2] (Zb Zc [] ?_)
 simp only [push_cast,seval,Za,hN0,hN]
 refine Zv ?_
 try simp only [Zh,Ze]
 have h:=Option.some.inj h;subst h
 refine Zo (.inr rfl) hU [.val (.int .i64 (-1))] (by omega) ?_
 simp only [push_cast,seval,Za,Try.results95,hN0,hN]
theorem Zba {a0:Int} {a1:Int} {r:Bool} {O:Objs} {n:Nat} (h:Jw a0 a1=some r):GTo Try.prog 55 [.val (.int .i64 a0),.val (.int .u64 a1)] O n (.val (.bool r)) O n:=by
 unfold Jw at h
 refine Yi Zc Try.call55 Try.func55 rfl (Nat.le_of_ble_eq_true rfl) (Nat.le_refl _) fun hU => ?_
 have hN0:O n=none:=hU.fresh _ (Nat.le_refl _)
 have hN:∀ k,O (n+k)=none:=fun k=>hU.fresh _ (Nat.le_add_right _ _)
 show W _ _ _ _ ⟨20,[],[(0,.val (.int .i64 a0)),(1,.val (.int .u64 a1))]⟩ (Z4 O n []) _
 refine Zn [0,1] (Zb Zc [] ?_)
 simp only [push_cast,seval,Za,hN0,hN]
 refine Zf ?_
 obtain ⟨y2,hy2,h⟩:=bC h
 refine Zb Zc [] ?_
 simp only [push_cast,seval,Za,hN0,hN]
 refine (Ve hy2).then ?_
 simp only [push_cast,seval,Za,hN0,hN]
 refine Zg [1,5] [] ?_
 simp only [push_cast,seval]
 refine Zf ?_
 refine Zn [1,5,10] (Zb Zc [] ?_)
 simp only [push_cast,seval,Za,hN0,hN]
 refine Zq (t:=(decide (y2 < 0))) rfl (fun c5 => ?_) (fun c5 => ?_)
 ·replace h:=Zz c5 h
  refine Zn [4] (Zb Zc [] ?_)
  simp only [push_cast,seval,Za,hN0,hN]
  refine Zv ?_
  try simp only [Zh,Ze]
  have h:=Option.some.inj h;subst h
  refine Zo (.inr rfl) hU [.val (.bool false)] (by omega) ?_
  simp only [push_cast,seval,Za,Try.results55,hN0,hN]
 replace h:=Zy c5 h
 refine Zt ?_
 try simp only [Zh,Ze]
 refine Zg [1,5] [] ?_
 simp only [push_cast,seval]
 refine Zf ?_
 refine Zn [1,5,6] (Zb Zc [] ?_)
 simp only [push_cast,seval,Za,hN0,hN]
 refine Zg [1,5,6] [] ?_
 simp only [push_cast,seval]
 obtain ⟨z4,hz4,h⟩:=bC h
 refine Y2 (E':=⟨20,[],[(1,.val (.int .u64 z4))]⟩) (O':=(Z4 O n [])) (n0:=n) ?_ ?_
 ·refine Xp hz4 (fun s0_=>⟨20,[],[(1,.val (.int .u64 s0_.1)),(5,.val (.int .i64 y2)),(6,.val (.int .i64 s0_.2))]⟩) (fun s0_=>(Z4 O n [])) (fun z4=>JX 0 n (⟨20,[],[(1,.val (.int .u64 z4))]⟩:Env) (Z4 O n []) n) ?_
  intro s0_ x0_ hs0_
  unfold Xz at hs0_
  try dsimp only
  refine Zf ?_
  refine Zn [1,5,6,13] (Zb Zc [] ?_)
  simp only [push_cast,seval,Za,hN0,hN]
  refine Zq (t:=(decide (s0_.2 < y2))) rfl (fun c3 => ?_) (fun c3 => ?_)
  ·replace hs0_:=Zz c3 hs0_
   refine Zt ?_
   try simp only [Zh,Ze]
   refine Zg [1,5,6] [] ?_
   simp only [push_cast,seval]
   refine Zf ?_
   refine Yl ?_
   refine Zb Zc [] ?_
   simp only [push_cast,seval,Za,hN0,hN]
   refine Zg [1,5,6] [] ?_
   simp only [push_cast,seval]
   refine Zb Zc [] ?_
   simp only [push_cast,seval,Za,hN0,hN]
   have hs0_:=Option.some.inj hs0_;subst hs0_
   refine And.intro rfl (Fit2.of (Zp hU rfl rfl ?_) (by omega))
   simp only [push_cast,seval,Za,hN0,hN]
  replace hs0_:=Zy c3 hs0_
  refine X9 ?_
  try simp only [Zh,Ze,↓reduceIte,Nat.reduceEqDiff]
  have hs0_:=Option.some.inj hs0_;subst hs0_
  refine And.intro (fun h=>by cases h) (And.intro rfl (Fit2.of (Zp hU rfl rfl ?_) (by omega)))
  simp only [push_cast,seval,Za,hN0,hN]
 try simp only [Zh,Ze,↓reduceIte,Nat.reduceEqDiff]
 refine Zg [1] [] ?_
 simp only [push_cast,seval]
 refine Zn [4] (Zb Zc [] ?_)
 simp only [push_cast,seval,Za,hN0,hN]
 refine Zv ?_
 try simp only [Zh,Ze]
 have h:=Option.some.inj h;subst h
 refine Zo (.inr rfl) hU [.val (.bool (z4 == 0))] (by omega) ?_
 simp only [push_cast,seval,Za,Try.results55,hN0,hN]
attribute [local push_cast] Bool.and_true Bool.true_and or_false bne_self_eq_false Bool.and_false Bool.false_and Zcs List.length_append Zux Zh4
theorem Zjt {Km:(Zi→Int→Option Bool)} (Zja:∀ {a0:Zi} {a1:Int} {r:Bool} {O:Objs} {n:Nat},Km a0 a1=some r→GTo Try.prog 27 [.agg (Zm a0),.val (.int .i64 a1)] O n (.val (.bool r)) O n) {a0:Zi} {a1:Int} {r:Bool} {O:Objs} {n:Nat} (h:Vo Km a0 a1=some r):GTo Try.prog 27 [.agg (Zm a0),.val (.int .i64 a1)] O n (.val (.bool r)) O n:=by
 unfold Vo at h
 refine Yi Zc Try.call27 Try.func27 rfl (Nat.le_of_ble_eq_true rfl) (Nat.le_refl _) fun hU => ?_
 have hN0:O n=none:=hU.fresh _ (Nat.le_refl _)
 have hN:∀ k,O (n+k)=none:=fun k=>hU.fresh _ (Nat.le_add_right _ _)
 show W _ _ _ _ ⟨132,[],[(0,.agg (Zm a0)),(1,.val (.int .i64 a1))]⟩ (Z4 O n []) _
 refine Zn [1,2] (Zb Zc [] ?_)
 simp only [push_cast,seval,Za,hN0,hN]
 refine Zf ?_
 refine Zn [1,2,10] (Zb Zc [] ?_)
 simp only [push_cast,seval,Za,hN0,hN]
 refine Zq (t:=(a0.Kind == 0)) rfl (fun c32 => ?_) (fun c32 => ?_)
 ·replace h:=Zz c32 h
  refine Zn [4] (Zb Zc [none,none,none,none] ?_)
  simp only [push_cast,seval,Za,hN0,hN]
  repeat (with_reducible refine And.intro (by first | (intro h0;simp only [h0,and_self];done) | (intro h0;simp only [h0,Bool.not_false,Bool.not_true,Bool.true_and,true_and,and_true,and_self,imp_self,implies_true,ne_eq,beq_iff_eq];done) | (intros;simp_all;done) | exact True.intro) ?_)
  refine Zv ?_
  try simp only [Zh,Ze]
  have h:=Option.some.inj h;subst h
  refine Zo (.inr rfl) hU [.val (.bool (cond ((a0.Words.length:Int) == 0) ((a0.Kids.length:Int) == 0) false))] (by omega) ?_
  simp only [push_cast,seval,Za,Try.results27,hN0,hN]
 replace h:=Zy c32 h
 refine Zt ?_
 try simp only [Zh,Ze]
 refine Zg [1,2] [true] ?_
 simp only [push_cast,seval]
 refine Zf ?_
 refine Zn [1,2,23] (Zb Zc [] ?_)
 simp only [push_cast,seval,Za,hN0,hN]
 refine Zq (t:=(a0.Kind == 10)) rfl (fun c31 => ?_) (fun c31 => ?_)
 ·replace h:=Zz c31 h
  refine Zn [4] (Zb Zc [none,none,none,none] ?_)
  simp only [push_cast,seval,Za,hN0,hN]
  repeat (with_reducible refine And.intro (by first | (intro h0;simp only [h0,and_self];done) | (intro h0;simp only [h0,Bool.not_false,Bool.not_true,Bool.true_and,true_and,and_true,and_self,imp_self,implies_true,ne_eq,beq_iff_eq];done) | (intros;simp_all;done) | exact True.intro) ?_)
  refine Zv ?_
  try simp only [Zh,Ze]
  have h:=Option.some.inj h;subst h
  refine Zo (.inr rfl) hU [.val (.bool (cond ((a0.Words.length:Int) == 1) ((a0.Kids.length:Int) == 0) false))] (by omega) ?_
  simp only [push_cast,seval,Za,Try.results27,hN0,hN]
 replace h:=Zy c31 h
 refine Zt ?_
 try simp only [Zh,Ze]
 refine Zg [1,2] [true] ?_
 simp only [push_cast,seval]
 refine Zf ?_
 refine Zn [1,2,68] (Zb Zc [none,none,none,none,none,none,none,none,none,none,none,none,none,none,none,none,none,none,none,none,none,none] ?_)
 simp only [push_cast,seval,Za,hN0,hN]
 repeat (with_reducible refine And.intro (by first | (intro h0;simp only [h0,and_self];done) | (intro h0;simp only [h0,Bool.not_false,Bool.not_true,Bool.true_and,true_and,and_true,and_self,imp_self,implies_true,ne_eq,beq_iff_eq];done) | (intros;simp_all;done) | exact True.intro) ?_)
 refine Zq (t:=(cond (cond (cond (cond (cond (decide (a0.Kind < 0)) true (decide (10 < a0.Kind))) true (a1 == 0)) true (decide (65536≤(a0.Words.length:Int)))) true (cond (a0.Kind == 1) (decide (65536≤(a0.Kids.length:Int))) false)) true (decide (1048576≤(a0.Kids.length:Int))))) rfl (fun c30 => ?_) (fun c30 => ?_)
 ·replace h:=Zz c30 h
  refine Zn [4] (Zb Zc [] ?_)
  simp only [push_cast,seval,Za,hN0,hN]
  refine Zv ?_
  try simp only [Zh,Ze]
  have h:=Option.some.inj h;subst h
  refine Zo (.inr rfl) hU [.val (.bool false)] (by omega) ?_
  simp only [push_cast,seval,Za,Try.results27,hN0,hN]
 replace h:=Zy c30 h
 refine Zt ?_
 try simp only [Zh,Ze]
 refine Zg [1,2] [true] ?_
 simp only [push_cast,seval]
 refine Zf ?_
 refine Zn [1,2,77] (Zb Zc [none,none,none,none] ?_)
 simp only [push_cast,seval,Za,hN0,hN]
 repeat (with_reducible refine And.intro (by first | (intro h0;simp only [h0,and_self];done) | (intro h0;simp only [h0,Bool.not_false,Bool.not_true,Bool.true_and,true_and,and_true,and_self,imp_self,implies_true,ne_eq,beq_iff_eq];done) | (intros;simp_all;done) | exact True.intro) ?_)
 refine Zq (t:=(cond (decide (1 < a0.Kind)) (decide (0 < (a0.Words.length:Int))) false)) rfl (fun c29 => ?_) (fun c29 => ?_)
 ·replace h:=Zz c29 h
  refine Zn [4] (Zb Zc [] ?_)
  simp only [push_cast,seval,Za,hN0,hN]
  refine Zv ?_
  try simp only [Zh,Ze]
  have h:=Option.some.inj h;subst h
  refine Zo (.inr rfl) hU [.val (.bool false)] (by omega) ?_
  simp only [push_cast,seval,Za,Try.results27,hN0,hN]
 replace h:=Zy c29 h
 refine Zt ?_
 try simp only [Zh,Ze]
 refine Zg [1,2] [true] ?_
 simp only [push_cast,seval]
 refine Zf ?_
 refine Zn [1,2,5] (Zb Zc [] ?_)
 simp only [push_cast,seval,Za,hN0,hN]
 refine Zg [1,2,5] [true] ?_
 simp only [push_cast,seval]
 obtain ⟨z28,hz28,h⟩:=bC h
 refine Za6 (J:=(Qu (fun z28=>JR n (⟨132,[],[(4,.val (.bool false))]⟩:Env) (Z4 O n [none]) (n+1)) (fun z28=>JX 0 n (⟨132,[],[]⟩:Env) (Z4 O n [none]) (n+1)))) (z:=z28) ?_ fun hw => ?_
 ·refine Xp hz28 (fun s0_=>⟨132,[],[(1,.val (.int .i64 a1)),(2,.ref n 0),(5,.val (.int .i64 s0_))]⟩) (fun s0_=>(Z4 O n [some ⟨false,25,3,1,(Zm a0)⟩])) (Qu (fun z28=>JR n (⟨132,[],[(4,.val (.bool false))]⟩:Env) (Z4 O n [none]) (n+1)) (fun z28=>JX 0 n (⟨132,[],[]⟩:Env) (Z4 O n [none]) (n+1))) ?_
  intro s0_ x0_ hs0_
  unfold Kc at hs0_
  try dsimp only
  refine Zf ?_
  refine Zn [1,2,5,82] (Zb Zc [] ?_)
  simp only [push_cast,seval,Za,hN0,hN]
  refine Zq (t:=(decide (s0_ < (a0.Kids.length:Int)))) rfl (fun c27 => ?_) (fun c27 => ?_)
  ·replace hs0_:=Zz c27 hs0_
   refine Zt ?_
   try simp only [Zh,Ze]
   refine Zg [1,2,5] [true] ?_
   simp only [push_cast,seval]
   refine Zf ?_
   refine Yl ?_
   refine Zf ?_
   obtain ⟨x2,hx2,ax2,bx2,cx2,hs0_⟩:=bE (f:=Zl) Za3 (fun _=>rfl) (by decide) hs0_
   refine Zb Zc [] ?_
   simp only [push_cast,Nat.reduceAdd,Nat.reduceSub,Nat.reduceMul,Nat.reduceLeDiff,Nat.reduceLT,Nat.reduceEqDiff,↓reduceIte,reduceCtorEq,Int.reduceBEq,Int.reduceBNe,Nat.reduceBEq,Int.reduceLE,Int.reduceLT,Int.reduceEq,Int.reduceNe,Int.reduceNeg,Nat.reduceDiv,Nat.reduceMod,Nat.reducePow,Za,ax2,bx2,cx2,hN0,hN]
   refine Zg [1,2,5,6] [true,true] ?_
   simp only [push_cast,seval]
   refine Zf ?_
   refine Zf ?_
   obtain ⟨y4,hy4,hs0_⟩:=bC hs0_
   refine Zb Zc [] ?_
   simp only [push_cast,seval,Za,hN0,hN]
   refine (Zja hy4).then ?_
   simp only [push_cast,seval,Za,hN0,hN]
   refine Zg [1,2,5,6,94] [true,true] ?_
   simp only [push_cast,seval]
   refine Zq (t:=(!y4)) rfl (fun c26 => ?_) (fun c26 => ?_)
   ·replace hs0_:=Zz c26 hs0_
    refine Zn [4] (Zb Zc [] ?_)
    simp only [push_cast,seval,Za,hN0,hN]
    refine Zv ?_
    try simp only [Zh,Ze]
    have hs0_:=Option.some.inj hs0_;subst hs0_
    refine And.intro (fun h=>by cases h) (And.intro rfl (Fit2.of (Zp hU rfl rfl ?_) (by omega)))
    simp only [push_cast,seval,Za,hN0,hN]
   replace hs0_:=Zy c26 hs0_
   refine Zt ?_
   try simp only [Zh,Ze]
   refine Zg [1,2,5,6] [true,true] ?_
   simp only [push_cast,seval]
   refine Zn [1,2,5,6,7] (Zb Zc [none,none,none] ?_)
   simp only [push_cast,seval,Za,hN0,hN]
   repeat (with_reducible refine And.intro (by first | (intro h0;simp only [h0,and_self];done) | (intro h0;simp only [h0,Bool.not_false,Bool.not_true,Bool.true_and,true_and,and_true,and_self,imp_self,implies_true,ne_eq,beq_iff_eq];done) | (intros;simp_all;done) | exact True.intro) ?_)
   obtain ⟨z9,hz9,hs0_⟩:=bC hs0_
   refine Yt (E':=⟨132,[],[(1,.val (.int .i64 a1)),(2,.ref n 0),(5,.val (.int .i64 s0_)),(131,.val (.bool z9))]⟩) (O':=(Z4 O n [some ⟨false,25,3,1,(Zm a0)⟩,none])) (n0:=(n+2)) ?_ ?_
   ·rcases Bool.eq_false_or_eq_true ((cond (decide (2≤a0.Kind)) (decide (a0.Kind≤7)) false) != (x2.Kind == 10)) with c18 | c18
    ·replace hz9:=Zz c18 hz9
     refine Y1 Zc (by kernel_rfl) (Zqd (Zt7 [])) (by kernel_rfl) ?_
     simp only [push_cast,seval,Za,c18,hN0,hN]
     repeat (with_reducible refine And.intro (by first | (intro h0;simp only [h0,and_self];done) | (intro h0;simp only [h0,Bool.not_false,Bool.not_true,Bool.true_and,true_and,and_true,and_self,imp_self,implies_true,ne_eq,beq_iff_eq];done) | (intros;simp_all;done) | exact True.intro) ?_)
     have hz9:=Option.some.inj hz9;subst hz9
     refine And.intro rfl (Fit2.of (Zp hU rfl rfl ?_) (by omega))
     simp only [push_cast,seval,Za,c18,hN0,hN]
    replace hz9:=Zy c18 hz9
    rcases Bool.eq_false_or_eq_true (a0.Kind == 9) with c19 | c19
    ·replace hz9:=Zz c19 hz9
     try rw [c19] at c18
     try simp only [Bool.cond_true,Bool.cond_false,Bool.true_bne,Bool.false_bne,Bool.not_eq_true',Bool.not_eq_false'] at c18
     rcases Bool.eq_false_or_eq_true (x2.Kind != 1) with c20 | c20
     ·replace hz9:=Zz c20 hz9
      try rw [c20] at c18
      try rw [c20] at c19
      try simp only [Bool.cond_true,Bool.cond_false,Bool.true_bne,Bool.false_bne,Bool.not_eq_true',Bool.not_eq_false'] at c18
      refine Y1 Zc (by kernel_rfl) (Zqd (Zt7 [])) (by kernel_rfl) ?_
      simp only [push_cast,seval,Za,c18,c19,c20,hN0,hN]
      repeat (with_reducible refine And.intro (by first | (intro h0;simp only [h0,and_self];done) | (intro h0;simp only [h0,Bool.not_false,Bool.not_true,Bool.true_and,true_and,and_true,and_self,imp_self,implies_true,ne_eq,beq_iff_eq];done) | (intros;simp_all;done) | exact True.intro) ?_)
      have hz9:=Option.some.inj hz9;subst hz9
      refine And.intro rfl (Fit2.of (Zp hU rfl rfl ?_) (by omega))
      simp only [push_cast,seval,Za,c18,c19,c20,hN0,hN]
     replace hz9:=Zy c20 hz9
     try rw [c20] at c18
     try rw [c20] at c19
     try simp only [Bool.cond_true,Bool.cond_false,Bool.true_bne,Bool.false_bne,Bool.not_eq_true',Bool.not_eq_false'] at c18
     rcases Bool.eq_false_or_eq_true (decide (2≤a0.Kind)) with c21 | c21
     ·replace hz9:=Zz c21 hz9
      try rw [c21] at c18
      try rw [c21] at c19
      try rw [c21] at c20
      try simp only [Bool.cond_true,Bool.cond_false,Bool.true_bne,Bool.false_bne,Bool.not_eq_true',Bool.not_eq_false'] at c18
      rcases Bool.eq_false_or_eq_true (decide (a0.Kind≤7)) with c22 | c22
      ·replace hz9:=Zz c22 hz9
       try rw [c22] at c18
       try rw [c22] at c19
       try rw [c22] at c20
       try rw [c22] at c21
       try simp only [Bool.cond_true,Bool.cond_false,Bool.true_bne,Bool.false_bne,Bool.not_eq_true',Bool.not_eq_false'] at c18
       obtain ⟨x14,hx14,ax14,bx14,cx14,hz9⟩:=bE (f:=(eI .u64)) Vz (fun _=>rfl) (by decide) hz9
       obtain ⟨y15,hy15,hz9⟩:=bC hz9
       refine Y1 Zc (by kernel_rfl) (Zqd (Zz8 [])) (by kernel_rfl) ?_
       simp only [push_cast,Nat.reduceAdd,Nat.reduceSub,Nat.reduceMul,Nat.reduceLeDiff,Nat.reduceLT,Nat.reduceEqDiff,↓reduceIte,reduceCtorEq,Int.reduceBEq,Int.reduceBNe,Nat.reduceBEq,Int.reduceLE,Int.reduceLT,Int.reduceEq,Int.reduceNe,Int.reduceNeg,Nat.reduceDiv,Nat.reduceMod,Nat.reducePow,Za,c18,c19,c20,c21,c22,ax14,bx14,cx14,hN0,hN]
       repeat (with_reducible refine And.intro (by first | (intro h0;simp only [h0,and_self];done) | (intro h0;simp only [h0,Bool.not_false,Bool.not_true,Bool.true_and,true_and,and_true,and_self,imp_self,implies_true,ne_eq,beq_iff_eq];done) | (intros;simp_all;done) | exact True.intro) ?_)
       refine PCall.of (Zba hy15) ?_
       simp only [push_cast,Nat.reduceAdd,Nat.reduceSub,Nat.reduceMul,Nat.reduceLeDiff,Nat.reduceLT,Nat.reduceEqDiff,↓reduceIte,reduceCtorEq,Int.reduceBEq,Int.reduceBNe,Nat.reduceBEq,Int.reduceLE,Int.reduceLT,Int.reduceEq,Int.reduceNe,Int.reduceNeg,Nat.reduceDiv,Nat.reduceMod,Nat.reducePow,Za,c18,c19,c20,c21,c22,ax14,bx14,cx14,hN0,hN]
       repeat (with_reducible refine And.intro (by first | (intro h0;simp only [h0,and_self];done) | (intro h0;simp only [h0,Bool.not_false,Bool.not_true,Bool.true_and,true_and,and_true,and_self,imp_self,implies_true,ne_eq,beq_iff_eq];done) | (intros;simp_all;done) | exact True.intro) ?_)
       have hz9:=Option.some.inj hz9;subst hz9
       refine And.intro rfl (Fit2.of (Zp hU rfl rfl ?_) (by omega))
       simp only [push_cast,Nat.reduceAdd,Nat.reduceSub,Nat.reduceMul,Nat.reduceLeDiff,Nat.reduceLT,Nat.reduceEqDiff,↓reduceIte,reduceCtorEq,Int.reduceBEq,Int.reduceBNe,Nat.reduceBEq,Int.reduceLE,Int.reduceLT,Int.reduceEq,Int.reduceNe,Int.reduceNeg,Nat.reduceDiv,Nat.reduceMod,Nat.reducePow,Za,c18,c19,c20,c21,c22,ax14,bx14,cx14,hN0,hN]
      replace hz9:=Zy c22 hz9
      try rw [c22] at c18
      try rw [c22] at c19
      try rw [c22] at c20
      try rw [c22] at c21
      try simp only [Bool.cond_true,Bool.cond_false,Bool.true_bne,Bool.false_bne,Bool.not_eq_true',Bool.not_eq_false'] at c18
      refine Y1 Zc (by kernel_rfl) (Zqd (X5::X5::Z64 [X5])) (by kernel_rfl) ?_
      simp only [push_cast,seval,Za,c18,c19,c20,c21,c22,hN0,hN]
      repeat (with_reducible refine And.intro (by first | (intro h0;simp only [h0,and_self];done) | (intro h0;simp only [h0,Bool.not_false,Bool.not_true,Bool.true_and,true_and,and_true,and_self,imp_self,implies_true,ne_eq,beq_iff_eq];done) | (intros;simp_all;done) | exact True.intro) ?_)
      have hz9:=Option.some.inj hz9;subst hz9
      refine And.intro rfl (Fit2.of (Zp hU rfl rfl ?_) (by omega))
      simp only [push_cast,seval,Za,c18,c19,c20,c21,c22,hN0,hN]
     replace hz9:=Zy c21 hz9
     try rw [c21] at c18
     try rw [c21] at c19
     try rw [c21] at c20
     try simp only [Bool.cond_true,Bool.cond_false,Bool.true_bne,Bool.false_bne,Bool.not_eq_true',Bool.not_eq_false'] at c18
     refine Y1 Zc (by kernel_rfl) (Zqd (X5::X5::Z64 [X5])) (by kernel_rfl) ?_
     simp only [push_cast,seval,Za,c18,c19,c20,c21,hN0,hN]
     repeat (with_reducible refine And.intro (by first | (intro h0;simp only [h0,and_self];done) | (intro h0;simp only [h0,Bool.not_false,Bool.not_true,Bool.true_and,true_and,and_true,and_self,imp_self,implies_true,ne_eq,beq_iff_eq];done) | (intros;simp_all;done) | exact True.intro) ?_)
     have hz9:=Option.some.inj hz9;subst hz9
     refine And.intro rfl (Fit2.of (Zp hU rfl rfl ?_) (by omega))
     simp only [push_cast,seval,Za,c18,c19,c20,c21,hN0,hN]
    replace hz9:=Zy c19 hz9
    try rw [c19] at c18
    try simp only [Bool.cond_true,Bool.cond_false,Bool.true_bne,Bool.false_bne,Bool.not_eq_true',Bool.not_eq_false'] at c18
    rcases Bool.eq_false_or_eq_true (decide (2≤a0.Kind)) with c23 | c23
    ·replace hz9:=Zz c23 hz9
     try rw [c23] at c18
     try rw [c23] at c19
     try simp only [Bool.cond_true,Bool.cond_false,Bool.true_bne,Bool.false_bne,Bool.not_eq_true',Bool.not_eq_false'] at c18
     rcases Bool.eq_false_or_eq_true (decide (a0.Kind≤7)) with c24 | c24
     ·replace hz9:=Zz c24 hz9
      try rw [c24] at c18
      try rw [c24] at c19
      try rw [c24] at c23
      try simp only [Bool.cond_true,Bool.cond_false,Bool.true_bne,Bool.false_bne,Bool.not_eq_true',Bool.not_eq_false'] at c18
      obtain ⟨x16,hx16,ax16,bx16,cx16,hz9⟩:=bE (f:=(eI .u64)) Vz (fun _=>rfl) (by decide) hz9
      obtain ⟨y17,hy17,hz9⟩:=bC hz9
      refine Y1 Zc (by kernel_rfl) (Zqd (Zz8 [])) (by kernel_rfl) ?_
      simp only [push_cast,Nat.reduceAdd,Nat.reduceSub,Nat.reduceMul,Nat.reduceLeDiff,Nat.reduceLT,Nat.reduceEqDiff,↓reduceIte,reduceCtorEq,Int.reduceBEq,Int.reduceBNe,Nat.reduceBEq,Int.reduceLE,Int.reduceLT,Int.reduceEq,Int.reduceNe,Int.reduceNeg,Nat.reduceDiv,Nat.reduceMod,Nat.reducePow,Za,c18,c19,c23,c24,ax16,bx16,cx16,hN0,hN]
      repeat (with_reducible refine And.intro (by first | (intro h0;simp only [h0,and_self];done) | (intro h0;simp only [h0,Bool.not_false,Bool.not_true,Bool.true_and,true_and,and_true,and_self,imp_self,implies_true,ne_eq,beq_iff_eq];done) | (intros;simp_all;done) | exact True.intro) ?_)
      refine PCall.of (Zba hy17) ?_
      simp only [push_cast,Nat.reduceAdd,Nat.reduceSub,Nat.reduceMul,Nat.reduceLeDiff,Nat.reduceLT,Nat.reduceEqDiff,↓reduceIte,reduceCtorEq,Int.reduceBEq,Int.reduceBNe,Nat.reduceBEq,Int.reduceLE,Int.reduceLT,Int.reduceEq,Int.reduceNe,Int.reduceNeg,Nat.reduceDiv,Nat.reduceMod,Nat.reducePow,Za,c18,c19,c23,c24,ax16,bx16,cx16,hN0,hN]
      repeat (with_reducible refine And.intro (by first | (intro h0;simp only [h0,and_self];done) | (intro h0;simp only [h0,Bool.not_false,Bool.not_true,Bool.true_and,true_and,and_true,and_self,imp_self,implies_true,ne_eq,beq_iff_eq];done) | (intros;simp_all;done) | exact True.intro) ?_)
      have hz9:=Option.some.inj hz9;subst hz9
      refine And.intro rfl (Fit2.of (Zp hU rfl rfl ?_) (by omega))
      simp only [push_cast,Nat.reduceAdd,Nat.reduceSub,Nat.reduceMul,Nat.reduceLeDiff,Nat.reduceLT,Nat.reduceEqDiff,↓reduceIte,reduceCtorEq,Int.reduceBEq,Int.reduceBNe,Nat.reduceBEq,Int.reduceLE,Int.reduceLT,Int.reduceEq,Int.reduceNe,Int.reduceNeg,Nat.reduceDiv,Nat.reduceMod,Nat.reducePow,Za,c18,c19,c23,c24,ax16,bx16,cx16,hN0,hN]
     replace hz9:=Zy c24 hz9
     try rw [c24] at c18
     try rw [c24] at c19
     try rw [c24] at c23
     try simp only [Bool.cond_true,Bool.cond_false,Bool.true_bne,Bool.false_bne,Bool.not_eq_true',Bool.not_eq_false'] at c18
     refine Y1 Zc (by kernel_rfl) (Zqd (X5::X5::Z64 [X5])) (by kernel_rfl) ?_
     simp only [push_cast,seval,Za,c18,c19,c23,c24,hN0,hN]
     repeat (with_reducible refine And.intro (by first | (intro h0;simp only [h0,and_self];done) | (intro h0;simp only [h0,Bool.not_false,Bool.not_true,Bool.true_and,true_and,and_true,and_self,imp_self,implies_true,ne_eq,beq_iff_eq];done) | (intros;simp_all;done) | exact True.intro) ?_)
     have hz9:=Option.some.inj hz9;subst hz9
     refine And.intro rfl (Fit2.of (Zp hU rfl rfl ?_) (by omega))
     simp only [push_cast,seval,Za,c18,c19,c23,c24,hN0,hN]
    replace hz9:=Zy c23 hz9
    try rw [c23] at c18
    try rw [c23] at c19
    try simp only [Bool.cond_true,Bool.cond_false,Bool.true_bne,Bool.false_bne,Bool.not_eq_true',Bool.not_eq_false'] at c18
    refine Y1 Zc (by kernel_rfl) (Zqd (X5::X5::Z64 [X5])) (by kernel_rfl) ?_
    simp only [push_cast,seval,Za,c18,c19,c23,hN0,hN]
    repeat (with_reducible refine And.intro (by first | (intro h0;simp only [h0,and_self];done) | (intro h0;simp only [h0,Bool.not_false,Bool.not_true,Bool.true_and,true_and,and_true,and_self,imp_self,implies_true,ne_eq,beq_iff_eq];done) | (intros;simp_all;done) | exact True.intro) ?_)
    have hz9:=Option.some.inj hz9;subst hz9
    refine And.intro rfl (Fit2.of (Zp hU rfl rfl ?_) (by omega))
    simp only [push_cast,seval,Za,c18,c19,c23,hN0,hN]
   refine Zq (t:=z9) rfl (fun c25 => ?_) (fun c25 => ?_)
   ·replace hs0_:=Zz c25 hs0_
    refine Zn [4] (Zb Zc [] ?_)
    simp only [push_cast,seval,Za,hN0,hN]
    refine Zv ?_
    try simp only [Zh,Ze]
    have hs0_:=Option.some.inj hs0_;subst hs0_
    refine And.intro (fun h=>by cases h) (And.intro rfl (Fit2.of (Zp hU rfl rfl ?_) (by omega)))
    simp only [push_cast,seval,Za,hN0,hN]
   replace hs0_:=Zy c25 hs0_
   refine Zt ?_
   try simp only [Zh,Ze]
   refine Zg [1,2,5] [true,false] ?_
   simp only [push_cast,seval]
   refine Zb Zc [] ?_
   simp only [push_cast,seval,Za,hN0,hN]
   have hs0_:=Option.some.inj hs0_;subst hs0_
   refine And.intro rfl (Fit2.of (Zp hU rfl rfl ?_) (by omega))
   simp only [push_cast,seval,Za,hN0,hN]
  replace hs0_:=Zy c27 hs0_
  refine X9 ?_
  try simp only [Zh,Ze,↓reduceIte,Nat.reduceEqDiff]
  have hs0_:=Option.some.inj hs0_;subst hs0_
  refine And.intro (fun h=>by cases h) (And.intro rfl (Fit2.of (Zp hU rfl rfl ?_) (by omega)))
  simp only [push_cast,seval,Za,hN0,hN]
 rcases z28 with z28 | z28
 ·dsimp only [Qu] at hw h
  refine Vn hw ?_
  try simp only [Zh,Ze,↓reduceIte,Nat.reduceEqDiff]
  have h:=Option.some.inj h;subst h
  refine Zo (.inr rfl) hU [.val (.bool false)] (by omega) ?_
  simp only [push_cast,seval,Za,Try.results27,hN0,hN]
 dsimp only [Qu] at hw h
 refine Y2 hw ?_
 try simp only [Zh,Ze,↓reduceIte,Nat.reduceEqDiff]
 refine Zg [] [false] ?_
 simp only [push_cast,seval]
 refine Zn [4] (Zb Zc [] ?_)
 simp only [push_cast,seval,Za,hN0,hN]
 refine Zv ?_
 try simp only [Zh,Ze]
 have h:=Option.some.inj h;subst h
 refine Zo (.inr rfl) hU [.val (.bool true)] (by omega) ?_
 simp only [push_cast,seval,Za,Try.results27,hN0,hN]
theorem Zia:∀ k,(∀ {a0:Zi} {a1:Int} {r:Bool} {O:Objs} {n:Nat},(Q1 k) a0 a1=some r→GTo Try.prog 27 [.agg (Zm a0),.val (.int .i64 a1)] O n (.val (.bool r)) O n):=fun k=>by
 induction k with
 | zero=>exact @fun a0 a1 r O n h=>(nomatch (show (none:Option _)=some _ from h))
 | succ k ih=>exact @fun a0 a1 r O n h=>Zjt (ih)  h
theorem Zau {a0:Zi} {a1:Int} {r:Bool} {O:Objs} {n:Nat} (h:Za7 a0 a1=some r):GTo Try.prog 27 [.agg (Zm a0),.val (.int .i64 a1)] O n (.val (.bool r)) O n:=by
 obtain ⟨k,hk⟩:=Ze9 h
 exact (Zia k)  hk
theorem Zob {a0:(List Int)} {r:(List Int)} {O:Objs} {n:Nat} (h:V6 a0=some r):GTo Try.prog 63 [.sl a0.length (fl (eI .u64) a0)] O n (.sl r.length (fl (eI .u64) r)) O n:=by
 unfold V6 at h
 refine Yi Zc Try.call63 Try.func63 rfl (Nat.le_of_ble_eq_true rfl) (Nat.le_refl _) fun hU => ?_
 have hN0:O n=none:=hU.fresh _ (Nat.le_refl _)
 have hN:∀ k,O (n+k)=none:=fun k=>hU.fresh _ (Nat.le_add_right _ _)
 show W _ _ _ _ ⟨24,[],[(0,.sl a0.length (fl (eI .u64) a0))]⟩ (Z4 O n []) _
 refine Zn [0] (Zb Zc [] ?_)
 simp only [push_cast,seval,Za,hN0,hN]
 refine Zn [0,3] (Zb Zc [] ?_)
 simp only [push_cast,seval,Za,hN0,hN]
 refine Zf ?_
 refine Zg [0,3] [] ?_
 simp only [push_cast,seval]
 obtain ⟨z7,hz7,h⟩:=bC h
 refine Y2 (E':=⟨24,[],[(0,.sl a0.length (fl (eI .u64) a0)),(3,.val (.int .i64 z7))]⟩) (O':=(Z4 O n [])) (n0:=n) ?_ ?_
 ·refine Xp hz7 (fun s0_=>⟨24,[],[(0,.sl a0.length (fl (eI .u64) a0)),(3,.val (.int .i64 s0_))]⟩) (fun s0_=>(Z4 O n [])) (fun z7=>JX 0 n (⟨24,[],[(0,.sl a0.length (fl (eI .u64) a0)),(3,.val (.int .i64 z7))]⟩:Env) (Z4 O n []) n) ?_
  intro s0_ x0_ hs0_
  unfold Ky at hs0_
  try dsimp only
  refine Zf ?_
  obtain ⟨z2,hz2,hs0_⟩:=bC hs0_
  refine Yt (E':=⟨24,[],[(0,.sl a0.length (fl (eI .u64) a0)),(3,.val (.int .i64 s0_)),(16,.val (.bool z2))]⟩) (O':=(Z4 O n [])) (n0:=n) ?_ ?_
  ·rcases Bool.eq_false_or_eq_true (decide (0 < s0_)) with c5 | c5
   ·replace hz2:=Zz c5 hz2
    obtain ⟨x4,hx4,ax4,bx4,cx4,hz2⟩:=bE (f:=(eI .u64)) Vz (fun _=>rfl) (by decide) hz2
    refine Zb Zc (Z85 []) ?_
    simp only [push_cast,Nat.reduceAdd,Nat.reduceSub,Nat.reduceMul,Nat.reduceLeDiff,Nat.reduceLT,Nat.reduceEqDiff,↓reduceIte,reduceCtorEq,Int.reduceBEq,Int.reduceBNe,Nat.reduceBEq,Int.reduceLE,Int.reduceLT,Int.reduceEq,Int.reduceNe,Int.reduceNeg,Nat.reduceDiv,Nat.reduceMod,Nat.reducePow,Za,c5,ax4,bx4,cx4,hN0,hN]
    have hz2:=Option.some.inj hz2;subst hz2
    refine And.intro rfl (Fit2.of (Zp hU rfl rfl ?_) (by omega))
    simp only [push_cast,Nat.reduceAdd,Nat.reduceSub,Nat.reduceMul,Nat.reduceLeDiff,Nat.reduceLT,Nat.reduceEqDiff,↓reduceIte,reduceCtorEq,Int.reduceBEq,Int.reduceBNe,Nat.reduceBEq,Int.reduceLE,Int.reduceLT,Int.reduceEq,Int.reduceNe,Int.reduceNeg,Nat.reduceDiv,Nat.reduceMod,Nat.reducePow,Za,c5,ax4,bx4,cx4,hN0,hN]
   replace hz2:=Zy c5 hz2
   refine Zb Zc (Ybr []) ?_
   simp only [push_cast,seval,Za,c5,hN0,hN]
   have hz2:=Option.some.inj hz2;subst hz2
   refine And.intro rfl (Fit2.of (Zp hU rfl rfl ?_) (by omega))
   simp only [push_cast,seval,Za,c5,hN0,hN]
  refine Zq (t:=z2) rfl (fun c6 => ?_) (fun c6 => ?_)
  ·replace hs0_:=Zz c6 hs0_
   refine Zt ?_
   try simp only [Zh,Ze]
   refine Zg [0,3] [] ?_
   simp only [push_cast,seval]
   refine Yl ?_
   refine Zb Zc [] ?_
   simp only [push_cast,seval,Za,hN0,hN]
   have hs0_:=Option.some.inj hs0_;subst hs0_
   refine And.intro rfl (Fit2.of (Zp hU rfl rfl ?_) (by omega))
   simp only [push_cast,seval,Za,hN0,hN]
  replace hs0_:=Zy c6 hs0_
  refine X9 ?_
  try simp only [Zh,Ze,↓reduceIte,Nat.reduceEqDiff]
  have hs0_:=Option.some.inj hs0_;subst hs0_
  refine And.intro (fun h=>by cases h) (And.intro rfl (Fit2.of (Zp hU rfl rfl ?_) (by omega)))
  simp only [push_cast,seval,Za,hN0,hN]
 try simp only [Zh,Ze,↓reduceIte,Nat.reduceEqDiff]
 refine Zg [0,3] [] ?_
 simp only [push_cast,seval]
 refine Zn [0,3,4] (Zb Zc [] ?_)
 simp only [push_cast,seval,Za,hN0,hN]
 refine Zf ?_
 obtain ⟨l10,al10,bl10,cl10,gl10,h⟩:=bS (lo:=none) (hi:=(some (.i64,z7))) (f:=(eI .u64)) rfl rfl Zdd Vz (fun _=>rfl) h
 obtain ⟨l11,pl11,ql11,el11,h⟩:=bA0 (k:=l10.length) rfl h
 refine Zb Zc [] ?_
 simp only [push_cast,seval,Za,al10,bl10,cl10,gl10,pl11,ql11,el11,hN0,hN]
 refine U3 ⟨24,[],[(2,.row n l11.length)]⟩ (Z4 O n [some ⟨true,58,1,l11.length,fl (eI .u64) l11⟩]) (Zp hU rfl rfl ?_) ?_
 ·simp only [push_cast,seval,Za,al10,bl10,cl10,gl10,pl11,ql11,el11,hN0,hN]
 refine Zv ?_
 try simp only [Zh,Ze]
 have h:=Option.some.inj h;subst h
 refine Zo (.inr rfl) hU [.row n l11.length] (by omega) ?_
 simp only [push_cast,seval,Za,Try.results63,hN0,hN]
theorem Zm9 {K6:(Zi→Option Zi)} (Zjq:∀ {a0:Zi} {r:Zi} {O:Objs} {n:Nat},K6 a0=some r→GTo Try.prog 31 [.agg (Zm a0)] O n (.agg (Zm r)) O n) {a0:Zi} {r:Zi} {O:Objs} {n:Nat} (h:V1 K6 a0=some r):GTo Try.prog 31 [.agg (Zm a0)] O n (.agg (Zm r)) O n:=by
 unfold V1 at h
 refine Yi Zc Try.call31 Try.func31 rfl (Nat.le_of_ble_eq_true rfl) (Nat.le_refl _) fun hU => ?_
 have hN0:O n=none:=hU.fresh _ (Nat.le_refl _)
 have hN:∀ k,O (n+k)=none:=fun k=>hU.fresh _ (Nat.le_add_right _ _)
 show W _ _ _ _ ⟨53,[],[(0,.agg (Zm a0))]⟩ (Z4 O n []) _
 refine Zn [1,2] (Zb Zc [] ?_)
 simp only [push_cast,seval,Za,hN0,hN]
 refine Zf ?_
 refine Zn [1,2,10] (Zb Zc [] ?_)
 simp only [push_cast,seval,Za,hN0,hN]
 refine Zq (t:=(a0.Kind == 0)) rfl (fun c19 => ?_) (fun c19 => ?_)
 ·replace h:=Zz c19 h
  refine Zf ?_
  refine Zb Zc [] ?_
  simp only [push_cast,seval,Za,hN0,hN]
  refine Zg [2] [false,true] ?_
  simp only [push_cast,seval]
  refine Zv ?_
  try simp only [Zh,Ze]
  have h:=Option.some.inj h;subst h
  refine Zo (.inr rfl) hU [.agg [.val (.int .i64 0),.val (.slice none 0 0),.val (.slice none 0 0)]] (by omega) ?_
  simp only [push_cast,seval,Za,Try.results31,hN0,hN]
 replace h:=Zy c19 h
 refine Zt ?_
 try simp only [Zh,Ze]
 refine Zg [1,2] [true,true] ?_
 simp only [push_cast,seval]
 refine Zn [1,2,3] (Zb Zc [] ?_)
 simp only [push_cast,seval,Za,hN0,hN]
 refine Zn [1,2,3,4] (Zb Zc [] ?_)
 simp only [push_cast,seval,Za,hN0,hN]
 refine Zf ?_
 refine Zn [1,2,3,4,5] (Zb Zc [] ?_)
 simp only [push_cast,seval,Za,hN0,hN]
 refine Zg [1,2,3,4,5] [true,true] ?_
 simp only [push_cast,seval]
 refine U7 (E':=(⟨53,[],[(1,.ref n 0),(2,.ref (n+1) 0),(3,.row (n+2) ([]:List Zi).length),(4,.val (.int .i64 0)),(5,.val (.int .i64 0))]⟩:Env)) (O':=(Z4 O n [some ⟨false,25,3,1,(Zm a0)⟩,some ⟨false,25,3,1,[.val (.int .i64 0),.val (.slice none 0 0),.val (.slice none 0 0)]⟩,some ⟨true,25,3,([]:List Zi).length,fl Zl ([]:List Zi)⟩,none])) (n':=(n+4)) ?_ ?_
 ·refine Fit2.trans (E':=(⟨53,[],[(1,.ref n 0),(2,.ref (n+1) 0),(3,.val (.slice none 0 0)),(4,.val (.int .i64 0)),(5,.val (.int .i64 0))]⟩:Env)) (O':=(Z4 O n [some ⟨false,25,3,1,(Zm a0)⟩,some ⟨false,25,3,1,[.val (.int .i64 0),.val (.slice none 0 0),.val (.slice none 0 0)]⟩])) (n':=(n+2)) (Fit2.of (Zp hU rfl rfl ?_) (by omega)) ?_
  ·simp only [push_cast,seval,Za,hN0,hN]
  refine Fit2.trans (Zec 3 25 3 rfl (by omega)) ?_
  simp only [Qh,Xl,Zae,List.set_cons_zero,List.set_cons_succ,List.cons_append,List.nil_append,List.length_cons,List.length_nil,Nat.zero_add,Nat.reduceAdd,Nat.reduceLT,Nat.add_assoc]
  refine Fit2.trans (E':=(⟨53,[],[(1,.ref n 0),(2,.ref (n+1) 0),(3,.row (n+2) ([]:List Zi).length),(4,.val (.int .i64 0)),(5,.val (.int .i64 0))]⟩:Env)) (O':=(Z4 O n [some ⟨false,25,3,1,(Zm a0)⟩,some ⟨false,25,3,1,[.val (.int .i64 0),.val (.slice none 0 0),.val (.slice none 0 0)]⟩,some ⟨true,25,3,([]:List Zi).length,fl Zl ([]:List Zi)⟩])) (n':=(n+3)) (Fit2.of (Zp hU rfl rfl ?_) (by omega)) ?_
  ·simp only [push_cast,seval,Za,hN0,hN]
  refine Zap (k:=3) (k':=4) hU [0,1,2] [0,1,2,0] rfl rfl rfl rfl ⟨rfl,rfl⟩ ?_
  simp only [push_cast,seval,Za,hN0,hN]
 obtain ⟨z10,hz10,h⟩:=bC h
 refine Y2 (E':=⟨53,[],[(1,.ref n 0),(2,.ref (n+1) 0),(3,.row (n+2) z10.2.length),(4,.val (.int .i64 z10.1))]⟩) (O':=(Z4 O n [some ⟨false,25,3,1,(Zm a0)⟩,some ⟨false,25,3,1,[.val (.int .i64 0),.val (.slice none 0 0),.val (.slice none 0 0)]⟩,some ⟨true,25,3,z10.2.length,fl Zl z10.2⟩,none])) (n0:=(n+4)) ?_ ?_
 ·refine Xp hz10 (fun s0_=>⟨53,[],[(1,.ref n 0),(2,.ref (n+1) 0),(3,.row (n+2) s0_.2.2.length),(4,.val (.int .i64 s0_.1)),(5,.val (.int .i64 s0_.2.1))]⟩) (fun s0_=>(Z4 O n [some ⟨false,25,3,1,(Zm a0)⟩,some ⟨false,25,3,1,[.val (.int .i64 0),.val (.slice none 0 0),.val (.slice none 0 0)]⟩,some ⟨true,25,3,s0_.2.2.length,fl Zl s0_.2.2⟩,none])) (fun z10=>JX 0 n (⟨53,[],[(1,.ref n 0),(2,.ref (n+1) 0),(3,.row (n+2) z10.2.length),(4,.val (.int .i64 z10.1))]⟩:Env) (Z4 O n [some ⟨false,25,3,1,(Zm a0)⟩,some ⟨false,25,3,1,[.val (.int .i64 0),.val (.slice none 0 0),.val (.slice none 0 0)]⟩,some ⟨true,25,3,z10.2.length,fl Zl z10.2⟩,none]) (n+4)) ?_
  intro s0_ x0_ hs0_
  unfold Qi at hs0_
  try dsimp only
  refine Zf ?_
  refine Zn [1,2,3,4,5,16] (Zb Zc [] ?_)
  simp only [push_cast,seval,Za,hN0,hN]
  refine Zq (t:=(decide (s0_.2.1 < (a0.Kids.length:Int)))) rfl (fun c9 => ?_) (fun c9 => ?_)
  ·replace hs0_:=Zz c9 hs0_
   refine Zt ?_
   try simp only [Zh,Ze]
   refine Zg [1,2,3,4,5] [true,true,true,false] ?_
   simp only [push_cast,seval]
   obtain ⟨z1,hz1,hs0_⟩:=bC hs0_
   refine Yt (E':=⟨53,[],[(1,.ref n 0),(2,.ref (n+1) 0),(3,.row (n+2) z1.2.length),(4,.val (.int .i64 z1.1)),(5,.val (.int .i64 s0_.2.1))]⟩) (O':=(Z4 O n [some ⟨false,25,3,1,(Zm a0)⟩,some ⟨false,25,3,1,[.val (.int .i64 0),.val (.slice none 0 0),.val (.slice none 0 0)]⟩,some ⟨true,25,3,z1.2.length,fl Zl z1.2⟩,none,none,none])) (n0:=(n+6)) ?_ ?_
   ·refine Yl ?_
    refine Zf ?_
    obtain ⟨x4,hx4,ax4,bx4,cx4,hz1⟩:=bE (f:=Zl) Za3 (fun _=>rfl) (by decide) hz1
    obtain ⟨y5,hy5,hz1⟩:=bC hz1
    refine Zb Zc [] ?_
    simp only [push_cast,Nat.reduceAdd,Nat.reduceSub,Nat.reduceMul,Nat.reduceLeDiff,Nat.reduceLT,Nat.reduceEqDiff,↓reduceIte,reduceCtorEq,Int.reduceBEq,Int.reduceBNe,Nat.reduceBEq,Int.reduceLE,Int.reduceLT,Int.reduceEq,Int.reduceNe,Int.reduceNeg,Nat.reduceDiv,Nat.reduceMod,Nat.reducePow,Za,ax4,bx4,cx4,hN0,hN]
    refine (Zjq hy5).then ?_
    simp only [push_cast,Nat.reduceAdd,Nat.reduceSub,Nat.reduceMul,Nat.reduceLeDiff,Nat.reduceLT,Nat.reduceEqDiff,↓reduceIte,reduceCtorEq,Int.reduceBEq,Int.reduceBNe,Nat.reduceBEq,Int.reduceLE,Int.reduceLT,Int.reduceEq,Int.reduceNe,Int.reduceNeg,Nat.reduceDiv,Nat.reduceMod,Nat.reducePow,Za,ax4,bx4,cx4,hN0,hN]
    refine Zg [1,2,3,4,5,6] [true,true,true,false,true] ?_
    simp only [push_cast,seval]
    refine Zf ?_
    obtain ⟨l7,pl7,ql7,el7,hz1⟩:=bA (k:=1) rfl hz1
    refine Zb Zc [] ?_
    simp only [push_cast,seval,Za,pl7,ql7,el7,hN0,hN]
    refine U3 ⟨53,[],[(1,.ref n 0),(2,.ref (n+1) 0),(3,.row (n+2) l7.length),(4,.val (.int .i64 s0_.1)),(5,.val (.int .i64 s0_.2.1)),(6,.ref (n+4) 0)]⟩ (Z4 O n [some ⟨false,25,3,1,(Zm a0)⟩,some ⟨false,25,3,1,[.val (.int .i64 0),.val (.slice none 0 0),.val (.slice none 0 0)]⟩,some ⟨true,25,3,l7.length,fl Zl l7⟩,none,some ⟨false,25,3,1,(Zm y5)⟩,none]) (Zp hU rfl rfl ?_) ?_
    ·simp only [push_cast,seval,Za,pl7,ql7,el7,hN0,hN]
    refine Zn [1,2,3,4,5,31] (Zb Zc [] ?_)
    simp only [push_cast,seval,Za,hN0,hN]
    refine Zq (t:=(y5.Kind != 0)) rfl (fun c8 => ?_) (fun c8 => ?_)
    ·replace hz1:=Zz c8 hz1
     refine Zb Zc [] ?_
     simp only [push_cast,seval,Za,hN0,hN]
     have hz1:=Option.some.inj hz1;subst hz1
     refine And.intro rfl (Fit2.of (Zp hU rfl rfl ?_) (by omega))
     simp only [push_cast,seval,Za,hN0,hN]
    replace hz1:=Zy c8 hz1
    refine Zt ?_
    try simp only [Zh,Ze]
    have hz1:=Option.some.inj hz1;subst hz1
    refine And.intro rfl (Fit2.of (Zp hU rfl rfl ?_) (by omega))
    simp only [push_cast,seval,Za,hN0,hN]
   refine Zb Zc [] ?_
   simp only [push_cast,seval,Za,hN0,hN]
   have hs0_:=Option.some.inj hs0_;subst hs0_
   refine And.intro rfl (Fit2.of (Zp hU rfl rfl ?_) (by omega))
   simp only [push_cast,seval,Za,hN0,hN]
  replace hs0_:=Zy c9 hs0_
  refine X9 ?_
  try simp only [Zh,Ze,↓reduceIte,Nat.reduceEqDiff]
  have hs0_:=Option.some.inj hs0_;subst hs0_
  refine And.intro (fun h=>by cases h) (And.intro rfl (Fit2.of (Zp hU rfl rfl ?_) (by omega)))
  simp only [push_cast,seval,Za,hN0,hN]
 try simp only [Zh,Ze,↓reduceIte,Nat.reduceEqDiff]
 refine Zg [1,2,3,4] [true,true,true,false] ?_
 simp only [push_cast,seval]
 refine Zf ?_
 refine Zn [1,2,3,4,36] (Zb Zc [] ?_)
 simp only [push_cast,seval,Za,hN0,hN]
 refine Zq (t:=(a0.Kind == 1)) rfl (fun c18 => ?_) (fun c18 => ?_)
 ·replace h:=Zz c18 h
  refine U3 ⟨53,[],[(1,.ref n 0),(2,.ref (n+1) 0),(3,.sl z10.2.length (fl Zl z10.2)),(4,.val (.int .i64 z10.1))]⟩ (Z4 O n [some ⟨false,25,3,1,(Zm a0)⟩,some ⟨false,25,3,1,[.val (.int .i64 0),.val (.slice none 0 0),.val (.slice none 0 0)]⟩,none,none]) (Zp hU rfl rfl ?_) ?_
  ·simp only [push_cast,seval,Za,hN0,hN]
  refine Zf ?_
  obtain ⟨y14,hy14,h⟩:=bC h
  obtain ⟨l15,al15,bl15,cl15,gl15,h⟩:=bS (lo:=none) (hi:=(some (.i64,z10.1))) (f:=Zl) rfl rfl Ziu Za3 (fun _=>rfl) h
  refine Zkc Zc (by kernel_rfl) [false,false,false,false,false,false,false,true] [] (by kernel_rfl) ?_
  simp only [push_cast,seval,Za,al15,bl15,cl15,gl15,hN0,hN]
  refine PCall.of (Zob hy14) ?_
  simp only [push_cast,seval,Za,al15,bl15,cl15,gl15,hN0,hN]
  refine Zg [2] [false,true,false,false] ?_
  simp only [push_cast,seval]
  refine Zv ?_
  try simp only [Zh,Ze]
  have h:=Option.some.inj h;subst h
  refine Zo (.inr rfl) hU [.agg [.val (.int .i64 1),.sl y14.length (fl (eI .u64) y14),.sl l15.length (fl Zl l15)]] (by omega) ?_
  simp only [push_cast,seval,Za,Try.results31,hN0,hN]
 replace h:=Zy c18 h
 refine Zt ?_
 try simp only [Zh,Ze]
 refine Zg [1,2,3] [true,true,true,false] ?_
 simp only [push_cast,seval]
 refine Zn [1,2,3,7] (Zb Zc [] ?_)
 simp only [push_cast,seval,Za,hN0,hN]
 refine Zf ?_
 obtain ⟨l17,pl17,ql17,el17,h⟩:=bA0 (k:=a0.Words.length) rfl h
 refine Zb Zc [] ?_
 simp only [push_cast,seval,Za,pl17,ql17,el17,hN0,hN]
 refine U3 ⟨53,[],[(1,.ref n 0),(2,.ref (n+1) 0),(3,.row (n+2) z10.2.length),(7,.row (n+4) l17.length)]⟩ (Z4 O n [some ⟨false,25,3,1,(Zm a0)⟩,some ⟨false,25,3,1,[.val (.int .i64 0),.val (.slice none 0 0),.val (.slice none 0 0)]⟩,some ⟨true,25,3,z10.2.length,fl Zl z10.2⟩,none,some ⟨true,58,1,l17.length,fl (eI .u64) l17⟩]) (Zp hU rfl rfl ?_) ?_
 ·simp only [push_cast,seval,Za,pl17,ql17,el17,hN0,hN]
 refine Zf ?_
 refine Zb Zc [] ?_
 simp only [push_cast,seval,Za,hN0,hN]
 refine Zg [2] [false,true,true,false,true] ?_
 simp only [push_cast,seval]
 refine Zv ?_
 try simp only [Zh,Ze]
 have h:=Option.some.inj h;subst h
 refine Zo (.inr rfl) hU [.agg [.val (.int .i64 a0.Kind),.row (n+4) l17.length,.row (n+2) z10.2.length]] (by omega) ?_
 simp only [push_cast,seval,Za,Try.results31,hN0,hN]
theorem Zi3:∀ k,(∀ {a0:Zi} {r:Zi} {O:Objs} {n:Nat},(Xk k) a0=some r→GTo Try.prog 31 [.agg (Zm a0)] O n (.agg (Zm r)) O n):=fun k=>by
 induction k with
 | zero=>exact @fun a0 r O n h=>(nomatch (show (none:Option _)=some _ from h))
 | succ k ih=>exact @fun a0 r O n h=>Zm9 (ih)  h
theorem Zfd {a0:Zi} {r:Zi} {O:Objs} {n:Nat} (h:Zbv a0=some r):GTo Try.prog 31 [.agg (Zm a0)] O n (.agg (Zm r)) O n:=by
 obtain ⟨k,hk⟩:=Ze9 h
 exact (Zi3 k)  hk
theorem Zm6 {a0:Zi} {r:(Int×Int)} {O:Objs} {n:Nat} (h:U8 a0=some r):GTo Try.prog 60 [.agg (Zm a0)] O n (.tup [.val (.int .i64 r.1),.val (.int .i64 r.2)]) O n:=by
 unfold U8 at h
 refine Yi Zc Try.call60 Try.func60 rfl (Nat.le_of_ble_eq_true rfl) (Nat.le_refl _) fun hU => ?_
 have hN0:O n=none:=hU.fresh _ (Nat.le_refl _)
 have hN:∀ k,O (n+k)=none:=fun k=>hU.fresh _ (Nat.le_add_right _ _)
 show W _ _ _ _ ⟨48,[],[(0,.agg (Zm a0))]⟩ (Z4 O n []) _
 refine Zn [1] (Zb Zc [] ?_)
 simp only [push_cast,seval,Za,hN0,hN]
 refine Zn [1,4,5] (Zb Zc [] ?_)
 simp only [push_cast,seval,Za,hN0,hN]
 refine Zf ?_
 refine Zn [1,4,5,6] (Zb Zc [] ?_)
 simp only [push_cast,seval,Za,hN0,hN]
 refine Zg [1,4,5,6] [true] ?_
 simp only [push_cast,seval]
 obtain ⟨z18,hz18,h⟩:=bC h
 refine Y2 (E':=⟨48,[],[(4,.val (.int .i64 z18.1)),(5,.val (.int .i64 z18.2))]⟩) (O':=(Z4 O n [none])) (n0:=(n+1)) ?_ ?_
 ·refine Xp hz18 (fun s0_=>⟨48,[],[(1,.ref n 0),(4,.val (.int .i64 s0_.1)),(5,.val (.int .i64 s0_.2.1)),(6,.val (.int .i64 s0_.2.2))]⟩) (fun s0_=>(Z4 O n [some ⟨false,25,3,1,(Zm a0)⟩])) (fun z18=>JX 0 n (⟨48,[],[(4,.val (.int .i64 z18.1)),(5,.val (.int .i64 z18.2))]⟩:Env) (Z4 O n [none]) (n+1)) ?_
  intro s0_ x0_ hs0_
  unfold Ke at hs0_
  try dsimp only
  refine Zf ?_
  refine Zn [1,4,5,6,11] (Zb Zc [] ?_)
  simp only [push_cast,seval,Za,hN0,hN]
  refine Zq (t:=(decide (s0_.2.2 < (a0.Kids.length:Int)))) rfl (fun c17 => ?_) (fun c17 => ?_)
  ·replace hs0_:=Zz c17 hs0_
   refine Zt ?_
   try simp only [Zh,Ze]
   refine Zg [1,4,5,6] [true] ?_
   simp only [push_cast,seval]
   obtain ⟨z1,hz1,hs0_⟩:=bC hs0_
   refine Yt (E':=⟨48,[],[(1,.ref n 0),(4,.val (.int .i64 z1.1)),(5,.val (.int .i64 z1.2)),(6,.val (.int .i64 s0_.2.2))]⟩) (O':=(Z4 O n [some ⟨false,25,3,1,(Zm a0)⟩])) (n0:=(n+1)) ?_ ?_
   ·refine Yl ?_
    obtain ⟨z2,hz2,hz1⟩:=bC hz1
    refine Yt (E':=⟨48,[],[(1,.ref n 0),(4,.val (.int .i64 z2)),(5,.val (.int .i64 s0_.2.1)),(6,.val (.int .i64 s0_.2.2))]⟩) (O':=(Z4 O n [some ⟨false,25,3,1,(Zm a0)⟩])) (n0:=(n+1)) ?_ ?_
    ·obtain ⟨x5,hx5,ax5,bx5,cx5,hz2⟩:=bE (f:=Zl) Za3 (fun _=>rfl) (by decide) hz2
     have g6:=Zee (f:=Zl) (off:=1) (sz:=3) U1 (fun _=>rfl) (by decide) (by decide) hx5
     refine Zn [1,4,5,6,22] (Zb Zc [] ?_)
     simp only [push_cast,Nat.reduceAdd,Nat.reduceSub,Nat.reduceMul,Nat.reduceLeDiff,Nat.reduceLT,Nat.reduceEqDiff,↓reduceIte,reduceCtorEq,Int.reduceBEq,Int.reduceBNe,Nat.reduceBEq,Int.reduceLE,Int.reduceLT,Int.reduceEq,Int.reduceNe,Int.reduceNeg,Nat.reduceDiv,Nat.reduceMod,Nat.reducePow,Za,ax5,bx5,cx5,g6,hN0,hN]
     refine Zq (t:=(decide (s0_.1 < (x5.Words.length:Int)))) rfl (fun c9 => ?_) (fun c9 => ?_)
     ·replace hz2:=Zz c9 hz2
      obtain ⟨x7,hx7,ax7,bx7,cx7,hz2⟩:=bE (f:=Zl) Za3 (fun _=>rfl) (by decide) hz2
      have g8:=Zee (f:=Zl) (off:=1) (sz:=3) U1 (fun _=>rfl) (by decide) (by decide) hx7
      refine Zb Zc [] ?_
      simp only [push_cast,Nat.reduceAdd,Nat.reduceSub,Nat.reduceMul,Nat.reduceLeDiff,Nat.reduceLT,Nat.reduceEqDiff,↓reduceIte,reduceCtorEq,Int.reduceBEq,Int.reduceBNe,Nat.reduceBEq,Int.reduceLE,Int.reduceLT,Int.reduceEq,Int.reduceNe,Int.reduceNeg,Nat.reduceDiv,Nat.reduceMod,Nat.reducePow,Za,ax7,bx7,cx7,g8,hN0,hN]
      have hz2:=Option.some.inj hz2;subst hz2
      refine And.intro rfl (Fit2.of (Zp hU rfl rfl ?_) (by omega))
      simp only [push_cast,Nat.reduceAdd,Nat.reduceSub,Nat.reduceMul,Nat.reduceLeDiff,Nat.reduceLT,Nat.reduceEqDiff,↓reduceIte,reduceCtorEq,Int.reduceBEq,Int.reduceBNe,Nat.reduceBEq,Int.reduceLE,Int.reduceLT,Int.reduceEq,Int.reduceNe,Int.reduceNeg,Nat.reduceDiv,Nat.reduceMod,Nat.reducePow,Za,ax7,bx7,cx7,g8,hN0,hN]
     replace hz2:=Zy c9 hz2
     refine Zt ?_
     try simp only [Zh,Ze]
     have hz2:=Option.some.inj hz2;subst hz2
     refine And.intro rfl (Fit2.of (Zp hU rfl rfl ?_) (by omega))
     simp only [push_cast,seval,Za,hN0,hN]
    obtain ⟨x12,hx12,ax12,bx12,cx12,hz1⟩:=bE (f:=Zl) Za3 (fun _=>rfl) (by decide) hz1
    have g13:=Zee (f:=Zl) (off:=2) (sz:=3) Zr8 (fun _=>rfl) (by decide) (by decide) hx12
    refine Zn [1,4,5,6,38] (Zb Zc [] ?_)
    simp only [push_cast,Nat.reduceAdd,Nat.reduceSub,Nat.reduceMul,Nat.reduceLeDiff,Nat.reduceLT,Nat.reduceEqDiff,↓reduceIte,reduceCtorEq,Int.reduceBEq,Int.reduceBNe,Nat.reduceBEq,Int.reduceLE,Int.reduceLT,Int.reduceEq,Int.reduceNe,Int.reduceNeg,Nat.reduceDiv,Nat.reduceMod,Nat.reducePow,Za,ax12,bx12,cx12,g13,hN0,hN]
    refine Zq (t:=(decide (s0_.2.1 < (x12.Kids.length:Int)))) rfl (fun c16 => ?_) (fun c16 => ?_)
    ·replace hz1:=Zz c16 hz1
     obtain ⟨x14,hx14,ax14,bx14,cx14,hz1⟩:=bE (f:=Zl) Za3 (fun _=>rfl) (by decide) hz1
     have g15:=Zee (f:=Zl) (off:=2) (sz:=3) Zr8 (fun _=>rfl) (by decide) (by decide) hx14
     refine Zb Zc [] ?_
     simp only [push_cast,Nat.reduceAdd,Nat.reduceSub,Nat.reduceMul,Nat.reduceLeDiff,Nat.reduceLT,Nat.reduceEqDiff,↓reduceIte,reduceCtorEq,Int.reduceBEq,Int.reduceBNe,Nat.reduceBEq,Int.reduceLE,Int.reduceLT,Int.reduceEq,Int.reduceNe,Int.reduceNeg,Nat.reduceDiv,Nat.reduceMod,Nat.reducePow,Za,ax14,bx14,cx14,g15,hN0,hN]
     have hz1:=Option.some.inj hz1;subst hz1
     refine And.intro rfl (Fit2.of (Zp hU rfl rfl ?_) (by omega))
     simp only [push_cast,Nat.reduceAdd,Nat.reduceSub,Nat.reduceMul,Nat.reduceLeDiff,Nat.reduceLT,Nat.reduceEqDiff,↓reduceIte,reduceCtorEq,Int.reduceBEq,Int.reduceBNe,Nat.reduceBEq,Int.reduceLE,Int.reduceLT,Int.reduceEq,Int.reduceNe,Int.reduceNeg,Nat.reduceDiv,Nat.reduceMod,Nat.reducePow,Za,ax14,bx14,cx14,g15,hN0,hN]
    replace hz1:=Zy c16 hz1
    refine Zt ?_
    try simp only [Zh,Ze]
    have hz1:=Option.some.inj hz1;subst hz1
    refine And.intro rfl (Fit2.of (Zp hU rfl rfl ?_) (by omega))
    simp only [push_cast,seval,Za,hN0,hN]
   refine Zb Zc [] ?_
   simp only [push_cast,seval,Za,hN0,hN]
   have hs0_:=Option.some.inj hs0_;subst hs0_
   refine And.intro rfl (Fit2.of (Zp hU rfl rfl ?_) (by omega))
   simp only [push_cast,seval,Za,hN0,hN]
  replace hs0_:=Zy c17 hs0_
  refine X9 ?_
  try simp only [Zh,Ze,↓reduceIte,Nat.reduceEqDiff]
  have hs0_:=Option.some.inj hs0_;subst hs0_
  refine And.intro (fun h=>by cases h) (And.intro rfl (Fit2.of (Zp hU rfl rfl ?_) (by omega)))
  simp only [push_cast,seval,Za,hN0,hN]
 try simp only [Zh,Ze,↓reduceIte,Nat.reduceEqDiff]
 refine Zg [4,5] [false] ?_
 simp only [push_cast,seval]
 refine Zn [2,3] (Zb Zc [] ?_)
 simp only [push_cast,seval,Za,hN0,hN]
 refine Zv ?_
 try simp only [Zh,Ze]
 have h:=Option.some.inj h;subst h
 refine Zo (.inr rfl) hU [.val (.int .i64 z18.1),.val (.int .i64 z18.2)] (by omega) ?_
 simp only [push_cast,seval,Za,Try.results60,hN0,hN]
theorem Zn8 {a0:Int} {a1:Int} {r:Int} {O:Objs} {n:Nat} (h:V4 a0 a1=some r):GTo Try.prog 100 [.val (.int .i64 a0),.val (.int .i64 a1)] O n (.val (.int .i64 r)) O n:=by
 unfold V4 at h
 refine Yi Zc Try.call100 Try.func100 rfl (Nat.le_of_ble_eq_true rfl) (Nat.le_refl _) fun hU => ?_
 have hN0:O n=none:=hU.fresh _ (Nat.le_refl _)
 have hN:∀ k,O (n+k)=none:=fun k=>hU.fresh _ (Nat.le_add_right _ _)
 show W _ _ _ _ ⟨31,[],[(0,.val (.int .i64 a0)),(1,.val (.int .i64 a1))]⟩ (Z4 O n []) _
 refine Zn [0,1] (Zb Zc [] ?_)
 simp only [push_cast,seval,Za,hN0,hN]
 refine Zf ?_
 refine Zf ?_
 obtain ⟨y2,hy2,h⟩:=bC h
 refine Zb Zc [none,none,none,none] ?_
 simp only [push_cast,seval,Za,hN0,hN]
 repeat (with_reducible refine And.intro (by first | (intro h0;simp only [h0];done) | (intro h0;simp only [h0,true_and,and_true,imp_self,implies_true,ne_eq];done) | (intros;simp_all;done) | exact True.intro) ?_)
 refine (Ve hy2).then ?_
 simp only [push_cast,seval,Za,hN0,hN]
 repeat (with_reducible refine And.intro (by first | (intro h0;simp only [h0];done) | (intro h0;simp only [h0,true_and,and_true,imp_self,implies_true,ne_eq];done) | (intros;simp_all;done) | exact True.intro) ?_)
 refine Zg [0,1,16] [] ?_
 simp only [push_cast,seval]
 refine Zq (t:=(cond (cond (decide (y2 < 1)) true (decide (a1 < 0))) true (decide (1099511627776 < a1)))) rfl (fun c14 => ?_) (fun c14 => ?_)
 ·replace h:=Zz c14 h
  refine Zn [4] (Zb Zc [] ?_)
  simp only [push_cast,seval,Za,hN0,hN]
  refine Zv ?_
  try simp only [Zh,Ze]
  have h:=Option.some.inj h;subst h
  refine Zo (.inr rfl) hU [.val (.int .i64 0)] (by omega) ?_
  simp only [push_cast,seval,Za,Try.results100,hN0,hN]
 replace h:=Zy c14 h
 refine Zt ?_
 try simp only [Zh,Ze]
 refine Zg [0,1] [] ?_
 simp only [push_cast,seval]
 refine Zf ?_
 obtain ⟨y5,hy5,h⟩:=bC h
 obtain ⟨pu6,h⟩:=bG h
 refine Zb Zc [] ?_
 simp only [push_cast,seval,Za,pu6,hN0,hN]
 refine (Ve hy5).then ?_
 simp only [push_cast,seval,Za,pu6,hN0,hN]
 refine Zg [1,5] [] ?_
 simp only [push_cast,seval]
 refine Zf ?_
 obtain ⟨pu8,h⟩:=bG h
 refine Zn [1,5,23] (Zb Zc [] ?_)
 simp only [push_cast,seval,Za,pu8,hN0,hN]
 refine Zq (t:=(decide (0 < (Int.tmod a1 (IntKind.i64.wrap (Int.tdiv 64 y5)))))) rfl (fun c13 => ?_) (fun c13 => ?_)
 ·replace h:=Zz c13 h
  obtain ⟨pu10,h⟩:=bG h
  refine Zn [4] (Zb Zc [] ?_)
  simp only [push_cast,seval,Za,pu10,hN0,hN]
  refine Zv ?_
  try simp only [Zh,Ze]
  have h:=Option.some.inj h;subst h
  refine Zo (.inr rfl) hU [.val (.int .i64 (IntKind.i64.wrap ((IntKind.i64.wrap (Int.tdiv a1 (IntKind.i64.wrap (Int.tdiv 64 y5))))+1)))] (by omega) ?_
  simp only [push_cast,seval,Za,Try.results100,hN0,hN]
 replace h:=Zy c13 h
 refine Zt ?_
 try simp only [Zh,Ze]
 refine Zg [1,5] [] ?_
 simp only [push_cast,seval]
 obtain ⟨pu12,h⟩:=bG h
 refine Zn [4] (Zb Zc [] ?_)
 simp only [push_cast,seval,Za,pu12,hN0,hN]
 refine Zv ?_
 try simp only [Zh,Ze]
 have h:=Option.some.inj h;subst h
 refine Zo (.inr rfl) hU [.val (.int .i64 (IntKind.i64.wrap (Int.tdiv a1 (IntKind.i64.wrap (Int.tdiv 64 y5)))))] (by omega) ?_
 simp only [push_cast,seval,Za,Try.results100,hN0,hN]
theorem Zpd {a0:Int} {a1:(List Int)} {r:((List Int)×Bool)} {O:Objs} {n:Nat} (h:Ux a0 a1=some r):GTo Try.prog 62 [.val (.int .i64 a0),.sl a1.length (fl (eI .u64) a1)] O n (.tup [.sl r.1.length (fl (eI .u64) r.1),.val (.bool r.2)]) O n:=by
 unfold Ux at h
 refine Yi Zc Try.call62 Try.func62 rfl (Nat.le_of_ble_eq_true rfl) (Nat.le_refl _) fun hU => ?_
 have hN0:O n=none:=hU.fresh _ (Nat.le_refl _)
 have hN:∀ k,O (n+k)=none:=fun k=>hU.fresh _ (Nat.le_add_right _ _)
 show W _ _ _ _ ⟨62,[],[(0,.val (.int .i64 a0)),(1,.sl a1.length (fl (eI .u64) a1))]⟩ (Z4 O n []) _
 refine Zn [0,1] (Zb Zc [] ?_)
 simp only [push_cast,seval,Za,hN0,hN]
 refine Zf ?_
 obtain ⟨y2,hy2,h⟩:=bC h
 refine Zb Zc [] ?_
 simp only [push_cast,seval,Za,hN0,hN]
 refine (Ve hy2).then ?_
 simp only [push_cast,seval,Za,hN0,hN]
 refine Zg [0,1,6] [] ?_
 simp only [push_cast,seval]
 refine Zf ?_
 refine Zn [0,1,6,14] (Zb Zc [] ?_)
 simp only [push_cast,seval,Za,hN0,hN]
 refine Zq (t:=(decide (y2 < 0))) rfl (fun c21 => ?_) (fun c21 => ?_)
 ·replace h:=Zz c21 h
  refine Zn [4,5] (Zb Zc [] ?_)
  simp only [push_cast,seval,Za,hN0,hN]
  refine Zv ?_
  try simp only [Zh,Ze]
  have h:=Option.some.inj h;subst h
  refine Zo (.inr rfl) hU [.val (.slice none 0 0),.val (.bool false)] (by omega) ?_
  simp only [push_cast,seval,Za,Try.results62,hN0,hN]
 replace h:=Zy c21 h
 refine Zt ?_
 try simp only [Zh,Ze]
 refine Zg [0,1,6] [] ?_
 simp only [push_cast,seval]
 refine Zf ?_
 obtain ⟨y5,hy5,h⟩:=bC h
 obtain ⟨l6,al6,bl6,cl6,el6,h⟩:=bM2 (c:=8) rfl h
 have nl6:Int.toNat y5=List.length l6:=by rw [el6,List.length_replicate]
 have fl6:(List.replicate (List.length l6) [.val (.int .u64 0)]).flatten=fl (eI .u64) l6:=by rw [← nl6,el6];exact (Zow (f:=(eI .u64)) _ _).symm
 clear el6
 refine Zb Zc [] ?_
 simp only [push_cast,seval,Za,al6,bl6,cl6,fl6,nl6,hN0,hN]
 refine (Zn8 hy5).then ?_
 simp only [push_cast,seval,Za,al6,bl6,cl6,fl6,nl6,hN0,hN]
 refine U3 ⟨62,[],[(0,.val (.int .i64 a0)),(1,.sl a1.length (fl (eI .u64) a1)),(6,.val (.int .i64 y2)),(7,.row n l6.length)]⟩ (Z4 O n [some ⟨true,58,1,l6.length,fl (eI .u64) l6⟩]) (Zp hU rfl rfl ?_) ?_
 ·simp only [push_cast,seval,Za,al6,bl6,cl6,fl6,nl6,hN0,hN]
 refine Zf ?_
 refine Zn [0,1,6,7,8] (Zb Zc [] ?_)
 simp only [push_cast,seval,Za,hN0,hN]
 refine Zg [0,1,6,7,8] [true] ?_
 simp only [push_cast,seval]
 obtain ⟨z20,hz20,h⟩:=bC h
 refine Za6 (J:=(Qu (fun z20=>JR n (⟨62,[],[(4,.val (.slice none 0 0)),(5,.val (.bool false))]⟩:Env) (Z4 O n [none]) (n+1)) (fun z20=>JX 0 n (⟨62,[],[(7,.row n z20.length)]⟩:Env) (Z4 O n [some ⟨true,58,1,z20.length,fl (eI .u64) z20⟩]) (n+1)))) (z:=z20) ?_ fun hw => ?_
 ·refine Xp hz20 (fun s0_=>⟨62,[],[(0,.val (.int .i64 a0)),(1,.sl a1.length (fl (eI .u64) a1)),(6,.val (.int .i64 y2)),(7,.row n s0_.2.length),(8,.val (.int .i64 s0_.1))]⟩) (fun s0_=>(Z4 O n [some ⟨true,58,1,s0_.2.length,fl (eI .u64) s0_.2⟩])) (Qu (fun z20=>JR n (⟨62,[],[(4,.val (.slice none 0 0)),(5,.val (.bool false))]⟩:Env) (Z4 O n [none]) (n+1)) (fun z20=>JX 0 n (⟨62,[],[(7,.row n z20.length)]⟩:Env) (Z4 O n [some ⟨true,58,1,z20.length,fl (eI .u64) z20⟩]) (n+1))) ?_
  intro s0_ x0_ hs0_
  unfold Y3 at hs0_
  try dsimp only
  refine Zf ?_
  refine Zn [0,1,6,7,8,23] (Zb Zc [] ?_)
  simp only [push_cast,seval,Za,hN0,hN]
  refine Zq (t:=(decide (s0_.1 < (a1.length:Int)))) rfl (fun c19 => ?_) (fun c19 => ?_)
  ·replace hs0_:=Zz c19 hs0_
   refine Zt ?_
   try simp only [Zh,Ze]
   refine Zg [0,1,6,7,8] [true] ?_
   simp only [push_cast,seval]
   obtain ⟨z7,hz7,hs0_⟩:=bC hs0_
   refine Z5j (J:=(Qu (fun z7=>JN n (⟨62,[],[(0,.val (.int .i64 a0)),(1,.sl a1.length (fl (eI .u64) a1)),(6,.val (.int .i64 y2)),(7,.row n z7.length),(8,.val (.int .i64 s0_.1))]⟩:Env) (Z4 O n [some ⟨true,58,1,z7.length,fl (eI .u64) z7⟩]) (n+1)) (fun z7=>JR n (⟨62,[],[(4,.val (.slice none 0 0)),(5,.val (.bool false))]⟩:Env) (Z4 O n [none]) (n+1)))) (z:=z7) ?_ fun hw => ?_
   ·refine Yl ?_
    obtain ⟨x9,hx9,ax9,bx9,cx9,hz7⟩:=bE (f:=(eI .u64)) Vz (fun _=>rfl) (by decide) hz7
    refine Zn [0,1,6,7,8,9] (Zb Zc [] ?_)
    simp only [push_cast,Nat.reduceAdd,Nat.reduceSub,Nat.reduceMul,Nat.reduceLeDiff,Nat.reduceLT,Nat.reduceEqDiff,↓reduceIte,reduceCtorEq,Int.reduceBEq,Int.reduceBNe,Nat.reduceBEq,Int.reduceLE,Int.reduceLT,Int.reduceEq,Int.reduceNe,Int.reduceNeg,Nat.reduceDiv,Nat.reduceMod,Nat.reducePow,Za,ax9,bx9,cx9,hN0,hN]
    refine Zf ?_
    refine Zf ?_
    obtain ⟨y11,hy11,hz7⟩:=bC hz7
    refine Zb Zc [] ?_
    simp only [push_cast,seval,Za,hN0,hN]
    refine (Zba hy11).then ?_
    simp only [push_cast,seval,Za,hN0,hN]
    refine Zg [0,1,6,7,8,9,33] [true] ?_
    simp only [push_cast,seval]
    refine Zq (t:=(!y11)) rfl (fun c18 => ?_) (fun c18 => ?_)
    ·replace hz7:=Zz c18 hz7
     refine Zn [4,5] (Zb Zc [] ?_)
     simp only [push_cast,seval,Za,hN0,hN]
     refine Zv ?_
     try simp only [Zh,Ze]
     have hz7:=Option.some.inj hz7;subst hz7
     refine And.intro rfl (Fit2.of (Zp hU rfl rfl ?_) (by omega))
     simp only [push_cast,seval,Za,hN0,hN]
    replace hz7:=Zy c18 hz7
    refine Zt ?_
    try simp only [Zh,Ze]
    refine Zg [0,1,6,7,8,9] [true] ?_
    simp only [push_cast,seval]
    refine Zf ?_
    refine Zn [0,1,6,7,8,9,10] (Zb Zc [] ?_)
    simp only [push_cast,seval,Za,hN0,hN]
    refine Zg [0,1,6,7,8,9,10] [true] ?_
    simp only [push_cast,seval]
    obtain ⟨z13,hz13,hz7⟩:=bC hz7
    refine Y2 (E':=⟨62,[],[(0,.val (.int .i64 a0)),(1,.sl a1.length (fl (eI .u64) a1)),(6,.val (.int .i64 y2)),(7,.row n s0_.2.length),(8,.val (.int .i64 s0_.1)),(9,.val (.int .u64 z13))]⟩) (O':=(Z4 O n [some ⟨true,58,1,s0_.2.length,fl (eI .u64) s0_.2⟩])) (n0:=(n+1)) ?_ ?_
    ·refine Xp hz13 (fun s1_=>⟨62,[],[(0,.val (.int .i64 a0)),(1,.sl a1.length (fl (eI .u64) a1)),(6,.val (.int .i64 y2)),(7,.row n s0_.2.length),(8,.val (.int .i64 s0_.1)),(9,.val (.int .u64 s1_.1)),(10,.val (.int .i64 s1_.2))]⟩) (fun s1_=>(Z4 O n [some ⟨true,58,1,s0_.2.length,fl (eI .u64) s0_.2⟩])) (fun z13=>JX 2 n (⟨62,[],[(0,.val (.int .i64 a0)),(1,.sl a1.length (fl (eI .u64) a1)),(6,.val (.int .i64 y2)),(7,.row n s0_.2.length),(8,.val (.int .i64 s0_.1)),(9,.val (.int .u64 z13))]⟩:Env) (Z4 O n [some ⟨true,58,1,s0_.2.length,fl (eI .u64) s0_.2⟩]) (n+1)) ?_
     intro s1_ x1_ hs1_
     unfold Uo at hs1_
     try dsimp only
     refine Zf ?_
     refine Zn [0,1,6,7,8,9,10,39] (Zb Zc [] ?_)
     simp only [push_cast,seval,Za,hN0,hN]
     refine Zq (t:=(decide (s1_.2 < (Int.tmod (IntKind.i64.wrap (s0_.1 * y2)) 64)))) rfl (fun c12 => ?_) (fun c12 => ?_)
     ·replace hs1_:=Zz c12 hs1_
      refine Zt ?_
      try simp only [Zh,Ze]
      refine Zg [0,1,6,7,8,9,10] [true] ?_
      simp only [push_cast,seval]
      refine Zf ?_
      refine Yl ?_
      refine Zb Zc [] ?_
      simp only [push_cast,seval,Za,hN0,hN]
      refine Zg [0,1,6,7,8,9,10] [true] ?_
      simp only [push_cast,seval]
      refine Zb Zc [] ?_
      simp only [push_cast,seval,Za,hN0,hN]
      have hs1_:=Option.some.inj hs1_;subst hs1_
      refine And.intro rfl (Fit2.of (Zp hU rfl rfl ?_) (by omega))
      simp only [push_cast,seval,Za,hN0,hN]
     replace hs1_:=Zy c12 hs1_
     refine X9 ?_
     try simp only [Zh,Ze,↓reduceIte,Nat.reduceEqDiff]
     have hs1_:=Option.some.inj hs1_;subst hs1_
     refine And.intro (fun h=>by cases h) (And.intro rfl (Fit2.of (Zp hU rfl rfl ?_) (by omega)))
     simp only [push_cast,seval,Za,hN0,hN]
    try simp only [Zh,Ze,↓reduceIte,Nat.reduceEqDiff]
    refine Zg [0,1,6,7,8,9] [true] ?_
    simp only [push_cast,seval]
    refine Zn [0,1,6,7,8,9,45] (Zb Zc [] ?_)
    simp only [push_cast,seval,Za,hN0,hN]
    refine Zq (t:=(decide (0 < y2))) rfl (fun c17 => ?_) (fun c17 => ?_)
    ·replace hz7:=Zz c17 hz7
     obtain ⟨x14,hx14,ax14,bx14,cx14,hz7⟩:=bE (f:=(eI .u64)) Vz (fun _=>rfl) (by decide) hz7
     have gu16:Uh (fl (eI .u64) s0_.2) [.val (.int .u64 (IntKind.u64.wrap (x14+z13)))] (Int.toNat (IntKind.i64.wrap (Int.tdiv (IntKind.i64.wrap (s0_.1 * y2)) 64)) * 1)=some (fl (eI .u64) (Y5 s0_.2 (IntKind.i64.wrap (Int.tdiv (IntKind.i64.wrap (s0_.1 * y2)) 64)) (IntKind.u64.wrap (x14+z13)))):=Zeg (f:=(eI .u64)) (ti:=⟨.bool,1,0,[],false⟩) (x:=(IntKind.u64.wrap (x14+z13))) (fun _=>rfl) (Zax hx14)
     refine Zb Zc [] ?_
     simp only [push_cast,Nat.reduceAdd,Nat.reduceSub,Nat.reduceMul,Nat.reduceLeDiff,Nat.reduceLT,Nat.reduceEqDiff,↓reduceIte,reduceCtorEq,Int.reduceBEq,Int.reduceBNe,Nat.reduceBEq,Int.reduceLE,Int.reduceLT,Int.reduceEq,Int.reduceNe,Int.reduceNeg,Nat.reduceDiv,Nat.reduceMod,Nat.reducePow,Za,ax14,bx14,cx14,gu16,hN0,hN]
     have hz7:=Option.some.inj hz7;subst hz7
     refine And.intro rfl (Fit2.of (Zp hU rfl rfl ?_) (by omega))
     simp only [push_cast,Nat.reduceAdd,Nat.reduceSub,Nat.reduceMul,Nat.reduceLeDiff,Nat.reduceLT,Nat.reduceEqDiff,↓reduceIte,reduceCtorEq,Int.reduceBEq,Int.reduceBNe,Nat.reduceBEq,Int.reduceLE,Int.reduceLT,Int.reduceEq,Int.reduceNe,Int.reduceNeg,Nat.reduceDiv,Nat.reduceMod,Nat.reducePow,Za,ax14,bx14,cx14,gu16,hN0,hN]
    replace hz7:=Zy c17 hz7
    refine Zt ?_
    try simp only [Zh,Ze]
    have hz7:=Option.some.inj hz7;subst hz7
    refine And.intro rfl (Fit2.of (Zp hU rfl rfl ?_) (by omega))
    simp only [push_cast,seval,Za,hN0,hN]
   rcases z7 with z7 | z7
   ·dsimp only [Qu] at hw hs0_
    refine Yt hw ?_
    refine Zb Zc [] ?_
    simp only [push_cast,seval,Za,hN0,hN]
    have hs0_:=Option.some.inj hs0_;subst hs0_
    refine And.intro rfl (Fit2.of (Zp hU rfl rfl ?_) (by omega))
    simp only [push_cast,seval,Za,hN0,hN]
   dsimp only [Qu] at hw hs0_
   refine Z08 hw ?_
   try simp only [Zh,Ze]
   have hs0_:=Option.some.inj hs0_;subst hs0_
   refine And.intro (fun h=>by cases h) (And.intro rfl (Fit2.of (Zp hU rfl rfl ?_) (by omega)))
   simp only [push_cast,seval,Za,hN0,hN]
  replace hs0_:=Zy c19 hs0_
  refine X9 ?_
  try simp only [Zh,Ze,↓reduceIte,Nat.reduceEqDiff]
  have hs0_:=Option.some.inj hs0_;subst hs0_
  refine And.intro (fun h=>by cases h) (And.intro rfl (Fit2.of (Zp hU rfl rfl ?_) (by omega)))
  simp only [push_cast,seval,Za,hN0,hN]
 rcases z20 with z20 | z20
 ·dsimp only [Qu] at hw h
  refine Vn hw ?_
  try simp only [Zh,Ze,↓reduceIte,Nat.reduceEqDiff]
  have h:=Option.some.inj h;subst h
  refine Zo (.inr rfl) hU [.val (.slice none 0 0),.val (.bool false)] (by omega) ?_
  simp only [push_cast,seval,Za,Try.results62,hN0,hN]
 dsimp only [Qu] at hw h
 refine Y2 hw ?_
 try simp only [Zh,Ze,↓reduceIte,Nat.reduceEqDiff]
 refine Zg [7] [true] ?_
 simp only [push_cast,seval]
 refine Zn [4,5] (Zb Zc [] ?_)
 simp only [push_cast,seval,Za,hN0,hN]
 refine Zv ?_
 try simp only [Zh,Ze]
 have h:=Option.some.inj h;subst h
 refine Zo (.inr rfl) hU [.row n z20.length,.val (.bool true)] (by omega) ?_
 simp only [push_cast,seval,Za,Try.results62,hN0,hN]
theorem Znk {a0:Int} {r:Int} {O:Objs} {n:Nat} (h:Zb3 a0=some r):GTo Try.prog 128 [.val (.int .u64 a0)] O n (.val (.int .i64 r)) O n:=by
 unfold Zb3 at h
 refine Yi Zc Try.call128 Try.func128 rfl (Nat.le_of_ble_eq_true rfl) (Nat.le_refl _) fun hU => ?_
 have hN0:O n=none:=hU.fresh _ (Nat.le_refl _)
 have hN:∀ k,O (n+k)=none:=fun k=>hU.fresh _ (Nat.le_add_right _ _)
 show W _ _ _ _ ⟨8,[],[(0,.val (.int .u64 a0))]⟩ (Z4 O n []) _
 refine Zn [0] (Zb Zc [] ?_)
 simp only [push_cast,seval,Za,hN0,hN]
 refine Zn [2] (Zb Zc [] ?_)
 simp only [push_cast,seval,Za,hN0,hN]
 refine Zv ?_
 try simp only [Zh,Ze]
 have h:=Option.some.inj h;subst h
 refine Zo (.inr rfl) hU [.val (.int .i64 (IntKind.i64.wrap (Int.fdiv (IntKind.i32.wrap (IntKind.u32.wrap a0)) (2 ^ min (Int.toNat 2) 32))))] (by omega) ?_
 simp only [push_cast,seval,Za,Try.results128,hN0,hN]
theorem Zao {a0:Int} {a1:Int} {a2:Int} {r:Int} {O:Objs} {n:Nat} (h:X8 a0 a1 a2=some r):GTo Try.prog 129 [.val (.int .u64 a0),.val (.int .i64 a1),.val (.int .i64 a2)] O n (.val (.int .i64 r)) O n:=by
 unfold X8 at h
 refine Yi Zc Try.call129 Try.func129 rfl (Nat.le_of_ble_eq_true rfl) (Nat.le_refl _) fun hU => ?_
 have hN0:O n=none:=hU.fresh _ (Nat.le_refl _)
 have hN:∀ k,O (n+k)=none:=fun k=>hU.fresh _ (Nat.le_add_right _ _)
 show W _ _ _ _ ⟨15,[],[(0,.val (.int .u64 a0)),(1,.val (.int .i64 a1)),(2,.val (.int .i64 a2))]⟩ (Z4 O n []) _
 refine Zn [0,1,2] (Zb Zc [] ?_)
 simp only [push_cast,seval,Za,hN0,hN]
 obtain ⟨pu3,h⟩:=bG h
 obtain ⟨pu4,h⟩:=bG h
 refine Zn [6] (Y1 Zc (by kernel_rfl) [] (by kernel_rfl) ?_)
 simp only [push_cast,seval,Za,pu3,pu4,hN0,hN]
 refine Zv ?_
 try simp only [Zh,Ze]
 have h:=Option.some.inj h;subst h
 refine Zo (.inr rfl) hU [.val (.int .i64 (IntKind.i64.wrap (IntKind.u64.wrap (Gu .u64 (Int.fdiv a0 (2 ^ min (Int.toNat a1) 64)) (IntKind.u64.wrap ((IntKind.u64.wrap (1 * 2 ^ min (Int.toNat a2) 64)) - 1))))))] (by omega) ?_
 simp only [push_cast,seval,Za,Try.results129,hN0,hN]
theorem Uk {a0:Int} {r:Z8} {O:Objs} {n:Nat} (h:Jz a0=some r):GTo Try.prog 105 [.val (.int .u64 a0)] O n (.agg (Yp r)) O n:=by
 unfold Jz at h
 refine Yi Zc Try.call105 Try.func105 rfl (Nat.le_of_ble_eq_true rfl) (Nat.le_refl _) fun hU => ?_
 have hN0:O n=none:=hU.fresh _ (Nat.le_refl _)
 have hN:∀ k,O (n+k)=none:=fun k=>hU.fresh _ (Nat.le_add_right _ _)
 show W _ _ _ _ ⟨38,[],[(0,.val (.int .u64 a0))]⟩ (Z4 O n []) _
 refine Zn [0,2] (Zb Zc [] ?_)
 simp only [push_cast,seval,Za,hN0,hN]
 refine Zf ?_
 refine Zn [0,2,4] (Zb Zc [] ?_)
 simp only [push_cast,seval,Za,hN0,hN]
 refine Zq (t:=(a0 == 0)) rfl (fun c20 => ?_) (fun c20 => ?_)
 ·replace h:=Zz c20 h
  refine Zf ?_
  refine Zb Zc [] ?_
  simp only [push_cast,seval,Za,hN0,hN]
  refine U3 ⟨38,[],[(2,.ref n 0)]⟩ (Z4 O n [some ⟨false,109,8,1,[.val (.int .i64 0),.val (.int .i64 0),.val (.int .i64 0),.val (.int .i64 0),.val (.int .i64 0),.val (.int .i64 0),.val (.int .i64 0),.val (.bool false)]⟩]) (Zp hU rfl rfl ?_) ?_
  ·simp only [push_cast,seval,Za,hN0,hN]
  refine Zv ?_
  try simp only [Zh,Ze]
  have h:=Option.some.inj h;subst h
  refine Zo (.inr rfl) hU [.agg [.val (.int .i64 0),.val (.int .i64 0),.val (.int .i64 0),.val (.int .i64 0),.val (.int .i64 0),.val (.int .i64 0),.val (.int .i64 0),.val (.bool false)]] (by omega) ?_
  simp only [push_cast,seval,Za,Try.results105,hN0,hN]
 replace h:=Zy c20 h
 refine Zt ?_
 try simp only [Zh,Ze]
 refine U3 ⟨38,[],[(0,.val (.int .u64 a0)),(2,.ref n 0)]⟩ (Z4 O n [some ⟨false,109,8,1,[.val (.int .i64 0),.val (.int .i64 0),.val (.int .i64 0),.val (.int .i64 0),.val (.int .i64 0),.val (.int .i64 0),.val (.int .i64 0),.val (.bool false)]⟩]) (Zp hU rfl rfl ?_) ?_
 ·simp only [push_cast,seval,Za,hN0,hN]
 refine Zf ?_
 refine Zn [0,2,7] (Zb Zc [] ?_)
 simp only [push_cast,seval,Za,hN0,hN]
 refine Yl ?_
 refine Zn [0,2,7,8] (Zb Zc [] ?_)
 simp only [push_cast,seval,Za,hN0,hN]
 refine Zq (t:=((IntKind.u64.wrap (Gu .u64 a0 3)) == 0)) rfl (fun c19 => ?_) (fun c19 => ?_)
 ·replace h:=Zz c19 h
  refine Zf ?_
  obtain ⟨y4,hy4,h⟩:=bC h
  obtain ⟨y5,hy5,h⟩:=bC h
  obtain ⟨y6,hy6,h⟩:=bC h
  refine Zb Zc [] ?_
  simp only [push_cast,seval,Za,hN0,hN]
  refine (Znk hy4).then ?_
  simp only [push_cast,seval,Za,hN0,hN]
  refine (Zao hy5).then ?_
  simp only [push_cast,seval,Za,hN0,hN]
  refine (Zao hy6).then ?_
  simp only [push_cast,seval,Za,hN0,hN]
  refine U3 ⟨38,[],[(2,.ref n 0)]⟩ (Z4 O n [some ⟨false,109,8,1,[.val (.int .i64 1),.val (.int .i64 y4),.val (.int .i64 y5),.val (.int .i64 y6),.val (.int .i64 0),.val (.int .i64 0),.val (.int .i64 0),.val (.bool false)]⟩]) (Zp hU rfl rfl ?_) ?_
  ·simp only [push_cast,seval,Za,hN0,hN]
  refine Zv ?_
  try simp only [Zh,Ze]
  have h:=Option.some.inj h;subst h
  refine Zo (.inr rfl) hU [.agg [.val (.int .i64 1),.val (.int .i64 y4),.val (.int .i64 y5),.val (.int .i64 y6),.val (.int .i64 0),.val (.int .i64 0),.val (.int .i64 0),.val (.bool false)]] (by omega) ?_
  simp only [push_cast,seval,Za,Try.results105,hN0,hN]
 replace h:=Zy c19 h
 refine Zn [0,2,7,17] (Zb Zc [] ?_)
 simp only [push_cast,seval,Za,hN0,hN]
 refine Zq (t:=((IntKind.u64.wrap (Gu .u64 a0 3)) == 1)) rfl (fun c18 => ?_) (fun c18 => ?_)
 ·replace h:=Zz c18 h
  refine Zf ?_
  obtain ⟨y10,hy10,h⟩:=bC h
  obtain ⟨y11,hy11,h⟩:=bC h
  obtain ⟨y12,hy12,h⟩:=bC h
  refine Zb Zc [] ?_
  simp only [push_cast,seval,Za,hN0,hN]
  refine (Znk hy10).then ?_
  simp only [push_cast,seval,Za,hN0,hN]
  refine (Zao hy11).then ?_
  simp only [push_cast,seval,Za,hN0,hN]
  refine (Zao hy12).then ?_
  simp only [push_cast,seval,Za,hN0,hN]
  refine U3 ⟨38,[],[(2,.ref n 0)]⟩ (Z4 O n [some ⟨false,109,8,1,[.val (.int .i64 2),.val (.int .i64 y10),.val (.int .i64 0),.val (.int .i64 0),.val (.int .i64 y11),.val (.int .i64 y12),.val (.int .i64 0),.val (.bool false)]⟩]) (Zp hU rfl rfl ?_) ?_
  ·simp only [push_cast,seval,Za,hN0,hN]
  refine Zv ?_
  try simp only [Zh,Ze]
  have h:=Option.some.inj h;subst h
  refine Zo (.inr rfl) hU [.agg [.val (.int .i64 2),.val (.int .i64 y10),.val (.int .i64 0),.val (.int .i64 0),.val (.int .i64 y11),.val (.int .i64 y12),.val (.int .i64 0),.val (.bool false)]] (by omega) ?_
  simp only [push_cast,seval,Za,Try.results105,hN0,hN]
 replace h:=Zy c18 h
 refine Zn [0,2,26] (Zb Zc [] ?_)
 simp only [push_cast,seval,Za,hN0,hN]
 refine Zq (t:=((IntKind.u64.wrap (Gu .u64 a0 3)) == 2)) rfl (fun c17 => ?_) (fun c17 => ?_)
 ·replace h:=Zz c17 h
  refine Zf ?_
  obtain ⟨y15,hy15,h⟩:=bC h
  obtain ⟨y16,hy16,h⟩:=bC h
  refine Zb Zc [] ?_
  simp only [push_cast,seval,Za,hN0,hN]
  refine (Zao hy15).then ?_
  simp only [push_cast,seval,Za,hN0,hN]
  refine (Zao hy16).then ?_
  simp only [push_cast,seval,Za,hN0,hN]
  refine U3 ⟨38,[],[(2,.ref n 0)]⟩ (Z4 O n [some ⟨false,109,8,1,[.val (.int .i64 3),.val (.int .i64 y15),.val (.int .i64 0),.val (.int .i64 0),.val (.int .i64 0),.val (.int .i64 0),.val (.int .i64 y16),.val (.bool ((IntKind.u64.wrap (Gu .u64 (Int.fdiv a0 (2 ^ min (Int.toNat 2) 64)) 1)) == 1))]⟩]) (Zp hU rfl rfl ?_) ?_
  ·simp only [push_cast,seval,Za,hN0,hN]
  refine Zv ?_
  try simp only [Zh,Ze]
  have h:=Option.some.inj h;subst h
  refine Zo (.inr rfl) hU [.agg [.val (.int .i64 3),.val (.int .i64 y15),.val (.int .i64 0),.val (.int .i64 0),.val (.int .i64 0),.val (.int .i64 0),.val (.int .i64 y16),.val (.bool ((IntKind.u64.wrap (Gu .u64 (Int.fdiv a0 (2 ^ min (Int.toNat 2) 64)) 1)) == 1))]] (by omega) ?_
  simp only [push_cast,seval,Za,Try.results105,hN0,hN]
 replace h:=Zy c17 h
 refine Zt ?_
 try simp only [Zh,Ze]
 refine U3 ⟨38,[],[(2,.ref n 0)]⟩ (Z4 O n [some ⟨false,109,8,1,[.val (.int .i64 0),.val (.int .i64 0),.val (.int .i64 0),.val (.int .i64 0),.val (.int .i64 0),.val (.int .i64 0),.val (.int .i64 0),.val (.bool false)]⟩]) (Zp hU rfl rfl ?_) ?_
 ·simp only [push_cast,seval,Za,hN0,hN]
 refine Zf ?_
 refine Zb Zc [] ?_
 simp only [push_cast,seval,Za,hN0,hN]
 refine U3 ⟨38,[],[(2,.ref n 0)]⟩ (Z4 O n [some ⟨false,109,8,1,[.val (.int .i64 4),.val (.int .i64 0),.val (.int .i64 0),.val (.int .i64 0),.val (.int .i64 0),.val (.int .i64 0),.val (.int .i64 0),.val (.bool false)]⟩]) (Zp hU rfl rfl ?_) ?_
 ·simp only [push_cast,seval,Za,hN0,hN]
 refine Zv ?_
 try simp only [Zh,Ze]
 have h:=Option.some.inj h;subst h
 refine Zo (.inr rfl) hU [.agg [.val (.int .i64 4),.val (.int .i64 0),.val (.int .i64 0),.val (.int .i64 0),.val (.int .i64 0),.val (.int .i64 0),.val (.int .i64 0),.val (.bool false)]] (by omega) ?_
 simp only [push_cast,seval,Za,Try.results105,hN0,hN]
theorem Zx9 {a0:Int} {r:Int} {O:Objs} {n:Nat} (h:Zbm a0=some r):GTo Try.prog 88 [.val (.int .i64 a0)] O n (.val (.int .i64 r)) O n:=by
 unfold Zbm at h
 refine Yi Zc Try.call88 Try.func88 rfl (Nat.le_of_ble_eq_true rfl) (Nat.le_refl _) fun hU => ?_
 have hN0:O n=none:=hU.fresh _ (Nat.le_refl _)
 have hN:∀ k,O (n+k)=none:=fun k=>hU.fresh _ (Nat.le_add_right _ _)
 show W _ _ _ _ ⟨8,[],[(0,.val (.int .i64 a0))]⟩ (Z4 O n []) _
 refine Zn [0] (Zb Zc [] ?_)
 simp only [push_cast,seval,Za,hN0,hN]
 refine Zf ?_
 obtain ⟨y6,hy6,ey6,h⟩:=bY (f:=(eI .i64)) (cs:=[.val (.int .i64 0),.val (.int .i64 1),.val (.int .i64 8),.val (.int .i64 16),.val (.int .i64 32),.val (.int .i64 64),.val (.int .i64 64)]) rfl h
 have g7:=congrArg G.agg ey6
 obtain ⟨y8,hy8,ey8,h⟩:=bY (f:=(eI .i64)) (cs:=[.val (.int .i64 0),.val (.int .i64 0),.val (.int .i64 0),.val (.int .i64 0),.val (.int .i64 0),.val (.int .i64 0),.val (.int .i64 0)]) rfl h
 have g9:=congrArg (GObj.mk false 171 7 1) ey8
 have g10:=Ztl (f:=(eI .i64)) y8 y6 (fun _=>rfl)
 refine Zb Zc [] ?_
 simp only [push_cast,seval,Za,g7,g9,g10,hN0,hN]
 refine Zg [0,3] [true] ?_
 simp only [push_cast,seval]
 obtain ⟨x12,hx12,ax12,bx12,cx12,h⟩:=bEA (f:=(eI .i64)) (b:=7) rfl Zok (fun _=>rfl) (by decide) h
 refine Zn [2] (Zb Zc [] ?_)
 simp only [push_cast,Nat.reduceAdd,Nat.reduceSub,Nat.reduceMul,Nat.reduceLeDiff,Nat.reduceLT,Nat.reduceEqDiff,↓reduceIte,reduceCtorEq,Int.reduceBEq,Int.reduceBNe,Nat.reduceBEq,Int.reduceLE,Int.reduceLT,Int.reduceEq,Int.reduceNe,Int.reduceNeg,Nat.reduceDiv,Nat.reduceMod,Nat.reducePow,Za,ax12,bx12,cx12,hN0,hN]
 refine Zv ?_
 try simp only [Zh,Ze]
 have h:=Option.some.inj h;subst h
 refine Zo (.inr rfl) hU [.val (.int .i64 x12)] (by omega) ?_
 simp only [push_cast,seval,Za,Try.results88,hN0,hN]
theorem Zqe {a0:Z8} {r:(Int×Bool)} {O:Objs} {n:Nat} (h:Qr a0=some r):GTo Try.prog 50 [.agg (Yp a0)] O n (.tup [.val (.int .i64 r.1),.val (.bool r.2)]) O n:=by
 unfold Qr at h
 refine Yi Zc Try.call50 Try.func50 rfl (Nat.le_of_ble_eq_true rfl) (Nat.le_refl _) fun hU => ?_
 have hN0:O n=none:=hU.fresh _ (Nat.le_refl _)
 have hN:∀ k,O (n+k)=none:=fun k=>hU.fresh _ (Nat.le_add_right _ _)
 show W _ _ _ _ ⟨57,[],[(0,.agg (Yp a0))]⟩ (Z4 O n []) _
 refine Zn [1] (Zb Zc [] ?_)
 simp only [push_cast,seval,Za,hN0,hN]
 refine Zf ?_
 refine Yl ?_
 refine Zn [1,4] (Zb Zc [] ?_)
 simp only [push_cast,seval,Za,hN0,hN]
 refine Zq (t:=(a0.Kind == 1)) rfl (fun c5 => ?_) (fun c5 => ?_)
 ·replace h:=Zz c5 h
  refine Zn [2,3] (Zb Zc [] ?_)
  simp only [push_cast,seval,Za,hN0,hN]
  refine Zv ?_
  try simp only [Zh,Ze]
  have h:=Option.some.inj h;subst h
  refine Zo (.inr rfl) hU [.val (.int .i64 (IntKind.i64.wrap (a0.Data+a0.Ptrs))),.val (.bool true)] (by omega) ?_
  simp only [push_cast,seval,Za,Try.results50,hN0,hN]
 replace h:=Zy c5 h
 refine Zn [1,13] (Zb Zc [none,none,none] ?_)
 simp only [push_cast,seval,Za,hN0,hN]
 repeat (with_reducible refine And.intro (by first | (intro h0;simp only [h0];done) | (intro h0;simp only [h0,true_and,and_true,imp_self,implies_true,ne_eq,beq_iff_eq];done) | (intros;simp_all;done) | exact True.intro) ?_)
 refine Zq (t:=(cond (a0.Kind == 2) (a0.Code == 7) false)) rfl (fun c4 => ?_) (fun c4 => ?_)
 ·replace h:=Zz c4 h
  refine Zn [2,3] (Zb Zc [] ?_)
  simp only [push_cast,seval,Za,hN0,hN]
  refine Zv ?_
  try simp only [Zh,Ze]
  have h:=Option.some.inj h;subst h
  refine Zo (.inr rfl) hU [.val (.int .i64 (IntKind.i64.wrap (a0.Count+1))),.val (.bool true)] (by omega) ?_
  simp only [push_cast,seval,Za,Try.results50,hN0,hN]
 replace h:=Zy c4 h
 refine Zn [1,25] (Zb Zc [none,none,none,none,none,none,none,none,none,none,none,none] ?_)
 simp only [push_cast,seval,Za,hN0,hN]
 repeat (with_reducible refine And.intro (by first | (intro h0;simp only [h0];done) | (intro h0;simp only [h0,true_and,and_true,imp_self,implies_true,ne_eq,beq_iff_eq];done) | (intros;simp_all;done) | exact True.intro) ?_)
 refine Zq (t:=(cond (cond (cond (cond (a0.Kind == 2) (decide (0≤a0.Code)) false) (decide (a0.Code < 7)) false) (decide (0≤a0.Count)) false) (decide (a0.Count≤536870911)) false)) rfl (fun c3 => ?_) (fun c3 => ?_)
 ·replace h:=Zz c3 h
  refine Zf ?_
  obtain ⟨y2,hy2,h⟩:=bC h
  refine Y1 Zc (by kernel_rfl) [] (by kernel_rfl) ?_
  simp only [push_cast,seval,Za,hN0,hN]
  refine PCall.of (Zx9 hy2) ?_
  simp only [push_cast,seval,Za,hN0,hN]
  refine Zg [2,3] [false] ?_
  simp only [push_cast,seval]
  refine Zv ?_
  try simp only [Zh,Ze]
  have h:=Option.some.inj h;subst h
  refine Zo (.inr rfl) hU [.val (.int .i64 (IntKind.i64.wrap (Int.tdiv (IntKind.i64.wrap ((IntKind.i64.wrap (a0.Count * y2))+63)) 64))),.val (.bool true)] (by omega) ?_
  simp only [push_cast,seval,Za,Try.results50,hN0,hN]
 replace h:=Zy c3 h
 refine Zt ?_
 try simp only [Zh,Ze]
 refine Zg [] [false] ?_
 simp only [push_cast,seval]
 refine Zn [2,3] (Zb Zc [] ?_)
 simp only [push_cast,seval,Za,hN0,hN]
 refine Zv ?_
 try simp only [Zh,Ze]
 have h:=Option.some.inj h;subst h
 refine Zo (.inr rfl) hU [.val (.int .i64 0),.val (.bool false)] (by omega) ?_
 simp only [push_cast,seval,Za,Try.results50,hN0,hN]
theorem Zfe {a0:Int} {a1:Int} {a2:Int} {a3:Int} {r:Int} {O:Objs} {n:Nat} (h:Gn a0 a1 a2 a3=some r):GTo Try.prog 98 [.val (.int .i64 a0),.val (.int .i64 a1),.val (.int .u64 a2),.val (.int .u64 a3)] O n (.val (.int .u64 r)) O n:=by
 unfold Gn at h
 refine Yi Zc Try.call98 Try.func98 rfl (Nat.le_of_ble_eq_true rfl) (Nat.le_refl _) fun hU => ?_
 have hN0:O n=none:=hU.fresh _ (Nat.le_refl _)
 have hN:∀ k,O (n+k)=none:=fun k=>hU.fresh _ (Nat.le_add_right _ _)
 show W _ _ _ _ ⟨26,[],[(0,.val (.int .i64 a0)),(1,.val (.int .i64 a1)),(2,.val (.int .u64 a2)),(3,.val (.int .u64 a3))]⟩ (Z4 O n []) _
 refine Zn [0,1,2,3] (Zb Zc [] ?_)
 simp only [push_cast,seval,Za,hN0,hN]
 refine Zn [2,3,9] (Zb Zc [] ?_)
 simp only [push_cast,seval,Za,hN0,hN]
 obtain ⟨z1,hz1,h⟩:=bC h
 refine Yt (E':=⟨26,[],[(2,.val (.int .u64 a2)),(3,.val (.int .u64 a3)),(9,.val (.int .i64 z1))]⟩) (O':=(Z4 O n [])) (n0:=n) ?_ ?_
 ·refine Zn [2,3,9,15] (Zb Zc [] ?_)
  simp only [push_cast,seval,Za,hN0,hN]
  refine Zq (t:=(decide ((IntKind.i64.wrap ((IntKind.i64.wrap (a1 - a0)) - 1)) < 0))) rfl (fun c2 => ?_) (fun c2 => ?_)
  ·replace hz1:=Zz c2 hz1
   refine Zb Zc [] ?_
   simp only [push_cast,seval,Za,hN0,hN]
   have hz1:=Option.some.inj hz1;subst hz1
   refine And.intro rfl (Fit2.of (Zp hU rfl rfl ?_) (by omega))
   simp only [push_cast,seval,Za,hN0,hN]
  replace hz1:=Zy c2 hz1
  refine Zt ?_
  try simp only [Zh,Ze]
  have hz1:=Option.some.inj hz1;subst hz1
  refine And.intro rfl (Fit2.of (Zp hU rfl rfl ?_) (by omega))
  simp only [push_cast,seval,Za,hN0,hN]
 refine Zn [8] (Zb Zc [] ?_)
 simp only [push_cast,seval,Za,hN0,hN]
 refine Zv ?_
 try simp only [Zh,Ze]
 have h:=Option.some.inj h;subst h
 refine Zo (.inr rfl) hU [.val (.int .u64 (IntKind.u64.wrap ((IntKind.u64.wrap ((IntKind.u64.wrap (IntKind.i64.wrap (4 * z1)))+a2))+(IntKind.u64.wrap (a3 * 4294967296)))))] (by omega) ?_
 simp only [push_cast,seval,Za,Try.results98,hN0,hN]
theorem Znj  {r:Z3} {O:Objs} {n:Nat}  (h:Zam=some r):GTo Try.prog 15 [] O n (.ref n 0) (Z4 O n [some ⟨false,93,2,1,[.row (n+1) r.classes.length,.row (n+2) r.places.length]⟩,some ⟨true,99,10,r.classes.length,fl Zj r.classes⟩,some ⟨true,3,1,r.places.length,fl (eI .i64) r.places⟩]) (n+3):=by
 unfold Zam at h
 refine Yi Zc Try.call15 Try.func15 rfl (Nat.le_of_ble_eq_true rfl) (by omega) fun hU => ?_
 have hN0:O n=none:=hU.fresh _ (Nat.le_refl _)
 have hN:∀ k,O (n+k)=none:=fun k=>hU.fresh _ (Nat.le_add_right _ _)
 show W _ _ _ _ ⟨3,[],[]⟩ (Z4 O n []) _
 refine Zn [] (Zb Zc [] ?_)
 simp only [push_cast,seval,Za,hN0,hN]
 refine Zn [0] (Zb Zc [] ?_)
 simp only [push_cast,seval,Za,hN0,hN]
 refine Zv ?_
 try simp only [Zh,Ze]
 have h:=Option.some.inj h;subst h
 refine Zgl (k:=3) (L3:=[some ⟨false,93,2,1,[.row (n+1) ([]:List Zu).length,.row (n+2) ([]:List Int).length]⟩,some ⟨true,99,10,([]:List Zu).length,fl Zj ([]:List Zu)⟩,some ⟨true,3,1,([]:List Int).length,fl (eI .i64) ([]:List Int)⟩,none]) (E2:=(⟨3,[],[(0,.ref n 0)]⟩:Env)) (n3:=(n+4)) (.inr rfl) hU rfl [.ref n 0] ?_ ?_
 ·refine Fit2.trans (E':=(⟨3,[],[(0,.ref n 0)]⟩:Env)) (O':=(Z4 O n [some ⟨false,93,2,1,[.val (.slice none 0 0),.val (.slice none 0 0)]⟩])) (n':=(n+1)) (Fit2.of (Zp hU rfl rfl ?_) (by omega)) ?_
  ·simp only [push_cast,seval,Za,hN0,hN]
  refine Fit2.trans (Zcl (p:=n) (k:=0) (q:=⟨false,93,2,1,[.val (.slice none 0 0),.val (.slice none 0 0)]⟩) 99 10 (by simp only [Zc9,List.getElem?_cons_zero,List.getElem?_cons_succ,Option.join_some,List.length_nil]) rfl (by omega)) ?_
  simp only [Qh,Xl,Zgg,List.set_cons_zero,List.set_cons_succ,List.cons_append,List.nil_append,List.length_cons,List.length_nil,Nat.zero_add,Nat.reduceAdd,Nat.reduceLT,Nat.add_assoc]
  refine Fit2.trans (Zcl (p:=n) (k:=1) (q:=⟨false,93,2,1,[.row (n+1) ([]:List Zu).length,.val (.slice none 0 0)]⟩) 3 1 (by simp only [Zc9,List.getElem?_cons_zero,List.getElem?_cons_succ,Option.join_some,List.length_nil]) rfl (by omega)) ?_
  simp only [Qh,Xl,Zgg,List.set_cons_zero,List.set_cons_succ,List.cons_append,List.nil_append,List.length_cons,List.length_nil,Nat.zero_add,Nat.reduceAdd,Nat.reduceLT,Nat.add_assoc]
  refine Zap (k:=3) (k':=4) hU [0,1,2] [0,1,2,0] rfl rfl rfl rfl ⟨rfl,rfl⟩ ?_
  simp only [push_cast,seval,Za,hN0,hN]
 simp only [push_cast,seval,Za,Try.results15,hN0,hN]
end Go.Proofs.Ytaddaloondpnkaa
