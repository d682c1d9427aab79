/- Part UM3 of this seat's mirrors: functions of the seat's program, and the plain functions that they are; each theorem bears its own conditions. -/
import Derived.Test.YtaddaloondpnkaaUM1
namespace Go.Proofs.Ytaddaloondpnkaa
open Go.RowKit
set_option linter.unusedVariables false
set_option linter.unusedSimpArgs false
set_option maxRecDepth 100000
set_option maxHeartbeats 4000000
attribute [local push_cast] Qj Zm Z0 Yj Yp Zk Zh Ze Xi Zbs Zaj Znf Zjf Zen Zer Zem Zeq Zhi Zhd Zep Zhh Zhg Zhf Zeo Zhc Zc6 evS wok Q6 Op.operands Call.operands gop atK List.all_cons List.all_nil Bool.and_self Value.oneCell' List.take_zero List.take_succ_cons List.take_nil List.drop_zero List.drop_succ_cons List.drop_nil List.append_nil Nat.add_zero Nat.zero_add Vp Yh ev Qs Zf4 Zkk Zkj Zkp Zkn Zko Zkl Zkm Zki Zo2 Zp0 Ztj Ze2 Gr Ze0 Zas Zef Zcx Zbd Zbi Zcr Zcn Zbg Zcq Zcp Zco Zbf Zcm Zbe Zbh Zai Z1e Zh6 Zcw Uf Zd5 Ug Zf5 Zez Zsb bLo bHi bMx Gs Zf3 Zu0 Zex Zgn Zbt Vi Zo6 Zu1 Zd4 Zbr Zu2 Gq Zxp Zgr Zgv Zgq Zgu Zk7 Zk3 Zk2 Zej Zgs Zk6 Zk5 Zk4 Zgt Zky Zk1 Zkx Zk0 Zp9 Zp6 Zp5 Zkz Zp7 Zp8 Zf6 Zm1 pop TK.isAgg Zk9 Zld Zk8 Zlc Zgz Zqk Zqg Zlb Zqj Zqi Zqh Zla Zqf G.under G.unders List.getD_cons_zero List.getD_cons_succ List.set_cons_zero List.set_cons_succ List.map_cons List.map_nil List.toList_toArray Array.toList_append Option.toArray_none Option.toArray_some Option.map_some Option.map_none Option.bind_some Option.bind_none List.getElem?_cons_zero List.getElem?_cons_succ List.getElem?_nil List.nil_append List.cons_append List.replicate_succ List.replicate_zero List.length_cons List.length_nil and_true true_and Bool.true_eq_false Bool.false_eq_true forall_const implies_true IntKind.bits ite_true ite_false eq_self or_false not_false_eq_true beq_iff_eq bne_iff_ne ne_eq beq_eq_false_iff_ne bne_eq_false_iff_eq beq_self_eq_true Option.some.injEq exists_eq_left' ge_iff_le gt_iff_lt Bool.not_true imp_self cond_true cond_false Z5s Z5r Gk Zc9 Zae Zgg Qh Xl Option.join_some Nat.add_assoc Int.toNat_natCast eI eL Qk Zcv Zbj Zkt Zkr Zks Zyb Z0f Zg0 Zfv Zlm Zlk Zll Zua Zi2 Zrw Ziz Zou G.agg.injEq G.tup.injEq List.flatten_cons List.flatten_nil Nat.le_refl Zfo Xo Js Bool.not_eq_true' Zmz Zds Zrr Z2h Zrq Z04 Yd1 List.size_toArray Zog Znn G.ren G.rens Zqs Zfk Zst Zkg Zkh Z0x Z8c Ybu G.fn.injEq Zj8 Zpu Z03 Zrp Zx3 Z2z Option.join_none Ye V3 undef Zgo Zli Zqn Zc0 Zjx Zlj Zlg Zlh onB Zya Zo1 Z5c Z5d Z5e Zek Zqq Zqo Zoe Zjy Zqp Zg5 Zg4 Zg3 Zg2 Z0e Z0d Zu7 Zsd Vy Zt3 Zm2 Zyc Znq Zf2 Zgk Zce Zdi Z41 Zrf Zok Zrg Z42 Zrh Z43 Zri Z44 Zrj Z45 Zrk Z46 Zrl Z47 Zrm Zv2 Zlv Zv3 Zlw Zv4 Zlx Zv5 Zly Zv6 Zlz Zv7 Zl0 Zv8 Zl1 Zv9 Zl2 Zwa Zl3 Zwb Zl4 Zwc Zl5 U1 Zdd Zr8 Ziu Zwd Zl6 Za3 Zl7 Zwe Ziv Zwf Zl8 Zwg Zl9 Zwh Zma Zwi Ziw Zwj Zmb Zwk Zmc Zwl Zmd Zwm Zme Vz Zmf Zwn Zmg Zwo Zmh Zwp Zmi Zwq Zmj Zwr Zmk Zws Zml Zwt Zmm Zwu Zmn Zwv Zmo Zww Zmp Zwx Zmq Zwy Zmr Zwz Zms Zw0 Zmt Zw1 Zmu Zw2 Zmv Zw3 Zmw Zw4 Zmx Zps Zmy Zqy Zhl Zqz Zhm Zq0 Zhn Zq1 Zho Zq2 Zhp Zq3 Zhq Zq4 Zhr Zq5 Zhs Zq6 Zht Zq7 Zhu Zq8 Zhv Zq9 Zhw Zra Zhx Zrb Zhy Zrc Zhz Zrd Zh0 Zre Zh1 Zx Zbc Zgf Znd Zj0 Zl Zj Y6
theorem Z0a {a0:(List (List Int))} {r:(Option Zr)} {O:Objs} {n:Nat} (h:Zfb a0=some r):GTo Try.prog 44 [.sl a0.length (fl (eL (eI .u64)) a0)] O n ((gP Zx r)) O n:=by
 unfold Zfb at h
 refine Yi Zc Try.call44 Try.func44 rfl (Nat.le_of_ble_eq_true rfl) (Nat.le_refl _) fun hU => ?_
 have hN0:O n=none:=hU.fresh _ (Nat.le_refl _)
 have hN:∀ k,O (n+k)=none:=fun k=>hU.fresh _ (Nat.le_add_right _ _)
 show W _ _ _ _ ⟨7,[],[(0,.sl a0.length (fl (eL (eI .u64)) a0))]⟩ (Z4 O n []) _
 refine Zn [0] (Zb Zc [] ?_)
 simp only [push_cast,seval,Za,hN0,hN]
 refine Zf ?_
 obtain ⟨y2,hy2,h⟩:=bC h
 refine Zb Zc [] ?_
 simp only [push_cast,seval,Za,hN0,hN]
 refine (Zt8 hy2).then ?_
 simp only [push_cast,seval,Za,hN0,hN]
 refine Zg [2] [true] ?_
 simp only [push_cast,seval]
 refine Zv ?_
 try simp only [Zh,Ze]
 have h:=Option.some.inj h;subst h
 refine Zo (.inr rfl) hU [.ref n 0] (by omega) ?_
 simp only [push_cast,seval,Za,Try.results44,hN0,hN]
theorem Zm4 {a0:(Option Zr)} {a1:Int} {a2:Int} {a3:Int} {r:((List Int)×Bool)} {O:Objs} {n:Nat} (h:Vq a0 a1 a2 a3=some r):GTo Try.prog 143 [(gP Zx a0),.val (.int .i64 a1),.val (.int .i64 a2),.val (.int .i64 a3)] O n (.tup [.sl r.1.length (fl (eI .u64) r.1),.val (.bool r.2)]) O n:=by
 unfold Vq at h
 refine Yi Zc Try.call143 Try.func143 rfl (Nat.le_of_ble_eq_true rfl) (Nat.le_refl _) fun hU => ?_
 have hN0:O n=none:=hU.fresh _ (Nat.le_refl _)
 have hN:∀ k,O (n+k)=none:=fun k=>hU.fresh _ (Nat.le_add_right _ _)
 show W _ _ _ _ ⟨29,[],[(0,(gP Zx a0)),(1,.val (.int .i64 a1)),(2,.val (.int .i64 a2)),(3,.val (.int .i64 a3))]⟩ (Z4 O n []) _
 refine Zn [0,1,2,3] (Zb Zc [] ?_)
 simp only [push_cast,seval,Za,hN0,hN]
 refine Zf ?_
 refine Zf ?_
 obtain ⟨y2,hy2,h⟩:=bC h
 refine Zb Zc [] ?_
 simp only [push_cast,seval,Za,hN0,hN]
 refine (Za8 hy2).then ?_
 simp only [push_cast,seval,Za,hN0,hN]
 refine Zg [0,1,2,3,15] [] ?_
 simp only [push_cast,seval]
 refine Zq (t:=(!y2)) rfl (fun c11 => ?_) (fun c11 => ?_)
 ·replace h:=Zz c11 h
  refine Zn [8,9] (Zb Zc [] ?_)
  simp only [push_cast,seval,Za,hN0,hN]
  refine Zv ?_
  try simp only [Zh,Ze]
  have h:=Option.some.inj h;subst h
  refine Zo (.inr rfl) hU [.val (.slice none 0 0),.val (.bool false)] (by omega) ?_
  simp only [push_cast,seval,Za,Try.results143,hN0,hN]
 replace h:=Zy c11 h
 refine Zt ?_
 try simp only [Zh,Ze]
 refine Zg [0,1,2,3] [] ?_
 simp only [push_cast,seval]
 refine Zf ?_
 obtain ⟨x7,hx7,h⟩:=bC h
 obtain ⟨x8,hx8,ax8,bx8,cx8,h⟩:=bE (f:=(eL (eI .u64))) U1 (fun _=>rfl) (by decide) h
 obtain ⟨l9,al9,bl9,cl9,gl9,h⟩:=bS (lo:=(some (.i64,a2))) (hi:=(some (.i64,(IntKind.i64.wrap (a2+a3))))) (f:=(eI .u64)) rfl rfl Zdd Vz (fun _=>rfl) h
 obtain ⟨y10,hy10,h⟩:=bC h
 refine Zb Zc [] ?_
 simp only [push_cast,Nat.reduceAdd,Nat.reduceSub,Nat.reduceMul,Nat.reduceLeDiff,Nat.reduceLT,Nat.reduceEqDiff,↓reduceIte,reduceCtorEq,Int.reduceBEq,Int.reduceBNe,Nat.reduceBEq,Int.reduceLE,Int.reduceLT,Int.reduceEq,Int.reduceNe,Int.reduceNeg,Nat.reduceDiv,Nat.reduceMod,Nat.reducePow,Za,hx7,ax8,bx8,cx8,al9,bl9,cl9,gl9,hN0,hN]
 refine (U5  hy10).then ?_
 simp only [push_cast,Nat.reduceAdd,Nat.reduceSub,Nat.reduceMul,Nat.reduceLeDiff,Nat.reduceLT,Nat.reduceEqDiff,↓reduceIte,reduceCtorEq,Int.reduceBEq,Int.reduceBNe,Nat.reduceBEq,Int.reduceLE,Int.reduceLT,Int.reduceEq,Int.reduceNe,Int.reduceNeg,Nat.reduceDiv,Nat.reduceMod,Nat.reducePow,Za,hx7,ax8,bx8,cx8,al9,bl9,cl9,gl9,hN0,hN]
 refine Zg [8,9] [true] ?_
 simp only [push_cast,seval]
 refine Zv ?_
 try simp only [Zh,Ze]
 have h:=Option.some.inj h;subst h
 refine Zo (.inr rfl) hU [.row n y10.length,.val (.bool true)] (by omega) ?_
 simp only [push_cast,seval,Za,Try.results143,hN0,hN]
theorem Zgd {a0:(Option Zr)} {a1:Z8} {a2:Int} {a3:Int} {r:(Xr×Int)} {O:Objs} {n:Nat} (h:Ga a0 a1 a2 a3=some r):GTo Try.prog 135 [(gP Zx a0),.agg (Yp a1),.val (.int .i64 a2),.val (.int .i64 a3)] O n (.tup [.agg [.val (.int .i64 r.1.P.Kind),.val (.int .i64 r.1.P.Off),.val (.int .i64 r.1.P.Data),.val (.int .i64 r.1.P.Ptrs),.val (.int .i64 r.1.P.Code),.val (.int .i64 r.1.P.Count),.val (.int .i64 r.1.P.Segment),.val (.bool r.1.P.Double),.val (.int .i64 r.1.Segment),.val (.int .i64 r.1.At)],.val (.int .i64 r.2)]) O n:=by
 unfold Ga at h
 refine Yi Zc Try.call135 Try.func135 rfl (Nat.le_of_ble_eq_true rfl) (Nat.le_refl _) fun hU => ?_
 have hN0:O n=none:=hU.fresh _ (Nat.le_refl _)
 have hN:∀ k,O (n+k)=none:=fun k=>hU.fresh _ (Nat.le_add_right _ _)
 show W _ _ _ _ ⟨36,[],[(0,(gP Zx a0)),(1,.agg (Yp a1)),(2,.val (.int .i64 a2)),(3,.val (.int .i64 a3))]⟩ (Z4 O n []) _
 refine Zn [0,2,3,5,8] (Zb Zc [] ?_)
 simp only [push_cast,seval,Za,hN0,hN]
 refine Zf ?_
 refine Zn [0,2,3,5,8,14] (Zb Zc [] ?_)
 simp only [push_cast,seval,Za,hN0,hN]
 refine Zq (t:=(a1.Kind == 4)) rfl (fun c7 => ?_) (fun c7 => ?_)
 ·replace h:=Zz c7 h
  refine Zf ?_
  refine Zb Zc [] ?_
  simp only [push_cast,seval,Za,hN0,hN]
  refine Zg [8,9] [false,true] ?_
  simp only [push_cast,seval]
  refine Zv ?_
  try simp only [Zh,Ze]
  have h:=Option.some.inj h;subst h
  refine Zo (.inr rfl) hU [.agg [.val (.int .i64 0),.val (.int .i64 0),.val (.int .i64 0),.val (.int .i64 0),.val (.int .i64 0),.val (.int .i64 0),.val (.int .i64 0),.val (.bool false),.val (.int .i64 0),.val (.int .i64 0)],.val (.int .i64 9)] (by omega) ?_
  simp only [push_cast,seval,Za,Try.results135,hN0,hN]
 replace h:=Zy c7 h
 refine Zt ?_
 try simp only [Zh,Ze]
 refine Zg [0,2,3,5,8] [true,true] ?_
 simp only [push_cast,seval]
 refine Zf ?_
 obtain ⟨y2,hy2,h⟩:=bC h
 refine Zb Zc [] ?_
 simp only [push_cast,seval,Za,hN0,hN]
 refine (Zqe hy2).then ?_
 simp only [push_cast,seval,Za,hN0,hN]
 refine Zg [0,2,3,5,8,10,11] [true,true] ?_
 simp only [push_cast,seval]
 refine Zf ?_
 refine Zn [0,2,3,5,8,10,22] (Zb Zc [] ?_)
 simp only [push_cast,seval,Za,hN0,hN]
 refine Zq (t:=(!y2.2)) rfl (fun c6 => ?_) (fun c6 => ?_)
 ·replace h:=Zz c6 h
  refine Zf ?_
  refine Zb Zc [] ?_
  simp only [push_cast,seval,Za,hN0,hN]
  refine Zg [8,9] [false,true] ?_
  simp only [push_cast,seval]
  refine Zv ?_
  try simp only [Zh,Ze]
  have h:=Option.some.inj h;subst h
  refine Zo (.inr rfl) hU [.agg [.val (.int .i64 0),.val (.int .i64 0),.val (.int .i64 0),.val (.int .i64 0),.val (.int .i64 0),.val (.int .i64 0),.val (.int .i64 0),.val (.bool false),.val (.int .i64 0),.val (.int .i64 0)],.val (.int .i64 8)] (by omega) ?_
  simp only [push_cast,seval,Za,Try.results135,hN0,hN]
 replace h:=Zy c6 h
 refine Zt ?_
 try simp only [Zh,Ze]
 refine Zg [0,2,3,5,8,10] [true,true] ?_
 simp only [push_cast,seval]
 refine Zf ?_
 refine Zf ?_
 obtain ⟨y4,hy4,h⟩:=bC h
 refine Zb Zc [] ?_
 simp only [push_cast,seval,Za,hN0,hN]
 refine (Za8 hy4).then ?_
 simp only [push_cast,seval,Za,hN0,hN]
 refine Zg [2,3,5,8,29] [true,true] ?_
 simp only [push_cast,seval]
 refine Zq (t:=(!y4)) rfl (fun c5 => ?_) (fun c5 => ?_)
 ·replace h:=Zz c5 h
  refine Zf ?_
  refine Zb Zc [] ?_
  simp only [push_cast,seval,Za,hN0,hN]
  refine Zg [8,9] [false,true] ?_
  simp only [push_cast,seval]
  refine Zv ?_
  try simp only [Zh,Ze]
  have h:=Option.some.inj h;subst h
  refine Zo (.inr rfl) hU [.agg [.val (.int .i64 0),.val (.int .i64 0),.val (.int .i64 0),.val (.int .i64 0),.val (.int .i64 0),.val (.int .i64 0),.val (.int .i64 0),.val (.bool false),.val (.int .i64 0),.val (.int .i64 0)],.val (.int .i64 7)] (by omega) ?_
  simp only [push_cast,seval,Za,Try.results135,hN0,hN]
 replace h:=Zy c5 h
 refine Zt ?_
 try simp only [Zh,Ze]
 refine Zg [2,3,5,8] [true,true] ?_
 simp only [push_cast,seval]
 refine Zf ?_
 refine Zb Zc [] ?_
 simp only [push_cast,seval,Za,hN0,hN]
 refine Zg [2,3,5,8] [true,true] ?_
 simp only [push_cast,seval]
 refine Zf ?_
 refine Zb Zc [] ?_
 simp only [push_cast,seval,Za,hN0,hN]
 refine Zg [8,9] [false,true] ?_
 simp only [push_cast,seval]
 refine Zv ?_
 try simp only [Zh,Ze]
 have h:=Option.some.inj h;subst h
 refine Zo (.inr rfl) hU [.agg [.val (.int .i64 a1.Kind),.val (.int .i64 0),.val (.int .i64 a1.Data),.val (.int .i64 a1.Ptrs),.val (.int .i64 a1.Code),.val (.int .i64 a1.Count),.val (.int .i64 a1.Segment),.val (.bool a1.Double),.val (.int .i64 a2),.val (.int .i64 a3)],.val (.int .i64 0)] (by omega) ?_
 simp only [push_cast,seval,Za,Try.results135,hN0,hN]
theorem Zu5 {a0:(Option Zr)} {a1:Int} {a2:Int} {r:(Xr×Int)} {O:Objs} {n:Nat} (h:Zb1 a0 a1 a2=some r):GTo Try.prog 133 [(gP Zx a0),.val (.int .i64 a1),.val (.int .i64 a2)] O n (.tup [.agg [.val (.int .i64 r.1.P.Kind),.val (.int .i64 r.1.P.Off),.val (.int .i64 r.1.P.Data),.val (.int .i64 r.1.P.Ptrs),.val (.int .i64 r.1.P.Code),.val (.int .i64 r.1.P.Count),.val (.int .i64 r.1.P.Segment),.val (.bool r.1.P.Double),.val (.int .i64 r.1.Segment),.val (.int .i64 r.1.At)],.val (.int .i64 r.2)]) O n:=by
 unfold Zb1 at h
 refine Yi Zc Try.call133 Try.func133 rfl (Nat.le_of_ble_eq_true rfl) (Nat.le_refl _) fun hU => ?_
 have hN0:O n=none:=hU.fresh _ (Nat.le_refl _)
 have hN:∀ k,O (n+k)=none:=fun k=>hU.fresh _ (Nat.le_add_right _ _)
 show W _ _ _ _ ⟨56,[],[(0,(gP Zx a0)),(1,.val (.int .i64 a1)),(2,.val (.int .i64 a2))]⟩ (Z4 O n []) _
 refine Zn [0,1,2,6] (Zb Zc [] ?_)
 simp only [push_cast,seval,Za,hN0,hN]
 refine Zf ?_
 obtain ⟨y2,hy2,h⟩:=bC h
 refine Zb Zc [] ?_
 simp only [push_cast,seval,Za,hN0,hN]
 refine (Zm4 hy2).then ?_
 simp only [push_cast,seval,Za,hN0,hN]
 refine Zg [0,6,8,9] [true] ?_
 simp only [push_cast,seval]
 refine Zf ?_
 refine Zn [0,6,8,20] (Zb Zc [] ?_)
 simp only [push_cast,seval,Za,hN0,hN]
 refine Zq (t:=(!y2.2)) rfl (fun c11 => ?_) (fun c11 => ?_)
 ·replace h:=Zz c11 h
  refine Zf ?_
  refine Zb Zc [] ?_
  simp only [push_cast,seval,Za,hN0,hN]
  refine Zg [6,7] [true] ?_
  simp only [push_cast,seval]
  refine Zv ?_
  try simp only [Zh,Ze]
  have h:=Option.some.inj h;subst h
  refine Zo (.inr rfl) hU [.agg [.val (.int .i64 0),.val (.int .i64 0),.val (.int .i64 0),.val (.int .i64 0),.val (.int .i64 0),.val (.int .i64 0),.val (.int .i64 0),.val (.bool false),.val (.int .i64 0),.val (.int .i64 0)],.val (.int .i64 7)] (by omega) ?_
  simp only [push_cast,seval,Za,Try.results133,hN0,hN]
 replace h:=Zy c11 h
 refine Zt ?_
 try simp only [Zh,Ze]
 refine Zg [0,6,8] [true] ?_
 simp only [push_cast,seval]
 obtain ⟨x3,hx3,ax3,bx3,cx3,h⟩:=bE (f:=(eI .u64)) Vz (fun _=>rfl) (by decide) h
 obtain ⟨y4,hy4,h⟩:=bC h
 obtain ⟨x5,hx5,ax5,bx5,cx5,h⟩:=bE (f:=(eI .u64)) Vz (fun _=>rfl) (by decide) h
 obtain ⟨y6,hy6,h⟩:=bC h
 refine Yt (E':=⟨56,[],[(0,(gP Zx a0)),(6,.ref n 0),(10,.ref (n+1) 0),(11,.ref (n+2) 0)]⟩) (O':=(Z4 O n [some ⟨false,160,10,1,[.val (.int .i64 0),.val (.int .i64 0),.val (.int .i64 0),.val (.int .i64 0),.val (.int .i64 0),.val (.int .i64 0),.val (.int .i64 0),.val (.bool false),.val (.int .i64 0),.val (.int .i64 0)]⟩,some ⟨false,109,8,1,(Yp y4)⟩,some ⟨false,109,8,1,(Yp y6)⟩])) (n0:=(n+3)) ?_ ?_
 ·refine Z2k Zc (by kernel_rfl) [.low,.low,.low,.low,.low,.low,.low,.low,.pass,.pass,.pass,.pass] (fun i=>i < (n+1)) 8 9 [0,1,2,3,4,5,6,7] [10,11] [.low,.low,.low,.low,.low,.low,.low,.low] [.pass,.pass,.pass,.pass] [.pass,.pass,.pass,.pass] [] (by kernel_rfl) rfl rfl rfl ?_
  simp only [push_cast,Nat.reduceAdd,Nat.reduceSub,Nat.reduceMul,Nat.reduceLeDiff,Nat.reduceLT,Nat.reduceEqDiff,↓reduceIte,reduceCtorEq,Int.reduceBEq,Int.reduceBNe,Nat.reduceBEq,Int.reduceLE,Int.reduceLT,Int.reduceEq,Int.reduceNe,Int.reduceNeg,Nat.reduceDiv,Nat.reduceMod,Nat.reducePow,Za,ax3,bx3,cx3,ax5,bx5,cx5,hN0,hN]
  repeat (with_reducible refine And.intro (by omega) ?_)
  first | refine PCallA.of (fun _ _=>Uk hy4) ?_ | refine PCall.of (Uk hy4) ?_
  simp only [push_cast,Nat.reduceAdd,Nat.reduceSub,Nat.reduceMul,Nat.reduceLeDiff,Nat.reduceLT,Nat.reduceEqDiff,↓reduceIte,reduceCtorEq,Int.reduceBEq,Int.reduceBNe,Nat.reduceBEq,Int.reduceLE,Int.reduceLT,Int.reduceEq,Int.reduceNe,Int.reduceNeg,Nat.reduceDiv,Nat.reduceMod,Nat.reducePow,Za,ax3,bx3,cx3,ax5,bx5,cx5,hN0,hN]
  repeat (with_reducible refine And.intro (by omega) ?_)
  first | refine PCallA.of (fun _ _=>Uk hy6) ?_ | refine PCall.of (Uk hy6) ?_
  simp only [push_cast,Nat.reduceAdd,Nat.reduceSub,Nat.reduceMul,Nat.reduceLeDiff,Nat.reduceLT,Nat.reduceEqDiff,↓reduceIte,reduceCtorEq,Int.reduceBEq,Int.reduceBNe,Nat.reduceBEq,Int.reduceLE,Int.reduceLT,Int.reduceEq,Int.reduceNe,Int.reduceNeg,Nat.reduceDiv,Nat.reduceMod,Nat.reducePow,Za,ax3,bx3,cx3,ax5,bx5,cx5,hN0,hN]
  repeat (with_reducible refine And.intro (by omega) ?_)
  refine And.intro ?_ ?_
  ·simp only [push_cast,Nat.reduceAdd,Nat.reduceSub,Nat.reduceMul,Nat.reduceLeDiff,Nat.reduceLT,Nat.reduceEqDiff,↓reduceIte,reduceCtorEq,Int.reduceBEq,Int.reduceBNe,Nat.reduceBEq,Int.reduceLE,Int.reduceLT,Int.reduceEq,Int.reduceNe,Int.reduceNeg,Nat.reduceDiv,Nat.reduceMod,Nat.reducePow,Za,ax3,bx3,cx3,ax5,bx5,cx5,hN0,hN]
   repeat (with_reducible refine And.intro (by first | exact Kg rfl | exact Ja) ?_)
   refine And.intro rfl (Fit2.of (Zp hU rfl rfl ?_) (by omega))
   simp only [push_cast,Nat.reduceAdd,Nat.reduceSub,Nat.reduceMul,Nat.reduceLeDiff,Nat.reduceLT,Nat.reduceEqDiff,↓reduceIte,reduceCtorEq,Int.reduceBEq,Int.reduceBNe,Nat.reduceBEq,Int.reduceLE,Int.reduceLT,Int.reduceEq,Int.reduceNe,Int.reduceNeg,Nat.reduceDiv,Nat.reduceMod,Nat.reducePow,Za,ax3,bx3,cx3,ax5,bx5,cx5,hN0,hN]
  simp only [push_cast,Nat.reduceAdd,Nat.reduceSub,Nat.reduceMul,Nat.reduceLeDiff,Nat.reduceLT,Nat.reduceEqDiff,↓reduceIte,reduceCtorEq,Int.reduceBEq,Int.reduceBNe,Nat.reduceBEq,Int.reduceLE,Int.reduceLT,Int.reduceEq,Int.reduceNe,Int.reduceNeg,Nat.reduceDiv,Nat.reduceMod,Nat.reducePow,Za,ax3,bx3,cx3,ax5,bx5,cx5,hN0,hN]
  repeat (with_reducible refine And.intro (by first | exact Kg rfl | exact Ja) ?_)
  refine And.intro rfl ?_
  refine Fit2.trans (E':=(⟨56,[],[(0,(gP Zx a0)),(6,.ref n 0),(10,.ref (n+2) 0),(11,.ref (n+1) 0)]⟩:Env)) (O':=(Z4 O n [some ⟨false,160,10,1,[.val (.int .i64 0),.val (.int .i64 0),.val (.int .i64 0),.val (.int .i64 0),.val (.int .i64 0),.val (.int .i64 0),.val (.int .i64 0),.val (.bool false),.val (.int .i64 0),.val (.int .i64 0)]⟩,some ⟨false,109,8,1,(Yp y6)⟩,some ⟨false,109,8,1,(Yp y4)⟩])) (n':=(n+3)) (Fit2.of (Zp hU rfl rfl ?_) (by omega)) ?_
  ·simp only [push_cast,Nat.reduceAdd,Nat.reduceSub,Nat.reduceMul,Nat.reduceLeDiff,Nat.reduceLT,Nat.reduceEqDiff,↓reduceIte,reduceCtorEq,Int.reduceBEq,Int.reduceBNe,Nat.reduceBEq,Int.reduceLE,Int.reduceLT,Int.reduceEq,Int.reduceNe,Int.reduceNeg,Nat.reduceDiv,Nat.reduceMod,Nat.reducePow,Za,ax3,bx3,cx3,ax5,bx5,cx5,hN0,hN]
  refine Zap (k:=3) (k':=3) hU [0,2,1] [0,2,1] rfl rfl rfl rfl ⟨rfl,rfl⟩ ?_
  simp only [push_cast,seval,Za,hN0,hN]
 refine Zf ?_
 refine Zn [0,6,10,11,36] (Zb Zc [none,none] ?_)
 simp only [push_cast,seval,Za,hN0,hN]
 repeat (with_reducible refine And.intro (by first | (intro h0;simp only [h0];done) | (intro h0;simp only [h0,true_and,and_true,imp_self,implies_true,bne_iff_ne,ne_eq];done) | (intros;simp_all;done) | exact True.intro) ?_)
 refine Zq (t:=(cond (y4.Kind != 3) true y4.Double)) rfl (fun c10 => ?_) (fun c10 => ?_)
 ·replace h:=Zz c10 h
  refine Zf ?_
  refine Zb Zc [] ?_
  simp only [push_cast,seval,Za,hN0,hN]
  refine Zg [6,7] [true,false,false] ?_
  simp only [push_cast,seval]
  refine Zv ?_
  try simp only [Zh,Ze]
  have h:=Option.some.inj h;subst h
  refine Zo (.inr rfl) hU [.agg [.val (.int .i64 0),.val (.int .i64 0),.val (.int .i64 0),.val (.int .i64 0),.val (.int .i64 0),.val (.int .i64 0),.val (.int .i64 0),.val (.bool false),.val (.int .i64 0),.val (.int .i64 0)],.val (.int .i64 8)] (by omega) ?_
  simp only [push_cast,seval,Za,Try.results133,hN0,hN]
 replace h:=Zy c10 h
 refine Zt ?_
 try simp only [Zh,Ze]
 refine Zg [0,6,10,11] [true,true,true] ?_
 simp only [push_cast,seval]
 refine Zf ?_
 refine Zn [0,6,10,11,45] (Zb Zc [none,none,none] ?_)
 simp only [push_cast,seval,Za,hN0,hN]
 repeat (with_reducible refine And.intro (by first | (intro h0;simp only [h0];done) | (intro h0;simp only [h0,true_and,and_true,imp_self,implies_true,bne_iff_ne,ne_eq];done) | (intros;simp_all;done) | exact True.intro) ?_)
 refine Zq (t:=(cond (y6.Kind != 4) (y6.Off != 0) false)) rfl (fun c9 => ?_) (fun c9 => ?_)
 ·replace h:=Zz c9 h
  refine Zf ?_
  refine Zb Zc [] ?_
  simp only [push_cast,seval,Za,hN0,hN]
  refine Zg [6,7] [true,false,false] ?_
  simp only [push_cast,seval]
  refine Zv ?_
  try simp only [Zh,Ze]
  have h:=Option.some.inj h;subst h
  refine Zo (.inr rfl) hU [.agg [.val (.int .i64 0),.val (.int .i64 0),.val (.int .i64 0),.val (.int .i64 0),.val (.int .i64 0),.val (.int .i64 0),.val (.int .i64 0),.val (.bool false),.val (.int .i64 0),.val (.int .i64 0)],.val (.int .i64 8)] (by omega) ?_
  simp only [push_cast,seval,Za,Try.results133,hN0,hN]
 replace h:=Zy c9 h
 refine Zt ?_
 try simp only [Zh,Ze]
 refine Zg [0,6,10,11] [true,true,true] ?_
 simp only [push_cast,seval]
 refine Zf ?_
 obtain ⟨y8,hy8,h⟩:=bC h
 refine Zb Zc [] ?_
 simp only [push_cast,seval,Za,hN0,hN]
 refine (Zgd hy8).then ?_
 simp only [push_cast,seval,Za,hN0,hN]
 refine Zg [6,7] [true,false,false] ?_
 simp only [push_cast,seval]
 refine Zv ?_
 try simp only [Zh,Ze]
 have h:=Option.some.inj h;subst h
 refine Zo (.inr rfl) hU [.agg [.val (.int .i64 y8.1.P.Kind),.val (.int .i64 y8.1.P.Off),.val (.int .i64 y8.1.P.Data),.val (.int .i64 y8.1.P.Ptrs),.val (.int .i64 y8.1.P.Code),.val (.int .i64 y8.1.P.Count),.val (.int .i64 y8.1.P.Segment),.val (.bool y8.1.P.Double),.val (.int .i64 y8.1.Segment),.val (.int .i64 y8.1.At)],.val (.int .i64 y8.2)] (by omega) ?_
 simp only [push_cast,seval,Za,Try.results133,hN0,hN]
theorem Zu6 {a0:(Option Zr)} {a1:Int} {a2:Int} {r:(Xr×Int)} {O:Objs} {n:Nat} (h:Zb2 a0 a1 a2=some r):GTo Try.prog 134 [(gP Zx a0),.val (.int .i64 a1),.val (.int .i64 a2)] O n (.tup [.agg [.val (.int .i64 r.1.P.Kind),.val (.int .i64 r.1.P.Off),.val (.int .i64 r.1.P.Data),.val (.int .i64 r.1.P.Ptrs),.val (.int .i64 r.1.P.Code),.val (.int .i64 r.1.P.Count),.val (.int .i64 r.1.P.Segment),.val (.bool r.1.P.Double),.val (.int .i64 r.1.Segment),.val (.int .i64 r.1.At)],.val (.int .i64 r.2)]) O n:=by
 unfold Zb2 at h
 refine Yi Zc Try.call134 Try.func134 rfl (Nat.le_of_ble_eq_true rfl) (Nat.le_refl _) fun hU => ?_
 have hN0:O n=none:=hU.fresh _ (Nat.le_refl _)
 have hN:∀ k,O (n+k)=none:=fun k=>hU.fresh _ (Nat.le_add_right _ _)
 show W _ _ _ _ ⟨34,[],[(0,(gP Zx a0)),(1,.val (.int .i64 a1)),(2,.val (.int .i64 a2))]⟩ (Z4 O n []) _
 refine Zn [0,1,2,6] (Zb Zc [] ?_)
 simp only [push_cast,seval,Za,hN0,hN]
 refine Zf ?_
 obtain ⟨y2,hy2,h⟩:=bC h
 refine Zb Zc [] ?_
 simp only [push_cast,seval,Za,hN0,hN]
 refine (Vu hy2).then ?_
 simp only [push_cast,seval,Za,hN0,hN]
 refine Zg [0,1,2,6,8,9] [true] ?_
 simp only [push_cast,seval]
 refine Zf ?_
 refine Zn [0,1,2,6,8,19] (Zb Zc [] ?_)
 simp only [push_cast,seval,Za,hN0,hN]
 refine Zq (t:=(!y2.2)) rfl (fun c7 => ?_) (fun c7 => ?_)
 ·replace h:=Zz c7 h
  refine Zf ?_
  refine Zb Zc [] ?_
  simp only [push_cast,seval,Za,hN0,hN]
  refine Zg [6,7] [true] ?_
  simp only [push_cast,seval]
  refine Zv ?_
  try simp only [Zh,Ze]
  have h:=Option.some.inj h;subst h
  refine Zo (.inr rfl) hU [.agg [.val (.int .i64 0),.val (.int .i64 0),.val (.int .i64 0),.val (.int .i64 0),.val (.int .i64 0),.val (.int .i64 0),.val (.int .i64 0),.val (.bool false),.val (.int .i64 0),.val (.int .i64 0)],.val (.int .i64 7)] (by omega) ?_
  simp only [push_cast,seval,Za,Try.results134,hN0,hN]
 replace h:=Zy c7 h
 refine Zt ?_
 try simp only [Zh,Ze]
 refine Zg [0,1,2,6,8] [true] ?_
 simp only [push_cast,seval]
 refine Zf ?_
 obtain ⟨y4,hy4,h⟩:=bC h
 refine Zb Zc [] ?_
 simp only [push_cast,seval,Za,hN0,hN]
 refine (Uk hy4).then ?_
 simp only [push_cast,seval,Za,hN0,hN]
 refine Zg [0,1,2,6,10] [true,true] ?_
 simp only [push_cast,seval]
 refine Zf ?_
 obtain ⟨y6,hy6,h⟩:=bC h
 refine Zb Zc [] ?_
 simp only [push_cast,seval,Za,hN0,hN]
 refine (Zgd hy6).then ?_
 simp only [push_cast,seval,Za,hN0,hN]
 refine Zg [6,7] [true,false] ?_
 simp only [push_cast,seval]
 refine Zv ?_
 try simp only [Zh,Ze]
 have h:=Option.some.inj h;subst h
 refine Zo (.inr rfl) hU [.agg [.val (.int .i64 y6.1.P.Kind),.val (.int .i64 y6.1.P.Off),.val (.int .i64 y6.1.P.Data),.val (.int .i64 y6.1.P.Ptrs),.val (.int .i64 y6.1.P.Code),.val (.int .i64 y6.1.P.Count),.val (.int .i64 y6.1.P.Segment),.val (.bool y6.1.P.Double),.val (.int .i64 y6.1.Segment),.val (.int .i64 y6.1.At)],.val (.int .i64 y6.2)] (by omega) ?_
 simp only [push_cast,seval,Za,Try.results134,hN0,hN]
theorem Zu4 {a0:(Option Zr)} {a1:Int} {a2:Int} {r:(Xr×Int)} {O:Objs} {n:Nat} (h:Zb0 a0 a1 a2=some r):GTo Try.prog 114 [(gP Zx a0),.val (.int .i64 a1),.val (.int .i64 a2)] O n (.tup [.agg [.val (.int .i64 r.1.P.Kind),.val (.int .i64 r.1.P.Off),.val (.int .i64 r.1.P.Data),.val (.int .i64 r.1.P.Ptrs),.val (.int .i64 r.1.P.Code),.val (.int .i64 r.1.P.Count),.val (.int .i64 r.1.P.Segment),.val (.bool r.1.P.Double),.val (.int .i64 r.1.Segment),.val (.int .i64 r.1.At)],.val (.int .i64 r.2)]) O n:=by
 unfold Zb0 at h
 refine Yi Zc Try.call114 Try.func114 rfl (Nat.le_of_ble_eq_true rfl) (Nat.le_refl _) fun hU => ?_
 have hN0:O n=none:=hU.fresh _ (Nat.le_refl _)
 have hN:∀ k,O (n+k)=none:=fun k=>hU.fresh _ (Nat.le_add_right _ _)
 show W _ _ _ _ ⟨67,[],[(0,(gP Zx a0)),(1,.val (.int .i64 a1)),(2,.val (.int .i64 a2))]⟩ (Z4 O n []) _
 refine Zn [0,1,2,6] (Zb Zc [] ?_)
 simp only [push_cast,seval,Za,hN0,hN]
 refine Zf ?_
 obtain ⟨y2,hy2,h⟩:=bC h
 refine Zb Zc [] ?_
 simp only [push_cast,seval,Za,hN0,hN]
 refine (Vu hy2).then ?_
 simp only [push_cast,seval,Za,hN0,hN]
 refine Zg [0,1,2,6,8,9] [true] ?_
 simp only [push_cast,seval]
 refine Zf ?_
 refine Zn [0,1,2,6,8,19] (Zb Zc [] ?_)
 simp only [push_cast,seval,Za,hN0,hN]
 refine Zq (t:=(!y2.2)) rfl (fun c14 => ?_) (fun c14 => ?_)
 ·replace h:=Zz c14 h
  refine Zf ?_
  refine Zb Zc [] ?_
  simp only [push_cast,seval,Za,hN0,hN]
  refine Zg [6,7] [true] ?_
  simp only [push_cast,seval]
  refine Zv ?_
  try simp only [Zh,Ze]
  have h:=Option.some.inj h;subst h
  refine Zo (.inr rfl) hU [.agg [.val (.int .i64 0),.val (.int .i64 0),.val (.int .i64 0),.val (.int .i64 0),.val (.int .i64 0),.val (.int .i64 0),.val (.int .i64 0),.val (.bool false),.val (.int .i64 0),.val (.int .i64 0)],.val (.int .i64 7)] (by omega) ?_
  simp only [push_cast,seval,Za,Try.results114,hN0,hN]
 replace h:=Zy c14 h
 refine Zt ?_
 try simp only [Zh,Ze]
 refine Zg [0,1,2,6,8] [true] ?_
 simp only [push_cast,seval]
 refine Zf ?_
 obtain ⟨y4,hy4,h⟩:=bC h
 refine Zb Zc [] ?_
 simp only [push_cast,seval,Za,hN0,hN]
 refine (Uk hy4).then ?_
 simp only [push_cast,seval,Za,hN0,hN]
 refine Zg [0,1,2,6,10] [true,true] ?_
 simp only [push_cast,seval]
 refine Zf ?_
 refine Yl ?_
 refine Zn [0,1,2,6,10,23] (Zb Zc [] ?_)
 simp only [push_cast,seval,Za,hN0,hN]
 refine Zq (t:=(y4.Kind == 0)) rfl (fun c13 => ?_) (fun c13 => ?_)
 ·replace h:=Zz c13 h
  refine Zf ?_
  refine Zb Zc [] ?_
  simp only [push_cast,seval,Za,hN0,hN]
  refine Zg [6,7] [true,false] ?_
  simp only [push_cast,seval]
  refine Zv ?_
  try simp only [Zh,Ze]
  have h:=Option.some.inj h;subst h
  refine Zo (.inr rfl) hU [.agg [.val (.int .i64 0),.val (.int .i64 0),.val (.int .i64 0),.val (.int .i64 0),.val (.int .i64 0),.val (.int .i64 0),.val (.int .i64 0),.val (.bool false),.val (.int .i64 0),.val (.int .i64 0)],.val (.int .i64 0)] (by omega) ?_
  simp only [push_cast,seval,Za,Try.results114,hN0,hN]
 replace h:=Zy c13 h
 refine Zn [0,1,2,6,10,28] (Zb Zc [none,none] ?_)
 simp only [push_cast,seval,Za,hN0,hN]
 repeat (with_reducible refine And.intro (by first | (intro h0;simp only [h0];done) | (intro h0;simp only [h0,true_and,and_true,imp_self,implies_true,ne_eq,beq_iff_eq];done) | (intros;simp_all;done) | exact True.intro) ?_)
 refine Zq (t:=(cond (y4.Kind == 3) y4.Double false)) rfl (fun c12 => ?_) (fun c12 => ?_)
 ·replace h:=Zz c12 h
  refine Zf ?_
  obtain ⟨y6,hy6,h⟩:=bC h
  refine Zb Zc [] ?_
  simp only [push_cast,seval,Za,hN0,hN]
  refine (Zu5 hy6).then ?_
  simp only [push_cast,seval,Za,hN0,hN]
  refine Zg [6,7] [true,false] ?_
  simp only [push_cast,seval]
  refine Zv ?_
  try simp only [Zh,Ze]
  have h:=Option.some.inj h;subst h
  refine Zo (.inr rfl) hU [.agg [.val (.int .i64 y6.1.P.Kind),.val (.int .i64 y6.1.P.Off),.val (.int .i64 y6.1.P.Data),.val (.int .i64 y6.1.P.Ptrs),.val (.int .i64 y6.1.P.Code),.val (.int .i64 y6.1.P.Count),.val (.int .i64 y6.1.P.Segment),.val (.bool y6.1.P.Double),.val (.int .i64 y6.1.Segment),.val (.int .i64 y6.1.At)],.val (.int .i64 y6.2)] (by omega) ?_
  simp only [push_cast,seval,Za,Try.results114,hN0,hN]
 replace h:=Zy c12 h
 refine Zn [0,1,2,6,10,44] (Zb Zc [] ?_)
 simp only [push_cast,seval,Za,hN0,hN]
 refine Zq (t:=(y4.Kind == 3)) rfl (fun c11 => ?_) (fun c11 => ?_)
 ·replace h:=Zz c11 h
  refine Zf ?_
  obtain ⟨y8,hy8,h⟩:=bC h
  refine Zb Zc [] ?_
  simp only [push_cast,seval,Za,hN0,hN]
  refine (Zu6 hy8).then ?_
  simp only [push_cast,seval,Za,hN0,hN]
  refine Zg [6,7] [true,false] ?_
  simp only [push_cast,seval]
  refine Zv ?_
  try simp only [Zh,Ze]
  have h:=Option.some.inj h;subst h
  refine Zo (.inr rfl) hU [.agg [.val (.int .i64 y8.1.P.Kind),.val (.int .i64 y8.1.P.Off),.val (.int .i64 y8.1.P.Data),.val (.int .i64 y8.1.P.Ptrs),.val (.int .i64 y8.1.P.Code),.val (.int .i64 y8.1.P.Count),.val (.int .i64 y8.1.P.Segment),.val (.bool y8.1.P.Double),.val (.int .i64 y8.1.Segment),.val (.int .i64 y8.1.At)],.val (.int .i64 y8.2)] (by omega) ?_
  simp only [push_cast,seval,Za,Try.results114,hN0,hN]
 replace h:=Zy c11 h
 refine Zt ?_
 try simp only [Zh,Ze]
 refine Zg [0,1,2,6,10] [true,true] ?_
 simp only [push_cast,seval]
 refine Zf ?_
 obtain ⟨y10,hy10,h⟩:=bC h
 refine Zb Zc [] ?_
 simp only [push_cast,seval,Za,hN0,hN]
 refine (Zgd hy10).then ?_
 simp only [push_cast,seval,Za,hN0,hN]
 refine Zg [6,7] [true,false] ?_
 simp only [push_cast,seval]
 refine Zv ?_
 try simp only [Zh,Ze]
 have h:=Option.some.inj h;subst h
 refine Zo (.inr rfl) hU [.agg [.val (.int .i64 y10.1.P.Kind),.val (.int .i64 y10.1.P.Off),.val (.int .i64 y10.1.P.Data),.val (.int .i64 y10.1.P.Ptrs),.val (.int .i64 y10.1.P.Code),.val (.int .i64 y10.1.P.Count),.val (.int .i64 y10.1.P.Segment),.val (.bool y10.1.P.Double),.val (.int .i64 y10.1.Segment),.val (.int .i64 y10.1.At)],.val (.int .i64 y10.2)] (by omega) ?_
 simp only [push_cast,seval,Za,Try.results114,hN0,hN]
theorem Zm8 {a0:Zd} {r:(Zd×Int)} {O:Objs} {n:Nat} (h:Gb a0=some r):GTo Try.prog 115 [.agg (Zk a0)] O n (.tup [.agg (Zk r.1),.val (.int .i64 r.2)]) O n:=by
 unfold Gb at h
 refine Yi Zc Try.call115 Try.func115 rfl (Nat.le_of_ble_eq_true rfl) (Nat.le_refl _) fun hU => ?_
 have hN0:O n=none:=hU.fresh _ (Nat.le_refl _)
 have hN:∀ k,O (n+k)=none:=fun k=>hU.fresh _ (Nat.le_add_right _ _)
 show W _ _ _ _ ⟨56,[],[(0,.agg (Zk a0))]⟩ (Z4 O n []) _
 refine Zn [1,2] (Zb Zc [] ?_)
 simp only [push_cast,seval,Za,hN0,hN]
 refine Zf ?_
 obtain ⟨y2,hy2,h⟩:=bC h
 refine Zb Zc [] ?_
 simp only [push_cast,seval,Za,hN0,hN]
 refine (Vu hy2).then ?_
 simp only [push_cast,seval,Za,hN0,hN]
 refine Zg [1,2,4] [true,true] ?_
 simp only [push_cast,seval]
 refine Zf ?_
 obtain ⟨y4,hy4,h⟩:=bC h
 refine Zb Zc [] ?_
 simp only [push_cast,seval,Za,hN0,hN]
 refine (Uk hy4).then ?_
 simp only [push_cast,seval,Za,hN0,hN]
 refine Zg [1,2,6] [true,true,true] ?_
 simp only [push_cast,seval]
 refine Zf ?_
 refine Zn [1,2,6,44] (Zb Zc [none,none,none,none,none,none,none,none,none,none,none,none,none,none,none,none,none] ?_)
 simp only [push_cast,seval,Za,hN0,hN]
 repeat (with_reducible refine And.intro (by first | (intro h0;simp only [h0,and_self];done) | (intro h0;simp only [h0,true_and,and_true,and_self,imp_self,implies_true,bne_iff_ne,ne_eq];done) | (intros;simp_all;done) | exact True.intro) ?_)
 refine Zq (t:=(cond (cond (cond (y4.Kind != 0) (y4.Kind != 1) false) true (decide (y4.Off < 0))) true (decide (a0.count < (IntKind.i64.wrap (y4.Off * (IntKind.i64.wrap (y4.Data+y4.Ptrs)))))))) rfl (fun c5 => ?_) (fun c5 => ?_)
 ·replace h:=Zz c5 h
  refine Zf ?_
  refine Zb Zc [] ?_
  simp only [push_cast,seval,Za,hN0,hN]
  refine Zg [2,3] [false,true,false] ?_
  simp only [push_cast,seval]
  refine Zv ?_
  try simp only [Zh,Ze]
  have h:=Option.some.inj h;subst h
  refine Zo (.inr rfl) hU [.agg [.val (.pointer none),.val (.int .i64 0),.val (.int .i64 0),.val (.int .i64 0),.val (.int .i64 0),.val (.int .i64 0),.val (.int .i64 0),.val (.int .i64 0),.val (.int .i64 0)],.val (.int .i64 8)] (by omega) ?_
  simp only [push_cast,seval,Za,Try.results115,hN0,hN]
 replace h:=Zy c5 h
 refine Zt ?_
 try simp only [Zh,Ze]
 refine Zg [1,2,6] [true,true,true] ?_
 simp only [push_cast,seval]
 refine Zf ?_
 refine Zd2 Zc (by kernel_rfl) [.plain,.plain,.low,.low,.low,.low,.plain,.pass,.plain,.pass,.plain,.bar] (fun i=>i≠n+0) [0,1,2,3,4,5,6,7,8,9,10,11] [.plain,.plain,.low,.low,.low,.low,.plain,.pass,.plain,.pass,.plain,.bar] [] (by kernel_rfl) rfl ?_
 simp only [push_cast,seval,Za,hN0,hN]
 repeat (with_reducible refine And.intro (by first | omega | exact Kg rfl | exact Ja | exact Ur rfl | exact Gf rfl rfl | exact K9 rfl | exact Kq rfl) ?_)
 refine Zg [1,2] [true,true,false] ?_
 simp only [push_cast,seval]
 refine Zf ?_
 refine Zb Zc [] ?_
 simp only [push_cast,seval,Za,hN0,hN]
 refine Zg [2,3] [false,true,false] ?_
 simp only [push_cast,seval]
 refine Zv ?_
 try simp only [Zh,Ze]
 have h:=Option.some.inj h;subst h
 refine Zo (.inr rfl) hU [.agg [(gP Zx a0.a),.val (.int .i64 a0.kind),.val (.int .i64 a0.segment),.val (.int .i64 a0.at_),.val (.int .i64 y4.Data),.val (.int .i64 y4.Ptrs),.val (.int .i64 y4.Off),.val (.int .i64 a0.code),.val (.int .i64 a0.index)],.val (.int .i64 0)] (by omega) ?_
 simp only [push_cast,seval,Za,Try.results115,hN0,hN]
theorem Zie {a0:(Option Zr)} {a1:Int} {a2:Int} {r:(Zd×Int)} {O:Objs} {n:Nat} (h:G3 a0 a1 a2=some r):GTo Try.prog 76 [(gP Zx a0),.val (.int .i64 a1),.val (.int .i64 a2)] O n (.tup [.agg (Zk r.1),.val (.int .i64 r.2)]) O n:=by
 unfold G3 at h
 refine Yi Zc Try.call76 Try.func76 rfl (Nat.le_of_ble_eq_true rfl) (Nat.le_refl _) fun hU => ?_
 have hN0:O n=none:=hU.fresh _ (Nat.le_refl _)
 have hN:∀ k,O (n+k)=none:=fun k=>hU.fresh _ (Nat.le_add_right _ _)
 show W _ _ _ _ ⟨66,[],[(0,(gP Zx a0)),(1,.val (.int .i64 a1)),(2,.val (.int .i64 a2))]⟩ (Z4 O n []) _
 refine Zn [0,1,2,6] (Zb Zc [] ?_)
 simp only [push_cast,seval,Za,hN0,hN]
 refine Zf ?_
 obtain ⟨y2,hy2,h⟩:=bC h
 refine Zb Zc [] ?_
 simp only [push_cast,seval,Za,hN0,hN]
 refine (Zu4 hy2).then ?_
 simp only [push_cast,seval,Za,hN0,hN]
 refine Zg [0,6,8,9] [true,true] ?_
 simp only [push_cast,seval]
 refine Zf ?_
 refine Zn [0,6,8,9,25] (Zb Zc [none,none,none,none] ?_)
 simp only [push_cast,seval,Za,hN0,hN]
 repeat (with_reducible refine And.intro (by first | (intro h0;simp only [h0];done) | (intro h0;simp only [h0,true_and,and_true,imp_self,implies_true,bne_iff_ne,ne_eq];done) | (intros;simp_all;done) | exact True.intro) ?_)
 refine Zq (t:=(cond (y2.2 != 0) true (y2.1.P.Kind == 0))) rfl (fun c7 => ?_) (fun c7 => ?_)
 ·replace h:=Zz c7 h
  refine Zf ?_
  refine Zb Zc [] ?_
  simp only [push_cast,seval,Za,hN0,hN]
  refine Zg [6,7] [true,false] ?_
  simp only [push_cast,seval]
  refine Zv ?_
  try simp only [Zh,Ze]
  have h:=Option.some.inj h;subst h
  refine Zo (.inr rfl) hU [.agg [.val (.pointer none),.val (.int .i64 0),.val (.int .i64 0),.val (.int .i64 0),.val (.int .i64 0),.val (.int .i64 0),.val (.int .i64 0),.val (.int .i64 0),.val (.int .i64 0)],.val (.int .i64 y2.2)] (by omega) ?_
  simp only [push_cast,seval,Za,Try.results76,hN0,hN]
 replace h:=Zy c7 h
 refine Zt ?_
 try simp only [Zh,Ze]
 refine Zg [0,6,8] [true,true] ?_
 simp only [push_cast,seval]
 refine Zf ?_
 refine Zb Zc [] ?_
 simp only [push_cast,seval,Za,hN0,hN]
 refine Zg [6,8,10] [true,true,true] ?_
 simp only [push_cast,seval]
 refine Zf ?_
 refine Zn [6,8,10,37] (Zb Zc [] ?_)
 simp only [push_cast,seval,Za,hN0,hN]
 refine Zq (t:=(y2.1.P.Kind == 1)) rfl (fun c6 => ?_) (fun c6 => ?_)
 ·replace h:=Zz c6 h
  refine Zf ?_
  refine Zd2 Zc (by kernel_rfl) [.low,.low,.low,.low,.low,.low,.plain,.pass,.plain,.pass,.plain,.bar] (fun i=>i≠n+2) [0,1,2,3,4,5,6,7,8,9,10,11] [.low,.low,.low,.low,.low,.low,.plain,.pass,.plain,.pass,.plain,.bar] [] (by kernel_rfl) rfl ?_
  simp only [push_cast,seval,Za,hN0,hN]
  repeat (with_reducible refine And.intro (by first | omega | exact Kg rfl | exact Ja | exact Ur rfl | exact Gf rfl rfl | exact K9 rfl | exact Kq rfl) ?_)
  refine Zg [6,10] [true,false,true] ?_
  simp only [push_cast,seval]
  refine Zf ?_
  refine Zb Zc [] ?_
  simp only [push_cast,seval,Za,hN0,hN]
  refine Zg [6,7] [true,false,false] ?_
  simp only [push_cast,seval]
  refine Zv ?_
  try simp only [Zh,Ze]
  have h:=Option.some.inj h;subst h
  refine Zo (.inr rfl) hU [.agg [(gP Zx a0),.val (.int .i64 1),.val (.int .i64 y2.1.Segment),.val (.int .i64 y2.1.At),.val (.int .i64 y2.1.P.Data),.val (.int .i64 y2.1.P.Ptrs),.val (.int .i64 0),.val (.int .i64 0),.val (.int .i64 0)],.val (.int .i64 0)] (by omega) ?_
  simp only [push_cast,seval,Za,Try.results76,hN0,hN]
 replace h:=Zy c6 h
 refine Zt ?_
 try simp only [Zh,Ze]
 refine Zg [6,8,10] [true,true,true] ?_
 simp only [push_cast,seval]
 refine Zf ?_
 refine Zd2 Zc (by kernel_rfl) [.plain,.plain,.plain,.plain,.low,.low,.low,.plain,.pass,.plain,.bar] (fun i=>i≠n+2) [0,1,2,3,4,5,6,7,8,9,10] [.plain,.plain,.plain,.plain,.low,.low,.low,.plain,.pass,.plain,.bar] [] (by kernel_rfl) rfl ?_
 simp only [push_cast,seval,Za,hN0,hN]
 repeat (with_reducible refine And.intro (by first | omega | exact Kg rfl | exact Ja | exact Ur rfl | exact Gf rfl rfl | exact K9 rfl | exact Kq rfl) ?_)
 refine Zg [6,8,10] [true,true,true] ?_
 simp only [push_cast,seval]
 refine Zf ?_
 refine Zn [6,10,60] (Zb Zc [] ?_)
 simp only [push_cast,seval,Za,hN0,hN]
 refine Zq (t:=(y2.1.P.Code == 7)) rfl (fun c5 => ?_) (fun c5 => ?_)
 ·replace h:=Zz c5 h
  refine Zf ?_
  obtain ⟨y4,hy4,h⟩:=bC h
  refine Zb Zc [] ?_
  simp only [push_cast,seval,Za,hN0,hN]
  refine (Zm8 hy4).then ?_
  simp only [push_cast,seval,Za,hN0,hN]
  refine Zg [6,7] [true,false,false] ?_
  simp only [push_cast,seval]
  refine Zv ?_
  try simp only [Zh,Ze]
  have h:=Option.some.inj h;subst h
  refine Zo (.inr rfl) hU [.agg (Zk y4.1),.val (.int .i64 y4.2)] (by omega) ?_
  simp only [push_cast,seval,Za,Try.results76,hN0,hN]
 replace h:=Zy c5 h
 refine Zt ?_
 try simp only [Zh,Ze]
 refine Zg [6,10] [true,false,true] ?_
 simp only [push_cast,seval]
 refine Zf ?_
 refine Zb Zc [] ?_
 simp only [push_cast,seval,Za,hN0,hN]
 refine Zg [6,7] [true,false,false] ?_
 simp only [push_cast,seval]
 refine Zv ?_
 try simp only [Zh,Ze]
 have h:=Option.some.inj h;subst h
 refine Zo (.inr rfl) hU [.agg [(gP Zx a0),.val (.int .i64 (IntKind.i64.wrap (y2.1.P.Code+2))),.val (.int .i64 y2.1.Segment),.val (.int .i64 y2.1.At),.val (.int .i64 0),.val (.int .i64 0),.val (.int .i64 y2.1.P.Count),.val (.int .i64 0),.val (.int .i64 0)],.val (.int .i64 0)] (by omega) ?_
 simp only [push_cast,seval,Za,Try.results76,hN0,hN]
theorem Zt9 {a0:(Option Zr)} {r:(Zd×Int)} {O:Objs} {n:Nat} (h:Za0 a0=some r):GTo Try.prog 43 [(gP Zx a0)] O n (.tup [.agg (Zk r.1),.val (.int .i64 r.2)]) O n:=by
 unfold Za0 at h
 refine Yi Zc Try.call43 Try.func43 rfl (Nat.le_of_ble_eq_true rfl) (Nat.le_refl _) fun hU => ?_
 have hN0:O n=none:=hU.fresh _ (Nat.le_refl _)
 have hN:∀ k,O (n+k)=none:=fun k=>hU.fresh _ (Nat.le_add_right _ _)
 show W _ _ _ _ ⟨8,[],[(0,(gP Zx a0))]⟩ (Z4 O n []) _
 refine Zn [0,2] (Zb Zc [] ?_)
 simp only [push_cast,seval,Za,hN0,hN]
 refine Zf ?_
 obtain ⟨y2,hy2,h⟩:=bC h
 refine Zb Zc [] ?_
 simp only [push_cast,seval,Za,hN0,hN]
 refine (Zie hy2).then ?_
 simp only [push_cast,seval,Za,hN0,hN]
 refine Zg [2,3] [true] ?_
 simp only [push_cast,seval]
 refine Zv ?_
 try simp only [Zh,Ze]
 have h:=Option.some.inj h;subst h
 refine Zo (.inr rfl) hU [.agg (Zk y2.1),.val (.int .i64 y2.2)] (by omega) ?_
 simp only [push_cast,seval,Za,Try.results43,hN0,hN]
theorem Za9 {a0:(List (List Int))} {r:Zd} {O:Objs} {n:Nat} (h:Jv a0=some r):GTo Try.prog 17 [.sl a0.length (fl (eL (eI .u64)) a0)] O n (.agg (Zk r)) O n:=by
 unfold Jv at h
 refine Yi Zc Try.call17 Try.func17 rfl (Nat.le_of_ble_eq_true rfl) (Nat.le_refl _) fun hU => ?_
 have hN0:O n=none:=hU.fresh _ (Nat.le_refl _)
 have hN:∀ k,O (n+k)=none:=fun k=>hU.fresh _ (Nat.le_add_right _ _)
 show W _ _ _ _ ⟨12,[],[(0,.sl a0.length (fl (eL (eI .u64)) a0))]⟩ (Z4 O n []) _
 refine Zn [0,2] (Zb Zc [] ?_)
 simp only [push_cast,seval,Za,hN0,hN]
 refine Zf ?_
 obtain ⟨y3,hy3,h⟩:=bC h
 obtain ⟨y4,hy4,h⟩:=bC h
 refine Zb Zc [] ?_
 simp only [push_cast,seval,Za,hN0,hN]
 refine (Z0a hy3).then ?_
 simp only [push_cast,seval,Za,hN0,hN]
 refine (Zt9 hy4).then ?_
 simp only [push_cast,seval,Za,hN0,hN]
 refine Zg [2,3] [true,true] ?_
 simp only [push_cast,seval]
 refine Zf ?_
 refine Zb Zc [] ?_
 simp only [push_cast,seval,Za,hN0,hN]
 refine Zg [2] [true,false] ?_
 simp only [push_cast,seval]
 refine Zv ?_
 try simp only [Zh,Ze]
 have h:=Option.some.inj h;subst h
 refine Zo (.inr rfl) hU [.agg (Zk y4.1)] (by omega) ?_
 simp only [push_cast,seval,Za,Try.results17,hN0,hN]
theorem Gd {a0:Zd} {r:Int} {O:Objs} {n:Nat} (h:Q4 a0=some r):GTo Try.prog 39 [.agg (Zk a0)] O n (.val (.int .i64 r)) O n:=by
 unfold Q4 at h
 refine Yi Zc Try.call39 Try.func39 rfl (Nat.le_of_ble_eq_true rfl) (Nat.le_refl _) fun hU => ?_
 have hN0:O n=none:=hU.fresh _ (Nat.le_refl _)
 have hN:∀ k,O (n+k)=none:=fun k=>hU.fresh _ (Nat.le_add_right _ _)
 show W _ _ _ _ ⟨10,[],[(0,.agg (Zk a0))]⟩ (Z4 O n []) _
 refine Zn [1] (Zb Zc [] ?_)
 simp only [push_cast,seval,Za,hN0,hN]
 refine Zf ?_
 refine Zn [1,5] (Zb Zc [] ?_)
 simp only [push_cast,seval,Za,hN0,hN]
 refine Zq (t:=(a0.kind == 1)) rfl (fun c1 => ?_) (fun c1 => ?_)
 ·replace h:=Zz c1 h
  refine Zn [2] (Zb Zc [] ?_)
  simp only [push_cast,seval,Za,hN0,hN]
  refine Zv ?_
  try simp only [Zh,Ze]
  have h:=Option.some.inj h;subst h
  refine Zo (.inr rfl) hU [.val (.int .i64 a0.ptrs)] (by omega) ?_
  simp only [push_cast,seval,Za,Try.results39,hN0,hN]
 replace h:=Zy c1 h
 refine Zt ?_
 try simp only [Zh,Ze]
 refine Zg [1] [true] ?_
 simp only [push_cast,seval]
 refine Zn [2] (Zb Zc [] ?_)
 simp only [push_cast,seval,Za,hN0,hN]
 refine Zv ?_
 try simp only [Zh,Ze]
 have h:=Option.some.inj h;subst h
 refine Zo (.inr rfl) hU [.val (.int .i64 a0.count)] (by omega) ?_
 simp only [push_cast,seval,Za,Try.results39,hN0,hN]
theorem Ua {a0:Zd} {a1:Int} {r:(Zd×Int)} {O:Objs} {n:Nat} (h:Qy a0 a1=some r):GTo Try.prog 40 [.agg (Zk a0),.val (.int .i64 a1)] O n (.tup [.agg (Zk r.1),.val (.int .i64 r.2)]) O n:=by
 unfold Qy at h
 refine Yi Zc Try.call40 Try.func40 rfl (Nat.le_of_ble_eq_true rfl) (Nat.le_refl _) fun hU => ?_
 have hN0:O n=none:=hU.fresh _ (Nat.le_refl _)
 have hN:∀ k,O (n+k)=none:=fun k=>hU.fresh _ (Nat.le_add_right _ _)
 show W _ _ _ _ ⟨81,[],[(0,.agg (Zk a0)),(1,.val (.int .i64 a1))]⟩ (Z4 O n []) _
 refine Zn [1,2,4] (Zb Zc [] ?_)
 simp only [push_cast,seval,Za,hN0,hN]
 refine Zf ?_
 obtain ⟨z2,hz2,h⟩:=bC h
 refine Yt (E':=⟨81,[],[(1,.val (.int .i64 a1)),(2,.ref n 0),(4,.ref (n+1) 0),(14,.val (.bool z2))]⟩) (O':=(Z4 O n [some ⟨false,50,9,1,(Zk a0)⟩,some ⟨false,50,9,1,[.val (.pointer none),.val (.int .i64 0),.val (.int .i64 0),.val (.int .i64 0),.val (.int .i64 0),.val (.int .i64 0),.val (.int .i64 0),.val (.int .i64 0),.val (.int .i64 0)]⟩])) (n0:=(n+2)) ?_ ?_
 ·rcases Bool.eq_false_or_eq_true (decide (a1 < 0)) with c5 | c5
  ·replace hz2:=Zz c5 hz2
   refine Zb Zc (Z1u []) ?_
   simp only [push_cast,seval,Za,c5,hN0,hN]
   have hz2:=Option.some.inj hz2;subst hz2
   refine And.intro rfl (Fit2.of (Zp hU rfl rfl ?_) (by omega))
   simp only [push_cast,seval,Za,c5,hN0,hN]
  replace hz2:=Zy c5 hz2
  obtain ⟨y4,hy4,hz2⟩:=bC hz2
  refine Zb Zc (Zx6 []) ?_
  simp only [push_cast,seval,Za,c5,hN0,hN]
  refine (Gd hy4).then ?_
  simp only [push_cast,seval,Za,c5,hN0,hN]
  have hz2:=Option.some.inj hz2;subst hz2
  refine And.intro rfl (Fit2.of (Zp hU rfl rfl ?_) (by omega))
  simp only [push_cast,seval,Za,c5,hN0,hN]
 refine Zq (t:=z2) rfl (fun c13 => ?_) (fun c13 => ?_)
 ·replace h:=Zz c13 h
  refine Zf ?_
  refine Zb Zc [] ?_
  simp only [push_cast,seval,Za,hN0,hN]
  refine Zg [4,5] [false,true] ?_
  simp only [push_cast,seval]
  refine Zv ?_
  try simp only [Zh,Ze]
  have h:=Option.some.inj h;subst h
  refine Zo (.inr rfl) hU [.agg [.val (.pointer none),.val (.int .i64 0),.val (.int .i64 0),.val (.int .i64 0),.val (.int .i64 0),.val (.int .i64 0),.val (.int .i64 0),.val (.int .i64 0),.val (.int .i64 0)],.val (.int .i64 0)] (by omega) ?_
  simp only [push_cast,seval,Za,Try.results40,hN0,hN]
 replace h:=Zy c13 h
 refine Zt ?_
 try simp only [Zh,Ze]
 refine Zg [1,2,4] [true,true] ?_
 simp only [push_cast,seval]
 refine Zf ?_
 refine Zn [1,2,4,17] (Zb Zc [] ?_)
 simp only [push_cast,seval,Za,hN0,hN]
 refine Yl ?_
 refine Zn [1,2,4,17,18] (Zb Zc [] ?_)
 simp only [push_cast,seval,Za,hN0,hN]
 refine Zq (t:=(a0.kind == 1)) rfl (fun c12 => ?_) (fun c12 => ?_)
 ·replace h:=Zz c12 h
  refine Zf ?_
  obtain ⟨y7,hy7,h⟩:=bC h
  refine Zb Zc [] ?_
  simp only [push_cast,seval,Za,hN0,hN]
  refine (Zie hy7).then ?_
  simp only [push_cast,seval,Za,hN0,hN]
  refine Zg [4,5] [false,true] ?_
  simp only [push_cast,seval]
  refine Zv ?_
  try simp only [Zh,Ze]
  have h:=Option.some.inj h;subst h
  refine Zo (.inr rfl) hU [.agg (Zk y7.1),.val (.int .i64 y7.2)] (by omega) ?_
  simp only [push_cast,seval,Za,Try.results40,hN0,hN]
 replace h:=Zy c12 h
 refine Zn [1,2,4,17,34] (Zb Zc [] ?_)
 simp only [push_cast,seval,Za,hN0,hN]
 refine Zq (t:=(a0.kind == 8)) rfl (fun c11 => ?_) (fun c11 => ?_)
 ·replace h:=Zz c11 h
  refine Zf ?_
  obtain ⟨y9,hy9,h⟩:=bC h
  refine Zb Zc [] ?_
  simp only [push_cast,seval,Za,hN0,hN]
  refine (Zie hy9).then ?_
  simp only [push_cast,seval,Za,hN0,hN]
  refine Zg [4,5] [false,true] ?_
  simp only [push_cast,seval]
  refine Zv ?_
  try simp only [Zh,Ze]
  have h:=Option.some.inj h;subst h
  refine Zo (.inr rfl) hU [.agg (Zk y9.1),.val (.int .i64 y9.2)] (by omega) ?_
  simp only [push_cast,seval,Za,Try.results40,hN0,hN]
 replace h:=Zy c11 h
 refine Zn [1,2,4,47] (Zb Zc [] ?_)
 simp only [push_cast,seval,Za,hN0,hN]
 refine Zq (t:=(a0.kind == 9)) rfl (fun c10 => ?_) (fun c10 => ?_)
 ·replace h:=Zz c10 h
  refine Zn [2,4,6] (Zb Zc [] ?_)
  simp only [push_cast,seval,Za,hN0,hN]
  refine Zf ?_
  refine Zb Zc [] ?_
  simp only [push_cast,seval,Za,hN0,hN]
  refine Zg [4,5] [false,true] ?_
  simp only [push_cast,seval]
  refine Zv ?_
  try simp only [Zh,Ze]
  have h:=Option.some.inj h;subst h
  refine Zo (.inr rfl) hU [.agg [(gP Zx a0.a),.val (.int .i64 1),.val (.int .i64 a0.segment),.val (.int .i64 (IntKind.i64.wrap ((IntKind.i64.wrap (a0.at_+1))+(IntKind.i64.wrap (a1 * (IntKind.i64.wrap (a0.words+a0.ptrs))))))),.val (.int .i64 a0.words),.val (.int .i64 a0.ptrs),.val (.int .i64 0),.val (.int .i64 0),.val (.int .i64 0)],.val (.int .i64 0)] (by omega) ?_
  simp only [push_cast,seval,Za,Try.results40,hN0,hN]
 replace h:=Zy c10 h
 refine Zt ?_
 try simp only [Zh,Ze]
 refine Zg [1,2,4] [true,true] ?_
 simp only [push_cast,seval]
 refine Zf ?_
 refine Zb Zc [] ?_
 simp only [push_cast,seval,Za,hN0,hN]
 refine Zg [4,5] [false,true] ?_
 simp only [push_cast,seval]
 refine Zv ?_
 try simp only [Zh,Ze]
 have h:=Option.some.inj h;subst h
 refine Zo (.inr rfl) hU [.agg [(gP Zx a0.a),.val (.int .i64 10),.val (.int .i64 a0.segment),.val (.int .i64 a0.at_),.val (.int .i64 0),.val (.int .i64 0),.val (.int .i64 0),.val (.int .i64 (IntKind.i64.wrap (a0.kind - 2))),.val (.int .i64 a1)],.val (.int .i64 0)] (by omega) ?_
 simp only [push_cast,seval,Za,Try.results40,hN0,hN]
theorem Je {a0:Zd} {r:Int} {O:Objs} {n:Nat} (h:Y8 a0=some r):GTo Try.prog 118 [.agg (Zk a0)] O n (.val (.int .i64 r)) O n:=by
 unfold Y8 at h
 refine Yi Zc Try.call118 Try.func118 rfl (Nat.le_of_ble_eq_true rfl) (Nat.le_refl _) fun hU => ?_
 have hN0:O n=none:=hU.fresh _ (Nat.le_refl _)
 have hN:∀ k,O (n+k)=none:=fun k=>hU.fresh _ (Nat.le_add_right _ _)
 show W _ _ _ _ ⟨5,[],[(0,.agg (Zk a0))]⟩ (Z4 O n []) _
 refine Zn [1] (Zb Zc [] ?_)
 simp only [push_cast,seval,Za,hN0,hN]
 refine Zn [2] (Zb Zc [] ?_)
 simp only [push_cast,seval,Za,hN0,hN]
 refine Zv ?_
 try simp only [Zh,Ze]
 have h:=Option.some.inj h;subst h
 refine Zo (.inr rfl) hU [.val (.int .i64 a0.kind)] (by omega) ?_
 simp only [push_cast,seval,Za,Try.results118,hN0,hN]
theorem Zx8 {a0:Zd} {r:(Int×Int)} {O:Objs} {n:Nat} (h:Zdm a0=some r):GTo Try.prog 136 [.agg (Zk a0)] O n (.tup [.val (.int .i64 r.1),.val (.int .i64 r.2)]) O n:=by
 unfold Zdm at h
 refine Yi Zc Try.call136 Try.func136 rfl (Nat.le_of_ble_eq_true rfl) (Nat.le_refl _) fun hU => ?_
 have hN0:O n=none:=hU.fresh _ (Nat.le_refl _)
 have hN:∀ k,O (n+k)=none:=fun k=>hU.fresh _ (Nat.le_add_right _ _)
 show W _ _ _ _ ⟨29,[],[(0,.agg (Zk a0))]⟩ (Z4 O n []) _
 refine Zn [1] (Zb Zc [] ?_)
 simp only [push_cast,seval,Za,hN0,hN]
 refine Zf ?_
 obtain ⟨y2,hy2,h⟩:=bC h
 refine Zb Zc [] ?_
 simp only [push_cast,seval,Za,hN0,hN]
 refine (Gd hy2).then ?_
 simp only [push_cast,seval,Za,hN0,hN]
 refine Zg [1,4] [true] ?_
 simp only [push_cast,seval]
 refine Zf ?_
 refine Zg [1,4] [true] ?_
 simp only [push_cast,seval]
 obtain ⟨z12,hz12,h⟩:=bC h
 refine Za6 (J:=(Qu (fun z12=>JR n (⟨29,[],[(2,.val (.int .i64 z12.1)),(3,.val (.int .i64 z12.2))]⟩:Env) (Z4 O n [none]) (n+1)) (fun z12=>JX 0 n (⟨29,[],[]⟩:Env) (Z4 O n [none]) (n+1)))) (z:=z12) ?_ fun hw => ?_
 ·refine Xp hz12 (fun s0_=>⟨29,[],[(1,.ref n 0),(4,.val (.int .i64 s0_))]⟩) (fun s0_=>(Z4 O n [some ⟨false,50,9,1,(Zk a0)⟩])) (Qu (fun z12=>JR n (⟨29,[],[(2,.val (.int .i64 z12.1)),(3,.val (.int .i64 z12.2))]⟩:Env) (Z4 O n [none]) (n+1)) (fun z12=>JX 0 n (⟨29,[],[]⟩:Env) (Z4 O n [none]) (n+1))) ?_
  intro s0_ x0_ hs0_
  unfold Zby at hs0_
  try dsimp only
  refine Zf ?_
  refine Zn [1,4,10] (Zb Zc [] ?_)
  simp only [push_cast,seval,Za,hN0,hN]
  refine Zq (t:=(decide (0 < s0_))) rfl (fun c11 => ?_) (fun c11 => ?_)
  ·replace hs0_:=Zz c11 hs0_
   refine Zt ?_
   try simp only [Zh,Ze]
   refine Zg [1,4] [true] ?_
   simp only [push_cast,seval]
   refine Yl ?_
   refine Zf ?_
   obtain ⟨y4,hy4,hs0_⟩:=bC hs0_
   refine Zb Zc [] ?_
   simp only [push_cast,seval,Za,hN0,hN]
   refine (Ua hy4).then ?_
   simp only [push_cast,seval,Za,hN0,hN]
   refine Zg [1,4,5,6] [true,true] ?_
   simp only [push_cast,seval]
   refine Zf ?_
   obtain ⟨z6,hz6,hs0_⟩:=bC hs0_
   refine Yt (E':=⟨29,[],[(1,.ref n 0),(4,.val (.int .i64 s0_)),(6,.val (.int .i64 y4.2)),(24,.val (.bool z6))]⟩) (O':=(Z4 O n [some ⟨false,50,9,1,(Zk a0)⟩,none])) (n0:=(n+2)) ?_ ?_
   ·rcases Bool.eq_false_or_eq_true (y4.2 != 0) with c9 | c9
    ·replace hz6:=Zz c9 hz6
     refine Zb Zc (Z62 []) ?_
     simp only [push_cast,seval,Za,c9,hN0,hN]
     have hz6:=Option.some.inj hz6;subst hz6
     refine And.intro rfl (Fit2.of (Zp hU rfl rfl ?_) (by omega))
     simp only [push_cast,seval,Za,c9,hN0,hN]
    replace hz6:=Zy c9 hz6
    obtain ⟨y8,hy8,hz6⟩:=bC hz6
    refine Zb Zc (Z4i []) ?_
    simp only [push_cast,seval,Za,c9,hN0,hN]
    refine (Je hy8).then ?_
    simp only [push_cast,seval,Za,c9,hN0,hN]
    have hz6:=Option.some.inj hz6;subst hz6
    refine And.intro rfl (Fit2.of (Zp hU rfl rfl ?_) (by omega))
    simp only [push_cast,seval,Za,c9,hN0,hN]
   refine Zq (t:=z6) rfl (fun c10 => ?_) (fun c10 => ?_)
   ·replace hs0_:=Zz c10 hs0_
    refine Zn [2,3] (Zb Zc [] ?_)
    simp only [push_cast,seval,Za,hN0,hN]
    refine Zv ?_
    try simp only [Zh,Ze]
    have hs0_:=Option.some.inj hs0_;subst hs0_
    refine And.intro (fun h=>by cases h) (And.intro rfl (Fit2.of (Zp hU rfl rfl ?_) (by omega)))
    simp only [push_cast,seval,Za,hN0,hN]
   replace hs0_:=Zy c10 hs0_
   refine Zt ?_
   try simp only [Zh,Ze]
   refine Zg [1,4] [true,false] ?_
   simp only [push_cast,seval]
   refine Zb Zc [] ?_
   simp only [push_cast,seval,Za,hN0,hN]
   have hs0_:=Option.some.inj hs0_;subst hs0_
   refine And.intro rfl (Fit2.of (Zp hU rfl rfl ?_) (by omega))
   simp only [push_cast,seval,Za,hN0,hN]
  replace hs0_:=Zy c11 hs0_
  refine X9 ?_
  try simp only [Zh,Ze,↓reduceIte,Nat.reduceEqDiff]
  have hs0_:=Option.some.inj hs0_;subst hs0_
  refine And.intro (fun h=>by cases h) (And.intro rfl (Fit2.of (Zp hU rfl rfl ?_) (by omega)))
  simp only [push_cast,seval,Za,hN0,hN]
 rcases z12 with z12 | z12
 ·dsimp only [Qu] at hw h
  refine Vn hw ?_
  try simp only [Zh,Ze,↓reduceIte,Nat.reduceEqDiff]
  have h:=Option.some.inj h;subst h
  refine Zo (.inr rfl) hU [.val (.int .i64 z12.1),.val (.int .i64 z12.2)] (by omega) ?_
  simp only [push_cast,seval,Za,Try.results136,hN0,hN]
 dsimp only [Qu] at hw h
 refine Y2 hw ?_
 try simp only [Zh,Ze,↓reduceIte,Nat.reduceEqDiff]
 refine Zg [] [false] ?_
 simp only [push_cast,seval]
 refine Zn [2,3] (Zb Zc [] ?_)
 simp only [push_cast,seval,Za,hN0,hN]
 refine Zv ?_
 try simp only [Zh,Ze]
 have h:=Option.some.inj h;subst h
 refine Zo (.inr rfl) hU [.val (.int .i64 0),.val (.int .i64 0)] (by omega) ?_
 simp only [push_cast,seval,Za,Try.results136,hN0,hN]
theorem Zgc {a0:Zd} {r:(Int×Int)} {O:Objs} {n:Nat} (h:U9 a0=some r):GTo Try.prog 116 [.agg (Zk a0)] O n (.tup [.val (.int .i64 r.1),.val (.int .i64 r.2)]) O n:=by
 unfold U9 at h
 refine Yi Zc Try.call116 Try.func116 rfl (Nat.le_of_ble_eq_true rfl) (Nat.le_refl _) fun hU => ?_
 have hN0:O n=none:=hU.fresh _ (Nat.le_refl _)
 have hN:∀ k,O (n+k)=none:=fun k=>hU.fresh _ (Nat.le_add_right _ _)
 show W _ _ _ _ ⟨20,[],[(0,.agg (Zk a0))]⟩ (Z4 O n []) _
 refine Zn [1] (Zb Zc [] ?_)
 simp only [push_cast,seval,Za,hN0,hN]
 refine Zf ?_
 refine Zf ?_
 obtain ⟨y2,hy2,h⟩:=bC h
 refine Zb Zc [] ?_
 simp only [push_cast,seval,Za,hN0,hN]
 refine (Je hy2).then ?_
 simp only [push_cast,seval,Za,hN0,hN]
 refine Zg [1,8] [true] ?_
 simp only [push_cast,seval]
 refine Zq (t:=(y2 != 1)) rfl (fun c8 => ?_) (fun c8 => ?_)
 ·replace h:=Zz c8 h
  refine Zf ?_
  obtain ⟨y4,hy4,h⟩:=bC h
  refine Zb Zc [] ?_
  simp only [push_cast,seval,Za,hN0,hN]
  refine (Gd hy4).then ?_
  simp only [push_cast,seval,Za,hN0,hN]
  refine Zg [2,3] [false] ?_
  simp only [push_cast,seval]
  refine Zv ?_
  try simp only [Zh,Ze]
  have h:=Option.some.inj h;subst h
  refine Zo (.inr rfl) hU [.val (.int .i64 y4),.val (.int .i64 0)] (by omega) ?_
  simp only [push_cast,seval,Za,Try.results116,hN0,hN]
 replace h:=Zy c8 h
 refine Zt ?_
 try simp only [Zh,Ze]
 refine Zg [1] [true] ?_
 simp only [push_cast,seval]
 refine Zf ?_
 obtain ⟨y6,hy6,h⟩:=bC h
 refine Zb Zc [] ?_
 simp only [push_cast,seval,Za,hN0,hN]
 refine (Zx8 hy6).then ?_
 simp only [push_cast,seval,Za,hN0,hN]
 refine Zg [4,5] [false] ?_
 simp only [push_cast,seval]
 refine Zf ?_
 refine Zn [4,5,17] (Zb Zc [] ?_)
 simp only [push_cast,seval,Za,hN0,hN]
 refine Zq (t:=(y6.2 != 0)) rfl (fun c7 => ?_) (fun c7 => ?_)
 ·replace h:=Zz c7 h
  refine Zn [2,3] (Zb Zc [] ?_)
  simp only [push_cast,seval,Za,hN0,hN]
  refine Zv ?_
  try simp only [Zh,Ze]
  have h:=Option.some.inj h;subst h
  refine Zo (.inr rfl) hU [.val (.int .i64 0),.val (.int .i64 y6.2)] (by omega) ?_
  simp only [push_cast,seval,Za,Try.results116,hN0,hN]
 replace h:=Zy c7 h
 refine Zt ?_
 try simp only [Zh,Ze]
 refine Zg [4] [false] ?_
 simp only [push_cast,seval]
 refine Zn [2,3] (Zb Zc [] ?_)
 simp only [push_cast,seval,Za,hN0,hN]
 refine Zv ?_
 try simp only [Zh,Ze]
 have h:=Option.some.inj h;subst h
 refine Zo (.inr rfl) hU [.val (.int .i64 y6.1),.val (.int .i64 0)] (by omega) ?_
 simp only [push_cast,seval,Za,Try.results116,hN0,hN]
theorem Uq {a0:Z7} {a1:Int} {r:Z7} {O:Objs} {n:Nat} {i0:Nat} (hi0:i0 < n) (ho0:O i0=some ⟨false,135,2,1,[.val (.int .u64 a0.sum),.val (.int .i64 a0.left)]⟩) (h:Qn a0 a1=some r):GTo Try.prog 117 [.ref i0 0,.val (.int .u64 a1)] O n (.tup []) (Z4 (O.upd i0 (some ⟨false,135,2,1,[.val (.int .u64 r.sum),.val (.int .i64 r.left)]⟩)) n []) (n+0):=by
 unfold Qn at h
 refine Yi Zc Try.call117 Try.func117 rfl (Nat.le_of_ble_eq_true rfl) (by omega) fun hU => ?_
 rw [show Z4 O n []=Z4 (O.upd i0 (some ⟨false,135,2,1,[.val (.int .u64 a0.sum),.val (.int .i64 a0.left)]⟩)) n [] from by rw [Zh2 (show O i0=_ from by exact ho0)]]
 have hk0:∀ k,i0 < n+k:=fun k=>by omega
 have hN0:∀ o,Objs.upd O i0 o n=none:=fun o=>J8 hU hi0 _ (Nat.le_refl _)
 have hN:∀ o k,Objs.upd O i0 o (n+k)=none:=fun o k=>J8 hU hi0 _ (Nat.le_add_right _ _)
 show W _ _ _ _ ⟨26,[],[(0,.ref i0 0),(1,.val (.int .u64 a1))]⟩ (Z4 (O.upd i0 (some ⟨false,135,2,1,[.val (.int .u64 a0.sum),.val (.int .i64 a0.left)]⟩)) n []) _
 refine Zf ?_
 refine Zb Zc [] ?_
 simp only [push_cast,seval,Za,hi0,hk0,hN0,hN]
 refine Zg [0] [] ?_
 simp only [push_cast,seval]
 refine Zkc Zc (by kernel_rfl) [false,false,false,false,false,false,false,false,false,false,false,false,true] [] (by kernel_rfl) ?_
 simp only [push_cast,seval,Za,hi0,hk0,hN0,hN]
 have h:=Option.some.inj h;subst h
 refine Jt (k:=0) (i:=i0) (q1:=⟨false,135,2,1,[.val (.int .u64 (IntKind.u64.wrap (Zdl .u64 (IntKind.u64.wrap ((IntKind.u64.wrap (Zdl .u64 a0.sum a1)) * 11400714819323198485)) (Int.fdiv (IntKind.u64.wrap ((IntKind.u64.wrap (Zdl .u64 a0.sum a1)) * 11400714819323198485)) (2 ^ min (Int.toNat 32) 64))))),.val (.int .i64 a0.left)]⟩) (L3:=[none]) (E2:=(⟨26,[],[]⟩:Env)) (n3:=(n+1)) (.inl rfl) hU rfl [] ?_ ?_
 ·refine Fit2.trans (E':=(⟨26,[],[]⟩:Env)) (O':=(Z4 (O.upd i0 (some ⟨false,135,2,1,[.val (.int .u64 (IntKind.u64.wrap (Zdl .u64 (IntKind.u64.wrap ((IntKind.u64.wrap (Zdl .u64 a0.sum a1)) * 11400714819323198485)) (Int.fdiv (IntKind.u64.wrap ((IntKind.u64.wrap (Zdl .u64 a0.sum a1)) * 11400714819323198485)) (2 ^ min (Int.toNat 32) 64))))),.val (.int .i64 a0.left)]⟩)) n [])) (n':=n) (Fit2.of (Yc hU rfl rfl ?_) (by omega)) ?_
  ·simp only [push_cast,seval,Za,hi0,hk0,hN0,hN]
  refine X4 (k:=0) (k':=1) hU [] [0] rfl rfl rfl rfl ⟨rfl,rfl⟩ ?_
  simp only [push_cast,seval,Za,hi0,hk0,hN0,hN]
 simp only [push_cast,seval,Za,Try.results117,hi0,hk0,hN0,hN]
theorem Zd1 {a0:Zd} {r:Int} {O:Objs} {n:Nat} (h:Kl a0=some r):GTo Try.prog 138 [.agg (Zk a0)] O n (.val (.int .i64 r)) O n:=by
 unfold Kl at h
 refine Yi Zc Try.call138 Try.func138 rfl (Nat.le_of_ble_eq_true rfl) (Nat.le_refl _) fun hU => ?_
 have hN0:O n=none:=hU.fresh _ (Nat.le_refl _)
 have hN:∀ k,O (n+k)=none:=fun k=>hU.fresh _ (Nat.le_add_right _ _)
 show W _ _ _ _ ⟨11,[],[(0,.agg (Zk a0))]⟩ (Z4 O n []) _
 refine Zn [1] (Zb Zc [] ?_)
 simp only [push_cast,seval,Za,hN0,hN]
 refine Zf ?_
 refine Zn [1,4] (Zb Zc [] ?_)
 simp only [push_cast,seval,Za,hN0,hN]
 refine Yl ?_
 refine Zn [1,4,5] (Zb Zc [] ?_)
 simp only [push_cast,seval,Za,hN0,hN]
 refine Zq (t:=(a0.kind == 1)) rfl (fun c2 => ?_) (fun c2 => ?_)
 ·replace h:=Zz c2 h
  refine Zn [2] (Zb Zc [] ?_)
  simp only [push_cast,seval,Za,hN0,hN]
  refine Zv ?_
  try simp only [Zh,Ze]
  have h:=Option.some.inj h;subst h
  refine Zo (.inr rfl) hU [.val (.int .i64 a0.words)] (by omega) ?_
  simp only [push_cast,seval,Za,Try.results138,hN0,hN]
 replace h:=Zy c2 h
 refine Zn [9] (Zb Zc [] ?_)
 simp only [push_cast,seval,Za,hN0,hN]
 refine Zq (t:=(a0.kind == 10)) rfl (fun c1 => ?_) (fun c1 => ?_)
 ·replace h:=Zz c1 h
  refine Zn [2] (Zb Zc [] ?_)
  simp only [push_cast,seval,Za,hN0,hN]
  refine Zv ?_
  try simp only [Zh,Ze]
  have h:=Option.some.inj h;subst h
  refine Zo (.inr rfl) hU [.val (.int .i64 1)] (by omega) ?_
  simp only [push_cast,seval,Za,Try.results138,hN0,hN]
 replace h:=Zy c1 h
 refine Zt ?_
 try simp only [Zh,Ze]
 refine Zg [] [false] ?_
 simp only [push_cast,seval]
 refine Zn [2] (Zb Zc [] ?_)
 simp only [push_cast,seval,Za,hN0,hN]
 refine Zv ?_
 try simp only [Zh,Ze]
 have h:=Option.some.inj h;subst h
 refine Zo (.inr rfl) hU [.val (.int .i64 0)] (by omega) ?_
 simp only [push_cast,seval,Za,Try.results138,hN0,hN]
theorem Z0b {a0:(List Int)} {a1:Int} {a2:Int} {r:Int} {O:Objs} {n:Nat} (h:Zfc a0 a1 a2=some r):GTo Try.prog 144 [.sl a0.length (fl (eI .u64) a0),.val (.int .i64 a1),.val (.int .i64 a2)] O n (.val (.int .u64 r)) O n:=by
 unfold Zfc at h
 refine Yi Zc Try.call144 Try.func144 rfl (Nat.le_of_ble_eq_true rfl) (Nat.le_refl _) fun hU => ?_
 have hN0:O n=none:=hU.fresh _ (Nat.le_refl _)
 have hN:∀ k,O (n+k)=none:=fun k=>hU.fresh _ (Nat.le_add_right _ _)
 show W _ _ _ _ ⟨45,[],[(0,.sl a0.length (fl (eI .u64) a0)),(1,.val (.int .i64 a1)),(2,.val (.int .i64 a2))]⟩ (Z4 O n []) _
 refine Zn [0,1,2] (Zb Zc [] ?_)
 simp only [push_cast,seval,Za,hN0,hN]
 refine Zf ?_
 obtain ⟨y2,hy2,h⟩:=bC h
 refine Zb Zc [] ?_
 simp only [push_cast,seval,Za,hN0,hN]
 refine (Znl hy2).then ?_
 simp only [push_cast,seval,Za,hN0,hN]
 refine Zg [0,2,7] [] ?_
 simp only [push_cast,seval]
 refine Zf ?_
 refine Zn [0,2,7,20] (Zb Zc [none,none] ?_)
 simp only [push_cast,seval,Za,hN0,hN]
 repeat (with_reducible refine And.intro (by first | (intro h0;simp only [h0];done) | (intro h0;simp only [h0,true_and,and_true,imp_self,implies_true,ne_eq,beq_iff_eq];done) | (intros;simp_all;done) | exact True.intro) ?_)
 refine Zq (t:=(cond (y2.1 == 0) true (decide (a2 < 0)))) rfl (fun c18 => ?_) (fun c18 => ?_)
 ·replace h:=Zz c18 h
  refine Zn [6] (Zb Zc [] ?_)
  simp only [push_cast,seval,Za,hN0,hN]
  refine Zv ?_
  try simp only [Zh,Ze]
  have h:=Option.some.inj h;subst h
  refine Zo (.inr rfl) hU [.val (.int .u64 0)] (by omega) ?_
  simp only [push_cast,seval,Za,Try.results144,hN0,hN]
 replace h:=Zy c18 h
 refine Zt ?_
 try simp only [Zh,Ze]
 refine Zg [0,2,7] [] ?_
 simp only [push_cast,seval]
 obtain ⟨pu4,h⟩:=bG h
 refine Zn [0,2,7,9] (Zb Zc [] ?_)
 simp only [push_cast,seval,Za,pu4,hN0,hN]
 refine Zf ?_
 obtain ⟨pu6,h⟩:=bG h
 refine Zn [0,2,7,9,28] (Zb Zc [] ?_)
 simp only [push_cast,seval,Za,pu6,hN0,hN]
 refine Zq (t:=(decide ((a0.length:Int)≤(IntKind.i64.wrap (Int.tdiv a2 (IntKind.i64.wrap (Int.tdiv 64 y2.1))))))) rfl (fun c17 => ?_) (fun c17 => ?_)
 ·replace h:=Zz c17 h
  refine Zn [6] (Zb Zc [] ?_)
  simp only [push_cast,seval,Za,hN0,hN]
  refine Zv ?_
  try simp only [Zh,Ze]
  have h:=Option.some.inj h;subst h
  refine Zo (.inr rfl) hU [.val (.int .u64 0)] (by omega) ?_
  simp only [push_cast,seval,Za,Try.results144,hN0,hN]
 replace h:=Zy c17 h
 refine Zt ?_
 try simp only [Zh,Ze]
 refine Zg [0,2,7,9] [] ?_
 simp only [push_cast,seval]
 obtain ⟨pu12,h⟩:=bG h
 obtain ⟨x13,hx13,ax13,bx13,cx13,h⟩:=bE (f:=(eI .u64)) Vz (fun _=>rfl) (by decide) h
 obtain ⟨pu14,h⟩:=bG h
 obtain ⟨pu15,h⟩:=bG h
 obtain ⟨pu16,h⟩:=bG h
 refine Zn [6] (Y1 Zc (by kernel_rfl) [] (by kernel_rfl) ?_)
 simp only [push_cast,Nat.reduceAdd,Nat.reduceSub,Nat.reduceMul,Nat.reduceLeDiff,Nat.reduceLT,Nat.reduceEqDiff,↓reduceIte,reduceCtorEq,Int.reduceBEq,Int.reduceBNe,Nat.reduceBEq,Int.reduceLE,Int.reduceLT,Int.reduceEq,Int.reduceNe,Int.reduceNeg,Nat.reduceDiv,Nat.reduceMod,Nat.reducePow,Za,pu12,ax13,bx13,cx13,pu14,pu15,pu16,hN0,hN]
 refine Zv ?_
 try simp only [Zh,Ze]
 have h:=Option.some.inj h;subst h
 refine Zo (.inr rfl) hU [.val (.int .u64 (IntKind.u64.wrap (Gu .u64 (Int.fdiv x13 (2 ^ min (Int.toNat (IntKind.i64.wrap ((Int.tmod a2 (IntKind.i64.wrap (Int.tdiv 64 y2.1))) * y2.1))) 64)) (IntKind.u64.wrap ((IntKind.u64.wrap (1 * 2 ^ min (Int.toNat y2.1) 64)) - 1)))))] (by omega) ?_
 simp only [push_cast,seval,Za,Try.results144,hN0,hN]
theorem Zjs {a0:Zd} {r:Int} {O:Objs} {n:Nat} (h:Vd a0=some r):GTo Try.prog 139 [.agg (Zk a0)] O n (.val (.int .u64 r)) O n:=by
 unfold Vd at h
 refine Yi Zc Try.call139 Try.func139 rfl (Nat.le_of_ble_eq_true rfl) (Nat.le_refl _) fun hU => ?_
 have hN0:O n=none:=hU.fresh _ (Nat.le_refl _)
 have hN:∀ k,O (n+k)=none:=fun k=>hU.fresh _ (Nat.le_add_right _ _)
 show W _ _ _ _ ⟨42,[],[(0,.agg (Zk a0))]⟩ (Z4 O n []) _
 refine Zn [1] (Zb Zc [] ?_)
 simp only [push_cast,seval,Za,hN0,hN]
 refine Zf ?_
 obtain ⟨y2,hy2,h⟩:=bC h
 refine Zb Zc [] ?_
 simp only [push_cast,seval,Za,hN0,hN]
 refine (Znl hy2).then ?_
 simp only [push_cast,seval,Za,hN0,hN]
 refine Zg [1,3] [true] ?_
 simp only [push_cast,seval]
 refine Zf ?_
 refine Zn [1,3,15] (Zb Zc [] ?_)
 simp only [push_cast,seval,Za,hN0,hN]
 refine Zq (t:=(y2.1 == 0)) rfl (fun c13 => ?_) (fun c13 => ?_)
 ·replace h:=Zz c13 h
  refine Zn [2] (Zb Zc [] ?_)
  simp only [push_cast,seval,Za,hN0,hN]
  refine Zv ?_
  try simp only [Zh,Ze]
  have h:=Option.some.inj h;subst h
  refine Zo (.inr rfl) hU [.val (.int .u64 0)] (by omega) ?_
  simp only [push_cast,seval,Za,Try.results139,hN0,hN]
 replace h:=Zy c13 h
 refine Zt ?_
 try simp only [Zh,Ze]
 refine Zg [1,3] [true] ?_
 simp only [push_cast,seval]
 obtain ⟨pu4,h⟩:=bG h
 refine Zn [1,5] (Zb Zc [] ?_)
 simp only [push_cast,seval,Za,pu4,hN0,hN]
 refine Zf ?_
 obtain ⟨pu7,h⟩:=bG h
 obtain ⟨y8,hy8,h⟩:=bC h
 refine Y1 Zc (by kernel_rfl) [] (by kernel_rfl) ?_
 simp only [push_cast,seval,Za,pu7,hN0,hN]
 refine PCall.of (Vu hy8) ?_
 simp only [push_cast,seval,Za,pu7,hN0,hN]
 refine Zg [1,5,6] [true] ?_
 simp only [push_cast,seval]
 refine Zf ?_
 obtain ⟨pu11,h⟩:=bG h
 obtain ⟨y12,hy12,h⟩:=bC h
 refine Zd2 Zc (by kernel_rfl) [.plain,.pass,.low,.low,.low,.low,.plain,.low,.bar,.plain] (fun i=>i < (n+1)) [0,2,3,4,5,6,7,1,8,9] [.plain,.low,.low,.low,.low,.plain,.low,.pass,.bar,.plain] [] (by kernel_rfl) rfl ?_
 simp only [push_cast,seval,Za,pu11,hN0,hN]
 repeat (with_reducible refine And.intro (by first | omega | exact Kg rfl | exact Ja | exact Ur rfl | exact Gf rfl rfl | exact K9 rfl | exact Kq rfl) ?_)
 refine GCalls.lend (Z0b hy12) rfl ?_ ?_
 ·simp only [push_cast,seval,Za,pu11,hN0,hN]
 simp only [push_cast,seval,Za,pu11,hN0,hN]
 repeat (with_reducible refine And.intro (by first | omega | exact Kg rfl | exact Ja | exact Ur rfl | exact Gf rfl rfl | exact K9 rfl | exact Kq rfl) ?_)
 refine U3 ⟨42,[],[(2,.val (.int .u64 y12))]⟩ (Z4 O n [none,none]) (Zp hU rfl rfl ?_) ?_
 ·simp only [push_cast,seval,Za,pu11,hN0,hN]
 refine Zv ?_
 try simp only [Zh,Ze]
 have h:=Option.some.inj h;subst h
 refine Zo (.inr rfl) hU [.val (.int .u64 y12)] (by omega) ?_
 simp only [push_cast,seval,Za,Try.results139,hN0,hN]
theorem Ge {a0:Zd} {a1:Int} {r:Int} {O:Objs} {n:Nat} (h:Q5 a0 a1=some r):GTo Try.prog 120 [.agg (Zk a0),.val (.int .i64 a1)] O n (.val (.int .u64 r)) O n:=by
 unfold Q5 at h
 refine Yi Zc Try.call120 Try.func120 rfl (Nat.le_of_ble_eq_true rfl) (Nat.le_refl _) fun hU => ?_
 have hN0:O n=none:=hU.fresh _ (Nat.le_refl _)
 have hN:∀ k,O (n+k)=none:=fun k=>hU.fresh _ (Nat.le_add_right _ _)
 show W _ _ _ _ ⟨33,[],[(0,.agg (Zk a0)),(1,.val (.int .i64 a1))]⟩ (Z4 O n []) _
 refine Zn [1,2] (Zb Zc [] ?_)
 simp only [push_cast,seval,Za,hN0,hN]
 refine Zf ?_
 obtain ⟨z2,hz2,h⟩:=bC h
 refine Yt (E':=⟨33,[],[(1,.val (.int .i64 a1)),(2,.ref n 0),(14,.val (.bool z2))]⟩) (O':=(Z4 O n [some ⟨false,50,9,1,(Zk a0)⟩])) (n0:=(n+1)) ?_ ?_
 ·rcases Bool.eq_false_or_eq_true (decide (a1 < 0)) with c5 | c5
  ·replace hz2:=Zz c5 hz2
   refine Zb Zc (Z1u []) ?_
   simp only [push_cast,seval,Za,c5,hN0,hN]
   have hz2:=Option.some.inj hz2;subst hz2
   refine And.intro rfl (Fit2.of (Zp hU rfl rfl ?_) (by omega))
   simp only [push_cast,seval,Za,c5,hN0,hN]
  replace hz2:=Zy c5 hz2
  obtain ⟨y4,hy4,hz2⟩:=bC hz2
  refine Zb Zc (Zx6 []) ?_
  simp only [push_cast,seval,Za,c5,hN0,hN]
  refine (Zd1 hy4).then ?_
  simp only [push_cast,seval,Za,c5,hN0,hN]
  have hz2:=Option.some.inj hz2;subst hz2
  refine And.intro rfl (Fit2.of (Zp hU rfl rfl ?_) (by omega))
  simp only [push_cast,seval,Za,c5,hN0,hN]
 refine Zq (t:=z2) rfl (fun c11 => ?_) (fun c11 => ?_)
 ·replace h:=Zz c11 h
  refine Zn [4] (Zb Zc [] ?_)
  simp only [push_cast,seval,Za,hN0,hN]
  refine Zv ?_
  try simp only [Zh,Ze]
  have h:=Option.some.inj h;subst h
  refine Zo (.inr rfl) hU [.val (.int .u64 0)] (by omega) ?_
  simp only [push_cast,seval,Za,Try.results120,hN0,hN]
 replace h:=Zy c11 h
 refine Zt ?_
 try simp only [Zh,Ze]
 refine Zg [1,2] [true] ?_
 simp only [push_cast,seval]
 refine Zf ?_
 refine Zn [1,2,17] (Zb Zc [] ?_)
 simp only [push_cast,seval,Za,hN0,hN]
 refine Zq (t:=(a0.kind == 10)) rfl (fun c10 => ?_) (fun c10 => ?_)
 ·replace h:=Zz c10 h
  refine Zf ?_
  obtain ⟨y7,hy7,h⟩:=bC h
  refine Zb Zc [] ?_
  simp only [push_cast,seval,Za,hN0,hN]
  refine (Zjs hy7).then ?_
  simp only [push_cast,seval,Za,hN0,hN]
  refine Zg [4] [false] ?_
  simp only [push_cast,seval]
  refine Zv ?_
  try simp only [Zh,Ze]
  have h:=Option.some.inj h;subst h
  refine Zo (.inr rfl) hU [.val (.int .u64 y7)] (by omega) ?_
  simp only [push_cast,seval,Za,Try.results120,hN0,hN]
 replace h:=Zy c10 h
 refine Zt ?_
 try simp only [Zh,Ze]
 refine Zg [1,2] [true] ?_
 simp only [push_cast,seval]
 refine Zf ?_
 obtain ⟨y9,hy9,h⟩:=bC h
 refine Zb Zc [] ?_
 simp only [push_cast,seval,Za,hN0,hN]
 refine (Vu hy9).then ?_
 simp only [push_cast,seval,Za,hN0,hN]
 refine Zg [5] [false] ?_
 simp only [push_cast,seval]
 refine Zn [4] (Zb Zc [] ?_)
 simp only [push_cast,seval,Za,hN0,hN]
 refine Zv ?_
 try simp only [Zh,Ze]
 have h:=Option.some.inj h;subst h
 refine Zo (.inr rfl) hU [.val (.int .u64 y9.1)] (by omega) ?_
 simp only [push_cast,seval,Za,Try.results120,hN0,hN]
theorem Zic {a0:Zd} {r:Int} {O:Objs} {n:Nat} (h:Gy a0=some r):GTo Try.prog 137 [.agg (Zk a0)] O n (.val (.int .i64 r)) O n:=by
 unfold Gy at h
 refine Yi Zc Try.call137 Try.func137 rfl (Nat.le_of_ble_eq_true rfl) (Nat.le_refl _) fun hU => ?_
 have hN0:O n=none:=hU.fresh _ (Nat.le_refl _)
 have hN:∀ k,O (n+k)=none:=fun k=>hU.fresh _ (Nat.le_add_right _ _)
 show W _ _ _ _ ⟨18,[],[(0,.agg (Zk a0))]⟩ (Z4 O n []) _
 refine Zn [1] (Zb Zc [] ?_)
 simp only [push_cast,seval,Za,hN0,hN]
 refine Zf ?_
 obtain ⟨y2,hy2,h⟩:=bC h
 refine Zb Zc [] ?_
 simp only [push_cast,seval,Za,hN0,hN]
 refine (Zd1 hy2).then ?_
 simp only [push_cast,seval,Za,hN0,hN]
 refine Zg [1,3] [true] ?_
 simp only [push_cast,seval]
 refine Zf ?_
 refine Zg [1,3] [true] ?_
 simp only [push_cast,seval]
 obtain ⟨z9,hz9,h⟩:=bC h
 refine Y2 (E':=⟨18,[],[(3,.val (.int .i64 z9))]⟩) (O':=(Z4 O n [none])) (n0:=(n+1)) ?_ ?_
 ·refine Xp hz9 (fun s0_=>⟨18,[],[(1,.ref n 0),(3,.val (.int .i64 s0_))]⟩) (fun s0_=>(Z4 O n [some ⟨false,50,9,1,(Zk a0)⟩])) (fun z9=>JX 0 n (⟨18,[],[(3,.val (.int .i64 z9))]⟩:Env) (Z4 O n [none]) (n+1)) ?_
  intro s0_ x0_ hs0_
  unfold Zbx at hs0_
  try dsimp only
  refine Zf ?_
  obtain ⟨z4,hz4,hs0_⟩:=bC hs0_
  refine Yt (E':=⟨18,[],[(1,.ref n 0),(3,.val (.int .i64 s0_)),(14,.val (.bool z4))]⟩) (O':=(Z4 O n [some ⟨false,50,9,1,(Zk a0)⟩])) (n0:=(n+1)) ?_ ?_
  ·rcases Bool.eq_false_or_eq_true (decide (0 < s0_)) with c7 | c7
   ·replace hz4:=Zz c7 hz4
    obtain ⟨y6,hy6,hz4⟩:=bC hz4
    refine Zb Zc (Ycq []) ?_
    simp only [push_cast,seval,Za,c7,hN0,hN]
    refine (Ge hy6).then ?_
    simp only [push_cast,seval,Za,c7,hN0,hN]
    have hz4:=Option.some.inj hz4;subst hz4
    refine And.intro rfl (Fit2.of (Zp hU rfl rfl ?_) (by omega))
    simp only [push_cast,seval,Za,c7,hN0,hN]
   replace hz4:=Zy c7 hz4
   refine Zb Zc (Yeb []) ?_
   simp only [push_cast,seval,Za,c7,hN0,hN]
   have hz4:=Option.some.inj hz4;subst hz4
   refine And.intro rfl (Fit2.of (Zp hU rfl rfl ?_) (by omega))
   simp only [push_cast,seval,Za,c7,hN0,hN]
  refine Zq (t:=z4) rfl (fun c8 => ?_) (fun c8 => ?_)
  ·replace hs0_:=Zz c8 hs0_
   refine Zt ?_
   try simp only [Zh,Ze]
   refine Zg [1,3] [true] ?_
   simp only [push_cast,seval]
   refine Yl ?_
   refine Zb Zc [] ?_
   simp only [push_cast,seval,Za,hN0,hN]
   have hs0_:=Option.some.inj hs0_;subst hs0_
   refine And.intro rfl (Fit2.of (Zp hU rfl rfl ?_) (by omega))
   simp only [push_cast,seval,Za,hN0,hN]
  replace hs0_:=Zy c8 hs0_
  refine X9 ?_
  try simp only [Zh,Ze,↓reduceIte,Nat.reduceEqDiff]
  have hs0_:=Option.some.inj hs0_;subst hs0_
  refine And.intro (fun h=>by cases h) (And.intro rfl (Fit2.of (Zp hU rfl rfl ?_) (by omega)))
  simp only [push_cast,seval,Za,hN0,hN]
 try simp only [Zh,Ze,↓reduceIte,Nat.reduceEqDiff]
 refine Zg [3] [false] ?_
 simp only [push_cast,seval]
 refine Zn [2] (Zb Zc [] ?_)
 simp only [push_cast,seval,Za,hN0,hN]
 refine Zv ?_
 try simp only [Zh,Ze]
 have h:=Option.some.inj h;subst h
 refine Zo (.inr rfl) hU [.val (.int .i64 z9)] (by omega) ?_
 simp only [push_cast,seval,Za,Try.results137,hN0,hN]
theorem Zdt {a0:Zd} {a2:Z7} {r:Z7} {O:Objs} {n:Nat} {i2:Nat} (hi2:i2 < n) (ho2:O i2=some ⟨false,135,2,1,[.val (.int .u64 a2.sum),.val (.int .i64 a2.left)]⟩) (h:Qe a0 a2=some r):GTo Try.prog 119 [.agg (Zk a0),.fn 120 0 [],.fn 117 1 [.ref i2 0]] O n (.tup []) (Z4 (O.upd i2 (some ⟨false,135,2,1,[.val (.int .u64 r.sum),.val (.int .i64 r.left)]⟩)) n []) (n+0):=by
 unfold Qe at h
 refine Yi Zc Try.call119 Try.func119 rfl (Nat.le_of_ble_eq_true rfl) (by omega) fun hU => ?_
 rw [show Z4 O n []=Z4 (O.upd i2 (some ⟨false,135,2,1,[.val (.int .u64 a2.sum),.val (.int .i64 a2.left)]⟩)) n [] from by rw [Zh2 (show O i2=_ from by exact ho2)]]
 have hk2:∀ k,i2 < n+k:=fun k=>by omega
 have hN0:∀ o,Objs.upd O i2 o n=none:=fun o=>J8 hU hi2 _ (Nat.le_refl _)
 have hN:∀ o k,Objs.upd O i2 o (n+k)=none:=fun o k=>J8 hU hi2 _ (Nat.le_add_right _ _)
 show W _ _ _ _ ⟨25,[],[(0,.agg (Zk a0)),(1,.fn 120 0 []),(2,.fn 117 1 [.ref i2 0])]⟩ (Z4 (O.upd i2 (some ⟨false,135,2,1,[.val (.int .u64 a2.sum),.val (.int .i64 a2.left)]⟩)) n []) _
 refine Zn [1,2,3] (Zb Zc [] ?_)
 simp only [push_cast,seval,Za,hi2,hk2,hN0,hN]
 refine Zf ?_
 obtain ⟨y2,hy2,h⟩:=bC h
 refine Zb Zc [] ?_
 simp only [push_cast,seval,Za,hi2,hk2,hN0,hN]
 refine (Zic hy2).then ?_
 simp only [push_cast,seval,Za,hi2,hk2,hN0,hN]
 refine Zg [1,2,3,6] [true] ?_
 simp only [push_cast,seval]
 refine Zf ?_
 obtain ⟨y4,hy4,h⟩:=bC h
 refine Zb Zc [] ?_
 simp only [push_cast,seval,Za,hi2,hk2,hN0,hN]
 refine (Uq (i0:=i2) (by omega) (by simp only [push_cast,seval,Za,Qk,hi2,hk2,hN0,hN] <;> rfl) hy4).then ?_
 simp only [push_cast,seval,Za,hi2,hk2,hN0,hN]
 refine Zg [1,2,3,6] [true] ?_
 simp only [push_cast,seval]
 refine Zn [1,2,3,14,15] (Zb Zc [] ?_)
 simp only [push_cast,seval,Za,hi2,hk2,hN0,hN]
 refine Zg [1,2,3,14,15] [true] ?_
 simp only [push_cast,seval]
 obtain ⟨z8,hz8,h⟩:=bC h
 refine Y2 (E':=⟨25,[],[]⟩) (O':=(Z4 (O.upd i2 (some ⟨false,135,2,1,[.val (.int .u64 z8.1),.val (.int .i64 z8.2)]⟩)) n [none])) (n0:=(n+1)) ?_ ?_
 ·refine Xp hz8 (fun s0_=>⟨25,[],[(1,.fn 120 0 []),(2,.fn 117 1 [.ref i2 0]),(3,.ref n 0),(14,.val (.int .i64 y2)),(15,.val (.int .i64 s0_.1))]⟩) (fun s0_=>(Z4 (O.upd i2 (some ⟨false,135,2,1,[.val (.int .u64 s0_.2.1),.val (.int .i64 s0_.2.2)]⟩)) n [some ⟨false,50,9,1,(Zk a0)⟩])) (fun z8=>JX 0 n (⟨25,[],[]⟩:Env) (Z4 (O.upd i2 (some ⟨false,135,2,1,[.val (.int .u64 z8.1),.val (.int .i64 z8.2)]⟩)) n [none]) (n+1)) ?_
  intro s0_ x0_ hs0_
  unfold Xt at hs0_
  try dsimp only
  refine Zn [1,2,3,14,15,16] (Zb Zc [] ?_)
  simp only [push_cast,seval,Za,hi2,hk2,hN0,hN]
  refine Zf ?_
  refine Zq (t:=(decide (s0_.1 < y2))) rfl (fun c7 => ?_) (fun c7 => ?_)
  ·replace hs0_:=Zz c7 hs0_
   refine Zt ?_
   try simp only [Zh,Ze]
   refine Zg [1,2,3,14,15] [true] ?_
   simp only [push_cast,seval]
   refine Zf ?_
   refine Yl ?_
   refine Zn [1,2,3,7,14,15] (Zb Zc [] ?_)
   simp only [push_cast,seval,Za,hi2,hk2,hN0,hN]
   obtain ⟨y5,hy5,hs0_⟩:=bC hs0_
   obtain ⟨y6,hy6,hs0_⟩:=bC hs0_
   refine Zb Zc [] ?_
   simp only [push_cast,seval,Za,hi2,hk2,hN0,hN]
   refine (Ge hy5).then ?_
   simp only [push_cast,seval,Za,hi2,hk2,hN0,hN]
   refine (Uq (i0:=i2) (by omega) (by simp only [push_cast,seval,Za,Qk,hi2,hk2,hN0,hN] <;> rfl) hy6).then ?_
   simp only [push_cast,seval,Za,hi2,hk2,hN0,hN]
   refine Zg [1,2,3,14,15] [true] ?_
   simp only [push_cast,seval]
   refine Zb Zc [] ?_
   simp only [push_cast,seval,Za,hi2,hk2,hN0,hN]
   have hs0_:=Option.some.inj hs0_;subst hs0_
   refine And.intro rfl (Fit2.of (Yc hU rfl rfl ?_) (by omega))
   simp only [push_cast,seval,Za,hi2,hk2,hN0,hN]
  replace hs0_:=Zy c7 hs0_
  refine X9 ?_
  try simp only [Zh,Ze,↓reduceIte,Nat.reduceEqDiff]
  have hs0_:=Option.some.inj hs0_;subst hs0_
  refine And.intro (fun h=>by cases h) (And.intro rfl (Fit2.of (Yc hU rfl rfl ?_) (by omega)))
  simp only [push_cast,seval,Za,hi2,hk2,hN0,hN]
 try simp only [Zh,Ze,↓reduceIte,Nat.reduceEqDiff]
 have h:=Option.some.inj h;subst h
 refine Jt (k:=0) (i:=i2) (q1:=⟨false,135,2,1,[.val (.int .u64 z8.1),.val (.int .i64 z8.2)]⟩) (L3:=[none]) (E2:=(⟨25,[],[]⟩:Env)) (n3:=(n+1)) (.inl rfl) hU rfl [] ?_ ?_
 ·refine Fit2.trans (E':=(⟨25,[],[]⟩:Env)) (O':=(Z4 (O.upd i2 (some ⟨false,135,2,1,[.val (.int .u64 z8.1),.val (.int .i64 z8.2)]⟩)) n [none])) (n':=(n+1)) (Fit2.of (Yc hU rfl rfl ?_) (by omega)) ?_
  ·simp only [push_cast,seval,Za,hi2,hk2,hN0,hN]
  refine X4 (k:=1) (k':=1) hU [0] [0] rfl rfl rfl rfl ⟨rfl,rfl⟩ ?_
  simp only [push_cast,seval,Za,hi2,hk2,hN0,hN]
 simp only [push_cast,seval,Za,Try.results119,hi2,hk2,hN0,hN]
theorem Zih {Jq:(Z7→Zd→Option (Int×Z7))} (Zgx:∀ {a0:Z7} {a1:Zd} {r:(Int×Z7)} {O:Objs} {n:Nat} {i0:Nat},i0 < n→O i0=some ⟨false,135,2,1,[.val (.int .u64 a0.sum),.val (.int .i64 a0.left)]⟩→Jq a0 a1=some r→GTo Try.prog 77 [.ref i0 0,.agg (Zk a1)] O n (.val (.int .i64 r.1)) (Z4 (O.upd i0 (some ⟨false,135,2,1,[.val (.int .u64 r.2.sum),.val (.int .i64 r.2.left)]⟩)) n []) (n+0)) {a0:Z7} {a1:Zd} {r:(Int×Z7)} {O:Objs} {n:Nat} {i0:Nat} (hi0:i0 < n) (ho0:O i0=some ⟨false,135,2,1,[.val (.int .u64 a0.sum),.val (.int .i64 a0.left)]⟩) (h:Xy Jq a0 a1=some r):GTo Try.prog 77 [.ref i0 0,.agg (Zk a1)] O n (.val (.int .i64 r.1)) (Z4 (O.upd i0 (some ⟨false,135,2,1,[.val (.int .u64 r.2.sum),.val (.int .i64 r.2.left)]⟩)) n []) (n+0):=by
 unfold Xy at h
 refine Yi Zc Try.call77 Try.func77 rfl (Nat.le_of_ble_eq_true rfl) (by omega) fun hU => ?_
 rw [show Z4 O n []=Z4 (O.upd i0 (some ⟨false,135,2,1,[.val (.int .u64 a0.sum),.val (.int .i64 a0.left)]⟩)) n [] from by rw [Zh2 (show O i0=_ from by exact ho0)]]
 have hk0:∀ k,i0 < n+k:=fun k=>by omega
 have hN0:∀ o,Objs.upd O i0 o n=none:=fun o=>J8 hU hi0 _ (Nat.le_refl _)
 have hN:∀ o k,Objs.upd O i0 o (n+k)=none:=fun o k=>J8 hU hi0 _ (Nat.le_add_right _ _)
 show W _ _ _ _ ⟨64,[],[(0,.ref i0 0),(1,.agg (Zk a1))]⟩ (Z4 (O.upd i0 (some ⟨false,135,2,1,[.val (.int .u64 a0.sum),.val (.int .i64 a0.left)]⟩)) n []) _
 refine Zn [0,3] (Zb Zc [] ?_)
 simp only [push_cast,seval,Za,hi0,hk0,hN0,hN]
 refine Zf ?_
 refine Zn [0,3,15] (Zb Zc [] ?_)
 simp only [push_cast,seval,Za,hi0,hk0,hN0,hN]
 refine Zq (t:=(a0.left == 0)) rfl (fun c20 => ?_) (fun c20 => ?_)
 ·replace h:=Zz c20 h
  refine Zn [4] (Zb Zc [] ?_)
  simp only [push_cast,seval,Za,hi0,hk0,hN0,hN]
  refine Zv ?_
  try simp only [Zh,Ze]
  have h:=Option.some.inj h;subst h
  refine Jt (k:=0) (i:=i0) (q1:=⟨false,135,2,1,[.val (.int .u64 a0.sum),.val (.int .i64 a0.left)]⟩) (L3:=[none]) (E2:=(⟨64,[],[(4,.val (.int .i64 3))]⟩:Env)) (n3:=(n+1)) (.inr rfl) hU rfl [.val (.int .i64 3)] ?_ ?_
  ·refine Fit2.trans (E':=(⟨64,[],[(4,.val (.int .i64 3))]⟩:Env)) (O':=(Z4 (O.upd i0 (some ⟨false,135,2,1,[.val (.int .u64 a0.sum),.val (.int .i64 a0.left)]⟩)) n [none])) (n':=(n+1)) (Fit2.of (Yc hU rfl rfl ?_) (by omega)) ?_
   ·simp only [push_cast,seval,Za,hi0,hk0,hN0,hN]
   refine X4 (k:=1) (k':=1) hU [0] [0] rfl rfl rfl rfl ⟨rfl,rfl⟩ ?_
   simp only [push_cast,seval,Za,hi0,hk0,hN0,hN]
  simp only [push_cast,seval,Za,Try.results77,hi0,hk0,hN0,hN]
 replace h:=Zy c20 h
 refine Zt ?_
 try simp only [Zh,Ze]
 refine Zg [0,3] [true] ?_
 simp only [push_cast,seval]
 refine Zf ?_
 refine Zb Zc [] ?_
 simp only [push_cast,seval,Za,hi0,hk0,hN0,hN]
 refine Zg [0,3] [true] ?_
 simp only [push_cast,seval]
 refine Zf ?_
 obtain ⟨y2,hy2,h⟩:=bC h
 refine Zb Zc [] ?_
 simp only [push_cast,seval,Za,hi0,hk0,hN0,hN]
 refine (Zgc hy2).then ?_
 simp only [push_cast,seval,Za,hi0,hk0,hN0,hN]
 refine Zg [0,3,5,6] [true] ?_
 simp only [push_cast,seval]
 refine Zf ?_
 refine Zn [0,3,5,6,29] (Zb Zc [] ?_)
 simp only [push_cast,seval,Za,hi0,hk0,hN0,hN]
 refine Zq (t:=(y2.2 != 0)) rfl (fun c19 => ?_) (fun c19 => ?_)
 ·replace h:=Zz c19 h
  refine Zn [4] (Zb Zc [] ?_)
  simp only [push_cast,seval,Za,hi0,hk0,hN0,hN]
  refine Zv ?_
  try simp only [Zh,Ze]
  have h:=Option.some.inj h;subst h
  refine Jt (k:=0) (i:=i0) (q1:=⟨false,135,2,1,[.val (.int .u64 a0.sum),.val (.int .i64 (IntKind.i64.wrap (a0.left - 1)))]⟩) (L3:=[none]) (E2:=(⟨64,[],[(4,.val (.int .i64 y2.2))]⟩:Env)) (n3:=(n+1)) (.inr rfl) hU rfl [.val (.int .i64 y2.2)] ?_ ?_
  ·refine Fit2.trans (E':=(⟨64,[],[(4,.val (.int .i64 y2.2))]⟩:Env)) (O':=(Z4 (O.upd i0 (some ⟨false,135,2,1,[.val (.int .u64 a0.sum),.val (.int .i64 (IntKind.i64.wrap (a0.left - 1)))]⟩)) n [none])) (n':=(n+1)) (Fit2.of (Yc hU rfl rfl ?_) (by omega)) ?_
   ·simp only [push_cast,seval,Za,hi0,hk0,hN0,hN]
   refine X4 (k:=1) (k':=1) hU [0] [0] rfl rfl rfl rfl ⟨rfl,rfl⟩ ?_
   simp only [push_cast,seval,Za,hi0,hk0,hN0,hN]
  simp only [push_cast,seval,Za,Try.results77,hi0,hk0,hN0,hN]
 replace h:=Zy c19 h
 refine Zt ?_
 try simp only [Zh,Ze]
 refine Zg [0,3,5] [true] ?_
 simp only [push_cast,seval]
 refine Zf ?_
 obtain ⟨y5,hy5,h⟩:=bC h
 obtain ⟨y6,hy6,h⟩:=bC h
 refine Zb Zc [] ?_
 simp only [push_cast,seval,Za,hi0,hk0,hN0,hN]
 refine (Je hy5).then ?_
 simp only [push_cast,seval,Za,hi0,hk0,hN0,hN]
 refine (Uq (i0:=i0) (by omega) (by simp only [push_cast,seval,Za,Qk,hi0,hk0,hN0,hN] <;> rfl) hy6).then ?_
 simp only [push_cast,seval,Za,hi0,hk0,hN0,hN]
 refine Zg [0,3,5] [true] ?_
 simp only [push_cast,seval]
 refine Zf ?_
 obtain ⟨y8,hy8,h⟩:=bC h
 refine Zb Zc [] ?_
 simp only [push_cast,seval,Za,hi0,hk0,hN0,hN]
 refine (Uq (i0:=i0) (by omega) (by simp only [push_cast,seval,Za,Qk,hi0,hk0,hN0,hN] <;> rfl) hy8).then ?_
 simp only [push_cast,seval,Za,hi0,hk0,hN0,hN]
 refine Zg [0,3,5] [true] ?_
 simp only [push_cast,seval]
 refine Zf ?_
 obtain ⟨y10,hy10,h⟩:=bC h
 refine Zb Zc [] ?_
 simp only [push_cast,seval,Za,hi0,hk0,hN0,hN]
 refine (Zdt (i2:=i0) (by omega) (by simp only [push_cast,seval,Za,Qk,hi0,hk0,hN0,hN] <;> rfl) hy10).then ?_
 simp only [push_cast,seval,Za,hi0,hk0,hN0,hN]
 refine Zg [0,3,5] [true] ?_
 simp only [push_cast,seval]
 refine Zf ?_
 refine Zn [0,3,44,45] (Zb Zc [] ?_)
 simp only [push_cast,seval,Za,hi0,hk0,hN0,hN]
 refine Zg [0,3,44,45] [true] ?_
 simp only [push_cast,seval]
 obtain ⟨z18,hz18,h⟩:=bC h
 refine Za6 (J:=(Qu (fun z18=>JR n (⟨64,[],[(4,.val (.int .i64 z18.1))]⟩:Env) (Z4 (O.upd i0 (some ⟨false,135,2,1,[.val (.int .u64 z18.2.1),.val (.int .i64 z18.2.2)]⟩)) n [none]) (n+1)) (fun z18=>JX 0 n (⟨64,[],[]⟩:Env) (Z4 (O.upd i0 (some ⟨false,135,2,1,[.val (.int .u64 z18.1),.val (.int .i64 z18.2)]⟩)) n [none]) (n+1)))) (z:=z18) ?_ fun hw => ?_
 ·refine Xp hz18 (fun s0_=>⟨64,[],[(0,.ref i0 0),(3,.ref n 0),(44,.val (.int .i64 y2.1)),(45,.val (.int .i64 s0_.1))]⟩) (fun s0_=>(Z4 (O.upd i0 (some ⟨false,135,2,1,[.val (.int .u64 s0_.2.1),.val (.int .i64 s0_.2.2)]⟩)) n [some ⟨false,50,9,1,(Zk a1)⟩])) (Qu (fun z18=>JR n (⟨64,[],[(4,.val (.int .i64 z18.1))]⟩:Env) (Z4 (O.upd i0 (some ⟨false,135,2,1,[.val (.int .u64 z18.2.1),.val (.int .i64 z18.2.2)]⟩)) n [none]) (n+1)) (fun z18=>JX 0 n (⟨64,[],[]⟩:Env) (Z4 (O.upd i0 (some ⟨false,135,2,1,[.val (.int .u64 z18.1),.val (.int .i64 z18.2)]⟩)) n [none]) (n+1))) ?_
  intro s0_ x0_ hs0_
  unfold Jh at hs0_
  try dsimp only
  refine Zn [0,3,44,45,46] (Zb Zc [] ?_)
  simp only [push_cast,seval,Za,hi0,hk0,hN0,hN]
  refine Zf ?_
  refine Zq (t:=(decide (s0_.1 < y2.1))) rfl (fun c17 => ?_) (fun c17 => ?_)
  ·replace hs0_:=Zz c17 hs0_
   refine Zt ?_
   try simp only [Zh,Ze]
   refine Zg [0,3,44,45] [true] ?_
   simp only [push_cast,seval]
   refine Zf ?_
   refine Yl ?_
   refine Zn [0,3,7,44,45] (Zb Zc [] ?_)
   simp only [push_cast,seval,Za,hi0,hk0,hN0,hN]
   refine Zf ?_
   obtain ⟨y12,hy12,hs0_⟩:=bC hs0_
   refine Zb Zc [] ?_
   simp only [push_cast,seval,Za,hi0,hk0,hN0,hN]
   refine (Ua hy12).then ?_
   simp only [push_cast,seval,Za,hi0,hk0,hN0,hN]
   refine Zg [0,3,8,9,44,45] [true,true] ?_
   simp only [push_cast,seval]
   refine Zf ?_
   refine Zn [0,3,8,9,44,45,55] (Zb Zc [] ?_)
   simp only [push_cast,seval,Za,hi0,hk0,hN0,hN]
   refine Zq (t:=(y12.2 != 0)) rfl (fun c16 => ?_) (fun c16 => ?_)
   ·replace hs0_:=Zz c16 hs0_
    refine Zn [4] (Zb Zc [] ?_)
    simp only [push_cast,seval,Za,hi0,hk0,hN0,hN]
    refine Zv ?_
    try simp only [Zh,Ze]
    have hs0_:=Option.some.inj hs0_;subst hs0_
    refine And.intro (fun h=>by cases h) (And.intro rfl (Fit2.of (Yc hU rfl rfl ?_) (by omega)))
    simp only [push_cast,seval,Za,hi0,hk0,hN0,hN]
   replace hs0_:=Zy c16 hs0_
   refine Zt ?_
   try simp only [Zh,Ze]
   refine Zg [0,3,8,44,45] [true,true] ?_
   simp only [push_cast,seval]
   refine Zf ?_
   obtain ⟨y14,hy14,hs0_⟩:=bC hs0_
   refine Zb Zc [] ?_
   simp only [push_cast,seval,Za,hi0,hk0,hN0,hN]
   refine (Zgx (i0:=i0) (by omega) (by simp only [push_cast,seval,Za,Qk,hi0,hk0,hN0,hN] <;> rfl) hy14).then ?_
   simp only [push_cast,seval,Za,hi0,hk0,hN0,hN]
   refine Zg [0,3,10,44,45] [true,false] ?_
   simp only [push_cast,seval]
   refine Zn [0,3,10,44,45,61] (Zb Zc [] ?_)
   simp only [push_cast,seval,Za,hi0,hk0,hN0,hN]
   refine Zq (t:=(y14.1 != 0)) rfl (fun c15 => ?_) (fun c15 => ?_)
   ·replace hs0_:=Zz c15 hs0_
    refine Zn [4] (Zb Zc [] ?_)
    simp only [push_cast,seval,Za,hi0,hk0,hN0,hN]
    refine Zv ?_
    try simp only [Zh,Ze]
    have hs0_:=Option.some.inj hs0_;subst hs0_
    refine And.intro (fun h=>by cases h) (And.intro rfl (Fit2.of (Yc hU rfl rfl ?_) (by omega)))
    simp only [push_cast,seval,Za,hi0,hk0,hN0,hN]
   replace hs0_:=Zy c15 hs0_
   refine Zt ?_
   try simp only [Zh,Ze]
   refine Zg [0,3,44,45] [true,false] ?_
   simp only [push_cast,seval]
   refine Zb Zc [] ?_
   simp only [push_cast,seval,Za,hi0,hk0,hN0,hN]
   have hs0_:=Option.some.inj hs0_;subst hs0_
   refine And.intro rfl (Fit2.of (Yc hU rfl rfl ?_) (by omega))
   simp only [push_cast,seval,Za,hi0,hk0,hN0,hN]
  replace hs0_:=Zy c17 hs0_
  refine X9 ?_
  try simp only [Zh,Ze,↓reduceIte,Nat.reduceEqDiff]
  have hs0_:=Option.some.inj hs0_;subst hs0_
  refine And.intro (fun h=>by cases h) (And.intro rfl (Fit2.of (Yc hU rfl rfl ?_) (by omega)))
  simp only [push_cast,seval,Za,hi0,hk0,hN0,hN]
 rcases z18 with z18 | z18
 ·dsimp only [Qu] at hw h
  refine Vn hw ?_
  try simp only [Zh,Ze,↓reduceIte,Nat.reduceEqDiff]
  have h:=Option.some.inj h;subst h
  refine Jt (k:=0) (i:=i0) (q1:=⟨false,135,2,1,[.val (.int .u64 z18.2.1),.val (.int .i64 z18.2.2)]⟩) (L3:=[none]) (E2:=(⟨64,[],[(4,.val (.int .i64 z18.1))]⟩:Env)) (n3:=(n+1)) (.inr rfl) hU rfl [.val (.int .i64 z18.1)] ?_ ?_
  ·refine Fit2.trans (E':=(⟨64,[],[(4,.val (.int .i64 z18.1))]⟩:Env)) (O':=(Z4 (O.upd i0 (some ⟨false,135,2,1,[.val (.int .u64 z18.2.1),.val (.int .i64 z18.2.2)]⟩)) n [none])) (n':=(n+1)) (Fit2.of (Yc hU rfl rfl ?_) (by omega)) ?_
   ·simp only [push_cast,seval,Za,hi0,hk0,hN0,hN]
   refine X4 (k:=1) (k':=1) hU [0] [0] rfl rfl rfl rfl ⟨rfl,rfl⟩ ?_
   simp only [push_cast,seval,Za,hi0,hk0,hN0,hN]
  simp only [push_cast,seval,Za,Try.results77,hi0,hk0,hN0,hN]
 dsimp only [Qu] at hw h
 refine Y2 hw ?_
 try simp only [Zh,Ze,↓reduceIte,Nat.reduceEqDiff]
 refine Zg [] [false] ?_
 simp only [push_cast,seval]
 refine Zn [4] (Zb Zc [] ?_)
 simp only [push_cast,seval,Za,hi0,hk0,hN0,hN]
 refine Zv ?_
 try simp only [Zh,Ze]
 have h:=Option.some.inj h;subst h
 refine Jt (k:=0) (i:=i0) (q1:=⟨false,135,2,1,[.val (.int .u64 z18.1),.val (.int .i64 z18.2)]⟩) (L3:=[none]) (E2:=(⟨64,[],[(4,.val (.int .i64 0))]⟩:Env)) (n3:=(n+1)) (.inr rfl) hU rfl [.val (.int .i64 0)] ?_ ?_
 ·refine Fit2.trans (E':=(⟨64,[],[(4,.val (.int .i64 0))]⟩:Env)) (O':=(Z4 (O.upd i0 (some ⟨false,135,2,1,[.val (.int .u64 z18.1),.val (.int .i64 z18.2)]⟩)) n [none])) (n':=(n+1)) (Fit2.of (Yc hU rfl rfl ?_) (by omega)) ?_
  ·simp only [push_cast,seval,Za,hi0,hk0,hN0,hN]
  refine X4 (k:=1) (k':=1) hU [0] [0] rfl rfl rfl rfl ⟨rfl,rfl⟩ ?_
  simp only [push_cast,seval,Za,hi0,hk0,hN0,hN]
 simp only [push_cast,seval,Za,Try.results77,hi0,hk0,hN0,hN]
theorem Zf9:∀ k,(∀ {a0:Z7} {a1:Zd} {r:(Int×Z7)} {O:Objs} {n:Nat} {i0:Nat},i0 < n→O i0=some ⟨false,135,2,1,[.val (.int .u64 a0.sum),.val (.int .i64 a0.left)]⟩→(Ys k) a0 a1=some r→GTo Try.prog 77 [.ref i0 0,.agg (Zk a1)] O n (.val (.int .i64 r.1)) (Z4 (O.upd i0 (some ⟨false,135,2,1,[.val (.int .u64 r.2.sum),.val (.int .i64 r.2.left)]⟩)) n []) (n+0)):=fun k=>by
 induction k with
 | zero=>exact @fun a0 a1 r O n i0 hi0 ho0 h=>(nomatch (show (none:Option _)=some _ from h))
 | succ k ih=>exact @fun a0 a1 r O n i0 hi0 ho0 h=>Zih (ih) hi0 ho0 h
theorem Zi7 {a0:Z7} {a1:Zd} {r:(Int×Z7)} {O:Objs} {n:Nat} {i0:Nat} (hi0:i0 < n) (ho0:O i0=some ⟨false,135,2,1,[.val (.int .u64 a0.sum),.val (.int .i64 a0.left)]⟩) (h:G0 a0 a1=some r):GTo Try.prog 77 [.ref i0 0,.agg (Zk a1)] O n (.val (.int .i64 r.1)) (Z4 (O.upd i0 (some ⟨false,135,2,1,[.val (.int .u64 r.2.sum),.val (.int .i64 r.2.left)]⟩)) n []) (n+0):=by
 obtain ⟨k,hk⟩:=Ze9 h
 exact (Zf9 k) hi0 ho0 hk
theorem Zu3 {a0:Zd} {r:(Int×Int)} {O:Objs} {n:Nat} (h:Zbz a0=some r):GTo Try.prog 41 [.agg (Zk a0)] O n (.tup [.val (.int .u64 r.1),.val (.int .i64 r.2)]) O n:=by
 unfold Zbz at h
 refine Yi Zc Try.call41 Try.func41 rfl (Nat.le_of_ble_eq_true rfl) (Nat.le_refl _) fun hU => ?_
 have hN0:O n=none:=hU.fresh _ (Nat.le_refl _)
 have hN:∀ k,O (n+k)=none:=fun k=>hU.fresh _ (Nat.le_add_right _ _)
 show W _ _ _ _ ⟨14,[],[(0,.agg (Zk a0))]⟩ (Z4 O n []) _
 refine Zn [1] (Zb Zc [] ?_)
 simp only [push_cast,seval,Za,hN0,hN]
 refine Zf ?_
 refine Zb Zc [] ?_
 simp only [push_cast,seval,Za,hN0,hN]
 refine Zg [1,4] [true,true] ?_
 simp only [push_cast,seval]
 refine Zf ?_
 refine Zf ?_
 obtain ⟨y2,hy2,h⟩:=bC h
 refine Zb Zc [] ?_
 simp only [push_cast,seval,Za,hN0,hN]
 refine (Zi7 (i0:=(n+1)) (by omega) (by simp only [push_cast,seval,Za,Qk,hN0,hN] <;> rfl) hy2).then ?_
 simp only [push_cast,seval,Za,hN0,hN]
 refine Zg [4,5] [false,true] ?_
 simp only [push_cast,seval]
 refine Zn [4,5,10] (Zb Zc [] ?_)
 simp only [push_cast,seval,Za,hN0,hN]
 refine Zq (t:=(y2.1 != 0)) rfl (fun c3 => ?_) (fun c3 => ?_)
 ·replace h:=Zz c3 h
  refine Zn [2,3] (Zb Zc [] ?_)
  simp only [push_cast,seval,Za,hN0,hN]
  refine Zv ?_
  try simp only [Zh,Ze]
  have h:=Option.some.inj h;subst h
  refine Zo (.inr rfl) hU [.val (.int .u64 0),.val (.int .i64 y2.1)] (by omega) ?_
  simp only [push_cast,seval,Za,Try.results41,hN0,hN]
 replace h:=Zy c3 h
 refine Zt ?_
 try simp only [Zh,Ze]
 refine Zg [4] [false,true] ?_
 simp only [push_cast,seval]
 refine Zn [2,3] (Zb Zc [] ?_)
 simp only [push_cast,seval,Za,hN0,hN]
 refine Zv ?_
 try simp only [Zh,Ze]
 have h:=Option.some.inj h;subst h
 refine Zo (.inr rfl) hU [.val (.int .u64 y2.2.sum),.val (.int .i64 0)] (by omega) ?_
 simp only [push_cast,seval,Za,Try.results41,hN0,hN]
theorem Zci {a0:(Option Z3)} {a1:Int} {r:Int} {O:Objs} {n:Nat} (h:Qo a0 a1=some r):GTo Try.prog 79 [(gP Y6 a0),.val (.int .u64 a1)] O n (.val (.int .i64 r)) O n:=by
 unfold Qo at h
 refine Yi Zc Try.call79 Try.func79 rfl (Nat.le_of_ble_eq_true rfl) (Nat.le_refl _) fun hU => ?_
 have hN0:O n=none:=hU.fresh _ (Nat.le_refl _)
 have hN:∀ k,O (n+k)=none:=fun k=>hU.fresh _ (Nat.le_add_right _ _)
 show W _ _ _ _ ⟨14,[],[(0,(gP Y6 a0)),(1,.val (.int .u64 a1))]⟩ (Z4 O n []) _
 refine Zn [0,1] (Zb Zc [] ?_)
 simp only [push_cast,seval,Za,hN0,hN]
 obtain ⟨x3,hx3,h⟩:=bC h
 obtain ⟨pu4,h⟩:=bG h
 refine Zn [4] (Zb Zc [] ?_)
 simp only [push_cast,seval,Za,hx3,pu4,hN0,hN]
 refine Zv ?_
 try simp only [Zh,Ze]
 have h:=Option.some.inj h;subst h
 refine Zo (.inr rfl) hU [.val (.int .i64 (IntKind.i64.wrap (Int.tmod a1 (IntKind.u64.wrap (x3.places.length:Int)))))] (by omega) ?_
 simp only [push_cast,seval,Za,Try.results79,hN0,hN]
theorem Zdp {a0:(Option Z3)} {a1:Int} {r:Int} {O:Objs} {n:Nat} (h:J7 a0 a1=some r):GTo Try.prog 80 [(gP Y6 a0),.val (.int .i64 a1)] O n (.val (.int .i64 r)) O n:=by
 unfold J7 at h
 refine Yi Zc Try.call80 Try.func80 rfl (Nat.le_of_ble_eq_true rfl) (Nat.le_refl _) fun hU => ?_
 have hN0:O n=none:=hU.fresh _ (Nat.le_refl _)
 have hN:∀ k,O (n+k)=none:=fun k=>hU.fresh _ (Nat.le_add_right _ _)
 show W _ _ _ _ ⟨13,[],[(0,(gP Y6 a0)),(1,.val (.int .i64 a1))]⟩ (Z4 O n []) _
 refine Zn [0,1] (Zb Zc [] ?_)
 simp only [push_cast,seval,Za,hN0,hN]
 obtain ⟨x3,hx3,h⟩:=bC h
 obtain ⟨pu4,h⟩:=bG h
 refine Zn [4] (Zb Zc [] ?_)
 simp only [push_cast,seval,Za,hx3,pu4,hN0,hN]
 refine Zv ?_
 try simp only [Zh,Ze]
 have h:=Option.some.inj h;subst h
 refine Zo (.inr rfl) hU [.val (.int .i64 (Int.tmod (IntKind.i64.wrap (a1+1)) (x3.places.length:Int)))] (by omega) ?_
 simp only [push_cast,seval,Za,Try.results80,hN0,hN]
attribute [local push_cast] Z2y and_false false_and decide_true Bool.not_not Zcs List.length_append Int.le_refl Bool.not_eq_false' Zyw Vg Z5f Zsx Z5g Zfx Zyz Zom Zuw Zr6 Zcj Zjc Zim
theorem Zjp {a0:Z3} {r:Z3} {O:Objs} {n:Nat} {i0 j0_0 j0_1:Nat} (hi0:i0 < n) (Zr2:j0_0 < n) (Zr3:j0_1 < n) (Zji:i0≠j0_0) (Ze6:i0≠j0_1) (Ze5:j0_0≠j0_1) (ho0:O i0=some ⟨false,93,2,1,[.row j0_0 a0.classes.length,.row j0_1 a0.places.length]⟩) (Ztp:O j0_0=some ⟨true,99,10,a0.classes.length,fl Zj a0.classes⟩) (Ztq:O j0_1=some ⟨true,3,1,a0.places.length,fl (eI .i64) a0.places⟩) (h:J6 a0=some r):GTo Try.prog 78 [.ref i0 0] O n (.tup []) (Z4 (((O.upd j0_0 none).upd j0_1 none).upd i0 (some ⟨false,93,2,1,[.row n r.classes.length,.row (n+1) r.places.length]⟩)) n [some ⟨true,99,10,r.classes.length,fl Zj r.classes⟩,some ⟨true,3,1,r.places.length,fl (eI .i64) r.places⟩]) (n+2):=by
 unfold J6 at h
 refine Yi Zc Try.call78 Try.func78 rfl (Nat.le_of_ble_eq_true rfl) (by omega) fun hU => ?_
 have e0:=Zhk (ba:=n) (E:=⟨53,[],Zf4 0 [.ref i0 0]⟩) (O:=(Z4 O n [])) (n:=n) (i:=i0) (j:=j0_0) (k:=0) (len:=a0.classes.length) (q:=⟨false,93,2,1,[.row j0_0 a0.classes.length,.row j0_1 a0.places.length]⟩) (qj:=⟨true,99,10,a0.classes.length,fl Zj a0.classes⟩) (by rw [Xo _ hi0];first | exact ho0 | exact Ye _ _ _) rfl (by rw [Xo _ Zr2];exact Ztp) Zji (by omega)
 simp only [Js _ _ Zr2,Js _ _ hi0,Qh,Xl,Zfo,Zrn Zji,List.set_cons_zero,List.set_cons_succ,List.cons_append,List.nil_append,List.length_cons,List.length_nil,Nat.zero_add,Nat.reduceAdd,Nat.add_assoc] at e0
 refine U7 e0 ?_
 have e1:=Zhk (ba:=n) (E:=⟨53,[],Zf4 0 [.ref i0 0]⟩) (O:=(Z4 ((O.upd j0_0 none).upd i0 (some ⟨false,93,2,1,[.row n a0.classes.length,.row j0_1 a0.places.length]⟩)) n [some ⟨true,99,10,a0.classes.length,fl Zj a0.classes⟩])) (n:=(n+1)) (i:=i0) (j:=j0_1) (k:=1) (len:=a0.places.length) (q:=⟨false,93,2,1,[.row n a0.classes.length,.row j0_1 a0.places.length]⟩) (qj:=⟨true,3,1,a0.places.length,fl (eI .i64) a0.places⟩) (by rw [Xo _ hi0];first | exact ho0 | exact Ye _ _ _) rfl (by rw [Xo _ Zr3,Ya _ _ (Ne.symm Ze6),Ya _ _ (Ne.symm Ze5)];exact Ztq) Ze6 (by omega)
 simp only [Js _ _ Zr3,Js _ _ hi0,Qh,Xl,Zfo,Zrn Ze6,List.set_cons_zero,List.set_cons_succ,List.cons_append,List.nil_append,List.length_cons,List.length_nil,Nat.zero_add,Nat.reduceAdd,Nat.add_assoc] at e1
 refine U7 e1 ?_
 have hU:=(Und.drop (Und.drop hU j0_0) j0_1)
 have hk0:∀ k,i0 < n+k:=fun k=>by omega
 have hN0:∀ o,Objs.upd ((O.upd j0_0 none).upd j0_1 none) i0 o n=none:=fun o=>J8 hU hi0 _ (Nat.le_refl _)
 have hN:∀ o k,Objs.upd ((O.upd j0_0 none).upd j0_1 none) i0 o (n+k)=none:=fun o k=>J8 hU hi0 _ (Nat.le_add_right _ _)
 show W _ _ _ _ ⟨53,[],[(0,.ref i0 0)]⟩ (Z4 (((O.upd j0_0 none).upd j0_1 none).upd i0 (some ⟨false,93,2,1,[.row n a0.classes.length,.row (n+1) a0.places.length]⟩)) n [some ⟨true,99,10,a0.classes.length,fl Zj a0.classes⟩,some ⟨true,3,1,a0.places.length,fl (eI .i64) a0.places⟩]) _
 refine Zf ?_
 obtain ⟨l2,al2,bl2,cl2,el2,h⟩:=bM2 (c:=8) rfl h
 have nl2:Int.toNat (if 16 < (IntKind.i64.wrap (2 * (a0.places.length:Int))) then (IntKind.i64.wrap (2 * (a0.places.length:Int))) else 16)=List.length l2:=by rw [el2,List.length_replicate]
 have fl2:(List.replicate (List.length l2) [.val (.int .i64 0)]).flatten=fl (eI .i64) l2:=by rw [← nl2,el2];exact (Zow (f:=(eI .i64)) _ _).symm
 clear el2
 refine Zb Zc [] ?_
 simp only [push_cast,seval,Za,al2,bl2,cl2,fl2,nl2,hi0,hk0,hN0,hN]
 refine U3 ⟨53,[],[(0,.ref i0 0)]⟩ (Z4 (((O.upd j0_0 none).upd j0_1 none).upd i0 (some ⟨false,93,2,1,[.row n a0.classes.length,.row (n+2) l2.length]⟩)) n [some ⟨true,99,10,a0.classes.length,fl Zj a0.classes⟩,none,some ⟨true,3,1,l2.length,fl (eI .i64) l2⟩]) (Yc hU rfl rfl ?_) ?_
 ·simp only [push_cast,seval,Za,al2,bl2,cl2,fl2,nl2,hi0,hk0,hN0,hN]
 refine Zn [0,2] (Zb Zc [] ?_)
 simp only [push_cast,seval,Za,hi0,hk0,hN0,hN]
 refine Zn [0,2,22,23,24] (Zb Zc [] ?_)
 simp only [push_cast,seval,Za,hi0,hk0,hN0,hN]
 refine Zg [0,2,22,23,24] [true,false,true] ?_
 simp only [push_cast,seval]
 obtain ⟨z15,hz15,h⟩:=bC h
 refine Y2 (E':=⟨53,[],[]⟩) (O':=(Z4 (((O.upd j0_0 none).upd j0_1 none).upd i0 (some ⟨false,93,2,1,[.row n a0.classes.length,.row (n+2) z15.length]⟩)) n [some ⟨true,99,10,a0.classes.length,fl Zj a0.classes⟩,none,some ⟨true,3,1,z15.length,fl (eI .i64) z15⟩])) (n0:=(n+3)) ?_ ?_
 ·refine Xp hz15 (fun s0_=>⟨53,[],[(0,.ref i0 0),(2,.fn 80 1 [.ref i0 0]),(22,.row n a0.classes.length),(23,.val (.int .i64 (a0.classes.length:Int))),(24,.val (.int .i64 s0_.1))]⟩) (fun s0_=>(Z4 (((O.upd j0_0 none).upd j0_1 none).upd i0 (some ⟨false,93,2,1,[.row n a0.classes.length,.row (n+2) s0_.2.length]⟩)) n [some ⟨true,99,10,a0.classes.length,fl Zj a0.classes⟩,none,some ⟨true,3,1,s0_.2.length,fl (eI .i64) s0_.2⟩])) (fun z15=>JX 0 n (⟨53,[],[]⟩:Env) (Z4 (((O.upd j0_0 none).upd j0_1 none).upd i0 (some ⟨false,93,2,1,[.row n a0.classes.length,.row (n+2) z15.length]⟩)) n [some ⟨true,99,10,a0.classes.length,fl Zj a0.classes⟩,none,some ⟨true,3,1,z15.length,fl (eI .i64) z15⟩]) (n+3)) ?_
  intro s0_ x0_ hs0_
  unfold Jx at hs0_
  try dsimp only
  refine Zn [0,2,22,23,24,25] (Zb Zc [] ?_)
  simp only [push_cast,seval,Za,hi0,hk0,hN0,hN]
  refine Zf ?_
  refine Zq (t:=(decide (s0_.1 < (a0.classes.length:Int)))) rfl (fun c14 => ?_) (fun c14 => ?_)
  ·replace hs0_:=Zz c14 hs0_
   refine Zt ?_
   try simp only [Zh,Ze]
   refine Zg [0,2,22,23,24] [true,false,true] ?_
   simp only [push_cast,seval]
   refine Zf ?_
   refine Yl ?_
   refine Zf ?_
   obtain ⟨x4,hx4,ax4,bx4,cx4,hs0_⟩:=bE (f:=Zj) Zps (fun _=>rfl) (by decide) hs0_
   refine Zb Zc [] ?_
   simp only [push_cast,Nat.reduceAdd,Nat.reduceSub,Nat.reduceMul,Nat.reduceLeDiff,Nat.reduceLT,Nat.reduceEqDiff,↓reduceIte,reduceCtorEq,Int.reduceBEq,Int.reduceBNe,Nat.reduceBEq,Int.reduceLE,Int.reduceLT,Int.reduceEq,Int.reduceNe,Int.reduceNeg,Nat.reduceDiv,Nat.reduceMod,Nat.reducePow,Za,ax4,bx4,cx4,hi0,hk0,hN0,hN]
   refine Zg [0,2,3,4,22,23,24] [true,false,true,true] ?_
   simp only [push_cast,seval]
   refine Zf ?_
   obtain ⟨y6,hy6,hs0_⟩:=bC hs0_
   refine Zb Zc [] ?_
   simp only [push_cast,seval,Za,hi0,hk0,hN0,hN]
   refine GCalls.lend (Zci hy6) rfl ?_ ?_
   ·simp only [push_cast,seval,Za,hi0,hk0,hN0,hN]
   simp only [push_cast,seval,Za,hi0,hk0,hN0,hN]
   refine Zg [0,2,3,5,22,23,24] [true,false,true,false] ?_
   simp only [push_cast,seval]
   refine Zf ?_
   refine Zg [0,2,3,5,22,23,24] [true,false,true,false] ?_
   simp only [push_cast,seval]
   obtain ⟨z11,hz11,hs0_⟩:=bC hs0_
   refine Y2 (E':=⟨53,[],[(0,.ref i0 0),(2,.fn 80 1 [.ref i0 0]),(3,.val (.int .i64 s0_.1)),(5,.val (.int .i64 z11)),(22,.row n a0.classes.length),(23,.val (.int .i64 (a0.classes.length:Int))),(24,.val (.int .i64 s0_.1))]⟩) (O':=(Z4 (((O.upd j0_0 none).upd j0_1 none).upd i0 (some ⟨false,93,2,1,[.row n a0.classes.length,.row (n+2) s0_.2.length]⟩)) n [some ⟨true,99,10,a0.classes.length,fl Zj a0.classes⟩,none,some ⟨true,3,1,s0_.2.length,fl (eI .i64) s0_.2⟩,none])) (n0:=(n+4)) ?_ ?_
   ·refine Xp hz11 (fun s1_=>⟨53,[],[(0,.ref i0 0),(2,.fn 80 1 [.ref i0 0]),(3,.val (.int .i64 s0_.1)),(5,.val (.int .i64 s1_)),(22,.row n a0.classes.length),(23,.val (.int .i64 (a0.classes.length:Int))),(24,.val (.int .i64 s0_.1))]⟩) (fun s1_=>(Z4 (((O.upd j0_0 none).upd j0_1 none).upd i0 (some ⟨false,93,2,1,[.row n a0.classes.length,.row (n+2) s0_.2.length]⟩)) n [some ⟨true,99,10,a0.classes.length,fl Zj a0.classes⟩,none,some ⟨true,3,1,s0_.2.length,fl (eI .i64) s0_.2⟩,none])) (fun z11=>JX 2 n (⟨53,[],[(0,.ref i0 0),(2,.fn 80 1 [.ref i0 0]),(3,.val (.int .i64 s0_.1)),(5,.val (.int .i64 z11)),(22,.row n a0.classes.length),(23,.val (.int .i64 (a0.classes.length:Int))),(24,.val (.int .i64 s0_.1))]⟩:Env) (Z4 (((O.upd j0_0 none).upd j0_1 none).upd i0 (some ⟨false,93,2,1,[.row n a0.classes.length,.row (n+2) s0_.2.length]⟩)) n [some ⟨true,99,10,a0.classes.length,fl Zj a0.classes⟩,none,some ⟨true,3,1,s0_.2.length,fl (eI .i64) s0_.2⟩,none]) (n+4)) ?_
    intro s1_ x1_ hs1_
    unfold Jy at hs1_
    try dsimp only
    refine Zf ?_
    obtain ⟨x8,hx8,ax8,bx8,cx8,hs1_⟩:=bE (f:=(eI .i64)) Zok (fun _=>rfl) (by decide) hs1_
    refine Zn [0,2,3,5,22,23,24,40] (Zb Zc [] ?_)
    simp only [push_cast,Nat.reduceAdd,Nat.reduceSub,Nat.reduceMul,Nat.reduceLeDiff,Nat.reduceLT,Nat.reduceEqDiff,↓reduceIte,reduceCtorEq,Int.reduceBEq,Int.reduceBNe,Nat.reduceBEq,Int.reduceLE,Int.reduceLT,Int.reduceEq,Int.reduceNe,Int.reduceNeg,Nat.reduceDiv,Nat.reduceMod,Nat.reducePow,Za,ax8,bx8,cx8,hi0,hk0,hN0,hN]
    refine Zq (t:=(x8 != 0)) rfl (fun c10 => ?_) (fun c10 => ?_)
    ·replace hs1_:=Zz c10 hs1_
     refine Zt ?_
     try simp only [Zh,Ze]
     refine Zg [0,2,3,5,22,23,24] [true,false,true,false] ?_
     simp only [push_cast,seval]
     refine Yl ?_
     obtain ⟨y9,hy9,hs1_⟩:=bC hs1_
     refine Zb Zc [] ?_
     simp only [push_cast,seval,Za,hi0,hk0,hN0,hN]
     refine GCalls.lend (Zdp hy9) rfl ?_ ?_
     ·simp only [push_cast,seval,Za,hi0,hk0,hN0,hN]
     simp only [push_cast,seval,Za,hi0,hk0,hN0,hN]
     have hs1_:=Option.some.inj hs1_;subst hs1_
     refine And.intro rfl (Fit2.of (Yc hU rfl rfl ?_) (by omega))
     simp only [push_cast,seval,Za,hi0,hk0,hN0,hN]
    replace hs1_:=Zy c10 hs1_
    refine X9 ?_
    try simp only [Zh,Ze,↓reduceIte,Nat.reduceEqDiff]
    have hs1_:=Option.some.inj hs1_;subst hs1_
    refine And.intro (fun h=>by cases h) (And.intro rfl (Fit2.of (Yc hU rfl rfl ?_) (by omega)))
    simp only [push_cast,seval,Za,hi0,hk0,hN0,hN]
   try simp only [Zh,Ze,↓reduceIte,Nat.reduceEqDiff]
   refine Zg [0,2,3,5,22,23,24] [true,false,true,false] ?_
   simp only [push_cast,seval]
   obtain ⟨x12,hx12,ax12,bx12,cx12,hs0_⟩:=bE (f:=(eI .i64)) Zok (fun _=>rfl) (by decide) hs0_
   have gu13:Uh (fl (eI .i64) s0_.2) [.val (.int .i64 (IntKind.i64.wrap (s0_.1+1)))] (Int.toNat z11 * 1)=some (fl (eI .i64) (Y5 s0_.2 z11 (IntKind.i64.wrap (s0_.1+1)))):=Zeg (f:=(eI .i64)) (ti:=⟨.bool,1,0,[],false⟩) (x:=(IntKind.i64.wrap (s0_.1+1))) (fun _=>rfl) (Zax hx12)
   refine Zb Zc [] ?_
   simp only [push_cast,Nat.reduceAdd,Nat.reduceSub,Nat.reduceMul,Nat.reduceLeDiff,Nat.reduceLT,Nat.reduceEqDiff,↓reduceIte,reduceCtorEq,Int.reduceBEq,Int.reduceBNe,Nat.reduceBEq,Int.reduceLE,Int.reduceLT,Int.reduceEq,Int.reduceNe,Int.reduceNeg,Nat.reduceDiv,Nat.reduceMod,Nat.reducePow,Za,ax12,bx12,cx12,gu13,hi0,hk0,hN0,hN]
   refine Zg [0,2,22,23,24] [true,false,true,false] ?_
   simp only [push_cast,seval]
   refine Zb Zc [] ?_
   simp only [push_cast,seval,Za,hi0,hk0,hN0,hN]
   have hs0_:=Option.some.inj hs0_;subst hs0_
   refine And.intro rfl (Fit2.of (Yc hU rfl rfl ?_) (by omega))
   simp only [push_cast,seval,Za,hi0,hk0,hN0,hN]
  replace hs0_:=Zy c14 hs0_
  refine X9 ?_
  try simp only [Zh,Ze,↓reduceIte,Nat.reduceEqDiff]
  have hs0_:=Option.some.inj hs0_;subst hs0_
  refine And.intro (fun h=>by cases h) (And.intro rfl (Fit2.of (Yc hU rfl rfl ?_) (by omega)))
  simp only [push_cast,seval,Za,hi0,hk0,hN0,hN]
 try simp only [Zh,Ze,↓reduceIte,Nat.reduceEqDiff]
 have h:=Option.some.inj h;subst h
 refine Jt (k:=2) (i:=i0) (q1:=⟨false,93,2,1,[.row n a0.classes.length,.row (n+1) z15.length]⟩) (L3:=[some ⟨true,99,10,a0.classes.length,fl Zj a0.classes⟩,some ⟨true,3,1,z15.length,fl (eI .i64) z15⟩,none]) (E2:=(⟨53,[],[]⟩:Env)) (n3:=(n+3)) (.inl rfl) hU rfl [] ?_ ?_
 ·refine Fit2.trans (E':=(⟨53,[],[]⟩:Env)) (O':=(Z4 (((O.upd j0_0 none).upd j0_1 none).upd i0 (some ⟨false,93,2,1,[.row n a0.classes.length,.row (n+2) z15.length]⟩)) n [some ⟨true,99,10,a0.classes.length,fl Zj a0.classes⟩,none,some ⟨true,3,1,z15.length,fl (eI .i64) z15⟩])) (n':=(n+3)) (Fit2.of (Yc hU rfl rfl ?_) (by omega)) ?_
  ·simp only [push_cast,seval,Za,hi0,hk0,hN0,hN]
  refine X4 (k:=3) (k':=3) hU [0,2,1] [0,2,0] rfl rfl rfl rfl ⟨rfl,rfl⟩ ?_
  simp only [push_cast,seval,Za,hi0,hk0,hN0,hN]
 simp only [push_cast,seval,Za,Try.results78,hi0,hk0,hN0,hN]
theorem Zoc {a0:Zd} {a1:Zd} {r:Bool} {O:Objs} {n:Nat} (h:V7 a0 a1=some r):GTo Try.prog 145 [.agg (Zk a0),.agg (Zk a1)] O n (.val (.bool r)) O n:=by
 unfold V7 at h
 refine Yi Zc Try.call145 Try.func145 rfl (Nat.le_of_ble_eq_true rfl) (Nat.le_refl _) fun hU => ?_
 have hN0:O n=none:=hU.fresh _ (Nat.le_refl _)
 have hN:∀ k,O (n+k)=none:=fun k=>hU.fresh _ (Nat.le_add_right _ _)
 show W _ _ _ _ ⟨25,[],[(0,.agg (Zk a0)),(1,.agg (Zk a1))]⟩ (Z4 O n []) _
 refine Zn [2,3] (Zb Zc [] ?_)
 simp only [push_cast,seval,Za,hN0,hN]
 refine Zf ?_
 obtain ⟨y2,hy2,h⟩:=bC h
 refine Zb Zc [] ?_
 simp only [push_cast,seval,Za,hN0,hN]
 refine (Zic hy2).then ?_
 simp only [push_cast,seval,Za,hN0,hN]
 refine Zg [2,3,5] [true,true] ?_
 simp only [push_cast,seval]
 refine Zf ?_
 refine Zf ?_
 obtain ⟨y4,hy4,h⟩:=bC h
 refine Zb Zc [] ?_
 simp only [push_cast,seval,Za,hN0,hN]
 refine (Zic hy4).then ?_
 simp only [push_cast,seval,Za,hN0,hN]
 refine Zg [2,3,5,12] [true,true] ?_
 simp only [push_cast,seval]
 refine Zq (t:=(y4 != y2)) rfl (fun c12 => ?_) (fun c12 => ?_)
 ·replace h:=Zz c12 h
  refine Zn [4] (Zb Zc [] ?_)
  simp only [push_cast,seval,Za,hN0,hN]
  refine Zv ?_
  try simp only [Zh,Ze]
  have h:=Option.some.inj h;subst h
  refine Zo (.inr rfl) hU [.val (.bool false)] (by omega) ?_
  simp only [push_cast,seval,Za,Try.results145,hN0,hN]
 replace h:=Zy c12 h
 refine Zt ?_
 try simp only [Zh,Ze]
 refine Zg [2,3,5] [true,true] ?_
 simp only [push_cast,seval]
 refine Zf ?_
 refine Zn [2,3,13,14] (Zb Zc [] ?_)
 simp only [push_cast,seval,Za,hN0,hN]
 refine Zg [2,3,13,14] [true,true] ?_
 simp only [push_cast,seval]
 obtain ⟨z11,hz11,h⟩:=bC h
 refine Za6 (J:=(Qu (fun z11=>JR n (⟨25,[],[(4,.val (.bool false))]⟩:Env) (Z4 O n [none,none]) (n+2)) (fun z11=>JX 0 n (⟨25,[],[]⟩:Env) (Z4 O n [none,none]) (n+2)))) (z:=z11) ?_ fun hw => ?_
 ·refine Xp hz11 (fun s0_=>⟨25,[],[(2,.ref n 0),(3,.ref (n+1) 0),(13,.val (.int .i64 y2)),(14,.val (.int .i64 s0_))]⟩) (fun s0_=>(Z4 O n [some ⟨false,50,9,1,(Zk a0)⟩,some ⟨false,50,9,1,(Zk a1)⟩])) (Qu (fun z11=>JR n (⟨25,[],[(4,.val (.bool false))]⟩:Env) (Z4 O n [none,none]) (n+2)) (fun z11=>JX 0 n (⟨25,[],[]⟩:Env) (Z4 O n [none,none]) (n+2))) ?_
  intro s0_ x0_ hs0_
  unfold Kz at hs0_
  try dsimp only
  refine Zn [2,3,13,14,15] (Zb Zc [] ?_)
  simp only [push_cast,seval,Za,hN0,hN]
  refine Zf ?_
  refine Zq (t:=(decide (s0_ < y2))) rfl (fun c10 => ?_) (fun c10 => ?_)
  ·replace hs0_:=Zz c10 hs0_
   refine Zt ?_
   try simp only [Zh,Ze]
   refine Zg [2,3,13,14] [true,true] ?_
   simp only [push_cast,seval]
   refine Zf ?_
   refine Yl ?_
   refine Zn [2,3,6,13,14] (Zb Zc [] ?_)
   simp only [push_cast,seval,Za,hN0,hN]
   refine Zf ?_
   obtain ⟨y7,hy7,hs0_⟩:=bC hs0_
   obtain ⟨y8,hy8,hs0_⟩:=bC hs0_
   refine Y1 Zc (by kernel_rfl) [] (by kernel_rfl) ?_
   simp only [push_cast,seval,Za,hN0,hN]
   refine PCall.of (Ge hy7) ?_
   simp only [push_cast,seval,Za,hN0,hN]
   refine PCall.of (Ge hy8) ?_
   simp only [push_cast,seval,Za,hN0,hN]
   refine Zg [2,3,13,14,23] [true,true] ?_
   simp only [push_cast,seval]
   refine Zq (t:=(y7 != y8)) rfl (fun c9 => ?_) (fun c9 => ?_)
   ·replace hs0_:=Zz c9 hs0_
    refine Zn [4] (Zb Zc [] ?_)
    simp only [push_cast,seval,Za,hN0,hN]
    refine Zv ?_
    try simp only [Zh,Ze]
    have hs0_:=Option.some.inj hs0_;subst hs0_
    refine And.intro (fun h=>by cases h) (And.intro rfl (Fit2.of (Zp hU rfl rfl ?_) (by omega)))
    simp only [push_cast,seval,Za,hN0,hN]
   replace hs0_:=Zy c9 hs0_
   refine Zt ?_
   try simp only [Zh,Ze]
   refine Zg [2,3,13,14] [true,true] ?_
   simp only [push_cast,seval]
   refine Zb Zc [] ?_
   simp only [push_cast,seval,Za,hN0,hN]
   have hs0_:=Option.some.inj hs0_;subst hs0_
   refine And.intro rfl (Fit2.of (Zp hU rfl rfl ?_) (by omega))
   simp only [push_cast,seval,Za,hN0,hN]
  replace hs0_:=Zy c10 hs0_
  refine X9 ?_
  try simp only [Zh,Ze,↓reduceIte,Nat.reduceEqDiff]
  have hs0_:=Option.some.inj hs0_;subst hs0_
  refine And.intro (fun h=>by cases h) (And.intro rfl (Fit2.of (Zp hU rfl rfl ?_) (by omega)))
  simp only [push_cast,seval,Za,hN0,hN]
 rcases z11 with z11 | z11
 ·dsimp only [Qu] at hw h
  refine Vn hw ?_
  try simp only [Zh,Ze,↓reduceIte,Nat.reduceEqDiff]
  have h:=Option.some.inj h;subst h
  refine Zo (.inr rfl) hU [.val (.bool false)] (by omega) ?_
  simp only [push_cast,seval,Za,Try.results145,hN0,hN]
 dsimp only [Qu] at hw h
 refine Y2 hw ?_
 try simp only [Zh,Ze,↓reduceIte,Nat.reduceEqDiff]
 refine Zg [] [false,false] ?_
 simp only [push_cast,seval]
 refine Zn [4] (Zb Zc [] ?_)
 simp only [push_cast,seval,Za,hN0,hN]
 refine Zv ?_
 try simp only [Zh,Ze]
 have h:=Option.some.inj h;subst h
 refine Zo (.inr rfl) hU [.val (.bool true)] (by omega) ?_
 simp only [push_cast,seval,Za,Try.results145,hN0,hN]
theorem Zgy {Yx:(Zs→Zd→Zd→Option (Bool×Int×Zs))} {Y0:(Zs→Zd→Zd→Int→Option (Bool×Int×Zs))} (Za2:∀ {a0:Zs} {a1:Zd} {a2:Zd} {r:(Bool×Int×Zs)} {O:Objs} {n:Nat} {i0:Nat},i0 < n→O i0=some ⟨false,183,1,1,[.val (.int .i64 a0.left)]⟩→Yx a0 a1 a2=some r→GTo Try.prog 140 [.ref i0 0,.agg (Zk a1),.agg (Zk a2)] O n (.tup [.val (.bool r.1),.val (.int .i64 r.2.1)]) (Z4 (O.upd i0 (some ⟨false,183,1,1,[.val (.int .i64 r.2.2.left)]⟩)) n []) (n+0)) (Gg:∀ {a0:Zs} {a1:Zd} {a2:Zd} {a3:Int} {r:(Bool×Int×Zs)} {O:Objs} {n:Nat} {i0:Nat},i0 < n→O i0=some ⟨false,183,1,1,[.val (.int .i64 a0.left)]⟩→Y0 a0 a1 a2 a3=some r→GTo Try.prog 146 [.ref i0 0,.agg (Zk a1),.agg (Zk a2),.val (.int .i64 a3)] O n (.tup [.val (.bool r.1),.val (.int .i64 r.2.1)]) (Z4 (O.upd i0 (some ⟨false,183,1,1,[.val (.int .i64 r.2.2.left)]⟩)) n []) (n+0)) {a0:Zs} {a1:Zd} {a2:Zd} {r:(Bool×Int×Zs)} {O:Objs} {n:Nat} {i0:Nat} (hi0:i0 < n) (ho0:O i0=some ⟨false,183,1,1,[.val (.int .i64 a0.left)]⟩) (h:Xn Yx Y0 a0 a1 a2=some r):GTo Try.prog 140 [.ref i0 0,.agg (Zk a1),.agg (Zk a2)] O n (.tup [.val (.bool r.1),.val (.int .i64 r.2.1)]) (Z4 (O.upd i0 (some ⟨false,183,1,1,[.val (.int .i64 r.2.2.left)]⟩)) n []) (n+0):=by
 unfold Xn at h
 refine Yi Zc Try.call140 Try.func140 rfl (Nat.le_of_ble_eq_true rfl) (by omega) fun hU => ?_
 rw [show Z4 O n []=Z4 (O.upd i0 (some ⟨false,183,1,1,[.val (.int .i64 a0.left)]⟩)) n [] from by rw [Zh2 (show O i0=_ from by exact ho0)]]
 have hk0:∀ k,i0 < n+k:=fun k=>by omega
 have hN0:∀ o,Objs.upd O i0 o n=none:=fun o=>J8 hU hi0 _ (Nat.le_refl _)
 have hN:∀ o k,Objs.upd O i0 o (n+k)=none:=fun o k=>J8 hU hi0 _ (Nat.le_add_right _ _)
 show W _ _ _ _ ⟨62,[],[(0,.ref i0 0),(1,.agg (Zk a1)),(2,.agg (Zk a2))]⟩ (Z4 (O.upd i0 (some ⟨false,183,1,1,[.val (.int .i64 a0.left)]⟩)) n []) _
 refine Zn [0,4,5] (Zb Zc [] ?_)
 simp only [push_cast,seval,Za,hi0,hk0,hN0,hN]
 refine Zf ?_
 refine Zn [0,4,5,15] (Zb Zc [] ?_)
 simp only [push_cast,seval,Za,hi0,hk0,hN0,hN]
 refine Zq (t:=(a0.left == 0)) rfl (fun c21 => ?_) (fun c21 => ?_)
 ·replace h:=Zz c21 h
  refine Zn [6,7] (Zb Zc [] ?_)
  simp only [push_cast,seval,Za,hi0,hk0,hN0,hN]
  refine Zv ?_
  try simp only [Zh,Ze]
  have h:=Option.some.inj h;subst h
  refine Jt (k:=0) (i:=i0) (q1:=⟨false,183,1,1,[.val (.int .i64 a0.left)]⟩) (L3:=[none]) (E2:=(⟨62,[],[(6,.val (.bool false)),(7,.val (.int .i64 3))]⟩:Env)) (n3:=(n+1)) (.inr rfl) hU rfl [.val (.bool false),.val (.int .i64 3)] ?_ ?_
  ·refine Fit2.trans (E':=(⟨62,[],[(6,.val (.bool false)),(7,.val (.int .i64 3))]⟩:Env)) (O':=(Z4 (O.upd i0 (some ⟨false,183,1,1,[.val (.int .i64 a0.left)]⟩)) n [none,none])) (n':=(n+2)) (Fit2.of (Yc hU rfl rfl ?_) (by omega)) ?_
   ·simp only [push_cast,seval,Za,hi0,hk0,hN0,hN]
   refine X4 (k:=2) (k':=1) hU [0,0] [0] rfl rfl rfl rfl ⟨rfl,rfl⟩ ?_
   simp only [push_cast,seval,Za,hi0,hk0,hN0,hN]
  simp only [push_cast,seval,Za,Try.results140,hi0,hk0,hN0,hN]
 replace h:=Zy c21 h
 refine Zt ?_
 try simp only [Zh,Ze]
 refine Zg [0,4,5] [true,true] ?_
 simp only [push_cast,seval]
 refine Zf ?_
 refine Zb Zc [] ?_
 simp only [push_cast,seval,Za,hi0,hk0,hN0,hN]
 refine Zg [0,4,5] [true,true] ?_
 simp only [push_cast,seval]
 refine Zf ?_
 obtain ⟨z4,hz4,h⟩:=bC h
 refine Yt (E':=⟨62,[],[(0,.ref i0 0),(4,.ref n 0),(5,.ref (n+1) 0),(33,.val (.bool z4))]⟩) (O':=(Z4 (O.upd i0 (some ⟨false,183,1,1,[.val (.int .i64 (IntKind.i64.wrap (a0.left - 1)))]⟩)) n [some ⟨false,50,9,1,(Zk a1)⟩,some ⟨false,50,9,1,(Zk a2)⟩])) (n0:=(n+2)) ?_ ?_
 ·obtain ⟨y8,hy8,hz4⟩:=bC hz4
  obtain ⟨y9,hy9,hz4⟩:=bC hz4
  rcases Bool.eq_false_or_eq_true (y8 != y9) with c11 | c11
  ·replace hz4:=Zz c11 hz4
   refine Y1 Zc (by kernel_rfl) (Z1u []) (by kernel_rfl) ?_
   simp only [push_cast,seval,Za,c11,hi0,hk0,hN0,hN]
   refine PCall.of (Je hy8) ?_
   simp only [push_cast,seval,Za,c11,hi0,hk0,hN0,hN]
   refine PCall.of (Je hy9) ?_
   simp only [push_cast,seval,Za,c11,hi0,hk0,hN0,hN]
   have hz4:=Option.some.inj hz4;subst hz4
   refine And.intro rfl (Fit2.of (Yc hU rfl rfl ?_) (by omega))
   simp only [push_cast,seval,Za,c11,hi0,hk0,hN0,hN]
  replace hz4:=Zy c11 hz4
  obtain ⟨y10,hy10,hz4⟩:=bC hz4
  refine Y1 Zc (by kernel_rfl) (Zx6 []) (by kernel_rfl) ?_
  simp only [push_cast,seval,Za,c11,hi0,hk0,hN0,hN]
  refine PCall.of (Je hy8) ?_
  simp only [push_cast,seval,Za,c11,hi0,hk0,hN0,hN]
  refine PCall.of (Je hy9) ?_
  simp only [push_cast,seval,Za,c11,hi0,hk0,hN0,hN]
  refine PCall.of (Zoc hy10) ?_
  simp only [push_cast,seval,Za,c11,hi0,hk0,hN0,hN]
  have hz4:=Option.some.inj hz4;subst hz4
  refine And.intro rfl (Fit2.of (Yc hU rfl rfl ?_) (by omega))
  simp only [push_cast,seval,Za,c11,hi0,hk0,hN0,hN]
 refine Zq (t:=z4) rfl (fun c20 => ?_) (fun c20 => ?_)
 ·replace h:=Zz c20 h
  refine Zn [6,7] (Zb Zc [] ?_)
  simp only [push_cast,seval,Za,hi0,hk0,hN0,hN]
  refine Zv ?_
  try simp only [Zh,Ze]
  have h:=Option.some.inj h;subst h
  refine Jt (k:=0) (i:=i0) (q1:=⟨false,183,1,1,[.val (.int .i64 (IntKind.i64.wrap (a0.left - 1)))]⟩) (L3:=[none]) (E2:=(⟨62,[],[(6,.val (.bool false)),(7,.val (.int .i64 0))]⟩:Env)) (n3:=(n+1)) (.inr rfl) hU rfl [.val (.bool false),.val (.int .i64 0)] ?_ ?_
  ·refine Fit2.trans (E':=(⟨62,[],[(6,.val (.bool false)),(7,.val (.int .i64 0))]⟩:Env)) (O':=(Z4 (O.upd i0 (some ⟨false,183,1,1,[.val (.int .i64 (IntKind.i64.wrap (a0.left - 1)))]⟩)) n [none,none])) (n':=(n+2)) (Fit2.of (Yc hU rfl rfl ?_) (by omega)) ?_
   ·simp only [push_cast,seval,Za,hi0,hk0,hN0,hN]
   refine X4 (k:=2) (k':=1) hU [0,0] [0] rfl rfl rfl rfl ⟨rfl,rfl⟩ ?_
   simp only [push_cast,seval,Za,hi0,hk0,hN0,hN]
  simp only [push_cast,seval,Za,Try.results140,hi0,hk0,hN0,hN]
 replace h:=Zy c20 h
 refine Zt ?_
 try simp only [Zh,Ze]
 refine Zg [0,4,5] [true,true] ?_
 simp only [push_cast,seval]
 refine Zf ?_
 obtain ⟨y13,hy13,h⟩:=bC h
 refine Zb Zc [] ?_
 simp only [push_cast,seval,Za,hi0,hk0,hN0,hN]
 refine (Zgc hy13).then ?_
 simp only [push_cast,seval,Za,hi0,hk0,hN0,hN]
 refine Zg [0,4,5,8,9] [true,true] ?_
 simp only [push_cast,seval]
 refine Zf ?_
 refine Zn [0,4,5,8,9,40] (Zb Zc [] ?_)
 simp only [push_cast,seval,Za,hi0,hk0,hN0,hN]
 refine Zq (t:=(y13.2 != 0)) rfl (fun c19 => ?_) (fun c19 => ?_)
 ·replace h:=Zz c19 h
  refine Zn [6,7] (Zb Zc [] ?_)
  simp only [push_cast,seval,Za,hi0,hk0,hN0,hN]
  refine Zv ?_
  try simp only [Zh,Ze]
  have h:=Option.some.inj h;subst h
  refine Jt (k:=0) (i:=i0) (q1:=⟨false,183,1,1,[.val (.int .i64 (IntKind.i64.wrap (a0.left - 1)))]⟩) (L3:=[none]) (E2:=(⟨62,[],[(6,.val (.bool false)),(7,.val (.int .i64 y13.2))]⟩:Env)) (n3:=(n+1)) (.inr rfl) hU rfl [.val (.bool false),.val (.int .i64 y13.2)] ?_ ?_
  ·refine Fit2.trans (E':=(⟨62,[],[(6,.val (.bool false)),(7,.val (.int .i64 y13.2))]⟩:Env)) (O':=(Z4 (O.upd i0 (some ⟨false,183,1,1,[.val (.int .i64 (IntKind.i64.wrap (a0.left - 1)))]⟩)) n [none,none])) (n':=(n+2)) (Fit2.of (Yc hU rfl rfl ?_) (by omega)) ?_
   ·simp only [push_cast,seval,Za,hi0,hk0,hN0,hN]
   refine X4 (k:=2) (k':=1) hU [0,0] [0] rfl rfl rfl rfl ⟨rfl,rfl⟩ ?_
   simp only [push_cast,seval,Za,hi0,hk0,hN0,hN]
  simp only [push_cast,seval,Za,Try.results140,hi0,hk0,hN0,hN]
 replace h:=Zy c19 h
 refine Zt ?_
 try simp only [Zh,Ze]
 refine Zg [0,4,5,8] [true,true] ?_
 simp only [push_cast,seval]
 refine Zf ?_
 obtain ⟨y15,hy15,h⟩:=bC h
 refine Zb Zc [] ?_
 simp only [push_cast,seval,Za,hi0,hk0,hN0,hN]
 refine (Zgc hy15).then ?_
 simp only [push_cast,seval,Za,hi0,hk0,hN0,hN]
 refine Zg [0,4,5,8,9,10] [true,true] ?_
 simp only [push_cast,seval]
 refine Zf ?_
 refine Zn [0,4,5,8,9,53] (Zb Zc [none,none,none] ?_)
 simp only [push_cast,seval,Za,hi0,hk0,hN0,hN]
 repeat (with_reducible refine And.intro (by first | (intro h0;simp only [h0,and_self];done) | (intro h0;simp only [h0,Bool.not_true,true_and,and_true,and_self,imp_self,implies_true,bne_iff_ne,ne_eq];done) | (intros;simp_all;done) | exact True.intro) ?_)
 refine Zq (t:=(cond (y15.2 != 0) true (y13.1 != y15.1))) rfl (fun c18 => ?_) (fun c18 => ?_)
 ·replace h:=Zz c18 h
  refine Zn [6,7] (Zb Zc [] ?_)
  simp only [push_cast,seval,Za,hi0,hk0,hN0,hN]
  refine Zv ?_
  try simp only [Zh,Ze]
  have h:=Option.some.inj h;subst h
  refine Jt (k:=0) (i:=i0) (q1:=⟨false,183,1,1,[.val (.int .i64 (IntKind.i64.wrap (a0.left - 1)))]⟩) (L3:=[none]) (E2:=(⟨62,[],[(6,.val (.bool false)),(7,.val (.int .i64 y15.2))]⟩:Env)) (n3:=(n+1)) (.inr rfl) hU rfl [.val (.bool false),.val (.int .i64 y15.2)] ?_ ?_
  ·refine Fit2.trans (E':=(⟨62,[],[(6,.val (.bool false)),(7,.val (.int .i64 y15.2))]⟩:Env)) (O':=(Z4 (O.upd i0 (some ⟨false,183,1,1,[.val (.int .i64 (IntKind.i64.wrap (a0.left - 1)))]⟩)) n [none,none])) (n':=(n+2)) (Fit2.of (Yc hU rfl rfl ?_) (by omega)) ?_
   ·simp only [push_cast,seval,Za,hi0,hk0,hN0,hN]
   refine X4 (k:=2) (k':=1) hU [0,0] [0] rfl rfl rfl rfl ⟨rfl,rfl⟩ ?_
   simp only [push_cast,seval,Za,hi0,hk0,hN0,hN]
  simp only [push_cast,seval,Za,Try.results140,hi0,hk0,hN0,hN]
 replace h:=Zy c18 h
 refine Zt ?_
 try simp only [Zh,Ze]
 refine Zg [0,4,5,8] [true,true] ?_
 simp only [push_cast,seval]
 refine Zf ?_
 obtain ⟨y17,hy17,h⟩:=bC h
 refine Zb Zc [] ?_
 simp only [push_cast,seval,Za,hi0,hk0,hN0,hN]
 refine (Gg (i0:=i0) (by omega) (by simp only [push_cast,seval,Za,Qk,hi0,hk0,hN0,hN] <;> rfl) hy17).then ?_
 simp only [push_cast,seval,Za,hi0,hk0,hN0,hN]
 refine Zg [6,7] [false,false] ?_
 simp only [push_cast,seval]
 refine Zv ?_
 try simp only [Zh,Ze]
 have h:=Option.some.inj h;subst h
 refine Jt (k:=0) (i:=i0) (q1:=⟨false,183,1,1,[.val (.int .i64 y17.2.2.left)]⟩) (L3:=[none]) (E2:=(⟨62,[],[(6,.val (.bool y17.1)),(7,.val (.int .i64 y17.2.1))]⟩:Env)) (n3:=(n+1)) (.inr rfl) hU rfl [.val (.bool y17.1),.val (.int .i64 y17.2.1)] ?_ ?_
 ·refine Fit2.trans (E':=(⟨62,[],[(6,.val (.bool y17.1)),(7,.val (.int .i64 y17.2.1))]⟩:Env)) (O':=(Z4 (O.upd i0 (some ⟨false,183,1,1,[.val (.int .i64 y17.2.2.left)]⟩)) n [none,none])) (n':=(n+2)) (Fit2.of (Yc hU rfl rfl ?_) (by omega)) ?_
  ·simp only [push_cast,seval,Za,hi0,hk0,hN0,hN]
  refine X4 (k:=2) (k':=1) hU [0,0] [0] rfl rfl rfl rfl ⟨rfl,rfl⟩ ?_
  simp only [push_cast,seval,Za,hi0,hk0,hN0,hN]
 simp only [push_cast,seval,Za,Try.results140,hi0,hk0,hN0,hN]
theorem Zd9 {Yx:(Zs→Zd→Zd→Option (Bool×Int×Zs))} {Y0:(Zs→Zd→Zd→Int→Option (Bool×Int×Zs))} (Za2:∀ {a0:Zs} {a1:Zd} {a2:Zd} {r:(Bool×Int×Zs)} {O:Objs} {n:Nat} {i0:Nat},i0 < n→O i0=some ⟨false,183,1,1,[.val (.int .i64 a0.left)]⟩→Yx a0 a1 a2=some r→GTo Try.prog 140 [.ref i0 0,.agg (Zk a1),.agg (Zk a2)] O n (.tup [.val (.bool r.1),.val (.int .i64 r.2.1)]) (Z4 (O.upd i0 (some ⟨false,183,1,1,[.val (.int .i64 r.2.2.left)]⟩)) n []) (n+0)) (Gg:∀ {a0:Zs} {a1:Zd} {a2:Zd} {a3:Int} {r:(Bool×Int×Zs)} {O:Objs} {n:Nat} {i0:Nat},i0 < n→O i0=some ⟨false,183,1,1,[.val (.int .i64 a0.left)]⟩→Y0 a0 a1 a2 a3=some r→GTo Try.prog 146 [.ref i0 0,.agg (Zk a1),.agg (Zk a2),.val (.int .i64 a3)] O n (.tup [.val (.bool r.1),.val (.int .i64 r.2.1)]) (Z4 (O.upd i0 (some ⟨false,183,1,1,[.val (.int .i64 r.2.2.left)]⟩)) n []) (n+0)) {a0:Zs} {a1:Zd} {a2:Zd} {a3:Int} {r:(Bool×Int×Zs)} {O:Objs} {n:Nat} {i0:Nat} (hi0:i0 < n) (ho0:O i0=some ⟨false,183,1,1,[.val (.int .i64 a0.left)]⟩) (h:Yz Yx Y0 a0 a1 a2 a3=some r):GTo Try.prog 146 [.ref i0 0,.agg (Zk a1),.agg (Zk a2),.val (.int .i64 a3)] O n (.tup [.val (.bool r.1),.val (.int .i64 r.2.1)]) (Z4 (O.upd i0 (some ⟨false,183,1,1,[.val (.int .i64 r.2.2.left)]⟩)) n []) (n+0):=by
 unfold Yz at h
 refine Yi Zc Try.call146 Try.func146 rfl (Nat.le_of_ble_eq_true rfl) (by omega) fun hU => ?_
 rw [show Z4 O n []=Z4 (O.upd i0 (some ⟨false,183,1,1,[.val (.int .i64 a0.left)]⟩)) n [] from by rw [Zh2 (show O i0=_ from by exact ho0)]]
 have hk0:∀ k,i0 < n+k:=fun k=>by omega
 have hN0:∀ o,Objs.upd O i0 o n=none:=fun o=>J8 hU hi0 _ (Nat.le_refl _)
 have hN:∀ o k,Objs.upd O i0 o (n+k)=none:=fun o k=>J8 hU hi0 _ (Nat.le_add_right _ _)
 show W _ _ _ _ ⟨53,[],[(0,.ref i0 0),(1,.agg (Zk a1)),(2,.agg (Zk a2)),(3,.val (.int .i64 a3))]⟩ (Z4 (O.upd i0 (some ⟨false,183,1,1,[.val (.int .i64 a0.left)]⟩)) n []) _
 refine Zn [0,3,5,6] (Zb Zc [] ?_)
 simp only [push_cast,seval,Za,hi0,hk0,hN0,hN]
 refine Zf ?_
 refine Zn [0,5,6,16,17] (Zb Zc [] ?_)
 simp only [push_cast,seval,Za,hi0,hk0,hN0,hN]
 refine Zg [0,5,6,16,17] [true,true] ?_
 simp only [push_cast,seval]
 obtain ⟨z11,hz11,h⟩:=bC h
 refine Za6 (J:=(Qu (fun z11=>JR n (⟨53,[],[(8,.val (.bool false)),(9,.val (.int .i64 z11.1))]⟩:Env) (Z4 (O.upd i0 (some ⟨false,183,1,1,[.val (.int .i64 z11.2)]⟩)) n [none,none]) (n+2)) (fun z11=>JX 0 n (⟨53,[],[]⟩:Env) (Z4 (O.upd i0 (some ⟨false,183,1,1,[.val (.int .i64 z11)]⟩)) n [none,none]) (n+2)))) (z:=z11) ?_ fun hw => ?_
 ·refine Xp hz11 (fun s0_=>⟨53,[],[(0,.ref i0 0),(5,.ref n 0),(6,.ref (n+1) 0),(16,.val (.int .i64 a3)),(17,.val (.int .i64 s0_.1))]⟩) (fun s0_=>(Z4 (O.upd i0 (some ⟨false,183,1,1,[.val (.int .i64 s0_.2)]⟩)) n [some ⟨false,50,9,1,(Zk a1)⟩,some ⟨false,50,9,1,(Zk a2)⟩])) (Qu (fun z11=>JR n (⟨53,[],[(8,.val (.bool false)),(9,.val (.int .i64 z11.1))]⟩:Env) (Z4 (O.upd i0 (some ⟨false,183,1,1,[.val (.int .i64 z11.2)]⟩)) n [none,none]) (n+2)) (fun z11=>JX 0 n (⟨53,[],[]⟩:Env) (Z4 (O.upd i0 (some ⟨false,183,1,1,[.val (.int .i64 z11)]⟩)) n [none,none]) (n+2))) ?_
  intro s0_ x0_ hs0_
  unfold Yy at hs0_
  try dsimp only
  refine Zn [0,5,6,16,17,18] (Zb Zc [] ?_)
  simp only [push_cast,seval,Za,hi0,hk0,hN0,hN]
  refine Zf ?_
  refine Zq (t:=(decide (s0_.1 < a3))) rfl (fun c10 => ?_) (fun c10 => ?_)
  ·replace hs0_:=Zz c10 hs0_
   refine Zt ?_
   try simp only [Zh,Ze]
   refine Zg [0,5,6,16,17] [true,true] ?_
   simp only [push_cast,seval]
   refine Zf ?_
   refine Yl ?_
   refine Zn [0,5,6,10,16,17] (Zb Zc [] ?_)
   simp only [push_cast,seval,Za,hi0,hk0,hN0,hN]
   refine Zf ?_
   obtain ⟨y2,hy2,hs0_⟩:=bC hs0_
   refine Zb Zc [] ?_
   simp only [push_cast,seval,Za,hi0,hk0,hN0,hN]
   refine (Ua hy2).then ?_
   simp only [push_cast,seval,Za,hi0,hk0,hN0,hN]
   refine Zg [0,5,6,10,11,12,16,17] [true,true,true] ?_
   simp only [push_cast,seval]
   refine Zf ?_
   refine Zn [0,5,6,10,11,12,16,17,27] (Zb Zc [] ?_)
   simp only [push_cast,seval,Za,hi0,hk0,hN0,hN]
   refine Zq (t:=(y2.2 != 0)) rfl (fun c9 => ?_) (fun c9 => ?_)
   ·replace hs0_:=Zz c9 hs0_
    refine Zn [8,9] (Zb Zc [] ?_)
    simp only [push_cast,seval,Za,hi0,hk0,hN0,hN]
    refine Zv ?_
    try simp only [Zh,Ze]
    have hs0_:=Option.some.inj hs0_;subst hs0_
    refine And.intro (fun h=>by cases h) (And.intro rfl (Fit2.of (Yc hU rfl rfl ?_) (by omega)))
    simp only [push_cast,seval,Za,hi0,hk0,hN0,hN]
   replace hs0_:=Zy c9 hs0_
   refine Zt ?_
   try simp only [Zh,Ze]
   refine Zg [0,5,6,10,11,16,17] [true,true,true] ?_
   simp only [push_cast,seval]
   refine Zf ?_
   obtain ⟨y4,hy4,hs0_⟩:=bC hs0_
   refine Zb Zc [] ?_
   simp only [push_cast,seval,Za,hi0,hk0,hN0,hN]
   refine (Ua hy4).then ?_
   simp only [push_cast,seval,Za,hi0,hk0,hN0,hN]
   refine Zg [0,5,6,11,12,13,16,17] [true,true,true,true] ?_
   simp only [push_cast,seval]
   refine Zf ?_
   refine Zn [0,5,6,11,12,13,16,17,36] (Zb Zc [] ?_)
   simp only [push_cast,seval,Za,hi0,hk0,hN0,hN]
   refine Zq (t:=(y4.2 != 0)) rfl (fun c8 => ?_) (fun c8 => ?_)
   ·replace hs0_:=Zz c8 hs0_
    refine Zn [8,9] (Zb Zc [] ?_)
    simp only [push_cast,seval,Za,hi0,hk0,hN0,hN]
    refine Zv ?_
    try simp only [Zh,Ze]
    have hs0_:=Option.some.inj hs0_;subst hs0_
    refine And.intro (fun h=>by cases h) (And.intro rfl (Fit2.of (Yc hU rfl rfl ?_) (by omega)))
    simp only [push_cast,seval,Za,hi0,hk0,hN0,hN]
   replace hs0_:=Zy c8 hs0_
   refine Zt ?_
   try simp only [Zh,Ze]
   refine Zg [0,5,6,11,13,16,17] [true,true,true,true] ?_
   simp only [push_cast,seval]
   refine Zf ?_
   obtain ⟨y6,hy6,hs0_⟩:=bC hs0_
   refine Zb Zc [] ?_
   simp only [push_cast,seval,Za,hi0,hk0,hN0,hN]
   refine (Za2 (i0:=i0) (by omega) (by simp only [push_cast,seval,Za,Qk,hi0,hk0,hN0,hN] <;> rfl) hy6).then ?_
   simp only [push_cast,seval,Za,hi0,hk0,hN0,hN]
   refine Zg [0,5,6,14,15,16,17] [true,true,false,false] ?_
   simp only [push_cast,seval]
   refine Zn [0,5,6,15,16,17,50] (Zb Zc [none,none] ?_)
   simp only [push_cast,seval,Za,hi0,hk0,hN0,hN]
   repeat (with_reducible refine And.intro (by first | (intro h0;simp only [h0];done) | (intro h0;simp only [h0,true_and,and_true,imp_self,implies_true,ne_eq];done) | (intros;simp_all;done) | exact True.intro) ?_)
   refine Zq (t:=(cond (!y6.1) true (y6.2.1 != 0))) rfl (fun c7 => ?_) (fun c7 => ?_)
   ·replace hs0_:=Zz c7 hs0_
    refine Zn [8,9] (Zb Zc [] ?_)
    simp only [push_cast,seval,Za,hi0,hk0,hN0,hN]
    refine Zv ?_
    try simp only [Zh,Ze]
    have hs0_:=Option.some.inj hs0_;subst hs0_
    refine And.intro (fun h=>by cases h) (And.intro rfl (Fit2.of (Yc hU rfl rfl ?_) (by omega)))
    simp only [push_cast,seval,Za,hi0,hk0,hN0,hN]
   replace hs0_:=Zy c7 hs0_
   refine Zt ?_
   try simp only [Zh,Ze]
   refine Zg [0,5,6,16,17] [true,true,false,false] ?_
   simp only [push_cast,seval]
   refine Zb Zc [] ?_
   simp only [push_cast,seval,Za,hi0,hk0,hN0,hN]
   have hs0_:=Option.some.inj hs0_;subst hs0_
   refine And.intro rfl (Fit2.of (Yc hU rfl rfl ?_) (by omega))
   simp only [push_cast,seval,Za,hi0,hk0,hN0,hN]
  replace hs0_:=Zy c10 hs0_
  refine X9 ?_
  try simp only [Zh,Ze,↓reduceIte,Nat.reduceEqDiff]
  have hs0_:=Option.some.inj hs0_;subst hs0_
  refine And.intro (fun h=>by cases h) (And.intro rfl (Fit2.of (Yc hU rfl rfl ?_) (by omega)))
  simp only [push_cast,seval,Za,hi0,hk0,hN0,hN]
 rcases z11 with z11 | z11
 ·dsimp only [Qu] at hw h
  refine Vn hw ?_
  try simp only [Zh,Ze,↓reduceIte,Nat.reduceEqDiff]
  have h:=Option.some.inj h;subst h
  refine Jt (k:=0) (i:=i0) (q1:=⟨false,183,1,1,[.val (.int .i64 z11.2)]⟩) (L3:=[none]) (E2:=(⟨53,[],[(8,.val (.bool false)),(9,.val (.int .i64 z11.1))]⟩:Env)) (n3:=(n+1)) (.inr rfl) hU rfl [.val (.bool false),.val (.int .i64 z11.1)] ?_ ?_
  ·refine Fit2.trans (E':=(⟨53,[],[(8,.val (.bool false)),(9,.val (.int .i64 z11.1))]⟩:Env)) (O':=(Z4 (O.upd i0 (some ⟨false,183,1,1,[.val (.int .i64 z11.2)]⟩)) n [none,none])) (n':=(n+2)) (Fit2.of (Yc hU rfl rfl ?_) (by omega)) ?_
   ·simp only [push_cast,seval,Za,hi0,hk0,hN0,hN]
   refine X4 (k:=2) (k':=1) hU [0,0] [0] rfl rfl rfl rfl ⟨rfl,rfl⟩ ?_
   simp only [push_cast,seval,Za,hi0,hk0,hN0,hN]
  simp only [push_cast,seval,Za,Try.results146,hi0,hk0,hN0,hN]
 dsimp only [Qu] at hw h
 refine Y2 hw ?_
 try simp only [Zh,Ze,↓reduceIte,Nat.reduceEqDiff]
 refine Zg [] [false,false] ?_
 simp only [push_cast,seval]
 refine Zn [8,9] (Zb Zc [] ?_)
 simp only [push_cast,seval,Za,hi0,hk0,hN0,hN]
 refine Zv ?_
 try simp only [Zh,Ze]
 have h:=Option.some.inj h;subst h
 refine Jt (k:=0) (i:=i0) (q1:=⟨false,183,1,1,[.val (.int .i64 z11)]⟩) (L3:=[none]) (E2:=(⟨53,[],[(8,.val (.bool true)),(9,.val (.int .i64 0))]⟩:Env)) (n3:=(n+1)) (.inr rfl) hU rfl [.val (.bool true),.val (.int .i64 0)] ?_ ?_
 ·refine Fit2.trans (E':=(⟨53,[],[(8,.val (.bool true)),(9,.val (.int .i64 0))]⟩:Env)) (O':=(Z4 (O.upd i0 (some ⟨false,183,1,1,[.val (.int .i64 z11)]⟩)) n [none,none])) (n':=(n+2)) (Fit2.of (Yc hU rfl rfl ?_) (by omega)) ?_
  ·simp only [push_cast,seval,Za,hi0,hk0,hN0,hN]
  refine X4 (k:=2) (k':=1) hU [0,0] [0] rfl rfl rfl rfl ⟨rfl,rfl⟩ ?_
  simp only [push_cast,seval,Za,hi0,hk0,hN0,hN]
 simp only [push_cast,seval,Za,Try.results146,hi0,hk0,hN0,hN]
theorem Zfq:∀ k,(∀ {a0:Zs} {a1:Zd} {a2:Zd} {r:(Bool×Int×Zs)} {O:Objs} {n:Nat} {i0:Nat},i0 < n→O i0=some ⟨false,183,1,1,[.val (.int .i64 a0.left)]⟩→(Z5 k).1 a0 a1 a2=some r→GTo Try.prog 140 [.ref i0 0,.agg (Zk a1),.agg (Zk a2)] O n (.tup [.val (.bool r.1),.val (.int .i64 r.2.1)]) (Z4 (O.upd i0 (some ⟨false,183,1,1,[.val (.int .i64 r.2.2.left)]⟩)) n []) (n+0))∧(∀ {a0:Zs} {a1:Zd} {a2:Zd} {a3:Int} {r:(Bool×Int×Zs)} {O:Objs} {n:Nat} {i0:Nat},i0 < n→O i0=some ⟨false,183,1,1,[.val (.int .i64 a0.left)]⟩→(Z5 k).2 a0 a1 a2 a3=some r→GTo Try.prog 146 [.ref i0 0,.agg (Zk a1),.agg (Zk a2),.val (.int .i64 a3)] O n (.tup [.val (.bool r.1),.val (.int .i64 r.2.1)]) (Z4 (O.upd i0 (some ⟨false,183,1,1,[.val (.int .i64 r.2.2.left)]⟩)) n []) (n+0)):=fun k=>by
 induction k with
 | zero=>exact ⟨@fun a0 a1 a2 r O n i0 hi0 ho0 h=>(nomatch (show (none:Option _)=some _ from h)),@fun a0 a1 a2 a3 r O n i0 hi0 ho0 h=>(nomatch (show (none:Option _)=some _ from h))⟩
 | succ k ih=>exact ⟨@fun a0 a1 a2 r O n i0 hi0 ho0 h=>Zgy (ih.1) (ih.2) hi0 ho0 h,@fun a0 a1 a2 a3 r O n i0 hi0 ho0 h=>Zd9 (ih.1) (ih.2) hi0 ho0 h⟩
theorem Zid {a0:Zs} {a1:Zd} {a2:Zd} {r:(Bool×Int×Zs)} {O:Objs} {n:Nat} {i0:Nat} (hi0:i0 < n) (ho0:O i0=some ⟨false,183,1,1,[.val (.int .i64 a0.left)]⟩) (h:Gl a0 a1 a2=some r):GTo Try.prog 140 [.ref i0 0,.agg (Zk a1),.agg (Zk a2)] O n (.tup [.val (.bool r.1),.val (.int .i64 r.2.1)]) (Z4 (O.upd i0 (some ⟨false,183,1,1,[.val (.int .i64 r.2.2.left)]⟩)) n []) (n+0):=by
 obtain ⟨k,hk⟩:=Ze9 h
 exact (Zfq k).1 hi0 ho0 hk
theorem Zsc {a0:Zd} {a1:Zd} {r:(Bool×Int)} {O:Objs} {n:Nat} (h:Gz a0 a1=some r):GTo Try.prog 121 [.agg (Zk a0),.agg (Zk a1)] O n (.tup [.val (.bool r.1),.val (.int .i64 r.2)]) O n:=by
 unfold Gz at h
 refine Yi Zc Try.call121 Try.func121 rfl (Nat.le_of_ble_eq_true rfl) (Nat.le_refl _) fun hU => ?_
 have hN0:O n=none:=hU.fresh _ (Nat.le_refl _)
 have hN:∀ k,O (n+k)=none:=fun k=>hU.fresh _ (Nat.le_add_right _ _)
 show W _ _ _ _ ⟨13,[],[(0,.agg (Zk a0)),(1,.agg (Zk a1))]⟩ (Z4 O n []) _
 refine Zn [2,3] (Zb Zc [] ?_)
 simp only [push_cast,seval,Za,hN0,hN]
 refine Zf ?_
 refine Zb Zc [] ?_
 simp only [push_cast,seval,Za,hN0,hN]
 refine Zg [2,3,6] [true,true,true] ?_
 simp only [push_cast,seval]
 refine Zf ?_
 obtain ⟨y2,hy2,h⟩:=bC h
 refine Zb Zc [] ?_
 simp only [push_cast,seval,Za,hN0,hN]
 refine (Zid (i0:=(n+2)) (by omega) (by simp only [push_cast,seval,Za,Qk,hN0,hN] <;> rfl) hy2).then ?_
 simp only [push_cast,seval,Za,hN0,hN]
 refine Zg [4,5] [false,false,false] ?_
 simp only [push_cast,seval]
 refine Zv ?_
 try simp only [Zh,Ze]
 have h:=Option.some.inj h;subst h
 refine Zo (.inr rfl) hU [.val (.bool y2.1),.val (.int .i64 y2.2.1)] (by omega) ?_
 simp only [push_cast,seval,Za,Try.results121,hN0,hN]
theorem Zi9 {a0:Zu} {a1:Zu} {r:(Bool×Int)} {O:Objs} {n:Nat} (h:K1 a0 a1=some r):GTo Try.prog 81 [.agg (Yj a0),.agg (Yj a1)] O n (.tup [.val (.bool r.1),.val (.int .i64 r.2)]) O n:=by
 unfold K1 at h
 refine Yi Zc Try.call81 Try.func81 rfl (Nat.le_of_ble_eq_true rfl) (Nat.le_refl _) fun hU => ?_
 have hN0:O n=none:=hU.fresh _ (Nat.le_refl _)
 have hN:∀ k,O (n+k)=none:=fun k=>hU.fresh _ (Nat.le_add_right _ _)
 show W _ _ _ _ ⟨18,[],[(0,.agg (Yj a0)),(1,.agg (Yj a1))]⟩ (Z4 O n []) _
 refine Zn [2,3] (Zb Zc [] ?_)
 simp only [push_cast,seval,Za,hN0,hN]
 refine Zf ?_
 refine Zn [2,3,10] (Zb Zc [] ?_)
 simp only [push_cast,seval,Za,hN0,hN]
 refine Zq (t:=(a0.hash != a1.hash)) rfl (fun c3 => ?_) (fun c3 => ?_)
 ·replace h:=Zz c3 h
  refine Zn [4,5] (Zb Zc [] ?_)
  simp only [push_cast,seval,Za,hN0,hN]
  refine Zv ?_
  try simp only [Zh,Ze]
  have h:=Option.some.inj h;subst h
  refine Zo (.inr rfl) hU [.val (.bool false),.val (.int .i64 0)] (by omega) ?_
  simp only [push_cast,seval,Za,Try.results81,hN0,hN]
 replace h:=Zy c3 h
 refine Zt ?_
 try simp only [Zh,Ze]
 refine Zg [2,3] [true,true] ?_
 simp only [push_cast,seval]
 refine Zf ?_
 obtain ⟨y2,hy2,h⟩:=bC h
 refine Zb Zc [] ?_
 simp only [push_cast,seval,Za,hN0,hN]
 refine (Zsc hy2).then ?_
 simp only [push_cast,seval,Za,hN0,hN]
 refine Zg [4,5] [false,false] ?_
 simp only [push_cast,seval]
 refine Zv ?_
 try simp only [Zh,Ze]
 have h:=Option.some.inj h;subst h
 refine Zo (.inr rfl) hU [.val (.bool y2.1),.val (.int .i64 y2.2)] (by omega) ?_
 simp only [push_cast,seval,Za,Try.results81,hN0,hN]
theorem Zi8 {a0:Z3} {a1:Zu} {r:(Int×Int×Z3)} {O:Objs} {n:Nat} {i0 j0_0 j0_1:Nat} (hi0:i0 < n) (Zr2:j0_0 < n) (Zr3:j0_1 < n) (Zji:i0≠j0_0) (Ze6:i0≠j0_1) (Ze5:j0_0≠j0_1) (ho0:O i0=some ⟨false,93,2,1,[.row j0_0 a0.classes.length,.row j0_1 a0.places.length]⟩) (Ztp:O j0_0=some ⟨true,99,10,a0.classes.length,fl Zj a0.classes⟩) (Ztq:O j0_1=some ⟨true,3,1,a0.places.length,fl (eI .i64) a0.places⟩) (h:K0 a0 a1=some r):GTo Try.prog 42 [.ref i0 0,.agg (Yj a1)] O n (.tup [.val (.int .i64 r.1),.val (.int .i64 r.2.1)]) (Z4 (((O.upd j0_0 none).upd j0_1 none).upd i0 (some ⟨false,93,2,1,[.row n r.2.2.classes.length,.row (n+1) r.2.2.places.length]⟩)) n [some ⟨true,99,10,r.2.2.classes.length,fl Zj r.2.2.classes⟩,some ⟨true,3,1,r.2.2.places.length,fl (eI .i64) r.2.2.places⟩]) (n+2):=by
 unfold K0 at h
 refine Yi Zc Try.call42 Try.func42 rfl (Nat.le_of_ble_eq_true rfl) (by omega) fun hU => ?_
 have e0:=Zhk (ba:=n) (E:=⟨94,[],Zf4 0 [.ref i0 0,.agg [.val (.int .u64 a1.hash),(gP Zx a1.r.a),.val (.int .i64 a1.r.kind),.val (.int .i64 a1.r.segment),.val (.int .i64 a1.r.at_),.val (.int .i64 a1.r.words),.val (.int .i64 a1.r.ptrs),.val (.int .i64 a1.r.count),.val (.int .i64 a1.r.code),.val (.int .i64 a1.r.index)]]⟩) (O:=(Z4 O n [])) (n:=n) (i:=i0) (j:=j0_0) (k:=0) (len:=a0.classes.length) (q:=⟨false,93,2,1,[.row j0_0 a0.classes.length,.row j0_1 a0.places.length]⟩) (qj:=⟨true,99,10,a0.classes.length,fl Zj a0.classes⟩) (by rw [Xo _ hi0];first | exact ho0 | exact Ye _ _ _) rfl (by rw [Xo _ Zr2];exact Ztp) Zji (by omega)
 simp only [Js _ _ Zr2,Js _ _ hi0,Qh,Xl,Zfo,Zrn Zji,List.set_cons_zero,List.set_cons_succ,List.cons_append,List.nil_append,List.length_cons,List.length_nil,Nat.zero_add,Nat.reduceAdd,Nat.add_assoc] at e0
 refine U7 e0 ?_
 have e1:=Zhk (ba:=n) (E:=⟨94,[],Zf4 0 [.ref i0 0,.agg [.val (.int .u64 a1.hash),(gP Zx a1.r.a),.val (.int .i64 a1.r.kind),.val (.int .i64 a1.r.segment),.val (.int .i64 a1.r.at_),.val (.int .i64 a1.r.words),.val (.int .i64 a1.r.ptrs),.val (.int .i64 a1.r.count),.val (.int .i64 a1.r.code),.val (.int .i64 a1.r.index)]]⟩) (O:=(Z4 ((O.upd j0_0 none).upd i0 (some ⟨false,93,2,1,[.row n a0.classes.length,.row j0_1 a0.places.length]⟩)) n [some ⟨true,99,10,a0.classes.length,fl Zj a0.classes⟩])) (n:=(n+1)) (i:=i0) (j:=j0_1) (k:=1) (len:=a0.places.length) (q:=⟨false,93,2,1,[.row n a0.classes.length,.row j0_1 a0.places.length]⟩) (qj:=⟨true,3,1,a0.places.length,fl (eI .i64) a0.places⟩) (by rw [Xo _ hi0];first | exact ho0 | exact Ye _ _ _) rfl (by rw [Xo _ Zr3,Ya _ _ (Ne.symm Ze6),Ya _ _ (Ne.symm Ze5)];exact Ztq) Ze6 (by omega)
 simp only [Js _ _ Zr3,Js _ _ hi0,Qh,Xl,Zfo,Zrn Ze6,List.set_cons_zero,List.set_cons_succ,List.cons_append,List.nil_append,List.length_cons,List.length_nil,Nat.zero_add,Nat.reduceAdd,Nat.add_assoc] at e1
 refine U7 e1 ?_
 have hU:=(Und.drop (Und.drop hU j0_0) j0_1)
 have hk0:∀ k,i0 < n+k:=fun k=>by omega
 have hN0:∀ o,Objs.upd ((O.upd j0_0 none).upd j0_1 none) i0 o n=none:=fun o=>J8 hU hi0 _ (Nat.le_refl _)
 have hN:∀ o k,Objs.upd ((O.upd j0_0 none).upd j0_1 none) i0 o (n+k)=none:=fun o k=>J8 hU hi0 _ (Nat.le_add_right _ _)
 show W _ _ _ _ ⟨94,[],[(0,.ref i0 0),(1,.agg (Yj a1))]⟩ (Z4 (((O.upd j0_0 none).upd j0_1 none).upd i0 (some ⟨false,93,2,1,[.row n a0.classes.length,.row (n+1) a0.places.length]⟩)) n [some ⟨true,99,10,a0.classes.length,fl Zj a0.classes⟩,some ⟨true,3,1,a0.places.length,fl (eI .i64) a0.places⟩]) _
 refine Zn [0,3] (Zb Zc [] ?_)
 simp only [push_cast,seval,Za,hi0,hk0,hN0,hN]
 obtain ⟨z1,hz1,h⟩:=bC h
 refine Yt (E':=⟨94,[],[(0,.ref i0 0),(3,.ref (n+2) 0)]⟩) (O':=(Z4 (((O.upd j0_0 none).upd j0_1 none).upd i0 (some ⟨false,93,2,1,[.row (n+5) z1.1.length,.row (n+6) z1.2.length]⟩)) n [none,none,some ⟨false,99,10,1,(Yj a1)⟩,none,none,some ⟨true,99,10,z1.1.length,fl Zj z1.1⟩,some ⟨true,3,1,z1.2.length,fl (eI .i64) z1.2⟩])) (n0:=(n+7)) ?_ ?_
 ·refine Zn [0,3,22] (Y1 Zc (by kernel_rfl) [] (by kernel_rfl) ?_)
  simp only [push_cast,seval,Za,hi0,hk0,hN0,hN]
  refine Zq (t:=(decide ((a0.places.length:Int)≤(IntKind.i64.wrap (2 * (a0.classes.length:Int)))))) rfl (fun c3 => ?_) (fun c3 => ?_)
  ·replace hz1:=Zz c3 hz1
   obtain ⟨y2,hy2,hz1⟩:=bC hz1
   refine Zb Zc [] ?_
   simp only [push_cast,seval,Za,hi0,hk0,hN0,hN]
   refine (Zjp (i0:=i0) (j0_0:=n) (j0_1:=(n+1)) (by omega) (by omega) (by omega) (by omega) (by omega) (by omega) (by simp only [push_cast,seval,Za,Qk,hi0,hk0,hN0,hN] <;> rfl) (by simp only [push_cast,seval,Za,Qk,hi0,hk0,hN0,hN] <;> rfl) (by simp only [push_cast,seval,Za,Qk,hi0,hk0,hN0,hN] <;> rfl) hy2).then ?_
   simp only [push_cast,seval,Za,hi0,hk0,hN0,hN]
   have hz1:=Option.some.inj hz1;subst hz1
   refine And.intro rfl ?_
   refine Fit2.trans (E':=(⟨94,[],[(0,.ref i0 0),(3,.ref (n+2) 0)]⟩:Env)) (O':=(Z4 (((O.upd j0_0 none).upd j0_1 none).upd i0 (some ⟨false,93,2,1,[.row (n+3) y2.classes.length,.row (n+4) y2.places.length]⟩)) n [none,none,some ⟨false,99,10,1,(Yj a1)⟩,some ⟨true,99,10,y2.classes.length,fl Zj y2.classes⟩,some ⟨true,3,1,y2.places.length,fl (eI .i64) y2.places⟩])) (n':=(n+5)) (Fit2.of (Yc hU rfl rfl ?_) (by omega)) ?_
   ·simp only [push_cast,seval,Za,hi0,hk0,hN0,hN]
   refine X4 (k:=5) (k':=7) hU [4,4,2,5,6] [0,0,2,0,0,3,4] rfl rfl rfl rfl ⟨rfl,rfl⟩ ?_
   simp only [push_cast,seval,Za,hi0,hk0,hN0,hN]
  replace hz1:=Zy c3 hz1
  refine Zt ?_
  try simp only [Zh,Ze]
  have hz1:=Option.some.inj hz1;subst hz1
  refine And.intro rfl ?_
  refine Fit2.trans (E':=(⟨94,[],[(0,.ref i0 0),(3,.ref (n+2) 0)]⟩:Env)) (O':=(Z4 (((O.upd j0_0 none).upd j0_1 none).upd i0 (some ⟨false,93,2,1,[.row n a0.classes.length,.row (n+1) a0.places.length]⟩)) n [some ⟨true,99,10,a0.classes.length,fl Zj a0.classes⟩,some ⟨true,3,1,a0.places.length,fl (eI .i64) a0.places⟩,some ⟨false,99,10,1,(Yj a1)⟩])) (n':=(n+3)) (Fit2.of (Yc hU rfl rfl ?_) (by omega)) ?_
  ·simp only [push_cast,seval,Za,hi0,hk0,hN0,hN]
  refine X4 (k:=3) (k':=7) hU [5,6,2] [0,0,2,0,0,0,1] rfl rfl rfl rfl ⟨rfl,rfl⟩ ?_
  simp only [push_cast,seval,Za,hi0,hk0,hN0,hN]
 refine Zf ?_
 obtain ⟨y5,hy5,h⟩:=bC h
 refine Zb Zc [] ?_
 simp only [push_cast,seval,Za,hi0,hk0,hN0,hN]
 refine GCalls.lend (Zci hy5) rfl ?_ ?_
 ·simp only [push_cast,seval,Za,hi0,hk0,hN0,hN]
 simp only [push_cast,seval,Za,hi0,hk0,hN0,hN]
 refine Zg [0,3,6,7] [false,false,true,false,false,true,true] ?_
 simp only [push_cast,seval]
 refine Zf ?_
 refine Zg [0,3,6,7] [false,false,true,false,false,true,true] ?_
 simp only [push_cast,seval]
 obtain ⟨z18,hz18,h⟩:=bC h
 refine Za6 (J:=(Qu (fun z18=>JR n (⟨94,[],[(4,.val (.int .i64 z18.1)),(5,.val (.int .i64 z18.2))]⟩:Env) (Z4 (((O.upd j0_0 none).upd j0_1 none).upd i0 (some ⟨false,93,2,1,[.row (n+5) z1.1.length,.row (n+6) z1.2.length]⟩)) n [none,none,none,none,none,some ⟨true,99,10,z1.1.length,fl Zj z1.1⟩,some ⟨true,3,1,z1.2.length,fl (eI .i64) z1.2⟩]) (n+7)) (fun z18=>JX 0 n (⟨94,[],[(0,.ref i0 0),(3,.ref (n+2) 0),(6,.val (.int .i64 z18))]⟩:Env) (Z4 (((O.upd j0_0 none).upd j0_1 none).upd i0 (some ⟨false,93,2,1,[.row (n+5) z1.1.length,.row (n+6) z1.2.length]⟩)) n [none,none,some ⟨false,99,10,1,(Yj a1)⟩,none,none,some ⟨true,99,10,z1.1.length,fl Zj z1.1⟩,some ⟨true,3,1,z1.2.length,fl (eI .i64) z1.2⟩]) (n+7)))) (z:=z18) ?_ fun hw => ?_
 ·refine Xp hz18 (fun s0_=>⟨94,[],[(0,.ref i0 0),(3,.ref (n+2) 0),(6,.val (.int .i64 s0_)),(7,.fn 80 1 [.ref i0 0])]⟩) (fun s0_=>(Z4 (((O.upd j0_0 none).upd j0_1 none).upd i0 (some ⟨false,93,2,1,[.row (n+5) z1.1.length,.row (n+6) z1.2.length]⟩)) n [none,none,some ⟨false,99,10,1,(Yj a1)⟩,none,none,some ⟨true,99,10,z1.1.length,fl Zj z1.1⟩,some ⟨true,3,1,z1.2.length,fl (eI .i64) z1.2⟩])) (Qu (fun z18=>JR n (⟨94,[],[(4,.val (.int .i64 z18.1)),(5,.val (.int .i64 z18.2))]⟩:Env) (Z4 (((O.upd j0_0 none).upd j0_1 none).upd i0 (some ⟨false,93,2,1,[.row (n+5) z1.1.length,.row (n+6) z1.2.length]⟩)) n [none,none,none,none,none,some ⟨true,99,10,z1.1.length,fl Zj z1.1⟩,some ⟨true,3,1,z1.2.length,fl (eI .i64) z1.2⟩]) (n+7)) (fun z18=>JX 0 n (⟨94,[],[(0,.ref i0 0),(3,.ref (n+2) 0),(6,.val (.int .i64 z18))]⟩:Env) (Z4 (((O.upd j0_0 none).upd j0_1 none).upd i0 (some ⟨false,93,2,1,[.row (n+5) z1.1.length,.row (n+6) z1.2.length]⟩)) n [none,none,some ⟨false,99,10,1,(Yj a1)⟩,none,none,some ⟨true,99,10,z1.1.length,fl Zj z1.1⟩,some ⟨true,3,1,z1.2.length,fl (eI .i64) z1.2⟩]) (n+7))) ?_
  intro s0_ x0_ hs0_
  unfold Yv at hs0_
  try dsimp only
  refine Zf ?_
  obtain ⟨x7,hx7,ax7,bx7,cx7,hs0_⟩:=bE (f:=(eI .i64)) Zok (fun _=>rfl) (by decide) hs0_
  refine Zn [0,3,6,7,38] (Zb Zc [] ?_)
  simp only [push_cast,Nat.reduceAdd,Nat.reduceSub,Nat.reduceMul,Nat.reduceLeDiff,Nat.reduceLT,Nat.reduceEqDiff,↓reduceIte,reduceCtorEq,Int.reduceBEq,Int.reduceBNe,Nat.reduceBEq,Int.reduceLE,Int.reduceLT,Int.reduceEq,Int.reduceNe,Int.reduceNeg,Nat.reduceDiv,Nat.reduceMod,Nat.reducePow,Za,ax7,bx7,cx7,hi0,hk0,hN0,hN]
  refine Zq (t:=(x7 != 0)) rfl (fun c17 => ?_) (fun c17 => ?_)
  ·replace hs0_:=Zz c17 hs0_
   refine Zt ?_
   try simp only [Zh,Ze]
   refine Zg [0,3,6,7] [false,false,true,false,false,true,true] ?_
   simp only [push_cast,seval]
   refine Yl ?_
   obtain ⟨x9,hx9,ax9,bx9,cx9,hs0_⟩:=bE (f:=(eI .i64)) Zok (fun _=>rfl) (by decide) hs0_
   refine Zn [0,3,6,7,8] (Zb Zc [] ?_)
   simp only [push_cast,Nat.reduceAdd,Nat.reduceSub,Nat.reduceMul,Nat.reduceLeDiff,Nat.reduceLT,Nat.reduceEqDiff,↓reduceIte,reduceCtorEq,Int.reduceBEq,Int.reduceBNe,Nat.reduceBEq,Int.reduceLE,Int.reduceLT,Int.reduceEq,Int.reduceNe,Int.reduceNeg,Nat.reduceDiv,Nat.reduceMod,Nat.reducePow,Za,ax9,bx9,cx9,hi0,hk0,hN0,hN]
   refine Zf ?_
   obtain ⟨x12,hx12,ax12,bx12,cx12,hs0_⟩:=bE (f:=Zj) Zps (fun _=>rfl) (by decide) hs0_
   obtain ⟨y13,hy13,hs0_⟩:=bC hs0_
   refine Y1 Zc (by kernel_rfl) [] (by kernel_rfl) ?_
   simp only [push_cast,Nat.reduceAdd,Nat.reduceSub,Nat.reduceMul,Nat.reduceLeDiff,Nat.reduceLT,Nat.reduceEqDiff,↓reduceIte,reduceCtorEq,Int.reduceBEq,Int.reduceBNe,Nat.reduceBEq,Int.reduceLE,Int.reduceLT,Int.reduceEq,Int.reduceNe,Int.reduceNeg,Nat.reduceDiv,Nat.reduceMod,Nat.reducePow,Za,ax12,bx12,cx12,hi0,hk0,hN0,hN]
   refine PCall.of (Zi9 hy13) ?_
   simp only [push_cast,Nat.reduceAdd,Nat.reduceSub,Nat.reduceMul,Nat.reduceLeDiff,Nat.reduceLT,Nat.reduceEqDiff,↓reduceIte,reduceCtorEq,Int.reduceBEq,Int.reduceBNe,Nat.reduceBEq,Int.reduceLE,Int.reduceLT,Int.reduceEq,Int.reduceNe,Int.reduceNeg,Nat.reduceDiv,Nat.reduceMod,Nat.reducePow,Za,ax12,bx12,cx12,hi0,hk0,hN0,hN]
   refine Zg [0,3,6,7,8,9,10] [false,false,true,false,false,true,true] ?_
   simp only [push_cast,seval]
   refine Zf ?_
   refine Zn [0,3,6,7,8,9,10,60] (Zb Zc [] ?_)
   simp only [push_cast,seval,Za,hi0,hk0,hN0,hN]
   refine Zq (t:=(y13.2 != 0)) rfl (fun c16 => ?_) (fun c16 => ?_)
   ·replace hs0_:=Zz c16 hs0_
    refine Zn [4,5] (Zb Zc [] ?_)
    simp only [push_cast,seval,Za,hi0,hk0,hN0,hN]
    refine Zv ?_
    try simp only [Zh,Ze]
    have hs0_:=Option.some.inj hs0_;subst hs0_
    refine And.intro (fun h=>by cases h) (And.intro rfl (Fit2.of (Yc hU rfl rfl ?_) (by omega)))
    simp only [push_cast,seval,Za,hi0,hk0,hN0,hN]
   replace hs0_:=Zy c16 hs0_
   refine Zt ?_
   try simp only [Zh,Ze]
   refine Zg [0,3,6,7,8,9] [false,false,true,false,false,true,true] ?_
   simp only [push_cast,seval]
   refine Zf ?_
   refine Zn [0,3,6,7,8,62] (Zb Zc [] ?_)
   simp only [push_cast,seval,Za,hi0,hk0,hN0,hN]
   refine Zq (t:=y13.1) rfl (fun c15 => ?_) (fun c15 => ?_)
   ·replace hs0_:=Zz c15 hs0_
    refine Zn [4,5] (Zb Zc [] ?_)
    simp only [push_cast,seval,Za,hi0,hk0,hN0,hN]
    refine Zv ?_
    try simp only [Zh,Ze]
    have hs0_:=Option.some.inj hs0_;subst hs0_
    refine And.intro (fun h=>by cases h) (And.intro rfl (Fit2.of (Yc hU rfl rfl ?_) (by omega)))
    simp only [push_cast,seval,Za,hi0,hk0,hN0,hN]
   replace hs0_:=Zy c15 hs0_
   refine Zt ?_
   try simp only [Zh,Ze]
   refine Zg [0,3,6,7] [false,false,true,false,false,true,true] ?_
   simp only [push_cast,seval]
   obtain ⟨y14,hy14,hs0_⟩:=bC hs0_
   refine Zb Zc [] ?_
   simp only [push_cast,seval,Za,hi0,hk0,hN0,hN]
   refine GCalls.lend (Zdp hy14) rfl ?_ ?_
   ·simp only [push_cast,seval,Za,hi0,hk0,hN0,hN]
   simp only [push_cast,seval,Za,hi0,hk0,hN0,hN]
   have hs0_:=Option.some.inj hs0_;subst hs0_
   refine And.intro rfl (Fit2.of (Yc hU rfl rfl ?_) (by omega))
   simp only [push_cast,seval,Za,hi0,hk0,hN0,hN]
  replace hs0_:=Zy c17 hs0_
  refine X9 ?_
  try simp only [Zh,Ze,↓reduceIte,Nat.reduceEqDiff]
  have hs0_:=Option.some.inj hs0_;subst hs0_
  refine And.intro (fun h=>by cases h) (And.intro rfl (Fit2.of (Yc hU rfl rfl ?_) (by omega)))
  simp only [push_cast,seval,Za,hi0,hk0,hN0,hN]
 rcases z18 with z18 | z18
 ·dsimp only [Qu] at hw h
  refine Vn hw ?_
  try simp only [Zh,Ze,↓reduceIte,Nat.reduceEqDiff]
  have h:=Option.some.inj h;subst h
  refine Jt (k:=2) (i:=i0) (q1:=⟨false,93,2,1,[.row n z1.1.length,.row (n+1) z1.2.length]⟩) (L3:=[some ⟨true,99,10,z1.1.length,fl Zj z1.1⟩,some ⟨true,3,1,z1.2.length,fl (eI .i64) z1.2⟩,none]) (E2:=(⟨94,[],[(4,.val (.int .i64 z18.1)),(5,.val (.int .i64 z18.2))]⟩:Env)) (n3:=(n+3)) (.inr rfl) hU rfl [.val (.int .i64 z18.1),.val (.int .i64 z18.2)] ?_ ?_
  ·refine Fit2.trans (E':=(⟨94,[],[(4,.val (.int .i64 z18.1)),(5,.val (.int .i64 z18.2))]⟩:Env)) (O':=(Z4 (((O.upd j0_0 none).upd j0_1 none).upd i0 (some ⟨false,93,2,1,[.row (n+5) z1.1.length,.row (n+6) z1.2.length]⟩)) n [none,none,none,none,none,some ⟨true,99,10,z1.1.length,fl Zj z1.1⟩,some ⟨true,3,1,z1.2.length,fl (eI .i64) z1.2⟩])) (n':=(n+7)) (Fit2.of (Yc hU rfl rfl ?_) (by omega)) ?_
   ·simp only [push_cast,seval,Za,hi0,hk0,hN0,hN]
   refine X4 (k:=7) (k':=3) hU [2,2,2,2,2,0,1] [5,6,0] rfl rfl rfl rfl ⟨rfl,rfl⟩ ?_
   simp only [push_cast,seval,Za,hi0,hk0,hN0,hN]
  simp only [push_cast,seval,Za,Try.results42,hi0,hk0,hN0,hN]
 dsimp only [Qu] at hw h
 refine Y2 hw ?_
 try simp only [Zh,Ze,↓reduceIte,Nat.reduceEqDiff]
 refine Zg [0,3,6] [false,false,true,false,false,true,true] ?_
 simp only [push_cast,seval]
 refine Zf ?_
 obtain ⟨l20,pl20,ql20,el20,h⟩:=bA (k:=1) rfl h
 refine Zd2 Zc (by kernel_rfl) [.plain,.plain,.low,.low,.low,.plain,.pass,.pass,.plain,.plain,.bar] (fun i=>i < (n+7)∧¬ i=n+5) [0,1,2,3,4,5,6,7,8,9,10] [.plain,.plain,.low,.low,.low,.plain,.pass,.pass,.plain,.plain,.bar] [] (by kernel_rfl) rfl ?_
 simp only [push_cast,seval,Za,pl20,ql20,el20,hi0,hk0,hN0,hN]
 repeat (with_reducible refine And.intro (by first | omega | exact Kg rfl | exact Ja | exact Ur rfl | exact Gf rfl rfl | exact K9 rfl | exact Kq rfl) ?_)
 refine U3 ⟨94,[],[(0,.ref i0 0),(6,.val (.int .i64 z18))]⟩ (Z4 (((O.upd j0_0 none).upd j0_1 none).upd i0 (some ⟨false,93,2,1,[.row (n+5) l20.length,.row (n+6) z1.2.length]⟩)) n [none,none,none,none,none,some ⟨true,99,10,l20.length,fl Zj l20⟩,some ⟨true,3,1,z1.2.length,fl (eI .i64) z1.2⟩,none]) (Yc hU rfl rfl ?_) ?_
 ·simp only [push_cast,seval,Za,pl20,ql20,el20,hi0,hk0,hN0,hN]
 refine Zf ?_
 obtain ⟨x23,hx23,ax23,bx23,cx23,h⟩:=bE (f:=(eI .i64)) Zok (fun _=>rfl) (by decide) h
 have gu24:Uh (fl (eI .i64) z1.2) [.val (.int .i64 (l20.length:Int))] (Int.toNat z18 * 1)=some (fl (eI .i64) (Y5 z1.2 z18 (l20.length:Int))):=Zeg (f:=(eI .i64)) (ti:=⟨.bool,1,0,[],false⟩) (x:=(l20.length:Int)) (fun _=>rfl) (Zax hx23)
 refine Zkc Zc (by kernel_rfl) [false,false,false,false,false,false,false,false,false,false,false,true] [] (by kernel_rfl) ?_
 simp only [push_cast,Nat.reduceAdd,Nat.reduceSub,Nat.reduceMul,Nat.reduceLeDiff,Nat.reduceLT,Nat.reduceEqDiff,↓reduceIte,reduceCtorEq,Int.reduceBEq,Int.reduceBNe,Nat.reduceBEq,Int.reduceLE,Int.reduceLT,Int.reduceEq,Int.reduceNe,Int.reduceNeg,Nat.reduceDiv,Nat.reduceMod,Nat.reducePow,Za,ax23,bx23,cx23,gu24,hi0,hk0,hN0,hN]
 refine Zg [0] [false,false,false,false,false,true,true,false] ?_
 simp only [push_cast,seval]
 refine Zn [4,5] (Zb Zc [] ?_)
 simp only [push_cast,seval,Za,hi0,hk0,hN0,hN]
 refine Zv ?_
 try simp only [Zh,Ze]
 have h:=Option.some.inj h;subst h
 refine Jt (k:=2) (i:=i0) (q1:=⟨false,93,2,1,[.row n l20.length,.row (n+1) (Y5 z1.2 z18 (l20.length:Int)).length]⟩) (L3:=[some ⟨true,99,10,l20.length,fl Zj l20⟩,some ⟨true,3,1,(Y5 z1.2 z18 (l20.length:Int)).length,fl (eI .i64) (Y5 z1.2 z18 (l20.length:Int))⟩,none]) (E2:=(⟨94,[],[(4,.val (.int .i64 (IntKind.i64.wrap ((l20.length:Int) - 1)))),(5,.val (.int .i64 0))]⟩:Env)) (n3:=(n+3)) (.inr rfl) hU rfl [.val (.int .i64 (IntKind.i64.wrap ((l20.length:Int) - 1))),.val (.int .i64 0)] ?_ ?_
 ·refine Fit2.trans (E':=(⟨94,[],[(4,.val (.int .i64 (IntKind.i64.wrap ((l20.length:Int) - 1)))),(5,.val (.int .i64 0))]⟩:Env)) (O':=(Z4 (((O.upd j0_0 none).upd j0_1 none).upd i0 (some ⟨false,93,2,1,[.row (n+5) l20.length,.row (n+6) (Y5 z1.2 z18 (l20.length:Int)).length]⟩)) n [none,none,none,none,none,some ⟨true,99,10,l20.length,fl Zj l20⟩,some ⟨true,3,1,(Y5 z1.2 z18 (l20.length:Int)).length,fl (eI .i64) (Y5 z1.2 z18 (l20.length:Int))⟩,none])) (n':=(n+8)) (Fit2.of (Yc hU rfl rfl ?_) (by omega)) ?_
  ·simp only [push_cast,seval,Za,hi0,hk0,hN0,hN]
  refine X4 (k:=8) (k':=3) hU [2,2,2,2,2,0,1,2] [5,6,0] rfl rfl rfl rfl ⟨rfl,rfl⟩ ?_
  simp only [push_cast,seval,Za,hi0,hk0,hN0,hN]
 simp only [push_cast,seval,Za,Try.results42,hi0,hk0,hN0,hN]
theorem Zaa {a0:Z3} {a1:Zd} {r:((List Int)×Int×Z3)} {O:Objs} {n:Nat} {i0 j0_0 j0_1:Nat} (hi0:i0 < n) (Zr2:j0_0 < n) (Zr3:j0_1 < n) (Zji:i0≠j0_0) (Ze6:i0≠j0_1) (Ze5:j0_0≠j0_1) (ho0:O i0=some ⟨false,93,2,1,[.row j0_0 a0.classes.length,.row j0_1 a0.places.length]⟩) (Ztp:O j0_0=some ⟨true,99,10,a0.classes.length,fl Zj a0.classes⟩) (Ztq:O j0_1=some ⟨true,3,1,a0.places.length,fl (eI .i64) a0.places⟩) (h:Q2 a0 a1=some r):GTo Try.prog 16 [.ref i0 0,.agg (Zk a1)] O n (.tup [.sl r.1.length (fl (eI .i64) r.1),.val (.int .i64 r.2.1)]) (Z4 (((O.upd j0_0 none).upd j0_1 none).upd i0 (some ⟨false,93,2,1,[.row n r.2.2.classes.length,.row (n+1) r.2.2.places.length]⟩)) n [some ⟨true,99,10,r.2.2.classes.length,fl Zj r.2.2.classes⟩,some ⟨true,3,1,r.2.2.places.length,fl (eI .i64) r.2.2.places⟩]) (n+2):=by
 unfold Q2 at h
 refine Yi Zc Try.call16 Try.func16 rfl (Nat.le_of_ble_eq_true rfl) (by omega) fun hU => ?_
 have e0:=Zhk (ba:=n) (E:=⟨73,[],Zf4 0 [.ref i0 0,.agg [(gP Zx a1.a),.val (.int .i64 a1.kind),.val (.int .i64 a1.segment),.val (.int .i64 a1.at_),.val (.int .i64 a1.words),.val (.int .i64 a1.ptrs),.val (.int .i64 a1.count),.val (.int .i64 a1.code),.val (.int .i64 a1.index)]]⟩) (O:=(Z4 O n [])) (n:=n) (i:=i0) (j:=j0_0) (k:=0) (len:=a0.classes.length) (q:=⟨false,93,2,1,[.row j0_0 a0.classes.length,.row j0_1 a0.places.length]⟩) (qj:=⟨true,99,10,a0.classes.length,fl Zj a0.classes⟩) (by rw [Xo _ hi0];first | exact ho0 | exact Ye _ _ _) rfl (by rw [Xo _ Zr2];exact Ztp) Zji (by omega)
 simp only [Js _ _ Zr2,Js _ _ hi0,Qh,Xl,Zfo,Zrn Zji,List.set_cons_zero,List.set_cons_succ,List.cons_append,List.nil_append,List.length_cons,List.length_nil,Nat.zero_add,Nat.reduceAdd,Nat.add_assoc] at e0
 refine U7 e0 ?_
 have e1:=Zhk (ba:=n) (E:=⟨73,[],Zf4 0 [.ref i0 0,.agg [(gP Zx a1.a),.val (.int .i64 a1.kind),.val (.int .i64 a1.segment),.val (.int .i64 a1.at_),.val (.int .i64 a1.words),.val (.int .i64 a1.ptrs),.val (.int .i64 a1.count),.val (.int .i64 a1.code),.val (.int .i64 a1.index)]]⟩) (O:=(Z4 ((O.upd j0_0 none).upd i0 (some ⟨false,93,2,1,[.row n a0.classes.length,.row j0_1 a0.places.length]⟩)) n [some ⟨true,99,10,a0.classes.length,fl Zj a0.classes⟩])) (n:=(n+1)) (i:=i0) (j:=j0_1) (k:=1) (len:=a0.places.length) (q:=⟨false,93,2,1,[.row n a0.classes.length,.row j0_1 a0.places.length]⟩) (qj:=⟨true,3,1,a0.places.length,fl (eI .i64) a0.places⟩) (by rw [Xo _ hi0];first | exact ho0 | exact Ye _ _ _) rfl (by rw [Xo _ Zr3,Ya _ _ (Ne.symm Ze6),Ya _ _ (Ne.symm Ze5)];exact Ztq) Ze6 (by omega)
 simp only [Js _ _ Zr3,Js _ _ hi0,Qh,Xl,Zfo,Zrn Ze6,List.set_cons_zero,List.set_cons_succ,List.cons_append,List.nil_append,List.length_cons,List.length_nil,Nat.zero_add,Nat.reduceAdd,Nat.add_assoc] at e1
 refine U7 e1 ?_
 have hU:=(Und.drop (Und.drop hU j0_0) j0_1)
 have hk0:∀ k,i0 < n+k:=fun k=>by omega
 have hN0:∀ o,Objs.upd ((O.upd j0_0 none).upd j0_1 none) i0 o n=none:=fun o=>J8 hU hi0 _ (Nat.le_refl _)
 have hN:∀ o k,Objs.upd ((O.upd j0_0 none).upd j0_1 none) i0 o (n+k)=none:=fun o k=>J8 hU hi0 _ (Nat.le_add_right _ _)
 show W _ _ _ _ ⟨73,[],[(0,.ref i0 0),(1,.agg (Zk a1))]⟩ (Z4 (((O.upd j0_0 none).upd j0_1 none).upd i0 (some ⟨false,93,2,1,[.row n a0.classes.length,.row (n+1) a0.places.length]⟩)) n [some ⟨true,99,10,a0.classes.length,fl Zj a0.classes⟩,some ⟨true,3,1,a0.places.length,fl (eI .i64) a0.places⟩]) _
 refine Zn [0,3] (Zb Zc [] ?_)
 simp only [push_cast,seval,Za,hi0,hk0,hN0,hN]
 refine Zf ?_
 refine Zf ?_
 refine Zb Zc (Z62 []) ?_
 simp only [push_cast,seval,Za,hi0,hk0,hN0,hN]
 refine Zg [0,3,22] [true,true,true] ?_
 simp only [push_cast,seval]
 refine Zq (t:=false) rfl (fun hc=>by cases hc) (fun _ => ?_)
 refine Zt ?_
 try simp only [Zh,Ze]
 refine Zg [0,3] [true,true,true] ?_
 simp only [push_cast,seval]
 refine Zn [0,3,6] (Zb Zc [] ?_)
 simp only [push_cast,seval,Za,hi0,hk0,hN0,hN]
 refine Zf ?_
 refine Zf ?_
 obtain ⟨y2,hy2,h⟩:=bC h
 refine Zb Zc [] ?_
 simp only [push_cast,seval,Za,hi0,hk0,hN0,hN]
 refine (Gd hy2).then ?_
 simp only [push_cast,seval,Za,hi0,hk0,hN0,hN]
 refine Zg [0,3,6,24,25] [true,true,true] ?_
 simp only [push_cast,seval]
 refine Zg [0,3,6,24,25] [true,true,true] ?_
 simp only [push_cast,seval]
 refine U7 (E':=(⟨73,[],[(0,.ref i0 0),(3,.ref (n+2) 0),(6,.row (n+3) ([]:List Zu).length),(24,.val (.int .i64 y2)),(25,.val (.int .i64 0))]⟩:Env)) (O':=(Z4 (((O.upd j0_0 none).upd j0_1 none).upd i0 (some ⟨false,93,2,1,[.row n a0.classes.length,.row (n+1) a0.places.length]⟩)) n [some ⟨true,99,10,a0.classes.length,fl Zj a0.classes⟩,some ⟨true,3,1,a0.places.length,fl (eI .i64) a0.places⟩,some ⟨false,50,9,1,(Zk a1)⟩,some ⟨true,99,10,([]:List Zu).length,fl Zj ([]:List Zu)⟩,none])) (n':=(n+5)) ?_ ?_
 ·refine Fit2.trans (E':=(⟨73,[],[(0,.ref i0 0),(3,.ref (n+2) 0),(6,.val (.slice none 0 0)),(24,.val (.int .i64 y2)),(25,.val (.int .i64 0))]⟩:Env)) (O':=(Z4 (((O.upd j0_0 none).upd j0_1 none).upd i0 (some ⟨false,93,2,1,[.row n a0.classes.length,.row (n+1) a0.places.length]⟩)) n [some ⟨true,99,10,a0.classes.length,fl Zj a0.classes⟩,some ⟨true,3,1,a0.places.length,fl (eI .i64) a0.places⟩,some ⟨false,50,9,1,(Zk a1)⟩])) (n':=(n+3)) (Fit2.of (Yc hU rfl rfl ?_) (by omega)) ?_
  ·simp only [push_cast,seval,Za,hi0,hk0,hN0,hN]
  refine Fit2.trans (Zec 6 99 10 rfl (by omega)) ?_
  simp only [Qh,Xl,Zae,List.set_cons_zero,List.set_cons_succ,List.cons_append,List.nil_append,List.length_cons,List.length_nil,Nat.zero_add,Nat.reduceAdd,Nat.reduceLT,Nat.add_assoc,Js,hi0,hk0,hN0,hN]
  refine Fit2.trans (E':=(⟨73,[],[(0,.ref i0 0),(3,.ref (n+2) 0),(6,.row (n+3) ([]:List Zu).length),(24,.val (.int .i64 y2)),(25,.val (.int .i64 0))]⟩:Env)) (O':=(Z4 (((O.upd j0_0 none).upd j0_1 none).upd i0 (some ⟨false,93,2,1,[.row n a0.classes.length,.row (n+1) a0.places.length]⟩)) n [some ⟨true,99,10,a0.classes.length,fl Zj a0.classes⟩,some ⟨true,3,1,a0.places.length,fl (eI .i64) a0.places⟩,some ⟨false,50,9,1,(Zk a1)⟩,some ⟨true,99,10,([]:List Zu).length,fl Zj ([]:List Zu)⟩])) (n':=(n+4)) (Fit2.of (Yc hU rfl rfl ?_) (by omega)) ?_
  ·simp only [push_cast,seval,Za,hi0,hk0,hN0,hN]
  refine X4 (k:=4) (k':=5) hU [0,1,2,3] [0,1,2,3,0] rfl rfl rfl rfl ⟨rfl,rfl⟩ ?_
  simp only [push_cast,seval,Za,hi0,hk0,hN0,hN]
 obtain ⟨z11,hz11,h⟩:=bC h
 refine Za6 (J:=(Qu (fun z11=>JR n (⟨73,[],[(4,.val (.slice none 0 0)),(5,.val (.int .i64 z11))]⟩:Env) (Z4 (((O.upd j0_0 none).upd j0_1 none).upd i0 (some ⟨false,93,2,1,[.row n a0.classes.length,.row (n+1) a0.places.length]⟩)) n [some ⟨true,99,10,a0.classes.length,fl Zj a0.classes⟩,some ⟨true,3,1,a0.places.length,fl (eI .i64) a0.places⟩,none]) (n+3)) (fun z11=>JX 0 n (⟨73,[],[(0,.ref i0 0),(6,.row (n+3) z11.length)]⟩:Env) (Z4 (((O.upd j0_0 none).upd j0_1 none).upd i0 (some ⟨false,93,2,1,[.row n a0.classes.length,.row (n+1) a0.places.length]⟩)) n [some ⟨true,99,10,a0.classes.length,fl Zj a0.classes⟩,some ⟨true,3,1,a0.places.length,fl (eI .i64) a0.places⟩,none,some ⟨true,99,10,z11.length,fl Zj z11⟩,none]) (n+5)))) (z:=z11) ?_ fun hw => ?_
 ·refine Xp hz11 (fun s0_=>⟨73,[],[(0,.ref i0 0),(3,.ref (n+2) 0),(6,.row (n+3) s0_.2.length),(24,.val (.int .i64 y2)),(25,.val (.int .i64 s0_.1))]⟩) (fun s0_=>(Z4 (((O.upd j0_0 none).upd j0_1 none).upd i0 (some ⟨false,93,2,1,[.row n a0.classes.length,.row (n+1) a0.places.length]⟩)) n [some ⟨true,99,10,a0.classes.length,fl Zj a0.classes⟩,some ⟨true,3,1,a0.places.length,fl (eI .i64) a0.places⟩,some ⟨false,50,9,1,(Zk a1)⟩,some ⟨true,99,10,s0_.2.length,fl Zj s0_.2⟩,none])) (Qu (fun z11=>JR n (⟨73,[],[(4,.val (.slice none 0 0)),(5,.val (.int .i64 z11))]⟩:Env) (Z4 (((O.upd j0_0 none).upd j0_1 none).upd i0 (some ⟨false,93,2,1,[.row n a0.classes.length,.row (n+1) a0.places.length]⟩)) n [some ⟨true,99,10,a0.classes.length,fl Zj a0.classes⟩,some ⟨true,3,1,a0.places.length,fl (eI .i64) a0.places⟩,none]) (n+3)) (fun z11=>JX 0 n (⟨73,[],[(0,.ref i0 0),(6,.row (n+3) z11.length)]⟩:Env) (Z4 (((O.upd j0_0 none).upd j0_1 none).upd i0 (some ⟨false,93,2,1,[.row n a0.classes.length,.row (n+1) a0.places.length]⟩)) n [some ⟨true,99,10,a0.classes.length,fl Zj a0.classes⟩,some ⟨true,3,1,a0.places.length,fl (eI .i64) a0.places⟩,none,some ⟨true,99,10,z11.length,fl Zj z11⟩,none]) (n+5))) ?_
  intro s0_ x0_ hs0_
  unfold Qw at hs0_
  try dsimp only
  refine Zn [0,3,6,24,25,26] (Zb Zc [] ?_)
  simp only [push_cast,seval,Za,hi0,hk0,hN0,hN]
  refine Zf ?_
  refine Zq (t:=(decide (s0_.1 < y2))) rfl (fun c10 => ?_) (fun c10 => ?_)
  ·replace hs0_:=Zz c10 hs0_
   refine Zt ?_
   try simp only [Zh,Ze]
   refine Zg [0,3,6,24,25] [true,true,true,true,false] ?_
   simp only [push_cast,seval]
   refine Zf ?_
   refine Yl ?_
   refine Zn [0,3,6,7,24,25] (Zb Zc [] ?_)
   simp only [push_cast,seval,Za,hi0,hk0,hN0,hN]
   refine Zf ?_
   obtain ⟨y4,hy4,hs0_⟩:=bC hs0_
   refine Zb Zc [] ?_
   simp only [push_cast,seval,Za,hi0,hk0,hN0,hN]
   refine (Ua hy4).then ?_
   simp only [push_cast,seval,Za,hi0,hk0,hN0,hN]
   refine Zg [0,3,6,8,9,24,25] [true,true,true,true,false,true] ?_
   simp only [push_cast,seval]
   refine Zf ?_
   refine Zn [0,3,6,8,9,24,25,35] (Zb Zc [] ?_)
   simp only [push_cast,seval,Za,hi0,hk0,hN0,hN]
   refine Zq (t:=(y4.2 != 0)) rfl (fun c9 => ?_) (fun c9 => ?_)
   ·replace hs0_:=Zz c9 hs0_
    refine Zn [4,5] (Zb Zc [] ?_)
    simp only [push_cast,seval,Za,hi0,hk0,hN0,hN]
    refine Zv ?_
    try simp only [Zh,Ze]
    have hs0_:=Option.some.inj hs0_;subst hs0_
    refine And.intro (fun h=>by cases h) (And.intro rfl (Fit2.of (Yc hU rfl rfl ?_) (by omega)))
    simp only [push_cast,seval,Za,hi0,hk0,hN0,hN]
   replace hs0_:=Zy c9 hs0_
   refine Zt ?_
   try simp only [Zh,Ze]
   refine Zg [0,3,6,8,24,25] [true,true,true,true,false,true] ?_
   simp only [push_cast,seval]
   refine Zf ?_
   obtain ⟨y6,hy6,hs0_⟩:=bC hs0_
   refine Zb Zc [] ?_
   simp only [push_cast,seval,Za,hi0,hk0,hN0,hN]
   refine (Zu3 hy6).then ?_
   simp only [push_cast,seval,Za,hi0,hk0,hN0,hN]
   refine Zg [0,3,6,8,9,10,24,25] [true,true,true,true,false,true] ?_
   simp only [push_cast,seval]
   refine Zf ?_
   refine Zn [0,3,6,8,9,10,24,25,43] (Zb Zc [] ?_)
   simp only [push_cast,seval,Za,hi0,hk0,hN0,hN]
   refine Zq (t:=(y6.2 != 0)) rfl (fun c8 => ?_) (fun c8 => ?_)
   ·replace hs0_:=Zz c8 hs0_
    refine Zn [4,5] (Zb Zc [] ?_)
    simp only [push_cast,seval,Za,hi0,hk0,hN0,hN]
    refine Zv ?_
    try simp only [Zh,Ze]
    have hs0_:=Option.some.inj hs0_;subst hs0_
    refine And.intro (fun h=>by cases h) (And.intro rfl (Fit2.of (Yc hU rfl rfl ?_) (by omega)))
    simp only [push_cast,seval,Za,hi0,hk0,hN0,hN]
   replace hs0_:=Zy c8 hs0_
   refine Zt ?_
   try simp only [Zh,Ze]
   refine Zg [0,3,6,8,10,24,25] [true,true,true,true,false,true] ?_
   simp only [push_cast,seval]
   obtain ⟨l7,pl7,ql7,el7,hs0_⟩:=bA (k:=1) rfl hs0_
   refine Zb Zc [] ?_
   simp only [push_cast,seval,Za,pl7,ql7,el7,hi0,hk0,hN0,hN]
   refine U3 ⟨73,[],[(0,.ref i0 0),(3,.ref (n+2) 0),(6,.row (n+3) l7.length),(24,.val (.int .i64 y2)),(25,.val (.int .i64 s0_.1))]⟩ (Z4 (((O.upd j0_0 none).upd j0_1 none).upd i0 (some ⟨false,93,2,1,[.row n a0.classes.length,.row (n+1) a0.places.length]⟩)) n [some ⟨true,99,10,a0.classes.length,fl Zj a0.classes⟩,some ⟨true,3,1,a0.places.length,fl (eI .i64) a0.places⟩,some ⟨false,50,9,1,(Zk a1)⟩,some ⟨true,99,10,l7.length,fl Zj l7⟩,none,none,none]) (Yc hU rfl rfl ?_) ?_
   ·simp only [push_cast,seval,Za,pl7,ql7,el7,hi0,hk0,hN0,hN]
   refine Zb Zc [] ?_
   simp only [push_cast,seval,Za,hi0,hk0,hN0,hN]
   have hs0_:=Option.some.inj hs0_;subst hs0_
   refine And.intro rfl (Fit2.of (Yc hU rfl rfl ?_) (by omega))
   simp only [push_cast,seval,Za,hi0,hk0,hN0,hN]
  replace hs0_:=Zy c10 hs0_
  refine X9 ?_
  try simp only [Zh,Ze,↓reduceIte,Nat.reduceEqDiff]
  have hs0_:=Option.some.inj hs0_;subst hs0_
  refine And.intro (fun h=>by cases h) (And.intro rfl (Fit2.of (Yc hU rfl rfl ?_) (by omega)))
  simp only [push_cast,seval,Za,hi0,hk0,hN0,hN]
 rcases z11 with z11 | z11
 ·dsimp only [Qu] at hw h
  refine Vn hw ?_
  try simp only [Zh,Ze,↓reduceIte,Nat.reduceEqDiff]
  have h:=Option.some.inj h;subst h
  refine Jt (k:=2) (i:=i0) (q1:=⟨false,93,2,1,[.row n a0.classes.length,.row (n+1) a0.places.length]⟩) (L3:=[some ⟨true,99,10,a0.classes.length,fl Zj a0.classes⟩,some ⟨true,3,1,a0.places.length,fl (eI .i64) a0.places⟩,none]) (E2:=(⟨73,[],[(4,.val (.slice none 0 0)),(5,.val (.int .i64 z11))]⟩:Env)) (n3:=(n+3)) (.inr rfl) hU rfl [.val (.slice none 0 0),.val (.int .i64 z11)] ?_ ?_
  ·refine Fit2.trans (E':=(⟨73,[],[(4,.val (.slice none 0 0)),(5,.val (.int .i64 z11))]⟩:Env)) (O':=(Z4 (((O.upd j0_0 none).upd j0_1 none).upd i0 (some ⟨false,93,2,1,[.row n a0.classes.length,.row (n+1) a0.places.length]⟩)) n [some ⟨true,99,10,a0.classes.length,fl Zj a0.classes⟩,some ⟨true,3,1,a0.places.length,fl (eI .i64) a0.places⟩,none])) (n':=(n+3)) (Fit2.of (Yc hU rfl rfl ?_) (by omega)) ?_
   ·simp only [push_cast,seval,Za,hi0,hk0,hN0,hN]
   refine X4 (k:=3) (k':=3) hU [0,1,2] [0,1,0] rfl rfl rfl rfl ⟨rfl,rfl⟩ ?_
   simp only [push_cast,seval,Za,hi0,hk0,hN0,hN]
  simp only [push_cast,seval,Za,Try.results16,hi0,hk0,hN0,hN]
 dsimp only [Qu] at hw h
 refine Y2 hw ?_
 try simp only [Zh,Ze,↓reduceIte,Nat.reduceEqDiff]
 refine Zg [0,6] [true,true,false,true,false] ?_
 simp only [push_cast,seval]
 refine Zn [0,6,11] (Zb Zc [] ?_)
 simp only [push_cast,seval,Za,hi0,hk0,hN0,hN]
 refine Zf ?_
 refine Zn [0,11,52,53,54] (Zb Zc [] ?_)
 simp only [push_cast,seval,Za,hi0,hk0,hN0,hN]
 refine Zg [0,11,52,53,54] [true,true,false,true,false] ?_
 simp only [push_cast,seval]
 refine U7 (E':=(⟨73,[],[(0,.ref i0 0),(11,.row (n+5) ([]:List Int).length),(52,.row (n+3) z11.length),(53,.val (.int .i64 (z11.length:Int))),(54,.val (.int .i64 0))]⟩:Env)) (O':=(Z4 (((O.upd j0_0 none).upd j0_1 none).upd i0 (some ⟨false,93,2,1,[.row (n+6) a0.classes.length,.row (n+7) a0.places.length]⟩)) n [none,none,none,some ⟨true,99,10,z11.length,fl Zj z11⟩,none,some ⟨true,3,1,([]:List Int).length,fl (eI .i64) ([]:List Int)⟩,some ⟨true,99,10,a0.classes.length,fl Zj a0.classes⟩,some ⟨true,3,1,a0.places.length,fl (eI .i64) a0.places⟩])) (n':=(n+8)) ?_ ?_
 ·refine Fit2.trans (E':=(⟨73,[],[(0,.ref i0 0),(11,.val (.slice none 0 0)),(52,.row (n+3) z11.length),(53,.val (.int .i64 (z11.length:Int))),(54,.val (.int .i64 0))]⟩:Env)) (O':=(Z4 (((O.upd j0_0 none).upd j0_1 none).upd i0 (some ⟨false,93,2,1,[.row n a0.classes.length,.row (n+1) a0.places.length]⟩)) n [some ⟨true,99,10,a0.classes.length,fl Zj a0.classes⟩,some ⟨true,3,1,a0.places.length,fl (eI .i64) a0.places⟩,none,some ⟨true,99,10,z11.length,fl Zj z11⟩,none])) (n':=(n+5)) (Fit2.of (Yc hU rfl rfl ?_) (by omega)) ?_
  ·simp only [push_cast,seval,Za,hi0,hk0,hN0,hN]
  refine Fit2.trans (Zec 11 3 1 rfl (by omega)) ?_
  simp only [Qh,Xl,Zae,List.set_cons_zero,List.set_cons_succ,List.cons_append,List.nil_append,List.length_cons,List.length_nil,Nat.zero_add,Nat.reduceAdd,Nat.reduceLT,Nat.add_assoc,Js,hi0,hk0,hN0,hN]
  refine Fit2.trans (E':=(⟨73,[],[(0,.ref i0 0),(11,.row (n+5) ([]:List Int).length),(52,.row (n+3) z11.length),(53,.val (.int .i64 (z11.length:Int))),(54,.val (.int .i64 0))]⟩:Env)) (O':=(Z4 (((O.upd j0_0 none).upd j0_1 none).upd i0 (some ⟨false,93,2,1,[.row n a0.classes.length,.row (n+1) a0.places.length]⟩)) n [some ⟨true,99,10,a0.classes.length,fl Zj a0.classes⟩,some ⟨true,3,1,a0.places.length,fl (eI .i64) a0.places⟩,none,some ⟨true,99,10,z11.length,fl Zj z11⟩,none,some ⟨true,3,1,([]:List Int).length,fl (eI .i64) ([]:List Int)⟩])) (n':=(n+6)) (Fit2.of (Yc hU rfl rfl ?_) (by omega)) ?_
  ·simp only [push_cast,seval,Za,hi0,hk0,hN0,hN]
  refine X4 (k:=6) (k':=8) hU [6,7,4,3,4,5] [0,0,0,3,0,5,0,1] rfl rfl rfl rfl ⟨rfl,rfl⟩ ?_
  simp only [push_cast,seval,Za,hi0,hk0,hN0,hN]
 obtain ⟨z19,hz19,h⟩:=bC h
 refine Za6 (J:=(Qu (fun z19=>JR n (⟨73,[],[(4,.val (.slice none 0 0)),(5,.val (.int .i64 z19.1))]⟩:Env) (Z4 (((O.upd j0_0 none).upd j0_1 none).upd i0 (some ⟨false,93,2,1,[.row (n+5) z19.2.1.length,.row (n+6) z19.2.2.length]⟩)) n [none,none,none,none,none,some ⟨true,99,10,z19.2.1.length,fl Zj z19.2.1⟩,some ⟨true,3,1,z19.2.2.length,fl (eI .i64) z19.2.2⟩]) (n+7)) (fun z19=>JX 2 n (⟨73,[],[(11,.row (n+5) z19.1.length)]⟩:Env) (Z4 (((O.upd j0_0 none).upd j0_1 none).upd i0 (some ⟨false,93,2,1,[.row (n+6) z19.2.1.length,.row (n+7) z19.2.2.length]⟩)) n [none,none,none,none,none,some ⟨true,3,1,z19.1.length,fl (eI .i64) z19.1⟩,some ⟨true,99,10,z19.2.1.length,fl Zj z19.2.1⟩,some ⟨true,3,1,z19.2.2.length,fl (eI .i64) z19.2.2⟩]) (n+8)))) (z:=z19) ?_ fun hw => ?_
 ·refine Xp hz19 (fun s1_=>⟨73,[],[(0,.ref i0 0),(11,.row (n+5) s1_.2.1.length),(52,.row (n+3) z11.length),(53,.val (.int .i64 (z11.length:Int))),(54,.val (.int .i64 s1_.1))]⟩) (fun s1_=>(Z4 (((O.upd j0_0 none).upd j0_1 none).upd i0 (some ⟨false,93,2,1,[.row (n+6) s1_.2.2.1.length,.row (n+7) s1_.2.2.2.length]⟩)) n [none,none,none,some ⟨true,99,10,z11.length,fl Zj z11⟩,none,some ⟨true,3,1,s1_.2.1.length,fl (eI .i64) s1_.2.1⟩,some ⟨true,99,10,s1_.2.2.1.length,fl Zj s1_.2.2.1⟩,some ⟨true,3,1,s1_.2.2.2.length,fl (eI .i64) s1_.2.2.2⟩])) (Qu (fun z19=>JR n (⟨73,[],[(4,.val (.slice none 0 0)),(5,.val (.int .i64 z19.1))]⟩:Env) (Z4 (((O.upd j0_0 none).upd j0_1 none).upd i0 (some ⟨false,93,2,1,[.row (n+5) z19.2.1.length,.row (n+6) z19.2.2.length]⟩)) n [none,none,none,none,none,some ⟨true,99,10,z19.2.1.length,fl Zj z19.2.1⟩,some ⟨true,3,1,z19.2.2.length,fl (eI .i64) z19.2.2⟩]) (n+7)) (fun z19=>JX 2 n (⟨73,[],[(11,.row (n+5) z19.1.length)]⟩:Env) (Z4 (((O.upd j0_0 none).upd j0_1 none).upd i0 (some ⟨false,93,2,1,[.row (n+6) z19.2.1.length,.row (n+7) z19.2.2.length]⟩)) n [none,none,none,none,none,some ⟨true,3,1,z19.1.length,fl (eI .i64) z19.1⟩,some ⟨true,99,10,z19.2.1.length,fl Zj z19.2.1⟩,some ⟨true,3,1,z19.2.2.length,fl (eI .i64) z19.2.2⟩]) (n+8))) ?_
  intro s1_ x1_ hs1_
  unfold Qx at hs1_
  try dsimp only
  refine Zn [0,11,52,53,54,55] (Zb Zc [] ?_)
  simp only [push_cast,seval,Za,hi0,hk0,hN0,hN]
  refine Zf ?_
  refine Zq (t:=(decide (s1_.1 < (z11.length:Int)))) rfl (fun c18 => ?_) (fun c18 => ?_)
  ·replace hs1_:=Zz c18 hs1_
   refine Zt ?_
   try simp only [Zh,Ze]
   refine Zg [0,11,52,53,54] [false,false,false,true,false,true,true,true] ?_
   simp only [push_cast,seval]
   refine Zf ?_
   refine Yl ?_
   refine Zf ?_
   obtain ⟨x13,hx13,ax13,bx13,cx13,hs1_⟩:=bE (f:=Zj) Zps (fun _=>rfl) (by decide) hs1_
   refine Zb Zc [] ?_
   simp only [push_cast,Nat.reduceAdd,Nat.reduceSub,Nat.reduceMul,Nat.reduceLeDiff,Nat.reduceLT,Nat.reduceEqDiff,↓reduceIte,reduceCtorEq,Int.reduceBEq,Int.reduceBNe,Nat.reduceBEq,Int.reduceLE,Int.reduceLT,Int.reduceEq,Int.reduceNe,Int.reduceNeg,Nat.reduceDiv,Nat.reduceMod,Nat.reducePow,Za,ax13,bx13,cx13,hi0,hk0,hN0,hN]
   refine Zg [0,11,13,52,53,54] [false,false,false,true,false,true,true,true,true] ?_
   simp only [push_cast,seval]
   refine Zf ?_
   obtain ⟨y15,hy15,hs1_⟩:=bC hs1_
   refine Zb Zc [] ?_
   simp only [push_cast,seval,Za,hi0,hk0,hN0,hN]
   refine (Zi8 (i0:=i0) (j0_0:=(n+6)) (j0_1:=(n+7)) (by omega) (by omega) (by omega) (by omega) (by omega) (by omega) (by simp only [push_cast,seval,Za,Qk,hi0,hk0,hN0,hN] <;> rfl) (by simp only [push_cast,seval,Za,Qk,hi0,hk0,hN0,hN] <;> rfl) (by simp only [push_cast,seval,Za,Qk,hi0,hk0,hN0,hN] <;> rfl) hy15).then ?_
   simp only [push_cast,seval,Za,hi0,hk0,hN0,hN]
   refine Zg [0,11,14,15,52,53,54] [false,false,false,true,false,true,false,false,false,true,true] ?_
   simp only [push_cast,seval]
   refine Zf ?_
   refine Zn [0,11,14,15,52,53,54,65] (Zb Zc [] ?_)
   simp only [push_cast,seval,Za,hi0,hk0,hN0,hN]
   refine Zq (t:=(y15.2.1 != 0)) rfl (fun c17 => ?_) (fun c17 => ?_)
   ·replace hs1_:=Zz c17 hs1_
    refine Zn [4,5] (Zb Zc [] ?_)
    simp only [push_cast,seval,Za,hi0,hk0,hN0,hN]
    refine Zv ?_
    try simp only [Zh,Ze]
    have hs1_:=Option.some.inj hs1_;subst hs1_
    refine And.intro (fun h=>by cases h) (And.intro rfl ?_)
    refine Fit2.trans (E':=(⟨73,[],[(4,.val (.slice none 0 0)),(5,.val (.int .i64 y15.2.1))]⟩:Env)) (O':=(Z4 (((O.upd j0_0 none).upd j0_1 none).upd i0 (some ⟨false,93,2,1,[.row (n+9) y15.2.2.classes.length,.row (n+10) y15.2.2.places.length]⟩)) n [none,none,none,none,none,none,none,none,none,some ⟨true,99,10,y15.2.2.classes.length,fl Zj y15.2.2.classes⟩,some ⟨true,3,1,y15.2.2.places.length,fl (eI .i64) y15.2.2.places⟩])) (n':=(n+11)) (Fit2.of (Yc hU rfl rfl ?_) (by omega)) ?_
    ·simp only [push_cast,seval,Za,hi0,hk0,hN0,hN]
    refine X4 (k:=11) (k':=7) hU [4,4,4,4,4,4,4,4,4,5,6] [0,0,0,0,0,9,10] rfl rfl rfl rfl ⟨rfl,rfl⟩ ?_
    simp only [push_cast,seval,Za,hi0,hk0,hN0,hN]
   replace hs1_:=Zy c17 hs1_
   refine Zt ?_
   try simp only [Zh,Ze]
   refine Zg [0,11,14,52,53,54] [false,false,false,true,false,true,false,false,false,true,true] ?_
   simp only [push_cast,seval]
   obtain ⟨l16,pl16,ql16,el16,hs1_⟩:=bA (k:=1) rfl hs1_
   refine Zb Zc [] ?_
   simp only [push_cast,seval,Za,pl16,ql16,el16,hi0,hk0,hN0,hN]
   refine U3 ⟨73,[],[(0,.ref i0 0),(11,.row (n+5) l16.length),(52,.row (n+3) z11.length),(53,.val (.int .i64 (z11.length:Int))),(54,.val (.int .i64 s1_.1))]⟩ (Z4 (((O.upd j0_0 none).upd j0_1 none).upd i0 (some ⟨false,93,2,1,[.row (n+9) y15.2.2.classes.length,.row (n+10) y15.2.2.places.length]⟩)) n [none,none,none,some ⟨true,99,10,z11.length,fl Zj z11⟩,none,some ⟨true,3,1,l16.length,fl (eI .i64) l16⟩,none,none,none,some ⟨true,99,10,y15.2.2.classes.length,fl Zj y15.2.2.classes⟩,some ⟨true,3,1,y15.2.2.places.length,fl (eI .i64) y15.2.2.places⟩,none]) (Yc hU rfl rfl ?_) ?_
   ·simp only [push_cast,seval,Za,pl16,ql16,el16,hi0,hk0,hN0,hN]
   refine Zb Zc [] ?_
   simp only [push_cast,seval,Za,hi0,hk0,hN0,hN]
   have hs1_:=Option.some.inj hs1_;subst hs1_
   refine And.intro rfl ?_
   refine Fit2.trans (E':=(⟨73,[],[(0,.ref i0 0),(11,.row (n+5) l16.length),(52,.row (n+3) z11.length),(53,.val (.int .i64 (z11.length:Int))),(54,.val (.int .i64 (IntKind.i64.wrap (s1_.1+1))))]⟩:Env)) (O':=(Z4 (((O.upd j0_0 none).upd j0_1 none).upd i0 (some ⟨false,93,2,1,[.row (n+9) y15.2.2.classes.length,.row (n+10) y15.2.2.places.length]⟩)) n [none,none,none,some ⟨true,99,10,z11.length,fl Zj z11⟩,none,some ⟨true,3,1,l16.length,fl (eI .i64) l16⟩,none,none,none,some ⟨true,99,10,y15.2.2.classes.length,fl Zj y15.2.2.classes⟩,some ⟨true,3,1,y15.2.2.places.length,fl (eI .i64) y15.2.2.places⟩,none])) (n':=(n+12)) (Fit2.of (Yc hU rfl rfl ?_) (by omega)) ?_
   ·simp only [push_cast,seval,Za,hi0,hk0,hN0,hN]
   refine X4 (k:=12) (k':=8) hU [4,4,4,3,4,5,4,4,4,6,7,4] [0,0,0,3,0,5,9,10] rfl rfl rfl rfl ⟨rfl,rfl⟩ ?_
   simp only [push_cast,seval,Za,hi0,hk0,hN0,hN]
  replace hs1_:=Zy c18 hs1_
  refine X9 ?_
  try simp only [Zh,Ze,↓reduceIte,Nat.reduceEqDiff]
  have hs1_:=Option.some.inj hs1_;subst hs1_
  refine And.intro (fun h=>by cases h) (And.intro rfl (Fit2.of (Yc hU rfl rfl ?_) (by omega)))
  simp only [push_cast,seval,Za,hi0,hk0,hN0,hN]
 rcases z19 with z19 | z19
 ·dsimp only [Qu] at hw h
  refine Vn hw ?_
  try simp only [Zh,Ze,↓reduceIte,Nat.reduceEqDiff]
  have h:=Option.some.inj h;subst h
  refine Jt (k:=2) (i:=i0) (q1:=⟨false,93,2,1,[.row n z19.2.1.length,.row (n+1) z19.2.2.length]⟩) (L3:=[some ⟨true,99,10,z19.2.1.length,fl Zj z19.2.1⟩,some ⟨true,3,1,z19.2.2.length,fl (eI .i64) z19.2.2⟩,none]) (E2:=(⟨73,[],[(4,.val (.slice none 0 0)),(5,.val (.int .i64 z19.1))]⟩:Env)) (n3:=(n+3)) (.inr rfl) hU rfl [.val (.slice none 0 0),.val (.int .i64 z19.1)] ?_ ?_
  ·refine Fit2.trans (E':=(⟨73,[],[(4,.val (.slice none 0 0)),(5,.val (.int .i64 z19.1))]⟩:Env)) (O':=(Z4 (((O.upd j0_0 none).upd j0_1 none).upd i0 (some ⟨false,93,2,1,[.row (n+5) z19.2.1.length,.row (n+6) z19.2.2.length]⟩)) n [none,none,none,none,none,some ⟨true,99,10,z19.2.1.length,fl Zj z19.2.1⟩,some ⟨true,3,1,z19.2.2.length,fl (eI .i64) z19.2.2⟩])) (n':=(n+7)) (Fit2.of (Yc hU rfl rfl ?_) (by omega)) ?_
   ·simp only [push_cast,seval,Za,hi0,hk0,hN0,hN]
   refine X4 (k:=7) (k':=3) hU [2,2,2,2,2,0,1] [5,6,0] rfl rfl rfl rfl ⟨rfl,rfl⟩ ?_
   simp only [push_cast,seval,Za,hi0,hk0,hN0,hN]
  simp only [push_cast,seval,Za,Try.results16,hi0,hk0,hN0,hN]
 dsimp only [Qu] at hw h
 refine Y2 hw ?_
 try simp only [Zh,Ze,↓reduceIte,Nat.reduceEqDiff]
 refine Zg [11] [false,false,false,false,false,true,true,true] ?_
 simp only [push_cast,seval]
 refine Zn [4,5] (Zb Zc [] ?_)
 simp only [push_cast,seval,Za,hi0,hk0,hN0,hN]
 refine Zv ?_
 try simp only [Zh,Ze]
 have h:=Option.some.inj h;subst h
 refine Jt (k:=2) (i:=i0) (q1:=⟨false,93,2,1,[.row n z19.2.1.length,.row (n+1) z19.2.2.length]⟩) (L3:=[some ⟨true,99,10,z19.2.1.length,fl Zj z19.2.1⟩,some ⟨true,3,1,z19.2.2.length,fl (eI .i64) z19.2.2⟩,some ⟨true,3,1,z19.1.length,fl (eI .i64) z19.1⟩,none]) (E2:=(⟨73,[],[(4,.row (n+2) z19.1.length),(5,.val (.int .i64 0))]⟩:Env)) (n3:=(n+4)) (.inr rfl) hU rfl [.row (n+2) z19.1.length,.val (.int .i64 0)] ?_ ?_
 ·refine Fit2.trans (E':=(⟨73,[],[(4,.row (n+5) z19.1.length),(5,.val (.int .i64 0))]⟩:Env)) (O':=(Z4 (((O.upd j0_0 none).upd j0_1 none).upd i0 (some ⟨false,93,2,1,[.row (n+6) z19.2.1.length,.row (n+7) z19.2.2.length]⟩)) n [none,none,none,none,none,some ⟨true,3,1,z19.1.length,fl (eI .i64) z19.1⟩,some ⟨true,99,10,z19.2.1.length,fl Zj z19.2.1⟩,some ⟨true,3,1,z19.2.2.length,fl (eI .i64) z19.2.2⟩])) (n':=(n+8)) (Fit2.of (Yc hU rfl rfl ?_) (by omega)) ?_
  ·simp only [push_cast,seval,Za,hi0,hk0,hN0,hN]
  refine X4 (k:=8) (k':=4) hU [3,3,3,3,3,2,0,1] [6,7,5,0] rfl rfl rfl rfl ⟨rfl,rfl⟩ ?_
  simp only [push_cast,seval,Za,hi0,hk0,hN0,hN]
 simp only [push_cast,seval,Za,Try.results16,hi0,hk0,hN0,hN]
theorem Y4 {a0:(List Int)} {a1:(List Int)} {r:Bool} {O:Objs} {n:Nat} (h:Xb a0 a1=some r):GTo Try.prog 19 [.sl a0.length (fl (eI .i64) a0),.sl a1.length (fl (eI .i64) a1)] O n (.val (.bool r)) O n:=by
 unfold Xb at h
 refine Yi Zc Try.call19 Try.func19 rfl (Nat.le_of_ble_eq_true rfl) (Nat.le_refl _) fun hU => ?_
 have hN0:O n=none:=hU.fresh _ (Nat.le_refl _)
 have hN:∀ k,O (n+k)=none:=fun k=>hU.fresh _ (Nat.le_add_right _ _)
 show W _ _ _ _ ⟨26,[],[(0,.sl a0.length (fl (eI .i64) a0)),(1,.sl a1.length (fl (eI .i64) a1))]⟩ (Z4 O n []) _
 refine Zn [0,1] (Zb Zc [] ?_)
 simp only [push_cast,seval,Za,hN0,hN]
 refine Zf ?_
 refine Zn [0,1,10] (Zb Zc [] ?_)
 simp only [push_cast,seval,Za,hN0,hN]
 refine Zq (t:=((a0.length:Int) != (a1.length:Int))) rfl (fun c8 => ?_) (fun c8 => ?_)
 ·replace h:=Zz c8 h
  refine Zn [4] (Zb Zc [] ?_)
  simp only [push_cast,seval,Za,hN0,hN]
  refine Zv ?_
  try simp only [Zh,Ze]
  have h:=Option.some.inj h;subst h
  refine Zo (.inr rfl) hU [.val (.bool false)] (by omega) ?_
  simp only [push_cast,seval,Za,Try.results19,hN0,hN]
 replace h:=Zy c8 h
 refine Zt ?_
 try simp only [Zh,Ze]
 refine Zg [0,1] [] ?_
 simp only [push_cast,seval]
 refine Zf ?_
 refine Zn [0,1,5] (Zb Zc [] ?_)
 simp only [push_cast,seval,Za,hN0,hN]
 refine Zg [0,1,5] [] ?_
 simp only [push_cast,seval]
 obtain ⟨z7,hz7,h⟩:=bC h
 refine Za6 (J:=(Qu (fun z7=>JR n (⟨26,[],[(4,.val (.bool false))]⟩:Env) (Z4 O n []) n) (fun z7=>JX 0 n (⟨26,[],[]⟩:Env) (Z4 O n []) n))) (z:=z7) ?_ fun hw => ?_
 ·refine Xp hz7 (fun s0_=>⟨26,[],[(0,.sl a0.length (fl (eI .i64) a0)),(1,.sl a1.length (fl (eI .i64) a1)),(5,.val (.int .i64 s0_))]⟩) (fun s0_=>(Z4 O n [])) (Qu (fun z7=>JR n (⟨26,[],[(4,.val (.bool false))]⟩:Env) (Z4 O n []) n) (fun z7=>JX 0 n (⟨26,[],[]⟩:Env) (Z4 O n []) n)) ?_
  intro s0_ x0_ hs0_
  unfold Kp at hs0_
  try dsimp only
  refine Zf ?_
  refine Zn [0,1,5,14] (Zb Zc [] ?_)
  simp only [push_cast,seval,Za,hN0,hN]
  refine Zq (t:=(decide (s0_ < (a0.length:Int)))) rfl (fun c6 => ?_) (fun c6 => ?_)
  ·replace hs0_:=Zz c6 hs0_
   refine Zt ?_
   try simp only [Zh,Ze]
   refine Zg [0,1,5] [] ?_
   simp only [push_cast,seval]
   refine Zf ?_
   refine Yl ?_
   obtain ⟨x3,hx3,ax3,bx3,cx3,hs0_⟩:=bE (f:=(eI .i64)) Zok (fun _=>rfl) (by decide) hs0_
   obtain ⟨x4,hx4,ax4,bx4,cx4,hs0_⟩:=bE (f:=(eI .i64)) Zok (fun _=>rfl) (by decide) hs0_
   refine Zn [0,1,5,25] (Y1 Zc (by kernel_rfl) [] (by kernel_rfl) ?_)
   simp only [push_cast,Nat.reduceAdd,Nat.reduceSub,Nat.reduceMul,Nat.reduceLeDiff,Nat.reduceLT,Nat.reduceEqDiff,↓reduceIte,reduceCtorEq,Int.reduceBEq,Int.reduceBNe,Nat.reduceBEq,Int.reduceLE,Int.reduceLT,Int.reduceEq,Int.reduceNe,Int.reduceNeg,Nat.reduceDiv,Nat.reduceMod,Nat.reducePow,Za,ax3,bx3,cx3,ax4,bx4,cx4,hN0,hN]
   refine Zq (t:=(x3 != x4)) rfl (fun c5 => ?_) (fun c5 => ?_)
   ·replace hs0_:=Zz c5 hs0_
    refine Zn [4] (Zb Zc [] ?_)
    simp only [push_cast,seval,Za,hN0,hN]
    refine Zv ?_
    try simp only [Zh,Ze]
    have hs0_:=Option.some.inj hs0_;subst hs0_
    refine And.intro (fun h=>by cases h) (And.intro rfl (Fit2.of (Zp hU rfl rfl ?_) (by omega)))
    simp only [push_cast,seval,Za,hN0,hN]
   replace hs0_:=Zy c5 hs0_
   refine Zt ?_
   try simp only [Zh,Ze]
   refine Zg [0,1,5] [] ?_
   simp only [push_cast,seval]
   refine Zb Zc [] ?_
   simp only [push_cast,seval,Za,hN0,hN]
   have hs0_:=Option.some.inj hs0_;subst hs0_
   refine And.intro rfl (Fit2.of (Zp hU rfl rfl ?_) (by omega))
   simp only [push_cast,seval,Za,hN0,hN]
  replace hs0_:=Zy c6 hs0_
  refine X9 ?_
  try simp only [Zh,Ze,↓reduceIte,Nat.reduceEqDiff]
  have hs0_:=Option.some.inj hs0_;subst hs0_
  refine And.intro (fun h=>by cases h) (And.intro rfl (Fit2.of (Zp hU rfl rfl ?_) (by omega)))
  simp only [push_cast,seval,Za,hN0,hN]
 rcases z7 with z7 | z7
 ·dsimp only [Qu] at hw h
  refine Vn hw ?_
  try simp only [Zh,Ze,↓reduceIte,Nat.reduceEqDiff]
  have h:=Option.some.inj h;subst h
  refine Zo (.inr rfl) hU [.val (.bool false)] (by omega) ?_
  simp only [push_cast,seval,Za,Try.results19,hN0,hN]
 dsimp only [Qu] at hw h
 refine Y2 hw ?_
 try simp only [Zh,Ze,↓reduceIte,Nat.reduceEqDiff]
 refine Zg [] [] ?_
 simp only [push_cast,seval]
 refine Zn [4] (Zb Zc [] ?_)
 simp only [push_cast,seval,Za,hN0,hN]
 refine Zv ?_
 try simp only [Zh,Ze]
 have h:=Option.some.inj h;subst h
 refine Zo (.inr rfl) hU [.val (.bool true)] (by omega) ?_
 simp only [push_cast,seval,Za,Try.results19,hN0,hN]
theorem Zav {a0:(Option Z3)} {r:Int} {O:Objs} {n:Nat} (h:Kk a0=some r):GTo Try.prog 20 [(gP Y6 a0)] O n (.val (.int .i64 r)) O n:=by
 unfold Kk at h
 refine Yi Zc Try.call20 Try.func20 rfl (Nat.le_of_ble_eq_true rfl) (Nat.le_refl _) fun hU => ?_
 have hN0:O n=none:=hU.fresh _ (Nat.le_refl _)
 have hN:∀ k,O (n+k)=none:=fun k=>hU.fresh _ (Nat.le_add_right _ _)
 show W _ _ _ _ ⟨10,[],[(0,(gP Y6 a0))]⟩ (Z4 O n []) _
 refine Zn [0] (Zb Zc [] ?_)
 simp only [push_cast,seval,Za,hN0,hN]
 refine Zf ?_
 have g2:=Zry (f:=Y6) (t:=43) Ziw a0
 refine Zn [0,4] (Zb Zc [] ?_)
 simp only [push_cast,seval,Za,g2,hN0,hN]
 refine Zq (t:=(Option.isNone a0)) rfl (fun c5 => ?_) (fun c5 => ?_)
 ·replace h:=Zz c5 h
  refine Zn [2] (Zb Zc [] ?_)
  simp only [push_cast,seval,Za,hN0,hN]
  refine Zv ?_
  try simp only [Zh,Ze]
  have h:=Option.some.inj h;subst h
  refine Zo (.inr rfl) hU [.val (.int .i64 0)] (by omega) ?_
  simp only [push_cast,seval,Za,Try.results20,hN0,hN]
 replace h:=Zy c5 h
 refine Zt ?_
 try simp only [Zh,Ze]
 refine Zg [0] [] ?_
 simp only [push_cast,seval]
 obtain ⟨x4,hx4,h⟩:=bC h
 refine Zn [2] (Zb Zc [] ?_)
 simp only [push_cast,seval,Za,hx4,hN0,hN]
 refine Zv ?_
 try simp only [Zh,Ze]
 have h:=Option.some.inj h;subst h
 refine Zo (.inr rfl) hU [.val (.int .i64 (x4.classes.length:Int))] (by omega) ?_
 simp only [push_cast,seval,Za,Try.results20,hN0,hN]
theorem Up  {r:Bool} {O:Objs} {n:Nat} (h:Qm=some r):GTo Try.prog 13 [] O n (.val (.bool r)) O n:=by
 unfold Qm at h
 refine Yi Zc Try.call13 Try.func13 rfl (Nat.le_of_ble_eq_true rfl) (Nat.le_refl _) fun hU => ?_
 have hN0:O n=none:=hU.fresh _ (Nat.le_refl _)
 have hN:∀ k,O (n+k)=none:=fun k=>hU.fresh _ (Nat.le_add_right _ _)
 show W _ _ _ _ ⟨25,[],[]⟩ (Z4 O n []) _
 refine Zn [] (Zb Zc [] ?_)
 simp only [push_cast,seval,Za,hN0,hN]
 refine Zf ?_
 obtain ⟨y2,hy2,h⟩:=bC h
 refine Zb Zc [] ?_
 simp only [push_cast,seval,Za,hN0,hN]
 refine (Znj  hy2).then ?_
 simp only [push_cast,seval,Za,hN0,hN]
 refine Zg [1] [true,true,true] ?_
 simp only [push_cast,seval]
 refine Zf ?_
 obtain ⟨y5,hy5,h⟩:=bC h
 obtain ⟨y6,hy6,h⟩:=bC h
 refine Zb Zc [] ?_
 simp only [push_cast,seval,Za,hN0,hN]
 refine GCalls.dropL (l':=[some ⟨false,93,2,1,[.row (n+1) y2.classes.length,.row (n+2) y2.places.length]⟩,some ⟨true,99,10,y2.classes.length,fl Zj y2.classes⟩,some ⟨true,3,1,y2.places.length,fl (eI .i64) y2.places⟩,none,none]) hU rfl ?_ ((Za9 hy5).then ?_)
 ·simp only [push_cast,seval,Za,hN0,hN]
 simp only [push_cast,seval,Za,hN0,hN]
 refine (Zaa (i0:=n) (j0_0:=(n+1)) (j0_1:=(n+2)) (by omega) (by omega) (by omega) (by omega) (by omega) (by omega) (by simp only [push_cast,seval,Za,Qk,hN0,hN] <;> rfl) (by simp only [push_cast,seval,Za,Qk,hN0,hN] <;> rfl) (by simp only [push_cast,seval,Za,Qk,hN0,hN] <;> rfl) hy6).then ?_
 simp only [push_cast,seval,Za,hN0,hN]
 refine Zg [1,2,3] [true,false,false,false,false,true,true] ?_
 simp only [push_cast,seval]
 obtain ⟨z9,hz9,h⟩:=bC h
 refine Yt (E':=⟨25,[],[(0,.val (.bool z9))]⟩) (O':=(Z4 O n [none,none,none,none,none,none,none,none])) (n0:=(n+8)) ?_ ?_
 ·rcases Bool.eq_false_or_eq_true (y6.2.1 == 0) with c14 | c14
  ·replace hz9:=Zz c14 hz9
   obtain ⟨y12,hy12,hz9⟩:=bC hz9
   rcases Bool.eq_false_or_eq_true y12 with c15 | c15
   ·replace hz9:=Zz c15 hz9
    try rw [c15] at c14
    obtain ⟨y13,hy13,hz9⟩:=bC hz9
    refine Zb Zc (Z85 []) ?_
    simp only [push_cast,seval,Za,c14,c15,hN0,hN]
    refine GCalls.lend (Y4 hy12) rfl ?_ ?_
    ·simp only [push_cast,seval,Za,c14,c15,hN0,hN]
    simp only [push_cast,seval,Za,c14,c15,hN0,hN]
    refine GCalls.lend (Zav hy13) rfl ?_ ?_
    ·simp only [push_cast,seval,Za,c14,c15,hN0,hN]
    simp only [push_cast,seval,Za,c14,c15,hN0,hN]
    have hz9:=Option.some.inj hz9;subst hz9
    refine And.intro rfl (Fit2.of (Zp hU rfl rfl ?_) (by omega))
    simp only [push_cast,seval,Za,c14,c15,hN0,hN]
   replace hz9:=Zy c15 hz9
   try rw [c15] at c14
   refine Zb Zc (Z4i (Z62 [])) ?_
   simp only [push_cast,seval,Za,c14,c15,hN0,hN]
   refine GCalls.lend (Y4 hy12) rfl ?_ ?_
   ·simp only [push_cast,seval,Za,c14,c15,hN0,hN]
   simp only [push_cast,seval,Za,c14,c15,hN0,hN]
   have hz9:=Option.some.inj hz9;subst hz9
   refine And.intro rfl (Fit2.of (Zp hU rfl rfl ?_) (by omega))
   simp only [push_cast,seval,Za,c14,c15,hN0,hN]
  replace hz9:=Zy c14 hz9
  refine Zb Zc (Ybr []) ?_
  simp only [push_cast,seval,Za,c14,hN0,hN]
  have hz9:=Option.some.inj hz9;subst hz9
  refine And.intro rfl (Fit2.of (Zp hU rfl rfl ?_) (by omega))
  simp only [push_cast,seval,Za,c14,hN0,hN]
 refine Zv ?_
 try simp only [Zh,Ze]
 have h:=Option.some.inj h;subst h
 refine Zo (.inr rfl) hU [.val (.bool z9)] (by omega) ?_
 simp only [push_cast,seval,Za,Try.results13,hN0,hN]
theorem V9 {a0:Int} {a1:Int} {r:Int} {O:Objs} {n:Nat} (h:X7 a0 a1=some r):GTo Try.prog 69 [.val (.int .i64 a0),.val (.int .i64 a1)] O n (.val (.int .i64 r)) O n:=by
 unfold X7 at h
 refine Yi Zc Try.call69 Try.func69 rfl (Nat.le_of_ble_eq_true rfl) (Nat.le_refl _) fun hU => ?_
 have hN0:O n=none:=hU.fresh _ (Nat.le_refl _)
 have hN:∀ k,O (n+k)=none:=fun k=>hU.fresh _ (Nat.le_add_right _ _)
 show W _ _ _ _ ⟨12,[],[(0,.val (.int .i64 a0)),(1,.val (.int .i64 a1))]⟩ (Z4 O n []) _
 refine Zn [0,1] (Zb Zc [] ?_)
 simp only [push_cast,seval,Za,hN0,hN]
 refine Zf ?_
 refine Zn [0,1,6] (Zb Zc [] ?_)
 simp only [push_cast,seval,Za,hN0,hN]
 refine Zq (t:=(decide (a0 < 0))) rfl (fun c2 => ?_) (fun c2 => ?_)
 ·replace h:=Zz c2 h
  refine Zn [4] (Zb Zc [] ?_)
  simp only [push_cast,seval,Za,hN0,hN]
  refine Zv ?_
  try simp only [Zh,Ze]
  have h:=Option.some.inj h;subst h
  refine Zo (.inr rfl) hU [.val (.int .i64 0)] (by omega) ?_
  simp only [push_cast,seval,Za,Try.results69,hN0,hN]
 replace h:=Zy c2 h
 refine Zt ?_
 try simp only [Zh,Ze]
 refine Zg [0,1] [] ?_
 simp only [push_cast,seval]
 refine Zf ?_
 refine Zn [0,1,9] (Zb Zc [] ?_)
 simp only [push_cast,seval,Za,hN0,hN]
 refine Zq (t:=(decide (a1 < a0))) rfl (fun c1 => ?_) (fun c1 => ?_)
 ·replace h:=Zz c1 h
  refine Zn [4] (Zb Zc [] ?_)
  simp only [push_cast,seval,Za,hN0,hN]
  refine Zv ?_
  try simp only [Zh,Ze]
  have h:=Option.some.inj h;subst h
  refine Zo (.inr rfl) hU [.val (.int .i64 a1)] (by omega) ?_
  simp only [push_cast,seval,Za,Try.results69,hN0,hN]
 replace h:=Zy c1 h
 refine Zt ?_
 try simp only [Zh,Ze]
 refine Zg [0] [] ?_
 simp only [push_cast,seval]
 refine Zn [4] (Zb Zc [] ?_)
 simp only [push_cast,seval,Za,hN0,hN]
 refine Zv ?_
 try simp only [Zh,Ze]
 have h:=Option.some.inj h;subst h
 refine Zo (.inr rfl) hU [.val (.int .i64 a0)] (by omega) ?_
 simp only [push_cast,seval,Za,Try.results69,hN0,hN]
theorem Zjo {a0:Yg} {r:Yg} {O:Objs} {n:Nat} (h:Vc a0=some r):GTo Try.prog 36 [.agg (Qj a0)] O n (.agg (Qj r)) O n:=by
 unfold Vc at h
 refine Yi Zc Try.call36 Try.func36 rfl (Nat.le_of_ble_eq_true rfl) (Nat.le_refl _) fun hU => ?_
 have hN0:O n=none:=hU.fresh _ (Nat.le_refl _)
 have hN:∀ k,O (n+k)=none:=fun k=>hU.fresh _ (Nat.le_add_right _ _)
 show W _ _ _ _ ⟨16,[],[(0,.agg (Qj a0))]⟩ (Z4 O n []) _
 refine Zn [1,2] (Zb Zc [] ?_)
 simp only [push_cast,seval,Za,hN0,hN]
 refine Zf ?_
 obtain ⟨y5,hy5,h⟩:=bC h
 obtain ⟨y6,hy6,h⟩:=bC h
 obtain ⟨y7,hy7,h⟩:=bC h
 obtain ⟨y8,hy8,h⟩:=bC h
 refine Zkc Zc (by kernel_rfl) [false,false,false,false,false,false,false,false,false,false,false,false,false,true] [] (by kernel_rfl) ?_
 simp only [push_cast,seval,Za,hN0,hN]
 refine PCall.of (V9 hy5) ?_
 simp only [push_cast,seval,Za,hN0,hN]
 refine PCall.of (V9 hy6) ?_
 simp only [push_cast,seval,Za,hN0,hN]
 refine PCall.of (V9 hy7) ?_
 simp only [push_cast,seval,Za,hN0,hN]
 refine PCall.of (V9 hy8) ?_
 simp only [push_cast,seval,Za,hN0,hN]
 refine Zg [2] [false,true] ?_
 simp only [push_cast,seval]
 refine Zv ?_
 try simp only [Zh,Ze]
 have h:=Option.some.inj h;subst h
 refine Zo (.inr rfl) hU [.agg [.val (.int .i64 y5),.val (.int .i64 y6),.val (.int .i64 y7),.val (.int .i64 y8)]] (by omega) ?_
 simp only [push_cast,seval,Za,Try.results36,hN0,hN]
theorem V8 {a0:(List (List Int))} {a1:Int} {a2:Int} {r:Bool} {O:Objs} {n:Nat} (h:Ji a0 a1 a2=some r):GTo Try.prog 109 [.sl a0.length (fl (eL (eI .u64)) a0),.val (.int .i64 a1),.val (.int .i64 a2)] O n (.val (.bool r)) O n:=by
 unfold Ji at h
 refine Yi Zc Try.call109 Try.func109 rfl (Nat.le_of_ble_eq_true rfl) (Nat.le_refl _) fun hU => ?_
 have hN0:O n=none:=hU.fresh _ (Nat.le_refl _)
 have hN:∀ k,O (n+k)=none:=fun k=>hU.fresh _ (Nat.le_add_right _ _)
 show W _ _ _ _ ⟨28,[],[(0,.sl a0.length (fl (eL (eI .u64)) a0)),(1,.val (.int .i64 a1)),(2,.val (.int .i64 a2))]⟩ (Z4 O n []) _
 refine Zn [0,1,2] (Zb Zc [] ?_)
 simp only [push_cast,seval,Za,hN0,hN]
 obtain ⟨z2,hz2,h⟩:=bC h
 refine Yt (E':=⟨28,[],[(6,.val (.bool z2))]⟩) (O':=(Z4 O n [])) (n0:=n) ?_ ?_
 ·rcases Bool.eq_false_or_eq_true (decide (0≤a1)) with c5 | c5
  ·replace hz2:=Zz c5 hz2
   rcases Bool.eq_false_or_eq_true (decide (a1 < (a0.length:Int))) with c6 | c6
   ·replace hz2:=Zz c6 hz2
    try rw [c6] at c5
    rcases Bool.eq_false_or_eq_true (decide (0≤a2)) with c7 | c7
    ·replace hz2:=Zz c7 hz2
     try rw [c7] at c5
     try rw [c7] at c6
     obtain ⟨x4,hx4,ax4,bx4,cx4,hz2⟩:=bE (f:=(eL (eI .u64))) U1 (fun _=>rfl) (by decide) hz2
     refine Zb Zc (Z84 (Ybs [])) ?_
     simp only [push_cast,Nat.reduceAdd,Nat.reduceSub,Nat.reduceMul,Nat.reduceLeDiff,Nat.reduceLT,Nat.reduceEqDiff,↓reduceIte,reduceCtorEq,Int.reduceBEq,Int.reduceBNe,Nat.reduceBEq,Int.reduceLE,Int.reduceLT,Int.reduceEq,Int.reduceNe,Int.reduceNeg,Nat.reduceDiv,Nat.reduceMod,Nat.reducePow,Za,c5,c6,c7,ax4,bx4,cx4,hN0,hN]
     repeat (with_reducible refine And.intro (by first | (intro h0;simp only [h0];done) | (intro h0;simp only [h0,true_and,and_true,imp_self,implies_true,ne_eq];done) | (intros;simp_all;done) | exact True.intro) ?_)
     have hz2:=Option.some.inj hz2;subst hz2
     refine And.intro rfl (Fit2.of (Zp hU rfl rfl ?_) (by omega))
     simp only [push_cast,Nat.reduceAdd,Nat.reduceSub,Nat.reduceMul,Nat.reduceLeDiff,Nat.reduceLT,Nat.reduceEqDiff,↓reduceIte,reduceCtorEq,Int.reduceBEq,Int.reduceBNe,Nat.reduceBEq,Int.reduceLE,Int.reduceLT,Int.reduceEq,Int.reduceNe,Int.reduceNeg,Nat.reduceDiv,Nat.reduceMod,Nat.reducePow,Za,c5,c6,c7,ax4,bx4,cx4,hN0,hN]
    replace hz2:=Zy c7 hz2
    try rw [c7] at c5
    try rw [c7] at c6
    refine Zb Zc (Z84 (Z63 [])) ?_
    simp only [push_cast,seval,Za,c5,c6,c7,hN0,hN]
    repeat (with_reducible refine And.intro (by first | (intro h0;simp only [h0];done) | (intro h0;simp only [h0,true_and,and_true,imp_self,implies_true,ne_eq];done) | (intros;simp_all;done) | exact True.intro) ?_)
    have hz2:=Option.some.inj hz2;subst hz2
    refine And.intro rfl (Fit2.of (Zp hU rfl rfl ?_) (by omega))
    simp only [push_cast,seval,Za,c5,c6,c7,hN0,hN]
   replace hz2:=Zy c6 hz2
   try rw [c6] at c5
   refine Zb Zc (Z84 (Z63 [])) ?_
   simp only [push_cast,seval,Za,c5,c6,hN0,hN]
   repeat (with_reducible refine And.intro (by first | (intro h0;simp only [h0];done) | (intro h0;simp only [h0,true_and,and_true,imp_self,implies_true,ne_eq];done) | (intros;simp_all;done) | exact True.intro) ?_)
   have hz2:=Option.some.inj hz2;subst hz2
   refine And.intro rfl (Fit2.of (Zp hU rfl rfl ?_) (by omega))
   simp only [push_cast,seval,Za,c5,c6,hN0,hN]
  replace hz2:=Zy c5 hz2
  refine Zb Zc (Z84 (Z63 [])) ?_
  simp only [push_cast,seval,Za,c5,hN0,hN]
  repeat (with_reducible refine And.intro (by first | (intro h0;simp only [h0];done) | (intro h0;simp only [h0,true_and,and_true,imp_self,implies_true,ne_eq];done) | (intros;simp_all;done) | exact True.intro) ?_)
  have hz2:=Option.some.inj hz2;subst hz2
  refine And.intro rfl (Fit2.of (Zp hU rfl rfl ?_) (by omega))
  simp only [push_cast,seval,Za,c5,hN0,hN]
 refine Zv ?_
 try simp only [Zh,Ze]
 have h:=Option.some.inj h;subst h
 refine Zo (.inr rfl) hU [.val (.bool z2)] (by omega) ?_
 simp only [push_cast,seval,Za,Try.results109,hN0,hN]
end Go.Proofs.Ytaddaloondpnkaa
