/- Part UM5 of this seat's mirrors: functions of the seat's program, and the plain functions that they are; each theorem bears its own conditions. -/
import Derived.Test.YtaddaloondpnkaaUM3
namespace Go.Proofs.Ytaddaloondpnkaa
open Go.RowKit
set_option linter.unusedVariables false
set_option linter.unusedSimpArgs false
set_option maxRecDepth 100000
set_option maxHeartbeats 4000000
attribute [local push_cast] Qj Zm Z0 Yj Yp Zk Zh Ze Xi Zbs Zaj Znf Zjf Zen Zer Zem Zeq Zhi Zhd Zep Zhh Zhg Zhf Zeo Zhc Zc6 evS wok Q6 Op.operands Call.operands gop atK List.all_cons List.all_nil Bool.and_self Value.oneCell' List.take_zero List.take_succ_cons List.take_nil List.drop_zero List.drop_succ_cons List.drop_nil List.append_nil Nat.add_zero Nat.zero_add Vp Yh ev Qs Zf4 Zkk Zkj Zkp Zkn Zko Zkl Zkm Zki Zo2 Zp0 Ztj Ze2 Gr Ze0 Zas Zef Zcx Zbd Zbi Zcr Zcn Zbg Zcq Zcp Zco Zbf Zcm Zbe Zbh Zai Zh6 Zcw Uf Zd5 Ug Zf5 Zez Zsb bLo bHi bMx Gs Zf3 Zu0 Zex Zgn Zbt Vi Zo6 Zu1 Zd4 Zbr Zu2 Gq Zxp Zgr Zgv Zgq Zgu Zk7 Zk3 Zk2 Zej Zgs Zk6 Zk5 Zk4 Zgt Zky Zk1 Zkx Zk0 Zp9 Zp6 Zp5 Zkz Zp7 Zp8 Zf6 Zm1 pop TK.isAgg Zk9 Zld Zk8 Zlc Zgz Zqk Zqg Zlb Zqj Zqi Zqh Zla Zqf G.under G.unders List.getD_cons_zero List.getD_cons_succ List.set_cons_zero List.set_cons_succ List.map_cons List.map_nil List.toList_toArray Array.toList_append Option.toArray_none Option.toArray_some Option.map_some Option.map_none Option.bind_some Option.bind_none List.getElem?_cons_zero List.getElem?_cons_succ List.getElem?_nil List.nil_append List.cons_append List.replicate_succ List.replicate_zero List.length_cons List.length_nil and_true true_and and_false false_and Bool.true_eq_false Bool.false_eq_true forall_const implies_true IntKind.bits ite_true ite_false eq_self or_false not_false_eq_true decide_eq_true_eq decide_eq_false_iff_not beq_iff_eq bne_iff_ne ne_eq beq_eq_false_iff_ne bne_eq_false_iff_eq beq_self_eq_true Option.some.injEq exists_eq_left' ge_iff_le gt_iff_lt Bool.not_true Bool.not_false imp_self cond_true cond_false Z5s Z5r Gk Zc9 Zae Zgg Qh Xl Option.join_some Nat.add_assoc Int.toNat_natCast eI eL Qk Zcv Zbj Zkt Zkr Zks Zyb Z0f Zg0 Zfv Zlm Zlk Zll Zua Zi2 Zrw Ziz Zou G.agg.injEq G.tup.injEq List.flatten_cons List.flatten_nil Nat.le_refl Bool.not_eq_true' Zmz Zds Zrr Z2h Zrq Z04 Zog Znn G.ren G.rens Zqs Zfk Zst Zkg Zkh G.fn.injEq Zj8 Zpu Zyw Zrp Zx3 Z2z Option.join_none V3 undef Zgo Zli Zqn Zc0 Zjx Zlj Zlg Zlh onB Zya Zo1 Zek Zqq Zoe Zqp Zg5 Zg4 Zg3 Zg2 Z0e Z0d Zu7 Zsd Vy Zt3 Zm2 Zyc Znq Zf2 Zgk Zce Zdi Z41 Zrf Zok Zrg Z42 Zrh Z43 Zri Z44 Zrj Z45 Zrk Z46 Zrl Z47 Zrm Zv2 Zlv Zv3 Zlw Zv4 Zlx Zv5 Zly Zv6 Zlz Zv7 Zl0 Zv8 Zl1 Zv9 Zl2 Zwa Zl3 Zwb Zl4 Zwc Zl5 U1 Zdd Zr8 Ziu Zwd Zl6 Za3 Zl7 Zwe Ziv Zwf Zl8 Zwg Zl9 Zwh Zma Zwi Ziw Zwj Zmb Zwk Zmc Zwl Zmd Zwm Zme Vz Zmf Zwn Zmg Zwo Zmh Zwp Zmi Zwq Zmj Zwr Zmk Zws Zml Zwt Zmm Zwu Zmn Zwv Zmo Zww Zmp Zwx Zmq Zwy Zmr Zwz Zms Zw0 Zmt Zw1 Zmu Zw2 Zmv Zw3 Zmw Zw4 Zmx Zps Zmy Zqy Zhl Zqz Zhm Zq0 Zhn Zq1 Zho Zq2 Zhp Zq3 Zhq Zq4 Zhr Zq5 Zhs Zq6 Zht Zq7 Zhu Zq8 Zhv Zq9 Zhw Zra Zhx Zrb Zhy Zrc Zhz Zrd Zh0 Zre Zh1 Zx Zbc Ztv Zub Zgf Zuh Zl Zj Y6
theorem Xq {a0:Int} {a1:Int} {a2:Int} {r:Int} {O:Objs} {n:Nat} (h:Yb a0 a1 a2=some r):GTo Try.prog 112 [.val (.int .u64 a0),.val (.int .i64 a1),.val (.int .i64 a2)] O n (.val (.int .i64 r)) O n:=by
 unfold Yb at h
 refine Yi Zc Try.call112 Try.func112 rfl (Nat.le_of_ble_eq_true rfl) (Nat.le_refl _) fun hU => ?_
 have hN0:O n=none:=hU.fresh _ (Nat.le_refl _)
 have hN:∀ k,O (n+k)=none:=fun k=>hU.fresh _ (Nat.le_add_right _ _)
 show W _ _ _ _ ⟨34,[],[(0,.val (.int .u64 a0)),(1,.val (.int .i64 a1)),(2,.val (.int .i64 a2))]⟩ (Z4 O n []) _
 refine Zn [0,1,2] (Zb Zc [] ?_)
 simp only [push_cast,seval,Za,hN0,hN]
 refine Zf ?_
 refine Zn [0,1,2,7] (Zb Zc [] ?_)
 simp only [push_cast,seval,Za,hN0,hN]
 refine Zg [0,1,2,7] [] ?_
 simp only [push_cast,seval]
 obtain ⟨z2,hz2,h⟩:=bC h
 refine Y2 (E':=⟨34,[],[(0,.val (.int .u64 z2)),(2,.val (.int .i64 a2))]⟩) (O':=(Z4 O n [])) (n0:=n) ?_ ?_
 ·refine Xp hz2 (fun s0_=>⟨34,[],[(0,.val (.int .u64 s0_.1)),(1,.val (.int .i64 a1)),(2,.val (.int .i64 a2)),(7,.val (.int .i64 s0_.2))]⟩) (fun s0_=>(Z4 O n [])) (fun z2=>JX 0 n (⟨34,[],[(0,.val (.int .u64 z2)),(2,.val (.int .i64 a2))]⟩:Env) (Z4 O n []) n) ?_
  intro s0_ x0_ hs0_
  unfold Vw at hs0_
  try dsimp only
  refine Zf ?_
  refine Zn [0,1,2,7,13] (Zb Zc [] ?_)
  simp only [push_cast,seval,Za,hN0,hN]
  refine Zq (t:=(decide (s0_.2 < a1))) rfl (fun c1 => ?_) (fun c1 => ?_)
  ·replace hs0_:=Zz c1 hs0_
   refine Zt ?_
   try simp only [Zh,Ze]
   refine Zg [0,1,2,7] [] ?_
   simp only [push_cast,seval]
   refine Zf ?_
   refine Yl ?_
   refine Zb Zc [] ?_
   simp only [push_cast,seval,Za,hN0,hN]
   refine Zg [0,1,2,7] [] ?_
   simp only [push_cast,seval]
   refine Zb Zc [] ?_
   simp only [push_cast,seval,Za,hN0,hN]
   have hs0_:=Option.some.inj hs0_;subst hs0_
   refine And.intro rfl (Fit2.of (Zp hU rfl rfl ?_) (by omega))
   simp only [push_cast,seval,Za,hN0,hN]
  replace hs0_:=Zy c1 hs0_
  refine X9 ?_
  try simp only [Zh,Ze,↓reduceIte,Nat.reduceEqDiff]
  have hs0_:=Option.some.inj hs0_;subst hs0_
  refine And.intro (fun h=>by cases h) (And.intro rfl (Fit2.of (Zp hU rfl rfl ?_) (by omega)))
  simp only [push_cast,seval,Za,hN0,hN]
 try simp only [Zh,Ze,↓reduceIte,Nat.reduceEqDiff]
 refine Zg [0,2] [] ?_
 simp only [push_cast,seval]
 refine Zn [0,2,8,9] (Zb Zc [] ?_)
 simp only [push_cast,seval,Za,hN0,hN]
 refine Zf ?_
 refine Zn [0,2,8,9,10] (Zb Zc [] ?_)
 simp only [push_cast,seval,Za,hN0,hN]
 refine Zg [0,2,8,9,10] [] ?_
 simp only [push_cast,seval]
 obtain ⟨z6,hz6,h⟩:=bC h
 refine Y2 (E':=⟨34,[],[(8,.val (.int .i64 z6))]⟩) (O':=(Z4 O n [])) (n0:=n) ?_ ?_
 ·refine Xp hz6 (fun s1_=>⟨34,[],[(0,.val (.int .u64 s1_.1)),(2,.val (.int .i64 a2)),(8,.val (.int .i64 s1_.2.1)),(9,.val (.int .i64 s1_.2.2.1)),(10,.val (.int .i64 s1_.2.2.2))]⟩) (fun s1_=>(Z4 O n [])) (fun z6=>JX 2 n (⟨34,[],[(8,.val (.int .i64 z6))]⟩:Env) (Z4 O n []) n) ?_
  intro s1_ x1_ hs1_
  unfold Vx at hs1_
  try dsimp only
  refine Zf ?_
  refine Zn [0,2,8,9,10,20] (Zb Zc [] ?_)
  simp only [push_cast,seval,Za,hN0,hN]
  refine Zq (t:=(decide (s1_.2.2.2 < a2))) rfl (fun c5 => ?_) (fun c5 => ?_)
  ·replace hs1_:=Zz c5 hs1_
   refine Zt ?_
   try simp only [Zh,Ze]
   refine Zg [0,2,8,9,10] [] ?_
   simp only [push_cast,seval]
   refine Zf ?_
   refine Yl ?_
   obtain ⟨z3,hz3,hs1_⟩:=bC hs1_
   refine Yt (E':=⟨34,[],[(0,.val (.int .u64 s1_.1)),(2,.val (.int .i64 a2)),(8,.val (.int .i64 z3)),(9,.val (.int .i64 s1_.2.2.1)),(10,.val (.int .i64 s1_.2.2.2))]⟩) (O':=(Z4 O n [])) (n0:=n) ?_ ?_
   ·refine Zn [0,2,8,9,10,25] (Zb Zc [] ?_)
    simp only [push_cast,seval,Za,hN0,hN]
    refine Zq (t:=((Int.tmod s1_.1 2) == 1)) rfl (fun c4 => ?_) (fun c4 => ?_)
    ·replace hz3:=Zz c4 hz3
     refine Zb Zc [] ?_
     simp only [push_cast,seval,Za,hN0,hN]
     have hz3:=Option.some.inj hz3;subst hz3
     refine And.intro rfl (Fit2.of (Zp hU rfl rfl ?_) (by omega))
     simp only [push_cast,seval,Za,hN0,hN]
    replace hz3:=Zy c4 hz3
    refine Zt ?_
    try simp only [Zh,Ze]
    have hz3:=Option.some.inj hz3;subst hz3
    refine And.intro rfl (Fit2.of (Zp hU rfl rfl ?_) (by omega))
    simp only [push_cast,seval,Za,hN0,hN]
   refine Zn [0,2,8,9,10] (Zb Zc [] ?_)
   simp only [push_cast,seval,Za,hN0,hN]
   refine Zb Zc [] ?_
   simp only [push_cast,seval,Za,hN0,hN]
   refine Zg [0,2,8,9,10] [] ?_
   simp only [push_cast,seval]
   refine Zb Zc [] ?_
   simp only [push_cast,seval,Za,hN0,hN]
   have hs1_:=Option.some.inj hs1_;subst hs1_
   refine And.intro rfl (Fit2.of (Zp hU rfl rfl ?_) (by omega))
   simp only [push_cast,seval,Za,hN0,hN]
  replace hs1_:=Zy c5 hs1_
  refine X9 ?_
  try simp only [Zh,Ze,↓reduceIte,Nat.reduceEqDiff]
  have hs1_:=Option.some.inj hs1_;subst hs1_
  refine And.intro (fun h=>by cases h) (And.intro rfl (Fit2.of (Zp hU rfl rfl ?_) (by omega)))
  simp only [push_cast,seval,Za,hN0,hN]
 try simp only [Zh,Ze,↓reduceIte,Nat.reduceEqDiff]
 refine Zg [8] [] ?_
 simp only [push_cast,seval]
 refine Zn [6] (Zb Zc [] ?_)
 simp only [push_cast,seval,Za,hN0,hN]
 refine Zv ?_
 try simp only [Zh,Ze]
 have h:=Option.some.inj h;subst h
 refine Zo (.inr rfl) hU [.val (.int .i64 z6)] (by omega) ?_
 simp only [push_cast,seval,Za,Try.results112,hN0,hN]
theorem Qp {a0:Int} {r:Z8} {O:Objs} {n:Nat} (h:Xd a0=some r):GTo Try.prog 71 [.val (.int .u64 a0)] O n (.agg (Yp r)) O n:=by
 unfold Xd at h
 refine Yi Zc Try.call71 Try.func71 rfl (Nat.le_of_ble_eq_true rfl) (Nat.le_refl _) fun hU => ?_
 have hN0:O n=none:=hU.fresh _ (Nat.le_refl _)
 have hN:∀ k,O (n+k)=none:=fun k=>hU.fresh _ (Nat.le_add_right _ _)
 show W _ _ _ _ ⟨42,[],[(0,.val (.int .u64 a0))]⟩ (Z4 O n []) _
 refine Zn [0,2] (Zb Zc [] ?_)
 simp only [push_cast,seval,Za,hN0,hN]
 refine Zf ?_
 refine Zn [0,2,5] (Zb Zc [] ?_)
 simp only [push_cast,seval,Za,hN0,hN]
 refine Zq (t:=(a0 == 0)) rfl (fun c24 => ?_) (fun c24 => ?_)
 ·replace h:=Zz c24 h
  refine Zf ?_
  refine Zb Zc [] ?_
  simp only [push_cast,seval,Za,hN0,hN]
  refine Zg [2] [true] ?_
  simp only [push_cast,seval]
  refine Zv ?_
  try simp only [Zh,Ze]
  have h:=Option.some.inj h;subst h
  refine Zo (.inr rfl) hU [.agg [.val (.int .i64 0),.val (.int .i64 0),.val (.int .i64 0),.val (.int .i64 0),.val (.int .i64 0),.val (.int .i64 0),.val (.int .i64 0),.val (.bool false)]] (by omega) ?_
  simp only [push_cast,seval,Za,Try.results71,hN0,hN]
 replace h:=Zy c24 h
 refine Zt ?_
 try simp only [Zh,Ze]
 refine Zg [0,2] [true] ?_
 simp only [push_cast,seval]
 refine Zf ?_
 obtain ⟨y2,hy2,h⟩:=bC h
 refine Zb Zc [] ?_
 simp only [push_cast,seval,Za,hN0,hN]
 refine (Xq hy2).then ?_
 simp only [push_cast,seval,Za,hN0,hN]
 refine Zg [0,2,3] [true] ?_
 simp only [push_cast,seval]
 obtain ⟨z3,hz3,h⟩:=bC h
 refine Yt (E':=⟨42,[],[(0,.val (.int .u64 a0)),(2,.ref n 0),(3,.val (.int .i64 z3))]⟩) (O':=(Z4 O n [some ⟨false,125,8,1,[.val (.int .i64 0),.val (.int .i64 0),.val (.int .i64 0),.val (.int .i64 0),.val (.int .i64 0),.val (.int .i64 0),.val (.int .i64 0),.val (.bool false)]⟩])) (n0:=(n+1)) ?_ ?_
 ·refine Zn [0,2,3,10] (Zb Zc [] ?_)
  simp only [push_cast,seval,Za,hN0,hN]
  refine Zq (t:=(decide (536870912≤y2))) rfl (fun c4 => ?_) (fun c4 => ?_)
  ·replace hz3:=Zz c4 hz3
   refine Zb Zc [] ?_
   simp only [push_cast,seval,Za,hN0,hN]
   have hz3:=Option.some.inj hz3;subst hz3
   refine And.intro rfl (Fit2.of (Zp hU rfl rfl ?_) (by omega))
   simp only [push_cast,seval,Za,hN0,hN]
  replace hz3:=Zy c4 hz3
  refine Zt ?_
  try simp only [Zh,Ze]
  have hz3:=Option.some.inj hz3;subst hz3
  refine And.intro rfl (Fit2.of (Zp hU rfl rfl ?_) (by omega))
  simp only [push_cast,seval,Za,hN0,hN]
 refine Zf ?_
 refine Zf ?_
 obtain ⟨y6,hy6,h⟩:=bC h
 refine Zb Zc [] ?_
 simp only [push_cast,seval,Za,hN0,hN]
 refine (Xq hy6).then ?_
 simp only [push_cast,seval,Za,hN0,hN]
 refine Zg [0,2,3,14] [true] ?_
 simp only [push_cast,seval]
 refine Yl ?_
 refine Zn [0,2,3,14,15] (Zb Zc [] ?_)
 simp only [push_cast,seval,Za,hN0,hN]
 refine Zq (t:=(y6 == 0)) rfl (fun c23 => ?_) (fun c23 => ?_)
 ·replace h:=Zz c23 h
  refine Zf ?_
  obtain ⟨y9,hy9,h⟩:=bC h
  obtain ⟨y10,hy10,h⟩:=bC h
  refine Zb Zc [] ?_
  simp only [push_cast,seval,Za,hN0,hN]
  refine (Xq hy9).then ?_
  simp only [push_cast,seval,Za,hN0,hN]
  refine (Xq hy10).then ?_
  simp only [push_cast,seval,Za,hN0,hN]
  refine Zg [2] [true] ?_
  simp only [push_cast,seval]
  refine Zv ?_
  try simp only [Zh,Ze]
  have h:=Option.some.inj h;subst h
  refine Zo (.inr rfl) hU [.agg [.val (.int .i64 1),.val (.int .i64 z3),.val (.int .i64 y9),.val (.int .i64 y10),.val (.int .i64 0),.val (.int .i64 0),.val (.int .i64 0),.val (.bool false)]] (by omega) ?_
  simp only [push_cast,seval,Za,Try.results71,hN0,hN]
 replace h:=Zy c23 h
 refine Zn [0,2,3,14,23] (Zb Zc [] ?_)
 simp only [push_cast,seval,Za,hN0,hN]
 refine Zq (t:=(y6 == 1)) rfl (fun c22 => ?_) (fun c22 => ?_)
 ·replace h:=Zz c22 h
  refine Zf ?_
  obtain ⟨y13,hy13,h⟩:=bC h
  obtain ⟨y14,hy14,h⟩:=bC h
  refine Zb Zc [] ?_
  simp only [push_cast,seval,Za,hN0,hN]
  refine (Xq hy13).then ?_
  simp only [push_cast,seval,Za,hN0,hN]
  refine (Xq hy14).then ?_
  simp only [push_cast,seval,Za,hN0,hN]
  refine Zg [2] [true] ?_
  simp only [push_cast,seval]
  refine Zv ?_
  try simp only [Zh,Ze]
  have h:=Option.some.inj h;subst h
  refine Zo (.inr rfl) hU [.agg [.val (.int .i64 2),.val (.int .i64 z3),.val (.int .i64 0),.val (.int .i64 0),.val (.int .i64 y13),.val (.int .i64 y14),.val (.int .i64 0),.val (.bool false)]] (by omega) ?_
  simp only [push_cast,seval,Za,Try.results71,hN0,hN]
 replace h:=Zy c22 h
 refine Zn [0,2,31] (Zb Zc [] ?_)
 simp only [push_cast,seval,Za,hN0,hN]
 refine Zq (t:=(y6 == 2)) rfl (fun c21 => ?_) (fun c21 => ?_)
 ·replace h:=Zz c21 h
  refine Zf ?_
  obtain ⟨y18,hy18,h⟩:=bC h
  obtain ⟨y19,hy19,h⟩:=bC h
  obtain ⟨y20,hy20,h⟩:=bC h
  refine Zb Zc [] ?_
  simp only [push_cast,seval,Za,hN0,hN]
  refine (Xq hy18).then ?_
  simp only [push_cast,seval,Za,hN0,hN]
  refine (Xq hy19).then ?_
  simp only [push_cast,seval,Za,hN0,hN]
  refine (Xq hy20).then ?_
  simp only [push_cast,seval,Za,hN0,hN]
  refine Zg [2] [true] ?_
  simp only [push_cast,seval]
  refine Zv ?_
  try simp only [Zh,Ze]
  have h:=Option.some.inj h;subst h
  refine Zo (.inr rfl) hU [.agg [.val (.int .i64 3),.val (.int .i64 y18),.val (.int .i64 0),.val (.int .i64 0),.val (.int .i64 0),.val (.int .i64 0),.val (.int .i64 y19),.val (.bool (y20 == 1))]] (by omega) ?_
  simp only [push_cast,seval,Za,Try.results71,hN0,hN]
 replace h:=Zy c21 h
 refine Zt ?_
 try simp only [Zh,Ze]
 refine Zg [2] [true] ?_
 simp only [push_cast,seval]
 refine Zf ?_
 refine Zb Zc [] ?_
 simp only [push_cast,seval,Za,hN0,hN]
 refine Zg [2] [true] ?_
 simp only [push_cast,seval]
 refine Zv ?_
 try simp only [Zh,Ze]
 have h:=Option.some.inj h;subst h
 refine Zo (.inr rfl) hU [.agg [.val (.int .i64 4),.val (.int .i64 0),.val (.int .i64 0),.val (.int .i64 0),.val (.int .i64 0),.val (.int .i64 0),.val (.int .i64 0),.val (.bool false)]] (by omega) ?_
 simp only [push_cast,seval,Za,Try.results71,hN0,hN]
theorem Zdy {a0:Z8} {r:Int} {O:Objs} {n:Nat} (h:Jc a0=some r):GTo Try.prog 110 [.agg (Yp a0)] O n (.val (.int .i64 r)) O n:=by
 unfold Jc at h
 refine Yi Zc Try.call110 Try.func110 rfl (Nat.le_of_ble_eq_true rfl) (Nat.le_refl _) fun hU => ?_
 have hN0:O n=none:=hU.fresh _ (Nat.le_refl _)
 have hN:∀ k,O (n+k)=none:=fun k=>hU.fresh _ (Nat.le_add_right _ _)
 show W _ _ _ _ ⟨14,[],[(0,.agg (Yp a0))]⟩ (Z4 O n []) _
 refine Zn [1] (Zb Zc [] ?_)
 simp only [push_cast,seval,Za,hN0,hN]
 refine Zf ?_
 refine Zn [1,5] (Zb Zc [] ?_)
 simp only [push_cast,seval,Za,hN0,hN]
 refine Zq (t:=(a0.Kind == 4)) rfl (fun c2 => ?_) (fun c2 => ?_)
 ·replace h:=Zz c2 h
  refine Zn [2] (Zb Zc [] ?_)
  simp only [push_cast,seval,Za,hN0,hN]
  refine Zv ?_
  try simp only [Zh,Ze]
  have h:=Option.some.inj h;subst h
  refine Zo (.inr rfl) hU [.val (.int .i64 9)] (by omega) ?_
  simp only [push_cast,seval,Za,Try.results110,hN0,hN]
 replace h:=Zy c2 h
 refine Zt ?_
 try simp only [Zh,Ze]
 refine Zg [1] [true] ?_
 simp only [push_cast,seval]
 refine Zf ?_
 refine Zn [13] (Zb Zc [none,none,none] ?_)
 simp only [push_cast,seval,Za,hN0,hN]
 repeat (with_reducible refine And.intro (by first | (intro h0;simp only [h0];done) | (intro h0;simp only [h0,true_and,and_true,imp_self,implies_true,bne_iff_ne,ne_eq];done) | (intros;simp_all;done) | exact True.intro) ?_)
 refine Zq (t:=(cond (a0.Kind != 1) (a0.Kind != 2) false)) rfl (fun c1 => ?_) (fun c1 => ?_)
 ·replace h:=Zz c1 h
  refine Zn [2] (Zb Zc [] ?_)
  simp only [push_cast,seval,Za,hN0,hN]
  refine Zv ?_
  try simp only [Zh,Ze]
  have h:=Option.some.inj h;subst h
  refine Zo (.inr rfl) hU [.val (.int .i64 8)] (by omega) ?_
  simp only [push_cast,seval,Za,Try.results110,hN0,hN]
 replace h:=Zy c1 h
 refine Zt ?_
 try simp only [Zh,Ze]
 refine Zg [] [false] ?_
 simp only [push_cast,seval]
 refine Zn [2] (Zb Zc [] ?_)
 simp only [push_cast,seval,Za,hN0,hN]
 refine Zv ?_
 try simp only [Zh,Ze]
 have h:=Option.some.inj h;subst h
 refine Zo (.inr rfl) hU [.val (.int .i64 0)] (by omega) ?_
 simp only [push_cast,seval,Za,Try.results110,hN0,hN]
theorem Zm5 {a0:Z8} {r:Int} {O:Objs} {n:Nat} (h:Vr a0=some r):GTo Try.prog 130 [.agg (Yp a0)] O n (.val (.int .i64 r)) O n:=by
 unfold Vr at h
 refine Yi Zc Try.call130 Try.func130 rfl (Nat.le_of_ble_eq_true rfl) (Nat.le_refl _) fun hU => ?_
 have hN0:O n=none:=hU.fresh _ (Nat.le_refl _)
 have hN:∀ k,O (n+k)=none:=fun k=>hU.fresh _ (Nat.le_add_right _ _)
 show W _ _ _ _ ⟨65,[],[(0,.agg (Yp a0))]⟩ (Z4 O n []) _
 refine Zn [1] (Zb Zc [] ?_)
 simp only [push_cast,seval,Za,hN0,hN]
 refine Zf ?_
 refine Zn [1,6] (Zb Zc [] ?_)
 simp only [push_cast,seval,Za,hN0,hN]
 refine Zq (t:=(a0.Kind == 1)) rfl (fun c17 => ?_) (fun c17 => ?_)
 ·replace h:=Zz c17 h
  refine Zn [2] (Zb Zc [] ?_)
  simp only [push_cast,seval,Za,hN0,hN]
  refine Zv ?_
  try simp only [Zh,Ze]
  have h:=Option.some.inj h;subst h
  refine Zo (.inr rfl) hU [.val (.int .i64 (IntKind.i64.wrap (a0.Data+a0.Ptrs)))] (by omega) ?_
  simp only [push_cast,seval,Za,Try.results130,hN0,hN]
 replace h:=Zy c17 h
 refine Zt ?_
 try simp only [Zh,Ze]
 refine Zg [1] [true] ?_
 simp only [push_cast,seval]
 refine Zf ?_
 refine Zn [1,14] (Zb Zc [] ?_)
 simp only [push_cast,seval,Za,hN0,hN]
 refine Zq (t:=(a0.Kind != 2)) rfl (fun c16 => ?_) (fun c16 => ?_)
 ·replace h:=Zz c16 h
  refine Zn [2] (Zb Zc [] ?_)
  simp only [push_cast,seval,Za,hN0,hN]
  refine Zv ?_
  try simp only [Zh,Ze]
  have h:=Option.some.inj h;subst h
  refine Zo (.inr rfl) hU [.val (.int .i64 (-1))] (by omega) ?_
  simp only [push_cast,seval,Za,Try.results130,hN0,hN]
 replace h:=Zy c16 h
 refine Zt ?_
 try simp only [Zh,Ze]
 refine Zg [1] [true] ?_
 simp only [push_cast,seval]
 refine Zf ?_
 refine Zn [1,17] (Zb Zc [] ?_)
 simp only [push_cast,seval,Za,hN0,hN]
 refine Zq (t:=(a0.Code == 7)) rfl (fun c15 => ?_) (fun c15 => ?_)
 ·replace h:=Zz c15 h
  refine Zn [2] (Zb Zc [] ?_)
  simp only [push_cast,seval,Za,hN0,hN]
  refine Zv ?_
  try simp only [Zh,Ze]
  have h:=Option.some.inj h;subst h
  refine Zo (.inr rfl) hU [.val (.int .i64 (IntKind.i64.wrap (a0.Count+1)))] (by omega) ?_
  simp only [push_cast,seval,Za,Try.results130,hN0,hN]
 replace h:=Zy c15 h
 refine Zt ?_
 try simp only [Zh,Ze]
 refine Zg [1] [true] ?_
 simp only [push_cast,seval]
 refine Zf ?_
 refine Zn [1,38] (Zb Zc [none,none,none,none,none,none,none,none,none] ?_)
 simp only [push_cast,seval,Za,hN0,hN]
 repeat (with_reducible refine And.intro (by first | (intro h0;simp only [h0];done) | (intro h0;simp only [h0,true_and,and_true,imp_self,implies_true,ne_eq];done) | (intros;simp_all;done) | exact True.intro) ?_)
 refine Zq (t:=(cond (cond (cond (decide (a0.Code < 0)) true (decide (6 < a0.Code))) true (decide (a0.Count < 0))) true (decide (536870912≤a0.Count)))) rfl (fun c14 => ?_) (fun c14 => ?_)
 ·replace h:=Zz c14 h
  refine Zn [2] (Zb Zc [] ?_)
  simp only [push_cast,seval,Za,hN0,hN]
  refine Zv ?_
  try simp only [Zh,Ze]
  have h:=Option.some.inj h;subst h
  refine Zo (.inr rfl) hU [.val (.int .i64 (-1))] (by omega) ?_
  simp only [push_cast,seval,Za,Try.results130,hN0,hN]
 replace h:=Zy c14 h
 refine Zt ?_
 try simp only [Zh,Ze]
 refine Zg [1] [true] ?_
 simp only [push_cast,seval]
 refine Zn [1,3] (Zb Zc [] ?_)
 simp only [push_cast,seval,Za,hN0,hN]
 obtain ⟨z1,hz1,h⟩:=bC h
 refine Z5j (J:=(Qu (fun z1=>JN n (⟨65,[],[(1,.ref n 0),(3,.val (.int .i64 z1))]⟩:Env) (Z4 O n [some ⟨false,125,8,1,(Yp a0)⟩]) (n+1)) (fun z1=>JR n (⟨65,[],[(2,.val (.int .i64 0))]⟩:Env) (Z4 O n [none]) (n+1)))) (z:=z1) ?_ fun hw => ?_
 ·refine Zn [1,3,40] (Zb Zc [] ?_)
  simp only [push_cast,seval,Za,hN0,hN]
  refine Yl ?_
  refine Zn [1,3,40,41] (Zb Zc [] ?_)
  simp only [push_cast,seval,Za,hN0,hN]
  refine Zq (t:=(a0.Code == 0)) rfl (fun c6 => ?_) (fun c6 => ?_)
  ·replace hz1:=Zz c6 hz1
   refine Zn [2] (Zb Zc [] ?_)
   simp only [push_cast,seval,Za,hN0,hN]
   refine Zv ?_
   try simp only [Zh,Ze]
   have hz1:=Option.some.inj hz1;subst hz1
   refine And.intro rfl (Fit2.of (Zp hU rfl rfl ?_) (by omega))
   simp only [push_cast,seval,Za,hN0,hN]
  replace hz1:=Zy c6 hz1
  refine Zn [1,3,40,43] (Zb Zc [] ?_)
  simp only [push_cast,seval,Za,hN0,hN]
  refine Zq (t:=(a0.Code == 1)) rfl (fun c5 => ?_) (fun c5 => ?_)
  ·replace hz1:=Zz c5 hz1
   refine Zb Zc [] ?_
   simp only [push_cast,seval,Za,hN0,hN]
   have hz1:=Option.some.inj hz1;subst hz1
   refine And.intro rfl (Fit2.of (Zp hU rfl rfl ?_) (by omega))
   simp only [push_cast,seval,Za,hN0,hN]
  replace hz1:=Zy c5 hz1
  refine Zn [1,3,40,45] (Zb Zc [] ?_)
  simp only [push_cast,seval,Za,hN0,hN]
  refine Zq (t:=(a0.Code == 2)) rfl (fun c4 => ?_) (fun c4 => ?_)
  ·replace hz1:=Zz c4 hz1
   refine Zb Zc [] ?_
   simp only [push_cast,seval,Za,hN0,hN]
   have hz1:=Option.some.inj hz1;subst hz1
   refine And.intro rfl (Fit2.of (Zp hU rfl rfl ?_) (by omega))
   simp only [push_cast,seval,Za,hN0,hN]
  replace hz1:=Zy c4 hz1
  refine Zn [1,3,40,47] (Zb Zc [] ?_)
  simp only [push_cast,seval,Za,hN0,hN]
  refine Zq (t:=(a0.Code == 3)) rfl (fun c3 => ?_) (fun c3 => ?_)
  ·replace hz1:=Zz c3 hz1
   refine Zb Zc [] ?_
   simp only [push_cast,seval,Za,hN0,hN]
   have hz1:=Option.some.inj hz1;subst hz1
   refine And.intro rfl (Fit2.of (Zp hU rfl rfl ?_) (by omega))
   simp only [push_cast,seval,Za,hN0,hN]
  replace hz1:=Zy c3 hz1
  refine Zn [1,3,49] (Zb Zc [] ?_)
  simp only [push_cast,seval,Za,hN0,hN]
  refine Zq (t:=(a0.Code == 4)) rfl (fun c2 => ?_) (fun c2 => ?_)
  ·replace hz1:=Zz c2 hz1
   refine Zb Zc [] ?_
   simp only [push_cast,seval,Za,hN0,hN]
   have hz1:=Option.some.inj hz1;subst hz1
   refine And.intro rfl (Fit2.of (Zp hU rfl rfl ?_) (by omega))
   simp only [push_cast,seval,Za,hN0,hN]
  replace hz1:=Zy c2 hz1
  refine Zt ?_
  try simp only [Zh,Ze]
  have hz1:=Option.some.inj hz1;subst hz1
  refine And.intro rfl (Fit2.of (Zp hU rfl rfl ?_) (by omega))
  simp only [push_cast,seval,Za,hN0,hN]
 rcases z1 with z1 | z1
 ·dsimp only [Qu] at hw h
  refine Yt hw ?_
  refine Zf ?_
  obtain ⟨pu8,h⟩:=bG h
  refine Zn [1,3,55] (Zb Zc [] ?_)
  simp only [push_cast,seval,Za,pu8,hN0,hN]
  refine Zq (t:=(decide (0 < (Int.tmod a0.Count z1)))) rfl (fun c13 => ?_) (fun c13 => ?_)
  ·replace h:=Zz c13 h
   obtain ⟨pu10,h⟩:=bG h
   refine Zn [2] (Zb Zc [] ?_)
   simp only [push_cast,seval,Za,pu10,hN0,hN]
   refine Zv ?_
   try simp only [Zh,Ze]
   have h:=Option.some.inj h;subst h
   refine Zo (.inr rfl) hU [.val (.int .i64 (IntKind.i64.wrap ((IntKind.i64.wrap (Int.tdiv a0.Count z1))+1)))] (by omega) ?_
   simp only [push_cast,seval,Za,Try.results130,hN0,hN]
  replace h:=Zy c13 h
  refine Zt ?_
  try simp only [Zh,Ze]
  refine Zg [1,3] [true] ?_
  simp only [push_cast,seval]
  obtain ⟨pu12,h⟩:=bG h
  refine Zn [2] (Zb Zc [] ?_)
  simp only [push_cast,seval,Za,pu12,hN0,hN]
  refine Zv ?_
  try simp only [Zh,Ze]
  have h:=Option.some.inj h;subst h
  refine Zo (.inr rfl) hU [.val (.int .i64 (IntKind.i64.wrap (Int.tdiv a0.Count z1)))] (by omega) ?_
  simp only [push_cast,seval,Za,Try.results130,hN0,hN]
 dsimp only [Qu] at hw h
 refine Z08 hw ?_
 try simp only [Zh,Ze]
 have h:=Option.some.inj h;subst h
 refine Zo (.inr rfl) hU [.val (.int .i64 0)] (by omega) ?_
 simp only [push_cast,seval,Za,Try.results130,hN0,hN]
theorem Zdz {a0:(List (List Int))} {a1:Yd} {r:(Yd×Int)} {O:Objs} {n:Nat} (h:Jd a0 a1=some r):GTo Try.prog 111 [.sl a0.length (fl (eL (eI .u64)) a0),.agg [.val (.int .i64 a1.P.Kind),.val (.int .i64 a1.P.Off),.val (.int .i64 a1.P.Data),.val (.int .i64 a1.P.Ptrs),.val (.int .i64 a1.P.Code),.val (.int .i64 a1.P.Count),.val (.int .i64 a1.P.Segment),.val (.bool a1.P.Double),.val (.int .i64 a1.Segment),.val (.int .i64 a1.At)]] O n (.tup [.agg [.val (.int .i64 r.1.P.Kind),.val (.int .i64 r.1.P.Off),.val (.int .i64 r.1.P.Data),.val (.int .i64 r.1.P.Ptrs),.val (.int .i64 r.1.P.Code),.val (.int .i64 r.1.P.Count),.val (.int .i64 r.1.P.Segment),.val (.bool r.1.P.Double),.val (.int .i64 r.1.Segment),.val (.int .i64 r.1.At)],.val (.int .i64 r.2)]) O n:=by
 unfold Jd at h
 refine Yi Zc Try.call111 Try.func111 rfl (Nat.le_of_ble_eq_true rfl) (Nat.le_refl _) fun hU => ?_
 have hN0:O n=none:=hU.fresh _ (Nat.le_refl _)
 have hN:∀ k,O (n+k)=none:=fun k=>hU.fresh _ (Nat.le_add_right _ _)
 show W _ _ _ _ ⟨53,[],[(0,.sl a0.length (fl (eL (eI .u64)) a0)),(1,.agg [.val (.int .i64 a1.P.Kind),.val (.int .i64 a1.P.Off),.val (.int .i64 a1.P.Data),.val (.int .i64 a1.P.Ptrs),.val (.int .i64 a1.P.Code),.val (.int .i64 a1.P.Count),.val (.int .i64 a1.P.Segment),.val (.bool a1.P.Double),.val (.int .i64 a1.Segment),.val (.int .i64 a1.At)])]⟩ (Z4 O n []) _
 refine Zn [0,3,4] (Zb Zc [] ?_)
 simp only [push_cast,seval,Za,hN0,hN]
 refine Zf ?_
 obtain ⟨y2,hy2,h⟩:=bC h
 refine Zb Zc [] ?_
 simp only [push_cast,seval,Za,hN0,hN]
 refine (Zm5 hy2).then ?_
 simp only [push_cast,seval,Za,hN0,hN]
 refine Zg [0,3,4,6] [true,true] ?_
 simp only [push_cast,seval]
 refine Zf ?_
 obtain ⟨z5,hz5,h⟩:=bC h
 refine Yt (E':=⟨53,[],[(3,.ref n 0),(4,.ref (n+1) 0),(48,.val (.bool z5))]⟩) (O':=(Z4 O n [some ⟨false,127,10,1,[.val (.int .i64 a1.P.Kind),.val (.int .i64 a1.P.Off),.val (.int .i64 a1.P.Data),.val (.int .i64 a1.P.Ptrs),.val (.int .i64 a1.P.Code),.val (.int .i64 a1.P.Count),.val (.int .i64 a1.P.Segment),.val (.bool a1.P.Double),.val (.int .i64 a1.Segment),.val (.int .i64 a1.At)]⟩,some ⟨false,127,10,1,[.val (.int .i64 0),.val (.int .i64 0),.val (.int .i64 0),.val (.int .i64 0),.val (.int .i64 0),.val (.int .i64 0),.val (.int .i64 0),.val (.bool false),.val (.int .i64 0),.val (.int .i64 0)]⟩])) (n0:=(n+2)) ?_ ?_
 ·rcases Bool.eq_false_or_eq_true (decide (a1.Segment < 0)) with c10 | c10
  ·replace hz5:=Zz c10 hz5
   refine Y1 Zc (by kernel_rfl) (Zqd (Z61 [])) (by kernel_rfl) ?_
   simp only [push_cast,seval,Za,c10,hN0,hN]
   repeat (with_reducible refine And.intro (by first | (intro h0;simp only [h0];done) | (intro h0;simp only [h0,Bool.not_true,true_and,and_true,imp_self,implies_true,ne_eq];done) | (intros;simp_all;done) | exact True.intro) ?_)
   have hz5:=Option.some.inj hz5;subst hz5
   refine And.intro rfl (Fit2.of (Zp hU rfl rfl ?_) (by omega))
   simp only [push_cast,seval,Za,c10,hN0,hN]
  replace hz5:=Zy c10 hz5
  rcases Bool.eq_false_or_eq_true (decide ((a0.length:Int)≤a1.Segment)) with c11 | c11
  ·replace hz5:=Zz c11 hz5
   try rw [c11] at c10
   refine Y1 Zc (by kernel_rfl) (Zqd (Z61 [])) (by kernel_rfl) ?_
   simp only [push_cast,seval,Za,c10,c11,hN0,hN]
   repeat (with_reducible refine And.intro (by first | (intro h0;simp only [h0];done) | (intro h0;simp only [h0,Bool.not_true,true_and,and_true,imp_self,implies_true,ne_eq];done) | (intros;simp_all;done) | exact True.intro) ?_)
   have hz5:=Option.some.inj hz5;subst hz5
   refine And.intro rfl (Fit2.of (Zp hU rfl rfl ?_) (by omega))
   simp only [push_cast,seval,Za,c10,c11,hN0,hN]
  replace hz5:=Zy c11 hz5
  try rw [c11] at c10
  rcases Bool.eq_false_or_eq_true (decide (a1.At < 0)) with c12 | c12
  ·replace hz5:=Zz c12 hz5
   try rw [c12] at c10
   try rw [c12] at c11
   refine Y1 Zc (by kernel_rfl) (Zqd (Z61 [])) (by kernel_rfl) ?_
   simp only [push_cast,seval,Za,c10,c11,c12,hN0,hN]
   repeat (with_reducible refine And.intro (by first | (intro h0;simp only [h0];done) | (intro h0;simp only [h0,Bool.not_true,true_and,and_true,imp_self,implies_true,ne_eq];done) | (intros;simp_all;done) | exact True.intro) ?_)
   have hz5:=Option.some.inj hz5;subst hz5
   refine And.intro rfl (Fit2.of (Zp hU rfl rfl ?_) (by omega))
   simp only [push_cast,seval,Za,c10,c11,c12,hN0,hN]
  replace hz5:=Zy c12 hz5
  try rw [c12] at c10
  try rw [c12] at c11
  obtain ⟨x8,hx8,ax8,bx8,cx8,hz5⟩:=bE (f:=(eL (eI .u64))) U1 (fun _=>rfl) (by decide) hz5
  rcases Bool.eq_false_or_eq_true (decide ((x8.length:Int) < a1.At)) with c13 | c13
  ·replace hz5:=Zz c13 hz5
   try rw [c13] at c10
   try rw [c13] at c11
   try rw [c13] at c12
   refine Y1 Zc (by kernel_rfl) (Zqd (Yef (Yag []))) (by kernel_rfl) ?_
   simp only [push_cast,Nat.reduceAdd,Nat.reduceSub,Nat.reduceMul,Nat.reduceLeDiff,Nat.reduceLT,Nat.reduceEqDiff,↓reduceIte,reduceCtorEq,Int.reduceBEq,Int.reduceBNe,Nat.reduceBEq,Int.reduceLE,Int.reduceLT,Int.reduceEq,Int.reduceNe,Int.reduceNeg,Nat.reduceDiv,Nat.reduceMod,Nat.reducePow,Za,c10,c11,c12,ax8,bx8,cx8,c13,hN0,hN]
   repeat (with_reducible refine And.intro (by first | (intro h0;simp only [h0];done) | (intro h0;simp only [h0,Bool.not_true,true_and,and_true,imp_self,implies_true,ne_eq];done) | (intros;simp_all;done) | exact True.intro) ?_)
   have hz5:=Option.some.inj hz5;subst hz5
   refine And.intro rfl (Fit2.of (Zp hU rfl rfl ?_) (by omega))
   simp only [push_cast,Nat.reduceAdd,Nat.reduceSub,Nat.reduceMul,Nat.reduceLeDiff,Nat.reduceLT,Nat.reduceEqDiff,↓reduceIte,reduceCtorEq,Int.reduceBEq,Int.reduceBNe,Nat.reduceBEq,Int.reduceLE,Int.reduceLT,Int.reduceEq,Int.reduceNe,Int.reduceNeg,Nat.reduceDiv,Nat.reduceMod,Nat.reducePow,Za,c10,c11,c12,ax8,bx8,cx8,c13,hN0,hN]
  replace hz5:=Zy c13 hz5
  try rw [c13] at c10
  try rw [c13] at c11
  try rw [c13] at c12
  refine Y1 Zc (by kernel_rfl) (Zqd (Ycp [])) (by kernel_rfl) ?_
  simp only [push_cast,Nat.reduceAdd,Nat.reduceSub,Nat.reduceMul,Nat.reduceLeDiff,Nat.reduceLT,Nat.reduceEqDiff,↓reduceIte,reduceCtorEq,Int.reduceBEq,Int.reduceBNe,Nat.reduceBEq,Int.reduceLE,Int.reduceLT,Int.reduceEq,Int.reduceNe,Int.reduceNeg,Nat.reduceDiv,Nat.reduceMod,Nat.reducePow,Za,c10,c11,c12,ax8,bx8,cx8,c13,hN0,hN]
  repeat (with_reducible refine And.intro (by first | (intro h0;simp only [h0];done) | (intro h0;simp only [h0,Bool.not_true,true_and,and_true,imp_self,implies_true,ne_eq];done) | (intros;simp_all;done) | exact True.intro) ?_)
  have hz5:=Option.some.inj hz5;subst hz5
  refine And.intro rfl (Fit2.of (Zp hU rfl rfl ?_) (by omega))
  simp only [push_cast,Nat.reduceAdd,Nat.reduceSub,Nat.reduceMul,Nat.reduceLeDiff,Nat.reduceLT,Nat.reduceEqDiff,↓reduceIte,reduceCtorEq,Int.reduceBEq,Int.reduceBNe,Nat.reduceBEq,Int.reduceLE,Int.reduceLT,Int.reduceEq,Int.reduceNe,Int.reduceNeg,Nat.reduceDiv,Nat.reduceMod,Nat.reducePow,Za,c10,c11,c12,ax8,bx8,cx8,c13,hN0,hN]
 refine Zq (t:=z5) rfl (fun c14 => ?_) (fun c14 => ?_)
 ·replace h:=Zz c14 h
  refine Zf ?_
  refine Zb Zc [] ?_
  simp only [push_cast,seval,Za,hN0,hN]
  refine Zg [4,5] [false,true] ?_
  simp only [push_cast,seval]
  refine Zv ?_
  try simp only [Zh,Ze]
  have h:=Option.some.inj h;subst h
  refine Zo (.inr rfl) hU [.agg [.val (.int .i64 0),.val (.int .i64 0),.val (.int .i64 0),.val (.int .i64 0),.val (.int .i64 0),.val (.int .i64 0),.val (.int .i64 0),.val (.bool false),.val (.int .i64 0),.val (.int .i64 0)],.val (.int .i64 7)] (by omega) ?_
  simp only [push_cast,seval,Za,Try.results111,hN0,hN]
 replace h:=Zy c14 h
 refine Zt ?_
 try simp only [Zh,Ze]
 refine Zg [3,4] [true,true] ?_
 simp only [push_cast,seval]
 refine Zf ?_
 refine Zb Zc [] ?_
 simp only [push_cast,seval,Za,hN0,hN]
 refine Zg [3,4] [true,true] ?_
 simp only [push_cast,seval]
 refine Zf ?_
 refine Zb Zc [] ?_
 simp only [push_cast,seval,Za,hN0,hN]
 refine Zg [4,5] [false,true] ?_
 simp only [push_cast,seval]
 refine Zv ?_
 try simp only [Zh,Ze]
 have h:=Option.some.inj h;subst h
 refine Zo (.inr rfl) hU [.agg [.val (.int .i64 a1.P.Kind),.val (.int .i64 0),.val (.int .i64 a1.P.Data),.val (.int .i64 a1.P.Ptrs),.val (.int .i64 a1.P.Code),.val (.int .i64 a1.P.Count),.val (.int .i64 a1.P.Segment),.val (.bool a1.P.Double),.val (.int .i64 a1.Segment),.val (.int .i64 a1.At)],.val (.int .i64 0)] (by omega) ?_
 simp only [push_cast,seval,Za,Try.results111,hN0,hN]
theorem Zjn {a0:(List (List Int))} {a1:Int} {a2:Int} {r:(Yd×Int)} {O:Objs} {n:Nat} (h:J5 a0 a1 a2=some r):GTo Try.prog 70 [.sl a0.length (fl (eL (eI .u64)) a0),.val (.int .i64 a1),.val (.int .i64 a2)] O n (.tup [.agg [.val (.int .i64 r.1.P.Kind),.val (.int .i64 r.1.P.Off),.val (.int .i64 r.1.P.Data),.val (.int .i64 r.1.P.Ptrs),.val (.int .i64 r.1.P.Code),.val (.int .i64 r.1.P.Count),.val (.int .i64 r.1.P.Segment),.val (.bool r.1.P.Double),.val (.int .i64 r.1.Segment),.val (.int .i64 r.1.At)],.val (.int .i64 r.2)]) O n:=by
 unfold J5 at h
 refine Yi Zc Try.call70 Try.func70 rfl (Nat.le_of_ble_eq_true rfl) (Nat.le_refl _) fun hU => ?_
 have hN0:O n=none:=hU.fresh _ (Nat.le_refl _)
 have hN:∀ k,O (n+k)=none:=fun k=>hU.fresh _ (Nat.le_add_right _ _)
 show W _ _ _ _ ⟨147,[],[(0,.sl a0.length (fl (eL (eI .u64)) a0)),(1,.val (.int .i64 a1)),(2,.val (.int .i64 a2))]⟩ (Z4 O n []) _
 refine Zn [0,1,2,6] (Zb Zc [] ?_)
 simp only [push_cast,seval,Za,hN0,hN]
 refine Zf ?_
 refine Zf ?_
 obtain ⟨y2,hy2,h⟩:=bC h
 refine Zb Zc [] ?_
 simp only [push_cast,seval,Za,hN0,hN]
 refine (V8 hy2).then ?_
 simp only [push_cast,seval,Za,hN0,hN]
 refine Zg [0,1,2,6,17] [true] ?_
 simp only [push_cast,seval]
 refine Zq (t:=(!y2)) rfl (fun c47 => ?_) (fun c47 => ?_)
 ·replace h:=Zz c47 h
  refine Zf ?_
  refine Zb Zc [] ?_
  simp only [push_cast,seval,Za,hN0,hN]
  refine Zg [6,7] [true] ?_
  simp only [push_cast,seval]
  refine Zv ?_
  try simp only [Zh,Ze]
  have h:=Option.some.inj h;subst h
  refine Zo (.inr rfl) hU [.agg [.val (.int .i64 0),.val (.int .i64 0),.val (.int .i64 0),.val (.int .i64 0),.val (.int .i64 0),.val (.int .i64 0),.val (.int .i64 0),.val (.bool false),.val (.int .i64 0),.val (.int .i64 0)],.val (.int .i64 7)] (by omega) ?_
  simp only [push_cast,seval,Za,Try.results70,hN0,hN]
 replace h:=Zy c47 h
 refine Zt ?_
 try simp only [Zh,Ze]
 refine Zg [0,1,2,6] [true] ?_
 simp only [push_cast,seval]
 refine Zf ?_
 obtain ⟨x6,hx6,ax6,bx6,cx6,h⟩:=bE (f:=(eL (eI .u64))) U1 (fun _=>rfl) (by decide) h
 obtain ⟨x7,hx7,ax7,bx7,cx7,h⟩:=bE (f:=(eI .u64)) Vz (fun _=>rfl) (by decide) h
 obtain ⟨y8,hy8,h⟩:=bC h
 refine Zb Zc [] ?_
 simp only [push_cast,Nat.reduceAdd,Nat.reduceSub,Nat.reduceMul,Nat.reduceLeDiff,Nat.reduceLT,Nat.reduceEqDiff,↓reduceIte,reduceCtorEq,Int.reduceBEq,Int.reduceBNe,Nat.reduceBEq,Int.reduceLE,Int.reduceLT,Int.reduceEq,Int.reduceNe,Int.reduceNeg,Nat.reduceDiv,Nat.reduceMod,Nat.reducePow,Za,ax6,bx6,cx6,ax7,bx7,cx7,hN0,hN]
 refine (Qp hy8).then ?_
 simp only [push_cast,Nat.reduceAdd,Nat.reduceSub,Nat.reduceMul,Nat.reduceLeDiff,Nat.reduceLT,Nat.reduceEqDiff,↓reduceIte,reduceCtorEq,Int.reduceBEq,Int.reduceBNe,Nat.reduceBEq,Int.reduceLE,Int.reduceLT,Int.reduceEq,Int.reduceNe,Int.reduceNeg,Nat.reduceDiv,Nat.reduceMod,Nat.reducePow,Za,ax6,bx6,cx6,ax7,bx7,cx7,hN0,hN]
 refine Zg [0,1,2,6,8] [true,true] ?_
 simp only [push_cast,seval]
 refine Zf ?_
 refine Zn [0,1,2,6,8,29] (Zb Zc [] ?_)
 simp only [push_cast,seval,Za,hN0,hN]
 refine Zq (t:=(y8.Kind == 0)) rfl (fun c46 => ?_) (fun c46 => ?_)
 ·replace h:=Zz c46 h
  refine Zf ?_
  refine Zb Zc [] ?_
  simp only [push_cast,seval,Za,hN0,hN]
  refine Zg [6,7] [true,false] ?_
  simp only [push_cast,seval]
  refine Zv ?_
  try simp only [Zh,Ze]
  have h:=Option.some.inj h;subst h
  refine Zo (.inr rfl) hU [.agg [.val (.int .i64 0),.val (.int .i64 0),.val (.int .i64 0),.val (.int .i64 0),.val (.int .i64 0),.val (.int .i64 0),.val (.int .i64 0),.val (.bool false),.val (.int .i64 0),.val (.int .i64 0)],.val (.int .i64 0)] (by omega) ?_
  simp only [push_cast,seval,Za,Try.results70,hN0,hN]
 replace h:=Zy c46 h
 refine Zt ?_
 try simp only [Zh,Ze]
 refine Zg [0,1,2,6,8] [true,true] ?_
 simp only [push_cast,seval]
 refine Zf ?_
 refine Zn [0,1,2,6,8,37] (Zb Zc [none,none] ?_)
 simp only [push_cast,seval,Za,hN0,hN]
 repeat (with_reducible refine And.intro (by first | (intro h0;simp only [h0];done) | (intro h0;simp only [h0,Bool.not_false,Bool.not_true,true_and,and_true,imp_self,implies_true,bne_iff_ne,ne_eq,beq_iff_eq];done) | (intros;simp_all;done) | exact True.intro) ?_)
 refine Zq (t:=(cond (y8.Kind == 3) y8.Double false)) rfl (fun c45 => ?_) (fun c45 => ?_)
 ·replace h:=Zz c45 h
  refine Zf ?_
  obtain ⟨z11,hz11,h⟩:=bC h
  refine Yt (E':=⟨147,[],[(0,.sl a0.length (fl (eL (eI .u64)) a0)),(6,.ref n 0),(8,.ref (n+1) 0),(54,.val (.bool z11))]⟩) (O':=(Z4 O n [some ⟨false,127,10,1,[.val (.int .i64 0),.val (.int .i64 0),.val (.int .i64 0),.val (.int .i64 0),.val (.int .i64 0),.val (.int .i64 0),.val (.int .i64 0),.val (.bool false),.val (.int .i64 0),.val (.int .i64 0)]⟩,some ⟨false,125,8,1,(Yp y8)⟩])) (n0:=(n+2)) ?_ ?_
  ·obtain ⟨y14,hy14,hz11⟩:=bC hz11
   rcases Bool.eq_false_or_eq_true y14 with c16 | c16
   ·replace hz11:=Zz c16 hz11
    obtain ⟨y15,hy15,hz11⟩:=bC hz11
    refine Zb Zc (Yee []) ?_
    simp only [push_cast,seval,Za,c16,hN0,hN]
    refine (V8 hy14).then ?_
    simp only [push_cast,seval,Za,c16,hN0,hN]
    refine (V8 hy15).then ?_
    simp only [push_cast,seval,Za,c16,hN0,hN]
    have hz11:=Option.some.inj hz11;subst hz11
    refine And.intro rfl (Fit2.of (Zp hU rfl rfl ?_) (by omega))
    simp only [push_cast,seval,Za,c16,hN0,hN]
   replace hz11:=Zy c16 hz11
   refine Zb Zc (Yec []) ?_
   simp only [push_cast,seval,Za,c16,hN0,hN]
   refine (V8 hy14).then ?_
   simp only [push_cast,seval,Za,c16,hN0,hN]
   have hz11:=Option.some.inj hz11;subst hz11
   refine And.intro rfl (Fit2.of (Zp hU rfl rfl ?_) (by omega))
   simp only [push_cast,seval,Za,c16,hN0,hN]
  refine Zq (t:=z11) rfl (fun c31 => ?_) (fun c31 => ?_)
  ·replace h:=Zz c31 h
   refine Zf ?_
   refine Zb Zc [] ?_
   simp only [push_cast,seval,Za,hN0,hN]
   refine Zg [6,7] [true,false] ?_
   simp only [push_cast,seval]
   refine Zv ?_
   try simp only [Zh,Ze]
   have h:=Option.some.inj h;subst h
   refine Zo (.inr rfl) hU [.agg [.val (.int .i64 0),.val (.int .i64 0),.val (.int .i64 0),.val (.int .i64 0),.val (.int .i64 0),.val (.int .i64 0),.val (.int .i64 0),.val (.bool false),.val (.int .i64 0),.val (.int .i64 0)],.val (.int .i64 7)] (by omega) ?_
   simp only [push_cast,seval,Za,Try.results70,hN0,hN]
  replace h:=Zy c31 h
  refine Zt ?_
  try simp only [Zh,Ze]
  refine Zg [0,6,8] [true,true] ?_
  simp only [push_cast,seval]
  obtain ⟨x17,hx17,ax17,bx17,cx17,h⟩:=bE (f:=(eL (eI .u64))) U1 (fun _=>rfl) (by decide) h
  obtain ⟨x18,hx18,ax18,bx18,cx18,h⟩:=bE (f:=(eI .u64)) Vz (fun _=>rfl) (by decide) h
  obtain ⟨y19,hy19,h⟩:=bC h
  obtain ⟨x21,hx21,ax21,bx21,cx21,h⟩:=bE (f:=(eI .u64)) Vz (fun _=>rfl) (by decide) h
  obtain ⟨y22,hy22,h⟩:=bC h
  refine Yt (E':=⟨147,[],[(0,.sl a0.length (fl (eL (eI .u64)) a0)),(6,.ref n 0),(9,.ref (n+2) 0),(10,.ref (n+3) 0)]⟩) (O':=(Z4 O n [some ⟨false,127,10,1,[.val (.int .i64 0),.val (.int .i64 0),.val (.int .i64 0),.val (.int .i64 0),.val (.int .i64 0),.val (.int .i64 0),.val (.int .i64 0),.val (.bool false),.val (.int .i64 0),.val (.int .i64 0)]⟩,none,some ⟨false,125,8,1,(Yp y19)⟩,some ⟨false,125,8,1,(Yp y22)⟩])) (n0:=(n+4)) ?_ ?_
  ·refine Z2k Zc (by kernel_rfl) [.low,.low,.low,.low,.low,.low,.low,.low,.low,.low,.low,.low,.low,.low,.low,.low,.low,.low,.low,.low,.low,.pass,.pass,.pass,.pass] (fun i=>i < (n+2)) 21 22 [0,1,2,3,4,5,6,7,8,9,10,11,12,13,14,15,16,17,18,19,20] [23,24] [.low,.low,.low,.low,.low,.low,.low,.low,.low,.low,.low,.low,.low,.low,.low,.low,.low,.low,.low,.low,.low] [.pass,.pass,.pass,.pass] [.pass,.pass,.pass,.pass] [] (by kernel_rfl) rfl rfl rfl ?_
   simp only [push_cast,Nat.reduceAdd,Nat.reduceSub,Nat.reduceMul,Nat.reduceLeDiff,Nat.reduceLT,Nat.reduceEqDiff,↓reduceIte,reduceCtorEq,Int.reduceBEq,Int.reduceBNe,Nat.reduceBEq,Int.reduceLE,Int.reduceLT,Int.reduceEq,Int.reduceNe,Int.reduceNeg,Nat.reduceDiv,Nat.reduceMod,Nat.reducePow,Za,ax17,bx17,cx17,ax18,bx18,cx18,ax21,bx21,cx21,hN0,hN]
   repeat (with_reducible refine And.intro (by omega) ?_)
   first | refine PCallA.of (fun _ _=>Qp hy19) ?_ | refine PCall.of (Qp hy19) ?_
   simp only [push_cast,Nat.reduceAdd,Nat.reduceSub,Nat.reduceMul,Nat.reduceLeDiff,Nat.reduceLT,Nat.reduceEqDiff,↓reduceIte,reduceCtorEq,Int.reduceBEq,Int.reduceBNe,Nat.reduceBEq,Int.reduceLE,Int.reduceLT,Int.reduceEq,Int.reduceNe,Int.reduceNeg,Nat.reduceDiv,Nat.reduceMod,Nat.reducePow,Za,ax17,bx17,cx17,ax18,bx18,cx18,ax21,bx21,cx21,hN0,hN]
   repeat (with_reducible refine And.intro (by omega) ?_)
   first | refine PCallA.of (fun _ _=>Qp hy22) ?_ | refine PCall.of (Qp hy22) ?_
   simp only [push_cast,Nat.reduceAdd,Nat.reduceSub,Nat.reduceMul,Nat.reduceLeDiff,Nat.reduceLT,Nat.reduceEqDiff,↓reduceIte,reduceCtorEq,Int.reduceBEq,Int.reduceBNe,Nat.reduceBEq,Int.reduceLE,Int.reduceLT,Int.reduceEq,Int.reduceNe,Int.reduceNeg,Nat.reduceDiv,Nat.reduceMod,Nat.reducePow,Za,ax17,bx17,cx17,ax18,bx18,cx18,ax21,bx21,cx21,hN0,hN]
   repeat (with_reducible refine And.intro (by omega) ?_)
   refine And.intro ?_ ?_
   ·simp only [push_cast,Nat.reduceAdd,Nat.reduceSub,Nat.reduceMul,Nat.reduceLeDiff,Nat.reduceLT,Nat.reduceEqDiff,↓reduceIte,reduceCtorEq,Int.reduceBEq,Int.reduceBNe,Nat.reduceBEq,Int.reduceLE,Int.reduceLT,Int.reduceEq,Int.reduceNe,Int.reduceNeg,Nat.reduceDiv,Nat.reduceMod,Nat.reducePow,Za,ax17,bx17,cx17,ax18,bx18,cx18,ax21,bx21,cx21,hN0,hN]
    repeat (with_reducible refine And.intro (by first | exact Kg rfl | exact Ja) ?_)
    refine And.intro rfl (Fit2.of (Zp hU rfl rfl ?_) (by omega))
    simp only [push_cast,Nat.reduceAdd,Nat.reduceSub,Nat.reduceMul,Nat.reduceLeDiff,Nat.reduceLT,Nat.reduceEqDiff,↓reduceIte,reduceCtorEq,Int.reduceBEq,Int.reduceBNe,Nat.reduceBEq,Int.reduceLE,Int.reduceLT,Int.reduceEq,Int.reduceNe,Int.reduceNeg,Nat.reduceDiv,Nat.reduceMod,Nat.reducePow,Za,ax17,bx17,cx17,ax18,bx18,cx18,ax21,bx21,cx21,hN0,hN]
   simp only [push_cast,Nat.reduceAdd,Nat.reduceSub,Nat.reduceMul,Nat.reduceLeDiff,Nat.reduceLT,Nat.reduceEqDiff,↓reduceIte,reduceCtorEq,Int.reduceBEq,Int.reduceBNe,Nat.reduceBEq,Int.reduceLE,Int.reduceLT,Int.reduceEq,Int.reduceNe,Int.reduceNeg,Nat.reduceDiv,Nat.reduceMod,Nat.reducePow,Za,ax17,bx17,cx17,ax18,bx18,cx18,ax21,bx21,cx21,hN0,hN]
   repeat (with_reducible refine And.intro (by first | exact Kg rfl | exact Ja) ?_)
   refine And.intro rfl ?_
   refine Fit2.trans (E':=(⟨147,[],[(0,.sl a0.length (fl (eL (eI .u64)) a0)),(6,.ref n 0),(9,.ref (n+3) 0),(10,.ref (n+2) 0)]⟩:Env)) (O':=(Z4 O n [some ⟨false,127,10,1,[.val (.int .i64 0),.val (.int .i64 0),.val (.int .i64 0),.val (.int .i64 0),.val (.int .i64 0),.val (.int .i64 0),.val (.int .i64 0),.val (.bool false),.val (.int .i64 0),.val (.int .i64 0)]⟩,none,some ⟨false,125,8,1,(Yp y22)⟩,some ⟨false,125,8,1,(Yp y19)⟩])) (n':=(n+4)) (Fit2.of (Zp hU rfl rfl ?_) (by omega)) ?_
   ·simp only [push_cast,Nat.reduceAdd,Nat.reduceSub,Nat.reduceMul,Nat.reduceLeDiff,Nat.reduceLT,Nat.reduceEqDiff,↓reduceIte,reduceCtorEq,Int.reduceBEq,Int.reduceBNe,Nat.reduceBEq,Int.reduceLE,Int.reduceLT,Int.reduceEq,Int.reduceNe,Int.reduceNeg,Nat.reduceDiv,Nat.reduceMod,Nat.reducePow,Za,ax17,bx17,cx17,ax18,bx18,cx18,ax21,bx21,cx21,hN0,hN]
   refine Zap (k:=4) (k':=4) hU [0,1,3,2] [0,1,3,2] rfl rfl rfl rfl ⟨rfl,rfl⟩ ?_
   simp only [push_cast,seval,Za,hN0,hN]
  refine Zf ?_
  refine Zn [0,6,9,10,83] (Zb Zc [none,none] ?_)
  simp only [push_cast,seval,Za,hN0,hN]
  repeat (with_reducible refine And.intro (by first | (intro h0;simp only [h0];done) | (intro h0;simp only [h0,Bool.not_false,Bool.not_true,true_and,and_true,imp_self,implies_true,bne_iff_ne,ne_eq,beq_iff_eq];done) | (intros;simp_all;done) | exact True.intro) ?_)
  refine Zq (t:=(cond (y19.Kind != 3) true y19.Double)) rfl (fun c30 => ?_) (fun c30 => ?_)
  ·replace h:=Zz c30 h
   refine Zf ?_
   refine Zb Zc [] ?_
   simp only [push_cast,seval,Za,hN0,hN]
   refine Zg [6,7] [true,false,false,false] ?_
   simp only [push_cast,seval]
   refine Zv ?_
   try simp only [Zh,Ze]
   have h:=Option.some.inj h;subst h
   refine Zo (.inr rfl) hU [.agg [.val (.int .i64 0),.val (.int .i64 0),.val (.int .i64 0),.val (.int .i64 0),.val (.int .i64 0),.val (.int .i64 0),.val (.int .i64 0),.val (.bool false),.val (.int .i64 0),.val (.int .i64 0)],.val (.int .i64 8)] (by omega) ?_
   simp only [push_cast,seval,Za,Try.results70,hN0,hN]
  replace h:=Zy c30 h
  refine Zt ?_
  try simp only [Zh,Ze]
  refine Zg [0,6,9,10] [true,false,true,true] ?_
  simp only [push_cast,seval]
  refine Zf ?_
  obtain ⟨y24,hy24,h⟩:=bC h
  refine Zb Zc [] ?_
  simp only [push_cast,seval,Za,hN0,hN]
  refine (Zdy hy24).then ?_
  simp only [push_cast,seval,Za,hN0,hN]
  refine Zg [0,6,9,10,11] [true,false,true,true] ?_
  simp only [push_cast,seval]
  obtain ⟨z25,hz25,h⟩:=bC h
  refine Yt (E':=⟨147,[],[(0,.sl a0.length (fl (eL (eI .u64)) a0)),(6,.ref n 0),(9,.ref (n+2) 0),(10,.ref (n+3) 0),(11,.val (.int .i64 z25))]⟩) (O':=(Z4 O n [some ⟨false,127,10,1,[.val (.int .i64 0),.val (.int .i64 0),.val (.int .i64 0),.val (.int .i64 0),.val (.int .i64 0),.val (.int .i64 0),.val (.int .i64 0),.val (.bool false),.val (.int .i64 0),.val (.int .i64 0)]⟩,none,some ⟨false,125,8,1,(Yp y19)⟩,some ⟨false,125,8,1,(Yp y22)⟩])) (n0:=(n+4)) ?_ ?_
  ·refine Zn [0,6,9,10,11,93] (Zb Zc [none,none,none] ?_)
   simp only [push_cast,seval,Za,hN0,hN]
   repeat (with_reducible refine And.intro (by first | (intro h0;simp only [h0];done) | (intro h0;simp only [h0,Bool.not_false,Bool.not_true,true_and,and_true,imp_self,implies_true,bne_iff_ne,ne_eq,beq_iff_eq];done) | (intros;simp_all;done) | exact True.intro) ?_)
   refine Zq (t:=(cond (y24 == 0) (y22.Off != 0) false)) rfl (fun c26 => ?_) (fun c26 => ?_)
   ·replace hz25:=Zz c26 hz25
    refine Zb Zc [] ?_
    simp only [push_cast,seval,Za,hN0,hN]
    have hz25:=Option.some.inj hz25;subst hz25
    refine And.intro rfl (Fit2.of (Zp hU rfl rfl ?_) (by omega))
    simp only [push_cast,seval,Za,hN0,hN]
   replace hz25:=Zy c26 hz25
   refine Zt ?_
   try simp only [Zh,Ze]
   have hz25:=Option.some.inj hz25;subst hz25
   refine And.intro rfl (Fit2.of (Zp hU rfl rfl ?_) (by omega))
   simp only [push_cast,seval,Za,hN0,hN]
  refine Zf ?_
  refine Zn [0,6,9,10,11,95] (Zb Zc [] ?_)
  simp only [push_cast,seval,Za,hN0,hN]
  refine Zq (t:=(z25 != 0)) rfl (fun c29 => ?_) (fun c29 => ?_)
  ·replace h:=Zz c29 h
   refine Zf ?_
   refine Zb Zc [] ?_
   simp only [push_cast,seval,Za,hN0,hN]
   refine Zg [6,7] [true,false,false,false] ?_
   simp only [push_cast,seval]
   refine Zv ?_
   try simp only [Zh,Ze]
   have h:=Option.some.inj h;subst h
   refine Zo (.inr rfl) hU [.agg [.val (.int .i64 0),.val (.int .i64 0),.val (.int .i64 0),.val (.int .i64 0),.val (.int .i64 0),.val (.int .i64 0),.val (.int .i64 0),.val (.bool false),.val (.int .i64 0),.val (.int .i64 0)],.val (.int .i64 z25)] (by omega) ?_
   simp only [push_cast,seval,Za,Try.results70,hN0,hN]
  replace h:=Zy c29 h
  refine Zt ?_
  try simp only [Zh,Ze]
  refine Zg [0,6,9,10] [true,false,true,true] ?_
  simp only [push_cast,seval]
  refine Zf ?_
  obtain ⟨y28,hy28,h⟩:=bC h
  refine Zb Zc [] ?_
  simp only [push_cast,seval,Za,hN0,hN]
  refine (Zdz hy28).then ?_
  simp only [push_cast,seval,Za,hN0,hN]
  refine Zg [6,7] [true,false,false,false] ?_
  simp only [push_cast,seval]
  refine Zv ?_
  try simp only [Zh,Ze]
  have h:=Option.some.inj h;subst h
  refine Zo (.inr rfl) hU [.agg [.val (.int .i64 y28.1.P.Kind),.val (.int .i64 y28.1.P.Off),.val (.int .i64 y28.1.P.Data),.val (.int .i64 y28.1.P.Ptrs),.val (.int .i64 y28.1.P.Code),.val (.int .i64 y28.1.P.Count),.val (.int .i64 y28.1.P.Segment),.val (.bool y28.1.P.Double),.val (.int .i64 y28.1.Segment),.val (.int .i64 y28.1.At)],.val (.int .i64 y28.2)] (by omega) ?_
  simp only [push_cast,seval,Za,Try.results70,hN0,hN]
 replace h:=Zy c45 h
 refine Zt ?_
 try simp only [Zh,Ze]
 refine Zg [0,1,2,6,8] [true,true] ?_
 simp only [push_cast,seval]
 obtain ⟨z32,hz32,h⟩:=bC h
 refine Z5j (J:=(Qu (fun z32=>JN n (⟨147,[],[(0,.sl a0.length (fl (eL (eI .u64)) a0)),(1,.val (.int .i64 z32.1)),(2,.val (.int .i64 z32.2.1)),(6,.ref n 0),(8,.ref (n+1) 0)]⟩:Env) (Z4 O n [some ⟨false,127,10,1,[.val (.int .i64 0),.val (.int .i64 0),.val (.int .i64 0),.val (.int .i64 0),.val (.int .i64 0),.val (.int .i64 0),.val (.int .i64 0),.val (.bool false),.val (.int .i64 0),.val (.int .i64 0)]⟩,some ⟨false,125,8,1,[.val (.int .i64 z32.2.2.1),.val (.int .i64 z32.2.2.2.1),.val (.int .i64 z32.2.2.2.2.1),.val (.int .i64 z32.2.2.2.2.2.1),.val (.int .i64 z32.2.2.2.2.2.2.1),.val (.int .i64 z32.2.2.2.2.2.2.2.1),.val (.int .i64 z32.2.2.2.2.2.2.2.2.1),.val (.bool z32.2.2.2.2.2.2.2.2.2)]⟩]) (n+2)) (fun z32=>JR n (⟨147,[],[(6,.ref n 0),(7,.val (.int .i64 7))]⟩:Env) (Z4 O n [some ⟨false,127,10,1,[.val (.int .i64 0),.val (.int .i64 0),.val (.int .i64 0),.val (.int .i64 0),.val (.int .i64 0),.val (.int .i64 0),.val (.int .i64 0),.val (.bool false),.val (.int .i64 0),.val (.int .i64 0)]⟩,none]) (n+2)))) (z:=z32) ?_ fun hw => ?_
 ·refine Zn [0,1,2,6,8,110] (Zb Zc [] ?_)
  simp only [push_cast,seval,Za,hN0,hN]
  refine Zq (t:=(y8.Kind == 3)) rfl (fun c39 => ?_) (fun c39 => ?_)
  ·replace hz32:=Zz c39 hz32
   refine Zn [0,1,6,8] (Zb Zc [] ?_)
   simp only [push_cast,seval,Za,hN0,hN]
   refine Zn [0,1,2,6,8] (Zb Zc [] ?_)
   simp only [push_cast,seval,Za,hN0,hN]
   refine Zf ?_
   refine Zf ?_
   obtain ⟨y34,hy34,hz32⟩:=bC hz32
   refine Zb Zc [] ?_
   simp only [push_cast,seval,Za,hN0,hN]
   refine (V8 hy34).then ?_
   simp only [push_cast,seval,Za,hN0,hN]
   refine Zg [0,1,2,6,8,119] [true,true] ?_
   simp only [push_cast,seval]
   refine Zq (t:=(!y34)) rfl (fun c38 => ?_) (fun c38 => ?_)
   ·replace hz32:=Zz c38 hz32
    refine Zf ?_
    refine Zb Zc [] ?_
    simp only [push_cast,seval,Za,hN0,hN]
    refine Zg [6,7] [true,false] ?_
    simp only [push_cast,seval]
    refine Zv ?_
    try simp only [Zh,Ze]
    have hz32:=Option.some.inj hz32;subst hz32
    refine And.intro rfl (Fit2.of (Zp hU rfl rfl ?_) (by omega))
    simp only [push_cast,seval,Za,hN0,hN]
   replace hz32:=Zy c38 hz32
   refine Zt ?_
   try simp only [Zh,Ze]
   refine Zg [0,1,2,6,8] [true,true] ?_
   simp only [push_cast,seval]
   obtain ⟨x35,hx35,ax35,bx35,cx35,hz32⟩:=bE (f:=(eL (eI .u64))) U1 (fun _=>rfl) (by decide) hz32
   obtain ⟨x36,hx36,ax36,bx36,cx36,hz32⟩:=bE (f:=(eI .u64)) Vz (fun _=>rfl) (by decide) hz32
   obtain ⟨y37,hy37,hz32⟩:=bC hz32
   refine Zb Zc [] ?_
   simp only [push_cast,Nat.reduceAdd,Nat.reduceSub,Nat.reduceMul,Nat.reduceLeDiff,Nat.reduceLT,Nat.reduceEqDiff,↓reduceIte,reduceCtorEq,Int.reduceBEq,Int.reduceBNe,Nat.reduceBEq,Int.reduceLE,Int.reduceLT,Int.reduceEq,Int.reduceNe,Int.reduceNeg,Nat.reduceDiv,Nat.reduceMod,Nat.reducePow,Za,ax35,bx35,cx35,ax36,bx36,cx36,hN0,hN]
   refine (Qp hy37).then ?_
   simp only [push_cast,Nat.reduceAdd,Nat.reduceSub,Nat.reduceMul,Nat.reduceLeDiff,Nat.reduceLT,Nat.reduceEqDiff,↓reduceIte,reduceCtorEq,Int.reduceBEq,Int.reduceBNe,Nat.reduceBEq,Int.reduceLE,Int.reduceLT,Int.reduceEq,Int.reduceNe,Int.reduceNeg,Nat.reduceDiv,Nat.reduceMod,Nat.reducePow,Za,ax35,bx35,cx35,ax36,bx36,cx36,hN0,hN]
   have hz32:=Option.some.inj hz32;subst hz32
   refine And.intro rfl (Fit2.of (Zp hU rfl rfl ?_) (by omega))
   simp only [push_cast,Nat.reduceAdd,Nat.reduceSub,Nat.reduceMul,Nat.reduceLeDiff,Nat.reduceLT,Nat.reduceEqDiff,↓reduceIte,reduceCtorEq,Int.reduceBEq,Int.reduceBNe,Nat.reduceBEq,Int.reduceLE,Int.reduceLT,Int.reduceEq,Int.reduceNe,Int.reduceNeg,Nat.reduceDiv,Nat.reduceMod,Nat.reducePow,Za,ax35,bx35,cx35,ax36,bx36,cx36,hN0,hN]
  replace hz32:=Zy c39 hz32
  refine Zt ?_
  try simp only [Zh,Ze]
  have hz32:=Option.some.inj hz32;subst hz32
  refine And.intro rfl (Fit2.of (Zp hU rfl rfl ?_) (by omega))
  simp only [push_cast,seval,Za,hN0,hN]
 rcases z32 with z32 | z32
 ·dsimp only [Qu] at hw h
  refine Yt hw ?_
  refine Zf ?_
  obtain ⟨y41,hy41,h⟩:=bC h
  refine Zb Zc [] ?_
  simp only [push_cast,seval,Za,hN0,hN]
  refine (Zdy hy41).then ?_
  simp only [push_cast,seval,Za,hN0,hN]
  refine Zg [0,1,2,6,8,12] [true,true] ?_
  simp only [push_cast,seval]
  refine Zf ?_
  refine Zn [0,1,2,6,8,12,132] (Zb Zc [] ?_)
  simp only [push_cast,seval,Za,hN0,hN]
  refine Zq (t:=(y41 != 0)) rfl (fun c44 => ?_) (fun c44 => ?_)
  ·replace h:=Zz c44 h
   refine Zf ?_
   refine Zb Zc [] ?_
   simp only [push_cast,seval,Za,hN0,hN]
   refine Zg [6,7] [true,false] ?_
   simp only [push_cast,seval]
   refine Zv ?_
   try simp only [Zh,Ze]
   have h:=Option.some.inj h;subst h
   refine Zo (.inr rfl) hU [.agg [.val (.int .i64 0),.val (.int .i64 0),.val (.int .i64 0),.val (.int .i64 0),.val (.int .i64 0),.val (.int .i64 0),.val (.int .i64 0),.val (.bool false),.val (.int .i64 0),.val (.int .i64 0)],.val (.int .i64 y41)] (by omega) ?_
   simp only [push_cast,seval,Za,Try.results70,hN0,hN]
  replace h:=Zy c44 h
  refine Zt ?_
  try simp only [Zh,Ze]
  refine Zg [0,1,2,6,8] [true,true] ?_
  simp only [push_cast,seval]
  refine Zf ?_
  obtain ⟨y43,hy43,h⟩:=bC h
  refine Zb Zc [] ?_
  simp only [push_cast,seval,Za,hN0,hN]
  refine (Zdz hy43).then ?_
  simp only [push_cast,seval,Za,hN0,hN]
  refine Zg [6,7] [true,false] ?_
  simp only [push_cast,seval]
  refine Zv ?_
  try simp only [Zh,Ze]
  have h:=Option.some.inj h;subst h
  refine Zo (.inr rfl) hU [.agg [.val (.int .i64 y43.1.P.Kind),.val (.int .i64 y43.1.P.Off),.val (.int .i64 y43.1.P.Data),.val (.int .i64 y43.1.P.Ptrs),.val (.int .i64 y43.1.P.Code),.val (.int .i64 y43.1.P.Count),.val (.int .i64 y43.1.P.Segment),.val (.bool y43.1.P.Double),.val (.int .i64 y43.1.Segment),.val (.int .i64 y43.1.At)],.val (.int .i64 y43.2)] (by omega) ?_
  simp only [push_cast,seval,Za,Try.results70,hN0,hN]
 dsimp only [Qu] at hw h
 refine Z08 hw ?_
 try simp only [Zh,Ze]
 have h:=Option.some.inj h;subst h
 refine Zo (.inr rfl) hU [.agg [.val (.int .i64 0),.val (.int .i64 0),.val (.int .i64 0),.val (.int .i64 0),.val (.int .i64 0),.val (.int .i64 0),.val (.int .i64 0),.val (.bool false),.val (.int .i64 0),.val (.int .i64 0)],.val (.int .i64 7)] (by omega) ?_
 simp only [push_cast,seval,Za,Try.results70,hN0,hN]
theorem Zcy {a0:(List (List Int))} {a1:Int} {a2:Int} {r:(Zw×Int)} {O:Objs} {n:Nat} (h:Va a0 a1 a2=some r):GTo Try.prog 37 [.sl a0.length (fl (eL (eI .u64)) a0),.val (.int .i64 a1),.val (.int .i64 a2)] O n (.tup [.agg (Z0 r.1),.val (.int .i64 r.2)]) O n:=by
 unfold Va at h
 refine Yi Zc Try.call37 Try.func37 rfl (Nat.le_of_ble_eq_true rfl) (Nat.le_refl _) fun hU => ?_
 have hN0:O n=none:=hU.fresh _ (Nat.le_refl _)
 have hN:∀ k,O (n+k)=none:=fun k=>hU.fresh _ (Nat.le_add_right _ _)
 show W _ _ _ _ ⟨110,[],[(0,.sl a0.length (fl (eL (eI .u64)) a0)),(1,.val (.int .i64 a1)),(2,.val (.int .i64 a2))]⟩ (Z4 O n []) _
 refine Zn [0,1,2,6] (Zb Zc [] ?_)
 simp only [push_cast,seval,Za,hN0,hN]
 refine Zf ?_
 obtain ⟨y2,hy2,h⟩:=bC h
 refine Zb Zc [] ?_
 simp only [push_cast,seval,Za,hN0,hN]
 refine (Zjn hy2).then ?_
 simp only [push_cast,seval,Za,hN0,hN]
 refine Zg [0,6,8,9] [true,true] ?_
 simp only [push_cast,seval]
 refine Zf ?_
 refine Zn [0,6,8,9,26] (Zb Zc [none,none,none,none] ?_)
 simp only [push_cast,seval,Za,hN0,hN]
 repeat (with_reducible refine And.intro (by first | (intro h0;simp only [h0,and_self];done) | (intro h0;simp only [h0,true_and,and_true,and_self,imp_self,implies_true,bne_iff_ne,ne_eq];done) | (intros;simp_all;done) | exact True.intro) ?_)
 refine Zq (t:=(cond (y2.2 != 0) true (y2.1.P.Kind == 0))) rfl (fun c12 => ?_) (fun c12 => ?_)
 ·replace h:=Zz c12 h
  refine Zf ?_
  refine Zb Zc [] ?_
  simp only [push_cast,seval,Za,hN0,hN]
  refine Zg [6,7] [true,false] ?_
  simp only [push_cast,seval]
  refine Zv ?_
  try simp only [Zh,Ze]
  have h:=Option.some.inj h;subst h
  refine Zo (.inr rfl) hU [.agg [.val (.int .i64 0),.val (.int .i64 0),.val (.int .i64 0),.val (.int .i64 0),.val (.int .i64 0),.val (.int .i64 0),.val (.int .u64 0)],.val (.int .i64 y2.2)] (by omega) ?_
  simp only [push_cast,seval,Za,Try.results37,hN0,hN]
 replace h:=Zy c12 h
 refine Zt ?_
 try simp only [Zh,Ze]
 refine Zg [0,6,8] [true,true] ?_
 simp only [push_cast,seval]
 refine Zf ?_
 refine Zn [0,6,8,32] (Zb Zc [] ?_)
 simp only [push_cast,seval,Za,hN0,hN]
 refine Zq (t:=(y2.1.P.Kind == 1)) rfl (fun c11 => ?_) (fun c11 => ?_)
 ·replace h:=Zz c11 h
  refine Zf ?_
  refine Zb Zc [] ?_
  simp only [push_cast,seval,Za,hN0,hN]
  refine Zg [6,7] [true,false] ?_
  simp only [push_cast,seval]
  refine Zv ?_
  try simp only [Zh,Ze]
  have h:=Option.some.inj h;subst h
  refine Zo (.inr rfl) hU [.agg [.val (.int .i64 1),.val (.int .i64 y2.1.Segment),.val (.int .i64 y2.1.At),.val (.int .i64 y2.1.P.Data),.val (.int .i64 y2.1.P.Ptrs),.val (.int .i64 0),.val (.int .u64 0)],.val (.int .i64 0)] (by omega) ?_
  simp only [push_cast,seval,Za,Try.results37,hN0,hN]
 replace h:=Zy c11 h
 refine Zt ?_
 try simp only [Zh,Ze]
 refine Zg [0,6,8] [true,true] ?_
 simp only [push_cast,seval]
 refine Zf ?_
 refine Zn [0,6,8,47] (Zb Zc [] ?_)
 simp only [push_cast,seval,Za,hN0,hN]
 refine Zq (t:=(decide (y2.1.P.Code < 7))) rfl (fun c10 => ?_) (fun c10 => ?_)
 ·replace h:=Zz c10 h
  refine Zf ?_
  refine Zb Zc [] ?_
  simp only [push_cast,seval,Za,hN0,hN]
  refine Zg [6,7] [true,false] ?_
  simp only [push_cast,seval]
  refine Zv ?_
  try simp only [Zh,Ze]
  have h:=Option.some.inj h;subst h
  refine Zo (.inr rfl) hU [.agg [.val (.int .i64 (IntKind.i64.wrap (2+y2.1.P.Code))),.val (.int .i64 y2.1.Segment),.val (.int .i64 y2.1.At),.val (.int .i64 0),.val (.int .i64 0),.val (.int .i64 y2.1.P.Count),.val (.int .u64 0)],.val (.int .i64 0)] (by omega) ?_
  simp only [push_cast,seval,Za,Try.results37,hN0,hN]
 replace h:=Zy c10 h
 refine Zt ?_
 try simp only [Zh,Ze]
 refine Zg [0,6,8] [true,true] ?_
 simp only [push_cast,seval]
 obtain ⟨x5,hx5,ax5,bx5,cx5,h⟩:=bE (f:=(eL (eI .u64))) U1 (fun _=>rfl) (by decide) h
 obtain ⟨x6,hx6,ax6,bx6,cx6,h⟩:=bE (f:=(eI .u64)) Vz (fun _=>rfl) (by decide) h
 refine Zn [6,8,10] (Y1 Zc (by kernel_rfl) [] (by kernel_rfl) ?_)
 simp only [push_cast,Nat.reduceAdd,Nat.reduceSub,Nat.reduceMul,Nat.reduceLeDiff,Nat.reduceLT,Nat.reduceEqDiff,↓reduceIte,reduceCtorEq,Int.reduceBEq,Int.reduceBNe,Nat.reduceBEq,Int.reduceLE,Int.reduceLT,Int.reduceEq,Int.reduceNe,Int.reduceNeg,Nat.reduceDiv,Nat.reduceMod,Nat.reducePow,Za,ax5,bx5,cx5,ax6,bx6,cx6,hN0,hN]
 refine Zf ?_
 obtain ⟨y8,hy8,h⟩:=bC h
 refine Zb Zc [] ?_
 simp only [push_cast,seval,Za,hN0,hN]
 refine (Qp hy8).then ?_
 simp only [push_cast,seval,Za,hN0,hN]
 refine Zg [6,8,10,11] [true,true,true] ?_
 simp only [push_cast,seval]
 refine Zf ?_
 refine Zn [6,8,11,96] (Zb Zc [none,none,none,none,none,none,none,none,none,none,none,none,none,none,none,none,none,none] ?_)
 simp only [push_cast,seval,Za,hN0,hN]
 repeat (with_reducible refine And.intro (by first | (intro h0;simp only [h0,and_self];done) | (intro h0;simp only [h0,true_and,and_true,and_self,imp_self,implies_true,bne_iff_ne,ne_eq];done) | (intros;simp_all;done) | exact True.intro) ?_)
 refine Zq (t:=(cond (cond (cond (x6 != 0) (y8.Kind != 1) false) true (decide (y8.Off < 0))) true (decide (y2.1.P.Count < (IntKind.i64.wrap (y8.Off * (IntKind.i64.wrap (y8.Data+y8.Ptrs)))))))) rfl (fun c9 => ?_) (fun c9 => ?_)
 ·replace h:=Zz c9 h
  refine Zf ?_
  refine Zb Zc [] ?_
  simp only [push_cast,seval,Za,hN0,hN]
  refine Zg [6,7] [true,false,false] ?_
  simp only [push_cast,seval]
  refine Zv ?_
  try simp only [Zh,Ze]
  have h:=Option.some.inj h;subst h
  refine Zo (.inr rfl) hU [.agg [.val (.int .i64 0),.val (.int .i64 0),.val (.int .i64 0),.val (.int .i64 0),.val (.int .i64 0),.val (.int .i64 0),.val (.int .u64 0)],.val (.int .i64 8)] (by omega) ?_
  simp only [push_cast,seval,Za,Try.results37,hN0,hN]
 replace h:=Zy c9 h
 refine Zt ?_
 try simp only [Zh,Ze]
 refine Zg [6,8,11] [true,true,true] ?_
 simp only [push_cast,seval]
 refine Zf ?_
 refine Zb Zc [] ?_
 simp only [push_cast,seval,Za,hN0,hN]
 refine Zg [6,7] [true,false,false] ?_
 simp only [push_cast,seval]
 refine Zv ?_
 try simp only [Zh,Ze]
 have h:=Option.some.inj h;subst h
 refine Zo (.inr rfl) hU [.agg [.val (.int .i64 9),.val (.int .i64 y2.1.Segment),.val (.int .i64 (IntKind.i64.wrap (y2.1.At+1))),.val (.int .i64 y8.Data),.val (.int .i64 y8.Ptrs),.val (.int .i64 y8.Off),.val (.int .u64 0)],.val (.int .i64 0)] (by omega) ?_
 simp only [push_cast,seval,Za,Try.results37,hN0,hN]
theorem Jm {a0:Zw} {a1:(List (List Int))} {r:(List Int)} {O:Objs} {n:Nat} (h:X1 a0 a1=some r):GTo Try.prog 72 [.agg (Z0 a0),.sl a1.length (fl (eL (eI .u64)) a1)] O n (.sl r.length (fl (eI .u64) r)) O n:=by
 unfold X1 at h
 refine Yi Zc Try.call72 Try.func72 rfl (Nat.le_of_ble_eq_true rfl) (Nat.le_refl _) fun hU => ?_
 have hN0:O n=none:=hU.fresh _ (Nat.le_refl _)
 have hN:∀ k,O (n+k)=none:=fun k=>hU.fresh _ (Nat.le_add_right _ _)
 show W _ _ _ _ ⟨30,[],[(0,.agg (Z0 a0)),(1,.sl a1.length (fl (eL (eI .u64)) a1))]⟩ (Z4 O n []) _
 refine Zn [1,2] (Zb Zc [] ?_)
 simp only [push_cast,seval,Za,hN0,hN]
 refine Zf ?_
 refine Zn [1,2,8] (Zb Zc [] ?_)
 simp only [push_cast,seval,Za,hN0,hN]
 refine Zq (t:=(a0.Kind == 10)) rfl (fun c8 => ?_) (fun c8 => ?_)
 ·replace h:=Zz c8 h
  refine Zf ?_
  refine Zb Zc [] ?_
  simp only [push_cast,seval,Za,hN0,hN]
  refine U3 ⟨30,[],[(4,.row (n+1) ([a0.N]:List Int).length)]⟩ (Z4 O n [none,some ⟨true,58,1,([a0.N]:List Int).length,fl (eI .u64) ([a0.N]:List Int)⟩]) (Zp hU rfl rfl ?_) ?_
  ·simp only [push_cast,seval,Za,hN0,hN]
  refine Zv ?_
  try simp only [Zh,Ze]
  have h:=Option.some.inj h;subst h
  refine Zo (.inr rfl) hU [.row (n+1) ([a0.N]:List Int).length] (by omega) ?_
  simp only [push_cast,seval,Za,Try.results72,hN0,hN]
 replace h:=Zy c8 h
 refine Zt ?_
 try simp only [Zh,Ze]
 refine Zg [1,2] [true] ?_
 simp only [push_cast,seval]
 refine Zf ?_
 refine Zn [1,2,14] (Zb Zc [] ?_)
 simp only [push_cast,seval,Za,hN0,hN]
 refine Zq (t:=(a0.Kind != 1)) rfl (fun c7 => ?_) (fun c7 => ?_)
 ·replace h:=Zz c7 h
  refine Zn [4] (Zb Zc [] ?_)
  simp only [push_cast,seval,Za,hN0,hN]
  refine Zv ?_
  try simp only [Zh,Ze]
  have h:=Option.some.inj h;subst h
  refine Zo (.inr rfl) hU [.val (.slice none 0 0)] (by omega) ?_
  simp only [push_cast,seval,Za,Try.results72,hN0,hN]
 replace h:=Zy c7 h
 refine Zt ?_
 try simp only [Zh,Ze]
 refine Zg [1,2] [true] ?_
 simp only [push_cast,seval]
 refine Zn [1,2,5] (Zb Zc [] ?_)
 simp only [push_cast,seval,Za,hN0,hN]
 refine Zf ?_
 obtain ⟨x4,hx4,ax4,bx4,cx4,h⟩:=bE (f:=(eL (eI .u64))) U1 (fun _=>rfl) (by decide) h
 obtain ⟨l5,al5,bl5,cl5,gl5,h⟩:=bS (lo:=(some (.i64,a0.At))) (hi:=(some (.i64,(IntKind.i64.wrap (a0.At+a0.Data))))) (f:=(eI .u64)) rfl rfl Zdd Vz (fun _=>rfl) h
 obtain ⟨l6,pl6,ql6,el6,h⟩:=bA0 (k:=l5.length) rfl h
 refine Zkc Zc (by kernel_rfl) [false,false,false,false,false,false,false,false,false,false,false,false,false,false,true,false] [] (by kernel_rfl) ?_
 simp only [push_cast,Nat.reduceAdd,Nat.reduceSub,Nat.reduceMul,Nat.reduceLeDiff,Nat.reduceLT,Nat.reduceEqDiff,↓reduceIte,reduceCtorEq,Int.reduceBEq,Int.reduceBNe,Nat.reduceBEq,Int.reduceLE,Int.reduceLT,Int.reduceEq,Int.reduceNe,Int.reduceNeg,Nat.reduceDiv,Nat.reduceMod,Nat.reducePow,Za,ax4,bx4,cx4,al5,bl5,cl5,gl5,pl6,ql6,el6,hN0,hN]
 refine U3 ⟨30,[],[(4,.row (n+1) l6.length)]⟩ (Z4 O n [none,some ⟨true,58,1,l6.length,fl (eI .u64) l6⟩]) (Zp hU rfl rfl ?_) ?_
 ·simp only [push_cast,Nat.reduceAdd,Nat.reduceSub,Nat.reduceMul,Nat.reduceLeDiff,Nat.reduceLT,Nat.reduceEqDiff,↓reduceIte,reduceCtorEq,Int.reduceBEq,Int.reduceBNe,Nat.reduceBEq,Int.reduceLE,Int.reduceLT,Int.reduceEq,Int.reduceNe,Int.reduceNeg,Nat.reduceDiv,Nat.reduceMod,Nat.reducePow,Za,ax4,bx4,cx4,al5,bl5,cl5,gl5,pl6,ql6,el6,hN0,hN]
 refine Zv ?_
 try simp only [Zh,Ze]
 have h:=Option.some.inj h;subst h
 refine Zo (.inr rfl) hU [.row (n+1) l6.length] (by omega) ?_
 simp only [push_cast,seval,Za,Try.results72,hN0,hN]
theorem Gc {a0:Zw} {r:Int} {O:Objs} {n:Nat} (h:Qb a0=some r):GTo Try.prog 73 [.agg (Z0 a0)] O n (.val (.int .i64 r)) O n:=by
 unfold Qb at h
 refine Yi Zc Try.call73 Try.func73 rfl (Nat.le_of_ble_eq_true rfl) (Nat.le_refl _) fun hU => ?_
 have hN0:O n=none:=hU.fresh _ (Nat.le_refl _)
 have hN:∀ k,O (n+k)=none:=fun k=>hU.fresh _ (Nat.le_add_right _ _)
 show W _ _ _ _ ⟨10,[],[(0,.agg (Z0 a0))]⟩ (Z4 O n []) _
 refine Zn [1] (Zb Zc [] ?_)
 simp only [push_cast,seval,Za,hN0,hN]
 refine Zf ?_
 refine Zn [1,5] (Zb Zc [] ?_)
 simp only [push_cast,seval,Za,hN0,hN]
 refine Zq (t:=(a0.Kind == 1)) rfl (fun c1 => ?_) (fun c1 => ?_)
 ·replace h:=Zz c1 h
  refine Zn [2] (Zb Zc [] ?_)
  simp only [push_cast,seval,Za,hN0,hN]
  refine Zv ?_
  try simp only [Zh,Ze]
  have h:=Option.some.inj h;subst h
  refine Zo (.inr rfl) hU [.val (.int .i64 a0.Ptrs)] (by omega) ?_
  simp only [push_cast,seval,Za,Try.results73,hN0,hN]
 replace h:=Zy c1 h
 refine Zt ?_
 try simp only [Zh,Ze]
 refine Zg [1] [true] ?_
 simp only [push_cast,seval]
 refine Zn [2] (Zb Zc [] ?_)
 simp only [push_cast,seval,Za,hN0,hN]
 refine Zv ?_
 try simp only [Zh,Ze]
 have h:=Option.some.inj h;subst h
 refine Zo (.inr rfl) hU [.val (.int .i64 a0.Count)] (by omega) ?_
 simp only [push_cast,seval,Za,Try.results73,hN0,hN]
theorem Zpb {a0:(List Int)} {a1:Int} {r:Int} {O:Objs} {n:Nat} (h:Uv a0 a1=some r):GTo Try.prog 131 [.sl a0.length (fl (eI .u64) a0),.val (.int .i64 a1)] O n (.val (.int .u64 r)) O n:=by
 unfold Uv at h
 refine Yi Zc Try.call131 Try.func131 rfl (Nat.le_of_ble_eq_true rfl) (Nat.le_refl _) fun hU => ?_
 have hN0:O n=none:=hU.fresh _ (Nat.le_refl _)
 have hN:∀ k,O (n+k)=none:=fun k=>hU.fresh _ (Nat.le_add_right _ _)
 show W _ _ _ _ ⟨31,[],[(0,.sl a0.length (fl (eI .u64) a0)),(1,.val (.int .i64 a1))]⟩ (Z4 O n []) _
 refine Zn [0,1] (Zb Zc [] ?_)
 simp only [push_cast,seval,Za,hN0,hN]
 refine Zf ?_
 refine Zn [0,1,15] (Zb Zc [none,none,none,none,none] ?_)
 simp only [push_cast,seval,Za,hN0,hN]
 repeat (with_reducible refine And.intro (by first | (intro h0;simp only [h0,and_self];done) | (intro h0;simp only [h0,true_and,and_true,and_self,imp_self,implies_true,ne_eq];done) | (intros;simp_all;done) | exact True.intro) ?_)
 refine Zq (t:=(cond (decide (a1 < 0)) true (decide ((a0.length:Int)≤(IntKind.i64.wrap (Int.tdiv a1 64)))))) rfl (fun c5 => ?_) (fun c5 => ?_)
 ·replace h:=Zz c5 h
  refine Zn [4] (Zb Zc [] ?_)
  simp only [push_cast,seval,Za,hN0,hN]
  refine Zv ?_
  try simp only [Zh,Ze]
  have h:=Option.some.inj h;subst h
  refine Zo (.inr rfl) hU [.val (.int .u64 0)] (by omega) ?_
  simp only [push_cast,seval,Za,Try.results131,hN0,hN]
 replace h:=Zy c5 h
 refine Zt ?_
 try simp only [Zh,Ze]
 refine Zg [0,1] [] ?_
 simp only [push_cast,seval]
 obtain ⟨x2,hx2,ax2,bx2,cx2,h⟩:=bE (f:=(eI .u64)) Vz (fun _=>rfl) (by decide) h
 refine Zn [1,5] (Zb Zc [] ?_)
 simp only [push_cast,Nat.reduceAdd,Nat.reduceSub,Nat.reduceMul,Nat.reduceLeDiff,Nat.reduceLT,Nat.reduceEqDiff,↓reduceIte,reduceCtorEq,Int.reduceBEq,Int.reduceBNe,Nat.reduceBEq,Int.reduceLE,Int.reduceLT,Int.reduceEq,Int.reduceNe,Int.reduceNeg,Nat.reduceDiv,Nat.reduceMod,Nat.reducePow,Za,ax2,bx2,cx2,hN0,hN]
 refine Zf ?_
 refine Zn [1,5,6] (Zb Zc [] ?_)
 simp only [push_cast,seval,Za,hN0,hN]
 refine Zg [1,5,6] [] ?_
 simp only [push_cast,seval]
 obtain ⟨z4,hz4,h⟩:=bC h
 refine Y2 (E':=⟨31,[],[(5,.val (.int .u64 z4))]⟩) (O':=(Z4 O n [])) (n0:=n) ?_ ?_
 ·refine Xp hz4 (fun s0_=>⟨31,[],[(1,.val (.int .i64 a1)),(5,.val (.int .u64 s0_.1)),(6,.val (.int .i64 s0_.2))]⟩) (fun s0_=>(Z4 O n [])) (fun z4=>JX 0 n (⟨31,[],[(5,.val (.int .u64 z4))]⟩:Env) (Z4 O n []) n) ?_
  intro s0_ x0_ hs0_
  unfold J3 at hs0_
  try dsimp only
  refine Zf ?_
  refine Zn [1,5,6,24] (Zb Zc [] ?_)
  simp only [push_cast,seval,Za,hN0,hN]
  refine Zq (t:=(decide (s0_.2 < (Int.tmod a1 64)))) rfl (fun c3 => ?_) (fun c3 => ?_)
  ·replace hs0_:=Zz c3 hs0_
   refine Zt ?_
   try simp only [Zh,Ze]
   refine Zg [1,5,6] [] ?_
   simp only [push_cast,seval]
   refine Zf ?_
   refine Yl ?_
   refine Zb Zc [] ?_
   simp only [push_cast,seval,Za,hN0,hN]
   refine Zg [1,5,6] [] ?_
   simp only [push_cast,seval]
   refine Zb Zc [] ?_
   simp only [push_cast,seval,Za,hN0,hN]
   have hs0_:=Option.some.inj hs0_;subst hs0_
   refine And.intro rfl (Fit2.of (Zp hU rfl rfl ?_) (by omega))
   simp only [push_cast,seval,Za,hN0,hN]
  replace hs0_:=Zy c3 hs0_
  refine X9 ?_
  try simp only [Zh,Ze,↓reduceIte,Nat.reduceEqDiff]
  have hs0_:=Option.some.inj hs0_;subst hs0_
  refine And.intro (fun h=>by cases h) (And.intro rfl (Fit2.of (Zp hU rfl rfl ?_) (by omega)))
  simp only [push_cast,seval,Za,hN0,hN]
 try simp only [Zh,Ze,↓reduceIte,Nat.reduceEqDiff]
 refine Zg [5] [] ?_
 simp only [push_cast,seval]
 refine Zn [4] (Zb Zc [] ?_)
 simp only [push_cast,seval,Za,hN0,hN]
 refine Zv ?_
 try simp only [Zh,Ze]
 have h:=Option.some.inj h;subst h
 refine Zo (.inr rfl) hU [.val (.int .u64 (Int.tmod z4 2))] (by omega) ?_
 simp only [push_cast,seval,Za,Try.results131,hN0,hN]
theorem Zpc {a0:(List Int)} {a1:Int} {a2:Int} {r:Int} {O:Objs} {n:Nat} (h:Uw a0 a1 a2=some r):GTo Try.prog 113 [.sl a0.length (fl (eI .u64) a0),.val (.int .i64 a1),.val (.int .i64 a2)] O n (.val (.int .u64 r)) O n:=by
 unfold Uw at h
 refine Yi Zc Try.call113 Try.func113 rfl (Nat.le_of_ble_eq_true rfl) (Nat.le_refl _) fun hU => ?_
 have hN0:O n=none:=hU.fresh _ (Nat.le_refl _)
 have hN:∀ k,O (n+k)=none:=fun k=>hU.fresh _ (Nat.le_add_right _ _)
 show W _ _ _ _ ⟨39,[],[(0,.sl a0.length (fl (eI .u64) a0)),(1,.val (.int .i64 a1)),(2,.val (.int .i64 a2))]⟩ (Z4 O n []) _
 refine Zn [0,1,2] (Zb Zc [] ?_)
 simp only [push_cast,seval,Za,hN0,hN]
 refine Zf ?_
 obtain ⟨y2,hy2,h⟩:=bC h
 refine Zb Zc [] ?_
 simp only [push_cast,seval,Za,hN0,hN]
 refine (Ve hy2).then ?_
 simp only [push_cast,seval,Za,hN0,hN]
 refine Zg [0,2,7] [] ?_
 simp only [push_cast,seval]
 refine Zf ?_
 refine Zn [0,2,7,21] (Zb Zc [none,none,none,none] ?_)
 simp only [push_cast,seval,Za,hN0,hN]
 repeat (with_reducible refine And.intro (by first | (intro h0;simp only [h0];done) | (intro h0;simp only [h0,true_and,and_true,imp_self,implies_true,ne_eq];done) | (intros;simp_all;done) | exact True.intro) ?_)
 refine Zq (t:=(cond (cond (decide (y2 < 1)) true (decide (a2 < 0))) true (decide (1099511627776 < a2)))) rfl (fun c6 => ?_) (fun c6 => ?_)
 ·replace h:=Zz c6 h
  refine Zn [6] (Zb Zc [] ?_)
  simp only [push_cast,seval,Za,hN0,hN]
  refine Zv ?_
  try simp only [Zh,Ze]
  have h:=Option.some.inj h;subst h
  refine Zo (.inr rfl) hU [.val (.int .u64 0)] (by omega) ?_
  simp only [push_cast,seval,Za,Try.results113,hN0,hN]
 replace h:=Zy c6 h
 refine Zt ?_
 try simp only [Zh,Ze]
 refine Zg [0,2,7] [] ?_
 simp only [push_cast,seval]
 refine Zn [0,2,7,8] (Zb Zc [] ?_)
 simp only [push_cast,seval,Za,hN0,hN]
 refine Zf ?_
 refine Zn [0,2,7,8,9] (Zb Zc [] ?_)
 simp only [push_cast,seval,Za,hN0,hN]
 refine Zg [0,2,7,8,9] [] ?_
 simp only [push_cast,seval]
 obtain ⟨z5,hz5,h⟩:=bC h
 refine Y2 (E':=⟨39,[],[(8,.val (.int .u64 z5))]⟩) (O':=(Z4 O n [])) (n0:=n) ?_ ?_
 ·refine Xp hz5 (fun s0_=>⟨39,[],[(0,.sl a0.length (fl (eI .u64) a0)),(2,.val (.int .i64 a2)),(7,.val (.int .i64 y2)),(8,.val (.int .u64 s0_.1)),(9,.val (.int .i64 s0_.2))]⟩) (fun s0_=>(Z4 O n [])) (fun z5=>JX 0 n (⟨39,[],[(8,.val (.int .u64 z5))]⟩:Env) (Z4 O n []) n) ?_
  intro s0_ x0_ hs0_
  unfold J4 at hs0_
  try dsimp only
  refine Zf ?_
  refine Zn [0,2,7,8,9,25] (Zb Zc [] ?_)
  simp only [push_cast,seval,Za,hN0,hN]
  refine Zq (t:=(decide (0≤s0_.2))) rfl (fun c4 => ?_) (fun c4 => ?_)
  ·replace hs0_:=Zz c4 hs0_
   refine Zt ?_
   try simp only [Zh,Ze]
   refine Zg [0,2,7,8,9] [] ?_
   simp only [push_cast,seval]
   refine Zf ?_
   refine Yl ?_
   obtain ⟨y3,hy3,hs0_⟩:=bC hs0_
   refine Zb Zc [] ?_
   simp only [push_cast,seval,Za,hN0,hN]
   refine (Zpb hy3).then ?_
   simp only [push_cast,seval,Za,hN0,hN]
   refine Zg [0,2,7,8,9] [] ?_
   simp only [push_cast,seval]
   refine Zb Zc [] ?_
   simp only [push_cast,seval,Za,hN0,hN]
   have hs0_:=Option.some.inj hs0_;subst hs0_
   refine And.intro rfl (Fit2.of (Zp hU rfl rfl ?_) (by omega))
   simp only [push_cast,seval,Za,hN0,hN]
  replace hs0_:=Zy c4 hs0_
  refine X9 ?_
  try simp only [Zh,Ze,↓reduceIte,Nat.reduceEqDiff]
  have hs0_:=Option.some.inj hs0_;subst hs0_
  refine And.intro (fun h=>by cases h) (And.intro rfl (Fit2.of (Zp hU rfl rfl ?_) (by omega)))
  simp only [push_cast,seval,Za,hN0,hN]
 try simp only [Zh,Ze,↓reduceIte,Nat.reduceEqDiff]
 refine Zg [8] [] ?_
 simp only [push_cast,seval]
 refine Zn [6] (Zb Zc [] ?_)
 simp only [push_cast,seval,Za,hN0,hN]
 refine Zv ?_
 try simp only [Zh,Ze]
 have h:=Option.some.inj h;subst h
 refine Zo (.inr rfl) hU [.val (.int .u64 z5)] (by omega) ?_
 simp only [push_cast,seval,Za,Try.results113,hN0,hN]
theorem Zcg {a0:Zw} {a1:(List (List Int))} {a2:Int} {r:(Zw×Int)} {O:Objs} {n:Nat} (h:Jj a0 a1 a2=some r):GTo Try.prog 74 [.agg (Z0 a0),.sl a1.length (fl (eL (eI .u64)) a1),.val (.int .i64 a2)] O n (.tup [.agg (Z0 r.1),.val (.int .i64 r.2)]) O n:=by
 unfold Jj at h
 refine Yi Zc Try.call74 Try.func74 rfl (Nat.le_of_ble_eq_true rfl) (Nat.le_refl _) fun hU => ?_
 have hN0:O n=none:=hU.fresh _ (Nat.le_refl _)
 have hN:∀ k,O (n+k)=none:=fun k=>hU.fresh _ (Nat.le_add_right _ _)
 show W _ _ _ _ ⟨80,[],[(0,.agg (Z0 a0)),(1,.sl a1.length (fl (eL (eI .u64)) a1)),(2,.val (.int .i64 a2))]⟩ (Z4 O n []) _
 refine Zn [1,2,3,6] (Zb Zc [] ?_)
 simp only [push_cast,seval,Za,hN0,hN]
 refine Zf ?_
 obtain ⟨z2,hz2,h⟩:=bC h
 refine Yt (E':=⟨80,[],[(1,.sl a1.length (fl (eL (eI .u64)) a1)),(2,.val (.int .i64 a2)),(3,.ref n 0),(6,.ref (n+1) 0),(15,.val (.bool z2))]⟩) (O':=(Z4 O n [some ⟨false,87,7,1,(Z0 a0)⟩,some ⟨false,87,7,1,[.val (.int .i64 0),.val (.int .i64 0),.val (.int .i64 0),.val (.int .i64 0),.val (.int .i64 0),.val (.int .i64 0),.val (.int .u64 0)]⟩])) (n0:=(n+2)) ?_ ?_
 ·rcases Bool.eq_false_or_eq_true (decide (a2 < 0)) with c5 | c5
  ·replace hz2:=Zz c5 hz2
   refine Zb Zc (Z1u []) ?_
   simp only [push_cast,seval,Za,c5,hN0,hN]
   have hz2:=Option.some.inj hz2;subst hz2
   refine And.intro rfl (Fit2.of (Zp hU rfl rfl ?_) (by omega))
   simp only [push_cast,seval,Za,c5,hN0,hN]
  replace hz2:=Zy c5 hz2
  obtain ⟨y4,hy4,hz2⟩:=bC hz2
  refine Zb Zc (Zx6 []) ?_
  simp only [push_cast,seval,Za,c5,hN0,hN]
  refine (Gc hy4).then ?_
  simp only [push_cast,seval,Za,c5,hN0,hN]
  have hz2:=Option.some.inj hz2;subst hz2
  refine And.intro rfl (Fit2.of (Zp hU rfl rfl ?_) (by omega))
  simp only [push_cast,seval,Za,c5,hN0,hN]
 refine Zq (t:=z2) rfl (fun c19 => ?_) (fun c19 => ?_)
 ·replace h:=Zz c19 h
  refine Zf ?_
  refine Zb Zc [] ?_
  simp only [push_cast,seval,Za,hN0,hN]
  refine Zg [6,7] [false,true] ?_
  simp only [push_cast,seval]
  refine Zv ?_
  try simp only [Zh,Ze]
  have h:=Option.some.inj h;subst h
  refine Zo (.inr rfl) hU [.agg [.val (.int .i64 0),.val (.int .i64 0),.val (.int .i64 0),.val (.int .i64 0),.val (.int .i64 0),.val (.int .i64 0),.val (.int .u64 0)],.val (.int .i64 0)] (by omega) ?_
  simp only [push_cast,seval,Za,Try.results74,hN0,hN]
 replace h:=Zy c19 h
 refine Zt ?_
 try simp only [Zh,Ze]
 refine Zg [1,2,3,6] [true,true] ?_
 simp only [push_cast,seval]
 refine Zf ?_
 refine Zn [1,2,3,6,19] (Zb Zc [] ?_)
 simp only [push_cast,seval,Za,hN0,hN]
 refine Zq (t:=(a0.Kind == 1)) rfl (fun c18 => ?_) (fun c18 => ?_)
 ·replace h:=Zz c18 h
  refine Zf ?_
  obtain ⟨y7,hy7,h⟩:=bC h
  refine Zb Zc [] ?_
  simp only [push_cast,seval,Za,hN0,hN]
  refine (Zcy hy7).then ?_
  simp only [push_cast,seval,Za,hN0,hN]
  refine Zg [6,7] [false,true] ?_
  simp only [push_cast,seval]
  refine Zv ?_
  try simp only [Zh,Ze]
  have h:=Option.some.inj h;subst h
  refine Zo (.inr rfl) hU [.agg (Z0 y7.1),.val (.int .i64 y7.2)] (by omega) ?_
  simp only [push_cast,seval,Za,Try.results74,hN0,hN]
 replace h:=Zy c18 h
 refine Zt ?_
 try simp only [Zh,Ze]
 refine Zg [1,2,3,6] [true,true] ?_
 simp only [push_cast,seval]
 refine Zf ?_
 refine Zn [1,2,3,6,35] (Zb Zc [] ?_)
 simp only [push_cast,seval,Za,hN0,hN]
 refine Zq (t:=(a0.Kind == 8)) rfl (fun c17 => ?_) (fun c17 => ?_)
 ·replace h:=Zz c17 h
  refine Zf ?_
  obtain ⟨y9,hy9,h⟩:=bC h
  refine Zb Zc [] ?_
  simp only [push_cast,seval,Za,hN0,hN]
  refine (Zcy hy9).then ?_
  simp only [push_cast,seval,Za,hN0,hN]
  refine Zg [6,7] [false,true] ?_
  simp only [push_cast,seval]
  refine Zv ?_
  try simp only [Zh,Ze]
  have h:=Option.some.inj h;subst h
  refine Zo (.inr rfl) hU [.agg (Z0 y9.1),.val (.int .i64 y9.2)] (by omega) ?_
  simp only [push_cast,seval,Za,Try.results74,hN0,hN]
 replace h:=Zy c17 h
 refine Zt ?_
 try simp only [Zh,Ze]
 refine Zg [1,2,3,6] [true,true] ?_
 simp only [push_cast,seval]
 refine Zf ?_
 refine Zn [1,2,3,6,48] (Zb Zc [] ?_)
 simp only [push_cast,seval,Za,hN0,hN]
 refine Zq (t:=(a0.Kind == 9)) rfl (fun c16 => ?_) (fun c16 => ?_)
 ·replace h:=Zz c16 h
  refine Zf ?_
  refine Zb Zc [] ?_
  simp only [push_cast,seval,Za,hN0,hN]
  refine Zg [6,7] [false,true] ?_
  simp only [push_cast,seval]
  refine Zv ?_
  try simp only [Zh,Ze]
  have h:=Option.some.inj h;subst h
  refine Zo (.inr rfl) hU [.agg [.val (.int .i64 1),.val (.int .i64 a0.S),.val (.int .i64 (IntKind.i64.wrap (a0.At+(IntKind.i64.wrap (a2 * (IntKind.i64.wrap (a0.Data+a0.Ptrs))))))),.val (.int .i64 a0.Data),.val (.int .i64 a0.Ptrs),.val (.int .i64 0),.val (.int .u64 0)],.val (.int .i64 0)] (by omega) ?_
  simp only [push_cast,seval,Za,Try.results74,hN0,hN]
 replace h:=Zy c16 h
 refine Zt ?_
 try simp only [Zh,Ze]
 refine Zg [1,2,3,6] [true,true] ?_
 simp only [push_cast,seval]
 refine Zf ?_
 obtain ⟨x13,hx13,ax13,bx13,cx13,h⟩:=bE (f:=(eL (eI .u64))) U1 (fun _=>rfl) (by decide) h
 obtain ⟨l14,al14,bl14,cl14,gl14,h⟩:=bS (lo:=(some (.i64,a0.At))) (hi:=none) (f:=(eI .u64)) rfl rfl Zdd Vz (fun _=>rfl) h
 obtain ⟨y15,hy15,h⟩:=bC h
 refine Zkc Zc (by kernel_rfl) [false,false,false,false,false,false,false,false,false,false,false,false,false,false,true,false] [] (by kernel_rfl) ?_
 simp only [push_cast,Nat.reduceAdd,Nat.reduceSub,Nat.reduceMul,Nat.reduceLeDiff,Nat.reduceLT,Nat.reduceEqDiff,↓reduceIte,reduceCtorEq,Int.reduceBEq,Int.reduceBNe,Nat.reduceBEq,Int.reduceLE,Int.reduceLT,Int.reduceEq,Int.reduceNe,Int.reduceNeg,Nat.reduceDiv,Nat.reduceMod,Nat.reducePow,Za,ax13,bx13,cx13,al14,bl14,cl14,gl14,hN0,hN]
 refine PCall.of (Zpc hy15) ?_
 simp only [push_cast,Nat.reduceAdd,Nat.reduceSub,Nat.reduceMul,Nat.reduceLeDiff,Nat.reduceLT,Nat.reduceEqDiff,↓reduceIte,reduceCtorEq,Int.reduceBEq,Int.reduceBNe,Nat.reduceBEq,Int.reduceLE,Int.reduceLT,Int.reduceEq,Int.reduceNe,Int.reduceNeg,Nat.reduceDiv,Nat.reduceMod,Nat.reducePow,Za,ax13,bx13,cx13,al14,bl14,cl14,gl14,hN0,hN]
 refine Zg [6,7] [false,true] ?_
 simp only [push_cast,seval]
 refine Zv ?_
 try simp only [Zh,Ze]
 have h:=Option.some.inj h;subst h
 refine Zo (.inr rfl) hU [.agg [.val (.int .i64 10),.val (.int .i64 0),.val (.int .i64 0),.val (.int .i64 0),.val (.int .i64 0),.val (.int .i64 0),.val (.int .u64 y15)],.val (.int .i64 0)] (by omega) ?_
 simp only [push_cast,seval,Za,Try.results74,hN0,hN]
attribute [local push_cast] Bool.and_true decide_true Bool.not_not Zcs List.length_append Xo Js Bool.not_eq_false' Zsx Zqo Zjy Zfw Kh Zc8 Zh4 Zb5 Zom Zuw Zr6
theorem Zig {Yq:((List (List Int))→Zw→Int→Int→Option (Zi×Int×Int))} {Xv:((List (List Int))→Zw→Int→Int→Option (Zi×Int×Int))} (Uz:∀ {a0:(List (List Int))} {a1:Zw} {a2:Int} {a3:Int} {r:(Zi×Int×Int)} {O:Objs} {n:Nat},Yq a0 a1 a2 a3=some r→GTo Try.prog 38 [.sl a0.length (fl (eL (eI .u64)) a0),.agg (Z0 a1),.val (.int .i64 a2),.val (.int .i64 a3)] O n (.tup [.agg (Zm r.1),.val (.int .i64 r.2.1),.val (.int .i64 r.2.2)]) O n) (Zdq:∀ {a0:(List (List Int))} {a1:Zw} {a2:Int} {a3:Int} {r:(Zi×Int×Int)} {O:Objs} {n:Nat},Xv a0 a1 a2 a3=some r→GTo Try.prog 75 [.sl a0.length (fl (eL (eI .u64)) a0),.agg (Z0 a1),.val (.int .i64 a2),.val (.int .i64 a3)] O n (.tup [.agg (Zm r.1),.val (.int .i64 r.2.1),.val (.int .i64 r.2.2)]) O n) {a0:(List (List Int))} {a1:Zw} {a2:Int} {a3:Int} {r:(Zi×Int×Int)} {O:Objs} {n:Nat} (h:Jf Yq Xv a0 a1 a2 a3=some r):GTo Try.prog 38 [.sl a0.length (fl (eL (eI .u64)) a0),.agg (Z0 a1),.val (.int .i64 a2),.val (.int .i64 a3)] O n (.tup [.agg (Zm r.1),.val (.int .i64 r.2.1),.val (.int .i64 r.2.2)]) O n:=by
 unfold Jf at h
 refine Yi Zc Try.call38 Try.func38 rfl (Nat.le_of_ble_eq_true rfl) (Nat.le_refl _) fun hU => ?_
 have hN0:O n=none:=hU.fresh _ (Nat.le_refl _)
 have hN:∀ k,O (n+k)=none:=fun k=>hU.fresh _ (Nat.le_add_right _ _)
 show W _ _ _ _ ⟨149,[],[(0,.sl a0.length (fl (eL (eI .u64)) a0)),(1,.agg (Z0 a1)),(2,.val (.int .i64 a2)),(3,.val (.int .i64 a3))]⟩ (Z4 O n []) _
 refine Zn [0,2,3,5,8] (Zb Zc [] ?_)
 simp only [push_cast,seval,Za,hN0,hN]
 refine Zf ?_
 obtain ⟨y2,hy2,h⟩:=bC h
 refine Zd2 Zc (by kernel_rfl) [.low,.low,.low,.plain,.low,.plain,.pass,.bar] (fun i=>i < (n+2)) [0,1,2,3,4,5,6,7] [.low,.low,.low,.plain,.low,.plain,.pass,.bar] [] (by kernel_rfl) rfl ?_
 simp only [push_cast,seval,Za,hN0,hN]
 repeat (with_reducible refine And.intro (by first | omega | exact Kg rfl | exact Ja | exact Ur rfl | exact Gf rfl rfl | exact K9 rfl | exact Kq rfl) ?_)
 first | refine PCallA.of (fun _ _=>Jm hy2) ?_ | refine PCall.of (Jm hy2) ?_
 simp only [push_cast,seval,Za,hN0,hN]
 repeat (with_reducible refine And.intro (by first | omega | exact Kg rfl | exact Ja | exact Ur rfl | exact Gf rfl rfl | exact K9 rfl | exact Kq rfl) ?_)
 refine Zg [0,2,3,5,8,11] [true,true,true] ?_
 simp only [push_cast,seval]
 refine Zf ?_
 refine Zn [0,2,3,5,8,11,25] (Zb Zc [] ?_)
 simp only [push_cast,seval,Za,hN0,hN]
 refine Zq (t:=(a1.Kind == 0)) rfl (fun c27 => ?_) (fun c27 => ?_)
 ·replace h:=Zz c27 h
  refine Zf ?_
  refine Zb Zc [] ?_
  simp only [push_cast,seval,Za,hN0,hN]
  refine Zg [8,9,10] [false,true,false] ?_
  simp only [push_cast,seval]
  refine Zv ?_
  try simp only [Zh,Ze]
  have h:=Option.some.inj h;subst h
  refine Zo (.inr rfl) hU [.agg [.val (.int .i64 a1.Kind),.sl y2.length (fl (eI .u64) y2),.val (.slice none 0 0)],.val (.int .i64 a3),.val (.int .i64 0)] (by omega) ?_
  simp only [push_cast,seval,Za,Try.results38,hN0,hN]
 replace h:=Zy c27 h
 refine Zt ?_
 try simp only [Zh,Ze]
 refine Zg [0,2,3,5,8,11] [true,true,true] ?_
 simp only [push_cast,seval]
 refine Zf ?_
 refine Zn [0,2,3,5,8,11,43] (Zb Zc [none,none,none,none,none,none,none,none,none,none,none,none] ?_)
 simp only [push_cast,seval,Za,hN0,hN]
 repeat (with_reducible refine And.intro (by first | (intro h0;simp only [h0,and_self];done) | (intro h0;simp only [h0,Bool.not_true,Bool.and_true,true_and,and_true,and_self,imp_self,implies_true,ne_eq,beq_iff_eq];done) | (intros;simp_all;done) | exact True.intro) ?_)
 refine Zq (t:=(cond (decide (a2 < 1)) true (cond (cond (a1.Kind == 9) (decide (0 < a1.Count)) false) (decide (a2 < 2)) false))) rfl (fun c26 => ?_) (fun c26 => ?_)
 ·replace h:=Zz c26 h
  refine Zf ?_
  refine Zb Zc [] ?_
  simp only [push_cast,seval,Za,hN0,hN]
  refine Zg [8,9,10] [false,true,false] ?_
  simp only [push_cast,seval]
  refine Zv ?_
  try simp only [Zh,Ze]
  have h:=Option.some.inj h;subst h
  refine Zo (.inr rfl) hU [.agg [.val (.int .i64 a1.Kind),.sl y2.length (fl (eI .u64) y2),.val (.slice none 0 0)],.val (.int .i64 a3),.val (.int .i64 3)] (by omega) ?_
  simp only [push_cast,seval,Za,Try.results38,hN0,hN]
 replace h:=Zy c26 h
 refine Zt ?_
 try simp only [Zh,Ze]
 refine Zg [0,2,3,5,8,11] [true,true,true] ?_
 simp only [push_cast,seval]
 refine Zf ?_
 obtain ⟨y4,hy4,h⟩:=bC h
 refine Zb Zc [] ?_
 simp only [push_cast,seval,Za,hN0,hN]
 refine (Gc hy4).then ?_
 simp only [push_cast,seval,Za,hN0,hN]
 refine Zg [0,2,3,5,8,11,12] [true,true,true] ?_
 simp only [push_cast,seval]
 obtain ⟨z5,hz5,h⟩:=bC h
 refine Yt (E':=⟨149,[],[(0,.sl a0.length (fl (eL (eI .u64)) a0)),(2,.val (.int .i64 a2)),(3,.val (.int .i64 a3)),(5,.ref n 0),(8,.ref (n+1) 0),(11,.ref (n+2) 0),(12,.val (.int .i64 z5))]⟩) (O':=(Z4 O n [some ⟨false,87,7,1,(Z0 a1)⟩,some ⟨false,25,3,1,[.val (.int .i64 0),.val (.slice none 0 0),.val (.slice none 0 0)]⟩,some ⟨false,25,3,1,[.val (.int .i64 a1.Kind),.sl y2.length (fl (eI .u64) y2),.val (.slice none 0 0)]⟩])) (n0:=(n+3)) ?_ ?_
 ·refine Zn [0,2,3,5,8,11,12,51] (Zb Zc [] ?_)
  simp only [push_cast,seval,Za,hN0,hN]
  refine Zq (t:=(a1.Kind == 1)) rfl (fun c6 => ?_) (fun c6 => ?_)
  ·replace hz5:=Zz c6 hz5
   refine Zb Zc [] ?_
   simp only [push_cast,seval,Za,hN0,hN]
   have hz5:=Option.some.inj hz5;subst hz5
   refine And.intro rfl (Fit2.of (Zp hU rfl rfl ?_) (by omega))
   simp only [push_cast,seval,Za,hN0,hN]
  replace hz5:=Zy c6 hz5
  refine Zt ?_
  try simp only [Zh,Ze]
  have hz5:=Option.some.inj hz5;subst hz5
  refine And.intro rfl (Fit2.of (Zp hU rfl rfl ?_) (by omega))
  simp only [push_cast,seval,Za,hN0,hN]
 obtain ⟨z7,hz7,h⟩:=bC h
 refine Yt (E':=⟨149,[],[(0,.sl a0.length (fl (eL (eI .u64)) a0)),(2,.val (.int .i64 a2)),(3,.val (.int .i64 a3)),(5,.ref n 0),(8,.ref (n+1) 0),(11,.ref (n+2) 0),(12,.val (.int .i64 z7))]⟩) (O':=(Z4 O n [some ⟨false,87,7,1,(Z0 a1)⟩,some ⟨false,25,3,1,[.val (.int .i64 0),.val (.slice none 0 0),.val (.slice none 0 0)]⟩,some ⟨false,25,3,1,[.val (.int .i64 a1.Kind),.sl y2.length (fl (eI .u64) y2),.val (.slice none 0 0)]⟩])) (n0:=(n+3)) ?_ ?_
 ·refine Zn [0,2,3,5,8,11,12,60] (Zb Zc [] ?_)
  simp only [push_cast,seval,Za,hN0,hN]
  refine Zq (t:=(a1.Kind == 9)) rfl (fun c8 => ?_) (fun c8 => ?_)
  ·replace hz7:=Zz c8 hz7
   refine Zb Zc [] ?_
   simp only [push_cast,seval,Za,hN0,hN]
   have hz7:=Option.some.inj hz7;subst hz7
   refine And.intro rfl (Fit2.of (Zp hU rfl rfl ?_) (by omega))
   simp only [push_cast,seval,Za,hN0,hN]
  replace hz7:=Zy c8 hz7
  refine Zt ?_
  try simp only [Zh,Ze]
  have hz7:=Option.some.inj hz7;subst hz7
  refine And.intro rfl (Fit2.of (Zp hU rfl rfl ?_) (by omega))
  simp only [push_cast,seval,Za,hN0,hN]
 refine Zf ?_
 refine Zn [0,2,3,5,8,11,12,73] (Zb Zc [] ?_)
 simp only [push_cast,seval,Za,hN0,hN]
 refine Zq (t:=(decide (a3 < z7))) rfl (fun c25 => ?_) (fun c25 => ?_)
 ·replace h:=Zz c25 h
  refine Zf ?_
  refine Zb Zc [] ?_
  simp only [push_cast,seval,Za,hN0,hN]
  refine Zg [8,9,10] [false,true,false] ?_
  simp only [push_cast,seval]
  refine Zv ?_
  try simp only [Zh,Ze]
  have h:=Option.some.inj h;subst h
  refine Zo (.inr rfl) hU [.agg [.val (.int .i64 a1.Kind),.sl y2.length (fl (eI .u64) y2),.val (.slice none 0 0)],.val (.int .i64 a3),.val (.int .i64 3)] (by omega) ?_
  simp only [push_cast,seval,Za,Try.results38,hN0,hN]
 replace h:=Zy c25 h
 refine Zt ?_
 try simp only [Zh,Ze]
 refine Zg [0,2,3,5,8,11,12] [true,true,true] ?_
 simp only [push_cast,seval]
 refine Zn [0,2,3,5,8,11] (Zb Zc [] ?_)
 simp only [push_cast,seval,Za,hN0,hN]
 refine Zf ?_
 refine Zn [0,2,3,5,8,11,13] (Zb Zc [] ?_)
 simp only [push_cast,seval,Za,hN0,hN]
 refine Zg [0,2,3,5,8,11,13] [true,true,true] ?_
 simp only [push_cast,seval]
 refine U7 (E':=(⟨149,[],[(0,.sl a0.length (fl (eL (eI .u64)) a0)),(2,.val (.int .i64 a2)),(3,.val (.int .i64 (IntKind.i64.wrap (a3 - z7)))),(5,.ref n 0),(8,.ref (n+1) 0),(11,.ref (n+2) 0),(13,.val (.int .i64 0))]⟩:Env)) (O':=(Z4 O n [some ⟨false,87,7,1,(Z0 a1)⟩,some ⟨false,25,3,1,[.val (.int .i64 0),.val (.slice none 0 0),.val (.slice none 0 0)]⟩,some ⟨false,25,3,1,[.val (.int .i64 a1.Kind),.sl y2.length (fl (eI .u64) y2),.row (n+3) ([]:List Zi).length]⟩,some ⟨true,25,3,([]:List Zi).length,fl Zl ([]:List Zi)⟩,none])) (n':=(n+5)) ?_ ?_
 ·refine Fit2.trans (E':=(⟨149,[],[(0,.sl a0.length (fl (eL (eI .u64)) a0)),(2,.val (.int .i64 a2)),(3,.val (.int .i64 (IntKind.i64.wrap (a3 - z7)))),(5,.ref n 0),(8,.ref (n+1) 0),(11,.ref (n+2) 0),(13,.val (.int .i64 0))]⟩:Env)) (O':=(Z4 O n [some ⟨false,87,7,1,(Z0 a1)⟩,some ⟨false,25,3,1,[.val (.int .i64 0),.val (.slice none 0 0),.val (.slice none 0 0)]⟩,some ⟨false,25,3,1,[.val (.int .i64 a1.Kind),.sl y2.length (fl (eI .u64) y2),.val (.slice none 0 0)]⟩])) (n':=(n+3)) (Fit2.of (Zp hU rfl rfl ?_) (by omega)) ?_
  ·simp only [push_cast,seval,Za,hN0,hN]
  refine Fit2.trans (Zcl (p:=(n+2)) (k:=2) (q:=⟨false,25,3,1,[.val (.int .i64 a1.Kind),.sl y2.length (fl (eI .u64) y2),.val (.slice none 0 0)]⟩) 25 3 (by simp only [Gk,Zc9,List.getElem?_cons_zero,List.getElem?_cons_succ,Option.join_some,List.length_nil]) rfl (by omega)) ?_
  simp only [Qh,Xl,Zae,List.set_cons_zero,List.set_cons_succ,List.cons_append,List.nil_append,List.length_cons,List.length_nil,Nat.zero_add,Nat.reduceAdd,Nat.reduceLT,Nat.add_assoc]
  refine Zap (k:=4) (k':=5) hU [0,1,2,3] [0,1,2,3,0] rfl rfl rfl rfl ⟨rfl,rfl⟩ ?_
  simp only [push_cast,seval,Za,hN0,hN]
 obtain ⟨z24,hz24,h⟩:=bC h
 refine Za6 (J:=(Qu (fun z24=>JR n (⟨149,[],[(8,.ref (n+1) 0),(9,.val (.int .i64 z24.1)),(10,.val (.int .i64 z24.2.1))]⟩:Env) (Z4 O n [none,some ⟨false,25,3,1,[.val (.int .i64 a1.Kind),.sl y2.length (fl (eI .u64) y2),.sl z24.2.2.length (fl Zl z24.2.2)]⟩,none]) (n+3)) (fun z24=>JX 0 n (⟨149,[],[(3,.val (.int .i64 z24.1)),(8,.ref (n+1) 0),(11,.ref (n+2) 0)]⟩:Env) (Z4 O n [none,some ⟨false,25,3,1,[.val (.int .i64 0),.val (.slice none 0 0),.val (.slice none 0 0)]⟩,some ⟨false,25,3,1,[.val (.int .i64 a1.Kind),.sl y2.length (fl (eI .u64) y2),.row (n+3) z24.2.length]⟩,some ⟨true,25,3,z24.2.length,fl Zl z24.2⟩,none]) (n+5)))) (z:=z24) ?_ fun hw => ?_
 ·refine Xp hz24 (fun s0_=>⟨149,[],[(0,.sl a0.length (fl (eL (eI .u64)) a0)),(2,.val (.int .i64 a2)),(3,.val (.int .i64 s0_.1)),(5,.ref n 0),(8,.ref (n+1) 0),(11,.ref (n+2) 0),(13,.val (.int .i64 s0_.2.1))]⟩) (fun s0_=>(Z4 O n [some ⟨false,87,7,1,(Z0 a1)⟩,some ⟨false,25,3,1,[.val (.int .i64 0),.val (.slice none 0 0),.val (.slice none 0 0)]⟩,some ⟨false,25,3,1,[.val (.int .i64 a1.Kind),.sl y2.length (fl (eI .u64) y2),.row (n+3) s0_.2.2.length]⟩,some ⟨true,25,3,s0_.2.2.length,fl Zl s0_.2.2⟩,none])) (Qu (fun z24=>JR n (⟨149,[],[(8,.ref (n+1) 0),(9,.val (.int .i64 z24.1)),(10,.val (.int .i64 z24.2.1))]⟩:Env) (Z4 O n [none,some ⟨false,25,3,1,[.val (.int .i64 a1.Kind),.sl y2.length (fl (eI .u64) y2),.sl z24.2.2.length (fl Zl z24.2.2)]⟩,none]) (n+3)) (fun z24=>JX 0 n (⟨149,[],[(3,.val (.int .i64 z24.1)),(8,.ref (n+1) 0),(11,.ref (n+2) 0)]⟩:Env) (Z4 O n [none,some ⟨false,25,3,1,[.val (.int .i64 0),.val (.slice none 0 0),.val (.slice none 0 0)]⟩,some ⟨false,25,3,1,[.val (.int .i64 a1.Kind),.sl y2.length (fl (eI .u64) y2),.row (n+3) z24.2.length]⟩,some ⟨true,25,3,z24.2.length,fl Zl z24.2⟩,none]) (n+5))) ?_
  intro s0_ x0_ hs0_
  unfold Jg at hs0_
  try dsimp only
  refine Zf ?_
  refine Zf ?_
  obtain ⟨y10,hy10,hs0_⟩:=bC hs0_
  refine Zb Zc [] ?_
  simp only [push_cast,seval,Za,hN0,hN]
  refine (Gc hy10).then ?_
  simp only [push_cast,seval,Za,hN0,hN]
  refine Zg [0,2,3,5,8,11,13,82] [true,true,true,true,false] ?_
  simp only [push_cast,seval]
  refine Zq (t:=(decide (s0_.2.1 < y10))) rfl (fun c23 => ?_) (fun c23 => ?_)
  ·replace hs0_:=Zz c23 hs0_
   refine Zt ?_
   try simp only [Zh,Ze]
   refine Zg [0,2,3,5,8,11,13] [true,true,true,true,false] ?_
   simp only [push_cast,seval]
   refine Zf ?_
   refine Yl ?_
   refine Zf ?_
   obtain ⟨y12,hy12,hs0_⟩:=bC hs0_
   refine Zb Zc [] ?_
   simp only [push_cast,seval,Za,hN0,hN]
   refine (Zcg hy12).then ?_
   simp only [push_cast,seval,Za,hN0,hN]
   refine Zg [0,2,3,5,8,11,13,14,15] [true,true,true,true,false,true] ?_
   simp only [push_cast,seval]
   refine Zf ?_
   refine Zn [0,2,3,5,8,11,13,14,15,93] (Zb Zc [] ?_)
   simp only [push_cast,seval,Za,hN0,hN]
   refine Zq (t:=(y12.2 != 0)) rfl (fun c22 => ?_) (fun c22 => ?_)
   ·replace hs0_:=Zz c22 hs0_
    refine Zf ?_
    refine Zb Zc [] ?_
    simp only [push_cast,seval,Za,hN0,hN]
    refine Zg [8,9,10] [false,true,false,true,false,false] ?_
    simp only [push_cast,seval]
    refine Zv ?_
    try simp only [Zh,Ze]
    have hs0_:=Option.some.inj hs0_;subst hs0_
    refine And.intro (fun h=>by cases h) (And.intro rfl (Fit2.of (Zp hU rfl rfl ?_) (by omega)))
    simp only [push_cast,seval,Za,hN0,hN]
   replace hs0_:=Zy c22 hs0_
   refine Zt ?_
   try simp only [Zh,Ze]
   refine Zg [0,2,3,5,8,11,13,14,15] [true,true,true,true,false,true] ?_
   simp only [push_cast,seval]
   refine Zf ?_
   obtain ⟨y14,hy14,hs0_⟩:=bC hs0_
   refine Zd2 Zc (by kernel_rfl) [.low,.low,.low,.plain,.low,.plain,.pass,.bar] (fun i=>i < (n+6)) [0,1,2,3,4,5,6,7] [.low,.low,.low,.plain,.low,.plain,.pass,.bar] [] (by kernel_rfl) rfl ?_
   simp only [push_cast,seval,Za,hN0,hN]
   repeat (with_reducible refine And.intro (by first | omega | exact Kg rfl | exact Ja | exact Ur rfl | exact Gf rfl rfl | exact K9 rfl | exact Kq rfl) ?_)
   first | refine PCallA.of (fun _ _=>Jm hy14) ?_ | refine PCall.of (Jm hy14) ?_
   simp only [push_cast,seval,Za,hN0,hN]
   repeat (with_reducible refine And.intro (by first | omega | exact Kg rfl | exact Ja | exact Ur rfl | exact Gf rfl rfl | exact K9 rfl | exact Kq rfl) ?_)
   refine Zg [0,2,3,5,8,11,13,14,15,16] [true,true,true,true,false,true,true] ?_
   simp only [push_cast,seval]
   obtain ⟨z15,hz15,hs0_⟩:=bC hs0_
   refine Yt (E':=⟨149,[],[(0,.sl a0.length (fl (eL (eI .u64)) a0)),(2,.val (.int .i64 a2)),(3,.val (.int .i64 z15.1)),(5,.ref n 0),(8,.ref (n+1) 0),(11,.ref (n+2) 0),(13,.val (.int .i64 s0_.2.1)),(15,.val (.int .i64 z15.2.1)),(16,.ref (n+6) 0)]⟩) (O':=(Z4 O n [some ⟨false,87,7,1,(Z0 a1)⟩,some ⟨false,25,3,1,[.val (.int .i64 0),.val (.slice none 0 0),.val (.slice none 0 0)]⟩,some ⟨false,25,3,1,[.val (.int .i64 a1.Kind),.sl y2.length (fl (eI .u64) y2),.row (n+3) s0_.2.2.length]⟩,some ⟨true,25,3,s0_.2.2.length,fl Zl s0_.2.2⟩,none,none,some ⟨false,25,3,1,[.val (.int .i64 z15.2.2.1),.sl z15.2.2.2.1.length (fl (eI .u64) z15.2.2.2.1),.sl z15.2.2.2.2.length (fl Zl z15.2.2.2.2)]⟩])) (n0:=(n+7)) ?_ ?_
   ·refine Yl ?_
    refine Zn [0,2,3,5,8,11,13,14,15,16,103] (Zb Zc [] ?_)
    simp only [push_cast,seval,Za,hN0,hN]
    refine Zq (t:=(a1.Kind == 9)) rfl (fun c19 => ?_) (fun c19 => ?_)
    ·replace hz15:=Zz c19 hz15
     obtain ⟨y16,hy16,hz15⟩:=bC hz15
     refine Zb Zc [] ?_
     simp only [push_cast,seval,Za,hN0,hN]
     refine (Zdq hy16).then ?_
     simp only [push_cast,seval,Za,hN0,hN]
     have hz15:=Option.some.inj hz15;subst hz15
     refine And.intro rfl (Fit2.of (Zp hU rfl rfl ?_) (by omega))
     simp only [push_cast,seval,Za,hN0,hN]
    replace hz15:=Zy c19 hz15
    refine Zn [0,2,3,5,8,11,13,14,15,16,117] (Zb Zc [none,none,none] ?_)
    simp only [push_cast,seval,Za,hN0,hN]
    repeat (with_reducible refine And.intro (by first | (intro h0;simp only [h0,and_self];done) | (intro h0;simp only [h0,Bool.not_true,Bool.and_true,true_and,and_true,and_self,imp_self,implies_true,ne_eq,beq_iff_eq];done) | (intros;simp_all;done) | exact True.intro) ?_)
    refine Zq (t:=(cond (a1.Kind == 1) true (a1.Kind == 8))) rfl (fun c18 => ?_) (fun c18 => ?_)
    ·replace hz15:=Zz c18 hz15
     obtain ⟨y17,hy17,hz15⟩:=bC hz15
     refine Zb Zc [] ?_
     simp only [push_cast,seval,Za,hN0,hN]
     refine (Uz hy17).then ?_
     simp only [push_cast,seval,Za,hN0,hN]
     have hz15:=Option.some.inj hz15;subst hz15
     refine And.intro rfl (Fit2.of (Zp hU rfl rfl ?_) (by omega))
     simp only [push_cast,seval,Za,hN0,hN]
    replace hz15:=Zy c18 hz15
    refine Zt ?_
    try simp only [Zh,Ze]
    have hz15:=Option.some.inj hz15;subst hz15
    refine And.intro rfl (Fit2.of (Zp hU rfl rfl ?_) (by omega))
    simp only [push_cast,seval,Za,hN0,hN]
   refine Zf ?_
   refine Zn [0,2,3,5,8,11,13,15,16,137] (Zb Zc [] ?_)
   simp only [push_cast,seval,Za,hN0,hN]
   refine Zq (t:=(z15.2.1 != 0)) rfl (fun c21 => ?_) (fun c21 => ?_)
   ·replace hs0_:=Zz c21 hs0_
    refine Zf ?_
    refine Zb Zc [] ?_
    simp only [push_cast,seval,Za,hN0,hN]
    refine Zg [8,9,10] [false,true,false,true,false,false,false] ?_
    simp only [push_cast,seval]
    refine Zv ?_
    try simp only [Zh,Ze]
    have hs0_:=Option.some.inj hs0_;subst hs0_
    refine And.intro (fun h=>by cases h) (And.intro rfl (Fit2.of (Zp hU rfl rfl ?_) (by omega)))
    simp only [push_cast,seval,Za,hN0,hN]
   replace hs0_:=Zy c21 hs0_
   refine Zt ?_
   try simp only [Zh,Ze]
   refine Zg [0,2,3,5,8,11,13,16] [true,true,true,true,false,false,true] ?_
   simp only [push_cast,seval]
   obtain ⟨l20,pl20,ql20,el20,hs0_⟩:=bA (k:=1) rfl hs0_
   refine Zb Zc [] ?_
   simp only [push_cast,seval,Za,pl20,ql20,el20,hN0,hN]
   refine U3 ⟨149,[],[(0,.sl a0.length (fl (eL (eI .u64)) a0)),(2,.val (.int .i64 a2)),(3,.val (.int .i64 z15.1)),(5,.ref n 0),(8,.ref (n+1) 0),(11,.ref (n+2) 0),(13,.val (.int .i64 s0_.2.1))]⟩ (Z4 O n [some ⟨false,87,7,1,(Z0 a1)⟩,some ⟨false,25,3,1,[.val (.int .i64 0),.val (.slice none 0 0),.val (.slice none 0 0)]⟩,some ⟨false,25,3,1,[.val (.int .i64 a1.Kind),.sl y2.length (fl (eI .u64) y2),.row (n+3) l20.length]⟩,some ⟨true,25,3,l20.length,fl Zl l20⟩,none,none,none,none]) (Zp hU rfl rfl ?_) ?_
   ·simp only [push_cast,seval,Za,pl20,ql20,el20,hN0,hN]
   refine Zb Zc [] ?_
   simp only [push_cast,seval,Za,hN0,hN]
   have hs0_:=Option.some.inj hs0_;subst hs0_
   refine And.intro rfl (Fit2.of (Zp hU rfl rfl ?_) (by omega))
   simp only [push_cast,seval,Za,hN0,hN]
  replace hs0_:=Zy c23 hs0_
  refine X9 ?_
  try simp only [Zh,Ze,↓reduceIte,Nat.reduceEqDiff]
  have hs0_:=Option.some.inj hs0_;subst hs0_
  refine And.intro (fun h=>by cases h) (And.intro rfl (Fit2.of (Zp hU rfl rfl ?_) (by omega)))
  simp only [push_cast,seval,Za,hN0,hN]
 rcases z24 with z24 | z24
 ·dsimp only [Qu] at hw h
  refine Vn hw ?_
  try simp only [Zh,Ze,↓reduceIte,Nat.reduceEqDiff]
  have h:=Option.some.inj h;subst h
  refine Zo (.inr rfl) hU [.agg [.val (.int .i64 a1.Kind),.sl y2.length (fl (eI .u64) y2),.sl z24.2.2.length (fl Zl z24.2.2)],.val (.int .i64 z24.1),.val (.int .i64 z24.2.1)] (by omega) ?_
  simp only [push_cast,seval,Za,Try.results38,hN0,hN]
 dsimp only [Qu] at hw h
 refine Y2 hw ?_
 try simp only [Zh,Ze,↓reduceIte,Nat.reduceEqDiff]
 refine Zg [3,8,11] [false,true,true,true,false] ?_
 simp only [push_cast,seval]
 refine Zf ?_
 refine Zb Zc [] ?_
 simp only [push_cast,seval,Za,hN0,hN]
 refine Zg [8,9,10] [false,true,false,true,false] ?_
 simp only [push_cast,seval]
 refine Zv ?_
 try simp only [Zh,Ze]
 have h:=Option.some.inj h;subst h
 refine Zo (.inr rfl) hU [.agg [.val (.int .i64 a1.Kind),.sl y2.length (fl (eI .u64) y2),.row (n+3) z24.2.length],.val (.int .i64 z24.1),.val (.int .i64 0)] (by omega) ?_
 simp only [push_cast,seval,Za,Try.results38,hN0,hN]
theorem Znb {Yq:((List (List Int))→Zw→Int→Int→Option (Zi×Int×Int))} {Xv:((List (List Int))→Zw→Int→Int→Option (Zi×Int×Int))} (Uz:∀ {a0:(List (List Int))} {a1:Zw} {a2:Int} {a3:Int} {r:(Zi×Int×Int)} {O:Objs} {n:Nat},Yq a0 a1 a2 a3=some r→GTo Try.prog 38 [.sl a0.length (fl (eL (eI .u64)) a0),.agg (Z0 a1),.val (.int .i64 a2),.val (.int .i64 a3)] O n (.tup [.agg (Zm r.1),.val (.int .i64 r.2.1),.val (.int .i64 r.2.2)]) O n) (Zdq:∀ {a0:(List (List Int))} {a1:Zw} {a2:Int} {a3:Int} {r:(Zi×Int×Int)} {O:Objs} {n:Nat},Xv a0 a1 a2 a3=some r→GTo Try.prog 75 [.sl a0.length (fl (eL (eI .u64)) a0),.agg (Z0 a1),.val (.int .i64 a2),.val (.int .i64 a3)] O n (.tup [.agg (Zm r.1),.val (.int .i64 r.2.1),.val (.int .i64 r.2.2)]) O n) {a0:(List (List Int))} {a1:Zw} {a2:Int} {a3:Int} {r:(Zi×Int×Int)} {O:Objs} {n:Nat} (h:K3 Yq Xv a0 a1 a2 a3=some r):GTo Try.prog 75 [.sl a0.length (fl (eL (eI .u64)) a0),.agg (Z0 a1),.val (.int .i64 a2),.val (.int .i64 a3)] O n (.tup [.agg (Zm r.1),.val (.int .i64 r.2.1),.val (.int .i64 r.2.2)]) O n:=by
 unfold K3 at h
 refine Yi Zc Try.call75 Try.func75 rfl (Nat.le_of_ble_eq_true rfl) (Nat.le_refl _) fun hU => ?_
 have hN0:O n=none:=hU.fresh _ (Nat.le_refl _)
 have hN:∀ k,O (n+k)=none:=fun k=>hU.fresh _ (Nat.le_add_right _ _)
 show W _ _ _ _ ⟨63,[],[(0,.sl a0.length (fl (eL (eI .u64)) a0)),(1,.agg (Z0 a1)),(2,.val (.int .i64 a2)),(3,.val (.int .i64 a3))]⟩ (Z4 O n []) _
 refine Zn [0,2,3,5,8] (Zb Zc [] ?_)
 simp only [push_cast,seval,Za,hN0,hN]
 refine Zf ?_
 obtain ⟨y2,hy2,h⟩:=bC h
 refine Zb Zc [] ?_
 simp only [push_cast,seval,Za,hN0,hN]
 refine (Jm hy2).then ?_
 simp only [push_cast,seval,Za,hN0,hN]
 refine Zg [0,2,3,5,8,11] [true,true,true] ?_
 simp only [push_cast,seval]
 refine Zf ?_
 refine Zn [0,2,3,5,8,11,12] (Zb Zc [] ?_)
 simp only [push_cast,seval,Za,hN0,hN]
 refine Zg [0,2,3,5,8,11,12] [true,true,true] ?_
 simp only [push_cast,seval]
 refine U7 (E':=(⟨63,[],[(0,.sl a0.length (fl (eL (eI .u64)) a0)),(2,.val (.int .i64 a2)),(3,.val (.int .i64 a3)),(5,.ref n 0),(8,.ref (n+1) 0),(11,.ref (n+2) 0),(12,.val (.int .i64 0))]⟩:Env)) (O':=(Z4 O n [some ⟨false,87,7,1,(Z0 a1)⟩,some ⟨false,25,3,1,[.val (.int .i64 0),.val (.slice none 0 0),.val (.slice none 0 0)]⟩,some ⟨false,25,3,1,[.val (.int .i64 1),.sl y2.length (fl (eI .u64) y2),.row (n+3) ([]:List Zi).length]⟩,some ⟨true,25,3,([]:List Zi).length,fl Zl ([]:List Zi)⟩,none])) (n':=(n+5)) ?_ ?_
 ·refine Fit2.trans (E':=(⟨63,[],[(0,.sl a0.length (fl (eL (eI .u64)) a0)),(2,.val (.int .i64 a2)),(3,.val (.int .i64 a3)),(5,.ref n 0),(8,.ref (n+1) 0),(11,.ref (n+2) 0),(12,.val (.int .i64 0))]⟩:Env)) (O':=(Z4 O n [some ⟨false,87,7,1,(Z0 a1)⟩,some ⟨false,25,3,1,[.val (.int .i64 0),.val (.slice none 0 0),.val (.slice none 0 0)]⟩,some ⟨false,25,3,1,[.val (.int .i64 1),.sl y2.length (fl (eI .u64) y2),.val (.slice none 0 0)]⟩])) (n':=(n+3)) (Fit2.of (Zp hU rfl rfl ?_) (by omega)) ?_
  ·simp only [push_cast,seval,Za,hN0,hN]
  refine Fit2.trans (Zcl (p:=(n+2)) (k:=2) (q:=⟨false,25,3,1,[.val (.int .i64 1),.sl y2.length (fl (eI .u64) y2),.val (.slice none 0 0)]⟩) 25 3 (by simp only [Gk,Zc9,List.getElem?_cons_zero,List.getElem?_cons_succ,Option.join_some,List.length_nil]) rfl (by omega)) ?_
  simp only [Qh,Xl,Zae,List.set_cons_zero,List.set_cons_succ,List.cons_append,List.nil_append,List.length_cons,List.length_nil,Nat.zero_add,Nat.reduceAdd,Nat.reduceLT,Nat.add_assoc]
  refine Zap (k:=4) (k':=5) hU [0,1,2,3] [0,1,2,3,0] rfl rfl rfl rfl ⟨rfl,rfl⟩ ?_
  simp only [push_cast,seval,Za,hN0,hN]
 obtain ⟨z11,hz11,h⟩:=bC h
 refine Za6 (J:=(Qu (fun z11=>JR n (⟨63,[],[(8,.ref (n+1) 0),(9,.val (.int .i64 z11.1)),(10,.val (.int .i64 z11.2.1))]⟩:Env) (Z4 O n [none,some ⟨false,25,3,1,[.val (.int .i64 1),.sl y2.length (fl (eI .u64) y2),.sl z11.2.2.length (fl Zl z11.2.2)]⟩,none]) (n+3)) (fun z11=>JX 0 n (⟨63,[],[(3,.val (.int .i64 z11.1)),(8,.ref (n+1) 0),(11,.ref (n+2) 0)]⟩:Env) (Z4 O n [none,some ⟨false,25,3,1,[.val (.int .i64 0),.val (.slice none 0 0),.val (.slice none 0 0)]⟩,some ⟨false,25,3,1,[.val (.int .i64 1),.sl y2.length (fl (eI .u64) y2),.row (n+3) z11.2.length]⟩,some ⟨true,25,3,z11.2.length,fl Zl z11.2⟩,none]) (n+5)))) (z:=z11) ?_ fun hw => ?_
 ·refine Xp hz11 (fun s0_=>⟨63,[],[(0,.sl a0.length (fl (eL (eI .u64)) a0)),(2,.val (.int .i64 a2)),(3,.val (.int .i64 s0_.1)),(5,.ref n 0),(8,.ref (n+1) 0),(11,.ref (n+2) 0),(12,.val (.int .i64 s0_.2.1))]⟩) (fun s0_=>(Z4 O n [some ⟨false,87,7,1,(Z0 a1)⟩,some ⟨false,25,3,1,[.val (.int .i64 0),.val (.slice none 0 0),.val (.slice none 0 0)]⟩,some ⟨false,25,3,1,[.val (.int .i64 1),.sl y2.length (fl (eI .u64) y2),.row (n+3) s0_.2.2.length]⟩,some ⟨true,25,3,s0_.2.2.length,fl Zl s0_.2.2⟩,none])) (Qu (fun z11=>JR n (⟨63,[],[(8,.ref (n+1) 0),(9,.val (.int .i64 z11.1)),(10,.val (.int .i64 z11.2.1))]⟩:Env) (Z4 O n [none,some ⟨false,25,3,1,[.val (.int .i64 1),.sl y2.length (fl (eI .u64) y2),.sl z11.2.2.length (fl Zl z11.2.2)]⟩,none]) (n+3)) (fun z11=>JX 0 n (⟨63,[],[(3,.val (.int .i64 z11.1)),(8,.ref (n+1) 0),(11,.ref (n+2) 0)]⟩:Env) (Z4 O n [none,some ⟨false,25,3,1,[.val (.int .i64 0),.val (.slice none 0 0),.val (.slice none 0 0)]⟩,some ⟨false,25,3,1,[.val (.int .i64 1),.sl y2.length (fl (eI .u64) y2),.row (n+3) z11.2.length]⟩,some ⟨true,25,3,z11.2.length,fl Zl z11.2⟩,none]) (n+5))) ?_
  intro s0_ x0_ hs0_
  unfold Ks at hs0_
  try dsimp only
  refine Zf ?_
  refine Zn [0,2,3,5,8,11,12,25] (Zb Zc [] ?_)
  simp only [push_cast,seval,Za,hN0,hN]
  refine Zq (t:=(decide (s0_.2.1 < a1.Ptrs))) rfl (fun c10 => ?_) (fun c10 => ?_)
  ·replace hs0_:=Zz c10 hs0_
   refine Zt ?_
   try simp only [Zh,Ze]
   refine Zg [0,2,3,5,8,11,12] [true,true,true,true,false] ?_
   simp only [push_cast,seval]
   refine Zf ?_
   refine Yl ?_
   refine Zf ?_
   obtain ⟨y4,hy4,hs0_⟩:=bC hs0_
   refine Zb Zc [] ?_
   simp only [push_cast,seval,Za,hN0,hN]
   refine (Zcg hy4).then ?_
   simp only [push_cast,seval,Za,hN0,hN]
   refine Zg [0,2,3,5,8,11,12,13,14] [true,true,true,true,false,true] ?_
   simp only [push_cast,seval]
   refine Zf ?_
   refine Zn [0,2,3,5,8,11,12,13,14,36] (Zb Zc [] ?_)
   simp only [push_cast,seval,Za,hN0,hN]
   refine Zq (t:=(y4.2 != 0)) rfl (fun c9 => ?_) (fun c9 => ?_)
   ·replace hs0_:=Zz c9 hs0_
    refine Zf ?_
    refine Zb Zc [] ?_
    simp only [push_cast,seval,Za,hN0,hN]
    refine Zg [8,9,10] [false,true,false,true,false,false] ?_
    simp only [push_cast,seval]
    refine Zv ?_
    try simp only [Zh,Ze]
    have hs0_:=Option.some.inj hs0_;subst hs0_
    refine And.intro (fun h=>by cases h) (And.intro rfl (Fit2.of (Zp hU rfl rfl ?_) (by omega)))
    simp only [push_cast,seval,Za,hN0,hN]
   replace hs0_:=Zy c9 hs0_
   refine Zt ?_
   try simp only [Zh,Ze]
   refine Zg [0,2,3,5,8,11,12,13] [true,true,true,true,false,true] ?_
   simp only [push_cast,seval]
   refine Zf ?_
   obtain ⟨y6,hy6,hs0_⟩:=bC hs0_
   refine Zb Zc [] ?_
   simp only [push_cast,seval,Za,hN0,hN]
   refine (Uz hy6).then ?_
   simp only [push_cast,seval,Za,hN0,hN]
   refine Zg [0,2,5,8,11,12,15,16,17] [true,true,true,true,false,false,true] ?_
   simp only [push_cast,seval]
   refine Zf ?_
   refine Zn [0,2,5,8,11,12,15,16,17,50] (Zb Zc [] ?_)
   simp only [push_cast,seval,Za,hN0,hN]
   refine Zq (t:=(y6.2.2 != 0)) rfl (fun c8 => ?_) (fun c8 => ?_)
   ·replace hs0_:=Zz c8 hs0_
    refine Zf ?_
    refine Zb Zc [] ?_
    simp only [push_cast,seval,Za,hN0,hN]
    refine Zg [8,9,10] [false,true,false,true,false,false,false] ?_
    simp only [push_cast,seval]
    refine Zv ?_
    try simp only [Zh,Ze]
    have hs0_:=Option.some.inj hs0_;subst hs0_
    refine And.intro (fun h=>by cases h) (And.intro rfl (Fit2.of (Zp hU rfl rfl ?_) (by omega)))
    simp only [push_cast,seval,Za,hN0,hN]
   replace hs0_:=Zy c8 hs0_
   refine Zt ?_
   try simp only [Zh,Ze]
   refine Zg [0,2,5,8,11,12,15,16] [true,true,true,true,false,false,true] ?_
   simp only [push_cast,seval]
   refine Zn [0,2,3,5,8,11,12,15] (Zb Zc [] ?_)
   simp only [push_cast,seval,Za,hN0,hN]
   obtain ⟨l7,pl7,ql7,el7,hs0_⟩:=bA (k:=1) rfl hs0_
   refine Zb Zc [] ?_
   simp only [push_cast,seval,Za,pl7,ql7,el7,hN0,hN]
   refine U3 ⟨63,[],[(0,.sl a0.length (fl (eL (eI .u64)) a0)),(2,.val (.int .i64 a2)),(3,.val (.int .i64 y6.2.1)),(5,.ref n 0),(8,.ref (n+1) 0),(11,.ref (n+2) 0),(12,.val (.int .i64 s0_.2.1))]⟩ (Z4 O n [some ⟨false,87,7,1,(Z0 a1)⟩,some ⟨false,25,3,1,[.val (.int .i64 0),.val (.slice none 0 0),.val (.slice none 0 0)]⟩,some ⟨false,25,3,1,[.val (.int .i64 1),.sl y2.length (fl (eI .u64) y2),.row (n+3) l7.length]⟩,some ⟨true,25,3,l7.length,fl Zl l7⟩,none,none,none,none]) (Zp hU rfl rfl ?_) ?_
   ·simp only [push_cast,seval,Za,pl7,ql7,el7,hN0,hN]
   refine Zb Zc [] ?_
   simp only [push_cast,seval,Za,hN0,hN]
   have hs0_:=Option.some.inj hs0_;subst hs0_
   refine And.intro rfl (Fit2.of (Zp hU rfl rfl ?_) (by omega))
   simp only [push_cast,seval,Za,hN0,hN]
  replace hs0_:=Zy c10 hs0_
  refine X9 ?_
  try simp only [Zh,Ze,↓reduceIte,Nat.reduceEqDiff]
  have hs0_:=Option.some.inj hs0_;subst hs0_
  refine And.intro (fun h=>by cases h) (And.intro rfl (Fit2.of (Zp hU rfl rfl ?_) (by omega)))
  simp only [push_cast,seval,Za,hN0,hN]
 rcases z11 with z11 | z11
 ·dsimp only [Qu] at hw h
  refine Vn hw ?_
  try simp only [Zh,Ze,↓reduceIte,Nat.reduceEqDiff]
  have h:=Option.some.inj h;subst h
  refine Zo (.inr rfl) hU [.agg [.val (.int .i64 1),.sl y2.length (fl (eI .u64) y2),.sl z11.2.2.length (fl Zl z11.2.2)],.val (.int .i64 z11.1),.val (.int .i64 z11.2.1)] (by omega) ?_
  simp only [push_cast,seval,Za,Try.results75,hN0,hN]
 dsimp only [Qu] at hw h
 refine Y2 hw ?_
 try simp only [Zh,Ze,↓reduceIte,Nat.reduceEqDiff]
 refine Zg [3,8,11] [false,true,true,true,false] ?_
 simp only [push_cast,seval]
 refine Zf ?_
 refine Zb Zc [] ?_
 simp only [push_cast,seval,Za,hN0,hN]
 refine Zg [8,9,10] [false,true,false,true,false] ?_
 simp only [push_cast,seval]
 refine Zv ?_
 try simp only [Zh,Ze]
 have h:=Option.some.inj h;subst h
 refine Zo (.inr rfl) hU [.agg [.val (.int .i64 1),.sl y2.length (fl (eI .u64) y2),.row (n+3) z11.2.length],.val (.int .i64 z11.1),.val (.int .i64 0)] (by omega) ?_
 simp only [push_cast,seval,Za,Try.results75,hN0,hN]
theorem Zf8:∀ k,(∀ {a0:(List (List Int))} {a1:Zw} {a2:Int} {a3:Int} {r:(Zi×Int×Int)} {O:Objs} {n:Nat},(Yn k).1 a0 a1 a2 a3=some r→GTo Try.prog 38 [.sl a0.length (fl (eL (eI .u64)) a0),.agg (Z0 a1),.val (.int .i64 a2),.val (.int .i64 a3)] O n (.tup [.agg (Zm r.1),.val (.int .i64 r.2.1),.val (.int .i64 r.2.2)]) O n)∧(∀ {a0:(List (List Int))} {a1:Zw} {a2:Int} {a3:Int} {r:(Zi×Int×Int)} {O:Objs} {n:Nat},(Yn k).2 a0 a1 a2 a3=some r→GTo Try.prog 75 [.sl a0.length (fl (eL (eI .u64)) a0),.agg (Z0 a1),.val (.int .i64 a2),.val (.int .i64 a3)] O n (.tup [.agg (Zm r.1),.val (.int .i64 r.2.1),.val (.int .i64 r.2.2)]) O n):=fun k=>by
 induction k with
 | zero=>exact ⟨@fun a0 a1 a2 a3 r O n h=>(nomatch (show (none:Option _)=some _ from h)),@fun a0 a1 a2 a3 r O n h=>(nomatch (show (none:Option _)=some _ from h))⟩
 | succ k ih=>exact ⟨@fun a0 a1 a2 a3 r O n h=>Zig (ih.1) (ih.2)  h,@fun a0 a1 a2 a3 r O n h=>Znb (ih.1) (ih.2)  h⟩
theorem Zi6 {a0:(List (List Int))} {a1:Zw} {a2:Int} {a3:Int} {r:(Zi×Int×Int)} {O:Objs} {n:Nat} (h:Gx a0 a1 a2 a3=some r):GTo Try.prog 38 [.sl a0.length (fl (eL (eI .u64)) a0),.agg (Z0 a1),.val (.int .i64 a2),.val (.int .i64 a3)] O n (.tup [.agg (Zm r.1),.val (.int .i64 r.2.1),.val (.int .i64 r.2.2)]) O n:=by
 obtain ⟨k,hk⟩:=Ze9 h
 exact (Zf8 k).1  hk
theorem Zdo {a0:(List (List Int))} {a1:Yg} {r:(Zi×Int×Int)} {O:Objs} {n:Nat} (h:X6 a0 a1=some r):GTo Try.prog 14 [.sl a0.length (fl (eL (eI .u64)) a0),.agg (Qj a1)] O n (.tup [.agg (Zm r.1),.val (.int .i64 r.2.1),.val (.int .i64 r.2.2)]) O n:=by
 unfold X6 at h
 refine Yi Zc Try.call14 Try.func14 rfl (Nat.le_of_ble_eq_true rfl) (Nat.le_refl _) fun hU => ?_
 have hN0:O n=none:=hU.fresh _ (Nat.le_refl _)
 have hN:∀ k,O (n+k)=none:=fun k=>hU.fresh _ (Nat.le_add_right _ _)
 show W _ _ _ _ ⟨43,[],[(0,.sl a0.length (fl (eL (eI .u64)) a0)),(1,.agg (Qj a1))]⟩ (Z4 O n []) _
 refine Zn [0,3,4] (Zb Zc [] ?_)
 simp only [push_cast,seval,Za,hN0,hN]
 refine Zf ?_
 obtain ⟨y2,hy2,h⟩:=bC h
 refine Zb Zc [] ?_
 simp only [push_cast,seval,Za,hN0,hN]
 refine (Zjo hy2).then ?_
 simp only [push_cast,seval,Za,hN0,hN]
 refine Zg [0,3,4] [true,true] ?_
 simp only [push_cast,seval]
 refine Zf ?_
 obtain ⟨y4,hy4,h⟩:=bC h
 refine Zb Zc [] ?_
 simp only [push_cast,seval,Za,hN0,hN]
 refine (Zcy hy4).then ?_
 simp only [push_cast,seval,Za,hN0,hN]
 refine Zg [0,3,4,7,8] [true,true,true] ?_
 simp only [push_cast,seval]
 refine Zf ?_
 refine Zn [0,3,4,7,8,20] (Zb Zc [] ?_)
 simp only [push_cast,seval,Za,hN0,hN]
 refine Zq (t:=(y4.2 != 0)) rfl (fun c8 => ?_) (fun c8 => ?_)
 ·replace h:=Zz c8 h
  refine Zf ?_
  refine Zb Zc [] ?_
  simp only [push_cast,seval,Za,hN0,hN]
  refine Zg [4,5,6] [false,true,false] ?_
  simp only [push_cast,seval]
  refine Zv ?_
  try simp only [Zh,Ze]
  have h:=Option.some.inj h;subst h
  refine Zo (.inr rfl) hU [.agg [.val (.int .i64 0),.val (.slice none 0 0),.val (.slice none 0 0)],.val (.int .i64 0),.val (.int .i64 y4.2)] (by omega) ?_
  simp only [push_cast,seval,Za,Try.results14,hN0,hN]
 replace h:=Zy c8 h
 refine Zt ?_
 try simp only [Zh,Ze]
 refine Zg [0,3,4,7] [true,true,true] ?_
 simp only [push_cast,seval]
 refine Zf ?_
 obtain ⟨y6,hy6,h⟩:=bC h
 refine Zb Zc [] ?_
 simp only [push_cast,seval,Za,hN0,hN]
 refine (Zi6 hy6).then ?_
 simp only [push_cast,seval,Za,hN0,hN]
 refine Zg [3,4,9,10,11] [true,true,false,true] ?_
 simp only [push_cast,seval]
 refine Zf ?_
 refine Zn [3,4,9,10,11,35] (Zb Zc [] ?_)
 simp only [push_cast,seval,Za,hN0,hN]
 refine Zq (t:=(y6.2.2 != 0)) rfl (fun c7 => ?_) (fun c7 => ?_)
 ·replace h:=Zz c7 h
  refine Zf ?_
  refine Zb Zc [] ?_
  simp only [push_cast,seval,Za,hN0,hN]
  refine Zg [4,5,6] [false,true,false,false] ?_
  simp only [push_cast,seval]
  refine Zv ?_
  try simp only [Zh,Ze]
  have h:=Option.some.inj h;subst h
  refine Zo (.inr rfl) hU [.agg [.val (.int .i64 0),.val (.slice none 0 0),.val (.slice none 0 0)],.val (.int .i64 0),.val (.int .i64 y6.2.2)] (by omega) ?_
  simp only [push_cast,seval,Za,Try.results14,hN0,hN]
 replace h:=Zy c7 h
 refine Zt ?_
 try simp only [Zh,Ze]
 refine Zg [3,4,9,10] [true,true,false,true] ?_
 simp only [push_cast,seval]
 refine Zf ?_
 refine Zd2 Zc (by kernel_rfl) [.plain,.low,.low,.plain,.low,.pass,.plain,.plain] (fun i=>i≠n+1) [0,1,2,3,4,5,6,7] [.plain,.low,.low,.plain,.low,.pass,.plain,.plain] [] (by kernel_rfl) rfl ?_
 simp only [push_cast,seval,Za,hN0,hN]
 repeat (with_reducible refine And.intro (by first | omega | exact Kg rfl | exact Ja | exact Ur rfl | exact Gf rfl rfl | exact K9 rfl | exact Kq rfl) ?_)
 refine Zg [4,5,6] [false,true,false,false] ?_
 simp only [push_cast,seval]
 refine Zv ?_
 try simp only [Zh,Ze]
 have h:=Option.some.inj h;subst h
 refine Zo (.inr rfl) hU [.agg (Zm y6.1),.val (.int .i64 (IntKind.i64.wrap (y2.Weight - y6.2.1))),.val (.int .i64 0)] (by omega) ?_
 simp only [push_cast,seval,Za,Try.results14,hN0,hN]
theorem Zna {K7:(Zi→Zi→Option Bool)} (Zjr:∀ {a0:Zi} {a1:Zi} {r:Bool} {O:Objs} {n:Nat},K7 a0 a1=some r→GTo Try.prog 82 [.agg (Zm a0),.agg (Zm a1)] O n (.val (.bool r)) O n) {a0:Zi} {a1:Zi} {r:Bool} {O:Objs} {n:Nat} (h:V2 K7 a0 a1=some r):GTo Try.prog 82 [.agg (Zm a0),.agg (Zm a1)] O n (.val (.bool r)) O n:=by
 unfold V2 at h
 refine Yi Zc Try.call82 Try.func82 rfl (Nat.le_of_ble_eq_true rfl) (Nat.le_refl _) fun hU => ?_
 have hN0:O n=none:=hU.fresh _ (Nat.le_refl _)
 have hN:∀ k,O (n+k)=none:=fun k=>hU.fresh _ (Nat.le_add_right _ _)
 show W _ _ _ _ ⟨47,[],[(0,.agg (Zm a0)),(1,.agg (Zm a1))]⟩ (Z4 O n []) _
 refine Zn [2,3] (Zb Zc [] ?_)
 simp only [push_cast,seval,Za,hN0,hN]
 refine Zf ?_
 obtain ⟨z2,hz2,h⟩:=bC h
 refine Yt (E':=⟨47,[],[(2,.ref n 0),(3,.ref (n+1) 0),(27,.val (.bool z2))]⟩) (O':=(Z4 O n [some ⟨false,25,3,1,(Zm a0)⟩,some ⟨false,25,3,1,(Zm a1)⟩])) (n0:=(n+2)) ?_ ?_
 ·rcases Bool.eq_false_or_eq_true (a0.Kind != a1.Kind) with c5 | c5
  ·replace hz2:=Zz c5 hz2
   refine Zb Zc (Yck []) ?_
   simp only [push_cast,seval,Za,c5,hN0,hN]
   have hz2:=Option.some.inj hz2;subst hz2
   refine And.intro rfl (Fit2.of (Zp hU rfl rfl ?_) (by omega))
   simp only [push_cast,seval,Za,c5,hN0,hN]
  replace hz2:=Zy c5 hz2
  obtain ⟨y4,hy4,hz2⟩:=bC hz2
  refine Zb Zc (Z85 (Yed [])) ?_
  simp only [push_cast,seval,Za,c5,hN0,hN]
  repeat (with_reducible refine And.intro (by first | (intro h0;simp only [h0,and_self];done) | (intro h0;simp only [h0,Bool.not_true,true_and,and_true,and_self,imp_self,implies_true,ne_eq];done) | (intros;simp_all;done) | exact True.intro) ?_)
  refine (Zn9 hy4).then ?_
  simp only [push_cast,seval,Za,c5,hN0,hN]
  repeat (with_reducible refine And.intro (by first | (intro h0;simp only [h0,and_self];done) | (intro h0;simp only [h0,Bool.not_true,true_and,and_true,and_self,imp_self,implies_true,ne_eq];done) | (intros;simp_all;done) | exact True.intro) ?_)
  have hz2:=Option.some.inj hz2;subst hz2
  refine And.intro rfl (Fit2.of (Zp hU rfl rfl ?_) (by omega))
  simp only [push_cast,seval,Za,c5,hN0,hN]
 refine Zq (t:=z2) rfl (fun c15 => ?_) (fun c15 => ?_)
 ·replace h:=Zz c15 h
  refine Zn [4] (Zb Zc [] ?_)
  simp only [push_cast,seval,Za,hN0,hN]
  refine Zv ?_
  try simp only [Zh,Ze]
  have h:=Option.some.inj h;subst h
  refine Zo (.inr rfl) hU [.val (.bool false)] (by omega) ?_
  simp only [push_cast,seval,Za,Try.results82,hN0,hN]
 replace h:=Zy c15 h
 refine Zt ?_
 try simp only [Zh,Ze]
 refine Zg [2,3] [true,true] ?_
 simp only [push_cast,seval]
 refine Zf ?_
 refine Zn [2,3,5] (Zb Zc [] ?_)
 simp only [push_cast,seval,Za,hN0,hN]
 refine Zg [2,3,5] [true,true] ?_
 simp only [push_cast,seval]
 obtain ⟨z14,hz14,h⟩:=bC h
 refine Za6 (J:=(Qu (fun z14=>JR n (⟨47,[],[(4,.val (.bool false))]⟩:Env) (Z4 O n [none,none]) (n+2)) (fun z14=>JX 0 n (⟨47,[],[]⟩:Env) (Z4 O n [none,none]) (n+2)))) (z:=z14) ?_ fun hw => ?_
 ·refine Xp hz14 (fun s0_=>⟨47,[],[(2,.ref n 0),(3,.ref (n+1) 0),(5,.val (.int .i64 s0_))]⟩) (fun s0_=>(Z4 O n [some ⟨false,25,3,1,(Zm a0)⟩,some ⟨false,25,3,1,(Zm a1)⟩])) (Qu (fun z14=>JR n (⟨47,[],[(4,.val (.bool false))]⟩:Env) (Z4 O n [none,none]) (n+2)) (fun z14=>JX 0 n (⟨47,[],[]⟩:Env) (Z4 O n [none,none]) (n+2))) ?_
  intro s0_ x0_ hs0_
  unfold Kr at hs0_
  try dsimp only
  refine Zf ?_
  refine Zn [2,3,5,32] (Zb Zc [] ?_)
  simp only [push_cast,seval,Za,hN0,hN]
  refine Zq (t:=(decide (s0_ < (a0.Kids.length:Int)))) rfl (fun c13 => ?_) (fun c13 => ?_)
  ·replace hs0_:=Zz c13 hs0_
   refine Zt ?_
   try simp only [Zh,Ze]
   refine Zg [2,3,5] [true,true] ?_
   simp only [push_cast,seval]
   refine Zf ?_
   refine Yl ?_
   refine Zf ?_
   obtain ⟨x9,hx9,ax9,bx9,cx9,hs0_⟩:=bE (f:=Zl) Za3 (fun _=>rfl) (by decide) hs0_
   obtain ⟨x10,hx10,ax10,bx10,cx10,hs0_⟩:=bE (f:=Zl) Za3 (fun _=>rfl) (by decide) hs0_
   obtain ⟨y11,hy11,hs0_⟩:=bC hs0_
   refine Y1 Zc (by kernel_rfl) [] (by kernel_rfl) ?_
   simp only [push_cast,Nat.reduceAdd,Nat.reduceSub,Nat.reduceMul,Nat.reduceLeDiff,Nat.reduceLT,Nat.reduceEqDiff,↓reduceIte,reduceCtorEq,Int.reduceBEq,Int.reduceBNe,Nat.reduceBEq,Int.reduceLE,Int.reduceLT,Int.reduceEq,Int.reduceNe,Int.reduceNeg,Nat.reduceDiv,Nat.reduceMod,Nat.reducePow,Za,ax9,bx9,cx9,ax10,bx10,cx10,hN0,hN]
   refine PCall.of (Zjr hy11) ?_
   simp only [push_cast,Nat.reduceAdd,Nat.reduceSub,Nat.reduceMul,Nat.reduceLeDiff,Nat.reduceLT,Nat.reduceEqDiff,↓reduceIte,reduceCtorEq,Int.reduceBEq,Int.reduceBNe,Nat.reduceBEq,Int.reduceLE,Int.reduceLT,Int.reduceEq,Int.reduceNe,Int.reduceNeg,Nat.reduceDiv,Nat.reduceMod,Nat.reducePow,Za,ax9,bx9,cx9,ax10,bx10,cx10,hN0,hN]
   refine Zg [2,3,5,46] [true,true] ?_
   simp only [push_cast,seval]
   refine Zq (t:=(!y11)) rfl (fun c12 => ?_) (fun c12 => ?_)
   ·replace hs0_:=Zz c12 hs0_
    refine Zn [4] (Zb Zc [] ?_)
    simp only [push_cast,seval,Za,hN0,hN]
    refine Zv ?_
    try simp only [Zh,Ze]
    have hs0_:=Option.some.inj hs0_;subst hs0_
    refine And.intro (fun h=>by cases h) (And.intro rfl (Fit2.of (Zp hU rfl rfl ?_) (by omega)))
    simp only [push_cast,seval,Za,hN0,hN]
   replace hs0_:=Zy c12 hs0_
   refine Zt ?_
   try simp only [Zh,Ze]
   refine Zg [2,3,5] [true,true] ?_
   simp only [push_cast,seval]
   refine Zb Zc [] ?_
   simp only [push_cast,seval,Za,hN0,hN]
   have hs0_:=Option.some.inj hs0_;subst hs0_
   refine And.intro rfl (Fit2.of (Zp hU rfl rfl ?_) (by omega))
   simp only [push_cast,seval,Za,hN0,hN]
  replace hs0_:=Zy c13 hs0_
  refine X9 ?_
  try simp only [Zh,Ze,↓reduceIte,Nat.reduceEqDiff]
  have hs0_:=Option.some.inj hs0_;subst hs0_
  refine And.intro (fun h=>by cases h) (And.intro rfl (Fit2.of (Zp hU rfl rfl ?_) (by omega)))
  simp only [push_cast,seval,Za,hN0,hN]
 rcases z14 with z14 | z14
 ·dsimp only [Qu] at hw h
  refine Vn hw ?_
  try simp only [Zh,Ze,↓reduceIte,Nat.reduceEqDiff]
  have h:=Option.some.inj h;subst h
  refine Zo (.inr rfl) hU [.val (.bool false)] (by omega) ?_
  simp only [push_cast,seval,Za,Try.results82,hN0,hN]
 dsimp only [Qu] at hw h
 refine Y2 hw ?_
 try simp only [Zh,Ze,↓reduceIte,Nat.reduceEqDiff]
 refine Zg [] [false,false] ?_
 simp only [push_cast,seval]
 refine Zn [4] (Zb Zc [] ?_)
 simp only [push_cast,seval,Za,hN0,hN]
 refine Zv ?_
 try simp only [Zh,Ze]
 have h:=Option.some.inj h;subst h
 refine Zo (.inr rfl) hU [.val (.bool true)] (by omega) ?_
 simp only [push_cast,seval,Za,Try.results82,hN0,hN]
theorem Zi4:∀ k,(∀ {a0:Zi} {a1:Zi} {r:Bool} {O:Objs} {n:Nat},(Jb k) a0 a1=some r→GTo Try.prog 82 [.agg (Zm a0),.agg (Zm a1)] O n (.val (.bool r)) O n):=fun k=>by
 induction k with
 | zero=>exact @fun a0 a1 r O n h=>(nomatch (show (none:Option _)=some _ from h))
 | succ k ih=>exact @fun a0 a1 r O n h=>Zna (ih)  h
theorem Zoa {a0:Zi} {a1:Zi} {r:Bool} {O:Objs} {n:Nat} (h:Zbw a0 a1=some r):GTo Try.prog 82 [.agg (Zm a0),.agg (Zm a1)] O n (.val (.bool r)) O n:=by
 obtain ⟨k,hk⟩:=Ze9 h
 exact (Zi4 k)  hk
theorem Zm7 {a0:(List Zi)} {a1:Zi} {r:((List Zi)×Int)} {O:Objs} {n:Nat} {t0:Nat} (ht0:t0 < n) (hot0:O t0=some ⟨true,25,3,a0.length,fl Zl a0⟩) (h:Vs a0 a1=some r):GTo Try.prog 45 [.row t0 a0.length,.agg (Zm a1)] O n (.tup [.row n r.1.length,.val (.int .i64 r.2)]) (Z4 (O.upd t0 none) n [some ⟨true,25,3,r.1.length,fl Zl r.1⟩]) (n+1):=by
 unfold Vs at h
 refine Yi Zc Try.call45 Try.func45 rfl (Nat.le_of_ble_eq_true rfl) (by omega) fun hU => ?_
 have e0:=Zw5 (ba:=n) (E:=⟨30,[],[(0,.row t0 a0.length),(1,.agg [.val (.int .i64 a1.Kind),.sl a1.Words.length (fl (eI .u64) a1.Words),.sl a1.Kids.length (fl Zl a1.Kids)])]⟩) (O:=(Z4 O n [])) (n:=n) (j:=t0) (len:=a0.length) (q:=⟨true,25,3,a0.length,fl Zl a0⟩) 0 rfl (by rw [Xo _ ht0];exact hot0) (by omega)
 simp only [Js _ _ ht0,Qh,Xl,List.cons_append,List.nil_append,List.length_cons,List.length_nil,Nat.zero_add,Nat.reduceAdd,Nat.add_assoc] at e0
 refine U7 e0 ?_
 have hU:=(Und.drop hU t0)
 have hN0:(O.upd t0 none) n=none:=hU.fresh _ (Nat.le_refl _)
 have hN:∀ k,(O.upd t0 none) (n+k)=none:=fun k=>hU.fresh _ (Nat.le_add_right _ _)
 show W _ _ _ _ ⟨30,[],[(0,.row n a0.length),(0,.row t0 a0.length),(1,.agg (Zm a1))]⟩ (Z4 (O.upd t0 none) n [some ⟨true,25,3,a0.length,fl Zl a0⟩]) _
 refine Zn [0,3] (Zb Zc [] ?_)
 simp only [push_cast,seval,Za,hN0,hN]
 refine Zf ?_
 obtain ⟨y2,hy2,h⟩:=bC h
 refine Zb Zc [] ?_
 simp only [push_cast,seval,Za,hN0,hN]
 refine (Zfd hy2).then ?_
 simp only [push_cast,seval,Za,hN0,hN]
 refine Zg [0,6] [true,false,true] ?_
 simp only [push_cast,seval]
 refine Zf ?_
 refine Zn [0,6,7] (Zb Zc [] ?_)
 simp only [push_cast,seval,Za,hN0,hN]
 refine Zg [0,6,7] [true,false,true] ?_
 simp only [push_cast,seval]
 obtain ⟨z9,hz9,h⟩:=bC h
 refine Za6 (J:=(Qu (fun z9=>JR n (⟨30,[],[(4,.row n a0.length),(5,.val (.int .i64 z9))]⟩:Env) (Z4 (O.upd t0 none) n [some ⟨true,25,3,a0.length,fl Zl a0⟩,none,none]) (n+3)) (fun z9=>JX 0 n (⟨30,[],[(0,.row n a0.length),(6,.ref (n+2) 0)]⟩:Env) (Z4 (O.upd t0 none) n [some ⟨true,25,3,a0.length,fl Zl a0⟩,none,some ⟨false,25,3,1,(Zm y2)⟩]) (n+3)))) (z:=z9) ?_ fun hw => ?_
 ·refine Xp hz9 (fun s0_=>⟨30,[],[(0,.row n a0.length),(6,.ref (n+2) 0),(7,.val (.int .i64 s0_))]⟩) (fun s0_=>(Z4 (O.upd t0 none) n [some ⟨true,25,3,a0.length,fl Zl a0⟩,none,some ⟨false,25,3,1,(Zm y2)⟩])) (Qu (fun z9=>JR n (⟨30,[],[(4,.row n a0.length),(5,.val (.int .i64 z9))]⟩:Env) (Z4 (O.upd t0 none) n [some ⟨true,25,3,a0.length,fl Zl a0⟩,none,none]) (n+3)) (fun z9=>JX 0 n (⟨30,[],[(0,.row n a0.length),(6,.ref (n+2) 0)]⟩:Env) (Z4 (O.upd t0 none) n [some ⟨true,25,3,a0.length,fl Zl a0⟩,none,some ⟨false,25,3,1,(Zm y2)⟩]) (n+3))) ?_
  intro s0_ x0_ hs0_
  unfold Yw at hs0_
  try dsimp only
  refine Zf ?_
  refine Zn [0,6,7,13] (Zb Zc [] ?_)
  simp only [push_cast,seval,Za,hN0,hN]
  refine Zq (t:=(decide (s0_ < (a0.length:Int)))) rfl (fun c8 => ?_) (fun c8 => ?_)
  ·replace hs0_:=Zz c8 hs0_
   refine Zt ?_
   try simp only [Zh,Ze]
   refine Zg [0,6,7] [true,false,true] ?_
   simp only [push_cast,seval]
   refine Zf ?_
   refine Yl ?_
   refine Zf ?_
   obtain ⟨x5,hx5,ax5,bx5,cx5,hs0_⟩:=bE (f:=Zl) Za3 (fun _=>rfl) (by decide) hs0_
   obtain ⟨y6,hy6,hs0_⟩:=bC hs0_
   refine Y1 Zc (by kernel_rfl) [] (by kernel_rfl) ?_
   simp only [push_cast,Nat.reduceAdd,Nat.reduceSub,Nat.reduceMul,Nat.reduceLeDiff,Nat.reduceLT,Nat.reduceEqDiff,↓reduceIte,reduceCtorEq,Int.reduceBEq,Int.reduceBNe,Nat.reduceBEq,Int.reduceLE,Int.reduceLT,Int.reduceEq,Int.reduceNe,Int.reduceNeg,Nat.reduceDiv,Nat.reduceMod,Nat.reducePow,Za,ax5,bx5,cx5,hN0,hN]
   refine PCall.of (Zoa hy6) ?_
   simp only [push_cast,Nat.reduceAdd,Nat.reduceSub,Nat.reduceMul,Nat.reduceLeDiff,Nat.reduceLT,Nat.reduceEqDiff,↓reduceIte,reduceCtorEq,Int.reduceBEq,Int.reduceBNe,Nat.reduceBEq,Int.reduceLE,Int.reduceLT,Int.reduceEq,Int.reduceNe,Int.reduceNeg,Nat.reduceDiv,Nat.reduceMod,Nat.reducePow,Za,ax5,bx5,cx5,hN0,hN]
   refine Zg [0,6,7,21] [true,false,true] ?_
   simp only [push_cast,seval]
   refine Zq (t:=y6) rfl (fun c7 => ?_) (fun c7 => ?_)
   ·replace hs0_:=Zz c7 hs0_
    refine Zn [4,5] (Zb Zc [] ?_)
    simp only [push_cast,seval,Za,hN0,hN]
    refine Zv ?_
    try simp only [Zh,Ze]
    have hs0_:=Option.some.inj hs0_;subst hs0_
    refine And.intro (fun h=>by cases h) (And.intro rfl (Fit2.of (Zp hU rfl rfl ?_) (by omega)))
    simp only [push_cast,seval,Za,hN0,hN]
   replace hs0_:=Zy c7 hs0_
   refine Zt ?_
   try simp only [Zh,Ze]
   refine Zg [0,6,7] [true,false,true] ?_
   simp only [push_cast,seval]
   refine Zb Zc [] ?_
   simp only [push_cast,seval,Za,hN0,hN]
   have hs0_:=Option.some.inj hs0_;subst hs0_
   refine And.intro rfl (Fit2.of (Zp hU rfl rfl ?_) (by omega))
   simp only [push_cast,seval,Za,hN0,hN]
  replace hs0_:=Zy c8 hs0_
  refine X9 ?_
  try simp only [Zh,Ze,↓reduceIte,Nat.reduceEqDiff]
  have hs0_:=Option.some.inj hs0_;subst hs0_
  refine And.intro (fun h=>by cases h) (And.intro rfl (Fit2.of (Zp hU rfl rfl ?_) (by omega)))
  simp only [push_cast,seval,Za,hN0,hN]
 rcases z9 with z9 | z9
 ·dsimp only [Qu] at hw h
  refine Vn hw ?_
  try simp only [Zh,Ze,↓reduceIte,Nat.reduceEqDiff]
  have h:=Option.some.inj h;subst h
  refine Zgl (k:=1) (L3:=[some ⟨true,25,3,a0.length,fl Zl a0⟩,none]) (E2:=(⟨30,[],[(4,.row n a0.length),(5,.val (.int .i64 z9))]⟩:Env)) (n3:=(n+2)) (.inr rfl) hU rfl [.row n a0.length,.val (.int .i64 z9)] ?_ ?_
  ·refine Fit2.trans (E':=(⟨30,[],[(4,.row n a0.length),(5,.val (.int .i64 z9))]⟩:Env)) (O':=(Z4 (O.upd t0 none) n [some ⟨true,25,3,a0.length,fl Zl a0⟩,none,none])) (n':=(n+3)) (Fit2.of (Zp hU rfl rfl ?_) (by omega)) ?_
   ·simp only [push_cast,seval,Za,hN0,hN]
   refine Zap (k:=3) (k':=2) hU [0,1,1] [0,0] rfl rfl rfl rfl ⟨rfl,rfl⟩ ?_
   simp only [push_cast,seval,Za,hN0,hN]
  simp only [push_cast,seval,Za,Try.results45,hN0,hN]
 dsimp only [Qu] at hw h
 refine Y2 hw ?_
 try simp only [Zh,Ze,↓reduceIte,Nat.reduceEqDiff]
 refine Zg [0,6] [true,false,true] ?_
 simp only [push_cast,seval]
 refine Zf ?_
 obtain ⟨l11,pl11,ql11,el11,h⟩:=bA (k:=1) rfl h
 refine Zb Zc [] ?_
 simp only [push_cast,seval,Za,pl11,ql11,el11,hN0,hN]
 refine U3 ⟨30,[],[(4,.row n l11.length),(5,.val (.int .i64 (a0.length:Int)))]⟩ (Z4 (O.upd t0 none) n [some ⟨true,25,3,l11.length,fl Zl l11⟩,none,none,none]) (Zp hU rfl rfl ?_) ?_
 ·simp only [push_cast,seval,Za,pl11,ql11,el11,hN0,hN]
 refine Zv ?_
 try simp only [Zh,Ze]
 have h:=Option.some.inj h;subst h
 refine Zgl (k:=1) (L3:=[some ⟨true,25,3,l11.length,fl Zl l11⟩,none]) (E2:=(⟨30,[],[(4,.row n l11.length),(5,.val (.int .i64 (a0.length:Int)))]⟩:Env)) (n3:=(n+2)) (.inr rfl) hU rfl [.row n l11.length,.val (.int .i64 (a0.length:Int))] ?_ ?_
 ·refine Fit2.trans (E':=(⟨30,[],[(4,.row n l11.length),(5,.val (.int .i64 (a0.length:Int)))]⟩:Env)) (O':=(Z4 (O.upd t0 none) n [some ⟨true,25,3,l11.length,fl Zl l11⟩,none,none,none])) (n':=(n+4)) (Fit2.of (Zp hU rfl rfl ?_) (by omega)) ?_
  ·simp only [push_cast,seval,Za,hN0,hN]
  refine Zap (k:=4) (k':=2) hU [0,1,1,1] [0,0] rfl rfl rfl rfl ⟨rfl,rfl⟩ ?_
  simp only [push_cast,seval,Za,hN0,hN]
 simp only [push_cast,seval,Za,Try.results45,hN0,hN]
theorem Zch {a0:(List Zi)} {a1:(List Zi)} {r:((List Zi)×(List Int))} {O:Objs} {n:Nat} {t0:Nat} (ht0:t0 < n) (hot0:O t0=some ⟨true,25,3,a0.length,fl Zl a0⟩) (h:Jk a0 a1=some r):GTo Try.prog 18 [.row t0 a0.length,.sl a1.length (fl Zl a1)] O n (.tup [.row n r.1.length,.sl r.2.length (fl (eI .i64) r.2)]) (Z4 (O.upd t0 none) n [some ⟨true,25,3,r.1.length,fl Zl r.1⟩]) (n+1):=by
 unfold Jk at h
 refine Yi Zc Try.call18 Try.func18 rfl (Nat.le_of_ble_eq_true rfl) (by omega) fun hU => ?_
 have e0:=Zw5 (ba:=n) (E:=⟨32,[],[(0,.row t0 a0.length),(1,.sl a1.length (fl Zl a1))]⟩) (O:=(Z4 O n [])) (n:=n) (j:=t0) (len:=a0.length) (q:=⟨true,25,3,a0.length,fl Zl a0⟩) 0 rfl (by rw [Xo _ ht0];exact hot0) (by omega)
 simp only [Js _ _ ht0,Qh,Xl,List.cons_append,List.nil_append,List.length_cons,List.length_nil,Nat.zero_add,Nat.reduceAdd,Nat.add_assoc] at e0
 refine U7 e0 ?_
 have hU:=(Und.drop hU t0)
 have hN0:(O.upd t0 none) n=none:=hU.fresh _ (Nat.le_refl _)
 have hN:∀ k,(O.upd t0 none) (n+k)=none:=fun k=>hU.fresh _ (Nat.le_add_right _ _)
 show W _ _ _ _ ⟨32,[],[(0,.row n a0.length),(0,.row t0 a0.length),(1,.sl a1.length (fl Zl a1))]⟩ (Z4 (O.upd t0 none) n [some ⟨true,25,3,a0.length,fl Zl a0⟩]) _
 refine Zn [0,1] (Zb Zc [] ?_)
 simp only [push_cast,seval,Za,hN0,hN]
 refine Zn [0,1,6] (Zb Zc [] ?_)
 simp only [push_cast,seval,Za,hN0,hN]
 refine Zf ?_
 refine Zn [0,1,6,7] (Zb Zc [] ?_)
 simp only [push_cast,seval,Za,hN0,hN]
 refine Zg [0,1,6,7] [true] ?_
 simp only [push_cast,seval]
 refine U7 (E':=(⟨32,[],[(0,.row (n+1) a0.length),(1,.sl a1.length (fl Zl a1)),(6,.row (n+2) ([]:List Int).length),(7,.val (.int .i64 0))]⟩:Env)) (O':=(Z4 (O.upd t0 none) n [none,some ⟨true,25,3,a0.length,fl Zl a0⟩,some ⟨true,3,1,([]:List Int).length,fl (eI .i64) ([]:List Int)⟩,none])) (n':=(n+4)) ?_ ?_
 ·refine Fit2.trans (E':=(⟨32,[],[(0,.row n a0.length),(1,.sl a1.length (fl Zl a1)),(6,.val (.slice none 0 0)),(7,.val (.int .i64 0))]⟩:Env)) (O':=(Z4 (O.upd t0 none) n [some ⟨true,25,3,a0.length,fl Zl a0⟩])) (n':=(n+1)) (Fit2.of (Zp hU rfl rfl ?_) (by omega)) ?_
  ·simp only [push_cast,seval,Za,hN0,hN]
  refine Fit2.trans (Zec 6 3 1 rfl (by omega)) ?_
  simp only [Qh,Xl,Zae,List.set_cons_zero,List.set_cons_succ,List.cons_append,List.nil_append,List.length_cons,List.length_nil,Nat.zero_add,Nat.reduceAdd,Nat.reduceLT,Nat.add_assoc]
  refine Fit2.trans (E':=(⟨32,[],[(0,.row n a0.length),(1,.sl a1.length (fl Zl a1)),(6,.row (n+1) ([]:List Int).length),(7,.val (.int .i64 0))]⟩:Env)) (O':=(Z4 (O.upd t0 none) n [some ⟨true,25,3,a0.length,fl Zl a0⟩,some ⟨true,3,1,([]:List Int).length,fl (eI .i64) ([]:List Int)⟩])) (n':=(n+2)) (Fit2.of (Zp hU rfl rfl ?_) (by omega)) ?_
  ·simp only [push_cast,seval,Za,hN0,hN]
  refine Zap (k:=2) (k':=4) hU [1,2] [0,0,1,0] rfl rfl rfl rfl ⟨rfl,rfl⟩ ?_
  simp only [push_cast,seval,Za,hN0,hN]
 obtain ⟨z7,hz7,h⟩:=bC h
 refine Y2 (E':=⟨32,[],[(0,.row (n+1) z7.1.length),(6,.row (n+2) z7.2.length)]⟩) (O':=(Z4 (O.upd t0 none) n [none,some ⟨true,25,3,z7.1.length,fl Zl z7.1⟩,some ⟨true,3,1,z7.2.length,fl (eI .i64) z7.2⟩,none])) (n0:=(n+4)) ?_ ?_
 ·refine Xp hz7 (fun s0_=>⟨32,[],[(0,.row (n+1) s0_.2.1.length),(1,.sl a1.length (fl Zl a1)),(6,.row (n+2) s0_.2.2.length),(7,.val (.int .i64 s0_.1))]⟩) (fun s0_=>(Z4 (O.upd t0 none) n [none,some ⟨true,25,3,s0_.2.1.length,fl Zl s0_.2.1⟩,some ⟨true,3,1,s0_.2.2.length,fl (eI .i64) s0_.2.2⟩,none])) (fun z7=>JX 0 n (⟨32,[],[(0,.row (n+1) z7.1.length),(6,.row (n+2) z7.2.length)]⟩:Env) (Z4 (O.upd t0 none) n [none,some ⟨true,25,3,z7.1.length,fl Zl z7.1⟩,some ⟨true,3,1,z7.2.length,fl (eI .i64) z7.2⟩,none]) (n+4)) ?_
  intro s0_ x0_ hs0_
  unfold Qg at hs0_
  try dsimp only
  refine Zf ?_
  refine Zn [0,1,6,7,13] (Zb Zc [] ?_)
  simp only [push_cast,seval,Za,hN0,hN]
  refine Zq (t:=(decide (s0_.1 < (a1.length:Int)))) rfl (fun c6 => ?_) (fun c6 => ?_)
  ·replace hs0_:=Zz c6 hs0_
   refine Zt ?_
   try simp only [Zh,Ze]
   refine Zg [0,1,6,7] [false,true,true,false] ?_
   simp only [push_cast,seval]
   refine Zf ?_
   refine Yl ?_
   refine Zf ?_
   obtain ⟨x3,hx3,ax3,bx3,cx3,hs0_⟩:=bE (f:=Zl) Za3 (fun _=>rfl) (by decide) hs0_
   obtain ⟨y4,hy4,hs0_⟩:=bC hs0_
   refine Zb Zc [] ?_
   simp only [push_cast,Nat.reduceAdd,Nat.reduceSub,Nat.reduceMul,Nat.reduceLeDiff,Nat.reduceLT,Nat.reduceEqDiff,↓reduceIte,reduceCtorEq,Int.reduceBEq,Int.reduceBNe,Nat.reduceBEq,Int.reduceLE,Int.reduceLT,Int.reduceEq,Int.reduceNe,Int.reduceNeg,Nat.reduceDiv,Nat.reduceMod,Nat.reducePow,Za,ax3,bx3,cx3,hN0,hN]
   refine (Zm7 (t0:=(n+1)) (by omega) (by simp only [push_cast,Nat.reduceAdd,Nat.reduceSub,Nat.reduceMul,Nat.reduceLeDiff,Nat.reduceLT,Nat.reduceEqDiff,↓reduceIte,reduceCtorEq,Int.reduceBEq,Int.reduceBNe,Nat.reduceBEq,Int.reduceLE,Int.reduceLT,Int.reduceEq,Int.reduceNe,Int.reduceNeg,Nat.reduceDiv,Nat.reduceMod,Nat.reducePow,Za,Qk,ax3,bx3,cx3,hN0,hN] <;> rfl) hy4).then ?_
   simp only [push_cast,Nat.reduceAdd,Nat.reduceSub,Nat.reduceMul,Nat.reduceLeDiff,Nat.reduceLT,Nat.reduceEqDiff,↓reduceIte,reduceCtorEq,Int.reduceBEq,Int.reduceBNe,Nat.reduceBEq,Int.reduceLE,Int.reduceLT,Int.reduceEq,Int.reduceNe,Int.reduceNeg,Nat.reduceDiv,Nat.reduceMod,Nat.reducePow,Za,ax3,bx3,cx3,hN0,hN]
   refine Zg [1,6,7,8,9] [false,false,true,false,true] ?_
   simp only [push_cast,seval]
   refine Zn [0,1,6,7,9] (Zb Zc [] ?_)
   simp only [push_cast,seval,Za,hN0,hN]
   obtain ⟨l5,pl5,ql5,el5,hs0_⟩:=bA (k:=1) rfl hs0_
   refine Zb Zc [] ?_
   simp only [push_cast,seval,Za,pl5,ql5,el5,hN0,hN]
   refine U3 ⟨32,[],[(0,.row (n+4) y4.1.length),(1,.sl a1.length (fl Zl a1)),(6,.row (n+2) l5.length),(7,.val (.int .i64 s0_.1))]⟩ (Z4 (O.upd t0 none) n [none,none,some ⟨true,3,1,l5.length,fl (eI .i64) l5⟩,none,some ⟨true,25,3,y4.1.length,fl Zl y4.1⟩,none]) (Zp hU rfl rfl ?_) ?_
   ·simp only [push_cast,seval,Za,pl5,ql5,el5,hN0,hN]
   refine Zb Zc [] ?_
   simp only [push_cast,seval,Za,hN0,hN]
   have hs0_:=Option.some.inj hs0_;subst hs0_
   refine And.intro rfl ?_
   refine Fit2.trans (E':=(⟨32,[],[(0,.row (n+4) y4.1.length),(1,.sl a1.length (fl Zl a1)),(6,.row (n+2) l5.length),(7,.val (.int .i64 (IntKind.i64.wrap (s0_.1+1))))]⟩:Env)) (O':=(Z4 (O.upd t0 none) n [none,none,some ⟨true,3,1,l5.length,fl (eI .i64) l5⟩,none,some ⟨true,25,3,y4.1.length,fl Zl y4.1⟩,none])) (n':=(n+6)) (Fit2.of (Zp hU rfl rfl ?_) (by omega)) ?_
   ·simp only [push_cast,seval,Za,hN0,hN]
   refine Zap (k:=6) (k':=4) hU [3,3,2,3,1,3] [0,4,2,0] rfl rfl rfl rfl ⟨rfl,rfl⟩ ?_
   simp only [push_cast,seval,Za,hN0,hN]
  replace hs0_:=Zy c6 hs0_
  refine X9 ?_
  try simp only [Zh,Ze,↓reduceIte,Nat.reduceEqDiff]
  have hs0_:=Option.some.inj hs0_;subst hs0_
  refine And.intro (fun h=>by cases h) (And.intro rfl (Fit2.of (Zp hU rfl rfl ?_) (by omega)))
  simp only [push_cast,seval,Za,hN0,hN]
 try simp only [Zh,Ze,↓reduceIte,Nat.reduceEqDiff]
 refine Zg [0,6] [false,true,true,false] ?_
 simp only [push_cast,seval]
 refine Zn [4,5] (Zb Zc [] ?_)
 simp only [push_cast,seval,Za,hN0,hN]
 refine Zv ?_
 try simp only [Zh,Ze]
 have h:=Option.some.inj h;subst h
 refine Zgl (k:=1) (L3:=[some ⟨true,25,3,z7.1.length,fl Zl z7.1⟩,some ⟨true,3,1,z7.2.length,fl (eI .i64) z7.2⟩,none]) (E2:=(⟨32,[],[(4,.row n z7.1.length),(5,.row (n+1) z7.2.length)]⟩:Env)) (n3:=(n+3)) (.inr rfl) hU rfl [.row n z7.1.length,.row (n+1) z7.2.length] ?_ ?_
 ·refine Fit2.trans (E':=(⟨32,[],[(4,.row (n+1) z7.1.length),(5,.row (n+2) z7.2.length)]⟩:Env)) (O':=(Z4 (O.upd t0 none) n [none,some ⟨true,25,3,z7.1.length,fl Zl z7.1⟩,some ⟨true,3,1,z7.2.length,fl (eI .i64) z7.2⟩,none])) (n':=(n+4)) (Fit2.of (Zp hU rfl rfl ?_) (by omega)) ?_
  ·simp only [push_cast,seval,Za,hN0,hN]
  refine Zap (k:=4) (k':=3) hU [2,0,1,2] [1,2,0] rfl rfl rfl rfl ⟨rfl,rfl⟩ ?_
  simp only [push_cast,seval,Za,hN0,hN]
 simp only [push_cast,seval,Za,Try.results18,hN0,hN]
end Go.Proofs.Ytaddaloondpnkaa
