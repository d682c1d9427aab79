/- Part UM3 of this seat's mirrors: functions of the seat's program, and the plain functions that they are; each theorem bears its own conditions. -/
import Derived.Test.YtmjjjfamipncdaaGreatUM1
namespace Go.Proofs.YtmjjjfamipncdaaGreat
open Go.RowKit
set_option linter.unusedVariables false
set_option linter.unusedSimpArgs false
set_option maxRecDepth 100000
set_option maxHeartbeats 4000000
attribute [local push_cast] Xu Yx Zn J3 Zx Yk Zi Zh Ze Xn Zbs Zab Znd Zi8 Zd4 Zd8 Zd3 Zd7 Zg8 Zg3 Zd6 Zg7 Zg6 Zg5 Zd5 Zg2 Zcw evS wok Q0 Op.operands Call.operands gop atK List.all_cons List.all_nil Bool.and_self Value.oneCell' List.take_zero List.take_succ_cons List.take_nil List.drop_zero List.drop_succ_cons List.drop_nil List.append_nil Nat.add_zero Nat.zero_add K7 Yc ev Qy Znt Zkf Zke Zkk Zki Zkj Zkg Zkh Zkd Zow Zp7 Ztp Zel Gt Zek Zam Zdx Zcn Za9 Zc0 Zch Zcd Zbc Zcg Zcf Zce Zbb Zcc Zba Zbd Zaa Z2g Zh8 Zcm Uc Zdp Ud Zfr Zej Zsk bLo bHi bMx Gu Zfq Zu7 Zeh Zgc Zbu K0 Zo2 Zu8 Zdo Zbr Zu9 Gs Zx6 Zgi Zgm Zgh Zgl Zk2 Zky Zkx Zd1 Zgj Zk1 Zk0 Zkz Zgk Zkt Zkw Zks Zkv Zqh Zqe Zqd Zku Zqf Zqg Ya9 Zfs Zmz pop TK.isAgg Zk5 Zk9 Zk4 Zk8 Zgr Zqr Zqn Zk7 Zqq Zqp Zqo Zk6 Zqm G.under G.unders List.getD_cons_zero List.getD_cons_succ List.set_cons_zero List.set_cons_succ List.map_cons List.map_nil List.toList_toArray Array.toList_append Option.toArray_none Option.toArray_some Option.map_some Option.map_none Option.bind_some Option.bind_none List.getElem?_cons_zero List.getElem?_cons_succ List.getElem?_nil List.nil_append List.cons_append List.replicate_succ List.replicate_zero List.length_cons List.length_nil and_true true_and false_and Bool.true_eq_false Bool.false_eq_true forall_const implies_true IntKind.bits ite_true ite_false eq_self or_false not_false_eq_true decide_eq_true_eq decide_eq_false_iff_not beq_iff_eq bne_iff_ne ne_eq beq_eq_false_iff_ne bne_eq_false_iff_eq beq_self_eq_true Option.some.injEq exists_eq_left' ge_iff_le gt_iff_lt Bool.not_true imp_self cond_true cond_false Z7q Z7p Uz Zdn Zbm Zog Gn K2 Option.join_some Nat.add_assoc Int.toNat_natCast eI eL Zde Zcl Zbe Zko Zkm Zkn Zyu Z01 Zlg Zjq Zlh Zle Zlf Zub Ziz Zr5 Ziw Zoo G.agg.injEq G.tup.injEq List.flatten_cons List.flatten_nil Nat.le_refl Bool.not_eq_true' Zmx Zdc Zr0 Yal Zuz Zoa Znl G.ren G.rens Zqu Zf2 Zy8 Zkb Zkc Yaa Ye5 Yew Zpy Zuy Zrz Zyk Z38 Option.join_none Kz undef Zge Arr.len Arr.put_eq Zcq Zld Zlb Zlc onB Zyt Zov Z66 Zd2 Zlk Zli Zih Zff Zlj Zgw Zgv Zgu Zgt Z00 Z0z Zve Zso Vm Zt2 Zm0 Zyy Znn Zfp Zga Zca Zc3 Z6t Zrq Z1r Zrr Z6u Zrs Z1s Zrt Z6v Zru Z6w Zrv Z6x Zrw Z6y Zrx Zwh Zlr Zwi Zls Zwj Zlt Zwk Zlu Zwl Zlv Zwm Zlw Zwn Zlx Zwo Zly Zwp Zlz Zwq Zl0 Zwr Zl1 Zws Zl2 Zwt Zl3 Zwu Zl4 Uv Zcz Zsh Zir Zwv Zl5 Zdb Zl6 Zww Zl7 Zwx Zl8 Zwy Zl9 Zwz Zma Zw0 Zmb Zw1 Zmc Zw2 Zis Zw3 Zmd Zw4 Zme Ug Zmf Zw5 Zmg Zw6 Zmh Zw7 Zmi Zuq Zmj Zw8 Zmk Zw9 Zml Zxa Zmm Zxb Zmn Zxc Zmo Zxd Zmp Zxe Zmq Zxf Zmr Zxg Zms Zxh Zmt Zxi Zmu Zxj Zmv Zxk Zmw Zq0 Zha Zoe Zhb Zq1 Zhc Zq2 Zhd Zq3 Zhe Zq4 Zhf Zq5 Zhg Zq6 Zhh Zq7 Zhi Zq8 Zhj Zq9 Zhk Zra Zhl Zrb Zhm Zrc Zhn Zrd Zho Zre Zhp Zrf Zhq Zrg Zhr Zrh Zhs Zri Zht Zrj Zhu Zrk Zhv Zrl Zhw Zjy Zhx Zrm Zhy Zrn Zhz Zro Zh0 Zrp Zh1 Za7 Zr Zz Znc Zju Q1 Z2u Z2z Zy Yu Jn
theorem Zn4 {a0:(Option Zp)} {r:Int} {O:Objs} {n:Nat} (h:Gl a0=some r):GTo Tryz.prog 145 [(gP Zz a0)] O n (.val (.int .i64 r)) O n:=by
 unfold Gl at h
 refine Ye Zc Tryz.call145 Tryz.func145 rfl (Nat.le_of_ble_eq_true rfl) (Nat.le_refl _) fun hU => ?_
 have hN0:O n=none:=hU.fresh _ (Nat.le_refl _)
 have hN:∀ k,O (n+k)=none:=fun k=>hU.fresh _ (Nat.le_add_right _ _)
 show W _ _ _ _ ⟨10,[],[(0,(gP Zz a0))]⟩ (Z3 O n []) _
 refine Zk [0] (Zb Zc [] ?_)
 simp only [push_cast,seval,Za,hN0,hN]
 refine Zf ?_
 have g2:=Zz7 (f:=Zz) (t:=44) Zis a0
 refine Zk [0,4] (Zb Zc [] ?_)
 simp only [push_cast,seval,Za,g2,hN0,hN]
 refine Zo (t:=(Option.isNone a0)) rfl (fun c5 => ?_) (fun c5 => ?_)
 ·replace h:=Zw c5 h
  refine Zk [2] (Zb Zc [] ?_)
  simp only [push_cast,seval,Za,hN0,hN]
  refine Zu ?_
  try simp only [Zh,Ze]
  have h:=Option.some.inj h;subst h
  refine Zl (.inr rfl) hU [.val (.int .i64 0)] (by omega) ?_
  simp only [push_cast,seval,Za,Tryz.results145,hN0,hN]
 replace h:=Zv c5 h
 refine Zt ?_
 try simp only [Zh,Ze]
 refine Zg [0] [] ?_
 simp only [push_cast,seval]
 obtain ⟨x4,hx4,h⟩:=bC h
 refine Zk [2] (Zb Zc [] ?_)
 simp only [push_cast,seval,Za,hx4,hN0,hN]
 refine Zu ?_
 try simp only [Zh,Ze]
 have h:=Option.some.inj h;subst h
 refine Zl (.inr rfl) hU [.val (.int .i64 (x4.segments.length:Int))] (by omega) ?_
 simp only [push_cast,seval,Za,Tryz.results145,hN0,hN]
theorem Jj {a0:(Option Zp)} {a1:Int} {r:Bool} {O:Objs} {n:Nat} (h:Jq a0 a1=some r):GTo Tryz.prog 127 [(gP Zz a0),.val (.int .i64 a1)] O n (.val (.bool r)) O n:=by
 unfold Jq at h
 refine Ye Zc Tryz.call127 Tryz.func127 rfl (Nat.le_of_ble_eq_true rfl) (Nat.le_refl _) fun hU => ?_
 have hN0:O n=none:=hU.fresh _ (Nat.le_refl _)
 have hN:∀ k,O (n+k)=none:=fun k=>hU.fresh _ (Nat.le_add_right _ _)
 show W _ _ _ _ ⟨13,[],[(0,(gP Zz a0)),(1,.val (.int .i64 a1))]⟩ (Z3 O n []) _
 refine Zk [0,1] (Zb Zc [] ?_)
 simp only [push_cast,seval,Za,hN0,hN]
 obtain ⟨z2,hz2,h⟩:=bC h
 refine Yr (E':=⟨13,[],[(4,.val (.bool z2))]⟩) (O':=(Z3 O n [])) (n0:=n) ?_ ?_
 ·rcases Bool.eq_false_or_eq_true (decide (0≤a1)) with c5 | c5
  ·replace hz2:=Zw c5 hz2
   obtain ⟨y4,hy4,hz2⟩:=bC hz2
   refine Zb Zc (Zyn []) ?_
   simp only [push_cast,seval,Za,c5,hN0,hN]
   refine (Zn4 hy4).then ?_
   simp only [push_cast,seval,Za,c5,hN0,hN]
   have hz2:=Option.some.inj hz2;subst hz2
   refine And.intro rfl (Fit2.of (Zm hU rfl rfl ?_) (by omega))
   simp only [push_cast,seval,Za,c5,hN0,hN]
  replace hz2:=Zv c5 hz2
  refine Zb Zc (Z2y []) ?_
  simp only [push_cast,seval,Za,c5,hN0,hN]
  have hz2:=Option.some.inj hz2;subst hz2
  refine And.intro rfl (Fit2.of (Zm hU rfl rfl ?_) (by omega))
  simp only [push_cast,seval,Za,c5,hN0,hN]
 refine Zu ?_
 try simp only [Zh,Ze]
 have h:=Option.some.inj h;subst h
 refine Zl (.inr rfl) hU [.val (.bool z2)] (by omega) ?_
 simp only [push_cast,seval,Za,Tryz.results127,hN0,hN]
theorem Zan {a0:(Option Zp)} {a1:Int} {r:Int} {O:Objs} {n:Nat} (h:J5 a0 a1=some r):GTo Tryz.prog 128 [(gP Zz a0),.val (.int .i64 a1)] O n (.val (.int .i64 r)) O n:=by
 unfold J5 at h
 refine Ye Zc Tryz.call128 Tryz.func128 rfl (Nat.le_of_ble_eq_true rfl) (Nat.le_refl _) fun hU => ?_
 have hN0:O n=none:=hU.fresh _ (Nat.le_refl _)
 have hN:∀ k,O (n+k)=none:=fun k=>hU.fresh _ (Nat.le_add_right _ _)
 show W _ _ _ _ ⟨17,[],[(0,(gP Zz a0)),(1,.val (.int .i64 a1))]⟩ (Z3 O n []) _
 refine Zk [0,1] (Zb Zc [] ?_)
 simp only [push_cast,seval,Za,hN0,hN]
 refine Zf ?_
 refine Zf ?_
 obtain ⟨y2,hy2,h⟩:=bC h
 refine Zb Zc [] ?_
 simp only [push_cast,seval,Za,hN0,hN]
 refine (Jj hy2).then ?_
 simp only [push_cast,seval,Za,hN0,hN]
 refine Zg [0,1,8] [] ?_
 simp only [push_cast,seval]
 refine Zo (t:=(!y2)) rfl (fun c7 => ?_) (fun c7 => ?_)
 ·replace h:=Zw c7 h
  refine Zk [4] (Zb Zc [] ?_)
  simp only [push_cast,seval,Za,hN0,hN]
  refine Zu ?_
  try simp only [Zh,Ze]
  have h:=Option.some.inj h;subst h
  refine Zl (.inr rfl) hU [.val (.int .i64 0)] (by omega) ?_
  simp only [push_cast,seval,Za,Tryz.results128,hN0,hN]
 replace h:=Zv c7 h
 refine Zt ?_
 try simp only [Zh,Ze]
 refine Zg [0,1] [] ?_
 simp only [push_cast,seval]
 obtain ⟨x5,hx5,h⟩:=bC h
 obtain ⟨x6,hx6,ax6,bx6,cx6,h⟩:=bE (f:=(eL (eI .u64))) Uv (fun _=>rfl) (by decide) h
 refine Zk [4] (Zb Zc [] ?_)
 simp only [push_cast,Nat.reduceAdd,Nat.reduceSub,Nat.reduceMul,Nat.reduceLeDiff,Nat.reduceLT,Nat.reduceEqDiff,↓reduceIte,reduceCtorEq,Int.reduceBEq,Int.reduceBNe,Nat.reduceBEq,Int.reduceLE,Int.reduceLT,Int.reduceEq,Int.reduceNe,Int.reduceNeg,Nat.reduceDiv,Nat.reduceMod,Nat.reducePow,Za,hx5,ax6,bx6,cx6,hN0,hN]
 refine Zu ?_
 try simp only [Zh,Ze]
 have h:=Option.some.inj h;subst h
 refine Zl (.inr rfl) hU [.val (.int .i64 (x6.length:Int))] (by omega) ?_
 simp only [push_cast,seval,Za,Tryz.results128,hN0,hN]
theorem Za3 {a0:(Option Zp)} {a1:Int} {a2:Int} {a3:Int} {r:Bool} {O:Objs} {n:Nat} (h:Jo a0 a1 a2 a3=some r):GTo Tryz.prog 108 [(gP Zz a0),.val (.int .i64 a1),.val (.int .i64 a2),.val (.int .i64 a3)] O n (.val (.bool r)) O n:=by
 unfold Jo at h
 refine Ye Zc Tryz.call108 Tryz.func108 rfl (Nat.le_of_ble_eq_true rfl) (Nat.le_refl _) fun hU => ?_
 have hN0:O n=none:=hU.fresh _ (Nat.le_refl _)
 have hN:∀ k,O (n+k)=none:=fun k=>hU.fresh _ (Nat.le_add_right _ _)
 show W _ _ _ _ ⟨36,[],[(0,(gP Zz a0)),(1,.val (.int .i64 a1)),(2,.val (.int .i64 a2)),(3,.val (.int .i64 a3))]⟩ (Z3 O n []) _
 refine Zk [0,1,2,3] (Zb Zc [] ?_)
 simp only [push_cast,seval,Za,hN0,hN]
 obtain ⟨z4,hz4,h⟩:=bC h
 refine Yr (E':=⟨36,[],[(8,.val (.bool z4))]⟩) (O':=(Z3 O n [])) (n0:=n) ?_ ?_
 ·obtain ⟨y8,hy8,hz4⟩:=bC hz4
  rcases Bool.eq_false_or_eq_true y8 with Kl | Kl
  ·replace hz4:=Zw Kl hz4
   rcases Bool.eq_false_or_eq_true (decide (0≤a2)) with Ux | Ux
   ·replace hz4:=Zw Ux hz4
    try rw [Ux] at Kl
    rcases Bool.eq_false_or_eq_true (decide (0≤a3)) with U7 | U7
    ·replace hz4:=Zw U7 hz4
     try rw [U7] at Kl
     try rw [U7] at Ux
     obtain ⟨y9,hy9,hz4⟩:=bC hz4
     rcases Bool.eq_false_or_eq_true (decide (a3≤y9)) with c14 | c14
     ·replace hz4:=Zw c14 hz4
      try rw [c14] at Kl
      try rw [c14] at Ux
      try rw [c14] at U7
      obtain ⟨y10,hy10,hz4⟩:=bC hz4
      refine Zb Zc (Z81 (Z4i [])) ?_
      simp only [push_cast,seval,Za,Kl,Ux,U7,c14,hN0,hN]
      repeat (with_reducible refine And.intro (by first | (intro h0;simp only [h0];done) | (intro h0;simp only [h0,true_and,and_true,imp_self,implies_true,ne_eq];done) | (intros;simp_all;done) | exact True.intro) ?_)
      refine (Jj hy8).then ?_
      simp only [push_cast,seval,Za,Kl,Ux,U7,c14,hN0,hN]
      repeat (with_reducible refine And.intro (by first | (intro h0;simp only [h0];done) | (intro h0;simp only [h0,true_and,and_true,imp_self,implies_true,ne_eq];done) | (intros;simp_all;done) | exact True.intro) ?_)
      refine (Zan hy9).then ?_
      simp only [push_cast,seval,Za,Kl,Ux,U7,c14,hN0,hN]
      repeat (with_reducible refine And.intro (by first | (intro h0;simp only [h0];done) | (intro h0;simp only [h0,true_and,and_true,imp_self,implies_true,ne_eq];done) | (intros;simp_all;done) | exact True.intro) ?_)
      refine (Zan hy10).then ?_
      simp only [push_cast,seval,Za,Kl,Ux,U7,c14,hN0,hN]
      repeat (with_reducible refine And.intro (by first | (intro h0;simp only [h0];done) | (intro h0;simp only [h0,true_and,and_true,imp_self,implies_true,ne_eq];done) | (intros;simp_all;done) | exact True.intro) ?_)
      have hz4:=Option.some.inj hz4;subst hz4
      refine And.intro rfl (Fit2.of (Zm hU rfl rfl ?_) (by omega))
      simp only [push_cast,seval,Za,Kl,Ux,U7,c14,hN0,hN]
     replace hz4:=Zv c14 hz4
     try rw [c14] at Kl
     try rw [c14] at Ux
     try rw [c14] at U7
     refine Zb Zc (Z81 (Yft (Z80 []))) ?_
     simp only [push_cast,seval,Za,Kl,Ux,U7,c14,hN0,hN]
     repeat (with_reducible refine And.intro (by first | (intro h0;simp only [h0];done) | (intro h0;simp only [h0,true_and,and_true,imp_self,implies_true,ne_eq];done) | (intros;simp_all;done) | exact True.intro) ?_)
     refine (Jj hy8).then ?_
     simp only [push_cast,seval,Za,Kl,Ux,U7,c14,hN0,hN]
     repeat (with_reducible refine And.intro (by first | (intro h0;simp only [h0];done) | (intro h0;simp only [h0,true_and,and_true,imp_self,implies_true,ne_eq];done) | (intros;simp_all;done) | exact True.intro) ?_)
     refine (Zan hy9).then ?_
     simp only [push_cast,seval,Za,Kl,Ux,U7,c14,hN0,hN]
     repeat (with_reducible refine And.intro (by first | (intro h0;simp only [h0];done) | (intro h0;simp only [h0,true_and,and_true,imp_self,implies_true,ne_eq];done) | (intros;simp_all;done) | exact True.intro) ?_)
     have hz4:=Option.some.inj hz4;subst hz4
     refine And.intro rfl (Fit2.of (Zm hU rfl rfl ?_) (by omega))
     simp only [push_cast,seval,Za,Kl,Ux,U7,c14,hN0,hN]
    replace hz4:=Zv U7 hz4
    try rw [U7] at Kl
    try rw [U7] at Ux
    refine Zb Zc (Z81 (Z0v [])) ?_
    simp only [push_cast,seval,Za,Kl,Ux,U7,hN0,hN]
    repeat (with_reducible refine And.intro (by first | (intro h0;simp only [h0];done) | (intro h0;simp only [h0,true_and,and_true,imp_self,implies_true,ne_eq];done) | (intros;simp_all;done) | exact True.intro) ?_)
    refine (Jj hy8).then ?_
    simp only [push_cast,seval,Za,Kl,Ux,U7,hN0,hN]
    repeat (with_reducible refine And.intro (by first | (intro h0;simp only [h0];done) | (intro h0;simp only [h0,true_and,and_true,imp_self,implies_true,ne_eq];done) | (intros;simp_all;done) | exact True.intro) ?_)
    have hz4:=Option.some.inj hz4;subst hz4
    refine And.intro rfl (Fit2.of (Zm hU rfl rfl ?_) (by omega))
    simp only [push_cast,seval,Za,Kl,Ux,U7,hN0,hN]
   replace hz4:=Zv Ux hz4
   try rw [Ux] at Kl
   refine Zb Zc (Z81 (Z0v [])) ?_
   simp only [push_cast,seval,Za,Kl,Ux,hN0,hN]
   repeat (with_reducible refine And.intro (by first | (intro h0;simp only [h0];done) | (intro h0;simp only [h0,true_and,and_true,imp_self,implies_true,ne_eq];done) | (intros;simp_all;done) | exact True.intro) ?_)
   refine (Jj hy8).then ?_
   simp only [push_cast,seval,Za,Kl,Ux,hN0,hN]
   repeat (with_reducible refine And.intro (by first | (intro h0;simp only [h0];done) | (intro h0;simp only [h0,true_and,and_true,imp_self,implies_true,ne_eq];done) | (intros;simp_all;done) | exact True.intro) ?_)
   have hz4:=Option.some.inj hz4;subst hz4
   refine And.intro rfl (Fit2.of (Zm hU rfl rfl ?_) (by omega))
   simp only [push_cast,seval,Za,Kl,Ux,hN0,hN]
  replace hz4:=Zv Kl hz4
  refine Zb Zc (Z81 (Z0v [])) ?_
  simp only [push_cast,seval,Za,Kl,hN0,hN]
  repeat (with_reducible refine And.intro (by first | (intro h0;simp only [h0];done) | (intro h0;simp only [h0,true_and,and_true,imp_self,implies_true,ne_eq];done) | (intros;simp_all;done) | exact True.intro) ?_)
  refine (Jj hy8).then ?_
  simp only [push_cast,seval,Za,Kl,hN0,hN]
  repeat (with_reducible refine And.intro (by first | (intro h0;simp only [h0];done) | (intro h0;simp only [h0,true_and,and_true,imp_self,implies_true,ne_eq];done) | (intros;simp_all;done) | exact True.intro) ?_)
  have hz4:=Option.some.inj hz4;subst hz4
  refine And.intro rfl (Fit2.of (Zm hU rfl rfl ?_) (by omega))
  simp only [push_cast,seval,Za,Kl,hN0,hN]
 refine Zu ?_
 try simp only [Zh,Ze]
 have h:=Option.some.inj h;subst h
 refine Zl (.inr rfl) hU [.val (.bool z4)] (by omega) ?_
 simp only [push_cast,seval,Za,Tryz.results108,hN0,hN]
theorem Ve {a0:(Option Zp)} {a1:Int} {a2:Int} {r:(Int×Bool)} {O:Objs} {n:Nat} (h:Qk a0 a1 a2=some r):GTo Tryz.prog 90 [(gP Zz a0),.val (.int .i64 a1),.val (.int .i64 a2)] O n (.tup [.val (.int .u64 r.1),.val (.bool r.2)]) O n:=by
 unfold Qk at h
 refine Ye Zc Tryz.call90 Tryz.func90 rfl (Nat.le_of_ble_eq_true rfl) (Nat.le_refl _) fun hU => ?_
 have hN0:O n=none:=hU.fresh _ (Nat.le_refl _)
 have hN:∀ k,O (n+k)=none:=fun k=>hU.fresh _ (Nat.le_add_right _ _)
 show W _ _ _ _ ⟨23,[],[(0,(gP Zz a0)),(1,.val (.int .i64 a1)),(2,.val (.int .i64 a2))]⟩ (Z3 O n []) _
 refine Zk [0,1,2] (Zb Zc [] ?_)
 simp only [push_cast,seval,Za,hN0,hN]
 refine Zf ?_
 refine Zf ?_
 obtain ⟨y2,hy2,h⟩:=bC h
 refine Zb Zc [] ?_
 simp only [push_cast,seval,Za,hN0,hN]
 refine (Za3 hy2).then ?_
 simp only [push_cast,seval,Za,hN0,hN]
 refine Zg [0,1,2,12] [] ?_
 simp only [push_cast,seval]
 refine Zo (t:=(!y2)) rfl (fun c9 => ?_) (fun c9 => ?_)
 ·replace h:=Zw c9 h
  refine Zk [6,7] (Zb Zc [] ?_)
  simp only [push_cast,seval,Za,hN0,hN]
  refine Zu ?_
  try simp only [Zh,Ze]
  have h:=Option.some.inj h;subst h
  refine Zl (.inr rfl) hU [.val (.int .u64 0),.val (.bool false)] (by omega) ?_
  simp only [push_cast,seval,Za,Tryz.results90,hN0,hN]
 replace h:=Zv c9 h
 refine Zt ?_
 try simp only [Zh,Ze]
 refine Zg [0,1,2] [] ?_
 simp only [push_cast,seval]
 obtain ⟨x6,hx6,h⟩:=bC h
 obtain ⟨x7,hx7,ax7,bx7,cx7,h⟩:=bE (f:=(eL (eI .u64))) Uv (fun _=>rfl) (by decide) h
 obtain ⟨x8,hx8,ax8,bx8,cx8,h⟩:=bE (f:=(eI .u64)) Ug (fun _=>rfl) (by decide) h
 refine Zk [6,7] (Zb Zc [] ?_)
 simp only [push_cast,Nat.reduceAdd,Nat.reduceSub,Nat.reduceMul,Nat.reduceLeDiff,Nat.reduceLT,Nat.reduceEqDiff,↓reduceIte,reduceCtorEq,Int.reduceBEq,Int.reduceBNe,Nat.reduceBEq,Int.reduceLE,Int.reduceLT,Int.reduceEq,Int.reduceNe,Int.reduceNeg,Nat.reduceDiv,Nat.reduceMod,Nat.reducePow,Za,hx6,ax7,bx7,cx7,ax8,bx8,cx8,hN0,hN]
 refine Zu ?_
 try simp only [Zh,Ze]
 have h:=Option.some.inj h;subst h
 refine Zl (.inr rfl) hU [.val (.int .u64 x8),.val (.bool true)] (by omega) ?_
 simp only [push_cast,seval,Za,Tryz.results90,hN0,hN]
theorem Znh {a0:Int} {r:Int} {O:Objs} {n:Nat} (h:Zb0 a0=some r):GTo Tryz.prog 123 [.val (.int .u64 a0)] O n (.val (.int .i64 r)) O n:=by
 unfold Zb0 at h
 refine Ye Zc Tryz.call123 Tryz.func123 rfl (Nat.le_of_ble_eq_true rfl) (Nat.le_refl _) fun hU => ?_
 have hN0:O n=none:=hU.fresh _ (Nat.le_refl _)
 have hN:∀ k,O (n+k)=none:=fun k=>hU.fresh _ (Nat.le_add_right _ _)
 show W _ _ _ _ ⟨8,[],[(0,.val (.int .u64 a0))]⟩ (Z3 O n []) _
 refine Zk [0] (Zb Zc [] ?_)
 simp only [push_cast,seval,Za,hN0,hN]
 refine Zk [2] (Zb Zc [] ?_)
 simp only [push_cast,seval,Za,hN0,hN]
 refine Zu ?_
 try simp only [Zh,Ze]
 have h:=Option.some.inj h;subst h
 refine Zl (.inr rfl) hU [.val (.int .i64 (IntKind.i64.wrap (Int.fdiv (IntKind.i32.wrap (IntKind.u32.wrap a0)) (2 ^ min (Int.toNat 2) 32))))] (by omega) ?_
 simp only [push_cast,seval,Za,Tryz.results123,hN0,hN]
theorem Zah {a0:Int} {a1:Int} {a2:Int} {r:Int} {O:Objs} {n:Nat} (h:Qe a0 a1 a2=some r):GTo Tryz.prog 124 [.val (.int .u64 a0),.val (.int .i64 a1),.val (.int .i64 a2)] O n (.val (.int .i64 r)) O n:=by
 unfold Qe at h
 refine Ye Zc Tryz.call124 Tryz.func124 rfl (Nat.le_of_ble_eq_true rfl) (Nat.le_refl _) fun hU => ?_
 have hN0:O n=none:=hU.fresh _ (Nat.le_refl _)
 have hN:∀ k,O (n+k)=none:=fun k=>hU.fresh _ (Nat.le_add_right _ _)
 show W _ _ _ _ ⟨15,[],[(0,.val (.int .u64 a0)),(1,.val (.int .i64 a1)),(2,.val (.int .i64 a2))]⟩ (Z3 O n []) _
 refine Zk [0,1,2] (Zb Zc [] ?_)
 simp only [push_cast,seval,Za,hN0,hN]
 obtain ⟨pu3,h⟩:=bG h
 obtain ⟨pu4,h⟩:=bG h
 refine Zk [6] (Y8 Zc (by kernel_rfl) [] (by kernel_rfl) ?_)
 simp only [push_cast,seval,Za,pu3,pu4,hN0,hN]
 refine Zu ?_
 try simp only [Zh,Ze]
 have h:=Option.some.inj h;subst h
 refine Zl (.inr rfl) hU [.val (.int .i64 (IntKind.i64.wrap (IntKind.u64.wrap (Vw .u64 (Int.fdiv a0 (2 ^ min (Int.toNat a1) 64)) (IntKind.u64.wrap ((IntKind.u64.wrap (1 * 2 ^ min (Int.toNat a2) 64)) - 1))))))] (by omega) ?_
 simp only [push_cast,seval,Za,Tryz.results124,hN0,hN]
theorem Uf {a0:Int} {r:Z4} {O:Objs} {n:Nat} (h:Ka a0=some r):GTo Tryz.prog 100 [.val (.int .u64 a0)] O n (.agg (Yk r)) O n:=by
 unfold Ka at h
 refine Ye Zc Tryz.call100 Tryz.func100 rfl (Nat.le_of_ble_eq_true rfl) (Nat.le_refl _) fun hU => ?_
 have hN0:O n=none:=hU.fresh _ (Nat.le_refl _)
 have hN:∀ k,O (n+k)=none:=fun k=>hU.fresh _ (Nat.le_add_right _ _)
 show W _ _ _ _ ⟨38,[],[(0,.val (.int .u64 a0))]⟩ (Z3 O n []) _
 refine Zk [0,2] (Zb Zc [] ?_)
 simp only [push_cast,seval,Za,hN0,hN]
 refine Zf ?_
 refine Zk [0,2,4] (Zb Zc [] ?_)
 simp only [push_cast,seval,Za,hN0,hN]
 refine Zo (t:=(a0 == 0)) rfl (fun c20 => ?_) (fun c20 => ?_)
 ·replace h:=Zw c20 h
  refine Zf ?_
  refine Zb Zc [] ?_
  simp only [push_cast,seval,Za,hN0,hN]
  refine Za8 ⟨38,[],[(2,.ref n 0)]⟩ (Z3 O n [some ⟨false,140,8,1,[.val (.int .i64 0),.val (.int .i64 0),.val (.int .i64 0),.val (.int .i64 0),.val (.int .i64 0),.val (.int .i64 0),.val (.int .i64 0),.val (.bool false)]⟩]) (Zm hU rfl rfl ?_) ?_
  ·simp only [push_cast,seval,Za,hN0,hN]
  refine Zu ?_
  try simp only [Zh,Ze]
  have h:=Option.some.inj h;subst h
  refine Zl (.inr rfl) hU [.agg [.val (.int .i64 0),.val (.int .i64 0),.val (.int .i64 0),.val (.int .i64 0),.val (.int .i64 0),.val (.int .i64 0),.val (.int .i64 0),.val (.bool false)]] (by omega) ?_
  simp only [push_cast,seval,Za,Tryz.results100,hN0,hN]
 replace h:=Zv c20 h
 refine Zt ?_
 try simp only [Zh,Ze]
 refine Za8 ⟨38,[],[(0,.val (.int .u64 a0)),(2,.ref n 0)]⟩ (Z3 O n [some ⟨false,140,8,1,[.val (.int .i64 0),.val (.int .i64 0),.val (.int .i64 0),.val (.int .i64 0),.val (.int .i64 0),.val (.int .i64 0),.val (.int .i64 0),.val (.bool false)]⟩]) (Zm hU rfl rfl ?_) ?_
 ·simp only [push_cast,seval,Za,hN0,hN]
 refine Zf ?_
 refine Zk [0,2,7] (Zb Zc [] ?_)
 simp only [push_cast,seval,Za,hN0,hN]
 refine Yo ?_
 refine Zk [0,2,7,8] (Zb Zc [] ?_)
 simp only [push_cast,seval,Za,hN0,hN]
 refine Zo (t:=((IntKind.u64.wrap (Vw .u64 a0 3)) == 0)) rfl (fun c19 => ?_) (fun c19 => ?_)
 ·replace h:=Zw c19 h
  refine Zf ?_
  obtain ⟨y4,hy4,h⟩:=bC h
  obtain ⟨y5,hy5,h⟩:=bC h
  obtain ⟨y6,hy6,h⟩:=bC h
  refine Zb Zc [] ?_
  simp only [push_cast,seval,Za,hN0,hN]
  refine (Znh hy4).then ?_
  simp only [push_cast,seval,Za,hN0,hN]
  refine (Zah hy5).then ?_
  simp only [push_cast,seval,Za,hN0,hN]
  refine (Zah hy6).then ?_
  simp only [push_cast,seval,Za,hN0,hN]
  refine Za8 ⟨38,[],[(2,.ref n 0)]⟩ (Z3 O n [some ⟨false,140,8,1,[.val (.int .i64 1),.val (.int .i64 y4),.val (.int .i64 y5),.val (.int .i64 y6),.val (.int .i64 0),.val (.int .i64 0),.val (.int .i64 0),.val (.bool false)]⟩]) (Zm hU rfl rfl ?_) ?_
  ·simp only [push_cast,seval,Za,hN0,hN]
  refine Zu ?_
  try simp only [Zh,Ze]
  have h:=Option.some.inj h;subst h
  refine Zl (.inr rfl) hU [.agg [.val (.int .i64 1),.val (.int .i64 y4),.val (.int .i64 y5),.val (.int .i64 y6),.val (.int .i64 0),.val (.int .i64 0),.val (.int .i64 0),.val (.bool false)]] (by omega) ?_
  simp only [push_cast,seval,Za,Tryz.results100,hN0,hN]
 replace h:=Zv c19 h
 refine Zk [0,2,7,17] (Zb Zc [] ?_)
 simp only [push_cast,seval,Za,hN0,hN]
 refine Zo (t:=((IntKind.u64.wrap (Vw .u64 a0 3)) == 1)) rfl (fun Gj => ?_) (fun Gj => ?_)
 ·replace h:=Zw Gj h
  refine Zf ?_
  obtain ⟨y10,hy10,h⟩:=bC h
  obtain ⟨y11,hy11,h⟩:=bC h
  obtain ⟨y12,hy12,h⟩:=bC h
  refine Zb Zc [] ?_
  simp only [push_cast,seval,Za,hN0,hN]
  refine (Znh hy10).then ?_
  simp only [push_cast,seval,Za,hN0,hN]
  refine (Zah hy11).then ?_
  simp only [push_cast,seval,Za,hN0,hN]
  refine (Zah hy12).then ?_
  simp only [push_cast,seval,Za,hN0,hN]
  refine Za8 ⟨38,[],[(2,.ref n 0)]⟩ (Z3 O n [some ⟨false,140,8,1,[.val (.int .i64 2),.val (.int .i64 y10),.val (.int .i64 0),.val (.int .i64 0),.val (.int .i64 y11),.val (.int .i64 y12),.val (.int .i64 0),.val (.bool false)]⟩]) (Zm hU rfl rfl ?_) ?_
  ·simp only [push_cast,seval,Za,hN0,hN]
  refine Zu ?_
  try simp only [Zh,Ze]
  have h:=Option.some.inj h;subst h
  refine Zl (.inr rfl) hU [.agg [.val (.int .i64 2),.val (.int .i64 y10),.val (.int .i64 0),.val (.int .i64 0),.val (.int .i64 y11),.val (.int .i64 y12),.val (.int .i64 0),.val (.bool false)]] (by omega) ?_
  simp only [push_cast,seval,Za,Tryz.results100,hN0,hN]
 replace h:=Zv Gj h
 refine Zk [0,2,26] (Zb Zc [] ?_)
 simp only [push_cast,seval,Za,hN0,hN]
 refine Zo (t:=((IntKind.u64.wrap (Vw .u64 a0 3)) == 2)) rfl (fun c17 => ?_) (fun c17 => ?_)
 ·replace h:=Zw c17 h
  refine Zf ?_
  obtain ⟨y15,hy15,h⟩:=bC h
  obtain ⟨y16,hy16,h⟩:=bC h
  refine Zb Zc [] ?_
  simp only [push_cast,seval,Za,hN0,hN]
  refine (Zah hy15).then ?_
  simp only [push_cast,seval,Za,hN0,hN]
  refine (Zah hy16).then ?_
  simp only [push_cast,seval,Za,hN0,hN]
  refine Za8 ⟨38,[],[(2,.ref n 0)]⟩ (Z3 O n [some ⟨false,140,8,1,[.val (.int .i64 3),.val (.int .i64 y15),.val (.int .i64 0),.val (.int .i64 0),.val (.int .i64 0),.val (.int .i64 0),.val (.int .i64 y16),.val (.bool ((IntKind.u64.wrap (Vw .u64 (Int.fdiv a0 (2 ^ min (Int.toNat 2) 64)) 1)) == 1))]⟩]) (Zm hU rfl rfl ?_) ?_
  ·simp only [push_cast,seval,Za,hN0,hN]
  refine Zu ?_
  try simp only [Zh,Ze]
  have h:=Option.some.inj h;subst h
  refine Zl (.inr rfl) hU [.agg [.val (.int .i64 3),.val (.int .i64 y15),.val (.int .i64 0),.val (.int .i64 0),.val (.int .i64 0),.val (.int .i64 0),.val (.int .i64 y16),.val (.bool ((IntKind.u64.wrap (Vw .u64 (Int.fdiv a0 (2 ^ min (Int.toNat 2) 64)) 1)) == 1))]] (by omega) ?_
  simp only [push_cast,seval,Za,Tryz.results100,hN0,hN]
 replace h:=Zv c17 h
 refine Zt ?_
 try simp only [Zh,Ze]
 refine Za8 ⟨38,[],[(2,.ref n 0)]⟩ (Z3 O n [some ⟨false,140,8,1,[.val (.int .i64 0),.val (.int .i64 0),.val (.int .i64 0),.val (.int .i64 0),.val (.int .i64 0),.val (.int .i64 0),.val (.int .i64 0),.val (.bool false)]⟩]) (Zm hU rfl rfl ?_) ?_
 ·simp only [push_cast,seval,Za,hN0,hN]
 refine Zf ?_
 refine Zb Zc [] ?_
 simp only [push_cast,seval,Za,hN0,hN]
 refine Za8 ⟨38,[],[(2,.ref n 0)]⟩ (Z3 O n [some ⟨false,140,8,1,[.val (.int .i64 4),.val (.int .i64 0),.val (.int .i64 0),.val (.int .i64 0),.val (.int .i64 0),.val (.int .i64 0),.val (.int .i64 0),.val (.bool false)]⟩]) (Zm hU rfl rfl ?_) ?_
 ·simp only [push_cast,seval,Za,hN0,hN]
 refine Zu ?_
 try simp only [Zh,Ze]
 have h:=Option.some.inj h;subst h
 refine Zl (.inr rfl) hU [.agg [.val (.int .i64 4),.val (.int .i64 0),.val (.int .i64 0),.val (.int .i64 0),.val (.int .i64 0),.val (.int .i64 0),.val (.int .i64 0),.val (.bool false)]] (by omega) ?_
 simp only [push_cast,seval,Za,Tryz.results100,hN0,hN]
theorem Zm1 {a0:(Option Zp)} {a1:Int} {a2:Int} {a3:Int} {r:((List Int)×Bool)} {O:Objs} {n:Nat} (h:K8 a0 a1 a2 a3=some r):GTo Tryz.prog 125 [(gP Zz a0),.val (.int .i64 a1),.val (.int .i64 a2),.val (.int .i64 a3)] O n (.tup [.sl r.1.length (fl (eI .u64) r.1),.val (.bool r.2)]) O n:=by
 unfold K8 at h
 refine Ye Zc Tryz.call125 Tryz.func125 rfl (Nat.le_of_ble_eq_true rfl) (Nat.le_refl _) fun hU => ?_
 have hN0:O n=none:=hU.fresh _ (Nat.le_refl _)
 have hN:∀ k,O (n+k)=none:=fun k=>hU.fresh _ (Nat.le_add_right _ _)
 show W _ _ _ _ ⟨29,[],[(0,(gP Zz a0)),(1,.val (.int .i64 a1)),(2,.val (.int .i64 a2)),(3,.val (.int .i64 a3))]⟩ (Z3 O n []) _
 refine Zk [0,1,2,3] (Zb Zc [] ?_)
 simp only [push_cast,seval,Za,hN0,hN]
 refine Zf ?_
 refine Zf ?_
 obtain ⟨y2,hy2,h⟩:=bC h
 refine Zb Zc [] ?_
 simp only [push_cast,seval,Za,hN0,hN]
 refine (Za3 hy2).then ?_
 simp only [push_cast,seval,Za,hN0,hN]
 refine Zg [0,1,2,3,15] [] ?_
 simp only [push_cast,seval]
 refine Zo (t:=(!y2)) rfl (fun Kl => ?_) (fun Kl => ?_)
 ·replace h:=Zw Kl h
  refine Zk [8,9] (Zb Zc [] ?_)
  simp only [push_cast,seval,Za,hN0,hN]
  refine Zu ?_
  try simp only [Zh,Ze]
  have h:=Option.some.inj h;subst h
  refine Zl (.inr rfl) hU [.val (.slice none 0 0),.val (.bool false)] (by omega) ?_
  simp only [push_cast,seval,Za,Tryz.results125,hN0,hN]
 replace h:=Zv Kl h
 refine Zt ?_
 try simp only [Zh,Ze]
 refine Zg [0,1,2,3] [] ?_
 simp only [push_cast,seval]
 refine Zf ?_
 obtain ⟨x7,hx7,h⟩:=bC h
 obtain ⟨x8,hx8,ax8,bx8,cx8,h⟩:=bE (f:=(eL (eI .u64))) Uv (fun _=>rfl) (by decide) h
 obtain ⟨l9,al9,bl9,cl9,gl9,h⟩:=bS (lo:=(some (.i64,a2))) (hi:=(some (.i64,(IntKind.i64.wrap (a2+a3))))) (f:=(eI .u64)) rfl rfl Zcz Ug (fun _=>rfl) h
 obtain ⟨y10,hy10,h⟩:=bC h
 refine Zb Zc [] ?_
 simp only [push_cast,Nat.reduceAdd,Nat.reduceSub,Nat.reduceMul,Nat.reduceLeDiff,Nat.reduceLT,Nat.reduceEqDiff,↓reduceIte,reduceCtorEq,Int.reduceBEq,Int.reduceBNe,Nat.reduceBEq,Int.reduceLE,Int.reduceLT,Int.reduceEq,Int.reduceNe,Int.reduceNeg,Nat.reduceDiv,Nat.reduceMod,Nat.reducePow,Za,hx7,ax8,bx8,cx8,al9,bl9,cl9,gl9,hN0,hN]
 refine (Uy  hy10).then ?_
 simp only [push_cast,Nat.reduceAdd,Nat.reduceSub,Nat.reduceMul,Nat.reduceLeDiff,Nat.reduceLT,Nat.reduceEqDiff,↓reduceIte,reduceCtorEq,Int.reduceBEq,Int.reduceBNe,Nat.reduceBEq,Int.reduceLE,Int.reduceLT,Int.reduceEq,Int.reduceNe,Int.reduceNeg,Nat.reduceDiv,Nat.reduceMod,Nat.reducePow,Za,hx7,ax8,bx8,cx8,al9,bl9,cl9,gl9,hN0,hN]
 refine Zg [8,9] [true] ?_
 simp only [push_cast,seval]
 refine Zu ?_
 try simp only [Zh,Ze]
 have h:=Option.some.inj h;subst h
 refine Zl (.inr rfl) hU [.row n y10.length,.val (.bool true)] (by omega) ?_
 simp only [push_cast,seval,Za,Tryz.results125,hN0,hN]
theorem Zyq {a0:Int} {r:Int} {O:Objs} {n:Nat} (h:Zc8 a0=some r):GTo Tryz.prog 144 [.val (.int .i64 a0)] O n (.val (.int .i64 r)) O n:=by
 unfold Zc8 at h
 refine Ye Zc Tryz.call144 Tryz.func144 rfl (Nat.le_of_ble_eq_true rfl) (Nat.le_refl _) fun hU => ?_
 have hN0:O n=none:=hU.fresh _ (Nat.le_refl _)
 have hN:∀ k,O (n+k)=none:=fun k=>hU.fresh _ (Nat.le_add_right _ _)
 show W _ _ _ _ ⟨8,[],[(0,.val (.int .i64 a0))]⟩ (Z3 O n []) _
 refine Zk [0] (Zb Zc [] ?_)
 simp only [push_cast,seval,Za,hN0,hN]
 refine Zf ?_
 obtain ⟨y6,hy6,ey6,h⟩:=bY (f:=(eI .i64)) (cs:=[.val (.int .i64 0),.val (.int .i64 1),.val (.int .i64 8),.val (.int .i64 16),.val (.int .i64 32),.val (.int .i64 64),.val (.int .i64 64)]) rfl h
 have g7:=congrArg G.agg ey6
 obtain ⟨y8,hy8,ey8,h⟩:=bY (f:=(eI .i64)) (cs:=[.val (.int .i64 0),.val (.int .i64 0),.val (.int .i64 0),.val (.int .i64 0),.val (.int .i64 0),.val (.int .i64 0),.val (.int .i64 0)]) rfl h
 have g9:=congrArg (GObj.mk false 243 7 1) ey8
 have g10:=Znu (f:=(eI .i64)) y8 y6 (fun _=>rfl)
 refine Zb Zc [] ?_
 simp only [push_cast,seval,Za,g7,g9,g10,hN0,hN]
 refine Zg [0,3] [true] ?_
 simp only [push_cast,seval]
 obtain ⟨x12,hx12,ax12,bx12,cx12,h⟩:=bEA (f:=(eI .i64)) (b:=7) rfl Z1r (fun _=>rfl) (by decide) h
 refine Zk [2] (Zb Zc [] ?_)
 simp only [push_cast,Nat.reduceAdd,Nat.reduceSub,Nat.reduceMul,Nat.reduceLeDiff,Nat.reduceLT,Nat.reduceEqDiff,↓reduceIte,reduceCtorEq,Int.reduceBEq,Int.reduceBNe,Nat.reduceBEq,Int.reduceLE,Int.reduceLT,Int.reduceEq,Int.reduceNe,Int.reduceNeg,Nat.reduceDiv,Nat.reduceMod,Nat.reducePow,Za,ax12,bx12,cx12,hN0,hN]
 refine Zu ?_
 try simp only [Zh,Ze]
 have h:=Option.some.inj h;subst h
 refine Zl (.inr rfl) hU [.val (.int .i64 x12)] (by omega) ?_
 simp only [push_cast,seval,Za,Tryz.results144,hN0,hN]
theorem Zql {a0:Z4} {r:(Int×Bool)} {O:Objs} {n:Nat} (h:U8 a0=some r):GTo Tryz.prog 126 [.agg (Yk a0)] O n (.tup [.val (.int .i64 r.1),.val (.bool r.2)]) O n:=by
 unfold U8 at h
 refine Ye Zc Tryz.call126 Tryz.func126 rfl (Nat.le_of_ble_eq_true rfl) (Nat.le_refl _) fun hU => ?_
 have hN0:O n=none:=hU.fresh _ (Nat.le_refl _)
 have hN:∀ k,O (n+k)=none:=fun k=>hU.fresh _ (Nat.le_add_right _ _)
 show W _ _ _ _ ⟨57,[],[(0,.agg (Yk a0))]⟩ (Z3 O n []) _
 refine Zk [1] (Zb Zc [] ?_)
 simp only [push_cast,seval,Za,hN0,hN]
 refine Zf ?_
 refine Yo ?_
 refine Zk [1,4] (Zb Zc [] ?_)
 simp only [push_cast,seval,Za,hN0,hN]
 refine Zo (t:=(a0.Kind == 1)) rfl (fun c5 => ?_) (fun c5 => ?_)
 ·replace h:=Zw c5 h
  refine Zk [2,3] (Zb Zc [] ?_)
  simp only [push_cast,seval,Za,hN0,hN]
  refine Zu ?_
  try simp only [Zh,Ze]
  have h:=Option.some.inj h;subst h
  refine Zl (.inr rfl) hU [.val (.int .i64 (IntKind.i64.wrap (a0.Data+a0.Ptrs))),.val (.bool true)] (by omega) ?_
  simp only [push_cast,seval,Za,Tryz.results126,hN0,hN]
 replace h:=Zv c5 h
 refine Zk [1,13] (Zb Zc [none,none,none] ?_)
 simp only [push_cast,seval,Za,hN0,hN]
 repeat (with_reducible refine And.intro (by first | (intro h0;simp only [h0];done) | (intro h0;simp only [h0,true_and,and_true,imp_self,implies_true,ne_eq,beq_iff_eq];done) | (intros;simp_all;done) | exact True.intro) ?_)
 refine Zo (t:=(cond (a0.Kind == 2) (a0.Code == 7) false)) rfl (fun c4 => ?_) (fun c4 => ?_)
 ·replace h:=Zw c4 h
  refine Zk [2,3] (Zb Zc [] ?_)
  simp only [push_cast,seval,Za,hN0,hN]
  refine Zu ?_
  try simp only [Zh,Ze]
  have h:=Option.some.inj h;subst h
  refine Zl (.inr rfl) hU [.val (.int .i64 (IntKind.i64.wrap (a0.Count+1))),.val (.bool true)] (by omega) ?_
  simp only [push_cast,seval,Za,Tryz.results126,hN0,hN]
 replace h:=Zv c4 h
 refine Zk [1,25] (Zb Zc [none,none,none,none,none,none,none,none,none,none,none,none] ?_)
 simp only [push_cast,seval,Za,hN0,hN]
 repeat (with_reducible refine And.intro (by first | (intro h0;simp only [h0];done) | (intro h0;simp only [h0,true_and,and_true,imp_self,implies_true,ne_eq,beq_iff_eq];done) | (intros;simp_all;done) | exact True.intro) ?_)
 refine Zo (t:=(cond (cond (cond (cond (a0.Kind == 2) (decide (0≤a0.Code)) false) (decide (a0.Code < 7)) false) (decide (0≤a0.Count)) false) (decide (a0.Count≤536870911)) false)) rfl (fun c3 => ?_) (fun c3 => ?_)
 ·replace h:=Zw c3 h
  refine Zf ?_
  obtain ⟨y2,hy2,h⟩:=bC h
  refine Y8 Zc (by kernel_rfl) [] (by kernel_rfl) ?_
  simp only [push_cast,seval,Za,hN0,hN]
  refine PCall.of (Zyq hy2) ?_
  simp only [push_cast,seval,Za,hN0,hN]
  refine Zg [2,3] [false] ?_
  simp only [push_cast,seval]
  refine Zu ?_
  try simp only [Zh,Ze]
  have h:=Option.some.inj h;subst h
  refine Zl (.inr rfl) hU [.val (.int .i64 (IntKind.i64.wrap (Int.tdiv (IntKind.i64.wrap ((IntKind.i64.wrap (a0.Count * y2))+63)) 64))),.val (.bool true)] (by omega) ?_
  simp only [push_cast,seval,Za,Tryz.results126,hN0,hN]
 replace h:=Zv c3 h
 refine Zt ?_
 try simp only [Zh,Ze]
 refine Zg [] [false] ?_
 simp only [push_cast,seval]
 refine Zk [2,3] (Zb Zc [] ?_)
 simp only [push_cast,seval,Za,hN0,hN]
 refine Zu ?_
 try simp only [Zh,Ze]
 have h:=Option.some.inj h;subst h
 refine Zl (.inr rfl) hU [.val (.int .i64 0),.val (.bool false)] (by omega) ?_
 simp only [push_cast,seval,Za,Tryz.results126,hN0,hN]
theorem Zfy {a0:(Option Zp)} {a1:Z4} {a2:Int} {a3:Int} {r:(Xg×Int)} {O:Objs} {n:Nat} (h:U3 a0 a1 a2 a3=some r):GTo Tryz.prog 103 [(gP Zz a0),.agg (Yk a1),.val (.int .i64 a2),.val (.int .i64 a3)] O n (.tup [.agg [.val (.int .i64 r.1.P.Kind),.val (.int .i64 r.1.P.Off),.val (.int .i64 r.1.P.Data),.val (.int .i64 r.1.P.Ptrs),.val (.int .i64 r.1.P.Code),.val (.int .i64 r.1.P.Count),.val (.int .i64 r.1.P.Segment),.val (.bool r.1.P.Double),.val (.int .i64 r.1.Segment),.val (.int .i64 r.1.At)],.val (.int .i64 r.2)]) O n:=by
 unfold U3 at h
 refine Ye Zc Tryz.call103 Tryz.func103 rfl (Nat.le_of_ble_eq_true rfl) (Nat.le_refl _) fun hU => ?_
 have hN0:O n=none:=hU.fresh _ (Nat.le_refl _)
 have hN:∀ k,O (n+k)=none:=fun k=>hU.fresh _ (Nat.le_add_right _ _)
 show W _ _ _ _ ⟨36,[],[(0,(gP Zz a0)),(1,.agg (Yk a1)),(2,.val (.int .i64 a2)),(3,.val (.int .i64 a3))]⟩ (Z3 O n []) _
 refine Zk [0,2,3,5,8] (Zb Zc [] ?_)
 simp only [push_cast,seval,Za,hN0,hN]
 refine Zf ?_
 refine Zk [0,2,3,5,8,14] (Zb Zc [] ?_)
 simp only [push_cast,seval,Za,hN0,hN]
 refine Zo (t:=(a1.Kind == 4)) rfl (fun c7 => ?_) (fun c7 => ?_)
 ·replace h:=Zw c7 h
  refine Zf ?_
  refine Zb Zc [] ?_
  simp only [push_cast,seval,Za,hN0,hN]
  refine Zg [8,9] [false,true] ?_
  simp only [push_cast,seval]
  refine Zu ?_
  try simp only [Zh,Ze]
  have h:=Option.some.inj h;subst h
  refine Zl (.inr rfl) hU [.agg [.val (.int .i64 0),.val (.int .i64 0),.val (.int .i64 0),.val (.int .i64 0),.val (.int .i64 0),.val (.int .i64 0),.val (.int .i64 0),.val (.bool false),.val (.int .i64 0),.val (.int .i64 0)],.val (.int .i64 9)] (by omega) ?_
  simp only [push_cast,seval,Za,Tryz.results103,hN0,hN]
 replace h:=Zv c7 h
 refine Zt ?_
 try simp only [Zh,Ze]
 refine Zg [0,2,3,5,8] [true,true] ?_
 simp only [push_cast,seval]
 refine Zf ?_
 obtain ⟨y2,hy2,h⟩:=bC h
 refine Zb Zc [] ?_
 simp only [push_cast,seval,Za,hN0,hN]
 refine (Zql hy2).then ?_
 simp only [push_cast,seval,Za,hN0,hN]
 refine Zg [0,2,3,5,8,10,11] [true,true] ?_
 simp only [push_cast,seval]
 refine Zf ?_
 refine Zk [0,2,3,5,8,10,22] (Zb Zc [] ?_)
 simp only [push_cast,seval,Za,hN0,hN]
 refine Zo (t:=(!y2.2)) rfl (fun c6 => ?_) (fun c6 => ?_)
 ·replace h:=Zw c6 h
  refine Zf ?_
  refine Zb Zc [] ?_
  simp only [push_cast,seval,Za,hN0,hN]
  refine Zg [8,9] [false,true] ?_
  simp only [push_cast,seval]
  refine Zu ?_
  try simp only [Zh,Ze]
  have h:=Option.some.inj h;subst h
  refine Zl (.inr rfl) hU [.agg [.val (.int .i64 0),.val (.int .i64 0),.val (.int .i64 0),.val (.int .i64 0),.val (.int .i64 0),.val (.int .i64 0),.val (.int .i64 0),.val (.bool false),.val (.int .i64 0),.val (.int .i64 0)],.val (.int .i64 8)] (by omega) ?_
  simp only [push_cast,seval,Za,Tryz.results103,hN0,hN]
 replace h:=Zv c6 h
 refine Zt ?_
 try simp only [Zh,Ze]
 refine Zg [0,2,3,5,8,10] [true,true] ?_
 simp only [push_cast,seval]
 refine Zf ?_
 refine Zf ?_
 obtain ⟨y4,hy4,h⟩:=bC h
 refine Zb Zc [] ?_
 simp only [push_cast,seval,Za,hN0,hN]
 refine (Za3 hy4).then ?_
 simp only [push_cast,seval,Za,hN0,hN]
 refine Zg [2,3,5,8,29] [true,true] ?_
 simp only [push_cast,seval]
 refine Zo (t:=(!y4)) rfl (fun c5 => ?_) (fun c5 => ?_)
 ·replace h:=Zw c5 h
  refine Zf ?_
  refine Zb Zc [] ?_
  simp only [push_cast,seval,Za,hN0,hN]
  refine Zg [8,9] [false,true] ?_
  simp only [push_cast,seval]
  refine Zu ?_
  try simp only [Zh,Ze]
  have h:=Option.some.inj h;subst h
  refine Zl (.inr rfl) hU [.agg [.val (.int .i64 0),.val (.int .i64 0),.val (.int .i64 0),.val (.int .i64 0),.val (.int .i64 0),.val (.int .i64 0),.val (.int .i64 0),.val (.bool false),.val (.int .i64 0),.val (.int .i64 0)],.val (.int .i64 7)] (by omega) ?_
  simp only [push_cast,seval,Za,Tryz.results103,hN0,hN]
 replace h:=Zv c5 h
 refine Zt ?_
 try simp only [Zh,Ze]
 refine Zg [2,3,5,8] [true,true] ?_
 simp only [push_cast,seval]
 refine Zf ?_
 refine Zb Zc [] ?_
 simp only [push_cast,seval,Za,hN0,hN]
 refine Zg [2,3,5,8] [true,true] ?_
 simp only [push_cast,seval]
 refine Zf ?_
 refine Zb Zc [] ?_
 simp only [push_cast,seval,Za,hN0,hN]
 refine Zg [8,9] [false,true] ?_
 simp only [push_cast,seval]
 refine Zu ?_
 try simp only [Zh,Ze]
 have h:=Option.some.inj h;subst h
 refine Zl (.inr rfl) hU [.agg [.val (.int .i64 a1.Kind),.val (.int .i64 0),.val (.int .i64 a1.Data),.val (.int .i64 a1.Ptrs),.val (.int .i64 a1.Code),.val (.int .i64 a1.Count),.val (.int .i64 a1.Segment),.val (.bool a1.Double),.val (.int .i64 a2),.val (.int .i64 a3)],.val (.int .i64 0)] (by omega) ?_
 simp only [push_cast,seval,Za,Tryz.results103,hN0,hN]
theorem Zvb {a0:(Option Zp)} {a1:Int} {a2:Int} {r:(Xg×Int)} {O:Objs} {n:Nat} (h:Zby a0 a1 a2=some r):GTo Tryz.prog 101 [(gP Zz a0),.val (.int .i64 a1),.val (.int .i64 a2)] O n (.tup [.agg [.val (.int .i64 r.1.P.Kind),.val (.int .i64 r.1.P.Off),.val (.int .i64 r.1.P.Data),.val (.int .i64 r.1.P.Ptrs),.val (.int .i64 r.1.P.Code),.val (.int .i64 r.1.P.Count),.val (.int .i64 r.1.P.Segment),.val (.bool r.1.P.Double),.val (.int .i64 r.1.Segment),.val (.int .i64 r.1.At)],.val (.int .i64 r.2)]) O n:=by
 unfold Zby at h
 refine Ye Zc Tryz.call101 Tryz.func101 rfl (Nat.le_of_ble_eq_true rfl) (Nat.le_refl _) fun hU => ?_
 have hN0:O n=none:=hU.fresh _ (Nat.le_refl _)
 have hN:∀ k,O (n+k)=none:=fun k=>hU.fresh _ (Nat.le_add_right _ _)
 show W _ _ _ _ ⟨56,[],[(0,(gP Zz a0)),(1,.val (.int .i64 a1)),(2,.val (.int .i64 a2))]⟩ (Z3 O n []) _
 refine Zk [0,1,2,6] (Zb Zc [] ?_)
 simp only [push_cast,seval,Za,hN0,hN]
 refine Zf ?_
 obtain ⟨y2,hy2,h⟩:=bC h
 refine Zb Zc [] ?_
 simp only [push_cast,seval,Za,hN0,hN]
 refine (Zm1 hy2).then ?_
 simp only [push_cast,seval,Za,hN0,hN]
 refine Zg [0,6,8,9] [true] ?_
 simp only [push_cast,seval]
 refine Zf ?_
 refine Zk [0,6,8,20] (Zb Zc [] ?_)
 simp only [push_cast,seval,Za,hN0,hN]
 refine Zo (t:=(!y2.2)) rfl (fun Kl => ?_) (fun Kl => ?_)
 ·replace h:=Zw Kl h
  refine Zf ?_
  refine Zb Zc [] ?_
  simp only [push_cast,seval,Za,hN0,hN]
  refine Zg [6,7] [true] ?_
  simp only [push_cast,seval]
  refine Zu ?_
  try simp only [Zh,Ze]
  have h:=Option.some.inj h;subst h
  refine Zl (.inr rfl) hU [.agg [.val (.int .i64 0),.val (.int .i64 0),.val (.int .i64 0),.val (.int .i64 0),.val (.int .i64 0),.val (.int .i64 0),.val (.int .i64 0),.val (.bool false),.val (.int .i64 0),.val (.int .i64 0)],.val (.int .i64 7)] (by omega) ?_
  simp only [push_cast,seval,Za,Tryz.results101,hN0,hN]
 replace h:=Zv Kl h
 refine Zt ?_
 try simp only [Zh,Ze]
 refine Zg [0,6,8] [true] ?_
 simp only [push_cast,seval]
 obtain ⟨x3,hx3,ax3,bx3,cx3,h⟩:=bE (f:=(eI .u64)) Ug (fun _=>rfl) (by decide) h
 obtain ⟨y4,hy4,h⟩:=bC h
 obtain ⟨x5,hx5,ax5,bx5,cx5,h⟩:=bE (f:=(eI .u64)) Ug (fun _=>rfl) (by decide) h
 obtain ⟨y6,hy6,h⟩:=bC h
 refine Yr (E':=⟨56,[],[(0,(gP Zz a0)),(6,.ref n 0),(10,.ref (n+1) 0),(11,.ref (n+2) 0)]⟩) (O':=(Z3 O n [some ⟨false,142,10,1,[.val (.int .i64 0),.val (.int .i64 0),.val (.int .i64 0),.val (.int .i64 0),.val (.int .i64 0),.val (.int .i64 0),.val (.int .i64 0),.val (.bool false),.val (.int .i64 0),.val (.int .i64 0)]⟩,some ⟨false,140,8,1,(Yk y4)⟩,some ⟨false,140,8,1,(Yk y6)⟩])) (n0:=(n+3)) ?_ ?_
 ·refine Z3n Zc (by kernel_rfl) [.low,.low,.low,.low,.low,.low,.low,.low,.pass,.pass,.pass,.pass] (fun i=>i < (n+1)) 8 9 [0,1,2,3,4,5,6,7] [10,11] [.low,.low,.low,.low,.low,.low,.low,.low] [.pass,.pass,.pass,.pass] [.pass,.pass,.pass,.pass] [] (by kernel_rfl) rfl rfl rfl ?_
  simp only [push_cast,Nat.reduceAdd,Nat.reduceSub,Nat.reduceMul,Nat.reduceLeDiff,Nat.reduceLT,Nat.reduceEqDiff,↓reduceIte,reduceCtorEq,Int.reduceBEq,Int.reduceBNe,Nat.reduceBEq,Int.reduceLE,Int.reduceLT,Int.reduceEq,Int.reduceNe,Int.reduceNeg,Nat.reduceDiv,Nat.reduceMod,Nat.reducePow,Za,ax3,bx3,cx3,ax5,bx5,cx5,hN0,hN]
  repeat (with_reducible refine And.intro (by omega) ?_)
  first | refine PCallA.of (fun _ _=>Uf hy4) ?_ | refine PCall.of (Uf hy4) ?_
  simp only [push_cast,Nat.reduceAdd,Nat.reduceSub,Nat.reduceMul,Nat.reduceLeDiff,Nat.reduceLT,Nat.reduceEqDiff,↓reduceIte,reduceCtorEq,Int.reduceBEq,Int.reduceBNe,Nat.reduceBEq,Int.reduceLE,Int.reduceLT,Int.reduceEq,Int.reduceNe,Int.reduceNeg,Nat.reduceDiv,Nat.reduceMod,Nat.reducePow,Za,ax3,bx3,cx3,ax5,bx5,cx5,hN0,hN]
  repeat (with_reducible refine And.intro (by omega) ?_)
  first | refine PCallA.of (fun _ _=>Uf hy6) ?_ | refine PCall.of (Uf hy6) ?_
  simp only [push_cast,Nat.reduceAdd,Nat.reduceSub,Nat.reduceMul,Nat.reduceLeDiff,Nat.reduceLT,Nat.reduceEqDiff,↓reduceIte,reduceCtorEq,Int.reduceBEq,Int.reduceBNe,Nat.reduceBEq,Int.reduceLE,Int.reduceLT,Int.reduceEq,Int.reduceNe,Int.reduceNeg,Nat.reduceDiv,Nat.reduceMod,Nat.reducePow,Za,ax3,bx3,cx3,ax5,bx5,cx5,hN0,hN]
  repeat (with_reducible refine And.intro (by omega) ?_)
  refine And.intro ?_ ?_
  ·simp only [push_cast,Nat.reduceAdd,Nat.reduceSub,Nat.reduceMul,Nat.reduceLeDiff,Nat.reduceLT,Nat.reduceEqDiff,↓reduceIte,reduceCtorEq,Int.reduceBEq,Int.reduceBNe,Nat.reduceBEq,Int.reduceLE,Int.reduceLT,Int.reduceEq,Int.reduceNe,Int.reduceNeg,Nat.reduceDiv,Nat.reduceMod,Nat.reducePow,Za,ax3,bx3,cx3,ax5,bx5,cx5,hN0,hN]
   repeat (with_reducible refine And.intro (by first | exact Xb rfl | exact Yw) ?_)
   refine And.intro rfl (Fit2.of (Zm hU rfl rfl ?_) (by omega))
   simp only [push_cast,Nat.reduceAdd,Nat.reduceSub,Nat.reduceMul,Nat.reduceLeDiff,Nat.reduceLT,Nat.reduceEqDiff,↓reduceIte,reduceCtorEq,Int.reduceBEq,Int.reduceBNe,Nat.reduceBEq,Int.reduceLE,Int.reduceLT,Int.reduceEq,Int.reduceNe,Int.reduceNeg,Nat.reduceDiv,Nat.reduceMod,Nat.reducePow,Za,ax3,bx3,cx3,ax5,bx5,cx5,hN0,hN]
  simp only [push_cast,Nat.reduceAdd,Nat.reduceSub,Nat.reduceMul,Nat.reduceLeDiff,Nat.reduceLT,Nat.reduceEqDiff,↓reduceIte,reduceCtorEq,Int.reduceBEq,Int.reduceBNe,Nat.reduceBEq,Int.reduceLE,Int.reduceLT,Int.reduceEq,Int.reduceNe,Int.reduceNeg,Nat.reduceDiv,Nat.reduceMod,Nat.reducePow,Za,ax3,bx3,cx3,ax5,bx5,cx5,hN0,hN]
  repeat (with_reducible refine And.intro (by first | exact Xb rfl | exact Yw) ?_)
  refine And.intro rfl ?_
  refine Fit2.trans (E':=(⟨56,[],[(0,(gP Zz a0)),(6,.ref n 0),(10,.ref (n+2) 0),(11,.ref (n+1) 0)]⟩:Env)) (O':=(Z3 O n [some ⟨false,142,10,1,[.val (.int .i64 0),.val (.int .i64 0),.val (.int .i64 0),.val (.int .i64 0),.val (.int .i64 0),.val (.int .i64 0),.val (.int .i64 0),.val (.bool false),.val (.int .i64 0),.val (.int .i64 0)]⟩,some ⟨false,140,8,1,(Yk y6)⟩,some ⟨false,140,8,1,(Yk y4)⟩])) (n':=(n+3)) (Fit2.of (Zm hU rfl rfl ?_) (by omega)) ?_
  ·simp only [push_cast,Nat.reduceAdd,Nat.reduceSub,Nat.reduceMul,Nat.reduceLeDiff,Nat.reduceLT,Nat.reduceEqDiff,↓reduceIte,reduceCtorEq,Int.reduceBEq,Int.reduceBNe,Nat.reduceBEq,Int.reduceLE,Int.reduceLT,Int.reduceEq,Int.reduceNe,Int.reduceNeg,Nat.reduceDiv,Nat.reduceMod,Nat.reducePow,Za,ax3,bx3,cx3,ax5,bx5,cx5,hN0,hN]
  refine Zil (k:=3) (k':=3) hU [0,2,1] [0,2,1] rfl rfl rfl rfl ⟨rfl,rfl⟩ ?_
  simp only [push_cast,seval,Za,hN0,hN]
 refine Zf ?_
 refine Zk [0,6,10,11,36] (Zb Zc [none,none] ?_)
 simp only [push_cast,seval,Za,hN0,hN]
 repeat (with_reducible refine And.intro (by first | (intro h0;simp only [h0];done) | (intro h0;simp only [h0,true_and,and_true,imp_self,implies_true,bne_iff_ne,ne_eq];done) | (intros;simp_all;done) | exact True.intro) ?_)
 refine Zo (t:=(cond (y4.Kind != 3) true y4.Double)) rfl (fun Gi => ?_) (fun Gi => ?_)
 ·replace h:=Zw Gi h
  refine Zf ?_
  refine Zb Zc [] ?_
  simp only [push_cast,seval,Za,hN0,hN]
  refine Zg [6,7] [true,false,false] ?_
  simp only [push_cast,seval]
  refine Zu ?_
  try simp only [Zh,Ze]
  have h:=Option.some.inj h;subst h
  refine Zl (.inr rfl) hU [.agg [.val (.int .i64 0),.val (.int .i64 0),.val (.int .i64 0),.val (.int .i64 0),.val (.int .i64 0),.val (.int .i64 0),.val (.int .i64 0),.val (.bool false),.val (.int .i64 0),.val (.int .i64 0)],.val (.int .i64 8)] (by omega) ?_
  simp only [push_cast,seval,Za,Tryz.results101,hN0,hN]
 replace h:=Zv Gi h
 refine Zt ?_
 try simp only [Zh,Ze]
 refine Zg [0,6,10,11] [true,true,true] ?_
 simp only [push_cast,seval]
 refine Zf ?_
 refine Zk [0,6,10,11,45] (Zb Zc [none,none,none] ?_)
 simp only [push_cast,seval,Za,hN0,hN]
 repeat (with_reducible refine And.intro (by first | (intro h0;simp only [h0];done) | (intro h0;simp only [h0,true_and,and_true,imp_self,implies_true,bne_iff_ne,ne_eq];done) | (intros;simp_all;done) | exact True.intro) ?_)
 refine Zo (t:=(cond (y6.Kind != 4) (y6.Off != 0) false)) rfl (fun c9 => ?_) (fun c9 => ?_)
 ·replace h:=Zw c9 h
  refine Zf ?_
  refine Zb Zc [] ?_
  simp only [push_cast,seval,Za,hN0,hN]
  refine Zg [6,7] [true,false,false] ?_
  simp only [push_cast,seval]
  refine Zu ?_
  try simp only [Zh,Ze]
  have h:=Option.some.inj h;subst h
  refine Zl (.inr rfl) hU [.agg [.val (.int .i64 0),.val (.int .i64 0),.val (.int .i64 0),.val (.int .i64 0),.val (.int .i64 0),.val (.int .i64 0),.val (.int .i64 0),.val (.bool false),.val (.int .i64 0),.val (.int .i64 0)],.val (.int .i64 8)] (by omega) ?_
  simp only [push_cast,seval,Za,Tryz.results101,hN0,hN]
 replace h:=Zv c9 h
 refine Zt ?_
 try simp only [Zh,Ze]
 refine Zg [0,6,10,11] [true,true,true] ?_
 simp only [push_cast,seval]
 refine Zf ?_
 obtain ⟨y8,hy8,h⟩:=bC h
 refine Zb Zc [] ?_
 simp only [push_cast,seval,Za,hN0,hN]
 refine (Zfy hy8).then ?_
 simp only [push_cast,seval,Za,hN0,hN]
 refine Zg [6,7] [true,false,false] ?_
 simp only [push_cast,seval]
 refine Zu ?_
 try simp only [Zh,Ze]
 have h:=Option.some.inj h;subst h
 refine Zl (.inr rfl) hU [.agg [.val (.int .i64 y8.1.P.Kind),.val (.int .i64 y8.1.P.Off),.val (.int .i64 y8.1.P.Data),.val (.int .i64 y8.1.P.Ptrs),.val (.int .i64 y8.1.P.Code),.val (.int .i64 y8.1.P.Count),.val (.int .i64 y8.1.P.Segment),.val (.bool y8.1.P.Double),.val (.int .i64 y8.1.Segment),.val (.int .i64 y8.1.At)],.val (.int .i64 y8.2)] (by omega) ?_
 simp only [push_cast,seval,Za,Tryz.results101,hN0,hN]
theorem Zvc {a0:(Option Zp)} {a1:Int} {a2:Int} {r:(Xg×Int)} {O:Objs} {n:Nat} (h:Zbz a0 a1 a2=some r):GTo Tryz.prog 102 [(gP Zz a0),.val (.int .i64 a1),.val (.int .i64 a2)] O n (.tup [.agg [.val (.int .i64 r.1.P.Kind),.val (.int .i64 r.1.P.Off),.val (.int .i64 r.1.P.Data),.val (.int .i64 r.1.P.Ptrs),.val (.int .i64 r.1.P.Code),.val (.int .i64 r.1.P.Count),.val (.int .i64 r.1.P.Segment),.val (.bool r.1.P.Double),.val (.int .i64 r.1.Segment),.val (.int .i64 r.1.At)],.val (.int .i64 r.2)]) O n:=by
 unfold Zbz at h
 refine Ye Zc Tryz.call102 Tryz.func102 rfl (Nat.le_of_ble_eq_true rfl) (Nat.le_refl _) fun hU => ?_
 have hN0:O n=none:=hU.fresh _ (Nat.le_refl _)
 have hN:∀ k,O (n+k)=none:=fun k=>hU.fresh _ (Nat.le_add_right _ _)
 show W _ _ _ _ ⟨34,[],[(0,(gP Zz a0)),(1,.val (.int .i64 a1)),(2,.val (.int .i64 a2))]⟩ (Z3 O n []) _
 refine Zk [0,1,2,6] (Zb Zc [] ?_)
 simp only [push_cast,seval,Za,hN0,hN]
 refine Zf ?_
 obtain ⟨y2,hy2,h⟩:=bC h
 refine Zb Zc [] ?_
 simp only [push_cast,seval,Za,hN0,hN]
 refine (Ve hy2).then ?_
 simp only [push_cast,seval,Za,hN0,hN]
 refine Zg [0,1,2,6,8,9] [true] ?_
 simp only [push_cast,seval]
 refine Zf ?_
 refine Zk [0,1,2,6,8,19] (Zb Zc [] ?_)
 simp only [push_cast,seval,Za,hN0,hN]
 refine Zo (t:=(!y2.2)) rfl (fun c7 => ?_) (fun c7 => ?_)
 ·replace h:=Zw c7 h
  refine Zf ?_
  refine Zb Zc [] ?_
  simp only [push_cast,seval,Za,hN0,hN]
  refine Zg [6,7] [true] ?_
  simp only [push_cast,seval]
  refine Zu ?_
  try simp only [Zh,Ze]
  have h:=Option.some.inj h;subst h
  refine Zl (.inr rfl) hU [.agg [.val (.int .i64 0),.val (.int .i64 0),.val (.int .i64 0),.val (.int .i64 0),.val (.int .i64 0),.val (.int .i64 0),.val (.int .i64 0),.val (.bool false),.val (.int .i64 0),.val (.int .i64 0)],.val (.int .i64 7)] (by omega) ?_
  simp only [push_cast,seval,Za,Tryz.results102,hN0,hN]
 replace h:=Zv c7 h
 refine Zt ?_
 try simp only [Zh,Ze]
 refine Zg [0,1,2,6,8] [true] ?_
 simp only [push_cast,seval]
 refine Zf ?_
 obtain ⟨y4,hy4,h⟩:=bC h
 refine Zb Zc [] ?_
 simp only [push_cast,seval,Za,hN0,hN]
 refine (Uf hy4).then ?_
 simp only [push_cast,seval,Za,hN0,hN]
 refine Zg [0,1,2,6,10] [true,true] ?_
 simp only [push_cast,seval]
 refine Zf ?_
 obtain ⟨y6,hy6,h⟩:=bC h
 refine Zb Zc [] ?_
 simp only [push_cast,seval,Za,hN0,hN]
 refine (Zfy hy6).then ?_
 simp only [push_cast,seval,Za,hN0,hN]
 refine Zg [6,7] [true,false] ?_
 simp only [push_cast,seval]
 refine Zu ?_
 try simp only [Zh,Ze]
 have h:=Option.some.inj h;subst h
 refine Zl (.inr rfl) hU [.agg [.val (.int .i64 y6.1.P.Kind),.val (.int .i64 y6.1.P.Off),.val (.int .i64 y6.1.P.Data),.val (.int .i64 y6.1.P.Ptrs),.val (.int .i64 y6.1.P.Code),.val (.int .i64 y6.1.P.Count),.val (.int .i64 y6.1.P.Segment),.val (.bool y6.1.P.Double),.val (.int .i64 y6.1.Segment),.val (.int .i64 y6.1.At)],.val (.int .i64 y6.2)] (by omega) ?_
 simp only [push_cast,seval,Za,Tryz.results102,hN0,hN]
theorem Zva {a0:(Option Zp)} {a1:Int} {a2:Int} {r:(Xg×Int)} {O:Objs} {n:Nat} (h:Zbx a0 a1 a2=some r):GTo Tryz.prog 78 [(gP Zz a0),.val (.int .i64 a1),.val (.int .i64 a2)] O n (.tup [.agg [.val (.int .i64 r.1.P.Kind),.val (.int .i64 r.1.P.Off),.val (.int .i64 r.1.P.Data),.val (.int .i64 r.1.P.Ptrs),.val (.int .i64 r.1.P.Code),.val (.int .i64 r.1.P.Count),.val (.int .i64 r.1.P.Segment),.val (.bool r.1.P.Double),.val (.int .i64 r.1.Segment),.val (.int .i64 r.1.At)],.val (.int .i64 r.2)]) O n:=by
 unfold Zbx at h
 refine Ye Zc Tryz.call78 Tryz.func78 rfl (Nat.le_of_ble_eq_true rfl) (Nat.le_refl _) fun hU => ?_
 have hN0:O n=none:=hU.fresh _ (Nat.le_refl _)
 have hN:∀ k,O (n+k)=none:=fun k=>hU.fresh _ (Nat.le_add_right _ _)
 show W _ _ _ _ ⟨67,[],[(0,(gP Zz a0)),(1,.val (.int .i64 a1)),(2,.val (.int .i64 a2))]⟩ (Z3 O n []) _
 refine Zk [0,1,2,6] (Zb Zc [] ?_)
 simp only [push_cast,seval,Za,hN0,hN]
 refine Zf ?_
 obtain ⟨y2,hy2,h⟩:=bC h
 refine Zb Zc [] ?_
 simp only [push_cast,seval,Za,hN0,hN]
 refine (Ve hy2).then ?_
 simp only [push_cast,seval,Za,hN0,hN]
 refine Zg [0,1,2,6,8,9] [true] ?_
 simp only [push_cast,seval]
 refine Zf ?_
 refine Zk [0,1,2,6,8,19] (Zb Zc [] ?_)
 simp only [push_cast,seval,Za,hN0,hN]
 refine Zo (t:=(!y2.2)) rfl (fun c14 => ?_) (fun c14 => ?_)
 ·replace h:=Zw c14 h
  refine Zf ?_
  refine Zb Zc [] ?_
  simp only [push_cast,seval,Za,hN0,hN]
  refine Zg [6,7] [true] ?_
  simp only [push_cast,seval]
  refine Zu ?_
  try simp only [Zh,Ze]
  have h:=Option.some.inj h;subst h
  refine Zl (.inr rfl) hU [.agg [.val (.int .i64 0),.val (.int .i64 0),.val (.int .i64 0),.val (.int .i64 0),.val (.int .i64 0),.val (.int .i64 0),.val (.int .i64 0),.val (.bool false),.val (.int .i64 0),.val (.int .i64 0)],.val (.int .i64 7)] (by omega) ?_
  simp only [push_cast,seval,Za,Tryz.results78,hN0,hN]
 replace h:=Zv c14 h
 refine Zt ?_
 try simp only [Zh,Ze]
 refine Zg [0,1,2,6,8] [true] ?_
 simp only [push_cast,seval]
 refine Zf ?_
 obtain ⟨y4,hy4,h⟩:=bC h
 refine Zb Zc [] ?_
 simp only [push_cast,seval,Za,hN0,hN]
 refine (Uf hy4).then ?_
 simp only [push_cast,seval,Za,hN0,hN]
 refine Zg [0,1,2,6,10] [true,true] ?_
 simp only [push_cast,seval]
 refine Zf ?_
 refine Yo ?_
 refine Zk [0,1,2,6,10,23] (Zb Zc [] ?_)
 simp only [push_cast,seval,Za,hN0,hN]
 refine Zo (t:=(y4.Kind == 0)) rfl (fun U7 => ?_) (fun U7 => ?_)
 ·replace h:=Zw U7 h
  refine Zf ?_
  refine Zb Zc [] ?_
  simp only [push_cast,seval,Za,hN0,hN]
  refine Zg [6,7] [true,false] ?_
  simp only [push_cast,seval]
  refine Zu ?_
  try simp only [Zh,Ze]
  have h:=Option.some.inj h;subst h
  refine Zl (.inr rfl) hU [.agg [.val (.int .i64 0),.val (.int .i64 0),.val (.int .i64 0),.val (.int .i64 0),.val (.int .i64 0),.val (.int .i64 0),.val (.int .i64 0),.val (.bool false),.val (.int .i64 0),.val (.int .i64 0)],.val (.int .i64 0)] (by omega) ?_
  simp only [push_cast,seval,Za,Tryz.results78,hN0,hN]
 replace h:=Zv U7 h
 refine Zk [0,1,2,6,10,28] (Zb Zc [none,none] ?_)
 simp only [push_cast,seval,Za,hN0,hN]
 repeat (with_reducible refine And.intro (by first | (intro h0;simp only [h0];done) | (intro h0;simp only [h0,true_and,and_true,imp_self,implies_true,ne_eq,beq_iff_eq];done) | (intros;simp_all;done) | exact True.intro) ?_)
 refine Zo (t:=(cond (y4.Kind == 3) y4.Double false)) rfl (fun Ux => ?_) (fun Ux => ?_)
 ·replace h:=Zw Ux h
  refine Zf ?_
  obtain ⟨y6,hy6,h⟩:=bC h
  refine Zb Zc [] ?_
  simp only [push_cast,seval,Za,hN0,hN]
  refine (Zvb hy6).then ?_
  simp only [push_cast,seval,Za,hN0,hN]
  refine Zg [6,7] [true,false] ?_
  simp only [push_cast,seval]
  refine Zu ?_
  try simp only [Zh,Ze]
  have h:=Option.some.inj h;subst h
  refine Zl (.inr rfl) hU [.agg [.val (.int .i64 y6.1.P.Kind),.val (.int .i64 y6.1.P.Off),.val (.int .i64 y6.1.P.Data),.val (.int .i64 y6.1.P.Ptrs),.val (.int .i64 y6.1.P.Code),.val (.int .i64 y6.1.P.Count),.val (.int .i64 y6.1.P.Segment),.val (.bool y6.1.P.Double),.val (.int .i64 y6.1.Segment),.val (.int .i64 y6.1.At)],.val (.int .i64 y6.2)] (by omega) ?_
  simp only [push_cast,seval,Za,Tryz.results78,hN0,hN]
 replace h:=Zv Ux h
 refine Zk [0,1,2,6,10,44] (Zb Zc [] ?_)
 simp only [push_cast,seval,Za,hN0,hN]
 refine Zo (t:=(y4.Kind == 3)) rfl (fun Kl => ?_) (fun Kl => ?_)
 ·replace h:=Zw Kl h
  refine Zf ?_
  obtain ⟨y8,hy8,h⟩:=bC h
  refine Zb Zc [] ?_
  simp only [push_cast,seval,Za,hN0,hN]
  refine (Zvc hy8).then ?_
  simp only [push_cast,seval,Za,hN0,hN]
  refine Zg [6,7] [true,false] ?_
  simp only [push_cast,seval]
  refine Zu ?_
  try simp only [Zh,Ze]
  have h:=Option.some.inj h;subst h
  refine Zl (.inr rfl) hU [.agg [.val (.int .i64 y8.1.P.Kind),.val (.int .i64 y8.1.P.Off),.val (.int .i64 y8.1.P.Data),.val (.int .i64 y8.1.P.Ptrs),.val (.int .i64 y8.1.P.Code),.val (.int .i64 y8.1.P.Count),.val (.int .i64 y8.1.P.Segment),.val (.bool y8.1.P.Double),.val (.int .i64 y8.1.Segment),.val (.int .i64 y8.1.At)],.val (.int .i64 y8.2)] (by omega) ?_
  simp only [push_cast,seval,Za,Tryz.results78,hN0,hN]
 replace h:=Zv Kl h
 refine Zt ?_
 try simp only [Zh,Ze]
 refine Zg [0,1,2,6,10] [true,true] ?_
 simp only [push_cast,seval]
 refine Zf ?_
 obtain ⟨y10,hy10,h⟩:=bC h
 refine Zb Zc [] ?_
 simp only [push_cast,seval,Za,hN0,hN]
 refine (Zfy hy10).then ?_
 simp only [push_cast,seval,Za,hN0,hN]
 refine Zg [6,7] [true,false] ?_
 simp only [push_cast,seval]
 refine Zu ?_
 try simp only [Zh,Ze]
 have h:=Option.some.inj h;subst h
 refine Zl (.inr rfl) hU [.agg [.val (.int .i64 y10.1.P.Kind),.val (.int .i64 y10.1.P.Off),.val (.int .i64 y10.1.P.Data),.val (.int .i64 y10.1.P.Ptrs),.val (.int .i64 y10.1.P.Code),.val (.int .i64 y10.1.P.Count),.val (.int .i64 y10.1.P.Segment),.val (.bool y10.1.P.Double),.val (.int .i64 y10.1.Segment),.val (.int .i64 y10.1.At)],.val (.int .i64 y10.2)] (by omega) ?_
 simp only [push_cast,seval,Za,Tryz.results78,hN0,hN]
theorem Zm7 {a0:Zd} {r:(Zd×Int)} {O:Objs} {n:Nat} (h:U4 a0=some r):GTo Tryz.prog 79 [.agg (Zi a0)] O n (.tup [.agg (Zi r.1),.val (.int .i64 r.2)]) O n:=by
 unfold U4 at h
 refine Ye Zc Tryz.call79 Tryz.func79 rfl (Nat.le_of_ble_eq_true rfl) (Nat.le_refl _) fun hU => ?_
 have hN0:O n=none:=hU.fresh _ (Nat.le_refl _)
 have hN:∀ k,O (n+k)=none:=fun k=>hU.fresh _ (Nat.le_add_right _ _)
 show W _ _ _ _ ⟨56,[],[(0,.agg (Zi a0))]⟩ (Z3 O n []) _
 refine Zk [1,2] (Zb Zc [] ?_)
 simp only [push_cast,seval,Za,hN0,hN]
 refine Zf ?_
 obtain ⟨y2,hy2,h⟩:=bC h
 refine Zb Zc [] ?_
 simp only [push_cast,seval,Za,hN0,hN]
 refine (Ve hy2).then ?_
 simp only [push_cast,seval,Za,hN0,hN]
 refine Zg [1,2,4] [true,true] ?_
 simp only [push_cast,seval]
 refine Zf ?_
 obtain ⟨y4,hy4,h⟩:=bC h
 refine Zb Zc [] ?_
 simp only [push_cast,seval,Za,hN0,hN]
 refine (Uf hy4).then ?_
 simp only [push_cast,seval,Za,hN0,hN]
 refine Zg [1,2,6] [true,true,true] ?_
 simp only [push_cast,seval]
 refine Zf ?_
 refine Zk [1,2,6,44] (Zb Zc [none,none,none,none,none,none,none,none,none,none,none,none,none,none,none,none,none] ?_)
 simp only [push_cast,seval,Za,hN0,hN]
 repeat (with_reducible refine And.intro (by first | (intro h0;simp only [h0,and_self];done) | (intro h0;simp only [h0,true_and,and_true,and_self,imp_self,implies_true,bne_iff_ne,ne_eq];done) | (intros;simp_all;done) | exact True.intro) ?_)
 refine Zo (t:=(cond (cond (cond (y4.Kind != 0) (y4.Kind != 1) false) true (decide (y4.Off < 0))) true (decide (a0.count < (IntKind.i64.wrap (y4.Off * (IntKind.i64.wrap (y4.Data+y4.Ptrs)))))))) rfl (fun c5 => ?_) (fun c5 => ?_)
 ·replace h:=Zw c5 h
  refine Zf ?_
  refine Zb Zc [] ?_
  simp only [push_cast,seval,Za,hN0,hN]
  refine Zg [2,3] [false,true,false] ?_
  simp only [push_cast,seval]
  refine Zu ?_
  try simp only [Zh,Ze]
  have h:=Option.some.inj h;subst h
  refine Zl (.inr rfl) hU [.agg [.val (.pointer none),.val (.int .i64 0),.val (.int .i64 0),.val (.int .i64 0),.val (.int .i64 0),.val (.int .i64 0),.val (.int .i64 0),.val (.int .i64 0),.val (.int .i64 0)],.val (.int .i64 8)] (by omega) ?_
  simp only [push_cast,seval,Za,Tryz.results79,hN0,hN]
 replace h:=Zv c5 h
 refine Zt ?_
 try simp only [Zh,Ze]
 refine Zg [1,2,6] [true,true,true] ?_
 simp only [push_cast,seval]
 refine Zf ?_
 refine Zbo Zc (by kernel_rfl) [.plain,.plain,.low,.low,.low,.low,.plain,.pass,.plain,.pass,.plain,.bar] (fun i=>i≠n+0) [0,1,2,3,4,5,6,7,8,9,10,11] [.plain,.plain,.low,.low,.low,.low,.plain,.pass,.plain,.pass,.plain,.bar] [] (by kernel_rfl) rfl ?_
 simp only [push_cast,seval,Za,hN0,hN]
 repeat (with_reducible refine And.intro (by first | omega | exact Xb rfl | exact Yw | exact X7 rfl | exact Qm rfl rfl | exact Y9 rfl | exact Y2 rfl) ?_)
 refine Zg [1,2] [true,true,false] ?_
 simp only [push_cast,seval]
 refine Zf ?_
 refine Zb Zc [] ?_
 simp only [push_cast,seval,Za,hN0,hN]
 refine Zg [2,3] [false,true,false] ?_
 simp only [push_cast,seval]
 refine Zu ?_
 try simp only [Zh,Ze]
 have h:=Option.some.inj h;subst h
 refine Zl (.inr rfl) hU [.agg [(gP Zz a0.a),.val (.int .i64 a0.kind),.val (.int .i64 a0.segment),.val (.int .i64 a0.at_),.val (.int .i64 y4.Data),.val (.int .i64 y4.Ptrs),.val (.int .i64 y4.Off),.val (.int .i64 a0.code),.val (.int .i64 a0.index)],.val (.int .i64 0)] (by omega) ?_
 simp only [push_cast,seval,Za,Tryz.results79,hN0,hN]
theorem Zid {a0:(Option Zp)} {a1:Int} {a2:Int} {r:(Zd×Int)} {O:Objs} {n:Nat} (h:G3 a0 a1 a2=some r):GTo Tryz.prog 49 [(gP Zz a0),.val (.int .i64 a1),.val (.int .i64 a2)] O n (.tup [.agg (Zi r.1),.val (.int .i64 r.2)]) O n:=by
 unfold G3 at h
 refine Ye Zc Tryz.call49 Tryz.func49 rfl (Nat.le_of_ble_eq_true rfl) (Nat.le_refl _) fun hU => ?_
 have hN0:O n=none:=hU.fresh _ (Nat.le_refl _)
 have hN:∀ k,O (n+k)=none:=fun k=>hU.fresh _ (Nat.le_add_right _ _)
 show W _ _ _ _ ⟨66,[],[(0,(gP Zz a0)),(1,.val (.int .i64 a1)),(2,.val (.int .i64 a2))]⟩ (Z3 O n []) _
 refine Zk [0,1,2,6] (Zb Zc [] ?_)
 simp only [push_cast,seval,Za,hN0,hN]
 refine Zf ?_
 obtain ⟨y2,hy2,h⟩:=bC h
 refine Zb Zc [] ?_
 simp only [push_cast,seval,Za,hN0,hN]
 refine (Zva hy2).then ?_
 simp only [push_cast,seval,Za,hN0,hN]
 refine Zg [0,6,8,9] [true,true] ?_
 simp only [push_cast,seval]
 refine Zf ?_
 refine Zk [0,6,8,9,25] (Zb Zc [none,none,none,none] ?_)
 simp only [push_cast,seval,Za,hN0,hN]
 repeat (with_reducible refine And.intro (by first | (intro h0;simp only [h0];done) | (intro h0;simp only [h0,true_and,and_true,imp_self,implies_true,bne_iff_ne,ne_eq];done) | (intros;simp_all;done) | exact True.intro) ?_)
 refine Zo (t:=(cond (y2.2 != 0) true (y2.1.P.Kind == 0))) rfl (fun c7 => ?_) (fun c7 => ?_)
 ·replace h:=Zw c7 h
  refine Zf ?_
  refine Zb Zc [] ?_
  simp only [push_cast,seval,Za,hN0,hN]
  refine Zg [6,7] [true,false] ?_
  simp only [push_cast,seval]
  refine Zu ?_
  try simp only [Zh,Ze]
  have h:=Option.some.inj h;subst h
  refine Zl (.inr rfl) hU [.agg [.val (.pointer none),.val (.int .i64 0),.val (.int .i64 0),.val (.int .i64 0),.val (.int .i64 0),.val (.int .i64 0),.val (.int .i64 0),.val (.int .i64 0),.val (.int .i64 0)],.val (.int .i64 y2.2)] (by omega) ?_
  simp only [push_cast,seval,Za,Tryz.results49,hN0,hN]
 replace h:=Zv c7 h
 refine Zt ?_
 try simp only [Zh,Ze]
 refine Zg [0,6,8] [true,true] ?_
 simp only [push_cast,seval]
 refine Zf ?_
 refine Zb Zc [] ?_
 simp only [push_cast,seval,Za,hN0,hN]
 refine Zg [6,8,10] [true,true,true] ?_
 simp only [push_cast,seval]
 refine Zf ?_
 refine Zk [6,8,10,37] (Zb Zc [] ?_)
 simp only [push_cast,seval,Za,hN0,hN]
 refine Zo (t:=(y2.1.P.Kind == 1)) rfl (fun c6 => ?_) (fun c6 => ?_)
 ·replace h:=Zw c6 h
  refine Zf ?_
  refine Zbo Zc (by kernel_rfl) [.low,.low,.low,.low,.low,.low,.plain,.pass,.plain,.pass,.plain,.bar] (fun i=>i≠n+2) [0,1,2,3,4,5,6,7,8,9,10,11] [.low,.low,.low,.low,.low,.low,.plain,.pass,.plain,.pass,.plain,.bar] [] (by kernel_rfl) rfl ?_
  simp only [push_cast,seval,Za,hN0,hN]
  repeat (with_reducible refine And.intro (by first | omega | exact Xb rfl | exact Yw | exact X7 rfl | exact Qm rfl rfl | exact Y9 rfl | exact Y2 rfl) ?_)
  refine Zg [6,10] [true,false,true] ?_
  simp only [push_cast,seval]
  refine Zf ?_
  refine Zb Zc [] ?_
  simp only [push_cast,seval,Za,hN0,hN]
  refine Zg [6,7] [true,false,false] ?_
  simp only [push_cast,seval]
  refine Zu ?_
  try simp only [Zh,Ze]
  have h:=Option.some.inj h;subst h
  refine Zl (.inr rfl) hU [.agg [(gP Zz a0),.val (.int .i64 1),.val (.int .i64 y2.1.Segment),.val (.int .i64 y2.1.At),.val (.int .i64 y2.1.P.Data),.val (.int .i64 y2.1.P.Ptrs),.val (.int .i64 0),.val (.int .i64 0),.val (.int .i64 0)],.val (.int .i64 0)] (by omega) ?_
  simp only [push_cast,seval,Za,Tryz.results49,hN0,hN]
 replace h:=Zv c6 h
 refine Zt ?_
 try simp only [Zh,Ze]
 refine Zg [6,8,10] [true,true,true] ?_
 simp only [push_cast,seval]
 refine Zf ?_
 refine Zbo Zc (by kernel_rfl) [.plain,.plain,.plain,.plain,.low,.low,.low,.plain,.pass,.plain,.bar] (fun i=>i≠n+2) [0,1,2,3,4,5,6,7,8,9,10] [.plain,.plain,.plain,.plain,.low,.low,.low,.plain,.pass,.plain,.bar] [] (by kernel_rfl) rfl ?_
 simp only [push_cast,seval,Za,hN0,hN]
 repeat (with_reducible refine And.intro (by first | omega | exact Xb rfl | exact Yw | exact X7 rfl | exact Qm rfl rfl | exact Y9 rfl | exact Y2 rfl) ?_)
 refine Zg [6,8,10] [true,true,true] ?_
 simp only [push_cast,seval]
 refine Zf ?_
 refine Zk [6,10,60] (Zb Zc [] ?_)
 simp only [push_cast,seval,Za,hN0,hN]
 refine Zo (t:=(y2.1.P.Code == 7)) rfl (fun c5 => ?_) (fun c5 => ?_)
 ·replace h:=Zw c5 h
  refine Zf ?_
  obtain ⟨y4,hy4,h⟩:=bC h
  refine Zb Zc [] ?_
  simp only [push_cast,seval,Za,hN0,hN]
  refine (Zm7 hy4).then ?_
  simp only [push_cast,seval,Za,hN0,hN]
  refine Zg [6,7] [true,false,false] ?_
  simp only [push_cast,seval]
  refine Zu ?_
  try simp only [Zh,Ze]
  have h:=Option.some.inj h;subst h
  refine Zl (.inr rfl) hU [.agg (Zi y4.1),.val (.int .i64 y4.2)] (by omega) ?_
  simp only [push_cast,seval,Za,Tryz.results49,hN0,hN]
 replace h:=Zv c5 h
 refine Zt ?_
 try simp only [Zh,Ze]
 refine Zg [6,10] [true,false,true] ?_
 simp only [push_cast,seval]
 refine Zf ?_
 refine Zb Zc [] ?_
 simp only [push_cast,seval,Za,hN0,hN]
 refine Zg [6,7] [true,false,false] ?_
 simp only [push_cast,seval]
 refine Zu ?_
 try simp only [Zh,Ze]
 have h:=Option.some.inj h;subst h
 refine Zl (.inr rfl) hU [.agg [(gP Zz a0),.val (.int .i64 (IntKind.i64.wrap (y2.1.P.Code+2))),.val (.int .i64 y2.1.Segment),.val (.int .i64 y2.1.At),.val (.int .i64 0),.val (.int .i64 0),.val (.int .i64 y2.1.P.Count),.val (.int .i64 0),.val (.int .i64 0)],.val (.int .i64 0)] (by omega) ?_
 simp only [push_cast,seval,Za,Tryz.results49,hN0,hN]
theorem Zt9 {a0:(Option Zp)} {r:(Zd×Int)} {O:Objs} {n:Nat} (h:Zav a0=some r):GTo Tryz.prog 22 [(gP Zz a0)] O n (.tup [.agg (Zi r.1),.val (.int .i64 r.2)]) O n:=by
 unfold Zav at h
 refine Ye Zc Tryz.call22 Tryz.func22 rfl (Nat.le_of_ble_eq_true rfl) (Nat.le_refl _) fun hU => ?_
 have hN0:O n=none:=hU.fresh _ (Nat.le_refl _)
 have hN:∀ k,O (n+k)=none:=fun k=>hU.fresh _ (Nat.le_add_right _ _)
 show W _ _ _ _ ⟨8,[],[(0,(gP Zz a0))]⟩ (Z3 O n []) _
 refine Zk [0,2] (Zb Zc [] ?_)
 simp only [push_cast,seval,Za,hN0,hN]
 refine Zf ?_
 obtain ⟨y2,hy2,h⟩:=bC h
 refine Zb Zc [] ?_
 simp only [push_cast,seval,Za,hN0,hN]
 refine (Zid hy2).then ?_
 simp only [push_cast,seval,Za,hN0,hN]
 refine Zg [2,3] [true] ?_
 simp only [push_cast,seval]
 refine Zu ?_
 try simp only [Zh,Ze]
 have h:=Option.some.inj h;subst h
 refine Zl (.inr rfl) hU [.agg (Zi y2.1),.val (.int .i64 y2.2)] (by omega) ?_
 simp only [push_cast,seval,Za,Tryz.results22,hN0,hN]
theorem Xp {a0:(List (List Int))} {r:Zd} {O:Objs} {n:Nat} (h:Xj a0=some r):GTo Tryz.prog 10 [.sl a0.length (fl (eL (eI .u64)) a0)] O n (.agg (Zi r)) O n:=by
 unfold Xj at h
 refine Ye Zc Tryz.call10 Tryz.func10 rfl (Nat.le_of_ble_eq_true rfl) (Nat.le_refl _) fun hU => ?_
 have hN0:O n=none:=hU.fresh _ (Nat.le_refl _)
 have hN:∀ k,O (n+k)=none:=fun k=>hU.fresh _ (Nat.le_add_right _ _)
 show W _ _ _ _ ⟨12,[],[(0,.sl a0.length (fl (eL (eI .u64)) a0))]⟩ (Z3 O n []) _
 refine Zk [0,2] (Zb Zc [] ?_)
 simp only [push_cast,seval,Za,hN0,hN]
 refine Zf ?_
 obtain ⟨y3,hy3,h⟩:=bC h
 obtain ⟨y4,hy4,h⟩:=bC h
 refine Zb Zc [] ?_
 simp only [push_cast,seval,Za,hN0,hN]
 refine (Z0w hy3).then ?_
 simp only [push_cast,seval,Za,hN0,hN]
 refine (Zt9 hy4).then ?_
 simp only [push_cast,seval,Za,hN0,hN]
 refine Zg [2,3] [true,true] ?_
 simp only [push_cast,seval]
 refine Zf ?_
 refine Zb Zc [] ?_
 simp only [push_cast,seval,Za,hN0,hN]
 refine Zg [2] [true,false] ?_
 simp only [push_cast,seval]
 refine Zu ?_
 try simp only [Zh,Ze]
 have h:=Option.some.inj h;subst h
 refine Zl (.inr rfl) hU [.agg (Zi y4.1)] (by omega) ?_
 simp only [push_cast,seval,Za,Tryz.results10,hN0,hN]
theorem Yp {a0:Zd} {r:Int} {O:Objs} {n:Nat} (h:Yf a0=some r):GTo Tryz.prog 41 [.agg (Zi a0)] O n (.val (.int .i64 r)) O n:=by
 unfold Yf at h
 refine Ye Zc Tryz.call41 Tryz.func41 rfl (Nat.le_of_ble_eq_true rfl) (Nat.le_refl _) fun hU => ?_
 have hN0:O n=none:=hU.fresh _ (Nat.le_refl _)
 have hN:∀ k,O (n+k)=none:=fun k=>hU.fresh _ (Nat.le_add_right _ _)
 show W _ _ _ _ ⟨5,[],[(0,.agg (Zi a0))]⟩ (Z3 O n []) _
 refine Zk [1] (Zb Zc [] ?_)
 simp only [push_cast,seval,Za,hN0,hN]
 refine Zk [2] (Zb Zc [] ?_)
 simp only [push_cast,seval,Za,hN0,hN]
 refine Zu ?_
 try simp only [Zh,Ze]
 have h:=Option.some.inj h;subst h
 refine Zl (.inr rfl) hU [.val (.int .i64 a0.kind)] (by omega) ?_
 simp only [push_cast,seval,Za,Tryz.results41,hN0,hN]
theorem Zdm {a0:Zd} {r:Int} {O:Objs} {n:Nat} (h:J7 a0=some r):GTo Tryz.prog 86 [.agg (Zi a0)] O n (.val (.int .i64 r)) O n:=by
 unfold J7 at h
 refine Ye Zc Tryz.call86 Tryz.func86 rfl (Nat.le_of_ble_eq_true rfl) (Nat.le_refl _) fun hU => ?_
 have hN0:O n=none:=hU.fresh _ (Nat.le_refl _)
 have hN:∀ k,O (n+k)=none:=fun k=>hU.fresh _ (Nat.le_add_right _ _)
 show W _ _ _ _ ⟨11,[],[(0,.agg (Zi a0))]⟩ (Z3 O n []) _
 refine Zk [1] (Zb Zc [] ?_)
 simp only [push_cast,seval,Za,hN0,hN]
 refine Zf ?_
 refine Zk [1,4] (Zb Zc [] ?_)
 simp only [push_cast,seval,Za,hN0,hN]
 refine Yo ?_
 refine Zk [1,4,5] (Zb Zc [] ?_)
 simp only [push_cast,seval,Za,hN0,hN]
 refine Zo (t:=(a0.kind == 1)) rfl (fun c2 => ?_) (fun c2 => ?_)
 ·replace h:=Zw c2 h
  refine Zk [2] (Zb Zc [] ?_)
  simp only [push_cast,seval,Za,hN0,hN]
  refine Zu ?_
  try simp only [Zh,Ze]
  have h:=Option.some.inj h;subst h
  refine Zl (.inr rfl) hU [.val (.int .i64 a0.words)] (by omega) ?_
  simp only [push_cast,seval,Za,Tryz.results86,hN0,hN]
 replace h:=Zv c2 h
 refine Zk [9] (Zb Zc [] ?_)
 simp only [push_cast,seval,Za,hN0,hN]
 refine Zo (t:=(a0.kind == 10)) rfl (fun c1 => ?_) (fun c1 => ?_)
 ·replace h:=Zw c1 h
  refine Zk [2] (Zb Zc [] ?_)
  simp only [push_cast,seval,Za,hN0,hN]
  refine Zu ?_
  try simp only [Zh,Ze]
  have h:=Option.some.inj h;subst h
  refine Zl (.inr rfl) hU [.val (.int .i64 1)] (by omega) ?_
  simp only [push_cast,seval,Za,Tryz.results86,hN0,hN]
 replace h:=Zv c1 h
 refine Zt ?_
 try simp only [Zh,Ze]
 refine Zg [] [false] ?_
 simp only [push_cast,seval]
 refine Zk [2] (Zb Zc [] ?_)
 simp only [push_cast,seval,Za,hN0,hN]
 refine Zu ?_
 try simp only [Zh,Ze]
 have h:=Option.some.inj h;subst h
 refine Zl (.inr rfl) hU [.val (.int .i64 0)] (by omega) ?_
 simp only [push_cast,seval,Za,Tryz.results86,hN0,hN]
theorem Zni {a0:Int} {r:(Int×Bool)} {O:Objs} {n:Nat} (h:Zag a0=some r):GTo Tryz.prog 106 [.val (.int .i64 a0)] O n (.tup [.val (.int .i64 r.1),.val (.bool r.2)]) O n:=by
 unfold Zag at h
 refine Ye Zc Tryz.call106 Tryz.func106 rfl (Nat.le_of_ble_eq_true rfl) (Nat.le_refl _) fun hU => ?_
 have hN0:O n=none:=hU.fresh _ (Nat.le_refl _)
 have hN:∀ k,O (n+k)=none:=fun k=>hU.fresh _ (Nat.le_add_right _ _)
 show W _ _ _ _ ⟨15,[],[(0,.val (.int .i64 a0))]⟩ (Z3 O n []) _
 refine Zk [0] (Zb Zc [] ?_)
 simp only [push_cast,seval,Za,hN0,hN]
 refine Zf ?_
 obtain ⟨y6,hy6,ey6,h⟩:=bY (f:=(eI .i64)) (cs:=[.val (.int .i64 0),.val (.int .i64 1),.val (.int .i64 8),.val (.int .i64 16),.val (.int .i64 32),.val (.int .i64 64)]) rfl h
 have g7:=congrArg G.agg ey6
 obtain ⟨y8,hy8,ey8,h⟩:=bY (f:=(eI .i64)) (cs:=[.val (.int .i64 0),.val (.int .i64 0),.val (.int .i64 0),.val (.int .i64 0),.val (.int .i64 0),.val (.int .i64 0)]) rfl h
 have g9:=congrArg (GObj.mk false 212 6 1) ey8
 have g10:=Znu (f:=(eI .i64)) y8 y6 (fun _=>rfl)
 refine Zb Zc [] ?_
 simp only [push_cast,seval,Za,g7,g9,g10,hN0,hN]
 refine Zg [0,4] [true] ?_
 simp only [push_cast,seval]
 refine Zf ?_
 refine Zk [0,4,11] (Zb Zc [none,none] ?_)
 simp only [push_cast,seval,Za,hN0,hN]
 repeat (with_reducible refine And.intro (by first | (intro h0;simp only [h0];done) | (intro h0;simp only [h0,true_and,and_true,imp_self,implies_true,ne_eq];done) | (intros;simp_all;done) | exact True.intro) ?_)
 refine Zo (t:=(cond (decide (a0 < 0)) true (decide (6≤a0)))) rfl (fun U7 => ?_) (fun U7 => ?_)
 ·replace h:=Zw U7 h
  refine Zk [2,3] (Zb Zc [] ?_)
  simp only [push_cast,seval,Za,hN0,hN]
  refine Zu ?_
  try simp only [Zh,Ze]
  have h:=Option.some.inj h;subst h
  refine Zl (.inr rfl) hU [.val (.int .i64 0),.val (.bool false)] (by omega) ?_
  simp only [push_cast,seval,Za,Tryz.results106,hN0,hN]
 replace h:=Zv U7 h
 refine Zt ?_
 try simp only [Zh,Ze]
 refine Zg [0,4] [true] ?_
 simp only [push_cast,seval]
 obtain ⟨x12,hx12,ax12,bx12,cx12,h⟩:=bEA (f:=(eI .i64)) (b:=6) rfl Z1r (fun _=>rfl) (by decide) h
 refine Zk [2,3] (Zb Zc [] ?_)
 simp only [push_cast,Nat.reduceAdd,Nat.reduceSub,Nat.reduceMul,Nat.reduceLeDiff,Nat.reduceLT,Nat.reduceEqDiff,↓reduceIte,reduceCtorEq,Int.reduceBEq,Int.reduceBNe,Nat.reduceBEq,Int.reduceLE,Int.reduceLT,Int.reduceEq,Int.reduceNe,Int.reduceNeg,Nat.reduceDiv,Nat.reduceMod,Nat.reducePow,Za,ax12,bx12,cx12,hN0,hN]
 refine Zu ?_
 try simp only [Zh,Ze]
 have h:=Option.some.inj h;subst h
 refine Zl (.inr rfl) hU [.val (.int .i64 x12),.val (.bool true)] (by omega) ?_
 simp only [push_cast,seval,Za,Tryz.results106,hN0,hN]
theorem Z0x {a0:(List Int)} {a1:Int} {a2:Int} {r:Int} {O:Objs} {n:Nat} (h:Zer a0 a1 a2=some r):GTo Tryz.prog 107 [.sl a0.length (fl (eI .u64) a0),.val (.int .i64 a1),.val (.int .i64 a2)] O n (.val (.int .u64 r)) O n:=by
 unfold Zer at h
 refine Ye Zc Tryz.call107 Tryz.func107 rfl (Nat.le_of_ble_eq_true rfl) (Nat.le_refl _) fun hU => ?_
 have hN0:O n=none:=hU.fresh _ (Nat.le_refl _)
 have hN:∀ k,O (n+k)=none:=fun k=>hU.fresh _ (Nat.le_add_right _ _)
 show W _ _ _ _ ⟨45,[],[(0,.sl a0.length (fl (eI .u64) a0)),(1,.val (.int .i64 a1)),(2,.val (.int .i64 a2))]⟩ (Z3 O n []) _
 refine Zk [0,1,2] (Zb Zc [] ?_)
 simp only [push_cast,seval,Za,hN0,hN]
 refine Zf ?_
 obtain ⟨y2,hy2,h⟩:=bC h
 refine Zb Zc [] ?_
 simp only [push_cast,seval,Za,hN0,hN]
 refine (Zni hy2).then ?_
 simp only [push_cast,seval,Za,hN0,hN]
 refine Zg [0,2,7] [] ?_
 simp only [push_cast,seval]
 refine Zf ?_
 refine Zk [0,2,7,20] (Zb Zc [none,none] ?_)
 simp only [push_cast,seval,Za,hN0,hN]
 repeat (with_reducible refine And.intro (by first | (intro h0;simp only [h0];done) | (intro h0;simp only [h0,true_and,and_true,imp_self,implies_true,ne_eq,beq_iff_eq];done) | (intros;simp_all;done) | exact True.intro) ?_)
 refine Zo (t:=(cond (y2.1 == 0) true (decide (a2 < 0)))) rfl (fun Gj => ?_) (fun Gj => ?_)
 ·replace h:=Zw Gj h
  refine Zk [6] (Zb Zc [] ?_)
  simp only [push_cast,seval,Za,hN0,hN]
  refine Zu ?_
  try simp only [Zh,Ze]
  have h:=Option.some.inj h;subst h
  refine Zl (.inr rfl) hU [.val (.int .u64 0)] (by omega) ?_
  simp only [push_cast,seval,Za,Tryz.results107,hN0,hN]
 replace h:=Zv Gj h
 refine Zt ?_
 try simp only [Zh,Ze]
 refine Zg [0,2,7] [] ?_
 simp only [push_cast,seval]
 obtain ⟨pu4,h⟩:=bG h
 refine Zk [0,2,7,9] (Zb Zc [] ?_)
 simp only [push_cast,seval,Za,pu4,hN0,hN]
 refine Zf ?_
 obtain ⟨pu6,h⟩:=bG h
 refine Zk [0,2,7,9,28] (Zb Zc [] ?_)
 simp only [push_cast,seval,Za,pu6,hN0,hN]
 refine Zo (t:=(decide ((a0.length:Int)≤(IntKind.i64.wrap (Int.tdiv a2 (IntKind.i64.wrap (Int.tdiv 64 y2.1))))))) rfl (fun c17 => ?_) (fun c17 => ?_)
 ·replace h:=Zw c17 h
  refine Zk [6] (Zb Zc [] ?_)
  simp only [push_cast,seval,Za,hN0,hN]
  refine Zu ?_
  try simp only [Zh,Ze]
  have h:=Option.some.inj h;subst h
  refine Zl (.inr rfl) hU [.val (.int .u64 0)] (by omega) ?_
  simp only [push_cast,seval,Za,Tryz.results107,hN0,hN]
 replace h:=Zv c17 h
 refine Zt ?_
 try simp only [Zh,Ze]
 refine Zg [0,2,7,9] [] ?_
 simp only [push_cast,seval]
 obtain ⟨pu12,h⟩:=bG h
 obtain ⟨x13,hx13,ax13,bx13,cx13,h⟩:=bE (f:=(eI .u64)) Ug (fun _=>rfl) (by decide) h
 obtain ⟨pu14,h⟩:=bG h
 obtain ⟨pu15,h⟩:=bG h
 obtain ⟨pu16,h⟩:=bG h
 refine Zk [6] (Y8 Zc (by kernel_rfl) [] (by kernel_rfl) ?_)
 simp only [push_cast,Nat.reduceAdd,Nat.reduceSub,Nat.reduceMul,Nat.reduceLeDiff,Nat.reduceLT,Nat.reduceEqDiff,↓reduceIte,reduceCtorEq,Int.reduceBEq,Int.reduceBNe,Nat.reduceBEq,Int.reduceLE,Int.reduceLT,Int.reduceEq,Int.reduceNe,Int.reduceNeg,Nat.reduceDiv,Nat.reduceMod,Nat.reducePow,Za,pu12,ax13,bx13,cx13,pu14,pu15,pu16,hN0,hN]
 refine Zu ?_
 try simp only [Zh,Ze]
 have h:=Option.some.inj h;subst h
 refine Zl (.inr rfl) hU [.val (.int .u64 (IntKind.u64.wrap (Vw .u64 (Int.fdiv x13 (2 ^ min (Int.toNat (IntKind.i64.wrap ((Int.tmod a2 (IntKind.i64.wrap (Int.tdiv 64 y2.1))) * y2.1))) 64)) (IntKind.u64.wrap ((IntKind.u64.wrap (1 * 2 ^ min (Int.toNat y2.1) 64)) - 1)))))] (by omega) ?_
 simp only [push_cast,seval,Za,Tryz.results107,hN0,hN]
theorem Zjm {a0:Zd} {r:Int} {O:Objs} {n:Nat} (h:Ku a0=some r):GTo Tryz.prog 89 [.agg (Zi a0)] O n (.val (.int .u64 r)) O n:=by
 unfold Ku at h
 refine Ye Zc Tryz.call89 Tryz.func89 rfl (Nat.le_of_ble_eq_true rfl) (Nat.le_refl _) fun hU => ?_
 have hN0:O n=none:=hU.fresh _ (Nat.le_refl _)
 have hN:∀ k,O (n+k)=none:=fun k=>hU.fresh _ (Nat.le_add_right _ _)
 show W _ _ _ _ ⟨42,[],[(0,.agg (Zi a0))]⟩ (Z3 O n []) _
 refine Zk [1] (Zb Zc [] ?_)
 simp only [push_cast,seval,Za,hN0,hN]
 refine Zf ?_
 obtain ⟨y2,hy2,h⟩:=bC h
 refine Zb Zc [] ?_
 simp only [push_cast,seval,Za,hN0,hN]
 refine (Zni hy2).then ?_
 simp only [push_cast,seval,Za,hN0,hN]
 refine Zg [1,3] [true] ?_
 simp only [push_cast,seval]
 refine Zf ?_
 refine Zk [1,3,15] (Zb Zc [] ?_)
 simp only [push_cast,seval,Za,hN0,hN]
 refine Zo (t:=(y2.1 == 0)) rfl (fun U7 => ?_) (fun U7 => ?_)
 ·replace h:=Zw U7 h
  refine Zk [2] (Zb Zc [] ?_)
  simp only [push_cast,seval,Za,hN0,hN]
  refine Zu ?_
  try simp only [Zh,Ze]
  have h:=Option.some.inj h;subst h
  refine Zl (.inr rfl) hU [.val (.int .u64 0)] (by omega) ?_
  simp only [push_cast,seval,Za,Tryz.results89,hN0,hN]
 replace h:=Zv U7 h
 refine Zt ?_
 try simp only [Zh,Ze]
 refine Zg [1,3] [true] ?_
 simp only [push_cast,seval]
 obtain ⟨pu4,h⟩:=bG h
 refine Zk [1,5] (Zb Zc [] ?_)
 simp only [push_cast,seval,Za,pu4,hN0,hN]
 refine Zf ?_
 obtain ⟨pu7,h⟩:=bG h
 obtain ⟨y8,hy8,h⟩:=bC h
 refine Y8 Zc (by kernel_rfl) [] (by kernel_rfl) ?_
 simp only [push_cast,seval,Za,pu7,hN0,hN]
 refine PCall.of (Ve hy8) ?_
 simp only [push_cast,seval,Za,pu7,hN0,hN]
 refine Zg [1,5,6] [true] ?_
 simp only [push_cast,seval]
 refine Zf ?_
 obtain ⟨pu11,h⟩:=bG h
 obtain ⟨y12,hy12,h⟩:=bC h
 refine Zbo Zc (by kernel_rfl) [.plain,.pass,.low,.low,.low,.low,.plain,.low,.bar,.plain] (fun i=>i < (n+1)) [0,2,3,4,5,6,7,1,8,9] [.plain,.low,.low,.low,.low,.plain,.low,.pass,.bar,.plain] [] (by kernel_rfl) rfl ?_
 simp only [push_cast,seval,Za,pu11,hN0,hN]
 repeat (with_reducible refine And.intro (by first | omega | exact Xb rfl | exact Yw | exact X7 rfl | exact Qm rfl rfl | exact Y9 rfl | exact Y2 rfl) ?_)
 refine GCalls.lend (Z0x hy12) rfl ?_ ?_
 ·simp only [push_cast,seval,Za,pu11,hN0,hN]
 simp only [push_cast,seval,Za,pu11,hN0,hN]
 repeat (with_reducible refine And.intro (by first | omega | exact Xb rfl | exact Yw | exact X7 rfl | exact Qm rfl rfl | exact Y9 rfl | exact Y2 rfl) ?_)
 refine Za8 ⟨42,[],[(2,.val (.int .u64 y12))]⟩ (Z3 O n [none,none]) (Zm hU rfl rfl ?_) ?_
 ·simp only [push_cast,seval,Za,pu11,hN0,hN]
 refine Zu ?_
 try simp only [Zh,Ze]
 have h:=Option.some.inj h;subst h
 refine Zl (.inr rfl) hU [.val (.int .u64 y12)] (by omega) ?_
 simp only [push_cast,seval,Za,Tryz.results89,hN0,hN]
theorem Jc {a0:Zd} {a1:Int} {r:Int} {O:Objs} {n:Nat} (h:Xl a0 a1=some r):GTo Tryz.prog 65 [.agg (Zi a0),.val (.int .i64 a1)] O n (.val (.int .u64 r)) O n:=by
 unfold Xl at h
 refine Ye Zc Tryz.call65 Tryz.func65 rfl (Nat.le_of_ble_eq_true rfl) (Nat.le_refl _) fun hU => ?_
 have hN0:O n=none:=hU.fresh _ (Nat.le_refl _)
 have hN:∀ k,O (n+k)=none:=fun k=>hU.fresh _ (Nat.le_add_right _ _)
 show W _ _ _ _ ⟨33,[],[(0,.agg (Zi a0)),(1,.val (.int .i64 a1))]⟩ (Z3 O n []) _
 refine Zk [1,2] (Zb Zc [] ?_)
 simp only [push_cast,seval,Za,hN0,hN]
 refine Zf ?_
 obtain ⟨z2,hz2,h⟩:=bC h
 refine Yr (E':=⟨33,[],[(1,.val (.int .i64 a1)),(2,.ref n 0),(14,.val (.bool z2))]⟩) (O':=(Z3 O n [some ⟨false,46,9,1,(Zi a0)⟩])) (n0:=(n+1)) ?_ ?_
 ·rcases Bool.eq_false_or_eq_true (decide (a1 < 0)) with c5 | c5
  ·replace hz2:=Zw c5 hz2
   refine Zb Zc (Z2y []) ?_
   simp only [push_cast,seval,Za,c5,hN0,hN]
   have hz2:=Option.some.inj hz2;subst hz2
   refine And.intro rfl (Fit2.of (Zm hU rfl rfl ?_) (by omega))
   simp only [push_cast,seval,Za,c5,hN0,hN]
  replace hz2:=Zv c5 hz2
  obtain ⟨y4,hy4,hz2⟩:=bC hz2
  refine Zb Zc (Zyn []) ?_
  simp only [push_cast,seval,Za,c5,hN0,hN]
  refine (Zdm hy4).then ?_
  simp only [push_cast,seval,Za,c5,hN0,hN]
  have hz2:=Option.some.inj hz2;subst hz2
  refine And.intro rfl (Fit2.of (Zm hU rfl rfl ?_) (by omega))
  simp only [push_cast,seval,Za,c5,hN0,hN]
 refine Zo (t:=z2) rfl (fun Kl => ?_) (fun Kl => ?_)
 ·replace h:=Zw Kl h
  refine Zk [4] (Zb Zc [] ?_)
  simp only [push_cast,seval,Za,hN0,hN]
  refine Zu ?_
  try simp only [Zh,Ze]
  have h:=Option.some.inj h;subst h
  refine Zl (.inr rfl) hU [.val (.int .u64 0)] (by omega) ?_
  simp only [push_cast,seval,Za,Tryz.results65,hN0,hN]
 replace h:=Zv Kl h
 refine Zt ?_
 try simp only [Zh,Ze]
 refine Zg [1,2] [true] ?_
 simp only [push_cast,seval]
 refine Zf ?_
 refine Zk [1,2,17] (Zb Zc [] ?_)
 simp only [push_cast,seval,Za,hN0,hN]
 refine Zo (t:=(a0.kind == 10)) rfl (fun Gi => ?_) (fun Gi => ?_)
 ·replace h:=Zw Gi h
  refine Zf ?_
  obtain ⟨y7,hy7,h⟩:=bC h
  refine Zb Zc [] ?_
  simp only [push_cast,seval,Za,hN0,hN]
  refine (Zjm hy7).then ?_
  simp only [push_cast,seval,Za,hN0,hN]
  refine Zg [4] [false] ?_
  simp only [push_cast,seval]
  refine Zu ?_
  try simp only [Zh,Ze]
  have h:=Option.some.inj h;subst h
  refine Zl (.inr rfl) hU [.val (.int .u64 y7)] (by omega) ?_
  simp only [push_cast,seval,Za,Tryz.results65,hN0,hN]
 replace h:=Zv Gi h
 refine Zt ?_
 try simp only [Zh,Ze]
 refine Zg [1,2] [true] ?_
 simp only [push_cast,seval]
 refine Zf ?_
 obtain ⟨y9,hy9,h⟩:=bC h
 refine Zb Zc [] ?_
 simp only [push_cast,seval,Za,hN0,hN]
 refine (Ve hy9).then ?_
 simp only [push_cast,seval,Za,hN0,hN]
 refine Zg [5] [false] ?_
 simp only [push_cast,seval]
 refine Zk [4] (Zb Zc [] ?_)
 simp only [push_cast,seval,Za,hN0,hN]
 refine Zu ?_
 try simp only [Zh,Ze]
 have h:=Option.some.inj h;subst h
 refine Zl (.inr rfl) hU [.val (.int .u64 y9.1)] (by omega) ?_
 simp only [push_cast,seval,Za,Tryz.results65,hN0,hN]
theorem Zdq {a0:Zd} {r:Int} {O:Objs} {n:Nat} (h:K1 a0=some r):GTo Tryz.prog 63 [.agg (Zi a0)] O n (.val (.int .i64 r)) O n:=by
 unfold K1 at h
 refine Ye Zc Tryz.call63 Tryz.func63 rfl (Nat.le_of_ble_eq_true rfl) (Nat.le_refl _) fun hU => ?_
 have hN0:O n=none:=hU.fresh _ (Nat.le_refl _)
 have hN:∀ k,O (n+k)=none:=fun k=>hU.fresh _ (Nat.le_add_right _ _)
 show W _ _ _ _ ⟨18,[],[(0,.agg (Zi a0))]⟩ (Z3 O n []) _
 refine Zk [1] (Zb Zc [] ?_)
 simp only [push_cast,seval,Za,hN0,hN]
 refine Zf ?_
 obtain ⟨y2,hy2,h⟩:=bC h
 refine Zb Zc [] ?_
 simp only [push_cast,seval,Za,hN0,hN]
 refine (Zdm hy2).then ?_
 simp only [push_cast,seval,Za,hN0,hN]
 refine Zg [1,3] [true] ?_
 simp only [push_cast,seval]
 refine Zf ?_
 refine Zg [1,3] [true] ?_
 simp only [push_cast,seval]
 obtain ⟨z9,hz9,h⟩:=bC h
 refine Xx (E':=⟨18,[],[(3,.val (.int .i64 z9))]⟩) (O':=(Z3 O n [none])) (n0:=(n+1)) ?_ ?_
 ·refine Qt hz9 (fun s0_=>⟨18,[],[(1,.ref n 0),(3,.val (.int .i64 s0_))]⟩) (fun s0_=>(Z3 O n [some ⟨false,46,9,1,(Zi a0)⟩])) (fun z9=>JX 0 n (⟨18,[],[(3,.val (.int .i64 z9))]⟩:Env) (Z3 O n [none]) (n+1)) ?_
  intro s0_ x0_ hs0_
  unfold G0 at hs0_
  try dsimp only
  refine Zf ?_
  obtain ⟨z4,hz4,hs0_⟩:=bC hs0_
  refine Yr (E':=⟨18,[],[(1,.ref n 0),(3,.val (.int .i64 s0_)),(14,.val (.bool z4))]⟩) (O':=(Z3 O n [some ⟨false,46,9,1,(Zi a0)⟩])) (n0:=(n+1)) ?_ ?_
  ·rcases Bool.eq_false_or_eq_true (decide (0 < s0_)) with c7 | c7
   ·replace hz4:=Zw c7 hz4
    obtain ⟨y6,hy6,hz4⟩:=bC hz4
    refine Zb Zc (Yft []) ?_
    simp only [push_cast,seval,Za,c7,hN0,hN]
    refine (Jc hy6).then ?_
    simp only [push_cast,seval,Za,c7,hN0,hN]
    have hz4:=Option.some.inj hz4;subst hz4
    refine And.intro rfl (Fit2.of (Zm hU rfl rfl ?_) (by omega))
    simp only [push_cast,seval,Za,c7,hN0,hN]
   replace hz4:=Zv c7 hz4
   refine Zb Zc (Yi0 []) ?_
   simp only [push_cast,seval,Za,c7,hN0,hN]
   have hz4:=Option.some.inj hz4;subst hz4
   refine And.intro rfl (Fit2.of (Zm hU rfl rfl ?_) (by omega))
   simp only [push_cast,seval,Za,c7,hN0,hN]
  refine Zo (t:=z4) rfl (fun c8 => ?_) (fun c8 => ?_)
  ·replace hs0_:=Zw c8 hs0_
   refine Zt ?_
   try simp only [Zh,Ze]
   refine Zg [1,3] [true] ?_
   simp only [push_cast,seval]
   refine Yo ?_
   refine Zb Zc [] ?_
   simp only [push_cast,seval,Za,hN0,hN]
   have hs0_:=Option.some.inj hs0_;subst hs0_
   refine And.intro rfl (Fit2.of (Zm hU rfl rfl ?_) (by omega))
   simp only [push_cast,seval,Za,hN0,hN]
  replace hs0_:=Zv c8 hs0_
  refine Q7 ?_
  try simp only [Zh,Ze,↓reduceIte,Nat.reduceEqDiff]
  have hs0_:=Option.some.inj hs0_;subst hs0_
  refine And.intro (fun h=>by cases h) (And.intro rfl (Fit2.of (Zm hU rfl rfl ?_) (by omega)))
  simp only [push_cast,seval,Za,hN0,hN]
 try simp only [Zh,Ze,↓reduceIte,Nat.reduceEqDiff]
 refine Zg [3] [false] ?_
 simp only [push_cast,seval]
 refine Zk [2] (Zb Zc [] ?_)
 simp only [push_cast,seval,Za,hN0,hN]
 refine Zu ?_
 try simp only [Zh,Ze]
 have h:=Option.some.inj h;subst h
 refine Zl (.inr rfl) hU [.val (.int .i64 z9)] (by omega) ?_
 simp only [push_cast,seval,Za,Tryz.results63,hN0,hN]
theorem Zn8 {a0:Zd} {a1:Zd} {r:Bool} {O:Objs} {n:Nat} (h:V0 a0 a1=some r):GTo Tryz.prog 83 [.agg (Zi a0),.agg (Zi a1)] O n (.val (.bool r)) O n:=by
 unfold V0 at h
 refine Ye Zc Tryz.call83 Tryz.func83 rfl (Nat.le_of_ble_eq_true rfl) (Nat.le_refl _) fun hU => ?_
 have hN0:O n=none:=hU.fresh _ (Nat.le_refl _)
 have hN:∀ k,O (n+k)=none:=fun k=>hU.fresh _ (Nat.le_add_right _ _)
 show W _ _ _ _ ⟨25,[],[(0,.agg (Zi a0)),(1,.agg (Zi a1))]⟩ (Z3 O n []) _
 refine Zk [2,3] (Zb Zc [] ?_)
 simp only [push_cast,seval,Za,hN0,hN]
 refine Zf ?_
 obtain ⟨y2,hy2,h⟩:=bC h
 refine Zb Zc [] ?_
 simp only [push_cast,seval,Za,hN0,hN]
 refine (Zdq hy2).then ?_
 simp only [push_cast,seval,Za,hN0,hN]
 refine Zg [2,3,5] [true,true] ?_
 simp only [push_cast,seval]
 refine Zf ?_
 refine Zf ?_
 obtain ⟨y4,hy4,h⟩:=bC h
 refine Zb Zc [] ?_
 simp only [push_cast,seval,Za,hN0,hN]
 refine (Zdq hy4).then ?_
 simp only [push_cast,seval,Za,hN0,hN]
 refine Zg [2,3,5,12] [true,true] ?_
 simp only [push_cast,seval]
 refine Zo (t:=(y4 != y2)) rfl (fun Ux => ?_) (fun Ux => ?_)
 ·replace h:=Zw Ux h
  refine Zk [4] (Zb Zc [] ?_)
  simp only [push_cast,seval,Za,hN0,hN]
  refine Zu ?_
  try simp only [Zh,Ze]
  have h:=Option.some.inj h;subst h
  refine Zl (.inr rfl) hU [.val (.bool false)] (by omega) ?_
  simp only [push_cast,seval,Za,Tryz.results83,hN0,hN]
 replace h:=Zv Ux h
 refine Zt ?_
 try simp only [Zh,Ze]
 refine Zg [2,3,5] [true,true] ?_
 simp only [push_cast,seval]
 refine Zf ?_
 refine Zk [2,3,13,14] (Zb Zc [] ?_)
 simp only [push_cast,seval,Za,hN0,hN]
 refine Zg [2,3,13,14] [true,true] ?_
 simp only [push_cast,seval]
 obtain ⟨z11,hz11,h⟩:=bC h
 refine Znp (J:=(Gh (fun z11=>JR n (⟨25,[],[(4,.val (.bool false))]⟩:Env) (Z3 O n [none,none]) (n+2)) (fun z11=>JX 0 n (⟨25,[],[]⟩:Env) (Z3 O n [none,none]) (n+2)))) (z:=z11) ?_ fun hw => ?_
 ·refine Qt hz11 (fun s0_=>⟨25,[],[(2,.ref n 0),(3,.ref (n+1) 0),(13,.val (.int .i64 y2)),(14,.val (.int .i64 s0_))]⟩) (fun s0_=>(Z3 O n [some ⟨false,46,9,1,(Zi a0)⟩,some ⟨false,46,9,1,(Zi a1)⟩])) (Gh (fun z11=>JR n (⟨25,[],[(4,.val (.bool false))]⟩:Env) (Z3 O n [none,none]) (n+2)) (fun z11=>JX 0 n (⟨25,[],[]⟩:Env) (Z3 O n [none,none]) (n+2))) ?_
  intro s0_ x0_ hs0_
  unfold Kh at hs0_
  try dsimp only
  refine Zk [2,3,13,14,15] (Zb Zc [] ?_)
  simp only [push_cast,seval,Za,hN0,hN]
  refine Zf ?_
  refine Zo (t:=(decide (s0_ < y2))) rfl (fun Gi => ?_) (fun Gi => ?_)
  ·replace hs0_:=Zw Gi hs0_
   refine Zt ?_
   try simp only [Zh,Ze]
   refine Zg [2,3,13,14] [true,true] ?_
   simp only [push_cast,seval]
   refine Zf ?_
   refine Yo ?_
   refine Zk [2,3,6,13,14] (Zb Zc [] ?_)
   simp only [push_cast,seval,Za,hN0,hN]
   refine Zf ?_
   obtain ⟨y7,hy7,hs0_⟩:=bC hs0_
   obtain ⟨y8,hy8,hs0_⟩:=bC hs0_
   refine Y8 Zc (by kernel_rfl) [] (by kernel_rfl) ?_
   simp only [push_cast,seval,Za,hN0,hN]
   refine PCall.of (Jc hy7) ?_
   simp only [push_cast,seval,Za,hN0,hN]
   refine PCall.of (Jc hy8) ?_
   simp only [push_cast,seval,Za,hN0,hN]
   refine Zg [2,3,13,14,23] [true,true] ?_
   simp only [push_cast,seval]
   refine Zo (t:=(y7 != y8)) rfl (fun c9 => ?_) (fun c9 => ?_)
   ·replace hs0_:=Zw c9 hs0_
    refine Zk [4] (Zb Zc [] ?_)
    simp only [push_cast,seval,Za,hN0,hN]
    refine Zu ?_
    try simp only [Zh,Ze]
    have hs0_:=Option.some.inj hs0_;subst hs0_
    refine And.intro (fun h=>by cases h) (And.intro rfl (Fit2.of (Zm hU rfl rfl ?_) (by omega)))
    simp only [push_cast,seval,Za,hN0,hN]
   replace hs0_:=Zv c9 hs0_
   refine Zt ?_
   try simp only [Zh,Ze]
   refine Zg [2,3,13,14] [true,true] ?_
   simp only [push_cast,seval]
   refine Zb Zc [] ?_
   simp only [push_cast,seval,Za,hN0,hN]
   have hs0_:=Option.some.inj hs0_;subst hs0_
   refine And.intro rfl (Fit2.of (Zm hU rfl rfl ?_) (by omega))
   simp only [push_cast,seval,Za,hN0,hN]
  replace hs0_:=Zv Gi hs0_
  refine Q7 ?_
  try simp only [Zh,Ze,↓reduceIte,Nat.reduceEqDiff]
  have hs0_:=Option.some.inj hs0_;subst hs0_
  refine And.intro (fun h=>by cases h) (And.intro rfl (Fit2.of (Zm hU rfl rfl ?_) (by omega)))
  simp only [push_cast,seval,Za,hN0,hN]
 rcases z11 with z11 | z11
 ·dsimp only [Gh] at hw h
  refine Zea hw ?_
  try simp only [Zh,Ze,↓reduceIte,Nat.reduceEqDiff]
  have h:=Option.some.inj h;subst h
  refine Zl (.inr rfl) hU [.val (.bool false)] (by omega) ?_
  simp only [push_cast,seval,Za,Tryz.results83,hN0,hN]
 dsimp only [Gh] at hw h
 refine Xx hw ?_
 try simp only [Zh,Ze,↓reduceIte,Nat.reduceEqDiff]
 refine Zg [] [false,false] ?_
 simp only [push_cast,seval]
 refine Zk [4] (Zb Zc [] ?_)
 simp only [push_cast,seval,Za,hN0,hN]
 refine Zu ?_
 try simp only [Zh,Ze]
 have h:=Option.some.inj h;subst h
 refine Zl (.inr rfl) hU [.val (.bool true)] (by omega) ?_
 simp only [push_cast,seval,Za,Tryz.results83,hN0,hN]
theorem Vf {a0:Zd} {r:Int} {O:Objs} {n:Nat} (h:Xk a0=some r):GTo Tryz.prog 66 [.agg (Zi a0)] O n (.val (.int .i64 r)) O n:=by
 unfold Xk at h
 refine Ye Zc Tryz.call66 Tryz.func66 rfl (Nat.le_of_ble_eq_true rfl) (Nat.le_refl _) fun hU => ?_
 have hN0:O n=none:=hU.fresh _ (Nat.le_refl _)
 have hN:∀ k,O (n+k)=none:=fun k=>hU.fresh _ (Nat.le_add_right _ _)
 show W _ _ _ _ ⟨10,[],[(0,.agg (Zi a0))]⟩ (Z3 O n []) _
 refine Zk [1] (Zb Zc [] ?_)
 simp only [push_cast,seval,Za,hN0,hN]
 refine Zf ?_
 refine Zk [1,5] (Zb Zc [] ?_)
 simp only [push_cast,seval,Za,hN0,hN]
 refine Zo (t:=(a0.kind == 1)) rfl (fun c1 => ?_) (fun c1 => ?_)
 ·replace h:=Zw c1 h
  refine Zk [2] (Zb Zc [] ?_)
  simp only [push_cast,seval,Za,hN0,hN]
  refine Zu ?_
  try simp only [Zh,Ze]
  have h:=Option.some.inj h;subst h
  refine Zl (.inr rfl) hU [.val (.int .i64 a0.ptrs)] (by omega) ?_
  simp only [push_cast,seval,Za,Tryz.results66,hN0,hN]
 replace h:=Zv c1 h
 refine Zt ?_
 try simp only [Zh,Ze]
 refine Zg [1] [true] ?_
 simp only [push_cast,seval]
 refine Zk [2] (Zb Zc [] ?_)
 simp only [push_cast,seval,Za,hN0,hN]
 refine Zu ?_
 try simp only [Zh,Ze]
 have h:=Option.some.inj h;subst h
 refine Zl (.inr rfl) hU [.val (.int .i64 a0.count)] (by omega) ?_
 simp only [push_cast,seval,Za,Tryz.results66,hN0,hN]
theorem Zb2 {a0:Zd} {a1:Int} {r:(Zd×Int)} {O:Objs} {n:Nat} (h:J6 a0 a1=some r):GTo Tryz.prog 91 [.agg (Zi a0),.val (.int .i64 a1)] O n (.tup [.agg (Zi r.1),.val (.int .i64 r.2)]) O n:=by
 unfold J6 at h
 refine Ye Zc Tryz.call91 Tryz.func91 rfl (Nat.le_of_ble_eq_true rfl) (Nat.le_refl _) fun hU => ?_
 have hN0:O n=none:=hU.fresh _ (Nat.le_refl _)
 have hN:∀ k,O (n+k)=none:=fun k=>hU.fresh _ (Nat.le_add_right _ _)
 show W _ _ _ _ ⟨81,[],[(0,.agg (Zi a0)),(1,.val (.int .i64 a1))]⟩ (Z3 O n []) _
 refine Zk [1,2,4] (Zb Zc [] ?_)
 simp only [push_cast,seval,Za,hN0,hN]
 refine Zf ?_
 obtain ⟨z2,hz2,h⟩:=bC h
 refine Yr (E':=⟨81,[],[(1,.val (.int .i64 a1)),(2,.ref n 0),(4,.ref (n+1) 0),(14,.val (.bool z2))]⟩) (O':=(Z3 O n [some ⟨false,46,9,1,(Zi a0)⟩,some ⟨false,46,9,1,[.val (.pointer none),.val (.int .i64 0),.val (.int .i64 0),.val (.int .i64 0),.val (.int .i64 0),.val (.int .i64 0),.val (.int .i64 0),.val (.int .i64 0),.val (.int .i64 0)]⟩])) (n0:=(n+2)) ?_ ?_
 ·rcases Bool.eq_false_or_eq_true (decide (a1 < 0)) with c5 | c5
  ·replace hz2:=Zw c5 hz2
   refine Zb Zc (Z2y []) ?_
   simp only [push_cast,seval,Za,c5,hN0,hN]
   have hz2:=Option.some.inj hz2;subst hz2
   refine And.intro rfl (Fit2.of (Zm hU rfl rfl ?_) (by omega))
   simp only [push_cast,seval,Za,c5,hN0,hN]
  replace hz2:=Zv c5 hz2
  obtain ⟨y4,hy4,hz2⟩:=bC hz2
  refine Zb Zc (Zyn []) ?_
  simp only [push_cast,seval,Za,c5,hN0,hN]
  refine (Vf hy4).then ?_
  simp only [push_cast,seval,Za,c5,hN0,hN]
  have hz2:=Option.some.inj hz2;subst hz2
  refine And.intro rfl (Fit2.of (Zm hU rfl rfl ?_) (by omega))
  simp only [push_cast,seval,Za,c5,hN0,hN]
 refine Zo (t:=z2) rfl (fun U7 => ?_) (fun U7 => ?_)
 ·replace h:=Zw U7 h
  refine Zf ?_
  refine Zb Zc [] ?_
  simp only [push_cast,seval,Za,hN0,hN]
  refine Zg [4,5] [false,true] ?_
  simp only [push_cast,seval]
  refine Zu ?_
  try simp only [Zh,Ze]
  have h:=Option.some.inj h;subst h
  refine Zl (.inr rfl) hU [.agg [.val (.pointer none),.val (.int .i64 0),.val (.int .i64 0),.val (.int .i64 0),.val (.int .i64 0),.val (.int .i64 0),.val (.int .i64 0),.val (.int .i64 0),.val (.int .i64 0)],.val (.int .i64 0)] (by omega) ?_
  simp only [push_cast,seval,Za,Tryz.results91,hN0,hN]
 replace h:=Zv U7 h
 refine Zt ?_
 try simp only [Zh,Ze]
 refine Zg [1,2,4] [true,true] ?_
 simp only [push_cast,seval]
 refine Zf ?_
 refine Zk [1,2,4,17] (Zb Zc [] ?_)
 simp only [push_cast,seval,Za,hN0,hN]
 refine Yo ?_
 refine Zk [1,2,4,17,18] (Zb Zc [] ?_)
 simp only [push_cast,seval,Za,hN0,hN]
 refine Zo (t:=(a0.kind == 1)) rfl (fun Ux => ?_) (fun Ux => ?_)
 ·replace h:=Zw Ux h
  refine Zf ?_
  obtain ⟨y7,hy7,h⟩:=bC h
  refine Zb Zc [] ?_
  simp only [push_cast,seval,Za,hN0,hN]
  refine (Zid hy7).then ?_
  simp only [push_cast,seval,Za,hN0,hN]
  refine Zg [4,5] [false,true] ?_
  simp only [push_cast,seval]
  refine Zu ?_
  try simp only [Zh,Ze]
  have h:=Option.some.inj h;subst h
  refine Zl (.inr rfl) hU [.agg (Zi y7.1),.val (.int .i64 y7.2)] (by omega) ?_
  simp only [push_cast,seval,Za,Tryz.results91,hN0,hN]
 replace h:=Zv Ux h
 refine Zk [1,2,4,17,34] (Zb Zc [] ?_)
 simp only [push_cast,seval,Za,hN0,hN]
 refine Zo (t:=(a0.kind == 8)) rfl (fun Kl => ?_) (fun Kl => ?_)
 ·replace h:=Zw Kl h
  refine Zf ?_
  obtain ⟨y9,hy9,h⟩:=bC h
  refine Zb Zc [] ?_
  simp only [push_cast,seval,Za,hN0,hN]
  refine (Zid hy9).then ?_
  simp only [push_cast,seval,Za,hN0,hN]
  refine Zg [4,5] [false,true] ?_
  simp only [push_cast,seval]
  refine Zu ?_
  try simp only [Zh,Ze]
  have h:=Option.some.inj h;subst h
  refine Zl (.inr rfl) hU [.agg (Zi y9.1),.val (.int .i64 y9.2)] (by omega) ?_
  simp only [push_cast,seval,Za,Tryz.results91,hN0,hN]
 replace h:=Zv Kl h
 refine Zk [1,2,4,47] (Zb Zc [] ?_)
 simp only [push_cast,seval,Za,hN0,hN]
 refine Zo (t:=(a0.kind == 9)) rfl (fun Gi => ?_) (fun Gi => ?_)
 ·replace h:=Zw Gi h
  refine Zk [2,4,6] (Zb Zc [] ?_)
  simp only [push_cast,seval,Za,hN0,hN]
  refine Zf ?_
  refine Zb Zc [] ?_
  simp only [push_cast,seval,Za,hN0,hN]
  refine Zg [4,5] [false,true] ?_
  simp only [push_cast,seval]
  refine Zu ?_
  try simp only [Zh,Ze]
  have h:=Option.some.inj h;subst h
  refine Zl (.inr rfl) hU [.agg [(gP Zz a0.a),.val (.int .i64 1),.val (.int .i64 a0.segment),.val (.int .i64 (IntKind.i64.wrap ((IntKind.i64.wrap (a0.at_+1))+(IntKind.i64.wrap (a1 * (IntKind.i64.wrap (a0.words+a0.ptrs))))))),.val (.int .i64 a0.words),.val (.int .i64 a0.ptrs),.val (.int .i64 0),.val (.int .i64 0),.val (.int .i64 0)],.val (.int .i64 0)] (by omega) ?_
  simp only [push_cast,seval,Za,Tryz.results91,hN0,hN]
 replace h:=Zv Gi h
 refine Zt ?_
 try simp only [Zh,Ze]
 refine Zg [1,2,4] [true,true] ?_
 simp only [push_cast,seval]
 refine Zf ?_
 refine Zb Zc [] ?_
 simp only [push_cast,seval,Za,hN0,hN]
 refine Zg [4,5] [false,true] ?_
 simp only [push_cast,seval]
 refine Zu ?_
 try simp only [Zh,Ze]
 have h:=Option.some.inj h;subst h
 refine Zl (.inr rfl) hU [.agg [(gP Zz a0.a),.val (.int .i64 10),.val (.int .i64 a0.segment),.val (.int .i64 a0.at_),.val (.int .i64 0),.val (.int .i64 0),.val (.int .i64 0),.val (.int .i64 (IntKind.i64.wrap (a0.kind - 2))),.val (.int .i64 a1)],.val (.int .i64 0)] (by omega) ?_
 simp only [push_cast,seval,Za,Tryz.results91,hN0,hN]
attribute [local push_cast] Bool.and_true Bool.not_not Zdu List.length_append Yaj Vh Zzk Bool.not_eq_false' Z1y Z3k Yj Z67 Z68 Z69 Zfi Zfh Zaj Zb3 Z62 Z53 Z59 Zdh Zi6 Zj5 Zj4 Zjc Zjo Zi4 Znb Zjv Zu0 Zsq
theorem Zyp {a0:Zd} {r:(Int×Int)} {O:Objs} {n:Nat} (h:Zc6 a0=some r):GTo Tryz.prog 104 [.agg (Zi a0)] O n (.tup [.val (.int .i64 r.1),.val (.int .i64 r.2)]) O n:=by
 unfold Zc6 at h
 refine Ye Zc Tryz.call104 Tryz.func104 rfl (Nat.le_of_ble_eq_true rfl) (Nat.le_refl _) fun hU => ?_
 have hN0:O n=none:=hU.fresh _ (Nat.le_refl _)
 have hN:∀ k,O (n+k)=none:=fun k=>hU.fresh _ (Nat.le_add_right _ _)
 show W _ _ _ _ ⟨29,[],[(0,.agg (Zi a0))]⟩ (Z3 O n []) _
 refine Zk [1] (Zb Zc [] ?_)
 simp only [push_cast,seval,Za,hN0,hN]
 refine Zf ?_
 obtain ⟨y2,hy2,h⟩:=bC h
 refine Zb Zc [] ?_
 simp only [push_cast,seval,Za,hN0,hN]
 refine (Vf hy2).then ?_
 simp only [push_cast,seval,Za,hN0,hN]
 refine Zg [1,4] [true] ?_
 simp only [push_cast,seval]
 refine Zf ?_
 refine Zg [1,4] [true] ?_
 simp only [push_cast,seval]
 obtain ⟨z12,hz12,h⟩:=bC h
 refine Znp (J:=(Gh (fun z12=>JR n (⟨29,[],[(2,.val (.int .i64 z12.1)),(3,.val (.int .i64 z12.2))]⟩:Env) (Z3 O n [none]) (n+1)) (fun z12=>JX 0 n (⟨29,[],[]⟩:Env) (Z3 O n [none]) (n+1)))) (z:=z12) ?_ fun hw => ?_
 ·refine Qt hz12 (fun s0_=>⟨29,[],[(1,.ref n 0),(4,.val (.int .i64 s0_))]⟩) (fun s0_=>(Z3 O n [some ⟨false,46,9,1,(Zi a0)⟩])) (Gh (fun z12=>JR n (⟨29,[],[(2,.val (.int .i64 z12.1)),(3,.val (.int .i64 z12.2))]⟩:Env) (Z3 O n [none]) (n+1)) (fun z12=>JX 0 n (⟨29,[],[]⟩:Env) (Z3 O n [none]) (n+1))) ?_
  intro s0_ x0_ hs0_
  unfold Ur at hs0_
  try dsimp only
  refine Zf ?_
  refine Zk [1,4,10] (Zb Zc [] ?_)
  simp only [push_cast,seval,Za,hN0,hN]
  refine Zo (t:=(decide (0 < s0_))) rfl (fun Kl => ?_) (fun Kl => ?_)
  ·replace hs0_:=Zw Kl hs0_
   refine Zt ?_
   try simp only [Zh,Ze]
   refine Zg [1,4] [true] ?_
   simp only [push_cast,seval]
   refine Yo ?_
   refine Zf ?_
   obtain ⟨y4,hy4,hs0_⟩:=bC hs0_
   refine Zb Zc [] ?_
   simp only [push_cast,seval,Za,hN0,hN]
   refine (Zb2 hy4).then ?_
   simp only [push_cast,seval,Za,hN0,hN]
   refine Zg [1,4,5,6] [true,true] ?_
   simp only [push_cast,seval]
   refine Zf ?_
   obtain ⟨z6,hz6,hs0_⟩:=bC hs0_
   refine Yr (E':=⟨29,[],[(1,.ref n 0),(4,.val (.int .i64 s0_)),(6,.val (.int .i64 y4.2)),(24,.val (.bool z6))]⟩) (O':=(Z3 O n [some ⟨false,46,9,1,(Zi a0)⟩,none])) (n0:=(n+2)) ?_ ?_
   ·rcases Bool.eq_false_or_eq_true (y4.2 != 0) with c9 | c9
    ·replace hz6:=Zw c9 hz6
     refine Zb Zc (Z8z []) ?_
     simp only [push_cast,seval,Za,c9,hN0,hN]
     have hz6:=Option.some.inj hz6;subst hz6
     refine And.intro rfl (Fit2.of (Zm hU rfl rfl ?_) (by omega))
     simp only [push_cast,seval,Za,c9,hN0,hN]
    replace hz6:=Zv c9 hz6
    obtain ⟨y8,hy8,hz6⟩:=bC hz6
    refine Zb Zc (Z58 []) ?_
    simp only [push_cast,seval,Za,c9,hN0,hN]
    refine (Yp hy8).then ?_
    simp only [push_cast,seval,Za,c9,hN0,hN]
    have hz6:=Option.some.inj hz6;subst hz6
    refine And.intro rfl (Fit2.of (Zm hU rfl rfl ?_) (by omega))
    simp only [push_cast,seval,Za,c9,hN0,hN]
   refine Zo (t:=z6) rfl (fun Gi => ?_) (fun Gi => ?_)
   ·replace hs0_:=Zw Gi hs0_
    refine Zk [2,3] (Zb Zc [] ?_)
    simp only [push_cast,seval,Za,hN0,hN]
    refine Zu ?_
    try simp only [Zh,Ze]
    have hs0_:=Option.some.inj hs0_;subst hs0_
    refine And.intro (fun h=>by cases h) (And.intro rfl (Fit2.of (Zm hU rfl rfl ?_) (by omega)))
    simp only [push_cast,seval,Za,hN0,hN]
   replace hs0_:=Zv Gi hs0_
   refine Zt ?_
   try simp only [Zh,Ze]
   refine Zg [1,4] [true,false] ?_
   simp only [push_cast,seval]
   refine Zb Zc [] ?_
   simp only [push_cast,seval,Za,hN0,hN]
   have hs0_:=Option.some.inj hs0_;subst hs0_
   refine And.intro rfl (Fit2.of (Zm hU rfl rfl ?_) (by omega))
   simp only [push_cast,seval,Za,hN0,hN]
  replace hs0_:=Zv Kl hs0_
  refine Q7 ?_
  try simp only [Zh,Ze,↓reduceIte,Nat.reduceEqDiff]
  have hs0_:=Option.some.inj hs0_;subst hs0_
  refine And.intro (fun h=>by cases h) (And.intro rfl (Fit2.of (Zm hU rfl rfl ?_) (by omega)))
  simp only [push_cast,seval,Za,hN0,hN]
 rcases z12 with z12 | z12
 ·dsimp only [Gh] at hw h
  refine Zea hw ?_
  try simp only [Zh,Ze,↓reduceIte,Nat.reduceEqDiff]
  have h:=Option.some.inj h;subst h
  refine Zl (.inr rfl) hU [.val (.int .i64 z12.1),.val (.int .i64 z12.2)] (by omega) ?_
  simp only [push_cast,seval,Za,Tryz.results104,hN0,hN]
 dsimp only [Gh] at hw h
 refine Xx hw ?_
 try simp only [Zh,Ze,↓reduceIte,Nat.reduceEqDiff]
 refine Zg [] [false] ?_
 simp only [push_cast,seval]
 refine Zk [2,3] (Zb Zc [] ?_)
 simp only [push_cast,seval,Za,hN0,hN]
 refine Zu ?_
 try simp only [Zh,Ze]
 have h:=Option.some.inj h;subst h
 refine Zl (.inr rfl) hU [.val (.int .i64 0),.val (.int .i64 0)] (by omega) ?_
 simp only [push_cast,seval,Za,Tryz.results104,hN0,hN]
theorem Zng {a0:Zd} {r:(Int×Int)} {O:Objs} {n:Nat} (h:Zaf a0=some r):GTo Tryz.prog 84 [.agg (Zi a0)] O n (.tup [.val (.int .i64 r.1),.val (.int .i64 r.2)]) O n:=by
 unfold Zaf at h
 refine Ye Zc Tryz.call84 Tryz.func84 rfl (Nat.le_of_ble_eq_true rfl) (Nat.le_refl _) fun hU => ?_
 have hN0:O n=none:=hU.fresh _ (Nat.le_refl _)
 have hN:∀ k,O (n+k)=none:=fun k=>hU.fresh _ (Nat.le_add_right _ _)
 show W _ _ _ _ ⟨20,[],[(0,.agg (Zi a0))]⟩ (Z3 O n []) _
 refine Zk [1] (Zb Zc [] ?_)
 simp only [push_cast,seval,Za,hN0,hN]
 refine Zf ?_
 refine Zf ?_
 obtain ⟨y2,hy2,h⟩:=bC h
 refine Zb Zc [] ?_
 simp only [push_cast,seval,Za,hN0,hN]
 refine (Yp hy2).then ?_
 simp only [push_cast,seval,Za,hN0,hN]
 refine Zg [1,8] [true] ?_
 simp only [push_cast,seval]
 refine Zo (t:=(y2 != 1)) rfl (fun c8 => ?_) (fun c8 => ?_)
 ·replace h:=Zw c8 h
  refine Zf ?_
  obtain ⟨y4,hy4,h⟩:=bC h
  refine Zb Zc [] ?_
  simp only [push_cast,seval,Za,hN0,hN]
  refine (Vf hy4).then ?_
  simp only [push_cast,seval,Za,hN0,hN]
  refine Zg [2,3] [false] ?_
  simp only [push_cast,seval]
  refine Zu ?_
  try simp only [Zh,Ze]
  have h:=Option.some.inj h;subst h
  refine Zl (.inr rfl) hU [.val (.int .i64 y4),.val (.int .i64 0)] (by omega) ?_
  simp only [push_cast,seval,Za,Tryz.results84,hN0,hN]
 replace h:=Zv c8 h
 refine Zt ?_
 try simp only [Zh,Ze]
 refine Zg [1] [true] ?_
 simp only [push_cast,seval]
 refine Zf ?_
 obtain ⟨y6,hy6,h⟩:=bC h
 refine Zb Zc [] ?_
 simp only [push_cast,seval,Za,hN0,hN]
 refine (Zyp hy6).then ?_
 simp only [push_cast,seval,Za,hN0,hN]
 refine Zg [4,5] [false] ?_
 simp only [push_cast,seval]
 refine Zf ?_
 refine Zk [4,5,17] (Zb Zc [] ?_)
 simp only [push_cast,seval,Za,hN0,hN]
 refine Zo (t:=(y6.2 != 0)) rfl (fun c7 => ?_) (fun c7 => ?_)
 ·replace h:=Zw c7 h
  refine Zk [2,3] (Zb Zc [] ?_)
  simp only [push_cast,seval,Za,hN0,hN]
  refine Zu ?_
  try simp only [Zh,Ze]
  have h:=Option.some.inj h;subst h
  refine Zl (.inr rfl) hU [.val (.int .i64 0),.val (.int .i64 y6.2)] (by omega) ?_
  simp only [push_cast,seval,Za,Tryz.results84,hN0,hN]
 replace h:=Zv c7 h
 refine Zt ?_
 try simp only [Zh,Ze]
 refine Zg [4] [false] ?_
 simp only [push_cast,seval]
 refine Zk [2,3] (Zb Zc [] ?_)
 simp only [push_cast,seval,Za,hN0,hN]
 refine Zu ?_
 try simp only [Zh,Ze]
 have h:=Option.some.inj h;subst h
 refine Zl (.inr rfl) hU [.val (.int .i64 y6.1),.val (.int .i64 0)] (by omega) ?_
 simp only [push_cast,seval,Za,Tryz.results84,hN0,hN]
theorem Zgq {Y0:(Zq→Zd→Zd→Option (Bool×Int×Zq))} {Y4:(Zq→Zd→Zd→Int→Option (Bool×Int×Zq))} (Zax:∀ {a0:Zq} {a1:Zd} {a2:Zd} {r:(Bool×Int×Zq)} {O:Objs} {n:Nat} {i0:Nat},i0 < n→O i0=some ⟨false,116,1,1,[.val (.int .i64 a0.left)]⟩→Y0 a0 a1 a2=some r→GTo Tryz.prog 62 [.ref i0 0,.agg (Zi a1),.agg (Zi a2)] O n (.tup [.val (.bool r.1),.val (.int .i64 r.2.1)]) (Z3 (O.upd i0 (some ⟨false,116,1,1,[.val (.int .i64 r.2.2.left)]⟩)) n []) (n+0)) (Ga:∀ {a0:Zq} {a1:Zd} {a2:Zd} {a3:Int} {r:(Bool×Int×Zq)} {O:Objs} {n:Nat} {i0:Nat},i0 < n→O i0=some ⟨false,116,1,1,[.val (.int .i64 a0.left)]⟩→Y4 a0 a1 a2 a3=some r→GTo Tryz.prog 85 [.ref i0 0,.agg (Zi a1),.agg (Zi a2),.val (.int .i64 a3)] O n (.tup [.val (.bool r.1),.val (.int .i64 r.2.1)]) (Z3 (O.upd i0 (some ⟨false,116,1,1,[.val (.int .i64 r.2.2.left)]⟩)) n []) (n+0)) {a0:Zq} {a1:Zd} {a2:Zd} {r:(Bool×Int×Zq)} {O:Objs} {n:Nat} {i0:Nat} (hi0:i0 < n) (ho0:O i0=some ⟨false,116,1,1,[.val (.int .i64 a0.left)]⟩) (h:Xt Y0 Y4 a0 a1 a2=some r):GTo Tryz.prog 62 [.ref i0 0,.agg (Zi a1),.agg (Zi a2)] O n (.tup [.val (.bool r.1),.val (.int .i64 r.2.1)]) (Z3 (O.upd i0 (some ⟨false,116,1,1,[.val (.int .i64 r.2.2.left)]⟩)) n []) (n+0):=by
 unfold Xt at h
 refine Ye Zc Tryz.call62 Tryz.func62 rfl (Nat.le_of_ble_eq_true rfl) (by omega) fun hU => ?_
 rw [show Z3 O n []=Z3 (O.upd i0 (some ⟨false,116,1,1,[.val (.int .i64 a0.left)]⟩)) n [] from by rw [Zj3 (show O i0=_ from by exact ho0)]]
 have hk0:∀ k,i0 < n+k:=fun k=>by omega
 have hN0:∀ o,Objs.upd O i0 o n=none:=fun o=>Zbk hU hi0 _ (Nat.le_refl _)
 have hN:∀ o k,Objs.upd O i0 o (n+k)=none:=fun o k=>Zbk hU hi0 _ (Nat.le_add_right _ _)
 show W _ _ _ _ ⟨62,[],[(0,.ref i0 0),(1,.agg (Zi a1)),(2,.agg (Zi a2))]⟩ (Z3 (O.upd i0 (some ⟨false,116,1,1,[.val (.int .i64 a0.left)]⟩)) n []) _
 refine Zk [0,4,5] (Zb Zc [] ?_)
 simp only [push_cast,seval,Za,hi0,hk0,hN0,hN]
 refine Zf ?_
 refine Zk [0,4,5,15] (Zb Zc [] ?_)
 simp only [push_cast,seval,Za,hi0,hk0,hN0,hN]
 refine Zo (t:=(a0.left == 0)) rfl (fun c21 => ?_) (fun c21 => ?_)
 ·replace h:=Zw c21 h
  refine Zk [6,7] (Zb Zc [] ?_)
  simp only [push_cast,seval,Za,hi0,hk0,hN0,hN]
  refine Zu ?_
  try simp only [Zh,Ze]
  have h:=Option.some.inj h;subst h
  refine Gr (k:=0) (i:=i0) (q1:=⟨false,116,1,1,[.val (.int .i64 a0.left)]⟩) (L3:=[none]) (E2:=(⟨62,[],[(6,.val (.bool false)),(7,.val (.int .i64 3))]⟩:Env)) (n3:=(n+1)) (.inr rfl) hU rfl [.val (.bool false),.val (.int .i64 3)] ?_ ?_
  ·refine Fit2.trans (E':=(⟨62,[],[(6,.val (.bool false)),(7,.val (.int .i64 3))]⟩:Env)) (O':=(Z3 (O.upd i0 (some ⟨false,116,1,1,[.val (.int .i64 a0.left)]⟩)) n [none,none])) (n':=(n+2)) (Fit2.of (Xq hU rfl rfl ?_) (by omega)) ?_
   ·simp only [push_cast,seval,Za,hi0,hk0,hN0,hN]
   refine Ge (k:=2) (k':=1) hU [0,0] [0] rfl rfl rfl rfl ⟨rfl,rfl⟩ ?_
   simp only [push_cast,seval,Za,hi0,hk0,hN0,hN]
  simp only [push_cast,seval,Za,Tryz.results62,hi0,hk0,hN0,hN]
 replace h:=Zv c21 h
 refine Zt ?_
 try simp only [Zh,Ze]
 refine Zg [0,4,5] [true,true] ?_
 simp only [push_cast,seval]
 refine Zf ?_
 refine Zb Zc [] ?_
 simp only [push_cast,seval,Za,hi0,hk0,hN0,hN]
 refine Zg [0,4,5] [true,true] ?_
 simp only [push_cast,seval]
 refine Zf ?_
 obtain ⟨z4,hz4,h⟩:=bC h
 refine Yr (E':=⟨62,[],[(0,.ref i0 0),(4,.ref n 0),(5,.ref (n+1) 0),(33,.val (.bool z4))]⟩) (O':=(Z3 (O.upd i0 (some ⟨false,116,1,1,[.val (.int .i64 (IntKind.i64.wrap (a0.left - 1)))]⟩)) n [some ⟨false,46,9,1,(Zi a1)⟩,some ⟨false,46,9,1,(Zi a2)⟩])) (n0:=(n+2)) ?_ ?_
 ·obtain ⟨y8,hy8,hz4⟩:=bC hz4
  obtain ⟨y9,hy9,hz4⟩:=bC hz4
  rcases Bool.eq_false_or_eq_true (y8 != y9) with Kl | Kl
  ·replace hz4:=Zw Kl hz4
   refine Y8 Zc (by kernel_rfl) (Z2y []) (by kernel_rfl) ?_
   simp only [push_cast,seval,Za,Kl,hi0,hk0,hN0,hN]
   refine PCall.of (Yp hy8) ?_
   simp only [push_cast,seval,Za,Kl,hi0,hk0,hN0,hN]
   refine PCall.of (Yp hy9) ?_
   simp only [push_cast,seval,Za,Kl,hi0,hk0,hN0,hN]
   have hz4:=Option.some.inj hz4;subst hz4
   refine And.intro rfl (Fit2.of (Xq hU rfl rfl ?_) (by omega))
   simp only [push_cast,seval,Za,Kl,hi0,hk0,hN0,hN]
  replace hz4:=Zv Kl hz4
  obtain ⟨y10,hy10,hz4⟩:=bC hz4
  refine Y8 Zc (by kernel_rfl) (Zyn []) (by kernel_rfl) ?_
  simp only [push_cast,seval,Za,Kl,hi0,hk0,hN0,hN]
  refine PCall.of (Yp hy8) ?_
  simp only [push_cast,seval,Za,Kl,hi0,hk0,hN0,hN]
  refine PCall.of (Yp hy9) ?_
  simp only [push_cast,seval,Za,Kl,hi0,hk0,hN0,hN]
  refine PCall.of (Zn8 hy10) ?_
  simp only [push_cast,seval,Za,Kl,hi0,hk0,hN0,hN]
  have hz4:=Option.some.inj hz4;subst hz4
  refine And.intro rfl (Fit2.of (Xq hU rfl rfl ?_) (by omega))
  simp only [push_cast,seval,Za,Kl,hi0,hk0,hN0,hN]
 refine Zo (t:=z4) rfl (fun c20 => ?_) (fun c20 => ?_)
 ·replace h:=Zw c20 h
  refine Zk [6,7] (Zb Zc [] ?_)
  simp only [push_cast,seval,Za,hi0,hk0,hN0,hN]
  refine Zu ?_
  try simp only [Zh,Ze]
  have h:=Option.some.inj h;subst h
  refine Gr (k:=0) (i:=i0) (q1:=⟨false,116,1,1,[.val (.int .i64 (IntKind.i64.wrap (a0.left - 1)))]⟩) (L3:=[none]) (E2:=(⟨62,[],[(6,.val (.bool false)),(7,.val (.int .i64 0))]⟩:Env)) (n3:=(n+1)) (.inr rfl) hU rfl [.val (.bool false),.val (.int .i64 0)] ?_ ?_
  ·refine Fit2.trans (E':=(⟨62,[],[(6,.val (.bool false)),(7,.val (.int .i64 0))]⟩:Env)) (O':=(Z3 (O.upd i0 (some ⟨false,116,1,1,[.val (.int .i64 (IntKind.i64.wrap (a0.left - 1)))]⟩)) n [none,none])) (n':=(n+2)) (Fit2.of (Xq hU rfl rfl ?_) (by omega)) ?_
   ·simp only [push_cast,seval,Za,hi0,hk0,hN0,hN]
   refine Ge (k:=2) (k':=1) hU [0,0] [0] rfl rfl rfl rfl ⟨rfl,rfl⟩ ?_
   simp only [push_cast,seval,Za,hi0,hk0,hN0,hN]
  simp only [push_cast,seval,Za,Tryz.results62,hi0,hk0,hN0,hN]
 replace h:=Zv c20 h
 refine Zt ?_
 try simp only [Zh,Ze]
 refine Zg [0,4,5] [true,true] ?_
 simp only [push_cast,seval]
 refine Zf ?_
 obtain ⟨y13,hy13,h⟩:=bC h
 refine Zb Zc [] ?_
 simp only [push_cast,seval,Za,hi0,hk0,hN0,hN]
 refine (Zng hy13).then ?_
 simp only [push_cast,seval,Za,hi0,hk0,hN0,hN]
 refine Zg [0,4,5,8,9] [true,true] ?_
 simp only [push_cast,seval]
 refine Zf ?_
 refine Zk [0,4,5,8,9,40] (Zb Zc [] ?_)
 simp only [push_cast,seval,Za,hi0,hk0,hN0,hN]
 refine Zo (t:=(y13.2 != 0)) rfl (fun c19 => ?_) (fun c19 => ?_)
 ·replace h:=Zw c19 h
  refine Zk [6,7] (Zb Zc [] ?_)
  simp only [push_cast,seval,Za,hi0,hk0,hN0,hN]
  refine Zu ?_
  try simp only [Zh,Ze]
  have h:=Option.some.inj h;subst h
  refine Gr (k:=0) (i:=i0) (q1:=⟨false,116,1,1,[.val (.int .i64 (IntKind.i64.wrap (a0.left - 1)))]⟩) (L3:=[none]) (E2:=(⟨62,[],[(6,.val (.bool false)),(7,.val (.int .i64 y13.2))]⟩:Env)) (n3:=(n+1)) (.inr rfl) hU rfl [.val (.bool false),.val (.int .i64 y13.2)] ?_ ?_
  ·refine Fit2.trans (E':=(⟨62,[],[(6,.val (.bool false)),(7,.val (.int .i64 y13.2))]⟩:Env)) (O':=(Z3 (O.upd i0 (some ⟨false,116,1,1,[.val (.int .i64 (IntKind.i64.wrap (a0.left - 1)))]⟩)) n [none,none])) (n':=(n+2)) (Fit2.of (Xq hU rfl rfl ?_) (by omega)) ?_
   ·simp only [push_cast,seval,Za,hi0,hk0,hN0,hN]
   refine Ge (k:=2) (k':=1) hU [0,0] [0] rfl rfl rfl rfl ⟨rfl,rfl⟩ ?_
   simp only [push_cast,seval,Za,hi0,hk0,hN0,hN]
  simp only [push_cast,seval,Za,Tryz.results62,hi0,hk0,hN0,hN]
 replace h:=Zv c19 h
 refine Zt ?_
 try simp only [Zh,Ze]
 refine Zg [0,4,5,8] [true,true] ?_
 simp only [push_cast,seval]
 refine Zf ?_
 obtain ⟨y15,hy15,h⟩:=bC h
 refine Zb Zc [] ?_
 simp only [push_cast,seval,Za,hi0,hk0,hN0,hN]
 refine (Zng hy15).then ?_
 simp only [push_cast,seval,Za,hi0,hk0,hN0,hN]
 refine Zg [0,4,5,8,9,10] [true,true] ?_
 simp only [push_cast,seval]
 refine Zf ?_
 refine Zk [0,4,5,8,9,53] (Zb Zc [none,none,none] ?_)
 simp only [push_cast,seval,Za,hi0,hk0,hN0,hN]
 repeat (with_reducible refine And.intro (by first | (intro h0;simp only [h0,and_self];done) | (intro h0;simp only [h0,Bool.not_true,true_and,and_true,and_self,imp_self,implies_true,bne_iff_ne,ne_eq];done) | (intros;simp_all;done) | exact True.intro) ?_)
 refine Zo (t:=(cond (y15.2 != 0) true (y13.1 != y15.1))) rfl (fun Gj => ?_) (fun Gj => ?_)
 ·replace h:=Zw Gj h
  refine Zk [6,7] (Zb Zc [] ?_)
  simp only [push_cast,seval,Za,hi0,hk0,hN0,hN]
  refine Zu ?_
  try simp only [Zh,Ze]
  have h:=Option.some.inj h;subst h
  refine Gr (k:=0) (i:=i0) (q1:=⟨false,116,1,1,[.val (.int .i64 (IntKind.i64.wrap (a0.left - 1)))]⟩) (L3:=[none]) (E2:=(⟨62,[],[(6,.val (.bool false)),(7,.val (.int .i64 y15.2))]⟩:Env)) (n3:=(n+1)) (.inr rfl) hU rfl [.val (.bool false),.val (.int .i64 y15.2)] ?_ ?_
  ·refine Fit2.trans (E':=(⟨62,[],[(6,.val (.bool false)),(7,.val (.int .i64 y15.2))]⟩:Env)) (O':=(Z3 (O.upd i0 (some ⟨false,116,1,1,[.val (.int .i64 (IntKind.i64.wrap (a0.left - 1)))]⟩)) n [none,none])) (n':=(n+2)) (Fit2.of (Xq hU rfl rfl ?_) (by omega)) ?_
   ·simp only [push_cast,seval,Za,hi0,hk0,hN0,hN]
   refine Ge (k:=2) (k':=1) hU [0,0] [0] rfl rfl rfl rfl ⟨rfl,rfl⟩ ?_
   simp only [push_cast,seval,Za,hi0,hk0,hN0,hN]
  simp only [push_cast,seval,Za,Tryz.results62,hi0,hk0,hN0,hN]
 replace h:=Zv Gj h
 refine Zt ?_
 try simp only [Zh,Ze]
 refine Zg [0,4,5,8] [true,true] ?_
 simp only [push_cast,seval]
 refine Zf ?_
 obtain ⟨y17,hy17,h⟩:=bC h
 refine Zb Zc [] ?_
 simp only [push_cast,seval,Za,hi0,hk0,hN0,hN]
 refine (Ga (i0:=i0) (by omega) (by simp only [push_cast,seval,Za,Zde,hi0,hk0,hN0,hN] <;> rfl) hy17).then ?_
 simp only [push_cast,seval,Za,hi0,hk0,hN0,hN]
 refine Zg [6,7] [false,false] ?_
 simp only [push_cast,seval]
 refine Zu ?_
 try simp only [Zh,Ze]
 have h:=Option.some.inj h;subst h
 refine Gr (k:=0) (i:=i0) (q1:=⟨false,116,1,1,[.val (.int .i64 y17.2.2.left)]⟩) (L3:=[none]) (E2:=(⟨62,[],[(6,.val (.bool y17.1)),(7,.val (.int .i64 y17.2.1))]⟩:Env)) (n3:=(n+1)) (.inr rfl) hU rfl [.val (.bool y17.1),.val (.int .i64 y17.2.1)] ?_ ?_
 ·refine Fit2.trans (E':=(⟨62,[],[(6,.val (.bool y17.1)),(7,.val (.int .i64 y17.2.1))]⟩:Env)) (O':=(Z3 (O.upd i0 (some ⟨false,116,1,1,[.val (.int .i64 y17.2.2.left)]⟩)) n [none,none])) (n':=(n+2)) (Fit2.of (Xq hU rfl rfl ?_) (by omega)) ?_
  ·simp only [push_cast,seval,Za,hi0,hk0,hN0,hN]
  refine Ge (k:=2) (k':=1) hU [0,0] [0] rfl rfl rfl rfl ⟨rfl,rfl⟩ ?_
  simp only [push_cast,seval,Za,hi0,hk0,hN0,hN]
 simp only [push_cast,seval,Za,Tryz.results62,hi0,hk0,hN0,hN]
theorem Zdr {Y0:(Zq→Zd→Zd→Option (Bool×Int×Zq))} {Y4:(Zq→Zd→Zd→Int→Option (Bool×Int×Zq))} (Zax:∀ {a0:Zq} {a1:Zd} {a2:Zd} {r:(Bool×Int×Zq)} {O:Objs} {n:Nat} {i0:Nat},i0 < n→O i0=some ⟨false,116,1,1,[.val (.int .i64 a0.left)]⟩→Y0 a0 a1 a2=some r→GTo Tryz.prog 62 [.ref i0 0,.agg (Zi a1),.agg (Zi a2)] O n (.tup [.val (.bool r.1),.val (.int .i64 r.2.1)]) (Z3 (O.upd i0 (some ⟨false,116,1,1,[.val (.int .i64 r.2.2.left)]⟩)) n []) (n+0)) (Ga:∀ {a0:Zq} {a1:Zd} {a2:Zd} {a3:Int} {r:(Bool×Int×Zq)} {O:Objs} {n:Nat} {i0:Nat},i0 < n→O i0=some ⟨false,116,1,1,[.val (.int .i64 a0.left)]⟩→Y4 a0 a1 a2 a3=some r→GTo Tryz.prog 85 [.ref i0 0,.agg (Zi a1),.agg (Zi a2),.val (.int .i64 a3)] O n (.tup [.val (.bool r.1),.val (.int .i64 r.2.1)]) (Z3 (O.upd i0 (some ⟨false,116,1,1,[.val (.int .i64 r.2.2.left)]⟩)) n []) (n+0)) {a0:Zq} {a1:Zd} {a2:Zd} {a3:Int} {r:(Bool×Int×Zq)} {O:Objs} {n:Nat} {i0:Nat} (hi0:i0 < n) (ho0:O i0=some ⟨false,116,1,1,[.val (.int .i64 a0.left)]⟩) (h:Y3 Y0 Y4 a0 a1 a2 a3=some r):GTo Tryz.prog 85 [.ref i0 0,.agg (Zi a1),.agg (Zi a2),.val (.int .i64 a3)] O n (.tup [.val (.bool r.1),.val (.int .i64 r.2.1)]) (Z3 (O.upd i0 (some ⟨false,116,1,1,[.val (.int .i64 r.2.2.left)]⟩)) n []) (n+0):=by
 unfold Y3 at h
 refine Ye Zc Tryz.call85 Tryz.func85 rfl (Nat.le_of_ble_eq_true rfl) (by omega) fun hU => ?_
 rw [show Z3 O n []=Z3 (O.upd i0 (some ⟨false,116,1,1,[.val (.int .i64 a0.left)]⟩)) n [] from by rw [Zj3 (show O i0=_ from by exact ho0)]]
 have hk0:∀ k,i0 < n+k:=fun k=>by omega
 have hN0:∀ o,Objs.upd O i0 o n=none:=fun o=>Zbk hU hi0 _ (Nat.le_refl _)
 have hN:∀ o k,Objs.upd O i0 o (n+k)=none:=fun o k=>Zbk hU hi0 _ (Nat.le_add_right _ _)
 show W _ _ _ _ ⟨53,[],[(0,.ref i0 0),(1,.agg (Zi a1)),(2,.agg (Zi a2)),(3,.val (.int .i64 a3))]⟩ (Z3 (O.upd i0 (some ⟨false,116,1,1,[.val (.int .i64 a0.left)]⟩)) n []) _
 refine Zk [0,3,5,6] (Zb Zc [] ?_)
 simp only [push_cast,seval,Za,hi0,hk0,hN0,hN]
 refine Zf ?_
 refine Zk [0,5,6,16,17] (Zb Zc [] ?_)
 simp only [push_cast,seval,Za,hi0,hk0,hN0,hN]
 refine Zg [0,5,6,16,17] [true,true] ?_
 simp only [push_cast,seval]
 obtain ⟨z11,hz11,h⟩:=bC h
 refine Znp (J:=(Gh (fun z11=>JR n (⟨53,[],[(8,.val (.bool false)),(9,.val (.int .i64 z11.1))]⟩:Env) (Z3 (O.upd i0 (some ⟨false,116,1,1,[.val (.int .i64 z11.2)]⟩)) n [none,none]) (n+2)) (fun z11=>JX 0 n (⟨53,[],[]⟩:Env) (Z3 (O.upd i0 (some ⟨false,116,1,1,[.val (.int .i64 z11)]⟩)) n [none,none]) (n+2)))) (z:=z11) ?_ fun hw => ?_
 ·refine Qt hz11 (fun s0_=>⟨53,[],[(0,.ref i0 0),(5,.ref n 0),(6,.ref (n+1) 0),(16,.val (.int .i64 a3)),(17,.val (.int .i64 s0_.1))]⟩) (fun s0_=>(Z3 (O.upd i0 (some ⟨false,116,1,1,[.val (.int .i64 s0_.2)]⟩)) n [some ⟨false,46,9,1,(Zi a1)⟩,some ⟨false,46,9,1,(Zi a2)⟩])) (Gh (fun z11=>JR n (⟨53,[],[(8,.val (.bool false)),(9,.val (.int .i64 z11.1))]⟩:Env) (Z3 (O.upd i0 (some ⟨false,116,1,1,[.val (.int .i64 z11.2)]⟩)) n [none,none]) (n+2)) (fun z11=>JX 0 n (⟨53,[],[]⟩:Env) (Z3 (O.upd i0 (some ⟨false,116,1,1,[.val (.int .i64 z11)]⟩)) n [none,none]) (n+2))) ?_
  intro s0_ x0_ hs0_
  unfold Y1 at hs0_
  try dsimp only
  refine Zk [0,5,6,16,17,18] (Zb Zc [] ?_)
  simp only [push_cast,seval,Za,hi0,hk0,hN0,hN]
  refine Zf ?_
  refine Zo (t:=(decide (s0_.1 < a3))) rfl (fun Gi => ?_) (fun Gi => ?_)
  ·replace hs0_:=Zw Gi hs0_
   refine Zt ?_
   try simp only [Zh,Ze]
   refine Zg [0,5,6,16,17] [true,true] ?_
   simp only [push_cast,seval]
   refine Zf ?_
   refine Yo ?_
   refine Zk [0,5,6,10,16,17] (Zb Zc [] ?_)
   simp only [push_cast,seval,Za,hi0,hk0,hN0,hN]
   refine Zf ?_
   obtain ⟨y2,hy2,hs0_⟩:=bC hs0_
   refine Zb Zc [] ?_
   simp only [push_cast,seval,Za,hi0,hk0,hN0,hN]
   refine (Zb2 hy2).then ?_
   simp only [push_cast,seval,Za,hi0,hk0,hN0,hN]
   refine Zg [0,5,6,10,11,12,16,17] [true,true,true] ?_
   simp only [push_cast,seval]
   refine Zf ?_
   refine Zk [0,5,6,10,11,12,16,17,27] (Zb Zc [] ?_)
   simp only [push_cast,seval,Za,hi0,hk0,hN0,hN]
   refine Zo (t:=(y2.2 != 0)) rfl (fun c9 => ?_) (fun c9 => ?_)
   ·replace hs0_:=Zw c9 hs0_
    refine Zk [8,9] (Zb Zc [] ?_)
    simp only [push_cast,seval,Za,hi0,hk0,hN0,hN]
    refine Zu ?_
    try simp only [Zh,Ze]
    have hs0_:=Option.some.inj hs0_;subst hs0_
    refine And.intro (fun h=>by cases h) (And.intro rfl (Fit2.of (Xq hU rfl rfl ?_) (by omega)))
    simp only [push_cast,seval,Za,hi0,hk0,hN0,hN]
   replace hs0_:=Zv c9 hs0_
   refine Zt ?_
   try simp only [Zh,Ze]
   refine Zg [0,5,6,10,11,16,17] [true,true,true] ?_
   simp only [push_cast,seval]
   refine Zf ?_
   obtain ⟨y4,hy4,hs0_⟩:=bC hs0_
   refine Zb Zc [] ?_
   simp only [push_cast,seval,Za,hi0,hk0,hN0,hN]
   refine (Zb2 hy4).then ?_
   simp only [push_cast,seval,Za,hi0,hk0,hN0,hN]
   refine Zg [0,5,6,11,12,13,16,17] [true,true,true,true] ?_
   simp only [push_cast,seval]
   refine Zf ?_
   refine Zk [0,5,6,11,12,13,16,17,36] (Zb Zc [] ?_)
   simp only [push_cast,seval,Za,hi0,hk0,hN0,hN]
   refine Zo (t:=(y4.2 != 0)) rfl (fun c8 => ?_) (fun c8 => ?_)
   ·replace hs0_:=Zw c8 hs0_
    refine Zk [8,9] (Zb Zc [] ?_)
    simp only [push_cast,seval,Za,hi0,hk0,hN0,hN]
    refine Zu ?_
    try simp only [Zh,Ze]
    have hs0_:=Option.some.inj hs0_;subst hs0_
    refine And.intro (fun h=>by cases h) (And.intro rfl (Fit2.of (Xq hU rfl rfl ?_) (by omega)))
    simp only [push_cast,seval,Za,hi0,hk0,hN0,hN]
   replace hs0_:=Zv c8 hs0_
   refine Zt ?_
   try simp only [Zh,Ze]
   refine Zg [0,5,6,11,13,16,17] [true,true,true,true] ?_
   simp only [push_cast,seval]
   refine Zf ?_
   obtain ⟨y6,hy6,hs0_⟩:=bC hs0_
   refine Zb Zc [] ?_
   simp only [push_cast,seval,Za,hi0,hk0,hN0,hN]
   refine (Zax (i0:=i0) (by omega) (by simp only [push_cast,seval,Za,Zde,hi0,hk0,hN0,hN] <;> rfl) hy6).then ?_
   simp only [push_cast,seval,Za,hi0,hk0,hN0,hN]
   refine Zg [0,5,6,14,15,16,17] [true,true,false,false] ?_
   simp only [push_cast,seval]
   refine Zk [0,5,6,15,16,17,50] (Zb Zc [none,none] ?_)
   simp only [push_cast,seval,Za,hi0,hk0,hN0,hN]
   repeat (with_reducible refine And.intro (by first | (intro h0;simp only [h0];done) | (intro h0;simp only [h0,true_and,and_true,imp_self,implies_true,ne_eq];done) | (intros;simp_all;done) | exact True.intro) ?_)
   refine Zo (t:=(cond (!y6.1) true (y6.2.1 != 0))) rfl (fun c7 => ?_) (fun c7 => ?_)
   ·replace hs0_:=Zw c7 hs0_
    refine Zk [8,9] (Zb Zc [] ?_)
    simp only [push_cast,seval,Za,hi0,hk0,hN0,hN]
    refine Zu ?_
    try simp only [Zh,Ze]
    have hs0_:=Option.some.inj hs0_;subst hs0_
    refine And.intro (fun h=>by cases h) (And.intro rfl (Fit2.of (Xq hU rfl rfl ?_) (by omega)))
    simp only [push_cast,seval,Za,hi0,hk0,hN0,hN]
   replace hs0_:=Zv c7 hs0_
   refine Zt ?_
   try simp only [Zh,Ze]
   refine Zg [0,5,6,16,17] [true,true,false,false] ?_
   simp only [push_cast,seval]
   refine Zb Zc [] ?_
   simp only [push_cast,seval,Za,hi0,hk0,hN0,hN]
   have hs0_:=Option.some.inj hs0_;subst hs0_
   refine And.intro rfl (Fit2.of (Xq hU rfl rfl ?_) (by omega))
   simp only [push_cast,seval,Za,hi0,hk0,hN0,hN]
  replace hs0_:=Zv Gi hs0_
  refine Q7 ?_
  try simp only [Zh,Ze,↓reduceIte,Nat.reduceEqDiff]
  have hs0_:=Option.some.inj hs0_;subst hs0_
  refine And.intro (fun h=>by cases h) (And.intro rfl (Fit2.of (Xq hU rfl rfl ?_) (by omega)))
  simp only [push_cast,seval,Za,hi0,hk0,hN0,hN]
 rcases z11 with z11 | z11
 ·dsimp only [Gh] at hw h
  refine Zea hw ?_
  try simp only [Zh,Ze,↓reduceIte,Nat.reduceEqDiff]
  have h:=Option.some.inj h;subst h
  refine Gr (k:=0) (i:=i0) (q1:=⟨false,116,1,1,[.val (.int .i64 z11.2)]⟩) (L3:=[none]) (E2:=(⟨53,[],[(8,.val (.bool false)),(9,.val (.int .i64 z11.1))]⟩:Env)) (n3:=(n+1)) (.inr rfl) hU rfl [.val (.bool false),.val (.int .i64 z11.1)] ?_ ?_
  ·refine Fit2.trans (E':=(⟨53,[],[(8,.val (.bool false)),(9,.val (.int .i64 z11.1))]⟩:Env)) (O':=(Z3 (O.upd i0 (some ⟨false,116,1,1,[.val (.int .i64 z11.2)]⟩)) n [none,none])) (n':=(n+2)) (Fit2.of (Xq hU rfl rfl ?_) (by omega)) ?_
   ·simp only [push_cast,seval,Za,hi0,hk0,hN0,hN]
   refine Ge (k:=2) (k':=1) hU [0,0] [0] rfl rfl rfl rfl ⟨rfl,rfl⟩ ?_
   simp only [push_cast,seval,Za,hi0,hk0,hN0,hN]
  simp only [push_cast,seval,Za,Tryz.results85,hi0,hk0,hN0,hN]
 dsimp only [Gh] at hw h
 refine Xx hw ?_
 try simp only [Zh,Ze,↓reduceIte,Nat.reduceEqDiff]
 refine Zg [] [false,false] ?_
 simp only [push_cast,seval]
 refine Zk [8,9] (Zb Zc [] ?_)
 simp only [push_cast,seval,Za,hi0,hk0,hN0,hN]
 refine Zu ?_
 try simp only [Zh,Ze]
 have h:=Option.some.inj h;subst h
 refine Gr (k:=0) (i:=i0) (q1:=⟨false,116,1,1,[.val (.int .i64 z11)]⟩) (L3:=[none]) (E2:=(⟨53,[],[(8,.val (.bool true)),(9,.val (.int .i64 0))]⟩:Env)) (n3:=(n+1)) (.inr rfl) hU rfl [.val (.bool true),.val (.int .i64 0)] ?_ ?_
 ·refine Fit2.trans (E':=(⟨53,[],[(8,.val (.bool true)),(9,.val (.int .i64 0))]⟩:Env)) (O':=(Z3 (O.upd i0 (some ⟨false,116,1,1,[.val (.int .i64 z11)]⟩)) n [none,none])) (n':=(n+2)) (Fit2.of (Xq hU rfl rfl ?_) (by omega)) ?_
  ·simp only [push_cast,seval,Za,hi0,hk0,hN0,hN]
  refine Ge (k:=2) (k':=1) hU [0,0] [0] rfl rfl rfl rfl ⟨rfl,rfl⟩ ?_
  simp only [push_cast,seval,Za,hi0,hk0,hN0,hN]
 simp only [push_cast,seval,Za,Tryz.results85,hi0,hk0,hN0,hN]
theorem Ze9:∀ k,(∀ {a0:Zq} {a1:Zd} {a2:Zd} {r:(Bool×Int×Zq)} {O:Objs} {n:Nat} {i0:Nat},i0 < n→O i0=some ⟨false,116,1,1,[.val (.int .i64 a0.left)]⟩→(Z0 k).1 a0 a1 a2=some r→GTo Tryz.prog 62 [.ref i0 0,.agg (Zi a1),.agg (Zi a2)] O n (.tup [.val (.bool r.1),.val (.int .i64 r.2.1)]) (Z3 (O.upd i0 (some ⟨false,116,1,1,[.val (.int .i64 r.2.2.left)]⟩)) n []) (n+0))∧(∀ {a0:Zq} {a1:Zd} {a2:Zd} {a3:Int} {r:(Bool×Int×Zq)} {O:Objs} {n:Nat} {i0:Nat},i0 < n→O i0=some ⟨false,116,1,1,[.val (.int .i64 a0.left)]⟩→(Z0 k).2 a0 a1 a2 a3=some r→GTo Tryz.prog 85 [.ref i0 0,.agg (Zi a1),.agg (Zi a2),.val (.int .i64 a3)] O n (.tup [.val (.bool r.1),.val (.int .i64 r.2.1)]) (Z3 (O.upd i0 (some ⟨false,116,1,1,[.val (.int .i64 r.2.2.left)]⟩)) n []) (n+0)):=fun k=>by
 induction k with
 | zero=>exact ⟨@fun a0 a1 a2 r O n i0 hi0 ho0 h=>(nomatch (show (none:Option _)=some _ from h)),@fun a0 a1 a2 a3 r O n i0 hi0 ho0 h=>(nomatch (show (none:Option _)=some _ from h))⟩
 | succ k ih=>exact ⟨@fun a0 a1 a2 r O n i0 hi0 ho0 h=>Zgq (ih.1) (ih.2) hi0 ho0 h,@fun a0 a1 a2 a3 r O n i0 hi0 ho0 h=>Zdr (ih.1) (ih.2) hi0 ho0 h⟩
theorem Zic {a0:Zq} {a1:Zd} {a2:Zd} {r:(Bool×Int×Zq)} {O:Objs} {n:Nat} {i0:Nat} (hi0:i0 < n) (ho0:O i0=some ⟨false,116,1,1,[.val (.int .i64 a0.left)]⟩) (h:Gk a0 a1 a2=some r):GTo Tryz.prog 62 [.ref i0 0,.agg (Zi a1),.agg (Zi a2)] O n (.tup [.val (.bool r.1),.val (.int .i64 r.2.1)]) (Z3 (O.upd i0 (some ⟨false,116,1,1,[.val (.int .i64 r.2.2.left)]⟩)) n []) (n+0):=by
 obtain ⟨k,hk⟩:=Zjd h
 exact (Ze9 k).1 hi0 ho0 hk
theorem Zsn {a0:Zd} {a1:Zd} {r:(Bool×Int)} {O:Objs} {n:Nat} (h:Vc a0 a1=some r):GTo Tryz.prog 40 [.agg (Zi a0),.agg (Zi a1)] O n (.tup [.val (.bool r.1),.val (.int .i64 r.2)]) O n:=by
 unfold Vc at h
 refine Ye Zc Tryz.call40 Tryz.func40 rfl (Nat.le_of_ble_eq_true rfl) (Nat.le_refl _) fun hU => ?_
 have hN0:O n=none:=hU.fresh _ (Nat.le_refl _)
 have hN:∀ k,O (n+k)=none:=fun k=>hU.fresh _ (Nat.le_add_right _ _)
 show W _ _ _ _ ⟨13,[],[(0,.agg (Zi a0)),(1,.agg (Zi a1))]⟩ (Z3 O n []) _
 refine Zk [2,3] (Zb Zc [] ?_)
 simp only [push_cast,seval,Za,hN0,hN]
 refine Zf ?_
 refine Zb Zc [] ?_
 simp only [push_cast,seval,Za,hN0,hN]
 refine Zg [2,3,6] [true,true,true] ?_
 simp only [push_cast,seval]
 refine Zf ?_
 obtain ⟨y2,hy2,h⟩:=bC h
 refine Zb Zc [] ?_
 simp only [push_cast,seval,Za,hN0,hN]
 refine (Zic (i0:=(n+2)) (by omega) (by simp only [push_cast,seval,Za,Zde,hN0,hN] <;> rfl) hy2).then ?_
 simp only [push_cast,seval,Za,hN0,hN]
 refine Zg [4,5] [false,false,false] ?_
 simp only [push_cast,seval]
 refine Zu ?_
 try simp only [Zh,Ze]
 have h:=Option.some.inj h;subst h
 refine Zl (.inr rfl) hU [.val (.bool y2.1),.val (.int .i64 y2.2.1)] (by omega) ?_
 simp only [push_cast,seval,Za,Tryz.results40,hN0,hN]
theorem Zvd {a0:Int} {r:(Arr Int 8)} {O:Objs} {n:Nat} (h:Zb1 a0=some r):GTo Tryz.prog 105 [.val (.int .u64 a0)] O n (.agg (fl (eI .u8) r.1)) O n:=by
 unfold Zb1 at h
 refine Ye Zc Tryz.call105 Tryz.func105 rfl (Nat.le_of_ble_eq_true rfl) (Nat.le_refl _) fun hU => ?_
 have hN0:O n=none:=hU.fresh _ (Nat.le_refl _)
 have hN:∀ k,O (n+k)=none:=fun k=>hU.fresh _ (Nat.le_add_right _ _)
 show W _ _ _ _ ⟨17,[],[(0,.val (.int .u64 a0))]⟩ (Z3 O n []) _
 obtain ⟨y3,hy3,ey3,h⟩:=bY (f:=(eI .u8)) (cs:=[.val (.int .u8 0),.val (.int .u8 0),.val (.int .u8 0),.val (.int .u8 0),.val (.int .u8 0),.val (.int .u8 0),.val (.int .u8 0),.val (.int .u8 0)]) rfl h
 have g4:=congrArg (GObj.mk false 177 8 1) ey3
 refine Zk [0,2] (Zb Zc [] ?_)
 simp only [push_cast,seval,Za,g4,hN0,hN]
 obtain ⟨y7,hy7,ey7,h⟩:=bY (f:=(eI .u8)) (cs:=[.val (.int .u8 0),.val (.int .u8 0),.val (.int .u8 0),.val (.int .u8 0),.val (.int .u8 0),.val (.int .u8 0),.val (.int .u8 0),.val (.int .u8 0)]) rfl h
 have g8:=congrArg (GObj.mk false 177 8 1) ey7
 refine Zk [0,2,3] (Zb Zc [] ?_)
 simp only [push_cast,seval,Za,g8,hN0,hN]
 refine Zf ?_
 refine Zk [0,2,3,5] (Zb Zc [] ?_)
 simp only [push_cast,seval,Za,hN0,hN]
 refine Zg [0,2,3,5] [true,true] ?_
 simp only [push_cast,seval]
 obtain ⟨z13,hz13,h⟩:=bC h
 refine Xx (E':=⟨17,[],[(2,.ref n 0),(3,.ref (n+1) 0)]⟩) (O':=(Z3 O n [some ⟨false,177,8,1,fl (eI .u8) y3.1⟩,some ⟨false,177,8,1,fl (eI .u8) z13.1⟩])) (n0:=(n+2)) ?_ ?_
 ·refine Qt hz13 (fun s0_=>⟨17,[],[(0,.val (.int .u64 a0)),(2,.ref n 0),(3,.ref (n+1) 0),(5,.val (.int .i64 s0_.1))]⟩) (fun s0_=>(Z3 O n [some ⟨false,177,8,1,fl (eI .u8) y3.1⟩,some ⟨false,177,8,1,fl (eI .u8) s0_.2.1⟩])) (fun z13=>JX 0 n (⟨17,[],[(2,.ref n 0),(3,.ref (n+1) 0)]⟩:Env) (Z3 O n [some ⟨false,177,8,1,fl (eI .u8) y3.1⟩,some ⟨false,177,8,1,fl (eI .u8) z13.1⟩]) (n+2)) ?_
  intro s0_ x0_ hs0_
  unfold Zit at hs0_
  try dsimp only
  refine Zk [0,2,3,5,6] (Zb Zc [] ?_)
  simp only [push_cast,seval,Za,hN0,hN]
  refine Zf ?_
  refine Zo (t:=(decide (s0_.1 < 8))) rfl (fun Ux => ?_) (fun Ux => ?_)
  ·replace hs0_:=Zw Ux hs0_
   refine Zt ?_
   try simp only [Zh,Ze]
   refine Zg [0,2,3,5] [true,true] ?_
   simp only [push_cast,seval]
   refine Zf ?_
   refine Yo ?_
   refine Zk [0,2,3,4,5] (Zb Zc [] ?_)
   simp only [push_cast,seval,Za,hN0,hN]
   obtain ⟨pu9,hs0_⟩:=bG hs0_
   obtain ⟨x10,hx10,ax10,bx10,cx10,hs0_⟩:=bEA (f:=(eI .u8)) (b:=8) rfl Z1s (fun _=>rfl) (by decide) hs0_
   have gu11:Uj (fl (eI .u8) s0_.2.1) [.val (.int .u8 (IntKind.u8.wrap (Int.fdiv a0 (2 ^ min (Int.toNat (IntKind.i64.wrap (8 * s0_.1))) 64))))] (Int.toNat s0_.1 * 1)=some (fl (eI .u8) (Xs s0_.2.1 s0_.1 (IntKind.u8.wrap (Int.fdiv a0 (2 ^ min (Int.toNat (IntKind.i64.wrap (8 * s0_.1))) 64))))):=Zgd (f:=(eI .u8)) (ti:=⟨.bool,1,0,[],false⟩) (x:=(IntKind.u8.wrap (Int.fdiv a0 (2 ^ min (Int.toNat (IntKind.i64.wrap (8 * s0_.1))) 64)))) (fun _=>rfl) (Zbt hx10)
   refine Zb Zc [] ?_
   simp only [push_cast,Nat.reduceAdd,Nat.reduceSub,Nat.reduceMul,Nat.reduceLeDiff,Nat.reduceLT,Nat.reduceEqDiff,↓reduceIte,reduceCtorEq,Int.reduceBEq,Int.reduceBNe,Nat.reduceBEq,Int.reduceLE,Int.reduceLT,Int.reduceEq,Int.reduceNe,Int.reduceNeg,Nat.reduceDiv,Nat.reduceMod,Nat.reducePow,Za,pu9,ax10,bx10,cx10,gu11,hN0,hN]
   refine Zg [0,2,3,5] [true,true] ?_
   simp only [push_cast,seval]
   refine Zb Zc [] ?_
   simp only [push_cast,seval,Za,hN0,hN]
   have hs0_:=Option.some.inj hs0_;subst hs0_
   refine And.intro rfl (Fit2.of (Zm hU rfl rfl ?_) (by omega))
   simp only [push_cast,seval,Za,hN0,hN]
  replace hs0_:=Zv Ux hs0_
  refine Q7 ?_
  try simp only [Zh,Ze,↓reduceIte,Nat.reduceEqDiff]
  have hs0_:=Option.some.inj hs0_;subst hs0_
  refine And.intro (fun h=>by cases h) (And.intro rfl (Fit2.of (Zm hU rfl rfl ?_) (by omega)))
  simp only [push_cast,seval,Za,hN0,hN]
 try simp only [Zh,Ze,↓reduceIte,Nat.reduceEqDiff]
 refine Zg [2,3] [true,true] ?_
 simp only [push_cast,seval]
 refine Zf ?_
 have g16:=Zvy (f:=(eI .u8)) z13 Zjy rfl (fun _=>rfl) rfl
 have g17:=Znu (f:=(eI .u8)) y3 z13 (fun _=>rfl)
 refine Zb Zc [] ?_
 simp only [push_cast,seval,Za,g16,g17,hN0,hN]
 refine Zg [2] [true,false] ?_
 simp only [push_cast,seval]
 refine Zu ?_
 try simp only [Zh,Ze]
 have h:=Option.some.inj h;subst h
 have gR0:=Zvy (f:=(eI .u8)) z13 Zjy rfl (fun _=>rfl) rfl
 refine Zl (.inr rfl) hU [.agg (fl (eI .u8) z13.1)] (by omega) ?_
 simp only [push_cast,seval,Za,Tryz.results105,hN0,hN,gR0]
theorem Zua {a0:Int} {a1:Int} {r:Int} {O:Objs} {n:Nat} (h:Zaw a0 a1=some r):GTo Tryz.prog 87 [.val (.int .u64 a0),.val (.int .u64 a1)] O n (.val (.int .u8 r)) O n:=by
 unfold Zaw at h
 refine Ye Zc Tryz.call87 Tryz.func87 rfl (Nat.le_of_ble_eq_true rfl) (Nat.le_refl _) fun hU => ?_
 have hN0:O n=none:=hU.fresh _ (Nat.le_refl _)
 have hN:∀ k,O (n+k)=none:=fun k=>hU.fresh _ (Nat.le_add_right _ _)
 show W _ _ _ _ ⟨24,[],[(0,.val (.int .u64 a0)),(1,.val (.int .u64 a1))]⟩ (Z3 O n []) _
 refine Zk [0,1] (Zb Zc [] ?_)
 simp only [push_cast,seval,Za,hN0,hN]
 refine Zk [0,1,5] (Zb Zc [] ?_)
 simp only [push_cast,seval,Za,hN0,hN]
 refine Zf ?_
 refine Zf ?_
 obtain ⟨y2,hy2,h⟩:=bC h
 refine Zb Zc [] ?_
 simp only [push_cast,seval,Za,hN0,hN]
 refine (Zvd hy2).then ?_
 simp only [push_cast,seval,Za,hN0,hN]
 refine Zg [5,11,12] [] ?_
 simp only [push_cast,seval]
 refine Zg [5,11,12] [] ?_
 simp only [push_cast,seval]
 obtain ⟨z9,hz9,h⟩:=bC h
 refine Xx (E':=⟨24,[],[(5,.val (.int .u8 z9))]⟩) (O':=(Z3 O n [])) (n0:=n) ?_ ?_
 ·refine Qt hz9 (fun s0_=>⟨24,[],[(5,.val (.int .u8 s0_.1)),(11,.agg (fl (eI .u8) y2.1)),(12,.val (.int .i64 s0_.2))]⟩) (fun s0_=>(Z3 O n [])) (fun z9=>JX 0 n (⟨24,[],[(5,.val (.int .u8 z9))]⟩:Env) (Z3 O n []) n) ?_
  intro s0_ x0_ hs0_
  unfold Zgo at hs0_
  try dsimp only
  refine Zk [5,11,12,13] (Zb Zc [] ?_)
  simp only [push_cast,seval,Za,hN0,hN]
  refine Zf ?_
  refine Zo (t:=(decide (s0_.2 < 8))) rfl (fun c8 => ?_) (fun c8 => ?_)
  ·replace hs0_:=Zw c8 hs0_
   refine Zt ?_
   try simp only [Zh,Ze]
   refine Zg [5,11,12] [] ?_
   simp only [push_cast,seval]
   obtain ⟨z3,hz3,hs0_⟩:=bC hs0_
   refine Yr (E':=⟨24,[],[(5,.val (.int .u8 z3)),(11,.agg (fl (eI .u8) y2.1)),(12,.val (.int .i64 s0_.2))]⟩) (O':=(Z3 O n [])) (n0:=n) ?_ ?_
   ·refine Yo ?_
    obtain ⟨u5,hu5,au5,bu5,cu5,hz3⟩:=bEA (f:=(eI .u8)) (b:=8) rfl Z1s (fun _=>rfl) (by decide) hz3
    refine Zk [5,6,7,11,12] (Zb Zc [] ?_)
    simp only [push_cast,seval,Za,au5,bu5,cu5,hN0,hN]
    refine Zk [5,6,11,12,17] (Zb Zc [] ?_)
    simp only [push_cast,seval,Za,hN0,hN]
    refine Zo (t:=(u5 != 0)) rfl (fun c7 => ?_) (fun c7 => ?_)
    ·replace hz3:=Zw c7 hz3
     obtain ⟨pu6,hz3⟩:=bG hz3
     refine Zb Zc [] ?_
     simp only [push_cast,seval,Za,pu6,hN0,hN]
     have hz3:=Option.some.inj hz3;subst hz3
     refine And.intro rfl (Fit2.of (Zm hU rfl rfl ?_) (by omega))
     simp only [push_cast,seval,Za,pu6,hN0,hN]
    replace hz3:=Zv c7 hz3
    refine Zt ?_
    try simp only [Zh,Ze]
    have hz3:=Option.some.inj hz3;subst hz3
    refine And.intro rfl (Fit2.of (Zm hU rfl rfl ?_) (by omega))
    simp only [push_cast,seval,Za,hN0,hN]
   refine Zb Zc [] ?_
   simp only [push_cast,seval,Za,hN0,hN]
   have hs0_:=Option.some.inj hs0_;subst hs0_
   refine And.intro rfl (Fit2.of (Zm hU rfl rfl ?_) (by omega))
   simp only [push_cast,seval,Za,hN0,hN]
  replace hs0_:=Zv c8 hs0_
  refine Q7 ?_
  try simp only [Zh,Ze,↓reduceIte,Nat.reduceEqDiff]
  have hs0_:=Option.some.inj hs0_;subst hs0_
  refine And.intro (fun h=>by cases h) (And.intro rfl (Fit2.of (Zm hU rfl rfl ?_) (by omega)))
  simp only [push_cast,seval,Za,hN0,hN]
 try simp only [Zh,Ze,↓reduceIte,Nat.reduceEqDiff]
 refine Zg [5] [] ?_
 simp only [push_cast,seval]
 refine Zk [4] (Zb Zc [] ?_)
 simp only [push_cast,seval,Za,hN0,hN]
 refine Zu ?_
 try simp only [Zh,Ze]
 have h:=Option.some.inj h;subst h
 refine Zl (.inr rfl) hU [.val (.int .u8 z9)] (by omega) ?_
 simp only [push_cast,seval,Za,Tryz.results87,hN0,hN]
theorem Zpi {a0:Int} {r:Int} {O:Objs} {n:Nat} (h:Zbh a0=some r):GTo Tryz.prog 88 [.val (.int .u8 a0)] O n (.val (.int .u64 r)) O n:=by
 unfold Zbh at h
 refine Ye Zc Tryz.call88 Tryz.func88 rfl (Nat.le_of_ble_eq_true rfl) (Nat.le_refl _) fun hU => ?_
 have hN0:O n=none:=hU.fresh _ (Nat.le_refl _)
 have hN:∀ k,O (n+k)=none:=fun k=>hU.fresh _ (Nat.le_add_right _ _)
 show W _ _ _ _ ⟨20,[],[(0,.val (.int .u8 a0))]⟩ (Z3 O n []) _
 refine Zk [0] (Zb Zc [] ?_)
 simp only [push_cast,seval,Za,hN0,hN]
 refine Zk [0,3] (Zb Zc [] ?_)
 simp only [push_cast,seval,Za,hN0,hN]
 refine Zf ?_
 refine Zk [0,3,5] (Zb Zc [] ?_)
 simp only [push_cast,seval,Za,hN0,hN]
 refine Zg [0,3,5] [] ?_
 simp only [push_cast,seval]
 obtain ⟨z7,hz7,h⟩:=bC h
 refine Xx (E':=⟨20,[],[(3,.val (.int .u64 z7))]⟩) (O':=(Z3 O n [])) (n0:=n) ?_ ?_
 ·refine Qt hz7 (fun s0_=>⟨20,[],[(0,.val (.int .u8 a0)),(3,.val (.int .u64 s0_.1)),(5,.val (.int .i64 s0_.2))]⟩) (fun s0_=>(Z3 O n [])) (fun z7=>JX 0 n (⟨20,[],[(3,.val (.int .u64 z7))]⟩:Env) (Z3 O n []) n) ?_
  intro s0_ x0_ hs0_
  unfold Zjg at hs0_
  try dsimp only
  refine Zk [0,3,5,6] (Zb Zc [] ?_)
  simp only [push_cast,seval,Za,hN0,hN]
  refine Zf ?_
  refine Zo (t:=(decide (s0_.2 < 8))) rfl (fun c6 => ?_) (fun c6 => ?_)
  ·replace hs0_:=Zw c6 hs0_
   refine Zt ?_
   try simp only [Zh,Ze]
   refine Zg [0,3,5] [] ?_
   simp only [push_cast,seval]
   obtain ⟨z1,hz1,hs0_⟩:=bC hs0_
   refine Yr (E':=⟨20,[],[(0,.val (.int .u8 a0)),(3,.val (.int .u64 z1)),(5,.val (.int .i64 s0_.2))]⟩) (O':=(Z3 O n [])) (n0:=n) ?_ ?_
   ·refine Yo ?_
    refine Zk [0,3,4,5] (Zb Zc [] ?_)
    simp only [push_cast,seval,Za,hN0,hN]
    obtain ⟨pu3,hz1⟩:=bG hz1
    refine Zk [0,3,4,5,12] (Zb Zc [] ?_)
    simp only [push_cast,seval,Za,pu3,hN0,hN]
    refine Zo (t:=((IntKind.u8.wrap (Vw .u8 (Int.fdiv a0 (2 ^ min (Int.toNat s0_.2) 8)) 1)) == 1)) rfl (fun c5 => ?_) (fun c5 => ?_)
    ·replace hz1:=Zw c5 hz1
     obtain ⟨pu4,hz1⟩:=bG hz1
     refine Zb Zc [] ?_
     simp only [push_cast,seval,Za,pu4,hN0,hN]
     have hz1:=Option.some.inj hz1;subst hz1
     refine And.intro rfl (Fit2.of (Zm hU rfl rfl ?_) (by omega))
     simp only [push_cast,seval,Za,pu4,hN0,hN]
    replace hz1:=Zv c5 hz1
    refine Zt ?_
    try simp only [Zh,Ze]
    have hz1:=Option.some.inj hz1;subst hz1
    refine And.intro rfl (Fit2.of (Zm hU rfl rfl ?_) (by omega))
    simp only [push_cast,seval,Za,hN0,hN]
   refine Zb Zc [] ?_
   simp only [push_cast,seval,Za,hN0,hN]
   have hs0_:=Option.some.inj hs0_;subst hs0_
   refine And.intro rfl (Fit2.of (Zm hU rfl rfl ?_) (by omega))
   simp only [push_cast,seval,Za,hN0,hN]
  replace hs0_:=Zv c6 hs0_
  refine Q7 ?_
  try simp only [Zh,Ze,↓reduceIte,Nat.reduceEqDiff]
  have hs0_:=Option.some.inj hs0_;subst hs0_
  refine And.intro (fun h=>by cases h) (And.intro rfl (Fit2.of (Zm hU rfl rfl ?_) (by omega)))
  simp only [push_cast,seval,Za,hN0,hN]
 try simp only [Zh,Ze,↓reduceIte,Nat.reduceEqDiff]
 refine Zg [3] [] ?_
 simp only [push_cast,seval]
 refine Zk [2] (Zb Zc [] ?_)
 simp only [push_cast,seval,Za,hN0,hN]
 refine Zu ?_
 try simp only [Zh,Ze]
 have h:=Option.some.inj h;subst h
 refine Zl (.inr rfl) hU [.val (.int .u64 z7)] (by omega) ?_
 simp only [push_cast,seval,Za,Tryz.results88,hN0,hN]
theorem Zph {a0:Int} {a1:Int} {a2:Int} {r:(Z8×Bool)} {O:Objs} {n:Nat} (h:Zc7 a0 a1 a2=some r):GTo Tryz.prog 64 [.val (.int .i64 a0),.val (.int .u64 a1),.val (.int .u64 a2)] O n (.tup [.agg (J3 r.1),.val (.bool r.2)]) O n:=by
 unfold Zc7 at h
 refine Ye Zc Tryz.call64 Tryz.func64 rfl (Nat.le_of_ble_eq_true rfl) (Nat.le_refl _) fun hU => ?_
 have hN0:O n=none:=hU.fresh _ (Nat.le_refl _)
 have hN:∀ k,O (n+k)=none:=fun k=>hU.fresh _ (Nat.le_add_right _ _)
 show W _ _ _ _ ⟨26,[],[(0,.val (.int .i64 a0)),(1,.val (.int .u64 a1)),(2,.val (.int .u64 a2))]⟩ (Z3 O n []) _
 refine Zk [0,1,2,6] (Zb Zc [] ?_)
 simp only [push_cast,seval,Za,hN0,hN]
 refine Zf ?_
 obtain ⟨y2,hy2,h⟩:=bC h
 refine Zb Zc [] ?_
 simp only [push_cast,seval,Za,hN0,hN]
 refine (Zua hy2).then ?_
 simp only [push_cast,seval,Za,hN0,hN]
 refine Zg [0,1,2,6,8] [true] ?_
 simp only [push_cast,seval]
 refine Zf ?_
 refine Zk [0,1,2,6,8,13] (Zb Zc [] ?_)
 simp only [push_cast,seval,Za,hN0,hN]
 refine Zo (t:=(y2 == 0)) rfl (fun c7 => ?_) (fun c7 => ?_)
 ·replace h:=Zw c7 h
  refine Zf ?_
  refine Zb Zc [] ?_
  simp only [push_cast,seval,Za,hN0,hN]
  refine Zg [6,7] [true] ?_
  simp only [push_cast,seval]
  refine Zu ?_
  try simp only [Zh,Ze]
  have h:=Option.some.inj h;subst h
  refine Zl (.inr rfl) hU [.agg [.val (.int .i64 0),.val (.int .u8 0),.val (.int .u64 0),.val (.int .u64 0)],.val (.bool false)] (by omega) ?_
  simp only [push_cast,seval,Za,Tryz.results64,hN0,hN]
 replace h:=Zv c7 h
 refine Zt ?_
 try simp only [Zh,Ze]
 refine Zg [0,1,2,6,8] [true] ?_
 simp only [push_cast,seval]
 refine Zf ?_
 obtain ⟨y5,hy5,h⟩:=bC h
 obtain ⟨y6,hy6,h⟩:=bC h
 refine Zb Zc [] ?_
 simp only [push_cast,seval,Za,hN0,hN]
 refine (Zpi hy5).then ?_
 simp only [push_cast,seval,Za,hN0,hN]
 refine (Zpi hy6).then ?_
 simp only [push_cast,seval,Za,hN0,hN]
 refine Zg [6,7] [true] ?_
 simp only [push_cast,seval]
 refine Zu ?_
 try simp only [Zh,Ze]
 have h:=Option.some.inj h;subst h
 refine Zl (.inr rfl) hU [.agg [.val (.int .i64 a0),.val (.int .u8 y2),.val (.int .u64 (IntKind.u64.wrap (Vw .u64 a1 y5))),.val (.int .u64 (IntKind.u64.wrap (Vw .u64 a2 y6)))],.val (.bool true)] (by omega) ?_
 simp only [push_cast,seval,Za,Tryz.results64,hN0,hN]
theorem Zf0 {a0:Xw} {a1:Zd} {a2:Zd} {r:(Yv×Int×Xw)} {O:Objs} {n:Nat} {i0:Nat} (hi0:i0 < n) (ho0:O i0=some ⟨false,71,2,1,[.val (.int .i64 a0.most_),.val (.int .i64 a0.left)]⟩) (h:Ji a0 a1 a2=some r):GTo Tryz.prog 42 [.ref i0 0,.agg (Zi a1),.agg (Zi a2)] O n (.tup [.agg (Xu r.1),.val (.int .i64 r.2.1)]) (Z3 (O.upd i0 (some ⟨false,71,2,1,[.val (.int .i64 r.2.2.most_),.val (.int .i64 r.2.2.left)]⟩)) n []) (n+0):=by
 unfold Ji at h
 refine Ye Zc Tryz.call42 Tryz.func42 rfl (Nat.le_of_ble_eq_true rfl) (by omega) fun hU => ?_
 rw [show Z3 O n []=Z3 (O.upd i0 (some ⟨false,71,2,1,[.val (.int .i64 a0.most_),.val (.int .i64 a0.left)]⟩)) n [] from by rw [Zj3 (show O i0=_ from by exact ho0)]]
 have hk0:∀ k,i0 < n+k:=fun k=>by omega
 have hN0:∀ o,Objs.upd O i0 o n=none:=fun o=>Zbk hU hi0 _ (Nat.le_refl _)
 have hN:∀ o k,Objs.upd O i0 o (n+k)=none:=fun o k=>Zbk hU hi0 _ (Nat.le_add_right _ _)
 show W _ _ _ _ ⟨76,[],[(0,.ref i0 0),(1,.agg (Zi a1)),(2,.agg (Zi a2))]⟩ (Z3 (O.upd i0 (some ⟨false,71,2,1,[.val (.int .i64 a0.most_),.val (.int .i64 a0.left)]⟩)) n []) _
 refine Zk [0,4,5,6] (Zb Zc [] ?_)
 simp only [push_cast,seval,Za,hi0,hk0,hN0,hN]
 refine Zf ?_
 refine Zb Zc [] ?_
 simp only [push_cast,seval,Za,hi0,hk0,hN0,hN]
 refine Zg [0,4,5,6,8] [true,true,true,true] ?_
 simp only [push_cast,seval]
 refine Zf ?_
 refine Zf ?_
 obtain ⟨y3,hy3,h⟩:=bC h
 obtain ⟨y4,hy4,h⟩:=bC h
 refine Y8 Zc (by kernel_rfl) [] (by kernel_rfl) ?_
 simp only [push_cast,seval,Za,hi0,hk0,hN0,hN]
 refine PCall.of (Zdq hy3) ?_
 simp only [push_cast,seval,Za,hi0,hk0,hN0,hN]
 refine PCall.of (Zdq hy4) ?_
 simp only [push_cast,seval,Za,hi0,hk0,hN0,hN]
 refine Zg [0,4,5,6,8,20,21] [true,true,true,true] ?_
 simp only [push_cast,seval]
 refine Zg [0,4,5,6,8,20,21] [true,true,true,true] ?_
 simp only [push_cast,seval]
 refine Zh5 (E':=(⟨76,[],[(0,.ref i0 0),(4,.ref n 0),(5,.ref (n+1) 0),(6,.ref (n+2) 0),(8,.ref (n+3) 0),(20,.val (.int .i64 (if y3 < y4 then y4 else y3))),(21,.val (.int .i64 0))]⟩:Env)) (O':=(Z3 (O.upd i0 (some ⟨false,71,2,1,[.val (.int .i64 a0.most_),.val (.int .i64 a0.left)]⟩)) n [some ⟨false,46,9,1,(Zi a1)⟩,some ⟨false,46,9,1,(Zi a2)⟩,some ⟨false,40,11,1,[.val (.int .i64 0),.val (.int .i64 0),.val (.slice none 0 0),.val (.slice none 0 0),.val (.int .i64 0),.val (.slice none 0 0),.val (.slice none 0 0),.val (.slice none 0 0),.val (.slice none 0 0),.val (.int .i64 0),.val (.slice none 0 0)]⟩,some ⟨false,40,11,1,[.val (.int .i64 2),.val (.int .i64 0),.val (.slice none 0 0),.val (.slice none 0 0),.val (.int .i64 0),.val (.slice none 0 0),.val (.slice none 0 0),.row (n+4) ([]:List Z8).length,.val (.slice none 0 0),.val (.int .i64 0),.val (.slice none 0 0)]⟩,some ⟨true,57,4,([]:List Z8).length,fl Zy ([]:List Z8)⟩,none])) (n':=(n+6)) ?_ ?_
 ·refine Fit2.trans (E':=(⟨76,[],[(0,.ref i0 0),(4,.ref n 0),(5,.ref (n+1) 0),(6,.ref (n+2) 0),(8,.ref (n+3) 0),(20,.val (.int .i64 (if y3 < y4 then y4 else y3))),(21,.val (.int .i64 0))]⟩:Env)) (O':=(Z3 (O.upd i0 (some ⟨false,71,2,1,[.val (.int .i64 a0.most_),.val (.int .i64 a0.left)]⟩)) n [some ⟨false,46,9,1,(Zi a1)⟩,some ⟨false,46,9,1,(Zi a2)⟩,some ⟨false,40,11,1,[.val (.int .i64 0),.val (.int .i64 0),.val (.slice none 0 0),.val (.slice none 0 0),.val (.int .i64 0),.val (.slice none 0 0),.val (.slice none 0 0),.val (.slice none 0 0),.val (.slice none 0 0),.val (.int .i64 0),.val (.slice none 0 0)]⟩,some ⟨false,40,11,1,[.val (.int .i64 2),.val (.int .i64 0),.val (.slice none 0 0),.val (.slice none 0 0),.val (.int .i64 0),.val (.slice none 0 0),.val (.slice none 0 0),.val (.slice none 0 0),.val (.slice none 0 0),.val (.int .i64 0),.val (.slice none 0 0)]⟩])) (n':=(n+4)) (Fit2.of (Xq hU rfl rfl ?_) (by omega)) ?_
  ·simp only [push_cast,seval,Za,hi0,hk0,hN0,hN]
  refine Fit2.trans (Zeb (p:=(n+3)) (k:=7) (q:=⟨false,40,11,1,[.val (.int .i64 2),.val (.int .i64 0),.val (.slice none 0 0),.val (.slice none 0 0),.val (.int .i64 0),.val (.slice none 0 0),.val (.slice none 0 0),.val (.slice none 0 0),.val (.slice none 0 0),.val (.int .i64 0),.val (.slice none 0 0)]⟩) 57 4 (by simp only [Uz,Zdn,List.getElem?_cons_zero,List.getElem?_cons_succ,Option.join_some,List.length_nil]) rfl (by omega)) ?_
  simp only [Gn,K2,Zbm,List.set_cons_zero,List.set_cons_succ,List.cons_append,List.nil_append,List.length_cons,List.length_nil,Nat.zero_add,Nat.reduceAdd,Nat.reduceLT,Nat.add_assoc,hi0,hk0,hN0,hN]
  refine Ge (k:=5) (k':=6) hU [0,1,2,3,4] [0,1,2,3,4,0] rfl rfl rfl rfl ⟨rfl,rfl⟩ ?_
  simp only [push_cast,seval,Za,hi0,hk0,hN0,hN]
 obtain ⟨z15,hz15,h⟩:=bC h
 refine Xx (E':=⟨76,[],[(0,.ref i0 0),(4,.ref n 0),(5,.ref (n+1) 0),(6,.ref (n+2) 0),(8,.ref (n+3) 0)]⟩) (O':=(Z3 (O.upd i0 (some ⟨false,71,2,1,[.val (.int .i64 a0.most_),.val (.int .i64 a0.left)]⟩)) n [some ⟨false,46,9,1,(Zi a1)⟩,some ⟨false,46,9,1,(Zi a2)⟩,some ⟨false,40,11,1,[.val (.int .i64 0),.val (.int .i64 0),.val (.slice none 0 0),.val (.slice none 0 0),.val (.int .i64 0),.val (.slice none 0 0),.val (.slice none 0 0),.val (.slice none 0 0),.val (.slice none 0 0),.val (.int .i64 0),.val (.slice none 0 0)]⟩,some ⟨false,40,11,1,[.val (.int .i64 2),.val (.int .i64 0),.val (.slice none 0 0),.val (.slice none 0 0),.val (.int .i64 0),.val (.slice none 0 0),.val (.slice none 0 0),.row (n+4) z15.length,.val (.slice none 0 0),.val (.int .i64 0),.val (.slice none 0 0)]⟩,some ⟨true,57,4,z15.length,fl Zy z15⟩,none])) (n0:=(n+6)) ?_ ?_
 ·refine Qt hz15 (fun s0_=>⟨76,[],[(0,.ref i0 0),(4,.ref n 0),(5,.ref (n+1) 0),(6,.ref (n+2) 0),(8,.ref (n+3) 0),(20,.val (.int .i64 (if y3 < y4 then y4 else y3))),(21,.val (.int .i64 s0_.1))]⟩) (fun s0_=>(Z3 (O.upd i0 (some ⟨false,71,2,1,[.val (.int .i64 a0.most_),.val (.int .i64 a0.left)]⟩)) n [some ⟨false,46,9,1,(Zi a1)⟩,some ⟨false,46,9,1,(Zi a2)⟩,some ⟨false,40,11,1,[.val (.int .i64 0),.val (.int .i64 0),.val (.slice none 0 0),.val (.slice none 0 0),.val (.int .i64 0),.val (.slice none 0 0),.val (.slice none 0 0),.val (.slice none 0 0),.val (.slice none 0 0),.val (.int .i64 0),.val (.slice none 0 0)]⟩,some ⟨false,40,11,1,[.val (.int .i64 2),.val (.int .i64 0),.val (.slice none 0 0),.val (.slice none 0 0),.val (.int .i64 0),.val (.slice none 0 0),.val (.slice none 0 0),.row (n+4) s0_.2.length,.val (.slice none 0 0),.val (.int .i64 0),.val (.slice none 0 0)]⟩,some ⟨true,57,4,s0_.2.length,fl Zy s0_.2⟩,none])) (fun z15=>JX 0 n (⟨76,[],[(0,.ref i0 0),(4,.ref n 0),(5,.ref (n+1) 0),(6,.ref (n+2) 0),(8,.ref (n+3) 0)]⟩:Env) (Z3 (O.upd i0 (some ⟨false,71,2,1,[.val (.int .i64 a0.most_),.val (.int .i64 a0.left)]⟩)) n [some ⟨false,46,9,1,(Zi a1)⟩,some ⟨false,46,9,1,(Zi a2)⟩,some ⟨false,40,11,1,[.val (.int .i64 0),.val (.int .i64 0),.val (.slice none 0 0),.val (.slice none 0 0),.val (.int .i64 0),.val (.slice none 0 0),.val (.slice none 0 0),.val (.slice none 0 0),.val (.slice none 0 0),.val (.int .i64 0),.val (.slice none 0 0)]⟩,some ⟨false,40,11,1,[.val (.int .i64 2),.val (.int .i64 0),.val (.slice none 0 0),.val (.slice none 0 0),.val (.int .i64 0),.val (.slice none 0 0),.val (.slice none 0 0),.row (n+4) z15.length,.val (.slice none 0 0),.val (.int .i64 0),.val (.slice none 0 0)]⟩,some ⟨true,57,4,z15.length,fl Zy z15⟩,none]) (n+6)) ?_
  intro s0_ x0_ hs0_
  unfold Qp at hs0_
  try dsimp only
  refine Zk [0,4,5,6,8,20,21,22] (Zb Zc [] ?_)
  simp only [push_cast,seval,Za,hi0,hk0,hN0,hN]
  refine Zf ?_
  refine Zo (t:=(decide (s0_.1 < (if y3 < y4 then y4 else y3)))) rfl (fun c14 => ?_) (fun c14 => ?_)
  ·replace hs0_:=Zw c14 hs0_
   refine Zt ?_
   try simp only [Zh,Ze]
   refine Zg [0,4,5,6,8,20,21] [true,true,true,true,true,false] ?_
   simp only [push_cast,seval]
   obtain ⟨z5,hz5,hs0_⟩:=bC hs0_
   refine Yr (E':=⟨76,[],[(0,.ref i0 0),(4,.ref n 0),(5,.ref (n+1) 0),(6,.ref (n+2) 0),(8,.ref (n+3) 0),(20,.val (.int .i64 (if y3 < y4 then y4 else y3))),(21,.val (.int .i64 s0_.1))]⟩) (O':=(Z3 (O.upd i0 (some ⟨false,71,2,1,[.val (.int .i64 a0.most_),.val (.int .i64 a0.left)]⟩)) n [some ⟨false,46,9,1,(Zi a1)⟩,some ⟨false,46,9,1,(Zi a2)⟩,some ⟨false,40,11,1,[.val (.int .i64 0),.val (.int .i64 0),.val (.slice none 0 0),.val (.slice none 0 0),.val (.int .i64 0),.val (.slice none 0 0),.val (.slice none 0 0),.val (.slice none 0 0),.val (.slice none 0 0),.val (.int .i64 0),.val (.slice none 0 0)]⟩,some ⟨false,40,11,1,[.val (.int .i64 2),.val (.int .i64 0),.val (.slice none 0 0),.val (.slice none 0 0),.val (.int .i64 0),.val (.slice none 0 0),.val (.slice none 0 0),.row (n+4) z5.length,.val (.slice none 0 0),.val (.int .i64 0),.val (.slice none 0 0)]⟩,some ⟨true,57,4,z5.length,fl Zy z5⟩,none,none,none])) (n0:=(n+8)) ?_ ?_
   ·refine Yo ?_
    refine Zk [0,4,5,6,8,9,20,21] (Zb Zc [] ?_)
    simp only [push_cast,seval,Za,hi0,hk0,hN0,hN]
    refine Zf ?_
    obtain ⟨y9,hy9,hz5⟩:=bC hz5
    obtain ⟨y10,hy10,hz5⟩:=bC hz5
    obtain ⟨y11,hy11,hz5⟩:=bC hz5
    refine Zbo Zc (by kernel_rfl) [.plain,.low,.plain,.low,.low,.plain,.low,.low,.plain,.plain,.plain,.pass,.bar,.plain] (fun i=>i < (n+6)) [0,1,2,3,4,5,6,7,8,9,10,11,12,13] [.plain,.low,.plain,.low,.low,.plain,.low,.low,.plain,.plain,.plain,.pass,.bar,.plain] [] (by kernel_rfl) rfl ?_
    simp only [push_cast,seval,Za,hi0,hk0,hN0,hN]
    repeat (with_reducible refine And.intro (by first | omega | exact Xb rfl | exact Yw | exact X7 rfl | exact Qm rfl rfl | exact Y9 rfl | exact Y2 rfl) ?_)
    first | refine PCallA.of (fun _ _=>Jc hy9) ?_ | refine PCall.of (Jc hy9) ?_
    simp only [push_cast,seval,Za,hi0,hk0,hN0,hN]
    repeat (with_reducible refine And.intro (by first | omega | exact Xb rfl | exact Yw | exact X7 rfl | exact Qm rfl rfl | exact Y9 rfl | exact Y2 rfl) ?_)
    first | refine PCallA.of (fun _ _=>Jc hy10) ?_ | refine PCall.of (Jc hy10) ?_
    simp only [push_cast,seval,Za,hi0,hk0,hN0,hN]
    repeat (with_reducible refine And.intro (by first | omega | exact Xb rfl | exact Yw | exact X7 rfl | exact Qm rfl rfl | exact Y9 rfl | exact Y2 rfl) ?_)
    first | refine PCallA.of (fun _ _=>Zph hy11) ?_ | refine PCall.of (Zph hy11) ?_
    simp only [push_cast,seval,Za,hi0,hk0,hN0,hN]
    repeat (with_reducible refine And.intro (by first | omega | exact Xb rfl | exact Yw | exact X7 rfl | exact Qm rfl rfl | exact Y9 rfl | exact Y2 rfl) ?_)
    refine Zg [0,4,5,6,8,10,11,20,21] [true,true,true,true,true,false,true] ?_
    simp only [push_cast,seval]
    refine Zk [0,4,5,6,8,10,20,21,35] (Zb Zc [] ?_)
    simp only [push_cast,seval,Za,hi0,hk0,hN0,hN]
    refine Zo (t:=y11.2) rfl (fun U7 => ?_) (fun U7 => ?_)
    ·replace hz5:=Zw U7 hz5
     obtain ⟨l12,pl12,ql12,el12,hz5⟩:=bA (k:=1) rfl hz5
     refine Zb Zc [] ?_
     simp only [push_cast,seval,Za,pl12,ql12,el12,hi0,hk0,hN0,hN]
     have hz5:=Option.some.inj hz5;subst hz5
     refine And.intro rfl (Fit2.of (Xq hU rfl rfl ?_) (by omega))
     simp only [push_cast,seval,Za,pl12,ql12,el12,hi0,hk0,hN0,hN]
    replace hz5:=Zv U7 hz5
    refine Zt ?_
    try simp only [Zh,Ze]
    have hz5:=Option.some.inj hz5;subst hz5
    refine And.intro rfl (Fit2.of (Xq hU rfl rfl ?_) (by omega))
    simp only [push_cast,seval,Za,hi0,hk0,hN0,hN]
   refine Zb Zc [] ?_
   simp only [push_cast,seval,Za,hi0,hk0,hN0,hN]
   have hs0_:=Option.some.inj hs0_;subst hs0_
   refine And.intro rfl (Fit2.of (Xq hU rfl rfl ?_) (by omega))
   simp only [push_cast,seval,Za,hi0,hk0,hN0,hN]
  replace hs0_:=Zv c14 hs0_
  refine Q7 ?_
  try simp only [Zh,Ze,↓reduceIte,Nat.reduceEqDiff]
  have hs0_:=Option.some.inj hs0_;subst hs0_
  refine And.intro (fun h=>by cases h) (And.intro rfl (Fit2.of (Xq hU rfl rfl ?_) (by omega)))
  simp only [push_cast,seval,Za,hi0,hk0,hN0,hN]
 try simp only [Zh,Ze,↓reduceIte,Nat.reduceEqDiff]
 refine Zg [0,4,5,6,8] [true,true,true,true,true,false] ?_
 simp only [push_cast,seval]
 refine Zf ?_
 refine Zf ?_
 obtain ⟨y18,hy18,h⟩:=bC h
 obtain ⟨y19,hy19,h⟩:=bC h
 refine Y8 Zc (by kernel_rfl) [] (by kernel_rfl) ?_
 simp only [push_cast,seval,Za,hi0,hk0,hN0,hN]
 refine PCall.of (Vf hy18) ?_
 simp only [push_cast,seval,Za,hi0,hk0,hN0,hN]
 refine PCall.of (Vf hy19) ?_
 simp only [push_cast,seval,Za,hi0,hk0,hN0,hN]
 refine Zg [0,4,5,6,8,47,48] [true,true,true,true,true,false] ?_
 simp only [push_cast,seval]
 refine Zg [0,4,5,6,8,47,48] [true,true,true,true,true,false] ?_
 simp only [push_cast,seval]
 obtain ⟨z21,hz21,h⟩:=bC h
 refine Xx (E':=⟨76,[],[(6,.ref (n+2) 0),(8,.ref (n+3) 0)]⟩) (O':=(Z3 (O.upd i0 (some ⟨false,71,2,1,[.val (.int .i64 a0.most_),.val (.int .i64 a0.left)]⟩)) n [none,none,some ⟨false,40,11,1,[.val (.int .i64 0),.val (.int .i64 0),.val (.slice none 0 0),.val (.slice none 0 0),.val (.int .i64 0),.val (.slice none 0 0),.val (.slice none 0 0),.val (.slice none 0 0),.val (.slice none 0 0),.val (.int .i64 0),.val (.slice none 0 0)]⟩,some ⟨false,40,11,1,[.val (.int .i64 2),.val (.int .i64 0),.val (.slice none 0 0),.val (.slice none 0 0),.val (.int .i64 0),.val (.slice none 0 0),.val (.slice none 0 0),.row (n+4) z15.length,.val (.slice none 0 0),.val (.int .i64 0),.val (.slice none 0 0)]⟩,some ⟨true,57,4,z15.length,fl Zy z15⟩,none])) (n0:=(n+6)) ?_ ?_
 ·refine Qt hz21 (fun s1_=>⟨76,[],[(0,.ref i0 0),(4,.ref n 0),(5,.ref (n+1) 0),(6,.ref (n+2) 0),(8,.ref (n+3) 0),(47,.val (.int .i64 (if y18 < y19 then y19 else y18))),(48,.val (.int .i64 0))]⟩) (fun s1_=>(Z3 (O.upd i0 (some ⟨false,71,2,1,[.val (.int .i64 a0.most_),.val (.int .i64 a0.left)]⟩)) n [some ⟨false,46,9,1,(Zi a1)⟩,some ⟨false,46,9,1,(Zi a2)⟩,some ⟨false,40,11,1,[.val (.int .i64 0),.val (.int .i64 0),.val (.slice none 0 0),.val (.slice none 0 0),.val (.int .i64 0),.val (.slice none 0 0),.val (.slice none 0 0),.val (.slice none 0 0),.val (.slice none 0 0),.val (.int .i64 0),.val (.slice none 0 0)]⟩,some ⟨false,40,11,1,[.val (.int .i64 2),.val (.int .i64 0),.val (.slice none 0 0),.val (.slice none 0 0),.val (.int .i64 0),.val (.slice none 0 0),.val (.slice none 0 0),.row (n+4) z15.length,.val (.slice none 0 0),.val (.int .i64 0),.val (.slice none 0 0)]⟩,some ⟨true,57,4,z15.length,fl Zy z15⟩,none])) (fun z21=>JX 2 n (⟨76,[],[(6,.ref (n+2) 0),(8,.ref (n+3) 0)]⟩:Env) (Z3 (O.upd i0 (some ⟨false,71,2,1,[.val (.int .i64 a0.most_),.val (.int .i64 a0.left)]⟩)) n [none,none,some ⟨false,40,11,1,[.val (.int .i64 0),.val (.int .i64 0),.val (.slice none 0 0),.val (.slice none 0 0),.val (.int .i64 0),.val (.slice none 0 0),.val (.slice none 0 0),.val (.slice none 0 0),.val (.slice none 0 0),.val (.int .i64 0),.val (.slice none 0 0)]⟩,some ⟨false,40,11,1,[.val (.int .i64 2),.val (.int .i64 0),.val (.slice none 0 0),.val (.slice none 0 0),.val (.int .i64 0),.val (.slice none 0 0),.val (.slice none 0 0),.row (n+4) z15.length,.val (.slice none 0 0),.val (.int .i64 0),.val (.slice none 0 0)]⟩,some ⟨true,57,4,z15.length,fl Zy z15⟩,none]) (n+6)) ?_
  intro s1_ x1_ hs1_
  unfold Vd at hs1_
  try dsimp only
  refine Zk [0,4,5,6,8,47,48,49] (Zb Zc [] ?_)
  simp only [push_cast,seval,Za,hi0,hk0,hN0,hN]
  refine Zf ?_
  refine Zo (t:=(decide (0 < (if y18 < y19 then y19 else y18)))) rfl (fun c20 => ?_) (fun c20 => ?_)
  ·replace hs1_:=Zw c20 hs1_
   refine Zt ?_
   try simp only [Zh,Ze]
   refine Zg [0,4,5,6,8,47,48] [true,true,true,true,true,false] ?_
   simp only [push_cast,seval]
   refine Zf ?_
   refine Yo ?_
   refine Zk [0,4,5,6,8,12,47,48] (Zb Zc [] ?_)
   simp only [push_cast,seval,Za,hi0,hk0,hN0,hN]
   refine Zf ?_
   cases hs1_
  replace hs1_:=Zv c20 hs1_
  refine Q7 ?_
  try simp only [Zh,Ze,↓reduceIte,Nat.reduceEqDiff]
  have hs1_:=Option.some.inj hs1_;subst hs1_
  refine And.intro (fun h=>by cases h) (And.intro rfl (Fit2.of (Xq hU rfl rfl ?_) (by omega)))
  simp only [push_cast,seval,Za,hi0,hk0,hN0,hN]
 try simp only [Zh,Ze,↓reduceIte,Nat.reduceEqDiff]
 refine Zg [6,8] [false,false,true,true,true,false] ?_
 simp only [push_cast,seval]
 refine Zf ?_
 refine Zb Zc [] ?_
 simp only [push_cast,seval,Za,hi0,hk0,hN0,hN]
 refine Zg [6,7] [false,false,true,false,true,false] ?_
 simp only [push_cast,seval]
 refine Zu ?_
 try simp only [Zh,Ze]
 have h:=Option.some.inj h;subst h
 refine Gr (k:=0) (i:=i0) (q1:=⟨false,71,2,1,[.val (.int .i64 a0.most_),.val (.int .i64 a0.left)]⟩) (L3:=[some ⟨false,40,11,1,[.val (.int .i64 2),.val (.int .i64 0),.val (.slice none 0 0),.val (.slice none 0 0),.val (.int .i64 0),.val (.slice none 0 0),.val (.slice none 0 0),.row (n+1) z15.length,.val (.slice none 0 0),.val (.int .i64 0),.val (.slice none 0 0)]⟩,some ⟨true,57,4,z15.length,fl Zy z15⟩,none]) (E2:=(⟨76,[],[(6,.ref n 0),(7,.val (.int .i64 0))]⟩:Env)) (n3:=(n+3)) (.inr rfl) hU rfl [.agg [.val (.int .i64 2),.val (.int .i64 0),.val (.slice none 0 0),.val (.slice none 0 0),.val (.int .i64 0),.val (.slice none 0 0),.val (.slice none 0 0),.row (n+1) z15.length,.val (.slice none 0 0),.val (.int .i64 0),.val (.slice none 0 0)],.val (.int .i64 0)] ?_ ?_
 ·refine Fit2.trans (E':=(⟨76,[],[(6,.ref (n+2) 0),(7,.val (.int .i64 0))]⟩:Env)) (O':=(Z3 (O.upd i0 (some ⟨false,71,2,1,[.val (.int .i64 a0.most_),.val (.int .i64 a0.left)]⟩)) n [none,none,some ⟨false,40,11,1,[.val (.int .i64 2),.val (.int .i64 0),.val (.slice none 0 0),.val (.slice none 0 0),.val (.int .i64 0),.val (.slice none 0 0),.val (.slice none 0 0),.row (n+4) z15.length,.val (.slice none 0 0),.val (.int .i64 0),.val (.slice none 0 0)]⟩,none,some ⟨true,57,4,z15.length,fl Zy z15⟩,none])) (n':=(n+6)) (Fit2.of (Xq hU rfl rfl ?_) (by omega)) ?_
  ·simp only [push_cast,seval,Za,hi0,hk0,hN0,hN]
  refine Ge (k:=6) (k':=3) hU [2,2,0,2,1,2] [2,4,0] rfl rfl rfl rfl ⟨rfl,rfl⟩ ?_
  simp only [push_cast,seval,Za,hi0,hk0,hN0,hN]
 simp only [push_cast,seval,Za,Tryz.results42,hi0,hk0,hN0,hN]
theorem Zyr {a0:Int} {r:Bool} {O:Objs} {n:Nat} (h:Zjf a0=some r):GTo Tryz.prog 43 [.val (.int .i64 a0)] O n (.val (.bool r)) O n:=by
 unfold Zjf at h
 refine Ye Zc Tryz.call43 Tryz.func43 rfl (Nat.le_of_ble_eq_true rfl) (Nat.le_refl _) fun hU => ?_
 have hN0:O n=none:=hU.fresh _ (Nat.le_refl _)
 have hN:∀ k,O (n+k)=none:=fun k=>hU.fresh _ (Nat.le_add_right _ _)
 show W _ _ _ _ ⟨9,[],[(0,.val (.int .i64 a0))]⟩ (Z3 O n []) _
 refine Zk [0] (Zb Zc [] ?_)
 simp only [push_cast,seval,Za,hN0,hN]
 refine Zk [2] (Zb Zc [none,none] ?_)
 simp only [push_cast,seval,Za,hN0,hN]
 repeat (with_reducible refine And.intro (by first | (intro h0;simp only [h0];done) | (intro h0;simp only [h0,true_and,and_true,imp_self,implies_true,ne_eq];done) | (intros;simp_all;done) | exact True.intro) ?_)
 refine Zu ?_
 try simp only [Zh,Ze]
 have h:=Option.some.inj h;subst h
 refine Zl (.inr rfl) hU [.val (.bool (cond (decide (2≤a0)) (decide (a0≤9)) false))] (by omega) ?_
 simp only [push_cast,seval,Za,Tryz.results43,hN0,hN]
theorem Zfz {a0:Xw} {a1:Zd} {a2:Zd} {r:(Yv×Int×Xw)} {O:Objs} {n:Nat} {i0:Nat} (hi0:i0 < n) (ho0:O i0=some ⟨false,71,2,1,[.val (.int .i64 a0.most_),.val (.int .i64 a0.left)]⟩) (h:Jh a0 a1 a2=some r):GTo Tryz.prog 20 [.ref i0 0,.agg (Zi a1),.agg (Zi a2)] O n (.tup [.agg (Xu r.1),.val (.int .i64 r.2.1)]) (Z3 (O.upd i0 (some ⟨false,71,2,1,[.val (.int .i64 r.2.2.most_),.val (.int .i64 r.2.2.left)]⟩)) n []) (n+0):=by
 unfold Jh at h
 refine Ye Zc Tryz.call20 Tryz.func20 rfl (Nat.le_of_ble_eq_true rfl) (by omega) fun hU => ?_
 rw [show Z3 O n []=Z3 (O.upd i0 (some ⟨false,71,2,1,[.val (.int .i64 a0.most_),.val (.int .i64 a0.left)]⟩)) n [] from by rw [Zj3 (show O i0=_ from by exact ho0)]]
 have hk0:∀ k,i0 < n+k:=fun k=>by omega
 have hN0:∀ o,Objs.upd O i0 o n=none:=fun o=>Zbk hU hi0 _ (Nat.le_refl _)
 have hN:∀ o k,Objs.upd O i0 o (n+k)=none:=fun o k=>Zbk hU hi0 _ (Nat.le_add_right _ _)
 show W _ _ _ _ ⟨74,[],[(0,.ref i0 0),(1,.agg (Zi a1)),(2,.agg (Zi a2))]⟩ (Z3 (O.upd i0 (some ⟨false,71,2,1,[.val (.int .i64 a0.most_),.val (.int .i64 a0.left)]⟩)) n []) _
 refine Zk [0,4,5,6] (Zb Zc [] ?_)
 simp only [push_cast,seval,Za,hi0,hk0,hN0,hN]
 refine Zf ?_
 refine Zk [0,4,5,6,14] (Zb Zc [] ?_)
 simp only [push_cast,seval,Za,hi0,hk0,hN0,hN]
 refine Zo (t:=(a0.left == 0)) rfl (fun c30 => ?_) (fun c30 => ?_)
 ·replace h:=Zw c30 h
  refine Zf ?_
  refine Zb Zc [] ?_
  simp only [push_cast,seval,Za,hi0,hk0,hN0,hN]
  refine Zg [6,7] [false,false,true] ?_
  simp only [push_cast,seval]
  refine Zu ?_
  try simp only [Zh,Ze]
  have h:=Option.some.inj h;subst h
  refine Gr (k:=0) (i:=i0) (q1:=⟨false,71,2,1,[.val (.int .i64 a0.most_),.val (.int .i64 a0.left)]⟩) (L3:=[some ⟨false,40,11,1,[.val (.int .i64 0),.val (.int .i64 0),.val (.slice none 0 0),.val (.slice none 0 0),.val (.int .i64 0),.val (.slice none 0 0),.val (.slice none 0 0),.val (.slice none 0 0),.val (.slice none 0 0),.val (.int .i64 0),.val (.slice none 0 0)]⟩,none]) (E2:=(⟨74,[],[(6,.ref n 0),(7,.val (.int .i64 3))]⟩:Env)) (n3:=(n+2)) (.inr rfl) hU rfl [.agg [.val (.int .i64 0),.val (.int .i64 0),.val (.slice none 0 0),.val (.slice none 0 0),.val (.int .i64 0),.val (.slice none 0 0),.val (.slice none 0 0),.val (.slice none 0 0),.val (.slice none 0 0),.val (.int .i64 0),.val (.slice none 0 0)],.val (.int .i64 3)] ?_ ?_
  ·refine Fit2.trans (E':=(⟨74,[],[(6,.ref (n+2) 0),(7,.val (.int .i64 3))]⟩:Env)) (O':=(Z3 (O.upd i0 (some ⟨false,71,2,1,[.val (.int .i64 a0.most_),.val (.int .i64 a0.left)]⟩)) n [none,none,some ⟨false,40,11,1,[.val (.int .i64 0),.val (.int .i64 0),.val (.slice none 0 0),.val (.slice none 0 0),.val (.int .i64 0),.val (.slice none 0 0),.val (.slice none 0 0),.val (.slice none 0 0),.val (.slice none 0 0),.val (.int .i64 0),.val (.slice none 0 0)]⟩])) (n':=(n+3)) (Fit2.of (Xq hU rfl rfl ?_) (by omega)) ?_
   ·simp only [push_cast,seval,Za,hi0,hk0,hN0,hN]
   refine Ge (k:=3) (k':=2) hU [1,1,0] [2,0] rfl rfl rfl rfl ⟨rfl,rfl⟩ ?_
   simp only [push_cast,seval,Za,hi0,hk0,hN0,hN]
  simp only [push_cast,seval,Za,Tryz.results20,hi0,hk0,hN0,hN]
 replace h:=Zv c30 h
 refine Zt ?_
 try simp only [Zh,Ze]
 refine Zg [0,4,5,6] [true,true,true] ?_
 simp only [push_cast,seval]
 refine Zf ?_
 refine Zb Zc [] ?_
 simp only [push_cast,seval,Za,hi0,hk0,hN0,hN]
 refine Zg [0,4,5,6] [true,true,true] ?_
 simp only [push_cast,seval]
 refine Zf ?_
 obtain ⟨y2,hy2,h⟩:=bC h
 refine Zb Zc [] ?_
 simp only [push_cast,seval,Za,hi0,hk0,hN0,hN]
 refine (Zsn hy2).then ?_
 simp only [push_cast,seval,Za,hi0,hk0,hN0,hN]
 refine Zg [0,4,5,6,8,9] [true,true,true] ?_
 simp only [push_cast,seval]
 refine Zf ?_
 refine Yo ?_
 refine Zk [0,4,5,6,9,29] (Zb Zc [none,none] ?_)
 simp only [push_cast,seval,Za,hi0,hk0,hN0,hN]
 repeat (with_reducible refine And.intro (by first | (intro h0;simp only [h0];done) | (intro h0;simp only [h0,true_and,and_true,imp_self,implies_true,ne_eq];done) | (intros;simp_all;done) | exact True.intro) ?_)
 refine Zo (t:=(cond y2.1 true (y2.2 != 0))) rfl (fun c29 => ?_) (fun c29 => ?_)
 ·replace h:=Zw c29 h
  refine Zf ?_
  refine Zb Zc [] ?_
  simp only [push_cast,seval,Za,hi0,hk0,hN0,hN]
  refine Zg [6,7] [false,false,true] ?_
  simp only [push_cast,seval]
  refine Zu ?_
  try simp only [Zh,Ze]
  have h:=Option.some.inj h;subst h
  refine Gr (k:=0) (i:=i0) (q1:=⟨false,71,2,1,[.val (.int .i64 a0.most_),.val (.int .i64 (IntKind.i64.wrap (a0.left - 1)))]⟩) (L3:=[some ⟨false,40,11,1,[.val (.int .i64 0),.val (.int .i64 0),.val (.slice none 0 0),.val (.slice none 0 0),.val (.int .i64 0),.val (.slice none 0 0),.val (.slice none 0 0),.val (.slice none 0 0),.val (.slice none 0 0),.val (.int .i64 0),.val (.slice none 0 0)]⟩,none]) (E2:=(⟨74,[],[(6,.ref n 0),(7,.val (.int .i64 y2.2))]⟩:Env)) (n3:=(n+2)) (.inr rfl) hU rfl [.agg [.val (.int .i64 0),.val (.int .i64 0),.val (.slice none 0 0),.val (.slice none 0 0),.val (.int .i64 0),.val (.slice none 0 0),.val (.slice none 0 0),.val (.slice none 0 0),.val (.slice none 0 0),.val (.int .i64 0),.val (.slice none 0 0)],.val (.int .i64 y2.2)] ?_ ?_
  ·refine Fit2.trans (E':=(⟨74,[],[(6,.ref (n+2) 0),(7,.val (.int .i64 y2.2))]⟩:Env)) (O':=(Z3 (O.upd i0 (some ⟨false,71,2,1,[.val (.int .i64 a0.most_),.val (.int .i64 (IntKind.i64.wrap (a0.left - 1)))]⟩)) n [none,none,some ⟨false,40,11,1,[.val (.int .i64 0),.val (.int .i64 0),.val (.slice none 0 0),.val (.slice none 0 0),.val (.int .i64 0),.val (.slice none 0 0),.val (.slice none 0 0),.val (.slice none 0 0),.val (.slice none 0 0),.val (.int .i64 0),.val (.slice none 0 0)]⟩])) (n':=(n+3)) (Fit2.of (Xq hU rfl rfl ?_) (by omega)) ?_
   ·simp only [push_cast,seval,Za,hi0,hk0,hN0,hN]
   refine Ge (k:=3) (k':=2) hU [1,1,0] [2,0] rfl rfl rfl rfl ⟨rfl,rfl⟩ ?_
   simp only [push_cast,seval,Za,hi0,hk0,hN0,hN]
  simp only [push_cast,seval,Za,Tryz.results20,hi0,hk0,hN0,hN]
 replace h:=Zv c29 h
 obtain ⟨z5,hz5,h⟩:=bC h
 refine Yr (E':=⟨74,[],[(0,.ref i0 0),(4,.ref n 0),(5,.ref (n+1) 0),(6,.ref (n+2) 0),(37,.val (.bool z5))]⟩) (O':=(Z3 (O.upd i0 (some ⟨false,71,2,1,[.val (.int .i64 a0.most_),.val (.int .i64 (IntKind.i64.wrap (a0.left - 1)))]⟩)) n [some ⟨false,46,9,1,(Zi a1)⟩,some ⟨false,46,9,1,(Zi a2)⟩,some ⟨false,40,11,1,[.val (.int .i64 0),.val (.int .i64 0),.val (.slice none 0 0),.val (.slice none 0 0),.val (.int .i64 0),.val (.slice none 0 0),.val (.slice none 0 0),.val (.slice none 0 0),.val (.slice none 0 0),.val (.int .i64 0),.val (.slice none 0 0)]⟩])) (n0:=(n+3)) ?_ ?_
 ·obtain ⟨y8,hy8,hz5⟩:=bC hz5
  rcases Bool.eq_false_or_eq_true (y8 == 1) with Gi | Gi
  ·replace hz5:=Zw Gi hz5
   obtain ⟨y9,hy9,hz5⟩:=bC hz5
   refine Zb Zc (Z58 []) ?_
   simp only [push_cast,seval,Za,Gi,hi0,hk0,hN0,hN]
   refine (Yp hy8).then ?_
   simp only [push_cast,seval,Za,Gi,hi0,hk0,hN0,hN]
   refine (Yp hy9).then ?_
   simp only [push_cast,seval,Za,Gi,hi0,hk0,hN0,hN]
   have hz5:=Option.some.inj hz5;subst hz5
   refine And.intro rfl (Fit2.of (Xq hU rfl rfl ?_) (by omega))
   simp only [push_cast,seval,Za,Gi,hi0,hk0,hN0,hN]
  replace hz5:=Zv Gi hz5
  refine Zb Zc (Z8z []) ?_
  simp only [push_cast,seval,Za,Gi,hi0,hk0,hN0,hN]
  refine (Yp hy8).then ?_
  simp only [push_cast,seval,Za,Gi,hi0,hk0,hN0,hN]
  have hz5:=Option.some.inj hz5;subst hz5
  refine And.intro rfl (Fit2.of (Xq hU rfl rfl ?_) (by omega))
  simp only [push_cast,seval,Za,Gi,hi0,hk0,hN0,hN]
 refine Zo (t:=z5) rfl (fun c28 => ?_) (fun c28 => ?_)
 ·replace h:=Zw c28 h
  refine Zf ?_
  obtain ⟨y12,hy12,h⟩:=bC h
  refine Zb Zc [] ?_
  simp only [push_cast,seval,Za,hi0,hk0,hN0,hN]
  refine (Zf0 (i0:=i0) (by omega) (by simp only [push_cast,seval,Za,Zde,hi0,hk0,hN0,hN] <;> rfl) hy12).then ?_
  simp only [push_cast,seval,Za,hi0,hk0,hN0,hN]
  refine Zg [6,7] [false,false,true] ?_
  simp only [push_cast,seval]
  refine Zu ?_
  try simp only [Zh,Ze]
  have h:=Option.some.inj h;subst h
  refine Gr (k:=0) (i:=i0) (q1:=⟨false,71,2,1,[.val (.int .i64 y12.2.2.most_),.val (.int .i64 y12.2.2.left)]⟩) (L3:=[some ⟨false,40,11,1,(Xu y12.1)⟩,none]) (E2:=(⟨74,[],[(6,.ref n 0),(7,.val (.int .i64 y12.2.1))]⟩:Env)) (n3:=(n+2)) (.inr rfl) hU rfl [.agg (Xu y12.1),.val (.int .i64 y12.2.1)] ?_ ?_
  ·refine Fit2.trans (E':=(⟨74,[],[(6,.ref (n+2) 0),(7,.val (.int .i64 y12.2.1))]⟩:Env)) (O':=(Z3 (O.upd i0 (some ⟨false,71,2,1,[.val (.int .i64 y12.2.2.most_),.val (.int .i64 y12.2.2.left)]⟩)) n [none,none,some ⟨false,40,11,1,(Xu y12.1)⟩])) (n':=(n+3)) (Fit2.of (Xq hU rfl rfl ?_) (by omega)) ?_
   ·simp only [push_cast,seval,Za,hi0,hk0,hN0,hN]
   refine Ge (k:=3) (k':=2) hU [1,1,0] [2,0] rfl rfl rfl rfl ⟨rfl,rfl⟩ ?_
   simp only [push_cast,seval,Za,hi0,hk0,hN0,hN]
  simp only [push_cast,seval,Za,Tryz.results20,hi0,hk0,hN0,hN]
 replace h:=Zv c28 h
 obtain ⟨z17,hz17,h⟩:=bC h
 refine Yr (E':=⟨74,[],[(0,.ref i0 0),(4,.ref n 0),(5,.ref (n+1) 0),(6,.ref (n+2) 0),(52,.val (.bool z17))]⟩) (O':=(Z3 (O.upd i0 (some ⟨false,71,2,1,[.val (.int .i64 a0.most_),.val (.int .i64 (IntKind.i64.wrap (a0.left - 1)))]⟩)) n [some ⟨false,46,9,1,(Zi a1)⟩,some ⟨false,46,9,1,(Zi a2)⟩,some ⟨false,40,11,1,[.val (.int .i64 0),.val (.int .i64 0),.val (.slice none 0 0),.val (.slice none 0 0),.val (.int .i64 0),.val (.slice none 0 0),.val (.slice none 0 0),.val (.slice none 0 0),.val (.slice none 0 0),.val (.int .i64 0),.val (.slice none 0 0)]⟩])) (n0:=(n+3)) ?_ ?_
 ·obtain ⟨y22,hy22,hz17⟩:=bC hz17
  obtain ⟨y23,hy23,hz17⟩:=bC hz17
  rcases Bool.eq_false_or_eq_true (y22 == y23) with c26 | c26
  ·replace hz17:=Zw c26 hz17
   all_goals
    obtain ⟨y24,hy24,hz17⟩:=bC hz17
    obtain ⟨y25,hy25,hz17⟩:=bC hz17
    refine Y8 Zc (by kernel_rfl) (Z58 []) (by kernel_rfl) ?_
    simp only [push_cast,seval,Za,c26,hi0,hk0,hN0,hN]
    refine PCall.of (Yp hy22) ?_
    simp only [push_cast,seval,Za,c26,hi0,hk0,hN0,hN]
    refine PCall.of (Yp hy23) ?_
    simp only [push_cast,seval,Za,c26,hi0,hk0,hN0,hN]
    refine PCall.of (Yp hy24) ?_
    simp only [push_cast,seval,Za,c26,hi0,hk0,hN0,hN]
    refine PCall.of (Zyr hy25) ?_
    simp only [push_cast,seval,Za,c26,hi0,hk0,hN0,hN]
    have hz17:=Option.some.inj hz17;subst hz17
    refine And.intro rfl (Fit2.of (Xq hU rfl rfl ?_) (by omega))
    simp only [push_cast,seval,Za,c26,hi0,hk0,hN0,hN]
  replace hz17:=Zv c26 hz17
  all_goals
   refine Y8 Zc (by kernel_rfl) (Z8z []) (by kernel_rfl) ?_
   simp only [push_cast,seval,Za,c26,hi0,hk0,hN0,hN]
   refine PCall.of (Yp hy22) ?_
   simp only [push_cast,seval,Za,c26,hi0,hk0,hN0,hN]
   refine PCall.of (Yp hy23) ?_
   simp only [push_cast,seval,Za,c26,hi0,hk0,hN0,hN]
   have hz17:=Option.some.inj hz17;subst hz17
   refine And.intro rfl (Fit2.of (Xq hU rfl rfl ?_) (by omega))
   simp only [push_cast,seval,Za,c26,hi0,hk0,hN0,hN]
 refine Zo (t:=z17) rfl (fun c27 => ?_) (fun c27 => ?_)
 ·replace h:=Zw c27 h
  refine Zf ?_
  cases h
 replace h:=Zv c27 h
 refine Zt ?_
 try simp only [Zh,Ze]
 refine Zg [4,5,6] [true,true,true] ?_
 simp only [push_cast,seval]
 refine Zf ?_
 cases h
theorem Gb {a0 r:List Z8} {O:Objs} {n:Nat} (h:Qg a0=some r):GTo Tryz.prog 47 [.sl a0.length (fl Zy a0)] O n (.row n r.length) (Z3 O n [some ⟨true,57,4,r.length,fl Zy r⟩]) (n+1):=by
 have h1:=Zxr h
 have h2:=Zxs h
 have h3:=Zsw h
 rw [List.nil_append] at h3
 subst h3
 simp only [List.length_nil,Nat.zero_add] at h1 h2
 clear h
 refine Ye Zc Tryz.call47 Tryz.func47 rfl (Nat.le_of_ble_eq_true rfl) (by omega) fun hU => ?_
 have hN0:O n=none:=hU.fresh _ (Nat.le_refl _)
 have hN:∀ k,O (n+k)=none:=fun k=>hU.fresh _ (Nat.le_add_right _ _)
 show W _ _ _ _ ⟨8,[],[(0,.sl r.length (fl Zy r))]⟩ (Z3 O n []) _
 refine Zk [0] (Zb Zc [] ?_)
 simp only [push_cast,seval,Za,hN0,hN]
 refine Z7b 0 r.length (fl Zy r) rfl (Nat.le_of_ble_eq_true rfl) (X6 Ui _) fun A c hA => ?_
 refine Zk [0,4] (Zb Zc [] ?_)
 simp only [push_cast,seval,Za,hN0,hN]
 cases A with
 | none =>
  obtain rfl:r=[]:=List.eq_nil_of_length_eq_zero (hA rfl)
  refine Zo (t:=true) rfl (fun _ => ?_) (fun hc=>by cases hc)
  refine Zk [2] (Zb Zc [] ?_)
  simp only [push_cast,seval,Za,hN0,hN]
  refine Zu ?_
  try simp only [Zh,Ze]
  refine Ztg (k:=1) (L3:=[some ⟨true,57,4,0,[]⟩]) (E2:=⟨8,[],[(2,.row n 0),(2,.val (.slice none 0 0))]⟩) (n3:=(n+1)) (.inr rfl) hU rfl [.row n 0] ?_ ?_
  ·have ha:=Zj7 (ba:=n) (E:=⟨8,[],[(2,.val (.slice none 0 0))]⟩) (O:=(Z3 O n [])) (n:=n) 2 57 4 rfl (by omega)
   simp only [K2] at ha
   exact ha
  simp only [push_cast,seval,Za,Tryz.results47,hN0,hN]
 | some A =>
  refine Zo (t:=false) rfl (fun hc=>by cases hc) (fun _ => ?_)
  refine Zt ?_
  try simp only [Zh,Ze]
  refine And.intro rfl (And.intro (Nat.le_of_ble_eq_true rfl) ?_)
  refine Zf ?_
  refine Zb Zc [] ?_
  simp only [push_cast,seval,Za,h1,h2,hN0,hN]
  refine Zu ?_
  try simp only [Zh,Ze]
  refine Zz2 (.inr rfl) hU rfl [.row n r.length] (by omega) ?_
  simp only [push_cast,seval,Za,Tryz.results47,hN0,hN]
theorem Zt8 {a0:Yv} {r:Yv} {O:Objs} {n:Nat} (h:Gf a0=some r):GTo Tryz.prog 21 [.agg (Xu a0)] O n (.agg (Xu r)) O n:=by
 unfold Gf at h
 refine Ye Zc Tryz.call21 Tryz.func21 rfl (Nat.le_of_ble_eq_true rfl) (Nat.le_refl _) fun hU => ?_
 have hN0:O n=none:=hU.fresh _ (Nat.le_refl _)
 have hN:∀ k,O (n+k)=none:=fun k=>hU.fresh _ (Nat.le_add_right _ _)
 show W _ _ _ _ ⟨54,[],[(0,.agg (Xu a0))]⟩ (Z3 O n []) _
 refine Zk [1,2] (Zb Zc [] ?_)
 simp only [push_cast,seval,Za,hN0,hN]
 refine Zf ?_
 refine Zk [1,2,7] (Zb Zc [] ?_)
 simp only [push_cast,seval,Za,hN0,hN]
 refine Yo ?_
 refine Zk [1,2,7,8] (Zb Zc [] ?_)
 simp only [push_cast,seval,Za,hN0,hN]
 refine Zo (t:=(a0.Kind == 1)) rfl (fun c9 => ?_) (fun c9 => ?_)
 ·replace h:=Zw c9 h
  refine Zf ?_
  cases h
 replace h:=Zv c9 h
 refine Zk [1,2,7,17] (Zb Zc [] ?_)
 simp only [push_cast,seval,Za,hN0,hN]
 refine Zo (t:=(a0.Kind == 2)) rfl (fun c8 => ?_) (fun c8 => ?_)
 ·replace h:=Zw c8 h
  refine Zf ?_
  obtain ⟨y2,hy2,h⟩:=bC h
  refine Zb Zc [] ?_
  simp only [push_cast,seval,Za,hN0,hN]
  refine (Gb  hy2).then ?_
  simp only [push_cast,seval,Za,hN0,hN]
  refine Zg [1,2,3] [true,true,true,true] ?_
  simp only [push_cast,seval]
  refine Zf ?_
  refine Zk [2,3,24,25,26] (Zb Zc [] ?_)
  simp only [push_cast,seval,Za,hN0,hN]
  refine Zg [2,3,24,25,26] [false,true,true,true] ?_
  simp only [push_cast,seval]
  obtain ⟨z6,hz6,h⟩:=bC h
  refine Xx (E':=⟨54,[],[(2,.ref (n+1) 0),(3,.ref (n+3) 0)]⟩) (O':=(Z3 O n [none,some ⟨false,40,11,1,[.val (.int .i64 0),.val (.int .i64 0),.val (.slice none 0 0),.val (.slice none 0 0),.val (.int .i64 0),.val (.slice none 0 0),.val (.slice none 0 0),.val (.slice none 0 0),.val (.slice none 0 0),.val (.int .i64 0),.val (.slice none 0 0)]⟩,some ⟨true,57,4,y2.length,fl Zy y2⟩,some ⟨false,40,11,1,[.val (.int .i64 2),.val (.int .i64 0),.val (.slice none 0 0),.val (.slice none 0 0),.val (.int .i64 0),.val (.slice none 0 0),.val (.slice none 0 0),.row (n+2) y2.length,.val (.slice none 0 0),.val (.int .i64 0),.val (.slice none 0 0)]⟩])) (n0:=(n+4)) ?_ ?_
  ·refine Qt hz6 (fun s0_=>⟨54,[],[(2,.ref (n+1) 0),(3,.ref (n+3) 0),(24,.sl a0.Kids.length (fl Yu a0.Kids)),(25,.val (.int .i64 (a0.Kids.length:Int))),(26,.val (.int .i64 0))]⟩) (fun s0_=>(Z3 O n [none,some ⟨false,40,11,1,[.val (.int .i64 0),.val (.int .i64 0),.val (.slice none 0 0),.val (.slice none 0 0),.val (.int .i64 0),.val (.slice none 0 0),.val (.slice none 0 0),.val (.slice none 0 0),.val (.slice none 0 0),.val (.int .i64 0),.val (.slice none 0 0)]⟩,some ⟨true,57,4,y2.length,fl Zy y2⟩,some ⟨false,40,11,1,[.val (.int .i64 2),.val (.int .i64 0),.val (.slice none 0 0),.val (.slice none 0 0),.val (.int .i64 0),.val (.slice none 0 0),.val (.slice none 0 0),.row (n+2) y2.length,.val (.slice none 0 0),.val (.int .i64 0),.val (.slice none 0 0)]⟩])) (fun z6=>JX 1 n (⟨54,[],[(2,.ref (n+1) 0),(3,.ref (n+3) 0)]⟩:Env) (Z3 O n [none,some ⟨false,40,11,1,[.val (.int .i64 0),.val (.int .i64 0),.val (.slice none 0 0),.val (.slice none 0 0),.val (.int .i64 0),.val (.slice none 0 0),.val (.slice none 0 0),.val (.slice none 0 0),.val (.slice none 0 0),.val (.int .i64 0),.val (.slice none 0 0)]⟩,some ⟨true,57,4,y2.length,fl Zy y2⟩,some ⟨false,40,11,1,[.val (.int .i64 2),.val (.int .i64 0),.val (.slice none 0 0),.val (.slice none 0 0),.val (.int .i64 0),.val (.slice none 0 0),.val (.slice none 0 0),.row (n+2) y2.length,.val (.slice none 0 0),.val (.int .i64 0),.val (.slice none 0 0)]⟩]) (n+4)) ?_
   intro s0_ x0_ hs0_
   unfold Zgn at hs0_
   try dsimp only
   refine Zk [2,3,24,25,26,27] (Zb Zc [] ?_)
   simp only [push_cast,seval,Za,hN0,hN]
   refine Zf ?_
   refine Zo (t:=(decide (0 < (a0.Kids.length:Int)))) rfl (fun c5 => ?_) (fun c5 => ?_)
   ·replace hs0_:=Zw c5 hs0_
    refine Zt ?_
    try simp only [Zh,Ze]
    refine Zg [2,3,24,25,26] [false,true,true,true] ?_
    simp only [push_cast,seval]
    refine Zf ?_
    refine Yo ?_
    refine Zf ?_
    obtain ⟨x4,hx4,ax4,bx4,cx4,hs0_⟩:=bE (f:=Yu) Zoe (fun _=>rfl) (by decide) hs0_
    refine Zb Zc [] ?_
    simp only [push_cast,Nat.reduceAdd,Nat.reduceSub,Nat.reduceMul,Nat.reduceLeDiff,Nat.reduceLT,Nat.reduceEqDiff,↓reduceIte,reduceCtorEq,Int.reduceBEq,Int.reduceBNe,Nat.reduceBEq,Int.reduceLE,Int.reduceLT,Int.reduceEq,Int.reduceNe,Int.reduceNeg,Nat.reduceDiv,Nat.reduceMod,Nat.reducePow,Za,ax4,bx4,cx4,hN0,hN]
    refine Zg [2,3,5,24,25,26] [false,true,true,true,true] ?_
    simp only [push_cast,seval]
    cases hs0_
   replace hs0_:=Zv c5 hs0_
   refine Q7 ?_
   try simp only [Zh,Ze,↓reduceIte,Nat.reduceEqDiff]
   have hs0_:=Option.some.inj hs0_;subst hs0_
   refine And.intro (fun h=>by cases h) (And.intro rfl (Fit2.of (Zm hU rfl rfl ?_) (by omega)))
   simp only [push_cast,seval,Za,hN0,hN]
  try simp only [Zh,Ze,↓reduceIte,Nat.reduceEqDiff]
  refine Zg [2,3] [false,true,true,true] ?_
  simp only [push_cast,seval]
  refine Zf ?_
  refine Zb Zc [] ?_
  simp only [push_cast,seval,Za,hN0,hN]
  refine Zg [2] [false,true,true,false] ?_
  simp only [push_cast,seval]
  refine Zu ?_
  try simp only [Zh,Ze]
  have h:=Option.some.inj h;subst h
  refine Zl (.inr rfl) hU [.agg [.val (.int .i64 2),.val (.int .i64 0),.val (.slice none 0 0),.val (.slice none 0 0),.val (.int .i64 0),.val (.slice none 0 0),.val (.slice none 0 0),.row (n+2) y2.length,.val (.slice none 0 0),.val (.int .i64 0),.val (.slice none 0 0)]] (by omega) ?_
  simp only [push_cast,seval,Za,Tryz.results21,hN0,hN]
 replace h:=Zv c8 h
 refine Zk [1,2,43] (Zb Zc [] ?_)
 simp only [push_cast,seval,Za,hN0,hN]
 refine Zo (t:=(a0.Kind == 3)) rfl (fun c7 => ?_) (fun c7 => ?_)
 ·replace h:=Zw c7 h
  refine Zf ?_
  cases h
 replace h:=Zv c7 h
 refine Zt ?_
 try simp only [Zh,Ze]
 refine Zg [2] [false,true] ?_
 simp only [push_cast,seval]
 refine Zf ?_
 refine Zb Zc [] ?_
 simp only [push_cast,seval,Za,hN0,hN]
 refine Zg [2] [false,true] ?_
 simp only [push_cast,seval]
 refine Zu ?_
 try simp only [Zh,Ze]
 have h:=Option.some.inj h;subst h
 refine Zl (.inr rfl) hU [.agg [.val (.int .i64 0),.val (.int .i64 0),.val (.slice none 0 0),.val (.slice none 0 0),.val (.int .i64 0),.val (.slice none 0 0),.val (.slice none 0 0),.val (.slice none 0 0),.val (.slice none 0 0),.val (.int .i64 0),.val (.slice none 0 0)]] (by omega) ?_
 simp only [push_cast,seval,Za,Tryz.results21,hN0,hN]
theorem Us {a0:Zd} {a1:Zd} {a2:Int} {r:(Yv×Int)} {O:Objs} {n:Nat} (h:Q5 a0 a1 a2=some r):GTo Tryz.prog 9 [.agg (Zi a0),.agg (Zi a1),.val (.int .i64 a2)] O n (.tup [.agg (Xu r.1),.val (.int .i64 r.2)]) O n:=by
 unfold Q5 at h
 refine Ye Zc Tryz.call9 Tryz.func9 rfl (Nat.le_of_ble_eq_true rfl) (Nat.le_refl _) fun hU => ?_
 have hN0:O n=none:=hU.fresh _ (Nat.le_refl _)
 have hN:∀ k,O (n+k)=none:=fun k=>hU.fresh _ (Nat.le_add_right _ _)
 show W _ _ _ _ ⟨25,[],[(0,.agg (Zi a0)),(1,.agg (Zi a1)),(2,.val (.int .i64 a2))]⟩ (Z3 O n []) _
 refine Zk [2,3,4,6] (Zb Zc [] ?_)
 simp only [push_cast,seval,Za,hN0,hN]
 refine Zf ?_
 refine Zb Zc [] ?_
 simp only [push_cast,seval,Za,hN0,hN]
 refine Zg [3,4,6,8] [true,true,true,true] ?_
 simp only [push_cast,seval]
 refine Zf ?_
 obtain ⟨y2,hy2,h⟩:=bC h
 refine Zb Zc [] ?_
 simp only [push_cast,seval,Za,hN0,hN]
 refine (Zfz (i0:=(n+3)) (by omega) (by simp only [push_cast,seval,Za,Zde,hN0,hN] <;> rfl) hy2).then ?_
 simp only [push_cast,seval,Za,hN0,hN]
 refine Zg [6,9,10] [false,false,true,false,true] ?_
 simp only [push_cast,seval]
 refine Zf ?_
 refine Zk [6,9,10,20] (Zb Zc [] ?_)
 simp only [push_cast,seval,Za,hN0,hN]
 refine Zo (t:=(y2.2.1 != 0)) rfl (fun c5 => ?_) (fun c5 => ?_)
 ·replace h:=Zw c5 h
  refine Zf ?_
  refine Zb Zc [] ?_
  simp only [push_cast,seval,Za,hN0,hN]
  refine Zg [6,7] [false,false,true,false,false] ?_
  simp only [push_cast,seval]
  refine Zu ?_
  try simp only [Zh,Ze]
  have h:=Option.some.inj h;subst h
  refine Zl (.inr rfl) hU [.agg [.val (.int .i64 0),.val (.int .i64 0),.val (.slice none 0 0),.val (.slice none 0 0),.val (.int .i64 0),.val (.slice none 0 0),.val (.slice none 0 0),.val (.slice none 0 0),.val (.slice none 0 0),.val (.int .i64 0),.val (.slice none 0 0)],.val (.int .i64 y2.2.1)] (by omega) ?_
  simp only [push_cast,seval,Za,Tryz.results9,hN0,hN]
 replace h:=Zv c5 h
 refine Zt ?_
 try simp only [Zh,Ze]
 refine Zg [6,9] [false,false,true,false,true] ?_
 simp only [push_cast,seval]
 refine Zf ?_
 obtain ⟨y4,hy4,h⟩:=bC h
 refine Zb Zc [] ?_
 simp only [push_cast,seval,Za,hN0,hN]
 refine (Zt8 hy4).then ?_
 simp only [push_cast,seval,Za,hN0,hN]
 refine Zg [6,7] [false,false,true,false,false] ?_
 simp only [push_cast,seval]
 refine Zu ?_
 try simp only [Zh,Ze]
 have h:=Option.some.inj h;subst h
 refine Zl (.inr rfl) hU [.agg (Xu y4),.val (.int .i64 0)] (by omega) ?_
 simp only [push_cast,seval,Za,Tryz.results9,hN0,hN]
theorem Zao  {r:Bool} {O:Objs} {n:Nat} (h:Q9=some r):GTo Tryz.prog 7 [] O n (.val (.bool r)) O n:=by
 unfold Q9 at h
 refine Ye Zc Tryz.call7 Tryz.func7 rfl (Nat.le_of_ble_eq_true rfl) (Nat.le_refl _) fun hU => ?_
 have hN0:O n=none:=hU.fresh _ (Nat.le_refl _)
 have hN:∀ k,O (n+k)=none:=fun k=>hU.fresh _ (Nat.le_add_right _ _)
 show W _ _ _ _ ⟨34,[],[]⟩ (Z3 O n []) _
 refine Zk [] (Zb Zc [] ?_)
 simp only [push_cast,seval,Za,hN0,hN]
 refine Zf ?_
 obtain ⟨y4,hy4,h⟩:=bC h
 obtain ⟨y5,hy5,h⟩:=bC h
 obtain ⟨y6,hy6,h⟩:=bC h
 refine Zb Zc [] ?_
 simp only [push_cast,seval,Za,hN0,hN]
 refine GCalls.dropL (l':=[none,none]) hU rfl ?_ ((Xp hy4).then ?_)
 ·simp only [push_cast,seval,Za,hN0,hN]
 simp only [push_cast,seval,Za,hN0,hN]
 refine GCalls.dropL (l':=[none,none,none,none]) hU rfl ?_ ((Xp hy5).then ?_)
 ·simp only [push_cast,seval,Za,hN0,hN]
 simp only [push_cast,seval,Za,hN0,hN]
 refine (Us hy6).then ?_
 simp only [push_cast,seval,Za,hN0,hN]
 refine Zg [1,2] [false,false,false,false,true] ?_
 simp only [push_cast,seval]
 obtain ⟨z8,hz8,h⟩:=bC h
 refine Yr (E':=⟨34,[],[(0,.val (.bool z8))]⟩) (O':=(Z3 O n [none,none,none,none,none])) (n0:=(n+5)) ?_ ?_
 ·rcases Bool.eq_false_or_eq_true (y6.2 == 0) with Kl | Kl
  ·replace hz8:=Zw Kl hz8
   rcases Bool.eq_false_or_eq_true (y6.1.Kind == 2) with Ux | Ux
   ·replace hz8:=Zw Ux hz8
    try rw [Ux] at Kl
    rcases Bool.eq_false_or_eq_true ((y6.1.Words.length:Int) == 1) with U7 | U7
    ·replace hz8:=Zw U7 hz8
     try rw [U7] at Kl
     try rw [U7] at Ux
     obtain ⟨x10,hx10,ax10,bx10,cx10,hz8⟩:=bE (f:=Zy) Zuq (fun _=>rfl) (by decide) hz8
     refine Zb Zc (Ybl (Yfu [])) ?_
     simp only [push_cast,Nat.reduceAdd,Nat.reduceSub,Nat.reduceMul,Nat.reduceLeDiff,Nat.reduceLT,Nat.reduceEqDiff,↓reduceIte,reduceCtorEq,Int.reduceBEq,Int.reduceBNe,Nat.reduceBEq,Int.reduceLE,Int.reduceLT,Int.reduceEq,Int.reduceNe,Int.reduceNeg,Nat.reduceDiv,Nat.reduceMod,Nat.reducePow,Za,Kl,Ux,U7,ax10,bx10,cx10,hN0,hN]
     repeat (with_reducible refine And.intro (by first | (intro h0;simp only [h0];done) | (intro h0;simp only [h0,Bool.and_true,true_and,and_true,imp_self,implies_true,ne_eq];done) | (intros;simp_all;done) | exact True.intro) ?_)
     have hz8:=Option.some.inj hz8;subst hz8
     refine And.intro rfl (Fit2.of (Zm hU rfl rfl ?_) (by omega))
     simp only [push_cast,Nat.reduceAdd,Nat.reduceSub,Nat.reduceMul,Nat.reduceLeDiff,Nat.reduceLT,Nat.reduceEqDiff,↓reduceIte,reduceCtorEq,Int.reduceBEq,Int.reduceBNe,Nat.reduceBEq,Int.reduceLE,Int.reduceLT,Int.reduceEq,Int.reduceNe,Int.reduceNeg,Nat.reduceDiv,Nat.reduceMod,Nat.reducePow,Za,Kl,Ux,U7,ax10,bx10,cx10,hN0,hN]
    replace hz8:=Zv U7 hz8
    try rw [U7] at Kl
    try rw [U7] at Ux
    refine Zb Zc (Ybl (Ybi [])) ?_
    simp only [push_cast,seval,Za,Kl,Ux,U7,hN0,hN]
    repeat (with_reducible refine And.intro (by first | (intro h0;simp only [h0];done) | (intro h0;simp only [h0,Bool.and_true,true_and,and_true,imp_self,implies_true,ne_eq];done) | (intros;simp_all;done) | exact True.intro) ?_)
    have hz8:=Option.some.inj hz8;subst hz8
    refine And.intro rfl (Fit2.of (Zm hU rfl rfl ?_) (by omega))
    simp only [push_cast,seval,Za,Kl,Ux,U7,hN0,hN]
   replace hz8:=Zv Ux hz8
   try rw [Ux] at Kl
   refine Zb Zc (Ybl (Ybi [])) ?_
   simp only [push_cast,seval,Za,Kl,Ux,hN0,hN]
   repeat (with_reducible refine And.intro (by first | (intro h0;simp only [h0];done) | (intro h0;simp only [h0,Bool.and_true,true_and,and_true,imp_self,implies_true,ne_eq];done) | (intros;simp_all;done) | exact True.intro) ?_)
   have hz8:=Option.some.inj hz8;subst hz8
   refine And.intro rfl (Fit2.of (Zm hU rfl rfl ?_) (by omega))
   simp only [push_cast,seval,Za,Kl,Ux,hN0,hN]
  replace hz8:=Zv Kl hz8
  refine Zb Zc (Ybl (Ybi [])) ?_
  simp only [push_cast,seval,Za,Kl,hN0,hN]
  repeat (with_reducible refine And.intro (by first | (intro h0;simp only [h0];done) | (intro h0;simp only [h0,Bool.and_true,true_and,and_true,imp_self,implies_true,ne_eq];done) | (intros;simp_all;done) | exact True.intro) ?_)
  have hz8:=Option.some.inj hz8;subst hz8
  refine And.intro rfl (Fit2.of (Zm hU rfl rfl ?_) (by omega))
  simp only [push_cast,seval,Za,Kl,hN0,hN]
 refine Zu ?_
 try simp only [Zh,Ze]
 have h:=Option.some.inj h;subst h
 refine Zl (.inr rfl) hU [.val (.bool z8)] (by omega) ?_
 simp only [push_cast,seval,Za,Tryz.results7,hN0,hN]
end Go.Proofs.YtmjjjfamipncdaaGreat
