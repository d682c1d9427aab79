/- Part SM4 of this seat's mirrors: functions of the seat's program, and the plain functions that they are; each theorem bears its own conditions. -/
import Derived.Test.YtmpkfolcikhofaaSE
import Derived.Test.YtmpkfolcikhofaaSM3
namespace Go.Proofs.Ytmpkfolcikhofaa
open Go.RowKit
set_option linter.unusedVariables false
set_option linter.unusedSimpArgs false
set_option maxRecDepth 100000
set_option maxHeartbeats 1000000
attribute [local push_cast] Zf V2 Ye Zd Jn Zlv Zlu Zmb Zma Zk Zh Zip Zd8 Zd7 onW Xm Zbk Zaz Zlz Zky Zfr evS wok Qc Op.operands Call.operands gop onK onP atK List.all_cons List.all_nil Bool.and_true Bool.true_and Bool.and_self Value.oneCell' List.take_zero List.take_succ_cons List.take_nil List.drop_zero List.drop_succ_cons List.drop_nil List.append_nil Nat.add_zero Nat.zero_add V0 Yf ev Qs Zkx Zts Zox Zow Ztx Zfv Za2 Zfi Za9 Zgg Zdk Vr Ziq Zd9 Gg Zfj Gh Zhe Zfu Zp5 bLo bHi bMx Za3 Zhd Ztt Zft Zhz Zcu Ud Zom Zty Zfg Zt1 Za1 Zu9 Qq Zhg gone Zi9 Zep Zeo pop TK.isAgg G.one G.under G.unders List.getD_cons_zero List.getD_cons_succ List.set_cons_zero List.set_cons_succ List.map_cons List.map_nil List.toList_toArray Array.toList_append Option.toArray_none Option.toArray_some Array.toList_map Option.map_some Option.map_none Option.bind_some Option.bind_none List.getElem?_cons_zero List.getElem?_cons_succ List.getElem?_nil List.nil_append List.cons_append List.replicate_succ List.replicate_zero List.length_cons List.length_nil and_true true_and and_false false_and Bool.true_eq_false Bool.false_eq_true forall_const false_implies implies_true IntKind.bits if_true if_false ite_true ite_false eq_self true_implies false_or or_false or_true true_or not_true_eq_false not_false_eq_true decide_true decide_false decide_eq_true_eq decide_eq_false_iff_not beq_iff_eq bne_iff_ne ne_eq Bool.not_eq_true Bool.not_eq_false beq_eq_false_iff_ne bne_eq_false_iff_eq beq_self_eq_true bne_self_eq_false Option.some.injEq exists_eq_left' exists_eq_left ge_iff_le gt_iff_lt decide_not Bool.not_true Bool.not_false imp_self Zp7 cond_true cond_false Z0l Z0k Bool.not_not Bool.and_false Bool.false_and Bool.or_true Bool.true_or Bool.or_false Bool.false_or Ge Zcs Za7 Zab J3 Ql Option.join_some Nat.add_assoc Int.toNat_natCast eI eB eS eL Zbw Zdy Zc2 Zly Zlw Zlx Zvp Zx1 Zd1 Zda Zmi Zmg Zmh Zsk Zio Zpz Zjd Zpy Zcg Zn4 List.length_append G.agg.injEq G.row.injEq G.ref.injEq G.val.injEq G.sl.injEq G.tup.injEq Value.int.injEq Value.bool.injEq Value.string.injEq List.cons.injEq exists_and_left exists_const List.flatten_cons List.flatten_nil Int.le_refl Nat.le_refl Za6 X9 Vl Bool.not_eq_true' Bool.not_eq_false' Znx Zg8 Zr4 Zsa Zr3 Zr9 Zxd Zw9 List.size_toArray Zml Zmm G.ren G.rens Zo2 Zdn Zmp Zlp Zlq Zjf Zsb Zdm G.fn.injEq Zj8 Zj9 Znw Zxa Zj7 Zr7 Zxc Zxb Zr6 Zqe Zvf Option.join_none Yz Vg undef Zh0 Arr.len Arr.put_eq Zd0 Zgr Zek Zc9 Zmf Zmd Zme onB Zvo Zok Zje Zic Zid Zie Zif Zig Zih Zgo Zgv Zgt Zen Zdb Zgu Zi8 Zi7 Zi6 Zi5 Zx0 Zz3 Zsj Zqq Um Zsf Zl0 Zgw Zem Zuf Zmt Zfs Zhy Zb7 Zgx Zii Zij Zik Zil Zf6 Zf7 Zf8 Zf9 Zga Zgb Zgc Zcy prT Zdw Z2c Zrq Zo3 Zrr Z2d Zrs Zsm Zrt Z2e Zru Z2f Zrv Z2g Zrw Z2h Zrx Zv7 Zmw Zv8 Zmx Zv9 Zmy Zwa Zmz Zwb Zm0 Zwc Zm1 Zwd Zm2 Zwe Zm3 Zwf Zm4 Zwg Zm5 Zwh Zm6 Zwi Zhu Zrp Zax Zwj Zm7 Ki Zm8 Zwk Zm9 Zwl Zna Zwm Znb Zwn Znc Zwo Znd Zwp Zne Zwq Znf Zwr Zng Zws Znh Zkv Zni Zwt Znj Zg3 Znk Zwu Znl Zg4 Znm Zcc Znn Zwv Zno Zww Znp Zwx Znq Zwy Znr Zwz Zns Zw0 Znt Zw1 Znu Zjg Znv Zq1 Zji Zq2 Zjj Zq3 Zjk Zq4 Zjl Zq5 Zjm Zq6 Zjn Zlf Zg5 Zq7 Zjo Zq8 Zjp Zq9 Zjq Zra Zjr Zrb Zjs Zrc Zjt Zrd Zju Zre Zjv Zrf Zjw Zrg Zjx Zrh Zjy Zri Zjz Zrj Zj0 Zrk Zj1 Zrl Zj2 Zrm Zj3 Zrn Zj4 Zro Zj5 Zb Yi Ze9 Ze8 Zeb Zei Zfb Zdh Zdd Zdc Ze5 Ga U9 U0 U4 Gb Uq Uo Un U7 Zm Xg Zo Zy Y8 Yt Xk Z9 Kp Km J8 Ke Kr Jl Jj Jh Kj Vd Vc K6 Va Ve Kl Kh Kg Vb Zar Zaq Zaf Zam Zat Gt Gs Gr Zap Kq Ko J9 Kf Ks Jm Jk Ji Kk Zg9 Zg7 Zgj Zgq Zha Ze6 Zey Zex Zg6
theorem Zi3 {Y5:(S_api_Edit→Int→Option Bool)} {X8:(Int→S_api_Op→Int→Option Bool)} (Gy:∀ {a0:S_api_Edit} {a1:Int} {r:Bool} {O:Objs} {n:Nat},Y5 a0 a1=some r→GTo Try.prog 48 [.agg (Zf a0),.val (.int .i64 a1)] O n (.val (.bool r)) O n) (Zeh:∀ {a0:Int} {a1:S_api_Op} {a2:Int} {r:Bool} {O:Objs} {n:Nat},X8 a0 a1 a2=some r→GTo Try.prog 78 [.val (.int .i64 a0),.agg (Ye a1),.val (.int .i64 a2)] O n (.val (.bool r)) O n) {a0:S_api_Edit} {a1:Int} {r:Bool} {O:Objs} {n:Nat} (h:Vp Y5 X8 a0 a1=some r):GTo Try.prog 48 [.agg (Zf a0),.val (.int .i64 a1)] O n (.val (.bool r)) O n:=by
 unfold Vp at h
 refine Xl Ze Try.call48 Try.func48 rfl (Nat.le_of_ble_eq_true rfl) (Nat.le_refl _) fun hU => ?_
 have hN0:O n=none:=hU.fresh _ (Nat.le_refl _)
 have hN:∀ k,O (n+k)=none:=fun k=>hU.fresh _ (Nat.le_add_right _ _)
 show W _ _ _ _ ⟨216,[],[(0,.agg (Zf a0)),(1,.val (.int .i64 a1))]⟩ (Zx O n []) _
 refine Zq [1,2] (Zc Ze [] ?_)
 simp only [push_cast,seval,↓reduceIte,Za,hN0,hN]
 refine Zl ?_
 refine Zq [1,2,24] (Zc Ze [none,none,none,none,none,none] ?_)
 simp only [push_cast,seval,↓reduceIte,Za,hN0,hN]
 repeat (with_reducible refine And.intro (by first | (intro h0;simp only [h0,and_self];done) | (intro h0;simp only [h0,Bool.not_false,Bool.not_true,Bool.true_and,Bool.and_true,true_and,and_true,and_self,imp_self,implies_true,bne_iff_ne,ne_eq,beq_iff_eq];done) | (intros;simp_all;done) | exact True.intro) ?_)
 refine Zs (t:=(cond (cond (a1 == 0) true (decide (a0.Kind < 0))) true (decide (3 < a0.Kind)))) rfl (fun c58 => ?_) (fun c58 => ?_)
 ·replace h:=Zu c58 h
  refine Zq [4] (Zc Ze [] ?_)
  simp only [push_cast,seval,↓reduceIte,Za,hN0,hN]
  refine Z4 ?_
  try simp only [Zk,Zh]
  have h:=Option.some.inj h;subst h
  refine Zr (.inr rfl) hU [.val (.bool false)] (by omega) ?_
  simp only [push_cast,seval,↓reduceIte,Za,Try.results48,hN0,hN]
 replace h:=Zt c58 h
 refine Zz ?_
 try simp only [Zk,Zh]
 refine Zj [1,2] [true] ?_
 simp only [push_cast,seval,↓reduceIte]
 refine Zl ?_
 obtain ⟨z3,hz3,h⟩:=bC h
 refine Y1 (E':=⟨216,[],[(1,.val (.int .i64 a1)),(2,.ref n 0),(69,.val (.bool z3))]⟩) (O':=(Zx O n [some ⟨false,54,11,1,(Zf a0)⟩])) (n0:=(n+1)) ?_ ?_
 ·rcases Bool.eq_false_or_eq_true (a0.Kind != 1) with c8 | c8
  ·replace hz3:=Zu c8 hz3
   obtain ⟨y6,hy6,hz3⟩:=bC hz3
   rcases Bool.eq_false_or_eq_true y6 with c9 | c9
   ·replace hz3:=Zu c9 hz3
    try rw [c9] at c8
    obtain ⟨y7,hy7,hz3⟩:=bC hz3
    refine Zc Ze [some true,some true,some true,some true,some true,some true,some true,some true,some true,none,none,none,none,none,none,none,none,none,none,none,none,none,none,none,none,none,none,none,none,none,none,none,none,none,none,none] ?_
    simp only [push_cast,seval,↓reduceIte,Za,c8,c9,hN0,hN]
    repeat (with_reducible refine And.intro (by first | (intro h0;simp only [h0,and_self];done) | (intro h0;simp only [h0,Bool.not_false,Bool.not_true,Bool.true_and,Bool.and_true,true_and,and_true,and_self,imp_self,implies_true,bne_iff_ne,ne_eq,beq_iff_eq];done) | (intros;simp_all;done) | exact True.intro) ?_)
    refine (Jw hy6).then ?_
    simp only [push_cast,seval,↓reduceIte,Za,c8,c9,hN0,hN]
    repeat (with_reducible refine And.intro (by first | (intro h0;simp only [h0,and_self];done) | (intro h0;simp only [h0,Bool.not_false,Bool.not_true,Bool.true_and,Bool.and_true,true_and,and_true,and_self,imp_self,implies_true,bne_iff_ne,ne_eq,beq_iff_eq];done) | (intros;simp_all;done) | exact True.intro) ?_)
    refine (Jw hy7).then ?_
    simp only [push_cast,seval,↓reduceIte,Za,c8,c9,hN0,hN]
    repeat (with_reducible refine And.intro (by first | (intro h0;simp only [h0,and_self];done) | (intro h0;simp only [h0,Bool.not_false,Bool.not_true,Bool.true_and,Bool.and_true,true_and,and_true,and_self,imp_self,implies_true,bne_iff_ne,ne_eq,beq_iff_eq];done) | (intros;simp_all;done) | exact True.intro) ?_)
    have hz3:=Option.some.inj hz3;subst hz3
    refine And.intro rfl (Fit2.of (Zi hU rfl rfl ?_) (by omega))
    simp only [push_cast,seval,↓reduceIte,Za,c8,c9,hN0,hN]
   replace hz3:=Zt c9 hz3
   try rw [c9] at c8
   refine Zc Ze [some true,some true,some true,some true,some false,some false,some false,some true,some true,some false,some false,some false,some false,some false,some false,some false,some false,some false,some false,some false,some false,some false,some false,some false,some false,some false,some false,some false,some false,some false,some false,some false,some false,some false,some false,some false] ?_
   simp only [push_cast,seval,↓reduceIte,Za,c8,c9,hN0,hN]
   refine (Jw hy6).then ?_
   simp only [push_cast,seval,↓reduceIte,Za,c8,c9,hN0,hN]
   have hz3:=Option.some.inj hz3;subst hz3
   refine And.intro rfl (Fit2.of (Zi hU rfl rfl ?_) (by omega))
   simp only [push_cast,seval,↓reduceIte,Za,c8,c9,hN0,hN]
  replace hz3:=Zt c8 hz3
  refine Zc Ze [some false,some false,some false,some false,some false,some false,some false,some false,some false,some true,some true,some true,some true,none,none,none,none,none,none,none,none,some true,none,none,none,none,none,none,none,none,none,none,none,none,none,none] ?_
  simp only [push_cast,seval,↓reduceIte,Za,c8,hN0,hN]
  repeat (with_reducible refine And.intro (by first | (intro h0;simp only [h0,and_self];done) | (intro h0;simp only [h0,Bool.not_false,Bool.not_true,Bool.true_and,Bool.and_true,true_and,and_true,and_self,imp_self,implies_true,bne_iff_ne,ne_eq,beq_iff_eq];done) | (intros;simp_all;done) | exact True.intro) ?_)
  have hz3:=Option.some.inj hz3;subst hz3
  refine And.intro rfl (Fit2.of (Zi hU rfl rfl ?_) (by omega))
  simp only [push_cast,seval,↓reduceIte,Za,c8,hN0,hN]
 refine Zs (t:=z3) rfl (fun c57 => ?_) (fun c57 => ?_)
 ·replace h:=Zu c57 h
  refine Zq [4] (Zc Ze [] ?_)
  simp only [push_cast,seval,↓reduceIte,Za,hN0,hN]
  refine Z4 ?_
  try simp only [Zk,Zh]
  have h:=Option.some.inj h;subst h
  refine Zr (.inr rfl) hU [.val (.bool false)] (by omega) ?_
  simp only [push_cast,seval,↓reduceIte,Za,Try.results48,hN0,hN]
 replace h:=Zt c57 h
 refine Zz ?_
 try simp only [Zk,Zh]
 refine Zj [1,2] [true] ?_
 simp only [push_cast,seval,↓reduceIte]
 refine Zl ?_
 refine Zq [1,2,72] (Zc Ze [] ?_)
 simp only [push_cast,seval,↓reduceIte,Za,hN0,hN]
 refine Zs (t:=(a0.Kind == 1)) rfl (fun c56 => ?_) (fun c56 => ?_)
 ·replace h:=Zu c56 h
  obtain ⟨z12,hz12,h⟩:=bC h
  refine Y1 (E':=⟨216,[],[(4,.val (.bool z12))]⟩) (O':=(Zx O n [none])) (n0:=(n+1)) ?_ ?_
  ·obtain ⟨y15,hy15,hz12⟩:=bC hz12
   rcases Bool.eq_false_or_eq_true y15 with c17 | c17
   ·replace hz12:=Zu c17 hz12
    obtain ⟨y16,hy16,hz12⟩:=bC hz12
    refine Zc Ze [some true,some true,some true,none,none,none,none,none,none,none,none] ?_
    simp only [push_cast,seval,↓reduceIte,Za,c17,hN0,hN]
    repeat (with_reducible refine And.intro (by first | (intro h0;simp only [h0,and_self];done) | (intro h0;simp only [h0,Bool.not_false,Bool.not_true,Bool.true_and,Bool.and_true,true_and,and_true,and_self,imp_self,implies_true,bne_iff_ne,ne_eq,beq_iff_eq];done) | (intros;simp_all;done) | exact True.intro) ?_)
    refine (K9 hy15).then ?_
    simp only [push_cast,seval,↓reduceIte,Za,c17,hN0,hN]
    repeat (with_reducible refine And.intro (by first | (intro h0;simp only [h0,and_self];done) | (intro h0;simp only [h0,Bool.not_false,Bool.not_true,Bool.true_and,Bool.and_true,true_and,and_true,and_self,imp_self,implies_true,bne_iff_ne,ne_eq,beq_iff_eq];done) | (intros;simp_all;done) | exact True.intro) ?_)
    refine (K9 hy16).then ?_
    simp only [push_cast,seval,↓reduceIte,Za,c17,hN0,hN]
    repeat (with_reducible refine And.intro (by first | (intro h0;simp only [h0,and_self];done) | (intro h0;simp only [h0,Bool.not_false,Bool.not_true,Bool.true_and,Bool.and_true,true_and,and_true,and_self,imp_self,implies_true,bne_iff_ne,ne_eq,beq_iff_eq];done) | (intros;simp_all;done) | exact True.intro) ?_)
    have hz12:=Option.some.inj hz12;subst hz12
    refine And.intro rfl (Fit2.of (Zi hU rfl rfl ?_) (by omega))
    simp only [push_cast,seval,↓reduceIte,Za,c17,hN0,hN]
   replace hz12:=Zt c17 hz12
   refine Zc Ze [some false,some false,some false,some false,some false,some false,some false,some false,some false,some false,some false] ?_
   simp only [push_cast,seval,↓reduceIte,Za,c17,hN0,hN]
   refine (K9 hy15).then ?_
   simp only [push_cast,seval,↓reduceIte,Za,c17,hN0,hN]
   have hz12:=Option.some.inj hz12;subst hz12
   refine And.intro rfl (Fit2.of (Zi hU rfl rfl ?_) (by omega))
   simp only [push_cast,seval,↓reduceIte,Za,c17,hN0,hN]
  refine Z4 ?_
  try simp only [Zk,Zh]
  have h:=Option.some.inj h;subst h
  refine Zr (.inr rfl) hU [.val (.bool z12)] (by omega) ?_
  simp only [push_cast,seval,↓reduceIte,Za,Try.results48,hN0,hN]
 replace h:=Zt c56 h
 refine Zz ?_
 try simp only [Zk,Zh]
 refine Zj [1,2] [true] ?_
 simp only [push_cast,seval,↓reduceIte]
 refine Zq [1,2,5] (Zc Ze [] ?_)
 simp only [push_cast,seval,↓reduceIte,Za,hN0,hN]
 refine Zl ?_
 refine Zq [1,2,5,6] (Zc Ze [] ?_)
 simp only [push_cast,seval,↓reduceIte,Za,hN0,hN]
 refine Zj [1,2,5,6] [true] ?_
 simp only [push_cast,seval,↓reduceIte]
 obtain ⟨z33,hz33,h⟩:=bC h
 refine Gf (J:=(Xb (fun z33=>JR n (⟨216,[],[(4,.val (.bool false))]⟩:Env) (Zx O n [none]) (n+1)) (fun z33=>JX 0 n (⟨216,[],[(1,.val (.int .i64 a1)),(2,.ref n 0)]⟩:Env) (Zx O n [some ⟨false,54,11,1,(Zf a0)⟩]) (n+1)))) (z:=z33) ?_ fun hw => ?_
 ·refine Y6 hz33 (fun s0_=>⟨216,[],[(1,.val (.int .i64 a1)),(2,.ref n 0),(5,.val (.int .i64 s0_.1)),(6,.val (.int .i64 s0_.2))]⟩) (fun s0_=>(Zx O n [some ⟨false,54,11,1,(Zf a0)⟩])) (Xb (fun z33=>JR n (⟨216,[],[(4,.val (.bool false))]⟩:Env) (Zx O n [none]) (n+1)) (fun z33=>JX 0 n (⟨216,[],[(1,.val (.int .i64 a1)),(2,.ref n 0)]⟩:Env) (Zx O n [some ⟨false,54,11,1,(Zf a0)⟩]) (n+1))) ?_
  intro s0_ x0_ hs0_
  unfold Qm at hs0_
  try dsimp only
  refine Zl ?_
  refine Zq [1,2,5,6,97] (Zc Ze [] ?_)
  simp only [push_cast,seval,↓reduceIte,Za,hN0,hN]
  refine Zs (t:=(decide (s0_.2 < (a0.Words.length:Int)))) rfl (fun c32 => ?_) (fun c32 => ?_)
  ·replace hs0_:=Zu c32 hs0_
   refine Zz ?_
   try simp only [Zk,Zh]
   refine Zj [1,2,5,6] [true] ?_
   simp only [push_cast,seval,↓reduceIte]
   refine Zl ?_
   refine Yw ?_
   refine Zl ?_
   obtain ⟨x19,hx19,ax19,bx19,cx19,hs0_⟩:=bE (f:=Zm) Zjg (fun _=>rfl) (by decide) hs0_
   refine Zc Ze [] ?_
   simp only [push_cast,Nat.reduceAdd,Nat.reduceSub,Nat.reduceMul,Nat.reduceLeDiff,Nat.reduceLT,Nat.reduceEqDiff,↓reduceIte,reduceCtorEq,Int.reduceBEq,Int.reduceBNe,Nat.reduceBEq,Int.reduceLE,Int.reduceLT,Int.reduceEq,Int.reduceNe,Int.reduceNeg,Nat.reduceDiv,Nat.reduceMod,Nat.reducePow,Za,ax19,bx19,cx19,hN0,hN]
   refine Zj [1,2,5,6,7] [true,true] ?_
   simp only [push_cast,seval,↓reduceIte]
   refine Zl ?_
   obtain ⟨z22,hz22,hs0_⟩:=bC hs0_
   refine Y1 (E':=⟨216,[],[(1,.val (.int .i64 a1)),(2,.ref n 0),(6,.val (.int .i64 s0_.2)),(7,.ref (n+1) 0),(134,.val (.bool z22))]⟩) (O':=(Zx O n [some ⟨false,54,11,1,(Zf a0)⟩,some ⟨false,91,4,1,(Jn x19)⟩])) (n0:=(n+2)) ?_ ?_
   ·rcases Bool.eq_false_or_eq_true (decide (x19.At≤s0_.1)) with c27 | c27
    ·replace hz22:=Zu c27 hz22
     refine Zc Ze [none,none,none,none,none,none,some false,some false,some false,some false,some false,some false,some false,some false,some false,some false,some false,some false] ?_
     simp only [push_cast,seval,↓reduceIte,Za,c27,hN0,hN]
     repeat (with_reducible refine And.intro (by first | (intro h0;simp only [h0,and_self];done) | (intro h0;simp only [h0,Bool.not_false,Bool.not_true,Bool.true_and,Bool.and_true,true_and,and_true,and_self,imp_self,implies_true,bne_iff_ne,ne_eq,beq_iff_eq];done) | (intros;simp_all;done) | exact True.intro) ?_)
     have hz22:=Option.some.inj hz22;subst hz22
     refine And.intro rfl (Fit2.of (Zi hU rfl rfl ?_) (by omega))
     simp only [push_cast,seval,↓reduceIte,Za,c27,hN0,hN]
    replace hz22:=Zt c27 hz22
    rcases Bool.eq_false_or_eq_true (decide (65534 < x19.At)) with c28 | c28
    ·replace hz22:=Zu c28 hz22
     try rw [c28] at c27
     refine Zc Ze [none,none,none,none,none,none,some false,some false,some false,some false,some false,some false,some false,some false,some false,some false,some false,some false] ?_
     simp only [push_cast,seval,↓reduceIte,Za,c27,c28,hN0,hN]
     repeat (with_reducible refine And.intro (by first | (intro h0;simp only [h0,and_self];done) | (intro h0;simp only [h0,Bool.not_false,Bool.not_true,Bool.true_and,Bool.and_true,true_and,and_true,and_self,imp_self,implies_true,bne_iff_ne,ne_eq,beq_iff_eq];done) | (intros;simp_all;done) | exact True.intro) ?_)
     have hz22:=Option.some.inj hz22;subst hz22
     refine And.intro rfl (Fit2.of (Zi hU rfl rfl ?_) (by omega))
     simp only [push_cast,seval,↓reduceIte,Za,c27,c28,hN0,hN]
    replace hz22:=Zt c28 hz22
    try rw [c28] at c27
    rcases Bool.eq_false_or_eq_true (x19.Mask == 0) with c29 | c29
    ·replace hz22:=Zu c29 hz22
     try rw [c29] at c27
     try rw [c29] at c28
     refine Zc Ze [none,none,none,none,none,none,some false,some false,some false,some false,some false,some false,some false,some false,some false,some false,some false,some false] ?_
     simp only [push_cast,seval,↓reduceIte,Za,c27,c28,c29,hN0,hN]
     repeat (with_reducible refine And.intro (by first | (intro h0;simp only [h0,and_self];done) | (intro h0;simp only [h0,Bool.not_false,Bool.not_true,Bool.true_and,Bool.and_true,true_and,and_true,and_self,imp_self,implies_true,bne_iff_ne,ne_eq,beq_iff_eq];done) | (intros;simp_all;done) | exact True.intro) ?_)
     have hz22:=Option.some.inj hz22;subst hz22
     refine And.intro rfl (Fit2.of (Zi hU rfl rfl ?_) (by omega))
     simp only [push_cast,seval,↓reduceIte,Za,c27,c28,c29,hN0,hN]
    replace hz22:=Zt c29 hz22
    try rw [c29] at c27
    try rw [c29] at c28
    obtain ⟨y25,hy25,hz22⟩:=bC hz22
    rcases Bool.eq_false_or_eq_true y25 with c30 | c30
    ·replace hz22:=Zu c30 hz22
     try rw [c30] at c27
     try rw [c30] at c28
     try rw [c30] at c29
     obtain ⟨y26,hy26,hz22⟩:=bC hz22
     refine Zc Ze [none,none,none,none,none,none,some true,some true,some true,some true,some true,some true,some true,some true,some true,some true,some true,some true] ?_
     simp only [push_cast,seval,↓reduceIte,Za,c27,c28,c29,c30,hN0,hN]
     repeat (with_reducible refine And.intro (by first | (intro h0;simp only [h0,and_self];done) | (intro h0;simp only [h0,Bool.not_false,Bool.not_true,Bool.true_and,Bool.and_true,true_and,and_true,and_self,imp_self,implies_true,bne_iff_ne,ne_eq,beq_iff_eq];done) | (intros;simp_all;done) | exact True.intro) ?_)
     refine (Zak hy25).then ?_
     simp only [push_cast,seval,↓reduceIte,Za,c27,c28,c29,c30,hN0,hN]
     repeat (with_reducible refine And.intro (by first | (intro h0;simp only [h0,and_self];done) | (intro h0;simp only [h0,Bool.not_false,Bool.not_true,Bool.true_and,Bool.and_true,true_and,and_true,and_self,imp_self,implies_true,bne_iff_ne,ne_eq,beq_iff_eq];done) | (intros;simp_all;done) | exact True.intro) ?_)
     refine (Zak hy26).then ?_
     simp only [push_cast,seval,↓reduceIte,Za,c27,c28,c29,c30,hN0,hN]
     repeat (with_reducible refine And.intro (by first | (intro h0;simp only [h0,and_self];done) | (intro h0;simp only [h0,Bool.not_false,Bool.not_true,Bool.true_and,Bool.and_true,true_and,and_true,and_self,imp_self,implies_true,bne_iff_ne,ne_eq,beq_iff_eq];done) | (intros;simp_all;done) | exact True.intro) ?_)
     have hz22:=Option.some.inj hz22;subst hz22
     refine And.intro rfl (Fit2.of (Zi hU rfl rfl ?_) (by omega))
     simp only [push_cast,seval,↓reduceIte,Za,c27,c28,c29,c30,hN0,hN]
    replace hz22:=Zt c30 hz22
    try rw [c30] at c27
    try rw [c30] at c28
    try rw [c30] at c29
    refine Zc Ze [none,none,none,none,none,none,some true,some true,some true,some true,some true,some true,some false,some false,some false,some false,some false,some false] ?_
    simp only [push_cast,seval,↓reduceIte,Za,c27,c28,c29,c30,hN0,hN]
    repeat (with_reducible refine And.intro (by first | (intro h0;simp only [h0,and_self];done) | (intro h0;simp only [h0,Bool.not_false,Bool.not_true,Bool.true_and,Bool.and_true,true_and,and_true,and_self,imp_self,implies_true,bne_iff_ne,ne_eq,beq_iff_eq];done) | (intros;simp_all;done) | exact True.intro) ?_)
    refine (Zak hy25).then ?_
    simp only [push_cast,seval,↓reduceIte,Za,c27,c28,c29,c30,hN0,hN]
    repeat (with_reducible refine And.intro (by first | (intro h0;simp only [h0,and_self];done) | (intro h0;simp only [h0,Bool.not_false,Bool.not_true,Bool.true_and,Bool.and_true,true_and,and_true,and_self,imp_self,implies_true,bne_iff_ne,ne_eq,beq_iff_eq];done) | (intros;simp_all;done) | exact True.intro) ?_)
    have hz22:=Option.some.inj hz22;subst hz22
    refine And.intro rfl (Fit2.of (Zi hU rfl rfl ?_) (by omega))
    simp only [push_cast,seval,↓reduceIte,Za,c27,c28,c29,c30,hN0,hN]
   refine Zs (t:=z22) rfl (fun c31 => ?_) (fun c31 => ?_)
   ·replace hs0_:=Zu c31 hs0_
    refine Zq [4] (Zc Ze [] ?_)
    simp only [push_cast,seval,↓reduceIte,Za,hN0,hN]
    refine Z4 ?_
    try simp only [Zk,Zh]
    have hs0_:=Option.some.inj hs0_;subst hs0_
    refine And.intro (fun h=>by cases h) (And.intro rfl (Fit2.of (Zi hU rfl rfl ?_) (by omega)))
    simp only [push_cast,seval,↓reduceIte,Za,hN0,hN]
   replace hs0_:=Zt c31 hs0_
   refine Zz ?_
   try simp only [Zk,Zh]
   refine Zj [1,2,6,7] [true,true] ?_
   simp only [push_cast,seval,↓reduceIte]
   refine Zc Ze [] ?_
   simp only [push_cast,seval,↓reduceIte,Za,hN0,hN]
   refine Zj [1,2,5,6] [true,false] ?_
   simp only [push_cast,seval,↓reduceIte]
   refine Zc Ze [] ?_
   simp only [push_cast,seval,↓reduceIte,Za,hN0,hN]
   have hs0_:=Option.some.inj hs0_;subst hs0_
   refine And.intro rfl (Fit2.of (Zi hU rfl rfl ?_) (by omega))
   simp only [push_cast,seval,↓reduceIte,Za,hN0,hN]
  replace hs0_:=Zt c32 hs0_
  refine Xt ?_
  try simp only [Zk,Zh,↓reduceIte,Nat.reduceEqDiff]
  have hs0_:=Option.some.inj hs0_;subst hs0_
  refine And.intro (fun h=>by cases h) (And.intro rfl (Fit2.of (Zi hU rfl rfl ?_) (by omega)))
  simp only [push_cast,seval,↓reduceIte,Za,hN0,hN]
 rcases z33 with z33 | z33
 ·dsimp only [Xb] at hw h
  refine Q2 hw ?_
  try simp only [Zk,Zh,↓reduceIte,Nat.reduceEqDiff]
  have h:=Option.some.inj h;subst h
  refine Zr (.inr rfl) hU [.val (.bool false)] (by omega) ?_
  simp only [push_cast,seval,↓reduceIte,Za,Try.results48,hN0,hN]
 dsimp only [Xb] at hw h
 refine Yv hw ?_
 try simp only [Zk,Zh,↓reduceIte,Nat.reduceEqDiff]
 refine Zj [1,2] [true] ?_
 simp only [push_cast,seval,↓reduceIte]
 refine Zq [1,2,5] (Zc Ze [] ?_)
 simp only [push_cast,seval,↓reduceIte,Za,hN0,hN]
 refine Zl ?_
 refine Zq [1,2,5,8] (Zc Ze [] ?_)
 simp only [push_cast,seval,↓reduceIte,Za,hN0,hN]
 refine Zj [1,2,5,8] [true] ?_
 simp only [push_cast,seval,↓reduceIte]
 obtain ⟨z45,hz45,h⟩:=bC h
 refine Gf (J:=(Xb (fun z45=>JR n (⟨216,[],[(4,.val (.bool false))]⟩:Env) (Zx O n [none]) (n+1)) (fun z45=>JX 2 n (⟨216,[],[(1,.val (.int .i64 a1)),(2,.ref n 0)]⟩:Env) (Zx O n [some ⟨false,54,11,1,(Zf a0)⟩]) (n+1)))) (z:=z45) ?_ fun hw => ?_
 ·refine Y6 hz45 (fun s1_=>⟨216,[],[(1,.val (.int .i64 a1)),(2,.ref n 0),(5,.val (.int .i64 s1_.1)),(8,.val (.int .i64 s1_.2))]⟩) (fun s1_=>(Zx O n [some ⟨false,54,11,1,(Zf a0)⟩])) (Xb (fun z45=>JR n (⟨216,[],[(4,.val (.bool false))]⟩:Env) (Zx O n [none]) (n+1)) (fun z45=>JX 2 n (⟨216,[],[(1,.val (.int .i64 a1)),(2,.ref n 0)]⟩:Env) (Zx O n [some ⟨false,54,11,1,(Zf a0)⟩]) (n+1))) ?_
  intro s1_ x1_ hs1_
  unfold Qn at hs1_
  try dsimp only
  refine Zl ?_
  refine Zq [1,2,5,8,141] (Zc Ze [] ?_)
  simp only [push_cast,seval,↓reduceIte,Za,hN0,hN]
  refine Zs (t:=(decide (s1_.2 < (a0.Kids.length:Int)))) rfl (fun c44 => ?_) (fun c44 => ?_)
  ·replace hs1_:=Zu c44 hs1_
   refine Zz ?_
   try simp only [Zk,Zh]
   refine Zj [1,2,5,8] [true] ?_
   simp only [push_cast,seval,↓reduceIte]
   refine Zl ?_
   refine Yw ?_
   refine Zl ?_
   obtain ⟨x35,hx35,ax35,bx35,cx35,hs1_⟩:=bE (f:=Zo) Zg3 (fun _=>rfl) (by decide) hs1_
   refine Zc Ze [] ?_
   simp only [push_cast,Nat.reduceAdd,Nat.reduceSub,Nat.reduceMul,Nat.reduceLeDiff,Nat.reduceLT,Nat.reduceEqDiff,↓reduceIte,reduceCtorEq,Int.reduceBEq,Int.reduceBNe,Nat.reduceBEq,Int.reduceLE,Int.reduceLT,Int.reduceEq,Int.reduceNe,Int.reduceNeg,Nat.reduceDiv,Nat.reduceMod,Nat.reducePow,Za,ax35,bx35,cx35,hN0,hN]
   refine Zj [1,2,5,8,9] [true,true] ?_
   simp only [push_cast,seval,↓reduceIte]
   refine Zl ?_
   obtain ⟨z37,hz37,hs1_⟩:=bC hs1_
   refine Y1 (E':=⟨216,[],[(1,.val (.int .i64 a1)),(2,.ref n 0),(8,.val (.int .i64 s1_.2)),(9,.ref (n+1) 0),(171,.val (.bool z37))]⟩) (O':=(Zx O n [some ⟨false,54,11,1,(Zf a0)⟩,some ⟨false,62,12,1,(V2 x35)⟩])) (n0:=(n+2)) ?_ ?_
   ·rcases Bool.eq_false_or_eq_true (decide (x35.At≤s1_.1)) with c40 | c40
    ·replace hz37:=Zu c40 hz37
     refine Zc Ze [none,none,none,none,none,none,none,some false,some false,some false,some false,some false,some false] ?_
     simp only [push_cast,seval,↓reduceIte,Za,c40,hN0,hN]
     repeat (with_reducible refine And.intro (by first | (intro h0;simp only [h0,and_self];done) | (intro h0;simp only [h0,Bool.not_false,Bool.not_true,Bool.true_and,Bool.and_true,true_and,and_true,and_self,imp_self,implies_true,bne_iff_ne,ne_eq,beq_iff_eq];done) | (intros;simp_all;done) | exact True.intro) ?_)
     have hz37:=Option.some.inj hz37;subst hz37
     refine And.intro rfl (Fit2.of (Zi hU rfl rfl ?_) (by omega))
     simp only [push_cast,seval,↓reduceIte,Za,c40,hN0,hN]
    replace hz37:=Zt c40 hz37
    rcases Bool.eq_false_or_eq_true (decide (65534 < x35.At)) with c41 | c41
    ·replace hz37:=Zu c41 hz37
     try rw [c41] at c40
     refine Zc Ze [none,none,none,none,none,none,none,some false,some false,some false,some false,some false,some false] ?_
     simp only [push_cast,seval,↓reduceIte,Za,c40,c41,hN0,hN]
     repeat (with_reducible refine And.intro (by first | (intro h0;simp only [h0,and_self];done) | (intro h0;simp only [h0,Bool.not_false,Bool.not_true,Bool.true_and,Bool.and_true,true_and,and_true,and_self,imp_self,implies_true,bne_iff_ne,ne_eq,beq_iff_eq];done) | (intros;simp_all;done) | exact True.intro) ?_)
     have hz37:=Option.some.inj hz37;subst hz37
     refine And.intro rfl (Fit2.of (Zi hU rfl rfl ?_) (by omega))
     simp only [push_cast,seval,↓reduceIte,Za,c40,c41,hN0,hN]
    replace hz37:=Zt c41 hz37
    try rw [c41] at c40
    rcases Bool.eq_false_or_eq_true (x35.E.Kind == 0) with c42 | c42
    ·replace hz37:=Zu c42 hz37
     try rw [c42] at c40
     try rw [c42] at c41
     refine Zc Ze [none,none,none,none,none,none,none,some false,some false,some false,some false,some false,some false] ?_
     simp only [push_cast,seval,↓reduceIte,Za,c40,c41,c42,hN0,hN]
     repeat (with_reducible refine And.intro (by first | (intro h0;simp only [h0,and_self];done) | (intro h0;simp only [h0,Bool.not_false,Bool.not_true,Bool.true_and,Bool.and_true,true_and,and_true,and_self,imp_self,implies_true,bne_iff_ne,ne_eq,beq_iff_eq];done) | (intros;simp_all;done) | exact True.intro) ?_)
     have hz37:=Option.some.inj hz37;subst hz37
     refine And.intro rfl (Fit2.of (Zi hU rfl rfl ?_) (by omega))
     simp only [push_cast,seval,↓reduceIte,Za,c40,c41,c42,hN0,hN]
    replace hz37:=Zt c42 hz37
    try rw [c42] at c40
    try rw [c42] at c41
    obtain ⟨y39,hy39,hz37⟩:=bC hz37
    refine Zc Ze [none,none,none,none,none,none,none,some true,some true,some true,some true,some true,some true] ?_
    simp only [push_cast,seval,↓reduceIte,Za,c40,c41,c42,hN0,hN]
    repeat (with_reducible refine And.intro (by first | (intro h0;simp only [h0,and_self];done) | (intro h0;simp only [h0,Bool.not_false,Bool.not_true,Bool.true_and,Bool.and_true,true_and,and_true,and_self,imp_self,implies_true,bne_iff_ne,ne_eq,beq_iff_eq];done) | (intros;simp_all;done) | exact True.intro) ?_)
    refine (Gy hy39).then ?_
    simp only [push_cast,seval,↓reduceIte,Za,c40,c41,c42,hN0,hN]
    repeat (with_reducible refine And.intro (by first | (intro h0;simp only [h0,and_self];done) | (intro h0;simp only [h0,Bool.not_false,Bool.not_true,Bool.true_and,Bool.and_true,true_and,and_true,and_self,imp_self,implies_true,bne_iff_ne,ne_eq,beq_iff_eq];done) | (intros;simp_all;done) | exact True.intro) ?_)
    have hz37:=Option.some.inj hz37;subst hz37
    refine And.intro rfl (Fit2.of (Zi hU rfl rfl ?_) (by omega))
    simp only [push_cast,seval,↓reduceIte,Za,c40,c41,c42,hN0,hN]
   refine Zs (t:=z37) rfl (fun c43 => ?_) (fun c43 => ?_)
   ·replace hs1_:=Zu c43 hs1_
    refine Zq [4] (Zc Ze [] ?_)
    simp only [push_cast,seval,↓reduceIte,Za,hN0,hN]
    refine Z4 ?_
    try simp only [Zk,Zh]
    have hs1_:=Option.some.inj hs1_;subst hs1_
    refine And.intro (fun h=>by cases h) (And.intro rfl (Fit2.of (Zi hU rfl rfl ?_) (by omega)))
    simp only [push_cast,seval,↓reduceIte,Za,hN0,hN]
   replace hs1_:=Zt c43 hs1_
   refine Zz ?_
   try simp only [Zk,Zh]
   refine Zj [1,2,8,9] [true,true] ?_
   simp only [push_cast,seval,↓reduceIte]
   refine Zc Ze [] ?_
   simp only [push_cast,seval,↓reduceIte,Za,hN0,hN]
   refine Zj [1,2,5,8] [true,false] ?_
   simp only [push_cast,seval,↓reduceIte]
   refine Zc Ze [] ?_
   simp only [push_cast,seval,↓reduceIte,Za,hN0,hN]
   have hs1_:=Option.some.inj hs1_;subst hs1_
   refine And.intro rfl (Fit2.of (Zi hU rfl rfl ?_) (by omega))
   simp only [push_cast,seval,↓reduceIte,Za,hN0,hN]
  replace hs1_:=Zt c44 hs1_
  refine Xt ?_
  try simp only [Zk,Zh,↓reduceIte,Nat.reduceEqDiff]
  have hs1_:=Option.some.inj hs1_;subst hs1_
  refine And.intro (fun h=>by cases h) (And.intro rfl (Fit2.of (Zi hU rfl rfl ?_) (by omega)))
  simp only [push_cast,seval,↓reduceIte,Za,hN0,hN]
 rcases z45 with z45 | z45
 ·dsimp only [Xb] at hw h
  refine Q2 hw ?_
  try simp only [Zk,Zh,↓reduceIte,Nat.reduceEqDiff]
  have h:=Option.some.inj h;subst h
  refine Zr (.inr rfl) hU [.val (.bool false)] (by omega) ?_
  simp only [push_cast,seval,↓reduceIte,Za,Try.results48,hN0,hN]
 dsimp only [Xb] at hw h
 refine Yv hw ?_
 try simp only [Zk,Zh,↓reduceIte,Nat.reduceEqDiff]
 refine Zj [1,2] [true] ?_
 simp only [push_cast,seval,↓reduceIte]
 refine Zl ?_
 refine Zq [1,2,186] (Zc Ze [none,none,none,none,none,none,none,none] ?_)
 simp only [push_cast,seval,↓reduceIte,Za,hN0,hN]
 repeat (with_reducible refine And.intro (by first | (intro h0;simp only [h0,and_self];done) | (intro h0;simp only [h0,Bool.not_false,Bool.not_true,Bool.true_and,Bool.and_true,true_and,and_true,and_self,imp_self,implies_true,bne_iff_ne,ne_eq,beq_iff_eq];done) | (intros;simp_all;done) | exact True.intro) ?_)
 refine Zs (t:=(cond (a0.Kind == 3) (cond (decide (a0.List_ < 2)) true (decide (9 < a0.List_))) false)) rfl (fun c55 => ?_) (fun c55 => ?_)
 ·replace h:=Zu c55 h
  refine Zq [4] (Zc Ze [] ?_)
  simp only [push_cast,seval,↓reduceIte,Za,hN0,hN]
  refine Z4 ?_
  try simp only [Zk,Zh]
  have h:=Option.some.inj h;subst h
  refine Zr (.inr rfl) hU [.val (.bool false)] (by omega) ?_
  simp only [push_cast,seval,↓reduceIte,Za,Try.results48,hN0,hN]
 replace h:=Zt c55 h
 refine Zz ?_
 try simp only [Zk,Zh]
 refine Zj [1,2] [true] ?_
 simp only [push_cast,seval,↓reduceIte]
 refine Zl ?_
 refine Zq [1,2,10] (Zc Ze [] ?_)
 simp only [push_cast,seval,↓reduceIte,Za,hN0,hN]
 refine Zj [1,2,10] [true] ?_
 simp only [push_cast,seval,↓reduceIte]
 obtain ⟨z52,hz52,h⟩:=bC h
 refine Gf (J:=(Xb (fun z52=>JR n (⟨216,[],[(4,.val (.bool false))]⟩:Env) (Zx O n [none]) (n+1)) (fun z52=>JX 4 n (⟨216,[],[(2,.ref n 0)]⟩:Env) (Zx O n [some ⟨false,54,11,1,(Zf a0)⟩]) (n+1)))) (z:=z52) ?_ fun hw => ?_
 ·refine Y6 hz52 (fun s2_=>⟨216,[],[(1,.val (.int .i64 a1)),(2,.ref n 0),(10,.val (.int .i64 s2_))]⟩) (fun s2_=>(Zx O n [some ⟨false,54,11,1,(Zf a0)⟩])) (Xb (fun z52=>JR n (⟨216,[],[(4,.val (.bool false))]⟩:Env) (Zx O n [none]) (n+1)) (fun z52=>JX 4 n (⟨216,[],[(2,.ref n 0)]⟩:Env) (Zx O n [some ⟨false,54,11,1,(Zf a0)⟩]) (n+1))) ?_
  intro s2_ x2_ hs2_
  unfold Xw at hs2_
  try dsimp only
  refine Zl ?_
  refine Zq [1,2,10,191] (Zc Ze [] ?_)
  simp only [push_cast,seval,↓reduceIte,Za,hN0,hN]
  refine Zs (t:=(decide (s2_ < (a0.Ops.length:Int)))) rfl (fun c51 => ?_) (fun c51 => ?_)
  ·replace hs2_:=Zu c51 hs2_
   refine Zz ?_
   try simp only [Zk,Zh]
   refine Zj [1,2,10] [true] ?_
   simp only [push_cast,seval,↓reduceIte]
   refine Zl ?_
   refine Yw ?_
   refine Zl ?_
   obtain ⟨x48,hx48,ax48,bx48,cx48,hs2_⟩:=bE (f:=Zy) Zg4 (fun _=>rfl) (by decide) hs2_
   obtain ⟨y49,hy49,hs2_⟩:=bC hs2_
   refine Qg Ze (by kernel_rfl) [] (by kernel_rfl) ?_
   simp only [push_cast,Nat.reduceAdd,Nat.reduceSub,Nat.reduceMul,Nat.reduceLeDiff,Nat.reduceLT,Nat.reduceEqDiff,↓reduceIte,reduceCtorEq,Int.reduceBEq,Int.reduceBNe,Nat.reduceBEq,Int.reduceLE,Int.reduceLT,Int.reduceEq,Int.reduceNe,Int.reduceNeg,Nat.reduceDiv,Nat.reduceMod,Nat.reducePow,Za,ax48,bx48,cx48,hN0,hN]
   refine PCall.of (Zeh hy49) ?_
   simp only [push_cast,Nat.reduceAdd,Nat.reduceSub,Nat.reduceMul,Nat.reduceLeDiff,Nat.reduceLT,Nat.reduceEqDiff,↓reduceIte,reduceCtorEq,Int.reduceBEq,Int.reduceBNe,Nat.reduceBEq,Int.reduceLE,Int.reduceLT,Int.reduceEq,Int.reduceNe,Int.reduceNeg,Nat.reduceDiv,Nat.reduceMod,Nat.reducePow,Za,ax48,bx48,cx48,hN0,hN]
   refine Zj [1,2,10,204] [true] ?_
   simp only [push_cast,seval,↓reduceIte]
   refine Zs (t:=(!y49)) rfl (fun c50 => ?_) (fun c50 => ?_)
   ·replace hs2_:=Zu c50 hs2_
    refine Zq [4] (Zc Ze [] ?_)
    simp only [push_cast,seval,↓reduceIte,Za,hN0,hN]
    refine Z4 ?_
    try simp only [Zk,Zh]
    have hs2_:=Option.some.inj hs2_;subst hs2_
    refine And.intro (fun h=>by cases h) (And.intro rfl (Fit2.of (Zi hU rfl rfl ?_) (by omega)))
    simp only [push_cast,seval,↓reduceIte,Za,hN0,hN]
   replace hs2_:=Zt c50 hs2_
   refine Zz ?_
   try simp only [Zk,Zh]
   refine Zj [1,2,10] [true] ?_
   simp only [push_cast,seval,↓reduceIte]
   refine Zc Ze [] ?_
   simp only [push_cast,seval,↓reduceIte,Za,hN0,hN]
   have hs2_:=Option.some.inj hs2_;subst hs2_
   refine And.intro rfl (Fit2.of (Zi hU rfl rfl ?_) (by omega))
   simp only [push_cast,seval,↓reduceIte,Za,hN0,hN]
  replace hs2_:=Zt c51 hs2_
  refine Xt ?_
  try simp only [Zk,Zh,↓reduceIte,Nat.reduceEqDiff]
  have hs2_:=Option.some.inj hs2_;subst hs2_
  refine And.intro (fun h=>by cases h) (And.intro rfl (Fit2.of (Zi hU rfl rfl ?_) (by omega)))
  simp only [push_cast,seval,↓reduceIte,Za,hN0,hN]
 rcases z52 with z52 | z52
 ·dsimp only [Xb] at hw h
  refine Q2 hw ?_
  try simp only [Zk,Zh,↓reduceIte,Nat.reduceEqDiff]
  have h:=Option.some.inj h;subst h
  refine Zr (.inr rfl) hU [.val (.bool false)] (by omega) ?_
  simp only [push_cast,seval,↓reduceIte,Za,Try.results48,hN0,hN]
 dsimp only [Xb] at hw h
 refine Yv hw ?_
 try simp only [Zk,Zh,↓reduceIte,Nat.reduceEqDiff]
 refine Zj [2] [true] ?_
 simp only [push_cast,seval,↓reduceIte]
 refine Zl ?_
 obtain ⟨y54,hy54,h⟩:=bC h
 refine Zc Ze [] ?_
 simp only [push_cast,seval,↓reduceIte,Za,hN0,hN]
 refine (Zcd hy54).then ?_
 simp only [push_cast,seval,↓reduceIte,Za,hN0,hN]
 refine Zj [11,12] [false] ?_
 simp only [push_cast,seval,↓reduceIte]
 refine Zq [4] (Zc Ze [none,none] ?_)
 simp only [push_cast,seval,↓reduceIte,Za,hN0,hN]
 repeat (with_reducible refine And.intro (by first | (intro h0;simp only [h0,and_self];done) | (intro h0;simp only [h0,Bool.not_false,Bool.not_true,Bool.true_and,Bool.and_true,true_and,and_true,and_self,imp_self,implies_true,bne_iff_ne,ne_eq,beq_iff_eq];done) | (intros;simp_all;done) | exact True.intro) ?_)
 refine Z4 ?_
 try simp only [Zk,Zh]
 have h:=Option.some.inj h;subst h
 refine Zr (.inr rfl) hU [.val (.bool (cond (decide (y54.1 < 1048576)) (decide (y54.2 < 1048576)) false))] (by omega) ?_
 simp only [push_cast,seval,↓reduceIte,Za,Try.results48,hN0,hN]
theorem Zl7 {Y5:(S_api_Edit→Int→Option Bool)} {X8:(Int→S_api_Op→Int→Option Bool)} (Gy:∀ {a0:S_api_Edit} {a1:Int} {r:Bool} {O:Objs} {n:Nat},Y5 a0 a1=some r→GTo Try.prog 48 [.agg (Zf a0),.val (.int .i64 a1)] O n (.val (.bool r)) O n) (Zeh:∀ {a0:Int} {a1:S_api_Op} {a2:Int} {r:Bool} {O:Objs} {n:Nat},X8 a0 a1 a2=some r→GTo Try.prog 78 [.val (.int .i64 a0),.agg (Ye a1),.val (.int .i64 a2)] O n (.val (.bool r)) O n) {a0:Int} {a1:S_api_Op} {a2:Int} {r:Bool} {O:Objs} {n:Nat} (h:Gk Y5 X8 a0 a1 a2=some r):GTo Try.prog 78 [.val (.int .i64 a0),.agg (Ye a1),.val (.int .i64 a2)] O n (.val (.bool r)) O n:=by
 unfold Gk at h
 refine Xl Ze Try.call78 Try.func78 rfl (Nat.le_of_ble_eq_true rfl) (Nat.le_refl _) fun hU => ?_
 have hN0:O n=none:=hU.fresh _ (Nat.le_refl _)
 have hN:∀ k,O (n+k)=none:=fun k=>hU.fresh _ (Nat.le_add_right _ _)
 show W _ _ _ _ ⟨121,[],[(0,.val (.int .i64 a0)),(1,.agg (Ye a1)),(2,.val (.int .i64 a2))]⟩ (Zx O n []) _
 refine Zq [0,2,4] (Zc Ze [] ?_)
 simp only [push_cast,seval,↓reduceIte,Za,hN0,hN]
 refine Zl ?_
 refine Zq [0,2,4,10] (Zc Ze [] ?_)
 simp only [push_cast,seval,↓reduceIte,Za,hN0,hN]
 refine Zs (t:=(a1.Kind == 0)) rfl (fun c30 => ?_) (fun c30 => ?_)
 ·replace h:=Zu c30 h
  obtain ⟨z2,hz2,h⟩:=bC h
  refine Y1 (E':=⟨121,[],[(6,.val (.bool z2))]⟩) (O':=(Zx O n [none])) (n0:=(n+1)) ?_ ?_
  ·rcases Bool.eq_false_or_eq_true (decide (1≤a1.N)) with c5 | c5
   ·replace hz2:=Zu c5 hz2
    rcases Bool.eq_false_or_eq_true (decide (a1.N≤1048576)) with c6 | c6
    ·replace hz2:=Zu c6 hz2
     try rw [c6] at c5
     rcases Bool.eq_false_or_eq_true ((a1.L.length:Int) == 0) with c7 | c7
     ·replace hz2:=Zu c7 hz2
      try rw [c7] at c5
      try rw [c7] at c6
      obtain ⟨y4,hy4,hz2⟩:=bC hz2
      refine Zc Ze [none,none,none,none,none,none,none,some true,some true,some true] ?_
      simp only [push_cast,seval,↓reduceIte,Za,c5,c6,c7,hN0,hN]
      repeat (with_reducible refine And.intro (by first | (intro h0;simp only [h0,and_self];done) | (intro h0;simp only [h0,Bool.not_false,Bool.not_true,Bool.true_and,Bool.and_true,true_and,and_true,and_self,imp_self,implies_true,bne_iff_ne,ne_eq,beq_iff_eq];done) | (intros;simp_all;done) | exact True.intro) ?_)
      refine (Zeg hy4).then ?_
      simp only [push_cast,seval,↓reduceIte,Za,c5,c6,c7,hN0,hN]
      repeat (with_reducible refine And.intro (by first | (intro h0;simp only [h0,and_self];done) | (intro h0;simp only [h0,Bool.not_false,Bool.not_true,Bool.true_and,Bool.and_true,true_and,and_true,and_self,imp_self,implies_true,bne_iff_ne,ne_eq,beq_iff_eq];done) | (intros;simp_all;done) | exact True.intro) ?_)
      have hz2:=Option.some.inj hz2;subst hz2
      refine And.intro rfl (Fit2.of (Zi hU rfl rfl ?_) (by omega))
      simp only [push_cast,seval,↓reduceIte,Za,c5,c6,c7,hN0,hN]
     replace hz2:=Zt c7 hz2
     try rw [c7] at c5
     try rw [c7] at c6
     refine Zc Ze [none,none,none,none,none,none,none,some false,some false,some false] ?_
     simp only [push_cast,seval,↓reduceIte,Za,c5,c6,c7,hN0,hN]
     repeat (with_reducible refine And.intro (by first | (intro h0;simp only [h0,and_self];done) | (intro h0;simp only [h0,Bool.not_false,Bool.not_true,Bool.true_and,Bool.and_true,true_and,and_true,and_self,imp_self,implies_true,bne_iff_ne,ne_eq,beq_iff_eq];done) | (intros;simp_all;done) | exact True.intro) ?_)
     have hz2:=Option.some.inj hz2;subst hz2
     refine And.intro rfl (Fit2.of (Zi hU rfl rfl ?_) (by omega))
     simp only [push_cast,seval,↓reduceIte,Za,c5,c6,c7,hN0,hN]
    replace hz2:=Zt c6 hz2
    try rw [c6] at c5
    refine Zc Ze [none,none,none,none,none,none,none,some false,some false,some false] ?_
    simp only [push_cast,seval,↓reduceIte,Za,c5,c6,hN0,hN]
    repeat (with_reducible refine And.intro (by first | (intro h0;simp only [h0,and_self];done) | (intro h0;simp only [h0,Bool.not_false,Bool.not_true,Bool.true_and,Bool.and_true,true_and,and_true,and_self,imp_self,implies_true,bne_iff_ne,ne_eq,beq_iff_eq];done) | (intros;simp_all;done) | exact True.intro) ?_)
    have hz2:=Option.some.inj hz2;subst hz2
    refine And.intro rfl (Fit2.of (Zi hU rfl rfl ?_) (by omega))
    simp only [push_cast,seval,↓reduceIte,Za,c5,c6,hN0,hN]
   replace hz2:=Zt c5 hz2
   refine Zc Ze [none,none,none,none,none,none,none,some false,some false,some false] ?_
   simp only [push_cast,seval,↓reduceIte,Za,c5,hN0,hN]
   repeat (with_reducible refine And.intro (by first | (intro h0;simp only [h0,and_self];done) | (intro h0;simp only [h0,Bool.not_false,Bool.not_true,Bool.true_and,Bool.and_true,true_and,and_true,and_self,imp_self,implies_true,bne_iff_ne,ne_eq,beq_iff_eq];done) | (intros;simp_all;done) | exact True.intro) ?_)
   have hz2:=Option.some.inj hz2;subst hz2
   refine And.intro rfl (Fit2.of (Zi hU rfl rfl ?_) (by omega))
   simp only [push_cast,seval,↓reduceIte,Za,c5,hN0,hN]
  refine Z4 ?_
  try simp only [Zk,Zh]
  have h:=Option.some.inj h;subst h
  refine Zr (.inr rfl) hU [.val (.bool z2)] (by omega) ?_
  simp only [push_cast,seval,↓reduceIte,Za,Try.results78,hN0,hN]
 replace h:=Zt c30 h
 refine Zz ?_
 try simp only [Zk,Zh]
 refine Zj [0,2,4] [true] ?_
 simp only [push_cast,seval,↓reduceIte]
 refine Zl ?_
 refine Zq [0,2,4,42] (Zc Ze [none,none,none,none,none,none] ?_)
 simp only [push_cast,seval,↓reduceIte,Za,hN0,hN]
 repeat (with_reducible refine And.intro (by first | (intro h0;simp only [h0,and_self];done) | (intro h0;simp only [h0,Bool.not_false,Bool.not_true,Bool.true_and,Bool.and_true,true_and,and_true,and_self,imp_self,implies_true,bne_iff_ne,ne_eq,beq_iff_eq];done) | (intros;simp_all;done) | exact True.intro) ?_)
 refine Zs (t:=(cond (cond (a1.N != 0) true (decide (a1.Kind < 0))) true (decide (3 < a1.Kind)))) rfl (fun c29 => ?_) (fun c29 => ?_)
 ·replace h:=Zu c29 h
  refine Zq [6] (Zc Ze [] ?_)
  simp only [push_cast,seval,↓reduceIte,Za,hN0,hN]
  refine Z4 ?_
  try simp only [Zk,Zh]
  have h:=Option.some.inj h;subst h
  refine Zr (.inr rfl) hU [.val (.bool false)] (by omega) ?_
  simp only [push_cast,seval,↓reduceIte,Za,Try.results78,hN0,hN]
 replace h:=Zt c29 h
 refine Zz ?_
 try simp only [Zk,Zh]
 refine Zj [0,2,4] [true] ?_
 simp only [push_cast,seval,↓reduceIte]
 refine Zl ?_
 refine Zq [0,2,4,45] (Zc Ze [] ?_)
 simp only [push_cast,seval,↓reduceIte,Za,hN0,hN]
 refine Zs (t:=(decide (a1.Kind < 3))) rfl (fun c28 => ?_) (fun c28 => ?_)
 ·replace h:=Zu c28 h
  refine Zl ?_
  refine Zq [0,4,7] (Zc Ze [] ?_)
  simp only [push_cast,seval,↓reduceIte,Za,hN0,hN]
  refine Zj [0,4,7] [true] ?_
  simp only [push_cast,seval,↓reduceIte]
  obtain ⟨z14,hz14,h⟩:=bC h
  refine Gf (J:=(Xb (fun z14=>JR n (⟨121,[],[(6,.val (.bool false))]⟩:Env) (Zx O n [none]) (n+1)) (fun z14=>JX 0 n (⟨121,[],[(4,.ref n 0)]⟩:Env) (Zx O n [some ⟨false,64,14,1,(Ye a1)⟩]) (n+1)))) (z:=z14) ?_ fun hw => ?_
  ·refine Y6 hz14 (fun s0_=>⟨121,[],[(0,.val (.int .i64 a0)),(4,.ref n 0),(7,.val (.int .i64 s0_))]⟩) (fun s0_=>(Zx O n [some ⟨false,64,14,1,(Ye a1)⟩])) (Xb (fun z14=>JR n (⟨121,[],[(6,.val (.bool false))]⟩:Env) (Zx O n [none]) (n+1)) (fun z14=>JX 0 n (⟨121,[],[(4,.ref n 0)]⟩:Env) (Zx O n [some ⟨false,64,14,1,(Ye a1)⟩]) (n+1))) ?_
   intro s0_ x0_ hs0_
   unfold Vq at hs0_
   try dsimp only
   refine Zl ?_
   refine Zq [0,4,7,50] (Zc Ze [] ?_)
   simp only [push_cast,seval,↓reduceIte,Za,hN0,hN]
   refine Zs (t:=(decide (s0_ < (a1.L.length:Int)))) rfl (fun c13 => ?_) (fun c13 => ?_)
   ·replace hs0_:=Zu c13 hs0_
    refine Zz ?_
    try simp only [Zk,Zh]
    refine Zj [0,4,7] [true] ?_
    simp only [push_cast,seval,↓reduceIte]
    refine Zl ?_
    refine Yw ?_
    refine Zl ?_
    obtain ⟨l10,al10,bl10,cl10,gl10,hs0_⟩:=bS (lo:=(some (.i64,s0_))) (hi:=(some (.i64,(IntKind.i64.wrap (s0_+1))))) (f:=Zb) rfl rfl Zax Ki (fun _=>rfl) hs0_
    obtain ⟨y11,hy11,hs0_⟩:=bC hs0_
    refine Zc Ze [] ?_
    simp only [push_cast,seval,↓reduceIte,Za,al10,bl10,cl10,gl10,hN0,hN]
    refine GCalls.argsW ?_ ((K9 hy11).then ?_)
    ·simp only [push_cast,seval,↓reduceIte,Za,al10,bl10,cl10,gl10,hN0,hN]
    simp only [push_cast,seval,↓reduceIte,Za,al10,bl10,cl10,gl10,hN0,hN]
    refine Zj [0,4,7,62] [true] ?_
    simp only [push_cast,seval,↓reduceIte]
    refine Zs (t:=(!y11)) rfl (fun c12 => ?_) (fun c12 => ?_)
    ·replace hs0_:=Zu c12 hs0_
     refine Zq [6] (Zc Ze [] ?_)
     simp only [push_cast,seval,↓reduceIte,Za,hN0,hN]
     refine Z4 ?_
     try simp only [Zk,Zh]
     have hs0_:=Option.some.inj hs0_;subst hs0_
     refine And.intro (fun h=>by cases h) (And.intro rfl (Fit2.of (Zi hU rfl rfl ?_) (by omega)))
     simp only [push_cast,seval,↓reduceIte,Za,hN0,hN]
    replace hs0_:=Zt c12 hs0_
    refine Zz ?_
    try simp only [Zk,Zh]
    refine Zj [0,4,7] [true] ?_
    simp only [push_cast,seval,↓reduceIte]
    refine Zc Ze [] ?_
    simp only [push_cast,seval,↓reduceIte,Za,hN0,hN]
    have hs0_:=Option.some.inj hs0_;subst hs0_
    refine And.intro rfl (Fit2.of (Zi hU rfl rfl ?_) (by omega))
    simp only [push_cast,seval,↓reduceIte,Za,hN0,hN]
   replace hs0_:=Zt c13 hs0_
   refine Xt ?_
   try simp only [Zk,Zh,↓reduceIte,Nat.reduceEqDiff]
   have hs0_:=Option.some.inj hs0_;subst hs0_
   refine And.intro (fun h=>by cases h) (And.intro rfl (Fit2.of (Zi hU rfl rfl ?_) (by omega)))
   simp only [push_cast,seval,↓reduceIte,Za,hN0,hN]
  rcases z14 with z14 | z14
  ·dsimp only [Xb] at hw h
   refine Q2 hw ?_
   try simp only [Zk,Zh,↓reduceIte,Nat.reduceEqDiff]
   have h:=Option.some.inj h;subst h
   refine Zr (.inr rfl) hU [.val (.bool false)] (by omega) ?_
   simp only [push_cast,seval,↓reduceIte,Za,Try.results78,hN0,hN]
  dsimp only [Xb] at hw h
  refine Yv hw ?_
  try simp only [Zk,Zh,↓reduceIte,Nat.reduceEqDiff]
  refine Zj [4] [true] ?_
  simp only [push_cast,seval,↓reduceIte]
  obtain ⟨z16,hz16,h⟩:=bC h
  refine Y1 (E':=⟨121,[],[(6,.val (.bool z16))]⟩) (O':=(Zx O n [none])) (n0:=(n+1)) ?_ ?_
  ·rcases Bool.eq_false_or_eq_true (decide (0 < (a1.L.length:Int))) with c19 | c19
   ·replace hz16:=Zu c19 hz16
    obtain ⟨y18,hy18,hz16⟩:=bC hz16
    refine Zc Ze [some true,some true,some true] ?_
    simp only [push_cast,seval,↓reduceIte,Za,c19,hN0,hN]
    refine (Zeg hy18).then ?_
    simp only [push_cast,seval,↓reduceIte,Za,c19,hN0,hN]
    have hz16:=Option.some.inj hz16;subst hz16
    refine And.intro rfl (Fit2.of (Zi hU rfl rfl ?_) (by omega))
    simp only [push_cast,seval,↓reduceIte,Za,c19,hN0,hN]
   replace hz16:=Zt c19 hz16
   refine Zc Ze [some false,some false,some false] ?_
   simp only [push_cast,seval,↓reduceIte,Za,c19,hN0,hN]
   have hz16:=Option.some.inj hz16;subst hz16
   refine And.intro rfl (Fit2.of (Zi hU rfl rfl ?_) (by omega))
   simp only [push_cast,seval,↓reduceIte,Za,c19,hN0,hN]
  refine Z4 ?_
  try simp only [Zk,Zh]
  have h:=Option.some.inj h;subst h
  refine Zr (.inr rfl) hU [.val (.bool z16)] (by omega) ?_
  simp only [push_cast,seval,↓reduceIte,Za,Try.results78,hN0,hN]
 replace h:=Zt c28 h
 refine Zz ?_
 try simp only [Zk,Zh]
 refine Zj [0,2,4] [true] ?_
 simp only [push_cast,seval,↓reduceIte]
 refine Zl ?_
 obtain ⟨z21,hz21,h⟩:=bC h
 refine Y1 (E':=⟨121,[],[(0,.val (.int .i64 a0)),(4,.ref n 0),(92,.val (.bool z21))]⟩) (O':=(Zx O n [some ⟨false,64,14,1,(Ye a1)⟩])) (n0:=(n+1)) ?_ ?_
 ·rcases Bool.eq_false_or_eq_true (decide (0 < (a1.L.length:Int))) with c24 | c24
  ·replace hz21:=Zu c24 hz21
   refine Zc Ze [none,none,none,none,none,none,some false,some false,some false,some false,some false] ?_
   simp only [push_cast,seval,↓reduceIte,Za,c24,hN0,hN]
   repeat (with_reducible refine And.intro (by first | (intro h0;simp only [h0,and_self];done) | (intro h0;simp only [h0,Bool.not_false,Bool.not_true,Bool.true_and,Bool.and_true,true_and,and_true,and_self,imp_self,implies_true,bne_iff_ne,ne_eq,beq_iff_eq];done) | (intros;simp_all;done) | exact True.intro) ?_)
   have hz21:=Option.some.inj hz21;subst hz21
   refine And.intro rfl (Fit2.of (Zi hU rfl rfl ?_) (by omega))
   simp only [push_cast,seval,↓reduceIte,Za,c24,hN0,hN]
  replace hz21:=Zt c24 hz21
  rcases Bool.eq_false_or_eq_true (a1.E.Kind == 0) with c25 | c25
  ·replace hz21:=Zu c25 hz21
   try rw [c25] at c24
   refine Zc Ze [none,none,none,none,none,none,some false,some false,some false,some false,some false] ?_
   simp only [push_cast,seval,↓reduceIte,Za,c24,c25,hN0,hN]
   repeat (with_reducible refine And.intro (by first | (intro h0;simp only [h0,and_self];done) | (intro h0;simp only [h0,Bool.not_false,Bool.not_true,Bool.true_and,Bool.and_true,true_and,and_true,and_self,imp_self,implies_true,bne_iff_ne,ne_eq,beq_iff_eq];done) | (intros;simp_all;done) | exact True.intro) ?_)
   have hz21:=Option.some.inj hz21;subst hz21
   refine And.intro rfl (Fit2.of (Zi hU rfl rfl ?_) (by omega))
   simp only [push_cast,seval,↓reduceIte,Za,c24,c25,hN0,hN]
  replace hz21:=Zt c25 hz21
  try rw [c25] at c24
  rcases Bool.eq_false_or_eq_true (decide (a0≤7)) with c26 | c26
  ·replace hz21:=Zu c26 hz21
   try rw [c26] at c24
   try rw [c26] at c25
   refine Zc Ze [none,none,none,none,none,none,some false,some false,some false,some false,some false] ?_
   simp only [push_cast,seval,↓reduceIte,Za,c24,c25,c26,hN0,hN]
   repeat (with_reducible refine And.intro (by first | (intro h0;simp only [h0,and_self];done) | (intro h0;simp only [h0,Bool.not_false,Bool.not_true,Bool.true_and,Bool.and_true,true_and,and_true,and_self,imp_self,implies_true,bne_iff_ne,ne_eq,beq_iff_eq];done) | (intros;simp_all;done) | exact True.intro) ?_)
   have hz21:=Option.some.inj hz21;subst hz21
   refine And.intro rfl (Fit2.of (Zi hU rfl rfl ?_) (by omega))
   simp only [push_cast,seval,↓reduceIte,Za,c24,c25,c26,hN0,hN]
  replace hz21:=Zt c26 hz21
  try rw [c26] at c24
  try rw [c26] at c25
  obtain ⟨y23,hy23,hz21⟩:=bC hz21
  refine Zc Ze [none,none,none,none,none,none,some true,some true,some true,some true,some true] ?_
  simp only [push_cast,seval,↓reduceIte,Za,c24,c25,c26,hN0,hN]
  repeat (with_reducible refine And.intro (by first | (intro h0;simp only [h0,and_self];done) | (intro h0;simp only [h0,Bool.not_false,Bool.not_true,Bool.true_and,Bool.and_true,true_and,and_true,and_self,imp_self,implies_true,bne_iff_ne,ne_eq,beq_iff_eq];done) | (intros;simp_all;done) | exact True.intro) ?_)
  refine (Gy hy23).then ?_
  simp only [push_cast,seval,↓reduceIte,Za,c24,c25,c26,hN0,hN]
  repeat (with_reducible refine And.intro (by first | (intro h0;simp only [h0,and_self];done) | (intro h0;simp only [h0,Bool.not_false,Bool.not_true,Bool.true_and,Bool.and_true,true_and,and_true,and_self,imp_self,implies_true,bne_iff_ne,ne_eq,beq_iff_eq];done) | (intros;simp_all;done) | exact True.intro) ?_)
  have hz21:=Option.some.inj hz21;subst hz21
  refine And.intro rfl (Fit2.of (Zi hU rfl rfl ?_) (by omega))
  simp only [push_cast,seval,↓reduceIte,Za,c24,c25,c26,hN0,hN]
 refine Zs (t:=z21) rfl (fun c27 => ?_) (fun c27 => ?_)
 ·replace h:=Zu c27 h
  refine Zq [6] (Zc Ze [] ?_)
  simp only [push_cast,seval,↓reduceIte,Za,hN0,hN]
  refine Z4 ?_
  try simp only [Zk,Zh]
  have h:=Option.some.inj h;subst h
  refine Zr (.inr rfl) hU [.val (.bool false)] (by omega) ?_
  simp only [push_cast,seval,↓reduceIte,Za,Try.results78,hN0,hN]
 replace h:=Zt c27 h
 refine Zz ?_
 try simp only [Zk,Zh]
 refine Zj [0,4] [true] ?_
 simp only [push_cast,seval,↓reduceIte]
 refine Zq [6] (Zc Ze [none,none,none,none,none,none,none,none,none,none,none,none,none,none,none,none,none,none,none,none,none,none] ?_)
 simp only [push_cast,seval,↓reduceIte,Za,hN0,hN]
 repeat (with_reducible refine And.intro (by first | (intro h0;simp only [h0,and_self];done) | (intro h0;simp only [h0,Bool.not_false,Bool.not_true,Bool.true_and,Bool.and_true,true_and,and_true,and_self,imp_self,implies_true,bne_iff_ne,ne_eq,beq_iff_eq];done) | (intros;simp_all;done) | exact True.intro) ?_)
 refine Z4 ?_
 try simp only [Zk,Zh]
 have h:=Option.some.inj h;subst h
 refine Zr (.inr rfl) hU [.val (.bool (cond (cond (a0 == 8) true (a1.E.Kind == 2)) true (cond (cond (a1.E.Kind == 1) (a1.E.Old.Kind == 1) false) (a1.E.New.Kind == 1) false)))] (by omega) ?_
 simp only [push_cast,seval,↓reduceIte,Za,Try.results78,hN0,hN]
theorem Zhj:∀ k,(∀ {a0:S_api_Edit} {a1:Int} {r:Bool} {O:Objs} {n:Nat},(Yd k).1 a0 a1=some r→GTo Try.prog 48 [.agg (Zf a0),.val (.int .i64 a1)] O n (.val (.bool r)) O n)∧(∀ {a0:Int} {a1:S_api_Op} {a2:Int} {r:Bool} {O:Objs} {n:Nat},(Yd k).2 a0 a1 a2=some r→GTo Try.prog 78 [.val (.int .i64 a0),.agg (Ye a1),.val (.int .i64 a2)] O n (.val (.bool r)) O n):=fun k=>by
 induction k with
 | zero=>exact ⟨@fun a0 a1 r O n h=>(nomatch (show (none:Option _)=some _ from h)),@fun a0 a1 a2 r O n h=>(nomatch (show (none:Option _)=some _ from h))⟩
 | succ k ih=>exact ⟨@fun a0 a1 r O n h=>Zi3 (ih.1) (ih.2)  h,@fun a0 a1 a2 r O n h=>Zl7 (ih.1) (ih.2)  h⟩
theorem Zdu {a0:S_api_Edit} {a1:Int} {r:Bool} {O:Objs} {n:Nat} (h:Zbe a0 a1=some r):GTo Try.prog 48 [.agg (Zf a0),.val (.int .i64 a1)] O n (.val (.bool r)) O n:=by
 obtain ⟨k,hk⟩:=Gm h
 exact (Zhj k).1  hk
theorem Zi2 {Xs:(S_api_Edit→Option Bool)} (Zce:∀ {a0:S_api_Edit} {r:Bool} {O:Objs} {n:Nat},Xs a0=some r→GTo Try.prog 85 [.agg (Zf a0)] O n (.val (.bool r)) O n) {a0:S_api_Edit} {r:Bool} {O:Objs} {n:Nat} (h:Vo Xs a0=some r):GTo Try.prog 85 [.agg (Zf a0)] O n (.val (.bool r)) O n:=by
 unfold Vo at h
 refine Xl Ze Try.call85 Try.func85 rfl (Nat.le_of_ble_eq_true rfl) (Nat.le_refl _) fun hU => ?_
 have hN0:O n=none:=hU.fresh _ (Nat.le_refl _)
 have hN:∀ k,O (n+k)=none:=fun k=>hU.fresh _ (Nat.le_add_right _ _)
 show W _ _ _ _ ⟨48,[],[(0,.agg (Zf a0))]⟩ (Zx O n []) _
 refine Zq [1] (Zc Ze [] ?_)
 simp only [push_cast,seval,↓reduceIte,Za,hN0,hN]
 refine Zl ?_
 obtain ⟨y2,hy2,h⟩:=bC h
 refine Zc Ze [] ?_
 simp only [push_cast,seval,↓reduceIte,Za,hN0,hN]
 refine (Zcd hy2).then ?_
 simp only [push_cast,seval,↓reduceIte,Za,hN0,hN]
 refine Zj [1,3,4] [true] ?_
 simp only [push_cast,seval,↓reduceIte]
 refine Zl ?_
 refine Zq [1,17] (Zc Ze [none,none] ?_)
 simp only [push_cast,seval,↓reduceIte,Za,hN0,hN]
 repeat (with_reducible refine And.intro (by first | (intro h0;simp only [h0,and_self];done) | (intro h0;simp only [h0,Bool.not_false,Bool.not_true,Bool.true_and,Bool.and_true,true_and,and_true,and_self,imp_self,implies_true,bne_iff_ne,ne_eq,beq_iff_eq];done) | (intros;simp_all;done) | exact True.intro) ?_)
 refine Zs (t:=(cond (decide (2000 < y2.1)) true (decide (2000 < y2.2)))) rfl (fun c21 => ?_) (fun c21 => ?_)
 ·replace h:=Zu c21 h
  refine Zq [2] (Zc Ze [] ?_)
  simp only [push_cast,seval,↓reduceIte,Za,hN0,hN]
  refine Z4 ?_
  try simp only [Zk,Zh]
  have h:=Option.some.inj h;subst h
  refine Zr (.inr rfl) hU [.val (.bool false)] (by omega) ?_
  simp only [push_cast,seval,↓reduceIte,Za,Try.results85,hN0,hN]
 replace h:=Zt c21 h
 refine Zz ?_
 try simp only [Zk,Zh]
 refine Zj [1] [true] ?_
 simp only [push_cast,seval,↓reduceIte]
 refine Zl ?_
 refine Zq [1,5] (Zc Ze [] ?_)
 simp only [push_cast,seval,↓reduceIte,Za,hN0,hN]
 refine Zj [1,5] [true] ?_
 simp only [push_cast,seval,↓reduceIte]
 obtain ⟨z11,hz11,h⟩:=bC h
 refine Gf (J:=(Xb (fun z11=>JR n (⟨48,[],[(2,.val (.bool false))]⟩:Env) (Zx O n [none]) (n+1)) (fun z11=>JX 0 n (⟨48,[],[(1,.ref n 0)]⟩:Env) (Zx O n [some ⟨false,54,11,1,(Zf a0)⟩]) (n+1)))) (z:=z11) ?_ fun hw => ?_
 ·refine Y6 hz11 (fun s0_=>⟨48,[],[(1,.ref n 0),(5,.val (.int .i64 s0_))]⟩) (fun s0_=>(Zx O n [some ⟨false,54,11,1,(Zf a0)⟩])) (Xb (fun z11=>JR n (⟨48,[],[(2,.val (.bool false))]⟩:Env) (Zx O n [none]) (n+1)) (fun z11=>JX 0 n (⟨48,[],[(1,.ref n 0)]⟩:Env) (Zx O n [some ⟨false,54,11,1,(Zf a0)⟩]) (n+1))) ?_
  intro s0_ x0_ hs0_
  unfold Jd at hs0_
  try dsimp only
  refine Zl ?_
  refine Zq [1,5,22] (Zc Ze [] ?_)
  simp only [push_cast,seval,↓reduceIte,Za,hN0,hN]
  refine Zs (t:=(decide (s0_ < (a0.Kids.length:Int)))) rfl (fun c10 => ?_) (fun c10 => ?_)
  ·replace hs0_:=Zu c10 hs0_
   refine Zz ?_
   try simp only [Zk,Zh]
   refine Zj [1,5] [true] ?_
   simp only [push_cast,seval,↓reduceIte]
   refine Zl ?_
   refine Yw ?_
   refine Zl ?_
   obtain ⟨x6,hx6,ax6,bx6,cx6,hs0_⟩:=bE (f:=Zo) Zg3 (fun _=>rfl) (by decide) hs0_
   have g7:=Zbm (f:=Zo) (off:=1) (sz:=12) Zkv (fun _=>rfl) (by decide) (by decide) hx6
   obtain ⟨y8,hy8,hs0_⟩:=bC hs0_
   refine Zc Ze [] ?_
   simp only [push_cast,Nat.reduceAdd,Nat.reduceSub,Nat.reduceMul,Nat.reduceLeDiff,Nat.reduceLT,Nat.reduceEqDiff,↓reduceIte,reduceCtorEq,Int.reduceBEq,Int.reduceBNe,Nat.reduceBEq,Int.reduceLE,Int.reduceLT,Int.reduceEq,Int.reduceNe,Int.reduceNeg,Nat.reduceDiv,Nat.reduceMod,Nat.reducePow,Za,ax6,bx6,cx6,g7,hN0,hN]
   refine (Zce hy8).then ?_
   simp only [push_cast,Nat.reduceAdd,Nat.reduceSub,Nat.reduceMul,Nat.reduceLeDiff,Nat.reduceLT,Nat.reduceEqDiff,↓reduceIte,reduceCtorEq,Int.reduceBEq,Int.reduceBNe,Nat.reduceBEq,Int.reduceLE,Int.reduceLT,Int.reduceEq,Int.reduceNe,Int.reduceNeg,Nat.reduceDiv,Nat.reduceMod,Nat.reducePow,Za,ax6,bx6,cx6,g7,hN0,hN]
   refine Zj [1,5,32] [true] ?_
   simp only [push_cast,seval,↓reduceIte]
   refine Zs (t:=(!y8)) rfl (fun c9 => ?_) (fun c9 => ?_)
   ·replace hs0_:=Zu c9 hs0_
    refine Zq [2] (Zc Ze [] ?_)
    simp only [push_cast,seval,↓reduceIte,Za,hN0,hN]
    refine Z4 ?_
    try simp only [Zk,Zh]
    have hs0_:=Option.some.inj hs0_;subst hs0_
    refine And.intro (fun h=>by cases h) (And.intro rfl (Fit2.of (Zi hU rfl rfl ?_) (by omega)))
    simp only [push_cast,seval,↓reduceIte,Za,hN0,hN]
   replace hs0_:=Zt c9 hs0_
   refine Zz ?_
   try simp only [Zk,Zh]
   refine Zj [1,5] [true] ?_
   simp only [push_cast,seval,↓reduceIte]
   refine Zc Ze [] ?_
   simp only [push_cast,seval,↓reduceIte,Za,hN0,hN]
   have hs0_:=Option.some.inj hs0_;subst hs0_
   refine And.intro rfl (Fit2.of (Zi hU rfl rfl ?_) (by omega))
   simp only [push_cast,seval,↓reduceIte,Za,hN0,hN]
  replace hs0_:=Zt c10 hs0_
  refine Xt ?_
  try simp only [Zk,Zh,↓reduceIte,Nat.reduceEqDiff]
  have hs0_:=Option.some.inj hs0_;subst hs0_
  refine And.intro (fun h=>by cases h) (And.intro rfl (Fit2.of (Zi hU rfl rfl ?_) (by omega)))
  simp only [push_cast,seval,↓reduceIte,Za,hN0,hN]
 rcases z11 with z11 | z11
 ·dsimp only [Xb] at hw h
  refine Q2 hw ?_
  try simp only [Zk,Zh,↓reduceIte,Nat.reduceEqDiff]
  have h:=Option.some.inj h;subst h
  refine Zr (.inr rfl) hU [.val (.bool false)] (by omega) ?_
  simp only [push_cast,seval,↓reduceIte,Za,Try.results85,hN0,hN]
 dsimp only [Xb] at hw h
 refine Yv hw ?_
 try simp only [Zk,Zh,↓reduceIte,Nat.reduceEqDiff]
 refine Zj [1] [true] ?_
 simp only [push_cast,seval,↓reduceIte]
 refine Zl ?_
 refine Zq [1,6] (Zc Ze [] ?_)
 simp only [push_cast,seval,↓reduceIte,Za,hN0,hN]
 refine Zj [1,6] [true] ?_
 simp only [push_cast,seval,↓reduceIte]
 obtain ⟨z20,hz20,h⟩:=bC h
 refine Gf (J:=(Xb (fun z20=>JR n (⟨48,[],[(2,.val (.bool false))]⟩:Env) (Zx O n [none]) (n+1)) (fun z20=>JX 2 n (⟨48,[],[]⟩:Env) (Zx O n [none]) (n+1)))) (z:=z20) ?_ fun hw => ?_
 ·refine Y6 hz20 (fun s1_=>⟨48,[],[(1,.ref n 0),(6,.val (.int .i64 s1_))]⟩) (fun s1_=>(Zx O n [some ⟨false,54,11,1,(Zf a0)⟩])) (Xb (fun z20=>JR n (⟨48,[],[(2,.val (.bool false))]⟩:Env) (Zx O n [none]) (n+1)) (fun z20=>JX 2 n (⟨48,[],[]⟩:Env) (Zx O n [none]) (n+1))) ?_
  intro s1_ x1_ hs1_
  unfold Je at hs1_
  try dsimp only
  refine Zl ?_
  refine Zq [1,6,37] (Zc Ze [] ?_)
  simp only [push_cast,seval,↓reduceIte,Za,hN0,hN]
  refine Zs (t:=(decide (s1_ < (a0.Ops.length:Int)))) rfl (fun c19 => ?_) (fun c19 => ?_)
  ·replace hs1_:=Zu c19 hs1_
   refine Zz ?_
   try simp only [Zk,Zh]
   refine Zj [1,6] [true] ?_
   simp only [push_cast,seval,↓reduceIte]
   refine Zl ?_
   refine Yw ?_
   refine Zl ?_
   obtain ⟨x15,hx15,ax15,bx15,cx15,hs1_⟩:=bE (f:=Zy) Zg4 (fun _=>rfl) (by decide) hs1_
   have g16:=Zbm (f:=Zy) (off:=3) (sz:=14) Zkv (fun _=>rfl) (by decide) (by decide) hx15
   obtain ⟨y17,hy17,hs1_⟩:=bC hs1_
   refine Zc Ze [] ?_
   simp only [push_cast,Nat.reduceAdd,Nat.reduceSub,Nat.reduceMul,Nat.reduceLeDiff,Nat.reduceLT,Nat.reduceEqDiff,↓reduceIte,reduceCtorEq,Int.reduceBEq,Int.reduceBNe,Nat.reduceBEq,Int.reduceLE,Int.reduceLT,Int.reduceEq,Int.reduceNe,Int.reduceNeg,Nat.reduceDiv,Nat.reduceMod,Nat.reducePow,Za,ax15,bx15,cx15,g16,hN0,hN]
   refine (Zce hy17).then ?_
   simp only [push_cast,Nat.reduceAdd,Nat.reduceSub,Nat.reduceMul,Nat.reduceLeDiff,Nat.reduceLT,Nat.reduceEqDiff,↓reduceIte,reduceCtorEq,Int.reduceBEq,Int.reduceBNe,Nat.reduceBEq,Int.reduceLE,Int.reduceLT,Int.reduceEq,Int.reduceNe,Int.reduceNeg,Nat.reduceDiv,Nat.reduceMod,Nat.reducePow,Za,ax15,bx15,cx15,g16,hN0,hN]
   refine Zj [1,6,47] [true] ?_
   simp only [push_cast,seval,↓reduceIte]
   refine Zs (t:=(!y17)) rfl (fun c18 => ?_) (fun c18 => ?_)
   ·replace hs1_:=Zu c18 hs1_
    refine Zq [2] (Zc Ze [] ?_)
    simp only [push_cast,seval,↓reduceIte,Za,hN0,hN]
    refine Z4 ?_
    try simp only [Zk,Zh]
    have hs1_:=Option.some.inj hs1_;subst hs1_
    refine And.intro (fun h=>by cases h) (And.intro rfl (Fit2.of (Zi hU rfl rfl ?_) (by omega)))
    simp only [push_cast,seval,↓reduceIte,Za,hN0,hN]
   replace hs1_:=Zt c18 hs1_
   refine Zz ?_
   try simp only [Zk,Zh]
   refine Zj [1,6] [true] ?_
   simp only [push_cast,seval,↓reduceIte]
   refine Zc Ze [] ?_
   simp only [push_cast,seval,↓reduceIte,Za,hN0,hN]
   have hs1_:=Option.some.inj hs1_;subst hs1_
   refine And.intro rfl (Fit2.of (Zi hU rfl rfl ?_) (by omega))
   simp only [push_cast,seval,↓reduceIte,Za,hN0,hN]
  replace hs1_:=Zt c19 hs1_
  refine Xt ?_
  try simp only [Zk,Zh,↓reduceIte,Nat.reduceEqDiff]
  have hs1_:=Option.some.inj hs1_;subst hs1_
  refine And.intro (fun h=>by cases h) (And.intro rfl (Fit2.of (Zi hU rfl rfl ?_) (by omega)))
  simp only [push_cast,seval,↓reduceIte,Za,hN0,hN]
 rcases z20 with z20 | z20
 ·dsimp only [Xb] at hw h
  refine Q2 hw ?_
  try simp only [Zk,Zh,↓reduceIte,Nat.reduceEqDiff]
  have h:=Option.some.inj h;subst h
  refine Zr (.inr rfl) hU [.val (.bool false)] (by omega) ?_
  simp only [push_cast,seval,↓reduceIte,Za,Try.results85,hN0,hN]
 dsimp only [Xb] at hw h
 refine Yv hw ?_
 try simp only [Zk,Zh,↓reduceIte,Nat.reduceEqDiff]
 refine Zj [] [false] ?_
 simp only [push_cast,seval,↓reduceIte]
 refine Zq [2] (Zc Ze [] ?_)
 simp only [push_cast,seval,↓reduceIte,Za,hN0,hN]
 refine Z4 ?_
 try simp only [Zk,Zh]
 have h:=Option.some.inj h;subst h
 refine Zr (.inr rfl) hU [.val (.bool true)] (by omega) ?_
 simp only [push_cast,seval,↓reduceIte,Za,Try.results85,hN0,hN]
theorem Zhi:∀ k,(∀ {a0:S_api_Edit} {r:Bool} {O:Objs} {n:Nat},(Qe k) a0=some r→GTo Try.prog 85 [.agg (Zf a0)] O n (.val (.bool r)) O n):=fun k=>by
 induction k with
 | zero=>exact @fun a0 r O n h=>(nomatch (show (none:Option _)=some _ from h))
 | succ k ih=>exact @fun a0 r O n h=>Zi2 (ih)  h
theorem Zkm {a0:S_api_Edit} {r:Bool} {O:Objs} {n:Nat} (h:Zbd a0=some r):GTo Try.prog 85 [.agg (Zf a0)] O n (.val (.bool r)) O n:=by
 obtain ⟨k,hk⟩:=Gm h
 exact (Zhi k)  hk
theorem Zk6 {a0:S_api_Edit} {r:Bool} {O:Objs} {n:Nat} (h:Ui a0=some r):GTo Try.prog 54 [.agg (Zf a0)] O n (.val (.bool r)) O n:=by
 unfold Ui at h
 refine Xl Ze Try.call54 Try.func54 rfl (Nat.le_of_ble_eq_true rfl) (Nat.le_refl _) fun hU => ?_
 have hN0:O n=none:=hU.fresh _ (Nat.le_refl _)
 have hN:∀ k,O (n+k)=none:=fun k=>hU.fresh _ (Nat.le_add_right _ _)
 show W _ _ _ _ ⟨13,[],[(0,.agg (Zf a0))]⟩ (Zx O n []) _
 refine Zq [1] (Zc Ze [] ?_)
 simp only [push_cast,seval,↓reduceIte,Za,hN0,hN]
 obtain ⟨z4,hz4,h⟩:=bC h
 refine Y1 (E':=⟨13,[],[(2,.val (.bool z4))]⟩) (O':=(Zx O n [none])) (n0:=(n+1)) ?_ ?_
 ·obtain ⟨y8,hy8,hz4⟩:=bC hz4
  rcases Bool.eq_false_or_eq_true y8 with c11 | c11
  ·replace hz4:=Zu c11 hz4
   obtain ⟨y9,hy9,hz4⟩:=bC hz4
   rcases Bool.eq_false_or_eq_true y9 with c12 | c12
   ·replace hz4:=Zu c12 hz4
    try rw [c12] at c11
    obtain ⟨y10,hy10,hz4⟩:=bC hz4
    refine Zc Ze [some true,some true,some true,some true] ?_
    simp only [push_cast,seval,↓reduceIte,Za,c11,c12,hN0,hN]
    refine (Zb4 hy8).then ?_
    simp only [push_cast,seval,↓reduceIte,Za,c11,c12,hN0,hN]
    refine (Zdu hy9).then ?_
    simp only [push_cast,seval,↓reduceIte,Za,c11,c12,hN0,hN]
    refine (Zkm hy10).then ?_
    simp only [push_cast,seval,↓reduceIte,Za,c11,c12,hN0,hN]
    have hz4:=Option.some.inj hz4;subst hz4
    refine And.intro rfl (Fit2.of (Zi hU rfl rfl ?_) (by omega))
    simp only [push_cast,seval,↓reduceIte,Za,c11,c12,hN0,hN]
   replace hz4:=Zt c12 hz4
   try rw [c12] at c11
   refine Zc Ze [some true,some true,some false,some false] ?_
   simp only [push_cast,seval,↓reduceIte,Za,c11,c12,hN0,hN]
   refine (Zb4 hy8).then ?_
   simp only [push_cast,seval,↓reduceIte,Za,c11,c12,hN0,hN]
   refine (Zdu hy9).then ?_
   simp only [push_cast,seval,↓reduceIte,Za,c11,c12,hN0,hN]
   have hz4:=Option.some.inj hz4;subst hz4
   refine And.intro rfl (Fit2.of (Zi hU rfl rfl ?_) (by omega))
   simp only [push_cast,seval,↓reduceIte,Za,c11,c12,hN0,hN]
  replace hz4:=Zt c11 hz4
  refine Zc Ze [some false,some false,some false,some false] ?_
  simp only [push_cast,seval,↓reduceIte,Za,c11,hN0,hN]
  refine (Zb4 hy8).then ?_
  simp only [push_cast,seval,↓reduceIte,Za,c11,hN0,hN]
  have hz4:=Option.some.inj hz4;subst hz4
  refine And.intro rfl (Fit2.of (Zi hU rfl rfl ?_) (by omega))
  simp only [push_cast,seval,↓reduceIte,Za,c11,hN0,hN]
 refine Z4 ?_
 try simp only [Zk,Zh]
 have h:=Option.some.inj h;subst h
 refine Zr (.inr rfl) hU [.val (.bool z4)] (by omega) ?_
 simp only [push_cast,seval,↓reduceIte,Za,Try.results54,hN0,hN]
theorem Zk9 {a0:S_api_Tree} {a1:Int} {r:Int} {O:Objs} {n:Nat} (h:Uj a0 a1=some r):GTo Try.prog 113 [.agg (Zd a0),.val (.int .i64 a1)] O n (.val (.int .u64 r)) O n:=by
 unfold Uj at h
 refine Xl Ze Try.call113 Try.func113 rfl (Nat.le_of_ble_eq_true rfl) (Nat.le_refl _) fun hU => ?_
 have hN0:O n=none:=hU.fresh _ (Nat.le_refl _)
 have hN:∀ k,O (n+k)=none:=fun k=>hU.fresh _ (Nat.le_add_right _ _)
 show W _ _ _ _ ⟨15,[],[(0,.agg (Zd a0)),(1,.val (.int .i64 a1))]⟩ (Zx O n []) _
 refine Zq [1,2] (Zc Ze [] ?_)
 simp only [push_cast,seval,↓reduceIte,Za,hN0,hN]
 refine Zl ?_
 refine Zq [1,2,9] (Zc Ze [] ?_)
 simp only [push_cast,seval,↓reduceIte,Za,hN0,hN]
 refine Zs (t:=(decide (a1 < (a0.Words.length:Int)))) rfl (fun c3 => ?_) (fun c3 => ?_)
 ·replace h:=Zu c3 h
  obtain ⟨x2,hx2,ax2,bx2,cx2,h⟩:=bE (f:=(eI .u64)) Zcc (fun _=>rfl) (by decide) h
  refine Zq [4] (Zc Ze [] ?_)
  simp only [push_cast,Nat.reduceAdd,Nat.reduceSub,Nat.reduceMul,Nat.reduceLeDiff,Nat.reduceLT,Nat.reduceEqDiff,↓reduceIte,reduceCtorEq,Int.reduceBEq,Int.reduceBNe,Nat.reduceBEq,Int.reduceLE,Int.reduceLT,Int.reduceEq,Int.reduceNe,Int.reduceNeg,Nat.reduceDiv,Nat.reduceMod,Nat.reducePow,Za,ax2,bx2,cx2,hN0,hN]
  refine Z4 ?_
  try simp only [Zk,Zh]
  have h:=Option.some.inj h;subst h
  refine Zr (.inr rfl) hU [.val (.int .u64 x2)] (by omega) ?_
  simp only [push_cast,seval,↓reduceIte,Za,Try.results113,hN0,hN]
 replace h:=Zt c3 h
 refine Zz ?_
 try simp only [Zk,Zh]
 refine Zj [] [false] ?_
 simp only [push_cast,seval,↓reduceIte]
 refine Zq [4] (Zc Ze [] ?_)
 simp only [push_cast,seval,↓reduceIte,Za,hN0,hN]
 refine Z4 ?_
 try simp only [Zk,Zh]
 have h:=Option.some.inj h;subst h
 refine Zr (.inr rfl) hU [.val (.int .u64 0)] (by omega) ?_
 simp only [push_cast,seval,↓reduceIte,Za,Try.results113,hN0,hN]
theorem Zl5 {a0:S_api_Tree} {a1:Int} {r:S_api_Tree} {O:Objs} {n:Nat} (h:U3 a0 a1=some r):GTo Try.prog 114 [.agg (Zd a0),.val (.int .i64 a1)] O n (.agg (Zd r)) O n:=by
 unfold U3 at h
 refine Xl Ze Try.call114 Try.func114 rfl (Nat.le_of_ble_eq_true rfl) (Nat.le_refl _) fun hU => ?_
 have hN0:O n=none:=hU.fresh _ (Nat.le_refl _)
 have hN:∀ k,O (n+k)=none:=fun k=>hU.fresh _ (Nat.le_add_right _ _)
 show W _ _ _ _ ⟨16,[],[(0,.agg (Zd a0)),(1,.val (.int .i64 a1))]⟩ (Zx O n []) _
 refine Zq [1,2,4] (Zc Ze [] ?_)
 simp only [push_cast,seval,↓reduceIte,Za,hN0,hN]
 refine Zl ?_
 refine Zq [1,2,4,9] (Zc Ze [] ?_)
 simp only [push_cast,seval,↓reduceIte,Za,hN0,hN]
 refine Zs (t:=(decide (a1 < (a0.Kids.length:Int)))) rfl (fun c3 => ?_) (fun c3 => ?_)
 ·replace h:=Zu c3 h
  refine Zl ?_
  obtain ⟨x2,hx2,ax2,bx2,cx2,h⟩:=bE (f:=Zb) Ki (fun _=>rfl) (by decide) h
  refine Zc Ze [] ?_
  simp only [push_cast,Nat.reduceAdd,Nat.reduceSub,Nat.reduceMul,Nat.reduceLeDiff,Nat.reduceLT,Nat.reduceEqDiff,↓reduceIte,reduceCtorEq,Int.reduceBEq,Int.reduceBNe,Nat.reduceBEq,Int.reduceLE,Int.reduceLT,Int.reduceEq,Int.reduceNe,Int.reduceNeg,Nat.reduceDiv,Nat.reduceMod,Nat.reducePow,Za,ax2,bx2,cx2,hN0,hN]
  refine Zj [4] [false,true] ?_
  simp only [push_cast,seval,↓reduceIte]
  refine Z4 ?_
  try simp only [Zk,Zh]
  have h:=Option.some.inj h;subst h
  refine Zr (.inr rfl) hU [.agg (Zd x2)] (by omega) ?_
  simp only [push_cast,seval,↓reduceIte,Za,Try.results114,hN0,hN]
 replace h:=Zt c3 h
 refine Zz ?_
 try simp only [Zk,Zh]
 refine Zj [4] [false,true] ?_
 simp only [push_cast,seval,↓reduceIte]
 refine Zl ?_
 refine Zc Ze [] ?_
 simp only [push_cast,seval,↓reduceIte,Za,hN0,hN]
 refine Zj [4] [false,true] ?_
 simp only [push_cast,seval,↓reduceIte]
 refine Z4 ?_
 try simp only [Zk,Zh]
 have h:=Option.some.inj h;subst h
 refine Zr (.inr rfl) hU [.agg [.val (.int .i64 0),.val (.slice none 0 0),.val (.slice none 0 0)]] (by omega) ?_
 simp only [push_cast,seval,↓reduceIte,Za,Try.results114,hN0,hN]
end Go.Proofs.Ytmpkfolcikhofaa
