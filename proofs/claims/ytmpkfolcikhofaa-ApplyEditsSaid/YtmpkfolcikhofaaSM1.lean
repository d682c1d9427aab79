/- Part SM1 of this seat's mirrors: functions of the seat's program, and the plain functions that they are; each theorem bears its own conditions. -/
import Derived.Test.YtmpkfolcikhofaaSE
namespace Go.Proofs.Ytmpkfolcikhofaa
open Go.RowKit
set_option linter.unusedVariables false
set_option linter.unusedSimpArgs false
set_option maxRecDepth 100000
set_option maxHeartbeats 1000000
attribute [local push_cast] Zf V2 Ye Zd Jn Zlv Zlu Zmb Zma Zk Zh Zip Zd8 Zd7 onW Xm Zbk Zaz Zlz Zky Zfr evS wok Qc Op.operands Call.operands gop onK onP atK List.all_cons List.all_nil Bool.and_true Bool.true_and Bool.and_self Value.oneCell' List.take_zero List.take_succ_cons List.take_nil List.drop_zero List.drop_succ_cons List.drop_nil List.append_nil Nat.add_zero Nat.zero_add V0 Yf ev Qs Zkx Zts Zox Zow Ztx Zfv Za2 Zfi Za9 Zgg Zdk Vr Ziq Zd9 Gg Zfj Gh Zhe Zfu Zp5 bLo bHi bMx Za3 Zhd Ztt Zft Zhz Zcu Ud Zom Zty Zfg Zt1 Za1 Zu9 Qq Zhg gone Zi9 Zep Zeo pop TK.isAgg G.one G.under G.unders List.getD_cons_zero List.getD_cons_succ List.set_cons_zero List.set_cons_succ List.map_cons List.map_nil List.toList_toArray Array.toList_append Option.toArray_none Option.toArray_some Array.toList_map Option.map_some Option.map_none Option.bind_some Option.bind_none List.getElem?_cons_zero List.getElem?_cons_succ List.getElem?_nil List.nil_append List.cons_append List.replicate_succ List.replicate_zero List.length_cons List.length_nil and_true true_and and_false false_and Bool.true_eq_false Bool.false_eq_true forall_const false_implies implies_true IntKind.bits if_true if_false ite_true ite_false eq_self true_implies false_or or_false or_true true_or not_true_eq_false not_false_eq_true decide_true decide_false decide_eq_true_eq decide_eq_false_iff_not beq_iff_eq bne_iff_ne ne_eq Bool.not_eq_true Bool.not_eq_false beq_eq_false_iff_ne bne_eq_false_iff_eq beq_self_eq_true bne_self_eq_false Option.some.injEq exists_eq_left' exists_eq_left ge_iff_le gt_iff_lt decide_not Bool.not_true Bool.not_false imp_self Zp7 cond_true cond_false Z0l Z0k Bool.not_not Bool.and_false Bool.false_and Bool.or_true Bool.true_or Bool.or_false Bool.false_or Ge Zcs Za7 Zab J3 Ql Option.join_some Nat.add_assoc Int.toNat_natCast eI eB eS eL Zbw Zdy Zc2 Zly Zlw Zlx Zvp Zx1 Zd1 Zda Zmi Zmg Zmh Zsk Zio Zpz Zjd Zpy Zcg Zn4 List.length_append G.agg.injEq G.row.injEq G.ref.injEq G.val.injEq G.sl.injEq G.tup.injEq Value.int.injEq Value.bool.injEq Value.string.injEq List.cons.injEq exists_and_left exists_const List.flatten_cons List.flatten_nil Int.le_refl Nat.le_refl Za6 X9 Vl Bool.not_eq_true' Bool.not_eq_false' Znx Zg8 Zr4 Zsa Zr3 Zr9 Zxd Zw9 List.size_toArray Zml Zmm G.ren G.rens Zo2 Zdn Zmp Zlp Zlq Zjf Zsb Zdm G.fn.injEq Zj8 Zj9 Znw Zxa Zj7 Zr7 Zxc Zxb Zr6 Zqe Zvf Option.join_none Yz Vg undef Zh0 Arr.len Arr.put_eq Zd0 Zgr Zek Zc9 Zmf Zmd Zme onB Zvo Zok Zje Zic Zid Zie Zif Zig Zih Zgo Zgv Zgt Zen Zdb Zgu Zi8 Zi7 Zi6 Zi5 Zx0 Zz3 Zsj Zqq Um Zsf Zl0 Zgw Zem Zuf Zmt Zfs Zhy Zb7 Zgx Zii Zij Zik Zil Zf6 Zf7 Zf8 Zf9 Zga Zgb Zgc Zcy prT Zdw Z2c Zrq Zo3 Zrr Z2d Zrs Zsm Zrt Z2e Zru Z2f Zrv Z2g Zrw Z2h Zrx Zv7 Zmw Zv8 Zmx Zv9 Zmy Zwa Zmz Zwb Zm0 Zwc Zm1 Zwd Zm2 Zwe Zm3 Zwf Zm4 Zwg Zm5 Zwh Zm6 Zwi Zhu Zrp Zax Zwj Zm7 Ki Zm8 Zwk Zm9 Zwl Zna Zwm Znb Zwn Znc Zwo Znd Zwp Zne Zwq Znf Zwr Zng Zws Znh Zkv Zni Zwt Znj Zg3 Znk Zwu Znl Zg4 Znm Zcc Znn Zwv Zno Zww Znp Zwx Znq Zwy Znr Zwz Zns Zw0 Znt Zw1 Znu Zjg Znv Zq1 Zji Zq2 Zjj Zq3 Zjk Zq4 Zjl Zq5 Zjm Zq6 Zjn Zlf Zg5 Zq7 Zjo Zq8 Zjp Zq9 Zjq Zra Zjr Zrb Zjs Zrc Zjt Zrd Zju Zre Zjv Zrf Zjw Zrg Zjx Zrh Zjy Zri Zjz Zrj Zj0 Zrk Zj1 Zrl Zj2 Zrm Zj3 Zrn Zj4 Zro Zj5 Zb Yi Ze9 Ze8 Zeb Zei Zfb Zdh Zdd Zdc Ze5 Ga U9 U0 U4 Gb Uq Uo Un U7 Zm Xg Zo Zy Y8 Yt Xk Z9 Kp Km J8 Ke Kr Jl Jj Jh Kj Vd Vc K6 Va Ve Kl Kh Kg Vb Zar Zaq Zaf Zam Zat Gt Gs Gr Zap Kq Ko J9 Kf Ks Jm Jk Ji Kk Zg9 Zg7 Zgj Zgq Zha Ze6 Zey Zex Zg6
theorem Zhn {Qy:(S_api_Tree→Int→Int→Option Int)} (Zgp:∀ {a0:S_api_Tree} {a1:Int} {a2:Int} {r:Int} {O:Objs} {n:Nat},Qy a0 a1 a2=some r→GTo Try.prog 58 [.agg (Zd a0),.val (.int .i64 a1),.val (.int .i64 a2)] O n (.val (.int .i64 r)) O n) {a0:S_api_Tree} {a1:Int} {a2:Int} {r:Int} {O:Objs} {n:Nat} (h:Xo Qy a0 a1 a2=some r):GTo Try.prog 58 [.agg (Zd a0),.val (.int .i64 a1),.val (.int .i64 a2)] O n (.val (.int .i64 r)) O n:=by
 unfold Xo at h
 refine Xl Ze Try.call58 Try.func58 rfl (Nat.le_of_ble_eq_true rfl) (Nat.le_refl _) fun hU => ?_
 have hN0:O n=none:=hU.fresh _ (Nat.le_refl _)
 have hN:∀ k,O (n+k)=none:=fun k=>hU.fresh _ (Nat.le_add_right _ _)
 show W _ _ _ _ ⟨41,[],[(0,.agg (Zd a0)),(1,.val (.int .i64 a1)),(2,.val (.int .i64 a2))]⟩ (Zx O n []) _
 refine Zq [1,2,3] (Zc Ze [] ?_)
 simp only [push_cast,seval,↓reduceIte,Za,hN0,hN]
 refine Zq [1,2,3] (Zc Ze [] ?_)
 simp only [push_cast,seval,↓reduceIte,Za,hN0,hN]
 refine Zl ?_
 refine Zq [1,2,3,19] (Zc Ze [none,none] ?_)
 simp only [push_cast,seval,↓reduceIte,Za,hN0,hN]
 repeat (with_reducible refine And.intro (by first | (intro h0;simp only [h0,and_self];done) | (intro h0;simp only [h0,Bool.not_false,Bool.not_true,Bool.true_and,Bool.and_true,true_and,and_true,and_self,imp_self,implies_true,bne_iff_ne,ne_eq,beq_iff_eq];done) | (intros;simp_all;done) | exact True.intro) ?_)
 refine Zs (t:=(cond (a1 == 0) true (decide ((IntKind.i64.wrap ((IntKind.i64.wrap (a2 - 1)) - (a0.Words.length:Int))) < 0)))) rfl (fun c5 => ?_) (fun c5 => ?_)
 ·replace h:=Zu c5 h
  refine Zq [6] (Zc Ze [] ?_)
  simp only [push_cast,seval,↓reduceIte,Za,hN0,hN]
  refine Z4 ?_
  try simp only [Zk,Zh]
  have h:=Option.some.inj h;subst h
  refine Zr (.inr rfl) hU [.val (.int .i64 (-1))] (by omega) ?_
  simp only [push_cast,seval,↓reduceIte,Za,Try.results58,hN0,hN]
 replace h:=Zt c5 h
 refine Zz ?_
 try simp only [Zk,Zh]
 refine Zj [1,2,3] [true] ?_
 simp only [push_cast,seval,↓reduceIte]
 refine Zl ?_
 refine Zq [1,2,3,7] (Zc Ze [] ?_)
 simp only [push_cast,seval,↓reduceIte,Za,hN0,hN]
 refine Zj [1,2,3,7] [true] ?_
 simp only [push_cast,seval,↓reduceIte]
 obtain ⟨z4,hz4,h⟩:=bC h
 refine Yv (E':=⟨41,[],[(2,.val (.int .i64 z4))]⟩) (O':=(Zx O n [none])) (n0:=(n+1)) ?_ ?_
 ·refine Y6 hz4 (fun s0_=>⟨41,[],[(1,.val (.int .i64 a1)),(2,.val (.int .i64 s0_.1)),(3,.ref n 0),(7,.val (.int .i64 s0_.2))]⟩) (fun s0_=>(Zx O n [some ⟨false,25,3,1,(Zd a0)⟩])) (fun z4=>JX 0 n (⟨41,[],[(2,.val (.int .i64 z4))]⟩:Env) (Zx O n [none]) (n+1)) ?_
  intro s0_ x0_ hs0_
  unfold Xi at hs0_
  try dsimp only
  refine Zl ?_
  refine Zq [1,2,3,7,28] (Zc Ze [none,none] ?_)
  simp only [push_cast,seval,↓reduceIte,Za,hN0,hN]
  repeat (with_reducible refine And.intro (by first | (intro h0;simp only [h0,and_self];done) | (intro h0;simp only [h0,Bool.not_false,Bool.not_true,Bool.true_and,Bool.and_true,true_and,and_true,and_self,imp_self,implies_true,bne_iff_ne,ne_eq,beq_iff_eq];done) | (intros;simp_all;done) | exact True.intro) ?_)
  refine Zs (t:=(cond (decide (s0_.2 < (a0.Kids.length:Int))) (decide (0≤s0_.1)) false)) rfl (fun c3 => ?_) (fun c3 => ?_)
  ·replace hs0_:=Zu c3 hs0_
   refine Zz ?_
   try simp only [Zk,Zh]
   refine Zj [1,2,3,7] [true] ?_
   simp only [push_cast,seval,↓reduceIte]
   refine Zl ?_
   refine Yw ?_
   obtain ⟨x1,hx1,ax1,bx1,cx1,hs0_⟩:=bE (f:=Zb) Ki (fun _=>rfl) (by decide) hs0_
   obtain ⟨y2,hy2,hs0_⟩:=bC hs0_
   refine Zc Ze [] ?_
   simp only [push_cast,Nat.reduceAdd,Nat.reduceSub,Nat.reduceMul,Nat.reduceLeDiff,Nat.reduceLT,Nat.reduceEqDiff,↓reduceIte,reduceCtorEq,Int.reduceBEq,Int.reduceBNe,Nat.reduceBEq,Int.reduceLE,Int.reduceLT,Int.reduceEq,Int.reduceNe,Int.reduceNeg,Nat.reduceDiv,Nat.reduceMod,Nat.reducePow,Za,ax1,bx1,cx1,hN0,hN]
   refine (Zgp hy2).then ?_
   simp only [push_cast,Nat.reduceAdd,Nat.reduceSub,Nat.reduceMul,Nat.reduceLeDiff,Nat.reduceLT,Nat.reduceEqDiff,↓reduceIte,reduceCtorEq,Int.reduceBEq,Int.reduceBNe,Nat.reduceBEq,Int.reduceLE,Int.reduceLT,Int.reduceEq,Int.reduceNe,Int.reduceNeg,Nat.reduceDiv,Nat.reduceMod,Nat.reducePow,Za,ax1,bx1,cx1,hN0,hN]
   refine Zj [1,2,3,7] [true] ?_
   simp only [push_cast,seval,↓reduceIte]
   refine Zc Ze [] ?_
   simp only [push_cast,seval,↓reduceIte,Za,hN0,hN]
   have hs0_:=Option.some.inj hs0_;subst hs0_
   refine And.intro rfl (Fit2.of (Zi hU rfl rfl ?_) (by omega))
   simp only [push_cast,seval,↓reduceIte,Za,hN0,hN]
  replace hs0_:=Zt c3 hs0_
  refine Xt ?_
  try simp only [Zk,Zh,↓reduceIte,Nat.reduceEqDiff]
  have hs0_:=Option.some.inj hs0_;subst hs0_
  refine And.intro (fun h=>by cases h) (And.intro rfl (Fit2.of (Zi hU rfl rfl ?_) (by omega)))
  simp only [push_cast,seval,↓reduceIte,Za,hN0,hN]
 try simp only [Zk,Zh,↓reduceIte,Nat.reduceEqDiff]
 refine Zj [2] [false] ?_
 simp only [push_cast,seval,↓reduceIte]
 refine Zq [6] (Zc Ze [] ?_)
 simp only [push_cast,seval,↓reduceIte,Za,hN0,hN]
 refine Z4 ?_
 try simp only [Zk,Zh]
 have h:=Option.some.inj h;subst h
 refine Zr (.inr rfl) hU [.val (.int .i64 z4)] (by omega) ?_
 simp only [push_cast,seval,↓reduceIte,Za,Try.results58,hN0,hN]
theorem Zfw:∀ k,(∀ {a0:S_api_Tree} {a1:Int} {a2:Int} {r:Int} {O:Objs} {n:Nat},(Yo k) a0 a1 a2=some r→GTo Try.prog 58 [.agg (Zd a0),.val (.int .i64 a1),.val (.int .i64 a2)] O n (.val (.int .i64 r)) O n):=fun k=>by
 induction k with
 | zero=>exact @fun a0 a1 a2 r O n h=>(nomatch (show (none:Option _)=some _ from h))
 | succ k ih=>exact @fun a0 a1 a2 r O n h=>Zhn (ih)  h
theorem Vz {a0:S_api_Tree} {a1:Int} {a2:Int} {r:Int} {O:Objs} {n:Nat} (h:Xq a0 a1 a2=some r):GTo Try.prog 58 [.agg (Zd a0),.val (.int .i64 a1),.val (.int .i64 a2)] O n (.val (.int .i64 r)) O n:=by
 obtain ⟨k,hk⟩:=Gm h
 exact (Zfw k)  hk
theorem Zfn {a0:S_api_Tree} {r:Bool} {O:Objs} {n:Nat} (h:U1 a0=some r):GTo Try.prog 15 [.agg (Zd a0)] O n (.val (.bool r)) O n:=by
 unfold U1 at h
 refine Xl Ze Try.call15 Try.func15 rfl (Nat.le_of_ble_eq_true rfl) (Nat.le_refl _) fun hU => ?_
 have hN0:O n=none:=hU.fresh _ (Nat.le_refl _)
 have hN:∀ k,O (n+k)=none:=fun k=>hU.fresh _ (Nat.le_add_right _ _)
 show W _ _ _ _ ⟨6,[],[(0,.agg (Zd a0))]⟩ (Zx O n []) _
 refine Zq [1] (Zc Ze [] ?_)
 simp only [push_cast,seval,↓reduceIte,Za,hN0,hN]
 refine Zl ?_
 obtain ⟨y2,hy2,h⟩:=bC h
 refine Zc Ze [] ?_
 simp only [push_cast,seval,↓reduceIte,Za,hN0,hN]
 refine (Vz hy2).then ?_
 simp only [push_cast,seval,↓reduceIte,Za,hN0,hN]
 refine Zj [2] [false] ?_
 simp only [push_cast,seval,↓reduceIte]
 refine Z4 ?_
 try simp only [Zk,Zh]
 have h:=Option.some.inj h;subst h
 refine Zr (.inr rfl) hU [.val (.bool (decide (0≤y2)))] (by omega) ?_
 simp only [push_cast,seval,↓reduceIte,Za,Try.results15,hN0,hN]
theorem Zkl {a0:Int} {r:Int} {O:Objs} {n:Nat} (h:Zbc a0=some r):GTo Try.prog 92 [.val (.int .i64 a0)] O n (.val (.int .i64 r)) O n:=by
 unfold Zbc at h
 refine Xl Ze Try.call92 Try.func92 rfl (Nat.le_of_ble_eq_true rfl) (Nat.le_refl _) fun hU => ?_
 have hN0:O n=none:=hU.fresh _ (Nat.le_refl _)
 have hN:∀ k,O (n+k)=none:=fun k=>hU.fresh _ (Nat.le_add_right _ _)
 show W _ _ _ _ ⟨16,[],[(0,.val (.int .i64 a0))]⟩ (Zx O n []) _
 refine Zq [0] (Zc Ze [] ?_)
 simp only [push_cast,seval,↓reduceIte,Za,hN0,hN]
 refine Zl ?_
 refine Zq [3] (Zc Ze [] ?_)
 simp only [push_cast,seval,↓reduceIte,Za,hN0,hN]
 refine Yw ?_
 refine Zq [3,4] (Zc Ze [] ?_)
 simp only [push_cast,seval,↓reduceIte,Za,hN0,hN]
 refine Zs (t:=(a0 == 0)) rfl (fun c6 => ?_) (fun c6 => ?_)
 ·replace h:=Zu c6 h
  refine Zq [2] (Zc Ze [] ?_)
  simp only [push_cast,seval,↓reduceIte,Za,hN0,hN]
  refine Z4 ?_
  try simp only [Zk,Zh]
  have h:=Option.some.inj h;subst h
  refine Zr (.inr rfl) hU [.val (.int .i64 0)] (by omega) ?_
  simp only [push_cast,seval,↓reduceIte,Za,Try.results92,hN0,hN]
 replace h:=Zt c6 h
 refine Zq [3,6] (Zc Ze [] ?_)
 simp only [push_cast,seval,↓reduceIte,Za,hN0,hN]
 refine Zs (t:=(a0 == 1)) rfl (fun c5 => ?_) (fun c5 => ?_)
 ·replace h:=Zu c5 h
  refine Zq [2] (Zc Ze [] ?_)
  simp only [push_cast,seval,↓reduceIte,Za,hN0,hN]
  refine Z4 ?_
  try simp only [Zk,Zh]
  have h:=Option.some.inj h;subst h
  refine Zr (.inr rfl) hU [.val (.int .i64 1)] (by omega) ?_
  simp only [push_cast,seval,↓reduceIte,Za,Try.results92,hN0,hN]
 replace h:=Zt c5 h
 refine Zq [3,8] (Zc Ze [] ?_)
 simp only [push_cast,seval,↓reduceIte,Za,hN0,hN]
 refine Zs (t:=(a0 == 2)) rfl (fun c4 => ?_) (fun c4 => ?_)
 ·replace h:=Zu c4 h
  refine Zq [2] (Zc Ze [] ?_)
  simp only [push_cast,seval,↓reduceIte,Za,hN0,hN]
  refine Z4 ?_
  try simp only [Zk,Zh]
  have h:=Option.some.inj h;subst h
  refine Zr (.inr rfl) hU [.val (.int .i64 8)] (by omega) ?_
  simp only [push_cast,seval,↓reduceIte,Za,Try.results92,hN0,hN]
 replace h:=Zt c4 h
 refine Zq [3,10] (Zc Ze [] ?_)
 simp only [push_cast,seval,↓reduceIte,Za,hN0,hN]
 refine Zs (t:=(a0 == 3)) rfl (fun c3 => ?_) (fun c3 => ?_)
 ·replace h:=Zu c3 h
  refine Zq [2] (Zc Ze [] ?_)
  simp only [push_cast,seval,↓reduceIte,Za,hN0,hN]
  refine Z4 ?_
  try simp only [Zk,Zh]
  have h:=Option.some.inj h;subst h
  refine Zr (.inr rfl) hU [.val (.int .i64 16)] (by omega) ?_
  simp only [push_cast,seval,↓reduceIte,Za,Try.results92,hN0,hN]
 replace h:=Zt c3 h
 refine Zq [3,12] (Zc Ze [] ?_)
 simp only [push_cast,seval,↓reduceIte,Za,hN0,hN]
 refine Zs (t:=(a0 == 4)) rfl (fun c2 => ?_) (fun c2 => ?_)
 ·replace h:=Zu c2 h
  refine Zq [2] (Zc Ze [] ?_)
  simp only [push_cast,seval,↓reduceIte,Za,hN0,hN]
  refine Z4 ?_
  try simp only [Zk,Zh]
  have h:=Option.some.inj h;subst h
  refine Zr (.inr rfl) hU [.val (.int .i64 32)] (by omega) ?_
  simp only [push_cast,seval,↓reduceIte,Za,Try.results92,hN0,hN]
 replace h:=Zt c2 h
 refine Zq [14] (Zc Ze [] ?_)
 simp only [push_cast,seval,↓reduceIte,Za,hN0,hN]
 refine Zs (t:=(a0 == 5)) rfl (fun c1 => ?_) (fun c1 => ?_)
 ·replace h:=Zu c1 h
  refine Zq [2] (Zc Ze [] ?_)
  simp only [push_cast,seval,↓reduceIte,Za,hN0,hN]
  refine Z4 ?_
  try simp only [Zk,Zh]
  have h:=Option.some.inj h;subst h
  refine Zr (.inr rfl) hU [.val (.int .i64 64)] (by omega) ?_
  simp only [push_cast,seval,↓reduceIte,Za,Try.results92,hN0,hN]
 replace h:=Zt c1 h
 refine Zz ?_
 try simp only [Zk,Zh]
 refine Zj [] [] ?_
 simp only [push_cast,seval,↓reduceIte]
 refine Zq [2] (Zc Ze [] ?_)
 simp only [push_cast,seval,↓reduceIte,Za,hN0,hN]
 refine Z4 ?_
 try simp only [Zk,Zh]
 have h:=Option.some.inj h;subst h
 refine Zr (.inr rfl) hU [.val (.int .i64 (-1))] (by omega) ?_
 simp only [push_cast,seval,↓reduceIte,Za,Try.results92,hN0,hN]
theorem Zef {a0:Int} {a1:Int} {r:Bool} {O:Objs} {n:Nat} (h:Kv a0 a1=some r):GTo Try.prog 61 [.val (.int .i64 a0),.val (.int .u64 a1)] O n (.val (.bool r)) O n:=by
 unfold Kv at h
 refine Xl Ze Try.call61 Try.func61 rfl (Nat.le_of_ble_eq_true rfl) (Nat.le_refl _) fun hU => ?_
 have hN0:O n=none:=hU.fresh _ (Nat.le_refl _)
 have hN:∀ k,O (n+k)=none:=fun k=>hU.fresh _ (Nat.le_add_right _ _)
 show W _ _ _ _ ⟨20,[],[(0,.val (.int .i64 a0)),(1,.val (.int .u64 a1))]⟩ (Zx O n []) _
 refine Zq [0,1] (Zc Ze [] ?_)
 simp only [push_cast,seval,↓reduceIte,Za,hN0,hN]
 refine Zl ?_
 obtain ⟨y2,hy2,h⟩:=bC h
 refine Zc Ze [] ?_
 simp only [push_cast,seval,↓reduceIte,Za,hN0,hN]
 refine (Zkl hy2).then ?_
 simp only [push_cast,seval,↓reduceIte,Za,hN0,hN]
 refine Zj [1,5] [] ?_
 simp only [push_cast,seval,↓reduceIte]
 refine Zl ?_
 refine Zq [1,5,10] (Zc Ze [] ?_)
 simp only [push_cast,seval,↓reduceIte,Za,hN0,hN]
 refine Zs (t:=(decide (y2 < 0))) rfl (fun c5 => ?_) (fun c5 => ?_)
 ·replace h:=Zu c5 h
  refine Zq [4] (Zc Ze [] ?_)
  simp only [push_cast,seval,↓reduceIte,Za,hN0,hN]
  refine Z4 ?_
  try simp only [Zk,Zh]
  have h:=Option.some.inj h;subst h
  refine Zr (.inr rfl) hU [.val (.bool false)] (by omega) ?_
  simp only [push_cast,seval,↓reduceIte,Za,Try.results61,hN0,hN]
 replace h:=Zt c5 h
 refine Zz ?_
 try simp only [Zk,Zh]
 refine Zj [1,5] [] ?_
 simp only [push_cast,seval,↓reduceIte]
 refine Zl ?_
 refine Zq [1,5,6] (Zc Ze [] ?_)
 simp only [push_cast,seval,↓reduceIte,Za,hN0,hN]
 refine Zj [1,5,6] [] ?_
 simp only [push_cast,seval,↓reduceIte]
 obtain ⟨z4,hz4,h⟩:=bC h
 refine Yv (E':=⟨20,[],[(1,.val (.int .u64 z4))]⟩) (O':=(Zx O n [])) (n0:=n) ?_ ?_
 ·refine Y6 hz4 (fun s0_=>⟨20,[],[(1,.val (.int .u64 s0_.1)),(5,.val (.int .i64 y2)),(6,.val (.int .i64 s0_.2))]⟩) (fun s0_=>(Zx O n [])) (fun z4=>JX 0 n (⟨20,[],[(1,.val (.int .u64 z4))]⟩:Env) (Zx O n []) n) ?_
  intro s0_ x0_ hs0_
  unfold Xp at hs0_
  try dsimp only
  refine Zl ?_
  refine Zq [1,5,6,13] (Zc Ze [] ?_)
  simp only [push_cast,seval,↓reduceIte,Za,hN0,hN]
  refine Zs (t:=(decide (s0_.2 < y2))) rfl (fun c3 => ?_) (fun c3 => ?_)
  ·replace hs0_:=Zu c3 hs0_
   refine Zz ?_
   try simp only [Zk,Zh]
   refine Zj [1,5,6] [] ?_
   simp only [push_cast,seval,↓reduceIte]
   refine Zl ?_
   refine Yw ?_
   refine Zc Ze [] ?_
   simp only [push_cast,seval,↓reduceIte,Za,hN0,hN]
   refine Zj [1,5,6] [] ?_
   simp only [push_cast,seval,↓reduceIte]
   refine Zc Ze [] ?_
   simp only [push_cast,seval,↓reduceIte,Za,hN0,hN]
   have hs0_:=Option.some.inj hs0_;subst hs0_
   refine And.intro rfl (Fit2.of (Zi hU rfl rfl ?_) (by omega))
   simp only [push_cast,seval,↓reduceIte,Za,hN0,hN]
  replace hs0_:=Zt c3 hs0_
  refine Xt ?_
  try simp only [Zk,Zh,↓reduceIte,Nat.reduceEqDiff]
  have hs0_:=Option.some.inj hs0_;subst hs0_
  refine And.intro (fun h=>by cases h) (And.intro rfl (Fit2.of (Zi hU rfl rfl ?_) (by omega)))
  simp only [push_cast,seval,↓reduceIte,Za,hN0,hN]
 try simp only [Zk,Zh,↓reduceIte,Nat.reduceEqDiff]
 refine Zj [1] [] ?_
 simp only [push_cast,seval,↓reduceIte]
 refine Zq [4] (Zc Ze [] ?_)
 simp only [push_cast,seval,↓reduceIte,Za,hN0,hN]
 refine Z4 ?_
 try simp only [Zk,Zh]
 have h:=Option.some.inj h;subst h
 refine Zr (.inr rfl) hU [.val (.bool (z4 == 0))] (by omega) ?_
 simp only [push_cast,seval,↓reduceIte,Za,Try.results61,hN0,hN]
theorem Zi1 {Jx:(S_api_Tree→Int→Option Bool)} (Zia:∀ {a0:S_api_Tree} {a1:Int} {r:Bool} {O:Objs} {n:Nat},Jx a0 a1=some r→GTo Try.prog 18 [.agg (Zd a0),.val (.int .i64 a1)] O n (.val (.bool r)) O n) {a0:S_api_Tree} {a1:Int} {r:Bool} {O:Objs} {n:Nat} (h:Vn Jx a0 a1=some r):GTo Try.prog 18 [.agg (Zd a0),.val (.int .i64 a1)] O n (.val (.bool r)) O n:=by
 unfold Vn at h
 refine Xl Ze Try.call18 Try.func18 rfl (Nat.le_of_ble_eq_true rfl) (Nat.le_refl _) fun hU => ?_
 have hN0:O n=none:=hU.fresh _ (Nat.le_refl _)
 have hN:∀ k,O (n+k)=none:=fun k=>hU.fresh _ (Nat.le_add_right _ _)
 show W _ _ _ _ ⟨132,[],[(0,.agg (Zd a0)),(1,.val (.int .i64 a1))]⟩ (Zx O n []) _
 refine Zq [1,2] (Zc Ze [] ?_)
 simp only [push_cast,seval,↓reduceIte,Za,hN0,hN]
 refine Zl ?_
 refine Zq [1,2,10] (Zc Ze [] ?_)
 simp only [push_cast,seval,↓reduceIte,Za,hN0,hN]
 refine Zs (t:=(a0.Kind == 0)) rfl (fun c32 => ?_) (fun c32 => ?_)
 ·replace h:=Zu c32 h
  refine Zq [4] (Zc Ze [none,none,none,none] ?_)
  simp only [push_cast,seval,↓reduceIte,Za,hN0,hN]
  repeat (with_reducible refine And.intro (by first | (intro h0;simp only [h0,and_self];done) | (intro h0;simp only [h0,Bool.not_false,Bool.not_true,Bool.true_and,Bool.and_true,true_and,and_true,and_self,imp_self,implies_true,bne_iff_ne,ne_eq,beq_iff_eq];done) | (intros;simp_all;done) | exact True.intro) ?_)
  refine Z4 ?_
  try simp only [Zk,Zh]
  have h:=Option.some.inj h;subst h
  refine Zr (.inr rfl) hU [.val (.bool (cond ((a0.Words.length:Int) == 0) ((a0.Kids.length:Int) == 0) false))] (by omega) ?_
  simp only [push_cast,seval,↓reduceIte,Za,Try.results18,hN0,hN]
 replace h:=Zt c32 h
 refine Zz ?_
 try simp only [Zk,Zh]
 refine Zj [1,2] [true] ?_
 simp only [push_cast,seval,↓reduceIte]
 refine Zl ?_
 refine Zq [1,2,23] (Zc Ze [] ?_)
 simp only [push_cast,seval,↓reduceIte,Za,hN0,hN]
 refine Zs (t:=(a0.Kind == 10)) rfl (fun c31 => ?_) (fun c31 => ?_)
 ·replace h:=Zu c31 h
  refine Zq [4] (Zc Ze [none,none,none,none] ?_)
  simp only [push_cast,seval,↓reduceIte,Za,hN0,hN]
  repeat (with_reducible refine And.intro (by first | (intro h0;simp only [h0,and_self];done) | (intro h0;simp only [h0,Bool.not_false,Bool.not_true,Bool.true_and,Bool.and_true,true_and,and_true,and_self,imp_self,implies_true,bne_iff_ne,ne_eq,beq_iff_eq];done) | (intros;simp_all;done) | exact True.intro) ?_)
  refine Z4 ?_
  try simp only [Zk,Zh]
  have h:=Option.some.inj h;subst h
  refine Zr (.inr rfl) hU [.val (.bool (cond ((a0.Words.length:Int) == 1) ((a0.Kids.length:Int) == 0) false))] (by omega) ?_
  simp only [push_cast,seval,↓reduceIte,Za,Try.results18,hN0,hN]
 replace h:=Zt c31 h
 refine Zz ?_
 try simp only [Zk,Zh]
 refine Zj [1,2] [true] ?_
 simp only [push_cast,seval,↓reduceIte]
 refine Zl ?_
 refine Zq [1,2,68] (Zc Ze [none,none,none,none,none,none,none,none,none,none,none,none,none,none,none,none,none,none,none,none,none,none] ?_)
 simp only [push_cast,seval,↓reduceIte,Za,hN0,hN]
 repeat (with_reducible refine And.intro (by first | (intro h0;simp only [h0,and_self];done) | (intro h0;simp only [h0,Bool.not_false,Bool.not_true,Bool.true_and,Bool.and_true,true_and,and_true,and_self,imp_self,implies_true,bne_iff_ne,ne_eq,beq_iff_eq];done) | (intros;simp_all;done) | exact True.intro) ?_)
 refine Zs (t:=(cond (cond (cond (cond (cond (decide (a0.Kind < 0)) true (decide (10 < a0.Kind))) true (a1 == 0)) true (decide (65536≤(a0.Words.length:Int)))) true (cond (a0.Kind == 1) (decide (65536≤(a0.Kids.length:Int))) false)) true (decide (1048576≤(a0.Kids.length:Int))))) rfl (fun c30 => ?_) (fun c30 => ?_)
 ·replace h:=Zu c30 h
  refine Zq [4] (Zc Ze [] ?_)
  simp only [push_cast,seval,↓reduceIte,Za,hN0,hN]
  refine Z4 ?_
  try simp only [Zk,Zh]
  have h:=Option.some.inj h;subst h
  refine Zr (.inr rfl) hU [.val (.bool false)] (by omega) ?_
  simp only [push_cast,seval,↓reduceIte,Za,Try.results18,hN0,hN]
 replace h:=Zt c30 h
 refine Zz ?_
 try simp only [Zk,Zh]
 refine Zj [1,2] [true] ?_
 simp only [push_cast,seval,↓reduceIte]
 refine Zl ?_
 refine Zq [1,2,77] (Zc Ze [none,none,none,none] ?_)
 simp only [push_cast,seval,↓reduceIte,Za,hN0,hN]
 repeat (with_reducible refine And.intro (by first | (intro h0;simp only [h0,and_self];done) | (intro h0;simp only [h0,Bool.not_false,Bool.not_true,Bool.true_and,Bool.and_true,true_and,and_true,and_self,imp_self,implies_true,bne_iff_ne,ne_eq,beq_iff_eq];done) | (intros;simp_all;done) | exact True.intro) ?_)
 refine Zs (t:=(cond (decide (1 < a0.Kind)) (decide (0 < (a0.Words.length:Int))) false)) rfl (fun c29 => ?_) (fun c29 => ?_)
 ·replace h:=Zu c29 h
  refine Zq [4] (Zc Ze [] ?_)
  simp only [push_cast,seval,↓reduceIte,Za,hN0,hN]
  refine Z4 ?_
  try simp only [Zk,Zh]
  have h:=Option.some.inj h;subst h
  refine Zr (.inr rfl) hU [.val (.bool false)] (by omega) ?_
  simp only [push_cast,seval,↓reduceIte,Za,Try.results18,hN0,hN]
 replace h:=Zt c29 h
 refine Zz ?_
 try simp only [Zk,Zh]
 refine Zj [1,2] [true] ?_
 simp only [push_cast,seval,↓reduceIte]
 refine Zl ?_
 refine Zq [1,2,5] (Zc Ze [] ?_)
 simp only [push_cast,seval,↓reduceIte,Za,hN0,hN]
 refine Zj [1,2,5] [true] ?_
 simp only [push_cast,seval,↓reduceIte]
 obtain ⟨z28,hz28,h⟩:=bC h
 refine Gf (J:=(Xb (fun z28=>JR n (⟨132,[],[(4,.val (.bool false))]⟩:Env) (Zx O n [none]) (n+1)) (fun z28=>JX 0 n (⟨132,[],[]⟩:Env) (Zx O n [none]) (n+1)))) (z:=z28) ?_ fun hw => ?_
 ·refine Y6 hz28 (fun s0_=>⟨132,[],[(1,.val (.int .i64 a1)),(2,.ref n 0),(5,.val (.int .i64 s0_))]⟩) (fun s0_=>(Zx O n [some ⟨false,25,3,1,(Zd a0)⟩])) (Xb (fun z28=>JR n (⟨132,[],[(4,.val (.bool false))]⟩:Env) (Zx O n [none]) (n+1)) (fun z28=>JX 0 n (⟨132,[],[]⟩:Env) (Zx O n [none]) (n+1))) ?_
  intro s0_ x0_ hs0_
  unfold Jc at hs0_
  try dsimp only
  refine Zl ?_
  refine Zq [1,2,5,82] (Zc Ze [] ?_)
  simp only [push_cast,seval,↓reduceIte,Za,hN0,hN]
  refine Zs (t:=(decide (s0_ < (a0.Kids.length:Int)))) rfl (fun c27 => ?_) (fun c27 => ?_)
  ·replace hs0_:=Zu c27 hs0_
   refine Zz ?_
   try simp only [Zk,Zh]
   refine Zj [1,2,5] [true] ?_
   simp only [push_cast,seval,↓reduceIte]
   refine Zl ?_
   refine Yw ?_
   refine Zl ?_
   obtain ⟨x2,hx2,ax2,bx2,cx2,hs0_⟩:=bE (f:=Zb) Ki (fun _=>rfl) (by decide) hs0_
   refine Zc Ze [] ?_
   simp only [push_cast,Nat.reduceAdd,Nat.reduceSub,Nat.reduceMul,Nat.reduceLeDiff,Nat.reduceLT,Nat.reduceEqDiff,↓reduceIte,reduceCtorEq,Int.reduceBEq,Int.reduceBNe,Nat.reduceBEq,Int.reduceLE,Int.reduceLT,Int.reduceEq,Int.reduceNe,Int.reduceNeg,Nat.reduceDiv,Nat.reduceMod,Nat.reducePow,Za,ax2,bx2,cx2,hN0,hN]
   refine Zj [1,2,5,6] [true,true] ?_
   simp only [push_cast,seval,↓reduceIte]
   refine Zl ?_
   refine Zl ?_
   obtain ⟨y4,hy4,hs0_⟩:=bC hs0_
   refine Zc Ze [] ?_
   simp only [push_cast,seval,↓reduceIte,Za,hN0,hN]
   refine (Zia hy4).then ?_
   simp only [push_cast,seval,↓reduceIte,Za,hN0,hN]
   refine Zj [1,2,5,6,94] [true,true] ?_
   simp only [push_cast,seval,↓reduceIte]
   refine Zs (t:=(!y4)) rfl (fun c26 => ?_) (fun c26 => ?_)
   ·replace hs0_:=Zu c26 hs0_
    refine Zq [4] (Zc Ze [] ?_)
    simp only [push_cast,seval,↓reduceIte,Za,hN0,hN]
    refine Z4 ?_
    try simp only [Zk,Zh]
    have hs0_:=Option.some.inj hs0_;subst hs0_
    refine And.intro (fun h=>by cases h) (And.intro rfl (Fit2.of (Zi hU rfl rfl ?_) (by omega)))
    simp only [push_cast,seval,↓reduceIte,Za,hN0,hN]
   replace hs0_:=Zt c26 hs0_
   refine Zz ?_
   try simp only [Zk,Zh]
   refine Zj [1,2,5,6] [true,true] ?_
   simp only [push_cast,seval,↓reduceIte]
   refine Zq [1,2,5,6,7] (Zc Ze [none,none,none] ?_)
   simp only [push_cast,seval,↓reduceIte,Za,hN0,hN]
   repeat (with_reducible refine And.intro (by first | (intro h0;simp only [h0,and_self];done) | (intro h0;simp only [h0,Bool.not_false,Bool.not_true,Bool.true_and,Bool.and_true,true_and,and_true,and_self,imp_self,implies_true,bne_iff_ne,ne_eq,beq_iff_eq];done) | (intros;simp_all;done) | exact True.intro) ?_)
   obtain ⟨z9,hz9,hs0_⟩:=bC hs0_
   refine Y1 (E':=⟨132,[],[(1,.val (.int .i64 a1)),(2,.ref n 0),(5,.val (.int .i64 s0_)),(131,.val (.bool z9))]⟩) (O':=(Zx O n [some ⟨false,25,3,1,(Zd a0)⟩,none])) (n0:=(n+2)) ?_ ?_
   ·rcases Bool.eq_false_or_eq_true ((cond (decide (2≤a0.Kind)) (decide (a0.Kind≤7)) false) != (x2.Kind == 10)) with c18 | c18
    ·replace hz9:=Zu c18 hz9
     refine Qg Ze (by kernel_rfl) [none,none,none,none,none,none,none,none,some false,some false,some false,some false,some false,some false,some false,some false,some false,some false,some false,some false] (by kernel_rfl) ?_
     simp only [push_cast,seval,↓reduceIte,Za,c18,hN0,hN]
     repeat (with_reducible refine And.intro (by first | (intro h0;simp only [h0,and_self];done) | (intro h0;simp only [h0,Bool.not_false,Bool.not_true,Bool.true_and,Bool.and_true,true_and,and_true,and_self,imp_self,implies_true,bne_iff_ne,ne_eq,beq_iff_eq];done) | (intros;simp_all;done) | exact True.intro) ?_)
     have hz9:=Option.some.inj hz9;subst hz9
     refine And.intro rfl (Fit2.of (Zi hU rfl rfl ?_) (by omega))
     simp only [push_cast,seval,↓reduceIte,Za,c18,hN0,hN]
    replace hz9:=Zt c18 hz9
    rcases Bool.eq_false_or_eq_true (a0.Kind == 9) with c19 | c19
    ·replace hz9:=Zu c19 hz9
     try rw [c19] at c18
     rcases Bool.eq_false_or_eq_true (x2.Kind != 1) with c20 | c20
     ·replace hz9:=Zu c20 hz9
      try rw [c20] at c18
      try rw [c20] at c19
      refine Qg Ze (by kernel_rfl) [none,none,none,none,none,none,none,none,some false,some false,some false,some false,some false,some false,some false,some false,some false,some false,some false,some false] (by kernel_rfl) ?_
      simp only [push_cast,seval,↓reduceIte,Za,c18,c19,c20,hN0,hN]
      repeat (with_reducible refine And.intro (by first | (intro h0;simp only [h0,and_self];done) | (intro h0;simp only [h0,Bool.not_false,Bool.not_true,Bool.true_and,Bool.and_true,true_and,and_true,and_self,imp_self,implies_true,bne_iff_ne,ne_eq,beq_iff_eq];done) | (intros;simp_all;done) | exact True.intro) ?_)
      have hz9:=Option.some.inj hz9;subst hz9
      refine And.intro rfl (Fit2.of (Zi hU rfl rfl ?_) (by omega))
      simp only [push_cast,seval,↓reduceIte,Za,c18,c19,c20,hN0,hN]
     replace hz9:=Zt c20 hz9
     try rw [c20] at c18
     try rw [c20] at c19
     rcases Bool.eq_false_or_eq_true (decide (2≤a0.Kind)) with c21 | c21
     ·replace hz9:=Zu c21 hz9
      try rw [c21] at c18
      try rw [c21] at c19
      try rw [c21] at c20
      rcases Bool.eq_false_or_eq_true (decide (a0.Kind≤7)) with c22 | c22
      ·replace hz9:=Zu c22 hz9
       try rw [c22] at c18
       try rw [c22] at c19
       try rw [c22] at c20
       try rw [c22] at c21
       obtain ⟨x14,hx14,ax14,bx14,cx14,hz9⟩:=bE (f:=(eI .u64)) Zcc (fun _=>rfl) (by decide) hz9
       obtain ⟨y15,hy15,hz9⟩:=bC hz9
       refine Qg Ze (by kernel_rfl) [none,none,none,none,none,none,none,none,some true,some true,some true,some true,some true,some true,some true,some true,some true,some true,some true,some true] (by kernel_rfl) ?_
       simp only [push_cast,Nat.reduceAdd,Nat.reduceSub,Nat.reduceMul,Nat.reduceLeDiff,Nat.reduceLT,Nat.reduceEqDiff,↓reduceIte,reduceCtorEq,Int.reduceBEq,Int.reduceBNe,Nat.reduceBEq,Int.reduceLE,Int.reduceLT,Int.reduceEq,Int.reduceNe,Int.reduceNeg,Nat.reduceDiv,Nat.reduceMod,Nat.reducePow,Za,c18,c19,c20,c21,c22,ax14,bx14,cx14,hN0,hN]
       repeat (with_reducible refine And.intro (by first | (intro h0;simp only [h0,and_self];done) | (intro h0;simp only [h0,Bool.not_false,Bool.not_true,Bool.true_and,Bool.and_true,true_and,and_true,and_self,imp_self,implies_true,bne_iff_ne,ne_eq,beq_iff_eq];done) | (intros;simp_all;done) | exact True.intro) ?_)
       refine PCall.of (Zef hy15) ?_
       simp only [push_cast,Nat.reduceAdd,Nat.reduceSub,Nat.reduceMul,Nat.reduceLeDiff,Nat.reduceLT,Nat.reduceEqDiff,↓reduceIte,reduceCtorEq,Int.reduceBEq,Int.reduceBNe,Nat.reduceBEq,Int.reduceLE,Int.reduceLT,Int.reduceEq,Int.reduceNe,Int.reduceNeg,Nat.reduceDiv,Nat.reduceMod,Nat.reducePow,Za,c18,c19,c20,c21,c22,ax14,bx14,cx14,hN0,hN]
       repeat (with_reducible refine And.intro (by first | (intro h0;simp only [h0,and_self];done) | (intro h0;simp only [h0,Bool.not_false,Bool.not_true,Bool.true_and,Bool.and_true,true_and,and_true,and_self,imp_self,implies_true,bne_iff_ne,ne_eq,beq_iff_eq];done) | (intros;simp_all;done) | exact True.intro) ?_)
       have hz9:=Option.some.inj hz9;subst hz9
       refine And.intro rfl (Fit2.of (Zi hU rfl rfl ?_) (by omega))
       simp only [push_cast,Nat.reduceAdd,Nat.reduceSub,Nat.reduceMul,Nat.reduceLeDiff,Nat.reduceLT,Nat.reduceEqDiff,↓reduceIte,reduceCtorEq,Int.reduceBEq,Int.reduceBNe,Nat.reduceBEq,Int.reduceLE,Int.reduceLT,Int.reduceEq,Int.reduceNe,Int.reduceNeg,Nat.reduceDiv,Nat.reduceMod,Nat.reducePow,Za,c18,c19,c20,c21,c22,ax14,bx14,cx14,hN0,hN]
      replace hz9:=Zt c22 hz9
      try rw [c22] at c18
      try rw [c22] at c19
      try rw [c22] at c20
      try rw [c22] at c21
      refine Qg Ze (by kernel_rfl) [none,none,none,none,none,none,none,none,some true,some true,some false,some false,some false,some false,some false,some false,some false,some false,some false,some true] (by kernel_rfl) ?_
      simp only [push_cast,seval,↓reduceIte,Za,c18,c19,c20,c21,c22,hN0,hN]
      repeat (with_reducible refine And.intro (by first | (intro h0;simp only [h0,and_self];done) | (intro h0;simp only [h0,Bool.not_false,Bool.not_true,Bool.true_and,Bool.and_true,true_and,and_true,and_self,imp_self,implies_true,bne_iff_ne,ne_eq,beq_iff_eq];done) | (intros;simp_all;done) | exact True.intro) ?_)
      have hz9:=Option.some.inj hz9;subst hz9
      refine And.intro rfl (Fit2.of (Zi hU rfl rfl ?_) (by omega))
      simp only [push_cast,seval,↓reduceIte,Za,c18,c19,c20,c21,c22,hN0,hN]
     replace hz9:=Zt c21 hz9
     try rw [c21] at c18
     try rw [c21] at c19
     try rw [c21] at c20
     refine Qg Ze (by kernel_rfl) [none,none,none,none,none,none,none,none,some true,some true,some false,some false,some false,some false,some false,some false,some false,some false,some false,some true] (by kernel_rfl) ?_
     simp only [push_cast,seval,↓reduceIte,Za,c18,c19,c20,c21,hN0,hN]
     repeat (with_reducible refine And.intro (by first | (intro h0;simp only [h0,and_self];done) | (intro h0;simp only [h0,Bool.not_false,Bool.not_true,Bool.true_and,Bool.and_true,true_and,and_true,and_self,imp_self,implies_true,bne_iff_ne,ne_eq,beq_iff_eq];done) | (intros;simp_all;done) | exact True.intro) ?_)
     have hz9:=Option.some.inj hz9;subst hz9
     refine And.intro rfl (Fit2.of (Zi hU rfl rfl ?_) (by omega))
     simp only [push_cast,seval,↓reduceIte,Za,c18,c19,c20,c21,hN0,hN]
    replace hz9:=Zt c19 hz9
    try rw [c19] at c18
    rcases Bool.eq_false_or_eq_true (decide (2≤a0.Kind)) with c23 | c23
    ·replace hz9:=Zu c23 hz9
     try rw [c23] at c18
     try rw [c23] at c19
     rcases Bool.eq_false_or_eq_true (decide (a0.Kind≤7)) with c24 | c24
     ·replace hz9:=Zu c24 hz9
      try rw [c24] at c18
      try rw [c24] at c19
      try rw [c24] at c23
      obtain ⟨x16,hx16,ax16,bx16,cx16,hz9⟩:=bE (f:=(eI .u64)) Zcc (fun _=>rfl) (by decide) hz9
      obtain ⟨y17,hy17,hz9⟩:=bC hz9
      refine Qg Ze (by kernel_rfl) [none,none,none,none,none,none,none,none,some true,some true,some true,some true,some true,some true,some true,some true,some true,some true,some true,some true] (by kernel_rfl) ?_
      simp only [push_cast,Nat.reduceAdd,Nat.reduceSub,Nat.reduceMul,Nat.reduceLeDiff,Nat.reduceLT,Nat.reduceEqDiff,↓reduceIte,reduceCtorEq,Int.reduceBEq,Int.reduceBNe,Nat.reduceBEq,Int.reduceLE,Int.reduceLT,Int.reduceEq,Int.reduceNe,Int.reduceNeg,Nat.reduceDiv,Nat.reduceMod,Nat.reducePow,Za,c18,c19,c23,c24,ax16,bx16,cx16,hN0,hN]
      repeat (with_reducible refine And.intro (by first | (intro h0;simp only [h0,and_self];done) | (intro h0;simp only [h0,Bool.not_false,Bool.not_true,Bool.true_and,Bool.and_true,true_and,and_true,and_self,imp_self,implies_true,bne_iff_ne,ne_eq,beq_iff_eq];done) | (intros;simp_all;done) | exact True.intro) ?_)
      refine PCall.of (Zef hy17) ?_
      simp only [push_cast,Nat.reduceAdd,Nat.reduceSub,Nat.reduceMul,Nat.reduceLeDiff,Nat.reduceLT,Nat.reduceEqDiff,↓reduceIte,reduceCtorEq,Int.reduceBEq,Int.reduceBNe,Nat.reduceBEq,Int.reduceLE,Int.reduceLT,Int.reduceEq,Int.reduceNe,Int.reduceNeg,Nat.reduceDiv,Nat.reduceMod,Nat.reducePow,Za,c18,c19,c23,c24,ax16,bx16,cx16,hN0,hN]
      repeat (with_reducible refine And.intro (by first | (intro h0;simp only [h0,and_self];done) | (intro h0;simp only [h0,Bool.not_false,Bool.not_true,Bool.true_and,Bool.and_true,true_and,and_true,and_self,imp_self,implies_true,bne_iff_ne,ne_eq,beq_iff_eq];done) | (intros;simp_all;done) | exact True.intro) ?_)
      have hz9:=Option.some.inj hz9;subst hz9
      refine And.intro rfl (Fit2.of (Zi hU rfl rfl ?_) (by omega))
      simp only [push_cast,Nat.reduceAdd,Nat.reduceSub,Nat.reduceMul,Nat.reduceLeDiff,Nat.reduceLT,Nat.reduceEqDiff,↓reduceIte,reduceCtorEq,Int.reduceBEq,Int.reduceBNe,Nat.reduceBEq,Int.reduceLE,Int.reduceLT,Int.reduceEq,Int.reduceNe,Int.reduceNeg,Nat.reduceDiv,Nat.reduceMod,Nat.reducePow,Za,c18,c19,c23,c24,ax16,bx16,cx16,hN0,hN]
     replace hz9:=Zt c24 hz9
     try rw [c24] at c18
     try rw [c24] at c19
     try rw [c24] at c23
     refine Qg Ze (by kernel_rfl) [none,none,none,none,none,none,none,none,some true,some true,some false,some false,some false,some false,some false,some false,some false,some false,some false,some true] (by kernel_rfl) ?_
     simp only [push_cast,seval,↓reduceIte,Za,c18,c19,c23,c24,hN0,hN]
     repeat (with_reducible refine And.intro (by first | (intro h0;simp only [h0,and_self];done) | (intro h0;simp only [h0,Bool.not_false,Bool.not_true,Bool.true_and,Bool.and_true,true_and,and_true,and_self,imp_self,implies_true,bne_iff_ne,ne_eq,beq_iff_eq];done) | (intros;simp_all;done) | exact True.intro) ?_)
     have hz9:=Option.some.inj hz9;subst hz9
     refine And.intro rfl (Fit2.of (Zi hU rfl rfl ?_) (by omega))
     simp only [push_cast,seval,↓reduceIte,Za,c18,c19,c23,c24,hN0,hN]
    replace hz9:=Zt c23 hz9
    try rw [c23] at c18
    try rw [c23] at c19
    refine Qg Ze (by kernel_rfl) [none,none,none,none,none,none,none,none,some true,some true,some false,some false,some false,some false,some false,some false,some false,some false,some false,some true] (by kernel_rfl) ?_
    simp only [push_cast,seval,↓reduceIte,Za,c18,c19,c23,hN0,hN]
    repeat (with_reducible refine And.intro (by first | (intro h0;simp only [h0,and_self];done) | (intro h0;simp only [h0,Bool.not_false,Bool.not_true,Bool.true_and,Bool.and_true,true_and,and_true,and_self,imp_self,implies_true,bne_iff_ne,ne_eq,beq_iff_eq];done) | (intros;simp_all;done) | exact True.intro) ?_)
    have hz9:=Option.some.inj hz9;subst hz9
    refine And.intro rfl (Fit2.of (Zi hU rfl rfl ?_) (by omega))
    simp only [push_cast,seval,↓reduceIte,Za,c18,c19,c23,hN0,hN]
   refine Zs (t:=z9) rfl (fun c25 => ?_) (fun c25 => ?_)
   ·replace hs0_:=Zu c25 hs0_
    refine Zq [4] (Zc Ze [] ?_)
    simp only [push_cast,seval,↓reduceIte,Za,hN0,hN]
    refine Z4 ?_
    try simp only [Zk,Zh]
    have hs0_:=Option.some.inj hs0_;subst hs0_
    refine And.intro (fun h=>by cases h) (And.intro rfl (Fit2.of (Zi hU rfl rfl ?_) (by omega)))
    simp only [push_cast,seval,↓reduceIte,Za,hN0,hN]
   replace hs0_:=Zt c25 hs0_
   refine Zz ?_
   try simp only [Zk,Zh]
   refine Zj [1,2,5] [true,false] ?_
   simp only [push_cast,seval,↓reduceIte]
   refine Zc Ze [] ?_
   simp only [push_cast,seval,↓reduceIte,Za,hN0,hN]
   have hs0_:=Option.some.inj hs0_;subst hs0_
   refine And.intro rfl (Fit2.of (Zi hU rfl rfl ?_) (by omega))
   simp only [push_cast,seval,↓reduceIte,Za,hN0,hN]
  replace hs0_:=Zt c27 hs0_
  refine Xt ?_
  try simp only [Zk,Zh,↓reduceIte,Nat.reduceEqDiff]
  have hs0_:=Option.some.inj hs0_;subst hs0_
  refine And.intro (fun h=>by cases h) (And.intro rfl (Fit2.of (Zi hU rfl rfl ?_) (by omega)))
  simp only [push_cast,seval,↓reduceIte,Za,hN0,hN]
 rcases z28 with z28 | z28
 ·dsimp only [Xb] at hw h
  refine Q2 hw ?_
  try simp only [Zk,Zh,↓reduceIte,Nat.reduceEqDiff]
  have h:=Option.some.inj h;subst h
  refine Zr (.inr rfl) hU [.val (.bool false)] (by omega) ?_
  simp only [push_cast,seval,↓reduceIte,Za,Try.results18,hN0,hN]
 dsimp only [Xb] at hw h
 refine Yv hw ?_
 try simp only [Zk,Zh,↓reduceIte,Nat.reduceEqDiff]
 refine Zj [] [false] ?_
 simp only [push_cast,seval,↓reduceIte]
 refine Zq [4] (Zc Ze [] ?_)
 simp only [push_cast,seval,↓reduceIte,Za,hN0,hN]
 refine Z4 ?_
 try simp only [Zk,Zh]
 have h:=Option.some.inj h;subst h
 refine Zr (.inr rfl) hU [.val (.bool true)] (by omega) ?_
 simp only [push_cast,seval,↓reduceIte,Za,Try.results18,hN0,hN]
theorem Zhh:∀ k,(∀ {a0:S_api_Tree} {a1:Int} {r:Bool} {O:Objs} {n:Nat},(Qd k) a0 a1=some r→GTo Try.prog 18 [.agg (Zd a0),.val (.int .i64 a1)] O n (.val (.bool r)) O n):=fun k=>by
 induction k with
 | zero=>exact @fun a0 a1 r O n h=>(nomatch (show (none:Option _)=some _ from h))
 | succ k ih=>exact @fun a0 a1 r O n h=>Zi1 (ih)  h
theorem K9 {a0:S_api_Tree} {a1:Int} {r:Bool} {O:Objs} {n:Nat} (h:Jt a0 a1=some r):GTo Try.prog 18 [.agg (Zd a0),.val (.int .i64 a1)] O n (.val (.bool r)) O n:=by
 obtain ⟨k,hk⟩:=Gm h
 exact (Zhh k)  hk
theorem Zee {a0:S_api_Tree} {r:Bool} {O:Objs} {n:Nat} (h:Uf a0=some r):GTo Try.prog 53 [.agg (Zd a0)] O n (.val (.bool r)) O n:=by
 unfold Uf at h
 refine Xl Ze Try.call53 Try.func53 rfl (Nat.le_of_ble_eq_true rfl) (Nat.le_refl _) fun hU => ?_
 have hN0:O n=none:=hU.fresh _ (Nat.le_refl _)
 have hN:∀ k,O (n+k)=none:=fun k=>hU.fresh _ (Nat.le_add_right _ _)
 show W _ _ _ _ ⟨14,[],[(0,.agg (Zd a0))]⟩ (Zx O n []) _
 refine Zq [1] (Zc Ze [] ?_)
 simp only [push_cast,seval,↓reduceIte,Za,hN0,hN]
 obtain ⟨z3,hz3,h⟩:=bC h
 refine Y1 (E':=⟨14,[],[(2,.val (.bool z3))]⟩) (O':=(Zx O n [none])) (n0:=(n+1)) ?_ ?_
 ·obtain ⟨y6,hy6,hz3⟩:=bC hz3
  rcases Bool.eq_false_or_eq_true y6 with c8 | c8
  ·replace hz3:=Zu c8 hz3
   obtain ⟨y7,hy7,hz3⟩:=bC hz3
   refine Zc Ze [some true,some true,none,none,none] ?_
   simp only [push_cast,seval,↓reduceIte,Za,c8,hN0,hN]
   repeat (with_reducible refine And.intro (by first | (intro h0;simp only [h0,and_self];done) | (intro h0;simp only [h0,Bool.not_false,Bool.not_true,Bool.true_and,Bool.and_true,true_and,and_true,and_self,imp_self,implies_true,bne_iff_ne,ne_eq,beq_iff_eq];done) | (intros;simp_all;done) | exact True.intro) ?_)
   refine (Zfn hy6).then ?_
   simp only [push_cast,seval,↓reduceIte,Za,c8,hN0,hN]
   repeat (with_reducible refine And.intro (by first | (intro h0;simp only [h0,and_self];done) | (intro h0;simp only [h0,Bool.not_false,Bool.not_true,Bool.true_and,Bool.and_true,true_and,and_true,and_self,imp_self,implies_true,bne_iff_ne,ne_eq,beq_iff_eq];done) | (intros;simp_all;done) | exact True.intro) ?_)
   refine (K9 hy7).then ?_
   simp only [push_cast,seval,↓reduceIte,Za,c8,hN0,hN]
   repeat (with_reducible refine And.intro (by first | (intro h0;simp only [h0,and_self];done) | (intro h0;simp only [h0,Bool.not_false,Bool.not_true,Bool.true_and,Bool.and_true,true_and,and_true,and_self,imp_self,implies_true,bne_iff_ne,ne_eq,beq_iff_eq];done) | (intros;simp_all;done) | exact True.intro) ?_)
   have hz3:=Option.some.inj hz3;subst hz3
   refine And.intro rfl (Fit2.of (Zi hU rfl rfl ?_) (by omega))
   simp only [push_cast,seval,↓reduceIte,Za,c8,hN0,hN]
  replace hz3:=Zt c8 hz3
  refine Zc Ze [some false,some false,some false,some false,some false] ?_
  simp only [push_cast,seval,↓reduceIte,Za,c8,hN0,hN]
  refine (Zfn hy6).then ?_
  simp only [push_cast,seval,↓reduceIte,Za,c8,hN0,hN]
  have hz3:=Option.some.inj hz3;subst hz3
  refine And.intro rfl (Fit2.of (Zi hU rfl rfl ?_) (by omega))
  simp only [push_cast,seval,↓reduceIte,Za,c8,hN0,hN]
 refine Z4 ?_
 try simp only [Zk,Zh]
 have h:=Option.some.inj h;subst h
 refine Zr (.inr rfl) hU [.val (.bool z3)] (by omega) ?_
 simp only [push_cast,seval,↓reduceIte,Za,Try.results53,hN0,hN]
theorem Ul {a0:(List Int)} {r:(List Int)} {O:Objs} {n:Nat} (h:Ju a0=some r):GTo Try.prog 63 [.sl a0.length (fl (eI .u64) a0)] O n (.sl r.length (fl (eI .u64) r)) O n:=by
 unfold Ju at h
 refine Xl Ze Try.call63 Try.func63 rfl (Nat.le_of_ble_eq_true rfl) (Nat.le_refl _) fun hU => ?_
 have hN0:O n=none:=hU.fresh _ (Nat.le_refl _)
 have hN:∀ k,O (n+k)=none:=fun k=>hU.fresh _ (Nat.le_add_right _ _)
 show W _ _ _ _ ⟨22,[],[(0,.sl a0.length (fl (eI .u64) a0))]⟩ (Zx O n []) _
 refine Zq [0] (Zc Ze [] ?_)
 simp only [push_cast,seval,↓reduceIte,Za,hN0,hN]
 refine Zq [0,3] (Zc Ze [] ?_)
 simp only [push_cast,seval,↓reduceIte,Za,hN0,hN]
 refine Zl ?_
 refine Zj [0,3] [] ?_
 simp only [push_cast,seval,↓reduceIte]
 obtain ⟨z7,hz7,h⟩:=bC h
 refine Yv (E':=⟨22,[],[(0,.sl a0.length (fl (eI .u64) a0)),(3,.val (.int .i64 z7))]⟩) (O':=(Zx O n [])) (n0:=n) ?_ ?_
 ·refine Y6 hz7 (fun s0_=>⟨22,[],[(0,.sl a0.length (fl (eI .u64) a0)),(3,.val (.int .i64 s0_))]⟩) (fun s0_=>(Zx O n [])) (fun z7=>JX 0 n (⟨22,[],[(0,.sl a0.length (fl (eI .u64) a0)),(3,.val (.int .i64 z7))]⟩:Env) (Zx O n []) n) ?_
  intro s0_ x0_ hs0_
  unfold K8 at hs0_
  try dsimp only
  refine Zl ?_
  obtain ⟨z2,hz2,hs0_⟩:=bC hs0_
  refine Y1 (E':=⟨22,[],[(0,.sl a0.length (fl (eI .u64) a0)),(3,.val (.int .i64 s0_)),(15,.val (.bool z2))]⟩) (O':=(Zx O n [])) (n0:=n) ?_ ?_
  ·rcases Bool.eq_false_or_eq_true (decide (0 < s0_)) with c5 | c5
   ·replace hz2:=Zu c5 hz2
    obtain ⟨x4,hx4,ax4,bx4,cx4,hz2⟩:=bE (f:=(eI .u64)) Zcc (fun _=>rfl) (by decide) hz2
    refine Zc Ze [some true,some true,some true,some true,some true,some true] ?_
    simp only [push_cast,Nat.reduceAdd,Nat.reduceSub,Nat.reduceMul,Nat.reduceLeDiff,Nat.reduceLT,Nat.reduceEqDiff,↓reduceIte,reduceCtorEq,Int.reduceBEq,Int.reduceBNe,Nat.reduceBEq,Int.reduceLE,Int.reduceLT,Int.reduceEq,Int.reduceNe,Int.reduceNeg,Nat.reduceDiv,Nat.reduceMod,Nat.reducePow,Za,c5,ax4,bx4,cx4,hN0,hN]
    have hz2:=Option.some.inj hz2;subst hz2
    refine And.intro rfl (Fit2.of (Zi hU rfl rfl ?_) (by omega))
    simp only [push_cast,Nat.reduceAdd,Nat.reduceSub,Nat.reduceMul,Nat.reduceLeDiff,Nat.reduceLT,Nat.reduceEqDiff,↓reduceIte,reduceCtorEq,Int.reduceBEq,Int.reduceBNe,Nat.reduceBEq,Int.reduceLE,Int.reduceLT,Int.reduceEq,Int.reduceNe,Int.reduceNeg,Nat.reduceDiv,Nat.reduceMod,Nat.reducePow,Za,c5,ax4,bx4,cx4,hN0,hN]
   replace hz2:=Zt c5 hz2
   refine Zc Ze [some false,some false,some false,some false,some false,some false] ?_
   simp only [push_cast,seval,↓reduceIte,Za,c5,hN0,hN]
   have hz2:=Option.some.inj hz2;subst hz2
   refine And.intro rfl (Fit2.of (Zi hU rfl rfl ?_) (by omega))
   simp only [push_cast,seval,↓reduceIte,Za,c5,hN0,hN]
  refine Zs (t:=z2) rfl (fun c6 => ?_) (fun c6 => ?_)
  ·replace hs0_:=Zu c6 hs0_
   refine Zz ?_
   try simp only [Zk,Zh]
   refine Zj [0,3] [] ?_
   simp only [push_cast,seval,↓reduceIte]
   refine Yw ?_
   refine Zc Ze [] ?_
   simp only [push_cast,seval,↓reduceIte,Za,hN0,hN]
   have hs0_:=Option.some.inj hs0_;subst hs0_
   refine And.intro rfl (Fit2.of (Zi hU rfl rfl ?_) (by omega))
   simp only [push_cast,seval,↓reduceIte,Za,hN0,hN]
  replace hs0_:=Zt c6 hs0_
  refine Xt ?_
  try simp only [Zk,Zh,↓reduceIte,Nat.reduceEqDiff]
  have hs0_:=Option.some.inj hs0_;subst hs0_
  refine And.intro (fun h=>by cases h) (And.intro rfl (Fit2.of (Zi hU rfl rfl ?_) (by omega)))
  simp only [push_cast,seval,↓reduceIte,Za,hN0,hN]
 try simp only [Zk,Zh,↓reduceIte,Nat.reduceEqDiff]
 refine Zj [0,3] [] ?_
 simp only [push_cast,seval,↓reduceIte]
 obtain ⟨l9,al9,bl9,cl9,gl9,h⟩:=bS3 (lo:=none) (hi:=(.i64,z7)) (f:=(eI .u64)) rfl rfl Zhu Zcc (fun _=>rfl) h
 refine Zq [2] (Zc Ze [] ?_)
 simp only [push_cast,seval,↓reduceIte,Za,al9,bl9,cl9,gl9,hN0,hN]
 refine Z4 ?_
 try simp only [Zk,Zh]
 have h:=Option.some.inj h;subst h
 refine Zr (.inr rfl) hU [.sl l9.length (fl (eI .u64) l9)] (by omega) ?_
 simp only [push_cast,seval,↓reduceIte,Za,Try.results63,hN0,hN]
theorem Qj {a0:(List Int)} {a1:(List Int)} {r:Bool} {O:Objs} {n:Nat} (h:Y9 a0 a1=some r):GTo Try.prog 65 [.sl a0.length (fl (eI .u64) a0),.sl a1.length (fl (eI .u64) a1)] O n (.val (.bool r)) O n:=by
 unfold Y9 at h
 refine Xl Ze Try.call65 Try.func65 rfl (Nat.le_of_ble_eq_true rfl) (Nat.le_refl _) fun hU => ?_
 have hN0:O n=none:=hU.fresh _ (Nat.le_refl _)
 have hN:∀ k,O (n+k)=none:=fun k=>hU.fresh _ (Nat.le_add_right _ _)
 show W _ _ _ _ ⟨26,[],[(0,.sl a0.length (fl (eI .u64) a0)),(1,.sl a1.length (fl (eI .u64) a1))]⟩ (Zx O n []) _
 refine Zq [0,1] (Zc Ze [] ?_)
 simp only [push_cast,seval,↓reduceIte,Za,hN0,hN]
 refine Zl ?_
 refine Zq [0,1,10] (Zc Ze [] ?_)
 simp only [push_cast,seval,↓reduceIte,Za,hN0,hN]
 refine Zs (t:=((a0.length:Int) != (a1.length:Int))) rfl (fun c8 => ?_) (fun c8 => ?_)
 ·replace h:=Zu c8 h
  refine Zq [4] (Zc Ze [] ?_)
  simp only [push_cast,seval,↓reduceIte,Za,hN0,hN]
  refine Z4 ?_
  try simp only [Zk,Zh]
  have h:=Option.some.inj h;subst h
  refine Zr (.inr rfl) hU [.val (.bool false)] (by omega) ?_
  simp only [push_cast,seval,↓reduceIte,Za,Try.results65,hN0,hN]
 replace h:=Zt c8 h
 refine Zz ?_
 try simp only [Zk,Zh]
 refine Zj [0,1] [] ?_
 simp only [push_cast,seval,↓reduceIte]
 refine Zl ?_
 refine Zq [0,1,12,13] (Zc Ze [] ?_)
 simp only [push_cast,seval,↓reduceIte,Za,hN0,hN]
 refine Zj [0,1,12,13] [] ?_
 simp only [push_cast,seval,↓reduceIte]
 obtain ⟨z7,hz7,h⟩:=bC h
 refine Gf (J:=(Xb (fun z7=>JR n (⟨26,[],[(4,.val (.bool false))]⟩:Env) (Zx O n []) n) (fun z7=>JX 0 n (⟨26,[],[]⟩:Env) (Zx O n []) n))) (z:=z7) ?_ fun hw => ?_
 ·refine Y6 hz7 (fun s0_=>⟨26,[],[(0,.sl a0.length (fl (eI .u64) a0)),(1,.sl a1.length (fl (eI .u64) a1)),(12,.val (.int .i64 (a0.length:Int))),(13,.val (.int .i64 s0_))]⟩) (fun s0_=>(Zx O n [])) (Xb (fun z7=>JR n (⟨26,[],[(4,.val (.bool false))]⟩:Env) (Zx O n []) n) (fun z7=>JX 0 n (⟨26,[],[]⟩:Env) (Zx O n []) n)) ?_
  intro s0_ x0_ hs0_
  unfold Xe at hs0_
  try dsimp only
  refine Zq [0,1,12,13,14] (Zc Ze [] ?_)
  simp only [push_cast,seval,↓reduceIte,Za,hN0,hN]
  refine Zl ?_
  refine Zs (t:=(decide (s0_ < (a0.length:Int)))) rfl (fun c6 => ?_) (fun c6 => ?_)
  ·replace hs0_:=Zu c6 hs0_
   refine Zz ?_
   try simp only [Zk,Zh]
   refine Zj [0,1,12,13] [] ?_
   simp only [push_cast,seval,↓reduceIte]
   refine Zl ?_
   refine Yw ?_
   refine Zq [0,1,5,12,13] (Zc Ze [] ?_)
   simp only [push_cast,seval,↓reduceIte,Za,hN0,hN]
   obtain ⟨x3,hx3,ax3,bx3,cx3,hs0_⟩:=bE (f:=(eI .u64)) Zcc (fun _=>rfl) (by decide) hs0_
   obtain ⟨x4,hx4,ax4,bx4,cx4,hs0_⟩:=bE (f:=(eI .u64)) Zcc (fun _=>rfl) (by decide) hs0_
   refine Zq [0,1,12,13,24] (Qg Ze (by kernel_rfl) [] (by kernel_rfl) ?_)
   simp only [push_cast,Nat.reduceAdd,Nat.reduceSub,Nat.reduceMul,Nat.reduceLeDiff,Nat.reduceLT,Nat.reduceEqDiff,↓reduceIte,reduceCtorEq,Int.reduceBEq,Int.reduceBNe,Nat.reduceBEq,Int.reduceLE,Int.reduceLT,Int.reduceEq,Int.reduceNe,Int.reduceNeg,Nat.reduceDiv,Nat.reduceMod,Nat.reducePow,Za,ax3,bx3,cx3,ax4,bx4,cx4,hN0,hN]
   refine Zs (t:=(x3 != x4)) rfl (fun c5 => ?_) (fun c5 => ?_)
   ·replace hs0_:=Zu c5 hs0_
    refine Zq [4] (Zc Ze [] ?_)
    simp only [push_cast,seval,↓reduceIte,Za,hN0,hN]
    refine Z4 ?_
    try simp only [Zk,Zh]
    have hs0_:=Option.some.inj hs0_;subst hs0_
    refine And.intro (fun h=>by cases h) (And.intro rfl (Fit2.of (Zi hU rfl rfl ?_) (by omega)))
    simp only [push_cast,seval,↓reduceIte,Za,hN0,hN]
   replace hs0_:=Zt c5 hs0_
   refine Zz ?_
   try simp only [Zk,Zh]
   refine Zj [0,1,12,13] [] ?_
   simp only [push_cast,seval,↓reduceIte]
   refine Zc Ze [] ?_
   simp only [push_cast,seval,↓reduceIte,Za,hN0,hN]
   have hs0_:=Option.some.inj hs0_;subst hs0_
   refine And.intro rfl (Fit2.of (Zi hU rfl rfl ?_) (by omega))
   simp only [push_cast,seval,↓reduceIte,Za,hN0,hN]
  replace hs0_:=Zt c6 hs0_
  refine Xt ?_
  try simp only [Zk,Zh,↓reduceIte,Nat.reduceEqDiff]
  have hs0_:=Option.some.inj hs0_;subst hs0_
  refine And.intro (fun h=>by cases h) (And.intro rfl (Fit2.of (Zi hU rfl rfl ?_) (by omega)))
  simp only [push_cast,seval,↓reduceIte,Za,hN0,hN]
 rcases z7 with z7 | z7
 ·dsimp only [Xb] at hw h
  refine Q2 hw ?_
  try simp only [Zk,Zh,↓reduceIte,Nat.reduceEqDiff]
  have h:=Option.some.inj h;subst h
  refine Zr (.inr rfl) hU [.val (.bool false)] (by omega) ?_
  simp only [push_cast,seval,↓reduceIte,Za,Try.results65,hN0,hN]
 dsimp only [Xb] at hw h
 refine Yv hw ?_
 try simp only [Zk,Zh,↓reduceIte,Nat.reduceEqDiff]
 refine Zj [] [] ?_
 simp only [push_cast,seval,↓reduceIte]
 refine Zq [4] (Zc Ze [] ?_)
 simp only [push_cast,seval,↓reduceIte,Za,hN0,hN]
 refine Z4 ?_
 try simp only [Zk,Zh]
 have h:=Option.some.inj h;subst h
 refine Zr (.inr rfl) hU [.val (.bool true)] (by omega) ?_
 simp only [push_cast,seval,↓reduceIte,Za,Try.results65,hN0,hN]
theorem Zco {a0:(List S_api_Tree)} {r:(List S_api_Tree)} {O:Objs} {n:Nat} (h:K3 a0=some r):GTo Try.prog 64 [.sl a0.length (fl Zb a0)] O n (.sl r.length (fl Zb r)) O n:=by
 unfold K3 at h
 refine Xl Ze Try.call64 Try.func64 rfl (Nat.le_of_ble_eq_true rfl) (Nat.le_refl _) fun hU => ?_
 have hN0:O n=none:=hU.fresh _ (Nat.le_refl _)
 have hN:∀ k,O (n+k)=none:=fun k=>hU.fresh _ (Nat.le_add_right _ _)
 show W _ _ _ _ ⟨23,[],[(0,.sl a0.length (fl Zb a0))]⟩ (Zx O n []) _
 refine Zq [0] (Zc Ze [] ?_)
 simp only [push_cast,seval,↓reduceIte,Za,hN0,hN]
 refine Zq [0,3] (Zc Ze [] ?_)
 simp only [push_cast,seval,↓reduceIte,Za,hN0,hN]
 refine Zl ?_
 refine Zj [0,3] [] ?_
 simp only [push_cast,seval,↓reduceIte]
 obtain ⟨z10,hz10,h⟩:=bC h
 refine Yv (E':=⟨23,[],[(0,.sl a0.length (fl Zb a0)),(3,.val (.int .i64 z10))]⟩) (O':=(Zx O n [])) (n0:=n) ?_ ?_
 ·refine Y6 hz10 (fun s0_=>⟨23,[],[(0,.sl a0.length (fl Zb a0)),(3,.val (.int .i64 s0_))]⟩) (fun s0_=>(Zx O n [])) (fun z10=>JX 0 n (⟨23,[],[(0,.sl a0.length (fl Zb a0)),(3,.val (.int .i64 z10))]⟩:Env) (Zx O n []) n) ?_
  intro s0_ x0_ hs0_
  unfold Vx at hs0_
  try dsimp only
  refine Zl ?_
  obtain ⟨z3,hz3,hs0_⟩:=bC hs0_
  refine Y1 (E':=⟨23,[],[(0,.sl a0.length (fl Zb a0)),(3,.val (.int .i64 s0_)),(16,.val (.bool z3))]⟩) (O':=(Zx O n [])) (n0:=n) ?_ ?_
  ·rcases Bool.eq_false_or_eq_true (decide (0 < s0_)) with c8 | c8
   ·replace hz3:=Zu c8 hz3
    obtain ⟨x6,hx6,ax6,bx6,cx6,hz3⟩:=bE (f:=Zb) Ki (fun _=>rfl) (by decide) hz3
    have g7:=Zba (f:=Zb) (sz:=3) Zo3 (fun _=>rfl) (by decide) (by decide) hx6
    refine Zc Ze [some true,some true,some true,some true,some true,some true,some true] ?_
    simp only [push_cast,Nat.reduceAdd,Nat.reduceSub,Nat.reduceMul,Nat.reduceLeDiff,Nat.reduceLT,Nat.reduceEqDiff,↓reduceIte,reduceCtorEq,Int.reduceBEq,Int.reduceBNe,Nat.reduceBEq,Int.reduceLE,Int.reduceLT,Int.reduceEq,Int.reduceNe,Int.reduceNeg,Nat.reduceDiv,Nat.reduceMod,Nat.reducePow,Za,c8,ax6,bx6,cx6,g7,hN0,hN]
    have hz3:=Option.some.inj hz3;subst hz3
    refine And.intro rfl (Fit2.of (Zi hU rfl rfl ?_) (by omega))
    simp only [push_cast,Nat.reduceAdd,Nat.reduceSub,Nat.reduceMul,Nat.reduceLeDiff,Nat.reduceLT,Nat.reduceEqDiff,↓reduceIte,reduceCtorEq,Int.reduceBEq,Int.reduceBNe,Nat.reduceBEq,Int.reduceLE,Int.reduceLT,Int.reduceEq,Int.reduceNe,Int.reduceNeg,Nat.reduceDiv,Nat.reduceMod,Nat.reducePow,Za,c8,ax6,bx6,cx6,g7,hN0,hN]
   replace hz3:=Zt c8 hz3
   refine Zc Ze [some false,some false,some false,some false,some false,some false,some false] ?_
   simp only [push_cast,seval,↓reduceIte,Za,c8,hN0,hN]
   have hz3:=Option.some.inj hz3;subst hz3
   refine And.intro rfl (Fit2.of (Zi hU rfl rfl ?_) (by omega))
   simp only [push_cast,seval,↓reduceIte,Za,c8,hN0,hN]
  refine Zs (t:=z3) rfl (fun c9 => ?_) (fun c9 => ?_)
  ·replace hs0_:=Zu c9 hs0_
   refine Zz ?_
   try simp only [Zk,Zh]
   refine Zj [0,3] [] ?_
   simp only [push_cast,seval,↓reduceIte]
   refine Yw ?_
   refine Zc Ze [] ?_
   simp only [push_cast,seval,↓reduceIte,Za,hN0,hN]
   have hs0_:=Option.some.inj hs0_;subst hs0_
   refine And.intro rfl (Fit2.of (Zi hU rfl rfl ?_) (by omega))
   simp only [push_cast,seval,↓reduceIte,Za,hN0,hN]
  replace hs0_:=Zt c9 hs0_
  refine Xt ?_
  try simp only [Zk,Zh,↓reduceIte,Nat.reduceEqDiff]
  have hs0_:=Option.some.inj hs0_;subst hs0_
  refine And.intro (fun h=>by cases h) (And.intro rfl (Fit2.of (Zi hU rfl rfl ?_) (by omega)))
  simp only [push_cast,seval,↓reduceIte,Za,hN0,hN]
 try simp only [Zk,Zh,↓reduceIte,Nat.reduceEqDiff]
 refine Zj [0,3] [] ?_
 simp only [push_cast,seval,↓reduceIte]
 obtain ⟨l12,al12,bl12,cl12,gl12,h⟩:=bS3 (lo:=none) (hi:=(.i64,z10)) (f:=Zb) rfl rfl Zax Ki (fun _=>rfl) h
 refine Zq [2] (Zc Ze [] ?_)
 simp only [push_cast,seval,↓reduceIte,Za,al12,bl12,cl12,gl12,hN0,hN]
 refine Z4 ?_
 try simp only [Zk,Zh]
 have h:=Option.some.inj h;subst h
 refine Zr (.inr rfl) hU [.sl l12.length (fl Zb l12)] (by omega) ?_
 simp only [push_cast,seval,↓reduceIte,Za,Try.results64,hN0,hN]
theorem Zqn {J0:(S_api_Tree→S_api_Tree→Option Bool)} {Zv:((List S_api_Tree)→(List S_api_Tree)→Option Bool)} (Zh1:∀ {a0:S_api_Tree} {a1:S_api_Tree} {r:Bool} {O:Objs} {n:Nat},J0 a0 a1=some r→GTo Try.prog 24 [.agg (Zd a0),.agg (Zd a1)] O n (.val (.bool r)) O n) (Yu:∀ {a0:(List S_api_Tree)} {a1:(List S_api_Tree)} {r:Bool} {O:Objs} {n:Nat},Zv a0 a1=some r→GTo Try.prog 66 [.sl a0.length (fl Zb a0),.sl a1.length (fl Zb a1),.fn 24 0 []] O n (.val (.bool r)) O n) {a0:S_api_Tree} {a1:S_api_Tree} {r:Bool} {O:Objs} {n:Nat} (h:Zbt J0 Zv a0 a1=some r):GTo Try.prog 24 [.agg (Zd a0),.agg (Zd a1)] O n (.val (.bool r)) O n:=by
 unfold Zbt at h
 refine Xl Ze Try.call24 Try.func24 rfl (Nat.le_of_ble_eq_true rfl) (Nat.le_refl _) fun hU => ?_
 have hN0:O n=none:=hU.fresh _ (Nat.le_refl _)
 have hN:∀ k,O (n+k)=none:=fun k=>hU.fresh _ (Nat.le_add_right _ _)
 show W _ _ _ _ ⟨44,[],[(0,.agg (Zd a0)),(1,.agg (Zd a1))]⟩ (Zx O n []) _
 refine Zq [2,3] (Zc Ze [] ?_)
 simp only [push_cast,seval,↓reduceIte,Za,hN0,hN]
 refine Zl ?_
 refine Zq [2,3,9] (Zc Ze [] ?_)
 simp only [push_cast,seval,↓reduceIte,Za,hN0,hN]
 refine Zs (t:=(a0.Kind != a1.Kind)) rfl (fun c31 => ?_) (fun c31 => ?_)
 ·replace h:=Zu c31 h
  refine Zq [4] (Zc Ze [] ?_)
  simp only [push_cast,seval,↓reduceIte,Za,hN0,hN]
  refine Z4 ?_
  try simp only [Zk,Zh]
  have h:=Option.some.inj h;subst h
  refine Zr (.inr rfl) hU [.val (.bool false)] (by omega) ?_
  simp only [push_cast,seval,↓reduceIte,Za,Try.results24,hN0,hN]
 replace h:=Zt c31 h
 refine Zz ?_
 try simp only [Zk,Zh]
 refine Zj [2,3] [true,true] ?_
 simp only [push_cast,seval,↓reduceIte]
 refine Zl ?_
 refine Zq [2,3,11] (Zc Ze [] ?_)
 simp only [push_cast,seval,↓reduceIte,Za,hN0,hN]
 refine Yw ?_
 refine Zq [2,3,11,12] (Zc Ze [] ?_)
 simp only [push_cast,seval,↓reduceIte,Za,hN0,hN]
 refine Zs (t:=(a0.Kind == 0)) rfl (fun c30 => ?_) (fun c30 => ?_)
 ·replace h:=Zu c30 h
  refine Zq [4] (Zc Ze [] ?_)
  simp only [push_cast,seval,↓reduceIte,Za,hN0,hN]
  refine Z4 ?_
  try simp only [Zk,Zh]
  have h:=Option.some.inj h;subst h
  refine Zr (.inr rfl) hU [.val (.bool true)] (by omega) ?_
  simp only [push_cast,seval,↓reduceIte,Za,Try.results24,hN0,hN]
 replace h:=Zt c30 h
 refine Zq [2,3,14] (Zc Ze [] ?_)
 simp only [push_cast,seval,↓reduceIte,Za,hN0,hN]
 refine Zs (t:=(a0.Kind == 1)) rfl (fun c29 => ?_) (fun c29 => ?_)
 ·replace h:=Zu c29 h
  obtain ⟨z7,hz7,h⟩:=bC h
  refine Y1 (E':=⟨44,[],[(4,.val (.bool z7))]⟩) (O':=(Zx O n [none,none])) (n0:=(n+2)) ?_ ?_
  ·obtain ⟨y14,hy14,hz7⟩:=bC hz7
   obtain ⟨y15,hy15,hz7⟩:=bC hz7
   obtain ⟨y16,hy16,hz7⟩:=bC hz7
   rcases Bool.eq_false_or_eq_true y16 with c20 | c20
   ·replace hz7:=Zu c20 hz7
    obtain ⟨y17,hy17,hz7⟩:=bC hz7
    obtain ⟨y18,hy18,hz7⟩:=bC hz7
    obtain ⟨y19,hy19,hz7⟩:=bC hz7
    refine Qg Ze (by kernel_rfl) [some true,some true,some true,some true,some true,some true,some true] (by kernel_rfl) ?_
    simp only [push_cast,seval,↓reduceIte,Za,c20,hN0,hN]
    refine PCall.of (Ul hy14) ?_
    simp only [push_cast,seval,↓reduceIte,Za,c20,hN0,hN]
    refine PCall.of (Ul hy15) ?_
    simp only [push_cast,seval,↓reduceIte,Za,c20,hN0,hN]
    refine PCall.of (Qj hy16) ?_
    simp only [push_cast,seval,↓reduceIte,Za,c20,hN0,hN]
    refine PCall.of (Zco hy17) ?_
    simp only [push_cast,seval,↓reduceIte,Za,c20,hN0,hN]
    refine PCall.of (Zco hy18) ?_
    simp only [push_cast,seval,↓reduceIte,Za,c20,hN0,hN]
    refine PCall.of (Yu hy19) ?_
    simp only [push_cast,seval,↓reduceIte,Za,c20,hN0,hN]
    have hz7:=Option.some.inj hz7;subst hz7
    refine And.intro rfl (Fit2.of (Zi hU rfl rfl ?_) (by omega))
    simp only [push_cast,seval,↓reduceIte,Za,c20,hN0,hN]
   replace hz7:=Zt c20 hz7
   refine Qg Ze (by kernel_rfl) [some false,some false,some false,some false,some false,some false,some false] (by kernel_rfl) ?_
   simp only [push_cast,seval,↓reduceIte,Za,c20,hN0,hN]
   refine PCall.of (Ul hy14) ?_
   simp only [push_cast,seval,↓reduceIte,Za,c20,hN0,hN]
   refine PCall.of (Ul hy15) ?_
   simp only [push_cast,seval,↓reduceIte,Za,c20,hN0,hN]
   refine PCall.of (Qj hy16) ?_
   simp only [push_cast,seval,↓reduceIte,Za,c20,hN0,hN]
   have hz7:=Option.some.inj hz7;subst hz7
   refine And.intro rfl (Fit2.of (Zi hU rfl rfl ?_) (by omega))
   simp only [push_cast,seval,↓reduceIte,Za,c20,hN0,hN]
  refine Z4 ?_
  try simp only [Zk,Zh]
  have h:=Option.some.inj h;subst h
  refine Zr (.inr rfl) hU [.val (.bool z7)] (by omega) ?_
  simp only [push_cast,seval,↓reduceIte,Za,Try.results24,hN0,hN]
 replace h:=Zt c29 h
 refine Zz ?_
 try simp only [Zk,Zh]
 refine Zj [2,3] [true,true] ?_
 simp only [push_cast,seval,↓reduceIte]
 obtain ⟨z23,hz23,h⟩:=bC h
 refine Y1 (E':=⟨44,[],[(4,.val (.bool z23))]⟩) (O':=(Zx O n [none,none])) (n0:=(n+2)) ?_ ?_
 ·obtain ⟨y26,hy26,hz23⟩:=bC hz23
  rcases Bool.eq_false_or_eq_true y26 with c28 | c28
  ·replace hz23:=Zu c28 hz23
   obtain ⟨y27,hy27,hz23⟩:=bC hz23
   refine Zc Ze [some true,some true,some true,some true,some true] ?_
   simp only [push_cast,seval,↓reduceIte,Za,c28,hN0,hN]
   refine (Qj hy26).then ?_
   simp only [push_cast,seval,↓reduceIte,Za,c28,hN0,hN]
   refine (Yu hy27).then ?_
   simp only [push_cast,seval,↓reduceIte,Za,c28,hN0,hN]
   have hz23:=Option.some.inj hz23;subst hz23
   refine And.intro rfl (Fit2.of (Zi hU rfl rfl ?_) (by omega))
   simp only [push_cast,seval,↓reduceIte,Za,c28,hN0,hN]
  replace hz23:=Zt c28 hz23
  refine Zc Ze [some false,some false,some false,some false,some false] ?_
  simp only [push_cast,seval,↓reduceIte,Za,c28,hN0,hN]
  refine (Qj hy26).then ?_
  simp only [push_cast,seval,↓reduceIte,Za,c28,hN0,hN]
  have hz23:=Option.some.inj hz23;subst hz23
  refine And.intro rfl (Fit2.of (Zi hU rfl rfl ?_) (by omega))
  simp only [push_cast,seval,↓reduceIte,Za,c28,hN0,hN]
 refine Z4 ?_
 try simp only [Zk,Zh]
 have h:=Option.some.inj h;subst h
 refine Zr (.inr rfl) hU [.val (.bool z23)] (by omega) ?_
 simp only [push_cast,seval,↓reduceIte,Za,Try.results24,hN0,hN]
theorem Jb {J0:(S_api_Tree→S_api_Tree→Option Bool)} {Zv:((List S_api_Tree)→(List S_api_Tree)→Option Bool)} (Zh1:∀ {a0:S_api_Tree} {a1:S_api_Tree} {r:Bool} {O:Objs} {n:Nat},J0 a0 a1=some r→GTo Try.prog 24 [.agg (Zd a0),.agg (Zd a1)] O n (.val (.bool r)) O n) (Yu:∀ {a0:(List S_api_Tree)} {a1:(List S_api_Tree)} {r:Bool} {O:Objs} {n:Nat},Zv a0 a1=some r→GTo Try.prog 66 [.sl a0.length (fl Zb a0),.sl a1.length (fl Zb a1),.fn 24 0 []] O n (.val (.bool r)) O n) {a0:(List S_api_Tree)} {a1:(List S_api_Tree)} {r:Bool} {O:Objs} {n:Nat} (h:Z8 J0 Zv a0 a1=some r):GTo Try.prog 66 [.sl a0.length (fl Zb a0),.sl a1.length (fl Zb a1),.fn 24 0 []] O n (.val (.bool r)) O n:=by
 unfold Z8 at h
 refine Xl Ze Try.call66 Try.func66 rfl (Nat.le_of_ble_eq_true rfl) (Nat.le_refl _) fun hU => ?_
 have hN0:O n=none:=hU.fresh _ (Nat.le_refl _)
 have hN:∀ k,O (n+k)=none:=fun k=>hU.fresh _ (Nat.le_add_right _ _)
 show W _ _ _ _ ⟨32,[],[(0,.sl a0.length (fl Zb a0)),(1,.sl a1.length (fl Zb a1)),(2,.fn 24 0 [])]⟩ (Zx O n []) _
 refine Zq [0,1,2] (Zc Ze [] ?_)
 simp only [push_cast,seval,↓reduceIte,Za,hN0,hN]
 refine Zl ?_
 refine Zq [0,1,2,14] (Zc Ze [] ?_)
 simp only [push_cast,seval,↓reduceIte,Za,hN0,hN]
 refine Zs (t:=((a0.length:Int) != (a1.length:Int))) rfl (fun c10 => ?_) (fun c10 => ?_)
 ·replace h:=Zu c10 h
  refine Zq [6] (Zc Ze [] ?_)
  simp only [push_cast,seval,↓reduceIte,Za,hN0,hN]
  refine Z4 ?_
  try simp only [Zk,Zh]
  have h:=Option.some.inj h;subst h
  refine Zr (.inr rfl) hU [.val (.bool false)] (by omega) ?_
  simp only [push_cast,seval,↓reduceIte,Za,Try.results66,hN0,hN]
 replace h:=Zt c10 h
 refine Zz ?_
 try simp only [Zk,Zh]
 refine Zj [0,1,2] [] ?_
 simp only [push_cast,seval,↓reduceIte]
 refine Zl ?_
 refine Zq [1,2,15,16,17] (Zc Ze [] ?_)
 simp only [push_cast,seval,↓reduceIte,Za,hN0,hN]
 refine Zj [1,2,15,16,17] [] ?_
 simp only [push_cast,seval,↓reduceIte]
 obtain ⟨z9,hz9,h⟩:=bC h
 refine Gf (J:=(Xb (fun z9=>JR n (⟨32,[],[(6,.val (.bool false))]⟩:Env) (Zx O n []) n) (fun z9=>JX 0 n (⟨32,[],[]⟩:Env) (Zx O n []) n))) (z:=z9) ?_ fun hw => ?_
 ·refine Y6 hz9 (fun s0_=>⟨32,[],[(1,.sl a1.length (fl Zb a1)),(2,.fn 24 0 []),(15,.sl a0.length (fl Zb a0)),(16,.val (.int .i64 (a0.length:Int))),(17,.val (.int .i64 s0_))]⟩) (fun s0_=>(Zx O n [])) (Xb (fun z9=>JR n (⟨32,[],[(6,.val (.bool false))]⟩:Env) (Zx O n []) n) (fun z9=>JX 0 n (⟨32,[],[]⟩:Env) (Zx O n []) n)) ?_
  intro s0_ x0_ hs0_
  unfold Z7 at hs0_
  try dsimp only
  refine Zq [1,2,15,16,17,18] (Zc Ze [] ?_)
  simp only [push_cast,seval,↓reduceIte,Za,hN0,hN]
  refine Zl ?_
  refine Zs (t:=(decide (s0_ < (a0.length:Int)))) rfl (fun c8 => ?_) (fun c8 => ?_)
  ·replace hs0_:=Zu c8 hs0_
   refine Zz ?_
   try simp only [Zk,Zh]
   refine Zj [1,2,15,16,17] [] ?_
   simp only [push_cast,seval,↓reduceIte]
   refine Zl ?_
   refine Yw ?_
   refine Zl ?_
   obtain ⟨x2,hx2,ax2,bx2,cx2,hs0_⟩:=bE (f:=Zb) Ki (fun _=>rfl) (by decide) hs0_
   refine Zc Ze [] ?_
   simp only [push_cast,Nat.reduceAdd,Nat.reduceSub,Nat.reduceMul,Nat.reduceLeDiff,Nat.reduceLT,Nat.reduceEqDiff,↓reduceIte,reduceCtorEq,Int.reduceBEq,Int.reduceBNe,Nat.reduceBEq,Int.reduceLE,Int.reduceLT,Int.reduceEq,Int.reduceNe,Int.reduceNeg,Nat.reduceDiv,Nat.reduceMod,Nat.reducePow,Za,ax2,bx2,cx2,hN0,hN]
   refine Zj [1,2,7,8,15,16,17] [true] ?_
   simp only [push_cast,seval,↓reduceIte]
   refine Zl ?_
   obtain ⟨x4,hx4,ax4,bx4,cx4,hs0_⟩:=bE (f:=Zb) Ki (fun _=>rfl) (by decide) hs0_
   refine Zc Ze [] ?_
   simp only [push_cast,Nat.reduceAdd,Nat.reduceSub,Nat.reduceMul,Nat.reduceLeDiff,Nat.reduceLT,Nat.reduceEqDiff,↓reduceIte,reduceCtorEq,Int.reduceBEq,Int.reduceBNe,Nat.reduceBEq,Int.reduceLE,Int.reduceLT,Int.reduceEq,Int.reduceNe,Int.reduceNeg,Nat.reduceDiv,Nat.reduceMod,Nat.reducePow,Za,ax4,bx4,cx4,hN0,hN]
   refine Zj [1,2,8,9,15,16,17] [true,true] ?_
   simp only [push_cast,seval,↓reduceIte]
   refine Zl ?_
   obtain ⟨y6,hy6,hs0_⟩:=bC hs0_
   refine Zc Ze [] ?_
   simp only [push_cast,seval,↓reduceIte,Za,hN0,hN]
   refine (Zh1 hy6).then ?_
   simp only [push_cast,seval,↓reduceIte,Za,hN0,hN]
   refine Zj [1,2,15,16,17,30] [false,false] ?_
   simp only [push_cast,seval,↓reduceIte]
   refine Zs (t:=(!y6)) rfl (fun c7 => ?_) (fun c7 => ?_)
   ·replace hs0_:=Zu c7 hs0_
    refine Zq [6] (Zc Ze [] ?_)
    simp only [push_cast,seval,↓reduceIte,Za,hN0,hN]
    refine Z4 ?_
    try simp only [Zk,Zh]
    have hs0_:=Option.some.inj hs0_;subst hs0_
    refine And.intro (fun h=>by cases h) (And.intro rfl (Fit2.of (Zi hU rfl rfl ?_) (by omega)))
    simp only [push_cast,seval,↓reduceIte,Za,hN0,hN]
   replace hs0_:=Zt c7 hs0_
   refine Zz ?_
   try simp only [Zk,Zh]
   refine Zj [1,2,15,16,17] [false,false] ?_
   simp only [push_cast,seval,↓reduceIte]
   refine Zc Ze [] ?_
   simp only [push_cast,seval,↓reduceIte,Za,hN0,hN]
   have hs0_:=Option.some.inj hs0_;subst hs0_
   refine And.intro rfl (Fit2.of (Zi hU rfl rfl ?_) (by omega))
   simp only [push_cast,seval,↓reduceIte,Za,hN0,hN]
  replace hs0_:=Zt c8 hs0_
  refine Xt ?_
  try simp only [Zk,Zh,↓reduceIte,Nat.reduceEqDiff]
  have hs0_:=Option.some.inj hs0_;subst hs0_
  refine And.intro (fun h=>by cases h) (And.intro rfl (Fit2.of (Zi hU rfl rfl ?_) (by omega)))
  simp only [push_cast,seval,↓reduceIte,Za,hN0,hN]
 rcases z9 with z9 | z9
 ·dsimp only [Xb] at hw h
  refine Q2 hw ?_
  try simp only [Zk,Zh,↓reduceIte,Nat.reduceEqDiff]
  have h:=Option.some.inj h;subst h
  refine Zr (.inr rfl) hU [.val (.bool false)] (by omega) ?_
  simp only [push_cast,seval,↓reduceIte,Za,Try.results66,hN0,hN]
 dsimp only [Xb] at hw h
 refine Yv hw ?_
 try simp only [Zk,Zh,↓reduceIte,Nat.reduceEqDiff]
 refine Zj [] [] ?_
 simp only [push_cast,seval,↓reduceIte]
 refine Zq [6] (Zc Ze [] ?_)
 simp only [push_cast,seval,↓reduceIte,Za,hN0,hN]
 refine Z4 ?_
 try simp only [Zk,Zh]
 have h:=Option.some.inj h;subst h
 refine Zr (.inr rfl) hU [.val (.bool true)] (by omega) ?_
 simp only [push_cast,seval,↓reduceIte,Za,Try.results66,hN0,hN]
theorem Zgm:∀ k,(∀ {a0:S_api_Tree} {a1:S_api_Tree} {r:Bool} {O:Objs} {n:Nat},(Y7 k).1 a0 a1=some r→GTo Try.prog 24 [.agg (Zd a0),.agg (Zd a1)] O n (.val (.bool r)) O n)∧(∀ {a0:(List S_api_Tree)} {a1:(List S_api_Tree)} {r:Bool} {O:Objs} {n:Nat},(Y7 k).2 a0 a1=some r→GTo Try.prog 66 [.sl a0.length (fl Zb a0),.sl a1.length (fl Zb a1),.fn 24 0 []] O n (.val (.bool r)) O n):=fun k=>by
 induction k with
 | zero=>exact ⟨@fun a0 a1 r O n h=>(nomatch (show (none:Option _)=some _ from h)),@fun a0 a1 r O n h=>(nomatch (show (none:Option _)=some _ from h))⟩
 | succ k ih=>exact ⟨@fun a0 a1 r O n h=>Zqn (ih.1) (ih.2)  h,@fun a0 a1 r O n h=>Jb (ih.1) (ih.2)  h⟩
theorem Zsh {a0:S_api_Tree} {a1:S_api_Tree} {r:Bool} {O:Objs} {n:Nat} (h:Zhl a0 a1=some r):GTo Try.prog 24 [.agg (Zd a0),.agg (Zd a1)] O n (.val (.bool r)) O n:=by
 obtain ⟨k,hk⟩:=Gm h
 exact (Zgm k).1  hk
theorem Jg {a0:(List S_api_Tree)} {a1:(List S_api_Tree)} {r:Bool} {O:Objs} {n:Nat} (h:Yy a0 a1=some r):GTo Try.prog 66 [.sl a0.length (fl Zb a0),.sl a1.length (fl Zb a1),.fn 24 0 []] O n (.val (.bool r)) O n:=by
 obtain ⟨k,hk⟩:=Gm h
 exact (Zgm k).2  hk
theorem Gc {a0 r:List Int} {O:Objs} {n:Nat} (h:K2 a0=some r):GTo Try.prog 126 [.sl a0.length (fl (eI .u64) a0)] O n (.row n r.length) (Zx O n [some ⟨true,71,1,r.length,fl (eI .u64) r⟩]) (n+1):=by
 have h1:=Zti h
 have h2:=Ztj h
 have h3:=Zo5 h
 rw [List.nil_append] at h3
 subst h3
 simp only [List.length_nil,Nat.zero_add] at h1 h2
 clear h
 refine Xl Ze Try.call126 Try.func126 rfl (Nat.le_of_ble_eq_true rfl) (by omega) fun hU => ?_
 have hN0:O n=none:=hU.fresh _ (Nat.le_refl _)
 have hN:∀ k,O (n+k)=none:=fun k=>hU.fresh _ (Nat.le_add_right _ _)
 show W _ _ _ _ ⟨8,[],[(0,.sl r.length (fl (eI .u64) r))]⟩ (Zx O n []) _
 refine Zq [0] (Zc Ze [] ?_)
 simp only [push_cast,seval,↓reduceIte,Za,hN0,hN]
 refine Z0c 0 r.length (fl (eI .u64) r) rfl (Nat.le_of_ble_eq_true rfl) (Yr Ky _) fun A c hA => ?_
 refine Zq [0,4] (Zc Ze [] ?_)
 simp only [push_cast,seval,↓reduceIte,Za,hN0,hN]
 cases A with
 | none =>
  obtain rfl:r=[]:=List.eq_nil_of_length_eq_zero (hA rfl)
  refine Zs (t:=true) rfl (fun _ => ?_) (fun hc=>by cases hc)
  refine Zq [2] (Zc Ze [] ?_)
  simp only [push_cast,seval,↓reduceIte,Za,hN0,hN]
  refine Z4 ?_
  try simp only [Zk,Zh]
  refine Zu4 (k:=1) (L3:=[some ⟨true,71,1,0,[]⟩]) (E2:=⟨8,[],[(2,.row n 0),(2,.val (.slice none 0 0))]⟩) (n3:=(n+1)) (.inr rfl) hU rfl [.row n 0] ?_ ?_
  ·have ha:=Zny (ba:=n) (E:=⟨8,[],[(2,.val (.slice none 0 0))]⟩) (O:=(Zx O n [])) (n:=n) 2 71 1 rfl (by omega)
   simp only [Ql] at ha
   exact ha
  simp only [push_cast,seval,↓reduceIte,Za,Try.results126,hN0,hN]
 | some A =>
  refine Zs (t:=false) rfl (fun hc=>by cases hc) (fun _ => ?_)
  refine Zz ?_
  try simp only [Zk,Zh]
  refine And.intro rfl (And.intro (Nat.le_of_ble_eq_true rfl) ?_)
  refine Zl ?_
  refine Zc Ze [] ?_
  simp only [push_cast,seval,↓reduceIte,Za,h1,h2,hN0,hN]
  refine Z4 ?_
  try simp only [Zk,Zh]
  refine Zu3 (.inr rfl) hU rfl [.row n r.length] (by omega) ?_
  simp only [push_cast,seval,↓reduceIte,Za,Try.results126,hN0,hN]
theorem Q0 {a0 r:List S_api_Tree} {O:Objs} {n:Nat} (h:Q5 a0=some r):GTo Try.prog 127 [.sl a0.length (fl Zb a0)] O n (.row n r.length) (Zx O n [some ⟨true,25,3,r.length,fl Zb r⟩]) (n+1):=by
 have h1:=Zti h
 have h2:=Ztj h
 have h3:=Zo5 h
 rw [List.nil_append] at h3
 subst h3
 simp only [List.length_nil,Nat.zero_add] at h1 h2
 clear h
 refine Xl Ze Try.call127 Try.func127 rfl (Nat.le_of_ble_eq_true rfl) (by omega) fun hU => ?_
 have hN0:O n=none:=hU.fresh _ (Nat.le_refl _)
 have hN:∀ k,O (n+k)=none:=fun k=>hU.fresh _ (Nat.le_add_right _ _)
 show W _ _ _ _ ⟨8,[],[(0,.sl r.length (fl Zb r))]⟩ (Zx O n []) _
 refine Zq [0] (Zc Ze [] ?_)
 simp only [push_cast,seval,↓reduceIte,Za,hN0,hN]
 refine Z0c 0 r.length (fl Zb r) rfl (Nat.le_of_ble_eq_true rfl) (Yr Y3 _) fun A c hA => ?_
 refine Zq [0,4] (Zc Ze [] ?_)
 simp only [push_cast,seval,↓reduceIte,Za,hN0,hN]
 cases A with
 | none =>
  obtain rfl:r=[]:=List.eq_nil_of_length_eq_zero (hA rfl)
  refine Zs (t:=true) rfl (fun _ => ?_) (fun hc=>by cases hc)
  refine Zq [2] (Zc Ze [] ?_)
  simp only [push_cast,seval,↓reduceIte,Za,hN0,hN]
  refine Z4 ?_
  try simp only [Zk,Zh]
  refine Zu4 (k:=1) (L3:=[some ⟨true,25,3,0,[]⟩]) (E2:=⟨8,[],[(2,.row n 0),(2,.val (.slice none 0 0))]⟩) (n3:=(n+1)) (.inr rfl) hU rfl [.row n 0] ?_ ?_
  ·have ha:=Zny (ba:=n) (E:=⟨8,[],[(2,.val (.slice none 0 0))]⟩) (O:=(Zx O n [])) (n:=n) 2 25 3 rfl (by omega)
   simp only [Ql] at ha
   exact ha
  simp only [push_cast,seval,↓reduceIte,Za,Try.results127,hN0,hN]
 | some A =>
  refine Zs (t:=false) rfl (fun hc=>by cases hc) (fun _ => ?_)
  refine Zz ?_
  try simp only [Zk,Zh]
  refine And.intro rfl (And.intro (Nat.le_of_ble_eq_true rfl) ?_)
  refine Zl ?_
  refine Zc Ze [] ?_
  simp only [push_cast,seval,↓reduceIte,Za,h1,h2,hN0,hN]
  refine Z4 ?_
  try simp only [Zk,Zh]
  refine Zu3 (.inr rfl) hU rfl [.row n r.length] (by omega) ?_
  simp only [push_cast,seval,↓reduceIte,Za,Try.results127,hN0,hN]
theorem Zud {a0:S_api_Tree} {a1:Int} {r:Int} {O:Objs} {n:Nat} (h:Zc7 a0 a1=some r):GTo Try.prog 128 [.agg (Zd a0),.val (.int .i64 a1)] O n (.val (.int .u64 r)) O n:=by
 unfold Zc7 at h
 refine Xl Ze Try.call128 Try.func128 rfl (Nat.le_of_ble_eq_true rfl) (Nat.le_refl _) fun hU => ?_
 have hN0:O n=none:=hU.fresh _ (Nat.le_refl _)
 have hN:∀ k,O (n+k)=none:=fun k=>hU.fresh _ (Nat.le_add_right _ _)
 show W _ _ _ _ ⟨19,[],[(0,.agg (Zd a0)),(1,.val (.int .i64 a1))]⟩ (Zx O n []) _
 refine Zq [1,2] (Zc Ze [] ?_)
 simp only [push_cast,seval,↓reduceIte,Za,hN0,hN]
 refine Zl ?_
 refine Zq [1,2,13] (Zc Ze [none,none,none,none,none] ?_)
 simp only [push_cast,seval,↓reduceIte,Za,hN0,hN]
 repeat (with_reducible refine And.intro (by first | (intro h0;simp only [h0,and_self];done) | (intro h0;simp only [h0,Bool.not_false,Bool.not_true,Bool.true_and,Bool.and_true,true_and,and_true,and_self,imp_self,implies_true,bne_iff_ne,ne_eq,beq_iff_eq];done) | (intros;simp_all;done) | exact True.intro) ?_)
 refine Zs (t:=(cond (decide (a1 < 0)) true (decide ((a0.Words.length:Int)≤a1)))) rfl (fun c3 => ?_) (fun c3 => ?_)
 ·replace h:=Zu c3 h
  refine Zq [4] (Zc Ze [] ?_)
  simp only [push_cast,seval,↓reduceIte,Za,hN0,hN]
  refine Z4 ?_
  try simp only [Zk,Zh]
  have h:=Option.some.inj h;subst h
  refine Zr (.inr rfl) hU [.val (.int .u64 0)] (by omega) ?_
  simp only [push_cast,seval,↓reduceIte,Za,Try.results128,hN0,hN]
 replace h:=Zt c3 h
 refine Zz ?_
 try simp only [Zk,Zh]
 refine Zj [1,2] [true] ?_
 simp only [push_cast,seval,↓reduceIte]
 obtain ⟨x2,hx2,ax2,bx2,cx2,h⟩:=bE (f:=(eI .u64)) Zcc (fun _=>rfl) (by decide) h
 refine Zq [4] (Zc Ze [] ?_)
 simp only [push_cast,Nat.reduceAdd,Nat.reduceSub,Nat.reduceMul,Nat.reduceLeDiff,Nat.reduceLT,Nat.reduceEqDiff,↓reduceIte,reduceCtorEq,Int.reduceBEq,Int.reduceBNe,Nat.reduceBEq,Int.reduceLE,Int.reduceLT,Int.reduceEq,Int.reduceNe,Int.reduceNeg,Nat.reduceDiv,Nat.reduceMod,Nat.reducePow,Za,ax2,bx2,cx2,hN0,hN]
 refine Z4 ?_
 try simp only [Zk,Zh]
 have h:=Option.some.inj h;subst h
 refine Zr (.inr rfl) hU [.val (.int .u64 x2)] (by omega) ?_
 simp only [push_cast,seval,↓reduceIte,Za,Try.results128,hN0,hN]
theorem Zcn {a0:Int} {r:Bool} {O:Objs} {n:Nat} (h:V3 a0=some r):GTo Try.prog 129 [.val (.int .i64 a0)] O n (.val (.bool r)) O n:=by
 unfold V3 at h
 refine Xl Ze Try.call129 Try.func129 rfl (Nat.le_of_ble_eq_true rfl) (Nat.le_refl _) fun hU => ?_
 have hN0:O n=none:=hU.fresh _ (Nat.le_refl _)
 have hN:∀ k,O (n+k)=none:=fun k=>hU.fresh _ (Nat.le_add_right _ _)
 show W _ _ _ _ ⟨9,[],[(0,.val (.int .i64 a0))]⟩ (Zx O n []) _
 refine Zq [0] (Zc Ze [] ?_)
 simp only [push_cast,seval,↓reduceIte,Za,hN0,hN]
 refine Zq [2] (Zc Ze [none,none] ?_)
 simp only [push_cast,seval,↓reduceIte,Za,hN0,hN]
 repeat (with_reducible refine And.intro (by first | (intro h0;simp only [h0,and_self];done) | (intro h0;simp only [h0,Bool.not_false,Bool.not_true,Bool.true_and,Bool.and_true,true_and,and_true,and_self,imp_self,implies_true,bne_iff_ne,ne_eq,beq_iff_eq];done) | (intros;simp_all;done) | exact True.intro) ?_)
 refine Z4 ?_
 try simp only [Zk,Zh]
 have h:=Option.some.inj h;subst h
 refine Zr (.inr rfl) hU [.val (.bool (cond (decide (a0 < 0)) true (decide (65534 < a0))))] (by omega) ?_
 simp only [push_cast,seval,↓reduceIte,Za,Try.results129,hN0,hN]
theorem Zl6 {a0:Int} {r:Int} {O:Objs} {n:Nat} (h:Zai a0=some r):GTo Try.prog 121 [.val (.int .u8 a0)] O n (.val (.int .u64 r)) O n:=by
 unfold Zai at h
 refine Xl Ze Try.call121 Try.func121 rfl (Nat.le_of_ble_eq_true rfl) (Nat.le_refl _) fun hU => ?_
 have hN0:O n=none:=hU.fresh _ (Nat.le_refl _)
 have hN:∀ k,O (n+k)=none:=fun k=>hU.fresh _ (Nat.le_add_right _ _)
 show W _ _ _ _ ⟨20,[],[(0,.val (.int .u8 a0))]⟩ (Zx O n []) _
 refine Zq [0] (Zc Ze [] ?_)
 simp only [push_cast,seval,↓reduceIte,Za,hN0,hN]
 refine Zq [0,3] (Zc Ze [] ?_)
 simp only [push_cast,seval,↓reduceIte,Za,hN0,hN]
 refine Zl ?_
 refine Zq [0,3,5] (Zc Ze [] ?_)
 simp only [push_cast,seval,↓reduceIte,Za,hN0,hN]
 refine Zj [0,3,5] [] ?_
 simp only [push_cast,seval,↓reduceIte]
 obtain ⟨z7,hz7,h⟩:=bC h
 refine Yv (E':=⟨20,[],[(3,.val (.int .u64 z7))]⟩) (O':=(Zx O n [])) (n0:=n) ?_ ?_
 ·refine Y6 hz7 (fun s0_=>⟨20,[],[(0,.val (.int .u8 a0)),(3,.val (.int .u64 s0_.1)),(5,.val (.int .i64 s0_.2))]⟩) (fun s0_=>(Zx O n [])) (fun z7=>JX 0 n (⟨20,[],[(3,.val (.int .u64 z7))]⟩:Env) (Zx O n []) n) ?_
  intro s0_ x0_ hs0_
  unfold Zaj at hs0_
  try dsimp only
  refine Zq [0,3,5,6] (Zc Ze [] ?_)
  simp only [push_cast,seval,↓reduceIte,Za,hN0,hN]
  refine Zl ?_
  refine Zs (t:=(decide (s0_.2 < 8))) rfl (fun c6 => ?_) (fun c6 => ?_)
  ·replace hs0_:=Zu c6 hs0_
   refine Zz ?_
   try simp only [Zk,Zh]
   refine Zj [0,3,5] [] ?_
   simp only [push_cast,seval,↓reduceIte]
   obtain ⟨z1,hz1,hs0_⟩:=bC hs0_
   refine Y1 (E':=⟨20,[],[(0,.val (.int .u8 a0)),(3,.val (.int .u64 z1)),(5,.val (.int .i64 s0_.2))]⟩) (O':=(Zx O n [])) (n0:=n) ?_ ?_
   ·refine Yw ?_
    refine Zq [0,3,4,5] (Zc Ze [] ?_)
    simp only [push_cast,seval,↓reduceIte,Za,hN0,hN]
    obtain ⟨pu3,hz1⟩:=bG hz1
    refine Zq [0,3,4,5,12] (Zc Ze [] ?_)
    simp only [push_cast,seval,↓reduceIte,Za,pu3,hN0,hN]
    refine Zs (t:=((IntKind.u8.wrap (Zfl .u8 (Int.fdiv a0 (2 ^ min (Int.toNat s0_.2) 8)) 1)) == 1)) rfl (fun c5 => ?_) (fun c5 => ?_)
    ·replace hz1:=Zu c5 hz1
     obtain ⟨pu4,hz1⟩:=bG hz1
     refine Zc Ze [] ?_
     simp only [push_cast,seval,↓reduceIte,Za,pu4,hN0,hN]
     have hz1:=Option.some.inj hz1;subst hz1
     refine And.intro rfl (Fit2.of (Zi hU rfl rfl ?_) (by omega))
     simp only [push_cast,seval,↓reduceIte,Za,pu4,hN0,hN]
    replace hz1:=Zt c5 hz1
    refine Zz ?_
    try simp only [Zk,Zh]
    have hz1:=Option.some.inj hz1;subst hz1
    refine And.intro rfl (Fit2.of (Zi hU rfl rfl ?_) (by omega))
    simp only [push_cast,seval,↓reduceIte,Za,hN0,hN]
   refine Zc Ze [] ?_
   simp only [push_cast,seval,↓reduceIte,Za,hN0,hN]
   have hs0_:=Option.some.inj hs0_;subst hs0_
   refine And.intro rfl (Fit2.of (Zi hU rfl rfl ?_) (by omega))
   simp only [push_cast,seval,↓reduceIte,Za,hN0,hN]
  replace hs0_:=Zt c6 hs0_
  refine Xt ?_
  try simp only [Zk,Zh,↓reduceIte,Nat.reduceEqDiff]
  have hs0_:=Option.some.inj hs0_;subst hs0_
  refine And.intro (fun h=>by cases h) (And.intro rfl (Fit2.of (Zi hU rfl rfl ?_) (by omega)))
  simp only [push_cast,seval,↓reduceIte,Za,hN0,hN]
 try simp only [Zk,Zh,↓reduceIte,Nat.reduceEqDiff]
 refine Zj [3] [] ?_
 simp only [push_cast,seval,↓reduceIte]
 refine Zq [2] (Zc Ze [] ?_)
 simp only [push_cast,seval,↓reduceIte,Za,hN0,hN]
 refine Z4 ?_
 try simp only [Zk,Zh]
 have h:=Option.some.inj h;subst h
 refine Zr (.inr rfl) hU [.val (.int .u64 z7)] (by omega) ?_
 simp only [push_cast,seval,↓reduceIte,Za,Try.results121,hN0,hN]
theorem Zvn {a0:Int} {a1:Int} {a2:Int} {r:Int} {O:Objs} {n:Nat} (h:Zcl a0 a1 a2=some r):GTo Try.prog 131 [.val (.int .u64 a0),.val (.int .u64 a1),.val (.int .u8 a2)] O n (.val (.int .u64 r)) O n:=by
 unfold Zcl at h
 refine Xl Ze Try.call131 Try.func131 rfl (Nat.le_of_ble_eq_true rfl) (Nat.le_refl _) fun hU => ?_
 have hN0:O n=none:=hU.fresh _ (Nat.le_refl _)
 have hN:∀ k,O (n+k)=none:=fun k=>hU.fresh _ (Nat.le_add_right _ _)
 show W _ _ _ _ ⟨17,[],[(0,.val (.int .u64 a0)),(1,.val (.int .u64 a1)),(2,.val (.int .u8 a2))]⟩ (Zx O n []) _
 refine Zq [0,1,2] (Zc Ze [] ?_)
 simp only [push_cast,seval,↓reduceIte,Za,hN0,hN]
 refine Zl ?_
 obtain ⟨y2,hy2,h⟩:=bC h
 refine Zc Ze [] ?_
 simp only [push_cast,seval,↓reduceIte,Za,hN0,hN]
 refine (Zl6 hy2).then ?_
 simp only [push_cast,seval,↓reduceIte,Za,hN0,hN]
 refine Zj [0,1,7] [] ?_
 simp only [push_cast,seval,↓reduceIte]
 refine Zq [6] (Zc Ze [] ?_)
 simp only [push_cast,seval,↓reduceIte,Za,hN0,hN]
 refine Z4 ?_
 try simp only [Zk,Zh]
 have h:=Option.some.inj h;subst h
 refine Zr (.inr rfl) hU [.val (.int .u64 (IntKind.u64.wrap (Zqi .u64 (IntKind.u64.wrap (Zs0 .u64 a0 y2)) (IntKind.u64.wrap (Zfl .u64 a1 y2)))))] (by omega) ?_
 simp only [push_cast,seval,↓reduceIte,Za,Try.results131,hN0,hN]
theorem Zn9 {a0:S_api_Tree} {a1:Int} {a2:Int} {r:S_api_Tree} {O:Objs} {n:Nat} {i0 j0_0 j0_1:Nat} (hi0:i0 < n) (Zc3:j0_0 < n) (Z3u:j0_1 < n) (Zae:i0≠j0_0) (Zxv:i0≠j0_1) (Zxu:j0_0≠j0_1) (ho0:O i0=some ⟨false,25,3,1,[.val (.int .i64 a0.Kind),.row j0_1 a0.Words.length,.row j0_0 a0.Kids.length]⟩) (Zci:O j0_0=some ⟨true,25,3,a0.Kids.length,fl Zb a0.Kids⟩) (Z4a:O j0_1=some ⟨true,71,1,a0.Words.length,fl (eI .u64) a0.Words⟩) (h:Gn a0 a1 a2=some r):GTo Try.prog 130 [.ref i0 0,.val (.int .i64 a1),.val (.int .u64 a2)] O n (.tup []) (Zx (((O.upd j0_0 none).upd j0_1 none).upd i0 (some ⟨false,25,3,1,[.val (.int .i64 r.Kind),.row (n+1) r.Words.length,.row n r.Kids.length]⟩)) n [some ⟨true,25,3,r.Kids.length,fl Zb r.Kids⟩,some ⟨true,71,1,r.Words.length,fl (eI .u64) r.Words⟩]) (n+2):=by
 unfold Gn at h
 refine Xl Ze Try.call130 Try.func130 rfl (Nat.le_of_ble_eq_true rfl) (by omega) fun hU => ?_
 have e0:=Zjh (ba:=n) (E:=⟨40,[],Zkx 0 [.ref i0 0,.val (.int .i64 a1),.val (.int .u64 a2)]⟩) (O:=(Zx O n [])) (n:=n) (i:=i0) (j:=j0_0) (k:=2) (len:=a0.Kids.length) (q:=⟨false,25,3,1,[.val (.int .i64 a0.Kind),.row j0_1 a0.Words.length,.row j0_0 a0.Kids.length]⟩) (qj:=⟨true,25,3,a0.Kids.length,fl Zb a0.Kids⟩) (by rw [X9 _ hi0];first | exact ho0 | exact Yz _ _ _) rfl (by rw [X9 _ Zc3];exact Zci) Zae (by omega)
 simp only [Vl _ _ Zc3,Vl _ _ hi0,J3,Ql,Za6,Zr2 Zae,List.set_cons_zero,List.set_cons_succ,List.cons_append,List.nil_append,List.length_cons,List.length_nil,Nat.zero_add,Nat.reduceAdd,Nat.add_assoc] at e0
 refine Zcf e0 ?_
 have e1:=Zjh (ba:=n) (E:=⟨40,[],Zkx 0 [.ref i0 0,.val (.int .i64 a1),.val (.int .u64 a2)]⟩) (O:=(Zx ((O.upd j0_0 none).upd i0 (some ⟨false,25,3,1,[.val (.int .i64 a0.Kind),.row j0_1 a0.Words.length,.row n a0.Kids.length]⟩)) n [some ⟨true,25,3,a0.Kids.length,fl Zb a0.Kids⟩])) (n:=(n+1)) (i:=i0) (j:=j0_1) (k:=1) (len:=a0.Words.length) (q:=⟨false,25,3,1,[.val (.int .i64 a0.Kind),.row j0_1 a0.Words.length,.row n a0.Kids.length]⟩) (qj:=⟨true,71,1,a0.Words.length,fl (eI .u64) a0.Words⟩) (by rw [X9 _ hi0];first | exact ho0 | exact Yz _ _ _) rfl (by rw [X9 _ Z3u,X7 _ _ (Ne.symm Zxv),X7 _ _ (Ne.symm Zxu)];exact Z4a) Zxv (by omega)
 simp only [Vl _ _ Z3u,Vl _ _ hi0,J3,Ql,Za6,Zr2 Zxv,List.set_cons_zero,List.set_cons_succ,List.cons_append,List.nil_append,List.length_cons,List.length_nil,Nat.zero_add,Nat.reduceAdd,Nat.add_assoc] at e1
 refine Zcf e1 ?_
 have hU:=(Und.drop (Und.drop hU j0_0) j0_1)
 have hk0:∀ k,i0 < n+k:=fun k=>by omega
 have hN0:∀ o,Objs.upd ((O.upd j0_0 none).upd j0_1 none) i0 o n=none:=fun o=>Zbp hU hi0 _ (Nat.le_refl _)
 have hN:∀ o k,Objs.upd ((O.upd j0_0 none).upd j0_1 none) i0 o (n+k)=none:=fun o k=>Zbp hU hi0 _ (Nat.le_add_right _ _)
 show W _ _ _ _ ⟨40,[],[(0,.ref i0 0),(1,.val (.int .i64 a1)),(2,.val (.int .u64 a2))]⟩ (Zx (((O.upd j0_0 none).upd j0_1 none).upd i0 (some ⟨false,25,3,1,[.val (.int .i64 a0.Kind),.row (n+1) a0.Words.length,.row n a0.Kids.length]⟩)) n [some ⟨true,25,3,a0.Kids.length,fl Zb a0.Kids⟩,some ⟨true,71,1,a0.Words.length,fl (eI .u64) a0.Words⟩]) _
 refine Zl ?_
 refine Zj [0,1,2] [true,true] ?_
 simp only [push_cast,seval,↓reduceIte]
 obtain ⟨z3,hz3,h⟩:=bC h
 refine Yv (E':=⟨40,[],[(0,.ref i0 0),(1,.val (.int .i64 a1)),(2,.val (.int .u64 a2))]⟩) (O':=(Zx (((O.upd j0_0 none).upd j0_1 none).upd i0 (some ⟨false,25,3,1,[.val (.int .i64 a0.Kind),.row (n+1) z3.length,.row n a0.Kids.length]⟩)) n [some ⟨true,25,3,a0.Kids.length,fl Zb a0.Kids⟩,some ⟨true,71,1,z3.length,fl (eI .u64) z3⟩])) (n0:=(n+2)) ?_ ?_
 ·refine Y6 hz3 (fun s0_=>⟨40,[],[(0,.ref i0 0),(1,.val (.int .i64 a1)),(2,.val (.int .u64 a2))]⟩) (fun s0_=>(Zx (((O.upd j0_0 none).upd j0_1 none).upd i0 (some ⟨false,25,3,1,[.val (.int .i64 a0.Kind),.row (n+1) s0_.length,.row n a0.Kids.length]⟩)) n [some ⟨true,25,3,a0.Kids.length,fl Zb a0.Kids⟩,some ⟨true,71,1,s0_.length,fl (eI .u64) s0_⟩])) (fun z3=>JX 0 n (⟨40,[],[(0,.ref i0 0),(1,.val (.int .i64 a1)),(2,.val (.int .u64 a2))]⟩:Env) (Zx (((O.upd j0_0 none).upd j0_1 none).upd i0 (some ⟨false,25,3,1,[.val (.int .i64 a0.Kind),.row (n+1) z3.length,.row n a0.Kids.length]⟩)) n [some ⟨true,25,3,a0.Kids.length,fl Zb a0.Kids⟩,some ⟨true,71,1,z3.length,fl (eI .u64) z3⟩]) (n+2)) ?_
  intro s0_ x0_ hs0_
  unfold Vu at hs0_
  try dsimp only
  refine Zl ?_
  refine Zq [0,1,2,16] (Zc Ze [none,none] ?_)
  simp only [push_cast,seval,↓reduceIte,Za,hi0,hk0,hN0,hN]
  repeat (with_reducible refine And.intro (by first | (intro h0;simp only [h0,and_self];done) | (intro h0;simp only [h0,Bool.not_false,Bool.not_true,Bool.true_and,Bool.and_true,true_and,and_true,and_self,imp_self,implies_true,bne_iff_ne,ne_eq,beq_iff_eq];done) | (intros;simp_all;done) | exact True.intro) ?_)
  refine Zs (t:=(cond (decide ((s0_.length:Int)≤a1)) (a2 != 0) false)) rfl (fun c2 => ?_) (fun c2 => ?_)
  ·replace hs0_:=Zu c2 hs0_
   refine Zz ?_
   try simp only [Zk,Zh]
   refine Zj [0,1,2] [true,true] ?_
   simp only [push_cast,seval,↓reduceIte]
   refine Yw ?_
   obtain ⟨l1,pl1,ql1,el1,hs0_⟩:=bA (k:=1) rfl hs0_
   refine Zc Ze [] ?_
   simp only [push_cast,seval,↓reduceIte,Za,pl1,ql1,el1,hi0,hk0,hN0,hN]
   have hs0_:=Option.some.inj hs0_;subst hs0_
   refine And.intro rfl (Fit2.of (Xx hU rfl rfl ?_) (by omega))
   simp only [push_cast,seval,↓reduceIte,Za,pl1,ql1,el1,hi0,hk0,hN0,hN]
  replace hs0_:=Zt c2 hs0_
  refine Xt ?_
  try simp only [Zk,Zh,↓reduceIte,Nat.reduceEqDiff]
  have hs0_:=Option.some.inj hs0_;subst hs0_
  refine And.intro (fun h=>by cases h) (And.intro rfl (Fit2.of (Xx hU rfl rfl ?_) (by omega)))
  simp only [push_cast,seval,↓reduceIte,Za,hi0,hk0,hN0,hN]
 try simp only [Zk,Zh,↓reduceIte,Nat.reduceEqDiff]
 refine Zj [0,1,2] [true,true] ?_
 simp only [push_cast,seval,↓reduceIte]
 refine Zq [0,1,2,32] (Zc Ze [] ?_)
 simp only [push_cast,seval,↓reduceIte,Za,hi0,hk0,hN0,hN]
 refine Zs (t:=(decide (a1 < (z3.length:Int)))) rfl (fun c6 => ?_) (fun c6 => ?_)
 ·replace h:=Zu c6 h
  obtain ⟨x4,hx4,ax4,bx4,cx4,h⟩:=bE (f:=(eI .u64)) Zcc (fun _=>rfl) (by decide) h
  have gu5:Vt (fl (eI .u64) z3) [.val (.int .u64 a2)] (Int.toNat a1 * 1)=some (fl (eI .u64) (Zbj z3 a1 a2)):=Zgh (f:=(eI .u64)) (ti:=⟨.bool,1,0,[],false⟩) (x:=a2) (fun _=>rfl) (Zby hx4)
  refine Zc Ze [] ?_
  simp only [push_cast,Nat.reduceAdd,Nat.reduceSub,Nat.reduceMul,Nat.reduceLeDiff,Nat.reduceLT,Nat.reduceEqDiff,↓reduceIte,reduceCtorEq,Int.reduceBEq,Int.reduceBNe,Nat.reduceBEq,Int.reduceLE,Int.reduceLT,Int.reduceEq,Int.reduceNe,Int.reduceNeg,Nat.reduceDiv,Nat.reduceMod,Nat.reducePow,Za,ax4,bx4,cx4,gu5,hi0,hk0,hN0,hN]
  have h:=Option.some.inj h;subst h
  refine Uy (k:=2) (i:=i0) (q1:=⟨false,25,3,1,[.val (.int .i64 a0.Kind),.row (n+1) (Zbj z3 a1 a2).length,.row n a0.Kids.length]⟩) (L3:=[some ⟨true,25,3,a0.Kids.length,fl Zb a0.Kids⟩,some ⟨true,71,1,(Zbj z3 a1 a2).length,fl (eI .u64) (Zbj z3 a1 a2)⟩,none]) (E2:=(⟨40,[],[]⟩:Env)) (n3:=(n+3)) (.inl rfl) hU rfl [] ?_ ?_
  ·refine Fit2.trans (E':=(⟨40,[],[]⟩:Env)) (O':=(Zx (((O.upd j0_0 none).upd j0_1 none).upd i0 (some ⟨false,25,3,1,[.val (.int .i64 a0.Kind),.row (n+1) (Zbj z3 a1 a2).length,.row n a0.Kids.length]⟩)) n [some ⟨true,25,3,a0.Kids.length,fl Zb a0.Kids⟩,some ⟨true,71,1,(Zbj z3 a1 a2).length,fl (eI .u64) (Zbj z3 a1 a2)⟩])) (n':=(n+2)) (Fit2.of (Xx hU rfl rfl ?_) (by omega)) ?_
   ·simp only [push_cast,Nat.reduceAdd,Nat.reduceSub,Nat.reduceMul,Nat.reduceLeDiff,Nat.reduceLT,Nat.reduceEqDiff,↓reduceIte,reduceCtorEq,Int.reduceBEq,Int.reduceBNe,Nat.reduceBEq,Int.reduceLE,Int.reduceLT,Int.reduceEq,Int.reduceNe,Int.reduceNeg,Nat.reduceDiv,Nat.reduceMod,Nat.reducePow,Za,ax4,bx4,cx4,gu5,hi0,hk0,hN0,hN]
   refine U5 (k:=2) (k':=3) hU [0,1] [0,1,0] rfl rfl rfl rfl ⟨rfl,rfl⟩ ?_
   simp only [push_cast,seval,↓reduceIte,Za,hi0,hk0,hN0,hN]
  simp only [push_cast,seval,↓reduceIte,Za,Try.results130,hi0,hk0,hN0,hN]
 replace h:=Zt c6 h
 refine Zz ?_
 try simp only [Zk,Zh]
 have h:=Option.some.inj h;subst h
 refine Uy (k:=2) (i:=i0) (q1:=⟨false,25,3,1,[.val (.int .i64 a0.Kind),.row (n+1) z3.length,.row n a0.Kids.length]⟩) (L3:=[some ⟨true,25,3,a0.Kids.length,fl Zb a0.Kids⟩,some ⟨true,71,1,z3.length,fl (eI .u64) z3⟩,none]) (E2:=(⟨40,[],[]⟩:Env)) (n3:=(n+3)) (.inl rfl) hU rfl [] ?_ ?_
 ·refine Fit2.trans (E':=(⟨40,[],[]⟩:Env)) (O':=(Zx (((O.upd j0_0 none).upd j0_1 none).upd i0 (some ⟨false,25,3,1,[.val (.int .i64 a0.Kind),.row (n+1) z3.length,.row n a0.Kids.length]⟩)) n [some ⟨true,25,3,a0.Kids.length,fl Zb a0.Kids⟩,some ⟨true,71,1,z3.length,fl (eI .u64) z3⟩])) (n':=(n+2)) (Fit2.of (Xx hU rfl rfl ?_) (by omega)) ?_
  ·simp only [push_cast,seval,↓reduceIte,Za,hi0,hk0,hN0,hN]
  refine U5 (k:=2) (k':=3) hU [0,1] [0,1,0] rfl rfl rfl rfl ⟨rfl,rfl⟩ ?_
  simp only [push_cast,seval,↓reduceIte,Za,hi0,hk0,hN0,hN]
 simp only [push_cast,seval,↓reduceIte,Za,Try.results130,hi0,hk0,hN0,hN]
theorem Zos {a0:S_api_Tree} {a1:Int} {r:S_api_Tree} {O:Objs} {n:Nat} (h:Zec a0 a1=some r):GTo Try.prog 132 [.agg (Zd a0),.val (.int .i64 a1)] O n (.agg (Zd r)) O n:=by
 unfold Zec at h
 refine Xl Ze Try.call132 Try.func132 rfl (Nat.le_of_ble_eq_true rfl) (Nat.le_refl _) fun hU => ?_
 have hN0:O n=none:=hU.fresh _ (Nat.le_refl _)
 have hN:∀ k,O (n+k)=none:=fun k=>hU.fresh _ (Nat.le_add_right _ _)
 show W _ _ _ _ ⟨20,[],[(0,.agg (Zd a0)),(1,.val (.int .i64 a1))]⟩ (Zx O n []) _
 refine Zq [1,2,4] (Zc Ze [] ?_)
 simp only [push_cast,seval,↓reduceIte,Za,hN0,hN]
 refine Zl ?_
 refine Zq [1,2,4,13] (Zc Ze [none,none,none,none,none] ?_)
 simp only [push_cast,seval,↓reduceIte,Za,hN0,hN]
 repeat (with_reducible refine And.intro (by first | (intro h0;simp only [h0,and_self];done) | (intro h0;simp only [h0,Bool.not_false,Bool.not_true,Bool.true_and,Bool.and_true,true_and,and_true,and_self,imp_self,implies_true,bne_iff_ne,ne_eq,beq_iff_eq];done) | (intros;simp_all;done) | exact True.intro) ?_)
 refine Zs (t:=(cond (decide (a1 < 0)) true (decide ((a0.Kids.length:Int)≤a1)))) rfl (fun c3 => ?_) (fun c3 => ?_)
 ·replace h:=Zu c3 h
  refine Zl ?_
  refine Zc Ze [] ?_
  simp only [push_cast,seval,↓reduceIte,Za,hN0,hN]
  refine Zj [4] [false,true] ?_
  simp only [push_cast,seval,↓reduceIte]
  refine Z4 ?_
  try simp only [Zk,Zh]
  have h:=Option.some.inj h;subst h
  refine Zr (.inr rfl) hU [.agg [.val (.int .i64 0),.val (.slice none 0 0),.val (.slice none 0 0)]] (by omega) ?_
  simp only [push_cast,seval,↓reduceIte,Za,Try.results132,hN0,hN]
 replace h:=Zt c3 h
 refine Zz ?_
 try simp only [Zk,Zh]
 refine Zj [1,2,4] [true,true] ?_
 simp only [push_cast,seval,↓reduceIte]
 refine Zl ?_
 obtain ⟨x2,hx2,ax2,bx2,cx2,h⟩:=bE (f:=Zb) Ki (fun _=>rfl) (by decide) h
 refine Zc Ze [] ?_
 simp only [push_cast,Nat.reduceAdd,Nat.reduceSub,Nat.reduceMul,Nat.reduceLeDiff,Nat.reduceLT,Nat.reduceEqDiff,↓reduceIte,reduceCtorEq,Int.reduceBEq,Int.reduceBNe,Nat.reduceBEq,Int.reduceLE,Int.reduceLT,Int.reduceEq,Int.reduceNe,Int.reduceNeg,Nat.reduceDiv,Nat.reduceMod,Nat.reducePow,Za,ax2,bx2,cx2,hN0,hN]
 refine Zj [4] [false,true] ?_
 simp only [push_cast,seval,↓reduceIte]
 refine Z4 ?_
 try simp only [Zk,Zh]
 have h:=Option.some.inj h;subst h
 refine Zr (.inr rfl) hU [.agg (Zd x2)] (by omega) ?_
 simp only [push_cast,seval,↓reduceIte,Za,Try.results132,hN0,hN]
theorem Zo0 {a0:S_api_Tree} {a1:Int} {a2:S_api_Tree} {r:S_api_Tree} {O:Objs} {n:Nat} {i0 j0_0:Nat} (hi0:i0 < n) (Zc3:j0_0 < n) (Zae:i0≠j0_0) (ho0:O i0=some ⟨false,25,3,1,[.val (.int .i64 a0.Kind),.sl a0.Words.length (fl (eI .u64) a0.Words),.row j0_0 a0.Kids.length]⟩) (Zci:O j0_0=some ⟨true,25,3,a0.Kids.length,fl Zb a0.Kids⟩) (h:Zah a0 a1 a2=some r):GTo Try.prog 133 [.ref i0 0,.val (.int .i64 a1),.agg (Zd a2)] O n (.tup []) (Zx ((O.upd j0_0 none).upd i0 (some ⟨false,25,3,1,[.val (.int .i64 r.Kind),.sl r.Words.length (fl (eI .u64) r.Words),.row n r.Kids.length]⟩)) n [some ⟨true,25,3,r.Kids.length,fl Zb r.Kids⟩]) (n+1):=by
 unfold Zah at h
 refine Xl Ze Try.call133 Try.func133 rfl (Nat.le_of_ble_eq_true rfl) (by omega) fun hU => ?_
 have e0:=Zjh (ba:=n) (E:=⟨43,[],Zkx 0 [.ref i0 0,.val (.int .i64 a1),.agg [.val (.int .i64 a2.Kind),.sl a2.Words.length (fl (eI .u64) a2.Words),.sl a2.Kids.length (fl Zb a2.Kids)]]⟩) (O:=(Zx O n [])) (n:=n) (i:=i0) (j:=j0_0) (k:=2) (len:=a0.Kids.length) (q:=⟨false,25,3,1,[.val (.int .i64 a0.Kind),.sl a0.Words.length (fl (eI .u64) a0.Words),.row j0_0 a0.Kids.length]⟩) (qj:=⟨true,25,3,a0.Kids.length,fl Zb a0.Kids⟩) (by rw [X9 _ hi0];first | exact ho0 | exact Yz _ _ _) rfl (by rw [X9 _ Zc3];exact Zci) Zae (by omega)
 simp only [Vl _ _ Zc3,Vl _ _ hi0,J3,Ql,Za6,Zr2 Zae,List.set_cons_zero,List.set_cons_succ,List.cons_append,List.nil_append,List.length_cons,List.length_nil,Nat.zero_add,Nat.reduceAdd,Nat.add_assoc] at e0
 refine Zcf e0 ?_
 have hU:=(Und.drop hU j0_0)
 have hk0:∀ k,i0 < n+k:=fun k=>by omega
 have hN0:∀ o,Objs.upd (O.upd j0_0 none) i0 o n=none:=fun o=>Zbp hU hi0 _ (Nat.le_refl _)
 have hN:∀ o k,Objs.upd (O.upd j0_0 none) i0 o (n+k)=none:=fun o k=>Zbp hU hi0 _ (Nat.le_add_right _ _)
 show W _ _ _ _ ⟨43,[],[(0,.ref i0 0),(1,.val (.int .i64 a1)),(2,.agg (Zd a2))]⟩ (Zx ((O.upd j0_0 none).upd i0 (some ⟨false,25,3,1,[.val (.int .i64 a0.Kind),.sl a0.Words.length (fl (eI .u64) a0.Words),.row n a0.Kids.length]⟩)) n [some ⟨true,25,3,a0.Kids.length,fl Zb a0.Kids⟩]) _
 refine Zq [0,1,5] (Zc Ze [] ?_)
 simp only [push_cast,seval,↓reduceIte,Za,hi0,hk0,hN0,hN]
 refine Zl ?_
 refine Zj [0,1,5] [true,true] ?_
 simp only [push_cast,seval,↓reduceIte]
 obtain ⟨z5,hz5,h⟩:=bC h
 refine Yv (E':=⟨43,[],[(0,.ref i0 0),(1,.val (.int .i64 a1)),(5,.ref (n+1) 0)]⟩) (O':=(Zx ((O.upd j0_0 none).upd i0 (some ⟨false,25,3,1,[.val (.int .i64 a0.Kind),.sl a0.Words.length (fl (eI .u64) a0.Words),.row n z5.length]⟩)) n [some ⟨true,25,3,z5.length,fl Zb z5⟩,some ⟨false,25,3,1,(Zd a2)⟩])) (n0:=(n+2)) ?_ ?_
 ·refine Y6 hz5 (fun s0_=>⟨43,[],[(0,.ref i0 0),(1,.val (.int .i64 a1)),(5,.ref (n+1) 0)]⟩) (fun s0_=>(Zx ((O.upd j0_0 none).upd i0 (some ⟨false,25,3,1,[.val (.int .i64 a0.Kind),.sl a0.Words.length (fl (eI .u64) a0.Words),.row n s0_.length]⟩)) n [some ⟨true,25,3,s0_.length,fl Zb s0_⟩,some ⟨false,25,3,1,(Zd a2)⟩])) (fun z5=>JX 0 n (⟨43,[],[(0,.ref i0 0),(1,.val (.int .i64 a1)),(5,.ref (n+1) 0)]⟩:Env) (Zx ((O.upd j0_0 none).upd i0 (some ⟨false,25,3,1,[.val (.int .i64 a0.Kind),.sl a0.Words.length (fl (eI .u64) a0.Words),.row n z5.length]⟩)) n [some ⟨true,25,3,z5.length,fl Zb z5⟩,some ⟨false,25,3,1,(Zd a2)⟩]) (n+2)) ?_
  intro s0_ x0_ hs0_
  unfold Ue at hs0_
  try dsimp only
  refine Zl ?_
  refine Zq [0,1,5,17] (Zc Ze [none,none,none] ?_)
  simp only [push_cast,seval,↓reduceIte,Za,hi0,hk0,hN0,hN]
  repeat (with_reducible refine And.intro (by first | (intro h0;simp only [h0,and_self];done) | (intro h0;simp only [h0,Bool.not_false,Bool.not_true,Bool.true_and,Bool.and_true,true_and,and_true,and_self,imp_self,implies_true,bne_iff_ne,ne_eq,beq_iff_eq];done) | (intros;simp_all;done) | exact True.intro) ?_)
  refine Zs (t:=(cond (decide ((s0_.length:Int)≤a1)) (a2.Kind != 0) false)) rfl (fun c4 => ?_) (fun c4 => ?_)
  ·replace hs0_:=Zu c4 hs0_
   refine Zz ?_
   try simp only [Zk,Zh]
   refine Zj [0,1,5] [true,true] ?_
   simp only [push_cast,seval,↓reduceIte]
   refine Yw ?_
   obtain ⟨l1,pl1,ql1,el1,hs0_⟩:=bA (k:=1) rfl hs0_
   obtain ⟨x2,hx2,ax2,bx2,cx2,hs0_⟩:=bE (f:=Zb) Ki (fun _=>rfl) (by decide) hs0_
   have gu3:Vt (fl Zb s0_++[.val (.int .i64 0),.val (.slice none 0 0),.val (.slice none 0 0)]) [.val (.int .i64 0),.val (.slice none 0 0),.val (.slice none 0 0)] (List.length s0_ * 3)=some (fl Zb s0_++[.val (.int .i64 0),.val (.slice none 0 0),.val (.slice none 0 0)]):=Zoo (f:=Zb) (sz:=3) (fun _=>rfl) rfl rfl
   refine Zct Ze (by kernel_rfl) [.low,.low,.low,.low,.low,.low,.pass,.bar,.shp,.fill true,.shp,.shp,.fill false] (fun i=>i < (n+2)) [0,1,2,3,4,5,6,7,8,9,10,11,12] [.low,.low,.low,.low,.low,.low,.pass,.bar,.shp,.fill true,.shp,.shp,.fill false] [] (by kernel_rfl) rfl ?_
   simp only [push_cast,Nat.reduceAdd,Nat.reduceSub,Nat.reduceMul,Nat.reduceLeDiff,Nat.reduceLT,Nat.reduceEqDiff,↓reduceIte,reduceCtorEq,Int.reduceBEq,Int.reduceBNe,Nat.reduceBEq,Int.reduceLE,Int.reduceLT,Int.reduceEq,Int.reduceNe,Int.reduceNeg,Nat.reduceDiv,Nat.reduceMod,Nat.reducePow,Za,pl1,ql1,el1,ax2,bx2,cx2,gu3,hi0,hk0,hN0,hN]
   repeat (with_reducible refine And.intro (by first | omega | exact Y2 rfl | exact Yx | exact Vm rfl rfl) ?_)
   have hs0_:=Option.some.inj hs0_;subst hs0_
   refine And.intro rfl (Fit2.of (Xx hU rfl rfl ?_) (by omega))
   simp only [push_cast,Nat.reduceAdd,Nat.reduceSub,Nat.reduceMul,Nat.reduceLeDiff,Nat.reduceLT,Nat.reduceEqDiff,↓reduceIte,reduceCtorEq,Int.reduceBEq,Int.reduceBNe,Nat.reduceBEq,Int.reduceLE,Int.reduceLT,Int.reduceEq,Int.reduceNe,Int.reduceNeg,Nat.reduceDiv,Nat.reduceMod,Nat.reducePow,Za,pl1,ql1,el1,ax2,bx2,cx2,gu3,hi0,hk0,hN0,hN]
  replace hs0_:=Zt c4 hs0_
  refine Xt ?_
  try simp only [Zk,Zh,↓reduceIte,Nat.reduceEqDiff]
  have hs0_:=Option.some.inj hs0_;subst hs0_
  refine And.intro (fun h=>by cases h) (And.intro rfl (Fit2.of (Xx hU rfl rfl ?_) (by omega)))
  simp only [push_cast,seval,↓reduceIte,Za,hi0,hk0,hN0,hN]
 try simp only [Zk,Zh,↓reduceIte,Nat.reduceEqDiff]
 refine Zj [0,1,5] [true,true] ?_
 simp only [push_cast,seval,↓reduceIte]
 refine Zq [0,1,5,35] (Zc Ze [] ?_)
 simp only [push_cast,seval,↓reduceIte,Za,hi0,hk0,hN0,hN]
 refine Zs (t:=(decide (a1 < (z5.length:Int)))) rfl (fun c8 => ?_) (fun c8 => ?_)
 ·replace h:=Zu c8 h
  obtain ⟨x6,hx6,ax6,bx6,cx6,h⟩:=bE (f:=Zb) Ki (fun _=>rfl) (by decide) h
  have gu7:Vt (fl Zb z5) [.val (.int .i64 a2.Kind),.sl a2.Words.length (fl (eI .u64) a2.Words),.sl a2.Kids.length (fl Zb a2.Kids)] (Int.toNat a1 * 3)=some (fl Zb (Zbj z5 a1 a2)):=(congrArg (fun c=>Vt (fl Zb z5) c (Int.toNat a1 * 3)) (show [.val (.int .i64 a2.Kind),.sl a2.Words.length (fl (eI .u64) a2.Words),.sl a2.Kids.length (fl Zb a2.Kids)]=Zb a2 from by simp only [Zb,Yi,eI,eB,eS,eL])).trans (Zgh (f:=Zb) (ti:=⟨.bool,3,0,[],false⟩) (x:=a2) (fun _=>rfl) (Zby hx6))
  refine Zfd Ze (by kernel_rfl) [false,false,false,false,false,false,false,true] [] (by kernel_rfl) ?_
  simp only [push_cast,Nat.reduceAdd,Nat.reduceSub,Nat.reduceMul,Nat.reduceLeDiff,Nat.reduceLT,Nat.reduceEqDiff,↓reduceIte,reduceCtorEq,Int.reduceBEq,Int.reduceBNe,Nat.reduceBEq,Int.reduceLE,Int.reduceLT,Int.reduceEq,Int.reduceNe,Int.reduceNeg,Nat.reduceDiv,Nat.reduceMod,Nat.reducePow,Za,ax6,bx6,cx6,gu7,hi0,hk0,hN0,hN]
  have h:=Option.some.inj h;subst h
  refine Uy (k:=1) (i:=i0) (q1:=⟨false,25,3,1,[.val (.int .i64 a0.Kind),.sl a0.Words.length (fl (eI .u64) a0.Words),.row n (Zbj z5 a1 a2).length]⟩) (L3:=[some ⟨true,25,3,(Zbj z5 a1 a2).length,fl Zb (Zbj z5 a1 a2)⟩,none]) (E2:=(⟨43,[],[]⟩:Env)) (n3:=(n+2)) (.inl rfl) hU rfl [] ?_ ?_
  ·refine Fit2.trans (E':=(⟨43,[],[]⟩:Env)) (O':=(Zx ((O.upd j0_0 none).upd i0 (some ⟨false,25,3,1,[.val (.int .i64 a0.Kind),.sl a0.Words.length (fl (eI .u64) a0.Words),.row n (Zbj z5 a1 a2).length]⟩)) n [some ⟨true,25,3,(Zbj z5 a1 a2).length,fl Zb (Zbj z5 a1 a2)⟩,none])) (n':=(n+2)) (Fit2.of (Xx hU rfl rfl ?_) (by omega)) ?_
   ·simp only [push_cast,Nat.reduceAdd,Nat.reduceSub,Nat.reduceMul,Nat.reduceLeDiff,Nat.reduceLT,Nat.reduceEqDiff,↓reduceIte,reduceCtorEq,Int.reduceBEq,Int.reduceBNe,Nat.reduceBEq,Int.reduceLE,Int.reduceLT,Int.reduceEq,Int.reduceNe,Int.reduceNeg,Nat.reduceDiv,Nat.reduceMod,Nat.reducePow,Za,ax6,bx6,cx6,gu7,hi0,hk0,hN0,hN]
   refine U5 (k:=2) (k':=2) hU [0,1] [0,0] rfl rfl rfl rfl ⟨rfl,rfl⟩ ?_
   simp only [push_cast,seval,↓reduceIte,Za,hi0,hk0,hN0,hN]
  simp only [push_cast,seval,↓reduceIte,Za,Try.results133,hi0,hk0,hN0,hN]
 replace h:=Zt c8 h
 refine Zz ?_
 try simp only [Zk,Zh]
 have h:=Option.some.inj h;subst h
 refine Uy (k:=1) (i:=i0) (q1:=⟨false,25,3,1,[.val (.int .i64 a0.Kind),.sl a0.Words.length (fl (eI .u64) a0.Words),.row n z5.length]⟩) (L3:=[some ⟨true,25,3,z5.length,fl Zb z5⟩,none]) (E2:=(⟨43,[],[]⟩:Env)) (n3:=(n+2)) (.inl rfl) hU rfl [] ?_ ?_
 ·refine Fit2.trans (E':=(⟨43,[],[]⟩:Env)) (O':=(Zx ((O.upd j0_0 none).upd i0 (some ⟨false,25,3,1,[.val (.int .i64 a0.Kind),.sl a0.Words.length (fl (eI .u64) a0.Words),.row n z5.length]⟩)) n [some ⟨true,25,3,z5.length,fl Zb z5⟩,none])) (n':=(n+2)) (Fit2.of (Xx hU rfl rfl ?_) (by omega)) ?_
  ·simp only [push_cast,seval,↓reduceIte,Za,hi0,hk0,hN0,hN]
  refine U5 (k:=2) (k':=2) hU [0,1] [0,0] rfl rfl rfl rfl ⟨rfl,rfl⟩ ?_
  simp only [push_cast,seval,↓reduceIte,Za,hi0,hk0,hN0,hN]
 simp only [push_cast,seval,↓reduceIte,Za,Try.results133,hi0,hk0,hN0,hN]
theorem Zub {a0:Int} {r:Bool} {O:Objs} {n:Nat} (h:Zc6 a0=some r):GTo Try.prog 19 [.val (.int .i64 a0)] O n (.val (.bool r)) O n:=by
 unfold Zc6 at h
 refine Xl Ze Try.call19 Try.func19 rfl (Nat.le_of_ble_eq_true rfl) (Nat.le_refl _) fun hU => ?_
 have hN0:O n=none:=hU.fresh _ (Nat.le_refl _)
 have hN:∀ k,O (n+k)=none:=fun k=>hU.fresh _ (Nat.le_add_right _ _)
 show W _ _ _ _ ⟨9,[],[(0,.val (.int .i64 a0))]⟩ (Zx O n []) _
 refine Zq [0] (Zc Ze [] ?_)
 simp only [push_cast,seval,↓reduceIte,Za,hN0,hN]
 refine Zq [2] (Zc Ze [none,none] ?_)
 simp only [push_cast,seval,↓reduceIte,Za,hN0,hN]
 repeat (with_reducible refine And.intro (by first | (intro h0;simp only [h0,and_self];done) | (intro h0;simp only [h0,Bool.not_false,Bool.not_true,Bool.true_and,Bool.and_true,true_and,and_true,and_self,imp_self,implies_true,bne_iff_ne,ne_eq,beq_iff_eq];done) | (intros;simp_all;done) | exact True.intro) ?_)
 refine Z4 ?_
 try simp only [Zk,Zh]
 have h:=Option.some.inj h;subst h
 refine Zr (.inr rfl) hU [.val (.bool (cond (decide (2≤a0)) (decide (a0≤9)) false))] (by omega) ?_
 simp only [push_cast,seval,↓reduceIte,Za,Try.results19,hN0,hN]
end Go.Proofs.Ytmpkfolcikhofaa
