/- Part SM5 of this seat's mirrors: functions of the seat's program, and the plain functions that they are; each theorem bears its own conditions. -/
import Derived.Test.YtmpkfolcikhofaaSE
import Derived.Test.YtmpkfolcikhofaaSM4
namespace Go.Proofs.Ytmpkfolcikhofaa
open Go.RowKit
set_option linter.unusedVariables false
set_option linter.unusedSimpArgs false
set_option maxRecDepth 100000
set_option maxHeartbeats 1000000
attribute [local push_cast] Zf V2 Ye Zd Jn Zlv Zlu Zmb Zma Zk Zh Zip Zd8 Zd7 onW Xm Zbk Zaz Zlz Zky Zfr evS wok Qc Op.operands Call.operands gop onK onP atK List.all_cons List.all_nil Bool.and_true Bool.true_and Bool.and_self Value.oneCell' List.take_zero List.take_succ_cons List.take_nil List.drop_zero List.drop_succ_cons List.drop_nil List.append_nil Nat.add_zero Nat.zero_add V0 Yf ev Qs Zkx Zts Zox Zow Ztx Zfv Za2 Zfi Za9 Zgg Zdk Vr Ziq Zd9 Gg Zfj Gh Zhe Zfu Zp5 bLo bHi bMx Za3 Zhd Ztt Zft Zhz Zcu Ud Zom Zty Zfg Zt1 Za1 Zu9 Qq Zhg gone Zi9 Zep Zeo pop TK.isAgg G.one G.under G.unders List.getD_cons_zero List.getD_cons_succ List.set_cons_zero List.set_cons_succ List.map_cons List.map_nil List.toList_toArray Array.toList_append Option.toArray_none Option.toArray_some Array.toList_map Option.map_some Option.map_none Option.bind_some Option.bind_none List.getElem?_cons_zero List.getElem?_cons_succ List.getElem?_nil List.nil_append List.cons_append List.replicate_succ List.replicate_zero List.length_cons List.length_nil and_true true_and and_false false_and Bool.true_eq_false Bool.false_eq_true forall_const false_implies implies_true IntKind.bits if_true if_false ite_true ite_false eq_self true_implies false_or or_false or_true true_or not_true_eq_false not_false_eq_true decide_true decide_false decide_eq_true_eq decide_eq_false_iff_not beq_iff_eq bne_iff_ne ne_eq Bool.not_eq_true Bool.not_eq_false beq_eq_false_iff_ne bne_eq_false_iff_eq beq_self_eq_true bne_self_eq_false Option.some.injEq exists_eq_left' exists_eq_left ge_iff_le gt_iff_lt decide_not Bool.not_true Bool.not_false imp_self Zp7 cond_true cond_false Z0l Z0k Bool.not_not Bool.and_false Bool.false_and Bool.or_true Bool.true_or Bool.or_false Bool.false_or Ge Zcs Za7 Zab J3 Ql Option.join_some Nat.add_assoc Int.toNat_natCast eI eB eS eL Zbw Zdy Zc2 Zly Zlw Zlx Zvp Zx1 Zd1 Zda Zmi Zmg Zmh Zsk Zio Zpz Zjd Zpy Zcg Zn4 List.length_append G.agg.injEq G.row.injEq G.ref.injEq G.val.injEq G.sl.injEq G.tup.injEq Value.int.injEq Value.bool.injEq Value.string.injEq List.cons.injEq exists_and_left exists_const List.flatten_cons List.flatten_nil Int.le_refl Nat.le_refl Za6 X9 Vl Bool.not_eq_true' Bool.not_eq_false' Znx Zg8 Zr4 Zsa Zr3 Zr9 Zxd Zw9 List.size_toArray Zml Zmm G.ren G.rens Zo2 Zdn Zmp Zlp Zlq Zjf Zsb Zdm G.fn.injEq Zj8 Zj9 Znw Zxa Zj7 Zr7 Zxc Zxb Zr6 Zqe Zvf Option.join_none Yz Vg undef Zh0 Arr.len Arr.put_eq Zd0 Zgr Zek Zc9 Zmf Zmd Zme onB Zvo Zok Zje Zic Zid Zie Zif Zig Zih Zgo Zgv Zgt Zen Zdb Zgu Zi8 Zi7 Zi6 Zi5 Zx0 Zz3 Zsj Zqq Um Zsf Zl0 Zgw Zem Zuf Zmt Zfs Zhy Zb7 Zgx Zii Zij Zik Zil Zf6 Zf7 Zf8 Zf9 Zga Zgb Zgc Zcy prT Zdw Z2c Zrq Zo3 Zrr Z2d Zrs Zsm Zrt Z2e Zru Z2f Zrv Z2g Zrw Z2h Zrx Zv7 Zmw Zv8 Zmx Zv9 Zmy Zwa Zmz Zwb Zm0 Zwc Zm1 Zwd Zm2 Zwe Zm3 Zwf Zm4 Zwg Zm5 Zwh Zm6 Zwi Zhu Zrp Zax Zwj Zm7 Ki Zm8 Zwk Zm9 Zwl Zna Zwm Znb Zwn Znc Zwo Znd Zwp Zne Zwq Znf Zwr Zng Zws Znh Zkv Zni Zwt Znj Zg3 Znk Zwu Znl Zg4 Znm Zcc Znn Zwv Zno Zww Znp Zwx Znq Zwy Znr Zwz Zns Zw0 Znt Zw1 Znu Zjg Znv Zq1 Zji Zq2 Zjj Zq3 Zjk Zq4 Zjl Zq5 Zjm Zq6 Zjn Zlf Zg5 Zq7 Zjo Zq8 Zjp Zq9 Zjq Zra Zjr Zrb Zjs Zrc Zjt Zrd Zju Zre Zjv Zrf Zjw Zrg Zjx Zrh Zjy Zri Zjz Zrj Zj0 Zrk Zj1 Zrl Zj2 Zrm Zj3 Zrn Zj4 Zro Zj5 Zb Yi Ze9 Ze8 Zeb Zei Zfb Zdh Zdd Zdc Ze5 Ga U9 U0 U4 Gb Uq Uo Un U7 Zm Xg Zo Zy Y8 Yt Xk Z9 Kp Km J8 Ke Kr Jl Jj Jh Kj Vd Vc K6 Va Ve Kl Kh Kg Vb Zar Zaq Zaf Zam Zat Gt Gs Gr Zap Kq Ko J9 Kf Ks Jm Jk Ji Kk Zg9 Zg7 Zgj Zgq Zha Ze6 Zey Zex Zg6
theorem Zkr {Ym:(S_api_Edit→S_api_Tree→Option (S_api_Tree×Bool))} {Yp:(S_api_Edit→S_api_Tree→Option (S_api_Tree×Bool))} {Y4:(S_api_Edit→S_api_Tree→Option (S_api_Tree×Bool))} (Qx:∀ {a0:S_api_Edit} {a1:S_api_Tree} {r:(S_api_Tree×Bool)} {O:Objs} {n:Nat},Ym a0 a1=some r→GTo Try.prog 57 [.agg (Zf a0),.agg (Zd a1)] O n (.tup [.agg (Zd r.1),.val (.bool r.2)]) O n) (V1:∀ {a0:S_api_Edit} {a1:S_api_Tree} {r:(S_api_Tree×Bool)} {O:Objs} {n:Nat},Yp a0 a1=some r→GTo Try.prog 87 [.agg (Zf a0),.agg (Zd a1)] O n (.tup [.agg (Zd r.1),.val (.bool r.2)]) O n) (Zal:∀ {a0:S_api_Edit} {a1:S_api_Tree} {r:(S_api_Tree×Bool)} {O:Objs} {n:Nat},Y4 a0 a1=some r→GTo Try.prog 88 [.agg (Zf a0),.agg (Zd a1)] O n (.tup [.agg (Zd r.1),.val (.bool r.2)]) O n) {a0:S_api_Edit} {a1:S_api_Tree} {r:(S_api_Tree×Bool)} {O:Objs} {n:Nat} (h:Ua Ym Yp Y4 a0 a1=some r):GTo Try.prog 57 [.agg (Zf a0),.agg (Zd a1)] O n (.tup [.agg (Zd r.1),.val (.bool r.2)]) O n:=by
 unfold Ua at h
 refine Xl Ze Try.call57 Try.func57 rfl (Nat.le_of_ble_eq_true rfl) (Nat.le_refl _) fun hU => ?_
 have hN0:O n=none:=hU.fresh _ (Nat.le_refl _)
 have hN:∀ k,O (n+k)=none:=fun k=>hU.fresh _ (Nat.le_add_right _ _)
 show W _ _ _ _ ⟨42,[],[(0,.agg (Zf a0)),(1,.agg (Zd a1))]⟩ (Zx O n []) _
 refine Zq [2,3,4] (Zc Ze [] ?_)
 simp only [push_cast,seval,↓reduceIte,Za,hN0,hN]
 refine Zl ?_
 refine Zc Ze [] ?_
 simp only [push_cast,seval,↓reduceIte,Za,hN0,hN]
 refine Zj [2,3,4,6] [true,true,true,true] ?_
 simp only [push_cast,seval,↓reduceIte]
 obtain ⟨z1,hz1,h⟩:=bC h
 refine Y1 (E':=⟨42,[],[(4,.ref (n+2) 0),(6,.ref (n+3) 0),(7,.val (.bool z1.1))]⟩) (O':=(Zx O n [none,none,some ⟨false,25,3,1,[.val (.int .i64 0),.val (.slice none 0 0),.val (.slice none 0 0)]⟩,some ⟨false,25,3,1,[.val (.int .i64 z1.2.1),.sl z1.2.2.1.length (fl (eI .u64) z1.2.2.1),.sl z1.2.2.2.length (fl Zb z1.2.2.2)]⟩])) (n0:=(n+4)) ?_ ?_
 ·refine Zq [2,3,4,6,10] (Zc Ze [] ?_)
  simp only [push_cast,seval,↓reduceIte,Za,hN0,hN]
  refine Yw ?_
  refine Zq [2,3,4,6,10,11] (Zc Ze [] ?_)
  simp only [push_cast,seval,↓reduceIte,Za,hN0,hN]
  refine Zs (t:=(a0.Kind == 0)) rfl (fun c8 => ?_) (fun c8 => ?_)
  ·replace hz1:=Zu c8 hz1
   refine Zc Ze [] ?_
   simp only [push_cast,seval,↓reduceIte,Za,hN0,hN]
   have hz1:=Option.some.inj hz1;subst hz1
   refine And.intro rfl (Fit2.of (Zi hU rfl rfl ?_) (by omega))
   simp only [push_cast,seval,↓reduceIte,Za,hN0,hN]
  replace hz1:=Zt c8 hz1
  refine Zq [2,3,4,6,10,13] (Zc Ze [] ?_)
  simp only [push_cast,seval,↓reduceIte,Za,hN0,hN]
  refine Zs (t:=(a0.Kind == 1)) rfl (fun c7 => ?_) (fun c7 => ?_)
  ·replace hz1:=Zu c7 hz1
   refine Zl ?_
   refine Zc Ze [] ?_
   simp only [push_cast,seval,↓reduceIte,Za,hN0,hN]
   refine Zj [2,3,4,6] [true,true,true,true] ?_
   simp only [push_cast,seval,↓reduceIte]
   obtain ⟨y2,hy2,hz1⟩:=bC hz1
   refine Zc Ze [] ?_
   simp only [push_cast,seval,↓reduceIte,Za,hN0,hN]
   refine (Zdt hy2).then ?_
   simp only [push_cast,seval,↓reduceIte,Za,hN0,hN]
   have hz1:=Option.some.inj hz1;subst hz1
   refine And.intro rfl (Fit2.of (Zi hU rfl rfl ?_) (by omega))
   simp only [push_cast,seval,↓reduceIte,Za,hN0,hN]
  replace hz1:=Zt c7 hz1
  refine Zq [2,3,4,6,10,21] (Zc Ze [] ?_)
  simp only [push_cast,seval,↓reduceIte,Za,hN0,hN]
  refine Zs (t:=(a0.Kind == 2)) rfl (fun c6 => ?_) (fun c6 => ?_)
  ·replace hz1:=Zu c6 hz1
   obtain ⟨y3,hy3,hz1⟩:=bC hz1
   refine Zc Ze [] ?_
   simp only [push_cast,seval,↓reduceIte,Za,hN0,hN]
   refine (V1 hy3).then ?_
   simp only [push_cast,seval,↓reduceIte,Za,hN0,hN]
   have hz1:=Option.some.inj hz1;subst hz1
   refine And.intro rfl (Fit2.of (Zi hU rfl rfl ?_) (by omega))
   simp only [push_cast,seval,↓reduceIte,Za,hN0,hN]
  replace hz1:=Zt c6 hz1
  refine Zq [2,3,4,6,29] (Zc Ze [] ?_)
  simp only [push_cast,seval,↓reduceIte,Za,hN0,hN]
  refine Zs (t:=(a0.Kind == 3)) rfl (fun c5 => ?_) (fun c5 => ?_)
  ·replace hz1:=Zu c5 hz1
   obtain ⟨y4,hy4,hz1⟩:=bC hz1
   refine Zc Ze [] ?_
   simp only [push_cast,seval,↓reduceIte,Za,hN0,hN]
   refine (Zal hy4).then ?_
   simp only [push_cast,seval,↓reduceIte,Za,hN0,hN]
   have hz1:=Option.some.inj hz1;subst hz1
   refine And.intro rfl (Fit2.of (Zi hU rfl rfl ?_) (by omega))
   simp only [push_cast,seval,↓reduceIte,Za,hN0,hN]
  replace hz1:=Zt c5 hz1
  refine Zc Ze [] ?_
  simp only [push_cast,seval,↓reduceIte,Za,hN0,hN]
  have hz1:=Option.some.inj hz1;subst hz1
  refine And.intro rfl (Fit2.of (Zi hU rfl rfl ?_) (by omega))
  simp only [push_cast,seval,↓reduceIte,Za,hN0,hN]
 refine Zl ?_
 refine Zq [4,6,38] (Zc Ze [] ?_)
 simp only [push_cast,seval,↓reduceIte,Za,hN0,hN]
 refine Zs (t:=(!z1.1)) rfl (fun c11 => ?_) (fun c11 => ?_)
 ·replace h:=Zu c11 h
  refine Zl ?_
  refine Zc Ze [] ?_
  simp only [push_cast,seval,↓reduceIte,Za,hN0,hN]
  refine Zj [4,5] [false,false,true,false] ?_
  simp only [push_cast,seval,↓reduceIte]
  refine Z4 ?_
  try simp only [Zk,Zh]
  have h:=Option.some.inj h;subst h
  refine Zr (.inr rfl) hU [.agg [.val (.int .i64 0),.val (.slice none 0 0),.val (.slice none 0 0)],.val (.bool false)] (by omega) ?_
  simp only [push_cast,seval,↓reduceIte,Za,Try.results57,hN0,hN]
 replace h:=Zt c11 h
 refine Zz ?_
 try simp only [Zk,Zh]
 refine Zj [4,6] [false,false,true,true] ?_
 simp only [push_cast,seval,↓reduceIte]
 refine Zl ?_
 obtain ⟨y10,hy10,h⟩:=bC h
 refine Zc Ze [] ?_
 simp only [push_cast,seval,↓reduceIte,Za,hN0,hN]
 refine (Zbf hy10).then ?_
 simp only [push_cast,seval,↓reduceIte,Za,hN0,hN]
 refine Zj [4,5] [false,false,true,false] ?_
 simp only [push_cast,seval,↓reduceIte]
 refine Z4 ?_
 try simp only [Zk,Zh]
 have h:=Option.some.inj h;subst h
 refine Zr (.inr rfl) hU [.agg (Zd y10),.val (.bool true)] (by omega) ?_
 simp only [push_cast,seval,↓reduceIte,Za,Try.results57,hN0,hN]
theorem Zf1 {Ym:(S_api_Edit→S_api_Tree→Option (S_api_Tree×Bool))} {Yp:(S_api_Edit→S_api_Tree→Option (S_api_Tree×Bool))} {Y4:(S_api_Edit→S_api_Tree→Option (S_api_Tree×Bool))} (Qx:∀ {a0:S_api_Edit} {a1:S_api_Tree} {r:(S_api_Tree×Bool)} {O:Objs} {n:Nat},Ym a0 a1=some r→GTo Try.prog 57 [.agg (Zf a0),.agg (Zd a1)] O n (.tup [.agg (Zd r.1),.val (.bool r.2)]) O n) (V1:∀ {a0:S_api_Edit} {a1:S_api_Tree} {r:(S_api_Tree×Bool)} {O:Objs} {n:Nat},Yp a0 a1=some r→GTo Try.prog 87 [.agg (Zf a0),.agg (Zd a1)] O n (.tup [.agg (Zd r.1),.val (.bool r.2)]) O n) (Zal:∀ {a0:S_api_Edit} {a1:S_api_Tree} {r:(S_api_Tree×Bool)} {O:Objs} {n:Nat},Y4 a0 a1=some r→GTo Try.prog 88 [.agg (Zf a0),.agg (Zd a1)] O n (.tup [.agg (Zd r.1),.val (.bool r.2)]) O n) {a0:S_api_Edit} {a1:S_api_Tree} {r:(S_api_Tree×Bool)} {O:Objs} {n:Nat} (h:Q4 Ym Yp Y4 a0 a1=some r):GTo Try.prog 87 [.agg (Zf a0),.agg (Zd a1)] O n (.tup [.agg (Zd r.1),.val (.bool r.2)]) O n:=by
 unfold Q4 at h
 refine Xl Ze Try.call87 Try.func87 rfl (Nat.le_of_ble_eq_true rfl) (Nat.le_refl _) fun hU => ?_
 have hN0:O n=none:=hU.fresh _ (Nat.le_refl _)
 have hN:∀ k,O (n+k)=none:=fun k=>hU.fresh _ (Nat.le_add_right _ _)
 show W _ _ _ _ ⟨175,[],[(0,.agg (Zf a0)),(1,.agg (Zd a1))]⟩ (Zx O n []) _
 refine Zq [2,3,4] (Zc Ze [] ?_)
 simp only [push_cast,seval,↓reduceIte,Za,hN0,hN]
 refine Zl ?_
 refine Zq [2,3,4,21] (Zc Ze [] ?_)
 simp only [push_cast,seval,↓reduceIte,Za,hN0,hN]
 refine Zs (t:=(a1.Kind != 1)) rfl (fun c69 => ?_) (fun c69 => ?_)
 ·replace h:=Zu c69 h
  refine Zl ?_
  refine Zc Ze [] ?_
  simp only [push_cast,seval,↓reduceIte,Za,hN0,hN]
  refine Zj [4,5] [false,false,true] ?_
  simp only [push_cast,seval,↓reduceIte]
  refine Z4 ?_
  try simp only [Zk,Zh]
  have h:=Option.some.inj h;subst h
  refine Zr (.inr rfl) hU [.agg [.val (.int .i64 0),.val (.slice none 0 0),.val (.slice none 0 0)],.val (.bool false)] (by omega) ?_
  simp only [push_cast,seval,↓reduceIte,Za,Try.results87,hN0,hN]
 replace h:=Zt c69 h
 refine Zz ?_
 try simp only [Zk,Zh]
 refine Zj [2,3,4] [true,true,true] ?_
 simp only [push_cast,seval,↓reduceIte]
 refine Zl ?_
 refine Zc Ze [] ?_
 simp only [push_cast,seval,↓reduceIte,Za,hN0,hN]
 refine Zj [2,3,4,6] [true,true,true,true] ?_
 simp only [push_cast,seval,↓reduceIte]
 refine Zq [2,3,4,6,7,8] (Qg Ze (by kernel_rfl) [] (by kernel_rfl) ?_)
 simp only [push_cast,seval,↓reduceIte,Za,hN0,hN]
 obtain ⟨z1,hz1,h⟩:=bC h
 refine Y1 (E':=⟨175,[],[(2,.ref n 0),(3,.ref (n+1) 0),(4,.ref (n+2) 0),(6,.ref (n+3) 0),(7,.val (.int .i64 z1)),(8,.val (.int .i64 (a1.Kids.length:Int)))]⟩) (O':=(Zx O n [some ⟨false,54,11,1,(Zf a0)⟩,some ⟨false,25,3,1,(Zd a1)⟩,some ⟨false,25,3,1,[.val (.int .i64 0),.val (.slice none 0 0),.val (.slice none 0 0)]⟩,some ⟨false,25,3,1,[.val (.int .i64 1),.val (.slice none 0 0),.val (.slice none 0 0)]⟩])) (n0:=(n+4)) ?_ ?_
 ·refine Zq [2,3,4,6,7,8,9] (Zc Ze [] ?_)
  simp only [push_cast,seval,↓reduceIte,Za,hN0,hN]
  obtain ⟨z4,hz4,hz1⟩:=bC hz1
  refine Y1 (E':=⟨175,[],[(2,.ref n 0),(3,.ref (n+1) 0),(4,.ref (n+2) 0),(6,.ref (n+3) 0),(7,.val (.int .i64 (a1.Words.length:Int))),(8,.val (.int .i64 (a1.Kids.length:Int))),(9,.val (.int .i64 (a0.Words.length:Int))),(45,.val (.bool z4))]⟩) (O':=(Zx O n [some ⟨false,54,11,1,(Zf a0)⟩,some ⟨false,25,3,1,(Zd a1)⟩,some ⟨false,25,3,1,[.val (.int .i64 0),.val (.slice none 0 0),.val (.slice none 0 0)]⟩,some ⟨false,25,3,1,[.val (.int .i64 1),.val (.slice none 0 0),.val (.slice none 0 0)]⟩])) (n0:=(n+4)) ?_ ?_
  ·rcases Bool.eq_false_or_eq_true (decide (0 < (a0.Words.length:Int))) with c9 | c9
   ·replace hz4:=Zu c9 hz4
    obtain ⟨x7,hx7,ax7,bx7,cx7,hz4⟩:=bE (f:=Zm) Zjg (fun _=>rfl) (by decide) hz4
    have g8:=Zba (f:=Zm) (sz:=4) Zo3 (fun _=>rfl) (by decide) (by decide) hx7
    refine Zc Ze [some true,some true,some true,some true,some true,some true,some true,some true,some true] ?_
    simp only [push_cast,Nat.reduceAdd,Nat.reduceSub,Nat.reduceMul,Nat.reduceLeDiff,Nat.reduceLT,Nat.reduceEqDiff,↓reduceIte,reduceCtorEq,Int.reduceBEq,Int.reduceBNe,Nat.reduceBEq,Int.reduceLE,Int.reduceLT,Int.reduceEq,Int.reduceNe,Int.reduceNeg,Nat.reduceDiv,Nat.reduceMod,Nat.reducePow,Za,c9,ax7,bx7,cx7,g8,hN0,hN]
    have hz4:=Option.some.inj hz4;subst hz4
    refine And.intro rfl (Fit2.of (Zi hU rfl rfl ?_) (by omega))
    simp only [push_cast,Nat.reduceAdd,Nat.reduceSub,Nat.reduceMul,Nat.reduceLeDiff,Nat.reduceLT,Nat.reduceEqDiff,↓reduceIte,reduceCtorEq,Int.reduceBEq,Int.reduceBNe,Nat.reduceBEq,Int.reduceLE,Int.reduceLT,Int.reduceEq,Int.reduceNe,Int.reduceNeg,Nat.reduceDiv,Nat.reduceMod,Nat.reducePow,Za,c9,ax7,bx7,cx7,g8,hN0,hN]
   replace hz4:=Zt c9 hz4
   refine Zc Ze [some false,some false,some false,some false,some false,some false,some false,some false,some false] ?_
   simp only [push_cast,seval,↓reduceIte,Za,c9,hN0,hN]
   have hz4:=Option.some.inj hz4;subst hz4
   refine And.intro rfl (Fit2.of (Zi hU rfl rfl ?_) (by omega))
   simp only [push_cast,seval,↓reduceIte,Za,c9,hN0,hN]
  refine Zs (t:=z4) rfl (fun c12 => ?_) (fun c12 => ?_)
  ·replace hz1:=Zu c12 hz1
   obtain ⟨x10,hx10,ax10,bx10,cx10,hz1⟩:=bE (f:=Zm) Zjg (fun _=>rfl) (by decide) hz1
   have g11:=Zba (f:=Zm) (sz:=4) Zo3 (fun _=>rfl) (by decide) (by decide) hx10
   refine Zc Ze [] ?_
   simp only [push_cast,Nat.reduceAdd,Nat.reduceSub,Nat.reduceMul,Nat.reduceLeDiff,Nat.reduceLT,Nat.reduceEqDiff,↓reduceIte,reduceCtorEq,Int.reduceBEq,Int.reduceBNe,Nat.reduceBEq,Int.reduceLE,Int.reduceLT,Int.reduceEq,Int.reduceNe,Int.reduceNeg,Nat.reduceDiv,Nat.reduceMod,Nat.reducePow,Za,ax10,bx10,cx10,g11,hN0,hN]
   have hz1:=Option.some.inj hz1;subst hz1
   refine And.intro rfl (Fit2.of (Zi hU rfl rfl ?_) (by omega))
   simp only [push_cast,Nat.reduceAdd,Nat.reduceSub,Nat.reduceMul,Nat.reduceLeDiff,Nat.reduceLT,Nat.reduceEqDiff,↓reduceIte,reduceCtorEq,Int.reduceBEq,Int.reduceBNe,Nat.reduceBEq,Int.reduceLE,Int.reduceLT,Int.reduceEq,Int.reduceNe,Int.reduceNeg,Nat.reduceDiv,Nat.reduceMod,Nat.reducePow,Za,ax10,bx10,cx10,g11,hN0,hN]
  replace hz1:=Zt c12 hz1
  refine Zz ?_
  try simp only [Zk,Zh]
  have hz1:=Option.some.inj hz1;subst hz1
  refine And.intro rfl (Fit2.of (Zi hU rfl rfl ?_) (by omega))
  simp only [push_cast,seval,↓reduceIte,Za,hN0,hN]
 obtain ⟨z13,hz13,h⟩:=bC h
 refine Y1 (E':=⟨175,[],[(2,.ref n 0),(3,.ref (n+1) 0),(4,.ref (n+2) 0),(6,.ref (n+3) 0),(7,.val (.int .i64 z1)),(8,.val (.int .i64 z13))]⟩) (O':=(Zx O n [some ⟨false,54,11,1,(Zf a0)⟩,some ⟨false,25,3,1,(Zd a1)⟩,some ⟨false,25,3,1,[.val (.int .i64 0),.val (.slice none 0 0),.val (.slice none 0 0)]⟩,some ⟨false,25,3,1,[.val (.int .i64 1),.val (.slice none 0 0),.val (.slice none 0 0)]⟩])) (n0:=(n+4)) ?_ ?_
 ·refine Zq [2,3,4,6,7,8,10] (Zc Ze [] ?_)
  simp only [push_cast,seval,↓reduceIte,Za,hN0,hN]
  obtain ⟨z16,hz16,hz13⟩:=bC hz13
  refine Y1 (E':=⟨175,[],[(2,.ref n 0),(3,.ref (n+1) 0),(4,.ref (n+2) 0),(6,.ref (n+3) 0),(7,.val (.int .i64 z1)),(8,.val (.int .i64 (a1.Kids.length:Int))),(10,.val (.int .i64 (a0.Kids.length:Int))),(69,.val (.bool z16))]⟩) (O':=(Zx O n [some ⟨false,54,11,1,(Zf a0)⟩,some ⟨false,25,3,1,(Zd a1)⟩,some ⟨false,25,3,1,[.val (.int .i64 0),.val (.slice none 0 0),.val (.slice none 0 0)]⟩,some ⟨false,25,3,1,[.val (.int .i64 1),.val (.slice none 0 0),.val (.slice none 0 0)]⟩])) (n0:=(n+4)) ?_ ?_
  ·rcases Bool.eq_false_or_eq_true (decide (0 < (a0.Kids.length:Int))) with c21 | c21
   ·replace hz16:=Zu c21 hz16
    obtain ⟨x19,hx19,ax19,bx19,cx19,hz16⟩:=bE (f:=Zo) Zg3 (fun _=>rfl) (by decide) hz16
    have g20:=Zba (f:=Zo) (sz:=12) Zo3 (fun _=>rfl) (by decide) (by decide) hx19
    refine Zc Ze [some true,some true,some true,some true,some true,some true,some true,some true,some true] ?_
    simp only [push_cast,Nat.reduceAdd,Nat.reduceSub,Nat.reduceMul,Nat.reduceLeDiff,Nat.reduceLT,Nat.reduceEqDiff,↓reduceIte,reduceCtorEq,Int.reduceBEq,Int.reduceBNe,Nat.reduceBEq,Int.reduceLE,Int.reduceLT,Int.reduceEq,Int.reduceNe,Int.reduceNeg,Nat.reduceDiv,Nat.reduceMod,Nat.reducePow,Za,c21,ax19,bx19,cx19,g20,hN0,hN]
    have hz16:=Option.some.inj hz16;subst hz16
    refine And.intro rfl (Fit2.of (Zi hU rfl rfl ?_) (by omega))
    simp only [push_cast,Nat.reduceAdd,Nat.reduceSub,Nat.reduceMul,Nat.reduceLeDiff,Nat.reduceLT,Nat.reduceEqDiff,↓reduceIte,reduceCtorEq,Int.reduceBEq,Int.reduceBNe,Nat.reduceBEq,Int.reduceLE,Int.reduceLT,Int.reduceEq,Int.reduceNe,Int.reduceNeg,Nat.reduceDiv,Nat.reduceMod,Nat.reducePow,Za,c21,ax19,bx19,cx19,g20,hN0,hN]
   replace hz16:=Zt c21 hz16
   refine Zc Ze [some false,some false,some false,some false,some false,some false,some false,some false,some false] ?_
   simp only [push_cast,seval,↓reduceIte,Za,c21,hN0,hN]
   have hz16:=Option.some.inj hz16;subst hz16
   refine And.intro rfl (Fit2.of (Zi hU rfl rfl ?_) (by omega))
   simp only [push_cast,seval,↓reduceIte,Za,c21,hN0,hN]
  refine Zs (t:=z16) rfl (fun c24 => ?_) (fun c24 => ?_)
  ·replace hz13:=Zu c24 hz13
   obtain ⟨x22,hx22,ax22,bx22,cx22,hz13⟩:=bE (f:=Zo) Zg3 (fun _=>rfl) (by decide) hz13
   have g23:=Zba (f:=Zo) (sz:=12) Zo3 (fun _=>rfl) (by decide) (by decide) hx22
   refine Zc Ze [] ?_
   simp only [push_cast,Nat.reduceAdd,Nat.reduceSub,Nat.reduceMul,Nat.reduceLeDiff,Nat.reduceLT,Nat.reduceEqDiff,↓reduceIte,reduceCtorEq,Int.reduceBEq,Int.reduceBNe,Nat.reduceBEq,Int.reduceLE,Int.reduceLT,Int.reduceEq,Int.reduceNe,Int.reduceNeg,Nat.reduceDiv,Nat.reduceMod,Nat.reducePow,Za,ax22,bx22,cx22,g23,hN0,hN]
   have hz13:=Option.some.inj hz13;subst hz13
   refine And.intro rfl (Fit2.of (Zi hU rfl rfl ?_) (by omega))
   simp only [push_cast,Nat.reduceAdd,Nat.reduceSub,Nat.reduceMul,Nat.reduceLeDiff,Nat.reduceLT,Nat.reduceEqDiff,↓reduceIte,reduceCtorEq,Int.reduceBEq,Int.reduceBNe,Nat.reduceBEq,Int.reduceLE,Int.reduceLT,Int.reduceEq,Int.reduceNe,Int.reduceNeg,Nat.reduceDiv,Nat.reduceMod,Nat.reducePow,Za,ax22,bx22,cx22,g23,hN0,hN]
  replace hz13:=Zt c24 hz13
  refine Zz ?_
  try simp only [Zk,Zh]
  have hz13:=Option.some.inj hz13;subst hz13
  refine And.intro rfl (Fit2.of (Zi hU rfl rfl ?_) (by omega))
  simp only [push_cast,seval,↓reduceIte,Za,hN0,hN]
 refine Zq [2,3,4,6,7,8,11] (Zc Ze [] ?_)
 simp only [push_cast,seval,↓reduceIte,Za,hN0,hN]
 refine Zl ?_
 refine Zq [2,3,4,6,7,8,11,12] (Zc Ze [] ?_)
 simp only [push_cast,seval,↓reduceIte,Za,hN0,hN]
 refine Zj [2,3,4,6,7,8,11,12] [true,true,true,true] ?_
 simp only [push_cast,seval,↓reduceIte]
 refine Zcf (E':=(⟨175,[],[(2,.ref n 0),(3,.ref (n+1) 0),(4,.ref (n+2) 0),(6,.ref (n+3) 0),(7,.val (.int .i64 z1)),(8,.val (.int .i64 z13)),(11,.val (.int .i64 0)),(12,.val (.int .i64 0))]⟩:Env)) (O':=(Zx O n [some ⟨false,54,11,1,(Zf a0)⟩,some ⟨false,25,3,1,(Zd a1)⟩,some ⟨false,25,3,1,[.val (.int .i64 0),.val (.slice none 0 0),.val (.slice none 0 0)]⟩,some ⟨false,25,3,1,[.val (.int .i64 1),.row (n+4) ([]:List Int).length,.val (.slice none 0 0)]⟩,some ⟨true,71,1,([]:List Int).length,fl (eI .u64) ([]:List Int)⟩,none])) (n':=(n+6)) ?_ ?_
 ·refine Fit2.trans (E':=(⟨175,[],[(2,.ref n 0),(3,.ref (n+1) 0),(4,.ref (n+2) 0),(6,.ref (n+3) 0),(7,.val (.int .i64 z1)),(8,.val (.int .i64 z13)),(11,.val (.int .i64 0)),(12,.val (.int .i64 0))]⟩:Env)) (O':=(Zx O n [some ⟨false,54,11,1,(Zf a0)⟩,some ⟨false,25,3,1,(Zd a1)⟩,some ⟨false,25,3,1,[.val (.int .i64 0),.val (.slice none 0 0),.val (.slice none 0 0)]⟩,some ⟨false,25,3,1,[.val (.int .i64 1),.val (.slice none 0 0),.val (.slice none 0 0)]⟩])) (n':=(n+4)) (Fit2.of (Zi hU rfl rfl ?_) (by omega)) ?_
  ·simp only [push_cast,seval,↓reduceIte,Za,hN0,hN]
  refine Fit2.trans (E':=(⟨175,[],[(2,.ref n 0),(3,.ref (n+1) 0),(4,.ref (n+2) 0),(6,.ref (n+3) 0),(7,.val (.int .i64 z1)),(8,.val (.int .i64 z13)),(11,.val (.int .i64 0)),(12,.val (.int .i64 0))]⟩:Env)) (O':=(Zx O n [some ⟨false,54,11,1,(Zf a0)⟩,some ⟨false,25,3,1,(Zd a1)⟩,some ⟨false,25,3,1,[.val (.int .i64 0),.val (.slice none 0 0),.val (.slice none 0 0)]⟩,some ⟨false,25,3,1,[.val (.int .i64 1),.row (n+4) 0,.val (.slice none 0 0)]⟩,some ⟨true,71,1,0,[]⟩])) (n':=(n+5)) ?_ ?_
  ·have ha:=Zd3 (ba:=n) (E:=(⟨175,[],[(2,.ref n 0),(3,.ref (n+1) 0),(4,.ref (n+2) 0),(6,.ref (n+3) 0),(7,.val (.int .i64 z1)),(8,.val (.int .i64 z13)),(11,.val (.int .i64 0)),(12,.val (.int .i64 0))]⟩:Env)) (O:=(Zx O n [some ⟨false,54,11,1,[.val (.int .i64 a0.Kind),.val (.int .i64 a0.Old.Kind),.sl a0.Old.Words.length (fl (eI .u64) a0.Old.Words),.sl a0.Old.Kids.length (fl Zb a0.Old.Kids),.val (.int .i64 a0.New.Kind),.sl a0.New.Words.length (fl (eI .u64) a0.New.Words),.sl a0.New.Kids.length (fl Zb a0.New.Kids),.sl a0.Words.length (fl Zm a0.Words),.sl a0.Kids.length (fl Zo a0.Kids),.val (.int .i64 a0.List_),.sl a0.Ops.length (fl Zy a0.Ops)]⟩,some ⟨false,25,3,1,[.val (.int .i64 a1.Kind),.sl a1.Words.length (fl (eI .u64) a1.Words),.sl a1.Kids.length (fl Zb a1.Kids)]⟩,some ⟨false,25,3,1,[.val (.int .i64 0),.val (.slice none 0 0),.val (.slice none 0 0)]⟩,some ⟨false,25,3,1,[.val (.int .i64 1),.val (.slice none 0 0),.val (.slice none 0 0)]⟩])) (n:=(n+4)) (p:=(n+3)) (k:=1) (q:=⟨false,25,3,1,[.val (.int .i64 1),.val (.slice none 0 0),.val (.slice none 0 0)]⟩) 71 1 (by simp only [Ge,Zcs,List.getElem?_cons_zero,List.getElem?_cons_succ,Option.join_some,Yz]) rfl (by omega)
   simp only [J3,Ql,Za7,Zab,List.set_cons_zero,List.set_cons_succ,List.cons_append,List.nil_append,List.length_cons,List.length_nil,Nat.zero_add,Nat.reduceAdd,Nat.reduceLT,Nat.add_assoc] at ha
   exact ha
  refine Fit2.trans (E':=(⟨175,[],[(2,.ref n 0),(3,.ref (n+1) 0),(4,.ref (n+2) 0),(6,.ref (n+3) 0),(7,.val (.int .i64 z1)),(8,.val (.int .i64 z13)),(11,.val (.int .i64 0)),(12,.val (.int .i64 0))]⟩:Env)) (O':=(Zx O n [some ⟨false,54,11,1,(Zf a0)⟩,some ⟨false,25,3,1,(Zd a1)⟩,some ⟨false,25,3,1,[.val (.int .i64 0),.val (.slice none 0 0),.val (.slice none 0 0)]⟩,some ⟨false,25,3,1,[.val (.int .i64 1),.row (n+4) ([]:List Int).length,.val (.slice none 0 0)]⟩,some ⟨true,71,1,([]:List Int).length,fl (eI .u64) ([]:List Int)⟩])) (n':=(n+5)) (Fit2.of (Zi hU rfl rfl ?_) (by omega)) ?_
  ·simp only [push_cast,seval,↓reduceIte,Za,hN0,hN]
  refine Zaa (k:=5) (k':=6) hU [0,1,2,3,4] [0,1,2,3,4,0] rfl rfl rfl rfl ⟨rfl,rfl⟩ ?_
  simp only [push_cast,seval,↓reduceIte,Za,hN0,hN]
 obtain ⟨z46,hz46,h⟩:=bC h
 refine Gf (J:=(Xb (fun z46=>JR n (⟨175,[],[(4,.ref (n+2) 0),(5,.val (.bool false))]⟩:Env) (Zx O n [none,none,some ⟨false,25,3,1,[.val (.int .i64 0),.val (.slice none 0 0),.val (.slice none 0 0)]⟩,none]) (n+4)) (fun z46=>JX 0 n (⟨175,[],[(2,.ref n 0),(3,.ref (n+1) 0),(4,.ref (n+2) 0),(6,.ref (n+3) 0),(8,.val (.int .i64 z13))]⟩:Env) (Zx O n [some ⟨false,54,11,1,(Zf a0)⟩,some ⟨false,25,3,1,(Zd a1)⟩,some ⟨false,25,3,1,[.val (.int .i64 0),.val (.slice none 0 0),.val (.slice none 0 0)]⟩,some ⟨false,25,3,1,[.val (.int .i64 1),.row (n+4) z46.length,.val (.slice none 0 0)]⟩,some ⟨true,71,1,z46.length,fl (eI .u64) z46⟩,none]) (n+6)))) (z:=z46) ?_ fun hw => ?_
 ·refine Y6 hz46 (fun s0_=>⟨175,[],[(2,.ref n 0),(3,.ref (n+1) 0),(4,.ref (n+2) 0),(6,.ref (n+3) 0),(7,.val (.int .i64 z1)),(8,.val (.int .i64 z13)),(11,.val (.int .i64 s0_.1)),(12,.val (.int .i64 s0_.2.1))]⟩) (fun s0_=>(Zx O n [some ⟨false,54,11,1,(Zf a0)⟩,some ⟨false,25,3,1,(Zd a1)⟩,some ⟨false,25,3,1,[.val (.int .i64 0),.val (.slice none 0 0),.val (.slice none 0 0)]⟩,some ⟨false,25,3,1,[.val (.int .i64 1),.row (n+4) s0_.2.2.length,.val (.slice none 0 0)]⟩,some ⟨true,71,1,s0_.2.2.length,fl (eI .u64) s0_.2.2⟩,none])) (Xb (fun z46=>JR n (⟨175,[],[(4,.ref (n+2) 0),(5,.val (.bool false))]⟩:Env) (Zx O n [none,none,some ⟨false,25,3,1,[.val (.int .i64 0),.val (.slice none 0 0),.val (.slice none 0 0)]⟩,none]) (n+4)) (fun z46=>JX 0 n (⟨175,[],[(2,.ref n 0),(3,.ref (n+1) 0),(4,.ref (n+2) 0),(6,.ref (n+3) 0),(8,.val (.int .i64 z13))]⟩:Env) (Zx O n [some ⟨false,54,11,1,(Zf a0)⟩,some ⟨false,25,3,1,(Zd a1)⟩,some ⟨false,25,3,1,[.val (.int .i64 0),.val (.slice none 0 0),.val (.slice none 0 0)]⟩,some ⟨false,25,3,1,[.val (.int .i64 1),.row (n+4) z46.length,.val (.slice none 0 0)]⟩,some ⟨true,71,1,z46.length,fl (eI .u64) z46⟩,none]) (n+6))) ?_
  intro s0_ x0_ hs0_
  unfold Yj at hs0_
  try dsimp only
  refine Zl ?_
  refine Zq [2,3,4,6,7,8,11,12,80] (Zc Ze [] ?_)
  simp only [push_cast,seval,↓reduceIte,Za,hN0,hN]
  refine Zs (t:=(decide (s0_.2.1 < z1))) rfl (fun c45 => ?_) (fun c45 => ?_)
  ·replace hs0_:=Zu c45 hs0_
   refine Zz ?_
   try simp only [Zk,Zh]
   refine Zj [2,3,4,6,7,8,11,12] [true,true,true,true,true,false] ?_
   simp only [push_cast,seval,↓reduceIte]
   refine Zl ?_
   refine Yw ?_
   refine Zl ?_
   obtain ⟨y26,hy26,hs0_⟩:=bC hs0_
   refine Zc Ze [] ?_
   simp only [push_cast,seval,↓reduceIte,Za,hN0,hN]
   refine (Zk9 hy26).then ?_
   simp only [push_cast,seval,↓reduceIte,Za,hN0,hN]
   refine Zj [2,3,4,6,7,8,11,12,13] [true,true,true,true,true,false] ?_
   simp only [push_cast,seval,↓reduceIte]
   obtain ⟨z27,hz27,hs0_⟩:=bC hs0_
   refine Zyc (J:=(Xb (fun z27=>JN n (⟨175,[],[(2,.ref n 0),(3,.ref (n+1) 0),(4,.ref (n+2) 0),(6,.ref (n+3) 0),(7,.val (.int .i64 z1)),(8,.val (.int .i64 z13)),(11,.val (.int .i64 z27.1)),(12,.val (.int .i64 s0_.2.1)),(13,.val (.int .u64 z27.2))]⟩:Env) (Zx O n [some ⟨false,54,11,1,(Zf a0)⟩,some ⟨false,25,3,1,(Zd a1)⟩,some ⟨false,25,3,1,[.val (.int .i64 0),.val (.slice none 0 0),.val (.slice none 0 0)]⟩,some ⟨false,25,3,1,[.val (.int .i64 1),.row (n+4) s0_.2.2.length,.val (.slice none 0 0)]⟩,some ⟨true,71,1,s0_.2.2.length,fl (eI .u64) s0_.2.2⟩,none,none]) (n+7)) (fun z27=>JR n (⟨175,[],[(4,.ref (n+2) 0),(5,.val (.bool false))]⟩:Env) (Zx O n [none,none,some ⟨false,25,3,1,[.val (.int .i64 0),.val (.slice none 0 0),.val (.slice none 0 0)]⟩,none,none,none]) (n+6)))) (z:=z27) ?_ fun hw => ?_
   ·obtain ⟨z30,hz30,hz27⟩:=bC hz27
    refine Y1 (E':=⟨175,[],[(2,.ref n 0),(3,.ref (n+1) 0),(4,.ref (n+2) 0),(6,.ref (n+3) 0),(7,.val (.int .i64 z1)),(8,.val (.int .i64 z13)),(11,.val (.int .i64 s0_.1)),(12,.val (.int .i64 s0_.2.1)),(13,.val (.int .u64 y26)),(100,.val (.bool z30))]⟩) (O':=(Zx O n [some ⟨false,54,11,1,(Zf a0)⟩,some ⟨false,25,3,1,(Zd a1)⟩,some ⟨false,25,3,1,[.val (.int .i64 0),.val (.slice none 0 0),.val (.slice none 0 0)]⟩,some ⟨false,25,3,1,[.val (.int .i64 1),.row (n+4) s0_.2.2.length,.val (.slice none 0 0)]⟩,some ⟨true,71,1,s0_.2.2.length,fl (eI .u64) s0_.2.2⟩,none])) (n0:=(n+6)) ?_ ?_
    ·rcases Bool.eq_false_or_eq_true (decide (s0_.1 < (a0.Words.length:Int))) with c35 | c35
     ·replace hz30:=Zu c35 hz30
      obtain ⟨x33,hx33,ax33,bx33,cx33,hz30⟩:=bE (f:=Zm) Zjg (fun _=>rfl) (by decide) hz30
      have g34:=Zba (f:=Zm) (sz:=4) Zo3 (fun _=>rfl) (by decide) (by decide) hx33
      refine Zc Ze [some true,some true,some true,some true,some true,some true,some true,some true] ?_
      simp only [push_cast,Nat.reduceAdd,Nat.reduceSub,Nat.reduceMul,Nat.reduceLeDiff,Nat.reduceLT,Nat.reduceEqDiff,↓reduceIte,reduceCtorEq,Int.reduceBEq,Int.reduceBNe,Nat.reduceBEq,Int.reduceLE,Int.reduceLT,Int.reduceEq,Int.reduceNe,Int.reduceNeg,Nat.reduceDiv,Nat.reduceMod,Nat.reducePow,Za,c35,ax33,bx33,cx33,g34,hN0,hN]
      have hz30:=Option.some.inj hz30;subst hz30
      refine And.intro rfl (Fit2.of (Zi hU rfl rfl ?_) (by omega))
      simp only [push_cast,Nat.reduceAdd,Nat.reduceSub,Nat.reduceMul,Nat.reduceLeDiff,Nat.reduceLT,Nat.reduceEqDiff,↓reduceIte,reduceCtorEq,Int.reduceBEq,Int.reduceBNe,Nat.reduceBEq,Int.reduceLE,Int.reduceLT,Int.reduceEq,Int.reduceNe,Int.reduceNeg,Nat.reduceDiv,Nat.reduceMod,Nat.reducePow,Za,c35,ax33,bx33,cx33,g34,hN0,hN]
     replace hz30:=Zt c35 hz30
     refine Zc Ze [some false,some false,some false,some false,some false,some false,some false,some false] ?_
     simp only [push_cast,seval,↓reduceIte,Za,c35,hN0,hN]
     have hz30:=Option.some.inj hz30;subst hz30
     refine And.intro rfl (Fit2.of (Zi hU rfl rfl ?_) (by omega))
     simp only [push_cast,seval,↓reduceIte,Za,c35,hN0,hN]
    refine Zs (t:=z30) rfl (fun c43 => ?_) (fun c43 => ?_)
    ·replace hz27:=Zu c43 hz27
     refine Zl ?_
     obtain ⟨x37,hx37,ax37,bx37,cx37,hz27⟩:=bE (f:=Zm) Zjg (fun _=>rfl) (by decide) hz27
     refine Zc Ze [] ?_
     simp only [push_cast,Nat.reduceAdd,Nat.reduceSub,Nat.reduceMul,Nat.reduceLeDiff,Nat.reduceLT,Nat.reduceEqDiff,↓reduceIte,reduceCtorEq,Int.reduceBEq,Int.reduceBNe,Nat.reduceBEq,Int.reduceLE,Int.reduceLT,Int.reduceEq,Int.reduceNe,Int.reduceNeg,Nat.reduceDiv,Nat.reduceMod,Nat.reducePow,Za,ax37,bx37,cx37,hN0,hN]
     refine Zj [2,3,4,6,7,8,11,12,13,14] [true,true,true,true,true,false,true] ?_
     simp only [push_cast,seval,↓reduceIte]
     refine Zl ?_
     refine Zl ?_
     obtain ⟨y39,hy39,hz27⟩:=bC hz27
     refine Qg Ze (by kernel_rfl) [] (by kernel_rfl) ?_
     simp only [push_cast,seval,↓reduceIte,Za,hN0,hN]
     refine PCall.of (Zb3 hy39) ?_
     simp only [push_cast,seval,↓reduceIte,Za,hN0,hN]
     refine Zj [2,3,4,6,7,8,11,12,13,14,112] [true,true,true,true,true,false,true] ?_
     simp only [push_cast,seval,↓reduceIte]
     refine Zs (t:=(y39 != x37.Old)) rfl (fun c42 => ?_) (fun c42 => ?_)
     ·replace hz27:=Zu c42 hz27
      refine Zl ?_
      refine Zc Ze [] ?_
      simp only [push_cast,seval,↓reduceIte,Za,hN0,hN]
      refine Zj [4,5] [false,false,true,false,false,false,false] ?_
      simp only [push_cast,seval,↓reduceIte]
      refine Z4 ?_
      try simp only [Zk,Zh]
      have hz27:=Option.some.inj hz27;subst hz27
      refine And.intro rfl (Fit2.of (Zi hU rfl rfl ?_) (by omega))
      simp only [push_cast,seval,↓reduceIte,Za,hN0,hN]
     replace hz27:=Zt c42 hz27
     refine Zz ?_
     try simp only [Zk,Zh]
     refine Zj [2,3,4,6,7,8,11,12,13,14] [true,true,true,true,true,false,true] ?_
     simp only [push_cast,seval,↓reduceIte]
     refine Zl ?_
     obtain ⟨y41,hy41,hz27⟩:=bC hz27
     refine Zc Ze [] ?_
     simp only [push_cast,seval,↓reduceIte,Za,hN0,hN]
     refine (Zb3 hy41).then ?_
     simp only [push_cast,seval,↓reduceIte,Za,hN0,hN]
     refine Zj [2,3,4,6,7,8,11,12,13] [true,true,true,true,true,false,false] ?_
     simp only [push_cast,seval,↓reduceIte]
     refine Zc Ze [] ?_
     simp only [push_cast,seval,↓reduceIte,Za,hN0,hN]
     have hz27:=Option.some.inj hz27;subst hz27
     refine And.intro rfl (Fit2.of (Zi hU rfl rfl ?_) (by omega))
     simp only [push_cast,seval,↓reduceIte,Za,hN0,hN]
    replace hz27:=Zt c43 hz27
    refine Zz ?_
    try simp only [Zk,Zh]
    have hz27:=Option.some.inj hz27;subst hz27
    refine And.intro rfl (Fit2.of (Zi hU rfl rfl ?_) (by omega))
    simp only [push_cast,seval,↓reduceIte,Za,hN0,hN]
   rcases z27 with z27 | z27
   ·dsimp only [Xb] at hw hs0_
    refine Y1 hw ?_
    obtain ⟨l44,pl44,ql44,el44,hs0_⟩:=bA (k:=1) rfl hs0_
    refine Zc Ze [] ?_
    simp only [push_cast,seval,↓reduceIte,Za,pl44,ql44,el44,hN0,hN]
    refine Zfe ⟨175,[],[(2,.ref n 0),(3,.ref (n+1) 0),(4,.ref (n+2) 0),(6,.ref (n+3) 0),(7,.val (.int .i64 z1)),(8,.val (.int .i64 z13)),(11,.val (.int .i64 z27.1)),(12,.val (.int .i64 s0_.2.1))]⟩ (Zx O n [some ⟨false,54,11,1,(Zf a0)⟩,some ⟨false,25,3,1,(Zd a1)⟩,some ⟨false,25,3,1,[.val (.int .i64 0),.val (.slice none 0 0),.val (.slice none 0 0)]⟩,some ⟨false,25,3,1,[.val (.int .i64 1),.row (n+4) l44.length,.val (.slice none 0 0)]⟩,some ⟨true,71,1,l44.length,fl (eI .u64) l44⟩,none,none,none]) (Zi hU rfl rfl ?_) ?_
    ·simp only [push_cast,seval,↓reduceIte,Za,pl44,ql44,el44,hN0,hN]
    refine Zc Ze [] ?_
    simp only [push_cast,seval,↓reduceIte,Za,hN0,hN]
    have hs0_:=Option.some.inj hs0_;subst hs0_
    refine And.intro rfl (Fit2.of (Zi hU rfl rfl ?_) (by omega))
    simp only [push_cast,seval,↓reduceIte,Za,hN0,hN]
   dsimp only [Xb] at hw hs0_
   refine Zth hw ?_
   try simp only [Zk,Zh]
   have hs0_:=Option.some.inj hs0_;subst hs0_
   refine And.intro (fun h=>by cases h) (And.intro rfl (Fit2.of (Zi hU rfl rfl ?_) (by omega)))
   simp only [push_cast,seval,↓reduceIte,Za,hN0,hN]
  replace hs0_:=Zt c45 hs0_
  refine Xt ?_
  try simp only [Zk,Zh,↓reduceIte,Nat.reduceEqDiff]
  have hs0_:=Option.some.inj hs0_;subst hs0_
  refine And.intro (fun h=>by cases h) (And.intro rfl (Fit2.of (Zi hU rfl rfl ?_) (by omega)))
  simp only [push_cast,seval,↓reduceIte,Za,hN0,hN]
 rcases z46 with z46 | z46
 ·dsimp only [Xb] at hw h
  refine Q2 hw ?_
  try simp only [Zk,Zh,↓reduceIte,Nat.reduceEqDiff]
  have h:=Option.some.inj h;subst h
  refine Zr (.inr rfl) hU [.agg [.val (.int .i64 0),.val (.slice none 0 0),.val (.slice none 0 0)],.val (.bool false)] (by omega) ?_
  simp only [push_cast,seval,↓reduceIte,Za,Try.results87,hN0,hN]
 dsimp only [Xb] at hw h
 refine Yv hw ?_
 try simp only [Zk,Zh,↓reduceIte,Nat.reduceEqDiff]
 refine Zj [2,3,4,6,8] [true,true,true,true,true,false] ?_
 simp only [push_cast,seval,↓reduceIte]
 refine Zq [2,3,4,6,8,11] (Zc Ze [] ?_)
 simp only [push_cast,seval,↓reduceIte,Za,hN0,hN]
 refine Zl ?_
 refine Zq [2,3,4,6,8,11,15] (Zc Ze [] ?_)
 simp only [push_cast,seval,↓reduceIte,Za,hN0,hN]
 refine Zj [2,3,4,6,8,11,15] [true,true,true,true,true,false] ?_
 simp only [push_cast,seval,↓reduceIte]
 refine Zcf (E':=(⟨175,[],[(2,.ref n 0),(3,.ref (n+1) 0),(4,.ref (n+2) 0),(6,.ref (n+3) 0),(8,.val (.int .i64 z13)),(11,.val (.int .i64 0)),(15,.val (.int .i64 0))]⟩:Env)) (O':=(Zx O n [some ⟨false,54,11,1,(Zf a0)⟩,some ⟨false,25,3,1,(Zd a1)⟩,some ⟨false,25,3,1,[.val (.int .i64 0),.val (.slice none 0 0),.val (.slice none 0 0)]⟩,some ⟨false,25,3,1,[.val (.int .i64 1),.row (n+4) z46.length,.row (n+6) ([]:List S_api_Tree).length]⟩,some ⟨true,71,1,z46.length,fl (eI .u64) z46⟩,none,some ⟨true,25,3,([]:List S_api_Tree).length,fl Zb ([]:List S_api_Tree)⟩,none])) (n':=(n+8)) ?_ ?_
 ·refine Fit2.trans (E':=(⟨175,[],[(2,.ref n 0),(3,.ref (n+1) 0),(4,.ref (n+2) 0),(6,.ref (n+3) 0),(8,.val (.int .i64 z13)),(11,.val (.int .i64 0)),(15,.val (.int .i64 0))]⟩:Env)) (O':=(Zx O n [some ⟨false,54,11,1,(Zf a0)⟩,some ⟨false,25,3,1,(Zd a1)⟩,some ⟨false,25,3,1,[.val (.int .i64 0),.val (.slice none 0 0),.val (.slice none 0 0)]⟩,some ⟨false,25,3,1,[.val (.int .i64 1),.row (n+4) z46.length,.val (.slice none 0 0)]⟩,some ⟨true,71,1,z46.length,fl (eI .u64) z46⟩,none])) (n':=(n+6)) (Fit2.of (Zi hU rfl rfl ?_) (by omega)) ?_
  ·simp only [push_cast,seval,↓reduceIte,Za,hN0,hN]
  refine Fit2.trans (E':=(⟨175,[],[(2,.ref n 0),(3,.ref (n+1) 0),(4,.ref (n+2) 0),(6,.ref (n+3) 0),(8,.val (.int .i64 z13)),(11,.val (.int .i64 0)),(15,.val (.int .i64 0))]⟩:Env)) (O':=(Zx O n [some ⟨false,54,11,1,(Zf a0)⟩,some ⟨false,25,3,1,(Zd a1)⟩,some ⟨false,25,3,1,[.val (.int .i64 0),.val (.slice none 0 0),.val (.slice none 0 0)]⟩,some ⟨false,25,3,1,[.val (.int .i64 1),.row (n+4) z46.length,.row (n+6) 0]⟩,some ⟨true,71,1,z46.length,fl (eI .u64) z46⟩,none,some ⟨true,25,3,0,[]⟩])) (n':=(n+7)) ?_ ?_
  ·have ha:=Zd3 (ba:=n) (E:=(⟨175,[],[(2,.ref n 0),(3,.ref (n+1) 0),(4,.ref (n+2) 0),(6,.ref (n+3) 0),(8,.val (.int .i64 z13)),(11,.val (.int .i64 0)),(15,.val (.int .i64 0))]⟩:Env)) (O:=(Zx O n [some ⟨false,54,11,1,[.val (.int .i64 a0.Kind),.val (.int .i64 a0.Old.Kind),.sl a0.Old.Words.length (fl (eI .u64) a0.Old.Words),.sl a0.Old.Kids.length (fl Zb a0.Old.Kids),.val (.int .i64 a0.New.Kind),.sl a0.New.Words.length (fl (eI .u64) a0.New.Words),.sl a0.New.Kids.length (fl Zb a0.New.Kids),.sl a0.Words.length (fl Zm a0.Words),.sl a0.Kids.length (fl Zo a0.Kids),.val (.int .i64 a0.List_),.sl a0.Ops.length (fl Zy a0.Ops)]⟩,some ⟨false,25,3,1,[.val (.int .i64 a1.Kind),.sl a1.Words.length (fl (eI .u64) a1.Words),.sl a1.Kids.length (fl Zb a1.Kids)]⟩,some ⟨false,25,3,1,[.val (.int .i64 0),.val (.slice none 0 0),.val (.slice none 0 0)]⟩,some ⟨false,25,3,1,[.val (.int .i64 1),.row (n+4) z46.length,.val (.slice none 0 0)]⟩,some ⟨true,71,1,z46.length,fl (eI .u64) z46⟩,none])) (n:=(n+6)) (p:=(n+3)) (k:=2) (q:=⟨false,25,3,1,[.val (.int .i64 1),.row (n+4) z46.length,.val (.slice none 0 0)]⟩) 25 3 (by simp only [Ge,Zcs,List.getElem?_cons_zero,List.getElem?_cons_succ,Option.join_some,Yz]) rfl (by omega)
   simp only [J3,Ql,Za7,Zab,List.set_cons_zero,List.set_cons_succ,List.cons_append,List.nil_append,List.length_cons,List.length_nil,Nat.zero_add,Nat.reduceAdd,Nat.reduceLT,Nat.add_assoc] at ha
   exact ha
  refine Fit2.trans (E':=(⟨175,[],[(2,.ref n 0),(3,.ref (n+1) 0),(4,.ref (n+2) 0),(6,.ref (n+3) 0),(8,.val (.int .i64 z13)),(11,.val (.int .i64 0)),(15,.val (.int .i64 0))]⟩:Env)) (O':=(Zx O n [some ⟨false,54,11,1,(Zf a0)⟩,some ⟨false,25,3,1,(Zd a1)⟩,some ⟨false,25,3,1,[.val (.int .i64 0),.val (.slice none 0 0),.val (.slice none 0 0)]⟩,some ⟨false,25,3,1,[.val (.int .i64 1),.row (n+4) z46.length,.row (n+6) ([]:List S_api_Tree).length]⟩,some ⟨true,71,1,z46.length,fl (eI .u64) z46⟩,none,some ⟨true,25,3,([]:List S_api_Tree).length,fl Zb ([]:List S_api_Tree)⟩])) (n':=(n+7)) (Fit2.of (Zi hU rfl rfl ?_) (by omega)) ?_
  ·simp only [push_cast,seval,↓reduceIte,Za,hN0,hN]
  refine Zaa (k:=7) (k':=8) hU [0,1,2,3,4,7,6] [0,1,2,3,4,0,6,0] rfl rfl rfl rfl ⟨rfl,rfl⟩ ?_
  simp only [push_cast,seval,↓reduceIte,Za,hN0,hN]
 obtain ⟨z68,hz68,h⟩:=bC h
 refine Gf (J:=(Xb (fun z68=>JR n (⟨175,[],[(4,.ref (n+2) 0),(5,.val (.bool false))]⟩:Env) (Zx O n [none,none,some ⟨false,25,3,1,[.val (.int .i64 0),.val (.slice none 0 0),.val (.slice none 0 0)]⟩,none,none,none]) (n+6)) (fun z68=>JX 2 n (⟨175,[],[(4,.ref (n+2) 0),(6,.ref (n+3) 0)]⟩:Env) (Zx O n [none,none,some ⟨false,25,3,1,[.val (.int .i64 0),.val (.slice none 0 0),.val (.slice none 0 0)]⟩,some ⟨false,25,3,1,[.val (.int .i64 1),.row (n+4) z46.length,.row (n+6) z68.length]⟩,some ⟨true,71,1,z46.length,fl (eI .u64) z46⟩,none,some ⟨true,25,3,z68.length,fl Zb z68⟩,none]) (n+8)))) (z:=z68) ?_ fun hw => ?_
 ·refine Y6 hz68 (fun s1_=>⟨175,[],[(2,.ref n 0),(3,.ref (n+1) 0),(4,.ref (n+2) 0),(6,.ref (n+3) 0),(8,.val (.int .i64 z13)),(11,.val (.int .i64 s1_.1)),(15,.val (.int .i64 s1_.2.1))]⟩) (fun s1_=>(Zx O n [some ⟨false,54,11,1,(Zf a0)⟩,some ⟨false,25,3,1,(Zd a1)⟩,some ⟨false,25,3,1,[.val (.int .i64 0),.val (.slice none 0 0),.val (.slice none 0 0)]⟩,some ⟨false,25,3,1,[.val (.int .i64 1),.row (n+4) z46.length,.row (n+6) s1_.2.2.length]⟩,some ⟨true,71,1,z46.length,fl (eI .u64) z46⟩,none,some ⟨true,25,3,s1_.2.2.length,fl Zb s1_.2.2⟩,none])) (Xb (fun z68=>JR n (⟨175,[],[(4,.ref (n+2) 0),(5,.val (.bool false))]⟩:Env) (Zx O n [none,none,some ⟨false,25,3,1,[.val (.int .i64 0),.val (.slice none 0 0),.val (.slice none 0 0)]⟩,none,none,none]) (n+6)) (fun z68=>JX 2 n (⟨175,[],[(4,.ref (n+2) 0),(6,.ref (n+3) 0)]⟩:Env) (Zx O n [none,none,some ⟨false,25,3,1,[.val (.int .i64 0),.val (.slice none 0 0),.val (.slice none 0 0)]⟩,some ⟨false,25,3,1,[.val (.int .i64 1),.row (n+4) z46.length,.row (n+6) z68.length]⟩,some ⟨true,71,1,z46.length,fl (eI .u64) z46⟩,none,some ⟨true,25,3,z68.length,fl Zb z68⟩,none]) (n+8))) ?_
  intro s1_ x1_ hs1_
  unfold Yk at hs1_
  try dsimp only
  refine Zl ?_
  refine Zq [2,3,4,6,8,11,15,130] (Zc Ze [] ?_)
  simp only [push_cast,seval,↓reduceIte,Za,hN0,hN]
  refine Zs (t:=(decide (s1_.2.1 < z13))) rfl (fun c67 => ?_) (fun c67 => ?_)
  ·replace hs1_:=Zu c67 hs1_
   refine Zz ?_
   try simp only [Zk,Zh]
   refine Zj [2,3,4,6,8,11,15] [true,true,true,true,true,false,true,false] ?_
   simp only [push_cast,seval,↓reduceIte]
   refine Zl ?_
   refine Yw ?_
   refine Zl ?_
   obtain ⟨y48,hy48,hs1_⟩:=bC hs1_
   refine Zc Ze [] ?_
   simp only [push_cast,seval,↓reduceIte,Za,hN0,hN]
   refine (Zl5 hy48).then ?_
   simp only [push_cast,seval,↓reduceIte,Za,hN0,hN]
   refine Zj [2,3,4,6,8,11,15,16] [true,true,true,true,true,false,true,false,true] ?_
   simp only [push_cast,seval,↓reduceIte]
   obtain ⟨z49,hz49,hs1_⟩:=bC hs1_
   refine Zyc (J:=(Xb (fun z49=>JN n (⟨175,[],[(2,.ref n 0),(3,.ref (n+1) 0),(4,.ref (n+2) 0),(6,.ref (n+3) 0),(8,.val (.int .i64 z13)),(11,.val (.int .i64 z49.1)),(15,.val (.int .i64 s1_.2.1)),(16,.ref (n+8) 0)]⟩:Env) (Zx O n [some ⟨false,54,11,1,(Zf a0)⟩,some ⟨false,25,3,1,(Zd a1)⟩,some ⟨false,25,3,1,[.val (.int .i64 0),.val (.slice none 0 0),.val (.slice none 0 0)]⟩,some ⟨false,25,3,1,[.val (.int .i64 1),.row (n+4) z46.length,.row (n+6) s1_.2.2.length]⟩,some ⟨true,71,1,z46.length,fl (eI .u64) z46⟩,none,some ⟨true,25,3,s1_.2.2.length,fl Zb s1_.2.2⟩,none,some ⟨false,25,3,1,[.val (.int .i64 z49.2.1),.sl z49.2.2.1.length (fl (eI .u64) z49.2.2.1),.sl z49.2.2.2.length (fl Zb z49.2.2.2)]⟩,none]) (n+10)) (fun z49=>JR n (⟨175,[],[(4,.ref (n+2) 0),(5,.val (.bool false))]⟩:Env) (Zx O n [none,none,some ⟨false,25,3,1,[.val (.int .i64 0),.val (.slice none 0 0),.val (.slice none 0 0)]⟩,none,none,none,none,none,none]) (n+9)))) (z:=z49) ?_ fun hw => ?_
   ·obtain ⟨z52,hz52,hz49⟩:=bC hz49
    refine Y1 (E':=⟨175,[],[(2,.ref n 0),(3,.ref (n+1) 0),(4,.ref (n+2) 0),(6,.ref (n+3) 0),(8,.val (.int .i64 z13)),(11,.val (.int .i64 s1_.1)),(15,.val (.int .i64 s1_.2.1)),(16,.ref (n+8) 0),(150,.val (.bool z52))]⟩) (O':=(Zx O n [some ⟨false,54,11,1,(Zf a0)⟩,some ⟨false,25,3,1,(Zd a1)⟩,some ⟨false,25,3,1,[.val (.int .i64 0),.val (.slice none 0 0),.val (.slice none 0 0)]⟩,some ⟨false,25,3,1,[.val (.int .i64 1),.row (n+4) z46.length,.row (n+6) s1_.2.2.length]⟩,some ⟨true,71,1,z46.length,fl (eI .u64) z46⟩,none,some ⟨true,25,3,s1_.2.2.length,fl Zb s1_.2.2⟩,none,some ⟨false,25,3,1,(Zd y48)⟩])) (n0:=(n+9)) ?_ ?_
    ·rcases Bool.eq_false_or_eq_true (decide (s1_.1 < (a0.Kids.length:Int))) with c57 | c57
     ·replace hz52:=Zu c57 hz52
      obtain ⟨x55,hx55,ax55,bx55,cx55,hz52⟩:=bE (f:=Zo) Zg3 (fun _=>rfl) (by decide) hz52
      have g56:=Zba (f:=Zo) (sz:=12) Zo3 (fun _=>rfl) (by decide) (by decide) hx55
      refine Zc Ze [some true,some true,some true,some true,some true,some true,some true,some true] ?_
      simp only [push_cast,Nat.reduceAdd,Nat.reduceSub,Nat.reduceMul,Nat.reduceLeDiff,Nat.reduceLT,Nat.reduceEqDiff,↓reduceIte,reduceCtorEq,Int.reduceBEq,Int.reduceBNe,Nat.reduceBEq,Int.reduceLE,Int.reduceLT,Int.reduceEq,Int.reduceNe,Int.reduceNeg,Nat.reduceDiv,Nat.reduceMod,Nat.reducePow,Za,c57,ax55,bx55,cx55,g56,hN0,hN]
      have hz52:=Option.some.inj hz52;subst hz52
      refine And.intro rfl (Fit2.of (Zi hU rfl rfl ?_) (by omega))
      simp only [push_cast,Nat.reduceAdd,Nat.reduceSub,Nat.reduceMul,Nat.reduceLeDiff,Nat.reduceLT,Nat.reduceEqDiff,↓reduceIte,reduceCtorEq,Int.reduceBEq,Int.reduceBNe,Nat.reduceBEq,Int.reduceLE,Int.reduceLT,Int.reduceEq,Int.reduceNe,Int.reduceNeg,Nat.reduceDiv,Nat.reduceMod,Nat.reducePow,Za,c57,ax55,bx55,cx55,g56,hN0,hN]
     replace hz52:=Zt c57 hz52
     refine Zc Ze [some false,some false,some false,some false,some false,some false,some false,some false] ?_
     simp only [push_cast,seval,↓reduceIte,Za,c57,hN0,hN]
     have hz52:=Option.some.inj hz52;subst hz52
     refine And.intro rfl (Fit2.of (Zi hU rfl rfl ?_) (by omega))
     simp only [push_cast,seval,↓reduceIte,Za,c57,hN0,hN]
    refine Zs (t:=z52) rfl (fun c65 => ?_) (fun c65 => ?_)
    ·replace hz49:=Zu c65 hz49
     refine Zl ?_
     obtain ⟨x61,hx61,ax61,bx61,cx61,hz49⟩:=bE (f:=Zo) Zg3 (fun _=>rfl) (by decide) hz49
     have g62:=Zbm (f:=Zo) (off:=1) (sz:=12) Zkv (fun _=>rfl) (by decide) (by decide) hx61
     obtain ⟨y63,hy63,hz49⟩:=bC hz49
     refine Zct Ze (by kernel_rfl) [.low,.low,.low,.low,.low,.low,.low,.low,.low,.low,.low,.pass,.pass,.plain] (fun i=>i < (n+9)) [0,1,2,3,4,5,6,7,8,9,10,11,12,13] [.low,.low,.low,.low,.low,.low,.low,.low,.low,.low,.low,.pass,.pass,.plain] [] (by kernel_rfl) rfl ?_
     simp only [push_cast,Nat.reduceAdd,Nat.reduceSub,Nat.reduceMul,Nat.reduceLeDiff,Nat.reduceLT,Nat.reduceEqDiff,↓reduceIte,reduceCtorEq,Int.reduceBEq,Int.reduceBNe,Nat.reduceBEq,Int.reduceLE,Int.reduceLT,Int.reduceEq,Int.reduceNe,Int.reduceNeg,Nat.reduceDiv,Nat.reduceMod,Nat.reducePow,Za,ax61,bx61,cx61,g62,hN0,hN]
     repeat (with_reducible refine And.intro (by first | omega | exact Y2 rfl | exact Yx | exact Vm rfl rfl) ?_)
     first | refine PCallA.of (fun _ _=>Qx hy63) ?_ | refine PCall.of (Qx hy63) ?_
     simp only [push_cast,Nat.reduceAdd,Nat.reduceSub,Nat.reduceMul,Nat.reduceLeDiff,Nat.reduceLT,Nat.reduceEqDiff,↓reduceIte,reduceCtorEq,Int.reduceBEq,Int.reduceBNe,Nat.reduceBEq,Int.reduceLE,Int.reduceLT,Int.reduceEq,Int.reduceNe,Int.reduceNeg,Nat.reduceDiv,Nat.reduceMod,Nat.reducePow,Za,ax61,bx61,cx61,g62,hN0,hN]
     repeat (with_reducible refine And.intro (by first | omega | exact Y2 rfl | exact Yx | exact Vm rfl rfl) ?_)
     refine Zj [2,3,4,6,8,11,15,16,17,18] [true,true,true,true,true,false,true,false,true,true] ?_
     simp only [push_cast,seval,↓reduceIte]
     refine Zl ?_
     refine Zq [2,3,4,6,8,11,15,16,17,163] (Zc Ze [] ?_)
     simp only [push_cast,seval,↓reduceIte,Za,hN0,hN]
     refine Zs (t:=(!y63.2)) rfl (fun c64 => ?_) (fun c64 => ?_)
     ·replace hz49:=Zu c64 hz49
      refine Zl ?_
      refine Zc Ze [] ?_
      simp only [push_cast,seval,↓reduceIte,Za,hN0,hN]
      refine Zj [4,5] [false,false,true,false,false,false,false,false,false,false] ?_
      simp only [push_cast,seval,↓reduceIte]
      refine Z4 ?_
      try simp only [Zk,Zh]
      have hz49:=Option.some.inj hz49;subst hz49
      refine And.intro rfl (Fit2.of (Zi hU rfl rfl ?_) (by omega))
      simp only [push_cast,seval,↓reduceIte,Za,hN0,hN]
     replace hz49:=Zt c64 hz49
     refine Zz ?_
     try simp only [Zk,Zh]
     refine Zj [2,3,4,6,8,11,15,16,17] [true,true,true,true,true,false,true,false,true,true] ?_
     simp only [push_cast,seval,↓reduceIte]
     refine Zl ?_
     refine Zc Ze [] ?_
     simp only [push_cast,seval,↓reduceIte,Za,hN0,hN]
     refine Zj [2,3,4,6,8,11,15,16] [true,true,true,true,true,false,true,false,true,false] ?_
     simp only [push_cast,seval,↓reduceIte]
     refine Zc Ze [] ?_
     simp only [push_cast,seval,↓reduceIte,Za,hN0,hN]
     have hz49:=Option.some.inj hz49;subst hz49
     refine And.intro rfl (Fit2.of (Zi hU rfl rfl ?_) (by omega))
     simp only [push_cast,seval,↓reduceIte,Za,hN0,hN]
    replace hz49:=Zt c65 hz49
    refine Zz ?_
    try simp only [Zk,Zh]
    have hz49:=Option.some.inj hz49;subst hz49
    refine And.intro rfl (Fit2.of (Zi hU rfl rfl ?_) (by omega))
    simp only [push_cast,seval,↓reduceIte,Za,hN0,hN]
   rcases z49 with z49 | z49
   ·dsimp only [Xb] at hw hs1_
    refine Y1 hw ?_
    obtain ⟨l66,pl66,ql66,el66,hs1_⟩:=bA (k:=1) rfl hs1_
    refine Zc Ze [] ?_
    simp only [push_cast,seval,↓reduceIte,Za,pl66,ql66,el66,hN0,hN]
    refine Zfe ⟨175,[],[(2,.ref n 0),(3,.ref (n+1) 0),(4,.ref (n+2) 0),(6,.ref (n+3) 0),(8,.val (.int .i64 z13)),(11,.val (.int .i64 z49.1)),(15,.val (.int .i64 s1_.2.1))]⟩ (Zx O n [some ⟨false,54,11,1,(Zf a0)⟩,some ⟨false,25,3,1,(Zd a1)⟩,some ⟨false,25,3,1,[.val (.int .i64 0),.val (.slice none 0 0),.val (.slice none 0 0)]⟩,some ⟨false,25,3,1,[.val (.int .i64 1),.row (n+4) z46.length,.row (n+6) l66.length]⟩,some ⟨true,71,1,z46.length,fl (eI .u64) z46⟩,none,some ⟨true,25,3,l66.length,fl Zb l66⟩,none,none,none,none]) (Zi hU rfl rfl ?_) ?_
    ·simp only [push_cast,seval,↓reduceIte,Za,pl66,ql66,el66,hN0,hN]
    refine Zc Ze [] ?_
    simp only [push_cast,seval,↓reduceIte,Za,hN0,hN]
    have hs1_:=Option.some.inj hs1_;subst hs1_
    refine And.intro rfl (Fit2.of (Zi hU rfl rfl ?_) (by omega))
    simp only [push_cast,seval,↓reduceIte,Za,hN0,hN]
   dsimp only [Xb] at hw hs1_
   refine Zth hw ?_
   try simp only [Zk,Zh]
   have hs1_:=Option.some.inj hs1_;subst hs1_
   refine And.intro (fun h=>by cases h) (And.intro rfl (Fit2.of (Zi hU rfl rfl ?_) (by omega)))
   simp only [push_cast,seval,↓reduceIte,Za,hN0,hN]
  replace hs1_:=Zt c67 hs1_
  refine Xt ?_
  try simp only [Zk,Zh,↓reduceIte,Nat.reduceEqDiff]
  have hs1_:=Option.some.inj hs1_;subst hs1_
  refine And.intro (fun h=>by cases h) (And.intro rfl (Fit2.of (Zi hU rfl rfl ?_) (by omega)))
  simp only [push_cast,seval,↓reduceIte,Za,hN0,hN]
 rcases z68 with z68 | z68
 ·dsimp only [Xb] at hw h
  refine Q2 hw ?_
  try simp only [Zk,Zh,↓reduceIte,Nat.reduceEqDiff]
  have h:=Option.some.inj h;subst h
  refine Zr (.inr rfl) hU [.agg [.val (.int .i64 0),.val (.slice none 0 0),.val (.slice none 0 0)],.val (.bool false)] (by omega) ?_
  simp only [push_cast,seval,↓reduceIte,Za,Try.results87,hN0,hN]
 dsimp only [Xb] at hw h
 refine Yv hw ?_
 try simp only [Zk,Zh,↓reduceIte,Nat.reduceEqDiff]
 refine Zj [4,6] [false,false,true,true,true,false,true,false] ?_
 simp only [push_cast,seval,↓reduceIte]
 refine Zl ?_
 refine Zc Ze [] ?_
 simp only [push_cast,seval,↓reduceIte,Za,hN0,hN]
 refine Zj [4,5] [false,false,true,false,true,false,true,false] ?_
 simp only [push_cast,seval,↓reduceIte]
 refine Z4 ?_
 try simp only [Zk,Zh]
 have h:=Option.some.inj h;subst h
 refine Zr (.inr rfl) hU [.agg [.val (.int .i64 1),.row (n+4) z46.length,.row (n+6) z68.length],.val (.bool true)] (by omega) ?_
 simp only [push_cast,seval,↓reduceIte,Za,Try.results87,hN0,hN]
theorem Zks {Ym:(S_api_Edit→S_api_Tree→Option (S_api_Tree×Bool))} {Yp:(S_api_Edit→S_api_Tree→Option (S_api_Tree×Bool))} {Y4:(S_api_Edit→S_api_Tree→Option (S_api_Tree×Bool))} (Qx:∀ {a0:S_api_Edit} {a1:S_api_Tree} {r:(S_api_Tree×Bool)} {O:Objs} {n:Nat},Ym a0 a1=some r→GTo Try.prog 57 [.agg (Zf a0),.agg (Zd a1)] O n (.tup [.agg (Zd r.1),.val (.bool r.2)]) O n) (V1:∀ {a0:S_api_Edit} {a1:S_api_Tree} {r:(S_api_Tree×Bool)} {O:Objs} {n:Nat},Yp a0 a1=some r→GTo Try.prog 87 [.agg (Zf a0),.agg (Zd a1)] O n (.tup [.agg (Zd r.1),.val (.bool r.2)]) O n) (Zal:∀ {a0:S_api_Edit} {a1:S_api_Tree} {r:(S_api_Tree×Bool)} {O:Objs} {n:Nat},Y4 a0 a1=some r→GTo Try.prog 88 [.agg (Zf a0),.agg (Zd a1)] O n (.tup [.agg (Zd r.1),.val (.bool r.2)]) O n) {a0:S_api_Edit} {a1:S_api_Tree} {r:(S_api_Tree×Bool)} {O:Objs} {n:Nat} (h:Ub Ym Yp Y4 a0 a1=some r):GTo Try.prog 88 [.agg (Zf a0),.agg (Zd a1)] O n (.tup [.agg (Zd r.1),.val (.bool r.2)]) O n:=by
 unfold Ub at h
 refine Xl Ze Try.call88 Try.func88 rfl (Nat.le_of_ble_eq_true rfl) (Nat.le_refl _) fun hU => ?_
 have hN0:O n=none:=hU.fresh _ (Nat.le_refl _)
 have hN:∀ k,O (n+k)=none:=fun k=>hU.fresh _ (Nat.le_add_right _ _)
 show W _ _ _ _ ⟨143,[],[(0,.agg (Zf a0)),(1,.agg (Zd a1))]⟩ (Zx O n []) _
 refine Zq [2,3,4] (Zc Ze [] ?_)
 simp only [push_cast,seval,↓reduceIte,Za,hN0,hN]
 refine Zl ?_
 refine Zq [2,3,4,18] (Zc Ze [] ?_)
 simp only [push_cast,seval,↓reduceIte,Za,hN0,hN]
 refine Zs (t:=(a1.Kind != a0.List_)) rfl (fun c42 => ?_) (fun c42 => ?_)
 ·replace h:=Zu c42 h
  refine Zl ?_
  refine Zc Ze [] ?_
  simp only [push_cast,seval,↓reduceIte,Za,hN0,hN]
  refine Zj [4,5] [false,false,true] ?_
  simp only [push_cast,seval,↓reduceIte]
  refine Z4 ?_
  try simp only [Zk,Zh]
  have h:=Option.some.inj h;subst h
  refine Zr (.inr rfl) hU [.agg [.val (.int .i64 0),.val (.slice none 0 0),.val (.slice none 0 0)],.val (.bool false)] (by omega) ?_
  simp only [push_cast,seval,↓reduceIte,Za,Try.results88,hN0,hN]
 replace h:=Zt c42 h
 refine Zz ?_
 try simp only [Zk,Zh]
 refine Zj [2,3,4] [true,true,true] ?_
 simp only [push_cast,seval,↓reduceIte]
 refine Zl ?_
 refine Zc Ze [] ?_
 simp only [push_cast,seval,↓reduceIte,Za,hN0,hN]
 refine Zj [2,3,4,6] [true,true,true,true] ?_
 simp only [push_cast,seval,↓reduceIte]
 refine Zq [2,3,4,6,7] (Zc Ze [] ?_)
 simp only [push_cast,seval,↓reduceIte,Za,hN0,hN]
 refine Zl ?_
 refine Zq [2,3,4,6,7,8] (Zc Ze [] ?_)
 simp only [push_cast,seval,↓reduceIte,Za,hN0,hN]
 refine Zj [2,3,4,6,7,8] [true,true,true,true] ?_
 simp only [push_cast,seval,↓reduceIte]
 refine Zcf (E':=(⟨143,[],[(2,.ref n 0),(3,.ref (n+1) 0),(4,.ref (n+2) 0),(6,.ref (n+3) 0),(7,.val (.int .i64 0)),(8,.val (.int .i64 0))]⟩:Env)) (O':=(Zx O n [some ⟨false,54,11,1,(Zf a0)⟩,some ⟨false,25,3,1,(Zd a1)⟩,some ⟨false,25,3,1,[.val (.int .i64 0),.val (.slice none 0 0),.val (.slice none 0 0)]⟩,some ⟨false,25,3,1,[.val (.int .i64 a1.Kind),.val (.slice none 0 0),.row (n+4) ([]:List S_api_Tree).length]⟩,some ⟨true,25,3,([]:List S_api_Tree).length,fl Zb ([]:List S_api_Tree)⟩,none])) (n':=(n+6)) ?_ ?_
 ·refine Fit2.trans (E':=(⟨143,[],[(2,.ref n 0),(3,.ref (n+1) 0),(4,.ref (n+2) 0),(6,.ref (n+3) 0),(7,.val (.int .i64 0)),(8,.val (.int .i64 0))]⟩:Env)) (O':=(Zx O n [some ⟨false,54,11,1,(Zf a0)⟩,some ⟨false,25,3,1,(Zd a1)⟩,some ⟨false,25,3,1,[.val (.int .i64 0),.val (.slice none 0 0),.val (.slice none 0 0)]⟩,some ⟨false,25,3,1,[.val (.int .i64 a1.Kind),.val (.slice none 0 0),.val (.slice none 0 0)]⟩])) (n':=(n+4)) (Fit2.of (Zi hU rfl rfl ?_) (by omega)) ?_
  ·simp only [push_cast,seval,↓reduceIte,Za,hN0,hN]
  refine Fit2.trans (E':=(⟨143,[],[(2,.ref n 0),(3,.ref (n+1) 0),(4,.ref (n+2) 0),(6,.ref (n+3) 0),(7,.val (.int .i64 0)),(8,.val (.int .i64 0))]⟩:Env)) (O':=(Zx O n [some ⟨false,54,11,1,(Zf a0)⟩,some ⟨false,25,3,1,(Zd a1)⟩,some ⟨false,25,3,1,[.val (.int .i64 0),.val (.slice none 0 0),.val (.slice none 0 0)]⟩,some ⟨false,25,3,1,[.val (.int .i64 a1.Kind),.val (.slice none 0 0),.row (n+4) 0]⟩,some ⟨true,25,3,0,[]⟩])) (n':=(n+5)) ?_ ?_
  ·have ha:=Zd3 (ba:=n) (E:=(⟨143,[],[(2,.ref n 0),(3,.ref (n+1) 0),(4,.ref (n+2) 0),(6,.ref (n+3) 0),(7,.val (.int .i64 0)),(8,.val (.int .i64 0))]⟩:Env)) (O:=(Zx O n [some ⟨false,54,11,1,[.val (.int .i64 a0.Kind),.val (.int .i64 a0.Old.Kind),.sl a0.Old.Words.length (fl (eI .u64) a0.Old.Words),.sl a0.Old.Kids.length (fl Zb a0.Old.Kids),.val (.int .i64 a0.New.Kind),.sl a0.New.Words.length (fl (eI .u64) a0.New.Words),.sl a0.New.Kids.length (fl Zb a0.New.Kids),.sl a0.Words.length (fl Zm a0.Words),.sl a0.Kids.length (fl Zo a0.Kids),.val (.int .i64 a0.List_),.sl a0.Ops.length (fl Zy a0.Ops)]⟩,some ⟨false,25,3,1,[.val (.int .i64 a1.Kind),.sl a1.Words.length (fl (eI .u64) a1.Words),.sl a1.Kids.length (fl Zb a1.Kids)]⟩,some ⟨false,25,3,1,[.val (.int .i64 0),.val (.slice none 0 0),.val (.slice none 0 0)]⟩,some ⟨false,25,3,1,[.val (.int .i64 a1.Kind),.val (.slice none 0 0),.val (.slice none 0 0)]⟩])) (n:=(n+4)) (p:=(n+3)) (k:=2) (q:=⟨false,25,3,1,[.val (.int .i64 a1.Kind),.val (.slice none 0 0),.val (.slice none 0 0)]⟩) 25 3 (by simp only [Ge,Zcs,List.getElem?_cons_zero,List.getElem?_cons_succ,Option.join_some,Yz]) rfl (by omega)
   simp only [J3,Ql,Za7,Zab,List.set_cons_zero,List.set_cons_succ,List.cons_append,List.nil_append,List.length_cons,List.length_nil,Nat.zero_add,Nat.reduceAdd,Nat.reduceLT,Nat.add_assoc] at ha
   exact ha
  refine Fit2.trans (E':=(⟨143,[],[(2,.ref n 0),(3,.ref (n+1) 0),(4,.ref (n+2) 0),(6,.ref (n+3) 0),(7,.val (.int .i64 0)),(8,.val (.int .i64 0))]⟩:Env)) (O':=(Zx O n [some ⟨false,54,11,1,(Zf a0)⟩,some ⟨false,25,3,1,(Zd a1)⟩,some ⟨false,25,3,1,[.val (.int .i64 0),.val (.slice none 0 0),.val (.slice none 0 0)]⟩,some ⟨false,25,3,1,[.val (.int .i64 a1.Kind),.val (.slice none 0 0),.row (n+4) ([]:List S_api_Tree).length]⟩,some ⟨true,25,3,([]:List S_api_Tree).length,fl Zb ([]:List S_api_Tree)⟩])) (n':=(n+5)) (Fit2.of (Zi hU rfl rfl ?_) (by omega)) ?_
  ·simp only [push_cast,seval,↓reduceIte,Za,hN0,hN]
  refine Zaa (k:=5) (k':=6) hU [0,1,2,3,4] [0,1,2,3,4,0] rfl rfl rfl rfl ⟨rfl,rfl⟩ ?_
  simp only [push_cast,seval,↓reduceIte,Za,hN0,hN]
 obtain ⟨z41,hz41,h⟩:=bC h
 refine Gf (J:=(Xb (fun z41=>JR n (⟨143,[],[(4,.ref (n+2) 0),(5,.val (.bool false))]⟩:Env) (Zx O n [none,none,some ⟨false,25,3,1,[.val (.int .i64 0),.val (.slice none 0 0),.val (.slice none 0 0)]⟩,none]) (n+4)) (fun z41=>JX 0 n (⟨143,[],[(3,.ref (n+1) 0),(4,.ref (n+2) 0),(6,.ref (n+3) 0),(7,.val (.int .i64 z41.1))]⟩:Env) (Zx O n [none,some ⟨false,25,3,1,(Zd a1)⟩,some ⟨false,25,3,1,[.val (.int .i64 0),.val (.slice none 0 0),.val (.slice none 0 0)]⟩,some ⟨false,25,3,1,[.val (.int .i64 a1.Kind),.val (.slice none 0 0),.row (n+4) z41.2.length]⟩,some ⟨true,25,3,z41.2.length,fl Zb z41.2⟩,none]) (n+6)))) (z:=z41) ?_ fun hw => ?_
 ·refine Y6 hz41 (fun s0_=>⟨143,[],[(2,.ref n 0),(3,.ref (n+1) 0),(4,.ref (n+2) 0),(6,.ref (n+3) 0),(7,.val (.int .i64 s0_.1)),(8,.val (.int .i64 s0_.2.1))]⟩) (fun s0_=>(Zx O n [some ⟨false,54,11,1,(Zf a0)⟩,some ⟨false,25,3,1,(Zd a1)⟩,some ⟨false,25,3,1,[.val (.int .i64 0),.val (.slice none 0 0),.val (.slice none 0 0)]⟩,some ⟨false,25,3,1,[.val (.int .i64 a1.Kind),.val (.slice none 0 0),.row (n+4) s0_.2.2.length]⟩,some ⟨true,25,3,s0_.2.2.length,fl Zb s0_.2.2⟩,none])) (Xb (fun z41=>JR n (⟨143,[],[(4,.ref (n+2) 0),(5,.val (.bool false))]⟩:Env) (Zx O n [none,none,some ⟨false,25,3,1,[.val (.int .i64 0),.val (.slice none 0 0),.val (.slice none 0 0)]⟩,none]) (n+4)) (fun z41=>JX 0 n (⟨143,[],[(3,.ref (n+1) 0),(4,.ref (n+2) 0),(6,.ref (n+3) 0),(7,.val (.int .i64 z41.1))]⟩:Env) (Zx O n [none,some ⟨false,25,3,1,(Zd a1)⟩,some ⟨false,25,3,1,[.val (.int .i64 0),.val (.slice none 0 0),.val (.slice none 0 0)]⟩,some ⟨false,25,3,1,[.val (.int .i64 a1.Kind),.val (.slice none 0 0),.row (n+4) z41.2.length]⟩,some ⟨true,25,3,z41.2.length,fl Zb z41.2⟩,none]) (n+6))) ?_
  intro s0_ x0_ hs0_
  unfold Yc at hs0_
  try dsimp only
  refine Zl ?_
  refine Zq [2,3,4,6,7,8,27] (Zc Ze [] ?_)
  simp only [push_cast,seval,↓reduceIte,Za,hN0,hN]
  refine Zs (t:=(decide (s0_.2.1 < (a0.Ops.length:Int)))) rfl (fun c40 => ?_) (fun c40 => ?_)
  ·replace hs0_:=Zu c40 hs0_
   refine Zz ?_
   try simp only [Zk,Zh]
   refine Zj [2,3,4,6,7,8] [true,true,true,true,true,false] ?_
   simp only [push_cast,seval,↓reduceIte]
   obtain ⟨z1,hz1,hs0_⟩:=bC hs0_
   refine Zyc (J:=(Xb (fun z1=>JN n (⟨143,[],[(2,.ref n 0),(3,.ref (n+1) 0),(4,.ref (n+2) 0),(6,.ref (n+3) 0),(7,.val (.int .i64 z1.1)),(8,.val (.int .i64 s0_.2.1))]⟩:Env) (Zx O n [some ⟨false,54,11,1,(Zf a0)⟩,some ⟨false,25,3,1,(Zd a1)⟩,some ⟨false,25,3,1,[.val (.int .i64 0),.val (.slice none 0 0),.val (.slice none 0 0)]⟩,some ⟨false,25,3,1,[.val (.int .i64 a1.Kind),.val (.slice none 0 0),.row (n+4) z1.2.length]⟩,some ⟨true,25,3,z1.2.length,fl Zb z1.2⟩,none,none,none,none]) (n+9)) (fun z1=>JR n (⟨143,[],[(4,.ref (n+2) 0),(5,.val (.bool false))]⟩:Env) (Zx O n [none,none,some ⟨false,25,3,1,[.val (.int .i64 0),.val (.slice none 0 0),.val (.slice none 0 0)]⟩,none,none,none]) (n+6)))) (z:=z1) ?_ fun hw => ?_
   ·refine Yw ?_
    refine Zl ?_
    obtain ⟨x3,hx3,ax3,bx3,cx3,hz1⟩:=bE (f:=Zy) Zg4 (fun _=>rfl) (by decide) hz1
    refine Zc Ze [] ?_
    simp only [push_cast,Nat.reduceAdd,Nat.reduceSub,Nat.reduceMul,Nat.reduceLeDiff,Nat.reduceLT,Nat.reduceEqDiff,↓reduceIte,reduceCtorEq,Int.reduceBEq,Int.reduceBNe,Nat.reduceBEq,Int.reduceLE,Int.reduceLT,Int.reduceEq,Int.reduceNe,Int.reduceNeg,Nat.reduceDiv,Nat.reduceMod,Nat.reducePow,Za,ax3,bx3,cx3,hN0,hN]
    refine Zj [2,3,4,6,7,8,9] [true,true,true,true,true,false,true] ?_
    simp only [push_cast,seval,↓reduceIte]
    refine Zl ?_
    refine Zq [2,3,4,6,7,8,9,10] (Zc Ze [] ?_)
    simp only [push_cast,seval,↓reduceIte,Za,hN0,hN]
    refine Zj [2,3,4,6,7,8,9,10] [true,true,true,true,true,false,true] ?_
    simp only [push_cast,seval,↓reduceIte]
    obtain ⟨z10,hz10,hz1⟩:=bC hz1
    refine Gf (J:=(Xb (fun z10=>JR n (⟨143,[],[(4,.ref (n+2) 0),(5,.val (.bool false))]⟩:Env) (Zx O n [none,none,some ⟨false,25,3,1,[.val (.int .i64 0),.val (.slice none 0 0),.val (.slice none 0 0)]⟩,none,none,none,none]) (n+7)) (fun z10=>JX 2 n (⟨143,[],[(2,.ref n 0),(3,.ref (n+1) 0),(4,.ref (n+2) 0),(6,.ref (n+3) 0),(7,.val (.int .i64 z10.1)),(8,.val (.int .i64 s0_.2.1)),(9,.ref (n+6) 0)]⟩:Env) (Zx O n [some ⟨false,54,11,1,(Zf a0)⟩,some ⟨false,25,3,1,(Zd a1)⟩,some ⟨false,25,3,1,[.val (.int .i64 0),.val (.slice none 0 0),.val (.slice none 0 0)]⟩,some ⟨false,25,3,1,[.val (.int .i64 a1.Kind),.val (.slice none 0 0),.row (n+4) z10.2.length]⟩,some ⟨true,25,3,z10.2.length,fl Zb z10.2⟩,none,some ⟨false,64,14,1,(Ye x3)⟩]) (n+7)))) (z:=z10) ?_ fun hw => ?_
    ·refine Y6 hz10 (fun s1_=>⟨143,[],[(2,.ref n 0),(3,.ref (n+1) 0),(4,.ref (n+2) 0),(6,.ref (n+3) 0),(7,.val (.int .i64 s1_.1)),(8,.val (.int .i64 s0_.2.1)),(9,.ref (n+6) 0),(10,.val (.int .i64 s1_.2.1))]⟩) (fun s1_=>(Zx O n [some ⟨false,54,11,1,(Zf a0)⟩,some ⟨false,25,3,1,(Zd a1)⟩,some ⟨false,25,3,1,[.val (.int .i64 0),.val (.slice none 0 0),.val (.slice none 0 0)]⟩,some ⟨false,25,3,1,[.val (.int .i64 a1.Kind),.val (.slice none 0 0),.row (n+4) s1_.2.2.length]⟩,some ⟨true,25,3,s1_.2.2.length,fl Zb s1_.2.2⟩,none,some ⟨false,64,14,1,(Ye x3)⟩])) (Xb (fun z10=>JR n (⟨143,[],[(4,.ref (n+2) 0),(5,.val (.bool false))]⟩:Env) (Zx O n [none,none,some ⟨false,25,3,1,[.val (.int .i64 0),.val (.slice none 0 0),.val (.slice none 0 0)]⟩,none,none,none,none]) (n+7)) (fun z10=>JX 2 n (⟨143,[],[(2,.ref n 0),(3,.ref (n+1) 0),(4,.ref (n+2) 0),(6,.ref (n+3) 0),(7,.val (.int .i64 z10.1)),(8,.val (.int .i64 s0_.2.1)),(9,.ref (n+6) 0)]⟩:Env) (Zx O n [some ⟨false,54,11,1,(Zf a0)⟩,some ⟨false,25,3,1,(Zd a1)⟩,some ⟨false,25,3,1,[.val (.int .i64 0),.val (.slice none 0 0),.val (.slice none 0 0)]⟩,some ⟨false,25,3,1,[.val (.int .i64 a1.Kind),.val (.slice none 0 0),.row (n+4) z10.2.length]⟩,some ⟨true,25,3,z10.2.length,fl Zb z10.2⟩,none,some ⟨false,64,14,1,(Ye x3)⟩]) (n+7))) ?_
     intro s1_ x1_ hs1_
     unfold Xa at hs1_
     try dsimp only
     refine Zl ?_
     refine Zq [2,3,4,6,7,8,9,10,43] (Zc Ze [none,none,none] ?_)
     simp only [push_cast,seval,↓reduceIte,Za,hN0,hN]
     repeat (with_reducible refine And.intro (by first | (intro h0;simp only [h0,and_self];done) | (intro h0;simp only [h0,Bool.not_false,Bool.not_true,Bool.true_and,Bool.and_true,true_and,and_true,and_self,imp_self,implies_true,bne_iff_ne,ne_eq,beq_iff_eq];done) | (intros;simp_all;done) | exact True.intro) ?_)
     refine Zs (t:=(cond (decide (s1_.2.1 < x3.N)) (x3.Kind == 0) false)) rfl (fun c9 => ?_) (fun c9 => ?_)
     ·replace hs1_:=Zu c9 hs1_
      refine Zz ?_
      try simp only [Zk,Zh]
      refine Zj [2,3,4,6,7,8,9,10] [true,true,true,true,true,false,true] ?_
      simp only [push_cast,seval,↓reduceIte]
      refine Zl ?_
      refine Yw ?_
      refine Zl ?_
      refine Zq [2,3,4,6,7,8,9,10,50] (Zc Ze [] ?_)
      simp only [push_cast,seval,↓reduceIte,Za,hN0,hN]
      refine Zs (t:=(decide ((a1.Kids.length:Int)≤s1_.1))) rfl (fun c8 => ?_) (fun c8 => ?_)
      ·replace hs1_:=Zu c8 hs1_
       refine Zl ?_
       refine Zc Ze [] ?_
       simp only [push_cast,seval,↓reduceIte,Za,hN0,hN]
       refine Zj [4,5] [false,false,true,false,false,false,false] ?_
       simp only [push_cast,seval,↓reduceIte]
       refine Z4 ?_
       try simp only [Zk,Zh]
       have hs1_:=Option.some.inj hs1_;subst hs1_
       refine And.intro (fun h=>by cases h) (And.intro rfl (Fit2.of (Zi hU rfl rfl ?_) (by omega)))
       simp only [push_cast,seval,↓reduceIte,Za,hN0,hN]
      replace hs1_:=Zt c8 hs1_
      refine Zz ?_
      try simp only [Zk,Zh]
      refine Zj [2,3,4,6,7,8,9,10] [true,true,true,true,true,false,true] ?_
      simp only [push_cast,seval,↓reduceIte]
      refine Zl ?_
      obtain ⟨x6,hx6,ax6,bx6,cx6,hs1_⟩:=bE (f:=Zb) Ki (fun _=>rfl) (by decide) hs1_
      obtain ⟨l7,pl7,ql7,el7,hs1_⟩:=bA (k:=1) rfl hs1_
      refine Zct Ze (by kernel_rfl) [.low,.low,.plain,.plain,.plain,.plain,.plain,.pass,.bar,.plain,.bar] (fun i=>i < (n+7)) [0,1,2,3,4,5,6,7,8,9,10] [.low,.low,.plain,.plain,.plain,.plain,.plain,.pass,.bar,.plain,.bar] [] (by kernel_rfl) rfl ?_
      simp only [push_cast,Nat.reduceAdd,Nat.reduceSub,Nat.reduceMul,Nat.reduceLeDiff,Nat.reduceLT,Nat.reduceEqDiff,↓reduceIte,reduceCtorEq,Int.reduceBEq,Int.reduceBNe,Nat.reduceBEq,Int.reduceLE,Int.reduceLT,Int.reduceEq,Int.reduceNe,Int.reduceNeg,Nat.reduceDiv,Nat.reduceMod,Nat.reducePow,Za,ax6,bx6,cx6,pl7,ql7,el7,hN0,hN]
      repeat (with_reducible refine And.intro (by first | omega | exact Y2 rfl | exact Yx | exact Vm rfl rfl) ?_)
      refine Zfe ⟨143,[],[(2,.ref n 0),(3,.ref (n+1) 0),(4,.ref (n+2) 0),(6,.ref (n+3) 0),(7,.val (.int .i64 s1_.1)),(8,.val (.int .i64 s0_.2.1)),(9,.ref (n+6) 0),(10,.val (.int .i64 s1_.2.1))]⟩ (Zx O n [some ⟨false,54,11,1,(Zf a0)⟩,some ⟨false,25,3,1,(Zd a1)⟩,some ⟨false,25,3,1,[.val (.int .i64 0),.val (.slice none 0 0),.val (.slice none 0 0)]⟩,some ⟨false,25,3,1,[.val (.int .i64 a1.Kind),.val (.slice none 0 0),.row (n+4) l7.length]⟩,some ⟨true,25,3,l7.length,fl Zb l7⟩,none,some ⟨false,64,14,1,(Ye x3)⟩,none]) (Zi hU rfl rfl ?_) ?_
      ·simp only [push_cast,Nat.reduceAdd,Nat.reduceSub,Nat.reduceMul,Nat.reduceLeDiff,Nat.reduceLT,Nat.reduceEqDiff,↓reduceIte,reduceCtorEq,Int.reduceBEq,Int.reduceBNe,Nat.reduceBEq,Int.reduceLE,Int.reduceLT,Int.reduceEq,Int.reduceNe,Int.reduceNeg,Nat.reduceDiv,Nat.reduceMod,Nat.reducePow,Za,ax6,bx6,cx6,pl7,ql7,el7,hN0,hN]
      refine Zc Ze [] ?_
      simp only [push_cast,seval,↓reduceIte,Za,hN0,hN]
      refine Zj [2,3,4,6,7,8,9,10] [true,true,true,true,true,false,true,false] ?_
      simp only [push_cast,seval,↓reduceIte]
      refine Zc Ze [] ?_
      simp only [push_cast,seval,↓reduceIte,Za,hN0,hN]
      have hs1_:=Option.some.inj hs1_;subst hs1_
      refine And.intro rfl (Fit2.of (Zi hU rfl rfl ?_) (by omega))
      simp only [push_cast,seval,↓reduceIte,Za,hN0,hN]
     replace hs1_:=Zt c9 hs1_
     refine Xt ?_
     try simp only [Zk,Zh,↓reduceIte,Nat.reduceEqDiff]
     have hs1_:=Option.some.inj hs1_;subst hs1_
     refine And.intro (fun h=>by cases h) (And.intro rfl (Fit2.of (Zi hU rfl rfl ?_) (by omega)))
     simp only [push_cast,seval,↓reduceIte,Za,hN0,hN]
    rcases z10 with z10 | z10
    ·dsimp only [Xb] at hw hz1
     refine Q2 hw ?_
     try simp only [Zk,Zh,↓reduceIte,Nat.reduceEqDiff]
     have hz1:=Option.some.inj hz1;subst hz1
     refine And.intro rfl (Fit2.of (Zi hU rfl rfl ?_) (by omega))
     simp only [push_cast,seval,↓reduceIte,Za,hN0,hN]
    dsimp only [Xb] at hw hz1
    refine Yv hw ?_
    try simp only [Zk,Zh,↓reduceIte,Nat.reduceEqDiff]
    refine Zj [2,3,4,6,7,8,9] [true,true,true,true,true,false,true] ?_
    simp only [push_cast,seval,↓reduceIte]
    refine Zl ?_
    refine Zq [2,3,4,6,7,8,9,11] (Zc Ze [] ?_)
    simp only [push_cast,seval,↓reduceIte,Za,hN0,hN]
    refine Zj [2,3,4,6,7,8,9,11] [true,true,true,true,true,false,true] ?_
    simp only [push_cast,seval,↓reduceIte]
    obtain ⟨z30,hz30,hz1⟩:=bC hz1
    refine Gf (J:=(Xb (fun z30=>JR n (⟨143,[],[(4,.ref (n+2) 0),(5,.val (.bool false))]⟩:Env) (Zx O n [none,none,some ⟨false,25,3,1,[.val (.int .i64 0),.val (.slice none 0 0),.val (.slice none 0 0)]⟩,none,none,none,none]) (n+7)) (fun z30=>JX 4 n (⟨143,[],[(2,.ref n 0),(3,.ref (n+1) 0),(4,.ref (n+2) 0),(6,.ref (n+3) 0),(7,.val (.int .i64 z30.1)),(8,.val (.int .i64 s0_.2.1)),(9,.ref (n+6) 0)]⟩:Env) (Zx O n [some ⟨false,54,11,1,(Zf a0)⟩,some ⟨false,25,3,1,(Zd a1)⟩,some ⟨false,25,3,1,[.val (.int .i64 0),.val (.slice none 0 0),.val (.slice none 0 0)]⟩,some ⟨false,25,3,1,[.val (.int .i64 a1.Kind),.val (.slice none 0 0),.row (n+4) z30.2.length]⟩,some ⟨true,25,3,z30.2.length,fl Zb z30.2⟩,none,some ⟨false,64,14,1,(Ye x3)⟩]) (n+7)))) (z:=z30) ?_ fun hw => ?_
    ·refine Y6 hz30 (fun s2_=>⟨143,[],[(2,.ref n 0),(3,.ref (n+1) 0),(4,.ref (n+2) 0),(6,.ref (n+3) 0),(7,.val (.int .i64 s2_.1)),(8,.val (.int .i64 s0_.2.1)),(9,.ref (n+6) 0),(11,.val (.int .i64 s2_.2.1))]⟩) (fun s2_=>(Zx O n [some ⟨false,54,11,1,(Zf a0)⟩,some ⟨false,25,3,1,(Zd a1)⟩,some ⟨false,25,3,1,[.val (.int .i64 0),.val (.slice none 0 0),.val (.slice none 0 0)]⟩,some ⟨false,25,3,1,[.val (.int .i64 a1.Kind),.val (.slice none 0 0),.row (n+4) s2_.2.2.length]⟩,some ⟨true,25,3,s2_.2.2.length,fl Zb s2_.2.2⟩,none,some ⟨false,64,14,1,(Ye x3)⟩])) (Xb (fun z30=>JR n (⟨143,[],[(4,.ref (n+2) 0),(5,.val (.bool false))]⟩:Env) (Zx O n [none,none,some ⟨false,25,3,1,[.val (.int .i64 0),.val (.slice none 0 0),.val (.slice none 0 0)]⟩,none,none,none,none]) (n+7)) (fun z30=>JX 4 n (⟨143,[],[(2,.ref n 0),(3,.ref (n+1) 0),(4,.ref (n+2) 0),(6,.ref (n+3) 0),(7,.val (.int .i64 z30.1)),(8,.val (.int .i64 s0_.2.1)),(9,.ref (n+6) 0)]⟩:Env) (Zx O n [some ⟨false,54,11,1,(Zf a0)⟩,some ⟨false,25,3,1,(Zd a1)⟩,some ⟨false,25,3,1,[.val (.int .i64 0),.val (.slice none 0 0),.val (.slice none 0 0)]⟩,some ⟨false,25,3,1,[.val (.int .i64 a1.Kind),.val (.slice none 0 0),.row (n+4) z30.2.length]⟩,some ⟨true,25,3,z30.2.length,fl Zb z30.2⟩,none,some ⟨false,64,14,1,(Ye x3)⟩]) (n+7))) ?_
     intro s2_ x2_ hs2_
     unfold Yl at hs2_
     try dsimp only
     refine Zl ?_
     refine Zq [2,3,4,6,7,8,9,11,68] (Zc Ze [] ?_)
     simp only [push_cast,seval,↓reduceIte,Za,hN0,hN]
     refine Zs (t:=(decide (s2_.2.1 < (x3.L.length:Int)))) rfl (fun c29 => ?_) (fun c29 => ?_)
     ·replace hs2_:=Zu c29 hs2_
      refine Zz ?_
      try simp only [Zk,Zh]
      refine Zj [2,3,4,6,7,8,9,11] [true,true,true,true,true,false,true] ?_
      simp only [push_cast,seval,↓reduceIte]
      obtain ⟨z11,hz11,hs2_⟩:=bC hs2_
      refine Zyc (J:=(Xb (fun z11=>JN n (⟨143,[],[(2,.ref n 0),(3,.ref (n+1) 0),(4,.ref (n+2) 0),(6,.ref (n+3) 0),(7,.val (.int .i64 z11.1)),(8,.val (.int .i64 s0_.2.1)),(9,.ref (n+6) 0),(11,.val (.int .i64 s2_.2.1))]⟩:Env) (Zx O n [some ⟨false,54,11,1,(Zf a0)⟩,some ⟨false,25,3,1,(Zd a1)⟩,some ⟨false,25,3,1,[.val (.int .i64 0),.val (.slice none 0 0),.val (.slice none 0 0)]⟩,some ⟨false,25,3,1,[.val (.int .i64 a1.Kind),.val (.slice none 0 0),.row (n+4) z11.2.length]⟩,some ⟨true,25,3,z11.2.length,fl Zb z11.2⟩,none,some ⟨false,64,14,1,(Ye x3)⟩,none]) (n+8)) (fun z11=>JR n (⟨143,[],[(4,.ref (n+2) 0),(5,.val (.bool false))]⟩:Env) (Zx O n [none,none,some ⟨false,25,3,1,[.val (.int .i64 0),.val (.slice none 0 0),.val (.slice none 0 0)]⟩,none,none,none,none]) (n+7)))) (z:=z11) ?_ fun hw => ?_
      ·refine Yw ?_
       refine Zl ?_
       refine Zq [2,3,4,6,7,8,9,11,73] (Zc Ze [] ?_)
       simp only [push_cast,seval,↓reduceIte,Za,hN0,hN]
       refine Zs (t:=(x3.Kind == 2)) rfl (fun c28 => ?_) (fun c28 => ?_)
       ·replace hz11:=Zu c28 hz11
        refine Zl ?_
        obtain ⟨x14,hx14,ax14,bx14,cx14,hz11⟩:=bE (f:=Zb) Ki (fun _=>rfl) (by decide) hz11
        obtain ⟨l15,pl15,ql15,el15,hz11⟩:=bA (k:=1) rfl hz11
        refine Zct Ze (by kernel_rfl) [.low,.low,.plain,.plain,.plain,.plain,.plain,.pass,.bar,.plain,.bar] (fun i=>i < (n+7)) [0,1,2,3,4,5,6,7,8,9,10] [.low,.low,.plain,.plain,.plain,.plain,.plain,.pass,.bar,.plain,.bar] [] (by kernel_rfl) rfl ?_
        simp only [push_cast,Nat.reduceAdd,Nat.reduceSub,Nat.reduceMul,Nat.reduceLeDiff,Nat.reduceLT,Nat.reduceEqDiff,↓reduceIte,reduceCtorEq,Int.reduceBEq,Int.reduceBNe,Nat.reduceBEq,Int.reduceLE,Int.reduceLT,Int.reduceEq,Int.reduceNe,Int.reduceNeg,Nat.reduceDiv,Nat.reduceMod,Nat.reducePow,Za,ax14,bx14,cx14,pl15,ql15,el15,hN0,hN]
        repeat (with_reducible refine And.intro (by first | omega | exact Y2 rfl | exact Yx | exact Vm rfl rfl) ?_)
        refine Zfe ⟨143,[],[(2,.ref n 0),(3,.ref (n+1) 0),(4,.ref (n+2) 0),(6,.ref (n+3) 0),(7,.val (.int .i64 s2_.1)),(8,.val (.int .i64 s0_.2.1)),(9,.ref (n+6) 0),(11,.val (.int .i64 s2_.2.1))]⟩ (Zx O n [some ⟨false,54,11,1,(Zf a0)⟩,some ⟨false,25,3,1,(Zd a1)⟩,some ⟨false,25,3,1,[.val (.int .i64 0),.val (.slice none 0 0),.val (.slice none 0 0)]⟩,some ⟨false,25,3,1,[.val (.int .i64 a1.Kind),.val (.slice none 0 0),.row (n+4) l15.length]⟩,some ⟨true,25,3,l15.length,fl Zb l15⟩,none,some ⟨false,64,14,1,(Ye x3)⟩,none]) (Zi hU rfl rfl ?_) ?_
        ·simp only [push_cast,Nat.reduceAdd,Nat.reduceSub,Nat.reduceMul,Nat.reduceLeDiff,Nat.reduceLT,Nat.reduceEqDiff,↓reduceIte,reduceCtorEq,Int.reduceBEq,Int.reduceBNe,Nat.reduceBEq,Int.reduceLE,Int.reduceLT,Int.reduceEq,Int.reduceNe,Int.reduceNeg,Nat.reduceDiv,Nat.reduceMod,Nat.reducePow,Za,ax14,bx14,cx14,pl15,ql15,el15,hN0,hN]
        refine Xt ?_
        try simp only [Zk,Zh,↓reduceIte,Nat.reduceEqDiff]
        have hz11:=Option.some.inj hz11;subst hz11
        refine And.intro rfl (Fit2.of (Zi hU rfl rfl ?_) (by omega))
        simp only [push_cast,seval,↓reduceIte,Za,hN0,hN]
       replace hz11:=Zt c28 hz11
       refine Zz ?_
       try simp only [Zk,Zh]
       refine Zj [2,3,4,6,7,8,9,11] [true,true,true,true,true,false,true] ?_
       simp only [push_cast,seval,↓reduceIte]
       refine Zl ?_
       obtain ⟨z19,hz19,hz11⟩:=bC hz11
       refine Y1 (E':=⟨143,[],[(2,.ref n 0),(3,.ref (n+1) 0),(4,.ref (n+2) 0),(6,.ref (n+3) 0),(7,.val (.int .i64 s2_.1)),(8,.val (.int .i64 s0_.2.1)),(9,.ref (n+6) 0),(11,.val (.int .i64 s2_.2.1)),(102,.val (.bool z19))]⟩) (O':=(Zx O n [some ⟨false,54,11,1,(Zf a0)⟩,some ⟨false,25,3,1,(Zd a1)⟩,some ⟨false,25,3,1,[.val (.int .i64 0),.val (.slice none 0 0),.val (.slice none 0 0)]⟩,some ⟨false,25,3,1,[.val (.int .i64 a1.Kind),.val (.slice none 0 0),.row (n+4) s2_.2.2.length]⟩,some ⟨true,25,3,s2_.2.2.length,fl Zb s2_.2.2⟩,none,some ⟨false,64,14,1,(Ye x3)⟩])) (n0:=(n+7)) ?_ ?_
       ·rcases Bool.eq_false_or_eq_true (decide ((a1.Kids.length:Int)≤s2_.1)) with c26 | c26
        ·replace hz19:=Zu c26 hz19
         refine Qg Ze (by kernel_rfl) [some false,some false,some false,some false,some false,some false,some false,some false,some false,some false,some false,some false] (by kernel_rfl) ?_
         simp only [push_cast,seval,↓reduceIte,Za,c26,hN0,hN]
         have hz19:=Option.some.inj hz19;subst hz19
         refine And.intro rfl (Fit2.of (Zi hU rfl rfl ?_) (by omega))
         simp only [push_cast,seval,↓reduceIte,Za,c26,hN0,hN]
        replace hz19:=Zt c26 hz19
        obtain ⟨x23,hx23,ax23,bx23,cx23,hz19⟩:=bE (f:=Zb) Ki (fun _=>rfl) (by decide) hz19
        obtain ⟨x24,hx24,ax24,bx24,cx24,hz19⟩:=bE (f:=Zb) Ki (fun _=>rfl) (by decide) hz19
        obtain ⟨y25,hy25,hz19⟩:=bC hz19
        refine Qg Ze (by kernel_rfl) [some true,some true,some true,some true,some true,some true,some true,some true,some true,some true,some true,some true] (by kernel_rfl) ?_
        simp only [push_cast,Nat.reduceAdd,Nat.reduceSub,Nat.reduceMul,Nat.reduceLeDiff,Nat.reduceLT,Nat.reduceEqDiff,↓reduceIte,reduceCtorEq,Int.reduceBEq,Int.reduceBNe,Nat.reduceBEq,Int.reduceLE,Int.reduceLT,Int.reduceEq,Int.reduceNe,Int.reduceNeg,Nat.reduceDiv,Nat.reduceMod,Nat.reducePow,Za,c26,ax23,bx23,cx23,ax24,bx24,cx24,hN0,hN]
        refine PCall.of (Zdt hy25) ?_
        simp only [push_cast,Nat.reduceAdd,Nat.reduceSub,Nat.reduceMul,Nat.reduceLeDiff,Nat.reduceLT,Nat.reduceEqDiff,↓reduceIte,reduceCtorEq,Int.reduceBEq,Int.reduceBNe,Nat.reduceBEq,Int.reduceLE,Int.reduceLT,Int.reduceEq,Int.reduceNe,Int.reduceNeg,Nat.reduceDiv,Nat.reduceMod,Nat.reducePow,Za,c26,ax23,bx23,cx23,ax24,bx24,cx24,hN0,hN]
        have hz19:=Option.some.inj hz19;subst hz19
        refine And.intro rfl (Fit2.of (Zi hU rfl rfl ?_) (by omega))
        simp only [push_cast,Nat.reduceAdd,Nat.reduceSub,Nat.reduceMul,Nat.reduceLeDiff,Nat.reduceLT,Nat.reduceEqDiff,↓reduceIte,reduceCtorEq,Int.reduceBEq,Int.reduceBNe,Nat.reduceBEq,Int.reduceLE,Int.reduceLT,Int.reduceEq,Int.reduceNe,Int.reduceNeg,Nat.reduceDiv,Nat.reduceMod,Nat.reducePow,Za,c26,ax23,bx23,cx23,ax24,bx24,cx24,hN0,hN]
       refine Zs (t:=z19) rfl (fun c27 => ?_) (fun c27 => ?_)
       ·replace hz11:=Zu c27 hz11
        refine Zl ?_
        refine Zc Ze [] ?_
        simp only [push_cast,seval,↓reduceIte,Za,hN0,hN]
        refine Zj [4,5] [false,false,true,false,false,false,false] ?_
        simp only [push_cast,seval,↓reduceIte]
        refine Z4 ?_
        try simp only [Zk,Zh]
        have hz11:=Option.some.inj hz11;subst hz11
        refine And.intro rfl (Fit2.of (Zi hU rfl rfl ?_) (by omega))
        simp only [push_cast,seval,↓reduceIte,Za,hN0,hN]
       replace hz11:=Zt c27 hz11
       refine Zz ?_
       try simp only [Zk,Zh]
       refine Zj [2,3,4,6,7,8,9,11] [true,true,true,true,true,false,true] ?_
       simp only [push_cast,seval,↓reduceIte]
       refine Zc Ze [] ?_
       simp only [push_cast,seval,↓reduceIte,Za,hN0,hN]
       have hz11:=Option.some.inj hz11;subst hz11
       refine And.intro rfl (Fit2.of (Zi hU rfl rfl ?_) (by omega))
       simp only [push_cast,seval,↓reduceIte,Za,hN0,hN]
      rcases z11 with z11 | z11
      ·dsimp only [Xb] at hw hs2_
       refine Y1 hw ?_
       refine Zc Ze [] ?_
       simp only [push_cast,seval,↓reduceIte,Za,hN0,hN]
       have hs2_:=Option.some.inj hs2_;subst hs2_
       refine And.intro rfl (Fit2.of (Zi hU rfl rfl ?_) (by omega))
       simp only [push_cast,seval,↓reduceIte,Za,hN0,hN]
      dsimp only [Xb] at hw hs2_
      refine Zth hw ?_
      try simp only [Zk,Zh]
      have hs2_:=Option.some.inj hs2_;subst hs2_
      refine And.intro (fun h=>by cases h) (And.intro rfl (Fit2.of (Zi hU rfl rfl ?_) (by omega)))
      simp only [push_cast,seval,↓reduceIte,Za,hN0,hN]
     replace hs2_:=Zt c29 hs2_
     refine Xt ?_
     try simp only [Zk,Zh,↓reduceIte,Nat.reduceEqDiff]
     have hs2_:=Option.some.inj hs2_;subst hs2_
     refine And.intro (fun h=>by cases h) (And.intro rfl (Fit2.of (Zi hU rfl rfl ?_) (by omega)))
     simp only [push_cast,seval,↓reduceIte,Za,hN0,hN]
    rcases z30 with z30 | z30
    ·dsimp only [Xb] at hw hz1
     refine Q2 hw ?_
     try simp only [Zk,Zh,↓reduceIte,Nat.reduceEqDiff]
     have hz1:=Option.some.inj hz1;subst hz1
     refine And.intro rfl (Fit2.of (Zi hU rfl rfl ?_) (by omega))
     simp only [push_cast,seval,↓reduceIte,Za,hN0,hN]
    dsimp only [Xb] at hw hz1
    refine Yv hw ?_
    try simp only [Zk,Zh,↓reduceIte,Nat.reduceEqDiff]
    refine Zj [2,3,4,6,7,8,9] [true,true,true,true,true,false,true] ?_
    simp only [push_cast,seval,↓reduceIte]
    refine Zq [2,3,4,6,7,8,9,108] (Zc Ze [] ?_)
    simp only [push_cast,seval,↓reduceIte,Za,hN0,hN]
    refine Zs (t:=(x3.Kind == 3)) rfl (fun c39 => ?_) (fun c39 => ?_)
    ·replace hz1:=Zu c39 hz1
     refine Zl ?_
     refine Zq [2,3,4,6,7,8,9,113] (Zc Ze [] ?_)
     simp only [push_cast,seval,↓reduceIte,Za,hN0,hN]
     refine Zs (t:=(decide ((a1.Kids.length:Int)≤z30.1))) rfl (fun c38 => ?_) (fun c38 => ?_)
     ·replace hz1:=Zu c38 hz1
      refine Zl ?_
      refine Zc Ze [] ?_
      simp only [push_cast,seval,↓reduceIte,Za,hN0,hN]
      refine Zj [4,5] [false,false,true,false,false,false,false] ?_
      simp only [push_cast,seval,↓reduceIte]
      refine Z4 ?_
      try simp only [Zk,Zh]
      have hz1:=Option.some.inj hz1;subst hz1
      refine And.intro rfl (Fit2.of (Zi hU rfl rfl ?_) (by omega))
      simp only [push_cast,seval,↓reduceIte,Za,hN0,hN]
     replace hz1:=Zt c38 hz1
     refine Zz ?_
     try simp only [Zk,Zh]
     refine Zj [2,3,4,6,7,8,9] [true,true,true,true,true,false,true] ?_
     simp only [push_cast,seval,↓reduceIte]
     refine Zl ?_
     obtain ⟨x33,hx33,ax33,bx33,cx33,hz1⟩:=bE (f:=Zb) Ki (fun _=>rfl) (by decide) hz1
     obtain ⟨y34,hy34,hz1⟩:=bC hz1
     refine Zct Ze (by kernel_rfl) [.low,.low,.low,.low,.low,.low,.low,.low,.low,.low,.low,.pass,.pass,.plain] (fun i=>i < (n+7)) [0,1,2,3,4,5,6,7,8,9,10,11,12,13] [.low,.low,.low,.low,.low,.low,.low,.low,.low,.low,.low,.pass,.pass,.plain] [] (by kernel_rfl) rfl ?_
     simp only [push_cast,Nat.reduceAdd,Nat.reduceSub,Nat.reduceMul,Nat.reduceLeDiff,Nat.reduceLT,Nat.reduceEqDiff,↓reduceIte,reduceCtorEq,Int.reduceBEq,Int.reduceBNe,Nat.reduceBEq,Int.reduceLE,Int.reduceLT,Int.reduceEq,Int.reduceNe,Int.reduceNeg,Nat.reduceDiv,Nat.reduceMod,Nat.reducePow,Za,ax33,bx33,cx33,hN0,hN]
     repeat (with_reducible refine And.intro (by first | omega | exact Y2 rfl | exact Yx | exact Vm rfl rfl) ?_)
     first | refine PCallA.of (fun _ _=>Qx hy34) ?_ | refine PCall.of (Qx hy34) ?_
     simp only [push_cast,Nat.reduceAdd,Nat.reduceSub,Nat.reduceMul,Nat.reduceLeDiff,Nat.reduceLT,Nat.reduceEqDiff,↓reduceIte,reduceCtorEq,Int.reduceBEq,Int.reduceBNe,Nat.reduceBEq,Int.reduceLE,Int.reduceLT,Int.reduceEq,Int.reduceNe,Int.reduceNeg,Nat.reduceDiv,Nat.reduceMod,Nat.reducePow,Za,ax33,bx33,cx33,hN0,hN]
     repeat (with_reducible refine And.intro (by first | omega | exact Y2 rfl | exact Yx | exact Vm rfl rfl) ?_)
     refine Zj [2,3,4,6,7,8,12,13] [true,true,true,true,true,false,false,true] ?_
     simp only [push_cast,seval,↓reduceIte]
     refine Zl ?_
     refine Zq [2,3,4,6,7,8,12,127] (Zc Ze [] ?_)
     simp only [push_cast,seval,↓reduceIte,Za,hN0,hN]
     refine Zs (t:=(!y34.2)) rfl (fun c37 => ?_) (fun c37 => ?_)
     ·replace hz1:=Zu c37 hz1
      refine Zl ?_
      refine Zc Ze [] ?_
      simp only [push_cast,seval,↓reduceIte,Za,hN0,hN]
      refine Zj [4,5] [false,false,true,false,false,false,false,false] ?_
      simp only [push_cast,seval,↓reduceIte]
      refine Z4 ?_
      try simp only [Zk,Zh]
      have hz1:=Option.some.inj hz1;subst hz1
      refine And.intro rfl (Fit2.of (Zi hU rfl rfl ?_) (by omega))
      simp only [push_cast,seval,↓reduceIte,Za,hN0,hN]
     replace hz1:=Zt c37 hz1
     refine Zz ?_
     try simp only [Zk,Zh]
     refine Zj [2,3,4,6,7,8,12] [true,true,true,true,true,false,false,true] ?_
     simp only [push_cast,seval,↓reduceIte]
     refine Zl ?_
     obtain ⟨l36,pl36,ql36,el36,hz1⟩:=bA (k:=1) rfl hz1
     refine Zc Ze [] ?_
     simp only [push_cast,seval,↓reduceIte,Za,pl36,ql36,el36,hN0,hN]
     refine Zfe ⟨143,[],[(2,.ref n 0),(3,.ref (n+1) 0),(4,.ref (n+2) 0),(6,.ref (n+3) 0),(7,.val (.int .i64 z30.1)),(8,.val (.int .i64 s0_.2.1))]⟩ (Zx O n [some ⟨false,54,11,1,(Zf a0)⟩,some ⟨false,25,3,1,(Zd a1)⟩,some ⟨false,25,3,1,[.val (.int .i64 0),.val (.slice none 0 0),.val (.slice none 0 0)]⟩,some ⟨false,25,3,1,[.val (.int .i64 a1.Kind),.val (.slice none 0 0),.row (n+4) l36.length]⟩,some ⟨true,25,3,l36.length,fl Zb l36⟩,none,none,none,none]) (Zi hU rfl rfl ?_) ?_
     ·simp only [push_cast,seval,↓reduceIte,Za,pl36,ql36,el36,hN0,hN]
     refine Zc Ze [] ?_
     simp only [push_cast,seval,↓reduceIte,Za,hN0,hN]
     have hz1:=Option.some.inj hz1;subst hz1
     refine And.intro rfl (Fit2.of (Zi hU rfl rfl ?_) (by omega))
     simp only [push_cast,seval,↓reduceIte,Za,hN0,hN]
    replace hz1:=Zt c39 hz1
    refine Zz ?_
    try simp only [Zk,Zh]
    have hz1:=Option.some.inj hz1;subst hz1
    refine And.intro rfl (Fit2.of (Zi hU rfl rfl ?_) (by omega))
    simp only [push_cast,seval,↓reduceIte,Za,hN0,hN]
   rcases z1 with z1 | z1
   ·dsimp only [Xb] at hw hs0_
    refine Y1 hw ?_
    refine Zc Ze [] ?_
    simp only [push_cast,seval,↓reduceIte,Za,hN0,hN]
    have hs0_:=Option.some.inj hs0_;subst hs0_
    refine And.intro rfl (Fit2.of (Zi hU rfl rfl ?_) (by omega))
    simp only [push_cast,seval,↓reduceIte,Za,hN0,hN]
   dsimp only [Xb] at hw hs0_
   refine Zth hw ?_
   try simp only [Zk,Zh]
   have hs0_:=Option.some.inj hs0_;subst hs0_
   refine And.intro (fun h=>by cases h) (And.intro rfl (Fit2.of (Zi hU rfl rfl ?_) (by omega)))
   simp only [push_cast,seval,↓reduceIte,Za,hN0,hN]
  replace hs0_:=Zt c40 hs0_
  refine Xt ?_
  try simp only [Zk,Zh,↓reduceIte,Nat.reduceEqDiff]
  have hs0_:=Option.some.inj hs0_;subst hs0_
  refine And.intro (fun h=>by cases h) (And.intro rfl (Fit2.of (Zi hU rfl rfl ?_) (by omega)))
  simp only [push_cast,seval,↓reduceIte,Za,hN0,hN]
 rcases z41 with z41 | z41
 ·dsimp only [Xb] at hw h
  refine Q2 hw ?_
  try simp only [Zk,Zh,↓reduceIte,Nat.reduceEqDiff]
  have h:=Option.some.inj h;subst h
  refine Zr (.inr rfl) hU [.agg [.val (.int .i64 0),.val (.slice none 0 0),.val (.slice none 0 0)],.val (.bool false)] (by omega) ?_
  simp only [push_cast,seval,↓reduceIte,Za,Try.results88,hN0,hN]
 dsimp only [Xb] at hw h
 refine Yv hw ?_
 try simp only [Zk,Zh,↓reduceIte,Nat.reduceEqDiff]
 refine Zj [3,4,6,7] [false,true,true,true,true,false] ?_
 simp only [push_cast,seval,↓reduceIte]
 refine Zl ?_
 refine Zct Ze (by kernel_rfl) [.plain,.low,.low,.low,.low,.low,.pass,.plain] (fun i=>i≠n+2) [0,1,2,3,4,5,6,7] [.plain,.low,.low,.low,.low,.low,.pass,.plain] [] (by kernel_rfl) rfl ?_
 simp only [push_cast,seval,↓reduceIte,Za,hN0,hN]
 repeat (with_reducible refine And.intro (by first | omega | exact Y2 rfl | exact Yx | exact Vm rfl rfl) ?_)
 refine Zj [4,5] [false,false,true,false,true,false] ?_
 simp only [push_cast,seval,↓reduceIte]
 refine Z4 ?_
 try simp only [Zk,Zh]
 have h:=Option.some.inj h;subst h
 refine Zr (.inr rfl) hU [.agg [.val (.int .i64 a1.Kind),.val (.slice none 0 0),.row (n+4) z41.2.length],.val (.bool (z41.1 == (a1.Kids.length:Int)))] (by omega) ?_
 simp only [push_cast,seval,↓reduceIte,Za,Try.results88,hN0,hN]
theorem Zh9:∀ k,(∀ {a0:S_api_Edit} {a1:S_api_Tree} {r:(S_api_Tree×Bool)} {O:Objs} {n:Nat},(Z5 k).1 a0 a1=some r→GTo Try.prog 57 [.agg (Zf a0),.agg (Zd a1)] O n (.tup [.agg (Zd r.1),.val (.bool r.2)]) O n)∧(∀ {a0:S_api_Edit} {a1:S_api_Tree} {r:(S_api_Tree×Bool)} {O:Objs} {n:Nat},(Z5 k).2.1 a0 a1=some r→GTo Try.prog 87 [.agg (Zf a0),.agg (Zd a1)] O n (.tup [.agg (Zd r.1),.val (.bool r.2)]) O n)∧(∀ {a0:S_api_Edit} {a1:S_api_Tree} {r:(S_api_Tree×Bool)} {O:Objs} {n:Nat},(Z5 k).2.2 a0 a1=some r→GTo Try.prog 88 [.agg (Zf a0),.agg (Zd a1)] O n (.tup [.agg (Zd r.1),.val (.bool r.2)]) O n):=fun k=>by
 induction k with
 | zero=>exact ⟨@fun a0 a1 r O n h=>(nomatch (show (none:Option _)=some _ from h)),@fun a0 a1 r O n h=>(nomatch (show (none:Option _)=some _ from h)),@fun a0 a1 r O n h=>(nomatch (show (none:Option _)=some _ from h))⟩
 | succ k ih=>exact ⟨@fun a0 a1 r O n h=>Zkr (ih.1) (ih.2.1) (ih.2.2)  h,@fun a0 a1 r O n h=>Zf1 (ih.1) (ih.2.1) (ih.2.2)  h,@fun a0 a1 r O n h=>Zks (ih.1) (ih.2.1) (ih.2.2)  h⟩
theorem Zk8 {a0:S_api_Edit} {a1:S_api_Tree} {r:(S_api_Tree×Bool)} {O:Objs} {n:Nat} (h:Zb1 a0 a1=some r):GTo Try.prog 57 [.agg (Zf a0),.agg (Zd a1)] O n (.tup [.agg (Zd r.1),.val (.bool r.2)]) O n:=by
 obtain ⟨k,hk⟩:=Gm h
 exact (Zh9 k).1  hk
theorem Zfz {a0:S_api_Edit} {a1:S_api_Tree} {r:Bool} {O:Objs} {n:Nat} (h:Ku a0 a1=some r):GTo Try.prog 11 [.agg (Zf a0),.agg (Zd a1)] O n (.val (.bool r)) O n:=by
 unfold Ku at h
 refine Xl Ze Try.call11 Try.func11 rfl (Nat.le_of_ble_eq_true rfl) (Nat.le_refl _) fun hU => ?_
 have hN0:O n=none:=hU.fresh _ (Nat.le_refl _)
 have hN:∀ k,O (n+k)=none:=fun k=>hU.fresh _ (Nat.le_add_right _ _)
 show W _ _ _ _ ⟨41,[],[(0,.agg (Zf a0)),(1,.agg (Zd a1))]⟩ (Zx O n []) _
 refine Zq [2,3] (Zc Ze [] ?_)
 simp only [push_cast,seval,↓reduceIte,Za,hN0,hN]
 refine Zl ?_
 obtain ⟨z3,hz3,h⟩:=bC h
 refine Y1 (E':=⟨41,[],[(2,.ref n 0),(3,.ref (n+1) 0),(16,.val (.bool z3))]⟩) (O':=(Zx O n [some ⟨false,54,11,1,(Zf a0)⟩,some ⟨false,25,3,1,(Zd a1)⟩])) (n0:=(n+2)) ?_ ?_
 ·obtain ⟨y6,hy6,hz3⟩:=bC hz3
  rcases Bool.eq_false_or_eq_true y6 with c8 | c8
  ·replace hz3:=Zu c8 hz3
   obtain ⟨y7,hy7,hz3⟩:=bC hz3
   refine Zc Ze [some true,some true,some true] ?_
   simp only [push_cast,seval,↓reduceIte,Za,c8,hN0,hN]
   refine (Zee hy6).then ?_
   simp only [push_cast,seval,↓reduceIte,Za,c8,hN0,hN]
   refine (Zk6 hy7).then ?_
   simp only [push_cast,seval,↓reduceIte,Za,c8,hN0,hN]
   have hz3:=Option.some.inj hz3;subst hz3
   refine And.intro rfl (Fit2.of (Zi hU rfl rfl ?_) (by omega))
   simp only [push_cast,seval,↓reduceIte,Za,c8,hN0,hN]
  replace hz3:=Zt c8 hz3
  refine Zc Ze [some false,some false,some false] ?_
  simp only [push_cast,seval,↓reduceIte,Za,c8,hN0,hN]
  refine (Zee hy6).then ?_
  simp only [push_cast,seval,↓reduceIte,Za,c8,hN0,hN]
  have hz3:=Option.some.inj hz3;subst hz3
  refine And.intro rfl (Fit2.of (Zi hU rfl rfl ?_) (by omega))
  simp only [push_cast,seval,↓reduceIte,Za,c8,hN0,hN]
 refine Zs (t:=z3) rfl (fun c24 => ?_) (fun c24 => ?_)
 ·replace h:=Zu c24 h
  refine Zl ?_
  obtain ⟨y10,hy10,h⟩:=bC h
  refine Zc Ze [] ?_
  simp only [push_cast,seval,↓reduceIte,Za,hN0,hN]
  refine (Zdr hy10).then ?_
  simp only [push_cast,seval,↓reduceIte,Za,hN0,hN]
  refine Zj [4] [false,false] ?_
  simp only [push_cast,seval,↓reduceIte]
  refine Z4 ?_
  try simp only [Zk,Zh]
  have h:=Option.some.inj h;subst h
  refine Zr (.inr rfl) hU [.val (.bool y10)] (by omega) ?_
  simp only [push_cast,seval,↓reduceIte,Za,Try.results11,hN0,hN]
 replace h:=Zt c24 h
 refine Zz ?_
 try simp only [Zk,Zh]
 refine Zj [2,3] [true,true] ?_
 simp only [push_cast,seval,↓reduceIte]
 refine Zl ?_
 obtain ⟨y12,hy12,h⟩:=bC h
 refine Zc Ze [] ?_
 simp only [push_cast,seval,↓reduceIte,Za,hN0,hN]
 refine (Zfy hy12).then ?_
 simp only [push_cast,seval,↓reduceIte,Za,hN0,hN]
 refine Zj [2,3,5,6] [true,true,true] ?_
 simp only [push_cast,seval,↓reduceIte]
 refine Zl ?_
 obtain ⟨y14,hy14,h⟩:=bC h
 refine Zc Ze [] ?_
 simp only [push_cast,seval,↓reduceIte,Za,hN0,hN]
 refine (Zk8 hy14).then ?_
 simp only [push_cast,seval,↓reduceIte,Za,hN0,hN]
 refine Zj [5,6,7,8] [false,false,true,true] ?_
 simp only [push_cast,seval,↓reduceIte]
 obtain ⟨z17,hz17,h⟩:=bC h
 refine Y1 (E':=⟨41,[],[(4,.val (.bool z17))]⟩) (O':=(Zx O n [none,none,none,none])) (n0:=(n+4)) ?_ ?_
 ·rcases Bool.eq_false_or_eq_true (y12.2 == y14.2) with c22 | c22
  ·replace hz17:=Zu c22 hz17
   obtain ⟨y20,hy20,hz17⟩:=bC hz17
   rcases Bool.eq_false_or_eq_true y20 with c23 | c23
   ·replace hz17:=Zu c23 hz17
    try rw [c23] at c22
    obtain ⟨y21,hy21,hz17⟩:=bC hz17
    refine Zc Ze [some true,some true,some true,some true] ?_
    simp only [push_cast,seval,↓reduceIte,Za,c22,c23,hN0,hN]
    refine (Zbg hy20).then ?_
    simp only [push_cast,seval,↓reduceIte,Za,c22,c23,hN0,hN]
    refine (Zdr hy21).then ?_
    simp only [push_cast,seval,↓reduceIte,Za,c22,c23,hN0,hN]
    have hz17:=Option.some.inj hz17;subst hz17
    refine And.intro rfl (Fit2.of (Zi hU rfl rfl ?_) (by omega))
    simp only [push_cast,seval,↓reduceIte,Za,c22,c23,hN0,hN]
   replace hz17:=Zt c23 hz17
   try rw [c23] at c22
   refine Zc Ze [some true,some true,some true,some false] ?_
   simp only [push_cast,seval,↓reduceIte,Za,c22,c23,hN0,hN]
   refine (Zbg hy20).then ?_
   simp only [push_cast,seval,↓reduceIte,Za,c22,c23,hN0,hN]
   have hz17:=Option.some.inj hz17;subst hz17
   refine And.intro rfl (Fit2.of (Zi hU rfl rfl ?_) (by omega))
   simp only [push_cast,seval,↓reduceIte,Za,c22,c23,hN0,hN]
  replace hz17:=Zt c22 hz17
  refine Zc Ze [some false,some false,some false,some false] ?_
  simp only [push_cast,seval,↓reduceIte,Za,c22,hN0,hN]
  have hz17:=Option.some.inj hz17;subst hz17
  refine And.intro rfl (Fit2.of (Zi hU rfl rfl ?_) (by omega))
  simp only [push_cast,seval,↓reduceIte,Za,c22,hN0,hN]
 refine Z4 ?_
 try simp only [Zk,Zh]
 have h:=Option.some.inj h;subst h
 refine Zr (.inr rfl) hU [.val (.bool z17)] (by omega) ?_
 simp only [push_cast,seval,↓reduceIte,Za,Try.results11,hN0,hN]
end Go.Proofs.Ytmpkfolcikhofaa
