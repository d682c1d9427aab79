/- Part UM1 of this seat's mirrors: functions of the seat's program, and the plain functions that they are; each theorem bears its own conditions. -/
import Derived.Test.YtbkhdkfjabiocaaUD
namespace Go.Proofs.Ytbkhdkfjabiocaa
open Go.RowKit
set_option linter.unusedVariables false
set_option linter.unusedSimpArgs false
set_option maxRecDepth 100000
set_option maxHeartbeats 4000000
attribute [local push_cast] Xm Zf Qi Yb Zn Zmh Zmg Znd Znc Zk Zg Zir Zd5 Zd4 onW Y9 Zbs Zbf Zo6 Zlg Zgj Zgn Zgi Zgm Zjv Zjq Zgl Zju Zjt Zjs Zgk Zjo Zeu evS wok Qq Op.operands Call.operands gop onK onP atK List.all_cons List.all_nil Bool.and_true Bool.true_and Bool.and_self Value.oneCell' List.take_zero List.take_succ_cons List.take_nil List.drop_zero List.drop_succ_cons List.drop_nil List.append_nil Nat.add_zero Nat.zero_add Vt Yd ev Q0 Zpl Zma Zl9 Zmf Zmd Zme Zmb Zmc Zl8 Zqk Zro Zut Zgw Zav Zgv Zbm Zf8 Zd7 Zb3 Zb8 Zd0 Zdw Zb6 Zdz Zdy Zdx Zb5 Zdu Zb4 Zb7 Zbe Zdv Zke Zd6 Ut Zfp Uu Zh2 Zgu Ztx bLo bHi bMx Zaw Zh1 Zv9 Zgs Ziq Zc4 Vf Zqo Zwa Zfo Zc2 Zwc Zau Zy5 Ziz Zi3 Ziy Zi2 Zm2 Zmy Zmw Zgb Zi0 Zm1 Zm0 Zmz Zi1 Zmr Zmu Zmq Zmt Zr1 Zry Zrx Zms Zrz Zr0 Zmx Zh3 Zot Zjk Zem Zel pop TK.isAgg Zm5 Zm9 Zm4 Zm8 Zjb Zsd Zr9 Zm7 Zsc Zsb Zsa Zm6 Zr8 G.under G.unders List.getD_cons_zero List.getD_cons_succ List.set_cons_zero List.set_cons_succ List.map_cons List.map_nil List.toList_toArray Array.toList_append Option.toArray_none Option.toArray_some Array.toList_map Option.map_some Option.map_none Option.bind_some Option.bind_none List.getElem?_cons_zero List.getElem?_cons_succ List.getElem?_nil List.nil_append List.cons_append List.replicate_succ List.replicate_zero List.length_cons List.length_nil and_true true_and and_false false_and Bool.true_eq_false Bool.false_eq_true forall_const false_implies implies_true IntKind.bits if_true if_false ite_true ite_false eq_self true_implies false_or or_false or_true true_or not_true_eq_false not_false_eq_true decide_true decide_false decide_eq_true_eq decide_eq_false_iff_not beq_iff_eq bne_iff_ne ne_eq Bool.not_eq_true Bool.not_eq_false beq_eq_false_iff_ne bne_eq_false_iff_eq beq_self_eq_true bne_self_eq_false Option.some.injEq exists_eq_left' exists_eq_left ge_iff_le gt_iff_lt decide_not Bool.not_true Bool.not_false imp_self Zru cond_true cond_false Z5b Z5a Bool.not_not Bool.and_false Bool.false_and Bool.or_true Bool.true_or Bool.or_false Bool.false_or V8 Zbx Zam U3 Uc Kv Option.join_some Nat.add_assoc Int.toNat_natCast eI eB eS eL Zc0 Zd3 Zcc Zmk Zmi Zmj Zzq Z1p Zei Zck Znj Znh Zni Zvf Zk6 Zth Zk4 Zqb Zcb Zpj List.length_append G.agg.injEq G.row.injEq G.ref.injEq G.val.injEq G.sl.injEq G.tup.injEq Value.int.injEq Value.bool.injEq Value.string.injEq List.cons.injEq exists_and_left exists_const List.flatten_cons List.flatten_nil Int.le_refl Nat.le_refl Zff Kk Ze3 Bool.not_eq_true' Bool.not_eq_false' Zoq Zfg Zs9 Ztd Zs8 Ztc Zyo Zyj List.size_toArray Zp1 Zpb G.ren G.rens Zsh Zeo Znq Zl6 Zl7 Zjp Zte Zef G.fn.injEq Zhj Zj9 Zop Zyk Zhi Ztb Zyn Zym Zyl Zta Zr3 Zw7 Option.join_none Z9 V7 undef Ziv Arr.len Arr.put_eq Zeh Zgd Zeg Zcj Zng Zne Znf onB Zzp Zqj Jc Zf5 Zib Zic Zid Zie Zif Zig Zgc Zgg Zge Zek Zcl Zgf Zji Zjh Zjg Zjf Zzr Z1o Zve Zt2 Jy Zu4 Zou Zgh Zej Zwl Zpd Zgq Zin Zbz Zhb Zih Zii Zij Zik Zfs Zft Zfu Zfv Zfw Zfx Zfy Zfz Zf0 Zf1 Zf2 Zf3 Zf4 Zdo prT Zc6 Z56 Zs0 Zz4 Zs1 Z57 Zs2 Z58 Zs3 Z59 Zs4 Z6a Zs5 Z6b Zs6 Z6c Zs7 Zxk Zns Zxl Znt Zxm Znu Zxn Znv Zxo Znw Zxp Znx Zxq Zny Zxr Znz Zxs Zn0 Zxt Zn1 Zxu Zn2 Zdq Zfr Ztt Zhw Zxv Zn3 Uo Zn4 Zxw Zhx Zxx Zn5 Zxy Zn6 Zxz Zn7 Zx0 Zn8 Zap Zn9 Zx1 Zoa Zx2 Zob Zx3 Zoc Zx4 Zod Zx5 Zoe Zx6 Zof Zx7 Zog Zx8 Zoh Zx9 Zoi Zya Zoj Zyb Zok Zyc Zol Zyd Zom Zye Zon Zyf Zoo Zsn Zjx Zso Zjy Zsp Zjz Zsq Zj0 Zsr Zj1 Zss Zj2 Zst Zj3 Zsu Zj4 Zsv Zj5 Zsw Zj6 Zsx Zj7 Zsy Zj8 Zo Zba Zex Zea Zee Ze0 Zcs Zcq Zco V5 Zaj Zai Zab Zag Zak Gj Gi Gh Zah J7 J6 Jz J0 J8 Jp Jo Jn J5 Zi Y1 Vo Vn Vi Vk Vp K6 K4 K3 Vm Zey Zew Zd9 Zed Zez Zcr Zcp Zcn Zev Zca U7 Zb9 U8 Z7 Q8 Q7 Q4 Q5 Q9 Qx Qv Qu Q6 Z4 Qe Qd X9 Qa Qf Xy Xx Xw Qc
theorem Zzl {a0:Int} {a1:Int} {r:Zm} {O:Objs} {n:Nat}  (h:Ztp a0 a1=some r):GTo Try.prog 17 [.val (.int .i64 a0),.val (.int .i64 a1)] O n (.ref n 0) (Zy O n [some ⟨false,62,3,1,[.row (n+1) r.segments.length,.val (.int .i64 r.size),.val (.int .i64 r.left)]⟩,some ⟨true,22,1,r.segments.length,fl (eL (eI .u64)) r.segments⟩]) (n+2):=by
 unfold Ztp at h
 refine Yj Zc Try.call17 Try.func17 rfl (Nat.le_of_ble_eq_true rfl) (by omega) fun hU => ?_
 have hN0:O n=none:=hU.fresh _ (Nat.le_refl _)
 have hN:∀ k,O (n+k)=none:=fun k=>hU.fresh _ (Nat.le_add_right _ _)
 show W _ _ _ _ ⟨12,[],[(0,.val (.int .i64 a0)),(1,.val (.int .i64 a1))]⟩ (Zy O n []) _
 refine Zp [0,1] (Zb Zc [] ?_)
 simp only [push_cast,seval,Za,hN0,hN]
 refine Zp [4] (Zb Zc [] ?_)
 simp only [push_cast,seval,Za,hN0,hN]
 refine Zu ?_
 try simp only [Zk,Zg]
 have h:=Option.some.inj h;subst h
 refine Z0r (k:=2) (L3:=[some ⟨false,62,3,1,[.row (n+1) ([]:List (List Int)).length,.val (.int .i64 (if a0 < 1 then 1 else a0)),.val (.int .i64 (if 131072 < (if a1 < 0 then 0 else a1) then 131072 else (if a1 < 0 then 0 else a1)))]⟩,some ⟨true,22,1,([]:List (List Int)).length,fl (eL (eI .u64)) ([]:List (List Int))⟩,none]) (E2:=(⟨12,[],[(4,.ref n 0)]⟩:Env)) (n3:=(n+3)) (.inr rfl) hU rfl [.ref n 0] ?_ ?_
 ·refine Fit2.trans (E':=(⟨12,[],[(4,.ref n 0)]⟩:Env)) (O':=(Zy O n [some ⟨false,62,3,1,[.val (.slice none 0 0),.val (.int .i64 (if a0 < 1 then 1 else a0)),.val (.int .i64 (if 131072 < (if a1 < 0 then 0 else a1) then 131072 else (if a1 < 0 then 0 else a1)))]⟩])) (n':=(n+1)) (Fit2.of (Zr hU rfl rfl ?_) (by omega)) ?_
  ·simp only [push_cast,seval,Za,hN0,hN]
  refine Fit2.trans (Zdt (p:=n) (k:=0) (q:=⟨false,62,3,1,[.val (.slice none 0 0),.val (.int .i64 (if a0 < 1 then 1 else a0)),.val (.int .i64 (if 131072 < (if a1 < 0 then 0 else a1) then 131072 else (if a1 < 0 then 0 else a1)))]⟩) 22 1 (by simp only [V8,Zbx,List.getElem?_cons_zero,List.getElem?_cons_succ,Option.join_some,List.length_nil,Z9]) rfl (by omega)) ?_
  simp only [Uc,Kv,Zam,U3,List.set_cons_zero,List.set_cons_succ,List.cons_append,List.nil_append,List.length_cons,List.length_nil,Nat.zero_add,Nat.reduceAdd,Nat.reduceLT,Nat.add_assoc]
  refine Zku (k:=2) (k':=3) hU [0,1] [0,1,0] rfl rfl rfl rfl ⟨rfl,rfl⟩ ?_
  simp only [push_cast,seval,Za,hN0,hN]
 simp only [push_cast,seval,Za,Try.results17,hN0,hN]
theorem Zpv {a0:(Option Zm)} {r:Int} {O:Objs} {n:Nat} (h:Ui a0=some r):GTo Try.prog 84 [(gP Zo a0)] O n (.val (.int .i64 r)) O n:=by
 unfold Ui at h
 refine Yj Zc Try.call84 Try.func84 rfl (Nat.le_of_ble_eq_true rfl) (Nat.le_refl _) fun hU => ?_
 have hN0:O n=none:=hU.fresh _ (Nat.le_refl _)
 have hN:∀ k,O (n+k)=none:=fun k=>hU.fresh _ (Nat.le_add_right _ _)
 show W _ _ _ _ ⟨10,[],[(0,(gP Zo a0))]⟩ (Zy O n []) _
 refine Zp [0] (Zb Zc [] ?_)
 simp only [push_cast,seval,Za,hN0,hN]
 refine Zj ?_
 have g2:=Ztj (f:=Zo) (t:=28) Zhx a0
 refine Zp [0,4] (Zb Zc [] ?_)
 simp only [push_cast,seval,Za,g2,hN0,hN]
 refine Zs (t:=(Option.isNone a0)) rfl (fun c5 => ?_) (fun c5 => ?_)
 ·replace h:=Z3 c5 h
  refine Zp [2] (Zb Zc [] ?_)
  simp only [push_cast,seval,Za,hN0,hN]
  refine Zu ?_
  try simp only [Zk,Zg]
  have h:=Option.some.inj h;subst h
  refine Zq (.inr rfl) hU [.val (.int .i64 0)] (by omega) ?_
  simp only [push_cast,seval,Za,Try.results84,hN0,hN]
 replace h:=Z0 c5 h
 refine Zw ?_
 try simp only [Zk,Zg]
 refine Zl [0] [] ?_
 simp only [push_cast,seval]
 obtain ⟨x4,hx4,h⟩:=bC h
 refine Zp [2] (Zb Zc [] ?_)
 simp only [push_cast,seval,Za,hx4,hN0,hN]
 refine Zu ?_
 try simp only [Zk,Zg]
 have h:=Option.some.inj h;subst h
 refine Zq (.inr rfl) hU [.val (.int .i64 (x4.segments.length:Int))] (by omega) ?_
 simp only [push_cast,seval,Za,Try.results84,hN0,hN]
theorem Gm {a0 r:List Int} {O:Objs} {n:Nat} (h:Xd a0=some r):GTo Try.prog 41 [.sl a0.length (fl (eI .u64) a0)] O n (.row n r.length) (Zy O n [some ⟨true,44,1,r.length,fl (eI .u64) r⟩]) (n+1):=by
 have h1:=Z2s h
 have h2:=Z2t h
 have h3:=Zys h
 rw [List.nil_append] at h3
 subst h3
 simp only [List.length_nil,Nat.zero_add] at h1 h2
 clear h
 refine Yj Zc Try.call41 Try.func41 rfl (Nat.le_of_ble_eq_true rfl) (by omega) fun hU => ?_
 have hN0:O n=none:=hU.fresh _ (Nat.le_refl _)
 have hN:∀ k,O (n+k)=none:=fun k=>hU.fresh _ (Nat.le_add_right _ _)
 show W _ _ _ _ ⟨8,[],[(0,.sl r.length (fl (eI .u64) r))]⟩ (Zy O n []) _
 refine Zp [0] (Zb Zc [] ?_)
 simp only [push_cast,seval,Za,hN0,hN]
 refine Ybk 0 r.length (fl (eI .u64) r) rfl (Nat.le_of_ble_eq_true rfl) (Ys K0 _) fun A c hA => ?_
 refine Zp [0,4] (Zb Zc [] ?_)
 simp only [push_cast,seval,Za,hN0,hN]
 cases A with
 | none =>
  obtain rfl:r=[]:=List.eq_nil_of_length_eq_zero (hA rfl)
  refine Zs (t:=true) rfl (fun _ => ?_) (fun hc=>by cases hc)
  refine Zp [2] (Zb Zc [] ?_)
  simp only [push_cast,seval,Za,hN0,hN]
  refine Zu ?_
  try simp only [Zk,Zg]
  refine Z0r (k:=1) (L3:=[some ⟨true,44,1,0,[]⟩]) (E2:=⟨8,[],[(2,.row n 0),(2,.val (.slice none 0 0))]⟩) (n3:=(n+1)) (.inr rfl) hU rfl [.row n 0] ?_ ?_
  ·have ha:=Zrl (ba:=n) (E:=⟨8,[],[(2,.val (.slice none 0 0))]⟩) (O:=(Zy O n [])) (n:=n) 2 44 1 rfl (by omega)
   simp only [Kv] at ha
   exact ha
  simp only [push_cast,seval,Za,Try.results41,hN0,hN]
 | some A =>
  refine Zs (t:=false) rfl (fun hc=>by cases hc) (fun _ => ?_)
  refine Zw ?_
  try simp only [Zk,Zg]
  refine And.intro rfl (And.intro (Nat.le_of_ble_eq_true rfl) ?_)
  refine Zj ?_
  refine Zb Zc [] ?_
  simp only [push_cast,seval,Za,h1,h2,hN0,hN]
  refine Zu ?_
  try simp only [Zk,Zg]
  refine Z64 (.inr rfl) hU rfl [.row n r.length] (by omega) ?_
  simp only [push_cast,seval,Za,Try.results41,hN0,hN]
theorem Zec {a0 r:List Int} {O:Objs} {n:Nat} (h:Xd a0=some r):GTo Try.prog 41 [.sl a0.length (fl (eI .u64) a0)] O n (.sl r.length (fl (eI .u64) r)) O n:=by
 refine GTo.freeze (Gm h) fun hU => ?_
 have hN0:O n=none:=hU.fresh _ (Nat.le_refl _)
 have hN:∀ k,O (n+k)=none:=fun k=>hU.fresh _ (Nat.le_add_right _ _)
 simp only [push_cast,seval,Za,hN0,hN]
theorem Zln {a0:(List (List Int))} {r:(List (List Int))} {O:Objs} {n:Nat} (h:Zac a0=some r):GTo Try.prog 25 [.sl a0.length (fl (eL (eI .u64)) a0)] O n (.sl r.length (fl (eL (eI .u64)) r)) O n:=by
 unfold Zac at h
 refine Yj Zc Try.call25 Try.func25 rfl (Nat.le_of_ble_eq_true rfl) (Nat.le_refl _) fun hU => ?_
 have hN0:O n=none:=hU.fresh _ (Nat.le_refl _)
 have hN:∀ k,O (n+k)=none:=fun k=>hU.fresh _ (Nat.le_add_right _ _)
 show W _ _ _ _ ⟨23,[],[(0,.sl a0.length (fl (eL (eI .u64)) a0))]⟩ (Zy O n []) _
 refine Zp [0] (Zb Zc [] ?_)
 simp only [push_cast,seval,Za,hN0,hN]
 refine Zj ?_
 obtain ⟨l2,al2,bl2,cl2,el2,h⟩:=bM2 (c:=24) rfl h
 have nl2:Int.toNat (a0.length:Int)=List.length l2:=by rw [el2,List.length_replicate]
 have fl2:∀ O O' n,Vh O O' n (List.replicate (List.length l2) [G.val (.slice none 0 0)]).flatten (fl (eL (eI .u64)) l2)=True:=fun O O' n=>by rw [← nl2,el2];exact eq_true (Z2g _ _)
 clear el2
 refine Zb Zc [] ?_
 simp only [push_cast,seval,Za,al2,bl2,cl2,fl2,nl2,hN0,hN]
 refine Zb2 ⟨23,[],[(0,.sl a0.length (fl (eL (eI .u64)) a0)),(3,.row n l2.length)]⟩ (Zy O n [some ⟨true,22,1,l2.length,fl (eL (eI .u64)) l2⟩]) (Zr hU rfl rfl ?_) ?_
 ·simp only [push_cast,seval,Za,al2,bl2,cl2,fl2,nl2,hN0,hN]
 refine Zj ?_
 refine Zp [3,9,10,11] (Zb Zc [] ?_)
 simp only [push_cast,seval,Za,hN0,hN]
 refine Zl [3,9,10,11] [true] ?_
 simp only [push_cast,seval]
 obtain ⟨z9,hz9,h⟩:=bC h
 refine X1 (E':=⟨23,[],[(3,.row n z9.length)]⟩) (O':=(Zy O n [some ⟨true,22,1,z9.length,fl (eL (eI .u64)) z9⟩])) (n0:=(n+1)) ?_ ?_
 ·refine Jq hz9 (fun s0_=>⟨23,[],[(3,.row n s0_.2.length),(9,.sl a0.length (fl (eL (eI .u64)) a0)),(10,.val (.int .i64 (a0.length:Int))),(11,.val (.int .i64 s0_.1))]⟩) (fun s0_=>(Zy O n [some ⟨true,22,1,s0_.2.length,fl (eL (eI .u64)) s0_.2⟩])) (fun z9=>JX 0 n (⟨23,[],[(3,.row n z9.length)]⟩:Env) (Zy O n [some ⟨true,22,1,z9.length,fl (eL (eI .u64)) z9⟩]) (n+1)) ?_
  intro s0_ x0_ hs0_
  unfold Vj at hs0_
  try dsimp only
  refine Zp [3,9,10,11,12] (Zb Zc [] ?_)
  simp only [push_cast,seval,Za,hN0,hN]
  refine Zj ?_
  refine Zs (t:=(decide (s0_.1 < (a0.length:Int)))) rfl (fun c8 => ?_) (fun c8 => ?_)
  ·replace hs0_:=Z3 c8 hs0_
   refine Zw ?_
   try simp only [Zk,Zg]
   refine Zl [3,9,10,11] [true] ?_
   simp only [push_cast,seval]
   refine Zj ?_
   refine Yn ?_
   obtain ⟨x4,hx4,ax4,bx4,cx4,hs0_⟩:=bE (f:=(eL (eI .u64))) Zdq (fun _=>rfl) (by decide) hs0_
   refine Zp [3,4,5,9,10,11] (Zb Zc [] ?_)
   simp only [push_cast,Nat.reduceAdd,Nat.reduceSub,Nat.reduceMul,Nat.reduceLeDiff,Nat.reduceLT,Nat.reduceEqDiff,↓reduceIte,reduceCtorEq,Int.reduceBEq,Int.reduceBNe,Nat.reduceBEq,Int.reduceLE,Int.reduceLT,Int.reduceEq,Int.reduceNe,Int.reduceNeg,Nat.reduceDiv,Nat.reduceMod,Nat.reducePow,Za,ax4,bx4,cx4,hN0,hN]
   obtain ⟨y5,hy5,hs0_⟩:=bC hs0_
   obtain ⟨x6,hx6,ax6,bx6,cx6,hs0_⟩:=bE (f:=(eL (eI .u64))) Zdq (fun _=>rfl) (by decide) hs0_
   have gu7:Uv (fl (eL (eI .u64)) s0_.2) [.sl y5.length (fl (eI .u64) y5)] (Int.toNat s0_.1 * 1)=some (fl (eL (eI .u64)) (Xr s0_.2 s0_.1 y5)):=Zit (f:=(eL (eI .u64))) (ti:=⟨.bool,1,0,[],false⟩) (x:=y5) (fun _=>rfl) (Zc3 hx6)
   refine Zb Zc [] ?_
   simp only [push_cast,Nat.reduceAdd,Nat.reduceSub,Nat.reduceMul,Nat.reduceLeDiff,Nat.reduceLT,Nat.reduceEqDiff,↓reduceIte,reduceCtorEq,Int.reduceBEq,Int.reduceBNe,Nat.reduceBEq,Int.reduceLE,Int.reduceLT,Int.reduceEq,Int.reduceNe,Int.reduceNeg,Nat.reduceDiv,Nat.reduceMod,Nat.reducePow,Za,ax6,bx6,cx6,gu7,hN0,hN]
   refine (Zec hy5).then ?_
   simp only [push_cast,Nat.reduceAdd,Nat.reduceSub,Nat.reduceMul,Nat.reduceLeDiff,Nat.reduceLT,Nat.reduceEqDiff,↓reduceIte,reduceCtorEq,Int.reduceBEq,Int.reduceBNe,Nat.reduceBEq,Int.reduceLE,Int.reduceLT,Int.reduceEq,Int.reduceNe,Int.reduceNeg,Nat.reduceDiv,Nat.reduceMod,Nat.reducePow,Za,ax6,bx6,cx6,gu7,hN0,hN]
   refine Zl [3,9,10,11] [true] ?_
   simp only [push_cast,seval]
   refine Zb Zc [] ?_
   simp only [push_cast,seval,Za,hN0,hN]
   have hs0_:=Option.some.inj hs0_;subst hs0_
   refine And.intro rfl (Fit2.of (Zr hU rfl rfl ?_) (by omega))
   simp only [push_cast,seval,Za,hN0,hN]
  replace hs0_:=Z0 c8 hs0_
  refine Jt ?_
  try simp only [Zk,Zg,↓reduceIte,Nat.reduceEqDiff]
  have hs0_:=Option.some.inj hs0_;subst hs0_
  refine And.intro (fun h=>by cases h) (And.intro rfl (Fit2.of (Zr hU rfl rfl ?_) (by omega)))
  simp only [push_cast,seval,Za,hN0,hN]
 try simp only [Zk,Zg,↓reduceIte,Nat.reduceEqDiff]
 refine Zl [3] [true] ?_
 simp only [push_cast,seval]
 refine Zp [2] (Zb Zc [] ?_)
 simp only [push_cast,seval,Za,hN0,hN]
 refine Zu ?_
 try simp only [Zk,Zg]
 have h:=Option.some.inj h;subst h
 refine Zq (.inr rfl) hU [.row n z9.length] (by omega) ?_
 simp only [push_cast,seval,Za,Try.results25,hN0,hN]
theorem Zch {a0:(Option Zm)} {r:(List (List Int))} {O:Objs} {n:Nat} (h:Xf a0=some r):GTo Try.prog 10 [(gP Zo a0)] O n (.sl r.length (fl (eL (eI .u64)) r)) O n:=by
 unfold Xf at h
 refine Yj Zc Try.call10 Try.func10 rfl (Nat.le_of_ble_eq_true rfl) (Nat.le_refl _) fun hU => ?_
 have hN0:O n=none:=hU.fresh _ (Nat.le_refl _)
 have hN:∀ k,O (n+k)=none:=fun k=>hU.fresh _ (Nat.le_add_right _ _)
 show W _ _ _ _ ⟨10,[],[(0,(gP Zo a0))]⟩ (Zy O n []) _
 refine Zp [0] (Zb Zc [] ?_)
 simp only [push_cast,seval,Za,hN0,hN]
 refine Zj ?_
 have g2:=Ztj (f:=Zo) (t:=28) Zhx a0
 refine Zp [0,4] (Zb Zc [] ?_)
 simp only [push_cast,seval,Za,g2,hN0,hN]
 refine Zs (t:=(Option.isNone a0)) rfl (fun c7 => ?_) (fun c7 => ?_)
 ·replace h:=Z3 c7 h
  refine Zp [2] (Zb Zc [] ?_)
  simp only [push_cast,seval,Za,hN0,hN]
  refine Zu ?_
  try simp only [Zk,Zg]
  have h:=Option.some.inj h;subst h
  refine Zq (.inr rfl) hU [.val (.slice none 0 0)] (by omega) ?_
  simp only [push_cast,seval,Za,Try.results10,hN0,hN]
 replace h:=Z0 c7 h
 refine Zw ?_
 try simp only [Zk,Zg]
 refine Zl [0] [] ?_
 simp only [push_cast,seval]
 refine Zj ?_
 obtain ⟨x5,hx5,h⟩:=bC h
 obtain ⟨y6,hy6,h⟩:=bC h
 refine Zb Zc [] ?_
 simp only [push_cast,seval,Za,hx5,hN0,hN]
 refine (Zln hy6).then ?_
 simp only [push_cast,seval,Za,hx5,hN0,hN]
 refine Zl [2] [] ?_
 simp only [push_cast,seval]
 refine Zu ?_
 try simp only [Zk,Zg]
 have h:=Option.some.inj h;subst h
 refine Zq (.inr rfl) hU [.sl y6.length (fl (eL (eI .u64)) y6)] (by omega) ?_
 simp only [push_cast,seval,Za,Try.results10,hN0,hN]
theorem Yx {a0:(Option Zm)} {a1:Int} {r:Bool} {O:Objs} {n:Nat} (h:Xz a0 a1=some r):GTo Try.prog 71 [(gP Zo a0),.val (.int .i64 a1)] O n (.val (.bool r)) O n:=by
 unfold Xz at h
 refine Yj Zc Try.call71 Try.func71 rfl (Nat.le_of_ble_eq_true rfl) (Nat.le_refl _) fun hU => ?_
 have hN0:O n=none:=hU.fresh _ (Nat.le_refl _)
 have hN:∀ k,O (n+k)=none:=fun k=>hU.fresh _ (Nat.le_add_right _ _)
 show W _ _ _ _ ⟨13,[],[(0,(gP Zo a0)),(1,.val (.int .i64 a1))]⟩ (Zy O n []) _
 refine Zp [0,1] (Zb Zc [] ?_)
 simp only [push_cast,seval,Za,hN0,hN]
 obtain ⟨z2,hz2,h⟩:=bC h
 refine Xk (E':=⟨13,[],[(4,.val (.bool z2))]⟩) (O':=(Zy O n [])) (n0:=n) ?_ ?_
 ·rcases Bool.eq_false_or_eq_true (decide (0≤a1)) with c5 | c5
  ·replace hz2:=Z3 c5 hz2
   obtain ⟨y4,hy4,hz2⟩:=bC hz2
   refine Zb Zc (Z5x []) ?_
   simp only [push_cast,seval,Za,c5,hN0,hN]
   refine (Zpv hy4).then ?_
   simp only [push_cast,seval,Za,c5,hN0,hN]
   have hz2:=Option.some.inj hz2;subst hz2
   refine And.intro rfl (Fit2.of (Zr hU rfl rfl ?_) (by omega))
   simp only [push_cast,seval,Za,c5,hN0,hN]
  replace hz2:=Z0 c5 hz2
  refine Zb Zc (Z5v []) ?_
  simp only [push_cast,seval,Za,c5,hN0,hN]
  have hz2:=Option.some.inj hz2;subst hz2
  refine And.intro rfl (Fit2.of (Zr hU rfl rfl ?_) (by omega))
  simp only [push_cast,seval,Za,c5,hN0,hN]
 refine Zu ?_
 try simp only [Zk,Zg]
 have h:=Option.some.inj h;subst h
 refine Zq (.inr rfl) hU [.val (.bool z2)] (by omega) ?_
 simp only [push_cast,seval,Za,Try.results71,hN0,hN]
theorem Zbp {a0:(Option Zm)} {a1:Int} {r:Int} {O:Objs} {n:Nat} (h:Jg a0 a1=some r):GTo Try.prog 90 [(gP Zo a0),.val (.int .i64 a1)] O n (.val (.int .i64 r)) O n:=by
 unfold Jg at h
 refine Yj Zc Try.call90 Try.func90 rfl (Nat.le_of_ble_eq_true rfl) (Nat.le_refl _) fun hU => ?_
 have hN0:O n=none:=hU.fresh _ (Nat.le_refl _)
 have hN:∀ k,O (n+k)=none:=fun k=>hU.fresh _ (Nat.le_add_right _ _)
 show W _ _ _ _ ⟨17,[],[(0,(gP Zo a0)),(1,.val (.int .i64 a1))]⟩ (Zy O n []) _
 refine Zp [0,1] (Zb Zc [] ?_)
 simp only [push_cast,seval,Za,hN0,hN]
 refine Zj ?_
 refine Zj ?_
 obtain ⟨y2,hy2,h⟩:=bC h
 refine Zb Zc [] ?_
 simp only [push_cast,seval,Za,hN0,hN]
 refine (Yx hy2).then ?_
 simp only [push_cast,seval,Za,hN0,hN]
 refine Zl [0,1,8] [] ?_
 simp only [push_cast,seval]
 refine Zs (t:=(!y2)) rfl (fun c7 => ?_) (fun c7 => ?_)
 ·replace h:=Z3 c7 h
  refine Zp [4] (Zb Zc [] ?_)
  simp only [push_cast,seval,Za,hN0,hN]
  refine Zu ?_
  try simp only [Zk,Zg]
  have h:=Option.some.inj h;subst h
  refine Zq (.inr rfl) hU [.val (.int .i64 0)] (by omega) ?_
  simp only [push_cast,seval,Za,Try.results90,hN0,hN]
 replace h:=Z0 c7 h
 refine Zw ?_
 try simp only [Zk,Zg]
 refine Zl [0,1] [] ?_
 simp only [push_cast,seval]
 obtain ⟨x5,hx5,h⟩:=bC h
 obtain ⟨x6,hx6,ax6,bx6,cx6,h⟩:=bE (f:=(eL (eI .u64))) Zdq (fun _=>rfl) (by decide) h
 refine Zp [4] (Zb Zc [] ?_)
 simp only [push_cast,Nat.reduceAdd,Nat.reduceSub,Nat.reduceMul,Nat.reduceLeDiff,Nat.reduceLT,Nat.reduceEqDiff,↓reduceIte,reduceCtorEq,Int.reduceBEq,Int.reduceBNe,Nat.reduceBEq,Int.reduceLE,Int.reduceLT,Int.reduceEq,Int.reduceNe,Int.reduceNeg,Nat.reduceDiv,Nat.reduceMod,Nat.reducePow,Za,hx5,ax6,bx6,cx6,hN0,hN]
 refine Zu ?_
 try simp only [Zk,Zg]
 have h:=Option.some.inj h;subst h
 refine Zq (.inr rfl) hU [.val (.int .i64 (x6.length:Int))] (by omega) ?_
 simp only [push_cast,seval,Za,Try.results90,hN0,hN]
theorem V0 {a0:(Option Zm)} {a1:Int} {a2:Int} {a3:Int} {r:Bool} {O:Objs} {n:Nat} (h:X4 a0 a1 a2 a3=some r):GTo Try.prog 82 [(gP Zo a0),.val (.int .i64 a1),.val (.int .i64 a2),.val (.int .i64 a3)] O n (.val (.bool r)) O n:=by
 unfold X4 at h
 refine Yj Zc Try.call82 Try.func82 rfl (Nat.le_of_ble_eq_true rfl) (Nat.le_refl _) fun hU => ?_
 have hN0:O n=none:=hU.fresh _ (Nat.le_refl _)
 have hN:∀ k,O (n+k)=none:=fun k=>hU.fresh _ (Nat.le_add_right _ _)
 show W _ _ _ _ ⟨36,[],[(0,(gP Zo a0)),(1,.val (.int .i64 a1)),(2,.val (.int .i64 a2)),(3,.val (.int .i64 a3))]⟩ (Zy O n []) _
 refine Zp [0,1,2,3] (Zb Zc [] ?_)
 simp only [push_cast,seval,Za,hN0,hN]
 obtain ⟨z4,hz4,h⟩:=bC h
 refine Xk (E':=⟨36,[],[(8,.val (.bool z4))]⟩) (O':=(Zy O n [])) (n0:=n) ?_ ?_
 ·obtain ⟨y8,hy8,hz4⟩:=bC hz4
  rcases Bool.eq_false_or_eq_true y8 with c11 | c11
  ·replace hz4:=Z3 c11 hz4
   rcases Bool.eq_false_or_eq_true (decide (0≤a2)) with c12 | c12
   ·replace hz4:=Z3 c12 hz4
    try rw [c12] at c11
    rcases Bool.eq_false_or_eq_true (decide (0≤a3)) with c13 | c13
    ·replace hz4:=Z3 c13 hz4
     try rw [c13] at c11
     try rw [c13] at c12
     obtain ⟨y9,hy9,hz4⟩:=bC hz4
     rcases Bool.eq_false_or_eq_true (decide (a3≤y9)) with c14 | c14
     ·replace hz4:=Z3 c14 hz4
      try rw [c14] at c11
      try rw [c14] at c12
      try rw [c14] at c13
      obtain ⟨y10,hy10,hz4⟩:=bC hz4
      refine Zb Zc (Z1j (Ybd [])) ?_
      simp only [push_cast,seval,Za,c11,c12,c13,c14,hN0,hN]
      repeat (with_reducible refine And.intro (by first | (intro h0;simp only [h0,and_self];done) | (intro h0;simp only [h0,Bool.not_false,Bool.not_true,Bool.true_and,Bool.and_true,true_and,and_true,and_self,imp_self,implies_true,bne_iff_ne,ne_eq,beq_iff_eq];done) | (intros;simp_all;done) | exact True.intro) ?_)
      refine (Yx hy8).then ?_
      simp only [push_cast,seval,Za,c11,c12,c13,c14,hN0,hN]
      repeat (with_reducible refine And.intro (by first | (intro h0;simp only [h0,and_self];done) | (intro h0;simp only [h0,Bool.not_false,Bool.not_true,Bool.true_and,Bool.and_true,true_and,and_true,and_self,imp_self,implies_true,bne_iff_ne,ne_eq,beq_iff_eq];done) | (intros;simp_all;done) | exact True.intro) ?_)
      refine (Zbp hy9).then ?_
      simp only [push_cast,seval,Za,c11,c12,c13,c14,hN0,hN]
      repeat (with_reducible refine And.intro (by first | (intro h0;simp only [h0,and_self];done) | (intro h0;simp only [h0,Bool.not_false,Bool.not_true,Bool.true_and,Bool.and_true,true_and,and_true,and_self,imp_self,implies_true,bne_iff_ne,ne_eq,beq_iff_eq];done) | (intros;simp_all;done) | exact True.intro) ?_)
      refine (Zbp hy10).then ?_
      simp only [push_cast,seval,Za,c11,c12,c13,c14,hN0,hN]
      repeat (with_reducible refine And.intro (by first | (intro h0;simp only [h0,and_self];done) | (intro h0;simp only [h0,Bool.not_false,Bool.not_true,Bool.true_and,Bool.and_true,true_and,and_true,and_self,imp_self,implies_true,bne_iff_ne,ne_eq,beq_iff_eq];done) | (intros;simp_all;done) | exact True.intro) ?_)
      have hz4:=Option.some.inj hz4;subst hz4
      refine And.intro rfl (Fit2.of (Zr hU rfl rfl ?_) (by omega))
      simp only [push_cast,seval,Za,c11,c12,c13,c14,hN0,hN]
     replace hz4:=Z0 c14 hz4
     try rw [c14] at c11
     try rw [c14] at c12
     try rw [c14] at c13
     refine Zb Zc (Z1j (Yca (Z5w []))) ?_
     simp only [push_cast,seval,Za,c11,c12,c13,c14,hN0,hN]
     repeat (with_reducible refine And.intro (by first | (intro h0;simp only [h0,and_self];done) | (intro h0;simp only [h0,Bool.not_false,Bool.not_true,Bool.true_and,Bool.and_true,true_and,and_true,and_self,imp_self,implies_true,bne_iff_ne,ne_eq,beq_iff_eq];done) | (intros;simp_all;done) | exact True.intro) ?_)
     refine (Yx hy8).then ?_
     simp only [push_cast,seval,Za,c11,c12,c13,c14,hN0,hN]
     repeat (with_reducible refine And.intro (by first | (intro h0;simp only [h0,and_self];done) | (intro h0;simp only [h0,Bool.not_false,Bool.not_true,Bool.true_and,Bool.and_true,true_and,and_true,and_self,imp_self,implies_true,bne_iff_ne,ne_eq,beq_iff_eq];done) | (intros;simp_all;done) | exact True.intro) ?_)
     refine (Zbp hy9).then ?_
     simp only [push_cast,seval,Za,c11,c12,c13,c14,hN0,hN]
     repeat (with_reducible refine And.intro (by first | (intro h0;simp only [h0,and_self];done) | (intro h0;simp only [h0,Bool.not_false,Bool.not_true,Bool.true_and,Bool.and_true,true_and,and_true,and_self,imp_self,implies_true,bne_iff_ne,ne_eq,beq_iff_eq];done) | (intros;simp_all;done) | exact True.intro) ?_)
     have hz4:=Option.some.inj hz4;subst hz4
     refine And.intro rfl (Fit2.of (Zr hU rfl rfl ?_) (by omega))
     simp only [push_cast,seval,Za,c11,c12,c13,c14,hN0,hN]
    replace hz4:=Z0 c13 hz4
    try rw [c13] at c11
    try rw [c13] at c12
    refine Zb Zc (Z1j (Z4k [])) ?_
    simp only [push_cast,seval,Za,c11,c12,c13,hN0,hN]
    repeat (with_reducible refine And.intro (by first | (intro h0;simp only [h0,and_self];done) | (intro h0;simp only [h0,Bool.not_false,Bool.not_true,Bool.true_and,Bool.and_true,true_and,and_true,and_self,imp_self,implies_true,bne_iff_ne,ne_eq,beq_iff_eq];done) | (intros;simp_all;done) | exact True.intro) ?_)
    refine (Yx hy8).then ?_
    simp only [push_cast,seval,Za,c11,c12,c13,hN0,hN]
    repeat (with_reducible refine And.intro (by first | (intro h0;simp only [h0,and_self];done) | (intro h0;simp only [h0,Bool.not_false,Bool.not_true,Bool.true_and,Bool.and_true,true_and,and_true,and_self,imp_self,implies_true,bne_iff_ne,ne_eq,beq_iff_eq];done) | (intros;simp_all;done) | exact True.intro) ?_)
    have hz4:=Option.some.inj hz4;subst hz4
    refine And.intro rfl (Fit2.of (Zr hU rfl rfl ?_) (by omega))
    simp only [push_cast,seval,Za,c11,c12,c13,hN0,hN]
   replace hz4:=Z0 c12 hz4
   try rw [c12] at c11
   refine Zb Zc (Z1j (Z4k [])) ?_
   simp only [push_cast,seval,Za,c11,c12,hN0,hN]
   repeat (with_reducible refine And.intro (by first | (intro h0;simp only [h0,and_self];done) | (intro h0;simp only [h0,Bool.not_false,Bool.not_true,Bool.true_and,Bool.and_true,true_and,and_true,and_self,imp_self,implies_true,bne_iff_ne,ne_eq,beq_iff_eq];done) | (intros;simp_all;done) | exact True.intro) ?_)
   refine (Yx hy8).then ?_
   simp only [push_cast,seval,Za,c11,c12,hN0,hN]
   repeat (with_reducible refine And.intro (by first | (intro h0;simp only [h0,and_self];done) | (intro h0;simp only [h0,Bool.not_false,Bool.not_true,Bool.true_and,Bool.and_true,true_and,and_true,and_self,imp_self,implies_true,bne_iff_ne,ne_eq,beq_iff_eq];done) | (intros;simp_all;done) | exact True.intro) ?_)
   have hz4:=Option.some.inj hz4;subst hz4
   refine And.intro rfl (Fit2.of (Zr hU rfl rfl ?_) (by omega))
   simp only [push_cast,seval,Za,c11,c12,hN0,hN]
  replace hz4:=Z0 c11 hz4
  refine Zb Zc (Z1j (Z4k [])) ?_
  simp only [push_cast,seval,Za,c11,hN0,hN]
  repeat (with_reducible refine And.intro (by first | (intro h0;simp only [h0,and_self];done) | (intro h0;simp only [h0,Bool.not_false,Bool.not_true,Bool.true_and,Bool.and_true,true_and,and_true,and_self,imp_self,implies_true,bne_iff_ne,ne_eq,beq_iff_eq];done) | (intros;simp_all;done) | exact True.intro) ?_)
  refine (Yx hy8).then ?_
  simp only [push_cast,seval,Za,c11,hN0,hN]
  repeat (with_reducible refine And.intro (by first | (intro h0;simp only [h0,and_self];done) | (intro h0;simp only [h0,Bool.not_false,Bool.not_true,Bool.true_and,Bool.and_true,true_and,and_true,and_self,imp_self,implies_true,bne_iff_ne,ne_eq,beq_iff_eq];done) | (intros;simp_all;done) | exact True.intro) ?_)
  have hz4:=Option.some.inj hz4;subst hz4
  refine And.intro rfl (Fit2.of (Zr hU rfl rfl ?_) (by omega))
  simp only [push_cast,seval,Za,c11,hN0,hN]
 refine Zu ?_
 try simp only [Zk,Zg]
 have h:=Option.some.inj h;subst h
 refine Zq (.inr rfl) hU [.val (.bool z4)] (by omega) ?_
 simp only [push_cast,seval,Za,Try.results82,hN0,hN]
theorem Vz {a0:(Option Zm)} {a1:Int} {a2:Int} {r:(Int×Bool)} {O:Objs} {n:Nat} (h:X3 a0 a1 a2=some r):GTo Try.prog 75 [(gP Zo a0),.val (.int .i64 a1),.val (.int .i64 a2)] O n (.tup [.val (.int .u64 r.1),.val (.bool r.2)]) O n:=by
 unfold X3 at h
 refine Yj Zc Try.call75 Try.func75 rfl (Nat.le_of_ble_eq_true rfl) (Nat.le_refl _) fun hU => ?_
 have hN0:O n=none:=hU.fresh _ (Nat.le_refl _)
 have hN:∀ k,O (n+k)=none:=fun k=>hU.fresh _ (Nat.le_add_right _ _)
 show W _ _ _ _ ⟨23,[],[(0,(gP Zo a0)),(1,.val (.int .i64 a1)),(2,.val (.int .i64 a2))]⟩ (Zy O n []) _
 refine Zp [0,1,2] (Zb Zc [] ?_)
 simp only [push_cast,seval,Za,hN0,hN]
 refine Zj ?_
 refine Zj ?_
 obtain ⟨y2,hy2,h⟩:=bC h
 refine Zb Zc [] ?_
 simp only [push_cast,seval,Za,hN0,hN]
 refine (V0 hy2).then ?_
 simp only [push_cast,seval,Za,hN0,hN]
 refine Zl [0,1,2,12] [] ?_
 simp only [push_cast,seval]
 refine Zs (t:=(!y2)) rfl (fun c9 => ?_) (fun c9 => ?_)
 ·replace h:=Z3 c9 h
  refine Zp [6,7] (Zb Zc [] ?_)
  simp only [push_cast,seval,Za,hN0,hN]
  refine Zu ?_
  try simp only [Zk,Zg]
  have h:=Option.some.inj h;subst h
  refine Zq (.inr rfl) hU [.val (.int .u64 0),.val (.bool false)] (by omega) ?_
  simp only [push_cast,seval,Za,Try.results75,hN0,hN]
 replace h:=Z0 c9 h
 refine Zw ?_
 try simp only [Zk,Zg]
 refine Zl [0,1,2] [] ?_
 simp only [push_cast,seval]
 obtain ⟨x6,hx6,h⟩:=bC h
 obtain ⟨x7,hx7,ax7,bx7,cx7,h⟩:=bE (f:=(eL (eI .u64))) Zdq (fun _=>rfl) (by decide) h
 obtain ⟨x8,hx8,ax8,bx8,cx8,h⟩:=bE (f:=(eI .u64)) Zap (fun _=>rfl) (by decide) h
 refine Zp [6,7] (Zb Zc [] ?_)
 simp only [push_cast,Nat.reduceAdd,Nat.reduceSub,Nat.reduceMul,Nat.reduceLeDiff,Nat.reduceLT,Nat.reduceEqDiff,↓reduceIte,reduceCtorEq,Int.reduceBEq,Int.reduceBNe,Nat.reduceBEq,Int.reduceLE,Int.reduceLT,Int.reduceEq,Int.reduceNe,Int.reduceNeg,Nat.reduceDiv,Nat.reduceMod,Nat.reducePow,Za,hx6,ax7,bx7,cx7,ax8,bx8,cx8,hN0,hN]
 refine Zu ?_
 try simp only [Zk,Zg]
 have h:=Option.some.inj h;subst h
 refine Zq (.inr rfl) hU [.val (.int .u64 x8),.val (.bool true)] (by omega) ?_
 simp only [push_cast,seval,Za,Try.results75,hN0,hN]
theorem Zoy {a0:(Option Zm)} {a1:Int} {a2:Int} {a3:Int} {r:((List Int)×Bool)} {O:Objs} {n:Nat} (h:Vv a0 a1 a2 a3=some r):GTo Try.prog 88 [(gP Zo a0),.val (.int .i64 a1),.val (.int .i64 a2),.val (.int .i64 a3)] O n (.tup [.sl r.1.length (fl (eI .u64) r.1),.val (.bool r.2)]) O n:=by
 unfold Vv at h
 refine Yj Zc Try.call88 Try.func88 rfl (Nat.le_of_ble_eq_true rfl) (Nat.le_refl _) fun hU => ?_
 have hN0:O n=none:=hU.fresh _ (Nat.le_refl _)
 have hN:∀ k,O (n+k)=none:=fun k=>hU.fresh _ (Nat.le_add_right _ _)
 show W _ _ _ _ ⟨29,[],[(0,(gP Zo a0)),(1,.val (.int .i64 a1)),(2,.val (.int .i64 a2)),(3,.val (.int .i64 a3))]⟩ (Zy O n []) _
 refine Zp [0,1,2,3] (Zb Zc [] ?_)
 simp only [push_cast,seval,Za,hN0,hN]
 refine Zj ?_
 refine Zj ?_
 obtain ⟨y2,hy2,h⟩:=bC h
 refine Zb Zc [] ?_
 simp only [push_cast,seval,Za,hN0,hN]
 refine (V0 hy2).then ?_
 simp only [push_cast,seval,Za,hN0,hN]
 refine Zl [0,1,2,3,15] [] ?_
 simp only [push_cast,seval]
 refine Zs (t:=(!y2)) rfl (fun c11 => ?_) (fun c11 => ?_)
 ·replace h:=Z3 c11 h
  refine Zp [8,9] (Zb Zc [] ?_)
  simp only [push_cast,seval,Za,hN0,hN]
  refine Zu ?_
  try simp only [Zk,Zg]
  have h:=Option.some.inj h;subst h
  refine Zq (.inr rfl) hU [.val (.slice none 0 0),.val (.bool false)] (by omega) ?_
  simp only [push_cast,seval,Za,Try.results88,hN0,hN]
 replace h:=Z0 c11 h
 refine Zw ?_
 try simp only [Zk,Zg]
 refine Zl [0,1,2,3] [] ?_
 simp only [push_cast,seval]
 refine Zj ?_
 obtain ⟨x7,hx7,h⟩:=bC h
 obtain ⟨x8,hx8,ax8,bx8,cx8,h⟩:=bE (f:=(eL (eI .u64))) Zdq (fun _=>rfl) (by decide) h
 obtain ⟨l9,al9,bl9,cl9,gl9,h⟩:=bS (lo:=(some (.i64,a2))) (hi:=(some (.i64,(IntKind.i64.wrap (a2+a3))))) (f:=(eI .u64)) rfl rfl Zfr Zap (fun _=>rfl) h
 obtain ⟨y10,hy10,h⟩:=bC h
 refine Zb Zc [] ?_
 simp only [push_cast,Nat.reduceAdd,Nat.reduceSub,Nat.reduceMul,Nat.reduceLeDiff,Nat.reduceLT,Nat.reduceEqDiff,↓reduceIte,reduceCtorEq,Int.reduceBEq,Int.reduceBNe,Nat.reduceBEq,Int.reduceLE,Int.reduceLT,Int.reduceEq,Int.reduceNe,Int.reduceNeg,Nat.reduceDiv,Nat.reduceMod,Nat.reducePow,Za,hx7,ax8,bx8,cx8,al9,bl9,cl9,gl9,hN0,hN]
 refine (Gm  hy10).then ?_
 simp only [push_cast,Nat.reduceAdd,Nat.reduceSub,Nat.reduceMul,Nat.reduceLeDiff,Nat.reduceLT,Nat.reduceEqDiff,↓reduceIte,reduceCtorEq,Int.reduceBEq,Int.reduceBNe,Nat.reduceBEq,Int.reduceLE,Int.reduceLT,Int.reduceEq,Int.reduceNe,Int.reduceNeg,Nat.reduceDiv,Nat.reduceMod,Nat.reducePow,Za,hx7,ax8,bx8,cx8,al9,bl9,cl9,gl9,hN0,hN]
 refine Zl [8,9] [true] ?_
 simp only [push_cast,seval]
 refine Zu ?_
 try simp only [Zk,Zg]
 have h:=Option.some.inj h;subst h
 refine Zq (.inr rfl) hU [.row n y10.length,.val (.bool true)] (by omega) ?_
 simp only [push_cast,seval,Za,Try.results88,hN0,hN]
theorem Z1l {a0:(List (List Int))} {r:(Option Zm)} {O:Objs} {n:Nat} (h:Zgz a0=some r):GTo Try.prog 9 [.sl a0.length (fl (eL (eI .u64)) a0)] O n ((gP Zo r)) O n:=by
 unfold Zgz at h
 refine Yj Zc Try.call9 Try.func9 rfl (Nat.le_of_ble_eq_true rfl) (Nat.le_refl _) fun hU => ?_
 have hN0:O n=none:=hU.fresh _ (Nat.le_refl _)
 have hN:∀ k,O (n+k)=none:=fun k=>hU.fresh _ (Nat.le_add_right _ _)
 show W _ _ _ _ ⟨7,[],[(0,.sl a0.length (fl (eL (eI .u64)) a0))]⟩ (Zy O n []) _
 refine Zp [0] (Zb Zc [] ?_)
 simp only [push_cast,seval,Za,hN0,hN]
 refine Zj ?_
 obtain ⟨y2,hy2,h⟩:=bC h
 refine Zb Zc [] ?_
 simp only [push_cast,seval,Za,hN0,hN]
 refine (Zln hy2).then ?_
 simp only [push_cast,seval,Za,hN0,hN]
 refine Zl [2] [true] ?_
 simp only [push_cast,seval]
 refine Zu ?_
 try simp only [Zk,Zg]
 have h:=Option.some.inj h;subst h
 refine Zq (.inr rfl) hU [.ref n 0] (by omega) ?_
 simp only [push_cast,seval,Za,Try.results9,hN0,hN]
theorem Zg1 {a0:(List Int)} {a1:(List Int)} {r:Bool} {O:Objs} {n:Nat} (h:Q2 a0 a1=some r):GTo Try.prog 27 [.sl a0.length (fl (eI .u64) a0),.sl a1.length (fl (eI .u64) a1)] O n (.val (.bool r)) O n:=by
 unfold Q2 at h
 refine Yj Zc Try.call27 Try.func27 rfl (Nat.le_of_ble_eq_true rfl) (Nat.le_refl _) fun hU => ?_
 have hN0:O n=none:=hU.fresh _ (Nat.le_refl _)
 have hN:∀ k,O (n+k)=none:=fun k=>hU.fresh _ (Nat.le_add_right _ _)
 show W _ _ _ _ ⟨26,[],[(0,.sl a0.length (fl (eI .u64) a0)),(1,.sl a1.length (fl (eI .u64) a1))]⟩ (Zy O n []) _
 refine Zp [0,1] (Zb Zc [] ?_)
 simp only [push_cast,seval,Za,hN0,hN]
 refine Zj ?_
 refine Zp [0,1,10] (Zb Zc [] ?_)
 simp only [push_cast,seval,Za,hN0,hN]
 refine Zs (t:=((a0.length:Int) != (a1.length:Int))) rfl (fun c8 => ?_) (fun c8 => ?_)
 ·replace h:=Z3 c8 h
  refine Zp [4] (Zb Zc [] ?_)
  simp only [push_cast,seval,Za,hN0,hN]
  refine Zu ?_
  try simp only [Zk,Zg]
  have h:=Option.some.inj h;subst h
  refine Zq (.inr rfl) hU [.val (.bool false)] (by omega) ?_
  simp only [push_cast,seval,Za,Try.results27,hN0,hN]
 replace h:=Z0 c8 h
 refine Zw ?_
 try simp only [Zk,Zg]
 refine Zl [0,1] [] ?_
 simp only [push_cast,seval]
 refine Zj ?_
 refine Zp [0,1,5] (Zb Zc [] ?_)
 simp only [push_cast,seval,Za,hN0,hN]
 refine Zl [0,1,5] [] ?_
 simp only [push_cast,seval]
 obtain ⟨z7,hz7,h⟩:=bC h
 refine Zkc (J:=(Zaq (fun z7=>JR n (⟨26,[],[(4,.val (.bool false))]⟩:Env) (Zy O n []) n) (fun z7=>JX 0 n (⟨26,[],[]⟩:Env) (Zy O n []) n))) (z:=z7) ?_ fun hw => ?_
 ·refine Jq hz7 (fun s0_=>⟨26,[],[(0,.sl a0.length (fl (eI .u64) a0)),(1,.sl a1.length (fl (eI .u64) a1)),(5,.val (.int .i64 s0_))]⟩) (fun s0_=>(Zy O n [])) (Zaq (fun z7=>JR n (⟨26,[],[(4,.val (.bool false))]⟩:Env) (Zy O n []) n) (fun z7=>JX 0 n (⟨26,[],[]⟩:Env) (Zy O n []) n)) ?_
  intro s0_ x0_ hs0_
  unfold Qm at hs0_
  try dsimp only
  refine Zj ?_
  refine Zp [0,1,5,14] (Zb Zc [] ?_)
  simp only [push_cast,seval,Za,hN0,hN]
  refine Zs (t:=(decide (s0_ < (a0.length:Int)))) rfl (fun c6 => ?_) (fun c6 => ?_)
  ·replace hs0_:=Z3 c6 hs0_
   refine Zw ?_
   try simp only [Zk,Zg]
   refine Zl [0,1,5] [] ?_
   simp only [push_cast,seval]
   refine Zj ?_
   refine Yn ?_
   obtain ⟨x3,hx3,ax3,bx3,cx3,hs0_⟩:=bE (f:=(eI .u64)) Zap (fun _=>rfl) (by decide) hs0_
   obtain ⟨x4,hx4,ax4,bx4,cx4,hs0_⟩:=bE (f:=(eI .u64)) Zap (fun _=>rfl) (by decide) hs0_
   refine Zp [0,1,5,25] (V6 Zc (by kernel_rfl) [] (by kernel_rfl) ?_)
   simp only [push_cast,Nat.reduceAdd,Nat.reduceSub,Nat.reduceMul,Nat.reduceLeDiff,Nat.reduceLT,Nat.reduceEqDiff,↓reduceIte,reduceCtorEq,Int.reduceBEq,Int.reduceBNe,Nat.reduceBEq,Int.reduceLE,Int.reduceLT,Int.reduceEq,Int.reduceNe,Int.reduceNeg,Nat.reduceDiv,Nat.reduceMod,Nat.reducePow,Za,ax3,bx3,cx3,ax4,bx4,cx4,hN0,hN]
   refine Zs (t:=(x3 != x4)) rfl (fun c5 => ?_) (fun c5 => ?_)
   ·replace hs0_:=Z3 c5 hs0_
    refine Zp [4] (Zb Zc [] ?_)
    simp only [push_cast,seval,Za,hN0,hN]
    refine Zu ?_
    try simp only [Zk,Zg]
    have hs0_:=Option.some.inj hs0_;subst hs0_
    refine And.intro (fun h=>by cases h) (And.intro rfl (Fit2.of (Zr hU rfl rfl ?_) (by omega)))
    simp only [push_cast,seval,Za,hN0,hN]
   replace hs0_:=Z0 c5 hs0_
   refine Zw ?_
   try simp only [Zk,Zg]
   refine Zl [0,1,5] [] ?_
   simp only [push_cast,seval]
   refine Zb Zc [] ?_
   simp only [push_cast,seval,Za,hN0,hN]
   have hs0_:=Option.some.inj hs0_;subst hs0_
   refine And.intro rfl (Fit2.of (Zr hU rfl rfl ?_) (by omega))
   simp only [push_cast,seval,Za,hN0,hN]
  replace hs0_:=Z0 c6 hs0_
  refine Jt ?_
  try simp only [Zk,Zg,↓reduceIte,Nat.reduceEqDiff]
  have hs0_:=Option.some.inj hs0_;subst hs0_
  refine And.intro (fun h=>by cases h) (And.intro rfl (Fit2.of (Zr hU rfl rfl ?_) (by omega)))
  simp only [push_cast,seval,Za,hN0,hN]
 rcases z7 with z7 | z7
 ·dsimp only [Zaq] at hw h
  refine Zcx hw ?_
  try simp only [Zk,Zg,↓reduceIte,Nat.reduceEqDiff]
  have h:=Option.some.inj h;subst h
  refine Zq (.inr rfl) hU [.val (.bool false)] (by omega) ?_
  simp only [push_cast,seval,Za,Try.results27,hN0,hN]
 dsimp only [Zaq] at hw h
 refine X1 hw ?_
 try simp only [Zk,Zg,↓reduceIte,Nat.reduceEqDiff]
 refine Zl [] [] ?_
 simp only [push_cast,seval]
 refine Zp [4] (Zb Zc [] ?_)
 simp only [push_cast,seval,Za,hN0,hN]
 refine Zu ?_
 try simp only [Zk,Zg]
 have h:=Option.some.inj h;subst h
 refine Zq (.inr rfl) hU [.val (.bool true)] (by omega) ?_
 simp only [push_cast,seval,Za,Try.results27,hN0,hN]
theorem Zpw {a0:(List (List Int))} {a1:(List (List Int))} {r:Bool} {O:Objs} {n:Nat} (h:Uj a0 a1=some r):GTo Try.prog 15 [.sl a0.length (fl (eL (eI .u64)) a0),.sl a1.length (fl (eL (eI .u64)) a1)] O n (.val (.bool r)) O n:=by
 unfold Uj at h
 refine Yj Zc Try.call15 Try.func15 rfl (Nat.le_of_ble_eq_true rfl) (Nat.le_refl _) fun hU => ?_
 have hN0:O n=none:=hU.fresh _ (Nat.le_refl _)
 have hN:∀ k,O (n+k)=none:=fun k=>hU.fresh _ (Nat.le_add_right _ _)
 show W _ _ _ _ ⟨27,[],[(0,.sl a0.length (fl (eL (eI .u64)) a0)),(1,.sl a1.length (fl (eL (eI .u64)) a1))]⟩ (Zy O n []) _
 refine Zp [0,1] (Zb Zc [] ?_)
 simp only [push_cast,seval,Za,hN0,hN]
 refine Zj ?_
 refine Zp [0,1,10] (Zb Zc [] ?_)
 simp only [push_cast,seval,Za,hN0,hN]
 refine Zs (t:=((a0.length:Int) != (a1.length:Int))) rfl (fun c10 => ?_) (fun c10 => ?_)
 ·replace h:=Z3 c10 h
  refine Zp [4] (Zb Zc [] ?_)
  simp only [push_cast,seval,Za,hN0,hN]
  refine Zu ?_
  try simp only [Zk,Zg]
  have h:=Option.some.inj h;subst h
  refine Zq (.inr rfl) hU [.val (.bool false)] (by omega) ?_
  simp only [push_cast,seval,Za,Try.results15,hN0,hN]
 replace h:=Z0 c10 h
 refine Zw ?_
 try simp only [Zk,Zg]
 refine Zl [0,1] [] ?_
 simp only [push_cast,seval]
 refine Zj ?_
 refine Zp [0,1,5] (Zb Zc [] ?_)
 simp only [push_cast,seval,Za,hN0,hN]
 refine Zl [0,1,5] [] ?_
 simp only [push_cast,seval]
 obtain ⟨z9,hz9,h⟩:=bC h
 refine Zkc (J:=(Zaq (fun z9=>JR n (⟨27,[],[(4,.val (.bool false))]⟩:Env) (Zy O n []) n) (fun z9=>JX 0 n (⟨27,[],[]⟩:Env) (Zy O n []) n))) (z:=z9) ?_ fun hw => ?_
 ·refine Jq hz9 (fun s0_=>⟨27,[],[(0,.sl a0.length (fl (eL (eI .u64)) a0)),(1,.sl a1.length (fl (eL (eI .u64)) a1)),(5,.val (.int .i64 s0_))]⟩) (fun s0_=>(Zy O n [])) (Zaq (fun z9=>JR n (⟨27,[],[(4,.val (.bool false))]⟩:Env) (Zy O n []) n) (fun z9=>JX 0 n (⟨27,[],[]⟩:Env) (Zy O n []) n)) ?_
  intro s0_ x0_ hs0_
  unfold Uk at hs0_
  try dsimp only
  refine Zj ?_
  refine Zp [0,1,5,14] (Zb Zc [] ?_)
  simp only [push_cast,seval,Za,hN0,hN]
  refine Zs (t:=(decide (s0_ < (a0.length:Int)))) rfl (fun c8 => ?_) (fun c8 => ?_)
  ·replace hs0_:=Z3 c8 hs0_
   refine Zw ?_
   try simp only [Zk,Zg]
   refine Zl [0,1,5] [] ?_
   simp only [push_cast,seval]
   refine Zj ?_
   refine Yn ?_
   refine Zj ?_
   obtain ⟨x4,hx4,ax4,bx4,cx4,hs0_⟩:=bE (f:=(eL (eI .u64))) Zdq (fun _=>rfl) (by decide) hs0_
   obtain ⟨x5,hx5,ax5,bx5,cx5,hs0_⟩:=bE (f:=(eL (eI .u64))) Zdq (fun _=>rfl) (by decide) hs0_
   obtain ⟨y6,hy6,hs0_⟩:=bC hs0_
   refine V6 Zc (by kernel_rfl) [] (by kernel_rfl) ?_
   simp only [push_cast,Nat.reduceAdd,Nat.reduceSub,Nat.reduceMul,Nat.reduceLeDiff,Nat.reduceLT,Nat.reduceEqDiff,↓reduceIte,reduceCtorEq,Int.reduceBEq,Int.reduceBNe,Nat.reduceBEq,Int.reduceLE,Int.reduceLT,Int.reduceEq,Int.reduceNe,Int.reduceNeg,Nat.reduceDiv,Nat.reduceMod,Nat.reducePow,Za,ax4,bx4,cx4,ax5,bx5,cx5,hN0,hN]
   refine PCall.of (Zg1 hy6) ?_
   simp only [push_cast,Nat.reduceAdd,Nat.reduceSub,Nat.reduceMul,Nat.reduceLeDiff,Nat.reduceLT,Nat.reduceEqDiff,↓reduceIte,reduceCtorEq,Int.reduceBEq,Int.reduceBNe,Nat.reduceBEq,Int.reduceLE,Int.reduceLT,Int.reduceEq,Int.reduceNe,Int.reduceNeg,Nat.reduceDiv,Nat.reduceMod,Nat.reducePow,Za,ax4,bx4,cx4,ax5,bx5,cx5,hN0,hN]
   refine Zl [0,1,5,26] [] ?_
   simp only [push_cast,seval]
   refine Zs (t:=(!y6)) rfl (fun c7 => ?_) (fun c7 => ?_)
   ·replace hs0_:=Z3 c7 hs0_
    refine Zp [4] (Zb Zc [] ?_)
    simp only [push_cast,seval,Za,hN0,hN]
    refine Zu ?_
    try simp only [Zk,Zg]
    have hs0_:=Option.some.inj hs0_;subst hs0_
    refine And.intro (fun h=>by cases h) (And.intro rfl (Fit2.of (Zr hU rfl rfl ?_) (by omega)))
    simp only [push_cast,seval,Za,hN0,hN]
   replace hs0_:=Z0 c7 hs0_
   refine Zw ?_
   try simp only [Zk,Zg]
   refine Zl [0,1,5] [] ?_
   simp only [push_cast,seval]
   refine Zb Zc [] ?_
   simp only [push_cast,seval,Za,hN0,hN]
   have hs0_:=Option.some.inj hs0_;subst hs0_
   refine And.intro rfl (Fit2.of (Zr hU rfl rfl ?_) (by omega))
   simp only [push_cast,seval,Za,hN0,hN]
  replace hs0_:=Z0 c8 hs0_
  refine Jt ?_
  try simp only [Zk,Zg,↓reduceIte,Nat.reduceEqDiff]
  have hs0_:=Option.some.inj hs0_;subst hs0_
  refine And.intro (fun h=>by cases h) (And.intro rfl (Fit2.of (Zr hU rfl rfl ?_) (by omega)))
  simp only [push_cast,seval,Za,hN0,hN]
 rcases z9 with z9 | z9
 ·dsimp only [Zaq] at hw h
  refine Zcx hw ?_
  try simp only [Zk,Zg,↓reduceIte,Nat.reduceEqDiff]
  have h:=Option.some.inj h;subst h
  refine Zq (.inr rfl) hU [.val (.bool false)] (by omega) ?_
  simp only [push_cast,seval,Za,Try.results15,hN0,hN]
 dsimp only [Zaq] at hw h
 refine X1 hw ?_
 try simp only [Zk,Zg,↓reduceIte,Nat.reduceEqDiff]
 refine Zl [] [] ?_
 simp only [push_cast,seval]
 refine Zp [4] (Zb Zc [] ?_)
 simp only [push_cast,seval,Za,hN0,hN]
 refine Zu ?_
 try simp only [Zk,Zg]
 have h:=Option.some.inj h;subst h
 refine Zq (.inr rfl) hU [.val (.bool true)] (by omega) ?_
 simp only [push_cast,seval,Za,Try.results15,hN0,hN]
theorem Zko {Jm:(Zd→Int→Int→Option Int)} (Zi9:∀ {a0:Zd} {a1:Int} {a2:Int} {r:Int} {O:Objs} {n:Nat},Jm a0 a1 a2=some r→GTo Try.prog 14 [.agg (Zf a0),.val (.int .i64 a1),.val (.int .i64 a2)] O n (.val (.int .i64 r)) O n) {a0:Zd} {a1:Int} {a2:Int} {r:Int} {O:Objs} {n:Nat} (h:Xo Jm a0 a1 a2=some r):GTo Try.prog 14 [.agg (Zf a0),.val (.int .i64 a1),.val (.int .i64 a2)] O n (.val (.int .i64 r)) O n:=by
 unfold Xo at h
 refine Yj Zc Try.call14 Try.func14 rfl (Nat.le_of_ble_eq_true rfl) (Nat.le_refl _) fun hU => ?_
 have hN0:O n=none:=hU.fresh _ (Nat.le_refl _)
 have hN:∀ k,O (n+k)=none:=fun k=>hU.fresh _ (Nat.le_add_right _ _)
 show W _ _ _ _ ⟨41,[],[(0,.agg (Zf a0)),(1,.val (.int .i64 a1)),(2,.val (.int .i64 a2))]⟩ (Zy O n []) _
 refine Zp [1,2,3] (Zb Zc [] ?_)
 simp only [push_cast,seval,Za,hN0,hN]
 refine Zp [1,2,3] (Zb Zc [] ?_)
 simp only [push_cast,seval,Za,hN0,hN]
 refine Zj ?_
 refine Zp [1,2,3,19] (Zb Zc [none,none] ?_)
 simp only [push_cast,seval,Za,hN0,hN]
 repeat (with_reducible refine And.intro (by first | (intro h0;simp only [h0,and_self];done) | (intro h0;simp only [h0,Bool.not_false,Bool.not_true,Bool.true_and,Bool.and_true,true_and,and_true,and_self,imp_self,implies_true,bne_iff_ne,ne_eq,beq_iff_eq];done) | (intros;simp_all;done) | exact True.intro) ?_)
 refine Zs (t:=(cond (a1 == 0) true (decide ((IntKind.i64.wrap ((IntKind.i64.wrap (a2 - 1)) - (a0.Words.length:Int))) < 0)))) rfl (fun c5 => ?_) (fun c5 => ?_)
 ·replace h:=Z3 c5 h
  refine Zp [6] (Zb Zc [] ?_)
  simp only [push_cast,seval,Za,hN0,hN]
  refine Zu ?_
  try simp only [Zk,Zg]
  have h:=Option.some.inj h;subst h
  refine Zq (.inr rfl) hU [.val (.int .i64 (-1))] (by omega) ?_
  simp only [push_cast,seval,Za,Try.results14,hN0,hN]
 replace h:=Z0 c5 h
 refine Zw ?_
 try simp only [Zk,Zg]
 refine Zl [1,2,3] [true] ?_
 simp only [push_cast,seval]
 refine Zj ?_
 refine Zp [1,2,3,7] (Zb Zc [] ?_)
 simp only [push_cast,seval,Za,hN0,hN]
 refine Zl [1,2,3,7] [true] ?_
 simp only [push_cast,seval]
 obtain ⟨z4,hz4,h⟩:=bC h
 refine X1 (E':=⟨41,[],[(2,.val (.int .i64 z4))]⟩) (O':=(Zy O n [none])) (n0:=(n+1)) ?_ ?_
 ·refine Jq hz4 (fun s0_=>⟨41,[],[(1,.val (.int .i64 a1)),(2,.val (.int .i64 s0_.1)),(3,.ref n 0),(7,.val (.int .i64 s0_.2))]⟩) (fun s0_=>(Zy O n [some ⟨false,25,3,1,(Zf a0)⟩])) (fun z4=>JX 0 n (⟨41,[],[(2,.val (.int .i64 z4))]⟩:Env) (Zy O n [none]) (n+1)) ?_
  intro s0_ x0_ hs0_
  unfold Xl at hs0_
  try dsimp only
  refine Zj ?_
  refine Zp [1,2,3,7,28] (Zb Zc [none,none] ?_)
  simp only [push_cast,seval,Za,hN0,hN]
  repeat (with_reducible refine And.intro (by first | (intro h0;simp only [h0,and_self];done) | (intro h0;simp only [h0,Bool.not_false,Bool.not_true,Bool.true_and,Bool.and_true,true_and,and_true,and_self,imp_self,implies_true,bne_iff_ne,ne_eq,beq_iff_eq];done) | (intros;simp_all;done) | exact True.intro) ?_)
  refine Zs (t:=(cond (decide (s0_.2 < (a0.Kids.length:Int))) (decide (0≤s0_.1)) false)) rfl (fun c3 => ?_) (fun c3 => ?_)
  ·replace hs0_:=Z3 c3 hs0_
   refine Zw ?_
   try simp only [Zk,Zg]
   refine Zl [1,2,3,7] [true] ?_
   simp only [push_cast,seval]
   refine Zj ?_
   refine Yn ?_
   obtain ⟨x1,hx1,ax1,bx1,cx1,hs0_⟩:=bE (f:=Zi) Uo (fun _=>rfl) (by decide) hs0_
   obtain ⟨y2,hy2,hs0_⟩:=bC hs0_
   refine Zb Zc [] ?_
   simp only [push_cast,Nat.reduceAdd,Nat.reduceSub,Nat.reduceMul,Nat.reduceLeDiff,Nat.reduceLT,Nat.reduceEqDiff,↓reduceIte,reduceCtorEq,Int.reduceBEq,Int.reduceBNe,Nat.reduceBEq,Int.reduceLE,Int.reduceLT,Int.reduceEq,Int.reduceNe,Int.reduceNeg,Nat.reduceDiv,Nat.reduceMod,Nat.reducePow,Za,ax1,bx1,cx1,hN0,hN]
   refine (Zi9 hy2).then ?_
   simp only [push_cast,Nat.reduceAdd,Nat.reduceSub,Nat.reduceMul,Nat.reduceLeDiff,Nat.reduceLT,Nat.reduceEqDiff,↓reduceIte,reduceCtorEq,Int.reduceBEq,Int.reduceBNe,Nat.reduceBEq,Int.reduceLE,Int.reduceLT,Int.reduceEq,Int.reduceNe,Int.reduceNeg,Nat.reduceDiv,Nat.reduceMod,Nat.reducePow,Za,ax1,bx1,cx1,hN0,hN]
   refine Zl [1,2,3,7] [true] ?_
   simp only [push_cast,seval]
   refine Zb Zc [] ?_
   simp only [push_cast,seval,Za,hN0,hN]
   have hs0_:=Option.some.inj hs0_;subst hs0_
   refine And.intro rfl (Fit2.of (Zr hU rfl rfl ?_) (by omega))
   simp only [push_cast,seval,Za,hN0,hN]
  replace hs0_:=Z0 c3 hs0_
  refine Jt ?_
  try simp only [Zk,Zg,↓reduceIte,Nat.reduceEqDiff]
  have hs0_:=Option.some.inj hs0_;subst hs0_
  refine And.intro (fun h=>by cases h) (And.intro rfl (Fit2.of (Zr hU rfl rfl ?_) (by omega)))
  simp only [push_cast,seval,Za,hN0,hN]
 try simp only [Zk,Zg,↓reduceIte,Nat.reduceEqDiff]
 refine Zl [2] [false] ?_
 simp only [push_cast,seval]
 refine Zp [6] (Zb Zc [] ?_)
 simp only [push_cast,seval,Za,hN0,hN]
 refine Zu ?_
 try simp only [Zk,Zg]
 have h:=Option.some.inj h;subst h
 refine Zq (.inr rfl) hU [.val (.int .i64 z4)] (by omega) ?_
 simp only [push_cast,seval,Za,Try.results14,hN0,hN]
theorem Zh5:∀ k,(∀ {a0:Zd} {a1:Int} {a2:Int} {r:Int} {O:Objs} {n:Nat},(Yi k) a0 a1 a2=some r→GTo Try.prog 14 [.agg (Zf a0),.val (.int .i64 a1),.val (.int .i64 a2)] O n (.val (.int .i64 r)) O n):=fun k=>by
 induction k with
 | zero=>exact @fun a0 a1 a2 r O n h=>(nomatch (show (none:Option _)=some _ from h))
 | succ k ih=>exact @fun a0 a1 a2 r O n h=>Zko (ih)  h
theorem Zla {a0:Zd} {a1:Int} {a2:Int} {r:Int} {O:Objs} {n:Nat} (h:Za1 a0 a1 a2=some r):GTo Try.prog 14 [.agg (Zf a0),.val (.int .i64 a1),.val (.int .i64 a2)] O n (.val (.int .i64 r)) O n:=by
 obtain ⟨k,hk⟩:=Zc8 h
 exact (Zh5 k)  hk
theorem Zqw {a0:Zd} {r:Bool} {O:Objs} {n:Nat} (h:Gb a0=some r):GTo Try.prog 4 [.agg (Zf a0)] O n (.val (.bool r)) O n:=by
 unfold Gb at h
 refine Yj Zc Try.call4 Try.func4 rfl (Nat.le_of_ble_eq_true rfl) (Nat.le_refl _) fun hU => ?_
 have hN0:O n=none:=hU.fresh _ (Nat.le_refl _)
 have hN:∀ k,O (n+k)=none:=fun k=>hU.fresh _ (Nat.le_add_right _ _)
 show W _ _ _ _ ⟨6,[],[(0,.agg (Zf a0))]⟩ (Zy O n []) _
 refine Zp [1] (Zb Zc [] ?_)
 simp only [push_cast,seval,Za,hN0,hN]
 refine Zj ?_
 obtain ⟨y2,hy2,h⟩:=bC h
 refine Zb Zc [] ?_
 simp only [push_cast,seval,Za,hN0,hN]
 refine (Zla hy2).then ?_
 simp only [push_cast,seval,Za,hN0,hN]
 refine Zl [2] [false] ?_
 simp only [push_cast,seval]
 refine Zu ?_
 try simp only [Zk,Zg]
 have h:=Option.some.inj h;subst h
 refine Zq (.inr rfl) hU [.val (.bool (decide (0≤y2)))] (by omega) ?_
 simp only [push_cast,seval,Za,Try.results4,hN0,hN]
theorem Zqx {a0:Int} {r:Bool} {O:Objs} {n:Nat} (h:Za3 a0=some r):GTo Try.prog 43 [.val (.int .i64 a0)] O n (.val (.bool r)) O n:=by
 unfold Za3 at h
 refine Yj Zc Try.call43 Try.func43 rfl (Nat.le_of_ble_eq_true rfl) (Nat.le_refl _) fun hU => ?_
 have hN0:O n=none:=hU.fresh _ (Nat.le_refl _)
 have hN:∀ k,O (n+k)=none:=fun k=>hU.fresh _ (Nat.le_add_right _ _)
 show W _ _ _ _ ⟨9,[],[(0,.val (.int .i64 a0))]⟩ (Zy O n []) _
 refine Zp [0] (Zb Zc [] ?_)
 simp only [push_cast,seval,Za,hN0,hN]
 refine Zp [2] (Zb Zc [none,none] ?_)
 simp only [push_cast,seval,Za,hN0,hN]
 repeat (with_reducible refine And.intro (by first | (intro h0;simp only [h0,and_self];done) | (intro h0;simp only [h0,Bool.not_false,Bool.not_true,Bool.true_and,Bool.and_true,true_and,and_true,and_self,imp_self,implies_true,bne_iff_ne,ne_eq,beq_iff_eq];done) | (intros;simp_all;done) | exact True.intro) ?_)
 refine Zu ?_
 try simp only [Zk,Zg]
 have h:=Option.some.inj h;subst h
 refine Zq (.inr rfl) hU [.val (.bool (cond (decide (2≤a0)) (decide (a0≤9)) false))] (by omega) ?_
 simp only [push_cast,seval,Za,Try.results43,hN0,hN]
theorem Zg5 {a0:(List Zd)} {r:Bool} {O:Objs} {n:Nat} (h:Un a0=some r):GTo Try.prog 44 [.sl a0.length (fl Zi a0)] O n (.val (.bool r)) O n:=by
 unfold Un at h
 refine Yj Zc Try.call44 Try.func44 rfl (Nat.le_of_ble_eq_true rfl) (Nat.le_refl _) fun hU => ?_
 have hN0:O n=none:=hU.fresh _ (Nat.le_refl _)
 have hN:∀ k,O (n+k)=none:=fun k=>hU.fresh _ (Nat.le_add_right _ _)
 show W _ _ _ _ ⟨15,[],[(0,.sl a0.length (fl Zi a0))]⟩ (Zy O n []) _
 refine Zp [0] (Zb Zc [] ?_)
 simp only [push_cast,seval,Za,hN0,hN]
 refine Zj ?_
 refine Zp [5,6,7] (Zb Zc [] ?_)
 simp only [push_cast,seval,Za,hN0,hN]
 refine Zl [5,6,7] [] ?_
 simp only [push_cast,seval]
 obtain ⟨z5,hz5,h⟩:=bC h
 refine Zkc (J:=(Zaq (fun z5=>JR n (⟨15,[],[(2,.val (.bool false))]⟩:Env) (Zy O n []) n) (fun z5=>JX 0 n (⟨15,[],[]⟩:Env) (Zy O n []) n))) (z:=z5) ?_ fun hw => ?_
 ·refine Jq hz5 (fun s0_=>⟨15,[],[(5,.sl a0.length (fl Zi a0)),(6,.val (.int .i64 (a0.length:Int))),(7,.val (.int .i64 s0_))]⟩) (fun s0_=>(Zy O n [])) (Zaq (fun z5=>JR n (⟨15,[],[(2,.val (.bool false))]⟩:Env) (Zy O n []) n) (fun z5=>JX 0 n (⟨15,[],[]⟩:Env) (Zy O n []) n)) ?_
  intro s0_ x0_ hs0_
  unfold Kr at hs0_
  try dsimp only
  refine Zp [5,6,7,8] (Zb Zc [] ?_)
  simp only [push_cast,seval,Za,hN0,hN]
  refine Zj ?_
  refine Zs (t:=(decide (s0_ < (a0.length:Int)))) rfl (fun c4 => ?_) (fun c4 => ?_)
  ·replace hs0_:=Z3 c4 hs0_
   refine Zw ?_
   try simp only [Zk,Zg]
   refine Zl [5,6,7] [] ?_
   simp only [push_cast,seval]
   refine Zj ?_
   refine Yn ?_
   refine Zj ?_
   obtain ⟨x2,hx2,ax2,bx2,cx2,hs0_⟩:=bE (f:=Zi) Uo (fun _=>rfl) (by decide) hs0_
   refine Zb Zc [] ?_
   simp only [push_cast,Nat.reduceAdd,Nat.reduceSub,Nat.reduceMul,Nat.reduceLeDiff,Nat.reduceLT,Nat.reduceEqDiff,↓reduceIte,reduceCtorEq,Int.reduceBEq,Int.reduceBNe,Nat.reduceBEq,Int.reduceLE,Int.reduceLT,Int.reduceEq,Int.reduceNe,Int.reduceNeg,Nat.reduceDiv,Nat.reduceMod,Nat.reducePow,Za,ax2,bx2,cx2,hN0,hN]
   refine Zl [4,5,6,7] [true] ?_
   simp only [push_cast,seval]
   refine Zp [5,6,7,13] (Zb Zc [] ?_)
   simp only [push_cast,seval,Za,hN0,hN]
   refine Zs (t:=(x2.Kind != 1)) rfl (fun c3 => ?_) (fun c3 => ?_)
   ·replace hs0_:=Z3 c3 hs0_
    refine Zp [2] (Zb Zc [] ?_)
    simp only [push_cast,seval,Za,hN0,hN]
    refine Zu ?_
    try simp only [Zk,Zg]
    have hs0_:=Option.some.inj hs0_;subst hs0_
    refine And.intro (fun h=>by cases h) (And.intro rfl (Fit2.of (Zr hU rfl rfl ?_) (by omega)))
    simp only [push_cast,seval,Za,hN0,hN]
   replace hs0_:=Z0 c3 hs0_
   refine Zw ?_
   try simp only [Zk,Zg]
   refine Zl [5,6,7] [false] ?_
   simp only [push_cast,seval]
   refine Zb Zc [] ?_
   simp only [push_cast,seval,Za,hN0,hN]
   have hs0_:=Option.some.inj hs0_;subst hs0_
   refine And.intro rfl (Fit2.of (Zr hU rfl rfl ?_) (by omega))
   simp only [push_cast,seval,Za,hN0,hN]
  replace hs0_:=Z0 c4 hs0_
  refine Jt ?_
  try simp only [Zk,Zg,↓reduceIte,Nat.reduceEqDiff]
  have hs0_:=Option.some.inj hs0_;subst hs0_
  refine And.intro (fun h=>by cases h) (And.intro rfl (Fit2.of (Zr hU rfl rfl ?_) (by omega)))
  simp only [push_cast,seval,Za,hN0,hN]
 rcases z5 with z5 | z5
 ·dsimp only [Zaq] at hw h
  refine Zcx hw ?_
  try simp only [Zk,Zg,↓reduceIte,Nat.reduceEqDiff]
  have h:=Option.some.inj h;subst h
  refine Zq (.inr rfl) hU [.val (.bool false)] (by omega) ?_
  simp only [push_cast,seval,Za,Try.results44,hN0,hN]
 dsimp only [Zaq] at hw h
 refine X1 hw ?_
 try simp only [Zk,Zg,↓reduceIte,Nat.reduceEqDiff]
 refine Zl [] [] ?_
 simp only [push_cast,seval]
 refine Zp [2] (Zb Zc [] ?_)
 simp only [push_cast,seval,Za,hN0,hN]
 refine Zu ?_
 try simp only [Zk,Zg]
 have h:=Option.some.inj h;subst h
 refine Zq (.inr rfl) hU [.val (.bool true)] (by omega) ?_
 simp only [push_cast,seval,Za,Try.results44,hN0,hN]
theorem Zbv {a0:Int} {r:(Int×Bool)} {O:Objs} {n:Nat} (h:Qt a0=some r):GTo Try.prog 81 [.val (.int .i64 a0)] O n (.tup [.val (.int .i64 r.1),.val (.bool r.2)]) O n:=by
 unfold Qt at h
 refine Yj Zc Try.call81 Try.func81 rfl (Nat.le_of_ble_eq_true rfl) (Nat.le_refl _) fun hU => ?_
 have hN0:O n=none:=hU.fresh _ (Nat.le_refl _)
 have hN:∀ k,O (n+k)=none:=fun k=>hU.fresh _ (Nat.le_add_right _ _)
 show W _ _ _ _ ⟨15,[],[(0,.val (.int .i64 a0))]⟩ (Zy O n []) _
 refine Zp [0] (Zb Zc [] ?_)
 simp only [push_cast,seval,Za,hN0,hN]
 refine Zj ?_
 obtain ⟨y6,hy6,ey6,h⟩:=bY (f:=(eI .i64)) (cs:=[.val (.int .i64 0),.val (.int .i64 1),.val (.int .i64 8),.val (.int .i64 16),.val (.int .i64 32),.val (.int .i64 64)]) rfl h
 have g7:=congrArg G.agg ey6
 obtain ⟨y8,hy8,ey8,h⟩:=bY (f:=(eI .i64)) (cs:=[.val (.int .i64 0),.val (.int .i64 0),.val (.int .i64 0),.val (.int .i64 0),.val (.int .i64 0),.val (.int .i64 0)]) rfl h
 have g9:=congrArg (GObj.mk false 124 6 1) ey8
 have g10:=Zuu (f:=(eI .i64)) y8 y6 (fun _=>rfl)
 refine Zb Zc [] ?_
 simp only [push_cast,seval,Za,g7,g9,g10,hN0,hN]
 refine Zl [0,4] [true] ?_
 simp only [push_cast,seval]
 refine Zj ?_
 refine Zp [0,4,11] (Zb Zc [none,none] ?_)
 simp only [push_cast,seval,Za,hN0,hN]
 repeat (with_reducible refine And.intro (by first | (intro h0;simp only [h0,and_self];done) | (intro h0;simp only [h0,Bool.not_false,Bool.not_true,Bool.true_and,Bool.and_true,true_and,and_true,and_self,imp_self,implies_true,bne_iff_ne,ne_eq,beq_iff_eq];done) | (intros;simp_all;done) | exact True.intro) ?_)
 refine Zs (t:=(cond (decide (a0 < 0)) true (decide (6≤a0)))) rfl (fun c13 => ?_) (fun c13 => ?_)
 ·replace h:=Z3 c13 h
  refine Zp [2,3] (Zb Zc [] ?_)
  simp only [push_cast,seval,Za,hN0,hN]
  refine Zu ?_
  try simp only [Zk,Zg]
  have h:=Option.some.inj h;subst h
  refine Zq (.inr rfl) hU [.val (.int .i64 0),.val (.bool false)] (by omega) ?_
  simp only [push_cast,seval,Za,Try.results81,hN0,hN]
 replace h:=Z0 c13 h
 refine Zw ?_
 try simp only [Zk,Zg]
 refine Zl [0,4] [true] ?_
 simp only [push_cast,seval]
 obtain ⟨x12,hx12,ax12,bx12,cx12,h⟩:=bEA (f:=(eI .i64)) (b:=6) rfl Zz4 (fun _=>rfl) (by decide) h
 refine Zp [2,3] (Zb Zc [] ?_)
 simp only [push_cast,Nat.reduceAdd,Nat.reduceSub,Nat.reduceMul,Nat.reduceLeDiff,Nat.reduceLT,Nat.reduceEqDiff,↓reduceIte,reduceCtorEq,Int.reduceBEq,Int.reduceBNe,Nat.reduceBEq,Int.reduceLE,Int.reduceLT,Int.reduceEq,Int.reduceNe,Int.reduceNeg,Nat.reduceDiv,Nat.reduceMod,Nat.reducePow,Za,ax12,bx12,cx12,hN0,hN]
 refine Zu ?_
 try simp only [Zk,Zg]
 have h:=Option.some.inj h;subst h
 refine Zq (.inr rfl) hU [.val (.int .i64 x12),.val (.bool true)] (by omega) ?_
 simp only [push_cast,seval,Za,Try.results81,hN0,hN]
theorem Zq1 {a0:Int} {a1:Int} {r:Bool} {O:Objs} {n:Nat} (h:Zcf a0 a1=some r):GTo Try.prog 68 [.val (.int .i64 a0),.val (.int .u64 a1)] O n (.val (.bool r)) O n:=by
 unfold Zcf at h
 refine Yj Zc Try.call68 Try.func68 rfl (Nat.le_of_ble_eq_true rfl) (Nat.le_refl _) fun hU => ?_
 have hN0:O n=none:=hU.fresh _ (Nat.le_refl _)
 have hN:∀ k,O (n+k)=none:=fun k=>hU.fresh _ (Nat.le_add_right _ _)
 show W _ _ _ _ ⟨19,[],[(0,.val (.int .i64 a0)),(1,.val (.int .u64 a1))]⟩ (Zy O n []) _
 refine Zp [0,1] (Zb Zc [] ?_)
 simp only [push_cast,seval,Za,hN0,hN]
 refine Zj ?_
 obtain ⟨y2,hy2,h⟩:=bC h
 refine Zb Zc [] ?_
 simp only [push_cast,seval,Za,hN0,hN]
 refine (Zbv hy2).then ?_
 simp only [push_cast,seval,Za,hN0,hN]
 refine Zl [1,5,6] [] ?_
 simp only [push_cast,seval]
 obtain ⟨z4,hz4,h⟩:=bC h
 refine Xk (E':=⟨19,[],[(4,.val (.bool z4))]⟩) (O':=(Zy O n [])) (n0:=n) ?_ ?_
 ·rcases Bool.eq_false_or_eq_true y2.2 with c7 | c7
  ·replace hz4:=Z3 c7 hz4
   obtain ⟨pu6,hz4⟩:=bG hz4
   refine Zb Zc (Z5x []) ?_
   simp only [push_cast,seval,Za,c7,pu6,hN0,hN]
   have hz4:=Option.some.inj hz4;subst hz4
   refine And.intro rfl (Fit2.of (Zr hU rfl rfl ?_) (by omega))
   simp only [push_cast,seval,Za,c7,pu6,hN0,hN]
  replace hz4:=Z0 c7 hz4
  refine Zb Zc (Z5v []) ?_
  simp only [push_cast,seval,Za,c7,hN0,hN]
  have hz4:=Option.some.inj hz4;subst hz4
  refine And.intro rfl (Fit2.of (Zr hU rfl rfl ?_) (by omega))
  simp only [push_cast,seval,Za,c7,hN0,hN]
 refine Zu ?_
 try simp only [Zk,Zg]
 have h:=Option.some.inj h;subst h
 refine Zq (.inr rfl) hU [.val (.bool z4)] (by omega) ?_
 simp only [push_cast,seval,Za,Try.results68,hN0,hN]
theorem Zva {Y5:(Zd→Option Bool)} {Yz:(Zd→Int→Option Bool)} {Yo:((List Zd)→Int→Option Bool)} {Yv:((List Zd)→Int→Option Bool)} (G4:∀ {a0:Zd} {r:Bool} {O:Objs} {n:Nat},Y5 a0=some r→GTo Try.prog 16 [.agg (Zf a0)] O n (.val (.bool r)) O n) (G5:∀ {a0:Zd} {a1:Int} {r:Bool} {O:Objs} {n:Nat},Yz a0 a1=some r→GTo Try.prog 28 [.agg (Zf a0),.val (.int .i64 a1)] O n (.val (.bool r)) O n) (Kg:∀ {a0:(List Zd)} {a1:Int} {r:Bool} {O:Objs} {n:Nat},Yo a0 a1=some r→GTo Try.prog 42 [.sl a0.length (fl Zi a0),.val (.int .i64 a1)] O n (.val (.bool r)) O n) (Gt:∀ {a0:(List Zd)} {a1:Int} {r:Bool} {O:Objs} {n:Nat},Yv a0 a1=some r→GTo Try.prog 45 [.sl a0.length (fl Zi a0),.val (.int .i64 a1)] O n (.val (.bool r)) O n) {a0:Zd} {r:Bool} {O:Objs} {n:Nat} (h:Zcy Y5 Yz Yo Yv a0=some r):GTo Try.prog 16 [.agg (Zf a0)] O n (.val (.bool r)) O n:=by
 unfold Zcy at h
 refine Yj Zc Try.call16 Try.func16 rfl (Nat.le_of_ble_eq_true rfl) (Nat.le_refl _) fun hU => ?_
 have hN0:O n=none:=hU.fresh _ (Nat.le_refl _)
 have hN:∀ k,O (n+k)=none:=fun k=>hU.fresh _ (Nat.le_add_right _ _)
 show W _ _ _ _ ⟨18,[],[(0,.agg (Zf a0))]⟩ (Zy O n []) _
 refine Zp [1] (Zb Zc [] ?_)
 simp only [push_cast,seval,Za,hN0,hN]
 refine Zj ?_
 refine Zp [1,5] (Zb Zc [] ?_)
 simp only [push_cast,seval,Za,hN0,hN]
 refine Zs (t:=(a0.Kind == 10)) rfl (fun c3 => ?_) (fun c3 => ?_)
 ·replace h:=Z3 c3 h
  refine Zp [2] (Zb Zc [none,none,none,none] ?_)
  simp only [push_cast,seval,Za,hN0,hN]
  repeat (with_reducible refine And.intro (by first | (intro h0;simp only [h0,and_self];done) | (intro h0;simp only [h0,Bool.not_false,Bool.not_true,Bool.true_and,Bool.and_true,true_and,and_true,and_self,imp_self,implies_true,bne_iff_ne,ne_eq,beq_iff_eq];done) | (intros;simp_all;done) | exact True.intro) ?_)
  refine Zu ?_
  try simp only [Zk,Zg]
  have h:=Option.some.inj h;subst h
  refine Zq (.inr rfl) hU [.val (.bool (cond ((a0.Words.length:Int) == 1) ((a0.Kids.length:Int) == 0) false))] (by omega) ?_
  simp only [push_cast,seval,Za,Try.results16,hN0,hN]
 replace h:=Z0 c3 h
 refine Zw ?_
 try simp only [Zk,Zg]
 refine Zl [1] [true] ?_
 simp only [push_cast,seval]
 refine Zj ?_
 obtain ⟨y2,hy2,h⟩:=bC h
 refine Zb Zc [] ?_
 simp only [push_cast,seval,Za,hN0,hN]
 refine (G5 hy2).then ?_
 simp only [push_cast,seval,Za,hN0,hN]
 refine Zl [2] [false] ?_
 simp only [push_cast,seval]
 refine Zu ?_
 try simp only [Zk,Zg]
 have h:=Option.some.inj h;subst h
 refine Zq (.inr rfl) hU [.val (.bool y2)] (by omega) ?_
 simp only [push_cast,seval,Za,Try.results16,hN0,hN]
theorem Zvb {Y5:(Zd→Option Bool)} {Yz:(Zd→Int→Option Bool)} {Yo:((List Zd)→Int→Option Bool)} {Yv:((List Zd)→Int→Option Bool)} (G4:∀ {a0:Zd} {r:Bool} {O:Objs} {n:Nat},Y5 a0=some r→GTo Try.prog 16 [.agg (Zf a0)] O n (.val (.bool r)) O n) (G5:∀ {a0:Zd} {a1:Int} {r:Bool} {O:Objs} {n:Nat},Yz a0 a1=some r→GTo Try.prog 28 [.agg (Zf a0),.val (.int .i64 a1)] O n (.val (.bool r)) O n) (Kg:∀ {a0:(List Zd)} {a1:Int} {r:Bool} {O:Objs} {n:Nat},Yo a0 a1=some r→GTo Try.prog 42 [.sl a0.length (fl Zi a0),.val (.int .i64 a1)] O n (.val (.bool r)) O n) (Gt:∀ {a0:(List Zd)} {a1:Int} {r:Bool} {O:Objs} {n:Nat},Yv a0 a1=some r→GTo Try.prog 45 [.sl a0.length (fl Zi a0),.val (.int .i64 a1)] O n (.val (.bool r)) O n) {a0:Zd} {a1:Int} {r:Bool} {O:Objs} {n:Nat} (h:Zcz Y5 Yz Yo Yv a0 a1=some r):GTo Try.prog 28 [.agg (Zf a0),.val (.int .i64 a1)] O n (.val (.bool r)) O n:=by
 unfold Zcz at h
 refine Yj Zc Try.call28 Try.func28 rfl (Nat.le_of_ble_eq_true rfl) (Nat.le_refl _) fun hU => ?_
 have hN0:O n=none:=hU.fresh _ (Nat.le_refl _)
 have hN:∀ k,O (n+k)=none:=fun k=>hU.fresh _ (Nat.le_add_right _ _)
 show W _ _ _ _ ⟨83,[],[(0,.agg (Zf a0)),(1,.val (.int .i64 a1))]⟩ (Zy O n []) _
 refine Zp [1,2] (Zb Zc [] ?_)
 simp only [push_cast,seval,Za,hN0,hN]
 refine Zj ?_
 refine Zp [1,2,7] (Zb Zc [] ?_)
 simp only [push_cast,seval,Za,hN0,hN]
 refine Zs (t:=(a0.Kind == 0)) rfl (fun c26 => ?_) (fun c26 => ?_)
 ·replace h:=Z3 c26 h
  refine Zp [4] (Zb Zc [none,none,none,none] ?_)
  simp only [push_cast,seval,Za,hN0,hN]
  repeat (with_reducible refine And.intro (by first | (intro h0;simp only [h0,and_self];done) | (intro h0;simp only [h0,Bool.not_false,Bool.not_true,Bool.true_and,Bool.and_true,true_and,and_true,and_self,imp_self,implies_true,bne_iff_ne,ne_eq,beq_iff_eq];done) | (intros;simp_all;done) | exact True.intro) ?_)
  refine Zu ?_
  try simp only [Zk,Zg]
  have h:=Option.some.inj h;subst h
  refine Zq (.inr rfl) hU [.val (.bool (cond ((a0.Words.length:Int) == 0) ((a0.Kids.length:Int) == 0) false))] (by omega) ?_
  simp only [push_cast,seval,Za,Try.results28,hN0,hN]
 replace h:=Z0 c26 h
 refine Zw ?_
 try simp only [Zk,Zg]
 refine Zl [1,2] [true] ?_
 simp only [push_cast,seval]
 refine Zj ?_
 refine Zp [1,2,19] (Zb Zc [] ?_)
 simp only [push_cast,seval,Za,hN0,hN]
 refine Zs (t:=(a1 == 0)) rfl (fun c25 => ?_) (fun c25 => ?_)
 ·replace h:=Z3 c25 h
  refine Zp [4] (Zb Zc [] ?_)
  simp only [push_cast,seval,Za,hN0,hN]
  refine Zu ?_
  try simp only [Zk,Zg]
  have h:=Option.some.inj h;subst h
  refine Zq (.inr rfl) hU [.val (.bool false)] (by omega) ?_
  simp only [push_cast,seval,Za,Try.results28,hN0,hN]
 replace h:=Z0 c25 h
 refine Zw ?_
 try simp only [Zk,Zg]
 refine Zl [1,2] [true] ?_
 simp only [push_cast,seval]
 refine Zj ?_
 refine Zp [1,2,22] (Zb Zc [] ?_)
 simp only [push_cast,seval,Za,hN0,hN]
 refine Zs (t:=(a0.Kind == 1)) rfl (fun c24 => ?_) (fun c24 => ?_)
 ·replace h:=Z3 c24 h
  obtain ⟨z2,hz2,h⟩:=bC h
  refine Xk (E':=⟨83,[],[(4,.val (.bool z2))]⟩) (O':=(Zy O n [none])) (n0:=(n+1)) ?_ ?_
  ·rcases Bool.eq_false_or_eq_true (decide ((a0.Words.length:Int) < 65536)) with c5 | c5
   ·replace hz2:=Z3 c5 hz2
    rcases Bool.eq_false_or_eq_true (decide ((a0.Kids.length:Int) < 65536)) with c6 | c6
    ·replace hz2:=Z3 c6 hz2
     try rw [c6] at c5
     obtain ⟨y4,hy4,hz2⟩:=bC hz2
     refine Zb Zc (Z1j (Yca [])) ?_
     simp only [push_cast,seval,Za,c5,c6,hN0,hN]
     repeat (with_reducible refine And.intro (by first | (intro h0;simp only [h0,and_self];done) | (intro h0;simp only [h0,Bool.not_false,Bool.not_true,Bool.true_and,Bool.and_true,true_and,and_true,and_self,imp_self,implies_true,bne_iff_ne,ne_eq,beq_iff_eq];done) | (intros;simp_all;done) | exact True.intro) ?_)
     refine (Kg hy4).then ?_
     simp only [push_cast,seval,Za,c5,c6,hN0,hN]
     repeat (with_reducible refine And.intro (by first | (intro h0;simp only [h0,and_self];done) | (intro h0;simp only [h0,Bool.not_false,Bool.not_true,Bool.true_and,Bool.and_true,true_and,and_true,and_self,imp_self,implies_true,bne_iff_ne,ne_eq,beq_iff_eq];done) | (intros;simp_all;done) | exact True.intro) ?_)
     have hz2:=Option.some.inj hz2;subst hz2
     refine And.intro rfl (Fit2.of (Zr hU rfl rfl ?_) (by omega))
     simp only [push_cast,seval,Za,c5,c6,hN0,hN]
    replace hz2:=Z0 c6 hz2
    try rw [c6] at c5
    refine Zb Zc (Z1j (Z71 [])) ?_
    simp only [push_cast,seval,Za,c5,c6,hN0,hN]
    repeat (with_reducible refine And.intro (by first | (intro h0;simp only [h0,and_self];done) | (intro h0;simp only [h0,Bool.not_false,Bool.not_true,Bool.true_and,Bool.and_true,true_and,and_true,and_self,imp_self,implies_true,bne_iff_ne,ne_eq,beq_iff_eq];done) | (intros;simp_all;done) | exact True.intro) ?_)
    have hz2:=Option.some.inj hz2;subst hz2
    refine And.intro rfl (Fit2.of (Zr hU rfl rfl ?_) (by omega))
    simp only [push_cast,seval,Za,c5,c6,hN0,hN]
   replace hz2:=Z0 c5 hz2
   refine Zb Zc (Z1j (Z71 [])) ?_
   simp only [push_cast,seval,Za,c5,hN0,hN]
   repeat (with_reducible refine And.intro (by first | (intro h0;simp only [h0,and_self];done) | (intro h0;simp only [h0,Bool.not_false,Bool.not_true,Bool.true_and,Bool.and_true,true_and,and_true,and_self,imp_self,implies_true,bne_iff_ne,ne_eq,beq_iff_eq];done) | (intros;simp_all;done) | exact True.intro) ?_)
   have hz2:=Option.some.inj hz2;subst hz2
   refine And.intro rfl (Fit2.of (Zr hU rfl rfl ?_) (by omega))
   simp only [push_cast,seval,Za,c5,hN0,hN]
  refine Zu ?_
  try simp only [Zk,Zg]
  have h:=Option.some.inj h;subst h
  refine Zq (.inr rfl) hU [.val (.bool z2)] (by omega) ?_
  simp only [push_cast,seval,Za,Try.results28,hN0,hN]
 replace h:=Z0 c24 h
 refine Zw ?_
 try simp only [Zk,Zg]
 refine Zl [1,2] [true] ?_
 simp only [push_cast,seval]
 refine Zj ?_
 refine Zj ?_
 obtain ⟨y8,hy8,h⟩:=bC h
 refine Zb Zc [none,none,none,none,none,none,none,none] ?_
 simp only [push_cast,seval,Za,hN0,hN]
 repeat (with_reducible refine And.intro (by first | (intro h0;simp only [h0,and_self];done) | (intro h0;simp only [h0,Bool.not_false,Bool.not_true,Bool.true_and,Bool.and_true,true_and,and_true,and_self,imp_self,implies_true,bne_iff_ne,ne_eq,beq_iff_eq];done) | (intros;simp_all;done) | exact True.intro) ?_)
 refine (Zqx hy8).then ?_
 simp only [push_cast,seval,Za,hN0,hN]
 repeat (with_reducible refine And.intro (by first | (intro h0;simp only [h0,and_self];done) | (intro h0;simp only [h0,Bool.not_false,Bool.not_true,Bool.true_and,Bool.and_true,true_and,and_true,and_self,imp_self,implies_true,bne_iff_ne,ne_eq,beq_iff_eq];done) | (intros;simp_all;done) | exact True.intro) ?_)
 refine Zl [1,2,55] [true] ?_
 simp only [push_cast,seval]
 refine Zs (t:=(cond (cond (!y8) true (decide (0 < (a0.Words.length:Int)))) true (decide (1048576≤(a0.Kids.length:Int))))) rfl (fun c23 => ?_) (fun c23 => ?_)
 ·replace h:=Z3 c23 h
  refine Zp [4] (Zb Zc [] ?_)
  simp only [push_cast,seval,Za,hN0,hN]
  refine Zu ?_
  try simp only [Zk,Zg]
  have h:=Option.some.inj h;subst h
  refine Zq (.inr rfl) hU [.val (.bool false)] (by omega) ?_
  simp only [push_cast,seval,Za,Try.results28,hN0,hN]
 replace h:=Z0 c23 h
 refine Zw ?_
 try simp only [Zk,Zg]
 refine Zl [1,2] [true] ?_
 simp only [push_cast,seval]
 refine Zj ?_
 refine Zp [1,2,57] (Zb Zc [] ?_)
 simp only [push_cast,seval,Za,hN0,hN]
 refine Yn ?_
 refine Zp [1,2,57,58] (Zb Zc [] ?_)
 simp only [push_cast,seval,Za,hN0,hN]
 refine Zs (t:=(a0.Kind == 8)) rfl (fun c22 => ?_) (fun c22 => ?_)
 ·replace h:=Z3 c22 h
  refine Zj ?_
  obtain ⟨y10,hy10,h⟩:=bC h
  refine Zb Zc [] ?_
  simp only [push_cast,seval,Za,hN0,hN]
  refine (Kg hy10).then ?_
  simp only [push_cast,seval,Za,hN0,hN]
  refine Zl [4] [false] ?_
  simp only [push_cast,seval]
  refine Zu ?_
  try simp only [Zk,Zg]
  have h:=Option.some.inj h;subst h
  refine Zq (.inr rfl) hU [.val (.bool y10)] (by omega) ?_
  simp only [push_cast,seval,Za,Try.results28,hN0,hN]
 replace h:=Z0 c22 h
 refine Zp [1,2,65] (Zb Zc [] ?_)
 simp only [push_cast,seval,Za,hN0,hN]
 refine Zs (t:=(a0.Kind == 9)) rfl (fun c21 => ?_) (fun c21 => ?_)
 ·replace h:=Z3 c21 h
  obtain ⟨z13,hz13,h⟩:=bC h
  refine Xk (E':=⟨83,[],[(4,.val (.bool z13))]⟩) (O':=(Zy O n [none])) (n0:=(n+1)) ?_ ?_
  ·obtain ⟨y16,hy16,hz13⟩:=bC hz13
   rcases Bool.eq_false_or_eq_true y16 with c18 | c18
   ·replace hz13:=Z3 c18 hz13
    obtain ⟨y17,hy17,hz13⟩:=bC hz13
    refine Zb Zc (Yca []) ?_
    simp only [push_cast,seval,Za,c18,hN0,hN]
    refine (Zg5 hy16).then ?_
    simp only [push_cast,seval,Za,c18,hN0,hN]
    refine (Kg hy17).then ?_
    simp only [push_cast,seval,Za,c18,hN0,hN]
    have hz13:=Option.some.inj hz13;subst hz13
    refine And.intro rfl (Fit2.of (Zr hU rfl rfl ?_) (by omega))
    simp only [push_cast,seval,Za,c18,hN0,hN]
   replace hz13:=Z0 c18 hz13
   refine Zb Zc (Z71 []) ?_
   simp only [push_cast,seval,Za,c18,hN0,hN]
   refine (Zg5 hy16).then ?_
   simp only [push_cast,seval,Za,c18,hN0,hN]
   have hz13:=Option.some.inj hz13;subst hz13
   refine And.intro rfl (Fit2.of (Zr hU rfl rfl ?_) (by omega))
   simp only [push_cast,seval,Za,c18,hN0,hN]
  refine Zu ?_
  try simp only [Zk,Zg]
  have h:=Option.some.inj h;subst h
  refine Zq (.inr rfl) hU [.val (.bool z13)] (by omega) ?_
  simp only [push_cast,seval,Za,Try.results28,hN0,hN]
 replace h:=Z0 c21 h
 refine Zw ?_
 try simp only [Zk,Zg]
 refine Zl [2] [true] ?_
 simp only [push_cast,seval]
 refine Zj ?_
 obtain ⟨y20,hy20,h⟩:=bC h
 refine Zb Zc [] ?_
 simp only [push_cast,seval,Za,hN0,hN]
 refine (Gt hy20).then ?_
 simp only [push_cast,seval,Za,hN0,hN]
 refine Zl [4] [false] ?_
 simp only [push_cast,seval]
 refine Zu ?_
 try simp only [Zk,Zg]
 have h:=Option.some.inj h;subst h
 refine Zq (.inr rfl) hU [.val (.bool y20)] (by omega) ?_
 simp only [push_cast,seval,Za,Try.results28,hN0,hN]
theorem Zq3 {Y5:(Zd→Option Bool)} {Yz:(Zd→Int→Option Bool)} {Yo:((List Zd)→Int→Option Bool)} {Yv:((List Zd)→Int→Option Bool)} (G4:∀ {a0:Zd} {r:Bool} {O:Objs} {n:Nat},Y5 a0=some r→GTo Try.prog 16 [.agg (Zf a0)] O n (.val (.bool r)) O n) (G5:∀ {a0:Zd} {a1:Int} {r:Bool} {O:Objs} {n:Nat},Yz a0 a1=some r→GTo Try.prog 28 [.agg (Zf a0),.val (.int .i64 a1)] O n (.val (.bool r)) O n) (Kg:∀ {a0:(List Zd)} {a1:Int} {r:Bool} {O:Objs} {n:Nat},Yo a0 a1=some r→GTo Try.prog 42 [.sl a0.length (fl Zi a0),.val (.int .i64 a1)] O n (.val (.bool r)) O n) (Gt:∀ {a0:(List Zd)} {a1:Int} {r:Bool} {O:Objs} {n:Nat},Yv a0 a1=some r→GTo Try.prog 45 [.sl a0.length (fl Zi a0),.val (.int .i64 a1)] O n (.val (.bool r)) O n) {a0:(List Zd)} {a1:Int} {r:Bool} {O:Objs} {n:Nat} (h:Gw Y5 Yz Yo Yv a0 a1=some r):GTo Try.prog 42 [.sl a0.length (fl Zi a0),.val (.int .i64 a1)] O n (.val (.bool r)) O n:=by
 unfold Gw at h
 refine Yj Zc Try.call42 Try.func42 rfl (Nat.le_of_ble_eq_true rfl) (Nat.le_refl _) fun hU => ?_
 have hN0:O n=none:=hU.fresh _ (Nat.le_refl _)
 have hN:∀ k,O (n+k)=none:=fun k=>hU.fresh _ (Nat.le_add_right _ _)
 show W _ _ _ _ ⟨18,[],[(0,.sl a0.length (fl Zi a0)),(1,.val (.int .i64 a1))]⟩ (Zy O n []) _
 refine Zp [0,1] (Zb Zc [] ?_)
 simp only [push_cast,seval,Za,hN0,hN]
 refine Zj ?_
 refine Zp [1,7,8,9] (Zb Zc [] ?_)
 simp only [push_cast,seval,Za,hN0,hN]
 refine Zl [1,7,8,9] [] ?_
 simp only [push_cast,seval]
 obtain ⟨z7,hz7,h⟩:=bC h
 refine Zkc (J:=(Zaq (fun z7=>JR n (⟨18,[],[(4,.val (.bool false))]⟩:Env) (Zy O n []) n) (fun z7=>JX 0 n (⟨18,[],[]⟩:Env) (Zy O n []) n))) (z:=z7) ?_ fun hw => ?_
 ·refine Jq hz7 (fun s0_=>⟨18,[],[(1,.val (.int .i64 a1)),(7,.sl a0.length (fl Zi a0)),(8,.val (.int .i64 (a0.length:Int))),(9,.val (.int .i64 s0_))]⟩) (fun s0_=>(Zy O n [])) (Zaq (fun z7=>JR n (⟨18,[],[(4,.val (.bool false))]⟩:Env) (Zy O n []) n) (fun z7=>JX 0 n (⟨18,[],[]⟩:Env) (Zy O n []) n)) ?_
  intro s0_ x0_ hs0_
  unfold Vs at hs0_
  try dsimp only
  refine Zp [1,7,8,9,10] (Zb Zc [] ?_)
  simp only [push_cast,seval,Za,hN0,hN]
  refine Zj ?_
  refine Zs (t:=(decide (s0_ < (a0.length:Int)))) rfl (fun c6 => ?_) (fun c6 => ?_)
  ·replace hs0_:=Z3 c6 hs0_
   refine Zw ?_
   try simp only [Zk,Zg]
   refine Zl [1,7,8,9] [] ?_
   simp only [push_cast,seval]
   refine Zj ?_
   refine Yn ?_
   refine Zj ?_
   obtain ⟨x2,hx2,ax2,bx2,cx2,hs0_⟩:=bE (f:=Zi) Uo (fun _=>rfl) (by decide) hs0_
   refine Zb Zc [] ?_
   simp only [push_cast,Nat.reduceAdd,Nat.reduceSub,Nat.reduceMul,Nat.reduceLeDiff,Nat.reduceLT,Nat.reduceEqDiff,↓reduceIte,reduceCtorEq,Int.reduceBEq,Int.reduceBNe,Nat.reduceBEq,Int.reduceLE,Int.reduceLT,Int.reduceEq,Int.reduceNe,Int.reduceNeg,Nat.reduceDiv,Nat.reduceMod,Nat.reducePow,Za,ax2,bx2,cx2,hN0,hN]
   refine Zl [1,6,7,8,9] [true] ?_
   simp only [push_cast,seval]
   refine Zj ?_
   obtain ⟨y4,hy4,hs0_⟩:=bC hs0_
   refine Zb Zc [] ?_
   simp only [push_cast,seval,Za,hN0,hN]
   refine (G5 hy4).then ?_
   simp only [push_cast,seval,Za,hN0,hN]
   refine Zl [1,7,8,9,16] [false] ?_
   simp only [push_cast,seval]
   refine Zs (t:=(!y4)) rfl (fun c5 => ?_) (fun c5 => ?_)
   ·replace hs0_:=Z3 c5 hs0_
    refine Zp [4] (Zb Zc [] ?_)
    simp only [push_cast,seval,Za,hN0,hN]
    refine Zu ?_
    try simp only [Zk,Zg]
    have hs0_:=Option.some.inj hs0_;subst hs0_
    refine And.intro (fun h=>by cases h) (And.intro rfl (Fit2.of (Zr hU rfl rfl ?_) (by omega)))
    simp only [push_cast,seval,Za,hN0,hN]
   replace hs0_:=Z0 c5 hs0_
   refine Zw ?_
   try simp only [Zk,Zg]
   refine Zl [1,7,8,9] [false] ?_
   simp only [push_cast,seval]
   refine Zb Zc [] ?_
   simp only [push_cast,seval,Za,hN0,hN]
   have hs0_:=Option.some.inj hs0_;subst hs0_
   refine And.intro rfl (Fit2.of (Zr hU rfl rfl ?_) (by omega))
   simp only [push_cast,seval,Za,hN0,hN]
  replace hs0_:=Z0 c6 hs0_
  refine Jt ?_
  try simp only [Zk,Zg,↓reduceIte,Nat.reduceEqDiff]
  have hs0_:=Option.some.inj hs0_;subst hs0_
  refine And.intro (fun h=>by cases h) (And.intro rfl (Fit2.of (Zr hU rfl rfl ?_) (by omega)))
  simp only [push_cast,seval,Za,hN0,hN]
 rcases z7 with z7 | z7
 ·dsimp only [Zaq] at hw h
  refine Zcx hw ?_
  try simp only [Zk,Zg,↓reduceIte,Nat.reduceEqDiff]
  have h:=Option.some.inj h;subst h
  refine Zq (.inr rfl) hU [.val (.bool false)] (by omega) ?_
  simp only [push_cast,seval,Za,Try.results42,hN0,hN]
 dsimp only [Zaq] at hw h
 refine X1 hw ?_
 try simp only [Zk,Zg,↓reduceIte,Nat.reduceEqDiff]
 refine Zl [] [] ?_
 simp only [push_cast,seval]
 refine Zp [4] (Zb Zc [] ?_)
 simp only [push_cast,seval,Za,hN0,hN]
 refine Zu ?_
 try simp only [Zk,Zg]
 have h:=Option.some.inj h;subst h
 refine Zq (.inr rfl) hU [.val (.bool true)] (by omega) ?_
 simp only [push_cast,seval,Za,Try.results42,hN0,hN]
theorem Zq2 {Y5:(Zd→Option Bool)} {Yz:(Zd→Int→Option Bool)} {Yo:((List Zd)→Int→Option Bool)} {Yv:((List Zd)→Int→Option Bool)} (G4:∀ {a0:Zd} {r:Bool} {O:Objs} {n:Nat},Y5 a0=some r→GTo Try.prog 16 [.agg (Zf a0)] O n (.val (.bool r)) O n) (G5:∀ {a0:Zd} {a1:Int} {r:Bool} {O:Objs} {n:Nat},Yz a0 a1=some r→GTo Try.prog 28 [.agg (Zf a0),.val (.int .i64 a1)] O n (.val (.bool r)) O n) (Kg:∀ {a0:(List Zd)} {a1:Int} {r:Bool} {O:Objs} {n:Nat},Yo a0 a1=some r→GTo Try.prog 42 [.sl a0.length (fl Zi a0),.val (.int .i64 a1)] O n (.val (.bool r)) O n) (Gt:∀ {a0:(List Zd)} {a1:Int} {r:Bool} {O:Objs} {n:Nat},Yv a0 a1=some r→GTo Try.prog 45 [.sl a0.length (fl Zi a0),.val (.int .i64 a1)] O n (.val (.bool r)) O n) {a0:(List Zd)} {a1:Int} {r:Bool} {O:Objs} {n:Nat} (h:Gv Y5 Yz Yo Yv a0 a1=some r):GTo Try.prog 45 [.sl a0.length (fl Zi a0),.val (.int .i64 a1)] O n (.val (.bool r)) O n:=by
 unfold Gv at h
 refine Yj Zc Try.call45 Try.func45 rfl (Nat.le_of_ble_eq_true rfl) (Nat.le_refl _) fun hU => ?_
 have hN0:O n=none:=hU.fresh _ (Nat.le_refl _)
 have hN:∀ k,O (n+k)=none:=fun k=>hU.fresh _ (Nat.le_add_right _ _)
 show W _ _ _ _ ⟨31,[],[(0,.sl a0.length (fl Zi a0)),(1,.val (.int .i64 a1))]⟩ (Zy O n []) _
 refine Zp [0,1] (Zb Zc [] ?_)
 simp only [push_cast,seval,Za,hN0,hN]
 refine Zj ?_
 refine Zp [1,7,8,9] (Zb Zc [] ?_)
 simp only [push_cast,seval,Za,hN0,hN]
 refine Zl [1,7,8,9] [] ?_
 simp only [push_cast,seval]
 obtain ⟨z17,hz17,h⟩:=bC h
 refine Zkc (J:=(Zaq (fun z17=>JR n (⟨31,[],[(4,.val (.bool false))]⟩:Env) (Zy O n []) n) (fun z17=>JX 0 n (⟨31,[],[]⟩:Env) (Zy O n []) n))) (z:=z17) ?_ fun hw => ?_
 ·refine Jq hz17 (fun s0_=>⟨31,[],[(1,.val (.int .i64 a1)),(7,.sl a0.length (fl Zi a0)),(8,.val (.int .i64 (a0.length:Int))),(9,.val (.int .i64 s0_))]⟩) (fun s0_=>(Zy O n [])) (Zaq (fun z17=>JR n (⟨31,[],[(4,.val (.bool false))]⟩:Env) (Zy O n []) n) (fun z17=>JX 0 n (⟨31,[],[]⟩:Env) (Zy O n []) n)) ?_
  intro s0_ x0_ hs0_
  unfold Vr at hs0_
  try dsimp only
  refine Zp [1,7,8,9,10] (Zb Zc [] ?_)
  simp only [push_cast,seval,Za,hN0,hN]
  refine Zj ?_
  refine Zs (t:=(decide (s0_ < (a0.length:Int)))) rfl (fun c16 => ?_) (fun c16 => ?_)
  ·replace hs0_:=Z3 c16 hs0_
   refine Zw ?_
   try simp only [Zk,Zg]
   refine Zl [1,7,8,9] [] ?_
   simp only [push_cast,seval]
   refine Zj ?_
   refine Yn ?_
   refine Zj ?_
   obtain ⟨x2,hx2,ax2,bx2,cx2,hs0_⟩:=bE (f:=Zi) Uo (fun _=>rfl) (by decide) hs0_
   refine Zb Zc [] ?_
   simp only [push_cast,Nat.reduceAdd,Nat.reduceSub,Nat.reduceMul,Nat.reduceLeDiff,Nat.reduceLT,Nat.reduceEqDiff,↓reduceIte,reduceCtorEq,Int.reduceBEq,Int.reduceBNe,Nat.reduceBEq,Int.reduceLE,Int.reduceLT,Int.reduceEq,Int.reduceNe,Int.reduceNeg,Nat.reduceDiv,Nat.reduceMod,Nat.reducePow,Za,ax2,bx2,cx2,hN0,hN]
   refine Zl [1,6,7,8,9] [true] ?_
   simp only [push_cast,seval]
   obtain ⟨z6,hz6,hs0_⟩:=bC hs0_
   refine Xk (E':=⟨31,[],[(1,.val (.int .i64 a1)),(7,.sl a0.length (fl Zi a0)),(8,.val (.int .i64 (a0.length:Int))),(9,.val (.int .i64 s0_)),(29,.val (.bool z6))]⟩) (O':=(Zy O n [none])) (n0:=(n+1)) ?_ ?_
   ·rcases Bool.eq_false_or_eq_true (x2.Kind != 10) with c13 | c13
    ·replace hz6:=Z3 c13 hz6
     refine Zb Zc (Yc4 []) ?_
     simp only [push_cast,seval,Za,c13,hN0,hN]
     have hz6:=Option.some.inj hz6;subst hz6
     refine And.intro rfl (Fit2.of (Zr hU rfl rfl ?_) (by omega))
     simp only [push_cast,seval,Za,c13,hN0,hN]
    replace hz6:=Z0 c13 hz6
    obtain ⟨y10,hy10,hz6⟩:=bC hz6
    rcases Bool.eq_false_or_eq_true y10 with c14 | c14
    ·replace hz6:=Z3 c14 hz6
     try rw [c14] at c13
     obtain ⟨x11,hx11,ax11,bx11,cx11,hz6⟩:=bE (f:=(eI .u64)) Zap (fun _=>rfl) (by decide) hz6
     obtain ⟨y12,hy12,hz6⟩:=bC hz6
     refine Zb Zc (Yc6 []) ?_
     simp only [push_cast,Nat.reduceAdd,Nat.reduceSub,Nat.reduceMul,Nat.reduceLeDiff,Nat.reduceLT,Nat.reduceEqDiff,↓reduceIte,reduceCtorEq,Int.reduceBEq,Int.reduceBNe,Nat.reduceBEq,Int.reduceLE,Int.reduceLT,Int.reduceEq,Int.reduceNe,Int.reduceNeg,Nat.reduceDiv,Nat.reduceMod,Nat.reducePow,Za,c13,c14,ax11,bx11,cx11,hN0,hN]
     refine (G4 hy10).then ?_
     simp only [push_cast,Nat.reduceAdd,Nat.reduceSub,Nat.reduceMul,Nat.reduceLeDiff,Nat.reduceLT,Nat.reduceEqDiff,↓reduceIte,reduceCtorEq,Int.reduceBEq,Int.reduceBNe,Nat.reduceBEq,Int.reduceLE,Int.reduceLT,Int.reduceEq,Int.reduceNe,Int.reduceNeg,Nat.reduceDiv,Nat.reduceMod,Nat.reducePow,Za,c13,c14,ax11,bx11,cx11,hN0,hN]
     refine (Zq1 hy12).then ?_
     simp only [push_cast,Nat.reduceAdd,Nat.reduceSub,Nat.reduceMul,Nat.reduceLeDiff,Nat.reduceLT,Nat.reduceEqDiff,↓reduceIte,reduceCtorEq,Int.reduceBEq,Int.reduceBNe,Nat.reduceBEq,Int.reduceLE,Int.reduceLT,Int.reduceEq,Int.reduceNe,Int.reduceNeg,Nat.reduceDiv,Nat.reduceMod,Nat.reducePow,Za,c13,c14,ax11,bx11,cx11,hN0,hN]
     have hz6:=Option.some.inj hz6;subst hz6
     refine And.intro rfl (Fit2.of (Zr hU rfl rfl ?_) (by omega))
     simp only [push_cast,Nat.reduceAdd,Nat.reduceSub,Nat.reduceMul,Nat.reduceLeDiff,Nat.reduceLT,Nat.reduceEqDiff,↓reduceIte,reduceCtorEq,Int.reduceBEq,Int.reduceBNe,Nat.reduceBEq,Int.reduceLE,Int.reduceLT,Int.reduceEq,Int.reduceNe,Int.reduceNeg,Nat.reduceDiv,Nat.reduceMod,Nat.reducePow,Za,c13,c14,ax11,bx11,cx11,hN0,hN]
    replace hz6:=Z0 c14 hz6
    try rw [c14] at c13
    refine Zb Zc (Z1k (Z5w [])) ?_
    simp only [push_cast,seval,Za,c13,c14,hN0,hN]
    refine (G4 hy10).then ?_
    simp only [push_cast,seval,Za,c13,c14,hN0,hN]
    have hz6:=Option.some.inj hz6;subst hz6
    refine And.intro rfl (Fit2.of (Zr hU rfl rfl ?_) (by omega))
    simp only [push_cast,seval,Za,c13,c14,hN0,hN]
   refine Zs (t:=z6) rfl (fun c15 => ?_) (fun c15 => ?_)
   ·replace hs0_:=Z3 c15 hs0_
    refine Zp [4] (Zb Zc [] ?_)
    simp only [push_cast,seval,Za,hN0,hN]
    refine Zu ?_
    try simp only [Zk,Zg]
    have hs0_:=Option.some.inj hs0_;subst hs0_
    refine And.intro (fun h=>by cases h) (And.intro rfl (Fit2.of (Zr hU rfl rfl ?_) (by omega)))
    simp only [push_cast,seval,Za,hN0,hN]
   replace hs0_:=Z0 c15 hs0_
   refine Zw ?_
   try simp only [Zk,Zg]
   refine Zl [1,7,8,9] [false] ?_
   simp only [push_cast,seval]
   refine Zb Zc [] ?_
   simp only [push_cast,seval,Za,hN0,hN]
   have hs0_:=Option.some.inj hs0_;subst hs0_
   refine And.intro rfl (Fit2.of (Zr hU rfl rfl ?_) (by omega))
   simp only [push_cast,seval,Za,hN0,hN]
  replace hs0_:=Z0 c16 hs0_
  refine Jt ?_
  try simp only [Zk,Zg,↓reduceIte,Nat.reduceEqDiff]
  have hs0_:=Option.some.inj hs0_;subst hs0_
  refine And.intro (fun h=>by cases h) (And.intro rfl (Fit2.of (Zr hU rfl rfl ?_) (by omega)))
  simp only [push_cast,seval,Za,hN0,hN]
 rcases z17 with z17 | z17
 ·dsimp only [Zaq] at hw h
  refine Zcx hw ?_
  try simp only [Zk,Zg,↓reduceIte,Nat.reduceEqDiff]
  have h:=Option.some.inj h;subst h
  refine Zq (.inr rfl) hU [.val (.bool false)] (by omega) ?_
  simp only [push_cast,seval,Za,Try.results45,hN0,hN]
 dsimp only [Zaq] at hw h
 refine X1 hw ?_
 try simp only [Zk,Zg,↓reduceIte,Nat.reduceEqDiff]
 refine Zl [] [] ?_
 simp only [push_cast,seval]
 refine Zp [4] (Zb Zc [] ?_)
 simp only [push_cast,seval,Za,hN0,hN]
 refine Zu ?_
 try simp only [Zk,Zg]
 have h:=Option.some.inj h;subst h
 refine Zq (.inr rfl) hU [.val (.bool true)] (by omega) ?_
 simp only [push_cast,seval,Za,Try.results45,hN0,hN]
theorem Zr4:∀ k,(∀ {a0:Zd} {r:Bool} {O:Objs} {n:Nat},(Zz k).1 a0=some r→GTo Try.prog 16 [.agg (Zf a0)] O n (.val (.bool r)) O n)∧(∀ {a0:Zd} {a1:Int} {r:Bool} {O:Objs} {n:Nat},(Zz k).2.1 a0 a1=some r→GTo Try.prog 28 [.agg (Zf a0),.val (.int .i64 a1)] O n (.val (.bool r)) O n)∧(∀ {a0:(List Zd)} {a1:Int} {r:Bool} {O:Objs} {n:Nat},(Zz k).2.2.1 a0 a1=some r→GTo Try.prog 42 [.sl a0.length (fl Zi a0),.val (.int .i64 a1)] O n (.val (.bool r)) O n)∧(∀ {a0:(List Zd)} {a1:Int} {r:Bool} {O:Objs} {n:Nat},(Zz k).2.2.2 a0 a1=some r→GTo Try.prog 45 [.sl a0.length (fl Zi a0),.val (.int .i64 a1)] O n (.val (.bool r)) O n):=fun k=>by
 induction k with
 | zero=>exact ⟨@fun a0 r O n h=>(nomatch (show (none:Option _)=some _ from h)),@fun a0 a1 r O n h=>(nomatch (show (none:Option _)=some _ from h)),@fun a0 a1 r O n h=>(nomatch (show (none:Option _)=some _ from h)),@fun a0 a1 r O n h=>(nomatch (show (none:Option _)=some _ from h))⟩
 | succ k ih=>exact ⟨@fun a0 r O n h=>Zva (ih.1) (ih.2.1) (ih.2.2.1) (ih.2.2.2)  h,@fun a0 a1 r O n h=>Zvb (ih.1) (ih.2.1) (ih.2.2.1) (ih.2.2.2)  h,@fun a0 a1 r O n h=>Zq3 (ih.1) (ih.2.1) (ih.2.2.1) (ih.2.2.2)  h,@fun a0 a1 r O n h=>Zq2 (ih.1) (ih.2.1) (ih.2.2.1) (ih.2.2.2)  h⟩
theorem Zpa {a0:Zd} {r:Bool} {O:Objs} {n:Nat} (h:Zqs a0=some r):GTo Try.prog 16 [.agg (Zf a0)] O n (.val (.bool r)) O n:=by
 obtain ⟨k,hk⟩:=Zc8 h
 exact (Zr4 k).1  hk
theorem Zqz {a0:(List Int)} {r:(List Int)} {O:Objs} {n:Nat} (h:Gc a0=some r):GTo Try.prog 35 [.sl a0.length (fl (eI .u64) a0)] O n (.sl r.length (fl (eI .u64) r)) O n:=by
 unfold Gc at h
 refine Yj Zc Try.call35 Try.func35 rfl (Nat.le_of_ble_eq_true rfl) (Nat.le_refl _) fun hU => ?_
 have hN0:O n=none:=hU.fresh _ (Nat.le_refl _)
 have hN:∀ k,O (n+k)=none:=fun k=>hU.fresh _ (Nat.le_add_right _ _)
 show W _ _ _ _ ⟨22,[],[(0,.sl a0.length (fl (eI .u64) a0))]⟩ (Zy O n []) _
 refine Zp [0] (Zb Zc [] ?_)
 simp only [push_cast,seval,Za,hN0,hN]
 refine Zp [0,3] (Zb Zc [] ?_)
 simp only [push_cast,seval,Za,hN0,hN]
 refine Zj ?_
 refine Zl [0,3] [] ?_
 simp only [push_cast,seval]
 obtain ⟨z7,hz7,h⟩:=bC h
 refine X1 (E':=⟨22,[],[(0,.sl a0.length (fl (eI .u64) a0)),(3,.val (.int .i64 z7))]⟩) (O':=(Zy O n [])) (n0:=n) ?_ ?_
 ·refine Jq hz7 (fun s0_=>⟨22,[],[(0,.sl a0.length (fl (eI .u64) a0)),(3,.val (.int .i64 s0_))]⟩) (fun s0_=>(Zy O n [])) (fun z7=>JX 0 n (⟨22,[],[(0,.sl a0.length (fl (eI .u64) a0)),(3,.val (.int .i64 z7))]⟩:Env) (Zy O n []) n) ?_
  intro s0_ x0_ hs0_
  unfold Va at hs0_
  try dsimp only
  refine Zj ?_
  obtain ⟨z2,hz2,hs0_⟩:=bC hs0_
  refine Xk (E':=⟨22,[],[(0,.sl a0.length (fl (eI .u64) a0)),(3,.val (.int .i64 s0_)),(15,.val (.bool z2))]⟩) (O':=(Zy O n [])) (n0:=n) ?_ ?_
  ·rcases Bool.eq_false_or_eq_true (decide (0 < s0_)) with c5 | c5
   ·replace hz2:=Z3 c5 hz2
    obtain ⟨x4,hx4,ax4,bx4,cx4,hz2⟩:=bE (f:=(eI .u64)) Zap (fun _=>rfl) (by decide) hz2
    refine Zb Zc (Z73 []) ?_
    simp only [push_cast,Nat.reduceAdd,Nat.reduceSub,Nat.reduceMul,Nat.reduceLeDiff,Nat.reduceLT,Nat.reduceEqDiff,↓reduceIte,reduceCtorEq,Int.reduceBEq,Int.reduceBNe,Nat.reduceBEq,Int.reduceLE,Int.reduceLT,Int.reduceEq,Int.reduceNe,Int.reduceNeg,Nat.reduceDiv,Nat.reduceMod,Nat.reducePow,Za,c5,ax4,bx4,cx4,hN0,hN]
    have hz2:=Option.some.inj hz2;subst hz2
    refine And.intro rfl (Fit2.of (Zr hU rfl rfl ?_) (by omega))
    simp only [push_cast,Nat.reduceAdd,Nat.reduceSub,Nat.reduceMul,Nat.reduceLeDiff,Nat.reduceLT,Nat.reduceEqDiff,↓reduceIte,reduceCtorEq,Int.reduceBEq,Int.reduceBNe,Nat.reduceBEq,Int.reduceLE,Int.reduceLT,Int.reduceEq,Int.reduceNe,Int.reduceNeg,Nat.reduceDiv,Nat.reduceMod,Nat.reducePow,Za,c5,ax4,bx4,cx4,hN0,hN]
   replace hz2:=Z0 c5 hz2
   refine Zb Zc (Z72 []) ?_
   simp only [push_cast,seval,Za,c5,hN0,hN]
   have hz2:=Option.some.inj hz2;subst hz2
   refine And.intro rfl (Fit2.of (Zr hU rfl rfl ?_) (by omega))
   simp only [push_cast,seval,Za,c5,hN0,hN]
  refine Zs (t:=z2) rfl (fun c6 => ?_) (fun c6 => ?_)
  ·replace hs0_:=Z3 c6 hs0_
   refine Zw ?_
   try simp only [Zk,Zg]
   refine Zl [0,3] [] ?_
   simp only [push_cast,seval]
   refine Yn ?_
   refine Zb Zc [] ?_
   simp only [push_cast,seval,Za,hN0,hN]
   have hs0_:=Option.some.inj hs0_;subst hs0_
   refine And.intro rfl (Fit2.of (Zr hU rfl rfl ?_) (by omega))
   simp only [push_cast,seval,Za,hN0,hN]
  replace hs0_:=Z0 c6 hs0_
  refine Jt ?_
  try simp only [Zk,Zg,↓reduceIte,Nat.reduceEqDiff]
  have hs0_:=Option.some.inj hs0_;subst hs0_
  refine And.intro (fun h=>by cases h) (And.intro rfl (Fit2.of (Zr hU rfl rfl ?_) (by omega)))
  simp only [push_cast,seval,Za,hN0,hN]
 try simp only [Zk,Zg,↓reduceIte,Nat.reduceEqDiff]
 refine Zl [0,3] [] ?_
 simp only [push_cast,seval]
 obtain ⟨l9,al9,bl9,cl9,gl9,h⟩:=bS3 (lo:=none) (hi:=(.i64,z7)) (f:=(eI .u64)) rfl rfl Zfr Zap (fun _=>rfl) h
 refine Zp [2] (Zb Zc [] ?_)
 simp only [push_cast,seval,Za,al9,bl9,cl9,gl9,hN0,hN]
 refine Zu ?_
 try simp only [Zk,Zg]
 have h:=Option.some.inj h;subst h
 refine Zq (.inr rfl) hU [.sl l9.length (fl (eI .u64) l9)] (by omega) ?_
 simp only [push_cast,seval,Za,Try.results35,hN0,hN]
theorem Zr6 {a0:(List Zd)} {r:(List Zd)} {O:Objs} {n:Nat} (h:Gz a0=some r):GTo Try.prog 36 [.sl a0.length (fl Zi a0)] O n (.sl r.length (fl Zi r)) O n:=by
 unfold Gz at h
 refine Yj Zc Try.call36 Try.func36 rfl (Nat.le_of_ble_eq_true rfl) (Nat.le_refl _) fun hU => ?_
 have hN0:O n=none:=hU.fresh _ (Nat.le_refl _)
 have hN:∀ k,O (n+k)=none:=fun k=>hU.fresh _ (Nat.le_add_right _ _)
 show W _ _ _ _ ⟨23,[],[(0,.sl a0.length (fl Zi a0))]⟩ (Zy O n []) _
 refine Zp [0] (Zb Zc [] ?_)
 simp only [push_cast,seval,Za,hN0,hN]
 refine Zp [0,3] (Zb Zc [] ?_)
 simp only [push_cast,seval,Za,hN0,hN]
 refine Zj ?_
 refine Zl [0,3] [] ?_
 simp only [push_cast,seval]
 obtain ⟨z10,hz10,h⟩:=bC h
 refine X1 (E':=⟨23,[],[(0,.sl a0.length (fl Zi a0)),(3,.val (.int .i64 z10))]⟩) (O':=(Zy O n [])) (n0:=n) ?_ ?_
 ·refine Jq hz10 (fun s0_=>⟨23,[],[(0,.sl a0.length (fl Zi a0)),(3,.val (.int .i64 s0_))]⟩) (fun s0_=>(Zy O n [])) (fun z10=>JX 0 n (⟨23,[],[(0,.sl a0.length (fl Zi a0)),(3,.val (.int .i64 z10))]⟩:Env) (Zy O n []) n) ?_
  intro s0_ x0_ hs0_
  unfold Vy at hs0_
  try dsimp only
  refine Zj ?_
  obtain ⟨z3,hz3,hs0_⟩:=bC hs0_
  refine Xk (E':=⟨23,[],[(0,.sl a0.length (fl Zi a0)),(3,.val (.int .i64 s0_)),(16,.val (.bool z3))]⟩) (O':=(Zy O n [])) (n0:=n) ?_ ?_
  ·rcases Bool.eq_false_or_eq_true (decide (0 < s0_)) with c8 | c8
   ·replace hz3:=Z3 c8 hz3
    obtain ⟨x6,hx6,ax6,bx6,cx6,hz3⟩:=bE (f:=Zi) Uo (fun _=>rfl) (by decide) hz3
    have g7:=Z3a (f:=Zi) (sz:=3) Zz4 (fun _=>rfl) (by decide) (by decide) hx6
    refine Zb Zc (Z74 []) ?_
    simp only [push_cast,Nat.reduceAdd,Nat.reduceSub,Nat.reduceMul,Nat.reduceLeDiff,Nat.reduceLT,Nat.reduceEqDiff,↓reduceIte,reduceCtorEq,Int.reduceBEq,Int.reduceBNe,Nat.reduceBEq,Int.reduceLE,Int.reduceLT,Int.reduceEq,Int.reduceNe,Int.reduceNeg,Nat.reduceDiv,Nat.reduceMod,Nat.reducePow,Za,c8,ax6,bx6,cx6,g7,hN0,hN]
    have hz3:=Option.some.inj hz3;subst hz3
    refine And.intro rfl (Fit2.of (Zr hU rfl rfl ?_) (by omega))
    simp only [push_cast,Nat.reduceAdd,Nat.reduceSub,Nat.reduceMul,Nat.reduceLeDiff,Nat.reduceLT,Nat.reduceEqDiff,↓reduceIte,reduceCtorEq,Int.reduceBEq,Int.reduceBNe,Nat.reduceBEq,Int.reduceLE,Int.reduceLT,Int.reduceEq,Int.reduceNe,Int.reduceNeg,Nat.reduceDiv,Nat.reduceMod,Nat.reducePow,Za,c8,ax6,bx6,cx6,g7,hN0,hN]
   replace hz3:=Z0 c8 hz3
   refine Zb Zc (Z5w []) ?_
   simp only [push_cast,seval,Za,c8,hN0,hN]
   have hz3:=Option.some.inj hz3;subst hz3
   refine And.intro rfl (Fit2.of (Zr hU rfl rfl ?_) (by omega))
   simp only [push_cast,seval,Za,c8,hN0,hN]
  refine Zs (t:=z3) rfl (fun c9 => ?_) (fun c9 => ?_)
  ·replace hs0_:=Z3 c9 hs0_
   refine Zw ?_
   try simp only [Zk,Zg]
   refine Zl [0,3] [] ?_
   simp only [push_cast,seval]
   refine Yn ?_
   refine Zb Zc [] ?_
   simp only [push_cast,seval,Za,hN0,hN]
   have hs0_:=Option.some.inj hs0_;subst hs0_
   refine And.intro rfl (Fit2.of (Zr hU rfl rfl ?_) (by omega))
   simp only [push_cast,seval,Za,hN0,hN]
  replace hs0_:=Z0 c9 hs0_
  refine Jt ?_
  try simp only [Zk,Zg,↓reduceIte,Nat.reduceEqDiff]
  have hs0_:=Option.some.inj hs0_;subst hs0_
  refine And.intro (fun h=>by cases h) (And.intro rfl (Fit2.of (Zr hU rfl rfl ?_) (by omega)))
  simp only [push_cast,seval,Za,hN0,hN]
 try simp only [Zk,Zg,↓reduceIte,Nat.reduceEqDiff]
 refine Zl [0,3] [] ?_
 simp only [push_cast,seval]
 obtain ⟨l12,al12,bl12,cl12,gl12,h⟩:=bS3 (lo:=none) (hi:=(.i64,z10)) (f:=Zi) rfl rfl Zhw Uo (fun _=>rfl) h
 refine Zp [2] (Zb Zc [] ?_)
 simp only [push_cast,seval,Za,al12,bl12,cl12,gl12,hN0,hN]
 refine Zu ?_
 try simp only [Zk,Zg]
 have h:=Option.some.inj h;subst h
 refine Zq (.inr rfl) hU [.sl l12.length (fl Zi l12)] (by omega) ?_
 simp only [push_cast,seval,Za,Try.results36,hN0,hN]
theorem Zwh {Zcm:(Zd→Option Zd)} (Zu8:∀ {a0:Zd} {r:Zd} {O:Objs} {n:Nat},Zcm a0=some r→GTo Try.prog 20 [.agg (Zf a0)] O n (.agg (Zf r)) O n) {a0:Zd} {r:Zd} {O:Objs} {n:Nat} (h:Ze4 Zcm a0=some r):GTo Try.prog 20 [.agg (Zf a0)] O n (.agg (Zf r)) O n:=by
 unfold Ze4 at h
 refine Yj Zc Try.call20 Try.func20 rfl (Nat.le_of_ble_eq_true rfl) (Nat.le_refl _) fun hU => ?_
 have hN0:O n=none:=hU.fresh _ (Nat.le_refl _)
 have hN:∀ k,O (n+k)=none:=fun k=>hU.fresh _ (Nat.le_add_right _ _)
 show W _ _ _ _ ⟨49,[],[(0,.agg (Zf a0))]⟩ (Zy O n []) _
 refine Zp [1,2] (Zb Zc [] ?_)
 simp only [push_cast,seval,Za,hN0,hN]
 refine Zj ?_
 refine Zp [1,2,10] (Zb Zc [] ?_)
 simp only [push_cast,seval,Za,hN0,hN]
 refine Zs (t:=(a0.Kind == 0)) rfl (fun c15 => ?_) (fun c15 => ?_)
 ·replace h:=Z3 c15 h
  refine Zj ?_
  refine Zb Zc [] ?_
  simp only [push_cast,seval,Za,hN0,hN]
  refine Zl [2] [false,true] ?_
  simp only [push_cast,seval]
  refine Zu ?_
  try simp only [Zk,Zg]
  have h:=Option.some.inj h;subst h
  refine Zq (.inr rfl) hU [.agg [.val (.int .i64 0),.val (.slice none 0 0),.val (.slice none 0 0)]] (by omega) ?_
  simp only [push_cast,seval,Za,Try.results20,hN0,hN]
 replace h:=Z0 c15 h
 refine Zw ?_
 try simp only [Zk,Zg]
 refine Zl [1,2] [true,true] ?_
 simp only [push_cast,seval]
 refine Zp [1,2,3,4] (V6 Zc (by kernel_rfl) [] (by kernel_rfl) ?_)
 simp only [push_cast,seval,Za,hN0,hN]
 obtain ⟨z1,hz1,h⟩:=bC h
 refine Xk (E':=⟨49,[],[(1,.ref n 0),(2,.ref (n+1) 0),(3,.sl z1.1.length (fl (eI .u64) z1.1)),(4,.sl z1.2.length (fl Zi z1.2))]⟩) (O':=(Zy O n [some ⟨false,25,3,1,(Zf a0)⟩,some ⟨false,25,3,1,[.val (.int .i64 0),.val (.slice none 0 0),.val (.slice none 0 0)]⟩])) (n0:=(n+2)) ?_ ?_
 ·refine Zp [1,2,3,4,18] (Zb Zc [] ?_)
  simp only [push_cast,seval,Za,hN0,hN]
  refine Zs (t:=(a0.Kind == 1)) rfl (fun c4 => ?_) (fun c4 => ?_)
  ·replace hz1:=Z3 c4 hz1
   obtain ⟨y2,hy2,hz1⟩:=bC hz1
   obtain ⟨y3,hy3,hz1⟩:=bC hz1
   refine Zb Zc [] ?_
   simp only [push_cast,seval,Za,hN0,hN]
   refine (Zqz hy2).then ?_
   simp only [push_cast,seval,Za,hN0,hN]
   refine (Zr6 hy3).then ?_
   simp only [push_cast,seval,Za,hN0,hN]
   have hz1:=Option.some.inj hz1;subst hz1
   refine And.intro rfl (Fit2.of (Zr hU rfl rfl ?_) (by omega))
   simp only [push_cast,seval,Za,hN0,hN]
  replace hz1:=Z0 c4 hz1
  refine Zw ?_
  try simp only [Zk,Zg]
  have hz1:=Option.some.inj hz1;subst hz1
  refine And.intro rfl (Fit2.of (Zr hU rfl rfl ?_) (by omega))
  simp only [push_cast,seval,Za,hN0,hN]
 refine Zj ?_
 refine Zb Zc [] ?_
 simp only [push_cast,seval,Za,hN0,hN]
 refine Zl [2,4,5] [false,true,true] ?_
 simp only [push_cast,seval]
 obtain ⟨z5,hz5,h⟩:=bC h
 refine Xk (E':=⟨49,[],[(2,.ref (n+1) 0),(4,.sl z1.2.length (fl Zi z1.2)),(5,.ref (n+2) 0)]⟩) (O':=(Zy O n [none,some ⟨false,25,3,1,[.val (.int .i64 0),.val (.slice none 0 0),.val (.slice none 0 0)]⟩,some ⟨false,25,3,1,[.val (.int .i64 a0.Kind),.sl z1.1.length (fl (eI .u64) z1.1),.row (n+4) z5.length]⟩,none,some ⟨true,25,3,z5.length,fl Zi z5⟩,none])) (n0:=(n+6)) ?_ ?_
 ·refine Zp [2,4,5,29] (Zb Zc [] ?_)
  simp only [push_cast,seval,Za,hN0,hN]
  refine Zs (t:=(decide (0 < (z1.2.length:Int)))) rfl (fun c7 => ?_) (fun c7 => ?_)
  ·replace hz5:=Z3 c7 hz5
   obtain ⟨l6,al6,bl6,cl6,el6,hz5⟩:=bM2 (c:=56) rfl hz5
   have nl6:Int.toNat (z1.2.length:Int)=List.length l6:=by rw [el6,List.length_replicate]
   have fl6:∀ O O' n,Vh O O' n (List.replicate (List.length l6) [.val (.int .i64 0),.val (.slice none 0 0),.val (.slice none 0 0)]).flatten (fl Zi l6)=True:=fun O O' n=>by rw [← nl6,el6];exact eq_true (Zv3 (by simp only [push_cast,seval,Za]) _)
   clear el6
   refine Zb Zc [] ?_
   simp only [push_cast,seval,Za,al6,bl6,cl6,fl6,nl6,hN0,hN]
   have hz5:=Option.some.inj hz5;subst hz5
   refine And.intro rfl ?_
   refine Fit2.trans (E':=(⟨49,[],[(2,.ref (n+1) 0),(4,.sl z1.2.length (fl Zi z1.2)),(5,.ref (n+2) 0)]⟩:Env)) (O':=(Zy O n [none,some ⟨false,25,3,1,[.val (.int .i64 0),.val (.slice none 0 0),.val (.slice none 0 0)]⟩,some ⟨false,25,3,1,[.val (.int .i64 a0.Kind),.sl z1.1.length (fl (eI .u64) z1.1),.row (n+3) l6.length]⟩,some ⟨true,25,3,l6.length,fl Zi l6⟩])) (n':=(n+4)) (Fit2.of (Zr hU rfl rfl ?_) (by omega)) ?_
   ·simp only [push_cast,seval,Za,al6,bl6,cl6,fl6,nl6,hN0,hN]
   refine Zku (k:=4) (k':=6) hU [5,1,2,4] [0,1,2,0,3,0] rfl rfl rfl rfl ⟨rfl,rfl⟩ ?_
   simp only [push_cast,seval,Za,hN0,hN]
  replace hz5:=Z0 c7 hz5
  refine Zw ?_
  try simp only [Zk,Zg]
  have hz5:=Option.some.inj hz5;subst hz5
  refine And.intro rfl ?_
  refine Fit2.trans (E':=(⟨49,[],[(2,.ref (n+1) 0),(4,.sl z1.2.length (fl Zi z1.2)),(5,.ref (n+2) 0)]⟩:Env)) (O':=(Zy O n [none,some ⟨false,25,3,1,[.val (.int .i64 0),.val (.slice none 0 0),.val (.slice none 0 0)]⟩,some ⟨false,25,3,1,[.val (.int .i64 a0.Kind),.sl z1.1.length (fl (eI .u64) z1.1),.val (.slice none 0 0)]⟩])) (n':=(n+3)) (Fit2.of (Zr hU rfl rfl ?_) (by omega)) ?_
  ·simp only [push_cast,seval,Za,hN0,hN]
  refine Fit2.trans (Zdt (p:=(n+2)) (k:=2) (q:=⟨false,25,3,1,[.val (.int .i64 a0.Kind),.sl z1.1.length (fl (eI .u64) z1.1),.val (.slice none 0 0)]⟩) 25 3 (by simp only [V8,Zbx,List.getElem?_cons_zero,List.getElem?_cons_succ,Option.join_some,List.length_nil,Z9]) rfl (by omega)) ?_
  simp only [Uc,Kv,Zam,U3,List.set_cons_zero,List.set_cons_succ,List.cons_append,List.nil_append,List.length_cons,List.length_nil,Nat.zero_add,Nat.reduceAdd,Nat.reduceLT,Nat.add_assoc]
  refine Zku (k:=4) (k':=6) hU [5,1,2,4] [0,1,2,0,3,0] rfl rfl rfl rfl ⟨rfl,rfl⟩ ?_
  simp only [push_cast,seval,Za,hN0,hN]
 refine Zj ?_
 refine Zp [2,5,34,35,36] (Zb Zc [] ?_)
 simp only [push_cast,seval,Za,hN0,hN]
 refine Zl [2,5,34,35,36] [false,true,true,false,true,false] ?_
 simp only [push_cast,seval]
 obtain ⟨z14,hz14,h⟩:=bC h
 refine X1 (E':=⟨49,[],[(2,.ref (n+1) 0),(5,.ref (n+2) 0)]⟩) (O':=(Zy O n [none,some ⟨false,25,3,1,[.val (.int .i64 0),.val (.slice none 0 0),.val (.slice none 0 0)]⟩,some ⟨false,25,3,1,[.val (.int .i64 a0.Kind),.sl z1.1.length (fl (eI .u64) z1.1),.row (n+4) z14.length]⟩,none,some ⟨true,25,3,z14.length,fl Zi z14⟩,none])) (n0:=(n+6)) ?_ ?_
 ·refine Jq hz14 (fun s0_=>⟨49,[],[(2,.ref (n+1) 0),(5,.ref (n+2) 0),(34,.sl z1.2.length (fl Zi z1.2)),(35,.val (.int .i64 (z1.2.length:Int))),(36,.val (.int .i64 s0_.1))]⟩) (fun s0_=>(Zy O n [none,some ⟨false,25,3,1,[.val (.int .i64 0),.val (.slice none 0 0),.val (.slice none 0 0)]⟩,some ⟨false,25,3,1,[.val (.int .i64 a0.Kind),.sl z1.1.length (fl (eI .u64) z1.1),.row (n+4) s0_.2.length]⟩,none,some ⟨true,25,3,s0_.2.length,fl Zi s0_.2⟩,none])) (fun z14=>JX 0 n (⟨49,[],[(2,.ref (n+1) 0),(5,.ref (n+2) 0)]⟩:Env) (Zy O n [none,some ⟨false,25,3,1,[.val (.int .i64 0),.val (.slice none 0 0),.val (.slice none 0 0)]⟩,some ⟨false,25,3,1,[.val (.int .i64 a0.Kind),.sl z1.1.length (fl (eI .u64) z1.1),.row (n+4) z14.length]⟩,none,some ⟨true,25,3,z14.length,fl Zi z14⟩,none]) (n+6)) ?_
  intro s0_ x0_ hs0_
  unfold U5 at hs0_
  try dsimp only
  refine Zp [2,5,34,35,36,37] (Zb Zc [] ?_)
  simp only [push_cast,seval,Za,hN0,hN]
  refine Zj ?_
  refine Zs (t:=(decide (s0_.1 < (z1.2.length:Int)))) rfl (fun c13 => ?_) (fun c13 => ?_)
  ·replace hs0_:=Z3 c13 hs0_
   refine Zw ?_
   try simp only [Zk,Zg]
   refine Zl [2,5,34,35,36] [false,true,true,false,true,false] ?_
   simp only [push_cast,seval]
   refine Zj ?_
   refine Yn ?_
   refine Zj ?_
   obtain ⟨x9,hx9,ax9,bx9,cx9,hs0_⟩:=bE (f:=Zi) Uo (fun _=>rfl) (by decide) hs0_
   refine Zb Zc [] ?_
   simp only [push_cast,Nat.reduceAdd,Nat.reduceSub,Nat.reduceMul,Nat.reduceLeDiff,Nat.reduceLT,Nat.reduceEqDiff,↓reduceIte,reduceCtorEq,Int.reduceBEq,Int.reduceBNe,Nat.reduceBEq,Int.reduceLE,Int.reduceLT,Int.reduceEq,Int.reduceNe,Int.reduceNeg,Nat.reduceDiv,Nat.reduceMod,Nat.reducePow,Za,ax9,bx9,cx9,hN0,hN]
   refine Zl [2,5,6,7,34,35,36] [false,true,true,false,true,false,true] ?_
   simp only [push_cast,seval]
   obtain ⟨y10,hy10,hs0_⟩:=bC hs0_
   obtain ⟨x11,hx11,ax11,bx11,cx11,hs0_⟩:=bE (f:=Zi) Uo (fun _=>rfl) (by decide) hs0_
   have gu12:Uv (fl Zi s0_.2) [.val (.int .i64 y10.Kind),.sl y10.Words.length (fl (eI .u64) y10.Words),.sl y10.Kids.length (fl Zi y10.Kids)] (Int.toNat s0_.1 * 3)=some (fl Zi (Xr s0_.2 s0_.1 y10)):=(congrArg (fun c=>Uv (fl Zi s0_.2) c (Int.toNat s0_.1 * 3)) (show [.val (.int .i64 y10.Kind),.sl y10.Words.length (fl (eI .u64) y10.Words),.sl y10.Kids.length (fl Zi y10.Kids)]=Zi y10 from by simp only [Zi,Y1,eI,eB,eS,eL])).trans (Zit (f:=Zi) (ti:=⟨.bool,3,0,[],false⟩) (x:=y10) (fun _=>rfl) (Zc3 hx11))
   refine Zl2 Zc (by kernel_rfl) [false,false,false,false,false,false,true] [] (by kernel_rfl) ?_
   simp only [push_cast,Nat.reduceAdd,Nat.reduceSub,Nat.reduceMul,Nat.reduceLeDiff,Nat.reduceLT,Nat.reduceEqDiff,↓reduceIte,reduceCtorEq,Int.reduceBEq,Int.reduceBNe,Nat.reduceBEq,Int.reduceLE,Int.reduceLT,Int.reduceEq,Int.reduceNe,Int.reduceNeg,Nat.reduceDiv,Nat.reduceMod,Nat.reducePow,Za,ax11,bx11,cx11,gu12,hN0,hN]
   refine PCall.of (Zu8 hy10) ?_
   simp only [push_cast,Nat.reduceAdd,Nat.reduceSub,Nat.reduceMul,Nat.reduceLeDiff,Nat.reduceLT,Nat.reduceEqDiff,↓reduceIte,reduceCtorEq,Int.reduceBEq,Int.reduceBNe,Nat.reduceBEq,Int.reduceLE,Int.reduceLT,Int.reduceEq,Int.reduceNe,Int.reduceNeg,Nat.reduceDiv,Nat.reduceMod,Nat.reducePow,Za,ax11,bx11,cx11,gu12,hN0,hN]
   refine Zl [2,5,34,35,36] [false,true,true,false,true,false,false] ?_
   simp only [push_cast,seval]
   refine Zb Zc [] ?_
   simp only [push_cast,seval,Za,hN0,hN]
   have hs0_:=Option.some.inj hs0_;subst hs0_
   refine And.intro rfl (Fit2.of (Zr hU rfl rfl ?_) (by omega))
   simp only [push_cast,seval,Za,hN0,hN]
  replace hs0_:=Z0 c13 hs0_
  refine Jt ?_
  try simp only [Zk,Zg,↓reduceIte,Nat.reduceEqDiff]
  have hs0_:=Option.some.inj hs0_;subst hs0_
  refine And.intro (fun h=>by cases h) (And.intro rfl (Fit2.of (Zr hU rfl rfl ?_) (by omega)))
  simp only [push_cast,seval,Za,hN0,hN]
 try simp only [Zk,Zg,↓reduceIte,Nat.reduceEqDiff]
 refine Zl [2,5] [false,true,true,false,true,false] ?_
 simp only [push_cast,seval]
 refine Zj ?_
 refine Zb Zc [] ?_
 simp only [push_cast,seval,Za,hN0,hN]
 refine Zl [2] [false,true,false,false,true,false] ?_
 simp only [push_cast,seval]
 refine Zu ?_
 try simp only [Zk,Zg]
 have h:=Option.some.inj h;subst h
 refine Zq (.inr rfl) hU [.agg [.val (.int .i64 a0.Kind),.sl z1.1.length (fl (eI .u64) z1.1),.row (n+4) z14.length]] (by omega) ?_
 simp only [push_cast,seval,Za,Try.results20,hN0,hN]
theorem Zty:∀ k,(∀ {a0:Zd} {r:Zd} {O:Objs} {n:Nat},(Vd k) a0=some r→GTo Try.prog 20 [.agg (Zf a0)] O n (.agg (Zf r)) O n):=fun k=>by
 induction k with
 | zero=>exact @fun a0 r O n h=>(nomatch (show (none:Option _)=some _ from h))
 | succ k ih=>exact @fun a0 r O n h=>Zwh (ih)  h
theorem Zqy {a0:Zd} {r:Zd} {O:Objs} {n:Nat} (h:Zll a0=some r):GTo Try.prog 20 [.agg (Zf a0)] O n (.agg (Zf r)) O n:=by
 obtain ⟨k,hk⟩:=Zc8 h
 exact (Zty k)  hk
theorem Zpy {a0:(List Int)} {r:(List Int)} {O:Objs} {n:Nat} (h:Ul a0=some r):GTo Try.prog 21 [.sl a0.length (fl (eI .u64) a0)] O n (.sl r.length (fl (eI .u64) r)) O n:=by
 unfold Ul at h
 refine Yj Zc Try.call21 Try.func21 rfl (Nat.le_of_ble_eq_true rfl) (Nat.le_refl _) fun hU => ?_
 have hN0:O n=none:=hU.fresh _ (Nat.le_refl _)
 have hN:∀ k,O (n+k)=none:=fun k=>hU.fresh _ (Nat.le_add_right _ _)
 show W _ _ _ _ ⟨24,[],[(0,.sl a0.length (fl (eI .u64) a0))]⟩ (Zy O n []) _
 refine Zp [0] (Zb Zc [] ?_)
 simp only [push_cast,seval,Za,hN0,hN]
 refine Zp [0,3] (Zb Zc [] ?_)
 simp only [push_cast,seval,Za,hN0,hN]
 refine Zj ?_
 refine Zl [0,3] [] ?_
 simp only [push_cast,seval]
 obtain ⟨z7,hz7,h⟩:=bC h
 refine X1 (E':=⟨24,[],[(0,.sl a0.length (fl (eI .u64) a0)),(3,.val (.int .i64 z7))]⟩) (O':=(Zy O n [])) (n0:=n) ?_ ?_
 ·refine Jq hz7 (fun s0_=>⟨24,[],[(0,.sl a0.length (fl (eI .u64) a0)),(3,.val (.int .i64 s0_))]⟩) (fun s0_=>(Zy O n [])) (fun z7=>JX 0 n (⟨24,[],[(0,.sl a0.length (fl (eI .u64) a0)),(3,.val (.int .i64 z7))]⟩:Env) (Zy O n []) n) ?_
  intro s0_ x0_ hs0_
  unfold Kq at hs0_
  try dsimp only
  refine Zj ?_
  obtain ⟨z2,hz2,hs0_⟩:=bC hs0_
  refine Xk (E':=⟨24,[],[(0,.sl a0.length (fl (eI .u64) a0)),(3,.val (.int .i64 s0_)),(16,.val (.bool z2))]⟩) (O':=(Zy O n [])) (n0:=n) ?_ ?_
  ·rcases Bool.eq_false_or_eq_true (decide (0 < s0_)) with c5 | c5
   ·replace hz2:=Z3 c5 hz2
    obtain ⟨x4,hx4,ax4,bx4,cx4,hz2⟩:=bE (f:=(eI .u64)) Zap (fun _=>rfl) (by decide) hz2
    refine Zb Zc (Z73 []) ?_
    simp only [push_cast,Nat.reduceAdd,Nat.reduceSub,Nat.reduceMul,Nat.reduceLeDiff,Nat.reduceLT,Nat.reduceEqDiff,↓reduceIte,reduceCtorEq,Int.reduceBEq,Int.reduceBNe,Nat.reduceBEq,Int.reduceLE,Int.reduceLT,Int.reduceEq,Int.reduceNe,Int.reduceNeg,Nat.reduceDiv,Nat.reduceMod,Nat.reducePow,Za,c5,ax4,bx4,cx4,hN0,hN]
    have hz2:=Option.some.inj hz2;subst hz2
    refine And.intro rfl (Fit2.of (Zr hU rfl rfl ?_) (by omega))
    simp only [push_cast,Nat.reduceAdd,Nat.reduceSub,Nat.reduceMul,Nat.reduceLeDiff,Nat.reduceLT,Nat.reduceEqDiff,↓reduceIte,reduceCtorEq,Int.reduceBEq,Int.reduceBNe,Nat.reduceBEq,Int.reduceLE,Int.reduceLT,Int.reduceEq,Int.reduceNe,Int.reduceNeg,Nat.reduceDiv,Nat.reduceMod,Nat.reducePow,Za,c5,ax4,bx4,cx4,hN0,hN]
   replace hz2:=Z0 c5 hz2
   refine Zb Zc (Z72 []) ?_
   simp only [push_cast,seval,Za,c5,hN0,hN]
   have hz2:=Option.some.inj hz2;subst hz2
   refine And.intro rfl (Fit2.of (Zr hU rfl rfl ?_) (by omega))
   simp only [push_cast,seval,Za,c5,hN0,hN]
  refine Zs (t:=z2) rfl (fun c6 => ?_) (fun c6 => ?_)
  ·replace hs0_:=Z3 c6 hs0_
   refine Zw ?_
   try simp only [Zk,Zg]
   refine Zl [0,3] [] ?_
   simp only [push_cast,seval]
   refine Yn ?_
   refine Zb Zc [] ?_
   simp only [push_cast,seval,Za,hN0,hN]
   have hs0_:=Option.some.inj hs0_;subst hs0_
   refine And.intro rfl (Fit2.of (Zr hU rfl rfl ?_) (by omega))
   simp only [push_cast,seval,Za,hN0,hN]
  replace hs0_:=Z0 c6 hs0_
  refine Jt ?_
  try simp only [Zk,Zg,↓reduceIte,Nat.reduceEqDiff]
  have hs0_:=Option.some.inj hs0_;subst hs0_
  refine And.intro (fun h=>by cases h) (And.intro rfl (Fit2.of (Zr hU rfl rfl ?_) (by omega)))
  simp only [push_cast,seval,Za,hN0,hN]
 try simp only [Zk,Zg,↓reduceIte,Nat.reduceEqDiff]
 refine Zl [0,3] [] ?_
 simp only [push_cast,seval]
 refine Zp [0,3,4] (Zb Zc [] ?_)
 simp only [push_cast,seval,Za,hN0,hN]
 refine Zj ?_
 obtain ⟨l10,al10,bl10,cl10,gl10,h⟩:=bS (lo:=none) (hi:=(some (.i64,z7))) (f:=(eI .u64)) rfl rfl Zfr Zap (fun _=>rfl) h
 obtain ⟨l11,pl11,ql11,el11,h⟩:=bA0 (k:=l10.length) rfl h
 refine Zb Zc [] ?_
 simp only [push_cast,seval,Za,al10,bl10,cl10,gl10,pl11,ql11,el11,hN0,hN]
 refine Zb2 ⟨24,[],[(2,.row n l11.length)]⟩ (Zy O n [some ⟨true,44,1,l11.length,fl (eI .u64) l11⟩]) (Zr hU rfl rfl ?_) ?_
 ·simp only [push_cast,seval,Za,al10,bl10,cl10,gl10,pl11,ql11,el11,hN0,hN]
 refine Zu ?_
 try simp only [Zk,Zg]
 have h:=Option.some.inj h;subst h
 refine Zq (.inr rfl) hU [.row n l11.length] (by omega) ?_
 simp only [push_cast,seval,Za,Try.results21,hN0,hN]
theorem Zo2 {K1:(Zd→Option Zd)} (Zlp:∀ {a0:Zd} {r:Zd} {O:Objs} {n:Nat},K1 a0=some r→GTo Try.prog 7 [.agg (Zf a0)] O n (.agg (Zf r)) O n) {a0:Zd} {r:Zd} {O:Objs} {n:Nat} (h:Ue K1 a0=some r):GTo Try.prog 7 [.agg (Zf a0)] O n (.agg (Zf r)) O n:=by
 unfold Ue at h
 refine Yj Zc Try.call7 Try.func7 rfl (Nat.le_of_ble_eq_true rfl) (Nat.le_refl _) fun hU => ?_
 have hN0:O n=none:=hU.fresh _ (Nat.le_refl _)
 have hN:∀ k,O (n+k)=none:=fun k=>hU.fresh _ (Nat.le_add_right _ _)
 show W _ _ _ _ ⟨53,[],[(0,.agg (Zf a0))]⟩ (Zy O n []) _
 refine Zp [1,2] (Zb Zc [] ?_)
 simp only [push_cast,seval,Za,hN0,hN]
 refine Zj ?_
 refine Zp [1,2,10] (Zb Zc [] ?_)
 simp only [push_cast,seval,Za,hN0,hN]
 refine Zs (t:=(a0.Kind == 0)) rfl (fun c19 => ?_) (fun c19 => ?_)
 ·replace h:=Z3 c19 h
  refine Zj ?_
  refine Zb Zc [] ?_
  simp only [push_cast,seval,Za,hN0,hN]
  refine Zl [2] [false,true] ?_
  simp only [push_cast,seval]
  refine Zu ?_
  try simp only [Zk,Zg]
  have h:=Option.some.inj h;subst h
  refine Zq (.inr rfl) hU [.agg [.val (.int .i64 0),.val (.slice none 0 0),.val (.slice none 0 0)]] (by omega) ?_
  simp only [push_cast,seval,Za,Try.results7,hN0,hN]
 replace h:=Z0 c19 h
 refine Zw ?_
 try simp only [Zk,Zg]
 refine Zl [1,2] [true,true] ?_
 simp only [push_cast,seval]
 refine Zp [1,2,3] (Zb Zc [] ?_)
 simp only [push_cast,seval,Za,hN0,hN]
 refine Zp [1,2,3,4] (Zb Zc [] ?_)
 simp only [push_cast,seval,Za,hN0,hN]
 refine Zj ?_
 refine Zp [1,2,3,4,5] (Zb Zc [] ?_)
 simp only [push_cast,seval,Za,hN0,hN]
 refine Zl [1,2,3,4,5] [true,true] ?_
 simp only [push_cast,seval]
 refine Zds (E':=(⟨53,[],[(1,.ref n 0),(2,.ref (n+1) 0),(3,.row (n+2) ([]:List Zd).length),(4,.val (.int .i64 0)),(5,.val (.int .i64 0))]⟩:Env)) (O':=(Zy O n [some ⟨false,25,3,1,(Zf a0)⟩,some ⟨false,25,3,1,[.val (.int .i64 0),.val (.slice none 0 0),.val (.slice none 0 0)]⟩,some ⟨true,25,3,([]:List Zd).length,fl Zi ([]:List Zd)⟩,none])) (n':=(n+4)) ?_ ?_
 ·refine Fit2.trans (E':=(⟨53,[],[(1,.ref n 0),(2,.ref (n+1) 0),(3,.val (.slice none 0 0)),(4,.val (.int .i64 0)),(5,.val (.int .i64 0))]⟩:Env)) (O':=(Zy O n [some ⟨false,25,3,1,(Zf a0)⟩,some ⟨false,25,3,1,[.val (.int .i64 0),.val (.slice none 0 0),.val (.slice none 0 0)]⟩])) (n':=(n+2)) (Fit2.of (Zr hU rfl rfl ?_) (by omega)) ?_
  ·simp only [push_cast,seval,Za,hN0,hN]
  refine Fit2.trans (Zrl 3 25 3 rfl (by omega)) ?_
  simp only [Uc,Kv,Zam,U3,List.set_cons_zero,List.set_cons_succ,List.cons_append,List.nil_append,List.length_cons,List.length_nil,Nat.zero_add,Nat.reduceAdd,Nat.reduceLT,Nat.add_assoc]
  refine Fit2.trans (E':=(⟨53,[],[(1,.ref n 0),(2,.ref (n+1) 0),(3,.row (n+2) ([]:List Zd).length),(4,.val (.int .i64 0)),(5,.val (.int .i64 0))]⟩:Env)) (O':=(Zy O n [some ⟨false,25,3,1,(Zf a0)⟩,some ⟨false,25,3,1,[.val (.int .i64 0),.val (.slice none 0 0),.val (.slice none 0 0)]⟩,some ⟨true,25,3,([]:List Zd).length,fl Zi ([]:List Zd)⟩])) (n':=(n+3)) (Fit2.of (Zr hU rfl rfl ?_) (by omega)) ?_
  ·simp only [push_cast,seval,Za,hN0,hN]
  refine Zku (k:=3) (k':=4) hU [0,1,2] [0,1,2,0] rfl rfl rfl rfl ⟨rfl,rfl⟩ ?_
  simp only [push_cast,seval,Za,hN0,hN]
 obtain ⟨z10,hz10,h⟩:=bC h
 refine X1 (E':=⟨53,[],[(1,.ref n 0),(2,.ref (n+1) 0),(3,.row (n+2) z10.2.length),(4,.val (.int .i64 z10.1))]⟩) (O':=(Zy O n [some ⟨false,25,3,1,(Zf a0)⟩,some ⟨false,25,3,1,[.val (.int .i64 0),.val (.slice none 0 0),.val (.slice none 0 0)]⟩,some ⟨true,25,3,z10.2.length,fl Zi z10.2⟩,none])) (n0:=(n+4)) ?_ ?_
 ·refine Jq hz10 (fun s0_=>⟨53,[],[(1,.ref n 0),(2,.ref (n+1) 0),(3,.row (n+2) s0_.2.2.length),(4,.val (.int .i64 s0_.1)),(5,.val (.int .i64 s0_.2.1))]⟩) (fun s0_=>(Zy O n [some ⟨false,25,3,1,(Zf a0)⟩,some ⟨false,25,3,1,[.val (.int .i64 0),.val (.slice none 0 0),.val (.slice none 0 0)]⟩,some ⟨true,25,3,s0_.2.2.length,fl Zi s0_.2.2⟩,none])) (fun z10=>JX 0 n (⟨53,[],[(1,.ref n 0),(2,.ref (n+1) 0),(3,.row (n+2) z10.2.length),(4,.val (.int .i64 z10.1))]⟩:Env) (Zy O n [some ⟨false,25,3,1,(Zf a0)⟩,some ⟨false,25,3,1,[.val (.int .i64 0),.val (.slice none 0 0),.val (.slice none 0 0)]⟩,some ⟨true,25,3,z10.2.length,fl Zi z10.2⟩,none]) (n+4)) ?_
  intro s0_ x0_ hs0_
  unfold Qg at hs0_
  try dsimp only
  refine Zj ?_
  refine Zp [1,2,3,4,5,16] (Zb Zc [] ?_)
  simp only [push_cast,seval,Za,hN0,hN]
  refine Zs (t:=(decide (s0_.2.1 < (a0.Kids.length:Int)))) rfl (fun c9 => ?_) (fun c9 => ?_)
  ·replace hs0_:=Z3 c9 hs0_
   refine Zw ?_
   try simp only [Zk,Zg]
   refine Zl [1,2,3,4,5] [true,true,true,false] ?_
   simp only [push_cast,seval]
   obtain ⟨z1,hz1,hs0_⟩:=bC hs0_
   refine Xk (E':=⟨53,[],[(1,.ref n 0),(2,.ref (n+1) 0),(3,.row (n+2) z1.2.length),(4,.val (.int .i64 z1.1)),(5,.val (.int .i64 s0_.2.1))]⟩) (O':=(Zy O n [some ⟨false,25,3,1,(Zf a0)⟩,some ⟨false,25,3,1,[.val (.int .i64 0),.val (.slice none 0 0),.val (.slice none 0 0)]⟩,some ⟨true,25,3,z1.2.length,fl Zi z1.2⟩,none,none,none])) (n0:=(n+6)) ?_ ?_
   ·refine Yn ?_
    refine Zj ?_
    obtain ⟨x4,hx4,ax4,bx4,cx4,hz1⟩:=bE (f:=Zi) Uo (fun _=>rfl) (by decide) hz1
    obtain ⟨y5,hy5,hz1⟩:=bC hz1
    refine Zb Zc [] ?_
    simp only [push_cast,Nat.reduceAdd,Nat.reduceSub,Nat.reduceMul,Nat.reduceLeDiff,Nat.reduceLT,Nat.reduceEqDiff,↓reduceIte,reduceCtorEq,Int.reduceBEq,Int.reduceBNe,Nat.reduceBEq,Int.reduceLE,Int.reduceLT,Int.reduceEq,Int.reduceNe,Int.reduceNeg,Nat.reduceDiv,Nat.reduceMod,Nat.reducePow,Za,ax4,bx4,cx4,hN0,hN]
    refine (Zlp hy5).then ?_
    simp only [push_cast,Nat.reduceAdd,Nat.reduceSub,Nat.reduceMul,Nat.reduceLeDiff,Nat.reduceLT,Nat.reduceEqDiff,↓reduceIte,reduceCtorEq,Int.reduceBEq,Int.reduceBNe,Nat.reduceBEq,Int.reduceLE,Int.reduceLT,Int.reduceEq,Int.reduceNe,Int.reduceNeg,Nat.reduceDiv,Nat.reduceMod,Nat.reducePow,Za,ax4,bx4,cx4,hN0,hN]
    refine Zl [1,2,3,4,5,6] [true,true,true,false,true] ?_
    simp only [push_cast,seval]
    refine Zj ?_
    obtain ⟨l7,pl7,ql7,el7,hz1⟩:=bA (k:=1) rfl hz1
    refine Zb Zc [] ?_
    simp only [push_cast,seval,Za,pl7,ql7,el7,hN0,hN]
    refine Zb2 ⟨53,[],[(1,.ref n 0),(2,.ref (n+1) 0),(3,.row (n+2) l7.length),(4,.val (.int .i64 s0_.1)),(5,.val (.int .i64 s0_.2.1)),(6,.ref (n+4) 0)]⟩ (Zy O n [some ⟨false,25,3,1,(Zf a0)⟩,some ⟨false,25,3,1,[.val (.int .i64 0),.val (.slice none 0 0),.val (.slice none 0 0)]⟩,some ⟨true,25,3,l7.length,fl Zi l7⟩,none,some ⟨false,25,3,1,(Zf y5)⟩,none]) (Zr hU rfl rfl ?_) ?_
    ·simp only [push_cast,seval,Za,pl7,ql7,el7,hN0,hN]
    refine Zp [1,2,3,4,5,31] (Zb Zc [] ?_)
    simp only [push_cast,seval,Za,hN0,hN]
    refine Zs (t:=(y5.Kind != 0)) rfl (fun c8 => ?_) (fun c8 => ?_)
    ·replace hz1:=Z3 c8 hz1
     refine Zb Zc [] ?_
     simp only [push_cast,seval,Za,hN0,hN]
     have hz1:=Option.some.inj hz1;subst hz1
     refine And.intro rfl (Fit2.of (Zr hU rfl rfl ?_) (by omega))
     simp only [push_cast,seval,Za,hN0,hN]
    replace hz1:=Z0 c8 hz1
    refine Zw ?_
    try simp only [Zk,Zg]
    have hz1:=Option.some.inj hz1;subst hz1
    refine And.intro rfl (Fit2.of (Zr hU rfl rfl ?_) (by omega))
    simp only [push_cast,seval,Za,hN0,hN]
   refine Zb Zc [] ?_
   simp only [push_cast,seval,Za,hN0,hN]
   have hs0_:=Option.some.inj hs0_;subst hs0_
   refine And.intro rfl (Fit2.of (Zr hU rfl rfl ?_) (by omega))
   simp only [push_cast,seval,Za,hN0,hN]
  replace hs0_:=Z0 c9 hs0_
  refine Jt ?_
  try simp only [Zk,Zg,↓reduceIte,Nat.reduceEqDiff]
  have hs0_:=Option.some.inj hs0_;subst hs0_
  refine And.intro (fun h=>by cases h) (And.intro rfl (Fit2.of (Zr hU rfl rfl ?_) (by omega)))
  simp only [push_cast,seval,Za,hN0,hN]
 try simp only [Zk,Zg,↓reduceIte,Nat.reduceEqDiff]
 refine Zl [1,2,3,4] [true,true,true,false] ?_
 simp only [push_cast,seval]
 refine Zj ?_
 refine Zp [1,2,3,4,36] (Zb Zc [] ?_)
 simp only [push_cast,seval,Za,hN0,hN]
 refine Zs (t:=(a0.Kind == 1)) rfl (fun c18 => ?_) (fun c18 => ?_)
 ·replace h:=Z3 c18 h
  refine Zb2 ⟨53,[],[(1,.ref n 0),(2,.ref (n+1) 0),(3,.sl z10.2.length (fl Zi z10.2)),(4,.val (.int .i64 z10.1))]⟩ (Zy O n [some ⟨false,25,3,1,(Zf a0)⟩,some ⟨false,25,3,1,[.val (.int .i64 0),.val (.slice none 0 0),.val (.slice none 0 0)]⟩,none,none]) (Zr hU rfl rfl ?_) ?_
  ·simp only [push_cast,seval,Za,hN0,hN]
  refine Zj ?_
  obtain ⟨y14,hy14,h⟩:=bC h
  obtain ⟨l15,al15,bl15,cl15,gl15,h⟩:=bS (lo:=none) (hi:=(some (.i64,z10.1))) (f:=Zi) rfl rfl Zhw Uo (fun _=>rfl) h
  refine Zl2 Zc (by kernel_rfl) [false,false,false,false,false,false,false,true] [] (by kernel_rfl) ?_
  simp only [push_cast,seval,Za,al15,bl15,cl15,gl15,hN0,hN]
  refine PCall.of (Zpy hy14) ?_
  simp only [push_cast,seval,Za,al15,bl15,cl15,gl15,hN0,hN]
  refine Zl [2] [false,true,false,false] ?_
  simp only [push_cast,seval]
  refine Zu ?_
  try simp only [Zk,Zg]
  have h:=Option.some.inj h;subst h
  refine Zq (.inr rfl) hU [.agg [.val (.int .i64 1),.sl y14.length (fl (eI .u64) y14),.sl l15.length (fl Zi l15)]] (by omega) ?_
  simp only [push_cast,seval,Za,Try.results7,hN0,hN]
 replace h:=Z0 c18 h
 refine Zw ?_
 try simp only [Zk,Zg]
 refine Zl [1,2,3] [true,true,true,false] ?_
 simp only [push_cast,seval]
 refine Zp [1,2,3,7] (Zb Zc [] ?_)
 simp only [push_cast,seval,Za,hN0,hN]
 refine Zj ?_
 obtain ⟨l17,pl17,ql17,el17,h⟩:=bA0 (k:=a0.Words.length) rfl h
 refine Zb Zc [] ?_
 simp only [push_cast,seval,Za,pl17,ql17,el17,hN0,hN]
 refine Zb2 ⟨53,[],[(1,.ref n 0),(2,.ref (n+1) 0),(3,.row (n+2) z10.2.length),(7,.row (n+4) l17.length)]⟩ (Zy O n [some ⟨false,25,3,1,(Zf a0)⟩,some ⟨false,25,3,1,[.val (.int .i64 0),.val (.slice none 0 0),.val (.slice none 0 0)]⟩,some ⟨true,25,3,z10.2.length,fl Zi z10.2⟩,none,some ⟨true,44,1,l17.length,fl (eI .u64) l17⟩]) (Zr hU rfl rfl ?_) ?_
 ·simp only [push_cast,seval,Za,pl17,ql17,el17,hN0,hN]
 refine Zj ?_
 refine Zb Zc [] ?_
 simp only [push_cast,seval,Za,hN0,hN]
 refine Zl [2] [false,true,true,false,true] ?_
 simp only [push_cast,seval]
 refine Zu ?_
 try simp only [Zk,Zg]
 have h:=Option.some.inj h;subst h
 refine Zq (.inr rfl) hU [.agg [.val (.int .i64 a0.Kind),.row (n+4) l17.length,.row (n+2) z10.2.length]] (by omega) ?_
 simp only [push_cast,seval,Za,Try.results7,hN0,hN]
theorem Zk8:∀ k,(∀ {a0:Zd} {r:Zd} {O:Objs} {n:Nat},(Xh k) a0=some r→GTo Try.prog 7 [.agg (Zf a0)] O n (.agg (Zf r)) O n):=fun k=>by
 induction k with
 | zero=>exact @fun a0 r O n h=>(nomatch (show (none:Option _)=some _ from h))
 | succ k ih=>exact @fun a0 r O n h=>Zo2 (ih)  h
theorem Zpx {a0:Zd} {r:Zd} {O:Objs} {n:Nat} (h:Zc9 a0=some r):GTo Try.prog 7 [.agg (Zf a0)] O n (.agg (Zf r)) O n:=by
 obtain ⟨k,hk⟩:=Zc8 h
 exact (Zk8 k)  hk
theorem Zoz {a0:Zd} {r:(Int×Int)} {O:Objs} {n:Nat} (h:Vx a0=some r):GTo Try.prog 26 [.agg (Zf a0)] O n (.tup [.val (.int .i64 r.1),.val (.int .i64 r.2)]) O n:=by
 unfold Vx at h
 refine Yj Zc Try.call26 Try.func26 rfl (Nat.le_of_ble_eq_true rfl) (Nat.le_refl _) fun hU => ?_
 have hN0:O n=none:=hU.fresh _ (Nat.le_refl _)
 have hN:∀ k,O (n+k)=none:=fun k=>hU.fresh _ (Nat.le_add_right _ _)
 show W _ _ _ _ ⟨48,[],[(0,.agg (Zf a0))]⟩ (Zy O n []) _
 refine Zp [1] (Zb Zc [] ?_)
 simp only [push_cast,seval,Za,hN0,hN]
 refine Zp [1,4,5] (Zb Zc [] ?_)
 simp only [push_cast,seval,Za,hN0,hN]
 refine Zj ?_
 refine Zp [1,4,5,6] (Zb Zc [] ?_)
 simp only [push_cast,seval,Za,hN0,hN]
 refine Zl [1,4,5,6] [true] ?_
 simp only [push_cast,seval]
 obtain ⟨z18,hz18,h⟩:=bC h
 refine X1 (E':=⟨48,[],[(4,.val (.int .i64 z18.1)),(5,.val (.int .i64 z18.2))]⟩) (O':=(Zy O n [none])) (n0:=(n+1)) ?_ ?_
 ·refine Jq hz18 (fun s0_=>⟨48,[],[(1,.ref n 0),(4,.val (.int .i64 s0_.1)),(5,.val (.int .i64 s0_.2.1)),(6,.val (.int .i64 s0_.2.2))]⟩) (fun s0_=>(Zy O n [some ⟨false,25,3,1,(Zf a0)⟩])) (fun z18=>JX 0 n (⟨48,[],[(4,.val (.int .i64 z18.1)),(5,.val (.int .i64 z18.2))]⟩:Env) (Zy O n [none]) (n+1)) ?_
  intro s0_ x0_ hs0_
  unfold Kb at hs0_
  try dsimp only
  refine Zj ?_
  refine Zp [1,4,5,6,11] (Zb Zc [] ?_)
  simp only [push_cast,seval,Za,hN0,hN]
  refine Zs (t:=(decide (s0_.2.2 < (a0.Kids.length:Int)))) rfl (fun c17 => ?_) (fun c17 => ?_)
  ·replace hs0_:=Z3 c17 hs0_
   refine Zw ?_
   try simp only [Zk,Zg]
   refine Zl [1,4,5,6] [true] ?_
   simp only [push_cast,seval]
   obtain ⟨z1,hz1,hs0_⟩:=bC hs0_
   refine Xk (E':=⟨48,[],[(1,.ref n 0),(4,.val (.int .i64 z1.1)),(5,.val (.int .i64 z1.2)),(6,.val (.int .i64 s0_.2.2))]⟩) (O':=(Zy O n [some ⟨false,25,3,1,(Zf a0)⟩])) (n0:=(n+1)) ?_ ?_
   ·refine Yn ?_
    obtain ⟨z2,hz2,hz1⟩:=bC hz1
    refine Xk (E':=⟨48,[],[(1,.ref n 0),(4,.val (.int .i64 z2)),(5,.val (.int .i64 s0_.2.1)),(6,.val (.int .i64 s0_.2.2))]⟩) (O':=(Zy O n [some ⟨false,25,3,1,(Zf a0)⟩])) (n0:=(n+1)) ?_ ?_
    ·obtain ⟨x5,hx5,ax5,bx5,cx5,hz2⟩:=bE (f:=Zi) Uo (fun _=>rfl) (by decide) hz2
     have g6:=Zis (f:=Zi) (off:=1) (sz:=3) Zdq (fun _=>rfl) (by decide) (by decide) hx5
     refine Zp [1,4,5,6,22] (Zb Zc [] ?_)
     simp only [push_cast,Nat.reduceAdd,Nat.reduceSub,Nat.reduceMul,Nat.reduceLeDiff,Nat.reduceLT,Nat.reduceEqDiff,↓reduceIte,reduceCtorEq,Int.reduceBEq,Int.reduceBNe,Nat.reduceBEq,Int.reduceLE,Int.reduceLT,Int.reduceEq,Int.reduceNe,Int.reduceNeg,Nat.reduceDiv,Nat.reduceMod,Nat.reducePow,Za,ax5,bx5,cx5,g6,hN0,hN]
     refine Zs (t:=(decide (s0_.1 < (x5.Words.length:Int)))) rfl (fun c9 => ?_) (fun c9 => ?_)
     ·replace hz2:=Z3 c9 hz2
      obtain ⟨x7,hx7,ax7,bx7,cx7,hz2⟩:=bE (f:=Zi) Uo (fun _=>rfl) (by decide) hz2
      have g8:=Zis (f:=Zi) (off:=1) (sz:=3) Zdq (fun _=>rfl) (by decide) (by decide) hx7
      refine Zb Zc [] ?_
      simp only [push_cast,Nat.reduceAdd,Nat.reduceSub,Nat.reduceMul,Nat.reduceLeDiff,Nat.reduceLT,Nat.reduceEqDiff,↓reduceIte,reduceCtorEq,Int.reduceBEq,Int.reduceBNe,Nat.reduceBEq,Int.reduceLE,Int.reduceLT,Int.reduceEq,Int.reduceNe,Int.reduceNeg,Nat.reduceDiv,Nat.reduceMod,Nat.reducePow,Za,ax7,bx7,cx7,g8,hN0,hN]
      have hz2:=Option.some.inj hz2;subst hz2
      refine And.intro rfl (Fit2.of (Zr hU rfl rfl ?_) (by omega))
      simp only [push_cast,Nat.reduceAdd,Nat.reduceSub,Nat.reduceMul,Nat.reduceLeDiff,Nat.reduceLT,Nat.reduceEqDiff,↓reduceIte,reduceCtorEq,Int.reduceBEq,Int.reduceBNe,Nat.reduceBEq,Int.reduceLE,Int.reduceLT,Int.reduceEq,Int.reduceNe,Int.reduceNeg,Nat.reduceDiv,Nat.reduceMod,Nat.reducePow,Za,ax7,bx7,cx7,g8,hN0,hN]
     replace hz2:=Z0 c9 hz2
     refine Zw ?_
     try simp only [Zk,Zg]
     have hz2:=Option.some.inj hz2;subst hz2
     refine And.intro rfl (Fit2.of (Zr hU rfl rfl ?_) (by omega))
     simp only [push_cast,seval,Za,hN0,hN]
    obtain ⟨x12,hx12,ax12,bx12,cx12,hz1⟩:=bE (f:=Zi) Uo (fun _=>rfl) (by decide) hz1
    have g13:=Zis (f:=Zi) (off:=2) (sz:=3) Ztt (fun _=>rfl) (by decide) (by decide) hx12
    refine Zp [1,4,5,6,38] (Zb Zc [] ?_)
    simp only [push_cast,Nat.reduceAdd,Nat.reduceSub,Nat.reduceMul,Nat.reduceLeDiff,Nat.reduceLT,Nat.reduceEqDiff,↓reduceIte,reduceCtorEq,Int.reduceBEq,Int.reduceBNe,Nat.reduceBEq,Int.reduceLE,Int.reduceLT,Int.reduceEq,Int.reduceNe,Int.reduceNeg,Nat.reduceDiv,Nat.reduceMod,Nat.reducePow,Za,ax12,bx12,cx12,g13,hN0,hN]
    refine Zs (t:=(decide (s0_.2.1 < (x12.Kids.length:Int)))) rfl (fun c16 => ?_) (fun c16 => ?_)
    ·replace hz1:=Z3 c16 hz1
     obtain ⟨x14,hx14,ax14,bx14,cx14,hz1⟩:=bE (f:=Zi) Uo (fun _=>rfl) (by decide) hz1
     have g15:=Zis (f:=Zi) (off:=2) (sz:=3) Ztt (fun _=>rfl) (by decide) (by decide) hx14
     refine Zb Zc [] ?_
     simp only [push_cast,Nat.reduceAdd,Nat.reduceSub,Nat.reduceMul,Nat.reduceLeDiff,Nat.reduceLT,Nat.reduceEqDiff,↓reduceIte,reduceCtorEq,Int.reduceBEq,Int.reduceBNe,Nat.reduceBEq,Int.reduceLE,Int.reduceLT,Int.reduceEq,Int.reduceNe,Int.reduceNeg,Nat.reduceDiv,Nat.reduceMod,Nat.reducePow,Za,ax14,bx14,cx14,g15,hN0,hN]
     have hz1:=Option.some.inj hz1;subst hz1
     refine And.intro rfl (Fit2.of (Zr hU rfl rfl ?_) (by omega))
     simp only [push_cast,Nat.reduceAdd,Nat.reduceSub,Nat.reduceMul,Nat.reduceLeDiff,Nat.reduceLT,Nat.reduceEqDiff,↓reduceIte,reduceCtorEq,Int.reduceBEq,Int.reduceBNe,Nat.reduceBEq,Int.reduceLE,Int.reduceLT,Int.reduceEq,Int.reduceNe,Int.reduceNeg,Nat.reduceDiv,Nat.reduceMod,Nat.reducePow,Za,ax14,bx14,cx14,g15,hN0,hN]
    replace hz1:=Z0 c16 hz1
    refine Zw ?_
    try simp only [Zk,Zg]
    have hz1:=Option.some.inj hz1;subst hz1
    refine And.intro rfl (Fit2.of (Zr hU rfl rfl ?_) (by omega))
    simp only [push_cast,seval,Za,hN0,hN]
   refine Zb Zc [] ?_
   simp only [push_cast,seval,Za,hN0,hN]
   have hs0_:=Option.some.inj hs0_;subst hs0_
   refine And.intro rfl (Fit2.of (Zr hU rfl rfl ?_) (by omega))
   simp only [push_cast,seval,Za,hN0,hN]
  replace hs0_:=Z0 c17 hs0_
  refine Jt ?_
  try simp only [Zk,Zg,↓reduceIte,Nat.reduceEqDiff]
  have hs0_:=Option.some.inj hs0_;subst hs0_
  refine And.intro (fun h=>by cases h) (And.intro rfl (Fit2.of (Zr hU rfl rfl ?_) (by omega)))
  simp only [push_cast,seval,Za,hN0,hN]
 try simp only [Zk,Zg,↓reduceIte,Nat.reduceEqDiff]
 refine Zl [4,5] [false] ?_
 simp only [push_cast,seval]
 refine Zp [2,3] (Zb Zc [] ?_)
 simp only [push_cast,seval,Za,hN0,hN]
 refine Zu ?_
 try simp only [Zk,Zg]
 have h:=Option.some.inj h;subst h
 refine Zq (.inr rfl) hU [.val (.int .i64 z18.1),.val (.int .i64 z18.2)] (by omega) ?_
 simp only [push_cast,seval,Za,Try.results26,hN0,hN]
theorem Zo9 {a0:Zd} {r:(Int×Int)} {O:Objs} {n:Nat} (h:Zdf a0=some r):GTo Try.prog 46 [.agg (Zf a0)] O n (.tup [.val (.int .i64 r.1),.val (.int .i64 r.2)]) O n:=by
 unfold Zdf at h
 refine Yj Zc Try.call46 Try.func46 rfl (Nat.le_of_ble_eq_true rfl) (Nat.le_refl _) fun hU => ?_
 have hN0:O n=none:=hU.fresh _ (Nat.le_refl _)
 have hN:∀ k,O (n+k)=none:=fun k=>hU.fresh _ (Nat.le_add_right _ _)
 show W _ _ _ _ ⟨28,[],[(0,.agg (Zf a0))]⟩ (Zy O n []) _
 refine Zp [1] (Zb Zc [] ?_)
 simp only [push_cast,seval,Za,hN0,hN]
 refine Zp [1,4,5] (Zb Zc [] ?_)
 simp only [push_cast,seval,Za,hN0,hN]
 refine Zj ?_
 refine Zp [4,5,9,10,11] (Zb Zc [] ?_)
 simp only [push_cast,seval,Za,hN0,hN]
 refine Zl [4,5,9,10,11] [false] ?_
 simp only [push_cast,seval]
 obtain ⟨z4,hz4,h⟩:=bC h
 refine X1 (E':=⟨28,[],[(4,.val (.int .i64 z4.1)),(5,.val (.int .i64 z4.2))]⟩) (O':=(Zy O n [none])) (n0:=(n+1)) ?_ ?_
 ·refine Jq hz4 (fun s0_=>⟨28,[],[(4,.val (.int .i64 s0_.1)),(5,.val (.int .i64 s0_.2.1)),(9,.sl a0.Kids.length (fl Zi a0.Kids)),(10,.val (.int .i64 (a0.Kids.length:Int))),(11,.val (.int .i64 s0_.2.2))]⟩) (fun s0_=>(Zy O n [none])) (fun z4=>JX 0 n (⟨28,[],[(4,.val (.int .i64 z4.1)),(5,.val (.int .i64 z4.2))]⟩:Env) (Zy O n [none]) (n+1)) ?_
  intro s0_ x0_ hs0_
  unfold Gy at hs0_
  try dsimp only
  refine Zp [4,5,9,10,11,12] (Zb Zc [] ?_)
  simp only [push_cast,seval,Za,hN0,hN]
  refine Zj ?_
  refine Zs (t:=(decide (s0_.2.2 < (a0.Kids.length:Int)))) rfl (fun c3 => ?_) (fun c3 => ?_)
  ·replace hs0_:=Z3 c3 hs0_
   refine Zw ?_
   try simp only [Zk,Zg]
   refine Zl [4,5,9,10,11] [false] ?_
   simp only [push_cast,seval]
   refine Zj ?_
   refine Yn ?_
   refine Zj ?_
   obtain ⟨x2,hx2,ax2,bx2,cx2,hs0_⟩:=bE (f:=Zi) Uo (fun _=>rfl) (by decide) hs0_
   refine Zb Zc [] ?_
   simp only [push_cast,Nat.reduceAdd,Nat.reduceSub,Nat.reduceMul,Nat.reduceLeDiff,Nat.reduceLT,Nat.reduceEqDiff,↓reduceIte,reduceCtorEq,Int.reduceBEq,Int.reduceBNe,Nat.reduceBEq,Int.reduceLE,Int.reduceLT,Int.reduceEq,Int.reduceNe,Int.reduceNeg,Nat.reduceDiv,Nat.reduceMod,Nat.reducePow,Za,ax2,bx2,cx2,hN0,hN]
   refine Zl [4,5,7,9,10,11] [false,true] ?_
   simp only [push_cast,seval]
   refine V6 Zc (by kernel_rfl) [] (by kernel_rfl) ?_
   simp only [push_cast,seval,Za,hN0,hN]
   refine Zl [4,5,9,10,11] [false,false] ?_
   simp only [push_cast,seval]
   refine Zb Zc [] ?_
   simp only [push_cast,seval,Za,hN0,hN]
   have hs0_:=Option.some.inj hs0_;subst hs0_
   refine And.intro rfl (Fit2.of (Zr hU rfl rfl ?_) (by omega))
   simp only [push_cast,seval,Za,hN0,hN]
  replace hs0_:=Z0 c3 hs0_
  refine Jt ?_
  try simp only [Zk,Zg,↓reduceIte,Nat.reduceEqDiff]
  have hs0_:=Option.some.inj hs0_;subst hs0_
  refine And.intro (fun h=>by cases h) (And.intro rfl (Fit2.of (Zr hU rfl rfl ?_) (by omega)))
  simp only [push_cast,seval,Za,hN0,hN]
 try simp only [Zk,Zg,↓reduceIte,Nat.reduceEqDiff]
 refine Zl [4,5] [false] ?_
 simp only [push_cast,seval]
 refine Zp [2,3] (Zb Zc [] ?_)
 simp only [push_cast,seval,Za,hN0,hN]
 refine Zu ?_
 try simp only [Zk,Zg]
 have h:=Option.some.inj h;subst h
 refine Zq (.inr rfl) hU [.val (.int .i64 z4.1),.val (.int .i64 z4.2)] (by omega) ?_
 simp only [push_cast,seval,Za,Try.results46,hN0,hN]
theorem Zu7 {a0:Zd} {r:Zx} {O:Objs} {n:Nat} (h:Ze1 a0=some r):GTo Try.prog 31 [.agg (Zf a0)] O n (.agg (Yb r)) O n:=by
 unfold Ze1 at h
 refine Yj Zc Try.call31 Try.func31 rfl (Nat.le_of_ble_eq_true rfl) (Nat.le_refl _) fun hU => ?_
 have hN0:O n=none:=hU.fresh _ (Nat.le_refl _)
 have hN:∀ k,O (n+k)=none:=fun k=>hU.fresh _ (Nat.le_add_right _ _)
 show W _ _ _ _ ⟨38,[],[(0,.agg (Zf a0))]⟩ (Zy O n []) _
 refine Zp [1,2] (Zb Zc [] ?_)
 simp only [push_cast,seval,Za,hN0,hN]
 refine Zj ?_
 refine Zp [1,2,6] (Zb Zc [] ?_)
 simp only [push_cast,seval,Za,hN0,hN]
 refine Yn ?_
 refine Zp [1,2,6,7] (Zb Zc [] ?_)
 simp only [push_cast,seval,Za,hN0,hN]
 refine Zs (t:=(a0.Kind == 1)) rfl (fun c4 => ?_) (fun c4 => ?_)
 ·replace h:=Z3 c4 h
  refine Zj ?_
  refine Zb Zc [] ?_
  simp only [push_cast,seval,Za,hN0,hN]
  refine Zl [2] [false,true] ?_
  simp only [push_cast,seval]
  refine Zu ?_
  try simp only [Zk,Zg]
  have h:=Option.some.inj h;subst h
  refine Zq (.inr rfl) hU [.agg [.val (.int .i64 1),.val (.int .i64 0),.val (.int .i64 (a0.Words.length:Int)),.val (.int .i64 (a0.Kids.length:Int)),.val (.int .i64 0),.val (.int .i64 0),.val (.int .i64 0),.val (.bool false)]] (by omega) ?_
  simp only [push_cast,seval,Za,Try.results31,hN0,hN]
 replace h:=Z0 c4 h
 refine Zp [1,2,16] (Zb Zc [] ?_)
 simp only [push_cast,seval,Za,hN0,hN]
 refine Zs (t:=(a0.Kind == 9)) rfl (fun c3 => ?_) (fun c3 => ?_)
 ·replace h:=Z3 c3 h
  refine Zj ?_
  obtain ⟨y2,hy2,h⟩:=bC h
  refine Zb Zc [] ?_
  simp only [push_cast,seval,Za,hN0,hN]
  refine (Zo9 hy2).then ?_
  simp only [push_cast,seval,Za,hN0,hN]
  refine Zl [1,2,3,4] [true,true] ?_
  simp only [push_cast,seval]
  refine Zj ?_
  refine Zb Zc [] ?_
  simp only [push_cast,seval,Za,hN0,hN]
  refine Zl [2] [false,true] ?_
  simp only [push_cast,seval]
  refine Zu ?_
  try simp only [Zk,Zg]
  have h:=Option.some.inj h;subst h
  refine Zq (.inr rfl) hU [.agg [.val (.int .i64 2),.val (.int .i64 0),.val (.int .i64 0),.val (.int .i64 0),.val (.int .i64 7),.val (.int .i64 (IntKind.i64.wrap ((a0.Kids.length:Int) * (IntKind.i64.wrap (y2.1+y2.2))))),.val (.int .i64 0),.val (.bool false)]] (by omega) ?_
  simp only [push_cast,seval,Za,Try.results31,hN0,hN]
 replace h:=Z0 c3 h
 refine Zw ?_
 try simp only [Zk,Zg]
 refine Zl [1,2] [true,true] ?_
 simp only [push_cast,seval]
 refine Zj ?_
 refine Zb Zc [] ?_
 simp only [push_cast,seval,Za,hN0,hN]
 refine Zl [2] [false,true] ?_
 simp only [push_cast,seval]
 refine Zu ?_
 try simp only [Zk,Zg]
 have h:=Option.some.inj h;subst h
 refine Zq (.inr rfl) hU [.agg [.val (.int .i64 2),.val (.int .i64 0),.val (.int .i64 0),.val (.int .i64 0),.val (.int .i64 (IntKind.i64.wrap (a0.Kind - 2))),.val (.int .i64 (a0.Kids.length:Int)),.val (.int .i64 0),.val (.bool false)]] (by omega) ?_
 simp only [push_cast,seval,Za,Try.results31,hN0,hN]
theorem Zzn {a0:Zd} {a1:Int} {r:Int} {O:Objs} {n:Nat} (h:Ze9 a0 a1=some r):GTo Try.prog 72 [.agg (Zf a0),.val (.int .i64 a1)] O n (.val (.int .u64 r)) O n:=by
 unfold Ze9 at h
 refine Yj Zc Try.call72 Try.func72 rfl (Nat.le_of_ble_eq_true rfl) (Nat.le_refl _) fun hU => ?_
 have hN0:O n=none:=hU.fresh _ (Nat.le_refl _)
 have hN:∀ k,O (n+k)=none:=fun k=>hU.fresh _ (Nat.le_add_right _ _)
 show W _ _ _ _ ⟨19,[],[(0,.agg (Zf a0)),(1,.val (.int .i64 a1))]⟩ (Zy O n []) _
 refine Zp [1,2] (Zb Zc [] ?_)
 simp only [push_cast,seval,Za,hN0,hN]
 refine Zj ?_
 refine Zp [1,2,13] (Zb Zc [none,none,none,none,none] ?_)
 simp only [push_cast,seval,Za,hN0,hN]
 repeat (with_reducible refine And.intro (by first | (intro h0;simp only [h0,and_self];done) | (intro h0;simp only [h0,Bool.not_false,Bool.not_true,Bool.true_and,Bool.and_true,true_and,and_true,and_self,imp_self,implies_true,bne_iff_ne,ne_eq,beq_iff_eq];done) | (intros;simp_all;done) | exact True.intro) ?_)
 refine Zs (t:=(cond (decide (a1 < 0)) true (decide ((a0.Words.length:Int)≤a1)))) rfl (fun c3 => ?_) (fun c3 => ?_)
 ·replace h:=Z3 c3 h
  refine Zp [4] (Zb Zc [] ?_)
  simp only [push_cast,seval,Za,hN0,hN]
  refine Zu ?_
  try simp only [Zk,Zg]
  have h:=Option.some.inj h;subst h
  refine Zq (.inr rfl) hU [.val (.int .u64 0)] (by omega) ?_
  simp only [push_cast,seval,Za,Try.results72,hN0,hN]
 replace h:=Z0 c3 h
 refine Zw ?_
 try simp only [Zk,Zg]
 refine Zl [1,2] [true] ?_
 simp only [push_cast,seval]
 obtain ⟨x2,hx2,ax2,bx2,cx2,h⟩:=bE (f:=(eI .u64)) Zap (fun _=>rfl) (by decide) h
 refine Zp [4] (Zb Zc [] ?_)
 simp only [push_cast,Nat.reduceAdd,Nat.reduceSub,Nat.reduceMul,Nat.reduceLeDiff,Nat.reduceLT,Nat.reduceEqDiff,↓reduceIte,reduceCtorEq,Int.reduceBEq,Int.reduceBNe,Nat.reduceBEq,Int.reduceLE,Int.reduceLT,Int.reduceEq,Int.reduceNe,Int.reduceNeg,Nat.reduceDiv,Nat.reduceMod,Nat.reducePow,Za,ax2,bx2,cx2,hN0,hN]
 refine Zu ?_
 try simp only [Zk,Zg]
 have h:=Option.some.inj h;subst h
 refine Zq (.inr rfl) hU [.val (.int .u64 x2)] (by omega) ?_
 simp only [push_cast,seval,Za,Try.results72,hN0,hN]
theorem Zzo {a0:Int} {a1:Int} {r:Int} {O:Objs} {n:Nat} (h:Zfa a0 a1=some r):GTo Try.prog 85 [.val (.int .i64 a0),.val (.int .i64 a1)] O n (.val (.int .i64 r)) O n:=by
 unfold Zfa at h
 refine Yj Zc Try.call85 Try.func85 rfl (Nat.le_of_ble_eq_true rfl) (Nat.le_refl _) fun hU => ?_
 have hN0:O n=none:=hU.fresh _ (Nat.le_refl _)
 have hN:∀ k,O (n+k)=none:=fun k=>hU.fresh _ (Nat.le_add_right _ _)
 show W _ _ _ _ ⟨27,[],[(0,.val (.int .i64 a0)),(1,.val (.int .i64 a1))]⟩ (Zy O n []) _
 refine Zp [0,1] (Zb Zc [] ?_)
 simp only [push_cast,seval,Za,hN0,hN]
 refine Zj ?_
 obtain ⟨y2,hy2,h⟩:=bC h
 refine Zb Zc [] ?_
 simp only [push_cast,seval,Za,hN0,hN]
 refine (Zbv hy2).then ?_
 simp only [push_cast,seval,Za,hN0,hN]
 refine Zl [1,5,6] [] ?_
 simp only [push_cast,seval]
 refine Zj ?_
 refine Zp [1,5,21] (Zb Zc [none,none,none,none] ?_)
 simp only [push_cast,seval,Za,hN0,hN]
 repeat (with_reducible refine And.intro (by first | (intro h0;simp only [h0,and_self];done) | (intro h0;simp only [h0,Bool.not_false,Bool.not_true,Bool.true_and,Bool.and_true,true_and,and_true,and_self,imp_self,implies_true,bne_iff_ne,ne_eq,beq_iff_eq];done) | (intros;simp_all;done) | exact True.intro) ?_)
 refine Zs (t:=(cond (cond (!y2.2) true (decide (a1 < 0))) true (decide (1099511627776 < a1)))) rfl (fun c3 => ?_) (fun c3 => ?_)
 ·replace h:=Z3 c3 h
  refine Zp [4] (Zb Zc [] ?_)
  simp only [push_cast,seval,Za,hN0,hN]
  refine Zu ?_
  try simp only [Zk,Zg]
  have h:=Option.some.inj h;subst h
  refine Zq (.inr rfl) hU [.val (.int .i64 0)] (by omega) ?_
  simp only [push_cast,seval,Za,Try.results85,hN0,hN]
 replace h:=Z0 c3 h
 refine Zw ?_
 try simp only [Zk,Zg]
 refine Zl [1,5] [] ?_
 simp only [push_cast,seval]
 refine Zp [4] (Zb Zc [] ?_)
 simp only [push_cast,seval,Za,hN0,hN]
 refine Zu ?_
 try simp only [Zk,Zg]
 have h:=Option.some.inj h;subst h
 refine Zq (.inr rfl) hU [.val (.int .i64 (IntKind.i64.wrap (Int.tdiv (IntKind.i64.wrap ((IntKind.i64.wrap (a1 * y2.1))+63)) 64)))] (by omega) ?_
 simp only [push_cast,seval,Za,Try.results85,hN0,hN]
theorem Z1n {a0:Int} {a1:(List Int)} {r:((List Int)×Bool)} {O:Objs} {n:Nat} (h:Zeb a0 a1=some r):GTo Try.prog 73 [.val (.int .i64 a0),.sl a1.length (fl (eI .u64) a1)] O n (.tup [.sl r.1.length (fl (eI .u64) r.1),.val (.bool r.2)]) O n:=by
 unfold Zeb at h
 refine Yj Zc Try.call73 Try.func73 rfl (Nat.le_of_ble_eq_true rfl) (Nat.le_refl _) fun hU => ?_
 have hN0:O n=none:=hU.fresh _ (Nat.le_refl _)
 have hN:∀ k,O (n+k)=none:=fun k=>hU.fresh _ (Nat.le_add_right _ _)
 show W _ _ _ _ ⟨68,[],[(0,.val (.int .i64 a0)),(1,.sl a1.length (fl (eI .u64) a1))]⟩ (Zy O n []) _
 refine Zp [0,1] (Zb Zc [] ?_)
 simp only [push_cast,seval,Za,hN0,hN]
 refine Zj ?_
 obtain ⟨y2,hy2,h⟩:=bC h
 refine Zb Zc [] ?_
 simp only [push_cast,seval,Za,hN0,hN]
 refine (Zbv hy2).then ?_
 simp only [push_cast,seval,Za,hN0,hN]
 refine Zl [0,1,6,7] [] ?_
 simp only [push_cast,seval]
 refine Zj ?_
 refine Zp [0,1,6,7,19,20,21] (Zb Zc [] ?_)
 simp only [push_cast,seval,Za,hN0,hN]
 refine Zl [0,1,6,7,19,20,21] [] ?_
 simp only [push_cast,seval]
 obtain ⟨z8,hz8,h⟩:=bC h
 refine X1 (E':=⟨68,[],[(0,.val (.int .i64 a0)),(1,.sl a1.length (fl (eI .u64) a1)),(6,.val (.int .i64 y2.1)),(7,.val (.bool z8))]⟩) (O':=(Zy O n [])) (n0:=n) ?_ ?_
 ·refine Jq hz8 (fun s0_=>⟨68,[],[(0,.val (.int .i64 a0)),(1,.sl a1.length (fl (eI .u64) a1)),(6,.val (.int .i64 y2.1)),(7,.val (.bool s0_.1)),(19,.sl a1.length (fl (eI .u64) a1)),(20,.val (.int .i64 (a1.length:Int))),(21,.val (.int .i64 s0_.2))]⟩) (fun s0_=>(Zy O n [])) (fun z8=>JX 0 n (⟨68,[],[(0,.val (.int .i64 a0)),(1,.sl a1.length (fl (eI .u64) a1)),(6,.val (.int .i64 y2.1)),(7,.val (.bool z8))]⟩:Env) (Zy O n []) n) ?_
  intro s0_ x0_ hs0_
  unfold Zaf at hs0_
  try dsimp only
  refine Zp [0,1,6,7,19,20,21,22] (Zb Zc [] ?_)
  simp only [push_cast,seval,Za,hN0,hN]
  refine Zj ?_
  refine Zs (t:=(decide (s0_.2 < (a1.length:Int)))) rfl (fun c7 => ?_) (fun c7 => ?_)
  ·replace hs0_:=Z3 c7 hs0_
   refine Zw ?_
   try simp only [Zk,Zg]
   refine Zl [0,1,6,7,19,20,21] [] ?_
   simp only [push_cast,seval]
   refine Zj ?_
   refine Yn ?_
   obtain ⟨x4,hx4,ax4,bx4,cx4,hs0_⟩:=bE (f:=(eI .u64)) Zap (fun _=>rfl) (by decide) hs0_
   refine Zp [0,1,6,7,9,19,20,21] (Zb Zc [] ?_)
   simp only [push_cast,Nat.reduceAdd,Nat.reduceSub,Nat.reduceMul,Nat.reduceLeDiff,Nat.reduceLT,Nat.reduceEqDiff,↓reduceIte,reduceCtorEq,Int.reduceBEq,Int.reduceBNe,Nat.reduceBEq,Int.reduceLE,Int.reduceLT,Int.reduceEq,Int.reduceNe,Int.reduceNeg,Nat.reduceDiv,Nat.reduceMod,Nat.reducePow,Za,ax4,bx4,cx4,hN0,hN]
   rcases Bool.eq_false_or_eq_true s0_.1 with c6 | c6
   ·replace hs0_:=Z3 c6 hs0_
    obtain ⟨y5,hy5,hs0_⟩:=bC hs0_
    refine Zb Zc (Z1k []) ?_
    simp only [push_cast,seval,Za,c6,hN0,hN]
    refine (Zq1 hy5).then ?_
    simp only [push_cast,seval,Za,c6,hN0,hN]
    refine Zl [0,1,6,7,19,20,21] [] ?_
    simp only [push_cast,seval]
    refine Zb Zc [] ?_
    simp only [push_cast,seval,Za,hN0,hN]
    have hs0_:=Option.some.inj hs0_;subst hs0_
    refine And.intro rfl (Fit2.of (Zr hU rfl rfl ?_) (by omega))
    simp only [push_cast,seval,Za,c6,hN0,hN]
   replace hs0_:=Z0 c6 hs0_
   refine Zb Zc (Z95 []) ?_
   simp only [push_cast,seval,Za,c6,hN0,hN]
   refine Zl [0,1,6,7,19,20,21] [] ?_
   simp only [push_cast,seval]
   refine Zb Zc [] ?_
   simp only [push_cast,seval,Za,hN0,hN]
   have hs0_:=Option.some.inj hs0_;subst hs0_
   refine And.intro rfl (Fit2.of (Zr hU rfl rfl ?_) (by omega))
   simp only [push_cast,seval,Za,hN0,hN]
  replace hs0_:=Z0 c7 hs0_
  refine Jt ?_
  try simp only [Zk,Zg,↓reduceIte,Nat.reduceEqDiff]
  have hs0_:=Option.some.inj hs0_;subst hs0_
  refine And.intro (fun h=>by cases h) (And.intro rfl (Fit2.of (Zr hU rfl rfl ?_) (by omega)))
  simp only [push_cast,seval,Za,hN0,hN]
 try simp only [Zk,Zg,↓reduceIte,Nat.reduceEqDiff]
 refine Zl [0,1,6,7] [] ?_
 simp only [push_cast,seval]
 refine Zj ?_
 refine Zp [0,1,6,33] (Zb Zc [] ?_)
 simp only [push_cast,seval,Za,hN0,hN]
 refine Zs (t:=(!z8)) rfl (fun c26 => ?_) (fun c26 => ?_)
 ·replace h:=Z3 c26 h
  refine Zp [4,5] (Zb Zc [] ?_)
  simp only [push_cast,seval,Za,hN0,hN]
  refine Zu ?_
  try simp only [Zk,Zg]
  have h:=Option.some.inj h;subst h
  refine Zq (.inr rfl) hU [.val (.slice none 0 0),.val (.bool false)] (by omega) ?_
  simp only [push_cast,seval,Za,Try.results73,hN0,hN]
 replace h:=Z0 c26 h
 refine Zw ?_
 try simp only [Zk,Zg]
 refine Zl [0,1,6] [] ?_
 simp only [push_cast,seval]
 refine Zj ?_
 obtain ⟨y11,hy11,h⟩:=bC h
 obtain ⟨l12,al12,bl12,cl12,el12,h⟩:=bM2 (c:=8) rfl h
 have nl12:Int.toNat y11=List.length l12:=by rw [el12,List.length_replicate]
 have fl12:(List.replicate (List.length l12) [.val (.int .u64 0)]).flatten=fl (eI .u64) l12:=by rw [← nl12,el12];exact (Zqe (f:=(eI .u64)) _ _).symm
 clear el12
 refine Zb Zc [] ?_
 simp only [push_cast,seval,Za,al12,bl12,cl12,fl12,nl12,hN0,hN]
 refine (Zzo hy11).then ?_
 simp only [push_cast,seval,Za,al12,bl12,cl12,fl12,nl12,hN0,hN]
 refine Zb2 ⟨68,[],[(1,.sl a1.length (fl (eI .u64) a1)),(6,.val (.int .i64 y2.1)),(10,.row n l12.length)]⟩ (Zy O n [some ⟨true,44,1,l12.length,fl (eI .u64) l12⟩]) (Zr hU rfl rfl ?_) ?_
 ·simp only [push_cast,seval,Za,al12,bl12,cl12,fl12,nl12,hN0,hN]
 refine Zj ?_
 refine Zp [1,6,10,40] (Zb Zc [] ?_)
 simp only [push_cast,seval,Za,hN0,hN]
 refine Zs (t:=(y2.1 == 0)) rfl (fun c25 => ?_) (fun c25 => ?_)
 ·replace h:=Z3 c25 h
  refine Zp [4,5] (Zb Zc [] ?_)
  simp only [push_cast,seval,Za,hN0,hN]
  refine Zu ?_
  try simp only [Zk,Zg]
  have h:=Option.some.inj h;subst h
  refine Zq (.inr rfl) hU [.row n l12.length,.val (.bool true)] (by omega) ?_
  simp only [push_cast,seval,Za,Try.results73,hN0,hN]
 replace h:=Z0 c25 h
 refine Zw ?_
 try simp only [Zk,Zg]
 refine Zl [1,6,10] [true] ?_
 simp only [push_cast,seval]
 obtain ⟨pu14,h⟩:=bG h
 refine Zp [1,6,10,11] (Zb Zc [] ?_)
 simp only [push_cast,seval,Za,pu14,hN0,hN]
 refine Zj ?_
 refine Zp [6,10,11,44,45,46] (Zb Zc [] ?_)
 simp only [push_cast,seval,Za,hN0,hN]
 refine Zl [6,10,11,44,45,46] [true] ?_
 simp only [push_cast,seval]
 obtain ⟨z24,hz24,h⟩:=bC h
 refine X1 (E':=⟨68,[],[(10,.row n z24.length)]⟩) (O':=(Zy O n [some ⟨true,44,1,z24.length,fl (eI .u64) z24⟩])) (n0:=(n+1)) ?_ ?_
 ·refine Jq hz24 (fun s1_=>⟨68,[],[(6,.val (.int .i64 y2.1)),(10,.row n s1_.2.length),(11,.val (.int .i64 (IntKind.i64.wrap (Int.tdiv 64 y2.1)))),(44,.sl a1.length (fl (eI .u64) a1)),(45,.val (.int .i64 (a1.length:Int))),(46,.val (.int .i64 s1_.1))]⟩) (fun s1_=>(Zy O n [some ⟨true,44,1,s1_.2.length,fl (eI .u64) s1_.2⟩])) (fun z24=>JX 2 n (⟨68,[],[(10,.row n z24.length)]⟩:Env) (Zy O n [some ⟨true,44,1,z24.length,fl (eI .u64) z24⟩]) (n+1)) ?_
  intro s1_ x1_ hs1_
  unfold Uw at hs1_
  try dsimp only
  refine Zp [6,10,11,44,45,46,47] (Zb Zc [] ?_)
  simp only [push_cast,seval,Za,hN0,hN]
  refine Zj ?_
  refine Zs (t:=(decide (s1_.1 < (a1.length:Int)))) rfl (fun c23 => ?_) (fun c23 => ?_)
  ·replace hs1_:=Z3 c23 hs1_
   refine Zw ?_
   try simp only [Zk,Zg]
   refine Zl [6,10,11,44,45,46] [true] ?_
   simp only [push_cast,seval]
   refine Zj ?_
   refine Yn ?_
   obtain ⟨x16,hx16,ax16,bx16,cx16,hs1_⟩:=bE (f:=(eI .u64)) Zap (fun _=>rfl) (by decide) hs1_
   refine Zp [6,10,11,12,13,44,45,46] (Zb Zc [] ?_)
   simp only [push_cast,Nat.reduceAdd,Nat.reduceSub,Nat.reduceMul,Nat.reduceLeDiff,Nat.reduceLT,Nat.reduceEqDiff,↓reduceIte,reduceCtorEq,Int.reduceBEq,Int.reduceBNe,Nat.reduceBEq,Int.reduceLE,Int.reduceLT,Int.reduceEq,Int.reduceNe,Int.reduceNeg,Nat.reduceDiv,Nat.reduceMod,Nat.reducePow,Za,ax16,bx16,cx16,hN0,hN]
   obtain ⟨pu17,hs1_⟩:=bG hs1_
   obtain ⟨x18,hx18,ax18,bx18,cx18,hs1_⟩:=bE (f:=(eI .u64)) Zap (fun _=>rfl) (by decide) hs1_
   obtain ⟨pu19,hs1_⟩:=bG hs1_
   obtain ⟨pu20,hs1_⟩:=bG hs1_
   have gu22:Uv (fl (eI .u64) s1_.2) [.val (.int .u64 (IntKind.u64.wrap (Zar .u64 x18 (IntKind.u64.wrap (x16 * 2 ^ min (Int.toNat (IntKind.i64.wrap ((Int.tmod s1_.1 (IntKind.i64.wrap (Int.tdiv 64 y2.1))) * y2.1))) 64)))))] (Int.toNat (IntKind.i64.wrap (Int.tdiv s1_.1 (IntKind.i64.wrap (Int.tdiv 64 y2.1)))) * 1)=some (fl (eI .u64) (Xr s1_.2 (IntKind.i64.wrap (Int.tdiv s1_.1 (IntKind.i64.wrap (Int.tdiv 64 y2.1)))) (IntKind.u64.wrap (Zar .u64 x18 (IntKind.u64.wrap (x16 * 2 ^ min (Int.toNat (IntKind.i64.wrap ((Int.tmod s1_.1 (IntKind.i64.wrap (Int.tdiv 64 y2.1))) * y2.1))) 64)))))):=Zit (f:=(eI .u64)) (ti:=⟨.bool,1,0,[],false⟩) (x:=(IntKind.u64.wrap (Zar .u64 x18 (IntKind.u64.wrap (x16 * 2 ^ min (Int.toNat (IntKind.i64.wrap ((Int.tmod s1_.1 (IntKind.i64.wrap (Int.tdiv 64 y2.1))) * y2.1))) 64))))) (fun _=>rfl) (Zc3 hx18)
   refine Zl2 Zc (by kernel_rfl) [false,false,false,false,false,false,false,false,false,false,false,false,false,false,false,true] [] (by kernel_rfl) ?_
   simp only [push_cast,Nat.reduceAdd,Nat.reduceSub,Nat.reduceMul,Nat.reduceLeDiff,Nat.reduceLT,Nat.reduceEqDiff,↓reduceIte,reduceCtorEq,Int.reduceBEq,Int.reduceBNe,Nat.reduceBEq,Int.reduceLE,Int.reduceLT,Int.reduceEq,Int.reduceNe,Int.reduceNeg,Nat.reduceDiv,Nat.reduceMod,Nat.reducePow,Za,pu17,ax18,bx18,cx18,pu19,pu20,gu22,hN0,hN]
   refine Zl [6,10,11,44,45,46] [true] ?_
   simp only [push_cast,seval]
   refine Zb Zc [] ?_
   simp only [push_cast,seval,Za,hN0,hN]
   have hs1_:=Option.some.inj hs1_;subst hs1_
   refine And.intro rfl (Fit2.of (Zr hU rfl rfl ?_) (by omega))
   simp only [push_cast,seval,Za,hN0,hN]
  replace hs1_:=Z0 c23 hs1_
  refine Jt ?_
  try simp only [Zk,Zg,↓reduceIte,Nat.reduceEqDiff]
  have hs1_:=Option.some.inj hs1_;subst hs1_
  refine And.intro (fun h=>by cases h) (And.intro rfl (Fit2.of (Zr hU rfl rfl ?_) (by omega)))
  simp only [push_cast,seval,Za,hN0,hN]
 try simp only [Zk,Zg,↓reduceIte,Nat.reduceEqDiff]
 refine Zl [10] [true] ?_
 simp only [push_cast,seval]
 refine Zp [4,5] (Zb Zc [] ?_)
 simp only [push_cast,seval,Za,hN0,hN]
 refine Zu ?_
 try simp only [Zk,Zg]
 have h:=Option.some.inj h;subst h
 refine Zq (.inr rfl) hU [.row n z24.length,.val (.bool true)] (by omega) ?_
 simp only [push_cast,seval,Za,Try.results73,hN0,hN]
theorem Zr5 {a0:Zd} {r:(List Int)} {O:Objs} {n:Nat} (h:Zby a0=some r):GTo Try.prog 53 [.agg (Zf a0)] O n (.sl r.length (fl (eI .u64) r)) O n:=by
 unfold Zby at h
 refine Yj Zc Try.call53 Try.func53 rfl (Nat.le_of_ble_eq_true rfl) (Nat.le_refl _) fun hU => ?_
 have hN0:O n=none:=hU.fresh _ (Nat.le_refl _)
 have hN:∀ k,O (n+k)=none:=fun k=>hU.fresh _ (Nat.le_add_right _ _)
 show W _ _ _ _ ⟨30,[],[(0,.agg (Zf a0))]⟩ (Zy O n []) _
 refine Zp [1] (Zb Zc [] ?_)
 simp only [push_cast,seval,Za,hN0,hN]
 refine Zp [1,3] (Zb Zc [] ?_)
 simp only [push_cast,seval,Za,hN0,hN]
 refine Zj ?_
 refine Zp [1,3,9,10,11] (Zb Zc [] ?_)
 simp only [push_cast,seval,Za,hN0,hN]
 refine Zl [1,3,9,10,11] [true] ?_
 simp only [push_cast,seval]
 refine Zds (E':=(⟨30,[],[(1,.ref n 0),(3,.row (n+1) ([]:List Int).length),(9,.sl a0.Kids.length (fl Zi a0.Kids)),(10,.val (.int .i64 (a0.Kids.length:Int))),(11,.val (.int .i64 0))]⟩:Env)) (O':=(Zy O n [some ⟨false,25,3,1,(Zf a0)⟩,some ⟨true,44,1,([]:List Int).length,fl (eI .u64) ([]:List Int)⟩,none])) (n':=(n+3)) ?_ ?_
 ·refine Fit2.trans (E':=(⟨30,[],[(1,.ref n 0),(3,.val (.slice none 0 0)),(9,.sl a0.Kids.length (fl Zi a0.Kids)),(10,.val (.int .i64 (a0.Kids.length:Int))),(11,.val (.int .i64 0))]⟩:Env)) (O':=(Zy O n [some ⟨false,25,3,1,(Zf a0)⟩])) (n':=(n+1)) (Fit2.of (Zr hU rfl rfl ?_) (by omega)) ?_
  ·simp only [push_cast,seval,Za,hN0,hN]
  refine Fit2.trans (Zrl 3 44 1 rfl (by omega)) ?_
  simp only [Uc,Kv,Zam,U3,List.set_cons_zero,List.set_cons_succ,List.cons_append,List.nil_append,List.length_cons,List.length_nil,Nat.zero_add,Nat.reduceAdd,Nat.reduceLT,Nat.add_assoc]
  refine Fit2.trans (E':=(⟨30,[],[(1,.ref n 0),(3,.row (n+1) ([]:List Int).length),(9,.sl a0.Kids.length (fl Zi a0.Kids)),(10,.val (.int .i64 (a0.Kids.length:Int))),(11,.val (.int .i64 0))]⟩:Env)) (O':=(Zy O n [some ⟨false,25,3,1,(Zf a0)⟩,some ⟨true,44,1,([]:List Int).length,fl (eI .u64) ([]:List Int)⟩])) (n':=(n+2)) (Fit2.of (Zr hU rfl rfl ?_) (by omega)) ?_
  ·simp only [push_cast,seval,Za,hN0,hN]
  refine Zku (k:=2) (k':=3) hU [0,1] [0,1,0] rfl rfl rfl rfl ⟨rfl,rfl⟩ ?_
  simp only [push_cast,seval,Za,hN0,hN]
 obtain ⟨z6,hz6,h⟩:=bC h
 refine X1 (E':=⟨30,[],[(1,.ref n 0),(3,.row (n+1) z6.length)]⟩) (O':=(Zy O n [some ⟨false,25,3,1,(Zf a0)⟩,some ⟨true,44,1,z6.length,fl (eI .u64) z6⟩,none])) (n0:=(n+3)) ?_ ?_
 ·refine Jq hz6 (fun s0_=>⟨30,[],[(1,.ref n 0),(3,.row (n+1) s0_.2.length),(9,.sl a0.Kids.length (fl Zi a0.Kids)),(10,.val (.int .i64 (a0.Kids.length:Int))),(11,.val (.int .i64 s0_.1))]⟩) (fun s0_=>(Zy O n [some ⟨false,25,3,1,(Zf a0)⟩,some ⟨true,44,1,s0_.2.length,fl (eI .u64) s0_.2⟩,none])) (fun z6=>JX 0 n (⟨30,[],[(1,.ref n 0),(3,.row (n+1) z6.length)]⟩:Env) (Zy O n [some ⟨false,25,3,1,(Zf a0)⟩,some ⟨true,44,1,z6.length,fl (eI .u64) z6⟩,none]) (n+3)) ?_
  intro s0_ x0_ hs0_
  unfold Vw at hs0_
  try dsimp only
  refine Zp [1,3,9,10,11,12] (Zb Zc [] ?_)
  simp only [push_cast,seval,Za,hN0,hN]
  refine Zj ?_
  refine Zs (t:=(decide (s0_.1 < (a0.Kids.length:Int)))) rfl (fun c5 => ?_) (fun c5 => ?_)
  ·replace hs0_:=Z3 c5 hs0_
   refine Zw ?_
   try simp only [Zk,Zg]
   refine Zl [1,3,9,10,11] [true,true,false] ?_
   simp only [push_cast,seval]
   refine Zj ?_
   refine Yn ?_
   refine Zj ?_
   obtain ⟨x2,hx2,ax2,bx2,cx2,hs0_⟩:=bE (f:=Zi) Uo (fun _=>rfl) (by decide) hs0_
   refine Zb Zc [] ?_
   simp only [push_cast,Nat.reduceAdd,Nat.reduceSub,Nat.reduceMul,Nat.reduceLeDiff,Nat.reduceLT,Nat.reduceEqDiff,↓reduceIte,reduceCtorEq,Int.reduceBEq,Int.reduceBNe,Nat.reduceBEq,Int.reduceLE,Int.reduceLT,Int.reduceEq,Int.reduceNe,Int.reduceNeg,Nat.reduceDiv,Nat.reduceMod,Nat.reducePow,Za,ax2,bx2,cx2,hN0,hN]
   refine Zl [1,3,5,9,10,11] [true,true,false,true] ?_
   simp only [push_cast,seval]
   obtain ⟨y3,hy3,hs0_⟩:=bC hs0_
   obtain ⟨l4,pl4,ql4,el4,hs0_⟩:=bA (k:=1) rfl hs0_
   refine Zb Zc [] ?_
   simp only [push_cast,seval,Za,pl4,ql4,el4,hN0,hN]
   refine (Zzn hy3).then ?_
   simp only [push_cast,seval,Za,pl4,ql4,el4,hN0,hN]
   refine Zb2 ⟨30,[],[(1,.ref n 0),(3,.row (n+1) l4.length),(9,.sl a0.Kids.length (fl Zi a0.Kids)),(10,.val (.int .i64 (a0.Kids.length:Int))),(11,.val (.int .i64 s0_.1))]⟩ (Zy O n [some ⟨false,25,3,1,(Zf a0)⟩,some ⟨true,44,1,l4.length,fl (eI .u64) l4⟩,none,none,none]) (Zr hU rfl rfl ?_) ?_
   ·simp only [push_cast,seval,Za,pl4,ql4,el4,hN0,hN]
   refine Zb Zc [] ?_
   simp only [push_cast,seval,Za,hN0,hN]
   have hs0_:=Option.some.inj hs0_;subst hs0_
   refine And.intro rfl (Fit2.of (Zr hU rfl rfl ?_) (by omega))
   simp only [push_cast,seval,Za,hN0,hN]
  replace hs0_:=Z0 c5 hs0_
  refine Jt ?_
  try simp only [Zk,Zg,↓reduceIte,Nat.reduceEqDiff]
  have hs0_:=Option.some.inj hs0_;subst hs0_
  refine And.intro (fun h=>by cases h) (And.intro rfl (Fit2.of (Zr hU rfl rfl ?_) (by omega)))
  simp only [push_cast,seval,Za,hN0,hN]
 try simp only [Zk,Zg,↓reduceIte,Nat.reduceEqDiff]
 refine Zl [1,3] [true,true,false] ?_
 simp only [push_cast,seval]
 refine Zb2 ⟨30,[],[(1,.ref n 0),(3,.sl z6.length (fl (eI .u64) z6))]⟩ (Zy O n [some ⟨false,25,3,1,(Zf a0)⟩,none,none]) (Zr hU rfl rfl ?_) ?_
 ·simp only [push_cast,seval,Za,hN0,hN]
 refine Zj ?_
 obtain ⟨y8,hy8,h⟩:=bC h
 refine Zb Zc [] ?_
 simp only [push_cast,seval,Za,hN0,hN]
 refine (Z1n hy8).then ?_
 simp only [push_cast,seval,Za,hN0,hN]
 refine Zl [6] [false,false,false] ?_
 simp only [push_cast,seval]
 refine Zp [2] (Zb Zc [] ?_)
 simp only [push_cast,seval,Za,hN0,hN]
 refine Zu ?_
 try simp only [Zk,Zg]
 have h:=Option.some.inj h;subst h
 refine Zq (.inr rfl) hU [.sl y8.1.length (fl (eI .u64) y8.1)] (by omega) ?_
 simp only [push_cast,seval,Za,Try.results53,hN0,hN]
theorem Z3j {a0:Zx} {r:Int} {O:Objs} {n:Nat} (h:Zi6 a0=some r):GTo Try.prog 83 [.agg (Yb a0)] O n (.val (.int .u64 r)) O n:=by
 unfold Zi6 at h
 refine Yj Zc Try.call83 Try.func83 rfl (Nat.le_of_ble_eq_true rfl) (Nat.le_refl _) fun hU => ?_
 have hN0:O n=none:=hU.fresh _ (Nat.le_refl _)
 have hN:∀ k,O (n+k)=none:=fun k=>hU.fresh _ (Nat.le_add_right _ _)
 show W _ _ _ _ ⟨58,[],[(0,.agg (Yb a0))]⟩ (Zy O n []) _
 refine Zp [1] (Zb Zc [] ?_)
 simp only [push_cast,seval,Za,hN0,hN]
 refine Zj ?_
 refine Zp [1,5] (Zb Zc [] ?_)
 simp only [push_cast,seval,Za,hN0,hN]
 refine Yn ?_
 refine Zp [1,5,6] (Zb Zc [] ?_)
 simp only [push_cast,seval,Za,hN0,hN]
 refine Zs (t:=(a0.Kind == 1)) rfl (fun c5 => ?_) (fun c5 => ?_)
 ·replace h:=Z3 c5 h
  refine Zp [2] (Zb Zc [] ?_)
  simp only [push_cast,seval,Za,hN0,hN]
  refine Zu ?_
  try simp only [Zk,Zg]
  have h:=Option.some.inj h;subst h
  refine Zq (.inr rfl) hU [.val (.int .u64 (IntKind.u64.wrap (Zar .u64 (IntKind.u64.wrap (Zar .u64 (IntKind.u64.wrap (IntKind.u32.wrap ((IntKind.u32.wrap a0.Off) * 2 ^ min (Int.toNat 2) 32))) (IntKind.u64.wrap ((IntKind.u64.wrap a0.Data) * 2 ^ min (Int.toNat 32) 64)))) (IntKind.u64.wrap ((IntKind.u64.wrap a0.Ptrs) * 2 ^ min (Int.toNat 48) 64)))))] (by omega) ?_
  simp only [push_cast,seval,Za,Try.results83,hN0,hN]
 replace h:=Z0 c5 h
 refine Zp [1,5,23] (Zb Zc [] ?_)
 simp only [push_cast,seval,Za,hN0,hN]
 refine Zs (t:=(a0.Kind == 2)) rfl (fun c4 => ?_) (fun c4 => ?_)
 ·replace h:=Z3 c4 h
  refine Zp [2] (Zb Zc [] ?_)
  simp only [push_cast,seval,Za,hN0,hN]
  refine Zu ?_
  try simp only [Zk,Zg]
  have h:=Option.some.inj h;subst h
  refine Zq (.inr rfl) hU [.val (.int .u64 (IntKind.u64.wrap (Zar .u64 (IntKind.u64.wrap (Zar .u64 (IntKind.u64.wrap (Zar .u64 1 (IntKind.u64.wrap (IntKind.u32.wrap ((IntKind.u32.wrap a0.Off) * 2 ^ min (Int.toNat 2) 32))))) (IntKind.u64.wrap ((IntKind.u64.wrap a0.Code) * 2 ^ min (Int.toNat 32) 64)))) (IntKind.u64.wrap ((IntKind.u64.wrap a0.Count) * 2 ^ min (Int.toNat 35) 64)))))] (by omega) ?_
  simp only [push_cast,seval,Za,Try.results83,hN0,hN]
 replace h:=Z0 c4 h
 refine Zp [1,41] (Zb Zc [] ?_)
 simp only [push_cast,seval,Za,hN0,hN]
 refine Zs (t:=(a0.Kind == 3)) rfl (fun c3 => ?_) (fun c3 => ?_)
 ·replace h:=Z3 c3 h
  refine Zp [1,3] (Zb Zc [] ?_)
  simp only [push_cast,seval,Za,hN0,hN]
  obtain ⟨z1,hz1,h⟩:=bC h
  refine Xk (E':=⟨58,[],[(3,.val (.int .u64 z1))]⟩) (O':=(Zy O n [none])) (n0:=(n+1)) ?_ ?_
  ·refine Zp [3,54] (Zb Zc [] ?_)
   simp only [push_cast,seval,Za,hN0,hN]
   refine Zs (t:=a0.Double) rfl (fun c2 => ?_) (fun c2 => ?_)
   ·replace hz1:=Z3 c2 hz1
    refine Zb Zc [] ?_
    simp only [push_cast,seval,Za,hN0,hN]
    have hz1:=Option.some.inj hz1;subst hz1
    refine And.intro rfl (Fit2.of (Zr hU rfl rfl ?_) (by omega))
    simp only [push_cast,seval,Za,hN0,hN]
   replace hz1:=Z0 c2 hz1
   refine Zw ?_
   try simp only [Zk,Zg]
   have hz1:=Option.some.inj hz1;subst hz1
   refine And.intro rfl (Fit2.of (Zr hU rfl rfl ?_) (by omega))
   simp only [push_cast,seval,Za,hN0,hN]
  refine Zp [2] (Zb Zc [] ?_)
  simp only [push_cast,seval,Za,hN0,hN]
  refine Zu ?_
  try simp only [Zk,Zg]
  have h:=Option.some.inj h;subst h
  refine Zq (.inr rfl) hU [.val (.int .u64 z1)] (by omega) ?_
  simp only [push_cast,seval,Za,Try.results83,hN0,hN]
 replace h:=Z0 c3 h
 refine Zw ?_
 try simp only [Zk,Zg]
 refine Zl [] [false] ?_
 simp only [push_cast,seval]
 refine Zp [2] (Zb Zc [] ?_)
 simp only [push_cast,seval,Za,hN0,hN]
 refine Zu ?_
 try simp only [Zk,Zg]
 have h:=Option.some.inj h;subst h
 refine Zq (.inr rfl) hU [.val (.int .u64 0)] (by omega) ?_
 simp only [push_cast,seval,Za,Try.results83,hN0,hN]
theorem Zo8 {a0:Int} {r:Int} {O:Objs} {n:Nat} (h:Zde a0=some r):GTo Try.prog 86 [.val (.int .u64 a0)] O n (.val (.int .i64 r)) O n:=by
 unfold Zde at h
 refine Yj Zc Try.call86 Try.func86 rfl (Nat.le_of_ble_eq_true rfl) (Nat.le_refl _) fun hU => ?_
 have hN0:O n=none:=hU.fresh _ (Nat.le_refl _)
 have hN:∀ k,O (n+k)=none:=fun k=>hU.fresh _ (Nat.le_add_right _ _)
 show W _ _ _ _ ⟨8,[],[(0,.val (.int .u64 a0))]⟩ (Zy O n []) _
 refine Zp [0] (Zb Zc [] ?_)
 simp only [push_cast,seval,Za,hN0,hN]
 refine Zp [2] (Zb Zc [] ?_)
 simp only [push_cast,seval,Za,hN0,hN]
 refine Zu ?_
 try simp only [Zk,Zg]
 have h:=Option.some.inj h;subst h
 refine Zq (.inr rfl) hU [.val (.int .i64 (IntKind.i64.wrap (Int.fdiv (IntKind.i32.wrap (IntKind.u32.wrap a0)) (2 ^ min (Int.toNat 2) 32))))] (by omega) ?_
 simp only [push_cast,seval,Za,Try.results86,hN0,hN]
theorem Zbh {a0:Int} {a1:Int} {a2:Int} {r:Int} {O:Objs} {n:Nat} (h:X0 a0 a1 a2=some r):GTo Try.prog 87 [.val (.int .u64 a0),.val (.int .i64 a1),.val (.int .i64 a2)] O n (.val (.int .i64 r)) O n:=by
 unfold X0 at h
 refine Yj Zc Try.call87 Try.func87 rfl (Nat.le_of_ble_eq_true rfl) (Nat.le_refl _) fun hU => ?_
 have hN0:O n=none:=hU.fresh _ (Nat.le_refl _)
 have hN:∀ k,O (n+k)=none:=fun k=>hU.fresh _ (Nat.le_add_right _ _)
 show W _ _ _ _ ⟨15,[],[(0,.val (.int .u64 a0)),(1,.val (.int .i64 a1)),(2,.val (.int .i64 a2))]⟩ (Zy O n []) _
 refine Zp [0,1,2] (Zb Zc [] ?_)
 simp only [push_cast,seval,Za,hN0,hN]
 obtain ⟨pu3,h⟩:=bG h
 obtain ⟨pu4,h⟩:=bG h
 refine Zp [6] (V6 Zc (by kernel_rfl) [] (by kernel_rfl) ?_)
 simp only [push_cast,seval,Za,pu3,pu4,hN0,hN]
 refine Zu ?_
 try simp only [Zk,Zg]
 have h:=Option.some.inj h;subst h
 refine Zq (.inr rfl) hU [.val (.int .i64 (IntKind.i64.wrap (IntKind.u64.wrap (Zaz .u64 (Int.fdiv a0 (2 ^ min (Int.toNat a1) 64)) (IntKind.u64.wrap ((IntKind.u64.wrap (1 * 2 ^ min (Int.toNat a2) 64)) - 1))))))] (by omega) ?_
 simp only [push_cast,seval,Za,Try.results87,hN0,hN]
theorem Vg {a0:Int} {r:Zx} {O:Objs} {n:Nat} (h:Jx a0=some r):GTo Try.prog 76 [.val (.int .u64 a0)] O n (.agg (Yb r)) O n:=by
 unfold Jx at h
 refine Yj Zc Try.call76 Try.func76 rfl (Nat.le_of_ble_eq_true rfl) (Nat.le_refl _) fun hU => ?_
 have hN0:O n=none:=hU.fresh _ (Nat.le_refl _)
 have hN:∀ k,O (n+k)=none:=fun k=>hU.fresh _ (Nat.le_add_right _ _)
 show W _ _ _ _ ⟨38,[],[(0,.val (.int .u64 a0))]⟩ (Zy O n []) _
 refine Zp [0,2] (Zb Zc [] ?_)
 simp only [push_cast,seval,Za,hN0,hN]
 refine Zj ?_
 refine Zp [0,2,4] (Zb Zc [] ?_)
 simp only [push_cast,seval,Za,hN0,hN]
 refine Zs (t:=(a0 == 0)) rfl (fun c20 => ?_) (fun c20 => ?_)
 ·replace h:=Z3 c20 h
  refine Zj ?_
  refine Zb Zc [] ?_
  simp only [push_cast,seval,Za,hN0,hN]
  refine Zb2 ⟨38,[],[(2,.ref n 0)]⟩ (Zy O n [some ⟨false,69,8,1,[.val (.int .i64 0),.val (.int .i64 0),.val (.int .i64 0),.val (.int .i64 0),.val (.int .i64 0),.val (.int .i64 0),.val (.int .i64 0),.val (.bool false)]⟩]) (Zr hU rfl rfl ?_) ?_
  ·simp only [push_cast,seval,Za,hN0,hN]
  refine Zu ?_
  try simp only [Zk,Zg]
  have h:=Option.some.inj h;subst h
  refine Zq (.inr rfl) hU [.agg [.val (.int .i64 0),.val (.int .i64 0),.val (.int .i64 0),.val (.int .i64 0),.val (.int .i64 0),.val (.int .i64 0),.val (.int .i64 0),.val (.bool false)]] (by omega) ?_
  simp only [push_cast,seval,Za,Try.results76,hN0,hN]
 replace h:=Z0 c20 h
 refine Zw ?_
 try simp only [Zk,Zg]
 refine Zb2 ⟨38,[],[(0,.val (.int .u64 a0)),(2,.ref n 0)]⟩ (Zy O n [some ⟨false,69,8,1,[.val (.int .i64 0),.val (.int .i64 0),.val (.int .i64 0),.val (.int .i64 0),.val (.int .i64 0),.val (.int .i64 0),.val (.int .i64 0),.val (.bool false)]⟩]) (Zr hU rfl rfl ?_) ?_
 ·simp only [push_cast,seval,Za,hN0,hN]
 refine Zj ?_
 refine Zp [0,2,7] (Zb Zc [] ?_)
 simp only [push_cast,seval,Za,hN0,hN]
 refine Yn ?_
 refine Zp [0,2,7,8] (Zb Zc [] ?_)
 simp only [push_cast,seval,Za,hN0,hN]
 refine Zs (t:=((IntKind.u64.wrap (Zaz .u64 a0 3)) == 0)) rfl (fun c19 => ?_) (fun c19 => ?_)
 ·replace h:=Z3 c19 h
  refine Zj ?_
  obtain ⟨y4,hy4,h⟩:=bC h
  obtain ⟨y5,hy5,h⟩:=bC h
  obtain ⟨y6,hy6,h⟩:=bC h
  refine Zb Zc [] ?_
  simp only [push_cast,seval,Za,hN0,hN]
  refine (Zo8 hy4).then ?_
  simp only [push_cast,seval,Za,hN0,hN]
  refine (Zbh hy5).then ?_
  simp only [push_cast,seval,Za,hN0,hN]
  refine (Zbh hy6).then ?_
  simp only [push_cast,seval,Za,hN0,hN]
  refine Zb2 ⟨38,[],[(2,.ref n 0)]⟩ (Zy O n [some ⟨false,69,8,1,[.val (.int .i64 1),.val (.int .i64 y4),.val (.int .i64 y5),.val (.int .i64 y6),.val (.int .i64 0),.val (.int .i64 0),.val (.int .i64 0),.val (.bool false)]⟩]) (Zr hU rfl rfl ?_) ?_
  ·simp only [push_cast,seval,Za,hN0,hN]
  refine Zu ?_
  try simp only [Zk,Zg]
  have h:=Option.some.inj h;subst h
  refine Zq (.inr rfl) hU [.agg [.val (.int .i64 1),.val (.int .i64 y4),.val (.int .i64 y5),.val (.int .i64 y6),.val (.int .i64 0),.val (.int .i64 0),.val (.int .i64 0),.val (.bool false)]] (by omega) ?_
  simp only [push_cast,seval,Za,Try.results76,hN0,hN]
 replace h:=Z0 c19 h
 refine Zp [0,2,7,17] (Zb Zc [] ?_)
 simp only [push_cast,seval,Za,hN0,hN]
 refine Zs (t:=((IntKind.u64.wrap (Zaz .u64 a0 3)) == 1)) rfl (fun c18 => ?_) (fun c18 => ?_)
 ·replace h:=Z3 c18 h
  refine Zj ?_
  obtain ⟨y10,hy10,h⟩:=bC h
  obtain ⟨y11,hy11,h⟩:=bC h
  obtain ⟨y12,hy12,h⟩:=bC h
  refine Zb Zc [] ?_
  simp only [push_cast,seval,Za,hN0,hN]
  refine (Zo8 hy10).then ?_
  simp only [push_cast,seval,Za,hN0,hN]
  refine (Zbh hy11).then ?_
  simp only [push_cast,seval,Za,hN0,hN]
  refine (Zbh hy12).then ?_
  simp only [push_cast,seval,Za,hN0,hN]
  refine Zb2 ⟨38,[],[(2,.ref n 0)]⟩ (Zy O n [some ⟨false,69,8,1,[.val (.int .i64 2),.val (.int .i64 y10),.val (.int .i64 0),.val (.int .i64 0),.val (.int .i64 y11),.val (.int .i64 y12),.val (.int .i64 0),.val (.bool false)]⟩]) (Zr hU rfl rfl ?_) ?_
  ·simp only [push_cast,seval,Za,hN0,hN]
  refine Zu ?_
  try simp only [Zk,Zg]
  have h:=Option.some.inj h;subst h
  refine Zq (.inr rfl) hU [.agg [.val (.int .i64 2),.val (.int .i64 y10),.val (.int .i64 0),.val (.int .i64 0),.val (.int .i64 y11),.val (.int .i64 y12),.val (.int .i64 0),.val (.bool false)]] (by omega) ?_
  simp only [push_cast,seval,Za,Try.results76,hN0,hN]
 replace h:=Z0 c18 h
 refine Zp [0,2,26] (Zb Zc [] ?_)
 simp only [push_cast,seval,Za,hN0,hN]
 refine Zs (t:=((IntKind.u64.wrap (Zaz .u64 a0 3)) == 2)) rfl (fun c17 => ?_) (fun c17 => ?_)
 ·replace h:=Z3 c17 h
  refine Zj ?_
  obtain ⟨y15,hy15,h⟩:=bC h
  obtain ⟨y16,hy16,h⟩:=bC h
  refine Zb Zc [] ?_
  simp only [push_cast,seval,Za,hN0,hN]
  refine (Zbh hy15).then ?_
  simp only [push_cast,seval,Za,hN0,hN]
  refine (Zbh hy16).then ?_
  simp only [push_cast,seval,Za,hN0,hN]
  refine Zb2 ⟨38,[],[(2,.ref n 0)]⟩ (Zy O n [some ⟨false,69,8,1,[.val (.int .i64 3),.val (.int .i64 y15),.val (.int .i64 0),.val (.int .i64 0),.val (.int .i64 0),.val (.int .i64 0),.val (.int .i64 y16),.val (.bool ((IntKind.u64.wrap (Zaz .u64 (Int.fdiv a0 (2 ^ min (Int.toNat 2) 64)) 1)) == 1))]⟩]) (Zr hU rfl rfl ?_) ?_
  ·simp only [push_cast,seval,Za,hN0,hN]
  refine Zu ?_
  try simp only [Zk,Zg]
  have h:=Option.some.inj h;subst h
  refine Zq (.inr rfl) hU [.agg [.val (.int .i64 3),.val (.int .i64 y15),.val (.int .i64 0),.val (.int .i64 0),.val (.int .i64 0),.val (.int .i64 0),.val (.int .i64 y16),.val (.bool ((IntKind.u64.wrap (Zaz .u64 (Int.fdiv a0 (2 ^ min (Int.toNat 2) 64)) 1)) == 1))]] (by omega) ?_
  simp only [push_cast,seval,Za,Try.results76,hN0,hN]
 replace h:=Z0 c17 h
 refine Zw ?_
 try simp only [Zk,Zg]
 refine Zb2 ⟨38,[],[(2,.ref n 0)]⟩ (Zy O n [some ⟨false,69,8,1,[.val (.int .i64 0),.val (.int .i64 0),.val (.int .i64 0),.val (.int .i64 0),.val (.int .i64 0),.val (.int .i64 0),.val (.int .i64 0),.val (.bool false)]⟩]) (Zr hU rfl rfl ?_) ?_
 ·simp only [push_cast,seval,Za,hN0,hN]
 refine Zj ?_
 refine Zb Zc [] ?_
 simp only [push_cast,seval,Za,hN0,hN]
 refine Zb2 ⟨38,[],[(2,.ref n 0)]⟩ (Zy O n [some ⟨false,69,8,1,[.val (.int .i64 4),.val (.int .i64 0),.val (.int .i64 0),.val (.int .i64 0),.val (.int .i64 0),.val (.int .i64 0),.val (.int .i64 0),.val (.bool false)]⟩]) (Zr hU rfl rfl ?_) ?_
 ·simp only [push_cast,seval,Za,hN0,hN]
 refine Zu ?_
 try simp only [Zk,Zg]
 have h:=Option.some.inj h;subst h
 refine Zq (.inr rfl) hU [.agg [.val (.int .i64 4),.val (.int .i64 0),.val (.int .i64 0),.val (.int .i64 0),.val (.int .i64 0),.val (.int .i64 0),.val (.int .i64 0),.val (.bool false)]] (by omega) ?_
 simp only [push_cast,seval,Za,Try.results76,hN0,hN]
theorem Zwg {a0:Zx} {r:(Int×Bool)} {O:Objs} {n:Nat} (h:Ve a0=some r):GTo Try.prog 70 [.agg (Yb a0)] O n (.tup [.val (.int .u64 r.1),.val (.bool r.2)]) O n:=by
 unfold Ve at h
 refine Yj Zc Try.call70 Try.func70 rfl (Nat.le_of_ble_eq_true rfl) (Nat.le_refl _) fun hU => ?_
 have hN0:O n=none:=hU.fresh _ (Nat.le_refl _)
 have hN:∀ k,O (n+k)=none:=fun k=>hU.fresh _ (Nat.le_add_right _ _)
 show W _ _ _ _ ⟨17,[],[(0,.agg (Yb a0))]⟩ (Zy O n []) _
 refine Zp [1] (Zb Zc [] ?_)
 simp only [push_cast,seval,Za,hN0,hN]
 refine Zj ?_
 obtain ⟨y2,hy2,h⟩:=bC h
 refine Zb Zc [] ?_
 simp only [push_cast,seval,Za,hN0,hN]
 refine (Z3j hy2).then ?_
 simp only [push_cast,seval,Za,hN0,hN]
 refine Zl [1,4] [true] ?_
 simp only [push_cast,seval]
 obtain ⟨z4,hz4,h⟩:=bC h
 refine Xk (E':=⟨17,[],[(2,.val (.int .u64 y2)),(3,.val (.bool z4))]⟩) (O':=(Zy O n [none])) (n0:=(n+1)) ?_ ?_
 ·rcases Bool.eq_false_or_eq_true (a0.Kind != 4) with c7 | c7
  ·replace hz4:=Z3 c7 hz4
   obtain ⟨y6,hy6,hz4⟩:=bC hz4
   refine V6 Zc (by kernel_rfl) (Z5x []) (by kernel_rfl) ?_
   simp only [push_cast,seval,Za,c7,hN0,hN]
   refine PCall.of (Vg hy6) ?_
   simp only [push_cast,seval,Za,c7,hN0,hN]
   have hz4:=Option.some.inj hz4;subst hz4
   refine And.intro rfl (Fit2.of (Zr hU rfl rfl ?_) (by omega))
   simp only [push_cast,seval,Za,c7,hN0,hN]
  replace hz4:=Z0 c7 hz4
  refine V6 Zc (by kernel_rfl) (Z5v []) (by kernel_rfl) ?_
  simp only [push_cast,seval,Za,c7,hN0,hN]
  have hz4:=Option.some.inj hz4;subst hz4
  refine And.intro rfl (Fit2.of (Zr hU rfl rfl ?_) (by omega))
  simp only [push_cast,seval,Za,c7,hN0,hN]
 refine Zu ?_
 try simp only [Zk,Zg]
 have h:=Option.some.inj h;subst h
 refine Zq (.inr rfl) hU [.val (.int .u64 y2),.val (.bool z4)] (by omega) ?_
 simp only [push_cast,seval,Za,Try.results70,hN0,hN]
theorem Za9 {a0:Zx} {r:Int} {O:Objs} {n:Nat} (h:Gp a0=some r):GTo Try.prog 49 [.agg (Yb a0)] O n (.val (.int .u64 r)) O n:=by
 unfold Gp at h
 refine Yj Zc Try.call49 Try.func49 rfl (Nat.le_of_ble_eq_true rfl) (Nat.le_refl _) fun hU => ?_
 have hN0:O n=none:=hU.fresh _ (Nat.le_refl _)
 have hN:∀ k,O (n+k)=none:=fun k=>hU.fresh _ (Nat.le_add_right _ _)
 show W _ _ _ _ ⟨11,[],[(0,.agg (Yb a0))]⟩ (Zy O n []) _
 refine Zp [1] (Zb Zc [] ?_)
 simp only [push_cast,seval,Za,hN0,hN]
 refine Zj ?_
 obtain ⟨y2,hy2,h⟩:=bC h
 refine Zb Zc [] ?_
 simp only [push_cast,seval,Za,hN0,hN]
 refine (Zwg hy2).then ?_
 simp only [push_cast,seval,Za,hN0,hN]
 refine Zl [3] [false] ?_
 simp only [push_cast,seval]
 refine Zp [2] (Zb Zc [] ?_)
 simp only [push_cast,seval,Za,hN0,hN]
 refine Zu ?_
 try simp only [Zk,Zg]
 have h:=Option.some.inj h;subst h
 refine Zq (.inr rfl) hU [.val (.int .u64 y2.1)] (by omega) ?_
 simp only [push_cast,seval,Za,Try.results49,hN0,hN]
theorem Zzm {a0:Int} {r:Int} {O:Objs} {n:Nat} (h:Zce a0=some r):GTo Try.prog 47 [.val (.int .i64 a0)] O n (.val (.int .i64 r)) O n:=by
 unfold Zce at h
 refine Yj Zc Try.call47 Try.func47 rfl (Nat.le_of_ble_eq_true rfl) (Nat.le_refl _) fun hU => ?_
 have hN0:O n=none:=hU.fresh _ (Nat.le_refl _)
 have hN:∀ k,O (n+k)=none:=fun k=>hU.fresh _ (Nat.le_add_right _ _)
 show W _ _ _ _ ⟨8,[],[(0,.val (.int .i64 a0))]⟩ (Zy O n []) _
 refine Zp [0] (Zb Zc [] ?_)
 simp only [push_cast,seval,Za,hN0,hN]
 refine Zj ?_
 obtain ⟨y6,hy6,ey6,h⟩:=bY (f:=(eI .i64)) (cs:=[.val (.int .i64 0),.val (.int .i64 1),.val (.int .i64 8),.val (.int .i64 16),.val (.int .i64 32),.val (.int .i64 64),.val (.int .i64 64)]) rfl h
 have g7:=congrArg G.agg ey6
 obtain ⟨y8,hy8,ey8,h⟩:=bY (f:=(eI .i64)) (cs:=[.val (.int .i64 0),.val (.int .i64 0),.val (.int .i64 0),.val (.int .i64 0),.val (.int .i64 0),.val (.int .i64 0),.val (.int .i64 0)]) rfl h
 have g9:=congrArg (GObj.mk false 105 7 1) ey8
 have g10:=Zuu (f:=(eI .i64)) y8 y6 (fun _=>rfl)
 refine Zb Zc [] ?_
 simp only [push_cast,seval,Za,g7,g9,g10,hN0,hN]
 refine Zl [0,3] [true] ?_
 simp only [push_cast,seval]
 obtain ⟨x12,hx12,ax12,bx12,cx12,h⟩:=bEA (f:=(eI .i64)) (b:=7) rfl Zz4 (fun _=>rfl) (by decide) h
 refine Zp [2] (Zb Zc [] ?_)
 simp only [push_cast,Nat.reduceAdd,Nat.reduceSub,Nat.reduceMul,Nat.reduceLeDiff,Nat.reduceLT,Nat.reduceEqDiff,↓reduceIte,reduceCtorEq,Int.reduceBEq,Int.reduceBNe,Nat.reduceBEq,Int.reduceLE,Int.reduceLT,Int.reduceEq,Int.reduceNe,Int.reduceNeg,Nat.reduceDiv,Nat.reduceMod,Nat.reducePow,Za,ax12,bx12,cx12,hN0,hN]
 refine Zu ?_
 try simp only [Zk,Zg]
 have h:=Option.some.inj h;subst h
 refine Zq (.inr rfl) hU [.val (.int .i64 x12)] (by omega) ?_
 simp only [push_cast,seval,Za,Try.results47,hN0,hN]
theorem Zi8 {a0:Zx} {r:(Int×Bool)} {O:Objs} {n:Nat} (h:Qo a0=some r):GTo Try.prog 32 [.agg (Yb a0)] O n (.tup [.val (.int .i64 r.1),.val (.bool r.2)]) O n:=by
 unfold Qo at h
 refine Yj Zc Try.call32 Try.func32 rfl (Nat.le_of_ble_eq_true rfl) (Nat.le_refl _) fun hU => ?_
 have hN0:O n=none:=hU.fresh _ (Nat.le_refl _)
 have hN:∀ k,O (n+k)=none:=fun k=>hU.fresh _ (Nat.le_add_right _ _)
 show W _ _ _ _ ⟨57,[],[(0,.agg (Yb a0))]⟩ (Zy O n []) _
 refine Zp [1] (Zb Zc [] ?_)
 simp only [push_cast,seval,Za,hN0,hN]
 refine Zj ?_
 refine Yn ?_
 refine Zp [1,4] (Zb Zc [] ?_)
 simp only [push_cast,seval,Za,hN0,hN]
 refine Zs (t:=(a0.Kind == 1)) rfl (fun c5 => ?_) (fun c5 => ?_)
 ·replace h:=Z3 c5 h
  refine Zp [2,3] (Zb Zc [] ?_)
  simp only [push_cast,seval,Za,hN0,hN]
  refine Zu ?_
  try simp only [Zk,Zg]
  have h:=Option.some.inj h;subst h
  refine Zq (.inr rfl) hU [.val (.int .i64 (IntKind.i64.wrap (a0.Data+a0.Ptrs))),.val (.bool true)] (by omega) ?_
  simp only [push_cast,seval,Za,Try.results32,hN0,hN]
 replace h:=Z0 c5 h
 refine Zp [1,13] (Zb Zc [none,none,none] ?_)
 simp only [push_cast,seval,Za,hN0,hN]
 repeat (with_reducible refine And.intro (by first | (intro h0;simp only [h0,and_self];done) | (intro h0;simp only [h0,Bool.not_false,Bool.not_true,Bool.true_and,Bool.and_true,true_and,and_true,and_self,imp_self,implies_true,bne_iff_ne,ne_eq,beq_iff_eq];done) | (intros;simp_all;done) | exact True.intro) ?_)
 refine Zs (t:=(cond (a0.Kind == 2) (a0.Code == 7) false)) rfl (fun c4 => ?_) (fun c4 => ?_)
 ·replace h:=Z3 c4 h
  refine Zp [2,3] (Zb Zc [] ?_)
  simp only [push_cast,seval,Za,hN0,hN]
  refine Zu ?_
  try simp only [Zk,Zg]
  have h:=Option.some.inj h;subst h
  refine Zq (.inr rfl) hU [.val (.int .i64 (IntKind.i64.wrap (a0.Count+1))),.val (.bool true)] (by omega) ?_
  simp only [push_cast,seval,Za,Try.results32,hN0,hN]
 replace h:=Z0 c4 h
 refine Zp [1,25] (Zb Zc [none,none,none,none,none,none,none,none,none,none,none,none] ?_)
 simp only [push_cast,seval,Za,hN0,hN]
 repeat (with_reducible refine And.intro (by first | (intro h0;simp only [h0,and_self];done) | (intro h0;simp only [h0,Bool.not_false,Bool.not_true,Bool.true_and,Bool.and_true,true_and,and_true,and_self,imp_self,implies_true,bne_iff_ne,ne_eq,beq_iff_eq];done) | (intros;simp_all;done) | exact True.intro) ?_)
 refine Zs (t:=(cond (cond (cond (cond (a0.Kind == 2) (decide (0≤a0.Code)) false) (decide (a0.Code < 7)) false) (decide (0≤a0.Count)) false) (decide (a0.Count≤536870911)) false)) rfl (fun c3 => ?_) (fun c3 => ?_)
 ·replace h:=Z3 c3 h
  refine Zj ?_
  obtain ⟨y2,hy2,h⟩:=bC h
  refine V6 Zc (by kernel_rfl) [] (by kernel_rfl) ?_
  simp only [push_cast,seval,Za,hN0,hN]
  refine PCall.of (Zzm hy2) ?_
  simp only [push_cast,seval,Za,hN0,hN]
  refine Zl [2,3] [false] ?_
  simp only [push_cast,seval]
  refine Zu ?_
  try simp only [Zk,Zg]
  have h:=Option.some.inj h;subst h
  refine Zq (.inr rfl) hU [.val (.int .i64 (IntKind.i64.wrap (Int.tdiv (IntKind.i64.wrap ((IntKind.i64.wrap (a0.Count * y2))+63)) 64))),.val (.bool true)] (by omega) ?_
  simp only [push_cast,seval,Za,Try.results32,hN0,hN]
 replace h:=Z0 c3 h
 refine Zw ?_
 try simp only [Zk,Zg]
 refine Zl [] [false] ?_
 simp only [push_cast,seval]
 refine Zp [2,3] (Zb Zc [] ?_)
 simp only [push_cast,seval,Za,hN0,hN]
 refine Zu ?_
 try simp only [Zk,Zg]
 have h:=Option.some.inj h;subst h
 refine Zq (.inr rfl) hU [.val (.int .i64 0),.val (.bool false)] (by omega) ?_
 simp only [push_cast,seval,Za,Try.results32,hN0,hN]
theorem Zbi {a0:Int} {a1:Int} {r:Int} {O:Objs} {n:Nat} (h:Ua a0 a1=some r):GTo Try.prog 54 [.val (.int .i64 a0),.val (.int .i64 a1)] O n (.val (.int .i64 r)) O n:=by
 unfold Ua at h
 refine Yj Zc Try.call54 Try.func54 rfl (Nat.le_of_ble_eq_true rfl) (Nat.le_refl _) fun hU => ?_
 have hN0:O n=none:=hU.fresh _ (Nat.le_refl _)
 have hN:∀ k,O (n+k)=none:=fun k=>hU.fresh _ (Nat.le_add_right _ _)
 show W _ _ _ _ ⟨9,[],[(0,.val (.int .i64 a0)),(1,.val (.int .i64 a1))]⟩ (Zy O n []) _
 refine Zp [0,1] (Zb Zc [] ?_)
 simp only [push_cast,seval,Za,hN0,hN]
 refine Zp [4] (Zb Zc [] ?_)
 simp only [push_cast,seval,Za,hN0,hN]
 refine Zu ?_
 try simp only [Zk,Zg]
 have h:=Option.some.inj h;subst h
 refine Zq (.inr rfl) hU [.val (.int .i64 (if a1 < (if a0 < 0 then 0 else a0) then a1 else (if a0 < 0 then 0 else a0)))] (by omega) ?_
 simp only [push_cast,seval,Za,Try.results54,hN0,hN]
theorem Zt1 {a0:Ym} {r:Ym} {O:Objs} {n:Nat} (h:Zdg a0=some r):GTo Try.prog 37 [.agg (Xm a0)] O n (.agg (Xm r)) O n:=by
 unfold Zdg at h
 refine Yj Zc Try.call37 Try.func37 rfl (Nat.le_of_ble_eq_true rfl) (Nat.le_refl _) fun hU => ?_
 have hN0:O n=none:=hU.fresh _ (Nat.le_refl _)
 have hN:∀ k,O (n+k)=none:=fun k=>hU.fresh _ (Nat.le_add_right _ _)
 show W _ _ _ _ ⟨16,[],[(0,.agg (Xm a0))]⟩ (Zy O n []) _
 refine Zp [1,2] (Zb Zc [] ?_)
 simp only [push_cast,seval,Za,hN0,hN]
 refine Zj ?_
 obtain ⟨y5,hy5,h⟩:=bC h
 obtain ⟨y6,hy6,h⟩:=bC h
 obtain ⟨y7,hy7,h⟩:=bC h
 obtain ⟨y8,hy8,h⟩:=bC h
 refine Zl2 Zc (by kernel_rfl) [false,false,false,false,false,false,false,false,false,false,false,false,false,true] [] (by kernel_rfl) ?_
 simp only [push_cast,seval,Za,hN0,hN]
 refine PCall.of (Zbi hy5) ?_
 simp only [push_cast,seval,Za,hN0,hN]
 refine PCall.of (Zbi hy6) ?_
 simp only [push_cast,seval,Za,hN0,hN]
 refine PCall.of (Zbi hy7) ?_
 simp only [push_cast,seval,Za,hN0,hN]
 refine PCall.of (Zbi hy8) ?_
 simp only [push_cast,seval,Za,hN0,hN]
 refine Zl [2] [false,true] ?_
 simp only [push_cast,seval]
 refine Zu ?_
 try simp only [Zk,Zg]
 have h:=Option.some.inj h;subst h
 refine Zq (.inr rfl) hU [.agg [.val (.int .i64 y5),.val (.int .i64 y6),.val (.int .i64 y7),.val (.int .i64 y8)]] (by omega) ?_
 simp only [push_cast,seval,Za,Try.results37,hN0,hN]
theorem Zh7 {a0:(Option Zm)} {a1:Zx} {a2:Int} {a3:Int} {r:(Xb×Int)} {O:Objs} {n:Nat} (h:Gq a0 a1 a2 a3=some r):GTo Try.prog 79 [(gP Zo a0),.agg (Yb a1),.val (.int .i64 a2),.val (.int .i64 a3)] O n (.tup [.agg (Qi r.1),.val (.int .i64 r.2)]) O n:=by
 unfold Gq at h
 refine Yj Zc Try.call79 Try.func79 rfl (Nat.le_of_ble_eq_true rfl) (Nat.le_refl _) fun hU => ?_
 have hN0:O n=none:=hU.fresh _ (Nat.le_refl _)
 have hN:∀ k,O (n+k)=none:=fun k=>hU.fresh _ (Nat.le_add_right _ _)
 show W _ _ _ _ ⟨36,[],[(0,(gP Zo a0)),(1,.agg (Yb a1)),(2,.val (.int .i64 a2)),(3,.val (.int .i64 a3))]⟩ (Zy O n []) _
 refine Zp [0,2,3,5,8] (Zb Zc [] ?_)
 simp only [push_cast,seval,Za,hN0,hN]
 refine Zj ?_
 refine Zp [0,2,3,5,8,14] (Zb Zc [] ?_)
 simp only [push_cast,seval,Za,hN0,hN]
 refine Zs (t:=(a1.Kind == 4)) rfl (fun c7 => ?_) (fun c7 => ?_)
 ·replace h:=Z3 c7 h
  refine Zj ?_
  refine Zb Zc [] ?_
  simp only [push_cast,seval,Za,hN0,hN]
  refine Zl [8,9] [false,true] ?_
  simp only [push_cast,seval]
  refine Zu ?_
  try simp only [Zk,Zg]
  have h:=Option.some.inj h;subst h
  refine Zq (.inr rfl) hU [.agg [.val (.int .i64 0),.val (.int .i64 0),.val (.int .i64 0),.val (.int .i64 0),.val (.int .i64 0),.val (.int .i64 0),.val (.int .i64 0),.val (.bool false),.val (.int .i64 0),.val (.int .i64 0)],.val (.int .i64 9)] (by omega) ?_
  simp only [push_cast,seval,Za,Try.results79,hN0,hN]
 replace h:=Z0 c7 h
 refine Zw ?_
 try simp only [Zk,Zg]
 refine Zl [0,2,3,5,8] [true,true] ?_
 simp only [push_cast,seval]
 refine Zj ?_
 obtain ⟨y2,hy2,h⟩:=bC h
 refine Zb Zc [] ?_
 simp only [push_cast,seval,Za,hN0,hN]
 refine (Zi8 hy2).then ?_
 simp only [push_cast,seval,Za,hN0,hN]
 refine Zl [0,2,3,5,8,10,11] [true,true] ?_
 simp only [push_cast,seval]
 refine Zj ?_
 refine Zp [0,2,3,5,8,10,22] (Zb Zc [] ?_)
 simp only [push_cast,seval,Za,hN0,hN]
 refine Zs (t:=(!y2.2)) rfl (fun c6 => ?_) (fun c6 => ?_)
 ·replace h:=Z3 c6 h
  refine Zj ?_
  refine Zb Zc [] ?_
  simp only [push_cast,seval,Za,hN0,hN]
  refine Zl [8,9] [false,true] ?_
  simp only [push_cast,seval]
  refine Zu ?_
  try simp only [Zk,Zg]
  have h:=Option.some.inj h;subst h
  refine Zq (.inr rfl) hU [.agg [.val (.int .i64 0),.val (.int .i64 0),.val (.int .i64 0),.val (.int .i64 0),.val (.int .i64 0),.val (.int .i64 0),.val (.int .i64 0),.val (.bool false),.val (.int .i64 0),.val (.int .i64 0)],.val (.int .i64 8)] (by omega) ?_
  simp only [push_cast,seval,Za,Try.results79,hN0,hN]
 replace h:=Z0 c6 h
 refine Zw ?_
 try simp only [Zk,Zg]
 refine Zl [0,2,3,5,8,10] [true,true] ?_
 simp only [push_cast,seval]
 refine Zj ?_
 refine Zj ?_
 obtain ⟨y4,hy4,h⟩:=bC h
 refine Zb Zc [] ?_
 simp only [push_cast,seval,Za,hN0,hN]
 refine (V0 hy4).then ?_
 simp only [push_cast,seval,Za,hN0,hN]
 refine Zl [2,3,5,8,29] [true,true] ?_
 simp only [push_cast,seval]
 refine Zs (t:=(!y4)) rfl (fun c5 => ?_) (fun c5 => ?_)
 ·replace h:=Z3 c5 h
  refine Zj ?_
  refine Zb Zc [] ?_
  simp only [push_cast,seval,Za,hN0,hN]
  refine Zl [8,9] [false,true] ?_
  simp only [push_cast,seval]
  refine Zu ?_
  try simp only [Zk,Zg]
  have h:=Option.some.inj h;subst h
  refine Zq (.inr rfl) hU [.agg [.val (.int .i64 0),.val (.int .i64 0),.val (.int .i64 0),.val (.int .i64 0),.val (.int .i64 0),.val (.int .i64 0),.val (.int .i64 0),.val (.bool false),.val (.int .i64 0),.val (.int .i64 0)],.val (.int .i64 7)] (by omega) ?_
  simp only [push_cast,seval,Za,Try.results79,hN0,hN]
 replace h:=Z0 c5 h
 refine Zw ?_
 try simp only [Zk,Zg]
 refine Zl [2,3,5,8] [true,true] ?_
 simp only [push_cast,seval]
 refine Zj ?_
 refine Zb Zc [] ?_
 simp only [push_cast,seval,Za,hN0,hN]
 refine Zl [2,3,5,8] [true,true] ?_
 simp only [push_cast,seval]
 refine Zj ?_
 refine Zb Zc [] ?_
 simp only [push_cast,seval,Za,hN0,hN]
 refine Zl [8,9] [false,true] ?_
 simp only [push_cast,seval]
 refine Zu ?_
 try simp only [Zk,Zg]
 have h:=Option.some.inj h;subst h
 refine Zq (.inr rfl) hU [.agg [.val (.int .i64 a1.Kind),.val (.int .i64 0),.val (.int .i64 a1.Data),.val (.int .i64 a1.Ptrs),.val (.int .i64 a1.Code),.val (.int .i64 a1.Count),.val (.int .i64 a1.Segment),.val (.bool a1.Double),.val (.int .i64 a2),.val (.int .i64 a3)],.val (.int .i64 0)] (by omega) ?_
 simp only [push_cast,seval,Za,Try.results79,hN0,hN]
theorem Zwe {a0:(Option Zm)} {a1:Int} {a2:Int} {r:(Xb×Int)} {O:Objs} {n:Nat} (h:Zdc a0 a1 a2=some r):GTo Try.prog 77 [(gP Zo a0),.val (.int .i64 a1),.val (.int .i64 a2)] O n (.tup [.agg (Qi r.1),.val (.int .i64 r.2)]) O n:=by
 unfold Zdc at h
 refine Yj Zc Try.call77 Try.func77 rfl (Nat.le_of_ble_eq_true rfl) (Nat.le_refl _) fun hU => ?_
 have hN0:O n=none:=hU.fresh _ (Nat.le_refl _)
 have hN:∀ k,O (n+k)=none:=fun k=>hU.fresh _ (Nat.le_add_right _ _)
 show W _ _ _ _ ⟨56,[],[(0,(gP Zo a0)),(1,.val (.int .i64 a1)),(2,.val (.int .i64 a2))]⟩ (Zy O n []) _
 refine Zp [0,1,2,6] (Zb Zc [] ?_)
 simp only [push_cast,seval,Za,hN0,hN]
 refine Zj ?_
 obtain ⟨y2,hy2,h⟩:=bC h
 refine Zb Zc [] ?_
 simp only [push_cast,seval,Za,hN0,hN]
 refine (Zoy hy2).then ?_
 simp only [push_cast,seval,Za,hN0,hN]
 refine Zl [0,6,8,9] [true] ?_
 simp only [push_cast,seval]
 refine Zj ?_
 refine Zp [0,6,8,20] (Zb Zc [] ?_)
 simp only [push_cast,seval,Za,hN0,hN]
 refine Zs (t:=(!y2.2)) rfl (fun c11 => ?_) (fun c11 => ?_)
 ·replace h:=Z3 c11 h
  refine Zj ?_
  refine Zb Zc [] ?_
  simp only [push_cast,seval,Za,hN0,hN]
  refine Zl [6,7] [true] ?_
  simp only [push_cast,seval]
  refine Zu ?_
  try simp only [Zk,Zg]
  have h:=Option.some.inj h;subst h
  refine Zq (.inr rfl) hU [.agg [.val (.int .i64 0),.val (.int .i64 0),.val (.int .i64 0),.val (.int .i64 0),.val (.int .i64 0),.val (.int .i64 0),.val (.int .i64 0),.val (.bool false),.val (.int .i64 0),.val (.int .i64 0)],.val (.int .i64 7)] (by omega) ?_
  simp only [push_cast,seval,Za,Try.results77,hN0,hN]
 replace h:=Z0 c11 h
 refine Zw ?_
 try simp only [Zk,Zg]
 refine Zl [0,6,8] [true] ?_
 simp only [push_cast,seval]
 obtain ⟨x3,hx3,ax3,bx3,cx3,h⟩:=bE (f:=(eI .u64)) Zap (fun _=>rfl) (by decide) h
 obtain ⟨y4,hy4,h⟩:=bC h
 obtain ⟨x5,hx5,ax5,bx5,cx5,h⟩:=bE (f:=(eI .u64)) Zap (fun _=>rfl) (by decide) h
 obtain ⟨y6,hy6,h⟩:=bC h
 refine Xk (E':=⟨56,[],[(0,(gP Zo a0)),(6,.ref n 0),(10,.ref (n+1) 0),(11,.ref (n+2) 0)]⟩) (O':=(Zy O n [some ⟨false,96,10,1,[.val (.int .i64 0),.val (.int .i64 0),.val (.int .i64 0),.val (.int .i64 0),.val (.int .i64 0),.val (.int .i64 0),.val (.int .i64 0),.val (.bool false),.val (.int .i64 0),.val (.int .i64 0)]⟩,some ⟨false,69,8,1,(Yb y4)⟩,some ⟨false,69,8,1,(Yb y6)⟩])) (n0:=(n+3)) ?_ ?_
 ·refine Z9d Zc (by kernel_rfl) [.low,.low,.low,.low,.low,.low,.low,.low,.pass,.pass,.pass,.pass] (fun i=>i < (n+1)) 8 9 [0,1,2,3,4,5,6,7] [10,11] [.low,.low,.low,.low,.low,.low,.low,.low] [.pass,.pass,.pass,.pass] [.pass,.pass,.pass,.pass] [] (by kernel_rfl) rfl rfl rfl ?_
  simp only [push_cast,Nat.reduceAdd,Nat.reduceSub,Nat.reduceMul,Nat.reduceLeDiff,Nat.reduceLT,Nat.reduceEqDiff,↓reduceIte,reduceCtorEq,Int.reduceBEq,Int.reduceBNe,Nat.reduceBEq,Int.reduceLE,Int.reduceLT,Int.reduceEq,Int.reduceNe,Int.reduceNeg,Nat.reduceDiv,Nat.reduceMod,Nat.reducePow,Za,ax3,bx3,cx3,ax5,bx5,cx5,hN0,hN]
  repeat (with_reducible refine And.intro (by omega) ?_)
  first | refine PCallA.of (fun _ _=>Vg hy4) ?_ | refine PCall.of (Vg hy4) ?_
  simp only [push_cast,Nat.reduceAdd,Nat.reduceSub,Nat.reduceMul,Nat.reduceLeDiff,Nat.reduceLT,Nat.reduceEqDiff,↓reduceIte,reduceCtorEq,Int.reduceBEq,Int.reduceBNe,Nat.reduceBEq,Int.reduceLE,Int.reduceLT,Int.reduceEq,Int.reduceNe,Int.reduceNeg,Nat.reduceDiv,Nat.reduceMod,Nat.reducePow,Za,ax3,bx3,cx3,ax5,bx5,cx5,hN0,hN]
  repeat (with_reducible refine And.intro (by omega) ?_)
  first | refine PCallA.of (fun _ _=>Vg hy6) ?_ | refine PCall.of (Vg hy6) ?_
  simp only [push_cast,Nat.reduceAdd,Nat.reduceSub,Nat.reduceMul,Nat.reduceLeDiff,Nat.reduceLT,Nat.reduceEqDiff,↓reduceIte,reduceCtorEq,Int.reduceBEq,Int.reduceBNe,Nat.reduceBEq,Int.reduceLE,Int.reduceLT,Int.reduceEq,Int.reduceNe,Int.reduceNeg,Nat.reduceDiv,Nat.reduceMod,Nat.reducePow,Za,ax3,bx3,cx3,ax5,bx5,cx5,hN0,hN]
  repeat (with_reducible refine And.intro (by omega) ?_)
  refine And.intro ?_ ?_
  ·simp only [push_cast,Nat.reduceAdd,Nat.reduceSub,Nat.reduceMul,Nat.reduceLeDiff,Nat.reduceLT,Nat.reduceEqDiff,↓reduceIte,reduceCtorEq,Int.reduceBEq,Int.reduceBNe,Nat.reduceBEq,Int.reduceLE,Int.reduceLT,Int.reduceEq,Int.reduceNe,Int.reduceNeg,Nat.reduceDiv,Nat.reduceMod,Nat.reducePow,Za,ax3,bx3,cx3,ax5,bx5,cx5,hN0,hN]
   repeat (with_reducible refine And.intro (by first | exact U4 rfl | exact Vq) ?_)
   refine And.intro rfl (Fit2.of (Zr hU rfl rfl ?_) (by omega))
   simp only [push_cast,Nat.reduceAdd,Nat.reduceSub,Nat.reduceMul,Nat.reduceLeDiff,Nat.reduceLT,Nat.reduceEqDiff,↓reduceIte,reduceCtorEq,Int.reduceBEq,Int.reduceBNe,Nat.reduceBEq,Int.reduceLE,Int.reduceLT,Int.reduceEq,Int.reduceNe,Int.reduceNeg,Nat.reduceDiv,Nat.reduceMod,Nat.reducePow,Za,ax3,bx3,cx3,ax5,bx5,cx5,hN0,hN]
  simp only [push_cast,Nat.reduceAdd,Nat.reduceSub,Nat.reduceMul,Nat.reduceLeDiff,Nat.reduceLT,Nat.reduceEqDiff,↓reduceIte,reduceCtorEq,Int.reduceBEq,Int.reduceBNe,Nat.reduceBEq,Int.reduceLE,Int.reduceLT,Int.reduceEq,Int.reduceNe,Int.reduceNeg,Nat.reduceDiv,Nat.reduceMod,Nat.reducePow,Za,ax3,bx3,cx3,ax5,bx5,cx5,hN0,hN]
  repeat (with_reducible refine And.intro (by first | exact U4 rfl | exact Vq) ?_)
  refine And.intro rfl ?_
  refine Fit2.trans (E':=(⟨56,[],[(0,(gP Zo a0)),(6,.ref n 0),(10,.ref (n+2) 0),(11,.ref (n+1) 0)]⟩:Env)) (O':=(Zy O n [some ⟨false,96,10,1,[.val (.int .i64 0),.val (.int .i64 0),.val (.int .i64 0),.val (.int .i64 0),.val (.int .i64 0),.val (.int .i64 0),.val (.int .i64 0),.val (.bool false),.val (.int .i64 0),.val (.int .i64 0)]⟩,some ⟨false,69,8,1,(Yb y6)⟩,some ⟨false,69,8,1,(Yb y4)⟩])) (n':=(n+3)) (Fit2.of (Zr hU rfl rfl ?_) (by omega)) ?_
  ·simp only [push_cast,Nat.reduceAdd,Nat.reduceSub,Nat.reduceMul,Nat.reduceLeDiff,Nat.reduceLT,Nat.reduceEqDiff,↓reduceIte,reduceCtorEq,Int.reduceBEq,Int.reduceBNe,Nat.reduceBEq,Int.reduceLE,Int.reduceLT,Int.reduceEq,Int.reduceNe,Int.reduceNeg,Nat.reduceDiv,Nat.reduceMod,Nat.reducePow,Za,ax3,bx3,cx3,ax5,bx5,cx5,hN0,hN]
  refine Zku (k:=3) (k':=3) hU [0,2,1] [0,2,1] rfl rfl rfl rfl ⟨rfl,rfl⟩ ?_
  simp only [push_cast,seval,Za,hN0,hN]
 refine Zj ?_
 refine Zp [0,6,10,11,36] (Zb Zc [none,none] ?_)
 simp only [push_cast,seval,Za,hN0,hN]
 repeat (with_reducible refine And.intro (by first | (intro h0;simp only [h0,and_self];done) | (intro h0;simp only [h0,Bool.not_false,Bool.not_true,Bool.true_and,Bool.and_true,true_and,and_true,and_self,imp_self,implies_true,bne_iff_ne,ne_eq,beq_iff_eq];done) | (intros;simp_all;done) | exact True.intro) ?_)
 refine Zs (t:=(cond (y4.Kind != 3) true y4.Double)) rfl (fun c10 => ?_) (fun c10 => ?_)
 ·replace h:=Z3 c10 h
  refine Zj ?_
  refine Zb Zc [] ?_
  simp only [push_cast,seval,Za,hN0,hN]
  refine Zl [6,7] [true,false,false] ?_
  simp only [push_cast,seval]
  refine Zu ?_
  try simp only [Zk,Zg]
  have h:=Option.some.inj h;subst h
  refine Zq (.inr rfl) hU [.agg [.val (.int .i64 0),.val (.int .i64 0),.val (.int .i64 0),.val (.int .i64 0),.val (.int .i64 0),.val (.int .i64 0),.val (.int .i64 0),.val (.bool false),.val (.int .i64 0),.val (.int .i64 0)],.val (.int .i64 8)] (by omega) ?_
  simp only [push_cast,seval,Za,Try.results77,hN0,hN]
 replace h:=Z0 c10 h
 refine Zw ?_
 try simp only [Zk,Zg]
 refine Zl [0,6,10,11] [true,true,true] ?_
 simp only [push_cast,seval]
 refine Zj ?_
 refine Zp [0,6,10,11,45] (Zb Zc [none,none,none] ?_)
 simp only [push_cast,seval,Za,hN0,hN]
 repeat (with_reducible refine And.intro (by first | (intro h0;simp only [h0,and_self];done) | (intro h0;simp only [h0,Bool.not_false,Bool.not_true,Bool.true_and,Bool.and_true,true_and,and_true,and_self,imp_self,implies_true,bne_iff_ne,ne_eq,beq_iff_eq];done) | (intros;simp_all;done) | exact True.intro) ?_)
 refine Zs (t:=(cond (y6.Kind != 4) (y6.Off != 0) false)) rfl (fun c9 => ?_) (fun c9 => ?_)
 ·replace h:=Z3 c9 h
  refine Zj ?_
  refine Zb Zc [] ?_
  simp only [push_cast,seval,Za,hN0,hN]
  refine Zl [6,7] [true,false,false] ?_
  simp only [push_cast,seval]
  refine Zu ?_
  try simp only [Zk,Zg]
  have h:=Option.some.inj h;subst h
  refine Zq (.inr rfl) hU [.agg [.val (.int .i64 0),.val (.int .i64 0),.val (.int .i64 0),.val (.int .i64 0),.val (.int .i64 0),.val (.int .i64 0),.val (.int .i64 0),.val (.bool false),.val (.int .i64 0),.val (.int .i64 0)],.val (.int .i64 8)] (by omega) ?_
  simp only [push_cast,seval,Za,Try.results77,hN0,hN]
 replace h:=Z0 c9 h
 refine Zw ?_
 try simp only [Zk,Zg]
 refine Zl [0,6,10,11] [true,true,true] ?_
 simp only [push_cast,seval]
 refine Zj ?_
 obtain ⟨y8,hy8,h⟩:=bC h
 refine Zb Zc [] ?_
 simp only [push_cast,seval,Za,hN0,hN]
 refine (Zh7 hy8).then ?_
 simp only [push_cast,seval,Za,hN0,hN]
 refine Zl [6,7] [true,false,false] ?_
 simp only [push_cast,seval]
 refine Zu ?_
 try simp only [Zk,Zg]
 have h:=Option.some.inj h;subst h
 refine Zq (.inr rfl) hU [.agg (Qi y8.1),.val (.int .i64 y8.2)] (by omega) ?_
 simp only [push_cast,seval,Za,Try.results77,hN0,hN]
theorem Zwf {a0:(Option Zm)} {a1:Int} {a2:Int} {r:(Xb×Int)} {O:Objs} {n:Nat} (h:Zdd a0 a1 a2=some r):GTo Try.prog 78 [(gP Zo a0),.val (.int .i64 a1),.val (.int .i64 a2)] O n (.tup [.agg (Qi r.1),.val (.int .i64 r.2)]) O n:=by
 unfold Zdd at h
 refine Yj Zc Try.call78 Try.func78 rfl (Nat.le_of_ble_eq_true rfl) (Nat.le_refl _) fun hU => ?_
 have hN0:O n=none:=hU.fresh _ (Nat.le_refl _)
 have hN:∀ k,O (n+k)=none:=fun k=>hU.fresh _ (Nat.le_add_right _ _)
 show W _ _ _ _ ⟨34,[],[(0,(gP Zo a0)),(1,.val (.int .i64 a1)),(2,.val (.int .i64 a2))]⟩ (Zy O n []) _
 refine Zp [0,1,2,6] (Zb Zc [] ?_)
 simp only [push_cast,seval,Za,hN0,hN]
 refine Zj ?_
 obtain ⟨y2,hy2,h⟩:=bC h
 refine Zb Zc [] ?_
 simp only [push_cast,seval,Za,hN0,hN]
 refine (Vz hy2).then ?_
 simp only [push_cast,seval,Za,hN0,hN]
 refine Zl [0,1,2,6,8,9] [true] ?_
 simp only [push_cast,seval]
 refine Zj ?_
 refine Zp [0,1,2,6,8,19] (Zb Zc [] ?_)
 simp only [push_cast,seval,Za,hN0,hN]
 refine Zs (t:=(!y2.2)) rfl (fun c7 => ?_) (fun c7 => ?_)
 ·replace h:=Z3 c7 h
  refine Zj ?_
  refine Zb Zc [] ?_
  simp only [push_cast,seval,Za,hN0,hN]
  refine Zl [6,7] [true] ?_
  simp only [push_cast,seval]
  refine Zu ?_
  try simp only [Zk,Zg]
  have h:=Option.some.inj h;subst h
  refine Zq (.inr rfl) hU [.agg [.val (.int .i64 0),.val (.int .i64 0),.val (.int .i64 0),.val (.int .i64 0),.val (.int .i64 0),.val (.int .i64 0),.val (.int .i64 0),.val (.bool false),.val (.int .i64 0),.val (.int .i64 0)],.val (.int .i64 7)] (by omega) ?_
  simp only [push_cast,seval,Za,Try.results78,hN0,hN]
 replace h:=Z0 c7 h
 refine Zw ?_
 try simp only [Zk,Zg]
 refine Zl [0,1,2,6,8] [true] ?_
 simp only [push_cast,seval]
 refine Zj ?_
 obtain ⟨y4,hy4,h⟩:=bC h
 refine Zb Zc [] ?_
 simp only [push_cast,seval,Za,hN0,hN]
 refine (Vg hy4).then ?_
 simp only [push_cast,seval,Za,hN0,hN]
 refine Zl [0,1,2,6,10] [true,true] ?_
 simp only [push_cast,seval]
 refine Zj ?_
 obtain ⟨y6,hy6,h⟩:=bC h
 refine Zb Zc [] ?_
 simp only [push_cast,seval,Za,hN0,hN]
 refine (Zh7 hy6).then ?_
 simp only [push_cast,seval,Za,hN0,hN]
 refine Zl [6,7] [true,false] ?_
 simp only [push_cast,seval]
 refine Zu ?_
 try simp only [Zk,Zg]
 have h:=Option.some.inj h;subst h
 refine Zq (.inr rfl) hU [.agg (Qi y6.1),.val (.int .i64 y6.2)] (by omega) ?_
 simp only [push_cast,seval,Za,Try.results78,hN0,hN]
theorem Zwd {a0:(Option Zm)} {a1:Int} {a2:Int} {r:(Xb×Int)} {O:Objs} {n:Nat} (h:Zdb a0 a1 a2=some r):GTo Try.prog 60 [(gP Zo a0),.val (.int .i64 a1),.val (.int .i64 a2)] O n (.tup [.agg (Qi r.1),.val (.int .i64 r.2)]) O n:=by
 unfold Zdb at h
 refine Yj Zc Try.call60 Try.func60 rfl (Nat.le_of_ble_eq_true rfl) (Nat.le_refl _) fun hU => ?_
 have hN0:O n=none:=hU.fresh _ (Nat.le_refl _)
 have hN:∀ k,O (n+k)=none:=fun k=>hU.fresh _ (Nat.le_add_right _ _)
 show W _ _ _ _ ⟨67,[],[(0,(gP Zo a0)),(1,.val (.int .i64 a1)),(2,.val (.int .i64 a2))]⟩ (Zy O n []) _
 refine Zp [0,1,2,6] (Zb Zc [] ?_)
 simp only [push_cast,seval,Za,hN0,hN]
 refine Zj ?_
 obtain ⟨y2,hy2,h⟩:=bC h
 refine Zb Zc [] ?_
 simp only [push_cast,seval,Za,hN0,hN]
 refine (Vz hy2).then ?_
 simp only [push_cast,seval,Za,hN0,hN]
 refine Zl [0,1,2,6,8,9] [true] ?_
 simp only [push_cast,seval]
 refine Zj ?_
 refine Zp [0,1,2,6,8,19] (Zb Zc [] ?_)
 simp only [push_cast,seval,Za,hN0,hN]
 refine Zs (t:=(!y2.2)) rfl (fun c14 => ?_) (fun c14 => ?_)
 ·replace h:=Z3 c14 h
  refine Zj ?_
  refine Zb Zc [] ?_
  simp only [push_cast,seval,Za,hN0,hN]
  refine Zl [6,7] [true] ?_
  simp only [push_cast,seval]
  refine Zu ?_
  try simp only [Zk,Zg]
  have h:=Option.some.inj h;subst h
  refine Zq (.inr rfl) hU [.agg [.val (.int .i64 0),.val (.int .i64 0),.val (.int .i64 0),.val (.int .i64 0),.val (.int .i64 0),.val (.int .i64 0),.val (.int .i64 0),.val (.bool false),.val (.int .i64 0),.val (.int .i64 0)],.val (.int .i64 7)] (by omega) ?_
  simp only [push_cast,seval,Za,Try.results60,hN0,hN]
 replace h:=Z0 c14 h
 refine Zw ?_
 try simp only [Zk,Zg]
 refine Zl [0,1,2,6,8] [true] ?_
 simp only [push_cast,seval]
 refine Zj ?_
 obtain ⟨y4,hy4,h⟩:=bC h
 refine Zb Zc [] ?_
 simp only [push_cast,seval,Za,hN0,hN]
 refine (Vg hy4).then ?_
 simp only [push_cast,seval,Za,hN0,hN]
 refine Zl [0,1,2,6,10] [true,true] ?_
 simp only [push_cast,seval]
 refine Zj ?_
 refine Yn ?_
 refine Zp [0,1,2,6,10,23] (Zb Zc [] ?_)
 simp only [push_cast,seval,Za,hN0,hN]
 refine Zs (t:=(y4.Kind == 0)) rfl (fun c13 => ?_) (fun c13 => ?_)
 ·replace h:=Z3 c13 h
  refine Zj ?_
  refine Zb Zc [] ?_
  simp only [push_cast,seval,Za,hN0,hN]
  refine Zl [6,7] [true,false] ?_
  simp only [push_cast,seval]
  refine Zu ?_
  try simp only [Zk,Zg]
  have h:=Option.some.inj h;subst h
  refine Zq (.inr rfl) hU [.agg [.val (.int .i64 0),.val (.int .i64 0),.val (.int .i64 0),.val (.int .i64 0),.val (.int .i64 0),.val (.int .i64 0),.val (.int .i64 0),.val (.bool false),.val (.int .i64 0),.val (.int .i64 0)],.val (.int .i64 0)] (by omega) ?_
  simp only [push_cast,seval,Za,Try.results60,hN0,hN]
 replace h:=Z0 c13 h
 refine Zp [0,1,2,6,10,28] (Zb Zc [none,none] ?_)
 simp only [push_cast,seval,Za,hN0,hN]
 repeat (with_reducible refine And.intro (by first | (intro h0;simp only [h0,and_self];done) | (intro h0;simp only [h0,Bool.not_false,Bool.not_true,Bool.true_and,Bool.and_true,true_and,and_true,and_self,imp_self,implies_true,bne_iff_ne,ne_eq,beq_iff_eq];done) | (intros;simp_all;done) | exact True.intro) ?_)
 refine Zs (t:=(cond (y4.Kind == 3) y4.Double false)) rfl (fun c12 => ?_) (fun c12 => ?_)
 ·replace h:=Z3 c12 h
  refine Zj ?_
  obtain ⟨y6,hy6,h⟩:=bC h
  refine Zb Zc [] ?_
  simp only [push_cast,seval,Za,hN0,hN]
  refine (Zwe hy6).then ?_
  simp only [push_cast,seval,Za,hN0,hN]
  refine Zl [6,7] [true,false] ?_
  simp only [push_cast,seval]
  refine Zu ?_
  try simp only [Zk,Zg]
  have h:=Option.some.inj h;subst h
  refine Zq (.inr rfl) hU [.agg (Qi y6.1),.val (.int .i64 y6.2)] (by omega) ?_
  simp only [push_cast,seval,Za,Try.results60,hN0,hN]
 replace h:=Z0 c12 h
 refine Zp [0,1,2,6,10,44] (Zb Zc [] ?_)
 simp only [push_cast,seval,Za,hN0,hN]
 refine Zs (t:=(y4.Kind == 3)) rfl (fun c11 => ?_) (fun c11 => ?_)
 ·replace h:=Z3 c11 h
  refine Zj ?_
  obtain ⟨y8,hy8,h⟩:=bC h
  refine Zb Zc [] ?_
  simp only [push_cast,seval,Za,hN0,hN]
  refine (Zwf hy8).then ?_
  simp only [push_cast,seval,Za,hN0,hN]
  refine Zl [6,7] [true,false] ?_
  simp only [push_cast,seval]
  refine Zu ?_
  try simp only [Zk,Zg]
  have h:=Option.some.inj h;subst h
  refine Zq (.inr rfl) hU [.agg (Qi y8.1),.val (.int .i64 y8.2)] (by omega) ?_
  simp only [push_cast,seval,Za,Try.results60,hN0,hN]
 replace h:=Z0 c11 h
 refine Zw ?_
 try simp only [Zk,Zg]
 refine Zl [0,1,2,6,10] [true,true] ?_
 simp only [push_cast,seval]
 refine Zj ?_
 obtain ⟨y10,hy10,h⟩:=bC h
 refine Zb Zc [] ?_
 simp only [push_cast,seval,Za,hN0,hN]
 refine (Zh7 hy10).then ?_
 simp only [push_cast,seval,Za,hN0,hN]
 refine Zl [6,7] [true,false] ?_
 simp only [push_cast,seval]
 refine Zu ?_
 try simp only [Zk,Zg]
 have h:=Option.some.inj h;subst h
 refine Zq (.inr rfl) hU [.agg (Qi y10.1),.val (.int .i64 y10.2)] (by omega) ?_
 simp only [push_cast,seval,Za,Try.results60,hN0,hN]
theorem Zo1 {a0:Ze} {r:(Ze×Int)} {O:Objs} {n:Nat} (h:Gs a0=some r):GTo Try.prog 61 [.agg (Zn a0)] O n (.tup [.agg (Zn r.1),.val (.int .i64 r.2)]) O n:=by
 unfold Gs at h
 refine Yj Zc Try.call61 Try.func61 rfl (Nat.le_of_ble_eq_true rfl) (Nat.le_refl _) fun hU => ?_
 have hN0:O n=none:=hU.fresh _ (Nat.le_refl _)
 have hN:∀ k,O (n+k)=none:=fun k=>hU.fresh _ (Nat.le_add_right _ _)
 show W _ _ _ _ ⟨56,[],[(0,.agg (Zn a0))]⟩ (Zy O n []) _
 refine Zp [1,2] (Zb Zc [] ?_)
 simp only [push_cast,seval,Za,hN0,hN]
 refine Zj ?_
 obtain ⟨y2,hy2,h⟩:=bC h
 refine Zb Zc [] ?_
 simp only [push_cast,seval,Za,hN0,hN]
 refine (Vz hy2).then ?_
 simp only [push_cast,seval,Za,hN0,hN]
 refine Zl [1,2,4] [true,true] ?_
 simp only [push_cast,seval]
 refine Zj ?_
 obtain ⟨y4,hy4,h⟩:=bC h
 refine Zb Zc [] ?_
 simp only [push_cast,seval,Za,hN0,hN]
 refine (Vg hy4).then ?_
 simp only [push_cast,seval,Za,hN0,hN]
 refine Zl [1,2,6] [true,true,true] ?_
 simp only [push_cast,seval]
 refine Zj ?_
 refine Zp [1,2,6,44] (Zb Zc [none,none,none,none,none,none,none,none,none,none,none,none,none,none,none,none,none] ?_)
 simp only [push_cast,seval,Za,hN0,hN]
 repeat (with_reducible refine And.intro (by first | (intro h0;simp only [h0,and_self];done) | (intro h0;simp only [h0,Bool.not_false,Bool.not_true,Bool.true_and,Bool.and_true,true_and,and_true,and_self,imp_self,implies_true,bne_iff_ne,ne_eq,beq_iff_eq];done) | (intros;simp_all;done) | exact True.intro) ?_)
 refine Zs (t:=(cond (cond (cond (y4.Kind != 0) (y4.Kind != 1) false) true (decide (y4.Off < 0))) true (decide (a0.count < (IntKind.i64.wrap (y4.Off * (IntKind.i64.wrap (y4.Data+y4.Ptrs)))))))) rfl (fun c5 => ?_) (fun c5 => ?_)
 ·replace h:=Z3 c5 h
  refine Zj ?_
  refine Zb Zc [] ?_
  simp only [push_cast,seval,Za,hN0,hN]
  refine Zl [2,3] [false,true,false] ?_
  simp only [push_cast,seval]
  refine Zu ?_
  try simp only [Zk,Zg]
  have h:=Option.some.inj h;subst h
  refine Zq (.inr rfl) hU [.agg [.val (.pointer none),.val (.int .i64 0),.val (.int .i64 0),.val (.int .i64 0),.val (.int .i64 0),.val (.int .i64 0),.val (.int .i64 0),.val (.int .i64 0),.val (.int .i64 0)],.val (.int .i64 8)] (by omega) ?_
  simp only [push_cast,seval,Za,Try.results61,hN0,hN]
 replace h:=Z0 c5 h
 refine Zw ?_
 try simp only [Zk,Zg]
 refine Zl [1,2,6] [true,true,true] ?_
 simp only [push_cast,seval]
 refine Zj ?_
 refine U0 Zc (by kernel_rfl) [.plain,.plain,.low,.low,.low,.low,.plain,.pass,.plain,.pass,.plain,.bar] (fun i=>i≠n+0) [0,1,2,3,4,5,6,7,8,9,10,11] [.plain,.plain,.low,.low,.low,.low,.plain,.pass,.plain,.pass,.plain,.bar] [] (by kernel_rfl) rfl ?_
 simp only [push_cast,seval,Za,hN0,hN]
 repeat (with_reducible refine And.intro (by first | omega | exact U4 rfl | exact Vq | exact Zbb rfl | exact Zbr rfl rfl | exact Uq rfl | exact Ud rfl) ?_)
 refine Zl [1,2] [true,true,false] ?_
 simp only [push_cast,seval]
 refine Zj ?_
 refine Zb Zc [] ?_
 simp only [push_cast,seval,Za,hN0,hN]
 refine Zl [2,3] [false,true,false] ?_
 simp only [push_cast,seval]
 refine Zu ?_
 try simp only [Zk,Zg]
 have h:=Option.some.inj h;subst h
 refine Zq (.inr rfl) hU [.agg [(gP Zo a0.a),.val (.int .i64 a0.kind),.val (.int .i64 a0.segment),.val (.int .i64 a0.at_),.val (.int .i64 y4.Data),.val (.int .i64 y4.Ptrs),.val (.int .i64 y4.Off),.val (.int .i64 a0.code),.val (.int .i64 a0.index)],.val (.int .i64 0)] (by omega) ?_
 simp only [push_cast,seval,Za,Try.results61,hN0,hN]
theorem Zkm {a0:(Option Zm)} {a1:Int} {a2:Int} {r:(Ze×Int)} {O:Objs} {n:Nat} (h:Za2 a0 a1 a2=some r):GTo Try.prog 39 [(gP Zo a0),.val (.int .i64 a1),.val (.int .i64 a2)] O n (.tup [.agg (Zn r.1),.val (.int .i64 r.2)]) O n:=by
 unfold Za2 at h
 refine Yj Zc Try.call39 Try.func39 rfl (Nat.le_of_ble_eq_true rfl) (Nat.le_refl _) fun hU => ?_
 have hN0:O n=none:=hU.fresh _ (Nat.le_refl _)
 have hN:∀ k,O (n+k)=none:=fun k=>hU.fresh _ (Nat.le_add_right _ _)
 show W _ _ _ _ ⟨66,[],[(0,(gP Zo a0)),(1,.val (.int .i64 a1)),(2,.val (.int .i64 a2))]⟩ (Zy O n []) _
 refine Zp [0,1,2,6] (Zb Zc [] ?_)
 simp only [push_cast,seval,Za,hN0,hN]
 refine Zj ?_
 obtain ⟨y2,hy2,h⟩:=bC h
 refine Zb Zc [] ?_
 simp only [push_cast,seval,Za,hN0,hN]
 refine (Zwd hy2).then ?_
 simp only [push_cast,seval,Za,hN0,hN]
 refine Zl [0,6,8,9] [true,true] ?_
 simp only [push_cast,seval]
 refine Zj ?_
 refine Zp [0,6,8,9,25] (Zb Zc [none,none,none,none] ?_)
 simp only [push_cast,seval,Za,hN0,hN]
 repeat (with_reducible refine And.intro (by first | (intro h0;simp only [h0,and_self];done) | (intro h0;simp only [h0,Bool.not_false,Bool.not_true,Bool.true_and,Bool.and_true,true_and,and_true,and_self,imp_self,implies_true,bne_iff_ne,ne_eq,beq_iff_eq];done) | (intros;simp_all;done) | exact True.intro) ?_)
 refine Zs (t:=(cond (y2.2 != 0) true (y2.1.P.Kind == 0))) rfl (fun c7 => ?_) (fun c7 => ?_)
 ·replace h:=Z3 c7 h
  refine Zj ?_
  refine Zb Zc [] ?_
  simp only [push_cast,seval,Za,hN0,hN]
  refine Zl [6,7] [true,false] ?_
  simp only [push_cast,seval]
  refine Zu ?_
  try simp only [Zk,Zg]
  have h:=Option.some.inj h;subst h
  refine Zq (.inr rfl) hU [.agg [.val (.pointer none),.val (.int .i64 0),.val (.int .i64 0),.val (.int .i64 0),.val (.int .i64 0),.val (.int .i64 0),.val (.int .i64 0),.val (.int .i64 0),.val (.int .i64 0)],.val (.int .i64 y2.2)] (by omega) ?_
  simp only [push_cast,seval,Za,Try.results39,hN0,hN]
 replace h:=Z0 c7 h
 refine Zw ?_
 try simp only [Zk,Zg]
 refine Zl [0,6,8] [true,true] ?_
 simp only [push_cast,seval]
 refine Zj ?_
 refine Zb Zc [] ?_
 simp only [push_cast,seval,Za,hN0,hN]
 refine Zl [6,8,10] [true,true,true] ?_
 simp only [push_cast,seval]
 refine Zj ?_
 refine Zp [6,8,10,37] (Zb Zc [] ?_)
 simp only [push_cast,seval,Za,hN0,hN]
 refine Zs (t:=(y2.1.P.Kind == 1)) rfl (fun c6 => ?_) (fun c6 => ?_)
 ·replace h:=Z3 c6 h
  refine Zj ?_
  refine U0 Zc (by kernel_rfl) [.low,.low,.low,.low,.low,.low,.plain,.pass,.plain,.pass,.plain,.bar] (fun i=>i≠n+2) [0,1,2,3,4,5,6,7,8,9,10,11] [.low,.low,.low,.low,.low,.low,.plain,.pass,.plain,.pass,.plain,.bar] [] (by kernel_rfl) rfl ?_
  simp only [push_cast,seval,Za,hN0,hN]
  repeat (with_reducible refine And.intro (by first | omega | exact U4 rfl | exact Vq | exact Zbb rfl | exact Zbr rfl rfl | exact Uq rfl | exact Ud rfl) ?_)
  refine Zl [6,10] [true,false,true] ?_
  simp only [push_cast,seval]
  refine Zj ?_
  refine Zb Zc [] ?_
  simp only [push_cast,seval,Za,hN0,hN]
  refine Zl [6,7] [true,false,false] ?_
  simp only [push_cast,seval]
  refine Zu ?_
  try simp only [Zk,Zg]
  have h:=Option.some.inj h;subst h
  refine Zq (.inr rfl) hU [.agg [(gP Zo a0),.val (.int .i64 1),.val (.int .i64 y2.1.Segment),.val (.int .i64 y2.1.At),.val (.int .i64 y2.1.P.Data),.val (.int .i64 y2.1.P.Ptrs),.val (.int .i64 0),.val (.int .i64 0),.val (.int .i64 0)],.val (.int .i64 0)] (by omega) ?_
  simp only [push_cast,seval,Za,Try.results39,hN0,hN]
 replace h:=Z0 c6 h
 refine Zw ?_
 try simp only [Zk,Zg]
 refine Zl [6,8,10] [true,true,true] ?_
 simp only [push_cast,seval]
 refine Zj ?_
 refine U0 Zc (by kernel_rfl) [.plain,.plain,.plain,.plain,.low,.low,.low,.plain,.pass,.plain,.bar] (fun i=>i≠n+2) [0,1,2,3,4,5,6,7,8,9,10] [.plain,.plain,.plain,.plain,.low,.low,.low,.plain,.pass,.plain,.bar] [] (by kernel_rfl) rfl ?_
 simp only [push_cast,seval,Za,hN0,hN]
 repeat (with_reducible refine And.intro (by first | omega | exact U4 rfl | exact Vq | exact Zbb rfl | exact Zbr rfl rfl | exact Uq rfl | exact Ud rfl) ?_)
 refine Zl [6,8,10] [true,true,true] ?_
 simp only [push_cast,seval]
 refine Zj ?_
 refine Zp [6,10,60] (Zb Zc [] ?_)
 simp only [push_cast,seval,Za,hN0,hN]
 refine Zs (t:=(y2.1.P.Code == 7)) rfl (fun c5 => ?_) (fun c5 => ?_)
 ·replace h:=Z3 c5 h
  refine Zj ?_
  obtain ⟨y4,hy4,h⟩:=bC h
  refine Zb Zc [] ?_
  simp only [push_cast,seval,Za,hN0,hN]
  refine (Zo1 hy4).then ?_
  simp only [push_cast,seval,Za,hN0,hN]
  refine Zl [6,7] [true,false,false] ?_
  simp only [push_cast,seval]
  refine Zu ?_
  try simp only [Zk,Zg]
  have h:=Option.some.inj h;subst h
  refine Zq (.inr rfl) hU [.agg (Zn y4.1),.val (.int .i64 y4.2)] (by omega) ?_
  simp only [push_cast,seval,Za,Try.results39,hN0,hN]
 replace h:=Z0 c5 h
 refine Zw ?_
 try simp only [Zk,Zg]
 refine Zl [6,10] [true,false,true] ?_
 simp only [push_cast,seval]
 refine Zj ?_
 refine Zb Zc [] ?_
 simp only [push_cast,seval,Za,hN0,hN]
 refine Zl [6,7] [true,false,false] ?_
 simp only [push_cast,seval]
 refine Zu ?_
 try simp only [Zk,Zg]
 have h:=Option.some.inj h;subst h
 refine Zq (.inr rfl) hU [.agg [(gP Zo a0),.val (.int .i64 (IntKind.i64.wrap (y2.1.P.Code+2))),.val (.int .i64 y2.1.Segment),.val (.int .i64 y2.1.At),.val (.int .i64 0),.val (.int .i64 0),.val (.int .i64 y2.1.P.Count),.val (.int .i64 0),.val (.int .i64 0)],.val (.int .i64 0)] (by omega) ?_
 simp only [push_cast,seval,Za,Try.results39,hN0,hN]
theorem Zls {a0:(Option Zm)} {r:(Ze×Int)} {O:Objs} {n:Nat} (h:Zae a0=some r):GTo Try.prog 23 [(gP Zo a0)] O n (.tup [.agg (Zn r.1),.val (.int .i64 r.2)]) O n:=by
 unfold Zae at h
 refine Yj Zc Try.call23 Try.func23 rfl (Nat.le_of_ble_eq_true rfl) (Nat.le_refl _) fun hU => ?_
 have hN0:O n=none:=hU.fresh _ (Nat.le_refl _)
 have hN:∀ k,O (n+k)=none:=fun k=>hU.fresh _ (Nat.le_add_right _ _)
 show W _ _ _ _ ⟨8,[],[(0,(gP Zo a0))]⟩ (Zy O n []) _
 refine Zp [0,2] (Zb Zc [] ?_)
 simp only [push_cast,seval,Za,hN0,hN]
 refine Zj ?_
 obtain ⟨y2,hy2,h⟩:=bC h
 refine Zb Zc [] ?_
 simp only [push_cast,seval,Za,hN0,hN]
 refine (Zkm hy2).then ?_
 simp only [push_cast,seval,Za,hN0,hN]
 refine Zl [2,3] [true] ?_
 simp only [push_cast,seval]
 refine Zu ?_
 try simp only [Zk,Zg]
 have h:=Option.some.inj h;subst h
 refine Zq (.inr rfl) hU [.agg (Zn y2.1),.val (.int .i64 y2.2)] (by omega) ?_
 simp only [push_cast,seval,Za,Try.results23,hN0,hN]
theorem Xj {a0:Ze} {r:Int} {O:Objs} {n:Nat} (h:Yk a0=some r):GTo Try.prog 57 [.agg (Zn a0)] O n (.val (.int .i64 r)) O n:=by
 unfold Yk at h
 refine Yj Zc Try.call57 Try.func57 rfl (Nat.le_of_ble_eq_true rfl) (Nat.le_refl _) fun hU => ?_
 have hN0:O n=none:=hU.fresh _ (Nat.le_refl _)
 have hN:∀ k,O (n+k)=none:=fun k=>hU.fresh _ (Nat.le_add_right _ _)
 show W _ _ _ _ ⟨5,[],[(0,.agg (Zn a0))]⟩ (Zy O n []) _
 refine Zp [1] (Zb Zc [] ?_)
 simp only [push_cast,seval,Za,hN0,hN]
 refine Zp [2] (Zb Zc [] ?_)
 simp only [push_cast,seval,Za,hN0,hN]
 refine Zu ?_
 try simp only [Zk,Zg]
 have h:=Option.some.inj h;subst h
 refine Zq (.inr rfl) hU [.val (.int .i64 a0.kind)] (by omega) ?_
 simp only [push_cast,seval,Za,Try.results57,hN0,hN]
end Go.Proofs.Ytbkhdkfjabiocaa
