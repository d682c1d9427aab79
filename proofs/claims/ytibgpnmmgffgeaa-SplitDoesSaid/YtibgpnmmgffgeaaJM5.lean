/- Part JM5 of this seat's mirrors: functions of the seat's program, and the plain functions that they are; each theorem bears its own conditions. -/
import Derived.Test.YtibgpnmmgffgeaaJM3
namespace Go.Proofs.Ytibgpnmmgffgeaa
open Go.RowKit
set_option linter.unusedVariables false
set_option linter.unusedSimpArgs false
set_option maxRecDepth 100000
set_option maxHeartbeats 4000000
attribute [local push_cast] Try.results18 Try.results32 Try.results37 Try.results53 Try.results54 Try.results55 Try.results56 Try.results57 Try.results58 Try.results59 Try.results60 Try.results61 Try.results62 Try.results63 Try.results64 Try.results7 vI vB nV sL oR V4 Ze Gg Yy Zg Zal Zy0 Zyz Z0d Z0c Y1 Yc Zuv Zn7 Zn6 onW Qa Zf0 Zer Zuw Zux Zsf Zsj Zse Zsi Zwg Zwc Zsh Zwf Zwe Zwd Zsg Zwa Zoy evS wok Jz Op.operands Call.operands gop onK onP atK List.all_cons List.all_nil Bool.and_true Bool.true_and Bool.and_self Value.oneCell' List.take_zero List.take_succ_cons List.take_nil List.drop_zero List.drop_succ_cons List.drop_nil List.append_nil Nat.add_zero Nat.zero_add Zac Yr ev Jw Ze6 Zyr Zyq Zyw Zyu Zyv Zys Zyt Zyp Zus Zw5 Z2j Zl1 Zg7 Zk9 Zgb Zrm Zjn Zln Zls Zn1 Znx Zlq Zn0 Znz Zny Zlp Znv Zlo Zlr Zkk Znw Znb Zn8 Zes Zmy Zet Zn5 Zly Zy5 bLo bHi bMx Zg8 Zn4 Z4h Zlx Znm Zjb Zci Zxq Z4k Zmw Zj3 Z4p Zg6 Z8i Zu4 Zu8 Zu3 Zu7 Zzr Zzn Zzl Zrp Zu5 Zzq Zzp Zzo Zu6 Zzf Zzj Zze Zzi Z4w Z4t Z4s Zzh Z4u Z4v Zzm Zlf gone Zvt Zos Zor pop TK.isAgg Zz5 Zz9 Zz4 Zz8 Zvn Z48 Z44 Zz7 Z47 Z46 Z45 Zz6 Z43 G.under G.unders List.getD_cons_zero List.getD_cons_succ List.set_cons_zero List.set_cons_succ List.map_cons List.map_nil List.toList_toArray Array.toList_append Option.toArray_none Option.toArray_some Array.toList_map Option.map_some Option.map_none Option.bind_some Option.bind_none List.getElem?_cons_zero List.getElem?_cons_succ List.getElem?_nil List.nil_append List.cons_append List.replicate_succ List.replicate_zero List.length_cons List.length_nil and_true true_and and_false false_and Bool.true_eq_false Bool.false_eq_true forall_const false_implies implies_true IntKind.bits if_true if_false ite_true ite_false eq_self true_implies false_or or_false or_true true_or not_true_eq_false not_false_eq_true decide_true decide_false decide_eq_true_eq decide_eq_false_iff_not beq_iff_eq bne_iff_ne ne_eq Bool.not_eq_true Bool.not_eq_false beq_eq_false_iff_ne bne_eq_false_iff_eq beq_self_eq_true bne_self_eq_false Option.some.injEq exists_eq_left' exists_eq_left ge_iff_le gt_iff_lt decide_not Bool.not_true Bool.not_false imp_self Z4m cond_true cond_false Yfu Yft Bool.not_not Bool.and_false Bool.false_and Bool.or_true Bool.true_or Bool.or_false Bool.false_or Ge Zdn Gm V8 Y4 Ym Option.join_some Nat.add_assoc Int.toNat_natCast eI eB eS eL Yl Zmx Zlz Zy4 Zy2 Zy3 Z8t Yay Zm2 Zmh Z0m Z0k Z0l Z24 Zlw Z2f Zga Zw3 Zj2 Zyk List.length_append G.agg.injEq G.row.injEq G.ref.injEq G.val.injEq G.sl.injEq G.tup.injEq Value.int.injEq Value.bool.injEq Value.string.injEq List.cons.injEq exists_and_left exists_const List.flatten_cons List.flatten_nil Int.le_refl Nat.le_refl Qh Yf Yn Bool.not_eq_true' Bool.not_eq_false' Z11 Zqa Z52 Z56 Z51 Z55 Ycz Ycu List.size_toArray Zsa Zmj G.ren G.rens Zvx Zjv Z0q Zym Zyn Zwb Z57 Zfo G.fn.injEq Zw0 Zw1 Z10 Ycv Zwz Z54 Ycy Ycx Ycw Z53 Z4z Yah Option.join_none Z8 Gs undef Zno Arr.len Arr.put_eq Zm1 Zr3 Zoo Zmg Z0j Z0h Z0i onB Z8s Zxp Zv5 Zrg Ztv Ztw Ztx Zty Ztz Zt0 Zrt Zr6 Zr4 Zoq Zmi Zr5 Zvs Zvr Zvq Zvp Yax Yd3 Z23 Z0e Vy Z2v Zrq Zr7 Zop Z49 Zv7 Zlu Znl Zh4 Zp1 Zt1 Zt2 Zt3 Zt4 Zqc Zqd Zqe Zqf Zqg Zqh Zqi Zqj Zqk Zql Zqm Zqn Zqo Zh8 prT Zff Zqp Zqq Zqr Zqs Zqt Zqu Zqv Zqw Zqx Zqy Zqz Zq0 Zq1 Zq2 Zq3 Zq4 Zq5 Zq6 Ygp Z5t Z3r Z5u Ygq Z5v Z3s Z5w Ygr Z5x Ygs Z5y Ygt Z5z Ygu Z50 Ybu Z00 Ybv Z01 Ybw Z02 Ybx Z03 Yby Z04 Ybz Z05 Yb0 Z06 Yb1 Z07 Yb2 Z08 Yb3 Z09 Yb4 Z1a Yb5 Zp9 Z3p Zeq Yb6 Z1b Ug Z1c Yb7 Z1d Yb8 Z1e Z3q Ztt Yb9 Z1f Ziy Z1g Yca Z1h Ycb Z1i Znt Z1j Ycc Z1k Zbm Z1l Ziz Z1m Ycd Z1n Zx9 Z1o Yce Z1p Ycf Z1q Ycg Z1r Ych Z1s Yci Z1t Ycj Z1u Z3t Ztu Yck Z1v Ycl Z1w Ycm Z1x Z5g Zwh Z5h Zwi Z0y Zwj Z5i Zwk Z5j Zwl Z5k Zwm Z5l Zwn Z5m Zwo Z5n Zwp Z5o Zwq Z5p Zwr Z5q Zws Z5r Zwt Z5s Zwu Za Yq Zo4 Zo3 Zoe Zol Zo5 Zmo Zml Zmk Zo1 Zgy Zgw Zge Zgm Zg0 Zfy Zfu Zfs Zgu Zf Zn Zh Zd Xh Y0 Xu Zdg Zdd Zcl Zcv Zdl Zb8 Zb4 Zb1 Zc8 Zec Zea Zd1 Zd5 Zee Zdb Zc2 Zc0 Zd7 Zi3 Zi2 Zie Zim Zi4 Zhx Zhu Zht Zi0 Zsp Zso Zro Zrz Zsq Zo2 Zov Zou Zsl Ye Zcb Zca Zbv Zby Zcc Zbb Zba Za9 Zb6 Zgx Zgv Zgd Zgl Zgz Zfx Zft Zfr Zgt Yi Zdf Zdc Zck Zcu Zdk Zb7 Zb3 Zb0 Zc7 Zx Zeb Zd9 Zd0 Zd4 Zed Zda Zc1 Zcz Zd6 Yj Zdh Zde Zcm Zcw Zdm Zb9 Zb5 Zb2 Zc9
theorem Zs7 {a0:Zc} {a1:Zc} {r:(Zc×Bool)} {O:Objs} {n:Nat} (h:U5 a0 a1=some r):GTo Try.prog 32 [.agg (Ze a0),.agg (Ze a1)] O n (.tup [.agg (Ze r.1),(vB r.2)]) O n:=by
 unfold U5 at h
 refine zFn Try.call32 Try.func32 fun hU hN0 hN => ?_
 show W _ _ _ _ ⟨19,[],[(0,.agg (Ze a0)),(1,.agg (Ze a1))]⟩ (Zq O n []) _
 refine zQ [2,3,4] ?_
 refine Zk ?_
 obtain ⟨y2,hy2,h⟩:=bC h
 refine zCd (Zs8 hy2) [4,6,7] [false,false,true,true] ?_
 refine Zk ?_
 refine zQ [4,6,15] ?_
 refine Zp (t:=(!y2.2)) rfl (fun c5 => ?_) (fun c5 => ?_)
 ·replace h:=Zt c5 h
  refine Zk ?_
  refine zRd [4,5] [false,false,true,false] ?_
  exact Y9 [.agg [(vI 0),(vI 0),nV,nV,(vI 0),nV,nV,nV,nV,(vI 0),nV],(vB false)]
 replace h:=Zs c5 h
 refine Ky [4,6] [false,false,true,true] ?_
 refine Zk ?_
 obtain ⟨y4,hy4,h⟩:=bC h
 refine zCd (Zl8 hy4) [4,5] [false,false,true,false] ?_
 exact Y9 [.agg (Ze y4),(vB true)]
theorem Zxb {a0:(List Zc)} {r:(Zc×Bool)} {O:Objs} {n:Nat} (h:Zfk a0=some r):GTo Try.prog 18 [(sL Zn a0)] O n (.tup [.agg (Ze r.1),(vB r.2)]) O n:=by
 unfold Zfk at h
 refine zFn Try.call18 Try.func18 fun hU hN0 hN => ?_
 show W _ _ _ _ ⟨27,[],[(0,(sL Zn a0))]⟩ (Zq O n []) _
 refine zQ [0,2] ?_
 refine zQ [0,2,4] ?_
 refine Zk ?_
 refine zQd [2,4,9,10,11] [2,4,9,10,11] [true,true] ?_
 refine Zdy ⟨27,[],[(2,.ref n 0),(4,.ref (n+1) 0),(9,(sL Zn a0)),(10,(vI (a0.length:Int))),(11,(vI 0))]⟩ (Zq O n [some ⟨false,30,11,1,[(vI 0),(vI 0),nV,nV,(vI 0),nV,nV,nV,nV,(vI 0),nV]⟩,some ⟨false,30,11,1,[(vI 0),(vI 0),(sL (eI .u64) ([]:(List Int))),(sL Za ([]:(List Zb))),(vI 0),(sL (eI .u64) ([]:(List Int))),(sL Za ([]:(List Zb))),(sL Zf ([]:(List Zr))),(sL Zh ([]:(List Zm))),(vI 0),(sL Zd ([]:(List Zl)))]⟩]) (Z9 hU rfl rfl ?_) ?_
 ·exact zSe
 obtain ⟨z7,hz7,h⟩:=bC h
 refine Zbu (J:=(Ql (fun z7=>JR n (⟨27,[],[(2,.ref n 0),(3,(vB false))]⟩:Env) (Zq O n [some ⟨false,30,11,1,[(vI 0),(vI 0),nV,nV,(vI 0),nV,nV,nV,nV,(vI 0),nV]⟩,none]) (n+2)) (fun z7=>JX 0 n (⟨27,[],[(2,.ref n 0),(4,.ref (n+1) 0)]⟩:Env) (Zq O n [some ⟨false,30,11,1,[(vI 0),(vI 0),nV,nV,(vI 0),nV,nV,nV,nV,(vI 0),nV]⟩,some ⟨false,30,11,1,[(vI z7.1),(vI z7.2.1),(sL (eI .u64) z7.2.2.1),(sL Za z7.2.2.2.1),(vI z7.2.2.2.2.1),(sL (eI .u64) z7.2.2.2.2.2.1),(sL Za z7.2.2.2.2.2.2.1),(sL Zf z7.2.2.2.2.2.2.2.1),(sL Zh z7.2.2.2.2.2.2.2.2.1),(vI z7.2.2.2.2.2.2.2.2.2.1),(sL Zd z7.2.2.2.2.2.2.2.2.2.2)]⟩]) (n+2)))) (z:=z7) ?_ fun hw => ?_
 ·refine Y2 hz7 (fun s0_=>⟨27,[],[(2,.ref n 0),(4,.ref (n+1) 0),(9,(sL Zn a0)),(10,(vI (a0.length:Int))),(11,(vI s0_.1))]⟩) (fun s0_=>(Zq O n [some ⟨false,30,11,1,[(vI 0),(vI 0),nV,nV,(vI 0),nV,nV,nV,nV,(vI 0),nV]⟩,some ⟨false,30,11,1,[(vI s0_.2.1),(vI s0_.2.2.1),(sL (eI .u64) s0_.2.2.2.1),(sL Za s0_.2.2.2.2.1),(vI s0_.2.2.2.2.2.1),(sL (eI .u64) s0_.2.2.2.2.2.2.1),(sL Za s0_.2.2.2.2.2.2.2.1),(sL Zf s0_.2.2.2.2.2.2.2.2.1),(sL Zh s0_.2.2.2.2.2.2.2.2.2.1),(vI s0_.2.2.2.2.2.2.2.2.2.2.1),(sL Zd s0_.2.2.2.2.2.2.2.2.2.2.2)]⟩])) (Ql (fun z7=>JR n (⟨27,[],[(2,.ref n 0),(3,(vB false))]⟩:Env) (Zq O n [some ⟨false,30,11,1,[(vI 0),(vI 0),nV,nV,(vI 0),nV,nV,nV,nV,(vI 0),nV]⟩,none]) (n+2)) (fun z7=>JX 0 n (⟨27,[],[(2,.ref n 0),(4,.ref (n+1) 0)]⟩:Env) (Zq O n [some ⟨false,30,11,1,[(vI 0),(vI 0),nV,nV,(vI 0),nV,nV,nV,nV,(vI 0),nV]⟩,some ⟨false,30,11,1,[(vI z7.1),(vI z7.2.1),(sL (eI .u64) z7.2.2.1),(sL Za z7.2.2.2.1),(vI z7.2.2.2.2.1),(sL (eI .u64) z7.2.2.2.2.2.1),(sL Za z7.2.2.2.2.2.2.1),(sL Zf z7.2.2.2.2.2.2.2.1),(sL Zh z7.2.2.2.2.2.2.2.2.1),(vI z7.2.2.2.2.2.2.2.2.2.1),(sL Zd z7.2.2.2.2.2.2.2.2.2.2)]⟩]) (n+2))) ?_
  intro s0_ x0_ hs0_
  unfold V6 at hs0_
  try dsimp only
  refine zQ [2,4,9,10,11,12] ?_
  refine Zk ?_
  refine Zp (t:=(decide (s0_.1 < (a0.length:Int)))) rfl (fun c6 => ?_) (fun c6 => ?_)
  ·replace hs0_:=Zt c6 hs0_
   refine Ky [2,4,9,10,11] [true,true] ?_
   refine Zk ?_
   refine Yd ?_
   refine Zk ?_
   obtain ⟨x2,hx2,ax2,bx2,cx2,hs0_⟩:=bE (f:=Zn) Ziy (fun _=>rfl) (by decide) hs0_
   refine Zcg [] ax2 bx2 cx2 ?_
   refine zDs [2,4,6,9,10,11] [true,true,true] ?_
   obtain ⟨y4,hy4,hs0_⟩:=bC hs0_
   refine zCd (Zs7 hy4) [2,4,7,8,9,10,11] [true,true,false,true] ?_
   refine Zk ?_
   refine zQ [2,4,7,9,10,11,22] ?_
   refine Zp (t:=(!y4.2)) rfl (fun c5 => ?_) (fun c5 => ?_)
   ·replace hs0_:=Zt c5 hs0_
    refine Zk ?_
    refine zRd [2,3] [true,false,false,false] ?_
    refine zW ?_
    exact zEy hs0_
   replace hs0_:=Zs c5 hs0_
   refine Ky [2,4,7,9,10,11] [true,true,false,true] ?_
   refine zRd [2,4,9,10,11] [true,true,false,false] ?_
   refine zR ?_
   exact zEn hs0_
  replace hs0_:=Zs c6 hs0_
  exact zEx hs0_
 rcases z7 with z7 | z7
 ·dsimp only [Ql] at hw h
  refine Kh hw ?_
  try simp only [Y1,Yc,↓reduceIte,Nat.reduceEqDiff]
  exact Zk7 [.agg [(vI 0),(vI 0),nV,nV,(vI 0),nV,nV,nV,nV,(vI 0),nV],(vB false)]
 dsimp only [Ql] at hw h
 refine Yo hw ?_
 try simp only [Y1,Yc,↓reduceIte,Nat.reduceEqDiff]
 refine zDs [2,4] [true,true] ?_
 refine zRd [2,3] [true,false] ?_
 exact Y9 [.agg [(vI z7.1),(vI z7.2.1),(sL (eI .u64) z7.2.2.1),(sL Za z7.2.2.2.1),(vI z7.2.2.2.2.1),(sL (eI .u64) z7.2.2.2.2.2.1),(sL Za z7.2.2.2.2.2.2.1),(sL Zf z7.2.2.2.2.2.2.2.1),(sL Zh z7.2.2.2.2.2.2.2.2.1),(vI z7.2.2.2.2.2.2.2.2.2.1),(sL Zd z7.2.2.2.2.2.2.2.2.2.2)],(vB true)]
theorem Zai  {r:Bool} {O:Objs} {n:Nat} (h:Qz=some r):GTo Try.prog 7 [] O n ((vB r)) O n:=by
 unfold Qz at h
 refine zFn Try.call7 Try.func7 fun hU hN0 hN => ?_
 show W _ _ _ _ ⟨58,[],[]⟩ (Zq O n []) _
 refine zQ [] ?_
 refine zQ [1] ?_
 refine Zk ?_
 obtain ⟨y4,hy4,h⟩:=bC h
 obtain ⟨y5,hy5,h⟩:=bC h
 obtain ⟨y6,hy6,h⟩:=bC h
 refine zC (Zf4 hy4) ?_
 refine zTs (Zf4 hy5) ?_
 refine GCalls.dropL (l':=[none]) hU rfl ?_ ((Zmb hy6).then ?_)
 ·exact zSe
 refine zS ?_
 refine zDs [2] [false] ?_
 obtain ⟨y8,hy8,h⟩:=bC h
 refine zCd (Zxb hy8) [2,3,4] [false,true] ?_
 obtain ⟨z17,hz17,h⟩:=bC h
 refine Xe (E':=⟨58,[],[(0,(vB z17))]⟩) (O':=(Zq O n [none,none])) (n0:=(n+2)) ?_ ?_
 ·rcases Bool.eq_false_or_eq_true y8.2 with c34 | c34
  ·replace hz17:=Zt c34 hz17
   rcases Bool.eq_false_or_eq_true ((y6.length:Int) == 2) with c35 | c35
   ·replace hz17:=Zt c35 hz17
    try rw [c35] at c34
    obtain ⟨x26,hx26,ax26,bx26,cx26,hz17⟩:=bE (f:=Zn) Ziy (fun _=>rfl) (by decide) hz17
    have g27:=Gh (f:=Zn) (off:=10) (sz:=11) Z3q (fun _=>rfl) (by decide) (by decide) hx26
    rcases Bool.eq_false_or_eq_true ((x26.Ops.length:Int) == 2) with c36 | c36
    ·replace hz17:=Zt c36 hz17
     try rw [c36] at c34
     try rw [c36] at c35
     obtain ⟨x28,hx28,ax28,bx28,cx28,hz17⟩:=bE (f:=Zn) Ziy (fun _=>rfl) (by decide) hz17
     have g29:=Gh (f:=Zn) (off:=10) (sz:=11) Z3q (fun _=>rfl) (by decide) (by decide) hx28
     obtain ⟨x30,hx30,ax30,bx30,cx30,hz17⟩:=bE (f:=Zd) Zbm (fun _=>rfl) (by decide) hz17
     have g31:=Gh (f:=Zd) (off:=1) (sz:=14) Z3r (fun _=>rfl) (by decide) (by decide) hx30
     rcases Bool.eq_false_or_eq_true (x30.N == 1) with c37 | c37
     ·replace hz17:=Zt c37 hz17
      try rw [c37] at c34
      try rw [c37] at c35
      try rw [c37] at c36
      rcases Bool.eq_false_or_eq_true ((y8.1.Ops.length:Int) == 3) with c38 | c38
      ·replace hz17:=Zt c38 hz17
       try rw [c38] at c34
       try rw [c38] at c35
       try rw [c38] at c36
       try rw [c38] at c37
       obtain ⟨x32,hx32,ax32,bx32,cx32,hz17⟩:=bE (f:=Zd) Zbm (fun _=>rfl) (by decide) hz17
       have g33:=Zkl (f:=Zd) (sz:=14) Z3r (fun _=>rfl) (by decide) (by decide) hx32
       refine Yp Z0 (Z42 (Yat (Ygf (Zz0 [])))) ?_
       simp only [push_cast,Nat.reduceAdd,Nat.reduceSub,Nat.reduceMul,Nat.reduceLeDiff,Nat.reduceLT,Nat.reduceEqDiff,↓reduceIte,reduceCtorEq,Int.reduceBEq,Int.reduceBNe,Nat.reduceBEq,Int.reduceLE,Int.reduceLT,Int.reduceEq,Int.reduceNe,Int.reduceNeg,Nat.reduceDiv,Nat.reduceMod,Nat.reducePow,Zi,c34,c35,ax26,bx26,cx26,g27,c36,ax28,bx28,cx28,g29,ax30,bx30,cx30,g31,c37,c38,ax32,bx32,cx32,g33,hN0,hN]
       refine zG ?_
       obtain rfl:=sI hz17
       refine And.intro rfl (Fit2.of (Z9 hU rfl rfl ?_) (by omega))
       simp only [push_cast,Nat.reduceAdd,Nat.reduceSub,Nat.reduceMul,Nat.reduceLeDiff,Nat.reduceLT,Nat.reduceEqDiff,↓reduceIte,reduceCtorEq,Int.reduceBEq,Int.reduceBNe,Nat.reduceBEq,Int.reduceLE,Int.reduceLT,Int.reduceEq,Int.reduceNe,Int.reduceNeg,Nat.reduceDiv,Nat.reduceMod,Nat.reducePow,Zi,c34,c35,ax26,bx26,cx26,g27,c36,ax28,bx28,cx28,g29,ax30,bx30,cx30,g31,c37,c38,ax32,bx32,cx32,g33,hN0,hN]
      replace hz17:=Zs c38 hz17
      try rw [c38] at c34
      try rw [c38] at c35
      try rw [c38] at c36
      try rw [c38] at c37
      refine Yp Z0 (Z42 (Yat (Ygf (Zzx [])))) ?_
      simp only [push_cast,Nat.reduceAdd,Nat.reduceSub,Nat.reduceMul,Nat.reduceLeDiff,Nat.reduceLT,Nat.reduceEqDiff,↓reduceIte,reduceCtorEq,Int.reduceBEq,Int.reduceBNe,Nat.reduceBEq,Int.reduceLE,Int.reduceLT,Int.reduceEq,Int.reduceNe,Int.reduceNeg,Nat.reduceDiv,Nat.reduceMod,Nat.reducePow,Zi,c34,c35,ax26,bx26,cx26,g27,c36,ax28,bx28,cx28,g29,ax30,bx30,cx30,g31,c37,c38,hN0,hN]
      refine zG ?_
      obtain rfl:=sI hz17
      refine And.intro rfl (Fit2.of (Z9 hU rfl rfl ?_) (by omega))
      simp only [push_cast,Nat.reduceAdd,Nat.reduceSub,Nat.reduceMul,Nat.reduceLeDiff,Nat.reduceLT,Nat.reduceEqDiff,↓reduceIte,reduceCtorEq,Int.reduceBEq,Int.reduceBNe,Nat.reduceBEq,Int.reduceLE,Int.reduceLT,Int.reduceEq,Int.reduceNe,Int.reduceNeg,Nat.reduceDiv,Nat.reduceMod,Nat.reducePow,Zi,c34,c35,ax26,bx26,cx26,g27,c36,ax28,bx28,cx28,g29,ax30,bx30,cx30,g31,c37,c38,hN0,hN]
     replace hz17:=Zs c37 hz17
     try rw [c37] at c34
     try rw [c37] at c35
     try rw [c37] at c36
     refine Yp Z0 (Z42 (Yat (Ygf (Zzx [])))) ?_
     simp only [push_cast,Nat.reduceAdd,Nat.reduceSub,Nat.reduceMul,Nat.reduceLeDiff,Nat.reduceLT,Nat.reduceEqDiff,↓reduceIte,reduceCtorEq,Int.reduceBEq,Int.reduceBNe,Nat.reduceBEq,Int.reduceLE,Int.reduceLT,Int.reduceEq,Int.reduceNe,Int.reduceNeg,Nat.reduceDiv,Nat.reduceMod,Nat.reducePow,Zi,c34,c35,ax26,bx26,cx26,g27,c36,ax28,bx28,cx28,g29,ax30,bx30,cx30,g31,c37,hN0,hN]
     refine zG ?_
     obtain rfl:=sI hz17
     refine And.intro rfl (Fit2.of (Z9 hU rfl rfl ?_) (by omega))
     simp only [push_cast,Nat.reduceAdd,Nat.reduceSub,Nat.reduceMul,Nat.reduceLeDiff,Nat.reduceLT,Nat.reduceEqDiff,↓reduceIte,reduceCtorEq,Int.reduceBEq,Int.reduceBNe,Nat.reduceBEq,Int.reduceLE,Int.reduceLT,Int.reduceEq,Int.reduceNe,Int.reduceNeg,Nat.reduceDiv,Nat.reduceMod,Nat.reducePow,Zi,c34,c35,ax26,bx26,cx26,g27,c36,ax28,bx28,cx28,g29,ax30,bx30,cx30,g31,c37,hN0,hN]
    replace hz17:=Zs c36 hz17
    try rw [c36] at c34
    try rw [c36] at c35
    refine Yc2 (Z42 (Zz0 (Yfb []))) c34 c35 ax26 bx26 cx26 g27 c36 ?_
    refine zG ?_
    exact Yc1 hz17 c34 c35 ax26 bx26 cx26 g27 c36
   replace hz17:=Zs c35 hz17
   try rw [c35] at c34
   refine U9 (Z42 (Yfc [])) c34 c35 ?_
   refine zG ?_
   exact Zjl hz17 c34 c35
  replace hz17:=Zs c34 hz17
  refine Zbp (Z42 (Yfc [])) c34 ?_
  refine zG ?_
  exact Gd hz17 c34
 exact Y9 [(vB z17)]
theorem Ji {a0:(List Int)} {a1:(List Int)} {r:Bool} {O:Objs} {n:Nat} (h:Xs a0 a1=some r):GTo Try.prog 53 [(sL (eI .u64) a0),(sL (eI .u64) a1)] O n ((vB r)) O n:=by
 unfold Xs at h
 refine zFn Try.call53 Try.func53 fun hU hN0 hN => ?_
 show W _ _ _ _ ⟨26,[],[(0,(sL (eI .u64) a0)),(1,(sL (eI .u64) a1))]⟩ (Zq O n []) _
 refine zQ [0,1] ?_
 refine Zk ?_
 refine zQ [0,1,10] ?_
 refine Zp (t:=((a0.length:Int) != (a1.length:Int))) rfl (fun c8 => ?_) (fun c8 => ?_)
 ·replace h:=Zt c8 h
  refine zQ [4] ?_
  exact Y9 [(vB false)]
 replace h:=Zs c8 h
 refine Ky [0,1] [] ?_
 refine Zk ?_
 refine zQd [0,1,12,13] [0,1,12,13] [] ?_
 obtain ⟨z7,hz7,h⟩:=bC h
 refine Zbu (J:=(Ql (fun z7=>JR n (⟨26,[],[(4,(vB false))]⟩:Env) (Zq O n []) n) (fun z7=>JX 0 n (⟨26,[],[]⟩:Env) (Zq O n []) n))) (z:=z7) ?_ fun hw => ?_
 ·refine Y2 hz7 (fun s0_=>⟨26,[],[(0,(sL (eI .u64) a0)),(1,(sL (eI .u64) a1)),(12,(vI (a0.length:Int))),(13,(vI s0_))]⟩) (fun s0_=>(Zq O n [])) (Ql (fun z7=>JR n (⟨26,[],[(4,(vB false))]⟩:Env) (Zq O n []) n) (fun z7=>JX 0 n (⟨26,[],[]⟩:Env) (Zq O n []) n)) ?_
  intro s0_ x0_ hs0_
  unfold X2 at hs0_
  try dsimp only
  refine zQ [0,1,12,13,14] ?_
  refine Zk ?_
  refine Zp (t:=(decide (s0_ < (a0.length:Int)))) rfl (fun c6 => ?_) (fun c6 => ?_)
  ·replace hs0_:=Zt c6 hs0_
   refine Ky [0,1,12,13] [] ?_
   refine Zk ?_
   refine Yd ?_
   refine zQ [0,1,5,12,13] ?_
   obtain ⟨x3,hx3,ax3,bx3,cx3,hs0_⟩:=bE (f:=(eI .u64)) Ziz (fun _=>rfl) (by decide) hs0_
   obtain ⟨x4,hx4,ax4,bx4,cx4,hs0_⟩:=bE (f:=(eI .u64)) Ziz (fun _=>rfl) (by decide) hs0_
   refine Zlm [0,1,12,13,24] (Kx Z0 (by kernel_rfl) [] (by kernel_rfl) ?_)
   refine zF6 ax3 bx3 cx3 ax4 bx4 cx4 ?_
   refine Zp (t:=(x3 != x4)) rfl (fun c5 => ?_) (fun c5 => ?_)
   ·replace hs0_:=Zt c5 hs0_
    refine zQ [4] ?_
    refine zW ?_
    exact zEy hs0_
   replace hs0_:=Zs c5 hs0_
   refine Ky [0,1,12,13] [] ?_
   refine zR ?_
   exact zEn hs0_
  replace hs0_:=Zs c6 hs0_
  exact zEx hs0_
 rcases z7 with z7 | z7
 ·dsimp only [Ql] at hw h
  refine Kh hw ?_
  try simp only [Y1,Yc,↓reduceIte,Nat.reduceEqDiff]
  exact Zk7 [(vB false)]
 dsimp only [Ql] at hw h
 refine Yo hw ?_
 try simp only [Y1,Yc,↓reduceIte,Nat.reduceEqDiff]
 refine zD [] [] ?_
 refine zQ [4] ?_
 exact Y9 [(vB true)]
def Zhs (Jx:(Zb→Zb→Option Bool)):Prop:=∀ {a0:Zb} {a1:Zb} {r:Bool} {O:Objs} {n:Nat},Jx a0 a1=some r→GTo Try.prog 37 [.agg (Zg a0),.agg (Zg a1)] O n ((vB r)) O n
def Y6 (Zu:((List Zb)→(List Zb)→Option Bool)):Prop:=∀ {a0:(List Zb)} {a1:(List Zb)} {r:Bool} {O:Objs} {n:Nat},Zu a0 a1=some r→GTo Try.prog 54 [(sL Za a0),(sL Za a1),.fn 37 0 []] O n ((vB r)) O n
theorem Zvm {Jx:(Zb→Zb→Option Bool)} {Zu:((List Zb)→(List Zb)→Option Bool)} (Zlc:Zhs Jx) (Y7:Y6 Zu) {a0:Zb} {a1:Zb} {r:Bool} {O:Objs} {n:Nat} (h:Ze8 Jx Zu a0 a1=some r):GTo Try.prog 37 [.agg (Zg a0),.agg (Zg a1)] O n ((vB r)) O n:=by
 unfold Ze8 at h
 refine zFn Try.call37 Try.func37 fun hU hN0 hN => ?_
 show W _ _ _ _ ⟨44,[],[(0,.agg (Zg a0)),(1,.agg (Zg a1))]⟩ (Zq O n []) _
 refine zQ [2,3] ?_
 refine Zk ?_
 refine zQ [2,3,9] ?_
 refine Zp (t:=(a0.Kind != a1.Kind)) rfl (fun c31 => ?_) (fun c31 => ?_)
 ·replace h:=Zt c31 h
  refine zQ [4] ?_
  exact Y9 [(vB false)]
 replace h:=Zs c31 h
 refine Ky [2,3] [true,true] ?_
 refine Zk ?_
 refine zQ [2,3,11] ?_
 refine Yd ?_
 refine zQ [2,3,11,12] ?_
 refine Zp (t:=(a0.Kind == 0)) rfl (fun c30 => ?_) (fun c30 => ?_)
 ·replace h:=Zt c30 h
  refine zQ [4] ?_
  exact Y9 [(vB true)]
 replace h:=Zs c30 h
 refine zQ [2,3,14] ?_
 refine Zp (t:=(a0.Kind == 1)) rfl (fun c29 => ?_) (fun c29 => ?_)
 ·replace h:=Zt c29 h
  obtain ⟨z7,hz7,h⟩:=bC h
  refine Xe (E':=⟨44,[],[(4,(vB z7))]⟩) (O':=(Zq O n [none,none])) (n0:=(n+2)) ?_ ?_
  ·obtain ⟨y14,hy14,hz7⟩:=bC hz7
   obtain ⟨y15,hy15,hz7⟩:=bC hz7
   obtain ⟨y16,hy16,hz7⟩:=bC hz7
   rcases Bool.eq_false_or_eq_true y16 with c20 | c20
   ·replace hz7:=Zt c20 hz7
    obtain ⟨y17,hy17,hz7⟩:=bC hz7
    obtain ⟨y18,hy18,hz7⟩:=bC hz7
    obtain ⟨y19,hy19,hz7⟩:=bC hz7
    refine Kx Z0 (by kernel_rfl) (Ygg []) (by kernel_rfl) ?_
    refine zX1 c20 ?_
    refine PCall.of (G3 hy14) ?_
    refine zX1 c20 ?_
    refine PCall.of (G3 hy15) ?_
    refine zX1 c20 ?_
    refine PCall.of (Ji hy16) ?_
    refine zX1 c20 ?_
    refine PCall.of (Zgk hy17) ?_
    refine zX1 c20 ?_
    refine PCall.of (Zgk hy18) ?_
    refine zX1 c20 ?_
    refine PCall.of (Y7 hy19) ?_
    refine zX1 c20 ?_
    exact Gd hz7 c20
   replace hz7:=Zs c20 hz7
   refine Kx Z0 (by kernel_rfl) (Yhq []) (by kernel_rfl) ?_
   refine zX1 c20 ?_
   refine PCall.of (G3 hy14) ?_
   refine zX1 c20 ?_
   refine PCall.of (G3 hy15) ?_
   refine zX1 c20 ?_
   refine PCall.of (Ji hy16) ?_
   refine zX1 c20 ?_
   exact Gd hz7 c20
  exact Y9 [(vB z7)]
 replace h:=Zs c29 h
 refine Ky [2,3] [true,true] ?_
 obtain ⟨z23,hz23,h⟩:=bC h
 refine Xe (E':=⟨44,[],[(4,(vB z23))]⟩) (O':=(Zq O n [none,none])) (n0:=(n+2)) ?_ ?_
 ·obtain ⟨y26,hy26,hz23⟩:=bC hz23
  rcases Bool.eq_false_or_eq_true y26 with c28 | c28
  ·replace hz23:=Zt c28 hz23
   obtain ⟨y27,hy27,hz23⟩:=bC hz23
   refine Zbp (Yhx []) c28 ?_
   refine (Ji hy26).then ?_
   refine zX1 c28 ?_
   refine (Y7 hy27).then ?_
   refine zX1 c28 ?_
   exact Gd hz23 c28
  replace hz23:=Zs c28 hz23
  refine Zbp (Yar []) c28 ?_
  refine (Ji hy26).then ?_
  refine zX1 c28 ?_
  exact Gd hz23 c28
 exact Y9 [(vB z23)]
theorem Kw {Jx:(Zb→Zb→Option Bool)} {Zu:((List Zb)→(List Zb)→Option Bool)} (Zlc:Zhs Jx) (Y7:Y6 Zu) {a0:(List Zb)} {a1:(List Zb)} {r:Bool} {O:Objs} {n:Nat} (h:Yb Jx Zu a0 a1=some r):GTo Try.prog 54 [(sL Za a0),(sL Za a1),.fn 37 0 []] O n ((vB r)) O n:=by
 unfold Yb at h
 refine zFn Try.call54 Try.func54 fun hU hN0 hN => ?_
 show W _ _ _ _ ⟨32,[],[(0,(sL Za a0)),(1,(sL Za a1)),(2,.fn 37 0 [])]⟩ (Zq O n []) _
 refine zQ [0,1,2] ?_
 refine Zk ?_
 refine zQ [0,1,2,14] ?_
 refine Zp (t:=((a0.length:Int) != (a1.length:Int))) rfl (fun c10 => ?_) (fun c10 => ?_)
 ·replace h:=Zt c10 h
  refine zQ [6] ?_
  exact Y9 [(vB false)]
 replace h:=Zs c10 h
 refine Ky [0,1,2] [] ?_
 refine Zk ?_
 refine zQd [1,2,15,16,17] [1,2,15,16,17] [] ?_
 obtain ⟨z9,hz9,h⟩:=bC h
 refine Zbu (J:=(Ql (fun z9=>JR n (⟨32,[],[(6,(vB false))]⟩:Env) (Zq O n []) n) (fun z9=>JX 0 n (⟨32,[],[]⟩:Env) (Zq O n []) n))) (z:=z9) ?_ fun hw => ?_
 ·refine Y2 hz9 (fun s0_=>⟨32,[],[(1,(sL Za a1)),(2,.fn 37 0 []),(15,(sL Za a0)),(16,(vI (a0.length:Int))),(17,(vI s0_))]⟩) (fun s0_=>(Zq O n [])) (Ql (fun z9=>JR n (⟨32,[],[(6,(vB false))]⟩:Env) (Zq O n []) n) (fun z9=>JX 0 n (⟨32,[],[]⟩:Env) (Zq O n []) n)) ?_
  intro s0_ x0_ hs0_
  unfold Z7 at hs0_
  try dsimp only
  refine zQ [1,2,15,16,17,18] ?_
  refine Zk ?_
  refine Zp (t:=(decide (s0_ < (a0.length:Int)))) rfl (fun c8 => ?_) (fun c8 => ?_)
  ·replace hs0_:=Zt c8 hs0_
   refine Ky [1,2,15,16,17] [] ?_
   refine Zk ?_
   refine Yd ?_
   refine Zk ?_
   obtain ⟨x2,hx2,ax2,bx2,cx2,hs0_⟩:=bE (f:=Za) Ug (fun _=>rfl) (by decide) hs0_
   refine Zcg [] ax2 bx2 cx2 ?_
   refine zDs [1,2,7,8,15,16,17] [true] ?_
   obtain ⟨x4,hx4,ax4,bx4,cx4,hs0_⟩:=bE (f:=Za) Ug (fun _=>rfl) (by decide) hs0_
   refine Zcg [] ax4 bx4 cx4 ?_
   refine zDs [1,2,8,9,15,16,17] [true,true] ?_
   obtain ⟨y6,hy6,hs0_⟩:=bC hs0_
   refine zCd (Zlc hy6) [1,2,15,16,17,30] [false,false] ?_
   refine Zp (t:=(!y6)) rfl (fun c7 => ?_) (fun c7 => ?_)
   ·replace hs0_:=Zt c7 hs0_
    refine zQ [6] ?_
    refine zW ?_
    exact zEy hs0_
   replace hs0_:=Zs c7 hs0_
   refine Ky [1,2,15,16,17] [false,false] ?_
   refine zR ?_
   exact zEn hs0_
  replace hs0_:=Zs c8 hs0_
  exact zEx hs0_
 rcases z9 with z9 | z9
 ·dsimp only [Ql] at hw h
  refine Kh hw ?_
  try simp only [Y1,Yc,↓reduceIte,Nat.reduceEqDiff]
  exact Zk7 [(vB false)]
 dsimp only [Ql] at hw h
 refine Yo hw ?_
 try simp only [Y1,Yc,↓reduceIte,Nat.reduceEqDiff]
 refine zD [] [] ?_
 refine zQ [6] ?_
 exact Y9 [(vB true)]
theorem Zj7:∀ k,(Zhs ((Xq k).1))∧(Y6 ((Xq k).2)):=fun k=>by
 induction k with
 | zero=>exact ⟨@fun a0 a1 r O n h=>(nomatch (show (none:Option _)=some _ from h)),@fun a0 a1 r O n h=>(nomatch (show (none:Option _)=some _ from h))⟩
 | succ k ih=>exact ⟨@fun a0 a1 r O n h=>Zvm (ih.1) (ih.2)  h,@fun a0 a1 r O n h=>Kw (ih.1) (ih.2)  h⟩
theorem Zxc {a0:Zb} {a1:Zb} {r:Bool} {O:Objs} {n:Nat} (h:Zku a0 a1=some r):GTo Try.prog 37 [.agg (Zg a0),.agg (Zg a1)] O n ((vB r)) O n:=by
 obtain ⟨k,hk⟩:=Gt h
 exact (Zj7 k).1  hk
theorem K5 {a0:(List Zb)} {a1:(List Zb)} {r:Bool} {O:Objs} {n:Nat} (h:Xc a0 a1=some r):GTo Try.prog 54 [(sL Za a0),(sL Za a1),.fn 37 0 []] O n ((vB r)) O n:=by
 obtain ⟨k,hk⟩:=Gt h
 exact (Zj7 k).2  hk
theorem Za0 {a0 r:List Int} {O:Objs} {n:Nat} (h:V5 a0=some r):GTo Try.prog 55 [(sL (eI .u64) a0)] O n (.row n r.length) (Zq O n [some (oR 48 1 (eI .u64) r)]) (n+1):=by
 have h1:=Zub h
 have h2:=Zuc h
 have h3:=Zo8 h
 rw [List.nil_append] at h3
 subst h3
 simp only [List.length_nil,Nat.zero_add] at h1 h2
 clear h
 refine zFn Try.call55 Try.func55 fun hU hN0 hN => ?_
 show W _ _ _ _ ⟨8,[],[(0,(sL (eI .u64) r))]⟩ (Zq O n []) _
 refine zQ [0] ?_
 refine Z37 0 r.length (fl (eI .u64) r) rfl (Nat.le_of_ble_eq_true rfl) (Z6 Ka _) fun A c hA => ?_
 refine zQ [0,4] ?_
 cases A with
 | none =>
  obtain rfl:r=[]:=List.eq_nil_of_length_eq_zero (hA rfl)
  refine Zp (t:=true) rfl (fun _ => ?_) (fun hc=>by cases hc)
  refine zQ [2] ?_
  refine zW ?_
  refine Zlv (k:=1) (L3:=[some ⟨true,48,1,0,[]⟩]) (E2:=⟨8,[],[(2,.row n 0),(2,nV)]⟩) (n3:=(n+1)) (.inr rfl) hU rfl [.row n 0] ?_ ?_
  ·have ha:=Zh5 (ba:=n) (E:=⟨8,[],[(2,.val (.slice none 0 0))]⟩) (O:=(Zq O n [])) (n:=n) 2 48 1 rfl (by omega)
   simp only [Ym] at ha
   exact ha
  simp only [push_cast,seval,Zi,Try.results55,hN0,hN]
 | some A =>
  refine Zp (t:=false) rfl (fun hc=>by cases hc) (fun _ => ?_)
  refine zK ?_
  refine And.intro rfl (And.intro (Nat.le_of_ble_eq_true rfl) ?_)
  refine Zk ?_
  refine Yp Z0 [] ?_
  simp only [push_cast,seval,Zi,h1,h2,hN0,hN]
  refine zW ?_
  refine Zun (.inr rfl) hU rfl [.row n r.length] (by omega) ?_
  simp only [push_cast,seval,Zi,Try.results55,hN0,hN]
theorem Kc {a0 r:List Zb} {O:Objs} {n:Nat} (h:Kj a0=some r):GTo Try.prog 56 [(sL Za a0)] O n (.row n r.length) (Zq O n [some (oR 25 3 Za r)]) (n+1):=by
 have h1:=Zub h
 have h2:=Zuc h
 have h3:=Zo8 h
 rw [List.nil_append] at h3
 subst h3
 simp only [List.length_nil,Nat.zero_add] at h1 h2
 clear h
 refine zFn Try.call56 Try.func56 fun hU hN0 hN => ?_
 show W _ _ _ _ ⟨8,[],[(0,(sL Za r))]⟩ (Zq O n []) _
 refine zQ [0] ?_
 refine Z37 0 r.length (fl Za r) rfl (Nat.le_of_ble_eq_true rfl) (Z6 Y8 _) fun A c hA => ?_
 refine zQ [0,4] ?_
 cases A with
 | none =>
  obtain rfl:r=[]:=List.eq_nil_of_length_eq_zero (hA rfl)
  refine Zp (t:=true) rfl (fun _ => ?_) (fun hc=>by cases hc)
  refine zQ [2] ?_
  refine zW ?_
  refine Zlv (k:=1) (L3:=[some ⟨true,25,3,0,[]⟩]) (E2:=⟨8,[],[(2,.row n 0),(2,nV)]⟩) (n3:=(n+1)) (.inr rfl) hU rfl [.row n 0] ?_ ?_
  ·have ha:=Zh5 (ba:=n) (E:=⟨8,[],[(2,.val (.slice none 0 0))]⟩) (O:=(Zq O n [])) (n:=n) 2 25 3 rfl (by omega)
   simp only [Ym] at ha
   exact ha
  simp only [push_cast,seval,Zi,Try.results56,hN0,hN]
 | some A =>
  refine Zp (t:=false) rfl (fun hc=>by cases hc) (fun _ => ?_)
  refine zK ?_
  refine And.intro rfl (And.intro (Nat.le_of_ble_eq_true rfl) ?_)
  refine Zk ?_
  refine Yp Z0 [] ?_
  simp only [push_cast,seval,Zi,h1,h2,hN0,hN]
  refine zW ?_
  refine Zun (.inr rfl) hU rfl [.row n r.length] (by omega) ?_
  simp only [push_cast,seval,Zi,Try.results56,hN0,hN]
theorem Zz3 {a0:Zb} {a1:Int} {r:Int} {O:Objs} {n:Nat} (h:Zhf a0 a1=some r):GTo Try.prog 57 [.agg (Zg a0),(vI a1)] O n (.val (.int .u64 r)) O n:=by
 unfold Zhf at h
 refine zFn Try.call57 Try.func57 fun hU hN0 hN => ?_
 show W _ _ _ _ ⟨19,[],[(0,.agg (Zg a0)),(1,(vI a1))]⟩ (Zq O n []) _
 refine zQ [1,2] ?_
 refine Zk ?_
 refine zQD [1,2,13] [none,none,none,none,none] ?_
 refine Zp (t:=(cond (decide (a1 < 0)) true (decide ((a0.Words.length:Int)≤a1)))) rfl (fun c3 => ?_) (fun c3 => ?_)
 ·replace h:=Zt c3 h
  refine zQ [4] ?_
  exact Y9 [.val (.int .u64 0)]
 replace h:=Zs c3 h
 refine Ky [1,2] [true] ?_
 obtain ⟨x2,hx2,ax2,bx2,cx2,h⟩:=bE (f:=(eI .u64)) Ziz (fun _=>rfl) (by decide) h
 refine Zlm [4] (Yp Z0 [] ?_)
 refine zF3 ax2 bx2 cx2 ?_
 exact Y9 [.val (.int .u64 x2)]
theorem Zgj {a0:Int} {r:Bool} {O:Objs} {n:Nat} (h:Gi a0=some r):GTo Try.prog 58 [(vI a0)] O n ((vB r)) O n:=by
 unfold Gi at h
 refine zFn Try.call58 Try.func58 fun hU hN0 hN => ?_
 show W _ _ _ _ ⟨9,[],[(0,(vI a0))]⟩ (Zq O n []) _
 refine zQ [0] ?_
 refine zQD [2] [none,none] ?_
 exact Y9 [(vB (cond (decide (a0 < 0)) true (decide (65534 < a0))))]
theorem Zpt {a0:Int} {r:Int} {O:Objs} {n:Nat} (h:Zcq a0=some r):GTo Try.prog 59 [.val (.int .u8 a0)] O n (.val (.int .u64 r)) O n:=by
 unfold Zcq at h
 refine zFn Try.call59 Try.func59 fun hU hN0 hN => ?_
 show W _ _ _ _ ⟨20,[],[(0,.val (.int .u8 a0))]⟩ (Zq O n []) _
 refine zQ [0] ?_
 refine zQ [0,3] ?_
 refine Zk ?_
 refine zQd [0,3,5] [0,3,5] [] ?_
 obtain ⟨z7,hz7,h⟩:=bC h
 refine Yo (E':=⟨20,[],[(3,.val (.int .u64 z7))]⟩) (O':=(Zq O n [])) (n0:=n) ?_ ?_
 ·refine Y2 hz7 (fun s0_=>⟨20,[],[(0,.val (.int .u8 a0)),(3,.val (.int .u64 s0_.1)),(5,(vI s0_.2))]⟩) (fun s0_=>(Zq O n [])) (fun z7=>JX 0 n (⟨20,[],[(3,.val (.int .u64 z7))]⟩:Env) (Zq O n []) n) ?_
  intro s0_ x0_ hs0_
  unfold Zcr at hs0_
  try dsimp only
  refine zQ [0,3,5,6] ?_
  refine Zk ?_
  refine Zp (t:=(decide (s0_.2 < 8))) rfl (fun c6 => ?_) (fun c6 => ?_)
  ·replace hs0_:=Zt c6 hs0_
   refine Ky [0,3,5] [] ?_
   obtain ⟨z1,hz1,hs0_⟩:=bC hs0_
   refine Xe (E':=⟨20,[],[(0,.val (.int .u8 a0)),(3,.val (.int .u64 z1)),(5,(vI s0_.2))]⟩) (O':=(Zq O n [])) (n0:=n) ?_ ?_
   ·refine Yd ?_
    refine zQ [0,3,4,5] ?_
    obtain ⟨pu3,hz1⟩:=bG hz1
    refine Zlm [0,3,4,5,12] (Yp Z0 [] ?_)
    simp only [push_cast,seval,Zi,pu3,hN0,hN]
    refine Zp (t:=((IntKind.u8.wrap (Zjf .u8 (Int.fdiv a0 (2 ^ min (Int.toNat s0_.2) 8)) 1)) == 1)) rfl (fun c5 => ?_) (fun c5 => ?_)
    ·replace hz1:=Zt c5 hz1
     obtain ⟨pu4,hz1⟩:=bG hz1
     refine Yp Z0 [] ?_
     simp only [push_cast,seval,Zi,pu4,hN0,hN]
     obtain rfl:=sI hz1
     refine And.intro rfl (Fit2.of (Z9 hU rfl rfl ?_) (by omega))
     simp only [push_cast,seval,Zi,pu4,hN0,hN]
    replace hz1:=Zs c5 hz1
    refine zK ?_
    exact zEn hz1
   refine zR ?_
   exact zEn hs0_
  replace hs0_:=Zs c6 hs0_
  exact zEx hs0_
 try simp only [Y1,Yc,↓reduceIte,Nat.reduceEqDiff]
 refine zD [3] [] ?_
 refine zQ [2] ?_
 exact Y9 [.val (.int .u64 z7)]
theorem Z22 {a0:Int} {a1:Int} {a2:Int} {r:Int} {O:Objs} {n:Nat} (h:Zgg a0 a1 a2=some r):GTo Try.prog 61 [.val (.int .u64 a0),.val (.int .u64 a1),.val (.int .u8 a2)] O n (.val (.int .u64 r)) O n:=by
 unfold Zgg at h
 refine zFn Try.call61 Try.func61 fun hU hN0 hN => ?_
 show W _ _ _ _ ⟨17,[],[(0,.val (.int .u64 a0)),(1,.val (.int .u64 a1)),(2,.val (.int .u8 a2))]⟩ (Zq O n []) _
 refine zQ [0,1,2] ?_
 refine Zk ?_
 obtain ⟨y2,hy2,h⟩:=bC h
 refine zCd (Zpt hy2) [0,1,7] [] ?_
 refine zQ [6] ?_
 exact Y9 [.val (.int .u64 (IntKind.u64.wrap (Zvc .u64 (IntKind.u64.wrap (Zxw .u64 a0 y2)) (IntKind.u64.wrap (Zjf .u64 a1 y2)))))]
theorem Zru {a0:Zb} {a1:Int} {a2:Int} {r:Zb} {O:Objs} {n:Nat} {i0 j0_0 j0_1:Nat} (hi0:i0 < n) (Un:j0_0 < n) (Zha:j0_1 < n) (Jr:i0≠j0_0) (U0:i0≠j0_1) (Uz:j0_0≠j0_1) (ho0:O i0=some ⟨false,25,3,1,[(vI a0.Kind),.row j0_1 a0.Words.length,.row j0_0 a0.Kids.length]⟩) (U1:O j0_0=some (oR 25 3 Za a0.Kids)) (Zib:O j0_1=some (oR 48 1 (eI .u64) a0.Words)) (h:Zbg a0 a1 a2=some r):GTo Try.prog 60 [.ref i0 0,(vI a1),.val (.int .u64 a2)] O n (.tup []) (Zq (((O.upd j0_0 none).upd j0_1 none).upd i0 (some ⟨false,25,3,1,[(vI r.Kind),.row (n+1) r.Words.length,.row n r.Kids.length]⟩)) n [some (oR 25 3 Za r.Kids),some (oR 48 1 (eI .u64) r.Words)]) (n+2):=by
 unfold Zbg at h
 refine Zi9 Z0 Try.call60 Try.func60 rfl (Nat.le_of_ble_eq_true rfl) (by omega) fun hU => ?_
 have e0:=Jv (ba:=n) (E:=⟨40,[],Ze6 0 [.ref i0 0,.val (.int .i64 a1),.val (.int .u64 a2)]⟩) (O:=(Zq O n [])) (n:=n) (i:=i0) (j:=j0_0) (k:=2) (len:=a0.Kids.length) (q:=⟨false,25,3,1,[.val (.int .i64 a0.Kind),.row j0_1 a0.Words.length,.row j0_0 a0.Kids.length]⟩) (qj:=⟨true,25,3,a0.Kids.length,fl Za a0.Kids⟩) (by rw [Yf _ hi0];first | exact ho0 | exact Z8 _ _ _) rfl (by rw [Yf _ Un];exact U1) Jr (by omega)
 simp only [Yn _ _ Un,Yn _ _ hi0,Y4,Ym,Qh,Zax Jr,List.set_cons_zero,List.set_cons_succ,List.cons_append,List.nil_append,List.length_cons,List.length_nil,Nat.zero_add,Nat.reduceAdd,Nat.add_assoc] at e0
 refine Q6 e0 ?_
 have e1:=Jv (ba:=n) (E:=⟨40,[],Ze6 0 [.ref i0 0,.val (.int .i64 a1),.val (.int .u64 a2)]⟩) (O:=(Zq ((O.upd j0_0 none).upd i0 (some ⟨false,25,3,1,[.val (.int .i64 a0.Kind),.row j0_1 a0.Words.length,.row n a0.Kids.length]⟩)) n [some ⟨true,25,3,a0.Kids.length,fl Za a0.Kids⟩])) (n:=(n+1)) (i:=i0) (j:=j0_1) (k:=1) (len:=a0.Words.length) (q:=⟨false,25,3,1,[.val (.int .i64 a0.Kind),.row j0_1 a0.Words.length,.row n a0.Kids.length]⟩) (qj:=⟨true,48,1,a0.Words.length,fl (eI .u64) a0.Words⟩) (by rw [Yf _ hi0];first | exact ho0 | exact Z8 _ _ _) rfl (by rw [Yf _ Zha,Yv _ _ (Ne.symm U0),Yv _ _ (Ne.symm Uz)];exact Zib) U0 (by omega)
 simp only [Yn _ _ Zha,Yn _ _ hi0,Y4,Ym,Qh,Zax U0,List.set_cons_zero,List.set_cons_succ,List.cons_append,List.nil_append,List.length_cons,List.length_nil,Nat.zero_add,Nat.reduceAdd,Nat.add_assoc] at e1
 refine Q6 e1 ?_
 have hU:=(Und.drop (Und.drop hU j0_0) j0_1)
 have hk0:∀ k,i0 < n+k:=fun k=>by omega
 have hN0:∀ o,Objs.upd ((O.upd j0_0 none).upd j0_1 none) i0 o n=none:=fun o=>X1 hU hi0 _ (Nat.le_refl _)
 have hN:∀ o k,Objs.upd ((O.upd j0_0 none).upd j0_1 none) i0 o (n+k)=none:=fun o k=>X1 hU hi0 _ (Nat.le_add_right _ _)
 show W _ _ _ _ ⟨40,[],[(0,.ref i0 0),(1,(vI a1)),(2,.val (.int .u64 a2))]⟩ (Zq (((O.upd j0_0 none).upd j0_1 none).upd i0 (some ⟨false,25,3,1,[(vI a0.Kind),.row (n+1) a0.Words.length,.row n a0.Kids.length]⟩)) n [some (oR 25 3 Za a0.Kids),some (oR 48 1 (eI .u64) a0.Words)]) _
 refine Zk ?_
 refine zD [0,1,2] [true,true] ?_
 obtain ⟨z3,hz3,h⟩:=bC h
 refine Yo (E':=⟨40,[],[(0,.ref i0 0),(1,(vI a1)),(2,.val (.int .u64 a2))]⟩) (O':=(Zq (((O.upd j0_0 none).upd j0_1 none).upd i0 (some ⟨false,25,3,1,[(vI a0.Kind),.row (n+1) z3.length,.row n a0.Kids.length]⟩)) n [some (oR 25 3 Za a0.Kids),some (oR 48 1 (eI .u64) z3)])) (n0:=(n+2)) ?_ ?_
 ·refine Y2 hz3 (fun s0_=>⟨40,[],[(0,.ref i0 0),(1,(vI a1)),(2,.val (.int .u64 a2))]⟩) (fun s0_=>(Zq (((O.upd j0_0 none).upd j0_1 none).upd i0 (some ⟨false,25,3,1,[(vI a0.Kind),.row (n+1) s0_.length,.row n a0.Kids.length]⟩)) n [some (oR 25 3 Za a0.Kids),some (oR 48 1 (eI .u64) s0_)])) (fun z3=>JX 0 n (⟨40,[],[(0,.ref i0 0),(1,(vI a1)),(2,.val (.int .u64 a2))]⟩:Env) (Zq (((O.upd j0_0 none).upd j0_1 none).upd i0 (some ⟨false,25,3,1,[(vI a0.Kind),.row (n+1) z3.length,.row n a0.Kids.length]⟩)) n [some (oR 25 3 Za a0.Kids),some (oR 48 1 (eI .u64) z3)]) (n+2)) ?_
  intro s0_ x0_ hs0_
  unfold U2 at hs0_
  try dsimp only
  refine Zk ?_
  refine Zlm [0,1,2,16] (Yp Z0 [none,none] ?_)
  refine zX2 hi0 hk0 ?_
  refine zG ?_
  refine Zp (t:=(cond (decide ((s0_.length:Int)≤a1)) (a2 != 0) false)) rfl (fun c2 => ?_) (fun c2 => ?_)
  ·replace hs0_:=Zt c2 hs0_
   refine Ky [0,1,2] [true,true] ?_
   refine Yd ?_
   obtain ⟨l1,pl1,ql1,el1,hs0_⟩:=bA (k:=1) rfl hs0_
   refine Yjj [] pl1 ql1 el1 hi0 hk0 ?_
   obtain rfl:=sI hs0_
   refine And.intro rfl (Fit2.of (Z5 hU rfl rfl ?_) (by omega))
   exact Yjl pl1 ql1 el1 hi0 hk0
  replace hs0_:=Zs c2 hs0_
  refine zXt ?_
  obtain rfl:=sI hs0_
  refine And.intro (fun h=>by cases h) (And.intro rfl (Fit2.of (Z5 hU rfl rfl ?_) (by omega)))
  exact Q2 hi0 hk0
 try simp only [Y1,Yc,↓reduceIte,Nat.reduceEqDiff]
 refine zD [0,1,2] [true,true] ?_
 refine Zbd [0,1,2,32] hi0 hk0 ?_
 refine Zp (t:=(decide (a1 < (z3.length:Int)))) rfl (fun c6 => ?_) (fun c6 => ?_)
 ·replace h:=Zt c6 h
  obtain ⟨x4,hx4,ax4,bx4,cx4,h⟩:=bE (f:=(eI .u64)) Ziz (fun _=>rfl) (by decide) h
  have gu5:Jq (fl (eI .u64) z3) [.val (.int .u64 a2)] (Int.toNat a1 * 1)=some (fl (eI .u64) (Zgr z3 a1 a2)):=Zj6 (f:=(eI .u64)) (ti:=⟨.bool,1,0,[],false⟩) (x:=a2) (fun _=>rfl) (Zfc hx4)
  refine Yji [] ax4 bx4 cx4 gu5 hi0 hk0 ?_
  obtain rfl:=sI h
  refine Ja (k:=2) (i:=i0) (q1:=⟨false,25,3,1,[(vI a0.Kind),.row (n+1) (Zgr z3 a1 a2).length,.row n a0.Kids.length]⟩) (L3:=[some (oR 25 3 Za a0.Kids),some (oR 48 1 (eI .u64) (Zgr z3 a1 a2)),none]) (E2:=(⟨40,[],[]⟩:Env)) (n3:=(n+3)) (.inl rfl) hU rfl [] ?_ ?_
  ·refine Fit2.trans (E':=(⟨40,[],[]⟩:Env)) (O':=(Zq (((O.upd j0_0 none).upd j0_1 none).upd i0 (some ⟨false,25,3,1,[(vI a0.Kind),.row (n+1) (Zgr z3 a1 a2).length,.row n a0.Kids.length]⟩)) n [some (oR 25 3 Za a0.Kids),some (oR 48 1 (eI .u64) (Zgr z3 a1 a2))])) (n':=(n+2)) (Fit2.of (Z5 hU rfl rfl ?_) (by omega)) ?_
   ·exact Yjg ax4 bx4 cx4 gu5 hi0 hk0
   refine X3 (k:=2) (k':=3) hU [0,1] [0,1,0] rfl rfl rfl rfl ⟨rfl,rfl⟩ ?_
   exact Q2 hi0 hk0
  simp only [push_cast,seval,Zi,Try.results60,hi0,hk0,hN0,hN]
 replace h:=Zs c6 h
 refine zK ?_
 obtain rfl:=sI h
 refine Ja (k:=2) (i:=i0) (q1:=⟨false,25,3,1,[(vI a0.Kind),.row (n+1) z3.length,.row n a0.Kids.length]⟩) (L3:=[some (oR 25 3 Za a0.Kids),some (oR 48 1 (eI .u64) z3),none]) (E2:=(⟨40,[],[]⟩:Env)) (n3:=(n+3)) (.inl rfl) hU rfl [] ?_ ?_
 ·refine Fit2.trans (E':=(⟨40,[],[]⟩:Env)) (O':=(Zq (((O.upd j0_0 none).upd j0_1 none).upd i0 (some ⟨false,25,3,1,[(vI a0.Kind),.row (n+1) z3.length,.row n a0.Kids.length]⟩)) n [some (oR 25 3 Za a0.Kids),some (oR 48 1 (eI .u64) z3)])) (n':=(n+2)) (Fit2.of (Z5 hU rfl rfl ?_) (by omega)) ?_
  ·exact Q2 hi0 hk0
  refine X3 (k:=2) (k':=3) hU [0,1] [0,1,0] rfl rfl rfl rfl ⟨rfl,rfl⟩ ?_
  exact Q2 hi0 hk0
 simp only [push_cast,seval,Zi,Try.results60,hi0,hk0,hN0,hN]
theorem Zsw {a0:Zb} {a1:Int} {r:Zb} {O:Objs} {n:Nat} (h:Zig a0 a1=some r):GTo Try.prog 62 [.agg (Zg a0),(vI a1)] O n (.agg (Zg r)) O n:=by
 unfold Zig at h
 refine zFn Try.call62 Try.func62 fun hU hN0 hN => ?_
 show W _ _ _ _ ⟨20,[],[(0,.agg (Zg a0)),(1,(vI a1))]⟩ (Zq O n []) _
 refine zQ [1,2,4] ?_
 refine Zk ?_
 refine zQD [1,2,4,13] [none,none,none,none,none] ?_
 refine Zp (t:=(cond (decide (a1 < 0)) true (decide ((a0.Kids.length:Int)≤a1)))) rfl (fun c3 => ?_) (fun c3 => ?_)
 ·replace h:=Zt c3 h
  refine Zk ?_
  refine zRd [4] [false,true] ?_
  exact Y9 [.agg [(vI 0),nV,nV]]
 replace h:=Zs c3 h
 refine Ky [1,2,4] [true,true] ?_
 refine Zk ?_
 obtain ⟨x2,hx2,ax2,bx2,cx2,h⟩:=bE (f:=Za) Ug (fun _=>rfl) (by decide) h
 refine Zcg [] ax2 bx2 cx2 ?_
 refine zD [4] [false,true] ?_
 exact Y9 [.agg (Zg x2)]
theorem Zs6 {a0:Zb} {a1:Int} {a2:Zb} {r:Zb} {O:Objs} {n:Nat} {i0 j0_0:Nat} (hi0:i0 < n) (Un:j0_0 < n) (Jr:i0≠j0_0) (ho0:O i0=some ⟨false,25,3,1,[(vI a0.Kind),(sL (eI .u64) a0.Words),.row j0_0 a0.Kids.length]⟩) (U1:O j0_0=some (oR 25 3 Za a0.Kids)) (h:Zcp a0 a1 a2=some r):GTo Try.prog 63 [.ref i0 0,(vI a1),.agg (Zg a2)] O n (.tup []) (Zq ((O.upd j0_0 none).upd i0 (some ⟨false,25,3,1,[(vI r.Kind),(sL (eI .u64) r.Words),.row n r.Kids.length]⟩)) n [some (oR 25 3 Za r.Kids)]) (n+1):=by
 unfold Zcp at h
 refine Zi9 Z0 Try.call63 Try.func63 rfl (Nat.le_of_ble_eq_true rfl) (by omega) fun hU => ?_
 have e0:=Jv (ba:=n) (E:=⟨43,[],Ze6 0 [.ref i0 0,.val (.int .i64 a1),.agg [.val (.int .i64 a2.Kind),.sl a2.Words.length (fl (eI .u64) a2.Words),.sl a2.Kids.length (fl Za a2.Kids)]]⟩) (O:=(Zq O n [])) (n:=n) (i:=i0) (j:=j0_0) (k:=2) (len:=a0.Kids.length) (q:=⟨false,25,3,1,[.val (.int .i64 a0.Kind),.sl a0.Words.length (fl (eI .u64) a0.Words),.row j0_0 a0.Kids.length]⟩) (qj:=⟨true,25,3,a0.Kids.length,fl Za a0.Kids⟩) (by rw [Yf _ hi0];first | exact ho0 | exact Z8 _ _ _) rfl (by rw [Yf _ Un];exact U1) Jr (by omega)
 simp only [Yn _ _ Un,Yn _ _ hi0,Y4,Ym,Qh,Zax Jr,List.set_cons_zero,List.set_cons_succ,List.cons_append,List.nil_append,List.length_cons,List.length_nil,Nat.zero_add,Nat.reduceAdd,Nat.add_assoc] at e0
 refine Q6 e0 ?_
 have hU:=(Und.drop hU j0_0)
 have hk0:∀ k,i0 < n+k:=fun k=>by omega
 have hN0:∀ o,Objs.upd (O.upd j0_0 none) i0 o n=none:=fun o=>X1 hU hi0 _ (Nat.le_refl _)
 have hN:∀ o k,Objs.upd (O.upd j0_0 none) i0 o (n+k)=none:=fun o k=>X1 hU hi0 _ (Nat.le_add_right _ _)
 show W _ _ _ _ ⟨43,[],[(0,.ref i0 0),(1,(vI a1)),(2,.agg (Zg a2))]⟩ (Zq ((O.upd j0_0 none).upd i0 (some ⟨false,25,3,1,[(vI a0.Kind),(sL (eI .u64) a0.Words),.row n a0.Kids.length]⟩)) n [some (oR 25 3 Za a0.Kids)]) _
 refine Zbd [0,1,5] hi0 hk0 ?_
 refine Zk ?_
 refine zD [0,1,5] [true,true] ?_
 obtain ⟨z5,hz5,h⟩:=bC h
 refine Yo (E':=⟨43,[],[(0,.ref i0 0),(1,(vI a1)),(5,.ref (n+1) 0)]⟩) (O':=(Zq ((O.upd j0_0 none).upd i0 (some ⟨false,25,3,1,[(vI a0.Kind),(sL (eI .u64) a0.Words),.row n z5.length]⟩)) n [some (oR 25 3 Za z5),some ⟨false,25,3,1,(Zg a2)⟩])) (n0:=(n+2)) ?_ ?_
 ·refine Y2 hz5 (fun s0_=>⟨43,[],[(0,.ref i0 0),(1,(vI a1)),(5,.ref (n+1) 0)]⟩) (fun s0_=>(Zq ((O.upd j0_0 none).upd i0 (some ⟨false,25,3,1,[(vI a0.Kind),(sL (eI .u64) a0.Words),.row n s0_.length]⟩)) n [some (oR 25 3 Za s0_),some ⟨false,25,3,1,(Zg a2)⟩])) (fun z5=>JX 0 n (⟨43,[],[(0,.ref i0 0),(1,(vI a1)),(5,.ref (n+1) 0)]⟩:Env) (Zq ((O.upd j0_0 none).upd i0 (some ⟨false,25,3,1,[(vI a0.Kind),(sL (eI .u64) a0.Words),.row n z5.length]⟩)) n [some (oR 25 3 Za z5),some ⟨false,25,3,1,(Zg a2)⟩]) (n+2)) ?_
  intro s0_ x0_ hs0_
  unfold Gv at hs0_
  try dsimp only
  refine Zk ?_
  refine Zlm [0,1,5,17] (Yp Z0 [none,none,none] ?_)
  refine zX2 hi0 hk0 ?_
  refine zG ?_
  refine Zp (t:=(cond (decide ((s0_.length:Int)≤a1)) (a2.Kind != 0) false)) rfl (fun c4 => ?_) (fun c4 => ?_)
  ·replace hs0_:=Zt c4 hs0_
   refine Ky [0,1,5] [true,true] ?_
   refine Yd ?_
   obtain ⟨l1,pl1,ql1,el1,hs0_⟩:=bA (k:=1) rfl hs0_
   obtain ⟨x2,hx2,ax2,bx2,cx2,hs0_⟩:=bE (f:=Za) Ug (fun _=>rfl) (by decide) hs0_
   have gu3:Jq (fl Za s0_++[.val (.int .i64 0),.val (.slice none 0 0),.val (.slice none 0 0)]) [.val (.int .i64 0),.val (.slice none 0 0),.val (.slice none 0 0)] (List.length s0_ * 3)=some (fl Za s0_++[.val (.int .i64 0),.val (.slice none 0 0),.val (.slice none 0 0)]):=Zay (f:=Za) (sz:=3) (fun _=>rfl) rfl rfl
   refine Zae Z0 (by kernel_rfl) [.plain,.low,.low,.low,.plain,.low,.pass,.bar,.shp,.fill true,.shp,.shp,.fill false] (fun i=>i < (n+2)) [0,1,2,3,4,5,6,7,8,9,10,11,12] [.plain,.low,.low,.low,.plain,.low,.pass,.bar,.shp,.fill true,.shp,.shp,.fill false] [] (by kernel_rfl) rfl ?_
   refine zF9 pl1 ql1 el1 ax2 bx2 cx2 gu3 hi0 hk0 ?_
   refine zO ?_
   obtain rfl:=sI hs0_
   refine And.intro rfl (Fit2.of (Z5 hU rfl rfl ?_) (by omega))
   exact Z34 pl1 ql1 el1 ax2 bx2 cx2 gu3 hi0 hk0
  replace hs0_:=Zs c4 hs0_
  refine zXt ?_
  obtain rfl:=sI hs0_
  refine And.intro (fun h=>by cases h) (And.intro rfl (Fit2.of (Z5 hU rfl rfl ?_) (by omega)))
  exact Q2 hi0 hk0
 try simp only [Y1,Yc,↓reduceIte,Nat.reduceEqDiff]
 refine zD [0,1,5] [true,true] ?_
 refine Zbd [0,1,5,35] hi0 hk0 ?_
 refine Zp (t:=(decide (a1 < (z5.length:Int)))) rfl (fun c8 => ?_) (fun c8 => ?_)
 ·replace h:=Zt c8 h
  obtain ⟨x6,hx6,ax6,bx6,cx6,h⟩:=bE (f:=Za) Ug (fun _=>rfl) (by decide) h
  have gu7:Jq (fl Za z5) [.val (.int .i64 a2.Kind),.sl a2.Words.length (fl (eI .u64) a2.Words),.sl a2.Kids.length (fl Za a2.Kids)] (Int.toNat a1 * 3)=some (fl Za (Zgr z5 a1 a2)):=(congrArg (fun c=>Jq (fl Za z5) c (Int.toNat a1 * 3)) (show [.val (.int .i64 a2.Kind),.sl a2.Words.length (fl (eI .u64) a2.Words),.sl a2.Kids.length (fl Za a2.Kids)]=Za a2 from by simp only [Za,Yq,eI,eB,eS,eL])).trans (Zj6 (f:=Za) (ti:=⟨.bool,3,0,[],false⟩) (x:=a2) (fun _=>rfl) (Zfc hx6))
  refine Zg1 Z0 (by kernel_rfl) [false,false,false,false,false,false,false,true] [] (by kernel_rfl) ?_
  refine zF6 ax6 bx6 cx6 gu7 hi0 hk0 ?_
  obtain rfl:=sI h
  refine Ja (k:=1) (i:=i0) (q1:=⟨false,25,3,1,[(vI a0.Kind),(sL (eI .u64) a0.Words),.row n (Zgr z5 a1 a2).length]⟩) (L3:=[some (oR 25 3 Za (Zgr z5 a1 a2)),none]) (E2:=(⟨43,[],[]⟩:Env)) (n3:=(n+2)) (.inl rfl) hU rfl [] ?_ ?_
  ·refine Fit2.trans (E':=(⟨43,[],[]⟩:Env)) (O':=(Zq ((O.upd j0_0 none).upd i0 (some ⟨false,25,3,1,[(vI a0.Kind),(sL (eI .u64) a0.Words),.row n (Zgr z5 a1 a2).length]⟩)) n [some (oR 25 3 Za (Zgr z5 a1 a2)),none])) (n':=(n+2)) (Fit2.of (Z5 hU rfl rfl ?_) (by omega)) ?_
   ·exact Yjg ax6 bx6 cx6 gu7 hi0 hk0
   refine X3 (k:=2) (k':=2) hU [0,1] [0,0] rfl rfl rfl rfl ⟨rfl,rfl⟩ ?_
   exact Q2 hi0 hk0
  simp only [push_cast,seval,Zi,Try.results63,hi0,hk0,hN0,hN]
 replace h:=Zs c8 h
 refine zK ?_
 obtain rfl:=sI h
 refine Ja (k:=1) (i:=i0) (q1:=⟨false,25,3,1,[(vI a0.Kind),(sL (eI .u64) a0.Words),.row n z5.length]⟩) (L3:=[some (oR 25 3 Za z5),none]) (E2:=(⟨43,[],[]⟩:Env)) (n3:=(n+2)) (.inl rfl) hU rfl [] ?_ ?_
 ·refine Fit2.trans (E':=(⟨43,[],[]⟩:Env)) (O':=(Zq ((O.upd j0_0 none).upd i0 (some ⟨false,25,3,1,[(vI a0.Kind),(sL (eI .u64) a0.Words),.row n z5.length]⟩)) n [some (oR 25 3 Za z5),none])) (n':=(n+2)) (Fit2.of (Z5 hU rfl rfl ?_) (by omega)) ?_
  ·exact Q2 hi0 hk0
  refine X3 (k:=2) (k':=2) hU [0,1] [0,0] rfl rfl rfl rfl ⟨rfl,rfl⟩ ?_
  exact Q2 hi0 hk0
 simp only [push_cast,seval,Zi,Try.results63,hi0,hk0,hN0,hN]
theorem Zz2 {a0:Int} {r:Bool} {O:Objs} {n:Nat} (h:Zhe a0=some r):GTo Try.prog 64 [(vI a0)] O n ((vB r)) O n:=by
 unfold Zhe at h
 refine zFn Try.call64 Try.func64 fun hU hN0 hN => ?_
 show W _ _ _ _ ⟨9,[],[(0,(vI a0))]⟩ (Zq O n []) _
 refine zQ [0] ?_
 refine zQD [2] [none,none] ?_
 exact Y9 [(vB (cond (decide (2≤a0)) (decide (a0≤9)) false))]
attribute [local push_cast] Try.results10 Try.results21 Try.results23 Try.results38 Try.results39 Try.results65 Try.results74 Try.results9
def Gj (Yz:(Zc→Zb→Option (Zb×Bool))):Prop:=∀ {a0:Zc} {a1:Zb} {r:(Zb×Bool)} {O:Objs} {n:Nat},Yz a0 a1=some r→GTo Try.prog 21 [.agg (Ze a0),.agg (Zg a1)] O n (.tup [.agg (Zg r.1),(vB r.2)]) O n
def J9 (Ya:(Zc→Zb→Option (Zb×Bool))):Prop:=∀ {a0:Zc} {a1:Zb} {r:(Zb×Bool)} {O:Objs} {n:Nat},Ya a0 a1=some r→GTo Try.prog 38 [.agg (Ze a0),.agg (Zg a1)] O n (.tup [.agg (Zg r.1),(vB r.2)]) O n
def Gk (Xb:(Zc→Zb→Option (Zb×Bool))):Prop:=∀ {a0:Zc} {a1:Zb} {r:(Zb×Bool)} {O:Objs} {n:Nat},Xb a0 a1=some r→GTo Try.prog 39 [.agg (Ze a0),.agg (Zg a1)] O n (.tup [.agg (Zg r.1),(vB r.2)]) O n
def Q9 (Zz:(Zj→Zl→Option (Bool×Zj))):Prop:=∀ {a0:Zj} {a1:Zl} {r:(Bool×Zj)} {O:Objs} {n:Nat} {i0 j0_0:Nat},i0 < n→j0_0 < n→i0≠j0_0→O i0=some ⟨false,87,2,1,[(sL Za a0.left),.row j0_0 a0.out.length]⟩→O j0_0=some (oR 25 3 Za a0.out)→Zz a0 a1=some r→GTo Try.prog 65 [.ref i0 0,.agg (Yy a1)] O n ((vB r.1)) (Zq ((O.upd j0_0 none).upd i0 (some ⟨false,87,2,1,[(sL Za r.2.left),.row n r.2.out.length]⟩)) n [some (oR 25 3 Za r.2.out)]) (n+1)
def Qi (Zy:(Zj→Zc→Option (Bool×Zj))):Prop:=∀ {a0:Zj} {a1:Zc} {r:(Bool×Zj)} {O:Objs} {n:Nat} {i0 j0_0:Nat},i0 < n→j0_0 < n→i0≠j0_0→O i0=some ⟨false,87,2,1,[(sL Za a0.left),.row j0_0 a0.out.length]⟩→O j0_0=some (oR 25 3 Za a0.out)→Zy a0 a1=some r→GTo Try.prog 74 [.ref i0 0,.agg (Ze a1)] O n ((vB r.1)) (Zq ((O.upd j0_0 none).upd i0 (some ⟨false,87,2,1,[(sL Za r.2.left),.row n r.2.out.length]⟩)) n [some (oR 25 3 Za r.2.out)]) (n+1)
theorem Zvj {Yz:(Zc→Zb→Option (Zb×Bool))} {Ya:(Zc→Zb→Option (Zb×Bool))} {Xb:(Zc→Zb→Option (Zb×Bool))} {Zz:(Zj→Zl→Option (Bool×Zj))} {Zy:(Zj→Zc→Option (Bool×Zj))} (Ku:Gj Yz) (Vp:J9 Ya) (Zbj:Gk Xb) (Kk:Q9 Zz) (Jb:Qi Zy) {a0:Zc} {a1:Zb} {r:(Zb×Bool)} {O:Objs} {n:Nat} (h:Gn Yz Ya Xb Zz Zy a0 a1=some r):GTo Try.prog 21 [.agg (Ze a0),.agg (Zg a1)] O n (.tup [.agg (Zg r.1),(vB r.2)]) O n:=by
 unfold Gn at h
 refine zFn Try.call21 Try.func21 fun hU hN0 hN => ?_
 show W _ _ _ _ ⟨34,[],[(0,.agg (Ze a0)),(1,.agg (Zg a1))]⟩ (Zq O n []) _
 refine zQ [2,3,4] ?_
 refine Zk ?_
 refine zQ [2,3,4,7] ?_
 refine Yd ?_
 refine zQ [2,3,4,7,8] ?_
 refine Zp (t:=(a0.Kind == 0)) rfl (fun c10 => ?_) (fun c10 => ?_)
 ·replace h:=Zt c10 h
  refine Zk ?_
  refine zRd [4,5] [false,false,true] ?_
  exact Y9 [.agg (Zg a1),(vB true)]
 replace h:=Zs c10 h
 refine zQ [2,3,4,7,11] ?_
 refine Zp (t:=(a0.Kind == 1)) rfl (fun c9 => ?_) (fun c9 => ?_)
 ·replace h:=Zt c9 h
  refine Zk ?_
  obtain ⟨y2,hy2,h⟩:=bC h
  refine Zg1 Z0 (by kernel_rfl) [false,false,false,false,false,false,true,false] [] (by kernel_rfl) ?_
  refine zS ?_
  refine PCall.of (Zxc hy2) ?_
  refine zS ?_
  refine zD [4,5] [false,false,true] ?_
  exact Y9 [.agg (Zg a0.New),(vB y2)]
 replace h:=Zs c9 h
 refine zQ [2,3,4,7,19] ?_
 refine Zp (t:=(a0.Kind == 2)) rfl (fun c8 => ?_) (fun c8 => ?_)
 ·replace h:=Zt c8 h
  refine Zk ?_
  obtain ⟨y4,hy4,h⟩:=bC h
  refine zCd (Vp hy4) [4,5] [false,false,true] ?_
  exact Y9 [.agg (Zg y4.1),(vB y4.2)]
 replace h:=Zs c8 h
 refine zQ [2,3,4,26] ?_
 refine Zp (t:=(a0.Kind == 3)) rfl (fun c7 => ?_) (fun c7 => ?_)
 ·replace h:=Zt c7 h
  refine Zk ?_
  obtain ⟨y6,hy6,h⟩:=bC h
  refine zCd (Zbj hy6) [4,5] [false,false,true] ?_
  exact Y9 [.agg (Zg y6.1),(vB y6.2)]
 replace h:=Zs c7 h
 refine Ky [4] [false,false,true] ?_
 refine Zk ?_
 refine zRd [4,5] [false,false,true] ?_
 exact Y9 [.agg [(vI 0),nV,nV],(vB false)]
theorem Znh {Yz:(Zc→Zb→Option (Zb×Bool))} {Ya:(Zc→Zb→Option (Zb×Bool))} {Xb:(Zc→Zb→Option (Zb×Bool))} {Zz:(Zj→Zl→Option (Bool×Zj))} {Zy:(Zj→Zc→Option (Bool×Zj))} (Ku:Gj Yz) (Vp:J9 Ya) (Zbj:Gk Xb) (Kk:Q9 Zz) (Jb:Qi Zy) {a0:Zc} {a1:Zb} {r:(Zb×Bool)} {O:Objs} {n:Nat} (h:Vr Yz Ya Xb Zz Zy a0 a1=some r):GTo Try.prog 38 [.agg (Ze a0),.agg (Zg a1)] O n (.tup [.agg (Zg r.1),(vB r.2)]) O n:=by
 unfold Vr at h
 refine zFn Try.call38 Try.func38 fun hU hN0 hN => ?_
 show W _ _ _ _ ⟨92,[],[(0,.agg (Ze a0)),(1,.agg (Zg a1))]⟩ (Zq O n []) _
 refine zQ [2,3,4] ?_
 refine Zk ?_
 refine zQ [2,3,4,16] ?_
 refine Zp (t:=(a1.Kind != 1)) rfl (fun c138 => ?_) (fun c138 => ?_)
 ·replace h:=Zt c138 h
  refine Zk ?_
  refine zRd [4,5] [false,false,true] ?_
  exact Y9 [.agg [(vI 0),nV,nV],(vB false)]
 replace h:=Zs c138 h
 refine Ky [2,3,4] [true,true,true] ?_
 obtain ⟨y25,hy25,h⟩:=bC h
 obtain ⟨y61,hy61,h⟩:=bC h
 refine Xe (E':=⟨92,[],[(2,.ref n 0),(3,.ref (n+1) 0),(4,.ref (n+2) 0),(6,.ref (n+5) 0)]⟩) (O':=(Zq O n [some ⟨false,30,11,1,(Ze a0)⟩,some ⟨false,25,3,1,(Zg a1)⟩,some ⟨false,25,3,1,[(vI 0),nV,nV]⟩,some (oR 48 1 (eI .u64) y25),some (oR 25 3 Za y61),some ⟨false,25,3,1,[(vI 1),.row (n+3) y25.length,.row (n+4) y61.length]⟩])) (n0:=(n+6)) ?_ ?_
 ·refine Yc7 Z0 (by kernel_rfl) [.low,.low,.pass,.low,.low,.pass,.plain,.pass,.pass] (fun i=>i < (n+3)) [0,1,3,4] [2,5,6,7] [8] (.alt 2 (.alt 5 (.seq [6,7]) (.one 7 (.seq [5,6]))) (.one 7 (.seq [2,5,6]))) [.low,.low,.low,.low] [] (by kernel_rfl) rfl ?_
  simp (maxSteps:=4000000) only [push_cast,seval,Zi,hN0,hN]
  repeat (with_reducible refine And.intro (by omega) ?_)
  try simp only [push_cast,seval,Zi,hN0,hN]
  refine And.intro ?_ ?_
  ·try simp only [push_cast,seval,Zi,hN0,hN]
   repeat (with_reducible refine And.intro (by first | exact K6 rfl | exact Jy) ?_)
   refine (Za0 hy25).then ?_
   try simp only [push_cast,seval,Zi,hN0,hN]
   repeat (with_reducible refine And.intro (by first | exact K6 rfl | exact Jy) ?_)
   try simp only [push_cast,seval,Zi,hN0,hN]
   refine And.intro ?_ ?_
   ·try simp only [push_cast,seval,Zi,hN0,hN]
    repeat (with_reducible refine And.intro (by first | exact K6 rfl | exact Jy) ?_)
    refine (Kc hy61).then ?_
    try simp only [push_cast,seval,Zi,hN0,hN]
    repeat (with_reducible refine And.intro (by first | exact K6 rfl | exact Jy) ?_)
    try simp only [push_cast,seval,Zi,hN0,hN]
    repeat (with_reducible refine And.intro (by first | exact K6 rfl | exact Jy) ?_)
    exact zEf
   try simp only [push_cast,seval,Zi,hN0,hN]
   repeat (with_reducible refine And.intro (by first | exact K6 rfl | exact Jy) ?_)
   try simp only [push_cast,seval,Zi,hN0,hN]
   repeat (with_reducible refine And.intro (by first | exact K6 rfl | exact Jy) ?_)
   refine (Kc hy61).then ?_
   try simp only [push_cast,seval,Zi,hN0,hN]
   repeat (with_reducible refine And.intro (by first | exact K6 rfl | exact Jy) ?_)
   refine And.intro rfl ?_
   refine Fit2.trans (E':=(⟨92,[],[(2,.ref n 0),(3,.ref (n+1) 0),(4,.ref (n+2) 0),(6,.ref (n+4) 0)]⟩:Env)) (O':=(Zq O n [some ⟨false,30,11,1,(Ze a0)⟩,some ⟨false,25,3,1,(Zg a1)⟩,some ⟨false,25,3,1,[(vI 0),nV,nV]⟩,some (oR 48 1 (eI .u64) y25),some ⟨false,25,3,1,[(vI 1),.row (n+3) y25.length,.row (n+5) y61.length]⟩,some (oR 25 3 Za y61)])) (n':=(n+6)) (Fit2.of (Z9 hU rfl rfl ?_) (by omega)) ?_
   ·exact zSe
   refine X0 (k:=6) (k':=6) hU [0,1,2,3,5,4] [0,1,2,3,5,4] rfl rfl rfl rfl ⟨rfl,rfl⟩ ?_
   exact zSe
  try simp only [push_cast,seval,Zi,hN0,hN]
  repeat (with_reducible refine And.intro (by first | exact K6 rfl | exact Jy) ?_)
  try simp only [push_cast,seval,Zi,hN0,hN]
  repeat (with_reducible refine And.intro (by first | exact K6 rfl | exact Jy) ?_)
  refine (Za0 hy25).then ?_
  try simp only [push_cast,seval,Zi,hN0,hN]
  repeat (with_reducible refine And.intro (by first | exact K6 rfl | exact Jy) ?_)
  refine (Kc hy61).then ?_
  try simp only [push_cast,seval,Zi,hN0,hN]
  repeat (with_reducible refine And.intro (by first | exact K6 rfl | exact Jy) ?_)
  refine And.intro rfl ?_
  refine Fit2.trans (E':=(⟨92,[],[(2,.ref n 0),(3,.ref (n+1) 0),(4,.ref (n+2) 0),(6,.ref (n+3) 0)]⟩:Env)) (O':=(Zq O n [some ⟨false,30,11,1,(Ze a0)⟩,some ⟨false,25,3,1,(Zg a1)⟩,some ⟨false,25,3,1,[(vI 0),nV,nV]⟩,some ⟨false,25,3,1,[(vI 1),.row (n+4) y25.length,.row (n+5) y61.length]⟩,some (oR 48 1 (eI .u64) y25),some (oR 25 3 Za y61)])) (n':=(n+6)) (Fit2.of (Z9 hU rfl rfl ?_) (by omega)) ?_
  ·exact zSe
  refine X0 (k:=6) (k':=6) hU [0,1,2,5,3,4] [0,1,2,4,5,3] rfl rfl rfl rfl ⟨rfl,rfl⟩ ?_
  exact zSe
 refine Zk ?_
 refine zQd [2,3,4,6,26,27,28] [2,3,4,6,26,27,28] [true,true,true,true,true,true] ?_
 refine Q6 (E':=(⟨92,[],[(2,.ref n 0),(3,.ref (n+1) 0),(4,.ref (n+2) 0),(6,.ref (n+5) 0),(26,(sL Zf a0.Words)),(27,(vI (a0.Words.length:Int))),(28,(vI 0))]⟩:Env)) (O':=(Zq O n [some ⟨false,30,11,1,(Ze a0)⟩,some ⟨false,25,3,1,(Zg a1)⟩,some ⟨false,25,3,1,[(vI 0),nV,nV]⟩,none,none,some ⟨false,25,3,1,[(vI 1),.row (n+6) y25.length,.row (n+7) y61.length]⟩,some (oR 48 1 (eI .u64) y25),some (oR 25 3 Za y61),none])) (n':=(n+9)) ?_ ?_
 ·refine Fit2.trans (E':=(⟨92,[],[(2,.ref n 0),(3,.ref (n+1) 0),(4,.ref (n+2) 0),(6,.ref (n+5) 0),(26,(sL Zf a0.Words)),(27,(vI (a0.Words.length:Int))),(28,(vI 0))]⟩:Env)) (O':=(Zq O n [some ⟨false,30,11,1,(Ze a0)⟩,some ⟨false,25,3,1,(Zg a1)⟩,some ⟨false,25,3,1,[(vI 0),nV,nV]⟩,some (oR 48 1 (eI .u64) y25),some (oR 25 3 Za y61),some ⟨false,25,3,1,[(vI 1),.row (n+3) y25.length,.row (n+4) y61.length]⟩])) (n':=(n+6)) (Fit2.of (Z9 hU rfl rfl ?_) (by omega)) ?_
  ·exact zSe
  refine X0 (k:=6) (k':=9) hU [0,1,2,6,7,5] [0,1,2,0,0,5,3,4,0] rfl rfl rfl rfl ⟨rfl,rfl⟩ ?_
  exact zSe
 obtain ⟨z125,hz125,h⟩:=bC h
 refine Zbu (J:=(Ql (fun z125=>JR n (⟨92,[],[(4,.ref (n+2) 0),(5,(vB false))]⟩:Env) (Zq O n [none,none,some ⟨false,25,3,1,[(vI 0),nV,nV]⟩,none,none,none]) (n+6)) (fun z125=>JX 0 n (⟨92,[],[(2,.ref n 0),(3,.ref (n+1) 0),(4,.ref (n+2) 0),(6,.ref (n+5) 0)]⟩:Env) (Zq O n [some ⟨false,30,11,1,(Ze a0)⟩,some ⟨false,25,3,1,(Zg a1)⟩,some ⟨false,25,3,1,[(vI 0),nV,nV]⟩,none,none,some ⟨false,25,3,1,[(vI z125.1),.row (n+6) z125.2.1.length,.row (n+7) z125.2.2.length]⟩,some (oR 48 1 (eI .u64) z125.2.1),some (oR 25 3 Za z125.2.2),none]) (n+9)))) (z:=z125) ?_ fun hw => ?_
 ·refine Y2 hz125 (fun s0_=>⟨92,[],[(2,.ref n 0),(3,.ref (n+1) 0),(4,.ref (n+2) 0),(6,.ref (n+5) 0),(26,(sL Zf a0.Words)),(27,(vI (a0.Words.length:Int))),(28,(vI s0_.1))]⟩) (fun s0_=>(Zq O n [some ⟨false,30,11,1,(Ze a0)⟩,some ⟨false,25,3,1,(Zg a1)⟩,some ⟨false,25,3,1,[(vI 0),nV,nV]⟩,none,none,some ⟨false,25,3,1,[(vI s0_.2.1),.row (n+6) s0_.2.2.1.length,.row (n+7) s0_.2.2.2.length]⟩,some (oR 48 1 (eI .u64) s0_.2.2.1),some (oR 25 3 Za s0_.2.2.2),none])) (Ql (fun z125=>JR n (⟨92,[],[(4,.ref (n+2) 0),(5,(vB false))]⟩:Env) (Zq O n [none,none,some ⟨false,25,3,1,[(vI 0),nV,nV]⟩,none,none,none]) (n+6)) (fun z125=>JX 0 n (⟨92,[],[(2,.ref n 0),(3,.ref (n+1) 0),(4,.ref (n+2) 0),(6,.ref (n+5) 0)]⟩:Env) (Zq O n [some ⟨false,30,11,1,(Ze a0)⟩,some ⟨false,25,3,1,(Zg a1)⟩,some ⟨false,25,3,1,[(vI 0),nV,nV]⟩,none,none,some ⟨false,25,3,1,[(vI z125.1),.row (n+6) z125.2.1.length,.row (n+7) z125.2.2.length]⟩,some (oR 48 1 (eI .u64) z125.2.1),some (oR 25 3 Za z125.2.2),none]) (n+9))) ?_
  intro s0_ x0_ hs0_
  unfold Qu at hs0_
  try dsimp only
  refine zQ [2,3,4,6,26,27,28,29] ?_
  refine Zk ?_
  refine Zp (t:=(decide (s0_.1 < (a0.Words.length:Int)))) rfl (fun c124 => ?_) (fun c124 => ?_)
  ·replace hs0_:=Zt c124 hs0_
   refine Ky [2,3,4,6,26,27,28] [true,true,true,false,false,true,true,true,false] ?_
   refine Zk ?_
   refine Yd ?_
   refine Zk ?_
   obtain ⟨x110,hx110,ax110,bx110,cx110,hs0_⟩:=bE (f:=Zf) Zx9 (fun _=>rfl) (by decide) hs0_
   refine Zcg [] ax110 bx110 cx110 ?_
   refine zDs [2,3,4,6,8,26,27,28] [true,true,true,false,false,true,true,true,false,true] ?_
   obtain ⟨y112,hy112,hs0_⟩:=bC hs0_
   refine zCd (Zz3 hy112) [2,3,4,6,8,9,26,27,28] [true,true,true,false,false,true,true,true,false,true] ?_
   refine Zk ?_
   obtain ⟨z115,hz115,hs0_⟩:=bC hs0_
   refine Xe (E':=⟨92,[],[(2,.ref n 0),(3,.ref (n+1) 0),(4,.ref (n+2) 0),(6,.ref (n+5) 0),(8,.ref (n+9) 0),(9,.val (.int .u64 y112)),(26,(sL Zf a0.Words)),(27,(vI (a0.Words.length:Int))),(28,(vI s0_.1)),(49,(vB z115))]⟩) (O':=(Zq O n [some ⟨false,30,11,1,(Ze a0)⟩,some ⟨false,25,3,1,(Zg a1)⟩,some ⟨false,25,3,1,[(vI 0),nV,nV]⟩,none,none,some ⟨false,25,3,1,[(vI s0_.2.1),.row (n+6) s0_.2.2.1.length,.row (n+7) s0_.2.2.2.length]⟩,some (oR 48 1 (eI .u64) s0_.2.2.1),some (oR 25 3 Za s0_.2.2.2),none,some ⟨false,57,4,1,(Zal x110)⟩])) (n0:=(n+10)) ?_ ?_
   ·obtain ⟨y118,hy118,hz115⟩:=bC hz115
    rcases Bool.eq_false_or_eq_true y118 with c120 | c120
    ·replace hz115:=Zt c120 hz115
     refine Kx Z0 (by kernel_rfl) (Z8q []) (by kernel_rfl) ?_
     refine zX1 c120 ?_
     refine PCall.of (Zgj hy118) ?_
     refine zX1 c120 ?_
     exact Gd hz115 c120
    replace hz115:=Zs c120 hz115
    obtain ⟨y119,hy119,hz115⟩:=bC hz115
    refine Kx Z0 (by kernel_rfl) (Yhz []) (by kernel_rfl) ?_
    refine zX1 c120 ?_
    refine PCall.of (Zgj hy118) ?_
    refine zX1 c120 ?_
    refine PCall.of (Zpt hy119) ?_
    refine zX1 c120 ?_
    exact Gd hz115 c120
   refine Zp (t:=z115) rfl (fun c123 => ?_) (fun c123 => ?_)
   ·replace hs0_:=Zt c123 hs0_
    refine Zk ?_
    refine zRd [4,5] [false,false,true,false,false,false,false,false,false,false] ?_
    refine zW ?_
    exact zEy hs0_
   replace hs0_:=Zs c123 hs0_
   refine Ky [2,3,4,6,8,9,26,27,28] [true,true,true,false,false,true,true,true,false,true] ?_
   obtain ⟨y121,hy121,hs0_⟩:=bC hs0_
   obtain ⟨y122,hy122,hs0_⟩:=bC hs0_
   refine Zg1 Z0 (by kernel_rfl) [false,false,false,false,false,false,false,false,true] [] (by kernel_rfl) ?_
   refine zS ?_
   refine PCall.of (Z22 hy121) ?_
   refine zS ?_
   refine (Zru (i0:=(n+5)) (j0_0:=(n+7)) (j0_1:=(n+6)) (by omega) (by omega) (by omega) (by omega) (by omega) (by omega) (by simp only [push_cast,seval,Zi,Yl,hN0,hN] <;> rfl) (by simp only [push_cast,seval,Zi,Yl,hN0,hN] <;> rfl) (by simp only [push_cast,seval,Zi,Yl,hN0,hN] <;> rfl) hy122).then ?_
   refine zS ?_
   refine zD [2,3,4,6,26,27,28] [true,true,true,false,false,true,false,false,false,false,true,true] ?_
   refine zR ?_
   obtain rfl:=sI hs0_
   refine And.intro rfl ?_
   refine Fit2.trans (E':=(⟨92,[],[(2,.ref n 0),(3,.ref (n+1) 0),(4,.ref (n+2) 0),(6,.ref (n+5) 0),(26,(sL Zf a0.Words)),(27,(vI (a0.Words.length:Int))),(28,(vI (IntKind.i64.wrap (s0_.1+1))))]⟩:Env)) (O':=(Zq O n [some ⟨false,30,11,1,(Ze a0)⟩,some ⟨false,25,3,1,(Zg a1)⟩,some ⟨false,25,3,1,[(vI 0),nV,nV]⟩,none,none,some ⟨false,25,3,1,[(vI y122.Kind),.row (n+11) y122.Words.length,.row (n+10) y122.Kids.length]⟩,none,none,none,none,some (oR 25 3 Za y122.Kids),some (oR 48 1 (eI .u64) y122.Words)])) (n':=(n+12)) (Fit2.of (Z9 hU rfl rfl ?_) (by omega)) ?_
   ·exact zSe
   refine X0 (k:=12) (k':=9) hU [0,1,2,8,8,5,8,8,8,8,7,6] [0,1,2,0,0,5,11,10,0] rfl rfl rfl rfl ⟨rfl,rfl⟩ ?_
   exact zSe
  replace hs0_:=Zs c124 hs0_
  exact zEx hs0_
 rcases z125 with z125 | z125
 ·dsimp only [Ql] at hw h
  refine Kh hw ?_
  try simp only [Y1,Yc,↓reduceIte,Nat.reduceEqDiff]
  exact Zk7 [.agg [(vI 0),nV,nV],(vB false)]
 dsimp only [Ql] at hw h
 refine Yo hw ?_
 try simp only [Y1,Yc,↓reduceIte,Nat.reduceEqDiff]
 refine zDs [2,3,4,6] [true,true,true,false,false,true,true,true,false] ?_
 refine zQd [3,4,6,62,63,64] [3,4,6,62,63,64] [false,true,true,false,false,true,true,true,false] ?_
 refine Q6 (E':=(⟨92,[],[(3,.ref (n+1) 0),(4,.ref (n+2) 0),(6,.ref (n+5) 0),(62,(sL Zh a0.Kids)),(63,(vI (a0.Kids.length:Int))),(64,(vI 0))]⟩:Env)) (O':=(Zq O n [none,some ⟨false,25,3,1,(Zg a1)⟩,some ⟨false,25,3,1,[(vI 0),nV,nV]⟩,none,none,some ⟨false,25,3,1,[(vI z125.1),(sL (eI .u64) z125.2.1),.row (n+9) z125.2.2.length]⟩,none,none,none,some (oR 25 3 Za z125.2.2),none])) (n':=(n+11)) ?_ ?_
 ·refine Fit2.trans (E':=(⟨92,[],[(3,.ref (n+1) 0),(4,.ref (n+2) 0),(6,.ref (n+5) 0),(62,(sL Zh a0.Kids)),(63,(vI (a0.Kids.length:Int))),(64,(vI 0))]⟩:Env)) (O':=(Zq O n [none,some ⟨false,25,3,1,(Zg a1)⟩,some ⟨false,25,3,1,[(vI 0),nV,nV]⟩,none,none,some ⟨false,25,3,1,[(vI z125.1),(sL (eI .u64) z125.2.1),.row (n+7) z125.2.2.length]⟩,none,some (oR 25 3 Za z125.2.2),none])) (n':=(n+9)) (Fit2.of (Z9 hU rfl rfl ?_) (by omega)) ?_
  ·exact zSe
  refine X0 (k:=9) (k':=11) hU [10,1,2,10,10,5,10,9,10] [0,1,2,0,0,5,0,0,0,7,0] rfl rfl rfl rfl ⟨rfl,rfl⟩ ?_
  exact zSe
 obtain ⟨z137,hz137,h⟩:=bC h
 refine Zbu (J:=(Ql (fun z137=>JR n (⟨92,[],[(4,.ref (n+2) 0),(5,(vB false))]⟩:Env) (Zq O n [none,none,some ⟨false,25,3,1,[(vI 0),nV,nV]⟩,none,none,none,none,none,none]) (n+9)) (fun z137=>JX 2 n (⟨92,[],[(4,.ref (n+2) 0),(6,.ref (n+5) 0)]⟩:Env) (Zq O n [none,none,some ⟨false,25,3,1,[(vI 0),nV,nV]⟩,none,none,some ⟨false,25,3,1,[(vI z137.1),(sL (eI .u64) z137.2.1),.row (n+9) z137.2.2.length]⟩,none,none,none,some (oR 25 3 Za z137.2.2),none]) (n+11)))) (z:=z137) ?_ fun hw => ?_
 ·refine Y2 hz137 (fun s1_=>⟨92,[],[(3,.ref (n+1) 0),(4,.ref (n+2) 0),(6,.ref (n+5) 0),(62,(sL Zh a0.Kids)),(63,(vI (a0.Kids.length:Int))),(64,(vI s1_.1))]⟩) (fun s1_=>(Zq O n [none,some ⟨false,25,3,1,(Zg a1)⟩,some ⟨false,25,3,1,[(vI 0),nV,nV]⟩,none,none,some ⟨false,25,3,1,[(vI s1_.2.1),(sL (eI .u64) s1_.2.2.1),.row (n+9) s1_.2.2.2.length]⟩,none,none,none,some (oR 25 3 Za s1_.2.2.2),none])) (Ql (fun z137=>JR n (⟨92,[],[(4,.ref (n+2) 0),(5,(vB false))]⟩:Env) (Zq O n [none,none,some ⟨false,25,3,1,[(vI 0),nV,nV]⟩,none,none,none,none,none,none]) (n+9)) (fun z137=>JX 2 n (⟨92,[],[(4,.ref (n+2) 0),(6,.ref (n+5) 0)]⟩:Env) (Zq O n [none,none,some ⟨false,25,3,1,[(vI 0),nV,nV]⟩,none,none,some ⟨false,25,3,1,[(vI z137.1),(sL (eI .u64) z137.2.1),.row (n+9) z137.2.2.length]⟩,none,none,none,some (oR 25 3 Za z137.2.2),none]) (n+11))) ?_
  intro s1_ x1_ hs1_
  unfold Qc at hs1_
  try dsimp only
  refine zQ [3,4,6,62,63,64,65] ?_
  refine Zk ?_
  refine Zp (t:=(decide (s1_.1 < (a0.Kids.length:Int)))) rfl (fun c136 => ?_) (fun c136 => ?_)
  ·replace hs1_:=Zt c136 hs1_
   refine Ky [3,4,6,62,63,64] [false,true,true,false,false,true,false,false,false,true,false] ?_
   refine Zk ?_
   refine Yd ?_
   refine Zk ?_
   obtain ⟨x127,hx127,ax127,bx127,cx127,hs1_⟩:=bE (f:=Zh) Znt (fun _=>rfl) (by decide) hs1_
   refine Zcg [] ax127 bx127 cx127 ?_
   refine zDs [3,4,6,11,62,63,64] [false,true,true,false,false,true,false,false,false,true,false,true] ?_
   obtain ⟨y130,hy130,hs1_⟩:=bC hs1_
   obtain ⟨y131,hy131,hs1_⟩:=bC hs1_
   refine Zae Z0 (by kernel_rfl) [.low,.low,.low,.low,.low,.low,.low,.plain,.plain,.plain,.pass,.bar,.plain] (fun i=>i < (n+12)) [0,1,2,3,4,5,6,7,8,9,10,11,12] [.low,.low,.low,.low,.low,.low,.low,.plain,.plain,.plain,.pass,.bar,.plain] [] (by kernel_rfl) rfl ?_
   refine zS ?_
   refine zO ?_
   first | refine PCallA.of (fun _ _=>Zsw hy130) ?_ | refine PCall.of (Zsw hy130) ?_
   refine zS ?_
   refine zO ?_
   first | refine PCallA.of (fun _ _=>Ku hy131) ?_ | refine PCall.of (Ku hy131) ?_
   refine zS ?_
   refine zO ?_
   refine zDs [3,4,6,11,12,13,62,63,64] [false,true,true,false,false,true,false,false,false,true,false,true,true] ?_
   refine Zk ?_
   obtain ⟨y133,hy133,hs1_⟩:=bC hs1_
   refine zRo [none,none] ?_
   refine zG ?_
   refine zTs (Zgj hy133) ?_
   refine zG ?_
   refine zD [3,4,6,11,12,62,63,64,84] [false,true,true,false,false,true,false,false,false,true,false,true,true] ?_
   refine Zp (t:=(cond y133 true (!y131.2))) rfl (fun c135 => ?_) (fun c135 => ?_)
   ·replace hs1_:=Zt c135 hs1_
    refine Zk ?_
    refine zRd [4,5] [false,false,true,false,false,false,false,false,false,false,false,false,false] ?_
    refine zW ?_
    exact zEy hs1_
   replace hs1_:=Zs c135 hs1_
   refine Ky [3,4,6,11,12,62,63,64] [false,true,true,false,false,true,false,false,false,true,false,true,true] ?_
   obtain ⟨y134,hy134,hs1_⟩:=bC hs1_
   refine zR ?_
   refine (Zs6 (i0:=(n+5)) (j0_0:=(n+9)) (by omega) (by omega) (by omega) (by simp only [push_cast,seval,Zi,Yl,hN0,hN] <;> rfl) (by simp only [push_cast,seval,Zi,Yl,hN0,hN] <;> rfl) hy134).then ?_
   refine zS ?_
   refine zD [3,4,6,62,63,64] [false,true,true,false,false,true,false,false,false,false,false,false,false,true] ?_
   refine zR ?_
   obtain rfl:=sI hs1_
   refine And.intro rfl ?_
   refine Fit2.trans (E':=(⟨92,[],[(3,.ref (n+1) 0),(4,.ref (n+2) 0),(6,.ref (n+5) 0),(62,(sL Zh a0.Kids)),(63,(vI (a0.Kids.length:Int))),(64,(vI (IntKind.i64.wrap (s1_.1+1))))]⟩:Env)) (O':=(Zq O n [none,some ⟨false,25,3,1,(Zg a1)⟩,some ⟨false,25,3,1,[(vI 0),nV,nV]⟩,none,none,some ⟨false,25,3,1,[(vI y134.Kind),(sL (eI .u64) y134.Words),.row (n+13) y134.Kids.length]⟩,none,none,none,none,none,none,none,some (oR 25 3 Za y134.Kids)])) (n':=(n+14)) (Fit2.of (Z9 hU rfl rfl ?_) (by omega)) ?_
   ·exact zSe
   refine X0 (k:=14) (k':=11) hU [10,1,2,10,10,5,10,10,10,10,10,10,10,9] [0,1,2,0,0,5,0,0,0,13,0] rfl rfl rfl rfl ⟨rfl,rfl⟩ ?_
   exact zSe
  replace hs1_:=Zs c136 hs1_
  exact zEx hs1_
 rcases z137 with z137 | z137
 ·dsimp only [Ql] at hw h
  refine Kh hw ?_
  try simp only [Y1,Yc,↓reduceIte,Nat.reduceEqDiff]
  exact Zk7 [.agg [(vI 0),nV,nV],(vB false)]
 dsimp only [Ql] at hw h
 refine Yo hw ?_
 try simp only [Y1,Yc,↓reduceIte,Nat.reduceEqDiff]
 refine zDs [4,6] [false,false,true,false,false,true,false,false,false,true,false] ?_
 refine zRd [4,5] [false,false,true,false,false,false,false,false,false,true,false] ?_
 exact Y9 [.agg [(vI z137.1),(sL (eI .u64) z137.2.1),.row (n+9) z137.2.2.length],(vB true)]
theorem Zvk {Yz:(Zc→Zb→Option (Zb×Bool))} {Ya:(Zc→Zb→Option (Zb×Bool))} {Xb:(Zc→Zb→Option (Zb×Bool))} {Zz:(Zj→Zl→Option (Bool×Zj))} {Zy:(Zj→Zc→Option (Bool×Zj))} (Ku:Gj Yz) (Vp:J9 Ya) (Zbj:Gk Xb) (Kk:Q9 Zz) (Jb:Qi Zy) {a0:Zc} {a1:Zb} {r:(Zb×Bool)} {O:Objs} {n:Nat} (h:Zdo Yz Ya Xb Zz Zy a0 a1=some r):GTo Try.prog 39 [.agg (Ze a0),.agg (Zg a1)] O n (.tup [.agg (Zg r.1),(vB r.2)]) O n:=by
 unfold Zdo at h
 refine zFn Try.call39 Try.func39 fun hU hN0 hN => ?_
 show W _ _ _ _ ⟨45,[],[(0,.agg (Ze a0)),(1,.agg (Zg a1))]⟩ (Zq O n []) _
 refine zQ [2,3,4] ?_
 refine Zk ?_
 obtain ⟨z2,hz2,h⟩:=bC h
 refine Xe (E':=⟨45,[],[(2,.ref n 0),(3,.ref (n+1) 0),(4,.ref (n+2) 0),(19,(vB z2))]⟩) (O':=(Zq O n [some ⟨false,30,11,1,(Ze a0)⟩,some ⟨false,25,3,1,(Zg a1)⟩,some ⟨false,25,3,1,[(vI 0),nV,nV]⟩])) (n0:=(n+3)) ?_ ?_
 ·rcases Bool.eq_false_or_eq_true (a1.Kind != a0.List_) with c5 | c5
  ·replace hz2:=Zt c5 hz2
   refine Zbp (Yhp []) c5 ?_
   exact Gd hz2 c5
  replace hz2:=Zs c5 hz2
  obtain ⟨y4,hy4,hz2⟩:=bC hz2
  refine Zbp (Ydz []) c5 ?_
  refine (Zz2 hy4).then ?_
  refine zX1 c5 ?_
  exact Gd hz2 c5
 refine Zp (t:=z2) rfl (fun c13 => ?_) (fun c13 => ?_)
 ·replace h:=Zt c13 h
  refine Zk ?_
  refine zRd [4,5] [false,false,true] ?_
  exact Y9 [.agg [(vI 0),nV,nV],(vB false)]
 replace h:=Zs c13 h
 refine Ky [2,3,4] [true,true,true] ?_
 refine Zk ?_
 refine zRd [2,3,4,6] [true,true,true,true] ?_
 refine Zk ?_
 refine zQd [3,4,6,25,26,27] [3,4,6,25,26,27] [false,true,true,true] ?_
 refine Q6 (E':=(⟨45,[],[(3,.ref (n+1) 0),(4,.ref (n+2) 0),(6,.ref (n+3) 0),(25,(sL Zd a0.Ops)),(26,(vI (a0.Ops.length:Int))),(27,(vI 0))]⟩:Env)) (O':=(Zq O n [none,some ⟨false,25,3,1,(Zg a1)⟩,some ⟨false,25,3,1,[(vI 0),nV,nV]⟩,some ⟨false,87,2,1,[(sL Za a1.Kids),.row (n+4) ([]:List Zb).length]⟩,some (oR 25 3 Za ([]:List Zb)),none])) (n':=(n+6)) ?_ ?_
 ·refine Fit2.trans (E':=(⟨45,[],[(3,.ref (n+1) 0),(4,.ref (n+2) 0),(6,.ref (n+3) 0),(25,(sL Zd a0.Ops)),(26,(vI (a0.Ops.length:Int))),(27,(vI 0))]⟩:Env)) (O':=(Zq O n [none,some ⟨false,25,3,1,(Zg a1)⟩,some ⟨false,25,3,1,[(vI 0),nV,nV]⟩,some ⟨false,87,2,1,[(sL Za a1.Kids),nV]⟩])) (n':=(n+4)) (Fit2.of (Z9 hU rfl rfl ?_) (by omega)) ?_
  ·exact zSe
  refine Fit2.trans (G7 (p:=(n+3)) (k:=1) (q:=⟨false,87,2,1,[(sL Za a1.Kids),nV]⟩) 25 3 (by simp only [Ge,Zdn,List.getElem?_cons_zero,List.getElem?_cons_succ,Option.join_some,List.length_nil,Z8]) rfl (by omega)) ?_
  simp only [Y4,Ym,Gm,V8,List.set_cons_zero,List.set_cons_succ,List.cons_append,List.nil_append,List.length_cons,List.length_nil,Nat.zero_add,Nat.reduceAdd,Nat.reduceLT,Nat.add_assoc]
  refine X0 (k:=5) (k':=6) hU [5,1,2,3,4] [0,1,2,3,4,0] rfl rfl rfl rfl ⟨rfl,rfl⟩ ?_
  exact zSe
 obtain ⟨z12,hz12,h⟩:=bC h
 refine Zbu (J:=(Ql (fun z12=>JR n (⟨45,[],[(4,.ref (n+2) 0),(5,(vB false))]⟩:Env) (Zq O n [none,none,some ⟨false,25,3,1,[(vI 0),nV,nV]⟩,none]) (n+4)) (fun z12=>JX 0 n (⟨45,[],[(3,.ref (n+1) 0),(4,.ref (n+2) 0),(6,.ref (n+3) 0)]⟩:Env) (Zq O n [none,some ⟨false,25,3,1,(Zg a1)⟩,some ⟨false,25,3,1,[(vI 0),nV,nV]⟩,some ⟨false,87,2,1,[(sL Za z12.1),.row (n+4) z12.2.length]⟩,some (oR 25 3 Za z12.2),none]) (n+6)))) (z:=z12) ?_ fun hw => ?_
 ·refine Y2 hz12 (fun s0_=>⟨45,[],[(3,.ref (n+1) 0),(4,.ref (n+2) 0),(6,.ref (n+3) 0),(25,(sL Zd a0.Ops)),(26,(vI (a0.Ops.length:Int))),(27,(vI s0_.1))]⟩) (fun s0_=>(Zq O n [none,some ⟨false,25,3,1,(Zg a1)⟩,some ⟨false,25,3,1,[(vI 0),nV,nV]⟩,some ⟨false,87,2,1,[(sL Za s0_.2.1),.row (n+4) s0_.2.2.length]⟩,some (oR 25 3 Za s0_.2.2),none])) (Ql (fun z12=>JR n (⟨45,[],[(4,.ref (n+2) 0),(5,(vB false))]⟩:Env) (Zq O n [none,none,some ⟨false,25,3,1,[(vI 0),nV,nV]⟩,none]) (n+4)) (fun z12=>JX 0 n (⟨45,[],[(3,.ref (n+1) 0),(4,.ref (n+2) 0),(6,.ref (n+3) 0)]⟩:Env) (Zq O n [none,some ⟨false,25,3,1,(Zg a1)⟩,some ⟨false,25,3,1,[(vI 0),nV,nV]⟩,some ⟨false,87,2,1,[(sL Za z12.1),.row (n+4) z12.2.length]⟩,some (oR 25 3 Za z12.2),none]) (n+6))) ?_
  intro s0_ x0_ hs0_
  unfold Kt at hs0_
  try dsimp only
  refine zQ [3,4,6,25,26,27,28] ?_
  refine Zk ?_
  refine Zp (t:=(decide (s0_.1 < (a0.Ops.length:Int)))) rfl (fun c11 => ?_) (fun c11 => ?_)
  ·replace hs0_:=Zt c11 hs0_
   refine Ky [3,4,6,25,26,27] [false,true,true,true,true,false] ?_
   refine Zk ?_
   refine Yd ?_
   refine Zk ?_
   obtain ⟨x7,hx7,ax7,bx7,cx7,hs0_⟩:=bE (f:=Zd) Zbm (fun _=>rfl) (by decide) hs0_
   refine Zcg [] ax7 bx7 cx7 ?_
   refine zDs [3,4,6,8,25,26,27] [false,true,true,true,true,false,true] ?_
   obtain ⟨y9,hy9,hs0_⟩:=bC hs0_
   refine zR ?_
   refine (Kk (i0:=(n+3)) (j0_0:=(n+4)) (by omega) (by omega) (by omega) (by simp only [push_cast,seval,Zi,Yl,hN0,hN] <;> rfl) (by simp only [push_cast,seval,Zi,Yl,hN0,hN] <;> rfl) hy9).then ?_
   refine zS ?_
   refine zD [3,4,6,25,26,27,33] [false,true,true,true,false,false,false,true] ?_
   refine Zp (t:=(!y9.1)) rfl (fun c10 => ?_) (fun c10 => ?_)
   ·replace hs0_:=Zt c10 hs0_
    refine Zk ?_
    refine zRd [4,5] [false,false,true,false,false,false,false,false] ?_
    refine zW ?_
    exact zEy hs0_
   replace hs0_:=Zs c10 hs0_
   refine Ky [3,4,6,25,26,27] [false,true,true,true,false,false,false,true] ?_
   refine zR ?_
   obtain rfl:=sI hs0_
   refine And.intro rfl ?_
   refine Fit2.trans (E':=(⟨45,[],[(3,.ref (n+1) 0),(4,.ref (n+2) 0),(6,.ref (n+3) 0),(25,(sL Zd a0.Ops)),(26,(vI (a0.Ops.length:Int))),(27,(vI (IntKind.i64.wrap (s0_.1+1))))]⟩:Env)) (O':=(Zq O n [none,some ⟨false,25,3,1,(Zg a1)⟩,some ⟨false,25,3,1,[(vI 0),nV,nV]⟩,some ⟨false,87,2,1,[(sL Za y9.2.left),.row (n+7) y9.2.out.length]⟩,none,none,none,some (oR 25 3 Za y9.2.out)])) (n':=(n+8)) (Fit2.of (Z9 hU rfl rfl ?_) (by omega)) ?_
   ·exact zSe
   refine X0 (k:=8) (k':=6) hU [5,1,2,3,5,5,5,4] [0,1,2,3,7,0] rfl rfl rfl rfl ⟨rfl,rfl⟩ ?_
   exact zSe
  replace hs0_:=Zs c11 hs0_
  exact zEx hs0_
 rcases z12 with z12 | z12
 ·dsimp only [Ql] at hw h
  refine Kh hw ?_
  try simp only [Y1,Yc,↓reduceIte,Nat.reduceEqDiff]
  exact Zk7 [.agg [(vI 0),nV,nV],(vB false)]
 dsimp only [Ql] at hw h
 refine Yo hw ?_
 try simp only [Y1,Yc,↓reduceIte,Nat.reduceEqDiff]
 refine zDs [3,4,6] [false,true,true,true,true,false] ?_
 refine Zae Z0 (by kernel_rfl) [.plain,.plain,.plain,.plain,.plain,.low,.low,.low,.low,.pass,.plain] (fun i=>i≠n+2) [0,1,2,3,4,5,6,7,8,9,10] [.plain,.plain,.plain,.plain,.plain,.low,.low,.low,.low,.pass,.plain] [] (by kernel_rfl) rfl ?_
 refine zS ?_
 refine zO ?_
 refine zD [4,5] [false,false,true,false,true,false] ?_
 exact Y9 [.agg [(vI a1.Kind),nV,.row (n+4) z12.2.length],(vB ((z12.1.length:Int) == 0))]
theorem Zll {Yz:(Zc→Zb→Option (Zb×Bool))} {Ya:(Zc→Zb→Option (Zb×Bool))} {Xb:(Zc→Zb→Option (Zb×Bool))} {Zz:(Zj→Zl→Option (Bool×Zj))} {Zy:(Zj→Zc→Option (Bool×Zj))} (Ku:Gj Yz) (Vp:J9 Ya) (Zbj:Gk Xb) (Kk:Q9 Zz) (Jb:Qi Zy) {a0:Zj} {a1:Zl} {r:(Bool×Zj)} {O:Objs} {n:Nat} {i0 j0_0:Nat} (hi0:i0 < n) (Un:j0_0 < n) (Jr:i0≠j0_0) (ho0:O i0=some ⟨false,87,2,1,[(sL Za a0.left),.row j0_0 a0.out.length]⟩) (U1:O j0_0=some (oR 25 3 Za a0.out)) (h:V9 Yz Ya Xb Zz Zy a0 a1=some r):GTo Try.prog 65 [.ref i0 0,.agg (Yy a1)] O n ((vB r.1)) (Zq ((O.upd j0_0 none).upd i0 (some ⟨false,87,2,1,[(sL Za r.2.left),.row n r.2.out.length]⟩)) n [some (oR 25 3 Za r.2.out)]) (n+1):=by
 unfold V9 at h
 refine Zi9 Z0 Try.call65 Try.func65 rfl (Nat.le_of_ble_eq_true rfl) (by omega) fun hU => ?_
 have e0:=Jv (ba:=n) (E:=⟨99,[],Ze6 0 [.ref i0 0,.agg [.val (.int .i64 a1.Kind),.val (.int .i64 a1.N),.sl a1.L.length (fl Za a1.L),.val (.int .i64 a1.E.Kind),.val (.int .i64 a1.E.Old.Kind),.sl a1.E.Old.Words.length (fl (eI .u64) a1.E.Old.Words),.sl a1.E.Old.Kids.length (fl Za a1.E.Old.Kids),.val (.int .i64 a1.E.New.Kind),.sl a1.E.New.Words.length (fl (eI .u64) a1.E.New.Words),.sl a1.E.New.Kids.length (fl Za a1.E.New.Kids),.sl a1.E.Words.length (fl Zf a1.E.Words),.sl a1.E.Kids.length (fl Zh a1.E.Kids),.val (.int .i64 a1.E.List_),.sl a1.E.Ops.length (fl Zd a1.E.Ops)]]⟩) (O:=(Zq O n [])) (n:=n) (i:=i0) (j:=j0_0) (k:=1) (len:=a0.out.length) (q:=⟨false,87,2,1,[.sl a0.left.length (fl Za a0.left),.row j0_0 a0.out.length]⟩) (qj:=⟨true,25,3,a0.out.length,fl Za a0.out⟩) (by rw [Yf _ hi0];first | exact ho0 | exact Z8 _ _ _) rfl (by rw [Yf _ Un];exact U1) Jr (by omega)
 simp only [Yn _ _ Un,Yn _ _ hi0,Y4,Ym,Qh,Zax Jr,List.set_cons_zero,List.set_cons_succ,List.cons_append,List.nil_append,List.length_cons,List.length_nil,Nat.zero_add,Nat.reduceAdd,Nat.add_assoc] at e0
 refine Q6 e0 ?_
 have hU:=(Und.drop hU j0_0)
 have hk0:∀ k,i0 < n+k:=fun k=>by omega
 have hN0:∀ o,Objs.upd (O.upd j0_0 none) i0 o n=none:=fun o=>X1 hU hi0 _ (Nat.le_refl _)
 have hN:∀ o k,Objs.upd (O.upd j0_0 none) i0 o (n+k)=none:=fun o k=>X1 hU hi0 _ (Nat.le_add_right _ _)
 show W _ _ _ _ ⟨99,[],[(0,.ref i0 0),(1,.agg (Yy a1))]⟩ (Zq ((O.upd j0_0 none).upd i0 (some ⟨false,87,2,1,[(sL Za a0.left),.row n a0.out.length]⟩)) n [some (oR 25 3 Za a0.out)]) _
 refine Zbd [0,3] hi0 hk0 ?_
 refine Zk ?_
 refine Zbd [0,3,7] hi0 hk0 ?_
 refine Yd ?_
 refine Zbd [0,3,7,8] hi0 hk0 ?_
 refine Zp (t:=(a1.Kind == 0)) rfl (fun c28 => ?_) (fun c28 => ?_)
 ·replace h:=Zt c28 h
  refine Zk ?_
  obtain ⟨z1,hz1,h⟩:=bC h
  refine Xe (E':=⟨99,[],[(0,.ref i0 0),(3,.ref (n+1) 0),(22,(vB z1))]⟩) (O':=(Zq ((O.upd j0_0 none).upd i0 (some ⟨false,87,2,1,[(sL Za a0.left),.row n a0.out.length]⟩)) n [some (oR 25 3 Za a0.out),some ⟨false,46,14,1,(Yy a1)⟩])) (n0:=(n+2)) ?_ ?_
  ·rcases Bool.eq_false_or_eq_true (decide (a1.N < 0)) with c2 | c2
   ·replace hz1:=Zt c2 hz1
    refine Kx Z0 (by kernel_rfl) (Yhr []) (by kernel_rfl) ?_
    refine zX3 c2 hi0 hk0 ?_
    obtain rfl:=sI hz1
    refine And.intro rfl (Fit2.of (Z5 hU rfl rfl ?_) (by omega))
    exact Zxh c2 hi0 hk0
   replace hz1:=Zs c2 hz1
   refine Kx Z0 (by kernel_rfl) (Yhy []) (by kernel_rfl) ?_
   refine zX3 c2 hi0 hk0 ?_
   obtain rfl:=sI hz1
   refine And.intro rfl (Fit2.of (Z5 hU rfl rfl ?_) (by omega))
   exact Zxh c2 hi0 hk0
  refine Zp (t:=z1) rfl (fun c9 => ?_) (fun c9 => ?_)
  ·replace h:=Zt c9 h
   refine Zbd [4] hi0 hk0 ?_
   refine zW ?_
   obtain rfl:=sI h
   refine Ja (k:=1) (i:=i0) (q1:=⟨false,87,2,1,[(sL Za a0.left),.row n a0.out.length]⟩) (L3:=[some (oR 25 3 Za a0.out),none]) (E2:=(⟨99,[],[(4,(vB false))]⟩:Env)) (n3:=(n+2)) (.inr rfl) hU rfl [(vB false)] ?_ ?_
   ·refine Fit2.trans (E':=(⟨99,[],[(4,(vB false))]⟩:Env)) (O':=(Zq ((O.upd j0_0 none).upd i0 (some ⟨false,87,2,1,[(sL Za a0.left),.row n a0.out.length]⟩)) n [some (oR 25 3 Za a0.out),none])) (n':=(n+2)) (Fit2.of (Z5 hU rfl rfl ?_) (by omega)) ?_
    ·exact Q2 hi0 hk0
    refine X3 (k:=2) (k':=2) hU [0,1] [0,0] rfl rfl rfl rfl ⟨rfl,rfl⟩ ?_
    exact Q2 hi0 hk0
   simp only [push_cast,seval,Zi,Try.results65,hi0,hk0,hN0,hN]
  replace h:=Zs c9 h
  refine Ky [0,3] [true,true] ?_
  refine Zk ?_
  obtain ⟨l5,al5,bl5,cl5,gl5,h⟩:=bS (lo:=none) (hi:=(some (.i64,a1.N))) (f:=Za) rfl rfl Zeq Ug (fun _=>rfl) h
  obtain ⟨l6,pl6,ql6,el6,h⟩:=bA (k:=l5.length) rfl h
  refine Zae Z0 (by kernel_rfl) [.plain,.plain,.plain,.plain,.plain,.plain,.plain,.plain,.plain,.plain,.plain,.plain,.pass,.plain,.plain,.bar] (fun i=>i≠n+0) [0,1,2,3,4,5,6,7,8,9,10,11,12,13,14,15] [.plain,.plain,.plain,.plain,.plain,.plain,.plain,.plain,.plain,.plain,.plain,.plain,.pass,.plain,.plain,.bar] [] (by kernel_rfl) rfl ?_
  simp only [push_cast,seval,Zi,al5,bl5,cl5,gl5,pl6,ql6,el6,hi0,hk0,hN0,hN]
  refine zO ?_
  refine Zdy ⟨99,[],[(0,.ref i0 0),(3,.ref (n+1) 0)]⟩ (Zq ((O.upd j0_0 none).upd i0 (some ⟨false,87,2,1,[(sL Za a0.left),.row n l6.length]⟩)) n [some (oR 25 3 Za l6),some ⟨false,46,14,1,(Yy a1)⟩]) (Z5 hU rfl rfl ?_) ?_
  ·simp only [push_cast,seval,Zi,al5,bl5,cl5,gl5,pl6,ql6,el6,hi0,hk0,hN0,hN]
  refine Zk ?_
  obtain ⟨l8,al8,bl8,cl8,gl8,h⟩:=bS (lo:=(some (.i64,a1.N))) (hi:=none) (f:=Za) rfl rfl Zeq Ug (fun _=>rfl) h
  refine Zg1 Z0 (by kernel_rfl) [false,false,false,false,false,false,false,false,false,false,true] [] (by kernel_rfl) ?_
  refine zX6 al8 bl8 cl8 gl8 hi0 hk0 ?_
  refine zD [] [true,false] ?_
  refine Zbd [4] hi0 hk0 ?_
  refine zW ?_
  obtain rfl:=sI h
  refine Ja (k:=1) (i:=i0) (q1:=⟨false,87,2,1,[(sL Za l8),.row n l6.length]⟩) (L3:=[some (oR 25 3 Za l6),none]) (E2:=(⟨99,[],[(4,(vB true))]⟩:Env)) (n3:=(n+2)) (.inr rfl) hU rfl [(vB true)] ?_ ?_
  ·refine Fit2.trans (E':=(⟨99,[],[(4,(vB true))]⟩:Env)) (O':=(Zq ((O.upd j0_0 none).upd i0 (some ⟨false,87,2,1,[(sL Za l8),.row n l6.length]⟩)) n [some (oR 25 3 Za l6),none])) (n':=(n+2)) (Fit2.of (Z5 hU rfl rfl ?_) (by omega)) ?_
   ·exact Q2 hi0 hk0
   refine X3 (k:=2) (k':=2) hU [0,1] [0,0] rfl rfl rfl rfl ⟨rfl,rfl⟩ ?_
   exact Q2 hi0 hk0
  simp only [push_cast,seval,Zi,Try.results65,hi0,hk0,hN0,hN]
 replace h:=Zs c28 h
 refine Zbd [0,3,7,48] hi0 hk0 ?_
 refine Zp (t:=(a1.Kind == 1)) rfl (fun c27 => ?_) (fun c27 => ?_)
 ·replace h:=Zt c27 h
  refine Zbd [0,3,5] hi0 hk0 ?_
  refine Zk ?_
  obtain ⟨z12,hz12,h⟩:=bC h
  refine Xe (E':=⟨99,[],[(0,.ref i0 0),(5,(vI (a1.L.length:Int))),(71,(vB z12))]⟩) (O':=(Zq ((O.upd j0_0 none).upd i0 (some ⟨false,87,2,1,[(sL Za a0.left),.row n a0.out.length]⟩)) n [some (oR 25 3 Za a0.out),none])) (n0:=(n+2)) ?_ ?_
  ·rcases Bool.eq_false_or_eq_true (decide ((a0.left.length:Int) < (a1.L.length:Int))) with c17 | c17
   ·replace hz12:=Zt c17 hz12
    refine Kx Z0 (by kernel_rfl) (Yhk []) (by kernel_rfl) ?_
    refine zX3 c17 hi0 hk0 ?_
    obtain rfl:=sI hz12
    refine And.intro rfl (Fit2.of (Z5 hU rfl rfl ?_) (by omega))
    exact Zxh c17 hi0 hk0
   replace hz12:=Zs c17 hz12
   obtain ⟨l15,al15,bl15,cl15,gl15,hz12⟩:=bS (lo:=none) (hi:=(some (.i64,(a1.L.length:Int)))) (f:=Za) rfl rfl Zeq Ug (fun _=>rfl) hz12
   obtain ⟨y16,hy16,hz12⟩:=bC hz12
   refine Kx Z0 (by kernel_rfl) (Yhw []) (by kernel_rfl) ?_
   simp only [push_cast,seval,Zi,c17,al15,bl15,cl15,gl15,hi0,hk0,hN0,hN]
   refine PCall.of (K5 hy16) ?_
   simp only [push_cast,seval,Zi,c17,al15,bl15,cl15,gl15,hi0,hk0,hN0,hN]
   obtain rfl:=sI hz12
   refine And.intro rfl (Fit2.of (Z5 hU rfl rfl ?_) (by omega))
   simp only [push_cast,seval,Zi,c17,al15,bl15,cl15,gl15,hi0,hk0,hN0,hN]
  refine Zp (t:=z12) rfl (fun c20 => ?_) (fun c20 => ?_)
  ·replace h:=Zt c20 h
   refine Zbd [4] hi0 hk0 ?_
   refine zW ?_
   obtain rfl:=sI h
   refine Ja (k:=1) (i:=i0) (q1:=⟨false,87,2,1,[(sL Za a0.left),.row n a0.out.length]⟩) (L3:=[some (oR 25 3 Za a0.out),none]) (E2:=(⟨99,[],[(4,(vB false))]⟩:Env)) (n3:=(n+2)) (.inr rfl) hU rfl [(vB false)] ?_ ?_
   ·refine Fit2.trans (E':=(⟨99,[],[(4,(vB false))]⟩:Env)) (O':=(Zq ((O.upd j0_0 none).upd i0 (some ⟨false,87,2,1,[(sL Za a0.left),.row n a0.out.length]⟩)) n [some (oR 25 3 Za a0.out),none])) (n':=(n+2)) (Fit2.of (Z5 hU rfl rfl ?_) (by omega)) ?_
    ·exact Q2 hi0 hk0
    refine X3 (k:=2) (k':=2) hU [0,1] [0,0] rfl rfl rfl rfl ⟨rfl,rfl⟩ ?_
    exact Q2 hi0 hk0
   simp only [push_cast,seval,Zi,Try.results65,hi0,hk0,hN0,hN]
  replace h:=Zs c20 h
  refine Ky [0,5] [true,false] ?_
  refine Zk ?_
  obtain ⟨l19,al19,bl19,cl19,gl19,h⟩:=bS (lo:=(some (.i64,(a1.L.length:Int)))) (hi:=none) (f:=Za) rfl rfl Zeq Ug (fun _=>rfl) h
  refine Yc3 [] al19 bl19 cl19 gl19 hi0 hk0 ?_
  refine zD [] [true,false] ?_
  refine Zbd [4] hi0 hk0 ?_
  refine zW ?_
  obtain rfl:=sI h
  refine Ja (k:=1) (i:=i0) (q1:=⟨false,87,2,1,[(sL Za l19),.row n a0.out.length]⟩) (L3:=[some (oR 25 3 Za a0.out),none]) (E2:=(⟨99,[],[(4,(vB true))]⟩:Env)) (n3:=(n+2)) (.inr rfl) hU rfl [(vB true)] ?_ ?_
  ·refine Fit2.trans (E':=(⟨99,[],[(4,(vB true))]⟩:Env)) (O':=(Zq ((O.upd j0_0 none).upd i0 (some ⟨false,87,2,1,[(sL Za l19),.row n a0.out.length]⟩)) n [some (oR 25 3 Za a0.out),none])) (n':=(n+2)) (Fit2.of (Z5 hU rfl rfl ?_) (by omega)) ?_
   ·exact Q2 hi0 hk0
   refine X3 (k:=2) (k':=2) hU [0,1] [0,0] rfl rfl rfl rfl ⟨rfl,rfl⟩ ?_
   exact Q2 hi0 hk0
  simp only [push_cast,seval,Zi,Try.results65,hi0,hk0,hN0,hN]
 replace h:=Zs c27 h
 refine Zbd [0,3,7,81] hi0 hk0 ?_
 refine Zp (t:=(a1.Kind == 2)) rfl (fun c26 => ?_) (fun c26 => ?_)
 ·replace h:=Zt c26 h
  refine Zk ?_
  obtain ⟨l22,pl22,ql22,el22,h⟩:=bA (k:=a1.L.length) rfl h
  refine Zae Z0 (by kernel_rfl) [.plain,.plain,.plain,.plain,.plain,.plain,.plain,.pass,.plain,.plain,.bar] (fun i=>i≠n+0) [0,1,2,3,4,5,6,7,8,9,10] [.plain,.plain,.plain,.plain,.plain,.plain,.plain,.pass,.plain,.plain,.bar] [] (by kernel_rfl) rfl ?_
  refine zX5 pl22 ql22 el22 hi0 hk0 ?_
  refine zO ?_
  refine Zdy ⟨99,[],[]⟩ (Zq ((O.upd j0_0 none).upd i0 (some ⟨false,87,2,1,[(sL Za a0.left),.row n l22.length]⟩)) n [some (oR 25 3 Za l22),none]) (Z5 hU rfl rfl ?_) ?_
  ·exact Yjl pl22 ql22 el22 hi0 hk0
  refine Zbd [4] hi0 hk0 ?_
  refine zW ?_
  obtain rfl:=sI h
  refine Ja (k:=1) (i:=i0) (q1:=⟨false,87,2,1,[(sL Za a0.left),.row n l22.length]⟩) (L3:=[some (oR 25 3 Za l22),none]) (E2:=(⟨99,[],[(4,(vB true))]⟩:Env)) (n3:=(n+2)) (.inr rfl) hU rfl [(vB true)] ?_ ?_
  ·refine Fit2.trans (E':=(⟨99,[],[(4,(vB true))]⟩:Env)) (O':=(Zq ((O.upd j0_0 none).upd i0 (some ⟨false,87,2,1,[(sL Za a0.left),.row n l22.length]⟩)) n [some (oR 25 3 Za l22),none])) (n':=(n+2)) (Fit2.of (Z5 hU rfl rfl ?_) (by omega)) ?_
   ·exact Q2 hi0 hk0
   refine X3 (k:=2) (k':=2) hU [0,1] [0,0] rfl rfl rfl rfl ⟨rfl,rfl⟩ ?_
   exact Q2 hi0 hk0
  simp only [push_cast,seval,Zi,Try.results65,hi0,hk0,hN0,hN]
 replace h:=Zs c26 h
 refine Zbd [0,3,93] hi0 hk0 ?_
 refine Zp (t:=(a1.Kind == 3)) rfl (fun c25 => ?_) (fun c25 => ?_)
 ·replace h:=Zt c25 h
  refine Zk ?_
  obtain ⟨y24,hy24,h⟩:=bC h
  refine U9 [] hi0 hk0 ?_
  refine (Jb (i0:=i0) (j0_0:=n) (by omega) (by omega) (by omega) (by simp only [push_cast,seval,Zi,Yl,hi0,hk0,hN0,hN] <;> rfl) (by simp only [push_cast,seval,Zi,Yl,hi0,hk0,hN0,hN] <;> rfl) hy24).then ?_
  refine zX2 hi0 hk0 ?_
  refine zD [4] [false,false,true] ?_
  refine zW ?_
  obtain rfl:=sI h
  refine Ja (k:=1) (i:=i0) (q1:=⟨false,87,2,1,[(sL Za y24.2.left),.row n y24.2.out.length]⟩) (L3:=[some (oR 25 3 Za y24.2.out),none]) (E2:=(⟨99,[],[(4,(vB y24.1))]⟩:Env)) (n3:=(n+2)) (.inr rfl) hU rfl [(vB y24.1)] ?_ ?_
  ·refine Fit2.trans (E':=(⟨99,[],[(4,(vB y24.1))]⟩:Env)) (O':=(Zq ((O.upd j0_0 none).upd i0 (some ⟨false,87,2,1,[(sL Za y24.2.left),.row (n+2) y24.2.out.length]⟩)) n [none,none,some (oR 25 3 Za y24.2.out)])) (n':=(n+3)) (Fit2.of (Z5 hU rfl rfl ?_) (by omega)) ?_
   ·exact Q2 hi0 hk0
   refine X3 (k:=3) (k':=2) hU [1,1,0] [2,0] rfl rfl rfl rfl ⟨rfl,rfl⟩ ?_
   exact Q2 hi0 hk0
  simp only [push_cast,seval,Zi,Try.results65,hi0,hk0,hN0,hN]
 replace h:=Zs c25 h
 refine Ky [] [true,false] ?_
 refine Zbd [4] hi0 hk0 ?_
 refine zW ?_
 obtain rfl:=sI h
 refine Ja (k:=1) (i:=i0) (q1:=⟨false,87,2,1,[(sL Za a0.left),.row n a0.out.length]⟩) (L3:=[some (oR 25 3 Za a0.out),none]) (E2:=(⟨99,[],[(4,(vB false))]⟩:Env)) (n3:=(n+2)) (.inr rfl) hU rfl [(vB false)] ?_ ?_
 ·refine Fit2.trans (E':=(⟨99,[],[(4,(vB false))]⟩:Env)) (O':=(Zq ((O.upd j0_0 none).upd i0 (some ⟨false,87,2,1,[(sL Za a0.left),.row n a0.out.length]⟩)) n [some (oR 25 3 Za a0.out),none])) (n':=(n+2)) (Fit2.of (Z5 hU rfl rfl ?_) (by omega)) ?_
  ·exact Q2 hi0 hk0
  refine X3 (k:=2) (k':=2) hU [0,1] [0,0] rfl rfl rfl rfl ⟨rfl,rfl⟩ ?_
  exact Q2 hi0 hk0
 simp only [push_cast,seval,Zi,Try.results65,hi0,hk0,hN0,hN]
theorem Zjs {Yz:(Zc→Zb→Option (Zb×Bool))} {Ya:(Zc→Zb→Option (Zb×Bool))} {Xb:(Zc→Zb→Option (Zb×Bool))} {Zz:(Zj→Zl→Option (Bool×Zj))} {Zy:(Zj→Zc→Option (Bool×Zj))} (Ku:Gj Yz) (Vp:J9 Ya) (Zbj:Gk Xb) (Kk:Q9 Zz) (Jb:Qi Zy) {a0:Zj} {a1:Zc} {r:(Bool×Zj)} {O:Objs} {n:Nat} {i0 j0_0:Nat} (hi0:i0 < n) (Un:j0_0 < n) (Jr:i0≠j0_0) (ho0:O i0=some ⟨false,87,2,1,[(sL Za a0.left),.row j0_0 a0.out.length]⟩) (U1:O j0_0=some (oR 25 3 Za a0.out)) (h:Ki Yz Ya Xb Zz Zy a0 a1=some r):GTo Try.prog 74 [.ref i0 0,.agg (Ze a1)] O n ((vB r.1)) (Zq ((O.upd j0_0 none).upd i0 (some ⟨false,87,2,1,[(sL Za r.2.left),.row n r.2.out.length]⟩)) n [some (oR 25 3 Za r.2.out)]) (n+1):=by
 unfold Ki at h
 refine Zi9 Z0 Try.call74 Try.func74 rfl (Nat.le_of_ble_eq_true rfl) (by omega) fun hU => ?_
 have e0:=Jv (ba:=n) (E:=⟨44,[],Ze6 0 [.ref i0 0,.agg [.val (.int .i64 a1.Kind),.val (.int .i64 a1.Old.Kind),.sl a1.Old.Words.length (fl (eI .u64) a1.Old.Words),.sl a1.Old.Kids.length (fl Za a1.Old.Kids),.val (.int .i64 a1.New.Kind),.sl a1.New.Words.length (fl (eI .u64) a1.New.Words),.sl a1.New.Kids.length (fl Za a1.New.Kids),.sl a1.Words.length (fl Zf a1.Words),.sl a1.Kids.length (fl Zh a1.Kids),.val (.int .i64 a1.List_),.sl a1.Ops.length (fl Zd a1.Ops)]]⟩) (O:=(Zq O n [])) (n:=n) (i:=i0) (j:=j0_0) (k:=1) (len:=a0.out.length) (q:=⟨false,87,2,1,[.sl a0.left.length (fl Za a0.left),.row j0_0 a0.out.length]⟩) (qj:=⟨true,25,3,a0.out.length,fl Za a0.out⟩) (by rw [Yf _ hi0];first | exact ho0 | exact Z8 _ _ _) rfl (by rw [Yf _ Un];exact U1) Jr (by omega)
 simp only [Yn _ _ Un,Yn _ _ hi0,Y4,Ym,Qh,Zax Jr,List.set_cons_zero,List.set_cons_succ,List.cons_append,List.nil_append,List.length_cons,List.length_nil,Nat.zero_add,Nat.reduceAdd,Nat.add_assoc] at e0
 refine Q6 e0 ?_
 have hU:=(Und.drop hU j0_0)
 have hk0:∀ k,i0 < n+k:=fun k=>by omega
 have hN0:∀ o,Objs.upd (O.upd j0_0 none) i0 o n=none:=fun o=>X1 hU hi0 _ (Nat.le_refl _)
 have hN:∀ o k,Objs.upd (O.upd j0_0 none) i0 o (n+k)=none:=fun o k=>X1 hU hi0 _ (Nat.le_add_right _ _)
 show W _ _ _ _ ⟨44,[],[(0,.ref i0 0),(1,.agg (Ze a1))]⟩ (Zq ((O.upd j0_0 none).upd i0 (some ⟨false,87,2,1,[(sL Za a0.left),.row n a0.out.length]⟩)) n [some (oR 25 3 Za a0.out)]) _
 refine Zbd [0,3] hi0 hk0 ?_
 refine Zk ?_
 refine Zbd [0,3,12] hi0 hk0 ?_
 refine Zp (t:=((a0.left.length:Int) == 0)) rfl (fun c13 => ?_) (fun c13 => ?_)
 ·replace h:=Zt c13 h
  refine Zbd [4] hi0 hk0 ?_
  refine zW ?_
  obtain rfl:=sI h
  refine Ja (k:=1) (i:=i0) (q1:=⟨false,87,2,1,[(sL Za a0.left),.row n a0.out.length]⟩) (L3:=[some (oR 25 3 Za a0.out),none]) (E2:=(⟨44,[],[(4,(vB false))]⟩:Env)) (n3:=(n+2)) (.inr rfl) hU rfl [(vB false)] ?_ ?_
  ·refine Fit2.trans (E':=(⟨44,[],[(4,(vB false))]⟩:Env)) (O':=(Zq ((O.upd j0_0 none).upd i0 (some ⟨false,87,2,1,[(sL Za a0.left),.row n a0.out.length]⟩)) n [some (oR 25 3 Za a0.out),none])) (n':=(n+2)) (Fit2.of (Z5 hU rfl rfl ?_) (by omega)) ?_
   ·exact Q2 hi0 hk0
   refine X3 (k:=2) (k':=2) hU [0,1] [0,0] rfl rfl rfl rfl ⟨rfl,rfl⟩ ?_
   exact Q2 hi0 hk0
  simp only [push_cast,seval,Zi,Try.results74,hi0,hk0,hN0,hN]
 replace h:=Zs c13 h
 refine Ky [0,3] [true,true] ?_
 refine Zk ?_
 obtain ⟨x3,hx3,ax3,bx3,cx3,h⟩:=bE (f:=Za) Ug (fun _=>rfl) (by decide) h
 obtain ⟨y4,hy4,h⟩:=bC h
 refine Zae Z0 (by kernel_rfl) [.low,.plain,.low,.low,.low,.low,.low,.low,.plain,.plain,.plain,.pass,.bar,.plain] (fun i=>i < (n+2)) [0,1,2,3,4,5,6,7,8,9,10,11,12,13] [.low,.plain,.low,.low,.low,.low,.low,.low,.plain,.plain,.plain,.pass,.bar,.plain] [] (by kernel_rfl) rfl ?_
 refine zF5 ax3 bx3 cx3 hi0 hk0 ?_
 refine zO ?_
 first | refine PCallA.of (fun _ _=>Ku hy4) ?_ | refine PCall.of (Ku hy4) ?_
 refine zF5 ax3 bx3 cx3 hi0 hk0 ?_
 refine zO ?_
 refine zDs [0,5,6] [true,false,true] ?_
 obtain ⟨l8,pl8,ql8,el8,h⟩:=bA (k:=1) rfl h
 obtain ⟨x9,hx9,ax9,bx9,cx9,h⟩:=bE (f:=Za) Ug (fun _=>rfl) (by decide) h
 have gu10:Jq (fl Za a0.out++[.val (.int .i64 0),.val (.slice none 0 0),.val (.slice none 0 0)]) [.val (.int .i64 y4.1.Kind),.sl y4.1.Words.length (fl (eI .u64) y4.1.Words),.sl y4.1.Kids.length (fl Za y4.1.Kids)] (List.length a0.out * 3)=some (fl Za a0.out++[.val (.int .i64 y4.1.Kind),.sl y4.1.Words.length (fl (eI .u64) y4.1.Words),.sl y4.1.Kids.length (fl Za y4.1.Kids)]):=Zay (f:=Za) (sz:=3) (fun _=>rfl) rfl rfl
 refine Zae Z0 (by kernel_rfl) [.plain,.low,.low,.low,.low,.low,.pass,.bar,.shp,.fill true,.shp,.shp,.fill false] (fun i=>i < (n+3)) [0,1,2,3,4,5,6,7,8,9,10,11,12] [.plain,.low,.low,.low,.low,.low,.pass,.bar,.shp,.fill true,.shp,.shp,.fill false] [] (by kernel_rfl) rfl ?_
 refine zF9 pl8 ql8 el8 ax9 bx9 cx9 gu10 hi0 hk0 ?_
 refine zO ?_
 refine Zdy ⟨44,[],[(0,.ref i0 0),(6,(vB y4.2))]⟩ (Zq ((O.upd j0_0 none).upd i0 (some ⟨false,87,2,1,[(sL Za a0.left),.row n (a0.out++[y4.1]).length]⟩)) n [some (oR 25 3 Za (a0.out++[y4.1])),none,none,none]) (Z5 hU rfl rfl ?_) ?_
 ·exact Z34 pl8 ql8 el8 ax9 bx9 cx9 gu10 hi0 hk0
 refine Zk ?_
 obtain ⟨l12,al12,bl12,cl12,gl12,h⟩:=bS (lo:=(some (.i64,1))) (hi:=none) (f:=Za) rfl rfl Zeq Ug (fun _=>rfl) h
 refine Yc3 [] al12 bl12 cl12 gl12 hi0 hk0 ?_
 refine zD [6] [true,false,false,false] ?_
 refine Zbd [4] hi0 hk0 ?_
 refine zW ?_
 obtain rfl:=sI h
 refine Ja (k:=1) (i:=i0) (q1:=⟨false,87,2,1,[(sL Za l12),.row n (a0.out++[y4.1]).length]⟩) (L3:=[some (oR 25 3 Za (a0.out++[y4.1])),none]) (E2:=(⟨44,[],[(4,(vB y4.2))]⟩:Env)) (n3:=(n+2)) (.inr rfl) hU rfl [(vB y4.2)] ?_ ?_
 ·refine Fit2.trans (E':=(⟨44,[],[(4,(vB y4.2))]⟩:Env)) (O':=(Zq ((O.upd j0_0 none).upd i0 (some ⟨false,87,2,1,[(sL Za l12),.row n (a0.out++[y4.1]).length]⟩)) n [some (oR 25 3 Za (a0.out++[y4.1])),none,none,none])) (n':=(n+4)) (Fit2.of (Z5 hU rfl rfl ?_) (by omega)) ?_
  ·exact Q2 hi0 hk0
  refine X3 (k:=4) (k':=2) hU [0,1,1,1] [0,0] rfl rfl rfl rfl ⟨rfl,rfl⟩ ?_
  exact Q2 hi0 hk0
 simp only [push_cast,seval,Zi,Try.results74,hi0,hk0,hN0,hN]
theorem Zrr:∀ k,(Gj ((Zo k).1))∧(J9 ((Zo k).2.1))∧(Gk ((Zo k).2.2.1))∧(Q9 ((Zo k).2.2.2.1))∧(Qi ((Zo k).2.2.2.2)):=fun k=>by
 induction k with
 | zero=>exact ⟨@fun a0 a1 r O n h=>(nomatch (show (none:Option _)=some _ from h)),@fun a0 a1 r O n h=>(nomatch (show (none:Option _)=some _ from h)),@fun a0 a1 r O n h=>(nomatch (show (none:Option _)=some _ from h)),@fun a0 a1 r O n i0 j0_0 hi0 Un Jr ho0 U1 h=>(nomatch (show (none:Option _)=some _ from h)),@fun a0 a1 r O n i0 j0_0 hi0 Un Jr ho0 U1 h=>(nomatch (show (none:Option _)=some _ from h))⟩
 | succ k ih=>exact ⟨@fun a0 a1 r O n h=>Zvj (ih.1) (ih.2.1) (ih.2.2.1) (ih.2.2.2.1) (ih.2.2.2.2)  h,@fun a0 a1 r O n h=>Znh (ih.1) (ih.2.1) (ih.2.2.1) (ih.2.2.2.1) (ih.2.2.2.2)  h,@fun a0 a1 r O n h=>Zvk (ih.1) (ih.2.1) (ih.2.2.1) (ih.2.2.2.1) (ih.2.2.2.2)  h,@fun a0 a1 r O n i0 j0_0 hi0 Un Jr ho0 U1 h=>Zll (ih.1) (ih.2.1) (ih.2.2.1) (ih.2.2.2.1) (ih.2.2.2.2) hi0 Un Jr ho0 U1 h,@fun a0 a1 r O n i0 j0_0 hi0 Un Jr ho0 U1 h=>Zjs (ih.1) (ih.2.1) (ih.2.2.1) (ih.2.2.2.1) (ih.2.2.2.2) hi0 Un Jr ho0 U1 h⟩
theorem Zxa {a0:Zc} {a1:Zb} {r:(Zb×Bool)} {O:Objs} {n:Nat} (h:Zkt a0 a1=some r):GTo Try.prog 21 [.agg (Ze a0),.agg (Zg a1)] O n (.tup [.agg (Zg r.1),(vB r.2)]) O n:=by
 obtain ⟨k,hk⟩:=Gt h
 exact (Zrr k).1  hk
theorem Znr {a0:Zc} {a1:Zb} {r:(Zb×Bool)} {O:Objs} {n:Nat} (h:Zds a0 a1=some r):GTo Try.prog 9 [.agg (Ze a0),.agg (Zg a1)] O n (.tup [.agg (Zg r.1),(vB r.2)]) O n:=by
 unfold Zds at h
 refine zFn Try.call9 Try.func9 fun hU hN0 hN => ?_
 show W _ _ _ _ ⟨19,[],[(0,.agg (Ze a0)),(1,.agg (Zg a1))]⟩ (Zq O n []) _
 refine zQ [2,3,4] ?_
 refine Zk ?_
 obtain ⟨y2,hy2,h⟩:=bC h
 refine zCd (Zxa hy2) [4,6,7] [false,false,true,true] ?_
 refine Zk ?_
 refine zQ [4,6,15] ?_
 refine Zp (t:=(!y2.2)) rfl (fun c5 => ?_) (fun c5 => ?_)
 ·replace h:=Zt c5 h
  refine Zk ?_
  refine zRd [4,5] [false,false,true,false] ?_
  exact Y9 [.agg [(vI 0),nV,nV],(vB false)]
 replace h:=Zs c5 h
 refine Ky [4,6] [false,false,true,true] ?_
 refine Zk ?_
 obtain ⟨y4,hy4,h⟩:=bC h
 refine zCd (Za8 hy4) [4,5] [false,false,true,false] ?_
 exact Y9 [.agg (Zg y4),(vB true)]
theorem Zoi {a0:(List Int)} {r:(List Int)} {O:Objs} {n:Nat} (h:Gx a0=some r):GTo Try.prog 23 [(sL (eI .u64) a0)] O n ((sL (eI .u64) r)) O n:=by
 unfold Gx at h
 refine zFn Try.call23 Try.func23 fun hU hN0 hN => ?_
 show W _ _ _ _ ⟨24,[],[(0,(sL (eI .u64) a0))]⟩ (Zq O n []) _
 refine zQ [0] ?_
 refine zQ [0,3] ?_
 refine Zk ?_
 refine zD [0,3] [] ?_
 obtain ⟨z7,hz7,h⟩:=bC h
 refine Yo (E':=⟨24,[],[(0,(sL (eI .u64) a0)),(3,(vI z7))]⟩) (O':=(Zq O n [])) (n0:=n) ?_ ?_
 ·refine Y2 hz7 (fun s0_=>⟨24,[],[(0,(sL (eI .u64) a0)),(3,(vI s0_))]⟩) (fun s0_=>(Zq O n [])) (fun z7=>JX 0 n (⟨24,[],[(0,(sL (eI .u64) a0)),(3,(vI z7))]⟩:Env) (Zq O n []) n) ?_
  intro s0_ x0_ hs0_
  unfold Vm at hs0_
  try dsimp only
  refine Zk ?_
  obtain ⟨z2,hz2,hs0_⟩:=bC hs0_
  refine Xe (E':=⟨24,[],[(0,(sL (eI .u64) a0)),(3,(vI s0_)),(16,(vB z2))]⟩) (O':=(Zq O n [])) (n0:=n) ?_ ?_
  ·rcases Bool.eq_false_or_eq_true (decide (0 < s0_)) with c5 | c5
   ·replace hz2:=Zt c5 hz2
    obtain ⟨x4,hx4,ax4,bx4,cx4,hz2⟩:=bE (f:=(eI .u64)) Ziz (fun _=>rfl) (by decide) hz2
    refine Zqb (Zz0 []) c5 ax4 bx4 cx4 ?_
    exact Z73 hz2 c5 ax4 bx4 cx4
   replace hz2:=Zs c5 hz2
   refine Zbp (Zzx []) c5 ?_
   exact Gd hz2 c5
  refine Zp (t:=z2) rfl (fun c6 => ?_) (fun c6 => ?_)
  ·replace hs0_:=Zt c6 hs0_
   refine Ky [0,3] [] ?_
   refine Yd ?_
   refine zR ?_
   exact zEn hs0_
  replace hs0_:=Zs c6 hs0_
  exact zEx hs0_
 try simp only [Y1,Yc,↓reduceIte,Nat.reduceEqDiff]
 refine zD [0,3] [] ?_
 refine zQ [0,3,4] ?_
 refine Zk ?_
 obtain ⟨l10,al10,bl10,cl10,gl10,h⟩:=bS (lo:=none) (hi:=(some (.i64,z7))) (f:=(eI .u64)) rfl rfl Zp9 Ziz (fun _=>rfl) h
 obtain ⟨l11,pl11,ql11,el11,h⟩:=bA0 (k:=l10.length) rfl h
 refine Yjk [] al10 bl10 cl10 gl10 pl11 ql11 el11 ?_
 refine Zdy ⟨24,[],[(2,.row n l11.length)]⟩ (Zq O n [some (oR 48 1 (eI .u64) l11)]) (Z9 hU rfl rfl ?_) ?_
 ·simp only [push_cast,seval,Zi,al10,bl10,cl10,gl10,pl11,ql11,el11,hN0,hN]
 exact Y9 [.row n l11.length]
def Zhg (Jj:(Zb→Option Zb)):Prop:=∀ {a0:Zb} {r:Zb} {O:Objs} {n:Nat},Jj a0=some r→GTo Try.prog 10 [.agg (Zg a0)] O n (.agg (Zg r)) O n
theorem Zni {Jj:(Zb→Option Zb)} (Zl9:Zhg Jj) {a0:Zb} {r:Zb} {O:Objs} {n:Nat} (h:Gp Jj a0=some r):GTo Try.prog 10 [.agg (Zg a0)] O n (.agg (Zg r)) O n:=by
 unfold Gp at h
 refine zFn Try.call10 Try.func10 fun hU hN0 hN => ?_
 show W _ _ _ _ ⟨53,[],[(0,.agg (Zg a0))]⟩ (Zq O n []) _
 refine zQ [1,2] ?_
 refine Zk ?_
 refine zQ [1,2,10] ?_
 refine Zp (t:=(a0.Kind == 0)) rfl (fun c19 => ?_) (fun c19 => ?_)
 ·replace h:=Zt c19 h
  refine Zk ?_
  refine zRd [2] [false,true] ?_
  exact Y9 [.agg [(vI 0),nV,nV]]
 replace h:=Zs c19 h
 refine Ky [1,2] [true,true] ?_
 refine zQ [1,2,3] ?_
 refine zQ [1,2,3,4] ?_
 refine Zk ?_
 refine zQd [1,2,3,4,5] [1,2,3,4,5] [true,true] ?_
 refine Q6 (E':=(⟨53,[],[(1,.ref n 0),(2,.ref (n+1) 0),(3,.row (n+2) ([]:List Zb).length),(4,(vI 0)),(5,(vI 0))]⟩:Env)) (O':=(Zq O n [some ⟨false,25,3,1,(Zg a0)⟩,some ⟨false,25,3,1,[(vI 0),nV,nV]⟩,some (oR 25 3 Za ([]:List Zb)),none])) (n':=(n+4)) ?_ ?_
 ·refine Fit2.trans (E':=(⟨53,[],[(1,.ref n 0),(2,.ref (n+1) 0),(3,nV),(4,(vI 0)),(5,(vI 0))]⟩:Env)) (O':=(Zq O n [some ⟨false,25,3,1,(Zg a0)⟩,some ⟨false,25,3,1,[(vI 0),nV,nV]⟩])) (n':=(n+2)) (Fit2.of (Z9 hU rfl rfl ?_) (by omega)) ?_
  ·exact zSe
  refine Fit2.trans (Zh5 3 25 3 rfl (by omega)) ?_
  simp only [Y4,Ym,Gm,V8,List.set_cons_zero,List.set_cons_succ,List.cons_append,List.nil_append,List.length_cons,List.length_nil,Nat.zero_add,Nat.reduceAdd,Nat.reduceLT,Nat.add_assoc]
  refine Fit2.trans (E':=(⟨53,[],[(1,.ref n 0),(2,.ref (n+1) 0),(3,.row (n+2) ([]:List Zb).length),(4,(vI 0)),(5,(vI 0))]⟩:Env)) (O':=(Zq O n [some ⟨false,25,3,1,(Zg a0)⟩,some ⟨false,25,3,1,[(vI 0),nV,nV]⟩,some (oR 25 3 Za ([]:List Zb))])) (n':=(n+3)) (Fit2.of (Z9 hU rfl rfl ?_) (by omega)) ?_
  ·exact zSe
  refine X0 (k:=3) (k':=4) hU [0,1,2] [0,1,2,0] rfl rfl rfl rfl ⟨rfl,rfl⟩ ?_
  exact zSe
 obtain ⟨z10,hz10,h⟩:=bC h
 refine Yo (E':=⟨53,[],[(1,.ref n 0),(2,.ref (n+1) 0),(3,.row (n+2) z10.2.length),(4,(vI z10.1))]⟩) (O':=(Zq O n [some ⟨false,25,3,1,(Zg a0)⟩,some ⟨false,25,3,1,[(vI 0),nV,nV]⟩,some (oR 25 3 Za z10.2),none])) (n0:=(n+4)) ?_ ?_
 ·refine Y2 hz10 (fun s0_=>⟨53,[],[(1,.ref n 0),(2,.ref (n+1) 0),(3,.row (n+2) s0_.2.2.length),(4,(vI s0_.1)),(5,(vI s0_.2.1))]⟩) (fun s0_=>(Zq O n [some ⟨false,25,3,1,(Zg a0)⟩,some ⟨false,25,3,1,[(vI 0),nV,nV]⟩,some (oR 25 3 Za s0_.2.2),none])) (fun z10=>JX 0 n (⟨53,[],[(1,.ref n 0),(2,.ref (n+1) 0),(3,.row (n+2) z10.2.length),(4,(vI z10.1))]⟩:Env) (Zq O n [some ⟨false,25,3,1,(Zg a0)⟩,some ⟨false,25,3,1,[(vI 0),nV,nV]⟩,some (oR 25 3 Za z10.2),none]) (n+4)) ?_
  intro s0_ x0_ hs0_
  unfold Qv at hs0_
  try dsimp only
  refine Zk ?_
  refine zQ [1,2,3,4,5,16] ?_
  refine Zp (t:=(decide (s0_.2.1 < (a0.Kids.length:Int)))) rfl (fun c9 => ?_) (fun c9 => ?_)
  ·replace hs0_:=Zt c9 hs0_
   refine Ky [1,2,3,4,5] [true,true,true,false] ?_
   obtain ⟨z1,hz1,hs0_⟩:=bC hs0_
   refine Xe (E':=⟨53,[],[(1,.ref n 0),(2,.ref (n+1) 0),(3,.row (n+2) z1.2.length),(4,(vI z1.1)),(5,(vI s0_.2.1))]⟩) (O':=(Zq O n [some ⟨false,25,3,1,(Zg a0)⟩,some ⟨false,25,3,1,[(vI 0),nV,nV]⟩,some (oR 25 3 Za z1.2),none,none,none])) (n0:=(n+6)) ?_ ?_
   ·refine Yd ?_
    refine Zk ?_
    obtain ⟨x4,hx4,ax4,bx4,cx4,hz1⟩:=bE (f:=Za) Ug (fun _=>rfl) (by decide) hz1
    obtain ⟨y5,hy5,hz1⟩:=bC hz1
    refine Zcg [] ax4 bx4 cx4 ?_
    refine (Zl9 hy5).then ?_
    refine zF3 ax4 bx4 cx4 ?_
    refine zDs [1,2,3,4,5,6] [true,true,true,false,true] ?_
    obtain ⟨l7,pl7,ql7,el7,hz1⟩:=bA (k:=1) rfl hz1
    refine Zfz [] pl7 ql7 el7 ?_
    refine Zdy ⟨53,[],[(1,.ref n 0),(2,.ref (n+1) 0),(3,.row (n+2) l7.length),(4,(vI s0_.1)),(5,(vI s0_.2.1)),(6,.ref (n+4) 0)]⟩ (Zq O n [some ⟨false,25,3,1,(Zg a0)⟩,some ⟨false,25,3,1,[(vI 0),nV,nV]⟩,some (oR 25 3 Za l7),none,some ⟨false,25,3,1,(Zg y5)⟩,none]) (Z9 hU rfl rfl ?_) ?_
    ·exact Zxh pl7 ql7 el7
    refine zQ [1,2,3,4,5,31] ?_
    refine Zp (t:=(y5.Kind != 0)) rfl (fun c8 => ?_) (fun c8 => ?_)
    ·replace hz1:=Zt c8 hz1
     refine zR ?_
     exact zEn hz1
    replace hz1:=Zs c8 hz1
    refine zK ?_
    exact zEn hz1
   refine zR ?_
   exact zEn hs0_
  replace hs0_:=Zs c9 hs0_
  exact zEx hs0_
 try simp only [Y1,Yc,↓reduceIte,Nat.reduceEqDiff]
 refine zDs [1,2,3,4] [true,true,true,false] ?_
 refine zQ [1,2,3,4,36] ?_
 refine Zp (t:=(a0.Kind == 1)) rfl (fun c18 => ?_) (fun c18 => ?_)
 ·replace h:=Zt c18 h
  refine Zdy ⟨53,[],[(1,.ref n 0),(2,.ref (n+1) 0),(3,(sL Za z10.2)),(4,(vI z10.1))]⟩ (Zq O n [some ⟨false,25,3,1,(Zg a0)⟩,some ⟨false,25,3,1,[(vI 0),nV,nV]⟩,none,none]) (Z9 hU rfl rfl ?_) ?_
  ·exact zSe
  refine Zk ?_
  obtain ⟨y14,hy14,h⟩:=bC h
  obtain ⟨l15,al15,bl15,cl15,gl15,h⟩:=bS (lo:=none) (hi:=(some (.i64,z10.1))) (f:=Za) rfl rfl Zeq Ug (fun _=>rfl) h
  refine Zg1 Z0 (by kernel_rfl) [false,false,false,false,false,false,false,true] [] (by kernel_rfl) ?_
  refine zX4 al15 bl15 cl15 gl15 ?_
  refine PCall.of (Zoi hy14) ?_
  refine zX4 al15 bl15 cl15 gl15 ?_
  refine zD [2] [false,true,false,false] ?_
  exact Y9 [.agg [(vI 1),(sL (eI .u64) y14),(sL Za l15)]]
 replace h:=Zs c18 h
 refine Ky [1,2,3] [true,true,true,false] ?_
 refine zQ [1,2,3,7] ?_
 refine Zk ?_
 obtain ⟨l17,pl17,ql17,el17,h⟩:=bA0 (k:=a0.Words.length) rfl h
 refine Zfz [] pl17 ql17 el17 ?_
 refine Zdy ⟨53,[],[(1,.ref n 0),(2,.ref (n+1) 0),(3,.row (n+2) z10.2.length),(7,.row (n+4) l17.length)]⟩ (Zq O n [some ⟨false,25,3,1,(Zg a0)⟩,some ⟨false,25,3,1,[(vI 0),nV,nV]⟩,some (oR 25 3 Za z10.2),none,some (oR 48 1 (eI .u64) l17)]) (Z9 hU rfl rfl ?_) ?_
 ·exact Zxh pl17 ql17 el17
 refine Zk ?_
 refine zRd [2] [false,true,true,false,true] ?_
 exact Y9 [.agg [(vI a0.Kind),.row (n+4) l17.length,.row (n+2) z10.2.length]]
theorem Zlg:∀ k,(Zhg (Xy k)):=fun k=>by
 induction k with
 | zero=>exact @fun a0 r O n h=>(nomatch (show (none:Option _)=some _ from h))
 | succ k ih=>exact @fun a0 r O n h=>Zni (ih)  h
theorem Zoh {a0:Zb} {r:Zb} {O:Objs} {n:Nat} (h:Zfh a0=some r):GTo Try.prog 10 [.agg (Zg a0)] O n (.agg (Zg r)) O n:=by
 obtain ⟨k,hk⟩:=Gt h
 exact (Zlg k)  hk
attribute [local push_cast] Try.results11 Try.results24 Try.results3
theorem Zog {a0:(List Int)} {a1:(List Int)} {r:Bool} {O:Objs} {n:Nat} (h:Gw a0 a1=some r):GTo Try.prog 24 [(sL (eI .u64) a0),(sL (eI .u64) a1)] O n ((vB r)) O n:=by
 unfold Gw at h
 refine zFn Try.call24 Try.func24 fun hU hN0 hN => ?_
 show W _ _ _ _ ⟨26,[],[(0,(sL (eI .u64) a0)),(1,(sL (eI .u64) a1))]⟩ (Zq O n []) _
 refine zQ [0,1] ?_
 refine Zk ?_
 refine zQ [0,1,10] ?_
 refine Zp (t:=((a0.length:Int) != (a1.length:Int))) rfl (fun c8 => ?_) (fun c8 => ?_)
 ·replace h:=Zt c8 h
  refine zQ [4] ?_
  exact Y9 [(vB false)]
 replace h:=Zs c8 h
 refine Ky [0,1] [] ?_
 refine Zk ?_
 refine zQd [0,1,5] [0,1,5] [] ?_
 obtain ⟨z7,hz7,h⟩:=bC h
 refine Zbu (J:=(Ql (fun z7=>JR n (⟨26,[],[(4,(vB false))]⟩:Env) (Zq O n []) n) (fun z7=>JX 0 n (⟨26,[],[]⟩:Env) (Zq O n []) n))) (z:=z7) ?_ fun hw => ?_
 ·refine Y2 hz7 (fun s0_=>⟨26,[],[(0,(sL (eI .u64) a0)),(1,(sL (eI .u64) a1)),(5,(vI s0_))]⟩) (fun s0_=>(Zq O n [])) (Ql (fun z7=>JR n (⟨26,[],[(4,(vB false))]⟩:Env) (Zq O n []) n) (fun z7=>JX 0 n (⟨26,[],[]⟩:Env) (Zq O n []) n)) ?_
  intro s0_ x0_ hs0_
  unfold Vl at hs0_
  try dsimp only
  refine Zk ?_
  refine zQ [0,1,5,14] ?_
  refine Zp (t:=(decide (s0_ < (a0.length:Int)))) rfl (fun c6 => ?_) (fun c6 => ?_)
  ·replace hs0_:=Zt c6 hs0_
   refine Ky [0,1,5] [] ?_
   refine Zk ?_
   refine Yd ?_
   obtain ⟨x3,hx3,ax3,bx3,cx3,hs0_⟩:=bE (f:=(eI .u64)) Ziz (fun _=>rfl) (by decide) hs0_
   obtain ⟨x4,hx4,ax4,bx4,cx4,hs0_⟩:=bE (f:=(eI .u64)) Ziz (fun _=>rfl) (by decide) hs0_
   refine Zlm [0,1,5,25] (Kx Z0 (by kernel_rfl) [] (by kernel_rfl) ?_)
   refine zF6 ax3 bx3 cx3 ax4 bx4 cx4 ?_
   refine Zp (t:=(x3 != x4)) rfl (fun c5 => ?_) (fun c5 => ?_)
   ·replace hs0_:=Zt c5 hs0_
    refine zQ [4] ?_
    refine zW ?_
    exact zEy hs0_
   replace hs0_:=Zs c5 hs0_
   refine Ky [0,1,5] [] ?_
   refine zR ?_
   exact zEn hs0_
  replace hs0_:=Zs c6 hs0_
  exact zEx hs0_
 rcases z7 with z7 | z7
 ·dsimp only [Ql] at hw h
  refine Kh hw ?_
  try simp only [Y1,Yc,↓reduceIte,Nat.reduceEqDiff]
  exact Zk7 [(vB false)]
 dsimp only [Ql] at hw h
 refine Yo hw ?_
 try simp only [Y1,Yc,↓reduceIte,Nat.reduceEqDiff]
 refine zD [] [] ?_
 refine zQ [4] ?_
 exact Y9 [(vB true)]
def Zhh (Jk:(Zb→Zb→Option Bool)):Prop:=∀ {a0:Zb} {a1:Zb} {r:Bool} {O:Objs} {n:Nat},Jk a0 a1=some r→GTo Try.prog 11 [.agg (Zg a0),.agg (Zg a1)] O n ((vB r)) O n
theorem Znj {Jk:(Zb→Zb→Option Bool)} (Zma:Zhh Jk) {a0:Zb} {a1:Zb} {r:Bool} {O:Objs} {n:Nat} (h:Gq Jk a0 a1=some r):GTo Try.prog 11 [.agg (Zg a0),.agg (Zg a1)] O n ((vB r)) O n:=by
 unfold Gq at h
 refine zFn Try.call11 Try.func11 fun hU hN0 hN => ?_
 show W _ _ _ _ ⟨47,[],[(0,.agg (Zg a0)),(1,.agg (Zg a1))]⟩ (Zq O n []) _
 refine zQ [2,3] ?_
 refine Zk ?_
 obtain ⟨z2,hz2,h⟩:=bC h
 refine Xe (E':=⟨47,[],[(2,.ref n 0),(3,.ref (n+1) 0),(27,(vB z2))]⟩) (O':=(Zq O n [some ⟨false,25,3,1,(Zg a0)⟩,some ⟨false,25,3,1,(Zg a1)⟩])) (n0:=(n+2)) ?_ ?_
 ·rcases Bool.eq_false_or_eq_true (a0.Kind != a1.Kind) with c5 | c5
  ·replace hz2:=Zt c5 hz2
   refine Zbp (Yhm []) c5 ?_
   exact Gd hz2 c5
  replace hz2:=Zs c5 hz2
  obtain ⟨y4,hy4,hz2⟩:=bC hz2
  refine Zbp (Zz0 (Zzz [])) c5 ?_
  refine zG ?_
  refine (Zog hy4).then ?_
  refine zX1 c5 ?_
  refine zG ?_
  exact Gd hz2 c5
 refine Zp (t:=z2) rfl (fun c15 => ?_) (fun c15 => ?_)
 ·replace h:=Zt c15 h
  refine zQ [4] ?_
  exact Y9 [(vB false)]
 replace h:=Zs c15 h
 refine Ky [2,3] [true,true] ?_
 refine Zk ?_
 refine zQd [2,3,5] [2,3,5] [true,true] ?_
 obtain ⟨z14,hz14,h⟩:=bC h
 refine Zbu (J:=(Ql (fun z14=>JR n (⟨47,[],[(4,(vB false))]⟩:Env) (Zq O n [none,none]) (n+2)) (fun z14=>JX 0 n (⟨47,[],[]⟩:Env) (Zq O n [none,none]) (n+2)))) (z:=z14) ?_ fun hw => ?_
 ·refine Y2 hz14 (fun s0_=>⟨47,[],[(2,.ref n 0),(3,.ref (n+1) 0),(5,(vI s0_))]⟩) (fun s0_=>(Zq O n [some ⟨false,25,3,1,(Zg a0)⟩,some ⟨false,25,3,1,(Zg a1)⟩])) (Ql (fun z14=>JR n (⟨47,[],[(4,(vB false))]⟩:Env) (Zq O n [none,none]) (n+2)) (fun z14=>JX 0 n (⟨47,[],[]⟩:Env) (Zq O n [none,none]) (n+2))) ?_
  intro s0_ x0_ hs0_
  unfold Vh at hs0_
  try dsimp only
  refine Zk ?_
  refine zQ [2,3,5,32] ?_
  refine Zp (t:=(decide (s0_ < (a0.Kids.length:Int)))) rfl (fun c13 => ?_) (fun c13 => ?_)
  ·replace hs0_:=Zt c13 hs0_
   refine Ky [2,3,5] [true,true] ?_
   refine Zk ?_
   refine Yd ?_
   refine Zk ?_
   obtain ⟨x9,hx9,ax9,bx9,cx9,hs0_⟩:=bE (f:=Za) Ug (fun _=>rfl) (by decide) hs0_
   obtain ⟨x10,hx10,ax10,bx10,cx10,hs0_⟩:=bE (f:=Za) Ug (fun _=>rfl) (by decide) hs0_
   obtain ⟨y11,hy11,hs0_⟩:=bC hs0_
   refine Kx Z0 (by kernel_rfl) [] (by kernel_rfl) ?_
   refine zF6 ax9 bx9 cx9 ax10 bx10 cx10 ?_
   refine PCall.of (Zma hy11) ?_
   refine zF6 ax9 bx9 cx9 ax10 bx10 cx10 ?_
   refine zD [2,3,5,46] [true,true] ?_
   refine Zp (t:=(!y11)) rfl (fun c12 => ?_) (fun c12 => ?_)
   ·replace hs0_:=Zt c12 hs0_
    refine zQ [4] ?_
    refine zW ?_
    exact zEy hs0_
   replace hs0_:=Zs c12 hs0_
   refine Ky [2,3,5] [true,true] ?_
   refine zR ?_
   exact zEn hs0_
  replace hs0_:=Zs c13 hs0_
  exact zEx hs0_
 rcases z14 with z14 | z14
 ·dsimp only [Ql] at hw h
  refine Kh hw ?_
  try simp only [Y1,Yc,↓reduceIte,Nat.reduceEqDiff]
  exact Zk7 [(vB false)]
 dsimp only [Ql] at hw h
 refine Yo hw ?_
 try simp only [Y1,Yc,↓reduceIte,Nat.reduceEqDiff]
 refine zD [] [false,false] ?_
 refine zQ [4] ?_
 exact Y9 [(vB true)]
theorem Zlh:∀ k,(Zhh (J0 k)):=fun k=>by
 induction k with
 | zero=>exact @fun a0 a1 r O n h=>(nomatch (show (none:Option _)=some _ from h))
 | succ k ih=>exact @fun a0 a1 r O n h=>Znj (ih)  h
theorem Zij {a0:Zb} {a1:Zb} {r:Bool} {O:Objs} {n:Nat} (h:Zfi a0 a1=some r):GTo Try.prog 11 [.agg (Zg a0),.agg (Zg a1)] O n ((vB r)) O n:=by
 obtain ⟨k,hk⟩:=Gt h
 exact (Zlh k)  hk
theorem Zka {a0:Zc} {a1:Zb} {r:Bool} {O:Objs} {n:Nat} (h:Uj a0 a1=some r):GTo Try.prog 3 [.agg (Ze a0),.agg (Zg a1)] O n ((vB r)) O n:=by
 unfold Uj at h
 refine zFn Try.call3 Try.func3 fun hU hN0 hN => ?_
 show W _ _ _ _ ⟨72,[],[(0,.agg (Ze a0)),(1,.agg (Zg a1))]⟩ (Zq O n []) _
 refine zQ [2,3] ?_
 refine Zk ?_
 obtain ⟨z4,hz4,h⟩:=bC h
 refine Xe (E':=⟨72,[],[(2,.ref n 0),(3,.ref (n+1) 0),(23,(vB z4))]⟩) (O':=(Zq O n [some ⟨false,30,11,1,(Ze a0)⟩,some ⟨false,25,3,1,(Zg a1)⟩])) (n0:=(n+2)) ?_ ?_
 ·obtain ⟨y8,hy8,hz4⟩:=bC hz4
  rcases Bool.eq_false_or_eq_true y8 with c11 | c11
  ·replace hz4:=Zt c11 hz4
   obtain ⟨y9,hy9,hz4⟩:=bC hz4
   rcases Bool.eq_false_or_eq_true (decide (200 < y9)) with c12 | c12
   ·replace hz4:=Zt c12 hz4
    try rw [c12] at c11
    refine U9 (Z8r (Z41 [])) c11 c12 ?_
    refine (Zez hy8).then ?_
    refine zX2 c11 c12 ?_
    refine (Zh0 hy9).then ?_
    refine zX2 c11 c12 ?_
    exact Zjl hz4 c11 c12
   replace hz4:=Zs c12 hz4
   try rw [c12] at c11
   obtain ⟨y10,hy10,hz4⟩:=bC hz4
   refine U9 (Zz0 []) c11 c12 ?_
   refine (Zez hy8).then ?_
   refine zX2 c11 c12 ?_
   refine (Zh0 hy9).then ?_
   refine zX2 c11 c12 ?_
   refine (Zih hy10).then ?_
   refine zX2 c11 c12 ?_
   exact Zjl hz4 c11 c12
  replace hz4:=Zs c11 hz4
  refine Zbp (Zzx []) c11 ?_
  refine (Zez hy8).then ?_
  refine zX1 c11 ?_
  exact Gd hz4 c11
 refine Zp (t:=z4) rfl (fun c43 => ?_) (fun c43 => ?_)
 ·replace h:=Zt c43 h
  refine Zk ?_
  obtain ⟨y14,hy14,h⟩:=bC h
  refine zCd (Zai hy14) [4] [false,false] ?_
  exact Y9 [(vB y14)]
 replace h:=Zs c43 h
 refine Ky [2,3] [true,true] ?_
 refine Zk ?_
 obtain ⟨y16,hy16,h⟩:=bC h
 refine zCd (Zmb hy16) [2,3,5] [true,true] ?_
 refine Zk ?_
 obtain ⟨y18,hy18,h⟩:=bC h
 refine zCd (Znr hy18) [3,5,6,7] [false,true,true] ?_
 refine Zk ?_
 obtain ⟨y20,hy20,h⟩:=bC h
 refine zCd (Zoh hy20) [5,6,7,8,9] [false,false,true,true] ?_
 refine Zk ?_
 refine zQd [5,6,7,8,9,10] [5,6,7,8,9,10] [false,false,true,true] ?_
 obtain ⟨z29,hz29,h⟩:=bC h
 refine Zbu (J:=(Ql (fun z29=>JR n (⟨72,[],[(4,(vB z29))]⟩:Env) (Zq O n [none,none,none,none]) (n+4)) (fun z29=>JX 0 n (⟨72,[],[(6,.ref (n+2) 0),(7,(vB y18.2)),(8,.ref (n+3) 0),(9,(vB z29.1))]⟩:Env) (Zq O n [none,none,some ⟨false,25,3,1,(Zg y18.1)⟩,some ⟨false,25,3,1,[(vI z29.2.1),(sL (eI .u64) z29.2.2.1),(sL Za z29.2.2.2)]⟩]) (n+4)))) (z:=z29) ?_ fun hw => ?_
 ·refine Y2 hz29 (fun s0_=>⟨72,[],[(5,(sL Zn y16)),(6,.ref (n+2) 0),(7,(vB y18.2)),(8,.ref (n+3) 0),(9,(vB s0_.1)),(10,(vI s0_.2.1))]⟩) (fun s0_=>(Zq O n [none,none,some ⟨false,25,3,1,(Zg y18.1)⟩,some ⟨false,25,3,1,[(vI s0_.2.2.1),(sL (eI .u64) s0_.2.2.2.1),(sL Za s0_.2.2.2.2)]⟩])) (Ql (fun z29=>JR n (⟨72,[],[(4,(vB z29))]⟩:Env) (Zq O n [none,none,none,none]) (n+4)) (fun z29=>JX 0 n (⟨72,[],[(6,.ref (n+2) 0),(7,(vB y18.2)),(8,.ref (n+3) 0),(9,(vB z29.1))]⟩:Env) (Zq O n [none,none,some ⟨false,25,3,1,(Zg y18.1)⟩,some ⟨false,25,3,1,[(vI z29.2.1),(sL (eI .u64) z29.2.2.1),(sL Za z29.2.2.2)]⟩]) (n+4))) ?_
  intro s0_ x0_ hs0_
  unfold Xa at hs0_
  try dsimp only
  refine Zk ?_
  refine zQD [5,6,7,8,9,10,41] [none] ?_
  refine Zp (t:=(cond (decide (s0_.2.1 < (y16.length:Int))) s0_.1 false)) rfl (fun c28 => ?_) (fun c28 => ?_)
  ·replace hs0_:=Zt c28 hs0_
   refine Ky [5,6,7,8,10] [false,false,true,true] ?_
   refine Zk ?_
   refine Yd ?_
   refine Zk ?_
   refine Zk ?_
   obtain ⟨y22,hy22,hs0_⟩:=bC hs0_
   refine zCd (Zih hy22) [5,6,7,8,10,46] [false,false,true,true] ?_
   refine Zp (t:=(!y22)) rfl (fun c27 => ?_) (fun c27 => ?_)
   ·replace hs0_:=Zt c27 hs0_
    refine Zk ?_
    obtain ⟨y24,hy24,hs0_⟩:=bC hs0_
    refine zCd (Zai hy24) [4] [false,false,false,false] ?_
    refine zW ?_
    exact zEy hs0_
   replace hs0_:=Zs c27 hs0_
   refine Ky [5,6,7,8,10] [false,false,true,true] ?_
   obtain ⟨x25,hx25,ax25,bx25,cx25,hs0_⟩:=bE (f:=Zn) Ziy (fun _=>rfl) (by decide) hs0_
   obtain ⟨y26,hy26,hs0_⟩:=bC hs0_
   refine Zg1 Z0 (by kernel_rfl) [false,false,false,false,false,false,false,false,false,true,false] [] (by kernel_rfl) ?_
   refine zF3 ax25 bx25 cx25 ?_
   refine PCall.of (Znr hy26) ?_
   refine zF3 ax25 bx25 cx25 ?_
   refine zD [5,6,7,8,9,10] [false,false,true,true] ?_
   refine zR ?_
   exact zEn hs0_
  replace hs0_:=Zs c28 hs0_
  exact zEx hs0_
 rcases z29 with z29 | z29
 ·dsimp only [Ql] at hw h
  refine Kh hw ?_
  try simp only [Y1,Yc,↓reduceIte,Nat.reduceEqDiff]
  exact Zk7 [(vB z29)]
 dsimp only [Ql] at hw h
 refine Yo hw ?_
 try simp only [Y1,Yc,↓reduceIte,Nat.reduceEqDiff]
 refine zD [6,7,8,9] [false,false,true,true] ?_
 obtain ⟨z33,hz33,h⟩:=bC h
 refine Xe (E':=⟨72,[],[(4,(vB z33))]⟩) (O':=(Zq O n [none,none,none,none])) (n0:=(n+4)) ?_ ?_
 ·rcases Bool.eq_false_or_eq_true (y18.2 == z29.1) with c40 | c40
  ·replace hz33:=Zt c40 hz33
   rcases Bool.eq_false_or_eq_true y18.2 with c41 | c41
   ·replace hz33:=Zt c41 hz33
    try rw [c41] at c40
    obtain ⟨y37,hy37,hz33⟩:=bC hz33
    rcases Bool.eq_false_or_eq_true y37 with c42 | c42
    ·replace hz33:=Zt c42 hz33
     try rw [c42] at c40
     try rw [c42] at c41
     obtain ⟨y38,hy38,hz33⟩:=bC hz33
     refine Zfz (Yhy []) c40 c41 c42 ?_
     refine (Zij hy37).then ?_
     refine zX3 c40 c41 c42 ?_
     refine (Zai hy38).then ?_
     refine zX3 c40 c41 c42 ?_
     exact Zjm hz33 c40 c41 c42
    replace hz33:=Zs c42 hz33
    try rw [c42] at c40
    try rw [c42] at c41
    refine Zfz (Ygg [Xt]) c40 c41 c42 ?_
    refine (Zij hy37).then ?_
    refine zX3 c40 c41 c42 ?_
    exact Zjm hz33 c40 c41 c42
   replace hz33:=Zs c41 hz33
   try rw [c41] at c40
   obtain ⟨y39,hy39,hz33⟩:=bC hz33
   refine U9 (Z8r (Z41 [Uk,Uk])) c40 c41 ?_
   refine (Zai hy39).then ?_
   refine zX2 c40 c41 ?_
   exact Zjl hz33 c40 c41
  replace hz33:=Zs c40 hz33
  refine Zbp (Yhr []) c40 ?_
  exact Gd hz33 c40
 exact Y9 [(vB z33)]
end Go.Proofs.Ytibgpnmmgffgeaa
