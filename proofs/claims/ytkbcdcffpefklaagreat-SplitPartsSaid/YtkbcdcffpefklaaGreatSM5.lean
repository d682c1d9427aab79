/- Part SM5 of this seat's mirrors: functions of the seat's program, and the plain functions that they are; each theorem bears its own conditions. -/
import Derived.Test.YtkbcdcffpefklaaGreatSM3
namespace Go.Proofs.YtkbcdcffpefklaaGreat
open Go.RowKit
set_option linter.unusedVariables false
set_option linter.unusedSimpArgs false
set_option maxRecDepth 100000
set_option maxHeartbeats 4000000
attribute [local push_cast] vI vB nV sL oR K0 Ze K1 Z6 Zv Zcf Zwm Zwl Zxg Zxf Yg Z3 Zsa Zme Zmd onW X9 Zgq Zfn Zvl Zur Zqh Zql Zqg Zqk Ztk Ztg Zqj Ztj Zti Zth Zqi Zte Znd evS wok Jr Op.operands Call.operands gop onK onP atK List.all_cons List.all_nil Bool.and_true Bool.true_and Bool.and_self Value.oneCell' List.take_zero List.take_succ_cons List.take_nil List.drop_zero List.drop_succ_cons List.drop_nil List.append_nil Nat.add_zero Nat.zero_add Zat Yp ev Js Zh3 Zwf Zwe Zwk Zwi Zwj Zwg Zwh Zwd Zvv Zy8 Z16 Zmj Zgs Zlj Zgr Zpz Zjh Zkc Zkh Zl7 Zl3 Zkf Zl6 Zl5 Zl4 Zke Zl1 Zkd Zkg Zi3 Zl2 Zoc Zmf Zee Zmh Zef Zob Zmc Z0i bLo bHi bMx Zgt Zn8 Z4z Zmb Zoa Zi4 Zcu Zza Z41 Zma Zje Z45 Zgp Z6v Zsd Zsh Zsc Zsg Zw2 Zwy Zww Zp1 Zse Zw1 Zw0 Zwz Zsf Zws Zwv Zwr Zwu Z2k Z2g Z2f Zwt Z2i Z2j Zwx Zmg gone Zs4 Zm5 Zm4 pop TK.isAgg Zw9 Zxd Zw8 Zxc Zsw Z26 Z22 Zxb Z25 Z24 Z23 Zxa Z21 G.under G.unders List.getD_cons_zero List.getD_cons_succ List.set_cons_zero List.set_cons_succ List.map_cons List.map_nil List.toList_toArray Array.toList_append Option.toArray_none Option.toArray_some Array.toList_map Option.map_some Option.map_none Option.bind_some Option.bind_none List.getElem?_cons_zero List.getElem?_cons_succ List.getElem?_nil List.nil_append List.cons_append List.replicate_succ List.replicate_zero List.length_cons List.length_nil and_true true_and and_false false_and Bool.true_eq_false Bool.false_eq_true forall_const false_implies implies_true IntKind.bits if_true if_false ite_true ite_false eq_self true_implies false_or or_false or_true true_or not_true_eq_false not_false_eq_true decide_true decide_false decide_eq_true_eq decide_eq_false_iff_not beq_iff_eq bne_iff_ne ne_eq Bool.not_eq_true Bool.not_eq_false beq_eq_false_iff_ne bne_eq_false_iff_eq beq_self_eq_true bne_self_eq_false Option.some.injEq exists_eq_left' exists_eq_left ge_iff_le gt_iff_lt decide_not Bool.not_true Bool.not_false imp_self Z18 cond_true cond_false Ydp Ydo Bool.not_not Bool.and_false Bool.false_and Bool.or_true Bool.true_or Bool.or_false Bool.false_or U2 Zcy Kj Q8 Y5 Yt Option.join_some Nat.add_assoc Int.toNat_natCast eI eB eS eL Yw Zlk Zkk Zwp Zwn Zwo Z68 Yam Zls Zks Zxm Zxk Zxl Z20 Znx Z0z Zg9 Zy0 Zi8 Zy1 List.length_append G.agg.injEq G.row.injEq G.ref.injEq G.val.injEq G.sl.injEq G.tup.injEq Value.int.injEq Value.bool.injEq Value.string.injEq List.cons.injEq exists_and_left exists_const List.flatten_cons List.flatten_nil Int.le_refl Nat.le_refl Q9 Y0 Y6 Bool.not_eq_true' Bool.not_eq_false' Zyl Zoy Z4c Z4h Z4b Z4g Z9w Z9r List.size_toArray Zs7 Znu G.ren G.rens Zv7 Zj3 Zxo Zwb Zwc Ztf Z4i Zf3 G.fn.injEq Zua Zub Zyk Z9s Zt9 Z4f Z9v Z9u Z9t Z4d Z2n Z8a Option.join_none Ye G8 undef Zog Arr.len Arr.put_eq Zlr Zp6 Zm1 Zkr Zxj Zxh Zxi onB Z67 Zy7 Zs9 Zpw Zrt Zru Zrv Zrw Zrx Zry Zp3 Zp9 Zp7 Zm3 Zkt Zp8 Zs3 Zs2 Zs1 Zs0 Yal Ycd Z2z Z0o U6 Z2p Zsj Zqa Zm2 Z5s Zvq Zl8 Zn6 Zh1 Zou Zrz Zr0 Zr1 Zr2 Zo0 Zo1 Zo2 Zo3 Zo4 Zo5 Zo6 Zo7 Zo8 Zo9 Zpa Zpb Zpc Ziu prT Zhq Zpd Zpe Zpf Zpg Zph Zpi Zpj Zpk Zpl Zpm Zpn Zpo Zpp Zpq Zpr Zps Zpt Zpu Yex Z32 Zis Z33 Yey Z34 Z31 Z35 Yez Z36 Ye0 Z37 Ye1 Z38 Ye2 Z39 Z81 Zxq Z82 Zxr Z83 Zxs Z84 Zxt Z85 Zxu Z86 Zxv Z87 Zxw Z88 Zxx Z89 Zxy Z9a Zxz Z9b Zx0 Z9c Zqn Ztn Zk0 Z9d Zx1 Zbu Zx2 Z9e Zx3 Z9f Zx4 Z1m Zt7 Z9g Zx5 Zd7 Zx6 Z9h Zx7 Z9i Zx8 Zi1 Zx9 Z9j Zya Jw Zyb Zly Zyc Z9k Zyd Zq9 Zye Z9l Zyf Z9m Zyg Z9n Zyh Z1n Zt8 Z9o Zyi Z9p Zyj Z3j Zto Z3k Ztp Z0a Ztq Z3l Ztr Z3m Zts Z3n Ztt Z3o Ztu Z3p Ztv Z3q Ztw Z3r Ztx Z3s Zty Z3t Ztz Z3u Zt0 Z3v Zt1 Z3w Zt2 Z3x Zt3 Z3y Zt4 Z3z Zt5 Z30 Zt6 Za Yq Znk Zni Zmo Zmz Znm Zk2 Zky Zkw Znf Zfa Ze8 Zew Ze3 Zfc Zd9 Zd6 Zd4 Ze6 Zi Zk Zh Zd Xa Yr Xo Zbm Zbk Zaw Zba Zbo Zai Zaf Zad Zbg Zb8 Zb6 Zbx Zb2 Zca Zbi Zbe Zbc Zb4 Zhd Zhc Zgw Zg5 Zhe Zfv Zfu Zft Zhb Zqq Zqp Zp0 Zp4 Zqr Zng Zm9 Zm8 Zqo Yd Zak Zaj G9 Zab Zal U9 U8 U7 Zag Ze9 Ze7 Zev Ze2 Zfb Zd8 Zd5 Zd3 Ze5 Yh Zbl Zbj Zav Za9 Zbn Zah Zae Zac Zbf Zy Zb7 Zb5 Zbw Zb1 Zb9 Zbh Zbd Zbb Zb3 Znj Znh Zmn Zmy Znl Zk1 Zkx Zkv Zne
theorem Zv2 {a0:Zb} {a1:Zb} {r:(Zb×Bool)} {O:Objs} {n:Nat} (h:Gy a0 a1=some r):GTo Tryz.prog 31 [.agg (Ze a0),.agg (Ze a1)] O n (.tup [.agg (Ze r.1),(vB r.2)]) O n:=by
 unfold Gy at h
 refine fn0 Zt Tryz.call31 Tryz.func31 rfl fun hU hN0 hN => ?_
 show W _ _ _ _ ⟨19,[],[(0,.agg (Ze a0)),(1,.agg (Ze a1))]⟩ (Zr O n []) _
 refine zQ [2,3,4] ?_
 refine Zl ?_
 obtain ⟨y2,hy2,h⟩:=bC h
 refine zCd (Zv3 hy2) [4,6,7] [false,false,true,true] ?_
 refine Zl ?_
 refine zQ [4,6,15] ?_
 refine Zp (t:=(!y2.2)) rfl (fun c5 => ?_) (fun c5 => ?_)
 ·replace h:=Zo c5 h
  refine Zl ?_
  refine zRd [4,5] [false,false,true,false] ?_
  refine zW ?_
  obtain rfl:=sI h
  refine Zq (.inr rfl) hU [.agg [(vI 0),(vI 0),nV,nV,(vI 0),nV,nV,nV,nV,(vI 0),nV],(vB false)] (by omega) ?_
  simp only [push_cast,seval,Zf,Tryz.results31,hN0,hN]
 replace h:=Zn c5 h
 refine Q5 [4,6] [false,false,true,true] ?_
 refine Zl ?_
 obtain ⟨y4,hy4,h⟩:=bC h
 refine zCd (Zok hy4) [4,5] [false,false,true,false] ?_
 refine zW ?_
 obtain rfl:=sI h
 refine Zq (.inr rfl) hU [.agg (Ze y4),(vB true)] (by omega) ?_
 simp only [push_cast,seval,Zf,Tryz.results31,hN0,hN]
theorem Z0l {a0:(List Zb)} {r:(Zb×Bool)} {O:Objs} {n:Nat} (h:Zg0 a0=some r):GTo Tryz.prog 16 [(sL Zk a0)] O n (.tup [.agg (Ze r.1),(vB r.2)]) O n:=by
 unfold Zg0 at h
 refine fn0 Zt Tryz.call16 Tryz.func16 rfl fun hU hN0 hN => ?_
 show W _ _ _ _ ⟨27,[],[(0,(sL Zk a0))]⟩ (Zr O n []) _
 refine zQ [0,2] ?_
 refine zQ [0,2,4] ?_
 refine Zl ?_
 refine zQd [2,4,9,10,11] [2,4,9,10,11] [true,true] ?_
 refine Zan ⟨27,[],[(2,.ref n 0),(4,.ref (n+1) 0),(9,(sL Zk a0)),(10,(vI (a0.length:Int))),(11,(vI 0))]⟩ (Zr O n [some ⟨false,30,11,1,[(vI 0),(vI 0),nV,nV,(vI 0),nV,nV,nV,nV,(vI 0),nV]⟩,some ⟨false,30,11,1,[(vI 0),(vI 0),(sL (eI .u64) ([]:(List Int))),(sL Za ([]:(List Zc))),(vI 0),(sL (eI .u64) ([]:(List Int))),(sL Za ([]:(List Zc))),(sL Zi ([]:(List Zu))),(sL Zh ([]:(List Zj))),(vI 0),(sL Zd ([]:(List Zg)))]⟩]) (Zz hU rfl rfl ?_) ?_
 ·exact zSe
 obtain ⟨z7,hz7,h⟩:=bC h
 refine U3 (J:=(Xg (fun z7=>JR n (⟨27,[],[(2,.ref n 0),(3,(vB false))]⟩:Env) (Zr O n [some ⟨false,30,11,1,[(vI 0),(vI 0),nV,nV,(vI 0),nV,nV,nV,nV,(vI 0),nV]⟩,none]) (n+2)) (fun z7=>JX 0 n (⟨27,[],[(2,.ref n 0),(4,.ref (n+1) 0)]⟩:Env) (Zr O n [some ⟨false,30,11,1,[(vI 0),(vI 0),nV,nV,(vI 0),nV,nV,nV,nV,(vI 0),nV]⟩,some ⟨false,30,11,1,[(vI z7.1),(vI z7.2.1),(sL (eI .u64) z7.2.2.1),(sL Za z7.2.2.2.1),(vI z7.2.2.2.2.1),(sL (eI .u64) z7.2.2.2.2.2.1),(sL Za z7.2.2.2.2.2.2.1),(sL Zi z7.2.2.2.2.2.2.2.1),(sL Zh z7.2.2.2.2.2.2.2.2.1),(vI z7.2.2.2.2.2.2.2.2.2.1),(sL Zd z7.2.2.2.2.2.2.2.2.2.2)]⟩]) (n+2)))) (z:=z7) ?_ fun hw => ?_
 ·refine Yi hz7 (fun s0_=>⟨27,[],[(2,.ref n 0),(4,.ref (n+1) 0),(9,(sL Zk a0)),(10,(vI (a0.length:Int))),(11,(vI s0_.1))]⟩) (fun s0_=>(Zr O n [some ⟨false,30,11,1,[(vI 0),(vI 0),nV,nV,(vI 0),nV,nV,nV,nV,(vI 0),nV]⟩,some ⟨false,30,11,1,[(vI s0_.2.1),(vI s0_.2.2.1),(sL (eI .u64) s0_.2.2.2.1),(sL Za s0_.2.2.2.2.1),(vI s0_.2.2.2.2.2.1),(sL (eI .u64) s0_.2.2.2.2.2.2.1),(sL Za s0_.2.2.2.2.2.2.2.1),(sL Zi s0_.2.2.2.2.2.2.2.2.1),(sL Zh s0_.2.2.2.2.2.2.2.2.2.1),(vI s0_.2.2.2.2.2.2.2.2.2.2.1),(sL Zd s0_.2.2.2.2.2.2.2.2.2.2.2)]⟩])) (Xg (fun z7=>JR n (⟨27,[],[(2,.ref n 0),(3,(vB false))]⟩:Env) (Zr O n [some ⟨false,30,11,1,[(vI 0),(vI 0),nV,nV,(vI 0),nV,nV,nV,nV,(vI 0),nV]⟩,none]) (n+2)) (fun z7=>JX 0 n (⟨27,[],[(2,.ref n 0),(4,.ref (n+1) 0)]⟩:Env) (Zr O n [some ⟨false,30,11,1,[(vI 0),(vI 0),nV,nV,(vI 0),nV,nV,nV,nV,(vI 0),nV]⟩,some ⟨false,30,11,1,[(vI z7.1),(vI z7.2.1),(sL (eI .u64) z7.2.2.1),(sL Za z7.2.2.2.1),(vI z7.2.2.2.2.1),(sL (eI .u64) z7.2.2.2.2.2.1),(sL Za z7.2.2.2.2.2.2.1),(sL Zi z7.2.2.2.2.2.2.2.1),(sL Zh z7.2.2.2.2.2.2.2.2.1),(vI z7.2.2.2.2.2.2.2.2.2.1),(sL Zd z7.2.2.2.2.2.2.2.2.2.2)]⟩]) (n+2))) ?_
  intro s0_ x0_ hs0_
  unfold Up at hs0_
  try dsimp only
  refine zQ [2,4,9,10,11,12] ?_
  refine Zl ?_
  refine Zp (t:=(decide (s0_.1 < (a0.length:Int)))) rfl (fun c6 => ?_) (fun c6 => ?_)
  ·replace hs0_:=Zo c6 hs0_
   refine Q5 [2,4,9,10,11] [true,true] ?_
   refine Zl ?_
   refine Z0 ?_
   refine Zl ?_
   obtain ⟨x2,hx2,ax2,bx2,cx2,hs0_⟩:=bE (f:=Zk) Zd7 (fun _=>rfl) (by decide) hs0_
   refine Zdr [] ax2 bx2 cx2 ?_
   refine zDs [2,4,6,9,10,11] [true,true,true] ?_
   obtain ⟨y4,hy4,hs0_⟩:=bC hs0_
   refine zCd (Zv2 hy4) [2,4,7,8,9,10,11] [true,true,false,true] ?_
   refine Zl ?_
   refine zQ [2,4,7,9,10,11,22] ?_
   refine Zp (t:=(!y4.2)) rfl (fun c5 => ?_) (fun c5 => ?_)
   ·replace hs0_:=Zo c5 hs0_
    refine Zl ?_
    refine zRd [2,3] [true,false,false,false] ?_
    refine zW ?_
    exact zEy hs0_
   replace hs0_:=Zn c5 hs0_
   refine Q5 [2,4,7,9,10,11] [true,true,false,true] ?_
   refine zRd [2,4,9,10,11] [true,true,false,false] ?_
   refine zR ?_
   exact Vu hs0_
  replace hs0_:=Zn c6 hs0_
  exact zEx hs0_
 rcases z7 with z7 | z7
 ·dsimp only [Xg] at hw h
  refine Qj hw ?_
  try simp only [Yg,Z3,↓reduceIte,Nat.reduceEqDiff]
  obtain rfl:=sI h
  refine Zq (.inr rfl) hU [.agg [(vI 0),(vI 0),nV,nV,(vI 0),nV,nV,nV,nV,(vI 0),nV],(vB false)] (by omega) ?_
  simp only [push_cast,seval,Zf,Tryz.results16,hN0,hN]
 dsimp only [Xg] at hw h
 refine Z8 hw ?_
 try simp only [Yg,Z3,↓reduceIte,Nat.reduceEqDiff]
 refine zDs [2,4] [true,true] ?_
 refine zRd [2,3] [true,false] ?_
 refine zW ?_
 obtain rfl:=sI h
 refine Zq (.inr rfl) hU [.agg [(vI z7.1),(vI z7.2.1),(sL (eI .u64) z7.2.2.1),(sL Za z7.2.2.2.1),(vI z7.2.2.2.2.1),(sL (eI .u64) z7.2.2.2.2.2.1),(sL Za z7.2.2.2.2.2.2.1),(sL Zi z7.2.2.2.2.2.2.2.1),(sL Zh z7.2.2.2.2.2.2.2.2.1),(vI z7.2.2.2.2.2.2.2.2.2.1),(sL Zd z7.2.2.2.2.2.2.2.2.2.2)],(vB true)] (by omega) ?_
 simp only [push_cast,seval,Zf,Tryz.results16,hN0,hN]
theorem Ziw  {r:Bool} {O:Objs} {n:Nat} (h:Vh=some r):GTo Tryz.prog 6 [] O n ((vB r)) O n:=by
 unfold Vh at h
 refine fn0 Zt Tryz.call6 Tryz.func6 rfl fun hU hN0 hN => ?_
 show W _ _ _ _ ⟨58,[],[]⟩ (Zr O n []) _
 refine zQ [] ?_
 refine zQ [1] ?_
 refine Zl ?_
 obtain ⟨y4,hy4,h⟩:=bC h
 obtain ⟨y5,hy5,h⟩:=bC h
 obtain ⟨y6,hy6,h⟩:=bC h
 refine zC (Zhj hy4) ?_
 refine zTs (Zhj hy5) ?_
 refine GCalls.dropL (l':=[none]) hU rfl ?_ ((Zon hy6).then ?_)
 ·exact zSe
 refine zS ?_
 refine zDs [2] [false] ?_
 obtain ⟨y8,hy8,h⟩:=bC h
 refine zCd (Z0l hy8) [2,3,4] [false,true] ?_
 obtain ⟨z17,hz17,h⟩:=bC h
 refine Yk (E':=⟨58,[],[(0,(vB z17))]⟩) (O':=(Zr O n [none,none])) (n0:=(n+2)) ?_ ?_
 ·rcases Bool.eq_false_or_eq_true y8.2 with c34 | c34
  ·replace hz17:=Zo c34 hz17
   rcases Bool.eq_false_or_eq_true ((y6.length:Int) == 2) with c35 | c35
   ·replace hz17:=Zo c35 hz17
    try rw [c35] at c34
    obtain ⟨x26,hx26,ax26,bx26,cx26,hz17⟩:=bE (f:=Zk) Zd7 (fun _=>rfl) (by decide) hz17
    have g27:=X2 (f:=Zk) (off:=10) (sz:=11) Z1m (fun _=>rfl) (by decide) (by decide) hx26
    rcases Bool.eq_false_or_eq_true ((x26.Ops.length:Int) == 2) with c36 | c36
    ·replace hz17:=Zo c36 hz17
     try rw [c36] at c34
     try rw [c36] at c35
     obtain ⟨x28,hx28,ax28,bx28,cx28,hz17⟩:=bE (f:=Zk) Zd7 (fun _=>rfl) (by decide) hz17
     have g29:=X2 (f:=Zk) (off:=10) (sz:=11) Z1m (fun _=>rfl) (by decide) (by decide) hx28
     obtain ⟨x30,hx30,ax30,bx30,cx30,hz17⟩:=bE (f:=Zd) Jw (fun _=>rfl) (by decide) hz17
     have g31:=X2 (f:=Zd) (off:=1) (sz:=14) Zis (fun _=>rfl) (by decide) (by decide) hx30
     rcases Bool.eq_false_or_eq_true (x30.N == 1) with c37 | c37
     ·replace hz17:=Zo c37 hz17
      try rw [c37] at c34
      try rw [c37] at c35
      try rw [c37] at c36
      rcases Bool.eq_false_or_eq_true ((y8.1.Ops.length:Int) == 3) with c38 | c38
      ·replace hz17:=Zo c38 hz17
       try rw [c38] at c34
       try rw [c38] at c35
       try rw [c38] at c36
       try rw [c38] at c37
       obtain ⟨x32,hx32,ax32,bx32,cx32,hz17⟩:=bE (f:=Zd) Jw (fun _=>rfl) (by decide) hz17
       have g33:=J0 (f:=Zd) (sz:=14) Zis (fun _=>rfl) (by decide) (by decide) hx32
       refine Yn Zt (Yak (Zso (Z2u (Zvz [])))) ?_
       simp only [push_cast,Nat.reduceAdd,Nat.reduceSub,Nat.reduceMul,Nat.reduceLeDiff,Nat.reduceLT,Nat.reduceEqDiff,↓reduceIte,reduceCtorEq,Int.reduceBEq,Int.reduceBNe,Nat.reduceBEq,Int.reduceLE,Int.reduceLT,Int.reduceEq,Int.reduceNe,Int.reduceNeg,Nat.reduceDiv,Nat.reduceMod,Nat.reducePow,Zf,c34,c35,ax26,bx26,cx26,g27,c36,ax28,bx28,cx28,g29,ax30,bx30,cx30,g31,c37,c38,ax32,bx32,cx32,g33,hN0,hN]
       refine zG ?_
       obtain rfl:=sI hz17
       refine And.intro rfl (Fit2.of (Zz hU rfl rfl ?_) (by omega))
       simp only [push_cast,Nat.reduceAdd,Nat.reduceSub,Nat.reduceMul,Nat.reduceLeDiff,Nat.reduceLT,Nat.reduceEqDiff,↓reduceIte,reduceCtorEq,Int.reduceBEq,Int.reduceBNe,Nat.reduceBEq,Int.reduceLE,Int.reduceLT,Int.reduceEq,Int.reduceNe,Int.reduceNeg,Nat.reduceDiv,Nat.reduceMod,Nat.reducePow,Zf,c34,c35,ax26,bx26,cx26,g27,c36,ax28,bx28,cx28,g29,ax30,bx30,cx30,g31,c37,c38,ax32,bx32,cx32,g33,hN0,hN]
      replace hz17:=Zn c38 hz17
      try rw [c38] at c34
      try rw [c38] at c35
      try rw [c38] at c36
      try rw [c38] at c37
      refine Yn Zt (Yak (Zso (Z2u (Zzo [])))) ?_
      simp only [push_cast,Nat.reduceAdd,Nat.reduceSub,Nat.reduceMul,Nat.reduceLeDiff,Nat.reduceLT,Nat.reduceEqDiff,↓reduceIte,reduceCtorEq,Int.reduceBEq,Int.reduceBNe,Nat.reduceBEq,Int.reduceLE,Int.reduceLT,Int.reduceEq,Int.reduceNe,Int.reduceNeg,Nat.reduceDiv,Nat.reduceMod,Nat.reducePow,Zf,c34,c35,ax26,bx26,cx26,g27,c36,ax28,bx28,cx28,g29,ax30,bx30,cx30,g31,c37,c38,hN0,hN]
      refine zG ?_
      obtain rfl:=sI hz17
      refine And.intro rfl (Fit2.of (Zz hU rfl rfl ?_) (by omega))
      simp only [push_cast,Nat.reduceAdd,Nat.reduceSub,Nat.reduceMul,Nat.reduceLeDiff,Nat.reduceLT,Nat.reduceEqDiff,↓reduceIte,reduceCtorEq,Int.reduceBEq,Int.reduceBNe,Nat.reduceBEq,Int.reduceLE,Int.reduceLT,Int.reduceEq,Int.reduceNe,Int.reduceNeg,Nat.reduceDiv,Nat.reduceMod,Nat.reducePow,Zf,c34,c35,ax26,bx26,cx26,g27,c36,ax28,bx28,cx28,g29,ax30,bx30,cx30,g31,c37,c38,hN0,hN]
     replace hz17:=Zn c37 hz17
     try rw [c37] at c34
     try rw [c37] at c35
     try rw [c37] at c36
     refine Yn Zt (Yak (Zso (Z2u (Zzo [])))) ?_
     simp only [push_cast,Nat.reduceAdd,Nat.reduceSub,Nat.reduceMul,Nat.reduceLeDiff,Nat.reduceLT,Nat.reduceEqDiff,↓reduceIte,reduceCtorEq,Int.reduceBEq,Int.reduceBNe,Nat.reduceBEq,Int.reduceLE,Int.reduceLT,Int.reduceEq,Int.reduceNe,Int.reduceNeg,Nat.reduceDiv,Nat.reduceMod,Nat.reducePow,Zf,c34,c35,ax26,bx26,cx26,g27,c36,ax28,bx28,cx28,g29,ax30,bx30,cx30,g31,c37,hN0,hN]
     refine zG ?_
     obtain rfl:=sI hz17
     refine And.intro rfl (Fit2.of (Zz hU rfl rfl ?_) (by omega))
     simp only [push_cast,Nat.reduceAdd,Nat.reduceSub,Nat.reduceMul,Nat.reduceLeDiff,Nat.reduceLT,Nat.reduceEqDiff,↓reduceIte,reduceCtorEq,Int.reduceBEq,Int.reduceBNe,Nat.reduceBEq,Int.reduceLE,Int.reduceLT,Int.reduceEq,Int.reduceNe,Int.reduceNeg,Nat.reduceDiv,Nat.reduceMod,Nat.reducePow,Zf,c34,c35,ax26,bx26,cx26,g27,c36,ax28,bx28,cx28,g29,ax30,bx30,cx30,g31,c37,hN0,hN]
    replace hz17:=Zn c36 hz17
    try rw [c36] at c34
    try rw [c36] at c35
    refine Z6f (Yak (Zvz (Yfm []))) c34 c35 ax26 bx26 cx26 g27 c36 ?_
    refine zG ?_
    exact Z1q hz17 c34 c35 ax26 bx26 cx26 g27 c36
   replace hz17:=Zn c35 hz17
   try rw [c35] at c34
   refine Ja (Yak (Yfn [])) c34 c35 ?_
   refine zG ?_
   exact Zbp hz17 c34 c35
  replace hz17:=Zn c34 hz17
  refine K3 (Yak (Yfn [])) c34 ?_
  refine zG ?_
  exact Kq hz17 c34
 refine zW ?_
 obtain rfl:=sI h
 refine Zq (.inr rfl) hU [(vB z17)] (by omega) ?_
 simp only [push_cast,seval,Zf,Tryz.results6,hN0,hN]
theorem Zri {a0:(List Int)} {r:(List Int)} {O:Objs} {n:Nat} (h:Za0 a0=some r):GTo Tryz.prog 47 [(sL (eI .u64) a0)] O n ((sL (eI .u64) r)) O n:=by
 unfold Za0 at h
 refine fn0 Zt Tryz.call47 Tryz.func47 rfl fun hU hN0 hN => ?_
 show W _ _ _ _ ⟨24,[],[(0,(sL (eI .u64) a0))]⟩ (Zr O n []) _
 refine zQ [0] ?_
 refine zQ [0,3] ?_
 refine Zl ?_
 refine zD [0,3] [] ?_
 obtain ⟨z7,hz7,h⟩:=bC h
 refine Z8 (E':=⟨24,[],[(0,(sL (eI .u64) a0)),(3,(vI z7))]⟩) (O':=(Zr O n [])) (n0:=n) ?_ ?_
 ·refine Yi hz7 (fun s0_=>⟨24,[],[(0,(sL (eI .u64) a0)),(3,(vI s0_))]⟩) (fun s0_=>(Zr O n [])) (fun z7=>JX 0 n (⟨24,[],[(0,(sL (eI .u64) a0)),(3,(vI z7))]⟩:Env) (Zr O n []) n) ?_
  intro s0_ x0_ hs0_
  unfold V5 at hs0_
  try dsimp only
  refine Zl ?_
  obtain ⟨z2,hz2,hs0_⟩:=bC hs0_
  refine Yk (E':=⟨24,[],[(0,(sL (eI .u64) a0)),(3,(vI s0_)),(16,(vB z2))]⟩) (O':=(Zr O n [])) (n0:=n) ?_ ?_
  ·rcases Bool.eq_false_or_eq_true (decide (0 < s0_)) with c5 | c5
   ·replace hz2:=Zo c5 hz2
    obtain ⟨x4,hx4,ax4,bx4,cx4,hz2⟩:=bE (f:=(eI .u64)) Zly (fun _=>rfl) (by decide) hz2
    refine Zi2 (Zvz []) c5 ax4 bx4 cx4 ?_
    exact Zvt hz2 c5 ax4 bx4 cx4
   replace hz2:=Zn c5 hz2
   refine K3 (Zzo []) c5 ?_
   exact Kq hz2 c5
  refine Zp (t:=z2) rfl (fun c6 => ?_) (fun c6 => ?_)
  ·replace hs0_:=Zo c6 hs0_
   refine Q5 [0,3] [] ?_
   refine Z0 ?_
   refine zR ?_
   exact Vu hs0_
  replace hs0_:=Zn c6 hs0_
  exact zEx hs0_
 try simp only [Yg,Z3,↓reduceIte,Nat.reduceEqDiff]
 refine zD [0,3] [] ?_
 refine zQ [0,3,4] ?_
 refine Zl ?_
 obtain ⟨l10,al10,bl10,cl10,gl10,h⟩:=bS (lo:=none) (hi:=(some (.i64,z7))) (f:=(eI .u64)) rfl rfl Zqn Zly (fun _=>rfl) h
 obtain ⟨l11,pl11,ql11,el11,h⟩:=bA0 (k:=l10.length) rfl h
 refine Yi5 [] al10 bl10 cl10 gl10 pl11 ql11 el11 ?_
 refine Zan ⟨24,[],[(2,.row n l11.length)]⟩ (Zr O n [some (oR 43 1 (eI .u64) l11)]) (Zz hU rfl rfl ?_) ?_
 ·simp only [push_cast,seval,Zf,al10,bl10,cl10,gl10,pl11,ql11,el11,hN0,hN]
 refine zW ?_
 obtain rfl:=sI h
 refine Zq (.inr rfl) hU [.row n l11.length] (by omega) ?_
 simp only [push_cast,seval,Zf,Tryz.results47,hN0,hN]
def Zic (Jj:(Zc→Option Zc)):Prop:=∀ {a0:Zc} {r:Zc} {O:Objs} {n:Nat},Jj a0=some r→GTo Tryz.prog 23 [.agg (Zv a0)] O n (.agg (Zv r)) O n
theorem Zq0 {Jj:(Zc→Option Zc)} (Zol:Zic Jj) {a0:Zc} {r:Zc} {O:Objs} {n:Nat} (h:Zao Jj a0=some r):GTo Tryz.prog 23 [.agg (Zv a0)] O n (.agg (Zv r)) O n:=by
 unfold Zao at h
 refine fn0 Zt Tryz.call23 Tryz.func23 rfl fun hU hN0 hN => ?_
 show W _ _ _ _ ⟨53,[],[(0,.agg (Zv a0))]⟩ (Zr O n []) _
 refine zQ [1,2] ?_
 refine Zl ?_
 refine zQ [1,2,10] ?_
 refine Zp (t:=(a0.Kind == 0)) rfl (fun c19 => ?_) (fun c19 => ?_)
 ·replace h:=Zo c19 h
  refine Zl ?_
  refine zRd [2] [false,true] ?_
  refine zW ?_
  obtain rfl:=sI h
  refine Zq (.inr rfl) hU [.agg [(vI 0),nV,nV]] (by omega) ?_
  simp only [push_cast,seval,Zf,Tryz.results23,hN0,hN]
 replace h:=Zn c19 h
 refine Q5 [1,2] [true,true] ?_
 refine zQ [1,2,3] ?_
 refine zQ [1,2,3,4] ?_
 refine Zl ?_
 refine zQd [1,2,3,4,5] [1,2,3,4,5] [true,true] ?_
 refine Jz (E':=(⟨53,[],[(1,.ref n 0),(2,.ref (n+1) 0),(3,.row (n+2) ([]:List Zc).length),(4,(vI 0)),(5,(vI 0))]⟩:Env)) (O':=(Zr O n [some ⟨false,25,3,1,(Zv a0)⟩,some ⟨false,25,3,1,[(vI 0),nV,nV]⟩,some (oR 25 3 Za ([]:List Zc)),none])) (n':=(n+4)) ?_ ?_
 ·refine Fit2.trans (E':=(⟨53,[],[(1,.ref n 0),(2,.ref (n+1) 0),(3,nV),(4,(vI 0)),(5,(vI 0))]⟩:Env)) (O':=(Zr O n [some ⟨false,25,3,1,(Zv a0)⟩,some ⟨false,25,3,1,[(vI 0),nV,nV]⟩])) (n':=(n+2)) (Fit2.of (Zz hU rfl rfl ?_) (by omega)) ?_
  ·exact zSe
  refine Fit2.trans (Zf6 3 25 3 rfl (by omega)) ?_
  simp only [Y5,Yt,Kj,Q8,List.set_cons_zero,List.set_cons_succ,List.cons_append,List.nil_append,List.length_cons,List.length_nil,Nat.zero_add,Nat.reduceAdd,Nat.reduceLT,Nat.add_assoc]
  refine Fit2.trans (E':=(⟨53,[],[(1,.ref n 0),(2,.ref (n+1) 0),(3,.row (n+2) ([]:List Zc).length),(4,(vI 0)),(5,(vI 0))]⟩:Env)) (O':=(Zr O n [some ⟨false,25,3,1,(Zv a0)⟩,some ⟨false,25,3,1,[(vI 0),nV,nV]⟩,some (oR 25 3 Za ([]:List Zc))])) (n':=(n+3)) (Fit2.of (Zz hU rfl rfl ?_) (by omega)) ?_
  ·exact zSe
  refine X3 (k:=3) (k':=4) hU [0,1,2] [0,1,2,0] rfl rfl rfl rfl ⟨rfl,rfl⟩ ?_
  exact zSe
 obtain ⟨z10,hz10,h⟩:=bC h
 refine Z8 (E':=⟨53,[],[(1,.ref n 0),(2,.ref (n+1) 0),(3,.row (n+2) z10.2.length),(4,(vI z10.1))]⟩) (O':=(Zr O n [some ⟨false,25,3,1,(Zv a0)⟩,some ⟨false,25,3,1,[(vI 0),nV,nV]⟩,some (oR 25 3 Za z10.2),none])) (n0:=(n+4)) ?_ ?_
 ·refine Yi hz10 (fun s0_=>⟨53,[],[(1,.ref n 0),(2,.ref (n+1) 0),(3,.row (n+2) s0_.2.2.length),(4,(vI s0_.1)),(5,(vI s0_.2.1))]⟩) (fun s0_=>(Zr O n [some ⟨false,25,3,1,(Zv a0)⟩,some ⟨false,25,3,1,[(vI 0),nV,nV]⟩,some (oR 25 3 Za s0_.2.2),none])) (fun z10=>JX 0 n (⟨53,[],[(1,.ref n 0),(2,.ref (n+1) 0),(3,.row (n+2) z10.2.length),(4,(vI z10.1))]⟩:Env) (Zr O n [some ⟨false,25,3,1,(Zv a0)⟩,some ⟨false,25,3,1,[(vI 0),nV,nV]⟩,some (oR 25 3 Za z10.2),none]) (n+4)) ?_
  intro s0_ x0_ hs0_
  unfold Qv at hs0_
  try dsimp only
  refine Zl ?_
  refine zQ [1,2,3,4,5,16] ?_
  refine Zp (t:=(decide (s0_.2.1 < (a0.Kids.length:Int)))) rfl (fun c9 => ?_) (fun c9 => ?_)
  ·replace hs0_:=Zo c9 hs0_
   refine Q5 [1,2,3,4,5] [true,true,true,false] ?_
   obtain ⟨z1,hz1,hs0_⟩:=bC hs0_
   refine Yk (E':=⟨53,[],[(1,.ref n 0),(2,.ref (n+1) 0),(3,.row (n+2) z1.2.length),(4,(vI z1.1)),(5,(vI s0_.2.1))]⟩) (O':=(Zr O n [some ⟨false,25,3,1,(Zv a0)⟩,some ⟨false,25,3,1,[(vI 0),nV,nV]⟩,some (oR 25 3 Za z1.2),none,none,none])) (n0:=(n+6)) ?_ ?_
   ·refine Z0 ?_
    refine Zl ?_
    obtain ⟨x4,hx4,ax4,bx4,cx4,hz1⟩:=bE (f:=Za) Zbu (fun _=>rfl) (by decide) hz1
    obtain ⟨y5,hy5,hz1⟩:=bC hz1
    refine Zdr [] ax4 bx4 cx4 ?_
    refine (Zol hy5).then ?_
    refine zF3 ax4 bx4 cx4 ?_
    refine zDs [1,2,3,4,5,6] [true,true,true,false,true] ?_
    obtain ⟨l7,pl7,ql7,el7,hz1⟩:=bA (k:=1) rfl hz1
    refine U1 [] pl7 ql7 el7 ?_
    refine Zan ⟨53,[],[(1,.ref n 0),(2,.ref (n+1) 0),(3,.row (n+2) l7.length),(4,(vI s0_.1)),(5,(vI s0_.2.1)),(6,.ref (n+4) 0)]⟩ (Zr O n [some ⟨false,25,3,1,(Zv a0)⟩,some ⟨false,25,3,1,[(vI 0),nV,nV]⟩,some (oR 25 3 Za l7),none,some ⟨false,25,3,1,(Zv y5)⟩,none]) (Zz hU rfl rfl ?_) ?_
    ·exact Z0t pl7 ql7 el7
    refine zQ [1,2,3,4,5,31] ?_
    refine Zp (t:=(y5.Kind != 0)) rfl (fun c8 => ?_) (fun c8 => ?_)
    ·replace hz1:=Zo c8 hz1
     refine zR ?_
     exact Vu hz1
    replace hz1:=Zn c8 hz1
    refine zK ?_
    exact Vu hz1
   refine zR ?_
   exact Vu hs0_
  replace hs0_:=Zn c9 hs0_
  exact zEx hs0_
 try simp only [Yg,Z3,↓reduceIte,Nat.reduceEqDiff]
 refine zDs [1,2,3,4] [true,true,true,false] ?_
 refine zQ [1,2,3,4,36] ?_
 refine Zp (t:=(a0.Kind == 1)) rfl (fun c18 => ?_) (fun c18 => ?_)
 ·replace h:=Zo c18 h
  refine Zan ⟨53,[],[(1,.ref n 0),(2,.ref (n+1) 0),(3,(sL Za z10.2)),(4,(vI z10.1))]⟩ (Zr O n [some ⟨false,25,3,1,(Zv a0)⟩,some ⟨false,25,3,1,[(vI 0),nV,nV]⟩,none,none]) (Zz hU rfl rfl ?_) ?_
  ·exact zSe
  refine Zl ?_
  obtain ⟨y14,hy14,h⟩:=bC h
  obtain ⟨l15,al15,bl15,cl15,gl15,h⟩:=bS (lo:=none) (hi:=(some (.i64,z10.1))) (f:=Za) rfl rfl Zk0 Zbu (fun _=>rfl) h
  refine Zka Zt (by kernel_rfl) [false,false,false,false,false,false,false,true] [] (by kernel_rfl) ?_
  refine zX4 al15 bl15 cl15 gl15 ?_
  refine PCall.of (Zri hy14) ?_
  refine zX4 al15 bl15 cl15 gl15 ?_
  refine zD [2] [false,true,false,false] ?_
  refine zW ?_
  obtain rfl:=sI h
  refine Zq (.inr rfl) hU [.agg [(vI 1),(sL (eI .u64) y14),(sL Za l15)]] (by omega) ?_
  simp only [push_cast,seval,Zf,Tryz.results23,hN0,hN]
 replace h:=Zn c18 h
 refine Q5 [1,2,3] [true,true,true,false] ?_
 refine zQ [1,2,3,7] ?_
 refine Zl ?_
 obtain ⟨l17,pl17,ql17,el17,h⟩:=bA0 (k:=a0.Words.length) rfl h
 refine U1 [] pl17 ql17 el17 ?_
 refine Zan ⟨53,[],[(1,.ref n 0),(2,.ref (n+1) 0),(3,.row (n+2) z10.2.length),(7,.row (n+4) l17.length)]⟩ (Zr O n [some ⟨false,25,3,1,(Zv a0)⟩,some ⟨false,25,3,1,[(vI 0),nV,nV]⟩,some (oR 25 3 Za z10.2),none,some (oR 43 1 (eI .u64) l17)]) (Zz hU rfl rfl ?_) ?_
 ·exact Z0t pl17 ql17 el17
 refine Zl ?_
 refine zRd [2] [false,true,true,false,true] ?_
 refine zW ?_
 obtain rfl:=sI h
 refine Zq (.inr rfl) hU [.agg [(vI a0.Kind),.row (n+4) l17.length,.row (n+2) z10.2.length]] (by omega) ?_
 simp only [push_cast,seval,Zf,Tryz.results23,hN0,hN]
theorem Zny:∀ k,(Zic (X0 k)):=fun k=>by
 induction k with
 | zero=>exact @fun a0 r O n h=>(nomatch (show (none:Option _)=some _ from h))
 | succ k ih=>exact @fun a0 r O n h=>Zq0 (ih)  h
theorem Zf2 {a0:Zc} {r:Zc} {O:Objs} {n:Nat} (h:Zay a0=some r):GTo Tryz.prog 23 [.agg (Zv a0)] O n (.agg (Zv r)) O n:=by
 obtain ⟨k,hk⟩:=Ux h
 exact (Zny k)  hk
theorem Zqx {a0:(List Zc)} {r:(List Zc)} {O:Objs} {n:Nat} (h:Gw a0=some r):GTo Tryz.prog 68 [(sL Za a0)] O n ((sL Za r)) O n:=by
 unfold Gw at h
 refine fn0 Zt Tryz.call68 Tryz.func68 rfl fun hU hN0 hN => ?_
 show W _ _ _ _ ⟨20,[],[(0,(sL Za a0))]⟩ (Zr O n []) _
 refine zQ [0] ?_
 refine zQ [0,3] ?_
 refine Zl ?_
 refine zQd [0,3,4] [0,3,4] [] ?_
 refine Jz (E':=(⟨20,[],[(0,(sL Za a0)),(3,.row n ([]:List Zc).length),(4,(vI 0))]⟩:Env)) (O':=(Zr O n [some (oR 25 3 Za ([]:List Zc)),none])) (n':=(n+2)) ?_ ?_
 ·refine Fit2.trans (E':=(⟨20,[],[(0,(sL Za a0)),(3,nV),(4,(vI 0))]⟩:Env)) (O':=(Zr O n [])) (n':=n) (Fit2.of (Zz hU rfl rfl ?_) (by omega)) ?_
  ·exact zSe
  refine Fit2.trans (Zf6 3 25 3 rfl (by omega)) ?_
  simp only [Y5,Yt,Kj,Q8,List.set_cons_zero,List.set_cons_succ,List.cons_append,List.nil_append,List.length_cons,List.length_nil,Nat.zero_add,Nat.reduceAdd,Nat.reduceLT,Nat.add_assoc]
  refine Fit2.trans (E':=(⟨20,[],[(0,(sL Za a0)),(3,.row n ([]:List Zc).length),(4,(vI 0))]⟩:Env)) (O':=(Zr O n [some (oR 25 3 Za ([]:List Zc))])) (n':=(n+1)) (Fit2.of (Zz hU rfl rfl ?_) (by omega)) ?_
  ·exact zSe
  refine X3 (k:=1) (k':=2) hU [0] [0,0] rfl rfl rfl rfl ⟨rfl,rfl⟩ ?_
  exact zSe
 obtain ⟨z5,hz5,h⟩:=bC h
 refine Z8 (E':=⟨20,[],[(3,.row n z5.length)]⟩) (O':=(Zr O n [some (oR 25 3 Za z5),none])) (n0:=(n+2)) ?_ ?_
 ·refine Yi hz5 (fun s0_=>⟨20,[],[(0,(sL Za a0)),(3,.row n s0_.2.length),(4,(vI s0_.1))]⟩) (fun s0_=>(Zr O n [some (oR 25 3 Za s0_.2),none])) (fun z5=>JX 0 n (⟨20,[],[(3,.row n z5.length)]⟩:Env) (Zr O n [some (oR 25 3 Za z5),none]) (n+2)) ?_
  intro s0_ x0_ hs0_
  unfold Zaa at hs0_
  try dsimp only
  refine Zl ?_
  refine zQ [0,3,4,8] ?_
  refine Zp (t:=(decide (s0_.1 < (a0.length:Int)))) rfl (fun c4 => ?_) (fun c4 => ?_)
  ·replace hs0_:=Zo c4 hs0_
   refine Q5 [0,3,4] [true,false] ?_
   refine Zl ?_
   refine Z0 ?_
   obtain ⟨x1,hx1,ax1,bx1,cx1,hs0_⟩:=bE (f:=Za) Zbu (fun _=>rfl) (by decide) hs0_
   obtain ⟨y2,hy2,hs0_⟩:=bC hs0_
   obtain ⟨l3,pl3,ql3,el3,hs0_⟩:=bA (k:=1) rfl hs0_
   refine Z9z [] ax1 bx1 cx1 pl3 ql3 el3 ?_
   refine (Zf2 hy2).then ?_
   refine zF6 ax1 bx1 cx1 pl3 ql3 el3 ?_
   refine Zan ⟨20,[],[(0,(sL Za a0)),(3,.row n l3.length),(4,(vI s0_.1))]⟩ (Zr O n [some (oR 25 3 Za l3),none,none]) (Zz hU rfl rfl ?_) ?_
   ·exact Ye9 ax1 bx1 cx1 pl3 ql3 el3
   refine zR ?_
   exact Vu hs0_
  replace hs0_:=Zn c4 hs0_
  exact zEx hs0_
 try simp only [Yg,Z3,↓reduceIte,Nat.reduceEqDiff]
 refine zD [3] [true,false] ?_
 refine zQ [2] ?_
 refine zW ?_
 obtain rfl:=sI h
 refine Zq (.inr rfl) hU [.row n z5.length] (by omega) ?_
 simp only [push_cast,seval,Zf,Tryz.results68,hN0,hN]
theorem Zkq {a0:(List Zg)} {a1:Int} {a2:Int} {r:((List Zc)×Int)} {O:Objs} {n:Nat} (h:Gf a0 a1 a2=some r):GTo Tryz.prog 48 [(sL Zd a0),(vI a1),(vI a2)] O n (.tup [(sL Za r.1),(vI r.2)]) O n:=by
 unfold Gf at h
 refine fn0 Zt Tryz.call48 Tryz.func48 rfl fun hU hN0 hN => ?_
 show W _ _ _ _ ⟨50,[],[(0,(sL Zd a0)),(1,(vI a1)),(2,(vI a2))]⟩ (Zr O n []) _
 refine zQ [0,1,2] ?_
 refine zQ [0,1,2,8] ?_
 refine zQ [0,2,8,9] ?_
 refine Zl ?_
 refine zD [0,2,8,9] [] ?_
 refine Jz (E':=(⟨50,[],[(0,(sL Zd a0)),(2,(vI a2)),(8,.row n ([]:List Zc).length),(9,(vI a1))]⟩:Env)) (O':=(Zr O n [some (oR 25 3 Za ([]:List Zc)),none])) (n':=(n+2)) ?_ ?_
 ·refine Fit2.trans (E':=(⟨50,[],[(0,(sL Zd a0)),(2,(vI a2)),(8,nV),(9,(vI a1))]⟩:Env)) (O':=(Zr O n [])) (n':=n) (Fit2.of (Zz hU rfl rfl ?_) (by omega)) ?_
  ·exact zSe
  refine Fit2.trans (Zf6 8 25 3 rfl (by omega)) ?_
  simp only [Y5,Yt,Kj,Q8,List.set_cons_zero,List.set_cons_succ,List.cons_append,List.nil_append,List.length_cons,List.length_nil,Nat.zero_add,Nat.reduceAdd,Nat.reduceLT,Nat.add_assoc]
  refine Fit2.trans (E':=(⟨50,[],[(0,(sL Zd a0)),(2,(vI a2)),(8,.row n ([]:List Zc).length),(9,(vI a1))]⟩:Env)) (O':=(Zr O n [some (oR 25 3 Za ([]:List Zc))])) (n':=(n+1)) (Fit2.of (Zz hU rfl rfl ?_) (by omega)) ?_
  ·exact zSe
  refine X3 (k:=1) (k':=2) hU [0] [0,0] rfl rfl rfl rfl ⟨rfl,rfl⟩ ?_
  exact zSe
 obtain ⟨z27,hz27,h⟩:=bC h
 refine Z8 (E':=⟨50,[],[(8,.row n z27.2.length),(9,(vI z27.1))]⟩) (O':=(Zr O n [some (oR 25 3 Za z27.2),none])) (n0:=(n+2)) ?_ ?_
 ·refine Yi hz27 (fun s0_=>⟨50,[],[(0,(sL Zd a0)),(2,(vI a2)),(8,.row n s0_.2.length),(9,(vI s0_.1))]⟩) (fun s0_=>(Zr O n [some (oR 25 3 Za s0_.2),none])) (fun z27=>JX 0 n (⟨50,[],[(8,.row n z27.2.length),(9,(vI z27.1))]⟩:Env) (Zr O n [some (oR 25 3 Za z27.2),none]) (n+2)) ?_
  intro s0_ x0_ hs0_
  unfold Qn at hs0_
  try dsimp only
  refine Zl ?_
  obtain ⟨z5,hz5,hs0_⟩:=bC hs0_
  refine Yk (E':=⟨50,[],[(0,(sL Zd a0)),(2,(vI a2)),(8,.row n s0_.2.length),(9,(vI s0_.1)),(30,(vB z5))]⟩) (O':=(Zr O n [some (oR 25 3 Za s0_.2),none])) (n0:=(n+2)) ?_ ?_
  ·rcases Bool.eq_false_or_eq_true (decide (s0_.1 < (a0.length:Int))) with c14 | c14
   ·replace hz5:=Zo c14 hz5
    obtain ⟨x10,hx10,ax10,bx10,cx10,hz5⟩:=bE (f:=Zd) Jw (fun _=>rfl) (by decide) hz5
    have g11:=J0 (f:=Zd) (sz:=14) Zis (fun _=>rfl) (by decide) (by decide) hx10
    rcases Bool.eq_false_or_eq_true (x10.Kind == 1) with c15 | c15
    ·replace hz5:=Zo c15 hz5
     try rw [c15] at c14
     refine Z9z (Z66 (Zzo [Jb])) c14 ax10 bx10 cx10 g11 c15 ?_
     exact Yfz hz5 c14 ax10 bx10 cx10 g11 c15
    replace hz5:=Zn c15 hz5
    try rw [c15] at c14
    have g13:=J0 (f:=Zd) (sz:=14) Zis (fun _=>rfl) (by decide) (by decide) hx10
    refine Z6f (Zso []) c14 ax10 bx10 cx10 g11 c15 g13 ?_
    exact Z1q hz5 c14 ax10 bx10 cx10 g11 c15 g13
   replace hz5:=Zn c14 hz5
   refine K3 (Z5k []) c14 ?_
   exact Kq hz5 c14
  refine Zp (t:=z5) rfl (fun c26 => ?_) (fun c26 => ?_)
  ·replace hs0_:=Zo c26 hs0_
   refine Q5 [0,2,8,9] [true,false] ?_
   refine Z0 ?_
   obtain ⟨z16,hz16,hs0_⟩:=bC hs0_
   refine Yk (E':=⟨50,[],[(0,(sL Zd a0)),(2,(vI a2)),(8,.row n z16.length),(9,(vI s0_.1))]⟩) (O':=(Zr O n [some (oR 25 3 Za z16),none])) (n0:=(n+2)) ?_ ?_
   ·obtain ⟨x19,hx19,ax19,bx19,cx19,hz16⟩:=bE (f:=Zd) Jw (fun _=>rfl) (by decide) hz16
    have g20:=J0 (f:=Zd) (sz:=14) Zis (fun _=>rfl) (by decide) (by decide) hx19
    refine Zl0 [0,2,8,9,37] (Yn Zt [] ?_)
    refine zF4 ax19 bx19 cx19 g20 ?_
    refine Zp (t:=(x19.Kind == a2)) rfl (fun c25 => ?_) (fun c25 => ?_)
    ·replace hz16:=Zo c25 hz16
     obtain ⟨x21,hx21,ax21,bx21,cx21,hz16⟩:=bE (f:=Zd) Jw (fun _=>rfl) (by decide) hz16
     have g22:=X2 (f:=Zd) (off:=2) (sz:=14) Ztn (fun _=>rfl) (by decide) (by decide) hx21
     obtain ⟨y23,hy23,hz16⟩:=bC hz16
     obtain ⟨l24,pl24,ql24,el24,hz16⟩:=bA (k:=y23.length) rfl hz16
     refine Z6f [] ax21 bx21 cx21 g22 pl24 ql24 el24 ?_
     refine (Zqx hy23).then ?_
     refine zF7 ax21 bx21 cx21 g22 pl24 ql24 el24 ?_
     exact Z1q hz16 ax21 bx21 cx21 g22 pl24 ql24 el24
    replace hz16:=Zn c25 hz16
    refine zK ?_
    exact Vu hz16
   refine zR ?_
   exact Vu hs0_
  replace hs0_:=Zn c26 hs0_
  exact zEx hs0_
 try simp only [Yg,Z3,↓reduceIte,Nat.reduceEqDiff]
 refine zD [8,9] [true,false] ?_
 refine zQ [6,7] ?_
 refine zW ?_
 obtain rfl:=sI h
 refine Zq (.inr rfl) hU [.row n z27.2.length,(vI z27.1)] (by omega) ?_
 simp only [push_cast,seval,Zf,Tryz.results48,hN0,hN]
theorem Zrk {a0:Int} {a1:Zb} {r:Bool} {O:Objs} {n:Nat} (h:Uh a0 a1=some r):GTo Tryz.prog 49 [(vI a0),.agg (Ze a1)] O n ((vB r)) O n:=by
 unfold Uh at h
 refine fn0 Zt Tryz.call49 Tryz.func49 rfl fun hU hN0 hN => ?_
 show W _ _ _ _ ⟨29,[],[(0,(vI a0)),(1,.agg (Ze a1))]⟩ (Zr O n []) _
 refine zQ [0,3] ?_
 refine zQD [4] [none,none,none,none,none,none,none,none,none,none,none,none,none,none,none,none,none,none,none] ?_
 refine zW ?_
 obtain rfl:=sI h
 refine Zq (.inr rfl) hU [(vB (cond (a1.Kind == 0) true (cond (cond (cond (a1.Kind == 2) (a0 == 9) false) ((a1.Words.length:Int) == 0) false) ((a1.Kids.length:Int) == 0) false)))] (by omega) ?_
 simp only [push_cast,seval,Zf,Tryz.results49,hN0,hN]
def Zel (Y8:(Zb→Option Zb)):Prop:=∀ {a0:Zb} {r:Zb} {O:Objs} {n:Nat},Y8 a0=some r→GTo Tryz.prog 11 [.agg (Ze a0)] O n (.agg (Ze r)) O n
def Zfg (Qk:(Int→(List Zg)→Option (List Zg))):Prop:=∀ {a0:Int} {a1:(List Zg)} {r:(List Zg)} {O:Objs} {n:Nat},Qk a0 a1=some r→GTo Tryz.prog 24 [(vI a0),(sL Zd a1)] O n ((sL Zd r)) O n
theorem Zq3 {Y8:(Zb→Option Zb)} {Qk:(Int→(List Zg)→Option (List Zg))} (Za8:Zel Y8) (Ziz:Zfg Qk) {a0:Zb} {r:Zb} {O:Objs} {n:Nat} (h:Zaq Y8 Qk a0=some r):GTo Tryz.prog 11 [.agg (Ze a0)] O n (.agg (Ze r)) O n:=by
 unfold Zaq at h
 refine fn0 Zt Tryz.call11 Tryz.func11 rfl fun hU hN0 hN => ?_
 show W _ _ _ _ ⟨63,[],[(0,.agg (Ze a0))]⟩ (Zr O n []) _
 refine zQ [1,2] ?_
 refine Zl ?_
 refine zQ [1,2,6] ?_
 refine Z0 ?_
 refine zQ [1,2,6,7] ?_
 refine Zp (t:=(a0.Kind == 1)) rfl (fun c19 => ?_) (fun c19 => ?_)
 ·replace h:=Zo c19 h
  refine Zl ?_
  obtain ⟨y3,hy3,h⟩:=bC h
  obtain ⟨y4,hy4,h⟩:=bC h
  refine Zka Zt (by kernel_rfl) [false,false,false,false,false,false,false,true] [] (by kernel_rfl) ?_
  refine zS ?_
  refine PCall.of (Zf2 hy3) ?_
  refine zS ?_
  refine PCall.of (Zf2 hy4) ?_
  refine zS ?_
  refine zD [2] [false,true] ?_
  refine zW ?_
  obtain rfl:=sI h
  refine Zq (.inr rfl) hU [.agg [(vI 1),(vI y3.Kind),(sL (eI .u64) y3.Words),(sL Za y3.Kids),(vI y4.Kind),(sL (eI .u64) y4.Words),(sL Za y4.Kids),nV,nV,(vI 0),nV]] (by omega) ?_
  simp only [push_cast,seval,Zf,Tryz.results11,hN0,hN]
 replace h:=Zn c19 h
 refine zQ [1,2,6,16] ?_
 refine Zp (t:=(a0.Kind == 2)) rfl (fun c18 => ?_) (fun c18 => ?_)
 ·replace h:=Zo c18 h
  refine Zl ?_
  refine zRd [1,2,3] [true,true,true] ?_
  refine Zl ?_
  obtain ⟨l6,pl6,ql6,el6,h⟩:=bA0 (k:=a0.Words.length) rfl h
  refine U1 [] pl6 ql6 el6 ?_
  refine Zan ⟨63,[],[(1,.ref n 0),(2,.ref (n+1) 0),(3,.ref (n+2) 0)]⟩ (Zr O n [some ⟨false,30,11,1,(Ze a0)⟩,some ⟨false,30,11,1,[(vI 0),(vI 0),nV,nV,(vI 0),nV,nV,nV,nV,(vI 0),nV]⟩,some ⟨false,30,11,1,[(vI 2),(vI 0),nV,nV,(vI 0),nV,nV,.row (n+3) l6.length,nV,(vI 0),nV]⟩,some (oR 49 4 Zi l6)]) (Zz hU rfl rfl ?_) ?_
  ·exact Z0t pl6 ql6 el6
  refine Zl ?_
  refine zQd [1,2,3,4] [1,2,3,4] [true,true,true,true] ?_
  refine Jz (E':=(⟨63,[],[(1,.ref n 0),(2,.ref (n+1) 0),(3,.ref (n+2) 0),(4,(vI 0))]⟩:Env)) (O':=(Zr O n [some ⟨false,30,11,1,(Ze a0)⟩,some ⟨false,30,11,1,[(vI 0),(vI 0),nV,nV,(vI 0),nV,nV,nV,nV,(vI 0),nV]⟩,some ⟨false,30,11,1,[(vI 2),(vI 0),nV,nV,(vI 0),nV,nV,.row (n+3) l6.length,.row (n+4) ([]:List Zj).length,(vI 0),nV]⟩,some (oR 49 4 Zi l6),some (oR 40 12 Zh ([]:List Zj)),none])) (n':=(n+6)) ?_ ?_
  ·refine Fit2.trans (E':=(⟨63,[],[(1,.ref n 0),(2,.ref (n+1) 0),(3,.ref (n+2) 0),(4,(vI 0))]⟩:Env)) (O':=(Zr O n [some ⟨false,30,11,1,(Ze a0)⟩,some ⟨false,30,11,1,[(vI 0),(vI 0),nV,nV,(vI 0),nV,nV,nV,nV,(vI 0),nV]⟩,some ⟨false,30,11,1,[(vI 2),(vI 0),nV,nV,(vI 0),nV,nV,.row (n+3) l6.length,nV,(vI 0),nV]⟩,some (oR 49 4 Zi l6)])) (n':=(n+4)) (Fit2.of (Zz hU rfl rfl ?_) (by omega)) ?_
   ·exact zSe
   refine Fit2.trans (Gh (p:=(n+2)) (k:=8) (q:=⟨false,30,11,1,[(vI 2),(vI 0),nV,nV,(vI 0),nV,nV,.row (n+3) l6.length,nV,(vI 0),nV]⟩) 40 12 (by simp only [U2,Zcy,List.getElem?_cons_zero,List.getElem?_cons_succ,Option.join_some,List.length_nil,Ye]) rfl (by omega)) ?_
   simp only [Y5,Yt,Kj,Q8,List.set_cons_zero,List.set_cons_succ,List.cons_append,List.nil_append,List.length_cons,List.length_nil,Nat.zero_add,Nat.reduceAdd,Nat.reduceLT,Nat.add_assoc]
   refine X3 (k:=5) (k':=6) hU [0,1,2,3,4] [0,1,2,3,4,0] rfl rfl rfl rfl ⟨rfl,rfl⟩ ?_
   exact zSe
  obtain ⟨z14,hz14,h⟩:=bC h
  refine Z8 (E':=⟨63,[],[(2,.ref (n+1) 0),(3,.ref (n+2) 0)]⟩) (O':=(Zr O n [none,some ⟨false,30,11,1,[(vI 0),(vI 0),nV,nV,(vI 0),nV,nV,nV,nV,(vI 0),nV]⟩,some ⟨false,30,11,1,[(vI 2),(vI 0),nV,nV,(vI 0),nV,nV,.row (n+3) l6.length,.row (n+4) z14.length,(vI 0),nV]⟩,some (oR 49 4 Zi l6),some (oR 40 12 Zh z14),none])) (n0:=(n+6)) ?_ ?_
  ·refine Yi hz14 (fun s0_=>⟨63,[],[(1,.ref n 0),(2,.ref (n+1) 0),(3,.ref (n+2) 0),(4,(vI s0_.1))]⟩) (fun s0_=>(Zr O n [some ⟨false,30,11,1,(Ze a0)⟩,some ⟨false,30,11,1,[(vI 0),(vI 0),nV,nV,(vI 0),nV,nV,nV,nV,(vI 0),nV]⟩,some ⟨false,30,11,1,[(vI 2),(vI 0),nV,nV,(vI 0),nV,nV,.row (n+3) l6.length,.row (n+4) s0_.2.length,(vI 0),nV]⟩,some (oR 49 4 Zi l6),some (oR 40 12 Zh s0_.2),none])) (fun z14=>JX 1 n (⟨63,[],[(2,.ref (n+1) 0),(3,.ref (n+2) 0)]⟩:Env) (Zr O n [none,some ⟨false,30,11,1,[(vI 0),(vI 0),nV,nV,(vI 0),nV,nV,nV,nV,(vI 0),nV]⟩,some ⟨false,30,11,1,[(vI 2),(vI 0),nV,nV,(vI 0),nV,nV,.row (n+3) l6.length,.row (n+4) z14.length,(vI 0),nV]⟩,some (oR 49 4 Zi l6),some (oR 40 12 Zh z14),none]) (n+6)) ?_
   intro s0_ x0_ hs0_
   unfold Vy at hs0_
   try dsimp only
   refine Zl ?_
   refine zQ [1,2,3,4,29] ?_
   refine Zp (t:=(decide (s0_.1 < (a0.Kids.length:Int)))) rfl (fun c13 => ?_) (fun c13 => ?_)
   ·replace hs0_:=Zo c13 hs0_
    refine Q5 [1,2,3,4] [true,true,true,true,true,false] ?_
    refine Zl ?_
    refine Z0 ?_
    obtain ⟨x7,hx7,ax7,bx7,cx7,hs0_⟩:=bE (f:=Zh) Zi1 (fun _=>rfl) (by decide) hs0_
    have g8:=J0 (f:=Zh) (sz:=12) Zis (fun _=>rfl) (by decide) (by decide) hx7
    have g10:=X2 (f:=Zh) (off:=1) (sz:=12) Zd7 (fun _=>rfl) (by decide) (by decide) hx7
    obtain ⟨y11,hy11,hs0_⟩:=bC hs0_
    obtain ⟨l12,pl12,ql12,el12,hs0_⟩:=bA (k:=1) rfl hs0_
    refine Zes Zt (by kernel_rfl) [.low,.low,.plain,.plain,.plain,.plain,.plain,.plain,.plain,.plain,.plain,.plain,.plain,.plain,.plain,.plain,.pass,.bar,.plain,.bar] (fun i=>i < (n+6)) [0,1,2,3,4,5,6,7,8,9,10,11,12,13,14,15,16,17,18,19] [.low,.low,.plain,.plain,.plain,.plain,.plain,.plain,.plain,.plain,.plain,.plain,.plain,.plain,.plain,.plain,.pass,.bar,.plain,.bar] [] (by kernel_rfl) rfl ?_
    refine zF8 ax7 bx7 cx7 g8 g10 pl12 ql12 el12 ?_
    refine zO ?_
    first | refine PCallA.of (fun _ _=>Za8 hy11) ?_ | refine PCall.of (Za8 hy11) ?_
    refine zF8 ax7 bx7 cx7 g8 g10 pl12 ql12 el12 ?_
    refine zO ?_
    refine Zan ⟨63,[],[(1,.ref n 0),(2,.ref (n+1) 0),(3,.ref (n+2) 0),(4,(vI s0_.1))]⟩ (Zr O n [some ⟨false,30,11,1,(Ze a0)⟩,some ⟨false,30,11,1,[(vI 0),(vI 0),nV,nV,(vI 0),nV,nV,nV,nV,(vI 0),nV]⟩,some ⟨false,30,11,1,[(vI 2),(vI 0),nV,nV,(vI 0),nV,nV,.row (n+3) l6.length,.row (n+4) l12.length,(vI 0),nV]⟩,some (oR 49 4 Zi l6),some (oR 40 12 Zh l12),none,none]) (Zz hU rfl rfl ?_) ?_
    ·exact Ykg ax7 bx7 cx7 g8 g10 pl12 ql12 el12
    refine zR ?_
    exact Vu hs0_
   replace hs0_:=Zn c13 hs0_
   exact zEx hs0_
  try simp only [Yg,Z3,↓reduceIte,Nat.reduceEqDiff]
  refine zDs [2,3] [false,true,true,true,true,false] ?_
  refine zRd [2] [false,true,false,true,true,false] ?_
  refine zW ?_
  obtain rfl:=sI h
  refine Zq (.inr rfl) hU [.agg [(vI 2),(vI 0),nV,nV,(vI 0),nV,nV,.row (n+3) l6.length,.row (n+4) z14.length,(vI 0),nV]] (by omega) ?_
  simp only [push_cast,seval,Zf,Tryz.results11,hN0,hN]
 replace h:=Zn c18 h
 refine zQ [1,2,52] ?_
 refine Zp (t:=(a0.Kind == 3)) rfl (fun c17 => ?_) (fun c17 => ?_)
 ·replace h:=Zo c17 h
  refine Zl ?_
  obtain ⟨y16,hy16,h⟩:=bC h
  refine Zka Zt (by kernel_rfl) [false,false,false,false,false,false,false,false,true] [] (by kernel_rfl) ?_
  refine zS ?_
  refine PCall.of (Ziz hy16) ?_
  refine zS ?_
  refine zD [2] [false,true] ?_
  refine zW ?_
  obtain rfl:=sI h
  refine Zq (.inr rfl) hU [.agg [(vI 3),(vI 0),nV,nV,(vI 0),nV,nV,nV,nV,(vI a0.List_),(sL Zd y16)]] (by omega) ?_
  simp only [push_cast,seval,Zf,Tryz.results11,hN0,hN]
 replace h:=Zn c17 h
 refine Q5 [2] [false,true] ?_
 refine Zl ?_
 refine zRd [2] [false,true] ?_
 refine zW ?_
 obtain rfl:=sI h
 refine Zq (.inr rfl) hU [.agg [(vI 0),(vI 0),nV,nV,(vI 0),nV,nV,nV,nV,(vI 0),nV]] (by omega) ?_
 simp only [push_cast,seval,Zf,Tryz.results11,hN0,hN]
theorem Zrl {Y8:(Zb→Option Zb)} {Qk:(Int→(List Zg)→Option (List Zg))} (Za8:Zel Y8) (Ziz:Zfg Qk) {a0:Int} {a1:(List Zg)} {r:(List Zg)} {O:Objs} {n:Nat} (h:Gd Y8 Qk a0 a1=some r):GTo Tryz.prog 24 [(vI a0),(sL Zd a1)] O n ((sL Zd r)) O n:=by
 unfold Gd at h
 refine fn0 Zt Tryz.call24 Tryz.func24 rfl fun hU hN0 hN => ?_
 show W _ _ _ _ ⟨114,[],[(0,(vI a0)),(1,(sL Zd a1))]⟩ (Zr O n []) _
 refine zQ [0,1] ?_
 refine zQ [0,1,5] ?_
 refine Zl ?_
 refine zQd [0,1,5,6] [0,1,5,6] [] ?_
 refine Jz (E':=(⟨114,[],[(0,(vI a0)),(1,(sL Zd a1)),(5,.row n ([]:List Zg).length),(6,(vI 0))]⟩:Env)) (O':=(Zr O n [some (oR 42 14 Zd ([]:List Zg)),none])) (n':=(n+2)) ?_ ?_
 ·refine Fit2.trans (E':=(⟨114,[],[(0,(vI a0)),(1,(sL Zd a1)),(5,nV),(6,(vI 0))]⟩:Env)) (O':=(Zr O n [])) (n':=n) (Fit2.of (Zz hU rfl rfl ?_) (by omega)) ?_
  ·exact zSe
  refine Fit2.trans (Zf6 5 42 14 rfl (by omega)) ?_
  simp only [Y5,Yt,Kj,Q8,List.set_cons_zero,List.set_cons_succ,List.cons_append,List.nil_append,List.length_cons,List.length_nil,Nat.zero_add,Nat.reduceAdd,Nat.reduceLT,Nat.add_assoc]
  refine Fit2.trans (E':=(⟨114,[],[(0,(vI a0)),(1,(sL Zd a1)),(5,.row n ([]:List Zg).length),(6,(vI 0))]⟩:Env)) (O':=(Zr O n [some (oR 42 14 Zd ([]:List Zg))])) (n':=(n+1)) (Fit2.of (Zz hU rfl rfl ?_) (by omega)) ?_
  ·exact zSe
  refine X3 (k:=1) (k':=2) hU [0] [0,0] rfl rfl rfl rfl ⟨rfl,rfl⟩ ?_
  exact zSe
 obtain ⟨z48,hz48,h⟩:=bC h
 refine U3 (J:=(Xg (fun z48=>JR n (⟨114,[],[(4,(sL Zd z48))]⟩:Env) (Zr O n []) n) (fun z48=>JX 0 n (⟨114,[],[(5,.row n z48.length)]⟩:Env) (Zr O n [some (oR 42 14 Zd z48),none]) (n+2)))) (z:=z48) ?_ fun hw => ?_
 ·refine Yi hz48 (fun s0_=>⟨114,[],[(0,(vI a0)),(1,(sL Zd a1)),(5,.row n s0_.2.length),(6,(vI s0_.1))]⟩) (fun s0_=>(Zr O n [some (oR 42 14 Zd s0_.2),none])) (Xg (fun z48=>JR n (⟨114,[],[(4,(sL Zd z48))]⟩:Env) (Zr O n []) n) (fun z48=>JX 0 n (⟨114,[],[(5,.row n z48.length)]⟩:Env) (Zr O n [some (oR 42 14 Zd z48),none]) (n+2))) ?_
  intro s0_ x0_ hs0_
  unfold Xu at hs0_
  try dsimp only
  refine Zl ?_
  refine zQ [0,1,5,6,16] ?_
  refine Zp (t:=(decide (s0_.1 < (a1.length:Int)))) rfl (fun c47 => ?_) (fun c47 => ?_)
  ·replace hs0_:=Zo c47 hs0_
   refine Q5 [0,1,5,6] [true,false] ?_
   obtain ⟨z1,hz1,hs0_⟩:=bC hs0_
   refine Ya4 (J:=(Xg (fun z1=>JN n (⟨114,[],[(0,(vI a0)),(1,(sL Zd a1)),(5,.row n z1.2.length),(6,(vI z1.1))]⟩:Env) (Zr O n [some (oR 42 14 Zd z1.2),none,none,none,none,none]) (n+6)) (fun z1=>JR n (⟨114,[],[(4,.row n z1.length)]⟩:Env) (Zr O n [some (oR 42 14 Zd z1),none]) (n+2)))) (z:=z1) ?_ fun hw => ?_
   ·refine Z0 ?_
    refine Zl ?_
    obtain ⟨y3,hy3,hz1⟩:=bC hz1
    refine zCd (Zkq hy3) [0,1,5,6,7,8] [true,false] ?_
    refine Zl ?_
    obtain ⟨y5,hy5,hz1⟩:=bC hz1
    refine zCd (Zkq hy5) [0,1,5,7,8,9] [true,false] ?_
    obtain ⟨z6,hz6,hz1⟩:=bC hz1
    refine Yk (E':=⟨114,[],[(0,(vI a0)),(1,(sL Zd a1)),(5,.row n z6.length),(8,(vI y3.2)),(9,(sL Za y5.1))]⟩) (O':=(Zr O n [some (oR 42 14 Zd z6),none,none])) (n0:=(n+3)) ?_ ?_
    ·refine zQ [0,1,5,7,8,9,33] ?_
     refine Zp (t:=(decide (0 < (y3.1.length:Int)))) rfl (fun c8 => ?_) (fun c8 => ?_)
     ·replace hz6:=Zo c8 hz6
      obtain ⟨l7,pl7,ql7,el7,hz6⟩:=bA (k:=1) rfl hz6
      refine U1 [] pl7 ql7 el7 ?_
      exact Zdq hz6 pl7 ql7 el7
     replace hz6:=Zn c8 hz6
     refine zK ?_
     exact Vu hz6
    obtain ⟨z9,hz9,hz1⟩:=bC hz1
    refine Yk (E':=⟨114,[],[(0,(vI a0)),(1,(sL Zd a1)),(5,.row n z9.length),(8,(vI y3.2))]⟩) (O':=(Zr O n [some (oR 42 14 Zd z9),none,none,none])) (n0:=(n+4)) ?_ ?_
    ·refine zQ [0,1,5,8,9,41] ?_
     refine Zp (t:=(decide (0 < (y5.1.length:Int)))) rfl (fun c11 => ?_) (fun c11 => ?_)
     ·replace hz9:=Zo c11 hz9
      obtain ⟨l10,pl10,ql10,el10,hz9⟩:=bA (k:=1) rfl hz9
      refine U1 [] pl10 ql10 el10 ?_
      exact Zdq hz9 pl10 ql10 el10
     replace hz9:=Zn c11 hz9
     refine zK ?_
     exact Vu hz9
    refine zQ [0,1,5,6] ?_
    refine Zl ?_
    refine zQ [0,1,5,6,51] ?_
    refine Zp (t:=(decide ((a1.length:Int)≤y3.2))) rfl (fun c46 => ?_) (fun c46 => ?_)
    ·replace hz1:=Zo c46 hz1
     refine zQ [4] ?_
     refine zW ?_
     exact Vu hz1
    replace hz1:=Zn c46 hz1
    refine Q5 [0,1,5,6] [true,false,false,false] ?_
    refine Zl ?_
    obtain ⟨x14,hx14,ax14,bx14,cx14,hz1⟩:=bE (f:=Zd) Jw (fun _=>rfl) (by decide) hz1
    have g15:=X2 (f:=Zd) (off:=1) (sz:=14) Zis (fun _=>rfl) (by decide) (by decide) hx14
    refine Zi2 [] ax14 bx14 cx14 g15 ?_
    refine zD [0,1,5,6,11] [true,false,false,false,true] ?_
    obtain ⟨z16,hz16,hz1⟩:=bC hz1
    refine Yk (E':=⟨114,[],[(0,(vI a0)),(1,(sL Zd a1)),(5,.row n z9.length),(6,(vI y3.2)),(11,.ref (n+4) 0)]⟩) (O':=(Zr O n [some (oR 42 14 Zd z9),none,none,none,some ⟨false,42,14,1,[(vI z16.1),(vI z16.2.1),nV,(vI z16.2.2.1),(vI z16.2.2.2.1),(sL (eI .u64) z16.2.2.2.2.1),(sL Za z16.2.2.2.2.2.1),(vI z16.2.2.2.2.2.2.1),(sL (eI .u64) z16.2.2.2.2.2.2.2.1),(sL Za z16.2.2.2.2.2.2.2.2.1),(sL Zi z16.2.2.2.2.2.2.2.2.2.1),(sL Zh z16.2.2.2.2.2.2.2.2.2.2.1),(vI z16.2.2.2.2.2.2.2.2.2.2.2.1),(sL Zd z16.2.2.2.2.2.2.2.2.2.2.2.2)]⟩])) (n0:=(n+5)) ?_ ?_
    ·obtain ⟨x19,hx19,ax19,bx19,cx19,hz16⟩:=bE (f:=Zd) Jw (fun _=>rfl) (by decide) hz16
     have g20:=J0 (f:=Zd) (sz:=14) Zis (fun _=>rfl) (by decide) (by decide) hx19
     refine Zl0 [0,1,5,6,11,64] (Yn Zt [] ?_)
     refine zF4 ax19 bx19 cx19 g20 ?_
     refine Zp (t:=(x19.Kind == 3)) rfl (fun c30 => ?_) (fun c30 => ?_)
     ·replace hz16:=Zo c30 hz16
      refine Zl ?_
      obtain ⟨x24,hx24,ax24,bx24,cx24,hz16⟩:=bE (f:=Zd) Jw (fun _=>rfl) (by decide) hz16
      have g25:=X2 (f:=Zd) (off:=3) (sz:=14) Zd7 (fun _=>rfl) (by decide) (by decide) hx24
      obtain ⟨y26,hy26,hz16⟩:=bC hz16
      refine Zi2 [] ax24 bx24 cx24 g25 ?_
      refine (Za8 hy26).then ?_
      refine zF4 ax24 bx24 cx24 g25 ?_
      refine zDs [0,1,5,6,11] [true,false,false,false,true] ?_
      obtain ⟨y28,hy28,hz16⟩:=bC hz16
      refine zCd (Zrk hy28) [0,1,5,6,11,75] [true,false,false,false,true] ?_
      refine Zp (t:=y28) rfl (fun c29 => ?_) (fun c29 => ?_)
      ·replace hz16:=Zo c29 hz16
       refine zR ?_
       exact Vu hz16
      replace hz16:=Zn c29 hz16
      refine zK ?_
      exact Vu hz16
     replace hz16:=Zn c30 hz16
     refine zK ?_
     exact Vu hz16
    refine zQ [0,1,5,6,11,12] ?_
    obtain ⟨z33,hz33,hz1⟩:=bC hz1
    refine Yk (E':=⟨114,[],[(0,(vI a0)),(1,(sL Zd a1)),(5,.row n z9.length),(6,(vI y3.2)),(11,.ref (n+4) 0),(12,(vI (z9.length:Int))),(94,(vB z33))]⟩) (O':=(Zr O n [some (oR 42 14 Zd z9),none,none,none,some ⟨false,42,14,1,[(vI z16.1),(vI z16.2.1),nV,(vI z16.2.2.1),(vI z16.2.2.2.1),(sL (eI .u64) z16.2.2.2.2.1),(sL Za z16.2.2.2.2.2.1),(vI z16.2.2.2.2.2.2.1),(sL (eI .u64) z16.2.2.2.2.2.2.2.1),(sL Za z16.2.2.2.2.2.2.2.2.1),(sL Zi z16.2.2.2.2.2.2.2.2.2.1),(sL Zh z16.2.2.2.2.2.2.2.2.2.2.1),(vI z16.2.2.2.2.2.2.2.2.2.2.2.1),(sL Zd z16.2.2.2.2.2.2.2.2.2.2.2.2)]⟩])) (n0:=(n+5)) ?_ ?_
    ·rcases Bool.eq_false_or_eq_true (z16.1 == 0) with c38 | c38
     ·replace hz33:=Zo c38 hz33
      rcases Bool.eq_false_or_eq_true (decide (0 < (z9.length:Int))) with c39 | c39
      ·replace hz33:=Zo c39 hz33
       try rw [c39] at c38
       obtain ⟨x36,hx36,ax36,bx36,cx36,hz33⟩:=bE (f:=Zd) Jw (fun _=>rfl) (by decide) hz33
       have g37:=J0 (f:=Zd) (sz:=14) Zis (fun _=>rfl) (by decide) (by decide) hx36
       refine Z9z (Qb::Qb::Z66 []) c38 c39 ax36 bx36 cx36 g37 ?_
       refine zG ?_
       exact Yfz hz33 c38 c39 ax36 bx36 cx36 g37
      replace hz33:=Zn c39 hz33
      try rw [c39] at c38
      refine Ja (Qb::Qb::Yeb []) c38 c39 ?_
      refine zG ?_
      exact Zbp hz33 c38 c39
     replace hz33:=Zn c38 hz33
     refine K3 (Qb::Qb::Yeb []) c38 ?_
     refine zG ?_
     exact Kq hz33 c38
    refine Zp (t:=z33) rfl (fun c45 => ?_) (fun c45 => ?_)
    ·replace hz1:=Zo c45 hz1
     obtain ⟨x40,hx40,ax40,bx40,cx40,hz1⟩:=bE (f:=Zd) Jw (fun _=>rfl) (by decide) hz1
     have g41:=X2 (f:=Zd) (off:=1) (sz:=14) Zis (fun _=>rfl) (by decide) (by decide) hx40
     have gu43:Ke (fl Zd z9) [.val (.int .i64 (IntKind.i64.wrap (x40.N+z16.2.1)))] (Int.toNat (IntKind.i64.wrap ((z9.length:Int) - 1)) * 14+1)=some (fl Zd (Zlw z9 (IntKind.i64.wrap ((z9.length:Int) - 1)) (⟨x40.Kind,(IntKind.i64.wrap (x40.N+z16.2.1)),x40.L,x40.E⟩:Zg))):=Z6x (f:=Zd) (sz:=14) (fun _=>rfl) (Nat.le_of_ble_eq_true rfl) hx40 (by simp only [Zd,Xo,Za,Yq,Zk,Xa,Zi,Zh,Yr,eI,eB,eS,eL,List.take_zero,List.take_succ_cons,List.drop_zero,List.drop_succ_cons,List.cons_append,List.nil_append,List.length_cons,List.length_nil,Nat.zero_add,Nat.reduceAdd])
     refine Zka Zt (by kernel_rfl) [false,false,false,false,false,false,false,false,false,false,false,false,false,false,true] [] (by kernel_rfl) ?_
     refine zF5 ax40 bx40 cx40 g41 gu43 ?_
     exact Ydi hz1 ax40 bx40 cx40 g41 gu43
    replace hz1:=Zn c45 hz1
    obtain ⟨l44,pl44,ql44,el44,hz1⟩:=bA (k:=1) rfl hz1
    refine U1 [] pl44 ql44 el44 ?_
    exact Zdq hz1 pl44 ql44 el44
   rcases z1 with z1 | z1
   ·dsimp only [Xg] at hw hs0_
    refine Yk hw ?_
    refine zR ?_
    exact Vu hs0_
   dsimp only [Xg] at hw hs0_
   refine Z6j hw ?_
   try simp only [Yg,Z3]
   exact zEy hs0_
  replace hs0_:=Zn c47 hs0_
  exact zEx hs0_
 rcases z48 with z48 | z48
 ·dsimp only [Xg] at hw h
  refine Qj hw ?_
  try simp only [Yg,Z3,↓reduceIte,Nat.reduceEqDiff]
  obtain rfl:=sI h
  refine Zq (.inr rfl) hU [(sL Zd z48)] (by omega) ?_
  simp only [push_cast,seval,Zf,Tryz.results24,hN0,hN]
 dsimp only [Xg] at hw h
 refine Z8 hw ?_
 try simp only [Yg,Z3,↓reduceIte,Nat.reduceEqDiff]
 refine zD [5] [true,false] ?_
 refine zQ [4] ?_
 refine zW ?_
 obtain rfl:=sI h
 refine Zq (.inr rfl) hU [.row n z48.length] (by omega) ?_
 simp only [push_cast,seval,Zf,Tryz.results24,hN0,hN]
theorem Zn1:∀ k,(Zel ((Y7 k).1))∧(Zfg ((Y7 k).2)):=fun k=>by
 induction k with
 | zero=>exact ⟨@fun a0 r O n h=>(nomatch (show (none:Option _)=some _ from h)),@fun a0 a1 r O n h=>(nomatch (show (none:Option _)=some _ from h))⟩
 | succ k ih=>exact ⟨@fun a0 r O n h=>Zq3 (ih.1) (ih.2)  h,@fun a0 a1 r O n h=>Zrl (ih.1) (ih.2)  h⟩
theorem Zjr {a0:Zb} {r:Zb} {O:Objs} {n:Nat} (h:Zdz a0=some r):GTo Tryz.prog 11 [.agg (Ze a0)] O n (.agg (Ze r)) O n:=by
 obtain ⟨k,hk⟩:=Ux h
 exact (Zn1 k).1  hk
theorem Za7 {a0:(List Zg)} {a1:Int} {r:Int} {O:Objs} {n:Nat} (h:Kw a0 a1=some r):GTo Tryz.prog 38 [(sL Zd a0),(vI a1)] O n ((vI r)) O n:=by
 unfold Kw at h
 refine fn0 Zt Tryz.call38 Tryz.func38 rfl fun hU hN0 hN => ?_
 show W _ _ _ _ ⟨41,[],[(0,(sL Zd a0)),(1,(vI a1))]⟩ (Zr O n []) _
 refine zQ [0,1] ?_
 refine zQ [0,1,5] ?_
 refine Zl ?_
 refine zQd [0,1,5,6] [0,1,5,6] [] ?_
 obtain ⟨z14,hz14,h⟩:=bC h
 refine Z8 (E':=⟨41,[],[(5,(vI z14))]⟩) (O':=(Zr O n [])) (n0:=n) ?_ ?_
 ·refine Yi hz14 (fun s0_=>⟨41,[],[(0,(sL Zd a0)),(1,(vI a1)),(5,(vI s0_.1)),(6,(vI s0_.2))]⟩) (fun s0_=>(Zr O n [])) (fun z14=>JX 0 n (⟨41,[],[(5,(vI z14))]⟩:Env) (Zr O n []) n) ?_
  intro s0_ x0_ hs0_
  unfold Kl at hs0_
  try dsimp only
  refine Zl ?_
  refine zQ [0,1,5,6,9] ?_
  refine Zp (t:=(decide (s0_.2 < a1))) rfl (fun c13 => ?_) (fun c13 => ?_)
  ·replace hs0_:=Zo c13 hs0_
   refine Q5 [0,1,5,6] [] ?_
   obtain ⟨z1,hz1,hs0_⟩:=bC hs0_
   refine Yk (E':=⟨41,[],[(0,(sL Zd a0)),(1,(vI a1)),(5,(vI z1)),(6,(vI s0_.2))]⟩) (O':=(Zr O n [])) (n0:=n) ?_ ?_
   ·refine Z0 ?_
    obtain ⟨x4,hx4,ax4,bx4,cx4,hz1⟩:=bE (f:=Zd) Jw (fun _=>rfl) (by decide) hz1
    have g5:=J0 (f:=Zd) (sz:=14) Zis (fun _=>rfl) (by decide) (by decide) hx4
    refine Zl0 [0,1,5,6,16] (Yn Zt [] ?_)
    refine zF4 ax4 bx4 cx4 g5 ?_
    refine Z0 ?_
    refine zQ [0,1,5,6,16,17] ?_
    refine Zp (t:=(x4.Kind == 0)) rfl (fun c12 => ?_) (fun c12 => ?_)
    ·replace hz1:=Zo c12 hz1
     obtain ⟨x6,hx6,ax6,bx6,cx6,hz1⟩:=bE (f:=Zd) Jw (fun _=>rfl) (by decide) hz1
     have g7:=X2 (f:=Zd) (off:=1) (sz:=14) Zis (fun _=>rfl) (by decide) (by decide) hx6
     refine Zi2 [] ax6 bx6 cx6 g7 ?_
     exact Zvt hz1 ax6 bx6 cx6 g7
    replace hz1:=Zn c12 hz1
    refine zQ [0,1,5,6,16,26] ?_
    refine Zp (t:=(x4.Kind == 2)) rfl (fun c11 => ?_) (fun c11 => ?_)
    ·replace hz1:=Zo c11 hz1
     obtain ⟨x8,hx8,ax8,bx8,cx8,hz1⟩:=bE (f:=Zd) Jw (fun _=>rfl) (by decide) hz1
     have g9:=X2 (f:=Zd) (off:=2) (sz:=14) Ztn (fun _=>rfl) (by decide) (by decide) hx8
     refine Zi2 [] ax8 bx8 cx8 g9 ?_
     exact Zvt hz1 ax8 bx8 cx8 g9
    replace hz1:=Zn c11 hz1
    refine zQ [0,1,5,6,36] ?_
    refine Zp (t:=(x4.Kind == 3)) rfl (fun c10 => ?_) (fun c10 => ?_)
    ·replace hz1:=Zo c10 hz1
     refine zR ?_
     exact Vu hz1
    replace hz1:=Zn c10 hz1
    refine zK ?_
    exact Vu hz1
   refine zR ?_
   exact Vu hs0_
  replace hs0_:=Zn c13 hs0_
  exact zEx hs0_
 try simp only [Yg,Z3,↓reduceIte,Nat.reduceEqDiff]
 refine zD [5] [] ?_
 refine zQ [4] ?_
 refine zW ?_
 obtain rfl:=sI h
 refine Zq (.inr rfl) hU [(vI z14)] (by omega) ?_
 simp only [push_cast,seval,Zf,Tryz.results38,hN0,hN]
theorem Zb0 {a0:(List Zg)} {a1:Int} {r:Int} {O:Objs} {n:Nat} (h:Vj a0 a1=some r):GTo Tryz.prog 39 [(sL Zd a0),(vI a1)] O n ((vI r)) O n:=by
 unfold Vj at h
 refine fn0 Zt Tryz.call39 Tryz.func39 rfl fun hU hN0 hN => ?_
 show W _ _ _ _ ⟨43,[],[(0,(sL Zd a0)),(1,(vI a1))]⟩ (Zr O n []) _
 refine zQ [0,1] ?_
 refine zQ [0,1,5] ?_
 refine Zl ?_
 refine zQd [0,5,6] [0,5,6] [] ?_
 obtain ⟨z14,hz14,h⟩:=bC h
 refine Z8 (E':=⟨43,[],[(5,(vI z14))]⟩) (O':=(Zr O n [])) (n0:=n) ?_ ?_
 ·refine Yi hz14 (fun s0_=>⟨43,[],[(0,(sL Zd a0)),(5,(vI s0_.1)),(6,(vI s0_.2))]⟩) (fun s0_=>(Zr O n [])) (fun z14=>JX 0 n (⟨43,[],[(5,(vI z14))]⟩:Env) (Zr O n []) n) ?_
  intro s0_ x0_ hs0_
  unfold Vf at hs0_
  try dsimp only
  refine Zl ?_
  refine zQ [0,5,6,11] ?_
  refine Zp (t:=(decide (s0_.2 < (a0.length:Int)))) rfl (fun c13 => ?_) (fun c13 => ?_)
  ·replace hs0_:=Zo c13 hs0_
   refine Q5 [0,5,6] [] ?_
   obtain ⟨z1,hz1,hs0_⟩:=bC hs0_
   refine Yk (E':=⟨43,[],[(0,(sL Zd a0)),(5,(vI z1)),(6,(vI s0_.2))]⟩) (O':=(Zr O n [])) (n0:=n) ?_ ?_
   ·refine Z0 ?_
    obtain ⟨x4,hx4,ax4,bx4,cx4,hz1⟩:=bE (f:=Zd) Jw (fun _=>rfl) (by decide) hz1
    have g5:=J0 (f:=Zd) (sz:=14) Zis (fun _=>rfl) (by decide) (by decide) hx4
    refine Zl0 [0,5,6,18] (Yn Zt [] ?_)
    refine zF4 ax4 bx4 cx4 g5 ?_
    refine Z0 ?_
    refine zQ [0,5,6,18,19] ?_
    refine Zp (t:=(x4.Kind == 0)) rfl (fun c12 => ?_) (fun c12 => ?_)
    ·replace hz1:=Zo c12 hz1
     obtain ⟨x6,hx6,ax6,bx6,cx6,hz1⟩:=bE (f:=Zd) Jw (fun _=>rfl) (by decide) hz1
     have g7:=X2 (f:=Zd) (off:=1) (sz:=14) Zis (fun _=>rfl) (by decide) (by decide) hx6
     refine Zi2 [] ax6 bx6 cx6 g7 ?_
     exact Zvt hz1 ax6 bx6 cx6 g7
    replace hz1:=Zn c12 hz1
    refine zQ [0,5,6,18,28] ?_
    refine Zp (t:=(x4.Kind == 1)) rfl (fun c11 => ?_) (fun c11 => ?_)
    ·replace hz1:=Zo c11 hz1
     obtain ⟨x8,hx8,ax8,bx8,cx8,hz1⟩:=bE (f:=Zd) Jw (fun _=>rfl) (by decide) hz1
     have g9:=X2 (f:=Zd) (off:=2) (sz:=14) Ztn (fun _=>rfl) (by decide) (by decide) hx8
     refine Zi2 [] ax8 bx8 cx8 g9 ?_
     exact Zvt hz1 ax8 bx8 cx8 g9
    replace hz1:=Zn c11 hz1
    refine zQ [0,5,6,38] ?_
    refine Zp (t:=(x4.Kind == 3)) rfl (fun c10 => ?_) (fun c10 => ?_)
    ·replace hz1:=Zo c10 hz1
     refine zR ?_
     exact Vu hz1
    replace hz1:=Zn c10 hz1
    refine zK ?_
    exact Vu hz1
   refine zR ?_
   exact Vu hs0_
  replace hs0_:=Zn c13 hs0_
  exact zEx hs0_
 try simp only [Yg,Z3,↓reduceIte,Nat.reduceEqDiff]
 refine zD [5] [] ?_
 refine zQ [4] ?_
 refine zW ?_
 obtain rfl:=sI h
 refine Zq (.inr rfl) hU [(vI z14)] (by omega) ?_
 simp only [push_cast,seval,Zf,Tryz.results39,hN0,hN]
theorem Za6 {a0:Int} {a1:Int} {a2:Zg} {a3:Int} {r:Zb} {O:Objs} {n:Nat} (h:Kv a0 a1 a2 a3=some r):GTo Tryz.prog 37 [(vI a0),(vI a1),.agg (Z6 a2),(vI a3)] O n (.agg (Ze r)) O n:=by
 unfold Kv at h
 refine fn0 Zt Tryz.call37 Tryz.func37 rfl fun hU hN0 hN => ?_
 show W _ _ _ _ ⟨37,[],[(0,(vI a0)),(1,(vI a1)),(2,.agg (Z6 a2)),(3,(vI a3))]⟩ (Zr O n []) _
 refine zQ [0,1,3,6,8] ?_
 refine Zl ?_
 refine zRd [1,3,6,8,9] [true,true,true] ?_
 obtain ⟨z1,hz1,h⟩:=bC h
 refine Yk (E':=⟨37,[],[(3,(vI a3)),(6,.ref n 0),(8,.ref (n+1) 0),(9,.ref (n+2) 0)]⟩) (O':=(Zr O n [some ⟨false,42,14,1,(Z6 a2)⟩,some ⟨false,30,11,1,[(vI 0),(vI 0),nV,nV,(vI 0),nV,nV,nV,nV,(vI 0),nV]⟩,some ⟨false,30,11,1,[(vI 3),(vI 0),nV,nV,(vI 0),nV,nV,nV,nV,(vI a0),.row (n+5) z1.length]⟩,none,none,some (oR 42 14 Zd z1),none])) (n0:=(n+7)) ?_ ?_
 ·refine zQ [1,3,6,8,9,13] ?_
  refine Zp (t:=(decide (0 < a1))) rfl (fun c3 => ?_) (fun c3 => ?_)
  ·replace hz1:=Zo c3 hz1
   obtain ⟨l2,pl2,ql2,el2,hz1⟩:=bA0 (k:=1) rfl hz1
   refine U1 [] pl2 ql2 el2 ?_
   obtain rfl:=sI hz1
   refine And.intro rfl ?_
   refine Fit2.trans (E':=(⟨37,[],[(3,(vI a3)),(6,.ref n 0),(8,.ref (n+1) 0),(9,.ref (n+2) 0)]⟩:Env)) (O':=(Zr O n [some ⟨false,42,14,1,(Z6 a2)⟩,some ⟨false,30,11,1,[(vI 0),(vI 0),nV,nV,(vI 0),nV,nV,nV,nV,(vI 0),nV]⟩,some ⟨false,30,11,1,[(vI 3),(vI 0),nV,nV,(vI 0),nV,nV,nV,nV,(vI a0),.row (n+4) l2.length]⟩,none,some (oR 42 14 Zd l2)])) (n':=(n+5)) (Fit2.of (Zz hU rfl rfl ?_) (by omega)) ?_
   ·exact Z0t pl2 ql2 el2
   refine X3 (k:=5) (k':=7) hU [0,1,2,6,5] [0,1,2,0,0,4,0] rfl rfl rfl rfl ⟨rfl,rfl⟩ ?_
   exact zSe
  replace hz1:=Zn c3 hz1
  refine zK ?_
  obtain rfl:=sI hz1
  refine And.intro rfl ?_
  refine Fit2.trans (E':=(⟨37,[],[(3,(vI a3)),(6,.ref n 0),(8,.ref (n+1) 0),(9,.ref (n+2) 0)]⟩:Env)) (O':=(Zr O n [some ⟨false,42,14,1,(Z6 a2)⟩,some ⟨false,30,11,1,[(vI 0),(vI 0),nV,nV,(vI 0),nV,nV,nV,nV,(vI 0),nV]⟩,some ⟨false,30,11,1,[(vI 3),(vI 0),nV,nV,(vI 0),nV,nV,nV,nV,(vI a0),nV]⟩])) (n':=(n+3)) (Fit2.of (Zz hU rfl rfl ?_) (by omega)) ?_
  ·exact zSe
  refine Fit2.trans (Gh (p:=(n+2)) (k:=10) (q:=⟨false,30,11,1,[(vI 3),(vI 0),nV,nV,(vI 0),nV,nV,nV,nV,(vI a0),nV]⟩) 42 14 (by simp only [U2,Zcy,List.getElem?_cons_zero,List.getElem?_cons_succ,Option.join_some,List.length_nil,Ye]) rfl (by omega)) ?_
  simp only [Y5,Yt,Kj,Q8,List.set_cons_zero,List.set_cons_succ,List.cons_append,List.nil_append,List.length_cons,List.length_nil,Nat.zero_add,Nat.reduceAdd,Nat.reduceLT,Nat.add_assoc]
  refine X3 (k:=4) (k':=7) hU [0,1,2,5] [0,1,2,0,0,3,0] rfl rfl rfl rfl ⟨rfl,rfl⟩ ?_
  exact zSe
 refine Zl ?_
 obtain ⟨l5,pl5,ql5,el5,h⟩:=bA (k:=1) rfl h
 refine U1 [] pl5 ql5 el5 ?_
 refine Zan ⟨37,[],[(3,(vI a3)),(8,.ref (n+1) 0),(9,.ref (n+2) 0)]⟩ (Zr O n [none,some ⟨false,30,11,1,[(vI 0),(vI 0),nV,nV,(vI 0),nV,nV,nV,nV,(vI 0),nV]⟩,some ⟨false,30,11,1,[(vI 3),(vI 0),nV,nV,(vI 0),nV,nV,nV,nV,(vI a0),.row (n+5) l5.length]⟩,none,none,some (oR 42 14 Zd l5),none,none]) (Zz hU rfl rfl ?_) ?_
 ·exact Z0t pl5 ql5 el5
 obtain ⟨z6,hz6,h⟩:=bC h
 refine Yk (E':=⟨37,[],[(8,.ref (n+1) 0),(9,.ref (n+2) 0)]⟩) (O':=(Zr O n [none,some ⟨false,30,11,1,[(vI 0),(vI 0),nV,nV,(vI 0),nV,nV,nV,nV,(vI 0),nV]⟩,some ⟨false,30,11,1,[(vI 3),(vI 0),nV,nV,(vI 0),nV,nV,nV,nV,(vI a0),.row (n+5) z6.length]⟩,none,none,some (oR 42 14 Zd z6),none,none,none])) (n0:=(n+9)) ?_ ?_
 ·refine zQ [3,8,9,28] ?_
  refine Zp (t:=(decide (0 < a3))) rfl (fun c8 => ?_) (fun c8 => ?_)
  ·replace hz6:=Zo c8 hz6
   obtain ⟨l7,pl7,ql7,el7,hz6⟩:=bA (k:=1) rfl hz6
   refine U1 [] pl7 ql7 el7 ?_
   exact Zdq hz6 pl7 ql7 el7
  replace hz6:=Zn c8 hz6
  refine zK ?_
  exact Vu hz6
 refine Zl ?_
 refine zRd [8] [false,true,false,false,false,true,false,false,false] ?_
 refine zW ?_
 obtain rfl:=sI h
 refine Zq (.inr rfl) hU [.agg [(vI 3),(vI 0),nV,nV,(vI 0),nV,nV,nV,nV,(vI a0),.row (n+5) z6.length]] (by omega) ?_
 simp only [push_cast,seval,Zf,Tryz.results37,hN0,hN]
def Zhi (Xs:(Zb→Option (List Zb))):Prop:=∀ {a0:Zb} {r:(List Zb)} {O:Objs} {n:Nat},Xs a0=some r→GTo Tryz.prog 19 [.agg (Ze a0)] O n ((sL Zk r)) O n
theorem Zos {Xs:(Zb→Option (List Zb))} (Zho:Zhi Xs) {a0:Zb} {r:(List Zb)} {O:Objs} {n:Nat} (h:Gn Xs a0=some r):GTo Tryz.prog 19 [.agg (Ze a0)] O n ((sL Zk r)) O n:=by
 unfold Gn at h
 refine fn0 Zt Tryz.call19 Tryz.func19 rfl fun hU hN0 hN => ?_
 show W _ _ _ _ ⟨142,[],[(0,.agg (Ze a0))]⟩ (Zr O n []) _
 refine zQ [1] ?_
 refine zQ [1,3] ?_
 refine Zl ?_
 refine zQ [1,3,14] ?_
 refine Zp (t:=(a0.Kind == 0)) rfl (fun c41 => ?_) (fun c41 => ?_)
 ·replace h:=Zo c41 h
  refine zQ [2] ?_
  refine zW ?_
  obtain rfl:=sI h
  refine Zq (.inr rfl) hU [nV] (by omega) ?_
  simp only [push_cast,seval,Zf,Tryz.results19,hN0,hN]
 replace h:=Zn c41 h
 refine Q5 [1,3] [true] ?_
 refine Zl ?_
 refine zQd [1,3,4] [1,3,4] [true] ?_
 refine Jz (E':=(⟨142,[],[(1,.ref n 0),(3,.row (n+1) ([]:List Zb).length),(4,(vI 0))]⟩:Env)) (O':=(Zr O n [some ⟨false,30,11,1,(Ze a0)⟩,some (oR 30 11 Zk ([]:List Zb)),none])) (n':=(n+3)) ?_ ?_
 ·refine Fit2.trans (E':=(⟨142,[],[(1,.ref n 0),(3,nV),(4,(vI 0))]⟩:Env)) (O':=(Zr O n [some ⟨false,30,11,1,(Ze a0)⟩])) (n':=(n+1)) (Fit2.of (Zz hU rfl rfl ?_) (by omega)) ?_
  ·exact zSe
  refine Fit2.trans (Zf6 3 30 11 rfl (by omega)) ?_
  simp only [Y5,Yt,Kj,Q8,List.set_cons_zero,List.set_cons_succ,List.cons_append,List.nil_append,List.length_cons,List.length_nil,Nat.zero_add,Nat.reduceAdd,Nat.reduceLT,Nat.add_assoc]
  refine Fit2.trans (E':=(⟨142,[],[(1,.ref n 0),(3,.row (n+1) ([]:List Zb).length),(4,(vI 0))]⟩:Env)) (O':=(Zr O n [some ⟨false,30,11,1,(Ze a0)⟩,some (oR 30 11 Zk ([]:List Zb))])) (n':=(n+2)) (Fit2.of (Zz hU rfl rfl ?_) (by omega)) ?_
  ·exact zSe
  refine X3 (k:=2) (k':=3) hU [0,1] [0,1,0] rfl rfl rfl rfl ⟨rfl,rfl⟩ ?_
  exact zSe
 obtain ⟨z4,hz4,h⟩:=bC h
 refine Z8 (E':=⟨142,[],[(1,.ref n 0),(3,.row (n+1) z4.length)]⟩) (O':=(Zr O n [some ⟨false,30,11,1,(Ze a0)⟩,some (oR 30 11 Zk z4),none])) (n0:=(n+3)) ?_ ?_
 ·refine Yi hz4 (fun s0_=>⟨142,[],[(1,.ref n 0),(3,.row (n+1) s0_.2.length),(4,(vI s0_.1))]⟩) (fun s0_=>(Zr O n [some ⟨false,30,11,1,(Ze a0)⟩,some (oR 30 11 Zk s0_.2),none])) (fun z4=>JX 0 n (⟨142,[],[(1,.ref n 0),(3,.row (n+1) z4.length)]⟩:Env) (Zr O n [some ⟨false,30,11,1,(Ze a0)⟩,some (oR 30 11 Zk z4),none]) (n+3)) ?_
  intro s0_ x0_ hs0_
  unfold Vb at hs0_
  try dsimp only
  refine Zl ?_
  refine zQ [1,3,4,19] ?_
  refine Zp (t:=(decide (s0_.1 < (a0.Words.length:Int)))) rfl (fun c3 => ?_) (fun c3 => ?_)
  ·replace hs0_:=Zo c3 hs0_
   refine Q5 [1,3,4] [true,true,false] ?_
   refine Zl ?_
   refine Z0 ?_
   obtain ⟨x1,hx1,ax1,bx1,cx1,hs0_⟩:=bE (f:=Zi) Zq9 (fun _=>rfl) (by decide) hs0_
   obtain ⟨l2,pl2,ql2,el2,hs0_⟩:=bA (k:=1) rfl hs0_
   refine Z9z [] ax1 bx1 cx1 pl2 ql2 el2 ?_
   refine Zan ⟨142,[],[(1,.ref n 0),(3,.row (n+1) l2.length),(4,(vI s0_.1))]⟩ (Zr O n [some ⟨false,30,11,1,(Ze a0)⟩,some (oR 30 11 Zk l2),none,none,none]) (Zz hU rfl rfl ?_) ?_
   ·exact Ye9 ax1 bx1 cx1 pl2 ql2 el2
   refine zR ?_
   exact Vu hs0_
  replace hs0_:=Zn c3 hs0_
  exact zEx hs0_
 try simp only [Yg,Z3,↓reduceIte,Nat.reduceEqDiff]
 refine zDs [1,3] [true,true,false] ?_
 refine zQd [1,3,5] [1,3,5] [true,true,false] ?_
 obtain ⟨z18,hz18,h⟩:=bC h
 refine Z8 (E':=⟨142,[],[(1,.ref n 0),(3,.row (n+1) z18.length)]⟩) (O':=(Zr O n [some ⟨false,30,11,1,(Ze a0)⟩,some (oR 30 11 Zk z18),none])) (n0:=(n+3)) ?_ ?_
 ·refine Yi hz18 (fun s1_=>⟨142,[],[(1,.ref n 0),(3,.row (n+1) s1_.2.length),(5,(vI s1_.1))]⟩) (fun s1_=>(Zr O n [some ⟨false,30,11,1,(Ze a0)⟩,some (oR 30 11 Zk s1_.2),none])) (fun z18=>JX 2 n (⟨142,[],[(1,.ref n 0),(3,.row (n+1) z18.length)]⟩:Env) (Zr O n [some ⟨false,30,11,1,(Ze a0)⟩,some (oR 30 11 Zk z18),none]) (n+3)) ?_
  intro s1_ x1_ hs1_
  unfold Jo at hs1_
  try dsimp only
  refine Zl ?_
  refine zQ [1,3,5,36] ?_
  refine Zp (t:=(decide (s1_.1 < (a0.Kids.length:Int)))) rfl (fun c17 => ?_) (fun c17 => ?_)
  ·replace hs1_:=Zo c17 hs1_
   refine Q5 [1,3,5] [true,true,false] ?_
   refine Zl ?_
   refine Z0 ?_
   refine Zl ?_
   obtain ⟨x8,hx8,ax8,bx8,cx8,hs1_⟩:=bE (f:=Zh) Zi1 (fun _=>rfl) (by decide) hs1_
   have g9:=X2 (f:=Zh) (off:=1) (sz:=12) Zd7 (fun _=>rfl) (by decide) (by decide) hx8
   obtain ⟨y10,hy10,hs1_⟩:=bC hs1_
   refine Zi2 [] ax8 bx8 cx8 g9 ?_
   refine (Zho hy10).then ?_
   refine zF4 ax8 bx8 cx8 g9 ?_
   refine zD [1,3,5,6] [true,true,false] ?_
   refine zQd [1,3,5,6,7] [1,3,5,6,7] [true,true,false] ?_
   obtain ⟨z16,hz16,hs1_⟩:=bC hs1_
   refine Z8 (E':=⟨142,[],[(1,.ref n 0),(3,.row (n+1) z16.length),(5,(vI s1_.1))]⟩) (O':=(Zr O n [some ⟨false,30,11,1,(Ze a0)⟩,some (oR 30 11 Zk z16),none])) (n0:=(n+3)) ?_ ?_
   ·refine Yi hz16 (fun s2_=>⟨142,[],[(1,.ref n 0),(3,.row (n+1) s2_.2.length),(5,(vI s1_.1)),(6,(sL Zk y10)),(7,(vI s2_.1))]⟩) (fun s2_=>(Zr O n [some ⟨false,30,11,1,(Ze a0)⟩,some (oR 30 11 Zk s2_.2),none])) (fun z16=>JX 4 n (⟨142,[],[(1,.ref n 0),(3,.row (n+1) z16.length),(5,(vI s1_.1))]⟩:Env) (Zr O n [some ⟨false,30,11,1,(Ze a0)⟩,some (oR 30 11 Zk z16),none]) (n+3)) ?_
    intro s2_ x2_ hs2_
    unfold Vc at hs2_
    try dsimp only
    refine Zl ?_
    refine zQ [1,3,5,6,7,49] ?_
    refine Zp (t:=(decide (s2_.1 < (y10.length:Int)))) rfl (fun c15 => ?_) (fun c15 => ?_)
    ·replace hs2_:=Zo c15 hs2_
     refine Q5 [1,3,5,6,7] [true,true,false] ?_
     refine Zl ?_
     refine Z0 ?_
     obtain ⟨x11,hx11,ax11,bx11,cx11,hs2_⟩:=bE (f:=Zh) Zi1 (fun _=>rfl) (by decide) hs2_
     have g12:=J0 (f:=Zh) (sz:=12) Zis (fun _=>rfl) (by decide) (by decide) hx11
     obtain ⟨x13,hx13,ax13,bx13,cx13,hs2_⟩:=bE (f:=Zk) Zd7 (fun _=>rfl) (by decide) hs2_
     obtain ⟨l14,pl14,ql14,el14,hs2_⟩:=bA (k:=1) rfl hs2_
     refine Zes Zt (by kernel_rfl) [.plain,.plain,.plain,.plain,.plain,.plain,.plain,.plain,.plain,.plain,.plain,.plain,.pass,.plain,.pass,.bar,.plain] (fun i=>i < (n+3)) [0,1,2,3,4,5,6,7,8,9,10,11,12,13,14,15,16] [.plain,.plain,.plain,.plain,.plain,.plain,.plain,.plain,.plain,.plain,.plain,.plain,.pass,.plain,.pass,.bar,.plain] [] (by kernel_rfl) rfl ?_
     refine Ykf ax11 bx11 cx11 g12 ax13 bx13 cx13 pl14 ql14 el14 ?_
     refine zO ?_
     refine Zan ⟨142,[],[(1,.ref n 0),(3,.row (n+1) l14.length),(5,(vI s1_.1)),(6,(sL Zk y10)),(7,(vI s2_.1))]⟩ (Zr O n [some ⟨false,30,11,1,(Ze a0)⟩,some (oR 30 11 Zk l14),none,none,none]) (Zz hU rfl rfl ?_) ?_
     ·exact Yi2 ax11 bx11 cx11 g12 ax13 bx13 cx13 pl14 ql14 el14
     refine zR ?_
     exact Vu hs2_
    replace hs2_:=Zn c15 hs2_
    exact zEx hs2_
   try simp only [Yg,Z3,↓reduceIte,Nat.reduceEqDiff]
   refine zD [1,3,5] [true,true,false] ?_
   refine zR ?_
   exact Vu hs1_
  replace hs1_:=Zn c17 hs1_
  exact zEx hs1_
 try simp only [Yg,Z3,↓reduceIte,Nat.reduceEqDiff]
 refine zDs [1,3] [true,true,false] ?_
 refine zQd [1,3,8] [1,3,8] [true,true,false] ?_
 obtain ⟨z39,hz39,h⟩:=bC h
 refine Z8 (E':=⟨142,[],[(1,.ref n 0),(3,.row (n+1) z39.length)]⟩) (O':=(Zr O n [some ⟨false,30,11,1,(Ze a0)⟩,some (oR 30 11 Zk z39),none])) (n0:=(n+3)) ?_ ?_
 ·refine Yi hz39 (fun s3_=>⟨142,[],[(1,.ref n 0),(3,.row (n+1) s3_.2.length),(8,(vI s3_.1))]⟩) (fun s3_=>(Zr O n [some ⟨false,30,11,1,(Ze a0)⟩,some (oR 30 11 Zk s3_.2),none])) (fun z39=>JX 6 n (⟨142,[],[(1,.ref n 0),(3,.row (n+1) z39.length)]⟩:Env) (Zr O n [some ⟨false,30,11,1,(Ze a0)⟩,some (oR 30 11 Zk z39),none]) (n+3)) ?_
  intro s3_ x3_ hs3_
  unfold X4 at hs3_
  try dsimp only
  refine Zl ?_
  refine zQ [1,3,8,72] ?_
  refine Zp (t:=(decide (s3_.1 < (a0.Ops.length:Int)))) rfl (fun c38 => ?_) (fun c38 => ?_)
  ·replace hs3_:=Zo c38 hs3_
   refine Q5 [1,3,8] [true,true,false] ?_
   obtain ⟨z19,hz19,hs3_⟩:=bC hs3_
   refine Yk (E':=⟨142,[],[(1,.ref n 0),(3,.row (n+1) z19.length),(8,(vI s3_.1))]⟩) (O':=(Zr O n [some ⟨false,30,11,1,(Ze a0)⟩,some (oR 30 11 Zk z19),none,none,none])) (n0:=(n+5)) ?_ ?_
   ·refine Z0 ?_
    refine Zl ?_
    obtain ⟨x21,hx21,ax21,bx21,cx21,hz19⟩:=bE (f:=Zd) Jw (fun _=>rfl) (by decide) hz19
    refine Zdr [] ax21 bx21 cx21 ?_
    refine zD [1,3,8,9] [true,true,false,true] ?_
    obtain ⟨z22,hz22,hz19⟩:=bC hz19
    refine Yk (E':=⟨142,[],[(1,.ref n 0),(3,.row (n+1) z22.length),(8,(vI s3_.1)),(9,.ref (n+3) 0)]⟩) (O':=(Zr O n [some ⟨false,30,11,1,(Ze a0)⟩,some (oR 30 11 Zk z22),none,some ⟨false,42,14,1,(Z6 x21)⟩,none])) (n0:=(n+5)) ?_ ?_
    ·refine zQD [1,3,8,9,87] [none,none,none] ?_
     refine Zp (t:=(cond (x21.Kind == 1) true (x21.Kind == 2))) rfl (fun c27 => ?_) (fun c27 => ?_)
     ·replace hz22:=Zo c27 hz22
      obtain ⟨y23,hy23,hz22⟩:=bC hz22
      obtain ⟨y24,hy24,hz22⟩:=bC hz22
      obtain ⟨y25,hy25,hz22⟩:=bC hz22
      obtain ⟨l26,pl26,ql26,el26,hz22⟩:=bA (k:=1) rfl hz22
      refine Zes Zt (by kernel_rfl) [.plain,.plain,.plain,.plain,.plain,.plain,.plain,.plain,.plain,.plain,.plain,.plain,.plain,.plain,.pass,.bar,.plain] (fun i=>i < (n+4)) [0,1,2,3,4,5,6,7,8,9,10,11,12,13,14,15,16] [.plain,.plain,.plain,.plain,.plain,.plain,.plain,.plain,.plain,.plain,.plain,.plain,.plain,.plain,.pass,.bar,.plain] [] (by kernel_rfl) rfl ?_
      refine zX3 pl26 ql26 el26 ?_
      refine zO ?_
      first | refine PCallA.of (fun _ _=>Za7 hy23) ?_ | refine PCall.of (Za7 hy23) ?_
      refine zX3 pl26 ql26 el26 ?_
      refine zO ?_
      first | refine PCallA.of (fun _ _=>Zb0 hy24) ?_ | refine PCall.of (Zb0 hy24) ?_
      refine zX3 pl26 ql26 el26 ?_
      refine zO ?_
      first | refine PCallA.of (fun _ _=>Za6 hy25) ?_ | refine PCall.of (Za6 hy25) ?_
      refine zX3 pl26 ql26 el26 ?_
      refine zO ?_
      exact Zdq hz22 pl26 ql26 el26
     replace hz22:=Zn c27 hz22
     refine zK ?_
     exact Vu hz22
    refine zQ [1,3,8,9,106] ?_
    refine Zp (t:=(x21.Kind == 3)) rfl (fun c37 => ?_) (fun c37 => ?_)
    ·replace hz19:=Zo c37 hz19
     refine Zl ?_
     obtain ⟨y29,hy29,hz19⟩:=bC hz19
     refine zCd (Zho hy29) [1,3,8,10] [true,true,false,false,false] ?_
     refine zQd [1,3,8,10,11] [1,3,8,10,11] [true,true,false,false,false] ?_
     obtain ⟨z36,hz36,hz19⟩:=bC hz19
     refine Z8 (E':=⟨142,[],[(1,.ref n 0),(3,.row (n+1) z36.length),(8,(vI s3_.1))]⟩) (O':=(Zr O n [some ⟨false,30,11,1,(Ze a0)⟩,some (oR 30 11 Zk z36),none,none,none])) (n0:=(n+5)) ?_ ?_
     ·refine Yi hz36 (fun s4_=>⟨142,[],[(1,.ref n 0),(3,.row (n+1) s4_.2.length),(8,(vI s3_.1)),(10,(sL Zk y29)),(11,(vI s4_.1))]⟩) (fun s4_=>(Zr O n [some ⟨false,30,11,1,(Ze a0)⟩,some (oR 30 11 Zk s4_.2),none,none,none])) (fun z36=>JX 8 n (⟨142,[],[(1,.ref n 0),(3,.row (n+1) z36.length),(8,(vI s3_.1))]⟩:Env) (Zr O n [some ⟨false,30,11,1,(Ze a0)⟩,some (oR 30 11 Zk z36),none,none,none]) (n+5)) ?_
      intro s4_ x4_ hs4_
      unfold Vd at hs4_
      try dsimp only
      refine Zl ?_
      refine zQ [1,3,8,10,11,113] ?_
      refine Zp (t:=(decide (s4_.1 < (y29.length:Int)))) rfl (fun c35 => ?_) (fun c35 => ?_)
      ·replace hs4_:=Zo c35 hs4_
       refine Q5 [1,3,8,10,11] [true,true,false,false,false] ?_
       refine Zl ?_
       refine Z0 ?_
       obtain ⟨y30,hy30,hs4_⟩:=bC hs4_
       obtain ⟨x31,hx31,ax31,bx31,cx31,hs4_⟩:=bE (f:=Zk) Zd7 (fun _=>rfl) (by decide) hs4_
       obtain ⟨y32,hy32,hs4_⟩:=bC hs4_
       obtain ⟨y33,hy33,hs4_⟩:=bC hs4_
       obtain ⟨l34,pl34,ql34,el34,hs4_⟩:=bA (k:=1) rfl hs4_
       refine Zes Zt (by kernel_rfl) [.plain,.plain,.plain,.plain,.plain,.plain,.plain,.plain,.plain,.plain,.plain,.plain,.plain,.plain,.plain,.plain,.plain,.plain,.pass,.bar,.plain] (fun i=>i < (n+5)) [0,1,2,3,4,5,6,7,8,9,10,11,12,13,14,15,16,17,18,19,20] [.plain,.plain,.plain,.plain,.plain,.plain,.plain,.plain,.plain,.plain,.plain,.plain,.plain,.plain,.plain,.plain,.plain,.plain,.pass,.bar,.plain] [] (by kernel_rfl) rfl ?_
       refine zF6 ax31 bx31 cx31 pl34 ql34 el34 ?_
       refine zO ?_
       first | refine PCallA.of (fun _ _=>Za7 hy30) ?_ | refine PCall.of (Za7 hy30) ?_
       refine zF6 ax31 bx31 cx31 pl34 ql34 el34 ?_
       refine zO ?_
       first | refine PCallA.of (fun _ _=>Zb0 hy32) ?_ | refine PCall.of (Zb0 hy32) ?_
       refine zF6 ax31 bx31 cx31 pl34 ql34 el34 ?_
       refine zO ?_
       first | refine PCallA.of (fun _ _=>GCalls.argsW (by simp only [push_cast,Nat.reduceAdd,Nat.reduceSub,Nat.reduceMul,Nat.reduceLeDiff,Nat.reduceLT,Nat.reduceEqDiff,↓reduceIte,reduceCtorEq,Int.reduceBEq,Int.reduceBNe,Nat.reduceBEq,Int.reduceLE,Int.reduceLT,Int.reduceEq,Int.reduceNe,Int.reduceNeg,Nat.reduceDiv,Nat.reduceMod,Nat.reducePow,Zf,ax31,bx31,cx31,pl34,ql34,el34,hN0,hN]) (Za6 hy33)) ?_ | refine PCall.of (GCalls.argsW (by simp only [push_cast,Nat.reduceAdd,Nat.reduceSub,Nat.reduceMul,Nat.reduceLeDiff,Nat.reduceLT,Nat.reduceEqDiff,↓reduceIte,reduceCtorEq,Int.reduceBEq,Int.reduceBNe,Nat.reduceBEq,Int.reduceLE,Int.reduceLT,Int.reduceEq,Int.reduceNe,Int.reduceNeg,Nat.reduceDiv,Nat.reduceMod,Nat.reducePow,Zf,ax31,bx31,cx31,pl34,ql34,el34,hN0,hN]) (Za6 hy33)) ?_
       refine zF6 ax31 bx31 cx31 pl34 ql34 el34 ?_
       refine zO ?_
       refine Zan ⟨142,[],[(1,.ref n 0),(3,.row (n+1) l34.length),(8,(vI s3_.1)),(10,(sL Zk y29)),(11,(vI s4_.1))]⟩ (Zr O n [some ⟨false,30,11,1,(Ze a0)⟩,some (oR 30 11 Zk l34),none,none,none,none]) (Zz hU rfl rfl ?_) ?_
       ·exact Ye9 ax31 bx31 cx31 pl34 ql34 el34
       refine zR ?_
       exact Vu hs4_
      replace hs4_:=Zn c35 hs4_
      exact zEx hs4_
     try simp only [Yg,Z3,↓reduceIte,Nat.reduceEqDiff]
     exact Vu hz19
    replace hz19:=Zn c37 hz19
    refine zK ?_
    exact Vu hz19
   refine zR ?_
   exact Vu hs3_
  replace hs3_:=Zn c38 hs3_
  exact zEx hs3_
 try simp only [Yg,Z3,↓reduceIte,Nat.reduceEqDiff]
 refine zDs [1,3] [true,true,false] ?_
 refine zQ [1,3,138] ?_
 refine Zp (t:=((z39.length:Int) == 0)) rfl (fun c40 => ?_) (fun c40 => ?_)
 ·replace h:=Zo c40 h
  refine Zl ?_
  refine zR ?_
  refine Zan ⟨142,[],[(2,.row (n+3) ([a0]:List Zb).length)]⟩ (Zr O n [none,none,none,some (oR 30 11 Zk ([a0]:List Zb))]) (Zz hU rfl rfl ?_) ?_
  ·exact zSe
  refine zW ?_
  obtain rfl:=sI h
  refine Zq (.inr rfl) hU [.row (n+3) ([a0]:List Zb).length] (by omega) ?_
  simp only [push_cast,seval,Zf,Tryz.results19,hN0,hN]
 replace h:=Zn c40 h
 refine Q5 [3] [false,true,false] ?_
 refine zQ [2] ?_
 refine zW ?_
 obtain rfl:=sI h
 refine Zq (.inr rfl) hU [.row (n+1) z39.length] (by omega) ?_
 simp only [push_cast,seval,Zf,Tryz.results19,hN0,hN]
theorem Zmt:∀ k,(Zhi (Qm k)):=fun k=>by
 induction k with
 | zero=>exact @fun a0 r O n h=>(nomatch (show (none:Option _)=some _ from h))
 | succ k ih=>exact @fun a0 r O n h=>Zos (ih)  h
theorem Zqz {a0:Zb} {r:(List Zb)} {O:Objs} {n:Nat} (h:Zf0 a0=some r):GTo Tryz.prog 19 [.agg (Ze a0)] O n ((sL Zk r)) O n:=by
 obtain ⟨k,hk⟩:=Ux h
 exact (Zmt k)  hk
theorem Zqy {a0:Zb} {r:(List Zb)} {O:Objs} {n:Nat} (h:Gx a0=some r):GTo Tryz.prog 8 [.agg (Ze a0)] O n ((sL Zk r)) O n:=by
 unfold Gx at h
 refine fn0 Zt Tryz.call8 Tryz.func8 rfl fun hU hN0 hN => ?_
 show W _ _ _ _ ⟨6,[],[(0,.agg (Ze a0))]⟩ (Zr O n []) _
 refine zQ [1] ?_
 refine Zl ?_
 obtain ⟨y3,hy3,h⟩:=bC h
 obtain ⟨y4,hy4,h⟩:=bC h
 refine zC (Zjr hy3) ?_
 refine zTs (Zqz hy4) ?_
 refine zD [2] [false] ?_
 refine zW ?_
 obtain rfl:=sI h
 refine Zq (.inr rfl) hU [(sL Zk y4)] (by omega) ?_
 simp only [push_cast,seval,Zf,Tryz.results8,hN0,hN]
theorem Zrh {a0:(List Int)} {a1:(List Int)} {r:Bool} {O:Objs} {n:Nat} (h:Zax a0 a1=some r):GTo Tryz.prog 40 [(sL (eI .u64) a0),(sL (eI .u64) a1)] O n ((vB r)) O n:=by
 unfold Zax at h
 refine fn0 Zt Tryz.call40 Tryz.func40 rfl fun hU hN0 hN => ?_
 show W _ _ _ _ ⟨26,[],[(0,(sL (eI .u64) a0)),(1,(sL (eI .u64) a1))]⟩ (Zr O n []) _
 refine zQ [0,1] ?_
 refine Zl ?_
 refine zQ [0,1,10] ?_
 refine Zp (t:=((a0.length:Int) != (a1.length:Int))) rfl (fun c8 => ?_) (fun c8 => ?_)
 ·replace h:=Zo c8 h
  refine zQ [4] ?_
  refine zW ?_
  obtain rfl:=sI h
  refine Zq (.inr rfl) hU [(vB false)] (by omega) ?_
  simp only [push_cast,seval,Zf,Tryz.results40,hN0,hN]
 replace h:=Zn c8 h
 refine Q5 [0,1] [] ?_
 refine Zl ?_
 refine zQd [0,1,5] [0,1,5] [] ?_
 obtain ⟨z7,hz7,h⟩:=bC h
 refine U3 (J:=(Xg (fun z7=>JR n (⟨26,[],[(4,(vB false))]⟩:Env) (Zr O n []) n) (fun z7=>JX 0 n (⟨26,[],[]⟩:Env) (Zr O n []) n))) (z:=z7) ?_ fun hw => ?_
 ·refine Yi hz7 (fun s0_=>⟨26,[],[(0,(sL (eI .u64) a0)),(1,(sL (eI .u64) a1)),(5,(vI s0_))]⟩) (fun s0_=>(Zr O n [])) (Xg (fun z7=>JR n (⟨26,[],[(4,(vB false))]⟩:Env) (Zr O n []) n) (fun z7=>JX 0 n (⟨26,[],[]⟩:Env) (Zr O n []) n)) ?_
  intro s0_ x0_ hs0_
  unfold V4 at hs0_
  try dsimp only
  refine Zl ?_
  refine zQ [0,1,5,14] ?_
  refine Zp (t:=(decide (s0_ < (a0.length:Int)))) rfl (fun c6 => ?_) (fun c6 => ?_)
  ·replace hs0_:=Zo c6 hs0_
   refine Q5 [0,1,5] [] ?_
   refine Zl ?_
   refine Z0 ?_
   obtain ⟨x3,hx3,ax3,bx3,cx3,hs0_⟩:=bE (f:=(eI .u64)) Zly (fun _=>rfl) (by decide) hs0_
   obtain ⟨x4,hx4,ax4,bx4,cx4,hs0_⟩:=bE (f:=(eI .u64)) Zly (fun _=>rfl) (by decide) hs0_
   refine Zl0 [0,1,5,25] (Vq Zt (by kernel_rfl) [] (by kernel_rfl) ?_)
   refine zF6 ax3 bx3 cx3 ax4 bx4 cx4 ?_
   refine Zp (t:=(x3 != x4)) rfl (fun c5 => ?_) (fun c5 => ?_)
   ·replace hs0_:=Zo c5 hs0_
    refine zQ [4] ?_
    refine zW ?_
    exact zEy hs0_
   replace hs0_:=Zn c5 hs0_
   refine Q5 [0,1,5] [] ?_
   refine zR ?_
   exact Vu hs0_
  replace hs0_:=Zn c6 hs0_
  exact zEx hs0_
 rcases z7 with z7 | z7
 ·dsimp only [Xg] at hw h
  refine Qj hw ?_
  try simp only [Yg,Z3,↓reduceIte,Nat.reduceEqDiff]
  obtain rfl:=sI h
  refine Zq (.inr rfl) hU [(vB false)] (by omega) ?_
  simp only [push_cast,seval,Zf,Tryz.results40,hN0,hN]
 dsimp only [Xg] at hw h
 refine Z8 hw ?_
 try simp only [Yg,Z3,↓reduceIte,Nat.reduceEqDiff]
 refine zD [] [] ?_
 refine zQ [4] ?_
 refine zW ?_
 obtain rfl:=sI h
 refine Zq (.inr rfl) hU [(vB true)] (by omega) ?_
 simp only [push_cast,seval,Zf,Tryz.results40,hN0,hN]
def Zid (Jk:(Zc→Zc→Option Bool)):Prop:=∀ {a0:Zc} {a1:Zc} {r:Bool} {O:Objs} {n:Nat},Jk a0 a1=some r→GTo Tryz.prog 20 [.agg (Zv a0),.agg (Zv a1)] O n ((vB r)) O n
theorem Zq1 {Jk:(Zc→Zc→Option Bool)} (Zom:Zid Jk) {a0:Zc} {a1:Zc} {r:Bool} {O:Objs} {n:Nat} (h:Zap Jk a0 a1=some r):GTo Tryz.prog 20 [.agg (Zv a0),.agg (Zv a1)] O n ((vB r)) O n:=by
 unfold Zap at h
 refine fn0 Zt Tryz.call20 Tryz.func20 rfl fun hU hN0 hN => ?_
 show W _ _ _ _ ⟨47,[],[(0,.agg (Zv a0)),(1,.agg (Zv a1))]⟩ (Zr O n []) _
 refine zQ [2,3] ?_
 refine Zl ?_
 obtain ⟨z2,hz2,h⟩:=bC h
 refine Yk (E':=⟨47,[],[(2,.ref n 0),(3,.ref (n+1) 0),(27,(vB z2))]⟩) (O':=(Zr O n [some ⟨false,25,3,1,(Zv a0)⟩,some ⟨false,25,3,1,(Zv a1)⟩])) (n0:=(n+2)) ?_ ?_
 ·rcases Bool.eq_false_or_eq_true (a0.Kind != a1.Kind) with c5 | c5
  ·replace hz2:=Zo c5 hz2
   refine K3 (Yg7 []) c5 ?_
   exact Kq hz2 c5
  replace hz2:=Zn c5 hz2
  obtain ⟨y4,hy4,hz2⟩:=bC hz2
  refine K3 (Zvz (Zux [])) c5 ?_
  refine zG ?_
  refine (Zrh hy4).then ?_
  refine zX1 c5 ?_
  refine zG ?_
  exact Kq hz2 c5
 refine Zp (t:=z2) rfl (fun c15 => ?_) (fun c15 => ?_)
 ·replace h:=Zo c15 h
  refine zQ [4] ?_
  refine zW ?_
  obtain rfl:=sI h
  refine Zq (.inr rfl) hU [(vB false)] (by omega) ?_
  simp only [push_cast,seval,Zf,Tryz.results20,hN0,hN]
 replace h:=Zn c15 h
 refine Q5 [2,3] [true,true] ?_
 refine Zl ?_
 refine zQd [2,3,5] [2,3,5] [true,true] ?_
 obtain ⟨z14,hz14,h⟩:=bC h
 refine U3 (J:=(Xg (fun z14=>JR n (⟨47,[],[(4,(vB false))]⟩:Env) (Zr O n [none,none]) (n+2)) (fun z14=>JX 0 n (⟨47,[],[]⟩:Env) (Zr O n [none,none]) (n+2)))) (z:=z14) ?_ fun hw => ?_
 ·refine Yi hz14 (fun s0_=>⟨47,[],[(2,.ref n 0),(3,.ref (n+1) 0),(5,(vI s0_))]⟩) (fun s0_=>(Zr O n [some ⟨false,25,3,1,(Zv a0)⟩,some ⟨false,25,3,1,(Zv a1)⟩])) (Xg (fun z14=>JR n (⟨47,[],[(4,(vB false))]⟩:Env) (Zr O n [none,none]) (n+2)) (fun z14=>JX 0 n (⟨47,[],[]⟩:Env) (Zr O n [none,none]) (n+2))) ?_
  intro s0_ x0_ hs0_
  unfold Vw at hs0_
  try dsimp only
  refine Zl ?_
  refine zQ [2,3,5,32] ?_
  refine Zp (t:=(decide (s0_ < (a0.Kids.length:Int)))) rfl (fun c13 => ?_) (fun c13 => ?_)
  ·replace hs0_:=Zo c13 hs0_
   refine Q5 [2,3,5] [true,true] ?_
   refine Zl ?_
   refine Z0 ?_
   refine Zl ?_
   obtain ⟨x9,hx9,ax9,bx9,cx9,hs0_⟩:=bE (f:=Za) Zbu (fun _=>rfl) (by decide) hs0_
   obtain ⟨x10,hx10,ax10,bx10,cx10,hs0_⟩:=bE (f:=Za) Zbu (fun _=>rfl) (by decide) hs0_
   obtain ⟨y11,hy11,hs0_⟩:=bC hs0_
   refine Vq Zt (by kernel_rfl) [] (by kernel_rfl) ?_
   refine zF6 ax9 bx9 cx9 ax10 bx10 cx10 ?_
   refine PCall.of (Zom hy11) ?_
   refine zF6 ax9 bx9 cx9 ax10 bx10 cx10 ?_
   refine zD [2,3,5,46] [true,true] ?_
   refine Zp (t:=(!y11)) rfl (fun c12 => ?_) (fun c12 => ?_)
   ·replace hs0_:=Zo c12 hs0_
    refine zQ [4] ?_
    refine zW ?_
    exact zEy hs0_
   replace hs0_:=Zn c12 hs0_
   refine Q5 [2,3,5] [true,true] ?_
   refine zR ?_
   exact Vu hs0_
  replace hs0_:=Zn c13 hs0_
  exact zEx hs0_
 rcases z14 with z14 | z14
 ·dsimp only [Xg] at hw h
  refine Qj hw ?_
  try simp only [Yg,Z3,↓reduceIte,Nat.reduceEqDiff]
  obtain rfl:=sI h
  refine Zq (.inr rfl) hU [(vB false)] (by omega) ?_
  simp only [push_cast,seval,Zf,Tryz.results20,hN0,hN]
 dsimp only [Xg] at hw h
 refine Z8 hw ?_
 try simp only [Yg,Z3,↓reduceIte,Nat.reduceEqDiff]
 refine zD [] [false,false] ?_
 refine zQ [4] ?_
 refine zW ?_
 obtain rfl:=sI h
 refine Zq (.inr rfl) hU [(vB true)] (by omega) ?_
 simp only [push_cast,seval,Zf,Tryz.results20,hN0,hN]
theorem Znz:∀ k,(Zid (J3 k)):=fun k=>by
 induction k with
 | zero=>exact @fun a0 a1 r O n h=>(nomatch (show (none:Option _)=some _ from h))
 | succ k ih=>exact @fun a0 a1 r O n h=>Zq1 (ih)  h
theorem Zc6 {a0:Zc} {a1:Zc} {r:Bool} {O:Objs} {n:Nat} (h:Zaz a0 a1=some r):GTo Tryz.prog 20 [.agg (Zv a0),.agg (Zv a1)] O n ((vB r)) O n:=by
 obtain ⟨k,hk⟩:=Ux h
 exact (Znz k)  hk
theorem Zgd {a0:(List Zc)} {a1:(List Zc)} {r:Bool} {O:Objs} {n:Nat} (h:Kk a0 a1=some r):GTo Tryz.prog 21 [(sL Za a0),(sL Za a1)] O n ((vB r)) O n:=by
 unfold Kk at h
 refine fn0 Zt Tryz.call21 Tryz.func21 rfl fun hU hN0 hN => ?_
 show W _ _ _ _ ⟨27,[],[(0,(sL Za a0)),(1,(sL Za a1))]⟩ (Zr O n []) _
 refine zQ [0,1] ?_
 refine Zl ?_
 refine zQ [0,1,10] ?_
 refine Zp (t:=((a0.length:Int) != (a1.length:Int))) rfl (fun c10 => ?_) (fun c10 => ?_)
 ·replace h:=Zo c10 h
  refine zQ [4] ?_
  refine zW ?_
  obtain rfl:=sI h
  refine Zq (.inr rfl) hU [(vB false)] (by omega) ?_
  simp only [push_cast,seval,Zf,Tryz.results21,hN0,hN]
 replace h:=Zn c10 h
 refine Q5 [0,1] [] ?_
 refine Zl ?_
 refine zQd [0,1,5] [0,1,5] [] ?_
 obtain ⟨z9,hz9,h⟩:=bC h
 refine U3 (J:=(Xg (fun z9=>JR n (⟨27,[],[(4,(vB false))]⟩:Env) (Zr O n []) n) (fun z9=>JX 0 n (⟨27,[],[]⟩:Env) (Zr O n []) n))) (z:=z9) ?_ fun hw => ?_
 ·refine Yi hz9 (fun s0_=>⟨27,[],[(0,(sL Za a0)),(1,(sL Za a1)),(5,(vI s0_))]⟩) (fun s0_=>(Zr O n [])) (Xg (fun z9=>JR n (⟨27,[],[(4,(vB false))]⟩:Env) (Zr O n []) n) (fun z9=>JX 0 n (⟨27,[],[]⟩:Env) (Zr O n []) n)) ?_
  intro s0_ x0_ hs0_
  unfold K5 at hs0_
  try dsimp only
  refine Zl ?_
  refine zQ [0,1,5,14] ?_
  refine Zp (t:=(decide (s0_ < (a0.length:Int)))) rfl (fun c8 => ?_) (fun c8 => ?_)
  ·replace hs0_:=Zo c8 hs0_
   refine Q5 [0,1,5] [] ?_
   refine Zl ?_
   refine Z0 ?_
   refine Zl ?_
   obtain ⟨x4,hx4,ax4,bx4,cx4,hs0_⟩:=bE (f:=Za) Zbu (fun _=>rfl) (by decide) hs0_
   obtain ⟨x5,hx5,ax5,bx5,cx5,hs0_⟩:=bE (f:=Za) Zbu (fun _=>rfl) (by decide) hs0_
   obtain ⟨y6,hy6,hs0_⟩:=bC hs0_
   refine Vq Zt (by kernel_rfl) [] (by kernel_rfl) ?_
   refine zF6 ax4 bx4 cx4 ax5 bx5 cx5 ?_
   refine PCall.of (Zc6 hy6) ?_
   refine zF6 ax4 bx4 cx4 ax5 bx5 cx5 ?_
   refine zD [0,1,5,26] [] ?_
   refine Zp (t:=(!y6)) rfl (fun c7 => ?_) (fun c7 => ?_)
   ·replace hs0_:=Zo c7 hs0_
    refine zQ [4] ?_
    refine zW ?_
    exact zEy hs0_
   replace hs0_:=Zn c7 hs0_
   refine Q5 [0,1,5] [] ?_
   refine zR ?_
   exact Vu hs0_
  replace hs0_:=Zn c8 hs0_
  exact zEx hs0_
 rcases z9 with z9 | z9
 ·dsimp only [Xg] at hw h
  refine Qj hw ?_
  try simp only [Yg,Z3,↓reduceIte,Nat.reduceEqDiff]
  obtain rfl:=sI h
  refine Zq (.inr rfl) hU [(vB false)] (by omega) ?_
  simp only [push_cast,seval,Zf,Tryz.results21,hN0,hN]
 dsimp only [Xg] at hw h
 refine Z8 hw ?_
 try simp only [Yg,Z3,↓reduceIte,Nat.reduceEqDiff]
 refine zD [] [] ?_
 refine zQ [4] ?_
 refine zW ?_
 obtain rfl:=sI h
 refine Zq (.inr rfl) hU [(vB true)] (by omega) ?_
 simp only [push_cast,seval,Zf,Tryz.results21,hN0,hN]
def Zif (Xy:(Zb→Zb→Option Bool)):Prop:=∀ {a0:Zb} {a1:Zb} {r:Bool} {O:Objs} {n:Nat},Xy a0 a1=some r→GTo Tryz.prog 9 [.agg (Ze a0),.agg (Ze a1)] O n ((vB r)) O n
theorem Zq4 {Xy:(Zb→Zb→Option Bool)} (Zii:Zif Xy) {a0:Zb} {a1:Zb} {r:Bool} {O:Objs} {n:Nat} (h:Zar Xy a0 a1=some r):GTo Tryz.prog 9 [.agg (Ze a0),.agg (Ze a1)] O n ((vB r)) O n:=by
 unfold Zar at h
 refine fn0 Zt Tryz.call9 Tryz.func9 rfl fun hU hN0 hN => ?_
 show W _ _ _ _ ⟨164,[],[(0,.agg (Ze a0)),(1,.agg (Ze a1))]⟩ (Zr O n []) _
 refine zQ [2,3] ?_
 refine Zl ?_
 obtain ⟨z3,hz3,h⟩:=bC h
 refine Yk (E':=⟨164,[],[(2,.ref n 0),(3,.ref (n+1) 0),(64,(vB z3))]⟩) (O':=(Zr O n [some ⟨false,30,11,1,(Ze a0)⟩,some ⟨false,30,11,1,(Ze a1)⟩])) (n0:=(n+2)) ?_ ?_
 ·rcases Bool.eq_false_or_eq_true (a0.Kind != a1.Kind) with c8 | c8
  ·replace hz3:=Zo c8 hz3
   refine K3 (Z5n (Yfp [])) c8 ?_
   refine zG ?_
   exact Kq hz3 c8
  replace hz3:=Zn c8 hz3
  rcases Bool.eq_false_or_eq_true (a0.List_ != a1.List_) with c9 | c9
  ·replace hz3:=Zo c9 hz3
   try rw [c9] at c8
   refine Ja (Z5n (Yfp [])) c8 c9 ?_
   refine zG ?_
   exact Zbp hz3 c8 c9
  replace hz3:=Zn c9 hz3
  try rw [c9] at c8
  obtain ⟨y6,hy6,hz3⟩:=bC hz3
  rcases Bool.eq_false_or_eq_true y6 with c10 | c10
  ·replace hz3:=Zo c10 hz3
   try rw [c10] at c8
   try rw [c10] at c9
   obtain ⟨y7,hy7,hz3⟩:=bC hz3
   refine U1 (Z5n (Z5o (Yhf []))) c8 c9 c10 ?_
   refine zG ?_
   refine (Zc6 hy6).then ?_
   refine zX3 c8 c9 c10 ?_
   refine zG ?_
   refine (Zc6 hy7).then ?_
   refine zX3 c8 c9 c10 ?_
   refine zG ?_
   exact Zdq hz3 c8 c9 c10
  replace hz3:=Zn c10 hz3
  try rw [c10] at c8
  try rw [c10] at c9
  refine U1 (Z5n (Zvz (Yfo []))) c8 c9 c10 ?_
  refine zG ?_
  refine (Zc6 hy6).then ?_
  refine zX3 c8 c9 c10 ?_
  refine zG ?_
  exact Zdq hz3 c8 c9 c10
 refine Zp (t:=z3) rfl (fun c65 => ?_) (fun c65 => ?_)
 ·replace h:=Zo c65 h
  refine zQ [4] ?_
  refine zW ?_
  obtain rfl:=sI h
  refine Zq (.inr rfl) hU [(vB false)] (by omega) ?_
  simp only [push_cast,seval,Zf,Tryz.results9,hN0,hN]
 replace h:=Zn c65 h
 refine Q5 [2,3] [true,true] ?_
 refine Zl ?_
 refine zQd [2,3,5] [2,3,5] [true,true] ?_
 obtain ⟨z17,hz17,h⟩:=bC h
 refine U3 (J:=(Xg (fun z17=>JR n (⟨164,[],[(4,(vB false))]⟩:Env) (Zr O n [none,none]) (n+2)) (fun z17=>JX 0 n (⟨164,[],[(2,.ref n 0),(3,.ref (n+1) 0)]⟩:Env) (Zr O n [some ⟨false,30,11,1,(Ze a0)⟩,some ⟨false,30,11,1,(Ze a1)⟩]) (n+2)))) (z:=z17) ?_ fun hw => ?_
 ·refine Yi hz17 (fun s0_=>⟨164,[],[(2,.ref n 0),(3,.ref (n+1) 0),(5,(vI s0_))]⟩) (fun s0_=>(Zr O n [some ⟨false,30,11,1,(Ze a0)⟩,some ⟨false,30,11,1,(Ze a1)⟩])) (Xg (fun z17=>JR n (⟨164,[],[(4,(vB false))]⟩:Env) (Zr O n [none,none]) (n+2)) (fun z17=>JX 0 n (⟨164,[],[(2,.ref n 0),(3,.ref (n+1) 0)]⟩:Env) (Zr O n [some ⟨false,30,11,1,(Ze a0)⟩,some ⟨false,30,11,1,(Ze a1)⟩]) (n+2))) ?_
  intro s0_ x0_ hs0_
  unfold Vz at hs0_
  try dsimp only
  refine Zl ?_
  refine zQ [2,3,5,69] ?_
  refine Zp (t:=(decide (s0_ < (a0.Words.length:Int)))) rfl (fun c16 => ?_) (fun c16 => ?_)
  ·replace hs0_:=Zo c16 hs0_
   refine Q5 [2,3,5] [true,true] ?_
   refine Zl ?_
   refine Z0 ?_
   obtain ⟨x13,hx13,ax13,bx13,cx13,hs0_⟩:=bE (f:=Zi) Zq9 (fun _=>rfl) (by decide) hs0_
   obtain ⟨x14,hx14,ax14,bx14,cx14,hs0_⟩:=bE (f:=Zi) Zq9 (fun _=>rfl) (by decide) hs0_
   refine Zl0 [2,3,5,82] (Vq Zt (by kernel_rfl) [] (by kernel_rfl) ?_)
   refine zF6 ax13 bx13 cx13 ax14 bx14 cx14 ?_
   refine Zp (t:=(!((x13.At == x14.At) && ((x13.Mask == x14.Mask) && ((x13.Old == x14.Old) && (x13.New == x14.New)))))) rfl (fun c15 => ?_) (fun c15 => ?_)
   ·replace hs0_:=Zo c15 hs0_
    refine zQ [4] ?_
    refine zW ?_
    exact zEy hs0_
   replace hs0_:=Zn c15 hs0_
   refine Q5 [2,3,5] [true,true] ?_
   refine zR ?_
   exact Vu hs0_
  replace hs0_:=Zn c16 hs0_
  exact zEx hs0_
 rcases z17 with z17 | z17
 ·dsimp only [Xg] at hw h
  refine Qj hw ?_
  try simp only [Yg,Z3,↓reduceIte,Nat.reduceEqDiff]
  obtain rfl:=sI h
  refine Zq (.inr rfl) hU [(vB false)] (by omega) ?_
  simp only [push_cast,seval,Zf,Tryz.results9,hN0,hN]
 dsimp only [Xg] at hw h
 refine Z8 hw ?_
 try simp only [Yg,Z3,↓reduceIte,Nat.reduceEqDiff]
 refine zDs [2,3] [true,true] ?_
 refine zQd [2,3,6] [2,3,6] [true,true] ?_
 obtain ⟨z49,hz49,h⟩:=bC h
 refine U3 (J:=(Xg (fun z49=>JR n (⟨164,[],[(4,(vB false))]⟩:Env) (Zr O n [none,none]) (n+2)) (fun z49=>JX 2 n (⟨164,[],[(2,.ref n 0),(3,.ref (n+1) 0)]⟩:Env) (Zr O n [some ⟨false,30,11,1,(Ze a0)⟩,some ⟨false,30,11,1,(Ze a1)⟩]) (n+2)))) (z:=z49) ?_ fun hw => ?_
 ·refine Yi hz49 (fun s1_=>⟨164,[],[(2,.ref n 0),(3,.ref (n+1) 0),(6,(vI s1_))]⟩) (fun s1_=>(Zr O n [some ⟨false,30,11,1,(Ze a0)⟩,some ⟨false,30,11,1,(Ze a1)⟩])) (Xg (fun z49=>JR n (⟨164,[],[(4,(vB false))]⟩:Env) (Zr O n [none,none]) (n+2)) (fun z49=>JX 2 n (⟨164,[],[(2,.ref n 0),(3,.ref (n+1) 0)]⟩:Env) (Zr O n [some ⟨false,30,11,1,(Ze a0)⟩,some ⟨false,30,11,1,(Ze a1)⟩]) (n+2))) ?_
  intro s1_ x1_ hs1_
  unfold V0 at hs1_
  try dsimp only
  refine Zl ?_
  refine zQ [2,3,6,87] ?_
  refine Zp (t:=(decide (s1_ < (a0.Kids.length:Int)))) rfl (fun c48 => ?_) (fun c48 => ?_)
  ·replace hs1_:=Zo c48 hs1_
   refine Q5 [2,3,6] [true,true] ?_
   refine Zl ?_
   refine Z0 ?_
   obtain ⟨z27,hz27,hs1_⟩:=bC hs1_
   refine Yk (E':=⟨164,[],[(2,.ref n 0),(3,.ref (n+1) 0),(6,(vI s1_)),(118,(vB z27))]⟩) (O':=(Zr O n [some ⟨false,30,11,1,(Ze a0)⟩,some ⟨false,30,11,1,(Ze a1)⟩])) (n0:=(n+2)) ?_ ?_
   ·obtain ⟨x37,hx37,ax37,bx37,cx37,hz27⟩:=bE (f:=Zh) Zi1 (fun _=>rfl) (by decide) hz27
    have g38:=J0 (f:=Zh) (sz:=12) Zis (fun _=>rfl) (by decide) (by decide) hx37
    obtain ⟨x39,hx39,ax39,bx39,cx39,hz27⟩:=bE (f:=Zh) Zi1 (fun _=>rfl) (by decide) hz27
    have g40:=J0 (f:=Zh) (sz:=12) Zis (fun _=>rfl) (by decide) (by decide) hx39
    rcases Bool.eq_false_or_eq_true (x37.At != x39.At) with c46 | c46
    ·replace hz27:=Zo c46 hz27
     refine Vq Zt (by kernel_rfl) (Z5k []) (by kernel_rfl) ?_
     refine zF9 ax37 bx37 cx37 g38 ax39 bx39 cx39 g40 c46 ?_
     obtain rfl:=sI hz27
     refine And.intro rfl (Fit2.of (Zz hU rfl rfl ?_) (by omega))
     exact Z7j ax37 bx37 cx37 g38 ax39 bx39 cx39 g40 c46
    replace hz27:=Zn c46 hz27
    have g42:=X2 (f:=Zh) (off:=1) (sz:=12) Zd7 (fun _=>rfl) (by decide) (by decide) hx37
    have g44:=X2 (f:=Zh) (off:=1) (sz:=12) Zd7 (fun _=>rfl) (by decide) (by decide) hx39
    obtain ⟨y45,hy45,hz27⟩:=bC hz27
    refine Vq Zt (by kernel_rfl) (Zso []) (by kernel_rfl) ?_
    refine Yi1 ax37 bx37 cx37 g38 ax39 bx39 cx39 g40 c46 g42 g44 ?_
    refine PCall.of (Zii hy45) ?_
    refine Yi1 ax37 bx37 cx37 g38 ax39 bx39 cx39 g40 c46 g42 g44 ?_
    obtain rfl:=sI hz27
    refine And.intro rfl (Fit2.of (Zz hU rfl rfl ?_) (by omega))
    exact Yi3 ax37 bx37 cx37 g38 ax39 bx39 cx39 g40 c46 g42 g44
   refine Zp (t:=z27) rfl (fun c47 => ?_) (fun c47 => ?_)
   ·replace hs1_:=Zo c47 hs1_
    refine zQ [4] ?_
    refine zW ?_
    exact zEy hs1_
   replace hs1_:=Zn c47 hs1_
   refine Q5 [2,3,6] [true,true] ?_
   refine zR ?_
   exact Vu hs1_
  replace hs1_:=Zn c48 hs1_
  exact zEx hs1_
 rcases z49 with z49 | z49
 ·dsimp only [Xg] at hw h
  refine Qj hw ?_
  try simp only [Yg,Z3,↓reduceIte,Nat.reduceEqDiff]
  obtain rfl:=sI h
  refine Zq (.inr rfl) hU [(vB false)] (by omega) ?_
  simp only [push_cast,seval,Zf,Tryz.results9,hN0,hN]
 dsimp only [Xg] at hw h
 refine Z8 hw ?_
 try simp only [Yg,Z3,↓reduceIte,Nat.reduceEqDiff]
 refine zDs [2,3] [true,true] ?_
 refine zQd [2,3,7] [2,3,7] [true,true] ?_
 obtain ⟨z64,hz64,h⟩:=bC h
 refine U3 (J:=(Xg (fun z64=>JR n (⟨164,[],[(4,(vB false))]⟩:Env) (Zr O n [none,none]) (n+2)) (fun z64=>JX 4 n (⟨164,[],[]⟩:Env) (Zr O n [none,none]) (n+2)))) (z:=z64) ?_ fun hw => ?_
 ·refine Yi hz64 (fun s2_=>⟨164,[],[(2,.ref n 0),(3,.ref (n+1) 0),(7,(vI s2_))]⟩) (fun s2_=>(Zr O n [some ⟨false,30,11,1,(Ze a0)⟩,some ⟨false,30,11,1,(Ze a1)⟩])) (Xg (fun z64=>JR n (⟨164,[],[(4,(vB false))]⟩:Env) (Zr O n [none,none]) (n+2)) (fun z64=>JX 4 n (⟨164,[],[]⟩:Env) (Zr O n [none,none]) (n+2))) ?_
  intro s2_ x2_ hs2_
  unfold V1 at hs2_
  try dsimp only
  refine Zl ?_
  refine zQ [2,3,7,123] ?_
  refine Zp (t:=(decide (s2_ < (a0.Ops.length:Int)))) rfl (fun c63 => ?_) (fun c63 => ?_)
  ·replace hs2_:=Zo c63 hs2_
   refine Q5 [2,3,7] [true,true] ?_
   refine Zl ?_
   refine Z0 ?_
   obtain ⟨x50,hx50,ax50,bx50,cx50,hs2_⟩:=bE (f:=Zd) Jw (fun _=>rfl) (by decide) hs2_
   obtain ⟨x51,hx51,ax51,bx51,cx51,hs2_⟩:=bE (f:=Zd) Jw (fun _=>rfl) (by decide) hs2_
   refine Yk (E':=⟨164,[],[(2,.ref n 0),(3,.ref (n+1) 0),(7,(vI s2_)),(8,.ref (n+2) 0),(9,.ref (n+3) 0)]⟩) (O':=(Zr O n [some ⟨false,30,11,1,(Ze a0)⟩,some ⟨false,30,11,1,(Ze a1)⟩,some ⟨false,42,14,1,(Z6 x50)⟩,some ⟨false,42,14,1,(Z6 x51)⟩])) (n0:=(n+4)) ?_ ?_
   ·refine Z7k Zt (by kernel_rfl) [.low,.low,.low,.low,.low,.low,.low,.low,.low,.low,.pass,.pass,.pass,.pass] (fun i=>i < (n+2)) 10 11 [0,1,2,3,4,5,6,7,8,9] [12,13] [.low,.low,.low,.low,.low,.low,.low,.low,.low,.low] [.pass,.pass,.pass,.pass] [.pass,.pass,.pass,.pass] [] (by kernel_rfl) rfl rfl rfl ?_
    refine zF6 ax50 bx50 cx50 ax51 bx51 cx51 ?_
    repeat (with_reducible refine And.intro (by omega) ?_)
    refine And.intro ?_ ?_
    ·refine zF6 ax50 bx50 cx50 ax51 bx51 cx51 ?_
     repeat (with_reducible refine And.intro (by first | exact Zld rfl | exact Zjb) ?_)
     exact Yi0 ax50 bx50 cx50 ax51 bx51 cx51
    refine zF6 ax50 bx50 cx50 ax51 bx51 cx51 ?_
    repeat (with_reducible refine And.intro (by first | exact Zld rfl | exact Zjb) ?_)
    refine And.intro rfl ?_
    refine Fit2.trans (E':=(⟨164,[],[(2,.ref n 0),(3,.ref (n+1) 0),(7,(vI s2_)),(8,.ref (n+3) 0),(9,.ref (n+2) 0)]⟩:Env)) (O':=(Zr O n [some ⟨false,30,11,1,(Ze a0)⟩,some ⟨false,30,11,1,(Ze a1)⟩,some ⟨false,42,14,1,(Z6 x51)⟩,some ⟨false,42,14,1,(Z6 x50)⟩])) (n':=(n+4)) (Fit2.of (Zz hU rfl rfl ?_) (by omega)) ?_
    ·exact Ye9 ax50 bx50 cx50 ax51 bx51 cx51
    refine X3 (k:=4) (k':=4) hU [0,1,3,2] [0,1,3,2] rfl rfl rfl rfl ⟨rfl,rfl⟩ ?_
    exact zSe
   obtain ⟨z54,hz54,hs2_⟩:=bC hs2_
   refine Yk (E':=⟨164,[],[(2,.ref n 0),(3,.ref (n+1) 0),(7,(vI s2_)),(163,(vB z54))]⟩) (O':=(Zr O n [some ⟨false,30,11,1,(Ze a0)⟩,some ⟨false,30,11,1,(Ze a1)⟩,none,none])) (n0:=(n+4)) ?_ ?_
   ·rcases Bool.eq_false_or_eq_true (x50.Kind != x51.Kind) with c59 | c59
    ·replace hz54:=Zo c59 hz54
     refine K3 (Z5n (Zzn [])) c59 ?_
     refine zG ?_
     exact Kq hz54 c59
    replace hz54:=Zn c59 hz54
    rcases Bool.eq_false_or_eq_true (x50.N != x51.N) with c60 | c60
    ·replace hz54:=Zo c60 hz54
     try rw [c60] at c59
     refine Ja (Z5n (Zzn [])) c59 c60 ?_
     refine zG ?_
     exact Zbp hz54 c59 c60
    replace hz54:=Zn c60 hz54
    try rw [c60] at c59
    obtain ⟨y57,hy57,hz54⟩:=bC hz54
    rcases Bool.eq_false_or_eq_true y57 with c61 | c61
    ·replace hz54:=Zo c61 hz54
     try rw [c61] at c59
     try rw [c61] at c60
     obtain ⟨y58,hy58,hz54⟩:=bC hz54
     refine U1 (Z5n (Z5o [])) c59 c60 c61 ?_
     refine zG ?_
     refine (Zgd hy57).then ?_
     refine zX3 c59 c60 c61 ?_
     refine zG ?_
     refine (Zii hy58).then ?_
     refine zX3 c59 c60 c61 ?_
     refine zG ?_
     exact Zdq hz54 c59 c60 c61
    replace hz54:=Zn c61 hz54
    try rw [c61] at c59
    try rw [c61] at c60
    refine U1 (Z5n (Zvz (Zzo []))) c59 c60 c61 ?_
    refine zG ?_
    refine (Zgd hy57).then ?_
    refine zX3 c59 c60 c61 ?_
    refine zG ?_
    exact Zdq hz54 c59 c60 c61
   refine Zp (t:=z54) rfl (fun c62 => ?_) (fun c62 => ?_)
   ·replace hs2_:=Zo c62 hs2_
    refine zQ [4] ?_
    refine zW ?_
    exact zEy hs2_
   replace hs2_:=Zn c62 hs2_
   refine Q5 [2,3,7] [true,true,false,false] ?_
   refine zR ?_
   exact Vu hs2_
  replace hs2_:=Zn c63 hs2_
  exact zEx hs2_
 rcases z64 with z64 | z64
 ·dsimp only [Xg] at hw h
  refine Qj hw ?_
  try simp only [Yg,Z3,↓reduceIte,Nat.reduceEqDiff]
  obtain rfl:=sI h
  refine Zq (.inr rfl) hU [(vB false)] (by omega) ?_
  simp only [push_cast,seval,Zf,Tryz.results9,hN0,hN]
 dsimp only [Xg] at hw h
 refine Z8 hw ?_
 try simp only [Yg,Z3,↓reduceIte,Nat.reduceEqDiff]
 refine zD [] [false,false] ?_
 refine zQ [4] ?_
 refine zW ?_
 obtain rfl:=sI h
 refine Zq (.inr rfl) hU [(vB true)] (by omega) ?_
 simp only [push_cast,seval,Zf,Tryz.results9,hN0,hN]
theorem Zn2:∀ k,(Zif (J4 k)):=fun k=>by
 induction k with
 | zero=>exact @fun a0 a1 r O n h=>(nomatch (show (none:Option _)=some _ from h))
 | succ k ih=>exact @fun a0 a1 r O n h=>Zq4 (ih)  h
theorem Zc7 {a0:Zb} {a1:Zb} {r:Bool} {O:Objs} {n:Nat} (h:Zd0 a0 a1=some r):GTo Tryz.prog 9 [.agg (Ze a0),.agg (Ze a1)] O n ((vB r)) O n:=by
 obtain ⟨k,hk⟩:=Ux h
 exact (Zn2 k)  hk
theorem Zg2 {a0:Zc} {r:Bool} {O:Objs} {n:Nat} (h:Gg a0=some r):GTo Tryz.prog 42 [.agg (Zv a0)] O n ((vB r)) O n:=by
 unfold Gg at h
 refine fn0 Zt Tryz.call42 Tryz.func42 rfl fun hU hN0 hN => ?_
 show W _ _ _ _ ⟨16,[],[(0,.agg (Zv a0))]⟩ (Zr O n []) _
 refine zQ [1] ?_
 refine zQD [2] [none,none,none,none,none,none,none,none] ?_
 refine zW ?_
 obtain rfl:=sI h
 refine Zq (.inr rfl) hU [(vB (cond (a0.Kind != 0) true (decide (0 < (IntKind.i64.wrap ((a0.Words.length:Int)+(a0.Kids.length:Int)))))))] (by omega) ?_
 simp only [push_cast,seval,Zf,Tryz.results42,hN0,hN]
theorem Jx {a0:Bool} {a1:Bool} {a2:Bool} {a3:Zb} {r:Bool} {O:Objs} {n:Nat} (h:V7 a0 a1 a2 a3=some r):GTo Tryz.prog 41 [(vB a0),(vB a1),(vB a2),.ip (Ze a3) 0] O n ((vB r)) O n:=by
 unfold V7 at h
 refine fn0 Zt Tryz.call41 Tryz.func41 rfl fun hU hN0 hN => ?_
 show W _ _ _ _ ⟨49,[],[(0,(vB a0)),(1,(vB a1)),(2,(vB a2)),(3,.ip (Ze a3) 0)]⟩ (Zr O n []) _
 refine zQ [0,1,2,3] ?_
 obtain ⟨z3,hz3,h⟩:=bC h
 refine Yk (E':=⟨49,[],[(7,(vB z3))]⟩) (O':=(Zr O n [])) (n0:=n) ?_ ?_
 ·rcases Bool.eq_false_or_eq_true a0 with c8 | c8
  ·replace hz3:=Zo c8 hz3
   obtain ⟨y6,hy6,hz3⟩:=bC hz3
   rcases Bool.eq_false_or_eq_true y6 with c9 | c9
   ·replace hz3:=Zo c9 hz3
    try rw [c9] at c8
    refine Ja (Z65 (Z5l (Jb::Yha []))) c8 c9 ?_
    refine (Zg2 hy6).then ?_
    refine zX2 c8 c9 ?_
    exact Zbp hz3 c8 c9
   replace hz3:=Zn c9 hz3
   try rw [c9] at c8
   obtain ⟨y7,hy7,hz3⟩:=bC hz3
   refine Ja (Ygl (Yhg [])) c8 c9 ?_
   refine zG ?_
   refine (Zg2 hy6).then ?_
   refine zX2 c8 c9 ?_
   refine zG ?_
   refine (Zg2 hy7).then ?_
   refine zX2 c8 c9 ?_
   refine zG ?_
   exact Zbp hz3 c8 c9
  replace hz3:=Zn c8 hz3
  refine K3 (Ygk (Jb::Jb::Zzp (Jb::Jb::Yhc []))) c8 ?_
  refine zG ?_
  exact Kq hz3 c8
 refine zW ?_
 obtain rfl:=sI h
 refine Zq (.inr rfl) hU [(vB z3)] (by omega) ?_
 simp only [push_cast,seval,Zf,Tryz.results41,hN0,hN]
theorem Zsq {a0:Int} {r:Bool} {O:Objs} {n:Nat} (h:Zga a0=some r):GTo Tryz.prog 66 [(vI a0)] O n ((vB r)) O n:=by
 unfold Zga at h
 refine fn0 Zt Tryz.call66 Tryz.func66 rfl fun hU hN0 hN => ?_
 show W _ _ _ _ ⟨9,[],[(0,(vI a0))]⟩ (Zr O n []) _
 refine zQ [0] ?_
 refine zQD [2] [none,none] ?_
 refine zW ?_
 obtain rfl:=sI h
 refine Zq (.inr rfl) hU [(vB (cond (decide (2≤a0)) (decide (a0≤9)) false))] (by omega) ?_
 simp only [push_cast,seval,Zf,Tryz.results66,hN0,hN]
theorem Zju {a0:(List Zc)} {r:Bool} {O:Objs} {n:Nat} (h:Za4 a0=some r):GTo Tryz.prog 93 [(sL Za a0)] O n ((vB r)) O n:=by
 unfold Za4 at h
 refine fn0 Zt Tryz.call93 Tryz.func93 rfl fun hU hN0 hN => ?_
 show W _ _ _ _ ⟨15,[],[(0,(sL Za a0))]⟩ (Zr O n []) _
 refine zQ [0] ?_
 refine Zl ?_
 refine zQd [5,6,7] [5,6,7] [] ?_
 obtain ⟨z5,hz5,h⟩:=bC h
 refine U3 (J:=(Xg (fun z5=>JR n (⟨15,[],[(2,(vB false))]⟩:Env) (Zr O n []) n) (fun z5=>JX 0 n (⟨15,[],[]⟩:Env) (Zr O n []) n))) (z:=z5) ?_ fun hw => ?_
 ·refine Yi hz5 (fun s0_=>⟨15,[],[(5,(sL Za a0)),(6,(vI (a0.length:Int))),(7,(vI s0_))]⟩) (fun s0_=>(Zr O n [])) (Xg (fun z5=>JR n (⟨15,[],[(2,(vB false))]⟩:Env) (Zr O n []) n) (fun z5=>JX 0 n (⟨15,[],[]⟩:Env) (Zr O n []) n)) ?_
  intro s0_ x0_ hs0_
  unfold V8 at hs0_
  try dsimp only
  refine zQ [5,6,7,8] ?_
  refine Zl ?_
  refine Zp (t:=(decide (s0_ < (a0.length:Int)))) rfl (fun c4 => ?_) (fun c4 => ?_)
  ·replace hs0_:=Zo c4 hs0_
   refine Q5 [5,6,7] [] ?_
   refine Zl ?_
   refine Z0 ?_
   refine Zl ?_
   obtain ⟨x2,hx2,ax2,bx2,cx2,hs0_⟩:=bE (f:=Za) Zbu (fun _=>rfl) (by decide) hs0_
   refine Zdr [] ax2 bx2 cx2 ?_
   refine zD [4,5,6,7] [true] ?_
   refine zQ [5,6,7,13] ?_
   refine Zp (t:=(x2.Kind != 1)) rfl (fun c3 => ?_) (fun c3 => ?_)
   ·replace hs0_:=Zo c3 hs0_
    refine zQ [2] ?_
    refine zW ?_
    exact zEy hs0_
   replace hs0_:=Zn c3 hs0_
   refine Q5 [5,6,7] [false] ?_
   refine zR ?_
   exact Vu hs0_
  replace hs0_:=Zn c4 hs0_
  exact zEx hs0_
 rcases z5 with z5 | z5
 ·dsimp only [Xg] at hw h
  refine Qj hw ?_
  try simp only [Yg,Z3,↓reduceIte,Nat.reduceEqDiff]
  obtain rfl:=sI h
  refine Zq (.inr rfl) hU [(vB false)] (by omega) ?_
  simp only [push_cast,seval,Zf,Tryz.results93,hN0,hN]
 dsimp only [Xg] at hw h
 refine Z8 hw ?_
 try simp only [Yg,Z3,↓reduceIte,Nat.reduceEqDiff]
 refine zD [] [] ?_
 refine zQ [2] ?_
 refine zW ?_
 obtain rfl:=sI h
 refine Zq (.inr rfl) hU [(vB true)] (by omega) ?_
 simp only [push_cast,seval,Zf,Tryz.results93,hN0,hN]
theorem Z0m {a0:Int} {r:(Int×Bool)} {O:Objs} {n:Nat} (h:Zmw a0=some r):GTo Tryz.prog 114 [(vI a0)] O n (.tup [(vI r.1),(vB r.2)]) O n:=by
 unfold Zmw at h
 refine fn0 Zt Tryz.call114 Tryz.func114 rfl fun hU hN0 hN => ?_
 show W _ _ _ _ ⟨15,[],[(0,(vI a0))]⟩ (Zr O n []) _
 refine zQ [0] ?_
 refine Zl ?_
 obtain ⟨y6,hy6,ey6,h⟩:=bY (f:=(eI .i64)) (cs:=[.val (.int .i64 0),.val (.int .i64 1),.val (.int .i64 8),.val (.int .i64 16),.val (.int .i64 32),.val (.int .i64 64)]) rfl h
 have g7:=congrArg G.agg ey6
 obtain ⟨y8,hy8,ey8,h⟩:=bY (f:=(eI .i64)) (cs:=[.val (.int .i64 0),.val (.int .i64 0),.val (.int .i64 0),.val (.int .i64 0),.val (.int .i64 0),.val (.int .i64 0)]) rfl h
 have g9:=congrArg (GObj.mk false 134 6 1) ey8
 have g10:=Zjg (f:=(eI .i64)) y8 y6 (fun _=>rfl)
 refine U1 [] g7 g9 g10 ?_
 refine zDs [0,4] [true] ?_
 refine zQD [0,4,11] [none,none] ?_
 refine Zp (t:=(cond (decide (a0 < 0)) true (decide (6≤a0)))) rfl (fun c13 => ?_) (fun c13 => ?_)
 ·replace h:=Zo c13 h
  refine zQ [2,3] ?_
  refine zW ?_
  obtain rfl:=sI h
  refine Zq (.inr rfl) hU [(vI 0),(vB false)] (by omega) ?_
  simp only [push_cast,seval,Zf,Tryz.results114,hN0,hN]
 replace h:=Zn c13 h
 refine Q5 [0,4] [true] ?_
 obtain ⟨x12,hx12,ax12,bx12,cx12,h⟩:=bEA (f:=(eI .i64)) (b:=6) rfl Zis (fun _=>rfl) (by decide) h
 refine Zl0 [2,3] (Yn Zt [] ?_)
 refine zF3 ax12 bx12 cx12 ?_
 refine zW ?_
 obtain rfl:=sI h
 refine Zq (.inr rfl) hU [(vI x12),(vB true)] (by omega) ?_
 simp only [push_cast,seval,Zf,Tryz.results114,hN0,hN]
theorem Z2x {a0:Int} {a1:Int} {r:Bool} {O:Objs} {n:Nat} (h:Zia a0 a1=some r):GTo Tryz.prog 102 [(vI a0),.val (.int .u64 a1)] O n ((vB r)) O n:=by
 unfold Zia at h
 refine fn0 Zt Tryz.call102 Tryz.func102 rfl fun hU hN0 hN => ?_
 show W _ _ _ _ ⟨19,[],[(0,(vI a0)),(1,.val (.int .u64 a1))]⟩ (Zr O n []) _
 refine zQ [0,1] ?_
 refine Zl ?_
 obtain ⟨y2,hy2,h⟩:=bC h
 refine zCd (Z0m hy2) [1,5,6] [] ?_
 obtain ⟨z4,hz4,h⟩:=bC h
 refine Yk (E':=⟨19,[],[(4,(vB z4))]⟩) (O':=(Zr O n [])) (n0:=n) ?_ ?_
 ·rcases Bool.eq_false_or_eq_true y2.2 with c7 | c7
  ·replace hz4:=Zo c7 hz4
   obtain ⟨pu6,hz4⟩:=bG hz4
   refine Yn Zt (Z65 []) ?_
   simp only [push_cast,seval,Zf,c7,pu6,hN0,hN]
   obtain rfl:=sI hz4
   refine And.intro rfl (Fit2.of (Zz hU rfl rfl ?_) (by omega))
   simp only [push_cast,seval,Zf,c7,pu6,hN0,hN]
  replace hz4:=Zn c7 hz4
  refine K3 (Z5m []) c7 ?_
  exact Kq hz4 c7
 refine zW ?_
 obtain rfl:=sI h
 refine Zq (.inr rfl) hU [(vB z4)] (by omega) ?_
 simp only [push_cast,seval,Zf,Tryz.results102,hN0,hN]
end Go.Proofs.YtkbcdcffpefklaaGreat
