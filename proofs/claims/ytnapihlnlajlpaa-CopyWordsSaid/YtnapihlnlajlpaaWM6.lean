/- Part WM6 of this seat's mirrors: functions of the seat's program, and the plain functions that they are; each theorem bears its own conditions. -/
import Derived.Test.YtnapihlnlajlpaaWE
import Derived.Test.YtnapihlnlajlpaaWM5
namespace Go.Proofs.Ytnapihlnlajlpaa
open Go.RowKit
set_option linter.unusedVariables false
set_option linter.unusedSimpArgs false
set_option maxRecDepth 100000
set_option maxHeartbeats 4000000
attribute [local push_cast] Try.results100 Try.results108 Try.results111 Try.results28 Try.results33 Try.results58 Try.results59 Try.results63 Try.results64 Try.results66 Try.results68 Try.results89 Try.results95 Try.results97 vI vB nV sL oR Xa Zi Zv Yd Zf Zop Zoo Zo8 Zo7 Y9 Yp Zkh Zf0 Zfz onW X2 Zdo Zdd Zq5 Znd Zif Zij Zie Zii Zlh Zlc Zih Zlg Zlf Zle Zig Zla Zgq evS wok Q1 Op.operands Call.operands gop onK onP atK List.all_cons List.all_nil Bool.and_true Bool.true_and Bool.and_self Value.oneCell' List.take_zero List.take_succ_cons List.take_nil List.drop_zero List.drop_succ_cons List.drop_nil List.append_nil Nat.add_zero Nat.zero_add Gb Yi ev Q4 Zm1 Zoi Zoh Zon Zol Zom Zoj Zok Zog Zsf Zs9 Zv9 Ziv Zcz Ziu Zdj Zh3 Zf2 Zd8 Zed Zfw Zfs Zeb Zfv Zfu Zft Zea Zfq Zd9 Zec Zdb Zfr Zl7 Zf1 Zap Zhs Zaq Zjt Zit Zvd bLo bHi bMx Zc0 Zjs Zxg Zir Zkg Ze0 Uu Zsg Zxh Zhr Zez Zxj Zcy Zz7 Zko Zks Zkn Zkr Zoz Zov Zot Zh5 Zkp Zoy Zox Zow Zkq Zou Zkj Zrh Zk6 Zgl Zgk pop TK.isAgg Zo1 Zo5 Zo0 Zo4 Zkz Ztl Zth Zo3 Ztk Ztj Zti Zo2 Ztg G.under G.unders List.getD_cons_zero List.getD_cons_succ List.set_cons_zero List.set_cons_succ List.map_cons List.map_nil List.toList_toArray Array.toList_append Option.toArray_none Option.toArray_some Array.toList_map Option.map_some Option.map_none Option.bind_some Option.bind_none List.getElem?_cons_zero List.getElem?_cons_succ List.getElem?_nil List.nil_append List.cons_append List.replicate_succ List.replicate_zero List.length_cons List.length_nil and_true true_and and_false false_and Bool.true_eq_false Bool.false_eq_true forall_const false_implies implies_true IntKind.bits if_true if_false ite_true ite_false eq_self true_implies false_or or_false or_true true_or not_true_eq_false not_false_eq_true decide_true decide_false decide_eq_true_eq decide_eq_false_iff_not beq_iff_eq bne_iff_ne ne_eq Bool.not_eq_true Bool.not_eq_false beq_eq_false_iff_ne bne_eq_false_iff_eq beq_self_eq_true bne_self_eq_false Option.some.injEq exists_eq_left' exists_eq_left ge_iff_le gt_iff_lt decide_not Bool.not_true Bool.not_false imp_self Ztd cond_true cond_false Z5y Z5x Bool.not_not Bool.and_false Bool.false_and Bool.or_true Bool.true_or Bool.or_false Bool.false_or Zcs Zji Zdt Zct Jn Qs Option.join_some Nat.add_assoc Int.toNat_natCast eI eB eS eL Xm Zfy Zeg Zos Zoq Zor Z0t Z2l Zgh Zel Zpe Zpc Zpd Zwo Zm0 Zuv Zmw Zvc Zca Zre List.length_append G.agg.injEq G.row.injEq G.ref.injEq G.val.injEq G.sl.injEq G.tup.injEq Value.int.injEq Value.bool.injEq Value.string.injEq List.cons.injEq exists_and_left exists_const List.flatten_cons List.flatten_nil Int.le_refl Nat.le_refl Zb8 Xv Je Bool.not_eq_true' Bool.not_eq_false' Zqo Zhb Zuj Zun Zui Zum Zzt Zzo List.size_toArray Zrv Zra G.ren G.rens Ztn Zgm Zpj Zoe Zof Zlb Zuo Zge G.fn.injEq Zjd Zlz Zqn Zzp Zly Zul Zzs Zzr Zzq Zuk Zte Zx8 Option.join_none Y4 Zac undef Zkl Arr.len Arr.put_eq Zgg Zh7 Zgf Zek Zpb Zo9 Zpa onB Z0s Zse Qa Zdc Zj0 Zj1 Zj2 Zj3 Zj4 Zj5 Zh6 Zia Zh8 Zgj Zem Zh9 Zk4 Zk3 Zk2 Zk1 Z2k Z3s Zwn Zve Vv Zwi Zrn Zib Zgi Zxq Zrb Zio Zke Zdx Zi5 Zj6 Zj7 Zj8 Zj9 Zhv Zhw Zhx Zhy Zhz Zh0 Zh1 Zfm prT Ze2 Z6t Zt7 Z2x Zt8 Z6u Zt9 Z6v Zua Z6w Zub Z6x Zuc Z6y Zud Z6z Zue Zym Zpn Zyn Zpo Zyo Zpp Zyp Zpq Zyq Zpr Zyr Zps Zys Zpt Zyt Zpu Zyu Zpv Zyv Zpw Zyw Zpx Zco Zfk Zmy Zms Zyx Zpy Zb7 Zpz Zyy Zp0 Zyz Zp1 Zy0 Zp2 Zy1 Zmt Zy2 Zp3 Zy3 Zp4 Zy4 Zp5 Ke Zp6 Zy5 Zp7 Zy6 Zp8 Zy7 Zp9 Zy8 Zqa Zy9 Zqb Zza Zqc Zzb Zqd Zzc Zqe Zzd Zqf Zze Zqg Zzf Zqh Zzg Zqi Zzh Zqj Zzi Zqk Zzj Zql Zzk Zqm Zts Zlj Ztt Zlk Ztu Zll Ztv Zlm Ztw Zln Ztx Zlo Zty Zlp Ztz Zlq Zt0 Zlr Zt1 Zls Zt2 Zlt Zt3 Zlu Zt4 Zlv Zt5 Zlw Zt6 Zlx Zn Xd Zgw Zgu Zf4 Zgd Zgy Zes Zeq Zeo Zgs U7 U6 Uy U0 U8 Ue Ud Uc U5 Zgv Zgt Zf3 Zgc Zgx Zer Zep Zen Zgr Zef Gw Jf Zch Zcg Zcc Zce Zci Zbh Zbe Zbd Zcf K7 K8 Zo Ky Kx Kh Ko Kz J7 J6 J5 Ku Zee Za1 Yh Vp Vn Vc Vj Vr Kw Kt Kr Vl Yg Vo Vm Vb Vi Vq Kv Ks Kq Vk
theorem Zmd {a0:Za} {r:(Int×Int)} {O:Objs} {n:Nat} (h:Zbi a0=some r):GTo Try.prog 63 [.agg (Zf a0)] O n (.tup [(vI r.1),(vI r.2)]) O n:=by
 unfold Zbi at h
 refine zFn Try.call63 Try.func63 fun hU hN0 hN => ?_
 show W _ _ _ _ ⟨29,[],[(0,.agg (Zf a0))]⟩ (Zu O n []) _
 refine zQ [1] ?_
 refine Zc ?_
 obtain ⟨y2,hy2,h⟩:=bC h
 refine zCd (Yj hy2) [1,4] [true] ?_
 refine Zc ?_
 refine zD [1,4] [true] ?_
 obtain ⟨z12,hz12,h⟩:=bC h
 refine Zl2 (J:=(Ux (fun z12=>JR n (⟨29,[],[(2,(vI z12.1)),(3,(vI z12.2))]⟩:Env) (Zu O n [none]) (n+1)) (fun z12=>JX 0 n (⟨29,[],[]⟩:Env) (Zu O n [none]) (n+1)))) (z:=z12) ?_ fun hw => ?_
 ·refine Xj hz12 (fun s0_=>⟨29,[],[(1,.ref n 0),(4,(vI s0_))]⟩) (fun s0_=>(Zu O n [some ⟨false,40,9,1,(Zf a0)⟩])) (Ux (fun z12=>JR n (⟨29,[],[(2,(vI z12.1)),(3,(vI z12.2))]⟩:Env) (Zu O n [none]) (n+1)) (fun z12=>JX 0 n (⟨29,[],[]⟩:Env) (Zu O n [none]) (n+1))) ?_
  intro s0_ x0_ hs0_
  unfold Za8 at hs0_
  try dsimp only
  refine Zc ?_
  refine zQ [1,4,10] ?_
  refine Zm (t:=(decide (0 < s0_))) rfl (fun c11 => ?_) (fun c11 => ?_)
  ·replace hs0_:=Zr c11 hs0_
   refine Qo [1,4] [true] ?_
   refine Yo ?_
   refine Zc ?_
   obtain ⟨y4,hy4,hs0_⟩:=bC hs0_
   refine zCd (Ja hy4) [1,4,5,6] [true,true] ?_
   refine Zc ?_
   obtain ⟨z6,hz6,hs0_⟩:=bC hs0_
   refine Qb (E':=⟨29,[],[(1,.ref n 0),(4,(vI s0_)),(6,(vI y4.2)),(24,(vB z6))]⟩) (O':=(Zu O n [some ⟨false,40,9,1,(Zf a0)⟩,none])) (n0:=(n+2)) ?_ ?_
   ·rcases Bool.eq_false_or_eq_true (y4.2 != 0) with c9 | c9
    ·replace hz6:=Zr c9 hz6
     refine Zb9 [some false,some false,some false] c9 ?_
     exact Zaw hz6 c9
    replace hz6:=Zq c9 hz6
    obtain ⟨y8,hy8,hz6⟩:=bC hz6
    refine Zb9 [some true,some true,some true] c9 ?_
    refine (Qe hy8).then ?_
    refine zX1 c9 ?_
    exact Zaw hz6 c9
   refine Zm (t:=z6) rfl (fun c10 => ?_) (fun c10 => ?_)
   ·replace hs0_:=Zr c10 hs0_
    refine zQ [2,3] ?_
    refine zW ?_
    exact zEy hs0_
   replace hs0_:=Zq c10 hs0_
   refine Qo [1,4] [true,false] ?_
   refine zR ?_
   exact zEn hs0_
  replace hs0_:=Zq c11 hs0_
  exact zEx hs0_
 rcases z12 with z12 | z12
 ·dsimp only [Ux] at hw h
  refine Zew hw ?_
  try simp only [Y9,Yp,↓reduceIte,Nat.reduceEqDiff]
  exact Zxu [(vI z12.1),(vI z12.2)]
 dsimp only [Ux] at hw h
 refine Y1 hw ?_
 try simp only [Y9,Yp,↓reduceIte,Nat.reduceEqDiff]
 refine zD [] [false] ?_
 refine zQ [2,3] ?_
 exact Z5 [(vI 0),(vI 0)]
theorem Zhp {a0:Za} {r:Int} {O:Objs} {n:Nat} (h:Vh a0=some r):GTo Try.prog 58 [.agg (Zf a0)] O n ((vI r)) O n:=by
 unfold Vh at h
 refine zFn Try.call58 Try.func58 fun hU hN0 hN => ?_
 show W _ _ _ _ ⟨11,[],[(0,.agg (Zf a0))]⟩ (Zu O n []) _
 refine zQ [1] ?_
 refine Zc ?_
 refine zQ [1,4] ?_
 refine Yo ?_
 refine zQ [1,4,5] ?_
 refine Zm (t:=(a0.kind == 1)) rfl (fun c2 => ?_) (fun c2 => ?_)
 ·replace h:=Zr c2 h
  refine zQ [2] ?_
  exact Z5 [(vI a0.words)]
 replace h:=Zq c2 h
 refine zQ [9] ?_
 refine Zm (t:=(a0.kind == 10)) rfl (fun c1 => ?_) (fun c1 => ?_)
 ·replace h:=Zr c1 h
  refine zQ [2] ?_
  exact Z5 [(vI 1)]
 replace h:=Zq c1 h
 refine Qo [] [false] ?_
 refine zQ [2] ?_
 exact Z5 [(vI 0)]
theorem Z2i {a0:(List Int)} {a1:Int} {a2:Int} {r:Int} {O:Objs} {n:Nat} (h:Ziy a0 a1 a2=some r):GTo Try.prog 108 [(sL (eI .u64) a0),(vI a1),(vI a2)] O n (.val (.int .u64 r)) O n:=by
 unfold Ziy at h
 refine zFn Try.call108 Try.func108 fun hU hN0 hN => ?_
 show W _ _ _ _ ⟨45,[],[(0,(sL (eI .u64) a0)),(1,(vI a1)),(2,(vI a2))]⟩ (Zu O n []) _
 refine zQ [0,1,2] ?_
 refine Zc ?_
 obtain ⟨y2,hy2,h⟩:=bC h
 refine zCd (Zds hy2) [0,2,7] [] ?_
 refine Zc ?_
 refine zQD [0,2,7,20] [none,none] ?_
 refine Zm (t:=(cond (y2.1 == 0) true (decide (a2 < 0)))) rfl (fun c18 => ?_) (fun c18 => ?_)
 ·replace h:=Zr c18 h
  refine zQ [6] ?_
  exact Z5 [.val (.int .u64 0)]
 replace h:=Zq c18 h
 refine Qo [0,2,7] [] ?_
 obtain ⟨pu4,h⟩:=bG h
 refine Zcp [0,2,7,9] (Z3 Zx [] ?_)
 simp only [push_cast,seval,↓reduceIte,Zh,pu4,hN0,hN]
 refine Zc ?_
 obtain ⟨pu6,h⟩:=bG h
 refine Zcp [0,2,7,9,28] (Z3 Zx [] ?_)
 simp only [push_cast,seval,↓reduceIte,Zh,pu6,hN0,hN]
 refine Zm (t:=(decide ((a0.length:Int)≤(IntKind.i64.wrap (Int.tdiv a2 (IntKind.i64.wrap (Int.tdiv 64 y2.1))))))) rfl (fun c17 => ?_) (fun c17 => ?_)
 ·replace h:=Zr c17 h
  refine zQ [6] ?_
  exact Z5 [.val (.int .u64 0)]
 replace h:=Zq c17 h
 refine Qo [0,2,7,9] [] ?_
 obtain ⟨pu12,h⟩:=bG h
 obtain ⟨x13,hx13,ax13,bx13,cx13,h⟩:=bE (f:=(eI .u64)) Ke (fun _=>rfl) (by decide) h
 obtain ⟨pu14,h⟩:=bG h
 obtain ⟨pu15,h⟩:=bG h
 obtain ⟨pu16,h⟩:=bG h
 refine Zcp [6] (J8 Zx (by kernel_rfl) [] (by kernel_rfl) ?_)
 refine zF7 pu12 ax13 bx13 cx13 pu14 pu15 pu16 ?_
 exact Z5 [.val (.int .u64 (IntKind.u64.wrap (Zc1 .u64 (Int.fdiv x13 (2 ^ min (Int.toNat (IntKind.i64.wrap ((Int.tmod a2 (IntKind.i64.wrap (Int.tdiv 64 y2.1))) * y2.1))) 64)) (IntKind.u64.wrap ((IntKind.u64.wrap (1 * 2 ^ min (Int.toNat y2.1) 64)) - 1)))))]
theorem Znw {a0:Za} {r:Int} {O:Objs} {n:Nat} (h:Uq a0=some r):GTo Try.prog 89 [.agg (Zf a0)] O n (.val (.int .u64 r)) O n:=by
 unfold Uq at h
 refine zFn Try.call89 Try.func89 fun hU hN0 hN => ?_
 show W _ _ _ _ ⟨42,[],[(0,.agg (Zf a0))]⟩ (Zu O n []) _
 refine zQ [1] ?_
 refine Zc ?_
 obtain ⟨y2,hy2,h⟩:=bC h
 refine zCd (Zds hy2) [1,3] [true] ?_
 refine Zc ?_
 refine zQ [1,3,15] ?_
 refine Zm (t:=(y2.1 == 0)) rfl (fun c13 => ?_) (fun c13 => ?_)
 ·replace h:=Zr c13 h
  refine zQ [2] ?_
  exact Z5 [.val (.int .u64 0)]
 replace h:=Zq c13 h
 refine Qo [1,3] [true] ?_
 obtain ⟨pu4,h⟩:=bG h
 refine Zcp [1,5] (Z3 Zx [] ?_)
 simp only [push_cast,seval,↓reduceIte,Zh,pu4,hN0,hN]
 refine Zc ?_
 obtain ⟨pu7,h⟩:=bG h
 obtain ⟨y8,hy8,h⟩:=bC h
 refine J8 Zx (by kernel_rfl) [] (by kernel_rfl) ?_
 simp only [push_cast,seval,↓reduceIte,Zh,pu7,hN0,hN]
 refine PCall.of (Gk hy8) ?_
 simp only [push_cast,seval,↓reduceIte,Zh,pu7,hN0,hN]
 refine zDs [1,5,6] [true] ?_
 obtain ⟨pu11,h⟩:=bG h
 obtain ⟨y12,hy12,h⟩:=bC h
 refine Zl1 Zx (by kernel_rfl) [.plain,.pass,.low,.low,.low,.low,.plain,.low,.bar,.plain] (fun i=>i < (n+1)) [0,2,3,4,5,6,7,1,8,9] [.plain,.low,.low,.low,.low,.plain,.low,.pass,.bar,.plain] [] (by kernel_rfl) rfl ?_
 simp only [push_cast,seval,↓reduceIte,Zh,pu11,hN0,hN]
 refine zO ?_
 refine GCalls.lend (Z2i hy12) rfl ?_ ?_
 ·simp only [push_cast,seval,↓reduceIte,Zh,pu11,hN0,hN]
 simp only [push_cast,seval,↓reduceIte,Zh,pu11,hN0,hN]
 refine zO ?_
 refine Zav ⟨42,[],[(2,.val (.int .u64 y12))]⟩ (Zu O n [none,none]) (Ye hU rfl rfl ?_) ?_
 ·simp only [push_cast,seval,↓reduceIte,Zh,pu11,hN0,hN]
 exact Z5 [.val (.int .u64 y12)]
theorem Zd6 {a0:Za} {a1:Int} {r:Int} {O:Objs} {n:Nat} (h:Q9 a0 a1=some r):GTo Try.prog 59 [.agg (Zf a0),(vI a1)] O n (.val (.int .u64 r)) O n:=by
 unfold Q9 at h
 refine zFn Try.call59 Try.func59 fun hU hN0 hN => ?_
 show W _ _ _ _ ⟨33,[],[(0,.agg (Zf a0)),(1,(vI a1))]⟩ (Zu O n []) _
 refine zQ [1,2] ?_
 refine Zc ?_
 obtain ⟨z2,hz2,h⟩:=bC h
 refine Qb (E':=⟨33,[],[(1,(vI a1)),(2,.ref n 0),(14,(vB z2))]⟩) (O':=(Zu O n [some ⟨false,40,9,1,(Zf a0)⟩])) (n0:=(n+1)) ?_ ?_
 ·rcases Bool.eq_false_or_eq_true (decide (a1 < 0)) with c5 | c5
  ·replace hz2:=Zr c5 hz2
   refine Zb9 [some false,some false,some false,some false] c5 ?_
   exact Zaw hz2 c5
  replace hz2:=Zq c5 hz2
  obtain ⟨y4,hy4,hz2⟩:=bC hz2
  refine Zb9 [some true,some true,some true,some true] c5 ?_
  refine (Zhp hy4).then ?_
  refine zX1 c5 ?_
  exact Zaw hz2 c5
 refine Zm (t:=z2) rfl (fun c11 => ?_) (fun c11 => ?_)
 ·replace h:=Zr c11 h
  refine zQ [4] ?_
  exact Z5 [.val (.int .u64 0)]
 replace h:=Zq c11 h
 refine Qo [1,2] [true] ?_
 refine Zc ?_
 refine zQ [1,2,17] ?_
 refine Zm (t:=(a0.kind == 10)) rfl (fun c10 => ?_) (fun c10 => ?_)
 ·replace h:=Zr c10 h
  refine Zc ?_
  obtain ⟨y7,hy7,h⟩:=bC h
  refine zCd (Znw hy7) [4] [false] ?_
  exact Z5 [.val (.int .u64 y7)]
 replace h:=Zq c10 h
 refine Qo [1,2] [true] ?_
 refine Zc ?_
 obtain ⟨y9,hy9,h⟩:=bC h
 refine zCd (Gk hy9) [5] [false] ?_
 refine zQ [4] ?_
 exact Z5 [.val (.int .u64 y9.1)]
theorem Zfb {a0:Za} {r:Int} {O:Objs} {n:Nat} (h:Uv a0=some r):GTo Try.prog 28 [.agg (Zf a0)] O n ((vI r)) O n:=by
 unfold Uv at h
 refine zFn Try.call28 Try.func28 fun hU hN0 hN => ?_
 show W _ _ _ _ ⟨18,[],[(0,.agg (Zf a0))]⟩ (Zu O n []) _
 refine zQ [1] ?_
 refine Zc ?_
 obtain ⟨y2,hy2,h⟩:=bC h
 refine zCd (Zhp hy2) [1,3] [true] ?_
 refine Zc ?_
 refine zD [1,3] [true] ?_
 obtain ⟨z9,hz9,h⟩:=bC h
 refine Y1 (E':=⟨18,[],[(3,(vI z9))]⟩) (O':=(Zu O n [none])) (n0:=(n+1)) ?_ ?_
 ·refine Xj hz9 (fun s0_=>⟨18,[],[(1,.ref n 0),(3,(vI s0_))]⟩) (fun s0_=>(Zu O n [some ⟨false,40,9,1,(Zf a0)⟩])) (fun z9=>JX 0 n (⟨18,[],[(3,(vI z9))]⟩:Env) (Zu O n [none]) (n+1)) ?_
  intro s0_ x0_ hs0_
  unfold Zc5 at hs0_
  try dsimp only
  refine Zc ?_
  obtain ⟨z4,hz4,hs0_⟩:=bC hs0_
  refine Qb (E':=⟨18,[],[(1,.ref n 0),(3,(vI s0_)),(14,(vB z4))]⟩) (O':=(Zu O n [some ⟨false,40,9,1,(Zf a0)⟩])) (n0:=(n+1)) ?_ ?_
  ·rcases Bool.eq_false_or_eq_true (decide (0 < s0_)) with c7 | c7
   ·replace hz4:=Zr c7 hz4
    obtain ⟨y6,hy6,hz4⟩:=bC hz4
    refine Zb9 [some true,some true,some true,some true,some true] c7 ?_
    refine (Zd6 hy6).then ?_
    refine zX1 c7 ?_
    exact Zaw hz4 c7
   replace hz4:=Zq c7 hz4
   refine Zb9 [some false,some false,some false,some false,some false] c7 ?_
   exact Zaw hz4 c7
  refine Zm (t:=z4) rfl (fun c8 => ?_) (fun c8 => ?_)
  ·replace hs0_:=Zr c8 hs0_
   refine Qo [1,3] [true] ?_
   refine Yo ?_
   refine zR ?_
   exact zEn hs0_
  replace hs0_:=Zq c8 hs0_
  exact zEx hs0_
 try simp only [Y9,Yp,↓reduceIte,Nat.reduceEqDiff]
 refine zD [3] [false] ?_
 refine zQ [2] ?_
 exact Z5 [(vI z9)]
theorem Zqz {a0:Za} {r:(Int×Int)} {O:Objs} {n:Nat} (h:Gi a0=some r):GTo Try.prog 111 [.agg (Zf a0)] O n (.tup [(vI r.1),(vI r.2)]) O n:=by
 unfold Gi at h
 refine zFn Try.call111 Try.func111 fun hU hN0 hN => ?_
 show W _ _ _ _ ⟨11,[],[(0,.agg (Zf a0))]⟩ (Zu O n []) _
 refine zQ [1] ?_
 refine Zc ?_
 refine zQ [1,6] ?_
 refine Zm (t:=(a0.kind != 9)) rfl (fun c1 => ?_) (fun c1 => ?_)
 ·replace h:=Zr c1 h
  refine zQ [2,3] ?_
  exact Z5 [(vI 0),(vI 0)]
 replace h:=Zq c1 h
 refine Qo [1] [true] ?_
 refine Zcp [2,3] (J8 Zx (by kernel_rfl) [] (by kernel_rfl) ?_)
 refine zS ?_
 exact Z5 [(vI a0.words),(vI a0.ptrs)]
theorem Zjv {a0:Za} {r:(Int×Int×Int)} {O:Objs} {n:Nat} (h:Zbt a0=some r):GTo Try.prog 95 [.agg (Zf a0)] O n (.tup [(vI r.1),(vI r.2.1),(vI r.2.2)]) O n:=by
 unfold Zbt at h
 refine zFn Try.call95 Try.func95 fun hU hN0 hN => ?_
 show W _ _ _ _ ⟨52,[],[(0,.agg (Zf a0))]⟩ (Zu O n []) _
 refine zQ [1] ?_
 refine Zc ?_
 refine Zc ?_
 obtain ⟨y2,hy2,h⟩:=bC h
 refine zCd (Zqz hy2) [1,5,6] [true] ?_
 refine zQ [1,22] ?_
 refine Zm (t:=((IntKind.i64.wrap (y2.1+y2.2)) == 0)) rfl (fun c13 => ?_) (fun c13 => ?_)
 ·replace h:=Zr c13 h
  refine zQ [2,3,4] ?_
  exact Z5 [(vI 0),(vI 0),(vI 0)]
 replace h:=Zq c13 h
 refine Qo [1] [true] ?_
 refine zQ [1,7,8] ?_
 refine Zc ?_
 refine Zc ?_
 obtain ⟨y4,hy4,h⟩:=bC h
 refine zCd (Yj hy4) [1,7,8,24,25] [true] ?_
 refine zD [1,7,8,24,25] [true] ?_
 obtain ⟨z12,hz12,h⟩:=bC h
 refine Zl2 (J:=(Ux (fun z12=>JR n (⟨52,[],[(2,(vI 0)),(3,(vI 0)),(4,(vI z12))]⟩:Env) (Zu O n [none]) (n+1)) (fun z12=>JX 0 n (⟨52,[],[(7,(vI z12.1)),(8,(vI z12.2))]⟩:Env) (Zu O n [none]) (n+1)))) (z:=z12) ?_ fun hw => ?_
 ·refine Xj hz12 (fun s0_=>⟨52,[],[(1,.ref n 0),(7,(vI s0_.1)),(8,(vI s0_.2.1)),(24,(vI y4)),(25,(vI s0_.2.2))]⟩) (fun s0_=>(Zu O n [some ⟨false,40,9,1,(Zf a0)⟩])) (Ux (fun z12=>JR n (⟨52,[],[(2,(vI 0)),(3,(vI 0)),(4,(vI z12))]⟩:Env) (Zu O n [none]) (n+1)) (fun z12=>JX 0 n (⟨52,[],[(7,(vI z12.1)),(8,(vI z12.2))]⟩:Env) (Zu O n [none]) (n+1))) ?_
  intro s0_ x0_ hs0_
  unfold Zb4 at hs0_
  try dsimp only
  refine zQ [1,7,8,24,25,26] ?_
  refine Zc ?_
  refine Zm (t:=(decide (s0_.2.2 < y4))) rfl (fun c11 => ?_) (fun c11 => ?_)
  ·replace hs0_:=Zr c11 hs0_
   refine Qo [1,7,8,24,25] [true] ?_
   refine Zc ?_
   refine Yo ?_
   refine zQ [1,7,8,9,24,25] ?_
   refine Zc ?_
   obtain ⟨y6,hy6,hs0_⟩:=bC hs0_
   refine zCd (Ja hy6) [1,7,8,10,24,25] [true,true] ?_
   refine Zc ?_
   obtain ⟨y8,hy8,hs0_⟩:=bC hs0_
   refine zCd (Zmd hy8) [1,7,8,10,12,13,24,25] [true,true] ?_
   refine Zc ?_
   refine zQ [1,7,8,10,12,13,24,25,40] ?_
   refine Zm (t:=(y8.2 != 0)) rfl (fun c10 => ?_) (fun c10 => ?_)
   ·replace hs0_:=Zr c10 hs0_
    refine zQ [2,3,4] ?_
    refine zW ?_
    exact zEy hs0_
   replace hs0_:=Zq c10 hs0_
   refine Qo [1,7,8,10,12,24,25] [true,true] ?_
   obtain ⟨y9,hy9,hs0_⟩:=bC hs0_
   refine zCd (Zfb hy9) [1,7,8,24,25] [true,false] ?_
   refine zR ?_
   exact zEn hs0_
  replace hs0_:=Zq c11 hs0_
  exact zEx hs0_
 rcases z12 with z12 | z12
 ·dsimp only [Ux] at hw h
  refine Zew hw ?_
  try simp only [Y9,Yp,↓reduceIte,Nat.reduceEqDiff]
  exact Zxu [(vI 0),(vI 0),(vI z12)]
 dsimp only [Ux] at hw h
 refine Y1 hw ?_
 try simp only [Y9,Yp,↓reduceIte,Nat.reduceEqDiff]
 refine zD [7,8] [false] ?_
 refine zQ [2,3,4] ?_
 exact Z5 [(vI z12.1),(vI z12.2),(vI 0)]
def Gq (Yq:(Ze→Za→Option (Int×Ze))):Prop:=∀ {a0:Ze} {a1:Za} {r:(Int×Ze)} {O:Objs} {n:Nat} {i0:Nat},i0 < n→O i0=some ⟨false,68,1,1,[(vI a0.left)]⟩→Yq a0 a1=some r→GTo Try.prog 33 [.ref i0 0,.agg (Zf a1)] O n ((vI r.1)) (Zu (O.upd i0 (some ⟨false,68,1,1,[(vI r.2.left)]⟩)) n []) (n+0)
def Zaj (Ym:(Ze→Za→Int→Option (Int×Ze))):Prop:=∀ {a0:Ze} {a1:Za} {a2:Int} {r:(Int×Ze)} {O:Objs} {n:Nat} {i0:Nat},i0 < n→O i0=some ⟨false,68,1,1,[(vI a0.left)]⟩→Ym a0 a1 a2=some r→GTo Try.prog 64 [.ref i0 0,.agg (Zf a1),(vI a2)] O n ((vI r.1)) (Zu (O.upd i0 (some ⟨false,68,1,1,[(vI r.2.left)]⟩)) n []) (n+0)
def V9 (Yr:(Ze→Za→Option (Int×Ze))):Prop:=∀ {a0:Ze} {a1:Za} {r:(Int×Ze)} {O:Objs} {n:Nat} {i0:Nat},i0 < n→O i0=some ⟨false,68,1,1,[(vI a0.left)]⟩→Yr a0 a1=some r→GTo Try.prog 66 [.ref i0 0,.agg (Zf a1)] O n ((vI r.1)) (Zu (O.upd i0 (some ⟨false,68,1,1,[(vI r.2.left)]⟩)) n []) (n+0)
theorem Zn0 {Yq:(Ze→Za→Option (Int×Ze))} {Ym:(Ze→Za→Int→Option (Int×Ze))} {Yr:(Ze→Za→Option (Int×Ze))} (Zck:Gq Yq) (V5:Zaj Ym) (Zbb:V9 Yr) {a0:Ze} {a1:Za} {r:(Int×Ze)} {O:Objs} {n:Nat} {i0:Nat} (hi0:i0 < n) (ho0:O i0=some ⟨false,68,1,1,[(vI a0.left)]⟩) (h:Xs Yq Ym Yr a0 a1=some r):GTo Try.prog 33 [.ref i0 0,.agg (Zf a1)] O n ((vI r.1)) (Zu (O.upd i0 (some ⟨false,68,1,1,[(vI r.2.left)]⟩)) n []) (n+0):=by
 unfold Xs at h
 refine Zkf Zx Try.call33 Try.func33 rfl (Nat.le_of_ble_eq_true rfl) (by omega) fun hU => ?_
 rw [show Zu O n []=Zu (O.upd i0 (some ⟨false,68,1,1,[(vI a0.left)]⟩)) n [] from by rw [Zs2 (show O i0=_ from by exact ho0)]]
 have hk0:∀ k,i0 < n+k:=fun k=>by omega
 have hN0:∀ o,Objs.upd O i0 o n=none:=fun o=>Qt hU hi0 _ (Nat.le_refl _)
 have hN:∀ o k,Objs.upd O i0 o (n+k)=none:=fun o k=>Qt hU hi0 _ (Nat.le_add_right _ _)
 show W _ _ _ _ ⟨63,[],[(0,.ref i0 0),(1,.agg (Zf a1))]⟩ (Zu (O.upd i0 (some ⟨false,68,1,1,[(vI a0.left)]⟩)) n []) _
 refine Kf [0,3] hi0 hk0 ?_
 refine Zc ?_
 refine Zc ?_
 obtain ⟨y2,hy2,h⟩:=bC h
 refine Q0 [] hi0 hk0 ?_
 refine (Qe hy2).then ?_
 refine zX2 hi0 hk0 ?_
 refine zD [0,3,10] [true] ?_
 refine Yo ?_
 refine Kf [0,3,10,11] hi0 hk0 ?_
 refine Zm (t:=(y2 == 0)) rfl (fun c35 => ?_) (fun c35 => ?_)
 ·replace h:=Zr c35 h
  refine Kf [4] hi0 hk0 ?_
  refine zW ?_
  have h:=Option.some.inj h;subst h
  refine X1 (k:=0) (i:=i0) (q1:=⟨false,68,1,1,[(vI a0.left)]⟩) (L3:=[none]) (E2:=(⟨63,[],[(4,(vI 0))]⟩:Env)) (n3:=(n+1)) (.inr rfl) hU rfl [(vI 0)] ?_ ?_
  ·refine Fit2.trans (E':=(⟨63,[],[(4,(vI 0))]⟩:Env)) (O':=(Zu (O.upd i0 (some ⟨false,68,1,1,[(vI a0.left)]⟩)) n [none])) (n':=(n+1)) (Fit2.of (Yb hU rfl rfl ?_) (by omega)) ?_
   ·exact Xx hi0 hk0
   refine Y7 (k:=1) (k':=1) hU [0] [0] rfl rfl rfl rfl ⟨rfl,rfl⟩ ?_
   exact Xx hi0 hk0
  simp only [push_cast,seval,↓reduceIte,Zh,Try.results33,hi0,hk0,hN0,hN]
 replace h:=Zq c35 h
 refine Kf [0,3,10,13] hi0 hk0 ?_
 refine Zm (t:=(y2 == 1)) rfl (fun c34 => ?_) (fun c34 => ?_)
 ·replace h:=Zr c34 h
  refine Zc ?_
  obtain ⟨y4,hy4,h⟩:=bC h
  refine Q0 [] hi0 hk0 ?_
  refine (Zmd hy4).then ?_
  refine zX2 hi0 hk0 ?_
  refine zDs [0,3,5,6] [true] ?_
  refine Kf [0,3,5,6,21] hi0 hk0 ?_
  refine Zm (t:=(y4.2 != 0)) rfl (fun c12 => ?_) (fun c12 => ?_)
  ·replace h:=Zr c12 h
   refine Kf [4] hi0 hk0 ?_
   refine zW ?_
   have h:=Option.some.inj h;subst h
   refine X1 (k:=0) (i:=i0) (q1:=⟨false,68,1,1,[(vI a0.left)]⟩) (L3:=[none]) (E2:=(⟨63,[],[(4,(vI y4.2))]⟩:Env)) (n3:=(n+1)) (.inr rfl) hU rfl [(vI y4.2)] ?_ ?_
   ·refine Fit2.trans (E':=(⟨63,[],[(4,(vI y4.2))]⟩:Env)) (O':=(Zu (O.upd i0 (some ⟨false,68,1,1,[(vI a0.left)]⟩)) n [none])) (n':=(n+1)) (Fit2.of (Yb hU rfl rfl ?_) (by omega)) ?_
    ·exact Xx hi0 hk0
    refine Y7 (k:=1) (k':=1) hU [0] [0] rfl rfl rfl rfl ⟨rfl,rfl⟩ ?_
    exact Xx hi0 hk0
   simp only [push_cast,seval,↓reduceIte,Zh,Try.results33,hi0,hk0,hN0,hN]
  replace h:=Zq c12 h
  refine Qo [0,3,5] [true] ?_
  refine Zc ?_
  refine Zc ?_
  obtain ⟨y7,hy7,h⟩:=bC h
  obtain ⟨y8,hy8,h⟩:=bC h
  refine Q0 [] hi0 hk0 ?_
  refine (Zfb hy7).then ?_
  refine zX2 hi0 hk0 ?_
  refine (Gl (i0:=i0) (by omega) (by simp only [push_cast,seval,↓reduceIte,Zh,Xm,hi0,hk0,hN0,hN] <;> rfl) hy8).then ?_
  refine zX2 hi0 hk0 ?_
  refine zD [0,3,5,7] [true] ?_
  refine Kf [0,3,5,7,30] hi0 hk0 ?_
  refine Zm (t:=(y8.1 != 0)) rfl (fun c11 => ?_) (fun c11 => ?_)
  ·replace h:=Zr c11 h
   refine Kf [4] hi0 hk0 ?_
   refine zW ?_
   have h:=Option.some.inj h;subst h
   refine X1 (k:=0) (i:=i0) (q1:=⟨false,68,1,1,[(vI y8.2.left)]⟩) (L3:=[none]) (E2:=(⟨63,[],[(4,(vI y8.1))]⟩:Env)) (n3:=(n+1)) (.inr rfl) hU rfl [(vI y8.1)] ?_ ?_
   ·refine Fit2.trans (E':=(⟨63,[],[(4,(vI y8.1))]⟩:Env)) (O':=(Zu (O.upd i0 (some ⟨false,68,1,1,[(vI y8.2.left)]⟩)) n [none])) (n':=(n+1)) (Fit2.of (Yb hU rfl rfl ?_) (by omega)) ?_
    ·exact Xx hi0 hk0
    refine Y7 (k:=1) (k':=1) hU [0] [0] rfl rfl rfl rfl ⟨rfl,rfl⟩ ?_
    exact Xx hi0 hk0
   simp only [push_cast,seval,↓reduceIte,Zh,Try.results33,hi0,hk0,hN0,hN]
  replace h:=Zq c11 h
  refine Qo [0,3,5] [true] ?_
  refine Zc ?_
  obtain ⟨y10,hy10,h⟩:=bC h
  refine Q0 [] hi0 hk0 ?_
  refine (V5 (i0:=i0) (by omega) (by simp only [push_cast,seval,↓reduceIte,Zh,Xm,hi0,hk0,hN0,hN] <;> rfl) hy10).then ?_
  refine zX2 hi0 hk0 ?_
  refine zD [4] [false] ?_
  refine zW ?_
  have h:=Option.some.inj h;subst h
  refine X1 (k:=0) (i:=i0) (q1:=⟨false,68,1,1,[(vI y10.2.left)]⟩) (L3:=[none]) (E2:=(⟨63,[],[(4,(vI y10.1))]⟩:Env)) (n3:=(n+1)) (.inr rfl) hU rfl [(vI y10.1)] ?_ ?_
  ·refine Fit2.trans (E':=(⟨63,[],[(4,(vI y10.1))]⟩:Env)) (O':=(Zu (O.upd i0 (some ⟨false,68,1,1,[(vI y10.2.left)]⟩)) n [none])) (n':=(n+1)) (Fit2.of (Yb hU rfl rfl ?_) (by omega)) ?_
   ·exact Xx hi0 hk0
   refine Y7 (k:=1) (k':=1) hU [0] [0] rfl rfl rfl rfl ⟨rfl,rfl⟩ ?_
   exact Xx hi0 hk0
  simp only [push_cast,seval,↓reduceIte,Zh,Try.results33,hi0,hk0,hN0,hN]
 replace h:=Zq c34 h
 refine Kf [0,3,10,36] hi0 hk0 ?_
 refine Zm (t:=(y2 == 8)) rfl (fun c33 => ?_) (fun c33 => ?_)
 ·replace h:=Zr c33 h
  refine Zc ?_
  refine Zc ?_
  obtain ⟨y15,hy15,h⟩:=bC h
  obtain ⟨y16,hy16,h⟩:=bC h
  refine Q0 [] hi0 hk0 ?_
  refine (Yj hy15).then ?_
  refine zX2 hi0 hk0 ?_
  refine (Gl (i0:=i0) (by omega) (by simp only [push_cast,seval,↓reduceIte,Zh,Xm,hi0,hk0,hN0,hN] <;> rfl) hy16).then ?_
  refine zX2 hi0 hk0 ?_
  refine zD [0,3,8] [true] ?_
  refine Kf [0,3,8,43] hi0 hk0 ?_
  refine Zm (t:=(y16.1 != 0)) rfl (fun c21 => ?_) (fun c21 => ?_)
  ·replace h:=Zr c21 h
   refine Kf [4] hi0 hk0 ?_
   refine zW ?_
   have h:=Option.some.inj h;subst h
   refine X1 (k:=0) (i:=i0) (q1:=⟨false,68,1,1,[(vI y16.2.left)]⟩) (L3:=[none]) (E2:=(⟨63,[],[(4,(vI y16.1))]⟩:Env)) (n3:=(n+1)) (.inr rfl) hU rfl [(vI y16.1)] ?_ ?_
   ·refine Fit2.trans (E':=(⟨63,[],[(4,(vI y16.1))]⟩:Env)) (O':=(Zu (O.upd i0 (some ⟨false,68,1,1,[(vI y16.2.left)]⟩)) n [none])) (n':=(n+1)) (Fit2.of (Yb hU rfl rfl ?_) (by omega)) ?_
    ·exact Xx hi0 hk0
    refine Y7 (k:=1) (k':=1) hU [0] [0] rfl rfl rfl rfl ⟨rfl,rfl⟩ ?_
    exact Xx hi0 hk0
   simp only [push_cast,seval,↓reduceIte,Zh,Try.results33,hi0,hk0,hN0,hN]
  replace h:=Zq c21 h
  refine Qo [0,3] [true] ?_
  refine Zc ?_
  obtain ⟨y19,hy19,h⟩:=bC h
  obtain ⟨y20,hy20,h⟩:=bC h
  refine Zbl Zx (by kernel_rfl) [false,false,false,false,true,false] [] (by kernel_rfl) ?_
  refine zX2 hi0 hk0 ?_
  refine PCall.of (Yj hy19) ?_
  refine zX2 hi0 hk0 ?_
  refine (V5 (i0:=i0) (by omega) (by simp only [push_cast,seval,↓reduceIte,Zh,Xm,hi0,hk0,hN0,hN] <;> rfl) hy20).then ?_
  refine zX2 hi0 hk0 ?_
  refine zD [4] [false] ?_
  refine zW ?_
  have h:=Option.some.inj h;subst h
  refine X1 (k:=0) (i:=i0) (q1:=⟨false,68,1,1,[(vI y20.2.left)]⟩) (L3:=[none]) (E2:=(⟨63,[],[(4,(vI y20.1))]⟩:Env)) (n3:=(n+1)) (.inr rfl) hU rfl [(vI y20.1)] ?_ ?_
  ·refine Fit2.trans (E':=(⟨63,[],[(4,(vI y20.1))]⟩:Env)) (O':=(Zu (O.upd i0 (some ⟨false,68,1,1,[(vI y20.2.left)]⟩)) n [none])) (n':=(n+1)) (Fit2.of (Yb hU rfl rfl ?_) (by omega)) ?_
   ·exact Xx hi0 hk0
   refine Y7 (k:=1) (k':=1) hU [0] [0] rfl rfl rfl rfl ⟨rfl,rfl⟩ ?_
   exact Xx hi0 hk0
  simp only [push_cast,seval,↓reduceIte,Zh,Try.results33,hi0,hk0,hN0,hN]
 replace h:=Zq c33 h
 refine Kf [0,3,50] hi0 hk0 ?_
 refine Zm (t:=(y2 == 9)) rfl (fun c32 => ?_) (fun c32 => ?_)
 ·replace h:=Zr c32 h
  refine Zc ?_
  obtain ⟨y23,hy23,h⟩:=bC h
  refine Q0 [] hi0 hk0 ?_
  refine (Zbb (i0:=i0) (by omega) (by simp only [push_cast,seval,↓reduceIte,Zh,Xm,hi0,hk0,hN0,hN] <;> rfl) hy23).then ?_
  refine zX2 hi0 hk0 ?_
  refine zD [4] [false] ?_
  refine zW ?_
  have h:=Option.some.inj h;subst h
  refine X1 (k:=0) (i:=i0) (q1:=⟨false,68,1,1,[(vI y23.2.left)]⟩) (L3:=[none]) (E2:=(⟨63,[],[(4,(vI y23.1))]⟩:Env)) (n3:=(n+1)) (.inr rfl) hU rfl [(vI y23.1)] ?_ ?_
  ·refine Fit2.trans (E':=(⟨63,[],[(4,(vI y23.1))]⟩:Env)) (O':=(Zu (O.upd i0 (some ⟨false,68,1,1,[(vI y23.2.left)]⟩)) n [none])) (n':=(n+1)) (Fit2.of (Yb hU rfl rfl ?_) (by omega)) ?_
   ·exact Xx hi0 hk0
   refine Y7 (k:=1) (k':=1) hU [0] [0] rfl rfl rfl rfl ⟨rfl,rfl⟩ ?_
   exact Xx hi0 hk0
  simp only [push_cast,seval,↓reduceIte,Zh,Try.results33,hi0,hk0,hN0,hN]
 replace h:=Zq c32 h
 refine Qo [0,3] [true] ?_
 refine Zc ?_
 obtain ⟨y28,hy28,h⟩:=bC h
 obtain ⟨y29,hy29,h⟩:=bC h
 obtain ⟨y30,hy30,h⟩:=bC h
 obtain ⟨y31,hy31,h⟩:=bC h
 refine Zbl Zx (by kernel_rfl) [false,false,false,false,false,false,false,true,false] [] (by kernel_rfl) ?_
 refine zX2 hi0 hk0 ?_
 refine PCall.of (Qe hy28) ?_
 refine zX2 hi0 hk0 ?_
 refine PCall.of (Yj hy29) ?_
 refine zX2 hi0 hk0 ?_
 refine PCall.of (Zst hy30) ?_
 refine zX2 hi0 hk0 ?_
 refine (Gl (i0:=i0) (by omega) (by simp only [push_cast,seval,↓reduceIte,Zh,Xm,hi0,hk0,hN0,hN] <;> rfl) hy31).then ?_
 refine zX2 hi0 hk0 ?_
 refine zD [4] [false] ?_
 refine zW ?_
 have h:=Option.some.inj h;subst h
 refine X1 (k:=0) (i:=i0) (q1:=⟨false,68,1,1,[(vI y31.2.left)]⟩) (L3:=[none]) (E2:=(⟨63,[],[(4,(vI y31.1))]⟩:Env)) (n3:=(n+1)) (.inr rfl) hU rfl [(vI y31.1)] ?_ ?_
 ·refine Fit2.trans (E':=(⟨63,[],[(4,(vI y31.1))]⟩:Env)) (O':=(Zu (O.upd i0 (some ⟨false,68,1,1,[(vI y31.2.left)]⟩)) n [none])) (n':=(n+1)) (Fit2.of (Yb hU rfl rfl ?_) (by omega)) ?_
  ·exact Xx hi0 hk0
  refine Y7 (k:=1) (k':=1) hU [0] [0] rfl rfl rfl rfl ⟨rfl,rfl⟩ ?_
  exact Xx hi0 hk0
 simp only [push_cast,seval,↓reduceIte,Zh,Try.results33,hi0,hk0,hN0,hN]
theorem Zq4 {Yq:(Ze→Za→Option (Int×Ze))} {Ym:(Ze→Za→Int→Option (Int×Ze))} {Yr:(Ze→Za→Option (Int×Ze))} (Zck:Gq Yq) (V5:Zaj Ym) (Zbb:V9 Yr) {a0:Ze} {a1:Za} {a2:Int} {r:(Int×Ze)} {O:Objs} {n:Nat} {i0:Nat} (hi0:i0 < n) (ho0:O i0=some ⟨false,68,1,1,[(vI a0.left)]⟩) (h:X4 Yq Ym Yr a0 a1 a2=some r):GTo Try.prog 64 [.ref i0 0,.agg (Zf a1),(vI a2)] O n ((vI r.1)) (Zu (O.upd i0 (some ⟨false,68,1,1,[(vI r.2.left)]⟩)) n []) (n+0):=by
 unfold X4 at h
 refine Zkf Zx Try.call64 Try.func64 rfl (Nat.le_of_ble_eq_true rfl) (by omega) fun hU => ?_
 rw [show Zu O n []=Zu (O.upd i0 (some ⟨false,68,1,1,[(vI a0.left)]⟩)) n [] from by rw [Zs2 (show O i0=_ from by exact ho0)]]
 have hk0:∀ k,i0 < n+k:=fun k=>by omega
 have hN0:∀ o,Objs.upd O i0 o n=none:=fun o=>Qt hU hi0 _ (Nat.le_refl _)
 have hN:∀ o k,Objs.upd O i0 o (n+k)=none:=fun o k=>Qt hU hi0 _ (Nat.le_add_right _ _)
 show W _ _ _ _ ⟨31,[],[(0,.ref i0 0),(1,.agg (Zf a1)),(2,(vI a2))]⟩ (Zu (O.upd i0 (some ⟨false,68,1,1,[(vI a0.left)]⟩)) n []) _
 refine Kf [0,2,4] hi0 hk0 ?_
 refine Zc ?_
 refine Kf [0,4,11,12] hi0 hk0 ?_
 refine zD [0,4,11,12] [true] ?_
 obtain ⟨z8,hz8,h⟩:=bC h
 refine Zl2 (J:=(Ux (fun z8=>JR n (⟨31,[],[(6,(vI z8.1))]⟩:Env) (Zu (O.upd i0 (some ⟨false,68,1,1,[(vI z8.2)]⟩)) n [none]) (n+1)) (fun z8=>JX 0 n (⟨31,[],[]⟩:Env) (Zu (O.upd i0 (some ⟨false,68,1,1,[(vI z8)]⟩)) n [none]) (n+1)))) (z:=z8) ?_ fun hw => ?_
 ·refine Xj hz8 (fun s0_=>⟨31,[],[(0,.ref i0 0),(4,.ref n 0),(11,(vI a2)),(12,(vI s0_.1))]⟩) (fun s0_=>(Zu (O.upd i0 (some ⟨false,68,1,1,[(vI s0_.2)]⟩)) n [some ⟨false,40,9,1,(Zf a1)⟩])) (Ux (fun z8=>JR n (⟨31,[],[(6,(vI z8.1))]⟩:Env) (Zu (O.upd i0 (some ⟨false,68,1,1,[(vI z8.2)]⟩)) n [none]) (n+1)) (fun z8=>JX 0 n (⟨31,[],[]⟩:Env) (Zu (O.upd i0 (some ⟨false,68,1,1,[(vI z8)]⟩)) n [none]) (n+1))) ?_
  intro s0_ x0_ hs0_
  unfold Jt at hs0_
  try dsimp only
  refine Kf [0,4,11,12,13] hi0 hk0 ?_
  refine Zc ?_
  refine Zm (t:=(decide (s0_.1 < a2))) rfl (fun c7 => ?_) (fun c7 => ?_)
  ·replace hs0_:=Zr c7 hs0_
   refine Qo [0,4,11,12] [true] ?_
   refine Zc ?_
   refine Yo ?_
   refine Kf [0,4,7,11,12] hi0 hk0 ?_
   refine Zc ?_
   obtain ⟨y2,hy2,hs0_⟩:=bC hs0_
   refine Q0 [] hi0 hk0 ?_
   refine (Ja hy2).then ?_
   refine zX2 hi0 hk0 ?_
   refine zDs [0,4,8,9,11,12] [true,true] ?_
   refine Kf [0,4,8,9,11,12,22] hi0 hk0 ?_
   refine Zm (t:=(y2.2 != 0)) rfl (fun c6 => ?_) (fun c6 => ?_)
   ·replace hs0_:=Zr c6 hs0_
    refine Kf [6] hi0 hk0 ?_
    refine zW ?_
    have hs0_:=Option.some.inj hs0_;subst hs0_
    refine And.intro (fun h=>by cases h) (And.intro rfl (Fit2.of (Yb hU rfl rfl ?_) (by omega)))
    exact Xx hi0 hk0
   replace hs0_:=Zq c6 hs0_
   refine Qo [0,4,8,11,12] [true,true] ?_
   refine Zc ?_
   obtain ⟨y4,hy4,hs0_⟩:=bC hs0_
   refine Q0 [] hi0 hk0 ?_
   refine (Zck (i0:=i0) (by omega) (by simp only [push_cast,seval,↓reduceIte,Zh,Xm,hi0,hk0,hN0,hN] <;> rfl) hy4).then ?_
   refine zX2 hi0 hk0 ?_
   refine zD [0,4,10,11,12] [true,false] ?_
   refine Kf [0,4,10,11,12,28] hi0 hk0 ?_
   refine Zm (t:=(y4.1 != 0)) rfl (fun c5 => ?_) (fun c5 => ?_)
   ·replace hs0_:=Zr c5 hs0_
    refine Kf [6] hi0 hk0 ?_
    refine zW ?_
    have hs0_:=Option.some.inj hs0_;subst hs0_
    refine And.intro (fun h=>by cases h) (And.intro rfl (Fit2.of (Yb hU rfl rfl ?_) (by omega)))
    exact Xx hi0 hk0
   replace hs0_:=Zq c5 hs0_
   refine Qo [0,4,11,12] [true,false] ?_
   refine Q0 [] hi0 hk0 ?_
   have hs0_:=Option.some.inj hs0_;subst hs0_
   refine And.intro rfl (Fit2.of (Yb hU rfl rfl ?_) (by omega))
   exact Xx hi0 hk0
  replace hs0_:=Zq c7 hs0_
  refine zXt ?_
  have hs0_:=Option.some.inj hs0_;subst hs0_
  refine And.intro (fun h=>by cases h) (And.intro rfl (Fit2.of (Yb hU rfl rfl ?_) (by omega)))
  exact Xx hi0 hk0
 rcases z8 with z8 | z8
 ·dsimp only [Ux] at hw h
  refine Zew hw ?_
  try simp only [Y9,Yp,↓reduceIte,Nat.reduceEqDiff]
  have h:=Option.some.inj h;subst h
  refine X1 (k:=0) (i:=i0) (q1:=⟨false,68,1,1,[(vI z8.2)]⟩) (L3:=[none]) (E2:=(⟨31,[],[(6,(vI z8.1))]⟩:Env)) (n3:=(n+1)) (.inr rfl) hU rfl [(vI z8.1)] ?_ ?_
  ·refine Fit2.trans (E':=(⟨31,[],[(6,(vI z8.1))]⟩:Env)) (O':=(Zu (O.upd i0 (some ⟨false,68,1,1,[(vI z8.2)]⟩)) n [none])) (n':=(n+1)) (Fit2.of (Yb hU rfl rfl ?_) (by omega)) ?_
   ·exact Xx hi0 hk0
   refine Y7 (k:=1) (k':=1) hU [0] [0] rfl rfl rfl rfl ⟨rfl,rfl⟩ ?_
   exact Xx hi0 hk0
  simp only [push_cast,seval,↓reduceIte,Zh,Try.results64,hi0,hk0,hN0,hN]
 dsimp only [Ux] at hw h
 refine Y1 hw ?_
 try simp only [Y9,Yp,↓reduceIte,Nat.reduceEqDiff]
 refine zD [] [false] ?_
 refine Kf [6] hi0 hk0 ?_
 refine zW ?_
 have h:=Option.some.inj h;subst h
 refine X1 (k:=0) (i:=i0) (q1:=⟨false,68,1,1,[(vI z8)]⟩) (L3:=[none]) (E2:=(⟨31,[],[(6,(vI 0))]⟩:Env)) (n3:=(n+1)) (.inr rfl) hU rfl [(vI 0)] ?_ ?_
 ·refine Fit2.trans (E':=(⟨31,[],[(6,(vI 0))]⟩:Env)) (O':=(Zu (O.upd i0 (some ⟨false,68,1,1,[(vI z8)]⟩)) n [none])) (n':=(n+1)) (Fit2.of (Yb hU rfl rfl ?_) (by omega)) ?_
  ·exact Xx hi0 hk0
  refine Y7 (k:=1) (k':=1) hU [0] [0] rfl rfl rfl rfl ⟨rfl,rfl⟩ ?_
  exact Xx hi0 hk0
 simp only [push_cast,seval,↓reduceIte,Zh,Try.results64,hi0,hk0,hN0,hN]
theorem Zmi {Yq:(Ze→Za→Option (Int×Ze))} {Ym:(Ze→Za→Int→Option (Int×Ze))} {Yr:(Ze→Za→Option (Int×Ze))} (Zck:Gq Yq) (V5:Zaj Ym) (Zbb:V9 Yr) {a0:Ze} {a1:Za} {r:(Int×Ze)} {O:Objs} {n:Nat} {i0:Nat} (hi0:i0 < n) (ho0:O i0=some ⟨false,68,1,1,[(vI a0.left)]⟩) (h:X5 Yq Ym Yr a0 a1=some r):GTo Try.prog 66 [.ref i0 0,.agg (Zf a1)] O n ((vI r.1)) (Zu (O.upd i0 (some ⟨false,68,1,1,[(vI r.2.left)]⟩)) n []) (n+0):=by
 unfold X5 at h
 refine Zkf Zx Try.call66 Try.func66 rfl (Nat.le_of_ble_eq_true rfl) (by omega) fun hU => ?_
 rw [show Zu O n []=Zu (O.upd i0 (some ⟨false,68,1,1,[(vI a0.left)]⟩)) n [] from by rw [Zs2 (show O i0=_ from by exact ho0)]]
 have hk0:∀ k,i0 < n+k:=fun k=>by omega
 have hN0:∀ o,Objs.upd O i0 o n=none:=fun o=>Qt hU hi0 _ (Nat.le_refl _)
 have hN:∀ o k,Objs.upd O i0 o (n+k)=none:=fun o k=>Qt hU hi0 _ (Nat.le_add_right _ _)
 show W _ _ _ _ ⟨58,[],[(0,.ref i0 0),(1,.agg (Zf a1))]⟩ (Zu (O.upd i0 (some ⟨false,68,1,1,[(vI a0.left)]⟩)) n []) _
 refine Kf [0,3] hi0 hk0 ?_
 refine Zc ?_
 obtain ⟨y2,hy2,h⟩:=bC h
 refine Q0 [] hi0 hk0 ?_
 refine (Zjv hy2).then ?_
 refine zX2 hi0 hk0 ?_
 refine zDs [0,3,5,6,7] [true] ?_
 refine Kf [0,3,5,6,7,20] hi0 hk0 ?_
 refine Zm (t:=(y2.2.2 != 0)) rfl (fun c19 => ?_) (fun c19 => ?_)
 ·replace h:=Zr c19 h
  refine Kf [4] hi0 hk0 ?_
  refine zW ?_
  have h:=Option.some.inj h;subst h
  refine X1 (k:=0) (i:=i0) (q1:=⟨false,68,1,1,[(vI a0.left)]⟩) (L3:=[none]) (E2:=(⟨58,[],[(4,(vI y2.2.2))]⟩:Env)) (n3:=(n+1)) (.inr rfl) hU rfl [(vI y2.2.2)] ?_ ?_
  ·refine Fit2.trans (E':=(⟨58,[],[(4,(vI y2.2.2))]⟩:Env)) (O':=(Zu (O.upd i0 (some ⟨false,68,1,1,[(vI a0.left)]⟩)) n [none])) (n':=(n+1)) (Fit2.of (Yb hU rfl rfl ?_) (by omega)) ?_
   ·exact Xx hi0 hk0
   refine Y7 (k:=1) (k':=1) hU [0] [0] rfl rfl rfl rfl ⟨rfl,rfl⟩ ?_
   exact Xx hi0 hk0
  simp only [push_cast,seval,↓reduceIte,Zh,Try.results66,hi0,hk0,hN0,hN]
 replace h:=Zq c19 h
 refine Qo [0,3,5,6] [true] ?_
 refine Zc ?_
 refine Zc ?_
 obtain ⟨y5,hy5,h⟩:=bC h
 obtain ⟨y6,hy6,h⟩:=bC h
 refine Q0 [] hi0 hk0 ?_
 refine (Yj hy5).then ?_
 refine zX2 hi0 hk0 ?_
 refine (Gl (i0:=i0) (by omega) (by simp only [push_cast,seval,↓reduceIte,Zh,Xm,hi0,hk0,hN0,hN] <;> rfl) hy6).then ?_
 refine zX2 hi0 hk0 ?_
 refine zD [0,3,6,8] [true] ?_
 refine Zcp [0,3,8,36] (Z3 Zx [none,none] ?_)
 refine zX2 hi0 hk0 ?_
 refine zG ?_
 refine Zm (t:=(cond (y6.1 != 0) true (y2.2.1 == 0))) rfl (fun c18 => ?_) (fun c18 => ?_)
 ·replace h:=Zr c18 h
  refine Kf [4] hi0 hk0 ?_
  refine zW ?_
  have h:=Option.some.inj h;subst h
  refine X1 (k:=0) (i:=i0) (q1:=⟨false,68,1,1,[(vI y6.2.left)]⟩) (L3:=[none]) (E2:=(⟨58,[],[(4,(vI y6.1))]⟩:Env)) (n3:=(n+1)) (.inr rfl) hU rfl [(vI y6.1)] ?_ ?_
  ·refine Fit2.trans (E':=(⟨58,[],[(4,(vI y6.1))]⟩:Env)) (O':=(Zu (O.upd i0 (some ⟨false,68,1,1,[(vI y6.2.left)]⟩)) n [none])) (n':=(n+1)) (Fit2.of (Yb hU rfl rfl ?_) (by omega)) ?_
   ·exact Xx hi0 hk0
   refine Y7 (k:=1) (k':=1) hU [0] [0] rfl rfl rfl rfl ⟨rfl,rfl⟩ ?_
   exact Xx hi0 hk0
  simp only [push_cast,seval,↓reduceIte,Zh,Try.results66,hi0,hk0,hN0,hN]
 replace h:=Zq c18 h
 refine Qo [0,3] [true] ?_
 refine Zc ?_
 refine Zc ?_
 obtain ⟨y8,hy8,h⟩:=bC h
 refine Q0 [] hi0 hk0 ?_
 refine (Yj hy8).then ?_
 refine zX2 hi0 hk0 ?_
 refine zD [0,3,39,40] [true] ?_
 refine zD [0,3,39,40] [true] ?_
 obtain ⟨z17,hz17,h⟩:=bC h
 refine Zl2 (J:=(Ux (fun z17=>JR n (⟨58,[],[(4,(vI z17.1))]⟩:Env) (Zu (O.upd i0 (some ⟨false,68,1,1,[(vI z17.2)]⟩)) n [none]) (n+1)) (fun z17=>JX 0 n (⟨58,[],[]⟩:Env) (Zu (O.upd i0 (some ⟨false,68,1,1,[(vI z17)]⟩)) n [none]) (n+1)))) (z:=z17) ?_ fun hw => ?_
 ·refine Xj hz17 (fun s0_=>⟨58,[],[(0,.ref i0 0),(3,.ref n 0),(39,(vI y8)),(40,(vI s0_.1))]⟩) (fun s0_=>(Zu (O.upd i0 (some ⟨false,68,1,1,[(vI s0_.2)]⟩)) n [some ⟨false,40,9,1,(Zf a1)⟩])) (Ux (fun z17=>JR n (⟨58,[],[(4,(vI z17.1))]⟩:Env) (Zu (O.upd i0 (some ⟨false,68,1,1,[(vI z17.2)]⟩)) n [none]) (n+1)) (fun z17=>JX 0 n (⟨58,[],[]⟩:Env) (Zu (O.upd i0 (some ⟨false,68,1,1,[(vI z17)]⟩)) n [none]) (n+1))) ?_
  intro s0_ x0_ hs0_
  unfold Ju at hs0_
  try dsimp only
  refine Kf [0,3,39,40,41] hi0 hk0 ?_
  refine Zc ?_
  refine Zm (t:=(decide (s0_.1 < y8))) rfl (fun c16 => ?_) (fun c16 => ?_)
  ·replace hs0_:=Zr c16 hs0_
   refine Qo [0,3,39,40] [true] ?_
   refine Zc ?_
   refine Yo ?_
   refine Kf [0,3,9,39,40] hi0 hk0 ?_
   refine Zc ?_
   obtain ⟨y10,hy10,hs0_⟩:=bC hs0_
   refine Q0 [] hi0 hk0 ?_
   refine (Ja hy10).then ?_
   refine zX2 hi0 hk0 ?_
   refine zDs [0,3,10,39,40] [true,true] ?_
   obtain ⟨y13,hy13,hs0_⟩:=bC hs0_
   obtain ⟨y14,hy14,hs0_⟩:=bC hs0_
   refine Zbl Zx (by kernel_rfl) [false,false,false,false,true,false] [] (by kernel_rfl) ?_
   refine zX2 hi0 hk0 ?_
   refine PCall.of (Yj hy13) ?_
   refine zX2 hi0 hk0 ?_
   refine (V5 (i0:=i0) (by omega) (by simp only [push_cast,seval,↓reduceIte,Zh,Xm,hi0,hk0,hN0,hN] <;> rfl) hy14).then ?_
   refine zX2 hi0 hk0 ?_
   refine zD [0,3,12,39,40] [true,false] ?_
   refine Kf [0,3,12,39,40,55] hi0 hk0 ?_
   refine Zm (t:=(y14.1 != 0)) rfl (fun c15 => ?_) (fun c15 => ?_)
   ·replace hs0_:=Zr c15 hs0_
    refine Kf [4] hi0 hk0 ?_
    refine zW ?_
    have hs0_:=Option.some.inj hs0_;subst hs0_
    refine And.intro (fun h=>by cases h) (And.intro rfl (Fit2.of (Yb hU rfl rfl ?_) (by omega)))
    exact Xx hi0 hk0
   replace hs0_:=Zq c15 hs0_
   refine Qo [0,3,39,40] [true,false] ?_
   refine Q0 [] hi0 hk0 ?_
   have hs0_:=Option.some.inj hs0_;subst hs0_
   refine And.intro rfl (Fit2.of (Yb hU rfl rfl ?_) (by omega))
   exact Xx hi0 hk0
  replace hs0_:=Zq c16 hs0_
  refine zXt ?_
  have hs0_:=Option.some.inj hs0_;subst hs0_
  refine And.intro (fun h=>by cases h) (And.intro rfl (Fit2.of (Yb hU rfl rfl ?_) (by omega)))
  exact Xx hi0 hk0
 rcases z17 with z17 | z17
 ·dsimp only [Ux] at hw h
  refine Zew hw ?_
  try simp only [Y9,Yp,↓reduceIte,Nat.reduceEqDiff]
  have h:=Option.some.inj h;subst h
  refine X1 (k:=0) (i:=i0) (q1:=⟨false,68,1,1,[(vI z17.2)]⟩) (L3:=[none]) (E2:=(⟨58,[],[(4,(vI z17.1))]⟩:Env)) (n3:=(n+1)) (.inr rfl) hU rfl [(vI z17.1)] ?_ ?_
  ·refine Fit2.trans (E':=(⟨58,[],[(4,(vI z17.1))]⟩:Env)) (O':=(Zu (O.upd i0 (some ⟨false,68,1,1,[(vI z17.2)]⟩)) n [none])) (n':=(n+1)) (Fit2.of (Yb hU rfl rfl ?_) (by omega)) ?_
   ·exact Xx hi0 hk0
   refine Y7 (k:=1) (k':=1) hU [0] [0] rfl rfl rfl rfl ⟨rfl,rfl⟩ ?_
   exact Xx hi0 hk0
  simp only [push_cast,seval,↓reduceIte,Zh,Try.results66,hi0,hk0,hN0,hN]
 dsimp only [Ux] at hw h
 refine Y1 hw ?_
 try simp only [Y9,Yp,↓reduceIte,Nat.reduceEqDiff]
 refine zD [] [false] ?_
 refine Kf [4] hi0 hk0 ?_
 refine zW ?_
 have h:=Option.some.inj h;subst h
 refine X1 (k:=0) (i:=i0) (q1:=⟨false,68,1,1,[(vI z17)]⟩) (L3:=[none]) (E2:=(⟨58,[],[(4,(vI 0))]⟩:Env)) (n3:=(n+1)) (.inr rfl) hU rfl [(vI 0)] ?_ ?_
 ·refine Fit2.trans (E':=(⟨58,[],[(4,(vI 0))]⟩:Env)) (O':=(Zu (O.upd i0 (some ⟨false,68,1,1,[(vI z17)]⟩)) n [none])) (n':=(n+1)) (Fit2.of (Yb hU rfl rfl ?_) (by omega)) ?_
  ·exact Xx hi0 hk0
  refine Y7 (k:=1) (k':=1) hU [0] [0] rfl rfl rfl rfl ⟨rfl,rfl⟩ ?_
  exact Xx hi0 hk0
 simp only [push_cast,seval,↓reduceIte,Zh,Try.results66,hi0,hk0,hN0,hN]
theorem Zmc:∀ k,(Gq ((Zk k).1))∧(Zaj ((Zk k).2.1))∧(V9 ((Zk k).2.2)):=fun k=>by
 induction k with
 | zero=>exact ⟨@fun a0 a1 r O n i0 hi0 ho0 h=>(nomatch (show (none:Option _)=some _ from h)),@fun a0 a1 a2 r O n i0 hi0 ho0 h=>(nomatch (show (none:Option _)=some _ from h)),@fun a0 a1 r O n i0 hi0 ho0 h=>(nomatch (show (none:Option _)=some _ from h))⟩
 | succ k ih=>exact ⟨@fun a0 a1 r O n i0 hi0 ho0 h=>Zn0 (ih.1) (ih.2.1) (ih.2.2) hi0 ho0 h,@fun a0 a1 a2 r O n i0 hi0 ho0 h=>Zq4 (ih.1) (ih.2.1) (ih.2.2) hi0 ho0 h,@fun a0 a1 r O n i0 hi0 ho0 h=>Zmi (ih.1) (ih.2.1) (ih.2.2) hi0 ho0 h⟩
theorem Zqy {a0:Ze} {a1:Za} {r:(Int×Ze)} {O:Objs} {n:Nat} {i0:Nat} (hi0:i0 < n) (ho0:O i0=some ⟨false,68,1,1,[(vI a0.left)]⟩) (h:Gh a0 a1=some r):GTo Try.prog 33 [.ref i0 0,.agg (Zf a1)] O n ((vI r.1)) (Zu (O.upd i0 (some ⟨false,68,1,1,[(vI r.2.left)]⟩)) n []) (n+0):=by
 obtain ⟨k,hk⟩:=Zix h
 exact (Zmc k).1 hi0 ho0 hk
theorem Zxl {a0:Za} {r:Zs} {O:Objs} {n:Nat} (h:Ji a0=some r):GTo Try.prog 68 [.agg (Zf a0)] O n (.agg (Yd r)) O n:=by
 unfold Ji at h
 refine zFn Try.call68 Try.func68 fun hU hN0 hN => ?_
 show W _ _ _ _ ⟨42,[],[(0,.agg (Zf a0))]⟩ (Zu O n []) _
 refine zQ [1,2] ?_
 refine Zc ?_
 refine Zc ?_
 obtain ⟨y2,hy2,h⟩:=bC h
 refine zCd (Qe hy2) [1,2,9] [true,true] ?_
 refine Yo ?_
 refine zQ [1,2,9,10] ?_
 refine Zm (t:=(y2 == 1)) rfl (fun c16 => ?_) (fun c16 => ?_)
 ·replace h:=Zr c16 h
  refine Zc ?_
  obtain ⟨y4,hy4,h⟩:=bC h
  refine zCd (Zmd hy4) [1,2,3] [true,true] ?_
  refine Zc ?_
  obtain ⟨y6,hy6,h⟩:=bC h
  refine zCd (Zfb hy6) [2] [false,true] ?_
  exact Z5 [.agg [(vI 1),(vI 0),(vI y6),(vI y4.1),(vI 0),(vI 0),(vI 0),(vB false)]]
 replace h:=Zq c16 h
 refine zQ [1,2,21] ?_
 refine Zm (t:=(y2 == 9)) rfl (fun c15 => ?_) (fun c15 => ?_)
 ·replace h:=Zr c15 h
  refine Zc ?_
  obtain ⟨y8,hy8,h⟩:=bC h
  refine zCd (Zjv hy8) [1,2,5,6] [true,true] ?_
  refine Zc ?_
  obtain ⟨y10,hy10,h⟩:=bC h
  refine zCd (Yj hy10) [2] [false,true] ?_
  exact Z5 [.agg [(vI 2),(vI 0),(vI 0),(vI 0),(vI 7),(vI (IntKind.i64.wrap (y10 * (IntKind.i64.wrap (y8.1+y8.2.1))))),(vI 0),(vB false)]]
 replace h:=Zq c15 h
 refine Qo [1,2] [true,true] ?_
 refine Zc ?_
 obtain ⟨y13,hy13,h⟩:=bC h
 obtain ⟨y14,hy14,h⟩:=bC h
 refine Zbl Zx (by kernel_rfl) [false,false,false,false,false,false,true] [] (by kernel_rfl) ?_
 refine zS ?_
 refine PCall.of (Qe hy13) ?_
 refine zS ?_
 refine PCall.of (Yj hy14) ?_
 refine zS ?_
 refine zD [2] [false,true] ?_
 exact Z5 [.agg [(vI 2),(vI 0),(vI 0),(vI 0),(vI (IntKind.i64.wrap (y13 - 2))),(vI y14),(vI 0),(vB false)]]
theorem Zi2 {a0:Zd} {a1:Int} {a2:Za} {a3:Int} {r:Zd} {O:Objs} {n:Nat} {i0 j0_0:Nat} (hi0:i0 < n) (Gc:j0_0 < n) (Jj:i0≠j0_0) (ho0:O i0=some ⟨false,72,2,1,[.row j0_0 a0.words.length,(vI a0.next)]⟩) (Ug:O j0_0=some (oR 49 1 (eI .u64) a0.words)) (h:Q8 a0 a1 a2 a3=some r):GTo Try.prog 97 [.ref i0 0,(vI a1),.agg (Zf a2),(vI a3)] O n (.tup []) (Zu ((O.upd j0_0 none).upd i0 (some ⟨false,72,2,1,[.row n r.words.length,(vI r.next)]⟩)) n [some (oR 49 1 (eI .u64) r.words)]) (n+1):=by
 unfold Q8 at h
 refine Zkf Zx Try.call97 Try.func97 rfl (Nat.le_of_ble_eq_true rfl) (by omega) fun hU => ?_
 have e0:=Zli (ba:=n) (E:=⟨25,[],Zm1 0 [.ref i0 0,.val (.int .i64 a1),.agg [(gP Zo a2.a),.val (.int .i64 a2.kind),.val (.int .i64 a2.segment),.val (.int .i64 a2.at_),.val (.int .i64 a2.words),.val (.int .i64 a2.ptrs),.val (.int .i64 a2.count),.val (.int .i64 a2.code),.val (.int .i64 a2.index)],.val (.int .i64 a3)]⟩) (O:=(Zu O n [])) (n:=n) (i:=i0) (j:=j0_0) (k:=0) (len:=a0.words.length) (q:=⟨false,72,2,1,[.row j0_0 a0.words.length,.val (.int .i64 a0.next)]⟩) (qj:=⟨true,49,1,a0.words.length,fl (eI .u64) a0.words⟩) (by rw [Xv _ hi0];first | exact ho0 | exact Y4 _ _ _) rfl (by rw [Xv _ Gc];exact Ug) Jj (by omega)
 simp only [Je _ _ Gc,Je _ _ hi0,Jn,Qs,Zb8,Zug Jj,List.set_cons_zero,List.set_cons_succ,List.cons_append,List.nil_append,List.length_cons,List.length_nil,Nat.zero_add,Nat.reduceAdd,Nat.add_assoc] at e0
 refine Gv e0 ?_
 have hU:=(Und.drop hU j0_0)
 have hk0:∀ k,i0 < n+k:=fun k=>by omega
 have hN0:∀ o,Objs.upd (O.upd j0_0 none) i0 o n=none:=fun o=>Qt hU hi0 _ (Nat.le_refl _)
 have hN:∀ o k,Objs.upd (O.upd j0_0 none) i0 o (n+k)=none:=fun o k=>Qt hU hi0 _ (Nat.le_add_right _ _)
 show W _ _ _ _ ⟨25,[],[(0,.ref i0 0),(1,(vI a1)),(2,.agg (Zf a2)),(3,(vI a3))]⟩ (Zu ((O.upd j0_0 none).upd i0 (some ⟨false,72,2,1,[.row n a0.words.length,(vI a0.next)]⟩)) n [some (oR 49 1 (eI .u64) a0.words)]) _
 refine Kf [0,1,3,6] hi0 hk0 ?_
 refine Kf [0,1,6,9,10] hi0 hk0 ?_
 refine zD [0,1,6,9,10] [true,true] ?_
 obtain ⟨z5,hz5,h⟩:=bC h
 refine Y1 (E':=⟨25,[],[]⟩) (O':=(Zu ((O.upd j0_0 none).upd i0 (some ⟨false,72,2,1,[.row n z5.length,(vI a0.next)]⟩)) n [some (oR 49 1 (eI .u64) z5),none])) (n0:=(n+2)) ?_ ?_
 ·refine Xj hz5 (fun s0_=>⟨25,[],[(0,.ref i0 0),(1,(vI a1)),(6,.ref (n+1) 0),(9,(vI a3)),(10,(vI s0_.1))]⟩) (fun s0_=>(Zu ((O.upd j0_0 none).upd i0 (some ⟨false,72,2,1,[.row n s0_.2.length,(vI a0.next)]⟩)) n [some (oR 49 1 (eI .u64) s0_.2),some ⟨false,40,9,1,(Zf a2)⟩])) (fun z5=>JX 0 n (⟨25,[],[]⟩:Env) (Zu ((O.upd j0_0 none).upd i0 (some ⟨false,72,2,1,[.row n z5.length,(vI a0.next)]⟩)) n [some (oR 49 1 (eI .u64) z5),none]) (n+2)) ?_
  intro s0_ x0_ hs0_
  unfold X8 at hs0_
  try dsimp only
  refine Kf [0,1,6,9,10,11] hi0 hk0 ?_
  refine Zc ?_
  refine Zm (t:=(decide (s0_.1 < a3))) rfl (fun c4 => ?_) (fun c4 => ?_)
  ·replace hs0_:=Zr c4 hs0_
   refine Qo [0,1,6,9,10] [true,true] ?_
   refine Zc ?_
   refine Yo ?_
   refine Kf [0,1,6,8,9,10] hi0 hk0 ?_
   obtain ⟨y1,hy1,hs0_⟩:=bC hs0_
   obtain ⟨x2,hx2,ax2,bx2,cx2,hs0_⟩:=bE (f:=(eI .u64)) Ke (fun _=>rfl) (by decide) hs0_
   have gu3:Va (fl (eI .u64) s0_.2) [.val (.int .u64 y1)] (Int.toNat (IntKind.i64.wrap (a1+s0_.1)) * 1)=some (fl (eI .u64) (Xu s0_.2 (IntKind.i64.wrap (a1+s0_.1)) y1)):=Zcb (f:=(eI .u64)) (ti:=⟨.bool,1,0,[],false⟩) (x:=y1) (fun _=>rfl) (Zad hx2)
   refine Zbl Zx (by kernel_rfl) [false,false,false,false,false,false,false,false,false,false,false,true] [] (by kernel_rfl) ?_
   refine zF6 ax2 bx2 cx2 gu3 hi0 hk0 ?_
   refine PCall.of (Zd6 hy1) ?_
   refine zF6 ax2 bx2 cx2 gu3 hi0 hk0 ?_
   refine zD [0,1,6,9,10] [true,true] ?_
   refine Q0 [] hi0 hk0 ?_
   have hs0_:=Option.some.inj hs0_;subst hs0_
   refine And.intro rfl (Fit2.of (Yb hU rfl rfl ?_) (by omega))
   exact Xx hi0 hk0
  replace hs0_:=Zq c4 hs0_
  refine zXt ?_
  have hs0_:=Option.some.inj hs0_;subst hs0_
  refine And.intro (fun h=>by cases h) (And.intro rfl (Fit2.of (Yb hU rfl rfl ?_) (by omega)))
  exact Xx hi0 hk0
 try simp only [Y9,Yp,↓reduceIte,Nat.reduceEqDiff]
 have h:=Option.some.inj h;subst h
 refine X1 (k:=1) (i:=i0) (q1:=⟨false,72,2,1,[.row n z5.length,(vI a0.next)]⟩) (L3:=[some (oR 49 1 (eI .u64) z5),none]) (E2:=(⟨25,[],[]⟩:Env)) (n3:=(n+2)) (.inl rfl) hU rfl [] ?_ ?_
 ·refine Fit2.trans (E':=(⟨25,[],[]⟩:Env)) (O':=(Zu ((O.upd j0_0 none).upd i0 (some ⟨false,72,2,1,[.row n z5.length,(vI a0.next)]⟩)) n [some (oR 49 1 (eI .u64) z5),none])) (n':=(n+2)) (Fit2.of (Yb hU rfl rfl ?_) (by omega)) ?_
  ·exact Xx hi0 hk0
  refine Y7 (k:=2) (k':=2) hU [0,1] [0,0] rfl rfl rfl rfl ⟨rfl,rfl⟩ ?_
  exact Xx hi0 hk0
 simp only [push_cast,seval,↓reduceIte,Zh,Try.results97,hi0,hk0,hN0,hN]
theorem Zm5 {a0:Zd} {a1:Int} {a2:Za} {r:Zd} {O:Objs} {n:Nat} {i0 j0_0:Nat} (hi0:i0 < n) (Gc:j0_0 < n) (Jj:i0≠j0_0) (ho0:O i0=some ⟨false,72,2,1,[.row j0_0 a0.words.length,(vI a0.next)]⟩) (Ug:O j0_0=some (oR 49 1 (eI .u64) a0.words)) (h:V4 a0 a1 a2=some r):GTo Try.prog 100 [.ref i0 0,(vI a1),.agg (Zf a2)] O n (.tup []) (Zu ((O.upd j0_0 none).upd i0 (some ⟨false,72,2,1,[.row n r.words.length,(vI r.next)]⟩)) n [some (oR 49 1 (eI .u64) r.words)]) (n+1):=by
 unfold V4 at h
 refine Zkf Zx Try.call100 Try.func100 rfl (Nat.le_of_ble_eq_true rfl) (by omega) fun hU => ?_
 have e0:=Zli (ba:=n) (E:=⟨45,[],Zm1 0 [.ref i0 0,.val (.int .i64 a1),.agg [(gP Zo a2.a),.val (.int .i64 a2.kind),.val (.int .i64 a2.segment),.val (.int .i64 a2.at_),.val (.int .i64 a2.words),.val (.int .i64 a2.ptrs),.val (.int .i64 a2.count),.val (.int .i64 a2.code),.val (.int .i64 a2.index)]]⟩) (O:=(Zu O n [])) (n:=n) (i:=i0) (j:=j0_0) (k:=0) (len:=a0.words.length) (q:=⟨false,72,2,1,[.row j0_0 a0.words.length,.val (.int .i64 a0.next)]⟩) (qj:=⟨true,49,1,a0.words.length,fl (eI .u64) a0.words⟩) (by rw [Xv _ hi0];first | exact ho0 | exact Y4 _ _ _) rfl (by rw [Xv _ Gc];exact Ug) Jj (by omega)
 simp only [Je _ _ Gc,Je _ _ hi0,Jn,Qs,Zb8,Zug Jj,List.set_cons_zero,List.set_cons_succ,List.cons_append,List.nil_append,List.length_cons,List.length_nil,Nat.zero_add,Nat.reduceAdd,Nat.add_assoc] at e0
 refine Gv e0 ?_
 have hU:=(Und.drop hU j0_0)
 have hk0:∀ k,i0 < n+k:=fun k=>by omega
 have hN0:∀ o,Objs.upd (O.upd j0_0 none) i0 o n=none:=fun o=>Qt hU hi0 _ (Nat.le_refl _)
 have hN:∀ o k,Objs.upd (O.upd j0_0 none) i0 o (n+k)=none:=fun o k=>Qt hU hi0 _ (Nat.le_add_right _ _)
 show W _ _ _ _ ⟨45,[],[(0,.ref i0 0),(1,(vI a1)),(2,.agg (Zf a2))]⟩ (Zu ((O.upd j0_0 none).upd i0 (some ⟨false,72,2,1,[.row n a0.words.length,(vI a0.next)]⟩)) n [some (oR 49 1 (eI .u64) a0.words)]) _
 refine Kf [0,1,5] hi0 hk0 ?_
 refine Kf [0,1,5,6] hi0 hk0 ?_
 refine Zc ?_
 refine Zc ?_
 obtain ⟨y2,hy2,h⟩:=bC h
 refine Q0 [] hi0 hk0 ?_
 refine (Yj hy2).then ?_
 refine zX2 hi0 hk0 ?_
 refine zD [0,1,5,6,13,14] [true,true] ?_
 refine zD [0,1,5,6,13,14] [true,true] ?_
 refine Gv (E':=(⟨45,[],[(0,.ref i0 0),(1,(vI a1)),(5,.ref (n+1) 0),(6,.row (n+2) ([]:List Int).length),(13,(vI y2)),(14,(vI 0))]⟩:Env)) (O':=(Zu ((O.upd j0_0 none).upd i0 (some ⟨false,72,2,1,[.row n a0.words.length,(vI a0.next)]⟩)) n [some (oR 49 1 (eI .u64) a0.words),some ⟨false,40,9,1,(Zf a2)⟩,some (oR 49 1 (eI .u64) ([]:List Int)),none])) (n':=(n+4)) ?_ ?_
 ·refine Fit2.trans (E':=(⟨45,[],[(0,.ref i0 0),(1,(vI a1)),(5,.ref (n+1) 0),(6,nV),(13,(vI y2)),(14,(vI 0))]⟩:Env)) (O':=(Zu ((O.upd j0_0 none).upd i0 (some ⟨false,72,2,1,[.row n a0.words.length,(vI a0.next)]⟩)) n [some (oR 49 1 (eI .u64) a0.words),some ⟨false,40,9,1,(Zf a2)⟩])) (n':=(n+2)) (Fit2.of (Yb hU rfl rfl ?_) (by omega)) ?_
  ·exact Xx hi0 hk0
  refine Fit2.trans (Zoa 6 49 1 rfl (by omega)) ?_
  simp only [Jn,Qs,Zdt,Zct,List.set_cons_zero,List.set_cons_succ,List.cons_append,List.nil_append,List.length_cons,List.length_nil,Nat.zero_add,Nat.reduceAdd,Nat.reduceLT,Nat.add_assoc,Je,hi0,hk0,hN0,hN]
  refine Fit2.trans (E':=(⟨45,[],[(0,.ref i0 0),(1,(vI a1)),(5,.ref (n+1) 0),(6,.row (n+2) ([]:List Int).length),(13,(vI y2)),(14,(vI 0))]⟩:Env)) (O':=(Zu ((O.upd j0_0 none).upd i0 (some ⟨false,72,2,1,[.row n a0.words.length,(vI a0.next)]⟩)) n [some (oR 49 1 (eI .u64) a0.words),some ⟨false,40,9,1,(Zf a2)⟩,some (oR 49 1 (eI .u64) ([]:List Int))])) (n':=(n+3)) (Fit2.of (Yb hU rfl rfl ?_) (by omega)) ?_
  ·exact Xx hi0 hk0
  refine Y7 (k:=3) (k':=4) hU [0,1,2] [0,1,2,0] rfl rfl rfl rfl ⟨rfl,rfl⟩ ?_
  exact Xx hi0 hk0
 obtain ⟨z8,hz8,h⟩:=bC h
 refine Y1 (E':=⟨45,[],[(0,.ref i0 0),(1,(vI a1)),(5,.ref (n+1) 0),(6,.row (n+2) z8.length)]⟩) (O':=(Zu ((O.upd j0_0 none).upd i0 (some ⟨false,72,2,1,[.row n a0.words.length,(vI a0.next)]⟩)) n [some (oR 49 1 (eI .u64) a0.words),some ⟨false,40,9,1,(Zf a2)⟩,some (oR 49 1 (eI .u64) z8),none])) (n0:=(n+4)) ?_ ?_
 ·refine Xj hz8 (fun s0_=>⟨45,[],[(0,.ref i0 0),(1,(vI a1)),(5,.ref (n+1) 0),(6,.row (n+2) s0_.2.length),(13,(vI y2)),(14,(vI s0_.1))]⟩) (fun s0_=>(Zu ((O.upd j0_0 none).upd i0 (some ⟨false,72,2,1,[.row n a0.words.length,(vI a0.next)]⟩)) n [some (oR 49 1 (eI .u64) a0.words),some ⟨false,40,9,1,(Zf a2)⟩,some (oR 49 1 (eI .u64) s0_.2),none])) (fun z8=>JX 0 n (⟨45,[],[(0,.ref i0 0),(1,(vI a1)),(5,.ref (n+1) 0),(6,.row (n+2) z8.length)]⟩:Env) (Zu ((O.upd j0_0 none).upd i0 (some ⟨false,72,2,1,[.row n a0.words.length,(vI a0.next)]⟩)) n [some (oR 49 1 (eI .u64) a0.words),some ⟨false,40,9,1,(Zf a2)⟩,some (oR 49 1 (eI .u64) z8),none]) (n+4)) ?_
  intro s0_ x0_ hs0_
  unfold Jy at hs0_
  try dsimp only
  refine Kf [0,1,5,6,13,14,15] hi0 hk0 ?_
  refine Zc ?_
  refine Zm (t:=(decide (s0_.1 < y2))) rfl (fun c7 => ?_) (fun c7 => ?_)
  ·replace hs0_:=Zr c7 hs0_
   refine Qo [0,1,5,6,13,14] [true,true,true,false] ?_
   refine Zc ?_
   refine Yo ?_
   refine Kf [0,1,5,6,7,13,14] hi0 hk0 ?_
   refine Zc ?_
   obtain ⟨y4,hy4,hs0_⟩:=bC hs0_
   refine Q0 [] hi0 hk0 ?_
   refine (Ja hy4).then ?_
   refine zX2 hi0 hk0 ?_
   refine zD [0,1,5,6,8,13,14] [true,true,true,false,true] ?_
   obtain ⟨y5,hy5,hs0_⟩:=bC hs0_
   obtain ⟨l6,pl6,ql6,el6,hs0_⟩:=bA (k:=1) rfl hs0_
   refine Yc8 [] pl6 ql6 el6 hi0 hk0 ?_
   refine (Zd6 hy5).then ?_
   refine zX5 pl6 ql6 el6 hi0 hk0 ?_
   refine Zav ⟨45,[],[(0,.ref i0 0),(1,(vI a1)),(5,.ref (n+1) 0),(6,.row (n+2) l6.length),(13,(vI y2)),(14,(vI s0_.1))]⟩ (Zu ((O.upd j0_0 none).upd i0 (some ⟨false,72,2,1,[.row n a0.words.length,(vI a0.next)]⟩)) n [some (oR 49 1 (eI .u64) a0.words),some ⟨false,40,9,1,(Zf a2)⟩,some (oR 49 1 (eI .u64) l6),none,none,none]) (Yb hU rfl rfl ?_) ?_
   ·exact Yer pl6 ql6 el6 hi0 hk0
   refine Q0 [] hi0 hk0 ?_
   have hs0_:=Option.some.inj hs0_;subst hs0_
   refine And.intro rfl (Fit2.of (Yb hU rfl rfl ?_) (by omega))
   exact Xx hi0 hk0
  replace hs0_:=Zq c7 hs0_
  refine zXt ?_
  have hs0_:=Option.some.inj hs0_;subst hs0_
  refine And.intro (fun h=>by cases h) (And.intro rfl (Fit2.of (Yb hU rfl rfl ?_) (by omega)))
  exact Xx hi0 hk0
 try simp only [Y9,Yp,↓reduceIte,Nat.reduceEqDiff]
 refine zD [0,1,5,6] [true,true,true,false] ?_
 refine Zav ⟨45,[],[(0,.ref i0 0),(1,(vI a1)),(5,.ref (n+1) 0),(6,(sL (eI .u64) z8))]⟩ (Zu ((O.upd j0_0 none).upd i0 (some ⟨false,72,2,1,[.row n a0.words.length,(vI a0.next)]⟩)) n [some (oR 49 1 (eI .u64) a0.words),some ⟨false,40,9,1,(Zf a2)⟩,none,none]) (Yb hU rfl rfl ?_) ?_
 ·exact Xx hi0 hk0
 refine Zc ?_
 obtain ⟨y12,hy12,h⟩:=bC h
 obtain ⟨y13,hy13,h⟩:=bC h
 refine Q0 [] hi0 hk0 ?_
 refine (Qe hy12).then ?_
 refine zX2 hi0 hk0 ?_
 refine (Z2j hy13).then ?_
 refine zX2 hi0 hk0 ?_
 refine zD [0,1,10] [true,false,false,false] ?_
 obtain ⟨pu14,h⟩:=bG h
 have su14:=fun j=>Z0d (T:=Jm) (j:=j) Zfk Ke pu14
 have g15:=Z0c (f:=(eI .u64)) a0.words y13.1 a1 (fun _=>rfl) pu14.2.1 pu14.2.2
 have mg15:=Nat.mul_one (List.length y13.1)
 refine Z3 Zx [] ?_
 simp only [push_cast,seval,↓reduceIte,Zh,pu14.1,pu14.2.1,pu14.2.2,su14,g15,mg15,hi0,hk0,hN0,hN]
 have h:=Option.some.inj h;subst h
 refine X1 (k:=1) (i:=i0) (q1:=⟨false,72,2,1,[.row n (Zjj a0.words a1 y13.1).length,(vI a0.next)]⟩) (L3:=[some (oR 49 1 (eI .u64) (Zjj a0.words a1 y13.1)),none]) (E2:=(⟨45,[],[]⟩:Env)) (n3:=(n+2)) (.inl rfl) hU rfl [] ?_ ?_
 ·refine Fit2.trans (E':=(⟨45,[],[]⟩:Env)) (O':=(Zu ((O.upd j0_0 none).upd i0 (some ⟨false,72,2,1,[.row n (Zjj a0.words a1 y13.1).length,(vI a0.next)]⟩)) n [some (oR 49 1 (eI .u64) (Zjj a0.words a1 y13.1)),none,none,none])) (n':=(n+4)) (Fit2.of (Yb hU rfl rfl ?_) (by omega)) ?_
  ·simp only [push_cast,seval,↓reduceIte,Zh,pu14.1,pu14.2.1,pu14.2.2,su14,g15,mg15,hi0,hk0,hN0,hN]
  refine Y7 (k:=4) (k':=2) hU [0,1,1,1] [0,0] rfl rfl rfl rfl ⟨rfl,rfl⟩ ?_
  exact Xx hi0 hk0
 simp only [push_cast,seval,↓reduceIte,Zh,Try.results100,hi0,hk0,hN0,hN]
end Go.Proofs.Ytnapihlnlajlpaa
