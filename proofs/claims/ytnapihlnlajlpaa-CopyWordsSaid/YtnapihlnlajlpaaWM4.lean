/- Part WM4 of this seat's mirrors: functions of the seat's program, and the plain functions that they are; each theorem bears its own conditions. -/
import Derived.Test.YtnapihlnlajlpaaWE
import Derived.Test.YtnapihlnlajlpaaWM3
namespace Go.Proofs.Ytnapihlnlajlpaa
open Go.RowKit
set_option linter.unusedVariables false
set_option linter.unusedSimpArgs false
set_option maxRecDepth 100000
set_option maxHeartbeats 4000000
attribute [local push_cast] Try.results106 Try.results107 Try.results25 Try.results26 Try.results51 Try.results52 Try.results53 Try.results54 Try.results55 Try.results56 Try.results84 Try.results85 Try.results86 Try.results87 Try.results88 vI vB nV sL oR Xa Zi Zv Yd Zf Zop Zoo Zo8 Zo7 Y9 Yp Zkh Zf0 Zfz onW X2 Zdo Zdd Zq5 Znd Zif Zij Zie Zii Zlh Zlc Zih Zlg Zlf Zle Zig Zla Zgq evS wok Q1 Op.operands Call.operands gop onK onP atK List.all_cons List.all_nil Bool.and_true Bool.true_and Bool.and_self Value.oneCell' List.take_zero List.take_succ_cons List.take_nil List.drop_zero List.drop_succ_cons List.drop_nil List.append_nil Nat.add_zero Nat.zero_add Gb Yi ev Q4 Zm1 Zoi Zoh Zon Zol Zom Zoj Zok Zog Zsf Zs9 Zv9 Ziv Zcz Ziu Zdj Zh3 Zf2 Zd8 Zed Zfw Zfs Zeb Zfv Zfu Zft Zea Zfq Zd9 Zec Zdb Zfr Zl7 Zf1 Zap Zhs Zaq Zjt Zit Zvd bLo bHi bMx Zc0 Zjs Zxg Zir Zkg Ze0 Uu Zsg Zxh Zhr Zez Zxj Zcy Zz7 Zko Zks Zkn Zkr Zoz Zov Zot Zh5 Zkp Zoy Zox Zow Zkq Zou Zkj Zrh Zk6 Zgl Zgk pop TK.isAgg Zo1 Zo5 Zo0 Zo4 Zkz Ztl Zth Zo3 Ztk Ztj Zti Zo2 Ztg G.under G.unders List.getD_cons_zero List.getD_cons_succ List.set_cons_zero List.set_cons_succ List.map_cons List.map_nil List.toList_toArray Array.toList_append Option.toArray_none Option.toArray_some Array.toList_map Option.map_some Option.map_none Option.bind_some Option.bind_none List.getElem?_cons_zero List.getElem?_cons_succ List.getElem?_nil List.nil_append List.cons_append List.replicate_succ List.replicate_zero List.length_cons List.length_nil and_true true_and and_false false_and Bool.true_eq_false Bool.false_eq_true forall_const false_implies implies_true IntKind.bits if_true if_false ite_true ite_false eq_self true_implies false_or or_false or_true true_or not_true_eq_false not_false_eq_true decide_true decide_false decide_eq_true_eq decide_eq_false_iff_not beq_iff_eq bne_iff_ne ne_eq Bool.not_eq_true Bool.not_eq_false beq_eq_false_iff_ne bne_eq_false_iff_eq beq_self_eq_true bne_self_eq_false Option.some.injEq exists_eq_left' exists_eq_left ge_iff_le gt_iff_lt decide_not Bool.not_true Bool.not_false imp_self Ztd cond_true cond_false Z5y Z5x Bool.not_not Bool.and_false Bool.false_and Bool.or_true Bool.true_or Bool.or_false Bool.false_or Zcs Zji Zdt Zct Jn Qs Option.join_some Nat.add_assoc Int.toNat_natCast eI eB eS eL Xm Zfy Zeg Zos Zoq Zor Z0t Z2l Zgh Zel Zpe Zpc Zpd Zwo Zm0 Zuv Zmw Zvc Zca Zre List.length_append G.agg.injEq G.row.injEq G.ref.injEq G.val.injEq G.sl.injEq G.tup.injEq Value.int.injEq Value.bool.injEq Value.string.injEq List.cons.injEq exists_and_left exists_const List.flatten_cons List.flatten_nil Int.le_refl Nat.le_refl Zb8 Xv Je Bool.not_eq_true' Bool.not_eq_false' Zqo Zhb Zuj Zun Zui Zum Zzt Zzo List.size_toArray Zrv Zra G.ren G.rens Ztn Zgm Zpj Zoe Zof Zlb Zuo Zge G.fn.injEq Zjd Zlz Zqn Zzp Zly Zul Zzs Zzr Zzq Zuk Zte Zx8 Option.join_none Y4 Zac undef Zkl Arr.len Arr.put_eq Zgg Zh7 Zgf Zek Zpb Zo9 Zpa onB Z0s Zse Qa Zdc Zj0 Zj1 Zj2 Zj3 Zj4 Zj5 Zh6 Zia Zh8 Zgj Zem Zh9 Zk4 Zk3 Zk2 Zk1 Z2k Z3s Zwn Zve Vv Zwi Zrn Zib Zgi Zxq Zrb Zio Zke Zdx Zi5 Zj6 Zj7 Zj8 Zj9 Zhv Zhw Zhx Zhy Zhz Zh0 Zh1 Zfm prT Ze2 Z6t Zt7 Z2x Zt8 Z6u Zt9 Z6v Zua Z6w Zub Z6x Zuc Z6y Zud Z6z Zue Zym Zpn Zyn Zpo Zyo Zpp Zyp Zpq Zyq Zpr Zyr Zps Zys Zpt Zyt Zpu Zyu Zpv Zyv Zpw Zyw Zpx Zco Zfk Zmy Zms Zyx Zpy Zb7 Zpz Zyy Zp0 Zyz Zp1 Zy0 Zp2 Zy1 Zmt Zy2 Zp3 Zy3 Zp4 Zy4 Zp5 Ke Zp6 Zy5 Zp7 Zy6 Zp8 Zy7 Zp9 Zy8 Zqa Zy9 Zqb Zza Zqc Zzb Zqd Zzc Zqe Zzd Zqf Zze Zqg Zzf Zqh Zzg Zqi Zzh Zqj Zzi Zqk Zzj Zql Zzk Zqm Zts Zlj Ztt Zlk Ztu Zll Ztv Zlm Ztw Zln Ztx Zlo Zty Zlp Ztz Zlq Zt0 Zlr Zt1 Zls Zt2 Zlt Zt3 Zlu Zt4 Zlv Zt5 Zlw Zt6 Zlx Zn Xd Zgw Zgu Zf4 Zgd Zgy Zes Zeq Zeo Zgs U7 U6 Uy U0 U8 Ue Ud Uc U5 Zgv Zgt Zf3 Zgc Zgx Zer Zep Zen Zgr Zef Gw Jf Zch Zcg Zcc Zce Zci Zbh Zbe Zbd Zcf K7 K8 Zo Ky Kx Kh Ko Kz J7 J6 J5 Ku Zee Za1 Yh Vp Vn Vc Vj Vr Kw Kt Kr Vl Yg Vo Vm Vb Vi Vq Kv Ks Kq Vk
theorem Zal {a0:Int} {a1:Int} {r:Int} {O:Objs} {n:Nat} (h:Qk a0 a1=some r):GTo Try.prog 51 [(vI a0),(vI a1)] O n ((vI r)) O n:=by
 unfold Qk at h
 refine zFn Try.call51 Try.func51 fun hU hN0 hN => ?_
 show W _ _ _ _ ⟨12,[],[(0,(vI a0)),(1,(vI a1))]⟩ (Zu O n []) _
 refine zQ [0,1] ?_
 refine Zc ?_
 refine zQ [0,1,6] ?_
 refine Zm (t:=(decide (a0 < 0))) rfl (fun c2 => ?_) (fun c2 => ?_)
 ·replace h:=Zr c2 h
  refine zQ [4] ?_
  exact Z5 [(vI 0)]
 replace h:=Zq c2 h
 refine Qo [0,1] [] ?_
 refine Zc ?_
 refine zQ [0,1,9] ?_
 refine Zm (t:=(decide (a1 < a0))) rfl (fun c1 => ?_) (fun c1 => ?_)
 ·replace h:=Zr c1 h
  refine zQ [4] ?_
  exact Z5 [(vI a1)]
 replace h:=Zq c1 h
 refine Qo [0] [] ?_
 refine zQ [4] ?_
 exact Z5 [(vI a0)]
theorem Zns {a0:Ya} {r:Ya} {O:Objs} {n:Nat} (h:Un a0=some r):GTo Try.prog 25 [.agg (Xa a0)] O n (.agg (Xa r)) O n:=by
 unfold Un at h
 refine zFn Try.call25 Try.func25 fun hU hN0 hN => ?_
 show W _ _ _ _ ⟨16,[],[(0,.agg (Xa a0))]⟩ (Zu O n []) _
 refine zQ [1,2] ?_
 refine Zc ?_
 obtain ⟨y5,hy5,h⟩:=bC h
 obtain ⟨y6,hy6,h⟩:=bC h
 obtain ⟨y7,hy7,h⟩:=bC h
 obtain ⟨y8,hy8,h⟩:=bC h
 refine Zbl Zx (by kernel_rfl) [false,false,false,false,false,false,false,false,false,false,false,false,false,true] [] (by kernel_rfl) ?_
 refine zS ?_
 refine PCall.of (Zal hy5) ?_
 refine zS ?_
 refine PCall.of (Zal hy6) ?_
 refine zS ?_
 refine PCall.of (Zal hy7) ?_
 refine zS ?_
 refine PCall.of (Zal hy8) ?_
 refine zS ?_
 refine zD [2] [false,true] ?_
 exact Z5 [.agg [(vI y5),(vI y6),(vI y7),(vI y8)]]
theorem Zak {a0:(List (List Int))} {a1:Int} {a2:Int} {r:Bool} {O:Objs} {n:Nat} (h:Jw a0 a1 a2=some r):GTo Try.prog 84 [(sL (eL (eI .u64)) a0),(vI a1),(vI a2)] O n ((vB r)) O n:=by
 unfold Jw at h
 refine zFn Try.call84 Try.func84 fun hU hN0 hN => ?_
 show W _ _ _ _ ⟨28,[],[(0,(sL (eL (eI .u64)) a0)),(1,(vI a1)),(2,(vI a2))]⟩ (Zu O n []) _
 refine zQ [0,1,2] ?_
 obtain ⟨z2,hz2,h⟩:=bC h
 refine Qb (E':=⟨28,[],[(6,(vB z2))]⟩) (O':=(Zu O n [])) (n0:=n) ?_ ?_
 ·rcases Bool.eq_false_or_eq_true (decide (0≤a1)) with c5 | c5
  ·replace hz2:=Zr c5 hz2
   rcases Bool.eq_false_or_eq_true (decide (a1 < (a0.length:Int))) with c6 | c6
   ·replace hz2:=Zr c6 hz2
    try rw [c6] at c5
    rcases Bool.eq_false_or_eq_true (decide (0≤a2)) with c7 | c7
    ·replace hz2:=Zr c7 hz2
     try rw [c7] at c5
     try rw [c7] at c6
     obtain ⟨x4,hx4,ax4,bx4,cx4,hz2⟩:=bE (f:=(eL (eI .u64))) Zco (fun _=>rfl) (by decide) hz2
     refine Z9f [none,none,none,none,none,none,some true,some true,some true,some true,some true,some true,some true] c5 c6 c7 ax4 bx4 cx4 ?_
     refine zG ?_
     exact Yba hz2 c5 c6 c7 ax4 bx4 cx4
    replace hz2:=Zq c7 hz2
    try rw [c7] at c5
    try rw [c7] at c6
    refine Zjr [none,none,none,none,none,none,some false,some false,some false,some false,some false,some false,some false] c5 c6 c7 ?_
    refine zG ?_
    exact Zxe hz2 c5 c6 c7
   replace hz2:=Zq c6 hz2
   try rw [c6] at c5
   refine Q0 [none,none,none,none,none,none,some false,some false,some false,some false,some false,some false,some false] c5 c6 ?_
   refine zG ?_
   exact Z5n hz2 c5 c6
  replace hz2:=Zq c5 hz2
  refine Zb9 [none,none,none,none,none,none,some false,some false,some false,some false,some false,some false,some false] c5 ?_
  refine zG ?_
  exact Zaw hz2 c5
 exact Z5 [(vB z2)]
theorem Xy {a0:Int} {a1:Int} {a2:Int} {r:Int} {O:Objs} {n:Nat} (h:Z6 a0 a1 a2=some r):GTo Try.prog 87 [.val (.int .u64 a0),(vI a1),(vI a2)] O n ((vI r)) O n:=by
 unfold Z6 at h
 refine zFn Try.call87 Try.func87 fun hU hN0 hN => ?_
 show W _ _ _ _ ⟨34,[],[(0,.val (.int .u64 a0)),(1,(vI a1)),(2,(vI a2))]⟩ (Zu O n []) _
 refine zQ [0,1,2] ?_
 refine Zc ?_
 refine zQd [0,1,2,7] [0,1,2,7] [] ?_
 obtain ⟨z2,hz2,h⟩:=bC h
 refine Y1 (E':=⟨34,[],[(0,.val (.int .u64 z2)),(2,(vI a2))]⟩) (O':=(Zu O n [])) (n0:=n) ?_ ?_
 ·refine Xj hz2 (fun s0_=>⟨34,[],[(0,.val (.int .u64 s0_.1)),(1,(vI a1)),(2,(vI a2)),(7,(vI s0_.2))]⟩) (fun s0_=>(Zu O n [])) (fun z2=>JX 0 n (⟨34,[],[(0,.val (.int .u64 z2)),(2,(vI a2))]⟩:Env) (Zu O n []) n) ?_
  intro s0_ x0_ hs0_
  unfold Gn at hs0_
  try dsimp only
  refine Zc ?_
  refine zQ [0,1,2,7,13] ?_
  refine Zm (t:=(decide (s0_.2 < a1))) rfl (fun c1 => ?_) (fun c1 => ?_)
  ·replace hs0_:=Zr c1 hs0_
   refine Qo [0,1,2,7] [] ?_
   refine Zc ?_
   refine Yo ?_
   refine zRd [0,1,2,7] [] ?_
   refine zR ?_
   exact zEn hs0_
  replace hs0_:=Zq c1 hs0_
  exact zEx hs0_
 try simp only [Y9,Yp,↓reduceIte,Nat.reduceEqDiff]
 refine zD [0,2] [] ?_
 refine zQ [0,2,8,9] ?_
 refine Zc ?_
 refine zQd [0,2,8,9,10] [0,2,8,9,10] [] ?_
 obtain ⟨z6,hz6,h⟩:=bC h
 refine Y1 (E':=⟨34,[],[(8,(vI z6))]⟩) (O':=(Zu O n [])) (n0:=n) ?_ ?_
 ·refine Xj hz6 (fun s1_=>⟨34,[],[(0,.val (.int .u64 s1_.1)),(2,(vI a2)),(8,(vI s1_.2.1)),(9,(vI s1_.2.2.1)),(10,(vI s1_.2.2.2))]⟩) (fun s1_=>(Zu O n [])) (fun z6=>JX 2 n (⟨34,[],[(8,(vI z6))]⟩:Env) (Zu O n []) n) ?_
  intro s1_ x1_ hs1_
  unfold Gp at hs1_
  try dsimp only
  refine Zc ?_
  refine zQ [0,2,8,9,10,20] ?_
  refine Zm (t:=(decide (s1_.2.2.2 < a2))) rfl (fun c5 => ?_) (fun c5 => ?_)
  ·replace hs1_:=Zr c5 hs1_
   refine Qo [0,2,8,9,10] [] ?_
   refine Zc ?_
   refine Yo ?_
   obtain ⟨z3,hz3,hs1_⟩:=bC hs1_
   refine Qb (E':=⟨34,[],[(0,.val (.int .u64 s1_.1)),(2,(vI a2)),(8,(vI z3)),(9,(vI s1_.2.2.1)),(10,(vI s1_.2.2.2))]⟩) (O':=(Zu O n [])) (n0:=n) ?_ ?_
   ·refine zQ [0,2,8,9,10,25] ?_
    refine Zm (t:=((Int.tmod s1_.1 2) == 1)) rfl (fun c4 => ?_) (fun c4 => ?_)
    ·replace hz3:=Zr c4 hz3
     refine zR ?_
     exact zEn hz3
    replace hz3:=Zq c4 hz3
    refine zK ?_
    exact zEn hz3
   refine zQ [0,2,8,9,10] ?_
   refine zRd [0,2,8,9,10] [] ?_
   refine zR ?_
   exact zEn hs1_
  replace hs1_:=Zq c5 hs1_
  exact zEx hs1_
 try simp only [Y9,Yp,↓reduceIte,Nat.reduceEqDiff]
 refine zD [8] [] ?_
 refine zQ [6] ?_
 exact Z5 [(vI z6)]
theorem Qy {a0:Int} {r:Zs} {O:Objs} {n:Nat} (h:Xl a0=some r):GTo Try.prog 53 [.val (.int .u64 a0)] O n (.agg (Yd r)) O n:=by
 unfold Xl at h
 refine zFn Try.call53 Try.func53 fun hU hN0 hN => ?_
 show W _ _ _ _ ⟨42,[],[(0,.val (.int .u64 a0))]⟩ (Zu O n []) _
 refine zQ [0,2] ?_
 refine Zc ?_
 refine zQ [0,2,5] ?_
 refine Zm (t:=(a0 == 0)) rfl (fun c24 => ?_) (fun c24 => ?_)
 ·replace h:=Zr c24 h
  refine Zc ?_
  refine zRd [2] [true] ?_
  exact Z5 [.agg [(vI 0),(vI 0),(vI 0),(vI 0),(vI 0),(vI 0),(vI 0),(vB false)]]
 replace h:=Zq c24 h
 refine Qo [0,2] [true] ?_
 refine Zc ?_
 obtain ⟨y2,hy2,h⟩:=bC h
 refine zCd (Xy hy2) [0,2,3] [true] ?_
 obtain ⟨z3,hz3,h⟩:=bC h
 refine Qb (E':=⟨42,[],[(0,.val (.int .u64 a0)),(2,.ref n 0),(3,(vI z3))]⟩) (O':=(Zu O n [some ⟨false,92,8,1,[(vI 0),(vI 0),(vI 0),(vI 0),(vI 0),(vI 0),(vI 0),(vB false)]⟩])) (n0:=(n+1)) ?_ ?_
 ·refine zQ [0,2,3,10] ?_
  refine Zm (t:=(decide (536870912≤y2))) rfl (fun c4 => ?_) (fun c4 => ?_)
  ·replace hz3:=Zr c4 hz3
   refine zR ?_
   exact zEn hz3
  replace hz3:=Zq c4 hz3
  refine zK ?_
  exact zEn hz3
 refine Zc ?_
 refine Zc ?_
 obtain ⟨y6,hy6,h⟩:=bC h
 refine zCd (Xy hy6) [0,2,3,14] [true] ?_
 refine Yo ?_
 refine zQ [0,2,3,14,15] ?_
 refine Zm (t:=(y6 == 0)) rfl (fun c23 => ?_) (fun c23 => ?_)
 ·replace h:=Zr c23 h
  refine Zc ?_
  obtain ⟨y9,hy9,h⟩:=bC h
  obtain ⟨y10,hy10,h⟩:=bC h
  refine zC (Xy hy9) ?_
  refine zTs (Xy hy10) ?_
  refine zD [2] [true] ?_
  exact Z5 [.agg [(vI 1),(vI z3),(vI y9),(vI y10),(vI 0),(vI 0),(vI 0),(vB false)]]
 replace h:=Zq c23 h
 refine zQ [0,2,3,14,23] ?_
 refine Zm (t:=(y6 == 1)) rfl (fun c22 => ?_) (fun c22 => ?_)
 ·replace h:=Zr c22 h
  refine Zc ?_
  obtain ⟨y13,hy13,h⟩:=bC h
  obtain ⟨y14,hy14,h⟩:=bC h
  refine zC (Xy hy13) ?_
  refine zTs (Xy hy14) ?_
  refine zD [2] [true] ?_
  exact Z5 [.agg [(vI 2),(vI z3),(vI 0),(vI 0),(vI y13),(vI y14),(vI 0),(vB false)]]
 replace h:=Zq c22 h
 refine zQ [0,2,31] ?_
 refine Zm (t:=(y6 == 2)) rfl (fun c21 => ?_) (fun c21 => ?_)
 ·replace h:=Zr c21 h
  refine Zc ?_
  obtain ⟨y18,hy18,h⟩:=bC h
  obtain ⟨y19,hy19,h⟩:=bC h
  obtain ⟨y20,hy20,h⟩:=bC h
  refine zC (Xy hy18) ?_
  refine zTs (Xy hy19) ?_
  refine zTs (Xy hy20) ?_
  refine zD [2] [true] ?_
  exact Z5 [.agg [(vI 3),(vI y18),(vI 0),(vI 0),(vI 0),(vI 0),(vI y19),(vB (y20 == 1))]]
 replace h:=Zq c21 h
 refine Qo [2] [true] ?_
 refine Zc ?_
 refine zRd [2] [true] ?_
 exact Z5 [.agg [(vI 4),(vI 0),(vI 0),(vI 0),(vI 0),(vI 0),(vI 0),(vB false)]]
theorem Zhm {a0:Zs} {r:Int} {O:Objs} {n:Nat} (h:Jk a0=some r):GTo Try.prog 85 [.agg (Yd a0)] O n ((vI r)) O n:=by
 unfold Jk at h
 refine zFn Try.call85 Try.func85 fun hU hN0 hN => ?_
 show W _ _ _ _ ⟨14,[],[(0,.agg (Yd a0))]⟩ (Zu O n []) _
 refine zQ [1] ?_
 refine Zc ?_
 refine zQ [1,5] ?_
 refine Zm (t:=(a0.Kind == 4)) rfl (fun c2 => ?_) (fun c2 => ?_)
 ·replace h:=Zr c2 h
  refine zQ [2] ?_
  exact Z5 [(vI 9)]
 replace h:=Zq c2 h
 refine Qo [1] [true] ?_
 refine Zc ?_
 refine zQD [13] [none,none,none] ?_
 refine Zm (t:=(cond (a0.Kind != 1) (a0.Kind != 2) false)) rfl (fun c1 => ?_) (fun c1 => ?_)
 ·replace h:=Zr c1 h
  refine zQ [2] ?_
  exact Z5 [(vI 8)]
 replace h:=Zq c1 h
 refine Qo [] [false] ?_
 refine zQ [2] ?_
 exact Z5 [(vI 0)]
theorem Zqu {a0:Zs} {r:Int} {O:Objs} {n:Nat} (h:Gf a0=some r):GTo Try.prog 106 [.agg (Yd a0)] O n ((vI r)) O n:=by
 unfold Gf at h
 refine zFn Try.call106 Try.func106 fun hU hN0 hN => ?_
 show W _ _ _ _ ⟨65,[],[(0,.agg (Yd a0))]⟩ (Zu O n []) _
 refine zQ [1] ?_
 refine Zc ?_
 refine zQ [1,6] ?_
 refine Zm (t:=(a0.Kind == 1)) rfl (fun c17 => ?_) (fun c17 => ?_)
 ·replace h:=Zr c17 h
  refine zQ [2] ?_
  exact Z5 [(vI (IntKind.i64.wrap (a0.Data+a0.Ptrs)))]
 replace h:=Zq c17 h
 refine Qo [1] [true] ?_
 refine Zc ?_
 refine zQ [1,14] ?_
 refine Zm (t:=(a0.Kind != 2)) rfl (fun c16 => ?_) (fun c16 => ?_)
 ·replace h:=Zr c16 h
  refine zQ [2] ?_
  exact Z5 [(vI (-1))]
 replace h:=Zq c16 h
 refine Qo [1] [true] ?_
 refine Zc ?_
 refine zQ [1,17] ?_
 refine Zm (t:=(a0.Code == 7)) rfl (fun c15 => ?_) (fun c15 => ?_)
 ·replace h:=Zr c15 h
  refine zQ [2] ?_
  exact Z5 [(vI (IntKind.i64.wrap (a0.Count+1)))]
 replace h:=Zq c15 h
 refine Qo [1] [true] ?_
 refine Zc ?_
 refine zQD [1,38] [none,none,none,none,none,none,none,none,none] ?_
 refine Zm (t:=(cond (cond (cond (decide (a0.Code < 0)) true (decide (6 < a0.Code))) true (decide (a0.Count < 0))) true (decide (536870912≤a0.Count)))) rfl (fun c14 => ?_) (fun c14 => ?_)
 ·replace h:=Zr c14 h
  refine zQ [2] ?_
  exact Z5 [(vI (-1))]
 replace h:=Zq c14 h
 refine Qo [1] [true] ?_
 refine zQ [1,3] ?_
 obtain ⟨z1,hz1,h⟩:=bC h
 refine Z4b (J:=(Ux (fun z1=>JN n (⟨65,[],[(1,.ref n 0),(3,(vI z1))]⟩:Env) (Zu O n [some ⟨false,92,8,1,(Yd a0)⟩]) (n+1)) (fun z1=>JR n (⟨65,[],[(2,(vI 0))]⟩:Env) (Zu O n [none]) (n+1)))) (z:=z1) ?_ fun hw => ?_
 ·refine zQ [1,3,40] ?_
  refine Yo ?_
  refine zQ [1,3,40,41] ?_
  refine Zm (t:=(a0.Code == 0)) rfl (fun c6 => ?_) (fun c6 => ?_)
  ·replace hz1:=Zr c6 hz1
   refine zQ [2] ?_
   refine zW ?_
   exact zEn hz1
  replace hz1:=Zq c6 hz1
  refine zQ [1,3,40,43] ?_
  refine Zm (t:=(a0.Code == 1)) rfl (fun c5 => ?_) (fun c5 => ?_)
  ·replace hz1:=Zr c5 hz1
   refine zR ?_
   exact zEn hz1
  replace hz1:=Zq c5 hz1
  refine zQ [1,3,40,45] ?_
  refine Zm (t:=(a0.Code == 2)) rfl (fun c4 => ?_) (fun c4 => ?_)
  ·replace hz1:=Zr c4 hz1
   refine zR ?_
   exact zEn hz1
  replace hz1:=Zq c4 hz1
  refine zQ [1,3,40,47] ?_
  refine Zm (t:=(a0.Code == 3)) rfl (fun c3 => ?_) (fun c3 => ?_)
  ·replace hz1:=Zr c3 hz1
   refine zR ?_
   exact zEn hz1
  replace hz1:=Zq c3 hz1
  refine zQ [1,3,49] ?_
  refine Zm (t:=(a0.Code == 4)) rfl (fun c2 => ?_) (fun c2 => ?_)
  ·replace hz1:=Zr c2 hz1
   refine zR ?_
   exact zEn hz1
  replace hz1:=Zq c2 hz1
  refine zK ?_
  exact zEn hz1
 rcases z1 with z1 | z1
 ·dsimp only [Ux] at hw h
  refine Qb hw ?_
  refine Zc ?_
  obtain ⟨pu8,h⟩:=bG h
  refine Zcp [1,3,55] (Z3 Zx [] ?_)
  simp only [push_cast,seval,↓reduceIte,Zh,pu8,hN0,hN]
  refine Zm (t:=(decide (0 < (Int.tmod a0.Count z1)))) rfl (fun c13 => ?_) (fun c13 => ?_)
  ·replace h:=Zr c13 h
   obtain ⟨pu10,h⟩:=bG h
   refine Zcp [2] (Z3 Zx [] ?_)
   simp only [push_cast,seval,↓reduceIte,Zh,pu10,hN0,hN]
   exact Z5 [(vI (IntKind.i64.wrap ((IntKind.i64.wrap (Int.tdiv a0.Count z1))+1)))]
  replace h:=Zq c13 h
  refine Qo [1,3] [true] ?_
  obtain ⟨pu12,h⟩:=bG h
  refine Zcp [2] (Z3 Zx [] ?_)
  simp only [push_cast,seval,↓reduceIte,Zh,pu12,hN0,hN]
  exact Z5 [(vI (IntKind.i64.wrap (Int.tdiv a0.Count z1)))]
 dsimp only [Ux] at hw h
 refine Zzu hw ?_
 try simp only [Y9,Yp]
 exact Zxu [(vI 0)]
theorem Zhn {a0:(List (List Int))} {a1:Z7} {r:(Z7×Int)} {O:Objs} {n:Nat} (h:Jl a0 a1=some r):GTo Try.prog 86 [(sL (eL (eI .u64)) a0),.agg [(vI a1.P.Kind),(vI a1.P.Off),(vI a1.P.Data),(vI a1.P.Ptrs),(vI a1.P.Code),(vI a1.P.Count),(vI a1.P.Segment),(vB a1.P.Double),(vI a1.Segment),(vI a1.At)]] O n (.tup [.agg [(vI r.1.P.Kind),(vI r.1.P.Off),(vI r.1.P.Data),(vI r.1.P.Ptrs),(vI r.1.P.Code),(vI r.1.P.Count),(vI r.1.P.Segment),(vB r.1.P.Double),(vI r.1.Segment),(vI r.1.At)],(vI r.2)]) O n:=by
 unfold Jl at h
 refine zFn Try.call86 Try.func86 fun hU hN0 hN => ?_
 show W _ _ _ _ ⟨53,[],[(0,(sL (eL (eI .u64)) a0)),(1,.agg [(vI a1.P.Kind),(vI a1.P.Off),(vI a1.P.Data),(vI a1.P.Ptrs),(vI a1.P.Code),(vI a1.P.Count),(vI a1.P.Segment),(vB a1.P.Double),(vI a1.Segment),(vI a1.At)])]⟩ (Zu O n []) _
 refine zQ [0,3,4] ?_
 refine Zc ?_
 obtain ⟨y2,hy2,h⟩:=bC h
 refine zCd (Zqu hy2) [0,3,4,6] [true,true] ?_
 refine Zc ?_
 obtain ⟨z5,hz5,h⟩:=bC h
 refine Qb (E':=⟨53,[],[(3,.ref n 0),(4,.ref (n+1) 0),(48,(vB z5))]⟩) (O':=(Zu O n [some ⟨false,94,10,1,[(vI a1.P.Kind),(vI a1.P.Off),(vI a1.P.Data),(vI a1.P.Ptrs),(vI a1.P.Code),(vI a1.P.Count),(vI a1.P.Segment),(vB a1.P.Double),(vI a1.Segment),(vI a1.At)]⟩,some ⟨false,94,10,1,[(vI 0),(vI 0),(vI 0),(vI 0),(vI 0),(vI 0),(vI 0),(vB false),(vI 0),(vI 0)]⟩])) (n0:=(n+2)) ?_ ?_
 ·rcases Bool.eq_false_or_eq_true (decide (a1.Segment < 0)) with c10 | c10
  ·replace hz5:=Zr c10 hz5
   refine J8 Zx (by kernel_rfl) [none,none,none,none,none,none,none,none,some false,some false,some false,some false,some false,some false,some false,some false,some false,some false,some false,some false,some false,some false,some false,some false,some false,some false,some false,some false] (by kernel_rfl) ?_
   refine zX1 c10 ?_
   refine zG ?_
   exact Zaw hz5 c10
  replace hz5:=Zq c10 hz5
  rcases Bool.eq_false_or_eq_true (decide ((a0.length:Int)≤a1.Segment)) with c11 | c11
  ·replace hz5:=Zr c11 hz5
   try rw [c11] at c10
   refine J8 Zx (by kernel_rfl) [none,none,none,none,none,none,none,none,some false,some false,some false,some false,some false,some false,some false,some false,some false,some false,some false,some false,some false,some false,some false,some false,some false,some false,some false,some false] (by kernel_rfl) ?_
   refine zX2 c10 c11 ?_
   refine zG ?_
   exact Z5n hz5 c10 c11
  replace hz5:=Zq c11 hz5
  try rw [c11] at c10
  rcases Bool.eq_false_or_eq_true (decide (a1.At < 0)) with c12 | c12
  ·replace hz5:=Zr c12 hz5
   try rw [c12] at c10
   try rw [c12] at c11
   refine J8 Zx (by kernel_rfl) [none,none,none,none,none,none,none,none,some false,some false,some false,some false,some false,some false,some false,some false,some false,some false,some false,some false,some false,some false,some false,some false,some false,some false,some false,some false] (by kernel_rfl) ?_
   refine zX3 c10 c11 c12 ?_
   refine zG ?_
   exact Zxe hz5 c10 c11 c12
  replace hz5:=Zq c12 hz5
  try rw [c12] at c10
  try rw [c12] at c11
  obtain ⟨x8,hx8,ax8,bx8,cx8,hz5⟩:=bE (f:=(eL (eI .u64))) Zco (fun _=>rfl) (by decide) hz5
  rcases Bool.eq_false_or_eq_true (decide ((x8.length:Int) < a1.At)) with c13 | c13
  ·replace hz5:=Zr c13 hz5
   try rw [c13] at c10
   try rw [c13] at c11
   try rw [c13] at c12
   refine J8 Zx (by kernel_rfl) [none,none,none,none,none,none,none,none,some true,some true,some true,some true,some true,some true,some true,some true,some true,some false,some false,some false,some false,some false,some false,some false,some false,some false,some false,some false] (by kernel_rfl) ?_
   refine zF7 c10 c11 c12 ax8 bx8 cx8 c13 ?_
   refine zG ?_
   exact Z9e hz5 c10 c11 c12 ax8 bx8 cx8 c13
  replace hz5:=Zq c13 hz5
  try rw [c13] at c10
  try rw [c13] at c11
  try rw [c13] at c12
  refine J8 Zx (by kernel_rfl) [none,none,none,none,none,none,none,none,some true,some true,some true,some true,some true,some true,some true,some true,some true,some true,some true,some true,some true,some true,some true,some true,some true,some true,some true,some true] (by kernel_rfl) ?_
  refine zF7 c10 c11 c12 ax8 bx8 cx8 c13 ?_
  refine zG ?_
  exact Z9e hz5 c10 c11 c12 ax8 bx8 cx8 c13
 refine Zm (t:=z5) rfl (fun c14 => ?_) (fun c14 => ?_)
 ·replace h:=Zr c14 h
  refine Zc ?_
  refine zRd [4,5] [false,true] ?_
  exact Z5 [.agg [(vI 0),(vI 0),(vI 0),(vI 0),(vI 0),(vI 0),(vI 0),(vB false),(vI 0),(vI 0)],(vI 7)]
 replace h:=Zq c14 h
 refine Qo [3,4] [true,true] ?_
 refine Zc ?_
 refine zRd [3,4] [true,true] ?_
 refine Zc ?_
 refine zRd [4,5] [false,true] ?_
 exact Z5 [.agg [(vI a1.P.Kind),(vI 0),(vI a1.P.Data),(vI a1.P.Ptrs),(vI a1.P.Code),(vI a1.P.Count),(vI a1.P.Segment),(vB a1.P.Double),(vI a1.Segment),(vI a1.At)],(vI 0)]
theorem Znr {a0:(List (List Int))} {a1:Int} {a2:Int} {r:(Z7×Int)} {O:Objs} {n:Nat} (h:Kl a0 a1 a2=some r):GTo Try.prog 52 [(sL (eL (eI .u64)) a0),(vI a1),(vI a2)] O n (.tup [.agg [(vI r.1.P.Kind),(vI r.1.P.Off),(vI r.1.P.Data),(vI r.1.P.Ptrs),(vI r.1.P.Code),(vI r.1.P.Count),(vI r.1.P.Segment),(vB r.1.P.Double),(vI r.1.Segment),(vI r.1.At)],(vI r.2)]) O n:=by
 unfold Kl at h
 refine zFn Try.call52 Try.func52 fun hU hN0 hN => ?_
 show W _ _ _ _ ⟨147,[],[(0,(sL (eL (eI .u64)) a0)),(1,(vI a1)),(2,(vI a2))]⟩ (Zu O n []) _
 refine zQ [0,1,2,6] ?_
 refine Zc ?_
 refine Zc ?_
 obtain ⟨y2,hy2,h⟩:=bC h
 refine zCd (Zak hy2) [0,1,2,6,17] [true] ?_
 refine Zm (t:=(!y2)) rfl (fun c47 => ?_) (fun c47 => ?_)
 ·replace h:=Zr c47 h
  refine Zc ?_
  refine zRd [6,7] [true] ?_
  exact Z5 [.agg [(vI 0),(vI 0),(vI 0),(vI 0),(vI 0),(vI 0),(vI 0),(vB false),(vI 0),(vI 0)],(vI 7)]
 replace h:=Zq c47 h
 refine Qo [0,1,2,6] [true] ?_
 refine Zc ?_
 obtain ⟨x6,hx6,ax6,bx6,cx6,h⟩:=bE (f:=(eL (eI .u64))) Zco (fun _=>rfl) (by decide) h
 obtain ⟨x7,hx7,ax7,bx7,cx7,h⟩:=bE (f:=(eI .u64)) Ke (fun _=>rfl) (by decide) h
 obtain ⟨y8,hy8,h⟩:=bC h
 refine Z9f [] ax6 bx6 cx6 ax7 bx7 cx7 ?_
 refine (Qy hy8).then ?_
 refine zF6 ax6 bx6 cx6 ax7 bx7 cx7 ?_
 refine zDs [0,1,2,6,8] [true,true] ?_
 refine zQ [0,1,2,6,8,29] ?_
 refine Zm (t:=(y8.Kind == 0)) rfl (fun c46 => ?_) (fun c46 => ?_)
 ·replace h:=Zr c46 h
  refine Zc ?_
  refine zRd [6,7] [true,false] ?_
  exact Z5 [.agg [(vI 0),(vI 0),(vI 0),(vI 0),(vI 0),(vI 0),(vI 0),(vB false),(vI 0),(vI 0)],(vI 0)]
 replace h:=Zq c46 h
 refine Qo [0,1,2,6,8] [true,true] ?_
 refine Zc ?_
 refine zQD [0,1,2,6,8,37] [none,none] ?_
 refine Zm (t:=(cond (y8.Kind == 3) y8.Double false)) rfl (fun c45 => ?_) (fun c45 => ?_)
 ·replace h:=Zr c45 h
  refine Zc ?_
  obtain ⟨z11,hz11,h⟩:=bC h
  refine Qb (E':=⟨147,[],[(0,(sL (eL (eI .u64)) a0)),(6,.ref n 0),(8,.ref (n+1) 0),(54,(vB z11))]⟩) (O':=(Zu O n [some ⟨false,94,10,1,[(vI 0),(vI 0),(vI 0),(vI 0),(vI 0),(vI 0),(vI 0),(vB false),(vI 0),(vI 0)]⟩,some ⟨false,92,8,1,(Yd y8)⟩])) (n0:=(n+2)) ?_ ?_
  ·obtain ⟨y14,hy14,hz11⟩:=bC hz11
   rcases Bool.eq_false_or_eq_true y14 with c16 | c16
   ·replace hz11:=Zr c16 hz11
    obtain ⟨y15,hy15,hz11⟩:=bC hz11
    refine Zb9 [some true,some true,some true,some true,some true,some true,some true,some true] c16 ?_
    refine (Zak hy14).then ?_
    refine zX1 c16 ?_
    refine (Zak hy15).then ?_
    refine zX1 c16 ?_
    exact Zaw hz11 c16
   replace hz11:=Zq c16 hz11
   refine Zb9 [some false,some false,some false,some false,some false,some false,some false,some false] c16 ?_
   refine (Zak hy14).then ?_
   refine zX1 c16 ?_
   exact Zaw hz11 c16
  refine Zm (t:=z11) rfl (fun c31 => ?_) (fun c31 => ?_)
  ·replace h:=Zr c31 h
   refine Zc ?_
   refine zRd [6,7] [true,false] ?_
   exact Z5 [.agg [(vI 0),(vI 0),(vI 0),(vI 0),(vI 0),(vI 0),(vI 0),(vB false),(vI 0),(vI 0)],(vI 7)]
  replace h:=Zq c31 h
  refine Qo [0,6,8] [true,true] ?_
  obtain ⟨x17,hx17,ax17,bx17,cx17,h⟩:=bE (f:=(eL (eI .u64))) Zco (fun _=>rfl) (by decide) h
  obtain ⟨x18,hx18,ax18,bx18,cx18,h⟩:=bE (f:=(eI .u64)) Ke (fun _=>rfl) (by decide) h
  obtain ⟨y19,hy19,h⟩:=bC h
  obtain ⟨x21,hx21,ax21,bx21,cx21,h⟩:=bE (f:=(eI .u64)) Ke (fun _=>rfl) (by decide) h
  obtain ⟨y22,hy22,h⟩:=bC h
  refine Qb (E':=⟨147,[],[(0,(sL (eL (eI .u64)) a0)),(6,.ref n 0),(9,.ref (n+2) 0),(10,.ref (n+3) 0)]⟩) (O':=(Zu O n [some ⟨false,94,10,1,[(vI 0),(vI 0),(vI 0),(vI 0),(vI 0),(vI 0),(vI 0),(vB false),(vI 0),(vI 0)]⟩,none,some ⟨false,92,8,1,(Yd y19)⟩,some ⟨false,92,8,1,(Yd y22)⟩])) (n0:=(n+4)) ?_ ?_
  ·refine Z4a Zx (by kernel_rfl) [.low,.low,.low,.low,.low,.low,.low,.low,.low,.low,.low,.low,.low,.low,.low,.low,.low,.low,.low,.low,.low,.pass,.pass,.pass,.pass] (fun i=>i < (n+2)) 21 22 [0,1,2,3,4,5,6,7,8,9,10,11,12,13,14,15,16,17,18,19,20] [23,24] [.low,.low,.low,.low,.low,.low,.low,.low,.low,.low,.low,.low,.low,.low,.low,.low,.low,.low,.low,.low,.low] [.pass,.pass,.pass,.pass] [.pass,.pass,.pass,.pass] [] (by kernel_rfl) rfl rfl rfl ?_
   refine zF9 ax17 bx17 cx17 ax18 bx18 cx18 ax21 bx21 cx21 ?_
   repeat (with_reducible refine And.intro (by omega) ?_)
   first | refine PCallA.of (fun _ _=>Qy hy19) ?_ | refine PCall.of (Qy hy19) ?_
   refine zF9 ax17 bx17 cx17 ax18 bx18 cx18 ax21 bx21 cx21 ?_
   repeat (with_reducible refine And.intro (by omega) ?_)
   first | refine PCallA.of (fun _ _=>Qy hy22) ?_ | refine PCall.of (Qy hy22) ?_
   refine zF9 ax17 bx17 cx17 ax18 bx18 cx18 ax21 bx21 cx21 ?_
   repeat (with_reducible refine And.intro (by omega) ?_)
   refine And.intro ?_ ?_
   ·refine zF9 ax17 bx17 cx17 ax18 bx18 cx18 ax21 bx21 cx21 ?_
    repeat (with_reducible refine And.intro (by first | exact Zkb rfl | exact Zim) ?_)
    refine And.intro rfl (Fit2.of (Ye hU rfl rfl ?_) (by omega))
    exact Yc5 ax17 bx17 cx17 ax18 bx18 cx18 ax21 bx21 cx21
   refine zF9 ax17 bx17 cx17 ax18 bx18 cx18 ax21 bx21 cx21 ?_
   repeat (with_reducible refine And.intro (by first | exact Zkb rfl | exact Zim) ?_)
   refine And.intro rfl ?_
   refine Fit2.trans (E':=(⟨147,[],[(0,(sL (eL (eI .u64)) a0)),(6,.ref n 0),(9,.ref (n+3) 0),(10,.ref (n+2) 0)]⟩:Env)) (O':=(Zu O n [some ⟨false,94,10,1,[(vI 0),(vI 0),(vI 0),(vI 0),(vI 0),(vI 0),(vI 0),(vB false),(vI 0),(vI 0)]⟩,none,some ⟨false,92,8,1,(Yd y22)⟩,some ⟨false,92,8,1,(Yd y19)⟩])) (n':=(n+4)) (Fit2.of (Ye hU rfl rfl ?_) (by omega)) ?_
   ·exact Yc5 ax17 bx17 cx17 ax18 bx18 cx18 ax21 bx21 cx21
   refine K1 (k:=4) (k':=4) hU [0,1,3,2] [0,1,3,2] rfl rfl rfl rfl ⟨rfl,rfl⟩ ?_
   exact zSe
  refine Zc ?_
  refine zQD [0,6,9,10,83] [none,none] ?_
  refine Zm (t:=(cond (y19.Kind != 3) true y19.Double)) rfl (fun c30 => ?_) (fun c30 => ?_)
  ·replace h:=Zr c30 h
   refine Zc ?_
   refine zRd [6,7] [true,false,false,false] ?_
   exact Z5 [.agg [(vI 0),(vI 0),(vI 0),(vI 0),(vI 0),(vI 0),(vI 0),(vB false),(vI 0),(vI 0)],(vI 8)]
  replace h:=Zq c30 h
  refine Qo [0,6,9,10] [true,false,true,true] ?_
  refine Zc ?_
  obtain ⟨y24,hy24,h⟩:=bC h
  refine zCd (Zhm hy24) [0,6,9,10,11] [true,false,true,true] ?_
  obtain ⟨z25,hz25,h⟩:=bC h
  refine Qb (E':=⟨147,[],[(0,(sL (eL (eI .u64)) a0)),(6,.ref n 0),(9,.ref (n+2) 0),(10,.ref (n+3) 0),(11,(vI z25))]⟩) (O':=(Zu O n [some ⟨false,94,10,1,[(vI 0),(vI 0),(vI 0),(vI 0),(vI 0),(vI 0),(vI 0),(vB false),(vI 0),(vI 0)]⟩,none,some ⟨false,92,8,1,(Yd y19)⟩,some ⟨false,92,8,1,(Yd y22)⟩])) (n0:=(n+4)) ?_ ?_
  ·refine zQD [0,6,9,10,11,93] [none,none,none] ?_
   refine Zm (t:=(cond (y24 == 0) (y22.Off != 0) false)) rfl (fun c26 => ?_) (fun c26 => ?_)
   ·replace hz25:=Zr c26 hz25
    refine zR ?_
    exact zEn hz25
   replace hz25:=Zq c26 hz25
   refine zK ?_
   exact zEn hz25
  refine Zc ?_
  refine zQ [0,6,9,10,11,95] ?_
  refine Zm (t:=(z25 != 0)) rfl (fun c29 => ?_) (fun c29 => ?_)
  ·replace h:=Zr c29 h
   refine Zc ?_
   refine zRd [6,7] [true,false,false,false] ?_
   exact Z5 [.agg [(vI 0),(vI 0),(vI 0),(vI 0),(vI 0),(vI 0),(vI 0),(vB false),(vI 0),(vI 0)],(vI z25)]
  replace h:=Zq c29 h
  refine Qo [0,6,9,10] [true,false,true,true] ?_
  refine Zc ?_
  obtain ⟨y28,hy28,h⟩:=bC h
  refine zCd (Zhn hy28) [6,7] [true,false,false,false] ?_
  exact Z5 [.agg [(vI y28.1.P.Kind),(vI y28.1.P.Off),(vI y28.1.P.Data),(vI y28.1.P.Ptrs),(vI y28.1.P.Code),(vI y28.1.P.Count),(vI y28.1.P.Segment),(vB y28.1.P.Double),(vI y28.1.Segment),(vI y28.1.At)],(vI y28.2)]
 replace h:=Zq c45 h
 refine Qo [0,1,2,6,8] [true,true] ?_
 obtain ⟨z32,hz32,h⟩:=bC h
 refine Z4b (J:=(Ux (fun z32=>JN n (⟨147,[],[(0,(sL (eL (eI .u64)) a0)),(1,(vI z32.1)),(2,(vI z32.2.1)),(6,.ref n 0),(8,.ref (n+1) 0)]⟩:Env) (Zu O n [some ⟨false,94,10,1,[(vI 0),(vI 0),(vI 0),(vI 0),(vI 0),(vI 0),(vI 0),(vB false),(vI 0),(vI 0)]⟩,some ⟨false,92,8,1,[(vI z32.2.2.1),(vI z32.2.2.2.1),(vI z32.2.2.2.2.1),(vI z32.2.2.2.2.2.1),(vI z32.2.2.2.2.2.2.1),(vI z32.2.2.2.2.2.2.2.1),(vI z32.2.2.2.2.2.2.2.2.1),(vB z32.2.2.2.2.2.2.2.2.2)]⟩]) (n+2)) (fun z32=>JR n (⟨147,[],[(6,.ref n 0),(7,(vI 7))]⟩:Env) (Zu O n [some ⟨false,94,10,1,[(vI 0),(vI 0),(vI 0),(vI 0),(vI 0),(vI 0),(vI 0),(vB false),(vI 0),(vI 0)]⟩,none]) (n+2)))) (z:=z32) ?_ fun hw => ?_
 ·refine zQ [0,1,2,6,8,110] ?_
  refine Zm (t:=(y8.Kind == 3)) rfl (fun c39 => ?_) (fun c39 => ?_)
  ·replace hz32:=Zr c39 hz32
   refine zQ [0,1,6,8] ?_
   refine zQ [0,1,2,6,8] ?_
   refine Zc ?_
   refine Zc ?_
   obtain ⟨y34,hy34,hz32⟩:=bC hz32
   refine zCd (Zak hy34) [0,1,2,6,8,119] [true,true] ?_
   refine Zm (t:=(!y34)) rfl (fun c38 => ?_) (fun c38 => ?_)
   ·replace hz32:=Zr c38 hz32
    refine Zc ?_
    refine zRd [6,7] [true,false] ?_
    refine zW ?_
    exact zEn hz32
   replace hz32:=Zq c38 hz32
   refine Qo [0,1,2,6,8] [true,true] ?_
   obtain ⟨x35,hx35,ax35,bx35,cx35,hz32⟩:=bE (f:=(eL (eI .u64))) Zco (fun _=>rfl) (by decide) hz32
   obtain ⟨x36,hx36,ax36,bx36,cx36,hz32⟩:=bE (f:=(eI .u64)) Ke (fun _=>rfl) (by decide) hz32
   obtain ⟨y37,hy37,hz32⟩:=bC hz32
   refine Z9f [] ax35 bx35 cx35 ax36 bx36 cx36 ?_
   refine (Qy hy37).then ?_
   refine zF6 ax35 bx35 cx35 ax36 bx36 cx36 ?_
   exact Yba hz32 ax35 bx35 cx35 ax36 bx36 cx36
  replace hz32:=Zq c39 hz32
  refine zK ?_
  exact zEn hz32
 rcases z32 with z32 | z32
 ·dsimp only [Ux] at hw h
  refine Qb hw ?_
  refine Zc ?_
  obtain ⟨y41,hy41,h⟩:=bC h
  refine zCd (Zhm hy41) [0,1,2,6,8,12] [true,true] ?_
  refine Zc ?_
  refine zQ [0,1,2,6,8,12,132] ?_
  refine Zm (t:=(y41 != 0)) rfl (fun c44 => ?_) (fun c44 => ?_)
  ·replace h:=Zr c44 h
   refine Zc ?_
   refine zRd [6,7] [true,false] ?_
   exact Z5 [.agg [(vI 0),(vI 0),(vI 0),(vI 0),(vI 0),(vI 0),(vI 0),(vB false),(vI 0),(vI 0)],(vI y41)]
  replace h:=Zq c44 h
  refine Qo [0,1,2,6,8] [true,true] ?_
  refine Zc ?_
  obtain ⟨y43,hy43,h⟩:=bC h
  refine zCd (Zhn hy43) [6,7] [true,false] ?_
  exact Z5 [.agg [(vI y43.1.P.Kind),(vI y43.1.P.Off),(vI y43.1.P.Data),(vI y43.1.P.Ptrs),(vI y43.1.P.Code),(vI y43.1.P.Count),(vI y43.1.P.Segment),(vB y43.1.P.Double),(vI y43.1.Segment),(vI y43.1.At)],(vI y43.2)]
 dsimp only [Ux] at hw h
 refine Zzu hw ?_
 try simp only [Y9,Yp]
 exact Zxu [.agg [(vI 0),(vI 0),(vI 0),(vI 0),(vI 0),(vI 0),(vI 0),(vB false),(vI 0),(vI 0)],(vI 7)]
theorem Zga {a0:(List (List Int))} {a1:Int} {a2:Int} {r:(Zt×Int)} {O:Objs} {n:Nat} (h:Uh a0 a1 a2=some r):GTo Try.prog 26 [(sL (eL (eI .u64)) a0),(vI a1),(vI a2)] O n (.tup [.agg (Zv r.1),(vI r.2)]) O n:=by
 unfold Uh at h
 refine zFn Try.call26 Try.func26 fun hU hN0 hN => ?_
 show W _ _ _ _ ⟨110,[],[(0,(sL (eL (eI .u64)) a0)),(1,(vI a1)),(2,(vI a2))]⟩ (Zu O n []) _
 refine zQ [0,1,2,6] ?_
 refine Zc ?_
 obtain ⟨y2,hy2,h⟩:=bC h
 refine zCd (Znr hy2) [0,6,8,9] [true,true] ?_
 refine Zc ?_
 refine zQD [0,6,8,9,26] [none,none,none,none] ?_
 refine Zm (t:=(cond (y2.2 != 0) true (y2.1.P.Kind == 0))) rfl (fun c12 => ?_) (fun c12 => ?_)
 ·replace h:=Zr c12 h
  refine Zc ?_
  refine zRd [6,7] [true,false] ?_
  exact Z5 [.agg [(vI 0),(vI 0),(vI 0),(vI 0),(vI 0),(vI 0),.val (.int .u64 0)],(vI y2.2)]
 replace h:=Zq c12 h
 refine Qo [0,6,8] [true,true] ?_
 refine Zc ?_
 refine zQ [0,6,8,32] ?_
 refine Zm (t:=(y2.1.P.Kind == 1)) rfl (fun c11 => ?_) (fun c11 => ?_)
 ·replace h:=Zr c11 h
  refine Zc ?_
  refine zRd [6,7] [true,false] ?_
  exact Z5 [.agg [(vI 1),(vI y2.1.Segment),(vI y2.1.At),(vI y2.1.P.Data),(vI y2.1.P.Ptrs),(vI 0),.val (.int .u64 0)],(vI 0)]
 replace h:=Zq c11 h
 refine Qo [0,6,8] [true,true] ?_
 refine Zc ?_
 refine zQ [0,6,8,47] ?_
 refine Zm (t:=(decide (y2.1.P.Code < 7))) rfl (fun c10 => ?_) (fun c10 => ?_)
 ·replace h:=Zr c10 h
  refine Zc ?_
  refine zRd [6,7] [true,false] ?_
  exact Z5 [.agg [(vI (IntKind.i64.wrap (2+y2.1.P.Code))),(vI y2.1.Segment),(vI y2.1.At),(vI 0),(vI 0),(vI y2.1.P.Count),.val (.int .u64 0)],(vI 0)]
 replace h:=Zq c10 h
 refine Qo [0,6,8] [true,true] ?_
 obtain ⟨x5,hx5,ax5,bx5,cx5,h⟩:=bE (f:=(eL (eI .u64))) Zco (fun _=>rfl) (by decide) h
 obtain ⟨x6,hx6,ax6,bx6,cx6,h⟩:=bE (f:=(eI .u64)) Ke (fun _=>rfl) (by decide) h
 refine Zcp [6,8,10] (J8 Zx (by kernel_rfl) [] (by kernel_rfl) ?_)
 refine zF6 ax5 bx5 cx5 ax6 bx6 cx6 ?_
 refine Zc ?_
 obtain ⟨y8,hy8,h⟩:=bC h
 refine zCd (Qy hy8) [6,8,10,11] [true,true,true] ?_
 refine Zc ?_
 refine zQD [6,8,11,96] [none,none,none,none,none,none,none,none,none,none,none,none,none,none,none,none,none,none] ?_
 refine Zm (t:=(cond (cond (cond (x6 != 0) (y8.Kind != 1) false) true (decide (y8.Off < 0))) true (decide (y2.1.P.Count < (IntKind.i64.wrap (y8.Off * (IntKind.i64.wrap (y8.Data+y8.Ptrs)))))))) rfl (fun c9 => ?_) (fun c9 => ?_)
 ·replace h:=Zr c9 h
  refine Zc ?_
  refine zRd [6,7] [true,false,false] ?_
  exact Z5 [.agg [(vI 0),(vI 0),(vI 0),(vI 0),(vI 0),(vI 0),.val (.int .u64 0)],(vI 8)]
 replace h:=Zq c9 h
 refine Qo [6,8,11] [true,true,true] ?_
 refine Zc ?_
 refine zRd [6,7] [true,false,false] ?_
 exact Z5 [.agg [(vI 9),(vI y2.1.Segment),(vI (IntKind.i64.wrap (y2.1.At+1))),(vI y8.Data),(vI y8.Ptrs),(vI y8.Off),.val (.int .u64 0)],(vI 0)]
theorem J4 {a0:Zt} {a1:(List (List Int))} {r:(List Int)} {O:Objs} {n:Nat} (h:Qc a0 a1=some r):GTo Try.prog 54 [.agg (Zv a0),(sL (eL (eI .u64)) a1)] O n ((sL (eI .u64) r)) O n:=by
 unfold Qc at h
 refine zFn Try.call54 Try.func54 fun hU hN0 hN => ?_
 show W _ _ _ _ ⟨30,[],[(0,.agg (Zv a0)),(1,(sL (eL (eI .u64)) a1))]⟩ (Zu O n []) _
 refine zQ [1,2] ?_
 refine Zc ?_
 refine zQ [1,2,8] ?_
 refine Zm (t:=(a0.Kind == 10)) rfl (fun c8 => ?_) (fun c8 => ?_)
 ·replace h:=Zr c8 h
  refine Zc ?_
  refine zR ?_
  refine Zav ⟨30,[],[(4,.row (n+1) ([a0.N]:List Int).length)]⟩ (Zu O n [none,some (oR 49 1 (eI .u64) ([a0.N]:List Int))]) (Ye hU rfl rfl ?_) ?_
  ·exact zSe
  exact Z5 [.row (n+1) ([a0.N]:List Int).length]
 replace h:=Zq c8 h
 refine Qo [1,2] [true] ?_
 refine Zc ?_
 refine zQ [1,2,14] ?_
 refine Zm (t:=(a0.Kind != 1)) rfl (fun c7 => ?_) (fun c7 => ?_)
 ·replace h:=Zr c7 h
  refine zQ [4] ?_
  exact Z5 [nV]
 replace h:=Zq c7 h
 refine Qo [1,2] [true] ?_
 refine zQ [1,2,5] ?_
 refine Zc ?_
 obtain ⟨x4,hx4,ax4,bx4,cx4,h⟩:=bE (f:=(eL (eI .u64))) Zco (fun _=>rfl) (by decide) h
 obtain ⟨l5,al5,bl5,cl5,gl5,h⟩:=bS (lo:=(some (.i64,a0.At))) (hi:=(some (.i64,(IntKind.i64.wrap (a0.At+a0.Data))))) (f:=(eI .u64)) rfl rfl Zfk Ke (fun _=>rfl) h
 obtain ⟨l6,pl6,ql6,el6,h⟩:=bA0 (k:=l5.length) rfl h
 refine Zbl Zx (by kernel_rfl) [false,false,false,false,false,false,false,false,false,false,false,false,false,false,true,false] [] (by kernel_rfl) ?_
 refine Yeo ax4 bx4 cx4 al5 bl5 cl5 gl5 pl6 ql6 el6 ?_
 refine Zav ⟨30,[],[(4,.row (n+1) l6.length)]⟩ (Zu O n [none,some (oR 49 1 (eI .u64) l6)]) (Ye hU rfl rfl ?_) ?_
 ·exact Ybb ax4 bx4 cx4 al5 bl5 cl5 gl5 pl6 ql6 el6
 exact Z5 [.row (n+1) l6.length]
theorem Zbz {a0:Zt} {r:Int} {O:Objs} {n:Nat} (h:Qn a0=some r):GTo Try.prog 55 [.agg (Zv a0)] O n ((vI r)) O n:=by
 unfold Qn at h
 refine zFn Try.call55 Try.func55 fun hU hN0 hN => ?_
 show W _ _ _ _ ⟨10,[],[(0,.agg (Zv a0))]⟩ (Zu O n []) _
 refine zQ [1] ?_
 refine Zc ?_
 refine zQ [1,5] ?_
 refine Zm (t:=(a0.Kind == 1)) rfl (fun c1 => ?_) (fun c1 => ?_)
 ·replace h:=Zr c1 h
  refine zQ [2] ?_
  exact Z5 [(vI a0.Ptrs)]
 replace h:=Zq c1 h
 refine Qo [1] [true] ?_
 refine zQ [2] ?_
 exact Z5 [(vI a0.Count)]
theorem Zsp {a0:(List Int)} {a1:Int} {r:Int} {O:Objs} {n:Nat} (h:Za5 a0 a1=some r):GTo Try.prog 107 [(sL (eI .u64) a0),(vI a1)] O n (.val (.int .u64 r)) O n:=by
 unfold Za5 at h
 refine zFn Try.call107 Try.func107 fun hU hN0 hN => ?_
 show W _ _ _ _ ⟨31,[],[(0,(sL (eI .u64) a0)),(1,(vI a1))]⟩ (Zu O n []) _
 refine zQ [0,1] ?_
 refine Zc ?_
 refine zQD [0,1,15] [none,none,none,none,none] ?_
 refine Zm (t:=(cond (decide (a1 < 0)) true (decide ((a0.length:Int)≤(IntKind.i64.wrap (Int.tdiv a1 64)))))) rfl (fun c5 => ?_) (fun c5 => ?_)
 ·replace h:=Zr c5 h
  refine zQ [4] ?_
  exact Z5 [.val (.int .u64 0)]
 replace h:=Zq c5 h
 refine Qo [0,1] [] ?_
 obtain ⟨x2,hx2,ax2,bx2,cx2,h⟩:=bE (f:=(eI .u64)) Ke (fun _=>rfl) (by decide) h
 refine Zcp [1,5] (Z3 Zx [] ?_)
 refine zF3 ax2 bx2 cx2 ?_
 refine Zc ?_
 refine zQd [1,5,6] [1,5,6] [] ?_
 obtain ⟨z4,hz4,h⟩:=bC h
 refine Y1 (E':=⟨31,[],[(5,.val (.int .u64 z4))]⟩) (O':=(Zu O n [])) (n0:=n) ?_ ?_
 ·refine Xj hz4 (fun s0_=>⟨31,[],[(1,(vI a1)),(5,.val (.int .u64 s0_.1)),(6,(vI s0_.2))]⟩) (fun s0_=>(Zu O n [])) (fun z4=>JX 0 n (⟨31,[],[(5,.val (.int .u64 z4))]⟩:Env) (Zu O n []) n) ?_
  intro s0_ x0_ hs0_
  unfold Kj at hs0_
  try dsimp only
  refine Zc ?_
  refine zQ [1,5,6,24] ?_
  refine Zm (t:=(decide (s0_.2 < (Int.tmod a1 64)))) rfl (fun c3 => ?_) (fun c3 => ?_)
  ·replace hs0_:=Zr c3 hs0_
   refine Qo [1,5,6] [] ?_
   refine Zc ?_
   refine Yo ?_
   refine zRd [1,5,6] [] ?_
   refine zR ?_
   exact zEn hs0_
  replace hs0_:=Zq c3 hs0_
  exact zEx hs0_
 try simp only [Y9,Yp,↓reduceIte,Nat.reduceEqDiff]
 refine zD [5] [] ?_
 refine zQ [4] ?_
 exact Z5 [.val (.int .u64 (Int.tmod z4 2))]
theorem Zsq {a0:(List Int)} {a1:Int} {a2:Int} {r:Int} {O:Objs} {n:Nat} (h:Za6 a0 a1 a2=some r):GTo Try.prog 88 [(sL (eI .u64) a0),(vI a1),(vI a2)] O n (.val (.int .u64 r)) O n:=by
 unfold Za6 at h
 refine zFn Try.call88 Try.func88 fun hU hN0 hN => ?_
 show W _ _ _ _ ⟨39,[],[(0,(sL (eI .u64) a0)),(1,(vI a1)),(2,(vI a2))]⟩ (Zu O n []) _
 refine zQ [0,1,2] ?_
 refine Zc ?_
 obtain ⟨y2,hy2,h⟩:=bC h
 refine zCd (Ur hy2) [0,2,7] [] ?_
 refine Zc ?_
 refine zQD [0,2,7,21] [none,none,none,none] ?_
 refine Zm (t:=(cond (cond (decide (y2 < 1)) true (decide (a2 < 0))) true (decide (1099511627776 < a2)))) rfl (fun c6 => ?_) (fun c6 => ?_)
 ·replace h:=Zr c6 h
  refine zQ [6] ?_
  exact Z5 [.val (.int .u64 0)]
 replace h:=Zq c6 h
 refine Qo [0,2,7] [] ?_
 refine zQ [0,2,7,8] ?_
 refine Zc ?_
 refine zQd [0,2,7,8,9] [0,2,7,8,9] [] ?_
 obtain ⟨z5,hz5,h⟩:=bC h
 refine Y1 (E':=⟨39,[],[(8,.val (.int .u64 z5))]⟩) (O':=(Zu O n [])) (n0:=n) ?_ ?_
 ·refine Xj hz5 (fun s0_=>⟨39,[],[(0,(sL (eI .u64) a0)),(2,(vI a2)),(7,(vI y2)),(8,.val (.int .u64 s0_.1)),(9,(vI s0_.2))]⟩) (fun s0_=>(Zu O n [])) (fun z5=>JX 0 n (⟨39,[],[(8,.val (.int .u64 z5))]⟩:Env) (Zu O n []) n) ?_
  intro s0_ x0_ hs0_
  unfold Kk at hs0_
  try dsimp only
  refine Zc ?_
  refine zQ [0,2,7,8,9,25] ?_
  refine Zm (t:=(decide (0≤s0_.2))) rfl (fun c4 => ?_) (fun c4 => ?_)
  ·replace hs0_:=Zr c4 hs0_
   refine Qo [0,2,7,8,9] [] ?_
   refine Zc ?_
   refine Yo ?_
   obtain ⟨y3,hy3,hs0_⟩:=bC hs0_
   refine zCd (Zsp hy3) [0,2,7,8,9] [] ?_
   refine zR ?_
   exact zEn hs0_
  replace hs0_:=Zq c4 hs0_
  exact zEx hs0_
 try simp only [Y9,Yp,↓reduceIte,Nat.reduceEqDiff]
 refine zD [8] [] ?_
 refine zQ [6] ?_
 exact Z5 [.val (.int .u64 z5)]
theorem Zfp {a0:Zt} {a1:(List (List Int))} {a2:Int} {r:(Zt×Int)} {O:Objs} {n:Nat} (h:Jx a0 a1 a2=some r):GTo Try.prog 56 [.agg (Zv a0),(sL (eL (eI .u64)) a1),(vI a2)] O n (.tup [.agg (Zv r.1),(vI r.2)]) O n:=by
 unfold Jx at h
 refine zFn Try.call56 Try.func56 fun hU hN0 hN => ?_
 show W _ _ _ _ ⟨80,[],[(0,.agg (Zv a0)),(1,(sL (eL (eI .u64)) a1)),(2,(vI a2))]⟩ (Zu O n []) _
 refine zQ [1,2,3,6] ?_
 refine Zc ?_
 obtain ⟨z2,hz2,h⟩:=bC h
 refine Qb (E':=⟨80,[],[(1,(sL (eL (eI .u64)) a1)),(2,(vI a2)),(3,.ref n 0),(6,.ref (n+1) 0),(15,(vB z2))]⟩) (O':=(Zu O n [some ⟨false,57,7,1,(Zv a0)⟩,some ⟨false,57,7,1,[(vI 0),(vI 0),(vI 0),(vI 0),(vI 0),(vI 0),.val (.int .u64 0)]⟩])) (n0:=(n+2)) ?_ ?_
 ·rcases Bool.eq_false_or_eq_true (decide (a2 < 0)) with c5 | c5
  ·replace hz2:=Zr c5 hz2
   refine Zb9 [some false,some false,some false,some false] c5 ?_
   exact Zaw hz2 c5
  replace hz2:=Zq c5 hz2
  obtain ⟨y4,hy4,hz2⟩:=bC hz2
  refine Zb9 [some true,some true,some true,some true] c5 ?_
  refine (Zbz hy4).then ?_
  refine zX1 c5 ?_
  exact Zaw hz2 c5
 refine Zm (t:=z2) rfl (fun c19 => ?_) (fun c19 => ?_)
 ·replace h:=Zr c19 h
  refine Zc ?_
  refine zRd [6,7] [false,true] ?_
  exact Z5 [.agg [(vI 0),(vI 0),(vI 0),(vI 0),(vI 0),(vI 0),.val (.int .u64 0)],(vI 0)]
 replace h:=Zq c19 h
 refine Qo [1,2,3,6] [true,true] ?_
 refine Zc ?_
 refine zQ [1,2,3,6,19] ?_
 refine Zm (t:=(a0.Kind == 1)) rfl (fun c18 => ?_) (fun c18 => ?_)
 ·replace h:=Zr c18 h
  refine Zc ?_
  obtain ⟨y7,hy7,h⟩:=bC h
  refine zCd (Zga hy7) [6,7] [false,true] ?_
  exact Z5 [.agg (Zv y7.1),(vI y7.2)]
 replace h:=Zq c18 h
 refine Qo [1,2,3,6] [true,true] ?_
 refine Zc ?_
 refine zQ [1,2,3,6,35] ?_
 refine Zm (t:=(a0.Kind == 8)) rfl (fun c17 => ?_) (fun c17 => ?_)
 ·replace h:=Zr c17 h
  refine Zc ?_
  obtain ⟨y9,hy9,h⟩:=bC h
  refine zCd (Zga hy9) [6,7] [false,true] ?_
  exact Z5 [.agg (Zv y9.1),(vI y9.2)]
 replace h:=Zq c17 h
 refine Qo [1,2,3,6] [true,true] ?_
 refine Zc ?_
 refine zQ [1,2,3,6,48] ?_
 refine Zm (t:=(a0.Kind == 9)) rfl (fun c16 => ?_) (fun c16 => ?_)
 ·replace h:=Zr c16 h
  refine Zc ?_
  refine zRd [6,7] [false,true] ?_
  exact Z5 [.agg [(vI 1),(vI a0.S),(vI (IntKind.i64.wrap (a0.At+(IntKind.i64.wrap (a2 * (IntKind.i64.wrap (a0.Data+a0.Ptrs))))))),(vI a0.Data),(vI a0.Ptrs),(vI 0),.val (.int .u64 0)],(vI 0)]
 replace h:=Zq c16 h
 refine Qo [1,2,3,6] [true,true] ?_
 refine Zc ?_
 obtain ⟨x13,hx13,ax13,bx13,cx13,h⟩:=bE (f:=(eL (eI .u64))) Zco (fun _=>rfl) (by decide) h
 obtain ⟨l14,al14,bl14,cl14,gl14,h⟩:=bS (lo:=(some (.i64,a0.At))) (hi:=none) (f:=(eI .u64)) rfl rfl Zfk Ke (fun _=>rfl) h
 obtain ⟨y15,hy15,h⟩:=bC h
 refine Zbl Zx (by kernel_rfl) [false,false,false,false,false,false,false,false,false,false,false,false,false,false,true,false] [] (by kernel_rfl) ?_
 refine zF7 ax13 bx13 cx13 al14 bl14 cl14 gl14 ?_
 refine PCall.of (Zsq hy15) ?_
 refine zF7 ax13 bx13 cx13 al14 bl14 cl14 gl14 ?_
 refine zD [6,7] [false,true] ?_
 exact Z5 [.agg [(vI 10),(vI 0),(vI 0),(vI 0),(vI 0),(vI 0),.val (.int .u64 y15)],(vI 0)]
end Go.Proofs.Ytnapihlnlajlpaa
