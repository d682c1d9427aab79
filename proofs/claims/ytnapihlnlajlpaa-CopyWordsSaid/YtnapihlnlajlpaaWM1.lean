/- Part WM1 of this seat's mirrors: functions of the seat's program, and the plain functions that they are; each theorem bears its own conditions. -/
import Derived.Test.YtnapihlnlajlpaaWE
namespace Go.Proofs.Ytnapihlnlajlpaa
open Go.RowKit
set_option linter.unusedVariables false
set_option linter.unusedSimpArgs false
set_option maxRecDepth 100000
set_option maxHeartbeats 4000000
attribute [local push_cast] Try.results101 Try.results102 Try.results103 Try.results104 Try.results16 Try.results17 Try.results18 Try.results19 Try.results35 Try.results36 Try.results37 Try.results38 Try.results39 Try.results40 Try.results41 Try.results5 Try.results67 Try.results70 Try.results71 Try.results72 Try.results73 Try.results74 Try.results75 Try.results76 Try.results77 Try.results78 Try.results79 Try.results96 vI vB nV sL oR Xa Zi Zv Yd Zf Zop Zoo Zo8 Zo7 Y9 Yp Zkh Zf0 Zfz onW X2 Zdo Zdd Zq5 Znd Zif Zij Zie Zii Zlh Zlc Zih Zlg Zlf Zle Zig Zla Zgq evS wok Q1 Op.operands Call.operands gop onK onP atK List.all_cons List.all_nil Bool.and_true Bool.true_and Bool.and_self Value.oneCell' List.take_zero List.take_succ_cons List.take_nil List.drop_zero List.drop_succ_cons List.drop_nil List.append_nil Nat.add_zero Nat.zero_add Gb Yi ev Q4 Zm1 Zoi Zoh Zon Zol Zom Zoj Zok Zog Zsf Zs9 Zv9 Ziv Zcz Ziu Zdj Zh3 Zf2 Zd8 Zed Zfw Zfs Zeb Zfv Zfu Zft Zea Zfq Zd9 Zec Zdb Zfr Zl7 Zf1 Zap Zhs Zaq Zjt Zit Zvd bLo bHi bMx Zc0 Zjs Zxg Zir Zkg Ze0 Uu Zsg Zxh Zhr Zez Zxj Zcy Zz7 Zko Zks Zkn Zkr Zoz Zov Zot Zh5 Zkp Zoy Zox Zow Zkq Zou Zkj Zrh Zk6 Zgl Zgk pop TK.isAgg Zo1 Zo5 Zo0 Zo4 Zkz Ztl Zth Zo3 Ztk Ztj Zti Zo2 Ztg G.under G.unders List.getD_cons_zero List.getD_cons_succ List.set_cons_zero List.set_cons_succ List.map_cons List.map_nil List.toList_toArray Array.toList_append Option.toArray_none Option.toArray_some Array.toList_map Option.map_some Option.map_none Option.bind_some Option.bind_none List.getElem?_cons_zero List.getElem?_cons_succ List.getElem?_nil List.nil_append List.cons_append List.replicate_succ List.replicate_zero List.length_cons List.length_nil and_true true_and and_false false_and Bool.true_eq_false Bool.false_eq_true forall_const false_implies implies_true IntKind.bits if_true if_false ite_true ite_false eq_self true_implies false_or or_false or_true true_or not_true_eq_false not_false_eq_true decide_true decide_false decide_eq_true_eq decide_eq_false_iff_not beq_iff_eq bne_iff_ne ne_eq Bool.not_eq_true Bool.not_eq_false beq_eq_false_iff_ne bne_eq_false_iff_eq beq_self_eq_true bne_self_eq_false Option.some.injEq exists_eq_left' exists_eq_left ge_iff_le gt_iff_lt decide_not Bool.not_true Bool.not_false imp_self Ztd cond_true cond_false Z5y Z5x Bool.not_not Bool.and_false Bool.false_and Bool.or_true Bool.true_or Bool.or_false Bool.false_or Zcs Zji Zdt Zct Jn Qs Option.join_some Nat.add_assoc Int.toNat_natCast eI eB eS eL Xm Zfy Zeg Zos Zoq Zor Z0t Z2l Zgh Zel Zpe Zpc Zpd Zwo Zm0 Zuv Zmw Zvc Zca Zre List.length_append G.agg.injEq G.row.injEq G.ref.injEq G.val.injEq G.sl.injEq G.tup.injEq Value.int.injEq Value.bool.injEq Value.string.injEq List.cons.injEq exists_and_left exists_const List.flatten_cons List.flatten_nil Int.le_refl Nat.le_refl Zb8 Xv Je Bool.not_eq_true' Bool.not_eq_false' Zqo Zhb Zuj Zun Zui Zum Zzt Zzo List.size_toArray Zrv Zra G.ren G.rens Ztn Zgm Zpj Zoe Zof Zlb Zuo Zge G.fn.injEq Zjd Zlz Zqn Zzp Zly Zul Zzs Zzr Zzq Zuk Zte Zx8 Option.join_none Y4 Zac undef Zkl Arr.len Arr.put_eq Zgg Zh7 Zgf Zek Zpb Zo9 Zpa onB Z0s Zse Qa Zdc Zj0 Zj1 Zj2 Zj3 Zj4 Zj5 Zh6 Zia Zh8 Zgj Zem Zh9 Zk4 Zk3 Zk2 Zk1 Z2k Z3s Zwn Zve Vv Zwi Zrn Zib Zgi Zxq Zrb Zio Zke Zdx Zi5 Zj6 Zj7 Zj8 Zj9 Zhv Zhw Zhx Zhy Zhz Zh0 Zh1 Zfm prT Ze2 Z6t Zt7 Z2x Zt8 Z6u Zt9 Z6v Zua Z6w Zub Z6x Zuc Z6y Zud Z6z Zue Zym Zpn Zyn Zpo Zyo Zpp Zyp Zpq Zyq Zpr Zyr Zps Zys Zpt Zyt Zpu Zyu Zpv Zyv Zpw Zyw Zpx Zco Zfk Zmy Zms Zyx Zpy Zb7 Zpz Zyy Zp0 Zyz Zp1 Zy0 Zp2 Zy1 Zmt Zy2 Zp3 Zy3 Zp4 Zy4 Zp5 Ke Zp6 Zy5 Zp7 Zy6 Zp8 Zy7 Zp9 Zy8 Zqa Zy9 Zqb Zza Zqc Zzb Zqd Zzc Zqe Zzd Zqf Zze Zqg Zzf Zqh Zzg Zqi Zzh Zqj Zzi Zqk Zzj Zql Zzk Zqm Zts Zlj Ztt Zlk Ztu Zll Ztv Zlm Ztw Zln Ztx Zlo Zty Zlp Ztz Zlq Zt0 Zlr Zt1 Zls Zt2 Zlt Zt3 Zlu Zt4 Zlv Zt5 Zlw Zt6 Zlx Zn Xd Zgw Zgu Zf4 Zgd Zgy Zes Zeq Zeo Zgs U7 U6 Uy U0 U8 Ue Ud Uc U5 Zgv Zgt Zf3 Zgc Zgx Zer Zep Zen Zgr Zef Gw Jf Zch Zcg Zcc Zce Zci Zbh Zbe Zbd Zcf K7 K8 Zo Ky Kx Kh Ko Kz J7 J6 J5 Ku Zee Za1 Yh Vp Vn Vc Vj Vr Kw Kt Kr Vl Yg Vo Vm Vb Vi Vq Kv Ks Kq Vk
theorem Zds {a0:Int} {r:(Int×Bool)} {O:Objs} {n:Nat} (h:Q3 a0=some r):GTo Try.prog 96 [(vI a0)] O n (.tup [(vI r.1),(vB r.2)]) O n:=by
 unfold Q3 at h
 refine zFn Try.call96 Try.func96 fun hU hN0 hN => ?_
 show W _ _ _ _ ⟨15,[],[(0,(vI a0))]⟩ (Zu O n []) _
 refine zQ [0] ?_
 refine Zc ?_
 obtain ⟨y6,hy6,ey6,h⟩:=bY (f:=(eI .i64)) (cs:=[.val (.int .i64 0),.val (.int .i64 1),.val (.int .i64 8),.val (.int .i64 16),.val (.int .i64 32),.val (.int .i64 64)]) rfl h
 have g7:=congrArg G.agg ey6
 obtain ⟨y8,hy8,ey8,h⟩:=bY (f:=(eI .i64)) (cs:=[.val (.int .i64 0),.val (.int .i64 0),.val (.int .i64 0),.val (.int .i64 0),.val (.int .i64 0),.val (.int .i64 0)]) rfl h
 have g9:=congrArg (GObj.mk false 143 6 1) ey8
 have g10:=Zwb (f:=(eI .i64)) y8 y6 (fun _=>rfl)
 refine Zjr [] g7 g9 g10 ?_
 refine zDs [0,4] [true] ?_
 refine zQD [0,4,11] [none,none] ?_
 refine Zm (t:=(cond (decide (a0 < 0)) true (decide (6≤a0)))) rfl (fun c13 => ?_) (fun c13 => ?_)
 ·replace h:=Zr c13 h
  refine zQ [2,3] ?_
  exact Z5 [(vI 0),(vB false)]
 replace h:=Zq c13 h
 refine Qo [0,4] [true] ?_
 obtain ⟨x12,hx12,ax12,bx12,cx12,h⟩:=bEA (f:=(eI .i64)) (b:=6) rfl Z2x (fun _=>rfl) (by decide) h
 refine Zcp [2,3] (Z3 Zx [] ?_)
 refine zF3 ax12 bx12 cx12 ?_
 exact Z5 [(vI x12),(vB true)]
theorem Z0r {a0:Int} {a1:Int} {r:Bool} {O:Objs} {n:Nat} (h:Zej a0 a1=some r):GTo Try.prog 101 [(vI a0),.val (.int .u64 a1)] O n ((vB r)) O n:=by
 unfold Zej at h
 refine zFn Try.call101 Try.func101 fun hU hN0 hN => ?_
 show W _ _ _ _ ⟨19,[],[(0,(vI a0)),(1,.val (.int .u64 a1))]⟩ (Zu O n []) _
 refine zQ [0,1] ?_
 refine Zc ?_
 obtain ⟨y2,hy2,h⟩:=bC h
 refine zCd (Zds hy2) [1,5,6] [] ?_
 obtain ⟨z4,hz4,h⟩:=bC h
 refine Qb (E':=⟨19,[],[(4,(vB z4))]⟩) (O':=(Zu O n [])) (n0:=n) ?_ ?_
 ·rcases Bool.eq_false_or_eq_true y2.2 with c7 | c7
  ·replace hz4:=Zr c7 hz4
   obtain ⟨pu6,hz4⟩:=bG hz4
   refine Z3 Zx [some true,some true,some true,some true] ?_
   simp only [push_cast,seval,↓reduceIte,Zh,c7,pu6,hN0,hN]
   have hz4:=Option.some.inj hz4;subst hz4
   refine And.intro rfl (Fit2.of (Ye hU rfl rfl ?_) (by omega))
   simp only [push_cast,seval,↓reduceIte,Zh,c7,pu6,hN0,hN]
  replace hz4:=Zq c7 hz4
  refine Zb9 [some false,some false,some false,some false] c7 ?_
  exact Zaw hz4 c7
 exact Z5 [(vB z4)]
theorem Zst {a0:Int} {a1:Int} {r:Int} {O:Objs} {n:Nat} (h:Zc7 a0 a1=some r):GTo Try.prog 67 [(vI a0),(vI a1)] O n ((vI r)) O n:=by
 unfold Zc7 at h
 refine zFn Try.call67 Try.func67 fun hU hN0 hN => ?_
 show W _ _ _ _ ⟨27,[],[(0,(vI a0)),(1,(vI a1))]⟩ (Zu O n []) _
 refine zQ [0,1] ?_
 refine Zc ?_
 obtain ⟨y2,hy2,h⟩:=bC h
 refine zCd (Zds hy2) [1,5,6] [] ?_
 refine Zc ?_
 refine zQD [1,5,21] [none,none,none,none] ?_
 refine Zm (t:=(cond (cond (!y2.2) true (decide (a1 < 0))) true (decide (1099511627776 < a1)))) rfl (fun c3 => ?_) (fun c3 => ?_)
 ·replace h:=Zr c3 h
  refine zQ [4] ?_
  exact Z5 [(vI 0)]
 replace h:=Zq c3 h
 refine Qo [1,5] [] ?_
 refine zQ [4] ?_
 exact Z5 [(vI (IntKind.i64.wrap (Int.tdiv (IntKind.i64.wrap ((IntKind.i64.wrap (a1 * y2.1))+63)) 64)))]
theorem Z0q {a0:Int} {r:Int} {O:Objs} {n:Nat} (h:Zei a0=some r):GTo Try.prog 77 [(vI a0)] O n ((vI r)) O n:=by
 unfold Zei at h
 refine zFn Try.call77 Try.func77 fun hU hN0 hN => ?_
 show W _ _ _ _ ⟨8,[],[(0,(vI a0))]⟩ (Zu O n []) _
 refine zQ [0] ?_
 refine Zc ?_
 obtain ⟨y6,hy6,ey6,h⟩:=bY (f:=(eI .i64)) (cs:=[.val (.int .i64 0),.val (.int .i64 1),.val (.int .i64 8),.val (.int .i64 16),.val (.int .i64 32),.val (.int .i64 64),.val (.int .i64 64)]) rfl h
 have g7:=congrArg G.agg ey6
 obtain ⟨y8,hy8,ey8,h⟩:=bY (f:=(eI .i64)) (cs:=[.val (.int .i64 0),.val (.int .i64 0),.val (.int .i64 0),.val (.int .i64 0),.val (.int .i64 0),.val (.int .i64 0),.val (.int .i64 0)]) rfl h
 have g9:=congrArg (GObj.mk false 134 7 1) ey8
 have g10:=Zwb (f:=(eI .i64)) y8 y6 (fun _=>rfl)
 refine Zjr [] g7 g9 g10 ?_
 refine zD [0,3] [true] ?_
 obtain ⟨x12,hx12,ax12,bx12,cx12,h⟩:=bEA (f:=(eI .i64)) (b:=7) rfl Z2x (fun _=>rfl) (by decide) h
 refine Zcp [2] (Z3 Zx [] ?_)
 refine zF3 ax12 bx12 cx12 ?_
 exact Z5 [(vI x12)]
theorem Zkx {a0:Zs} {r:(Int×Bool)} {O:Objs} {n:Nat} (h:Yt a0=some r):GTo Try.prog 40 [.agg (Yd a0)] O n (.tup [(vI r.1),(vB r.2)]) O n:=by
 unfold Yt at h
 refine zFn Try.call40 Try.func40 fun hU hN0 hN => ?_
 show W _ _ _ _ ⟨57,[],[(0,.agg (Yd a0))]⟩ (Zu O n []) _
 refine zQ [1] ?_
 refine Zc ?_
 refine Yo ?_
 refine zQ [1,4] ?_
 refine Zm (t:=(a0.Kind == 1)) rfl (fun c5 => ?_) (fun c5 => ?_)
 ·replace h:=Zr c5 h
  refine zQ [2,3] ?_
  exact Z5 [(vI (IntKind.i64.wrap (a0.Data+a0.Ptrs))),(vB true)]
 replace h:=Zq c5 h
 refine zQD [1,13] [none,none,none] ?_
 refine Zm (t:=(cond (a0.Kind == 2) (a0.Code == 7) false)) rfl (fun c4 => ?_) (fun c4 => ?_)
 ·replace h:=Zr c4 h
  refine zQ [2,3] ?_
  exact Z5 [(vI (IntKind.i64.wrap (a0.Count+1))),(vB true)]
 replace h:=Zq c4 h
 refine zQD [1,25] [none,none,none,none,none,none,none,none,none,none,none,none] ?_
 refine Zm (t:=(cond (cond (cond (cond (a0.Kind == 2) (decide (0≤a0.Code)) false) (decide (a0.Code < 7)) false) (decide (0≤a0.Count)) false) (decide (a0.Count≤536870911)) false)) rfl (fun c3 => ?_) (fun c3 => ?_)
 ·replace h:=Zr c3 h
  refine Zc ?_
  obtain ⟨y2,hy2,h⟩:=bC h
  refine J8 Zx (by kernel_rfl) [] (by kernel_rfl) ?_
  refine zS ?_
  refine PCall.of (Z0q hy2) ?_
  refine zS ?_
  refine zD [2,3] [false] ?_
  exact Z5 [(vI (IntKind.i64.wrap (Int.tdiv (IntKind.i64.wrap ((IntKind.i64.wrap (a0.Count * y2))+63)) 64))),(vB true)]
 replace h:=Zq c3 h
 refine Qo [] [false] ?_
 refine zQ [2,3] ?_
 exact Z5 [(vI 0),(vB false)]
theorem Z3r {a0:Zs} {r:Int} {O:Objs} {n:Nat} (h:Zkt a0=some r):GTo Try.prog 78 [.agg (Yd a0)] O n (.val (.int .u64 r)) O n:=by
 unfold Zkt at h
 refine zFn Try.call78 Try.func78 fun hU hN0 hN => ?_
 show W _ _ _ _ ⟨58,[],[(0,.agg (Yd a0))]⟩ (Zu O n []) _
 refine zQ [1] ?_
 refine Zc ?_
 refine zQ [1,5] ?_
 refine Yo ?_
 refine zQ [1,5,6] ?_
 refine Zm (t:=(a0.Kind == 1)) rfl (fun c5 => ?_) (fun c5 => ?_)
 ·replace h:=Zr c5 h
  refine zQ [2] ?_
  exact Z5 [.val (.int .u64 (IntKind.u64.wrap (Zcq .u64 (IntKind.u64.wrap (Zcq .u64 (IntKind.u64.wrap (IntKind.u32.wrap ((IntKind.u32.wrap a0.Off) * 2 ^ min (Int.toNat 2) 32))) (IntKind.u64.wrap ((IntKind.u64.wrap a0.Data) * 2 ^ min (Int.toNat 32) 64)))) (IntKind.u64.wrap ((IntKind.u64.wrap a0.Ptrs) * 2 ^ min (Int.toNat 48) 64)))))]
 replace h:=Zq c5 h
 refine zQ [1,5,23] ?_
 refine Zm (t:=(a0.Kind == 2)) rfl (fun c4 => ?_) (fun c4 => ?_)
 ·replace h:=Zr c4 h
  refine zQ [2] ?_
  exact Z5 [.val (.int .u64 (IntKind.u64.wrap (Zcq .u64 (IntKind.u64.wrap (Zcq .u64 (IntKind.u64.wrap (Zcq .u64 1 (IntKind.u64.wrap (IntKind.u32.wrap ((IntKind.u32.wrap a0.Off) * 2 ^ min (Int.toNat 2) 32))))) (IntKind.u64.wrap ((IntKind.u64.wrap a0.Code) * 2 ^ min (Int.toNat 32) 64)))) (IntKind.u64.wrap ((IntKind.u64.wrap a0.Count) * 2 ^ min (Int.toNat 35) 64)))))]
 replace h:=Zq c4 h
 refine zQ [1,41] ?_
 refine Zm (t:=(a0.Kind == 3)) rfl (fun c3 => ?_) (fun c3 => ?_)
 ·replace h:=Zr c3 h
  refine zQ [1,3] ?_
  obtain ⟨z1,hz1,h⟩:=bC h
  refine Qb (E':=⟨58,[],[(3,.val (.int .u64 z1))]⟩) (O':=(Zu O n [none])) (n0:=(n+1)) ?_ ?_
  ·refine zQ [3,54] ?_
   refine Zm (t:=a0.Double) rfl (fun c2 => ?_) (fun c2 => ?_)
   ·replace hz1:=Zr c2 hz1
    refine zR ?_
    exact zEn hz1
   replace hz1:=Zq c2 hz1
   refine zK ?_
   exact zEn hz1
  refine zQ [2] ?_
  exact Z5 [.val (.int .u64 z1)]
 replace h:=Zq c3 h
 refine Qo [] [false] ?_
 refine zQ [2] ?_
 exact Z5 [.val (.int .u64 0)]
theorem Zq9 {a0:Int} {r:Int} {O:Objs} {n:Nat} (h:Ze7 a0=some r):GTo Try.prog 102 [.val (.int .u64 a0)] O n ((vI r)) O n:=by
 unfold Ze7 at h
 refine zFn Try.call102 Try.func102 fun hU hN0 hN => ?_
 show W _ _ _ _ ⟨8,[],[(0,.val (.int .u64 a0))]⟩ (Zu O n []) _
 refine zQ [0] ?_
 refine zQ [2] ?_
 exact Z5 [(vI (IntKind.i64.wrap (Int.fdiv (IntKind.i32.wrap (IntKind.u32.wrap a0)) (2 ^ min (Int.toNat 2) 32))))]
theorem Zde {a0:Int} {a1:Int} {a2:Int} {r:Int} {O:Objs} {n:Nat} (h:Ql a0 a1 a2=some r):GTo Try.prog 103 [.val (.int .u64 a0),(vI a1),(vI a2)] O n ((vI r)) O n:=by
 unfold Ql at h
 refine zFn Try.call103 Try.func103 fun hU hN0 hN => ?_
 show W _ _ _ _ ⟨15,[],[(0,.val (.int .u64 a0)),(1,(vI a1)),(2,(vI a2))]⟩ (Zu O n []) _
 refine zQ [0,1,2] ?_
 obtain ⟨pu3,h⟩:=bG h
 obtain ⟨pu4,h⟩:=bG h
 refine Zcp [6] (J8 Zx (by kernel_rfl) [] (by kernel_rfl) ?_)
 simp only [push_cast,seval,↓reduceIte,Zh,pu3,pu4,hN0,hN]
 exact Z5 [(vI (IntKind.i64.wrap (IntKind.u64.wrap (Zc1 .u64 (Int.fdiv a0 (2 ^ min (Int.toNat a1) 64)) (IntKind.u64.wrap ((IntKind.u64.wrap (1 * 2 ^ min (Int.toNat a2) 64)) - 1))))))]
theorem Uw {a0:Int} {r:Zs} {O:Objs} {n:Nat} (h:Kb a0=some r):GTo Try.prog 79 [.val (.int .u64 a0)] O n (.agg (Yd r)) O n:=by
 unfold Kb at h
 refine zFn Try.call79 Try.func79 fun hU hN0 hN => ?_
 show W _ _ _ _ ⟨38,[],[(0,.val (.int .u64 a0))]⟩ (Zu O n []) _
 refine zQ [0,2] ?_
 refine Zc ?_
 refine zQ [0,2,4] ?_
 refine Zm (t:=(a0 == 0)) rfl (fun c20 => ?_) (fun c20 => ?_)
 ·replace h:=Zr c20 h
  refine Zc ?_
  refine zR ?_
  refine Zav ⟨38,[],[(2,.ref n 0)]⟩ (Zu O n [some ⟨false,78,8,1,[(vI 0),(vI 0),(vI 0),(vI 0),(vI 0),(vI 0),(vI 0),(vB false)]⟩]) (Ye hU rfl rfl ?_) ?_
  ·exact zSe
  exact Z5 [.agg [(vI 0),(vI 0),(vI 0),(vI 0),(vI 0),(vI 0),(vI 0),(vB false)]]
 replace h:=Zq c20 h
 refine zK ?_
 refine Zav ⟨38,[],[(0,.val (.int .u64 a0)),(2,.ref n 0)]⟩ (Zu O n [some ⟨false,78,8,1,[(vI 0),(vI 0),(vI 0),(vI 0),(vI 0),(vI 0),(vI 0),(vB false)]⟩]) (Ye hU rfl rfl ?_) ?_
 ·exact zSe
 refine Zc ?_
 refine zQ [0,2,7] ?_
 refine Yo ?_
 refine zQ [0,2,7,8] ?_
 refine Zm (t:=((IntKind.u64.wrap (Zc1 .u64 a0 3)) == 0)) rfl (fun c19 => ?_) (fun c19 => ?_)
 ·replace h:=Zr c19 h
  refine Zc ?_
  obtain ⟨y4,hy4,h⟩:=bC h
  obtain ⟨y5,hy5,h⟩:=bC h
  obtain ⟨y6,hy6,h⟩:=bC h
  refine zC (Zq9 hy4) ?_
  refine zTs (Zde hy5) ?_
  refine zTs (Zde hy6) ?_
  refine Zav ⟨38,[],[(2,.ref n 0)]⟩ (Zu O n [some ⟨false,78,8,1,[(vI 1),(vI y4),(vI y5),(vI y6),(vI 0),(vI 0),(vI 0),(vB false)]⟩]) (Ye hU rfl rfl ?_) ?_
  ·exact zSe
  exact Z5 [.agg [(vI 1),(vI y4),(vI y5),(vI y6),(vI 0),(vI 0),(vI 0),(vB false)]]
 replace h:=Zq c19 h
 refine zQ [0,2,7,17] ?_
 refine Zm (t:=((IntKind.u64.wrap (Zc1 .u64 a0 3)) == 1)) rfl (fun c18 => ?_) (fun c18 => ?_)
 ·replace h:=Zr c18 h
  refine Zc ?_
  obtain ⟨y10,hy10,h⟩:=bC h
  obtain ⟨y11,hy11,h⟩:=bC h
  obtain ⟨y12,hy12,h⟩:=bC h
  refine zC (Zq9 hy10) ?_
  refine zTs (Zde hy11) ?_
  refine zTs (Zde hy12) ?_
  refine Zav ⟨38,[],[(2,.ref n 0)]⟩ (Zu O n [some ⟨false,78,8,1,[(vI 2),(vI y10),(vI 0),(vI 0),(vI y11),(vI y12),(vI 0),(vB false)]⟩]) (Ye hU rfl rfl ?_) ?_
  ·exact zSe
  exact Z5 [.agg [(vI 2),(vI y10),(vI 0),(vI 0),(vI y11),(vI y12),(vI 0),(vB false)]]
 replace h:=Zq c18 h
 refine zQ [0,2,26] ?_
 refine Zm (t:=((IntKind.u64.wrap (Zc1 .u64 a0 3)) == 2)) rfl (fun c17 => ?_) (fun c17 => ?_)
 ·replace h:=Zr c17 h
  refine Zc ?_
  obtain ⟨y15,hy15,h⟩:=bC h
  obtain ⟨y16,hy16,h⟩:=bC h
  refine zC (Zde hy15) ?_
  refine zTs (Zde hy16) ?_
  refine Zav ⟨38,[],[(2,.ref n 0)]⟩ (Zu O n [some ⟨false,78,8,1,[(vI 3),(vI y15),(vI 0),(vI 0),(vI 0),(vI 0),(vI y16),(vB ((IntKind.u64.wrap (Zc1 .u64 (Int.fdiv a0 (2 ^ min (Int.toNat 2) 64)) 1)) == 1))]⟩]) (Ye hU rfl rfl ?_) ?_
  ·exact zSe
  exact Z5 [.agg [(vI 3),(vI y15),(vI 0),(vI 0),(vI 0),(vI 0),(vI y16),(vB ((IntKind.u64.wrap (Zc1 .u64 (Int.fdiv a0 (2 ^ min (Int.toNat 2) 64)) 1)) == 1))]]
 replace h:=Zq c17 h
 refine zK ?_
 refine Zav ⟨38,[],[(2,.ref n 0)]⟩ (Zu O n [some ⟨false,78,8,1,[(vI 0),(vI 0),(vI 0),(vI 0),(vI 0),(vI 0),(vI 0),(vB false)]⟩]) (Ye hU rfl rfl ?_) ?_
 ·exact zSe
 refine Zc ?_
 refine zR ?_
 refine Zav ⟨38,[],[(2,.ref n 0)]⟩ (Zu O n [some ⟨false,78,8,1,[(vI 4),(vI 0),(vI 0),(vI 0),(vI 0),(vI 0),(vI 0),(vB false)]⟩]) (Ye hU rfl rfl ?_) ?_
 ·exact zSe
 exact Z5 [.agg [(vI 4),(vI 0),(vI 0),(vI 0),(vI 0),(vI 0),(vI 0),(vB false)]]
theorem Zq8 {a0:Zs} {r:(Int×Bool)} {O:Objs} {n:Nat} (h:Qd a0=some r):GTo Try.prog 41 [.agg (Yd a0)] O n (.tup [.val (.int .u64 r.1),(vB r.2)]) O n:=by
 unfold Qd at h
 refine zFn Try.call41 Try.func41 fun hU hN0 hN => ?_
 show W _ _ _ _ ⟨17,[],[(0,.agg (Yd a0))]⟩ (Zu O n []) _
 refine zQ [1] ?_
 refine Zc ?_
 obtain ⟨y2,hy2,h⟩:=bC h
 refine zCd (Z3r hy2) [1,4] [true] ?_
 obtain ⟨z4,hz4,h⟩:=bC h
 refine Qb (E':=⟨17,[],[(2,.val (.int .u64 y2)),(3,(vB z4))]⟩) (O':=(Zu O n [none])) (n0:=(n+1)) ?_ ?_
 ·rcases Bool.eq_false_or_eq_true (a0.Kind != 4) with c7 | c7
  ·replace hz4:=Zr c7 hz4
   obtain ⟨y6,hy6,hz4⟩:=bC hz4
   refine J8 Zx (by kernel_rfl) [some true,some true,some true,some true] (by kernel_rfl) ?_
   refine zX1 c7 ?_
   refine PCall.of (Uw hy6) ?_
   refine zX1 c7 ?_
   exact Zaw hz4 c7
  replace hz4:=Zq c7 hz4
  refine J8 Zx (by kernel_rfl) [some false,some false,some false,some false] (by kernel_rfl) ?_
  refine zX1 c7 ?_
  exact Zaw hz4 c7
 exact Z5 [.val (.int .u64 y2),(vB z4)]
attribute [local push_cast] Try.results105 Try.results20 Try.results21 Try.results42 Try.results43 Try.results44 Try.results6 Try.results7 Try.results80 Try.results81 Try.results82 Try.results83 Try.results9
theorem Z2j {a0:Int} {a1:(List Int)} {r:((List Int)×Bool)} {O:Objs} {n:Nat} (h:Zd2 a0 a1=some r):GTo Try.prog 105 [(vI a0),(sL (eI .u64) a1)] O n (.tup [(sL (eI .u64) r.1),(vB r.2)]) O n:=by
 unfold Zd2 at h
 refine zFn Try.call105 Try.func105 fun hU hN0 hN => ?_
 show W _ _ _ _ ⟨68,[],[(0,(vI a0)),(1,(sL (eI .u64) a1))]⟩ (Zu O n []) _
 refine zQ [0,1] ?_
 refine Zc ?_
 obtain ⟨y2,hy2,h⟩:=bC h
 refine zCd (Zds hy2) [0,1,6,7] [] ?_
 refine Zc ?_
 refine zQd [0,1,6,7,19,20,21] [0,1,6,7,19,20,21] [] ?_
 obtain ⟨z8,hz8,h⟩:=bC h
 refine Y1 (E':=⟨68,[],[(0,(vI a0)),(1,(sL (eI .u64) a1)),(6,(vI y2.1)),(7,(vB z8))]⟩) (O':=(Zu O n [])) (n0:=n) ?_ ?_
 ·refine Xj hz8 (fun s0_=>⟨68,[],[(0,(vI a0)),(1,(sL (eI .u64) a1)),(6,(vI y2.1)),(7,(vB s0_.1)),(19,(sL (eI .u64) a1)),(20,(vI (a1.length:Int))),(21,(vI s0_.2))]⟩) (fun s0_=>(Zu O n [])) (fun z8=>JX 0 n (⟨68,[],[(0,(vI a0)),(1,(sL (eI .u64) a1)),(6,(vI y2.1)),(7,(vB z8))]⟩:Env) (Zu O n []) n) ?_
  intro s0_ x0_ hs0_
  unfold Zcd at hs0_
  try dsimp only
  refine zQ [0,1,6,7,19,20,21,22] ?_
  refine Zc ?_
  refine Zm (t:=(decide (s0_.2 < (a1.length:Int)))) rfl (fun c7 => ?_) (fun c7 => ?_)
  ·replace hs0_:=Zr c7 hs0_
   refine Qo [0,1,6,7,19,20,21] [] ?_
   refine Zc ?_
   refine Yo ?_
   obtain ⟨x4,hx4,ax4,bx4,cx4,hs0_⟩:=bE (f:=(eI .u64)) Ke (fun _=>rfl) (by decide) hs0_
   refine Zcp [0,1,6,7,9,19,20,21] (Z3 Zx [] ?_)
   refine zF3 ax4 bx4 cx4 ?_
   rcases Bool.eq_false_or_eq_true s0_.1 with c6 | c6
   ·replace hs0_:=Zr c6 hs0_
    obtain ⟨y5,hy5,hs0_⟩:=bC hs0_
    refine Zb9 [some true,some true,some true] c6 ?_
    refine (Z0r hy5).then ?_
    refine zX1 c6 ?_
    refine zD [0,1,6,7,19,20,21] [] ?_
    refine zR ?_
    exact Zaw hs0_ c6
   replace hs0_:=Zq c6 hs0_
   refine Zb9 [some false,some false,some false] c6 ?_
   refine zD [0,1,6,7,19,20,21] [] ?_
   refine zR ?_
   exact zEn hs0_
  replace hs0_:=Zq c7 hs0_
  exact zEx hs0_
 try simp only [Y9,Yp,↓reduceIte,Nat.reduceEqDiff]
 refine zDs [0,1,6,7] [] ?_
 refine zQ [0,1,6,33] ?_
 refine Zm (t:=(!z8)) rfl (fun c26 => ?_) (fun c26 => ?_)
 ·replace h:=Zr c26 h
  refine zQ [4,5] ?_
  exact Z5 [nV,(vB false)]
 replace h:=Zq c26 h
 refine Qo [0,1,6] [] ?_
 refine Zc ?_
 obtain ⟨y11,hy11,h⟩:=bC h
 obtain ⟨l12,al12,bl12,cl12,el12,h⟩:=bM2 (c:=8) rfl h
 have nl12:Int.toNat y11=List.length l12:=by rw [el12,List.length_replicate]
 have fl12:(List.replicate (List.length l12) [.val (.int .u64 0)]).flatten=fl (eI .u64) l12:=by rw [← nl12,el12];exact (Zl6 (f:=(eI .u64)) _ _).symm
 clear el12
 refine Z3 Zx [] ?_
 simp only [push_cast,seval,↓reduceIte,Zh,al12,bl12,cl12,fl12,nl12,hN0,hN]
 refine (Zst hy11).then ?_
 simp only [push_cast,seval,↓reduceIte,Zh,al12,bl12,cl12,fl12,nl12,hN0,hN]
 refine Zav ⟨68,[],[(1,(sL (eI .u64) a1)),(6,(vI y2.1)),(10,.row n l12.length)]⟩ (Zu O n [some (oR 49 1 (eI .u64) l12)]) (Ye hU rfl rfl ?_) ?_
 ·simp only [push_cast,seval,↓reduceIte,Zh,al12,bl12,cl12,fl12,nl12,hN0,hN]
 refine Zc ?_
 refine zQ [1,6,10,40] ?_
 refine Zm (t:=(y2.1 == 0)) rfl (fun c25 => ?_) (fun c25 => ?_)
 ·replace h:=Zr c25 h
  refine zQ [4,5] ?_
  exact Z5 [.row n l12.length,(vB true)]
 replace h:=Zq c25 h
 refine Qo [1,6,10] [true] ?_
 obtain ⟨pu14,h⟩:=bG h
 refine Zcp [1,6,10,11] (Z3 Zx [] ?_)
 simp only [push_cast,seval,↓reduceIte,Zh,pu14,hN0,hN]
 refine Zc ?_
 refine zQd [6,10,11,44,45,46] [6,10,11,44,45,46] [true] ?_
 obtain ⟨z24,hz24,h⟩:=bC h
 refine Y1 (E':=⟨68,[],[(10,.row n z24.length)]⟩) (O':=(Zu O n [some (oR 49 1 (eI .u64) z24)])) (n0:=(n+1)) ?_ ?_
 ·refine Xj hz24 (fun s1_=>⟨68,[],[(6,(vI y2.1)),(10,.row n s1_.2.length),(11,(vI (IntKind.i64.wrap (Int.tdiv 64 y2.1)))),(44,(sL (eI .u64) a1)),(45,(vI (a1.length:Int))),(46,(vI s1_.1))]⟩) (fun s1_=>(Zu O n [some (oR 49 1 (eI .u64) s1_.2)])) (fun z24=>JX 2 n (⟨68,[],[(10,.row n z24.length)]⟩:Env) (Zu O n [some (oR 49 1 (eI .u64) z24)]) (n+1)) ?_
  intro s1_ x1_ hs1_
  unfold Zat at hs1_
  try dsimp only
  refine zQ [6,10,11,44,45,46,47] ?_
  refine Zc ?_
  refine Zm (t:=(decide (s1_.1 < (a1.length:Int)))) rfl (fun c23 => ?_) (fun c23 => ?_)
  ·replace hs1_:=Zr c23 hs1_
   refine Qo [6,10,11,44,45,46] [true] ?_
   refine Zc ?_
   refine Yo ?_
   obtain ⟨x16,hx16,ax16,bx16,cx16,hs1_⟩:=bE (f:=(eI .u64)) Ke (fun _=>rfl) (by decide) hs1_
   refine Zcp [6,10,11,12,13,44,45,46] (Z3 Zx [] ?_)
   refine zF3 ax16 bx16 cx16 ?_
   obtain ⟨pu17,hs1_⟩:=bG hs1_
   obtain ⟨x18,hx18,ax18,bx18,cx18,hs1_⟩:=bE (f:=(eI .u64)) Ke (fun _=>rfl) (by decide) hs1_
   obtain ⟨pu19,hs1_⟩:=bG hs1_
   obtain ⟨pu20,hs1_⟩:=bG hs1_
   have gu22:Va (fl (eI .u64) s1_.2) [.val (.int .u64 (IntKind.u64.wrap (Zcq .u64 x18 (IntKind.u64.wrap (x16 * 2 ^ min (Int.toNat (IntKind.i64.wrap ((Int.tmod s1_.1 (IntKind.i64.wrap (Int.tdiv 64 y2.1))) * y2.1))) 64)))))] (Int.toNat (IntKind.i64.wrap (Int.tdiv s1_.1 (IntKind.i64.wrap (Int.tdiv 64 y2.1)))) * 1)=some (fl (eI .u64) (Xu s1_.2 (IntKind.i64.wrap (Int.tdiv s1_.1 (IntKind.i64.wrap (Int.tdiv 64 y2.1)))) (IntKind.u64.wrap (Zcq .u64 x18 (IntKind.u64.wrap (x16 * 2 ^ min (Int.toNat (IntKind.i64.wrap ((Int.tmod s1_.1 (IntKind.i64.wrap (Int.tdiv 64 y2.1))) * y2.1))) 64)))))):=Zcb (f:=(eI .u64)) (ti:=⟨.bool,1,0,[],false⟩) (x:=(IntKind.u64.wrap (Zcq .u64 x18 (IntKind.u64.wrap (x16 * 2 ^ min (Int.toNat (IntKind.i64.wrap ((Int.tmod s1_.1 (IntKind.i64.wrap (Int.tdiv 64 y2.1))) * y2.1))) 64))))) (fun _=>rfl) (Zad hx18)
   refine Zbl Zx (by kernel_rfl) [false,false,false,false,false,false,false,false,false,false,false,false,false,false,false,true] [] (by kernel_rfl) ?_
   refine zF7 pu17 ax18 bx18 cx18 pu19 pu20 gu22 ?_
   refine zD [6,10,11,44,45,46] [true] ?_
   refine zR ?_
   exact zEn hs1_
  replace hs1_:=Zq c23 hs1_
  exact zEx hs1_
 try simp only [Y9,Yp,↓reduceIte,Nat.reduceEqDiff]
 refine zD [10] [true] ?_
 refine zQ [4,5] ?_
 exact Z5 [.row n z24.length,(vB true)]
theorem Zby {a0:(List Int)} {a1:(List Int)} {r:Bool} {O:Objs} {n:Nat} (h:Q7 a0 a1=some r):GTo Try.prog 9 [(sL (eI .u64) a0),(sL (eI .u64) a1)] O n ((vB r)) O n:=by
 unfold Q7 at h
 refine zFn Try.call9 Try.func9 fun hU hN0 hN => ?_
 show W _ _ _ _ ⟨26,[],[(0,(sL (eI .u64) a0)),(1,(sL (eI .u64) a1))]⟩ (Zu O n []) _
 refine zQ [0,1] ?_
 refine Zc ?_
 refine zQ [0,1,10] ?_
 refine Zm (t:=((a0.length:Int) != (a1.length:Int))) rfl (fun c8 => ?_) (fun c8 => ?_)
 ·replace h:=Zr c8 h
  refine zQ [4] ?_
  exact Z5 [(vB false)]
 replace h:=Zq c8 h
 refine Qo [0,1] [] ?_
 refine Zc ?_
 refine zQd [0,1,5] [0,1,5] [] ?_
 obtain ⟨z7,hz7,h⟩:=bC h
 refine Zl2 (J:=(Ux (fun z7=>JR n (⟨26,[],[(4,(vB false))]⟩:Env) (Zu O n []) n) (fun z7=>JX 0 n (⟨26,[],[]⟩:Env) (Zu O n []) n))) (z:=z7) ?_ fun hw => ?_
 ·refine Xj hz7 (fun s0_=>⟨26,[],[(0,(sL (eI .u64) a0)),(1,(sL (eI .u64) a1)),(5,(vI s0_))]⟩) (fun s0_=>(Zu O n [])) (Ux (fun z7=>JR n (⟨26,[],[(4,(vB false))]⟩:Env) (Zu O n []) n) (fun z7=>JX 0 n (⟨26,[],[]⟩:Env) (Zu O n []) n)) ?_
  intro s0_ x0_ hs0_
  unfold V2 at hs0_
  try dsimp only
  refine Zc ?_
  refine zQ [0,1,5,14] ?_
  refine Zm (t:=(decide (s0_ < (a0.length:Int)))) rfl (fun c6 => ?_) (fun c6 => ?_)
  ·replace hs0_:=Zr c6 hs0_
   refine Qo [0,1,5] [] ?_
   refine Zc ?_
   refine Yo ?_
   obtain ⟨x3,hx3,ax3,bx3,cx3,hs0_⟩:=bE (f:=(eI .u64)) Ke (fun _=>rfl) (by decide) hs0_
   obtain ⟨x4,hx4,ax4,bx4,cx4,hs0_⟩:=bE (f:=(eI .u64)) Ke (fun _=>rfl) (by decide) hs0_
   refine Zcp [0,1,5,25] (J8 Zx (by kernel_rfl) [] (by kernel_rfl) ?_)
   refine zF6 ax3 bx3 cx3 ax4 bx4 cx4 ?_
   refine Zm (t:=(x3 != x4)) rfl (fun c5 => ?_) (fun c5 => ?_)
   ·replace hs0_:=Zr c5 hs0_
    refine zQ [4] ?_
    refine zW ?_
    exact zEy hs0_
   replace hs0_:=Zq c5 hs0_
   refine Qo [0,1,5] [] ?_
   refine zR ?_
   exact zEn hs0_
  replace hs0_:=Zq c6 hs0_
  exact zEx hs0_
 rcases z7 with z7 | z7
 ·dsimp only [Ux] at hw h
  refine Zew hw ?_
  try simp only [Y9,Yp,↓reduceIte,Nat.reduceEqDiff]
  exact Zxu [(vB false)]
 dsimp only [Ux] at hw h
 refine Y1 hw ?_
 try simp only [Y9,Yp,↓reduceIte,Nat.reduceEqDiff]
 refine zD [] [] ?_
 refine zQ [4] ?_
 exact Z5 [(vB true)]
theorem Ur {a0:Int} {r:Int} {O:Objs} {n:Nat} (h:Xi a0=some r):GTo Try.prog 83 [(vI a0)] O n ((vI r)) O n:=by
 unfold Xi at h
 refine zFn Try.call83 Try.func83 fun hU hN0 hN => ?_
 show W _ _ _ _ ⟨16,[],[(0,(vI a0))]⟩ (Zu O n []) _
 refine zQ [0] ?_
 refine Zc ?_
 refine zQ [3] ?_
 refine Yo ?_
 refine zQ [3,4] ?_
 refine Zm (t:=(a0 == 0)) rfl (fun c6 => ?_) (fun c6 => ?_)
 ·replace h:=Zr c6 h
  refine zQ [2] ?_
  exact Z5 [(vI 0)]
 replace h:=Zq c6 h
 refine zQ [3,6] ?_
 refine Zm (t:=(a0 == 1)) rfl (fun c5 => ?_) (fun c5 => ?_)
 ·replace h:=Zr c5 h
  refine zQ [2] ?_
  exact Z5 [(vI 1)]
 replace h:=Zq c5 h
 refine zQ [3,8] ?_
 refine Zm (t:=(a0 == 2)) rfl (fun c4 => ?_) (fun c4 => ?_)
 ·replace h:=Zr c4 h
  refine zQ [2] ?_
  exact Z5 [(vI 8)]
 replace h:=Zq c4 h
 refine zQ [3,10] ?_
 refine Zm (t:=(a0 == 3)) rfl (fun c3 => ?_) (fun c3 => ?_)
 ·replace h:=Zr c3 h
  refine zQ [2] ?_
  exact Z5 [(vI 16)]
 replace h:=Zq c3 h
 refine zQ [3,12] ?_
 refine Zm (t:=(a0 == 4)) rfl (fun c2 => ?_) (fun c2 => ?_)
 ·replace h:=Zr c2 h
  refine zQ [2] ?_
  exact Z5 [(vI 32)]
 replace h:=Zq c2 h
 refine zQ [14] ?_
 refine Zm (t:=(a0 == 5)) rfl (fun c1 => ?_) (fun c1 => ?_)
 ·replace h:=Zr c1 h
  refine zQ [2] ?_
  exact Z5 [(vI 64)]
 replace h:=Zq c1 h
 refine Qo [] [] ?_
 refine zQ [2] ?_
 exact Z5 [(vI (-1))]
theorem Zd4 {a0:Int} {a1:Int} {r:Bool} {O:Objs} {n:Nat} (h:Ka a0 a1=some r):GTo Try.prog 43 [(vI a0),.val (.int .u64 a1)] O n ((vB r)) O n:=by
 unfold Ka at h
 refine zFn Try.call43 Try.func43 fun hU hN0 hN => ?_
 show W _ _ _ _ ⟨20,[],[(0,(vI a0)),(1,.val (.int .u64 a1))]⟩ (Zu O n []) _
 refine zQ [0,1] ?_
 refine Zc ?_
 obtain ⟨y2,hy2,h⟩:=bC h
 refine zCd (Ur hy2) [1,5] [] ?_
 refine Zc ?_
 refine zQ [1,5,10] ?_
 refine Zm (t:=(decide (y2 < 0))) rfl (fun c5 => ?_) (fun c5 => ?_)
 ·replace h:=Zr c5 h
  refine zQ [4] ?_
  exact Z5 [(vB false)]
 replace h:=Zq c5 h
 refine Qo [1,5] [] ?_
 refine Zc ?_
 refine zQd [1,5,6] [1,5,6] [] ?_
 obtain ⟨z4,hz4,h⟩:=bC h
 refine Y1 (E':=⟨20,[],[(1,.val (.int .u64 z4))]⟩) (O':=(Zu O n [])) (n0:=n) ?_ ?_
 ·refine Xj hz4 (fun s0_=>⟨20,[],[(1,.val (.int .u64 s0_.1)),(5,(vI y2)),(6,(vI s0_.2))]⟩) (fun s0_=>(Zu O n [])) (fun z4=>JX 0 n (⟨20,[],[(1,.val (.int .u64 z4))]⟩:Env) (Zu O n []) n) ?_
  intro s0_ x0_ hs0_
  unfold X6 at hs0_
  try dsimp only
  refine Zc ?_
  refine zQ [1,5,6,13] ?_
  refine Zm (t:=(decide (s0_.2 < y2))) rfl (fun c3 => ?_) (fun c3 => ?_)
  ·replace hs0_:=Zr c3 hs0_
   refine Qo [1,5,6] [] ?_
   refine Zc ?_
   refine Yo ?_
   refine zRd [1,5,6] [] ?_
   refine zR ?_
   exact zEn hs0_
  replace hs0_:=Zq c3 hs0_
  exact zEx hs0_
 try simp only [Y9,Yp,↓reduceIte,Nat.reduceEqDiff]
 refine zD [1] [] ?_
 refine zQ [4] ?_
 exact Z5 [(vB (z4 == 0))]
def Zfo (Qz:(Zb→Int→Option Bool)):Prop:=∀ {a0:Zb} {a1:Int} {r:Bool} {O:Objs} {n:Nat},Qz a0 a1=some r→GTo Try.prog 21 [.agg (Zi a0),(vI a1)] O n ((vB r)) O n
theorem Zny {Qz:(Zb→Int→Option Bool)} (Zm6:Zfo Qz) {a0:Zb} {a1:Int} {r:Bool} {O:Objs} {n:Nat} (h:U9 Qz a0 a1=some r):GTo Try.prog 21 [.agg (Zi a0),(vI a1)] O n ((vB r)) O n:=by
 unfold U9 at h
 refine zFn Try.call21 Try.func21 fun hU hN0 hN => ?_
 show W _ _ _ _ ⟨132,[],[(0,.agg (Zi a0)),(1,(vI a1))]⟩ (Zu O n []) _
 refine zQ [1,2] ?_
 refine Zc ?_
 refine zQ [1,2,10] ?_
 refine Zm (t:=(a0.Kind == 0)) rfl (fun c32 => ?_) (fun c32 => ?_)
 ·replace h:=Zr c32 h
  refine zQD [4] [none,none,none,none] ?_
  exact Z5 [(vB (cond ((a0.Words.length:Int) == 0) ((a0.Kids.length:Int) == 0) false))]
 replace h:=Zq c32 h
 refine Qo [1,2] [true] ?_
 refine Zc ?_
 refine zQ [1,2,23] ?_
 refine Zm (t:=(a0.Kind == 10)) rfl (fun c31 => ?_) (fun c31 => ?_)
 ·replace h:=Zr c31 h
  refine zQD [4] [none,none,none,none] ?_
  exact Z5 [(vB (cond ((a0.Words.length:Int) == 1) ((a0.Kids.length:Int) == 0) false))]
 replace h:=Zq c31 h
 refine Qo [1,2] [true] ?_
 refine Zc ?_
 refine zQD [1,2,68] [none,none,none,none,none,none,none,none,none,none,none,none,none,none,none,none,none,none,none,none,none,none] ?_
 refine Zm (t:=(cond (cond (cond (cond (cond (decide (a0.Kind < 0)) true (decide (10 < a0.Kind))) true (a1 == 0)) true (decide (65536≤(a0.Words.length:Int)))) true (cond (a0.Kind == 1) (decide (65536≤(a0.Kids.length:Int))) false)) true (decide (1048576≤(a0.Kids.length:Int))))) rfl (fun c30 => ?_) (fun c30 => ?_)
 ·replace h:=Zr c30 h
  refine zQ [4] ?_
  exact Z5 [(vB false)]
 replace h:=Zq c30 h
 refine Qo [1,2] [true] ?_
 refine Zc ?_
 refine zQD [1,2,77] [none,none,none,none] ?_
 refine Zm (t:=(cond (decide (1 < a0.Kind)) (decide (0 < (a0.Words.length:Int))) false)) rfl (fun c29 => ?_) (fun c29 => ?_)
 ·replace h:=Zr c29 h
  refine zQ [4] ?_
  exact Z5 [(vB false)]
 replace h:=Zq c29 h
 refine Qo [1,2] [true] ?_
 refine Zc ?_
 refine zQd [1,2,5] [1,2,5] [true] ?_
 obtain ⟨z28,hz28,h⟩:=bC h
 refine Zl2 (J:=(Ux (fun z28=>JR n (⟨132,[],[(4,(vB false))]⟩:Env) (Zu O n [none]) (n+1)) (fun z28=>JX 0 n (⟨132,[],[]⟩:Env) (Zu O n [none]) (n+1)))) (z:=z28) ?_ fun hw => ?_
 ·refine Xj hz28 (fun s0_=>⟨132,[],[(1,(vI a1)),(2,.ref n 0),(5,(vI s0_))]⟩) (fun s0_=>(Zu O n [some ⟨false,25,3,1,(Zi a0)⟩])) (Ux (fun z28=>JR n (⟨132,[],[(4,(vB false))]⟩:Env) (Zu O n [none]) (n+1)) (fun z28=>JX 0 n (⟨132,[],[]⟩:Env) (Zu O n [none]) (n+1))) ?_
  intro s0_ x0_ hs0_
  unfold K3 at hs0_
  try dsimp only
  refine Zc ?_
  refine zQ [1,2,5,82] ?_
  refine Zm (t:=(decide (s0_ < (a0.Kids.length:Int)))) rfl (fun c27 => ?_) (fun c27 => ?_)
  ·replace hs0_:=Zr c27 hs0_
   refine Qo [1,2,5] [true] ?_
   refine Zc ?_
   refine Yo ?_
   refine Zc ?_
   obtain ⟨x2,hx2,ax2,bx2,cx2,hs0_⟩:=bE (f:=Zn) Zb7 (fun _=>rfl) (by decide) hs0_
   refine Z5p [] ax2 bx2 cx2 ?_
   refine zDs [1,2,5,6] [true,true] ?_
   refine Zc ?_
   obtain ⟨y4,hy4,hs0_⟩:=bC hs0_
   refine zCd (Zm6 hy4) [1,2,5,6,94] [true,true] ?_
   refine Zm (t:=(!y4)) rfl (fun c26 => ?_) (fun c26 => ?_)
   ·replace hs0_:=Zr c26 hs0_
    refine zQ [4] ?_
    refine zW ?_
    exact zEy hs0_
   replace hs0_:=Zq c26 hs0_
   refine Qo [1,2,5,6] [true,true] ?_
   refine zQD [1,2,5,6,7] [none,none,none] ?_
   obtain ⟨z9,hz9,hs0_⟩:=bC hs0_
   refine Qb (E':=⟨132,[],[(1,(vI a1)),(2,.ref n 0),(5,(vI s0_)),(131,(vB z9))]⟩) (O':=(Zu O n [some ⟨false,25,3,1,(Zi a0)⟩,none])) (n0:=(n+2)) ?_ ?_
   ·rcases Bool.eq_false_or_eq_true ((cond (decide (2≤a0.Kind)) (decide (a0.Kind≤7)) false) != (x2.Kind == 10)) with c18 | c18
    ·replace hz9:=Zr c18 hz9
     refine J8 Zx (by kernel_rfl) [none,none,none,none,none,none,none,none,some false,some false,some false,some false,some false,some false,some false,some false,some false,some false,some false,some false] (by kernel_rfl) ?_
     refine zX1 c18 ?_
     refine zG ?_
     exact Zaw hz9 c18
    replace hz9:=Zq c18 hz9
    rcases Bool.eq_false_or_eq_true (a0.Kind == 9) with c19 | c19
    ·replace hz9:=Zr c19 hz9
     try rw [c19] at c18
     try simp only [Bool.cond_true,Bool.cond_false,Bool.true_bne,Bool.false_bne,Bool.true_beq,Bool.false_beq,Bool.not_eq_true',Bool.not_eq_false'] at c18
     rcases Bool.eq_false_or_eq_true (x2.Kind != 1) with c20 | c20
     ·replace hz9:=Zr c20 hz9
      try rw [c20] at c18
      try rw [c20] at c19
      try simp only [Bool.cond_true,Bool.cond_false,Bool.true_bne,Bool.false_bne,Bool.true_beq,Bool.false_beq,Bool.not_eq_true',Bool.not_eq_false'] at c18
      refine J8 Zx (by kernel_rfl) [none,none,none,none,none,none,none,none,some false,some false,some false,some false,some false,some false,some false,some false,some false,some false,some false,some false] (by kernel_rfl) ?_
      refine zX3 c18 c19 c20 ?_
      refine zG ?_
      exact Zxe hz9 c18 c19 c20
     replace hz9:=Zq c20 hz9
     try rw [c20] at c18
     try rw [c20] at c19
     try simp only [Bool.cond_true,Bool.cond_false,Bool.true_bne,Bool.false_bne,Bool.true_beq,Bool.false_beq,Bool.not_eq_true',Bool.not_eq_false'] at c18
     rcases Bool.eq_false_or_eq_true (decide (2≤a0.Kind)) with c21 | c21
     ·replace hz9:=Zr c21 hz9
      try rw [c21] at c18
      try rw [c21] at c19
      try rw [c21] at c20
      try simp only [Bool.cond_true,Bool.cond_false,Bool.true_bne,Bool.false_bne,Bool.true_beq,Bool.false_beq,Bool.not_eq_true',Bool.not_eq_false'] at c18
      rcases Bool.eq_false_or_eq_true (decide (a0.Kind≤7)) with c22 | c22
      ·replace hz9:=Zr c22 hz9
       try rw [c22] at c18
       try rw [c22] at c19
       try rw [c22] at c20
       try rw [c22] at c21
       try simp only [Bool.cond_true,Bool.cond_false,Bool.true_bne,Bool.false_bne,Bool.true_beq,Bool.false_beq,Bool.not_eq_true',Bool.not_eq_false'] at c18
       obtain ⟨x14,hx14,ax14,bx14,cx14,hz9⟩:=bE (f:=(eI .u64)) Ke (fun _=>rfl) (by decide) hz9
       obtain ⟨y15,hy15,hz9⟩:=bC hz9
       refine J8 Zx (by kernel_rfl) [none,none,none,none,none,none,none,none,some true,some true,some true,some true,some true,some true,some true,some true,some true,some true,some true,some true] (by kernel_rfl) ?_
       refine zF8 c18 c19 c20 c21 c22 ax14 bx14 cx14 ?_
       refine zG ?_
       refine PCall.of (Zd4 hy15) ?_
       refine zF8 c18 c19 c20 c21 c22 ax14 bx14 cx14 ?_
       refine zG ?_
       exact Yc2 hz9 c18 c19 c20 c21 c22 ax14 bx14 cx14
      replace hz9:=Zq c22 hz9
      try rw [c22] at c18
      try rw [c22] at c19
      try rw [c22] at c20
      try rw [c22] at c21
      try simp only [Bool.cond_true,Bool.cond_false,Bool.true_bne,Bool.false_bne,Bool.true_beq,Bool.false_beq,Bool.not_eq_true',Bool.not_eq_false'] at c18
      refine J8 Zx (by kernel_rfl) [none,none,none,none,none,none,none,none,some true,some true,some false,some false,some false,some false,some false,some false,some false,some false,some false,some true] (by kernel_rfl) ?_
      refine zX5 c18 c19 c20 c21 c22 ?_
      refine zG ?_
      exact Yc3 hz9 c18 c19 c20 c21 c22
     replace hz9:=Zq c21 hz9
     try rw [c21] at c18
     try rw [c21] at c19
     try rw [c21] at c20
     try simp only [Bool.cond_true,Bool.cond_false,Bool.true_bne,Bool.false_bne,Bool.true_beq,Bool.false_beq,Bool.not_eq_true',Bool.not_eq_false'] at c18
     refine J8 Zx (by kernel_rfl) [none,none,none,none,none,none,none,none,some true,some true,some false,some false,some false,some false,some false,some false,some false,some false,some false,some true] (by kernel_rfl) ?_
     refine zX4 c18 c19 c20 c21 ?_
     refine zG ?_
     exact Z5o hz9 c18 c19 c20 c21
    replace hz9:=Zq c19 hz9
    try rw [c19] at c18
    try simp only [Bool.cond_true,Bool.cond_false,Bool.true_bne,Bool.false_bne,Bool.true_beq,Bool.false_beq,Bool.not_eq_true',Bool.not_eq_false'] at c18
    rcases Bool.eq_false_or_eq_true (decide (2≤a0.Kind)) with c23 | c23
    ·replace hz9:=Zr c23 hz9
     try rw [c23] at c18
     try rw [c23] at c19
     try simp only [Bool.cond_true,Bool.cond_false,Bool.true_bne,Bool.false_bne,Bool.true_beq,Bool.false_beq,Bool.not_eq_true',Bool.not_eq_false'] at c18
     rcases Bool.eq_false_or_eq_true (decide (a0.Kind≤7)) with c24 | c24
     ·replace hz9:=Zr c24 hz9
      try rw [c24] at c18
      try rw [c24] at c19
      try rw [c24] at c23
      try simp only [Bool.cond_true,Bool.cond_false,Bool.true_bne,Bool.false_bne,Bool.true_beq,Bool.false_beq,Bool.not_eq_true',Bool.not_eq_false'] at c18
      obtain ⟨x16,hx16,ax16,bx16,cx16,hz9⟩:=bE (f:=(eI .u64)) Ke (fun _=>rfl) (by decide) hz9
      obtain ⟨y17,hy17,hz9⟩:=bC hz9
      refine J8 Zx (by kernel_rfl) [none,none,none,none,none,none,none,none,some true,some true,some true,some true,some true,some true,some true,some true,some true,some true,some true,some true] (by kernel_rfl) ?_
      refine zF7 c18 c19 c23 c24 ax16 bx16 cx16 ?_
      refine zG ?_
      refine PCall.of (Zd4 hy17) ?_
      refine zF7 c18 c19 c23 c24 ax16 bx16 cx16 ?_
      refine zG ?_
      exact Z9e hz9 c18 c19 c23 c24 ax16 bx16 cx16
     replace hz9:=Zq c24 hz9
     try rw [c24] at c18
     try rw [c24] at c19
     try rw [c24] at c23
     try simp only [Bool.cond_true,Bool.cond_false,Bool.true_bne,Bool.false_bne,Bool.true_beq,Bool.false_beq,Bool.not_eq_true',Bool.not_eq_false'] at c18
     refine J8 Zx (by kernel_rfl) [none,none,none,none,none,none,none,none,some true,some true,some false,some false,some false,some false,some false,some false,some false,some false,some false,some true] (by kernel_rfl) ?_
     refine zX4 c18 c19 c23 c24 ?_
     refine zG ?_
     exact Z5o hz9 c18 c19 c23 c24
    replace hz9:=Zq c23 hz9
    try rw [c23] at c18
    try rw [c23] at c19
    try simp only [Bool.cond_true,Bool.cond_false,Bool.true_bne,Bool.false_bne,Bool.true_beq,Bool.false_beq,Bool.not_eq_true',Bool.not_eq_false'] at c18
    refine J8 Zx (by kernel_rfl) [none,none,none,none,none,none,none,none,some true,some true,some false,some false,some false,some false,some false,some false,some false,some false,some false,some true] (by kernel_rfl) ?_
    refine zX3 c18 c19 c23 ?_
    refine zG ?_
    exact Zxe hz9 c18 c19 c23
   refine Zm (t:=z9) rfl (fun c25 => ?_) (fun c25 => ?_)
   ·replace hs0_:=Zr c25 hs0_
    refine zQ [4] ?_
    refine zW ?_
    exact zEy hs0_
   replace hs0_:=Zq c25 hs0_
   refine Qo [1,2,5] [true,false] ?_
   refine zR ?_
   exact zEn hs0_
  replace hs0_:=Zq c27 hs0_
  exact zEx hs0_
 rcases z28 with z28 | z28
 ·dsimp only [Ux] at hw h
  refine Zew hw ?_
  try simp only [Y9,Yp,↓reduceIte,Nat.reduceEqDiff]
  exact Zxu [(vB false)]
 dsimp only [Ux] at hw h
 refine Y1 hw ?_
 try simp only [Y9,Yp,↓reduceIte,Nat.reduceEqDiff]
 refine zD [] [false] ?_
 refine zQ [4] ?_
 exact Z5 [(vB true)]
theorem Zma:∀ k,(Zfo (Q5 k)):=fun k=>by
 induction k with
 | zero=>exact @fun a0 a1 r O n h=>(nomatch (show (none:Option _)=some _ from h))
 | succ k ih=>exact @fun a0 a1 r O n h=>Zny (ih)  h
theorem Zqv {a0:Zb} {a1:Int} {r:Bool} {O:Objs} {n:Nat} (h:Zd1 a0 a1=some r):GTo Try.prog 21 [.agg (Zi a0),(vI a1)] O n ((vB r)) O n:=by
 obtain ⟨k,hk⟩:=Zix h
 exact (Zma k)  hk
theorem Zrq {a0:(List Int)} {r:(List Int)} {O:Objs} {n:Nat} (h:Zaf a0=some r):GTo Try.prog 44 [(sL (eI .u64) a0)] O n ((sL (eI .u64) r)) O n:=by
 unfold Zaf at h
 refine zFn Try.call44 Try.func44 fun hU hN0 hN => ?_
 show W _ _ _ _ ⟨24,[],[(0,(sL (eI .u64) a0))]⟩ (Zu O n []) _
 refine zQ [0] ?_
 refine zQ [0,3] ?_
 refine Zc ?_
 refine zD [0,3] [] ?_
 obtain ⟨z7,hz7,h⟩:=bC h
 refine Y1 (E':=⟨24,[],[(0,(sL (eI .u64) a0)),(3,(vI z7))]⟩) (O':=(Zu O n [])) (n0:=n) ?_ ?_
 ·refine Xj hz7 (fun s0_=>⟨24,[],[(0,(sL (eI .u64) a0)),(3,(vI s0_))]⟩) (fun s0_=>(Zu O n [])) (fun z7=>JX 0 n (⟨24,[],[(0,(sL (eI .u64) a0)),(3,(vI z7))]⟩:Env) (Zu O n []) n) ?_
  intro s0_ x0_ hs0_
  unfold V3 at hs0_
  try dsimp only
  refine Zc ?_
  obtain ⟨z2,hz2,hs0_⟩:=bC hs0_
  refine Qb (E':=⟨24,[],[(0,(sL (eI .u64) a0)),(3,(vI s0_)),(16,(vB z2))]⟩) (O':=(Zu O n [])) (n0:=n) ?_ ?_
  ·rcases Bool.eq_false_or_eq_true (decide (0 < s0_)) with c5 | c5
   ·replace hz2:=Zr c5 hz2
    obtain ⟨x4,hx4,ax4,bx4,cx4,hz2⟩:=bE (f:=(eI .u64)) Ke (fun _=>rfl) (by decide) hz2
    refine Zrc [some true,some true,some true,some true,some true,some true] c5 ax4 bx4 cx4 ?_
    exact Z5m hz2 c5 ax4 bx4 cx4
   replace hz2:=Zq c5 hz2
   refine Zb9 [some false,some false,some false,some false,some false,some false] c5 ?_
   exact Zaw hz2 c5
  refine Zm (t:=z2) rfl (fun c6 => ?_) (fun c6 => ?_)
  ·replace hs0_:=Zr c6 hs0_
   refine Qo [0,3] [] ?_
   refine Yo ?_
   refine zR ?_
   exact zEn hs0_
  replace hs0_:=Zq c6 hs0_
  exact zEx hs0_
 try simp only [Y9,Yp,↓reduceIte,Nat.reduceEqDiff]
 refine zD [0,3] [] ?_
 refine zQ [0,3,4] ?_
 refine Zc ?_
 obtain ⟨l10,al10,bl10,cl10,gl10,h⟩:=bS (lo:=none) (hi:=(some (.i64,z7))) (f:=(eI .u64)) rfl rfl Zfk Ke (fun _=>rfl) h
 obtain ⟨l11,pl11,ql11,el11,h⟩:=bA0 (k:=l10.length) rfl h
 refine Yc9 [] al10 bl10 cl10 gl10 pl11 ql11 el11 ?_
 refine Zav ⟨24,[],[(2,.row n l11.length)]⟩ (Zu O n [some (oR 49 1 (eI .u64) l11)]) (Ye hU rfl rfl ?_) ?_
 ·simp only [push_cast,seval,↓reduceIte,Zh,al10,bl10,cl10,gl10,pl11,ql11,el11,hN0,hN]
 exact Z5 [.row n l11.length]
end Go.Proofs.Ytnapihlnlajlpaa
