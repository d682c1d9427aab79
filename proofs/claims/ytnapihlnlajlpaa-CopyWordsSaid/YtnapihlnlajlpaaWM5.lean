/- Part WM5 of this seat's mirrors: functions of the seat's program, and the plain functions that they are; each theorem bears its own conditions. -/
import Derived.Test.YtnapihlnlajlpaaWE
import Derived.Test.YtnapihlnlajlpaaWM4
namespace Go.Proofs.Ytnapihlnlajlpaa
open Go.RowKit
set_option linter.unusedVariables false
set_option linter.unusedSimpArgs false
set_option maxRecDepth 100000
set_option maxHeartbeats 4000000
attribute [local push_cast] Try.results109 Try.results11 Try.results110 Try.results112 Try.results113 Try.results114 Try.results13 Try.results14 Try.results27 Try.results29 Try.results30 Try.results31 Try.results32 Try.results57 Try.results60 Try.results61 Try.results62 Try.results65 Try.results90 Try.results91 Try.results92 Try.results93 Try.results94 vI vB nV sL oR Xa Zi Zv Yd Zf Zop Zoo Zo8 Zo7 Y9 Yp Zkh Zf0 Zfz onW X2 Zdo Zdd Zq5 Znd Zif Zij Zie Zii Zlh Zlc Zih Zlg Zlf Zle Zig Zla Zgq evS wok Q1 Op.operands Call.operands gop onK onP atK List.all_cons List.all_nil Bool.and_true Bool.true_and Bool.and_self Value.oneCell' List.take_zero List.take_succ_cons List.take_nil List.drop_zero List.drop_succ_cons List.drop_nil List.append_nil Nat.add_zero Nat.zero_add Gb Yi ev Q4 Zm1 Zoi Zoh Zon Zol Zom Zoj Zok Zog Zsf Zs9 Zv9 Ziv Zcz Ziu Zdj Zh3 Zf2 Zd8 Zed Zfw Zfs Zeb Zfv Zfu Zft Zea Zfq Zd9 Zec Zdb Zfr Zl7 Zf1 Zap Zhs Zaq Zjt Zit Zvd bLo bHi bMx Zc0 Zjs Zxg Zir Zkg Ze0 Uu Zsg Zxh Zhr Zez Zxj Zcy Zz7 Zko Zks Zkn Zkr Zoz Zov Zot Zh5 Zkp Zoy Zox Zow Zkq Zou Zkj Zrh Zk6 Zgl Zgk pop TK.isAgg Zo1 Zo5 Zo0 Zo4 Zkz Ztl Zth Zo3 Ztk Ztj Zti Zo2 Ztg G.under G.unders List.getD_cons_zero List.getD_cons_succ List.set_cons_zero List.set_cons_succ List.map_cons List.map_nil List.toList_toArray Array.toList_append Option.toArray_none Option.toArray_some Array.toList_map Option.map_some Option.map_none Option.bind_some Option.bind_none List.getElem?_cons_zero List.getElem?_cons_succ List.getElem?_nil List.nil_append List.cons_append List.replicate_succ List.replicate_zero List.length_cons List.length_nil and_true true_and and_false false_and Bool.true_eq_false Bool.false_eq_true forall_const false_implies implies_true IntKind.bits if_true if_false ite_true ite_false eq_self true_implies false_or or_false or_true true_or not_true_eq_false not_false_eq_true decide_true decide_false decide_eq_true_eq decide_eq_false_iff_not beq_iff_eq bne_iff_ne ne_eq Bool.not_eq_true Bool.not_eq_false beq_eq_false_iff_ne bne_eq_false_iff_eq beq_self_eq_true bne_self_eq_false Option.some.injEq exists_eq_left' exists_eq_left ge_iff_le gt_iff_lt decide_not Bool.not_true Bool.not_false imp_self Ztd cond_true cond_false Z5y Z5x Bool.not_not Bool.and_false Bool.false_and Bool.or_true Bool.true_or Bool.or_false Bool.false_or Zcs Zji Zdt Zct Jn Qs Option.join_some Nat.add_assoc Int.toNat_natCast eI eB eS eL Xm Zfy Zeg Zos Zoq Zor Z0t Z2l Zgh Zel Zpe Zpc Zpd Zwo Zm0 Zuv Zmw Zvc Zca Zre List.length_append G.agg.injEq G.row.injEq G.ref.injEq G.val.injEq G.sl.injEq G.tup.injEq Value.int.injEq Value.bool.injEq Value.string.injEq List.cons.injEq exists_and_left exists_const List.flatten_cons List.flatten_nil Int.le_refl Nat.le_refl Zb8 Xv Je Bool.not_eq_true' Bool.not_eq_false' Zqo Zhb Zuj Zun Zui Zum Zzt Zzo List.size_toArray Zrv Zra G.ren G.rens Ztn Zgm Zpj Zoe Zof Zlb Zuo Zge G.fn.injEq Zjd Zlz Zqn Zzp Zly Zul Zzs Zzr Zzq Zuk Zte Zx8 Option.join_none Y4 Zac undef Zkl Arr.len Arr.put_eq Zgg Zh7 Zgf Zek Zpb Zo9 Zpa onB Z0s Zse Qa Zdc Zj0 Zj1 Zj2 Zj3 Zj4 Zj5 Zh6 Zia Zh8 Zgj Zem Zh9 Zk4 Zk3 Zk2 Zk1 Z2k Z3s Zwn Zve Vv Zwi Zrn Zib Zgi Zxq Zrb Zio Zke Zdx Zi5 Zj6 Zj7 Zj8 Zj9 Zhv Zhw Zhx Zhy Zhz Zh0 Zh1 Zfm prT Ze2 Z6t Zt7 Z2x Zt8 Z6u Zt9 Z6v Zua Z6w Zub Z6x Zuc Z6y Zud Z6z Zue Zym Zpn Zyn Zpo Zyo Zpp Zyp Zpq Zyq Zpr Zyr Zps Zys Zpt Zyt Zpu Zyu Zpv Zyv Zpw Zyw Zpx Zco Zfk Zmy Zms Zyx Zpy Zb7 Zpz Zyy Zp0 Zyz Zp1 Zy0 Zp2 Zy1 Zmt Zy2 Zp3 Zy3 Zp4 Zy4 Zp5 Ke Zp6 Zy5 Zp7 Zy6 Zp8 Zy7 Zp9 Zy8 Zqa Zy9 Zqb Zza Zqc Zzb Zqd Zzc Zqe Zzd Zqf Zze Zqg Zzf Zqh Zzg Zqi Zzh Zqj Zzi Zqk Zzj Zql Zzk Zqm Zts Zlj Ztt Zlk Ztu Zll Ztv Zlm Ztw Zln Ztx Zlo Zty Zlp Ztz Zlq Zt0 Zlr Zt1 Zls Zt2 Zlt Zt3 Zlu Zt4 Zlv Zt5 Zlw Zt6 Zlx Zn Xd Zgw Zgu Zf4 Zgd Zgy Zes Zeq Zeo Zgs U7 U6 Uy U0 U8 Ue Ud Uc U5 Zgv Zgt Zf3 Zgc Zgx Zer Zep Zen Zgr Zef Gw Jf Zch Zcg Zcc Zce Zci Zbh Zbe Zbd Zcf K7 K8 Zo Ky Kx Kh Ko Kz J7 J6 J5 Ku Zee Za1 Yh Vp Vn Vc Vj Vr Kw Kt Kr Vl Yg Vo Vm Vb Vi Vq Kv Ks Kq Vk
def Za9 (Yk:((List (List Int))→Zt→Int→Int→Option (Zb×Int×Int))):Prop:=∀ {a0:(List (List Int))} {a1:Zt} {a2:Int} {a3:Int} {r:(Zb×Int×Int)} {O:Objs} {n:Nat},Yk a0 a1 a2 a3=some r→GTo Try.prog 27 [(sL (eL (eI .u64)) a0),.agg (Zv a1),(vI a2),(vI a3)] O n (.tup [.agg (Zi r.1),(vI r.2.1),(vI r.2.2)]) O n
def Zc8 (Xg:((List (List Int))→Zt→Int→Int→Option (Zb×Int×Int))):Prop:=∀ {a0:(List (List Int))} {a1:Zt} {a2:Int} {a3:Int} {r:(Zb×Int×Int)} {O:Objs} {n:Nat},Xg a0 a1 a2 a3=some r→GTo Try.prog 57 [(sL (eL (eI .u64)) a0),.agg (Zv a1),(vI a2),(vI a3)] O n (.tup [.agg (Zi r.1),(vI r.2.1),(vI r.2.2)]) O n
theorem Zmf {Yk:((List (List Int))→Zt→Int→Int→Option (Zb×Int×Int))} {Xg:((List (List Int))→Zt→Int→Int→Option (Zb×Int×Int))} (Zba:Za9 Yk) (Zg8:Zc8 Xg) {a0:(List (List Int))} {a1:Zt} {a2:Int} {a3:Int} {r:(Zb×Int×Int)} {O:Objs} {n:Nat} (h:Jp Yk Xg a0 a1 a2 a3=some r):GTo Try.prog 27 [(sL (eL (eI .u64)) a0),.agg (Zv a1),(vI a2),(vI a3)] O n (.tup [.agg (Zi r.1),(vI r.2.1),(vI r.2.2)]) O n:=by
 unfold Jp at h
 refine zFn Try.call27 Try.func27 fun hU hN0 hN => ?_
 show W _ _ _ _ ⟨149,[],[(0,(sL (eL (eI .u64)) a0)),(1,.agg (Zv a1)),(2,(vI a2)),(3,(vI a3))]⟩ (Zu O n []) _
 refine zQ [0,2,3,5,8] ?_
 refine Zc ?_
 obtain ⟨y2,hy2,h⟩:=bC h
 refine Zl1 Zx (by kernel_rfl) [.low,.low,.low,.plain,.low,.plain,.pass,.bar] (fun i=>i < (n+2)) [0,1,2,3,4,5,6,7] [.low,.low,.low,.plain,.low,.plain,.pass,.bar] [] (by kernel_rfl) rfl ?_
 refine zS ?_
 refine zO ?_
 first | refine PCallA.of (fun _ _=>J4 hy2) ?_ | refine PCall.of (J4 hy2) ?_
 refine zS ?_
 refine zO ?_
 refine zDs [0,2,3,5,8,11] [true,true,true] ?_
 refine zQ [0,2,3,5,8,11,25] ?_
 refine Zm (t:=(a1.Kind == 0)) rfl (fun c27 => ?_) (fun c27 => ?_)
 ·replace h:=Zr c27 h
  refine Zc ?_
  refine zRd [8,9,10] [false,true,false] ?_
  exact Z5 [.agg [(vI a1.Kind),(sL (eI .u64) y2),nV],(vI a3),(vI 0)]
 replace h:=Zq c27 h
 refine Qo [0,2,3,5,8,11] [true,true,true] ?_
 refine Zc ?_
 refine zQD [0,2,3,5,8,11,43] [none,none,none,none,none,none,none,none,none,none,none,none] ?_
 refine Zm (t:=(cond (decide (a2 < 1)) true (cond (cond (a1.Kind == 9) (decide (0 < a1.Count)) false) (decide (a2 < 2)) false))) rfl (fun c26 => ?_) (fun c26 => ?_)
 ·replace h:=Zr c26 h
  refine Zc ?_
  refine zRd [8,9,10] [false,true,false] ?_
  exact Z5 [.agg [(vI a1.Kind),(sL (eI .u64) y2),nV],(vI a3),(vI 3)]
 replace h:=Zq c26 h
 refine Qo [0,2,3,5,8,11] [true,true,true] ?_
 refine Zc ?_
 obtain ⟨y4,hy4,h⟩:=bC h
 refine zCd (Zbz hy4) [0,2,3,5,8,11,12] [true,true,true] ?_
 obtain ⟨z5,hz5,h⟩:=bC h
 refine Qb (E':=⟨149,[],[(0,(sL (eL (eI .u64)) a0)),(2,(vI a2)),(3,(vI a3)),(5,.ref n 0),(8,.ref (n+1) 0),(11,.ref (n+2) 0),(12,(vI z5))]⟩) (O':=(Zu O n [some ⟨false,57,7,1,(Zv a1)⟩,some ⟨false,25,3,1,[(vI 0),nV,nV]⟩,some ⟨false,25,3,1,[(vI a1.Kind),(sL (eI .u64) y2),nV]⟩])) (n0:=(n+3)) ?_ ?_
 ·refine zQ [0,2,3,5,8,11,12,51] ?_
  refine Zm (t:=(a1.Kind == 1)) rfl (fun c6 => ?_) (fun c6 => ?_)
  ·replace hz5:=Zr c6 hz5
   refine zR ?_
   exact zEn hz5
  replace hz5:=Zq c6 hz5
  refine zK ?_
  exact zEn hz5
 obtain ⟨z7,hz7,h⟩:=bC h
 refine Qb (E':=⟨149,[],[(0,(sL (eL (eI .u64)) a0)),(2,(vI a2)),(3,(vI a3)),(5,.ref n 0),(8,.ref (n+1) 0),(11,.ref (n+2) 0),(12,(vI z7))]⟩) (O':=(Zu O n [some ⟨false,57,7,1,(Zv a1)⟩,some ⟨false,25,3,1,[(vI 0),nV,nV]⟩,some ⟨false,25,3,1,[(vI a1.Kind),(sL (eI .u64) y2),nV]⟩])) (n0:=(n+3)) ?_ ?_
 ·refine zQ [0,2,3,5,8,11,12,60] ?_
  refine Zm (t:=(a1.Kind == 9)) rfl (fun c8 => ?_) (fun c8 => ?_)
  ·replace hz7:=Zr c8 hz7
   refine zR ?_
   exact zEn hz7
  replace hz7:=Zq c8 hz7
  refine zK ?_
  exact zEn hz7
 refine Zc ?_
 refine zQ [0,2,3,5,8,11,12,73] ?_
 refine Zm (t:=(decide (a3 < z7))) rfl (fun c25 => ?_) (fun c25 => ?_)
 ·replace h:=Zr c25 h
  refine Zc ?_
  refine zRd [8,9,10] [false,true,false] ?_
  exact Z5 [.agg [(vI a1.Kind),(sL (eI .u64) y2),nV],(vI a3),(vI 3)]
 replace h:=Zq c25 h
 refine Qo [0,2,3,5,8,11,12] [true,true,true] ?_
 refine zQ [0,2,3,5,8,11] ?_
 refine Zc ?_
 refine zQd [0,2,3,5,8,11,13] [0,2,3,5,8,11,13] [true,true,true] ?_
 refine Gv (E':=(⟨149,[],[(0,(sL (eL (eI .u64)) a0)),(2,(vI a2)),(3,(vI (IntKind.i64.wrap (a3 - z7)))),(5,.ref n 0),(8,.ref (n+1) 0),(11,.ref (n+2) 0),(13,(vI 0))]⟩:Env)) (O':=(Zu O n [some ⟨false,57,7,1,(Zv a1)⟩,some ⟨false,25,3,1,[(vI 0),nV,nV]⟩,some ⟨false,25,3,1,[(vI a1.Kind),(sL (eI .u64) y2),.row (n+3) ([]:List Zb).length]⟩,some (oR 25 3 Zn ([]:List Zb)),none])) (n':=(n+5)) ?_ ?_
 ·refine Fit2.trans (E':=(⟨149,[],[(0,(sL (eL (eI .u64)) a0)),(2,(vI a2)),(3,(vI (IntKind.i64.wrap (a3 - z7)))),(5,.ref n 0),(8,.ref (n+1) 0),(11,.ref (n+2) 0),(13,(vI 0))]⟩:Env)) (O':=(Zu O n [some ⟨false,57,7,1,(Zv a1)⟩,some ⟨false,25,3,1,[(vI 0),nV,nV]⟩,some ⟨false,25,3,1,[(vI a1.Kind),(sL (eI .u64) y2),nV]⟩])) (n':=(n+3)) (Fit2.of (Ye hU rfl rfl ?_) (by omega)) ?_
  ·exact zSe
  refine Fit2.trans (Zvu (p:=(n+2)) (k:=2) (q:=⟨false,25,3,1,[(vI a1.Kind),(sL (eI .u64) y2),nV]⟩) 25 3 (by simp only [Zcs,Zji,List.getElem?_cons_zero,List.getElem?_cons_succ,Option.join_some,List.length_nil,Y4]) rfl (by omega)) ?_
  simp only [Jn,Qs,Zdt,Zct,List.set_cons_zero,List.set_cons_succ,List.cons_append,List.nil_append,List.length_cons,List.length_nil,Nat.zero_add,Nat.reduceAdd,Nat.reduceLT,Nat.add_assoc]
  refine K1 (k:=4) (k':=5) hU [0,1,2,3] [0,1,2,3,0] rfl rfl rfl rfl ⟨rfl,rfl⟩ ?_
  exact zSe
 obtain ⟨z24,hz24,h⟩:=bC h
 refine Zl2 (J:=(Ux (fun z24=>JR n (⟨149,[],[(8,.ref (n+1) 0),(9,(vI z24.1)),(10,(vI z24.2.1))]⟩:Env) (Zu O n [none,some ⟨false,25,3,1,[(vI a1.Kind),(sL (eI .u64) y2),(sL Zn z24.2.2)]⟩,none]) (n+3)) (fun z24=>JX 0 n (⟨149,[],[(3,(vI z24.1)),(8,.ref (n+1) 0),(11,.ref (n+2) 0)]⟩:Env) (Zu O n [none,some ⟨false,25,3,1,[(vI 0),nV,nV]⟩,some ⟨false,25,3,1,[(vI a1.Kind),(sL (eI .u64) y2),.row (n+3) z24.2.length]⟩,some (oR 25 3 Zn z24.2),none]) (n+5)))) (z:=z24) ?_ fun hw => ?_
 ·refine Xj hz24 (fun s0_=>⟨149,[],[(0,(sL (eL (eI .u64)) a0)),(2,(vI a2)),(3,(vI s0_.1)),(5,.ref n 0),(8,.ref (n+1) 0),(11,.ref (n+2) 0),(13,(vI s0_.2.1))]⟩) (fun s0_=>(Zu O n [some ⟨false,57,7,1,(Zv a1)⟩,some ⟨false,25,3,1,[(vI 0),nV,nV]⟩,some ⟨false,25,3,1,[(vI a1.Kind),(sL (eI .u64) y2),.row (n+3) s0_.2.2.length]⟩,some (oR 25 3 Zn s0_.2.2),none])) (Ux (fun z24=>JR n (⟨149,[],[(8,.ref (n+1) 0),(9,(vI z24.1)),(10,(vI z24.2.1))]⟩:Env) (Zu O n [none,some ⟨false,25,3,1,[(vI a1.Kind),(sL (eI .u64) y2),(sL Zn z24.2.2)]⟩,none]) (n+3)) (fun z24=>JX 0 n (⟨149,[],[(3,(vI z24.1)),(8,.ref (n+1) 0),(11,.ref (n+2) 0)]⟩:Env) (Zu O n [none,some ⟨false,25,3,1,[(vI 0),nV,nV]⟩,some ⟨false,25,3,1,[(vI a1.Kind),(sL (eI .u64) y2),.row (n+3) z24.2.length]⟩,some (oR 25 3 Zn z24.2),none]) (n+5))) ?_
  intro s0_ x0_ hs0_
  unfold Jq at hs0_
  try dsimp only
  refine Zc ?_
  refine Zc ?_
  obtain ⟨y10,hy10,hs0_⟩:=bC hs0_
  refine zCd (Zbz hy10) [0,2,3,5,8,11,13,82] [true,true,true,true,false] ?_
  refine Zm (t:=(decide (s0_.2.1 < y10))) rfl (fun c23 => ?_) (fun c23 => ?_)
  ·replace hs0_:=Zr c23 hs0_
   refine Qo [0,2,3,5,8,11,13] [true,true,true,true,false] ?_
   refine Zc ?_
   refine Yo ?_
   refine Zc ?_
   obtain ⟨y12,hy12,hs0_⟩:=bC hs0_
   refine zCd (Zfp hy12) [0,2,3,5,8,11,13,14,15] [true,true,true,true,false,true] ?_
   refine Zc ?_
   refine zQ [0,2,3,5,8,11,13,14,15,93] ?_
   refine Zm (t:=(y12.2 != 0)) rfl (fun c22 => ?_) (fun c22 => ?_)
   ·replace hs0_:=Zr c22 hs0_
    refine Zc ?_
    refine zRd [8,9,10] [false,true,false,true,false,false] ?_
    refine zW ?_
    exact zEy hs0_
   replace hs0_:=Zq c22 hs0_
   refine Qo [0,2,3,5,8,11,13,14,15] [true,true,true,true,false,true] ?_
   refine Zc ?_
   obtain ⟨y14,hy14,hs0_⟩:=bC hs0_
   refine Zl1 Zx (by kernel_rfl) [.low,.low,.low,.plain,.low,.plain,.pass,.bar] (fun i=>i < (n+6)) [0,1,2,3,4,5,6,7] [.low,.low,.low,.plain,.low,.plain,.pass,.bar] [] (by kernel_rfl) rfl ?_
   refine zS ?_
   refine zO ?_
   first | refine PCallA.of (fun _ _=>J4 hy14) ?_ | refine PCall.of (J4 hy14) ?_
   refine zS ?_
   refine zO ?_
   refine zD [0,2,3,5,8,11,13,14,15,16] [true,true,true,true,false,true,true] ?_
   obtain ⟨z15,hz15,hs0_⟩:=bC hs0_
   refine Qb (E':=⟨149,[],[(0,(sL (eL (eI .u64)) a0)),(2,(vI a2)),(3,(vI z15.1)),(5,.ref n 0),(8,.ref (n+1) 0),(11,.ref (n+2) 0),(13,(vI s0_.2.1)),(15,(vI z15.2.1)),(16,.ref (n+6) 0)]⟩) (O':=(Zu O n [some ⟨false,57,7,1,(Zv a1)⟩,some ⟨false,25,3,1,[(vI 0),nV,nV]⟩,some ⟨false,25,3,1,[(vI a1.Kind),(sL (eI .u64) y2),.row (n+3) s0_.2.2.length]⟩,some (oR 25 3 Zn s0_.2.2),none,none,some ⟨false,25,3,1,[(vI z15.2.2.1),(sL (eI .u64) z15.2.2.2.1),(sL Zn z15.2.2.2.2)]⟩])) (n0:=(n+7)) ?_ ?_
   ·refine Yo ?_
    refine zQ [0,2,3,5,8,11,13,14,15,16,103] ?_
    refine Zm (t:=(a1.Kind == 9)) rfl (fun c19 => ?_) (fun c19 => ?_)
    ·replace hz15:=Zr c19 hz15
     obtain ⟨y16,hy16,hz15⟩:=bC hz15
     refine zC (Zg8 hy16) ?_
     exact zEn hz15
    replace hz15:=Zq c19 hz15
    refine zQD [0,2,3,5,8,11,13,14,15,16,117] [none,none,none] ?_
    refine Zm (t:=(cond (a1.Kind == 1) true (a1.Kind == 8))) rfl (fun c18 => ?_) (fun c18 => ?_)
    ·replace hz15:=Zr c18 hz15
     obtain ⟨y17,hy17,hz15⟩:=bC hz15
     refine zC (Zba hy17) ?_
     exact zEn hz15
    replace hz15:=Zq c18 hz15
    refine zK ?_
    exact zEn hz15
   refine Zc ?_
   refine zQ [0,2,3,5,8,11,13,15,16,137] ?_
   refine Zm (t:=(z15.2.1 != 0)) rfl (fun c21 => ?_) (fun c21 => ?_)
   ·replace hs0_:=Zr c21 hs0_
    refine Zc ?_
    refine zRd [8,9,10] [false,true,false,true,false,false,false] ?_
    refine zW ?_
    exact zEy hs0_
   replace hs0_:=Zq c21 hs0_
   refine Qo [0,2,3,5,8,11,13,16] [true,true,true,true,false,false,true] ?_
   obtain ⟨l20,pl20,ql20,el20,hs0_⟩:=bA (k:=1) rfl hs0_
   refine Zjr [] pl20 ql20 el20 ?_
   refine Zav ⟨149,[],[(0,(sL (eL (eI .u64)) a0)),(2,(vI a2)),(3,(vI z15.1)),(5,.ref n 0),(8,.ref (n+1) 0),(11,.ref (n+2) 0),(13,(vI s0_.2.1))]⟩ (Zu O n [some ⟨false,57,7,1,(Zv a1)⟩,some ⟨false,25,3,1,[(vI 0),nV,nV]⟩,some ⟨false,25,3,1,[(vI a1.Kind),(sL (eI .u64) y2),.row (n+3) l20.length]⟩,some (oR 25 3 Zn l20),none,none,none,none]) (Ye hU rfl rfl ?_) ?_
   ·exact Zxv pl20 ql20 el20
   refine zR ?_
   exact zEn hs0_
  replace hs0_:=Zq c23 hs0_
  exact zEx hs0_
 rcases z24 with z24 | z24
 ·dsimp only [Ux] at hw h
  refine Zew hw ?_
  try simp only [Y9,Yp,↓reduceIte,Nat.reduceEqDiff]
  exact Zxu [.agg [(vI a1.Kind),(sL (eI .u64) y2),(sL Zn z24.2.2)],(vI z24.1),(vI z24.2.1)]
 dsimp only [Ux] at hw h
 refine Y1 hw ?_
 try simp only [Y9,Yp,↓reduceIte,Nat.reduceEqDiff]
 refine zDs [3,8,11] [false,true,true,true,false] ?_
 refine zRd [8,9,10] [false,true,false,true,false] ?_
 exact Z5 [.agg [(vI a1.Kind),(sL (eI .u64) y2),.row (n+3) z24.2.length],(vI z24.1),(vI 0)]
theorem Zq3 {Yk:((List (List Int))→Zt→Int→Int→Option (Zb×Int×Int))} {Xg:((List (List Int))→Zt→Int→Int→Option (Zb×Int×Int))} (Zba:Za9 Yk) (Zg8:Zc8 Xg) {a0:(List (List Int))} {a1:Zt} {a2:Int} {a3:Int} {r:(Zb×Int×Int)} {O:Objs} {n:Nat} (h:V7 Yk Xg a0 a1 a2 a3=some r):GTo Try.prog 57 [(sL (eL (eI .u64)) a0),.agg (Zv a1),(vI a2),(vI a3)] O n (.tup [.agg (Zi r.1),(vI r.2.1),(vI r.2.2)]) O n:=by
 unfold V7 at h
 refine zFn Try.call57 Try.func57 fun hU hN0 hN => ?_
 show W _ _ _ _ ⟨63,[],[(0,(sL (eL (eI .u64)) a0)),(1,.agg (Zv a1)),(2,(vI a2)),(3,(vI a3))]⟩ (Zu O n []) _
 refine zQ [0,2,3,5,8] ?_
 refine Zc ?_
 obtain ⟨y2,hy2,h⟩:=bC h
 refine zCd (J4 hy2) [0,2,3,5,8,11] [true,true,true] ?_
 refine Zc ?_
 refine zQd [0,2,3,5,8,11,12] [0,2,3,5,8,11,12] [true,true,true] ?_
 refine Gv (E':=(⟨63,[],[(0,(sL (eL (eI .u64)) a0)),(2,(vI a2)),(3,(vI a3)),(5,.ref n 0),(8,.ref (n+1) 0),(11,.ref (n+2) 0),(12,(vI 0))]⟩:Env)) (O':=(Zu O n [some ⟨false,57,7,1,(Zv a1)⟩,some ⟨false,25,3,1,[(vI 0),nV,nV]⟩,some ⟨false,25,3,1,[(vI 1),(sL (eI .u64) y2),.row (n+3) ([]:List Zb).length]⟩,some (oR 25 3 Zn ([]:List Zb)),none])) (n':=(n+5)) ?_ ?_
 ·refine Fit2.trans (E':=(⟨63,[],[(0,(sL (eL (eI .u64)) a0)),(2,(vI a2)),(3,(vI a3)),(5,.ref n 0),(8,.ref (n+1) 0),(11,.ref (n+2) 0),(12,(vI 0))]⟩:Env)) (O':=(Zu O n [some ⟨false,57,7,1,(Zv a1)⟩,some ⟨false,25,3,1,[(vI 0),nV,nV]⟩,some ⟨false,25,3,1,[(vI 1),(sL (eI .u64) y2),nV]⟩])) (n':=(n+3)) (Fit2.of (Ye hU rfl rfl ?_) (by omega)) ?_
  ·exact zSe
  refine Fit2.trans (Zvu (p:=(n+2)) (k:=2) (q:=⟨false,25,3,1,[(vI 1),(sL (eI .u64) y2),nV]⟩) 25 3 (by simp only [Zcs,Zji,List.getElem?_cons_zero,List.getElem?_cons_succ,Option.join_some,List.length_nil,Y4]) rfl (by omega)) ?_
  simp only [Jn,Qs,Zdt,Zct,List.set_cons_zero,List.set_cons_succ,List.cons_append,List.nil_append,List.length_cons,List.length_nil,Nat.zero_add,Nat.reduceAdd,Nat.reduceLT,Nat.add_assoc]
  refine K1 (k:=4) (k':=5) hU [0,1,2,3] [0,1,2,3,0] rfl rfl rfl rfl ⟨rfl,rfl⟩ ?_
  exact zSe
 obtain ⟨z11,hz11,h⟩:=bC h
 refine Zl2 (J:=(Ux (fun z11=>JR n (⟨63,[],[(8,.ref (n+1) 0),(9,(vI z11.1)),(10,(vI z11.2.1))]⟩:Env) (Zu O n [none,some ⟨false,25,3,1,[(vI 1),(sL (eI .u64) y2),(sL Zn z11.2.2)]⟩,none]) (n+3)) (fun z11=>JX 0 n (⟨63,[],[(3,(vI z11.1)),(8,.ref (n+1) 0),(11,.ref (n+2) 0)]⟩:Env) (Zu O n [none,some ⟨false,25,3,1,[(vI 0),nV,nV]⟩,some ⟨false,25,3,1,[(vI 1),(sL (eI .u64) y2),.row (n+3) z11.2.length]⟩,some (oR 25 3 Zn z11.2),none]) (n+5)))) (z:=z11) ?_ fun hw => ?_
 ·refine Xj hz11 (fun s0_=>⟨63,[],[(0,(sL (eL (eI .u64)) a0)),(2,(vI a2)),(3,(vI s0_.1)),(5,.ref n 0),(8,.ref (n+1) 0),(11,.ref (n+2) 0),(12,(vI s0_.2.1))]⟩) (fun s0_=>(Zu O n [some ⟨false,57,7,1,(Zv a1)⟩,some ⟨false,25,3,1,[(vI 0),nV,nV]⟩,some ⟨false,25,3,1,[(vI 1),(sL (eI .u64) y2),.row (n+3) s0_.2.2.length]⟩,some (oR 25 3 Zn s0_.2.2),none])) (Ux (fun z11=>JR n (⟨63,[],[(8,.ref (n+1) 0),(9,(vI z11.1)),(10,(vI z11.2.1))]⟩:Env) (Zu O n [none,some ⟨false,25,3,1,[(vI 1),(sL (eI .u64) y2),(sL Zn z11.2.2)]⟩,none]) (n+3)) (fun z11=>JX 0 n (⟨63,[],[(3,(vI z11.1)),(8,.ref (n+1) 0),(11,.ref (n+2) 0)]⟩:Env) (Zu O n [none,some ⟨false,25,3,1,[(vI 0),nV,nV]⟩,some ⟨false,25,3,1,[(vI 1),(sL (eI .u64) y2),.row (n+3) z11.2.length]⟩,some (oR 25 3 Zn z11.2),none]) (n+5))) ?_
  intro s0_ x0_ hs0_
  unfold Vz at hs0_
  try dsimp only
  refine Zc ?_
  refine zQ [0,2,3,5,8,11,12,25] ?_
  refine Zm (t:=(decide (s0_.2.1 < a1.Ptrs))) rfl (fun c10 => ?_) (fun c10 => ?_)
  ·replace hs0_:=Zr c10 hs0_
   refine Qo [0,2,3,5,8,11,12] [true,true,true,true,false] ?_
   refine Zc ?_
   refine Yo ?_
   refine Zc ?_
   obtain ⟨y4,hy4,hs0_⟩:=bC hs0_
   refine zCd (Zfp hy4) [0,2,3,5,8,11,12,13,14] [true,true,true,true,false,true] ?_
   refine Zc ?_
   refine zQ [0,2,3,5,8,11,12,13,14,36] ?_
   refine Zm (t:=(y4.2 != 0)) rfl (fun c9 => ?_) (fun c9 => ?_)
   ·replace hs0_:=Zr c9 hs0_
    refine Zc ?_
    refine zRd [8,9,10] [false,true,false,true,false,false] ?_
    refine zW ?_
    exact zEy hs0_
   replace hs0_:=Zq c9 hs0_
   refine Qo [0,2,3,5,8,11,12,13] [true,true,true,true,false,true] ?_
   refine Zc ?_
   obtain ⟨y6,hy6,hs0_⟩:=bC hs0_
   refine zCd (Zba hy6) [0,2,5,8,11,12,15,16,17] [true,true,true,true,false,false,true] ?_
   refine Zc ?_
   refine zQ [0,2,5,8,11,12,15,16,17,50] ?_
   refine Zm (t:=(y6.2.2 != 0)) rfl (fun c8 => ?_) (fun c8 => ?_)
   ·replace hs0_:=Zr c8 hs0_
    refine Zc ?_
    refine zRd [8,9,10] [false,true,false,true,false,false,false] ?_
    refine zW ?_
    exact zEy hs0_
   replace hs0_:=Zq c8 hs0_
   refine Qo [0,2,5,8,11,12,15,16] [true,true,true,true,false,false,true] ?_
   refine zQ [0,2,3,5,8,11,12,15] ?_
   obtain ⟨l7,pl7,ql7,el7,hs0_⟩:=bA (k:=1) rfl hs0_
   refine Zjr [] pl7 ql7 el7 ?_
   refine Zav ⟨63,[],[(0,(sL (eL (eI .u64)) a0)),(2,(vI a2)),(3,(vI y6.2.1)),(5,.ref n 0),(8,.ref (n+1) 0),(11,.ref (n+2) 0),(12,(vI s0_.2.1))]⟩ (Zu O n [some ⟨false,57,7,1,(Zv a1)⟩,some ⟨false,25,3,1,[(vI 0),nV,nV]⟩,some ⟨false,25,3,1,[(vI 1),(sL (eI .u64) y2),.row (n+3) l7.length]⟩,some (oR 25 3 Zn l7),none,none,none,none]) (Ye hU rfl rfl ?_) ?_
   ·exact Zxv pl7 ql7 el7
   refine zR ?_
   exact zEn hs0_
  replace hs0_:=Zq c10 hs0_
  exact zEx hs0_
 rcases z11 with z11 | z11
 ·dsimp only [Ux] at hw h
  refine Zew hw ?_
  try simp only [Y9,Yp,↓reduceIte,Nat.reduceEqDiff]
  exact Zxu [.agg [(vI 1),(sL (eI .u64) y2),(sL Zn z11.2.2)],(vI z11.1),(vI z11.2.1)]
 dsimp only [Ux] at hw h
 refine Y1 hw ?_
 try simp only [Y9,Yp,↓reduceIte,Nat.reduceEqDiff]
 refine zDs [3,8,11] [false,true,true,true,false] ?_
 refine zRd [8,9,10] [false,true,false,true,false] ?_
 exact Z5 [.agg [(vI 1),(sL (eI .u64) y2),.row (n+3) z11.2.length],(vI z11.1),(vI 0)]
theorem Zju:∀ k,(Za9 ((Ys k).1))∧(Zc8 ((Ys k).2)):=fun k=>by
 induction k with
 | zero=>exact ⟨@fun a0 a1 a2 a3 r O n h=>(nomatch (show (none:Option _)=some _ from h)),@fun a0 a1 a2 a3 r O n h=>(nomatch (show (none:Option _)=some _ from h))⟩
 | succ k ih=>exact ⟨@fun a0 a1 a2 a3 r O n h=>Zmf (ih.1) (ih.2)  h,@fun a0 a1 a2 a3 r O n h=>Zq3 (ih.1) (ih.2)  h⟩
theorem Zm4 {a0:(List (List Int))} {a1:Zt} {a2:Int} {a3:Int} {r:(Zb×Int×Int)} {O:Objs} {n:Nat} (h:Zc4 a0 a1 a2 a3=some r):GTo Try.prog 27 [(sL (eL (eI .u64)) a0),.agg (Zv a1),(vI a2),(vI a3)] O n (.tup [.agg (Zi r.1),(vI r.2.1),(vI r.2.2)]) O n:=by
 obtain ⟨k,hk⟩:=Zix h
 exact (Zju k).1  hk
theorem Znt {a0:(List (List Int))} {a1:Ya} {r:(Zb×Int×Int)} {O:Objs} {n:Nat} (h:Km a0 a1=some r):GTo Try.prog 11 [(sL (eL (eI .u64)) a0),.agg (Xa a1)] O n (.tup [.agg (Zi r.1),(vI r.2.1),(vI r.2.2)]) O n:=by
 unfold Km at h
 refine zFn Try.call11 Try.func11 fun hU hN0 hN => ?_
 show W _ _ _ _ ⟨43,[],[(0,(sL (eL (eI .u64)) a0)),(1,.agg (Xa a1))]⟩ (Zu O n []) _
 refine zQ [0,3,4] ?_
 refine Zc ?_
 obtain ⟨y2,hy2,h⟩:=bC h
 refine zCd (Zns hy2) [0,3,4] [true,true] ?_
 refine Zc ?_
 obtain ⟨y4,hy4,h⟩:=bC h
 refine zCd (Zga hy4) [0,3,4,7,8] [true,true,true] ?_
 refine Zc ?_
 refine zQ [0,3,4,7,8,20] ?_
 refine Zm (t:=(y4.2 != 0)) rfl (fun c8 => ?_) (fun c8 => ?_)
 ·replace h:=Zr c8 h
  refine Zc ?_
  refine zRd [4,5,6] [false,true,false] ?_
  exact Z5 [.agg [(vI 0),nV,nV],(vI 0),(vI y4.2)]
 replace h:=Zq c8 h
 refine Qo [0,3,4,7] [true,true,true] ?_
 refine Zc ?_
 obtain ⟨y6,hy6,h⟩:=bC h
 refine zCd (Zm4 hy6) [3,4,9,10,11] [true,true,false,true] ?_
 refine Zc ?_
 refine zQ [3,4,9,10,11,35] ?_
 refine Zm (t:=(y6.2.2 != 0)) rfl (fun c7 => ?_) (fun c7 => ?_)
 ·replace h:=Zr c7 h
  refine Zc ?_
  refine zRd [4,5,6] [false,true,false,false] ?_
  exact Z5 [.agg [(vI 0),nV,nV],(vI 0),(vI y6.2.2)]
 replace h:=Zq c7 h
 refine Qo [3,4,9,10] [true,true,false,true] ?_
 refine Zc ?_
 refine Zl1 Zx (by kernel_rfl) [.plain,.low,.low,.plain,.low,.pass,.plain,.plain] (fun i=>i≠n+1) [0,1,2,3,4,5,6,7] [.plain,.low,.low,.plain,.low,.pass,.plain,.plain] [] (by kernel_rfl) rfl ?_
 refine zS ?_
 refine zO ?_
 refine zD [4,5,6] [false,true,false,false] ?_
 exact Z5 [.agg (Zi y6.1),(vI (IntKind.i64.wrap (y2.Weight - y6.2.1))),(vI 0)]
theorem Zbj {a0 r:List Int} {O:Objs} {n:Nat} (h:Xp a0=some r):GTo Try.prog 62 [(sL (eI .u64) a0)] O n (.row n r.length) (Zu O n [some (oR 49 1 (eI .u64) r)]) (n+1):=by
 have h1:=Z29 h
 have h2:=Z3a h
 have h3:=Zzw h
 rw [List.nil_append] at h3
 subst h3
 simp only [List.length_nil,Nat.zero_add] at h1 h2
 clear h
 refine zFn Try.call62 Try.func62 fun hU hN0 hN => ?_
 show W _ _ _ _ ⟨8,[],[(0,(sL (eI .u64) r))]⟩ (Zu O n []) _
 refine zQ [0] ?_
 refine Ybd 0 r.length (fl (eI .u64) r) rfl (Nat.le_of_ble_eq_true rfl) (Y3 U1 _) fun A c hA => ?_
 refine zQ [0,4] ?_
 cases A with
 | none =>
  obtain rfl:r=[]:=List.eq_nil_of_length_eq_zero (hA rfl)
  refine Zm (t:=true) rfl (fun _ => ?_) (fun hc=>by cases hc)
  refine zQ [2] ?_
  refine zW ?_
  refine Zip (k:=1) (L3:=[some ⟨true,49,1,0,[]⟩]) (E2:=⟨8,[],[(2,.row n 0),(2,nV)]⟩) (n3:=(n+1)) (.inr rfl) hU rfl [.row n 0] ?_ ?_
  ·have ha:=Zoa (ba:=n) (E:=⟨8,[],[(2,.val (.slice none 0 0))]⟩) (O:=(Zu O n [])) (n:=n) 2 49 1 rfl (by omega)
   simp only [Qs] at ha
   exact ha
  simp only [push_cast,seval,↓reduceIte,Zh,Try.results62,hN0,hN]
 | some A =>
  refine Zm (t:=false) rfl (fun hc=>by cases hc) (fun _ => ?_)
  refine zK ?_
  refine And.intro rfl (And.intro (Nat.le_of_ble_eq_true rfl) ?_)
  refine Zc ?_
  refine Z3 Zx [] ?_
  simp only [push_cast,seval,↓reduceIte,Zh,h1,h2,hN0,hN]
  refine zW ?_
  refine Z7l (.inr rfl) hU rfl [.row n r.length] (by omega) ?_
  simp only [push_cast,seval,↓reduceIte,Zh,Try.results62,hN0,hN]
theorem Zgb {a0 r:List Int} {O:Objs} {n:Nat} (h:Xp a0=some r):GTo Try.prog 62 [(sL (eI .u64) a0)] O n ((sL (eI .u64) r)) O n:=by
 refine GTo.freeze (Zbj h) fun hU => ?_
 have hN0:O n=none:=hU.fresh _ (Nat.le_refl _)
 have hN:∀ k,O (n+k)=none:=fun k=>hU.fresh _ (Nat.le_add_right _ _)
 exact zSe
theorem Zwl {a0:(List (List Int))} {r:(List (List Int))} {O:Objs} {n:Nat} (h:Zdq a0=some r):GTo Try.prog 30 [(sL (eL (eI .u64)) a0)] O n ((sL (eL (eI .u64)) r)) O n:=by
 unfold Zdq at h
 refine zFn Try.call30 Try.func30 fun hU hN0 hN => ?_
 show W _ _ _ _ ⟨23,[],[(0,(sL (eL (eI .u64)) a0))]⟩ (Zu O n []) _
 refine zQ [0] ?_
 refine Zc ?_
 obtain ⟨l2,al2,bl2,cl2,el2,h⟩:=bM2 (c:=24) rfl h
 have nl2:Int.toNat (a0.length:Int)=List.length l2:=by rw [el2,List.length_replicate]
 have fl2:∀ O O' n,wkl O O' n (List.replicate (List.length l2) [G.val (.slice none 0 0)]).flatten (fl (eL (eI .u64)) l2)=True:=fun O O' n=>by rw [← nl2,el2];exact eq_true (Z23 _ _)
 clear el2
 refine Z3 Zx [] ?_
 simp only [push_cast,seval,↓reduceIte,Zh,al2,bl2,cl2,fl2,nl2,hN0,hN]
 refine Zav ⟨23,[],[(0,(sL (eL (eI .u64)) a0)),(3,.row n l2.length)]⟩ (Zu O n [some (oR 22 1 (eL (eI .u64)) l2)]) (Ye hU rfl rfl ?_) ?_
 ·simp only [push_cast,seval,↓reduceIte,Zh,al2,bl2,cl2,fl2,nl2,hN0,hN]
 refine Zc ?_
 refine zQd [3,9,10,11] [3,9,10,11] [true] ?_
 obtain ⟨z9,hz9,h⟩:=bC h
 refine Y1 (E':=⟨23,[],[(3,.row n z9.length)]⟩) (O':=(Zu O n [some (oR 22 1 (eL (eI .u64)) z9)])) (n0:=(n+1)) ?_ ?_
 ·refine Xj hz9 (fun s0_=>⟨23,[],[(3,.row n s0_.2.length),(9,(sL (eL (eI .u64)) a0)),(10,(vI (a0.length:Int))),(11,(vI s0_.1))]⟩) (fun s0_=>(Zu O n [some (oR 22 1 (eL (eI .u64)) s0_.2)])) (fun z9=>JX 0 n (⟨23,[],[(3,.row n z9.length)]⟩:Env) (Zu O n [some (oR 22 1 (eL (eI .u64)) z9)]) (n+1)) ?_
  intro s0_ x0_ hs0_
  unfold Uz at hs0_
  try dsimp only
  refine zQ [3,9,10,11,12] ?_
  refine Zc ?_
  refine Zm (t:=(decide (s0_.1 < (a0.length:Int)))) rfl (fun c8 => ?_) (fun c8 => ?_)
  ·replace hs0_:=Zr c8 hs0_
   refine Qo [3,9,10,11] [true] ?_
   refine Zc ?_
   refine Yo ?_
   obtain ⟨x4,hx4,ax4,bx4,cx4,hs0_⟩:=bE (f:=(eL (eI .u64))) Zco (fun _=>rfl) (by decide) hs0_
   refine Zcp [3,4,5,9,10,11] (Z3 Zx [] ?_)
   refine zF3 ax4 bx4 cx4 ?_
   obtain ⟨y5,hy5,hs0_⟩:=bC hs0_
   obtain ⟨x6,hx6,ax6,bx6,cx6,hs0_⟩:=bE (f:=(eL (eI .u64))) Zco (fun _=>rfl) (by decide) hs0_
   have gu7:Va (fl (eL (eI .u64)) s0_.2) [.sl y5.length (fl (eI .u64) y5)] (Int.toNat s0_.1 * 1)=some (fl (eL (eI .u64)) (Xu s0_.2 s0_.1 y5)):=Zcb (f:=(eL (eI .u64))) (ti:=⟨.bool,1,0,[],false⟩) (x:=y5) (fun _=>rfl) (Zad hx6)
   refine Zrc [] ax6 bx6 cx6 gu7 ?_
   refine (Zgb hy5).then ?_
   refine zF4 ax6 bx6 cx6 gu7 ?_
   refine zD [3,9,10,11] [true] ?_
   refine zR ?_
   exact zEn hs0_
  replace hs0_:=Zq c8 hs0_
  exact zEx hs0_
 try simp only [Y9,Yp,↓reduceIte,Nat.reduceEqDiff]
 refine zD [3] [true] ?_
 refine zQ [2] ?_
 exact Z5 [.row n z9.length]
theorem Zu4 {a0:(List (List Int))} {r:(Option Zj)} {O:Objs} {n:Nat} (h:Zd0 a0=some r):GTo Try.prog 14 [(sL (eL (eI .u64)) a0)] O n ((gP Zo r)) O n:=by
 unfold Zd0 at h
 refine zFn Try.call14 Try.func14 fun hU hN0 hN => ?_
 show W _ _ _ _ ⟨7,[],[(0,(sL (eL (eI .u64)) a0))]⟩ (Zu O n []) _
 refine zQ [0] ?_
 refine Zc ?_
 obtain ⟨y2,hy2,h⟩:=bC h
 refine zCd (Zwl hy2) [2] [true] ?_
 exact Z5 [.ref n 0]
theorem Zro {a0:(Option Zj)} {r:Int} {O:Objs} {n:Nat} (h:Zcm a0=some r):GTo Try.prog 114 [(gP Zo a0)] O n ((vI r)) O n:=by
 unfold Zcm at h
 refine zFn Try.call114 Try.func114 fun hU hN0 hN => ?_
 show W _ _ _ _ ⟨10,[],[(0,(gP Zo a0))]⟩ (Zu O n []) _
 refine zQ [0] ?_
 refine Zc ?_
 have g2:=Z1r (f:=Zo) (t:=38) Zmt a0
 refine Yeq [0,4] g2 ?_
 refine Zm (t:=(Option.isNone a0)) rfl (fun c5 => ?_) (fun c5 => ?_)
 ·replace h:=Zr c5 h
  refine zQ [2] ?_
  exact Z5 [(vI 0)]
 replace h:=Zq c5 h
 refine Qo [0] [] ?_
 obtain ⟨x4,hx4,h⟩:=bC h
 refine Zcp [2] (Z3 Zx [] ?_)
 simp only [push_cast,seval,↓reduceIte,Zh,hx4,hN0,hN]
 exact Z5 [(vI (x4.segments.length:Int))]
theorem J3 {a0:(Option Zj)} {a1:Int} {r:Bool} {O:Objs} {n:Nat} (h:Ki a0 a1=some r):GTo Try.prog 112 [(gP Zo a0),(vI a1)] O n ((vB r)) O n:=by
 unfold Ki at h
 refine zFn Try.call112 Try.func112 fun hU hN0 hN => ?_
 show W _ _ _ _ ⟨13,[],[(0,(gP Zo a0)),(1,(vI a1))]⟩ (Zu O n []) _
 refine zQ [0,1] ?_
 obtain ⟨z2,hz2,h⟩:=bC h
 refine Qb (E':=⟨13,[],[(4,(vB z2))]⟩) (O':=(Zu O n [])) (n0:=n) ?_ ?_
 ·rcases Bool.eq_false_or_eq_true (decide (0≤a1)) with c5 | c5
  ·replace hz2:=Zr c5 hz2
   obtain ⟨y4,hy4,hz2⟩:=bC hz2
   refine Zb9 [some true,some true,some true,some true] c5 ?_
   refine (Zro hy4).then ?_
   refine zX1 c5 ?_
   exact Zaw hz2 c5
  replace hz2:=Zq c5 hz2
  refine Zb9 [some false,some false,some false,some false] c5 ?_
  exact Zaw hz2 c5
 exact Z5 [(vB z2)]
theorem Zdl {a0:(Option Zj)} {a1:Int} {r:Int} {O:Objs} {n:Nat} (h:Vd a0 a1=some r):GTo Try.prog 113 [(gP Zo a0),(vI a1)] O n ((vI r)) O n:=by
 unfold Vd at h
 refine zFn Try.call113 Try.func113 fun hU hN0 hN => ?_
 show W _ _ _ _ ⟨17,[],[(0,(gP Zo a0)),(1,(vI a1))]⟩ (Zu O n []) _
 refine zQ [0,1] ?_
 refine Zc ?_
 refine Zc ?_
 obtain ⟨y2,hy2,h⟩:=bC h
 refine zCd (J3 hy2) [0,1,8] [] ?_
 refine Zm (t:=(!y2)) rfl (fun c7 => ?_) (fun c7 => ?_)
 ·replace h:=Zr c7 h
  refine zQ [4] ?_
  exact Z5 [(vI 0)]
 replace h:=Zq c7 h
 refine Qo [0,1] [] ?_
 obtain ⟨x5,hx5,h⟩:=bC h
 obtain ⟨x6,hx6,ax6,bx6,cx6,h⟩:=bE (f:=(eL (eI .u64))) Zco (fun _=>rfl) (by decide) h
 refine Zcp [4] (Z3 Zx [] ?_)
 refine zF4 hx5 ax6 bx6 cx6 ?_
 exact Z5 [(vI (x6.length:Int))]
theorem Zd3 {a0:(Option Zj)} {a1:Int} {a2:Int} {a3:Int} {r:Bool} {O:Objs} {n:Nat} (h:J9 a0 a1 a2 a3=some r):GTo Try.prog 109 [(gP Zo a0),(vI a1),(vI a2),(vI a3)] O n ((vB r)) O n:=by
 unfold J9 at h
 refine zFn Try.call109 Try.func109 fun hU hN0 hN => ?_
 show W _ _ _ _ ⟨36,[],[(0,(gP Zo a0)),(1,(vI a1)),(2,(vI a2)),(3,(vI a3))]⟩ (Zu O n []) _
 refine zQ [0,1,2,3] ?_
 obtain ⟨z4,hz4,h⟩:=bC h
 refine Qb (E':=⟨36,[],[(8,(vB z4))]⟩) (O':=(Zu O n [])) (n0:=n) ?_ ?_
 ·obtain ⟨y8,hy8,hz4⟩:=bC hz4
  rcases Bool.eq_false_or_eq_true y8 with c11 | c11
  ·replace hz4:=Zr c11 hz4
   rcases Bool.eq_false_or_eq_true (decide (0≤a2)) with c12 | c12
   ·replace hz4:=Zr c12 hz4
    try rw [c12] at c11
    rcases Bool.eq_false_or_eq_true (decide (0≤a3)) with c13 | c13
    ·replace hz4:=Zr c13 hz4
     try rw [c13] at c11
     try rw [c13] at c12
     obtain ⟨y9,hy9,hz4⟩:=bC hz4
     rcases Bool.eq_false_or_eq_true (decide (a3≤y9)) with c14 | c14
     ·replace hz4:=Zr c14 hz4
      try rw [c14] at c11
      try rw [c14] at c12
      try rw [c14] at c13
      obtain ⟨y10,hy10,hz4⟩:=bC hz4
      refine Ybc [none,none,none,none,some true,some true,some true,some true,some true,some true,some true,some true,some true,some true,some true,some true] c11 c12 c13 c14 ?_
      refine zG ?_
      refine (J3 hy8).then ?_
      refine zX4 c11 c12 c13 c14 ?_
      refine zG ?_
      refine (Zdl hy9).then ?_
      refine zX4 c11 c12 c13 c14 ?_
      refine zG ?_
      refine (Zdl hy10).then ?_
      refine zX4 c11 c12 c13 c14 ?_
      refine zG ?_
      exact Z5o hz4 c11 c12 c13 c14
     replace hz4:=Zq c14 hz4
     try rw [c14] at c11
     try rw [c14] at c12
     try rw [c14] at c13
     refine Ybc [none,none,none,none,some true,some true,some true,some true,some true,some false,some false,some false,some false,some false,some false,some false] c11 c12 c13 c14 ?_
     refine zG ?_
     refine (J3 hy8).then ?_
     refine zX4 c11 c12 c13 c14 ?_
     refine zG ?_
     refine (Zdl hy9).then ?_
     refine zX4 c11 c12 c13 c14 ?_
     refine zG ?_
     exact Z5o hz4 c11 c12 c13 c14
    replace hz4:=Zq c13 hz4
    try rw [c13] at c11
    try rw [c13] at c12
    refine Zjr [none,none,none,none,some false,some false,some false,some false,some false,some false,some false,some false,some false,some false,some false,some false] c11 c12 c13 ?_
    refine zG ?_
    refine (J3 hy8).then ?_
    refine zX3 c11 c12 c13 ?_
    refine zG ?_
    exact Zxe hz4 c11 c12 c13
   replace hz4:=Zq c12 hz4
   try rw [c12] at c11
   refine Q0 [none,none,none,none,some false,some false,some false,some false,some false,some false,some false,some false,some false,some false,some false,some false] c11 c12 ?_
   refine zG ?_
   refine (J3 hy8).then ?_
   refine zX2 c11 c12 ?_
   refine zG ?_
   exact Z5n hz4 c11 c12
  replace hz4:=Zq c11 hz4
  refine Zb9 [none,none,none,none,some false,some false,some false,some false,some false,some false,some false,some false,some false,some false,some false,some false] c11 ?_
  refine zG ?_
  refine (J3 hy8).then ?_
  refine zX1 c11 ?_
  refine zG ?_
  exact Zaw hz4 c11
 exact Z5 [(vB z4)]
theorem Gk {a0:(Option Zj)} {a1:Int} {a2:Int} {r:(Int×Bool)} {O:Objs} {n:Nat} (h:Qq a0 a1 a2=some r):GTo Try.prog 90 [(gP Zo a0),(vI a1),(vI a2)] O n (.tup [.val (.int .u64 r.1),(vB r.2)]) O n:=by
 unfold Qq at h
 refine zFn Try.call90 Try.func90 fun hU hN0 hN => ?_
 show W _ _ _ _ ⟨23,[],[(0,(gP Zo a0)),(1,(vI a1)),(2,(vI a2))]⟩ (Zu O n []) _
 refine zQ [0,1,2] ?_
 refine Zc ?_
 refine Zc ?_
 obtain ⟨y2,hy2,h⟩:=bC h
 refine zCd (Zd3 hy2) [0,1,2,12] [] ?_
 refine Zm (t:=(!y2)) rfl (fun c9 => ?_) (fun c9 => ?_)
 ·replace h:=Zr c9 h
  refine zQ [6,7] ?_
  exact Z5 [.val (.int .u64 0),(vB false)]
 replace h:=Zq c9 h
 refine Qo [0,1,2] [] ?_
 obtain ⟨x6,hx6,h⟩:=bC h
 obtain ⟨x7,hx7,ax7,bx7,cx7,h⟩:=bE (f:=(eL (eI .u64))) Zco (fun _=>rfl) (by decide) h
 obtain ⟨x8,hx8,ax8,bx8,cx8,h⟩:=bE (f:=(eI .u64)) Ke (fun _=>rfl) (by decide) h
 refine Zcp [6,7] (Z3 Zx [] ?_)
 refine zF7 hx6 ax7 bx7 cx7 ax8 bx8 cx8 ?_
 exact Z5 [.val (.int .u64 x8),(vB true)]
theorem Zqs {a0:(Option Zj)} {a1:Int} {a2:Int} {a3:Int} {r:((List Int)×Bool)} {O:Objs} {n:Nat} (h:Gd a0 a1 a2 a3=some r):GTo Try.prog 110 [(gP Zo a0),(vI a1),(vI a2),(vI a3)] O n (.tup [(sL (eI .u64) r.1),(vB r.2)]) O n:=by
 unfold Gd at h
 refine zFn Try.call110 Try.func110 fun hU hN0 hN => ?_
 show W _ _ _ _ ⟨29,[],[(0,(gP Zo a0)),(1,(vI a1)),(2,(vI a2)),(3,(vI a3))]⟩ (Zu O n []) _
 refine zQ [0,1,2,3] ?_
 refine Zc ?_
 refine Zc ?_
 obtain ⟨y2,hy2,h⟩:=bC h
 refine zCd (Zd3 hy2) [0,1,2,3,15] [] ?_
 refine Zm (t:=(!y2)) rfl (fun c11 => ?_) (fun c11 => ?_)
 ·replace h:=Zr c11 h
  refine zQ [8,9] ?_
  exact Z5 [nV,(vB false)]
 replace h:=Zq c11 h
 refine Qo [0,1,2,3] [] ?_
 refine Zc ?_
 obtain ⟨x7,hx7,h⟩:=bC h
 obtain ⟨x8,hx8,ax8,bx8,cx8,h⟩:=bE (f:=(eL (eI .u64))) Zco (fun _=>rfl) (by decide) h
 obtain ⟨l9,al9,bl9,cl9,gl9,h⟩:=bS (lo:=(some (.i64,a2))) (hi:=(some (.i64,(IntKind.i64.wrap (a2+a3))))) (f:=(eI .u64)) rfl rfl Zfk Ke (fun _=>rfl) h
 obtain ⟨y10,hy10,h⟩:=bC h
 refine Yc7 [] hx7 ax8 bx8 cx8 al9 bl9 cl9 gl9 ?_
 refine (Zbj  hy10).then ?_
 refine zF8 hx7 ax8 bx8 cx8 al9 bl9 cl9 gl9 ?_
 refine zD [8,9] [true] ?_
 exact Z5 [.row n y10.length,(vB true)]
theorem Zjw {a0:(Option Zj)} {a1:Zs} {a2:Int} {a3:Int} {r:(Xw×Int)} {O:Objs} {n:Nat} (h:Zbv a0 a1 a2 a3=some r):GTo Try.prog 93 [(gP Zo a0),.agg (Yd a1),(vI a2),(vI a3)] O n (.tup [.agg [(vI r.1.P.Kind),(vI r.1.P.Off),(vI r.1.P.Data),(vI r.1.P.Ptrs),(vI r.1.P.Code),(vI r.1.P.Count),(vI r.1.P.Segment),(vB r.1.P.Double),(vI r.1.Segment),(vI r.1.At)],(vI r.2)]) O n:=by
 unfold Zbv at h
 refine zFn Try.call93 Try.func93 fun hU hN0 hN => ?_
 show W _ _ _ _ ⟨36,[],[(0,(gP Zo a0)),(1,.agg (Yd a1)),(2,(vI a2)),(3,(vI a3))]⟩ (Zu O n []) _
 refine zQ [0,2,3,5,8] ?_
 refine Zc ?_
 refine zQ [0,2,3,5,8,14] ?_
 refine Zm (t:=(a1.Kind == 4)) rfl (fun c7 => ?_) (fun c7 => ?_)
 ·replace h:=Zr c7 h
  refine Zc ?_
  refine zRd [8,9] [false,true] ?_
  exact Z5 [.agg [(vI 0),(vI 0),(vI 0),(vI 0),(vI 0),(vI 0),(vI 0),(vB false),(vI 0),(vI 0)],(vI 9)]
 replace h:=Zq c7 h
 refine Qo [0,2,3,5,8] [true,true] ?_
 refine Zc ?_
 obtain ⟨y2,hy2,h⟩:=bC h
 refine zCd (Zkx hy2) [0,2,3,5,8,10,11] [true,true] ?_
 refine Zc ?_
 refine zQ [0,2,3,5,8,10,22] ?_
 refine Zm (t:=(!y2.2)) rfl (fun c6 => ?_) (fun c6 => ?_)
 ·replace h:=Zr c6 h
  refine Zc ?_
  refine zRd [8,9] [false,true] ?_
  exact Z5 [.agg [(vI 0),(vI 0),(vI 0),(vI 0),(vI 0),(vI 0),(vI 0),(vB false),(vI 0),(vI 0)],(vI 8)]
 replace h:=Zq c6 h
 refine Qo [0,2,3,5,8,10] [true,true] ?_
 refine Zc ?_
 refine Zc ?_
 obtain ⟨y4,hy4,h⟩:=bC h
 refine zCd (Zd3 hy4) [2,3,5,8,29] [true,true] ?_
 refine Zm (t:=(!y4)) rfl (fun c5 => ?_) (fun c5 => ?_)
 ·replace h:=Zr c5 h
  refine Zc ?_
  refine zRd [8,9] [false,true] ?_
  exact Z5 [.agg [(vI 0),(vI 0),(vI 0),(vI 0),(vI 0),(vI 0),(vI 0),(vB false),(vI 0),(vI 0)],(vI 7)]
 replace h:=Zq c5 h
 refine Qo [2,3,5,8] [true,true] ?_
 refine Zc ?_
 refine zRd [2,3,5,8] [true,true] ?_
 refine Zc ?_
 refine zRd [8,9] [false,true] ?_
 exact Z5 [.agg [(vI a1.Kind),(vI 0),(vI a1.Data),(vI a1.Ptrs),(vI a1.Code),(vI a1.Count),(vI a1.Segment),(vB a1.Double),(vI a2),(vI a3)],(vI 0)]
theorem Zxn {a0:(Option Zj)} {a1:Int} {a2:Int} {r:(Xw×Int)} {O:Objs} {n:Nat} (h:Ze5 a0 a1 a2=some r):GTo Try.prog 91 [(gP Zo a0),(vI a1),(vI a2)] O n (.tup [.agg [(vI r.1.P.Kind),(vI r.1.P.Off),(vI r.1.P.Data),(vI r.1.P.Ptrs),(vI r.1.P.Code),(vI r.1.P.Count),(vI r.1.P.Segment),(vB r.1.P.Double),(vI r.1.Segment),(vI r.1.At)],(vI r.2)]) O n:=by
 unfold Ze5 at h
 refine zFn Try.call91 Try.func91 fun hU hN0 hN => ?_
 show W _ _ _ _ ⟨56,[],[(0,(gP Zo a0)),(1,(vI a1)),(2,(vI a2))]⟩ (Zu O n []) _
 refine zQ [0,1,2,6] ?_
 refine Zc ?_
 obtain ⟨y2,hy2,h⟩:=bC h
 refine zCd (Zqs hy2) [0,6,8,9] [true] ?_
 refine Zc ?_
 refine zQ [0,6,8,20] ?_
 refine Zm (t:=(!y2.2)) rfl (fun c11 => ?_) (fun c11 => ?_)
 ·replace h:=Zr c11 h
  refine Zc ?_
  refine zRd [6,7] [true] ?_
  exact Z5 [.agg [(vI 0),(vI 0),(vI 0),(vI 0),(vI 0),(vI 0),(vI 0),(vB false),(vI 0),(vI 0)],(vI 7)]
 replace h:=Zq c11 h
 refine Qo [0,6,8] [true] ?_
 obtain ⟨x3,hx3,ax3,bx3,cx3,h⟩:=bE (f:=(eI .u64)) Ke (fun _=>rfl) (by decide) h
 obtain ⟨y4,hy4,h⟩:=bC h
 obtain ⟨x5,hx5,ax5,bx5,cx5,h⟩:=bE (f:=(eI .u64)) Ke (fun _=>rfl) (by decide) h
 obtain ⟨y6,hy6,h⟩:=bC h
 refine Qb (E':=⟨56,[],[(0,(gP Zo a0)),(6,.ref n 0),(10,.ref (n+1) 0),(11,.ref (n+2) 0)]⟩) (O':=(Zu O n [some ⟨false,102,10,1,[(vI 0),(vI 0),(vI 0),(vI 0),(vI 0),(vI 0),(vI 0),(vB false),(vI 0),(vI 0)]⟩,some ⟨false,78,8,1,(Yd y4)⟩,some ⟨false,78,8,1,(Yd y6)⟩])) (n0:=(n+3)) ?_ ?_
 ·refine Z4a Zx (by kernel_rfl) [.low,.low,.low,.low,.low,.low,.low,.low,.pass,.pass,.pass,.pass] (fun i=>i < (n+1)) 8 9 [0,1,2,3,4,5,6,7] [10,11] [.low,.low,.low,.low,.low,.low,.low,.low] [.pass,.pass,.pass,.pass] [.pass,.pass,.pass,.pass] [] (by kernel_rfl) rfl rfl rfl ?_
  refine zF6 ax3 bx3 cx3 ax5 bx5 cx5 ?_
  repeat (with_reducible refine And.intro (by omega) ?_)
  first | refine PCallA.of (fun _ _=>Uw hy4) ?_ | refine PCall.of (Uw hy4) ?_
  refine zF6 ax3 bx3 cx3 ax5 bx5 cx5 ?_
  repeat (with_reducible refine And.intro (by omega) ?_)
  first | refine PCallA.of (fun _ _=>Uw hy6) ?_ | refine PCall.of (Uw hy6) ?_
  refine zF6 ax3 bx3 cx3 ax5 bx5 cx5 ?_
  repeat (with_reducible refine And.intro (by omega) ?_)
  refine And.intro ?_ ?_
  ·refine zF6 ax3 bx3 cx3 ax5 bx5 cx5 ?_
   repeat (with_reducible refine And.intro (by first | exact Zkb rfl | exact Zim) ?_)
   exact Yc1 ax3 bx3 cx3 ax5 bx5 cx5
  refine zF6 ax3 bx3 cx3 ax5 bx5 cx5 ?_
  repeat (with_reducible refine And.intro (by first | exact Zkb rfl | exact Zim) ?_)
  refine And.intro rfl ?_
  refine Fit2.trans (E':=(⟨56,[],[(0,(gP Zo a0)),(6,.ref n 0),(10,.ref (n+2) 0),(11,.ref (n+1) 0)]⟩:Env)) (O':=(Zu O n [some ⟨false,102,10,1,[(vI 0),(vI 0),(vI 0),(vI 0),(vI 0),(vI 0),(vI 0),(vB false),(vI 0),(vI 0)]⟩,some ⟨false,78,8,1,(Yd y6)⟩,some ⟨false,78,8,1,(Yd y4)⟩])) (n':=(n+3)) (Fit2.of (Ye hU rfl rfl ?_) (by omega)) ?_
  ·exact Yc4 ax3 bx3 cx3 ax5 bx5 cx5
  refine K1 (k:=3) (k':=3) hU [0,2,1] [0,2,1] rfl rfl rfl rfl ⟨rfl,rfl⟩ ?_
  exact zSe
 refine Zc ?_
 refine zQD [0,6,10,11,36] [none,none] ?_
 refine Zm (t:=(cond (y4.Kind != 3) true y4.Double)) rfl (fun c10 => ?_) (fun c10 => ?_)
 ·replace h:=Zr c10 h
  refine Zc ?_
  refine zRd [6,7] [true,false,false] ?_
  exact Z5 [.agg [(vI 0),(vI 0),(vI 0),(vI 0),(vI 0),(vI 0),(vI 0),(vB false),(vI 0),(vI 0)],(vI 8)]
 replace h:=Zq c10 h
 refine Qo [0,6,10,11] [true,true,true] ?_
 refine Zc ?_
 refine zQD [0,6,10,11,45] [none,none,none] ?_
 refine Zm (t:=(cond (y6.Kind != 4) (y6.Off != 0) false)) rfl (fun c9 => ?_) (fun c9 => ?_)
 ·replace h:=Zr c9 h
  refine Zc ?_
  refine zRd [6,7] [true,false,false] ?_
  exact Z5 [.agg [(vI 0),(vI 0),(vI 0),(vI 0),(vI 0),(vI 0),(vI 0),(vB false),(vI 0),(vI 0)],(vI 8)]
 replace h:=Zq c9 h
 refine Qo [0,6,10,11] [true,true,true] ?_
 refine Zc ?_
 obtain ⟨y8,hy8,h⟩:=bC h
 refine zCd (Zjw hy8) [6,7] [true,false,false] ?_
 exact Z5 [.agg [(vI y8.1.P.Kind),(vI y8.1.P.Off),(vI y8.1.P.Data),(vI y8.1.P.Ptrs),(vI y8.1.P.Code),(vI y8.1.P.Count),(vI y8.1.P.Segment),(vB y8.1.P.Double),(vI y8.1.Segment),(vI y8.1.At)],(vI y8.2)]
theorem Zxo {a0:(Option Zj)} {a1:Int} {a2:Int} {r:(Xw×Int)} {O:Objs} {n:Nat} (h:Ze6 a0 a1 a2=some r):GTo Try.prog 92 [(gP Zo a0),(vI a1),(vI a2)] O n (.tup [.agg [(vI r.1.P.Kind),(vI r.1.P.Off),(vI r.1.P.Data),(vI r.1.P.Ptrs),(vI r.1.P.Code),(vI r.1.P.Count),(vI r.1.P.Segment),(vB r.1.P.Double),(vI r.1.Segment),(vI r.1.At)],(vI r.2)]) O n:=by
 unfold Ze6 at h
 refine zFn Try.call92 Try.func92 fun hU hN0 hN => ?_
 show W _ _ _ _ ⟨34,[],[(0,(gP Zo a0)),(1,(vI a1)),(2,(vI a2))]⟩ (Zu O n []) _
 refine zQ [0,1,2,6] ?_
 refine Zc ?_
 obtain ⟨y2,hy2,h⟩:=bC h
 refine zCd (Gk hy2) [0,1,2,6,8,9] [true] ?_
 refine Zc ?_
 refine zQ [0,1,2,6,8,19] ?_
 refine Zm (t:=(!y2.2)) rfl (fun c7 => ?_) (fun c7 => ?_)
 ·replace h:=Zr c7 h
  refine Zc ?_
  refine zRd [6,7] [true] ?_
  exact Z5 [.agg [(vI 0),(vI 0),(vI 0),(vI 0),(vI 0),(vI 0),(vI 0),(vB false),(vI 0),(vI 0)],(vI 7)]
 replace h:=Zq c7 h
 refine Qo [0,1,2,6,8] [true] ?_
 refine Zc ?_
 obtain ⟨y4,hy4,h⟩:=bC h
 refine zCd (Uw hy4) [0,1,2,6,10] [true,true] ?_
 refine Zc ?_
 obtain ⟨y6,hy6,h⟩:=bC h
 refine zCd (Zjw hy6) [6,7] [true,false] ?_
 exact Z5 [.agg [(vI y6.1.P.Kind),(vI y6.1.P.Off),(vI y6.1.P.Data),(vI y6.1.P.Ptrs),(vI y6.1.P.Code),(vI y6.1.P.Count),(vI y6.1.P.Segment),(vB y6.1.P.Double),(vI y6.1.Segment),(vI y6.1.At)],(vI y6.2)]
theorem Zxm {a0:(Option Zj)} {a1:Int} {a2:Int} {r:(Xw×Int)} {O:Objs} {n:Nat} (h:Ze4 a0 a1 a2=some r):GTo Try.prog 60 [(gP Zo a0),(vI a1),(vI a2)] O n (.tup [.agg [(vI r.1.P.Kind),(vI r.1.P.Off),(vI r.1.P.Data),(vI r.1.P.Ptrs),(vI r.1.P.Code),(vI r.1.P.Count),(vI r.1.P.Segment),(vB r.1.P.Double),(vI r.1.Segment),(vI r.1.At)],(vI r.2)]) O n:=by
 unfold Ze4 at h
 refine zFn Try.call60 Try.func60 fun hU hN0 hN => ?_
 show W _ _ _ _ ⟨67,[],[(0,(gP Zo a0)),(1,(vI a1)),(2,(vI a2))]⟩ (Zu O n []) _
 refine zQ [0,1,2,6] ?_
 refine Zc ?_
 obtain ⟨y2,hy2,h⟩:=bC h
 refine zCd (Gk hy2) [0,1,2,6,8,9] [true] ?_
 refine Zc ?_
 refine zQ [0,1,2,6,8,19] ?_
 refine Zm (t:=(!y2.2)) rfl (fun c14 => ?_) (fun c14 => ?_)
 ·replace h:=Zr c14 h
  refine Zc ?_
  refine zRd [6,7] [true] ?_
  exact Z5 [.agg [(vI 0),(vI 0),(vI 0),(vI 0),(vI 0),(vI 0),(vI 0),(vB false),(vI 0),(vI 0)],(vI 7)]
 replace h:=Zq c14 h
 refine Qo [0,1,2,6,8] [true] ?_
 refine Zc ?_
 obtain ⟨y4,hy4,h⟩:=bC h
 refine zCd (Uw hy4) [0,1,2,6,10] [true,true] ?_
 refine Zc ?_
 refine Yo ?_
 refine zQ [0,1,2,6,10,23] ?_
 refine Zm (t:=(y4.Kind == 0)) rfl (fun c13 => ?_) (fun c13 => ?_)
 ·replace h:=Zr c13 h
  refine Zc ?_
  refine zRd [6,7] [true,false] ?_
  exact Z5 [.agg [(vI 0),(vI 0),(vI 0),(vI 0),(vI 0),(vI 0),(vI 0),(vB false),(vI 0),(vI 0)],(vI 0)]
 replace h:=Zq c13 h
 refine zQD [0,1,2,6,10,28] [none,none] ?_
 refine Zm (t:=(cond (y4.Kind == 3) y4.Double false)) rfl (fun c12 => ?_) (fun c12 => ?_)
 ·replace h:=Zr c12 h
  refine Zc ?_
  obtain ⟨y6,hy6,h⟩:=bC h
  refine zCd (Zxn hy6) [6,7] [true,false] ?_
  exact Z5 [.agg [(vI y6.1.P.Kind),(vI y6.1.P.Off),(vI y6.1.P.Data),(vI y6.1.P.Ptrs),(vI y6.1.P.Code),(vI y6.1.P.Count),(vI y6.1.P.Segment),(vB y6.1.P.Double),(vI y6.1.Segment),(vI y6.1.At)],(vI y6.2)]
 replace h:=Zq c12 h
 refine zQ [0,1,2,6,10,44] ?_
 refine Zm (t:=(y4.Kind == 3)) rfl (fun c11 => ?_) (fun c11 => ?_)
 ·replace h:=Zr c11 h
  refine Zc ?_
  obtain ⟨y8,hy8,h⟩:=bC h
  refine zCd (Zxo hy8) [6,7] [true,false] ?_
  exact Z5 [.agg [(vI y8.1.P.Kind),(vI y8.1.P.Off),(vI y8.1.P.Data),(vI y8.1.P.Ptrs),(vI y8.1.P.Code),(vI y8.1.P.Count),(vI y8.1.P.Segment),(vB y8.1.P.Double),(vI y8.1.Segment),(vI y8.1.At)],(vI y8.2)]
 replace h:=Zq c11 h
 refine Qo [0,1,2,6,10] [true,true] ?_
 refine Zc ?_
 obtain ⟨y10,hy10,h⟩:=bC h
 refine zCd (Zjw hy10) [6,7] [true,false] ?_
 exact Z5 [.agg [(vI y10.1.P.Kind),(vI y10.1.P.Off),(vI y10.1.P.Data),(vI y10.1.P.Ptrs),(vI y10.1.P.Code),(vI y10.1.P.Count),(vI y10.1.P.Segment),(vB y10.1.P.Double),(vI y10.1.Segment),(vI y10.1.At)],(vI y10.2)]
theorem Zq0 {a0:Za} {r:(Za×Int)} {O:Objs} {n:Nat} (h:Zbw a0=some r):GTo Try.prog 61 [.agg (Zf a0)] O n (.tup [.agg (Zf r.1),(vI r.2)]) O n:=by
 unfold Zbw at h
 refine zFn Try.call61 Try.func61 fun hU hN0 hN => ?_
 show W _ _ _ _ ⟨56,[],[(0,.agg (Zf a0))]⟩ (Zu O n []) _
 refine zQ [1,2] ?_
 refine Zc ?_
 obtain ⟨y2,hy2,h⟩:=bC h
 refine zCd (Gk hy2) [1,2,4] [true,true] ?_
 refine Zc ?_
 obtain ⟨y4,hy4,h⟩:=bC h
 refine zCd (Uw hy4) [1,2,6] [true,true,true] ?_
 refine Zc ?_
 refine zQD [1,2,6,44] [none,none,none,none,none,none,none,none,none,none,none,none,none,none,none,none,none] ?_
 refine Zm (t:=(cond (cond (cond (y4.Kind != 0) (y4.Kind != 1) false) true (decide (y4.Off < 0))) true (decide (a0.count < (IntKind.i64.wrap (y4.Off * (IntKind.i64.wrap (y4.Data+y4.Ptrs)))))))) rfl (fun c5 => ?_) (fun c5 => ?_)
 ·replace h:=Zr c5 h
  refine Zc ?_
  refine zRd [2,3] [false,true,false] ?_
  exact Z5 [.agg [.val (.pointer none),(vI 0),(vI 0),(vI 0),(vI 0),(vI 0),(vI 0),(vI 0),(vI 0)],(vI 8)]
 replace h:=Zq c5 h
 refine Qo [1,2,6] [true,true,true] ?_
 refine Zc ?_
 refine Zl1 Zx (by kernel_rfl) [.plain,.plain,.low,.low,.low,.low,.plain,.pass,.plain,.pass,.plain,.bar] (fun i=>i≠n+0) [0,1,2,3,4,5,6,7,8,9,10,11] [.plain,.plain,.low,.low,.low,.low,.plain,.pass,.plain,.pass,.plain,.bar] [] (by kernel_rfl) rfl ?_
 refine zS ?_
 refine zO ?_
 refine zDs [1,2] [true,true,false] ?_
 refine zRd [2,3] [false,true,false] ?_
 exact Z5 [.agg [(gP Zo a0.a),(vI a0.kind),(vI a0.segment),(vI a0.at_),(vI y4.Data),(vI y4.Ptrs),(vI y4.Off),(vI a0.code),(vI a0.index)],(vI 0)]
theorem Zme {a0:(Option Zj)} {a1:Int} {a2:Int} {r:(Za×Int)} {O:Objs} {n:Nat} (h:Zc6 a0 a1 a2=some r):GTo Try.prog 29 [(gP Zo a0),(vI a1),(vI a2)] O n (.tup [.agg (Zf r.1),(vI r.2)]) O n:=by
 unfold Zc6 at h
 refine zFn Try.call29 Try.func29 fun hU hN0 hN => ?_
 show W _ _ _ _ ⟨66,[],[(0,(gP Zo a0)),(1,(vI a1)),(2,(vI a2))]⟩ (Zu O n []) _
 refine zQ [0,1,2,6] ?_
 refine Zc ?_
 obtain ⟨y2,hy2,h⟩:=bC h
 refine zCd (Zxm hy2) [0,6,8,9] [true,true] ?_
 refine Zc ?_
 refine zQD [0,6,8,9,25] [none,none,none,none] ?_
 refine Zm (t:=(cond (y2.2 != 0) true (y2.1.P.Kind == 0))) rfl (fun c7 => ?_) (fun c7 => ?_)
 ·replace h:=Zr c7 h
  refine Zc ?_
  refine zRd [6,7] [true,false] ?_
  exact Z5 [.agg [.val (.pointer none),(vI 0),(vI 0),(vI 0),(vI 0),(vI 0),(vI 0),(vI 0),(vI 0)],(vI y2.2)]
 replace h:=Zq c7 h
 refine Qo [0,6,8] [true,true] ?_
 refine Zc ?_
 refine zRd [6,8,10] [true,true,true] ?_
 refine Zc ?_
 refine zQ [6,8,10,37] ?_
 refine Zm (t:=(y2.1.P.Kind == 1)) rfl (fun c6 => ?_) (fun c6 => ?_)
 ·replace h:=Zr c6 h
  refine Zc ?_
  refine Zl1 Zx (by kernel_rfl) [.low,.low,.low,.low,.low,.low,.plain,.pass,.plain,.pass,.plain,.bar] (fun i=>i≠n+2) [0,1,2,3,4,5,6,7,8,9,10,11] [.low,.low,.low,.low,.low,.low,.plain,.pass,.plain,.pass,.plain,.bar] [] (by kernel_rfl) rfl ?_
  refine zS ?_
  refine zO ?_
  refine zDs [6,10] [true,false,true] ?_
  refine zRd [6,7] [true,false,false] ?_
  exact Z5 [.agg [(gP Zo a0),(vI 1),(vI y2.1.Segment),(vI y2.1.At),(vI y2.1.P.Data),(vI y2.1.P.Ptrs),(vI 0),(vI 0),(vI 0)],(vI 0)]
 replace h:=Zq c6 h
 refine Qo [6,8,10] [true,true,true] ?_
 refine Zc ?_
 refine Zl1 Zx (by kernel_rfl) [.plain,.plain,.plain,.plain,.low,.low,.low,.plain,.pass,.plain,.bar] (fun i=>i≠n+2) [0,1,2,3,4,5,6,7,8,9,10] [.plain,.plain,.plain,.plain,.low,.low,.low,.plain,.pass,.plain,.bar] [] (by kernel_rfl) rfl ?_
 refine zS ?_
 refine zO ?_
 refine zDs [6,8,10] [true,true,true] ?_
 refine zQ [6,10,60] ?_
 refine Zm (t:=(y2.1.P.Code == 7)) rfl (fun c5 => ?_) (fun c5 => ?_)
 ·replace h:=Zr c5 h
  refine Zc ?_
  obtain ⟨y4,hy4,h⟩:=bC h
  refine zCd (Zq0 hy4) [6,7] [true,false,false] ?_
  exact Z5 [.agg (Zf y4.1),(vI y4.2)]
 replace h:=Zq c5 h
 refine Qo [6,10] [true,false,true] ?_
 refine Zc ?_
 refine zRd [6,7] [true,false,false] ?_
 exact Z5 [.agg [(gP Zo a0),(vI (IntKind.i64.wrap (y2.1.P.Code+2))),(vI y2.1.Segment),(vI y2.1.At),(vI 0),(vI 0),(vI y2.1.P.Count),(vI 0),(vI 0)],(vI 0)]
theorem Znx {a0:(Option Zj)} {r:(Za×Int)} {O:Objs} {n:Nat} (h:Zas a0=some r):GTo Try.prog 13 [(gP Zo a0)] O n (.tup [.agg (Zf r.1),(vI r.2)]) O n:=by
 unfold Zas at h
 refine zFn Try.call13 Try.func13 fun hU hN0 hN => ?_
 show W _ _ _ _ ⟨8,[],[(0,(gP Zo a0))]⟩ (Zu O n []) _
 refine zQ [0,2] ?_
 refine Zc ?_
 obtain ⟨y2,hy2,h⟩:=bC h
 refine zCd (Zme hy2) [2,3] [true] ?_
 exact Z5 [.agg (Zf y2.1),(vI y2.2)]
theorem Qe {a0:Za} {r:Int} {O:Objs} {n:Nat} (h:Z0 a0=some r):GTo Try.prog 31 [.agg (Zf a0)] O n ((vI r)) O n:=by
 unfold Z0 at h
 refine zFn Try.call31 Try.func31 fun hU hN0 hN => ?_
 show W _ _ _ _ ⟨5,[],[(0,.agg (Zf a0))]⟩ (Zu O n []) _
 refine zQ [1] ?_
 refine zQ [2] ?_
 exact Z5 [(vI a0.kind)]
theorem Gl {a0:Ze} {a1:Int} {r:(Int×Ze)} {O:Objs} {n:Nat} {i0:Nat} (hi0:i0 < n) (ho0:O i0=some ⟨false,68,1,1,[(vI a0.left)]⟩) (h:Yu a0 a1=some r):GTo Try.prog 32 [.ref i0 0,(vI a1)] O n ((vI r.1)) (Zu (O.upd i0 (some ⟨false,68,1,1,[(vI r.2.left)]⟩)) n []) (n+0):=by
 unfold Yu at h
 refine Zkf Zx Try.call32 Try.func32 rfl (Nat.le_of_ble_eq_true rfl) (by omega) fun hU => ?_
 rw [show Zu O n []=Zu (O.upd i0 (some ⟨false,68,1,1,[(vI a0.left)]⟩)) n [] from by rw [Zs2 (show O i0=_ from by exact ho0)]]
 have hk0:∀ k,i0 < n+k:=fun k=>by omega
 have hN0:∀ o,Objs.upd O i0 o n=none:=fun o=>Qt hU hi0 _ (Nat.le_refl _)
 have hN:∀ o k,Objs.upd O i0 o (n+k)=none:=fun o k=>Qt hU hi0 _ (Nat.le_add_right _ _)
 show W _ _ _ _ ⟨19,[],[(0,.ref i0 0),(1,(vI a1))]⟩ (Zu (O.upd i0 (some ⟨false,68,1,1,[(vI a0.left)]⟩)) n []) _
 refine Kf [0,1] hi0 hk0 ?_
 refine Zc ?_
 refine Kf [0,1,10] hi0 hk0 ?_
 refine Zm (t:=(decide (a0.left < a1))) rfl (fun c1 => ?_) (fun c1 => ?_)
 ·replace h:=Zr c1 h
  refine Kf [4] hi0 hk0 ?_
  refine zW ?_
  have h:=Option.some.inj h;subst h
  refine X1 (k:=0) (i:=i0) (q1:=⟨false,68,1,1,[(vI a0.left)]⟩) (L3:=[none]) (E2:=(⟨19,[],[(4,(vI 3))]⟩:Env)) (n3:=(n+1)) (.inr rfl) hU rfl [(vI 3)] ?_ ?_
  ·refine Fit2.trans (E':=(⟨19,[],[(4,(vI 3))]⟩:Env)) (O':=(Zu (O.upd i0 (some ⟨false,68,1,1,[(vI a0.left)]⟩)) n [])) (n':=n) (Fit2.of (Yb hU rfl rfl ?_) (by omega)) ?_
   ·exact Xx hi0 hk0
   refine Y7 (k:=0) (k':=1) hU [] [0] rfl rfl rfl rfl ⟨rfl,rfl⟩ ?_
   exact Xx hi0 hk0
  simp only [push_cast,seval,↓reduceIte,Zh,Try.results32,hi0,hk0,hN0,hN]
 replace h:=Zq c1 h
 refine Qo [0,1] [] ?_
 refine Zc ?_
 refine Q0 [] hi0 hk0 ?_
 refine zD [] [] ?_
 refine Kf [4] hi0 hk0 ?_
 refine zW ?_
 have h:=Option.some.inj h;subst h
 refine X1 (k:=0) (i:=i0) (q1:=⟨false,68,1,1,[(vI (IntKind.i64.wrap (a0.left - a1)))]⟩) (L3:=[none]) (E2:=(⟨19,[],[(4,(vI 0))]⟩:Env)) (n3:=(n+1)) (.inr rfl) hU rfl [(vI 0)] ?_ ?_
 ·refine Fit2.trans (E':=(⟨19,[],[(4,(vI 0))]⟩:Env)) (O':=(Zu (O.upd i0 (some ⟨false,68,1,1,[(vI (IntKind.i64.wrap (a0.left - a1)))]⟩)) n [])) (n':=n) (Fit2.of (Yb hU rfl rfl ?_) (by omega)) ?_
  ·exact Xx hi0 hk0
  refine Y7 (k:=0) (k':=1) hU [] [0] rfl rfl rfl rfl ⟨rfl,rfl⟩ ?_
  exact Xx hi0 hk0
 simp only [push_cast,seval,↓reduceIte,Zh,Try.results32,hi0,hk0,hN0,hN]
theorem Yj {a0:Za} {r:Int} {O:Objs} {n:Nat} (h:Yf a0=some r):GTo Try.prog 65 [.agg (Zf a0)] O n ((vI r)) O n:=by
 unfold Yf at h
 refine zFn Try.call65 Try.func65 fun hU hN0 hN => ?_
 show W _ _ _ _ ⟨10,[],[(0,.agg (Zf a0))]⟩ (Zu O n []) _
 refine zQ [1] ?_
 refine Zc ?_
 refine zQ [1,5] ?_
 refine Zm (t:=(a0.kind == 1)) rfl (fun c1 => ?_) (fun c1 => ?_)
 ·replace h:=Zr c1 h
  refine zQ [2] ?_
  exact Z5 [(vI a0.ptrs)]
 replace h:=Zq c1 h
 refine Qo [1] [true] ?_
 refine zQ [2] ?_
 exact Z5 [(vI a0.count)]
theorem Ja {a0:Za} {a1:Int} {r:(Za×Int)} {O:Objs} {n:Nat} (h:Xo a0 a1=some r):GTo Try.prog 94 [.agg (Zf a0),(vI a1)] O n (.tup [.agg (Zf r.1),(vI r.2)]) O n:=by
 unfold Xo at h
 refine zFn Try.call94 Try.func94 fun hU hN0 hN => ?_
 show W _ _ _ _ ⟨81,[],[(0,.agg (Zf a0)),(1,(vI a1))]⟩ (Zu O n []) _
 refine zQ [1,2,4] ?_
 refine Zc ?_
 obtain ⟨z2,hz2,h⟩:=bC h
 refine Qb (E':=⟨81,[],[(1,(vI a1)),(2,.ref n 0),(4,.ref (n+1) 0),(14,(vB z2))]⟩) (O':=(Zu O n [some ⟨false,40,9,1,(Zf a0)⟩,some ⟨false,40,9,1,[.val (.pointer none),(vI 0),(vI 0),(vI 0),(vI 0),(vI 0),(vI 0),(vI 0),(vI 0)]⟩])) (n0:=(n+2)) ?_ ?_
 ·rcases Bool.eq_false_or_eq_true (decide (a1 < 0)) with c5 | c5
  ·replace hz2:=Zr c5 hz2
   refine Zb9 [some false,some false,some false,some false] c5 ?_
   exact Zaw hz2 c5
  replace hz2:=Zq c5 hz2
  obtain ⟨y4,hy4,hz2⟩:=bC hz2
  refine Zb9 [some true,some true,some true,some true] c5 ?_
  refine (Yj hy4).then ?_
  refine zX1 c5 ?_
  exact Zaw hz2 c5
 refine Zm (t:=z2) rfl (fun c13 => ?_) (fun c13 => ?_)
 ·replace h:=Zr c13 h
  refine Zc ?_
  refine zRd [4,5] [false,true] ?_
  exact Z5 [.agg [.val (.pointer none),(vI 0),(vI 0),(vI 0),(vI 0),(vI 0),(vI 0),(vI 0),(vI 0)],(vI 0)]
 replace h:=Zq c13 h
 refine Qo [1,2,4] [true,true] ?_
 refine Zc ?_
 refine zQ [1,2,4,17] ?_
 refine Yo ?_
 refine zQ [1,2,4,17,18] ?_
 refine Zm (t:=(a0.kind == 1)) rfl (fun c12 => ?_) (fun c12 => ?_)
 ·replace h:=Zr c12 h
  refine Zc ?_
  obtain ⟨y7,hy7,h⟩:=bC h
  refine zCd (Zme hy7) [4,5] [false,true] ?_
  exact Z5 [.agg (Zf y7.1),(vI y7.2)]
 replace h:=Zq c12 h
 refine zQ [1,2,4,17,34] ?_
 refine Zm (t:=(a0.kind == 8)) rfl (fun c11 => ?_) (fun c11 => ?_)
 ·replace h:=Zr c11 h
  refine Zc ?_
  obtain ⟨y9,hy9,h⟩:=bC h
  refine zCd (Zme hy9) [4,5] [false,true] ?_
  exact Z5 [.agg (Zf y9.1),(vI y9.2)]
 replace h:=Zq c11 h
 refine zQ [1,2,4,47] ?_
 refine Zm (t:=(a0.kind == 9)) rfl (fun c10 => ?_) (fun c10 => ?_)
 ·replace h:=Zr c10 h
  refine zQ [2,4,6] ?_
  refine Zc ?_
  refine zRd [4,5] [false,true] ?_
  exact Z5 [.agg [(gP Zo a0.a),(vI 1),(vI a0.segment),(vI (IntKind.i64.wrap ((IntKind.i64.wrap (a0.at_+1))+(IntKind.i64.wrap (a1 * (IntKind.i64.wrap (a0.words+a0.ptrs))))))),(vI a0.words),(vI a0.ptrs),(vI 0),(vI 0),(vI 0)],(vI 0)]
 replace h:=Zq c10 h
 refine Qo [1,2,4] [true,true] ?_
 refine Zc ?_
 refine zRd [4,5] [false,true] ?_
 exact Z5 [.agg [(gP Zo a0.a),(vI 10),(vI a0.segment),(vI a0.at_),(vI 0),(vI 0),(vI 0),(vI (IntKind.i64.wrap (a0.kind - 2))),(vI a1)],(vI 0)]
end Go.Proofs.Ytnapihlnlajlpaa
