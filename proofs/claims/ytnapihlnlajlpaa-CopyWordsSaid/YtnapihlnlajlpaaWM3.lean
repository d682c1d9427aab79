/- Part WM3 of this seat's mirrors: functions of the seat's program, and the plain functions that they are; each theorem bears its own conditions. -/
import Derived.Test.YtnapihlnlajlpaaWE
import Derived.Test.YtnapihlnlajlpaaWM1
namespace Go.Proofs.Ytnapihlnlajlpaa
open Go.RowKit
set_option linter.unusedVariables false
set_option linter.unusedSimpArgs false
set_option maxRecDepth 100000
set_option maxHeartbeats 4000000
attribute [local push_cast] Try.results10 Try.results22 Try.results23 Try.results24 Try.results3 Try.results45 Try.results46 Try.results47 Try.results48 Try.results49 Try.results50 Try.results8 vI vB nV sL oR Xa Zi Zv Yd Zf Zop Zoo Zo8 Zo7 Y9 Yp Zkh Zf0 Zfz onW X2 Zdo Zdd Zq5 Znd Zif Zij Zie Zii Zlh Zlc Zih Zlg Zlf Zle Zig Zla Zgq evS wok Q1 Op.operands Call.operands gop onK onP atK List.all_cons List.all_nil Bool.and_true Bool.true_and Bool.and_self Value.oneCell' List.take_zero List.take_succ_cons List.take_nil List.drop_zero List.drop_succ_cons List.drop_nil List.append_nil Nat.add_zero Nat.zero_add Gb Yi ev Q4 Zm1 Zoi Zoh Zon Zol Zom Zoj Zok Zog Zsf Zs9 Zv9 Ziv Zcz Ziu Zdj Zh3 Zf2 Zd8 Zed Zfw Zfs Zeb Zfv Zfu Zft Zea Zfq Zd9 Zec Zdb Zfr Zl7 Zf1 Zap Zhs Zaq Zjt Zit Zvd bLo bHi bMx Zc0 Zjs Zxg Zir Zkg Ze0 Uu Zsg Zxh Zhr Zez Zxj Zcy Zz7 Zko Zks Zkn Zkr Zoz Zov Zot Zh5 Zkp Zoy Zox Zow Zkq Zou Zkj Zrh Zk6 Zgl Zgk pop TK.isAgg Zo1 Zo5 Zo0 Zo4 Zkz Ztl Zth Zo3 Ztk Ztj Zti Zo2 Ztg G.under G.unders List.getD_cons_zero List.getD_cons_succ List.set_cons_zero List.set_cons_succ List.map_cons List.map_nil List.toList_toArray Array.toList_append Option.toArray_none Option.toArray_some Array.toList_map Option.map_some Option.map_none Option.bind_some Option.bind_none List.getElem?_cons_zero List.getElem?_cons_succ List.getElem?_nil List.nil_append List.cons_append List.replicate_succ List.replicate_zero List.length_cons List.length_nil and_true true_and and_false false_and Bool.true_eq_false Bool.false_eq_true forall_const false_implies implies_true IntKind.bits if_true if_false ite_true ite_false eq_self true_implies false_or or_false or_true true_or not_true_eq_false not_false_eq_true decide_true decide_false decide_eq_true_eq decide_eq_false_iff_not beq_iff_eq bne_iff_ne ne_eq Bool.not_eq_true Bool.not_eq_false beq_eq_false_iff_ne bne_eq_false_iff_eq beq_self_eq_true bne_self_eq_false Option.some.injEq exists_eq_left' exists_eq_left ge_iff_le gt_iff_lt decide_not Bool.not_true Bool.not_false imp_self Ztd cond_true cond_false Z5y Z5x Bool.not_not Bool.and_false Bool.false_and Bool.or_true Bool.true_or Bool.or_false Bool.false_or Zcs Zji Zdt Zct Jn Qs Option.join_some Nat.add_assoc Int.toNat_natCast eI eB eS eL Xm Zfy Zeg Zos Zoq Zor Z0t Z2l Zgh Zel Zpe Zpc Zpd Zwo Zm0 Zuv Zmw Zvc Zca Zre List.length_append G.agg.injEq G.row.injEq G.ref.injEq G.val.injEq G.sl.injEq G.tup.injEq Value.int.injEq Value.bool.injEq Value.string.injEq List.cons.injEq exists_and_left exists_const List.flatten_cons List.flatten_nil Int.le_refl Nat.le_refl Zb8 Xv Je Bool.not_eq_true' Bool.not_eq_false' Zqo Zhb Zuj Zun Zui Zum Zzt Zzo List.size_toArray Zrv Zra G.ren G.rens Ztn Zgm Zpj Zoe Zof Zlb Zuo Zge G.fn.injEq Zjd Zlz Zqn Zzp Zly Zul Zzs Zzr Zzq Zuk Zte Zx8 Option.join_none Y4 Zac undef Zkl Arr.len Arr.put_eq Zgg Zh7 Zgf Zek Zpb Zo9 Zpa onB Z0s Zse Qa Zdc Zj0 Zj1 Zj2 Zj3 Zj4 Zj5 Zh6 Zia Zh8 Zgj Zem Zh9 Zk4 Zk3 Zk2 Zk1 Z2k Z3s Zwn Zve Vv Zwi Zrn Zib Zgi Zxq Zrb Zio Zke Zdx Zi5 Zj6 Zj7 Zj8 Zj9 Zhv Zhw Zhx Zhy Zhz Zh0 Zh1 Zfm prT Ze2 Z6t Zt7 Z2x Zt8 Z6u Zt9 Z6v Zua Z6w Zub Z6x Zuc Z6y Zud Z6z Zue Zym Zpn Zyn Zpo Zyo Zpp Zyp Zpq Zyq Zpr Zyr Zps Zys Zpt Zyt Zpu Zyu Zpv Zyv Zpw Zyw Zpx Zco Zfk Zmy Zms Zyx Zpy Zb7 Zpz Zyy Zp0 Zyz Zp1 Zy0 Zp2 Zy1 Zmt Zy2 Zp3 Zy3 Zp4 Zy4 Zp5 Ke Zp6 Zy5 Zp7 Zy6 Zp8 Zy7 Zp9 Zy8 Zqa Zy9 Zqb Zza Zqc Zzb Zqd Zzc Zqe Zzd Zqf Zze Zqg Zzf Zqh Zzg Zqi Zzh Zqj Zzi Zqk Zzj Zql Zzk Zqm Zts Zlj Ztt Zlk Ztu Zll Ztv Zlm Ztw Zln Ztx Zlo Zty Zlp Ztz Zlq Zt0 Zlr Zt1 Zls Zt2 Zlt Zt3 Zlu Zt4 Zlv Zt5 Zlw Zt6 Zlx Zn Xd Zgw Zgu Zf4 Zgd Zgy Zes Zeq Zeo Zgs U7 U6 Uy U0 U8 Ue Ud Uc U5 Zgv Zgt Zf3 Zgc Zgx Zer Zep Zen Zgr Zef Gw Jf Zch Zcg Zcc Zce Zci Zbh Zbe Zbd Zcf K7 K8 Zo Ky Kx Kh Ko Kz J7 J6 J5 Ku Zee Za1 Yh Vp Vn Vc Vj Vr Kw Kt Kr Vl Yg Vo Vm Vb Vi Vq Kv Ks Kq Vk
def Zg5 (Jc:(Zb→Option Zb)):Prop:=∀ {a0:Zb} {r:Zb} {O:Objs} {n:Nat},Jc a0=some r→GTo Try.prog 22 [.agg (Zi a0)] O n (.agg (Zi r)) O n
theorem Zq1 {Jc:(Zb→Option Zb)} (Znv:Zg5 Jc) {a0:Zb} {r:Zb} {O:Objs} {n:Nat} (h:Zaa Jc a0=some r):GTo Try.prog 22 [.agg (Zi a0)] O n (.agg (Zi r)) O n:=by
 unfold Zaa at h
 refine zFn Try.call22 Try.func22 fun hU hN0 hN => ?_
 show W _ _ _ _ ⟨53,[],[(0,.agg (Zi a0))]⟩ (Zu O n []) _
 refine zQ [1,2] ?_
 refine Zc ?_
 refine zQ [1,2,10] ?_
 refine Zm (t:=(a0.Kind == 0)) rfl (fun c19 => ?_) (fun c19 => ?_)
 ·replace h:=Zr c19 h
  refine Zc ?_
  refine zRd [2] [false,true] ?_
  exact Z5 [.agg [(vI 0),nV,nV]]
 replace h:=Zq c19 h
 refine Qo [1,2] [true,true] ?_
 refine zQ [1,2,3] ?_
 refine zQ [1,2,3,4] ?_
 refine Zc ?_
 refine zQd [1,2,3,4,5] [1,2,3,4,5] [true,true] ?_
 refine Gv (E':=(⟨53,[],[(1,.ref n 0),(2,.ref (n+1) 0),(3,.row (n+2) ([]:List Zb).length),(4,(vI 0)),(5,(vI 0))]⟩:Env)) (O':=(Zu O n [some ⟨false,25,3,1,(Zi a0)⟩,some ⟨false,25,3,1,[(vI 0),nV,nV]⟩,some (oR 25 3 Zn ([]:List Zb)),none])) (n':=(n+4)) ?_ ?_
 ·refine Fit2.trans (E':=(⟨53,[],[(1,.ref n 0),(2,.ref (n+1) 0),(3,nV),(4,(vI 0)),(5,(vI 0))]⟩:Env)) (O':=(Zu O n [some ⟨false,25,3,1,(Zi a0)⟩,some ⟨false,25,3,1,[(vI 0),nV,nV]⟩])) (n':=(n+2)) (Fit2.of (Ye hU rfl rfl ?_) (by omega)) ?_
  ·exact zSe
  refine Fit2.trans (Zoa 3 25 3 rfl (by omega)) ?_
  simp only [Jn,Qs,Zdt,Zct,List.set_cons_zero,List.set_cons_succ,List.cons_append,List.nil_append,List.length_cons,List.length_nil,Nat.zero_add,Nat.reduceAdd,Nat.reduceLT,Nat.add_assoc]
  refine Fit2.trans (E':=(⟨53,[],[(1,.ref n 0),(2,.ref (n+1) 0),(3,.row (n+2) ([]:List Zb).length),(4,(vI 0)),(5,(vI 0))]⟩:Env)) (O':=(Zu O n [some ⟨false,25,3,1,(Zi a0)⟩,some ⟨false,25,3,1,[(vI 0),nV,nV]⟩,some (oR 25 3 Zn ([]:List Zb))])) (n':=(n+3)) (Fit2.of (Ye hU rfl rfl ?_) (by omega)) ?_
  ·exact zSe
  refine K1 (k:=3) (k':=4) hU [0,1,2] [0,1,2,0] rfl rfl rfl rfl ⟨rfl,rfl⟩ ?_
  exact zSe
 obtain ⟨z10,hz10,h⟩:=bC h
 refine Y1 (E':=⟨53,[],[(1,.ref n 0),(2,.ref (n+1) 0),(3,.row (n+2) z10.2.length),(4,(vI z10.1))]⟩) (O':=(Zu O n [some ⟨false,25,3,1,(Zi a0)⟩,some ⟨false,25,3,1,[(vI 0),nV,nV]⟩,some (oR 25 3 Zn z10.2),none])) (n0:=(n+4)) ?_ ?_
 ·refine Xj hz10 (fun s0_=>⟨53,[],[(1,.ref n 0),(2,.ref (n+1) 0),(3,.row (n+2) s0_.2.2.length),(4,(vI s0_.1)),(5,(vI s0_.2.1))]⟩) (fun s0_=>(Zu O n [some ⟨false,25,3,1,(Zi a0)⟩,some ⟨false,25,3,1,[(vI 0),nV,nV]⟩,some (oR 25 3 Zn s0_.2.2),none])) (fun z10=>JX 0 n (⟨53,[],[(1,.ref n 0),(2,.ref (n+1) 0),(3,.row (n+2) z10.2.length),(4,(vI z10.1))]⟩:Env) (Zu O n [some ⟨false,25,3,1,(Zi a0)⟩,some ⟨false,25,3,1,[(vI 0),nV,nV]⟩,some (oR 25 3 Zn z10.2),none]) (n+4)) ?_
  intro s0_ x0_ hs0_
  unfold Qv at hs0_
  try dsimp only
  refine Zc ?_
  refine zQ [1,2,3,4,5,16] ?_
  refine Zm (t:=(decide (s0_.2.1 < (a0.Kids.length:Int)))) rfl (fun c9 => ?_) (fun c9 => ?_)
  ·replace hs0_:=Zr c9 hs0_
   refine Qo [1,2,3,4,5] [true,true,true,false] ?_
   obtain ⟨z1,hz1,hs0_⟩:=bC hs0_
   refine Qb (E':=⟨53,[],[(1,.ref n 0),(2,.ref (n+1) 0),(3,.row (n+2) z1.2.length),(4,(vI z1.1)),(5,(vI s0_.2.1))]⟩) (O':=(Zu O n [some ⟨false,25,3,1,(Zi a0)⟩,some ⟨false,25,3,1,[(vI 0),nV,nV]⟩,some (oR 25 3 Zn z1.2),none,none,none])) (n0:=(n+6)) ?_ ?_
   ·refine Yo ?_
    refine Zc ?_
    obtain ⟨x4,hx4,ax4,bx4,cx4,hz1⟩:=bE (f:=Zn) Zb7 (fun _=>rfl) (by decide) hz1
    obtain ⟨y5,hy5,hz1⟩:=bC hz1
    refine Z5p [] ax4 bx4 cx4 ?_
    refine (Znv hy5).then ?_
    refine zF3 ax4 bx4 cx4 ?_
    refine zDs [1,2,3,4,5,6] [true,true,true,false,true] ?_
    obtain ⟨l7,pl7,ql7,el7,hz1⟩:=bA (k:=1) rfl hz1
    refine Zjr [] pl7 ql7 el7 ?_
    refine Zav ⟨53,[],[(1,.ref n 0),(2,.ref (n+1) 0),(3,.row (n+2) l7.length),(4,(vI s0_.1)),(5,(vI s0_.2.1)),(6,.ref (n+4) 0)]⟩ (Zu O n [some ⟨false,25,3,1,(Zi a0)⟩,some ⟨false,25,3,1,[(vI 0),nV,nV]⟩,some (oR 25 3 Zn l7),none,some ⟨false,25,3,1,(Zi y5)⟩,none]) (Ye hU rfl rfl ?_) ?_
    ·exact Zxv pl7 ql7 el7
    refine zQ [1,2,3,4,5,31] ?_
    refine Zm (t:=(y5.Kind != 0)) rfl (fun c8 => ?_) (fun c8 => ?_)
    ·replace hz1:=Zr c8 hz1
     refine zR ?_
     exact zEn hz1
    replace hz1:=Zq c8 hz1
    refine zK ?_
    exact zEn hz1
   refine zR ?_
   exact zEn hs0_
  replace hs0_:=Zq c9 hs0_
  exact zEx hs0_
 try simp only [Y9,Yp,↓reduceIte,Nat.reduceEqDiff]
 refine zDs [1,2,3,4] [true,true,true,false] ?_
 refine zQ [1,2,3,4,36] ?_
 refine Zm (t:=(a0.Kind == 1)) rfl (fun c18 => ?_) (fun c18 => ?_)
 ·replace h:=Zr c18 h
  refine Zav ⟨53,[],[(1,.ref n 0),(2,.ref (n+1) 0),(3,(sL Zn z10.2)),(4,(vI z10.1))]⟩ (Zu O n [some ⟨false,25,3,1,(Zi a0)⟩,some ⟨false,25,3,1,[(vI 0),nV,nV]⟩,none,none]) (Ye hU rfl rfl ?_) ?_
  ·exact zSe
  refine Zc ?_
  obtain ⟨y14,hy14,h⟩:=bC h
  obtain ⟨l15,al15,bl15,cl15,gl15,h⟩:=bS (lo:=none) (hi:=(some (.i64,z10.1))) (f:=Zn) rfl rfl Zms Zb7 (fun _=>rfl) h
  refine Zbl Zx (by kernel_rfl) [false,false,false,false,false,false,false,true] [] (by kernel_rfl) ?_
  refine zX4 al15 bl15 cl15 gl15 ?_
  refine PCall.of (Zrq hy14) ?_
  refine zX4 al15 bl15 cl15 gl15 ?_
  refine zD [2] [false,true,false,false] ?_
  exact Z5 [.agg [(vI 1),(sL (eI .u64) y14),(sL Zn l15)]]
 replace h:=Zq c18 h
 refine Qo [1,2,3] [true,true,true,false] ?_
 refine zQ [1,2,3,7] ?_
 refine Zc ?_
 obtain ⟨l17,pl17,ql17,el17,h⟩:=bA0 (k:=a0.Words.length) rfl h
 refine Zjr [] pl17 ql17 el17 ?_
 refine Zav ⟨53,[],[(1,.ref n 0),(2,.ref (n+1) 0),(3,.row (n+2) z10.2.length),(7,.row (n+4) l17.length)]⟩ (Zu O n [some ⟨false,25,3,1,(Zi a0)⟩,some ⟨false,25,3,1,[(vI 0),nV,nV]⟩,some (oR 25 3 Zn z10.2),none,some (oR 49 1 (eI .u64) l17)]) (Ye hU rfl rfl ?_) ?_
 ·exact Zxv pl17 ql17 el17
 refine Zc ?_
 refine zRd [2] [false,true,true,false,true] ?_
 exact Z5 [.agg [(vI a0.Kind),.row (n+4) l17.length,.row (n+2) z10.2.length]]
theorem Zm2:∀ k,(Zg5 (Xt k)):=fun k=>by
 induction k with
 | zero=>exact @fun a0 r O n h=>(nomatch (show (none:Option _)=some _ from h))
 | succ k ih=>exact @fun a0 r O n h=>Zq1 (ih)  h
theorem Zrp {a0:Zb} {r:Zb} {O:Objs} {n:Nat} (h:Ze3 a0=some r):GTo Try.prog 22 [.agg (Zi a0)] O n (.agg (Zi r)) O n:=by
 obtain ⟨k,hk⟩:=Zix h
 exact (Zm2 k)  hk
theorem Zi1 {a0:Int} {a1:Int} {r:Int} {O:Objs} {n:Nat} (h:V8 a0 a1=some r):GTo Try.prog 45 [(vI a0),(vI a1)] O n ((vI r)) O n:=by
 unfold V8 at h
 refine zFn Try.call45 Try.func45 fun hU hN0 hN => ?_
 show W _ _ _ _ ⟨31,[],[(0,(vI a0)),(1,(vI a1))]⟩ (Zu O n []) _
 refine zQ [0,1] ?_
 refine Zc ?_
 refine Zc ?_
 obtain ⟨y2,hy2,h⟩:=bC h
 refine zRo [none,none,none,none] ?_
 refine zG ?_
 refine zTs (Ur hy2) ?_
 refine zG ?_
 refine zD [0,1,16] [] ?_
 refine Zm (t:=(cond (cond (decide (y2 < 1)) true (decide (a1 < 0))) true (decide (1099511627776 < a1)))) rfl (fun c14 => ?_) (fun c14 => ?_)
 ·replace h:=Zr c14 h
  refine zQ [4] ?_
  exact Z5 [(vI 0)]
 replace h:=Zq c14 h
 refine Qo [0,1] [] ?_
 refine Zc ?_
 obtain ⟨y5,hy5,h⟩:=bC h
 obtain ⟨pu6,h⟩:=bG h
 refine Z3 Zx [] ?_
 simp only [push_cast,seval,↓reduceIte,Zh,pu6,hN0,hN]
 refine (Ur hy5).then ?_
 simp only [push_cast,seval,↓reduceIte,Zh,pu6,hN0,hN]
 refine zDs [1,5] [] ?_
 obtain ⟨pu8,h⟩:=bG h
 refine Zcp [1,5,23] (Z3 Zx [] ?_)
 simp only [push_cast,seval,↓reduceIte,Zh,pu8,hN0,hN]
 refine Zm (t:=(decide (0 < (Int.tmod a1 (IntKind.i64.wrap (Int.tdiv 64 y5)))))) rfl (fun c13 => ?_) (fun c13 => ?_)
 ·replace h:=Zr c13 h
  obtain ⟨pu10,h⟩:=bG h
  refine Zcp [4] (Z3 Zx [] ?_)
  simp only [push_cast,seval,↓reduceIte,Zh,pu10,hN0,hN]
  exact Z5 [(vI (IntKind.i64.wrap ((IntKind.i64.wrap (Int.tdiv a1 (IntKind.i64.wrap (Int.tdiv 64 y5))))+1)))]
 replace h:=Zq c13 h
 refine Qo [1,5] [] ?_
 obtain ⟨pu12,h⟩:=bG h
 refine Zcp [4] (Z3 Zx [] ?_)
 simp only [push_cast,seval,↓reduceIte,Zh,pu12,hN0,hN]
 exact Z5 [(vI (IntKind.i64.wrap (Int.tdiv a1 (IntKind.i64.wrap (Int.tdiv 64 y5)))))]
theorem Zho {a0:Zb} {r:(Int×Int)} {O:Objs} {n:Nat} (h:Vf a0=some r):GTo Try.prog 46 [.agg (Zi a0)] O n (.tup [(vI r.1),(vI r.2)]) O n:=by
 unfold Vf at h
 refine zFn Try.call46 Try.func46 fun hU hN0 hN => ?_
 show W _ _ _ _ ⟨48,[],[(0,.agg (Zi a0))]⟩ (Zu O n []) _
 refine zQ [1] ?_
 refine zQ [1,4,5] ?_
 refine Zc ?_
 refine zQd [1,4,5,6] [1,4,5,6] [true] ?_
 obtain ⟨z18,hz18,h⟩:=bC h
 refine Y1 (E':=⟨48,[],[(4,(vI z18.1)),(5,(vI z18.2))]⟩) (O':=(Zu O n [none])) (n0:=(n+1)) ?_ ?_
 ·refine Xj hz18 (fun s0_=>⟨48,[],[(1,.ref n 0),(4,(vI s0_.1)),(5,(vI s0_.2.1)),(6,(vI s0_.2.2))]⟩) (fun s0_=>(Zu O n [some ⟨false,25,3,1,(Zi a0)⟩])) (fun z18=>JX 0 n (⟨48,[],[(4,(vI z18.1)),(5,(vI z18.2))]⟩:Env) (Zu O n [none]) (n+1)) ?_
  intro s0_ x0_ hs0_
  unfold K4 at hs0_
  try dsimp only
  refine Zc ?_
  refine zQ [1,4,5,6,11] ?_
  refine Zm (t:=(decide (s0_.2.2 < (a0.Kids.length:Int)))) rfl (fun c17 => ?_) (fun c17 => ?_)
  ·replace hs0_:=Zr c17 hs0_
   refine Qo [1,4,5,6] [true] ?_
   obtain ⟨z1,hz1,hs0_⟩:=bC hs0_
   refine Qb (E':=⟨48,[],[(1,.ref n 0),(4,(vI z1.1)),(5,(vI z1.2)),(6,(vI s0_.2.2))]⟩) (O':=(Zu O n [some ⟨false,25,3,1,(Zi a0)⟩])) (n0:=(n+1)) ?_ ?_
   ·refine Yo ?_
    obtain ⟨z2,hz2,hz1⟩:=bC hz1
    refine Qb (E':=⟨48,[],[(1,.ref n 0),(4,(vI z2)),(5,(vI s0_.2.1)),(6,(vI s0_.2.2))]⟩) (O':=(Zu O n [some ⟨false,25,3,1,(Zi a0)⟩])) (n0:=(n+1)) ?_ ?_
    ·obtain ⟨x5,hx5,ax5,bx5,cx5,hz2⟩:=bE (f:=Zn) Zb7 (fun _=>rfl) (by decide) hz2
     have g6:=Za2 (f:=Zn) (off:=1) (sz:=3) Zco (fun _=>rfl) (by decide) (by decide) hx5
     refine Zcp [1,4,5,6,22] (Z3 Zx [] ?_)
     refine zF4 ax5 bx5 cx5 g6 ?_
     refine Zm (t:=(decide (s0_.1 < (x5.Words.length:Int)))) rfl (fun c9 => ?_) (fun c9 => ?_)
     ·replace hz2:=Zr c9 hz2
      obtain ⟨x7,hx7,ax7,bx7,cx7,hz2⟩:=bE (f:=Zn) Zb7 (fun _=>rfl) (by decide) hz2
      have g8:=Za2 (f:=Zn) (off:=1) (sz:=3) Zco (fun _=>rfl) (by decide) (by decide) hx7
      refine Zrc [] ax7 bx7 cx7 g8 ?_
      exact Z5m hz2 ax7 bx7 cx7 g8
     replace hz2:=Zq c9 hz2
     refine zK ?_
     exact zEn hz2
    obtain ⟨x12,hx12,ax12,bx12,cx12,hz1⟩:=bE (f:=Zn) Zb7 (fun _=>rfl) (by decide) hz1
    have g13:=Za2 (f:=Zn) (off:=2) (sz:=3) Zmy (fun _=>rfl) (by decide) (by decide) hx12
    refine Zcp [1,4,5,6,38] (Z3 Zx [] ?_)
    refine zF4 ax12 bx12 cx12 g13 ?_
    refine Zm (t:=(decide (s0_.2.1 < (x12.Kids.length:Int)))) rfl (fun c16 => ?_) (fun c16 => ?_)
    ·replace hz1:=Zr c16 hz1
     obtain ⟨x14,hx14,ax14,bx14,cx14,hz1⟩:=bE (f:=Zn) Zb7 (fun _=>rfl) (by decide) hz1
     have g15:=Za2 (f:=Zn) (off:=2) (sz:=3) Zmy (fun _=>rfl) (by decide) (by decide) hx14
     refine Zrc [] ax14 bx14 cx14 g15 ?_
     exact Z5m hz1 ax14 bx14 cx14 g15
    replace hz1:=Zq c16 hz1
    refine zK ?_
    exact zEn hz1
   refine zR ?_
   exact zEn hs0_
  replace hs0_:=Zq c17 hs0_
  exact zEx hs0_
 try simp only [Y9,Yp,↓reduceIte,Nat.reduceEqDiff]
 refine zD [4,5] [false] ?_
 refine zQ [2,3] ?_
 exact Z5 [(vI z18.1),(vI z18.2)]
def Zg6 (Y6:(Zb→Option Int)):Prop:=∀ {a0:Zb} {r:Int} {O:Objs} {n:Nat},Y6 a0=some r→GTo Try.prog 23 [.agg (Zi a0)] O n ((vI r)) O n
theorem Zq2 {Y6:(Zb→Option Int)} (Zg7:Zg6 Y6) {a0:Zb} {r:Int} {O:Objs} {n:Nat} (h:Zab Y6 a0=some r):GTo Try.prog 23 [.agg (Zi a0)] O n ((vI r)) O n:=by
 unfold Zab at h
 refine zFn Try.call23 Try.func23 fun hU hN0 hN => ?_
 show W _ _ _ _ ⟨101,[],[(0,.agg (Zi a0))]⟩ (Zu O n []) _
 refine zQ [1] ?_
 refine zQ [1,3] ?_
 obtain ⟨z1,hz1,h⟩:=bC h
 refine Z4b (J:=(Ux (fun z1=>JN n (⟨101,[],[(1,.ref n 0),(3,(vI z1))]⟩:Env) (Zu O n [some ⟨false,25,3,1,(Zi a0)⟩]) (n+1)) (fun z1=>JR n (⟨101,[],[(2,(vI z1))]⟩:Env) (Zu O n [none]) (n+1)))) (z:=z1) ?_ fun hw => ?_
 ·refine zQ [1,3,10] ?_
  refine Yo ?_
  refine zQ [1,3,10,11] ?_
  refine Zm (t:=(a0.Kind == 1)) rfl (fun c27 => ?_) (fun c27 => ?_)
  ·replace hz1:=Zr c27 hz1
   refine zR ?_
   exact zEn hz1
  replace hz1:=Zq c27 hz1
  refine zQ [1,3,10,20] ?_
  refine Zm (t:=(a0.Kind == 8)) rfl (fun c26 => ?_) (fun c26 => ?_)
  ·replace hz1:=Zr c26 hz1
   refine zR ?_
   exact zEn hz1
  replace hz1:=Zq c26 hz1
  obtain ⟨z2,hz2,hz1⟩:=bC hz1
  refine Qb (E':=⟨101,[],[(1,.ref n 0),(3,(vI 0)),(10,(vI a0.Kind)),(25,(vB z2))]⟩) (O':=(Zu O n [some ⟨false,25,3,1,(Zi a0)⟩])) (n0:=(n+1)) ?_ ?_
  ·refine zQ [1,3,10,25] ?_
   refine Zm (t:=(a0.Kind == 2)) rfl (fun c7 => ?_) (fun c7 => ?_)
   ·replace hz2:=Zr c7 hz2
    refine zK ?_
    exact zEn hz2
   replace hz2:=Zq c7 hz2
   refine zQ [1,3,10,25] ?_
   refine Zm (t:=(a0.Kind == 3)) rfl (fun c6 => ?_) (fun c6 => ?_)
   ·replace hz2:=Zr c6 hz2
    refine zK ?_
    exact zEn hz2
   replace hz2:=Zq c6 hz2
   refine zQ [1,3,10,25] ?_
   refine Zm (t:=(a0.Kind == 4)) rfl (fun c5 => ?_) (fun c5 => ?_)
   ·replace hz2:=Zr c5 hz2
    refine zK ?_
    exact zEn hz2
   replace hz2:=Zq c5 hz2
   refine zQ [1,3,10,25] ?_
   refine Zm (t:=(a0.Kind == 5)) rfl (fun c4 => ?_) (fun c4 => ?_)
   ·replace hz2:=Zr c4 hz2
    refine zK ?_
    exact zEn hz2
   replace hz2:=Zq c4 hz2
   refine zQ [1,3,10,25] ?_
   refine Zm (t:=(a0.Kind == 6)) rfl (fun c3 => ?_) (fun c3 => ?_)
   ·replace hz2:=Zr c3 hz2
    refine zK ?_
    exact zEn hz2
   replace hz2:=Zq c3 hz2
   refine zR ?_
   exact zEn hz2
  refine Zm (t:=z2) rfl (fun c25 => ?_) (fun c25 => ?_)
  ·replace hz1:=Zr c25 hz1
   refine Zc ?_
   obtain ⟨y9,hy9,hz1⟩:=bC hz1
   refine zCd (Zi1 hy9) [2] [false] ?_
   refine zW ?_
   exact zEn hz1
  replace hz1:=Zq c25 hz1
  refine zQ [1,3,39] ?_
  refine Zm (t:=(a0.Kind == 9)) rfl (fun c24 => ?_) (fun c24 => ?_)
  ·replace hz1:=Zr c24 hz1
   refine Zc ?_
   obtain ⟨y11,hy11,hz1⟩:=bC hz1
   refine zCd (Zho hy11) [1,4,5] [true] ?_
   refine zQ [1,3] ?_
   refine Zc ?_
   refine zQd [1,3,6] [1,3,6] [true] ?_
   obtain ⟨z23,hz23,hz1⟩:=bC hz1
   refine Y1 (E':=⟨101,[],[(3,(vI z23))]⟩) (O':=(Zu O n [none])) (n0:=(n+1)) ?_ ?_
   ·refine Xj hz23 (fun s0_=>⟨101,[],[(1,.ref n 0),(3,(vI s0_.1)),(6,(vI s0_.2))]⟩) (fun s0_=>(Zu O n [some ⟨false,25,3,1,(Zi a0)⟩])) (fun z23=>JX 1 n (⟨101,[],[(3,(vI z23))]⟩:Env) (Zu O n [none]) (n+1)) ?_
    intro s0_ x0_ hs0_
    unfold Vx at hs0_
    try dsimp only
    refine Zc ?_
    refine zQ [1,3,6,58] ?_
    refine Zm (t:=(decide (s0_.2 < (a0.Kids.length:Int)))) rfl (fun c22 => ?_) (fun c22 => ?_)
    ·replace hs0_:=Zr c22 hs0_
     refine Qo [1,3,6] [true] ?_
     refine Zc ?_
     refine Yo ?_
     refine zQd [1,3,6,7] [1,3,6,7] [true] ?_
     obtain ⟨z21,hz21,hs0_⟩:=bC hs0_
     refine Y1 (E':=⟨101,[],[(1,.ref n 0),(3,(vI z21)),(6,(vI s0_.2))]⟩) (O':=(Zu O n [some ⟨false,25,3,1,(Zi a0)⟩])) (n0:=(n+1)) ?_ ?_
     ·refine Xj hz21 (fun s1_=>⟨101,[],[(1,.ref n 0),(3,(vI s1_.1)),(6,(vI s0_.2)),(7,(vI s1_.2))]⟩) (fun s1_=>(Zu O n [some ⟨false,25,3,1,(Zi a0)⟩])) (fun z21=>JX 3 n (⟨101,[],[(1,.ref n 0),(3,(vI z21)),(6,(vI s0_.2))]⟩:Env) (Zu O n [some ⟨false,25,3,1,(Zi a0)⟩]) (n+1)) ?_
      intro s1_ x1_ hs1_
      unfold Vy at hs1_
      try dsimp only
      refine Zc ?_
      obtain ⟨x14,hx14,ax14,bx14,cx14,hs1_⟩:=bE (f:=Zn) Zb7 (fun _=>rfl) (by decide) hs1_
      have g15:=Za2 (f:=Zn) (off:=2) (sz:=3) Zmy (fun _=>rfl) (by decide) (by decide) hx14
      refine Zcp [1,3,6,7,69] (Z3 Zx [] ?_)
      refine zF4 ax14 bx14 cx14 g15 ?_
      refine Zm (t:=(decide (s1_.2 < (x14.Kids.length:Int)))) rfl (fun c20 => ?_) (fun c20 => ?_)
      ·replace hs1_:=Zr c20 hs1_
       refine Qo [1,3,6,7] [true] ?_
       refine Zc ?_
       refine Yo ?_
       obtain ⟨x16,hx16,ax16,bx16,cx16,hs1_⟩:=bE (f:=Zn) Zb7 (fun _=>rfl) (by decide) hs1_
       have g17:=Za2 (f:=Zn) (off:=2) (sz:=3) Zmy (fun _=>rfl) (by decide) (by decide) hx16
       obtain ⟨x18,hx18,ax18,bx18,cx18,hs1_⟩:=bE (f:=Zn) Zb7 (fun _=>rfl) (by decide) hs1_
       obtain ⟨y19,hy19,hs1_⟩:=bC hs1_
       refine Z9g [] ax16 bx16 cx16 g17 ax18 bx18 cx18 ?_
       refine (Zg7 hy19).then ?_
       refine zF7 ax16 bx16 cx16 g17 ax18 bx18 cx18 ?_
       refine zD [1,3,6,7] [true] ?_
       refine zR ?_
       exact zEn hs1_
      replace hs1_:=Zq c20 hs1_
      exact zEx hs1_
     try simp only [Y9,Yp,↓reduceIte,Nat.reduceEqDiff]
     refine zD [1,3,6] [true] ?_
     refine zR ?_
     exact zEn hs0_
    replace hs0_:=Zq c22 hs0_
    exact zEx hs0_
   try simp only [Y9,Yp,↓reduceIte,Nat.reduceEqDiff]
   refine zD [3] [false] ?_
   refine zQ [2] ?_
   refine zW ?_
   exact zEn hz1
  replace hz1:=Zq c24 hz1
  refine zK ?_
  exact zEn hz1
 rcases z1 with z1 | z1
 ·dsimp only [Ux] at hw h
  refine Qb hw ?_
  refine Zc ?_
  refine zQd [1,3,8] [1,3,8] [true] ?_
  obtain ⟨z31,hz31,h⟩:=bC h
  refine Y1 (E':=⟨101,[],[(3,(vI z31))]⟩) (O':=(Zu O n [none])) (n0:=(n+1)) ?_ ?_
  ·refine Xj hz31 (fun s2_=>⟨101,[],[(1,.ref n 0),(3,(vI s2_.1)),(8,(vI s2_.2))]⟩) (fun s2_=>(Zu O n [some ⟨false,25,3,1,(Zi a0)⟩])) (fun z31=>JX 5 n (⟨101,[],[(3,(vI z31))]⟩:Env) (Zu O n [none]) (n+1)) ?_
   intro s2_ x2_ hs2_
   unfold Jo at hs2_
   try dsimp only
   refine Zc ?_
   refine zQ [1,3,8,89] ?_
   refine Zm (t:=(decide (s2_.2 < (a0.Kids.length:Int)))) rfl (fun c30 => ?_) (fun c30 => ?_)
   ·replace hs2_:=Zr c30 hs2_
    refine Qo [1,3,8] [true] ?_
    refine Zc ?_
    refine Yo ?_
    obtain ⟨x28,hx28,ax28,bx28,cx28,hs2_⟩:=bE (f:=Zn) Zb7 (fun _=>rfl) (by decide) hs2_
    obtain ⟨y29,hy29,hs2_⟩:=bC hs2_
    refine Z5p [] ax28 bx28 cx28 ?_
    refine (Zg7 hy29).then ?_
    refine zF3 ax28 bx28 cx28 ?_
    refine zD [1,3,8] [true] ?_
    refine zR ?_
    exact zEn hs2_
   replace hs2_:=Zq c30 hs2_
   exact zEx hs2_
  try simp only [Y9,Yp,↓reduceIte,Nat.reduceEqDiff]
  refine zD [3] [false] ?_
  refine zQ [2] ?_
  exact Z5 [(vI z31)]
 dsimp only [Ux] at hw h
 refine Zzu hw ?_
 try simp only [Y9,Yp]
 exact Zxu [(vI z1)]
theorem Zm3:∀ k,(Zg6 (Xh k)):=fun k=>by
 induction k with
 | zero=>exact @fun a0 r O n h=>(nomatch (show (none:Option _)=some _ from h))
 | succ k ih=>exact @fun a0 r O n h=>Zq2 (ih)  h
theorem Zd5 {a0:Zb} {r:Int} {O:Objs} {n:Nat} (h:Zcn a0=some r):GTo Try.prog 23 [.agg (Zi a0)] O n ((vI r)) O n:=by
 obtain ⟨k,hk⟩:=Zix h
 exact (Zm3 k)  hk
theorem Gr {a0:Int} {a1:Int} {a2:Int} {a3:Int} {r:Int} {O:Objs} {n:Nat} (h:X7 a0 a1 a2 a3=some r):GTo Try.prog 47 [(vI a0),(vI a1),(vI a2),.val (.int .u64 a3)] O n (.val (.int .u64 r)) O n:=by
 unfold X7 at h
 refine zFn Try.call47 Try.func47 fun hU hN0 hN => ?_
 show W _ _ _ _ ⟨26,[],[(0,(vI a0)),(1,(vI a1)),(2,(vI a2)),(3,.val (.int .u64 a3))]⟩ (Zu O n []) _
 refine zQ [0,1,2,3] ?_
 refine zQ [2,3,9] ?_
 obtain ⟨z1,hz1,h⟩:=bC h
 refine Qb (E':=⟨26,[],[(2,(vI a2)),(3,.val (.int .u64 a3)),(9,(vI z1))]⟩) (O':=(Zu O n [])) (n0:=n) ?_ ?_
 ·refine zQ [2,3,9,15] ?_
  refine Zm (t:=(decide ((IntKind.i64.wrap ((IntKind.i64.wrap (a1 - a0)) - 1)) < 0))) rfl (fun c2 => ?_) (fun c2 => ?_)
  ·replace hz1:=Zr c2 hz1
   refine zR ?_
   exact zEn hz1
  replace hz1:=Zq c2 hz1
  refine zK ?_
  exact zEn hz1
 refine zQ [8] ?_
 exact Z5 [.val (.int .u64 (IntKind.u64.wrap ((IntKind.u64.wrap (IntKind.i64.wrap ((IntKind.i64.wrap (4 * z1))+a2)))+(IntKind.u64.wrap (a3 * 4294967296)))))]
theorem Zfa {a0:(List Int)} {a1:Int} {r:(List Int)} {O:Objs} {n:Nat} {t0:Nat} (ht0:t0 < n) (hot0:O t0=some (oR 49 1 (eI .u64) a0)) (h:Vg a0 a1=some r):GTo Try.prog 48 [.row t0 a0.length,(vI a1)] O n (.row n r.length) (Zu (O.upd t0 none) n [some (oR 49 1 (eI .u64) r)]) (n+1):=by
 unfold Vg at h
 refine Zkf Zx Try.call48 Try.func48 rfl (Nat.le_of_ble_eq_true rfl) (by omega) fun hU => ?_
 have e0:=Zzl (ba:=n) (E:=⟨15,[],[(0,.row t0 a0.length),(1,.val (.int .i64 a1))]⟩) (O:=(Zu O n [])) (n:=n) (j:=t0) (len:=a0.length) (q:=⟨true,49,1,a0.length,fl (eI .u64) a0⟩) 0 rfl (by rw [Xv _ ht0];exact hot0) (by omega)
 simp only [Je _ _ ht0,Jn,Qs,List.cons_append,List.nil_append,List.length_cons,List.length_nil,Nat.zero_add,Nat.reduceAdd,Nat.add_assoc] at e0
 refine Gv e0 ?_
 have hU:=(Und.drop hU t0)
 have hN0:(O.upd t0 none) n=none:=hU.fresh _ (Nat.le_refl _)
 have hN:∀ k,(O.upd t0 none) (n+k)=none:=fun k=>hU.fresh _ (Nat.le_add_right _ _)
 show W _ _ _ _ ⟨15,[],[(0,.row n a0.length),(0,.row t0 a0.length),(1,(vI a1))]⟩ (Zu (O.upd t0 none) n [some (oR 49 1 (eI .u64) a0)]) _
 refine zQ [0,1] ?_
 refine Zc ?_
 refine zQd [0,1,5] [0,1,5] [true] ?_
 obtain ⟨z3,hz3,h⟩:=bC h
 refine Y1 (E':=⟨15,[],[(0,.row n z3.length)]⟩) (O':=(Zu (O.upd t0 none) n [some (oR 49 1 (eI .u64) z3)])) (n0:=(n+1)) ?_ ?_
 ·refine Xj hz3 (fun s0_=>⟨15,[],[(0,.row n s0_.2.length),(1,(vI a1)),(5,(vI s0_.1))]⟩) (fun s0_=>(Zu (O.upd t0 none) n [some (oR 49 1 (eI .u64) s0_.2)])) (fun z3=>JX 0 n (⟨15,[],[(0,.row n z3.length)]⟩:Env) (Zu (O.upd t0 none) n [some (oR 49 1 (eI .u64) z3)]) (n+1)) ?_
  intro s0_ x0_ hs0_
  unfold Up at hs0_
  try dsimp only
  refine Zc ?_
  refine zQ [0,1,5,8] ?_
  refine Zm (t:=(decide (s0_.1 < a1))) rfl (fun c2 => ?_) (fun c2 => ?_)
  ·replace hs0_:=Zr c2 hs0_
   refine Qo [0,1,5] [true] ?_
   refine Zc ?_
   refine Yo ?_
   obtain ⟨l1,pl1,ql1,el1,hs0_⟩:=bA (k:=1) rfl hs0_
   refine Zjr [] pl1 ql1 el1 ?_
   refine Zav ⟨15,[],[(0,.row n l1.length),(1,(vI a1)),(5,(vI s0_.1))]⟩ (Zu (O.upd t0 none) n [some (oR 49 1 (eI .u64) l1),none]) (Ye hU rfl rfl ?_) ?_
   ·exact Zxv pl1 ql1 el1
   refine zR ?_
   exact zEn hs0_
  replace hs0_:=Zq c2 hs0_
  exact zEx hs0_
 try simp only [Y9,Yp,↓reduceIte,Nat.reduceEqDiff]
 refine zD [0] [true] ?_
 refine zQ [4] ?_
 refine zW ?_
 have h:=Option.some.inj h;subst h
 refine Zip (k:=1) (L3:=[some (oR 49 1 (eI .u64) z3),none]) (E2:=(⟨15,[],[(4,.row n z3.length)]⟩:Env)) (n3:=(n+2)) (.inr rfl) hU rfl [.row n z3.length] ?_ ?_
 ·refine Fit2.trans (E':=(⟨15,[],[(4,.row n z3.length)]⟩:Env)) (O':=(Zu (O.upd t0 none) n [some (oR 49 1 (eI .u64) z3)])) (n':=(n+1)) (Fit2.of (Ye hU rfl rfl ?_) (by omega)) ?_
  ·exact zSe
  refine K1 (k:=1) (k':=2) hU [0] [0,0] rfl rfl rfl rfl ⟨rfl,rfl⟩ ?_
  exact zSe
 simp only [push_cast,seval,↓reduceIte,Zh,Try.results48,hN0,hN]
theorem Zqw {a0:Zb} {r:(List Int)} {O:Objs} {n:Nat} (h:Gg a0=some r):GTo Try.prog 50 [.agg (Zi a0)] O n ((sL (eI .u64) r)) O n:=by
 unfold Gg at h
 refine zFn Try.call50 Try.func50 fun hU hN0 hN => ?_
 show W _ _ _ _ ⟨24,[],[(0,.agg (Zi a0))]⟩ (Zu O n []) _
 refine zQ [1] ?_
 refine zQ [1,3] ?_
 refine Zc ?_
 refine zQd [1,3,4] [1,3,4] [true] ?_
 refine Gv (E':=(⟨24,[],[(1,.ref n 0),(3,.row (n+1) ([]:List Int).length),(4,(vI 0))]⟩:Env)) (O':=(Zu O n [some ⟨false,25,3,1,(Zi a0)⟩,some (oR 49 1 (eI .u64) ([]:List Int)),none])) (n':=(n+3)) ?_ ?_
 ·refine Fit2.trans (E':=(⟨24,[],[(1,.ref n 0),(3,nV),(4,(vI 0))]⟩:Env)) (O':=(Zu O n [some ⟨false,25,3,1,(Zi a0)⟩])) (n':=(n+1)) (Fit2.of (Ye hU rfl rfl ?_) (by omega)) ?_
  ·exact zSe
  refine Fit2.trans (Zoa 3 49 1 rfl (by omega)) ?_
  simp only [Jn,Qs,Zdt,Zct,List.set_cons_zero,List.set_cons_succ,List.cons_append,List.nil_append,List.length_cons,List.length_nil,Nat.zero_add,Nat.reduceAdd,Nat.reduceLT,Nat.add_assoc]
  refine Fit2.trans (E':=(⟨24,[],[(1,.ref n 0),(3,.row (n+1) ([]:List Int).length),(4,(vI 0))]⟩:Env)) (O':=(Zu O n [some ⟨false,25,3,1,(Zi a0)⟩,some (oR 49 1 (eI .u64) ([]:List Int))])) (n':=(n+2)) (Fit2.of (Ye hU rfl rfl ?_) (by omega)) ?_
  ·exact zSe
  refine K1 (k:=2) (k':=3) hU [0,1] [0,1,0] rfl rfl rfl rfl ⟨rfl,rfl⟩ ?_
  exact zSe
 obtain ⟨z6,hz6,h⟩:=bC h
 refine Y1 (E':=⟨24,[],[(3,.row (n+1) z6.length)]⟩) (O':=(Zu O n [none,some (oR 49 1 (eI .u64) z6),none])) (n0:=(n+3)) ?_ ?_
 ·refine Xj hz6 (fun s0_=>⟨24,[],[(1,.ref n 0),(3,.row (n+1) s0_.2.length),(4,(vI s0_.1))]⟩) (fun s0_=>(Zu O n [some ⟨false,25,3,1,(Zi a0)⟩,some (oR 49 1 (eI .u64) s0_.2),none])) (fun z6=>JX 0 n (⟨24,[],[(3,.row (n+1) z6.length)]⟩:Env) (Zu O n [none,some (oR 49 1 (eI .u64) z6),none]) (n+3)) ?_
  intro s0_ x0_ hs0_
  unfold K5 at hs0_
  try dsimp only
  refine Zc ?_
  refine zQ [1,3,4,9] ?_
  refine Zm (t:=(decide (s0_.1 < (a0.Kids.length:Int)))) rfl (fun c5 => ?_) (fun c5 => ?_)
  ·replace hs0_:=Zr c5 hs0_
   refine Qo [1,3,4] [true,true,false] ?_
   refine Zc ?_
   refine Yo ?_
   obtain ⟨x1,hx1,ax1,bx1,cx1,hs0_⟩:=bE (f:=Zn) Zb7 (fun _=>rfl) (by decide) hs0_
   have g2:=Za2 (f:=Zn) (off:=1) (sz:=3) Zco (fun _=>rfl) (by decide) (by decide) hx1
   obtain ⟨x3,hx3,ax3,bx3,cx3,hs0_⟩:=bE (f:=(eI .u64)) Ke (fun _=>rfl) (by decide) hs0_
   obtain ⟨l4,pl4,ql4,el4,hs0_⟩:=bA (k:=1) rfl hs0_
   refine Yc6 ax1 bx1 cx1 g2 ax3 bx3 cx3 pl4 ql4 el4 ?_
   refine Zav ⟨24,[],[(1,.ref n 0),(3,.row (n+1) l4.length),(4,(vI s0_.1))]⟩ (Zu O n [some ⟨false,25,3,1,(Zi a0)⟩,some (oR 49 1 (eI .u64) l4),none,none]) (Ye hU rfl rfl ?_) ?_
   ·exact Ybb ax1 bx1 cx1 g2 ax3 bx3 cx3 pl4 ql4 el4
   refine zR ?_
   exact zEn hs0_
  replace hs0_:=Zq c5 hs0_
  exact zEx hs0_
 try simp only [Y9,Yp,↓reduceIte,Nat.reduceEqDiff]
 refine zD [3] [false,true,false] ?_
 refine zQ [2] ?_
 exact Z5 [.row (n+1) z6.length]
theorem Zsr {a0:Int} {a1:(List Int)} {r:((List Int)×Bool)} {O:Objs} {n:Nat} (h:Za7 a0 a1=some r):GTo Try.prog 49 [(vI a0),(sL (eI .u64) a1)] O n (.tup [(sL (eI .u64) r.1),(vB r.2)]) O n:=by
 unfold Za7 at h
 refine zFn Try.call49 Try.func49 fun hU hN0 hN => ?_
 show W _ _ _ _ ⟨62,[],[(0,(vI a0)),(1,(sL (eI .u64) a1))]⟩ (Zu O n []) _
 refine zQ [0,1] ?_
 refine Zc ?_
 obtain ⟨y2,hy2,h⟩:=bC h
 refine zCd (Ur hy2) [0,1,6] [] ?_
 refine Zc ?_
 refine zQ [0,1,6,14] ?_
 refine Zm (t:=(decide (y2 < 0))) rfl (fun c21 => ?_) (fun c21 => ?_)
 ·replace h:=Zr c21 h
  refine zQ [4,5] ?_
  exact Z5 [nV,(vB false)]
 replace h:=Zq c21 h
 refine Qo [0,1,6] [] ?_
 refine Zc ?_
 obtain ⟨y5,hy5,h⟩:=bC h
 obtain ⟨l6,al6,bl6,cl6,el6,h⟩:=bM2 (c:=8) rfl h
 have nl6:Int.toNat y5=List.length l6:=by rw [el6,List.length_replicate]
 have fl6:(List.replicate (List.length l6) [.val (.int .u64 0)]).flatten=fl (eI .u64) l6:=by rw [← nl6,el6];exact (Zl6 (f:=(eI .u64)) _ _).symm
 clear el6
 refine Z3 Zx [] ?_
 simp only [push_cast,seval,↓reduceIte,Zh,al6,bl6,cl6,fl6,nl6,hN0,hN]
 refine (Zi1 hy5).then ?_
 simp only [push_cast,seval,↓reduceIte,Zh,al6,bl6,cl6,fl6,nl6,hN0,hN]
 refine Zav ⟨62,[],[(0,(vI a0)),(1,(sL (eI .u64) a1)),(6,(vI y2)),(7,.row n l6.length)]⟩ (Zu O n [some (oR 49 1 (eI .u64) l6)]) (Ye hU rfl rfl ?_) ?_
 ·simp only [push_cast,seval,↓reduceIte,Zh,al6,bl6,cl6,fl6,nl6,hN0,hN]
 refine Zc ?_
 refine zQd [0,1,6,7,8] [0,1,6,7,8] [true] ?_
 obtain ⟨z20,hz20,h⟩:=bC h
 refine Zl2 (J:=(Ux (fun z20=>JR n (⟨62,[],[(4,nV),(5,(vB false))]⟩:Env) (Zu O n [none]) (n+1)) (fun z20=>JX 0 n (⟨62,[],[(7,.row n z20.length)]⟩:Env) (Zu O n [some (oR 49 1 (eI .u64) z20)]) (n+1)))) (z:=z20) ?_ fun hw => ?_
 ·refine Xj hz20 (fun s0_=>⟨62,[],[(0,(vI a0)),(1,(sL (eI .u64) a1)),(6,(vI y2)),(7,.row n s0_.2.length),(8,(vI s0_.1))]⟩) (fun s0_=>(Zu O n [some (oR 49 1 (eI .u64) s0_.2)])) (Ux (fun z20=>JR n (⟨62,[],[(4,nV),(5,(vB false))]⟩:Env) (Zu O n [none]) (n+1)) (fun z20=>JX 0 n (⟨62,[],[(7,.row n z20.length)]⟩:Env) (Zu O n [some (oR 49 1 (eI .u64) z20)]) (n+1))) ?_
  intro s0_ x0_ hs0_
  unfold Xb at hs0_
  try dsimp only
  refine Zc ?_
  refine zQ [0,1,6,7,8,23] ?_
  refine Zm (t:=(decide (s0_.1 < (a1.length:Int)))) rfl (fun c19 => ?_) (fun c19 => ?_)
  ·replace hs0_:=Zr c19 hs0_
   refine Qo [0,1,6,7,8] [true] ?_
   obtain ⟨z7,hz7,hs0_⟩:=bC hs0_
   refine Z4b (J:=(Ux (fun z7=>JN n (⟨62,[],[(0,(vI a0)),(1,(sL (eI .u64) a1)),(6,(vI y2)),(7,.row n z7.length),(8,(vI s0_.1))]⟩:Env) (Zu O n [some (oR 49 1 (eI .u64) z7)]) (n+1)) (fun z7=>JR n (⟨62,[],[(4,nV),(5,(vB false))]⟩:Env) (Zu O n [none]) (n+1)))) (z:=z7) ?_ fun hw => ?_
   ·refine Yo ?_
    obtain ⟨x9,hx9,ax9,bx9,cx9,hz7⟩:=bE (f:=(eI .u64)) Ke (fun _=>rfl) (by decide) hz7
    refine Zcp [0,1,6,7,8,9] (Z3 Zx [] ?_)
    refine zF3 ax9 bx9 cx9 ?_
    refine Zc ?_
    refine Zc ?_
    obtain ⟨y11,hy11,hz7⟩:=bC hz7
    refine zCd (Zd4 hy11) [0,1,6,7,8,9,33] [true] ?_
    refine Zm (t:=(!y11)) rfl (fun c18 => ?_) (fun c18 => ?_)
    ·replace hz7:=Zr c18 hz7
     refine zQ [4,5] ?_
     refine zW ?_
     exact zEn hz7
    replace hz7:=Zq c18 hz7
    refine Qo [0,1,6,7,8,9] [true] ?_
    refine Zc ?_
    refine zQd [0,1,6,7,8,9,10] [0,1,6,7,8,9,10] [true] ?_
    obtain ⟨z13,hz13,hz7⟩:=bC hz7
    refine Y1 (E':=⟨62,[],[(0,(vI a0)),(1,(sL (eI .u64) a1)),(6,(vI y2)),(7,.row n s0_.2.length),(8,(vI s0_.1)),(9,.val (.int .u64 z13))]⟩) (O':=(Zu O n [some (oR 49 1 (eI .u64) s0_.2)])) (n0:=(n+1)) ?_ ?_
    ·refine Xj hz13 (fun s1_=>⟨62,[],[(0,(vI a0)),(1,(sL (eI .u64) a1)),(6,(vI y2)),(7,.row n s0_.2.length),(8,(vI s0_.1)),(9,.val (.int .u64 s1_.1)),(10,(vI s1_.2))]⟩) (fun s1_=>(Zu O n [some (oR 49 1 (eI .u64) s0_.2)])) (fun z13=>JX 2 n (⟨62,[],[(0,(vI a0)),(1,(sL (eI .u64) a1)),(6,(vI y2)),(7,.row n s0_.2.length),(8,(vI s0_.1)),(9,.val (.int .u64 z13))]⟩:Env) (Zu O n [some (oR 49 1 (eI .u64) s0_.2)]) (n+1)) ?_
     intro s1_ x1_ hs1_
     unfold Zay at hs1_
     try dsimp only
     refine Zc ?_
     refine zQ [0,1,6,7,8,9,10,39] ?_
     refine Zm (t:=(decide (s1_.2 < (Int.tmod (IntKind.i64.wrap (s0_.1 * y2)) 64)))) rfl (fun c12 => ?_) (fun c12 => ?_)
     ·replace hs1_:=Zr c12 hs1_
      refine Qo [0,1,6,7,8,9,10] [true] ?_
      refine Zc ?_
      refine Yo ?_
      refine zRd [0,1,6,7,8,9,10] [true] ?_
      refine zR ?_
      exact zEn hs1_
     replace hs1_:=Zq c12 hs1_
     exact zEx hs1_
    try simp only [Y9,Yp,↓reduceIte,Nat.reduceEqDiff]
    refine zD [0,1,6,7,8,9] [true] ?_
    refine zQ [0,1,6,7,8,9,45] ?_
    refine Zm (t:=(decide (0 < y2))) rfl (fun c17 => ?_) (fun c17 => ?_)
    ·replace hz7:=Zr c17 hz7
     obtain ⟨x14,hx14,ax14,bx14,cx14,hz7⟩:=bE (f:=(eI .u64)) Ke (fun _=>rfl) (by decide) hz7
     have gu16:Va (fl (eI .u64) s0_.2) [.val (.int .u64 (IntKind.u64.wrap (x14+z13)))] (Int.toNat (IntKind.i64.wrap (Int.tdiv (IntKind.i64.wrap (s0_.1 * y2)) 64)) * 1)=some (fl (eI .u64) (Xu s0_.2 (IntKind.i64.wrap (Int.tdiv (IntKind.i64.wrap (s0_.1 * y2)) 64)) (IntKind.u64.wrap (x14+z13)))):=Zcb (f:=(eI .u64)) (ti:=⟨.bool,1,0,[],false⟩) (x:=(IntKind.u64.wrap (x14+z13))) (fun _=>rfl) (Zad hx14)
     refine Zrc [] ax14 bx14 cx14 gu16 ?_
     exact Z5m hz7 ax14 bx14 cx14 gu16
    replace hz7:=Zq c17 hz7
    refine zK ?_
    exact zEn hz7
   rcases z7 with z7 | z7
   ·dsimp only [Ux] at hw hs0_
    refine Qb hw ?_
    refine zR ?_
    exact zEn hs0_
   dsimp only [Ux] at hw hs0_
   refine Zzu hw ?_
   try simp only [Y9,Yp]
   exact zEy hs0_
  replace hs0_:=Zq c19 hs0_
  exact zEx hs0_
 rcases z20 with z20 | z20
 ·dsimp only [Ux] at hw h
  refine Zew hw ?_
  try simp only [Y9,Yp,↓reduceIte,Nat.reduceEqDiff]
  exact Zxu [nV,(vB false)]
 dsimp only [Ux] at hw h
 refine Y1 hw ?_
 try simp only [Y9,Yp,↓reduceIte,Nat.reduceEqDiff]
 refine zD [7] [true] ?_
 refine zQ [4,5] ?_
 exact Z5 [.row n z20.length,(vB true)]
def Zhk (Yz:((List Int)→Int→Zb→Option (List Int))):Prop:=∀ {a0:(List Int)} {a1:Int} {a2:Zb} {r:(List Int)} {O:Objs} {n:Nat} {t0:Nat},t0 < n→O t0=some (oR 49 1 (eI .u64) a0)→Yz a0 a1 a2=some r→GTo Try.prog 24 [.row t0 a0.length,(vI a1),.agg (Zi a2)] O n (.row n r.length) (Zu (O.upd t0 none) n [some (oR 49 1 (eI .u64) r)]) (n+1)
theorem Zrr {Yz:((List Int)→Int→Zb→Option (List Int))} (Zdm:Zhk Yz) {a0:(List Int)} {a1:Int} {a2:Zb} {r:(List Int)} {O:Objs} {n:Nat} {t0:Nat} (ht0:t0 < n) (hot0:O t0=some (oR 49 1 (eI .u64) a0)) (h:Xn Yz a0 a1 a2=some r):GTo Try.prog 24 [.row t0 a0.length,(vI a1),.agg (Zi a2)] O n (.row n r.length) (Zu (O.upd t0 none) n [some (oR 49 1 (eI .u64) r)]) (n+1):=by
 unfold Xn at h
 refine Zkf Zx Try.call24 Try.func24 rfl (Nat.le_of_ble_eq_true rfl) (by omega) fun hU => ?_
 have e0:=Zzl (ba:=n) (E:=⟨252,[],[(0,.row t0 a0.length),(1,.val (.int .i64 a1)),(2,.agg [.val (.int .i64 a2.Kind),.sl a2.Words.length (fl (eI .u64) a2.Words),.sl a2.Kids.length (fl Zn a2.Kids)])]⟩) (O:=(Zu O n [])) (n:=n) (j:=t0) (len:=a0.length) (q:=⟨true,49,1,a0.length,fl (eI .u64) a0⟩) 0 rfl (by rw [Xv _ ht0];exact hot0) (by omega)
 simp only [Je _ _ ht0,Jn,Qs,List.cons_append,List.nil_append,List.length_cons,List.length_nil,Nat.zero_add,Nat.reduceAdd,Nat.add_assoc] at e0
 refine Gv e0 ?_
 have hU:=(Und.drop hU t0)
 have hN0:(O.upd t0 none) n=none:=hU.fresh _ (Nat.le_refl _)
 have hN:∀ k,(O.upd t0 none) (n+k)=none:=fun k=>hU.fresh _ (Nat.le_add_right _ _)
 show W _ _ _ _ ⟨252,[],[(0,.row n a0.length),(0,.row t0 a0.length),(1,(vI a1)),(2,.agg (Zi a2))]⟩ (Zu (O.upd t0 none) n [some (oR 49 1 (eI .u64) a0)]) _
 refine zQ [0,1,5] ?_
 refine zQ [0,1,5,7] ?_
 refine Zc ?_
 refine zQ [0,1,5,7,21] ?_
 refine Yo ?_
 refine zQ [0,1,5,7,21,22] ?_
 refine Zm (t:=(a2.Kind == 0)) rfl (fun c77 => ?_) (fun c77 => ?_)
 ·replace h:=Zr c77 h
  refine zQ [6] ?_
  refine zW ?_
  have h:=Option.some.inj h;subst h
  refine Zip (k:=1) (L3:=[some (oR 49 1 (eI .u64) a0),none]) (E2:=(⟨252,[],[(6,.row n a0.length)]⟩:Env)) (n3:=(n+2)) (.inr rfl) hU rfl [.row n a0.length] ?_ ?_
  ·refine Fit2.trans (E':=(⟨252,[],[(6,.row n a0.length)]⟩:Env)) (O':=(Zu (O.upd t0 none) n [some (oR 49 1 (eI .u64) a0),none])) (n':=(n+2)) (Fit2.of (Ye hU rfl rfl ?_) (by omega)) ?_
   ·exact zSe
   refine K1 (k:=2) (k':=2) hU [0,1] [0,0] rfl rfl rfl rfl ⟨rfl,rfl⟩ ?_
   exact zSe
  simp only [push_cast,seval,↓reduceIte,Zh,Try.results24,hN0,hN]
 replace h:=Zq c77 h
 refine zQ [0,1,5,7,21,25] ?_
 refine Zm (t:=(a2.Kind == 1)) rfl (fun c76 => ?_) (fun c76 => ?_)
 ·replace h:=Zr c76 h
  obtain ⟨z1,hz1,h⟩:=bC h
  refine Qb (E':=⟨252,[],[(0,.row n a0.length),(1,(vI a1)),(5,.ref (n+1) 0),(7,(vI z1))]⟩) (O':=(Zu (O.upd t0 none) n [some (oR 49 1 (eI .u64) a0),some ⟨false,25,3,1,(Zi a2)⟩])) (n0:=(n+2)) ?_ ?_
  ·refine zQ [0,1,5,7,34] ?_
   refine Zm (t:=((IntKind.i64.wrap ((a2.Words.length:Int)+(a2.Kids.length:Int))) == 0)) rfl (fun c2 => ?_) (fun c2 => ?_)
   ·replace hz1:=Zr c2 hz1
    refine zR ?_
    exact zEn hz1
   replace hz1:=Zq c2 hz1
   refine zK ?_
   exact zEn hz1
  refine Zc ?_
  obtain ⟨y6,hy6,h⟩:=bC h
  obtain ⟨x7,hx7,ax7,bx7,cx7,h⟩:=bE (f:=(eI .u64)) Ke (fun _=>rfl) (by decide) h
  have gu8:Va (fl (eI .u64) a0) [.val (.int .u64 y6)] (Int.toNat a1 * 1)=some (fl (eI .u64) (Xu a0 a1 y6)):=Zcb (f:=(eI .u64)) (ti:=⟨.bool,1,0,[],false⟩) (x:=y6) (fun _=>rfl) (Zad hx7)
  refine Zrc [] ax7 bx7 cx7 gu8 ?_
  refine (Gr hy6).then ?_
  refine zF4 ax7 bx7 cx7 gu8 ?_
  refine zDs [0,5,7] [true,true] ?_
  obtain ⟨l10,pl10,ql10,el10,h⟩:=bA (k:=a2.Words.length) rfl h
  simp only [Qa,Zdc] at pl10 ql10
  refine Zjr [] pl10 ql10 el10 ?_
  refine Zav ⟨252,[],[(0,.row n l10.length),(5,.ref (n+1) 0),(7,(vI z1))]⟩ (Zu (O.upd t0 none) n [some (oR 49 1 (eI .u64) l10),some ⟨false,25,3,1,(Zi a2)⟩]) (Ye hU rfl rfl ?_) ?_
  ·exact Zxv pl10 ql10 el10
  refine Zc ?_
  obtain ⟨y12,hy12,h⟩:=bC h
  refine zR ?_
  refine (Zfa (t0:=n) (by omega) (by simp only [push_cast,seval,↓reduceIte,Zh,Xm,hN0,hN] <;> rfl) hy12).then ?_
  refine zS ?_
  refine zDs [0,5,7] [false,true,true] ?_
  refine zQd [0,5,7,8] [0,5,7,8] [false,true,true] ?_
  refine Gv (E':=(⟨252,[],[(0,.row (n+3) y12.length),(5,.ref (n+1) 0),(7,(vI z1)),(8,(vI 0))]⟩:Env)) (O':=(Zu (O.upd t0 none) n [none,some ⟨false,25,3,1,(Zi a2)⟩,none,some (oR 49 1 (eI .u64) y12),none])) (n':=(n+5)) ?_ ?_
  ·refine Fit2.trans (E':=(⟨252,[],[(0,.row (n+2) y12.length),(5,.ref (n+1) 0),(7,(vI z1)),(8,(vI 0))]⟩:Env)) (O':=(Zu (O.upd t0 none) n [none,some ⟨false,25,3,1,(Zi a2)⟩,some (oR 49 1 (eI .u64) y12)])) (n':=(n+3)) (Fit2.of (Ye hU rfl rfl ?_) (by omega)) ?_
   ·exact zSe
   refine K1 (k:=3) (k':=5) hU [4,1,3] [0,1,0,2,0] rfl rfl rfl rfl ⟨rfl,rfl⟩ ?_
   exact zSe
  obtain ⟨z16,hz16,h⟩:=bC h
  refine Y1 (E':=⟨252,[],[(0,.row (n+3) z16.length)]⟩) (O':=(Zu (O.upd t0 none) n [none,none,none,some (oR 49 1 (eI .u64) z16),none])) (n0:=(n+5)) ?_ ?_
  ·refine Xj hz16 (fun s0_=>⟨252,[],[(0,.row (n+3) s0_.2.length),(5,.ref (n+1) 0),(7,(vI z1)),(8,(vI s0_.1))]⟩) (fun s0_=>(Zu (O.upd t0 none) n [none,some ⟨false,25,3,1,(Zi a2)⟩,none,some (oR 49 1 (eI .u64) s0_.2),none])) (fun z16=>JX 1 n (⟨252,[],[(0,.row (n+3) z16.length)]⟩:Env) (Zu (O.upd t0 none) n [none,none,none,some (oR 49 1 (eI .u64) z16),none]) (n+5)) ?_
   intro s0_ x0_ hs0_
   unfold Ui at hs0_
   try dsimp only
   refine Zc ?_
   refine zQ [0,5,7,8,65] ?_
   refine Zm (t:=(decide (s0_.1 < (a2.Kids.length:Int)))) rfl (fun c15 => ?_) (fun c15 => ?_)
   ·replace hs0_:=Zr c15 hs0_
    refine Qo [0,5,7,8] [false,true,false,true,false] ?_
    refine Zc ?_
    refine Yo ?_
    obtain ⟨x13,hx13,ax13,bx13,cx13,hs0_⟩:=bE (f:=Zn) Zb7 (fun _=>rfl) (by decide) hs0_
    obtain ⟨y14,hy14,hs0_⟩:=bC hs0_
    refine Zbl Zx (by kernel_rfl) [false,false,false,false,false,false,false,false,false,false,false,false,false,true,false] [] (by kernel_rfl) ?_
    refine zF3 ax13 bx13 cx13 ?_
    refine (Zdm (t0:=(n+3)) (by omega) (by simp only [push_cast,Nat.reduceAdd,Nat.reduceSub,Nat.reduceMul,Nat.reduceLeDiff,Nat.reduceLT,Nat.reduceEqDiff,↓reduceIte,reduceCtorEq,Int.reduceBEq,Int.reduceBNe,Nat.reduceBEq,Int.reduceLE,Int.reduceLT,Int.reduceEq,Int.reduceNe,Int.reduceNeg,Nat.reduceDiv,Nat.reduceMod,Nat.reducePow,Zh,Xm,ax13,bx13,cx13,hN0,hN] <;> rfl) hy14).then ?_
    refine zF3 ax13 bx13 cx13 ?_
    refine zD [0,5,7,8] [false,true,false,false,false,true] ?_
    refine zR ?_
    have hs0_:=Option.some.inj hs0_;subst hs0_
    refine And.intro rfl ?_
    refine Fit2.trans (E':=(⟨252,[],[(0,.row (n+5) y14.length),(5,.ref (n+1) 0),(7,(vI z1)),(8,(vI (IntKind.i64.wrap (s0_.1+1))))]⟩:Env)) (O':=(Zu (O.upd t0 none) n [none,some ⟨false,25,3,1,(Zi a2)⟩,none,none,none,some (oR 49 1 (eI .u64) y14)])) (n':=(n+6)) (Fit2.of (Ye hU rfl rfl ?_) (by omega)) ?_
    ·exact zSe
    refine K1 (k:=6) (k':=5) hU [4,1,4,4,4,3] [0,1,0,5,0] rfl rfl rfl rfl ⟨rfl,rfl⟩ ?_
    exact zSe
   replace hs0_:=Zq c15 hs0_
   exact zEx hs0_
  try simp only [Y9,Yp,↓reduceIte,Nat.reduceEqDiff]
  refine zD [0] [false,false,false,true,false] ?_
  refine zQ [6] ?_
  refine zW ?_
  have h:=Option.some.inj h;subst h
  refine Zip (k:=1) (L3:=[some (oR 49 1 (eI .u64) z16),none]) (E2:=(⟨252,[],[(6,.row n z16.length)]⟩:Env)) (n3:=(n+2)) (.inr rfl) hU rfl [.row n z16.length] ?_ ?_
  ·refine Fit2.trans (E':=(⟨252,[],[(6,.row (n+3) z16.length)]⟩:Env)) (O':=(Zu (O.upd t0 none) n [none,none,none,some (oR 49 1 (eI .u64) z16),none])) (n':=(n+5)) (Fit2.of (Ye hU rfl rfl ?_) (by omega)) ?_
   ·exact zSe
   refine K1 (k:=5) (k':=2) hU [1,1,1,0,1] [3,0] rfl rfl rfl rfl ⟨rfl,rfl⟩ ?_
   exact zSe
  simp only [push_cast,seval,↓reduceIte,Zh,Try.results24,hN0,hN]
 replace h:=Zq c76 h
 refine zQ [0,1,5,7,21,83] ?_
 refine Zm (t:=(a2.Kind == 8)) rfl (fun c75 => ?_) (fun c75 => ?_)
 ·replace h:=Zr c75 h
  refine Zc ?_
  obtain ⟨y20,hy20,h⟩:=bC h
  obtain ⟨x21,hx21,ax21,bx21,cx21,h⟩:=bE (f:=(eI .u64)) Ke (fun _=>rfl) (by decide) h
  have gu22:Va (fl (eI .u64) a0) [.val (.int .u64 y20)] (Int.toNat a1 * 1)=some (fl (eI .u64) (Xu a0 a1 y20)):=Zcb (f:=(eI .u64)) (ti:=⟨.bool,1,0,[],false⟩) (x:=y20) (fun _=>rfl) (Zad hx21)
  refine Zrc [] ax21 bx21 cx21 gu22 ?_
  refine (Gr hy20).then ?_
  refine zF4 ax21 bx21 cx21 gu22 ?_
  refine zDs [0,5,7] [true,true] ?_
  obtain ⟨y24,hy24,h⟩:=bC h
  refine zR ?_
  refine GCalls.argsW ?_ ((Zfa (t0:=n) (by omega) (by simp only [push_cast,seval,↓reduceIte,Zh,Xm,hN0,hN] <;> rfl) hy24).then ?_)
  ·exact zSe
  refine zS ?_
  refine zDs [0,5,7] [false,true,true] ?_
  refine zQd [0,5,7,9] [0,5,7,9] [false,true,true] ?_
  refine Gv (E':=(⟨252,[],[(0,.row (n+3) y24.length),(5,.ref (n+1) 0),(7,(vI (a0.length:Int))),(9,(vI 0))]⟩:Env)) (O':=(Zu (O.upd t0 none) n [none,some ⟨false,25,3,1,(Zi a2)⟩,none,some (oR 49 1 (eI .u64) y24),none])) (n':=(n+5)) ?_ ?_
  ·refine Fit2.trans (E':=(⟨252,[],[(0,.row (n+2) y24.length),(5,.ref (n+1) 0),(7,(vI (a0.length:Int))),(9,(vI 0))]⟩:Env)) (O':=(Zu (O.upd t0 none) n [none,some ⟨false,25,3,1,(Zi a2)⟩,some (oR 49 1 (eI .u64) y24)])) (n':=(n+3)) (Fit2.of (Ye hU rfl rfl ?_) (by omega)) ?_
   ·exact zSe
   refine K1 (k:=3) (k':=5) hU [4,1,3] [0,1,0,2,0] rfl rfl rfl rfl ⟨rfl,rfl⟩ ?_
   exact zSe
  obtain ⟨z28,hz28,h⟩:=bC h
  refine Y1 (E':=⟨252,[],[(0,.row (n+3) z28.length)]⟩) (O':=(Zu (O.upd t0 none) n [none,none,none,some (oR 49 1 (eI .u64) z28),none])) (n0:=(n+5)) ?_ ?_
  ·refine Xj hz28 (fun s1_=>⟨252,[],[(0,.row (n+3) s1_.2.length),(5,.ref (n+1) 0),(7,(vI (a0.length:Int))),(9,(vI s1_.1))]⟩) (fun s1_=>(Zu (O.upd t0 none) n [none,some ⟨false,25,3,1,(Zi a2)⟩,none,some (oR 49 1 (eI .u64) s1_.2),none])) (fun z28=>JX 3 n (⟨252,[],[(0,.row (n+3) z28.length)]⟩:Env) (Zu (O.upd t0 none) n [none,none,none,some (oR 49 1 (eI .u64) z28),none]) (n+5)) ?_
   intro s1_ x1_ hs1_
   unfold Uj at hs1_
   try dsimp only
   refine Zc ?_
   refine zQ [0,5,7,9,106] ?_
   refine Zm (t:=(decide (s1_.1 < (a2.Kids.length:Int)))) rfl (fun c27 => ?_) (fun c27 => ?_)
   ·replace hs1_:=Zr c27 hs1_
    refine Qo [0,5,7,9] [false,true,false,true,false] ?_
    refine Zc ?_
    refine Yo ?_
    obtain ⟨x25,hx25,ax25,bx25,cx25,hs1_⟩:=bE (f:=Zn) Zb7 (fun _=>rfl) (by decide) hs1_
    obtain ⟨y26,hy26,hs1_⟩:=bC hs1_
    refine Z5p [] ax25 bx25 cx25 ?_
    refine (Zdm (t0:=(n+3)) (by omega) (by simp only [push_cast,Nat.reduceAdd,Nat.reduceSub,Nat.reduceMul,Nat.reduceLeDiff,Nat.reduceLT,Nat.reduceEqDiff,↓reduceIte,reduceCtorEq,Int.reduceBEq,Int.reduceBNe,Nat.reduceBEq,Int.reduceLE,Int.reduceLT,Int.reduceEq,Int.reduceNe,Int.reduceNeg,Nat.reduceDiv,Nat.reduceMod,Nat.reducePow,Zh,Xm,ax25,bx25,cx25,hN0,hN] <;> rfl) hy26).then ?_
    refine zF3 ax25 bx25 cx25 ?_
    refine zD [0,5,7,9] [false,true,false,false,false,true] ?_
    refine zR ?_
    have hs1_:=Option.some.inj hs1_;subst hs1_
    refine And.intro rfl ?_
    refine Fit2.trans (E':=(⟨252,[],[(0,.row (n+5) y26.length),(5,.ref (n+1) 0),(7,(vI (a0.length:Int))),(9,(vI (IntKind.i64.wrap (s1_.1+1))))]⟩:Env)) (O':=(Zu (O.upd t0 none) n [none,some ⟨false,25,3,1,(Zi a2)⟩,none,none,none,some (oR 49 1 (eI .u64) y26)])) (n':=(n+6)) (Fit2.of (Ye hU rfl rfl ?_) (by omega)) ?_
    ·exact zSe
    refine K1 (k:=6) (k':=5) hU [4,1,4,4,4,3] [0,1,0,5,0] rfl rfl rfl rfl ⟨rfl,rfl⟩ ?_
    exact zSe
   replace hs1_:=Zq c27 hs1_
   exact zEx hs1_
  try simp only [Y9,Yp,↓reduceIte,Nat.reduceEqDiff]
  refine zD [0] [false,false,false,true,false] ?_
  refine zQ [6] ?_
  refine zW ?_
  have h:=Option.some.inj h;subst h
  refine Zip (k:=1) (L3:=[some (oR 49 1 (eI .u64) z28),none]) (E2:=(⟨252,[],[(6,.row n z28.length)]⟩:Env)) (n3:=(n+2)) (.inr rfl) hU rfl [.row n z28.length] ?_ ?_
  ·refine Fit2.trans (E':=(⟨252,[],[(6,.row (n+3) z28.length)]⟩:Env)) (O':=(Zu (O.upd t0 none) n [none,none,none,some (oR 49 1 (eI .u64) z28),none])) (n':=(n+5)) (Fit2.of (Ye hU rfl rfl ?_) (by omega)) ?_
   ·exact zSe
   refine K1 (k:=5) (k':=2) hU [1,1,1,0,1] [3,0] rfl rfl rfl rfl ⟨rfl,rfl⟩ ?_
   exact zSe
  simp only [push_cast,seval,↓reduceIte,Zh,Try.results24,hN0,hN]
 replace h:=Zq c75 h
 refine zQ [0,1,5,7,120] ?_
 refine Zm (t:=(a2.Kind == 9)) rfl (fun c74 => ?_) (fun c74 => ?_)
 ·replace h:=Zr c74 h
  refine Zc ?_
  obtain ⟨y30,hy30,h⟩:=bC h
  refine zCd (Zho hy30) [0,1,5,7,10,11] [true,true] ?_
  refine zQ [0,1,5,7,10,11,12] ?_
  refine Zc ?_
  obtain ⟨y34,hy34,h⟩:=bC h
  obtain ⟨x35,hx35,ax35,bx35,cx35,h⟩:=bE (f:=(eI .u64)) Ke (fun _=>rfl) (by decide) h
  have gu36:Va (fl (eI .u64) a0) [.val (.int .u64 y34)] (Int.toNat a1 * 1)=some (fl (eI .u64) (Xu a0 a1 y34)):=Zcb (f:=(eI .u64)) (ti:=⟨.bool,1,0,[],false⟩) (x:=y34) (fun _=>rfl) (Zad hx35)
  refine Zrc [] ax35 bx35 cx35 gu36 ?_
  refine (Gr hy34).then ?_
  refine zF4 ax35 bx35 cx35 gu36 ?_
  refine zDs [0,5,7,10,11,12] [true,true] ?_
  obtain ⟨l38,pl38,ql38,el38,h⟩:=bA (k:=1) rfl h
  simp only [Qa,Zdc] at pl38 ql38
  refine Zjr [] pl38 ql38 el38 ?_
  refine Zav ⟨252,[],[(0,.row n l38.length),(5,.ref (n+1) 0),(7,(vI (a0.length:Int))),(10,(vI y30.1)),(11,(vI y30.2)),(12,(vI (a2.Kids.length:Int)))]⟩ (Zu (O.upd t0 none) n [some (oR 49 1 (eI .u64) l38),some ⟨false,25,3,1,(Zi a2)⟩,none]) (Ye hU rfl rfl ?_) ?_
  ·exact Zxv pl38 ql38 el38
  refine Zc ?_
  refine zQd [0,5,7,10,11,12,13] [0,5,7,10,11,12,13] [true,true,false] ?_
  refine Gv (E':=(⟨252,[],[(0,.row (n+3) l38.length),(5,.ref (n+1) 0),(7,(vI (a0.length:Int))),(10,(vI y30.1)),(11,(vI y30.2)),(12,(vI (a2.Kids.length:Int))),(13,(vI 0))]⟩:Env)) (O':=(Zu (O.upd t0 none) n [none,some ⟨false,25,3,1,(Zi a2)⟩,none,some (oR 49 1 (eI .u64) l38),none])) (n':=(n+5)) ?_ ?_
  ·refine Fit2.trans (E':=(⟨252,[],[(0,.row n l38.length),(5,.ref (n+1) 0),(7,(vI (a0.length:Int))),(10,(vI y30.1)),(11,(vI y30.2)),(12,(vI (a2.Kids.length:Int))),(13,(vI 0))]⟩:Env)) (O':=(Zu (O.upd t0 none) n [some (oR 49 1 (eI .u64) l38),some ⟨false,25,3,1,(Zi a2)⟩,none])) (n':=(n+3)) (Fit2.of (Ye hU rfl rfl ?_) (by omega)) ?_
   ·exact zSe
   refine K1 (k:=3) (k':=5) hU [3,1,4] [0,1,0,0,0] rfl rfl rfl rfl ⟨rfl,rfl⟩ ?_
   exact zSe
  obtain ⟨z49,hz49,h⟩:=bC h
  refine Y1 (E':=⟨252,[],[(0,.row (n+3) z49.length),(5,.ref (n+1) 0),(7,(vI (a0.length:Int))),(10,(vI y30.1)),(11,(vI y30.2)),(12,(vI (a2.Kids.length:Int)))]⟩) (O':=(Zu (O.upd t0 none) n [none,some ⟨false,25,3,1,(Zi a2)⟩,none,some (oR 49 1 (eI .u64) z49),none])) (n0:=(n+5)) ?_ ?_
  ·refine Xj hz49 (fun s2_=>⟨252,[],[(0,.row (n+3) s2_.2.length),(5,.ref (n+1) 0),(7,(vI (a0.length:Int))),(10,(vI y30.1)),(11,(vI y30.2)),(12,(vI (a2.Kids.length:Int))),(13,(vI s2_.1))]⟩) (fun s2_=>(Zu (O.upd t0 none) n [none,some ⟨false,25,3,1,(Zi a2)⟩,none,some (oR 49 1 (eI .u64) s2_.2),none])) (fun z49=>JX 5 n (⟨252,[],[(0,.row (n+3) z49.length),(5,.ref (n+1) 0),(7,(vI (a0.length:Int))),(10,(vI y30.1)),(11,(vI y30.2)),(12,(vI (a2.Kids.length:Int)))]⟩:Env) (Zu (O.upd t0 none) n [none,some ⟨false,25,3,1,(Zi a2)⟩,none,some (oR 49 1 (eI .u64) z49),none]) (n+5)) ?_
   intro s2_ x2_ hs2_
   unfold Uk at hs2_
   try dsimp only
   refine Zc ?_
   refine zQ [0,5,7,10,11,12,13,160] ?_
   refine Zm (t:=(decide (s2_.1 < (a2.Kids.length:Int)))) rfl (fun c48 => ?_) (fun c48 => ?_)
   ·replace hs2_:=Zr c48 hs2_
    refine Qo [0,5,7,10,11,12,13] [false,true,false,true,false] ?_
    refine Zc ?_
    refine Yo ?_
    refine Zc ?_
    obtain ⟨x42,hx42,ax42,bx42,cx42,hs2_⟩:=bE (f:=Zn) Zb7 (fun _=>rfl) (by decide) hs2_
    have g43:=Za2 (f:=Zn) (off:=1) (sz:=3) Zco (fun _=>rfl) (by decide) (by decide) hx42
    obtain ⟨l44,pl44,ql44,el44,hs2_⟩:=bA (k:=x42.Words.length) rfl hs2_
    refine Z9g [] ax42 bx42 cx42 g43 pl44 ql44 el44 ?_
    refine Zav ⟨252,[],[(0,.row (n+3) l44.length),(5,.ref (n+1) 0),(7,(vI (a0.length:Int))),(10,(vI y30.1)),(11,(vI y30.2)),(12,(vI (a2.Kids.length:Int))),(13,(vI s2_.1))]⟩ (Zu (O.upd t0 none) n [none,some ⟨false,25,3,1,(Zi a2)⟩,none,some (oR 49 1 (eI .u64) l44),none]) (Ye hU rfl rfl ?_) ?_
    ·exact Yep ax42 bx42 cx42 g43 pl44 ql44 el44
    obtain ⟨x45,hx45,ax45,bx45,cx45,hs2_⟩:=bE (f:=Zn) Zb7 (fun _=>rfl) (by decide) hs2_
    have g46:=Za2 (f:=Zn) (off:=1) (sz:=3) Zco (fun _=>rfl) (by decide) (by decide) hx45
    obtain ⟨y47,hy47,hs2_⟩:=bC hs2_
    refine Zrc [] ax45 bx45 cx45 g46 ?_
    refine (Zfa (t0:=(n+3)) (by omega) (by simp only [push_cast,Nat.reduceAdd,Nat.reduceSub,Nat.reduceMul,Nat.reduceLeDiff,Nat.reduceLT,Nat.reduceEqDiff,↓reduceIte,reduceCtorEq,Int.reduceBEq,Int.reduceBNe,Nat.reduceBEq,Int.reduceLE,Int.reduceLT,Int.reduceEq,Int.reduceNe,Int.reduceNeg,Nat.reduceDiv,Nat.reduceMod,Nat.reducePow,Zh,Xm,ax45,bx45,cx45,g46,hN0,hN] <;> rfl) hy47).then ?_
    refine zF4 ax45 bx45 cx45 g46 ?_
    refine zD [0,5,7,10,11,12,13] [false,true,false,false,false,true] ?_
    refine zR ?_
    have hs2_:=Option.some.inj hs2_;subst hs2_
    refine And.intro rfl ?_
    refine Fit2.trans (E':=(⟨252,[],[(0,.row (n+5) y47.length),(5,.ref (n+1) 0),(7,(vI (a0.length:Int))),(10,(vI y30.1)),(11,(vI y30.2)),(12,(vI (a2.Kids.length:Int))),(13,(vI (IntKind.i64.wrap (s2_.1+1))))]⟩:Env)) (O':=(Zu (O.upd t0 none) n [none,some ⟨false,25,3,1,(Zi a2)⟩,none,none,none,some (oR 49 1 (eI .u64) y47)])) (n':=(n+6)) (Fit2.of (Ye hU rfl rfl ?_) (by omega)) ?_
    ·exact zSe
    refine K1 (k:=6) (k':=5) hU [4,1,4,4,4,3] [0,1,0,5,0] rfl rfl rfl rfl ⟨rfl,rfl⟩ ?_
    exact zSe
   replace hs2_:=Zq c48 hs2_
   exact zEx hs2_
  try simp only [Y9,Yp,↓reduceIte,Nat.reduceEqDiff]
  refine zDs [0,5,7,10,11,12] [false,true,false,true,false] ?_
  refine zQd [0,5,7,10,11,12,14] [0,5,7,10,11,12,14] [false,true,false,true,false] ?_
  refine Gv (E':=(⟨252,[],[(0,.row (n+5) z49.length),(5,.ref (n+1) 0),(7,(vI (a0.length:Int))),(10,(vI y30.1)),(11,(vI y30.2)),(12,(vI (a2.Kids.length:Int))),(14,(vI 0))]⟩:Env)) (O':=(Zu (O.upd t0 none) n [none,some ⟨false,25,3,1,(Zi a2)⟩,none,none,none,some (oR 49 1 (eI .u64) z49),none])) (n':=(n+7)) ?_ ?_
  ·refine Fit2.trans (E':=(⟨252,[],[(0,.row (n+3) z49.length),(5,.ref (n+1) 0),(7,(vI (a0.length:Int))),(10,(vI y30.1)),(11,(vI y30.2)),(12,(vI (a2.Kids.length:Int))),(14,(vI 0))]⟩:Env)) (O':=(Zu (O.upd t0 none) n [none,some ⟨false,25,3,1,(Zi a2)⟩,none,some (oR 49 1 (eI .u64) z49),none])) (n':=(n+5)) (Fit2.of (Ye hU rfl rfl ?_) (by omega)) ?_
   ·exact zSe
   refine K1 (k:=5) (k':=7) hU [6,1,6,5,6] [0,1,0,0,0,3,0] rfl rfl rfl rfl ⟨rfl,rfl⟩ ?_
   exact zSe
  obtain ⟨z61,hz61,h⟩:=bC h
  refine Y1 (E':=⟨252,[],[(0,.row (n+5) z61.length)]⟩) (O':=(Zu (O.upd t0 none) n [none,none,none,none,none,some (oR 49 1 (eI .u64) z61),none])) (n0:=(n+7)) ?_ ?_
  ·refine Xj hz61 (fun s3_=>⟨252,[],[(0,.row (n+5) s3_.2.length),(5,.ref (n+1) 0),(7,(vI (a0.length:Int))),(10,(vI y30.1)),(11,(vI y30.2)),(12,(vI (a2.Kids.length:Int))),(14,(vI s3_.1))]⟩) (fun s3_=>(Zu (O.upd t0 none) n [none,some ⟨false,25,3,1,(Zi a2)⟩,none,none,none,some (oR 49 1 (eI .u64) s3_.2),none])) (fun z61=>JX 7 n (⟨252,[],[(0,.row (n+5) z61.length)]⟩:Env) (Zu (O.upd t0 none) n [none,none,none,none,none,some (oR 49 1 (eI .u64) z61),none]) (n+7)) ?_
   intro s3_ x3_ hs3_
   unfold Ul at hs3_
   try dsimp only
   refine Zc ?_
   refine zQ [0,5,7,10,11,12,14,186] ?_
   refine Zm (t:=(decide (s3_.1 < (a2.Kids.length:Int)))) rfl (fun c60 => ?_) (fun c60 => ?_)
   ·replace hs3_:=Zr c60 hs3_
    refine Qo [0,5,7,10,11,12,14] [false,true,false,false,false,true,false] ?_
    refine Zc ?_
    refine Yo ?_
    refine zQd [0,5,7,10,11,12,14,15] [0,5,7,10,11,12,14,15] [false,true,false,false,false,true,false] ?_
    refine Gv (E':=(⟨252,[],[(0,.row (n+7) s3_.2.length),(5,.ref (n+1) 0),(7,(vI (a0.length:Int))),(10,(vI y30.1)),(11,(vI y30.2)),(12,(vI (a2.Kids.length:Int))),(14,(vI s3_.1)),(15,(vI 0))]⟩:Env)) (O':=(Zu (O.upd t0 none) n [none,some ⟨false,25,3,1,(Zi a2)⟩,none,none,none,none,none,some (oR 49 1 (eI .u64) s3_.2),none])) (n':=(n+9)) ?_ ?_
    ·refine Fit2.trans (E':=(⟨252,[],[(0,.row (n+5) s3_.2.length),(5,.ref (n+1) 0),(7,(vI (a0.length:Int))),(10,(vI y30.1)),(11,(vI y30.2)),(12,(vI (a2.Kids.length:Int))),(14,(vI s3_.1)),(15,(vI 0))]⟩:Env)) (O':=(Zu (O.upd t0 none) n [none,some ⟨false,25,3,1,(Zi a2)⟩,none,none,none,some (oR 49 1 (eI .u64) s3_.2),none])) (n':=(n+7)) (Fit2.of (Ye hU rfl rfl ?_) (by omega)) ?_
     ·exact zSe
     refine K1 (k:=7) (k':=9) hU [8,1,8,8,8,7,8] [0,1,0,0,0,0,0,5,0] rfl rfl rfl rfl ⟨rfl,rfl⟩ ?_
     exact zSe
    obtain ⟨z59,hz59,hs3_⟩:=bC hs3_
    refine Y1 (E':=⟨252,[],[(0,.row (n+7) z59.length),(5,.ref (n+1) 0),(7,(vI (a0.length:Int))),(10,(vI y30.1)),(11,(vI y30.2)),(12,(vI (a2.Kids.length:Int))),(14,(vI s3_.1))]⟩) (O':=(Zu (O.upd t0 none) n [none,some ⟨false,25,3,1,(Zi a2)⟩,none,none,none,none,none,some (oR 49 1 (eI .u64) z59),none])) (n0:=(n+9)) ?_ ?_
    ·refine Xj hz59 (fun s4_=>⟨252,[],[(0,.row (n+7) s4_.2.length),(5,.ref (n+1) 0),(7,(vI (a0.length:Int))),(10,(vI y30.1)),(11,(vI y30.2)),(12,(vI (a2.Kids.length:Int))),(14,(vI s3_.1)),(15,(vI s4_.1))]⟩) (fun s4_=>(Zu (O.upd t0 none) n [none,some ⟨false,25,3,1,(Zi a2)⟩,none,none,none,none,none,some (oR 49 1 (eI .u64) s4_.2),none])) (fun z59=>JX 9 n (⟨252,[],[(0,.row (n+7) z59.length),(5,.ref (n+1) 0),(7,(vI (a0.length:Int))),(10,(vI y30.1)),(11,(vI y30.2)),(12,(vI (a2.Kids.length:Int))),(14,(vI s3_.1))]⟩:Env) (Zu (O.upd t0 none) n [none,some ⟨false,25,3,1,(Zi a2)⟩,none,none,none,none,none,some (oR 49 1 (eI .u64) z59),none]) (n+9)) ?_
     intro s4_ x4_ hs4_
     unfold Um at hs4_
     try dsimp only
     refine Zc ?_
     obtain ⟨x52,hx52,ax52,bx52,cx52,hs4_⟩:=bE (f:=Zn) Zb7 (fun _=>rfl) (by decide) hs4_
     have g53:=Za2 (f:=Zn) (off:=2) (sz:=3) Zmy (fun _=>rfl) (by decide) (by decide) hx52
     refine Zcp [0,5,7,10,11,12,14,15,197] (Z3 Zx [] ?_)
     refine zF4 ax52 bx52 cx52 g53 ?_
     refine Zm (t:=(decide (s4_.1 < (x52.Kids.length:Int)))) rfl (fun c58 => ?_) (fun c58 => ?_)
     ·replace hs4_:=Zr c58 hs4_
      refine Qo [0,5,7,10,11,12,14,15] [false,true,false,false,false,false,false,true,false] ?_
      refine Zc ?_
      refine Yo ?_
      obtain ⟨x54,hx54,ax54,bx54,cx54,hs4_⟩:=bE (f:=Zn) Zb7 (fun _=>rfl) (by decide) hs4_
      have g55:=Za2 (f:=Zn) (off:=2) (sz:=3) Zmy (fun _=>rfl) (by decide) (by decide) hx54
      obtain ⟨x56,hx56,ax56,bx56,cx56,hs4_⟩:=bE (f:=Zn) Zb7 (fun _=>rfl) (by decide) hs4_
      obtain ⟨y57,hy57,hs4_⟩:=bC hs4_
      refine Z9g [] ax54 bx54 cx54 g55 ax56 bx56 cx56 ?_
      refine (Zdm (t0:=(n+7)) (by omega) (by simp only [push_cast,Nat.reduceAdd,Nat.reduceSub,Nat.reduceMul,Nat.reduceLeDiff,Nat.reduceLT,Nat.reduceEqDiff,↓reduceIte,reduceCtorEq,Int.reduceBEq,Int.reduceBNe,Nat.reduceBEq,Int.reduceLE,Int.reduceLT,Int.reduceEq,Int.reduceNe,Int.reduceNeg,Nat.reduceDiv,Nat.reduceMod,Nat.reducePow,Zh,Xm,ax54,bx54,cx54,g55,ax56,bx56,cx56,hN0,hN] <;> rfl) hy57).then ?_
      refine zF7 ax54 bx54 cx54 g55 ax56 bx56 cx56 ?_
      refine zD [0,5,7,10,11,12,14,15] [false,true,false,false,false,false,false,false,false,true] ?_
      refine zR ?_
      have hs4_:=Option.some.inj hs4_;subst hs4_
      refine And.intro rfl ?_
      refine Fit2.trans (E':=(⟨252,[],[(0,.row (n+9) y57.length),(5,.ref (n+1) 0),(7,(vI (a0.length:Int))),(10,(vI y30.1)),(11,(vI y30.2)),(12,(vI (a2.Kids.length:Int))),(14,(vI s3_.1)),(15,(vI (IntKind.i64.wrap (s4_.1+1))))]⟩:Env)) (O':=(Zu (O.upd t0 none) n [none,some ⟨false,25,3,1,(Zi a2)⟩,none,none,none,none,none,none,none,some (oR 49 1 (eI .u64) y57)])) (n':=(n+10)) (Fit2.of (Ye hU rfl rfl ?_) (by omega)) ?_
      ·exact zSe
      refine K1 (k:=10) (k':=9) hU [8,1,8,8,8,8,8,8,8,7] [0,1,0,0,0,0,0,9,0] rfl rfl rfl rfl ⟨rfl,rfl⟩ ?_
      exact zSe
     replace hs4_:=Zq c58 hs4_
     exact zEx hs4_
    try simp only [Y9,Yp,↓reduceIte,Nat.reduceEqDiff]
    refine zD [0,5,7,10,11,12,14] [false,true,false,false,false,false,false,true,false] ?_
    refine zR ?_
    have hs3_:=Option.some.inj hs3_;subst hs3_
    refine And.intro rfl ?_
    refine Fit2.trans (E':=(⟨252,[],[(0,.row (n+7) z59.length),(5,.ref (n+1) 0),(7,(vI (a0.length:Int))),(10,(vI y30.1)),(11,(vI y30.2)),(12,(vI (a2.Kids.length:Int))),(14,(vI (IntKind.i64.wrap (s3_.1+1))))]⟩:Env)) (O':=(Zu (O.upd t0 none) n [none,some ⟨false,25,3,1,(Zi a2)⟩,none,none,none,none,none,some (oR 49 1 (eI .u64) z59),none])) (n':=(n+9)) (Fit2.of (Ye hU rfl rfl ?_) (by omega)) ?_
    ·exact zSe
    refine K1 (k:=9) (k':=7) hU [6,1,6,6,6,6,6,5,6] [0,1,0,0,0,7,0] rfl rfl rfl rfl ⟨rfl,rfl⟩ ?_
    exact zSe
   replace hs3_:=Zq c60 hs3_
   exact zEx hs3_
  try simp only [Y9,Yp,↓reduceIte,Nat.reduceEqDiff]
  refine zD [0] [false,false,false,false,false,true,false] ?_
  refine zQ [6] ?_
  refine zW ?_
  have h:=Option.some.inj h;subst h
  refine Zip (k:=1) (L3:=[some (oR 49 1 (eI .u64) z61),none]) (E2:=(⟨252,[],[(6,.row n z61.length)]⟩:Env)) (n3:=(n+2)) (.inr rfl) hU rfl [.row n z61.length] ?_ ?_
  ·refine Fit2.trans (E':=(⟨252,[],[(6,.row (n+5) z61.length)]⟩:Env)) (O':=(Zu (O.upd t0 none) n [none,none,none,none,none,some (oR 49 1 (eI .u64) z61),none])) (n':=(n+7)) (Fit2.of (Ye hU rfl rfl ?_) (by omega)) ?_
   ·exact zSe
   refine K1 (k:=7) (k':=2) hU [1,1,1,1,1,0,1] [5,0] rfl rfl rfl rfl ⟨rfl,rfl⟩ ?_
   exact zSe
  simp only [push_cast,seval,↓reduceIte,Zh,Try.results24,hN0,hN]
 replace h:=Zq c74 h
 refine Qo [0,1,5,7] [true,true] ?_
 refine Zc ?_
 obtain ⟨y64,hy64,h⟩:=bC h
 obtain ⟨y65,hy65,h⟩:=bC h
 refine J8 Zx (by kernel_rfl) [] (by kernel_rfl) ?_
 refine zS ?_
 refine PCall.of (Zqw hy64) ?_
 refine zS ?_
 refine PCall.of (Zsr hy65) ?_
 refine zS ?_
 refine zDs [0,1,5,7,16] [true,true] ?_
 obtain ⟨y69,hy69,h⟩:=bC h
 obtain ⟨x70,hx70,ax70,bx70,cx70,h⟩:=bE (f:=(eI .u64)) Ke (fun _=>rfl) (by decide) h
 have gu71:Va (fl (eI .u64) a0) [.val (.int .u64 y69)] (Int.toNat a1 * 1)=some (fl (eI .u64) (Xu a0 a1 y69)):=Zcb (f:=(eI .u64)) (ti:=⟨.bool,1,0,[],false⟩) (x:=y69) (fun _=>rfl) (Zad hx70)
 refine Zrc [] ax70 bx70 cx70 gu71 ?_
 refine (Gr hy69).then ?_
 refine zF4 ax70 bx70 cx70 gu71 ?_
 refine zDs [0,16] [true,false] ?_
 obtain ⟨l73,pl73,ql73,el73,h⟩:=bA (k:=y65.1.length) rfl h
 simp only [Qa,Zdc] at pl73 ql73
 refine Zjr [] pl73 ql73 el73 ?_
 refine Zav ⟨252,[],[(6,.row n l73.length)]⟩ (Zu (O.upd t0 none) n [some (oR 49 1 (eI .u64) l73),none]) (Ye hU rfl rfl ?_) ?_
 ·exact Zxv pl73 ql73 el73
 refine zW ?_
 have h:=Option.some.inj h;subst h
 refine Zip (k:=1) (L3:=[some (oR 49 1 (eI .u64) l73),none]) (E2:=(⟨252,[],[(6,.row n l73.length)]⟩:Env)) (n3:=(n+2)) (.inr rfl) hU rfl [.row n l73.length] ?_ ?_
 ·refine Fit2.trans (E':=(⟨252,[],[(6,.row n l73.length)]⟩:Env)) (O':=(Zu (O.upd t0 none) n [some (oR 49 1 (eI .u64) l73),none])) (n':=(n+2)) (Fit2.of (Ye hU rfl rfl ?_) (by omega)) ?_
  ·exact zSe
  refine K1 (k:=2) (k':=2) hU [0,1] [0,0] rfl rfl rfl rfl ⟨rfl,rfl⟩ ?_
  exact zSe
 simp only [push_cast,seval,↓reduceIte,Zh,Try.results24,hN0,hN]
theorem Znj:∀ k,(Zhk (Yl k)):=fun k=>by
 induction k with
 | zero=>exact @fun a0 a1 a2 r O n t0 ht0 hot0 h=>(nomatch (show (none:Option _)=some _ from h))
 | succ k ih=>exact @fun a0 a1 a2 r O n t0 ht0 hot0 h=>Zrr (ih) ht0 hot0 h
theorem Zss {a0:(List Int)} {a1:Int} {a2:Zb} {r:(List Int)} {O:Objs} {n:Nat} {t0:Nat} (ht0:t0 < n) (hot0:O t0=some (oR 49 1 (eI .u64) a0)) (h:Zf7 a0 a1 a2=some r):GTo Try.prog 24 [.row t0 a0.length,(vI a1),.agg (Zi a2)] O n (.row n r.length) (Zu (O.upd t0 none) n [some (oR 49 1 (eI .u64) r)]) (n+1):=by
 obtain ⟨k,hk⟩:=Zix h
 exact (Znj k) ht0 hot0 hk
theorem Znu {a0:Zb} {a1:Int} {r:((List Int)×Bool)} {O:Objs} {n:Nat} (h:Uo a0 a1=some r):GTo Try.prog 8 [.agg (Zi a0),(vI a1)] O n (.tup [(sL (eI .u64) r.1),(vB r.2)]) O n:=by
 unfold Uo at h
 refine zFn Try.call8 Try.func8 fun hU hN0 hN => ?_
 show W _ _ _ _ ⟨28,[],[(0,.agg (Zi a0)),(1,(vI a1))]⟩ (Zu O n []) _
 refine zQ [1,2] ?_
 refine Zc ?_
 refine Zc ?_
 obtain ⟨y2,hy2,h⟩:=bC h
 refine zRo [none,none,none] ?_
 refine zG ?_
 refine zTs (Zqv hy2) ?_
 refine zG ?_
 refine zD [1,2,13] [true] ?_
 refine Zm (t:=(cond (!y2) true (a0.Kind == 10))) rfl (fun c16 => ?_) (fun c16 => ?_)
 ·replace h:=Zr c16 h
  refine zQ [4,5] ?_
  exact Z5 [nV,(vB false)]
 replace h:=Zq c16 h
 refine Qo [1,2] [true] ?_
 refine Zc ?_
 obtain ⟨y4,hy4,h⟩:=bC h
 refine zCd (Zrp hy4) [1,2] [true] ?_
 refine Zc ?_
 obtain ⟨z7,hz7,h⟩:=bC h
 refine Qb (E':=⟨28,[],[(2,.ref n 0),(24,(vB z7))]⟩) (O':=(Zu O n [some ⟨false,25,3,1,(Zi y4)⟩])) (n0:=(n+1)) ?_ ?_
 ·obtain ⟨y10,hy10,hz7⟩:=bC hz7
  rcases Bool.eq_false_or_eq_true (decide (a1≤y10)) with c12 | c12
  ·replace hz7:=Zr c12 hz7
   refine Zb9 [some false,some false,some false] c12 ?_
   refine (Zd5 hy10).then ?_
   refine zX1 c12 ?_
   exact Zaw hz7 c12
  replace hz7:=Zq c12 hz7
  obtain ⟨y11,hy11,hz7⟩:=bC hz7
  refine Zb9 [some true,some true,some true] c12 ?_
  refine (Zd5 hy10).then ?_
  refine zX1 c12 ?_
  refine (Zd5 hy11).then ?_
  refine zX1 c12 ?_
  exact Zaw hz7 c12
 refine Zm (t:=z7) rfl (fun c15 => ?_) (fun c15 => ?_)
 ·replace h:=Zr c15 h
  refine zQ [4,5] ?_
  exact Z5 [nV,(vB false)]
 replace h:=Zq c15 h
 refine Qo [2] [true] ?_
 refine Zc ?_
 obtain ⟨y14,hy14,h⟩:=bC h
 refine zR ?_
 refine (Zss (t0:=(n+1)) (by omega) (by simp only [push_cast,seval,↓reduceIte,Zh,Xm,hN0,hN] <;> rfl) hy14).then ?_
 refine zS ?_
 refine zD [4,5] [false,false,true] ?_
 exact Z5 [.row (n+2) y14.length,(vB true)]
theorem Zqt {a0:Ya} {r:Ya} {O:Objs} {n:Nat} (h:Ge a0=some r):GTo Try.prog 10 [.agg (Xa a0)] O n (.agg (Xa r)) O n:=by
 unfold Ge at h
 refine zFn Try.call10 Try.func10 fun hU hN0 hN => ?_
 show W _ _ _ _ ⟨8,[],[(0,.agg (Xa a0))]⟩ (Zu O n []) _
 refine zQ [1,2] ?_
 obtain ⟨z1,hz1,h⟩:=bC h
 refine Qb (E':=⟨8,[],[(1,.ref n 0),(2,.ref (n+1) 0)]⟩) (O':=(Zu O n [some ⟨false,34,4,1,[(vI a0.Depth),(vI z1),(vI a0.MaxD),(vI a0.MaxOut)]⟩,some ⟨false,34,4,1,[(vI 0),(vI 0),(vI 0),(vI 0)]⟩])) (n0:=(n+2)) ?_ ?_
 ·refine zQ [1,2,5] ?_
  refine Zm (t:=(decide (3000 < a0.Weight))) rfl (fun c2 => ?_) (fun c2 => ?_)
  ·replace hz1:=Zr c2 hz1
   refine zR ?_
   exact zEn hz1
  replace hz1:=Zq c2 hz1
  refine zK ?_
  exact zEn hz1
 refine Zc ?_
 refine zRd [2] [false,true] ?_
 exact Z5 [.agg [(vI a0.Depth),(vI z1),(vI a0.MaxD),(vI a0.MaxOut)]]
end Go.Proofs.Ytnapihlnlajlpaa
