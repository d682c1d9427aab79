/- Part DM6 of this seat's mirrors: functions of the seat's program, and the plain functions that they are; each theorem bears its own conditions. -/
import Derived.Test.YtpfbdlcnfekdkaaGreatDE
import Derived.Test.YtpfbdlcnfekdkaaGreatDM5
namespace Go.Proofs.YtpfbdlcnfekdkaaGreat
open Go.RowKit
set_option linter.unusedVariables false
set_option linter.unusedSimpArgs false
set_option maxRecDepth 100000
set_option maxHeartbeats 4000000
attribute [local push_cast] vI vB nV sL oR Yd Ze Zv Yq Zp Zpk Zpj Zp3 Zp2 Y0 Ym Zlm Zgm Zgl onW X6 Zeb Zdw Zrz Zob Zi9 Zjd Zi8 Zjc Zmk Zmf Zjb Zmj Zmi Zmh Zja Zmd Zha evS wok Je Op.operands Call.operands gop onK onP atK List.all_cons List.all_nil Bool.and_true Bool.true_and Bool.and_self Value.oneCell' List.take_zero List.take_succ_cons List.take_nil List.drop_zero List.drop_succ_cons List.drop_nil List.append_nil Nat.add_zero Nat.zero_add Gs Yr ev Jn Zr7 Zpd Zpc Zpi Zpg Zph Zpe Zpf Zpb Zsz Zt1 Zw0 Zjr Zde Zjq Zd3 Ziy Zgo Zet Zey Zgi Zge Zew Zgh Zgg Zgf Zev Zgc Zeu Zex Zdu Zgd Zm7 Zgn Za3 Zik Za4 Zkw Zjp Zv1 bLo bHi bMx Zdf Zkv Zx9 Zjn Zll Zfp Gb Zs0 Zya Zij Zfo Zyc Zdd Z0v Zlr Zlv Zlq Zlu Zpu Zpq Zpo Ziz Zls Zpt Zps Zpr Zlt Zpp Zln Zr8 Zma Zg7 Zg6 pop TK.isAgg Zpx Zp1 Zpw Zp0 Zl3 Zui Zue Zpz Zuh Zug Zuf Zpy Zud G.under G.unders List.getD_cons_zero List.getD_cons_succ List.set_cons_zero List.set_cons_succ List.map_cons List.map_nil List.toList_toArray Array.toList_append Option.toArray_none Option.toArray_some Array.toList_map Option.map_some Option.map_none Option.bind_some Option.bind_none List.getElem?_cons_zero List.getElem?_cons_succ List.getElem?_nil List.nil_append List.cons_append List.replicate_succ List.replicate_zero List.length_cons List.length_nil and_true true_and and_false false_and Bool.true_eq_false Bool.false_eq_true forall_const false_implies implies_true IntKind.bits if_true if_false ite_true ite_false eq_self true_implies false_or or_false or_true true_or not_true_eq_false not_false_eq_true decide_true decide_false decide_eq_true_eq decide_eq_false_iff_not beq_iff_eq bne_iff_ne ne_eq Bool.not_eq_true Bool.not_eq_false beq_eq_false_iff_ne bne_eq_false_iff_eq beq_self_eq_true bne_self_eq_false Option.some.injEq exists_eq_left' exists_eq_left ge_iff_le gt_iff_lt decide_not Bool.not_true Bool.not_false imp_self Zt4 cond_true cond_false Z6w Z6v Bool.not_not Bool.and_false Bool.false_and Bool.or_true Bool.true_or Bool.or_false Bool.false_or Zbe Zfh Zb3 Zap J4 Qh Option.join_some Nat.add_assoc Int.toNat_natCast eI eB eS eL Q8 Zgk Ze1 Zpn Zpl Zpm Z1g Z29 Zg3 Ze7 Zp9 Zp7 Zp8 Zxj Zn2 Zvo Znw Zv0 Zcr Zr5 List.length_append G.agg.injEq G.row.injEq G.ref.injEq G.val.injEq G.sl.injEq G.tup.injEq Value.int.injEq Value.bool.injEq Value.string.injEq List.cons.injEq exists_and_left exists_const List.flatten_cons List.flatten_nil Int.le_refl Nat.le_refl Zcq Qg Vv Bool.not_eq_true' Bool.not_eq_false' Zrl Zh5 Zvf Zvj Zve Zvi Z0h Z0c List.size_toArray Zsl Zr3 G.ren G.rens Zuk Zg8 Zqg Zo9 Zpa Zme Zvk Zgz G.fn.injEq Zkd Zm1 Zrk Z0d Zm0 Zvh Z0g Z0f Z0e Zvg Zt7 Zyz Option.join_none Y5 Zad undef Zlo Arr.len Arr.put_eq Zg2 Zi1 Zg1 Ze6 Zp6 Zp4 Zp5 onB Z1f Zsy Ke Zdv Zk5 Zk6 Zk7 Zk8 Zk9 Zla Zi0 Zi4 Zi2 Zg5 Ze8 Zi3 Zl9 Zl8 Zl7 Zl6 Z28 Z4x Zxi Zv8 Vb Zxa Zse Zi5 Zg4 Zyl Zr4 Zjj Zlk Zek Zj6 Zlb Zlc Zld Zle Zip Ziq Zir Zis Zit Ziu Ziv Zf7 prT Zec Z7r Zu5 Z1v Zu6 Z7s Zu7 Z7t Zu8 Z7u Zu9 Z7v Zva Z7w Zvb Z7x Zvc Zza Zqk Zzb Zql Zzc Zqm Zzd Zqn Zze Zqo Zzf Zqp Zzg Zqq Zzh Zqr Zzi Zqs Zzj Zqt Zzk Zqu Zc9 Zda Zzl Zqv Zzm Zqw Zny Zks Zzn Zqx K0 Zqy Zzo Zqz Zzp Zq0 Zzq Znp Jd Zq1 Zzr Zq2 Zzs Zq3 Zzt Zq4 Zzu Zq5 Zzv Zq6 Zzw Zq7 Zzx Zq8 Zzy Zq9 Zzz Zra Zz0 Zrb Zz1 Zrc Zz2 Zrd Zz3 Zre Zz4 Zrf Zz5 Zrg Zz6 Zrh Zz7 Zri Zz8 Zrj Zup Zml Zuq Zmm Zur Zmn Zus Zmo Zut Zmp Zuu Zmq Zuv Zmr Zuw Zms Zux Zmt Zuy Zmu Zuz Zmv Zu0 Zmw Zu1 Zmx Zu2 Zmy Zu3 Zmz J7 Zhg Zhe Zgq Zgy Zhi Zff Zfc Zfa Zhc Zc0 Zcz Zct Zcw Zc1 Zbz Zbx Zbw Zcy Zq Vo Vn Ve Vk Vp K1 Kz Ky Vl Ze0 Zhf Zhd Zgp Zgx Zhh Zfe Zfb Ze9 Zhb Zez Zbi Z7 J0 Jz Jw Jx J3 Jk Jj Ji Jy Z4 Zf Jf Gl Gk Gd Gf Gm Uu Us Ur Gj Q3 Q2 Qz Q0 Q4 Qk Qj Qi Q1 Zak V0 V1
def Zhw (Jr:(Za→Option Za)):Prop:=∀ {a0:Za} {r:Za} {O:Objs} {n:Nat},Jr a0=some r→GTo Tryz.prog 9 [.agg (Ze a0)] O n (.agg (Ze r)) O n
theorem Zrv {Jr:(Za→Option Za)} (Zos:Zhw Jr) {a0:Za} {r:Za} {O:Objs} {n:Nat} (h:Zaq Jr a0=some r):GTo Tryz.prog 9 [.agg (Ze a0)] O n (.agg (Ze r)) O n:=by
 unfold Zaq at h
 refine Yj Zo Tryz.call9 Tryz.func9 rfl (Nat.le_of_ble_eq_true rfl) (Nat.le_refl _) fun hU => ?_
 have hN0:O n=none:=hU.fresh _ (Nat.le_refl _)
 have hN:∀ k,O (n+k)=none:=fun k=>hU.fresh _ (Nat.le_add_right _ _)
 show W _ _ _ _ ⟨53,[],[(0,.agg (Ze a0))]⟩ (Zt O n []) _
 refine zQ [1,2] ?_
 refine Zd ?_
 refine zQ [1,2,10] ?_
 refine Zj (t:=(a0.Kind == 0)) rfl (fun c19 => ?_) (fun c19 => ?_)
 ·replace h:=Zn c19 h
  refine Zd ?_
  refine zRd [2] [false,true] ?_
  refine zW ?_
  have h:=Option.some.inj h;subst h
  refine Zi (.inr rfl) hU [.agg [(vI 0),nV,nV]] (by omega) ?_
  simp only [push_cast,seval,↓reduceIte,Zb,Tryz.results9,hN0,hN]
 replace h:=Zm c19 h
 refine Xs [1,2] [true,true] ?_
 refine zQ [1,2,3] ?_
 refine zQ [1,2,3,4] ?_
 refine Zd ?_
 refine zQd [1,2,3,4,5] [1,2,3,4,5] [true,true] ?_
 refine Za0 (E':=(⟨53,[],[(1,.ref n 0),(2,.ref (n+1) 0),(3,.row (n+2) ([]:List Za).length),(4,(vI 0)),(5,(vI 0))]⟩:Env)) (O':=(Zt O n [some ⟨false,28,3,1,(Ze a0)⟩,some ⟨false,28,3,1,[(vI 0),nV,nV]⟩,some (oR 28 3 Zf ([]:List Za)),none])) (n':=(n+4)) ?_ ?_
 ·refine Fit2.trans (E':=(⟨53,[],[(1,.ref n 0),(2,.ref (n+1) 0),(3,nV),(4,(vI 0)),(5,(vI 0))]⟩:Env)) (O':=(Zt O n [some ⟨false,28,3,1,(Ze a0)⟩,some ⟨false,28,3,1,[(vI 0),nV,nV]⟩])) (n':=(n+2)) (Fit2.of (Z8 hU rfl rfl ?_) (by omega)) ?_
  ·exact zSe
  refine Fit2.trans (Zo6 3 28 3 rfl (by omega)) ?_
  simp only [J4,Qh,Zb3,Zap,List.set_cons_zero,List.set_cons_succ,List.cons_append,List.nil_append,List.length_cons,List.length_nil,Nat.zero_add,Nat.reduceAdd,Nat.reduceLT,Nat.add_assoc]
  refine Fit2.trans (E':=(⟨53,[],[(1,.ref n 0),(2,.ref (n+1) 0),(3,.row (n+2) ([]:List Za).length),(4,(vI 0)),(5,(vI 0))]⟩:Env)) (O':=(Zt O n [some ⟨false,28,3,1,(Ze a0)⟩,some ⟨false,28,3,1,[(vI 0),nV,nV]⟩,some (oR 28 3 Zf ([]:List Za))])) (n':=(n+3)) (Fit2.of (Z8 hU rfl rfl ?_) (by omega)) ?_
  ·exact zSe
  refine Jt (k:=3) (k':=4) hU [0,1,2] [0,1,2,0] rfl rfl rfl rfl ⟨rfl,rfl⟩ ?_
  exact zSe
 obtain ⟨z10,hz10,h⟩:=bC h
 refine Yv (E':=⟨53,[],[(1,.ref n 0),(2,.ref (n+1) 0),(3,.row (n+2) z10.2.length),(4,(vI z10.1))]⟩) (O':=(Zt O n [some ⟨false,28,3,1,(Ze a0)⟩,some ⟨false,28,3,1,[(vI 0),nV,nV]⟩,some (oR 28 3 Zf z10.2),none])) (n0:=(n+4)) ?_ ?_
 ·refine Y2 hz10 (fun s0_=>⟨53,[],[(1,.ref n 0),(2,.ref (n+1) 0),(3,.row (n+2) s0_.2.2.length),(4,(vI s0_.1)),(5,(vI s0_.2.1))]⟩) (fun s0_=>(Zt O n [some ⟨false,28,3,1,(Ze a0)⟩,some ⟨false,28,3,1,[(vI 0),nV,nV]⟩,some (oR 28 3 Zf s0_.2.2),none])) (fun z10=>JX 0 n (⟨53,[],[(1,.ref n 0),(2,.ref (n+1) 0),(3,.row (n+2) z10.2.length),(4,(vI z10.1))]⟩:Env) (Zt O n [some ⟨false,28,3,1,(Ze a0)⟩,some ⟨false,28,3,1,[(vI 0),nV,nV]⟩,some (oR 28 3 Zf z10.2),none]) (n+4)) ?_
  intro s0_ x0_ hs0_
  unfold Q6 at hs0_
  try dsimp only
  refine Zd ?_
  refine zQ [1,2,3,4,5,16] ?_
  refine Zj (t:=(decide (s0_.2.1 < (a0.Kids.length:Int)))) rfl (fun c9 => ?_) (fun c9 => ?_)
  ·replace hs0_:=Zn c9 hs0_
   refine Xs [1,2,3,4,5] [true,true,true,false] ?_
   obtain ⟨z1,hz1,hs0_⟩:=bC hs0_
   refine Y8 (E':=⟨53,[],[(1,.ref n 0),(2,.ref (n+1) 0),(3,.row (n+2) z1.2.length),(4,(vI z1.1)),(5,(vI s0_.2.1))]⟩) (O':=(Zt O n [some ⟨false,28,3,1,(Ze a0)⟩,some ⟨false,28,3,1,[(vI 0),nV,nV]⟩,some (oR 28 3 Zf z1.2),none,none,none])) (n0:=(n+6)) ?_ ?_
   ·refine Yh ?_
    refine Zd ?_
    obtain ⟨x4,hx4,ax4,bx4,cx4,hz1⟩:=bE (f:=Zf) K0 (fun _=>rfl) (by decide) hz1
    obtain ⟨y5,hy5,hz1⟩:=bC hz1
    refine Zn1 [] ax4 bx4 cx4 ?_
    refine (Zos hy5).then ?_
    refine zF3 ax4 bx4 cx4 ?_
    refine zDs [1,2,3,4,5,6] [true,true,true,false,true] ?_
    obtain ⟨l7,pl7,ql7,el7,hz1⟩:=bA (k:=1) rfl hz1
    refine Zku [] pl7 ql7 el7 ?_
    refine Zah ⟨53,[],[(1,.ref n 0),(2,.ref (n+1) 0),(3,.row (n+2) l7.length),(4,(vI s0_.1)),(5,(vI s0_.2.1)),(6,.ref (n+4) 0)]⟩ (Zt O n [some ⟨false,28,3,1,(Ze a0)⟩,some ⟨false,28,3,1,[(vI 0),nV,nV]⟩,some (oR 28 3 Zf l7),none,some ⟨false,28,3,1,(Ze y5)⟩,none]) (Z8 hU rfl rfl ?_) ?_
    ·exact Zv9 pl7 ql7 el7
    refine zQ [1,2,3,4,5,31] ?_
    refine Zj (t:=(y5.Kind != 0)) rfl (fun c8 => ?_) (fun c8 => ?_)
    ·replace hz1:=Zn c8 hz1
     refine zR ?_
     exact zEn hz1
    replace hz1:=Zm c8 hz1
    refine zK ?_
    exact zEn hz1
   refine zR ?_
   exact zEn hs0_
  replace hs0_:=Zm c9 hs0_
  exact zEx hs0_
 try simp only [Y0,Ym,↓reduceIte,Nat.reduceEqDiff]
 refine zDs [1,2,3,4] [true,true,true,false] ?_
 refine zQ [1,2,3,4,36] ?_
 refine Zj (t:=(a0.Kind == 1)) rfl (fun c18 => ?_) (fun c18 => ?_)
 ·replace h:=Zn c18 h
  refine Zah ⟨53,[],[(1,.ref n 0),(2,.ref (n+1) 0),(3,(sL Zf z10.2)),(4,(vI z10.1))]⟩ (Zt O n [some ⟨false,28,3,1,(Ze a0)⟩,some ⟨false,28,3,1,[(vI 0),nV,nV]⟩,none,none]) (Z8 hU rfl rfl ?_) ?_
  ·exact zSe
  refine Zd ?_
  obtain ⟨y14,hy14,h⟩:=bC h
  obtain ⟨l15,al15,bl15,cl15,gl15,h⟩:=bS (lo:=none) (hi:=(some (.i64,z10.1))) (f:=Zf) rfl rfl Zks K0 (fun _=>rfl) h
  refine Zc4 Zo (by kernel_rfl) [false,false,false,false,false,false,false,true] [] (by kernel_rfl) ?_
  refine zX4 al15 bl15 cl15 gl15 ?_
  refine PCall.of (Zsg hy14) ?_
  refine zX4 al15 bl15 cl15 gl15 ?_
  refine zD [2] [false,true,false,false] ?_
  refine zW ?_
  have h:=Option.some.inj h;subst h
  refine Zi (.inr rfl) hU [.agg [(vI 1),(sL (eI .u64) y14),(sL Zf l15)]] (by omega) ?_
  simp only [push_cast,seval,↓reduceIte,Zb,Tryz.results9,hN0,hN]
 replace h:=Zm c18 h
 refine Xs [1,2,3] [true,true,true,false] ?_
 refine zQ [1,2,3,7] ?_
 refine Zd ?_
 obtain ⟨l17,pl17,ql17,el17,h⟩:=bA0 (k:=a0.Words.length) rfl h
 refine Zku [] pl17 ql17 el17 ?_
 refine Zah ⟨53,[],[(1,.ref n 0),(2,.ref (n+1) 0),(3,.row (n+2) z10.2.length),(7,.row (n+4) l17.length)]⟩ (Zt O n [some ⟨false,28,3,1,(Ze a0)⟩,some ⟨false,28,3,1,[(vI 0),nV,nV]⟩,some (oR 28 3 Zf z10.2),none,some (oR 45 1 (eI .u64) l17)]) (Z8 hU rfl rfl ?_) ?_
 ·exact Zv9 pl17 ql17 el17
 refine Zd ?_
 refine zRd [2] [false,true,true,false,true] ?_
 refine zW ?_
 have h:=Option.some.inj h;subst h
 refine Zi (.inr rfl) hU [.agg [(vI a0.Kind),.row (n+4) l17.length,.row (n+2) z10.2.length]] (by omega) ?_
 simp only [push_cast,seval,↓reduceIte,Zb,Tryz.results9,hN0,hN]
theorem Zn3:∀ k,(Zhw (Xv k)):=fun k=>by
 induction k with
 | zero=>exact @fun a0 r O n h=>(nomatch (show (none:Option _)=some _ from h))
 | succ k ih=>exact @fun a0 r O n h=>Zrv (ih)  h
theorem Zjz {a0:Za} {r:Za} {O:Objs} {n:Nat} (h:Zc7 a0=some r):GTo Tryz.prog 9 [.agg (Ze a0)] O n (.agg (Ze r)) O n:=by
 obtain ⟨k,hk⟩:=Zcg h
 exact (Zn3 k)  hk
theorem Zep {a0:Int} {a1:Int} {r:Bool} {O:Objs} {n:Nat} (h:K5 a0 a1=some r):GTo Tryz.prog 38 [(vI a0),.val (.int .u64 a1)] O n ((vB r)) O n:=by
 unfold K5 at h
 refine Yj Zo Tryz.call38 Tryz.func38 rfl (Nat.le_of_ble_eq_true rfl) (Nat.le_refl _) fun hU => ?_
 have hN0:O n=none:=hU.fresh _ (Nat.le_refl _)
 have hN:∀ k,O (n+k)=none:=fun k=>hU.fresh _ (Nat.le_add_right _ _)
 show W _ _ _ _ ⟨20,[],[(0,(vI a0)),(1,.val (.int .u64 a1))]⟩ (Zt O n []) _
 refine zQ [0,1] ?_
 refine Zd ?_
 obtain ⟨y2,hy2,h⟩:=bC h
 refine zCd (U8 hy2) [1,5] [] ?_
 refine Zd ?_
 refine zQ [1,5,10] ?_
 refine Zj (t:=(decide (y2 < 0))) rfl (fun c5 => ?_) (fun c5 => ?_)
 ·replace h:=Zn c5 h
  refine zQ [4] ?_
  refine zW ?_
  have h:=Option.some.inj h;subst h
  refine Zi (.inr rfl) hU [(vB false)] (by omega) ?_
  simp only [push_cast,seval,↓reduceIte,Zb,Tryz.results38,hN0,hN]
 replace h:=Zm c5 h
 refine Xs [1,5] [] ?_
 refine Zd ?_
 refine zQd [1,5,6] [1,5,6] [] ?_
 obtain ⟨z4,hz4,h⟩:=bC h
 refine Yv (E':=⟨20,[],[(1,.val (.int .u64 z4))]⟩) (O':=(Zt O n [])) (n0:=n) ?_ ?_
 ·refine Y2 hz4 (fun s0_=>⟨20,[],[(1,.val (.int .u64 s0_.1)),(5,(vI y2)),(6,(vI s0_.2))]⟩) (fun s0_=>(Zt O n [])) (fun z4=>JX 0 n (⟨20,[],[(1,.val (.int .u64 z4))]⟩:Env) (Zt O n []) n) ?_
  intro s0_ x0_ hs0_
  unfold X9 at hs0_
  try dsimp only
  refine Zd ?_
  refine zQ [1,5,6,13] ?_
  refine Zj (t:=(decide (s0_.2 < y2))) rfl (fun c3 => ?_) (fun c3 => ?_)
  ·replace hs0_:=Zn c3 hs0_
   refine Xs [1,5,6] [] ?_
   refine Zd ?_
   refine Yh ?_
   refine zRd [1,5,6] [] ?_
   refine zR ?_
   exact zEn hs0_
  replace hs0_:=Zm c3 hs0_
  exact zEx hs0_
 try simp only [Y0,Ym,↓reduceIte,Nat.reduceEqDiff]
 refine zD [1] [] ?_
 refine zQ [4] ?_
 refine zW ?_
 have h:=Option.some.inj h;subst h
 refine Zi (.inr rfl) hU [(vB (z4 == 0))] (by omega) ?_
 simp only [push_cast,seval,↓reduceIte,Zb,Tryz.results38,hN0,hN]
def Zf9 (Jc:(Za→Int→Option Bool)):Prop:=∀ {a0:Za} {a1:Int} {r:Bool} {O:Objs} {n:Nat},Jc a0 a1=some r→GTo Tryz.prog 20 [.agg (Ze a0),(vI a1)] O n ((vB r)) O n
theorem Zox {Jc:(Za→Int→Option Bool)} (Zn7:Zf9 Jc) {a0:Za} {a1:Int} {r:Bool} {O:Objs} {n:Nat} (h:Gn Jc a0 a1=some r):GTo Tryz.prog 20 [.agg (Ze a0),(vI a1)] O n ((vB r)) O n:=by
 unfold Gn at h
 refine Yj Zo Tryz.call20 Tryz.func20 rfl (Nat.le_of_ble_eq_true rfl) (Nat.le_refl _) fun hU => ?_
 have hN0:O n=none:=hU.fresh _ (Nat.le_refl _)
 have hN:∀ k,O (n+k)=none:=fun k=>hU.fresh _ (Nat.le_add_right _ _)
 show W _ _ _ _ ⟨132,[],[(0,.agg (Ze a0)),(1,(vI a1))]⟩ (Zt O n []) _
 refine zQ [1,2] ?_
 refine Zd ?_
 refine zQ [1,2,10] ?_
 refine Zj (t:=(a0.Kind == 0)) rfl (fun c32 => ?_) (fun c32 => ?_)
 ·replace h:=Zn c32 h
  refine zQD [4] [none,none,none,none] ?_
  refine zW ?_
  have h:=Option.some.inj h;subst h
  refine Zi (.inr rfl) hU [(vB (cond ((a0.Words.length:Int) == 0) ((a0.Kids.length:Int) == 0) false))] (by omega) ?_
  simp only [push_cast,seval,↓reduceIte,Zb,Tryz.results20,hN0,hN]
 replace h:=Zm c32 h
 refine Xs [1,2] [true] ?_
 refine Zd ?_
 refine zQ [1,2,23] ?_
 refine Zj (t:=(a0.Kind == 10)) rfl (fun c31 => ?_) (fun c31 => ?_)
 ·replace h:=Zn c31 h
  refine zQD [4] [none,none,none,none] ?_
  refine zW ?_
  have h:=Option.some.inj h;subst h
  refine Zi (.inr rfl) hU [(vB (cond ((a0.Words.length:Int) == 1) ((a0.Kids.length:Int) == 0) false))] (by omega) ?_
  simp only [push_cast,seval,↓reduceIte,Zb,Tryz.results20,hN0,hN]
 replace h:=Zm c31 h
 refine Xs [1,2] [true] ?_
 refine Zd ?_
 refine zQD [1,2,68] [none,none,none,none,none,none,none,none,none,none,none,none,none,none,none,none,none,none,none,none,none,none] ?_
 refine Zj (t:=(cond (cond (cond (cond (cond (decide (a0.Kind < 0)) true (decide (10 < a0.Kind))) true (a1 == 0)) true (decide (65536≤(a0.Words.length:Int)))) true (cond (a0.Kind == 1) (decide (65536≤(a0.Kids.length:Int))) false)) true (decide (1048576≤(a0.Kids.length:Int))))) rfl (fun c30 => ?_) (fun c30 => ?_)
 ·replace h:=Zn c30 h
  refine zQ [4] ?_
  refine zW ?_
  have h:=Option.some.inj h;subst h
  refine Zi (.inr rfl) hU [(vB false)] (by omega) ?_
  simp only [push_cast,seval,↓reduceIte,Zb,Tryz.results20,hN0,hN]
 replace h:=Zm c30 h
 refine Xs [1,2] [true] ?_
 refine Zd ?_
 refine zQD [1,2,77] [none,none,none,none] ?_
 refine Zj (t:=(cond (decide (1 < a0.Kind)) (decide (0 < (a0.Words.length:Int))) false)) rfl (fun c29 => ?_) (fun c29 => ?_)
 ·replace h:=Zn c29 h
  refine zQ [4] ?_
  refine zW ?_
  have h:=Option.some.inj h;subst h
  refine Zi (.inr rfl) hU [(vB false)] (by omega) ?_
  simp only [push_cast,seval,↓reduceIte,Zb,Tryz.results20,hN0,hN]
 replace h:=Zm c29 h
 refine Xs [1,2] [true] ?_
 refine Zd ?_
 refine zQd [1,2,5] [1,2,5] [true] ?_
 obtain ⟨z28,hz28,h⟩:=bC h
 refine Zgb (J:=(Kf (fun z28=>JR n (⟨132,[],[(4,(vB false))]⟩:Env) (Zt O n [none]) (n+1)) (fun z28=>JX 0 n (⟨132,[],[]⟩:Env) (Zt O n [none]) (n+1)))) (z:=z28) ?_ fun hw => ?_
 ·refine Y2 hz28 (fun s0_=>⟨132,[],[(1,(vI a1)),(2,.ref n 0),(5,(vI s0_))]⟩) (fun s0_=>(Zt O n [some ⟨false,28,3,1,(Ze a0)⟩])) (Kf (fun z28=>JR n (⟨132,[],[(4,(vB false))]⟩:Env) (Zt O n [none]) (n+1)) (fun z28=>JX 0 n (⟨132,[],[]⟩:Env) (Zt O n [none]) (n+1))) ?_
  intro s0_ x0_ hs0_
  unfold Vx at hs0_
  try dsimp only
  refine Zd ?_
  refine zQ [1,2,5,82] ?_
  refine Zj (t:=(decide (s0_ < (a0.Kids.length:Int)))) rfl (fun c27 => ?_) (fun c27 => ?_)
  ·replace hs0_:=Zn c27 hs0_
   refine Xs [1,2,5] [true] ?_
   refine Zd ?_
   refine Yh ?_
   refine Zd ?_
   obtain ⟨x2,hx2,ax2,bx2,cx2,hs0_⟩:=bE (f:=Zf) K0 (fun _=>rfl) (by decide) hs0_
   refine Zn1 [] ax2 bx2 cx2 ?_
   refine zDs [1,2,5,6] [true,true] ?_
   refine Zd ?_
   obtain ⟨y4,hy4,hs0_⟩:=bC hs0_
   refine zCd (Zn7 hy4) [1,2,5,6,94] [true,true] ?_
   refine Zj (t:=(!y4)) rfl (fun c26 => ?_) (fun c26 => ?_)
   ·replace hs0_:=Zn c26 hs0_
    refine zQ [4] ?_
    refine zW ?_
    exact zEy hs0_
   replace hs0_:=Zm c26 hs0_
   refine Xs [1,2,5,6] [true,true] ?_
   refine zQD [1,2,5,6,7] [none,none,none] ?_
   obtain ⟨z9,hz9,hs0_⟩:=bC hs0_
   refine Y8 (E':=⟨132,[],[(1,(vI a1)),(2,.ref n 0),(5,(vI s0_)),(131,(vB z9))]⟩) (O':=(Zt O n [some ⟨false,28,3,1,(Ze a0)⟩,none])) (n0:=(n+2)) ?_ ?_
   ·rcases Bool.eq_false_or_eq_true ((cond (decide (2≤a0.Kind)) (decide (a0.Kind≤7)) false) != (x2.Kind == 10)) with c18 | c18
    ·replace hz9:=Zn c18 hz9
     refine X1 Zo (by kernel_rfl) [none,none,none,none,none,none,none,none,some false,some false,some false,some false,some false,some false,some false,some false,some false,some false,some false,some false] (by kernel_rfl) ?_
     refine zX1 c18 ?_
     refine zG ?_
     exact Ki hz9 c18
    replace hz9:=Zm c18 hz9
    rcases Bool.eq_false_or_eq_true (a0.Kind == 9) with c19 | c19
    ·replace hz9:=Zn c19 hz9
     try rw [c19] at c18
     try simp only [Bool.cond_true,Bool.cond_false,Bool.true_bne,Bool.false_bne,Bool.true_beq,Bool.false_beq,Bool.not_eq_true',Bool.not_eq_false'] at c18
     rcases Bool.eq_false_or_eq_true (x2.Kind != 1) with c20 | c20
     ·replace hz9:=Zn c20 hz9
      try rw [c20] at c18
      try rw [c20] at c19
      try simp only [Bool.cond_true,Bool.cond_false,Bool.true_bne,Bool.false_bne,Bool.true_beq,Bool.false_beq,Bool.not_eq_true',Bool.not_eq_false'] at c18
      refine X1 Zo (by kernel_rfl) [none,none,none,none,none,none,none,none,some false,some false,some false,some false,some false,some false,some false,some false,some false,some false,some false,some false] (by kernel_rfl) ?_
      refine zX3 c18 c19 c20 ?_
      refine zG ?_
      exact Z32 hz9 c18 c19 c20
     replace hz9:=Zm c20 hz9
     try rw [c20] at c18
     try rw [c20] at c19
     try simp only [Bool.cond_true,Bool.cond_false,Bool.true_bne,Bool.false_bne,Bool.true_beq,Bool.false_beq,Bool.not_eq_true',Bool.not_eq_false'] at c18
     rcases Bool.eq_false_or_eq_true (decide (2≤a0.Kind)) with c21 | c21
     ·replace hz9:=Zn c21 hz9
      try rw [c21] at c18
      try rw [c21] at c19
      try rw [c21] at c20
      try simp only [Bool.cond_true,Bool.cond_false,Bool.true_bne,Bool.false_bne,Bool.true_beq,Bool.false_beq,Bool.not_eq_true',Bool.not_eq_false'] at c18
      rcases Bool.eq_false_or_eq_true (decide (a0.Kind≤7)) with c22 | c22
      ·replace hz9:=Zn c22 hz9
       try rw [c22] at c18
       try rw [c22] at c19
       try rw [c22] at c20
       try rw [c22] at c21
       try simp only [Bool.cond_true,Bool.cond_false,Bool.true_bne,Bool.false_bne,Bool.true_beq,Bool.false_beq,Bool.not_eq_true',Bool.not_eq_false'] at c18
       obtain ⟨x14,hx14,ax14,bx14,cx14,hz9⟩:=bE (f:=(eI .u64)) Jd (fun _=>rfl) (by decide) hz9
       obtain ⟨y15,hy15,hz9⟩:=bC hz9
       refine X1 Zo (by kernel_rfl) [none,none,none,none,none,none,none,none,some true,some true,some true,some true,some true,some true,some true,some true,some true,some true,some true,some true] (by kernel_rfl) ?_
       refine zF8 c18 c19 c20 c21 c22 ax14 bx14 cx14 ?_
       refine zG ?_
       refine PCall.of (Zep hy15) ?_
       refine zF8 c18 c19 c20 c21 c22 ax14 bx14 cx14 ?_
       refine zG ?_
       exact Ydr hz9 c18 c19 c20 c21 c22 ax14 bx14 cx14
      replace hz9:=Zm c22 hz9
      try rw [c22] at c18
      try rw [c22] at c19
      try rw [c22] at c20
      try rw [c22] at c21
      try simp only [Bool.cond_true,Bool.cond_false,Bool.true_bne,Bool.false_bne,Bool.true_beq,Bool.false_beq,Bool.not_eq_true',Bool.not_eq_false'] at c18
      refine X1 Zo (by kernel_rfl) [none,none,none,none,none,none,none,none,some true,some true,some false,some false,some false,some false,some false,some false,some false,some false,some false,some true] (by kernel_rfl) ?_
      refine zX5 c18 c19 c20 c21 c22 ?_
      refine zG ?_
      exact Yds hz9 c18 c19 c20 c21 c22
     replace hz9:=Zm c21 hz9
     try rw [c21] at c18
     try rw [c21] at c19
     try rw [c21] at c20
     try simp only [Bool.cond_true,Bool.cond_false,Bool.true_bne,Bool.false_bne,Bool.true_beq,Bool.false_beq,Bool.not_eq_true',Bool.not_eq_false'] at c18
     refine X1 Zo (by kernel_rfl) [none,none,none,none,none,none,none,none,some true,some true,some false,some false,some false,some false,some false,some false,some false,some false,some false,some true] (by kernel_rfl) ?_
     refine zX4 c18 c19 c20 c21 ?_
     refine zG ?_
     exact Z6n hz9 c18 c19 c20 c21
    replace hz9:=Zm c19 hz9
    try rw [c19] at c18
    try simp only [Bool.cond_true,Bool.cond_false,Bool.true_bne,Bool.false_bne,Bool.true_beq,Bool.false_beq,Bool.not_eq_true',Bool.not_eq_false'] at c18
    rcases Bool.eq_false_or_eq_true (decide (2≤a0.Kind)) with c23 | c23
    ·replace hz9:=Zn c23 hz9
     try rw [c23] at c18
     try rw [c23] at c19
     try simp only [Bool.cond_true,Bool.cond_false,Bool.true_bne,Bool.false_bne,Bool.true_beq,Bool.false_beq,Bool.not_eq_true',Bool.not_eq_false'] at c18
     rcases Bool.eq_false_or_eq_true (decide (a0.Kind≤7)) with c24 | c24
     ·replace hz9:=Zn c24 hz9
      try rw [c24] at c18
      try rw [c24] at c19
      try rw [c24] at c23
      try simp only [Bool.cond_true,Bool.cond_false,Bool.true_bne,Bool.false_bne,Bool.true_beq,Bool.false_beq,Bool.not_eq_true',Bool.not_eq_false'] at c18
      obtain ⟨x16,hx16,ax16,bx16,cx16,hz9⟩:=bE (f:=(eI .u64)) Jd (fun _=>rfl) (by decide) hz9
      obtain ⟨y17,hy17,hz9⟩:=bC hz9
      refine X1 Zo (by kernel_rfl) [none,none,none,none,none,none,none,none,some true,some true,some true,some true,some true,some true,some true,some true,some true,some true,some true,some true] (by kernel_rfl) ?_
      refine zF7 c18 c19 c23 c24 ax16 bx16 cx16 ?_
      refine zG ?_
      refine PCall.of (Zep hy17) ?_
      refine zF7 c18 c19 c23 c24 ax16 bx16 cx16 ?_
      refine zG ?_
      exact Yaf hz9 c18 c19 c23 c24 ax16 bx16 cx16
     replace hz9:=Zm c24 hz9
     try rw [c24] at c18
     try rw [c24] at c19
     try rw [c24] at c23
     try simp only [Bool.cond_true,Bool.cond_false,Bool.true_bne,Bool.false_bne,Bool.true_beq,Bool.false_beq,Bool.not_eq_true',Bool.not_eq_false'] at c18
     refine X1 Zo (by kernel_rfl) [none,none,none,none,none,none,none,none,some true,some true,some false,some false,some false,some false,some false,some false,some false,some false,some false,some true] (by kernel_rfl) ?_
     refine zX4 c18 c19 c23 c24 ?_
     refine zG ?_
     exact Z6n hz9 c18 c19 c23 c24
    replace hz9:=Zm c23 hz9
    try rw [c23] at c18
    try rw [c23] at c19
    try simp only [Bool.cond_true,Bool.cond_false,Bool.true_bne,Bool.false_bne,Bool.true_beq,Bool.false_beq,Bool.not_eq_true',Bool.not_eq_false'] at c18
    refine X1 Zo (by kernel_rfl) [none,none,none,none,none,none,none,none,some true,some true,some false,some false,some false,some false,some false,some false,some false,some false,some false,some true] (by kernel_rfl) ?_
    refine zX3 c18 c19 c23 ?_
    refine zG ?_
    exact Z32 hz9 c18 c19 c23
   refine Zj (t:=z9) rfl (fun c25 => ?_) (fun c25 => ?_)
   ·replace hs0_:=Zn c25 hs0_
    refine zQ [4] ?_
    refine zW ?_
    exact zEy hs0_
   replace hs0_:=Zm c25 hs0_
   refine Xs [1,2,5] [true,false] ?_
   refine zR ?_
   exact zEn hs0_
  replace hs0_:=Zm c27 hs0_
  exact zEx hs0_
 rcases z28 with z28 | z28
 ·dsimp only [Kf] at hw h
  refine Zbf hw ?_
  try simp only [Y0,Ym,↓reduceIte,Nat.reduceEqDiff]
  have h:=Option.some.inj h;subst h
  refine Zi (.inr rfl) hU [(vB false)] (by omega) ?_
  simp only [push_cast,seval,↓reduceIte,Zb,Tryz.results20,hN0,hN]
 dsimp only [Kf] at hw h
 refine Yv hw ?_
 try simp only [Y0,Ym,↓reduceIte,Nat.reduceEqDiff]
 refine zD [] [false] ?_
 refine zQ [4] ?_
 refine zW ?_
 have h:=Option.some.inj h;subst h
 refine Zi (.inr rfl) hU [(vB true)] (by omega) ?_
 simp only [push_cast,seval,↓reduceIte,Zb,Tryz.results20,hN0,hN]
theorem Zna:∀ k,(Zf9 (Jo k)):=fun k=>by
 induction k with
 | zero=>exact @fun a0 a1 r O n h=>(nomatch (show (none:Option _)=some _ from h))
 | succ k ih=>exact @fun a0 a1 r O n h=>Zox (ih)  h
theorem Zrr {a0:Za} {a1:Int} {r:Bool} {O:Objs} {n:Nat} (h:Zen a0 a1=some r):GTo Tryz.prog 20 [.agg (Ze a0),(vI a1)] O n ((vB r)) O n:=by
 obtain ⟨k,hk⟩:=Zcg h
 exact (Zna k)  hk
theorem Zjy {a0:Int} {a1:Int} {r:Int} {O:Objs} {n:Nat} (h:Um a0 a1=some r):GTo Tryz.prog 39 [(vI a0),(vI a1)] O n ((vI r)) O n:=by
 unfold Um at h
 refine Yj Zo Tryz.call39 Tryz.func39 rfl (Nat.le_of_ble_eq_true rfl) (Nat.le_refl _) fun hU => ?_
 have hN0:O n=none:=hU.fresh _ (Nat.le_refl _)
 have hN:∀ k,O (n+k)=none:=fun k=>hU.fresh _ (Nat.le_add_right _ _)
 show W _ _ _ _ ⟨31,[],[(0,(vI a0)),(1,(vI a1))]⟩ (Zt O n []) _
 refine zQ [0,1] ?_
 refine Zd ?_
 refine Zd ?_
 obtain ⟨y2,hy2,h⟩:=bC h
 refine zRo [none,none,none,none] ?_
 refine zG ?_
 refine zTs (U8 hy2) ?_
 refine zG ?_
 refine zD [0,1,16] [] ?_
 refine Zj (t:=(cond (cond (decide (y2 < 1)) true (decide (a1 < 0))) true (decide (1099511627776 < a1)))) rfl (fun c14 => ?_) (fun c14 => ?_)
 ·replace h:=Zn c14 h
  refine zQ [4] ?_
  refine zW ?_
  have h:=Option.some.inj h;subst h
  refine Zi (.inr rfl) hU [(vI 0)] (by omega) ?_
  simp only [push_cast,seval,↓reduceIte,Zb,Tryz.results39,hN0,hN]
 replace h:=Zm c14 h
 refine Xs [0,1] [] ?_
 refine Zd ?_
 obtain ⟨y5,hy5,h⟩:=bC h
 obtain ⟨pu6,h⟩:=bG h
 refine Z5 Zo [] ?_
 simp only [push_cast,seval,↓reduceIte,Zb,pu6,hN0,hN]
 refine (U8 hy5).then ?_
 simp only [push_cast,seval,↓reduceIte,Zb,pu6,hN0,hN]
 refine zDs [1,5] [] ?_
 obtain ⟨pu8,h⟩:=bG h
 refine Zb4 [1,5,23] (Z5 Zo [] ?_)
 simp only [push_cast,seval,↓reduceIte,Zb,pu8,hN0,hN]
 refine Zj (t:=(decide (0 < (Int.tmod a1 (IntKind.i64.wrap (Int.tdiv 64 y5)))))) rfl (fun c13 => ?_) (fun c13 => ?_)
 ·replace h:=Zn c13 h
  obtain ⟨pu10,h⟩:=bG h
  refine Zb4 [4] (Z5 Zo [] ?_)
  simp only [push_cast,seval,↓reduceIte,Zb,pu10,hN0,hN]
  refine zW ?_
  have h:=Option.some.inj h;subst h
  refine Zi (.inr rfl) hU [(vI (IntKind.i64.wrap ((IntKind.i64.wrap (Int.tdiv a1 (IntKind.i64.wrap (Int.tdiv 64 y5))))+1)))] (by omega) ?_
  simp only [push_cast,seval,↓reduceIte,Zb,Tryz.results39,hN0,hN]
 replace h:=Zm c13 h
 refine Xs [1,5] [] ?_
 obtain ⟨pu12,h⟩:=bG h
 refine Zb4 [4] (Z5 Zo [] ?_)
 simp only [push_cast,seval,↓reduceIte,Zb,pu12,hN0,hN]
 refine zW ?_
 have h:=Option.some.inj h;subst h
 refine Zi (.inr rfl) hU [(vI (IntKind.i64.wrap (Int.tdiv a1 (IntKind.i64.wrap (Int.tdiv 64 y5)))))] (by omega) ?_
 simp only [push_cast,seval,↓reduceIte,Zb,Tryz.results39,hN0,hN]
theorem Zig {a0:Za} {r:(Int×Int)} {O:Objs} {n:Nat} (h:V5 a0=some r):GTo Tryz.prog 40 [.agg (Ze a0)] O n (.tup [(vI r.1),(vI r.2)]) O n:=by
 unfold V5 at h
 refine Yj Zo Tryz.call40 Tryz.func40 rfl (Nat.le_of_ble_eq_true rfl) (Nat.le_refl _) fun hU => ?_
 have hN0:O n=none:=hU.fresh _ (Nat.le_refl _)
 have hN:∀ k,O (n+k)=none:=fun k=>hU.fresh _ (Nat.le_add_right _ _)
 show W _ _ _ _ ⟨48,[],[(0,.agg (Ze a0))]⟩ (Zt O n []) _
 refine zQ [1] ?_
 refine zQ [1,4,5] ?_
 refine Zd ?_
 refine zQd [1,4,5,6] [1,4,5,6] [true] ?_
 obtain ⟨z18,hz18,h⟩:=bC h
 refine Yv (E':=⟨48,[],[(4,(vI z18.1)),(5,(vI z18.2))]⟩) (O':=(Zt O n [none])) (n0:=(n+1)) ?_ ?_
 ·refine Y2 hz18 (fun s0_=>⟨48,[],[(1,.ref n 0),(4,(vI s0_.1)),(5,(vI s0_.2.1)),(6,(vI s0_.2.2))]⟩) (fun s0_=>(Zt O n [some ⟨false,28,3,1,(Ze a0)⟩])) (fun z18=>JX 0 n (⟨48,[],[(4,(vI z18.1)),(5,(vI z18.2))]⟩:Env) (Zt O n [none]) (n+1)) ?_
  intro s0_ x0_ hs0_
  unfold Vy at hs0_
  try dsimp only
  refine Zd ?_
  refine zQ [1,4,5,6,11] ?_
  refine Zj (t:=(decide (s0_.2.2 < (a0.Kids.length:Int)))) rfl (fun c17 => ?_) (fun c17 => ?_)
  ·replace hs0_:=Zn c17 hs0_
   refine Xs [1,4,5,6] [true] ?_
   obtain ⟨z1,hz1,hs0_⟩:=bC hs0_
   refine Y8 (E':=⟨48,[],[(1,.ref n 0),(4,(vI z1.1)),(5,(vI z1.2)),(6,(vI s0_.2.2))]⟩) (O':=(Zt O n [some ⟨false,28,3,1,(Ze a0)⟩])) (n0:=(n+1)) ?_ ?_
   ·refine Yh ?_
    obtain ⟨z2,hz2,hz1⟩:=bC hz1
    refine Y8 (E':=⟨48,[],[(1,.ref n 0),(4,(vI z2)),(5,(vI s0_.2.1)),(6,(vI s0_.2.2))]⟩) (O':=(Zt O n [some ⟨false,28,3,1,(Ze a0)⟩])) (n0:=(n+1)) ?_ ?_
    ·obtain ⟨x5,hx5,ax5,bx5,cx5,hz2⟩:=bE (f:=Zf) K0 (fun _=>rfl) (by decide) hz2
     have g6:=Zal (f:=Zf) (off:=1) (sz:=3) Zc9 (fun _=>rfl) (by decide) (by decide) hx5
     refine Zb4 [1,4,5,6,22] (Z5 Zo [] ?_)
     refine zF4 ax5 bx5 cx5 g6 ?_
     refine Zj (t:=(decide (s0_.1 < (x5.Words.length:Int)))) rfl (fun c9 => ?_) (fun c9 => ?_)
     ·replace hz2:=Zn c9 hz2
      obtain ⟨x7,hx7,ax7,bx7,cx7,hz2⟩:=bE (f:=Zf) K0 (fun _=>rfl) (by decide) hz2
      have g8:=Zal (f:=Zf) (off:=1) (sz:=3) Zc9 (fun _=>rfl) (by decide) (by decide) hx7
      refine Zo4 [] ax7 bx7 cx7 g8 ?_
      exact Z31 hz2 ax7 bx7 cx7 g8
     replace hz2:=Zm c9 hz2
     refine zK ?_
     exact zEn hz2
    obtain ⟨x12,hx12,ax12,bx12,cx12,hz1⟩:=bE (f:=Zf) K0 (fun _=>rfl) (by decide) hz1
    have g13:=Zal (f:=Zf) (off:=2) (sz:=3) Zny (fun _=>rfl) (by decide) (by decide) hx12
    refine Zb4 [1,4,5,6,38] (Z5 Zo [] ?_)
    refine zF4 ax12 bx12 cx12 g13 ?_
    refine Zj (t:=(decide (s0_.2.1 < (x12.Kids.length:Int)))) rfl (fun c16 => ?_) (fun c16 => ?_)
    ·replace hz1:=Zn c16 hz1
     obtain ⟨x14,hx14,ax14,bx14,cx14,hz1⟩:=bE (f:=Zf) K0 (fun _=>rfl) (by decide) hz1
     have g15:=Zal (f:=Zf) (off:=2) (sz:=3) Zny (fun _=>rfl) (by decide) (by decide) hx14
     refine Zo4 [] ax14 bx14 cx14 g15 ?_
     exact Z31 hz1 ax14 bx14 cx14 g15
    replace hz1:=Zm c16 hz1
    refine zK ?_
    exact zEn hz1
   refine zR ?_
   exact zEn hs0_
  replace hs0_:=Zm c17 hs0_
  exact zEx hs0_
 try simp only [Y0,Ym,↓reduceIte,Nat.reduceEqDiff]
 refine zD [4,5] [false] ?_
 refine zQ [2,3] ?_
 refine zW ?_
 have h:=Option.some.inj h;subst h
 refine Zi (.inr rfl) hU [(vI z18.1),(vI z18.2)] (by omega) ?_
 simp only [push_cast,seval,↓reduceIte,Zb,Tryz.results40,hN0,hN]
def Zhy (Xc:(Za→Option Int)):Prop:=∀ {a0:Za} {r:Int} {O:Objs} {n:Nat},Xc a0=some r→GTo Tryz.prog 21 [.agg (Ze a0)] O n ((vI r)) O n
theorem Zrx {Xc:(Za→Option Int)} (Zhz:Zhy Xc) {a0:Za} {r:Int} {O:Objs} {n:Nat} (h:Zas Xc a0=some r):GTo Tryz.prog 21 [.agg (Ze a0)] O n ((vI r)) O n:=by
 unfold Zas at h
 refine Yj Zo Tryz.call21 Tryz.func21 rfl (Nat.le_of_ble_eq_true rfl) (Nat.le_refl _) fun hU => ?_
 have hN0:O n=none:=hU.fresh _ (Nat.le_refl _)
 have hN:∀ k,O (n+k)=none:=fun k=>hU.fresh _ (Nat.le_add_right _ _)
 show W _ _ _ _ ⟨101,[],[(0,.agg (Ze a0))]⟩ (Zt O n []) _
 refine zQ [1] ?_
 refine zQ [1,3] ?_
 obtain ⟨z1,hz1,h⟩:=bC h
 refine Z5j (J:=(Kf (fun z1=>JN n (⟨101,[],[(1,.ref n 0),(3,(vI z1))]⟩:Env) (Zt O n [some ⟨false,28,3,1,(Ze a0)⟩]) (n+1)) (fun z1=>JR n (⟨101,[],[(2,(vI z1))]⟩:Env) (Zt O n [none]) (n+1)))) (z:=z1) ?_ fun hw => ?_
 ·refine zQ [1,3,10] ?_
  refine Yh ?_
  refine zQ [1,3,10,11] ?_
  refine Zj (t:=(a0.Kind == 1)) rfl (fun c27 => ?_) (fun c27 => ?_)
  ·replace hz1:=Zn c27 hz1
   refine zR ?_
   exact zEn hz1
  replace hz1:=Zm c27 hz1
  refine zQ [1,3,10,20] ?_
  refine Zj (t:=(a0.Kind == 8)) rfl (fun c26 => ?_) (fun c26 => ?_)
  ·replace hz1:=Zn c26 hz1
   refine zR ?_
   exact zEn hz1
  replace hz1:=Zm c26 hz1
  obtain ⟨z2,hz2,hz1⟩:=bC hz1
  refine Y8 (E':=⟨101,[],[(1,.ref n 0),(3,(vI 0)),(10,(vI a0.Kind)),(25,(vB z2))]⟩) (O':=(Zt O n [some ⟨false,28,3,1,(Ze a0)⟩])) (n0:=(n+1)) ?_ ?_
  ·refine zQ [1,3,10,25] ?_
   refine Zj (t:=(a0.Kind == 2)) rfl (fun c7 => ?_) (fun c7 => ?_)
   ·replace hz2:=Zn c7 hz2
    refine zK ?_
    exact zEn hz2
   replace hz2:=Zm c7 hz2
   refine zQ [1,3,10,25] ?_
   refine Zj (t:=(a0.Kind == 3)) rfl (fun c6 => ?_) (fun c6 => ?_)
   ·replace hz2:=Zn c6 hz2
    refine zK ?_
    exact zEn hz2
   replace hz2:=Zm c6 hz2
   refine zQ [1,3,10,25] ?_
   refine Zj (t:=(a0.Kind == 4)) rfl (fun c5 => ?_) (fun c5 => ?_)
   ·replace hz2:=Zn c5 hz2
    refine zK ?_
    exact zEn hz2
   replace hz2:=Zm c5 hz2
   refine zQ [1,3,10,25] ?_
   refine Zj (t:=(a0.Kind == 5)) rfl (fun c4 => ?_) (fun c4 => ?_)
   ·replace hz2:=Zn c4 hz2
    refine zK ?_
    exact zEn hz2
   replace hz2:=Zm c4 hz2
   refine zQ [1,3,10,25] ?_
   refine Zj (t:=(a0.Kind == 6)) rfl (fun c3 => ?_) (fun c3 => ?_)
   ·replace hz2:=Zn c3 hz2
    refine zK ?_
    exact zEn hz2
   replace hz2:=Zm c3 hz2
   refine zR ?_
   exact zEn hz2
  refine Zj (t:=z2) rfl (fun c25 => ?_) (fun c25 => ?_)
  ·replace hz1:=Zn c25 hz1
   refine Zd ?_
   obtain ⟨y9,hy9,hz1⟩:=bC hz1
   refine zCd (Zjy hy9) [2] [false] ?_
   refine zW ?_
   exact zEn hz1
  replace hz1:=Zm c25 hz1
  refine zQ [1,3,39] ?_
  refine Zj (t:=(a0.Kind == 9)) rfl (fun c24 => ?_) (fun c24 => ?_)
  ·replace hz1:=Zn c24 hz1
   refine Zd ?_
   obtain ⟨y11,hy11,hz1⟩:=bC hz1
   refine zCd (Zig hy11) [1,4,5] [true] ?_
   refine zQ [1,3] ?_
   refine Zd ?_
   refine zQd [1,3,6] [1,3,6] [true] ?_
   obtain ⟨z23,hz23,hz1⟩:=bC hz1
   refine Yv (E':=⟨101,[],[(3,(vI z23))]⟩) (O':=(Zt O n [none])) (n0:=(n+1)) ?_ ?_
   ·refine Y2 hz23 (fun s0_=>⟨101,[],[(1,.ref n 0),(3,(vI s0_.1)),(6,(vI s0_.2))]⟩) (fun s0_=>(Zt O n [some ⟨false,28,3,1,(Ze a0)⟩])) (fun z23=>JX 1 n (⟨101,[],[(3,(vI z23))]⟩:Env) (Zt O n [none]) (n+1)) ?_
    intro s0_ x0_ hs0_
    unfold Uf at hs0_
    try dsimp only
    refine Zd ?_
    refine zQ [1,3,6,58] ?_
    refine Zj (t:=(decide (s0_.2 < (a0.Kids.length:Int)))) rfl (fun c22 => ?_) (fun c22 => ?_)
    ·replace hs0_:=Zn c22 hs0_
     refine Xs [1,3,6] [true] ?_
     refine Zd ?_
     refine Yh ?_
     refine zQd [1,3,6,7] [1,3,6,7] [true] ?_
     obtain ⟨z21,hz21,hs0_⟩:=bC hs0_
     refine Yv (E':=⟨101,[],[(1,.ref n 0),(3,(vI z21)),(6,(vI s0_.2))]⟩) (O':=(Zt O n [some ⟨false,28,3,1,(Ze a0)⟩])) (n0:=(n+1)) ?_ ?_
     ·refine Y2 hz21 (fun s1_=>⟨101,[],[(1,.ref n 0),(3,(vI s1_.1)),(6,(vI s0_.2)),(7,(vI s1_.2))]⟩) (fun s1_=>(Zt O n [some ⟨false,28,3,1,(Ze a0)⟩])) (fun z21=>JX 3 n (⟨101,[],[(1,.ref n 0),(3,(vI z21)),(6,(vI s0_.2))]⟩:Env) (Zt O n [some ⟨false,28,3,1,(Ze a0)⟩]) (n+1)) ?_
      intro s1_ x1_ hs1_
      unfold Ug at hs1_
      try dsimp only
      refine Zd ?_
      obtain ⟨x14,hx14,ax14,bx14,cx14,hs1_⟩:=bE (f:=Zf) K0 (fun _=>rfl) (by decide) hs1_
      have g15:=Zal (f:=Zf) (off:=2) (sz:=3) Zny (fun _=>rfl) (by decide) (by decide) hx14
      refine Zb4 [1,3,6,7,69] (Z5 Zo [] ?_)
      refine zF4 ax14 bx14 cx14 g15 ?_
      refine Zj (t:=(decide (s1_.2 < (x14.Kids.length:Int)))) rfl (fun c20 => ?_) (fun c20 => ?_)
      ·replace hs1_:=Zn c20 hs1_
       refine Xs [1,3,6,7] [true] ?_
       refine Zd ?_
       refine Yh ?_
       obtain ⟨x16,hx16,ax16,bx16,cx16,hs1_⟩:=bE (f:=Zf) K0 (fun _=>rfl) (by decide) hs1_
       have g17:=Zal (f:=Zf) (off:=2) (sz:=3) Zny (fun _=>rfl) (by decide) (by decide) hx16
       obtain ⟨x18,hx18,ax18,bx18,cx18,hs1_⟩:=bE (f:=Zf) K0 (fun _=>rfl) (by decide) hs1_
       obtain ⟨y19,hy19,hs1_⟩:=bC hs1_
       refine Yah [] ax16 bx16 cx16 g17 ax18 bx18 cx18 ?_
       refine (Zhz hy19).then ?_
       refine zF7 ax16 bx16 cx16 g17 ax18 bx18 cx18 ?_
       refine zD [1,3,6,7] [true] ?_
       refine zR ?_
       exact zEn hs1_
      replace hs1_:=Zm c20 hs1_
      exact zEx hs1_
     try simp only [Y0,Ym,↓reduceIte,Nat.reduceEqDiff]
     refine zD [1,3,6] [true] ?_
     refine zR ?_
     exact zEn hs0_
    replace hs0_:=Zm c22 hs0_
    exact zEx hs0_
   try simp only [Y0,Ym,↓reduceIte,Nat.reduceEqDiff]
   refine zD [3] [false] ?_
   refine zQ [2] ?_
   refine zW ?_
   exact zEn hz1
  replace hz1:=Zm c24 hz1
  refine zK ?_
  exact zEn hz1
 rcases z1 with z1 | z1
 ·dsimp only [Kf] at hw h
  refine Y8 hw ?_
  refine Zd ?_
  refine zQd [1,3,8] [1,3,8] [true] ?_
  obtain ⟨z31,hz31,h⟩:=bC h
  refine Yv (E':=⟨101,[],[(3,(vI z31))]⟩) (O':=(Zt O n [none])) (n0:=(n+1)) ?_ ?_
  ·refine Y2 hz31 (fun s2_=>⟨101,[],[(1,.ref n 0),(3,(vI s2_.1)),(8,(vI s2_.2))]⟩) (fun s2_=>(Zt O n [some ⟨false,28,3,1,(Ze a0)⟩])) (fun z31=>JX 5 n (⟨101,[],[(3,(vI z31))]⟩:Env) (Zt O n [none]) (n+1)) ?_
   intro s2_ x2_ hs2_
   unfold Ko at hs2_
   try dsimp only
   refine Zd ?_
   refine zQ [1,3,8,89] ?_
   refine Zj (t:=(decide (s2_.2 < (a0.Kids.length:Int)))) rfl (fun c30 => ?_) (fun c30 => ?_)
   ·replace hs2_:=Zn c30 hs2_
    refine Xs [1,3,8] [true] ?_
    refine Zd ?_
    refine Yh ?_
    obtain ⟨x28,hx28,ax28,bx28,cx28,hs2_⟩:=bE (f:=Zf) K0 (fun _=>rfl) (by decide) hs2_
    obtain ⟨y29,hy29,hs2_⟩:=bC hs2_
    refine Zn1 [] ax28 bx28 cx28 ?_
    refine (Zhz hy29).then ?_
    refine zF3 ax28 bx28 cx28 ?_
    refine zD [1,3,8] [true] ?_
    refine zR ?_
    exact zEn hs2_
   replace hs2_:=Zm c30 hs2_
   exact zEx hs2_
  try simp only [Y0,Ym,↓reduceIte,Nat.reduceEqDiff]
  refine zD [3] [false] ?_
  refine zQ [2] ?_
  refine zW ?_
  have h:=Option.some.inj h;subst h
  refine Zi (.inr rfl) hU [(vI z31)] (by omega) ?_
  simp only [push_cast,seval,↓reduceIte,Zb,Tryz.results21,hN0,hN]
 dsimp only [Kf] at hw h
 refine Z0i hw ?_
 try simp only [Y0,Ym]
 have h:=Option.some.inj h;subst h
 refine Zi (.inr rfl) hU [(vI z1)] (by omega) ?_
 simp only [push_cast,seval,↓reduceIte,Zb,Tryz.results21,hN0,hN]
theorem Zn5:∀ k,(Zhy (Xk k)):=fun k=>by
 induction k with
 | zero=>exact @fun a0 r O n h=>(nomatch (show (none:Option _)=some _ from h))
 | succ k ih=>exact @fun a0 r O n h=>Zrx (ih)  h
theorem Zer {a0:Za} {r:Int} {O:Objs} {n:Nat} (h:Zc8 a0=some r):GTo Tryz.prog 21 [.agg (Ze a0)] O n ((vI r)) O n:=by
 obtain ⟨k,hk⟩:=Zcg h
 exact (Zn5 k)  hk
theorem Zag {a0:Int} {a1:Int} {a2:Int} {a3:Int} {r:Int} {O:Objs} {n:Nat} (h:Qa a0 a1 a2 a3=some r):GTo Tryz.prog 41 [(vI a0),(vI a1),(vI a2),.val (.int .u64 a3)] O n (.val (.int .u64 r)) O n:=by
 unfold Qa at h
 refine Yj Zo Tryz.call41 Tryz.func41 rfl (Nat.le_of_ble_eq_true rfl) (Nat.le_refl _) fun hU => ?_
 have hN0:O n=none:=hU.fresh _ (Nat.le_refl _)
 have hN:∀ k,O (n+k)=none:=fun k=>hU.fresh _ (Nat.le_add_right _ _)
 show W _ _ _ _ ⟨26,[],[(0,(vI a0)),(1,(vI a1)),(2,(vI a2)),(3,.val (.int .u64 a3))]⟩ (Zt O n []) _
 refine zQ [0,1,2,3] ?_
 refine zQ [2,3,9] ?_
 obtain ⟨z1,hz1,h⟩:=bC h
 refine Y8 (E':=⟨26,[],[(2,(vI a2)),(3,.val (.int .u64 a3)),(9,(vI z1))]⟩) (O':=(Zt O n [])) (n0:=n) ?_ ?_
 ·refine zQ [2,3,9,15] ?_
  refine Zj (t:=(decide ((IntKind.i64.wrap ((IntKind.i64.wrap (a1 - a0)) - 1)) < 0))) rfl (fun c2 => ?_) (fun c2 => ?_)
  ·replace hz1:=Zn c2 hz1
   refine zR ?_
   exact zEn hz1
  replace hz1:=Zm c2 hz1
  refine zK ?_
  exact zEn hz1
 refine zQ [8] ?_
 refine zW ?_
 have h:=Option.some.inj h;subst h
 refine Zi (.inr rfl) hU [.val (.int .u64 (IntKind.u64.wrap ((IntKind.u64.wrap (IntKind.i64.wrap ((IntKind.i64.wrap (4 * z1))+a2)))+(IntKind.u64.wrap (a3 * 4294967296)))))] (by omega) ?_
 simp only [push_cast,seval,↓reduceIte,Zb,Tryz.results41,hN0,hN]
theorem Zf0 {a0:(List Int)} {a1:Int} {r:(List Int)} {O:Objs} {n:Nat} {t0:Nat} (ht0:t0 < n) (hot0:O t0=some (oR 45 1 (eI .u64) a0)) (h:V6 a0 a1=some r):GTo Tryz.prog 42 [.row t0 a0.length,(vI a1)] O n (.row n r.length) (Zt (O.upd t0 none) n [some (oR 45 1 (eI .u64) r)]) (n+1):=by
 unfold V6 at h
 refine Yj Zo Tryz.call42 Tryz.func42 rfl (Nat.le_of_ble_eq_true rfl) (by omega) fun hU => ?_
 have e0:=Zz9 (ba:=n) (E:=⟨15,[],[(0,.row t0 a0.length),(1,.val (.int .i64 a1))]⟩) (O:=(Zt O n [])) (n:=n) (j:=t0) (len:=a0.length) (q:=⟨true,45,1,a0.length,fl (eI .u64) a0⟩) 0 rfl (by rw [Qg _ ht0];exact hot0) (by omega)
 simp only [Vv _ _ ht0,J4,Qh,List.cons_append,List.nil_append,List.length_cons,List.length_nil,Nat.zero_add,Nat.reduceAdd,Nat.add_assoc] at e0
 refine Za0 e0 ?_
 have hU:=(Und.drop hU t0)
 have hN0:(O.upd t0 none) n=none:=hU.fresh _ (Nat.le_refl _)
 have hN:∀ k,(O.upd t0 none) (n+k)=none:=fun k=>hU.fresh _ (Nat.le_add_right _ _)
 show W _ _ _ _ ⟨15,[],[(0,.row n a0.length),(0,.row t0 a0.length),(1,(vI a1))]⟩ (Zt (O.upd t0 none) n [some (oR 45 1 (eI .u64) a0)]) _
 refine zQ [0,1] ?_
 refine Zd ?_
 refine zQd [0,1,5] [0,1,5] [true] ?_
 obtain ⟨z3,hz3,h⟩:=bC h
 refine Yv (E':=⟨15,[],[(0,.row n z3.length)]⟩) (O':=(Zt (O.upd t0 none) n [some (oR 45 1 (eI .u64) z3)])) (n0:=(n+1)) ?_ ?_
 ·refine Y2 hz3 (fun s0_=>⟨15,[],[(0,.row n s0_.2.length),(1,(vI a1)),(5,(vI s0_.1))]⟩) (fun s0_=>(Zt (O.upd t0 none) n [some (oR 45 1 (eI .u64) s0_.2)])) (fun z3=>JX 0 n (⟨15,[],[(0,.row n z3.length)]⟩:Env) (Zt (O.upd t0 none) n [some (oR 45 1 (eI .u64) z3)]) (n+1)) ?_
  intro s0_ x0_ hs0_
  unfold U5 at hs0_
  try dsimp only
  refine Zd ?_
  refine zQ [0,1,5,8] ?_
  refine Zj (t:=(decide (s0_.1 < a1))) rfl (fun c2 => ?_) (fun c2 => ?_)
  ·replace hs0_:=Zn c2 hs0_
   refine Xs [0,1,5] [true] ?_
   refine Zd ?_
   refine Yh ?_
   obtain ⟨l1,pl1,ql1,el1,hs0_⟩:=bA (k:=1) rfl hs0_
   refine Zku [] pl1 ql1 el1 ?_
   refine Zah ⟨15,[],[(0,.row n l1.length),(1,(vI a1)),(5,(vI s0_.1))]⟩ (Zt (O.upd t0 none) n [some (oR 45 1 (eI .u64) l1),none]) (Z8 hU rfl rfl ?_) ?_
   ·exact Zv9 pl1 ql1 el1
   refine zR ?_
   exact zEn hs0_
  replace hs0_:=Zm c2 hs0_
  exact zEx hs0_
 try simp only [Y0,Ym,↓reduceIte,Nat.reduceEqDiff]
 refine zD [0] [true] ?_
 refine zQ [4] ?_
 refine zW ?_
 have h:=Option.some.inj h;subst h
 refine Zjk (k:=1) (L3:=[some (oR 45 1 (eI .u64) z3),none]) (E2:=(⟨15,[],[(4,.row n z3.length)]⟩:Env)) (n3:=(n+2)) (.inr rfl) hU rfl [.row n z3.length] ?_ ?_
 ·refine Fit2.trans (E':=(⟨15,[],[(4,.row n z3.length)]⟩:Env)) (O':=(Zt (O.upd t0 none) n [some (oR 45 1 (eI .u64) z3)])) (n':=(n+1)) (Fit2.of (Z8 hU rfl rfl ?_) (by omega)) ?_
  ·exact zSe
  refine Jt (k:=1) (k':=2) hU [0] [0,0] rfl rfl rfl rfl ⟨rfl,rfl⟩ ?_
  exact zSe
 simp only [push_cast,seval,↓reduceIte,Zb,Tryz.results42,hN0,hN]
theorem Zrs {a0:Za} {r:(List Int)} {O:Objs} {n:Nat} (h:Gx a0=some r):GTo Tryz.prog 44 [.agg (Ze a0)] O n ((sL (eI .u64) r)) O n:=by
 unfold Gx at h
 refine Yj Zo Tryz.call44 Tryz.func44 rfl (Nat.le_of_ble_eq_true rfl) (Nat.le_refl _) fun hU => ?_
 have hN0:O n=none:=hU.fresh _ (Nat.le_refl _)
 have hN:∀ k,O (n+k)=none:=fun k=>hU.fresh _ (Nat.le_add_right _ _)
 show W _ _ _ _ ⟨24,[],[(0,.agg (Ze a0))]⟩ (Zt O n []) _
 refine zQ [1] ?_
 refine zQ [1,3] ?_
 refine Zd ?_
 refine zQd [1,3,4] [1,3,4] [true] ?_
 refine Za0 (E':=(⟨24,[],[(1,.ref n 0),(3,.row (n+1) ([]:List Int).length),(4,(vI 0))]⟩:Env)) (O':=(Zt O n [some ⟨false,28,3,1,(Ze a0)⟩,some (oR 45 1 (eI .u64) ([]:List Int)),none])) (n':=(n+3)) ?_ ?_
 ·refine Fit2.trans (E':=(⟨24,[],[(1,.ref n 0),(3,nV),(4,(vI 0))]⟩:Env)) (O':=(Zt O n [some ⟨false,28,3,1,(Ze a0)⟩])) (n':=(n+1)) (Fit2.of (Z8 hU rfl rfl ?_) (by omega)) ?_
  ·exact zSe
  refine Fit2.trans (Zo6 3 45 1 rfl (by omega)) ?_
  simp only [J4,Qh,Zb3,Zap,List.set_cons_zero,List.set_cons_succ,List.cons_append,List.nil_append,List.length_cons,List.length_nil,Nat.zero_add,Nat.reduceAdd,Nat.reduceLT,Nat.add_assoc]
  refine Fit2.trans (E':=(⟨24,[],[(1,.ref n 0),(3,.row (n+1) ([]:List Int).length),(4,(vI 0))]⟩:Env)) (O':=(Zt O n [some ⟨false,28,3,1,(Ze a0)⟩,some (oR 45 1 (eI .u64) ([]:List Int))])) (n':=(n+2)) (Fit2.of (Z8 hU rfl rfl ?_) (by omega)) ?_
  ·exact zSe
  refine Jt (k:=2) (k':=3) hU [0,1] [0,1,0] rfl rfl rfl rfl ⟨rfl,rfl⟩ ?_
  exact zSe
 obtain ⟨z6,hz6,h⟩:=bC h
 refine Yv (E':=⟨24,[],[(3,.row (n+1) z6.length)]⟩) (O':=(Zt O n [none,some (oR 45 1 (eI .u64) z6),none])) (n0:=(n+3)) ?_ ?_
 ·refine Y2 hz6 (fun s0_=>⟨24,[],[(1,.ref n 0),(3,.row (n+1) s0_.2.length),(4,(vI s0_.1))]⟩) (fun s0_=>(Zt O n [some ⟨false,28,3,1,(Ze a0)⟩,some (oR 45 1 (eI .u64) s0_.2),none])) (fun z6=>JX 0 n (⟨24,[],[(3,.row (n+1) z6.length)]⟩:Env) (Zt O n [none,some (oR 45 1 (eI .u64) z6),none]) (n+3)) ?_
  intro s0_ x0_ hs0_
  unfold Vz at hs0_
  try dsimp only
  refine Zd ?_
  refine zQ [1,3,4,9] ?_
  refine Zj (t:=(decide (s0_.1 < (a0.Kids.length:Int)))) rfl (fun c5 => ?_) (fun c5 => ?_)
  ·replace hs0_:=Zn c5 hs0_
   refine Xs [1,3,4] [true,true,false] ?_
   refine Zd ?_
   refine Yh ?_
   obtain ⟨x1,hx1,ax1,bx1,cx1,hs0_⟩:=bE (f:=Zf) K0 (fun _=>rfl) (by decide) hs0_
   have g2:=Zal (f:=Zf) (off:=1) (sz:=3) Zc9 (fun _=>rfl) (by decide) (by decide) hx1
   obtain ⟨x3,hx3,ax3,bx3,cx3,hs0_⟩:=bE (f:=(eI .u64)) Jd (fun _=>rfl) (by decide) hs0_
   obtain ⟨l4,pl4,ql4,el4,hs0_⟩:=bA (k:=1) rfl hs0_
   refine Ydw ax1 bx1 cx1 g2 ax3 bx3 cx3 pl4 ql4 el4 ?_
   refine Zah ⟨24,[],[(1,.ref n 0),(3,.row (n+1) l4.length),(4,(vI s0_.1))]⟩ (Zt O n [some ⟨false,28,3,1,(Ze a0)⟩,some (oR 45 1 (eI .u64) l4),none,none]) (Z8 hU rfl rfl ?_) ?_
   ·exact Yb1 ax1 bx1 cx1 g2 ax3 bx3 cx3 pl4 ql4 el4
   refine zR ?_
   exact zEn hs0_
  replace hs0_:=Zm c5 hs0_
  exact zEx hs0_
 try simp only [Y0,Ym,↓reduceIte,Nat.reduceEqDiff]
 refine zD [3] [false,true,false] ?_
 refine zQ [2] ?_
 refine zW ?_
 have h:=Option.some.inj h;subst h
 refine Zi (.inr rfl) hU [.row (n+1) z6.length] (by omega) ?_
 simp only [push_cast,seval,↓reduceIte,Zb,Tryz.results44,hN0,hN]
theorem Ztb {a0:Int} {a1:(List Int)} {r:((List Int)×Bool)} {O:Objs} {n:Nat} (h:Zbo a0 a1=some r):GTo Tryz.prog 43 [(vI a0),(sL (eI .u64) a1)] O n (.tup [(sL (eI .u64) r.1),(vB r.2)]) O n:=by
 unfold Zbo at h
 refine Yj Zo Tryz.call43 Tryz.func43 rfl (Nat.le_of_ble_eq_true rfl) (Nat.le_refl _) fun hU => ?_
 have hN0:O n=none:=hU.fresh _ (Nat.le_refl _)
 have hN:∀ k,O (n+k)=none:=fun k=>hU.fresh _ (Nat.le_add_right _ _)
 show W _ _ _ _ ⟨62,[],[(0,(vI a0)),(1,(sL (eI .u64) a1))]⟩ (Zt O n []) _
 refine zQ [0,1] ?_
 refine Zd ?_
 obtain ⟨y2,hy2,h⟩:=bC h
 refine zCd (U8 hy2) [0,1,6] [] ?_
 refine Zd ?_
 refine zQ [0,1,6,14] ?_
 refine Zj (t:=(decide (y2 < 0))) rfl (fun c21 => ?_) (fun c21 => ?_)
 ·replace h:=Zn c21 h
  refine zQ [4,5] ?_
  refine zW ?_
  have h:=Option.some.inj h;subst h
  refine Zi (.inr rfl) hU [nV,(vB false)] (by omega) ?_
  simp only [push_cast,seval,↓reduceIte,Zb,Tryz.results43,hN0,hN]
 replace h:=Zm c21 h
 refine Xs [0,1,6] [] ?_
 refine Zd ?_
 obtain ⟨y5,hy5,h⟩:=bC h
 obtain ⟨l6,al6,bl6,cl6,el6,h⟩:=bM2 (c:=8) rfl h
 have nl6:Int.toNat y5=List.length l6:=by rw [el6,List.length_replicate]
 have fl6:(List.replicate (List.length l6) [.val (.int .u64 0)]).flatten=fl (eI .u64) l6:=by rw [← nl6,el6];exact (Zm5 (f:=(eI .u64)) _ _).symm
 clear el6
 refine Z5 Zo [] ?_
 simp only [push_cast,seval,↓reduceIte,Zb,al6,bl6,cl6,fl6,nl6,hN0,hN]
 refine (Zjy hy5).then ?_
 simp only [push_cast,seval,↓reduceIte,Zb,al6,bl6,cl6,fl6,nl6,hN0,hN]
 refine Zah ⟨62,[],[(0,(vI a0)),(1,(sL (eI .u64) a1)),(6,(vI y2)),(7,.row n l6.length)]⟩ (Zt O n [some (oR 45 1 (eI .u64) l6)]) (Z8 hU rfl rfl ?_) ?_
 ·simp only [push_cast,seval,↓reduceIte,Zb,al6,bl6,cl6,fl6,nl6,hN0,hN]
 refine Zd ?_
 refine zQd [0,1,6,7,8] [0,1,6,7,8] [true] ?_
 obtain ⟨z20,hz20,h⟩:=bC h
 refine Zgb (J:=(Kf (fun z20=>JR n (⟨62,[],[(4,nV),(5,(vB false))]⟩:Env) (Zt O n [none]) (n+1)) (fun z20=>JX 0 n (⟨62,[],[(7,.row n z20.length)]⟩:Env) (Zt O n [some (oR 45 1 (eI .u64) z20)]) (n+1)))) (z:=z20) ?_ fun hw => ?_
 ·refine Y2 hz20 (fun s0_=>⟨62,[],[(0,(vI a0)),(1,(sL (eI .u64) a1)),(6,(vI y2)),(7,.row n s0_.2.length),(8,(vI s0_.1))]⟩) (fun s0_=>(Zt O n [some (oR 45 1 (eI .u64) s0_.2)])) (Kf (fun z20=>JR n (⟨62,[],[(4,nV),(5,(vB false))]⟩:Env) (Zt O n [none]) (n+1)) (fun z20=>JX 0 n (⟨62,[],[(7,.row n z20.length)]⟩:Env) (Zt O n [some (oR 45 1 (eI .u64) z20)]) (n+1))) ?_
  intro s0_ x0_ hs0_
  unfold Xe at hs0_
  try dsimp only
  refine Zd ?_
  refine zQ [0,1,6,7,8,23] ?_
  refine Zj (t:=(decide (s0_.1 < (a1.length:Int)))) rfl (fun c19 => ?_) (fun c19 => ?_)
  ·replace hs0_:=Zn c19 hs0_
   refine Xs [0,1,6,7,8] [true] ?_
   obtain ⟨z7,hz7,hs0_⟩:=bC hs0_
   refine Z5j (J:=(Kf (fun z7=>JN n (⟨62,[],[(0,(vI a0)),(1,(sL (eI .u64) a1)),(6,(vI y2)),(7,.row n z7.length),(8,(vI s0_.1))]⟩:Env) (Zt O n [some (oR 45 1 (eI .u64) z7)]) (n+1)) (fun z7=>JR n (⟨62,[],[(4,nV),(5,(vB false))]⟩:Env) (Zt O n [none]) (n+1)))) (z:=z7) ?_ fun hw => ?_
   ·refine Yh ?_
    obtain ⟨x9,hx9,ax9,bx9,cx9,hz7⟩:=bE (f:=(eI .u64)) Jd (fun _=>rfl) (by decide) hz7
    refine Zb4 [0,1,6,7,8,9] (Z5 Zo [] ?_)
    refine zF3 ax9 bx9 cx9 ?_
    refine Zd ?_
    refine Zd ?_
    obtain ⟨y11,hy11,hz7⟩:=bC hz7
    refine zCd (Zep hy11) [0,1,6,7,8,9,33] [true] ?_
    refine Zj (t:=(!y11)) rfl (fun c18 => ?_) (fun c18 => ?_)
    ·replace hz7:=Zn c18 hz7
     refine zQ [4,5] ?_
     refine zW ?_
     exact zEn hz7
    replace hz7:=Zm c18 hz7
    refine Xs [0,1,6,7,8,9] [true] ?_
    refine Zd ?_
    refine zQd [0,1,6,7,8,9,10] [0,1,6,7,8,9,10] [true] ?_
    obtain ⟨z13,hz13,hz7⟩:=bC hz7
    refine Yv (E':=⟨62,[],[(0,(vI a0)),(1,(sL (eI .u64) a1)),(6,(vI y2)),(7,.row n s0_.2.length),(8,(vI s0_.1)),(9,.val (.int .u64 z13))]⟩) (O':=(Zt O n [some (oR 45 1 (eI .u64) s0_.2)])) (n0:=(n+1)) ?_ ?_
    ·refine Y2 hz13 (fun s1_=>⟨62,[],[(0,(vI a0)),(1,(sL (eI .u64) a1)),(6,(vI y2)),(7,.row n s0_.2.length),(8,(vI s0_.1)),(9,.val (.int .u64 s1_.1)),(10,(vI s1_.2))]⟩) (fun s1_=>(Zt O n [some (oR 45 1 (eI .u64) s0_.2)])) (fun z13=>JX 2 n (⟨62,[],[(0,(vI a0)),(1,(sL (eI .u64) a1)),(6,(vI y2)),(7,.row n s0_.2.length),(8,(vI s0_.1)),(9,.val (.int .u64 z13))]⟩:Env) (Zt O n [some (oR 45 1 (eI .u64) s0_.2)]) (n+1)) ?_
     intro s1_ x1_ hs1_
     unfold Zbc at hs1_
     try dsimp only
     refine Zd ?_
     refine zQ [0,1,6,7,8,9,10,39] ?_
     refine Zj (t:=(decide (s1_.2 < (Int.tmod (IntKind.i64.wrap (s0_.1 * y2)) 64)))) rfl (fun c12 => ?_) (fun c12 => ?_)
     ·replace hs1_:=Zn c12 hs1_
      refine Xs [0,1,6,7,8,9,10] [true] ?_
      refine Zd ?_
      refine Yh ?_
      refine zRd [0,1,6,7,8,9,10] [true] ?_
      refine zR ?_
      exact zEn hs1_
     replace hs1_:=Zm c12 hs1_
     exact zEx hs1_
    try simp only [Y0,Ym,↓reduceIte,Nat.reduceEqDiff]
    refine zD [0,1,6,7,8,9] [true] ?_
    refine zQ [0,1,6,7,8,9,45] ?_
    refine Zj (t:=(decide (0 < y2))) rfl (fun c17 => ?_) (fun c17 => ?_)
    ·replace hz7:=Zn c17 hz7
     obtain ⟨x14,hx14,ax14,bx14,cx14,hz7⟩:=bE (f:=(eI .u64)) Jd (fun _=>rfl) (by decide) hz7
     have gu16:Vs (fl (eI .u64) s0_.2) [.val (.int .u64 (IntKind.u64.wrap (x14+z13)))] (Int.toNat (IntKind.i64.wrap (Int.tdiv (IntKind.i64.wrap (s0_.1 * y2)) 64)) * 1)=some (fl (eI .u64) (Kc s0_.2 (IntKind.i64.wrap (Int.tdiv (IntKind.i64.wrap (s0_.1 * y2)) 64)) (IntKind.u64.wrap (x14+z13)))):=Zcs (f:=(eI .u64)) (ti:=⟨.bool,1,0,[],false⟩) (x:=(IntKind.u64.wrap (x14+z13))) (fun _=>rfl) (Zat hx14)
     refine Zo4 [] ax14 bx14 cx14 gu16 ?_
     exact Z31 hz7 ax14 bx14 cx14 gu16
    replace hz7:=Zm c17 hz7
    refine zK ?_
    exact zEn hz7
   rcases z7 with z7 | z7
   ·dsimp only [Kf] at hw hs0_
    refine Y8 hw ?_
    refine zR ?_
    exact zEn hs0_
   dsimp only [Kf] at hw hs0_
   refine Z0i hw ?_
   try simp only [Y0,Ym]
   exact zEy hs0_
  replace hs0_:=Zm c19 hs0_
  exact zEx hs0_
 rcases z20 with z20 | z20
 ·dsimp only [Kf] at hw h
  refine Zbf hw ?_
  try simp only [Y0,Ym,↓reduceIte,Nat.reduceEqDiff]
  have h:=Option.some.inj h;subst h
  refine Zi (.inr rfl) hU [nV,(vB false)] (by omega) ?_
  simp only [push_cast,seval,↓reduceIte,Zb,Tryz.results43,hN0,hN]
 dsimp only [Kf] at hw h
 refine Yv hw ?_
 try simp only [Y0,Ym,↓reduceIte,Nat.reduceEqDiff]
 refine zD [7] [true] ?_
 refine zQ [4,5] ?_
 refine zW ?_
 have h:=Option.some.inj h;subst h
 refine Zi (.inr rfl) hU [.row n z20.length,(vB true)] (by omega) ?_
 simp only [push_cast,seval,↓reduceIte,Zb,Tryz.results43,hN0,hN]
end Go.Proofs.YtpfbdlcnfekdkaaGreat
