/- Part DM1 of this seat's mirrors: functions of the seat's program, and the plain functions that they are; each theorem bears its own conditions. -/
import Derived.Test.YtpfbdlcnfekdkaaGreatDE
namespace Go.Proofs.YtpfbdlcnfekdkaaGreat
open Go.RowKit
set_option linter.unusedVariables false
set_option linter.unusedSimpArgs false
set_option maxRecDepth 100000
set_option maxHeartbeats 4000000
attribute [local push_cast] vI vB nV sL oR Yd Ze Zv Yq Zp Zpk Zpj Zp3 Zp2 Y0 Ym Zlm Zgm Zgl onW X6 Zeb Zdw Zrz Zob Zi9 Zjd Zi8 Zjc Zmk Zmf Zjb Zmj Zmi Zmh Zja Zmd Zha evS wok Je Op.operands Call.operands gop onK onP atK List.all_cons List.all_nil Bool.and_true Bool.true_and Bool.and_self Value.oneCell' List.take_zero List.take_succ_cons List.take_nil List.drop_zero List.drop_succ_cons List.drop_nil List.append_nil Nat.add_zero Nat.zero_add Gs Yr ev Jn Zr7 Zpd Zpc Zpi Zpg Zph Zpe Zpf Zpb Zsz Zt1 Zw0 Zjr Zde Zjq Zd3 Ziy Zgo Zet Zey Zgi Zge Zew Zgh Zgg Zgf Zev Zgc Zeu Zex Zdu Zgd Zm7 Zgn Za3 Zik Za4 Zkw Zjp Zv1 bLo bHi bMx Zdf Zkv Zx9 Zjn Zll Zfp Gb Zs0 Zya Zij Zfo Zyc Zdd Z0v Zlr Zlv Zlq Zlu Zpu Zpq Zpo Ziz Zls Zpt Zps Zpr Zlt Zpp Zln Zr8 Zma Zg7 Zg6 pop TK.isAgg Zpx Zp1 Zpw Zp0 Zl3 Zui Zue Zpz Zuh Zug Zuf Zpy Zud G.under G.unders List.getD_cons_zero List.getD_cons_succ List.set_cons_zero List.set_cons_succ List.map_cons List.map_nil List.toList_toArray Array.toList_append Option.toArray_none Option.toArray_some Array.toList_map Option.map_some Option.map_none Option.bind_some Option.bind_none List.getElem?_cons_zero List.getElem?_cons_succ List.getElem?_nil List.nil_append List.cons_append List.replicate_succ List.replicate_zero List.length_cons List.length_nil and_true true_and and_false false_and Bool.true_eq_false Bool.false_eq_true forall_const false_implies implies_true IntKind.bits if_true if_false ite_true ite_false eq_self true_implies false_or or_false or_true true_or not_true_eq_false not_false_eq_true decide_true decide_false decide_eq_true_eq decide_eq_false_iff_not beq_iff_eq bne_iff_ne ne_eq Bool.not_eq_true Bool.not_eq_false beq_eq_false_iff_ne bne_eq_false_iff_eq beq_self_eq_true bne_self_eq_false Option.some.injEq exists_eq_left' exists_eq_left ge_iff_le gt_iff_lt decide_not Bool.not_true Bool.not_false imp_self Zt4 cond_true cond_false Z6w Z6v Bool.not_not Bool.and_false Bool.false_and Bool.or_true Bool.true_or Bool.or_false Bool.false_or Zbe Zfh Zb3 Zap J4 Qh Option.join_some Nat.add_assoc Int.toNat_natCast eI eB eS eL Q8 Zgk Ze1 Zpn Zpl Zpm Z1g Z29 Zg3 Ze7 Zp9 Zp7 Zp8 Zxj Zn2 Zvo Znw Zv0 Zcr Zr5 List.length_append G.agg.injEq G.row.injEq G.ref.injEq G.val.injEq G.sl.injEq G.tup.injEq Value.int.injEq Value.bool.injEq Value.string.injEq List.cons.injEq exists_and_left exists_const List.flatten_cons List.flatten_nil Int.le_refl Nat.le_refl Zcq Qg Vv Bool.not_eq_true' Bool.not_eq_false' Zrl Zh5 Zvf Zvj Zve Zvi Z0h Z0c List.size_toArray Zsl Zr3 G.ren G.rens Zuk Zg8 Zqg Zo9 Zpa Zme Zvk Zgz G.fn.injEq Zkd Zm1 Zrk Z0d Zm0 Zvh Z0g Z0f Z0e Zvg Zt7 Zyz Option.join_none Y5 Zad undef Zlo Arr.len Arr.put_eq Zg2 Zi1 Zg1 Ze6 Zp6 Zp4 Zp5 onB Z1f Zsy Ke Zdv Zk5 Zk6 Zk7 Zk8 Zk9 Zla Zi0 Zi4 Zi2 Zg5 Ze8 Zi3 Zl9 Zl8 Zl7 Zl6 Z28 Z4x Zxi Zv8 Vb Zxa Zse Zi5 Zg4 Zyl Zr4 Zjj Zlk Zek Zj6 Zlb Zlc Zld Zle Zip Ziq Zir Zis Zit Ziu Ziv Zf7 prT Zec Z7r Zu5 Z1v Zu6 Z7s Zu7 Z7t Zu8 Z7u Zu9 Z7v Zva Z7w Zvb Z7x Zvc Zza Zqk Zzb Zql Zzc Zqm Zzd Zqn Zze Zqo Zzf Zqp Zzg Zqq Zzh Zqr Zzi Zqs Zzj Zqt Zzk Zqu Zc9 Zda Zzl Zqv Zzm Zqw Zny Zks Zzn Zqx K0 Zqy Zzo Zqz Zzp Zq0 Zzq Znp Jd Zq1 Zzr Zq2 Zzs Zq3 Zzt Zq4 Zzu Zq5 Zzv Zq6 Zzw Zq7 Zzx Zq8 Zzy Zq9 Zzz Zra Zz0 Zrb Zz1 Zrc Zz2 Zrd Zz3 Zre Zz4 Zrf Zz5 Zrg Zz6 Zrh Zz7 Zri Zz8 Zrj Zup Zml Zuq Zmm Zur Zmn Zus Zmo Zut Zmp Zuu Zmq Zuv Zmr Zuw Zms Zux Zmt Zuy Zmu Zuz Zmv Zu0 Zmw Zu1 Zmx Zu2 Zmy Zu3 Zmz J7 Zhg Zhe Zgq Zgy Zhi Zff Zfc Zfa Zhc Zc0 Zcz Zct Zcw Zc1 Zbz Zbx Zbw Zcy Zq Vo Vn Ve Vk Vp K1 Kz Ky Vl Ze0 Zhf Zhd Zgp Zgx Zhh Zfe Zfb Ze9 Zhb Zez Zbi Z7 J0 Jz Jw Jx J3 Jk Jj Ji Jy Z4 Zf Jf Gl Gk Gd Gf Gm Uu Us Ur Gj Q3 Q2 Qz Q0 Q4 Qk Qj Qi Q1 Zak V0 V1
theorem Zrp {a0:Z0} {r:Z0} {O:Objs} {n:Nat} (h:Gv a0=some r):GTo Tryz.prog 4 [.agg (Yd a0)] O n (.agg (Yd r)) O n:=by
 unfold Gv at h
 refine Yj Zo Tryz.call4 Tryz.func4 rfl (Nat.le_of_ble_eq_true rfl) (Nat.le_refl _) fun hU => ?_
 have hN0:O n=none:=hU.fresh _ (Nat.le_refl _)
 have hN:∀ k,O (n+k)=none:=fun k=>hU.fresh _ (Nat.le_add_right _ _)
 show W _ _ _ _ ⟨8,[],[(0,.agg (Yd a0))]⟩ (Zt O n []) _
 refine zQ [1,2] ?_
 obtain ⟨z1,hz1,h⟩:=bC h
 refine Y8 (E':=⟨8,[],[(1,.ref n 0),(2,.ref (n+1) 0)]⟩) (O':=(Zt O n [some ⟨false,24,4,1,[(vI a0.Depth),(vI z1),(vI a0.MaxD),(vI a0.MaxOut)]⟩,some ⟨false,24,4,1,[(vI 0),(vI 0),(vI 0),(vI 0)]⟩])) (n0:=(n+2)) ?_ ?_
 ·refine zQ [1,2,5] ?_
  refine Zj (t:=(decide (3000 < a0.Weight))) rfl (fun c2 => ?_) (fun c2 => ?_)
  ·replace hz1:=Zn c2 hz1
   refine zR ?_
   exact zEn hz1
  replace hz1:=Zm c2 hz1
  refine zK ?_
  exact zEn hz1
 refine Zd ?_
 refine zRd [2] [false,true] ?_
 refine zW ?_
 have h:=Option.some.inj h;subst h
 refine Zi (.inr rfl) hU [.agg [(vI a0.Depth),(vI z1),(vI a0.MaxD),(vI a0.MaxOut)]] (by omega) ?_
 simp only [push_cast,seval,↓reduceIte,Zb,Tryz.results4,hN0,hN]
theorem Zb0 {a0 r:List Int} {O:Objs} {n:Nat} (h:Xr a0=some r):GTo Tryz.prog 51 [(sL (eI .u64) a0)] O n (.row n r.length) (Zt O n [some (oR 45 1 (eI .u64) r)]) (n+1):=by
 have h1:=Z39 h
 have h2:=Z4a h
 have h3:=Z0k h
 rw [List.nil_append] at h3
 subst h3
 simp only [List.length_nil,Nat.zero_add] at h1 h2
 clear h
 refine Yj Zo Tryz.call51 Tryz.func51 rfl (Nat.le_of_ble_eq_true rfl) (by omega) fun hU => ?_
 have hN0:O n=none:=hU.fresh _ (Nat.le_refl _)
 have hN:∀ k,O (n+k)=none:=fun k=>hU.fresh _ (Nat.le_add_right _ _)
 show W _ _ _ _ ⟨8,[],[(0,(sL (eI .u64) r))]⟩ (Zt O n []) _
 refine zQ [0] ?_
 refine Yb2 0 r.length (fl (eI .u64) r) rfl (Nat.le_of_ble_eq_true rfl) (Y4 Uq _) fun A c hA => ?_
 refine zQ [0,4] ?_
 cases A with
 | none =>
  obtain rfl:r=[]:=List.eq_nil_of_length_eq_zero (hA rfl)
  refine Zj (t:=true) rfl (fun _ => ?_) (fun hc=>by cases hc)
  refine zQ [2] ?_
  refine zW ?_
  refine Zjk (k:=1) (L3:=[some ⟨true,45,1,0,[]⟩]) (E2:=⟨8,[],[(2,.row n 0),(2,nV)]⟩) (n3:=(n+1)) (.inr rfl) hU rfl [.row n 0] ?_ ?_
  ·have ha:=Zo6 (ba:=n) (E:=⟨8,[],[(2,.val (.slice none 0 0))]⟩) (O:=(Zt O n [])) (n:=n) 2 45 1 rfl (by omega)
   simp only [Qh] at ha
   exact ha
  simp only [push_cast,seval,↓reduceIte,Zb,Tryz.results51,hN0,hN]
 | some A =>
  refine Zj (t:=false) rfl (fun hc=>by cases hc) (fun _ => ?_)
  refine zK ?_
  refine And.intro rfl (And.intro (Nat.le_of_ble_eq_true rfl) ?_)
  refine Zd ?_
  refine Z5 Zo [] ?_
  simp only [push_cast,seval,↓reduceIte,Zb,h1,h2,hN0,hN]
  refine zW ?_
  refine Z8n (.inr rfl) hU rfl [.row n r.length] (by omega) ?_
  simp only [push_cast,seval,↓reduceIte,Zb,Tryz.results51,hN0,hN]
theorem Zgw {a0 r:List Int} {O:Objs} {n:Nat} (h:Xr a0=some r):GTo Tryz.prog 51 [(sL (eI .u64) a0)] O n ((sL (eI .u64) r)) O n:=by
 refine GTo.freeze (Zb0 h) fun hU => ?_
 have hN0:O n=none:=hU.fresh _ (Nat.le_refl _)
 have hN:∀ k,O (n+k)=none:=fun k=>hU.fresh _ (Nat.le_add_right _ _)
 exact zSe
theorem Zxb {a0:(List (List Int))} {r:(List (List Int))} {O:Objs} {n:Nat} (h:Zef a0=some r):GTo Tryz.prog 27 [(sL (eL (eI .u64)) a0)] O n ((sL (eL (eI .u64)) r)) O n:=by
 unfold Zef at h
 refine Yj Zo Tryz.call27 Tryz.func27 rfl (Nat.le_of_ble_eq_true rfl) (Nat.le_refl _) fun hU => ?_
 have hN0:O n=none:=hU.fresh _ (Nat.le_refl _)
 have hN:∀ k,O (n+k)=none:=fun k=>hU.fresh _ (Nat.le_add_right _ _)
 show W _ _ _ _ ⟨23,[],[(0,(sL (eL (eI .u64)) a0))]⟩ (Zt O n []) _
 refine zQ [0] ?_
 refine Zd ?_
 obtain ⟨l2,al2,bl2,cl2,el2,h⟩:=bM2 (c:=24) rfl h
 have nl2:Int.toNat (a0.length:Int)=List.length l2:=by rw [el2,List.length_replicate]
 have fl2:∀ O O' n,wkl O O' n (List.replicate (List.length l2) [G.val (.slice none 0 0)]).flatten (fl (eL (eI .u64)) l2)=True:=fun O O' n=>by rw [← nl2,el2];exact eq_true (Z3x _ _)
 clear el2
 refine Z5 Zo [] ?_
 simp only [push_cast,seval,↓reduceIte,Zb,al2,bl2,cl2,fl2,nl2,hN0,hN]
 refine Zah ⟨23,[],[(0,(sL (eL (eI .u64)) a0)),(3,.row n l2.length)]⟩ (Zt O n [some (oR 22 1 (eL (eI .u64)) l2)]) (Z8 hU rfl rfl ?_) ?_
 ·simp only [push_cast,seval,↓reduceIte,Zb,al2,bl2,cl2,fl2,nl2,hN0,hN]
 refine Zd ?_
 refine zQd [3,9,10,11] [3,9,10,11] [true] ?_
 obtain ⟨z9,hz9,h⟩:=bC h
 refine Yv (E':=⟨23,[],[(3,.row n z9.length)]⟩) (O':=(Zt O n [some (oR 22 1 (eL (eI .u64)) z9)])) (n0:=(n+1)) ?_ ?_
 ·refine Y2 hz9 (fun s0_=>⟨23,[],[(3,.row n s0_.2.length),(9,(sL (eL (eI .u64)) a0)),(10,(vI (a0.length:Int))),(11,(vI s0_.1))]⟩) (fun s0_=>(Zt O n [some (oR 22 1 (eL (eI .u64)) s0_.2)])) (fun z9=>JX 0 n (⟨23,[],[(3,.row n z9.length)]⟩:Env) (Zt O n [some (oR 22 1 (eL (eI .u64)) z9)]) (n+1)) ?_
  intro s0_ x0_ hs0_
  unfold Ge at hs0_
  try dsimp only
  refine zQ [3,9,10,11,12] ?_
  refine Zd ?_
  refine Zj (t:=(decide (s0_.1 < (a0.length:Int)))) rfl (fun c8 => ?_) (fun c8 => ?_)
  ·replace hs0_:=Zn c8 hs0_
   refine Xs [3,9,10,11] [true] ?_
   refine Zd ?_
   refine Yh ?_
   obtain ⟨x4,hx4,ax4,bx4,cx4,hs0_⟩:=bE (f:=(eL (eI .u64))) Zc9 (fun _=>rfl) (by decide) hs0_
   refine Zb4 [3,4,5,9,10,11] (Z5 Zo [] ?_)
   refine zF3 ax4 bx4 cx4 ?_
   obtain ⟨y5,hy5,hs0_⟩:=bC hs0_
   obtain ⟨x6,hx6,ax6,bx6,cx6,hs0_⟩:=bE (f:=(eL (eI .u64))) Zc9 (fun _=>rfl) (by decide) hs0_
   have gu7:Vs (fl (eL (eI .u64)) s0_.2) [.sl y5.length (fl (eI .u64) y5)] (Int.toNat s0_.1 * 1)=some (fl (eL (eI .u64)) (Kc s0_.2 s0_.1 y5)):=Zcs (f:=(eL (eI .u64))) (ti:=⟨.bool,1,0,[],false⟩) (x:=y5) (fun _=>rfl) (Zat hx6)
   refine Zo4 [] ax6 bx6 cx6 gu7 ?_
   refine (Zgw hy5).then ?_
   refine zF4 ax6 bx6 cx6 gu7 ?_
   refine zD [3,9,10,11] [true] ?_
   refine zR ?_
   exact zEn hs0_
  replace hs0_:=Zm c8 hs0_
  exact zEx hs0_
 try simp only [Y0,Ym,↓reduceIte,Nat.reduceEqDiff]
 refine zD [3] [true] ?_
 refine zQ [2] ?_
 refine zW ?_
 have h:=Option.some.inj h;subst h
 refine Zi (.inr rfl) hU [.row n z9.length] (by omega) ?_
 simp only [push_cast,seval,↓reduceIte,Zb,Tryz.results27,hN0,hN]
theorem Zom {a0:(List (List Int))} {r:(Option Zl)} {O:Objs} {n:Nat} (h:Zju a0=some r):GTo Tryz.prog 13 [(sL (eL (eI .u64)) a0)] O n ((gP Zq r)) O n:=by
 unfold Zju at h
 refine Yj Zo Tryz.call13 Tryz.func13 rfl (Nat.le_of_ble_eq_true rfl) (Nat.le_refl _) fun hU => ?_
 have hN0:O n=none:=hU.fresh _ (Nat.le_refl _)
 have hN:∀ k,O (n+k)=none:=fun k=>hU.fresh _ (Nat.le_add_right _ _)
 show W _ _ _ _ ⟨7,[],[(0,(sL (eL (eI .u64)) a0))]⟩ (Zt O n []) _
 refine zQ [0] ?_
 refine Zd ?_
 obtain ⟨y2,hy2,h⟩:=bC h
 refine zCd (Zxb hy2) [2] [true] ?_
 refine zW ?_
 have h:=Option.some.inj h;subst h
 refine Zi (.inr rfl) hU [.ref n 0] (by omega) ?_
 simp only [push_cast,seval,↓reduceIte,Zb,Tryz.results13,hN0,hN]
theorem Zdy {a0:Int} {a1:Int} {r:Int} {O:Objs} {n:Nat} (h:Zam a0 a1=some r):GTo Tryz.prog 64 [(vI a0),(vI a1)] O n ((vI r)) O n:=by
 unfold Zam at h
 refine Yj Zo Tryz.call64 Tryz.func64 rfl (Nat.le_of_ble_eq_true rfl) (Nat.le_refl _) fun hU => ?_
 have hN0:O n=none:=hU.fresh _ (Nat.le_refl _)
 have hN:∀ k,O (n+k)=none:=fun k=>hU.fresh _ (Nat.le_add_right _ _)
 show W _ _ _ _ ⟨9,[],[(0,(vI a0)),(1,(vI a1))]⟩ (Zt O n []) _
 refine zQ [0,1] ?_
 refine zQ [4] ?_
 refine zW ?_
 have h:=Option.some.inj h;subst h
 refine Zi (.inr rfl) hU [(vI (if a1 < (if a0 < 0 then 0 else a0) then a1 else (if a0 < 0 then 0 else a0)))] (by omega) ?_
 simp only [push_cast,seval,↓reduceIte,Zb,Tryz.results64,hN0,hN]
theorem Zv7 {a0:Z0} {r:Z0} {O:Objs} {n:Nat} (h:Zfx a0=some r):GTo Tryz.prog 45 [.agg (Yd a0)] O n (.agg (Yd r)) O n:=by
 unfold Zfx at h
 refine Yj Zo Tryz.call45 Tryz.func45 rfl (Nat.le_of_ble_eq_true rfl) (Nat.le_refl _) fun hU => ?_
 have hN0:O n=none:=hU.fresh _ (Nat.le_refl _)
 have hN:∀ k,O (n+k)=none:=fun k=>hU.fresh _ (Nat.le_add_right _ _)
 show W _ _ _ _ ⟨16,[],[(0,.agg (Yd a0))]⟩ (Zt O n []) _
 refine zQ [1,2] ?_
 refine Zd ?_
 obtain ⟨y5,hy5,h⟩:=bC h
 obtain ⟨y6,hy6,h⟩:=bC h
 obtain ⟨y7,hy7,h⟩:=bC h
 obtain ⟨y8,hy8,h⟩:=bC h
 refine Zc4 Zo (by kernel_rfl) [false,false,false,false,false,false,false,false,false,false,false,false,false,true] [] (by kernel_rfl) ?_
 refine zS ?_
 refine PCall.of (Zdy hy5) ?_
 refine zS ?_
 refine PCall.of (Zdy hy6) ?_
 refine zS ?_
 refine PCall.of (Zdy hy7) ?_
 refine zS ?_
 refine PCall.of (Zdy hy8) ?_
 refine zS ?_
 refine zD [2] [false,true] ?_
 refine zW ?_
 have h:=Option.some.inj h;subst h
 refine Zi (.inr rfl) hU [.agg [(vI y5),(vI y6),(vI y7),(vI y8)]] (by omega) ?_
 simp only [push_cast,seval,↓reduceIte,Zb,Tryz.results45,hN0,hN]
theorem Zsf {a0:(Option Zl)} {r:Int} {O:Objs} {n:Nat} (h:Zc6 a0=some r):GTo Tryz.prog 111 [(gP Zq a0)] O n ((vI r)) O n:=by
 unfold Zc6 at h
 refine Yj Zo Tryz.call111 Tryz.func111 rfl (Nat.le_of_ble_eq_true rfl) (Nat.le_refl _) fun hU => ?_
 have hN0:O n=none:=hU.fresh _ (Nat.le_refl _)
 have hN:∀ k,O (n+k)=none:=fun k=>hU.fresh _ (Nat.le_add_right _ _)
 show W _ _ _ _ ⟨10,[],[(0,(gP Zq a0))]⟩ (Zt O n []) _
 refine zQ [0] ?_
 refine Zd ?_
 have g2:=Z2k (f:=Zq) (t:=43) Znp a0
 refine Yfd [0,4] g2 ?_
 refine Zj (t:=(Option.isNone a0)) rfl (fun c5 => ?_) (fun c5 => ?_)
 ·replace h:=Zn c5 h
  refine zQ [2] ?_
  refine zW ?_
  have h:=Option.some.inj h;subst h
  refine Zi (.inr rfl) hU [(vI 0)] (by omega) ?_
  simp only [push_cast,seval,↓reduceIte,Zb,Tryz.results111,hN0,hN]
 replace h:=Zm c5 h
 refine Xs [0] [] ?_
 obtain ⟨x4,hx4,h⟩:=bC h
 refine Zb4 [2] (Z5 Zo [] ?_)
 simp only [push_cast,seval,↓reduceIte,Zb,hx4,hN0,hN]
 refine zW ?_
 have h:=Option.some.inj h;subst h
 refine Zi (.inr rfl) hU [(vI (x4.segments.length:Int))] (by omega) ?_
 simp only [push_cast,seval,↓reduceIte,Zb,Tryz.results111,hN0,hN]
theorem Kw {a0:(Option Zl)} {a1:Int} {r:Bool} {O:Objs} {n:Nat} (h:Vf a0 a1=some r):GTo Tryz.prog 109 [(gP Zq a0),(vI a1)] O n ((vB r)) O n:=by
 unfold Vf at h
 refine Yj Zo Tryz.call109 Tryz.func109 rfl (Nat.le_of_ble_eq_true rfl) (Nat.le_refl _) fun hU => ?_
 have hN0:O n=none:=hU.fresh _ (Nat.le_refl _)
 have hN:∀ k,O (n+k)=none:=fun k=>hU.fresh _ (Nat.le_add_right _ _)
 show W _ _ _ _ ⟨13,[],[(0,(gP Zq a0)),(1,(vI a1))]⟩ (Zt O n []) _
 refine zQ [0,1] ?_
 obtain ⟨z2,hz2,h⟩:=bC h
 refine Y8 (E':=⟨13,[],[(4,(vB z2))]⟩) (O':=(Zt O n [])) (n0:=n) ?_ ?_
 ·rcases Bool.eq_false_or_eq_true (decide (0≤a1)) with c5 | c5
  ·replace hz2:=Zn c5 hz2
   obtain ⟨y4,hy4,hz2⟩:=bC hz2
   refine Vc [some true,some true,some true,some true] c5 ?_
   refine (Zsf hy4).then ?_
   refine zX1 c5 ?_
   exact Ki hz2 c5
  replace hz2:=Zm c5 hz2
  refine Vc [some false,some false,some false,some false] c5 ?_
  exact Ki hz2 c5
 refine zW ?_
 have h:=Option.some.inj h;subst h
 refine Zi (.inr rfl) hU [(vB z2)] (by omega) ?_
 simp only [push_cast,seval,↓reduceIte,Zb,Tryz.results109,hN0,hN]
theorem Zd5 {a0:(Option Zl)} {a1:Int} {r:Int} {O:Objs} {n:Nat} (h:V4 a0 a1=some r):GTo Tryz.prog 110 [(gP Zq a0),(vI a1)] O n ((vI r)) O n:=by
 unfold V4 at h
 refine Yj Zo Tryz.call110 Tryz.func110 rfl (Nat.le_of_ble_eq_true rfl) (Nat.le_refl _) fun hU => ?_
 have hN0:O n=none:=hU.fresh _ (Nat.le_refl _)
 have hN:∀ k,O (n+k)=none:=fun k=>hU.fresh _ (Nat.le_add_right _ _)
 show W _ _ _ _ ⟨17,[],[(0,(gP Zq a0)),(1,(vI a1))]⟩ (Zt O n []) _
 refine zQ [0,1] ?_
 refine Zd ?_
 refine Zd ?_
 obtain ⟨y2,hy2,h⟩:=bC h
 refine zCd (Kw hy2) [0,1,8] [] ?_
 refine Zj (t:=(!y2)) rfl (fun c7 => ?_) (fun c7 => ?_)
 ·replace h:=Zn c7 h
  refine zQ [4] ?_
  refine zW ?_
  have h:=Option.some.inj h;subst h
  refine Zi (.inr rfl) hU [(vI 0)] (by omega) ?_
  simp only [push_cast,seval,↓reduceIte,Zb,Tryz.results110,hN0,hN]
 replace h:=Zm c7 h
 refine Xs [0,1] [] ?_
 obtain ⟨x5,hx5,h⟩:=bC h
 obtain ⟨x6,hx6,ax6,bx6,cx6,h⟩:=bE (f:=(eL (eI .u64))) Zc9 (fun _=>rfl) (by decide) h
 refine Zb4 [4] (Z5 Zo [] ?_)
 refine zF4 hx5 ax6 bx6 cx6 ?_
 refine zW ?_
 have h:=Option.some.inj h;subst h
 refine Zi (.inr rfl) hU [(vI (x6.length:Int))] (by omega) ?_
 simp only [push_cast,seval,↓reduceIte,Zb,Tryz.results110,hN0,hN]
theorem Zeo {a0:(Option Zl)} {a1:Int} {a2:Int} {a3:Int} {r:Bool} {O:Objs} {n:Nat} (h:K4 a0 a1 a2 a3=some r):GTo Tryz.prog 106 [(gP Zq a0),(vI a1),(vI a2),(vI a3)] O n ((vB r)) O n:=by
 unfold K4 at h
 refine Yj Zo Tryz.call106 Tryz.func106 rfl (Nat.le_of_ble_eq_true rfl) (Nat.le_refl _) fun hU => ?_
 have hN0:O n=none:=hU.fresh _ (Nat.le_refl _)
 have hN:∀ k,O (n+k)=none:=fun k=>hU.fresh _ (Nat.le_add_right _ _)
 show W _ _ _ _ ⟨36,[],[(0,(gP Zq a0)),(1,(vI a1)),(2,(vI a2)),(3,(vI a3))]⟩ (Zt O n []) _
 refine zQ [0,1,2,3] ?_
 obtain ⟨z4,hz4,h⟩:=bC h
 refine Y8 (E':=⟨36,[],[(8,(vB z4))]⟩) (O':=(Zt O n [])) (n0:=n) ?_ ?_
 ·obtain ⟨y8,hy8,hz4⟩:=bC hz4
  rcases Bool.eq_false_or_eq_true y8 with c11 | c11
  ·replace hz4:=Zn c11 hz4
   rcases Bool.eq_false_or_eq_true (decide (0≤a2)) with c12 | c12
   ·replace hz4:=Zn c12 hz4
    try rw [c12] at c11
    rcases Bool.eq_false_or_eq_true (decide (0≤a3)) with c13 | c13
    ·replace hz4:=Zn c13 hz4
     try rw [c13] at c11
     try rw [c13] at c12
     obtain ⟨y9,hy9,hz4⟩:=bC hz4
     rcases Bool.eq_false_or_eq_true (decide (a3≤y9)) with c14 | c14
     ·replace hz4:=Zn c14 hz4
      try rw [c14] at c11
      try rw [c14] at c12
      try rw [c14] at c13
      obtain ⟨y10,hy10,hz4⟩:=bC hz4
      refine Z6o [none,none,none,none,some true,some true,some true,some true,some true,some true,some true,some true,some true,some true,some true,some true] c11 c12 c13 c14 ?_
      refine zG ?_
      refine (Kw hy8).then ?_
      refine zX4 c11 c12 c13 c14 ?_
      refine zG ?_
      refine (Zd5 hy9).then ?_
      refine zX4 c11 c12 c13 c14 ?_
      refine zG ?_
      refine (Zd5 hy10).then ?_
      refine zX4 c11 c12 c13 c14 ?_
      refine zG ?_
      exact Z6n hz4 c11 c12 c13 c14
     replace hz4:=Zm c14 hz4
     try rw [c14] at c11
     try rw [c14] at c12
     try rw [c14] at c13
     refine Z6o [none,none,none,none,some true,some true,some true,some true,some true,some false,some false,some false,some false,some false,some false,some false] c11 c12 c13 c14 ?_
     refine zG ?_
     refine (Kw hy8).then ?_
     refine zX4 c11 c12 c13 c14 ?_
     refine zG ?_
     refine (Zd5 hy9).then ?_
     refine zX4 c11 c12 c13 c14 ?_
     refine zG ?_
     exact Z6n hz4 c11 c12 c13 c14
    replace hz4:=Zm c13 hz4
    try rw [c13] at c11
    try rw [c13] at c12
    refine Zku [none,none,none,none,some false,some false,some false,some false,some false,some false,some false,some false,some false,some false,some false,some false] c11 c12 c13 ?_
    refine zG ?_
    refine (Kw hy8).then ?_
    refine zX3 c11 c12 c13 ?_
    refine zG ?_
    exact Z32 hz4 c11 c12 c13
   replace hz4:=Zm c12 hz4
   try rw [c12] at c11
   refine Q5 [none,none,none,none,some false,some false,some false,some false,some false,some false,some false,some false,some false,some false,some false,some false] c11 c12 ?_
   refine zG ?_
   refine (Kw hy8).then ?_
   refine zX2 c11 c12 ?_
   refine zG ?_
   exact Zn0 hz4 c11 c12
  replace hz4:=Zm c11 hz4
  refine Vc [none,none,none,none,some false,some false,some false,some false,some false,some false,some false,some false,some false,some false,some false,some false] c11 ?_
  refine zG ?_
  refine (Kw hy8).then ?_
  refine zX1 c11 ?_
  refine zG ?_
  exact Ki hz4 c11
 refine zW ?_
 have h:=Option.some.inj h;subst h
 refine Zi (.inr rfl) hU [(vB z4)] (by omega) ?_
 simp only [push_cast,seval,↓reduceIte,Zb,Tryz.results106,hN0,hN]
theorem Zaa {a0:(Option Zl)} {a1:Int} {a2:Int} {r:(Int×Bool)} {O:Objs} {n:Nat} (h:Qu a0 a1 a2=some r):GTo Tryz.prog 95 [(gP Zq a0),(vI a1),(vI a2)] O n (.tup [.val (.int .u64 r.1),(vB r.2)]) O n:=by
 unfold Qu at h
 refine Yj Zo Tryz.call95 Tryz.func95 rfl (Nat.le_of_ble_eq_true rfl) (Nat.le_refl _) fun hU => ?_
 have hN0:O n=none:=hU.fresh _ (Nat.le_refl _)
 have hN:∀ k,O (n+k)=none:=fun k=>hU.fresh _ (Nat.le_add_right _ _)
 show W _ _ _ _ ⟨23,[],[(0,(gP Zq a0)),(1,(vI a1)),(2,(vI a2))]⟩ (Zt O n []) _
 refine zQ [0,1,2] ?_
 refine Zd ?_
 refine Zd ?_
 obtain ⟨y2,hy2,h⟩:=bC h
 refine zCd (Zeo hy2) [0,1,2,12] [] ?_
 refine Zj (t:=(!y2)) rfl (fun c9 => ?_) (fun c9 => ?_)
 ·replace h:=Zn c9 h
  refine zQ [6,7] ?_
  refine zW ?_
  have h:=Option.some.inj h;subst h
  refine Zi (.inr rfl) hU [.val (.int .u64 0),(vB false)] (by omega) ?_
  simp only [push_cast,seval,↓reduceIte,Zb,Tryz.results95,hN0,hN]
 replace h:=Zm c9 h
 refine Xs [0,1,2] [] ?_
 obtain ⟨x6,hx6,h⟩:=bC h
 obtain ⟨x7,hx7,ax7,bx7,cx7,h⟩:=bE (f:=(eL (eI .u64))) Zc9 (fun _=>rfl) (by decide) h
 obtain ⟨x8,hx8,ax8,bx8,cx8,h⟩:=bE (f:=(eI .u64)) Jd (fun _=>rfl) (by decide) h
 refine Zb4 [6,7] (Z5 Zo [] ?_)
 refine zF7 hx6 ax7 bx7 cx7 ax8 bx8 cx8 ?_
 refine zW ?_
 have h:=Option.some.inj h;subst h
 refine Zi (.inr rfl) hU [.val (.int .u64 x8),(vB true)] (by omega) ?_
 simp only [push_cast,seval,↓reduceIte,Zb,Tryz.results95,hN0,hN]
theorem Zr2 {a0:Int} {r:Int} {O:Objs} {n:Nat} (h:Zfw a0=some r):GTo Tryz.prog 102 [.val (.int .u64 a0)] O n ((vI r)) O n:=by
 unfold Zfw at h
 refine Yj Zo Tryz.call102 Tryz.func102 rfl (Nat.le_of_ble_eq_true rfl) (Nat.le_refl _) fun hU => ?_
 have hN0:O n=none:=hU.fresh _ (Nat.le_refl _)
 have hN:∀ k,O (n+k)=none:=fun k=>hU.fresh _ (Nat.le_add_right _ _)
 show W _ _ _ _ ⟨8,[],[(0,.val (.int .u64 a0))]⟩ (Zt O n []) _
 refine zQ [0] ?_
 refine zQ [2] ?_
 refine zW ?_
 have h:=Option.some.inj h;subst h
 refine Zi (.inr rfl) hU [(vI (IntKind.i64.wrap (Int.fdiv (IntKind.i32.wrap (IntKind.u32.wrap a0)) (2 ^ min (Int.toNat 2) 32))))] (by omega) ?_
 simp only [push_cast,seval,↓reduceIte,Zb,Tryz.results102,hN0,hN]
theorem Zdx {a0:Int} {a1:Int} {a2:Int} {r:Int} {O:Objs} {n:Nat} (h:Qo a0 a1 a2=some r):GTo Tryz.prog 103 [.val (.int .u64 a0),(vI a1),(vI a2)] O n ((vI r)) O n:=by
 unfold Qo at h
 refine Yj Zo Tryz.call103 Tryz.func103 rfl (Nat.le_of_ble_eq_true rfl) (Nat.le_refl _) fun hU => ?_
 have hN0:O n=none:=hU.fresh _ (Nat.le_refl _)
 have hN:∀ k,O (n+k)=none:=fun k=>hU.fresh _ (Nat.le_add_right _ _)
 show W _ _ _ _ ⟨15,[],[(0,.val (.int .u64 a0)),(1,(vI a1)),(2,(vI a2))]⟩ (Zt O n []) _
 refine zQ [0,1,2] ?_
 obtain ⟨pu3,h⟩:=bG h
 obtain ⟨pu4,h⟩:=bG h
 refine Zb4 [6] (X1 Zo (by kernel_rfl) [] (by kernel_rfl) ?_)
 simp only [push_cast,seval,↓reduceIte,Zb,pu3,pu4,hN0,hN]
 refine zW ?_
 have h:=Option.some.inj h;subst h
 refine Zi (.inr rfl) hU [(vI (IntKind.i64.wrap (IntKind.u64.wrap (Zdg .u64 (Int.fdiv a0 (2 ^ min (Int.toNat a1) 64)) (IntKind.u64.wrap ((IntKind.u64.wrap (1 * 2 ^ min (Int.toNat a2) 64)) - 1))))))] (by omega) ?_
 simp only [push_cast,seval,↓reduceIte,Zb,Tryz.results103,hN0,hN]
theorem Gc {a0:Int} {r:Zx} {O:Objs} {n:Nat} (h:K7 a0=some r):GTo Tryz.prog 88 [.val (.int .u64 a0)] O n (.agg (Yq r)) O n:=by
 unfold K7 at h
 refine Yj Zo Tryz.call88 Tryz.func88 rfl (Nat.le_of_ble_eq_true rfl) (Nat.le_refl _) fun hU => ?_
 have hN0:O n=none:=hU.fresh _ (Nat.le_refl _)
 have hN:∀ k,O (n+k)=none:=fun k=>hU.fresh _ (Nat.le_add_right _ _)
 show W _ _ _ _ ⟨38,[],[(0,.val (.int .u64 a0))]⟩ (Zt O n []) _
 refine zQ [0,2] ?_
 refine Zd ?_
 refine zQ [0,2,4] ?_
 refine Zj (t:=(a0 == 0)) rfl (fun c20 => ?_) (fun c20 => ?_)
 ·replace h:=Zn c20 h
  refine Zd ?_
  refine zR ?_
  refine Zah ⟨38,[],[(2,.ref n 0)]⟩ (Zt O n [some ⟨false,96,8,1,[(vI 0),(vI 0),(vI 0),(vI 0),(vI 0),(vI 0),(vI 0),(vB false)]⟩]) (Z8 hU rfl rfl ?_) ?_
  ·exact zSe
  refine zW ?_
  have h:=Option.some.inj h;subst h
  refine Zi (.inr rfl) hU [.agg [(vI 0),(vI 0),(vI 0),(vI 0),(vI 0),(vI 0),(vI 0),(vB false)]] (by omega) ?_
  simp only [push_cast,seval,↓reduceIte,Zb,Tryz.results88,hN0,hN]
 replace h:=Zm c20 h
 refine zK ?_
 refine Zah ⟨38,[],[(0,.val (.int .u64 a0)),(2,.ref n 0)]⟩ (Zt O n [some ⟨false,96,8,1,[(vI 0),(vI 0),(vI 0),(vI 0),(vI 0),(vI 0),(vI 0),(vB false)]⟩]) (Z8 hU rfl rfl ?_) ?_
 ·exact zSe
 refine Zd ?_
 refine zQ [0,2,7] ?_
 refine Yh ?_
 refine zQ [0,2,7,8] ?_
 refine Zj (t:=((IntKind.u64.wrap (Zdg .u64 a0 3)) == 0)) rfl (fun c19 => ?_) (fun c19 => ?_)
 ·replace h:=Zn c19 h
  refine Zd ?_
  obtain ⟨y4,hy4,h⟩:=bC h
  obtain ⟨y5,hy5,h⟩:=bC h
  obtain ⟨y6,hy6,h⟩:=bC h
  refine zC (Zr2 hy4) ?_
  refine zTs (Zdx hy5) ?_
  refine zTs (Zdx hy6) ?_
  refine Zah ⟨38,[],[(2,.ref n 0)]⟩ (Zt O n [some ⟨false,96,8,1,[(vI 1),(vI y4),(vI y5),(vI y6),(vI 0),(vI 0),(vI 0),(vB false)]⟩]) (Z8 hU rfl rfl ?_) ?_
  ·exact zSe
  refine zW ?_
  have h:=Option.some.inj h;subst h
  refine Zi (.inr rfl) hU [.agg [(vI 1),(vI y4),(vI y5),(vI y6),(vI 0),(vI 0),(vI 0),(vB false)]] (by omega) ?_
  simp only [push_cast,seval,↓reduceIte,Zb,Tryz.results88,hN0,hN]
 replace h:=Zm c19 h
 refine zQ [0,2,7,17] ?_
 refine Zj (t:=((IntKind.u64.wrap (Zdg .u64 a0 3)) == 1)) rfl (fun c18 => ?_) (fun c18 => ?_)
 ·replace h:=Zn c18 h
  refine Zd ?_
  obtain ⟨y10,hy10,h⟩:=bC h
  obtain ⟨y11,hy11,h⟩:=bC h
  obtain ⟨y12,hy12,h⟩:=bC h
  refine zC (Zr2 hy10) ?_
  refine zTs (Zdx hy11) ?_
  refine zTs (Zdx hy12) ?_
  refine Zah ⟨38,[],[(2,.ref n 0)]⟩ (Zt O n [some ⟨false,96,8,1,[(vI 2),(vI y10),(vI 0),(vI 0),(vI y11),(vI y12),(vI 0),(vB false)]⟩]) (Z8 hU rfl rfl ?_) ?_
  ·exact zSe
  refine zW ?_
  have h:=Option.some.inj h;subst h
  refine Zi (.inr rfl) hU [.agg [(vI 2),(vI y10),(vI 0),(vI 0),(vI y11),(vI y12),(vI 0),(vB false)]] (by omega) ?_
  simp only [push_cast,seval,↓reduceIte,Zb,Tryz.results88,hN0,hN]
 replace h:=Zm c18 h
 refine zQ [0,2,26] ?_
 refine Zj (t:=((IntKind.u64.wrap (Zdg .u64 a0 3)) == 2)) rfl (fun c17 => ?_) (fun c17 => ?_)
 ·replace h:=Zn c17 h
  refine Zd ?_
  obtain ⟨y15,hy15,h⟩:=bC h
  obtain ⟨y16,hy16,h⟩:=bC h
  refine zC (Zdx hy15) ?_
  refine zTs (Zdx hy16) ?_
  refine Zah ⟨38,[],[(2,.ref n 0)]⟩ (Zt O n [some ⟨false,96,8,1,[(vI 3),(vI y15),(vI 0),(vI 0),(vI 0),(vI 0),(vI y16),(vB ((IntKind.u64.wrap (Zdg .u64 (Int.fdiv a0 (2 ^ min (Int.toNat 2) 64)) 1)) == 1))]⟩]) (Z8 hU rfl rfl ?_) ?_
  ·exact zSe
  refine zW ?_
  have h:=Option.some.inj h;subst h
  refine Zi (.inr rfl) hU [.agg [(vI 3),(vI y15),(vI 0),(vI 0),(vI 0),(vI 0),(vI y16),(vB ((IntKind.u64.wrap (Zdg .u64 (Int.fdiv a0 (2 ^ min (Int.toNat 2) 64)) 1)) == 1))]] (by omega) ?_
  simp only [push_cast,seval,↓reduceIte,Zb,Tryz.results88,hN0,hN]
 replace h:=Zm c17 h
 refine zK ?_
 refine Zah ⟨38,[],[(2,.ref n 0)]⟩ (Zt O n [some ⟨false,96,8,1,[(vI 0),(vI 0),(vI 0),(vI 0),(vI 0),(vI 0),(vI 0),(vB false)]⟩]) (Z8 hU rfl rfl ?_) ?_
 ·exact zSe
 refine Zd ?_
 refine zR ?_
 refine Zah ⟨38,[],[(2,.ref n 0)]⟩ (Zt O n [some ⟨false,96,8,1,[(vI 4),(vI 0),(vI 0),(vI 0),(vI 0),(vI 0),(vI 0),(vB false)]⟩]) (Z8 hU rfl rfl ?_) ?_
 ·exact zSe
 refine zW ?_
 have h:=Option.some.inj h;subst h
 refine Zi (.inr rfl) hU [.agg [(vI 4),(vI 0),(vI 0),(vI 0),(vI 0),(vI 0),(vI 0),(vB false)]] (by omega) ?_
 simp only [push_cast,seval,↓reduceIte,Zb,Tryz.results88,hN0,hN]
theorem Zro {a0:(Option Zl)} {a1:Int} {a2:Int} {a3:Int} {r:((List Int)×Bool)} {O:Objs} {n:Nat} (h:Gt a0 a1 a2 a3=some r):GTo Tryz.prog 107 [(gP Zq a0),(vI a1),(vI a2),(vI a3)] O n (.tup [(sL (eI .u64) r.1),(vB r.2)]) O n:=by
 unfold Gt at h
 refine Yj Zo Tryz.call107 Tryz.func107 rfl (Nat.le_of_ble_eq_true rfl) (Nat.le_refl _) fun hU => ?_
 have hN0:O n=none:=hU.fresh _ (Nat.le_refl _)
 have hN:∀ k,O (n+k)=none:=fun k=>hU.fresh _ (Nat.le_add_right _ _)
 show W _ _ _ _ ⟨29,[],[(0,(gP Zq a0)),(1,(vI a1)),(2,(vI a2)),(3,(vI a3))]⟩ (Zt O n []) _
 refine zQ [0,1,2,3] ?_
 refine Zd ?_
 refine Zd ?_
 obtain ⟨y2,hy2,h⟩:=bC h
 refine zCd (Zeo hy2) [0,1,2,3,15] [] ?_
 refine Zj (t:=(!y2)) rfl (fun c11 => ?_) (fun c11 => ?_)
 ·replace h:=Zn c11 h
  refine zQ [8,9] ?_
  refine zW ?_
  have h:=Option.some.inj h;subst h
  refine Zi (.inr rfl) hU [nV,(vB false)] (by omega) ?_
  simp only [push_cast,seval,↓reduceIte,Zb,Tryz.results107,hN0,hN]
 replace h:=Zm c11 h
 refine Xs [0,1,2,3] [] ?_
 refine Zd ?_
 obtain ⟨x7,hx7,h⟩:=bC h
 obtain ⟨x8,hx8,ax8,bx8,cx8,h⟩:=bE (f:=(eL (eI .u64))) Zc9 (fun _=>rfl) (by decide) h
 obtain ⟨l9,al9,bl9,cl9,gl9,h⟩:=bS (lo:=(some (.i64,a2))) (hi:=(some (.i64,(IntKind.i64.wrap (a2+a3))))) (f:=(eI .u64)) rfl rfl Zda Jd (fun _=>rfl) h
 obtain ⟨y10,hy10,h⟩:=bC h
 refine Ydx [] hx7 ax8 bx8 cx8 al9 bl9 cl9 gl9 ?_
 refine (Zb0  hy10).then ?_
 refine zF8 hx7 ax8 bx8 cx8 al9 bl9 cl9 gl9 ?_
 refine zD [8,9] [true] ?_
 refine zW ?_
 have h:=Option.some.inj h;subst h
 refine Zi (.inr rfl) hU [.row n y10.length,(vB true)] (by omega) ?_
 simp only [push_cast,seval,↓reduceIte,Zb,Tryz.results107,hN0,hN]
theorem Z1a {a0:Int} {r:Int} {O:Objs} {n:Nat} (h:Ze3 a0=some r):GTo Tryz.prog 86 [(vI a0)] O n ((vI r)) O n:=by
 unfold Ze3 at h
 refine Yj Zo Tryz.call86 Tryz.func86 rfl (Nat.le_of_ble_eq_true rfl) (Nat.le_refl _) fun hU => ?_
 have hN0:O n=none:=hU.fresh _ (Nat.le_refl _)
 have hN:∀ k,O (n+k)=none:=fun k=>hU.fresh _ (Nat.le_add_right _ _)
 show W _ _ _ _ ⟨8,[],[(0,(vI a0))]⟩ (Zt O n []) _
 refine zQ [0] ?_
 refine Zd ?_
 obtain ⟨y6,hy6,ey6,h⟩:=bY (f:=(eI .i64)) (cs:=[.val (.int .i64 0),.val (.int .i64 1),.val (.int .i64 8),.val (.int .i64 16),.val (.int .i64 32),.val (.int .i64 64),.val (.int .i64 64)]) rfl h
 have g7:=congrArg G.agg ey6
 obtain ⟨y8,hy8,ey8,h⟩:=bY (f:=(eI .i64)) (cs:=[.val (.int .i64 0),.val (.int .i64 0),.val (.int .i64 0),.val (.int .i64 0),.val (.int .i64 0),.val (.int .i64 0),.val (.int .i64 0)]) rfl h
 have g9:=congrArg (GObj.mk false 132 7 1) ey8
 have g10:=Zw2 (f:=(eI .i64)) y8 y6 (fun _=>rfl)
 refine Zku [] g7 g9 g10 ?_
 refine zD [0,3] [true] ?_
 obtain ⟨x12,hx12,ax12,bx12,cx12,h⟩:=bEA (f:=(eI .i64)) (b:=7) rfl Z1v (fun _=>rfl) (by decide) h
 refine Zb4 [2] (Z5 Zo [] ?_)
 refine zF3 ax12 bx12 cx12 ?_
 refine zW ?_
 have h:=Option.some.inj h;subst h
 refine Zi (.inr rfl) hU [(vI x12)] (by omega) ?_
 simp only [push_cast,seval,↓reduceIte,Zb,Tryz.results86,hN0,hN]
theorem Zlz {a0:Zx} {r:(Int×Bool)} {O:Objs} {n:Nat} (h:X5 a0=some r):GTo Tryz.prog 55 [.agg (Yq a0)] O n (.tup [(vI r.1),(vB r.2)]) O n:=by
 unfold X5 at h
 refine Yj Zo Tryz.call55 Tryz.func55 rfl (Nat.le_of_ble_eq_true rfl) (Nat.le_refl _) fun hU => ?_
 have hN0:O n=none:=hU.fresh _ (Nat.le_refl _)
 have hN:∀ k,O (n+k)=none:=fun k=>hU.fresh _ (Nat.le_add_right _ _)
 show W _ _ _ _ ⟨57,[],[(0,.agg (Yq a0))]⟩ (Zt O n []) _
 refine zQ [1] ?_
 refine Zd ?_
 refine Yh ?_
 refine zQ [1,4] ?_
 refine Zj (t:=(a0.Kind == 1)) rfl (fun c5 => ?_) (fun c5 => ?_)
 ·replace h:=Zn c5 h
  refine zQ [2,3] ?_
  refine zW ?_
  have h:=Option.some.inj h;subst h
  refine Zi (.inr rfl) hU [(vI (IntKind.i64.wrap (a0.Data+a0.Ptrs))),(vB true)] (by omega) ?_
  simp only [push_cast,seval,↓reduceIte,Zb,Tryz.results55,hN0,hN]
 replace h:=Zm c5 h
 refine zQD [1,13] [none,none,none] ?_
 refine Zj (t:=(cond (a0.Kind == 2) (a0.Code == 7) false)) rfl (fun c4 => ?_) (fun c4 => ?_)
 ·replace h:=Zn c4 h
  refine zQ [2,3] ?_
  refine zW ?_
  have h:=Option.some.inj h;subst h
  refine Zi (.inr rfl) hU [(vI (IntKind.i64.wrap (a0.Count+1))),(vB true)] (by omega) ?_
  simp only [push_cast,seval,↓reduceIte,Zb,Tryz.results55,hN0,hN]
 replace h:=Zm c4 h
 refine zQD [1,25] [none,none,none,none,none,none,none,none,none,none,none,none] ?_
 refine Zj (t:=(cond (cond (cond (cond (a0.Kind == 2) (decide (0≤a0.Code)) false) (decide (a0.Code < 7)) false) (decide (0≤a0.Count)) false) (decide (a0.Count≤536870911)) false)) rfl (fun c3 => ?_) (fun c3 => ?_)
 ·replace h:=Zn c3 h
  refine Zd ?_
  obtain ⟨y2,hy2,h⟩:=bC h
  refine X1 Zo (by kernel_rfl) [] (by kernel_rfl) ?_
  refine zS ?_
  refine PCall.of (Z1a hy2) ?_
  refine zS ?_
  refine zD [2,3] [false] ?_
  refine zW ?_
  have h:=Option.some.inj h;subst h
  refine Zi (.inr rfl) hU [(vI (IntKind.i64.wrap (Int.tdiv (IntKind.i64.wrap ((IntKind.i64.wrap (a0.Count * y2))+63)) 64))),(vB true)] (by omega) ?_
  simp only [push_cast,seval,↓reduceIte,Zb,Tryz.results55,hN0,hN]
 replace h:=Zm c3 h
 refine Xs [] [false] ?_
 refine zQ [2,3] ?_
 refine zW ?_
 have h:=Option.some.inj h;subst h
 refine Zi (.inr rfl) hU [(vI 0),(vB false)] (by omega) ?_
 simp only [push_cast,seval,↓reduceIte,Zb,Tryz.results55,hN0,hN]
theorem Zky {a0:(Option Zl)} {a1:Zx} {a2:Int} {a3:Int} {r:(Xy×Int)} {O:Objs} {n:Nat} (h:Zb5 a0 a1 a2 a3=some r):GTo Tryz.prog 98 [(gP Zq a0),.agg (Yq a1),(vI a2),(vI a3)] O n (.tup [.agg [(vI r.1.P.Kind),(vI r.1.P.Off),(vI r.1.P.Data),(vI r.1.P.Ptrs),(vI r.1.P.Code),(vI r.1.P.Count),(vI r.1.P.Segment),(vB r.1.P.Double),(vI r.1.Segment),(vI r.1.At)],(vI r.2)]) O n:=by
 unfold Zb5 at h
 refine Yj Zo Tryz.call98 Tryz.func98 rfl (Nat.le_of_ble_eq_true rfl) (Nat.le_refl _) fun hU => ?_
 have hN0:O n=none:=hU.fresh _ (Nat.le_refl _)
 have hN:∀ k,O (n+k)=none:=fun k=>hU.fresh _ (Nat.le_add_right _ _)
 show W _ _ _ _ ⟨36,[],[(0,(gP Zq a0)),(1,.agg (Yq a1)),(2,(vI a2)),(3,(vI a3))]⟩ (Zt O n []) _
 refine zQ [0,2,3,5,8] ?_
 refine Zd ?_
 refine zQ [0,2,3,5,8,14] ?_
 refine Zj (t:=(a1.Kind == 4)) rfl (fun c7 => ?_) (fun c7 => ?_)
 ·replace h:=Zn c7 h
  refine Zd ?_
  refine zRd [8,9] [false,true] ?_
  refine zW ?_
  have h:=Option.some.inj h;subst h
  refine Zi (.inr rfl) hU [.agg [(vI 0),(vI 0),(vI 0),(vI 0),(vI 0),(vI 0),(vI 0),(vB false),(vI 0),(vI 0)],(vI 9)] (by omega) ?_
  simp only [push_cast,seval,↓reduceIte,Zb,Tryz.results98,hN0,hN]
 replace h:=Zm c7 h
 refine Xs [0,2,3,5,8] [true,true] ?_
 refine Zd ?_
 obtain ⟨y2,hy2,h⟩:=bC h
 refine zCd (Zlz hy2) [0,2,3,5,8,10,11] [true,true] ?_
 refine Zd ?_
 refine zQ [0,2,3,5,8,10,22] ?_
 refine Zj (t:=(!y2.2)) rfl (fun c6 => ?_) (fun c6 => ?_)
 ·replace h:=Zn c6 h
  refine Zd ?_
  refine zRd [8,9] [false,true] ?_
  refine zW ?_
  have h:=Option.some.inj h;subst h
  refine Zi (.inr rfl) hU [.agg [(vI 0),(vI 0),(vI 0),(vI 0),(vI 0),(vI 0),(vI 0),(vB false),(vI 0),(vI 0)],(vI 8)] (by omega) ?_
  simp only [push_cast,seval,↓reduceIte,Zb,Tryz.results98,hN0,hN]
 replace h:=Zm c6 h
 refine Xs [0,2,3,5,8,10] [true,true] ?_
 refine Zd ?_
 refine Zd ?_
 obtain ⟨y4,hy4,h⟩:=bC h
 refine zCd (Zeo hy4) [2,3,5,8,29] [true,true] ?_
 refine Zj (t:=(!y4)) rfl (fun c5 => ?_) (fun c5 => ?_)
 ·replace h:=Zn c5 h
  refine Zd ?_
  refine zRd [8,9] [false,true] ?_
  refine zW ?_
  have h:=Option.some.inj h;subst h
  refine Zi (.inr rfl) hU [.agg [(vI 0),(vI 0),(vI 0),(vI 0),(vI 0),(vI 0),(vI 0),(vB false),(vI 0),(vI 0)],(vI 7)] (by omega) ?_
  simp only [push_cast,seval,↓reduceIte,Zb,Tryz.results98,hN0,hN]
 replace h:=Zm c5 h
 refine Xs [2,3,5,8] [true,true] ?_
 refine Zd ?_
 refine zRd [2,3,5,8] [true,true] ?_
 refine Zd ?_
 refine zRd [8,9] [false,true] ?_
 refine zW ?_
 have h:=Option.some.inj h;subst h
 refine Zi (.inr rfl) hU [.agg [(vI a1.Kind),(vI 0),(vI a1.Data),(vI a1.Ptrs),(vI a1.Code),(vI a1.Count),(vI a1.Segment),(vB a1.Double),(vI a2),(vI a3)],(vI 0)] (by omega) ?_
 simp only [push_cast,seval,↓reduceIte,Zb,Tryz.results98,hN0,hN]
theorem Zyf {a0:(Option Zl)} {a1:Int} {a2:Int} {r:(Xy×Int)} {O:Objs} {n:Nat} (h:Zfu a0 a1 a2=some r):GTo Tryz.prog 96 [(gP Zq a0),(vI a1),(vI a2)] O n (.tup [.agg [(vI r.1.P.Kind),(vI r.1.P.Off),(vI r.1.P.Data),(vI r.1.P.Ptrs),(vI r.1.P.Code),(vI r.1.P.Count),(vI r.1.P.Segment),(vB r.1.P.Double),(vI r.1.Segment),(vI r.1.At)],(vI r.2)]) O n:=by
 unfold Zfu at h
 refine Yj Zo Tryz.call96 Tryz.func96 rfl (Nat.le_of_ble_eq_true rfl) (Nat.le_refl _) fun hU => ?_
 have hN0:O n=none:=hU.fresh _ (Nat.le_refl _)
 have hN:∀ k,O (n+k)=none:=fun k=>hU.fresh _ (Nat.le_add_right _ _)
 show W _ _ _ _ ⟨56,[],[(0,(gP Zq a0)),(1,(vI a1)),(2,(vI a2))]⟩ (Zt O n []) _
 refine zQ [0,1,2,6] ?_
 refine Zd ?_
 obtain ⟨y2,hy2,h⟩:=bC h
 refine zCd (Zro hy2) [0,6,8,9] [true] ?_
 refine Zd ?_
 refine zQ [0,6,8,20] ?_
 refine Zj (t:=(!y2.2)) rfl (fun c11 => ?_) (fun c11 => ?_)
 ·replace h:=Zn c11 h
  refine Zd ?_
  refine zRd [6,7] [true] ?_
  refine zW ?_
  have h:=Option.some.inj h;subst h
  refine Zi (.inr rfl) hU [.agg [(vI 0),(vI 0),(vI 0),(vI 0),(vI 0),(vI 0),(vI 0),(vB false),(vI 0),(vI 0)],(vI 7)] (by omega) ?_
  simp only [push_cast,seval,↓reduceIte,Zb,Tryz.results96,hN0,hN]
 replace h:=Zm c11 h
 refine Xs [0,6,8] [true] ?_
 obtain ⟨x3,hx3,ax3,bx3,cx3,h⟩:=bE (f:=(eI .u64)) Jd (fun _=>rfl) (by decide) h
 obtain ⟨y4,hy4,h⟩:=bC h
 obtain ⟨x5,hx5,ax5,bx5,cx5,h⟩:=bE (f:=(eI .u64)) Jd (fun _=>rfl) (by decide) h
 obtain ⟨y6,hy6,h⟩:=bC h
 refine Y8 (E':=⟨56,[],[(0,(gP Zq a0)),(6,.ref n 0),(10,.ref (n+1) 0),(11,.ref (n+2) 0)]⟩) (O':=(Zt O n [some ⟨false,111,10,1,[(vI 0),(vI 0),(vI 0),(vI 0),(vI 0),(vI 0),(vI 0),(vB false),(vI 0),(vI 0)]⟩,some ⟨false,96,8,1,(Yq y4)⟩,some ⟨false,96,8,1,(Yq y6)⟩])) (n0:=(n+3)) ?_ ?_
 ·refine Z5i Zo (by kernel_rfl) [.low,.low,.low,.low,.low,.low,.low,.low,.pass,.pass,.pass,.pass] (fun i=>i < (n+1)) 8 9 [0,1,2,3,4,5,6,7] [10,11] [.low,.low,.low,.low,.low,.low,.low,.low] [.pass,.pass,.pass,.pass] [.pass,.pass,.pass,.pass] [] (by kernel_rfl) rfl rfl rfl ?_
  refine zF6 ax3 bx3 cx3 ax5 bx5 cx5 ?_
  repeat (with_reducible refine And.intro (by omega) ?_)
  first | refine PCallA.of (fun _ _=>Gc hy4) ?_ | refine PCall.of (Gc hy4) ?_
  refine zF6 ax3 bx3 cx3 ax5 bx5 cx5 ?_
  repeat (with_reducible refine And.intro (by omega) ?_)
  first | refine PCallA.of (fun _ _=>Gc hy6) ?_ | refine PCall.of (Gc hy6) ?_
  refine zF6 ax3 bx3 cx3 ax5 bx5 cx5 ?_
  repeat (with_reducible refine And.intro (by omega) ?_)
  refine And.intro ?_ ?_
  ·refine zF6 ax3 bx3 cx3 ax5 bx5 cx5 ?_
   repeat (with_reducible refine And.intro (by first | exact Ju rfl | exact Qp) ?_)
   exact Ydq ax3 bx3 cx3 ax5 bx5 cx5
  refine zF6 ax3 bx3 cx3 ax5 bx5 cx5 ?_
  repeat (with_reducible refine And.intro (by first | exact Ju rfl | exact Qp) ?_)
  refine And.intro rfl ?_
  refine Fit2.trans (E':=(⟨56,[],[(0,(gP Zq a0)),(6,.ref n 0),(10,.ref (n+2) 0),(11,.ref (n+1) 0)]⟩:Env)) (O':=(Zt O n [some ⟨false,111,10,1,[(vI 0),(vI 0),(vI 0),(vI 0),(vI 0),(vI 0),(vI 0),(vB false),(vI 0),(vI 0)]⟩,some ⟨false,96,8,1,(Yq y6)⟩,some ⟨false,96,8,1,(Yq y4)⟩])) (n':=(n+3)) (Fit2.of (Z8 hU rfl rfl ?_) (by omega)) ?_
  ·exact Ydt ax3 bx3 cx3 ax5 bx5 cx5
  refine Jt (k:=3) (k':=3) hU [0,2,1] [0,2,1] rfl rfl rfl rfl ⟨rfl,rfl⟩ ?_
  exact zSe
 refine Zd ?_
 refine zQD [0,6,10,11,36] [none,none] ?_
 refine Zj (t:=(cond (y4.Kind != 3) true y4.Double)) rfl (fun c10 => ?_) (fun c10 => ?_)
 ·replace h:=Zn c10 h
  refine Zd ?_
  refine zRd [6,7] [true,false,false] ?_
  refine zW ?_
  have h:=Option.some.inj h;subst h
  refine Zi (.inr rfl) hU [.agg [(vI 0),(vI 0),(vI 0),(vI 0),(vI 0),(vI 0),(vI 0),(vB false),(vI 0),(vI 0)],(vI 8)] (by omega) ?_
  simp only [push_cast,seval,↓reduceIte,Zb,Tryz.results96,hN0,hN]
 replace h:=Zm c10 h
 refine Xs [0,6,10,11] [true,true,true] ?_
 refine Zd ?_
 refine zQD [0,6,10,11,45] [none,none,none] ?_
 refine Zj (t:=(cond (y6.Kind != 4) (y6.Off != 0) false)) rfl (fun c9 => ?_) (fun c9 => ?_)
 ·replace h:=Zn c9 h
  refine Zd ?_
  refine zRd [6,7] [true,false,false] ?_
  refine zW ?_
  have h:=Option.some.inj h;subst h
  refine Zi (.inr rfl) hU [.agg [(vI 0),(vI 0),(vI 0),(vI 0),(vI 0),(vI 0),(vI 0),(vB false),(vI 0),(vI 0)],(vI 8)] (by omega) ?_
  simp only [push_cast,seval,↓reduceIte,Zb,Tryz.results96,hN0,hN]
 replace h:=Zm c9 h
 refine Xs [0,6,10,11] [true,true,true] ?_
 refine Zd ?_
 obtain ⟨y8,hy8,h⟩:=bC h
 refine zCd (Zky hy8) [6,7] [true,false,false] ?_
 refine zW ?_
 have h:=Option.some.inj h;subst h
 refine Zi (.inr rfl) hU [.agg [(vI y8.1.P.Kind),(vI y8.1.P.Off),(vI y8.1.P.Data),(vI y8.1.P.Ptrs),(vI y8.1.P.Code),(vI y8.1.P.Count),(vI y8.1.P.Segment),(vB y8.1.P.Double),(vI y8.1.Segment),(vI y8.1.At)],(vI y8.2)] (by omega) ?_
 simp only [push_cast,seval,↓reduceIte,Zb,Tryz.results96,hN0,hN]
theorem Zyg {a0:(Option Zl)} {a1:Int} {a2:Int} {r:(Xy×Int)} {O:Objs} {n:Nat} (h:Zfv a0 a1 a2=some r):GTo Tryz.prog 97 [(gP Zq a0),(vI a1),(vI a2)] O n (.tup [.agg [(vI r.1.P.Kind),(vI r.1.P.Off),(vI r.1.P.Data),(vI r.1.P.Ptrs),(vI r.1.P.Code),(vI r.1.P.Count),(vI r.1.P.Segment),(vB r.1.P.Double),(vI r.1.Segment),(vI r.1.At)],(vI r.2)]) O n:=by
 unfold Zfv at h
 refine Yj Zo Tryz.call97 Tryz.func97 rfl (Nat.le_of_ble_eq_true rfl) (Nat.le_refl _) fun hU => ?_
 have hN0:O n=none:=hU.fresh _ (Nat.le_refl _)
 have hN:∀ k,O (n+k)=none:=fun k=>hU.fresh _ (Nat.le_add_right _ _)
 show W _ _ _ _ ⟨34,[],[(0,(gP Zq a0)),(1,(vI a1)),(2,(vI a2))]⟩ (Zt O n []) _
 refine zQ [0,1,2,6] ?_
 refine Zd ?_
 obtain ⟨y2,hy2,h⟩:=bC h
 refine zCd (Zaa hy2) [0,1,2,6,8,9] [true] ?_
 refine Zd ?_
 refine zQ [0,1,2,6,8,19] ?_
 refine Zj (t:=(!y2.2)) rfl (fun c7 => ?_) (fun c7 => ?_)
 ·replace h:=Zn c7 h
  refine Zd ?_
  refine zRd [6,7] [true] ?_
  refine zW ?_
  have h:=Option.some.inj h;subst h
  refine Zi (.inr rfl) hU [.agg [(vI 0),(vI 0),(vI 0),(vI 0),(vI 0),(vI 0),(vI 0),(vB false),(vI 0),(vI 0)],(vI 7)] (by omega) ?_
  simp only [push_cast,seval,↓reduceIte,Zb,Tryz.results97,hN0,hN]
 replace h:=Zm c7 h
 refine Xs [0,1,2,6,8] [true] ?_
 refine Zd ?_
 obtain ⟨y4,hy4,h⟩:=bC h
 refine zCd (Gc hy4) [0,1,2,6,10] [true,true] ?_
 refine Zd ?_
 obtain ⟨y6,hy6,h⟩:=bC h
 refine zCd (Zky hy6) [6,7] [true,false] ?_
 refine zW ?_
 have h:=Option.some.inj h;subst h
 refine Zi (.inr rfl) hU [.agg [(vI y6.1.P.Kind),(vI y6.1.P.Off),(vI y6.1.P.Data),(vI y6.1.P.Ptrs),(vI y6.1.P.Code),(vI y6.1.P.Count),(vI y6.1.P.Segment),(vB y6.1.P.Double),(vI y6.1.Segment),(vI y6.1.At)],(vI y6.2)] (by omega) ?_
 simp only [push_cast,seval,↓reduceIte,Zb,Tryz.results97,hN0,hN]
theorem Zye {a0:(Option Zl)} {a1:Int} {a2:Int} {r:(Xy×Int)} {O:Objs} {n:Nat} (h:Zft a0 a1 a2=some r):GTo Tryz.prog 70 [(gP Zq a0),(vI a1),(vI a2)] O n (.tup [.agg [(vI r.1.P.Kind),(vI r.1.P.Off),(vI r.1.P.Data),(vI r.1.P.Ptrs),(vI r.1.P.Code),(vI r.1.P.Count),(vI r.1.P.Segment),(vB r.1.P.Double),(vI r.1.Segment),(vI r.1.At)],(vI r.2)]) O n:=by
 unfold Zft at h
 refine Yj Zo Tryz.call70 Tryz.func70 rfl (Nat.le_of_ble_eq_true rfl) (Nat.le_refl _) fun hU => ?_
 have hN0:O n=none:=hU.fresh _ (Nat.le_refl _)
 have hN:∀ k,O (n+k)=none:=fun k=>hU.fresh _ (Nat.le_add_right _ _)
 show W _ _ _ _ ⟨67,[],[(0,(gP Zq a0)),(1,(vI a1)),(2,(vI a2))]⟩ (Zt O n []) _
 refine zQ [0,1,2,6] ?_
 refine Zd ?_
 obtain ⟨y2,hy2,h⟩:=bC h
 refine zCd (Zaa hy2) [0,1,2,6,8,9] [true] ?_
 refine Zd ?_
 refine zQ [0,1,2,6,8,19] ?_
 refine Zj (t:=(!y2.2)) rfl (fun c14 => ?_) (fun c14 => ?_)
 ·replace h:=Zn c14 h
  refine Zd ?_
  refine zRd [6,7] [true] ?_
  refine zW ?_
  have h:=Option.some.inj h;subst h
  refine Zi (.inr rfl) hU [.agg [(vI 0),(vI 0),(vI 0),(vI 0),(vI 0),(vI 0),(vI 0),(vB false),(vI 0),(vI 0)],(vI 7)] (by omega) ?_
  simp only [push_cast,seval,↓reduceIte,Zb,Tryz.results70,hN0,hN]
 replace h:=Zm c14 h
 refine Xs [0,1,2,6,8] [true] ?_
 refine Zd ?_
 obtain ⟨y4,hy4,h⟩:=bC h
 refine zCd (Gc hy4) [0,1,2,6,10] [true,true] ?_
 refine Zd ?_
 refine Yh ?_
 refine zQ [0,1,2,6,10,23] ?_
 refine Zj (t:=(y4.Kind == 0)) rfl (fun c13 => ?_) (fun c13 => ?_)
 ·replace h:=Zn c13 h
  refine Zd ?_
  refine zRd [6,7] [true,false] ?_
  refine zW ?_
  have h:=Option.some.inj h;subst h
  refine Zi (.inr rfl) hU [.agg [(vI 0),(vI 0),(vI 0),(vI 0),(vI 0),(vI 0),(vI 0),(vB false),(vI 0),(vI 0)],(vI 0)] (by omega) ?_
  simp only [push_cast,seval,↓reduceIte,Zb,Tryz.results70,hN0,hN]
 replace h:=Zm c13 h
 refine zQD [0,1,2,6,10,28] [none,none] ?_
 refine Zj (t:=(cond (y4.Kind == 3) y4.Double false)) rfl (fun c12 => ?_) (fun c12 => ?_)
 ·replace h:=Zn c12 h
  refine Zd ?_
  obtain ⟨y6,hy6,h⟩:=bC h
  refine zCd (Zyf hy6) [6,7] [true,false] ?_
  refine zW ?_
  have h:=Option.some.inj h;subst h
  refine Zi (.inr rfl) hU [.agg [(vI y6.1.P.Kind),(vI y6.1.P.Off),(vI y6.1.P.Data),(vI y6.1.P.Ptrs),(vI y6.1.P.Code),(vI y6.1.P.Count),(vI y6.1.P.Segment),(vB y6.1.P.Double),(vI y6.1.Segment),(vI y6.1.At)],(vI y6.2)] (by omega) ?_
  simp only [push_cast,seval,↓reduceIte,Zb,Tryz.results70,hN0,hN]
 replace h:=Zm c12 h
 refine zQ [0,1,2,6,10,44] ?_
 refine Zj (t:=(y4.Kind == 3)) rfl (fun c11 => ?_) (fun c11 => ?_)
 ·replace h:=Zn c11 h
  refine Zd ?_
  obtain ⟨y8,hy8,h⟩:=bC h
  refine zCd (Zyg hy8) [6,7] [true,false] ?_
  refine zW ?_
  have h:=Option.some.inj h;subst h
  refine Zi (.inr rfl) hU [.agg [(vI y8.1.P.Kind),(vI y8.1.P.Off),(vI y8.1.P.Data),(vI y8.1.P.Ptrs),(vI y8.1.P.Code),(vI y8.1.P.Count),(vI y8.1.P.Segment),(vB y8.1.P.Double),(vI y8.1.Segment),(vI y8.1.At)],(vI y8.2)] (by omega) ?_
  simp only [push_cast,seval,↓reduceIte,Zb,Tryz.results70,hN0,hN]
 replace h:=Zm c11 h
 refine Xs [0,1,2,6,10] [true,true] ?_
 refine Zd ?_
 obtain ⟨y10,hy10,h⟩:=bC h
 refine zCd (Zky hy10) [6,7] [true,false] ?_
 refine zW ?_
 have h:=Option.some.inj h;subst h
 refine Zi (.inr rfl) hU [.agg [(vI y10.1.P.Kind),(vI y10.1.P.Off),(vI y10.1.P.Data),(vI y10.1.P.Ptrs),(vI y10.1.P.Code),(vI y10.1.P.Count),(vI y10.1.P.Segment),(vB y10.1.P.Double),(vI y10.1.Segment),(vI y10.1.At)],(vI y10.2)] (by omega) ?_
 simp only [push_cast,seval,↓reduceIte,Zb,Tryz.results70,hN0,hN]
theorem Zru {a0:Zc} {r:(Zc×Int)} {O:Objs} {n:Nat} (h:Zb7 a0=some r):GTo Tryz.prog 71 [.agg (Zp a0)] O n (.tup [.agg (Zp r.1),(vI r.2)]) O n:=by
 unfold Zb7 at h
 refine Yj Zo Tryz.call71 Tryz.func71 rfl (Nat.le_of_ble_eq_true rfl) (Nat.le_refl _) fun hU => ?_
 have hN0:O n=none:=hU.fresh _ (Nat.le_refl _)
 have hN:∀ k,O (n+k)=none:=fun k=>hU.fresh _ (Nat.le_add_right _ _)
 show W _ _ _ _ ⟨56,[],[(0,.agg (Zp a0))]⟩ (Zt O n []) _
 refine zQ [1,2] ?_
 refine Zd ?_
 obtain ⟨y2,hy2,h⟩:=bC h
 refine zCd (Zaa hy2) [1,2,4] [true,true] ?_
 refine Zd ?_
 obtain ⟨y4,hy4,h⟩:=bC h
 refine zCd (Gc hy4) [1,2,6] [true,true,true] ?_
 refine Zd ?_
 refine zQD [1,2,6,44] [none,none,none,none,none,none,none,none,none,none,none,none,none,none,none,none,none] ?_
 refine Zj (t:=(cond (cond (cond (y4.Kind != 0) (y4.Kind != 1) false) true (decide (y4.Off < 0))) true (decide (a0.count < (IntKind.i64.wrap (y4.Off * (IntKind.i64.wrap (y4.Data+y4.Ptrs)))))))) rfl (fun c5 => ?_) (fun c5 => ?_)
 ·replace h:=Zn c5 h
  refine Zd ?_
  refine zRd [2,3] [false,true,false] ?_
  refine zW ?_
  have h:=Option.some.inj h;subst h
  refine Zi (.inr rfl) hU [.agg [.val (.pointer none),(vI 0),(vI 0),(vI 0),(vI 0),(vI 0),(vI 0),(vI 0),(vI 0)],(vI 8)] (by omega) ?_
  simp only [push_cast,seval,↓reduceIte,Zb,Tryz.results71,hN0,hN]
 replace h:=Zm c5 h
 refine Xs [1,2,6] [true,true,true] ?_
 refine Zd ?_
 refine Zih Zo (by kernel_rfl) [.plain,.plain,.low,.low,.low,.low,.plain,.pass,.plain,.pass,.plain,.bar] (fun i=>i≠n+0) [0,1,2,3,4,5,6,7,8,9,10,11] [.plain,.plain,.low,.low,.low,.low,.plain,.pass,.plain,.pass,.plain,.bar] [] (by kernel_rfl) rfl ?_
 refine zS ?_
 refine zO ?_
 refine zDs [1,2] [true,true,false] ?_
 refine zRd [2,3] [false,true,false] ?_
 refine zW ?_
 have h:=Option.some.inj h;subst h
 refine Zi (.inr rfl) hU [.agg [(gP Zq a0.a),(vI a0.kind),(vI a0.segment),(vI a0.at_),(vI y4.Data),(vI y4.Ptrs),(vI y4.Off),(vI a0.code),(vI a0.index)],(vI 0)] (by omega) ?_
 simp only [push_cast,seval,↓reduceIte,Zb,Tryz.results71,hN0,hN]
theorem Znc {a0:(Option Zl)} {a1:Int} {a2:Int} {r:(Zc×Int)} {O:Objs} {n:Nat} (h:Zdj a0 a1 a2=some r):GTo Tryz.prog 47 [(gP Zq a0),(vI a1),(vI a2)] O n (.tup [.agg (Zp r.1),(vI r.2)]) O n:=by
 unfold Zdj at h
 refine Yj Zo Tryz.call47 Tryz.func47 rfl (Nat.le_of_ble_eq_true rfl) (Nat.le_refl _) fun hU => ?_
 have hN0:O n=none:=hU.fresh _ (Nat.le_refl _)
 have hN:∀ k,O (n+k)=none:=fun k=>hU.fresh _ (Nat.le_add_right _ _)
 show W _ _ _ _ ⟨66,[],[(0,(gP Zq a0)),(1,(vI a1)),(2,(vI a2))]⟩ (Zt O n []) _
 refine zQ [0,1,2,6] ?_
 refine Zd ?_
 obtain ⟨y2,hy2,h⟩:=bC h
 refine zCd (Zye hy2) [0,6,8,9] [true,true] ?_
 refine Zd ?_
 refine zQD [0,6,8,9,25] [none,none,none,none] ?_
 refine Zj (t:=(cond (y2.2 != 0) true (y2.1.P.Kind == 0))) rfl (fun c7 => ?_) (fun c7 => ?_)
 ·replace h:=Zn c7 h
  refine Zd ?_
  refine zRd [6,7] [true,false] ?_
  refine zW ?_
  have h:=Option.some.inj h;subst h
  refine Zi (.inr rfl) hU [.agg [.val (.pointer none),(vI 0),(vI 0),(vI 0),(vI 0),(vI 0),(vI 0),(vI 0),(vI 0)],(vI y2.2)] (by omega) ?_
  simp only [push_cast,seval,↓reduceIte,Zb,Tryz.results47,hN0,hN]
 replace h:=Zm c7 h
 refine Xs [0,6,8] [true,true] ?_
 refine Zd ?_
 refine zRd [6,8,10] [true,true,true] ?_
 refine Zd ?_
 refine zQ [6,8,10,37] ?_
 refine Zj (t:=(y2.1.P.Kind == 1)) rfl (fun c6 => ?_) (fun c6 => ?_)
 ·replace h:=Zn c6 h
  refine Zd ?_
  refine Zih Zo (by kernel_rfl) [.low,.low,.low,.low,.low,.low,.plain,.pass,.plain,.pass,.plain,.bar] (fun i=>i≠n+2) [0,1,2,3,4,5,6,7,8,9,10,11] [.low,.low,.low,.low,.low,.low,.plain,.pass,.plain,.pass,.plain,.bar] [] (by kernel_rfl) rfl ?_
  refine zS ?_
  refine zO ?_
  refine zDs [6,10] [true,false,true] ?_
  refine zRd [6,7] [true,false,false] ?_
  refine zW ?_
  have h:=Option.some.inj h;subst h
  refine Zi (.inr rfl) hU [.agg [(gP Zq a0),(vI 1),(vI y2.1.Segment),(vI y2.1.At),(vI y2.1.P.Data),(vI y2.1.P.Ptrs),(vI 0),(vI 0),(vI 0)],(vI 0)] (by omega) ?_
  simp only [push_cast,seval,↓reduceIte,Zb,Tryz.results47,hN0,hN]
 replace h:=Zm c6 h
 refine Xs [6,8,10] [true,true,true] ?_
 refine Zd ?_
 refine Zih Zo (by kernel_rfl) [.plain,.plain,.plain,.plain,.low,.low,.low,.plain,.pass,.plain,.bar] (fun i=>i≠n+2) [0,1,2,3,4,5,6,7,8,9,10] [.plain,.plain,.plain,.plain,.low,.low,.low,.plain,.pass,.plain,.bar] [] (by kernel_rfl) rfl ?_
 refine zS ?_
 refine zO ?_
 refine zDs [6,8,10] [true,true,true] ?_
 refine zQ [6,10,60] ?_
 refine Zj (t:=(y2.1.P.Code == 7)) rfl (fun c5 => ?_) (fun c5 => ?_)
 ·replace h:=Zn c5 h
  refine Zd ?_
  obtain ⟨y4,hy4,h⟩:=bC h
  refine zCd (Zru hy4) [6,7] [true,false,false] ?_
  refine zW ?_
  have h:=Option.some.inj h;subst h
  refine Zi (.inr rfl) hU [.agg (Zp y4.1),(vI y4.2)] (by omega) ?_
  simp only [push_cast,seval,↓reduceIte,Zb,Tryz.results47,hN0,hN]
 replace h:=Zm c5 h
 refine Xs [6,10] [true,false,true] ?_
 refine Zd ?_
 refine zRd [6,7] [true,false,false] ?_
 refine zW ?_
 have h:=Option.some.inj h;subst h
 refine Zi (.inr rfl) hU [.agg [(gP Zq a0),(vI (IntKind.i64.wrap (y2.1.P.Code+2))),(vI y2.1.Segment),(vI y2.1.At),(vI 0),(vI 0),(vI y2.1.P.Count),(vI 0),(vI 0)],(vI 0)] (by omega) ?_
 simp only [push_cast,seval,↓reduceIte,Zb,Tryz.results47,hN0,hN]
theorem Zow {a0:(Option Zl)} {r:(Zc×Int)} {O:Objs} {n:Nat} (h:Zcu a0=some r):GTo Tryz.prog 24 [(gP Zq a0)] O n (.tup [.agg (Zp r.1),(vI r.2)]) O n:=by
 unfold Zcu at h
 refine Yj Zo Tryz.call24 Tryz.func24 rfl (Nat.le_of_ble_eq_true rfl) (Nat.le_refl _) fun hU => ?_
 have hN0:O n=none:=hU.fresh _ (Nat.le_refl _)
 have hN:∀ k,O (n+k)=none:=fun k=>hU.fresh _ (Nat.le_add_right _ _)
 show W _ _ _ _ ⟨8,[],[(0,(gP Zq a0))]⟩ (Zt O n []) _
 refine zQ [0,2] ?_
 refine Zd ?_
 obtain ⟨y2,hy2,h⟩:=bC h
 refine zCd (Znc hy2) [2,3] [true] ?_
 refine zW ?_
 have h:=Option.some.inj h;subst h
 refine Zi (.inr rfl) hU [.agg (Zp y2.1),(vI y2.2)] (by omega) ?_
 simp only [push_cast,seval,↓reduceIte,Zb,Tryz.results24,hN0,hN]
theorem Xx {a0:Zc} {r:Int} {O:Objs} {n:Nat} (h:Yy a0=some r):GTo Tryz.prog 67 [.agg (Zp a0)] O n ((vI r)) O n:=by
 unfold Yy at h
 refine Yj Zo Tryz.call67 Tryz.func67 rfl (Nat.le_of_ble_eq_true rfl) (Nat.le_refl _) fun hU => ?_
 have hN0:O n=none:=hU.fresh _ (Nat.le_refl _)
 have hN:∀ k,O (n+k)=none:=fun k=>hU.fresh _ (Nat.le_add_right _ _)
 show W _ _ _ _ ⟨5,[],[(0,.agg (Zp a0))]⟩ (Zt O n []) _
 refine zQ [1] ?_
 refine zQ [2] ?_
 refine zW ?_
 have h:=Option.some.inj h;subst h
 refine Zi (.inr rfl) hU [(vI a0.kind)] (by omega) ?_
 simp only [push_cast,seval,↓reduceIte,Zb,Tryz.results67,hN0,hN]
theorem Xw {a0:Zc} {r:Int} {O:Objs} {n:Nat} (h:Y6 a0=some r):GTo Tryz.prog 76 [.agg (Zp a0)] O n ((vI r)) O n:=by
 unfold Y6 at h
 refine Yj Zo Tryz.call76 Tryz.func76 rfl (Nat.le_of_ble_eq_true rfl) (Nat.le_refl _) fun hU => ?_
 have hN0:O n=none:=hU.fresh _ (Nat.le_refl _)
 have hN:∀ k,O (n+k)=none:=fun k=>hU.fresh _ (Nat.le_add_right _ _)
 show W _ _ _ _ ⟨10,[],[(0,.agg (Zp a0))]⟩ (Zt O n []) _
 refine zQ [1] ?_
 refine Zd ?_
 refine zQ [1,5] ?_
 refine Zj (t:=(a0.kind == 1)) rfl (fun c1 => ?_) (fun c1 => ?_)
 ·replace h:=Zn c1 h
  refine zQ [2] ?_
  refine zW ?_
  have h:=Option.some.inj h;subst h
  refine Zi (.inr rfl) hU [(vI a0.ptrs)] (by omega) ?_
  simp only [push_cast,seval,↓reduceIte,Zb,Tryz.results76,hN0,hN]
 replace h:=Zm c1 h
 refine Xs [1] [true] ?_
 refine zQ [2] ?_
 refine zW ?_
 have h:=Option.some.inj h;subst h
 refine Zi (.inr rfl) hU [(vI a0.count)] (by omega) ?_
 simp only [push_cast,seval,↓reduceIte,Zb,Tryz.results76,hN0,hN]
theorem Zns {a0:Zc} {r:Int} {O:Objs} {n:Nat} (h:Zdn a0=some r):GTo Tryz.prog 65 [.agg (Zp a0)] O n ((vI r)) O n:=by
 unfold Zdn at h
 refine Yj Zo Tryz.call65 Tryz.func65 rfl (Nat.le_of_ble_eq_true rfl) (Nat.le_refl _) fun hU => ?_
 have hN0:O n=none:=hU.fresh _ (Nat.le_refl _)
 have hN:∀ k,O (n+k)=none:=fun k=>hU.fresh _ (Nat.le_add_right _ _)
 show W _ _ _ _ ⟨16,[],[(0,.agg (Zp a0))]⟩ (Zt O n []) _
 refine zQ [1] ?_
 refine Zd ?_
 refine Yh ?_
 refine Zd ?_
 obtain ⟨y2,hy2,h⟩:=bC h
 refine zCd (Xx hy2) [1,3] [true] ?_
 refine Zj (t:=(y2 == 0)) rfl (fun c12 => ?_) (fun c12 => ?_)
 ·replace h:=Zn c12 h
  refine zQ [2] ?_
  refine zW ?_
  have h:=Option.some.inj h;subst h
  refine Zi (.inr rfl) hU [(vI 0)] (by omega) ?_
  simp only [push_cast,seval,↓reduceIte,Zb,Tryz.results65,hN0,hN]
 replace h:=Zm c12 h
 obtain ⟨z5,hz5,h⟩:=bC h
 refine Y8 (E':=⟨16,[],[(7,(vB z5))]⟩) (O':=(Zt O n [none])) (n0:=(n+1)) ?_ ?_
 ·obtain ⟨y8,hy8,hz5⟩:=bC hz5
  rcases Bool.eq_false_or_eq_true (y8 == 9) with c10 | c10
  ·replace hz5:=Zn c10 hz5
   obtain ⟨y9,hy9,hz5⟩:=bC hz5
   refine Vc [some true,some true,some true] c10 ?_
   refine (Xx hy8).then ?_
   refine zX1 c10 ?_
   refine (Xw hy9).then ?_
   refine zX1 c10 ?_
   exact Ki hz5 c10
  replace hz5:=Zm c10 hz5
  refine Vc [some false,some false,some false] c10 ?_
  refine (Xx hy8).then ?_
  refine zX1 c10 ?_
  exact Ki hz5 c10
 refine Zj (t:=z5) rfl (fun c11 => ?_) (fun c11 => ?_)
 ·replace h:=Zn c11 h
  refine zQ [2] ?_
  refine zW ?_
  have h:=Option.some.inj h;subst h
  refine Zi (.inr rfl) hU [(vI 2)] (by omega) ?_
  simp only [push_cast,seval,↓reduceIte,Zb,Tryz.results65,hN0,hN]
 replace h:=Zm c11 h
 refine Xs [] [false] ?_
 refine zQ [2] ?_
 refine zW ?_
 have h:=Option.some.inj h;subst h
 refine Zi (.inr rfl) hU [(vI 1)] (by omega) ?_
 simp only [push_cast,seval,↓reduceIte,Zb,Tryz.results65,hN0,hN]
theorem Zbd {a0:Zc} {r:Int} {O:Objs} {n:Nat} (h:Ja a0=some r):GTo Tryz.prog 74 [.agg (Zp a0)] O n ((vI r)) O n:=by
 unfold Ja at h
 refine Yj Zo Tryz.call74 Tryz.func74 rfl (Nat.le_of_ble_eq_true rfl) (Nat.le_refl _) fun hU => ?_
 have hN0:O n=none:=hU.fresh _ (Nat.le_refl _)
 have hN:∀ k,O (n+k)=none:=fun k=>hU.fresh _ (Nat.le_add_right _ _)
 show W _ _ _ _ ⟨11,[],[(0,.agg (Zp a0))]⟩ (Zt O n []) _
 refine zQ [1] ?_
 refine Zd ?_
 refine zQ [1,4] ?_
 refine Yh ?_
 refine zQ [1,4,5] ?_
 refine Zj (t:=(a0.kind == 1)) rfl (fun c2 => ?_) (fun c2 => ?_)
 ·replace h:=Zn c2 h
  refine zQ [2] ?_
  refine zW ?_
  have h:=Option.some.inj h;subst h
  refine Zi (.inr rfl) hU [(vI a0.words)] (by omega) ?_
  simp only [push_cast,seval,↓reduceIte,Zb,Tryz.results74,hN0,hN]
 replace h:=Zm c2 h
 refine zQ [9] ?_
 refine Zj (t:=(a0.kind == 10)) rfl (fun c1 => ?_) (fun c1 => ?_)
 ·replace h:=Zn c1 h
  refine zQ [2] ?_
  refine zW ?_
  have h:=Option.some.inj h;subst h
  refine Zi (.inr rfl) hU [(vI 1)] (by omega) ?_
  simp only [push_cast,seval,↓reduceIte,Zb,Tryz.results74,hN0,hN]
 replace h:=Zm c1 h
 refine Xs [] [false] ?_
 refine zQ [2] ?_
 refine zW ?_
 have h:=Option.some.inj h;subst h
 refine Zi (.inr rfl) hU [(vI 0)] (by omega) ?_
 simp only [push_cast,seval,↓reduceIte,Zb,Tryz.results74,hN0,hN]
theorem Zrt {a0:Zc} {r:(Int×Int)} {O:Objs} {n:Nat} (h:Zb6 a0=some r):GTo Tryz.prog 94 [.agg (Zp a0)] O n (.tup [(vI r.1),(vI r.2)]) O n:=by
 unfold Zb6 at h
 refine Yj Zo Tryz.call94 Tryz.func94 rfl (Nat.le_of_ble_eq_true rfl) (Nat.le_refl _) fun hU => ?_
 have hN0:O n=none:=hU.fresh _ (Nat.le_refl _)
 have hN:∀ k,O (n+k)=none:=fun k=>hU.fresh _ (Nat.le_add_right _ _)
 show W _ _ _ _ ⟨11,[],[(0,.agg (Zp a0))]⟩ (Zt O n []) _
 refine zQ [1] ?_
 refine Zd ?_
 refine zQ [1,6] ?_
 refine Zj (t:=(a0.kind != 9)) rfl (fun c1 => ?_) (fun c1 => ?_)
 ·replace h:=Zn c1 h
  refine zQ [2,3] ?_
  refine zW ?_
  have h:=Option.some.inj h;subst h
  refine Zi (.inr rfl) hU [(vI 0),(vI 0)] (by omega) ?_
  simp only [push_cast,seval,↓reduceIte,Zb,Tryz.results94,hN0,hN]
 replace h:=Zm c1 h
 refine Xs [1] [true] ?_
 refine Zb4 [2,3] (X1 Zo (by kernel_rfl) [] (by kernel_rfl) ?_)
 refine zS ?_
 refine zW ?_
 have h:=Option.some.inj h;subst h
 refine Zi (.inr rfl) hU [(vI a0.words),(vI a0.ptrs)] (by omega) ?_
 simp only [push_cast,seval,↓reduceIte,Zb,Tryz.results94,hN0,hN]
theorem Znt {a0:Zc} {r:Int} {O:Objs} {n:Nat} (h:Zbs a0=some r):GTo Tryz.prog 66 [.agg (Zp a0)] O n ((vI r)) O n:=by
 unfold Zbs at h
 refine Yj Zo Tryz.call66 Tryz.func66 rfl (Nat.le_of_ble_eq_true rfl) (Nat.le_refl _) fun hU => ?_
 have hN0:O n=none:=hU.fresh _ (Nat.le_refl _)
 have hN:∀ k,O (n+k)=none:=fun k=>hU.fresh _ (Nat.le_add_right _ _)
 show W _ _ _ _ ⟨35,[],[(0,.agg (Zp a0))]⟩ (Zt O n []) _
 refine zQ [1] ?_
 refine Zd ?_
 refine Zd ?_
 obtain ⟨y2,hy2,h⟩:=bC h
 refine zCd (Xx hy2) [1,6] [true] ?_
 refine Yh ?_
 refine zQ [1,6,7] ?_
 refine Zj (t:=(y2 == 0)) rfl (fun c15 => ?_) (fun c15 => ?_)
 ·replace h:=Zn c15 h
  refine zQ [2] ?_
  refine zW ?_
  have h:=Option.some.inj h;subst h
  refine Zi (.inr rfl) hU [(vI 0)] (by omega) ?_
  simp only [push_cast,seval,↓reduceIte,Zb,Tryz.results66,hN0,hN]
 replace h:=Zm c15 h
 refine zQ [1,6,9] ?_
 refine Zj (t:=(y2 == 1)) rfl (fun c14 => ?_) (fun c14 => ?_)
 ·replace h:=Zn c14 h
  refine Zd ?_
  obtain ⟨y5,hy5,h⟩:=bC h
  obtain ⟨y6,hy6,h⟩:=bC h
  refine X1 Zo (by kernel_rfl) [] (by kernel_rfl) ?_
  refine zS ?_
  refine PCall.of (Zbd hy5) ?_
  refine zS ?_
  refine PCall.of (Xw hy6) ?_
  refine zS ?_
  refine zD [2] [false] ?_
  refine zW ?_
  have h:=Option.some.inj h;subst h
  refine Zi (.inr rfl) hU [(vI (IntKind.i64.wrap ((IntKind.i64.wrap (1+y5))+y6)))] (by omega) ?_
  simp only [push_cast,seval,↓reduceIte,Zb,Tryz.results66,hN0,hN]
 replace h:=Zm c14 h
 refine zQ [1,17] ?_
 refine Zj (t:=(y2 == 9)) rfl (fun c13 => ?_) (fun c13 => ?_)
 ·replace h:=Zn c13 h
  refine Zd ?_
  obtain ⟨y8,hy8,h⟩:=bC h
  refine zCd (Zrt hy8) [1,3,4] [true] ?_
  refine Zd ?_
  obtain ⟨y10,hy10,h⟩:=bC h
  refine zCd (Xw hy10) [2] [false] ?_
  refine zW ?_
  have h:=Option.some.inj h;subst h
  refine Zi (.inr rfl) hU [(vI (IntKind.i64.wrap (1+(IntKind.i64.wrap (y10 * (IntKind.i64.wrap ((IntKind.i64.wrap (1+y8.1))+y8.2)))))))] (by omega) ?_
  simp only [push_cast,seval,↓reduceIte,Zb,Tryz.results66,hN0,hN]
 replace h:=Zm c13 h
 refine Xs [1] [true] ?_
 refine Zd ?_
 obtain ⟨y12,hy12,h⟩:=bC h
 refine zCd (Xw hy12) [2] [false] ?_
 refine zW ?_
 have h:=Option.some.inj h;subst h
 refine Zi (.inr rfl) hU [(vI (IntKind.i64.wrap (1+y12)))] (by omega) ?_
 simp only [push_cast,seval,↓reduceIte,Zb,Tryz.results66,hN0,hN]
theorem Zf1 {a0:Zc} {a1:Int} {r:(Zc×Int)} {O:Objs} {n:Nat} (h:Kv a0 a1=some r):GTo Tryz.prog 77 [.agg (Zp a0),(vI a1)] O n (.tup [.agg (Zp r.1),(vI r.2)]) O n:=by
 unfold Kv at h
 refine Yj Zo Tryz.call77 Tryz.func77 rfl (Nat.le_of_ble_eq_true rfl) (Nat.le_refl _) fun hU => ?_
 have hN0:O n=none:=hU.fresh _ (Nat.le_refl _)
 have hN:∀ k,O (n+k)=none:=fun k=>hU.fresh _ (Nat.le_add_right _ _)
 show W _ _ _ _ ⟨81,[],[(0,.agg (Zp a0)),(1,(vI a1))]⟩ (Zt O n []) _
 refine zQ [1,2,4] ?_
 refine Zd ?_
 obtain ⟨z2,hz2,h⟩:=bC h
 refine Y8 (E':=⟨81,[],[(1,(vI a1)),(2,.ref n 0),(4,.ref (n+1) 0),(14,(vB z2))]⟩) (O':=(Zt O n [some ⟨false,58,9,1,(Zp a0)⟩,some ⟨false,58,9,1,[.val (.pointer none),(vI 0),(vI 0),(vI 0),(vI 0),(vI 0),(vI 0),(vI 0),(vI 0)]⟩])) (n0:=(n+2)) ?_ ?_
 ·rcases Bool.eq_false_or_eq_true (decide (a1 < 0)) with c5 | c5
  ·replace hz2:=Zn c5 hz2
   refine Vc [some false,some false,some false,some false] c5 ?_
   exact Ki hz2 c5
  replace hz2:=Zm c5 hz2
  obtain ⟨y4,hy4,hz2⟩:=bC hz2
  refine Vc [some true,some true,some true,some true] c5 ?_
  refine (Xw hy4).then ?_
  refine zX1 c5 ?_
  exact Ki hz2 c5
 refine Zj (t:=z2) rfl (fun c13 => ?_) (fun c13 => ?_)
 ·replace h:=Zn c13 h
  refine Zd ?_
  refine zRd [4,5] [false,true] ?_
  refine zW ?_
  have h:=Option.some.inj h;subst h
  refine Zi (.inr rfl) hU [.agg [.val (.pointer none),(vI 0),(vI 0),(vI 0),(vI 0),(vI 0),(vI 0),(vI 0),(vI 0)],(vI 0)] (by omega) ?_
  simp only [push_cast,seval,↓reduceIte,Zb,Tryz.results77,hN0,hN]
 replace h:=Zm c13 h
 refine Xs [1,2,4] [true,true] ?_
 refine Zd ?_
 refine zQ [1,2,4,17] ?_
 refine Yh ?_
 refine zQ [1,2,4,17,18] ?_
 refine Zj (t:=(a0.kind == 1)) rfl (fun c12 => ?_) (fun c12 => ?_)
 ·replace h:=Zn c12 h
  refine Zd ?_
  obtain ⟨y7,hy7,h⟩:=bC h
  refine zCd (Znc hy7) [4,5] [false,true] ?_
  refine zW ?_
  have h:=Option.some.inj h;subst h
  refine Zi (.inr rfl) hU [.agg (Zp y7.1),(vI y7.2)] (by omega) ?_
  simp only [push_cast,seval,↓reduceIte,Zb,Tryz.results77,hN0,hN]
 replace h:=Zm c12 h
 refine zQ [1,2,4,17,34] ?_
 refine Zj (t:=(a0.kind == 8)) rfl (fun c11 => ?_) (fun c11 => ?_)
 ·replace h:=Zn c11 h
  refine Zd ?_
  obtain ⟨y9,hy9,h⟩:=bC h
  refine zCd (Znc hy9) [4,5] [false,true] ?_
  refine zW ?_
  have h:=Option.some.inj h;subst h
  refine Zi (.inr rfl) hU [.agg (Zp y9.1),(vI y9.2)] (by omega) ?_
  simp only [push_cast,seval,↓reduceIte,Zb,Tryz.results77,hN0,hN]
 replace h:=Zm c11 h
 refine zQ [1,2,4,47] ?_
 refine Zj (t:=(a0.kind == 9)) rfl (fun c10 => ?_) (fun c10 => ?_)
 ·replace h:=Zn c10 h
  refine zQ [2,4,6] ?_
  refine Zd ?_
  refine zRd [4,5] [false,true] ?_
  refine zW ?_
  have h:=Option.some.inj h;subst h
  refine Zi (.inr rfl) hU [.agg [(gP Zq a0.a),(vI 1),(vI a0.segment),(vI (IntKind.i64.wrap ((IntKind.i64.wrap (a0.at_+1))+(IntKind.i64.wrap (a1 * (IntKind.i64.wrap (a0.words+a0.ptrs))))))),(vI a0.words),(vI a0.ptrs),(vI 0),(vI 0),(vI 0)],(vI 0)] (by omega) ?_
  simp only [push_cast,seval,↓reduceIte,Zb,Tryz.results77,hN0,hN]
 replace h:=Zm c10 h
 refine Xs [1,2,4] [true,true] ?_
 refine Zd ?_
 refine zRd [4,5] [false,true] ?_
 refine zW ?_
 have h:=Option.some.inj h;subst h
 refine Zi (.inr rfl) hU [.agg [(gP Zq a0.a),(vI 10),(vI a0.segment),(vI a0.at_),(vI 0),(vI 0),(vI 0),(vI (IntKind.i64.wrap (a0.kind - 2))),(vI a1)],(vI 0)] (by omega) ?_
 simp only [push_cast,seval,↓reduceIte,Zb,Tryz.results77,hN0,hN]
def Ub (Yl:(Zh→Zc→Int→Option (Int×Zh))):Prop:=∀ {a0:Zh} {a1:Zc} {a2:Int} {r:(Int×Zh)} {O:Objs} {n:Nat} {i0:Nat},i0 < n→O i0=some ⟨false,88,1,1,[(vI a0.left)]⟩→Yl a0 a1 a2=some r→GTo Tryz.prog 46 [.ref i0 0,.agg (Zp a1),(vI a2)] O n ((vI r.1)) (Zt (O.upd i0 (some ⟨false,88,1,1,[(vI r.2.left)]⟩)) n []) (n+0)
def Un (Yk:(Zh→Zc→Int→Option (Int×Zh))):Prop:=∀ {a0:Zh} {a1:Zc} {a2:Int} {r:(Int×Zh)} {O:Objs} {n:Nat} {i0:Nat},i0 < n→O i0=some ⟨false,88,1,1,[(vI a0.left)]⟩→Yk a0 a1 a2=some r→GTo Tryz.prog 68 [.ref i0 0,.agg (Zp a1),(vI a2)] O n ((vI r.1)) (Zt (O.upd i0 (some ⟨false,88,1,1,[(vI r.2.left)]⟩)) n []) (n+0)
def Va (Yo:(Zh→Zc→Int→Option (Int×Zh))):Prop:=∀ {a0:Zh} {a1:Zc} {a2:Int} {r:(Int×Zh)} {O:Objs} {n:Nat} {i0:Nat},i0 < n→O i0=some ⟨false,88,1,1,[(vI a0.left)]⟩→Yo a0 a1 a2=some r→GTo Tryz.prog 69 [.ref i0 0,.agg (Zp a1),(vI a2)] O n ((vI r.1)) (Zt (O.upd i0 (some ⟨false,88,1,1,[(vI r.2.left)]⟩)) n []) (n+0)
theorem Zl2 {Yl:(Zh→Zc→Int→Option (Int×Zh))} {Yk:(Zh→Zc→Int→Option (Int×Zh))} {Yo:(Zh→Zc→Int→Option (Int×Zh))} (Za8:Ub Yl) (Uo:Un Yk) (Zab:Va Yo) {a0:Zh} {a1:Zc} {a2:Int} {r:(Int×Zh)} {O:Objs} {n:Nat} {i0:Nat} (hi0:i0 < n) (ho0:O i0=some ⟨false,88,1,1,[(vI a0.left)]⟩) (h:Jv Yl Yk Yo a0 a1 a2=some r):GTo Tryz.prog 46 [.ref i0 0,.agg (Zp a1),(vI a2)] O n ((vI r.1)) (Zt (O.upd i0 (some ⟨false,88,1,1,[(vI r.2.left)]⟩)) n []) (n+0):=by
 unfold Jv at h
 refine Yj Zo Tryz.call46 Tryz.func46 rfl (Nat.le_of_ble_eq_true rfl) (by omega) fun hU => ?_
 rw [show Zt O n []=Zt (O.upd i0 (some ⟨false,88,1,1,[(vI a0.left)]⟩)) n [] from by rw [Zts (show O i0=_ from by exact ho0)]]
 have hk0:∀ k,i0 < n+k:=fun k=>by omega
 have hN0:∀ o,Objs.upd O i0 o n=none:=fun o=>Vm hU hi0 _ (Nat.le_refl _)
 have hN:∀ o k,Objs.upd O i0 o (n+k)=none:=fun o k=>Vm hU hi0 _ (Nat.le_add_right _ _)
 show W _ _ _ _ ⟨46,[],[(0,.ref i0 0),(1,.agg (Zp a1)),(2,(vI a2))]⟩ (Zt (O.upd i0 (some ⟨false,88,1,1,[(vI a0.left)]⟩)) n []) _
 refine Zai [0,2,4] hi0 hk0 ?_
 refine Zd ?_
 obtain ⟨z3,hz3,h⟩:=bC h
 refine Y8 (E':=⟨46,[],[(0,.ref i0 0),(2,(vI a2)),(4,.ref n 0),(19,(vB z3))]⟩) (O':=(Zt (O.upd i0 (some ⟨false,88,1,1,[(vI a0.left)]⟩)) n [some ⟨false,58,9,1,(Zp a1)⟩])) (n0:=(n+1)) ?_ ?_
 ·obtain ⟨y6,hy6,hz3⟩:=bC hz3
  rcases Bool.eq_false_or_eq_true (decide (a2 < y6)) with c8 | c8
  ·replace hz3:=Zn c8 hz3
   refine X1 Zo (by kernel_rfl) [some false,some false,some false,some false,some false,some false,some false] (by kernel_rfl) ?_
   refine zX3 c8 hi0 hk0 ?_
   refine PCall.of (Zns hy6) ?_
   refine zX3 c8 hi0 hk0 ?_
   have hz3:=Option.some.inj hz3;subst hz3
   refine And.intro rfl (Fit2.of (Yi hU rfl rfl ?_) (by omega))
   exact Zv9 c8 hi0 hk0
  replace hz3:=Zm c8 hz3
  obtain ⟨y7,hy7,hz3⟩:=bC hz3
  refine X1 Zo (by kernel_rfl) [some true,some true,some true,some true,some true,some true,some true] (by kernel_rfl) ?_
  refine zX3 c8 hi0 hk0 ?_
  refine PCall.of (Zns hy6) ?_
  refine zX3 c8 hi0 hk0 ?_
  refine PCall.of (Znt hy7) ?_
  refine zX3 c8 hi0 hk0 ?_
  have hz3:=Option.some.inj hz3;subst hz3
  refine And.intro rfl (Fit2.of (Yi hU rfl rfl ?_) (by omega))
  exact Zv9 c8 hi0 hk0
 refine Zj (t:=z3) rfl (fun c21 => ?_) (fun c21 => ?_)
 ·replace h:=Zn c21 h
  refine Zai [6] hi0 hk0 ?_
  refine zW ?_
  have h:=Option.some.inj h;subst h
  refine K3 (k:=0) (i:=i0) (q1:=⟨false,88,1,1,[(vI a0.left)]⟩) (L3:=[none]) (E2:=(⟨46,[],[(6,(vI 3))]⟩:Env)) (n3:=(n+1)) (.inr rfl) hU rfl [(vI 3)] ?_ ?_
  ·refine Fit2.trans (E':=(⟨46,[],[(6,(vI 3))]⟩:Env)) (O':=(Zt (O.upd i0 (some ⟨false,88,1,1,[(vI a0.left)]⟩)) n [none])) (n':=(n+1)) (Fit2.of (Yi hU rfl rfl ?_) (by omega)) ?_
   ·exact Qr hi0 hk0
   refine Qf (k:=1) (k':=1) hU [0] [0] rfl rfl rfl rfl ⟨rfl,rfl⟩ ?_
   exact Qr hi0 hk0
  simp only [push_cast,seval,↓reduceIte,Zb,Tryz.results46,hi0,hk0,hN0,hN]
 replace h:=Zm c21 h
 refine Xs [0,2,4] [true] ?_
 refine Zd ?_
 obtain ⟨y10,hy10,h⟩:=bC h
 refine Zc4 Zo (by kernel_rfl) [false,false,false,false,false,false,false,false,false,true] [] (by kernel_rfl) ?_
 refine zX2 hi0 hk0 ?_
 refine PCall.of (Znt hy10) ?_
 refine zX2 hi0 hk0 ?_
 refine zDs [0,2,4] [true] ?_
 refine Zd ?_
 obtain ⟨y12,hy12,h⟩:=bC h
 refine Q5 [] hi0 hk0 ?_
 refine (Xx hy12).then ?_
 refine zX2 hi0 hk0 ?_
 refine zD [0,2,4,30] [true] ?_
 refine Yh ?_
 obtain ⟨z13,hz13,h⟩:=bC h
 refine Y8 (E':=⟨46,[],[(0,.ref i0 0),(2,(vI a2)),(4,.ref n 0),(30,(vI y12)),(31,(vB z13))]⟩) (O':=(Zt (O.upd i0 (some ⟨false,88,1,1,[(vI (IntKind.i64.wrap (a0.left - y10)))]⟩)) n [some ⟨false,58,9,1,(Zp a1)⟩])) (n0:=(n+1)) ?_ ?_
 ·refine Zai [0,2,4,30,31] hi0 hk0 ?_
  refine Zj (t:=(y12 == 1)) rfl (fun c14 => ?_) (fun c14 => ?_)
  ·replace hz13:=Zn c14 hz13
   refine zK ?_
   have hz13:=Option.some.inj hz13;subst hz13
   refine And.intro rfl (Fit2.of (Yi hU rfl rfl ?_) (by omega))
   exact Qr hi0 hk0
  replace hz13:=Zm c14 hz13
  refine Q5 [] hi0 hk0 ?_
  have hz13:=Option.some.inj hz13;subst hz13
  refine And.intro rfl (Fit2.of (Yi hU rfl rfl ?_) (by omega))
  exact Qr hi0 hk0
 refine Zj (t:=z13) rfl (fun c20 => ?_) (fun c20 => ?_)
 ·replace h:=Zn c20 h
  refine Zd ?_
  obtain ⟨y16,hy16,h⟩:=bC h
  refine Q5 [] hi0 hk0 ?_
  refine (Uo (i0:=i0) (by omega) (by simp only [push_cast,seval,↓reduceIte,Zb,Q8,hi0,hk0,hN0,hN] <;> rfl) hy16).then ?_
  refine zX2 hi0 hk0 ?_
  refine zD [6] [false] ?_
  refine zW ?_
  have h:=Option.some.inj h;subst h
  refine K3 (k:=0) (i:=i0) (q1:=⟨false,88,1,1,[(vI y16.2.left)]⟩) (L3:=[none]) (E2:=(⟨46,[],[(6,(vI y16.1))]⟩:Env)) (n3:=(n+1)) (.inr rfl) hU rfl [(vI y16.1)] ?_ ?_
  ·refine Fit2.trans (E':=(⟨46,[],[(6,(vI y16.1))]⟩:Env)) (O':=(Zt (O.upd i0 (some ⟨false,88,1,1,[(vI y16.2.left)]⟩)) n [none])) (n':=(n+1)) (Fit2.of (Yi hU rfl rfl ?_) (by omega)) ?_
   ·exact Qr hi0 hk0
   refine Qf (k:=1) (k':=1) hU [0] [0] rfl rfl rfl rfl ⟨rfl,rfl⟩ ?_
   exact Qr hi0 hk0
  simp only [push_cast,seval,↓reduceIte,Zb,Tryz.results46,hi0,hk0,hN0,hN]
 replace h:=Zm c20 h
 refine Zai [0,2,4,39] hi0 hk0 ?_
 refine Zj (t:=(y12 == 9)) rfl (fun c19 => ?_) (fun c19 => ?_)
 ·replace h:=Zn c19 h
  refine Zd ?_
  obtain ⟨y18,hy18,h⟩:=bC h
  refine Q5 [] hi0 hk0 ?_
  refine (Zab (i0:=i0) (by omega) (by simp only [push_cast,seval,↓reduceIte,Zb,Q8,hi0,hk0,hN0,hN] <;> rfl) hy18).then ?_
  refine zX2 hi0 hk0 ?_
  refine zD [6] [false] ?_
  refine zW ?_
  have h:=Option.some.inj h;subst h
  refine K3 (k:=0) (i:=i0) (q1:=⟨false,88,1,1,[(vI y18.2.left)]⟩) (L3:=[none]) (E2:=(⟨46,[],[(6,(vI y18.1))]⟩:Env)) (n3:=(n+1)) (.inr rfl) hU rfl [(vI y18.1)] ?_ ?_
  ·refine Fit2.trans (E':=(⟨46,[],[(6,(vI y18.1))]⟩:Env)) (O':=(Zt (O.upd i0 (some ⟨false,88,1,1,[(vI y18.2.left)]⟩)) n [none])) (n':=(n+1)) (Fit2.of (Yi hU rfl rfl ?_) (by omega)) ?_
   ·exact Qr hi0 hk0
   refine Qf (k:=1) (k':=1) hU [0] [0] rfl rfl rfl rfl ⟨rfl,rfl⟩ ?_
   exact Qr hi0 hk0
  simp only [push_cast,seval,↓reduceIte,Zb,Tryz.results46,hi0,hk0,hN0,hN]
 replace h:=Zm c19 h
 refine Xs [] [false] ?_
 refine Zai [6] hi0 hk0 ?_
 refine zW ?_
 have h:=Option.some.inj h;subst h
 refine K3 (k:=0) (i:=i0) (q1:=⟨false,88,1,1,[(vI (IntKind.i64.wrap (a0.left - y10)))]⟩) (L3:=[none]) (E2:=(⟨46,[],[(6,(vI 0))]⟩:Env)) (n3:=(n+1)) (.inr rfl) hU rfl [(vI 0)] ?_ ?_
 ·refine Fit2.trans (E':=(⟨46,[],[(6,(vI 0))]⟩:Env)) (O':=(Zt (O.upd i0 (some ⟨false,88,1,1,[(vI (IntKind.i64.wrap (a0.left - y10)))]⟩)) n [none])) (n':=(n+1)) (Fit2.of (Yi hU rfl rfl ?_) (by omega)) ?_
  ·exact Qr hi0 hk0
  refine Qf (k:=1) (k':=1) hU [0] [0] rfl rfl rfl rfl ⟨rfl,rfl⟩ ?_
  exact Qr hi0 hk0
 simp only [push_cast,seval,↓reduceIte,Zb,Tryz.results46,hi0,hk0,hN0,hN]
theorem Zng {Yl:(Zh→Zc→Int→Option (Int×Zh))} {Yk:(Zh→Zc→Int→Option (Int×Zh))} {Yo:(Zh→Zc→Int→Option (Int×Zh))} (Za8:Ub Yl) (Uo:Un Yk) (Zab:Va Yo) {a0:Zh} {a1:Zc} {a2:Int} {r:(Int×Zh)} {O:Objs} {n:Nat} {i0:Nat} (hi0:i0 < n) (ho0:O i0=some ⟨false,88,1,1,[(vI a0.left)]⟩) (h:Kr Yl Yk Yo a0 a1 a2=some r):GTo Tryz.prog 68 [.ref i0 0,.agg (Zp a1),(vI a2)] O n ((vI r.1)) (Zt (O.upd i0 (some ⟨false,88,1,1,[(vI r.2.left)]⟩)) n []) (n+0):=by
 unfold Kr at h
 refine Yj Zo Tryz.call68 Tryz.func68 rfl (Nat.le_of_ble_eq_true rfl) (by omega) fun hU => ?_
 rw [show Zt O n []=Zt (O.upd i0 (some ⟨false,88,1,1,[(vI a0.left)]⟩)) n [] from by rw [Zts (show O i0=_ from by exact ho0)]]
 have hk0:∀ k,i0 < n+k:=fun k=>by omega
 have hN0:∀ o,Objs.upd O i0 o n=none:=fun o=>Vm hU hi0 _ (Nat.le_refl _)
 have hN:∀ o k,Objs.upd O i0 o (n+k)=none:=fun o k=>Vm hU hi0 _ (Nat.le_add_right _ _)
 show W _ _ _ _ ⟨33,[],[(0,.ref i0 0),(1,.agg (Zp a1)),(2,(vI a2))]⟩ (Zt (O.upd i0 (some ⟨false,88,1,1,[(vI a0.left)]⟩)) n []) _
 refine Zai [0,2,4] hi0 hk0 ?_
 refine Zd ?_
 refine Zd ?_
 obtain ⟨y2,hy2,h⟩:=bC h
 refine Q5 [] hi0 hk0 ?_
 refine (Xw hy2).then ?_
 refine zX2 hi0 hk0 ?_
 refine zD [0,2,4,12,13] [true] ?_
 refine zD [0,2,4,12,13] [true] ?_
 obtain ⟨z10,hz10,h⟩:=bC h
 refine Zgb (J:=(Kf (fun z10=>JR n (⟨33,[],[(6,(vI z10.1))]⟩:Env) (Zt (O.upd i0 (some ⟨false,88,1,1,[(vI z10.2)]⟩)) n [none]) (n+1)) (fun z10=>JX 0 n (⟨33,[],[]⟩:Env) (Zt (O.upd i0 (some ⟨false,88,1,1,[(vI z10)]⟩)) n [none]) (n+1)))) (z:=z10) ?_ fun hw => ?_
 ·refine Y2 hz10 (fun s0_=>⟨33,[],[(0,.ref i0 0),(2,(vI a2)),(4,.ref n 0),(12,(vI y2)),(13,(vI s0_.1))]⟩) (fun s0_=>(Zt (O.upd i0 (some ⟨false,88,1,1,[(vI s0_.2)]⟩)) n [some ⟨false,58,9,1,(Zp a1)⟩])) (Kf (fun z10=>JR n (⟨33,[],[(6,(vI z10.1))]⟩:Env) (Zt (O.upd i0 (some ⟨false,88,1,1,[(vI z10.2)]⟩)) n [none]) (n+1)) (fun z10=>JX 0 n (⟨33,[],[]⟩:Env) (Zt (O.upd i0 (some ⟨false,88,1,1,[(vI z10)]⟩)) n [none]) (n+1))) ?_
  intro s0_ x0_ hs0_
  unfold Ks at hs0_
  try dsimp only
  refine Zai [0,2,4,12,13,14] hi0 hk0 ?_
  refine Zd ?_
  refine Zj (t:=(decide (s0_.1 < y2))) rfl (fun c9 => ?_) (fun c9 => ?_)
  ·replace hs0_:=Zn c9 hs0_
   refine Xs [0,2,4,12,13] [true] ?_
   refine Zd ?_
   refine Yh ?_
   refine Zai [0,2,4,7,12,13] hi0 hk0 ?_
   refine Zd ?_
   obtain ⟨y4,hy4,hs0_⟩:=bC hs0_
   refine Q5 [] hi0 hk0 ?_
   refine (Zf1 hy4).then ?_
   refine zX2 hi0 hk0 ?_
   refine zDs [0,2,4,8,9,12,13] [true,true] ?_
   refine Zai [0,2,4,8,9,12,13,23] hi0 hk0 ?_
   refine Zj (t:=(y4.2 != 0)) rfl (fun c8 => ?_) (fun c8 => ?_)
   ·replace hs0_:=Zn c8 hs0_
    refine Zai [6] hi0 hk0 ?_
    refine zW ?_
    have hs0_:=Option.some.inj hs0_;subst hs0_
    refine And.intro (fun h=>by cases h) (And.intro rfl (Fit2.of (Yi hU rfl rfl ?_) (by omega)))
    exact Qr hi0 hk0
   replace hs0_:=Zm c8 hs0_
   refine Xs [0,2,4,8,12,13] [true,true] ?_
   refine Zd ?_
   obtain ⟨y6,hy6,hs0_⟩:=bC hs0_
   refine Q5 [] hi0 hk0 ?_
   refine (Za8 (i0:=i0) (by omega) (by simp only [push_cast,seval,↓reduceIte,Zb,Q8,hi0,hk0,hN0,hN] <;> rfl) hy6).then ?_
   refine zX2 hi0 hk0 ?_
   refine zD [0,2,4,10,12,13] [true,false] ?_
   refine Zai [0,2,4,10,12,13,30] hi0 hk0 ?_
   refine Zj (t:=(y6.1 != 0)) rfl (fun c7 => ?_) (fun c7 => ?_)
   ·replace hs0_:=Zn c7 hs0_
    refine Zai [6] hi0 hk0 ?_
    refine zW ?_
    have hs0_:=Option.some.inj hs0_;subst hs0_
    refine And.intro (fun h=>by cases h) (And.intro rfl (Fit2.of (Yi hU rfl rfl ?_) (by omega)))
    exact Qr hi0 hk0
   replace hs0_:=Zm c7 hs0_
   refine Xs [0,2,4,12,13] [true,false] ?_
   refine Q5 [] hi0 hk0 ?_
   have hs0_:=Option.some.inj hs0_;subst hs0_
   refine And.intro rfl (Fit2.of (Yi hU rfl rfl ?_) (by omega))
   exact Qr hi0 hk0
  replace hs0_:=Zm c9 hs0_
  refine zXt ?_
  have hs0_:=Option.some.inj hs0_;subst hs0_
  refine And.intro (fun h=>by cases h) (And.intro rfl (Fit2.of (Yi hU rfl rfl ?_) (by omega)))
  exact Qr hi0 hk0
 rcases z10 with z10 | z10
 ·dsimp only [Kf] at hw h
  refine Zbf hw ?_
  try simp only [Y0,Ym,↓reduceIte,Nat.reduceEqDiff]
  have h:=Option.some.inj h;subst h
  refine K3 (k:=0) (i:=i0) (q1:=⟨false,88,1,1,[(vI z10.2)]⟩) (L3:=[none]) (E2:=(⟨33,[],[(6,(vI z10.1))]⟩:Env)) (n3:=(n+1)) (.inr rfl) hU rfl [(vI z10.1)] ?_ ?_
  ·refine Fit2.trans (E':=(⟨33,[],[(6,(vI z10.1))]⟩:Env)) (O':=(Zt (O.upd i0 (some ⟨false,88,1,1,[(vI z10.2)]⟩)) n [none])) (n':=(n+1)) (Fit2.of (Yi hU rfl rfl ?_) (by omega)) ?_
   ·exact Qr hi0 hk0
   refine Qf (k:=1) (k':=1) hU [0] [0] rfl rfl rfl rfl ⟨rfl,rfl⟩ ?_
   exact Qr hi0 hk0
  simp only [push_cast,seval,↓reduceIte,Zb,Tryz.results68,hi0,hk0,hN0,hN]
 dsimp only [Kf] at hw h
 refine Yv hw ?_
 try simp only [Y0,Ym,↓reduceIte,Nat.reduceEqDiff]
 refine zD [] [false] ?_
 refine Zai [6] hi0 hk0 ?_
 refine zW ?_
 have h:=Option.some.inj h;subst h
 refine K3 (k:=0) (i:=i0) (q1:=⟨false,88,1,1,[(vI z10)]⟩) (L3:=[none]) (E2:=(⟨33,[],[(6,(vI 0))]⟩:Env)) (n3:=(n+1)) (.inr rfl) hU rfl [(vI 0)] ?_ ?_
 ·refine Fit2.trans (E':=(⟨33,[],[(6,(vI 0))]⟩:Env)) (O':=(Zt (O.upd i0 (some ⟨false,88,1,1,[(vI z10)]⟩)) n [none])) (n':=(n+1)) (Fit2.of (Yi hU rfl rfl ?_) (by omega)) ?_
  ·exact Qr hi0 hk0
  refine Qf (k:=1) (k':=1) hU [0] [0] rfl rfl rfl rfl ⟨rfl,rfl⟩ ?_
  exact Qr hi0 hk0
 simp only [push_cast,seval,↓reduceIte,Zb,Tryz.results68,hi0,hk0,hN0,hN]
theorem Zkh {Yl:(Zh→Zc→Int→Option (Int×Zh))} {Yk:(Zh→Zc→Int→Option (Int×Zh))} {Yo:(Zh→Zc→Int→Option (Int×Zh))} (Za8:Ub Yl) (Uo:Un Yk) (Zab:Va Yo) {a0:Zh} {a1:Zc} {a2:Int} {r:(Int×Zh)} {O:Objs} {n:Nat} {i0:Nat} (hi0:i0 < n) (ho0:O i0=some ⟨false,88,1,1,[(vI a0.left)]⟩) (h:Qy Yl Yk Yo a0 a1 a2=some r):GTo Tryz.prog 69 [.ref i0 0,.agg (Zp a1),(vI a2)] O n ((vI r.1)) (Zt (O.upd i0 (some ⟨false,88,1,1,[(vI r.2.left)]⟩)) n []) (n+0):=by
 unfold Qy at h
 refine Yj Zo Tryz.call69 Tryz.func69 rfl (Nat.le_of_ble_eq_true rfl) (by omega) fun hU => ?_
 rw [show Zt O n []=Zt (O.upd i0 (some ⟨false,88,1,1,[(vI a0.left)]⟩)) n [] from by rw [Zts (show O i0=_ from by exact ho0)]]
 have hk0:∀ k,i0 < n+k:=fun k=>by omega
 have hN0:∀ o,Objs.upd O i0 o n=none:=fun o=>Vm hU hi0 _ (Nat.le_refl _)
 have hN:∀ o k,Objs.upd O i0 o (n+k)=none:=fun o k=>Vm hU hi0 _ (Nat.le_add_right _ _)
 show W _ _ _ _ ⟨34,[],[(0,.ref i0 0),(1,.agg (Zp a1)),(2,(vI a2))]⟩ (Zt (O.upd i0 (some ⟨false,88,1,1,[(vI a0.left)]⟩)) n []) _
 refine Zai [0,2,4] hi0 hk0 ?_
 refine Zd ?_
 refine Zd ?_
 obtain ⟨y2,hy2,h⟩:=bC h
 refine Q5 [] hi0 hk0 ?_
 refine (Xw hy2).then ?_
 refine zX2 hi0 hk0 ?_
 refine zD [0,2,4,12,13] [true] ?_
 refine zD [0,2,4,12,13] [true] ?_
 obtain ⟨z10,hz10,h⟩:=bC h
 refine Zgb (J:=(Kf (fun z10=>JR n (⟨34,[],[(6,(vI z10.1))]⟩:Env) (Zt (O.upd i0 (some ⟨false,88,1,1,[(vI z10.2)]⟩)) n [none]) (n+1)) (fun z10=>JX 0 n (⟨34,[],[]⟩:Env) (Zt (O.upd i0 (some ⟨false,88,1,1,[(vI z10)]⟩)) n [none]) (n+1)))) (z:=z10) ?_ fun hw => ?_
 ·refine Y2 hz10 (fun s0_=>⟨34,[],[(0,.ref i0 0),(2,(vI a2)),(4,.ref n 0),(12,(vI y2)),(13,(vI s0_.1))]⟩) (fun s0_=>(Zt (O.upd i0 (some ⟨false,88,1,1,[(vI s0_.2)]⟩)) n [some ⟨false,58,9,1,(Zp a1)⟩])) (Kf (fun z10=>JR n (⟨34,[],[(6,(vI z10.1))]⟩:Env) (Zt (O.upd i0 (some ⟨false,88,1,1,[(vI z10.2)]⟩)) n [none]) (n+1)) (fun z10=>JX 0 n (⟨34,[],[]⟩:Env) (Zt (O.upd i0 (some ⟨false,88,1,1,[(vI z10)]⟩)) n [none]) (n+1))) ?_
  intro s0_ x0_ hs0_
  unfold Q7 at hs0_
  try dsimp only
  refine Zai [0,2,4,12,13,14] hi0 hk0 ?_
  refine Zd ?_
  refine Zj (t:=(decide (s0_.1 < y2))) rfl (fun c9 => ?_) (fun c9 => ?_)
  ·replace hs0_:=Zn c9 hs0_
   refine Xs [0,2,4,12,13] [true] ?_
   refine Zd ?_
   refine Yh ?_
   refine Zai [0,2,4,7,12,13] hi0 hk0 ?_
   refine Zd ?_
   obtain ⟨y4,hy4,hs0_⟩:=bC hs0_
   refine Q5 [] hi0 hk0 ?_
   refine (Zf1 hy4).then ?_
   refine zX2 hi0 hk0 ?_
   refine zDs [0,2,4,8,9,12,13] [true,true] ?_
   refine Zai [0,2,4,8,9,12,13,23] hi0 hk0 ?_
   refine Zj (t:=(y4.2 != 0)) rfl (fun c8 => ?_) (fun c8 => ?_)
   ·replace hs0_:=Zn c8 hs0_
    refine Zai [6] hi0 hk0 ?_
    refine zW ?_
    have hs0_:=Option.some.inj hs0_;subst hs0_
    refine And.intro (fun h=>by cases h) (And.intro rfl (Fit2.of (Yi hU rfl rfl ?_) (by omega)))
    exact Qr hi0 hk0
   replace hs0_:=Zm c8 hs0_
   refine Xs [0,2,4,8,12,13] [true,true] ?_
   refine Zd ?_
   obtain ⟨y6,hy6,hs0_⟩:=bC hs0_
   refine Q5 [] hi0 hk0 ?_
   refine (Uo (i0:=i0) (by omega) (by simp only [push_cast,seval,↓reduceIte,Zb,Q8,hi0,hk0,hN0,hN] <;> rfl) hy6).then ?_
   refine zX2 hi0 hk0 ?_
   refine zD [0,2,4,10,12,13] [true,false] ?_
   refine Zai [0,2,4,10,12,13,31] hi0 hk0 ?_
   refine Zj (t:=(y6.1 != 0)) rfl (fun c7 => ?_) (fun c7 => ?_)
   ·replace hs0_:=Zn c7 hs0_
    refine Zai [6] hi0 hk0 ?_
    refine zW ?_
    have hs0_:=Option.some.inj hs0_;subst hs0_
    refine And.intro (fun h=>by cases h) (And.intro rfl (Fit2.of (Yi hU rfl rfl ?_) (by omega)))
    exact Qr hi0 hk0
   replace hs0_:=Zm c7 hs0_
   refine Xs [0,2,4,12,13] [true,false] ?_
   refine Q5 [] hi0 hk0 ?_
   have hs0_:=Option.some.inj hs0_;subst hs0_
   refine And.intro rfl (Fit2.of (Yi hU rfl rfl ?_) (by omega))
   exact Qr hi0 hk0
  replace hs0_:=Zm c9 hs0_
  refine zXt ?_
  have hs0_:=Option.some.inj hs0_;subst hs0_
  refine And.intro (fun h=>by cases h) (And.intro rfl (Fit2.of (Yi hU rfl rfl ?_) (by omega)))
  exact Qr hi0 hk0
 rcases z10 with z10 | z10
 ·dsimp only [Kf] at hw h
  refine Zbf hw ?_
  try simp only [Y0,Ym,↓reduceIte,Nat.reduceEqDiff]
  have h:=Option.some.inj h;subst h
  refine K3 (k:=0) (i:=i0) (q1:=⟨false,88,1,1,[(vI z10.2)]⟩) (L3:=[none]) (E2:=(⟨34,[],[(6,(vI z10.1))]⟩:Env)) (n3:=(n+1)) (.inr rfl) hU rfl [(vI z10.1)] ?_ ?_
  ·refine Fit2.trans (E':=(⟨34,[],[(6,(vI z10.1))]⟩:Env)) (O':=(Zt (O.upd i0 (some ⟨false,88,1,1,[(vI z10.2)]⟩)) n [none])) (n':=(n+1)) (Fit2.of (Yi hU rfl rfl ?_) (by omega)) ?_
   ·exact Qr hi0 hk0
   refine Qf (k:=1) (k':=1) hU [0] [0] rfl rfl rfl rfl ⟨rfl,rfl⟩ ?_
   exact Qr hi0 hk0
  simp only [push_cast,seval,↓reduceIte,Zb,Tryz.results69,hi0,hk0,hN0,hN]
 dsimp only [Kf] at hw h
 refine Yv hw ?_
 try simp only [Y0,Ym,↓reduceIte,Nat.reduceEqDiff]
 refine zD [] [false] ?_
 refine Zai [6] hi0 hk0 ?_
 refine zW ?_
 have h:=Option.some.inj h;subst h
 refine K3 (k:=0) (i:=i0) (q1:=⟨false,88,1,1,[(vI z10)]⟩) (L3:=[none]) (E2:=(⟨34,[],[(6,(vI 0))]⟩:Env)) (n3:=(n+1)) (.inr rfl) hU rfl [(vI 0)] ?_ ?_
 ·refine Fit2.trans (E':=(⟨34,[],[(6,(vI 0))]⟩:Env)) (O':=(Zt (O.upd i0 (some ⟨false,88,1,1,[(vI z10)]⟩)) n [none])) (n':=(n+1)) (Fit2.of (Yi hU rfl rfl ?_) (by omega)) ?_
  ·exact Qr hi0 hk0
  refine Qf (k:=1) (k':=1) hU [0] [0] rfl rfl rfl rfl ⟨rfl,rfl⟩ ?_
  exact Qr hi0 hk0
 simp only [push_cast,seval,↓reduceIte,Zb,Tryz.results69,hi0,hk0,hN0,hN]
theorem Zkf:∀ k,(Ub ((Zs k).1))∧(Un ((Zs k).2.1))∧(Va ((Zs k).2.2)):=fun k=>by
 induction k with
 | zero=>exact ⟨@fun a0 a1 a2 r O n i0 hi0 ho0 h=>(nomatch (show (none:Option _)=some _ from h)),@fun a0 a1 a2 r O n i0 hi0 ho0 h=>(nomatch (show (none:Option _)=some _ from h)),@fun a0 a1 a2 r O n i0 hi0 ho0 h=>(nomatch (show (none:Option _)=some _ from h))⟩
 | succ k ih=>exact ⟨@fun a0 a1 a2 r O n i0 hi0 ho0 h=>Zl2 (ih.1) (ih.2.1) (ih.2.2) hi0 ho0 h,@fun a0 a1 a2 r O n i0 hi0 ho0 h=>Zng (ih.1) (ih.2.1) (ih.2.2) hi0 ho0 h,@fun a0 a1 a2 r O n i0 hi0 ho0 h=>Zkh (ih.1) (ih.2.1) (ih.2.2) hi0 ho0 h⟩
theorem Zne {a0:Zh} {a1:Zc} {a2:Int} {r:(Int×Zh)} {O:Objs} {n:Nat} {i0:Nat} (hi0:i0 < n) (ho0:O i0=some ⟨false,88,1,1,[(vI a0.left)]⟩) (h:Zc2 a0 a1 a2=some r):GTo Tryz.prog 46 [.ref i0 0,.agg (Zp a1),(vI a2)] O n ((vI r.1)) (Zt (O.upd i0 (some ⟨false,88,1,1,[(vI r.2.left)]⟩)) n []) (n+0):=by
 obtain ⟨k,hk⟩:=Zcg h
 exact (Zkf k).1 hi0 ho0 hk
theorem Zxe {a0:(Option Zl)} {a1:Z0} {r:(Int×Int)} {O:Objs} {n:Nat} (h:Zeg a0 a1=some r):GTo Tryz.prog 23 [(gP Zq a0),.agg (Yd a1)] O n (.tup [(vI r.1),(vI r.2)]) O n:=by
 unfold Zeg at h
 refine Yj Zo Tryz.call23 Tryz.func23 rfl (Nat.le_of_ble_eq_true rfl) (Nat.le_refl _) fun hU => ?_
 have hN0:O n=none:=hU.fresh _ (Nat.le_refl _)
 have hN:∀ k,O (n+k)=none:=fun k=>hU.fresh _ (Nat.le_add_right _ _)
 show W _ _ _ _ ⟨35,[],[(0,(gP Zq a0)),(1,.agg (Yd a1))]⟩ (Zt O n []) _
 refine zQ [0,3] ?_
 refine Zd ?_
 obtain ⟨y2,hy2,h⟩:=bC h
 refine zCd (Zv7 hy2) [0,3] [true] ?_
 refine Zd ?_
 obtain ⟨y4,hy4,h⟩:=bC h
 refine zCd (Zow hy4) [3,6,7] [true,true] ?_
 refine Zd ?_
 refine zQ [3,6,7,18] ?_
 refine Zj (t:=(y4.2 != 0)) rfl (fun c8 => ?_) (fun c8 => ?_)
 ·replace h:=Zn c8 h
  refine zQ [4,5] ?_
  refine zW ?_
  have h:=Option.some.inj h;subst h
  refine Zi (.inr rfl) hU [(vI 0),(vI y4.2)] (by omega) ?_
  simp only [push_cast,seval,↓reduceIte,Zb,Tryz.results23,hN0,hN]
 replace h:=Zm c8 h
 refine Xs [3,6] [true,true] ?_
 refine Zd ?_
 refine zRd [3,6,8] [true,true,true] ?_
 refine Zd ?_
 refine Zd ?_
 obtain ⟨y6,hy6,h⟩:=bC h
 refine zR ?_
 refine (Zne (i0:=(n+2)) (by omega) (by simp only [push_cast,seval,↓reduceIte,Zb,Q8,hN0,hN] <;> rfl) hy6).then ?_
 refine zS ?_
 refine zD [3,8,9] [true,false,true] ?_
 refine zQ [3,8,9,28] ?_
 refine Zj (t:=(y6.1 != 0)) rfl (fun c7 => ?_) (fun c7 => ?_)
 ·replace h:=Zn c7 h
  refine zQ [4,5] ?_
  refine zW ?_
  have h:=Option.some.inj h;subst h
  refine Zi (.inr rfl) hU [(vI 0),(vI y6.1)] (by omega) ?_
  simp only [push_cast,seval,↓reduceIte,Zb,Tryz.results23,hN0,hN]
 replace h:=Zm c7 h
 refine Xs [3,8] [true,false,true] ?_
 refine zQ [4,5] ?_
 refine zW ?_
 have h:=Option.some.inj h;subst h
 refine Zi (.inr rfl) hU [(vI (IntKind.i64.wrap (y2.Weight - y6.2.left))),(vI 0)] (by omega) ?_
 simp only [push_cast,seval,↓reduceIte,Zb,Tryz.results23,hN0,hN]
theorem Zuc {a0:Zc} {r:Int} {O:Objs} {n:Nat} (h:Zck a0=some r):GTo Tryz.prog 72 [.agg (Zp a0)] O n ((vI r)) O n:=by
 unfold Zck at h
 refine Yj Zo Tryz.call72 Tryz.func72 rfl (Nat.le_of_ble_eq_true rfl) (Nat.le_refl _) fun hU => ?_
 have hN0:O n=none:=hU.fresh _ (Nat.le_refl _)
 have hN:∀ k,O (n+k)=none:=fun k=>hU.fresh _ (Nat.le_add_right _ _)
 show W _ _ _ _ ⟨20,[],[(0,.agg (Zp a0))]⟩ (Zt O n []) _
 refine zQ [1] ?_
 refine Zd ?_
 refine Zd ?_
 obtain ⟨y2,hy2,h⟩:=bC h
 refine zCd (Xx hy2) [1,4] [true] ?_
 refine Yh ?_
 refine zQ [1,4,5] ?_
 refine Zj (t:=(y2 == 0)) rfl (fun c11 => ?_) (fun c11 => ?_)
 ·replace h:=Zn c11 h
  refine zQ [2] ?_
  refine zW ?_
  have h:=Option.some.inj h;subst h
  refine Zi (.inr rfl) hU [(vI 0)] (by omega) ?_
  simp only [push_cast,seval,↓reduceIte,Zb,Tryz.results72,hN0,hN]
 replace h:=Zm c11 h
 refine zQ [1,4,7] ?_
 refine Zj (t:=(y2 == 1)) rfl (fun c10 => ?_) (fun c10 => ?_)
 ·replace h:=Zn c10 h
  refine Zd ?_
  obtain ⟨y5,hy5,h⟩:=bC h
  obtain ⟨y6,hy6,h⟩:=bC h
  refine X1 Zo (by kernel_rfl) [] (by kernel_rfl) ?_
  refine zS ?_
  refine PCall.of (Zbd hy5) ?_
  refine zS ?_
  refine PCall.of (Xw hy6) ?_
  refine zS ?_
  refine zD [2] [false] ?_
  refine zW ?_
  have h:=Option.some.inj h;subst h
  refine Zi (.inr rfl) hU [(vI (IntKind.i64.wrap ((IntKind.i64.wrap (1+y5))+y6)))] (by omega) ?_
  simp only [push_cast,seval,↓reduceIte,Zb,Tryz.results72,hN0,hN]
 replace h:=Zm c10 h
 refine zQ [1,15] ?_
 refine Zj (t:=(y2 == 8)) rfl (fun c9 => ?_) (fun c9 => ?_)
 ·replace h:=Zn c9 h
  refine Zd ?_
  obtain ⟨y8,hy8,h⟩:=bC h
  refine zCd (Xw hy8) [2] [false] ?_
  refine zW ?_
  have h:=Option.some.inj h;subst h
  refine Zi (.inr rfl) hU [(vI (IntKind.i64.wrap (1+y8)))] (by omega) ?_
  simp only [push_cast,seval,↓reduceIte,Zb,Tryz.results72,hN0,hN]
 replace h:=Zm c9 h
 refine Xs [] [false] ?_
 refine zQ [2] ?_
 refine zW ?_
 have h:=Option.some.inj h;subst h
 refine Zi (.inr rfl) hU [(vI 1)] (by omega) ?_
 simp only [push_cast,seval,↓reduceIte,Zb,Tryz.results72,hN0,hN]
theorem Ztd {a0:Int} {r:Bool} {O:Objs} {n:Nat} (h:Zdk a0=some r):GTo Tryz.prog 79 [(vI a0)] O n ((vB r)) O n:=by
 unfold Zdk at h
 refine Yj Zo Tryz.call79 Tryz.func79 rfl (Nat.le_of_ble_eq_true rfl) (Nat.le_refl _) fun hU => ?_
 have hN0:O n=none:=hU.fresh _ (Nat.le_refl _)
 have hN:∀ k,O (n+k)=none:=fun k=>hU.fresh _ (Nat.le_add_right _ _)
 show W _ _ _ _ ⟨9,[],[(0,(vI a0))]⟩ (Zt O n []) _
 refine zQ [0] ?_
 refine zQD [2] [none,none] ?_
 refine zW ?_
 have h:=Option.some.inj h;subst h
 refine Zi (.inr rfl) hU [(vB (cond (decide (2≤a0)) (decide (a0≤9)) false))] (by omega) ?_
 simp only [push_cast,seval,↓reduceIte,Zb,Tryz.results79,hN0,hN]
theorem Zv6 {a0:Zc} {r:Bool} {O:Objs} {n:Nat} (h:Zdm a0=some r):GTo Tryz.prog 73 [.agg (Zp a0)] O n ((vB r)) O n:=by
 unfold Zdm at h
 refine Yj Zo Tryz.call73 Tryz.func73 rfl (Nat.le_of_ble_eq_true rfl) (Nat.le_refl _) fun hU => ?_
 have hN0:O n=none:=hU.fresh _ (Nat.le_refl _)
 have hN:∀ k,O (n+k)=none:=fun k=>hU.fresh _ (Nat.le_add_right _ _)
 show W _ _ _ _ ⟨11,[],[(0,.agg (Zp a0))]⟩ (Zt O n []) _
 refine zQ [1] ?_
 obtain ⟨z4,hz4,h⟩:=bC h
 refine Y8 (E':=⟨11,[],[(2,(vB z4))]⟩) (O':=(Zt O n [none])) (n0:=(n+1)) ?_ ?_
 ·obtain ⟨y8,hy8,hz4⟩:=bC hz4
  rcases Bool.eq_false_or_eq_true (y8 == 1) with c11 | c11
  ·replace hz4:=Zn c11 hz4
   refine Vc [some false,some false,some false] c11 ?_
   refine (Xx hy8).then ?_
   refine zX1 c11 ?_
   exact Ki hz4 c11
  replace hz4:=Zm c11 hz4
  obtain ⟨y9,hy9,hz4⟩:=bC hz4
  obtain ⟨y10,hy10,hz4⟩:=bC hz4
  refine Vc [some true,some true,some true] c11 ?_
  refine (Xx hy8).then ?_
  refine zX1 c11 ?_
  refine (Xx hy9).then ?_
  refine zX1 c11 ?_
  refine (Ztd hy10).then ?_
  refine zX1 c11 ?_
  exact Ki hz4 c11
 refine zW ?_
 have h:=Option.some.inj h;subst h
 refine Zi (.inr rfl) hU [(vB z4)] (by omega) ?_
 simp only [push_cast,seval,↓reduceIte,Zb,Tryz.results73,hN0,hN]
theorem Zei {a0:Int} {r:(Int×Bool)} {O:Objs} {n:Nat} (h:Jh a0=some r):GTo Tryz.prog 101 [(vI a0)] O n (.tup [(vI r.1),(vB r.2)]) O n:=by
 unfold Jh at h
 refine Yj Zo Tryz.call101 Tryz.func101 rfl (Nat.le_of_ble_eq_true rfl) (Nat.le_refl _) fun hU => ?_
 have hN0:O n=none:=hU.fresh _ (Nat.le_refl _)
 have hN:∀ k,O (n+k)=none:=fun k=>hU.fresh _ (Nat.le_add_right _ _)
 show W _ _ _ _ ⟨15,[],[(0,(vI a0))]⟩ (Zt O n []) _
 refine zQ [0] ?_
 refine Zd ?_
 obtain ⟨y6,hy6,ey6,h⟩:=bY (f:=(eI .i64)) (cs:=[.val (.int .i64 0),.val (.int .i64 1),.val (.int .i64 8),.val (.int .i64 16),.val (.int .i64 32),.val (.int .i64 64)]) rfl h
 have g7:=congrArg G.agg ey6
 obtain ⟨y8,hy8,ey8,h⟩:=bY (f:=(eI .i64)) (cs:=[.val (.int .i64 0),.val (.int .i64 0),.val (.int .i64 0),.val (.int .i64 0),.val (.int .i64 0),.val (.int .i64 0)]) rfl h
 have g9:=congrArg (GObj.mk false 139 6 1) ey8
 have g10:=Zw2 (f:=(eI .i64)) y8 y6 (fun _=>rfl)
 refine Zku [] g7 g9 g10 ?_
 refine zDs [0,4] [true] ?_
 refine zQD [0,4,11] [none,none] ?_
 refine Zj (t:=(cond (decide (a0 < 0)) true (decide (6≤a0)))) rfl (fun c13 => ?_) (fun c13 => ?_)
 ·replace h:=Zn c13 h
  refine zQ [2,3] ?_
  refine zW ?_
  have h:=Option.some.inj h;subst h
  refine Zi (.inr rfl) hU [(vI 0),(vB false)] (by omega) ?_
  simp only [push_cast,seval,↓reduceIte,Zb,Tryz.results101,hN0,hN]
 replace h:=Zm c13 h
 refine Xs [0,4] [true] ?_
 obtain ⟨x12,hx12,ax12,bx12,cx12,h⟩:=bEA (f:=(eI .i64)) (b:=6) rfl Z1v (fun _=>rfl) (by decide) h
 refine Zb4 [2,3] (Z5 Zo [] ?_)
 refine zF3 ax12 bx12 cx12 ?_
 refine zW ?_
 have h:=Option.some.inj h;subst h
 refine Zi (.inr rfl) hU [(vI x12),(vB true)] (by omega) ?_
 simp only [push_cast,seval,↓reduceIte,Zb,Tryz.results101,hN0,hN]
theorem Z26 {a0:(List Int)} {a1:Int} {a2:Int} {r:Int} {O:Objs} {n:Nat} (h:Zjv a0 a1 a2=some r):GTo Tryz.prog 108 [(sL (eI .u64) a0),(vI a1),(vI a2)] O n (.val (.int .u64 r)) O n:=by
 unfold Zjv at h
 refine Yj Zo Tryz.call108 Tryz.func108 rfl (Nat.le_of_ble_eq_true rfl) (Nat.le_refl _) fun hU => ?_
 have hN0:O n=none:=hU.fresh _ (Nat.le_refl _)
 have hN:∀ k,O (n+k)=none:=fun k=>hU.fresh _ (Nat.le_add_right _ _)
 show W _ _ _ _ ⟨45,[],[(0,(sL (eI .u64) a0)),(1,(vI a1)),(2,(vI a2))]⟩ (Zt O n []) _
 refine zQ [0,1,2] ?_
 refine Zd ?_
 obtain ⟨y2,hy2,h⟩:=bC h
 refine zCd (Zei hy2) [0,2,7] [] ?_
 refine Zd ?_
 refine zQD [0,2,7,20] [none,none] ?_
 refine Zj (t:=(cond (y2.1 == 0) true (decide (a2 < 0)))) rfl (fun c18 => ?_) (fun c18 => ?_)
 ·replace h:=Zn c18 h
  refine zQ [6] ?_
  refine zW ?_
  have h:=Option.some.inj h;subst h
  refine Zi (.inr rfl) hU [.val (.int .u64 0)] (by omega) ?_
  simp only [push_cast,seval,↓reduceIte,Zb,Tryz.results108,hN0,hN]
 replace h:=Zm c18 h
 refine Xs [0,2,7] [] ?_
 obtain ⟨pu4,h⟩:=bG h
 refine Zb4 [0,2,7,9] (Z5 Zo [] ?_)
 simp only [push_cast,seval,↓reduceIte,Zb,pu4,hN0,hN]
 refine Zd ?_
 obtain ⟨pu6,h⟩:=bG h
 refine Zb4 [0,2,7,9,28] (Z5 Zo [] ?_)
 simp only [push_cast,seval,↓reduceIte,Zb,pu6,hN0,hN]
 refine Zj (t:=(decide ((a0.length:Int)≤(IntKind.i64.wrap (Int.tdiv a2 (IntKind.i64.wrap (Int.tdiv 64 y2.1))))))) rfl (fun c17 => ?_) (fun c17 => ?_)
 ·replace h:=Zn c17 h
  refine zQ [6] ?_
  refine zW ?_
  have h:=Option.some.inj h;subst h
  refine Zi (.inr rfl) hU [.val (.int .u64 0)] (by omega) ?_
  simp only [push_cast,seval,↓reduceIte,Zb,Tryz.results108,hN0,hN]
 replace h:=Zm c17 h
 refine Xs [0,2,7,9] [] ?_
 obtain ⟨pu12,h⟩:=bG h
 obtain ⟨x13,hx13,ax13,bx13,cx13,h⟩:=bE (f:=(eI .u64)) Jd (fun _=>rfl) (by decide) h
 obtain ⟨pu14,h⟩:=bG h
 obtain ⟨pu15,h⟩:=bG h
 obtain ⟨pu16,h⟩:=bG h
 refine Zb4 [6] (X1 Zo (by kernel_rfl) [] (by kernel_rfl) ?_)
 refine zF7 pu12 ax13 bx13 cx13 pu14 pu15 pu16 ?_
 refine zW ?_
 have h:=Option.some.inj h;subst h
 refine Zi (.inr rfl) hU [.val (.int .u64 (IntKind.u64.wrap (Zdg .u64 (Int.fdiv x13 (2 ^ min (Int.toNat (IntKind.i64.wrap ((Int.tmod a2 (IntKind.i64.wrap (Int.tdiv 64 y2.1))) * y2.1))) 64)) (IntKind.u64.wrap ((IntKind.u64.wrap (1 * 2 ^ min (Int.toNat y2.1) 64)) - 1)))))] (by omega) ?_
 simp only [push_cast,seval,↓reduceIte,Zb,Tryz.results108,hN0,hN]
theorem Zov {a0:Zc} {r:Int} {O:Objs} {n:Nat} (h:U6 a0=some r):GTo Tryz.prog 99 [.agg (Zp a0)] O n (.val (.int .u64 r)) O n:=by
 unfold U6 at h
 refine Yj Zo Tryz.call99 Tryz.func99 rfl (Nat.le_of_ble_eq_true rfl) (Nat.le_refl _) fun hU => ?_
 have hN0:O n=none:=hU.fresh _ (Nat.le_refl _)
 have hN:∀ k,O (n+k)=none:=fun k=>hU.fresh _ (Nat.le_add_right _ _)
 show W _ _ _ _ ⟨42,[],[(0,.agg (Zp a0))]⟩ (Zt O n []) _
 refine zQ [1] ?_
 refine Zd ?_
 obtain ⟨y2,hy2,h⟩:=bC h
 refine zCd (Zei hy2) [1,3] [true] ?_
 refine Zd ?_
 refine zQ [1,3,15] ?_
 refine Zj (t:=(y2.1 == 0)) rfl (fun c13 => ?_) (fun c13 => ?_)
 ·replace h:=Zn c13 h
  refine zQ [2] ?_
  refine zW ?_
  have h:=Option.some.inj h;subst h
  refine Zi (.inr rfl) hU [.val (.int .u64 0)] (by omega) ?_
  simp only [push_cast,seval,↓reduceIte,Zb,Tryz.results99,hN0,hN]
 replace h:=Zm c13 h
 refine Xs [1,3] [true] ?_
 obtain ⟨pu4,h⟩:=bG h
 refine Zb4 [1,5] (Z5 Zo [] ?_)
 simp only [push_cast,seval,↓reduceIte,Zb,pu4,hN0,hN]
 refine Zd ?_
 obtain ⟨pu7,h⟩:=bG h
 obtain ⟨y8,hy8,h⟩:=bC h
 refine X1 Zo (by kernel_rfl) [] (by kernel_rfl) ?_
 simp only [push_cast,seval,↓reduceIte,Zb,pu7,hN0,hN]
 refine PCall.of (Zaa hy8) ?_
 simp only [push_cast,seval,↓reduceIte,Zb,pu7,hN0,hN]
 refine zDs [1,5,6] [true] ?_
 obtain ⟨pu11,h⟩:=bG h
 obtain ⟨y12,hy12,h⟩:=bC h
 refine Zih Zo (by kernel_rfl) [.plain,.pass,.low,.low,.low,.low,.plain,.low,.bar,.plain] (fun i=>i < (n+1)) [0,2,3,4,5,6,7,1,8,9] [.plain,.low,.low,.low,.low,.plain,.low,.pass,.bar,.plain] [] (by kernel_rfl) rfl ?_
 simp only [push_cast,seval,↓reduceIte,Zb,pu11,hN0,hN]
 refine zO ?_
 refine GCalls.lend (Z26 hy12) rfl ?_ ?_
 ·simp only [push_cast,seval,↓reduceIte,Zb,pu11,hN0,hN]
 simp only [push_cast,seval,↓reduceIte,Zb,pu11,hN0,hN]
 refine zO ?_
 refine Zah ⟨42,[],[(2,.val (.int .u64 y12))]⟩ (Zt O n [none,none]) (Z8 hU rfl rfl ?_) ?_
 ·simp only [push_cast,seval,↓reduceIte,Zb,pu11,hN0,hN]
 refine zW ?_
 have h:=Option.some.inj h;subst h
 refine Zi (.inr rfl) hU [.val (.int .u64 y12)] (by omega) ?_
 simp only [push_cast,seval,↓reduceIte,Zb,Tryz.results99,hN0,hN]
theorem Zj1 {a0:Zc} {a1:Int} {r:Int} {O:Objs} {n:Nat} (h:Zav a0 a1=some r):GTo Tryz.prog 75 [.agg (Zp a0),(vI a1)] O n (.val (.int .u64 r)) O n:=by
 unfold Zav at h
 refine Yj Zo Tryz.call75 Tryz.func75 rfl (Nat.le_of_ble_eq_true rfl) (Nat.le_refl _) fun hU => ?_
 have hN0:O n=none:=hU.fresh _ (Nat.le_refl _)
 have hN:∀ k,O (n+k)=none:=fun k=>hU.fresh _ (Nat.le_add_right _ _)
 show W _ _ _ _ ⟨33,[],[(0,.agg (Zp a0)),(1,(vI a1))]⟩ (Zt O n []) _
 refine zQ [1,2] ?_
 refine Zd ?_
 obtain ⟨z2,hz2,h⟩:=bC h
 refine Y8 (E':=⟨33,[],[(1,(vI a1)),(2,.ref n 0),(14,(vB z2))]⟩) (O':=(Zt O n [some ⟨false,58,9,1,(Zp a0)⟩])) (n0:=(n+1)) ?_ ?_
 ·rcases Bool.eq_false_or_eq_true (decide (a1 < 0)) with c5 | c5
  ·replace hz2:=Zn c5 hz2
   refine Vc [some false,some false,some false,some false] c5 ?_
   exact Ki hz2 c5
  replace hz2:=Zm c5 hz2
  obtain ⟨y4,hy4,hz2⟩:=bC hz2
  refine Vc [some true,some true,some true,some true] c5 ?_
  refine (Zbd hy4).then ?_
  refine zX1 c5 ?_
  exact Ki hz2 c5
 refine Zj (t:=z2) rfl (fun c11 => ?_) (fun c11 => ?_)
 ·replace h:=Zn c11 h
  refine zQ [4] ?_
  refine zW ?_
  have h:=Option.some.inj h;subst h
  refine Zi (.inr rfl) hU [.val (.int .u64 0)] (by omega) ?_
  simp only [push_cast,seval,↓reduceIte,Zb,Tryz.results75,hN0,hN]
 replace h:=Zm c11 h
 refine Xs [1,2] [true] ?_
 refine Zd ?_
 refine zQ [1,2,17] ?_
 refine Zj (t:=(a0.kind == 10)) rfl (fun c10 => ?_) (fun c10 => ?_)
 ·replace h:=Zn c10 h
  refine Zd ?_
  obtain ⟨y7,hy7,h⟩:=bC h
  refine zCd (Zov hy7) [4] [false] ?_
  refine zW ?_
  have h:=Option.some.inj h;subst h
  refine Zi (.inr rfl) hU [.val (.int .u64 y7)] (by omega) ?_
  simp only [push_cast,seval,↓reduceIte,Zb,Tryz.results75,hN0,hN]
 replace h:=Zm c10 h
 refine Xs [1,2] [true] ?_
 refine Zd ?_
 obtain ⟨y9,hy9,h⟩:=bC h
 refine zCd (Zaa hy9) [5] [false] ?_
 refine zQ [4] ?_
 refine zW ?_
 have h:=Option.some.inj h;subst h
 refine Zi (.inr rfl) hU [.val (.int .u64 y9.1)] (by omega) ?_
 simp only [push_cast,seval,↓reduceIte,Zb,Tryz.results75,hN0,hN]
def Zdp (Xo:(Zu→Zc→Int→Option (Za×Int×Zu))):Prop:=∀ {a0:Zu} {a1:Zc} {a2:Int} {r:(Za×Int×Zu)} {O:Objs} {n:Nat} {i0:Nat},i0 < n→O i0=some ⟨false,92,1,1,[(vI a0.left)]⟩→Xo a0 a1 a2=some r→GTo Tryz.prog 48 [.ref i0 0,.agg (Zp a1),(vI a2)] O n (.tup [.agg (Ze r.1),(vI r.2.1)]) (Zt (O.upd i0 (some ⟨false,92,1,1,[(vI r.2.2.left)]⟩)) n []) (n+0)
theorem Zkg {Xo:(Zu→Zc→Int→Option (Za×Int×Zu))} (Zj0:Zdp Xo) {a0:Zu} {a1:Zc} {a2:Int} {r:(Za×Int×Zu)} {O:Objs} {n:Nat} {i0:Nat} (hi0:i0 < n) (ho0:O i0=some ⟨false,92,1,1,[(vI a0.left)]⟩) (h:Xn Xo a0 a1 a2=some r):GTo Tryz.prog 48 [.ref i0 0,.agg (Zp a1),(vI a2)] O n (.tup [.agg (Ze r.1),(vI r.2.1)]) (Zt (O.upd i0 (some ⟨false,92,1,1,[(vI r.2.2.left)]⟩)) n []) (n+0):=by
 unfold Xn at h
 refine Yj Zo Tryz.call48 Tryz.func48 rfl (Nat.le_of_ble_eq_true rfl) (by omega) fun hU => ?_
 rw [show Zt O n []=Zt (O.upd i0 (some ⟨false,92,1,1,[(vI a0.left)]⟩)) n [] from by rw [Zts (show O i0=_ from by exact ho0)]]
 have hk0:∀ k,i0 < n+k:=fun k=>by omega
 have hN0:∀ o,Objs.upd O i0 o n=none:=fun o=>Vm hU hi0 _ (Nat.le_refl _)
 have hN:∀ o k,Objs.upd O i0 o (n+k)=none:=fun o k=>Vm hU hi0 _ (Nat.le_add_right _ _)
 show W _ _ _ _ ⟨89,[],[(0,.ref i0 0),(1,.agg (Zp a1)),(2,(vI a2))]⟩ (Zt (O.upd i0 (some ⟨false,92,1,1,[(vI a0.left)]⟩)) n []) _
 refine Zai [0,2,4,6] hi0 hk0 ?_
 refine Zd ?_
 obtain ⟨y2,hy2,h⟩:=bC h
 refine Zc4 Zo (by kernel_rfl) [false,false,false,false,false,false,false,false,false,true] [] (by kernel_rfl) ?_
 refine zX2 hi0 hk0 ?_
 refine PCall.of (Zuc hy2) ?_
 refine zX2 hi0 hk0 ?_
 refine zDs [0,2,4,6] [true,true] ?_
 obtain ⟨z4,hz4,h⟩:=bC h
 refine Y8 (E':=⟨89,[],[(0,.ref i0 0),(2,(vI a2)),(4,.ref n 0),(6,.ref (n+1) 0),(35,(vB z4))]⟩) (O':=(Zt (O.upd i0 (some ⟨false,92,1,1,[(vI (IntKind.i64.wrap (a0.left - y2)))]⟩)) n [some ⟨false,58,9,1,(Zp a1)⟩,some ⟨false,28,3,1,[(vI 0),nV,nV]⟩])) (n0:=(n+2)) ?_ ?_
 ·rcases Bool.eq_false_or_eq_true (decide ((IntKind.i64.wrap (a0.left - y2)) < 0)) with c7 | c7
  ·replace hz4:=Zn c7 hz4
   refine Zku [some false,some false,some false,some false,some false,some false] c7 hi0 hk0 ?_
   have hz4:=Option.some.inj hz4;subst hz4
   refine And.intro rfl (Fit2.of (Yi hU rfl rfl ?_) (by omega))
   exact Zv9 c7 hi0 hk0
  replace hz4:=Zm c7 hz4
  rcases Bool.eq_false_or_eq_true (a2 == 0) with c8 | c8
  ·replace hz4:=Zn c8 hz4
   try rw [c8] at c7
   obtain ⟨y6,hy6,hz4⟩:=bC hz4
   refine Z6o [some true,some true,some true,some true,some true,some true] c7 c8 hi0 hk0 ?_
   refine (Zv6 hy6).then ?_
   refine zX4 c7 c8 hi0 hk0 ?_
   have hz4:=Option.some.inj hz4;subst hz4
   refine And.intro rfl (Fit2.of (Yi hU rfl rfl ?_) (by omega))
   exact Yd0 c7 c8 hi0 hk0
  replace hz4:=Zm c8 hz4
  try rw [c8] at c7
  refine Z6o [some true,some true,some true,some false,some false,some true] c7 c8 hi0 hk0 ?_
  have hz4:=Option.some.inj hz4;subst hz4
  refine And.intro rfl (Fit2.of (Yi hU rfl rfl ?_) (by omega))
  exact Yd0 c7 c8 hi0 hk0
 refine Zj (t:=z4) rfl (fun c28 => ?_) (fun c28 => ?_)
 ·replace h:=Zn c28 h
  refine Zd ?_
  refine Q5 [] hi0 hk0 ?_
  refine zD [6,7] [false,true] ?_
  refine zW ?_
  have h:=Option.some.inj h;subst h
  refine K3 (k:=0) (i:=i0) (q1:=⟨false,92,1,1,[(vI (IntKind.i64.wrap (a0.left - y2)))]⟩) (L3:=[some ⟨false,28,3,1,[(vI 0),nV,nV]⟩,none]) (E2:=(⟨89,[],[(6,.ref n 0),(7,(vI 3))]⟩:Env)) (n3:=(n+2)) (.inr rfl) hU rfl [.agg [(vI 0),nV,nV],(vI 3)] ?_ ?_
  ·refine Fit2.trans (E':=(⟨89,[],[(6,.ref (n+1) 0),(7,(vI 3))]⟩:Env)) (O':=(Zt (O.upd i0 (some ⟨false,92,1,1,[(vI (IntKind.i64.wrap (a0.left - y2)))]⟩)) n [none,some ⟨false,28,3,1,[(vI 0),nV,nV]⟩])) (n':=(n+2)) (Fit2.of (Yi hU rfl rfl ?_) (by omega)) ?_
   ·exact Qr hi0 hk0
   refine Qf (k:=2) (k':=2) hU [1,0] [1,0] rfl rfl rfl rfl ⟨rfl,rfl⟩ ?_
   exact Qr hi0 hk0
  simp only [push_cast,seval,↓reduceIte,Zb,Tryz.results48,hi0,hk0,hN0,hN]
 replace h:=Zm c28 h
 refine Xs [0,2,4,6] [true,true] ?_
 refine Zd ?_
 obtain ⟨y10,hy10,h⟩:=bC h
 refine Q5 [] hi0 hk0 ?_
 refine (Xx hy10).then ?_
 refine zX2 hi0 hk0 ?_
 refine zDs [0,2,4,6,8] [true,true,true] ?_
 refine Zd ?_
 obtain ⟨y12,hy12,h⟩:=bC h
 refine Q5 [] hi0 hk0 ?_
 refine (Zbd hy12).then ?_
 refine zX2 hi0 hk0 ?_
 refine zD [0,2,4,6,8,41,42] [true,true,true] ?_
 refine zD [0,2,4,6,8,41,42] [true,true,true] ?_
 refine Za0 (E':=(⟨89,[],[(0,.ref i0 0),(2,(vI a2)),(4,.ref n 0),(6,.ref (n+1) 0),(8,.ref (n+2) 0),(41,(vI y12)),(42,(vI 0))]⟩:Env)) (O':=(Zt (O.upd i0 (some ⟨false,92,1,1,[(vI (IntKind.i64.wrap (a0.left - y2)))]⟩)) n [some ⟨false,58,9,1,(Zp a1)⟩,some ⟨false,28,3,1,[(vI 0),nV,nV]⟩,some ⟨false,28,3,1,[(vI y10),.row (n+3) ([]:List Int).length,nV]⟩,some (oR 45 1 (eI .u64) ([]:List Int)),none])) (n':=(n+5)) ?_ ?_
 ·refine Fit2.trans (E':=(⟨89,[],[(0,.ref i0 0),(2,(vI a2)),(4,.ref n 0),(6,.ref (n+1) 0),(8,.ref (n+2) 0),(41,(vI y12)),(42,(vI 0))]⟩:Env)) (O':=(Zt (O.upd i0 (some ⟨false,92,1,1,[(vI (IntKind.i64.wrap (a0.left - y2)))]⟩)) n [some ⟨false,58,9,1,(Zp a1)⟩,some ⟨false,28,3,1,[(vI 0),nV,nV]⟩,some ⟨false,28,3,1,[(vI y10),nV,nV]⟩])) (n':=(n+3)) (Fit2.of (Yi hU rfl rfl ?_) (by omega)) ?_
  ·exact Qr hi0 hk0
  refine Fit2.trans (Zjg (p:=(n+2)) (k:=1) (q:=⟨false,28,3,1,[(vI y10),nV,nV]⟩) 45 1 (by simp only [Zbe,Zfh,List.getElem?_cons_zero,List.getElem?_cons_succ,Option.join_some,List.length_nil,Y5]) rfl (by omega)) ?_
  simp only [J4,Qh,Zb3,Zap,List.set_cons_zero,List.set_cons_succ,List.cons_append,List.nil_append,List.length_cons,List.length_nil,Nat.zero_add,Nat.reduceAdd,Nat.reduceLT,Nat.add_assoc,Vv,Zcq,hi0,hk0,hN0,hN]
  refine Qf (k:=4) (k':=5) hU [0,1,2,3] [0,1,2,3,0] rfl rfl rfl rfl ⟨rfl,rfl⟩ ?_
  exact Qr hi0 hk0
 obtain ⟨z16,hz16,h⟩:=bC h
 refine Yv (E':=⟨89,[],[(0,.ref i0 0),(2,(vI a2)),(4,.ref n 0),(6,.ref (n+1) 0),(8,.ref (n+2) 0)]⟩) (O':=(Zt (O.upd i0 (some ⟨false,92,1,1,[(vI (IntKind.i64.wrap (a0.left - y2)))]⟩)) n [some ⟨false,58,9,1,(Zp a1)⟩,some ⟨false,28,3,1,[(vI 0),nV,nV]⟩,some ⟨false,28,3,1,[(vI y10),.row (n+3) z16.length,nV]⟩,some (oR 45 1 (eI .u64) z16),none])) (n0:=(n+5)) ?_ ?_
 ·refine Y2 hz16 (fun s0_=>⟨89,[],[(0,.ref i0 0),(2,(vI a2)),(4,.ref n 0),(6,.ref (n+1) 0),(8,.ref (n+2) 0),(41,(vI y12)),(42,(vI s0_.1))]⟩) (fun s0_=>(Zt (O.upd i0 (some ⟨false,92,1,1,[(vI (IntKind.i64.wrap (a0.left - y2)))]⟩)) n [some ⟨false,58,9,1,(Zp a1)⟩,some ⟨false,28,3,1,[(vI 0),nV,nV]⟩,some ⟨false,28,3,1,[(vI y10),.row (n+3) s0_.2.length,nV]⟩,some (oR 45 1 (eI .u64) s0_.2),none])) (fun z16=>JX 0 n (⟨89,[],[(0,.ref i0 0),(2,(vI a2)),(4,.ref n 0),(6,.ref (n+1) 0),(8,.ref (n+2) 0)]⟩:Env) (Zt (O.upd i0 (some ⟨false,92,1,1,[(vI (IntKind.i64.wrap (a0.left - y2)))]⟩)) n [some ⟨false,58,9,1,(Zp a1)⟩,some ⟨false,28,3,1,[(vI 0),nV,nV]⟩,some ⟨false,28,3,1,[(vI y10),.row (n+3) z16.length,nV]⟩,some (oR 45 1 (eI .u64) z16),none]) (n+5)) ?_
  intro s0_ x0_ hs0_
  unfold Xi at hs0_
  try dsimp only
  refine Zai [0,2,4,6,8,41,42,43] hi0 hk0 ?_
  refine Zd ?_
  refine Zj (t:=(decide (s0_.1 < y12))) rfl (fun c15 => ?_) (fun c15 => ?_)
  ·replace hs0_:=Zn c15 hs0_
   refine Xs [0,2,4,6,8,41,42] [true,true,true,true,false] ?_
   refine Zd ?_
   refine Yh ?_
   refine Zai [0,2,4,6,8,9,41,42] hi0 hk0 ?_
   obtain ⟨y13,hy13,hs0_⟩:=bC hs0_
   obtain ⟨l14,pl14,ql14,el14,hs0_⟩:=bA (k:=1) rfl hs0_
   refine Zih Zo (by kernel_rfl) [.low,.low,.plain,.plain,.plain,.pass,.bar,.plain,.bar] (fun i=>i < (n+5)) [0,1,2,3,4,5,6,7,8] [.low,.low,.plain,.plain,.plain,.pass,.bar,.plain,.bar] [] (by kernel_rfl) rfl ?_
   refine zX5 pl14 ql14 el14 hi0 hk0 ?_
   refine zO ?_
   first | refine PCallA.of (fun _ _=>Zj1 hy13) ?_ | refine PCall.of (Zj1 hy13) ?_
   refine zX5 pl14 ql14 el14 hi0 hk0 ?_
   refine zO ?_
   refine Zah ⟨89,[],[(0,.ref i0 0),(2,(vI a2)),(4,.ref n 0),(6,.ref (n+1) 0),(8,.ref (n+2) 0),(41,(vI y12)),(42,(vI s0_.1))]⟩ (Zt (O.upd i0 (some ⟨false,92,1,1,[(vI (IntKind.i64.wrap (a0.left - y2)))]⟩)) n [some ⟨false,58,9,1,(Zp a1)⟩,some ⟨false,28,3,1,[(vI 0),nV,nV]⟩,some ⟨false,28,3,1,[(vI y10),.row (n+3) l14.length,nV]⟩,some (oR 45 1 (eI .u64) l14),none,none]) (Yi hU rfl rfl ?_) ?_
   ·exact Yd1 pl14 ql14 el14 hi0 hk0
   refine Q5 [] hi0 hk0 ?_
   have hs0_:=Option.some.inj hs0_;subst hs0_
   refine And.intro rfl (Fit2.of (Yi hU rfl rfl ?_) (by omega))
   exact Qr hi0 hk0
  replace hs0_:=Zm c15 hs0_
  refine zXt ?_
  have hs0_:=Option.some.inj hs0_;subst hs0_
  refine And.intro (fun h=>by cases h) (And.intro rfl (Fit2.of (Yi hU rfl rfl ?_) (by omega)))
  exact Qr hi0 hk0
 try simp only [Y0,Ym,↓reduceIte,Nat.reduceEqDiff]
 refine zDs [0,2,4,6,8] [true,true,true,true,false] ?_
 refine Zd ?_
 obtain ⟨y18,hy18,h⟩:=bC h
 refine Q5 [] hi0 hk0 ?_
 refine (Xw hy18).then ?_
 refine zX2 hi0 hk0 ?_
 refine zD [0,2,4,6,8,55,56] [true,true,true,true,false] ?_
 refine zD [0,2,4,6,8,55,56] [true,true,true,true,false] ?_
 refine Za0 (E':=(⟨89,[],[(0,.ref i0 0),(2,(vI a2)),(4,.ref n 0),(6,.ref (n+1) 0),(8,.ref (n+2) 0),(55,(vI y18)),(56,(vI 0))]⟩:Env)) (O':=(Zt (O.upd i0 (some ⟨false,92,1,1,[(vI (IntKind.i64.wrap (a0.left - y2)))]⟩)) n [some ⟨false,58,9,1,(Zp a1)⟩,some ⟨false,28,3,1,[(vI 0),nV,nV]⟩,some ⟨false,28,3,1,[(vI y10),.row (n+3) z16.length,.row (n+5) ([]:List Za).length]⟩,some (oR 45 1 (eI .u64) z16),none,some (oR 28 3 Zf ([]:List Za)),none])) (n':=(n+7)) ?_ ?_
 ·refine Fit2.trans (E':=(⟨89,[],[(0,.ref i0 0),(2,(vI a2)),(4,.ref n 0),(6,.ref (n+1) 0),(8,.ref (n+2) 0),(55,(vI y18)),(56,(vI 0))]⟩:Env)) (O':=(Zt (O.upd i0 (some ⟨false,92,1,1,[(vI (IntKind.i64.wrap (a0.left - y2)))]⟩)) n [some ⟨false,58,9,1,(Zp a1)⟩,some ⟨false,28,3,1,[(vI 0),nV,nV]⟩,some ⟨false,28,3,1,[(vI y10),.row (n+3) z16.length,nV]⟩,some (oR 45 1 (eI .u64) z16),none])) (n':=(n+5)) (Fit2.of (Yi hU rfl rfl ?_) (by omega)) ?_
  ·exact Qr hi0 hk0
  refine Fit2.trans (Zjg (p:=(n+2)) (k:=2) (q:=⟨false,28,3,1,[(vI y10),.row (n+3) z16.length,nV]⟩) 28 3 (by simp only [Zbe,Zfh,List.getElem?_cons_zero,List.getElem?_cons_succ,Option.join_some,List.length_nil,Y5]) rfl (by omega)) ?_
  simp only [J4,Qh,Zb3,Zap,List.set_cons_zero,List.set_cons_succ,List.cons_append,List.nil_append,List.length_cons,List.length_nil,Nat.zero_add,Nat.reduceAdd,Nat.reduceLT,Nat.add_assoc,Vv,Zcq,hi0,hk0,hN0,hN]
  refine Qf (k:=6) (k':=7) hU [0,1,2,3,6,5] [0,1,2,3,0,5,0] rfl rfl rfl rfl ⟨rfl,rfl⟩ ?_
  exact Qr hi0 hk0
 obtain ⟨z27,hz27,h⟩:=bC h
 refine Zgb (J:=(Kf (fun z27=>JR n (⟨89,[],[(6,.ref (n+1) 0),(7,(vI z27.1))]⟩:Env) (Zt (O.upd i0 (some ⟨false,92,1,1,[(vI z27.2)]⟩)) n [none,some ⟨false,28,3,1,[(vI 0),nV,nV]⟩,none,none,none]) (n+5)) (fun z27=>JX 2 n (⟨89,[],[(6,.ref (n+1) 0),(8,.ref (n+2) 0)]⟩:Env) (Zt (O.upd i0 (some ⟨false,92,1,1,[(vI z27.2)]⟩)) n [none,some ⟨false,28,3,1,[(vI 0),nV,nV]⟩,some ⟨false,28,3,1,[(vI y10),.row (n+3) z16.length,.row (n+5) z27.1.length]⟩,some (oR 45 1 (eI .u64) z16),none,some (oR 28 3 Zf z27.1),none]) (n+7)))) (z:=z27) ?_ fun hw => ?_
 ·refine Y2 hz27 (fun s1_=>⟨89,[],[(0,.ref i0 0),(2,(vI a2)),(4,.ref n 0),(6,.ref (n+1) 0),(8,.ref (n+2) 0),(55,(vI y18)),(56,(vI s1_.1))]⟩) (fun s1_=>(Zt (O.upd i0 (some ⟨false,92,1,1,[(vI s1_.2.2)]⟩)) n [some ⟨false,58,9,1,(Zp a1)⟩,some ⟨false,28,3,1,[(vI 0),nV,nV]⟩,some ⟨false,28,3,1,[(vI y10),.row (n+3) z16.length,.row (n+5) s1_.2.1.length]⟩,some (oR 45 1 (eI .u64) z16),none,some (oR 28 3 Zf s1_.2.1),none])) (Kf (fun z27=>JR n (⟨89,[],[(6,.ref (n+1) 0),(7,(vI z27.1))]⟩:Env) (Zt (O.upd i0 (some ⟨false,92,1,1,[(vI z27.2)]⟩)) n [none,some ⟨false,28,3,1,[(vI 0),nV,nV]⟩,none,none,none]) (n+5)) (fun z27=>JX 2 n (⟨89,[],[(6,.ref (n+1) 0),(8,.ref (n+2) 0)]⟩:Env) (Zt (O.upd i0 (some ⟨false,92,1,1,[(vI z27.2)]⟩)) n [none,some ⟨false,28,3,1,[(vI 0),nV,nV]⟩,some ⟨false,28,3,1,[(vI y10),.row (n+3) z16.length,.row (n+5) z27.1.length]⟩,some (oR 45 1 (eI .u64) z16),none,some (oR 28 3 Zf z27.1),none]) (n+7))) ?_
  intro s1_ x1_ hs1_
  unfold Xb at hs1_
  try dsimp only
  refine Zai [0,2,4,6,8,55,56,57] hi0 hk0 ?_
  refine Zd ?_
  refine Zj (t:=(decide (s1_.1 < y18))) rfl (fun c26 => ?_) (fun c26 => ?_)
  ·replace hs1_:=Zn c26 hs1_
   refine Xs [0,2,4,6,8,55,56] [true,true,true,true,false,true,false] ?_
   refine Zd ?_
   refine Yh ?_
   refine Zai [0,2,4,6,8,10,55,56] hi0 hk0 ?_
   refine Zd ?_
   obtain ⟨y20,hy20,hs1_⟩:=bC hs1_
   refine Q5 [] hi0 hk0 ?_
   refine (Zf1 hy20).then ?_
   refine zX2 hi0 hk0 ?_
   refine zDs [0,2,4,6,8,11,12,55,56] [true,true,true,true,false,true,false,true] ?_
   refine Zai [0,2,4,6,8,11,12,55,56,66] hi0 hk0 ?_
   refine Zj (t:=(y20.2 != 0)) rfl (fun c25 => ?_) (fun c25 => ?_)
   ·replace hs1_:=Zn c25 hs1_
    refine Zd ?_
    refine Q5 [] hi0 hk0 ?_
    refine zD [6,7] [false,true,false,false,false,false,false,false] ?_
    refine zW ?_
    have hs1_:=Option.some.inj hs1_;subst hs1_
    refine And.intro (fun h=>by cases h) (And.intro rfl (Fit2.of (Yi hU rfl rfl ?_) (by omega)))
    exact Qr hi0 hk0
   replace hs1_:=Zm c25 hs1_
   refine Xs [0,2,4,6,8,11,55,56] [true,true,true,true,false,true,false,true] ?_
   refine Zd ?_
   obtain ⟨y22,hy22,hs1_⟩:=bC hs1_
   refine Q5 [] hi0 hk0 ?_
   refine (Zj0 (i0:=i0) (by omega) (by simp only [push_cast,seval,↓reduceIte,Zb,Q8,hi0,hk0,hN0,hN] <;> rfl) hy22).then ?_
   refine zX2 hi0 hk0 ?_
   refine zDs [0,2,4,6,8,12,13,55,56] [true,true,true,true,false,true,false,false,true] ?_
   refine Zai [0,2,4,6,8,12,13,55,56,78] hi0 hk0 ?_
   refine Zj (t:=(y22.2.1 != 0)) rfl (fun c24 => ?_) (fun c24 => ?_)
   ·replace hs1_:=Zn c24 hs1_
    refine Zd ?_
    refine Q5 [] hi0 hk0 ?_
    refine zD [6,7] [false,true,false,false,false,false,false,false,false] ?_
    refine zW ?_
    have hs1_:=Option.some.inj hs1_;subst hs1_
    refine And.intro (fun h=>by cases h) (And.intro rfl (Fit2.of (Yi hU rfl rfl ?_) (by omega)))
    exact Qr hi0 hk0
   replace hs1_:=Zm c24 hs1_
   refine Xs [0,2,4,6,8,13,55,56] [true,true,true,true,false,true,false,false,true] ?_
   obtain ⟨l23,pl23,ql23,el23,hs1_⟩:=bA (k:=1) rfl hs1_
   refine Ydy [] pl23 ql23 el23 hi0 hk0 ?_
   refine Zah ⟨89,[],[(0,.ref i0 0),(2,(vI a2)),(4,.ref n 0),(6,.ref (n+1) 0),(8,.ref (n+2) 0),(55,(vI y18)),(56,(vI s1_.1))]⟩ (Zt (O.upd i0 (some ⟨false,92,1,1,[(vI y22.2.2.left)]⟩)) n [some ⟨false,58,9,1,(Zp a1)⟩,some ⟨false,28,3,1,[(vI 0),nV,nV]⟩,some ⟨false,28,3,1,[(vI y10),.row (n+3) z16.length,.row (n+5) l23.length]⟩,some (oR 45 1 (eI .u64) z16),none,some (oR 28 3 Zf l23),none,none,none,none]) (Yi hU rfl rfl ?_) ?_
   ·exact Yd1 pl23 ql23 el23 hi0 hk0
   refine Q5 [] hi0 hk0 ?_
   have hs1_:=Option.some.inj hs1_;subst hs1_
   refine And.intro rfl (Fit2.of (Yi hU rfl rfl ?_) (by omega))
   exact Qr hi0 hk0
  replace hs1_:=Zm c26 hs1_
  refine zXt ?_
  have hs1_:=Option.some.inj hs1_;subst hs1_
  refine And.intro (fun h=>by cases h) (And.intro rfl (Fit2.of (Yi hU rfl rfl ?_) (by omega)))
  exact Qr hi0 hk0
 rcases z27 with z27 | z27
 ·dsimp only [Kf] at hw h
  refine Zbf hw ?_
  try simp only [Y0,Ym,↓reduceIte,Nat.reduceEqDiff]
  have h:=Option.some.inj h;subst h
  refine K3 (k:=0) (i:=i0) (q1:=⟨false,92,1,1,[(vI z27.2)]⟩) (L3:=[some ⟨false,28,3,1,[(vI 0),nV,nV]⟩,none]) (E2:=(⟨89,[],[(6,.ref n 0),(7,(vI z27.1))]⟩:Env)) (n3:=(n+2)) (.inr rfl) hU rfl [.agg [(vI 0),nV,nV],(vI z27.1)] ?_ ?_
  ·refine Fit2.trans (E':=(⟨89,[],[(6,.ref (n+1) 0),(7,(vI z27.1))]⟩:Env)) (O':=(Zt (O.upd i0 (some ⟨false,92,1,1,[(vI z27.2)]⟩)) n [none,some ⟨false,28,3,1,[(vI 0),nV,nV]⟩,none,none,none])) (n':=(n+5)) (Fit2.of (Yi hU rfl rfl ?_) (by omega)) ?_
   ·exact Qr hi0 hk0
   refine Qf (k:=5) (k':=2) hU [1,0,1,1,1] [1,0] rfl rfl rfl rfl ⟨rfl,rfl⟩ ?_
   exact Qr hi0 hk0
  simp only [push_cast,seval,↓reduceIte,Zb,Tryz.results48,hi0,hk0,hN0,hN]
 dsimp only [Kf] at hw h
 refine Yv hw ?_
 try simp only [Y0,Ym,↓reduceIte,Nat.reduceEqDiff]
 refine zDs [6,8] [false,true,true,true,false,true,false] ?_
 refine Q5 [] hi0 hk0 ?_
 refine zD [6,7] [false,true,false,true,false,true,false] ?_
 refine zW ?_
 have h:=Option.some.inj h;subst h
 refine K3 (k:=0) (i:=i0) (q1:=⟨false,92,1,1,[(vI z27.2)]⟩) (L3:=[some ⟨false,28,3,1,[(vI y10),.row (n+1) z16.length,.row (n+2) z27.1.length]⟩,some (oR 45 1 (eI .u64) z16),some (oR 28 3 Zf z27.1),none]) (E2:=(⟨89,[],[(6,.ref n 0),(7,(vI 0))]⟩:Env)) (n3:=(n+4)) (.inr rfl) hU rfl [.agg [(vI y10),.row (n+1) z16.length,.row (n+2) z27.1.length],(vI 0)] ?_ ?_
 ·refine Fit2.trans (E':=(⟨89,[],[(6,.ref (n+1) 0),(7,(vI 0))]⟩:Env)) (O':=(Zt (O.upd i0 (some ⟨false,92,1,1,[(vI z27.2)]⟩)) n [none,some ⟨false,28,3,1,[(vI y10),.row (n+3) z16.length,.row (n+5) z27.1.length]⟩,none,some (oR 45 1 (eI .u64) z16),none,some (oR 28 3 Zf z27.1),none])) (n':=(n+7)) (Fit2.of (Yi hU rfl rfl ?_) (by omega)) ?_
  ·exact Qr hi0 hk0
  refine Qf (k:=7) (k':=4) hU [3,0,3,1,3,2,3] [1,3,5,0] rfl rfl rfl rfl ⟨rfl,rfl⟩ ?_
  exact Qr hi0 hk0
 simp only [push_cast,seval,↓reduceIte,Zb,Tryz.results48,hi0,hk0,hN0,hN]
theorem Zil:∀ k,(Zdp (Yp k)):=fun k=>by
 induction k with
 | zero=>exact @fun a0 a1 a2 r O n i0 hi0 ho0 h=>(nomatch (show (none:Option _)=some _ from h))
 | succ k ih=>exact @fun a0 a1 a2 r O n i0 hi0 ho0 h=>Zkg (ih) hi0 ho0 h
theorem Zk0 {a0:Zu} {a1:Zc} {a2:Int} {r:(Za×Int×Zu)} {O:Objs} {n:Nat} {i0:Nat} (hi0:i0 < n) (ho0:O i0=some ⟨false,92,1,1,[(vI a0.left)]⟩) (h:Zbr a0 a1 a2=some r):GTo Tryz.prog 48 [.ref i0 0,.agg (Zp a1),(vI a2)] O n (.tup [.agg (Ze r.1),(vI r.2.1)]) (Zt (O.upd i0 (some ⟨false,92,1,1,[(vI r.2.2.left)]⟩)) n []) (n+0):=by
 obtain ⟨k,hk⟩:=Zcg h
 exact (Zil k) hi0 ho0 hk
theorem Zv5 {a0:Zc} {r:(Za×Int)} {O:Objs} {n:Nat} (h:Zdl a0=some r):GTo Tryz.prog 25 [.agg (Zp a0)] O n (.tup [.agg (Ze r.1),(vI r.2)]) O n:=by
 unfold Zdl at h
 refine Yj Zo Tryz.call25 Tryz.func25 rfl (Nat.le_of_ble_eq_true rfl) (Nat.le_refl _) fun hU => ?_
 have hN0:O n=none:=hU.fresh _ (Nat.le_refl _)
 have hN:∀ k,O (n+k)=none:=fun k=>hU.fresh _ (Nat.le_add_right _ _)
 show W _ _ _ _ ⟨10,[],[(0,.agg (Zp a0))]⟩ (Zt O n []) _
 refine zQ [1,2] ?_
 refine Zd ?_
 refine zRd [1,2,4] [true,true,true] ?_
 refine Zd ?_
 obtain ⟨y2,hy2,h⟩:=bC h
 refine zR ?_
 refine (Zk0 (i0:=(n+2)) (by omega) (by simp only [push_cast,seval,↓reduceIte,Zb,Q8,hN0,hN] <;> rfl) hy2).then ?_
 refine zS ?_
 refine zD [2,3] [false,true,false] ?_
 refine zW ?_
 have h:=Option.some.inj h;subst h
 refine Zi (.inr rfl) hU [.agg (Ze y2.1),(vI y2.2.1)] (by omega) ?_
 simp only [push_cast,seval,↓reduceIte,Zb,Tryz.results25,hN0,hN]
theorem Zte {a0:(List Int)} {r:(List Int)} {O:Objs} {n:Nat} (h:Zbp a0=some r):GTo Tryz.prog 49 [(sL (eI .u64) a0)] O n ((sL (eI .u64) r)) O n:=by
 unfold Zbp at h
 refine Yj Zo Tryz.call49 Tryz.func49 rfl (Nat.le_of_ble_eq_true rfl) (Nat.le_refl _) fun hU => ?_
 have hN0:O n=none:=hU.fresh _ (Nat.le_refl _)
 have hN:∀ k,O (n+k)=none:=fun k=>hU.fresh _ (Nat.le_add_right _ _)
 show W _ _ _ _ ⟨22,[],[(0,(sL (eI .u64) a0))]⟩ (Zt O n []) _
 refine zQ [0] ?_
 refine zQ [0,3] ?_
 refine Zd ?_
 refine zD [0,3] [] ?_
 obtain ⟨z7,hz7,h⟩:=bC h
 refine Yv (E':=⟨22,[],[(0,(sL (eI .u64) a0)),(3,(vI z7))]⟩) (O':=(Zt O n [])) (n0:=n) ?_ ?_
 ·refine Y2 hz7 (fun s0_=>⟨22,[],[(0,(sL (eI .u64) a0)),(3,(vI s0_))]⟩) (fun s0_=>(Zt O n [])) (fun z7=>JX 0 n (⟨22,[],[(0,(sL (eI .u64) a0)),(3,(vI z7))]⟩:Env) (Zt O n []) n) ?_
  intro s0_ x0_ hs0_
  unfold U7 at hs0_
  try dsimp only
  refine Zd ?_
  obtain ⟨z2,hz2,hs0_⟩:=bC hs0_
  refine Y8 (E':=⟨22,[],[(0,(sL (eI .u64) a0)),(3,(vI s0_)),(15,(vB z2))]⟩) (O':=(Zt O n [])) (n0:=n) ?_ ?_
  ·rcases Bool.eq_false_or_eq_true (decide (0 < s0_)) with c5 | c5
   ·replace hz2:=Zn c5 hz2
    obtain ⟨x4,hx4,ax4,bx4,cx4,hz2⟩:=bE (f:=(eI .u64)) Jd (fun _=>rfl) (by decide) hz2
    refine Zo4 [some true,some true,some true,some true,some true,some true] c5 ax4 bx4 cx4 ?_
    exact Z31 hz2 c5 ax4 bx4 cx4
   replace hz2:=Zm c5 hz2
   refine Vc [some false,some false,some false,some false,some false,some false] c5 ?_
   exact Ki hz2 c5
  refine Zj (t:=z2) rfl (fun c6 => ?_) (fun c6 => ?_)
  ·replace hs0_:=Zn c6 hs0_
   refine Xs [0,3] [] ?_
   refine Yh ?_
   refine zR ?_
   exact zEn hs0_
  replace hs0_:=Zm c6 hs0_
  exact zEx hs0_
 try simp only [Y0,Ym,↓reduceIte,Nat.reduceEqDiff]
 refine zD [0,3] [] ?_
 obtain ⟨l9,al9,bl9,cl9,gl9,h⟩:=bS3 (lo:=none) (hi:=(.i64,z7)) (f:=(eI .u64)) rfl rfl Zda Jd (fun _=>rfl) h
 refine Ydv [2] al9 bl9 cl9 gl9 ?_
 refine zW ?_
 have h:=Option.some.inj h;subst h
 refine Zi (.inr rfl) hU [(sL (eI .u64) l9)] (by omega) ?_
 simp only [push_cast,seval,↓reduceIte,Zb,Tryz.results49,hN0,hN]
theorem Zub {a0:(List Za)} {r:(List Za)} {O:Objs} {n:Nat} (h:Zcj a0=some r):GTo Tryz.prog 50 [(sL Zf a0)] O n ((sL Zf r)) O n:=by
 unfold Zcj at h
 refine Yj Zo Tryz.call50 Tryz.func50 rfl (Nat.le_of_ble_eq_true rfl) (Nat.le_refl _) fun hU => ?_
 have hN0:O n=none:=hU.fresh _ (Nat.le_refl _)
 have hN:∀ k,O (n+k)=none:=fun k=>hU.fresh _ (Nat.le_add_right _ _)
 show W _ _ _ _ ⟨23,[],[(0,(sL Zf a0))]⟩ (Zt O n []) _
 refine zQ [0] ?_
 refine zQ [0,3] ?_
 refine Zd ?_
 refine zD [0,3] [] ?_
 obtain ⟨z10,hz10,h⟩:=bC h
 refine Yv (E':=⟨23,[],[(0,(sL Zf a0)),(3,(vI z10))]⟩) (O':=(Zt O n [])) (n0:=n) ?_ ?_
 ·refine Y2 hz10 (fun s0_=>⟨23,[],[(0,(sL Zf a0)),(3,(vI s0_))]⟩) (fun s0_=>(Zt O n [])) (fun z10=>JX 0 n (⟨23,[],[(0,(sL Zf a0)),(3,(vI z10))]⟩:Env) (Zt O n []) n) ?_
  intro s0_ x0_ hs0_
  unfold Gy at hs0_
  try dsimp only
  refine Zd ?_
  obtain ⟨z3,hz3,hs0_⟩:=bC hs0_
  refine Y8 (E':=⟨23,[],[(0,(sL Zf a0)),(3,(vI s0_)),(16,(vB z3))]⟩) (O':=(Zt O n [])) (n0:=n) ?_ ?_
  ·rcases Bool.eq_false_or_eq_true (decide (0 < s0_)) with c8 | c8
   ·replace hz3:=Zn c8 hz3
    obtain ⟨x6,hx6,ax6,bx6,cx6,hz3⟩:=bE (f:=Zf) K0 (fun _=>rfl) (by decide) hz3
    have g7:=Z4l (f:=Zf) (sz:=3) Z1v (fun _=>rfl) (by decide) (by decide) hx6
    refine Z33 [some true,some true,some true,some true,some true,some true,some true] c8 ax6 bx6 cx6 g7 ?_
    exact Ybz hz3 c8 ax6 bx6 cx6 g7
   replace hz3:=Zm c8 hz3
   refine Vc [some false,some false,some false,some false,some false,some false,some false] c8 ?_
   exact Ki hz3 c8
  refine Zj (t:=z3) rfl (fun c9 => ?_) (fun c9 => ?_)
  ·replace hs0_:=Zn c9 hs0_
   refine Xs [0,3] [] ?_
   refine Yh ?_
   refine zR ?_
   exact zEn hs0_
  replace hs0_:=Zm c9 hs0_
  exact zEx hs0_
 try simp only [Y0,Ym,↓reduceIte,Nat.reduceEqDiff]
 refine zD [0,3] [] ?_
 obtain ⟨l12,al12,bl12,cl12,gl12,h⟩:=bS3 (lo:=none) (hi:=(.i64,z10)) (f:=Zf) rfl rfl Zks K0 (fun _=>rfl) h
 refine Ydv [2] al12 bl12 cl12 gl12 ?_
 refine zW ?_
 have h:=Option.some.inj h;subst h
 refine Zi (.inr rfl) hU [(sL Zf l12)] (by omega) ?_
 simp only [push_cast,seval,↓reduceIte,Zb,Tryz.results50,hN0,hN]
def Zol (Zb1:(Za→Option Za)):Prop:=∀ {a0:Za} {r:Za} {O:Objs} {n:Nat},Zb1 a0=some r→GTo Tryz.prog 26 [.agg (Ze a0)] O n (.agg (Ze r)) O n
theorem Zyi {Zb1:(Za→Option Za)} (Zxd:Zol Zb1) {a0:Za} {r:Za} {O:Objs} {n:Nat} (h:Zhl Zb1 a0=some r):GTo Tryz.prog 26 [.agg (Ze a0)] O n (.agg (Ze r)) O n:=by
 unfold Zhl at h
 refine Yj Zo Tryz.call26 Tryz.func26 rfl (Nat.le_of_ble_eq_true rfl) (Nat.le_refl _) fun hU => ?_
 have hN0:O n=none:=hU.fresh _ (Nat.le_refl _)
 have hN:∀ k,O (n+k)=none:=fun k=>hU.fresh _ (Nat.le_add_right _ _)
 show W _ _ _ _ ⟨49,[],[(0,.agg (Ze a0))]⟩ (Zt O n []) _
 refine zQ [1,2] ?_
 refine Zd ?_
 refine zQ [1,2,10] ?_
 refine Zj (t:=(a0.Kind == 0)) rfl (fun c15 => ?_) (fun c15 => ?_)
 ·replace h:=Zn c15 h
  refine Zd ?_
  refine zRd [2] [false,true] ?_
  refine zW ?_
  have h:=Option.some.inj h;subst h
  refine Zi (.inr rfl) hU [.agg [(vI 0),nV,nV]] (by omega) ?_
  simp only [push_cast,seval,↓reduceIte,Zb,Tryz.results26,hN0,hN]
 replace h:=Zm c15 h
 refine Xs [1,2] [true,true] ?_
 refine Zb4 [1,2,3,4] (X1 Zo (by kernel_rfl) [] (by kernel_rfl) ?_)
 refine zS ?_
 obtain ⟨z1,hz1,h⟩:=bC h
 refine Y8 (E':=⟨49,[],[(1,.ref n 0),(2,.ref (n+1) 0),(3,(sL (eI .u64) z1.1)),(4,(sL Zf z1.2))]⟩) (O':=(Zt O n [some ⟨false,28,3,1,(Ze a0)⟩,some ⟨false,28,3,1,[(vI 0),nV,nV]⟩])) (n0:=(n+2)) ?_ ?_
 ·refine zQ [1,2,3,4,18] ?_
  refine Zj (t:=(a0.Kind == 1)) rfl (fun c4 => ?_) (fun c4 => ?_)
  ·replace hz1:=Zn c4 hz1
   obtain ⟨y2,hy2,hz1⟩:=bC hz1
   obtain ⟨y3,hy3,hz1⟩:=bC hz1
   refine zC (Zte hy2) ?_
   refine zTs (Zub hy3) ?_
   exact zEn hz1
  replace hz1:=Zm c4 hz1
  refine zK ?_
  exact zEn hz1
 refine Zd ?_
 refine zRd [2,4,5] [false,true,true] ?_
 obtain ⟨z5,hz5,h⟩:=bC h
 refine Y8 (E':=⟨49,[],[(2,.ref (n+1) 0),(4,(sL Zf z1.2)),(5,.ref (n+2) 0)]⟩) (O':=(Zt O n [none,some ⟨false,28,3,1,[(vI 0),nV,nV]⟩,some ⟨false,28,3,1,[(vI a0.Kind),(sL (eI .u64) z1.1),.row (n+4) z5.length]⟩,none,some (oR 28 3 Zf z5),none])) (n0:=(n+6)) ?_ ?_
 ·refine zQ [2,4,5,29] ?_
  refine Zj (t:=(decide (0 < (z1.2.length:Int)))) rfl (fun c7 => ?_) (fun c7 => ?_)
  ·replace hz5:=Zn c7 hz5
   obtain ⟨l6,al6,bl6,cl6,el6,hz5⟩:=bM2 (c:=56) rfl hz5
   have nl6:Int.toNat (z1.2.length:Int)=List.length l6:=by rw [el6,List.length_replicate]
   have fl6:∀ O O' n,wkl O O' n (List.replicate (List.length l6) [.val (.int .i64 0),.val (.slice none 0 0),.val (.slice none 0 0)]).flatten (fl Zf l6)=True:=fun O O' n=>by rw [← nl6,el6];exact eq_true (Z3y (by simp only [push_cast,seval,↓reduceIte,Zb]) _)
   clear el6
   refine Z5 Zo [] ?_
   simp only [push_cast,seval,↓reduceIte,Zb,al6,bl6,cl6,fl6,nl6,hN0,hN]
   have hz5:=Option.some.inj hz5;subst hz5
   refine And.intro rfl ?_
   refine Fit2.trans (E':=(⟨49,[],[(2,.ref (n+1) 0),(4,(sL Zf z1.2)),(5,.ref (n+2) 0)]⟩:Env)) (O':=(Zt O n [none,some ⟨false,28,3,1,[(vI 0),nV,nV]⟩,some ⟨false,28,3,1,[(vI a0.Kind),(sL (eI .u64) z1.1),.row (n+3) l6.length]⟩,some (oR 28 3 Zf l6)])) (n':=(n+4)) (Fit2.of (Z8 hU rfl rfl ?_) (by omega)) ?_
   ·simp only [push_cast,seval,↓reduceIte,Zb,al6,bl6,cl6,fl6,nl6,hN0,hN]
   refine Jt (k:=4) (k':=6) hU [5,1,2,4] [0,1,2,0,3,0] rfl rfl rfl rfl ⟨rfl,rfl⟩ ?_
   exact zSe
  replace hz5:=Zm c7 hz5
  refine zK ?_
  have hz5:=Option.some.inj hz5;subst hz5
  refine And.intro rfl ?_
  refine Fit2.trans (E':=(⟨49,[],[(2,.ref (n+1) 0),(4,(sL Zf z1.2)),(5,.ref (n+2) 0)]⟩:Env)) (O':=(Zt O n [none,some ⟨false,28,3,1,[(vI 0),nV,nV]⟩,some ⟨false,28,3,1,[(vI a0.Kind),(sL (eI .u64) z1.1),nV]⟩])) (n':=(n+3)) (Fit2.of (Z8 hU rfl rfl ?_) (by omega)) ?_
  ·exact zSe
  refine Fit2.trans (Zjg (p:=(n+2)) (k:=2) (q:=⟨false,28,3,1,[(vI a0.Kind),(sL (eI .u64) z1.1),nV]⟩) 28 3 (by simp only [Zbe,Zfh,List.getElem?_cons_zero,List.getElem?_cons_succ,Option.join_some,List.length_nil,Y5]) rfl (by omega)) ?_
  simp only [J4,Qh,Zb3,Zap,List.set_cons_zero,List.set_cons_succ,List.cons_append,List.nil_append,List.length_cons,List.length_nil,Nat.zero_add,Nat.reduceAdd,Nat.reduceLT,Nat.add_assoc]
  refine Jt (k:=4) (k':=6) hU [5,1,2,4] [0,1,2,0,3,0] rfl rfl rfl rfl ⟨rfl,rfl⟩ ?_
  exact zSe
 refine Zd ?_
 refine zQd [2,5,34,35,36] [2,5,34,35,36] [false,true,true,false,true,false] ?_
 obtain ⟨z14,hz14,h⟩:=bC h
 refine Yv (E':=⟨49,[],[(2,.ref (n+1) 0),(5,.ref (n+2) 0)]⟩) (O':=(Zt O n [none,some ⟨false,28,3,1,[(vI 0),nV,nV]⟩,some ⟨false,28,3,1,[(vI a0.Kind),(sL (eI .u64) z1.1),.row (n+4) z14.length]⟩,none,some (oR 28 3 Zf z14),none])) (n0:=(n+6)) ?_ ?_
 ·refine Y2 hz14 (fun s0_=>⟨49,[],[(2,.ref (n+1) 0),(5,.ref (n+2) 0),(34,(sL Zf z1.2)),(35,(vI (z1.2.length:Int))),(36,(vI s0_.1))]⟩) (fun s0_=>(Zt O n [none,some ⟨false,28,3,1,[(vI 0),nV,nV]⟩,some ⟨false,28,3,1,[(vI a0.Kind),(sL (eI .u64) z1.1),.row (n+4) s0_.2.length]⟩,none,some (oR 28 3 Zf s0_.2),none])) (fun z14=>JX 0 n (⟨49,[],[(2,.ref (n+1) 0),(5,.ref (n+2) 0)]⟩:Env) (Zt O n [none,some ⟨false,28,3,1,[(vI 0),nV,nV]⟩,some ⟨false,28,3,1,[(vI a0.Kind),(sL (eI .u64) z1.1),.row (n+4) z14.length]⟩,none,some (oR 28 3 Zf z14),none]) (n+6)) ?_
  intro s0_ x0_ hs0_
  unfold Zbg at hs0_
  try dsimp only
  refine zQ [2,5,34,35,36,37] ?_
  refine Zd ?_
  refine Zj (t:=(decide (s0_.1 < (z1.2.length:Int)))) rfl (fun c13 => ?_) (fun c13 => ?_)
  ·replace hs0_:=Zn c13 hs0_
   refine Xs [2,5,34,35,36] [false,true,true,false,true,false] ?_
   refine Zd ?_
   refine Yh ?_
   refine Zd ?_
   obtain ⟨x9,hx9,ax9,bx9,cx9,hs0_⟩:=bE (f:=Zf) K0 (fun _=>rfl) (by decide) hs0_
   refine Zn1 [] ax9 bx9 cx9 ?_
   refine zD [2,5,6,7,34,35,36] [false,true,true,false,true,false,true] ?_
   obtain ⟨y10,hy10,hs0_⟩:=bC hs0_
   obtain ⟨x11,hx11,ax11,bx11,cx11,hs0_⟩:=bE (f:=Zf) K0 (fun _=>rfl) (by decide) hs0_
   have gu12:Vs (fl Zf s0_.2) [.val (.int .i64 y10.Kind),.sl y10.Words.length (fl (eI .u64) y10.Words),.sl y10.Kids.length (fl Zf y10.Kids)] (Int.toNat s0_.1 * 3)=some (fl Zf (Kc s0_.2 s0_.1 y10)):=(congrArg (fun c=>Vs (fl Zf s0_.2) c (Int.toNat s0_.1 * 3)) (show [.val (.int .i64 y10.Kind),.sl y10.Words.length (fl (eI .u64) y10.Words),.sl y10.Kids.length (fl Zf y10.Kids)]=Zf y10 from by simp only [Zf,Jf,eI,eB,eS,eL])).trans (Zcs (f:=Zf) (ti:=⟨.bool,3,0,[],false⟩) (x:=y10) (fun _=>rfl) (Zat hx11))
   refine Zc4 Zo (by kernel_rfl) [false,false,false,false,false,false,true] [] (by kernel_rfl) ?_
   refine zF4 ax11 bx11 cx11 gu12 ?_
   refine PCall.of (Zxd hy10) ?_
   refine zF4 ax11 bx11 cx11 gu12 ?_
   refine zD [2,5,34,35,36] [false,true,true,false,true,false,false] ?_
   refine zR ?_
   exact zEn hs0_
  replace hs0_:=Zm c13 hs0_
  exact zEx hs0_
 try simp only [Y0,Ym,↓reduceIte,Nat.reduceEqDiff]
 refine zDs [2,5] [false,true,true,false,true,false] ?_
 refine zRd [2] [false,true,false,false,true,false] ?_
 refine zW ?_
 have h:=Option.some.inj h;subst h
 refine Zi (.inr rfl) hU [.agg [(vI a0.Kind),(sL (eI .u64) z1.1),.row (n+4) z14.length]] (by omega) ?_
 simp only [push_cast,seval,↓reduceIte,Zb,Tryz.results26,hN0,hN]
theorem Zv2:∀ k,(Zol (U9 k)):=fun k=>by
 induction k with
 | zero=>exact @fun a0 r O n h=>(nomatch (show (none:Option _)=some _ from h))
 | succ k ih=>exact @fun a0 r O n h=>Zyi (ih)  h
theorem Znd {a0:Za} {r:Za} {O:Objs} {n:Nat} (h:Zhr a0=some r):GTo Tryz.prog 26 [.agg (Ze a0)] O n (.agg (Ze r)) O n:=by
 obtain ⟨k,hk⟩:=Zcg h
 exact (Zv2 k)  hk
theorem Up {a0:(Option Zl)} {a1:Z0} {r:(Za×Int)} {O:Objs} {n:Nat} (h:Zbq a0 a1=some r):GTo Tryz.prog 12 [(gP Zq a0),.agg (Yd a1)] O n (.tup [.agg (Ze r.1),(vI r.2)]) O n:=by
 unfold Zbq at h
 refine Yj Zo Tryz.call12 Tryz.func12 rfl (Nat.le_of_ble_eq_true rfl) (Nat.le_refl _) fun hU => ?_
 have hN0:O n=none:=hU.fresh _ (Nat.le_refl _)
 have hN:∀ k,O (n+k)=none:=fun k=>hU.fresh _ (Nat.le_add_right _ _)
 show W _ _ _ _ ⟨38,[],[(0,(gP Zq a0)),(1,.agg (Yd a1))]⟩ (Zt O n []) _
 refine zQ [0,3,4] ?_
 refine Zd ?_
 refine Zd ?_
 obtain ⟨y2,hy2,h⟩:=bC h
 refine zCd (Zxe hy2) [0,4,7] [false,true] ?_
 refine zQ [0,4,7,18] ?_
 refine Zj (t:=(y2.2 != 0)) rfl (fun c10 => ?_) (fun c10 => ?_)
 ·replace h:=Zn c10 h
  refine Zd ?_
  refine zRd [4,5] [false,true] ?_
  refine zW ?_
  have h:=Option.some.inj h;subst h
  refine Zi (.inr rfl) hU [.agg [(vI 0),nV,nV],(vI y2.2)] (by omega) ?_
  simp only [push_cast,seval,↓reduceIte,Zb,Tryz.results12,hN0,hN]
 replace h:=Zm c10 h
 refine Xs [0,4] [false,true] ?_
 refine Zd ?_
 obtain ⟨y4,hy4,h⟩:=bC h
 refine zCd (Zow hy4) [4,8,9] [false,true,true] ?_
 refine Zd ?_
 refine zQ [4,8,9,27] ?_
 refine Zj (t:=(y4.2 != 0)) rfl (fun c9 => ?_) (fun c9 => ?_)
 ·replace h:=Zn c9 h
  refine Zd ?_
  refine zRd [4,5] [false,true,false] ?_
  refine zW ?_
  have h:=Option.some.inj h;subst h
  refine Zi (.inr rfl) hU [.agg [(vI 0),nV,nV],(vI y4.2)] (by omega) ?_
  simp only [push_cast,seval,↓reduceIte,Zb,Tryz.results12,hN0,hN]
 replace h:=Zm c9 h
 refine Xs [4,8] [false,true,true] ?_
 refine Zd ?_
 obtain ⟨y6,hy6,h⟩:=bC h
 refine zCd (Zv5 hy6) [4,9,10] [false,true,false,true] ?_
 refine Zd ?_
 obtain ⟨y8,hy8,h⟩:=bC h
 refine zCd (Znd hy8) [4,5] [false,true,false,false] ?_
 refine zW ?_
 have h:=Option.some.inj h;subst h
 refine Zi (.inr rfl) hU [.agg (Ze y8),(vI y6.2)] (by omega) ?_
 simp only [push_cast,seval,↓reduceIte,Zb,Tryz.results12,hN0,hN]
theorem Zj2 {a0:(List Za)} {r:Bool} {O:Objs} {n:Nat} (h:Zaw a0=some r):GTo Tryz.prog 80 [(sL Zf a0)] O n ((vB r)) O n:=by
 unfold Zaw at h
 refine Yj Zo Tryz.call80 Tryz.func80 rfl (Nat.le_of_ble_eq_true rfl) (Nat.le_refl _) fun hU => ?_
 have hN0:O n=none:=hU.fresh _ (Nat.le_refl _)
 have hN:∀ k,O (n+k)=none:=fun k=>hU.fresh _ (Nat.le_add_right _ _)
 show W _ _ _ _ ⟨15,[],[(0,(sL Zf a0))]⟩ (Zt O n []) _
 refine zQ [0] ?_
 refine Zd ?_
 refine zQd [5,6,7] [5,6,7] [] ?_
 obtain ⟨z5,hz5,h⟩:=bC h
 refine Zgb (J:=(Kf (fun z5=>JR n (⟨15,[],[(2,(vB false))]⟩:Env) (Zt O n []) n) (fun z5=>JX 0 n (⟨15,[],[]⟩:Env) (Zt O n []) n))) (z:=z5) ?_ fun hw => ?_
 ·refine Y2 hz5 (fun s0_=>⟨15,[],[(5,(sL Zf a0)),(6,(vI (a0.length:Int))),(7,(vI s0_))]⟩) (fun s0_=>(Zt O n [])) (Kf (fun z5=>JR n (⟨15,[],[(2,(vB false))]⟩:Env) (Zt O n []) n) (fun z5=>JX 0 n (⟨15,[],[]⟩:Env) (Zt O n []) n)) ?_
  intro s0_ x0_ hs0_
  unfold Uk at hs0_
  try dsimp only
  refine zQ [5,6,7,8] ?_
  refine Zd ?_
  refine Zj (t:=(decide (s0_ < (a0.length:Int)))) rfl (fun c4 => ?_) (fun c4 => ?_)
  ·replace hs0_:=Zn c4 hs0_
   refine Xs [5,6,7] [] ?_
   refine Zd ?_
   refine Yh ?_
   refine Zd ?_
   obtain ⟨x2,hx2,ax2,bx2,cx2,hs0_⟩:=bE (f:=Zf) K0 (fun _=>rfl) (by decide) hs0_
   refine Zn1 [] ax2 bx2 cx2 ?_
   refine zD [4,5,6,7] [true] ?_
   refine zQ [5,6,7,13] ?_
   refine Zj (t:=(x2.Kind != 1)) rfl (fun c3 => ?_) (fun c3 => ?_)
   ·replace hs0_:=Zn c3 hs0_
    refine zQ [2] ?_
    refine zW ?_
    exact zEy hs0_
   replace hs0_:=Zm c3 hs0_
   refine Xs [5,6,7] [false] ?_
   refine zR ?_
   exact zEn hs0_
  replace hs0_:=Zm c4 hs0_
  exact zEx hs0_
 rcases z5 with z5 | z5
 ·dsimp only [Kf] at hw h
  refine Zbf hw ?_
  try simp only [Y0,Ym,↓reduceIte,Nat.reduceEqDiff]
  have h:=Option.some.inj h;subst h
  refine Zi (.inr rfl) hU [(vB false)] (by omega) ?_
  simp only [push_cast,seval,↓reduceIte,Zb,Tryz.results80,hN0,hN]
 dsimp only [Kf] at hw h
 refine Yv hw ?_
 try simp only [Y0,Ym,↓reduceIte,Nat.reduceEqDiff]
 refine zD [] [] ?_
 refine zQ [2] ?_
 refine zW ?_
 have h:=Option.some.inj h;subst h
 refine Zi (.inr rfl) hU [(vB true)] (by omega) ?_
 simp only [push_cast,seval,↓reduceIte,Zb,Tryz.results80,hN0,hN]
end Go.Proofs.YtpfbdlcnfekdkaaGreat
