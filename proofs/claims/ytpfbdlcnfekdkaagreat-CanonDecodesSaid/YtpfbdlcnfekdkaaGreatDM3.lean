/- Part DM3 of this seat's mirrors: functions of the seat's program, and the plain functions that they are; each theorem bears its own conditions. -/
import Derived.Test.YtpfbdlcnfekdkaaGreatDE
import Derived.Test.YtpfbdlcnfekdkaaGreatDM1
namespace Go.Proofs.YtpfbdlcnfekdkaaGreat
open Go.RowKit
set_option linter.unusedVariables false
set_option linter.unusedSimpArgs false
set_option maxRecDepth 100000
set_option maxHeartbeats 4000000
attribute [local push_cast] vI vB nV sL oR Yd Ze Zv Yq Zp Zpk Zpj Zp3 Zp2 Y0 Ym Zlm Zgm Zgl onW X6 Zeb Zdw Zrz Zob Zi9 Zjd Zi8 Zjc Zmk Zmf Zjb Zmj Zmi Zmh Zja Zmd Zha evS wok Je Op.operands Call.operands gop onK onP atK List.all_cons List.all_nil Bool.and_true Bool.true_and Bool.and_self Value.oneCell' List.take_zero List.take_succ_cons List.take_nil List.drop_zero List.drop_succ_cons List.drop_nil List.append_nil Nat.add_zero Nat.zero_add Gs Yr ev Jn Zr7 Zpd Zpc Zpi Zpg Zph Zpe Zpf Zpb Zsz Zt1 Zw0 Zjr Zde Zjq Zd3 Ziy Zgo Zet Zey Zgi Zge Zew Zgh Zgg Zgf Zev Zgc Zeu Zex Zdu Zgd Zm7 Zgn Za3 Zik Za4 Zkw Zjp Zv1 bLo bHi bMx Zdf Zkv Zx9 Zjn Zll Zfp Gb Zs0 Zya Zij Zfo Zyc Zdd Z0v Zlr Zlv Zlq Zlu Zpu Zpq Zpo Ziz Zls Zpt Zps Zpr Zlt Zpp Zln Zr8 Zma Zg7 Zg6 pop TK.isAgg Zpx Zp1 Zpw Zp0 Zl3 Zui Zue Zpz Zuh Zug Zuf Zpy Zud G.under G.unders List.getD_cons_zero List.getD_cons_succ List.set_cons_zero List.set_cons_succ List.map_cons List.map_nil List.toList_toArray Array.toList_append Option.toArray_none Option.toArray_some Array.toList_map Option.map_some Option.map_none Option.bind_some Option.bind_none List.getElem?_cons_zero List.getElem?_cons_succ List.getElem?_nil List.nil_append List.cons_append List.replicate_succ List.replicate_zero List.length_cons List.length_nil and_true true_and and_false false_and Bool.true_eq_false Bool.false_eq_true forall_const false_implies implies_true IntKind.bits if_true if_false ite_true ite_false eq_self true_implies false_or or_false or_true true_or not_true_eq_false not_false_eq_true decide_true decide_false decide_eq_true_eq decide_eq_false_iff_not beq_iff_eq bne_iff_ne ne_eq Bool.not_eq_true Bool.not_eq_false beq_eq_false_iff_ne bne_eq_false_iff_eq beq_self_eq_true bne_self_eq_false Option.some.injEq exists_eq_left' exists_eq_left ge_iff_le gt_iff_lt decide_not Bool.not_true Bool.not_false imp_self Zt4 cond_true cond_false Z6w Z6v Bool.not_not Bool.and_false Bool.false_and Bool.or_true Bool.true_or Bool.or_false Bool.false_or Zbe Zfh Zb3 Zap J4 Qh Option.join_some Nat.add_assoc Int.toNat_natCast eI eB eS eL Q8 Zgk Ze1 Zpn Zpl Zpm Z1g Z29 Zg3 Ze7 Zp9 Zp7 Zp8 Zxj Zn2 Zvo Znw Zv0 Zcr Zr5 List.length_append G.agg.injEq G.row.injEq G.ref.injEq G.val.injEq G.sl.injEq G.tup.injEq Value.int.injEq Value.bool.injEq Value.string.injEq List.cons.injEq exists_and_left exists_const List.flatten_cons List.flatten_nil Int.le_refl Nat.le_refl Zcq Qg Vv Bool.not_eq_true' Bool.not_eq_false' Zrl Zh5 Zvf Zvj Zve Zvi Z0h Z0c List.size_toArray Zsl Zr3 G.ren G.rens Zuk Zg8 Zqg Zo9 Zpa Zme Zvk Zgz G.fn.injEq Zkd Zm1 Zrk Z0d Zm0 Zvh Z0g Z0f Z0e Zvg Zt7 Zyz Option.join_none Y5 Zad undef Zlo Arr.len Arr.put_eq Zg2 Zi1 Zg1 Ze6 Zp6 Zp4 Zp5 onB Z1f Zsy Ke Zdv Zk5 Zk6 Zk7 Zk8 Zk9 Zla Zi0 Zi4 Zi2 Zg5 Ze8 Zi3 Zl9 Zl8 Zl7 Zl6 Z28 Z4x Zxi Zv8 Vb Zxa Zse Zi5 Zg4 Zyl Zr4 Zjj Zlk Zek Zj6 Zlb Zlc Zld Zle Zip Ziq Zir Zis Zit Ziu Ziv Zf7 prT Zec Z7r Zu5 Z1v Zu6 Z7s Zu7 Z7t Zu8 Z7u Zu9 Z7v Zva Z7w Zvb Z7x Zvc Zza Zqk Zzb Zql Zzc Zqm Zzd Zqn Zze Zqo Zzf Zqp Zzg Zqq Zzh Zqr Zzi Zqs Zzj Zqt Zzk Zqu Zc9 Zda Zzl Zqv Zzm Zqw Zny Zks Zzn Zqx K0 Zqy Zzo Zqz Zzp Zq0 Zzq Znp Jd Zq1 Zzr Zq2 Zzs Zq3 Zzt Zq4 Zzu Zq5 Zzv Zq6 Zzw Zq7 Zzx Zq8 Zzy Zq9 Zzz Zra Zz0 Zrb Zz1 Zrc Zz2 Zrd Zz3 Zre Zz4 Zrf Zz5 Zrg Zz6 Zrh Zz7 Zri Zz8 Zrj Zup Zml Zuq Zmm Zur Zmn Zus Zmo Zut Zmp Zuu Zmq Zuv Zmr Zuw Zms Zux Zmt Zuy Zmu Zuz Zmv Zu0 Zmw Zu1 Zmx Zu2 Zmy Zu3 Zmz J7 Zhg Zhe Zgq Zgy Zhi Zff Zfc Zfa Zhc Zc0 Zcz Zct Zcw Zc1 Zbz Zbx Zbw Zcy Zq Vo Vn Ve Vk Vp K1 Kz Ky Vl Ze0 Zhf Zhd Zgp Zgx Zhh Zfe Zfb Ze9 Zhb Zez Zbi Z7 J0 Jz Jw Jx J3 Jk Jj Ji Jy Z4 Zf Jf Gl Gk Gd Gf Gm Uu Us Ur Gj Q3 Q2 Qz Q0 Q4 Qk Qj Qi Q1 Zak V0 V1
theorem Ztf {a0:Int} {a1:Int} {r:Bool} {O:Objs} {n:Nat} (h:Ze4 a0 a1=some r):GTo Tryz.prog 100 [(vI a0),.val (.int .u64 a1)] O n ((vB r)) O n:=by
 unfold Ze4 at h
 refine Yj Zo Tryz.call100 Tryz.func100 rfl (Nat.le_of_ble_eq_true rfl) (Nat.le_refl _) fun hU => ?_
 have hN0:O n=none:=hU.fresh _ (Nat.le_refl _)
 have hN:∀ k,O (n+k)=none:=fun k=>hU.fresh _ (Nat.le_add_right _ _)
 show W _ _ _ _ ⟨19,[],[(0,(vI a0)),(1,.val (.int .u64 a1))]⟩ (Zt O n []) _
 refine zQ [0,1] ?_
 refine Zd ?_
 obtain ⟨y2,hy2,h⟩:=bC h
 refine zCd (Zei hy2) [1,5,6] [] ?_
 obtain ⟨z4,hz4,h⟩:=bC h
 refine Y8 (E':=⟨19,[],[(4,(vB z4))]⟩) (O':=(Zt O n [])) (n0:=n) ?_ ?_
 ·rcases Bool.eq_false_or_eq_true y2.2 with c7 | c7
  ·replace hz4:=Zn c7 hz4
   obtain ⟨pu6,hz4⟩:=bG hz4
   refine Z5 Zo [some true,some true,some true,some true] ?_
   simp only [push_cast,seval,↓reduceIte,Zb,c7,pu6,hN0,hN]
   have hz4:=Option.some.inj hz4;subst hz4
   refine And.intro rfl (Fit2.of (Z8 hU rfl rfl ?_) (by omega))
   simp only [push_cast,seval,↓reduceIte,Zb,c7,pu6,hN0,hN]
  replace hz4:=Zm c7 hz4
  refine Vc [some false,some false,some false,some false] c7 ?_
  exact Ki hz4 c7
 refine zW ?_
 have h:=Option.some.inj h;subst h
 refine Zi (.inr rfl) hU [(vB z4)] (by omega) ?_
 simp only [push_cast,seval,↓reduceIte,Zb,Tryz.results100,hN0,hN]
def Zcl (Xd:(Za→Option Bool)):Prop:=∀ {a0:Za} {r:Bool} {O:Objs} {n:Nat},Xd a0=some r→GTo Tryz.prog 28 [.agg (Ze a0)] O n ((vB r)) O n
def Zcm (Xa:(Za→Int→Option Bool)):Prop:=∀ {a0:Za} {a1:Int} {r:Bool} {O:Objs} {n:Nat},Xa a0 a1=some r→GTo Tryz.prog 52 [.agg (Ze a0),(vI a1)] O n ((vB r)) O n
def G0 (Yw:((List Za)→Int→Option Bool)):Prop:=∀ {a0:(List Za)} {a1:Int} {r:Bool} {O:Objs} {n:Nat},Yw a0 a1=some r→GTo Tryz.prog 78 [(sL Zf a0),(vI a1)] O n ((vB r)) O n
def Gz (Yz:((List Za)→Int→Option Bool)):Prop:=∀ {a0:(List Za)} {a1:Int} {r:Bool} {O:Objs} {n:Nat},Yz a0 a1=some r→GTo Tryz.prog 81 [(sL Zf a0),(vI a1)] O n ((vB r)) O n
theorem Zxf {Xd:(Za→Option Bool)} {Xa:(Za→Int→Option Bool)} {Yw:((List Za)→Int→Option Bool)} {Yz:((List Za)→Int→Option Bool)} (Zcn:Zcl Xd) (Zco:Zcm Xa) (V8:G0 Yw) (Zcb:Gz Yz) {a0:Za} {r:Bool} {O:Objs} {n:Nat} (h:Zfk Xd Xa Yw Yz a0=some r):GTo Tryz.prog 28 [.agg (Ze a0)] O n ((vB r)) O n:=by
 unfold Zfk at h
 refine Yj Zo Tryz.call28 Tryz.func28 rfl (Nat.le_of_ble_eq_true rfl) (Nat.le_refl _) fun hU => ?_
 have hN0:O n=none:=hU.fresh _ (Nat.le_refl _)
 have hN:∀ k,O (n+k)=none:=fun k=>hU.fresh _ (Nat.le_add_right _ _)
 show W _ _ _ _ ⟨18,[],[(0,.agg (Ze a0))]⟩ (Zt O n []) _
 refine zQ [1] ?_
 refine Zd ?_
 refine zQ [1,5] ?_
 refine Zj (t:=(a0.Kind == 10)) rfl (fun c3 => ?_) (fun c3 => ?_)
 ·replace h:=Zn c3 h
  refine zQD [2] [none,none,none,none] ?_
  refine zW ?_
  have h:=Option.some.inj h;subst h
  refine Zi (.inr rfl) hU [(vB (cond ((a0.Words.length:Int) == 1) ((a0.Kids.length:Int) == 0) false))] (by omega) ?_
  simp only [push_cast,seval,↓reduceIte,Zb,Tryz.results28,hN0,hN]
 replace h:=Zm c3 h
 refine Xs [1] [true] ?_
 refine Zd ?_
 obtain ⟨y2,hy2,h⟩:=bC h
 refine zCd (Zco hy2) [2] [false] ?_
 refine zW ?_
 have h:=Option.some.inj h;subst h
 refine Zi (.inr rfl) hU [(vB y2)] (by omega) ?_
 simp only [push_cast,seval,↓reduceIte,Zb,Tryz.results28,hN0,hN]
theorem Zxg {Xd:(Za→Option Bool)} {Xa:(Za→Int→Option Bool)} {Yw:((List Za)→Int→Option Bool)} {Yz:((List Za)→Int→Option Bool)} (Zcn:Zcl Xd) (Zco:Zcm Xa) (V8:G0 Yw) (Zcb:Gz Yz) {a0:Za} {a1:Int} {r:Bool} {O:Objs} {n:Nat} (h:Zfl Xd Xa Yw Yz a0 a1=some r):GTo Tryz.prog 52 [.agg (Ze a0),(vI a1)] O n ((vB r)) O n:=by
 unfold Zfl at h
 refine Yj Zo Tryz.call52 Tryz.func52 rfl (Nat.le_of_ble_eq_true rfl) (Nat.le_refl _) fun hU => ?_
 have hN0:O n=none:=hU.fresh _ (Nat.le_refl _)
 have hN:∀ k,O (n+k)=none:=fun k=>hU.fresh _ (Nat.le_add_right _ _)
 show W _ _ _ _ ⟨83,[],[(0,.agg (Ze a0)),(1,(vI a1))]⟩ (Zt O n []) _
 refine zQ [1,2] ?_
 refine Zd ?_
 refine zQ [1,2,7] ?_
 refine Zj (t:=(a0.Kind == 0)) rfl (fun c26 => ?_) (fun c26 => ?_)
 ·replace h:=Zn c26 h
  refine zQD [4] [none,none,none,none] ?_
  refine zW ?_
  have h:=Option.some.inj h;subst h
  refine Zi (.inr rfl) hU [(vB (cond ((a0.Words.length:Int) == 0) ((a0.Kids.length:Int) == 0) false))] (by omega) ?_
  simp only [push_cast,seval,↓reduceIte,Zb,Tryz.results52,hN0,hN]
 replace h:=Zm c26 h
 refine Xs [1,2] [true] ?_
 refine Zd ?_
 refine zQ [1,2,19] ?_
 refine Zj (t:=(a1 == 0)) rfl (fun c25 => ?_) (fun c25 => ?_)
 ·replace h:=Zn c25 h
  refine zQ [4] ?_
  refine zW ?_
  have h:=Option.some.inj h;subst h
  refine Zi (.inr rfl) hU [(vB false)] (by omega) ?_
  simp only [push_cast,seval,↓reduceIte,Zb,Tryz.results52,hN0,hN]
 replace h:=Zm c25 h
 refine Xs [1,2] [true] ?_
 refine Zd ?_
 refine zQ [1,2,22] ?_
 refine Zj (t:=(a0.Kind == 1)) rfl (fun c24 => ?_) (fun c24 => ?_)
 ·replace h:=Zn c24 h
  obtain ⟨z2,hz2,h⟩:=bC h
  refine Y8 (E':=⟨83,[],[(4,(vB z2))]⟩) (O':=(Zt O n [none])) (n0:=(n+1)) ?_ ?_
  ·rcases Bool.eq_false_or_eq_true (decide ((a0.Words.length:Int) < 65536)) with c5 | c5
   ·replace hz2:=Zn c5 hz2
    rcases Bool.eq_false_or_eq_true (decide ((a0.Kids.length:Int) < 65536)) with c6 | c6
    ·replace hz2:=Zn c6 hz2
     try rw [c6] at c5
     obtain ⟨y4,hy4,hz2⟩:=bC hz2
     refine Q5 [none,none,none,none,some true,some true,some true,some true,some true] c5 c6 ?_
     refine zG ?_
     refine (V8 hy4).then ?_
     refine zX2 c5 c6 ?_
     refine zG ?_
     exact Zn0 hz2 c5 c6
    replace hz2:=Zm c6 hz2
    try rw [c6] at c5
    refine Q5 [none,none,none,none,some false,some false,some false,some false,some false] c5 c6 ?_
    refine zG ?_
    exact Zn0 hz2 c5 c6
   replace hz2:=Zm c5 hz2
   refine Vc [none,none,none,none,some false,some false,some false,some false,some false] c5 ?_
   refine zG ?_
   exact Ki hz2 c5
  refine zW ?_
  have h:=Option.some.inj h;subst h
  refine Zi (.inr rfl) hU [(vB z2)] (by omega) ?_
  simp only [push_cast,seval,↓reduceIte,Zb,Tryz.results52,hN0,hN]
 replace h:=Zm c24 h
 refine Xs [1,2] [true] ?_
 refine Zd ?_
 refine Zd ?_
 obtain ⟨y8,hy8,h⟩:=bC h
 refine zRo [none,none,none,none,none,none,none,none] ?_
 refine zG ?_
 refine zTs (Ztd hy8) ?_
 refine zG ?_
 refine zD [1,2,55] [true] ?_
 refine Zj (t:=(cond (cond (!y8) true (decide (0 < (a0.Words.length:Int)))) true (decide (1048576≤(a0.Kids.length:Int))))) rfl (fun c23 => ?_) (fun c23 => ?_)
 ·replace h:=Zn c23 h
  refine zQ [4] ?_
  refine zW ?_
  have h:=Option.some.inj h;subst h
  refine Zi (.inr rfl) hU [(vB false)] (by omega) ?_
  simp only [push_cast,seval,↓reduceIte,Zb,Tryz.results52,hN0,hN]
 replace h:=Zm c23 h
 refine Xs [1,2] [true] ?_
 refine Zd ?_
 refine zQ [1,2,57] ?_
 refine Yh ?_
 refine zQ [1,2,57,58] ?_
 refine Zj (t:=(a0.Kind == 8)) rfl (fun c22 => ?_) (fun c22 => ?_)
 ·replace h:=Zn c22 h
  refine Zd ?_
  obtain ⟨y10,hy10,h⟩:=bC h
  refine zCd (V8 hy10) [4] [false] ?_
  refine zW ?_
  have h:=Option.some.inj h;subst h
  refine Zi (.inr rfl) hU [(vB y10)] (by omega) ?_
  simp only [push_cast,seval,↓reduceIte,Zb,Tryz.results52,hN0,hN]
 replace h:=Zm c22 h
 refine zQ [1,2,65] ?_
 refine Zj (t:=(a0.Kind == 9)) rfl (fun c21 => ?_) (fun c21 => ?_)
 ·replace h:=Zn c21 h
  obtain ⟨z13,hz13,h⟩:=bC h
  refine Y8 (E':=⟨83,[],[(4,(vB z13))]⟩) (O':=(Zt O n [none])) (n0:=(n+1)) ?_ ?_
  ·obtain ⟨y16,hy16,hz13⟩:=bC hz13
   rcases Bool.eq_false_or_eq_true y16 with c18 | c18
   ·replace hz13:=Zn c18 hz13
    obtain ⟨y17,hy17,hz13⟩:=bC hz13
    refine Vc [some true,some true,some true,some true,some true] c18 ?_
    refine (Zj2 hy16).then ?_
    refine zX1 c18 ?_
    refine (V8 hy17).then ?_
    refine zX1 c18 ?_
    exact Ki hz13 c18
   replace hz13:=Zm c18 hz13
   refine Vc [some false,some false,some false,some false,some false] c18 ?_
   refine (Zj2 hy16).then ?_
   refine zX1 c18 ?_
   exact Ki hz13 c18
  refine zW ?_
  have h:=Option.some.inj h;subst h
  refine Zi (.inr rfl) hU [(vB z13)] (by omega) ?_
  simp only [push_cast,seval,↓reduceIte,Zb,Tryz.results52,hN0,hN]
 replace h:=Zm c21 h
 refine Xs [2] [true] ?_
 refine Zd ?_
 obtain ⟨y20,hy20,h⟩:=bC h
 refine zCd (Zcb hy20) [4] [false] ?_
 refine zW ?_
 have h:=Option.some.inj h;subst h
 refine Zi (.inr rfl) hU [(vB y20)] (by omega) ?_
 simp only [push_cast,seval,↓reduceIte,Zb,Tryz.results52,hN0,hN]
theorem Zti {Xd:(Za→Option Bool)} {Xa:(Za→Int→Option Bool)} {Yw:((List Za)→Int→Option Bool)} {Yz:((List Za)→Int→Option Bool)} (Zcn:Zcl Xd) (Zco:Zcm Xa) (V8:G0 Yw) (Zcb:Gz Yz) {a0:(List Za)} {a1:Int} {r:Bool} {O:Objs} {n:Nat} (h:Zce Xd Xa Yw Yz a0 a1=some r):GTo Tryz.prog 78 [(sL Zf a0),(vI a1)] O n ((vB r)) O n:=by
 unfold Zce at h
 refine Yj Zo Tryz.call78 Tryz.func78 rfl (Nat.le_of_ble_eq_true rfl) (Nat.le_refl _) fun hU => ?_
 have hN0:O n=none:=hU.fresh _ (Nat.le_refl _)
 have hN:∀ k,O (n+k)=none:=fun k=>hU.fresh _ (Nat.le_add_right _ _)
 show W _ _ _ _ ⟨18,[],[(0,(sL Zf a0)),(1,(vI a1))]⟩ (Zt O n []) _
 refine zQ [0,1] ?_
 refine Zd ?_
 refine zQd [1,7,8,9] [1,7,8,9] [] ?_
 obtain ⟨z7,hz7,h⟩:=bC h
 refine Zgb (J:=(Kf (fun z7=>JR n (⟨18,[],[(4,(vB false))]⟩:Env) (Zt O n []) n) (fun z7=>JX 0 n (⟨18,[],[]⟩:Env) (Zt O n []) n))) (z:=z7) ?_ fun hw => ?_
 ·refine Y2 hz7 (fun s0_=>⟨18,[],[(1,(vI a1)),(7,(sL Zf a0)),(8,(vI (a0.length:Int))),(9,(vI s0_))]⟩) (fun s0_=>(Zt O n [])) (Kf (fun z7=>JR n (⟨18,[],[(4,(vB false))]⟩:Env) (Zt O n []) n) (fun z7=>JX 0 n (⟨18,[],[]⟩:Env) (Zt O n []) n)) ?_
  intro s0_ x0_ hs0_
  unfold Gq at hs0_
  try dsimp only
  refine zQ [1,7,8,9,10] ?_
  refine Zd ?_
  refine Zj (t:=(decide (s0_ < (a0.length:Int)))) rfl (fun c6 => ?_) (fun c6 => ?_)
  ·replace hs0_:=Zn c6 hs0_
   refine Xs [1,7,8,9] [] ?_
   refine Zd ?_
   refine Yh ?_
   refine Zd ?_
   obtain ⟨x2,hx2,ax2,bx2,cx2,hs0_⟩:=bE (f:=Zf) K0 (fun _=>rfl) (by decide) hs0_
   refine Zn1 [] ax2 bx2 cx2 ?_
   refine zDs [1,6,7,8,9] [true] ?_
   obtain ⟨y4,hy4,hs0_⟩:=bC hs0_
   refine zCd (Zco hy4) [1,7,8,9,16] [false] ?_
   refine Zj (t:=(!y4)) rfl (fun c5 => ?_) (fun c5 => ?_)
   ·replace hs0_:=Zn c5 hs0_
    refine zQ [4] ?_
    refine zW ?_
    exact zEy hs0_
   replace hs0_:=Zm c5 hs0_
   refine Xs [1,7,8,9] [false] ?_
   refine zR ?_
   exact zEn hs0_
  replace hs0_:=Zm c6 hs0_
  exact zEx hs0_
 rcases z7 with z7 | z7
 ·dsimp only [Kf] at hw h
  refine Zbf hw ?_
  try simp only [Y0,Ym,↓reduceIte,Nat.reduceEqDiff]
  have h:=Option.some.inj h;subst h
  refine Zi (.inr rfl) hU [(vB false)] (by omega) ?_
  simp only [push_cast,seval,↓reduceIte,Zb,Tryz.results78,hN0,hN]
 dsimp only [Kf] at hw h
 refine Yv hw ?_
 try simp only [Y0,Ym,↓reduceIte,Nat.reduceEqDiff]
 refine zD [] [] ?_
 refine zQ [4] ?_
 refine zW ?_
 have h:=Option.some.inj h;subst h
 refine Zi (.inr rfl) hU [(vB true)] (by omega) ?_
 simp only [push_cast,seval,↓reduceIte,Zb,Tryz.results78,hN0,hN]
theorem Zth {Xd:(Za→Option Bool)} {Xa:(Za→Int→Option Bool)} {Yw:((List Za)→Int→Option Bool)} {Yz:((List Za)→Int→Option Bool)} (Zcn:Zcl Xd) (Zco:Zcm Xa) (V8:G0 Yw) (Zcb:Gz Yz) {a0:(List Za)} {a1:Int} {r:Bool} {O:Objs} {n:Nat} (h:Zcd Xd Xa Yw Yz a0 a1=some r):GTo Tryz.prog 81 [(sL Zf a0),(vI a1)] O n ((vB r)) O n:=by
 unfold Zcd at h
 refine Yj Zo Tryz.call81 Tryz.func81 rfl (Nat.le_of_ble_eq_true rfl) (Nat.le_refl _) fun hU => ?_
 have hN0:O n=none:=hU.fresh _ (Nat.le_refl _)
 have hN:∀ k,O (n+k)=none:=fun k=>hU.fresh _ (Nat.le_add_right _ _)
 show W _ _ _ _ ⟨31,[],[(0,(sL Zf a0)),(1,(vI a1))]⟩ (Zt O n []) _
 refine zQ [0,1] ?_
 refine Zd ?_
 refine zQd [1,7,8,9] [1,7,8,9] [] ?_
 obtain ⟨z17,hz17,h⟩:=bC h
 refine Zgb (J:=(Kf (fun z17=>JR n (⟨31,[],[(4,(vB false))]⟩:Env) (Zt O n []) n) (fun z17=>JX 0 n (⟨31,[],[]⟩:Env) (Zt O n []) n))) (z:=z17) ?_ fun hw => ?_
 ·refine Y2 hz17 (fun s0_=>⟨31,[],[(1,(vI a1)),(7,(sL Zf a0)),(8,(vI (a0.length:Int))),(9,(vI s0_))]⟩) (fun s0_=>(Zt O n [])) (Kf (fun z17=>JR n (⟨31,[],[(4,(vB false))]⟩:Env) (Zt O n []) n) (fun z17=>JX 0 n (⟨31,[],[]⟩:Env) (Zt O n []) n)) ?_
  intro s0_ x0_ hs0_
  unfold Gp at hs0_
  try dsimp only
  refine zQ [1,7,8,9,10] ?_
  refine Zd ?_
  refine Zj (t:=(decide (s0_ < (a0.length:Int)))) rfl (fun c16 => ?_) (fun c16 => ?_)
  ·replace hs0_:=Zn c16 hs0_
   refine Xs [1,7,8,9] [] ?_
   refine Zd ?_
   refine Yh ?_
   refine Zd ?_
   obtain ⟨x2,hx2,ax2,bx2,cx2,hs0_⟩:=bE (f:=Zf) K0 (fun _=>rfl) (by decide) hs0_
   refine Zn1 [] ax2 bx2 cx2 ?_
   refine zD [1,6,7,8,9] [true] ?_
   obtain ⟨z6,hz6,hs0_⟩:=bC hs0_
   refine Y8 (E':=⟨31,[],[(1,(vI a1)),(7,(sL Zf a0)),(8,(vI (a0.length:Int))),(9,(vI s0_)),(29,(vB z6))]⟩) (O':=(Zt O n [none])) (n0:=(n+1)) ?_ ?_
   ·rcases Bool.eq_false_or_eq_true (x2.Kind != 10) with c13 | c13
    ·replace hz6:=Zn c13 hz6
     refine Vc [some false,some false,some false,some false,some false,some false,some false,some false,some false,some false] c13 ?_
     exact Ki hz6 c13
    replace hz6:=Zm c13 hz6
    obtain ⟨y10,hy10,hz6⟩:=bC hz6
    rcases Bool.eq_false_or_eq_true y10 with c14 | c14
    ·replace hz6:=Zn c14 hz6
     try rw [c14] at c13
     obtain ⟨x11,hx11,ax11,bx11,cx11,hz6⟩:=bE (f:=(eI .u64)) Jd (fun _=>rfl) (by decide) hz6
     obtain ⟨y12,hy12,hz6⟩:=bC hz6
     refine Z33 [some true,some true,some true,some true,some true,some true,some true,some true,some true,some true] c13 c14 ax11 bx11 cx11 ?_
     refine (Zcn hy10).then ?_
     refine zF5 c13 c14 ax11 bx11 cx11 ?_
     refine (Ztf hy12).then ?_
     refine zF5 c13 c14 ax11 bx11 cx11 ?_
     exact Ybz hz6 c13 c14 ax11 bx11 cx11
    replace hz6:=Zm c14 hz6
    try rw [c14] at c13
    refine Q5 [some true,some true,some true,some false,some false,some false,some false,some false,some false,some false] c13 c14 ?_
    refine (Zcn hy10).then ?_
    refine zX2 c13 c14 ?_
    exact Zn0 hz6 c13 c14
   refine Zj (t:=z6) rfl (fun c15 => ?_) (fun c15 => ?_)
   ·replace hs0_:=Zn c15 hs0_
    refine zQ [4] ?_
    refine zW ?_
    exact zEy hs0_
   replace hs0_:=Zm c15 hs0_
   refine Xs [1,7,8,9] [false] ?_
   refine zR ?_
   exact zEn hs0_
  replace hs0_:=Zm c16 hs0_
  exact zEx hs0_
 rcases z17 with z17 | z17
 ·dsimp only [Kf] at hw h
  refine Zbf hw ?_
  try simp only [Y0,Ym,↓reduceIte,Nat.reduceEqDiff]
  have h:=Option.some.inj h;subst h
  refine Zi (.inr rfl) hU [(vB false)] (by omega) ?_
  simp only [push_cast,seval,↓reduceIte,Zb,Tryz.results81,hN0,hN]
 dsimp only [Kf] at hw h
 refine Yv hw ?_
 try simp only [Y0,Ym,↓reduceIte,Nat.reduceEqDiff]
 refine zD [] [] ?_
 refine zQ [4] ?_
 refine zW ?_
 have h:=Option.some.inj h;subst h
 refine Zi (.inr rfl) hU [(vB true)] (by omega) ?_
 simp only [push_cast,seval,↓reduceIte,Zb,Tryz.results81,hN0,hN]
theorem Zt8:∀ k,(Zcl ((Zz k).1))∧(Zcm ((Zz k).2.1))∧(G0 ((Zz k).2.2.1))∧(Gz ((Zz k).2.2.2)):=fun k=>by
 induction k with
 | zero=>exact ⟨@fun a0 r O n h=>(nomatch (show (none:Option _)=some _ from h)),@fun a0 a1 r O n h=>(nomatch (show (none:Option _)=some _ from h)),@fun a0 a1 r O n h=>(nomatch (show (none:Option _)=some _ from h)),@fun a0 a1 r O n h=>(nomatch (show (none:Option _)=some _ from h))⟩
 | succ k ih=>exact ⟨@fun a0 r O n h=>Zxf (ih.1) (ih.2.1) (ih.2.2.1) (ih.2.2.2)  h,@fun a0 a1 r O n h=>Zxg (ih.1) (ih.2.1) (ih.2.2.1) (ih.2.2.2)  h,@fun a0 a1 r O n h=>Zti (ih.1) (ih.2.1) (ih.2.2.1) (ih.2.2.2)  h,@fun a0 a1 r O n h=>Zth (ih.1) (ih.2.1) (ih.2.2.1) (ih.2.2.2)  h⟩
theorem Zyh {a0:Za} {r:Bool} {O:Objs} {n:Nat} (h:Znb a0=some r):GTo Tryz.prog 28 [.agg (Ze a0)] O n ((vB r)) O n:=by
 obtain ⟨k,hk⟩:=Zcg h
 exact (Zt8 k).1  hk
theorem Z1b {a0:Int} {r:Bool} {O:Objs} {n:Nat} (h:Zkq a0=some r):GTo Tryz.prog 83 [(vI a0)] O n ((vB r)) O n:=by
 unfold Zkq at h
 refine Yj Zo Tryz.call83 Tryz.func83 rfl (Nat.le_of_ble_eq_true rfl) (Nat.le_refl _) fun hU => ?_
 have hN0:O n=none:=hU.fresh _ (Nat.le_refl _)
 have hN:∀ k,O (n+k)=none:=fun k=>hU.fresh _ (Nat.le_add_right _ _)
 show W _ _ _ _ ⟨9,[],[(0,(vI a0))]⟩ (Zt O n []) _
 refine zQ [0] ?_
 refine zQD [2] [none,none] ?_
 refine zW ?_
 have h:=Option.some.inj h;subst h
 refine Zi (.inr rfl) hU [(vB (cond (decide (2≤a0)) (decide (a0≤7)) false))] (by omega) ?_
 simp only [push_cast,seval,↓reduceIte,Zb,Tryz.results83,hN0,hN]
theorem Ztg {a0:Int} {a1:Int} {r:Int} {O:Objs} {n:Nat} (h:Ze5 a0 a1=some r):GTo Tryz.prog 84 [(vI a0),(vI a1)] O n ((vI r)) O n:=by
 unfold Ze5 at h
 refine Yj Zo Tryz.call84 Tryz.func84 rfl (Nat.le_of_ble_eq_true rfl) (Nat.le_refl _) fun hU => ?_
 have hN0:O n=none:=hU.fresh _ (Nat.le_refl _)
 have hN:∀ k,O (n+k)=none:=fun k=>hU.fresh _ (Nat.le_add_right _ _)
 show W _ _ _ _ ⟨27,[],[(0,(vI a0)),(1,(vI a1))]⟩ (Zt O n []) _
 refine zQ [0,1] ?_
 refine Zd ?_
 obtain ⟨y2,hy2,h⟩:=bC h
 refine zCd (Zei hy2) [1,5,6] [] ?_
 refine Zd ?_
 refine zQD [1,5,21] [none,none,none,none] ?_
 refine Zj (t:=(cond (cond (!y2.2) true (decide (a1 < 0))) true (decide (1099511627776 < a1)))) rfl (fun c3 => ?_) (fun c3 => ?_)
 ·replace h:=Zn c3 h
  refine zQ [4] ?_
  refine zW ?_
  have h:=Option.some.inj h;subst h
  refine Zi (.inr rfl) hU [(vI 0)] (by omega) ?_
  simp only [push_cast,seval,↓reduceIte,Zb,Tryz.results84,hN0,hN]
 replace h:=Zm c3 h
 refine Xs [1,5] [] ?_
 refine zQ [4] ?_
 refine zW ?_
 have h:=Option.some.inj h;subst h
 refine Zi (.inr rfl) hU [(vI (IntKind.i64.wrap (Int.tdiv (IntKind.i64.wrap ((IntKind.i64.wrap (a1 * y2.1))+63)) 64)))] (by omega) ?_
 simp only [push_cast,seval,↓reduceIte,Zb,Tryz.results84,hN0,hN]
theorem Zkz {a0:Za} {r:(Int×Int)} {O:Objs} {n:Nat} (h:Zb8 a0=some r):GTo Tryz.prog 85 [.agg (Ze a0)] O n (.tup [(vI r.1),(vI r.2)]) O n:=by
 unfold Zb8 at h
 refine Yj Zo Tryz.call85 Tryz.func85 rfl (Nat.le_of_ble_eq_true rfl) (Nat.le_refl _) fun hU => ?_
 have hN0:O n=none:=hU.fresh _ (Nat.le_refl _)
 have hN:∀ k,O (n+k)=none:=fun k=>hU.fresh _ (Nat.le_add_right _ _)
 show W _ _ _ _ ⟨28,[],[(0,.agg (Ze a0))]⟩ (Zt O n []) _
 refine zQ [1] ?_
 refine zQ [1,4,5] ?_
 refine Zd ?_
 refine zQd [4,5,9,10,11] [4,5,9,10,11] [false] ?_
 obtain ⟨z4,hz4,h⟩:=bC h
 refine Yv (E':=⟨28,[],[(4,(vI z4.1)),(5,(vI z4.2))]⟩) (O':=(Zt O n [none])) (n0:=(n+1)) ?_ ?_
 ·refine Y2 hz4 (fun s0_=>⟨28,[],[(4,(vI s0_.1)),(5,(vI s0_.2.1)),(9,(sL Zf a0.Kids)),(10,(vI (a0.Kids.length:Int))),(11,(vI s0_.2.2))]⟩) (fun s0_=>(Zt O n [none])) (fun z4=>JX 0 n (⟨28,[],[(4,(vI z4.1)),(5,(vI z4.2))]⟩:Env) (Zt O n [none]) (n+1)) ?_
  intro s0_ x0_ hs0_
  unfold Zci at hs0_
  try dsimp only
  refine zQ [4,5,9,10,11,12] ?_
  refine Zd ?_
  refine Zj (t:=(decide (s0_.2.2 < (a0.Kids.length:Int)))) rfl (fun c3 => ?_) (fun c3 => ?_)
  ·replace hs0_:=Zn c3 hs0_
   refine Xs [4,5,9,10,11] [false] ?_
   refine Zd ?_
   refine Yh ?_
   refine Zd ?_
   obtain ⟨x2,hx2,ax2,bx2,cx2,hs0_⟩:=bE (f:=Zf) K0 (fun _=>rfl) (by decide) hs0_
   refine Zn1 [] ax2 bx2 cx2 ?_
   refine zD [4,5,7,9,10,11] [false,true] ?_
   refine X1 Zo (by kernel_rfl) [] (by kernel_rfl) ?_
   refine zS ?_
   refine zD [4,5,9,10,11] [false,false] ?_
   refine zR ?_
   exact zEn hs0_
  replace hs0_:=Zm c3 hs0_
  exact zEx hs0_
 try simp only [Y0,Ym,↓reduceIte,Nat.reduceEqDiff]
 refine zD [4,5] [false] ?_
 refine zQ [2,3] ?_
 refine zW ?_
 have h:=Option.some.inj h;subst h
 refine Zi (.inr rfl) hU [(vI z4.1),(vI z4.2)] (by omega) ?_
 simp only [push_cast,seval,↓reduceIte,Zb,Tryz.results85,hN0,hN]
def Zjw (Vr:(Za→Option Int)):Prop:=∀ {a0:Za} {r:Int} {O:Objs} {n:Nat},Vr a0=some r→GTo Tryz.prog 53 [.agg (Ze a0)] O n ((vI r)) O n
def Zia (Qx:((List Za)→Option Int)):Prop:=∀ {a0:(List Za)} {r:Int} {O:Objs} {n:Nat},Qx a0=some r→GTo Tryz.prog 82 [(sL Zf a0)] O n ((vI r)) O n
theorem Zyj {Vr:(Za→Option Int)} {Qx:((List Za)→Option Int)} (Zou:Zjw Vr) (Zej:Zia Qx) {a0:Za} {r:Int} {O:Objs} {n:Nat} (h:Zhm Vr Qx a0=some r):GTo Tryz.prog 53 [.agg (Ze a0)] O n ((vI r)) O n:=by
 unfold Zhm at h
 refine Yj Zo Tryz.call53 Tryz.func53 rfl (Nat.le_of_ble_eq_true rfl) (Nat.le_refl _) fun hU => ?_
 have hN0:O n=none:=hU.fresh _ (Nat.le_refl _)
 have hN:∀ k,O (n+k)=none:=fun k=>hU.fresh _ (Nat.le_add_right _ _)
 show W _ _ _ _ ⟨76,[],[(0,.agg (Ze a0))]⟩ (Zt O n []) _
 refine zQ [1] ?_
 refine Zd ?_
 refine Yh ?_
 refine zQ [1,8] ?_
 refine Zj (t:=(a0.Kind == 1)) rfl (fun c19 => ?_) (fun c19 => ?_)
 ·replace h:=Zn c19 h
  refine Zd ?_
  obtain ⟨y2,hy2,h⟩:=bC h
  refine X1 Zo (by kernel_rfl) [] (by kernel_rfl) ?_
  refine zS ?_
  refine PCall.of (Zej hy2) ?_
  refine zS ?_
  refine zD [2] [false] ?_
  refine zW ?_
  have h:=Option.some.inj h;subst h
  refine Zi (.inr rfl) hU [(vI (IntKind.i64.wrap ((IntKind.i64.wrap ((a0.Words.length:Int)+(a0.Kids.length:Int)))+y2)))] (by omega) ?_
  simp only [push_cast,seval,↓reduceIte,Zb,Tryz.results53,hN0,hN]
 replace h:=Zm c19 h
 refine Zd ?_
 obtain ⟨y4,hy4,h⟩:=bC h
 refine zCd (Z1b hy4) [1,23] [true] ?_
 refine Zj (t:=y4) rfl (fun c18 => ?_) (fun c18 => ?_)
 ·replace h:=Zn c18 h
  refine Zd ?_
  obtain ⟨y6,hy6,h⟩:=bC h
  refine zCd (Ztg hy6) [2] [false] ?_
  refine zW ?_
  have h:=Option.some.inj h;subst h
  refine Zi (.inr rfl) hU [(vI y6)] (by omega) ?_
  simp only [push_cast,seval,↓reduceIte,Zb,Tryz.results53,hN0,hN]
 replace h:=Zm c18 h
 refine zQ [1,34] ?_
 refine Zj (t:=(a0.Kind == 8)) rfl (fun c17 => ?_) (fun c17 => ?_)
 ·replace h:=Zn c17 h
  refine Zd ?_
  obtain ⟨y8,hy8,h⟩:=bC h
  refine X1 Zo (by kernel_rfl) [] (by kernel_rfl) ?_
  refine zS ?_
  refine PCall.of (Zej hy8) ?_
  refine zS ?_
  refine zD [2] [false] ?_
  refine zW ?_
  have h:=Option.some.inj h;subst h
  refine Zi (.inr rfl) hU [(vI (IntKind.i64.wrap ((a0.Kids.length:Int)+y8)))] (by omega) ?_
  simp only [push_cast,seval,↓reduceIte,Zb,Tryz.results53,hN0,hN]
 replace h:=Zm c17 h
 refine zQ [1,45] ?_
 refine Zj (t:=(a0.Kind == 9)) rfl (fun c16 => ?_) (fun c16 => ?_)
 ·replace h:=Zn c16 h
  refine Zd ?_
  obtain ⟨y10,hy10,h⟩:=bC h
  refine zCd (Zkz hy10) [1,3,4] [true] ?_
  refine zQ [1,5] ?_
  refine Zd ?_
  refine zQd [5,63,64,65] [5,63,64,65] [false] ?_
  obtain ⟨z15,hz15,h⟩:=bC h
  refine Yv (E':=⟨76,[],[(5,(vI z15))]⟩) (O':=(Zt O n [none])) (n0:=(n+1)) ?_ ?_
  ·refine Y2 hz15 (fun s0_=>⟨76,[],[(5,(vI s0_.1)),(63,(sL Zf a0.Kids)),(64,(vI (a0.Kids.length:Int))),(65,(vI s0_.2))]⟩) (fun s0_=>(Zt O n [none])) (fun z15=>JX 1 n (⟨76,[],[(5,(vI z15))]⟩:Env) (Zt O n [none]) (n+1)) ?_
   intro s0_ x0_ hs0_
   unfold Zbh at hs0_
   try dsimp only
   refine zQ [5,63,64,65,66] ?_
   refine Zd ?_
   refine Zj (t:=(decide (s0_.2 < (a0.Kids.length:Int)))) rfl (fun c14 => ?_) (fun c14 => ?_)
   ·replace hs0_:=Zn c14 hs0_
    refine Xs [5,63,64,65] [false] ?_
    refine Zd ?_
    refine Yh ?_
    refine Zd ?_
    obtain ⟨x12,hx12,ax12,bx12,cx12,hs0_⟩:=bE (f:=Zf) K0 (fun _=>rfl) (by decide) hs0_
    refine Zn1 [] ax12 bx12 cx12 ?_
    refine zD [5,7,63,64,65] [false,true] ?_
    obtain ⟨y13,hy13,hs0_⟩:=bC hs0_
    refine zCd (Zej hy13) [5,63,64,65] [false,false] ?_
    refine zR ?_
    exact zEn hs0_
   replace hs0_:=Zm c14 hs0_
   exact zEx hs0_
  try simp only [Y0,Ym,↓reduceIte,Nat.reduceEqDiff]
  refine zD [5] [false] ?_
  refine zQ [2] ?_
  refine zW ?_
  have h:=Option.some.inj h;subst h
  refine Zi (.inr rfl) hU [(vI z15)] (by omega) ?_
  simp only [push_cast,seval,↓reduceIte,Zb,Tryz.results53,hN0,hN]
 replace h:=Zm c16 h
 refine Xs [] [false] ?_
 refine zQ [2] ?_
 refine zW ?_
 have h:=Option.some.inj h;subst h
 refine Zi (.inr rfl) hU [(vI 0)] (by omega) ?_
 simp only [push_cast,seval,↓reduceIte,Zb,Tryz.results53,hN0,hN]
theorem Zxh {Vr:(Za→Option Int)} {Qx:((List Za)→Option Int)} (Zou:Zjw Vr) (Zej:Zia Qx) {a0:(List Za)} {r:Int} {O:Objs} {n:Nat} (h:Zfm Vr Qx a0=some r):GTo Tryz.prog 82 [(sL Zf a0)] O n ((vI r)) O n:=by
 unfold Zfm at h
 refine Yj Zo Tryz.call82 Tryz.func82 rfl (Nat.le_of_ble_eq_true rfl) (Nat.le_refl _) fun hU => ?_
 have hN0:O n=none:=hU.fresh _ (Nat.le_refl _)
 have hN:∀ k,O (n+k)=none:=fun k=>hU.fresh _ (Nat.le_add_right _ _)
 show W _ _ _ _ ⟨18,[],[(0,(sL Zf a0))]⟩ (Zt O n []) _
 refine zQ [0] ?_
 refine zQ [0,3] ?_
 refine Zd ?_
 refine zQd [3,6,7,8] [3,6,7,8] [] ?_
 obtain ⟨z5,hz5,h⟩:=bC h
 refine Yv (E':=⟨18,[],[(3,(vI z5))]⟩) (O':=(Zt O n [])) (n0:=n) ?_ ?_
 ·refine Y2 hz5 (fun s0_=>⟨18,[],[(3,(vI s0_.1)),(6,(sL Zf a0)),(7,(vI (a0.length:Int))),(8,(vI s0_.2))]⟩) (fun s0_=>(Zt O n [])) (fun z5=>JX 0 n (⟨18,[],[(3,(vI z5))]⟩:Env) (Zt O n []) n) ?_
  intro s0_ x0_ hs0_
  unfold Zaj at hs0_
  try dsimp only
  refine zQ [3,6,7,8,9] ?_
  refine Zd ?_
  refine Zj (t:=(decide (s0_.2 < (a0.length:Int)))) rfl (fun c4 => ?_) (fun c4 => ?_)
  ·replace hs0_:=Zn c4 hs0_
   refine Xs [3,6,7,8] [] ?_
   refine Zd ?_
   refine Yh ?_
   refine Zd ?_
   obtain ⟨x2,hx2,ax2,bx2,cx2,hs0_⟩:=bE (f:=Zf) K0 (fun _=>rfl) (by decide) hs0_
   refine Zn1 [] ax2 bx2 cx2 ?_
   refine zD [3,5,6,7,8] [true] ?_
   obtain ⟨y3,hy3,hs0_⟩:=bC hs0_
   refine zCd (Zou hy3) [3,6,7,8] [false] ?_
   refine zR ?_
   exact zEn hs0_
  replace hs0_:=Zm c4 hs0_
  exact zEx hs0_
 try simp only [Y0,Ym,↓reduceIte,Nat.reduceEqDiff]
 refine zD [3] [] ?_
 refine zQ [2] ?_
 refine zW ?_
 have h:=Option.some.inj h;subst h
 refine Zi (.inr rfl) hU [(vI z5)] (by omega) ?_
 simp only [push_cast,seval,↓reduceIte,Zb,Tryz.results82,hN0,hN]
theorem Zv3:∀ k,(Zjw ((Xg k).1))∧(Zia ((Xg k).2)):=fun k=>by
 induction k with
 | zero=>exact ⟨@fun a0 r O n h=>(nomatch (show (none:Option _)=some _ from h)),@fun a0 r O n h=>(nomatch (show (none:Option _)=some _ from h))⟩
 | succ k ih=>exact ⟨@fun a0 r O n h=>Zyj (ih.1) (ih.2)  h,@fun a0 r O n h=>Zxh (ih.1) (ih.2)  h⟩
theorem Z1e {a0:Za} {r:Int} {O:Objs} {n:Nat} (h:Zoi a0=some r):GTo Tryz.prog 53 [.agg (Ze a0)] O n ((vI r)) O n:=by
 obtain ⟨k,hk⟩:=Zcg h
 exact (Zv3 k).1  hk
theorem Z1c {a0:Za} {r:Int} {O:Objs} {n:Nat} (h:Zhs a0=some r):GTo Tryz.prog 29 [.agg (Ze a0)] O n ((vI r)) O n:=by
 unfold Zhs at h
 refine Yj Zo Tryz.call29 Tryz.func29 rfl (Nat.le_of_ble_eq_true rfl) (Nat.le_refl _) fun hU => ?_
 have hN0:O n=none:=hU.fresh _ (Nat.le_refl _)
 have hN:∀ k,O (n+k)=none:=fun k=>hU.fresh _ (Nat.le_add_right _ _)
 show W _ _ _ _ ⟨6,[],[(0,.agg (Ze a0))]⟩ (Zt O n []) _
 refine zQ [1] ?_
 refine Zd ?_
 obtain ⟨y3,hy3,h⟩:=bC h
 obtain ⟨y4,hy4,h⟩:=bC h
 refine zC (Znd hy3) ?_
 refine zTs (Z1e hy4) ?_
 refine zD [2] [false] ?_
 refine zW ?_
 have h:=Option.some.inj h;subst h
 refine Zi (.inr rfl) hU [(vI y4)] (by omega) ?_
 simp only [push_cast,seval,↓reduceIte,Zb,Tryz.results29,hN0,hN]
theorem Zxc {a0:Za} {r:Zx} {O:Objs} {n:Nat} (h:V9 a0=some r):GTo Tryz.prog 54 [.agg (Ze a0)] O n (.agg (Yq r)) O n:=by
 unfold V9 at h
 refine Yj Zo Tryz.call54 Tryz.func54 rfl (Nat.le_of_ble_eq_true rfl) (Nat.le_refl _) fun hU => ?_
 have hN0:O n=none:=hU.fresh _ (Nat.le_refl _)
 have hN:∀ k,O (n+k)=none:=fun k=>hU.fresh _ (Nat.le_add_right _ _)
 show W _ _ _ _ ⟨38,[],[(0,.agg (Ze a0))]⟩ (Zt O n []) _
 refine zQ [1,2] ?_
 refine Zd ?_
 refine zQ [1,2,6] ?_
 refine Yh ?_
 refine zQ [1,2,6,7] ?_
 refine Zj (t:=(a0.Kind == 1)) rfl (fun c4 => ?_) (fun c4 => ?_)
 ·replace h:=Zn c4 h
  refine Zd ?_
  refine zRd [2] [false,true] ?_
  refine zW ?_
  have h:=Option.some.inj h;subst h
  refine Zi (.inr rfl) hU [.agg [(vI 1),(vI 0),(vI (a0.Words.length:Int)),(vI (a0.Kids.length:Int)),(vI 0),(vI 0),(vI 0),(vB false)]] (by omega) ?_
  simp only [push_cast,seval,↓reduceIte,Zb,Tryz.results54,hN0,hN]
 replace h:=Zm c4 h
 refine zQ [1,2,16] ?_
 refine Zj (t:=(a0.Kind == 9)) rfl (fun c3 => ?_) (fun c3 => ?_)
 ·replace h:=Zn c3 h
  refine Zd ?_
  obtain ⟨y2,hy2,h⟩:=bC h
  refine zCd (Zkz hy2) [1,2,3,4] [true,true] ?_
  refine Zd ?_
  refine zRd [2] [false,true] ?_
  refine zW ?_
  have h:=Option.some.inj h;subst h
  refine Zi (.inr rfl) hU [.agg [(vI 2),(vI 0),(vI 0),(vI 0),(vI 7),(vI (IntKind.i64.wrap ((a0.Kids.length:Int) * (IntKind.i64.wrap (y2.1+y2.2))))),(vI 0),(vB false)]] (by omega) ?_
  simp only [push_cast,seval,↓reduceIte,Zb,Tryz.results54,hN0,hN]
 replace h:=Zm c3 h
 refine Xs [1,2] [true,true] ?_
 refine Zd ?_
 refine zRd [2] [false,true] ?_
 refine zW ?_
 have h:=Option.some.inj h;subst h
 refine Zi (.inr rfl) hU [.agg [(vI 2),(vI 0),(vI 0),(vI 0),(vI (IntKind.i64.wrap (a0.Kind - 2))),(vI (a0.Kids.length:Int)),(vI 0),(vB false)]] (by omega) ?_
 simp only [push_cast,seval,↓reduceIte,Zb,Tryz.results54,hN0,hN]
theorem Z4w {a0:Zx} {r:Int} {O:Objs} {n:Nat} (h:Zlx a0=some r):GTo Tryz.prog 87 [.agg (Yq a0)] O n (.val (.int .u64 r)) O n:=by
 unfold Zlx at h
 refine Yj Zo Tryz.call87 Tryz.func87 rfl (Nat.le_of_ble_eq_true rfl) (Nat.le_refl _) fun hU => ?_
 have hN0:O n=none:=hU.fresh _ (Nat.le_refl _)
 have hN:∀ k,O (n+k)=none:=fun k=>hU.fresh _ (Nat.le_add_right _ _)
 show W _ _ _ _ ⟨58,[],[(0,.agg (Yq a0))]⟩ (Zt O n []) _
 refine zQ [1] ?_
 refine Zd ?_
 refine zQ [1,5] ?_
 refine Yh ?_
 refine zQ [1,5,6] ?_
 refine Zj (t:=(a0.Kind == 1)) rfl (fun c5 => ?_) (fun c5 => ?_)
 ·replace h:=Zn c5 h
  refine zQ [2] ?_
  refine zW ?_
  have h:=Option.some.inj h;subst h
  refine Zi (.inr rfl) hU [.val (.int .u64 (IntKind.u64.wrap (Zdb .u64 (IntKind.u64.wrap (Zdb .u64 (IntKind.u64.wrap (IntKind.u32.wrap ((IntKind.u32.wrap a0.Off) * 2 ^ min (Int.toNat 2) 32))) (IntKind.u64.wrap ((IntKind.u64.wrap a0.Data) * 2 ^ min (Int.toNat 32) 64)))) (IntKind.u64.wrap ((IntKind.u64.wrap a0.Ptrs) * 2 ^ min (Int.toNat 48) 64)))))] (by omega) ?_
  simp only [push_cast,seval,↓reduceIte,Zb,Tryz.results87,hN0,hN]
 replace h:=Zm c5 h
 refine zQ [1,5,23] ?_
 refine Zj (t:=(a0.Kind == 2)) rfl (fun c4 => ?_) (fun c4 => ?_)
 ·replace h:=Zn c4 h
  refine zQ [2] ?_
  refine zW ?_
  have h:=Option.some.inj h;subst h
  refine Zi (.inr rfl) hU [.val (.int .u64 (IntKind.u64.wrap (Zdb .u64 (IntKind.u64.wrap (Zdb .u64 (IntKind.u64.wrap (Zdb .u64 1 (IntKind.u64.wrap (IntKind.u32.wrap ((IntKind.u32.wrap a0.Off) * 2 ^ min (Int.toNat 2) 32))))) (IntKind.u64.wrap ((IntKind.u64.wrap a0.Code) * 2 ^ min (Int.toNat 32) 64)))) (IntKind.u64.wrap ((IntKind.u64.wrap a0.Count) * 2 ^ min (Int.toNat 35) 64)))))] (by omega) ?_
  simp only [push_cast,seval,↓reduceIte,Zb,Tryz.results87,hN0,hN]
 replace h:=Zm c4 h
 refine zQ [1,41] ?_
 refine Zj (t:=(a0.Kind == 3)) rfl (fun c3 => ?_) (fun c3 => ?_)
 ·replace h:=Zn c3 h
  refine zQ [1,3] ?_
  obtain ⟨z1,hz1,h⟩:=bC h
  refine Y8 (E':=⟨58,[],[(3,.val (.int .u64 z1))]⟩) (O':=(Zt O n [none])) (n0:=(n+1)) ?_ ?_
  ·refine zQ [3,54] ?_
   refine Zj (t:=a0.Double) rfl (fun c2 => ?_) (fun c2 => ?_)
   ·replace hz1:=Zn c2 hz1
    refine zR ?_
    exact zEn hz1
   replace hz1:=Zm c2 hz1
   refine zK ?_
   exact zEn hz1
  refine zQ [2] ?_
  refine zW ?_
  have h:=Option.some.inj h;subst h
  refine Zi (.inr rfl) hU [.val (.int .u64 z1)] (by omega) ?_
  simp only [push_cast,seval,↓reduceIte,Zb,Tryz.results87,hN0,hN]
 replace h:=Zm c3 h
 refine Xs [] [false] ?_
 refine zQ [2] ?_
 refine zW ?_
 have h:=Option.some.inj h;subst h
 refine Zi (.inr rfl) hU [.val (.int .u64 0)] (by omega) ?_
 simp only [push_cast,seval,↓reduceIte,Zb,Tryz.results87,hN0,hN]
theorem Zr1 {a0:Zx} {r:(Int×Bool)} {O:Objs} {n:Nat} (h:Ua a0=some r):GTo Tryz.prog 56 [.agg (Yq a0)] O n (.tup [.val (.int .u64 r.1),(vB r.2)]) O n:=by
 unfold Ua at h
 refine Yj Zo Tryz.call56 Tryz.func56 rfl (Nat.le_of_ble_eq_true rfl) (Nat.le_refl _) fun hU => ?_
 have hN0:O n=none:=hU.fresh _ (Nat.le_refl _)
 have hN:∀ k,O (n+k)=none:=fun k=>hU.fresh _ (Nat.le_add_right _ _)
 show W _ _ _ _ ⟨17,[],[(0,.agg (Yq a0))]⟩ (Zt O n []) _
 refine zQ [1] ?_
 refine Zd ?_
 obtain ⟨y2,hy2,h⟩:=bC h
 refine zCd (Z4w hy2) [1,4] [true] ?_
 obtain ⟨z4,hz4,h⟩:=bC h
 refine Y8 (E':=⟨17,[],[(2,.val (.int .u64 y2)),(3,(vB z4))]⟩) (O':=(Zt O n [none])) (n0:=(n+1)) ?_ ?_
 ·rcases Bool.eq_false_or_eq_true (a0.Kind != 4) with c7 | c7
  ·replace hz4:=Zn c7 hz4
   obtain ⟨y6,hy6,hz4⟩:=bC hz4
   refine X1 Zo (by kernel_rfl) [some true,some true,some true,some true] (by kernel_rfl) ?_
   refine zX1 c7 ?_
   refine PCall.of (Gc hy6) ?_
   refine zX1 c7 ?_
   exact Ki hz4 c7
  replace hz4:=Zm c7 hz4
  refine X1 Zo (by kernel_rfl) [some false,some false,some false,some false] (by kernel_rfl) ?_
  refine zX1 c7 ?_
  exact Ki hz4 c7
 refine zW ?_
 have h:=Option.some.inj h;subst h
 refine Zi (.inr rfl) hU [.val (.int .u64 y2),(vB z4)] (by omega) ?_
 simp only [push_cast,seval,↓reduceIte,Zb,Tryz.results56,hN0,hN]
theorem Z1d {a0:Za} {a1:Int} {r:Int} {O:Objs} {n:Nat} (h:Zht a0 a1=some r):GTo Tryz.prog 104 [.agg (Ze a0),(vI a1)] O n (.val (.int .u64 r)) O n:=by
 unfold Zht at h
 refine Yj Zo Tryz.call104 Tryz.func104 rfl (Nat.le_of_ble_eq_true rfl) (Nat.le_refl _) fun hU => ?_
 have hN0:O n=none:=hU.fresh _ (Nat.le_refl _)
 have hN:∀ k,O (n+k)=none:=fun k=>hU.fresh _ (Nat.le_add_right _ _)
 show W _ _ _ _ ⟨19,[],[(0,.agg (Ze a0)),(1,(vI a1))]⟩ (Zt O n []) _
 refine zQ [1,2] ?_
 refine Zd ?_
 refine zQD [1,2,13] [none,none,none,none,none] ?_
 refine Zj (t:=(cond (decide (a1 < 0)) true (decide ((a0.Words.length:Int)≤a1)))) rfl (fun c3 => ?_) (fun c3 => ?_)
 ·replace h:=Zn c3 h
  refine zQ [4] ?_
  refine zW ?_
  have h:=Option.some.inj h;subst h
  refine Zi (.inr rfl) hU [.val (.int .u64 0)] (by omega) ?_
  simp only [push_cast,seval,↓reduceIte,Zb,Tryz.results104,hN0,hN]
 replace h:=Zm c3 h
 refine Xs [1,2] [true] ?_
 obtain ⟨x2,hx2,ax2,bx2,cx2,h⟩:=bE (f:=(eI .u64)) Jd (fun _=>rfl) (by decide) h
 refine Zb4 [4] (Z5 Zo [] ?_)
 refine zF3 ax2 bx2 cx2 ?_
 refine zW ?_
 have h:=Option.some.inj h;subst h
 refine Zi (.inr rfl) hU [.val (.int .u64 x2)] (by omega) ?_
 simp only [push_cast,seval,↓reduceIte,Zb,Tryz.results104,hN0,hN]
theorem Z27 {a0:Int} {a1:(List Int)} {r:((List Int)×Bool)} {O:Objs} {n:Nat} (h:Zgu a0 a1=some r):GTo Tryz.prog 105 [(vI a0),(sL (eI .u64) a1)] O n (.tup [(sL (eI .u64) r.1),(vB r.2)]) O n:=by
 unfold Zgu at h
 refine Yj Zo Tryz.call105 Tryz.func105 rfl (Nat.le_of_ble_eq_true rfl) (Nat.le_refl _) fun hU => ?_
 have hN0:O n=none:=hU.fresh _ (Nat.le_refl _)
 have hN:∀ k,O (n+k)=none:=fun k=>hU.fresh _ (Nat.le_add_right _ _)
 show W _ _ _ _ ⟨68,[],[(0,(vI a0)),(1,(sL (eI .u64) a1))]⟩ (Zt O n []) _
 refine zQ [0,1] ?_
 refine Zd ?_
 obtain ⟨y2,hy2,h⟩:=bC h
 refine zCd (Zei hy2) [0,1,6,7] [] ?_
 refine Zd ?_
 refine zQd [0,1,6,7,19,20,21] [0,1,6,7,19,20,21] [] ?_
 obtain ⟨z8,hz8,h⟩:=bC h
 refine Yv (E':=⟨68,[],[(0,(vI a0)),(1,(sL (eI .u64) a1)),(6,(vI y2.1)),(7,(vB z8))]⟩) (O':=(Zt O n [])) (n0:=n) ?_ ?_
 ·refine Y2 hz8 (fun s0_=>⟨68,[],[(0,(vI a0)),(1,(sL (eI .u64) a1)),(6,(vI y2.1)),(7,(vB s0_.1)),(19,(sL (eI .u64) a1)),(20,(vI (a1.length:Int))),(21,(vI s0_.2))]⟩) (fun s0_=>(Zt O n [])) (fun z8=>JX 0 n (⟨68,[],[(0,(vI a0)),(1,(sL (eI .u64) a1)),(6,(vI y2.1)),(7,(vB z8))]⟩:Env) (Zt O n []) n) ?_
  intro s0_ x0_ hs0_
  unfold Zcv at hs0_
  try dsimp only
  refine zQ [0,1,6,7,19,20,21,22] ?_
  refine Zd ?_
  refine Zj (t:=(decide (s0_.2 < (a1.length:Int)))) rfl (fun c7 => ?_) (fun c7 => ?_)
  ·replace hs0_:=Zn c7 hs0_
   refine Xs [0,1,6,7,19,20,21] [] ?_
   refine Zd ?_
   refine Yh ?_
   obtain ⟨x4,hx4,ax4,bx4,cx4,hs0_⟩:=bE (f:=(eI .u64)) Jd (fun _=>rfl) (by decide) hs0_
   refine Zb4 [0,1,6,7,9,19,20,21] (Z5 Zo [] ?_)
   refine zF3 ax4 bx4 cx4 ?_
   rcases Bool.eq_false_or_eq_true s0_.1 with c6 | c6
   ·replace hs0_:=Zn c6 hs0_
    obtain ⟨y5,hy5,hs0_⟩:=bC hs0_
    refine Vc [some true,some true,some true] c6 ?_
    refine (Ztf hy5).then ?_
    refine zX1 c6 ?_
    refine zD [0,1,6,7,19,20,21] [] ?_
    refine zR ?_
    exact Ki hs0_ c6
   replace hs0_:=Zm c6 hs0_
   refine Vc [some false,some false,some false] c6 ?_
   refine zD [0,1,6,7,19,20,21] [] ?_
   refine zR ?_
   exact zEn hs0_
  replace hs0_:=Zm c7 hs0_
  exact zEx hs0_
 try simp only [Y0,Ym,↓reduceIte,Nat.reduceEqDiff]
 refine zDs [0,1,6,7] [] ?_
 refine zQ [0,1,6,33] ?_
 refine Zj (t:=(!z8)) rfl (fun c26 => ?_) (fun c26 => ?_)
 ·replace h:=Zn c26 h
  refine zQ [4,5] ?_
  refine zW ?_
  have h:=Option.some.inj h;subst h
  refine Zi (.inr rfl) hU [nV,(vB false)] (by omega) ?_
  simp only [push_cast,seval,↓reduceIte,Zb,Tryz.results105,hN0,hN]
 replace h:=Zm c26 h
 refine Xs [0,1,6] [] ?_
 refine Zd ?_
 obtain ⟨y11,hy11,h⟩:=bC h
 obtain ⟨l12,al12,bl12,cl12,el12,h⟩:=bM2 (c:=8) rfl h
 have nl12:Int.toNat y11=List.length l12:=by rw [el12,List.length_replicate]
 have fl12:(List.replicate (List.length l12) [.val (.int .u64 0)]).flatten=fl (eI .u64) l12:=by rw [← nl12,el12];exact (Zm5 (f:=(eI .u64)) _ _).symm
 clear el12
 refine Z5 Zo [] ?_
 simp only [push_cast,seval,↓reduceIte,Zb,al12,bl12,cl12,fl12,nl12,hN0,hN]
 refine (Ztg hy11).then ?_
 simp only [push_cast,seval,↓reduceIte,Zb,al12,bl12,cl12,fl12,nl12,hN0,hN]
 refine Zah ⟨68,[],[(1,(sL (eI .u64) a1)),(6,(vI y2.1)),(10,.row n l12.length)]⟩ (Zt O n [some (oR 45 1 (eI .u64) l12)]) (Z8 hU rfl rfl ?_) ?_
 ·simp only [push_cast,seval,↓reduceIte,Zb,al12,bl12,cl12,fl12,nl12,hN0,hN]
 refine Zd ?_
 refine zQ [1,6,10,40] ?_
 refine Zj (t:=(y2.1 == 0)) rfl (fun c25 => ?_) (fun c25 => ?_)
 ·replace h:=Zn c25 h
  refine zQ [4,5] ?_
  refine zW ?_
  have h:=Option.some.inj h;subst h
  refine Zi (.inr rfl) hU [.row n l12.length,(vB true)] (by omega) ?_
  simp only [push_cast,seval,↓reduceIte,Zb,Tryz.results105,hN0,hN]
 replace h:=Zm c25 h
 refine Xs [1,6,10] [true] ?_
 obtain ⟨pu14,h⟩:=bG h
 refine Zb4 [1,6,10,11] (Z5 Zo [] ?_)
 simp only [push_cast,seval,↓reduceIte,Zb,pu14,hN0,hN]
 refine Zd ?_
 refine zQd [6,10,11,44,45,46] [6,10,11,44,45,46] [true] ?_
 obtain ⟨z24,hz24,h⟩:=bC h
 refine Yv (E':=⟨68,[],[(10,.row n z24.length)]⟩) (O':=(Zt O n [some (oR 45 1 (eI .u64) z24)])) (n0:=(n+1)) ?_ ?_
 ·refine Y2 hz24 (fun s1_=>⟨68,[],[(6,(vI y2.1)),(10,.row n s1_.2.length),(11,(vI (IntKind.i64.wrap (Int.tdiv 64 y2.1)))),(44,(sL (eI .u64) a1)),(45,(vI (a1.length:Int))),(46,(vI s1_.1))]⟩) (fun s1_=>(Zt O n [some (oR 45 1 (eI .u64) s1_.2)])) (fun z24=>JX 2 n (⟨68,[],[(10,.row n z24.length)]⟩:Env) (Zt O n [some (oR 45 1 (eI .u64) z24)]) (n+1)) ?_
  intro s1_ x1_ hs1_
  unfold Za6 at hs1_
  try dsimp only
  refine zQ [6,10,11,44,45,46,47] ?_
  refine Zd ?_
  refine Zj (t:=(decide (s1_.1 < (a1.length:Int)))) rfl (fun c23 => ?_) (fun c23 => ?_)
  ·replace hs1_:=Zn c23 hs1_
   refine Xs [6,10,11,44,45,46] [true] ?_
   refine Zd ?_
   refine Yh ?_
   obtain ⟨x16,hx16,ax16,bx16,cx16,hs1_⟩:=bE (f:=(eI .u64)) Jd (fun _=>rfl) (by decide) hs1_
   refine Zb4 [6,10,11,12,13,44,45,46] (Z5 Zo [] ?_)
   refine zF3 ax16 bx16 cx16 ?_
   obtain ⟨pu17,hs1_⟩:=bG hs1_
   obtain ⟨x18,hx18,ax18,bx18,cx18,hs1_⟩:=bE (f:=(eI .u64)) Jd (fun _=>rfl) (by decide) hs1_
   obtain ⟨pu19,hs1_⟩:=bG hs1_
   obtain ⟨pu20,hs1_⟩:=bG hs1_
   have gu22:Vs (fl (eI .u64) s1_.2) [.val (.int .u64 (IntKind.u64.wrap (Zdb .u64 x18 (IntKind.u64.wrap (x16 * 2 ^ min (Int.toNat (IntKind.i64.wrap ((Int.tmod s1_.1 (IntKind.i64.wrap (Int.tdiv 64 y2.1))) * y2.1))) 64)))))] (Int.toNat (IntKind.i64.wrap (Int.tdiv s1_.1 (IntKind.i64.wrap (Int.tdiv 64 y2.1)))) * 1)=some (fl (eI .u64) (Kc s1_.2 (IntKind.i64.wrap (Int.tdiv s1_.1 (IntKind.i64.wrap (Int.tdiv 64 y2.1)))) (IntKind.u64.wrap (Zdb .u64 x18 (IntKind.u64.wrap (x16 * 2 ^ min (Int.toNat (IntKind.i64.wrap ((Int.tmod s1_.1 (IntKind.i64.wrap (Int.tdiv 64 y2.1))) * y2.1))) 64)))))):=Zcs (f:=(eI .u64)) (ti:=⟨.bool,1,0,[],false⟩) (x:=(IntKind.u64.wrap (Zdb .u64 x18 (IntKind.u64.wrap (x16 * 2 ^ min (Int.toNat (IntKind.i64.wrap ((Int.tmod s1_.1 (IntKind.i64.wrap (Int.tdiv 64 y2.1))) * y2.1))) 64))))) (fun _=>rfl) (Zat hx18)
   refine Zc4 Zo (by kernel_rfl) [false,false,false,false,false,false,false,false,false,false,false,false,false,false,false,true] [] (by kernel_rfl) ?_
   refine zF7 pu17 ax18 bx18 cx18 pu19 pu20 gu22 ?_
   refine zD [6,10,11,44,45,46] [true] ?_
   refine zR ?_
   exact zEn hs1_
  replace hs1_:=Zm c23 hs1_
  exact zEx hs1_
 try simp only [Y0,Ym,↓reduceIte,Nat.reduceEqDiff]
 refine zD [10] [true] ?_
 refine zQ [4,5] ?_
 refine zW ?_
 have h:=Option.some.inj h;subst h
 refine Zi (.inr rfl) hU [.row n z24.length,(vB true)] (by omega) ?_
 simp only [push_cast,seval,↓reduceIte,Zb,Tryz.results105,hN0,hN]
theorem Zua {a0:Za} {r:(List Int)} {O:Objs} {n:Nat} (h:Zch a0=some r):GTo Tryz.prog 91 [.agg (Ze a0)] O n ((sL (eI .u64) r)) O n:=by
 unfold Zch at h
 refine Yj Zo Tryz.call91 Tryz.func91 rfl (Nat.le_of_ble_eq_true rfl) (Nat.le_refl _) fun hU => ?_
 have hN0:O n=none:=hU.fresh _ (Nat.le_refl _)
 have hN:∀ k,O (n+k)=none:=fun k=>hU.fresh _ (Nat.le_add_right _ _)
 show W _ _ _ _ ⟨30,[],[(0,.agg (Ze a0))]⟩ (Zt O n []) _
 refine zQ [1] ?_
 refine zQ [1,3] ?_
 refine Zd ?_
 refine zQd [1,3,9,10,11] [1,3,9,10,11] [true] ?_
 refine Za0 (E':=(⟨30,[],[(1,.ref n 0),(3,.row (n+1) ([]:List Int).length),(9,(sL Zf a0.Kids)),(10,(vI (a0.Kids.length:Int))),(11,(vI 0))]⟩:Env)) (O':=(Zt O n [some ⟨false,28,3,1,(Ze a0)⟩,some (oR 45 1 (eI .u64) ([]:List Int)),none])) (n':=(n+3)) ?_ ?_
 ·refine Fit2.trans (E':=(⟨30,[],[(1,.ref n 0),(3,nV),(9,(sL Zf a0.Kids)),(10,(vI (a0.Kids.length:Int))),(11,(vI 0))]⟩:Env)) (O':=(Zt O n [some ⟨false,28,3,1,(Ze a0)⟩])) (n':=(n+1)) (Fit2.of (Z8 hU rfl rfl ?_) (by omega)) ?_
  ·exact zSe
  refine Fit2.trans (Zo6 3 45 1 rfl (by omega)) ?_
  simp only [J4,Qh,Zb3,Zap,List.set_cons_zero,List.set_cons_succ,List.cons_append,List.nil_append,List.length_cons,List.length_nil,Nat.zero_add,Nat.reduceAdd,Nat.reduceLT,Nat.add_assoc]
  refine Fit2.trans (E':=(⟨30,[],[(1,.ref n 0),(3,.row (n+1) ([]:List Int).length),(9,(sL Zf a0.Kids)),(10,(vI (a0.Kids.length:Int))),(11,(vI 0))]⟩:Env)) (O':=(Zt O n [some ⟨false,28,3,1,(Ze a0)⟩,some (oR 45 1 (eI .u64) ([]:List Int))])) (n':=(n+2)) (Fit2.of (Z8 hU rfl rfl ?_) (by omega)) ?_
  ·exact zSe
  refine Jt (k:=2) (k':=3) hU [0,1] [0,1,0] rfl rfl rfl rfl ⟨rfl,rfl⟩ ?_
  exact zSe
 obtain ⟨z6,hz6,h⟩:=bC h
 refine Yv (E':=⟨30,[],[(1,.ref n 0),(3,.row (n+1) z6.length)]⟩) (O':=(Zt O n [some ⟨false,28,3,1,(Ze a0)⟩,some (oR 45 1 (eI .u64) z6),none])) (n0:=(n+3)) ?_ ?_
 ·refine Y2 hz6 (fun s0_=>⟨30,[],[(1,.ref n 0),(3,.row (n+1) s0_.2.length),(9,(sL Zf a0.Kids)),(10,(vI (a0.Kids.length:Int))),(11,(vI s0_.1))]⟩) (fun s0_=>(Zt O n [some ⟨false,28,3,1,(Ze a0)⟩,some (oR 45 1 (eI .u64) s0_.2),none])) (fun z6=>JX 0 n (⟨30,[],[(1,.ref n 0),(3,.row (n+1) z6.length)]⟩:Env) (Zt O n [some ⟨false,28,3,1,(Ze a0)⟩,some (oR 45 1 (eI .u64) z6),none]) (n+3)) ?_
  intro s0_ x0_ hs0_
  unfold Gu at hs0_
  try dsimp only
  refine zQ [1,3,9,10,11,12] ?_
  refine Zd ?_
  refine Zj (t:=(decide (s0_.1 < (a0.Kids.length:Int)))) rfl (fun c5 => ?_) (fun c5 => ?_)
  ·replace hs0_:=Zn c5 hs0_
   refine Xs [1,3,9,10,11] [true,true,false] ?_
   refine Zd ?_
   refine Yh ?_
   refine Zd ?_
   obtain ⟨x2,hx2,ax2,bx2,cx2,hs0_⟩:=bE (f:=Zf) K0 (fun _=>rfl) (by decide) hs0_
   refine Zn1 [] ax2 bx2 cx2 ?_
   refine zD [1,3,5,9,10,11] [true,true,false,true] ?_
   obtain ⟨y3,hy3,hs0_⟩:=bC hs0_
   obtain ⟨l4,pl4,ql4,el4,hs0_⟩:=bA (k:=1) rfl hs0_
   refine Zku [] pl4 ql4 el4 ?_
   refine (Z1d hy3).then ?_
   refine zX3 pl4 ql4 el4 ?_
   refine Zah ⟨30,[],[(1,.ref n 0),(3,.row (n+1) l4.length),(9,(sL Zf a0.Kids)),(10,(vI (a0.Kids.length:Int))),(11,(vI s0_.1))]⟩ (Zt O n [some ⟨false,28,3,1,(Ze a0)⟩,some (oR 45 1 (eI .u64) l4),none,none,none]) (Z8 hU rfl rfl ?_) ?_
   ·exact Zv9 pl4 ql4 el4
   refine zR ?_
   exact zEn hs0_
  replace hs0_:=Zm c5 hs0_
  exact zEx hs0_
 try simp only [Y0,Ym,↓reduceIte,Nat.reduceEqDiff]
 refine zD [1,3] [true,true,false] ?_
 refine Zah ⟨30,[],[(1,.ref n 0),(3,(sL (eI .u64) z6))]⟩ (Zt O n [some ⟨false,28,3,1,(Ze a0)⟩,none,none]) (Z8 hU rfl rfl ?_) ?_
 ·exact zSe
 refine Zd ?_
 obtain ⟨y8,hy8,h⟩:=bC h
 refine zCd (Z27 hy8) [6] [false,false,false] ?_
 refine zQ [2] ?_
 refine zW ?_
 have h:=Option.some.inj h;subst h
 refine Zi (.inr rfl) hU [(sL (eI .u64) y8.1)] (by omega) ?_
 simp only [push_cast,seval,↓reduceIte,Zb,Tryz.results91,hN0,hN]
end Go.Proofs.YtpfbdlcnfekdkaaGreat
