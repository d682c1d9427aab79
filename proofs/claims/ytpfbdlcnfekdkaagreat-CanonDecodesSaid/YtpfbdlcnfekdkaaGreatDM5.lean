/- Part DM5 of this seat's mirrors: functions of the seat's program, and the plain functions that they are; each theorem bears its own conditions. -/
import Derived.Test.YtpfbdlcnfekdkaaGreatDE
import Derived.Test.YtpfbdlcnfekdkaaGreatDM4
namespace Go.Proofs.YtpfbdlcnfekdkaaGreat
open Go.RowKit
set_option linter.unusedVariables false
set_option linter.unusedSimpArgs false
set_option maxRecDepth 100000
set_option maxHeartbeats 4000000
attribute [local push_cast] vI vB nV sL oR Yd Ze Zv Yq Zp Zpk Zpj Zp3 Zp2 Y0 Ym Zlm Zgm Zgl onW X6 Zeb Zdw Zrz Zob Zi9 Zjd Zi8 Zjc Zmk Zmf Zjb Zmj Zmi Zmh Zja Zmd Zha evS wok Je Op.operands Call.operands gop onK onP atK List.all_cons List.all_nil Bool.and_true Bool.true_and Bool.and_self Value.oneCell' List.take_zero List.take_succ_cons List.take_nil List.drop_zero List.drop_succ_cons List.drop_nil List.append_nil Nat.add_zero Nat.zero_add Gs Yr ev Jn Zr7 Zpd Zpc Zpi Zpg Zph Zpe Zpf Zpb Zsz Zt1 Zw0 Zjr Zde Zjq Zd3 Ziy Zgo Zet Zey Zgi Zge Zew Zgh Zgg Zgf Zev Zgc Zeu Zex Zdu Zgd Zm7 Zgn Za3 Zik Za4 Zkw Zjp Zv1 bLo bHi bMx Zdf Zkv Zx9 Zjn Zll Zfp Gb Zs0 Zya Zij Zfo Zyc Zdd Z0v Zlr Zlv Zlq Zlu Zpu Zpq Zpo Ziz Zls Zpt Zps Zpr Zlt Zpp Zln Zr8 Zma Zg7 Zg6 pop TK.isAgg Zpx Zp1 Zpw Zp0 Zl3 Zui Zue Zpz Zuh Zug Zuf Zpy Zud G.under G.unders List.getD_cons_zero List.getD_cons_succ List.set_cons_zero List.set_cons_succ List.map_cons List.map_nil List.toList_toArray Array.toList_append Option.toArray_none Option.toArray_some Array.toList_map Option.map_some Option.map_none Option.bind_some Option.bind_none List.getElem?_cons_zero List.getElem?_cons_succ List.getElem?_nil List.nil_append List.cons_append List.replicate_succ List.replicate_zero List.length_cons List.length_nil and_true true_and and_false false_and Bool.true_eq_false Bool.false_eq_true forall_const false_implies implies_true IntKind.bits if_true if_false ite_true ite_false eq_self true_implies false_or or_false or_true true_or not_true_eq_false not_false_eq_true decide_true decide_false decide_eq_true_eq decide_eq_false_iff_not beq_iff_eq bne_iff_ne ne_eq Bool.not_eq_true Bool.not_eq_false beq_eq_false_iff_ne bne_eq_false_iff_eq beq_self_eq_true bne_self_eq_false Option.some.injEq exists_eq_left' exists_eq_left ge_iff_le gt_iff_lt decide_not Bool.not_true Bool.not_false imp_self Zt4 cond_true cond_false Z6w Z6v Bool.not_not Bool.and_false Bool.false_and Bool.or_true Bool.true_or Bool.or_false Bool.false_or Zbe Zfh Zb3 Zap J4 Qh Option.join_some Nat.add_assoc Int.toNat_natCast eI eB eS eL Q8 Zgk Ze1 Zpn Zpl Zpm Z1g Z29 Zg3 Ze7 Zp9 Zp7 Zp8 Zxj Zn2 Zvo Znw Zv0 Zcr Zr5 List.length_append G.agg.injEq G.row.injEq G.ref.injEq G.val.injEq G.sl.injEq G.tup.injEq Value.int.injEq Value.bool.injEq Value.string.injEq List.cons.injEq exists_and_left exists_const List.flatten_cons List.flatten_nil Int.le_refl Nat.le_refl Zcq Qg Vv Bool.not_eq_true' Bool.not_eq_false' Zrl Zh5 Zvf Zvj Zve Zvi Z0h Z0c List.size_toArray Zsl Zr3 G.ren G.rens Zuk Zg8 Zqg Zo9 Zpa Zme Zvk Zgz G.fn.injEq Zkd Zm1 Zrk Z0d Zm0 Zvh Z0g Z0f Z0e Zvg Zt7 Zyz Option.join_none Y5 Zad undef Zlo Arr.len Arr.put_eq Zg2 Zi1 Zg1 Ze6 Zp6 Zp4 Zp5 onB Z1f Zsy Ke Zdv Zk5 Zk6 Zk7 Zk8 Zk9 Zla Zi0 Zi4 Zi2 Zg5 Ze8 Zi3 Zl9 Zl8 Zl7 Zl6 Z28 Z4x Zxi Zv8 Vb Zxa Zse Zi5 Zg4 Zyl Zr4 Zjj Zlk Zek Zj6 Zlb Zlc Zld Zle Zip Ziq Zir Zis Zit Ziu Ziv Zf7 prT Zec Z7r Zu5 Z1v Zu6 Z7s Zu7 Z7t Zu8 Z7u Zu9 Z7v Zva Z7w Zvb Z7x Zvc Zza Zqk Zzb Zql Zzc Zqm Zzd Zqn Zze Zqo Zzf Zqp Zzg Zqq Zzh Zqr Zzi Zqs Zzj Zqt Zzk Zqu Zc9 Zda Zzl Zqv Zzm Zqw Zny Zks Zzn Zqx K0 Zqy Zzo Zqz Zzp Zq0 Zzq Znp Jd Zq1 Zzr Zq2 Zzs Zq3 Zzt Zq4 Zzu Zq5 Zzv Zq6 Zzw Zq7 Zzx Zq8 Zzy Zq9 Zzz Zra Zz0 Zrb Zz1 Zrc Zz2 Zrd Zz3 Zre Zz4 Zrf Zz5 Zrg Zz6 Zrh Zz7 Zri Zz8 Zrj Zup Zml Zuq Zmm Zur Zmn Zus Zmo Zut Zmp Zuu Zmq Zuv Zmr Zuw Zms Zux Zmt Zuy Zmu Zuz Zmv Zu0 Zmw Zu1 Zmx Zu2 Zmy Zu3 Zmz J7 Zhg Zhe Zgq Zgy Zhi Zff Zfc Zfa Zhc Zc0 Zcz Zct Zcw Zc1 Zbz Zbx Zbw Zcy Zq Vo Vn Ve Vk Vp K1 Kz Ky Vl Ze0 Zhf Zhd Zgp Zgx Zhh Zfe Zfb Ze9 Zhb Zez Zbi Z7 J0 Jz Jw Jx J3 Jk Jj Ji Jy Z4 Zf Jf Gl Gk Gd Gf Gm Uu Us Ur Gj Q3 Q2 Qz Q0 Q4 Qk Qj Qi Q1 Zak V0 V1
theorem Zoo {a0:(List (List Int))} {a1:Int} {a2:Int} {r:(Yf×Int)} {O:Objs} {n:Nat} (h:Vi a0 a1 a2=some r):GTo Tryz.prog 32 [(sL (eL (eI .u64)) a0),(vI a1),(vI a2)] O n (.tup [.agg [(vI r.1.P.Kind),(vI r.1.P.Off),(vI r.1.P.Data),(vI r.1.P.Ptrs),(vI r.1.P.Code),(vI r.1.P.Count),(vI r.1.P.Segment),(vB r.1.P.Double),(vI r.1.Segment),(vI r.1.At)],(vI r.2)]) O n:=by
 unfold Vi at h
 refine Yj Zo Tryz.call32 Tryz.func32 rfl (Nat.le_of_ble_eq_true rfl) (Nat.le_refl _) fun hU => ?_
 have hN0:O n=none:=hU.fresh _ (Nat.le_refl _)
 have hN:∀ k,O (n+k)=none:=fun k=>hU.fresh _ (Nat.le_add_right _ _)
 show W _ _ _ _ ⟨147,[],[(0,(sL (eL (eI .u64)) a0)),(1,(vI a1)),(2,(vI a2))]⟩ (Zt O n []) _
 refine zQ [0,1,2,6] ?_
 refine Zd ?_
 refine Zd ?_
 obtain ⟨y2,hy2,h⟩:=bC h
 refine zCd (Zax hy2) [0,1,2,6,17] [true] ?_
 refine Zj (t:=(!y2)) rfl (fun c47 => ?_) (fun c47 => ?_)
 ·replace h:=Zn c47 h
  refine Zd ?_
  refine zRd [6,7] [true] ?_
  refine zW ?_
  have h:=Option.some.inj h;subst h
  refine Zi (.inr rfl) hU [.agg [(vI 0),(vI 0),(vI 0),(vI 0),(vI 0),(vI 0),(vI 0),(vB false),(vI 0),(vI 0)],(vI 7)] (by omega) ?_
  simp only [push_cast,seval,↓reduceIte,Zb,Tryz.results32,hN0,hN]
 replace h:=Zm c47 h
 refine Xs [0,1,2,6] [true] ?_
 refine Zd ?_
 obtain ⟨x6,hx6,ax6,bx6,cx6,h⟩:=bE (f:=(eL (eI .u64))) Zc9 (fun _=>rfl) (by decide) h
 obtain ⟨x7,hx7,ax7,bx7,cx7,h⟩:=bE (f:=(eI .u64)) Jd (fun _=>rfl) (by decide) h
 obtain ⟨y8,hy8,h⟩:=bC h
 refine Yag [] ax6 bx6 cx6 ax7 bx7 cx7 ?_
 refine (Jb hy8).then ?_
 refine zF6 ax6 bx6 cx6 ax7 bx7 cx7 ?_
 refine zDs [0,1,2,6,8] [true,true] ?_
 refine zQ [0,1,2,6,8,29] ?_
 refine Zj (t:=(y8.Kind == 0)) rfl (fun c46 => ?_) (fun c46 => ?_)
 ·replace h:=Zn c46 h
  refine Zd ?_
  refine zRd [6,7] [true,false] ?_
  refine zW ?_
  have h:=Option.some.inj h;subst h
  refine Zi (.inr rfl) hU [.agg [(vI 0),(vI 0),(vI 0),(vI 0),(vI 0),(vI 0),(vI 0),(vB false),(vI 0),(vI 0)],(vI 0)] (by omega) ?_
  simp only [push_cast,seval,↓reduceIte,Zb,Tryz.results32,hN0,hN]
 replace h:=Zm c46 h
 refine Xs [0,1,2,6,8] [true,true] ?_
 refine Zd ?_
 refine zQD [0,1,2,6,8,37] [none,none] ?_
 refine Zj (t:=(cond (y8.Kind == 3) y8.Double false)) rfl (fun c45 => ?_) (fun c45 => ?_)
 ·replace h:=Zn c45 h
  refine Zd ?_
  obtain ⟨z11,hz11,h⟩:=bC h
  refine Y8 (E':=⟨147,[],[(0,(sL (eL (eI .u64)) a0)),(6,.ref n 0),(8,.ref (n+1) 0),(54,(vB z11))]⟩) (O':=(Zt O n [some ⟨false,73,10,1,[(vI 0),(vI 0),(vI 0),(vI 0),(vI 0),(vI 0),(vI 0),(vB false),(vI 0),(vI 0)]⟩,some ⟨false,71,8,1,(Yq y8)⟩])) (n0:=(n+2)) ?_ ?_
  ·obtain ⟨y14,hy14,hz11⟩:=bC hz11
   rcases Bool.eq_false_or_eq_true y14 with c16 | c16
   ·replace hz11:=Zn c16 hz11
    obtain ⟨y15,hy15,hz11⟩:=bC hz11
    refine Vc [some true,some true,some true,some true,some true,some true,some true,some true] c16 ?_
    refine (Zax hy14).then ?_
    refine zX1 c16 ?_
    refine (Zax hy15).then ?_
    refine zX1 c16 ?_
    exact Ki hz11 c16
   replace hz11:=Zm c16 hz11
   refine Vc [some false,some false,some false,some false,some false,some false,some false,some false] c16 ?_
   refine (Zax hy14).then ?_
   refine zX1 c16 ?_
   exact Ki hz11 c16
  refine Zj (t:=z11) rfl (fun c31 => ?_) (fun c31 => ?_)
  ·replace h:=Zn c31 h
   refine Zd ?_
   refine zRd [6,7] [true,false] ?_
   refine zW ?_
   have h:=Option.some.inj h;subst h
   refine Zi (.inr rfl) hU [.agg [(vI 0),(vI 0),(vI 0),(vI 0),(vI 0),(vI 0),(vI 0),(vB false),(vI 0),(vI 0)],(vI 7)] (by omega) ?_
   simp only [push_cast,seval,↓reduceIte,Zb,Tryz.results32,hN0,hN]
  replace h:=Zm c31 h
  refine Xs [0,6,8] [true,true] ?_
  obtain ⟨x17,hx17,ax17,bx17,cx17,h⟩:=bE (f:=(eL (eI .u64))) Zc9 (fun _=>rfl) (by decide) h
  obtain ⟨x18,hx18,ax18,bx18,cx18,h⟩:=bE (f:=(eI .u64)) Jd (fun _=>rfl) (by decide) h
  obtain ⟨y19,hy19,h⟩:=bC h
  obtain ⟨x21,hx21,ax21,bx21,cx21,h⟩:=bE (f:=(eI .u64)) Jd (fun _=>rfl) (by decide) h
  obtain ⟨y22,hy22,h⟩:=bC h
  refine Y8 (E':=⟨147,[],[(0,(sL (eL (eI .u64)) a0)),(6,.ref n 0),(9,.ref (n+2) 0),(10,.ref (n+3) 0)]⟩) (O':=(Zt O n [some ⟨false,73,10,1,[(vI 0),(vI 0),(vI 0),(vI 0),(vI 0),(vI 0),(vI 0),(vB false),(vI 0),(vI 0)]⟩,none,some ⟨false,71,8,1,(Yq y19)⟩,some ⟨false,71,8,1,(Yq y22)⟩])) (n0:=(n+4)) ?_ ?_
  ·refine Z5i Zo (by kernel_rfl) [.low,.low,.low,.low,.low,.low,.low,.low,.low,.low,.low,.low,.low,.low,.low,.low,.low,.low,.low,.low,.low,.pass,.pass,.pass,.pass] (fun i=>i < (n+2)) 21 22 [0,1,2,3,4,5,6,7,8,9,10,11,12,13,14,15,16,17,18,19,20] [23,24] [.low,.low,.low,.low,.low,.low,.low,.low,.low,.low,.low,.low,.low,.low,.low,.low,.low,.low,.low,.low,.low] [.pass,.pass,.pass,.pass] [.pass,.pass,.pass,.pass] [] (by kernel_rfl) rfl rfl rfl ?_
   refine zF9 ax17 bx17 cx17 ax18 bx18 cx18 ax21 bx21 cx21 ?_
   repeat (with_reducible refine And.intro (by omega) ?_)
   first | refine PCallA.of (fun _ _=>Jb hy19) ?_ | refine PCall.of (Jb hy19) ?_
   refine zF9 ax17 bx17 cx17 ax18 bx18 cx18 ax21 bx21 cx21 ?_
   repeat (with_reducible refine And.intro (by omega) ?_)
   first | refine PCallA.of (fun _ _=>Jb hy22) ?_ | refine PCall.of (Jb hy22) ?_
   refine zF9 ax17 bx17 cx17 ax18 bx18 cx18 ax21 bx21 cx21 ?_
   repeat (with_reducible refine And.intro (by omega) ?_)
   refine And.intro ?_ ?_
   ·refine zF9 ax17 bx17 cx17 ax18 bx18 cx18 ax21 bx21 cx21 ?_
    repeat (with_reducible refine And.intro (by first | exact Ju rfl | exact Qp) ?_)
    refine And.intro rfl (Fit2.of (Z8 hU rfl rfl ?_) (by omega))
    exact Ydu ax17 bx17 cx17 ax18 bx18 cx18 ax21 bx21 cx21
   refine zF9 ax17 bx17 cx17 ax18 bx18 cx18 ax21 bx21 cx21 ?_
   repeat (with_reducible refine And.intro (by first | exact Ju rfl | exact Qp) ?_)
   refine And.intro rfl ?_
   refine Fit2.trans (E':=(⟨147,[],[(0,(sL (eL (eI .u64)) a0)),(6,.ref n 0),(9,.ref (n+3) 0),(10,.ref (n+2) 0)]⟩:Env)) (O':=(Zt O n [some ⟨false,73,10,1,[(vI 0),(vI 0),(vI 0),(vI 0),(vI 0),(vI 0),(vI 0),(vB false),(vI 0),(vI 0)]⟩,none,some ⟨false,71,8,1,(Yq y22)⟩,some ⟨false,71,8,1,(Yq y19)⟩])) (n':=(n+4)) (Fit2.of (Z8 hU rfl rfl ?_) (by omega)) ?_
   ·exact Ydu ax17 bx17 cx17 ax18 bx18 cx18 ax21 bx21 cx21
   refine Jt (k:=4) (k':=4) hU [0,1,3,2] [0,1,3,2] rfl rfl rfl rfl ⟨rfl,rfl⟩ ?_
   exact zSe
  refine Zd ?_
  refine zQD [0,6,9,10,83] [none,none] ?_
  refine Zj (t:=(cond (y19.Kind != 3) true y19.Double)) rfl (fun c30 => ?_) (fun c30 => ?_)
  ·replace h:=Zn c30 h
   refine Zd ?_
   refine zRd [6,7] [true,false,false,false] ?_
   refine zW ?_
   have h:=Option.some.inj h;subst h
   refine Zi (.inr rfl) hU [.agg [(vI 0),(vI 0),(vI 0),(vI 0),(vI 0),(vI 0),(vI 0),(vB false),(vI 0),(vI 0)],(vI 8)] (by omega) ?_
   simp only [push_cast,seval,↓reduceIte,Zb,Tryz.results32,hN0,hN]
  replace h:=Zm c30 h
  refine Xs [0,6,9,10] [true,false,true,true] ?_
  refine Zd ?_
  obtain ⟨y24,hy24,h⟩:=bC h
  refine zCd (Zie hy24) [0,6,9,10,11] [true,false,true,true] ?_
  obtain ⟨z25,hz25,h⟩:=bC h
  refine Y8 (E':=⟨147,[],[(0,(sL (eL (eI .u64)) a0)),(6,.ref n 0),(9,.ref (n+2) 0),(10,.ref (n+3) 0),(11,(vI z25))]⟩) (O':=(Zt O n [some ⟨false,73,10,1,[(vI 0),(vI 0),(vI 0),(vI 0),(vI 0),(vI 0),(vI 0),(vB false),(vI 0),(vI 0)]⟩,none,some ⟨false,71,8,1,(Yq y19)⟩,some ⟨false,71,8,1,(Yq y22)⟩])) (n0:=(n+4)) ?_ ?_
  ·refine zQD [0,6,9,10,11,93] [none,none,none] ?_
   refine Zj (t:=(cond (y24 == 0) (y22.Off != 0) false)) rfl (fun c26 => ?_) (fun c26 => ?_)
   ·replace hz25:=Zn c26 hz25
    refine zR ?_
    exact zEn hz25
   replace hz25:=Zm c26 hz25
   refine zK ?_
   exact zEn hz25
  refine Zd ?_
  refine zQ [0,6,9,10,11,95] ?_
  refine Zj (t:=(z25 != 0)) rfl (fun c29 => ?_) (fun c29 => ?_)
  ·replace h:=Zn c29 h
   refine Zd ?_
   refine zRd [6,7] [true,false,false,false] ?_
   refine zW ?_
   have h:=Option.some.inj h;subst h
   refine Zi (.inr rfl) hU [.agg [(vI 0),(vI 0),(vI 0),(vI 0),(vI 0),(vI 0),(vI 0),(vB false),(vI 0),(vI 0)],(vI z25)] (by omega) ?_
   simp only [push_cast,seval,↓reduceIte,Zb,Tryz.results32,hN0,hN]
  replace h:=Zm c29 h
  refine Xs [0,6,9,10] [true,false,true,true] ?_
  refine Zd ?_
  obtain ⟨y28,hy28,h⟩:=bC h
  refine zCd (Zif hy28) [6,7] [true,false,false,false] ?_
  refine zW ?_
  have h:=Option.some.inj h;subst h
  refine Zi (.inr rfl) hU [.agg [(vI y28.1.P.Kind),(vI y28.1.P.Off),(vI y28.1.P.Data),(vI y28.1.P.Ptrs),(vI y28.1.P.Code),(vI y28.1.P.Count),(vI y28.1.P.Segment),(vB y28.1.P.Double),(vI y28.1.Segment),(vI y28.1.At)],(vI y28.2)] (by omega) ?_
  simp only [push_cast,seval,↓reduceIte,Zb,Tryz.results32,hN0,hN]
 replace h:=Zm c45 h
 refine Xs [0,1,2,6,8] [true,true] ?_
 obtain ⟨z32,hz32,h⟩:=bC h
 refine Z5j (J:=(Kf (fun z32=>JN n (⟨147,[],[(0,(sL (eL (eI .u64)) a0)),(1,(vI z32.1)),(2,(vI z32.2.1)),(6,.ref n 0),(8,.ref (n+1) 0)]⟩:Env) (Zt O n [some ⟨false,73,10,1,[(vI 0),(vI 0),(vI 0),(vI 0),(vI 0),(vI 0),(vI 0),(vB false),(vI 0),(vI 0)]⟩,some ⟨false,71,8,1,[(vI z32.2.2.1),(vI z32.2.2.2.1),(vI z32.2.2.2.2.1),(vI z32.2.2.2.2.2.1),(vI z32.2.2.2.2.2.2.1),(vI z32.2.2.2.2.2.2.2.1),(vI z32.2.2.2.2.2.2.2.2.1),(vB z32.2.2.2.2.2.2.2.2.2)]⟩]) (n+2)) (fun z32=>JR n (⟨147,[],[(6,.ref n 0),(7,(vI 7))]⟩:Env) (Zt O n [some ⟨false,73,10,1,[(vI 0),(vI 0),(vI 0),(vI 0),(vI 0),(vI 0),(vI 0),(vB false),(vI 0),(vI 0)]⟩,none]) (n+2)))) (z:=z32) ?_ fun hw => ?_
 ·refine zQ [0,1,2,6,8,110] ?_
  refine Zj (t:=(y8.Kind == 3)) rfl (fun c39 => ?_) (fun c39 => ?_)
  ·replace hz32:=Zn c39 hz32
   refine zQ [0,1,6,8] ?_
   refine zQ [0,1,2,6,8] ?_
   refine Zd ?_
   refine Zd ?_
   obtain ⟨y34,hy34,hz32⟩:=bC hz32
   refine zCd (Zax hy34) [0,1,2,6,8,119] [true,true] ?_
   refine Zj (t:=(!y34)) rfl (fun c38 => ?_) (fun c38 => ?_)
   ·replace hz32:=Zn c38 hz32
    refine Zd ?_
    refine zRd [6,7] [true,false] ?_
    refine zW ?_
    exact zEn hz32
   replace hz32:=Zm c38 hz32
   refine Xs [0,1,2,6,8] [true,true] ?_
   obtain ⟨x35,hx35,ax35,bx35,cx35,hz32⟩:=bE (f:=(eL (eI .u64))) Zc9 (fun _=>rfl) (by decide) hz32
   obtain ⟨x36,hx36,ax36,bx36,cx36,hz32⟩:=bE (f:=(eI .u64)) Jd (fun _=>rfl) (by decide) hz32
   obtain ⟨y37,hy37,hz32⟩:=bC hz32
   refine Yag [] ax35 bx35 cx35 ax36 bx36 cx36 ?_
   refine (Jb hy37).then ?_
   refine zF6 ax35 bx35 cx35 ax36 bx36 cx36 ?_
   exact Yb0 hz32 ax35 bx35 cx35 ax36 bx36 cx36
  replace hz32:=Zm c39 hz32
  refine zK ?_
  exact zEn hz32
 rcases z32 with z32 | z32
 ·dsimp only [Kf] at hw h
  refine Y8 hw ?_
  refine Zd ?_
  obtain ⟨y41,hy41,h⟩:=bC h
  refine zCd (Zie hy41) [0,1,2,6,8,12] [true,true] ?_
  refine Zd ?_
  refine zQ [0,1,2,6,8,12,132] ?_
  refine Zj (t:=(y41 != 0)) rfl (fun c44 => ?_) (fun c44 => ?_)
  ·replace h:=Zn c44 h
   refine Zd ?_
   refine zRd [6,7] [true,false] ?_
   refine zW ?_
   have h:=Option.some.inj h;subst h
   refine Zi (.inr rfl) hU [.agg [(vI 0),(vI 0),(vI 0),(vI 0),(vI 0),(vI 0),(vI 0),(vB false),(vI 0),(vI 0)],(vI y41)] (by omega) ?_
   simp only [push_cast,seval,↓reduceIte,Zb,Tryz.results32,hN0,hN]
  replace h:=Zm c44 h
  refine Xs [0,1,2,6,8] [true,true] ?_
  refine Zd ?_
  obtain ⟨y43,hy43,h⟩:=bC h
  refine zCd (Zif hy43) [6,7] [true,false] ?_
  refine zW ?_
  have h:=Option.some.inj h;subst h
  refine Zi (.inr rfl) hU [.agg [(vI y43.1.P.Kind),(vI y43.1.P.Off),(vI y43.1.P.Data),(vI y43.1.P.Ptrs),(vI y43.1.P.Code),(vI y43.1.P.Count),(vI y43.1.P.Segment),(vB y43.1.P.Double),(vI y43.1.Segment),(vI y43.1.At)],(vI y43.2)] (by omega) ?_
  simp only [push_cast,seval,↓reduceIte,Zb,Tryz.results32,hN0,hN]
 dsimp only [Kf] at hw h
 refine Z0i hw ?_
 try simp only [Y0,Ym]
 have h:=Option.some.inj h;subst h
 refine Zi (.inr rfl) hU [.agg [(vI 0),(vI 0),(vI 0),(vI 0),(vI 0),(vI 0),(vI 0),(vB false),(vI 0),(vI 0)],(vI 7)] (by omega) ?_
 simp only [push_cast,seval,↓reduceIte,Zb,Tryz.results32,hN0,hN]
theorem Zgv {a0:(List (List Int))} {a1:Int} {a2:Int} {r:(Zr×Int)} {O:Objs} {n:Nat} (h:Ux a0 a1 a2=some r):GTo Tryz.prog 17 [(sL (eL (eI .u64)) a0),(vI a1),(vI a2)] O n (.tup [.agg (Zv r.1),(vI r.2)]) O n:=by
 unfold Ux at h
 refine Yj Zo Tryz.call17 Tryz.func17 rfl (Nat.le_of_ble_eq_true rfl) (Nat.le_refl _) fun hU => ?_
 have hN0:O n=none:=hU.fresh _ (Nat.le_refl _)
 have hN:∀ k,O (n+k)=none:=fun k=>hU.fresh _ (Nat.le_add_right _ _)
 show W _ _ _ _ ⟨110,[],[(0,(sL (eL (eI .u64)) a0)),(1,(vI a1)),(2,(vI a2))]⟩ (Zt O n []) _
 refine zQ [0,1,2,6] ?_
 refine Zd ?_
 obtain ⟨y2,hy2,h⟩:=bC h
 refine zCd (Zoo hy2) [0,6,8,9] [true,true] ?_
 refine Zd ?_
 refine zQD [0,6,8,9,26] [none,none,none,none] ?_
 refine Zj (t:=(cond (y2.2 != 0) true (y2.1.P.Kind == 0))) rfl (fun c12 => ?_) (fun c12 => ?_)
 ·replace h:=Zn c12 h
  refine Zd ?_
  refine zRd [6,7] [true,false] ?_
  refine zW ?_
  have h:=Option.some.inj h;subst h
  refine Zi (.inr rfl) hU [.agg [(vI 0),(vI 0),(vI 0),(vI 0),(vI 0),(vI 0),.val (.int .u64 0)],(vI y2.2)] (by omega) ?_
  simp only [push_cast,seval,↓reduceIte,Zb,Tryz.results17,hN0,hN]
 replace h:=Zm c12 h
 refine Xs [0,6,8] [true,true] ?_
 refine Zd ?_
 refine zQ [0,6,8,32] ?_
 refine Zj (t:=(y2.1.P.Kind == 1)) rfl (fun c11 => ?_) (fun c11 => ?_)
 ·replace h:=Zn c11 h
  refine Zd ?_
  refine zRd [6,7] [true,false] ?_
  refine zW ?_
  have h:=Option.some.inj h;subst h
  refine Zi (.inr rfl) hU [.agg [(vI 1),(vI y2.1.Segment),(vI y2.1.At),(vI y2.1.P.Data),(vI y2.1.P.Ptrs),(vI 0),.val (.int .u64 0)],(vI 0)] (by omega) ?_
  simp only [push_cast,seval,↓reduceIte,Zb,Tryz.results17,hN0,hN]
 replace h:=Zm c11 h
 refine Xs [0,6,8] [true,true] ?_
 refine Zd ?_
 refine zQ [0,6,8,47] ?_
 refine Zj (t:=(decide (y2.1.P.Code < 7))) rfl (fun c10 => ?_) (fun c10 => ?_)
 ·replace h:=Zn c10 h
  refine Zd ?_
  refine zRd [6,7] [true,false] ?_
  refine zW ?_
  have h:=Option.some.inj h;subst h
  refine Zi (.inr rfl) hU [.agg [(vI (IntKind.i64.wrap (2+y2.1.P.Code))),(vI y2.1.Segment),(vI y2.1.At),(vI 0),(vI 0),(vI y2.1.P.Count),.val (.int .u64 0)],(vI 0)] (by omega) ?_
  simp only [push_cast,seval,↓reduceIte,Zb,Tryz.results17,hN0,hN]
 replace h:=Zm c10 h
 refine Xs [0,6,8] [true,true] ?_
 obtain ⟨x5,hx5,ax5,bx5,cx5,h⟩:=bE (f:=(eL (eI .u64))) Zc9 (fun _=>rfl) (by decide) h
 obtain ⟨x6,hx6,ax6,bx6,cx6,h⟩:=bE (f:=(eI .u64)) Jd (fun _=>rfl) (by decide) h
 refine Zb4 [6,8,10] (X1 Zo (by kernel_rfl) [] (by kernel_rfl) ?_)
 refine zF6 ax5 bx5 cx5 ax6 bx6 cx6 ?_
 refine Zd ?_
 obtain ⟨y8,hy8,h⟩:=bC h
 refine zCd (Jb hy8) [6,8,10,11] [true,true,true] ?_
 refine Zd ?_
 refine zQD [6,8,11,96] [none,none,none,none,none,none,none,none,none,none,none,none,none,none,none,none,none,none] ?_
 refine Zj (t:=(cond (cond (cond (x6 != 0) (y8.Kind != 1) false) true (decide (y8.Off < 0))) true (decide (y2.1.P.Count < (IntKind.i64.wrap (y8.Off * (IntKind.i64.wrap (y8.Data+y8.Ptrs)))))))) rfl (fun c9 => ?_) (fun c9 => ?_)
 ·replace h:=Zn c9 h
  refine Zd ?_
  refine zRd [6,7] [true,false,false] ?_
  refine zW ?_
  have h:=Option.some.inj h;subst h
  refine Zi (.inr rfl) hU [.agg [(vI 0),(vI 0),(vI 0),(vI 0),(vI 0),(vI 0),.val (.int .u64 0)],(vI 8)] (by omega) ?_
  simp only [push_cast,seval,↓reduceIte,Zb,Tryz.results17,hN0,hN]
 replace h:=Zm c9 h
 refine Xs [6,8,11] [true,true,true] ?_
 refine Zd ?_
 refine zRd [6,7] [true,false,false] ?_
 refine zW ?_
 have h:=Option.some.inj h;subst h
 refine Zi (.inr rfl) hU [.agg [(vI 9),(vI y2.1.Segment),(vI (IntKind.i64.wrap (y2.1.At+1))),(vI y8.Data),(vI y8.Ptrs),(vI y8.Off),.val (.int .u64 0)],(vI 0)] (by omega) ?_
 simp only [push_cast,seval,↓reduceIte,Zb,Tryz.results17,hN0,hN]
theorem Kx {a0:Zr} {a1:(List (List Int))} {r:(List Int)} {O:Objs} {n:Nat} (h:Qc a0 a1=some r):GTo Tryz.prog 34 [.agg (Zv a0),(sL (eL (eI .u64)) a1)] O n ((sL (eI .u64) r)) O n:=by
 unfold Qc at h
 refine Yj Zo Tryz.call34 Tryz.func34 rfl (Nat.le_of_ble_eq_true rfl) (Nat.le_refl _) fun hU => ?_
 have hN0:O n=none:=hU.fresh _ (Nat.le_refl _)
 have hN:∀ k,O (n+k)=none:=fun k=>hU.fresh _ (Nat.le_add_right _ _)
 show W _ _ _ _ ⟨30,[],[(0,.agg (Zv a0)),(1,(sL (eL (eI .u64)) a1))]⟩ (Zt O n []) _
 refine zQ [1,2] ?_
 refine Zd ?_
 refine zQ [1,2,8] ?_
 refine Zj (t:=(a0.Kind == 10)) rfl (fun c8 => ?_) (fun c8 => ?_)
 ·replace h:=Zn c8 h
  refine Zd ?_
  refine zR ?_
  refine Zah ⟨30,[],[(4,.row (n+1) ([a0.N]:List Int).length)]⟩ (Zt O n [none,some (oR 45 1 (eI .u64) ([a0.N]:List Int))]) (Z8 hU rfl rfl ?_) ?_
  ·exact zSe
  refine zW ?_
  have h:=Option.some.inj h;subst h
  refine Zi (.inr rfl) hU [.row (n+1) ([a0.N]:List Int).length] (by omega) ?_
  simp only [push_cast,seval,↓reduceIte,Zb,Tryz.results34,hN0,hN]
 replace h:=Zm c8 h
 refine Xs [1,2] [true] ?_
 refine Zd ?_
 refine zQ [1,2,14] ?_
 refine Zj (t:=(a0.Kind != 1)) rfl (fun c7 => ?_) (fun c7 => ?_)
 ·replace h:=Zn c7 h
  refine zQ [4] ?_
  refine zW ?_
  have h:=Option.some.inj h;subst h
  refine Zi (.inr rfl) hU [nV] (by omega) ?_
  simp only [push_cast,seval,↓reduceIte,Zb,Tryz.results34,hN0,hN]
 replace h:=Zm c7 h
 refine Xs [1,2] [true] ?_
 refine zQ [1,2,5] ?_
 refine Zd ?_
 obtain ⟨x4,hx4,ax4,bx4,cx4,h⟩:=bE (f:=(eL (eI .u64))) Zc9 (fun _=>rfl) (by decide) h
 obtain ⟨l5,al5,bl5,cl5,gl5,h⟩:=bS (lo:=(some (.i64,a0.At))) (hi:=(some (.i64,(IntKind.i64.wrap (a0.At+a0.Data))))) (f:=(eI .u64)) rfl rfl Zda Jd (fun _=>rfl) h
 obtain ⟨l6,pl6,ql6,el6,h⟩:=bA0 (k:=l5.length) rfl h
 refine Zc4 Zo (by kernel_rfl) [false,false,false,false,false,false,false,false,false,false,false,false,false,false,true,false] [] (by kernel_rfl) ?_
 refine Yfb ax4 bx4 cx4 al5 bl5 cl5 gl5 pl6 ql6 el6 ?_
 refine Zah ⟨30,[],[(4,.row (n+1) l6.length)]⟩ (Zt O n [none,some (oR 45 1 (eI .u64) l6)]) (Z8 hU rfl rfl ?_) ?_
 ·exact Yb1 ax4 bx4 cx4 al5 bl5 cl5 gl5 pl6 ql6 el6
 refine zW ?_
 have h:=Option.some.inj h;subst h
 refine Zi (.inr rfl) hU [.row (n+1) l6.length] (by omega) ?_
 simp only [push_cast,seval,↓reduceIte,Zb,Tryz.results34,hN0,hN]
theorem Zca {a0:Zr} {r:Int} {O:Objs} {n:Nat} (h:Qq a0=some r):GTo Tryz.prog 35 [.agg (Zv a0)] O n ((vI r)) O n:=by
 unfold Qq at h
 refine Yj Zo Tryz.call35 Tryz.func35 rfl (Nat.le_of_ble_eq_true rfl) (Nat.le_refl _) fun hU => ?_
 have hN0:O n=none:=hU.fresh _ (Nat.le_refl _)
 have hN:∀ k,O (n+k)=none:=fun k=>hU.fresh _ (Nat.le_add_right _ _)
 show W _ _ _ _ ⟨10,[],[(0,.agg (Zv a0))]⟩ (Zt O n []) _
 refine zQ [1] ?_
 refine Zd ?_
 refine zQ [1,5] ?_
 refine Zj (t:=(a0.Kind == 1)) rfl (fun c1 => ?_) (fun c1 => ?_)
 ·replace h:=Zn c1 h
  refine zQ [2] ?_
  refine zW ?_
  have h:=Option.some.inj h;subst h
  refine Zi (.inr rfl) hU [(vI a0.Ptrs)] (by omega) ?_
  simp only [push_cast,seval,↓reduceIte,Zb,Tryz.results35,hN0,hN]
 replace h:=Zm c1 h
 refine Xs [1] [true] ?_
 refine zQ [2] ?_
 refine zW ?_
 have h:=Option.some.inj h;subst h
 refine Zi (.inr rfl) hU [(vI a0.Count)] (by omega) ?_
 simp only [push_cast,seval,↓reduceIte,Zb,Tryz.results35,hN0,hN]
theorem U8 {a0:Int} {r:Int} {O:Objs} {n:Nat} (h:Xl a0=some r):GTo Tryz.prog 63 [(vI a0)] O n ((vI r)) O n:=by
 unfold Xl at h
 refine Yj Zo Tryz.call63 Tryz.func63 rfl (Nat.le_of_ble_eq_true rfl) (Nat.le_refl _) fun hU => ?_
 have hN0:O n=none:=hU.fresh _ (Nat.le_refl _)
 have hN:∀ k,O (n+k)=none:=fun k=>hU.fresh _ (Nat.le_add_right _ _)
 show W _ _ _ _ ⟨16,[],[(0,(vI a0))]⟩ (Zt O n []) _
 refine zQ [0] ?_
 refine Zd ?_
 refine zQ [3] ?_
 refine Yh ?_
 refine zQ [3,4] ?_
 refine Zj (t:=(a0 == 0)) rfl (fun c6 => ?_) (fun c6 => ?_)
 ·replace h:=Zn c6 h
  refine zQ [2] ?_
  refine zW ?_
  have h:=Option.some.inj h;subst h
  refine Zi (.inr rfl) hU [(vI 0)] (by omega) ?_
  simp only [push_cast,seval,↓reduceIte,Zb,Tryz.results63,hN0,hN]
 replace h:=Zm c6 h
 refine zQ [3,6] ?_
 refine Zj (t:=(a0 == 1)) rfl (fun c5 => ?_) (fun c5 => ?_)
 ·replace h:=Zn c5 h
  refine zQ [2] ?_
  refine zW ?_
  have h:=Option.some.inj h;subst h
  refine Zi (.inr rfl) hU [(vI 1)] (by omega) ?_
  simp only [push_cast,seval,↓reduceIte,Zb,Tryz.results63,hN0,hN]
 replace h:=Zm c5 h
 refine zQ [3,8] ?_
 refine Zj (t:=(a0 == 2)) rfl (fun c4 => ?_) (fun c4 => ?_)
 ·replace h:=Zn c4 h
  refine zQ [2] ?_
  refine zW ?_
  have h:=Option.some.inj h;subst h
  refine Zi (.inr rfl) hU [(vI 8)] (by omega) ?_
  simp only [push_cast,seval,↓reduceIte,Zb,Tryz.results63,hN0,hN]
 replace h:=Zm c4 h
 refine zQ [3,10] ?_
 refine Zj (t:=(a0 == 3)) rfl (fun c3 => ?_) (fun c3 => ?_)
 ·replace h:=Zn c3 h
  refine zQ [2] ?_
  refine zW ?_
  have h:=Option.some.inj h;subst h
  refine Zi (.inr rfl) hU [(vI 16)] (by omega) ?_
  simp only [push_cast,seval,↓reduceIte,Zb,Tryz.results63,hN0,hN]
 replace h:=Zm c3 h
 refine zQ [3,12] ?_
 refine Zj (t:=(a0 == 4)) rfl (fun c2 => ?_) (fun c2 => ?_)
 ·replace h:=Zn c2 h
  refine zQ [2] ?_
  refine zW ?_
  have h:=Option.some.inj h;subst h
  refine Zi (.inr rfl) hU [(vI 32)] (by omega) ?_
  simp only [push_cast,seval,↓reduceIte,Zb,Tryz.results63,hN0,hN]
 replace h:=Zm c2 h
 refine zQ [14] ?_
 refine Zj (t:=(a0 == 5)) rfl (fun c1 => ?_) (fun c1 => ?_)
 ·replace h:=Zn c1 h
  refine zQ [2] ?_
  refine zW ?_
  have h:=Option.some.inj h;subst h
  refine Zi (.inr rfl) hU [(vI 64)] (by omega) ?_
  simp only [push_cast,seval,↓reduceIte,Zb,Tryz.results63,hN0,hN]
 replace h:=Zm c1 h
 refine Xs [] [] ?_
 refine zQ [2] ?_
 refine zW ?_
 have h:=Option.some.inj h;subst h
 refine Zi (.inr rfl) hU [(vI (-1))] (by omega) ?_
 simp only [push_cast,seval,↓reduceIte,Zb,Tryz.results63,hN0,hN]
theorem Zs9 {a0:(List Int)} {a1:Int} {r:Int} {O:Objs} {n:Nat} (h:Zbm a0 a1=some r):GTo Tryz.prog 93 [(sL (eI .u64) a0),(vI a1)] O n (.val (.int .u64 r)) O n:=by
 unfold Zbm at h
 refine Yj Zo Tryz.call93 Tryz.func93 rfl (Nat.le_of_ble_eq_true rfl) (Nat.le_refl _) fun hU => ?_
 have hN0:O n=none:=hU.fresh _ (Nat.le_refl _)
 have hN:∀ k,O (n+k)=none:=fun k=>hU.fresh _ (Nat.le_add_right _ _)
 show W _ _ _ _ ⟨31,[],[(0,(sL (eI .u64) a0)),(1,(vI a1))]⟩ (Zt O n []) _
 refine zQ [0,1] ?_
 refine Zd ?_
 refine zQD [0,1,15] [none,none,none,none,none] ?_
 refine Zj (t:=(cond (decide (a1 < 0)) true (decide ((a0.length:Int)≤(IntKind.i64.wrap (Int.tdiv a1 64)))))) rfl (fun c5 => ?_) (fun c5 => ?_)
 ·replace h:=Zn c5 h
  refine zQ [4] ?_
  refine zW ?_
  have h:=Option.some.inj h;subst h
  refine Zi (.inr rfl) hU [.val (.int .u64 0)] (by omega) ?_
  simp only [push_cast,seval,↓reduceIte,Zb,Tryz.results93,hN0,hN]
 replace h:=Zm c5 h
 refine Xs [0,1] [] ?_
 obtain ⟨x2,hx2,ax2,bx2,cx2,h⟩:=bE (f:=(eI .u64)) Jd (fun _=>rfl) (by decide) h
 refine Zb4 [1,5] (Z5 Zo [] ?_)
 refine zF3 ax2 bx2 cx2 ?_
 refine Zd ?_
 refine zQd [1,5,6] [1,5,6] [] ?_
 obtain ⟨z4,hz4,h⟩:=bC h
 refine Yv (E':=⟨31,[],[(5,.val (.int .u64 z4))]⟩) (O':=(Zt O n [])) (n0:=n) ?_ ?_
 ·refine Y2 hz4 (fun s0_=>⟨31,[],[(1,(vI a1)),(5,.val (.int .u64 s0_.1)),(6,(vI s0_.2))]⟩) (fun s0_=>(Zt O n [])) (fun z4=>JX 0 n (⟨31,[],[(5,.val (.int .u64 z4))]⟩:Env) (Zt O n []) n) ?_
  intro s0_ x0_ hs0_
  unfold Vg at hs0_
  try dsimp only
  refine Zd ?_
  refine zQ [1,5,6,24] ?_
  refine Zj (t:=(decide (s0_.2 < (Int.tmod a1 64)))) rfl (fun c3 => ?_) (fun c3 => ?_)
  ·replace hs0_:=Zn c3 hs0_
   refine Xs [1,5,6] [] ?_
   refine Zd ?_
   refine Yh ?_
   refine zRd [1,5,6] [] ?_
   refine zR ?_
   exact zEn hs0_
  replace hs0_:=Zm c3 hs0_
  exact zEx hs0_
 try simp only [Y0,Ym,↓reduceIte,Nat.reduceEqDiff]
 refine zD [5] [] ?_
 refine zQ [4] ?_
 refine zW ?_
 have h:=Option.some.inj h;subst h
 refine Zi (.inr rfl) hU [.val (.int .u64 (Int.tmod z4 2))] (by omega) ?_
 simp only [push_cast,seval,↓reduceIte,Zb,Tryz.results93,hN0,hN]
theorem Zta {a0:(List Int)} {a1:Int} {a2:Int} {r:Int} {O:Objs} {n:Nat} (h:Zbn a0 a1 a2=some r):GTo Tryz.prog 62 [(sL (eI .u64) a0),(vI a1),(vI a2)] O n (.val (.int .u64 r)) O n:=by
 unfold Zbn at h
 refine Yj Zo Tryz.call62 Tryz.func62 rfl (Nat.le_of_ble_eq_true rfl) (Nat.le_refl _) fun hU => ?_
 have hN0:O n=none:=hU.fresh _ (Nat.le_refl _)
 have hN:∀ k,O (n+k)=none:=fun k=>hU.fresh _ (Nat.le_add_right _ _)
 show W _ _ _ _ ⟨39,[],[(0,(sL (eI .u64) a0)),(1,(vI a1)),(2,(vI a2))]⟩ (Zt O n []) _
 refine zQ [0,1,2] ?_
 refine Zd ?_
 obtain ⟨y2,hy2,h⟩:=bC h
 refine zCd (U8 hy2) [0,2,7] [] ?_
 refine Zd ?_
 refine zQD [0,2,7,21] [none,none,none,none] ?_
 refine Zj (t:=(cond (cond (decide (y2 < 1)) true (decide (a2 < 0))) true (decide (1099511627776 < a2)))) rfl (fun c6 => ?_) (fun c6 => ?_)
 ·replace h:=Zn c6 h
  refine zQ [6] ?_
  refine zW ?_
  have h:=Option.some.inj h;subst h
  refine Zi (.inr rfl) hU [.val (.int .u64 0)] (by omega) ?_
  simp only [push_cast,seval,↓reduceIte,Zb,Tryz.results62,hN0,hN]
 replace h:=Zm c6 h
 refine Xs [0,2,7] [] ?_
 refine zQ [0,2,7,8] ?_
 refine Zd ?_
 refine zQd [0,2,7,8,9] [0,2,7,8,9] [] ?_
 obtain ⟨z5,hz5,h⟩:=bC h
 refine Yv (E':=⟨39,[],[(8,.val (.int .u64 z5))]⟩) (O':=(Zt O n [])) (n0:=n) ?_ ?_
 ·refine Y2 hz5 (fun s0_=>⟨39,[],[(0,(sL (eI .u64) a0)),(2,(vI a2)),(7,(vI y2)),(8,.val (.int .u64 s0_.1)),(9,(vI s0_.2))]⟩) (fun s0_=>(Zt O n [])) (fun z5=>JX 0 n (⟨39,[],[(8,.val (.int .u64 z5))]⟩:Env) (Zt O n []) n) ?_
  intro s0_ x0_ hs0_
  unfold Vh at hs0_
  try dsimp only
  refine Zd ?_
  refine zQ [0,2,7,8,9,25] ?_
  refine Zj (t:=(decide (0≤s0_.2))) rfl (fun c4 => ?_) (fun c4 => ?_)
  ·replace hs0_:=Zn c4 hs0_
   refine Xs [0,2,7,8,9] [] ?_
   refine Zd ?_
   refine Yh ?_
   obtain ⟨y3,hy3,hs0_⟩:=bC hs0_
   refine zCd (Zs9 hy3) [0,2,7,8,9] [] ?_
   refine zR ?_
   exact zEn hs0_
  replace hs0_:=Zm c4 hs0_
  exact zEx hs0_
 try simp only [Y0,Ym,↓reduceIte,Nat.reduceEqDiff]
 refine zD [8] [] ?_
 refine zQ [6] ?_
 refine zW ?_
 have h:=Option.some.inj h;subst h
 refine Zi (.inr rfl) hU [.val (.int .u64 z5)] (by omega) ?_
 simp only [push_cast,seval,↓reduceIte,Zb,Tryz.results62,hN0,hN]
theorem Zga {a0:Zr} {a1:(List (List Int))} {a2:Int} {r:(Zr×Int)} {O:Objs} {n:Nat} (h:Ku a0 a1 a2=some r):GTo Tryz.prog 36 [.agg (Zv a0),(sL (eL (eI .u64)) a1),(vI a2)] O n (.tup [.agg (Zv r.1),(vI r.2)]) O n:=by
 unfold Ku at h
 refine Yj Zo Tryz.call36 Tryz.func36 rfl (Nat.le_of_ble_eq_true rfl) (Nat.le_refl _) fun hU => ?_
 have hN0:O n=none:=hU.fresh _ (Nat.le_refl _)
 have hN:∀ k,O (n+k)=none:=fun k=>hU.fresh _ (Nat.le_add_right _ _)
 show W _ _ _ _ ⟨80,[],[(0,.agg (Zv a0)),(1,(sL (eL (eI .u64)) a1)),(2,(vI a2))]⟩ (Zt O n []) _
 refine zQ [1,2,3,6] ?_
 refine Zd ?_
 obtain ⟨z2,hz2,h⟩:=bC h
 refine Y8 (E':=⟨80,[],[(1,(sL (eL (eI .u64)) a1)),(2,(vI a2)),(3,.ref n 0),(6,.ref (n+1) 0),(15,(vB z2))]⟩) (O':=(Zt O n [some ⟨false,47,7,1,(Zv a0)⟩,some ⟨false,47,7,1,[(vI 0),(vI 0),(vI 0),(vI 0),(vI 0),(vI 0),.val (.int .u64 0)]⟩])) (n0:=(n+2)) ?_ ?_
 ·rcases Bool.eq_false_or_eq_true (decide (a2 < 0)) with c5 | c5
  ·replace hz2:=Zn c5 hz2
   refine Vc [some false,some false,some false,some false] c5 ?_
   exact Ki hz2 c5
  replace hz2:=Zm c5 hz2
  obtain ⟨y4,hy4,hz2⟩:=bC hz2
  refine Vc [some true,some true,some true,some true] c5 ?_
  refine (Zca hy4).then ?_
  refine zX1 c5 ?_
  exact Ki hz2 c5
 refine Zj (t:=z2) rfl (fun c19 => ?_) (fun c19 => ?_)
 ·replace h:=Zn c19 h
  refine Zd ?_
  refine zRd [6,7] [false,true] ?_
  refine zW ?_
  have h:=Option.some.inj h;subst h
  refine Zi (.inr rfl) hU [.agg [(vI 0),(vI 0),(vI 0),(vI 0),(vI 0),(vI 0),.val (.int .u64 0)],(vI 0)] (by omega) ?_
  simp only [push_cast,seval,↓reduceIte,Zb,Tryz.results36,hN0,hN]
 replace h:=Zm c19 h
 refine Xs [1,2,3,6] [true,true] ?_
 refine Zd ?_
 refine zQ [1,2,3,6,19] ?_
 refine Zj (t:=(a0.Kind == 1)) rfl (fun c18 => ?_) (fun c18 => ?_)
 ·replace h:=Zn c18 h
  refine Zd ?_
  obtain ⟨y7,hy7,h⟩:=bC h
  refine zCd (Zgv hy7) [6,7] [false,true] ?_
  refine zW ?_
  have h:=Option.some.inj h;subst h
  refine Zi (.inr rfl) hU [.agg (Zv y7.1),(vI y7.2)] (by omega) ?_
  simp only [push_cast,seval,↓reduceIte,Zb,Tryz.results36,hN0,hN]
 replace h:=Zm c18 h
 refine Xs [1,2,3,6] [true,true] ?_
 refine Zd ?_
 refine zQ [1,2,3,6,35] ?_
 refine Zj (t:=(a0.Kind == 8)) rfl (fun c17 => ?_) (fun c17 => ?_)
 ·replace h:=Zn c17 h
  refine Zd ?_
  obtain ⟨y9,hy9,h⟩:=bC h
  refine zCd (Zgv hy9) [6,7] [false,true] ?_
  refine zW ?_
  have h:=Option.some.inj h;subst h
  refine Zi (.inr rfl) hU [.agg (Zv y9.1),(vI y9.2)] (by omega) ?_
  simp only [push_cast,seval,↓reduceIte,Zb,Tryz.results36,hN0,hN]
 replace h:=Zm c17 h
 refine Xs [1,2,3,6] [true,true] ?_
 refine Zd ?_
 refine zQ [1,2,3,6,48] ?_
 refine Zj (t:=(a0.Kind == 9)) rfl (fun c16 => ?_) (fun c16 => ?_)
 ·replace h:=Zn c16 h
  refine Zd ?_
  refine zRd [6,7] [false,true] ?_
  refine zW ?_
  have h:=Option.some.inj h;subst h
  refine Zi (.inr rfl) hU [.agg [(vI 1),(vI a0.S),(vI (IntKind.i64.wrap (a0.At+(IntKind.i64.wrap (a2 * (IntKind.i64.wrap (a0.Data+a0.Ptrs))))))),(vI a0.Data),(vI a0.Ptrs),(vI 0),.val (.int .u64 0)],(vI 0)] (by omega) ?_
  simp only [push_cast,seval,↓reduceIte,Zb,Tryz.results36,hN0,hN]
 replace h:=Zm c16 h
 refine Xs [1,2,3,6] [true,true] ?_
 refine Zd ?_
 obtain ⟨x13,hx13,ax13,bx13,cx13,h⟩:=bE (f:=(eL (eI .u64))) Zc9 (fun _=>rfl) (by decide) h
 obtain ⟨l14,al14,bl14,cl14,gl14,h⟩:=bS (lo:=(some (.i64,a0.At))) (hi:=none) (f:=(eI .u64)) rfl rfl Zda Jd (fun _=>rfl) h
 obtain ⟨y15,hy15,h⟩:=bC h
 refine Zc4 Zo (by kernel_rfl) [false,false,false,false,false,false,false,false,false,false,false,false,false,false,true,false] [] (by kernel_rfl) ?_
 refine zF7 ax13 bx13 cx13 al14 bl14 cl14 gl14 ?_
 refine PCall.of (Zta hy15) ?_
 refine zF7 ax13 bx13 cx13 al14 bl14 cl14 gl14 ?_
 refine zD [6,7] [false,true] ?_
 refine zW ?_
 have h:=Option.some.inj h;subst h
 refine Zi (.inr rfl) hU [.agg [(vI 10),(vI 0),(vI 0),(vI 0),(vI 0),(vI 0),.val (.int .u64 y15)],(vI 0)] (by omega) ?_
 simp only [push_cast,seval,↓reduceIte,Zb,Tryz.results36,hN0,hN]
def Zbt (Yt:((List (List Int))→Zr→Int→Int→Option (Za×Int×Int))):Prop:=∀ {a0:(List (List Int))} {a1:Zr} {a2:Int} {a3:Int} {r:(Za×Int×Int)} {O:Objs} {n:Nat},Yt a0 a1 a2 a3=some r→GTo Tryz.prog 18 [(sL (eL (eI .u64)) a0),.agg (Zv a1),(vI a2),(vI a3)] O n (.tup [.agg (Ze r.1),(vI r.2.1),(vI r.2.2)]) O n
def Zdo (Xh:((List (List Int))→Zr→Int→Int→Option (Za×Int×Int))):Prop:=∀ {a0:(List (List Int))} {a1:Zr} {a2:Int} {a3:Int} {r:(Za×Int×Int)} {O:Objs} {n:Nat},Xh a0 a1 a2 a3=some r→GTo Tryz.prog 37 [(sL (eL (eI .u64)) a0),.agg (Zv a1),(vI a2),(vI a3)] O n (.tup [.agg (Ze r.1),(vI r.2.1),(vI r.2.2)]) O n
theorem Znf {Yt:((List (List Int))→Zr→Int→Int→Option (Za×Int×Int))} {Xh:((List (List Int))→Zr→Int→Int→Option (Za×Int×Int))} (Zbu:Zbt Yt) (Zh0:Zdo Xh) {a0:(List (List Int))} {a1:Zr} {a2:Int} {a3:Int} {r:(Za×Int×Int)} {O:Objs} {n:Nat} (h:Kp Yt Xh a0 a1 a2 a3=some r):GTo Tryz.prog 18 [(sL (eL (eI .u64)) a0),.agg (Zv a1),(vI a2),(vI a3)] O n (.tup [.agg (Ze r.1),(vI r.2.1),(vI r.2.2)]) O n:=by
 unfold Kp at h
 refine Yj Zo Tryz.call18 Tryz.func18 rfl (Nat.le_of_ble_eq_true rfl) (Nat.le_refl _) fun hU => ?_
 have hN0:O n=none:=hU.fresh _ (Nat.le_refl _)
 have hN:∀ k,O (n+k)=none:=fun k=>hU.fresh _ (Nat.le_add_right _ _)
 show W _ _ _ _ ⟨149,[],[(0,(sL (eL (eI .u64)) a0)),(1,.agg (Zv a1)),(2,(vI a2)),(3,(vI a3))]⟩ (Zt O n []) _
 refine zQ [0,2,3,5,8] ?_
 refine Zd ?_
 obtain ⟨y2,hy2,h⟩:=bC h
 refine Zih Zo (by kernel_rfl) [.low,.low,.low,.plain,.low,.plain,.pass,.bar] (fun i=>i < (n+2)) [0,1,2,3,4,5,6,7] [.low,.low,.low,.plain,.low,.plain,.pass,.bar] [] (by kernel_rfl) rfl ?_
 refine zS ?_
 refine zO ?_
 first | refine PCallA.of (fun _ _=>Kx hy2) ?_ | refine PCall.of (Kx hy2) ?_
 refine zS ?_
 refine zO ?_
 refine zDs [0,2,3,5,8,11] [true,true,true] ?_
 refine zQ [0,2,3,5,8,11,25] ?_
 refine Zj (t:=(a1.Kind == 0)) rfl (fun c27 => ?_) (fun c27 => ?_)
 ·replace h:=Zn c27 h
  refine Zd ?_
  refine zRd [8,9,10] [false,true,false] ?_
  refine zW ?_
  have h:=Option.some.inj h;subst h
  refine Zi (.inr rfl) hU [.agg [(vI a1.Kind),(sL (eI .u64) y2),nV],(vI a3),(vI 0)] (by omega) ?_
  simp only [push_cast,seval,↓reduceIte,Zb,Tryz.results18,hN0,hN]
 replace h:=Zm c27 h
 refine Xs [0,2,3,5,8,11] [true,true,true] ?_
 refine Zd ?_
 refine zQD [0,2,3,5,8,11,43] [none,none,none,none,none,none,none,none,none,none,none,none] ?_
 refine Zj (t:=(cond (decide (a2 < 1)) true (cond (cond (a1.Kind == 9) (decide (0 < a1.Count)) false) (decide (a2 < 2)) false))) rfl (fun c26 => ?_) (fun c26 => ?_)
 ·replace h:=Zn c26 h
  refine Zd ?_
  refine zRd [8,9,10] [false,true,false] ?_
  refine zW ?_
  have h:=Option.some.inj h;subst h
  refine Zi (.inr rfl) hU [.agg [(vI a1.Kind),(sL (eI .u64) y2),nV],(vI a3),(vI 3)] (by omega) ?_
  simp only [push_cast,seval,↓reduceIte,Zb,Tryz.results18,hN0,hN]
 replace h:=Zm c26 h
 refine Xs [0,2,3,5,8,11] [true,true,true] ?_
 refine Zd ?_
 obtain ⟨y4,hy4,h⟩:=bC h
 refine zCd (Zca hy4) [0,2,3,5,8,11,12] [true,true,true] ?_
 obtain ⟨z5,hz5,h⟩:=bC h
 refine Y8 (E':=⟨149,[],[(0,(sL (eL (eI .u64)) a0)),(2,(vI a2)),(3,(vI a3)),(5,.ref n 0),(8,.ref (n+1) 0),(11,.ref (n+2) 0),(12,(vI z5))]⟩) (O':=(Zt O n [some ⟨false,47,7,1,(Zv a1)⟩,some ⟨false,28,3,1,[(vI 0),nV,nV]⟩,some ⟨false,28,3,1,[(vI a1.Kind),(sL (eI .u64) y2),nV]⟩])) (n0:=(n+3)) ?_ ?_
 ·refine zQ [0,2,3,5,8,11,12,51] ?_
  refine Zj (t:=(a1.Kind == 1)) rfl (fun c6 => ?_) (fun c6 => ?_)
  ·replace hz5:=Zn c6 hz5
   refine zR ?_
   exact zEn hz5
  replace hz5:=Zm c6 hz5
  refine zK ?_
  exact zEn hz5
 obtain ⟨z7,hz7,h⟩:=bC h
 refine Y8 (E':=⟨149,[],[(0,(sL (eL (eI .u64)) a0)),(2,(vI a2)),(3,(vI a3)),(5,.ref n 0),(8,.ref (n+1) 0),(11,.ref (n+2) 0),(12,(vI z7))]⟩) (O':=(Zt O n [some ⟨false,47,7,1,(Zv a1)⟩,some ⟨false,28,3,1,[(vI 0),nV,nV]⟩,some ⟨false,28,3,1,[(vI a1.Kind),(sL (eI .u64) y2),nV]⟩])) (n0:=(n+3)) ?_ ?_
 ·refine zQ [0,2,3,5,8,11,12,60] ?_
  refine Zj (t:=(a1.Kind == 9)) rfl (fun c8 => ?_) (fun c8 => ?_)
  ·replace hz7:=Zn c8 hz7
   refine zR ?_
   exact zEn hz7
  replace hz7:=Zm c8 hz7
  refine zK ?_
  exact zEn hz7
 refine Zd ?_
 refine zQ [0,2,3,5,8,11,12,73] ?_
 refine Zj (t:=(decide (a3 < z7))) rfl (fun c25 => ?_) (fun c25 => ?_)
 ·replace h:=Zn c25 h
  refine Zd ?_
  refine zRd [8,9,10] [false,true,false] ?_
  refine zW ?_
  have h:=Option.some.inj h;subst h
  refine Zi (.inr rfl) hU [.agg [(vI a1.Kind),(sL (eI .u64) y2),nV],(vI a3),(vI 3)] (by omega) ?_
  simp only [push_cast,seval,↓reduceIte,Zb,Tryz.results18,hN0,hN]
 replace h:=Zm c25 h
 refine Xs [0,2,3,5,8,11,12] [true,true,true] ?_
 refine zQ [0,2,3,5,8,11] ?_
 refine Zd ?_
 refine zQd [0,2,3,5,8,11,13] [0,2,3,5,8,11,13] [true,true,true] ?_
 refine Za0 (E':=(⟨149,[],[(0,(sL (eL (eI .u64)) a0)),(2,(vI a2)),(3,(vI (IntKind.i64.wrap (a3 - z7)))),(5,.ref n 0),(8,.ref (n+1) 0),(11,.ref (n+2) 0),(13,(vI 0))]⟩:Env)) (O':=(Zt O n [some ⟨false,47,7,1,(Zv a1)⟩,some ⟨false,28,3,1,[(vI 0),nV,nV]⟩,some ⟨false,28,3,1,[(vI a1.Kind),(sL (eI .u64) y2),.row (n+3) ([]:List Za).length]⟩,some (oR 28 3 Zf ([]:List Za)),none])) (n':=(n+5)) ?_ ?_
 ·refine Fit2.trans (E':=(⟨149,[],[(0,(sL (eL (eI .u64)) a0)),(2,(vI a2)),(3,(vI (IntKind.i64.wrap (a3 - z7)))),(5,.ref n 0),(8,.ref (n+1) 0),(11,.ref (n+2) 0),(13,(vI 0))]⟩:Env)) (O':=(Zt O n [some ⟨false,47,7,1,(Zv a1)⟩,some ⟨false,28,3,1,[(vI 0),nV,nV]⟩,some ⟨false,28,3,1,[(vI a1.Kind),(sL (eI .u64) y2),nV]⟩])) (n':=(n+3)) (Fit2.of (Z8 hU rfl rfl ?_) (by omega)) ?_
  ·exact zSe
  refine Fit2.trans (Zjg (p:=(n+2)) (k:=2) (q:=⟨false,28,3,1,[(vI a1.Kind),(sL (eI .u64) y2),nV]⟩) 28 3 (by simp only [Zbe,Zfh,List.getElem?_cons_zero,List.getElem?_cons_succ,Option.join_some,List.length_nil,Y5]) rfl (by omega)) ?_
  simp only [J4,Qh,Zb3,Zap,List.set_cons_zero,List.set_cons_succ,List.cons_append,List.nil_append,List.length_cons,List.length_nil,Nat.zero_add,Nat.reduceAdd,Nat.reduceLT,Nat.add_assoc]
  refine Jt (k:=4) (k':=5) hU [0,1,2,3] [0,1,2,3,0] rfl rfl rfl rfl ⟨rfl,rfl⟩ ?_
  exact zSe
 obtain ⟨z24,hz24,h⟩:=bC h
 refine Zgb (J:=(Kf (fun z24=>JR n (⟨149,[],[(8,.ref (n+1) 0),(9,(vI z24.1)),(10,(vI z24.2.1))]⟩:Env) (Zt O n [none,some ⟨false,28,3,1,[(vI a1.Kind),(sL (eI .u64) y2),(sL Zf z24.2.2)]⟩,none]) (n+3)) (fun z24=>JX 0 n (⟨149,[],[(3,(vI z24.1)),(8,.ref (n+1) 0),(11,.ref (n+2) 0)]⟩:Env) (Zt O n [none,some ⟨false,28,3,1,[(vI 0),nV,nV]⟩,some ⟨false,28,3,1,[(vI a1.Kind),(sL (eI .u64) y2),.row (n+3) z24.2.length]⟩,some (oR 28 3 Zf z24.2),none]) (n+5)))) (z:=z24) ?_ fun hw => ?_
 ·refine Y2 hz24 (fun s0_=>⟨149,[],[(0,(sL (eL (eI .u64)) a0)),(2,(vI a2)),(3,(vI s0_.1)),(5,.ref n 0),(8,.ref (n+1) 0),(11,.ref (n+2) 0),(13,(vI s0_.2.1))]⟩) (fun s0_=>(Zt O n [some ⟨false,47,7,1,(Zv a1)⟩,some ⟨false,28,3,1,[(vI 0),nV,nV]⟩,some ⟨false,28,3,1,[(vI a1.Kind),(sL (eI .u64) y2),.row (n+3) s0_.2.2.length]⟩,some (oR 28 3 Zf s0_.2.2),none])) (Kf (fun z24=>JR n (⟨149,[],[(8,.ref (n+1) 0),(9,(vI z24.1)),(10,(vI z24.2.1))]⟩:Env) (Zt O n [none,some ⟨false,28,3,1,[(vI a1.Kind),(sL (eI .u64) y2),(sL Zf z24.2.2)]⟩,none]) (n+3)) (fun z24=>JX 0 n (⟨149,[],[(3,(vI z24.1)),(8,.ref (n+1) 0),(11,.ref (n+2) 0)]⟩:Env) (Zt O n [none,some ⟨false,28,3,1,[(vI 0),nV,nV]⟩,some ⟨false,28,3,1,[(vI a1.Kind),(sL (eI .u64) y2),.row (n+3) z24.2.length]⟩,some (oR 28 3 Zf z24.2),none]) (n+5))) ?_
  intro s0_ x0_ hs0_
  unfold Kq at hs0_
  try dsimp only
  refine Zd ?_
  refine Zd ?_
  obtain ⟨y10,hy10,hs0_⟩:=bC hs0_
  refine zCd (Zca hy10) [0,2,3,5,8,11,13,82] [true,true,true,true,false] ?_
  refine Zj (t:=(decide (s0_.2.1 < y10))) rfl (fun c23 => ?_) (fun c23 => ?_)
  ·replace hs0_:=Zn c23 hs0_
   refine Xs [0,2,3,5,8,11,13] [true,true,true,true,false] ?_
   refine Zd ?_
   refine Yh ?_
   refine Zd ?_
   obtain ⟨y12,hy12,hs0_⟩:=bC hs0_
   refine zCd (Zga hy12) [0,2,3,5,8,11,13,14,15] [true,true,true,true,false,true] ?_
   refine Zd ?_
   refine zQ [0,2,3,5,8,11,13,14,15,93] ?_
   refine Zj (t:=(y12.2 != 0)) rfl (fun c22 => ?_) (fun c22 => ?_)
   ·replace hs0_:=Zn c22 hs0_
    refine Zd ?_
    refine zRd [8,9,10] [false,true,false,true,false,false] ?_
    refine zW ?_
    exact zEy hs0_
   replace hs0_:=Zm c22 hs0_
   refine Xs [0,2,3,5,8,11,13,14,15] [true,true,true,true,false,true] ?_
   refine Zd ?_
   obtain ⟨y14,hy14,hs0_⟩:=bC hs0_
   refine Zih Zo (by kernel_rfl) [.low,.low,.low,.plain,.low,.plain,.pass,.bar] (fun i=>i < (n+6)) [0,1,2,3,4,5,6,7] [.low,.low,.low,.plain,.low,.plain,.pass,.bar] [] (by kernel_rfl) rfl ?_
   refine zS ?_
   refine zO ?_
   first | refine PCallA.of (fun _ _=>Kx hy14) ?_ | refine PCall.of (Kx hy14) ?_
   refine zS ?_
   refine zO ?_
   refine zD [0,2,3,5,8,11,13,14,15,16] [true,true,true,true,false,true,true] ?_
   obtain ⟨z15,hz15,hs0_⟩:=bC hs0_
   refine Y8 (E':=⟨149,[],[(0,(sL (eL (eI .u64)) a0)),(2,(vI a2)),(3,(vI z15.1)),(5,.ref n 0),(8,.ref (n+1) 0),(11,.ref (n+2) 0),(13,(vI s0_.2.1)),(15,(vI z15.2.1)),(16,.ref (n+6) 0)]⟩) (O':=(Zt O n [some ⟨false,47,7,1,(Zv a1)⟩,some ⟨false,28,3,1,[(vI 0),nV,nV]⟩,some ⟨false,28,3,1,[(vI a1.Kind),(sL (eI .u64) y2),.row (n+3) s0_.2.2.length]⟩,some (oR 28 3 Zf s0_.2.2),none,none,some ⟨false,28,3,1,[(vI z15.2.2.1),(sL (eI .u64) z15.2.2.2.1),(sL Zf z15.2.2.2.2)]⟩])) (n0:=(n+7)) ?_ ?_
   ·refine Yh ?_
    refine zQ [0,2,3,5,8,11,13,14,15,16,103] ?_
    refine Zj (t:=(a1.Kind == 9)) rfl (fun c19 => ?_) (fun c19 => ?_)
    ·replace hz15:=Zn c19 hz15
     obtain ⟨y16,hy16,hz15⟩:=bC hz15
     refine zC (Zh0 hy16) ?_
     exact zEn hz15
    replace hz15:=Zm c19 hz15
    refine zQD [0,2,3,5,8,11,13,14,15,16,117] [none,none,none] ?_
    refine Zj (t:=(cond (a1.Kind == 1) true (a1.Kind == 8))) rfl (fun c18 => ?_) (fun c18 => ?_)
    ·replace hz15:=Zn c18 hz15
     obtain ⟨y17,hy17,hz15⟩:=bC hz15
     refine zC (Zbu hy17) ?_
     exact zEn hz15
    replace hz15:=Zm c18 hz15
    refine zK ?_
    exact zEn hz15
   refine Zd ?_
   refine zQ [0,2,3,5,8,11,13,15,16,137] ?_
   refine Zj (t:=(z15.2.1 != 0)) rfl (fun c21 => ?_) (fun c21 => ?_)
   ·replace hs0_:=Zn c21 hs0_
    refine Zd ?_
    refine zRd [8,9,10] [false,true,false,true,false,false,false] ?_
    refine zW ?_
    exact zEy hs0_
   replace hs0_:=Zm c21 hs0_
   refine Xs [0,2,3,5,8,11,13,16] [true,true,true,true,false,false,true] ?_
   obtain ⟨l20,pl20,ql20,el20,hs0_⟩:=bA (k:=1) rfl hs0_
   refine Zku [] pl20 ql20 el20 ?_
   refine Zah ⟨149,[],[(0,(sL (eL (eI .u64)) a0)),(2,(vI a2)),(3,(vI z15.1)),(5,.ref n 0),(8,.ref (n+1) 0),(11,.ref (n+2) 0),(13,(vI s0_.2.1))]⟩ (Zt O n [some ⟨false,47,7,1,(Zv a1)⟩,some ⟨false,28,3,1,[(vI 0),nV,nV]⟩,some ⟨false,28,3,1,[(vI a1.Kind),(sL (eI .u64) y2),.row (n+3) l20.length]⟩,some (oR 28 3 Zf l20),none,none,none,none]) (Z8 hU rfl rfl ?_) ?_
   ·exact Zv9 pl20 ql20 el20
   refine zR ?_
   exact zEn hs0_
  replace hs0_:=Zm c23 hs0_
  exact zEx hs0_
 rcases z24 with z24 | z24
 ·dsimp only [Kf] at hw h
  refine Zbf hw ?_
  try simp only [Y0,Ym,↓reduceIte,Nat.reduceEqDiff]
  have h:=Option.some.inj h;subst h
  refine Zi (.inr rfl) hU [.agg [(vI a1.Kind),(sL (eI .u64) y2),(sL Zf z24.2.2)],(vI z24.1),(vI z24.2.1)] (by omega) ?_
  simp only [push_cast,seval,↓reduceIte,Zb,Tryz.results18,hN0,hN]
 dsimp only [Kf] at hw h
 refine Yv hw ?_
 try simp only [Y0,Ym,↓reduceIte,Nat.reduceEqDiff]
 refine zDs [3,8,11] [false,true,true,true,false] ?_
 refine zRd [8,9,10] [false,true,false,true,false] ?_
 refine zW ?_
 have h:=Option.some.inj h;subst h
 refine Zi (.inr rfl) hU [.agg [(vI a1.Kind),(sL (eI .u64) y2),.row (n+3) z24.2.length],(vI z24.1),(vI 0)] (by omega) ?_
 simp only [push_cast,seval,↓reduceIte,Zb,Tryz.results18,hN0,hN]
theorem Zry {Yt:((List (List Int))→Zr→Int→Int→Option (Za×Int×Int))} {Xh:((List (List Int))→Zr→Int→Int→Option (Za×Int×Int))} (Zbu:Zbt Yt) (Zh0:Zdo Xh) {a0:(List (List Int))} {a1:Zr} {a2:Int} {a3:Int} {r:(Za×Int×Int)} {O:Objs} {n:Nat} (h:Ul Yt Xh a0 a1 a2 a3=some r):GTo Tryz.prog 37 [(sL (eL (eI .u64)) a0),.agg (Zv a1),(vI a2),(vI a3)] O n (.tup [.agg (Ze r.1),(vI r.2.1),(vI r.2.2)]) O n:=by
 unfold Ul at h
 refine Yj Zo Tryz.call37 Tryz.func37 rfl (Nat.le_of_ble_eq_true rfl) (Nat.le_refl _) fun hU => ?_
 have hN0:O n=none:=hU.fresh _ (Nat.le_refl _)
 have hN:∀ k,O (n+k)=none:=fun k=>hU.fresh _ (Nat.le_add_right _ _)
 show W _ _ _ _ ⟨63,[],[(0,(sL (eL (eI .u64)) a0)),(1,.agg (Zv a1)),(2,(vI a2)),(3,(vI a3))]⟩ (Zt O n []) _
 refine zQ [0,2,3,5,8] ?_
 refine Zd ?_
 obtain ⟨y2,hy2,h⟩:=bC h
 refine zCd (Kx hy2) [0,2,3,5,8,11] [true,true,true] ?_
 refine Zd ?_
 refine zQd [0,2,3,5,8,11,12] [0,2,3,5,8,11,12] [true,true,true] ?_
 refine Za0 (E':=(⟨63,[],[(0,(sL (eL (eI .u64)) a0)),(2,(vI a2)),(3,(vI a3)),(5,.ref n 0),(8,.ref (n+1) 0),(11,.ref (n+2) 0),(12,(vI 0))]⟩:Env)) (O':=(Zt O n [some ⟨false,47,7,1,(Zv a1)⟩,some ⟨false,28,3,1,[(vI 0),nV,nV]⟩,some ⟨false,28,3,1,[(vI 1),(sL (eI .u64) y2),.row (n+3) ([]:List Za).length]⟩,some (oR 28 3 Zf ([]:List Za)),none])) (n':=(n+5)) ?_ ?_
 ·refine Fit2.trans (E':=(⟨63,[],[(0,(sL (eL (eI .u64)) a0)),(2,(vI a2)),(3,(vI a3)),(5,.ref n 0),(8,.ref (n+1) 0),(11,.ref (n+2) 0),(12,(vI 0))]⟩:Env)) (O':=(Zt O n [some ⟨false,47,7,1,(Zv a1)⟩,some ⟨false,28,3,1,[(vI 0),nV,nV]⟩,some ⟨false,28,3,1,[(vI 1),(sL (eI .u64) y2),nV]⟩])) (n':=(n+3)) (Fit2.of (Z8 hU rfl rfl ?_) (by omega)) ?_
  ·exact zSe
  refine Fit2.trans (Zjg (p:=(n+2)) (k:=2) (q:=⟨false,28,3,1,[(vI 1),(sL (eI .u64) y2),nV]⟩) 28 3 (by simp only [Zbe,Zfh,List.getElem?_cons_zero,List.getElem?_cons_succ,Option.join_some,List.length_nil,Y5]) rfl (by omega)) ?_
  simp only [J4,Qh,Zb3,Zap,List.set_cons_zero,List.set_cons_succ,List.cons_append,List.nil_append,List.length_cons,List.length_nil,Nat.zero_add,Nat.reduceAdd,Nat.reduceLT,Nat.add_assoc]
  refine Jt (k:=4) (k':=5) hU [0,1,2,3] [0,1,2,3,0] rfl rfl rfl rfl ⟨rfl,rfl⟩ ?_
  exact zSe
 obtain ⟨z11,hz11,h⟩:=bC h
 refine Zgb (J:=(Kf (fun z11=>JR n (⟨63,[],[(8,.ref (n+1) 0),(9,(vI z11.1)),(10,(vI z11.2.1))]⟩:Env) (Zt O n [none,some ⟨false,28,3,1,[(vI 1),(sL (eI .u64) y2),(sL Zf z11.2.2)]⟩,none]) (n+3)) (fun z11=>JX 0 n (⟨63,[],[(3,(vI z11.1)),(8,.ref (n+1) 0),(11,.ref (n+2) 0)]⟩:Env) (Zt O n [none,some ⟨false,28,3,1,[(vI 0),nV,nV]⟩,some ⟨false,28,3,1,[(vI 1),(sL (eI .u64) y2),.row (n+3) z11.2.length]⟩,some (oR 28 3 Zf z11.2),none]) (n+5)))) (z:=z11) ?_ fun hw => ?_
 ·refine Y2 hz11 (fun s0_=>⟨63,[],[(0,(sL (eL (eI .u64)) a0)),(2,(vI a2)),(3,(vI s0_.1)),(5,.ref n 0),(8,.ref (n+1) 0),(11,.ref (n+2) 0),(12,(vI s0_.2.1))]⟩) (fun s0_=>(Zt O n [some ⟨false,47,7,1,(Zv a1)⟩,some ⟨false,28,3,1,[(vI 0),nV,nV]⟩,some ⟨false,28,3,1,[(vI 1),(sL (eI .u64) y2),.row (n+3) s0_.2.2.length]⟩,some (oR 28 3 Zf s0_.2.2),none])) (Kf (fun z11=>JR n (⟨63,[],[(8,.ref (n+1) 0),(9,(vI z11.1)),(10,(vI z11.2.1))]⟩:Env) (Zt O n [none,some ⟨false,28,3,1,[(vI 1),(sL (eI .u64) y2),(sL Zf z11.2.2)]⟩,none]) (n+3)) (fun z11=>JX 0 n (⟨63,[],[(3,(vI z11.1)),(8,.ref (n+1) 0),(11,.ref (n+2) 0)]⟩:Env) (Zt O n [none,some ⟨false,28,3,1,[(vI 0),nV,nV]⟩,some ⟨false,28,3,1,[(vI 1),(sL (eI .u64) y2),.row (n+3) z11.2.length]⟩,some (oR 28 3 Zf z11.2),none]) (n+5))) ?_
  intro s0_ x0_ hs0_
  unfold Uh at hs0_
  try dsimp only
  refine Zd ?_
  refine zQ [0,2,3,5,8,11,12,25] ?_
  refine Zj (t:=(decide (s0_.2.1 < a1.Ptrs))) rfl (fun c10 => ?_) (fun c10 => ?_)
  ·replace hs0_:=Zn c10 hs0_
   refine Xs [0,2,3,5,8,11,12] [true,true,true,true,false] ?_
   refine Zd ?_
   refine Yh ?_
   refine Zd ?_
   obtain ⟨y4,hy4,hs0_⟩:=bC hs0_
   refine zCd (Zga hy4) [0,2,3,5,8,11,12,13,14] [true,true,true,true,false,true] ?_
   refine Zd ?_
   refine zQ [0,2,3,5,8,11,12,13,14,36] ?_
   refine Zj (t:=(y4.2 != 0)) rfl (fun c9 => ?_) (fun c9 => ?_)
   ·replace hs0_:=Zn c9 hs0_
    refine Zd ?_
    refine zRd [8,9,10] [false,true,false,true,false,false] ?_
    refine zW ?_
    exact zEy hs0_
   replace hs0_:=Zm c9 hs0_
   refine Xs [0,2,3,5,8,11,12,13] [true,true,true,true,false,true] ?_
   refine Zd ?_
   obtain ⟨y6,hy6,hs0_⟩:=bC hs0_
   refine zCd (Zbu hy6) [0,2,5,8,11,12,15,16,17] [true,true,true,true,false,false,true] ?_
   refine Zd ?_
   refine zQ [0,2,5,8,11,12,15,16,17,50] ?_
   refine Zj (t:=(y6.2.2 != 0)) rfl (fun c8 => ?_) (fun c8 => ?_)
   ·replace hs0_:=Zn c8 hs0_
    refine Zd ?_
    refine zRd [8,9,10] [false,true,false,true,false,false,false] ?_
    refine zW ?_
    exact zEy hs0_
   replace hs0_:=Zm c8 hs0_
   refine Xs [0,2,5,8,11,12,15,16] [true,true,true,true,false,false,true] ?_
   refine zQ [0,2,3,5,8,11,12,15] ?_
   obtain ⟨l7,pl7,ql7,el7,hs0_⟩:=bA (k:=1) rfl hs0_
   refine Zku [] pl7 ql7 el7 ?_
   refine Zah ⟨63,[],[(0,(sL (eL (eI .u64)) a0)),(2,(vI a2)),(3,(vI y6.2.1)),(5,.ref n 0),(8,.ref (n+1) 0),(11,.ref (n+2) 0),(12,(vI s0_.2.1))]⟩ (Zt O n [some ⟨false,47,7,1,(Zv a1)⟩,some ⟨false,28,3,1,[(vI 0),nV,nV]⟩,some ⟨false,28,3,1,[(vI 1),(sL (eI .u64) y2),.row (n+3) l7.length]⟩,some (oR 28 3 Zf l7),none,none,none,none]) (Z8 hU rfl rfl ?_) ?_
   ·exact Zv9 pl7 ql7 el7
   refine zR ?_
   exact zEn hs0_
  replace hs0_:=Zm c10 hs0_
  exact zEx hs0_
 rcases z11 with z11 | z11
 ·dsimp only [Kf] at hw h
  refine Zbf hw ?_
  try simp only [Y0,Ym,↓reduceIte,Nat.reduceEqDiff]
  have h:=Option.some.inj h;subst h
  refine Zi (.inr rfl) hU [.agg [(vI 1),(sL (eI .u64) y2),(sL Zf z11.2.2)],(vI z11.1),(vI z11.2.1)] (by omega) ?_
  simp only [push_cast,seval,↓reduceIte,Zb,Tryz.results37,hN0,hN]
 dsimp only [Kf] at hw h
 refine Yv hw ?_
 try simp only [Y0,Ym,↓reduceIte,Nat.reduceEqDiff]
 refine zDs [3,8,11] [false,true,true,true,false] ?_
 refine zRd [8,9,10] [false,true,false,true,false] ?_
 refine zW ?_
 have h:=Option.some.inj h;subst h
 refine Zi (.inr rfl) hU [.agg [(vI 1),(sL (eI .u64) y2),.row (n+3) z11.2.length],(vI z11.1),(vI 0)] (by omega) ?_
 simp only [push_cast,seval,↓reduceIte,Zb,Tryz.results37,hN0,hN]
theorem Zkx:∀ k,(Zbt ((Yx k).1))∧(Zdo ((Yx k).2)):=fun k=>by
 induction k with
 | zero=>exact ⟨@fun a0 a1 a2 a3 r O n h=>(nomatch (show (none:Option _)=some _ from h)),@fun a0 a1 a2 a3 r O n h=>(nomatch (show (none:Option _)=some _ from h))⟩
 | succ k ih=>exact ⟨@fun a0 a1 a2 a3 r O n h=>Znf (ih.1) (ih.2)  h,@fun a0 a1 a2 a3 r O n h=>Zry (ih.1) (ih.2)  h⟩
theorem Zn6 {a0:(List (List Int))} {a1:Zr} {a2:Int} {a3:Int} {r:(Za×Int×Int)} {O:Objs} {n:Nat} (h:Zdi a0 a1 a2 a3=some r):GTo Tryz.prog 18 [(sL (eL (eI .u64)) a0),.agg (Zv a1),(vI a2),(vI a3)] O n (.tup [.agg (Ze r.1),(vI r.2.1),(vI r.2.2)]) O n:=by
 obtain ⟨k,hk⟩:=Zcg h
 exact (Zkx k).1  hk
theorem Zoq {a0:(List (List Int))} {a1:Z0} {r:(Za×Int×Int)} {O:Objs} {n:Nat} (h:Vj a0 a1=some r):GTo Tryz.prog 6 [(sL (eL (eI .u64)) a0),.agg (Yd a1)] O n (.tup [.agg (Ze r.1),(vI r.2.1),(vI r.2.2)]) O n:=by
 unfold Vj at h
 refine Yj Zo Tryz.call6 Tryz.func6 rfl (Nat.le_of_ble_eq_true rfl) (Nat.le_refl _) fun hU => ?_
 have hN0:O n=none:=hU.fresh _ (Nat.le_refl _)
 have hN:∀ k,O (n+k)=none:=fun k=>hU.fresh _ (Nat.le_add_right _ _)
 show W _ _ _ _ ⟨43,[],[(0,(sL (eL (eI .u64)) a0)),(1,.agg (Yd a1))]⟩ (Zt O n []) _
 refine zQ [0,3,4] ?_
 refine Zd ?_
 obtain ⟨y2,hy2,h⟩:=bC h
 refine zCd (Zop hy2) [0,3,4] [true,true] ?_
 refine Zd ?_
 obtain ⟨y4,hy4,h⟩:=bC h
 refine zCd (Zgv hy4) [0,3,4,7,8] [true,true,true] ?_
 refine Zd ?_
 refine zQ [0,3,4,7,8,20] ?_
 refine Zj (t:=(y4.2 != 0)) rfl (fun c8 => ?_) (fun c8 => ?_)
 ·replace h:=Zn c8 h
  refine Zd ?_
  refine zRd [4,5,6] [false,true,false] ?_
  refine zW ?_
  have h:=Option.some.inj h;subst h
  refine Zi (.inr rfl) hU [.agg [(vI 0),nV,nV],(vI 0),(vI y4.2)] (by omega) ?_
  simp only [push_cast,seval,↓reduceIte,Zb,Tryz.results6,hN0,hN]
 replace h:=Zm c8 h
 refine Xs [0,3,4,7] [true,true,true] ?_
 refine Zd ?_
 obtain ⟨y6,hy6,h⟩:=bC h
 refine zCd (Zn6 hy6) [3,4,9,10,11] [true,true,false,true] ?_
 refine Zd ?_
 refine zQ [3,4,9,10,11,35] ?_
 refine Zj (t:=(y6.2.2 != 0)) rfl (fun c7 => ?_) (fun c7 => ?_)
 ·replace h:=Zn c7 h
  refine Zd ?_
  refine zRd [4,5,6] [false,true,false,false] ?_
  refine zW ?_
  have h:=Option.some.inj h;subst h
  refine Zi (.inr rfl) hU [.agg [(vI 0),nV,nV],(vI 0),(vI y6.2.2)] (by omega) ?_
  simp only [push_cast,seval,↓reduceIte,Zb,Tryz.results6,hN0,hN]
 replace h:=Zm c7 h
 refine Xs [3,4,9,10] [true,true,false,true] ?_
 refine Zd ?_
 refine Zih Zo (by kernel_rfl) [.plain,.low,.low,.plain,.low,.pass,.plain,.plain] (fun i=>i≠n+1) [0,1,2,3,4,5,6,7] [.plain,.low,.low,.plain,.low,.pass,.plain,.plain] [] (by kernel_rfl) rfl ?_
 refine zS ?_
 refine zO ?_
 refine zD [4,5,6] [false,true,false,false] ?_
 refine zW ?_
 have h:=Option.some.inj h;subst h
 refine Zi (.inr rfl) hU [.agg (Ze y6.1),(vI (IntKind.i64.wrap (y2.Weight - y6.2.1))),(vI 0)] (by omega) ?_
 simp only [push_cast,seval,↓reduceIte,Zb,Tryz.results6,hN0,hN]
theorem Zeq {a0:(List Int)} {a1:(List Int)} {r:Bool} {O:Objs} {n:Nat} (h:Qv a0 a1=some r):GTo Tryz.prog 11 [(sL (eI .u64) a0),(sL (eI .u64) a1)] O n ((vB r)) O n:=by
 unfold Qv at h
 refine Yj Zo Tryz.call11 Tryz.func11 rfl (Nat.le_of_ble_eq_true rfl) (Nat.le_refl _) fun hU => ?_
 have hN0:O n=none:=hU.fresh _ (Nat.le_refl _)
 have hN:∀ k,O (n+k)=none:=fun k=>hU.fresh _ (Nat.le_add_right _ _)
 show W _ _ _ _ ⟨26,[],[(0,(sL (eI .u64) a0)),(1,(sL (eI .u64) a1))]⟩ (Zt O n []) _
 refine zQ [0,1] ?_
 refine Zd ?_
 refine zQ [0,1,10] ?_
 refine Zj (t:=((a0.length:Int) != (a1.length:Int))) rfl (fun c8 => ?_) (fun c8 => ?_)
 ·replace h:=Zn c8 h
  refine zQ [4] ?_
  refine zW ?_
  have h:=Option.some.inj h;subst h
  refine Zi (.inr rfl) hU [(vB false)] (by omega) ?_
  simp only [push_cast,seval,↓reduceIte,Zb,Tryz.results11,hN0,hN]
 replace h:=Zm c8 h
 refine Xs [0,1] [] ?_
 refine Zd ?_
 refine zQd [0,1,5] [0,1,5] [] ?_
 obtain ⟨z7,hz7,h⟩:=bC h
 refine Zgb (J:=(Kf (fun z7=>JR n (⟨26,[],[(4,(vB false))]⟩:Env) (Zt O n []) n) (fun z7=>JX 0 n (⟨26,[],[]⟩:Env) (Zt O n []) n))) (z:=z7) ?_ fun hw => ?_
 ·refine Y2 hz7 (fun s0_=>⟨26,[],[(0,(sL (eI .u64) a0)),(1,(sL (eI .u64) a1)),(5,(vI s0_))]⟩) (fun s0_=>(Zt O n [])) (Kf (fun z7=>JR n (⟨26,[],[(4,(vB false))]⟩:Env) (Zt O n []) n) (fun z7=>JX 0 n (⟨26,[],[]⟩:Env) (Zt O n []) n)) ?_
  intro s0_ x0_ hs0_
  unfold Ui at hs0_
  try dsimp only
  refine Zd ?_
  refine zQ [0,1,5,14] ?_
  refine Zj (t:=(decide (s0_ < (a0.length:Int)))) rfl (fun c6 => ?_) (fun c6 => ?_)
  ·replace hs0_:=Zn c6 hs0_
   refine Xs [0,1,5] [] ?_
   refine Zd ?_
   refine Yh ?_
   obtain ⟨x3,hx3,ax3,bx3,cx3,hs0_⟩:=bE (f:=(eI .u64)) Jd (fun _=>rfl) (by decide) hs0_
   obtain ⟨x4,hx4,ax4,bx4,cx4,hs0_⟩:=bE (f:=(eI .u64)) Jd (fun _=>rfl) (by decide) hs0_
   refine Zb4 [0,1,5,25] (X1 Zo (by kernel_rfl) [] (by kernel_rfl) ?_)
   refine zF6 ax3 bx3 cx3 ax4 bx4 cx4 ?_
   refine Zj (t:=(x3 != x4)) rfl (fun c5 => ?_) (fun c5 => ?_)
   ·replace hs0_:=Zn c5 hs0_
    refine zQ [4] ?_
    refine zW ?_
    exact zEy hs0_
   replace hs0_:=Zm c5 hs0_
   refine Xs [0,1,5] [] ?_
   refine zR ?_
   exact zEn hs0_
  replace hs0_:=Zm c6 hs0_
  exact zEx hs0_
 rcases z7 with z7 | z7
 ·dsimp only [Kf] at hw h
  refine Zbf hw ?_
  try simp only [Y0,Ym,↓reduceIte,Nat.reduceEqDiff]
  have h:=Option.some.inj h;subst h
  refine Zi (.inr rfl) hU [(vB false)] (by omega) ?_
  simp only [push_cast,seval,↓reduceIte,Zb,Tryz.results11,hN0,hN]
 dsimp only [Kf] at hw h
 refine Yv hw ?_
 try simp only [Y0,Ym,↓reduceIte,Nat.reduceEqDiff]
 refine zD [] [] ?_
 refine zQ [4] ?_
 refine zW ?_
 have h:=Option.some.inj h;subst h
 refine Zi (.inr rfl) hU [(vB true)] (by omega) ?_
 simp only [push_cast,seval,↓reduceIte,Zb,Tryz.results11,hN0,hN]
def Zhx (Js:(Za→Za→Option Bool)):Prop:=∀ {a0:Za} {a1:Za} {r:Bool} {O:Objs} {n:Nat},Js a0 a1=some r→GTo Tryz.prog 7 [.agg (Ze a0),.agg (Ze a1)] O n ((vB r)) O n
theorem Zrw {Js:(Za→Za→Option Bool)} (Zot:Zhx Js) {a0:Za} {a1:Za} {r:Bool} {O:Objs} {n:Nat} (h:Zar Js a0 a1=some r):GTo Tryz.prog 7 [.agg (Ze a0),.agg (Ze a1)] O n ((vB r)) O n:=by
 unfold Zar at h
 refine Yj Zo Tryz.call7 Tryz.func7 rfl (Nat.le_of_ble_eq_true rfl) (Nat.le_refl _) fun hU => ?_
 have hN0:O n=none:=hU.fresh _ (Nat.le_refl _)
 have hN:∀ k,O (n+k)=none:=fun k=>hU.fresh _ (Nat.le_add_right _ _)
 show W _ _ _ _ ⟨47,[],[(0,.agg (Ze a0)),(1,.agg (Ze a1))]⟩ (Zt O n []) _
 refine zQ [2,3] ?_
 refine Zd ?_
 obtain ⟨z2,hz2,h⟩:=bC h
 refine Y8 (E':=⟨47,[],[(2,.ref n 0),(3,.ref (n+1) 0),(27,(vB z2))]⟩) (O':=(Zt O n [some ⟨false,28,3,1,(Ze a0)⟩,some ⟨false,28,3,1,(Ze a1)⟩])) (n0:=(n+2)) ?_ ?_
 ·rcases Bool.eq_false_or_eq_true (a0.Kind != a1.Kind) with c5 | c5
  ·replace hz2:=Zn c5 hz2
   refine Vc [some false,some false,some false,some false,some false,some false,some false,some false,some false,some false,some false,some false,some false] c5 ?_
   exact Ki hz2 c5
  replace hz2:=Zm c5 hz2
  obtain ⟨y4,hy4,hz2⟩:=bC hz2
  refine Vc [some true,some true,some true,some true,some true,some true,none,none,none,none,none,none,none] c5 ?_
  refine zG ?_
  refine (Zeq hy4).then ?_
  refine zX1 c5 ?_
  refine zG ?_
  exact Ki hz2 c5
 refine Zj (t:=z2) rfl (fun c15 => ?_) (fun c15 => ?_)
 ·replace h:=Zn c15 h
  refine zQ [4] ?_
  refine zW ?_
  have h:=Option.some.inj h;subst h
  refine Zi (.inr rfl) hU [(vB false)] (by omega) ?_
  simp only [push_cast,seval,↓reduceIte,Zb,Tryz.results7,hN0,hN]
 replace h:=Zm c15 h
 refine Xs [2,3] [true,true] ?_
 refine Zd ?_
 refine zQd [2,3,5] [2,3,5] [true,true] ?_
 obtain ⟨z14,hz14,h⟩:=bC h
 refine Zgb (J:=(Kf (fun z14=>JR n (⟨47,[],[(4,(vB false))]⟩:Env) (Zt O n [none,none]) (n+2)) (fun z14=>JX 0 n (⟨47,[],[]⟩:Env) (Zt O n [none,none]) (n+2)))) (z:=z14) ?_ fun hw => ?_
 ·refine Y2 hz14 (fun s0_=>⟨47,[],[(2,.ref n 0),(3,.ref (n+1) 0),(5,(vI s0_))]⟩) (fun s0_=>(Zt O n [some ⟨false,28,3,1,(Ze a0)⟩,some ⟨false,28,3,1,(Ze a1)⟩])) (Kf (fun z14=>JR n (⟨47,[],[(4,(vB false))]⟩:Env) (Zt O n [none,none]) (n+2)) (fun z14=>JX 0 n (⟨47,[],[]⟩:Env) (Zt O n [none,none]) (n+2))) ?_
  intro s0_ x0_ hs0_
  unfold Ue at hs0_
  try dsimp only
  refine Zd ?_
  refine zQ [2,3,5,32] ?_
  refine Zj (t:=(decide (s0_ < (a0.Kids.length:Int)))) rfl (fun c13 => ?_) (fun c13 => ?_)
  ·replace hs0_:=Zn c13 hs0_
   refine Xs [2,3,5] [true,true] ?_
   refine Zd ?_
   refine Yh ?_
   refine Zd ?_
   obtain ⟨x9,hx9,ax9,bx9,cx9,hs0_⟩:=bE (f:=Zf) K0 (fun _=>rfl) (by decide) hs0_
   obtain ⟨x10,hx10,ax10,bx10,cx10,hs0_⟩:=bE (f:=Zf) K0 (fun _=>rfl) (by decide) hs0_
   obtain ⟨y11,hy11,hs0_⟩:=bC hs0_
   refine X1 Zo (by kernel_rfl) [] (by kernel_rfl) ?_
   refine zF6 ax9 bx9 cx9 ax10 bx10 cx10 ?_
   refine PCall.of (Zot hy11) ?_
   refine zF6 ax9 bx9 cx9 ax10 bx10 cx10 ?_
   refine zD [2,3,5,46] [true,true] ?_
   refine Zj (t:=(!y11)) rfl (fun c12 => ?_) (fun c12 => ?_)
   ·replace hs0_:=Zn c12 hs0_
    refine zQ [4] ?_
    refine zW ?_
    exact zEy hs0_
   replace hs0_:=Zm c12 hs0_
   refine Xs [2,3,5] [true,true] ?_
   refine zR ?_
   exact zEn hs0_
  replace hs0_:=Zm c13 hs0_
  exact zEx hs0_
 rcases z14 with z14 | z14
 ·dsimp only [Kf] at hw h
  refine Zbf hw ?_
  try simp only [Y0,Ym,↓reduceIte,Nat.reduceEqDiff]
  have h:=Option.some.inj h;subst h
  refine Zi (.inr rfl) hU [(vB false)] (by omega) ?_
  simp only [push_cast,seval,↓reduceIte,Zb,Tryz.results7,hN0,hN]
 dsimp only [Kf] at hw h
 refine Yv hw ?_
 try simp only [Y0,Ym,↓reduceIte,Nat.reduceEqDiff]
 refine zD [] [false,false] ?_
 refine zQ [4] ?_
 refine zW ?_
 have h:=Option.some.inj h;subst h
 refine Zi (.inr rfl) hU [(vB true)] (by omega) ?_
 simp only [push_cast,seval,↓reduceIte,Zb,Tryz.results7,hN0,hN]
theorem Zn4:∀ k,(Zhx (Kj k)):=fun k=>by
 induction k with
 | zero=>exact @fun a0 a1 r O n h=>(nomatch (show (none:Option _)=some _ from h))
 | succ k ih=>exact @fun a0 a1 r O n h=>Zrw (ih)  h
theorem V7 {a0:Za} {a1:Za} {r:Bool} {O:Objs} {n:Nat} (h:K6 a0 a1=some r):GTo Tryz.prog 7 [.agg (Ze a0),.agg (Ze a1)] O n ((vB r)) O n:=by
 obtain ⟨k,hk⟩:=Zcg h
 exact (Zn4 k)  hk
theorem Zd6  {r:Bool} {O:Objs} {n:Nat} (h:Kk=some r):GTo Tryz.prog 8 [] O n ((vB r)) O n:=by
 unfold Kk at h
 refine Yj Zo Tryz.call8 Tryz.func8 rfl (Nat.le_of_ble_eq_true rfl) (Nat.le_refl _) fun hU => ?_
 have hN0:O n=none:=hU.fresh _ (Nat.le_refl _)
 have hN:∀ k,O (n+k)=none:=fun k=>hU.fresh _ (Nat.le_add_right _ _)
 show W _ _ _ _ ⟨19,[],[]⟩ (Zt O n []) _
 refine zQ [] ?_
 refine Zd ?_
 obtain ⟨y2,hy2,h⟩:=bC h
 refine zR ?_
 refine GCalls.dropL (l':=[none,none,none]) hU rfl ?_ ((Znr hy2).then ?_)
 ·exact zSe
 refine zS ?_
 refine zD [1,2] [false,false,false] ?_
 obtain ⟨z4,hz4,h⟩:=bC h
 refine Y8 (E':=⟨19,[],[(0,(vB z4))]⟩) (O':=(Zt O n [none,none,none,none])) (n0:=(n+4)) ?_ ?_
 ·rcases Bool.eq_false_or_eq_true y2.2 with c7 | c7
  ·replace hz4:=Zn c7 hz4
   obtain ⟨y6,hy6,hz4⟩:=bC hz4
   refine Vc [some true,some true,some true] c7 ?_
   refine GCalls.lend (Zeq hy6) rfl ?_ ?_
   ·exact Yfe c7
   refine zX1 c7 ?_
   exact Ki hz4 c7
  replace hz4:=Zm c7 hz4
  refine Vc [some false,some false,some false] c7 ?_
  exact Ki hz4 c7
 refine zW ?_
 have h:=Option.some.inj h;subst h
 refine Zi (.inr rfl) hU [(vB z4)] (by omega) ?_
 simp only [push_cast,seval,↓reduceIte,Zb,Tryz.results8,hN0,hN]
theorem Zsg {a0:(List Int)} {r:(List Int)} {O:Objs} {n:Nat} (h:Zau a0=some r):GTo Tryz.prog 19 [(sL (eI .u64) a0)] O n ((sL (eI .u64) r)) O n:=by
 unfold Zau at h
 refine Yj Zo Tryz.call19 Tryz.func19 rfl (Nat.le_of_ble_eq_true rfl) (Nat.le_refl _) fun hU => ?_
 have hN0:O n=none:=hU.fresh _ (Nat.le_refl _)
 have hN:∀ k,O (n+k)=none:=fun k=>hU.fresh _ (Nat.le_add_right _ _)
 show W _ _ _ _ ⟨24,[],[(0,(sL (eI .u64) a0))]⟩ (Zt O n []) _
 refine zQ [0] ?_
 refine zQ [0,3] ?_
 refine Zd ?_
 refine zD [0,3] [] ?_
 obtain ⟨z7,hz7,h⟩:=bC h
 refine Yv (E':=⟨24,[],[(0,(sL (eI .u64) a0)),(3,(vI z7))]⟩) (O':=(Zt O n [])) (n0:=n) ?_ ?_
 ·refine Y2 hz7 (fun s0_=>⟨24,[],[(0,(sL (eI .u64) a0)),(3,(vI s0_))]⟩) (fun s0_=>(Zt O n [])) (fun z7=>JX 0 n (⟨24,[],[(0,(sL (eI .u64) a0)),(3,(vI z7))]⟩:Env) (Zt O n []) n) ?_
  intro s0_ x0_ hs0_
  unfold Uj at hs0_
  try dsimp only
  refine Zd ?_
  obtain ⟨z2,hz2,hs0_⟩:=bC hs0_
  refine Y8 (E':=⟨24,[],[(0,(sL (eI .u64) a0)),(3,(vI s0_)),(16,(vB z2))]⟩) (O':=(Zt O n [])) (n0:=n) ?_ ?_
  ·rcases Bool.eq_false_or_eq_true (decide (0 < s0_)) with c5 | c5
   ·replace hz2:=Zn c5 hz2
    obtain ⟨x4,hx4,ax4,bx4,cx4,hz2⟩:=bE (f:=(eI .u64)) Jd (fun _=>rfl) (by decide) hz2
    refine Zo4 [some true,some true,some true,some true,some true,some true] c5 ax4 bx4 cx4 ?_
    exact Z31 hz2 c5 ax4 bx4 cx4
   replace hz2:=Zm c5 hz2
   refine Vc [some false,some false,some false,some false,some false,some false] c5 ?_
   exact Ki hz2 c5
  refine Zj (t:=z2) rfl (fun c6 => ?_) (fun c6 => ?_)
  ·replace hs0_:=Zn c6 hs0_
   refine Xs [0,3] [] ?_
   refine Yh ?_
   refine zR ?_
   exact zEn hs0_
  replace hs0_:=Zm c6 hs0_
  exact zEx hs0_
 try simp only [Y0,Ym,↓reduceIte,Nat.reduceEqDiff]
 refine zD [0,3] [] ?_
 refine zQ [0,3,4] ?_
 refine Zd ?_
 obtain ⟨l10,al10,bl10,cl10,gl10,h⟩:=bS (lo:=none) (hi:=(some (.i64,z7))) (f:=(eI .u64)) rfl rfl Zda Jd (fun _=>rfl) h
 obtain ⟨l11,pl11,ql11,el11,h⟩:=bA0 (k:=l10.length) rfl h
 refine Ydz [] al10 bl10 cl10 gl10 pl11 ql11 el11 ?_
 refine Zah ⟨24,[],[(2,.row n l11.length)]⟩ (Zt O n [some (oR 45 1 (eI .u64) l11)]) (Z8 hU rfl rfl ?_) ?_
 ·simp only [push_cast,seval,↓reduceIte,Zb,al10,bl10,cl10,gl10,pl11,ql11,el11,hN0,hN]
 refine zW ?_
 have h:=Option.some.inj h;subst h
 refine Zi (.inr rfl) hU [.row n l11.length] (by omega) ?_
 simp only [push_cast,seval,↓reduceIte,Zb,Tryz.results19,hN0,hN]
end Go.Proofs.YtpfbdlcnfekdkaaGreat
