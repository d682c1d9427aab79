/- Part DM7 of this seat's mirrors: functions of the seat's program, and the plain functions that they are; each theorem bears its own conditions. -/
import Derived.Test.YtpfbdlcnfekdkaaGreatDE
import Derived.Test.YtpfbdlcnfekdkaaGreatDM6
namespace Go.Proofs.YtpfbdlcnfekdkaaGreat
open Go.RowKit
set_option linter.unusedVariables false
set_option linter.unusedSimpArgs false
set_option maxRecDepth 100000
set_option maxHeartbeats 4000000
attribute [local push_cast] vI vB nV sL oR Yd Ze Zv Yq Zp Zpk Zpj Zp3 Zp2 Y0 Ym Zlm Zgm Zgl onW X6 Zeb Zdw Zrz Zob Zi9 Zjd Zi8 Zjc Zmk Zmf Zjb Zmj Zmi Zmh Zja Zmd Zha evS wok Je Op.operands Call.operands gop onK onP atK List.all_cons List.all_nil Bool.and_true Bool.true_and Bool.and_self Value.oneCell' List.take_zero List.take_succ_cons List.take_nil List.drop_zero List.drop_succ_cons List.drop_nil List.append_nil Nat.add_zero Nat.zero_add Gs Yr ev Jn Zr7 Zpd Zpc Zpi Zpg Zph Zpe Zpf Zpb Zsz Zt1 Zw0 Zjr Zde Zjq Zd3 Ziy Zgo Zet Zey Zgi Zge Zew Zgh Zgg Zgf Zev Zgc Zeu Zex Zdu Zgd Zm7 Zgn Za3 Zik Za4 Zkw Zjp Zv1 bLo bHi bMx Zdf Zkv Zx9 Zjn Zll Zfp Gb Zs0 Zya Zij Zfo Zyc Zdd Z0v Zlr Zlv Zlq Zlu Zpu Zpq Zpo Ziz Zls Zpt Zps Zpr Zlt Zpp Zln Zr8 Zma Zg7 Zg6 pop TK.isAgg Zpx Zp1 Zpw Zp0 Zl3 Zui Zue Zpz Zuh Zug Zuf Zpy Zud G.under G.unders List.getD_cons_zero List.getD_cons_succ List.set_cons_zero List.set_cons_succ List.map_cons List.map_nil List.toList_toArray Array.toList_append Option.toArray_none Option.toArray_some Array.toList_map Option.map_some Option.map_none Option.bind_some Option.bind_none List.getElem?_cons_zero List.getElem?_cons_succ List.getElem?_nil List.nil_append List.cons_append List.replicate_succ List.replicate_zero List.length_cons List.length_nil and_true true_and and_false false_and Bool.true_eq_false Bool.false_eq_true forall_const false_implies implies_true IntKind.bits if_true if_false ite_true ite_false eq_self true_implies false_or or_false or_true true_or not_true_eq_false not_false_eq_true decide_true decide_false decide_eq_true_eq decide_eq_false_iff_not beq_iff_eq bne_iff_ne ne_eq Bool.not_eq_true Bool.not_eq_false beq_eq_false_iff_ne bne_eq_false_iff_eq beq_self_eq_true bne_self_eq_false Option.some.injEq exists_eq_left' exists_eq_left ge_iff_le gt_iff_lt decide_not Bool.not_true Bool.not_false imp_self Zt4 cond_true cond_false Z6w Z6v Bool.not_not Bool.and_false Bool.false_and Bool.or_true Bool.true_or Bool.or_false Bool.false_or Zbe Zfh Zb3 Zap J4 Qh Option.join_some Nat.add_assoc Int.toNat_natCast eI eB eS eL Q8 Zgk Ze1 Zpn Zpl Zpm Z1g Z29 Zg3 Ze7 Zp9 Zp7 Zp8 Zxj Zn2 Zvo Znw Zv0 Zcr Zr5 List.length_append G.agg.injEq G.row.injEq G.ref.injEq G.val.injEq G.sl.injEq G.tup.injEq Value.int.injEq Value.bool.injEq Value.string.injEq List.cons.injEq exists_and_left exists_const List.flatten_cons List.flatten_nil Int.le_refl Nat.le_refl Zcq Qg Vv Bool.not_eq_true' Bool.not_eq_false' Zrl Zh5 Zvf Zvj Zve Zvi Z0h Z0c List.size_toArray Zsl Zr3 G.ren G.rens Zuk Zg8 Zqg Zo9 Zpa Zme Zvk Zgz G.fn.injEq Zkd Zm1 Zrk Z0d Zm0 Zvh Z0g Z0f Z0e Zvg Zt7 Zyz Option.join_none Y5 Zad undef Zlo Arr.len Arr.put_eq Zg2 Zi1 Zg1 Ze6 Zp6 Zp4 Zp5 onB Z1f Zsy Ke Zdv Zk5 Zk6 Zk7 Zk8 Zk9 Zla Zi0 Zi4 Zi2 Zg5 Ze8 Zi3 Zl9 Zl8 Zl7 Zl6 Z28 Z4x Zxi Zv8 Vb Zxa Zse Zi5 Zg4 Zyl Zr4 Zjj Zlk Zek Zj6 Zlb Zlc Zld Zle Zip Ziq Zir Zis Zit Ziu Ziv Zf7 prT Zec Z7r Zu5 Z1v Zu6 Z7s Zu7 Z7t Zu8 Z7u Zu9 Z7v Zva Z7w Zvb Z7x Zvc Zza Zqk Zzb Zql Zzc Zqm Zzd Zqn Zze Zqo Zzf Zqp Zzg Zqq Zzh Zqr Zzi Zqs Zzj Zqt Zzk Zqu Zc9 Zda Zzl Zqv Zzm Zqw Zny Zks Zzn Zqx K0 Zqy Zzo Zqz Zzp Zq0 Zzq Znp Jd Zq1 Zzr Zq2 Zzs Zq3 Zzt Zq4 Zzu Zq5 Zzv Zq6 Zzw Zq7 Zzx Zq8 Zzy Zq9 Zzz Zra Zz0 Zrb Zz1 Zrc Zz2 Zrd Zz3 Zre Zz4 Zrf Zz5 Zrg Zz6 Zrh Zz7 Zri Zz8 Zrj Zup Zml Zuq Zmm Zur Zmn Zus Zmo Zut Zmp Zuu Zmq Zuv Zmr Zuw Zms Zux Zmt Zuy Zmu Zuz Zmv Zu0 Zmw Zu1 Zmx Zu2 Zmy Zu3 Zmz J7 Zhg Zhe Zgq Zgy Zhi Zff Zfc Zfa Zhc Zc0 Zcz Zct Zcw Zc1 Zbz Zbx Zbw Zcy Zq Vo Vn Ve Vk Vp K1 Kz Ky Vl Ze0 Zhf Zhd Zgp Zgx Zhh Zfe Zfb Ze9 Zhb Zez Zbi Z7 J0 Jz Jw Jx J3 Jk Jj Ji Jy Z4 Zf Jf Gl Gk Gd Gf Gm Uu Us Ur Gj Q3 Q2 Qz Q0 Q4 Qk Qj Qi Q1 Zak V0 V1
def Zid (Y1:((List Int)→Int→Za→Option (List Int))):Prop:=∀ {a0:(List Int)} {a1:Int} {a2:Za} {r:(List Int)} {O:Objs} {n:Nat} {t0:Nat},t0 < n→O t0=some (oR 45 1 (eI .u64) a0)→Y1 a0 a1 a2=some r→GTo Tryz.prog 22 [.row t0 a0.length,(vI a1),.agg (Ze a2)] O n (.row n r.length) (Zt (O.upd t0 none) n [some (oR 45 1 (eI .u64) r)]) (n+1)
theorem Zsh {Y1:((List Int)→Int→Za→Option (List Int))} (Zd7:Zid Y1) {a0:(List Int)} {a1:Int} {a2:Za} {r:(List Int)} {O:Objs} {n:Nat} {t0:Nat} (ht0:t0 < n) (hot0:O t0=some (oR 45 1 (eI .u64) a0)) (h:Xq Y1 a0 a1 a2=some r):GTo Tryz.prog 22 [.row t0 a0.length,(vI a1),.agg (Ze a2)] O n (.row n r.length) (Zt (O.upd t0 none) n [some (oR 45 1 (eI .u64) r)]) (n+1):=by
 unfold Xq at h
 refine Yj Zo Tryz.call22 Tryz.func22 rfl (Nat.le_of_ble_eq_true rfl) (by omega) fun hU => ?_
 have e0:=Zz9 (ba:=n) (E:=⟨252,[],[(0,.row t0 a0.length),(1,.val (.int .i64 a1)),(2,.agg [.val (.int .i64 a2.Kind),.sl a2.Words.length (fl (eI .u64) a2.Words),.sl a2.Kids.length (fl Zf a2.Kids)])]⟩) (O:=(Zt O n [])) (n:=n) (j:=t0) (len:=a0.length) (q:=⟨true,45,1,a0.length,fl (eI .u64) a0⟩) 0 rfl (by rw [Qg _ ht0];exact hot0) (by omega)
 simp only [Vv _ _ ht0,J4,Qh,List.cons_append,List.nil_append,List.length_cons,List.length_nil,Nat.zero_add,Nat.reduceAdd,Nat.add_assoc] at e0
 refine Za0 e0 ?_
 have hU:=(Und.drop hU t0)
 have hN0:(O.upd t0 none) n=none:=hU.fresh _ (Nat.le_refl _)
 have hN:∀ k,(O.upd t0 none) (n+k)=none:=fun k=>hU.fresh _ (Nat.le_add_right _ _)
 show W _ _ _ _ ⟨252,[],[(0,.row n a0.length),(0,.row t0 a0.length),(1,(vI a1)),(2,.agg (Ze a2))]⟩ (Zt (O.upd t0 none) n [some (oR 45 1 (eI .u64) a0)]) _
 refine zQ [0,1,5] ?_
 refine zQ [0,1,5,7] ?_
 refine Zd ?_
 refine zQ [0,1,5,7,21] ?_
 refine Yh ?_
 refine zQ [0,1,5,7,21,22] ?_
 refine Zj (t:=(a2.Kind == 0)) rfl (fun c77 => ?_) (fun c77 => ?_)
 ·replace h:=Zn c77 h
  refine zQ [6] ?_
  refine zW ?_
  have h:=Option.some.inj h;subst h
  refine Zjk (k:=1) (L3:=[some (oR 45 1 (eI .u64) a0),none]) (E2:=(⟨252,[],[(6,.row n a0.length)]⟩:Env)) (n3:=(n+2)) (.inr rfl) hU rfl [.row n a0.length] ?_ ?_
  ·refine Fit2.trans (E':=(⟨252,[],[(6,.row n a0.length)]⟩:Env)) (O':=(Zt (O.upd t0 none) n [some (oR 45 1 (eI .u64) a0),none])) (n':=(n+2)) (Fit2.of (Z8 hU rfl rfl ?_) (by omega)) ?_
   ·exact zSe
   refine Jt (k:=2) (k':=2) hU [0,1] [0,0] rfl rfl rfl rfl ⟨rfl,rfl⟩ ?_
   exact zSe
  simp only [push_cast,seval,↓reduceIte,Zb,Tryz.results22,hN0,hN]
 replace h:=Zm c77 h
 refine zQ [0,1,5,7,21,25] ?_
 refine Zj (t:=(a2.Kind == 1)) rfl (fun c76 => ?_) (fun c76 => ?_)
 ·replace h:=Zn c76 h
  obtain ⟨z1,hz1,h⟩:=bC h
  refine Y8 (E':=⟨252,[],[(0,.row n a0.length),(1,(vI a1)),(5,.ref (n+1) 0),(7,(vI z1))]⟩) (O':=(Zt (O.upd t0 none) n [some (oR 45 1 (eI .u64) a0),some ⟨false,28,3,1,(Ze a2)⟩])) (n0:=(n+2)) ?_ ?_
  ·refine zQ [0,1,5,7,34] ?_
   refine Zj (t:=((IntKind.i64.wrap ((a2.Words.length:Int)+(a2.Kids.length:Int))) == 0)) rfl (fun c2 => ?_) (fun c2 => ?_)
   ·replace hz1:=Zn c2 hz1
    refine zR ?_
    exact zEn hz1
   replace hz1:=Zm c2 hz1
   refine zK ?_
   exact zEn hz1
  refine Zd ?_
  obtain ⟨y6,hy6,h⟩:=bC h
  obtain ⟨x7,hx7,ax7,bx7,cx7,h⟩:=bE (f:=(eI .u64)) Jd (fun _=>rfl) (by decide) h
  have gu8:Vs (fl (eI .u64) a0) [.val (.int .u64 y6)] (Int.toNat a1 * 1)=some (fl (eI .u64) (Kc a0 a1 y6)):=Zcs (f:=(eI .u64)) (ti:=⟨.bool,1,0,[],false⟩) (x:=y6) (fun _=>rfl) (Zat hx7)
  refine Zo4 [] ax7 bx7 cx7 gu8 ?_
  refine (Zag hy6).then ?_
  refine zF4 ax7 bx7 cx7 gu8 ?_
  refine zDs [0,5,7] [true,true] ?_
  obtain ⟨l10,pl10,ql10,el10,h⟩:=bA (k:=a2.Words.length) rfl h
  simp only [Ke,Zdv] at pl10 ql10
  refine Zku [] pl10 ql10 el10 ?_
  refine Zah ⟨252,[],[(0,.row n l10.length),(5,.ref (n+1) 0),(7,(vI z1))]⟩ (Zt (O.upd t0 none) n [some (oR 45 1 (eI .u64) l10),some ⟨false,28,3,1,(Ze a2)⟩]) (Z8 hU rfl rfl ?_) ?_
  ·exact Zv9 pl10 ql10 el10
  refine Zd ?_
  obtain ⟨y12,hy12,h⟩:=bC h
  refine zR ?_
  refine (Zf0 (t0:=n) (by omega) (by simp only [push_cast,seval,↓reduceIte,Zb,Q8,hN0,hN] <;> rfl) hy12).then ?_
  refine zS ?_
  refine zDs [0,5,7] [false,true,true] ?_
  refine zQd [0,5,7,8] [0,5,7,8] [false,true,true] ?_
  refine Za0 (E':=(⟨252,[],[(0,.row (n+3) y12.length),(5,.ref (n+1) 0),(7,(vI z1)),(8,(vI 0))]⟩:Env)) (O':=(Zt (O.upd t0 none) n [none,some ⟨false,28,3,1,(Ze a2)⟩,none,some (oR 45 1 (eI .u64) y12),none])) (n':=(n+5)) ?_ ?_
  ·refine Fit2.trans (E':=(⟨252,[],[(0,.row (n+2) y12.length),(5,.ref (n+1) 0),(7,(vI z1)),(8,(vI 0))]⟩:Env)) (O':=(Zt (O.upd t0 none) n [none,some ⟨false,28,3,1,(Ze a2)⟩,some (oR 45 1 (eI .u64) y12)])) (n':=(n+3)) (Fit2.of (Z8 hU rfl rfl ?_) (by omega)) ?_
   ·exact zSe
   refine Jt (k:=3) (k':=5) hU [4,1,3] [0,1,0,2,0] rfl rfl rfl rfl ⟨rfl,rfl⟩ ?_
   exact zSe
  obtain ⟨z16,hz16,h⟩:=bC h
  refine Yv (E':=⟨252,[],[(0,.row (n+3) z16.length)]⟩) (O':=(Zt (O.upd t0 none) n [none,none,none,some (oR 45 1 (eI .u64) z16),none])) (n0:=(n+5)) ?_ ?_
  ·refine Y2 hz16 (fun s0_=>⟨252,[],[(0,.row (n+3) s0_.2.length),(5,.ref (n+1) 0),(7,(vI z1)),(8,(vI s0_.1))]⟩) (fun s0_=>(Zt (O.upd t0 none) n [none,some ⟨false,28,3,1,(Ze a2)⟩,none,some (oR 45 1 (eI .u64) s0_.2),none])) (fun z16=>JX 1 n (⟨252,[],[(0,.row (n+3) z16.length)]⟩:Env) (Zt (O.upd t0 none) n [none,none,none,some (oR 45 1 (eI .u64) z16),none]) (n+5)) ?_
   intro s0_ x0_ hs0_
   unfold Uy at hs0_
   try dsimp only
   refine Zd ?_
   refine zQ [0,5,7,8,65] ?_
   refine Zj (t:=(decide (s0_.1 < (a2.Kids.length:Int)))) rfl (fun c15 => ?_) (fun c15 => ?_)
   ·replace hs0_:=Zn c15 hs0_
    refine Xs [0,5,7,8] [false,true,false,true,false] ?_
    refine Zd ?_
    refine Yh ?_
    obtain ⟨x13,hx13,ax13,bx13,cx13,hs0_⟩:=bE (f:=Zf) K0 (fun _=>rfl) (by decide) hs0_
    obtain ⟨y14,hy14,hs0_⟩:=bC hs0_
    refine Zc4 Zo (by kernel_rfl) [false,false,false,false,false,false,false,false,false,false,false,false,false,true,false] [] (by kernel_rfl) ?_
    refine zF3 ax13 bx13 cx13 ?_
    refine (Zd7 (t0:=(n+3)) (by omega) (by simp only [push_cast,Nat.reduceAdd,Nat.reduceSub,Nat.reduceMul,Nat.reduceLeDiff,Nat.reduceLT,Nat.reduceEqDiff,↓reduceIte,reduceCtorEq,Int.reduceBEq,Int.reduceBNe,Nat.reduceBEq,Int.reduceLE,Int.reduceLT,Int.reduceEq,Int.reduceNe,Int.reduceNeg,Nat.reduceDiv,Nat.reduceMod,Nat.reducePow,Zb,Q8,ax13,bx13,cx13,hN0,hN] <;> rfl) hy14).then ?_
    refine zF3 ax13 bx13 cx13 ?_
    refine zD [0,5,7,8] [false,true,false,false,false,true] ?_
    refine zR ?_
    have hs0_:=Option.some.inj hs0_;subst hs0_
    refine And.intro rfl ?_
    refine Fit2.trans (E':=(⟨252,[],[(0,.row (n+5) y14.length),(5,.ref (n+1) 0),(7,(vI z1)),(8,(vI (IntKind.i64.wrap (s0_.1+1))))]⟩:Env)) (O':=(Zt (O.upd t0 none) n [none,some ⟨false,28,3,1,(Ze a2)⟩,none,none,none,some (oR 45 1 (eI .u64) y14)])) (n':=(n+6)) (Fit2.of (Z8 hU rfl rfl ?_) (by omega)) ?_
    ·exact zSe
    refine Jt (k:=6) (k':=5) hU [4,1,4,4,4,3] [0,1,0,5,0] rfl rfl rfl rfl ⟨rfl,rfl⟩ ?_
    exact zSe
   replace hs0_:=Zm c15 hs0_
   exact zEx hs0_
  try simp only [Y0,Ym,↓reduceIte,Nat.reduceEqDiff]
  refine zD [0] [false,false,false,true,false] ?_
  refine zQ [6] ?_
  refine zW ?_
  have h:=Option.some.inj h;subst h
  refine Zjk (k:=1) (L3:=[some (oR 45 1 (eI .u64) z16),none]) (E2:=(⟨252,[],[(6,.row n z16.length)]⟩:Env)) (n3:=(n+2)) (.inr rfl) hU rfl [.row n z16.length] ?_ ?_
  ·refine Fit2.trans (E':=(⟨252,[],[(6,.row (n+3) z16.length)]⟩:Env)) (O':=(Zt (O.upd t0 none) n [none,none,none,some (oR 45 1 (eI .u64) z16),none])) (n':=(n+5)) (Fit2.of (Z8 hU rfl rfl ?_) (by omega)) ?_
   ·exact zSe
   refine Jt (k:=5) (k':=2) hU [1,1,1,0,1] [3,0] rfl rfl rfl rfl ⟨rfl,rfl⟩ ?_
   exact zSe
  simp only [push_cast,seval,↓reduceIte,Zb,Tryz.results22,hN0,hN]
 replace h:=Zm c76 h
 refine zQ [0,1,5,7,21,83] ?_
 refine Zj (t:=(a2.Kind == 8)) rfl (fun c75 => ?_) (fun c75 => ?_)
 ·replace h:=Zn c75 h
  refine Zd ?_
  obtain ⟨y20,hy20,h⟩:=bC h
  obtain ⟨x21,hx21,ax21,bx21,cx21,h⟩:=bE (f:=(eI .u64)) Jd (fun _=>rfl) (by decide) h
  have gu22:Vs (fl (eI .u64) a0) [.val (.int .u64 y20)] (Int.toNat a1 * 1)=some (fl (eI .u64) (Kc a0 a1 y20)):=Zcs (f:=(eI .u64)) (ti:=⟨.bool,1,0,[],false⟩) (x:=y20) (fun _=>rfl) (Zat hx21)
  refine Zo4 [] ax21 bx21 cx21 gu22 ?_
  refine (Zag hy20).then ?_
  refine zF4 ax21 bx21 cx21 gu22 ?_
  refine zDs [0,5,7] [true,true] ?_
  obtain ⟨y24,hy24,h⟩:=bC h
  refine zR ?_
  refine GCalls.argsW ?_ ((Zf0 (t0:=n) (by omega) (by simp only [push_cast,seval,↓reduceIte,Zb,Q8,hN0,hN] <;> rfl) hy24).then ?_)
  ·exact zSe
  refine zS ?_
  refine zDs [0,5,7] [false,true,true] ?_
  refine zQd [0,5,7,9] [0,5,7,9] [false,true,true] ?_
  refine Za0 (E':=(⟨252,[],[(0,.row (n+3) y24.length),(5,.ref (n+1) 0),(7,(vI (a0.length:Int))),(9,(vI 0))]⟩:Env)) (O':=(Zt (O.upd t0 none) n [none,some ⟨false,28,3,1,(Ze a2)⟩,none,some (oR 45 1 (eI .u64) y24),none])) (n':=(n+5)) ?_ ?_
  ·refine Fit2.trans (E':=(⟨252,[],[(0,.row (n+2) y24.length),(5,.ref (n+1) 0),(7,(vI (a0.length:Int))),(9,(vI 0))]⟩:Env)) (O':=(Zt (O.upd t0 none) n [none,some ⟨false,28,3,1,(Ze a2)⟩,some (oR 45 1 (eI .u64) y24)])) (n':=(n+3)) (Fit2.of (Z8 hU rfl rfl ?_) (by omega)) ?_
   ·exact zSe
   refine Jt (k:=3) (k':=5) hU [4,1,3] [0,1,0,2,0] rfl rfl rfl rfl ⟨rfl,rfl⟩ ?_
   exact zSe
  obtain ⟨z28,hz28,h⟩:=bC h
  refine Yv (E':=⟨252,[],[(0,.row (n+3) z28.length)]⟩) (O':=(Zt (O.upd t0 none) n [none,none,none,some (oR 45 1 (eI .u64) z28),none])) (n0:=(n+5)) ?_ ?_
  ·refine Y2 hz28 (fun s1_=>⟨252,[],[(0,.row (n+3) s1_.2.length),(5,.ref (n+1) 0),(7,(vI (a0.length:Int))),(9,(vI s1_.1))]⟩) (fun s1_=>(Zt (O.upd t0 none) n [none,some ⟨false,28,3,1,(Ze a2)⟩,none,some (oR 45 1 (eI .u64) s1_.2),none])) (fun z28=>JX 3 n (⟨252,[],[(0,.row (n+3) z28.length)]⟩:Env) (Zt (O.upd t0 none) n [none,none,none,some (oR 45 1 (eI .u64) z28),none]) (n+5)) ?_
   intro s1_ x1_ hs1_
   unfold Uz at hs1_
   try dsimp only
   refine Zd ?_
   refine zQ [0,5,7,9,106] ?_
   refine Zj (t:=(decide (s1_.1 < (a2.Kids.length:Int)))) rfl (fun c27 => ?_) (fun c27 => ?_)
   ·replace hs1_:=Zn c27 hs1_
    refine Xs [0,5,7,9] [false,true,false,true,false] ?_
    refine Zd ?_
    refine Yh ?_
    obtain ⟨x25,hx25,ax25,bx25,cx25,hs1_⟩:=bE (f:=Zf) K0 (fun _=>rfl) (by decide) hs1_
    obtain ⟨y26,hy26,hs1_⟩:=bC hs1_
    refine Zn1 [] ax25 bx25 cx25 ?_
    refine (Zd7 (t0:=(n+3)) (by omega) (by simp only [push_cast,Nat.reduceAdd,Nat.reduceSub,Nat.reduceMul,Nat.reduceLeDiff,Nat.reduceLT,Nat.reduceEqDiff,↓reduceIte,reduceCtorEq,Int.reduceBEq,Int.reduceBNe,Nat.reduceBEq,Int.reduceLE,Int.reduceLT,Int.reduceEq,Int.reduceNe,Int.reduceNeg,Nat.reduceDiv,Nat.reduceMod,Nat.reducePow,Zb,Q8,ax25,bx25,cx25,hN0,hN] <;> rfl) hy26).then ?_
    refine zF3 ax25 bx25 cx25 ?_
    refine zD [0,5,7,9] [false,true,false,false,false,true] ?_
    refine zR ?_
    have hs1_:=Option.some.inj hs1_;subst hs1_
    refine And.intro rfl ?_
    refine Fit2.trans (E':=(⟨252,[],[(0,.row (n+5) y26.length),(5,.ref (n+1) 0),(7,(vI (a0.length:Int))),(9,(vI (IntKind.i64.wrap (s1_.1+1))))]⟩:Env)) (O':=(Zt (O.upd t0 none) n [none,some ⟨false,28,3,1,(Ze a2)⟩,none,none,none,some (oR 45 1 (eI .u64) y26)])) (n':=(n+6)) (Fit2.of (Z8 hU rfl rfl ?_) (by omega)) ?_
    ·exact zSe
    refine Jt (k:=6) (k':=5) hU [4,1,4,4,4,3] [0,1,0,5,0] rfl rfl rfl rfl ⟨rfl,rfl⟩ ?_
    exact zSe
   replace hs1_:=Zm c27 hs1_
   exact zEx hs1_
  try simp only [Y0,Ym,↓reduceIte,Nat.reduceEqDiff]
  refine zD [0] [false,false,false,true,false] ?_
  refine zQ [6] ?_
  refine zW ?_
  have h:=Option.some.inj h;subst h
  refine Zjk (k:=1) (L3:=[some (oR 45 1 (eI .u64) z28),none]) (E2:=(⟨252,[],[(6,.row n z28.length)]⟩:Env)) (n3:=(n+2)) (.inr rfl) hU rfl [.row n z28.length] ?_ ?_
  ·refine Fit2.trans (E':=(⟨252,[],[(6,.row (n+3) z28.length)]⟩:Env)) (O':=(Zt (O.upd t0 none) n [none,none,none,some (oR 45 1 (eI .u64) z28),none])) (n':=(n+5)) (Fit2.of (Z8 hU rfl rfl ?_) (by omega)) ?_
   ·exact zSe
   refine Jt (k:=5) (k':=2) hU [1,1,1,0,1] [3,0] rfl rfl rfl rfl ⟨rfl,rfl⟩ ?_
   exact zSe
  simp only [push_cast,seval,↓reduceIte,Zb,Tryz.results22,hN0,hN]
 replace h:=Zm c75 h
 refine zQ [0,1,5,7,120] ?_
 refine Zj (t:=(a2.Kind == 9)) rfl (fun c74 => ?_) (fun c74 => ?_)
 ·replace h:=Zn c74 h
  refine Zd ?_
  obtain ⟨y30,hy30,h⟩:=bC h
  refine zCd (Zig hy30) [0,1,5,7,10,11] [true,true] ?_
  refine zQ [0,1,5,7,10,11,12] ?_
  refine Zd ?_
  obtain ⟨y34,hy34,h⟩:=bC h
  obtain ⟨x35,hx35,ax35,bx35,cx35,h⟩:=bE (f:=(eI .u64)) Jd (fun _=>rfl) (by decide) h
  have gu36:Vs (fl (eI .u64) a0) [.val (.int .u64 y34)] (Int.toNat a1 * 1)=some (fl (eI .u64) (Kc a0 a1 y34)):=Zcs (f:=(eI .u64)) (ti:=⟨.bool,1,0,[],false⟩) (x:=y34) (fun _=>rfl) (Zat hx35)
  refine Zo4 [] ax35 bx35 cx35 gu36 ?_
  refine (Zag hy34).then ?_
  refine zF4 ax35 bx35 cx35 gu36 ?_
  refine zDs [0,5,7,10,11,12] [true,true] ?_
  obtain ⟨l38,pl38,ql38,el38,h⟩:=bA (k:=1) rfl h
  simp only [Ke,Zdv] at pl38 ql38
  refine Zku [] pl38 ql38 el38 ?_
  refine Zah ⟨252,[],[(0,.row n l38.length),(5,.ref (n+1) 0),(7,(vI (a0.length:Int))),(10,(vI y30.1)),(11,(vI y30.2)),(12,(vI (a2.Kids.length:Int)))]⟩ (Zt (O.upd t0 none) n [some (oR 45 1 (eI .u64) l38),some ⟨false,28,3,1,(Ze a2)⟩,none]) (Z8 hU rfl rfl ?_) ?_
  ·exact Zv9 pl38 ql38 el38
  refine Zd ?_
  refine zQd [0,5,7,10,11,12,13] [0,5,7,10,11,12,13] [true,true,false] ?_
  refine Za0 (E':=(⟨252,[],[(0,.row (n+3) l38.length),(5,.ref (n+1) 0),(7,(vI (a0.length:Int))),(10,(vI y30.1)),(11,(vI y30.2)),(12,(vI (a2.Kids.length:Int))),(13,(vI 0))]⟩:Env)) (O':=(Zt (O.upd t0 none) n [none,some ⟨false,28,3,1,(Ze a2)⟩,none,some (oR 45 1 (eI .u64) l38),none])) (n':=(n+5)) ?_ ?_
  ·refine Fit2.trans (E':=(⟨252,[],[(0,.row n l38.length),(5,.ref (n+1) 0),(7,(vI (a0.length:Int))),(10,(vI y30.1)),(11,(vI y30.2)),(12,(vI (a2.Kids.length:Int))),(13,(vI 0))]⟩:Env)) (O':=(Zt (O.upd t0 none) n [some (oR 45 1 (eI .u64) l38),some ⟨false,28,3,1,(Ze a2)⟩,none])) (n':=(n+3)) (Fit2.of (Z8 hU rfl rfl ?_) (by omega)) ?_
   ·exact zSe
   refine Jt (k:=3) (k':=5) hU [3,1,4] [0,1,0,0,0] rfl rfl rfl rfl ⟨rfl,rfl⟩ ?_
   exact zSe
  obtain ⟨z49,hz49,h⟩:=bC h
  refine Yv (E':=⟨252,[],[(0,.row (n+3) z49.length),(5,.ref (n+1) 0),(7,(vI (a0.length:Int))),(10,(vI y30.1)),(11,(vI y30.2)),(12,(vI (a2.Kids.length:Int)))]⟩) (O':=(Zt (O.upd t0 none) n [none,some ⟨false,28,3,1,(Ze a2)⟩,none,some (oR 45 1 (eI .u64) z49),none])) (n0:=(n+5)) ?_ ?_
  ·refine Y2 hz49 (fun s2_=>⟨252,[],[(0,.row (n+3) s2_.2.length),(5,.ref (n+1) 0),(7,(vI (a0.length:Int))),(10,(vI y30.1)),(11,(vI y30.2)),(12,(vI (a2.Kids.length:Int))),(13,(vI s2_.1))]⟩) (fun s2_=>(Zt (O.upd t0 none) n [none,some ⟨false,28,3,1,(Ze a2)⟩,none,some (oR 45 1 (eI .u64) s2_.2),none])) (fun z49=>JX 5 n (⟨252,[],[(0,.row (n+3) z49.length),(5,.ref (n+1) 0),(7,(vI (a0.length:Int))),(10,(vI y30.1)),(11,(vI y30.2)),(12,(vI (a2.Kids.length:Int)))]⟩:Env) (Zt (O.upd t0 none) n [none,some ⟨false,28,3,1,(Ze a2)⟩,none,some (oR 45 1 (eI .u64) z49),none]) (n+5)) ?_
   intro s2_ x2_ hs2_
   unfold U0 at hs2_
   try dsimp only
   refine Zd ?_
   refine zQ [0,5,7,10,11,12,13,160] ?_
   refine Zj (t:=(decide (s2_.1 < (a2.Kids.length:Int)))) rfl (fun c48 => ?_) (fun c48 => ?_)
   ·replace hs2_:=Zn c48 hs2_
    refine Xs [0,5,7,10,11,12,13] [false,true,false,true,false] ?_
    refine Zd ?_
    refine Yh ?_
    refine Zd ?_
    obtain ⟨x42,hx42,ax42,bx42,cx42,hs2_⟩:=bE (f:=Zf) K0 (fun _=>rfl) (by decide) hs2_
    have g43:=Zal (f:=Zf) (off:=1) (sz:=3) Zc9 (fun _=>rfl) (by decide) (by decide) hx42
    obtain ⟨l44,pl44,ql44,el44,hs2_⟩:=bA (k:=x42.Words.length) rfl hs2_
    refine Yah [] ax42 bx42 cx42 g43 pl44 ql44 el44 ?_
    refine Zah ⟨252,[],[(0,.row (n+3) l44.length),(5,.ref (n+1) 0),(7,(vI (a0.length:Int))),(10,(vI y30.1)),(11,(vI y30.2)),(12,(vI (a2.Kids.length:Int))),(13,(vI s2_.1))]⟩ (Zt (O.upd t0 none) n [none,some ⟨false,28,3,1,(Ze a2)⟩,none,some (oR 45 1 (eI .u64) l44),none]) (Z8 hU rfl rfl ?_) ?_
    ·exact Yfc ax42 bx42 cx42 g43 pl44 ql44 el44
    obtain ⟨x45,hx45,ax45,bx45,cx45,hs2_⟩:=bE (f:=Zf) K0 (fun _=>rfl) (by decide) hs2_
    have g46:=Zal (f:=Zf) (off:=1) (sz:=3) Zc9 (fun _=>rfl) (by decide) (by decide) hx45
    obtain ⟨y47,hy47,hs2_⟩:=bC hs2_
    refine Zo4 [] ax45 bx45 cx45 g46 ?_
    refine (Zf0 (t0:=(n+3)) (by omega) (by simp only [push_cast,Nat.reduceAdd,Nat.reduceSub,Nat.reduceMul,Nat.reduceLeDiff,Nat.reduceLT,Nat.reduceEqDiff,↓reduceIte,reduceCtorEq,Int.reduceBEq,Int.reduceBNe,Nat.reduceBEq,Int.reduceLE,Int.reduceLT,Int.reduceEq,Int.reduceNe,Int.reduceNeg,Nat.reduceDiv,Nat.reduceMod,Nat.reducePow,Zb,Q8,ax45,bx45,cx45,g46,hN0,hN] <;> rfl) hy47).then ?_
    refine zF4 ax45 bx45 cx45 g46 ?_
    refine zD [0,5,7,10,11,12,13] [false,true,false,false,false,true] ?_
    refine zR ?_
    have hs2_:=Option.some.inj hs2_;subst hs2_
    refine And.intro rfl ?_
    refine Fit2.trans (E':=(⟨252,[],[(0,.row (n+5) y47.length),(5,.ref (n+1) 0),(7,(vI (a0.length:Int))),(10,(vI y30.1)),(11,(vI y30.2)),(12,(vI (a2.Kids.length:Int))),(13,(vI (IntKind.i64.wrap (s2_.1+1))))]⟩:Env)) (O':=(Zt (O.upd t0 none) n [none,some ⟨false,28,3,1,(Ze a2)⟩,none,none,none,some (oR 45 1 (eI .u64) y47)])) (n':=(n+6)) (Fit2.of (Z8 hU rfl rfl ?_) (by omega)) ?_
    ·exact zSe
    refine Jt (k:=6) (k':=5) hU [4,1,4,4,4,3] [0,1,0,5,0] rfl rfl rfl rfl ⟨rfl,rfl⟩ ?_
    exact zSe
   replace hs2_:=Zm c48 hs2_
   exact zEx hs2_
  try simp only [Y0,Ym,↓reduceIte,Nat.reduceEqDiff]
  refine zDs [0,5,7,10,11,12] [false,true,false,true,false] ?_
  refine zQd [0,5,7,10,11,12,14] [0,5,7,10,11,12,14] [false,true,false,true,false] ?_
  refine Za0 (E':=(⟨252,[],[(0,.row (n+5) z49.length),(5,.ref (n+1) 0),(7,(vI (a0.length:Int))),(10,(vI y30.1)),(11,(vI y30.2)),(12,(vI (a2.Kids.length:Int))),(14,(vI 0))]⟩:Env)) (O':=(Zt (O.upd t0 none) n [none,some ⟨false,28,3,1,(Ze a2)⟩,none,none,none,some (oR 45 1 (eI .u64) z49),none])) (n':=(n+7)) ?_ ?_
  ·refine Fit2.trans (E':=(⟨252,[],[(0,.row (n+3) z49.length),(5,.ref (n+1) 0),(7,(vI (a0.length:Int))),(10,(vI y30.1)),(11,(vI y30.2)),(12,(vI (a2.Kids.length:Int))),(14,(vI 0))]⟩:Env)) (O':=(Zt (O.upd t0 none) n [none,some ⟨false,28,3,1,(Ze a2)⟩,none,some (oR 45 1 (eI .u64) z49),none])) (n':=(n+5)) (Fit2.of (Z8 hU rfl rfl ?_) (by omega)) ?_
   ·exact zSe
   refine Jt (k:=5) (k':=7) hU [6,1,6,5,6] [0,1,0,0,0,3,0] rfl rfl rfl rfl ⟨rfl,rfl⟩ ?_
   exact zSe
  obtain ⟨z61,hz61,h⟩:=bC h
  refine Yv (E':=⟨252,[],[(0,.row (n+5) z61.length)]⟩) (O':=(Zt (O.upd t0 none) n [none,none,none,none,none,some (oR 45 1 (eI .u64) z61),none])) (n0:=(n+7)) ?_ ?_
  ·refine Y2 hz61 (fun s3_=>⟨252,[],[(0,.row (n+5) s3_.2.length),(5,.ref (n+1) 0),(7,(vI (a0.length:Int))),(10,(vI y30.1)),(11,(vI y30.2)),(12,(vI (a2.Kids.length:Int))),(14,(vI s3_.1))]⟩) (fun s3_=>(Zt (O.upd t0 none) n [none,some ⟨false,28,3,1,(Ze a2)⟩,none,none,none,some (oR 45 1 (eI .u64) s3_.2),none])) (fun z61=>JX 7 n (⟨252,[],[(0,.row (n+5) z61.length)]⟩:Env) (Zt (O.upd t0 none) n [none,none,none,none,none,some (oR 45 1 (eI .u64) z61),none]) (n+7)) ?_
   intro s3_ x3_ hs3_
   unfold U1 at hs3_
   try dsimp only
   refine Zd ?_
   refine zQ [0,5,7,10,11,12,14,186] ?_
   refine Zj (t:=(decide (s3_.1 < (a2.Kids.length:Int)))) rfl (fun c60 => ?_) (fun c60 => ?_)
   ·replace hs3_:=Zn c60 hs3_
    refine Xs [0,5,7,10,11,12,14] [false,true,false,false,false,true,false] ?_
    refine Zd ?_
    refine Yh ?_
    refine zQd [0,5,7,10,11,12,14,15] [0,5,7,10,11,12,14,15] [false,true,false,false,false,true,false] ?_
    refine Za0 (E':=(⟨252,[],[(0,.row (n+7) s3_.2.length),(5,.ref (n+1) 0),(7,(vI (a0.length:Int))),(10,(vI y30.1)),(11,(vI y30.2)),(12,(vI (a2.Kids.length:Int))),(14,(vI s3_.1)),(15,(vI 0))]⟩:Env)) (O':=(Zt (O.upd t0 none) n [none,some ⟨false,28,3,1,(Ze a2)⟩,none,none,none,none,none,some (oR 45 1 (eI .u64) s3_.2),none])) (n':=(n+9)) ?_ ?_
    ·refine Fit2.trans (E':=(⟨252,[],[(0,.row (n+5) s3_.2.length),(5,.ref (n+1) 0),(7,(vI (a0.length:Int))),(10,(vI y30.1)),(11,(vI y30.2)),(12,(vI (a2.Kids.length:Int))),(14,(vI s3_.1)),(15,(vI 0))]⟩:Env)) (O':=(Zt (O.upd t0 none) n [none,some ⟨false,28,3,1,(Ze a2)⟩,none,none,none,some (oR 45 1 (eI .u64) s3_.2),none])) (n':=(n+7)) (Fit2.of (Z8 hU rfl rfl ?_) (by omega)) ?_
     ·exact zSe
     refine Jt (k:=7) (k':=9) hU [8,1,8,8,8,7,8] [0,1,0,0,0,0,0,5,0] rfl rfl rfl rfl ⟨rfl,rfl⟩ ?_
     exact zSe
    obtain ⟨z59,hz59,hs3_⟩:=bC hs3_
    refine Yv (E':=⟨252,[],[(0,.row (n+7) z59.length),(5,.ref (n+1) 0),(7,(vI (a0.length:Int))),(10,(vI y30.1)),(11,(vI y30.2)),(12,(vI (a2.Kids.length:Int))),(14,(vI s3_.1))]⟩) (O':=(Zt (O.upd t0 none) n [none,some ⟨false,28,3,1,(Ze a2)⟩,none,none,none,none,none,some (oR 45 1 (eI .u64) z59),none])) (n0:=(n+9)) ?_ ?_
    ·refine Y2 hz59 (fun s4_=>⟨252,[],[(0,.row (n+7) s4_.2.length),(5,.ref (n+1) 0),(7,(vI (a0.length:Int))),(10,(vI y30.1)),(11,(vI y30.2)),(12,(vI (a2.Kids.length:Int))),(14,(vI s3_.1)),(15,(vI s4_.1))]⟩) (fun s4_=>(Zt (O.upd t0 none) n [none,some ⟨false,28,3,1,(Ze a2)⟩,none,none,none,none,none,some (oR 45 1 (eI .u64) s4_.2),none])) (fun z59=>JX 9 n (⟨252,[],[(0,.row (n+7) z59.length),(5,.ref (n+1) 0),(7,(vI (a0.length:Int))),(10,(vI y30.1)),(11,(vI y30.2)),(12,(vI (a2.Kids.length:Int))),(14,(vI s3_.1))]⟩:Env) (Zt (O.upd t0 none) n [none,some ⟨false,28,3,1,(Ze a2)⟩,none,none,none,none,none,some (oR 45 1 (eI .u64) z59),none]) (n+9)) ?_
     intro s4_ x4_ hs4_
     unfold U2 at hs4_
     try dsimp only
     refine Zd ?_
     obtain ⟨x52,hx52,ax52,bx52,cx52,hs4_⟩:=bE (f:=Zf) K0 (fun _=>rfl) (by decide) hs4_
     have g53:=Zal (f:=Zf) (off:=2) (sz:=3) Zny (fun _=>rfl) (by decide) (by decide) hx52
     refine Zb4 [0,5,7,10,11,12,14,15,197] (Z5 Zo [] ?_)
     refine zF4 ax52 bx52 cx52 g53 ?_
     refine Zj (t:=(decide (s4_.1 < (x52.Kids.length:Int)))) rfl (fun c58 => ?_) (fun c58 => ?_)
     ·replace hs4_:=Zn c58 hs4_
      refine Xs [0,5,7,10,11,12,14,15] [false,true,false,false,false,false,false,true,false] ?_
      refine Zd ?_
      refine Yh ?_
      obtain ⟨x54,hx54,ax54,bx54,cx54,hs4_⟩:=bE (f:=Zf) K0 (fun _=>rfl) (by decide) hs4_
      have g55:=Zal (f:=Zf) (off:=2) (sz:=3) Zny (fun _=>rfl) (by decide) (by decide) hx54
      obtain ⟨x56,hx56,ax56,bx56,cx56,hs4_⟩:=bE (f:=Zf) K0 (fun _=>rfl) (by decide) hs4_
      obtain ⟨y57,hy57,hs4_⟩:=bC hs4_
      refine Yah [] ax54 bx54 cx54 g55 ax56 bx56 cx56 ?_
      refine (Zd7 (t0:=(n+7)) (by omega) (by simp only [push_cast,Nat.reduceAdd,Nat.reduceSub,Nat.reduceMul,Nat.reduceLeDiff,Nat.reduceLT,Nat.reduceEqDiff,↓reduceIte,reduceCtorEq,Int.reduceBEq,Int.reduceBNe,Nat.reduceBEq,Int.reduceLE,Int.reduceLT,Int.reduceEq,Int.reduceNe,Int.reduceNeg,Nat.reduceDiv,Nat.reduceMod,Nat.reducePow,Zb,Q8,ax54,bx54,cx54,g55,ax56,bx56,cx56,hN0,hN] <;> rfl) hy57).then ?_
      refine zF7 ax54 bx54 cx54 g55 ax56 bx56 cx56 ?_
      refine zD [0,5,7,10,11,12,14,15] [false,true,false,false,false,false,false,false,false,true] ?_
      refine zR ?_
      have hs4_:=Option.some.inj hs4_;subst hs4_
      refine And.intro rfl ?_
      refine Fit2.trans (E':=(⟨252,[],[(0,.row (n+9) y57.length),(5,.ref (n+1) 0),(7,(vI (a0.length:Int))),(10,(vI y30.1)),(11,(vI y30.2)),(12,(vI (a2.Kids.length:Int))),(14,(vI s3_.1)),(15,(vI (IntKind.i64.wrap (s4_.1+1))))]⟩:Env)) (O':=(Zt (O.upd t0 none) n [none,some ⟨false,28,3,1,(Ze a2)⟩,none,none,none,none,none,none,none,some (oR 45 1 (eI .u64) y57)])) (n':=(n+10)) (Fit2.of (Z8 hU rfl rfl ?_) (by omega)) ?_
      ·exact zSe
      refine Jt (k:=10) (k':=9) hU [8,1,8,8,8,8,8,8,8,7] [0,1,0,0,0,0,0,9,0] rfl rfl rfl rfl ⟨rfl,rfl⟩ ?_
      exact zSe
     replace hs4_:=Zm c58 hs4_
     exact zEx hs4_
    try simp only [Y0,Ym,↓reduceIte,Nat.reduceEqDiff]
    refine zD [0,5,7,10,11,12,14] [false,true,false,false,false,false,false,true,false] ?_
    refine zR ?_
    have hs3_:=Option.some.inj hs3_;subst hs3_
    refine And.intro rfl ?_
    refine Fit2.trans (E':=(⟨252,[],[(0,.row (n+7) z59.length),(5,.ref (n+1) 0),(7,(vI (a0.length:Int))),(10,(vI y30.1)),(11,(vI y30.2)),(12,(vI (a2.Kids.length:Int))),(14,(vI (IntKind.i64.wrap (s3_.1+1))))]⟩:Env)) (O':=(Zt (O.upd t0 none) n [none,some ⟨false,28,3,1,(Ze a2)⟩,none,none,none,none,none,some (oR 45 1 (eI .u64) z59),none])) (n':=(n+9)) (Fit2.of (Z8 hU rfl rfl ?_) (by omega)) ?_
    ·exact zSe
    refine Jt (k:=9) (k':=7) hU [6,1,6,6,6,6,6,5,6] [0,1,0,0,0,7,0] rfl rfl rfl rfl ⟨rfl,rfl⟩ ?_
    exact zSe
   replace hs3_:=Zm c60 hs3_
   exact zEx hs3_
  try simp only [Y0,Ym,↓reduceIte,Nat.reduceEqDiff]
  refine zD [0] [false,false,false,false,false,true,false] ?_
  refine zQ [6] ?_
  refine zW ?_
  have h:=Option.some.inj h;subst h
  refine Zjk (k:=1) (L3:=[some (oR 45 1 (eI .u64) z61),none]) (E2:=(⟨252,[],[(6,.row n z61.length)]⟩:Env)) (n3:=(n+2)) (.inr rfl) hU rfl [.row n z61.length] ?_ ?_
  ·refine Fit2.trans (E':=(⟨252,[],[(6,.row (n+5) z61.length)]⟩:Env)) (O':=(Zt (O.upd t0 none) n [none,none,none,none,none,some (oR 45 1 (eI .u64) z61),none])) (n':=(n+7)) (Fit2.of (Z8 hU rfl rfl ?_) (by omega)) ?_
   ·exact zSe
   refine Jt (k:=7) (k':=2) hU [1,1,1,1,1,0,1] [5,0] rfl rfl rfl rfl ⟨rfl,rfl⟩ ?_
   exact zSe
  simp only [push_cast,seval,↓reduceIte,Zb,Tryz.results22,hN0,hN]
 replace h:=Zm c74 h
 refine Xs [0,1,5,7] [true,true] ?_
 refine Zd ?_
 obtain ⟨y64,hy64,h⟩:=bC h
 obtain ⟨y65,hy65,h⟩:=bC h
 refine X1 Zo (by kernel_rfl) [] (by kernel_rfl) ?_
 refine zS ?_
 refine PCall.of (Zrs hy64) ?_
 refine zS ?_
 refine PCall.of (Ztb hy65) ?_
 refine zS ?_
 refine zDs [0,1,5,7,16] [true,true] ?_
 obtain ⟨y69,hy69,h⟩:=bC h
 obtain ⟨x70,hx70,ax70,bx70,cx70,h⟩:=bE (f:=(eI .u64)) Jd (fun _=>rfl) (by decide) h
 have gu71:Vs (fl (eI .u64) a0) [.val (.int .u64 y69)] (Int.toNat a1 * 1)=some (fl (eI .u64) (Kc a0 a1 y69)):=Zcs (f:=(eI .u64)) (ti:=⟨.bool,1,0,[],false⟩) (x:=y69) (fun _=>rfl) (Zat hx70)
 refine Zo4 [] ax70 bx70 cx70 gu71 ?_
 refine (Zag hy69).then ?_
 refine zF4 ax70 bx70 cx70 gu71 ?_
 refine zDs [0,16] [true,false] ?_
 obtain ⟨l73,pl73,ql73,el73,h⟩:=bA (k:=y65.1.length) rfl h
 simp only [Ke,Zdv] at pl73 ql73
 refine Zku [] pl73 ql73 el73 ?_
 refine Zah ⟨252,[],[(6,.row n l73.length)]⟩ (Zt (O.upd t0 none) n [some (oR 45 1 (eI .u64) l73),none]) (Z8 hU rfl rfl ?_) ?_
 ·exact Zv9 pl73 ql73 el73
 refine zW ?_
 have h:=Option.some.inj h;subst h
 refine Zjk (k:=1) (L3:=[some (oR 45 1 (eI .u64) l73),none]) (E2:=(⟨252,[],[(6,.row n l73.length)]⟩:Env)) (n3:=(n+2)) (.inr rfl) hU rfl [.row n l73.length] ?_ ?_
 ·refine Fit2.trans (E':=(⟨252,[],[(6,.row n l73.length)]⟩:Env)) (O':=(Zt (O.upd t0 none) n [some (oR 45 1 (eI .u64) l73),none])) (n':=(n+2)) (Fit2.of (Z8 hU rfl rfl ?_) (by omega)) ?_
  ·exact zSe
  refine Jt (k:=2) (k':=2) hU [0,1] [0,0] rfl rfl rfl rfl ⟨rfl,rfl⟩ ?_
  exact zSe
 simp only [push_cast,seval,↓reduceIte,Zb,Tryz.results22,hN0,hN]
theorem Zoh:∀ k,(Zid (Yu k)):=fun k=>by
 induction k with
 | zero=>exact @fun a0 a1 a2 r O n t0 ht0 hot0 h=>(nomatch (show (none:Option _)=some _ from h))
 | succ k ih=>exact @fun a0 a1 a2 r O n t0 ht0 hot0 h=>Zsh (ih) ht0 hot0 h
theorem Ztc {a0:(List Int)} {a1:Int} {a2:Za} {r:(List Int)} {O:Objs} {n:Nat} {t0:Nat} (ht0:t0 < n) (hot0:O t0=some (oR 45 1 (eI .u64) a0)) (h:Zgt a0 a1 a2=some r):GTo Tryz.prog 22 [.row t0 a0.length,(vI a1),.agg (Ze a2)] O n (.row n r.length) (Zt (O.upd t0 none) n [some (oR 45 1 (eI .u64) r)]) (n+1):=by
 obtain ⟨k,hk⟩:=Zcg h
 exact (Zoh k) ht0 hot0 hk
theorem Zor {a0:Za} {a1:Int} {r:((List Int)×Bool)} {O:Objs} {n:Nat} (h:U4 a0 a1=some r):GTo Tryz.prog 10 [.agg (Ze a0),(vI a1)] O n (.tup [(sL (eI .u64) r.1),(vB r.2)]) O n:=by
 unfold U4 at h
 refine Yj Zo Tryz.call10 Tryz.func10 rfl (Nat.le_of_ble_eq_true rfl) (Nat.le_refl _) fun hU => ?_
 have hN0:O n=none:=hU.fresh _ (Nat.le_refl _)
 have hN:∀ k,O (n+k)=none:=fun k=>hU.fresh _ (Nat.le_add_right _ _)
 show W _ _ _ _ ⟨28,[],[(0,.agg (Ze a0)),(1,(vI a1))]⟩ (Zt O n []) _
 refine zQ [1,2] ?_
 refine Zd ?_
 refine Zd ?_
 obtain ⟨y2,hy2,h⟩:=bC h
 refine zRo [none,none,none] ?_
 refine zG ?_
 refine zTs (Zrr hy2) ?_
 refine zG ?_
 refine zD [1,2,13] [true] ?_
 refine Zj (t:=(cond (!y2) true (a0.Kind == 10))) rfl (fun c16 => ?_) (fun c16 => ?_)
 ·replace h:=Zn c16 h
  refine zQ [4,5] ?_
  refine zW ?_
  have h:=Option.some.inj h;subst h
  refine Zi (.inr rfl) hU [nV,(vB false)] (by omega) ?_
  simp only [push_cast,seval,↓reduceIte,Zb,Tryz.results10,hN0,hN]
 replace h:=Zm c16 h
 refine Xs [1,2] [true] ?_
 refine Zd ?_
 obtain ⟨y4,hy4,h⟩:=bC h
 refine zCd (Zjz hy4) [1,2] [true] ?_
 refine Zd ?_
 obtain ⟨z7,hz7,h⟩:=bC h
 refine Y8 (E':=⟨28,[],[(2,.ref n 0),(24,(vB z7))]⟩) (O':=(Zt O n [some ⟨false,28,3,1,(Ze y4)⟩])) (n0:=(n+1)) ?_ ?_
 ·obtain ⟨y10,hy10,hz7⟩:=bC hz7
  rcases Bool.eq_false_or_eq_true (decide (a1≤y10)) with c12 | c12
  ·replace hz7:=Zn c12 hz7
   refine Vc [some false,some false,some false] c12 ?_
   refine (Zer hy10).then ?_
   refine zX1 c12 ?_
   exact Ki hz7 c12
  replace hz7:=Zm c12 hz7
  obtain ⟨y11,hy11,hz7⟩:=bC hz7
  refine Vc [some true,some true,some true] c12 ?_
  refine (Zer hy10).then ?_
  refine zX1 c12 ?_
  refine (Zer hy11).then ?_
  refine zX1 c12 ?_
  exact Ki hz7 c12
 refine Zj (t:=z7) rfl (fun c15 => ?_) (fun c15 => ?_)
 ·replace h:=Zn c15 h
  refine zQ [4,5] ?_
  refine zW ?_
  have h:=Option.some.inj h;subst h
  refine Zi (.inr rfl) hU [nV,(vB false)] (by omega) ?_
  simp only [push_cast,seval,↓reduceIte,Zb,Tryz.results10,hN0,hN]
 replace h:=Zm c15 h
 refine Xs [2] [true] ?_
 refine Zd ?_
 obtain ⟨y14,hy14,h⟩:=bC h
 refine zR ?_
 refine (Ztc (t0:=(n+1)) (by omega) (by simp only [push_cast,seval,↓reduceIte,Zb,Q8,hN0,hN] <;> rfl) hy14).then ?_
 refine zS ?_
 refine zD [4,5] [false,false,true] ?_
 refine zW ?_
 have h:=Option.some.inj h;subst h
 refine Zi (.inr rfl) hU [.row (n+2) y14.length,(vB true)] (by omega) ?_
 simp only [push_cast,seval,↓reduceIte,Zb,Tryz.results10,hN0,hN]
theorem Zjx {a0:(List Int)} {a1:Z0} {r:Bool} {O:Objs} {n:Nat} (h:Vu a0 a1=some r):GTo Tryz.prog 3 [(sL (eI .u64) a0),.agg (Yd a1)] O n ((vB r)) O n:=by
 unfold Vu at h
 refine Yj Zo Tryz.call3 Tryz.func3 rfl (Nat.le_of_ble_eq_true rfl) (Nat.le_refl _) fun hU => ?_
 have hN0:O n=none:=hU.fresh _ (Nat.le_refl _)
 have hN:∀ k,O (n+k)=none:=fun k=>hU.fresh _ (Nat.le_add_right _ _)
 show W _ _ _ _ ⟨72,[],[(0,(sL (eI .u64) a0)),(1,.agg (Yd a1))]⟩ (Zt O n []) _
 refine zQ [0,3] ?_
 refine Zd ?_
 obtain ⟨y2,hy2,h⟩:=bC h
 refine zCd (Zrp hy2) [0,3] [true] ?_
 refine Zd ?_
 obtain ⟨y4,hy4,h⟩:=bC h
 refine zCd (Zv4 hy4) [0,3,5,6] [true,true] ?_
 refine Zd ?_
 obtain ⟨y6,hy6,h⟩:=bC h
 refine zR ?_
 refine GCalls.dropL (l':=[some ⟨false,24,4,1,(Yd y2)⟩,some ⟨false,28,3,1,(Ze y4.1)⟩,none]) hU rfl ?_ ((Zoq hy6).then ?_)
 ·exact zSe
 refine zS ?_
 refine zDs [0,5,6,7,9] [false,true,false,true] ?_
 refine zQ [0,5,6,7,9,29] ?_
 refine Zj (t:=(y6.2.2 != 0)) rfl (fun c41 => ?_) (fun c41 => ?_)
 ·replace h:=Zn c41 h
  obtain ⟨z9,hz9,h⟩:=bC h
  refine Y8 (E':=⟨72,[],[(4,(vB z9))]⟩) (O':=(Zt O n [none,none,none,none])) (n0:=(n+4)) ?_ ?_
  ·rcases Bool.eq_false_or_eq_true (y4.2 == y6.2.2) with c14 | c14
   ·replace hz9:=Zn c14 hz9
    all_goals
     obtain ⟨y12,hy12,hz9⟩:=bC hz9
     rcases Bool.eq_false_or_eq_true y12 with c15 | c15
     ·replace hz9:=Zn c15 hz9
      try rw [c15] at c14
      obtain ⟨y13,hy13,hz9⟩:=bC hz9
      refine Q5 [some true,some true,some true,some true] c14 c15 ?_
      refine GCalls.argsW ?_ ((V7 hy12).then ?_)
      ·exact Qr c14 c15
      refine zX2 c14 c15 ?_
      refine (Zd6 hy13).then ?_
      refine zX2 c14 c15 ?_
      exact Zn0 hz9 c14 c15
     replace hz9:=Zm c15 hz9
     try rw [c15] at c14
     refine Q5 [some true,some true,some true,some false] c14 c15 ?_
     refine GCalls.argsW ?_ ((V7 hy12).then ?_)
     ·exact Qr c14 c15
     refine zX2 c14 c15 ?_
     exact Zn0 hz9 c14 c15
   replace hz9:=Zm c14 hz9
   all_goals
    refine Vc [some false,some false,some false,some false] c14 ?_
    exact Ki hz9 c14
  refine zW ?_
  have h:=Option.some.inj h;subst h
  refine Zi (.inr rfl) hU [(vB z9)] (by omega) ?_
  simp only [push_cast,seval,↓reduceIte,Zb,Tryz.results3,hN0,hN]
 replace h:=Zm c41 h
 refine Xs [0,5,6,7] [false,true,false,true] ?_
 refine Zd ?_
 obtain ⟨y17,hy17,h⟩:=bC h
 refine zCd (Zjz hy17) [0,5,6,7] [false,true,false,true] ?_
 refine Zd ?_
 obtain ⟨y19,hy19,h⟩:=bC h
 refine zCd (Zor hy19) [0,5,6,7,10] [false,true,false,true] ?_
 refine Zd ?_
 refine Zd ?_
 obtain ⟨y21,hy21,h⟩:=bC h
 refine zCd (Zeq hy21) [5,6,7,51] [false,true,false,true] ?_
 refine Zj (t:=(!y21)) rfl (fun c40 => ?_) (fun c40 => ?_)
 ·replace h:=Zn c40 h
  obtain ⟨z24,hz24,h⟩:=bC h
  refine Y8 (E':=⟨72,[],[(4,(vB z24))]⟩) (O':=(Zt O n [none,none,none,none])) (n0:=(n+4)) ?_ ?_
  ·rcases Bool.eq_false_or_eq_true (y4.2 == 5) with c29 | c29
   ·replace hz24:=Zn c29 hz24
    obtain ⟨y27,hy27,hz24⟩:=bC hz24
    rcases Bool.eq_false_or_eq_true y27 with c30 | c30
    ·replace hz24:=Zn c30 hz24
     try rw [c30] at c29
     obtain ⟨y28,hy28,hz24⟩:=bC hz24
     refine Q5 [some true,some true,some true,some true] c29 c30 ?_
     refine GCalls.argsW ?_ ((V7 hy27).then ?_)
     ·exact Qr c29 c30
     refine zX2 c29 c30 ?_
     refine (Zd6 hy28).then ?_
     refine zX2 c29 c30 ?_
     exact Zn0 hz24 c29 c30
    replace hz24:=Zm c30 hz24
    try rw [c30] at c29
    refine Q5 [some true,some true,some true,some false] c29 c30 ?_
    refine GCalls.argsW ?_ ((V7 hy27).then ?_)
    ·exact Qr c29 c30
    refine zX2 c29 c30 ?_
    exact Zn0 hz24 c29 c30
   replace hz24:=Zm c29 hz24
   refine Vc [some false,some false,some false,some false] c29 ?_
   exact Ki hz24 c29
  refine zW ?_
  have h:=Option.some.inj h;subst h
  refine Zi (.inr rfl) hU [(vB z24)] (by omega) ?_
  simp only [push_cast,seval,↓reduceIte,Zb,Tryz.results3,hN0,hN]
 replace h:=Zm c40 h
 refine Xs [5,6,7] [false,true,false,true] ?_
 obtain ⟨z33,hz33,h⟩:=bC h
 refine Y8 (E':=⟨72,[],[(4,(vB z33))]⟩) (O':=(Zt O n [none,none,none,none])) (n0:=(n+4)) ?_ ?_
 ·rcases Bool.eq_false_or_eq_true (y4.2 == 0) with c38 | c38
  ·replace hz33:=Zn c38 hz33
   obtain ⟨y36,hy36,hz33⟩:=bC hz33
   rcases Bool.eq_false_or_eq_true y36 with c39 | c39
   ·replace hz33:=Zn c39 hz33
    try rw [c39] at c38
    obtain ⟨y37,hy37,hz33⟩:=bC hz33
    refine Q5 [some true,some true,some true,some true] c38 c39 ?_
    refine (V7 hy36).then ?_
    refine zX2 c38 c39 ?_
    refine (Zd6 hy37).then ?_
    refine zX2 c38 c39 ?_
    exact Zn0 hz33 c38 c39
   replace hz33:=Zm c39 hz33
   try rw [c39] at c38
   refine Q5 [some true,some true,some true,some false] c38 c39 ?_
   refine (V7 hy36).then ?_
   refine zX2 c38 c39 ?_
   exact Zn0 hz33 c38 c39
  replace hz33:=Zm c38 hz33
  refine Vc [some false,some false,some false,some false] c38 ?_
  exact Ki hz33 c38
 refine zW ?_
 have h:=Option.some.inj h;subst h
 refine Zi (.inr rfl) hU [(vB z33)] (by omega) ?_
 simp only [push_cast,seval,↓reduceIte,Zb,Tryz.results3,hN0,hN]
end Go.Proofs.YtpfbdlcnfekdkaaGreat
