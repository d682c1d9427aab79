/- Part DM4 of this seat's mirrors: functions of the seat's program, and the plain functions that they are; each theorem bears its own conditions. -/
import Derived.Test.YtpfbdlcnfekdkaaGreatDE
import Derived.Test.YtpfbdlcnfekdkaaGreatDM3
namespace Go.Proofs.YtpfbdlcnfekdkaaGreat
open Go.RowKit
set_option linter.unusedVariables false
set_option linter.unusedSimpArgs false
set_option maxRecDepth 100000
set_option maxHeartbeats 4000000
attribute [local push_cast] vI vB nV sL oR Yd Ze Zv Yq Zp Zpk Zpj Zp3 Zp2 Y0 Ym Zlm Zgm Zgl onW X6 Zeb Zdw Zrz Zob Zi9 Zjd Zi8 Zjc Zmk Zmf Zjb Zmj Zmi Zmh Zja Zmd Zha evS wok Je Op.operands Call.operands gop onK onP atK List.all_cons List.all_nil Bool.and_true Bool.true_and Bool.and_self Value.oneCell' List.take_zero List.take_succ_cons List.take_nil List.drop_zero List.drop_succ_cons List.drop_nil List.append_nil Nat.add_zero Nat.zero_add Gs Yr ev Jn Zr7 Zpd Zpc Zpi Zpg Zph Zpe Zpf Zpb Zsz Zt1 Zw0 Zjr Zde Zjq Zd3 Ziy Zgo Zet Zey Zgi Zge Zew Zgh Zgg Zgf Zev Zgc Zeu Zex Zdu Zgd Zm7 Zgn Za3 Zik Za4 Zkw Zjp Zv1 bLo bHi bMx Zdf Zkv Zx9 Zjn Zll Zfp Gb Zs0 Zya Zij Zfo Zyc Zdd Z0v Zlr Zlv Zlq Zlu Zpu Zpq Zpo Ziz Zls Zpt Zps Zpr Zlt Zpp Zln Zr8 Zma Zg7 Zg6 pop TK.isAgg Zpx Zp1 Zpw Zp0 Zl3 Zui Zue Zpz Zuh Zug Zuf Zpy Zud G.under G.unders List.getD_cons_zero List.getD_cons_succ List.set_cons_zero List.set_cons_succ List.map_cons List.map_nil List.toList_toArray Array.toList_append Option.toArray_none Option.toArray_some Array.toList_map Option.map_some Option.map_none Option.bind_some Option.bind_none List.getElem?_cons_zero List.getElem?_cons_succ List.getElem?_nil List.nil_append List.cons_append List.replicate_succ List.replicate_zero List.length_cons List.length_nil and_true true_and and_false false_and Bool.true_eq_false Bool.false_eq_true forall_const false_implies implies_true IntKind.bits if_true if_false ite_true ite_false eq_self true_implies false_or or_false or_true true_or not_true_eq_false not_false_eq_true decide_true decide_false decide_eq_true_eq decide_eq_false_iff_not beq_iff_eq bne_iff_ne ne_eq Bool.not_eq_true Bool.not_eq_false beq_eq_false_iff_ne bne_eq_false_iff_eq beq_self_eq_true bne_self_eq_false Option.some.injEq exists_eq_left' exists_eq_left ge_iff_le gt_iff_lt decide_not Bool.not_true Bool.not_false imp_self Zt4 cond_true cond_false Z6w Z6v Bool.not_not Bool.and_false Bool.false_and Bool.or_true Bool.true_or Bool.or_false Bool.false_or Zbe Zfh Zb3 Zap J4 Qh Option.join_some Nat.add_assoc Int.toNat_natCast eI eB eS eL Q8 Zgk Ze1 Zpn Zpl Zpm Z1g Z29 Zg3 Ze7 Zp9 Zp7 Zp8 Zxj Zn2 Zvo Znw Zv0 Zcr Zr5 List.length_append G.agg.injEq G.row.injEq G.ref.injEq G.val.injEq G.sl.injEq G.tup.injEq Value.int.injEq Value.bool.injEq Value.string.injEq List.cons.injEq exists_and_left exists_const List.flatten_cons List.flatten_nil Int.le_refl Nat.le_refl Zcq Qg Vv Bool.not_eq_true' Bool.not_eq_false' Zrl Zh5 Zvf Zvj Zve Zvi Z0h Z0c List.size_toArray Zsl Zr3 G.ren G.rens Zuk Zg8 Zqg Zo9 Zpa Zme Zvk Zgz G.fn.injEq Zkd Zm1 Zrk Z0d Zm0 Zvh Z0g Z0f Z0e Zvg Zt7 Zyz Option.join_none Y5 Zad undef Zlo Arr.len Arr.put_eq Zg2 Zi1 Zg1 Ze6 Zp6 Zp4 Zp5 onB Z1f Zsy Ke Zdv Zk5 Zk6 Zk7 Zk8 Zk9 Zla Zi0 Zi4 Zi2 Zg5 Ze8 Zi3 Zl9 Zl8 Zl7 Zl6 Z28 Z4x Zxi Zv8 Vb Zxa Zse Zi5 Zg4 Zyl Zr4 Zjj Zlk Zek Zj6 Zlb Zlc Zld Zle Zip Ziq Zir Zis Zit Ziu Ziv Zf7 prT Zec Z7r Zu5 Z1v Zu6 Z7s Zu7 Z7t Zu8 Z7u Zu9 Z7v Zva Z7w Zvb Z7x Zvc Zza Zqk Zzb Zql Zzc Zqm Zzd Zqn Zze Zqo Zzf Zqp Zzg Zqq Zzh Zqr Zzi Zqs Zzj Zqt Zzk Zqu Zc9 Zda Zzl Zqv Zzm Zqw Zny Zks Zzn Zqx K0 Zqy Zzo Zqz Zzp Zq0 Zzq Znp Jd Zq1 Zzr Zq2 Zzs Zq3 Zzt Zq4 Zzu Zq5 Zzv Zq6 Zzw Zq7 Zzx Zq8 Zzy Zq9 Zzz Zra Zz0 Zrb Zz1 Zrc Zz2 Zrd Zz3 Zre Zz4 Zrf Zz5 Zrg Zz6 Zrh Zz7 Zri Zz8 Zrj Zup Zml Zuq Zmm Zur Zmn Zus Zmo Zut Zmp Zuu Zmq Zuv Zmr Zuw Zms Zux Zmt Zuy Zmu Zuz Zmv Zu0 Zmw Zu1 Zmx Zu2 Zmy Zu3 Zmz J7 Zhg Zhe Zgq Zgy Zhi Zff Zfc Zfa Zhc Zc0 Zcz Zct Zcw Zc1 Zbz Zbx Zbw Zcy Zq Vo Vn Ve Vk Vp K1 Kz Ky Vl Ze0 Zhf Zhd Zgp Zgx Zhh Zfe Zfb Ze9 Zhb Zez Zbi Z7 J0 Jz Jw Jx J3 Jk Jj Ji Jy Z4 Zf Jf Gl Gk Gd Gf Gm Uu Us Ur Gj Q3 Q2 Qz Q0 Q4 Qk Qj Qi Q1 Zak V0 V1
def K9 (Ye:(Zg→Int→Za→Option Zg)):Prop:=∀ {a0:Zg} {a1:Int} {a2:Za} {r:Zg} {O:Objs} {n:Nat} {i0 j0_0:Nat},i0 < n→j0_0 < n→i0≠j0_0→O i0=some ⟨false,67,2,1,[.row j0_0 a0.words.length,(vI a0.next)]⟩→O j0_0=some (oR 45 1 (eI .u64) a0.words)→Ye a0 a1 a2=some r→GTo Tryz.prog 30 [.ref i0 0,(vI a1),.agg (Ze a2)] O n (.tup []) (Zt ((O.upd j0_0 none).upd i0 (some ⟨false,67,2,1,[.row n r.words.length,(vI r.next)]⟩)) n [some (oR 45 1 (eI .u64) r.words)]) (n+1)
def J9 (Yb:(Zg→Int→Za→Option Zg)):Prop:=∀ {a0:Zg} {a1:Int} {a2:Za} {r:Zg} {O:Objs} {n:Nat} {i0 j0_0:Nat},i0 < n→j0_0 < n→i0≠j0_0→O i0=some ⟨false,67,2,1,[.row j0_0 a0.words.length,(vI a0.next)]⟩→O j0_0=some (oR 45 1 (eI .u64) a0.words)→Yb a0 a1 a2=some r→GTo Tryz.prog 57 [.ref i0 0,(vI a1),.agg (Ze a2)] O n (.tup []) (Zt ((O.upd j0_0 none).upd i0 (some ⟨false,67,2,1,[.row n r.words.length,(vI r.next)]⟩)) n [some (oR 45 1 (eI .u64) r.words)]) (n+1)
def Jm (Z3:(Zg→Int→(List Za)→Option Zg)):Prop:=∀ {a0:Zg} {a1:Int} {a2:(List Za)} {r:Zg} {O:Objs} {n:Nat} {i0 j0_0:Nat},i0 < n→j0_0 < n→i0≠j0_0→O i0=some ⟨false,67,2,1,[.row j0_0 a0.words.length,(vI a0.next)]⟩→O j0_0=some (oR 45 1 (eI .u64) a0.words)→Z3 a0 a1 a2=some r→GTo Tryz.prog 89 [.ref i0 0,(vI a1),(sL Zf a2)] O n (.tup []) (Zt ((O.upd j0_0 none).upd i0 (some ⟨false,67,2,1,[.row n r.words.length,(vI r.next)]⟩)) n [some (oR 45 1 (eI .u64) r.words)]) (n+1)
def Ka (Yc:(Zg→Int→Za→Option Zg)):Prop:=∀ {a0:Zg} {a1:Int} {a2:Za} {r:Zg} {O:Objs} {n:Nat} {i0 j0_0:Nat},i0 < n→j0_0 < n→i0≠j0_0→O i0=some ⟨false,67,2,1,[.row j0_0 a0.words.length,(vI a0.next)]⟩→O j0_0=some (oR 45 1 (eI .u64) a0.words)→Yc a0 a1 a2=some r→GTo Tryz.prog 90 [.ref i0 0,(vI a1),.agg (Ze a2)] O n (.tup []) (Zt ((O.upd j0_0 none).upd i0 (some ⟨false,67,2,1,[.row n r.words.length,(vI r.next)]⟩)) n [some (oR 45 1 (eI .u64) r.words)]) (n+1)
theorem Zn8 {Ye:(Zg→Int→Za→Option Zg)} {Yb:(Zg→Int→Za→Option Zg)} {Z3:(Zg→Int→(List Za)→Option Zg)} {Yc:(Zg→Int→Za→Option Zg)} (Ga:K9 Ye) (Uc:J9 Yb) (Qb:Jm Z3) (Ud:Ka Yc) {a0:Zg} {a1:Int} {a2:Za} {r:Zg} {O:Objs} {n:Nat} {i0 j0_0:Nat} (hi0:i0 < n) (Zcf:j0_0 < n) (Uw:i0≠j0_0) (ho0:O i0=some ⟨false,67,2,1,[.row j0_0 a0.words.length,(vI a0.next)]⟩) (Za5:O j0_0=some (oR 45 1 (eI .u64) a0.words)) (h:Ql Ye Yb Z3 Yc a0 a1 a2=some r):GTo Tryz.prog 30 [.ref i0 0,(vI a1),.agg (Ze a2)] O n (.tup []) (Zt ((O.upd j0_0 none).upd i0 (some ⟨false,67,2,1,[.row n r.words.length,(vI r.next)]⟩)) n [some (oR 45 1 (eI .u64) r.words)]) (n+1):=by
 unfold Ql at h
 refine Yj Zo Tryz.call30 Tryz.func30 rfl (Nat.le_of_ble_eq_true rfl) (by omega) fun hU => ?_
 have e0:=Ztr (ba:=n) (E:=⟨60,[],Zr7 0 [.ref i0 0,.val (.int .i64 a1),.agg [.val (.int .i64 a2.Kind),.sl a2.Words.length (fl (eI .u64) a2.Words),.sl a2.Kids.length (fl Zf a2.Kids)]]⟩) (O:=(Zt O n [])) (n:=n) (i:=i0) (j:=j0_0) (k:=0) (len:=a0.words.length) (q:=⟨false,67,2,1,[.row j0_0 a0.words.length,.val (.int .i64 a0.next)]⟩) (qj:=⟨true,45,1,a0.words.length,fl (eI .u64) a0.words⟩) (by rw [Qg _ hi0];first | exact ho0 | exact Y5 _ _ _) rfl (by rw [Qg _ Zcf];exact Za5) Uw (by omega)
 simp only [Vv _ _ Zcf,Vv _ _ hi0,J4,Qh,Zcq,Z1y Uw,List.set_cons_zero,List.set_cons_succ,List.cons_append,List.nil_append,List.length_cons,List.length_nil,Nat.zero_add,Nat.reduceAdd,Nat.add_assoc] at e0
 refine Za0 e0 ?_
 have hU:=(Und.drop hU j0_0)
 have hk0:∀ k,i0 < n+k:=fun k=>by omega
 have hN0:∀ o,Objs.upd (O.upd j0_0 none) i0 o n=none:=fun o=>Vm hU hi0 _ (Nat.le_refl _)
 have hN:∀ o k,Objs.upd (O.upd j0_0 none) i0 o (n+k)=none:=fun o k=>Vm hU hi0 _ (Nat.le_add_right _ _)
 show W _ _ _ _ ⟨60,[],[(0,.ref i0 0),(1,(vI a1)),(2,.agg (Ze a2))]⟩ (Zt ((O.upd j0_0 none).upd i0 (some ⟨false,67,2,1,[.row n a0.words.length,(vI a0.next)]⟩)) n [some (oR 45 1 (eI .u64) a0.words)]) _
 refine Zai [0,1,5] hi0 hk0 ?_
 refine Zd ?_
 refine Zai [0,1,5,12] hi0 hk0 ?_
 refine Zj (t:=(a2.Kind == 0)) rfl (fun c14 => ?_) (fun c14 => ?_)
 ·replace h:=Zn c14 h
  refine zW ?_
  have h:=Option.some.inj h;subst h
  refine K3 (k:=1) (i:=i0) (q1:=⟨false,67,2,1,[.row n a0.words.length,(vI a0.next)]⟩) (L3:=[some (oR 45 1 (eI .u64) a0.words),none]) (E2:=(⟨60,[],[]⟩:Env)) (n3:=(n+2)) (.inr rfl) hU rfl [] ?_ ?_
  ·refine Fit2.trans (E':=(⟨60,[],[]⟩:Env)) (O':=(Zt ((O.upd j0_0 none).upd i0 (some ⟨false,67,2,1,[.row n a0.words.length,(vI a0.next)]⟩)) n [some (oR 45 1 (eI .u64) a0.words),none])) (n':=(n+2)) (Fit2.of (Yi hU rfl rfl ?_) (by omega)) ?_
   ·exact Qr hi0 hk0
   refine Qf (k:=2) (k':=2) hU [0,1] [0,0] rfl rfl rfl rfl ⟨rfl,rfl⟩ ?_
   exact Qr hi0 hk0
  simp only [push_cast,seval,↓reduceIte,Zb,Tryz.results30,hi0,hk0,hN0,hN]
 replace h:=Zm c14 h
 refine Xs [0,1,5] [true,true] ?_
 refine Zd ?_
 obtain ⟨y2,hy2,h⟩:=bC h
 refine Q5 [] hi0 hk0 ?_
 refine (Zxc hy2).then ?_
 refine zX2 hi0 hk0 ?_
 refine zD [0,1,5,6] [true,true,true] ?_
 refine Zai [0,1,5,6,7] hi0 hk0 ?_
 refine Zd ?_
 obtain ⟨y4,hy4,h⟩:=bC h
 refine Q5 [] hi0 hk0 ?_
 refine (Zlz hy4).then ?_
 refine zX2 hi0 hk0 ?_
 refine zDs [0,1,5,6,7,8] [true,true,true] ?_
 refine Q5 [] hi0 hk0 ?_
 refine zD [0,1,5,6,7,8] [true,true,true] ?_
 obtain ⟨z5,hz5,h⟩:=bC h
 refine Y8 (E':=⟨60,[],[(0,.ref i0 0),(1,(vI a1)),(5,.ref (n+1) 0),(6,.ref (n+2) 0),(7,(vI a0.next)),(8,(vI y4.1))]⟩) (O':=(Zt ((O.upd j0_0 none).upd i0 (some ⟨false,67,2,1,[.row n a0.words.length,(vI a0.next)]⟩)) n [some (oR 45 1 (eI .u64) a0.words),some ⟨false,28,3,1,(Ze a2)⟩,some ⟨false,96,8,1,[(vI y2.Kind),(vI z5),(vI y2.Data),(vI y2.Ptrs),(vI y2.Code),(vI y2.Count),(vI y2.Segment),(vB y2.Double)]⟩])) (n0:=(n+3)) ?_ ?_
 ·refine Zb4 [0,1,5,6,7,8,35] (Z5 Zo [none,none] ?_)
  refine zX2 hi0 hk0 ?_
  refine zG ?_
  refine Zj (t:=(cond (y2.Kind == 1) (y4.1 == 0) false)) rfl (fun c6 => ?_) (fun c6 => ?_)
  ·replace hz5:=Zn c6 hz5
   refine Q5 [] hi0 hk0 ?_
   have hz5:=Option.some.inj hz5;subst hz5
   refine And.intro rfl (Fit2.of (Yi hU rfl rfl ?_) (by omega))
   exact Qr hi0 hk0
  replace hz5:=Zm c6 hz5
  refine zK ?_
  have hz5:=Option.some.inj hz5;subst hz5
  refine And.intro rfl (Fit2.of (Yi hU rfl rfl ?_) (by omega))
  exact Qr hi0 hk0
 refine Zd ?_
 obtain ⟨y10,hy10,h⟩:=bC h
 obtain ⟨x11,hx11,ax11,bx11,cx11,h⟩:=bE (f:=(eI .u64)) Jd (fun _=>rfl) (by decide) h
 have gu12:Vs (fl (eI .u64) a0.words) [.val (.int .u64 y10.1)] (Int.toNat a1 * 1)=some (fl (eI .u64) (Kc a0.words a1 y10.1)):=Zcs (f:=(eI .u64)) (ti:=⟨.bool,1,0,[],false⟩) (x:=y10.1) (fun _=>rfl) (Zat hx11)
 refine Zc4 Zo (by kernel_rfl) [false,false,false,false,false,false,false,false,false,false,false,true] [] (by kernel_rfl) ?_
 refine zF6 ax11 bx11 cx11 gu12 hi0 hk0 ?_
 refine PCall.of (Zr1 hy10) ?_
 refine zF6 ax11 bx11 cx11 gu12 hi0 hk0 ?_
 refine zDs [0,5,7,8] [true,true,false] ?_
 refine Q5 [] hi0 hk0 ?_
 refine zD [0,5,7] [true,true,false] ?_
 obtain ⟨y13,hy13,h⟩:=bC h
 refine Q5 [] hi0 hk0 ?_
 refine (Uc (i0:=i0) (j0_0:=n) (by omega) (by omega) (by omega) (by simp only [push_cast,seval,↓reduceIte,Zb,Q8,hi0,hk0,hN0,hN] <;> rfl) (by simp only [push_cast,seval,↓reduceIte,Zb,Q8,hi0,hk0,hN0,hN] <;> rfl) hy13).then ?_
 refine zX2 hi0 hk0 ?_
 have h:=Option.some.inj h;subst h
 refine K3 (k:=1) (i:=i0) (q1:=⟨false,67,2,1,[.row n y13.words.length,(vI y13.next)]⟩) (L3:=[some (oR 45 1 (eI .u64) y13.words),none]) (E2:=(⟨60,[],[]⟩:Env)) (n3:=(n+2)) (.inl rfl) hU rfl [] ?_ ?_
 ·refine Fit2.trans (E':=(⟨60,[],[]⟩:Env)) (O':=(Zt ((O.upd j0_0 none).upd i0 (some ⟨false,67,2,1,[.row (n+3) y13.words.length,(vI y13.next)]⟩)) n [none,none,none,some (oR 45 1 (eI .u64) y13.words)])) (n':=(n+4)) (Fit2.of (Yi hU rfl rfl ?_) (by omega)) ?_
  ·exact Qr hi0 hk0
  refine Qf (k:=4) (k':=2) hU [1,1,1,0] [3,0] rfl rfl rfl rfl ⟨rfl,rfl⟩ ?_
  exact Qr hi0 hk0
 simp only [push_cast,seval,↓reduceIte,Zb,Tryz.results30,hi0,hk0,hN0,hN]
theorem Zl0 {Ye:(Zg→Int→Za→Option Zg)} {Yb:(Zg→Int→Za→Option Zg)} {Z3:(Zg→Int→(List Za)→Option Zg)} {Yc:(Zg→Int→Za→Option Zg)} (Ga:K9 Ye) (Uc:J9 Yb) (Qb:Jm Z3) (Ud:Ka Yc) {a0:Zg} {a1:Int} {a2:Za} {r:Zg} {O:Objs} {n:Nat} {i0 j0_0:Nat} (hi0:i0 < n) (Zcf:j0_0 < n) (Uw:i0≠j0_0) (ho0:O i0=some ⟨false,67,2,1,[.row j0_0 a0.words.length,(vI a0.next)]⟩) (Za5:O j0_0=some (oR 45 1 (eI .u64) a0.words)) (h:X0 Ye Yb Z3 Yc a0 a1 a2=some r):GTo Tryz.prog 57 [.ref i0 0,(vI a1),.agg (Ze a2)] O n (.tup []) (Zt ((O.upd j0_0 none).upd i0 (some ⟨false,67,2,1,[.row n r.words.length,(vI r.next)]⟩)) n [some (oR 45 1 (eI .u64) r.words)]) (n+1):=by
 unfold X0 at h
 refine Yj Zo Tryz.call57 Tryz.func57 rfl (Nat.le_of_ble_eq_true rfl) (by omega) fun hU => ?_
 have e0:=Ztr (ba:=n) (E:=⟨47,[],Zr7 0 [.ref i0 0,.val (.int .i64 a1),.agg [.val (.int .i64 a2.Kind),.sl a2.Words.length (fl (eI .u64) a2.Words),.sl a2.Kids.length (fl Zf a2.Kids)]]⟩) (O:=(Zt O n [])) (n:=n) (i:=i0) (j:=j0_0) (k:=0) (len:=a0.words.length) (q:=⟨false,67,2,1,[.row j0_0 a0.words.length,.val (.int .i64 a0.next)]⟩) (qj:=⟨true,45,1,a0.words.length,fl (eI .u64) a0.words⟩) (by rw [Qg _ hi0];first | exact ho0 | exact Y5 _ _ _) rfl (by rw [Qg _ Zcf];exact Za5) Uw (by omega)
 simp only [Vv _ _ Zcf,Vv _ _ hi0,J4,Qh,Zcq,Z1y Uw,List.set_cons_zero,List.set_cons_succ,List.cons_append,List.nil_append,List.length_cons,List.length_nil,Nat.zero_add,Nat.reduceAdd,Nat.add_assoc] at e0
 refine Za0 e0 ?_
 have hU:=(Und.drop hU j0_0)
 have hk0:∀ k,i0 < n+k:=fun k=>by omega
 have hN0:∀ o,Objs.upd (O.upd j0_0 none) i0 o n=none:=fun o=>Vm hU hi0 _ (Nat.le_refl _)
 have hN:∀ o k,Objs.upd (O.upd j0_0 none) i0 o (n+k)=none:=fun o k=>Vm hU hi0 _ (Nat.le_add_right _ _)
 show W _ _ _ _ ⟨47,[],[(0,.ref i0 0),(1,(vI a1)),(2,.agg (Ze a2))]⟩ (Zt ((O.upd j0_0 none).upd i0 (some ⟨false,67,2,1,[.row n a0.words.length,(vI a0.next)]⟩)) n [some (oR 45 1 (eI .u64) a0.words)]) _
 refine Zai [0,1,5] hi0 hk0 ?_
 refine Zai [0,1,5,7] hi0 hk0 ?_
 refine Yh ?_
 refine Zai [0,1,5,7,17] hi0 hk0 ?_
 refine Zj (t:=(a2.Kind == 1)) rfl (fun c11 => ?_) (fun c11 => ?_)
 ·replace h:=Zn c11 h
  obtain ⟨pu1,h⟩:=bG h
  have su1:=fun j=>Zm8 (T:=Kh) (j:=j) Zda Jd pu1
  have g2:=Zm6 (f:=(eI .u64)) a0.words a2.Words a1 (fun _=>rfl) pu1.2.1 pu1.2.2
  have mg2:=Nat.mul_one (List.length a2.Words)
  obtain ⟨y3,hy3,h⟩:=bC h
  refine Zih Zo (by kernel_rfl) [.plain,.plain,.plain,.plain,.plain,.plain,.plain,.plain,.plain,.plain,.pass,.plain,.low,.low,.bar] (fun i=>i < (n+2)∧¬ i=n) [0,1,2,3,4,5,6,7,8,9,12,13,10,11,14] [.plain,.plain,.plain,.plain,.plain,.plain,.plain,.plain,.plain,.plain,.low,.low,.pass,.plain,.bar] [] (by kernel_rfl) rfl ?_
  simp only [push_cast,seval,↓reduceIte,Zb,pu1.1,pu1.2.1,pu1.2.2,su1,g2,mg2,hi0,hk0,hN0,hN]
  refine zO ?_
  refine (Qb (i0:=i0) (j0_0:=n) (by omega) (by omega) (by omega) (by simp only [push_cast,seval,↓reduceIte,Zb,Q8,pu1.1,pu1.2.1,pu1.2.2,su1,g2,mg2,hi0,hk0,hN0,hN] <;> rfl) (by simp only [push_cast,seval,↓reduceIte,Zb,Q8,pu1.1,pu1.2.1,pu1.2.2,su1,g2,mg2,hi0,hk0,hN0,hN] <;> rfl) hy3).then ?_
  simp only [push_cast,seval,↓reduceIte,Zb,pu1.1,pu1.2.1,pu1.2.2,su1,g2,mg2,hi0,hk0,hN0,hN]
  refine zO ?_
  have h:=Option.some.inj h;subst h
  refine K3 (k:=1) (i:=i0) (q1:=⟨false,67,2,1,[.row n y3.words.length,(vI y3.next)]⟩) (L3:=[some (oR 45 1 (eI .u64) y3.words),none]) (E2:=(⟨47,[],[]⟩:Env)) (n3:=(n+2)) (.inl rfl) hU rfl [] ?_ ?_
  ·refine Fit2.trans (E':=(⟨47,[],[]⟩:Env)) (O':=(Zt ((O.upd j0_0 none).upd i0 (some ⟨false,67,2,1,[.row (n+2) y3.words.length,(vI y3.next)]⟩)) n [none,none,some (oR 45 1 (eI .u64) y3.words)])) (n':=(n+3)) (Fit2.of (Yi hU rfl rfl ?_) (by omega)) ?_
   ·simp only [push_cast,seval,↓reduceIte,Zb,pu1.1,pu1.2.1,pu1.2.2,su1,g2,mg2,hi0,hk0,hN0,hN]
   refine Qf (k:=3) (k':=2) hU [1,1,0] [2,0] rfl rfl rfl rfl ⟨rfl,rfl⟩ ?_
   exact Qr hi0 hk0
  simp only [push_cast,seval,↓reduceIte,Zb,Tryz.results57,hi0,hk0,hN0,hN]
 replace h:=Zm c11 h
 refine Zai [0,1,5,7,34] hi0 hk0 ?_
 refine Zj (t:=(a2.Kind == 8)) rfl (fun c10 => ?_) (fun c10 => ?_)
 ·replace h:=Zn c10 h
  obtain ⟨y4,hy4,h⟩:=bC h
  refine Q5 [] hi0 hk0 ?_
  refine (Qb (i0:=i0) (j0_0:=n) (by omega) (by omega) (by omega) (by simp only [push_cast,seval,↓reduceIte,Zb,Q8,hi0,hk0,hN0,hN] <;> rfl) (by simp only [push_cast,seval,↓reduceIte,Zb,Q8,hi0,hk0,hN0,hN] <;> rfl) hy4).then ?_
  refine zX2 hi0 hk0 ?_
  have h:=Option.some.inj h;subst h
  refine K3 (k:=1) (i:=i0) (q1:=⟨false,67,2,1,[.row n y4.words.length,(vI y4.next)]⟩) (L3:=[some (oR 45 1 (eI .u64) y4.words),none]) (E2:=(⟨47,[],[]⟩:Env)) (n3:=(n+2)) (.inl rfl) hU rfl [] ?_ ?_
  ·refine Fit2.trans (E':=(⟨47,[],[]⟩:Env)) (O':=(Zt ((O.upd j0_0 none).upd i0 (some ⟨false,67,2,1,[.row (n+2) y4.words.length,(vI y4.next)]⟩)) n [none,none,some (oR 45 1 (eI .u64) y4.words)])) (n':=(n+3)) (Fit2.of (Yi hU rfl rfl ?_) (by omega)) ?_
   ·exact Qr hi0 hk0
   refine Qf (k:=3) (k':=2) hU [1,1,0] [2,0] rfl rfl rfl rfl ⟨rfl,rfl⟩ ?_
   exact Qr hi0 hk0
  simp only [push_cast,seval,↓reduceIte,Zb,Tryz.results57,hi0,hk0,hN0,hN]
 replace h:=Zm c10 h
 refine Zai [0,1,5,41] hi0 hk0 ?_
 refine Zj (t:=(a2.Kind == 9)) rfl (fun c9 => ?_) (fun c9 => ?_)
 ·replace h:=Zn c9 h
  obtain ⟨y5,hy5,h⟩:=bC h
  refine Q5 [] hi0 hk0 ?_
  refine (Ud (i0:=i0) (j0_0:=n) (by omega) (by omega) (by omega) (by simp only [push_cast,seval,↓reduceIte,Zb,Q8,hi0,hk0,hN0,hN] <;> rfl) (by simp only [push_cast,seval,↓reduceIte,Zb,Q8,hi0,hk0,hN0,hN] <;> rfl) hy5).then ?_
  refine zX2 hi0 hk0 ?_
  have h:=Option.some.inj h;subst h
  refine K3 (k:=1) (i:=i0) (q1:=⟨false,67,2,1,[.row n y5.words.length,(vI y5.next)]⟩) (L3:=[some (oR 45 1 (eI .u64) y5.words),none]) (E2:=(⟨47,[],[]⟩:Env)) (n3:=(n+2)) (.inl rfl) hU rfl [] ?_ ?_
  ·refine Fit2.trans (E':=(⟨47,[],[]⟩:Env)) (O':=(Zt ((O.upd j0_0 none).upd i0 (some ⟨false,67,2,1,[.row (n+2) y5.words.length,(vI y5.next)]⟩)) n [none,none,some (oR 45 1 (eI .u64) y5.words)])) (n':=(n+3)) (Fit2.of (Yi hU rfl rfl ?_) (by omega)) ?_
   ·exact Qr hi0 hk0
   refine Qf (k:=3) (k':=2) hU [1,1,0] [2,0] rfl rfl rfl rfl ⟨rfl,rfl⟩ ?_
   exact Qr hi0 hk0
  simp only [push_cast,seval,↓reduceIte,Zb,Tryz.results57,hi0,hk0,hN0,hN]
 replace h:=Zm c9 h
 obtain ⟨pu6,h⟩:=bG h
 have su6:=fun j=>Zm8 (T:=Kh) (j:=j) Zda Jd pu6
 obtain ⟨y7,hy7,h⟩:=bC h
 have g8:=Zm6 (f:=(eI .u64)) a0.words y7 a1 (fun _=>rfl) pu6.2.1 pu6.2.2
 have mg8:=Nat.mul_one (List.length y7)
 refine Zc4 Zo (by kernel_rfl) [false,false,false,false,false,false,false,false,true] [] (by kernel_rfl) ?_
 simp only [push_cast,seval,↓reduceIte,Zb,pu6.1,pu6.2.1,pu6.2.2,su6,g8,mg8,hi0,hk0,hN0,hN]
 refine PCall.of (Zua hy7) ?_
 simp only [push_cast,seval,↓reduceIte,Zb,pu6.1,pu6.2.1,pu6.2.2,su6,g8,mg8,hi0,hk0,hN0,hN]
 have h:=Option.some.inj h;subst h
 refine K3 (k:=1) (i:=i0) (q1:=⟨false,67,2,1,[.row n (Zlh a0.words a1 y7).length,(vI a0.next)]⟩) (L3:=[some (oR 45 1 (eI .u64) (Zlh a0.words a1 y7)),none]) (E2:=(⟨47,[],[]⟩:Env)) (n3:=(n+2)) (.inl rfl) hU rfl [] ?_ ?_
 ·refine Fit2.trans (E':=(⟨47,[],[]⟩:Env)) (O':=(Zt ((O.upd j0_0 none).upd i0 (some ⟨false,67,2,1,[.row n (Zlh a0.words a1 y7).length,(vI a0.next)]⟩)) n [some (oR 45 1 (eI .u64) (Zlh a0.words a1 y7)),none])) (n':=(n+2)) (Fit2.of (Yi hU rfl rfl ?_) (by omega)) ?_
  ·simp only [push_cast,seval,↓reduceIte,Zb,pu6.1,pu6.2.1,pu6.2.2,su6,g8,mg8,hi0,hk0,hN0,hN]
  refine Qf (k:=2) (k':=2) hU [0,1] [0,0] rfl rfl rfl rfl ⟨rfl,rfl⟩ ?_
  exact Qr hi0 hk0
 simp only [push_cast,seval,↓reduceIte,Zb,Tryz.results57,hi0,hk0,hN0,hN]
theorem Zk1 {Ye:(Zg→Int→Za→Option Zg)} {Yb:(Zg→Int→Za→Option Zg)} {Z3:(Zg→Int→(List Za)→Option Zg)} {Yc:(Zg→Int→Za→Option Zg)} (Ga:K9 Ye) (Uc:J9 Yb) (Qb:Jm Z3) (Ud:Ka Yc) {a0:Zg} {a1:Int} {a2:(List Za)} {r:Zg} {O:Objs} {n:Nat} {i0 j0_0:Nat} (hi0:i0 < n) (Zcf:j0_0 < n) (Uw:i0≠j0_0) (ho0:O i0=some ⟨false,67,2,1,[.row j0_0 a0.words.length,(vI a0.next)]⟩) (Za5:O j0_0=some (oR 45 1 (eI .u64) a0.words)) (h:K2 Ye Yb Z3 Yc a0 a1 a2=some r):GTo Tryz.prog 89 [.ref i0 0,(vI a1),(sL Zf a2)] O n (.tup []) (Zt ((O.upd j0_0 none).upd i0 (some ⟨false,67,2,1,[.row n r.words.length,(vI r.next)]⟩)) n [some (oR 45 1 (eI .u64) r.words)]) (n+1):=by
 unfold K2 at h
 refine Yj Zo Tryz.call89 Tryz.func89 rfl (Nat.le_of_ble_eq_true rfl) (by omega) fun hU => ?_
 have e0:=Ztr (ba:=n) (E:=⟨22,[],Zr7 0 [.ref i0 0,.val (.int .i64 a1),.sl a2.length (fl Zf a2)]⟩) (O:=(Zt O n [])) (n:=n) (i:=i0) (j:=j0_0) (k:=0) (len:=a0.words.length) (q:=⟨false,67,2,1,[.row j0_0 a0.words.length,.val (.int .i64 a0.next)]⟩) (qj:=⟨true,45,1,a0.words.length,fl (eI .u64) a0.words⟩) (by rw [Qg _ hi0];first | exact ho0 | exact Y5 _ _ _) rfl (by rw [Qg _ Zcf];exact Za5) Uw (by omega)
 simp only [Vv _ _ Zcf,Vv _ _ hi0,J4,Qh,Zcq,Z1y Uw,List.set_cons_zero,List.set_cons_succ,List.cons_append,List.nil_append,List.length_cons,List.length_nil,Nat.zero_add,Nat.reduceAdd,Nat.add_assoc] at e0
 refine Za0 e0 ?_
 have hU:=(Und.drop hU j0_0)
 have hk0:∀ k,i0 < n+k:=fun k=>by omega
 have hN0:∀ o,Objs.upd (O.upd j0_0 none) i0 o n=none:=fun o=>Vm hU hi0 _ (Nat.le_refl _)
 have hN:∀ o k,Objs.upd (O.upd j0_0 none) i0 o (n+k)=none:=fun o k=>Vm hU hi0 _ (Nat.le_add_right _ _)
 show W _ _ _ _ ⟨22,[],[(0,.ref i0 0),(1,(vI a1)),(2,(sL Zf a2))]⟩ (Zt ((O.upd j0_0 none).upd i0 (some ⟨false,67,2,1,[.row n a0.words.length,(vI a0.next)]⟩)) n [some (oR 45 1 (eI .u64) a0.words)]) _
 refine Zai [0,1,8,9,10] hi0 hk0 ?_
 refine zD [0,1,8,9,10] [true] ?_
 refine Za0 (E':=(⟨22,[],[(0,.ref i0 0),(1,(vI a1)),(8,(sL Zf a2)),(9,(vI (a2.length:Int))),(10,(vI 0))]⟩:Env)) (O':=(Zt ((O.upd j0_0 none).upd i0 (some ⟨false,67,2,1,[.row (n+1) a0.words.length,(vI a0.next)]⟩)) n [none,some (oR 45 1 (eI .u64) a0.words)])) (n':=(n+2)) ?_ ?_
 ·refine Fit2.trans (E':=(⟨22,[],[(0,.ref i0 0),(1,(vI a1)),(8,(sL Zf a2)),(9,(vI (a2.length:Int))),(10,(vI 0))]⟩:Env)) (O':=(Zt ((O.upd j0_0 none).upd i0 (some ⟨false,67,2,1,[.row n a0.words.length,(vI a0.next)]⟩)) n [some (oR 45 1 (eI .u64) a0.words)])) (n':=(n+1)) (Fit2.of (Yi hU rfl rfl ?_) (by omega)) ?_
  ·exact Qr hi0 hk0
  refine Qf (k:=1) (k':=2) hU [1] [0,0] rfl rfl rfl rfl ⟨rfl,rfl⟩ ?_
  exact Qr hi0 hk0
 obtain ⟨z5,hz5,h⟩:=bC h
 refine Yv (E':=⟨22,[],[]⟩) (O':=(Zt ((O.upd j0_0 none).upd i0 (some ⟨false,67,2,1,[.row (n+1) z5.1.length,(vI z5.2)]⟩)) n [none,some (oR 45 1 (eI .u64) z5.1)])) (n0:=(n+2)) ?_ ?_
 ·refine Y2 hz5 (fun s0_=>⟨22,[],[(0,.ref i0 0),(1,(vI a1)),(8,(sL Zf a2)),(9,(vI (a2.length:Int))),(10,(vI s0_.1))]⟩) (fun s0_=>(Zt ((O.upd j0_0 none).upd i0 (some ⟨false,67,2,1,[.row (n+1) s0_.2.1.length,(vI s0_.2.2)]⟩)) n [none,some (oR 45 1 (eI .u64) s0_.2.1)])) (fun z5=>JX 0 n (⟨22,[],[]⟩:Env) (Zt ((O.upd j0_0 none).upd i0 (some ⟨false,67,2,1,[.row (n+1) z5.1.length,(vI z5.2)]⟩)) n [none,some (oR 45 1 (eI .u64) z5.1)]) (n+2)) ?_
  intro s0_ x0_ hs0_
  unfold Jl at hs0_
  try dsimp only
  refine Zai [0,1,8,9,10,11] hi0 hk0 ?_
  refine Zd ?_
  refine Zj (t:=(decide (s0_.1 < (a2.length:Int)))) rfl (fun c4 => ?_) (fun c4 => ?_)
  ·replace hs0_:=Zn c4 hs0_
   refine Xs [0,1,8,9,10] [false,true] ?_
   refine Zd ?_
   refine Yh ?_
   refine Zd ?_
   obtain ⟨x2,hx2,ax2,bx2,cx2,hs0_⟩:=bE (f:=Zf) K0 (fun _=>rfl) (by decide) hs0_
   refine Z33 [] ax2 bx2 cx2 hi0 hk0 ?_
   refine zD [0,1,6,7,8,9,10] [false,true,true] ?_
   obtain ⟨y3,hy3,hs0_⟩:=bC hs0_
   refine Q5 [] hi0 hk0 ?_
   refine (Ga (i0:=i0) (j0_0:=(n+1)) (by omega) (by omega) (by omega) (by simp only [push_cast,seval,↓reduceIte,Zb,Q8,hi0,hk0,hN0,hN] <;> rfl) (by simp only [push_cast,seval,↓reduceIte,Zb,Q8,hi0,hk0,hN0,hN] <;> rfl) hy3).then ?_
   refine zX2 hi0 hk0 ?_
   refine zD [0,1,8,9,10] [false,false,false,true] ?_
   refine Q5 [] hi0 hk0 ?_
   have hs0_:=Option.some.inj hs0_;subst hs0_
   refine And.intro rfl ?_
   refine Fit2.trans (E':=(⟨22,[],[(0,.ref i0 0),(1,(vI a1)),(8,(sL Zf a2)),(9,(vI (a2.length:Int))),(10,(vI (IntKind.i64.wrap (s0_.1+1))))]⟩:Env)) (O':=(Zt ((O.upd j0_0 none).upd i0 (some ⟨false,67,2,1,[.row (n+3) y3.words.length,(vI y3.next)]⟩)) n [none,none,none,some (oR 45 1 (eI .u64) y3.words)])) (n':=(n+4)) (Fit2.of (Yi hU rfl rfl ?_) (by omega)) ?_
   ·exact Qr hi0 hk0
   refine Qf (k:=4) (k':=2) hU [0,0,0,1] [0,3] rfl rfl rfl rfl ⟨rfl,rfl⟩ ?_
   exact Qr hi0 hk0
  replace hs0_:=Zm c4 hs0_
  refine zXt ?_
  have hs0_:=Option.some.inj hs0_;subst hs0_
  refine And.intro (fun h=>by cases h) (And.intro rfl (Fit2.of (Yi hU rfl rfl ?_) (by omega)))
  exact Qr hi0 hk0
 try simp only [Y0,Ym,↓reduceIte,Nat.reduceEqDiff]
 have h:=Option.some.inj h;subst h
 refine K3 (k:=1) (i:=i0) (q1:=⟨false,67,2,1,[.row n z5.1.length,(vI z5.2)]⟩) (L3:=[some (oR 45 1 (eI .u64) z5.1),none]) (E2:=(⟨22,[],[]⟩:Env)) (n3:=(n+2)) (.inl rfl) hU rfl [] ?_ ?_
 ·refine Fit2.trans (E':=(⟨22,[],[]⟩:Env)) (O':=(Zt ((O.upd j0_0 none).upd i0 (some ⟨false,67,2,1,[.row (n+1) z5.1.length,(vI z5.2)]⟩)) n [none,some (oR 45 1 (eI .u64) z5.1)])) (n':=(n+2)) (Fit2.of (Yi hU rfl rfl ?_) (by omega)) ?_
  ·exact Qr hi0 hk0
  refine Qf (k:=2) (k':=2) hU [1,0] [1,0] rfl rfl rfl rfl ⟨rfl,rfl⟩ ?_
  exact Qr hi0 hk0
 simp only [push_cast,seval,↓reduceIte,Zb,Tryz.results89,hi0,hk0,hN0,hN]
theorem Zl1 {Ye:(Zg→Int→Za→Option Zg)} {Yb:(Zg→Int→Za→Option Zg)} {Z3:(Zg→Int→(List Za)→Option Zg)} {Yc:(Zg→Int→Za→Option Zg)} (Ga:K9 Ye) (Uc:J9 Yb) (Qb:Jm Z3) (Ud:Ka Yc) {a0:Zg} {a1:Int} {a2:Za} {r:Zg} {O:Objs} {n:Nat} {i0 j0_0:Nat} (hi0:i0 < n) (Zcf:j0_0 < n) (Uw:i0≠j0_0) (ho0:O i0=some ⟨false,67,2,1,[.row j0_0 a0.words.length,(vI a0.next)]⟩) (Za5:O j0_0=some (oR 45 1 (eI .u64) a0.words)) (h:Vw Ye Yb Z3 Yc a0 a1 a2=some r):GTo Tryz.prog 90 [.ref i0 0,(vI a1),.agg (Ze a2)] O n (.tup []) (Zt ((O.upd j0_0 none).upd i0 (some ⟨false,67,2,1,[.row n r.words.length,(vI r.next)]⟩)) n [some (oR 45 1 (eI .u64) r.words)]) (n+1):=by
 unfold Vw at h
 refine Yj Zo Tryz.call90 Tryz.func90 rfl (Nat.le_of_ble_eq_true rfl) (by omega) fun hU => ?_
 have e0:=Ztr (ba:=n) (E:=⟨85,[],Zr7 0 [.ref i0 0,.val (.int .i64 a1),.agg [.val (.int .i64 a2.Kind),.sl a2.Words.length (fl (eI .u64) a2.Words),.sl a2.Kids.length (fl Zf a2.Kids)]]⟩) (O:=(Zt O n [])) (n:=n) (i:=i0) (j:=j0_0) (k:=0) (len:=a0.words.length) (q:=⟨false,67,2,1,[.row j0_0 a0.words.length,.val (.int .i64 a0.next)]⟩) (qj:=⟨true,45,1,a0.words.length,fl (eI .u64) a0.words⟩) (by rw [Qg _ hi0];first | exact ho0 | exact Y5 _ _ _) rfl (by rw [Qg _ Zcf];exact Za5) Uw (by omega)
 simp only [Vv _ _ Zcf,Vv _ _ hi0,J4,Qh,Zcq,Z1y Uw,List.set_cons_zero,List.set_cons_succ,List.cons_append,List.nil_append,List.length_cons,List.length_nil,Nat.zero_add,Nat.reduceAdd,Nat.add_assoc] at e0
 refine Za0 e0 ?_
 have hU:=(Und.drop hU j0_0)
 have hk0:∀ k,i0 < n+k:=fun k=>by omega
 have hN0:∀ o,Objs.upd (O.upd j0_0 none) i0 o n=none:=fun o=>Vm hU hi0 _ (Nat.le_refl _)
 have hN:∀ o k,Objs.upd (O.upd j0_0 none) i0 o (n+k)=none:=fun o k=>Vm hU hi0 _ (Nat.le_add_right _ _)
 show W _ _ _ _ ⟨85,[],[(0,.ref i0 0),(1,(vI a1)),(2,.agg (Ze a2))]⟩ (Zt ((O.upd j0_0 none).upd i0 (some ⟨false,67,2,1,[.row n a0.words.length,(vI a0.next)]⟩)) n [some (oR 45 1 (eI .u64) a0.words)]) _
 refine Zai [0,1,5] hi0 hk0 ?_
 refine Zd ?_
 obtain ⟨y2,hy2,h⟩:=bC h
 refine Q5 [] hi0 hk0 ?_
 refine (Zkz hy2).then ?_
 refine zX2 hi0 hk0 ?_
 refine zD [0,1,5,6,7] [true,true] ?_
 obtain ⟨z3,hz3,h⟩:=bC h
 refine Y8 (E':=⟨85,[],[(0,.ref i0 0),(1,(vI a1)),(5,.ref (n+1) 0),(6,(vI y2.1)),(7,(vI y2.2))]⟩) (O':=(Zt ((O.upd j0_0 none).upd i0 (some ⟨false,67,2,1,[.row n z3.length,(vI a0.next)]⟩)) n [some (oR 45 1 (eI .u64) z3),some ⟨false,28,3,1,(Ze a2)⟩])) (n0:=(n+2)) ?_ ?_
 ·refine Zai [0,1,5,6,7,20] hi0 hk0 ?_
  refine Zj (t:=(decide (0 < (a2.Kids.length:Int)))) rfl (fun c7 => ?_) (fun c7 => ?_)
  ·replace hz3:=Zn c7 hz3
   obtain ⟨y4,hy4,hz3⟩:=bC hz3
   obtain ⟨x5,hx5,ax5,bx5,cx5,hz3⟩:=bE (f:=(eI .u64)) Jd (fun _=>rfl) (by decide) hz3
   have gu6:Vs (fl (eI .u64) a0.words) [.val (.int .u64 y4.1)] (Int.toNat a1 * 1)=some (fl (eI .u64) (Kc a0.words a1 y4.1)):=Zcs (f:=(eI .u64)) (ti:=⟨.bool,1,0,[],false⟩) (x:=y4.1) (fun _=>rfl) (Zat hx5)
   refine Zc4 Zo (by kernel_rfl) [false,false,false,false,false,false,false,false,false,false,false,false,false,false,false,false,true] [] (by kernel_rfl) ?_
   refine zF6 ax5 bx5 cx5 gu6 hi0 hk0 ?_
   refine PCall.of (Zr1 hy4) ?_
   refine zF6 ax5 bx5 cx5 gu6 hi0 hk0 ?_
   have hz3:=Option.some.inj hz3;subst hz3
   refine And.intro rfl (Fit2.of (Yi hU rfl rfl ?_) (by omega))
   exact Ydt ax5 bx5 cx5 gu6 hi0 hk0
  replace hz3:=Zm c7 hz3
  refine zK ?_
  have hz3:=Option.some.inj hz3;subst hz3
  refine And.intro rfl (Fit2.of (Yi hU rfl rfl ?_) (by omega))
  exact Qr hi0 hk0
 refine Zai [0,1,5,6,7] hi0 hk0 ?_
 refine Zd ?_
 refine Zai [0,1,5,6,7,40,41,42] hi0 hk0 ?_
 refine zD [0,1,5,6,7,40,41,42] [true,true] ?_
 obtain ⟨z13,hz13,h⟩:=bC h
 refine Yv (E':=⟨85,[],[(0,.ref i0 0),(1,(vI (IntKind.i64.wrap (a1+1)))),(5,.ref (n+1) 0),(6,(vI y2.1)),(7,(vI y2.2))]⟩) (O':=(Zt ((O.upd j0_0 none).upd i0 (some ⟨false,67,2,1,[.row n z13.length,(vI a0.next)]⟩)) n [some (oR 45 1 (eI .u64) z13),some ⟨false,28,3,1,(Ze a2)⟩])) (n0:=(n+2)) ?_ ?_
 ·refine Y2 hz13 (fun s0_=>⟨85,[],[(0,.ref i0 0),(1,(vI (IntKind.i64.wrap (a1+1)))),(5,.ref (n+1) 0),(6,(vI y2.1)),(7,(vI y2.2)),(40,(sL Zf a2.Kids)),(41,(vI (a2.Kids.length:Int))),(42,(vI s0_.1))]⟩) (fun s0_=>(Zt ((O.upd j0_0 none).upd i0 (some ⟨false,67,2,1,[.row n s0_.2.length,(vI a0.next)]⟩)) n [some (oR 45 1 (eI .u64) s0_.2),some ⟨false,28,3,1,(Ze a2)⟩])) (fun z13=>JX 0 n (⟨85,[],[(0,.ref i0 0),(1,(vI (IntKind.i64.wrap (a1+1)))),(5,.ref (n+1) 0),(6,(vI y2.1)),(7,(vI y2.2))]⟩:Env) (Zt ((O.upd j0_0 none).upd i0 (some ⟨false,67,2,1,[.row n z13.length,(vI a0.next)]⟩)) n [some (oR 45 1 (eI .u64) z13),some ⟨false,28,3,1,(Ze a2)⟩]) (n+2)) ?_
  intro s0_ x0_ hs0_
  unfold J5 at hs0_
  try dsimp only
  refine Zai [0,1,5,6,7,40,41,42,43] hi0 hk0 ?_
  refine Zd ?_
  refine Zj (t:=(decide (s0_.1 < (a2.Kids.length:Int)))) rfl (fun c12 => ?_) (fun c12 => ?_)
  ·replace hs0_:=Zn c12 hs0_
   refine Xs [0,1,5,6,7,40,41,42] [true,true] ?_
   refine Zd ?_
   refine Yh ?_
   refine Zd ?_
   obtain ⟨x9,hx9,ax9,bx9,cx9,hs0_⟩:=bE (f:=Zf) K0 (fun _=>rfl) (by decide) hs0_
   refine Z33 [] ax9 bx9 cx9 hi0 hk0 ?_
   refine zD [0,1,5,6,7,8,9,40,41,42] [true,true,true] ?_
   obtain ⟨pu10,hs0_⟩:=bG hs0_
   have su10:=fun j=>Zm8 (T:=Kh) (j:=j) Zda Jd pu10
   have g11:=Zm6 (f:=(eI .u64)) s0_.2 x9.Words (IntKind.i64.wrap ((IntKind.i64.wrap (a1+1))+(IntKind.i64.wrap (s0_.1 * (IntKind.i64.wrap (y2.1+y2.2)))))) (fun _=>rfl) pu10.2.1 pu10.2.2
   have mg11:=Nat.mul_one (List.length x9.Words)
   refine Zc4 Zo (by kernel_rfl) [false,false,false,false,false,false,false,false,false,false,false,false,false,false,true] [] (by kernel_rfl) ?_
   simp only [push_cast,seval,↓reduceIte,Zb,pu10.1,pu10.2.1,pu10.2.2,su10,g11,mg11,hi0,hk0,hN0,hN]
   refine zD [0,1,5,6,7,40,41,42] [true,true,false] ?_
   refine Q5 [] hi0 hk0 ?_
   have hs0_:=Option.some.inj hs0_;subst hs0_
   refine And.intro rfl (Fit2.of (Yi hU rfl rfl ?_) (by omega))
   exact Qr hi0 hk0
  replace hs0_:=Zm c12 hs0_
  refine zXt ?_
  have hs0_:=Option.some.inj hs0_;subst hs0_
  refine And.intro (fun h=>by cases h) (And.intro rfl (Fit2.of (Yi hU rfl rfl ?_) (by omega)))
  exact Qr hi0 hk0
 try simp only [Y0,Ym,↓reduceIte,Nat.reduceEqDiff]
 refine zD [0,1,5,6,7] [true,true] ?_
 refine Zai [0,1,6,7,64,65,66] hi0 hk0 ?_
 refine zD [0,1,6,7,64,65,66] [true,false] ?_
 refine Za0 (E':=(⟨85,[],[(0,.ref i0 0),(1,(vI (IntKind.i64.wrap (a1+1)))),(6,(vI y2.1)),(7,(vI y2.2)),(64,(sL Zf a2.Kids)),(65,(vI (a2.Kids.length:Int))),(66,(vI 0))]⟩:Env)) (O':=(Zt ((O.upd j0_0 none).upd i0 (some ⟨false,67,2,1,[.row (n+2) z13.length,(vI a0.next)]⟩)) n [none,none,some (oR 45 1 (eI .u64) z13)])) (n':=(n+3)) ?_ ?_
 ·refine Fit2.trans (E':=(⟨85,[],[(0,.ref i0 0),(1,(vI (IntKind.i64.wrap (a1+1)))),(6,(vI y2.1)),(7,(vI y2.2)),(64,(sL Zf a2.Kids)),(65,(vI (a2.Kids.length:Int))),(66,(vI 0))]⟩:Env)) (O':=(Zt ((O.upd j0_0 none).upd i0 (some ⟨false,67,2,1,[.row n z13.length,(vI a0.next)]⟩)) n [some (oR 45 1 (eI .u64) z13),none])) (n':=(n+2)) (Fit2.of (Yi hU rfl rfl ?_) (by omega)) ?_
  ·exact Qr hi0 hk0
  refine Qf (k:=2) (k':=3) hU [2,1] [0,0,0] rfl rfl rfl rfl ⟨rfl,rfl⟩ ?_
  exact Qr hi0 hk0
 obtain ⟨z18,hz18,h⟩:=bC h
 refine Yv (E':=⟨85,[],[]⟩) (O':=(Zt ((O.upd j0_0 none).upd i0 (some ⟨false,67,2,1,[.row (n+2) z18.1.length,(vI z18.2)]⟩)) n [none,none,some (oR 45 1 (eI .u64) z18.1)])) (n0:=(n+3)) ?_ ?_
 ·refine Y2 hz18 (fun s1_=>⟨85,[],[(0,.ref i0 0),(1,(vI (IntKind.i64.wrap (a1+1)))),(6,(vI y2.1)),(7,(vI y2.2)),(64,(sL Zf a2.Kids)),(65,(vI (a2.Kids.length:Int))),(66,(vI s1_.1))]⟩) (fun s1_=>(Zt ((O.upd j0_0 none).upd i0 (some ⟨false,67,2,1,[.row (n+2) s1_.2.1.length,(vI s1_.2.2)]⟩)) n [none,none,some (oR 45 1 (eI .u64) s1_.2.1)])) (fun z18=>JX 2 n (⟨85,[],[]⟩:Env) (Zt ((O.upd j0_0 none).upd i0 (some ⟨false,67,2,1,[.row (n+2) z18.1.length,(vI z18.2)]⟩)) n [none,none,some (oR 45 1 (eI .u64) z18.1)]) (n+3)) ?_
  intro s1_ x1_ hs1_
  unfold J6 at hs1_
  try dsimp only
  refine Zai [0,1,6,7,64,65,66,67] hi0 hk0 ?_
  refine Zd ?_
  refine Zj (t:=(decide (s1_.1 < (a2.Kids.length:Int)))) rfl (fun c17 => ?_) (fun c17 => ?_)
  ·replace hs1_:=Zn c17 hs1_
   refine Xs [0,1,6,7,64,65,66] [false,false,true] ?_
   refine Zd ?_
   refine Yh ?_
   refine Zd ?_
   obtain ⟨x15,hx15,ax15,bx15,cx15,hs1_⟩:=bE (f:=Zf) K0 (fun _=>rfl) (by decide) hs1_
   refine Z33 [] ax15 bx15 cx15 hi0 hk0 ?_
   refine zD [0,1,6,7,10,11,64,65,66] [false,false,true,true] ?_
   obtain ⟨y16,hy16,hs1_⟩:=bC hs1_
   refine Q5 [] hi0 hk0 ?_
   refine (Qb (i0:=i0) (j0_0:=(n+2)) (by omega) (by omega) (by omega) (by simp only [push_cast,seval,↓reduceIte,Zb,Q8,hi0,hk0,hN0,hN] <;> rfl) (by simp only [push_cast,seval,↓reduceIte,Zb,Q8,hi0,hk0,hN0,hN] <;> rfl) hy16).then ?_
   refine zX2 hi0 hk0 ?_
   refine zD [0,1,6,7,64,65,66] [false,false,false,false,true] ?_
   refine Q5 [] hi0 hk0 ?_
   have hs1_:=Option.some.inj hs1_;subst hs1_
   refine And.intro rfl ?_
   refine Fit2.trans (E':=(⟨85,[],[(0,.ref i0 0),(1,(vI (IntKind.i64.wrap (a1+1)))),(6,(vI y2.1)),(7,(vI y2.2)),(64,(sL Zf a2.Kids)),(65,(vI (a2.Kids.length:Int))),(66,(vI (IntKind.i64.wrap (s1_.1+1))))]⟩:Env)) (O':=(Zt ((O.upd j0_0 none).upd i0 (some ⟨false,67,2,1,[.row (n+4) y16.words.length,(vI y16.next)]⟩)) n [none,none,none,none,some (oR 45 1 (eI .u64) y16.words)])) (n':=(n+5)) (Fit2.of (Yi hU rfl rfl ?_) (by omega)) ?_
   ·exact Qr hi0 hk0
   refine Qf (k:=5) (k':=3) hU [1,1,1,1,2] [0,0,4] rfl rfl rfl rfl ⟨rfl,rfl⟩ ?_
   exact Qr hi0 hk0
  replace hs1_:=Zm c17 hs1_
  refine zXt ?_
  have hs1_:=Option.some.inj hs1_;subst hs1_
  refine And.intro (fun h=>by cases h) (And.intro rfl (Fit2.of (Yi hU rfl rfl ?_) (by omega)))
  exact Qr hi0 hk0
 try simp only [Y0,Ym,↓reduceIte,Nat.reduceEqDiff]
 have h:=Option.some.inj h;subst h
 refine K3 (k:=1) (i:=i0) (q1:=⟨false,67,2,1,[.row n z18.1.length,(vI z18.2)]⟩) (L3:=[some (oR 45 1 (eI .u64) z18.1),none]) (E2:=(⟨85,[],[]⟩:Env)) (n3:=(n+2)) (.inl rfl) hU rfl [] ?_ ?_
 ·refine Fit2.trans (E':=(⟨85,[],[]⟩:Env)) (O':=(Zt ((O.upd j0_0 none).upd i0 (some ⟨false,67,2,1,[.row (n+2) z18.1.length,(vI z18.2)]⟩)) n [none,none,some (oR 45 1 (eI .u64) z18.1)])) (n':=(n+3)) (Fit2.of (Yi hU rfl rfl ?_) (by omega)) ?_
  ·exact Qr hi0 hk0
  refine Qf (k:=3) (k':=2) hU [1,1,0] [2,0] rfl rfl rfl rfl ⟨rfl,rfl⟩ ?_
  exact Qr hi0 hk0
 simp only [push_cast,seval,↓reduceIte,Zb,Tryz.results90,hi0,hk0,hN0,hN]
theorem Zlw:∀ k,(K9 ((Zk k).1))∧(J9 ((Zk k).2.1))∧(Jm ((Zk k).2.2.1))∧(Ka ((Zk k).2.2.2)):=fun k=>by
 induction k with
 | zero=>exact ⟨@fun a0 a1 a2 r O n i0 j0_0 hi0 Zcf Uw ho0 Za5 h=>(nomatch (show (none:Option _)=some _ from h)),@fun a0 a1 a2 r O n i0 j0_0 hi0 Zcf Uw ho0 Za5 h=>(nomatch (show (none:Option _)=some _ from h)),@fun a0 a1 a2 r O n i0 j0_0 hi0 Zcf Uw ho0 Za5 h=>(nomatch (show (none:Option _)=some _ from h)),@fun a0 a1 a2 r O n i0 j0_0 hi0 Zcf Uw ho0 Za5 h=>(nomatch (show (none:Option _)=some _ from h))⟩
 | succ k ih=>exact ⟨@fun a0 a1 a2 r O n i0 j0_0 hi0 Zcf Uw ho0 Za5 h=>Zn8 (ih.1) (ih.2.1) (ih.2.2.1) (ih.2.2.2) hi0 Zcf Uw ho0 Za5 h,@fun a0 a1 a2 r O n i0 j0_0 hi0 Zcf Uw ho0 Za5 h=>Zl0 (ih.1) (ih.2.1) (ih.2.2.1) (ih.2.2.2) hi0 Zcf Uw ho0 Za5 h,@fun a0 a1 a2 r O n i0 j0_0 hi0 Zcf Uw ho0 Za5 h=>Zk1 (ih.1) (ih.2.1) (ih.2.2.1) (ih.2.2.2) hi0 Zcf Uw ho0 Za5 h,@fun a0 a1 a2 r O n i0 j0_0 hi0 Zcf Uw ho0 Za5 h=>Zl1 (ih.1) (ih.2.1) (ih.2.2.1) (ih.2.2.2) hi0 Zcf Uw ho0 Za5 h⟩
theorem Zon {a0:Zg} {a1:Int} {a2:Za} {r:Zg} {O:Objs} {n:Nat} {i0 j0_0:Nat} (hi0:i0 < n) (Zcf:j0_0 < n) (Uw:i0≠j0_0) (ho0:O i0=some ⟨false,67,2,1,[.row j0_0 a0.words.length,(vI a0.next)]⟩) (Za5:O j0_0=some (oR 45 1 (eI .u64) a0.words)) (h:Zbb a0 a1 a2=some r):GTo Tryz.prog 30 [.ref i0 0,(vI a1),.agg (Ze a2)] O n (.tup []) (Zt ((O.upd j0_0 none).upd i0 (some ⟨false,67,2,1,[.row n r.words.length,(vI r.next)]⟩)) n [some (oR 45 1 (eI .u64) r.words)]) (n+1):=by
 obtain ⟨k,hk⟩:=Zcg h
 exact (Zlw k).1 hi0 Zcf Uw ho0 Za5 hk
theorem Znr {a0:Za} {a1:Int} {r:((List Int)×Bool)} {O:Objs} {n:Nat} (h:Zbl a0 a1=some r):GTo Tryz.prog 14 [.agg (Ze a0),(vI a1)] O n (.tup [(sL (eI .u64) r.1),(vB r.2)]) O n:=by
 unfold Zbl at h
 refine Yj Zo Tryz.call14 Tryz.func14 rfl (Nat.le_of_ble_eq_true rfl) (Nat.le_refl _) fun hU => ?_
 have hN0:O n=none:=hU.fresh _ (Nat.le_refl _)
 have hN:∀ k,O (n+k)=none:=fun k=>hU.fresh _ (Nat.le_add_right _ _)
 show W _ _ _ _ ⟨35,[],[(0,.agg (Ze a0)),(1,(vI a1))]⟩ (Zt O n []) _
 refine zQ [1,2] ?_
 refine Zd ?_
 obtain ⟨z2,hz2,h⟩:=bC h
 refine Y8 (E':=⟨35,[],[(1,(vI a1)),(2,.ref n 0),(15,(vB z2))]⟩) (O':=(Zt O n [some ⟨false,28,3,1,(Ze a0)⟩])) (n0:=(n+1)) ?_ ?_
 ·rcases Bool.eq_false_or_eq_true (a0.Kind == 10) with c5 | c5
  ·replace hz2:=Zn c5 hz2
   refine Vc [some false,some false,some false] c5 ?_
   exact Ki hz2 c5
  replace hz2:=Zm c5 hz2
  obtain ⟨y4,hy4,hz2⟩:=bC hz2
  refine Vc [some true,some true,some true] c5 ?_
  refine (Zyh hy4).then ?_
  refine zX1 c5 ?_
  exact Ki hz2 c5
 refine Zj (t:=z2) rfl (fun c15 => ?_) (fun c15 => ?_)
 ·replace h:=Zn c15 h
  refine zQ [4,5] ?_
  refine zW ?_
  have h:=Option.some.inj h;subst h
  refine Zi (.inr rfl) hU [nV,(vB false)] (by omega) ?_
  simp only [push_cast,seval,↓reduceIte,Zb,Tryz.results14,hN0,hN]
 replace h:=Zm c15 h
 refine Xs [1,2] [true] ?_
 refine Zd ?_
 obtain ⟨y7,hy7,h⟩:=bC h
 refine zCd (Znd hy7) [1,2] [true] ?_
 refine Zd ?_
 obtain ⟨y9,hy9,h⟩:=bC h
 refine zCd (Z1c hy9) [1,2,6] [true] ?_
 refine Zd ?_
 refine zQD [2,6,27] [none,none] ?_
 refine Zj (t:=(cond (decide (a1 < (IntKind.i64.wrap (1+y9)))) true (decide (131072 < (IntKind.i64.wrap (1+y9)))))) rfl (fun c14 => ?_) (fun c14 => ?_)
 ·replace h:=Zn c14 h
  refine zQ [4,5] ?_
  refine zW ?_
  have h:=Option.some.inj h;subst h
  refine Zi (.inr rfl) hU [nV,(vB false)] (by omega) ?_
  simp only [push_cast,seval,↓reduceIte,Zb,Tryz.results14,hN0,hN]
 replace h:=Zm c14 h
 refine Xs [2,6] [true] ?_
 refine Zd ?_
 obtain ⟨l11,al11,bl11,cl11,el11,h⟩:=bM2 (c:=8) rfl h
 have nl11:Int.toNat (IntKind.i64.wrap (1+y9))=List.length l11:=by rw [el11,List.length_replicate]
 have fl11:(List.replicate (List.length l11) [.val (.int .u64 0)]).flatten=fl (eI .u64) l11:=by rw [← nl11,el11];exact (Zm5 (f:=(eI .u64)) _ _).symm
 clear el11
 refine Z5 Zo [] ?_
 simp only [push_cast,seval,↓reduceIte,Zb,al11,bl11,cl11,fl11,nl11,hN0,hN]
 refine Zah ⟨35,[],[(2,.ref n 0),(7,.ref (n+2) 0)]⟩ (Zt O n [some ⟨false,28,3,1,(Ze y7)⟩,some (oR 45 1 (eI .u64) l11),some ⟨false,67,2,1,[.row (n+1) l11.length,(vI 1)]⟩]) (Z8 hU rfl rfl ?_) ?_
 ·simp only [push_cast,seval,↓reduceIte,Zb,al11,bl11,cl11,fl11,nl11,hN0,hN]
 refine Zd ?_
 obtain ⟨y13,hy13,h⟩:=bC h
 refine zR ?_
 refine (Zon (i0:=(n+2)) (j0_0:=(n+1)) (by omega) (by omega) (by omega) (by simp only [push_cast,seval,↓reduceIte,Zb,Q8,hN0,hN] <;> rfl) (by simp only [push_cast,seval,↓reduceIte,Zb,Q8,hN0,hN] <;> rfl) hy13).then ?_
 refine zS ?_
 refine zD [7] [false,false,true,true] ?_
 refine zQ [4,5] ?_
 refine zW ?_
 have h:=Option.some.inj h;subst h
 refine Zi (.inr rfl) hU [.row (n+3) y13.words.length,(vB true)] (by omega) ?_
 simp only [push_cast,seval,↓reduceIte,Zb,Tryz.results14,hN0,hN]
theorem Zh1 {a0:(List Int)} {a1:(List Int)} {r:Bool} {O:Objs} {n:Nat} (h:Qe a0 a1=some r):GTo Tryz.prog 15 [(sL (eI .u64) a0),(sL (eI .u64) a1)] O n ((vB r)) O n:=by
 unfold Qe at h
 refine Yj Zo Tryz.call15 Tryz.func15 rfl (Nat.le_of_ble_eq_true rfl) (Nat.le_refl _) fun hU => ?_
 have hN0:O n=none:=hU.fresh _ (Nat.le_refl _)
 have hN:∀ k,O (n+k)=none:=fun k=>hU.fresh _ (Nat.le_add_right _ _)
 show W _ _ _ _ ⟨26,[],[(0,(sL (eI .u64) a0)),(1,(sL (eI .u64) a1))]⟩ (Zt O n []) _
 refine zQ [0,1] ?_
 refine Zd ?_
 refine zQ [0,1,10] ?_
 refine Zj (t:=((a0.length:Int) != (a1.length:Int))) rfl (fun c8 => ?_) (fun c8 => ?_)
 ·replace h:=Zn c8 h
  refine zQ [4] ?_
  refine zW ?_
  have h:=Option.some.inj h;subst h
  refine Zi (.inr rfl) hU [(vB false)] (by omega) ?_
  simp only [push_cast,seval,↓reduceIte,Zb,Tryz.results15,hN0,hN]
 replace h:=Zm c8 h
 refine Xs [0,1] [] ?_
 refine Zd ?_
 refine zQd [0,1,12,13] [0,1,12,13] [] ?_
 obtain ⟨z7,hz7,h⟩:=bC h
 refine Zgb (J:=(Kf (fun z7=>JR n (⟨26,[],[(4,(vB false))]⟩:Env) (Zt O n []) n) (fun z7=>JX 0 n (⟨26,[],[]⟩:Env) (Zt O n []) n))) (z:=z7) ?_ fun hw => ?_
 ·refine Y2 hz7 (fun s0_=>⟨26,[],[(0,(sL (eI .u64) a0)),(1,(sL (eI .u64) a1)),(12,(vI (a0.length:Int))),(13,(vI s0_))]⟩) (fun s0_=>(Zt O n [])) (Kf (fun z7=>JR n (⟨26,[],[(4,(vB false))]⟩:Env) (Zt O n []) n) (fun z7=>JX 0 n (⟨26,[],[]⟩:Env) (Zt O n []) n)) ?_
  intro s0_ x0_ hs0_
  unfold Xz at hs0_
  try dsimp only
  refine zQ [0,1,12,13,14] ?_
  refine Zd ?_
  refine Zj (t:=(decide (s0_ < (a0.length:Int)))) rfl (fun c6 => ?_) (fun c6 => ?_)
  ·replace hs0_:=Zn c6 hs0_
   refine Xs [0,1,12,13] [] ?_
   refine Zd ?_
   refine Yh ?_
   refine zQ [0,1,5,12,13] ?_
   obtain ⟨x3,hx3,ax3,bx3,cx3,hs0_⟩:=bE (f:=(eI .u64)) Jd (fun _=>rfl) (by decide) hs0_
   obtain ⟨x4,hx4,ax4,bx4,cx4,hs0_⟩:=bE (f:=(eI .u64)) Jd (fun _=>rfl) (by decide) hs0_
   refine Zb4 [0,1,12,13,24] (X1 Zo (by kernel_rfl) [] (by kernel_rfl) ?_)
   refine zF6 ax3 bx3 cx3 ax4 bx4 cx4 ?_
   refine Zj (t:=(x3 != x4)) rfl (fun c5 => ?_) (fun c5 => ?_)
   ·replace hs0_:=Zn c5 hs0_
    refine zQ [4] ?_
    refine zW ?_
    exact zEy hs0_
   replace hs0_:=Zm c5 hs0_
   refine Xs [0,1,12,13] [] ?_
   refine zR ?_
   exact zEn hs0_
  replace hs0_:=Zm c6 hs0_
  exact zEx hs0_
 rcases z7 with z7 | z7
 ·dsimp only [Kf] at hw h
  refine Zbf hw ?_
  try simp only [Y0,Ym,↓reduceIte,Nat.reduceEqDiff]
  have h:=Option.some.inj h;subst h
  refine Zi (.inr rfl) hU [(vB false)] (by omega) ?_
  simp only [push_cast,seval,↓reduceIte,Zb,Tryz.results15,hN0,hN]
 dsimp only [Kf] at hw h
 refine Yv hw ?_
 try simp only [Y0,Ym,↓reduceIte,Nat.reduceEqDiff]
 refine zD [] [] ?_
 refine zQ [4] ?_
 refine zW ?_
 have h:=Option.some.inj h;subst h
 refine Zi (.inr rfl) hU [(vB true)] (by omega) ?_
 simp only [push_cast,seval,↓reduceIte,Zb,Tryz.results15,hN0,hN]
theorem Zv4 {a0:(List Int)} {a1:Z0} {r:(Za×Int)} {O:Objs} {n:Nat} (h:Zfs a0 a1=some r):GTo Tryz.prog 5 [(sL (eI .u64) a0),.agg (Yd a1)] O n (.tup [.agg (Ze r.1),(vI r.2)]) O n:=by
 unfold Zfs at h
 refine Yj Zo Tryz.call5 Tryz.func5 rfl (Nat.le_of_ble_eq_true rfl) (Nat.le_refl _) fun hU => ?_
 have hN0:O n=none:=hU.fresh _ (Nat.le_refl _)
 have hN:∀ k,O (n+k)=none:=fun k=>hU.fresh _ (Nat.le_add_right _ _)
 show W _ _ _ _ ⟨39,[],[(0,(sL (eI .u64) a0)),(1,.agg (Yd a1))]⟩ (Zt O n []) _
 refine zQ [0,3,4] ?_
 obtain ⟨y25,hy25,h⟩:=bC h
 obtain ⟨y49,hy49,h⟩:=bC h
 refine Y8 (E':=⟨39,[],[(0,(sL (eI .u64) a0)),(4,.ref (n+1) 0),(6,.ref (n+3) 0),(7,(vI y49.2))]⟩) (O':=(Zt O n [none,some ⟨false,28,3,1,[(vI 0),nV,nV]⟩,none,some ⟨false,28,3,1,(Ze y49.1)⟩])) (n0:=(n+4)) ?_ ?_
 ·refine Yal Zo (by kernel_rfl) [.plain,.pass,.pass,.low,.low,.plain,.plain,.plain,.pass,.pass,.plain] (fun i=>i < (n+2)) [0,3] [1,2,4,5,6,7,8] [9,10] (.alt 1 (.alt 2 (.seq [4,5,6,7,8]) (.one 8 (.seq [2,4,5,6,7]))) (.one 8 (.seq [1,2,4,5,6,7]))) [.plain,.low] [] (by kernel_rfl) rfl ?_
  simp (maxSteps:=4000000) only [push_cast,seval,↓reduceIte,Zb,hN0,hN]
  repeat (with_reducible refine And.intro (by omega) ?_)
  try simp only [push_cast,seval,↓reduceIte,Zb,hN0,hN]
  refine And.intro ?_ ?_
  ·try simp only [push_cast,seval,↓reduceIte,Zb,hN0,hN]
   repeat (with_reducible refine And.intro (by first | exact Ju rfl | exact Qp) ?_)
   try simp only [push_cast,seval,↓reduceIte,Zb,hN0,hN]
   refine And.intro ?_ ?_
   ·try simp only [push_cast,seval,↓reduceIte,Zb,hN0,hN]
    repeat (with_reducible refine And.intro (by first | exact Ju rfl | exact Qp) ?_)
    refine GCalls.dropL (l':=[some ⟨false,24,4,1,(Yd a1)⟩,some ⟨false,28,3,1,[(vI 0),nV,nV]⟩,none]) hU rfl ?_ ((Zom hy25).then ?_)
    ·exact zSe
    try simp only [push_cast,seval,↓reduceIte,Zb,hN0,hN]
    repeat (with_reducible refine And.intro (by first | exact Ju rfl | exact Qp) ?_)
    try simp only [push_cast,seval,↓reduceIte,Zb,hN0,hN]
    repeat (with_reducible refine And.intro (by first | exact Ju rfl | exact Qp) ?_)
    first | refine PCallA.of (fun _ _=>Up hy49) ?_ | refine PCall.of (Up hy49) ?_
    try simp only [push_cast,seval,↓reduceIte,Zb,hN0,hN]
    repeat (with_reducible refine And.intro (by first | exact Ju rfl | exact Qp) ?_)
    exact zEf
   try simp only [push_cast,seval,↓reduceIte,Zb,hN0,hN]
   repeat (with_reducible refine And.intro (by first | exact Ju rfl | exact Qp) ?_)
   try simp only [push_cast,seval,↓reduceIte,Zb,hN0,hN]
   repeat (with_reducible refine And.intro (by first | exact Ju rfl | exact Qp) ?_)
   refine GCalls.dropL (l':=[some ⟨false,24,4,1,(Yd a1)⟩,some ⟨false,28,3,1,[(vI 0),nV,nV]⟩,none,some ⟨false,28,3,1,[(vI 0),nV,nV]⟩]) hU rfl ?_ ((Zom hy25).then ?_)
   ·exact zSe
   try simp only [push_cast,seval,↓reduceIte,Zb,hN0,hN]
   repeat (with_reducible refine And.intro (by first | exact Ju rfl | exact Qp) ?_)
   first | refine PCallA.of (fun _ _=>Up hy49) ?_ | refine PCall.of (Up hy49) ?_
   try simp only [push_cast,seval,↓reduceIte,Zb,hN0,hN]
   repeat (with_reducible refine And.intro (by first | exact Ju rfl | exact Qp) ?_)
   exact zEf
  try simp only [push_cast,seval,↓reduceIte,Zb,hN0,hN]
  repeat (with_reducible refine And.intro (by first | exact Ju rfl | exact Qp) ?_)
  try simp only [push_cast,seval,↓reduceIte,Zb,hN0,hN]
  repeat (with_reducible refine And.intro (by first | exact Ju rfl | exact Qp) ?_)
  refine GCalls.dropL (l':=[some ⟨false,24,4,1,(Yd a1)⟩,some ⟨false,28,3,1,[(vI 0),nV,nV]⟩,some ⟨false,28,3,1,[(vI 0),nV,nV]⟩,none]) hU rfl ?_ ((Zom hy25).then ?_)
  ·exact zSe
  try simp only [push_cast,seval,↓reduceIte,Zb,hN0,hN]
  repeat (with_reducible refine And.intro (by first | exact Ju rfl | exact Qp) ?_)
  first | refine PCallA.of (fun _ _=>Up hy49) ?_ | refine PCall.of (Up hy49) ?_
  try simp only [push_cast,seval,↓reduceIte,Zb,hN0,hN]
  repeat (with_reducible refine And.intro (by first | exact Ju rfl | exact Qp) ?_)
  refine And.intro rfl ?_
  refine Fit2.trans (E':=(⟨39,[],[(0,(sL (eI .u64) a0)),(4,.ref (n+1) 0),(6,.ref (n+2) 0),(7,(vI y49.2))]⟩:Env)) (O':=(Zt O n [none,some ⟨false,28,3,1,[(vI 0),nV,nV]⟩,some ⟨false,28,3,1,(Ze y49.1)⟩,none])) (n':=(n+4)) (Fit2.of (Z8 hU rfl rfl ?_) (by omega)) ?_
  ·exact zSe
  refine Jt (k:=4) (k':=4) hU [0,1,3,2] [0,1,3,2] rfl rfl rfl rfl ⟨rfl,rfl⟩ ?_
  exact zSe
 refine Zd ?_
 refine zQ [0,4,6,7,19] ?_
 refine Zj (t:=(y49.2 != 0)) rfl (fun c141 => ?_) (fun c141 => ?_)
 ·replace h:=Zn c141 h
  refine Zd ?_
  refine zRd [4,5] [false,true,false,false] ?_
  refine zW ?_
  have h:=Option.some.inj h;subst h
  refine Zi (.inr rfl) hU [.agg [(vI 0),nV,nV],(vI y49.2)] (by omega) ?_
  simp only [push_cast,seval,↓reduceIte,Zb,Tryz.results5,hN0,hN]
 replace h:=Zm c141 h
 refine Xs [0,4,6] [false,true,false,true] ?_
 refine Zd ?_
 obtain ⟨y134,hy134,h⟩:=bC h
 refine zCd (Znr hy134) [0,4,6,8,9] [false,true,false,true] ?_
 refine Zd ?_
 obtain ⟨z136,hz136,h⟩:=bC h
 refine Y8 (E':=⟨39,[],[(4,.ref (n+1) 0),(6,.ref (n+3) 0),(36,(vB z136))]⟩) (O':=(Zt O n [none,some ⟨false,28,3,1,[(vI 0),nV,nV]⟩,none,some ⟨false,28,3,1,(Ze y49.1)⟩])) (n0:=(n+4)) ?_ ?_
 ·rcases Bool.eq_false_or_eq_true y134.2 with c139 | c139
  ·replace hz136:=Zn c139 hz136
   obtain ⟨y138,hy138,hz136⟩:=bC hz136
   refine Vc [some true,some true,some true,some true] c139 ?_
   refine (Zh1 hy138).then ?_
   refine zX1 c139 ?_
   exact Ki hz136 c139
  replace hz136:=Zm c139 hz136
  refine Vc [some false,some false,some false,some false] c139 ?_
  exact Ki hz136 c139
 refine Zj (t:=z136) rfl (fun c140 => ?_) (fun c140 => ?_)
 ·replace h:=Zn c140 h
  refine Zd ?_
  refine zRd [4,5] [false,true,false,false] ?_
  refine zW ?_
  have h:=Option.some.inj h;subst h
  refine Zi (.inr rfl) hU [.agg [(vI 0),nV,nV],(vI 5)] (by omega) ?_
  simp only [push_cast,seval,↓reduceIte,Zb,Tryz.results5,hN0,hN]
 replace h:=Zm c140 h
 refine Xs [4,6] [false,true,false,true] ?_
 refine Zd ?_
 refine zRd [4,5] [false,true,false,false] ?_
 refine zW ?_
 have h:=Option.some.inj h;subst h
 refine Zi (.inr rfl) hU [.agg (Ze y49.1),(vI 0)] (by omega) ?_
 simp only [push_cast,seval,↓reduceIte,Zb,Tryz.results5,hN0,hN]
theorem Zay {a0:Int} {a1:Int} {r:Int} {O:Objs} {n:Nat} (h:Qn a0 a1=some r):GTo Tryz.prog 31 [(vI a0),(vI a1)] O n ((vI r)) O n:=by
 unfold Qn at h
 refine Yj Zo Tryz.call31 Tryz.func31 rfl (Nat.le_of_ble_eq_true rfl) (Nat.le_refl _) fun hU => ?_
 have hN0:O n=none:=hU.fresh _ (Nat.le_refl _)
 have hN:∀ k,O (n+k)=none:=fun k=>hU.fresh _ (Nat.le_add_right _ _)
 show W _ _ _ _ ⟨12,[],[(0,(vI a0)),(1,(vI a1))]⟩ (Zt O n []) _
 refine zQ [0,1] ?_
 refine Zd ?_
 refine zQ [0,1,6] ?_
 refine Zj (t:=(decide (a0 < 0))) rfl (fun c2 => ?_) (fun c2 => ?_)
 ·replace h:=Zn c2 h
  refine zQ [4] ?_
  refine zW ?_
  have h:=Option.some.inj h;subst h
  refine Zi (.inr rfl) hU [(vI 0)] (by omega) ?_
  simp only [push_cast,seval,↓reduceIte,Zb,Tryz.results31,hN0,hN]
 replace h:=Zm c2 h
 refine Xs [0,1] [] ?_
 refine Zd ?_
 refine zQ [0,1,9] ?_
 refine Zj (t:=(decide (a1 < a0))) rfl (fun c1 => ?_) (fun c1 => ?_)
 ·replace h:=Zn c1 h
  refine zQ [4] ?_
  refine zW ?_
  have h:=Option.some.inj h;subst h
  refine Zi (.inr rfl) hU [(vI a1)] (by omega) ?_
  simp only [push_cast,seval,↓reduceIte,Zb,Tryz.results31,hN0,hN]
 replace h:=Zm c1 h
 refine Xs [0] [] ?_
 refine zQ [4] ?_
 refine zW ?_
 have h:=Option.some.inj h;subst h
 refine Zi (.inr rfl) hU [(vI a0)] (by omega) ?_
 simp only [push_cast,seval,↓reduceIte,Zb,Tryz.results31,hN0,hN]
theorem Zop {a0:Z0} {r:Z0} {O:Objs} {n:Nat} (h:U3 a0=some r):GTo Tryz.prog 16 [.agg (Yd a0)] O n (.agg (Yd r)) O n:=by
 unfold U3 at h
 refine Yj Zo Tryz.call16 Tryz.func16 rfl (Nat.le_of_ble_eq_true rfl) (Nat.le_refl _) fun hU => ?_
 have hN0:O n=none:=hU.fresh _ (Nat.le_refl _)
 have hN:∀ k,O (n+k)=none:=fun k=>hU.fresh _ (Nat.le_add_right _ _)
 show W _ _ _ _ ⟨16,[],[(0,.agg (Yd a0))]⟩ (Zt O n []) _
 refine zQ [1,2] ?_
 refine Zd ?_
 obtain ⟨y5,hy5,h⟩:=bC h
 obtain ⟨y6,hy6,h⟩:=bC h
 obtain ⟨y7,hy7,h⟩:=bC h
 obtain ⟨y8,hy8,h⟩:=bC h
 refine Zc4 Zo (by kernel_rfl) [false,false,false,false,false,false,false,false,false,false,false,false,false,true] [] (by kernel_rfl) ?_
 refine zS ?_
 refine PCall.of (Zay hy5) ?_
 refine zS ?_
 refine PCall.of (Zay hy6) ?_
 refine zS ?_
 refine PCall.of (Zay hy7) ?_
 refine zS ?_
 refine PCall.of (Zay hy8) ?_
 refine zS ?_
 refine zD [2] [false,true] ?_
 refine zW ?_
 have h:=Option.some.inj h;subst h
 refine Zi (.inr rfl) hU [.agg [(vI y5),(vI y6),(vI y7),(vI y8)]] (by omega) ?_
 simp only [push_cast,seval,↓reduceIte,Zb,Tryz.results16,hN0,hN]
theorem Zax {a0:(List (List Int))} {a1:Int} {a2:Int} {r:Bool} {O:Objs} {n:Nat} (h:Kt a0 a1 a2=some r):GTo Tryz.prog 58 [(sL (eL (eI .u64)) a0),(vI a1),(vI a2)] O n ((vB r)) O n:=by
 unfold Kt at h
 refine Yj Zo Tryz.call58 Tryz.func58 rfl (Nat.le_of_ble_eq_true rfl) (Nat.le_refl _) fun hU => ?_
 have hN0:O n=none:=hU.fresh _ (Nat.le_refl _)
 have hN:∀ k,O (n+k)=none:=fun k=>hU.fresh _ (Nat.le_add_right _ _)
 show W _ _ _ _ ⟨28,[],[(0,(sL (eL (eI .u64)) a0)),(1,(vI a1)),(2,(vI a2))]⟩ (Zt O n []) _
 refine zQ [0,1,2] ?_
 obtain ⟨z2,hz2,h⟩:=bC h
 refine Y8 (E':=⟨28,[],[(6,(vB z2))]⟩) (O':=(Zt O n [])) (n0:=n) ?_ ?_
 ·rcases Bool.eq_false_or_eq_true (decide (0≤a1)) with c5 | c5
  ·replace hz2:=Zn c5 hz2
   rcases Bool.eq_false_or_eq_true (decide (a1 < (a0.length:Int))) with c6 | c6
   ·replace hz2:=Zn c6 hz2
    try rw [c6] at c5
    rcases Bool.eq_false_or_eq_true (decide (0≤a2)) with c7 | c7
    ·replace hz2:=Zn c7 hz2
     try rw [c7] at c5
     try rw [c7] at c6
     obtain ⟨x4,hx4,ax4,bx4,cx4,hz2⟩:=bE (f:=(eL (eI .u64))) Zc9 (fun _=>rfl) (by decide) hz2
     refine Yag [none,none,none,none,none,none,some true,some true,some true,some true,some true,some true,some true] c5 c6 c7 ax4 bx4 cx4 ?_
     refine zG ?_
     exact Yb0 hz2 c5 c6 c7 ax4 bx4 cx4
    replace hz2:=Zm c7 hz2
    try rw [c7] at c5
    try rw [c7] at c6
    refine Zku [none,none,none,none,none,none,some false,some false,some false,some false,some false,some false,some false] c5 c6 c7 ?_
    refine zG ?_
    exact Z32 hz2 c5 c6 c7
   replace hz2:=Zm c6 hz2
   try rw [c6] at c5
   refine Q5 [none,none,none,none,none,none,some false,some false,some false,some false,some false,some false,some false] c5 c6 ?_
   refine zG ?_
   exact Zn0 hz2 c5 c6
  replace hz2:=Zm c5 hz2
  refine Vc [none,none,none,none,none,none,some false,some false,some false,some false,some false,some false,some false] c5 ?_
  refine zG ?_
  exact Ki hz2 c5
 refine zW ?_
 have h:=Option.some.inj h;subst h
 refine Zi (.inr rfl) hU [(vB z2)] (by omega) ?_
 simp only [push_cast,seval,↓reduceIte,Zb,Tryz.results58,hN0,hN]
theorem X3 {a0:Int} {a1:Int} {a2:Int} {r:Int} {O:Objs} {n:Nat} (h:Ya a0 a1 a2=some r):GTo Tryz.prog 61 [.val (.int .u64 a0),(vI a1),(vI a2)] O n ((vI r)) O n:=by
 unfold Ya at h
 refine Yj Zo Tryz.call61 Tryz.func61 rfl (Nat.le_of_ble_eq_true rfl) (Nat.le_refl _) fun hU => ?_
 have hN0:O n=none:=hU.fresh _ (Nat.le_refl _)
 have hN:∀ k,O (n+k)=none:=fun k=>hU.fresh _ (Nat.le_add_right _ _)
 show W _ _ _ _ ⟨34,[],[(0,.val (.int .u64 a0)),(1,(vI a1)),(2,(vI a2))]⟩ (Zt O n []) _
 refine zQ [0,1,2] ?_
 refine Zd ?_
 refine zQd [0,1,2,7] [0,1,2,7] [] ?_
 obtain ⟨z2,hz2,h⟩:=bC h
 refine Yv (E':=⟨34,[],[(0,.val (.int .u64 z2)),(2,(vI a2))]⟩) (O':=(Zt O n [])) (n0:=n) ?_ ?_
 ·refine Y2 hz2 (fun s0_=>⟨34,[],[(0,.val (.int .u64 s0_.1)),(1,(vI a1)),(2,(vI a2)),(7,(vI s0_.2))]⟩) (fun s0_=>(Zt O n [])) (fun z2=>JX 0 n (⟨34,[],[(0,.val (.int .u64 z2)),(2,(vI a2))]⟩:Env) (Zt O n []) n) ?_
  intro s0_ x0_ hs0_
  unfold Zae at hs0_
  try dsimp only
  refine Zd ?_
  refine zQ [0,1,2,7,13] ?_
  refine Zj (t:=(decide (s0_.2 < a1))) rfl (fun c1 => ?_) (fun c1 => ?_)
  ·replace hs0_:=Zn c1 hs0_
   refine Xs [0,1,2,7] [] ?_
   refine Zd ?_
   refine Yh ?_
   refine zRd [0,1,2,7] [] ?_
   refine zR ?_
   exact zEn hs0_
  replace hs0_:=Zm c1 hs0_
  exact zEx hs0_
 try simp only [Y0,Ym,↓reduceIte,Nat.reduceEqDiff]
 refine zD [0,2] [] ?_
 refine zQ [0,2,8,9] ?_
 refine Zd ?_
 refine zQd [0,2,8,9,10] [0,2,8,9,10] [] ?_
 obtain ⟨z6,hz6,h⟩:=bC h
 refine Yv (E':=⟨34,[],[(8,(vI z6))]⟩) (O':=(Zt O n [])) (n0:=n) ?_ ?_
 ·refine Y2 hz6 (fun s1_=>⟨34,[],[(0,.val (.int .u64 s1_.1)),(2,(vI a2)),(8,(vI s1_.2.1)),(9,(vI s1_.2.2.1)),(10,(vI s1_.2.2.2))]⟩) (fun s1_=>(Zt O n [])) (fun z6=>JX 2 n (⟨34,[],[(8,(vI z6))]⟩:Env) (Zt O n []) n) ?_
  intro s1_ x1_ hs1_
  unfold Zaf at hs1_
  try dsimp only
  refine Zd ?_
  refine zQ [0,2,8,9,10,20] ?_
  refine Zj (t:=(decide (s1_.2.2.2 < a2))) rfl (fun c5 => ?_) (fun c5 => ?_)
  ·replace hs1_:=Zn c5 hs1_
   refine Xs [0,2,8,9,10] [] ?_
   refine Zd ?_
   refine Yh ?_
   obtain ⟨z3,hz3,hs1_⟩:=bC hs1_
   refine Y8 (E':=⟨34,[],[(0,.val (.int .u64 s1_.1)),(2,(vI a2)),(8,(vI z3)),(9,(vI s1_.2.2.1)),(10,(vI s1_.2.2.2))]⟩) (O':=(Zt O n [])) (n0:=n) ?_ ?_
   ·refine zQ [0,2,8,9,10,25] ?_
    refine Zj (t:=((Int.tmod s1_.1 2) == 1)) rfl (fun c4 => ?_) (fun c4 => ?_)
    ·replace hz3:=Zn c4 hz3
     refine zR ?_
     exact zEn hz3
    replace hz3:=Zm c4 hz3
    refine zK ?_
    exact zEn hz3
   refine zQ [0,2,8,9,10] ?_
   refine zRd [0,2,8,9,10] [] ?_
   refine zR ?_
   exact zEn hs1_
  replace hs1_:=Zm c5 hs1_
  exact zEx hs1_
 try simp only [Y0,Ym,↓reduceIte,Nat.reduceEqDiff]
 refine zD [8] [] ?_
 refine zQ [6] ?_
 refine zW ?_
 have h:=Option.some.inj h;subst h
 refine Zi (.inr rfl) hU [(vI z6)] (by omega) ?_
 simp only [push_cast,seval,↓reduceIte,Zb,Tryz.results61,hN0,hN]
theorem Jb {a0:Int} {r:Zx} {O:Objs} {n:Nat} (h:Xp a0=some r):GTo Tryz.prog 33 [.val (.int .u64 a0)] O n (.agg (Yq r)) O n:=by
 unfold Xp at h
 refine Yj Zo Tryz.call33 Tryz.func33 rfl (Nat.le_of_ble_eq_true rfl) (Nat.le_refl _) fun hU => ?_
 have hN0:O n=none:=hU.fresh _ (Nat.le_refl _)
 have hN:∀ k,O (n+k)=none:=fun k=>hU.fresh _ (Nat.le_add_right _ _)
 show W _ _ _ _ ⟨42,[],[(0,.val (.int .u64 a0))]⟩ (Zt O n []) _
 refine zQ [0,2] ?_
 refine Zd ?_
 refine zQ [0,2,5] ?_
 refine Zj (t:=(a0 == 0)) rfl (fun c24 => ?_) (fun c24 => ?_)
 ·replace h:=Zn c24 h
  refine Zd ?_
  refine zRd [2] [true] ?_
  refine zW ?_
  have h:=Option.some.inj h;subst h
  refine Zi (.inr rfl) hU [.agg [(vI 0),(vI 0),(vI 0),(vI 0),(vI 0),(vI 0),(vI 0),(vB false)]] (by omega) ?_
  simp only [push_cast,seval,↓reduceIte,Zb,Tryz.results33,hN0,hN]
 replace h:=Zm c24 h
 refine Xs [0,2] [true] ?_
 refine Zd ?_
 obtain ⟨y2,hy2,h⟩:=bC h
 refine zCd (X3 hy2) [0,2,3] [true] ?_
 obtain ⟨z3,hz3,h⟩:=bC h
 refine Y8 (E':=⟨42,[],[(0,.val (.int .u64 a0)),(2,.ref n 0),(3,(vI z3))]⟩) (O':=(Zt O n [some ⟨false,71,8,1,[(vI 0),(vI 0),(vI 0),(vI 0),(vI 0),(vI 0),(vI 0),(vB false)]⟩])) (n0:=(n+1)) ?_ ?_
 ·refine zQ [0,2,3,10] ?_
  refine Zj (t:=(decide (536870912≤y2))) rfl (fun c4 => ?_) (fun c4 => ?_)
  ·replace hz3:=Zn c4 hz3
   refine zR ?_
   exact zEn hz3
  replace hz3:=Zm c4 hz3
  refine zK ?_
  exact zEn hz3
 refine Zd ?_
 refine Zd ?_
 obtain ⟨y6,hy6,h⟩:=bC h
 refine zCd (X3 hy6) [0,2,3,14] [true] ?_
 refine Yh ?_
 refine zQ [0,2,3,14,15] ?_
 refine Zj (t:=(y6 == 0)) rfl (fun c23 => ?_) (fun c23 => ?_)
 ·replace h:=Zn c23 h
  refine Zd ?_
  obtain ⟨y9,hy9,h⟩:=bC h
  obtain ⟨y10,hy10,h⟩:=bC h
  refine zC (X3 hy9) ?_
  refine zTs (X3 hy10) ?_
  refine zD [2] [true] ?_
  refine zW ?_
  have h:=Option.some.inj h;subst h
  refine Zi (.inr rfl) hU [.agg [(vI 1),(vI z3),(vI y9),(vI y10),(vI 0),(vI 0),(vI 0),(vB false)]] (by omega) ?_
  simp only [push_cast,seval,↓reduceIte,Zb,Tryz.results33,hN0,hN]
 replace h:=Zm c23 h
 refine zQ [0,2,3,14,23] ?_
 refine Zj (t:=(y6 == 1)) rfl (fun c22 => ?_) (fun c22 => ?_)
 ·replace h:=Zn c22 h
  refine Zd ?_
  obtain ⟨y13,hy13,h⟩:=bC h
  obtain ⟨y14,hy14,h⟩:=bC h
  refine zC (X3 hy13) ?_
  refine zTs (X3 hy14) ?_
  refine zD [2] [true] ?_
  refine zW ?_
  have h:=Option.some.inj h;subst h
  refine Zi (.inr rfl) hU [.agg [(vI 2),(vI z3),(vI 0),(vI 0),(vI y13),(vI y14),(vI 0),(vB false)]] (by omega) ?_
  simp only [push_cast,seval,↓reduceIte,Zb,Tryz.results33,hN0,hN]
 replace h:=Zm c22 h
 refine zQ [0,2,31] ?_
 refine Zj (t:=(y6 == 2)) rfl (fun c21 => ?_) (fun c21 => ?_)
 ·replace h:=Zn c21 h
  refine Zd ?_
  obtain ⟨y18,hy18,h⟩:=bC h
  obtain ⟨y19,hy19,h⟩:=bC h
  obtain ⟨y20,hy20,h⟩:=bC h
  refine zC (X3 hy18) ?_
  refine zTs (X3 hy19) ?_
  refine zTs (X3 hy20) ?_
  refine zD [2] [true] ?_
  refine zW ?_
  have h:=Option.some.inj h;subst h
  refine Zi (.inr rfl) hU [.agg [(vI 3),(vI y18),(vI 0),(vI 0),(vI 0),(vI 0),(vI y19),(vB (y20 == 1))]] (by omega) ?_
  simp only [push_cast,seval,↓reduceIte,Zb,Tryz.results33,hN0,hN]
 replace h:=Zm c21 h
 refine Xs [2] [true] ?_
 refine Zd ?_
 refine zRd [2] [true] ?_
 refine zW ?_
 have h:=Option.some.inj h;subst h
 refine Zi (.inr rfl) hU [.agg [(vI 4),(vI 0),(vI 0),(vI 0),(vI 0),(vI 0),(vI 0),(vB false)]] (by omega) ?_
 simp only [push_cast,seval,↓reduceIte,Zb,Tryz.results33,hN0,hN]
theorem Zie {a0:Zx} {r:Int} {O:Objs} {n:Nat} (h:Kl a0=some r):GTo Tryz.prog 59 [.agg (Yq a0)] O n ((vI r)) O n:=by
 unfold Kl at h
 refine Yj Zo Tryz.call59 Tryz.func59 rfl (Nat.le_of_ble_eq_true rfl) (Nat.le_refl _) fun hU => ?_
 have hN0:O n=none:=hU.fresh _ (Nat.le_refl _)
 have hN:∀ k,O (n+k)=none:=fun k=>hU.fresh _ (Nat.le_add_right _ _)
 show W _ _ _ _ ⟨14,[],[(0,.agg (Yq a0))]⟩ (Zt O n []) _
 refine zQ [1] ?_
 refine Zd ?_
 refine zQ [1,5] ?_
 refine Zj (t:=(a0.Kind == 4)) rfl (fun c2 => ?_) (fun c2 => ?_)
 ·replace h:=Zn c2 h
  refine zQ [2] ?_
  refine zW ?_
  have h:=Option.some.inj h;subst h
  refine Zi (.inr rfl) hU [(vI 9)] (by omega) ?_
  simp only [push_cast,seval,↓reduceIte,Zb,Tryz.results59,hN0,hN]
 replace h:=Zm c2 h
 refine Xs [1] [true] ?_
 refine Zd ?_
 refine zQD [13] [none,none,none] ?_
 refine Zj (t:=(cond (a0.Kind != 1) (a0.Kind != 2) false)) rfl (fun c1 => ?_) (fun c1 => ?_)
 ·replace h:=Zn c1 h
  refine zQ [2] ?_
  refine zW ?_
  have h:=Option.some.inj h;subst h
  refine Zi (.inr rfl) hU [(vI 8)] (by omega) ?_
  simp only [push_cast,seval,↓reduceIte,Zb,Tryz.results59,hN0,hN]
 replace h:=Zm c1 h
 refine Xs [] [false] ?_
 refine zQ [2] ?_
 refine zW ?_
 have h:=Option.some.inj h;subst h
 refine Zi (.inr rfl) hU [(vI 0)] (by omega) ?_
 simp only [push_cast,seval,↓reduceIte,Zb,Tryz.results59,hN0,hN]
theorem Zrq {a0:Zx} {r:Int} {O:Objs} {n:Nat} (h:Gw a0=some r):GTo Tryz.prog 92 [.agg (Yq a0)] O n ((vI r)) O n:=by
 unfold Gw at h
 refine Yj Zo Tryz.call92 Tryz.func92 rfl (Nat.le_of_ble_eq_true rfl) (Nat.le_refl _) fun hU => ?_
 have hN0:O n=none:=hU.fresh _ (Nat.le_refl _)
 have hN:∀ k,O (n+k)=none:=fun k=>hU.fresh _ (Nat.le_add_right _ _)
 show W _ _ _ _ ⟨65,[],[(0,.agg (Yq a0))]⟩ (Zt O n []) _
 refine zQ [1] ?_
 refine Zd ?_
 refine zQ [1,6] ?_
 refine Zj (t:=(a0.Kind == 1)) rfl (fun c17 => ?_) (fun c17 => ?_)
 ·replace h:=Zn c17 h
  refine zQ [2] ?_
  refine zW ?_
  have h:=Option.some.inj h;subst h
  refine Zi (.inr rfl) hU [(vI (IntKind.i64.wrap (a0.Data+a0.Ptrs)))] (by omega) ?_
  simp only [push_cast,seval,↓reduceIte,Zb,Tryz.results92,hN0,hN]
 replace h:=Zm c17 h
 refine Xs [1] [true] ?_
 refine Zd ?_
 refine zQ [1,14] ?_
 refine Zj (t:=(a0.Kind != 2)) rfl (fun c16 => ?_) (fun c16 => ?_)
 ·replace h:=Zn c16 h
  refine zQ [2] ?_
  refine zW ?_
  have h:=Option.some.inj h;subst h
  refine Zi (.inr rfl) hU [(vI (-1))] (by omega) ?_
  simp only [push_cast,seval,↓reduceIte,Zb,Tryz.results92,hN0,hN]
 replace h:=Zm c16 h
 refine Xs [1] [true] ?_
 refine Zd ?_
 refine zQ [1,17] ?_
 refine Zj (t:=(a0.Code == 7)) rfl (fun c15 => ?_) (fun c15 => ?_)
 ·replace h:=Zn c15 h
  refine zQ [2] ?_
  refine zW ?_
  have h:=Option.some.inj h;subst h
  refine Zi (.inr rfl) hU [(vI (IntKind.i64.wrap (a0.Count+1)))] (by omega) ?_
  simp only [push_cast,seval,↓reduceIte,Zb,Tryz.results92,hN0,hN]
 replace h:=Zm c15 h
 refine Xs [1] [true] ?_
 refine Zd ?_
 refine zQD [1,38] [none,none,none,none,none,none,none,none,none] ?_
 refine Zj (t:=(cond (cond (cond (decide (a0.Code < 0)) true (decide (6 < a0.Code))) true (decide (a0.Count < 0))) true (decide (536870912≤a0.Count)))) rfl (fun c14 => ?_) (fun c14 => ?_)
 ·replace h:=Zn c14 h
  refine zQ [2] ?_
  refine zW ?_
  have h:=Option.some.inj h;subst h
  refine Zi (.inr rfl) hU [(vI (-1))] (by omega) ?_
  simp only [push_cast,seval,↓reduceIte,Zb,Tryz.results92,hN0,hN]
 replace h:=Zm c14 h
 refine Xs [1] [true] ?_
 refine zQ [1,3] ?_
 obtain ⟨z1,hz1,h⟩:=bC h
 refine Z5j (J:=(Kf (fun z1=>JN n (⟨65,[],[(1,.ref n 0),(3,(vI z1))]⟩:Env) (Zt O n [some ⟨false,71,8,1,(Yq a0)⟩]) (n+1)) (fun z1=>JR n (⟨65,[],[(2,(vI 0))]⟩:Env) (Zt O n [none]) (n+1)))) (z:=z1) ?_ fun hw => ?_
 ·refine zQ [1,3,40] ?_
  refine Yh ?_
  refine zQ [1,3,40,41] ?_
  refine Zj (t:=(a0.Code == 0)) rfl (fun c6 => ?_) (fun c6 => ?_)
  ·replace hz1:=Zn c6 hz1
   refine zQ [2] ?_
   refine zW ?_
   exact zEn hz1
  replace hz1:=Zm c6 hz1
  refine zQ [1,3,40,43] ?_
  refine Zj (t:=(a0.Code == 1)) rfl (fun c5 => ?_) (fun c5 => ?_)
  ·replace hz1:=Zn c5 hz1
   refine zR ?_
   exact zEn hz1
  replace hz1:=Zm c5 hz1
  refine zQ [1,3,40,45] ?_
  refine Zj (t:=(a0.Code == 2)) rfl (fun c4 => ?_) (fun c4 => ?_)
  ·replace hz1:=Zn c4 hz1
   refine zR ?_
   exact zEn hz1
  replace hz1:=Zm c4 hz1
  refine zQ [1,3,40,47] ?_
  refine Zj (t:=(a0.Code == 3)) rfl (fun c3 => ?_) (fun c3 => ?_)
  ·replace hz1:=Zn c3 hz1
   refine zR ?_
   exact zEn hz1
  replace hz1:=Zm c3 hz1
  refine zQ [1,3,49] ?_
  refine Zj (t:=(a0.Code == 4)) rfl (fun c2 => ?_) (fun c2 => ?_)
  ·replace hz1:=Zn c2 hz1
   refine zR ?_
   exact zEn hz1
  replace hz1:=Zm c2 hz1
  refine zK ?_
  exact zEn hz1
 rcases z1 with z1 | z1
 ·dsimp only [Kf] at hw h
  refine Y8 hw ?_
  refine Zd ?_
  obtain ⟨pu8,h⟩:=bG h
  refine Zb4 [1,3,55] (Z5 Zo [] ?_)
  simp only [push_cast,seval,↓reduceIte,Zb,pu8,hN0,hN]
  refine Zj (t:=(decide (0 < (Int.tmod a0.Count z1)))) rfl (fun c13 => ?_) (fun c13 => ?_)
  ·replace h:=Zn c13 h
   obtain ⟨pu10,h⟩:=bG h
   refine Zb4 [2] (Z5 Zo [] ?_)
   simp only [push_cast,seval,↓reduceIte,Zb,pu10,hN0,hN]
   refine zW ?_
   have h:=Option.some.inj h;subst h
   refine Zi (.inr rfl) hU [(vI (IntKind.i64.wrap ((IntKind.i64.wrap (Int.tdiv a0.Count z1))+1)))] (by omega) ?_
   simp only [push_cast,seval,↓reduceIte,Zb,Tryz.results92,hN0,hN]
  replace h:=Zm c13 h
  refine Xs [1,3] [true] ?_
  obtain ⟨pu12,h⟩:=bG h
  refine Zb4 [2] (Z5 Zo [] ?_)
  simp only [push_cast,seval,↓reduceIte,Zb,pu12,hN0,hN]
  refine zW ?_
  have h:=Option.some.inj h;subst h
  refine Zi (.inr rfl) hU [(vI (IntKind.i64.wrap (Int.tdiv a0.Count z1)))] (by omega) ?_
  simp only [push_cast,seval,↓reduceIte,Zb,Tryz.results92,hN0,hN]
 dsimp only [Kf] at hw h
 refine Z0i hw ?_
 try simp only [Y0,Ym]
 have h:=Option.some.inj h;subst h
 refine Zi (.inr rfl) hU [(vI 0)] (by omega) ?_
 simp only [push_cast,seval,↓reduceIte,Zb,Tryz.results92,hN0,hN]
theorem Zif {a0:(List (List Int))} {a1:Yf} {r:(Yf×Int)} {O:Objs} {n:Nat} (h:Km a0 a1=some r):GTo Tryz.prog 60 [(sL (eL (eI .u64)) a0),.agg [(vI a1.P.Kind),(vI a1.P.Off),(vI a1.P.Data),(vI a1.P.Ptrs),(vI a1.P.Code),(vI a1.P.Count),(vI a1.P.Segment),(vB a1.P.Double),(vI a1.Segment),(vI a1.At)]] O n (.tup [.agg [(vI r.1.P.Kind),(vI r.1.P.Off),(vI r.1.P.Data),(vI r.1.P.Ptrs),(vI r.1.P.Code),(vI r.1.P.Count),(vI r.1.P.Segment),(vB r.1.P.Double),(vI r.1.Segment),(vI r.1.At)],(vI r.2)]) O n:=by
 unfold Km at h
 refine Yj Zo Tryz.call60 Tryz.func60 rfl (Nat.le_of_ble_eq_true rfl) (Nat.le_refl _) fun hU => ?_
 have hN0:O n=none:=hU.fresh _ (Nat.le_refl _)
 have hN:∀ k,O (n+k)=none:=fun k=>hU.fresh _ (Nat.le_add_right _ _)
 show W _ _ _ _ ⟨53,[],[(0,(sL (eL (eI .u64)) a0)),(1,.agg [(vI a1.P.Kind),(vI a1.P.Off),(vI a1.P.Data),(vI a1.P.Ptrs),(vI a1.P.Code),(vI a1.P.Count),(vI a1.P.Segment),(vB a1.P.Double),(vI a1.Segment),(vI a1.At)])]⟩ (Zt O n []) _
 refine zQ [0,3,4] ?_
 refine Zd ?_
 obtain ⟨y2,hy2,h⟩:=bC h
 refine zCd (Zrq hy2) [0,3,4,6] [true,true] ?_
 refine Zd ?_
 obtain ⟨z5,hz5,h⟩:=bC h
 refine Y8 (E':=⟨53,[],[(3,.ref n 0),(4,.ref (n+1) 0),(48,(vB z5))]⟩) (O':=(Zt O n [some ⟨false,73,10,1,[(vI a1.P.Kind),(vI a1.P.Off),(vI a1.P.Data),(vI a1.P.Ptrs),(vI a1.P.Code),(vI a1.P.Count),(vI a1.P.Segment),(vB a1.P.Double),(vI a1.Segment),(vI a1.At)]⟩,some ⟨false,73,10,1,[(vI 0),(vI 0),(vI 0),(vI 0),(vI 0),(vI 0),(vI 0),(vB false),(vI 0),(vI 0)]⟩])) (n0:=(n+2)) ?_ ?_
 ·rcases Bool.eq_false_or_eq_true (decide (a1.Segment < 0)) with c10 | c10
  ·replace hz5:=Zn c10 hz5
   refine X1 Zo (by kernel_rfl) [none,none,none,none,none,none,none,none,some false,some false,some false,some false,some false,some false,some false,some false,some false,some false,some false,some false,some false,some false,some false,some false,some false,some false,some false,some false] (by kernel_rfl) ?_
   refine zX1 c10 ?_
   refine zG ?_
   exact Ki hz5 c10
  replace hz5:=Zm c10 hz5
  rcases Bool.eq_false_or_eq_true (decide ((a0.length:Int)≤a1.Segment)) with c11 | c11
  ·replace hz5:=Zn c11 hz5
   try rw [c11] at c10
   refine X1 Zo (by kernel_rfl) [none,none,none,none,none,none,none,none,some false,some false,some false,some false,some false,some false,some false,some false,some false,some false,some false,some false,some false,some false,some false,some false,some false,some false,some false,some false] (by kernel_rfl) ?_
   refine zX2 c10 c11 ?_
   refine zG ?_
   exact Zn0 hz5 c10 c11
  replace hz5:=Zm c11 hz5
  try rw [c11] at c10
  rcases Bool.eq_false_or_eq_true (decide (a1.At < 0)) with c12 | c12
  ·replace hz5:=Zn c12 hz5
   try rw [c12] at c10
   try rw [c12] at c11
   refine X1 Zo (by kernel_rfl) [none,none,none,none,none,none,none,none,some false,some false,some false,some false,some false,some false,some false,some false,some false,some false,some false,some false,some false,some false,some false,some false,some false,some false,some false,some false] (by kernel_rfl) ?_
   refine zX3 c10 c11 c12 ?_
   refine zG ?_
   exact Z32 hz5 c10 c11 c12
  replace hz5:=Zm c12 hz5
  try rw [c12] at c10
  try rw [c12] at c11
  obtain ⟨x8,hx8,ax8,bx8,cx8,hz5⟩:=bE (f:=(eL (eI .u64))) Zc9 (fun _=>rfl) (by decide) hz5
  rcases Bool.eq_false_or_eq_true (decide ((x8.length:Int) < a1.At)) with c13 | c13
  ·replace hz5:=Zn c13 hz5
   try rw [c13] at c10
   try rw [c13] at c11
   try rw [c13] at c12
   refine X1 Zo (by kernel_rfl) [none,none,none,none,none,none,none,none,some true,some true,some true,some true,some true,some true,some true,some true,some true,some false,some false,some false,some false,some false,some false,some false,some false,some false,some false,some false] (by kernel_rfl) ?_
   refine zF7 c10 c11 c12 ax8 bx8 cx8 c13 ?_
   refine zG ?_
   exact Yaf hz5 c10 c11 c12 ax8 bx8 cx8 c13
  replace hz5:=Zm c13 hz5
  try rw [c13] at c10
  try rw [c13] at c11
  try rw [c13] at c12
  refine X1 Zo (by kernel_rfl) [none,none,none,none,none,none,none,none,some true,some true,some true,some true,some true,some true,some true,some true,some true,some true,some true,some true,some true,some true,some true,some true,some true,some true,some true,some true] (by kernel_rfl) ?_
  refine zF7 c10 c11 c12 ax8 bx8 cx8 c13 ?_
  refine zG ?_
  exact Yaf hz5 c10 c11 c12 ax8 bx8 cx8 c13
 refine Zj (t:=z5) rfl (fun c14 => ?_) (fun c14 => ?_)
 ·replace h:=Zn c14 h
  refine Zd ?_
  refine zRd [4,5] [false,true] ?_
  refine zW ?_
  have h:=Option.some.inj h;subst h
  refine Zi (.inr rfl) hU [.agg [(vI 0),(vI 0),(vI 0),(vI 0),(vI 0),(vI 0),(vI 0),(vB false),(vI 0),(vI 0)],(vI 7)] (by omega) ?_
  simp only [push_cast,seval,↓reduceIte,Zb,Tryz.results60,hN0,hN]
 replace h:=Zm c14 h
 refine Xs [3,4] [true,true] ?_
 refine Zd ?_
 refine zRd [3,4] [true,true] ?_
 refine Zd ?_
 refine zRd [4,5] [false,true] ?_
 refine zW ?_
 have h:=Option.some.inj h;subst h
 refine Zi (.inr rfl) hU [.agg [(vI a1.P.Kind),(vI 0),(vI a1.P.Data),(vI a1.P.Ptrs),(vI a1.P.Code),(vI a1.P.Count),(vI a1.P.Segment),(vB a1.P.Double),(vI a1.Segment),(vI a1.At)],(vI 0)] (by omega) ?_
 simp only [push_cast,seval,↓reduceIte,Zb,Tryz.results60,hN0,hN]
end Go.Proofs.YtpfbdlcnfekdkaaGreat
