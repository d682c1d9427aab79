/- Part CM6 of this seat's mirrors: functions of the seat's program, and the plain functions that they are; each theorem bears its own conditions. -/
import Derived.Test.YtmlcnhambfkjaaaGreatCE
import Derived.Test.YtmlcnhambfkjaaaGreatCM4
namespace Go.Proofs.YtmlcnhambfkjaaaGreat
open Go.RowKit
set_option linter.unusedVariables false
set_option linter.unusedSimpArgs false
set_option maxRecDepth 100000
set_option maxHeartbeats 4000000
attribute [local push_cast] vI vB nV sL oR Zm Kp Kh Y4 Zj Gt Kz Qe Z4 Zy8 Zy7 Zzv Zzu Xc Yp Ztl Zoc Zob onW Qy Zh0 Zf8 Zx2 Zxd Zrm Zrq Zrl Zrp Zu3 Zuz Zro Zu2 Zu1 Zu0 Zrn Zux Zpb evS wok Ki Op.operands Call.operands gop onK onP atK List.all_cons List.all_nil Bool.and_true Bool.true_and Bool.and_self Value.oneCell' List.take_zero List.take_succ_cons List.take_nil List.drop_zero List.drop_succ_cons List.drop_nil List.append_nil Nat.add_zero Nat.zero_add Za7 Y0 ev K0 Zw9 Zy1 Zy0 Zy6 Zy4 Zy5 Zy2 Zy3 Zyz Zye Z1r Z43 Zoh Zh2 Zm6 Zh1 Zq3 Zky Zlv Zl0 Zn5 Zn1 Zly Zn4 Zn3 Zn2 Zlx Znz Zlw Zlz Zkh Zn0 Zp2 Zoe Ze1 Zog Ze2 Zp1 Zoa Z3l bLo bHi bMx Zh3 Zpz Z9b Zn9 Zp0 Zkj Zc5 Z1u Z9d Zn8 Zkw Z9i Zhz Ya7 Ztq Ztu Ztp Ztt Zzj Zzf Zzd Zq5 Ztr Zzi Zzh Zzg Zts Zze Zpt Zxc Zuq Zo1 Zo0 pop TK.isAgg Zzo Zzs Zzn Zzr Zug Z50 Z5w Zzq Z5z Z5y Z5x Zzp Z5v G.under G.unders List.getD_cons_zero List.getD_cons_succ List.set_cons_zero List.set_cons_succ List.map_cons List.map_nil List.toList_toArray Array.toList_append Option.toArray_none Option.toArray_some Array.toList_map Option.map_some Option.map_none Option.bind_some Option.bind_none List.getElem?_cons_zero List.getElem?_cons_succ List.getElem?_nil List.nil_append List.cons_append List.replicate_succ List.replicate_zero List.length_cons List.length_nil and_true true_and and_false false_and Bool.true_eq_false Bool.false_eq_true forall_const false_implies implies_true IntKind.bits if_true if_false ite_true ite_false eq_self true_implies false_or or_false or_true true_or not_true_eq_false not_false_eq_true decide_true decide_false decide_eq_true_eq decide_eq_false_iff_not beq_iff_eq bne_iff_ne ne_eq Bool.not_eq_true Bool.not_eq_false beq_eq_false_iff_ne bne_eq_false_iff_eq beq_self_eq_true bne_self_eq_false Option.some.injEq exists_eq_left' exists_eq_left ge_iff_le gt_iff_lt decide_not Bool.not_true Bool.not_false imp_self Z46 cond_true cond_false Yit Yir Bool.not_not Bool.and_false Bool.false_and Bool.or_true Bool.true_or Bool.or_false Bool.false_or Zhg Zsz Zjd Zhh Za3 Uu Option.join_some Nat.add_assoc Int.toNat_natCast eI eB eS eL Ge Zm7 Zl4 Zzb Zy9 Zza Ybi Ye7 Zno Zmc Zz2 Zz0 Zz1 Z5u Zrx Z38 Zsc Z3i Zg1 Z1k List.length_append G.agg.injEq G.row.injEq G.ref.injEq G.val.injEq G.sl.injEq G.tup.injEq Value.int.injEq Value.bool.injEq Value.string.injEq List.cons.injEq exists_and_left exists_const List.flatten_cons List.flatten_nil Int.le_refl Nat.le_refl Zj2 J3 Zdp Bool.not_eq_true' Bool.not_eq_false' Z06 Znx Z8g Z8l Z8f Z8k Yea Yd5 List.size_toArray Zxq Zx6 G.ren G.rens Z2r Zll Zz4 Zyx Zyy Zuy Z8m Zgz G.fn.injEq Zqp Zwv Z05 Yd6 Zwu Z8j Yd9 Yd8 Yd7 Z8h Z5l Ycn Option.join_none X3 Gd undef Zp8 Arr.len Arr.put_eq Znn Zra Zox Zmb Zzz Zzx Zzy onB Ybh Z1q Q0 Zq0 Zs0 Zs1 Zs2 Zs3 Zs4 Zs5 Zq7 Zrd Zrb Zoz Zmd Zrc Zup Zuo Zun Zum Ye6 Yhb Z5t Z3u Ui Z5n Zxe Zre Zoy Z96 Zx8 Zn7 Zpy Zjh Zqk Zs6 Zs7 Zs8 Zs9 Zqt Zqu Zqv Zqw Zqx Zqy Zqz Zkb prT Zhe Yjz Z73 Ybw Z74 Yj0 Z75 Z72 Z76 Yj1 Z77 Yj2 Z78 Yj3 Z79 Yj4 Z8a Ydc Zz9 Ydd Z0a Yde Z0b Ydf Z0c Ydg Z0d Ydh Z0e Ydi Z0f Ydj Z0g Ydk Z0h Ydl Z0i Ydm Z0j Zu5 Zkn Z4m Zrs Ydn Z0k Zfz Z0l Ydo Z0m Ydp Z0n Ydq Z0o Ydr Z0p Zx9 Z0q Yds Z0r Ydt Z0s Ydu Z0t Ydv Z0u Ydw Zwt Ydx Z0v Ydy Z0w Zf0 Z0x Ydz Z0y Yd0 Z0z Zya Z00 Yd1 Z01 Zsd Z02 Yd2 Z03 Zmj Z04 Z6h Zu7 Z6i Zu8 Z6j Zu9 Z6k Zva Z6l Zvb Z6m Zvc Z6n Zvd Z6o Zve Z6p Zvf Z6q Zvg Z6r Zvh Z28 Zvi Z6s Zvj Z6t Zvk Z6u Zvl Z6v Zvm Z6w Zvn Z6x Zvo Z6y Zvp Z6z Zvq Z60 Zvr Z61 Zvs Z62 Zvt Zxv Zqn Z63 Zvu Z64 Zvv Z65 Zvw Z66 Zvx Z67 Zvy Z68 Zvz Z69 Zv0 Z7a Zv1 Z7b Zv2 Z7c Zv3 Z7d Zv4 Z7e Zv5 Z7f Zv6 Z7g Zv7 Z7h Zv8 Z7i Zv9 Z7j Zwa Z7k Zwb Z7l Zwc Z7m Zwd Z7n Zwe Z7o Zwf Z7p Zwg Z7q Zwh Z7r Zwi Z7s Zwj Z7t Zwk Z7u Zwl Z7v Zwm Z7w Zwn Z7x Zwo Z7y Zwp Z7z Zwq Z70 Zwr Z71 Zws Zc Yz Zpj Zph Zoj Zov Zpl Zml Zmi Zmg Zpe Zfv Zfu Zfj Zfq Zfw Zeu Zes Zer Zft Zp Qx Zo Zz Xi Y2 Xx Zbq Zbp Za8 Zbg Zbr Zas Zaq Zap Zbm Zcj Zch Zb6 Zcd Zcl Zbn Zbj Zbh Zcf Ziv Ziu Zh6 Zil Ziw Zgp Zgo Zgn Zis Zrv Zru Zq4 Zq9 Zrw Zpf Zo5 Zo4 Zrt Zpi Zpg Zoi Zou Zpk Zmk Zmh Zmf Zpd Yu Zew Zev Zen Zeq Zex Zdo Zdm Zdl Zet Zl2 Zgi Zjk Zjj Zje Zjf Zjl Zit Ziq Zip Zji Zu Zck Zci Zb7 Zce Zcm Zbo Zbk Zbi Zcg Zhv Zl1 Zhw Yl Zau Zat Zal Zao Zav Gn Gl Gk Zar
def Zgl (Xz:(Zh→Option Za)):Prop:=∀ {a0:Zh} {r:Za} {O:Objs} {n:Nat},Xz a0=some r→GTo Tryz.prog 16 [.agg (Zm a0)] O n (.agg (Zj r)) O n
def Zca (Xt:((List Zn)→Option Za)):Prop:=∀ {a0:(List Zn)} {r:Za} {O:Objs} {n:Nat},Xt a0=some r→GTo Tryz.prog 55 [(sL Zo a0)] O n (.agg (Zj r)) O n
def Zdi (X1:(Int→(List Zt)→Option Za)):Prop:=∀ {a0:Int} {a1:(List Zt)} {r:Za} {O:Objs} {n:Nat},X1 a0 a1=some r→GTo Tryz.prog 56 [(vI a0),(sL Zz a1)] O n (.agg (Zj r)) O n
theorem Z2i {Xz:(Zh→Option Za)} {Xt:((List Zn)→Option Za)} {X1:(Int→(List Zt)→Option Za)} (Zd4:Zgl Xz) (Zcc:Zca Xt) (Zdj:Zdi X1) {a0:Zh} {r:Za} {O:Objs} {n:Nat} (h:Zhq Xz Xt X1 a0=some r):GTo Tryz.prog 16 [.agg (Zm a0)] O n (.agg (Zj r)) O n:=by
 unfold Zhq at h
 refine Yo Zv Tryz.call16 Tryz.func16 rfl (Nat.le_of_ble_eq_true rfl) (Nat.le_refl _) fun hU => ?_
 have hN0:O n=none:=hU.fresh _ (Nat.le_refl _)
 have hN:∀ k,O (n+k)=none:=fun k=>hU.fresh _ (Nat.le_add_right _ _)
 show W _ _ _ _ ⟨48,[],[(0,.agg (Zm a0))]⟩ (Z0 O n []) _
 refine zQ [1,2] ?_
 refine zQ [1,2,3] ?_
 refine Zd ?_
 refine zQ [1,2,3,8] ?_
 refine Yc ?_
 refine zQ [1,2,3,8,9] ?_
 refine Zs (t:=(a0.Kind == 1)) rfl (fun c317 => ?_) (fun c317 => ?_)
 ·replace h:=Zr c317 h
  refine Zd ?_
  obtain ⟨y2,hy2,h⟩:=bC h
  refine zR ?_
  refine GCalls.dropL (l':=[some ⟨false,30,11,1,(Zm a0)⟩,some ⟨false,25,3,1,[(vI 0),nV,nV]⟩,none,none]) hU rfl ?_ ((Kl hy2).then ?_)
  ·exact zSe
  refine zS ?_
  refine zD [2] [false,true,false,false] ?_
  refine zW ?_
  have h:=Option.some.inj h;subst h
  refine Zi (.inr rfl) hU [.agg (Zj y2)] (by omega) ?_
  simp only [push_cast,seval,↓reduceIte,Zb,Tryz.results16,hN0,hN]
 replace h:=Zq c317 h
 refine zQ [1,2,3,8,19] ?_
 refine Zs (t:=(a0.Kind == 2)) rfl (fun c316 => ?_) (fun c316 => ?_)
 ·replace h:=Zr c316 h
  obtain ⟨y51,hy51,h⟩:=bC h
  obtain ⟨y87,hy87,h⟩:=bC h
  obtain ⟨y111,hy111,h⟩:=bC h
  refine Y8 (E':=⟨48,[],[(2,.ref (n+1) 0)]⟩) (O':=(Z0 O n [none,some ⟨false,25,3,1,(Zj y111)⟩,none,none])) (n0:=(n+4)) ?_ ?_
  ·refine Z4r Zv (by kernel_rfl) [.plain,.pass,.low,.low,.low,.low,.low,.low,.pass,.pass,.pass] (fun i=>i < (n+2)∧¬ i=n+1) [0,2,3,4,5,6,7] [1,8] [9,10] (.alt 1 (.seq [8]) (.one 8 (.seq [1]))) [.plain,.low,.low,.low,.low,.low,.low] [] (by kernel_rfl) rfl ?_
   refine zS ?_
   repeat (with_reducible refine And.intro (by omega) ?_)
   first | refine PCallA.of (fun _ _=>Zk9 hy51) ?_ | refine PCall.of (Zk9 hy51) ?_
   try simp only [push_cast,seval,↓reduceIte,Zb,hN0,hN]
   repeat (with_reducible refine And.intro (by omega) ?_)
   first | refine PCallA.of (fun _ _=>Zcc hy87) ?_ | refine PCall.of (Zcc hy87) ?_
   try simp only [push_cast,seval,↓reduceIte,Zb,hN0,hN]
   repeat (with_reducible refine And.intro (by omega) ?_)
   try simp only [push_cast,seval,↓reduceIte,Zb,hN0,hN]
   refine And.intro ?_ ?_
   ·try simp only [push_cast,seval,↓reduceIte,Zb,hN0,hN]
    repeat (with_reducible refine And.intro (by first | exact Q1 rfl | exact Qb | exact Qj rfl | exact X8 rfl) ?_)
    try simp only [push_cast,seval,↓reduceIte,Zb,hN0,hN]
    repeat (with_reducible refine And.intro (by first | exact Q1 rfl | exact Qb | exact Qj rfl | exact X8 rfl) ?_)
    refine GCalls.dropL (l':=[some ⟨false,30,11,1,(Zm a0)⟩,some ⟨false,25,3,1,[(vI 0),nV,nV]⟩,none,none]) hU rfl ?_ ((Kl hy111).then ?_)
    ·exact zSe
    try simp only [push_cast,seval,↓reduceIte,Zb,hN0,hN]
    repeat (with_reducible refine And.intro (by first | exact Q1 rfl | exact Qb | exact Qj rfl | exact X8 rfl) ?_)
    exact zEf
   try simp only [push_cast,seval,↓reduceIte,Zb,hN0,hN]
   repeat (with_reducible refine And.intro (by first | exact Q1 rfl | exact Qb | exact Qj rfl | exact X8 rfl) ?_)
   try simp only [push_cast,seval,↓reduceIte,Zb,hN0,hN]
   repeat (with_reducible refine And.intro (by first | exact Q1 rfl | exact Qb | exact Qj rfl | exact X8 rfl) ?_)
   refine GCalls.dropL (l':=[some ⟨false,30,11,1,(Zm a0)⟩,some ⟨false,25,3,1,[(vI 0),nV,nV]⟩,none,none]) hU rfl ?_ ((Kl hy111).then ?_)
   ·exact zSe
   try simp only [push_cast,seval,↓reduceIte,Zb,hN0,hN]
   repeat (with_reducible refine And.intro (by first | exact Q1 rfl | exact Qb | exact Qj rfl | exact X8 rfl) ?_)
   refine And.intro rfl ?_
   refine Fit2.trans (E':=(⟨48,[],[(2,.ref (n+1) 0)]⟩:Env)) (O':=(Z0 O n [none,some ⟨false,25,3,1,(Zj y111)⟩,none,none])) (n':=(n+4)) (Fit2.of (Y1 hU rfl rfl ?_) (by omega)) ?_
   ·exact zSe
   refine Zjg (k:=4) (k':=4) hU [0,1,3,2] [0,1,3,2] rfl rfl rfl rfl ⟨rfl,rfl⟩ ?_
   exact zSe
  refine zW ?_
  have h:=Option.some.inj h;subst h
  refine Zi (.inr rfl) hU [.agg (Zj y111)] (by omega) ?_
  simp only [push_cast,seval,↓reduceIte,Zb,Tryz.results16,hN0,hN]
 replace h:=Zq c316 h
 refine zQ [1,2,3,31] ?_
 refine Zs (t:=(a0.Kind == 3)) rfl (fun c315 => ?_) (fun c315 => ?_)
 ·replace h:=Zr c315 h
  obtain ⟨y267,hy267,h⟩:=bC h
  obtain ⟨y291,hy291,h⟩:=bC h
  refine Y8 (E':=⟨48,[],[(2,.ref (n+1) 0)]⟩) (O':=(Z0 O n [none,some ⟨false,25,3,1,(Zj y291)⟩,none,none])) (n0:=(n+4)) ?_ ?_
  ·refine Z4r Zv (by kernel_rfl) [.plain,.low,.low,.low,.low,.low,.pass,.low,.low,.low,.low,.low,.pass,.pass,.pass] (fun i=>i < (n+2)∧¬ i=n+1) [0,1,2,3,4,5,7,8,9,10,11] [6,12] [13,14] (.alt 6 (.seq [12]) (.one 12 (.seq [6]))) [.plain,.low,.low,.low,.low,.low,.low,.low,.low,.low,.low] [] (by kernel_rfl) rfl ?_
   refine zS ?_
   repeat (with_reducible refine And.intro (by omega) ?_)
   first | refine PCallA.of (fun _ _=>Zdj hy267) ?_ | refine PCall.of (Zdj hy267) ?_
   try simp only [push_cast,seval,↓reduceIte,Zb,hN0,hN]
   repeat (with_reducible refine And.intro (by omega) ?_)
   try simp only [push_cast,seval,↓reduceIte,Zb,hN0,hN]
   refine And.intro ?_ ?_
   ·try simp only [push_cast,seval,↓reduceIte,Zb,hN0,hN]
    repeat (with_reducible refine And.intro (by first | exact Q1 rfl | exact Qb | exact Qj rfl | exact X8 rfl) ?_)
    try simp only [push_cast,seval,↓reduceIte,Zb,hN0,hN]
    repeat (with_reducible refine And.intro (by first | exact Q1 rfl | exact Qb | exact Qj rfl | exact X8 rfl) ?_)
    refine GCalls.dropL (l':=[some ⟨false,30,11,1,(Zm a0)⟩,some ⟨false,25,3,1,[(vI 0),nV,nV]⟩,none,none]) hU rfl ?_ ((Kl hy291).then ?_)
    ·exact zSe
    try simp only [push_cast,seval,↓reduceIte,Zb,hN0,hN]
    repeat (with_reducible refine And.intro (by first | exact Q1 rfl | exact Qb | exact Qj rfl | exact X8 rfl) ?_)
    exact zEf
   try simp only [push_cast,seval,↓reduceIte,Zb,hN0,hN]
   repeat (with_reducible refine And.intro (by first | exact Q1 rfl | exact Qb | exact Qj rfl | exact X8 rfl) ?_)
   try simp only [push_cast,seval,↓reduceIte,Zb,hN0,hN]
   repeat (with_reducible refine And.intro (by first | exact Q1 rfl | exact Qb | exact Qj rfl | exact X8 rfl) ?_)
   refine GCalls.dropL (l':=[some ⟨false,30,11,1,(Zm a0)⟩,some ⟨false,25,3,1,[(vI 0),nV,nV]⟩,none,none]) hU rfl ?_ ((Kl hy291).then ?_)
   ·exact zSe
   try simp only [push_cast,seval,↓reduceIte,Zb,hN0,hN]
   repeat (with_reducible refine And.intro (by first | exact Q1 rfl | exact Qb | exact Qj rfl | exact X8 rfl) ?_)
   refine And.intro rfl ?_
   refine Fit2.trans (E':=(⟨48,[],[(2,.ref (n+1) 0)]⟩:Env)) (O':=(Z0 O n [none,some ⟨false,25,3,1,(Zj y291)⟩,none,none])) (n':=(n+4)) (Fit2.of (Y1 hU rfl rfl ?_) (by omega)) ?_
   ·exact zSe
   refine Zjg (k:=4) (k':=4) hU [0,1,3,2] [0,1,3,2] rfl rfl rfl rfl ⟨rfl,rfl⟩ ?_
   exact zSe
  refine zW ?_
  have h:=Option.some.inj h;subst h
  refine Zi (.inr rfl) hU [.agg (Zj y291)] (by omega) ?_
  simp only [push_cast,seval,↓reduceIte,Zb,Tryz.results16,hN0,hN]
 replace h:=Zq c315 h
 refine Jh [2] [false,true] ?_
 refine Zd ?_
 refine zRd [2] [false,true] ?_
 refine zW ?_
 have h:=Option.some.inj h;subst h
 refine Zi (.inr rfl) hU [.agg [(vI 0),nV,nV]] (by omega) ?_
 simp only [push_cast,seval,↓reduceIte,Zb,Tryz.results16,hN0,hN]
theorem Zsq {Xz:(Zh→Option Za)} {Xt:((List Zn)→Option Za)} {X1:(Int→(List Zt)→Option Za)} (Zd4:Zgl Xz) (Zcc:Zca Xt) (Zdj:Zdi X1) {a0:(List Zn)} {r:Za} {O:Objs} {n:Nat} (h:Zcp Xz Xt X1 a0=some r):GTo Tryz.prog 55 [(sL Zo a0)] O n (.agg (Zj r)) O n:=by
 unfold Zcp at h
 refine Yo Zv Tryz.call55 Tryz.func55 rfl (Nat.le_of_ble_eq_true rfl) (Nat.le_refl _) fun hU => ?_
 have hN0:O n=none:=hU.fresh _ (Nat.le_refl _)
 have hN:∀ k,O (n+k)=none:=fun k=>hU.fresh _ (Nat.le_add_right _ _)
 show W _ _ _ _ ⟨27,[],[(0,(sL Zo a0))]⟩ (Z0 O n []) _
 refine zQ [0,2] ?_
 refine zQ [0,2,3] ?_
 refine Zd ?_
 refine zQd [2,3,6,7,8] [2,3,6,7,8] [true] ?_
 refine Zks (E':=(⟨27,[],[(2,.ref n 0),(3,.row (n+1) ([]:List Za).length),(6,(sL Zo a0)),(7,(vI (a0.length:Int))),(8,(vI 0))]⟩:Env)) (O':=(Z0 O n [some ⟨false,25,3,1,[(vI 0),nV,nV]⟩,some (oR 25 3 Zc ([]:List Za)),none])) (n':=(n+3)) ?_ ?_
 ·refine Fit2.trans (E':=(⟨27,[],[(2,.ref n 0),(3,nV),(6,(sL Zo a0)),(7,(vI (a0.length:Int))),(8,(vI 0))]⟩:Env)) (O':=(Z0 O n [some ⟨false,25,3,1,[(vI 0),nV,nV]⟩])) (n':=(n+1)) (Fit2.of (Y1 hU rfl rfl ?_) (by omega)) ?_
  ·exact zSe
  refine Fit2.trans (Zm0 3 25 3 rfl (by omega)) ?_
  simp only [Za3,Uu,Zjd,Zhh,List.set_cons_zero,List.set_cons_succ,List.cons_append,List.nil_append,List.length_cons,List.length_nil,Nat.zero_add,Nat.reduceAdd,Nat.reduceLT,Nat.add_assoc]
  refine Fit2.trans (E':=(⟨27,[],[(2,.ref n 0),(3,.row (n+1) ([]:List Za).length),(6,(sL Zo a0)),(7,(vI (a0.length:Int))),(8,(vI 0))]⟩:Env)) (O':=(Z0 O n [some ⟨false,25,3,1,[(vI 0),nV,nV]⟩,some (oR 25 3 Zc ([]:List Za))])) (n':=(n+2)) (Fit2.of (Y1 hU rfl rfl ?_) (by omega)) ?_
  ·exact zSe
  refine Zjg (k:=2) (k':=3) hU [0,1] [0,1,0] rfl rfl rfl rfl ⟨rfl,rfl⟩ ?_
  exact zSe
 obtain ⟨z160,hz160,h⟩:=bC h
 refine Y3 (E':=⟨27,[],[(2,.ref n 0),(3,.row (n+1) z160.length)]⟩) (O':=(Z0 O n [some ⟨false,25,3,1,[(vI 0),nV,nV]⟩,some (oR 25 3 Zc z160),none])) (n0:=(n+3)) ?_ ?_
 ·refine Xf hz160 (fun s0_=>⟨27,[],[(2,.ref n 0),(3,.row (n+1) s0_.2.length),(6,(sL Zo a0)),(7,(vI (a0.length:Int))),(8,(vI s0_.1))]⟩) (fun s0_=>(Z0 O n [some ⟨false,25,3,1,[(vI 0),nV,nV]⟩,some (oR 25 3 Zc s0_.2),none])) (fun z160=>JX 0 n (⟨27,[],[(2,.ref n 0),(3,.row (n+1) z160.length)]⟩:Env) (Z0 O n [some ⟨false,25,3,1,[(vI 0),nV,nV]⟩,some (oR 25 3 Zc z160),none]) (n+3)) ?_
  intro s0_ x0_ hs0_
  unfold U9 at hs0_
  try dsimp only
  refine zQ [2,3,6,7,8,9] ?_
  refine Zd ?_
  refine Zs (t:=(decide (s0_.1 < (a0.length:Int)))) rfl (fun c159 => ?_) (fun c159 => ?_)
  ·replace hs0_:=Zr c159 hs0_
   refine Jh [2,3,6,7,8] [true,true,false] ?_
   refine Zd ?_
   refine Yc ?_
   refine Zd ?_
   obtain ⟨x2,hx2,ax2,bx2,cx2,hs0_⟩:=bE (f:=Zo) Zsd (fun _=>rfl) (by decide) hs0_
   refine Zec [] ax2 bx2 cx2 ?_
   refine zD [2,3,5,6,7,8] [true,true,false,true] ?_
   obtain ⟨y87,hy87,hs0_⟩:=bC hs0_
   obtain ⟨y111,hy111,hs0_⟩:=bC hs0_
   obtain ⟨l135,pl135,ql135,el135,hs0_⟩:=bA (k:=1) rfl hs0_
   refine Ylx (E':=⟨27,[],[(2,.ref n 0),(3,.row (n+1) l135.length),(6,(sL Zo a0)),(7,(vI (a0.length:Int))),(8,(vI s0_.1))]⟩) (O':=(Z0 O n [some ⟨false,25,3,1,[(vI 0),nV,nV]⟩,some (oR 25 3 Zc l135),none,none,none,none,none])) (n0:=(n+7)) ?_ ?_
   ·refine Z4r Zv (by kernel_rfl) [.plain,.low,.low,.low,.pass,.low,.low,.low,.pass,.pass,.pass,.pass,.plain] (fun i=>i < (n+4)∧¬ i=n+1) [0,1,2,3,5,6,7] [4,8,9,10] [11,12] (.alt 4 (.seq [8,9,10]) (.one 8 (.seq [4,9,10]))) [.plain,.low,.low,.low,.low,.low,.low] [] (by kernel_rfl) rfl ?_
    simp (maxSteps:=4000000) only [push_cast,seval,↓reduceIte,Zb,pl135,ql135,el135,hN0,hN]
    repeat (with_reducible refine And.intro (by omega) ?_)
    first | refine PCallA.of (fun _ _=>Zd4 hy87) ?_ | refine PCall.of (Zd4 hy87) ?_
    simp (maxSteps:=4000000) only [push_cast,seval,↓reduceIte,Zb,pl135,ql135,el135,hN0,hN]
    repeat (with_reducible refine And.intro (by omega) ?_)
    try simp only [push_cast,seval,↓reduceIte,Zb,pl135,ql135,el135,hN0,hN]
    refine And.intro ?_ ?_
    ·try simp only [push_cast,seval,↓reduceIte,Zb,pl135,ql135,el135,hN0,hN]
     repeat (with_reducible refine And.intro (by first | exact Q1 rfl | exact Qb | exact Qj rfl | exact X8 rfl) ?_)
     try simp only [push_cast,seval,↓reduceIte,Zb,pl135,ql135,el135,hN0,hN]
     repeat (with_reducible refine And.intro (by first | exact Q1 rfl | exact Qb | exact Qj rfl | exact X8 rfl) ?_)
     refine GCalls.dropL (l':=[some ⟨false,25,3,1,[(vI 0),nV,nV]⟩,some (oR 25 3 Zc s0_.2),none,some ⟨false,86,12,1,(Kp x2)⟩,none,none]) hU rfl ?_ ((Kl hy111).then ?_)
     ·exact Zyq pl135 ql135 el135
     try simp only [push_cast,seval,↓reduceIte,Zb,pl135,ql135,el135,hN0,hN]
     repeat (with_reducible refine And.intro (by first | exact Q1 rfl | exact Qb | exact Qj rfl | exact X8 rfl) ?_)
     exact Ypn pl135 ql135 el135
    try simp only [push_cast,seval,↓reduceIte,Zb,pl135,ql135,el135,hN0,hN]
    repeat (with_reducible refine And.intro (by first | exact Q1 rfl | exact Qb | exact Qj rfl | exact X8 rfl) ?_)
    try simp only [push_cast,seval,↓reduceIte,Zb,pl135,ql135,el135,hN0,hN]
    repeat (with_reducible refine And.intro (by first | exact Q1 rfl | exact Qb | exact Qj rfl | exact X8 rfl) ?_)
    refine GCalls.dropL (l':=[some ⟨false,25,3,1,[(vI 0),nV,nV]⟩,some (oR 25 3 Zc s0_.2),none,some ⟨false,86,12,1,(Kp x2)⟩,none,none]) hU rfl ?_ ((Kl hy111).then ?_)
    ·exact Zyq pl135 ql135 el135
    try simp only [push_cast,seval,↓reduceIte,Zb,pl135,ql135,el135,hN0,hN]
    repeat (with_reducible refine And.intro (by first | exact Q1 rfl | exact Qb | exact Qj rfl | exact X8 rfl) ?_)
    refine And.intro rfl ?_
    refine Fit2.trans (E':=(⟨27,[],[(2,.ref n 0),(3,.row (n+1) l135.length),(6,(sL Zo a0)),(7,(vI (a0.length:Int))),(8,(vI s0_.1))]⟩:Env)) (O':=(Z0 O n [some ⟨false,25,3,1,[(vI 0),nV,nV]⟩,some (oR 25 3 Zc l135),none,none,none,none,none])) (n':=(n+7)) (Fit2.of (Y1 hU rfl rfl ?_) (by omega)) ?_
    ·exact Zyq pl135 ql135 el135
    refine Zjg (k:=7) (k':=7) hU [0,1,2,3,5,4,6] [0,1,2,3,5,4,6] rfl rfl rfl rfl ⟨rfl,rfl⟩ ?_
    exact Zyq pl135 ql135 el135
   try simp only [Xc,Yp]
   refine zD [2,3,6,7,8] [true,true,false,false,false,false,false] ?_
   refine zR ?_
   exact zEn hs0_
  replace hs0_:=Zq c159 hs0_
  exact zEx hs0_
 try simp only [Xc,Yp,↓reduceIte,Nat.reduceEqDiff]
 refine zD [2,3] [true,true,false] ?_
 refine Zdq ⟨27,[],[(2,.ref n 0),(3,(sL Zc z160))]⟩ (Z0 O n [some ⟨false,25,3,1,[(vI 0),nV,nV]⟩,none,none]) (Y1 hU rfl rfl ?_) ?_
 ·exact zSe
 refine Zd ?_
 obtain ⟨y162,hy162,h⟩:=bC h
 refine zCd (Zop hy162) [2] [true,false,false] ?_
 refine zW ?_
 have h:=Option.some.inj h;subst h
 refine Zi (.inr rfl) hU [.agg (Zj y162)] (by omega) ?_
 simp only [push_cast,seval,↓reduceIte,Zb,Tryz.results55,hN0,hN]
theorem Zud {Xz:(Zh→Option Za)} {Xt:((List Zn)→Option Za)} {X1:(Int→(List Zt)→Option Za)} (Zd4:Zgl Xz) (Zcc:Zca Xt) (Zdj:Zdi X1) {a0:Int} {a1:(List Zt)} {r:Za} {O:Objs} {n:Nat} (h:Zdt Xz Xt X1 a0 a1=some r):GTo Tryz.prog 56 [(vI a0),(sL Zz a1)] O n (.agg (Zj r)) O n:=by
 unfold Zdt at h
 refine Yo Zv Tryz.call56 Tryz.func56 rfl (Nat.le_of_ble_eq_true rfl) (Nat.le_refl _) fun hU => ?_
 have hN0:O n=none:=hU.fresh _ (Nat.le_refl _)
 have hN:∀ k,O (n+k)=none:=fun k=>hU.fresh _ (Nat.le_add_right _ _)
 show W _ _ _ _ ⟨60,[],[(0,(vI a0)),(1,(sL Zz a1))]⟩ (Z0 O n []) _
 refine zQ [0,1,4] ?_
 refine zQ [0,1,4,5] ?_
 refine Zd ?_
 refine zQd [0,4,5,9,10,11] [0,4,5,9,10,11] [true] ?_
 refine Zks (E':=(⟨60,[],[(0,(vI a0)),(4,.ref n 0),(5,.row (n+1) ([]:List Za).length),(9,(sL Zz a1)),(10,(vI (a1.length:Int))),(11,(vI 0))]⟩:Env)) (O':=(Z0 O n [some ⟨false,25,3,1,[(vI 0),nV,nV]⟩,some (oR 25 3 Zc ([]:List Za)),none])) (n':=(n+3)) ?_ ?_
 ·refine Fit2.trans (E':=(⟨60,[],[(0,(vI a0)),(4,.ref n 0),(5,nV),(9,(sL Zz a1)),(10,(vI (a1.length:Int))),(11,(vI 0))]⟩:Env)) (O':=(Z0 O n [some ⟨false,25,3,1,[(vI 0),nV,nV]⟩])) (n':=(n+1)) (Fit2.of (Y1 hU rfl rfl ?_) (by omega)) ?_
  ·exact zSe
  refine Fit2.trans (Zm0 5 25 3 rfl (by omega)) ?_
  simp only [Za3,Uu,Zjd,Zhh,List.set_cons_zero,List.set_cons_succ,List.cons_append,List.nil_append,List.length_cons,List.length_nil,Nat.zero_add,Nat.reduceAdd,Nat.reduceLT,Nat.add_assoc]
  refine Fit2.trans (E':=(⟨60,[],[(0,(vI a0)),(4,.ref n 0),(5,.row (n+1) ([]:List Za).length),(9,(sL Zz a1)),(10,(vI (a1.length:Int))),(11,(vI 0))]⟩:Env)) (O':=(Z0 O n [some ⟨false,25,3,1,[(vI 0),nV,nV]⟩,some (oR 25 3 Zc ([]:List Za))])) (n':=(n+2)) (Fit2.of (Y1 hU rfl rfl ?_) (by omega)) ?_
  ·exact zSe
  refine Zjg (k:=2) (k':=3) hU [0,1] [0,1,0] rfl rfl rfl rfl ⟨rfl,rfl⟩ ?_
  exact zSe
 obtain ⟨z18,hz18,h⟩:=bC h
 refine Y3 (E':=⟨60,[],[(4,.ref n 0),(5,.row (n+1) z18.length)]⟩) (O':=(Z0 O n [some ⟨false,25,3,1,[(vI 0),nV,nV]⟩,some (oR 25 3 Zc z18),none])) (n0:=(n+3)) ?_ ?_
 ·refine Xf hz18 (fun s0_=>⟨60,[],[(0,(vI a0)),(4,.ref n 0),(5,.row (n+1) s0_.2.length),(9,(sL Zz a1)),(10,(vI (a1.length:Int))),(11,(vI s0_.1))]⟩) (fun s0_=>(Z0 O n [some ⟨false,25,3,1,[(vI 0),nV,nV]⟩,some (oR 25 3 Zc s0_.2),none])) (fun z18=>JX 0 n (⟨60,[],[(4,.ref n 0),(5,.row (n+1) z18.length)]⟩:Env) (Z0 O n [some ⟨false,25,3,1,[(vI 0),nV,nV]⟩,some (oR 25 3 Zc z18),none]) (n+3)) ?_
  intro s0_ x0_ hs0_
  unfold G5 at hs0_
  try dsimp only
  refine zQ [0,4,5,9,10,11,12] ?_
  refine Zd ?_
  refine Zs (t:=(decide (s0_.1 < (a1.length:Int)))) rfl (fun c17 => ?_) (fun c17 => ?_)
  ·replace hs0_:=Zr c17 hs0_
   refine Jh [0,4,5,9,10,11] [true,true,false] ?_
   obtain ⟨z1,hz1,hs0_⟩:=bC hs0_
   refine Y8 (E':=⟨60,[],[(0,(vI a0)),(4,.ref n 0),(5,.row (n+1) z1.length),(9,(sL Zz a1)),(10,(vI (a1.length:Int))),(11,(vI s0_.1))]⟩) (O':=(Z0 O n [some ⟨false,25,3,1,[(vI 0),nV,nV]⟩,some (oR 25 3 Zc z1),none,none,none,none,none])) (n0:=(n+7)) ?_ ?_
   ·refine Yc ?_
    refine Zd ?_
    obtain ⟨x3,hx3,ax3,bx3,cx3,hz1⟩:=bE (f:=Zz) Zmj (fun _=>rfl) (by decide) hz1
    refine Zec [] ax3 bx3 cx3 ?_
    refine zDs [0,4,5,7,9,10,11] [true,true,false,true] ?_
    refine zR ?_
    refine Zdq ⟨60,[],[(0,(vI a0)),(4,.ref n 0),(5,.row (n+1) s0_.2.length),(7,.ref (n+3) 0),(8,.row (n+4) ([(IntKind.u64.wrap (Ut .u64 (IntKind.u64.wrap x3.Kind) (IntKind.u64.wrap ((IntKind.u64.wrap x3.N) * 2 ^ min (Int.toNat 8) 64))))]:List Int).length),(9,(sL Zz a1)),(10,(vI (a1.length:Int))),(11,(vI s0_.1))]⟩ (Z0 O n [some ⟨false,25,3,1,[(vI 0),nV,nV]⟩,some (oR 25 3 Zc s0_.2),none,some ⟨false,89,14,1,(Y4 x3)⟩,some (oR 77 1 (eI .u64) ([(IntKind.u64.wrap (Ut .u64 (IntKind.u64.wrap x3.Kind) (IntKind.u64.wrap ((IntKind.u64.wrap x3.N) * 2 ^ min (Int.toNat 8) 64))))]:List Int))]) (Y1 hU rfl rfl ?_) ?_
    ·exact zSe
    refine zQ [0,4,5,7,8,9,10,11,25] ?_
    refine Yc ?_
    refine zQ [0,4,5,7,8,9,10,11,25,26] ?_
    refine Zs (t:=(x3.Kind == 0)) rfl (fun c16 => ?_) (fun c16 => ?_)
    ·replace hz1:=Zr c16 hz1
     refine Zdq ⟨60,[],[(0,(vI a0)),(4,.ref n 0),(5,.row (n+1) s0_.2.length),(8,(sL (eI .u64) ([(IntKind.u64.wrap (Ut .u64 (IntKind.u64.wrap x3.Kind) (IntKind.u64.wrap ((IntKind.u64.wrap x3.N) * 2 ^ min (Int.toNat 8) 64))))]:List Int))),(9,(sL Zz a1)),(10,(vI (a1.length:Int))),(11,(vI s0_.1))]⟩ (Z0 O n [some ⟨false,25,3,1,[(vI 0),nV,nV]⟩,some (oR 25 3 Zc s0_.2),none,none,none]) (Y1 hU rfl rfl ?_) ?_
     ·exact zSe
     obtain ⟨y4,hy4,hz1⟩:=bC hz1
     obtain ⟨l5,pl5,ql5,el5,hz1⟩:=bA (k:=1) rfl hz1
     refine Zhd [] pl5 ql5 el5 ?_
     refine GCalls.argsW ?_ ((Kl hy4).then ?_)
     ·exact Zyq pl5 ql5 el5
     refine zX3 pl5 ql5 el5 ?_
     exact Zj3 hz1 pl5 ql5 el5
    replace hz1:=Zq c16 hz1
    obtain ⟨z6,hz6,hz1⟩:=bC hz1
    refine Y8 (E':=⟨60,[],[(0,(vI a0)),(4,.ref n 0),(5,.row (n+1) s0_.2.length),(7,.ref (n+3) 0),(8,.row (n+4) z6.2.length),(9,(sL Zz a1)),(10,(vI (a1.length:Int))),(11,(vI s0_.1)),(25,(vI x3.Kind)),(33,(vB z6.1))]⟩) (O':=(Z0 O n [some ⟨false,25,3,1,[(vI 0),nV,nV]⟩,some (oR 25 3 Zc s0_.2),none,some ⟨false,89,14,1,(Y4 x3)⟩,some (oR 77 1 (eI .u64) z6.2)])) (n0:=(n+5)) ?_ ?_
    ·refine zQ [0,4,5,7,8,9,10,11,25,33] ?_
     refine Zs (t:=(x3.Kind == 1)) rfl (fun c7 => ?_) (fun c7 => ?_)
     ·replace hz6:=Zr c7 hz6
      refine zK ?_
      exact zEn hz6
     replace hz6:=Zq c7 hz6
     refine zR ?_
     exact zEn hz6
    refine Zs (t:=z6.1) rfl (fun c15 => ?_) (fun c15 => ?_)
    ·replace hz1:=Zr c15 hz1
     refine Zdq ⟨60,[],[(0,(vI a0)),(4,.ref n 0),(5,.row (n+1) s0_.2.length),(7,.ref (n+3) 0),(8,(sL (eI .u64) z6.2)),(9,(sL Zz a1)),(10,(vI (a1.length:Int))),(11,(vI s0_.1))]⟩ (Z0 O n [some ⟨false,25,3,1,[(vI 0),nV,nV]⟩,some (oR 25 3 Zc s0_.2),none,some ⟨false,89,14,1,(Y4 x3)⟩,none]) (Y1 hU rfl rfl ?_) ?_
     ·exact zSe
     obtain ⟨y8,hy8,hz1⟩:=bC hz1
     obtain ⟨l9,pl9,ql9,el9,hz1⟩:=bA (k:=1) rfl hz1
     refine Zhd [] pl9 ql9 el9 ?_
     refine GCalls.dropL (l':=[some ⟨false,25,3,1,[(vI 0),nV,nV]⟩,some (oR 25 3 Zc s0_.2),none,some ⟨false,89,14,1,(Y4 x3)⟩,none,none]) hU rfl ?_ ((Kl hy8).then ?_)
     ·exact Zyq pl9 ql9 el9
     refine zX3 pl9 ql9 el9 ?_
     exact Zj3 hz1 pl9 ql9 el9
    replace hz1:=Zq c15 hz1
    refine zQ [0,4,5,7,8,9,10,11,46] ?_
    refine Zs (t:=(x3.Kind == 3)) rfl (fun Jg => ?_) (fun Jg => ?_)
    ·replace hz1:=Zr Jg hz1
     refine Zdq ⟨60,[],[(0,(vI a0)),(4,.ref n 0),(5,.row (n+1) s0_.2.length),(7,.ref (n+3) 0),(8,(sL (eI .u64) z6.2)),(9,(sL Zz a1)),(10,(vI (a1.length:Int))),(11,(vI s0_.1))]⟩ (Z0 O n [some ⟨false,25,3,1,[(vI 0),nV,nV]⟩,some (oR 25 3 Zc s0_.2),none,some ⟨false,89,14,1,(Y4 x3)⟩,none]) (Y1 hU rfl rfl ?_) ?_
     ·exact zSe
     obtain ⟨y11,hy11,hz1⟩:=bC hz1
     obtain ⟨y12,hy12,hz1⟩:=bC hz1
     obtain ⟨l13,pl13,ql13,el13,hz1⟩:=bA (k:=1) rfl hz1
     refine Zhd [] pl13 ql13 el13 ?_
     refine (Zd4 hy11).then ?_
     refine zX3 pl13 ql13 el13 ?_
     refine GCalls.dropL (l':=[some ⟨false,25,3,1,[(vI 0),nV,nV]⟩,some (oR 25 3 Zc s0_.2),none,some ⟨false,89,14,1,(Y4 x3)⟩,none,none]) hU rfl ?_ ((Kl hy12).then ?_)
     ·exact Zyq pl13 ql13 el13
     refine zX3 pl13 ql13 el13 ?_
     exact Zj3 hz1 pl13 ql13 el13
    replace hz1:=Zq Jg hz1
    refine zK ?_
    exact zEn hz1
   refine zR ?_
   exact zEn hs0_
  replace hs0_:=Zq c17 hs0_
  exact zEx hs0_
 try simp only [Xc,Yp,↓reduceIte,Nat.reduceEqDiff]
 refine zD [4,5] [true,true,false] ?_
 refine Zdq ⟨60,[],[(4,.ref n 0),(5,(sL Zc z18))]⟩ (Z0 O n [some ⟨false,25,3,1,[(vI 0),nV,nV]⟩,none,none]) (Y1 hU rfl rfl ?_) ?_
 ·exact zSe
 refine Zd ?_
 obtain ⟨y20,hy20,h⟩:=bC h
 refine zCd (Zop hy20) [4] [true,false,false] ?_
 refine zW ?_
 have h:=Option.some.inj h;subst h
 refine Zi (.inr rfl) hU [.agg (Zj y20)] (by omega) ?_
 simp only [push_cast,seval,↓reduceIte,Zb,Tryz.results56,hN0,hN]
theorem Zxg:∀ k,(Zgl ((Yv k).1))∧(Zca ((Yv k).2.1))∧(Zdi ((Yv k).2.2)):=fun k=>by
 induction k with
 | zero=>exact ⟨@fun a0 r O n h=>(nomatch (show (none:Option _)=some _ from h)),@fun a0 r O n h=>(nomatch (show (none:Option _)=some _ from h)),@fun a0 a1 r O n h=>(nomatch (show (none:Option _)=some _ from h))⟩
 | succ k ih=>exact ⟨@fun a0 r O n h=>Z2i (ih.1) (ih.2.1) (ih.2.2)  h,@fun a0 r O n h=>Zsq (ih.1) (ih.2.1) (ih.2.2)  h,@fun a0 a1 r O n h=>Zud (ih.1) (ih.2.1) (ih.2.2)  h⟩
theorem Z3r {a0:Zh} {r:Za} {O:Objs} {n:Nat} (h:Zoo a0=some r):GTo Tryz.prog 16 [.agg (Zm a0)] O n (.agg (Zj r)) O n:=by
 obtain ⟨k,hk⟩:=Zcv h
 exact (Zxg k).1  hk
theorem Z2a {a0:Za} {r:Ye} {O:Objs} {n:Nat} (h:Uc a0=some r):GTo Tryz.prog 176 [.agg (Zj a0)] O n (.agg (Qe r)) O n:=by
 unfold Uc at h
 refine Yo Zv Tryz.call176 Tryz.func176 rfl (Nat.le_of_ble_eq_true rfl) (Nat.le_refl _) fun hU => ?_
 have hN0:O n=none:=hU.fresh _ (Nat.le_refl _)
 have hN:∀ k,O (n+k)=none:=fun k=>hU.fresh _ (Nat.le_add_right _ _)
 show W _ _ _ _ ⟨38,[],[(0,.agg (Zj a0))]⟩ (Z0 O n []) _
 refine zQ [1,2] ?_
 refine Zd ?_
 refine zQ [1,2,6] ?_
 refine Yc ?_
 refine zQ [1,2,6,7] ?_
 refine Zs (t:=(a0.Kind == 1)) rfl (fun c4 => ?_) (fun c4 => ?_)
 ·replace h:=Zr c4 h
  refine Zd ?_
  refine zRd [2] [false,true] ?_
  refine zW ?_
  have h:=Option.some.inj h;subst h
  refine Zi (.inr rfl) hU [.agg [(vI 1),(vI 0),(vI (a0.Words.length:Int)),(vI (a0.Kids.length:Int)),(vI 0),(vI 0),(vI 0),(vB false)]] (by omega) ?_
  simp only [push_cast,seval,↓reduceIte,Zb,Tryz.results176,hN0,hN]
 replace h:=Zq c4 h
 refine zQ [1,2,16] ?_
 refine Zs (t:=(a0.Kind == 9)) rfl (fun c3 => ?_) (fun c3 => ?_)
 ·replace h:=Zr c3 h
  refine Zd ?_
  obtain ⟨y2,hy2,h⟩:=bC h
  refine zCd (Zmt hy2) [1,2,3,4] [true,true] ?_
  refine Zd ?_
  refine zRd [2] [false,true] ?_
  refine zW ?_
  have h:=Option.some.inj h;subst h
  refine Zi (.inr rfl) hU [.agg [(vI 2),(vI 0),(vI 0),(vI 0),(vI 7),(vI (IntKind.i64.wrap ((a0.Kids.length:Int) * (IntKind.i64.wrap (y2.1+y2.2))))),(vI 0),(vB false)]] (by omega) ?_
  simp only [push_cast,seval,↓reduceIte,Zb,Tryz.results176,hN0,hN]
 replace h:=Zq c3 h
 refine Jh [1,2] [true,true] ?_
 refine Zd ?_
 refine zRd [2] [false,true] ?_
 refine zW ?_
 have h:=Option.some.inj h;subst h
 refine Zi (.inr rfl) hU [.agg [(vI 2),(vI 0),(vI 0),(vI 0),(vI (IntKind.i64.wrap (a0.Kind - 2))),(vI (a0.Kids.length:Int)),(vI 0),(vB false)]] (by omega) ?_
 simp only [push_cast,seval,↓reduceIte,Zb,Tryz.results176,hN0,hN]
theorem Z5o {a0:Int} {r:Int} {O:Objs} {n:Nat} (h:Zg3 a0=some r):GTo Tryz.prog 239 [(vI a0)] O n ((vI r)) O n:=by
 unfold Zg3 at h
 refine Yo Zv Tryz.call239 Tryz.func239 rfl (Nat.le_of_ble_eq_true rfl) (Nat.le_refl _) fun hU => ?_
 have hN0:O n=none:=hU.fresh _ (Nat.le_refl _)
 have hN:∀ k,O (n+k)=none:=fun k=>hU.fresh _ (Nat.le_add_right _ _)
 show W _ _ _ _ ⟨8,[],[(0,(vI a0))]⟩ (Z0 O n []) _
 refine zQ [0] ?_
 refine Zd ?_
 obtain ⟨y6,hy6,ey6,h⟩:=bY (f:=(eI .i64)) (cs:=[.val (.int .i64 0),.val (.int .i64 1),.val (.int .i64 8),.val (.int .i64 16),.val (.int .i64 32),.val (.int .i64 64),.val (.int .i64 64)]) rfl h
 have g7:=congrArg G.agg ey6
 obtain ⟨y8,hy8,ey8,h⟩:=bY (f:=(eI .i64)) (cs:=[.val (.int .i64 0),.val (.int .i64 0),.val (.int .i64 0),.val (.int .i64 0),.val (.int .i64 0),.val (.int .i64 0),.val (.int .i64 0)]) rfl h
 have g9:=congrArg (GObj.mk false 309 7 1) ey8
 have g10:=Zi3 (f:=(eI .i64)) y8 y6 (fun _=>rfl)
 refine Zhd [] g7 g9 g10 ?_
 refine zD [0,3] [true] ?_
 obtain ⟨x12,hx12,ax12,bx12,cx12,h⟩:=bEA (f:=(eI .i64)) (b:=7) rfl Ybw (fun _=>rfl) (by decide) h
 refine Zlp [2] (Yx Zv [] ?_)
 refine zF3 ax12 bx12 cx12 ?_
 refine zW ?_
 have h:=Option.some.inj h;subst h
 refine Zi (.inr rfl) hU [(vI x12)] (by omega) ?_
 simp only [push_cast,seval,↓reduceIte,Zb,Tryz.results239,hN0,hN]
theorem Znh {a0:Ye} {r:(Int×Bool)} {O:Objs} {n:Nat} (h:Qg a0=some r):GTo Tryz.prog 177 [.agg (Qe a0)] O n (.tup [(vI r.1),(vB r.2)]) O n:=by
 unfold Qg at h
 refine Yo Zv Tryz.call177 Tryz.func177 rfl (Nat.le_of_ble_eq_true rfl) (Nat.le_refl _) fun hU => ?_
 have hN0:O n=none:=hU.fresh _ (Nat.le_refl _)
 have hN:∀ k,O (n+k)=none:=fun k=>hU.fresh _ (Nat.le_add_right _ _)
 show W _ _ _ _ ⟨57,[],[(0,.agg (Qe a0))]⟩ (Z0 O n []) _
 refine zQ [1] ?_
 refine Zd ?_
 refine Yc ?_
 refine zQ [1,4] ?_
 refine Zs (t:=(a0.Kind == 1)) rfl (fun c5 => ?_) (fun c5 => ?_)
 ·replace h:=Zr c5 h
  refine zQ [2,3] ?_
  refine zW ?_
  have h:=Option.some.inj h;subst h
  refine Zi (.inr rfl) hU [(vI (IntKind.i64.wrap (a0.Data+a0.Ptrs))),(vB true)] (by omega) ?_
  simp only [push_cast,seval,↓reduceIte,Zb,Tryz.results177,hN0,hN]
 replace h:=Zq c5 h
 refine zQD [1,13] [none,none,none] ?_
 refine Zs (t:=(cond (a0.Kind == 2) (a0.Code == 7) false)) rfl (fun c4 => ?_) (fun c4 => ?_)
 ·replace h:=Zr c4 h
  refine zQ [2,3] ?_
  refine zW ?_
  have h:=Option.some.inj h;subst h
  refine Zi (.inr rfl) hU [(vI (IntKind.i64.wrap (a0.Count+1))),(vB true)] (by omega) ?_
  simp only [push_cast,seval,↓reduceIte,Zb,Tryz.results177,hN0,hN]
 replace h:=Zq c4 h
 refine zQD [1,25] [none,none,none,none,none,none,none,none,none,none,none,none] ?_
 refine Zs (t:=(cond (cond (cond (cond (a0.Kind == 2) (decide (0≤a0.Code)) false) (decide (a0.Code < 7)) false) (decide (0≤a0.Count)) false) (decide (a0.Count≤536870911)) false)) rfl (fun c3 => ?_) (fun c3 => ?_)
 ·replace h:=Zr c3 h
  refine Zd ?_
  obtain ⟨y2,hy2,h⟩:=bC h
  refine Ua Zv (by kernel_rfl) [] (by kernel_rfl) ?_
  refine zS ?_
  refine PCall.of (Z5o hy2) ?_
  refine zS ?_
  refine zD [2,3] [false] ?_
  refine zW ?_
  have h:=Option.some.inj h;subst h
  refine Zi (.inr rfl) hU [(vI (IntKind.i64.wrap (Int.tdiv (IntKind.i64.wrap ((IntKind.i64.wrap (a0.Count * y2))+63)) 64))),(vB true)] (by omega) ?_
  simp only [push_cast,seval,↓reduceIte,Zb,Tryz.results177,hN0,hN]
 replace h:=Zq c3 h
 refine Jh [] [false] ?_
 refine zQ [2,3] ?_
 refine zW ?_
 have h:=Option.some.inj h;subst h
 refine Zi (.inr rfl) hU [(vI 0),(vB false)] (by omega) ?_
 simp only [push_cast,seval,↓reduceIte,Zb,Tryz.results177,hN0,hN]
theorem Ybg {a0:Ye} {r:Int} {O:Objs} {n:Nat} (h:Znc a0=some r):GTo Tryz.prog 240 [.agg (Qe a0)] O n (.val (.int .u64 r)) O n:=by
 unfold Znc at h
 refine Yo Zv Tryz.call240 Tryz.func240 rfl (Nat.le_of_ble_eq_true rfl) (Nat.le_refl _) fun hU => ?_
 have hN0:O n=none:=hU.fresh _ (Nat.le_refl _)
 have hN:∀ k,O (n+k)=none:=fun k=>hU.fresh _ (Nat.le_add_right _ _)
 show W _ _ _ _ ⟨58,[],[(0,.agg (Qe a0))]⟩ (Z0 O n []) _
 refine zQ [1] ?_
 refine Zd ?_
 refine zQ [1,5] ?_
 refine Yc ?_
 refine zQ [1,5,6] ?_
 refine Zs (t:=(a0.Kind == 1)) rfl (fun c5 => ?_) (fun c5 => ?_)
 ·replace h:=Zr c5 h
  refine zQ [2] ?_
  refine zW ?_
  have h:=Option.some.inj h;subst h
  refine Zi (.inr rfl) hU [.val (.int .u64 (IntKind.u64.wrap (Ut .u64 (IntKind.u64.wrap (Ut .u64 (IntKind.u64.wrap (IntKind.u32.wrap ((IntKind.u32.wrap a0.Off) * 2 ^ min (Int.toNat 2) 32))) (IntKind.u64.wrap ((IntKind.u64.wrap a0.Data) * 2 ^ min (Int.toNat 32) 64)))) (IntKind.u64.wrap ((IntKind.u64.wrap a0.Ptrs) * 2 ^ min (Int.toNat 48) 64)))))] (by omega) ?_
  simp only [push_cast,seval,↓reduceIte,Zb,Tryz.results240,hN0,hN]
 replace h:=Zq c5 h
 refine zQ [1,5,23] ?_
 refine Zs (t:=(a0.Kind == 2)) rfl (fun c4 => ?_) (fun c4 => ?_)
 ·replace h:=Zr c4 h
  refine zQ [2] ?_
  refine zW ?_
  have h:=Option.some.inj h;subst h
  refine Zi (.inr rfl) hU [.val (.int .u64 (IntKind.u64.wrap (Ut .u64 (IntKind.u64.wrap (Ut .u64 (IntKind.u64.wrap (Ut .u64 1 (IntKind.u64.wrap (IntKind.u32.wrap ((IntKind.u32.wrap a0.Off) * 2 ^ min (Int.toNat 2) 32))))) (IntKind.u64.wrap ((IntKind.u64.wrap a0.Code) * 2 ^ min (Int.toNat 32) 64)))) (IntKind.u64.wrap ((IntKind.u64.wrap a0.Count) * 2 ^ min (Int.toNat 35) 64)))))] (by omega) ?_
  simp only [push_cast,seval,↓reduceIte,Zb,Tryz.results240,hN0,hN]
 replace h:=Zq c4 h
 refine zQ [1,41] ?_
 refine Zs (t:=(a0.Kind == 3)) rfl (fun c3 => ?_) (fun c3 => ?_)
 ·replace h:=Zr c3 h
  refine zQ [1,3] ?_
  obtain ⟨z1,hz1,h⟩:=bC h
  refine Y8 (E':=⟨58,[],[(3,.val (.int .u64 z1))]⟩) (O':=(Z0 O n [none])) (n0:=(n+1)) ?_ ?_
  ·refine zQ [3,54] ?_
   refine Zs (t:=a0.Double) rfl (fun c2 => ?_) (fun c2 => ?_)
   ·replace hz1:=Zr c2 hz1
    refine zR ?_
    exact zEn hz1
   replace hz1:=Zq c2 hz1
   refine zK ?_
   exact zEn hz1
  refine zQ [2] ?_
  refine zW ?_
  have h:=Option.some.inj h;subst h
  refine Zi (.inr rfl) hU [.val (.int .u64 z1)] (by omega) ?_
  simp only [push_cast,seval,↓reduceIte,Zb,Tryz.results240,hN0,hN]
 replace h:=Zq c3 h
 refine Jh [] [false] ?_
 refine zQ [2] ?_
 refine zW ?_
 have h:=Option.some.inj h;subst h
 refine Zi (.inr rfl) hU [.val (.int .u64 0)] (by omega) ?_
 simp only [push_cast,seval,↓reduceIte,Zb,Tryz.results240,hN0,hN]
theorem Zsa {a0:Int} {r:Int} {O:Objs} {n:Nat} (h:Zif a0=some r):GTo Tryz.prog 283 [.val (.int .u64 a0)] O n ((vI r)) O n:=by
 unfold Zif at h
 refine Yo Zv Tryz.call283 Tryz.func283 rfl (Nat.le_of_ble_eq_true rfl) (Nat.le_refl _) fun hU => ?_
 have hN0:O n=none:=hU.fresh _ (Nat.le_refl _)
 have hN:∀ k,O (n+k)=none:=fun k=>hU.fresh _ (Nat.le_add_right _ _)
 show W _ _ _ _ ⟨8,[],[(0,.val (.int .u64 a0))]⟩ (Z0 O n []) _
 refine zQ [0] ?_
 refine zQ [2] ?_
 refine zW ?_
 have h:=Option.some.inj h;subst h
 refine Zi (.inr rfl) hU [(vI (IntKind.i64.wrap (Int.fdiv (IntKind.i32.wrap (IntKind.u32.wrap a0)) (2 ^ min (Int.toNat 2) 32))))] (by omega) ?_
 simp only [push_cast,seval,↓reduceIte,Zb,Tryz.results283,hN0,hN]
theorem Zfn {a0:Int} {a1:Int} {a2:Int} {r:Int} {O:Objs} {n:Nat} (h:Q8 a0 a1 a2=some r):GTo Tryz.prog 284 [.val (.int .u64 a0),(vI a1),(vI a2)] O n ((vI r)) O n:=by
 unfold Q8 at h
 refine Yo Zv Tryz.call284 Tryz.func284 rfl (Nat.le_of_ble_eq_true rfl) (Nat.le_refl _) fun hU => ?_
 have hN0:O n=none:=hU.fresh _ (Nat.le_refl _)
 have hN:∀ k,O (n+k)=none:=fun k=>hU.fresh _ (Nat.le_add_right _ _)
 show W _ _ _ _ ⟨15,[],[(0,.val (.int .u64 a0)),(1,(vI a1)),(2,(vI a2))]⟩ (Z0 O n []) _
 refine zQ [0,1,2] ?_
 obtain ⟨pu3,h⟩:=bG h
 obtain ⟨pu4,h⟩:=bG h
 refine Zlp [6] (Ua Zv (by kernel_rfl) [] (by kernel_rfl) ?_)
 simp only [push_cast,seval,↓reduceIte,Zb,pu3,pu4,hN0,hN]
 refine zW ?_
 have h:=Option.some.inj h;subst h
 refine Zi (.inr rfl) hU [(vI (IntKind.i64.wrap (IntKind.u64.wrap (Zc6 .u64 (Int.fdiv a0 (2 ^ min (Int.toNat a1) 64)) (IntKind.u64.wrap ((IntKind.u64.wrap (1 * 2 ^ min (Int.toNat a2) 64)) - 1))))))] (by omega) ?_
 simp only [push_cast,seval,↓reduceIte,Zb,Tryz.results284,hN0,hN]
theorem Gp {a0:Int} {r:Ye} {O:Objs} {n:Nat} (h:Vi a0=some r):GTo Tryz.prog 241 [.val (.int .u64 a0)] O n (.agg (Qe r)) O n:=by
 unfold Vi at h
 refine Yo Zv Tryz.call241 Tryz.func241 rfl (Nat.le_of_ble_eq_true rfl) (Nat.le_refl _) fun hU => ?_
 have hN0:O n=none:=hU.fresh _ (Nat.le_refl _)
 have hN:∀ k,O (n+k)=none:=fun k=>hU.fresh _ (Nat.le_add_right _ _)
 show W _ _ _ _ ⟨38,[],[(0,.val (.int .u64 a0))]⟩ (Z0 O n []) _
 refine zQ [0,2] ?_
 refine Zd ?_
 refine zQ [0,2,4] ?_
 refine Zs (t:=(a0 == 0)) rfl (fun c20 => ?_) (fun c20 => ?_)
 ·replace h:=Zr c20 h
  refine Zd ?_
  refine zR ?_
  refine Zdq ⟨38,[],[(2,.ref n 0)]⟩ (Z0 O n [some ⟨false,191,8,1,[(vI 0),(vI 0),(vI 0),(vI 0),(vI 0),(vI 0),(vI 0),(vB false)]⟩]) (Y1 hU rfl rfl ?_) ?_
  ·exact zSe
  refine zW ?_
  have h:=Option.some.inj h;subst h
  refine Zi (.inr rfl) hU [.agg [(vI 0),(vI 0),(vI 0),(vI 0),(vI 0),(vI 0),(vI 0),(vB false)]] (by omega) ?_
  simp only [push_cast,seval,↓reduceIte,Zb,Tryz.results241,hN0,hN]
 replace h:=Zq c20 h
 refine zK ?_
 refine Zdq ⟨38,[],[(0,.val (.int .u64 a0)),(2,.ref n 0)]⟩ (Z0 O n [some ⟨false,191,8,1,[(vI 0),(vI 0),(vI 0),(vI 0),(vI 0),(vI 0),(vI 0),(vB false)]⟩]) (Y1 hU rfl rfl ?_) ?_
 ·exact zSe
 refine Zd ?_
 refine zQ [0,2,7] ?_
 refine Yc ?_
 refine zQ [0,2,7,8] ?_
 refine Zs (t:=((IntKind.u64.wrap (Zc6 .u64 a0 3)) == 0)) rfl (fun c19 => ?_) (fun c19 => ?_)
 ·replace h:=Zr c19 h
  refine Zd ?_
  obtain ⟨y4,hy4,h⟩:=bC h
  obtain ⟨y5,hy5,h⟩:=bC h
  obtain ⟨y6,hy6,h⟩:=bC h
  refine zC (Zsa hy4) ?_
  refine zTs (Zfn hy5) ?_
  refine zTs (Zfn hy6) ?_
  refine Zdq ⟨38,[],[(2,.ref n 0)]⟩ (Z0 O n [some ⟨false,191,8,1,[(vI 1),(vI y4),(vI y5),(vI y6),(vI 0),(vI 0),(vI 0),(vB false)]⟩]) (Y1 hU rfl rfl ?_) ?_
  ·exact zSe
  refine zW ?_
  have h:=Option.some.inj h;subst h
  refine Zi (.inr rfl) hU [.agg [(vI 1),(vI y4),(vI y5),(vI y6),(vI 0),(vI 0),(vI 0),(vB false)]] (by omega) ?_
  simp only [push_cast,seval,↓reduceIte,Zb,Tryz.results241,hN0,hN]
 replace h:=Zq c19 h
 refine zQ [0,2,7,17] ?_
 refine Zs (t:=((IntKind.u64.wrap (Zc6 .u64 a0 3)) == 1)) rfl (fun Uj => ?_) (fun Uj => ?_)
 ·replace h:=Zr Uj h
  refine Zd ?_
  obtain ⟨y10,hy10,h⟩:=bC h
  obtain ⟨y11,hy11,h⟩:=bC h
  obtain ⟨y12,hy12,h⟩:=bC h
  refine zC (Zsa hy10) ?_
  refine zTs (Zfn hy11) ?_
  refine zTs (Zfn hy12) ?_
  refine Zdq ⟨38,[],[(2,.ref n 0)]⟩ (Z0 O n [some ⟨false,191,8,1,[(vI 2),(vI y10),(vI 0),(vI 0),(vI y11),(vI y12),(vI 0),(vB false)]⟩]) (Y1 hU rfl rfl ?_) ?_
  ·exact zSe
  refine zW ?_
  have h:=Option.some.inj h;subst h
  refine Zi (.inr rfl) hU [.agg [(vI 2),(vI y10),(vI 0),(vI 0),(vI y11),(vI y12),(vI 0),(vB false)]] (by omega) ?_
  simp only [push_cast,seval,↓reduceIte,Zb,Tryz.results241,hN0,hN]
 replace h:=Zq Uj h
 refine zQ [0,2,26] ?_
 refine Zs (t:=((IntKind.u64.wrap (Zc6 .u64 a0 3)) == 2)) rfl (fun c17 => ?_) (fun c17 => ?_)
 ·replace h:=Zr c17 h
  refine Zd ?_
  obtain ⟨y15,hy15,h⟩:=bC h
  obtain ⟨y16,hy16,h⟩:=bC h
  refine zC (Zfn hy15) ?_
  refine zTs (Zfn hy16) ?_
  refine Zdq ⟨38,[],[(2,.ref n 0)]⟩ (Z0 O n [some ⟨false,191,8,1,[(vI 3),(vI y15),(vI 0),(vI 0),(vI 0),(vI 0),(vI y16),(vB ((IntKind.u64.wrap (Zc6 .u64 (Int.fdiv a0 (2 ^ min (Int.toNat 2) 64)) 1)) == 1))]⟩]) (Y1 hU rfl rfl ?_) ?_
  ·exact zSe
  refine zW ?_
  have h:=Option.some.inj h;subst h
  refine Zi (.inr rfl) hU [.agg [(vI 3),(vI y15),(vI 0),(vI 0),(vI 0),(vI 0),(vI y16),(vB ((IntKind.u64.wrap (Zc6 .u64 (Int.fdiv a0 (2 ^ min (Int.toNat 2) 64)) 1)) == 1))]] (by omega) ?_
  simp only [push_cast,seval,↓reduceIte,Zb,Tryz.results241,hN0,hN]
 replace h:=Zq c17 h
 refine zK ?_
 refine Zdq ⟨38,[],[(2,.ref n 0)]⟩ (Z0 O n [some ⟨false,191,8,1,[(vI 0),(vI 0),(vI 0),(vI 0),(vI 0),(vI 0),(vI 0),(vB false)]⟩]) (Y1 hU rfl rfl ?_) ?_
 ·exact zSe
 refine Zd ?_
 refine zR ?_
 refine Zdq ⟨38,[],[(2,.ref n 0)]⟩ (Z0 O n [some ⟨false,191,8,1,[(vI 4),(vI 0),(vI 0),(vI 0),(vI 0),(vI 0),(vI 0),(vB false)]⟩]) (Y1 hU rfl rfl ?_) ?_
 ·exact zSe
 refine zW ?_
 have h:=Option.some.inj h;subst h
 refine Zi (.inr rfl) hU [.agg [(vI 4),(vI 0),(vI 0),(vI 0),(vI 0),(vI 0),(vI 0),(vB false)]] (by omega) ?_
 simp only [push_cast,seval,↓reduceIte,Zb,Tryz.results241,hN0,hN]
theorem Zr9 {a0:Ye} {r:(Int×Bool)} {O:Objs} {n:Nat} (h:Ue a0=some r):GTo Tryz.prog 178 [.agg (Qe a0)] O n (.tup [.val (.int .u64 r.1),(vB r.2)]) O n:=by
 unfold Ue at h
 refine Yo Zv Tryz.call178 Tryz.func178 rfl (Nat.le_of_ble_eq_true rfl) (Nat.le_refl _) fun hU => ?_
 have hN0:O n=none:=hU.fresh _ (Nat.le_refl _)
 have hN:∀ k,O (n+k)=none:=fun k=>hU.fresh _ (Nat.le_add_right _ _)
 show W _ _ _ _ ⟨17,[],[(0,.agg (Qe a0))]⟩ (Z0 O n []) _
 refine zQ [1] ?_
 refine Zd ?_
 obtain ⟨y2,hy2,h⟩:=bC h
 refine zCd (Ybg hy2) [1,4] [true] ?_
 obtain ⟨z4,hz4,h⟩:=bC h
 refine Y8 (E':=⟨17,[],[(2,.val (.int .u64 y2)),(3,(vB z4))]⟩) (O':=(Z0 O n [none])) (n0:=(n+1)) ?_ ?_
 ·rcases Bool.eq_false_or_eq_true (a0.Kind != 4) with c7 | c7
  ·replace hz4:=Zr c7 hz4
   obtain ⟨y6,hy6,hz4⟩:=bC hz4
   refine Ua Zv (by kernel_rfl) [some true,some true,some true,some true] (by kernel_rfl) ?_
   refine zX1 c7 ?_
   refine PCall.of (Gp hy6) ?_
   refine zX1 c7 ?_
   exact J7 hz4 c7
  replace hz4:=Zq c7 hz4
  refine Ua Zv (by kernel_rfl) [some false,some false,some false,some false] (by kernel_rfl) ?_
  refine zX1 c7 ?_
  exact J7 hz4 c7
 refine zW ?_
 have h:=Option.some.inj h;subst h
 refine Zi (.inr rfl) hU [.val (.int .u64 y2),(vB z4)] (by omega) ?_
 simp only [push_cast,seval,↓reduceIte,Zb,Tryz.results178,hN0,hN]
theorem Z5q {a0:Za} {a1:Int} {r:Int} {O:Objs} {n:Nat} (h:Zju a0 a1=some r):GTo Tryz.prog 99 [.agg (Zj a0),(vI a1)] O n (.val (.int .u64 r)) O n:=by
 unfold Zju at h
 refine Yo Zv Tryz.call99 Tryz.func99 rfl (Nat.le_of_ble_eq_true rfl) (Nat.le_refl _) fun hU => ?_
 have hN0:O n=none:=hU.fresh _ (Nat.le_refl _)
 have hN:∀ k,O (n+k)=none:=fun k=>hU.fresh _ (Nat.le_add_right _ _)
 show W _ _ _ _ ⟨19,[],[(0,.agg (Zj a0)),(1,(vI a1))]⟩ (Z0 O n []) _
 refine zQ [1,2] ?_
 refine Zd ?_
 refine zQD [1,2,13] [none,none,none,none,none] ?_
 refine Zs (t:=(cond (decide (a1 < 0)) true (decide ((a0.Words.length:Int)≤a1)))) rfl (fun c3 => ?_) (fun c3 => ?_)
 ·replace h:=Zr c3 h
  refine zQ [4] ?_
  refine zW ?_
  have h:=Option.some.inj h;subst h
  refine Zi (.inr rfl) hU [.val (.int .u64 0)] (by omega) ?_
  simp only [push_cast,seval,↓reduceIte,Zb,Tryz.results99,hN0,hN]
 replace h:=Zq c3 h
 refine Jh [1,2] [true] ?_
 obtain ⟨x2,hx2,ax2,bx2,cx2,h⟩:=bE (f:=(eI .u64)) Zf0 (fun _=>rfl) (by decide) h
 refine Zlp [4] (Yx Zv [] ?_)
 refine zF3 ax2 bx2 cx2 ?_
 refine zW ?_
 have h:=Option.some.inj h;subst h
 refine Zi (.inr rfl) hU [.val (.int .u64 x2)] (by omega) ?_
 simp only [push_cast,seval,↓reduceIte,Zb,Tryz.results99,hN0,hN]
theorem Z93 {a0:Int} {a1:(List Int)} {r:((List Int)×Bool)} {O:Objs} {n:Nat} (h:Zi7 a0 a1=some r):GTo Tryz.prog 285 [(vI a0),(sL (eI .u64) a1)] O n (.tup [(sL (eI .u64) r.1),(vB r.2)]) O n:=by
 unfold Zi7 at h
 refine Yo Zv Tryz.call285 Tryz.func285 rfl (Nat.le_of_ble_eq_true rfl) (Nat.le_refl _) fun hU => ?_
 have hN0:O n=none:=hU.fresh _ (Nat.le_refl _)
 have hN:∀ k,O (n+k)=none:=fun k=>hU.fresh _ (Nat.le_add_right _ _)
 show W _ _ _ _ ⟨68,[],[(0,(vI a0)),(1,(sL (eI .u64) a1))]⟩ (Z0 O n []) _
 refine zQ [0,1] ?_
 refine Zd ?_
 obtain ⟨y2,hy2,h⟩:=bC h
 refine zCd (Zmv hy2) [0,1,6,7] [] ?_
 refine Zd ?_
 refine zQd [0,1,6,7,19,20,21] [0,1,6,7,19,20,21] [] ?_
 obtain ⟨z8,hz8,h⟩:=bC h
 refine Y3 (E':=⟨68,[],[(0,(vI a0)),(1,(sL (eI .u64) a1)),(6,(vI y2.1)),(7,(vB z8))]⟩) (O':=(Z0 O n [])) (n0:=n) ?_ ?_
 ·refine Xf hz8 (fun s0_=>⟨68,[],[(0,(vI a0)),(1,(sL (eI .u64) a1)),(6,(vI y2.1)),(7,(vB s0_.1)),(19,(sL (eI .u64) a1)),(20,(vI (a1.length:Int))),(21,(vI s0_.2))]⟩) (fun s0_=>(Z0 O n [])) (fun z8=>JX 0 n (⟨68,[],[(0,(vI a0)),(1,(sL (eI .u64) a1)),(6,(vI y2.1)),(7,(vB z8))]⟩:Env) (Z0 O n []) n) ?_
  intro s0_ x0_ hs0_
  unfold Zee at hs0_
  try dsimp only
  refine zQ [0,1,6,7,19,20,21,22] ?_
  refine Zd ?_
  refine Zs (t:=(decide (s0_.2 < (a1.length:Int)))) rfl (fun c7 => ?_) (fun c7 => ?_)
  ·replace hs0_:=Zr c7 hs0_
   refine Jh [0,1,6,7,19,20,21] [] ?_
   refine Zd ?_
   refine Yc ?_
   obtain ⟨x4,hx4,ax4,bx4,cx4,hs0_⟩:=bE (f:=(eI .u64)) Zf0 (fun _=>rfl) (by decide) hs0_
   refine Zlp [0,1,6,7,9,19,20,21] (Yx Zv [] ?_)
   refine zF3 ax4 bx4 cx4 ?_
   rcases Bool.eq_false_or_eq_true s0_.1 with c6 | c6
   ·replace hs0_:=Zr c6 hs0_
    obtain ⟨y5,hy5,hs0_⟩:=bC hs0_
    refine Ks [some true,some true,some true] c6 ?_
    refine (Zt9 hy5).then ?_
    refine zX1 c6 ?_
    refine zD [0,1,6,7,19,20,21] [] ?_
    refine zR ?_
    exact J7 hs0_ c6
   replace hs0_:=Zq c6 hs0_
   refine Ks [some false,some false,some false] c6 ?_
   refine zD [0,1,6,7,19,20,21] [] ?_
   refine zR ?_
   exact zEn hs0_
  replace hs0_:=Zq c7 hs0_
  exact zEx hs0_
 try simp only [Xc,Yp,↓reduceIte,Nat.reduceEqDiff]
 refine zDs [0,1,6,7] [] ?_
 refine zQ [0,1,6,33] ?_
 refine Zs (t:=(!z8)) rfl (fun c26 => ?_) (fun c26 => ?_)
 ·replace h:=Zr c26 h
  refine zQ [4,5] ?_
  refine zW ?_
  have h:=Option.some.inj h;subst h
  refine Zi (.inr rfl) hU [nV,(vB false)] (by omega) ?_
  simp only [push_cast,seval,↓reduceIte,Zb,Tryz.results285,hN0,hN]
 replace h:=Zq c26 h
 refine Jh [0,1,6] [] ?_
 refine Zd ?_
 obtain ⟨y11,hy11,h⟩:=bC h
 obtain ⟨l12,al12,bl12,cl12,el12,h⟩:=bM2 (c:=8) rfl h
 have nl12:Int.toNat y11=List.length l12:=by rw [el12,List.length_replicate]
 have fl12:(List.replicate (List.length l12) [.val (.int .u64 0)]).flatten=fl (eI .u64) l12:=by rw [← nl12,el12];exact (Zte (f:=(eI .u64)) _ _).symm
 clear el12
 refine Yx Zv [] ?_
 simp only [push_cast,seval,↓reduceIte,Zb,al12,bl12,cl12,fl12,nl12,hN0,hN]
 refine (Zua hy11).then ?_
 simp only [push_cast,seval,↓reduceIte,Zb,al12,bl12,cl12,fl12,nl12,hN0,hN]
 refine Zdq ⟨68,[],[(1,(sL (eI .u64) a1)),(6,(vI y2.1)),(10,.row n l12.length)]⟩ (Z0 O n [some (oR 77 1 (eI .u64) l12)]) (Y1 hU rfl rfl ?_) ?_
 ·simp only [push_cast,seval,↓reduceIte,Zb,al12,bl12,cl12,fl12,nl12,hN0,hN]
 refine Zd ?_
 refine zQ [1,6,10,40] ?_
 refine Zs (t:=(y2.1 == 0)) rfl (fun c25 => ?_) (fun c25 => ?_)
 ·replace h:=Zr c25 h
  refine zQ [4,5] ?_
  refine zW ?_
  have h:=Option.some.inj h;subst h
  refine Zi (.inr rfl) hU [.row n l12.length,(vB true)] (by omega) ?_
  simp only [push_cast,seval,↓reduceIte,Zb,Tryz.results285,hN0,hN]
 replace h:=Zq c25 h
 refine Jh [1,6,10] [true] ?_
 obtain ⟨pu14,h⟩:=bG h
 refine Zlp [1,6,10,11] (Yx Zv [] ?_)
 simp only [push_cast,seval,↓reduceIte,Zb,pu14,hN0,hN]
 refine Zd ?_
 refine zQd [6,10,11,44,45,46] [6,10,11,44,45,46] [true] ?_
 obtain ⟨z24,hz24,h⟩:=bC h
 refine Y3 (E':=⟨68,[],[(10,.row n z24.length)]⟩) (O':=(Z0 O n [some (oR 77 1 (eI .u64) z24)])) (n0:=(n+1)) ?_ ?_
 ·refine Xf hz24 (fun s1_=>⟨68,[],[(6,(vI y2.1)),(10,.row n s1_.2.length),(11,(vI (IntKind.i64.wrap (Int.tdiv 64 y2.1)))),(44,(sL (eI .u64) a1)),(45,(vI (a1.length:Int))),(46,(vI s1_.1))]⟩) (fun s1_=>(Z0 O n [some (oR 77 1 (eI .u64) s1_.2)])) (fun z24=>JX 2 n (⟨68,[],[(10,.row n z24.length)]⟩:Env) (Z0 O n [some (oR 77 1 (eI .u64) z24)]) (n+1)) ?_
  intro s1_ x1_ hs1_
  unfold Zbv at hs1_
  try dsimp only
  refine zQ [6,10,11,44,45,46,47] ?_
  refine Zd ?_
  refine Zs (t:=(decide (s1_.1 < (a1.length:Int)))) rfl (fun c23 => ?_) (fun c23 => ?_)
  ·replace hs1_:=Zr c23 hs1_
   refine Jh [6,10,11,44,45,46] [true] ?_
   refine Zd ?_
   refine Yc ?_
   obtain ⟨x16,hx16,ax16,bx16,cx16,hs1_⟩:=bE (f:=(eI .u64)) Zf0 (fun _=>rfl) (by decide) hs1_
   refine Zlp [6,10,11,12,13,44,45,46] (Yx Zv [] ?_)
   refine zF3 ax16 bx16 cx16 ?_
   obtain ⟨pu17,hs1_⟩:=bG hs1_
   obtain ⟨x18,hx18,ax18,bx18,cx18,hs1_⟩:=bE (f:=(eI .u64)) Zf0 (fun _=>rfl) (by decide) hs1_
   obtain ⟨pu19,hs1_⟩:=bG hs1_
   obtain ⟨pu20,hs1_⟩:=bG hs1_
   have gu22:U3 (fl (eI .u64) s1_.2) [.val (.int .u64 (IntKind.u64.wrap (Ut .u64 x18 (IntKind.u64.wrap (x16 * 2 ^ min (Int.toNat (IntKind.i64.wrap ((Int.tmod s1_.1 (IntKind.i64.wrap (Int.tdiv 64 y2.1))) * y2.1))) 64)))))] (Int.toNat (IntKind.i64.wrap (Int.tdiv s1_.1 (IntKind.i64.wrap (Int.tdiv 64 y2.1)))) * 1)=some (fl (eI .u64) (Jo s1_.2 (IntKind.i64.wrap (Int.tdiv s1_.1 (IntKind.i64.wrap (Int.tdiv 64 y2.1)))) (IntKind.u64.wrap (Ut .u64 x18 (IntKind.u64.wrap (x16 * 2 ^ min (Int.toNat (IntKind.i64.wrap ((Int.tmod s1_.1 (IntKind.i64.wrap (Int.tdiv 64 y2.1))) * y2.1))) 64)))))):=Zi4 (f:=(eI .u64)) (ti:=⟨.bool,1,0,[],false⟩) (x:=(IntKind.u64.wrap (Ut .u64 x18 (IntKind.u64.wrap (x16 * 2 ^ min (Int.toNat (IntKind.i64.wrap ((Int.tmod s1_.1 (IntKind.i64.wrap (Int.tdiv 64 y2.1))) * y2.1))) 64))))) (fun _=>rfl) (Ze0 hx18)
   refine Zhj Zv (by kernel_rfl) [false,false,false,false,false,false,false,false,false,false,false,false,false,false,false,true] [] (by kernel_rfl) ?_
   refine zF7 pu17 ax18 bx18 cx18 pu19 pu20 gu22 ?_
   refine zD [6,10,11,44,45,46] [true] ?_
   refine zR ?_
   exact zEn hs1_
  replace hs1_:=Zq c23 hs1_
  exact zEx hs1_
 try simp only [Xc,Yp,↓reduceIte,Nat.reduceEqDiff]
 refine zD [10] [true] ?_
 refine zQ [4,5] ?_
 refine zW ?_
 have h:=Option.some.inj h;subst h
 refine Zi (.inr rfl) hU [.row n z24.length,(vB true)] (by omega) ?_
 simp only [push_cast,seval,↓reduceIte,Zb,Tryz.results285,hN0,hN]
theorem Zxj {a0:Za} {r:(List Int)} {O:Objs} {n:Nat} (h:Zdy a0=some r):GTo Tryz.prog 244 [.agg (Zj a0)] O n ((sL (eI .u64) r)) O n:=by
 unfold Zdy at h
 refine Yo Zv Tryz.call244 Tryz.func244 rfl (Nat.le_of_ble_eq_true rfl) (Nat.le_refl _) fun hU => ?_
 have hN0:O n=none:=hU.fresh _ (Nat.le_refl _)
 have hN:∀ k,O (n+k)=none:=fun k=>hU.fresh _ (Nat.le_add_right _ _)
 show W _ _ _ _ ⟨30,[],[(0,.agg (Zj a0))]⟩ (Z0 O n []) _
 refine zQ [1] ?_
 refine zQ [1,3] ?_
 refine Zd ?_
 refine zQd [1,3,9,10,11] [1,3,9,10,11] [true] ?_
 refine Zks (E':=(⟨30,[],[(1,.ref n 0),(3,.row (n+1) ([]:List Int).length),(9,(sL Zc a0.Kids)),(10,(vI (a0.Kids.length:Int))),(11,(vI 0))]⟩:Env)) (O':=(Z0 O n [some ⟨false,25,3,1,(Zj a0)⟩,some (oR 77 1 (eI .u64) ([]:List Int)),none])) (n':=(n+3)) ?_ ?_
 ·refine Fit2.trans (E':=(⟨30,[],[(1,.ref n 0),(3,nV),(9,(sL Zc a0.Kids)),(10,(vI (a0.Kids.length:Int))),(11,(vI 0))]⟩:Env)) (O':=(Z0 O n [some ⟨false,25,3,1,(Zj a0)⟩])) (n':=(n+1)) (Fit2.of (Y1 hU rfl rfl ?_) (by omega)) ?_
  ·exact zSe
  refine Fit2.trans (Zm0 3 77 1 rfl (by omega)) ?_
  simp only [Za3,Uu,Zjd,Zhh,List.set_cons_zero,List.set_cons_succ,List.cons_append,List.nil_append,List.length_cons,List.length_nil,Nat.zero_add,Nat.reduceAdd,Nat.reduceLT,Nat.add_assoc]
  refine Fit2.trans (E':=(⟨30,[],[(1,.ref n 0),(3,.row (n+1) ([]:List Int).length),(9,(sL Zc a0.Kids)),(10,(vI (a0.Kids.length:Int))),(11,(vI 0))]⟩:Env)) (O':=(Z0 O n [some ⟨false,25,3,1,(Zj a0)⟩,some (oR 77 1 (eI .u64) ([]:List Int))])) (n':=(n+2)) (Fit2.of (Y1 hU rfl rfl ?_) (by omega)) ?_
  ·exact zSe
  refine Zjg (k:=2) (k':=3) hU [0,1] [0,1,0] rfl rfl rfl rfl ⟨rfl,rfl⟩ ?_
  exact zSe
 obtain ⟨z6,hz6,h⟩:=bC h
 refine Y3 (E':=⟨30,[],[(1,.ref n 0),(3,.row (n+1) z6.length)]⟩) (O':=(Z0 O n [some ⟨false,25,3,1,(Zj a0)⟩,some (oR 77 1 (eI .u64) z6),none])) (n0:=(n+3)) ?_ ?_
 ·refine Xf hz6 (fun s0_=>⟨30,[],[(1,.ref n 0),(3,.row (n+1) s0_.2.length),(9,(sL Zc a0.Kids)),(10,(vI (a0.Kids.length:Int))),(11,(vI s0_.1))]⟩) (fun s0_=>(Z0 O n [some ⟨false,25,3,1,(Zj a0)⟩,some (oR 77 1 (eI .u64) s0_.2),none])) (fun z6=>JX 0 n (⟨30,[],[(1,.ref n 0),(3,.row (n+1) z6.length)]⟩:Env) (Z0 O n [some ⟨false,25,3,1,(Zj a0)⟩,some (oR 77 1 (eI .u64) z6),none]) (n+3)) ?_
  intro s0_ x0_ hs0_
  unfold Zab at hs0_
  try dsimp only
  refine zQ [1,3,9,10,11,12] ?_
  refine Zd ?_
  refine Zs (t:=(decide (s0_.1 < (a0.Kids.length:Int)))) rfl (fun c5 => ?_) (fun c5 => ?_)
  ·replace hs0_:=Zr c5 hs0_
   refine Jh [1,3,9,10,11] [true,true,false] ?_
   refine Zd ?_
   refine Yc ?_
   refine Zd ?_
   obtain ⟨x2,hx2,ax2,bx2,cx2,hs0_⟩:=bE (f:=Zc) Zfz (fun _=>rfl) (by decide) hs0_
   refine Zec [] ax2 bx2 cx2 ?_
   refine zD [1,3,5,9,10,11] [true,true,false,true] ?_
   obtain ⟨y3,hy3,hs0_⟩:=bC hs0_
   obtain ⟨l4,pl4,ql4,el4,hs0_⟩:=bA (k:=1) rfl hs0_
   refine Zhd [] pl4 ql4 el4 ?_
   refine (Z5q hy3).then ?_
   refine zX3 pl4 ql4 el4 ?_
   refine Zdq ⟨30,[],[(1,.ref n 0),(3,.row (n+1) l4.length),(9,(sL Zc a0.Kids)),(10,(vI (a0.Kids.length:Int))),(11,(vI s0_.1))]⟩ (Z0 O n [some ⟨false,25,3,1,(Zj a0)⟩,some (oR 77 1 (eI .u64) l4),none,none,none]) (Y1 hU rfl rfl ?_) ?_
   ·exact Zyq pl4 ql4 el4
   refine zR ?_
   exact zEn hs0_
  replace hs0_:=Zq c5 hs0_
  exact zEx hs0_
 try simp only [Xc,Yp,↓reduceIte,Nat.reduceEqDiff]
 refine zD [1,3] [true,true,false] ?_
 refine Zdq ⟨30,[],[(1,.ref n 0),(3,(sL (eI .u64) z6))]⟩ (Z0 O n [some ⟨false,25,3,1,(Zj a0)⟩,none,none]) (Y1 hU rfl rfl ?_) ?_
 ·exact zSe
 refine Zd ?_
 obtain ⟨y8,hy8,h⟩:=bC h
 refine zCd (Z93 hy8) [6] [false,false,false] ?_
 refine zQ [2] ?_
 refine zW ?_
 have h:=Option.some.inj h;subst h
 refine Zi (.inr rfl) hU [(sL (eI .u64) y8.1)] (by omega) ?_
 simp only [push_cast,seval,↓reduceIte,Zb,Tryz.results244,hN0,hN]
def Vj (Yh:(Ze→Int→Za→Option Ze)):Prop:=∀ {a0:Ze} {a1:Int} {a2:Za} {r:Ze} {O:Objs} {n:Nat} {i0 j0_0:Nat},i0 < n→j0_0 < n→i0≠j0_0→O i0=some ⟨false,140,2,1,[.row j0_0 a0.words.length,(vI a0.next)]⟩→O j0_0=some (oR 77 1 (eI .u64) a0.words)→Yh a0 a1 a2=some r→GTo Tryz.prog 116 [.ref i0 0,(vI a1),.agg (Zj a2)] O n (.tup []) (Z0 ((O.upd j0_0 none).upd i0 (some ⟨false,140,2,1,[.row n r.words.length,(vI r.next)]⟩)) n [some (oR 77 1 (eI .u64) r.words)]) (n+1)
def Kj (Yf:(Ze→Int→Za→Option Ze)):Prop:=∀ {a0:Ze} {a1:Int} {a2:Za} {r:Ze} {O:Objs} {n:Nat} {i0 j0_0:Nat},i0 < n→j0_0 < n→i0≠j0_0→O i0=some ⟨false,140,2,1,[.row j0_0 a0.words.length,(vI a0.next)]⟩→O j0_0=some (oR 77 1 (eI .u64) a0.words)→Yf a0 a1 a2=some r→GTo Tryz.prog 179 [.ref i0 0,(vI a1),.agg (Zj a2)] O n (.tup []) (Z0 ((O.upd j0_0 none).upd i0 (some ⟨false,140,2,1,[.row n r.words.length,(vI r.next)]⟩)) n [some (oR 77 1 (eI .u64) r.words)]) (n+1)
def Jt (Z7:(Ze→Int→(List Za)→Option Ze)):Prop:=∀ {a0:Ze} {a1:Int} {a2:(List Za)} {r:Ze} {O:Objs} {n:Nat} {i0 j0_0:Nat},i0 < n→j0_0 < n→i0≠j0_0→O i0=some ⟨false,140,2,1,[.row j0_0 a0.words.length,(vI a0.next)]⟩→O j0_0=some (oR 77 1 (eI .u64) a0.words)→Z7 a0 a1 a2=some r→GTo Tryz.prog 242 [.ref i0 0,(vI a1),(sL Zc a2)] O n (.tup []) (Z0 ((O.upd j0_0 none).upd i0 (some ⟨false,140,2,1,[.row n r.words.length,(vI r.next)]⟩)) n [some (oR 77 1 (eI .u64) r.words)]) (n+1)
def Kk (Yg:(Ze→Int→Za→Option Ze)):Prop:=∀ {a0:Ze} {a1:Int} {a2:Za} {r:Ze} {O:Objs} {n:Nat} {i0 j0_0:Nat},i0 < n→j0_0 < n→i0≠j0_0→O i0=some ⟨false,140,2,1,[.row j0_0 a0.words.length,(vI a0.next)]⟩→O j0_0=some (oR 77 1 (eI .u64) a0.words)→Yg a0 a1 a2=some r→GTo Tryz.prog 243 [.ref i0 0,(vI a1),.agg (Zj a2)] O n (.tup []) (Z0 ((O.upd j0_0 none).upd i0 (some ⟨false,140,2,1,[.row n r.words.length,(vI r.next)]⟩)) n [some (oR 77 1 (eI .u64) r.words)]) (n+1)
theorem Zpw {Yh:(Ze→Int→Za→Option Ze)} {Yf:(Ze→Int→Za→Option Ze)} {Z7:(Ze→Int→(List Za)→Option Ze)} {Yg:(Ze→Int→Za→Option Ze)} (Gi:Vj Yh) (Ug:Kj Yf) (Qw:Jt Z7) (Uh:Kk Yg) {a0:Ze} {a1:Int} {a2:Za} {r:Ze} {O:Objs} {n:Nat} {i0 j0_0:Nat} (hi0:i0 < n) (Zdx:j0_0 < n) (U4:i0≠j0_0) (ho0:O i0=some ⟨false,140,2,1,[.row j0_0 a0.words.length,(vI a0.next)]⟩) (Zbu:O j0_0=some (oR 77 1 (eI .u64) a0.words)) (h:Q6 Yh Yf Z7 Yg a0 a1 a2=some r):GTo Tryz.prog 116 [.ref i0 0,(vI a1),.agg (Zj a2)] O n (.tup []) (Z0 ((O.upd j0_0 none).upd i0 (some ⟨false,140,2,1,[.row n r.words.length,(vI r.next)]⟩)) n [some (oR 77 1 (eI .u64) r.words)]) (n+1):=by
 unfold Q6 at h
 refine Yo Zv Tryz.call116 Tryz.func116 rfl (Nat.le_of_ble_eq_true rfl) (by omega) fun hU => ?_
 have e0:=Zu6 (ba:=n) (E:=⟨60,[],Zw9 0 [.ref i0 0,.val (.int .i64 a1),.agg [.val (.int .i64 a2.Kind),.sl a2.Words.length (fl (eI .u64) a2.Words),.sl a2.Kids.length (fl Zc a2.Kids)]]⟩) (O:=(Z0 O n [])) (n:=n) (i:=i0) (j:=j0_0) (k:=0) (len:=a0.words.length) (q:=⟨false,140,2,1,[.row j0_0 a0.words.length,.val (.int .i64 a0.next)]⟩) (qj:=⟨true,77,1,a0.words.length,fl (eI .u64) a0.words⟩) (by rw [J3 _ hi0];first | exact ho0 | exact X3 _ _ _) rfl (by rw [J3 _ Zdx];exact Zbu) U4 (by omega)
 simp only [Zdp _ _ Zdx,Zdp _ _ hi0,Za3,Uu,Zj2,Z8e U4,List.set_cons_zero,List.set_cons_succ,List.cons_append,List.nil_append,List.length_cons,List.length_nil,Nat.zero_add,Nat.reduceAdd,Nat.add_assoc] at e0
 refine Zks e0 ?_
 have hU:=(Und.drop hU j0_0)
 have hk0:∀ k,i0 < n+k:=fun k=>by omega
 have hN0:∀ o,Objs.upd (O.upd j0_0 none) i0 o n=none:=fun o=>U0 hU hi0 _ (Nat.le_refl _)
 have hN:∀ o k,Objs.upd (O.upd j0_0 none) i0 o (n+k)=none:=fun o k=>U0 hU hi0 _ (Nat.le_add_right _ _)
 show W _ _ _ _ ⟨60,[],[(0,.ref i0 0),(1,(vI a1)),(2,.agg (Zj a2))]⟩ (Z0 ((O.upd j0_0 none).upd i0 (some ⟨false,140,2,1,[.row n a0.words.length,(vI a0.next)]⟩)) n [some (oR 77 1 (eI .u64) a0.words)]) _
 refine Zeb [0,1,5] hi0 hk0 ?_
 refine Zd ?_
 refine Zeb [0,1,5,12] hi0 hk0 ?_
 refine Zs (t:=(a2.Kind == 0)) rfl (fun Jg => ?_) (fun Jg => ?_)
 ·replace h:=Zr Jg h
  refine zW ?_
  have h:=Option.some.inj h;subst h
  refine Ga (k:=1) (i:=i0) (q1:=⟨false,140,2,1,[.row n a0.words.length,(vI a0.next)]⟩) (L3:=[some (oR 77 1 (eI .u64) a0.words),none]) (E2:=(⟨60,[],[]⟩:Env)) (n3:=(n+2)) (.inr rfl) hU rfl [] ?_ ?_
  ·refine Fit2.trans (E':=(⟨60,[],[]⟩:Env)) (O':=(Z0 ((O.upd j0_0 none).upd i0 (some ⟨false,140,2,1,[.row n a0.words.length,(vI a0.next)]⟩)) n [some (oR 77 1 (eI .u64) a0.words),none])) (n':=(n+2)) (Fit2.of (Xb hU rfl rfl ?_) (by omega)) ?_
   ·exact Ko hi0 hk0
   refine K6 (k:=2) (k':=2) hU [0,1] [0,0] rfl rfl rfl rfl ⟨rfl,rfl⟩ ?_
   exact Ko hi0 hk0
  simp only [push_cast,seval,↓reduceIte,Zb,Tryz.results116,hi0,hk0,hN0,hN]
 replace h:=Zq Jg h
 refine Jh [0,1,5] [true,true] ?_
 refine Zd ?_
 obtain ⟨y2,hy2,h⟩:=bC h
 refine Qf [] hi0 hk0 ?_
 refine (Z2a hy2).then ?_
 refine zX2 hi0 hk0 ?_
 refine zD [0,1,5,6] [true,true,true] ?_
 refine Zeb [0,1,5,6,7] hi0 hk0 ?_
 refine Zd ?_
 obtain ⟨y4,hy4,h⟩:=bC h
 refine Qf [] hi0 hk0 ?_
 refine (Znh hy4).then ?_
 refine zX2 hi0 hk0 ?_
 refine zDs [0,1,5,6,7,8] [true,true,true] ?_
 refine Qf [] hi0 hk0 ?_
 refine zD [0,1,5,6,7,8] [true,true,true] ?_
 obtain ⟨z5,hz5,h⟩:=bC h
 refine Y8 (E':=⟨60,[],[(0,.ref i0 0),(1,(vI a1)),(5,.ref (n+1) 0),(6,.ref (n+2) 0),(7,(vI a0.next)),(8,(vI y4.1))]⟩) (O':=(Z0 ((O.upd j0_0 none).upd i0 (some ⟨false,140,2,1,[.row n a0.words.length,(vI a0.next)]⟩)) n [some (oR 77 1 (eI .u64) a0.words),some ⟨false,25,3,1,(Zj a2)⟩,some ⟨false,191,8,1,[(vI y2.Kind),(vI z5),(vI y2.Data),(vI y2.Ptrs),(vI y2.Code),(vI y2.Count),(vI y2.Segment),(vB y2.Double)]⟩])) (n0:=(n+3)) ?_ ?_
 ·refine Zlp [0,1,5,6,7,8,35] (Yx Zv [none,none] ?_)
  refine zX2 hi0 hk0 ?_
  refine zG ?_
  refine Zs (t:=(cond (y2.Kind == 1) (y4.1 == 0) false)) rfl (fun c6 => ?_) (fun c6 => ?_)
  ·replace hz5:=Zr c6 hz5
   refine Qf [] hi0 hk0 ?_
   have hz5:=Option.some.inj hz5;subst hz5
   refine And.intro rfl (Fit2.of (Xb hU rfl rfl ?_) (by omega))
   exact Ko hi0 hk0
  replace hz5:=Zq c6 hz5
  refine zK ?_
  have hz5:=Option.some.inj hz5;subst hz5
  refine And.intro rfl (Fit2.of (Xb hU rfl rfl ?_) (by omega))
  exact Ko hi0 hk0
 refine Zd ?_
 obtain ⟨y10,hy10,h⟩:=bC h
 obtain ⟨x11,hx11,ax11,bx11,cx11,h⟩:=bE (f:=(eI .u64)) Zf0 (fun _=>rfl) (by decide) h
 have gu12:U3 (fl (eI .u64) a0.words) [.val (.int .u64 y10.1)] (Int.toNat a1 * 1)=some (fl (eI .u64) (Jo a0.words a1 y10.1)):=Zi4 (f:=(eI .u64)) (ti:=⟨.bool,1,0,[],false⟩) (x:=y10.1) (fun _=>rfl) (Ze0 hx11)
 refine Zhj Zv (by kernel_rfl) [false,false,false,false,false,false,false,false,false,false,false,true] [] (by kernel_rfl) ?_
 refine zF6 ax11 bx11 cx11 gu12 hi0 hk0 ?_
 refine PCall.of (Zr9 hy10) ?_
 refine zF6 ax11 bx11 cx11 gu12 hi0 hk0 ?_
 refine zDs [0,5,7,8] [true,true,false] ?_
 refine Qf [] hi0 hk0 ?_
 refine zD [0,5,7] [true,true,false] ?_
 obtain ⟨y13,hy13,h⟩:=bC h
 refine Qf [] hi0 hk0 ?_
 refine (Ug (i0:=i0) (j0_0:=n) (by omega) (by omega) (by omega) (by simp only [push_cast,seval,↓reduceIte,Zb,Ge,hi0,hk0,hN0,hN] <;> rfl) (by simp only [push_cast,seval,↓reduceIte,Zb,Ge,hi0,hk0,hN0,hN] <;> rfl) hy13).then ?_
 refine zX2 hi0 hk0 ?_
 have h:=Option.some.inj h;subst h
 refine Ga (k:=1) (i:=i0) (q1:=⟨false,140,2,1,[.row n y13.words.length,(vI y13.next)]⟩) (L3:=[some (oR 77 1 (eI .u64) y13.words),none]) (E2:=(⟨60,[],[]⟩:Env)) (n3:=(n+2)) (.inl rfl) hU rfl [] ?_ ?_
 ·refine Fit2.trans (E':=(⟨60,[],[]⟩:Env)) (O':=(Z0 ((O.upd j0_0 none).upd i0 (some ⟨false,140,2,1,[.row (n+3) y13.words.length,(vI y13.next)]⟩)) n [none,none,none,some (oR 77 1 (eI .u64) y13.words)])) (n':=(n+4)) (Fit2.of (Xb hU rfl rfl ?_) (by omega)) ?_
  ·exact Ko hi0 hk0
  refine K6 (k:=4) (k':=2) hU [1,1,1,0] [3,0] rfl rfl rfl rfl ⟨rfl,rfl⟩ ?_
  exact Ko hi0 hk0
 simp only [push_cast,seval,↓reduceIte,Zb,Tryz.results116,hi0,hk0,hN0,hN]
theorem Znj {Yh:(Ze→Int→Za→Option Ze)} {Yf:(Ze→Int→Za→Option Ze)} {Z7:(Ze→Int→(List Za)→Option Ze)} {Yg:(Ze→Int→Za→Option Ze)} (Gi:Vj Yh) (Ug:Kj Yf) (Qw:Jt Z7) (Uh:Kk Yg) {a0:Ze} {a1:Int} {a2:Za} {r:Ze} {O:Objs} {n:Nat} {i0 j0_0:Nat} (hi0:i0 < n) (Zdx:j0_0 < n) (U4:i0≠j0_0) (ho0:O i0=some ⟨false,140,2,1,[.row j0_0 a0.words.length,(vI a0.next)]⟩) (Zbu:O j0_0=some (oR 77 1 (eI .u64) a0.words)) (h:Qd Yh Yf Z7 Yg a0 a1 a2=some r):GTo Tryz.prog 179 [.ref i0 0,(vI a1),.agg (Zj a2)] O n (.tup []) (Z0 ((O.upd j0_0 none).upd i0 (some ⟨false,140,2,1,[.row n r.words.length,(vI r.next)]⟩)) n [some (oR 77 1 (eI .u64) r.words)]) (n+1):=by
 unfold Qd at h
 refine Yo Zv Tryz.call179 Tryz.func179 rfl (Nat.le_of_ble_eq_true rfl) (by omega) fun hU => ?_
 have e0:=Zu6 (ba:=n) (E:=⟨47,[],Zw9 0 [.ref i0 0,.val (.int .i64 a1),.agg [.val (.int .i64 a2.Kind),.sl a2.Words.length (fl (eI .u64) a2.Words),.sl a2.Kids.length (fl Zc a2.Kids)]]⟩) (O:=(Z0 O n [])) (n:=n) (i:=i0) (j:=j0_0) (k:=0) (len:=a0.words.length) (q:=⟨false,140,2,1,[.row j0_0 a0.words.length,.val (.int .i64 a0.next)]⟩) (qj:=⟨true,77,1,a0.words.length,fl (eI .u64) a0.words⟩) (by rw [J3 _ hi0];first | exact ho0 | exact X3 _ _ _) rfl (by rw [J3 _ Zdx];exact Zbu) U4 (by omega)
 simp only [Zdp _ _ Zdx,Zdp _ _ hi0,Za3,Uu,Zj2,Z8e U4,List.set_cons_zero,List.set_cons_succ,List.cons_append,List.nil_append,List.length_cons,List.length_nil,Nat.zero_add,Nat.reduceAdd,Nat.add_assoc] at e0
 refine Zks e0 ?_
 have hU:=(Und.drop hU j0_0)
 have hk0:∀ k,i0 < n+k:=fun k=>by omega
 have hN0:∀ o,Objs.upd (O.upd j0_0 none) i0 o n=none:=fun o=>U0 hU hi0 _ (Nat.le_refl _)
 have hN:∀ o k,Objs.upd (O.upd j0_0 none) i0 o (n+k)=none:=fun o k=>U0 hU hi0 _ (Nat.le_add_right _ _)
 show W _ _ _ _ ⟨47,[],[(0,.ref i0 0),(1,(vI a1)),(2,.agg (Zj a2))]⟩ (Z0 ((O.upd j0_0 none).upd i0 (some ⟨false,140,2,1,[.row n a0.words.length,(vI a0.next)]⟩)) n [some (oR 77 1 (eI .u64) a0.words)]) _
 refine Zeb [0,1,5] hi0 hk0 ?_
 refine Zeb [0,1,5,7] hi0 hk0 ?_
 refine Yc ?_
 refine Zeb [0,1,5,7,17] hi0 hk0 ?_
 refine Zs (t:=(a2.Kind == 1)) rfl (fun c11 => ?_) (fun c11 => ?_)
 ·replace h:=Zr c11 h
  obtain ⟨pu1,h⟩:=bG h
  have su1:=fun j=>Zof (T:=Xw) (j:=j) Zkn Zf0 pu1
  have g2:=Zod (f:=(eI .u64)) a0.words a2.Words a1 (fun _=>rfl) pu1.2.1 pu1.2.2
  have mg2:=Nat.mul_one (List.length a2.Words)
  obtain ⟨y3,hy3,h⟩:=bC h
  refine Zys Zv (by kernel_rfl) [.plain,.plain,.plain,.plain,.plain,.plain,.plain,.plain,.plain,.plain,.pass,.plain,.low,.low,.bar] (fun i=>i < (n+2)∧¬ i=n) [0,1,2,3,4,5,6,7,8,9,12,13,10,11,14] [.plain,.plain,.plain,.plain,.plain,.plain,.plain,.plain,.plain,.plain,.low,.low,.pass,.plain,.bar] [] (by kernel_rfl) rfl ?_
  simp only [push_cast,seval,↓reduceIte,Zb,pu1.1,pu1.2.1,pu1.2.2,su1,g2,mg2,hi0,hk0,hN0,hN]
  refine zO ?_
  refine (Qw (i0:=i0) (j0_0:=n) (by omega) (by omega) (by omega) (by simp only [push_cast,seval,↓reduceIte,Zb,Ge,pu1.1,pu1.2.1,pu1.2.2,su1,g2,mg2,hi0,hk0,hN0,hN] <;> rfl) (by simp only [push_cast,seval,↓reduceIte,Zb,Ge,pu1.1,pu1.2.1,pu1.2.2,su1,g2,mg2,hi0,hk0,hN0,hN] <;> rfl) hy3).then ?_
  simp only [push_cast,seval,↓reduceIte,Zb,pu1.1,pu1.2.1,pu1.2.2,su1,g2,mg2,hi0,hk0,hN0,hN]
  refine zO ?_
  have h:=Option.some.inj h;subst h
  refine Ga (k:=1) (i:=i0) (q1:=⟨false,140,2,1,[.row n y3.words.length,(vI y3.next)]⟩) (L3:=[some (oR 77 1 (eI .u64) y3.words),none]) (E2:=(⟨47,[],[]⟩:Env)) (n3:=(n+2)) (.inl rfl) hU rfl [] ?_ ?_
  ·refine Fit2.trans (E':=(⟨47,[],[]⟩:Env)) (O':=(Z0 ((O.upd j0_0 none).upd i0 (some ⟨false,140,2,1,[.row (n+2) y3.words.length,(vI y3.next)]⟩)) n [none,none,some (oR 77 1 (eI .u64) y3.words)])) (n':=(n+3)) (Fit2.of (Xb hU rfl rfl ?_) (by omega)) ?_
   ·simp only [push_cast,seval,↓reduceIte,Zb,pu1.1,pu1.2.1,pu1.2.2,su1,g2,mg2,hi0,hk0,hN0,hN]
   refine K6 (k:=3) (k':=2) hU [1,1,0] [2,0] rfl rfl rfl rfl ⟨rfl,rfl⟩ ?_
   exact Ko hi0 hk0
  simp only [push_cast,seval,↓reduceIte,Zb,Tryz.results179,hi0,hk0,hN0,hN]
 replace h:=Zq c11 h
 refine Zeb [0,1,5,7,34] hi0 hk0 ?_
 refine Zs (t:=(a2.Kind == 8)) rfl (fun c10 => ?_) (fun c10 => ?_)
 ·replace h:=Zr c10 h
  obtain ⟨y4,hy4,h⟩:=bC h
  refine Qf [] hi0 hk0 ?_
  refine (Qw (i0:=i0) (j0_0:=n) (by omega) (by omega) (by omega) (by simp only [push_cast,seval,↓reduceIte,Zb,Ge,hi0,hk0,hN0,hN] <;> rfl) (by simp only [push_cast,seval,↓reduceIte,Zb,Ge,hi0,hk0,hN0,hN] <;> rfl) hy4).then ?_
  refine zX2 hi0 hk0 ?_
  have h:=Option.some.inj h;subst h
  refine Ga (k:=1) (i:=i0) (q1:=⟨false,140,2,1,[.row n y4.words.length,(vI y4.next)]⟩) (L3:=[some (oR 77 1 (eI .u64) y4.words),none]) (E2:=(⟨47,[],[]⟩:Env)) (n3:=(n+2)) (.inl rfl) hU rfl [] ?_ ?_
  ·refine Fit2.trans (E':=(⟨47,[],[]⟩:Env)) (O':=(Z0 ((O.upd j0_0 none).upd i0 (some ⟨false,140,2,1,[.row (n+2) y4.words.length,(vI y4.next)]⟩)) n [none,none,some (oR 77 1 (eI .u64) y4.words)])) (n':=(n+3)) (Fit2.of (Xb hU rfl rfl ?_) (by omega)) ?_
   ·exact Ko hi0 hk0
   refine K6 (k:=3) (k':=2) hU [1,1,0] [2,0] rfl rfl rfl rfl ⟨rfl,rfl⟩ ?_
   exact Ko hi0 hk0
  simp only [push_cast,seval,↓reduceIte,Zb,Tryz.results179,hi0,hk0,hN0,hN]
 replace h:=Zq c10 h
 refine Zeb [0,1,5,41] hi0 hk0 ?_
 refine Zs (t:=(a2.Kind == 9)) rfl (fun c9 => ?_) (fun c9 => ?_)
 ·replace h:=Zr c9 h
  obtain ⟨y5,hy5,h⟩:=bC h
  refine Qf [] hi0 hk0 ?_
  refine (Uh (i0:=i0) (j0_0:=n) (by omega) (by omega) (by omega) (by simp only [push_cast,seval,↓reduceIte,Zb,Ge,hi0,hk0,hN0,hN] <;> rfl) (by simp only [push_cast,seval,↓reduceIte,Zb,Ge,hi0,hk0,hN0,hN] <;> rfl) hy5).then ?_
  refine zX2 hi0 hk0 ?_
  have h:=Option.some.inj h;subst h
  refine Ga (k:=1) (i:=i0) (q1:=⟨false,140,2,1,[.row n y5.words.length,(vI y5.next)]⟩) (L3:=[some (oR 77 1 (eI .u64) y5.words),none]) (E2:=(⟨47,[],[]⟩:Env)) (n3:=(n+2)) (.inl rfl) hU rfl [] ?_ ?_
  ·refine Fit2.trans (E':=(⟨47,[],[]⟩:Env)) (O':=(Z0 ((O.upd j0_0 none).upd i0 (some ⟨false,140,2,1,[.row (n+2) y5.words.length,(vI y5.next)]⟩)) n [none,none,some (oR 77 1 (eI .u64) y5.words)])) (n':=(n+3)) (Fit2.of (Xb hU rfl rfl ?_) (by omega)) ?_
   ·exact Ko hi0 hk0
   refine K6 (k:=3) (k':=2) hU [1,1,0] [2,0] rfl rfl rfl rfl ⟨rfl,rfl⟩ ?_
   exact Ko hi0 hk0
  simp only [push_cast,seval,↓reduceIte,Zb,Tryz.results179,hi0,hk0,hN0,hN]
 replace h:=Zq c9 h
 obtain ⟨pu6,h⟩:=bG h
 have su6:=fun j=>Zof (T:=Xw) (j:=j) Zkn Zf0 pu6
 obtain ⟨y7,hy7,h⟩:=bC h
 have g8:=Zod (f:=(eI .u64)) a0.words y7 a1 (fun _=>rfl) pu6.2.1 pu6.2.2
 have mg8:=Nat.mul_one (List.length y7)
 refine Zhj Zv (by kernel_rfl) [false,false,false,false,false,false,false,false,true] [] (by kernel_rfl) ?_
 simp only [push_cast,seval,↓reduceIte,Zb,pu6.1,pu6.2.1,pu6.2.2,su6,g8,mg8,hi0,hk0,hN0,hN]
 refine PCall.of (Zxj hy7) ?_
 simp only [push_cast,seval,↓reduceIte,Zb,pu6.1,pu6.2.1,pu6.2.2,su6,g8,mg8,hi0,hk0,hN0,hN]
 have h:=Option.some.inj h;subst h
 refine Ga (k:=1) (i:=i0) (q1:=⟨false,140,2,1,[.row n (Zm2 a0.words a1 y7).length,(vI a0.next)]⟩) (L3:=[some (oR 77 1 (eI .u64) (Zm2 a0.words a1 y7)),none]) (E2:=(⟨47,[],[]⟩:Env)) (n3:=(n+2)) (.inl rfl) hU rfl [] ?_ ?_
 ·refine Fit2.trans (E':=(⟨47,[],[]⟩:Env)) (O':=(Z0 ((O.upd j0_0 none).upd i0 (some ⟨false,140,2,1,[.row n (Zm2 a0.words a1 y7).length,(vI a0.next)]⟩)) n [some (oR 77 1 (eI .u64) (Zm2 a0.words a1 y7)),none])) (n':=(n+2)) (Fit2.of (Xb hU rfl rfl ?_) (by omega)) ?_
  ·simp only [push_cast,seval,↓reduceIte,Zb,pu6.1,pu6.2.1,pu6.2.2,su6,g8,mg8,hi0,hk0,hN0,hN]
  refine K6 (k:=2) (k':=2) hU [0,1] [0,0] rfl rfl rfl rfl ⟨rfl,rfl⟩ ?_
  exact Ko hi0 hk0
 simp only [push_cast,seval,↓reduceIte,Zb,Tryz.results179,hi0,hk0,hN0,hN]
theorem Zmw {Yh:(Ze→Int→Za→Option Ze)} {Yf:(Ze→Int→Za→Option Ze)} {Z7:(Ze→Int→(List Za)→Option Ze)} {Yg:(Ze→Int→Za→Option Ze)} (Gi:Vj Yh) (Ug:Kj Yf) (Qw:Jt Z7) (Uh:Kk Yg) {a0:Ze} {a1:Int} {a2:(List Za)} {r:Ze} {O:Objs} {n:Nat} {i0 j0_0:Nat} (hi0:i0 < n) (Zdx:j0_0 < n) (U4:i0≠j0_0) (ho0:O i0=some ⟨false,140,2,1,[.row j0_0 a0.words.length,(vI a0.next)]⟩) (Zbu:O j0_0=some (oR 77 1 (eI .u64) a0.words)) (h:Vb Yh Yf Z7 Yg a0 a1 a2=some r):GTo Tryz.prog 242 [.ref i0 0,(vI a1),(sL Zc a2)] O n (.tup []) (Z0 ((O.upd j0_0 none).upd i0 (some ⟨false,140,2,1,[.row n r.words.length,(vI r.next)]⟩)) n [some (oR 77 1 (eI .u64) r.words)]) (n+1):=by
 unfold Vb at h
 refine Yo Zv Tryz.call242 Tryz.func242 rfl (Nat.le_of_ble_eq_true rfl) (by omega) fun hU => ?_
 have e0:=Zu6 (ba:=n) (E:=⟨22,[],Zw9 0 [.ref i0 0,.val (.int .i64 a1),.sl a2.length (fl Zc a2)]⟩) (O:=(Z0 O n [])) (n:=n) (i:=i0) (j:=j0_0) (k:=0) (len:=a0.words.length) (q:=⟨false,140,2,1,[.row j0_0 a0.words.length,.val (.int .i64 a0.next)]⟩) (qj:=⟨true,77,1,a0.words.length,fl (eI .u64) a0.words⟩) (by rw [J3 _ hi0];first | exact ho0 | exact X3 _ _ _) rfl (by rw [J3 _ Zdx];exact Zbu) U4 (by omega)
 simp only [Zdp _ _ Zdx,Zdp _ _ hi0,Za3,Uu,Zj2,Z8e U4,List.set_cons_zero,List.set_cons_succ,List.cons_append,List.nil_append,List.length_cons,List.length_nil,Nat.zero_add,Nat.reduceAdd,Nat.add_assoc] at e0
 refine Zks e0 ?_
 have hU:=(Und.drop hU j0_0)
 have hk0:∀ k,i0 < n+k:=fun k=>by omega
 have hN0:∀ o,Objs.upd (O.upd j0_0 none) i0 o n=none:=fun o=>U0 hU hi0 _ (Nat.le_refl _)
 have hN:∀ o k,Objs.upd (O.upd j0_0 none) i0 o (n+k)=none:=fun o k=>U0 hU hi0 _ (Nat.le_add_right _ _)
 show W _ _ _ _ ⟨22,[],[(0,.ref i0 0),(1,(vI a1)),(2,(sL Zc a2))]⟩ (Z0 ((O.upd j0_0 none).upd i0 (some ⟨false,140,2,1,[.row n a0.words.length,(vI a0.next)]⟩)) n [some (oR 77 1 (eI .u64) a0.words)]) _
 refine Zeb [0,1,8,9,10] hi0 hk0 ?_
 refine zD [0,1,8,9,10] [true] ?_
 refine Zks (E':=(⟨22,[],[(0,.ref i0 0),(1,(vI a1)),(8,(sL Zc a2)),(9,(vI (a2.length:Int))),(10,(vI 0))]⟩:Env)) (O':=(Z0 ((O.upd j0_0 none).upd i0 (some ⟨false,140,2,1,[.row (n+1) a0.words.length,(vI a0.next)]⟩)) n [none,some (oR 77 1 (eI .u64) a0.words)])) (n':=(n+2)) ?_ ?_
 ·refine Fit2.trans (E':=(⟨22,[],[(0,.ref i0 0),(1,(vI a1)),(8,(sL Zc a2)),(9,(vI (a2.length:Int))),(10,(vI 0))]⟩:Env)) (O':=(Z0 ((O.upd j0_0 none).upd i0 (some ⟨false,140,2,1,[.row n a0.words.length,(vI a0.next)]⟩)) n [some (oR 77 1 (eI .u64) a0.words)])) (n':=(n+1)) (Fit2.of (Xb hU rfl rfl ?_) (by omega)) ?_
  ·exact Ko hi0 hk0
  refine K6 (k:=1) (k':=2) hU [1] [0,0] rfl rfl rfl rfl ⟨rfl,rfl⟩ ?_
  exact Ko hi0 hk0
 obtain ⟨z5,hz5,h⟩:=bC h
 refine Y3 (E':=⟨22,[],[]⟩) (O':=(Z0 ((O.upd j0_0 none).upd i0 (some ⟨false,140,2,1,[.row (n+1) z5.1.length,(vI z5.2)]⟩)) n [none,some (oR 77 1 (eI .u64) z5.1)])) (n0:=(n+2)) ?_ ?_
 ·refine Xf hz5 (fun s0_=>⟨22,[],[(0,.ref i0 0),(1,(vI a1)),(8,(sL Zc a2)),(9,(vI (a2.length:Int))),(10,(vI s0_.1))]⟩) (fun s0_=>(Z0 ((O.upd j0_0 none).upd i0 (some ⟨false,140,2,1,[.row (n+1) s0_.2.1.length,(vI s0_.2.2)]⟩)) n [none,some (oR 77 1 (eI .u64) s0_.2.1)])) (fun z5=>JX 0 n (⟨22,[],[]⟩:Env) (Z0 ((O.upd j0_0 none).upd i0 (some ⟨false,140,2,1,[.row (n+1) z5.1.length,(vI z5.2)]⟩)) n [none,some (oR 77 1 (eI .u64) z5.1)]) (n+2)) ?_
  intro s0_ x0_ hs0_
  unfold Js at hs0_
  try dsimp only
  refine Zeb [0,1,8,9,10,11] hi0 hk0 ?_
  refine Zd ?_
  refine Zs (t:=(decide (s0_.1 < (a2.length:Int)))) rfl (fun c4 => ?_) (fun c4 => ?_)
  ·replace hs0_:=Zr c4 hs0_
   refine Jh [0,1,8,9,10] [false,true] ?_
   refine Zd ?_
   refine Yc ?_
   refine Zd ?_
   obtain ⟨x2,hx2,ax2,bx2,cx2,hs0_⟩:=bE (f:=Zc) Zfz (fun _=>rfl) (by decide) hs0_
   refine Yat [] ax2 bx2 cx2 hi0 hk0 ?_
   refine zD [0,1,6,7,8,9,10] [false,true,true] ?_
   obtain ⟨y3,hy3,hs0_⟩:=bC hs0_
   refine Qf [] hi0 hk0 ?_
   refine (Gi (i0:=i0) (j0_0:=(n+1)) (by omega) (by omega) (by omega) (by simp only [push_cast,seval,↓reduceIte,Zb,Ge,hi0,hk0,hN0,hN] <;> rfl) (by simp only [push_cast,seval,↓reduceIte,Zb,Ge,hi0,hk0,hN0,hN] <;> rfl) hy3).then ?_
   refine zX2 hi0 hk0 ?_
   refine zD [0,1,8,9,10] [false,false,false,true] ?_
   refine Qf [] hi0 hk0 ?_
   have hs0_:=Option.some.inj hs0_;subst hs0_
   refine And.intro rfl ?_
   refine Fit2.trans (E':=(⟨22,[],[(0,.ref i0 0),(1,(vI a1)),(8,(sL Zc a2)),(9,(vI (a2.length:Int))),(10,(vI (IntKind.i64.wrap (s0_.1+1))))]⟩:Env)) (O':=(Z0 ((O.upd j0_0 none).upd i0 (some ⟨false,140,2,1,[.row (n+3) y3.words.length,(vI y3.next)]⟩)) n [none,none,none,some (oR 77 1 (eI .u64) y3.words)])) (n':=(n+4)) (Fit2.of (Xb hU rfl rfl ?_) (by omega)) ?_
   ·exact Ko hi0 hk0
   refine K6 (k:=4) (k':=2) hU [0,0,0,1] [0,3] rfl rfl rfl rfl ⟨rfl,rfl⟩ ?_
   exact Ko hi0 hk0
  replace hs0_:=Zq c4 hs0_
  refine zXt ?_
  have hs0_:=Option.some.inj hs0_;subst hs0_
  refine And.intro (fun h=>by cases h) (And.intro rfl (Fit2.of (Xb hU rfl rfl ?_) (by omega)))
  exact Ko hi0 hk0
 try simp only [Xc,Yp,↓reduceIte,Nat.reduceEqDiff]
 have h:=Option.some.inj h;subst h
 refine Ga (k:=1) (i:=i0) (q1:=⟨false,140,2,1,[.row n z5.1.length,(vI z5.2)]⟩) (L3:=[some (oR 77 1 (eI .u64) z5.1),none]) (E2:=(⟨22,[],[]⟩:Env)) (n3:=(n+2)) (.inl rfl) hU rfl [] ?_ ?_
 ·refine Fit2.trans (E':=(⟨22,[],[]⟩:Env)) (O':=(Z0 ((O.upd j0_0 none).upd i0 (some ⟨false,140,2,1,[.row (n+1) z5.1.length,(vI z5.2)]⟩)) n [none,some (oR 77 1 (eI .u64) z5.1)])) (n':=(n+2)) (Fit2.of (Xb hU rfl rfl ?_) (by omega)) ?_
  ·exact Ko hi0 hk0
  refine K6 (k:=2) (k':=2) hU [1,0] [1,0] rfl rfl rfl rfl ⟨rfl,rfl⟩ ?_
  exact Ko hi0 hk0
 simp only [push_cast,seval,↓reduceIte,Zb,Tryz.results242,hi0,hk0,hN0,hN]
theorem Znk {Yh:(Ze→Int→Za→Option Ze)} {Yf:(Ze→Int→Za→Option Ze)} {Z7:(Ze→Int→(List Za)→Option Ze)} {Yg:(Ze→Int→Za→Option Ze)} (Gi:Vj Yh) (Ug:Kj Yf) (Qw:Jt Z7) (Uh:Kk Yg) {a0:Ze} {a1:Int} {a2:Za} {r:Ze} {O:Objs} {n:Nat} {i0 j0_0:Nat} (hi0:i0 < n) (Zdx:j0_0 < n) (U4:i0≠j0_0) (ho0:O i0=some ⟨false,140,2,1,[.row j0_0 a0.words.length,(vI a0.next)]⟩) (Zbu:O j0_0=some (oR 77 1 (eI .u64) a0.words)) (h:Vw Yh Yf Z7 Yg a0 a1 a2=some r):GTo Tryz.prog 243 [.ref i0 0,(vI a1),.agg (Zj a2)] O n (.tup []) (Z0 ((O.upd j0_0 none).upd i0 (some ⟨false,140,2,1,[.row n r.words.length,(vI r.next)]⟩)) n [some (oR 77 1 (eI .u64) r.words)]) (n+1):=by
 unfold Vw at h
 refine Yo Zv Tryz.call243 Tryz.func243 rfl (Nat.le_of_ble_eq_true rfl) (by omega) fun hU => ?_
 have e0:=Zu6 (ba:=n) (E:=⟨85,[],Zw9 0 [.ref i0 0,.val (.int .i64 a1),.agg [.val (.int .i64 a2.Kind),.sl a2.Words.length (fl (eI .u64) a2.Words),.sl a2.Kids.length (fl Zc a2.Kids)]]⟩) (O:=(Z0 O n [])) (n:=n) (i:=i0) (j:=j0_0) (k:=0) (len:=a0.words.length) (q:=⟨false,140,2,1,[.row j0_0 a0.words.length,.val (.int .i64 a0.next)]⟩) (qj:=⟨true,77,1,a0.words.length,fl (eI .u64) a0.words⟩) (by rw [J3 _ hi0];first | exact ho0 | exact X3 _ _ _) rfl (by rw [J3 _ Zdx];exact Zbu) U4 (by omega)
 simp only [Zdp _ _ Zdx,Zdp _ _ hi0,Za3,Uu,Zj2,Z8e U4,List.set_cons_zero,List.set_cons_succ,List.cons_append,List.nil_append,List.length_cons,List.length_nil,Nat.zero_add,Nat.reduceAdd,Nat.add_assoc] at e0
 refine Zks e0 ?_
 have hU:=(Und.drop hU j0_0)
 have hk0:∀ k,i0 < n+k:=fun k=>by omega
 have hN0:∀ o,Objs.upd (O.upd j0_0 none) i0 o n=none:=fun o=>U0 hU hi0 _ (Nat.le_refl _)
 have hN:∀ o k,Objs.upd (O.upd j0_0 none) i0 o (n+k)=none:=fun o k=>U0 hU hi0 _ (Nat.le_add_right _ _)
 show W _ _ _ _ ⟨85,[],[(0,.ref i0 0),(1,(vI a1)),(2,.agg (Zj a2))]⟩ (Z0 ((O.upd j0_0 none).upd i0 (some ⟨false,140,2,1,[.row n a0.words.length,(vI a0.next)]⟩)) n [some (oR 77 1 (eI .u64) a0.words)]) _
 refine Zeb [0,1,5] hi0 hk0 ?_
 refine Zd ?_
 obtain ⟨y2,hy2,h⟩:=bC h
 refine Qf [] hi0 hk0 ?_
 refine (Zmt hy2).then ?_
 refine zX2 hi0 hk0 ?_
 refine zD [0,1,5,6,7] [true,true] ?_
 obtain ⟨z3,hz3,h⟩:=bC h
 refine Y8 (E':=⟨85,[],[(0,.ref i0 0),(1,(vI a1)),(5,.ref (n+1) 0),(6,(vI y2.1)),(7,(vI y2.2))]⟩) (O':=(Z0 ((O.upd j0_0 none).upd i0 (some ⟨false,140,2,1,[.row n z3.length,(vI a0.next)]⟩)) n [some (oR 77 1 (eI .u64) z3),some ⟨false,25,3,1,(Zj a2)⟩])) (n0:=(n+2)) ?_ ?_
 ·refine Zeb [0,1,5,6,7,20] hi0 hk0 ?_
  refine Zs (t:=(decide (0 < (a2.Kids.length:Int)))) rfl (fun c7 => ?_) (fun c7 => ?_)
  ·replace hz3:=Zr c7 hz3
   obtain ⟨y4,hy4,hz3⟩:=bC hz3
   obtain ⟨x5,hx5,ax5,bx5,cx5,hz3⟩:=bE (f:=(eI .u64)) Zf0 (fun _=>rfl) (by decide) hz3
   have gu6:U3 (fl (eI .u64) a0.words) [.val (.int .u64 y4.1)] (Int.toNat a1 * 1)=some (fl (eI .u64) (Jo a0.words a1 y4.1)):=Zi4 (f:=(eI .u64)) (ti:=⟨.bool,1,0,[],false⟩) (x:=y4.1) (fun _=>rfl) (Ze0 hx5)
   refine Zhj Zv (by kernel_rfl) [false,false,false,false,false,false,false,false,false,false,false,false,false,false,false,false,true] [] (by kernel_rfl) ?_
   refine zF6 ax5 bx5 cx5 gu6 hi0 hk0 ?_
   refine PCall.of (Zr9 hy4) ?_
   refine zF6 ax5 bx5 cx5 gu6 hi0 hk0 ?_
   have hz3:=Option.some.inj hz3;subst hz3
   refine And.intro rfl (Fit2.of (Xb hU rfl rfl ?_) (by omega))
   exact Ypp ax5 bx5 cx5 gu6 hi0 hk0
  replace hz3:=Zq c7 hz3
  refine zK ?_
  have hz3:=Option.some.inj hz3;subst hz3
  refine And.intro rfl (Fit2.of (Xb hU rfl rfl ?_) (by omega))
  exact Ko hi0 hk0
 refine Zeb [0,1,5,6,7] hi0 hk0 ?_
 refine Zd ?_
 refine Zeb [0,1,5,6,7,40,41,42] hi0 hk0 ?_
 refine zD [0,1,5,6,7,40,41,42] [true,true] ?_
 obtain ⟨z13,hz13,h⟩:=bC h
 refine Y3 (E':=⟨85,[],[(0,.ref i0 0),(1,(vI (IntKind.i64.wrap (a1+1)))),(5,.ref (n+1) 0),(6,(vI y2.1)),(7,(vI y2.2))]⟩) (O':=(Z0 ((O.upd j0_0 none).upd i0 (some ⟨false,140,2,1,[.row n z13.length,(vI a0.next)]⟩)) n [some (oR 77 1 (eI .u64) z13),some ⟨false,25,3,1,(Zj a2)⟩])) (n0:=(n+2)) ?_ ?_
 ·refine Xf hz13 (fun s0_=>⟨85,[],[(0,.ref i0 0),(1,(vI (IntKind.i64.wrap (a1+1)))),(5,.ref (n+1) 0),(6,(vI y2.1)),(7,(vI y2.2)),(40,(sL Zc a2.Kids)),(41,(vI (a2.Kids.length:Int))),(42,(vI s0_.1))]⟩) (fun s0_=>(Z0 ((O.upd j0_0 none).upd i0 (some ⟨false,140,2,1,[.row n s0_.2.length,(vI a0.next)]⟩)) n [some (oR 77 1 (eI .u64) s0_.2),some ⟨false,25,3,1,(Zj a2)⟩])) (fun z13=>JX 0 n (⟨85,[],[(0,.ref i0 0),(1,(vI (IntKind.i64.wrap (a1+1)))),(5,.ref (n+1) 0),(6,(vI y2.1)),(7,(vI y2.2))]⟩:Env) (Z0 ((O.upd j0_0 none).upd i0 (some ⟨false,140,2,1,[.row n z13.length,(vI a0.next)]⟩)) n [some (oR 77 1 (eI .u64) z13),some ⟨false,25,3,1,(Zj a2)⟩]) (n+2)) ?_
  intro s0_ x0_ hs0_
  unfold Kf at hs0_
  try dsimp only
  refine Zeb [0,1,5,6,7,40,41,42,43] hi0 hk0 ?_
  refine Zd ?_
  refine Zs (t:=(decide (s0_.1 < (a2.Kids.length:Int)))) rfl (fun c12 => ?_) (fun c12 => ?_)
  ·replace hs0_:=Zr c12 hs0_
   refine Jh [0,1,5,6,7,40,41,42] [true,true] ?_
   refine Zd ?_
   refine Yc ?_
   refine Zd ?_
   obtain ⟨x9,hx9,ax9,bx9,cx9,hs0_⟩:=bE (f:=Zc) Zfz (fun _=>rfl) (by decide) hs0_
   refine Yat [] ax9 bx9 cx9 hi0 hk0 ?_
   refine zD [0,1,5,6,7,8,9,40,41,42] [true,true,true] ?_
   obtain ⟨pu10,hs0_⟩:=bG hs0_
   have su10:=fun j=>Zof (T:=Xw) (j:=j) Zkn Zf0 pu10
   have g11:=Zod (f:=(eI .u64)) s0_.2 x9.Words (IntKind.i64.wrap ((IntKind.i64.wrap (a1+1))+(IntKind.i64.wrap (s0_.1 * (IntKind.i64.wrap (y2.1+y2.2)))))) (fun _=>rfl) pu10.2.1 pu10.2.2
   have mg11:=Nat.mul_one (List.length x9.Words)
   refine Zhj Zv (by kernel_rfl) [false,false,false,false,false,false,false,false,false,false,false,false,false,false,true] [] (by kernel_rfl) ?_
   simp only [push_cast,seval,↓reduceIte,Zb,pu10.1,pu10.2.1,pu10.2.2,su10,g11,mg11,hi0,hk0,hN0,hN]
   refine zD [0,1,5,6,7,40,41,42] [true,true,false] ?_
   refine Qf [] hi0 hk0 ?_
   have hs0_:=Option.some.inj hs0_;subst hs0_
   refine And.intro rfl (Fit2.of (Xb hU rfl rfl ?_) (by omega))
   exact Ko hi0 hk0
  replace hs0_:=Zq c12 hs0_
  refine zXt ?_
  have hs0_:=Option.some.inj hs0_;subst hs0_
  refine And.intro (fun h=>by cases h) (And.intro rfl (Fit2.of (Xb hU rfl rfl ?_) (by omega)))
  exact Ko hi0 hk0
 try simp only [Xc,Yp,↓reduceIte,Nat.reduceEqDiff]
 refine zD [0,1,5,6,7] [true,true] ?_
 refine Zeb [0,1,6,7,64,65,66] hi0 hk0 ?_
 refine zD [0,1,6,7,64,65,66] [true,false] ?_
 refine Zks (E':=(⟨85,[],[(0,.ref i0 0),(1,(vI (IntKind.i64.wrap (a1+1)))),(6,(vI y2.1)),(7,(vI y2.2)),(64,(sL Zc a2.Kids)),(65,(vI (a2.Kids.length:Int))),(66,(vI 0))]⟩:Env)) (O':=(Z0 ((O.upd j0_0 none).upd i0 (some ⟨false,140,2,1,[.row (n+2) z13.length,(vI a0.next)]⟩)) n [none,none,some (oR 77 1 (eI .u64) z13)])) (n':=(n+3)) ?_ ?_
 ·refine Fit2.trans (E':=(⟨85,[],[(0,.ref i0 0),(1,(vI (IntKind.i64.wrap (a1+1)))),(6,(vI y2.1)),(7,(vI y2.2)),(64,(sL Zc a2.Kids)),(65,(vI (a2.Kids.length:Int))),(66,(vI 0))]⟩:Env)) (O':=(Z0 ((O.upd j0_0 none).upd i0 (some ⟨false,140,2,1,[.row n z13.length,(vI a0.next)]⟩)) n [some (oR 77 1 (eI .u64) z13),none])) (n':=(n+2)) (Fit2.of (Xb hU rfl rfl ?_) (by omega)) ?_
  ·exact Ko hi0 hk0
  refine K6 (k:=2) (k':=3) hU [2,1] [0,0,0] rfl rfl rfl rfl ⟨rfl,rfl⟩ ?_
  exact Ko hi0 hk0
 obtain ⟨z18,hz18,h⟩:=bC h
 refine Y3 (E':=⟨85,[],[]⟩) (O':=(Z0 ((O.upd j0_0 none).upd i0 (some ⟨false,140,2,1,[.row (n+2) z18.1.length,(vI z18.2)]⟩)) n [none,none,some (oR 77 1 (eI .u64) z18.1)])) (n0:=(n+3)) ?_ ?_
 ·refine Xf hz18 (fun s1_=>⟨85,[],[(0,.ref i0 0),(1,(vI (IntKind.i64.wrap (a1+1)))),(6,(vI y2.1)),(7,(vI y2.2)),(64,(sL Zc a2.Kids)),(65,(vI (a2.Kids.length:Int))),(66,(vI s1_.1))]⟩) (fun s1_=>(Z0 ((O.upd j0_0 none).upd i0 (some ⟨false,140,2,1,[.row (n+2) s1_.2.1.length,(vI s1_.2.2)]⟩)) n [none,none,some (oR 77 1 (eI .u64) s1_.2.1)])) (fun z18=>JX 2 n (⟨85,[],[]⟩:Env) (Z0 ((O.upd j0_0 none).upd i0 (some ⟨false,140,2,1,[.row (n+2) z18.1.length,(vI z18.2)]⟩)) n [none,none,some (oR 77 1 (eI .u64) z18.1)]) (n+3)) ?_
  intro s1_ x1_ hs1_
  unfold Kg at hs1_
  try dsimp only
  refine Zeb [0,1,6,7,64,65,66,67] hi0 hk0 ?_
  refine Zd ?_
  refine Zs (t:=(decide (s1_.1 < (a2.Kids.length:Int)))) rfl (fun c17 => ?_) (fun c17 => ?_)
  ·replace hs1_:=Zr c17 hs1_
   refine Jh [0,1,6,7,64,65,66] [false,false,true] ?_
   refine Zd ?_
   refine Yc ?_
   refine Zd ?_
   obtain ⟨x15,hx15,ax15,bx15,cx15,hs1_⟩:=bE (f:=Zc) Zfz (fun _=>rfl) (by decide) hs1_
   refine Yat [] ax15 bx15 cx15 hi0 hk0 ?_
   refine zD [0,1,6,7,10,11,64,65,66] [false,false,true,true] ?_
   obtain ⟨y16,hy16,hs1_⟩:=bC hs1_
   refine Qf [] hi0 hk0 ?_
   refine (Qw (i0:=i0) (j0_0:=(n+2)) (by omega) (by omega) (by omega) (by simp only [push_cast,seval,↓reduceIte,Zb,Ge,hi0,hk0,hN0,hN] <;> rfl) (by simp only [push_cast,seval,↓reduceIte,Zb,Ge,hi0,hk0,hN0,hN] <;> rfl) hy16).then ?_
   refine zX2 hi0 hk0 ?_
   refine zD [0,1,6,7,64,65,66] [false,false,false,false,true] ?_
   refine Qf [] hi0 hk0 ?_
   have hs1_:=Option.some.inj hs1_;subst hs1_
   refine And.intro rfl ?_
   refine Fit2.trans (E':=(⟨85,[],[(0,.ref i0 0),(1,(vI (IntKind.i64.wrap (a1+1)))),(6,(vI y2.1)),(7,(vI y2.2)),(64,(sL Zc a2.Kids)),(65,(vI (a2.Kids.length:Int))),(66,(vI (IntKind.i64.wrap (s1_.1+1))))]⟩:Env)) (O':=(Z0 ((O.upd j0_0 none).upd i0 (some ⟨false,140,2,1,[.row (n+4) y16.words.length,(vI y16.next)]⟩)) n [none,none,none,none,some (oR 77 1 (eI .u64) y16.words)])) (n':=(n+5)) (Fit2.of (Xb hU rfl rfl ?_) (by omega)) ?_
   ·exact Ko hi0 hk0
   refine K6 (k:=5) (k':=3) hU [1,1,1,1,2] [0,0,4] rfl rfl rfl rfl ⟨rfl,rfl⟩ ?_
   exact Ko hi0 hk0
  replace hs1_:=Zq c17 hs1_
  refine zXt ?_
  have hs1_:=Option.some.inj hs1_;subst hs1_
  refine And.intro (fun h=>by cases h) (And.intro rfl (Fit2.of (Xb hU rfl rfl ?_) (by omega)))
  exact Ko hi0 hk0
 try simp only [Xc,Yp,↓reduceIte,Nat.reduceEqDiff]
 have h:=Option.some.inj h;subst h
 refine Ga (k:=1) (i:=i0) (q1:=⟨false,140,2,1,[.row n z18.1.length,(vI z18.2)]⟩) (L3:=[some (oR 77 1 (eI .u64) z18.1),none]) (E2:=(⟨85,[],[]⟩:Env)) (n3:=(n+2)) (.inl rfl) hU rfl [] ?_ ?_
 ·refine Fit2.trans (E':=(⟨85,[],[]⟩:Env)) (O':=(Z0 ((O.upd j0_0 none).upd i0 (some ⟨false,140,2,1,[.row (n+2) z18.1.length,(vI z18.2)]⟩)) n [none,none,some (oR 77 1 (eI .u64) z18.1)])) (n':=(n+3)) (Fit2.of (Xb hU rfl rfl ?_) (by omega)) ?_
  ·exact Ko hi0 hk0
  refine K6 (k:=3) (k':=2) hU [1,1,0] [2,0] rfl rfl rfl rfl ⟨rfl,rfl⟩ ?_
  exact Ko hi0 hk0
 simp only [push_cast,seval,↓reduceIte,Zb,Tryz.results243,hi0,hk0,hN0,hN]
theorem Zna:∀ k,(Vj ((Zl k).1))∧(Kj ((Zl k).2.1))∧(Jt ((Zl k).2.2.1))∧(Kk ((Zl k).2.2.2)):=fun k=>by
 induction k with
 | zero=>exact ⟨@fun a0 a1 a2 r O n i0 j0_0 hi0 Zdx U4 ho0 Zbu h=>(nomatch (show (none:Option _)=some _ from h)),@fun a0 a1 a2 r O n i0 j0_0 hi0 Zdx U4 ho0 Zbu h=>(nomatch (show (none:Option _)=some _ from h)),@fun a0 a1 a2 r O n i0 j0_0 hi0 Zdx U4 ho0 Zbu h=>(nomatch (show (none:Option _)=some _ from h)),@fun a0 a1 a2 r O n i0 j0_0 hi0 Zdx U4 ho0 Zbu h=>(nomatch (show (none:Option _)=some _ from h))⟩
 | succ k ih=>exact ⟨@fun a0 a1 a2 r O n i0 j0_0 hi0 Zdx U4 ho0 Zbu h=>Zpw (ih.1) (ih.2.1) (ih.2.2.1) (ih.2.2.2) hi0 Zdx U4 ho0 Zbu h,@fun a0 a1 a2 r O n i0 j0_0 hi0 Zdx U4 ho0 Zbu h=>Znj (ih.1) (ih.2.1) (ih.2.2.1) (ih.2.2.2) hi0 Zdx U4 ho0 Zbu h,@fun a0 a1 a2 r O n i0 j0_0 hi0 Zdx U4 ho0 Zbu h=>Zmw (ih.1) (ih.2.1) (ih.2.2.1) (ih.2.2.2) hi0 Zdx U4 ho0 Zbu h,@fun a0 a1 a2 r O n i0 j0_0 hi0 Zdx U4 ho0 Zbu h=>Znk (ih.1) (ih.2.1) (ih.2.2.1) (ih.2.2.2) hi0 Zdx U4 ho0 Zbu h⟩
theorem Zqd {a0:Ze} {a1:Int} {a2:Za} {r:Ze} {O:Objs} {n:Nat} {i0 j0_0:Nat} (hi0:i0 < n) (Zdx:j0_0 < n) (U4:i0≠j0_0) (ho0:O i0=some ⟨false,140,2,1,[.row j0_0 a0.words.length,(vI a0.next)]⟩) (Zbu:O j0_0=some (oR 77 1 (eI .u64) a0.words)) (h:Zb8 a0 a1 a2=some r):GTo Tryz.prog 116 [.ref i0 0,(vI a1),.agg (Zj a2)] O n (.tup []) (Z0 ((O.upd j0_0 none).upd i0 (some ⟨false,140,2,1,[.row n r.words.length,(vI r.next)]⟩)) n [some (oR 77 1 (eI .u64) r.words)]) (n+1):=by
 obtain ⟨k,hk⟩:=Zcv h
 exact (Zna k).1 hi0 Zdx U4 ho0 Zbu hk
theorem Zyh {a0:Za} {a1:Int} {r:((List Int)×Bool)} {O:Objs} {n:Nat} (h:Ze4 a0 a1=some r):GTo Tryz.prog 72 [.agg (Zj a0),(vI a1)] O n (.tup [(sL (eI .u64) r.1),(vB r.2)]) O n:=by
 unfold Ze4 at h
 refine Yo Zv Tryz.call72 Tryz.func72 rfl (Nat.le_of_ble_eq_true rfl) (Nat.le_refl _) fun hU => ?_
 have hN0:O n=none:=hU.fresh _ (Nat.le_refl _)
 have hN:∀ k,O (n+k)=none:=fun k=>hU.fresh _ (Nat.le_add_right _ _)
 show W _ _ _ _ ⟨35,[],[(0,.agg (Zj a0)),(1,(vI a1))]⟩ (Z0 O n []) _
 refine zQ [1,2] ?_
 refine Zd ?_
 obtain ⟨z2,hz2,h⟩:=bC h
 refine Y8 (E':=⟨35,[],[(1,(vI a1)),(2,.ref n 0),(15,(vB z2))]⟩) (O':=(Z0 O n [some ⟨false,25,3,1,(Zj a0)⟩])) (n0:=(n+1)) ?_ ?_
 ·rcases Bool.eq_false_or_eq_true (a0.Kind == 10) with c5 | c5
  ·replace hz2:=Zr c5 hz2
   refine Ks [some false,some false,some false] c5 ?_
   exact J7 hz2 c5
  replace hz2:=Zq c5 hz2
  obtain ⟨y4,hy4,hz2⟩:=bC hz2
  refine Ks [some true,some true,some true] c5 ?_
  refine (Zmu hy4).then ?_
  refine zX1 c5 ?_
  exact J7 hz2 c5
 refine Zs (t:=z2) rfl (fun c15 => ?_) (fun c15 => ?_)
 ·replace h:=Zr c15 h
  refine zQ [4,5] ?_
  refine zW ?_
  have h:=Option.some.inj h;subst h
  refine Zi (.inr rfl) hU [nV,(vB false)] (by omega) ?_
  simp only [push_cast,seval,↓reduceIte,Zb,Tryz.results72,hN0,hN]
 replace h:=Zq c15 h
 refine Jh [1,2] [true] ?_
 refine Zd ?_
 obtain ⟨y7,hy7,h⟩:=bC h
 refine zCd (Zt6 hy7) [1,2] [true] ?_
 refine Zd ?_
 obtain ⟨y9,hy9,h⟩:=bC h
 refine zCd (Zt7 hy9) [1,2,6] [true] ?_
 refine Zd ?_
 refine zQD [2,6,27] [none,none] ?_
 refine Zs (t:=(cond (decide (a1 < (IntKind.i64.wrap (1+y9)))) true (decide (131072 < (IntKind.i64.wrap (1+y9)))))) rfl (fun Jg => ?_) (fun Jg => ?_)
 ·replace h:=Zr Jg h
  refine zQ [4,5] ?_
  refine zW ?_
  have h:=Option.some.inj h;subst h
  refine Zi (.inr rfl) hU [nV,(vB false)] (by omega) ?_
  simp only [push_cast,seval,↓reduceIte,Zb,Tryz.results72,hN0,hN]
 replace h:=Zq Jg h
 refine Jh [2,6] [true] ?_
 refine Zd ?_
 obtain ⟨l11,al11,bl11,cl11,el11,h⟩:=bM2 (c:=8) rfl h
 have nl11:Int.toNat (IntKind.i64.wrap (1+y9))=List.length l11:=by rw [el11,List.length_replicate]
 have fl11:(List.replicate (List.length l11) [.val (.int .u64 0)]).flatten=fl (eI .u64) l11:=by rw [← nl11,el11];exact (Zte (f:=(eI .u64)) _ _).symm
 clear el11
 refine Yx Zv [] ?_
 simp only [push_cast,seval,↓reduceIte,Zb,al11,bl11,cl11,fl11,nl11,hN0,hN]
 refine Zdq ⟨35,[],[(2,.ref n 0),(7,.ref (n+2) 0)]⟩ (Z0 O n [some ⟨false,25,3,1,(Zj y7)⟩,some (oR 77 1 (eI .u64) l11),some ⟨false,140,2,1,[.row (n+1) l11.length,(vI 1)]⟩]) (Y1 hU rfl rfl ?_) ?_
 ·simp only [push_cast,seval,↓reduceIte,Zb,al11,bl11,cl11,fl11,nl11,hN0,hN]
 refine Zd ?_
 obtain ⟨y13,hy13,h⟩:=bC h
 refine zR ?_
 refine (Zqd (i0:=(n+2)) (j0_0:=(n+1)) (by omega) (by omega) (by omega) (by simp only [push_cast,seval,↓reduceIte,Zb,Ge,hN0,hN] <;> rfl) (by simp only [push_cast,seval,↓reduceIte,Zb,Ge,hN0,hN] <;> rfl) hy13).then ?_
 refine zS ?_
 refine zD [7] [false,false,true,true] ?_
 refine zQ [4,5] ?_
 refine zW ?_
 have h:=Option.some.inj h;subst h
 refine Zi (.inr rfl) hU [.row (n+3) y13.words.length,(vB true)] (by omega) ?_
 simp only [push_cast,seval,↓reduceIte,Zb,Tryz.results72,hN0,hN]
theorem Zc7 {a0 r:List Int} {O:Objs} {n:Nat} (h:X7 a0=some r):GTo Tryz.prog 185 [(sL (eI .u64) a0)] O n (.row n r.length) (Z0 O n [some (oR 77 1 (eI .u64) r)]) (n+1):=by
 have h1:=Yft h
 have h2:=Yfu h
 have h3:=Yb6 h
 rw [List.nil_append] at h3
 subst h3
 simp only [List.length_nil,Nat.zero_add] at h1 h2
 clear h
 refine Yo Zv Tryz.call185 Tryz.func185 rfl (Nat.le_of_ble_eq_true rfl) (by omega) fun hU => ?_
 have hN0:O n=none:=hU.fresh _ (Nat.le_refl _)
 have hN:∀ k,O (n+k)=none:=fun k=>hU.fresh _ (Nat.le_add_right _ _)
 show W _ _ _ _ ⟨8,[],[(0,(sL (eI .u64) r))]⟩ (Z0 O n []) _
 refine zQ [0] ?_
 refine Ykv 0 r.length (fl (eI .u64) r) rfl (Nat.le_of_ble_eq_true rfl) (Yi Ke _) fun A c hA => ?_
 refine zQ [0,4] ?_
 cases A with
 | none =>
  obtain rfl:r=[]:=List.eq_nil_of_length_eq_zero (hA rfl)
  refine Zs (t:=true) rfl (fun _ => ?_) (fun hc=>by cases hc)
  refine zQ [2] ?_
  refine zW ?_
  refine Ygg (k:=1) (L3:=[some ⟨true,77,1,0,[]⟩]) (E2:=⟨8,[],[(2,.row n 0),(2,nV)]⟩) (n3:=(n+1)) (.inr rfl) hU rfl [.row n 0] ?_ ?_
  ·have ha:=Zm0 (ba:=n) (E:=⟨8,[],[(2,.val (.slice none 0 0))]⟩) (O:=(Z0 O n [])) (n:=n) 2 77 1 rfl (by omega)
   simp only [Uu] at ha
   exact ha
  simp only [push_cast,seval,↓reduceIte,Zb,Tryz.results185,hN0,hN]
 | some A =>
  refine Zs (t:=false) rfl (fun hc=>by cases hc) (fun _ => ?_)
  refine zK ?_
  refine And.intro rfl (And.intro (Nat.le_of_ble_eq_true rfl) ?_)
  refine Zd ?_
  refine Yx Zv [] ?_
  simp only [push_cast,seval,↓reduceIte,Zb,h1,h2,hN0,hN]
  refine zW ?_
  refine Ygf (.inr rfl) hU rfl [.row n r.length] (by omega) ?_
  simp only [push_cast,seval,↓reduceIte,Zb,Tryz.results185,hN0,hN]
theorem Zja {a0 r:List Int} {O:Objs} {n:Nat} (h:X7 a0=some r):GTo Tryz.prog 185 [(sL (eI .u64) a0)] O n ((sL (eI .u64) r)) O n:=by
 refine GTo.freeze (Zc7 h) fun hU => ?_
 have hN0:O n=none:=hU.fresh _ (Nat.le_refl _)
 have hN:∀ k,O (n+k)=none:=fun k=>hU.fresh _ (Nat.le_add_right _ _)
 exact zSe
theorem Z19 {a0:(List (List Int))} {r:(List (List Int))} {O:Objs} {n:Nat} (h:Zga a0=some r):GTo Tryz.prog 119 [(sL (eL (eI .u64)) a0)] O n ((sL (eL (eI .u64)) r)) O n:=by
 unfold Zga at h
 refine Yo Zv Tryz.call119 Tryz.func119 rfl (Nat.le_of_ble_eq_true rfl) (Nat.le_refl _) fun hU => ?_
 have hN0:O n=none:=hU.fresh _ (Nat.le_refl _)
 have hN:∀ k,O (n+k)=none:=fun k=>hU.fresh _ (Nat.le_add_right _ _)
 show W _ _ _ _ ⟨23,[],[(0,(sL (eL (eI .u64)) a0))]⟩ (Z0 O n []) _
 refine zQ [0] ?_
 refine Zd ?_
 obtain ⟨l2,al2,bl2,cl2,el2,h⟩:=bM2 (c:=24) rfl h
 have nl2:Int.toNat (a0.length:Int)=List.length l2:=by rw [el2,List.length_replicate]
 have fl2:∀ O O' n,wkl O O' n (List.replicate (List.length l2) [G.val (.slice none 0 0)]).flatten (fl (eL (eI .u64)) l2)=True:=fun O O' n=>by rw [← nl2,el2];exact eq_true (Yaq _ _)
 clear el2
 refine Yx Zv [] ?_
 simp only [push_cast,seval,↓reduceIte,Zb,al2,bl2,cl2,fl2,nl2,hN0,hN]
 refine Zdq ⟨23,[],[(0,(sL (eL (eI .u64)) a0)),(3,.row n l2.length)]⟩ (Z0 O n [some (oR 22 1 (eL (eI .u64)) l2)]) (Y1 hU rfl rfl ?_) ?_
 ·simp only [push_cast,seval,↓reduceIte,Zb,al2,bl2,cl2,fl2,nl2,hN0,hN]
 refine Zd ?_
 refine zQd [3,9,10,11] [3,9,10,11] [true] ?_
 obtain ⟨z9,hz9,h⟩:=bC h
 refine Y3 (E':=⟨23,[],[(3,.row n z9.length)]⟩) (O':=(Z0 O n [some (oR 22 1 (eL (eI .u64)) z9)])) (n0:=(n+1)) ?_ ?_
 ·refine Xf hz9 (fun s0_=>⟨23,[],[(3,.row n s0_.2.length),(9,(sL (eL (eI .u64)) a0)),(10,(vI (a0.length:Int))),(11,(vI s0_.1))]⟩) (fun s0_=>(Z0 O n [some (oR 22 1 (eL (eI .u64)) s0_.2)])) (fun z9=>JX 0 n (⟨23,[],[(3,.row n z9.length)]⟩:Env) (Z0 O n [some (oR 22 1 (eL (eI .u64)) z9)]) (n+1)) ?_
  intro s0_ x0_ hs0_
  unfold Gu at hs0_
  try dsimp only
  refine zQ [3,9,10,11,12] ?_
  refine Zd ?_
  refine Zs (t:=(decide (s0_.1 < (a0.length:Int)))) rfl (fun c8 => ?_) (fun c8 => ?_)
  ·replace hs0_:=Zr c8 hs0_
   refine Jh [3,9,10,11] [true] ?_
   refine Zd ?_
   refine Yc ?_
   obtain ⟨x4,hx4,ax4,bx4,cx4,hs0_⟩:=bE (f:=(eL (eI .u64))) Zu5 (fun _=>rfl) (by decide) hs0_
   refine Zlp [3,4,5,9,10,11] (Yx Zv [] ?_)
   refine zF3 ax4 bx4 cx4 ?_
   obtain ⟨y5,hy5,hs0_⟩:=bC hs0_
   obtain ⟨x6,hx6,ax6,bx6,cx6,hs0_⟩:=bE (f:=(eL (eI .u64))) Zu5 (fun _=>rfl) (by decide) hs0_
   have gu7:U3 (fl (eL (eI .u64)) s0_.2) [.sl y5.length (fl (eI .u64) y5)] (Int.toNat s0_.1 * 1)=some (fl (eL (eI .u64)) (Jo s0_.2 s0_.1 y5)):=Zi4 (f:=(eL (eI .u64))) (ti:=⟨.bool,1,0,[],false⟩) (x:=y5) (fun _=>rfl) (Ze0 hx6)
   refine Z3g [] ax6 bx6 cx6 gu7 ?_
   refine (Zja hy5).then ?_
   refine zF4 ax6 bx6 cx6 gu7 ?_
   refine zD [3,9,10,11] [true] ?_
   refine zR ?_
   exact zEn hs0_
  replace hs0_:=Zq c8 hs0_
  exact zEx hs0_
 try simp only [Xc,Yp,↓reduceIte,Nat.reduceEqDiff]
 refine zD [3] [true] ?_
 refine zQ [2] ?_
 refine zW ?_
 have h:=Option.some.inj h;subst h
 refine Zi (.inr rfl) hU [.row n z9.length] (by omega) ?_
 simp only [push_cast,seval,↓reduceIte,Zb,Tryz.results119,hN0,hN]
theorem Z92 {a0:(List (List Int))} {r:(Option Zw)} {O:Objs} {n:Nat} (h:Zk1 a0=some r):GTo Tryz.prog 74 [(sL (eL (eI .u64)) a0)] O n ((gP Zu r)) O n:=by
 unfold Zk1 at h
 refine Yo Zv Tryz.call74 Tryz.func74 rfl (Nat.le_of_ble_eq_true rfl) (Nat.le_refl _) fun hU => ?_
 have hN0:O n=none:=hU.fresh _ (Nat.le_refl _)
 have hN:∀ k,O (n+k)=none:=fun k=>hU.fresh _ (Nat.le_add_right _ _)
 show W _ _ _ _ ⟨7,[],[(0,(sL (eL (eI .u64)) a0))]⟩ (Z0 O n []) _
 refine zQ [0] ?_
 refine Zd ?_
 obtain ⟨y2,hy2,h⟩:=bC h
 refine zCd (Z19 hy2) [2] [true] ?_
 refine zW ?_
 have h:=Option.some.inj h;subst h
 refine Zi (.inr rfl) hU [.ref n 0] (by omega) ?_
 simp only [push_cast,seval,↓reduceIte,Zb,Tryz.results74,hN0,hN]
theorem Zyl  {r:X4} {O:Objs} {n:Nat} (h:Zie=some r):GTo Tryz.prog 75 [] O n (.agg (Kh r)) O n:=by
 unfold Zie at h
 refine Yo Zv Tryz.call75 Tryz.func75 rfl (Nat.le_of_ble_eq_true rfl) (Nat.le_refl _) fun hU => ?_
 have hN0:O n=none:=hU.fresh _ (Nat.le_refl _)
 have hN:∀ k,O (n+k)=none:=fun k=>hU.fresh _ (Nat.le_add_right _ _)
 show W _ _ _ _ ⟨2,[],[]⟩ (Z0 O n []) _
 refine zQ [0] ?_
 refine Zd ?_
 refine zRd [0] [true] ?_
 refine zW ?_
 have h:=Option.some.inj h;subst h
 refine Zi (.inr rfl) hU [.agg [(vI 64),(vI 65536),(vI 0),(vI 0)]] (by omega) ?_
 simp only [push_cast,seval,↓reduceIte,Zb,Tryz.results75,hN0,hN]
theorem Zfp {a0:Int} {a1:Int} {r:Int} {O:Objs} {n:Nat} (h:Za0 a0 a1=some r):GTo Tryz.prog 180 [(vI a0),(vI a1)] O n ((vI r)) O n:=by
 unfold Za0 at h
 refine Yo Zv Tryz.call180 Tryz.func180 rfl (Nat.le_of_ble_eq_true rfl) (Nat.le_refl _) fun hU => ?_
 have hN0:O n=none:=hU.fresh _ (Nat.le_refl _)
 have hN:∀ k,O (n+k)=none:=fun k=>hU.fresh _ (Nat.le_add_right _ _)
 show W _ _ _ _ ⟨9,[],[(0,(vI a0)),(1,(vI a1))]⟩ (Z0 O n []) _
 refine zQ [0,1] ?_
 refine zQ [4] ?_
 refine zW ?_
 have h:=Option.some.inj h;subst h
 refine Zi (.inr rfl) hU [(vI (if a1 < (if a0 < 0 then 0 else a0) then a1 else (if a0 < 0 then 0 else a0)))] (by omega) ?_
 simp only [push_cast,seval,↓reduceIte,Zb,Tryz.results180,hN0,hN]
theorem Zym {a0:X4} {r:X4} {O:Objs} {n:Nat} (h:Zih a0=some r):GTo Tryz.prog 117 [.agg (Kh a0)] O n (.agg (Kh r)) O n:=by
 unfold Zih at h
 refine Yo Zv Tryz.call117 Tryz.func117 rfl (Nat.le_of_ble_eq_true rfl) (Nat.le_refl _) fun hU => ?_
 have hN0:O n=none:=hU.fresh _ (Nat.le_refl _)
 have hN:∀ k,O (n+k)=none:=fun k=>hU.fresh _ (Nat.le_add_right _ _)
 show W _ _ _ _ ⟨16,[],[(0,.agg (Kh a0))]⟩ (Z0 O n []) _
 refine zQ [1,2] ?_
 refine Zd ?_
 obtain ⟨y5,hy5,h⟩:=bC h
 obtain ⟨y6,hy6,h⟩:=bC h
 obtain ⟨y7,hy7,h⟩:=bC h
 obtain ⟨y8,hy8,h⟩:=bC h
 refine Zhj Zv (by kernel_rfl) [false,false,false,false,false,false,false,false,false,false,false,false,false,true] [] (by kernel_rfl) ?_
 refine zS ?_
 refine PCall.of (Zfp hy5) ?_
 refine zS ?_
 refine PCall.of (Zfp hy6) ?_
 refine zS ?_
 refine PCall.of (Zfp hy7) ?_
 refine zS ?_
 refine PCall.of (Zfp hy8) ?_
 refine zS ?_
 refine zD [2] [false,true] ?_
 refine zW ?_
 have h:=Option.some.inj h;subst h
 refine Zi (.inr rfl) hU [.agg [(vI y5),(vI y6),(vI y7),(vI y8)]] (by omega) ?_
 simp only [push_cast,seval,↓reduceIte,Zb,Tryz.results117,hN0,hN]
theorem Zsl {a0:(Option Zw)} {r:Int} {O:Objs} {n:Nat} (h:Zeo a0=some r):GTo Tryz.prog 340 [(gP Zu a0)] O n ((vI r)) O n:=by
 unfold Zeo at h
 refine Yo Zv Tryz.call340 Tryz.func340 rfl (Nat.le_of_ble_eq_true rfl) (Nat.le_refl _) fun hU => ?_
 have hN0:O n=none:=hU.fresh _ (Nat.le_refl _)
 have hN:∀ k,O (n+k)=none:=fun k=>hU.fresh _ (Nat.le_add_right _ _)
 show W _ _ _ _ ⟨10,[],[(0,(gP Zu a0))]⟩ (Z0 O n []) _
 refine zQ [0] ?_
 refine Zd ?_
 have g2:=Z9a (f:=Zu) (t:=60) Zwt a0
 refine Ypq [0,4] g2 ?_
 refine Zs (t:=(Option.isNone a0)) rfl (fun c5 => ?_) (fun c5 => ?_)
 ·replace h:=Zr c5 h
  refine zQ [2] ?_
  refine zW ?_
  have h:=Option.some.inj h;subst h
  refine Zi (.inr rfl) hU [(vI 0)] (by omega) ?_
  simp only [push_cast,seval,↓reduceIte,Zb,Tryz.results340,hN0,hN]
 replace h:=Zq c5 h
 refine Jh [0] [] ?_
 obtain ⟨x4,hx4,h⟩:=bC h
 refine Zlp [2] (Yx Zv [] ?_)
 simp only [push_cast,seval,↓reduceIte,Zb,hx4,hN0,hN]
 refine zW ?_
 have h:=Option.some.inj h;subst h
 refine Zi (.inr rfl) hU [(vI (x4.segments.length:Int))] (by omega) ?_
 simp only [push_cast,seval,↓reduceIte,Zb,Tryz.results340,hN0,hN]
theorem K5 {a0:(Option Zw)} {a1:Int} {r:Bool} {O:Objs} {n:Nat} (h:Vn a0 a1=some r):GTo Tryz.prog 320 [(gP Zu a0),(vI a1)] O n ((vB r)) O n:=by
 unfold Vn at h
 refine Yo Zv Tryz.call320 Tryz.func320 rfl (Nat.le_of_ble_eq_true rfl) (Nat.le_refl _) fun hU => ?_
 have hN0:O n=none:=hU.fresh _ (Nat.le_refl _)
 have hN:∀ k,O (n+k)=none:=fun k=>hU.fresh _ (Nat.le_add_right _ _)
 show W _ _ _ _ ⟨13,[],[(0,(gP Zu a0)),(1,(vI a1))]⟩ (Z0 O n []) _
 refine zQ [0,1] ?_
 obtain ⟨z2,hz2,h⟩:=bC h
 refine Y8 (E':=⟨13,[],[(4,(vB z2))]⟩) (O':=(Z0 O n [])) (n0:=n) ?_ ?_
 ·rcases Bool.eq_false_or_eq_true (decide (0≤a1)) with c5 | c5
  ·replace hz2:=Zr c5 hz2
   obtain ⟨y4,hy4,hz2⟩:=bC hz2
   refine Ks [some true,some true,some true,some true] c5 ?_
   refine (Zsl hy4).then ?_
   refine zX1 c5 ?_
   exact J7 hz2 c5
  replace hz2:=Zq c5 hz2
  refine Ks [some false,some false,some false,some false] c5 ?_
  exact J7 hz2 c5
 refine zW ?_
 have h:=Option.some.inj h;subst h
 refine Zi (.inr rfl) hU [(vB z2)] (by omega) ?_
 simp only [push_cast,seval,↓reduceIte,Zb,Tryz.results320,hN0,hN]
theorem Zf2 {a0:(Option Zw)} {a1:Int} {r:Int} {O:Objs} {n:Nat} (h:V3 a0 a1=some r):GTo Tryz.prog 321 [(gP Zu a0),(vI a1)] O n ((vI r)) O n:=by
 unfold V3 at h
 refine Yo Zv Tryz.call321 Tryz.func321 rfl (Nat.le_of_ble_eq_true rfl) (Nat.le_refl _) fun hU => ?_
 have hN0:O n=none:=hU.fresh _ (Nat.le_refl _)
 have hN:∀ k,O (n+k)=none:=fun k=>hU.fresh _ (Nat.le_add_right _ _)
 show W _ _ _ _ ⟨17,[],[(0,(gP Zu a0)),(1,(vI a1))]⟩ (Z0 O n []) _
 refine zQ [0,1] ?_
 refine Zd ?_
 refine Zd ?_
 obtain ⟨y2,hy2,h⟩:=bC h
 refine zCd (K5 hy2) [0,1,8] [] ?_
 refine Zs (t:=(!y2)) rfl (fun c7 => ?_) (fun c7 => ?_)
 ·replace h:=Zr c7 h
  refine zQ [4] ?_
  refine zW ?_
  have h:=Option.some.inj h;subst h
  refine Zi (.inr rfl) hU [(vI 0)] (by omega) ?_
  simp only [push_cast,seval,↓reduceIte,Zb,Tryz.results321,hN0,hN]
 replace h:=Zq c7 h
 refine Jh [0,1] [] ?_
 obtain ⟨x5,hx5,h⟩:=bC h
 obtain ⟨x6,hx6,ax6,bx6,cx6,h⟩:=bE (f:=(eL (eI .u64))) Zu5 (fun _=>rfl) (by decide) h
 refine Zlp [4] (Yx Zv [] ?_)
 refine zF4 hx5 ax6 bx6 cx6 ?_
 refine zW ?_
 have h:=Option.some.inj h;subst h
 refine Zi (.inr rfl) hU [(vI (x6.length:Int))] (by omega) ?_
 simp only [push_cast,seval,↓reduceIte,Zb,Tryz.results321,hN0,hN]
theorem Zgy {a0:(Option Zw)} {a1:Int} {a2:Int} {a3:Int} {r:Bool} {O:Objs} {n:Nat} (h:Ve a0 a1 a2 a3=some r):GTo Tryz.prog 299 [(gP Zu a0),(vI a1),(vI a2),(vI a3)] O n ((vB r)) O n:=by
 unfold Ve at h
 refine Yo Zv Tryz.call299 Tryz.func299 rfl (Nat.le_of_ble_eq_true rfl) (Nat.le_refl _) fun hU => ?_
 have hN0:O n=none:=hU.fresh _ (Nat.le_refl _)
 have hN:∀ k,O (n+k)=none:=fun k=>hU.fresh _ (Nat.le_add_right _ _)
 show W _ _ _ _ ⟨36,[],[(0,(gP Zu a0)),(1,(vI a1)),(2,(vI a2)),(3,(vI a3))]⟩ (Z0 O n []) _
 refine zQ [0,1,2,3] ?_
 obtain ⟨z4,hz4,h⟩:=bC h
 refine Y8 (E':=⟨36,[],[(8,(vB z4))]⟩) (O':=(Z0 O n [])) (n0:=n) ?_ ?_
 ·obtain ⟨y8,hy8,hz4⟩:=bC hz4
  rcases Bool.eq_false_or_eq_true y8 with c11 | c11
  ·replace hz4:=Zr c11 hz4
   rcases Bool.eq_false_or_eq_true (decide (0≤a2)) with c12 | c12
   ·replace hz4:=Zr c12 hz4
    try rw [c12] at c11
    rcases Bool.eq_false_or_eq_true (decide (0≤a3)) with c13 | c13
    ·replace hz4:=Zr c13 hz4
     try rw [c13] at c11
     try rw [c13] at c12
     obtain ⟨y9,hy9,hz4⟩:=bC hz4
     rcases Bool.eq_false_or_eq_true (decide (a3≤y9)) with Jg | Jg
     ·replace hz4:=Zr Jg hz4
      try rw [Jg] at c11
      try rw [Jg] at c12
      try rw [Jg] at c13
      obtain ⟨y10,hy10,hz4⟩:=bC hz4
      refine Zqr [none,none,none,none,some true,some true,some true,some true,some true,some true,some true,some true,some true,some true,some true,some true] c11 c12 c13 Jg ?_
      refine zG ?_
      refine (K5 hy8).then ?_
      refine zX4 c11 c12 c13 Jg ?_
      refine zG ?_
      refine (Zf2 hy9).then ?_
      refine zX4 c11 c12 c13 Jg ?_
      refine zG ?_
      refine (Zf2 hy10).then ?_
      refine zX4 c11 c12 c13 Jg ?_
      refine zG ?_
      exact Zqq hz4 c11 c12 c13 Jg
     replace hz4:=Zq Jg hz4
     try rw [Jg] at c11
     try rw [Jg] at c12
     try rw [Jg] at c13
     refine Zqr [none,none,none,none,some true,some true,some true,some true,some true,some false,some false,some false,some false,some false,some false,some false] c11 c12 c13 Jg ?_
     refine zG ?_
     refine (K5 hy8).then ?_
     refine zX4 c11 c12 c13 Jg ?_
     refine zG ?_
     refine (Zf2 hy9).then ?_
     refine zX4 c11 c12 c13 Jg ?_
     refine zG ?_
     exact Zqq hz4 c11 c12 c13 Jg
    replace hz4:=Zq c13 hz4
    try rw [c13] at c11
    try rw [c13] at c12
    refine Zhd [none,none,none,none,some false,some false,some false,some false,some false,some false,some false,some false,some false,some false,some false,some false] c11 c12 c13 ?_
    refine zG ?_
    refine (K5 hy8).then ?_
    refine zX3 c11 c12 c13 ?_
    refine zG ?_
    exact Zj3 hz4 c11 c12 c13
   replace hz4:=Zq c12 hz4
   try rw [c12] at c11
   refine Qf [none,none,none,none,some false,some false,some false,some false,some false,some false,some false,some false,some false,some false,some false,some false] c11 c12 ?_
   refine zG ?_
   refine (K5 hy8).then ?_
   refine zX2 c11 c12 ?_
   refine zG ?_
   exact Zbz hz4 c11 c12
  replace hz4:=Zq c11 hz4
  refine Ks [none,none,none,none,some false,some false,some false,some false,some false,some false,some false,some false,some false,some false,some false,some false] c11 ?_
  refine zG ?_
  refine (K5 hy8).then ?_
  refine zX1 c11 ?_
  refine zG ?_
  exact J7 hz4 c11
 refine zW ?_
 have h:=Option.some.inj h;subst h
 refine Zi (.inr rfl) hU [(vB z4)] (by omega) ?_
 simp only [push_cast,seval,↓reduceIte,Zb,Tryz.results299,hN0,hN]
theorem Zgx {a0:(Option Zw)} {a1:Int} {a2:Int} {r:(Int×Bool)} {O:Objs} {n:Nat} (h:Vd a0 a1 a2=some r):GTo Tryz.prog 258 [(gP Zu a0),(vI a1),(vI a2)] O n (.tup [.val (.int .u64 r.1),(vB r.2)]) O n:=by
 unfold Vd at h
 refine Yo Zv Tryz.call258 Tryz.func258 rfl (Nat.le_of_ble_eq_true rfl) (Nat.le_refl _) fun hU => ?_
 have hN0:O n=none:=hU.fresh _ (Nat.le_refl _)
 have hN:∀ k,O (n+k)=none:=fun k=>hU.fresh _ (Nat.le_add_right _ _)
 show W _ _ _ _ ⟨23,[],[(0,(gP Zu a0)),(1,(vI a1)),(2,(vI a2))]⟩ (Z0 O n []) _
 refine zQ [0,1,2] ?_
 refine Zd ?_
 refine Zd ?_
 obtain ⟨y2,hy2,h⟩:=bC h
 refine zCd (Zgy hy2) [0,1,2,12] [] ?_
 refine Zs (t:=(!y2)) rfl (fun c9 => ?_) (fun c9 => ?_)
 ·replace h:=Zr c9 h
  refine zQ [6,7] ?_
  refine zW ?_
  have h:=Option.some.inj h;subst h
  refine Zi (.inr rfl) hU [.val (.int .u64 0),(vB false)] (by omega) ?_
  simp only [push_cast,seval,↓reduceIte,Zb,Tryz.results258,hN0,hN]
 replace h:=Zq c9 h
 refine Jh [0,1,2] [] ?_
 obtain ⟨x6,hx6,h⟩:=bC h
 obtain ⟨x7,hx7,ax7,bx7,cx7,h⟩:=bE (f:=(eL (eI .u64))) Zu5 (fun _=>rfl) (by decide) h
 obtain ⟨x8,hx8,ax8,bx8,cx8,h⟩:=bE (f:=(eI .u64)) Zf0 (fun _=>rfl) (by decide) h
 refine Zlp [6,7] (Yx Zv [] ?_)
 refine zF7 hx6 ax7 bx7 cx7 ax8 bx8 cx8 ?_
 refine zW ?_
 have h:=Option.some.inj h;subst h
 refine Zi (.inr rfl) hU [.val (.int .u64 x8),(vB true)] (by omega) ?_
 simp only [push_cast,seval,↓reduceIte,Zb,Tryz.results258,hN0,hN]
theorem Zrz {a0:(Option Zw)} {a1:Int} {a2:Int} {a3:Int} {r:((List Int)×Bool)} {O:Objs} {n:Nat} (h:Zaa a0 a1 a2 a3=some r):GTo Tryz.prog 302 [(gP Zu a0),(vI a1),(vI a2),(vI a3)] O n (.tup [(sL (eI .u64) r.1),(vB r.2)]) O n:=by
 unfold Zaa at h
 refine Yo Zv Tryz.call302 Tryz.func302 rfl (Nat.le_of_ble_eq_true rfl) (Nat.le_refl _) fun hU => ?_
 have hN0:O n=none:=hU.fresh _ (Nat.le_refl _)
 have hN:∀ k,O (n+k)=none:=fun k=>hU.fresh _ (Nat.le_add_right _ _)
 show W _ _ _ _ ⟨29,[],[(0,(gP Zu a0)),(1,(vI a1)),(2,(vI a2)),(3,(vI a3))]⟩ (Z0 O n []) _
 refine zQ [0,1,2,3] ?_
 refine Zd ?_
 refine Zd ?_
 obtain ⟨y2,hy2,h⟩:=bC h
 refine zCd (Zgy hy2) [0,1,2,3,15] [] ?_
 refine Zs (t:=(!y2)) rfl (fun c11 => ?_) (fun c11 => ?_)
 ·replace h:=Zr c11 h
  refine zQ [8,9] ?_
  refine zW ?_
  have h:=Option.some.inj h;subst h
  refine Zi (.inr rfl) hU [nV,(vB false)] (by omega) ?_
  simp only [push_cast,seval,↓reduceIte,Zb,Tryz.results302,hN0,hN]
 replace h:=Zq c11 h
 refine Jh [0,1,2,3] [] ?_
 refine Zd ?_
 obtain ⟨x7,hx7,h⟩:=bC h
 obtain ⟨x8,hx8,ax8,bx8,cx8,h⟩:=bE (f:=(eL (eI .u64))) Zu5 (fun _=>rfl) (by decide) h
 obtain ⟨l9,al9,bl9,cl9,gl9,h⟩:=bS (lo:=(some (.i64,a2))) (hi:=(some (.i64,(IntKind.i64.wrap (a2+a3))))) (f:=(eI .u64)) rfl rfl Zkn Zf0 (fun _=>rfl) h
 obtain ⟨y10,hy10,h⟩:=bC h
 refine Yps [] hx7 ax8 bx8 cx8 al9 bl9 cl9 gl9 ?_
 refine (Zc7  hy10).then ?_
 refine zF8 hx7 ax8 bx8 cx8 al9 bl9 cl9 gl9 ?_
 refine zD [8,9] [true] ?_
 refine zW ?_
 have h:=Option.some.inj h;subst h
 refine Zi (.inr rfl) hU [.row n y10.length,(vB true)] (by omega) ?_
 simp only [push_cast,seval,↓reduceIte,Zb,Tryz.results302,hN0,hN]
theorem Zms {a0:(Option Zw)} {a1:Ye} {a2:Int} {a3:Int} {r:(Qi×Int)} {O:Objs} {n:Nat} (h:Zdc a0 a1 a2 a3=some r):GTo Tryz.prog 264 [(gP Zu a0),.agg (Qe a1),(vI a2),(vI a3)] O n (.tup [.agg (Kz r.1),(vI r.2)]) O n:=by
 unfold Zdc at h
 refine Yo Zv Tryz.call264 Tryz.func264 rfl (Nat.le_of_ble_eq_true rfl) (Nat.le_refl _) fun hU => ?_
 have hN0:O n=none:=hU.fresh _ (Nat.le_refl _)
 have hN:∀ k,O (n+k)=none:=fun k=>hU.fresh _ (Nat.le_add_right _ _)
 show W _ _ _ _ ⟨36,[],[(0,(gP Zu a0)),(1,.agg (Qe a1)),(2,(vI a2)),(3,(vI a3))]⟩ (Z0 O n []) _
 refine zQ [0,2,3,5,8] ?_
 refine Zd ?_
 refine zQ [0,2,3,5,8,14] ?_
 refine Zs (t:=(a1.Kind == 4)) rfl (fun c7 => ?_) (fun c7 => ?_)
 ·replace h:=Zr c7 h
  refine Zd ?_
  refine zRd [8,9] [false,true] ?_
  refine zW ?_
  have h:=Option.some.inj h;subst h
  refine Zi (.inr rfl) hU [.agg [(vI 0),(vI 0),(vI 0),(vI 0),(vI 0),(vI 0),(vI 0),(vB false),(vI 0),(vI 0)],(vI 9)] (by omega) ?_
  simp only [push_cast,seval,↓reduceIte,Zb,Tryz.results264,hN0,hN]
 replace h:=Zq c7 h
 refine Jh [0,2,3,5,8] [true,true] ?_
 refine Zd ?_
 obtain ⟨y2,hy2,h⟩:=bC h
 refine zCd (Znh hy2) [0,2,3,5,8,10,11] [true,true] ?_
 refine Zd ?_
 refine zQ [0,2,3,5,8,10,22] ?_
 refine Zs (t:=(!y2.2)) rfl (fun c6 => ?_) (fun c6 => ?_)
 ·replace h:=Zr c6 h
  refine Zd ?_
  refine zRd [8,9] [false,true] ?_
  refine zW ?_
  have h:=Option.some.inj h;subst h
  refine Zi (.inr rfl) hU [.agg [(vI 0),(vI 0),(vI 0),(vI 0),(vI 0),(vI 0),(vI 0),(vB false),(vI 0),(vI 0)],(vI 8)] (by omega) ?_
  simp only [push_cast,seval,↓reduceIte,Zb,Tryz.results264,hN0,hN]
 replace h:=Zq c6 h
 refine Jh [0,2,3,5,8,10] [true,true] ?_
 refine Zd ?_
 refine Zd ?_
 obtain ⟨y4,hy4,h⟩:=bC h
 refine zCd (Zgy hy4) [2,3,5,8,29] [true,true] ?_
 refine Zs (t:=(!y4)) rfl (fun c5 => ?_) (fun c5 => ?_)
 ·replace h:=Zr c5 h
  refine Zd ?_
  refine zRd [8,9] [false,true] ?_
  refine zW ?_
  have h:=Option.some.inj h;subst h
  refine Zi (.inr rfl) hU [.agg [(vI 0),(vI 0),(vI 0),(vI 0),(vI 0),(vI 0),(vI 0),(vB false),(vI 0),(vI 0)],(vI 7)] (by omega) ?_
  simp only [push_cast,seval,↓reduceIte,Zb,Tryz.results264,hN0,hN]
 replace h:=Zq c5 h
 refine Jh [2,3,5,8] [true,true] ?_
 refine Zd ?_
 refine zRd [2,3,5,8] [true,true] ?_
 refine Zd ?_
 refine zRd [8,9] [false,true] ?_
 refine zW ?_
 have h:=Option.some.inj h;subst h
 refine Zi (.inr rfl) hU [.agg [(vI a1.Kind),(vI 0),(vI a1.Data),(vI a1.Ptrs),(vI a1.Code),(vI a1.Count),(vI a1.Segment),(vB a1.Double),(vI a2),(vI a3)],(vI 0)] (by omega) ?_
 simp only [push_cast,seval,↓reduceIte,Zb,Tryz.results264,hN0,hN]
theorem Z3p {a0:(Option Zw)} {a1:Int} {a2:Int} {r:(Qi×Int)} {O:Objs} {n:Nat} (h:Zib a0 a1 a2=some r):GTo Tryz.prog 262 [(gP Zu a0),(vI a1),(vI a2)] O n (.tup [.agg (Kz r.1),(vI r.2)]) O n:=by
 unfold Zib at h
 refine Yo Zv Tryz.call262 Tryz.func262 rfl (Nat.le_of_ble_eq_true rfl) (Nat.le_refl _) fun hU => ?_
 have hN0:O n=none:=hU.fresh _ (Nat.le_refl _)
 have hN:∀ k,O (n+k)=none:=fun k=>hU.fresh _ (Nat.le_add_right _ _)
 show W _ _ _ _ ⟨56,[],[(0,(gP Zu a0)),(1,(vI a1)),(2,(vI a2))]⟩ (Z0 O n []) _
 refine zQ [0,1,2,6] ?_
 refine Zd ?_
 obtain ⟨y2,hy2,h⟩:=bC h
 refine zCd (Zrz hy2) [0,6,8,9] [true] ?_
 refine Zd ?_
 refine zQ [0,6,8,20] ?_
 refine Zs (t:=(!y2.2)) rfl (fun c11 => ?_) (fun c11 => ?_)
 ·replace h:=Zr c11 h
  refine Zd ?_
  refine zRd [6,7] [true] ?_
  refine zW ?_
  have h:=Option.some.inj h;subst h
  refine Zi (.inr rfl) hU [.agg [(vI 0),(vI 0),(vI 0),(vI 0),(vI 0),(vI 0),(vI 0),(vB false),(vI 0),(vI 0)],(vI 7)] (by omega) ?_
  simp only [push_cast,seval,↓reduceIte,Zb,Tryz.results262,hN0,hN]
 replace h:=Zq c11 h
 refine Jh [0,6,8] [true] ?_
 obtain ⟨x3,hx3,ax3,bx3,cx3,h⟩:=bE (f:=(eI .u64)) Zf0 (fun _=>rfl) (by decide) h
 obtain ⟨y4,hy4,h⟩:=bC h
 obtain ⟨x5,hx5,ax5,bx5,cx5,h⟩:=bE (f:=(eI .u64)) Zf0 (fun _=>rfl) (by decide) h
 obtain ⟨y6,hy6,h⟩:=bC h
 refine Y8 (E':=⟨56,[],[(0,(gP Zu a0)),(6,.ref n 0),(10,.ref (n+1) 0),(11,.ref (n+2) 0)]⟩) (O':=(Z0 O n [some ⟨false,228,10,1,[(vI 0),(vI 0),(vI 0),(vI 0),(vI 0),(vI 0),(vI 0),(vB false),(vI 0),(vI 0)]⟩,some ⟨false,191,8,1,(Qe y4)⟩,some ⟨false,191,8,1,(Qe y6)⟩])) (n0:=(n+3)) ?_ ?_
 ·refine Yin Zv (by kernel_rfl) [.low,.low,.low,.low,.low,.low,.low,.low,.pass,.pass,.pass,.pass] (fun i=>i < (n+1)) 8 9 [0,1,2,3,4,5,6,7] [10,11] [.low,.low,.low,.low,.low,.low,.low,.low] [.pass,.pass,.pass,.pass] [.pass,.pass,.pass,.pass] [] (by kernel_rfl) rfl rfl rfl ?_
  refine zF6 ax3 bx3 cx3 ax5 bx5 cx5 ?_
  repeat (with_reducible refine And.intro (by omega) ?_)
  first | refine PCallA.of (fun _ _=>Gp hy4) ?_ | refine PCall.of (Gp hy4) ?_
  refine zF6 ax3 bx3 cx3 ax5 bx5 cx5 ?_
  repeat (with_reducible refine And.intro (by omega) ?_)
  first | refine PCallA.of (fun _ _=>Gp hy6) ?_ | refine PCall.of (Gp hy6) ?_
  refine zF6 ax3 bx3 cx3 ax5 bx5 cx5 ?_
  repeat (with_reducible refine And.intro (by omega) ?_)
  refine And.intro ?_ ?_
  ·refine zF6 ax3 bx3 cx3 ax5 bx5 cx5 ?_
   repeat (with_reducible refine And.intro (by first | exact Q1 rfl | exact Qb) ?_)
   exact Ypm ax3 bx3 cx3 ax5 bx5 cx5
  refine zF6 ax3 bx3 cx3 ax5 bx5 cx5 ?_
  repeat (with_reducible refine And.intro (by first | exact Q1 rfl | exact Qb) ?_)
  refine And.intro rfl ?_
  refine Fit2.trans (E':=(⟨56,[],[(0,(gP Zu a0)),(6,.ref n 0),(10,.ref (n+2) 0),(11,.ref (n+1) 0)]⟩:Env)) (O':=(Z0 O n [some ⟨false,228,10,1,[(vI 0),(vI 0),(vI 0),(vI 0),(vI 0),(vI 0),(vI 0),(vB false),(vI 0),(vI 0)]⟩,some ⟨false,191,8,1,(Qe y6)⟩,some ⟨false,191,8,1,(Qe y4)⟩])) (n':=(n+3)) (Fit2.of (Y1 hU rfl rfl ?_) (by omega)) ?_
  ·exact Ypp ax3 bx3 cx3 ax5 bx5 cx5
  refine Zjg (k:=3) (k':=3) hU [0,2,1] [0,2,1] rfl rfl rfl rfl ⟨rfl,rfl⟩ ?_
  exact zSe
 refine Zd ?_
 refine zQD [0,6,10,11,36] [none,none] ?_
 refine Zs (t:=(cond (y4.Kind != 3) true y4.Double)) rfl (fun c10 => ?_) (fun c10 => ?_)
 ·replace h:=Zr c10 h
  refine Zd ?_
  refine zRd [6,7] [true,false,false] ?_
  refine zW ?_
  have h:=Option.some.inj h;subst h
  refine Zi (.inr rfl) hU [.agg [(vI 0),(vI 0),(vI 0),(vI 0),(vI 0),(vI 0),(vI 0),(vB false),(vI 0),(vI 0)],(vI 8)] (by omega) ?_
  simp only [push_cast,seval,↓reduceIte,Zb,Tryz.results262,hN0,hN]
 replace h:=Zq c10 h
 refine Jh [0,6,10,11] [true,true,true] ?_
 refine Zd ?_
 refine zQD [0,6,10,11,45] [none,none,none] ?_
 refine Zs (t:=(cond (y6.Kind != 4) (y6.Off != 0) false)) rfl (fun c9 => ?_) (fun c9 => ?_)
 ·replace h:=Zr c9 h
  refine Zd ?_
  refine zRd [6,7] [true,false,false] ?_
  refine zW ?_
  have h:=Option.some.inj h;subst h
  refine Zi (.inr rfl) hU [.agg [(vI 0),(vI 0),(vI 0),(vI 0),(vI 0),(vI 0),(vI 0),(vB false),(vI 0),(vI 0)],(vI 8)] (by omega) ?_
  simp only [push_cast,seval,↓reduceIte,Zb,Tryz.results262,hN0,hN]
 replace h:=Zq c9 h
 refine Jh [0,6,10,11] [true,true,true] ?_
 refine Zd ?_
 obtain ⟨y8,hy8,h⟩:=bC h
 refine zCd (Zms hy8) [6,7] [true,false,false] ?_
 refine zW ?_
 have h:=Option.some.inj h;subst h
 refine Zi (.inr rfl) hU [.agg (Kz y8.1),(vI y8.2)] (by omega) ?_
 simp only [push_cast,seval,↓reduceIte,Zb,Tryz.results262,hN0,hN]
theorem Z3q {a0:(Option Zw)} {a1:Int} {a2:Int} {r:(Qi×Int)} {O:Objs} {n:Nat} (h:Zic a0 a1 a2=some r):GTo Tryz.prog 263 [(gP Zu a0),(vI a1),(vI a2)] O n (.tup [.agg (Kz r.1),(vI r.2)]) O n:=by
 unfold Zic at h
 refine Yo Zv Tryz.call263 Tryz.func263 rfl (Nat.le_of_ble_eq_true rfl) (Nat.le_refl _) fun hU => ?_
 have hN0:O n=none:=hU.fresh _ (Nat.le_refl _)
 have hN:∀ k,O (n+k)=none:=fun k=>hU.fresh _ (Nat.le_add_right _ _)
 show W _ _ _ _ ⟨34,[],[(0,(gP Zu a0)),(1,(vI a1)),(2,(vI a2))]⟩ (Z0 O n []) _
 refine zQ [0,1,2,6] ?_
 refine Zd ?_
 obtain ⟨y2,hy2,h⟩:=bC h
 refine zCd (Zgx hy2) [0,1,2,6,8,9] [true] ?_
 refine Zd ?_
 refine zQ [0,1,2,6,8,19] ?_
 refine Zs (t:=(!y2.2)) rfl (fun c7 => ?_) (fun c7 => ?_)
 ·replace h:=Zr c7 h
  refine Zd ?_
  refine zRd [6,7] [true] ?_
  refine zW ?_
  have h:=Option.some.inj h;subst h
  refine Zi (.inr rfl) hU [.agg [(vI 0),(vI 0),(vI 0),(vI 0),(vI 0),(vI 0),(vI 0),(vB false),(vI 0),(vI 0)],(vI 7)] (by omega) ?_
  simp only [push_cast,seval,↓reduceIte,Zb,Tryz.results263,hN0,hN]
 replace h:=Zq c7 h
 refine Jh [0,1,2,6,8] [true] ?_
 refine Zd ?_
 obtain ⟨y4,hy4,h⟩:=bC h
 refine zCd (Gp hy4) [0,1,2,6,10] [true,true] ?_
 refine Zd ?_
 obtain ⟨y6,hy6,h⟩:=bC h
 refine zCd (Zms hy6) [6,7] [true,false] ?_
 refine zW ?_
 have h:=Option.some.inj h;subst h
 refine Zi (.inr rfl) hU [.agg (Kz y6.1),(vI y6.2)] (by omega) ?_
 simp only [push_cast,seval,↓reduceIte,Zb,Tryz.results263,hN0,hN]
theorem Z3o {a0:(Option Zw)} {a1:Int} {a2:Int} {r:(Qi×Int)} {O:Objs} {n:Nat} (h:Zia a0 a1 a2=some r):GTo Tryz.prog 207 [(gP Zu a0),(vI a1),(vI a2)] O n (.tup [.agg (Kz r.1),(vI r.2)]) O n:=by
 unfold Zia at h
 refine Yo Zv Tryz.call207 Tryz.func207 rfl (Nat.le_of_ble_eq_true rfl) (Nat.le_refl _) fun hU => ?_
 have hN0:O n=none:=hU.fresh _ (Nat.le_refl _)
 have hN:∀ k,O (n+k)=none:=fun k=>hU.fresh _ (Nat.le_add_right _ _)
 show W _ _ _ _ ⟨67,[],[(0,(gP Zu a0)),(1,(vI a1)),(2,(vI a2))]⟩ (Z0 O n []) _
 refine zQ [0,1,2,6] ?_
 refine Zd ?_
 obtain ⟨y2,hy2,h⟩:=bC h
 refine zCd (Zgx hy2) [0,1,2,6,8,9] [true] ?_
 refine Zd ?_
 refine zQ [0,1,2,6,8,19] ?_
 refine Zs (t:=(!y2.2)) rfl (fun Jg => ?_) (fun Jg => ?_)
 ·replace h:=Zr Jg h
  refine Zd ?_
  refine zRd [6,7] [true] ?_
  refine zW ?_
  have h:=Option.some.inj h;subst h
  refine Zi (.inr rfl) hU [.agg [(vI 0),(vI 0),(vI 0),(vI 0),(vI 0),(vI 0),(vI 0),(vB false),(vI 0),(vI 0)],(vI 7)] (by omega) ?_
  simp only [push_cast,seval,↓reduceIte,Zb,Tryz.results207,hN0,hN]
 replace h:=Zq Jg h
 refine Jh [0,1,2,6,8] [true] ?_
 refine Zd ?_
 obtain ⟨y4,hy4,h⟩:=bC h
 refine zCd (Gp hy4) [0,1,2,6,10] [true,true] ?_
 refine Zd ?_
 refine Yc ?_
 refine zQ [0,1,2,6,10,23] ?_
 refine Zs (t:=(y4.Kind == 0)) rfl (fun c13 => ?_) (fun c13 => ?_)
 ·replace h:=Zr c13 h
  refine Zd ?_
  refine zRd [6,7] [true,false] ?_
  refine zW ?_
  have h:=Option.some.inj h;subst h
  refine Zi (.inr rfl) hU [.agg [(vI 0),(vI 0),(vI 0),(vI 0),(vI 0),(vI 0),(vI 0),(vB false),(vI 0),(vI 0)],(vI 0)] (by omega) ?_
  simp only [push_cast,seval,↓reduceIte,Zb,Tryz.results207,hN0,hN]
 replace h:=Zq c13 h
 refine zQD [0,1,2,6,10,28] [none,none] ?_
 refine Zs (t:=(cond (y4.Kind == 3) y4.Double false)) rfl (fun c12 => ?_) (fun c12 => ?_)
 ·replace h:=Zr c12 h
  refine Zd ?_
  obtain ⟨y6,hy6,h⟩:=bC h
  refine zCd (Z3p hy6) [6,7] [true,false] ?_
  refine zW ?_
  have h:=Option.some.inj h;subst h
  refine Zi (.inr rfl) hU [.agg (Kz y6.1),(vI y6.2)] (by omega) ?_
  simp only [push_cast,seval,↓reduceIte,Zb,Tryz.results207,hN0,hN]
 replace h:=Zq c12 h
 refine zQ [0,1,2,6,10,44] ?_
 refine Zs (t:=(y4.Kind == 3)) rfl (fun c11 => ?_) (fun c11 => ?_)
 ·replace h:=Zr c11 h
  refine Zd ?_
  obtain ⟨y8,hy8,h⟩:=bC h
  refine zCd (Z3q hy8) [6,7] [true,false] ?_
  refine zW ?_
  have h:=Option.some.inj h;subst h
  refine Zi (.inr rfl) hU [.agg (Kz y8.1),(vI y8.2)] (by omega) ?_
  simp only [push_cast,seval,↓reduceIte,Zb,Tryz.results207,hN0,hN]
 replace h:=Zq c11 h
 refine Jh [0,1,2,6,10] [true,true] ?_
 refine Zd ?_
 obtain ⟨y10,hy10,h⟩:=bC h
 refine zCd (Zms hy10) [6,7] [true,false] ?_
 refine zW ?_
 have h:=Option.some.inj h;subst h
 refine Zi (.inr rfl) hU [.agg (Kz y10.1),(vI y10.2)] (by omega) ?_
 simp only [push_cast,seval,↓reduceIte,Zb,Tryz.results207,hN0,hN]
theorem Zr5 {a0:Zf} {r:(Zf×Int)} {O:Objs} {n:Nat} (h:Zde a0=some r):GTo Tryz.prog 208 [.agg (Z4 a0)] O n (.tup [.agg (Z4 r.1),(vI r.2)]) O n:=by
 unfold Zde at h
 refine Yo Zv Tryz.call208 Tryz.func208 rfl (Nat.le_of_ble_eq_true rfl) (Nat.le_refl _) fun hU => ?_
 have hN0:O n=none:=hU.fresh _ (Nat.le_refl _)
 have hN:∀ k,O (n+k)=none:=fun k=>hU.fresh _ (Nat.le_add_right _ _)
 show W _ _ _ _ ⟨56,[],[(0,.agg (Z4 a0))]⟩ (Z0 O n []) _
 refine zQ [1,2] ?_
 refine Zd ?_
 obtain ⟨y2,hy2,h⟩:=bC h
 refine zCd (Zgx hy2) [1,2,4] [true,true] ?_
 refine Zd ?_
 obtain ⟨y4,hy4,h⟩:=bC h
 refine zCd (Gp hy4) [1,2,6] [true,true,true] ?_
 refine Zd ?_
 refine zQD [1,2,6,44] [none,none,none,none,none,none,none,none,none,none,none,none,none,none,none,none,none] ?_
 refine Zs (t:=(cond (cond (cond (y4.Kind != 0) (y4.Kind != 1) false) true (decide (y4.Off < 0))) true (decide (a0.count < (IntKind.i64.wrap (y4.Off * (IntKind.i64.wrap (y4.Data+y4.Ptrs)))))))) rfl (fun c5 => ?_) (fun c5 => ?_)
 ·replace h:=Zr c5 h
  refine Zd ?_
  refine zRd [2,3] [false,true,false] ?_
  refine zW ?_
  have h:=Option.some.inj h;subst h
  refine Zi (.inr rfl) hU [.agg [.val (.pointer none),(vI 0),(vI 0),(vI 0),(vI 0),(vI 0),(vI 0),(vI 0),(vI 0)],(vI 8)] (by omega) ?_
  simp only [push_cast,seval,↓reduceIte,Zb,Tryz.results208,hN0,hN]
 replace h:=Zq c5 h
 refine Jh [1,2,6] [true,true,true] ?_
 refine Zd ?_
 refine Zys Zv (by kernel_rfl) [.plain,.plain,.low,.low,.low,.low,.plain,.pass,.plain,.pass,.plain,.bar] (fun i=>i≠n+0) [0,1,2,3,4,5,6,7,8,9,10,11] [.plain,.plain,.low,.low,.low,.low,.plain,.pass,.plain,.pass,.plain,.bar] [] (by kernel_rfl) rfl ?_
 refine zS ?_
 refine zO ?_
 refine zDs [1,2] [true,true,false] ?_
 refine zRd [2,3] [false,true,false] ?_
 refine zW ?_
 have h:=Option.some.inj h;subst h
 refine Zi (.inr rfl) hU [.agg [(gP Zu a0.a),(vI a0.kind),(vI a0.segment),(vI a0.at_),(vI y4.Data),(vI y4.Ptrs),(vI y4.Off),(vI a0.code),(vI a0.index)],(vI 0)] (by omega) ?_
 simp only [push_cast,seval,↓reduceIte,Zb,Tryz.results208,hN0,hN]
end Go.Proofs.YtmlcnhambfkjaaaGreat
