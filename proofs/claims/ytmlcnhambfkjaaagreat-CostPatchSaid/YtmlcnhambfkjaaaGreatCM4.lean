/- Part CM4 of this seat's mirrors: functions of the seat's program, and the plain functions that they are; each theorem bears its own conditions. -/
import Derived.Test.YtmlcnhambfkjaaaGreatCE
import Derived.Test.YtmlcnhambfkjaaaGreatCM1
namespace Go.Proofs.YtmlcnhambfkjaaaGreat
open Go.RowKit
set_option linter.unusedVariables false
set_option linter.unusedSimpArgs false
set_option maxRecDepth 100000
set_option maxHeartbeats 4000000
attribute [local push_cast] vI vB nV sL oR Zm Kp Kh Y4 Zj Gt Kz Qe Z4 Zy8 Zy7 Zzv Zzu Xc Yp Ztl Zoc Zob onW Qy Zh0 Zf8 Zx2 Zxd Zrm Zrq Zrl Zrp Zu3 Zuz Zro Zu2 Zu1 Zu0 Zrn Zux Zpb evS wok Ki Op.operands Call.operands gop onK onP atK List.all_cons List.all_nil Bool.and_true Bool.true_and Bool.and_self Value.oneCell' List.take_zero List.take_succ_cons List.take_nil List.drop_zero List.drop_succ_cons List.drop_nil List.append_nil Nat.add_zero Nat.zero_add Za7 Y0 ev K0 Zw9 Zy1 Zy0 Zy6 Zy4 Zy5 Zy2 Zy3 Zyz Zye Z1r Z43 Zoh Zh2 Zm6 Zh1 Zq3 Zky Zlv Zl0 Zn5 Zn1 Zly Zn4 Zn3 Zn2 Zlx Znz Zlw Zlz Zkh Zn0 Zp2 Zoe Ze1 Zog Ze2 Zp1 Zoa Z3l bLo bHi bMx Zh3 Zpz Z9b Zn9 Zp0 Zkj Zc5 Z1u Z9d Zn8 Zkw Z9i Zhz Ya7 Ztq Ztu Ztp Ztt Zzj Zzf Zzd Zq5 Ztr Zzi Zzh Zzg Zts Zze Zpt Zxc Zuq Zo1 Zo0 pop TK.isAgg Zzo Zzs Zzn Zzr Zug Z50 Z5w Zzq Z5z Z5y Z5x Zzp Z5v G.under G.unders List.getD_cons_zero List.getD_cons_succ List.set_cons_zero List.set_cons_succ List.map_cons List.map_nil List.toList_toArray Array.toList_append Option.toArray_none Option.toArray_some Array.toList_map Option.map_some Option.map_none Option.bind_some Option.bind_none List.getElem?_cons_zero List.getElem?_cons_succ List.getElem?_nil List.nil_append List.cons_append List.replicate_succ List.replicate_zero List.length_cons List.length_nil and_true true_and and_false false_and Bool.true_eq_false Bool.false_eq_true forall_const false_implies implies_true IntKind.bits if_true if_false ite_true ite_false eq_self true_implies false_or or_false or_true true_or not_true_eq_false not_false_eq_true decide_true decide_false decide_eq_true_eq decide_eq_false_iff_not beq_iff_eq bne_iff_ne ne_eq Bool.not_eq_true Bool.not_eq_false beq_eq_false_iff_ne bne_eq_false_iff_eq beq_self_eq_true bne_self_eq_false Option.some.injEq exists_eq_left' exists_eq_left ge_iff_le gt_iff_lt decide_not Bool.not_true Bool.not_false imp_self Z46 cond_true cond_false Yit Yir Bool.not_not Bool.and_false Bool.false_and Bool.or_true Bool.true_or Bool.or_false Bool.false_or Zhg Zsz Zjd Zhh Za3 Uu Option.join_some Nat.add_assoc Int.toNat_natCast eI eB eS eL Ge Zm7 Zl4 Zzb Zy9 Zza Ybi Ye7 Zno Zmc Zz2 Zz0 Zz1 Z5u Zrx Z38 Zsc Z3i Zg1 Z1k List.length_append G.agg.injEq G.row.injEq G.ref.injEq G.val.injEq G.sl.injEq G.tup.injEq Value.int.injEq Value.bool.injEq Value.string.injEq List.cons.injEq exists_and_left exists_const List.flatten_cons List.flatten_nil Int.le_refl Nat.le_refl Zj2 J3 Zdp Bool.not_eq_true' Bool.not_eq_false' Z06 Znx Z8g Z8l Z8f Z8k Yea Yd5 List.size_toArray Zxq Zx6 G.ren G.rens Z2r Zll Zz4 Zyx Zyy Zuy Z8m Zgz G.fn.injEq Zqp Zwv Z05 Yd6 Zwu Z8j Yd9 Yd8 Yd7 Z8h Z5l Ycn Option.join_none X3 Gd undef Zp8 Arr.len Arr.put_eq Znn Zra Zox Zmb Zzz Zzx Zzy onB Ybh Z1q Q0 Zq0 Zs0 Zs1 Zs2 Zs3 Zs4 Zs5 Zq7 Zrd Zrb Zoz Zmd Zrc Zup Zuo Zun Zum Ye6 Yhb Z5t Z3u Ui Z5n Zxe Zre Zoy Z96 Zx8 Zn7 Zpy Zjh Zqk Zs6 Zs7 Zs8 Zs9 Zqt Zqu Zqv Zqw Zqx Zqy Zqz Zkb prT Zhe Yjz Z73 Ybw Z74 Yj0 Z75 Z72 Z76 Yj1 Z77 Yj2 Z78 Yj3 Z79 Yj4 Z8a Ydc Zz9 Ydd Z0a Yde Z0b Ydf Z0c Ydg Z0d Ydh Z0e Ydi Z0f Ydj Z0g Ydk Z0h Ydl Z0i Ydm Z0j Zu5 Zkn Z4m Zrs Ydn Z0k Zfz Z0l Ydo Z0m Ydp Z0n Ydq Z0o Ydr Z0p Zx9 Z0q Yds Z0r Ydt Z0s Ydu Z0t Ydv Z0u Ydw Zwt Ydx Z0v Ydy Z0w Zf0 Z0x Ydz Z0y Yd0 Z0z Zya Z00 Yd1 Z01 Zsd Z02 Yd2 Z03 Zmj Z04 Z6h Zu7 Z6i Zu8 Z6j Zu9 Z6k Zva Z6l Zvb Z6m Zvc Z6n Zvd Z6o Zve Z6p Zvf Z6q Zvg Z6r Zvh Z28 Zvi Z6s Zvj Z6t Zvk Z6u Zvl Z6v Zvm Z6w Zvn Z6x Zvo Z6y Zvp Z6z Zvq Z60 Zvr Z61 Zvs Z62 Zvt Zxv Zqn Z63 Zvu Z64 Zvv Z65 Zvw Z66 Zvx Z67 Zvy Z68 Zvz Z69 Zv0 Z7a Zv1 Z7b Zv2 Z7c Zv3 Z7d Zv4 Z7e Zv5 Z7f Zv6 Z7g Zv7 Z7h Zv8 Z7i Zv9 Z7j Zwa Z7k Zwb Z7l Zwc Z7m Zwd Z7n Zwe Z7o Zwf Z7p Zwg Z7q Zwh Z7r Zwi Z7s Zwj Z7t Zwk Z7u Zwl Z7v Zwm Z7w Zwn Z7x Zwo Z7y Zwp Z7z Zwq Z70 Zwr Z71 Zws Zc Yz Zpj Zph Zoj Zov Zpl Zml Zmi Zmg Zpe Zfv Zfu Zfj Zfq Zfw Zeu Zes Zer Zft Zp Qx Zo Zz Xi Y2 Xx Zbq Zbp Za8 Zbg Zbr Zas Zaq Zap Zbm Zcj Zch Zb6 Zcd Zcl Zbn Zbj Zbh Zcf Ziv Ziu Zh6 Zil Ziw Zgp Zgo Zgn Zis Zrv Zru Zq4 Zq9 Zrw Zpf Zo5 Zo4 Zrt Zpi Zpg Zoi Zou Zpk Zmk Zmh Zmf Zpd Yu Zew Zev Zen Zeq Zex Zdo Zdm Zdl Zet Zl2 Zgi Zjk Zjj Zje Zjf Zjl Zit Ziq Zip Zji Zu Zck Zci Zb7 Zce Zcm Zbo Zbk Zbi Zcg Zhv Zl1 Zhw Yl Zau Zat Zal Zao Zav Gn Gl Gk Zar
theorem Zij {a0:Int} {a1:(List Z3)} {r:Z3} {O:Objs} {n:Nat} (h:Qn a0 a1=some r):GTo Tryz.prog 156 [(vI a0),(sL Yu a1)] O n (.agg [(vB r.something),(vI r.size)]) O n:=by
 unfold Qn at h
 refine Yo Zv Tryz.call156 Tryz.func156 rfl (Nat.le_of_ble_eq_true rfl) (Nat.le_refl _) fun hU => ?_
 have hN0:O n=none:=hU.fresh _ (Nat.le_refl _)
 have hN:∀ k,O (n+k)=none:=fun k=>hU.fresh _ (Nat.le_add_right _ _)
 show W _ _ _ _ ⟨30,[],[(0,(vI a0)),(1,(sL Yu a1))]⟩ (Z0 O n []) _
 refine zQ [0,1,4] ?_
 refine zQ [1,4,5,6] ?_
 refine Zd ?_
 refine zQd [4,5,6,10,11,12] [4,5,6,10,11,12] [true] ?_
 obtain ⟨z6,hz6,h⟩:=bC h
 refine Y3 (E':=⟨30,[],[(4,.ref n 0),(5,(vI z6.1)),(6,(vI z6.2))]⟩) (O':=(Z0 O n [some ⟨false,126,2,1,[(vB false),(vI 0)]⟩])) (n0:=(n+1)) ?_ ?_
 ·refine Xf hz6 (fun s0_=>⟨30,[],[(4,.ref n 0),(5,(vI s0_.1)),(6,(vI s0_.2.1)),(10,(sL Yu a1)),(11,(vI (a1.length:Int))),(12,(vI s0_.2.2))]⟩) (fun s0_=>(Z0 O n [some ⟨false,126,2,1,[(vB false),(vI 0)]⟩])) (fun z6=>JX 0 n (⟨30,[],[(4,.ref n 0),(5,(vI z6.1)),(6,(vI z6.2))]⟩:Env) (Z0 O n [some ⟨false,126,2,1,[(vB false),(vI 0)]⟩]) (n+1)) ?_
  intro s0_ x0_ hs0_
  unfold Jx at hs0_
  try dsimp only
  refine zQ [4,5,6,10,11,12,13] ?_
  refine Zd ?_
  refine Zs (t:=(decide (s0_.2.2 < (a1.length:Int)))) rfl (fun c5 => ?_) (fun c5 => ?_)
  ·replace hs0_:=Zr c5 hs0_
   refine Jh [4,5,6,10,11,12] [true] ?_
   refine Zd ?_
   refine Yc ?_
   refine Zd ?_
   obtain ⟨x2,hx2,ax2,bx2,cx2,hs0_⟩:=bE (f:=Yu) Z28 (fun _=>rfl) (by decide) hs0_
   refine Zec [] ax2 bx2 cx2 ?_
   refine zD [4,5,6,7,8,10,11,12] [true,true] ?_
   obtain ⟨z3,hz3,hs0_⟩:=bC hs0_
   refine Y8 (E':=⟨30,[],[(4,.ref n 0),(5,(vI z3)),(6,(vI s0_.2.1)),(8,.ref (n+1) 0),(10,(sL Yu a1)),(11,(vI (a1.length:Int))),(12,(vI s0_.2.2))]⟩) (O':=(Z0 O n [some ⟨false,126,2,1,[(vB false),(vI 0)]⟩,some ⟨false,126,2,1,[(vB x2.something),(vI x2.size)]⟩])) (n0:=(n+2)) ?_ ?_
   ·refine zQ [4,5,6,7,8,10,11,12,18] ?_
    refine Zs (t:=x2.something) rfl (fun c4 => ?_) (fun c4 => ?_)
    ·replace hz3:=Zr c4 hz3
     refine zR ?_
     exact zEn hz3
    replace hz3:=Zq c4 hz3
    refine zK ?_
    exact zEn hz3
   refine zRd [4,5,6,10,11,12] [true,false] ?_
   refine zR ?_
   exact zEn hs0_
  replace hs0_:=Zq c5 hs0_
  exact zEx hs0_
 try simp only [Xc,Yp,↓reduceIte,Nat.reduceEqDiff]
 refine zDs [4,5,6] [true] ?_
 refine zRd [4] [true] ?_
 refine zW ?_
 have h:=Option.some.inj h;subst h
 refine Zi (.inr rfl) hU [.agg [(vB true),(vI (IntKind.i64.wrap (z6.2+z6.1)))]] (by omega) ?_
 simp only [push_cast,seval,↓reduceIte,Zb,Tryz.results156,hN0,hN]
theorem Zqe {a0:Int} {a1:Int} {a2:Int} {a3:Int} {r:Z3} {O:Objs} {n:Nat} (h:Zgv a0 a1 a2 a3=some r):GTo Tryz.prog 228 [(vI a0),(vI a1),(vI a2),(vI a3)] O n (.agg [(vB r.something),(vI r.size)]) O n:=by
 unfold Zgv at h
 refine Yo Zv Tryz.call228 Tryz.func228 rfl (Nat.le_of_ble_eq_true rfl) (Nat.le_refl _) fun hU => ?_
 have hN0:O n=none:=hU.fresh _ (Nat.le_refl _)
 have hN:∀ k,O (n+k)=none:=fun k=>hU.fresh _ (Nat.le_add_right _ _)
 show W _ _ _ _ ⟨21,[],[(0,(vI a0)),(1,(vI a1)),(2,(vI a2)),(3,(vI a3))]⟩ (Z0 O n []) _
 refine zQ [0,1,2,3,8] ?_
 refine Zd ?_
 refine zQ [0,1,2,3,8,10] ?_
 refine Zs (t:=(a0 == 0)) rfl (fun c1 => ?_) (fun c1 => ?_)
 ·replace h:=Zr c1 h
  refine Zd ?_
  refine zRd [8] [true] ?_
  refine zW ?_
  have h:=Option.some.inj h;subst h
  refine Zi (.inr rfl) hU [.agg [(vB false),(vI 0)]] (by omega) ?_
  simp only [push_cast,seval,↓reduceIte,Zb,Tryz.results228,hN0,hN]
 replace h:=Zq c1 h
 refine Jh [0,1,2,3,8] [true] ?_
 refine Zd ?_
 refine zRd [8] [true] ?_
 refine zW ?_
 have h:=Option.some.inj h;subst h
 refine Zi (.inr rfl) hU [.agg [(vB true),(vI (IntKind.i64.wrap ((IntKind.i64.wrap (1+(IntKind.i64.wrap (a0 * (IntKind.i64.wrap (a1+a2))))))+a3)))]] (by omega) ?_
 simp only [push_cast,seval,↓reduceIte,Zb,Tryz.results228,hN0,hN]
theorem Zyi {a0:(List Z6)} {r:Z3} {O:Objs} {n:Nat} (h:Ze5 a0=some r):GTo Tryz.prog 158 [(sL Zp a0)] O n (.agg [(vB r.something),(vI r.size)]) O n:=by
 unfold Ze5 at h
 refine Yo Zv Tryz.call158 Tryz.func158 rfl (Nat.le_of_ble_eq_true rfl) (Nat.le_refl _) fun hU => ?_
 have hN0:O n=none:=hU.fresh _ (Nat.le_refl _)
 have hN:∀ k,O (n+k)=none:=fun k=>hU.fresh _ (Nat.le_add_right _ _)
 show W _ _ _ _ ⟨27,[],[(0,(sL Zp a0))]⟩ (Z0 O n []) _
 refine zQ [0,2] ?_
 refine zQ [0,2,3] ?_
 refine Zd ?_
 refine zQd [0,2,3,6,7,8] [0,2,3,6,7,8] [true] ?_
 obtain ⟨z7,hz7,h⟩:=bC h
 refine Y3 (E':=⟨27,[],[(0,(sL Zp a0)),(2,.ref n 0),(3,(vI z7))]⟩) (O':=(Z0 O n [some ⟨false,126,2,1,[(vB false),(vI 0)]⟩])) (n0:=(n+1)) ?_ ?_
 ·refine Xf hz7 (fun s0_=>⟨27,[],[(0,(sL Zp a0)),(2,.ref n 0),(3,(vI s0_.1)),(6,(sL Zp a0)),(7,(vI (a0.length:Int))),(8,(vI s0_.2))]⟩) (fun s0_=>(Z0 O n [some ⟨false,126,2,1,[(vB false),(vI 0)]⟩])) (fun z7=>JX 0 n (⟨27,[],[(0,(sL Zp a0)),(2,.ref n 0),(3,(vI z7))]⟩:Env) (Z0 O n [some ⟨false,126,2,1,[(vB false),(vI 0)]⟩]) (n+1)) ?_
  intro s0_ x0_ hs0_
  unfold Zbb at hs0_
  try dsimp only
  refine zQ [0,2,3,6,7,8,9] ?_
  refine Zd ?_
  refine Zs (t:=(decide (s0_.2 < (a0.length:Int)))) rfl (fun c6 => ?_) (fun c6 => ?_)
  ·replace hs0_:=Zr c6 hs0_
   refine Jh [0,2,3,6,7,8] [true] ?_
   obtain ⟨z1,hz1,hs0_⟩:=bC hs0_
   refine Y8 (E':=⟨27,[],[(0,(sL Zp a0)),(2,.ref n 0),(3,(vI z1)),(6,(sL Zp a0)),(7,(vI (a0.length:Int))),(8,(vI s0_.2))]⟩) (O':=(Z0 O n [some ⟨false,126,2,1,[(vB false),(vI 0)]⟩,none])) (n0:=(n+2)) ?_ ?_
   ·refine Yc ?_
    refine Zd ?_
    obtain ⟨x3,hx3,ax3,bx3,cx3,hz1⟩:=bE (f:=Zp) Zya (fun _=>rfl) (by decide) hz1
    refine Zec [] ax3 bx3 cx3 ?_
    refine zD [0,2,3,5,6,7,8] [true,true] ?_
    refine Yc ?_
    refine zQ [0,2,3,5,6,7,8,12] ?_
    refine Zs (t:=(x3.New != 0)) rfl (fun c5 => ?_) (fun c5 => ?_)
    ·replace hz1:=Zr c5 hz1
     refine zR ?_
     exact zEn hz1
    replace hz1:=Zq c5 hz1
    refine zQ [0,2,3,6,7,8,16] ?_
    refine Zs (t:=(x3.Old != 0)) rfl (fun c4 => ?_) (fun c4 => ?_)
    ·replace hz1:=Zr c4 hz1
     refine zR ?_
     exact zEn hz1
    replace hz1:=Zq c4 hz1
    refine zK ?_
    exact zEn hz1
   refine zR ?_
   exact zEn hs0_
  replace hs0_:=Zq c6 hs0_
  exact zEx hs0_
 try simp only [Xc,Yp,↓reduceIte,Nat.reduceEqDiff]
 refine zDs [0,2,3] [true] ?_
 obtain ⟨y9,hy9,h⟩:=bC h
 refine zCd (Zqe hy9) [2] [true] ?_
 refine zW ?_
 have h:=Option.some.inj h;subst h
 refine Zi (.inr rfl) hU [.agg [(vB y9.something),(vI y9.size)]] (by omega) ?_
 simp only [push_cast,seval,↓reduceIte,Zb,Tryz.results158,hN0,hN]
def Zfl (Xn:(Zh→Option Z3)):Prop:=∀ {a0:Zh} {r:Z3} {O:Objs} {n:Nat},Xn a0=some r→GTo Tryz.prog 95 [.agg (Zm a0)] O n (.agg [(vB r.something),(vI r.size)]) O n
def Zfm (Qq:((List Zn)→Option Z3)):Prop:=∀ {a0:(List Zn)} {r:Z3} {O:Objs} {n:Nat},Qq a0=some r→GTo Tryz.prog 159 [(sL Zo a0)] O n (.agg [(vB r.something),(vI r.size)]) O n
def Zgk (Jd:(Int→(List Zt)→Option Z3)):Prop:=∀ {a0:Int} {a1:(List Zt)} {r:Z3} {O:Objs} {n:Nat},Jd a0 a1=some r→GTo Tryz.prog 160 [(vI a0),(sL Zz a1)] O n (.agg [(vB r.something),(vI r.size)]) O n
theorem Zyn {Xn:(Zh→Option Z3)} {Qq:((List Zn)→Option Z3)} {Jd:(Int→(List Zt)→Option Z3)} (Zfo:Zfl Xn) (Zi9:Zfm Qq) (Zj8:Zgk Jd) {a0:Zh} {r:Z3} {O:Objs} {n:Nat} (h:Zf5 Xn Qq Jd a0=some r):GTo Tryz.prog 95 [.agg (Zm a0)] O n (.agg [(vB r.something),(vI r.size)]) O n:=by
 unfold Zf5 at h
 refine Yo Zv Tryz.call95 Tryz.func95 rfl (Nat.le_of_ble_eq_true rfl) (Nat.le_refl _) fun hU => ?_
 have hN0:O n=none:=hU.fresh _ (Nat.le_refl _)
 have hN:∀ k,O (n+k)=none:=fun k=>hU.fresh _ (Nat.le_add_right _ _)
 show W _ _ _ _ ⟨35,[],[(0,.agg (Zm a0))]⟩ (Z0 O n []) _
 refine zQ [1,2] ?_
 refine Zd ?_
 refine zQ [1,2,4] ?_
 refine Yc ?_
 refine zQ [1,2,4,5] ?_
 refine Zs (t:=(a0.Kind == 1)) rfl (fun c19 => ?_) (fun c19 => ?_)
 ·replace h:=Zr c19 h
  refine Zd ?_
  obtain ⟨y4,hy4,h⟩:=bC h
  obtain ⟨y5,hy5,h⟩:=bC h
  obtain ⟨y6,hy6,h⟩:=bC h
  refine Zhj Zv (by kernel_rfl) [false,false,false,false,false,false,true,true,true] [] (by kernel_rfl) ?_
  refine zS ?_
  refine PCall.of (Zk7 hy4) ?_
  refine zS ?_
  refine PCall.of (Zk7 hy5) ?_
  refine zS ?_
  refine GCalls.lend (Zij hy6) rfl ?_ ?_
  ·exact zSe
  refine zS ?_
  refine Zdq ⟨35,[],[(2,.ref (n+1) 0)]⟩ (Z0 O n [none,some ⟨false,126,2,1,[(vB y6.something),(vI y6.size)]⟩,none]) (Y1 hU rfl rfl ?_) ?_
  ·exact zSe
  refine zW ?_
  have h:=Option.some.inj h;subst h
  refine Zi (.inr rfl) hU [.agg [(vB y6.something),(vI y6.size)]] (by omega) ?_
  simp only [push_cast,seval,↓reduceIte,Zb,Tryz.results95,hN0,hN]
 replace h:=Zq c19 h
 refine zQ [1,2,4,15] ?_
 refine Zs (t:=(a0.Kind == 2)) rfl (fun Uj => ?_) (fun Uj => ?_)
 ·replace h:=Zr Uj h
  refine Zd ?_
  obtain ⟨y10,hy10,h⟩:=bC h
  obtain ⟨y11,hy11,h⟩:=bC h
  obtain ⟨y12,hy12,h⟩:=bC h
  refine Zhj Zv (by kernel_rfl) [false,false,false,false,false,false,true,true,true] [] (by kernel_rfl) ?_
  refine zS ?_
  refine PCall.of (Zyi hy10) ?_
  refine zS ?_
  refine PCall.of (Zi9 hy11) ?_
  refine zS ?_
  refine GCalls.lend (Zij hy12) rfl ?_ ?_
  ·exact zSe
  refine zS ?_
  refine Zdq ⟨35,[],[(2,.ref (n+1) 0)]⟩ (Z0 O n [none,some ⟨false,126,2,1,[(vB y12.something),(vI y12.size)]⟩,none]) (Y1 hU rfl rfl ?_) ?_
  ·exact zSe
  refine zW ?_
  have h:=Option.some.inj h;subst h
  refine Zi (.inr rfl) hU [.agg [(vB y12.something),(vI y12.size)]] (by omega) ?_
  simp only [push_cast,seval,↓reduceIte,Zb,Tryz.results95,hN0,hN]
 replace h:=Zq Uj h
 refine zQ [1,2,25] ?_
 refine Zs (t:=(a0.Kind == 3)) rfl (fun c17 => ?_) (fun c17 => ?_)
 ·replace h:=Zr c17 h
  refine Zd ?_
  obtain ⟨y15,hy15,h⟩:=bC h
  obtain ⟨y16,hy16,h⟩:=bC h
  refine zC (Zj8 hy15) ?_
  refine GCalls.lend (Zij hy16) rfl ?_ ?_
  ·exact zSe
  refine zS ?_
  refine Zdq ⟨35,[],[(2,.ref (n+1) 0)]⟩ (Z0 O n [none,some ⟨false,126,2,1,[(vB y16.something),(vI y16.size)]⟩,none]) (Y1 hU rfl rfl ?_) ?_
  ·exact zSe
  refine zW ?_
  have h:=Option.some.inj h;subst h
  refine Zi (.inr rfl) hU [.agg [(vB y16.something),(vI y16.size)]] (by omega) ?_
  simp only [push_cast,seval,↓reduceIte,Zb,Tryz.results95,hN0,hN]
 replace h:=Zq c17 h
 refine Jh [2] [false,true] ?_
 refine Zd ?_
 refine zRd [2] [false,true] ?_
 refine zW ?_
 have h:=Option.some.inj h;subst h
 refine Zi (.inr rfl) hU [.agg [(vB false),(vI 0)]] (by omega) ?_
 simp only [push_cast,seval,↓reduceIte,Zb,Tryz.results95,hN0,hN]
theorem Zyo {Xn:(Zh→Option Z3)} {Qq:((List Zn)→Option Z3)} {Jd:(Int→(List Zt)→Option Z3)} (Zfo:Zfl Xn) (Zi9:Zfm Qq) (Zj8:Zgk Jd) {a0:(List Zn)} {r:Z3} {O:Objs} {n:Nat} (h:Zf6 Xn Qq Jd a0=some r):GTo Tryz.prog 159 [(sL Zo a0)] O n (.agg [(vB r.something),(vI r.size)]) O n:=by
 unfold Zf6 at h
 refine Yo Zv Tryz.call159 Tryz.func159 rfl (Nat.le_of_ble_eq_true rfl) (Nat.le_refl _) fun hU => ?_
 have hN0:O n=none:=hU.fresh _ (Nat.le_refl _)
 have hN:∀ k,O (n+k)=none:=fun k=>hU.fresh _ (Nat.le_add_right _ _)
 show W _ _ _ _ ⟨28,[],[(0,(sL Zo a0))]⟩ (Z0 O n []) _
 refine zQ [0,2] ?_
 refine zQ [0,2,3,4] ?_
 refine Zd ?_
 refine zQd [0,2,3,4,7,8,9] [0,2,3,4,7,8,9] [true] ?_
 obtain ⟨z7,hz7,h⟩:=bC h
 refine Y3 (E':=⟨28,[],[(0,(sL Zo a0)),(2,.ref n 0),(3,(vI z7.1)),(4,(vI z7.2))]⟩) (O':=(Z0 O n [some ⟨false,126,2,1,[(vB false),(vI 0)]⟩])) (n0:=(n+1)) ?_ ?_
 ·refine Xf hz7 (fun s0_=>⟨28,[],[(0,(sL Zo a0)),(2,.ref n 0),(3,(vI s0_.1)),(4,(vI s0_.2.1)),(7,(sL Zo a0)),(8,(vI (a0.length:Int))),(9,(vI s0_.2.2))]⟩) (fun s0_=>(Z0 O n [some ⟨false,126,2,1,[(vB false),(vI 0)]⟩])) (fun z7=>JX 0 n (⟨28,[],[(0,(sL Zo a0)),(2,.ref n 0),(3,(vI z7.1)),(4,(vI z7.2))]⟩:Env) (Z0 O n [some ⟨false,126,2,1,[(vB false),(vI 0)]⟩]) (n+1)) ?_
  intro s0_ x0_ hs0_
  unfold Gs at hs0_
  try dsimp only
  refine zQ [0,2,3,4,7,8,9,10] ?_
  refine Zd ?_
  refine Zs (t:=(decide (s0_.2.2 < (a0.length:Int)))) rfl (fun c6 => ?_) (fun c6 => ?_)
  ·replace hs0_:=Zr c6 hs0_
   refine Jh [0,2,3,4,7,8,9] [true] ?_
   refine Zd ?_
   refine Yc ?_
   refine Zd ?_
   obtain ⟨x2,hx2,ax2,bx2,cx2,hs0_⟩:=bE (f:=Zo) Zsd (fun _=>rfl) (by decide) hs0_
   refine Zec [] ax2 bx2 cx2 ?_
   refine zD [0,2,3,4,6,7,8,9] [true,true] ?_
   obtain ⟨z3,hz3,hs0_⟩:=bC hs0_
   refine Y8 (E':=⟨28,[],[(0,(sL Zo a0)),(2,.ref n 0),(3,(vI z3)),(4,(vI s0_.2.1)),(6,.ref (n+1) 0),(7,(sL Zo a0)),(8,(vI (a0.length:Int))),(9,(vI s0_.2.2))]⟩) (O':=(Z0 O n [some ⟨false,126,2,1,[(vB false),(vI 0)]⟩,some ⟨false,86,12,1,(Kp x2)⟩])) (n0:=(n+2)) ?_ ?_
   ·refine zQ [0,2,3,4,6,7,8,9,15] ?_
    refine Zs (t:=(decide (0 < x2.At))) rfl (fun c4 => ?_) (fun c4 => ?_)
    ·replace hz3:=Zr c4 hz3
     refine zR ?_
     exact zEn hz3
    replace hz3:=Zq c4 hz3
    refine zK ?_
    exact zEn hz3
   obtain ⟨y5,hy5,hs0_⟩:=bC hs0_
   refine zCd (Zfo hy5) [0,2,3,4,7,8,9] [true,false] ?_
   refine zR ?_
   exact zEn hs0_
  replace hs0_:=Zq c6 hs0_
  exact zEx hs0_
 try simp only [Xc,Yp,↓reduceIte,Nat.reduceEqDiff]
 refine zDs [0,2,3,4] [true] ?_
 obtain ⟨y9,hy9,h⟩:=bC h
 refine zCd (Zqe hy9) [2] [true] ?_
 refine zW ?_
 have h:=Option.some.inj h;subst h
 refine Zi (.inr rfl) hU [.agg [(vB y9.something),(vI y9.size)]] (by omega) ?_
 simp only [push_cast,seval,↓reduceIte,Zb,Tryz.results159,hN0,hN]
theorem Z2f {Xn:(Zh→Option Z3)} {Qq:((List Zn)→Option Z3)} {Jd:(Int→(List Zt)→Option Z3)} (Zfo:Zfl Xn) (Zi9:Zfm Qq) (Zj8:Zgk Jd) {a0:Int} {a1:(List Zt)} {r:Z3} {O:Objs} {n:Nat} (h:Zhn Xn Qq Jd a0 a1=some r):GTo Tryz.prog 160 [(vI a0),(sL Zz a1)] O n (.agg [(vB r.something),(vI r.size)]) O n:=by
 unfold Zhn at h
 refine Yo Zv Tryz.call160 Tryz.func160 rfl (Nat.le_of_ble_eq_true rfl) (Nat.le_refl _) fun hU => ?_
 have hN0:O n=none:=hU.fresh _ (Nat.le_refl _)
 have hN:∀ k,O (n+k)=none:=fun k=>hU.fresh _ (Nat.le_add_right _ _)
 show W _ _ _ _ ⟨44,[],[(0,(vI a0)),(1,(sL Zz a1))]⟩ (Z0 O n []) _
 refine zQ [0,1,4] ?_
 refine zQ [0,1,4,5,6] ?_
 refine Zd ?_
 refine zQd [0,1,4,5,6,10,11,12] [0,1,4,5,6,10,11,12] [true] ?_
 obtain ⟨z11,hz11,h⟩:=bC h
 refine Y3 (E':=⟨44,[],[(1,(sL Zz a1)),(4,.ref n 0),(5,(vI z11.1)),(6,(vI z11.2))]⟩) (O':=(Z0 O n [some ⟨false,126,2,1,[(vB false),(vI 0)]⟩])) (n0:=(n+1)) ?_ ?_
 ·refine Xf hz11 (fun s0_=>⟨44,[],[(0,(vI a0)),(1,(sL Zz a1)),(4,.ref n 0),(5,(vI s0_.1)),(6,(vI s0_.2.1)),(10,(sL Zz a1)),(11,(vI (a1.length:Int))),(12,(vI s0_.2.2))]⟩) (fun s0_=>(Z0 O n [some ⟨false,126,2,1,[(vB false),(vI 0)]⟩])) (fun z11=>JX 0 n (⟨44,[],[(1,(sL Zz a1)),(4,.ref n 0),(5,(vI z11.1)),(6,(vI z11.2))]⟩:Env) (Z0 O n [some ⟨false,126,2,1,[(vB false),(vI 0)]⟩]) (n+1)) ?_
  intro s0_ x0_ hs0_
  unfold Zax at hs0_
  try dsimp only
  refine zQ [0,1,4,5,6,10,11,12,13] ?_
  refine Zd ?_
  refine Zs (t:=(decide (s0_.2.2 < (a1.length:Int)))) rfl (fun c10 => ?_) (fun c10 => ?_)
  ·replace hs0_:=Zr c10 hs0_
   refine Jh [0,1,4,5,6,10,11,12] [true] ?_
   refine Zd ?_
   refine Yc ?_
   refine Zd ?_
   obtain ⟨x2,hx2,ax2,bx2,cx2,hs0_⟩:=bE (f:=Zz) Zmj (fun _=>rfl) (by decide) hs0_
   refine Zec [] ax2 bx2 cx2 ?_
   refine zDs [0,1,4,5,6,8,10,11,12] [true,true] ?_
   obtain ⟨y4,hy4,hs0_⟩:=bC hs0_
   refine zCd (Zfo hy4) [0,1,4,5,6,8,9,10,11,12] [true,true,true] ?_
   obtain ⟨z5,hz5,hs0_⟩:=bC hs0_
   refine Y8 (E':=⟨44,[],[(0,(vI a0)),(1,(sL Zz a1)),(4,.ref n 0),(5,(vI s0_.1)),(6,(vI s0_.2.1)),(9,.ref (n+2) 0),(10,(sL Zz a1)),(11,(vI (a1.length:Int))),(12,(vI s0_.2.2))]⟩) (O':=(Z0 O n [some ⟨false,126,2,1,[(vB false),(vI 0)]⟩,none,some ⟨false,126,2,1,[(vB z5.1),(vI z5.2)]⟩])) (n0:=(n+3)) ?_ ?_
   ·refine zQD [0,1,4,5,6,8,9,10,11,12,26] [none,none,none] ?_
    refine Zs (t:=(cond (x2.Kind == 1) true (x2.Kind == 2))) rfl (fun c7 => ?_) (fun c7 => ?_)
    ·replace hz5:=Zr c7 hz5
     obtain ⟨y6,hy6,hz5⟩:=bC hz5
     refine zR ?_
     refine GCalls.argsW ?_ ((Zk7 hy6).then ?_)
     ·exact zSe
     refine zS ?_
     exact zEn hz5
    replace hz5:=Zq c7 hz5
    refine zK ?_
    exact zEn hz5
   obtain ⟨z8,hz8,hs0_⟩:=bC hs0_
   refine Y8 (E':=⟨44,[],[(0,(vI a0)),(1,(sL Zz a1)),(4,.ref n 0),(5,(vI z8)),(6,(vI s0_.2.1)),(9,.ref (n+2) 0),(10,(sL Zz a1)),(11,(vI (a1.length:Int))),(12,(vI s0_.2.2))]⟩) (O':=(Z0 O n [some ⟨false,126,2,1,[(vB false),(vI 0)]⟩,none,some ⟨false,126,2,1,[(vB z5.1),(vI z5.2)]⟩])) (n0:=(n+3)) ?_ ?_
   ·refine zQ [0,1,4,5,6,9,10,11,12,33] ?_
    refine Zs (t:=z5.1) rfl (fun c9 => ?_) (fun c9 => ?_)
    ·replace hz8:=Zr c9 hz8
     refine zR ?_
     exact zEn hz8
    replace hz8:=Zq c9 hz8
    refine zK ?_
    exact zEn hz8
   refine zRd [0,1,4,5,6,10,11,12] [true,false,false] ?_
   refine zR ?_
   exact zEn hs0_
  replace hs0_:=Zq c10 hs0_
  exact zEx hs0_
 try simp only [Xc,Yp,↓reduceIte,Nat.reduceEqDiff]
 refine zDs [1,4,5,6] [true] ?_
 obtain ⟨y13,hy13,h⟩:=bC h
 refine zCd (Zqe hy13) [4] [true] ?_
 refine zW ?_
 have h:=Option.some.inj h;subst h
 refine Zi (.inr rfl) hU [.agg [(vB y13.something),(vI y13.size)]] (by omega) ?_
 simp only [push_cast,seval,↓reduceIte,Zb,Tryz.results160,hN0,hN]
theorem Ztw:∀ k,(Zfl ((Yb k).1))∧(Zfm ((Yb k).2.1))∧(Zgk ((Yb k).2.2)):=fun k=>by
 induction k with
 | zero=>exact ⟨@fun a0 r O n h=>(nomatch (show (none:Option _)=some _ from h)),@fun a0 r O n h=>(nomatch (show (none:Option _)=some _ from h)),@fun a0 a1 r O n h=>(nomatch (show (none:Option _)=some _ from h))⟩
 | succ k ih=>exact ⟨@fun a0 r O n h=>Zyn (ih.1) (ih.2.1) (ih.2.2)  h,@fun a0 r O n h=>Zyo (ih.1) (ih.2.1) (ih.2.2)  h,@fun a0 a1 r O n h=>Z2f (ih.1) (ih.2.1) (ih.2.2)  h⟩
theorem Z2b {a0:Zh} {r:Z3} {O:Objs} {n:Nat} (h:Zmq a0=some r):GTo Tryz.prog 95 [.agg (Zm a0)] O n (.agg [(vB r.something),(vI r.size)]) O n:=by
 obtain ⟨k,hk⟩:=Zcv h
 exact (Ztw k).1  hk
theorem Zge {a0:Zh} {r:Int} {O:Objs} {n:Nat} (h:Zdb a0=some r):GTo Tryz.prog 50 [.agg (Zm a0)] O n ((vI r)) O n:=by
 unfold Zdb at h
 refine Yo Zv Tryz.call50 Tryz.func50 rfl (Nat.le_of_ble_eq_true rfl) (Nat.le_refl _) fun hU => ?_
 have hN0:O n=none:=hU.fresh _ (Nat.le_refl _)
 have hN:∀ k,O (n+k)=none:=fun k=>hU.fresh _ (Nat.le_add_right _ _)
 show W _ _ _ _ ⟨7,[],[(0,.agg (Zm a0))]⟩ (Z0 O n []) _
 refine zQ [1] ?_
 refine Zd ?_
 obtain ⟨y2,hy2,h⟩:=bC h
 refine zCd (Z2b hy2) [2] [false] ?_
 refine zW ?_
 have h:=Option.some.inj h;subst h
 refine Zi (.inr rfl) hU [(vI (IntKind.i64.wrap (1+y2.size)))] (by omega) ?_
 simp only [push_cast,seval,↓reduceIte,Zb,Tryz.results50,hN0,hN]
theorem Zf3  {r:Bool} {O:Objs} {n:Nat} (h:Kt=some r):GTo Tryz.prog 49 [] O n ((vB r)) O n:=by
 unfold Kt at h
 refine Yo Zv Tryz.call49 Tryz.func49 rfl (Nat.le_of_ble_eq_true rfl) (Nat.le_refl _) fun hU => ?_
 have hN0:O n=none:=hU.fresh _ (Nat.le_refl _)
 have hN:∀ k,O (n+k)=none:=fun k=>hU.fresh _ (Nat.le_add_right _ _)
 show W _ _ _ _ ⟨9,[],[]⟩ (Z0 O n []) _
 refine zQ [] ?_
 obtain ⟨z3,hz3,h⟩:=bC h
 refine Y8 (E':=⟨9,[],[(0,(vB z3))]⟩) (O':=(Z0 O n [])) (n0:=n) ?_ ?_
 ·obtain ⟨y6,hy6,hz3⟩:=bC hz3
  rcases Bool.eq_false_or_eq_true (y6 == 1) with c8 | c8
  ·replace hz3:=Zr c8 hz3
   obtain ⟨y7,hy7,hz3⟩:=bC hz3
   refine Ks [some true,some true,some true] c8 ?_
   refine GCalls.argsW ?_ ((Zge hy6).then ?_)
   ·exact Z8o c8
   refine zX1 c8 ?_
   refine GCalls.argsW ?_ ((Zge hy7).then ?_)
   ·exact Z8o c8
   refine zX1 c8 ?_
   exact J7 hz3 c8
  replace hz3:=Zq c8 hz3
  refine Ks [some false,some false,some false] c8 ?_
  refine GCalls.argsW ?_ ((Zge hy6).then ?_)
  ·exact Z8o c8
  refine zX1 c8 ?_
  exact J7 hz3 c8
 refine zW ?_
 have h:=Option.some.inj h;subst h
 refine Zi (.inr rfl) hU [(vB z3)] (by omega) ?_
 simp only [push_cast,seval,↓reduceIte,Zb,Tryz.results49,hN0,hN]
theorem Zik {a0:Za} {r:Bool} {O:Objs} {n:Nat} (h:Gv a0=some r):GTo Tryz.prog 166 [.agg (Zj a0)] O n ((vB r)) O n:=by
 unfold Gv at h
 refine Yo Zv Tryz.call166 Tryz.func166 rfl (Nat.le_of_ble_eq_true rfl) (Nat.le_refl _) fun hU => ?_
 have hN0:O n=none:=hU.fresh _ (Nat.le_refl _)
 have hN:∀ k,O (n+k)=none:=fun k=>hU.fresh _ (Nat.le_add_right _ _)
 show W _ _ _ _ ⟨16,[],[(0,.agg (Zj a0))]⟩ (Z0 O n []) _
 refine zQ [1] ?_
 refine zQD [2] [none,none,none,none,none,none,none,none] ?_
 refine zW ?_
 have h:=Option.some.inj h;subst h
 refine Zi (.inr rfl) hU [(vB (cond (a0.Kind != 0) true (decide (0 < (IntKind.i64.wrap ((a0.Words.length:Int)+(a0.Kids.length:Int)))))))] (by omega) ?_
 simp only [push_cast,seval,↓reduceIte,Zb,Tryz.results166,hN0,hN]
theorem Kq {a0:Bool} {a1:Bool} {a2:Bool} {a3:Zh} {r:Bool} {O:Objs} {n:Nat} (h:Uo a0 a1 a2 a3=some r):GTo Tryz.prog 165 [(vB a0),(vB a1),(vB a2),.ip (Zm a3) 0] O n ((vB r)) O n:=by
 unfold Uo at h
 refine Yo Zv Tryz.call165 Tryz.func165 rfl (Nat.le_of_ble_eq_true rfl) (Nat.le_refl _) fun hU => ?_
 have hN0:O n=none:=hU.fresh _ (Nat.le_refl _)
 have hN:∀ k,O (n+k)=none:=fun k=>hU.fresh _ (Nat.le_add_right _ _)
 show W _ _ _ _ ⟨49,[],[(0,(vB a0)),(1,(vB a1)),(2,(vB a2)),(3,.ip (Zm a3) 0)]⟩ (Z0 O n []) _
 refine zQ [0,1,2,3] ?_
 obtain ⟨z3,hz3,h⟩:=bC h
 refine Y8 (E':=⟨49,[],[(7,(vB z3))]⟩) (O':=(Z0 O n [])) (n0:=n) ?_ ?_
 ·rcases Bool.eq_false_or_eq_true a0 with c8 | c8
  ·replace hz3:=Zr c8 hz3
   obtain ⟨y6,hy6,hz3⟩:=bC hz3
   rcases Bool.eq_false_or_eq_true y6 with c9 | c9
   ·replace hz3:=Zr c9 hz3
    try rw [c9] at c8
    refine Qf [some true,some true,some true,some true,some false,some false,some false,some true,some false,some false,some false,some false,some false,some false,some false,some false,some false,some false,some false,some false,some false,some false,some false,some false,some false,some false,some false,some false,some false,some false,some false,some false,some false] c8 c9 ?_
    refine (Zik hy6).then ?_
    refine zX2 c8 c9 ?_
    exact Zbz hz3 c8 c9
   replace hz3:=Zq c9 hz3
   try rw [c9] at c8
   obtain ⟨y7,hy7,hz3⟩:=bC hz3
   refine Qf [some true,some true,some true,some true,some true,some true,some true,some true,none,none,none,none,none,none,none,none,none,none,none,none,none,none,none,none,none,none,none,none,none,none,none,none,none] c8 c9 ?_
   refine zG ?_
   refine (Zik hy6).then ?_
   refine zX2 c8 c9 ?_
   refine zG ?_
   refine (Zik hy7).then ?_
   refine zX2 c8 c9 ?_
   refine zG ?_
   exact Zbz hz3 c8 c9
  replace hz3:=Zq c8 hz3
  refine Ks [some false,some false,some false,some false,some false,some false,some false,some false,some true,some true,none,none,none,none,none,none,none,none,some true,some true,none,none,none,none,none,none,none,none,none,none,none,none,none] c8 ?_
  refine zG ?_
  exact J7 hz3 c8
 refine zW ?_
 have h:=Option.some.inj h;subst h
 refine Zi (.inr rfl) hU [(vB z3)] (by omega) ?_
 simp only [push_cast,seval,↓reduceIte,Zb,Tryz.results165,hN0,hN]
theorem Zt5 {a0:Int} {r:Bool} {O:Objs} {n:Nat} (h:Zg4 a0=some r):GTo Tryz.prog 126 [(vI a0)] O n ((vB r)) O n:=by
 unfold Zg4 at h
 refine Yo Zv Tryz.call126 Tryz.func126 rfl (Nat.le_of_ble_eq_true rfl) (Nat.le_refl _) fun hU => ?_
 have hN0:O n=none:=hU.fresh _ (Nat.le_refl _)
 have hN:∀ k,O (n+k)=none:=fun k=>hU.fresh _ (Nat.le_add_right _ _)
 show W _ _ _ _ ⟨9,[],[(0,(vI a0))]⟩ (Z0 O n []) _
 refine zQ [0] ?_
 refine zQD [2] [none,none] ?_
 refine zW ?_
 have h:=Option.some.inj h;subst h
 refine Zi (.inr rfl) hU [(vB (cond (decide (2≤a0)) (decide (a0≤9)) false))] (by omega) ?_
 simp only [push_cast,seval,↓reduceIte,Zb,Tryz.results126,hN0,hN]
theorem Zlb {a0:(List Za)} {r:Bool} {O:Objs} {n:Nat} (h:Zbf a0=some r):GTo Tryz.prog 233 [(sL Zc a0)] O n ((vB r)) O n:=by
 unfold Zbf at h
 refine Yo Zv Tryz.call233 Tryz.func233 rfl (Nat.le_of_ble_eq_true rfl) (Nat.le_refl _) fun hU => ?_
 have hN0:O n=none:=hU.fresh _ (Nat.le_refl _)
 have hN:∀ k,O (n+k)=none:=fun k=>hU.fresh _ (Nat.le_add_right _ _)
 show W _ _ _ _ ⟨15,[],[(0,(sL Zc a0))]⟩ (Z0 O n []) _
 refine zQ [0] ?_
 refine Zd ?_
 refine zQd [5,6,7] [5,6,7] [] ?_
 obtain ⟨z5,hz5,h⟩:=bC h
 refine Zgq (J:=(Ju (fun z5=>JR n (⟨15,[],[(2,(vB false))]⟩:Env) (Z0 O n []) n) (fun z5=>JX 0 n (⟨15,[],[]⟩:Env) (Z0 O n []) n))) (z:=z5) ?_ fun hw => ?_
 ·refine Xf hz5 (fun s0_=>⟨15,[],[(5,(sL Zc a0)),(6,(vI (a0.length:Int))),(7,(vI s0_))]⟩) (fun s0_=>(Z0 O n [])) (Ju (fun z5=>JR n (⟨15,[],[(2,(vB false))]⟩:Env) (Z0 O n []) n) (fun z5=>JX 0 n (⟨15,[],[]⟩:Env) (Z0 O n []) n)) ?_
  intro s0_ x0_ hs0_
  unfold Uq at hs0_
  try dsimp only
  refine zQ [5,6,7,8] ?_
  refine Zd ?_
  refine Zs (t:=(decide (s0_ < (a0.length:Int)))) rfl (fun c4 => ?_) (fun c4 => ?_)
  ·replace hs0_:=Zr c4 hs0_
   refine Jh [5,6,7] [] ?_
   refine Zd ?_
   refine Yc ?_
   refine Zd ?_
   obtain ⟨x2,hx2,ax2,bx2,cx2,hs0_⟩:=bE (f:=Zc) Zfz (fun _=>rfl) (by decide) hs0_
   refine Zec [] ax2 bx2 cx2 ?_
   refine zD [4,5,6,7] [true] ?_
   refine zQ [5,6,7,13] ?_
   refine Zs (t:=(x2.Kind != 1)) rfl (fun c3 => ?_) (fun c3 => ?_)
   ·replace hs0_:=Zr c3 hs0_
    refine zQ [2] ?_
    refine zW ?_
    exact zEy hs0_
   replace hs0_:=Zq c3 hs0_
   refine Jh [5,6,7] [false] ?_
   refine zR ?_
   exact zEn hs0_
  replace hs0_:=Zq c4 hs0_
  exact zEx hs0_
 rcases z5 with z5 | z5
 ·dsimp only [Ju] at hw h
  refine Gx hw ?_
  try simp only [Xc,Yp,↓reduceIte,Nat.reduceEqDiff]
  have h:=Option.some.inj h;subst h
  refine Zi (.inr rfl) hU [(vB false)] (by omega) ?_
  simp only [push_cast,seval,↓reduceIte,Zb,Tryz.results233,hN0,hN]
 dsimp only [Ju] at hw h
 refine Y3 hw ?_
 try simp only [Xc,Yp,↓reduceIte,Nat.reduceEqDiff]
 refine zD [] [] ?_
 refine zQ [2] ?_
 refine zW ?_
 have h:=Option.some.inj h;subst h
 refine Zi (.inr rfl) hU [(vB true)] (by omega) ?_
 simp only [push_cast,seval,↓reduceIte,Zb,Tryz.results233,hN0,hN]
theorem Zt9 {a0:Int} {a1:Int} {r:Bool} {O:Objs} {n:Nat} (h:Zg6 a0 a1=some r):GTo Tryz.prog 281 [(vI a0),.val (.int .u64 a1)] O n ((vB r)) O n:=by
 unfold Zg6 at h
 refine Yo Zv Tryz.call281 Tryz.func281 rfl (Nat.le_of_ble_eq_true rfl) (Nat.le_refl _) fun hU => ?_
 have hN0:O n=none:=hU.fresh _ (Nat.le_refl _)
 have hN:∀ k,O (n+k)=none:=fun k=>hU.fresh _ (Nat.le_add_right _ _)
 show W _ _ _ _ ⟨19,[],[(0,(vI a0)),(1,.val (.int .u64 a1))]⟩ (Z0 O n []) _
 refine zQ [0,1] ?_
 refine Zd ?_
 obtain ⟨y2,hy2,h⟩:=bC h
 refine zCd (Zmv hy2) [1,5,6] [] ?_
 obtain ⟨z4,hz4,h⟩:=bC h
 refine Y8 (E':=⟨19,[],[(4,(vB z4))]⟩) (O':=(Z0 O n [])) (n0:=n) ?_ ?_
 ·rcases Bool.eq_false_or_eq_true y2.2 with c7 | c7
  ·replace hz4:=Zr c7 hz4
   obtain ⟨pu6,hz4⟩:=bG hz4
   refine Yx Zv [some true,some true,some true,some true] ?_
   simp only [push_cast,seval,↓reduceIte,Zb,c7,pu6,hN0,hN]
   have hz4:=Option.some.inj hz4;subst hz4
   refine And.intro rfl (Fit2.of (Y1 hU rfl rfl ?_) (by omega))
   simp only [push_cast,seval,↓reduceIte,Zb,c7,pu6,hN0,hN]
  replace hz4:=Zq c7 hz4
  refine Ks [some false,some false,some false,some false] c7 ?_
  exact J7 hz4 c7
 refine zW ?_
 have h:=Option.some.inj h;subst h
 refine Zi (.inr rfl) hU [(vB z4)] (by omega) ?_
 simp only [push_cast,seval,↓reduceIte,Zb,Tryz.results281,hN0,hN]
def Zd2 (Xu:(Za→Option Bool)):Prop:=∀ {a0:Za} {r:Bool} {O:Objs} {n:Nat},Xu a0=some r→GTo Tryz.prog 114 [.agg (Zj a0)] O n ((vB r)) O n
def Zd3 (Xo:(Za→Int→Option Bool)):Prop:=∀ {a0:Za} {a1:Int} {r:Bool} {O:Objs} {n:Nat},Xo a0 a1=some r→GTo Tryz.prog 174 [.agg (Zj a0),(vI a1)] O n ((vB r)) O n
def Zah (Y5:((List Za)→Int→Option Bool)):Prop:=∀ {a0:(List Za)} {a1:Int} {r:Bool} {O:Objs} {n:Nat},Y5 a0 a1=some r→GTo Tryz.prog 232 [(sL Zc a0),(vI a1)] O n ((vB r)) O n
def Zag (Xa:((List Za)→Int→Option Bool)):Prop:=∀ {a0:(List Za)} {a1:Int} {r:Bool} {O:Objs} {n:Nat},Xa a0 a1=some r→GTo Tryz.prog 234 [(sL Zc a0),(vI a1)] O n ((vB r)) O n
theorem Z2j {Xu:(Za→Option Bool)} {Xo:(Za→Int→Option Bool)} {Y5:((List Za)→Int→Option Bool)} {Xa:((List Za)→Int→Option Bool)} (Zd5:Zd2 Xu) (Zd6:Zd3 Xo) (V9:Zah Y5) (Zdk:Zag Xa) {a0:Za} {r:Bool} {O:Objs} {n:Nat} (h:Zhr Xu Xo Y5 Xa a0=some r):GTo Tryz.prog 114 [.agg (Zj a0)] O n ((vB r)) O n:=by
 unfold Zhr at h
 refine Yo Zv Tryz.call114 Tryz.func114 rfl (Nat.le_of_ble_eq_true rfl) (Nat.le_refl _) fun hU => ?_
 have hN0:O n=none:=hU.fresh _ (Nat.le_refl _)
 have hN:∀ k,O (n+k)=none:=fun k=>hU.fresh _ (Nat.le_add_right _ _)
 show W _ _ _ _ ⟨18,[],[(0,.agg (Zj a0))]⟩ (Z0 O n []) _
 refine zQ [1] ?_
 refine Zd ?_
 refine zQ [1,5] ?_
 refine Zs (t:=(a0.Kind == 10)) rfl (fun c3 => ?_) (fun c3 => ?_)
 ·replace h:=Zr c3 h
  refine zQD [2] [none,none,none,none] ?_
  refine zW ?_
  have h:=Option.some.inj h;subst h
  refine Zi (.inr rfl) hU [(vB (cond ((a0.Words.length:Int) == 1) ((a0.Kids.length:Int) == 0) false))] (by omega) ?_
  simp only [push_cast,seval,↓reduceIte,Zb,Tryz.results114,hN0,hN]
 replace h:=Zq c3 h
 refine Jh [1] [true] ?_
 refine Zd ?_
 obtain ⟨y2,hy2,h⟩:=bC h
 refine zCd (Zd6 hy2) [2] [false] ?_
 refine zW ?_
 have h:=Option.some.inj h;subst h
 refine Zi (.inr rfl) hU [(vB y2)] (by omega) ?_
 simp only [push_cast,seval,↓reduceIte,Zb,Tryz.results114,hN0,hN]
theorem Z2k {Xu:(Za→Option Bool)} {Xo:(Za→Int→Option Bool)} {Y5:((List Za)→Int→Option Bool)} {Xa:((List Za)→Int→Option Bool)} (Zd5:Zd2 Xu) (Zd6:Zd3 Xo) (V9:Zah Y5) (Zdk:Zag Xa) {a0:Za} {a1:Int} {r:Bool} {O:Objs} {n:Nat} (h:Zhs Xu Xo Y5 Xa a0 a1=some r):GTo Tryz.prog 174 [.agg (Zj a0),(vI a1)] O n ((vB r)) O n:=by
 unfold Zhs at h
 refine Yo Zv Tryz.call174 Tryz.func174 rfl (Nat.le_of_ble_eq_true rfl) (Nat.le_refl _) fun hU => ?_
 have hN0:O n=none:=hU.fresh _ (Nat.le_refl _)
 have hN:∀ k,O (n+k)=none:=fun k=>hU.fresh _ (Nat.le_add_right _ _)
 show W _ _ _ _ ⟨83,[],[(0,.agg (Zj a0)),(1,(vI a1))]⟩ (Z0 O n []) _
 refine zQ [1,2] ?_
 refine Zd ?_
 refine zQ [1,2,7] ?_
 refine Zs (t:=(a0.Kind == 0)) rfl (fun c26 => ?_) (fun c26 => ?_)
 ·replace h:=Zr c26 h
  refine zQD [4] [none,none,none,none] ?_
  refine zW ?_
  have h:=Option.some.inj h;subst h
  refine Zi (.inr rfl) hU [(vB (cond ((a0.Words.length:Int) == 0) ((a0.Kids.length:Int) == 0) false))] (by omega) ?_
  simp only [push_cast,seval,↓reduceIte,Zb,Tryz.results174,hN0,hN]
 replace h:=Zq c26 h
 refine Jh [1,2] [true] ?_
 refine Zd ?_
 refine zQ [1,2,19] ?_
 refine Zs (t:=(a1 == 0)) rfl (fun c25 => ?_) (fun c25 => ?_)
 ·replace h:=Zr c25 h
  refine zQ [4] ?_
  refine zW ?_
  have h:=Option.some.inj h;subst h
  refine Zi (.inr rfl) hU [(vB false)] (by omega) ?_
  simp only [push_cast,seval,↓reduceIte,Zb,Tryz.results174,hN0,hN]
 replace h:=Zq c25 h
 refine Jh [1,2] [true] ?_
 refine Zd ?_
 refine zQ [1,2,22] ?_
 refine Zs (t:=(a0.Kind == 1)) rfl (fun c24 => ?_) (fun c24 => ?_)
 ·replace h:=Zr c24 h
  obtain ⟨z2,hz2,h⟩:=bC h
  refine Y8 (E':=⟨83,[],[(4,(vB z2))]⟩) (O':=(Z0 O n [none])) (n0:=(n+1)) ?_ ?_
  ·rcases Bool.eq_false_or_eq_true (decide ((a0.Words.length:Int) < 65536)) with c5 | c5
   ·replace hz2:=Zr c5 hz2
    rcases Bool.eq_false_or_eq_true (decide ((a0.Kids.length:Int) < 65536)) with c6 | c6
    ·replace hz2:=Zr c6 hz2
     try rw [c6] at c5
     obtain ⟨y4,hy4,hz2⟩:=bC hz2
     refine Qf [none,none,none,none,some true,some true,some true,some true,some true] c5 c6 ?_
     refine zG ?_
     refine (V9 hy4).then ?_
     refine zX2 c5 c6 ?_
     refine zG ?_
     exact Zbz hz2 c5 c6
    replace hz2:=Zq c6 hz2
    try rw [c6] at c5
    refine Qf [none,none,none,none,some false,some false,some false,some false,some false] c5 c6 ?_
    refine zG ?_
    exact Zbz hz2 c5 c6
   replace hz2:=Zq c5 hz2
   refine Ks [none,none,none,none,some false,some false,some false,some false,some false] c5 ?_
   refine zG ?_
   exact J7 hz2 c5
  refine zW ?_
  have h:=Option.some.inj h;subst h
  refine Zi (.inr rfl) hU [(vB z2)] (by omega) ?_
  simp only [push_cast,seval,↓reduceIte,Zb,Tryz.results174,hN0,hN]
 replace h:=Zq c24 h
 refine Jh [1,2] [true] ?_
 refine Zd ?_
 refine Zd ?_
 obtain ⟨y8,hy8,h⟩:=bC h
 refine zRo [none,none,none,none,none,none,none,none] ?_
 refine zG ?_
 refine zTs (Zt5 hy8) ?_
 refine zG ?_
 refine zD [1,2,55] [true] ?_
 refine Zs (t:=(cond (cond (!y8) true (decide (0 < (a0.Words.length:Int)))) true (decide (1048576≤(a0.Kids.length:Int))))) rfl (fun c23 => ?_) (fun c23 => ?_)
 ·replace h:=Zr c23 h
  refine zQ [4] ?_
  refine zW ?_
  have h:=Option.some.inj h;subst h
  refine Zi (.inr rfl) hU [(vB false)] (by omega) ?_
  simp only [push_cast,seval,↓reduceIte,Zb,Tryz.results174,hN0,hN]
 replace h:=Zq c23 h
 refine Jh [1,2] [true] ?_
 refine Zd ?_
 refine zQ [1,2,57] ?_
 refine Yc ?_
 refine zQ [1,2,57,58] ?_
 refine Zs (t:=(a0.Kind == 8)) rfl (fun c22 => ?_) (fun c22 => ?_)
 ·replace h:=Zr c22 h
  refine Zd ?_
  obtain ⟨y10,hy10,h⟩:=bC h
  refine zCd (V9 hy10) [4] [false] ?_
  refine zW ?_
  have h:=Option.some.inj h;subst h
  refine Zi (.inr rfl) hU [(vB y10)] (by omega) ?_
  simp only [push_cast,seval,↓reduceIte,Zb,Tryz.results174,hN0,hN]
 replace h:=Zq c22 h
 refine zQ [1,2,65] ?_
 refine Zs (t:=(a0.Kind == 9)) rfl (fun c21 => ?_) (fun c21 => ?_)
 ·replace h:=Zr c21 h
  obtain ⟨z13,hz13,h⟩:=bC h
  refine Y8 (E':=⟨83,[],[(4,(vB z13))]⟩) (O':=(Z0 O n [none])) (n0:=(n+1)) ?_ ?_
  ·obtain ⟨y16,hy16,hz13⟩:=bC hz13
   rcases Bool.eq_false_or_eq_true y16 with Uj | Uj
   ·replace hz13:=Zr Uj hz13
    obtain ⟨y17,hy17,hz13⟩:=bC hz13
    refine Ks [some true,some true,some true,some true,some true] Uj ?_
    refine (Zlb hy16).then ?_
    refine zX1 Uj ?_
    refine (V9 hy17).then ?_
    refine zX1 Uj ?_
    exact J7 hz13 Uj
   replace hz13:=Zq Uj hz13
   refine Ks [some false,some false,some false,some false,some false] Uj ?_
   refine (Zlb hy16).then ?_
   refine zX1 Uj ?_
   exact J7 hz13 Uj
  refine zW ?_
  have h:=Option.some.inj h;subst h
  refine Zi (.inr rfl) hU [(vB z13)] (by omega) ?_
  simp only [push_cast,seval,↓reduceIte,Zb,Tryz.results174,hN0,hN]
 replace h:=Zq c21 h
 refine Jh [2] [true] ?_
 refine Zd ?_
 obtain ⟨y20,hy20,h⟩:=bC h
 refine zCd (Zdk hy20) [4] [false] ?_
 refine zW ?_
 have h:=Option.some.inj h;subst h
 refine Zi (.inr rfl) hU [(vB y20)] (by omega) ?_
 simp only [push_cast,seval,↓reduceIte,Zb,Tryz.results174,hN0,hN]
theorem Zuf {Xu:(Za→Option Bool)} {Xo:(Za→Int→Option Bool)} {Y5:((List Za)→Int→Option Bool)} {Xa:((List Za)→Int→Option Bool)} (Zd5:Zd2 Xu) (Zd6:Zd3 Xo) (V9:Zah Y5) (Zdk:Zag Xa) {a0:(List Za)} {a1:Int} {r:Bool} {O:Objs} {n:Nat} (h:Zdv Xu Xo Y5 Xa a0 a1=some r):GTo Tryz.prog 232 [(sL Zc a0),(vI a1)] O n ((vB r)) O n:=by
 unfold Zdv at h
 refine Yo Zv Tryz.call232 Tryz.func232 rfl (Nat.le_of_ble_eq_true rfl) (Nat.le_refl _) fun hU => ?_
 have hN0:O n=none:=hU.fresh _ (Nat.le_refl _)
 have hN:∀ k,O (n+k)=none:=fun k=>hU.fresh _ (Nat.le_add_right _ _)
 show W _ _ _ _ ⟨18,[],[(0,(sL Zc a0)),(1,(vI a1))]⟩ (Z0 O n []) _
 refine zQ [0,1] ?_
 refine Zd ?_
 refine zQd [1,7,8,9] [1,7,8,9] [] ?_
 obtain ⟨z7,hz7,h⟩:=bC h
 refine Zgq (J:=(Ju (fun z7=>JR n (⟨18,[],[(4,(vB false))]⟩:Env) (Z0 O n []) n) (fun z7=>JX 0 n (⟨18,[],[]⟩:Env) (Z0 O n []) n))) (z:=z7) ?_ fun hw => ?_
 ·refine Xf hz7 (fun s0_=>⟨18,[],[(1,(vI a1)),(7,(sL Zc a0)),(8,(vI (a0.length:Int))),(9,(vI s0_))]⟩) (fun s0_=>(Z0 O n [])) (Ju (fun z7=>JR n (⟨18,[],[(4,(vB false))]⟩:Env) (Z0 O n []) n) (fun z7=>JX 0 n (⟨18,[],[]⟩:Env) (Z0 O n []) n)) ?_
  intro s0_ x0_ hs0_
  unfold G8 at hs0_
  try dsimp only
  refine zQ [1,7,8,9,10] ?_
  refine Zd ?_
  refine Zs (t:=(decide (s0_ < (a0.length:Int)))) rfl (fun c6 => ?_) (fun c6 => ?_)
  ·replace hs0_:=Zr c6 hs0_
   refine Jh [1,7,8,9] [] ?_
   refine Zd ?_
   refine Yc ?_
   refine Zd ?_
   obtain ⟨x2,hx2,ax2,bx2,cx2,hs0_⟩:=bE (f:=Zc) Zfz (fun _=>rfl) (by decide) hs0_
   refine Zec [] ax2 bx2 cx2 ?_
   refine zDs [1,6,7,8,9] [true] ?_
   obtain ⟨y4,hy4,hs0_⟩:=bC hs0_
   refine zCd (Zd6 hy4) [1,7,8,9,16] [false] ?_
   refine Zs (t:=(!y4)) rfl (fun c5 => ?_) (fun c5 => ?_)
   ·replace hs0_:=Zr c5 hs0_
    refine zQ [4] ?_
    refine zW ?_
    exact zEy hs0_
   replace hs0_:=Zq c5 hs0_
   refine Jh [1,7,8,9] [false] ?_
   refine zR ?_
   exact zEn hs0_
  replace hs0_:=Zq c6 hs0_
  exact zEx hs0_
 rcases z7 with z7 | z7
 ·dsimp only [Ju] at hw h
  refine Gx hw ?_
  try simp only [Xc,Yp,↓reduceIte,Nat.reduceEqDiff]
  have h:=Option.some.inj h;subst h
  refine Zi (.inr rfl) hU [(vB false)] (by omega) ?_
  simp only [push_cast,seval,↓reduceIte,Zb,Tryz.results232,hN0,hN]
 dsimp only [Ju] at hw h
 refine Y3 hw ?_
 try simp only [Xc,Yp,↓reduceIte,Nat.reduceEqDiff]
 refine zD [] [] ?_
 refine zQ [4] ?_
 refine zW ?_
 have h:=Option.some.inj h;subst h
 refine Zi (.inr rfl) hU [(vB true)] (by omega) ?_
 simp only [push_cast,seval,↓reduceIte,Zb,Tryz.results232,hN0,hN]
theorem Zue {Xu:(Za→Option Bool)} {Xo:(Za→Int→Option Bool)} {Y5:((List Za)→Int→Option Bool)} {Xa:((List Za)→Int→Option Bool)} (Zd5:Zd2 Xu) (Zd6:Zd3 Xo) (V9:Zah Y5) (Zdk:Zag Xa) {a0:(List Za)} {a1:Int} {r:Bool} {O:Objs} {n:Nat} (h:Zdu Xu Xo Y5 Xa a0 a1=some r):GTo Tryz.prog 234 [(sL Zc a0),(vI a1)] O n ((vB r)) O n:=by
 unfold Zdu at h
 refine Yo Zv Tryz.call234 Tryz.func234 rfl (Nat.le_of_ble_eq_true rfl) (Nat.le_refl _) fun hU => ?_
 have hN0:O n=none:=hU.fresh _ (Nat.le_refl _)
 have hN:∀ k,O (n+k)=none:=fun k=>hU.fresh _ (Nat.le_add_right _ _)
 show W _ _ _ _ ⟨31,[],[(0,(sL Zc a0)),(1,(vI a1))]⟩ (Z0 O n []) _
 refine zQ [0,1] ?_
 refine Zd ?_
 refine zQd [1,7,8,9] [1,7,8,9] [] ?_
 obtain ⟨z17,hz17,h⟩:=bC h
 refine Zgq (J:=(Ju (fun z17=>JR n (⟨31,[],[(4,(vB false))]⟩:Env) (Z0 O n []) n) (fun z17=>JX 0 n (⟨31,[],[]⟩:Env) (Z0 O n []) n))) (z:=z17) ?_ fun hw => ?_
 ·refine Xf hz17 (fun s0_=>⟨31,[],[(1,(vI a1)),(7,(sL Zc a0)),(8,(vI (a0.length:Int))),(9,(vI s0_))]⟩) (fun s0_=>(Z0 O n [])) (Ju (fun z17=>JR n (⟨31,[],[(4,(vB false))]⟩:Env) (Z0 O n []) n) (fun z17=>JX 0 n (⟨31,[],[]⟩:Env) (Z0 O n []) n)) ?_
  intro s0_ x0_ hs0_
  unfold G7 at hs0_
  try dsimp only
  refine zQ [1,7,8,9,10] ?_
  refine Zd ?_
  refine Zs (t:=(decide (s0_ < (a0.length:Int)))) rfl (fun c16 => ?_) (fun c16 => ?_)
  ·replace hs0_:=Zr c16 hs0_
   refine Jh [1,7,8,9] [] ?_
   refine Zd ?_
   refine Yc ?_
   refine Zd ?_
   obtain ⟨x2,hx2,ax2,bx2,cx2,hs0_⟩:=bE (f:=Zc) Zfz (fun _=>rfl) (by decide) hs0_
   refine Zec [] ax2 bx2 cx2 ?_
   refine zD [1,6,7,8,9] [true] ?_
   obtain ⟨z6,hz6,hs0_⟩:=bC hs0_
   refine Y8 (E':=⟨31,[],[(1,(vI a1)),(7,(sL Zc a0)),(8,(vI (a0.length:Int))),(9,(vI s0_)),(29,(vB z6))]⟩) (O':=(Z0 O n [none])) (n0:=(n+1)) ?_ ?_
   ·rcases Bool.eq_false_or_eq_true (x2.Kind != 10) with c13 | c13
    ·replace hz6:=Zr c13 hz6
     refine Ks [some false,some false,some false,some false,some false,some false,some false,some false,some false,some false] c13 ?_
     exact J7 hz6 c13
    replace hz6:=Zq c13 hz6
    obtain ⟨y10,hy10,hz6⟩:=bC hz6
    rcases Bool.eq_false_or_eq_true y10 with Jg | Jg
    ·replace hz6:=Zr Jg hz6
     try rw [Jg] at c13
     obtain ⟨x11,hx11,ax11,bx11,cx11,hz6⟩:=bE (f:=(eI .u64)) Zf0 (fun _=>rfl) (by decide) hz6
     obtain ⟨y12,hy12,hz6⟩:=bC hz6
     refine Yat [some true,some true,some true,some true,some true,some true,some true,some true,some true,some true] c13 Jg ax11 bx11 cx11 ?_
     refine (Zd5 hy10).then ?_
     refine zF5 c13 Jg ax11 bx11 cx11 ?_
     refine (Zt9 hy12).then ?_
     refine zF5 c13 Jg ax11 bx11 cx11 ?_
     exact Ykq hz6 c13 Jg ax11 bx11 cx11
    replace hz6:=Zq Jg hz6
    try rw [Jg] at c13
    refine Qf [some true,some true,some true,some false,some false,some false,some false,some false,some false,some false] c13 Jg ?_
    refine (Zd5 hy10).then ?_
    refine zX2 c13 Jg ?_
    exact Zbz hz6 c13 Jg
   refine Zs (t:=z6) rfl (fun c15 => ?_) (fun c15 => ?_)
   ·replace hs0_:=Zr c15 hs0_
    refine zQ [4] ?_
    refine zW ?_
    exact zEy hs0_
   replace hs0_:=Zq c15 hs0_
   refine Jh [1,7,8,9] [false] ?_
   refine zR ?_
   exact zEn hs0_
  replace hs0_:=Zq c16 hs0_
  exact zEx hs0_
 rcases z17 with z17 | z17
 ·dsimp only [Ju] at hw h
  refine Gx hw ?_
  try simp only [Xc,Yp,↓reduceIte,Nat.reduceEqDiff]
  have h:=Option.some.inj h;subst h
  refine Zi (.inr rfl) hU [(vB false)] (by omega) ?_
  simp only [push_cast,seval,↓reduceIte,Zb,Tryz.results234,hN0,hN]
 dsimp only [Ju] at hw h
 refine Y3 hw ?_
 try simp only [Xc,Yp,↓reduceIte,Nat.reduceEqDiff]
 refine zD [] [] ?_
 refine zQ [4] ?_
 refine zW ?_
 have h:=Option.some.inj h;subst h
 refine Zi (.inr rfl) hU [(vB true)] (by omega) ?_
 simp only [push_cast,seval,↓reduceIte,Zb,Tryz.results234,hN0,hN]
theorem Zxh:∀ k,(Zd2 ((Z5 k).1))∧(Zd3 ((Z5 k).2.1))∧(Zah ((Z5 k).2.2.1))∧(Zag ((Z5 k).2.2.2)):=fun k=>by
 induction k with
 | zero=>exact ⟨@fun a0 r O n h=>(nomatch (show (none:Option _)=some _ from h)),@fun a0 a1 r O n h=>(nomatch (show (none:Option _)=some _ from h)),@fun a0 a1 r O n h=>(nomatch (show (none:Option _)=some _ from h)),@fun a0 a1 r O n h=>(nomatch (show (none:Option _)=some _ from h))⟩
 | succ k ih=>exact ⟨@fun a0 r O n h=>Z2j (ih.1) (ih.2.1) (ih.2.2.1) (ih.2.2.2)  h,@fun a0 a1 r O n h=>Z2k (ih.1) (ih.2.1) (ih.2.2.1) (ih.2.2.2)  h,@fun a0 a1 r O n h=>Zuf (ih.1) (ih.2.1) (ih.2.2.1) (ih.2.2.2)  h,@fun a0 a1 r O n h=>Zue (ih.1) (ih.2.1) (ih.2.2.1) (ih.2.2.2)  h⟩
theorem Zmu {a0:Za} {r:Bool} {O:Objs} {n:Nat} (h:Zig a0=some r):GTo Tryz.prog 114 [.agg (Zj a0)] O n ((vB r)) O n:=by
 obtain ⟨k,hk⟩:=Zcv h
 exact (Zxh k).1  hk
theorem Zmr {a0:Za} {r:Bool} {O:Objs} {n:Nat} (h:Zfk a0=some r):GTo Tryz.prog 167 [.agg (Zj a0)] O n ((vB r)) O n:=by
 unfold Zfk at h
 refine Yo Zv Tryz.call167 Tryz.func167 rfl (Nat.le_of_ble_eq_true rfl) (Nat.le_refl _) fun hU => ?_
 have hN0:O n=none:=hU.fresh _ (Nat.le_refl _)
 have hN:∀ k,O (n+k)=none:=fun k=>hU.fresh _ (Nat.le_add_right _ _)
 show W _ _ _ _ ⟨10,[],[(0,.agg (Zj a0))]⟩ (Z0 O n []) _
 refine zQ [1] ?_
 obtain ⟨z2,hz2,h⟩:=bC h
 refine Y8 (E':=⟨10,[],[(2,(vB z2))]⟩) (O':=(Z0 O n [none])) (n0:=(n+1)) ?_ ?_
 ·rcases Bool.eq_false_or_eq_true (a0.Kind != 10) with c5 | c5
  ·replace hz2:=Zr c5 hz2
   obtain ⟨y4,hy4,hz2⟩:=bC hz2
   refine Ks [some true,some true] c5 ?_
   refine (Zmu hy4).then ?_
   refine zX1 c5 ?_
   exact J7 hz2 c5
  replace hz2:=Zq c5 hz2
  refine Ks [some false,some false] c5 ?_
  exact J7 hz2 c5
 refine zW ?_
 have h:=Option.some.inj h;subst h
 refine Zi (.inr rfl) hU [(vB z2)] (by omega) ?_
 simp only [push_cast,seval,↓reduceIte,Zb,Tryz.results167,hN0,hN]
theorem Z5s {a0:Int} {r:Int} {O:Objs} {n:Nat} (h:Zg8 a0=some r):GTo Tryz.prog 229 [.val (.int .u8 a0)] O n (.val (.int .u64 r)) O n:=by
 unfold Zg8 at h
 refine Yo Zv Tryz.call229 Tryz.func229 rfl (Nat.le_of_ble_eq_true rfl) (Nat.le_refl _) fun hU => ?_
 have hN0:O n=none:=hU.fresh _ (Nat.le_refl _)
 have hN:∀ k,O (n+k)=none:=fun k=>hU.fresh _ (Nat.le_add_right _ _)
 show W _ _ _ _ ⟨20,[],[(0,.val (.int .u8 a0))]⟩ (Z0 O n []) _
 refine zQ [0] ?_
 refine zQ [0,3] ?_
 refine Zd ?_
 refine zQd [0,3,5] [0,3,5] [] ?_
 obtain ⟨z7,hz7,h⟩:=bC h
 refine Y3 (E':=⟨20,[],[(3,.val (.int .u64 z7))]⟩) (O':=(Z0 O n [])) (n0:=n) ?_ ?_
 ·refine Xf hz7 (fun s0_=>⟨20,[],[(0,.val (.int .u8 a0)),(3,.val (.int .u64 s0_.1)),(5,(vI s0_.2))]⟩) (fun s0_=>(Z0 O n [])) (fun z7=>JX 0 n (⟨20,[],[(3,.val (.int .u64 z7))]⟩:Env) (Z0 O n []) n) ?_
  intro s0_ x0_ hs0_
  unfold Zfa at hs0_
  try dsimp only
  refine zQ [0,3,5,6] ?_
  refine Zd ?_
  refine Zs (t:=(decide (s0_.2 < 8))) rfl (fun c6 => ?_) (fun c6 => ?_)
  ·replace hs0_:=Zr c6 hs0_
   refine Jh [0,3,5] [] ?_
   obtain ⟨z1,hz1,hs0_⟩:=bC hs0_
   refine Y8 (E':=⟨20,[],[(0,.val (.int .u8 a0)),(3,.val (.int .u64 z1)),(5,(vI s0_.2))]⟩) (O':=(Z0 O n [])) (n0:=n) ?_ ?_
   ·refine Yc ?_
    refine zQ [0,3,4,5] ?_
    obtain ⟨pu3,hz1⟩:=bG hz1
    refine Zlp [0,3,4,5,12] (Yx Zv [] ?_)
    simp only [push_cast,seval,↓reduceIte,Zb,pu3,hN0,hN]
    refine Zs (t:=((IntKind.u8.wrap (Zc6 .u8 (Int.fdiv a0 (2 ^ min (Int.toNat s0_.2) 8)) 1)) == 1)) rfl (fun c5 => ?_) (fun c5 => ?_)
    ·replace hz1:=Zr c5 hz1
     obtain ⟨pu4,hz1⟩:=bG hz1
     refine Yx Zv [] ?_
     simp only [push_cast,seval,↓reduceIte,Zb,pu4,hN0,hN]
     have hz1:=Option.some.inj hz1;subst hz1
     refine And.intro rfl (Fit2.of (Y1 hU rfl rfl ?_) (by omega))
     simp only [push_cast,seval,↓reduceIte,Zb,pu4,hN0,hN]
    replace hz1:=Zq c5 hz1
    refine zK ?_
    exact zEn hz1
   refine zR ?_
   exact zEn hs0_
  replace hs0_:=Zq c6 hs0_
  exact zEx hs0_
 try simp only [Xc,Yp,↓reduceIte,Nat.reduceEqDiff]
 refine zD [3] [] ?_
 refine zQ [2] ?_
 refine zW ?_
 have h:=Option.some.inj h;subst h
 refine Zi (.inr rfl) hU [.val (.int .u64 z7)] (by omega) ?_
 simp only [push_cast,seval,↓reduceIte,Zb,Tryz.results229,hN0,hN]
theorem Zk8 {a0:(List Z6)} {r:Bool} {O:Objs} {n:Nat} (h:Zbd a0=some r):GTo Tryz.prog 168 [(sL Zp a0)] O n ((vB r)) O n:=by
 unfold Zbd at h
 refine Yo Zv Tryz.call168 Tryz.func168 rfl (Nat.le_of_ble_eq_true rfl) (Nat.le_refl _) fun hU => ?_
 have hN0:O n=none:=hU.fresh _ (Nat.le_refl _)
 have hN:∀ k,O (n+k)=none:=fun k=>hU.fresh _ (Nat.le_add_right _ _)
 show W _ _ _ _ ⟨48,[],[(0,(sL Zp a0))]⟩ (Z0 O n []) _
 refine zQ [0] ?_
 refine zQ [0,3] ?_
 refine Zd ?_
 refine zQd [3,7,8,9] [3,7,8,9] [] ?_
 obtain ⟨z7,hz7,h⟩:=bC h
 refine Zgq (J:=(Ju (fun z7=>JR n (⟨48,[],[(2,(vB false))]⟩:Env) (Z0 O n []) n) (fun z7=>JX 0 n (⟨48,[],[]⟩:Env) (Z0 O n []) n))) (z:=z7) ?_ fun hw => ?_
 ·refine Xf hz7 (fun s0_=>⟨48,[],[(3,(vI s0_.1)),(7,(sL Zp a0)),(8,(vI (a0.length:Int))),(9,(vI s0_.2))]⟩) (fun s0_=>(Z0 O n [])) (Ju (fun z7=>JR n (⟨48,[],[(2,(vB false))]⟩:Env) (Z0 O n []) n) (fun z7=>JX 0 n (⟨48,[],[]⟩:Env) (Z0 O n []) n)) ?_
  intro s0_ x0_ hs0_
  unfold Un at hs0_
  try dsimp only
  refine zQ [3,7,8,9,10] ?_
  refine Zd ?_
  refine Zs (t:=(decide (s0_.2 < (a0.length:Int)))) rfl (fun c6 => ?_) (fun c6 => ?_)
  ·replace hs0_:=Zr c6 hs0_
   refine Jh [3,7,8,9] [] ?_
   refine Zd ?_
   refine Yc ?_
   refine Zd ?_
   obtain ⟨x2,hx2,ax2,bx2,cx2,hs0_⟩:=bE (f:=Zp) Zya (fun _=>rfl) (by decide) hs0_
   refine Zec [] ax2 bx2 cx2 ?_
   refine zDs [3,5,7,8,9] [true] ?_
   obtain ⟨y4,hy4,hs0_⟩:=bC hs0_
   refine zCd (Z5s hy4) [3,5,6,7,8,9] [true] ?_
   refine Zd ?_
   refine zQD [5,7,8,9,44] [none,none,none,none,none,none,none,none,none,none,none,none,none,none,none,none] ?_
   refine Zs (t:=(cond (cond (cond (cond (decide (x2.At≤s0_.1)) true (decide (65534 < x2.At))) true (x2.Mask == 0)) true ((IntKind.u64.wrap (Zc6 .u64 x2.Old (IntKind.u64.wrap (Zpn .u64 (if IntKind.signed .u64=true then -1 else IntKind.max .u64) y4)))) != 0)) true ((IntKind.u64.wrap (Zc6 .u64 x2.New (IntKind.u64.wrap (Zpn .u64 (if IntKind.signed .u64=true then -1 else IntKind.max .u64) y4)))) != 0))) rfl (fun c5 => ?_) (fun c5 => ?_)
   ·replace hs0_:=Zr c5 hs0_
    refine zQ [2] ?_
    refine zW ?_
    exact zEy hs0_
   replace hs0_:=Zq c5 hs0_
   refine Jh [5,7,8,9] [true] ?_
   refine zRd [3,7,8,9] [false] ?_
   refine zR ?_
   exact zEn hs0_
  replace hs0_:=Zq c6 hs0_
  exact zEx hs0_
 rcases z7 with z7 | z7
 ·dsimp only [Ju] at hw h
  refine Gx hw ?_
  try simp only [Xc,Yp,↓reduceIte,Nat.reduceEqDiff]
  have h:=Option.some.inj h;subst h
  refine Zi (.inr rfl) hU [(vB false)] (by omega) ?_
  simp only [push_cast,seval,↓reduceIte,Zb,Tryz.results168,hN0,hN]
 dsimp only [Ju] at hw h
 refine Y3 hw ?_
 try simp only [Xc,Yp,↓reduceIte,Nat.reduceEqDiff]
 refine zD [] [] ?_
 refine zQ [2] ?_
 refine zW ?_
 have h:=Option.some.inj h;subst h
 refine Zi (.inr rfl) hU [(vB true)] (by omega) ?_
 simp only [push_cast,seval,↓reduceIte,Zb,Tryz.results168,hN0,hN]
theorem Zng {a0:Int} {a1:Zh} {r:Bool} {O:Objs} {n:Nat} (h:Zdz a0 a1=some r):GTo Tryz.prog 279 [(vI a0),.agg (Zm a1)] O n ((vB r)) O n:=by
 unfold Zdz at h
 refine Yo Zv Tryz.call279 Tryz.func279 rfl (Nat.le_of_ble_eq_true rfl) (Nat.le_refl _) fun hU => ?_
 have hN0:O n=none:=hU.fresh _ (Nat.le_refl _)
 have hN:∀ k,O (n+k)=none:=fun k=>hU.fresh _ (Nat.le_add_right _ _)
 show W _ _ _ _ ⟨33,[],[(0,(vI a0)),(1,.agg (Zm a1))]⟩ (Z0 O n []) _
 refine zQ [0,3] ?_
 refine Zd ?_
 refine zQ [3,5] ?_
 refine Yc ?_
 refine zQ [3,5,6] ?_
 refine Zs (t:=(a0 == 8)) rfl (fun c2 => ?_) (fun c2 => ?_)
 ·replace h:=Zr c2 h
  refine zQ [4] ?_
  refine zW ?_
  have h:=Option.some.inj h;subst h
  refine Zi (.inr rfl) hU [(vB (a1.Kind != 0))] (by omega) ?_
  simp only [push_cast,seval,↓reduceIte,Zb,Tryz.results279,hN0,hN]
 replace h:=Zq c2 h
 refine zQ [3,11] ?_
 refine Zs (t:=(a0 == 9)) rfl (fun c1 => ?_) (fun c1 => ?_)
 ·replace h:=Zr c1 h
  refine zQD [4] [none,none,none,none,none,none,none,none,none,none,none,none,none,none,none] ?_
  refine zW ?_
  have h:=Option.some.inj h;subst h
  refine Zi (.inr rfl) hU [(vB (cond (a1.Kind == 2) true (cond (cond (a1.Kind == 1) (a1.Old.Kind == 1) false) (a1.New.Kind == 1) false)))] (by omega) ?_
  simp only [push_cast,seval,↓reduceIte,Zb,Tryz.results279,hN0,hN]
 replace h:=Zq c1 h
 refine Jh [] [false] ?_
 refine zQ [4] ?_
 refine zW ?_
 have h:=Option.some.inj h;subst h
 refine Zi (.inr rfl) hU [(vB false)] (by omega) ?_
 simp only [push_cast,seval,↓reduceIte,Zb,Tryz.results279,hN0,hN]
theorem Zpo {a0:Zt} {r:Int} {O:Objs} {n:Nat} (h:Zcy a0=some r):GTo Tryz.prog 280 [.agg (Y4 a0)] O n ((vI r)) O n:=by
 unfold Zcy at h
 refine Yo Zv Tryz.call280 Tryz.func280 rfl (Nat.le_of_ble_eq_true rfl) (Nat.le_refl _) fun hU => ?_
 have hN0:O n=none:=hU.fresh _ (Nat.le_refl _)
 have hN:∀ k,O (n+k)=none:=fun k=>hU.fresh _ (Nat.le_add_right _ _)
 show W _ _ _ _ ⟨19,[],[(0,.agg (Y4 a0))]⟩ (Z0 O n []) _
 refine zQ [1] ?_
 refine Zd ?_
 refine zQ [1,4] ?_
 refine Yc ?_
 refine zQ [1,4,5] ?_
 refine Zs (t:=(a0.Kind == 0)) rfl (fun c5 => ?_) (fun c5 => ?_)
 ·replace h:=Zr c5 h
  refine zQ [2] ?_
  refine zW ?_
  have h:=Option.some.inj h;subst h
  refine Zi (.inr rfl) hU [(vI (if 1048576 < (if a0.N < 0 then 0 else a0.N) then 1048576 else (if a0.N < 0 then 0 else a0.N)))] (by omega) ?_
  simp only [push_cast,seval,↓reduceIte,Zb,Tryz.results280,hN0,hN]
 replace h:=Zq c5 h
 obtain ⟨z1,hz1,h⟩:=bC h
 refine Y8 (E':=⟨19,[],[(1,.ref n 0),(4,(vI a0.Kind)),(11,(vB z1))]⟩) (O':=(Z0 O n [some ⟨false,89,14,1,(Y4 a0)⟩])) (n0:=(n+1)) ?_ ?_
 ·refine zQ [1,4,11] ?_
  refine Zs (t:=(a0.Kind == 1)) rfl (fun c2 => ?_) (fun c2 => ?_)
  ·replace hz1:=Zr c2 hz1
   refine zK ?_
   exact zEn hz1
  replace hz1:=Zq c2 hz1
  refine zR ?_
  exact zEn hz1
 refine Zs (t:=z1) rfl (fun c4 => ?_) (fun c4 => ?_)
 ·replace h:=Zr c4 h
  refine zQ [2] ?_
  refine zW ?_
  have h:=Option.some.inj h;subst h
  refine Zi (.inr rfl) hU [(vI (a0.L.length:Int))] (by omega) ?_
  simp only [push_cast,seval,↓reduceIte,Zb,Tryz.results280,hN0,hN]
 replace h:=Zq c4 h
 refine zQ [17] ?_
 refine Zs (t:=(a0.Kind == 3)) rfl (fun c3 => ?_) (fun c3 => ?_)
 ·replace h:=Zr c3 h
  refine zQ [2] ?_
  refine zW ?_
  have h:=Option.some.inj h;subst h
  refine Zi (.inr rfl) hU [(vI 1)] (by omega) ?_
  simp only [push_cast,seval,↓reduceIte,Zb,Tryz.results280,hN0,hN]
 replace h:=Zq c3 h
 refine Jh [] [false] ?_
 refine zQ [2] ?_
 refine zW ?_
 have h:=Option.some.inj h;subst h
 refine Zi (.inr rfl) hU [(vI 0)] (by omega) ?_
 simp only [push_cast,seval,↓reduceIte,Zb,Tryz.results280,hN0,hN]
theorem Zyj {a0:Zh} {r:(Int×Int)} {O:Objs} {n:Nat} (h:Ze6 a0=some r):GTo Tryz.prog 231 [.agg (Zm a0)] O n (.tup [(vI r.1),(vI r.2)]) O n:=by
 unfold Ze6 at h
 refine Yo Zv Tryz.call231 Tryz.func231 rfl (Nat.le_of_ble_eq_true rfl) (Nat.le_refl _) fun hU => ?_
 have hN0:O n=none:=hU.fresh _ (Nat.le_refl _)
 have hN:∀ k,O (n+k)=none:=fun k=>hU.fresh _ (Nat.le_add_right _ _)
 show W _ _ _ _ ⟨34,[],[(0,.agg (Zm a0))]⟩ (Z0 O n []) _
 refine zQ [1] ?_
 refine zQ [1,4,5] ?_
 refine Zd ?_
 refine zQd [4,5,9,10,11] [4,5,9,10,11] [false] ?_
 obtain ⟨z10,hz10,h⟩:=bC h
 refine Y3 (E':=⟨34,[],[(4,(vI z10.1)),(5,(vI z10.2))]⟩) (O':=(Z0 O n [none])) (n0:=(n+1)) ?_ ?_
 ·refine Xf hz10 (fun s0_=>⟨34,[],[(4,(vI s0_.1)),(5,(vI s0_.2.1)),(9,(sL Zz a0.Ops)),(10,(vI (a0.Ops.length:Int))),(11,(vI s0_.2.2))]⟩) (fun s0_=>(Z0 O n [none])) (fun z10=>JX 0 n (⟨34,[],[(4,(vI z10.1)),(5,(vI z10.2))]⟩:Env) (Z0 O n [none]) (n+1)) ?_
  intro s0_ x0_ hs0_
  unfold Zbc at hs0_
  try dsimp only
  refine zQ [4,5,9,10,11,12] ?_
  refine Zd ?_
  refine Zs (t:=(decide (s0_.2.2 < (a0.Ops.length:Int)))) rfl (fun c9 => ?_) (fun c9 => ?_)
  ·replace hs0_:=Zr c9 hs0_
   refine Jh [4,5,9,10,11] [false] ?_
   obtain ⟨z1,hz1,hs0_⟩:=bC hs0_
   refine Y8 (E':=⟨34,[],[(4,(vI z1.1)),(5,(vI z1.2)),(9,(sL Zz a0.Ops)),(10,(vI (a0.Ops.length:Int))),(11,(vI s0_.2.2))]⟩) (O':=(Z0 O n [none,none])) (n0:=(n+2)) ?_ ?_
   ·refine Yc ?_
    refine Zd ?_
    obtain ⟨x3,hx3,ax3,bx3,cx3,hz1⟩:=bE (f:=Zz) Zmj (fun _=>rfl) (by decide) hz1
    refine Zec [] ax3 bx3 cx3 ?_
    refine zD [4,5,7,9,10,11] [false,true] ?_
    obtain ⟨z4,hz4,hz1⟩:=bC hz1
    refine Y8 (E':=⟨34,[],[(4,(vI z4)),(5,(vI s0_.2.1)),(7,.ref (n+1) 0),(9,(sL Zz a0.Ops)),(10,(vI (a0.Ops.length:Int))),(11,(vI s0_.2.2))]⟩) (O':=(Z0 O n [none,some ⟨false,89,14,1,(Y4 x3)⟩])) (n0:=(n+2)) ?_ ?_
    ·refine zQ [4,5,7,9,10,11,17] ?_
     refine Zs (t:=(x3.Kind != 2)) rfl (fun c6 => ?_) (fun c6 => ?_)
     ·replace hz4:=Zr c6 hz4
      obtain ⟨y5,hy5,hz4⟩:=bC hz4
      refine zC (Zpo hy5) ?_
      exact zEn hz4
     replace hz4:=Zq c6 hz4
     refine zK ?_
     exact zEn hz4
    refine zQ [4,5,7,9,10,11,25] ?_
    refine Zs (t:=(x3.Kind != 1)) rfl (fun c8 => ?_) (fun c8 => ?_)
    ·replace hz1:=Zr c8 hz1
     obtain ⟨y7,hy7,hz1⟩:=bC hz1
     refine zC (Zpo hy7) ?_
     exact zEn hz1
    replace hz1:=Zq c8 hz1
    refine zK ?_
    exact zEn hz1
   refine zR ?_
   exact zEn hs0_
  replace hs0_:=Zq c9 hs0_
  exact zEx hs0_
 try simp only [Xc,Yp,↓reduceIte,Nat.reduceEqDiff]
 refine zD [4,5] [false] ?_
 refine zQ [2,3] ?_
 refine zW ?_
 have h:=Option.some.inj h;subst h
 refine Zi (.inr rfl) hU [(vI z10.1),(vI z10.2)] (by omega) ?_
 simp only [push_cast,seval,↓reduceIte,Zb,Tryz.results231,hN0,hN]
def U5 (Yy:(Zh→Option Bool)):Prop:=∀ {a0:Zh} {r:Bool} {O:Objs} {n:Nat},Yy a0=some r→GTo Tryz.prog 59 [.agg (Zm a0)] O n ((vB r)) O n
def U7 (Yt:(Zh→Int→Option Bool)):Prop:=∀ {a0:Zh} {a1:Int} {r:Bool} {O:Objs} {n:Nat},Yt a0 a1=some r→GTo Tryz.prog 104 [.agg (Zm a0),(vI a1)] O n ((vB r)) O n
def Jy (Yd:((List Zn)→Int→Option Bool)):Prop:=∀ {a0:(List Zn)} {a1:Int} {r:Bool} {O:Objs} {n:Nat},Yd a0 a1=some r→GTo Tryz.prog 169 [(sL Zo a0),(vI a1)] O n ((vB r)) O n
def Ku (Yj:(Zh→Int→Option Bool)):Prop:=∀ {a0:Zh} {a1:Int} {r:Bool} {O:Objs} {n:Nat},Yj a0 a1=some r→GTo Tryz.prog 170 [.agg (Zm a0),(vI a1)] O n ((vB r)) O n
def Vk (Yk:(Int→Zt→Int→Option Bool)):Prop:=∀ {a0:Int} {a1:Zt} {a2:Int} {r:Bool} {O:Objs} {n:Nat},Yk a0 a1 a2=some r→GTo Tryz.prog 230 [(vI a0),.agg (Y4 a1),(vI a2)] O n ((vB r)) O n
def Jz (Ya:(Bool→Bool→Bool→Zt→Option Bool)):Prop:=∀ {a0:Bool} {a1:Bool} {a2:Bool} {a3:Zt} {r:Bool} {O:Objs} {n:Nat},Ya a0 a1 a2 a3=some r→GTo Tryz.prog 278 [(vB a0),(vB a1),(vB a2),.ip (Y4 a3) 0] O n ((vB r)) O n
theorem Z2g {Yy:(Zh→Option Bool)} {Yt:(Zh→Int→Option Bool)} {Yd:((List Zn)→Int→Option Bool)} {Yj:(Zh→Int→Option Bool)} {Yk:(Int→Zt→Int→Option Bool)} {Ya:(Bool→Bool→Bool→Zt→Option Bool)} (Kr:U5 Yy) (Vq:U7 Yt) (Vp:Jy Yd) (V8:Ku Yj) (Ux:Vk Yk) (Xm:Jz Ya) {a0:Zh} {r:Bool} {O:Objs} {n:Nat} (h:Zho Yy Yt Yd Yj Yk Ya a0=some r):GTo Tryz.prog 59 [.agg (Zm a0)] O n ((vB r)) O n:=by
 unfold Zho at h
 refine Yo Zv Tryz.call59 Tryz.func59 rfl (Nat.le_of_ble_eq_true rfl) (Nat.le_refl _) fun hU => ?_
 have hN0:O n=none:=hU.fresh _ (Nat.le_refl _)
 have hN:∀ k,O (n+k)=none:=fun k=>hU.fresh _ (Nat.le_add_right _ _)
 show W _ _ _ _ ⟨5,[],[(0,.agg (Zm a0))]⟩ (Z0 O n []) _
 refine zQ [1] ?_
 refine Zd ?_
 obtain ⟨y2,hy2,h⟩:=bC h
 refine zCd (Vq hy2) [2] [false] ?_
 refine zW ?_
 have h:=Option.some.inj h;subst h
 refine Zi (.inr rfl) hU [(vB y2)] (by omega) ?_
 simp only [push_cast,seval,↓reduceIte,Zb,Tryz.results59,hN0,hN]
theorem Z2h {Yy:(Zh→Option Bool)} {Yt:(Zh→Int→Option Bool)} {Yd:((List Zn)→Int→Option Bool)} {Yj:(Zh→Int→Option Bool)} {Yk:(Int→Zt→Int→Option Bool)} {Ya:(Bool→Bool→Bool→Zt→Option Bool)} (Kr:U5 Yy) (Vq:U7 Yt) (Vp:Jy Yd) (V8:Ku Yj) (Ux:Vk Yk) (Xm:Jz Ya) {a0:Zh} {a1:Int} {r:Bool} {O:Objs} {n:Nat} (h:Zhp Yy Yt Yd Yj Yk Ya a0 a1=some r):GTo Tryz.prog 104 [.agg (Zm a0),(vI a1)] O n ((vB r)) O n:=by
 unfold Zhp at h
 refine Yo Zv Tryz.call104 Tryz.func104 rfl (Nat.le_of_ble_eq_true rfl) (Nat.le_refl _) fun hU => ?_
 have hN0:O n=none:=hU.fresh _ (Nat.le_refl _)
 have hN:∀ k,O (n+k)=none:=fun k=>hU.fresh _ (Nat.le_add_right _ _)
 show W _ _ _ _ ⟨55,[],[(0,.agg (Zm a0)),(1,(vI a1))]⟩ (Z0 O n []) _
 refine zQ [1,2] ?_
 refine Zd ?_
 refine zQ [1,2,7] ?_
 refine Zs (t:=(a1 == 0)) rfl (fun c39 => ?_) (fun c39 => ?_)
 ·replace h:=Zr c39 h
  refine zQ [4] ?_
  refine zW ?_
  have h:=Option.some.inj h;subst h
  refine Zi (.inr rfl) hU [(vB false)] (by omega) ?_
  simp only [push_cast,seval,↓reduceIte,Zb,Tryz.results104,hN0,hN]
 replace h:=Zq c39 h
 refine Jh [1,2] [true] ?_
 refine Zdq ⟨55,[],[(1,(vI a1)),(2,.ip (Zm a0) 0)]⟩ (Z0 O n [none]) (Y1 hU rfl rfl ?_) ?_
 ·exact zSe
 refine zQ [1,2,5] ?_
 refine Zd ?_
 refine zQ [1,2,5,10] ?_
 refine Yc ?_
 refine zQ [1,2,5,10,11] ?_
 refine Zs (t:=(a0.Kind == 0)) rfl (fun c38 => ?_) (fun c38 => ?_)
 ·replace h:=Zr c38 h
  refine Zd ?_
  obtain ⟨y2,hy2,h⟩:=bC h
  refine zR ?_
  refine GCalls.argsW ?_ ((Kq hy2).then ?_)
  ·exact zSe
  refine zS ?_
  refine zD [4] [false] ?_
  refine zW ?_
  have h:=Option.some.inj h;subst h
  refine Zi (.inr rfl) hU [(vB y2)] (by omega) ?_
  simp only [push_cast,seval,↓reduceIte,Zb,Tryz.results104,hN0,hN]
 replace h:=Zq c38 h
 refine zQ [1,2,5,10,15] ?_
 refine Zs (t:=(a0.Kind == 1)) rfl (fun c37 => ?_) (fun c37 => ?_)
 ·replace h:=Zr c37 h
  obtain ⟨z6,hz6,h⟩:=bC h
  refine Y8 (E':=⟨55,[],[(4,(vB z6))]⟩) (O':=(Z0 O n [none])) (n0:=(n+1)) ?_ ?_
  ·obtain ⟨y10,hy10,hz6⟩:=bC hz6
   rcases Bool.eq_false_or_eq_true y10 with c13 | c13
   ·replace hz6:=Zr c13 hz6
    obtain ⟨y11,hy11,hz6⟩:=bC hz6
    rcases Bool.eq_false_or_eq_true y11 with Jg | Jg
    ·replace hz6:=Zr Jg hz6
     try rw [Jg] at c13
     obtain ⟨y12,hy12,hz6⟩:=bC hz6
     refine Qf [some true,some true,some true,some true,some true,some true] c13 Jg ?_
     refine GCalls.argsW ?_ ((Kq hy10).then ?_)
     ·exact Ko c13 Jg
     refine zX2 c13 Jg ?_
     refine (Zmr hy11).then ?_
     refine zX2 c13 Jg ?_
     refine (Zmr hy12).then ?_
     refine zX2 c13 Jg ?_
     exact Zbz hz6 c13 Jg
    replace hz6:=Zq Jg hz6
    try rw [Jg] at c13
    refine Qf [some true,some true,some true,some false,some false,some false] c13 Jg ?_
    refine GCalls.argsW ?_ ((Kq hy10).then ?_)
    ·exact Ko c13 Jg
    refine zX2 c13 Jg ?_
    refine (Zmr hy11).then ?_
    refine zX2 c13 Jg ?_
    exact Zbz hz6 c13 Jg
   replace hz6:=Zq c13 hz6
   refine Ks [some false,some false,some false,some false,some false,some false] c13 ?_
   refine GCalls.argsW ?_ ((Kq hy10).then ?_)
   ·exact Z8o c13
   refine zX1 c13 ?_
   exact J7 hz6 c13
  refine zW ?_
  have h:=Option.some.inj h;subst h
  refine Zi (.inr rfl) hU [(vB z6)] (by omega) ?_
  simp only [push_cast,seval,↓reduceIte,Zb,Tryz.results104,hN0,hN]
 replace h:=Zq c37 h
 refine zQ [1,2,5,10,29] ?_
 refine Zs (t:=(a0.Kind == 2)) rfl (fun c36 => ?_) (fun c36 => ?_)
 ·replace h:=Zr c36 h
  obtain ⟨z18,hz18,h⟩:=bC h
  refine Y8 (E':=⟨55,[],[(4,(vB z18))]⟩) (O':=(Z0 O n [none])) (n0:=(n+1)) ?_ ?_
  ·obtain ⟨y22,hy22,hz18⟩:=bC hz18
   rcases Bool.eq_false_or_eq_true y22 with c25 | c25
   ·replace hz18:=Zr c25 hz18
    obtain ⟨y23,hy23,hz18⟩:=bC hz18
    rcases Bool.eq_false_or_eq_true y23 with c26 | c26
    ·replace hz18:=Zr c26 hz18
     try rw [c26] at c25
     obtain ⟨y24,hy24,hz18⟩:=bC hz18
     refine Qf [some true,some true,some true,some true,some true,some true,some true,some true] c25 c26 ?_
     refine GCalls.argsW ?_ ((Kq hy22).then ?_)
     ·exact Ko c25 c26
     refine zX2 c25 c26 ?_
     refine (Zk8 hy23).then ?_
     refine zX2 c25 c26 ?_
     refine (Vp hy24).then ?_
     refine zX2 c25 c26 ?_
     exact Zbz hz18 c25 c26
    replace hz18:=Zq c26 hz18
    try rw [c26] at c25
    refine Qf [some true,some true,some true,some false,some false,some false,some false,some false] c25 c26 ?_
    refine GCalls.argsW ?_ ((Kq hy22).then ?_)
    ·exact Ko c25 c26
    refine zX2 c25 c26 ?_
    refine (Zk8 hy23).then ?_
    refine zX2 c25 c26 ?_
    exact Zbz hz18 c25 c26
   replace hz18:=Zq c25 hz18
   refine Ks [some false,some false,some false,some false,some false,some false,some false,some false] c25 ?_
   refine GCalls.argsW ?_ ((Kq hy22).then ?_)
   ·exact Z8o c25
   refine zX1 c25 ?_
   exact J7 hz18 c25
  refine zW ?_
  have h:=Option.some.inj h;subst h
  refine Zi (.inr rfl) hU [(vB z18)] (by omega) ?_
  simp only [push_cast,seval,↓reduceIte,Zb,Tryz.results104,hN0,hN]
 replace h:=Zq c36 h
 refine zQ [1,2,5,45] ?_
 refine Zs (t:=(a0.Kind == 3)) rfl (fun c35 => ?_) (fun c35 => ?_)
 ·replace h:=Zr c35 h
  obtain ⟨z29,hz29,h⟩:=bC h
  refine Y8 (E':=⟨55,[],[(4,(vB z29))]⟩) (O':=(Z0 O n [none])) (n0:=(n+1)) ?_ ?_
  ·obtain ⟨y32,hy32,hz29⟩:=bC hz29
   rcases Bool.eq_false_or_eq_true y32 with c34 | c34
   ·replace hz29:=Zr c34 hz29
    obtain ⟨y33,hy33,hz29⟩:=bC hz29
    refine Ks [some true,some true,some true,some true] c34 ?_
    refine GCalls.argsW ?_ ((Kq hy32).then ?_)
    ·exact Z8o c34
    refine zX1 c34 ?_
    refine (V8 hy33).then ?_
    refine zX1 c34 ?_
    exact J7 hz29 c34
   replace hz29:=Zq c34 hz29
   refine Ks [some false,some false,some false,some false] c34 ?_
   refine GCalls.argsW ?_ ((Kq hy32).then ?_)
   ·exact Z8o c34
   refine zX1 c34 ?_
   exact J7 hz29 c34
  refine zW ?_
  have h:=Option.some.inj h;subst h
  refine Zi (.inr rfl) hU [(vB z29)] (by omega) ?_
  simp only [push_cast,seval,↓reduceIte,Zb,Tryz.results104,hN0,hN]
 replace h:=Zq c35 h
 refine Jh [] [false] ?_
 refine zQ [4] ?_
 refine zW ?_
 have h:=Option.some.inj h;subst h
 refine Zi (.inr rfl) hU [(vB false)] (by omega) ?_
 simp only [push_cast,seval,↓reduceIte,Zb,Tryz.results104,hN0,hN]
theorem Zso {Yy:(Zh→Option Bool)} {Yt:(Zh→Int→Option Bool)} {Yd:((List Zn)→Int→Option Bool)} {Yj:(Zh→Int→Option Bool)} {Yk:(Int→Zt→Int→Option Bool)} {Ya:(Bool→Bool→Bool→Zt→Option Bool)} (Kr:U5 Yy) (Vq:U7 Yt) (Vp:Jy Yd) (V8:Ku Yj) (Ux:Vk Yk) (Xm:Jz Ya) {a0:(List Zn)} {a1:Int} {r:Bool} {O:Objs} {n:Nat} (h:Zcn Yy Yt Yd Yj Yk Ya a0 a1=some r):GTo Tryz.prog 169 [(sL Zo a0),(vI a1)] O n ((vB r)) O n:=by
 unfold Zcn at h
 refine Yo Zv Tryz.call169 Tryz.func169 rfl (Nat.le_of_ble_eq_true rfl) (Nat.le_refl _) fun hU => ?_
 have hN0:O n=none:=hU.fresh _ (Nat.le_refl _)
 have hN:∀ k,O (n+k)=none:=fun k=>hU.fresh _ (Nat.le_add_right _ _)
 show W _ _ _ _ ⟨39,[],[(0,(sL Zo a0)),(1,(vI a1))]⟩ (Z0 O n []) _
 refine zQ [0,1] ?_
 refine zQ [0,1,5] ?_
 refine Zd ?_
 refine zQd [1,5,8,9,10] [1,5,8,9,10] [] ?_
 obtain ⟨z12,hz12,h⟩:=bC h
 refine Zgq (J:=(Ju (fun z12=>JR n (⟨39,[],[(4,(vB false))]⟩:Env) (Z0 O n []) n) (fun z12=>JX 0 n (⟨39,[],[]⟩:Env) (Z0 O n []) n))) (z:=z12) ?_ fun hw => ?_
 ·refine Xf hz12 (fun s0_=>⟨39,[],[(1,(vI a1)),(5,(vI s0_.1)),(8,(sL Zo a0)),(9,(vI (a0.length:Int))),(10,(vI s0_.2))]⟩) (fun s0_=>(Z0 O n [])) (Ju (fun z12=>JR n (⟨39,[],[(4,(vB false))]⟩:Env) (Z0 O n []) n) (fun z12=>JX 0 n (⟨39,[],[]⟩:Env) (Z0 O n []) n)) ?_
  intro s0_ x0_ hs0_
  unfold U8 at hs0_
  try dsimp only
  refine zQ [1,5,8,9,10,11] ?_
  refine Zd ?_
  refine Zs (t:=(decide (s0_.2 < (a0.length:Int)))) rfl (fun c11 => ?_) (fun c11 => ?_)
  ·replace hs0_:=Zr c11 hs0_
   refine Jh [1,5,8,9,10] [] ?_
   refine Zd ?_
   refine Yc ?_
   refine Zd ?_
   obtain ⟨x2,hx2,ax2,bx2,cx2,hs0_⟩:=bE (f:=Zo) Zsd (fun _=>rfl) (by decide) hs0_
   refine Zec [] ax2 bx2 cx2 ?_
   refine zDs [1,5,7,8,9,10] [true] ?_
   obtain ⟨z4,hz4,hs0_⟩:=bC hs0_
   refine Y8 (E':=⟨39,[],[(1,(vI a1)),(7,.ref n 0),(8,(sL Zo a0)),(9,(vI (a0.length:Int))),(10,(vI s0_.2)),(35,(vB z4))]⟩) (O':=(Z0 O n [some ⟨false,86,12,1,(Kp x2)⟩])) (n0:=(n+1)) ?_ ?_
   ·rcases Bool.eq_false_or_eq_true (decide (x2.At≤s0_.1)) with c7 | c7
    ·replace hz4:=Zr c7 hz4
     refine Ks [none,none,none,none,none,none,none,some false,some false,some false,some false,some false] c7 ?_
     refine zG ?_
     exact J7 hz4 c7
    replace hz4:=Zq c7 hz4
    rcases Bool.eq_false_or_eq_true (decide (65534 < x2.At)) with c8 | c8
    ·replace hz4:=Zr c8 hz4
     try rw [c8] at c7
     refine Qf [none,none,none,none,none,none,none,some false,some false,some false,some false,some false] c7 c8 ?_
     refine zG ?_
     exact Zbz hz4 c7 c8
    replace hz4:=Zq c8 hz4
    try rw [c8] at c7
    rcases Bool.eq_false_or_eq_true (x2.E.Kind == 0) with c9 | c9
    ·replace hz4:=Zr c9 hz4
     try rw [c9] at c7
     try rw [c9] at c8
     refine Zhd [none,none,none,none,none,none,none,some false,some false,some false,some false,some false] c7 c8 c9 ?_
     refine zG ?_
     exact Zj3 hz4 c7 c8 c9
    replace hz4:=Zq c9 hz4
    try rw [c9] at c7
    try rw [c9] at c8
    obtain ⟨y6,hy6,hz4⟩:=bC hz4
    refine Zhd [none,none,none,none,none,none,none,some true,some true,some true,some true,some true] c7 c8 c9 ?_
    refine zG ?_
    refine (Vq hy6).then ?_
    refine zX3 c7 c8 c9 ?_
    refine zG ?_
    exact Zj3 hz4 c7 c8 c9
   refine Zs (t:=z4) rfl (fun c10 => ?_) (fun c10 => ?_)
   ·replace hs0_:=Zr c10 hs0_
    refine zQ [4] ?_
    refine zW ?_
    exact zEy hs0_
   replace hs0_:=Zq c10 hs0_
   refine Jh [1,7,8,9,10] [true] ?_
   refine zRd [1,5,8,9,10] [false] ?_
   refine zR ?_
   exact zEn hs0_
  replace hs0_:=Zq c11 hs0_
  exact zEx hs0_
 rcases z12 with z12 | z12
 ·dsimp only [Ju] at hw h
  refine Gx hw ?_
  try simp only [Xc,Yp,↓reduceIte,Nat.reduceEqDiff]
  have h:=Option.some.inj h;subst h
  refine Zi (.inr rfl) hU [(vB false)] (by omega) ?_
  simp only [push_cast,seval,↓reduceIte,Zb,Tryz.results169,hN0,hN]
 dsimp only [Ju] at hw h
 refine Y3 hw ?_
 try simp only [Xc,Yp,↓reduceIte,Nat.reduceEqDiff]
 refine zD [] [] ?_
 refine zQ [4] ?_
 refine zW ?_
 have h:=Option.some.inj h;subst h
 refine Zi (.inr rfl) hU [(vB true)] (by omega) ?_
 simp only [push_cast,seval,↓reduceIte,Zb,Tryz.results169,hN0,hN]
theorem Zuc {Yy:(Zh→Option Bool)} {Yt:(Zh→Int→Option Bool)} {Yd:((List Zn)→Int→Option Bool)} {Yj:(Zh→Int→Option Bool)} {Yk:(Int→Zt→Int→Option Bool)} {Ya:(Bool→Bool→Bool→Zt→Option Bool)} (Kr:U5 Yy) (Vq:U7 Yt) (Vp:Jy Yd) (V8:Ku Yj) (Ux:Vk Yk) (Xm:Jz Ya) {a0:Zh} {a1:Int} {r:Bool} {O:Objs} {n:Nat} (h:Zds Yy Yt Yd Yj Yk Ya a0 a1=some r):GTo Tryz.prog 170 [.agg (Zm a0),(vI a1)] O n ((vB r)) O n:=by
 unfold Zds at h
 refine Yo Zv Tryz.call170 Tryz.func170 rfl (Nat.le_of_ble_eq_true rfl) (Nat.le_refl _) fun hU => ?_
 have hN0:O n=none:=hU.fresh _ (Nat.le_refl _)
 have hN:∀ k,O (n+k)=none:=fun k=>hU.fresh _ (Nat.le_add_right _ _)
 show W _ _ _ _ ⟨38,[],[(0,.agg (Zm a0)),(1,(vI a1))]⟩ (Z0 O n []) _
 refine zQ [1,2] ?_
 refine Zd ?_
 refine Zd ?_
 obtain ⟨y2,hy2,h⟩:=bC h
 refine zCd (Zt5 hy2) [1,2,12] [true] ?_
 refine Zs (t:=(!y2)) rfl (fun c12 => ?_) (fun c12 => ?_)
 ·replace h:=Zr c12 h
  refine zQ [4] ?_
  refine zW ?_
  have h:=Option.some.inj h;subst h
  refine Zi (.inr rfl) hU [(vB false)] (by omega) ?_
  simp only [push_cast,seval,↓reduceIte,Zb,Tryz.results170,hN0,hN]
 replace h:=Zq c12 h
 refine Jh [1,2] [true] ?_
 refine Zd ?_
 refine zQd [1,2,14,15,16] [1,2,14,15,16] [true] ?_
 obtain ⟨z9,hz9,h⟩:=bC h
 refine Zgq (J:=(Ju (fun z9=>JR n (⟨38,[],[(4,(vB false))]⟩:Env) (Z0 O n [none]) (n+1)) (fun z9=>JX 0 n (⟨38,[],[(2,.ref n 0)]⟩:Env) (Z0 O n [some ⟨false,30,11,1,(Zm a0)⟩]) (n+1)))) (z:=z9) ?_ fun hw => ?_
 ·refine Xf hz9 (fun s0_=>⟨38,[],[(1,(vI a1)),(2,.ref n 0),(14,(sL Zz a0.Ops)),(15,(vI (a0.Ops.length:Int))),(16,(vI s0_))]⟩) (fun s0_=>(Z0 O n [some ⟨false,30,11,1,(Zm a0)⟩])) (Ju (fun z9=>JR n (⟨38,[],[(4,(vB false))]⟩:Env) (Z0 O n [none]) (n+1)) (fun z9=>JX 0 n (⟨38,[],[(2,.ref n 0)]⟩:Env) (Z0 O n [some ⟨false,30,11,1,(Zm a0)⟩]) (n+1))) ?_
  intro s0_ x0_ hs0_
  unfold G4 at hs0_
  try dsimp only
  refine zQ [1,2,14,15,16,17] ?_
  refine Zd ?_
  refine Zs (t:=(decide (s0_ < (a0.Ops.length:Int)))) rfl (fun c8 => ?_) (fun c8 => ?_)
  ·replace hs0_:=Zr c8 hs0_
   refine Jh [1,2,14,15,16] [true] ?_
   refine Zd ?_
   refine Yc ?_
   refine Zd ?_
   obtain ⟨x4,hx4,ax4,bx4,cx4,hs0_⟩:=bE (f:=Zz) Zmj (fun _=>rfl) (by decide) hs0_
   refine Zec [] ax4 bx4 cx4 ?_
   refine zDs [1,2,6,14,15,16] [true,true] ?_
   obtain ⟨y6,hy6,hs0_⟩:=bC hs0_
   refine zCd (Ux hy6) [1,2,14,15,16,25] [true,false] ?_
   refine Zs (t:=(!y6)) rfl (fun c7 => ?_) (fun c7 => ?_)
   ·replace hs0_:=Zr c7 hs0_
    refine zQ [4] ?_
    refine zW ?_
    exact zEy hs0_
   replace hs0_:=Zq c7 hs0_
   refine Jh [1,2,14,15,16] [true,false] ?_
   refine zR ?_
   exact zEn hs0_
  replace hs0_:=Zq c8 hs0_
  exact zEx hs0_
 rcases z9 with z9 | z9
 ·dsimp only [Ju] at hw h
  refine Gx hw ?_
  try simp only [Xc,Yp,↓reduceIte,Nat.reduceEqDiff]
  have h:=Option.some.inj h;subst h
  refine Zi (.inr rfl) hU [(vB false)] (by omega) ?_
  simp only [push_cast,seval,↓reduceIte,Zb,Tryz.results170,hN0,hN]
 dsimp only [Ju] at hw h
 refine Y3 hw ?_
 try simp only [Xc,Yp,↓reduceIte,Nat.reduceEqDiff]
 refine zDs [2] [true] ?_
 obtain ⟨y11,hy11,h⟩:=bC h
 refine zCd (Zyj hy11) [7,8] [false] ?_
 refine zQD [4] [none,none] ?_
 refine zW ?_
 have h:=Option.some.inj h;subst h
 refine Zi (.inr rfl) hU [(vB (cond (decide (y11.1 < 1048576)) (decide (y11.2 < 1048576)) false))] (by omega) ?_
 simp only [push_cast,seval,↓reduceIte,Zb,Tryz.results170,hN0,hN]
theorem Zxm {Yy:(Zh→Option Bool)} {Yt:(Zh→Int→Option Bool)} {Yd:((List Zn)→Int→Option Bool)} {Yj:(Zh→Int→Option Bool)} {Yk:(Int→Zt→Int→Option Bool)} {Ya:(Bool→Bool→Bool→Zt→Option Bool)} (Kr:U5 Yy) (Vq:U7 Yt) (Vp:Jy Yd) (V8:Ku Yj) (Ux:Vk Yk) (Xm:Jz Ya) {a0:Int} {a1:Zt} {a2:Int} {r:Bool} {O:Objs} {n:Nat} (h:Zey Yy Yt Yd Yj Yk Ya a0 a1 a2=some r):GTo Tryz.prog 230 [(vI a0),.agg (Y4 a1),(vI a2)] O n ((vB r)) O n:=by
 unfold Zey at h
 refine Yo Zv Tryz.call230 Tryz.func230 rfl (Nat.le_of_ble_eq_true rfl) (Nat.le_refl _) fun hU => ?_
 have hN0:O n=none:=hU.fresh _ (Nat.le_refl _)
 have hN:∀ k,O (n+k)=none:=fun k=>hU.fresh _ (Nat.le_add_right _ _)
 show W _ _ _ _ ⟨60,[],[(0,(vI a0)),(1,.agg (Y4 a1)),(2,(vI a2))]⟩ (Z0 O n []) _
 refine zQ [0,2,4] ?_
 refine Zdq ⟨60,[],[(0,(vI a0)),(2,(vI a2)),(4,.ip (Y4 a1) 0)]⟩ (Z0 O n [none]) (Y1 hU rfl rfl ?_) ?_
 ·exact zSe
 refine zQ [0,2,4,7] ?_
 refine Zd ?_
 refine zQ [0,2,4,7,10] ?_
 refine Yc ?_
 refine Zd ?_
 refine Yc ?_
 obtain ⟨z1,hz1,h⟩:=bC h
 refine Yl1 (J:=(Ju (fun z1=>JN n (⟨60,[],[(0,(vI a0)),(4,.ip (Y4 a1) 0),(7,.fn 278 0 [.ip (Y4 a1) 0])]⟩:Env) (Z0 O n [none]) (n+1)) (Ju (fun z1=>JR n (⟨60,[],[(6,(vB z1))]⟩:Env) (Z0 O n [none]) (n+1)) (Ju (fun z1=>JX 4 n (⟨60,[],[(0,(vI a0)),(2,(vI a2)),(4,.ip (Y4 a1) 0),(7,.fn 278 0 [.ip (Y4 a1) 0])]⟩:Env) (Z0 O n [none]) (n+1)) (fun z1=>JX 0 n (⟨60,[],[]⟩:Env) (Z0 O n [none]) (n+1)))))) (z:=z1) ?_ fun hw => ?_
 ·refine Yc ?_
  refine Yc ?_
  refine Zd ?_
  refine Yc ?_
  refine Zd ?_
  refine Zd ?_
  refine zQ [0,2,4,7,10,11] ?_
  refine Zs (t:=(a1.Kind == 0)) rfl (fun c7 => ?_) (fun c7 => ?_)
  ·replace hz1:=Zr c7 hz1
   refine zXt ?_
   refine zDs [4,7] [false] ?_
   refine Zd ?_
   obtain ⟨y3,hy3,hz1⟩:=bC hz1
   refine zRo [none,none,none,none,none,none] ?_
   refine zG ?_
   refine GCalls.argsW ?_ ((Xm hy3).then ?_)
   ·exact zSe
   refine zS ?_
   refine zG ?_
   refine zD [6] [false] ?_
   refine zW ?_
   exact zEn hz1
  replace hz1:=Zq c7 hz1
  refine Jh [0,2,4,7,10] [false] ?_
  refine Zd ?_
  refine zQ [0,2,4,7,10,13] ?_
  refine Zs (t:=(a1.Kind == 1)) rfl (fun c6 => ?_) (fun c6 => ?_)
  ·replace hz1:=Zr c6 hz1
   refine zXt ?_
   exact zEn hz1
  replace hz1:=Zq c6 hz1
  refine Jh [0,2,4,7,10] [false] ?_
  refine Zd ?_
  refine zQ [0,2,4,7,10,15] ?_
  refine Zs (t:=(a1.Kind == 2)) rfl (fun c5 => ?_) (fun c5 => ?_)
  ·replace hz1:=Zr c5 hz1
   refine zXt ?_
   exact zEn hz1
  replace hz1:=Zq c5 hz1
  refine Jh [0,2,4,7,10] [false] ?_
  refine zQ [0,2,4,7,17] ?_
  refine Zs (t:=(a1.Kind == 3)) rfl (fun c4 => ?_) (fun c4 => ?_)
  ·replace hz1:=Zr c4 hz1
   refine zXt ?_
   exact zEn hz1
  replace hz1:=Zq c4 hz1
  refine Jh [] [false] ?_
  refine zXt ?_
  exact zEn hz1
 rcases z1 with z1 | z1
 ·dsimp only [Ju] at hw h
  refine Y8 hw ?_
  refine Zd ?_
  obtain ⟨z10,hz10,h⟩:=bC h
  refine Y8 (E':=⟨60,[],[(6,(vB z10))]⟩) (O':=(Z0 O n [none])) (n0:=(n+1)) ?_ ?_
  ·obtain ⟨y13,hy13,hz10⟩:=bC hz10
   rcases Bool.eq_false_or_eq_true y13 with c15 | c15
   ·replace hz10:=Zr c15 hz10
    rcases Bool.eq_false_or_eq_true (decide (0 < (a1.L.length:Int))) with c16 | c16
    ·replace hz10:=Zr c16 hz10
     try rw [c16] at c15
     obtain ⟨y14,hy14,hz10⟩:=bC hz10
     refine Qf [none,none,none,none,some true,some true,some true,some true,some true] c15 c16 ?_
     refine zG ?_
     refine GCalls.argsW ?_ ((Xm hy13).then ?_)
     ·exact Ko c15 c16
     refine zX2 c15 c16 ?_
     refine zG ?_
     refine GCalls.argsW ?_ ((Zmu hy14).then ?_)
     ·exact Ko c15 c16
     refine zX2 c15 c16 ?_
     refine zG ?_
     exact Zbz hz10 c15 c16
    replace hz10:=Zq c16 hz10
    try rw [c16] at c15
    refine Qf [none,none,none,none,some false,some false,some false,some false,some false] c15 c16 ?_
    refine zG ?_
    refine GCalls.argsW ?_ ((Xm hy13).then ?_)
    ·exact Ko c15 c16
    refine zX2 c15 c16 ?_
    refine zG ?_
    exact Zbz hz10 c15 c16
   replace hz10:=Zq c15 hz10
   refine Ks [none,none,none,none,some false,some false,some false,some false,some false] c15 ?_
   refine zG ?_
   refine GCalls.argsW ?_ ((Xm hy13).then ?_)
   ·exact Z8o c15
   refine zX1 c15 ?_
   refine zG ?_
   exact J7 hz10 c15
  refine zW ?_
  have h:=Option.some.inj h;subst h
  refine Zi (.inr rfl) hU [(vB z10)] (by omega) ?_
  simp only [push_cast,seval,↓reduceIte,Zb,Tryz.results230,hN0,hN]
 rcases z1 with z1 | z1
 ·dsimp only [Ju] at hw h
  refine Ykx hw ?_
  try simp only [Xc,Yp]
  have h:=Option.some.inj h;subst h
  refine Zi (.inr rfl) hU [(vB z1)] (by omega) ?_
  simp only [push_cast,seval,↓reduceIte,Zb,Tryz.results230,hN0,hN]
 rcases z1 with z1 | z1
 ·dsimp only [Ju] at hw h
  refine Yfn hw ?_
  try simp only [Xc,Yp,↓reduceIte,Nat.reduceEqDiff]
  refine zDs [0,2,4,7] [false] ?_
  obtain ⟨z20,hz20,h⟩:=bC h
  refine Y8 (E':=⟨60,[],[(6,(vB z20))]⟩) (O':=(Z0 O n [none])) (n0:=(n+1)) ?_ ?_
  ·obtain ⟨y24,hy24,hz20⟩:=bC hz20
   rcases Bool.eq_false_or_eq_true y24 with c27 | c27
   ·replace hz20:=Zr c27 hz20
    obtain ⟨y25,hy25,hz20⟩:=bC hz20
    rcases Bool.eq_false_or_eq_true y25 with c28 | c28
    ·replace hz20:=Zr c28 hz20
     try rw [c28] at c27
     obtain ⟨y26,hy26,hz20⟩:=bC hz20
     refine Qf [some true,some true,some true,some true,some true,some true,some true,some true] c27 c28 ?_
     refine GCalls.argsW ?_ ((Xm hy24).then ?_)
     ·exact Ko c27 c28
     refine zX2 c27 c28 ?_
     refine (Zng hy25).then ?_
     refine zX2 c27 c28 ?_
     refine (Vq hy26).then ?_
     refine zX2 c27 c28 ?_
     exact Zbz hz20 c27 c28
    replace hz20:=Zq c28 hz20
    try rw [c28] at c27
    refine Qf [some true,some true,some true,some true,some false,some false,some false,some false] c27 c28 ?_
    refine GCalls.argsW ?_ ((Xm hy24).then ?_)
    ·exact Ko c27 c28
    refine zX2 c27 c28 ?_
    refine (Zng hy25).then ?_
    refine zX2 c27 c28 ?_
    exact Zbz hz20 c27 c28
   replace hz20:=Zq c27 hz20
   refine Ks [some false,some false,some false,some false,some false,some false,some false,some false] c27 ?_
   refine GCalls.argsW ?_ ((Xm hy24).then ?_)
   ·exact Z8o c27
   refine zX1 c27 ?_
   exact J7 hz20 c27
  refine zW ?_
  have h:=Option.some.inj h;subst h
  refine Zi (.inr rfl) hU [(vB z20)] (by omega) ?_
  simp only [push_cast,seval,↓reduceIte,Zb,Tryz.results230,hN0,hN]
 dsimp only [Ju] at hw h
 refine Yfn hw ?_
 try simp only [Xc,Yp,↓reduceIte,Nat.reduceEqDiff]
 refine zD [] [false] ?_
 refine zQ [6] ?_
 refine zW ?_
 have h:=Option.some.inj h;subst h
 refine Zi (.inr rfl) hU [(vB false)] (by omega) ?_
 simp only [push_cast,seval,↓reduceIte,Zb,Tryz.results230,hN0,hN]
theorem Zsp {Yy:(Zh→Option Bool)} {Yt:(Zh→Int→Option Bool)} {Yd:((List Zn)→Int→Option Bool)} {Yj:(Zh→Int→Option Bool)} {Yk:(Int→Zt→Int→Option Bool)} {Ya:(Bool→Bool→Bool→Zt→Option Bool)} (Kr:U5 Yy) (Vq:U7 Yt) (Vp:Jy Yd) (V8:Ku Yj) (Ux:Vk Yk) (Xm:Jz Ya) {a0:Bool} {a1:Bool} {a2:Bool} {a3:Zt} {r:Bool} {O:Objs} {n:Nat} (h:Zco Yy Yt Yd Yj Yk Ya a0 a1 a2 a3=some r):GTo Tryz.prog 278 [(vB a0),(vB a1),(vB a2),.ip (Y4 a3) 0] O n ((vB r)) O n:=by
 unfold Zco at h
 refine Yo Zv Tryz.call278 Tryz.func278 rfl (Nat.le_of_ble_eq_true rfl) (Nat.le_refl _) fun hU => ?_
 have hN0:O n=none:=hU.fresh _ (Nat.le_refl _)
 have hN:∀ k,O (n+k)=none:=fun k=>hU.fresh _ (Nat.le_add_right _ _)
 show W _ _ _ _ ⟨41,[],[(0,(vB a0)),(1,(vB a1)),(2,(vB a2)),(3,.ip (Y4 a3) 0)]⟩ (Z0 O n []) _
 refine zQ [0,1,2,3] ?_
 obtain ⟨z5,hz5,h⟩:=bC h
 refine Y8 (E':=⟨41,[],[(7,(vB z5))]⟩) (O':=(Z0 O n [])) (n0:=n) ?_ ?_
 ·rcases Bool.eq_false_or_eq_true a0 with Jg | Jg
  ·replace hz5:=Zr Jg hz5
   rcases Bool.eq_false_or_eq_true (a3.N != 0) with c15 | c15
   ·replace hz5:=Zr c15 hz5
    try rw [c15] at Jg
    refine Qf [none,none,none,none,none,none,none,none,none,none,none,some false,some false,some false,some false,some false,some false,some false,some false,some false,some false,some false,some false,some false,some false] Jg c15 ?_
    refine zG ?_
    exact Zbz hz5 Jg c15
   replace hz5:=Zq c15 hz5
   try rw [c15] at Jg
   rcases Bool.eq_false_or_eq_true a1 with c16 | c16
   ·replace hz5:=Zr c16 hz5
    try rw [c16] at Jg
    try rw [c16] at c15
    rcases Bool.eq_false_or_eq_true (decide (0 < (a3.L.length:Int))) with c17 | c17
    ·replace hz5:=Zr c17 hz5
     try rw [c17] at Jg
     try rw [c17] at c15
     try rw [c17] at c16
     refine Zqr [none,none,none,none,none,none,none,none,none,none,none,some false,some false,some false,some false,some false,some false,some false,some false,some false,some false,some false,some false,some false,some false] Jg c15 c16 c17 ?_
     refine zG ?_
     exact Zqq hz5 Jg c15 c16 c17
    replace hz5:=Zq c17 hz5
    try rw [c17] at Jg
    try rw [c17] at c15
    try rw [c17] at c16
    rcases Bool.eq_false_or_eq_true a2 with Uj | Uj
    ·replace hz5:=Zr Uj hz5
     try rw [Uj] at Jg
     try rw [Uj] at c15
     try rw [Uj] at c16
     try rw [Uj] at c17
     rcases Bool.eq_false_or_eq_true (a3.E.Kind != 0) with c19 | c19
     ·replace hz5:=Zr c19 hz5
      try rw [c19] at Jg
      try rw [c19] at c15
      try rw [c19] at c16
      try rw [c19] at c17
      try rw [c19] at Uj
      refine Yku [none,none,none,none,none,none,none,none,none,none,none,some true,some true,some true,some true,some true,some true,some true,some false,some false,some false,some false,some true,some true,some true] Jg c15 c16 c17 Uj c19 ?_
      refine zG ?_
      exact Yks hz5 Jg c15 c16 c17 Uj c19
     replace hz5:=Zq c19 hz5
     try rw [c19] at Jg
     try rw [c19] at c15
     try rw [c19] at c16
     try rw [c19] at c17
     try rw [c19] at Uj
     obtain ⟨y10,hy10,hz5⟩:=bC hz5
     refine Yku [none,none,none,none,none,none,none,none,none,none,none,some true,some true,some true,some true,some true,some true,some true,some true,some true,some true,some true,some true,some true,some true] Jg c15 c16 c17 Uj c19 ?_
     refine zG ?_
     refine (Kr hy10).then ?_
     refine zX6 Jg c15 c16 c17 Uj c19 ?_
     refine zG ?_
     exact Yks hz5 Jg c15 c16 c17 Uj c19
    replace hz5:=Zq Uj hz5
    try rw [Uj] at Jg
    try rw [Uj] at c15
    try rw [Uj] at c16
    try rw [Uj] at c17
    refine Yau [none,none,none,none,none,none,none,none,none,none,none,some true,some true,some false,some false,some false,some false,some false,some false,some false,some false,some false,some false,some true,some true] Jg c15 c16 c17 Uj ?_
    refine zG ?_
    exact Z4q hz5 Jg c15 c16 c17 Uj
   replace hz5:=Zq c16 hz5
   try rw [c16] at Jg
   try rw [c16] at c15
   rcases Bool.eq_false_or_eq_true a2 with c20 | c20
   ·replace hz5:=Zr c20 hz5
    try rw [c20] at Jg
    try rw [c20] at c15
    try rw [c20] at c16
    rcases Bool.eq_false_or_eq_true (a3.E.Kind != 0) with c21 | c21
    ·replace hz5:=Zr c21 hz5
     try rw [c21] at Jg
     try rw [c21] at c15
     try rw [c21] at c16
     try rw [c21] at c20
     refine Yau [none,none,none,none,none,none,none,none,none,none,none,some true,some true,some true,some true,some true,some true,some true,some false,some false,some false,some false,some true,some true,some true] Jg c15 c16 c20 c21 ?_
     refine zG ?_
     exact Z4q hz5 Jg c15 c16 c20 c21
    replace hz5:=Zq c21 hz5
    try rw [c21] at Jg
    try rw [c21] at c15
    try rw [c21] at c16
    try rw [c21] at c20
    obtain ⟨y11,hy11,hz5⟩:=bC hz5
    refine Yau [none,none,none,none,none,none,none,none,none,none,none,some true,some true,some true,some true,some true,some true,some true,some true,some true,some true,some true,some true,some true,some true] Jg c15 c16 c20 c21 ?_
    refine zG ?_
    refine (Kr hy11).then ?_
    refine zX5 Jg c15 c16 c20 c21 ?_
    refine zG ?_
    exact Z4q hz5 Jg c15 c16 c20 c21
   replace hz5:=Zq c20 hz5
   try rw [c20] at Jg
   try rw [c20] at c15
   try rw [c20] at c16
   refine Zqr [none,none,none,none,none,none,none,none,none,none,none,some true,some true,some false,some false,some false,some false,some false,some false,some false,some false,some false,some false,some true,some true] Jg c15 c16 c20 ?_
   refine zG ?_
   exact Zqq hz5 Jg c15 c16 c20
  replace hz5:=Zq Jg hz5
  rcases Bool.eq_false_or_eq_true a1 with c22 | c22
  ·replace hz5:=Zr c22 hz5
   try rw [c22] at Jg
   rcases Bool.eq_false_or_eq_true (decide (0 < (a3.L.length:Int))) with c23 | c23
   ·replace hz5:=Zr c23 hz5
    try rw [c23] at Jg
    try rw [c23] at c22
    refine Zhd [none,none,none,none,none,none,none,none,none,none,none,some false,some false,some false,some false,some false,some false,some false,some false,some false,some false,some false,some false,some false,some false] Jg c22 c23 ?_
    refine zG ?_
    exact Zj3 hz5 Jg c22 c23
   replace hz5:=Zq c23 hz5
   try rw [c23] at Jg
   try rw [c23] at c22
   rcases Bool.eq_false_or_eq_true a2 with c24 | c24
   ·replace hz5:=Zr c24 hz5
    try rw [c24] at Jg
    try rw [c24] at c22
    try rw [c24] at c23
    rcases Bool.eq_false_or_eq_true (a3.E.Kind != 0) with c25 | c25
    ·replace hz5:=Zr c25 hz5
     try rw [c25] at Jg
     try rw [c25] at c22
     try rw [c25] at c23
     try rw [c25] at c24
     refine Yau [none,none,none,none,none,none,none,none,none,none,none,some true,some true,some true,some true,some true,some true,some true,some false,some false,some false,some false,some true,some true,some true] Jg c22 c23 c24 c25 ?_
     refine zG ?_
     exact Z4q hz5 Jg c22 c23 c24 c25
    replace hz5:=Zq c25 hz5
    try rw [c25] at Jg
    try rw [c25] at c22
    try rw [c25] at c23
    try rw [c25] at c24
    obtain ⟨y12,hy12,hz5⟩:=bC hz5
    refine Yau [none,none,none,none,none,none,none,none,none,none,none,some true,some true,some true,some true,some true,some true,some true,some true,some true,some true,some true,some true,some true,some true] Jg c22 c23 c24 c25 ?_
    refine zG ?_
    refine (Kr hy12).then ?_
    refine zX5 Jg c22 c23 c24 c25 ?_
    refine zG ?_
    exact Z4q hz5 Jg c22 c23 c24 c25
   replace hz5:=Zq c24 hz5
   try rw [c24] at Jg
   try rw [c24] at c22
   try rw [c24] at c23
   refine Zqr [none,none,none,none,none,none,none,none,none,none,none,some true,some true,some false,some false,some false,some false,some false,some false,some false,some false,some false,some false,some true,some true] Jg c22 c23 c24 ?_
   refine zG ?_
   exact Zqq hz5 Jg c22 c23 c24
  replace hz5:=Zq c22 hz5
  try rw [c22] at Jg
  rcases Bool.eq_false_or_eq_true a2 with c26 | c26
  ·replace hz5:=Zr c26 hz5
   try rw [c26] at Jg
   try rw [c26] at c22
   rcases Bool.eq_false_or_eq_true (a3.E.Kind != 0) with c27 | c27
   ·replace hz5:=Zr c27 hz5
    try rw [c27] at Jg
    try rw [c27] at c22
    try rw [c27] at c26
    refine Zqr [none,none,none,none,none,none,none,none,none,none,none,some true,some true,some true,some true,some true,some true,some true,some false,some false,some false,some false,some true,some true,some true] Jg c22 c26 c27 ?_
    refine zG ?_
    exact Zqq hz5 Jg c22 c26 c27
   replace hz5:=Zq c27 hz5
   try rw [c27] at Jg
   try rw [c27] at c22
   try rw [c27] at c26
   obtain ⟨y13,hy13,hz5⟩:=bC hz5
   refine Zqr [none,none,none,none,none,none,none,none,none,none,none,some true,some true,some true,some true,some true,some true,some true,some true,some true,some true,some true,some true,some true,some true] Jg c22 c26 c27 ?_
   refine zG ?_
   refine (Kr hy13).then ?_
   refine zX4 Jg c22 c26 c27 ?_
   refine zG ?_
   exact Zqq hz5 Jg c22 c26 c27
  replace hz5:=Zq c26 hz5
  try rw [c26] at Jg
  try rw [c26] at c22
  refine Zhd [none,none,none,none,none,none,none,none,none,none,none,some true,some true,some false,some false,some false,some false,some false,some false,some false,some false,some false,some false,some true,some true] Jg c22 c26 ?_
  refine zG ?_
  exact Zj3 hz5 Jg c22 c26
 refine zW ?_
 have h:=Option.some.inj h;subst h
 refine Zi (.inr rfl) hU [(vB z5)] (by omega) ?_
 simp only [push_cast,seval,↓reduceIte,Zb,Tryz.results278,hN0,hN]
theorem Zxf:∀ k,(U5 ((Zk k).1))∧(U7 ((Zk k).2.1))∧(Jy ((Zk k).2.2.1))∧(Ku ((Zk k).2.2.2.1))∧(Vk ((Zk k).2.2.2.2.1))∧(Jz ((Zk k).2.2.2.2.2)):=fun k=>by
 induction k with
 | zero=>exact ⟨@fun a0 r O n h=>(nomatch (show (none:Option _)=some _ from h)),@fun a0 a1 r O n h=>(nomatch (show (none:Option _)=some _ from h)),@fun a0 a1 r O n h=>(nomatch (show (none:Option _)=some _ from h)),@fun a0 a1 r O n h=>(nomatch (show (none:Option _)=some _ from h)),@fun a0 a1 a2 r O n h=>(nomatch (show (none:Option _)=some _ from h)),@fun a0 a1 a2 a3 r O n h=>(nomatch (show (none:Option _)=some _ from h))⟩
 | succ k ih=>exact ⟨@fun a0 r O n h=>Z2g (ih.1) (ih.2.1) (ih.2.2.1) (ih.2.2.2.1) (ih.2.2.2.2.1) (ih.2.2.2.2.2)  h,@fun a0 a1 r O n h=>Z2h (ih.1) (ih.2.1) (ih.2.2.1) (ih.2.2.2.1) (ih.2.2.2.2.1) (ih.2.2.2.2.2)  h,@fun a0 a1 r O n h=>Zso (ih.1) (ih.2.1) (ih.2.2.1) (ih.2.2.2.1) (ih.2.2.2.2.1) (ih.2.2.2.2.2)  h,@fun a0 a1 r O n h=>Zuc (ih.1) (ih.2.1) (ih.2.2.1) (ih.2.2.2.1) (ih.2.2.2.2.1) (ih.2.2.2.2.2)  h,@fun a0 a1 a2 r O n h=>Zxm (ih.1) (ih.2.1) (ih.2.2.1) (ih.2.2.2.1) (ih.2.2.2.2.1) (ih.2.2.2.2.2)  h,@fun a0 a1 a2 a3 r O n h=>Zsp (ih.1) (ih.2.1) (ih.2.2.1) (ih.2.2.2.1) (ih.2.2.2.2.1) (ih.2.2.2.2.2)  h⟩
theorem Z3n {a0:Zh} {r:Bool} {O:Objs} {n:Nat} (h:Zkk a0=some r):GTo Tryz.prog 59 [.agg (Zm a0)] O n ((vB r)) O n:=by
 obtain ⟨k,hk⟩:=Zcv h
 exact (Zxf k).1  hk
theorem Kl {a0:(List Int)} {a1:(List Za)} {r:Za} {O:Objs} {n:Nat} (h:Vh a0 a1=some r):GTo Tryz.prog 53 [(sL (eI .u64) a0),(sL Zc a1)] O n (.agg (Zj r)) O n:=by
 unfold Vh at h
 refine Yo Zv Tryz.call53 Tryz.func53 rfl (Nat.le_of_ble_eq_true rfl) (Nat.le_refl _) fun hU => ?_
 have hN0:O n=none:=hU.fresh _ (Nat.le_refl _)
 have hN:∀ k,O (n+k)=none:=fun k=>hU.fresh _ (Nat.le_add_right _ _)
 show W _ _ _ _ ⟨8,[],[(0,(sL (eI .u64) a0)),(1,(sL Zc a1))]⟩ (Z0 O n []) _
 refine zQ [0,1,4] ?_
 refine Zd ?_
 refine zRd [4] [true] ?_
 refine zW ?_
 have h:=Option.some.inj h;subst h
 refine Zi (.inr rfl) hU [.agg [(vI 1),(sL (eI .u64) a0),(sL Zc a1)]] (by omega) ?_
 simp only [push_cast,seval,↓reduceIte,Zb,Tryz.results53,hN0,hN]
theorem Zop {a0:(List Za)} {r:Za} {O:Objs} {n:Nat} (h:Ze7 a0=some r):GTo Tryz.prog 98 [(sL Zc a0)] O n (.agg (Zj r)) O n:=by
 unfold Ze7 at h
 refine Yo Zv Tryz.call98 Tryz.func98 rfl (Nat.le_of_ble_eq_true rfl) (Nat.le_refl _) fun hU => ?_
 have hN0:O n=none:=hU.fresh _ (Nat.le_refl _)
 have hN:∀ k,O (n+k)=none:=fun k=>hU.fresh _ (Nat.le_add_right _ _)
 show W _ _ _ _ ⟨9,[],[(0,(sL Zc a0))]⟩ (Z0 O n []) _
 refine zQ [0,2] ?_
 refine Zd ?_
 refine zQ [0,2,5] ?_
 refine Zs (t:=((a0.length:Int) == 0)) rfl (fun c1 => ?_) (fun c1 => ?_)
 ·replace h:=Zr c1 h
  refine Zd ?_
  refine zRd [2] [true] ?_
  refine zW ?_
  have h:=Option.some.inj h;subst h
  refine Zi (.inr rfl) hU [.agg [(vI 0),nV,nV]] (by omega) ?_
  simp only [push_cast,seval,↓reduceIte,Zb,Tryz.results98,hN0,hN]
 replace h:=Zq c1 h
 refine Jh [0,2] [true] ?_
 refine Zd ?_
 refine zRd [2] [true] ?_
 refine zW ?_
 have h:=Option.some.inj h;subst h
 refine Zi (.inr rfl) hU [.agg [(vI 9),nV,(sL Zc a0)]] (by omega) ?_
 simp only [push_cast,seval,↓reduceIte,Zb,Tryz.results98,hN0,hN]
theorem Zk9 {a0:(List Z6)} {r:Za} {O:Objs} {n:Nat} (h:Zbe a0=some r):GTo Tryz.prog 54 [(sL Zp a0)] O n (.agg (Zj r)) O n:=by
 unfold Zbe at h
 refine Yo Zv Tryz.call54 Tryz.func54 rfl (Nat.le_of_ble_eq_true rfl) (Nat.le_refl _) fun hU => ?_
 have hN0:O n=none:=hU.fresh _ (Nat.le_refl _)
 have hN:∀ k,O (n+k)=none:=fun k=>hU.fresh _ (Nat.le_add_right _ _)
 show W _ _ _ _ ⟨32,[],[(0,(sL Zp a0))]⟩ (Z0 O n []) _
 refine zQ [0,2] ?_
 refine zQ [0,2,3] ?_
 refine Zd ?_
 refine zQd [2,3,6,7,8] [2,3,6,7,8] [true] ?_
 refine Zks (E':=(⟨32,[],[(2,.ref n 0),(3,.row (n+1) ([]:List Za).length),(6,(sL Zp a0)),(7,(vI (a0.length:Int))),(8,(vI 0))]⟩:Env)) (O':=(Z0 O n [some ⟨false,25,3,1,[(vI 0),nV,nV]⟩,some (oR 25 3 Zc ([]:List Za)),none])) (n':=(n+3)) ?_ ?_
 ·refine Fit2.trans (E':=(⟨32,[],[(2,.ref n 0),(3,nV),(6,(sL Zp a0)),(7,(vI (a0.length:Int))),(8,(vI 0))]⟩:Env)) (O':=(Z0 O n [some ⟨false,25,3,1,[(vI 0),nV,nV]⟩])) (n':=(n+1)) (Fit2.of (Y1 hU rfl rfl ?_) (by omega)) ?_
  ·exact zSe
  refine Fit2.trans (Zm0 3 25 3 rfl (by omega)) ?_
  simp only [Za3,Uu,Zjd,Zhh,List.set_cons_zero,List.set_cons_succ,List.cons_append,List.nil_append,List.length_cons,List.length_nil,Nat.zero_add,Nat.reduceAdd,Nat.reduceLT,Nat.add_assoc]
  refine Fit2.trans (E':=(⟨32,[],[(2,.ref n 0),(3,.row (n+1) ([]:List Za).length),(6,(sL Zp a0)),(7,(vI (a0.length:Int))),(8,(vI 0))]⟩:Env)) (O':=(Z0 O n [some ⟨false,25,3,1,[(vI 0),nV,nV]⟩,some (oR 25 3 Zc ([]:List Za))])) (n':=(n+2)) (Fit2.of (Y1 hU rfl rfl ?_) (by omega)) ?_
  ·exact zSe
  refine Zjg (k:=2) (k':=3) hU [0,1] [0,1,0] rfl rfl rfl rfl ⟨rfl,rfl⟩ ?_
  exact zSe
 obtain ⟨z6,hz6,h⟩:=bC h
 refine Y3 (E':=⟨32,[],[(2,.ref n 0),(3,.row (n+1) z6.length)]⟩) (O':=(Z0 O n [some ⟨false,25,3,1,[(vI 0),nV,nV]⟩,some (oR 25 3 Zc z6),none])) (n0:=(n+3)) ?_ ?_
 ·refine Xf hz6 (fun s0_=>⟨32,[],[(2,.ref n 0),(3,.row (n+1) s0_.2.length),(6,(sL Zp a0)),(7,(vI (a0.length:Int))),(8,(vI s0_.1))]⟩) (fun s0_=>(Z0 O n [some ⟨false,25,3,1,[(vI 0),nV,nV]⟩,some (oR 25 3 Zc s0_.2),none])) (fun z6=>JX 0 n (⟨32,[],[(2,.ref n 0),(3,.row (n+1) z6.length)]⟩:Env) (Z0 O n [some ⟨false,25,3,1,[(vI 0),nV,nV]⟩,some (oR 25 3 Zc z6),none]) (n+3)) ?_
  intro s0_ x0_ hs0_
  unfold Up at hs0_
  try dsimp only
  refine zQ [2,3,6,7,8,9] ?_
  refine Zd ?_
  refine Zs (t:=(decide (s0_.1 < (a0.length:Int)))) rfl (fun c5 => ?_) (fun c5 => ?_)
  ·replace hs0_:=Zr c5 hs0_
   refine Jh [2,3,6,7,8] [true,true,false] ?_
   refine Zd ?_
   refine Yc ?_
   refine Zd ?_
   obtain ⟨x2,hx2,ax2,bx2,cx2,hs0_⟩:=bE (f:=Zp) Zya (fun _=>rfl) (by decide) hs0_
   refine Zec [] ax2 bx2 cx2 ?_
   refine zD [2,3,5,6,7,8] [true,true,false,true] ?_
   obtain ⟨y3,hy3,hs0_⟩:=bC hs0_
   obtain ⟨l4,pl4,ql4,el4,hs0_⟩:=bA (k:=1) rfl hs0_
   refine Zhd [] pl4 ql4 el4 ?_
   refine GCalls.dropL (l':=[some ⟨false,25,3,1,[(vI 0),nV,nV]⟩,some (oR 25 3 Zc s0_.2),none,some ⟨false,84,4,1,(Gt x2)⟩,none]) hU rfl ?_ ((Kl hy3).then ?_)
   ·exact Zyq pl4 ql4 el4
   refine zX3 pl4 ql4 el4 ?_
   refine Zdq ⟨32,[],[(2,.ref n 0),(3,.row (n+1) l4.length),(6,(sL Zp a0)),(7,(vI (a0.length:Int))),(8,(vI s0_.1))]⟩ (Z0 O n [some ⟨false,25,3,1,[(vI 0),nV,nV]⟩,some (oR 25 3 Zc l4),none,none,none,none]) (Y1 hU rfl rfl ?_) ?_
   ·exact Zyq pl4 ql4 el4
   refine zR ?_
   exact zEn hs0_
  replace hs0_:=Zq c5 hs0_
  exact zEx hs0_
 try simp only [Xc,Yp,↓reduceIte,Nat.reduceEqDiff]
 refine zD [2,3] [true,true,false] ?_
 refine Zdq ⟨32,[],[(2,.ref n 0),(3,(sL Zc z6))]⟩ (Z0 O n [some ⟨false,25,3,1,[(vI 0),nV,nV]⟩,none,none]) (Y1 hU rfl rfl ?_) ?_
 ·exact zSe
 refine Zd ?_
 obtain ⟨y8,hy8,h⟩:=bC h
 refine zCd (Zop hy8) [2] [true,false,false] ?_
 refine zW ?_
 have h:=Option.some.inj h;subst h
 refine Zi (.inr rfl) hU [.agg (Zj y8)] (by omega) ?_
 simp only [push_cast,seval,↓reduceIte,Zb,Tryz.results54,hN0,hN]
end Go.Proofs.YtmlcnhambfkjaaaGreat
