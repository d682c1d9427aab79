/- Part CM1 of this seat's mirrors: functions of the seat's program, and the plain functions that they are; each theorem bears its own conditions. -/
import Derived.Test.YtmlcnhambfkjaaaGreatCE
namespace Go.Proofs.YtmlcnhambfkjaaaGreat
open Go.RowKit
set_option linter.unusedVariables false
set_option linter.unusedSimpArgs false
set_option maxRecDepth 100000
set_option maxHeartbeats 4000000
attribute [local push_cast] vI vB nV sL oR Zm Kp Kh Y4 Zj Gt Kz Qe Z4 Zy8 Zy7 Zzv Zzu Xc Yp Ztl Zoc Zob onW Qy Zh0 Zf8 Zx2 Zxd Zrm Zrq Zrl Zrp Zu3 Zuz Zro Zu2 Zu1 Zu0 Zrn Zux Zpb evS wok Ki Op.operands Call.operands gop onK onP atK List.all_cons List.all_nil Bool.and_true Bool.true_and Bool.and_self Value.oneCell' List.take_zero List.take_succ_cons List.take_nil List.drop_zero List.drop_succ_cons List.drop_nil List.append_nil Nat.add_zero Nat.zero_add Za7 Y0 ev K0 Zw9 Zy1 Zy0 Zy6 Zy4 Zy5 Zy2 Zy3 Zyz Zye Z1r Z43 Zoh Zh2 Zm6 Zh1 Zq3 Zky Zlv Zl0 Zn5 Zn1 Zly Zn4 Zn3 Zn2 Zlx Znz Zlw Zlz Zkh Zn0 Zp2 Zoe Ze1 Zog Ze2 Zp1 Zoa Z3l bLo bHi bMx Zh3 Zpz Z9b Zn9 Zp0 Zkj Zc5 Z1u Z9d Zn8 Zkw Z9i Zhz Ya7 Ztq Ztu Ztp Ztt Zzj Zzf Zzd Zq5 Ztr Zzi Zzh Zzg Zts Zze Zpt Zxc Zuq Zo1 Zo0 pop TK.isAgg Zzo Zzs Zzn Zzr Zug Z50 Z5w Zzq Z5z Z5y Z5x Zzp Z5v G.under G.unders List.getD_cons_zero List.getD_cons_succ List.set_cons_zero List.set_cons_succ List.map_cons List.map_nil List.toList_toArray Array.toList_append Option.toArray_none Option.toArray_some Array.toList_map Option.map_some Option.map_none Option.bind_some Option.bind_none List.getElem?_cons_zero List.getElem?_cons_succ List.getElem?_nil List.nil_append List.cons_append List.replicate_succ List.replicate_zero List.length_cons List.length_nil and_true true_and and_false false_and Bool.true_eq_false Bool.false_eq_true forall_const false_implies implies_true IntKind.bits if_true if_false ite_true ite_false eq_self true_implies false_or or_false or_true true_or not_true_eq_false not_false_eq_true decide_true decide_false decide_eq_true_eq decide_eq_false_iff_not beq_iff_eq bne_iff_ne ne_eq Bool.not_eq_true Bool.not_eq_false beq_eq_false_iff_ne bne_eq_false_iff_eq beq_self_eq_true bne_self_eq_false Option.some.injEq exists_eq_left' exists_eq_left ge_iff_le gt_iff_lt decide_not Bool.not_true Bool.not_false imp_self Z46 cond_true cond_false Yit Yir Bool.not_not Bool.and_false Bool.false_and Bool.or_true Bool.true_or Bool.or_false Bool.false_or Zhg Zsz Zjd Zhh Za3 Uu Option.join_some Nat.add_assoc Int.toNat_natCast eI eB eS eL Ge Zm7 Zl4 Zzb Zy9 Zza Ybi Ye7 Zno Zmc Zz2 Zz0 Zz1 Z5u Zrx Z38 Zsc Z3i Zg1 Z1k List.length_append G.agg.injEq G.row.injEq G.ref.injEq G.val.injEq G.sl.injEq G.tup.injEq Value.int.injEq Value.bool.injEq Value.string.injEq List.cons.injEq exists_and_left exists_const List.flatten_cons List.flatten_nil Int.le_refl Nat.le_refl Zj2 J3 Zdp Bool.not_eq_true' Bool.not_eq_false' Z06 Znx Z8g Z8l Z8f Z8k Yea Yd5 List.size_toArray Zxq Zx6 G.ren G.rens Z2r Zll Zz4 Zyx Zyy Zuy Z8m Zgz G.fn.injEq Zqp Zwv Z05 Yd6 Zwu Z8j Yd9 Yd8 Yd7 Z8h Z5l Ycn Option.join_none X3 Gd undef Zp8 Arr.len Arr.put_eq Znn Zra Zox Zmb Zzz Zzx Zzy onB Ybh Z1q Q0 Zq0 Zs0 Zs1 Zs2 Zs3 Zs4 Zs5 Zq7 Zrd Zrb Zoz Zmd Zrc Zup Zuo Zun Zum Ye6 Yhb Z5t Z3u Ui Z5n Zxe Zre Zoy Z96 Zx8 Zn7 Zpy Zjh Zqk Zs6 Zs7 Zs8 Zs9 Zqt Zqu Zqv Zqw Zqx Zqy Zqz Zkb prT Zhe Yjz Z73 Ybw Z74 Yj0 Z75 Z72 Z76 Yj1 Z77 Yj2 Z78 Yj3 Z79 Yj4 Z8a Ydc Zz9 Ydd Z0a Yde Z0b Ydf Z0c Ydg Z0d Ydh Z0e Ydi Z0f Ydj Z0g Ydk Z0h Ydl Z0i Ydm Z0j Zu5 Zkn Z4m Zrs Ydn Z0k Zfz Z0l Ydo Z0m Ydp Z0n Ydq Z0o Ydr Z0p Zx9 Z0q Yds Z0r Ydt Z0s Ydu Z0t Ydv Z0u Ydw Zwt Ydx Z0v Ydy Z0w Zf0 Z0x Ydz Z0y Yd0 Z0z Zya Z00 Yd1 Z01 Zsd Z02 Yd2 Z03 Zmj Z04 Z6h Zu7 Z6i Zu8 Z6j Zu9 Z6k Zva Z6l Zvb Z6m Zvc Z6n Zvd Z6o Zve Z6p Zvf Z6q Zvg Z6r Zvh Z28 Zvi Z6s Zvj Z6t Zvk Z6u Zvl Z6v Zvm Z6w Zvn Z6x Zvo Z6y Zvp Z6z Zvq Z60 Zvr Z61 Zvs Z62 Zvt Zxv Zqn Z63 Zvu Z64 Zvv Z65 Zvw Z66 Zvx Z67 Zvy Z68 Zvz Z69 Zv0 Z7a Zv1 Z7b Zv2 Z7c Zv3 Z7d Zv4 Z7e Zv5 Z7f Zv6 Z7g Zv7 Z7h Zv8 Z7i Zv9 Z7j Zwa Z7k Zwb Z7l Zwc Z7m Zwd Z7n Zwe Z7o Zwf Z7p Zwg Z7q Zwh Z7r Zwi Z7s Zwj Z7t Zwk Z7u Zwl Z7v Zwm Z7w Zwn Z7x Zwo Z7y Zwp Z7z Zwq Z70 Zwr Z71 Zws Zc Yz Zpj Zph Zoj Zov Zpl Zml Zmi Zmg Zpe Zfv Zfu Zfj Zfq Zfw Zeu Zes Zer Zft Zp Qx Zo Zz Xi Y2 Xx Zbq Zbp Za8 Zbg Zbr Zas Zaq Zap Zbm Zcj Zch Zb6 Zcd Zcl Zbn Zbj Zbh Zcf Ziv Ziu Zh6 Zil Ziw Zgp Zgo Zgn Zis Zrv Zru Zq4 Zq9 Zrw Zpf Zo5 Zo4 Zrt Zpi Zpg Zoi Zou Zpk Zmk Zmh Zmf Zpd Yu Zew Zev Zen Zeq Zex Zdo Zdm Zdl Zet Zl2 Zgi Zjk Zjj Zje Zjf Zjl Zit Ziq Zip Zji Zu Zck Zci Zb7 Zce Zcm Zbo Zbk Zbi Zcg Zhv Zl1 Zhw Yl Zau Zat Zal Zao Zav Gn Gl Gk Zar
theorem Zr1 {a0:Int} {r:Int} {O:Objs} {n:Nat} (h:Jk a0=some r):GTo Tryz.prog 109 [(vI a0)] O n ((vI r)) O n:=by
 unfold Jk at h
 refine Yo Zv Tryz.call109 Tryz.func109 rfl (Nat.le_of_ble_eq_true rfl) (Nat.le_refl _) fun hU => ?_
 have hN0:O n=none:=hU.fresh _ (Nat.le_refl _)
 have hN:∀ k,O (n+k)=none:=fun k=>hU.fresh _ (Nat.le_add_right _ _)
 show W _ _ _ _ ⟨16,[],[(0,(vI a0))]⟩ (Z0 O n []) _
 refine zQ [0] ?_
 refine Zd ?_
 refine zQ [3] ?_
 refine Yc ?_
 refine zQ [3,4] ?_
 refine Zs (t:=(a0 == 0)) rfl (fun c6 => ?_) (fun c6 => ?_)
 ·replace h:=Zr c6 h
  refine zQ [2] ?_
  refine zW ?_
  have h:=Option.some.inj h;subst h
  refine Zi (.inr rfl) hU [(vI 0)] (by omega) ?_
  simp only [push_cast,seval,↓reduceIte,Zb,Tryz.results109,hN0,hN]
 replace h:=Zq c6 h
 refine zQ [3,6] ?_
 refine Zs (t:=(a0 == 1)) rfl (fun c5 => ?_) (fun c5 => ?_)
 ·replace h:=Zr c5 h
  refine zQ [2] ?_
  refine zW ?_
  have h:=Option.some.inj h;subst h
  refine Zi (.inr rfl) hU [(vI 1)] (by omega) ?_
  simp only [push_cast,seval,↓reduceIte,Zb,Tryz.results109,hN0,hN]
 replace h:=Zq c5 h
 refine zQ [3,8] ?_
 refine Zs (t:=(a0 == 2)) rfl (fun c4 => ?_) (fun c4 => ?_)
 ·replace h:=Zr c4 h
  refine zQ [2] ?_
  refine zW ?_
  have h:=Option.some.inj h;subst h
  refine Zi (.inr rfl) hU [(vI 8)] (by omega) ?_
  simp only [push_cast,seval,↓reduceIte,Zb,Tryz.results109,hN0,hN]
 replace h:=Zq c4 h
 refine zQ [3,10] ?_
 refine Zs (t:=(a0 == 3)) rfl (fun c3 => ?_) (fun c3 => ?_)
 ·replace h:=Zr c3 h
  refine zQ [2] ?_
  refine zW ?_
  have h:=Option.some.inj h;subst h
  refine Zi (.inr rfl) hU [(vI 16)] (by omega) ?_
  simp only [push_cast,seval,↓reduceIte,Zb,Tryz.results109,hN0,hN]
 replace h:=Zq c3 h
 refine zQ [3,12] ?_
 refine Zs (t:=(a0 == 4)) rfl (fun c2 => ?_) (fun c2 => ?_)
 ·replace h:=Zr c2 h
  refine zQ [2] ?_
  refine zW ?_
  have h:=Option.some.inj h;subst h
  refine Zi (.inr rfl) hU [(vI 32)] (by omega) ?_
  simp only [push_cast,seval,↓reduceIte,Zb,Tryz.results109,hN0,hN]
 replace h:=Zq c2 h
 refine zQ [14] ?_
 refine Zs (t:=(a0 == 5)) rfl (fun c1 => ?_) (fun c1 => ?_)
 ·replace h:=Zr c1 h
  refine zQ [2] ?_
  refine zW ?_
  have h:=Option.some.inj h;subst h
  refine Zi (.inr rfl) hU [(vI 64)] (by omega) ?_
  simp only [push_cast,seval,↓reduceIte,Zb,Tryz.results109,hN0,hN]
 replace h:=Zq c1 h
 refine Jh [] [] ?_
 refine zQ [2] ?_
 refine zW ?_
 have h:=Option.some.inj h;subst h
 refine Zi (.inr rfl) hU [(vI (-1))] (by omega) ?_
 simp only [push_cast,seval,↓reduceIte,Zb,Tryz.results109,hN0,hN]
theorem Zk5 {a0:Int} {a1:Int} {r:Bool} {O:Objs} {n:Nat} (h:Vf a0 a1=some r):GTo Tryz.prog 61 [(vI a0),.val (.int .u64 a1)] O n ((vB r)) O n:=by
 unfold Vf at h
 refine Yo Zv Tryz.call61 Tryz.func61 rfl (Nat.le_of_ble_eq_true rfl) (Nat.le_refl _) fun hU => ?_
 have hN0:O n=none:=hU.fresh _ (Nat.le_refl _)
 have hN:∀ k,O (n+k)=none:=fun k=>hU.fresh _ (Nat.le_add_right _ _)
 show W _ _ _ _ ⟨20,[],[(0,(vI a0)),(1,.val (.int .u64 a1))]⟩ (Z0 O n []) _
 refine zQ [0,1] ?_
 refine Zd ?_
 obtain ⟨y2,hy2,h⟩:=bC h
 refine zCd (Zr1 hy2) [1,5] [] ?_
 refine Zd ?_
 refine zQ [1,5,10] ?_
 refine Zs (t:=(decide (y2 < 0))) rfl (fun c5 => ?_) (fun c5 => ?_)
 ·replace h:=Zr c5 h
  refine zQ [4] ?_
  refine zW ?_
  have h:=Option.some.inj h;subst h
  refine Zi (.inr rfl) hU [(vB false)] (by omega) ?_
  simp only [push_cast,seval,↓reduceIte,Zb,Tryz.results61,hN0,hN]
 replace h:=Zq c5 h
 refine Jh [1,5] [] ?_
 refine Zd ?_
 refine zQd [1,5,6] [1,5,6] [] ?_
 obtain ⟨z4,hz4,h⟩:=bC h
 refine Y3 (E':=⟨20,[],[(1,.val (.int .u64 z4))]⟩) (O':=(Z0 O n [])) (n0:=n) ?_ ?_
 ·refine Xf hz4 (fun s0_=>⟨20,[],[(1,.val (.int .u64 s0_.1)),(5,(vI y2)),(6,(vI s0_.2))]⟩) (fun s0_=>(Z0 O n [])) (fun z4=>JX 0 n (⟨20,[],[(1,.val (.int .u64 z4))]⟩:Env) (Z0 O n []) n) ?_
  intro s0_ x0_ hs0_
  unfold Qt at hs0_
  try dsimp only
  refine Zd ?_
  refine zQ [1,5,6,13] ?_
  refine Zs (t:=(decide (s0_.2 < y2))) rfl (fun c3 => ?_) (fun c3 => ?_)
  ·replace hs0_:=Zr c3 hs0_
   refine Jh [1,5,6] [] ?_
   refine Zd ?_
   refine Yc ?_
   refine zRd [1,5,6] [] ?_
   refine zR ?_
   exact zEn hs0_
  replace hs0_:=Zq c3 hs0_
  exact zEx hs0_
 try simp only [Xc,Yp,↓reduceIte,Nat.reduceEqDiff]
 refine zD [1] [] ?_
 refine zQ [4] ?_
 refine zW ?_
 have h:=Option.some.inj h;subst h
 refine Zi (.inr rfl) hU [(vB (z4 == 0))] (by omega) ?_
 simp only [push_cast,seval,↓reduceIte,Zb,Tryz.results61,hN0,hN]
def Zix (Jn:(Za→Int→Option Bool)):Prop:=∀ {a0:Za} {a1:Int} {r:Bool} {O:Objs} {n:Nat},Jn a0 a1=some r→GTo Tryz.prog 20 [.agg (Zj a0),(vI a1)] O n ((vB r)) O n
theorem Zqg {Jn:(Za→Int→Option Bool)} (Zpv:Zix Jn) {a0:Za} {a1:Int} {r:Bool} {O:Objs} {n:Nat} (h:Gy Jn a0 a1=some r):GTo Tryz.prog 20 [.agg (Zj a0),(vI a1)] O n ((vB r)) O n:=by
 unfold Gy at h
 refine Yo Zv Tryz.call20 Tryz.func20 rfl (Nat.le_of_ble_eq_true rfl) (Nat.le_refl _) fun hU => ?_
 have hN0:O n=none:=hU.fresh _ (Nat.le_refl _)
 have hN:∀ k,O (n+k)=none:=fun k=>hU.fresh _ (Nat.le_add_right _ _)
 show W _ _ _ _ ⟨132,[],[(0,.agg (Zj a0)),(1,(vI a1))]⟩ (Z0 O n []) _
 refine zQ [1,2] ?_
 refine Zd ?_
 refine zQ [1,2,10] ?_
 refine Zs (t:=(a0.Kind == 0)) rfl (fun c32 => ?_) (fun c32 => ?_)
 ·replace h:=Zr c32 h
  refine zQD [4] [none,none,none,none] ?_
  refine zW ?_
  have h:=Option.some.inj h;subst h
  refine Zi (.inr rfl) hU [(vB (cond ((a0.Words.length:Int) == 0) ((a0.Kids.length:Int) == 0) false))] (by omega) ?_
  simp only [push_cast,seval,↓reduceIte,Zb,Tryz.results20,hN0,hN]
 replace h:=Zq c32 h
 refine Jh [1,2] [true] ?_
 refine Zd ?_
 refine zQ [1,2,23] ?_
 refine Zs (t:=(a0.Kind == 10)) rfl (fun c31 => ?_) (fun c31 => ?_)
 ·replace h:=Zr c31 h
  refine zQD [4] [none,none,none,none] ?_
  refine zW ?_
  have h:=Option.some.inj h;subst h
  refine Zi (.inr rfl) hU [(vB (cond ((a0.Words.length:Int) == 1) ((a0.Kids.length:Int) == 0) false))] (by omega) ?_
  simp only [push_cast,seval,↓reduceIte,Zb,Tryz.results20,hN0,hN]
 replace h:=Zq c31 h
 refine Jh [1,2] [true] ?_
 refine Zd ?_
 refine zQD [1,2,68] [none,none,none,none,none,none,none,none,none,none,none,none,none,none,none,none,none,none,none,none,none,none] ?_
 refine Zs (t:=(cond (cond (cond (cond (cond (decide (a0.Kind < 0)) true (decide (10 < a0.Kind))) true (a1 == 0)) true (decide (65536≤(a0.Words.length:Int)))) true (cond (a0.Kind == 1) (decide (65536≤(a0.Kids.length:Int))) false)) true (decide (1048576≤(a0.Kids.length:Int))))) rfl (fun c30 => ?_) (fun c30 => ?_)
 ·replace h:=Zr c30 h
  refine zQ [4] ?_
  refine zW ?_
  have h:=Option.some.inj h;subst h
  refine Zi (.inr rfl) hU [(vB false)] (by omega) ?_
  simp only [push_cast,seval,↓reduceIte,Zb,Tryz.results20,hN0,hN]
 replace h:=Zq c30 h
 refine Jh [1,2] [true] ?_
 refine Zd ?_
 refine zQD [1,2,77] [none,none,none,none] ?_
 refine Zs (t:=(cond (decide (1 < a0.Kind)) (decide (0 < (a0.Words.length:Int))) false)) rfl (fun c29 => ?_) (fun c29 => ?_)
 ·replace h:=Zr c29 h
  refine zQ [4] ?_
  refine zW ?_
  have h:=Option.some.inj h;subst h
  refine Zi (.inr rfl) hU [(vB false)] (by omega) ?_
  simp only [push_cast,seval,↓reduceIte,Zb,Tryz.results20,hN0,hN]
 replace h:=Zq c29 h
 refine Jh [1,2] [true] ?_
 refine Zd ?_
 refine zQd [1,2,5] [1,2,5] [true] ?_
 obtain ⟨z28,hz28,h⟩:=bC h
 refine Zgq (J:=(Ju (fun z28=>JR n (⟨132,[],[(4,(vB false))]⟩:Env) (Z0 O n [none]) (n+1)) (fun z28=>JX 0 n (⟨132,[],[]⟩:Env) (Z0 O n [none]) (n+1)))) (z:=z28) ?_ fun hw => ?_
 ·refine Xf hz28 (fun s0_=>⟨132,[],[(1,(vI a1)),(2,.ref n 0),(5,(vI s0_))]⟩) (fun s0_=>(Z0 O n [some ⟨false,25,3,1,(Zj a0)⟩])) (Ju (fun z28=>JR n (⟨132,[],[(4,(vB false))]⟩:Env) (Z0 O n [none]) (n+1)) (fun z28=>JX 0 n (⟨132,[],[]⟩:Env) (Z0 O n [none]) (n+1))) ?_
  intro s0_ x0_ hs0_
  unfold Vx at hs0_
  try dsimp only
  refine Zd ?_
  refine zQ [1,2,5,82] ?_
  refine Zs (t:=(decide (s0_ < (a0.Kids.length:Int)))) rfl (fun c27 => ?_) (fun c27 => ?_)
  ·replace hs0_:=Zr c27 hs0_
   refine Jh [1,2,5] [true] ?_
   refine Zd ?_
   refine Yc ?_
   refine Zd ?_
   obtain ⟨x2,hx2,ax2,bx2,cx2,hs0_⟩:=bE (f:=Zc) Zfz (fun _=>rfl) (by decide) hs0_
   refine Zec [] ax2 bx2 cx2 ?_
   refine zDs [1,2,5,6] [true,true] ?_
   refine Zd ?_
   obtain ⟨y4,hy4,hs0_⟩:=bC hs0_
   refine zCd (Zpv hy4) [1,2,5,6,94] [true,true] ?_
   refine Zs (t:=(!y4)) rfl (fun c26 => ?_) (fun c26 => ?_)
   ·replace hs0_:=Zr c26 hs0_
    refine zQ [4] ?_
    refine zW ?_
    exact zEy hs0_
   replace hs0_:=Zq c26 hs0_
   refine Jh [1,2,5,6] [true,true] ?_
   refine zQD [1,2,5,6,7] [none,none,none] ?_
   obtain ⟨z9,hz9,hs0_⟩:=bC hs0_
   refine Y8 (E':=⟨132,[],[(1,(vI a1)),(2,.ref n 0),(5,(vI s0_)),(131,(vB z9))]⟩) (O':=(Z0 O n [some ⟨false,25,3,1,(Zj a0)⟩,none])) (n0:=(n+2)) ?_ ?_
   ·rcases Bool.eq_false_or_eq_true ((cond (decide (2≤a0.Kind)) (decide (a0.Kind≤7)) false) != (x2.Kind == 10)) with Uj | Uj
    ·replace hz9:=Zr Uj hz9
     refine Ua Zv (by kernel_rfl) [none,none,none,none,none,none,none,none,some false,some false,some false,some false,some false,some false,some false,some false,some false,some false,some false,some false] (by kernel_rfl) ?_
     refine zX1 Uj ?_
     refine zG ?_
     exact J7 hz9 Uj
    replace hz9:=Zq Uj hz9
    rcases Bool.eq_false_or_eq_true (a0.Kind == 9) with c19 | c19
    ·replace hz9:=Zr c19 hz9
     try rw [c19] at Uj
     try simp only [Bool.cond_true,Bool.cond_false,Bool.true_bne,Bool.false_bne,Bool.true_beq,Bool.false_beq,Bool.not_eq_true',Bool.not_eq_false'] at Uj
     rcases Bool.eq_false_or_eq_true (x2.Kind != 1) with c20 | c20
     ·replace hz9:=Zr c20 hz9
      try rw [c20] at Uj
      try rw [c20] at c19
      try simp only [Bool.cond_true,Bool.cond_false,Bool.true_bne,Bool.false_bne,Bool.true_beq,Bool.false_beq,Bool.not_eq_true',Bool.not_eq_false'] at Uj
      refine Ua Zv (by kernel_rfl) [none,none,none,none,none,none,none,none,some false,some false,some false,some false,some false,some false,some false,some false,some false,some false,some false,some false] (by kernel_rfl) ?_
      refine zX3 Uj c19 c20 ?_
      refine zG ?_
      exact Zj3 hz9 Uj c19 c20
     replace hz9:=Zq c20 hz9
     try rw [c20] at Uj
     try rw [c20] at c19
     try simp only [Bool.cond_true,Bool.cond_false,Bool.true_bne,Bool.false_bne,Bool.true_beq,Bool.false_beq,Bool.not_eq_true',Bool.not_eq_false'] at Uj
     rcases Bool.eq_false_or_eq_true (decide (2≤a0.Kind)) with c21 | c21
     ·replace hz9:=Zr c21 hz9
      try rw [c21] at Uj
      try rw [c21] at c19
      try rw [c21] at c20
      try simp only [Bool.cond_true,Bool.cond_false,Bool.true_bne,Bool.false_bne,Bool.true_beq,Bool.false_beq,Bool.not_eq_true',Bool.not_eq_false'] at Uj
      rcases Bool.eq_false_or_eq_true (decide (a0.Kind≤7)) with c22 | c22
      ·replace hz9:=Zr c22 hz9
       try rw [c22] at Uj
       try rw [c22] at c19
       try rw [c22] at c20
       try rw [c22] at c21
       try simp only [Bool.cond_true,Bool.cond_false,Bool.true_bne,Bool.false_bne,Bool.true_beq,Bool.false_beq,Bool.not_eq_true',Bool.not_eq_false'] at Uj
       obtain ⟨x14,hx14,ax14,bx14,cx14,hz9⟩:=bE (f:=(eI .u64)) Zf0 (fun _=>rfl) (by decide) hz9
       obtain ⟨y15,hy15,hz9⟩:=bC hz9
       refine Ua Zv (by kernel_rfl) [none,none,none,none,none,none,none,none,some true,some true,some true,some true,some true,some true,some true,some true,some true,some true,some true,some true] (by kernel_rfl) ?_
       refine zF8 Uj c19 c20 c21 c22 ax14 bx14 cx14 ?_
       refine zG ?_
       refine PCall.of (Zk5 hy15) ?_
       refine zF8 Uj c19 c20 c21 c22 ax14 bx14 cx14 ?_
       refine zG ?_
       exact Ypo hz9 Uj c19 c20 c21 c22 ax14 bx14 cx14
      replace hz9:=Zq c22 hz9
      try rw [c22] at Uj
      try rw [c22] at c19
      try rw [c22] at c20
      try rw [c22] at c21
      try simp only [Bool.cond_true,Bool.cond_false,Bool.true_bne,Bool.false_bne,Bool.true_beq,Bool.false_beq,Bool.not_eq_true',Bool.not_eq_false'] at Uj
      refine Ua Zv (by kernel_rfl) [none,none,none,none,none,none,none,none,some true,some true,some false,some false,some false,some false,some false,some false,some false,some false,some false,some true] (by kernel_rfl) ?_
      refine zX5 Uj c19 c20 c21 c22 ?_
      refine zG ?_
      exact Z4q hz9 Uj c19 c20 c21 c22
     replace hz9:=Zq c21 hz9
     try rw [c21] at Uj
     try rw [c21] at c19
     try rw [c21] at c20
     try simp only [Bool.cond_true,Bool.cond_false,Bool.true_bne,Bool.false_bne,Bool.true_beq,Bool.false_beq,Bool.not_eq_true',Bool.not_eq_false'] at Uj
     refine Ua Zv (by kernel_rfl) [none,none,none,none,none,none,none,none,some true,some true,some false,some false,some false,some false,some false,some false,some false,some false,some false,some true] (by kernel_rfl) ?_
     refine zX4 Uj c19 c20 c21 ?_
     refine zG ?_
     exact Zqq hz9 Uj c19 c20 c21
    replace hz9:=Zq c19 hz9
    try rw [c19] at Uj
    try simp only [Bool.cond_true,Bool.cond_false,Bool.true_bne,Bool.false_bne,Bool.true_beq,Bool.false_beq,Bool.not_eq_true',Bool.not_eq_false'] at Uj
    rcases Bool.eq_false_or_eq_true (decide (2≤a0.Kind)) with c23 | c23
    ·replace hz9:=Zr c23 hz9
     try rw [c23] at Uj
     try rw [c23] at c19
     try simp only [Bool.cond_true,Bool.cond_false,Bool.true_bne,Bool.false_bne,Bool.true_beq,Bool.false_beq,Bool.not_eq_true',Bool.not_eq_false'] at Uj
     rcases Bool.eq_false_or_eq_true (decide (a0.Kind≤7)) with c24 | c24
     ·replace hz9:=Zr c24 hz9
      try rw [c24] at Uj
      try rw [c24] at c19
      try rw [c24] at c23
      try simp only [Bool.cond_true,Bool.cond_false,Bool.true_bne,Bool.false_bne,Bool.true_beq,Bool.false_beq,Bool.not_eq_true',Bool.not_eq_false'] at Uj
      obtain ⟨x16,hx16,ax16,bx16,cx16,hz9⟩:=bE (f:=(eI .u64)) Zf0 (fun _=>rfl) (by decide) hz9
      obtain ⟨y17,hy17,hz9⟩:=bC hz9
      refine Ua Zv (by kernel_rfl) [none,none,none,none,none,none,none,none,some true,some true,some true,some true,some true,some true,some true,some true,some true,some true,some true,some true] (by kernel_rfl) ?_
      refine zF7 Uj c19 c23 c24 ax16 bx16 cx16 ?_
      refine zG ?_
      refine PCall.of (Zk5 hy17) ?_
      refine zF7 Uj c19 c23 c24 ax16 bx16 cx16 ?_
      refine zG ?_
      exact Ykr hz9 Uj c19 c23 c24 ax16 bx16 cx16
     replace hz9:=Zq c24 hz9
     try rw [c24] at Uj
     try rw [c24] at c19
     try rw [c24] at c23
     try simp only [Bool.cond_true,Bool.cond_false,Bool.true_bne,Bool.false_bne,Bool.true_beq,Bool.false_beq,Bool.not_eq_true',Bool.not_eq_false'] at Uj
     refine Ua Zv (by kernel_rfl) [none,none,none,none,none,none,none,none,some true,some true,some false,some false,some false,some false,some false,some false,some false,some false,some false,some true] (by kernel_rfl) ?_
     refine zX4 Uj c19 c23 c24 ?_
     refine zG ?_
     exact Zqq hz9 Uj c19 c23 c24
    replace hz9:=Zq c23 hz9
    try rw [c23] at Uj
    try rw [c23] at c19
    try simp only [Bool.cond_true,Bool.cond_false,Bool.true_bne,Bool.false_bne,Bool.true_beq,Bool.false_beq,Bool.not_eq_true',Bool.not_eq_false'] at Uj
    refine Ua Zv (by kernel_rfl) [none,none,none,none,none,none,none,none,some true,some true,some false,some false,some false,some false,some false,some false,some false,some false,some false,some true] (by kernel_rfl) ?_
    refine zX3 Uj c19 c23 ?_
    refine zG ?_
    exact Zj3 hz9 Uj c19 c23
   refine Zs (t:=z9) rfl (fun c25 => ?_) (fun c25 => ?_)
   ·replace hs0_:=Zr c25 hs0_
    refine zQ [4] ?_
    refine zW ?_
    exact zEy hs0_
   replace hs0_:=Zq c25 hs0_
   refine Jh [1,2,5] [true,false] ?_
   refine zR ?_
   exact zEn hs0_
  replace hs0_:=Zq c27 hs0_
  exact zEx hs0_
 rcases z28 with z28 | z28
 ·dsimp only [Ju] at hw h
  refine Gx hw ?_
  try simp only [Xc,Yp,↓reduceIte,Nat.reduceEqDiff]
  have h:=Option.some.inj h;subst h
  refine Zi (.inr rfl) hU [(vB false)] (by omega) ?_
  simp only [push_cast,seval,↓reduceIte,Zb,Tryz.results20,hN0,hN]
 dsimp only [Ju] at hw h
 refine Y3 hw ?_
 try simp only [Xc,Yp,↓reduceIte,Nat.reduceEqDiff]
 refine zD [] [false] ?_
 refine zQ [4] ?_
 refine zW ?_
 have h:=Option.some.inj h;subst h
 refine Zi (.inr rfl) hU [(vB true)] (by omega) ?_
 simp only [push_cast,seval,↓reduceIte,Zb,Tryz.results20,hN0,hN]
theorem Zol:∀ k,(Zix (Jv k)):=fun k=>by
 induction k with
 | zero=>exact @fun a0 a1 r O n h=>(nomatch (show (none:Option _)=some _ from h))
 | succ k ih=>exact @fun a0 a1 r O n h=>Zqg (ih)  h
theorem Zcb {a0:Za} {a1:Int} {r:Bool} {O:Objs} {n:Nat} (h:V5 a0 a1=some r):GTo Tryz.prog 20 [.agg (Zj a0),(vI a1)] O n ((vB r)) O n:=by
 obtain ⟨k,hk⟩:=Zcv h
 exact (Zol k)  hk
def Zha (Qv:(Za→Int→Int→Option Int)):Prop:=∀ {a0:Za} {a1:Int} {a2:Int} {r:Int} {O:Objs} {n:Nat},Qv a0 a1 a2=some r→GTo Tryz.prog 64 [.agg (Zj a0),(vI a1),(vI a2)] O n ((vI r)) O n
theorem Zos {Qv:(Za→Int→Int→Option Int)} (Zni:Zha Qv) {a0:Za} {a1:Int} {a2:Int} {r:Int} {O:Objs} {n:Nat} (h:Qs Qv a0 a1 a2=some r):GTo Tryz.prog 64 [.agg (Zj a0),(vI a1),(vI a2)] O n ((vI r)) O n:=by
 unfold Qs at h
 refine Yo Zv Tryz.call64 Tryz.func64 rfl (Nat.le_of_ble_eq_true rfl) (Nat.le_refl _) fun hU => ?_
 have hN0:O n=none:=hU.fresh _ (Nat.le_refl _)
 have hN:∀ k,O (n+k)=none:=fun k=>hU.fresh _ (Nat.le_add_right _ _)
 show W _ _ _ _ ⟨41,[],[(0,.agg (Zj a0)),(1,(vI a1)),(2,(vI a2))]⟩ (Z0 O n []) _
 refine zQ [1,2,3] ?_
 refine zQ [1,2,3] ?_
 refine Zd ?_
 refine zQD [1,2,3,19] [none,none] ?_
 refine Zs (t:=(cond (a1 == 0) true (decide ((IntKind.i64.wrap ((IntKind.i64.wrap (a2 - 1)) - (a0.Words.length:Int))) < 0)))) rfl (fun c5 => ?_) (fun c5 => ?_)
 ·replace h:=Zr c5 h
  refine zQ [6] ?_
  refine zW ?_
  have h:=Option.some.inj h;subst h
  refine Zi (.inr rfl) hU [(vI (-1))] (by omega) ?_
  simp only [push_cast,seval,↓reduceIte,Zb,Tryz.results64,hN0,hN]
 replace h:=Zq c5 h
 refine Jh [1,2,3] [true] ?_
 refine Zd ?_
 refine zQd [1,2,3,7] [1,2,3,7] [true] ?_
 obtain ⟨z4,hz4,h⟩:=bC h
 refine Y3 (E':=⟨41,[],[(2,(vI z4))]⟩) (O':=(Z0 O n [none])) (n0:=(n+1)) ?_ ?_
 ·refine Xf hz4 (fun s0_=>⟨41,[],[(1,(vI a1)),(2,(vI s0_.1)),(3,.ref n 0),(7,(vI s0_.2))]⟩) (fun s0_=>(Z0 O n [some ⟨false,25,3,1,(Zj a0)⟩])) (fun z4=>JX 0 n (⟨41,[],[(2,(vI z4))]⟩:Env) (Z0 O n [none]) (n+1)) ?_
  intro s0_ x0_ hs0_
  unfold Qk at hs0_
  try dsimp only
  refine Zd ?_
  refine zQD [1,2,3,7,28] [none,none] ?_
  refine Zs (t:=(cond (decide (s0_.2 < (a0.Kids.length:Int))) (decide (0≤s0_.1)) false)) rfl (fun c3 => ?_) (fun c3 => ?_)
  ·replace hs0_:=Zr c3 hs0_
   refine Jh [1,2,3,7] [true] ?_
   refine Zd ?_
   refine Yc ?_
   obtain ⟨x1,hx1,ax1,bx1,cx1,hs0_⟩:=bE (f:=Zc) Zfz (fun _=>rfl) (by decide) hs0_
   obtain ⟨y2,hy2,hs0_⟩:=bC hs0_
   refine Zec [] ax1 bx1 cx1 ?_
   refine (Zni hy2).then ?_
   refine zF3 ax1 bx1 cx1 ?_
   refine zD [1,2,3,7] [true] ?_
   refine zR ?_
   exact zEn hs0_
  replace hs0_:=Zq c3 hs0_
  exact zEx hs0_
 try simp only [Xc,Yp,↓reduceIte,Nat.reduceEqDiff]
 refine zD [2] [false] ?_
 refine zQ [6] ?_
 refine zW ?_
 have h:=Option.some.inj h;subst h
 refine Zi (.inr rfl) hU [(vI z4)] (by omega) ?_
 simp only [push_cast,seval,↓reduceIte,Zb,Tryz.results64,hN0,hN]
theorem Zmp:∀ k,(Zha (Y7 k)):=fun k=>by
 induction k with
 | zero=>exact @fun a0 a1 a2 r O n h=>(nomatch (show (none:Option _)=some _ from h))
 | succ k ih=>exact @fun a0 a1 a2 r O n h=>Zos (ih)  h
theorem Zej {a0:Za} {a1:Int} {a2:Int} {r:Int} {O:Objs} {n:Nat} (h:Qu a0 a1 a2=some r):GTo Tryz.prog 64 [.agg (Zj a0),(vI a1),(vI a2)] O n ((vI r)) O n:=by
 obtain ⟨k,hk⟩:=Zcv h
 exact (Zmp k)  hk
def Zjx (Qa:(Zh→Int→Int→Option Int)):Prop:=∀ {a0:Zh} {a1:Int} {a2:Int} {r:Int} {O:Objs} {n:Nat},Qa a0 a1 a2=some r→GTo Tryz.prog 67 [.agg (Zm a0),(vI a1),(vI a2)] O n ((vI r)) O n
theorem Zr6 {Qa:(Zh→Int→Int→Option Int)} (Zjy:Zjx Qa) {a0:Zh} {a1:Int} {a2:Int} {r:Int} {O:Objs} {n:Nat} (h:X0 Qa a0 a1 a2=some r):GTo Tryz.prog 67 [.agg (Zm a0),(vI a1),(vI a2)] O n ((vI r)) O n:=by
 unfold X0 at h
 refine Yo Zv Tryz.call67 Tryz.func67 rfl (Nat.le_of_ble_eq_true rfl) (Nat.le_refl _) fun hU => ?_
 have hN0:O n=none:=hU.fresh _ (Nat.le_refl _)
 have hN:∀ k,O (n+k)=none:=fun k=>hU.fresh _ (Nat.le_add_right _ _)
 show W _ _ _ _ ⟨107,[],[(0,.agg (Zm a0)),(1,(vI a1)),(2,(vI a2))]⟩ (Z0 O n []) _
 refine zQ [1,2,3] ?_
 refine zQ [1,2,3] ?_
 refine Zd ?_
 refine zQD [1,2,3,25] [none,none] ?_
 refine Zs (t:=(cond (a1 == 0) true (decide ((IntKind.i64.wrap ((IntKind.i64.wrap ((IntKind.i64.wrap (a2 - 1)) - (a0.Words.length:Int))) - (a0.Ops.length:Int))) < 0)))) rfl (fun c28 => ?_) (fun c28 => ?_)
 ·replace h:=Zr c28 h
  refine zQ [6] ?_
  refine zW ?_
  have h:=Option.some.inj h;subst h
  refine Zi (.inr rfl) hU [(vI (-1))] (by omega) ?_
  simp only [push_cast,seval,↓reduceIte,Zb,Tryz.results67,hN0,hN]
 replace h:=Zq c28 h
 refine Jh [1,2,3] [true] ?_
 refine Zd ?_
 obtain ⟨y2,hy2,h⟩:=bC h
 refine zCd (Zej hy2) [1,2,3] [true] ?_
 obtain ⟨z3,hz3,h⟩:=bC h
 refine Y8 (E':=⟨107,[],[(1,(vI a1)),(2,(vI z3)),(3,.ref n 0)]⟩) (O':=(Z0 O n [some ⟨false,30,11,1,(Zm a0)⟩])) (n0:=(n+1)) ?_ ?_
 ·refine zQ [1,2,3,31] ?_
  refine Zs (t:=(decide (0≤y2))) rfl (fun c5 => ?_) (fun c5 => ?_)
  ·replace hz3:=Zr c5 hz3
   obtain ⟨y4,hy4,hz3⟩:=bC hz3
   refine zC (Zej hy4) ?_
   exact zEn hz3
  replace hz3:=Zq c5 hz3
  refine zK ?_
  exact zEn hz3
 refine Zd ?_
 refine zQd [1,2,3,7] [1,2,3,7] [true] ?_
 obtain ⟨z10,hz10,h⟩:=bC h
 refine Y3 (E':=⟨107,[],[(1,(vI a1)),(2,(vI z10)),(3,.ref n 0)]⟩) (O':=(Z0 O n [some ⟨false,30,11,1,(Zm a0)⟩])) (n0:=(n+1)) ?_ ?_
 ·refine Xf hz10 (fun s0_=>⟨107,[],[(1,(vI a1)),(2,(vI s0_.1)),(3,.ref n 0),(7,(vI s0_.2))]⟩) (fun s0_=>(Z0 O n [some ⟨false,30,11,1,(Zm a0)⟩])) (fun z10=>JX 0 n (⟨107,[],[(1,(vI a1)),(2,(vI z10)),(3,.ref n 0)]⟩:Env) (Z0 O n [some ⟨false,30,11,1,(Zm a0)⟩]) (n+1)) ?_
  intro s0_ x0_ hs0_
  unfold Xp at hs0_
  try dsimp only
  refine Zd ?_
  refine zQD [1,2,3,7,44] [none,none] ?_
  refine Zs (t:=(cond (decide (s0_.2 < (a0.Kids.length:Int))) (decide (0≤s0_.1)) false)) rfl (fun c9 => ?_) (fun c9 => ?_)
  ·replace hs0_:=Zr c9 hs0_
   refine Jh [1,2,3,7] [true] ?_
   refine Zd ?_
   refine Yc ?_
   obtain ⟨x6,hx6,ax6,bx6,cx6,hs0_⟩:=bE (f:=Zo) Zsd (fun _=>rfl) (by decide) hs0_
   have g7:=Zi2 (f:=Zo) (off:=1) (sz:=12) Zx9 (fun _=>rfl) (by decide) (by decide) hx6
   obtain ⟨y8,hy8,hs0_⟩:=bC hs0_
   refine Z3g [] ax6 bx6 cx6 g7 ?_
   refine (Zjy hy8).then ?_
   refine zF4 ax6 bx6 cx6 g7 ?_
   refine zD [1,2,3,7] [true] ?_
   refine zR ?_
   exact zEn hs0_
  replace hs0_:=Zq c9 hs0_
  exact zEx hs0_
 try simp only [Xc,Yp,↓reduceIte,Nat.reduceEqDiff]
 refine zDs [1,2,3] [true] ?_
 refine zQd [1,2,3,8] [1,2,3,8] [true] ?_
 obtain ⟨z27,hz27,h⟩:=bC h
 refine Y3 (E':=⟨107,[],[(2,(vI z27))]⟩) (O':=(Z0 O n [none])) (n0:=(n+1)) ?_ ?_
 ·refine Xf hz27 (fun s1_=>⟨107,[],[(1,(vI a1)),(2,(vI s1_.1)),(3,.ref n 0),(8,(vI s1_.2))]⟩) (fun s1_=>(Z0 O n [some ⟨false,30,11,1,(Zm a0)⟩])) (fun z27=>JX 2 n (⟨107,[],[(2,(vI z27))]⟩:Env) (Z0 O n [none]) (n+1)) ?_
  intro s1_ x1_ hs1_
  unfold Xq at hs1_
  try dsimp only
  refine Zd ?_
  refine zQD [1,2,3,8,65] [none,none] ?_
  refine Zs (t:=(cond (decide (s1_.2 < (a0.Ops.length:Int))) (decide (0≤s1_.1)) false)) rfl (fun c26 => ?_) (fun c26 => ?_)
  ·replace hs1_:=Zr c26 hs1_
   refine Jh [1,2,3,8] [true] ?_
   obtain ⟨z11,hz11,hs1_⟩:=bC hs1_
   refine Y8 (E':=⟨107,[],[(1,(vI a1)),(2,(vI z11)),(3,.ref n 0),(8,(vI s1_.2))]⟩) (O':=(Z0 O n [some ⟨false,30,11,1,(Zm a0)⟩])) (n0:=(n+1)) ?_ ?_
   ·refine Yc ?_
    refine Zd ?_
    refine zQd [1,2,3,8,9] [1,2,3,8,9] [true] ?_
    obtain ⟨z21,hz21,hz11⟩:=bC hz11
    refine Y3 (E':=⟨107,[],[(1,(vI a1)),(2,(vI z21)),(3,.ref n 0),(8,(vI s1_.2))]⟩) (O':=(Z0 O n [some ⟨false,30,11,1,(Zm a0)⟩])) (n0:=(n+1)) ?_ ?_
    ·refine Xf hz21 (fun s2_=>⟨107,[],[(1,(vI a1)),(2,(vI s2_.1)),(3,.ref n 0),(8,(vI s1_.2)),(9,(vI s2_.2))]⟩) (fun s2_=>(Z0 O n [some ⟨false,30,11,1,(Zm a0)⟩])) (fun z21=>JX 4 n (⟨107,[],[(1,(vI a1)),(2,(vI z21)),(3,.ref n 0),(8,(vI s1_.2))]⟩:Env) (Z0 O n [some ⟨false,30,11,1,(Zm a0)⟩]) (n+1)) ?_
     intro s2_ x2_ hs2_
     unfold Xr at hs2_
     try dsimp only
     refine Zd ?_
     obtain ⟨x14,hx14,ax14,bx14,cx14,hs2_⟩:=bE (f:=Zz) Zmj (fun _=>rfl) (by decide) hs2_
     have g15:=Zi2 (f:=Zz) (off:=2) (sz:=14) Z4m (fun _=>rfl) (by decide) (by decide) hx14
     refine Zlp [1,2,3,8,9,80] (Yx Zv [none,none] ?_)
     refine zF4 ax14 bx14 cx14 g15 ?_
     refine zG ?_
     refine Zs (t:=(cond (decide (s2_.2 < (x14.L.length:Int))) (decide (0≤s2_.1)) false)) rfl (fun c20 => ?_) (fun c20 => ?_)
     ·replace hs2_:=Zr c20 hs2_
      refine Jh [1,2,3,8,9] [true] ?_
      refine Zd ?_
      refine Yc ?_
      obtain ⟨x16,hx16,ax16,bx16,cx16,hs2_⟩:=bE (f:=Zz) Zmj (fun _=>rfl) (by decide) hs2_
      have g17:=Zi2 (f:=Zz) (off:=2) (sz:=14) Z4m (fun _=>rfl) (by decide) (by decide) hx16
      obtain ⟨x18,hx18,ax18,bx18,cx18,hs2_⟩:=bE (f:=Zc) Zfz (fun _=>rfl) (by decide) hs2_
      obtain ⟨y19,hy19,hs2_⟩:=bC hs2_
      refine Ykt [] ax16 bx16 cx16 g17 ax18 bx18 cx18 ?_
      refine (Zej hy19).then ?_
      refine zF7 ax16 bx16 cx16 g17 ax18 bx18 cx18 ?_
      refine zD [1,2,3,8,9] [true] ?_
      refine zR ?_
      exact zEn hs2_
     replace hs2_:=Zq c20 hs2_
     exact zEx hs2_
    try simp only [Xc,Yp,↓reduceIte,Nat.reduceEqDiff]
    refine zD [1,2,3,8] [true] ?_
    refine zQ [1,2,3,8,95] ?_
    refine Zs (t:=(decide (0≤z21))) rfl (fun c25 => ?_) (fun c25 => ?_)
    ·replace hz11:=Zr c25 hz11
     obtain ⟨x22,hx22,ax22,bx22,cx22,hz11⟩:=bE (f:=Zz) Zmj (fun _=>rfl) (by decide) hz11
     have g23:=Zi2 (f:=Zz) (off:=3) (sz:=14) Zx9 (fun _=>rfl) (by decide) (by decide) hx22
     obtain ⟨y24,hy24,hz11⟩:=bC hz11
     refine Z3g [] ax22 bx22 cx22 g23 ?_
     refine (Zjy hy24).then ?_
     refine zF4 ax22 bx22 cx22 g23 ?_
     exact Ykp hz11 ax22 bx22 cx22 g23
    replace hz11:=Zq c25 hz11
    refine zK ?_
    exact zEn hz11
   refine zR ?_
   exact zEn hs1_
  replace hs1_:=Zq c26 hs1_
  exact zEx hs1_
 try simp only [Xc,Yp,↓reduceIte,Nat.reduceEqDiff]
 refine zD [2] [false] ?_
 refine zQ [6] ?_
 refine zW ?_
 have h:=Option.some.inj h;subst h
 refine Zi (.inr rfl) hU [(vI z27)] (by omega) ?_
 simp only [push_cast,seval,↓reduceIte,Zb,Tryz.results67,hN0,hN]
theorem Zpu:∀ k,(Zjx (Z8 k)):=fun k=>by
 induction k with
 | zero=>exact @fun a0 a1 a2 r O n h=>(nomatch (show (none:Option _)=some _ from h))
 | succ k ih=>exact @fun a0 a1 a2 r O n h=>Zr6 (ih)  h
theorem Zsn {a0:Zh} {a1:Int} {a2:Int} {r:Int} {O:Objs} {n:Nat} (h:Zba a0 a1 a2=some r):GTo Tryz.prog 67 [.agg (Zm a0),(vI a1),(vI a2)] O n ((vI r)) O n:=by
 obtain ⟨k,hk⟩:=Zcv h
 exact (Zpu k)  hk
theorem Zii {a0:Zh} {r:Bool} {O:Objs} {n:Nat} (h:Jr a0=some r):GTo Tryz.prog 25 [.agg (Zm a0)] O n ((vB r)) O n:=by
 unfold Jr at h
 refine Yo Zv Tryz.call25 Tryz.func25 rfl (Nat.le_of_ble_eq_true rfl) (Nat.le_refl _) fun hU => ?_
 have hN0:O n=none:=hU.fresh _ (Nat.le_refl _)
 have hN:∀ k,O (n+k)=none:=fun k=>hU.fresh _ (Nat.le_add_right _ _)
 show W _ _ _ _ ⟨6,[],[(0,.agg (Zm a0))]⟩ (Z0 O n []) _
 refine zQ [1] ?_
 refine Zd ?_
 obtain ⟨y2,hy2,h⟩:=bC h
 refine zCd (Zsn hy2) [2] [false] ?_
 refine zW ?_
 have h:=Option.some.inj h;subst h
 refine Zi (.inr rfl) hU [(vB (decide (0≤y2)))] (by omega) ?_
 simp only [push_cast,seval,↓reduceIte,Zb,Tryz.results25,hN0,hN]
theorem V7 {a0:Za} {r:Bool} {O:Objs} {n:Nat} (h:J4 a0=some r):GTo Tryz.prog 68 [.agg (Zj a0)] O n ((vB r)) O n:=by
 unfold J4 at h
 refine Yo Zv Tryz.call68 Tryz.func68 rfl (Nat.le_of_ble_eq_true rfl) (Nat.le_refl _) fun hU => ?_
 have hN0:O n=none:=hU.fresh _ (Nat.le_refl _)
 have hN:∀ k,O (n+k)=none:=fun k=>hU.fresh _ (Nat.le_add_right _ _)
 show W _ _ _ _ ⟨16,[],[(0,.agg (Zj a0))]⟩ (Z0 O n []) _
 refine zQ [1] ?_
 refine zQD [2] [none,none,none,none,none,none,none,none] ?_
 refine zW ?_
 have h:=Option.some.inj h;subst h
 refine Zi (.inr rfl) hU [(vB (cond (a0.Kind == 0) ((IntKind.i64.wrap ((a0.Words.length:Int)+(a0.Kids.length:Int))) == 0) false))] (by omega) ?_
 simp only [push_cast,seval,↓reduceIte,Zb,Tryz.results68,hN0,hN]
theorem Zkf {a0:Int} {r:(Arr Int 8)} {O:Objs} {n:Nat} (h:V4 a0=some r):GTo Tryz.prog 171 [.val (.int .u64 a0)] O n (.agg (fl (eI .u8) r.1)) O n:=by
 unfold V4 at h
 refine Yo Zv Tryz.call171 Tryz.func171 rfl (Nat.le_of_ble_eq_true rfl) (Nat.le_refl _) fun hU => ?_
 have hN0:O n=none:=hU.fresh _ (Nat.le_refl _)
 have hN:∀ k,O (n+k)=none:=fun k=>hU.fresh _ (Nat.le_add_right _ _)
 show W _ _ _ _ ⟨18,[],[(0,.val (.int .u64 a0))]⟩ (Z0 O n []) _
 obtain ⟨y3,hy3,ey3,h⟩:=bY (f:=(eI .u8)) (cs:=[.val (.int .u8 0),.val (.int .u8 0),.val (.int .u8 0),.val (.int .u8 0),.val (.int .u8 0),.val (.int .u8 0),.val (.int .u8 0),.val (.int .u8 0)]) rfl h
 have g4:=congrArg (GObj.mk false 185 8 1) ey3
 refine Ypq [0,2] g4 ?_
 refine Zd ?_
 obtain ⟨y9,hy9,ey9,h⟩:=bY (f:=(eI .u8)) (cs:=[.val (.int .u8 0),.val (.int .u8 0),.val (.int .u8 0),.val (.int .u8 0),.val (.int .u8 0),.val (.int .u8 0),.val (.int .u8 0),.val (.int .u8 0)]) rfl h
 have g10:=congrArg G.agg ey9
 have g11:=congrArg (GObj.mk false 185 8 1) ey9
 have g12:=Zi3 (f:=(eI .u8)) y9 y9 (fun _=>rfl)
 refine Zhd [] g10 g11 g12 ?_
 refine zDs [0,2,3] [true,true] ?_
 refine zQd [0,2,3,4] [0,2,3,4] [true,true] ?_
 obtain ⟨z18,hz18,h⟩:=bC h
 refine Y3 (E':=⟨18,[],[(2,.ref n 0),(3,.ref (n+1) 0)]⟩) (O':=(Z0 O n [some ⟨false,185,8,1,fl (eI .u8) y3.1⟩,some ⟨false,185,8,1,fl (eI .u8) z18.1⟩])) (n0:=(n+2)) ?_ ?_
 ·refine Xf hz18 (fun s0_=>⟨18,[],[(0,.val (.int .u64 s0_.1)),(2,.ref n 0),(3,.ref (n+1) 0),(4,(vI s0_.2.1))]⟩) (fun s0_=>(Z0 O n [some ⟨false,185,8,1,fl (eI .u8) y3.1⟩,some ⟨false,185,8,1,fl (eI .u8) s0_.2.2.1⟩])) (fun z18=>JX 0 n (⟨18,[],[(2,.ref n 0),(3,.ref (n+1) 0)]⟩:Env) (Z0 O n [some ⟨false,185,8,1,fl (eI .u8) y3.1⟩,some ⟨false,185,8,1,fl (eI .u8) z18.1⟩]) (n+2)) ?_
  intro s0_ x0_ hs0_
  unfold V1 at hs0_
  try dsimp only
  refine Zd ?_
  refine zQ [0,2,3,4,7] ?_
  refine Zs (t:=(decide (s0_.2.1 < 8))) rfl (fun c17 => ?_) (fun c17 => ?_)
  ·replace hs0_:=Zr c17 hs0_
   refine Jh [0,2,3,4] [true,true] ?_
   refine Zd ?_
   refine Yc ?_
   refine Zd ?_
   obtain ⟨x15,hx15,ax15,bx15,cx15,hs0_⟩:=bEA (f:=(eI .u8)) (b:=8) rfl Z72 (fun _=>rfl) (by decide) hs0_
   have gu16:U3 (fl (eI .u8) s0_.2.2.1) [.val (.int .u8 (IntKind.u8.wrap (Int.tmod s0_.1 256)))] (Int.toNat s0_.2.1 * 1)=some (fl (eI .u8) (Jo s0_.2.2.1 s0_.2.1 (IntKind.u8.wrap (Int.tmod s0_.1 256)))):=Zi4 (f:=(eI .u8)) (ti:=⟨.bool,1,0,[],false⟩) (x:=(IntKind.u8.wrap (Int.tmod s0_.1 256))) (fun _=>rfl) (Ze0 hx15)
   refine Z3g [] ax15 bx15 cx15 gu16 ?_
   refine zD [0,2,3,4] [true,true] ?_
   refine zRd [0,2,3,4] [true,true] ?_
   refine zR ?_
   exact zEn hs0_
  replace hs0_:=Zq c17 hs0_
  exact zEx hs0_
 try simp only [Xc,Yp,↓reduceIte,Nat.reduceEqDiff]
 refine zDs [2,3] [true,true] ?_
 have g21:=Z4a (f:=(eI .u8)) z18 Zxv rfl (fun _=>rfl) rfl
 have g22:=Zi3 (f:=(eI .u8)) y3 z18 (fun _=>rfl)
 refine Qf [] g21 g22 ?_
 refine zD [2] [true,false] ?_
 refine zW ?_
 have h:=Option.some.inj h;subst h
 have gR0:=Z4a (f:=(eI .u8)) z18 Zxv rfl (fun _=>rfl) rfl
 refine Zi (.inr rfl) hU [.agg (fl (eI .u8) z18.1)] (by omega) ?_
 simp only [push_cast,seval,↓reduceIte,Zb,Tryz.results171,hN0,hN,gR0]
theorem Zr0 {a0:Int} {a1:Int} {r:Bool} {O:Objs} {n:Nat} (h:Zac a0 a1=some r):GTo Tryz.prog 172 [.val (.int .u8 a0),(vI a1)] O n ((vB r)) O n:=by
 unfold Zac at h
 refine Yo Zv Tryz.call172 Tryz.func172 rfl (Nat.le_of_ble_eq_true rfl) (Nat.le_refl _) fun hU => ?_
 have hN0:O n=none:=hU.fresh _ (Nat.le_refl _)
 have hN:∀ k,O (n+k)=none:=fun k=>hU.fresh _ (Nat.le_add_right _ _)
 show W _ _ _ _ ⟨16,[],[(0,.val (.int .u8 a0)),(1,(vI a1))]⟩ (Z0 O n []) _
 refine zQ [0,1] ?_
 refine Zd ?_
 refine zQd [0,1,5] [0,1,5] [] ?_
 obtain ⟨z2,hz2,h⟩:=bC h
 refine Y3 (E':=⟨16,[],[(0,.val (.int .u8 z2))]⟩) (O':=(Z0 O n [])) (n0:=n) ?_ ?_
 ·refine Xf hz2 (fun s0_=>⟨16,[],[(0,.val (.int .u8 s0_.1)),(1,(vI a1)),(5,(vI s0_.2))]⟩) (fun s0_=>(Z0 O n [])) (fun z2=>JX 0 n (⟨16,[],[(0,.val (.int .u8 z2))]⟩:Env) (Z0 O n []) n) ?_
  intro s0_ x0_ hs0_
  unfold Kb at hs0_
  try dsimp only
  refine Zd ?_
  refine zQ [0,1,5,8] ?_
  refine Zs (t:=(decide (s0_.2 < a1))) rfl (fun c1 => ?_) (fun c1 => ?_)
  ·replace hs0_:=Zr c1 hs0_
   refine Jh [0,1,5] [] ?_
   refine Zd ?_
   refine Yc ?_
   refine zRd [0,1,5] [] ?_
   refine zR ?_
   exact zEn hs0_
  replace hs0_:=Zq c1 hs0_
  exact zEx hs0_
 try simp only [Xc,Yp,↓reduceIte,Nat.reduceEqDiff]
 refine zD [0] [] ?_
 refine zQ [4] ?_
 refine zW ?_
 have h:=Option.some.inj h;subst h
 refine Zi (.inr rfl) hU [(vB ((Int.tmod z2 2) == 1))] (by omega) ?_
 simp only [push_cast,seval,↓reduceIte,Zb,Tryz.results172,hN0,hN]
theorem Zxk {a0:(List Int)} {a1:Int} {r:Int} {O:Objs} {n:Nat} (h:Zgj a0 a1=some r):GTo Tryz.prog 173 [(sL (eI .u8) a0),(vI a1)] O n (.val (.int .u64 r)) O n:=by
 unfold Zgj at h
 refine Yo Zv Tryz.call173 Tryz.func173 rfl (Nat.le_of_ble_eq_true rfl) (Nat.le_refl _) fun hU => ?_
 have hN0:O n=none:=hU.fresh _ (Nat.le_refl _)
 have hN:∀ k,O (n+k)=none:=fun k=>hU.fresh _ (Nat.le_add_right _ _)
 show W _ _ _ _ ⟨22,[],[(0,(sL (eI .u8) a0)),(1,(vI a1))]⟩ (Z0 O n []) _
 refine zQ [0,1] ?_
 refine zQ [0,1,5] ?_
 refine Zd ?_
 refine zQd [0,1,5,6] [0,1,5,6] [] ?_
 obtain ⟨z3,hz3,h⟩:=bC h
 refine Y3 (E':=⟨22,[],[(5,.val (.int .u64 z3))]⟩) (O':=(Z0 O n [])) (n0:=n) ?_ ?_
 ·refine Xf hz3 (fun s0_=>⟨22,[],[(0,(sL (eI .u8) a0)),(1,(vI a1)),(5,.val (.int .u64 s0_.1)),(6,(vI s0_.2))]⟩) (fun s0_=>(Z0 O n [])) (fun z3=>JX 0 n (⟨22,[],[(5,.val (.int .u64 z3))]⟩:Env) (Z0 O n []) n) ?_
  intro s0_ x0_ hs0_
  unfold Zad at hs0_
  try dsimp only
  refine Zd ?_
  refine zQ [0,1,5,6,8] ?_
  refine Zs (t:=(decide (0≤s0_.2))) rfl (fun c2 => ?_) (fun c2 => ?_)
  ·replace hs0_:=Zr c2 hs0_
   refine Jh [0,1,5,6] [] ?_
   refine Zd ?_
   refine Yc ?_
   obtain ⟨x1,hx1,ax1,bx1,cx1,hs0_⟩:=bE (f:=(eI .u8)) Z72 (fun _=>rfl) (by decide) hs0_
   refine Zec [] ax1 bx1 cx1 ?_
   refine zD [0,1,5,6] [] ?_
   refine zR ?_
   exact zEn hs0_
  replace hs0_:=Zq c2 hs0_
  exact zEx hs0_
 try simp only [Xc,Yp,↓reduceIte,Nat.reduceEqDiff]
 refine zD [5] [] ?_
 refine zQ [4] ?_
 refine zW ?_
 have h:=Option.some.inj h;subst h
 refine Zi (.inr rfl) hU [.val (.int .u64 z3)] (by omega) ?_
 simp only [push_cast,seval,↓reduceIte,Zb,Tryz.results173,hN0,hN]
theorem Zt4 {a0:Int} {a1:Int} {a2:Int} {r:Int} {O:Objs} {n:Nat} (h:Zcw a0 a1 a2=some r):GTo Tryz.prog 112 [.val (.int .u64 a0),.val (.int .u64 a1),.val (.int .u8 a2)] O n (.val (.int .u64 r)) O n:=by
 unfold Zcw at h
 refine Yo Zv Tryz.call112 Tryz.func112 rfl (Nat.le_of_ble_eq_true rfl) (Nat.le_refl _) fun hU => ?_
 have hN0:O n=none:=hU.fresh _ (Nat.le_refl _)
 have hN:∀ k,O (n+k)=none:=fun k=>hU.fresh _ (Nat.le_add_right _ _)
 show W _ _ _ _ ⟨28,[],[(0,.val (.int .u64 a0)),(1,.val (.int .u64 a1)),(2,.val (.int .u8 a2))]⟩ (Z0 O n []) _
 refine zQ [0,1,2] ?_
 refine Zd ?_
 obtain ⟨y8,hy8,h⟩:=bC h
 obtain ⟨y9,hy9,h⟩:=bC h
 obtain ⟨y10,hy10,ey10,h⟩:=bY (f:=(eI .u8)) (cs:=[.val (.int .u8 0),.val (.int .u8 0),.val (.int .u8 0),.val (.int .u8 0),.val (.int .u8 0),.val (.int .u8 0),.val (.int .u8 0),.val (.int .u8 0)]) rfl h
 have g11:=congrArg (GObj.mk false 185 8 1) ey10
 have g12:=congrArg (GObj.mk false 185 8 1) ey10
 have g13:=Zi3 (f:=(eI .u8)) y10 y8 (fun _=>rfl)
 have g14:=Zi3 (f:=(eI .u8)) y10 y9 (fun _=>rfl)
 refine Zqr [] g11 g12 g13 g14 ?_
 refine (Zkf hy8).then ?_
 refine zX4 g11 g12 g13 g14 ?_
 refine (Zkf hy9).then ?_
 refine zX4 g11 g12 g13 g14 ?_
 refine zDs [2,7,8] [true,true] ?_
 refine zQd [2,7,8,9] [2,7,8,9] [true,true] ?_
 obtain ⟨z23,hz23,h⟩:=bC h
 refine Y3 (E':=⟨28,[],[(7,.ref n 0)]⟩) (O':=(Z0 O n [some ⟨false,185,8,1,fl (eI .u8) z23.1⟩,none])) (n0:=(n+2)) ?_ ?_
 ·refine Xf hz23 (fun s0_=>⟨28,[],[(2,.val (.int .u8 a2)),(7,.ref n 0),(8,.ref (n+1) 0),(9,(vI s0_.1))]⟩) (fun s0_=>(Z0 O n [some ⟨false,185,8,1,fl (eI .u8) s0_.2.1⟩,some ⟨false,185,8,1,fl (eI .u8) y9.1⟩])) (fun z23=>JX 0 n (⟨28,[],[(7,.ref n 0)]⟩:Env) (Z0 O n [some ⟨false,185,8,1,fl (eI .u8) z23.1⟩,none]) (n+2)) ?_
  intro s0_ x0_ hs0_
  unfold Gb at hs0_
  try dsimp only
  refine Zd ?_
  refine zQ [2,7,8,9,15] ?_
  refine Zs (t:=(decide (s0_.1 < 8))) rfl (fun c22 => ?_) (fun c22 => ?_)
  ·replace hs0_:=Zr c22 hs0_
   refine Jh [2,7,8,9] [true,true] ?_
   obtain ⟨z15,hz15,hs0_⟩:=bC hs0_
   refine Y8 (E':=⟨28,[],[(2,.val (.int .u8 a2)),(7,.ref n 0),(8,.ref (n+1) 0),(9,(vI s0_.1))]⟩) (O':=(Z0 O n [some ⟨false,185,8,1,fl (eI .u8) z15.1⟩,some ⟨false,185,8,1,fl (eI .u8) y9.1⟩])) (n0:=(n+2)) ?_ ?_
   ·refine Yc ?_
    refine Zd ?_
    obtain ⟨y17,hy17,hz15⟩:=bC hz15
    refine zCd (Zr0 hy17) [2,7,8,9,20] [true,true] ?_
    refine Zs (t:=y17) rfl (fun c21 => ?_) (fun c21 => ?_)
    ·replace hz15:=Zr c21 hz15
     obtain ⟨x18,hx18,ax18,bx18,cx18,hz15⟩:=bEA (f:=(eI .u8)) (b:=8) rfl Z72 (fun _=>rfl) (by decide) hz15
     obtain ⟨x19,hx19,ax19,bx19,cx19,hz15⟩:=bEA (f:=(eI .u8)) (b:=8) rfl Z72 (fun _=>rfl) (by decide) hz15
     have gu20:U3 (fl (eI .u8) s0_.2.1) [.val (.int .u8 x18)] (Int.toNat s0_.1 * 1)=some (fl (eI .u8) (Jo s0_.2.1 s0_.1 x18)):=Zi4 (f:=(eI .u8)) (ti:=⟨.bool,1,0,[],false⟩) (x:=x18) (fun _=>rfl) (Ze0 hx19)
     refine Ykt [] ax18 bx18 cx18 ax19 bx19 cx19 gu20 ?_
     exact Ykr hz15 ax18 bx18 cx18 ax19 bx19 cx19 gu20
    replace hz15:=Zq c21 hz15
    refine zK ?_
    exact zEn hz15
   refine zR ?_
   exact zEn hs0_
  replace hs0_:=Zq c22 hs0_
  exact zEx hs0_
 try simp only [Xc,Yp,↓reduceIte,Nat.reduceEqDiff]
 refine zDs [7] [true,false] ?_
 have g27:=Ya9 (j:=n) Zqn Z72 (by decide)
 have g28:=z23.2
 obtain ⟨y29,hy29,h⟩:=bC h
 refine Qf [] g27 g28 ?_
 refine GCalls.lend (Zxk hy29) rfl ?_ ?_
 ·exact Ko g27 g28
 refine zX2 g27 g28 ?_
 refine zD [6] [false,false] ?_
 refine zW ?_
 have h:=Option.some.inj h;subst h
 refine Zi (.inr rfl) hU [.val (.int .u64 y29)] (by omega) ?_
 simp only [push_cast,seval,↓reduceIte,Zb,Tryz.results112,hN0,hN]
theorem Zfb {a0:Int} {a1:Int} {r:Bool} {O:Objs} {n:Nat} (h:Vo a0 a1=some r):GTo Tryz.prog 69 [.val (.int .u64 a0),.val (.int .u8 a1)] O n ((vB r)) O n:=by
 unfold Vo at h
 refine Yo Zv Tryz.call69 Tryz.func69 rfl (Nat.le_of_ble_eq_true rfl) (Nat.le_refl _) fun hU => ?_
 have hN0:O n=none:=hU.fresh _ (Nat.le_refl _)
 have hN:∀ k,O (n+k)=none:=fun k=>hU.fresh _ (Nat.le_add_right _ _)
 show W _ _ _ _ ⟨9,[],[(0,.val (.int .u64 a0)),(1,.val (.int .u8 a1))]⟩ (Z0 O n []) _
 refine zQ [0,1] ?_
 refine Zd ?_
 obtain ⟨y2,hy2,h⟩:=bC h
 refine zCd (Zt4 hy2) [4] [] ?_
 refine zW ?_
 have h:=Option.some.inj h;subst h
 refine Zi (.inr rfl) hU [(vB (y2 == 0))] (by omega) ?_
 simp only [push_cast,seval,↓reduceIte,Zb,Tryz.results69,hN0,hN]
theorem Zk6 {a0:Zh} {r:Bool} {O:Objs} {n:Nat} (h:Uv a0=some r):GTo Tryz.prog 113 [.agg (Zm a0)] O n ((vB r)) O n:=by
 unfold Uv at h
 refine Yo Zv Tryz.call113 Tryz.func113 rfl (Nat.le_of_ble_eq_true rfl) (Nat.le_refl _) fun hU => ?_
 have hN0:O n=none:=hU.fresh _ (Nat.le_refl _)
 have hN:∀ k,O (n+k)=none:=fun k=>hU.fresh _ (Nat.le_add_right _ _)
 show W _ _ _ _ ⟨35,[],[(0,.agg (Zm a0))]⟩ (Z0 O n []) _
 refine zQ [1] ?_
 obtain ⟨z3,hz3,h⟩:=bC h
 refine Y8 (E':=⟨35,[],[(2,(vB z3))]⟩) (O':=(Z0 O n [none])) (n0:=(n+1)) ?_ ?_
 ·rcases Bool.eq_false_or_eq_true (a0.Kind == 0) with c8 | c8
  ·replace hz3:=Zr c8 hz3
   obtain ⟨y6,hy6,hz3⟩:=bC hz3
   rcases Bool.eq_false_or_eq_true y6 with c9 | c9
   ·replace hz3:=Zr c9 hz3
    try rw [c9] at c8
    obtain ⟨y7,hy7,hz3⟩:=bC hz3
    refine Qf [some true,some true,some true,some true,some true,some true,none,none,none,none,none,none,none,none,none,none,none,none,none,none,none] c8 c9 ?_
    refine zG ?_
    refine (V7 hy6).then ?_
    refine zX2 c8 c9 ?_
    refine zG ?_
    refine (V7 hy7).then ?_
    refine zX2 c8 c9 ?_
    refine zG ?_
    exact Zbz hz3 c8 c9
   replace hz3:=Zq c9 hz3
   try rw [c9] at c8
   refine Qf [some true,some true,some true,some false,some false,some false,some false,some false,some false,some false,some false,some false,some false,some false,some false,some false,some false,some false,some false,some false,some false] c8 c9 ?_
   refine (V7 hy6).then ?_
   refine zX2 c8 c9 ?_
   exact Zbz hz3 c8 c9
  replace hz3:=Zq c8 hz3
  refine Ks [some false,some false,some false,some false,some false,some false,some false,some false,some false,some false,some false,some false,some false,some false,some false,some false,some false,some false,some false,some false,some false] c8 ?_
  exact J7 hz3 c8
 refine zW ?_
 have h:=Option.some.inj h;subst h
 refine Zi (.inr rfl) hU [(vB z3)] (by omega) ?_
 simp only [push_cast,seval,↓reduceIte,Zb,Tryz.results113,hN0,hN]
theorem Ziz {a0:Zh} {r:(Int×Int)} {O:Objs} {n:Nat} (h:K3 a0=some r):GTo Tryz.prog 71 [.agg (Zm a0)] O n (.tup [(vI r.1),(vI r.2)]) O n:=by
 unfold K3 at h
 refine Yo Zv Tryz.call71 Tryz.func71 rfl (Nat.le_of_ble_eq_true rfl) (Nat.le_refl _) fun hU => ?_
 have hN0:O n=none:=hU.fresh _ (Nat.le_refl _)
 have hN:∀ k,O (n+k)=none:=fun k=>hU.fresh _ (Nat.le_add_right _ _)
 show W _ _ _ _ ⟨48,[],[(0,.agg (Zm a0))]⟩ (Z0 O n []) _
 refine zQ [1] ?_
 refine zQ [1,4,5] ?_
 refine Zd ?_
 refine zQd [1,4,5,6] [1,4,5,6] [true] ?_
 obtain ⟨z14,hz14,h⟩:=bC h
 refine Y3 (E':=⟨48,[],[(4,(vI z14.1)),(5,(vI z14.2))]⟩) (O':=(Z0 O n [none])) (n0:=(n+1)) ?_ ?_
 ·refine Xf hz14 (fun s0_=>⟨48,[],[(1,.ref n 0),(4,(vI s0_.1)),(5,(vI s0_.2.1)),(6,(vI s0_.2.2))]⟩) (fun s0_=>(Z0 O n [some ⟨false,30,11,1,(Zm a0)⟩])) (fun z14=>JX 0 n (⟨48,[],[(4,(vI z14.1)),(5,(vI z14.2))]⟩:Env) (Z0 O n [none]) (n+1)) ?_
  intro s0_ x0_ hs0_
  unfold K4 at hs0_
  try dsimp only
  refine Zd ?_
  refine zQ [1,4,5,6,13] ?_
  refine Zs (t:=(decide (s0_.2.2 < (a0.Ops.length:Int)))) rfl (fun c13 => ?_) (fun c13 => ?_)
  ·replace hs0_:=Zr c13 hs0_
   refine Jh [1,4,5,6] [true] ?_
   obtain ⟨z1,hz1,hs0_⟩:=bC hs0_
   refine Y8 (E':=⟨48,[],[(1,.ref n 0),(4,(vI z1.1)),(5,(vI z1.2)),(6,(vI s0_.2.2))]⟩) (O':=(Z0 O n [some ⟨false,30,11,1,(Zm a0)⟩,none])) (n0:=(n+2)) ?_ ?_
   ·refine Yc ?_
    refine Zd ?_
    obtain ⟨x3,hx3,ax3,bx3,cx3,hz1⟩:=bE (f:=Zz) Zmj (fun _=>rfl) (by decide) hz1
    refine Zec [] ax3 bx3 cx3 ?_
    refine zD [1,4,5,6,7] [true,true] ?_
    refine zQ [1,4,5,6,7,8] ?_
    obtain ⟨z4,hz4,hz1⟩:=bC hz1
    refine Y8 (E':=⟨48,[],[(1,.ref n 0),(4,(vI s0_.1)),(5,(vI s0_.2.1)),(6,(vI s0_.2.2)),(7,.ref (n+1) 0),(8,(vI z4))]⟩) (O':=(Z0 O n [some ⟨false,30,11,1,(Zm a0)⟩,some ⟨false,89,14,1,(Y4 x3)⟩])) (n0:=(n+2)) ?_ ?_
    ·refine zQ [1,4,5,6,7,8,29] ?_
     refine Zs (t:=(x3.Kind == 3)) rfl (fun c5 => ?_) (fun c5 => ?_)
     ·replace hz4:=Zr c5 hz4
      refine zR ?_
      exact zEn hz4
     replace hz4:=Zq c5 hz4
     refine zK ?_
     exact zEn hz4
    obtain ⟨z6,hz6,hz1⟩:=bC hz1
    refine Y8 (E':=⟨48,[],[(1,.ref n 0),(4,(vI z6)),(5,(vI s0_.2.1)),(6,(vI s0_.2.2)),(7,.ref (n+1) 0),(8,(vI z4))]⟩) (O':=(Z0 O n [some ⟨false,30,11,1,(Zm a0)⟩,some ⟨false,89,14,1,(Y4 x3)⟩])) (n0:=(n+2)) ?_ ?_
    ·refine zQ [1,4,5,6,7,8,32] ?_
     refine Zs (t:=(x3.Kind != 2)) rfl (fun c7 => ?_) (fun c7 => ?_)
     ·replace hz6:=Zr c7 hz6
      refine zR ?_
      exact zEn hz6
     replace hz6:=Zq c7 hz6
     refine zK ?_
     exact zEn hz6
    obtain ⟨z8,hz8,hz1⟩:=bC hz1
    refine Y8 (E':=⟨48,[],[(1,.ref n 0),(4,(vI z6)),(5,(vI z8)),(6,(vI s0_.2.2))]⟩) (O':=(Z0 O n [some ⟨false,30,11,1,(Zm a0)⟩,none])) (n0:=(n+2)) ?_ ?_
    ·refine zQ [1,4,5,6,8,38] ?_
     refine Zs (t:=(x3.Kind != 1)) rfl (fun c9 => ?_) (fun c9 => ?_)
     ·replace hz8:=Zr c9 hz8
      refine zR ?_
      exact zEn hz8
     replace hz8:=Zq c9 hz8
     refine zK ?_
     exact zEn hz8
    obtain ⟨z10,hz10,hz1⟩:=bC hz1
    refine Y8 (E':=⟨48,[],[(1,.ref n 0),(4,(vI z10)),(5,(vI z8)),(6,(vI s0_.2.2))]⟩) (O':=(Z0 O n [some ⟨false,30,11,1,(Zm a0)⟩,none])) (n0:=(n+2)) ?_ ?_
    ·refine zQ [1,4,5,6,43] ?_
     refine Zs (t:=(decide (1048576 < z6))) rfl (fun c11 => ?_) (fun c11 => ?_)
     ·replace hz10:=Zr c11 hz10
      refine zR ?_
      exact zEn hz10
     replace hz10:=Zq c11 hz10
     refine zK ?_
     exact zEn hz10
    refine zQ [1,4,5,6,45] ?_
    refine Zs (t:=(decide (1048576 < z8))) rfl (fun c12 => ?_) (fun c12 => ?_)
    ·replace hz1:=Zr c12 hz1
     refine zR ?_
     exact zEn hz1
    replace hz1:=Zq c12 hz1
    refine zK ?_
    exact zEn hz1
   refine zR ?_
   exact zEn hs0_
  replace hs0_:=Zq c13 hs0_
  exact zEx hs0_
 try simp only [Xc,Yp,↓reduceIte,Nat.reduceEqDiff]
 refine zD [4,5] [false] ?_
 refine zQ [2,3] ?_
 refine zW ?_
 have h:=Option.some.inj h;subst h
 refine Zi (.inr rfl) hU [(vI z14.1),(vI z14.2)] (by omega) ?_
 simp only [push_cast,seval,↓reduceIte,Zb,Tryz.results71,hN0,hN]
def Zei (Xk:(Zh→Int→Option Bool)):Prop:=∀ {a0:Zh} {a1:Int} {r:Bool} {O:Objs} {n:Nat},Xk a0 a1=some r→GTo Tryz.prog 26 [.agg (Zm a0),(vI a1)] O n ((vB r)) O n
def Zgw (Qh:(Int→Zt→Int→Option Bool)):Prop:=∀ {a0:Int} {a1:Zt} {a2:Int} {r:Bool} {O:Objs} {n:Nat},Qh a0 a1 a2=some r→GTo Tryz.prog 70 [(vI a0),.agg (Y4 a1),(vI a2)] O n ((vB r)) O n
theorem Zqi {Xk:(Zh→Int→Option Bool)} {Qh:(Int→Zt→Int→Option Bool)} (Zek:Zei Xk) (Zla:Zgw Qh) {a0:Zh} {a1:Int} {r:Bool} {O:Objs} {n:Nat} (h:G0 Xk Qh a0 a1=some r):GTo Tryz.prog 26 [.agg (Zm a0),(vI a1)] O n ((vB r)) O n:=by
 unfold G0 at h
 refine Yo Zv Tryz.call26 Tryz.func26 rfl (Nat.le_of_ble_eq_true rfl) (Nat.le_refl _) fun hU => ?_
 have hN0:O n=none:=hU.fresh _ (Nat.le_refl _)
 have hN:∀ k,O (n+k)=none:=fun k=>hU.fresh _ (Nat.le_add_right _ _)
 show W _ _ _ _ ⟨216,[],[(0,.agg (Zm a0)),(1,(vI a1))]⟩ (Z0 O n []) _
 refine zQ [1,2] ?_
 refine Zd ?_
 refine zQD [1,2,24] [none,none,none,none,none,none] ?_
 refine Zs (t:=(cond (cond (a1 == 0) true (decide (a0.Kind < 0))) true (decide (3 < a0.Kind)))) rfl (fun c58 => ?_) (fun c58 => ?_)
 ·replace h:=Zr c58 h
  refine zQ [4] ?_
  refine zW ?_
  have h:=Option.some.inj h;subst h
  refine Zi (.inr rfl) hU [(vB false)] (by omega) ?_
  simp only [push_cast,seval,↓reduceIte,Zb,Tryz.results26,hN0,hN]
 replace h:=Zq c58 h
 refine Jh [1,2] [true] ?_
 refine Zd ?_
 obtain ⟨z3,hz3,h⟩:=bC h
 refine Y8 (E':=⟨216,[],[(1,(vI a1)),(2,.ref n 0),(69,(vB z3))]⟩) (O':=(Z0 O n [some ⟨false,30,11,1,(Zm a0)⟩])) (n0:=(n+1)) ?_ ?_
 ·rcases Bool.eq_false_or_eq_true (a0.Kind != 1) with c8 | c8
  ·replace hz3:=Zr c8 hz3
   obtain ⟨y6,hy6,hz3⟩:=bC hz3
   rcases Bool.eq_false_or_eq_true y6 with c9 | c9
   ·replace hz3:=Zr c9 hz3
    try rw [c9] at c8
    obtain ⟨y7,hy7,hz3⟩:=bC hz3
    refine Qf [some true,some true,some true,some true,some true,some true,some true,some true,some true,none,none,none,none,none,none,none,none,none,none,none,none,none,none,none,none,none,none,none,none,none,none,none,none,none,none,none] c8 c9 ?_
    refine zG ?_
    refine (V7 hy6).then ?_
    refine zX2 c8 c9 ?_
    refine zG ?_
    refine (V7 hy7).then ?_
    refine zX2 c8 c9 ?_
    refine zG ?_
    exact Zbz hz3 c8 c9
   replace hz3:=Zq c9 hz3
   try rw [c9] at c8
   refine Qf [some true,some true,some true,some true,some false,some false,some false,some true,some true,some false,some false,some false,some false,some false,some false,some false,some false,some false,some false,some false,some false,some false,some false,some false,some false,some false,some false,some false,some false,some false,some false,some false,some false,some false,some false,some false] c8 c9 ?_
   refine (V7 hy6).then ?_
   refine zX2 c8 c9 ?_
   exact Zbz hz3 c8 c9
  replace hz3:=Zq c8 hz3
  refine Ks [some false,some false,some false,some false,some false,some false,some false,some false,some false,some true,some true,some true,some true,none,none,none,none,none,none,none,none,some true,none,none,none,none,none,none,none,none,none,none,none,none,none,none] c8 ?_
  refine zG ?_
  exact J7 hz3 c8
 refine Zs (t:=z3) rfl (fun c57 => ?_) (fun c57 => ?_)
 ·replace h:=Zr c57 h
  refine zQ [4] ?_
  refine zW ?_
  have h:=Option.some.inj h;subst h
  refine Zi (.inr rfl) hU [(vB false)] (by omega) ?_
  simp only [push_cast,seval,↓reduceIte,Zb,Tryz.results26,hN0,hN]
 replace h:=Zq c57 h
 refine Jh [1,2] [true] ?_
 refine Zd ?_
 refine zQ [1,2,72] ?_
 refine Zs (t:=(a0.Kind == 1)) rfl (fun c56 => ?_) (fun c56 => ?_)
 ·replace h:=Zr c56 h
  obtain ⟨z12,hz12,h⟩:=bC h
  refine Y8 (E':=⟨216,[],[(4,(vB z12))]⟩) (O':=(Z0 O n [none])) (n0:=(n+1)) ?_ ?_
  ·obtain ⟨y15,hy15,hz12⟩:=bC hz12
   rcases Bool.eq_false_or_eq_true y15 with c17 | c17
   ·replace hz12:=Zr c17 hz12
    obtain ⟨y16,hy16,hz12⟩:=bC hz12
    refine Ks [some true,some true,some true,none,none,none,none,none,none,none,none] c17 ?_
    refine zG ?_
    refine (Zcb hy15).then ?_
    refine zX1 c17 ?_
    refine zG ?_
    refine (Zcb hy16).then ?_
    refine zX1 c17 ?_
    refine zG ?_
    exact J7 hz12 c17
   replace hz12:=Zq c17 hz12
   refine Ks [some false,some false,some false,some false,some false,some false,some false,some false,some false,some false,some false] c17 ?_
   refine (Zcb hy15).then ?_
   refine zX1 c17 ?_
   exact J7 hz12 c17
  refine zW ?_
  have h:=Option.some.inj h;subst h
  refine Zi (.inr rfl) hU [(vB z12)] (by omega) ?_
  simp only [push_cast,seval,↓reduceIte,Zb,Tryz.results26,hN0,hN]
 replace h:=Zq c56 h
 refine Jh [1,2] [true] ?_
 refine zQ [1,2,5] ?_
 refine Zd ?_
 refine zQd [1,2,5,6] [1,2,5,6] [true] ?_
 obtain ⟨z33,hz33,h⟩:=bC h
 refine Zgq (J:=(Ju (fun z33=>JR n (⟨216,[],[(4,(vB false))]⟩:Env) (Z0 O n [none]) (n+1)) (fun z33=>JX 0 n (⟨216,[],[(1,(vI a1)),(2,.ref n 0)]⟩:Env) (Z0 O n [some ⟨false,30,11,1,(Zm a0)⟩]) (n+1)))) (z:=z33) ?_ fun hw => ?_
 ·refine Xf hz33 (fun s0_=>⟨216,[],[(1,(vI a1)),(2,.ref n 0),(5,(vI s0_.1)),(6,(vI s0_.2))]⟩) (fun s0_=>(Z0 O n [some ⟨false,30,11,1,(Zm a0)⟩])) (Ju (fun z33=>JR n (⟨216,[],[(4,(vB false))]⟩:Env) (Z0 O n [none]) (n+1)) (fun z33=>JX 0 n (⟨216,[],[(1,(vI a1)),(2,.ref n 0)]⟩:Env) (Z0 O n [some ⟨false,30,11,1,(Zm a0)⟩]) (n+1))) ?_
  intro s0_ x0_ hs0_
  unfold J8 at hs0_
  try dsimp only
  refine Zd ?_
  refine zQ [1,2,5,6,97] ?_
  refine Zs (t:=(decide (s0_.2 < (a0.Words.length:Int)))) rfl (fun c32 => ?_) (fun c32 => ?_)
  ·replace hs0_:=Zr c32 hs0_
   refine Jh [1,2,5,6] [true] ?_
   refine Zd ?_
   refine Yc ?_
   refine Zd ?_
   obtain ⟨x19,hx19,ax19,bx19,cx19,hs0_⟩:=bE (f:=Zp) Zya (fun _=>rfl) (by decide) hs0_
   refine Zec [] ax19 bx19 cx19 ?_
   refine zDs [1,2,5,6,7] [true,true] ?_
   obtain ⟨z22,hz22,hs0_⟩:=bC hs0_
   refine Y8 (E':=⟨216,[],[(1,(vI a1)),(2,.ref n 0),(6,(vI s0_.2)),(7,.ref (n+1) 0),(134,(vB z22))]⟩) (O':=(Z0 O n [some ⟨false,30,11,1,(Zm a0)⟩,some ⟨false,84,4,1,(Gt x19)⟩])) (n0:=(n+2)) ?_ ?_
   ·rcases Bool.eq_false_or_eq_true (decide (x19.At≤s0_.1)) with c27 | c27
    ·replace hz22:=Zr c27 hz22
     refine Ks [none,none,none,none,none,none,some false,some false,some false,some false,some false,some false,some false,some false,some false,some false,some false,some false] c27 ?_
     refine zG ?_
     exact J7 hz22 c27
    replace hz22:=Zq c27 hz22
    rcases Bool.eq_false_or_eq_true (decide (65534 < x19.At)) with c28 | c28
    ·replace hz22:=Zr c28 hz22
     try rw [c28] at c27
     refine Qf [none,none,none,none,none,none,some false,some false,some false,some false,some false,some false,some false,some false,some false,some false,some false,some false] c27 c28 ?_
     refine zG ?_
     exact Zbz hz22 c27 c28
    replace hz22:=Zq c28 hz22
    try rw [c28] at c27
    rcases Bool.eq_false_or_eq_true (x19.Mask == 0) with c29 | c29
    ·replace hz22:=Zr c29 hz22
     try rw [c29] at c27
     try rw [c29] at c28
     refine Zhd [none,none,none,none,none,none,some false,some false,some false,some false,some false,some false,some false,some false,some false,some false,some false,some false] c27 c28 c29 ?_
     refine zG ?_
     exact Zj3 hz22 c27 c28 c29
    replace hz22:=Zq c29 hz22
    try rw [c29] at c27
    try rw [c29] at c28
    obtain ⟨y25,hy25,hz22⟩:=bC hz22
    rcases Bool.eq_false_or_eq_true y25 with c30 | c30
    ·replace hz22:=Zr c30 hz22
     try rw [c30] at c27
     try rw [c30] at c28
     try rw [c30] at c29
     obtain ⟨y26,hy26,hz22⟩:=bC hz22
     refine Zqr [none,none,none,none,none,none,some true,some true,some true,some true,some true,some true,some true,some true,some true,some true,some true,some true] c27 c28 c29 c30 ?_
     refine zG ?_
     refine (Zfb hy25).then ?_
     refine zX4 c27 c28 c29 c30 ?_
     refine zG ?_
     refine (Zfb hy26).then ?_
     refine zX4 c27 c28 c29 c30 ?_
     refine zG ?_
     exact Zqq hz22 c27 c28 c29 c30
    replace hz22:=Zq c30 hz22
    try rw [c30] at c27
    try rw [c30] at c28
    try rw [c30] at c29
    refine Zqr [none,none,none,none,none,none,some true,some true,some true,some true,some true,some true,some false,some false,some false,some false,some false,some false] c27 c28 c29 c30 ?_
    refine zG ?_
    refine (Zfb hy25).then ?_
    refine zX4 c27 c28 c29 c30 ?_
    refine zG ?_
    exact Zqq hz22 c27 c28 c29 c30
   refine Zs (t:=z22) rfl (fun c31 => ?_) (fun c31 => ?_)
   ·replace hs0_:=Zr c31 hs0_
    refine zQ [4] ?_
    refine zW ?_
    exact zEy hs0_
   replace hs0_:=Zq c31 hs0_
   refine Jh [1,2,6,7] [true,true] ?_
   refine zRd [1,2,5,6] [true,false] ?_
   refine zR ?_
   exact zEn hs0_
  replace hs0_:=Zq c32 hs0_
  exact zEx hs0_
 rcases z33 with z33 | z33
 ·dsimp only [Ju] at hw h
  refine Gx hw ?_
  try simp only [Xc,Yp,↓reduceIte,Nat.reduceEqDiff]
  have h:=Option.some.inj h;subst h
  refine Zi (.inr rfl) hU [(vB false)] (by omega) ?_
  simp only [push_cast,seval,↓reduceIte,Zb,Tryz.results26,hN0,hN]
 dsimp only [Ju] at hw h
 refine Y3 hw ?_
 try simp only [Xc,Yp,↓reduceIte,Nat.reduceEqDiff]
 refine zD [1,2] [true] ?_
 refine zQ [1,2,5] ?_
 refine Zd ?_
 refine zQd [1,2,5,8] [1,2,5,8] [true] ?_
 obtain ⟨z45,hz45,h⟩:=bC h
 refine Zgq (J:=(Ju (fun z45=>JR n (⟨216,[],[(4,(vB false))]⟩:Env) (Z0 O n [none]) (n+1)) (fun z45=>JX 2 n (⟨216,[],[(1,(vI a1)),(2,.ref n 0)]⟩:Env) (Z0 O n [some ⟨false,30,11,1,(Zm a0)⟩]) (n+1)))) (z:=z45) ?_ fun hw => ?_
 ·refine Xf hz45 (fun s1_=>⟨216,[],[(1,(vI a1)),(2,.ref n 0),(5,(vI s1_.1)),(8,(vI s1_.2))]⟩) (fun s1_=>(Z0 O n [some ⟨false,30,11,1,(Zm a0)⟩])) (Ju (fun z45=>JR n (⟨216,[],[(4,(vB false))]⟩:Env) (Z0 O n [none]) (n+1)) (fun z45=>JX 2 n (⟨216,[],[(1,(vI a1)),(2,.ref n 0)]⟩:Env) (Z0 O n [some ⟨false,30,11,1,(Zm a0)⟩]) (n+1))) ?_
  intro s1_ x1_ hs1_
  unfold J9 at hs1_
  try dsimp only
  refine Zd ?_
  refine zQ [1,2,5,8,141] ?_
  refine Zs (t:=(decide (s1_.2 < (a0.Kids.length:Int)))) rfl (fun c44 => ?_) (fun c44 => ?_)
  ·replace hs1_:=Zr c44 hs1_
   refine Jh [1,2,5,8] [true] ?_
   refine Zd ?_
   refine Yc ?_
   refine Zd ?_
   obtain ⟨x35,hx35,ax35,bx35,cx35,hs1_⟩:=bE (f:=Zo) Zsd (fun _=>rfl) (by decide) hs1_
   refine Zec [] ax35 bx35 cx35 ?_
   refine zDs [1,2,5,8,9] [true,true] ?_
   obtain ⟨z37,hz37,hs1_⟩:=bC hs1_
   refine Y8 (E':=⟨216,[],[(1,(vI a1)),(2,.ref n 0),(8,(vI s1_.2)),(9,.ref (n+1) 0),(171,(vB z37))]⟩) (O':=(Z0 O n [some ⟨false,30,11,1,(Zm a0)⟩,some ⟨false,86,12,1,(Kp x35)⟩])) (n0:=(n+2)) ?_ ?_
   ·rcases Bool.eq_false_or_eq_true (decide (x35.At≤s1_.1)) with c40 | c40
    ·replace hz37:=Zr c40 hz37
     refine Ks [none,none,none,none,none,none,none,some false,some false,some false,some false,some false,some false] c40 ?_
     refine zG ?_
     exact J7 hz37 c40
    replace hz37:=Zq c40 hz37
    rcases Bool.eq_false_or_eq_true (decide (65534 < x35.At)) with c41 | c41
    ·replace hz37:=Zr c41 hz37
     try rw [c41] at c40
     refine Qf [none,none,none,none,none,none,none,some false,some false,some false,some false,some false,some false] c40 c41 ?_
     refine zG ?_
     exact Zbz hz37 c40 c41
    replace hz37:=Zq c41 hz37
    try rw [c41] at c40
    rcases Bool.eq_false_or_eq_true (x35.E.Kind == 0) with c42 | c42
    ·replace hz37:=Zr c42 hz37
     try rw [c42] at c40
     try rw [c42] at c41
     refine Zhd [none,none,none,none,none,none,none,some false,some false,some false,some false,some false,some false] c40 c41 c42 ?_
     refine zG ?_
     exact Zj3 hz37 c40 c41 c42
    replace hz37:=Zq c42 hz37
    try rw [c42] at c40
    try rw [c42] at c41
    obtain ⟨y39,hy39,hz37⟩:=bC hz37
    refine Zhd [none,none,none,none,none,none,none,some true,some true,some true,some true,some true,some true] c40 c41 c42 ?_
    refine zG ?_
    refine (Zek hy39).then ?_
    refine zX3 c40 c41 c42 ?_
    refine zG ?_
    exact Zj3 hz37 c40 c41 c42
   refine Zs (t:=z37) rfl (fun c43 => ?_) (fun c43 => ?_)
   ·replace hs1_:=Zr c43 hs1_
    refine zQ [4] ?_
    refine zW ?_
    exact zEy hs1_
   replace hs1_:=Zq c43 hs1_
   refine Jh [1,2,8,9] [true,true] ?_
   refine zRd [1,2,5,8] [true,false] ?_
   refine zR ?_
   exact zEn hs1_
  replace hs1_:=Zq c44 hs1_
  exact zEx hs1_
 rcases z45 with z45 | z45
 ·dsimp only [Ju] at hw h
  refine Gx hw ?_
  try simp only [Xc,Yp,↓reduceIte,Nat.reduceEqDiff]
  have h:=Option.some.inj h;subst h
  refine Zi (.inr rfl) hU [(vB false)] (by omega) ?_
  simp only [push_cast,seval,↓reduceIte,Zb,Tryz.results26,hN0,hN]
 dsimp only [Ju] at hw h
 refine Y3 hw ?_
 try simp only [Xc,Yp,↓reduceIte,Nat.reduceEqDiff]
 refine zDs [1,2] [true] ?_
 refine zQD [1,2,186] [none,none,none,none,none,none,none,none] ?_
 refine Zs (t:=(cond (a0.Kind == 3) (cond (decide (a0.List_ < 2)) true (decide (9 < a0.List_))) false)) rfl (fun c55 => ?_) (fun c55 => ?_)
 ·replace h:=Zr c55 h
  refine zQ [4] ?_
  refine zW ?_
  have h:=Option.some.inj h;subst h
  refine Zi (.inr rfl) hU [(vB false)] (by omega) ?_
  simp only [push_cast,seval,↓reduceIte,Zb,Tryz.results26,hN0,hN]
 replace h:=Zq c55 h
 refine Jh [1,2] [true] ?_
 refine Zd ?_
 refine zQd [1,2,10] [1,2,10] [true] ?_
 obtain ⟨z52,hz52,h⟩:=bC h
 refine Zgq (J:=(Ju (fun z52=>JR n (⟨216,[],[(4,(vB false))]⟩:Env) (Z0 O n [none]) (n+1)) (fun z52=>JX 4 n (⟨216,[],[(2,.ref n 0)]⟩:Env) (Z0 O n [some ⟨false,30,11,1,(Zm a0)⟩]) (n+1)))) (z:=z52) ?_ fun hw => ?_
 ·refine Xf hz52 (fun s2_=>⟨216,[],[(1,(vI a1)),(2,.ref n 0),(10,(vI s2_))]⟩) (fun s2_=>(Z0 O n [some ⟨false,30,11,1,(Zm a0)⟩])) (Ju (fun z52=>JR n (⟨216,[],[(4,(vB false))]⟩:Env) (Z0 O n [none]) (n+1)) (fun z52=>JX 4 n (⟨216,[],[(2,.ref n 0)]⟩:Env) (Z0 O n [some ⟨false,30,11,1,(Zm a0)⟩]) (n+1))) ?_
  intro s2_ x2_ hs2_
  unfold Q9 at hs2_
  try dsimp only
  refine Zd ?_
  refine zQ [1,2,10,191] ?_
  refine Zs (t:=(decide (s2_ < (a0.Ops.length:Int)))) rfl (fun c51 => ?_) (fun c51 => ?_)
  ·replace hs2_:=Zr c51 hs2_
   refine Jh [1,2,10] [true] ?_
   refine Zd ?_
   refine Yc ?_
   refine Zd ?_
   obtain ⟨x48,hx48,ax48,bx48,cx48,hs2_⟩:=bE (f:=Zz) Zmj (fun _=>rfl) (by decide) hs2_
   obtain ⟨y49,hy49,hs2_⟩:=bC hs2_
   refine Ua Zv (by kernel_rfl) [] (by kernel_rfl) ?_
   refine zF3 ax48 bx48 cx48 ?_
   refine PCall.of (Zla hy49) ?_
   refine zF3 ax48 bx48 cx48 ?_
   refine zD [1,2,10,204] [true] ?_
   refine Zs (t:=(!y49)) rfl (fun c50 => ?_) (fun c50 => ?_)
   ·replace hs2_:=Zr c50 hs2_
    refine zQ [4] ?_
    refine zW ?_
    exact zEy hs2_
   replace hs2_:=Zq c50 hs2_
   refine Jh [1,2,10] [true] ?_
   refine zR ?_
   exact zEn hs2_
  replace hs2_:=Zq c51 hs2_
  exact zEx hs2_
 rcases z52 with z52 | z52
 ·dsimp only [Ju] at hw h
  refine Gx hw ?_
  try simp only [Xc,Yp,↓reduceIte,Nat.reduceEqDiff]
  have h:=Option.some.inj h;subst h
  refine Zi (.inr rfl) hU [(vB false)] (by omega) ?_
  simp only [push_cast,seval,↓reduceIte,Zb,Tryz.results26,hN0,hN]
 dsimp only [Ju] at hw h
 refine Y3 hw ?_
 try simp only [Xc,Yp,↓reduceIte,Nat.reduceEqDiff]
 refine zDs [2] [true] ?_
 obtain ⟨y54,hy54,h⟩:=bC h
 refine zCd (Ziz hy54) [11,12] [false] ?_
 refine zQD [4] [none,none] ?_
 refine zW ?_
 have h:=Option.some.inj h;subst h
 refine Zi (.inr rfl) hU [(vB (cond (decide (y54.1 < 1048576)) (decide (y54.2 < 1048576)) false))] (by omega) ?_
 simp only [push_cast,seval,↓reduceIte,Zb,Tryz.results26,hN0,hN]
theorem Zub {Xk:(Zh→Int→Option Bool)} {Qh:(Int→Zt→Int→Option Bool)} (Zek:Zei Xk) (Zla:Zgw Qh) {a0:Int} {a1:Zt} {a2:Int} {r:Bool} {O:Objs} {n:Nat} (h:Zdr Xk Qh a0 a1 a2=some r):GTo Tryz.prog 70 [(vI a0),.agg (Y4 a1),(vI a2)] O n ((vB r)) O n:=by
 unfold Zdr at h
 refine Yo Zv Tryz.call70 Tryz.func70 rfl (Nat.le_of_ble_eq_true rfl) (Nat.le_refl _) fun hU => ?_
 have hN0:O n=none:=hU.fresh _ (Nat.le_refl _)
 have hN:∀ k,O (n+k)=none:=fun k=>hU.fresh _ (Nat.le_add_right _ _)
 show W _ _ _ _ ⟨121,[],[(0,(vI a0)),(1,.agg (Y4 a1)),(2,(vI a2))]⟩ (Z0 O n []) _
 refine zQ [0,2,4] ?_
 refine Zd ?_
 refine zQ [0,2,4,10] ?_
 refine Zs (t:=(a1.Kind == 0)) rfl (fun c30 => ?_) (fun c30 => ?_)
 ·replace h:=Zr c30 h
  obtain ⟨z2,hz2,h⟩:=bC h
  refine Y8 (E':=⟨121,[],[(6,(vB z2))]⟩) (O':=(Z0 O n [none])) (n0:=(n+1)) ?_ ?_
  ·rcases Bool.eq_false_or_eq_true (decide (1≤a1.N)) with c5 | c5
   ·replace hz2:=Zr c5 hz2
    rcases Bool.eq_false_or_eq_true (decide (a1.N≤1048576)) with c6 | c6
    ·replace hz2:=Zr c6 hz2
     try rw [c6] at c5
     rcases Bool.eq_false_or_eq_true ((a1.L.length:Int) == 0) with c7 | c7
     ·replace hz2:=Zr c7 hz2
      try rw [c7] at c5
      try rw [c7] at c6
      obtain ⟨y4,hy4,hz2⟩:=bC hz2
      refine Zhd [none,none,none,none,none,none,none,some true,some true,some true] c5 c6 c7 ?_
      refine zG ?_
      refine (Zk6 hy4).then ?_
      refine zX3 c5 c6 c7 ?_
      refine zG ?_
      exact Zj3 hz2 c5 c6 c7
     replace hz2:=Zq c7 hz2
     try rw [c7] at c5
     try rw [c7] at c6
     refine Zhd [none,none,none,none,none,none,none,some false,some false,some false] c5 c6 c7 ?_
     refine zG ?_
     exact Zj3 hz2 c5 c6 c7
    replace hz2:=Zq c6 hz2
    try rw [c6] at c5
    refine Qf [none,none,none,none,none,none,none,some false,some false,some false] c5 c6 ?_
    refine zG ?_
    exact Zbz hz2 c5 c6
   replace hz2:=Zq c5 hz2
   refine Ks [none,none,none,none,none,none,none,some false,some false,some false] c5 ?_
   refine zG ?_
   exact J7 hz2 c5
  refine zW ?_
  have h:=Option.some.inj h;subst h
  refine Zi (.inr rfl) hU [(vB z2)] (by omega) ?_
  simp only [push_cast,seval,↓reduceIte,Zb,Tryz.results70,hN0,hN]
 replace h:=Zq c30 h
 refine Jh [0,2,4] [true] ?_
 refine Zd ?_
 refine zQD [0,2,4,42] [none,none,none,none,none,none] ?_
 refine Zs (t:=(cond (cond (a1.N != 0) true (decide (a1.Kind < 0))) true (decide (3 < a1.Kind)))) rfl (fun c29 => ?_) (fun c29 => ?_)
 ·replace h:=Zr c29 h
  refine zQ [6] ?_
  refine zW ?_
  have h:=Option.some.inj h;subst h
  refine Zi (.inr rfl) hU [(vB false)] (by omega) ?_
  simp only [push_cast,seval,↓reduceIte,Zb,Tryz.results70,hN0,hN]
 replace h:=Zq c29 h
 refine Jh [0,2,4] [true] ?_
 refine Zd ?_
 refine zQ [0,2,4,45] ?_
 refine Zs (t:=(decide (a1.Kind < 3))) rfl (fun c28 => ?_) (fun c28 => ?_)
 ·replace h:=Zr c28 h
  refine Zd ?_
  refine zQd [0,4,7] [0,4,7] [true] ?_
  obtain ⟨z14,hz14,h⟩:=bC h
  refine Zgq (J:=(Ju (fun z14=>JR n (⟨121,[],[(6,(vB false))]⟩:Env) (Z0 O n [none]) (n+1)) (fun z14=>JX 0 n (⟨121,[],[(4,.ref n 0)]⟩:Env) (Z0 O n [some ⟨false,89,14,1,(Y4 a1)⟩]) (n+1)))) (z:=z14) ?_ fun hw => ?_
  ·refine Xf hz14 (fun s0_=>⟨121,[],[(0,(vI a0)),(4,.ref n 0),(7,(vI s0_))]⟩) (fun s0_=>(Z0 O n [some ⟨false,89,14,1,(Y4 a1)⟩])) (Ju (fun z14=>JR n (⟨121,[],[(6,(vB false))]⟩:Env) (Z0 O n [none]) (n+1)) (fun z14=>JX 0 n (⟨121,[],[(4,.ref n 0)]⟩:Env) (Z0 O n [some ⟨false,89,14,1,(Y4 a1)⟩]) (n+1))) ?_
   intro s0_ x0_ hs0_
   unfold G3 at hs0_
   try dsimp only
   refine Zd ?_
   refine zQ [0,4,7,50] ?_
   refine Zs (t:=(decide (s0_ < (a1.L.length:Int)))) rfl (fun c13 => ?_) (fun c13 => ?_)
   ·replace hs0_:=Zr c13 hs0_
    refine Jh [0,4,7] [true] ?_
    refine Zd ?_
    refine Yc ?_
    refine Zd ?_
    obtain ⟨l10,al10,bl10,cl10,gl10,hs0_⟩:=bS (lo:=(some (.i64,s0_))) (hi:=(some (.i64,(IntKind.i64.wrap (s0_+1))))) (f:=Zc) rfl rfl Zrs Zfz (fun _=>rfl) hs0_
    obtain ⟨y11,hy11,hs0_⟩:=bC hs0_
    refine Zqr [] al10 bl10 cl10 gl10 ?_
    refine GCalls.argsW ?_ ((Zcb hy11).then ?_)
    ·exact Yq1 al10 bl10 cl10 gl10
    refine zX4 al10 bl10 cl10 gl10 ?_
    refine zD [0,4,7,62] [true] ?_
    refine Zs (t:=(!y11)) rfl (fun c12 => ?_) (fun c12 => ?_)
    ·replace hs0_:=Zr c12 hs0_
     refine zQ [6] ?_
     refine zW ?_
     exact zEy hs0_
    replace hs0_:=Zq c12 hs0_
    refine Jh [0,4,7] [true] ?_
    refine zR ?_
    exact zEn hs0_
   replace hs0_:=Zq c13 hs0_
   exact zEx hs0_
  rcases z14 with z14 | z14
  ·dsimp only [Ju] at hw h
   refine Gx hw ?_
   try simp only [Xc,Yp,↓reduceIte,Nat.reduceEqDiff]
   have h:=Option.some.inj h;subst h
   refine Zi (.inr rfl) hU [(vB false)] (by omega) ?_
   simp only [push_cast,seval,↓reduceIte,Zb,Tryz.results70,hN0,hN]
  dsimp only [Ju] at hw h
  refine Y3 hw ?_
  try simp only [Xc,Yp,↓reduceIte,Nat.reduceEqDiff]
  refine zD [4] [true] ?_
  obtain ⟨z16,hz16,h⟩:=bC h
  refine Y8 (E':=⟨121,[],[(6,(vB z16))]⟩) (O':=(Z0 O n [none])) (n0:=(n+1)) ?_ ?_
  ·rcases Bool.eq_false_or_eq_true (decide (0 < (a1.L.length:Int))) with c19 | c19
   ·replace hz16:=Zr c19 hz16
    obtain ⟨y18,hy18,hz16⟩:=bC hz16
    refine Ks [some true,some true,some true] c19 ?_
    refine (Zk6 hy18).then ?_
    refine zX1 c19 ?_
    exact J7 hz16 c19
   replace hz16:=Zq c19 hz16
   refine Ks [some false,some false,some false] c19 ?_
   exact J7 hz16 c19
  refine zW ?_
  have h:=Option.some.inj h;subst h
  refine Zi (.inr rfl) hU [(vB z16)] (by omega) ?_
  simp only [push_cast,seval,↓reduceIte,Zb,Tryz.results70,hN0,hN]
 replace h:=Zq c28 h
 refine Jh [0,2,4] [true] ?_
 refine Zd ?_
 obtain ⟨z21,hz21,h⟩:=bC h
 refine Y8 (E':=⟨121,[],[(0,(vI a0)),(4,.ref n 0),(92,(vB z21))]⟩) (O':=(Z0 O n [some ⟨false,89,14,1,(Y4 a1)⟩])) (n0:=(n+1)) ?_ ?_
 ·rcases Bool.eq_false_or_eq_true (decide (0 < (a1.L.length:Int))) with c24 | c24
  ·replace hz21:=Zr c24 hz21
   refine Ks [none,none,none,none,none,none,some false,some false,some false,some false,some false] c24 ?_
   refine zG ?_
   exact J7 hz21 c24
  replace hz21:=Zq c24 hz21
  rcases Bool.eq_false_or_eq_true (a1.E.Kind == 0) with c25 | c25
  ·replace hz21:=Zr c25 hz21
   try rw [c25] at c24
   refine Qf [none,none,none,none,none,none,some false,some false,some false,some false,some false] c24 c25 ?_
   refine zG ?_
   exact Zbz hz21 c24 c25
  replace hz21:=Zq c25 hz21
  try rw [c25] at c24
  rcases Bool.eq_false_or_eq_true (decide (a0≤7)) with c26 | c26
  ·replace hz21:=Zr c26 hz21
   try rw [c26] at c24
   try rw [c26] at c25
   refine Zhd [none,none,none,none,none,none,some false,some false,some false,some false,some false] c24 c25 c26 ?_
   refine zG ?_
   exact Zj3 hz21 c24 c25 c26
  replace hz21:=Zq c26 hz21
  try rw [c26] at c24
  try rw [c26] at c25
  obtain ⟨y23,hy23,hz21⟩:=bC hz21
  refine Zhd [none,none,none,none,none,none,some true,some true,some true,some true,some true] c24 c25 c26 ?_
  refine zG ?_
  refine (Zek hy23).then ?_
  refine zX3 c24 c25 c26 ?_
  refine zG ?_
  exact Zj3 hz21 c24 c25 c26
 refine Zs (t:=z21) rfl (fun c27 => ?_) (fun c27 => ?_)
 ·replace h:=Zr c27 h
  refine zQ [6] ?_
  refine zW ?_
  have h:=Option.some.inj h;subst h
  refine Zi (.inr rfl) hU [(vB false)] (by omega) ?_
  simp only [push_cast,seval,↓reduceIte,Zb,Tryz.results70,hN0,hN]
 replace h:=Zq c27 h
 refine Jh [0,4] [true] ?_
 refine zQD [6] [none,none,none,none,none,none,none,none,none,none,none,none,none,none,none,none,none,none,none,none,none,none] ?_
 refine zW ?_
 have h:=Option.some.inj h;subst h
 refine Zi (.inr rfl) hU [(vB (cond (cond (a0 == 8) true (a1.E.Kind == 2)) true (cond (cond (a1.E.Kind == 1) (a1.E.Old.Kind == 1) false) (a1.E.New.Kind == 1) false)))] (by omega) ?_
 simp only [push_cast,seval,↓reduceIte,Zb,Tryz.results70,hN0,hN]
theorem Zon:∀ k,(Zei ((Yw k).1))∧(Zgw ((Yw k).2)):=fun k=>by
 induction k with
 | zero=>exact ⟨@fun a0 a1 r O n h=>(nomatch (show (none:Option _)=some _ from h)),@fun a0 a1 a2 r O n h=>(nomatch (show (none:Option _)=some _ from h))⟩
 | succ k ih=>exact ⟨@fun a0 a1 r O n h=>Zqi (ih.1) (ih.2)  h,@fun a0 a1 a2 r O n h=>Zub (ih.1) (ih.2)  h⟩
theorem Zkg {a0:Zh} {a1:Int} {r:Bool} {O:Objs} {n:Nat} (h:Zgu a0 a1=some r):GTo Tryz.prog 26 [.agg (Zm a0),(vI a1)] O n ((vB r)) O n:=by
 obtain ⟨k,hk⟩:=Zcv h
 exact (Zon k).1  hk
def Ziy (X2:(Zh→Option Bool)):Prop:=∀ {a0:Zh} {r:Bool} {O:Objs} {n:Nat},X2 a0=some r→GTo Tryz.prog 27 [.agg (Zm a0)] O n ((vB r)) O n
theorem Zqh {X2:(Zh→Option Bool)} (Zi0:Ziy X2) {a0:Zh} {r:Bool} {O:Objs} {n:Nat} (h:Gz X2 a0=some r):GTo Tryz.prog 27 [.agg (Zm a0)] O n ((vB r)) O n:=by
 unfold Gz at h
 refine Yo Zv Tryz.call27 Tryz.func27 rfl (Nat.le_of_ble_eq_true rfl) (Nat.le_refl _) fun hU => ?_
 have hN0:O n=none:=hU.fresh _ (Nat.le_refl _)
 have hN:∀ k,O (n+k)=none:=fun k=>hU.fresh _ (Nat.le_add_right _ _)
 show W _ _ _ _ ⟨48,[],[(0,.agg (Zm a0))]⟩ (Z0 O n []) _
 refine zQ [1] ?_
 refine Zd ?_
 obtain ⟨y2,hy2,h⟩:=bC h
 refine zCd (Ziz hy2) [1,3,4] [true] ?_
 refine Zd ?_
 refine zQD [1,17] [none,none] ?_
 refine Zs (t:=(cond (decide (2000 < y2.1)) true (decide (2000 < y2.2)))) rfl (fun c21 => ?_) (fun c21 => ?_)
 ·replace h:=Zr c21 h
  refine zQ [2] ?_
  refine zW ?_
  have h:=Option.some.inj h;subst h
  refine Zi (.inr rfl) hU [(vB false)] (by omega) ?_
  simp only [push_cast,seval,↓reduceIte,Zb,Tryz.results27,hN0,hN]
 replace h:=Zq c21 h
 refine Jh [1] [true] ?_
 refine Zd ?_
 refine zQd [1,5] [1,5] [true] ?_
 obtain ⟨z11,hz11,h⟩:=bC h
 refine Zgq (J:=(Ju (fun z11=>JR n (⟨48,[],[(2,(vB false))]⟩:Env) (Z0 O n [none]) (n+1)) (fun z11=>JX 0 n (⟨48,[],[(1,.ref n 0)]⟩:Env) (Z0 O n [some ⟨false,30,11,1,(Zm a0)⟩]) (n+1)))) (z:=z11) ?_ fun hw => ?_
 ·refine Xf hz11 (fun s0_=>⟨48,[],[(1,.ref n 0),(5,(vI s0_))]⟩) (fun s0_=>(Z0 O n [some ⟨false,30,11,1,(Zm a0)⟩])) (Ju (fun z11=>JR n (⟨48,[],[(2,(vB false))]⟩:Env) (Z0 O n [none]) (n+1)) (fun z11=>JX 0 n (⟨48,[],[(1,.ref n 0)]⟩:Env) (Z0 O n [some ⟨false,30,11,1,(Zm a0)⟩]) (n+1))) ?_
  intro s0_ x0_ hs0_
  unfold Vy at hs0_
  try dsimp only
  refine Zd ?_
  refine zQ [1,5,22] ?_
  refine Zs (t:=(decide (s0_ < (a0.Kids.length:Int)))) rfl (fun c10 => ?_) (fun c10 => ?_)
  ·replace hs0_:=Zr c10 hs0_
   refine Jh [1,5] [true] ?_
   refine Zd ?_
   refine Yc ?_
   refine Zd ?_
   obtain ⟨x6,hx6,ax6,bx6,cx6,hs0_⟩:=bE (f:=Zo) Zsd (fun _=>rfl) (by decide) hs0_
   have g7:=Zi2 (f:=Zo) (off:=1) (sz:=12) Zx9 (fun _=>rfl) (by decide) (by decide) hx6
   obtain ⟨y8,hy8,hs0_⟩:=bC hs0_
   refine Z3g [] ax6 bx6 cx6 g7 ?_
   refine (Zi0 hy8).then ?_
   refine zF4 ax6 bx6 cx6 g7 ?_
   refine zD [1,5,32] [true] ?_
   refine Zs (t:=(!y8)) rfl (fun c9 => ?_) (fun c9 => ?_)
   ·replace hs0_:=Zr c9 hs0_
    refine zQ [2] ?_
    refine zW ?_
    exact zEy hs0_
   replace hs0_:=Zq c9 hs0_
   refine Jh [1,5] [true] ?_
   refine zR ?_
   exact zEn hs0_
  replace hs0_:=Zq c10 hs0_
  exact zEx hs0_
 rcases z11 with z11 | z11
 ·dsimp only [Ju] at hw h
  refine Gx hw ?_
  try simp only [Xc,Yp,↓reduceIte,Nat.reduceEqDiff]
  have h:=Option.some.inj h;subst h
  refine Zi (.inr rfl) hU [(vB false)] (by omega) ?_
  simp only [push_cast,seval,↓reduceIte,Zb,Tryz.results27,hN0,hN]
 dsimp only [Ju] at hw h
 refine Y3 hw ?_
 try simp only [Xc,Yp,↓reduceIte,Nat.reduceEqDiff]
 refine zDs [1] [true] ?_
 refine zQd [1,6] [1,6] [true] ?_
 obtain ⟨z20,hz20,h⟩:=bC h
 refine Zgq (J:=(Ju (fun z20=>JR n (⟨48,[],[(2,(vB false))]⟩:Env) (Z0 O n [none]) (n+1)) (fun z20=>JX 2 n (⟨48,[],[]⟩:Env) (Z0 O n [none]) (n+1)))) (z:=z20) ?_ fun hw => ?_
 ·refine Xf hz20 (fun s1_=>⟨48,[],[(1,.ref n 0),(6,(vI s1_))]⟩) (fun s1_=>(Z0 O n [some ⟨false,30,11,1,(Zm a0)⟩])) (Ju (fun z20=>JR n (⟨48,[],[(2,(vB false))]⟩:Env) (Z0 O n [none]) (n+1)) (fun z20=>JX 2 n (⟨48,[],[]⟩:Env) (Z0 O n [none]) (n+1))) ?_
  intro s1_ x1_ hs1_
  unfold Vz at hs1_
  try dsimp only
  refine Zd ?_
  refine zQ [1,6,37] ?_
  refine Zs (t:=(decide (s1_ < (a0.Ops.length:Int)))) rfl (fun c19 => ?_) (fun c19 => ?_)
  ·replace hs1_:=Zr c19 hs1_
   refine Jh [1,6] [true] ?_
   refine Zd ?_
   refine Yc ?_
   refine Zd ?_
   obtain ⟨x15,hx15,ax15,bx15,cx15,hs1_⟩:=bE (f:=Zz) Zmj (fun _=>rfl) (by decide) hs1_
   have g16:=Zi2 (f:=Zz) (off:=3) (sz:=14) Zx9 (fun _=>rfl) (by decide) (by decide) hx15
   obtain ⟨y17,hy17,hs1_⟩:=bC hs1_
   refine Z3g [] ax15 bx15 cx15 g16 ?_
   refine (Zi0 hy17).then ?_
   refine zF4 ax15 bx15 cx15 g16 ?_
   refine zD [1,6,47] [true] ?_
   refine Zs (t:=(!y17)) rfl (fun Uj => ?_) (fun Uj => ?_)
   ·replace hs1_:=Zr Uj hs1_
    refine zQ [2] ?_
    refine zW ?_
    exact zEy hs1_
   replace hs1_:=Zq Uj hs1_
   refine Jh [1,6] [true] ?_
   refine zR ?_
   exact zEn hs1_
  replace hs1_:=Zq c19 hs1_
  exact zEx hs1_
 rcases z20 with z20 | z20
 ·dsimp only [Ju] at hw h
  refine Gx hw ?_
  try simp only [Xc,Yp,↓reduceIte,Nat.reduceEqDiff]
  have h:=Option.some.inj h;subst h
  refine Zi (.inr rfl) hU [(vB false)] (by omega) ?_
  simp only [push_cast,seval,↓reduceIte,Zb,Tryz.results27,hN0,hN]
 dsimp only [Ju] at hw h
 refine Y3 hw ?_
 try simp only [Xc,Yp,↓reduceIte,Nat.reduceEqDiff]
 refine zD [] [false] ?_
 refine zQ [2] ?_
 refine zW ?_
 have h:=Option.some.inj h;subst h
 refine Zi (.inr rfl) hU [(vB true)] (by omega) ?_
 simp only [push_cast,seval,↓reduceIte,Zb,Tryz.results27,hN0,hN]
theorem Zom:∀ k,(Ziy (Jw k)):=fun k=>by
 induction k with
 | zero=>exact @fun a0 r O n h=>(nomatch (show (none:Option _)=some _ from h))
 | succ k ih=>exact @fun a0 r O n h=>Zqh (ih)  h
theorem Zr2 {a0:Zh} {r:Bool} {O:Objs} {n:Nat} (h:Zgt a0=some r):GTo Tryz.prog 27 [.agg (Zm a0)] O n ((vB r)) O n:=by
 obtain ⟨k,hk⟩:=Zcv h
 exact (Zom k)  hk
theorem Zsm {a0:Zh} {r:Bool} {O:Objs} {n:Nat} (h:Vg a0=some r):GTo Tryz.prog 14 [.agg (Zm a0)] O n ((vB r)) O n:=by
 unfold Vg at h
 refine Yo Zv Tryz.call14 Tryz.func14 rfl (Nat.le_of_ble_eq_true rfl) (Nat.le_refl _) fun hU => ?_
 have hN0:O n=none:=hU.fresh _ (Nat.le_refl _)
 have hN:∀ k,O (n+k)=none:=fun k=>hU.fresh _ (Nat.le_add_right _ _)
 show W _ _ _ _ ⟨13,[],[(0,.agg (Zm a0))]⟩ (Z0 O n []) _
 refine zQ [1] ?_
 obtain ⟨z4,hz4,h⟩:=bC h
 refine Y8 (E':=⟨13,[],[(2,(vB z4))]⟩) (O':=(Z0 O n [none])) (n0:=(n+1)) ?_ ?_
 ·obtain ⟨y8,hy8,hz4⟩:=bC hz4
  rcases Bool.eq_false_or_eq_true y8 with c11 | c11
  ·replace hz4:=Zr c11 hz4
   obtain ⟨y9,hy9,hz4⟩:=bC hz4
   rcases Bool.eq_false_or_eq_true y9 with c12 | c12
   ·replace hz4:=Zr c12 hz4
    try rw [c12] at c11
    obtain ⟨y10,hy10,hz4⟩:=bC hz4
    refine Qf [some true,some true,some true,some true] c11 c12 ?_
    refine (Zii hy8).then ?_
    refine zX2 c11 c12 ?_
    refine (Zkg hy9).then ?_
    refine zX2 c11 c12 ?_
    refine (Zr2 hy10).then ?_
    refine zX2 c11 c12 ?_
    exact Zbz hz4 c11 c12
   replace hz4:=Zq c12 hz4
   try rw [c12] at c11
   refine Qf [some true,some true,some false,some false] c11 c12 ?_
   refine (Zii hy8).then ?_
   refine zX2 c11 c12 ?_
   refine (Zkg hy9).then ?_
   refine zX2 c11 c12 ?_
   exact Zbz hz4 c11 c12
  replace hz4:=Zq c11 hz4
  refine Ks [some false,some false,some false,some false] c11 ?_
  refine (Zii hy8).then ?_
  refine zX1 c11 ?_
  exact J7 hz4 c11
 refine zW ?_
 have h:=Option.some.inj h;subst h
 refine Zi (.inr rfl) hU [(vB z4)] (by omega) ?_
 simp only [push_cast,seval,↓reduceIte,Zb,Tryz.results14,hN0,hN]
theorem Zt8 {a0:(List Int)} {r:(List Int)} {O:Objs} {n:Nat} (h:Zcz a0=some r):GTo Tryz.prog 106 [(sL (eI .u64) a0)] O n ((sL (eI .u64) r)) O n:=by
 unfold Zcz at h
 refine Yo Zv Tryz.call106 Tryz.func106 rfl (Nat.le_of_ble_eq_true rfl) (Nat.le_refl _) fun hU => ?_
 have hN0:O n=none:=hU.fresh _ (Nat.le_refl _)
 have hN:∀ k,O (n+k)=none:=fun k=>hU.fresh _ (Nat.le_add_right _ _)
 show W _ _ _ _ ⟨22,[],[(0,(sL (eI .u64) a0))]⟩ (Z0 O n []) _
 refine zQ [0] ?_
 refine zQ [0,3] ?_
 refine Zd ?_
 refine zD [0,3] [] ?_
 obtain ⟨z7,hz7,h⟩:=bC h
 refine Y3 (E':=⟨22,[],[(0,(sL (eI .u64) a0)),(3,(vI z7))]⟩) (O':=(Z0 O n [])) (n0:=n) ?_ ?_
 ·refine Xf hz7 (fun s0_=>⟨22,[],[(0,(sL (eI .u64) a0)),(3,(vI s0_))]⟩) (fun s0_=>(Z0 O n [])) (fun z7=>JX 0 n (⟨22,[],[(0,(sL (eI .u64) a0)),(3,(vI z7))]⟩:Env) (Z0 O n []) n) ?_
  intro s0_ x0_ hs0_
  unfold Gc at hs0_
  try dsimp only
  refine Zd ?_
  obtain ⟨z2,hz2,hs0_⟩:=bC hs0_
  refine Y8 (E':=⟨22,[],[(0,(sL (eI .u64) a0)),(3,(vI s0_)),(15,(vB z2))]⟩) (O':=(Z0 O n [])) (n0:=n) ?_ ?_
  ·rcases Bool.eq_false_or_eq_true (decide (0 < s0_)) with c5 | c5
   ·replace hz2:=Zr c5 hz2
    obtain ⟨x4,hx4,ax4,bx4,cx4,hz2⟩:=bE (f:=(eI .u64)) Zf0 (fun _=>rfl) (by decide) hz2
    refine Z3g [some true,some true,some true,some true,some true,some true] c5 ax4 bx4 cx4 ?_
    exact Ykp hz2 c5 ax4 bx4 cx4
   replace hz2:=Zq c5 hz2
   refine Ks [some false,some false,some false,some false,some false,some false] c5 ?_
   exact J7 hz2 c5
  refine Zs (t:=z2) rfl (fun c6 => ?_) (fun c6 => ?_)
  ·replace hs0_:=Zr c6 hs0_
   refine Jh [0,3] [] ?_
   refine Yc ?_
   refine zR ?_
   exact zEn hs0_
  replace hs0_:=Zq c6 hs0_
  exact zEx hs0_
 try simp only [Xc,Yp,↓reduceIte,Nat.reduceEqDiff]
 refine zD [0,3] [] ?_
 obtain ⟨l9,al9,bl9,cl9,gl9,h⟩:=bS3 (lo:=none) (hi:=(.i64,z7)) (f:=(eI .u64)) rfl rfl Zkn Zf0 (fun _=>rfl) h
 refine Ypr [2] al9 bl9 cl9 gl9 ?_
 refine zW ?_
 have h:=Option.some.inj h;subst h
 refine Zi (.inr rfl) hU [(sL (eI .u64) l9)] (by omega) ?_
 simp only [push_cast,seval,↓reduceIte,Zb,Tryz.results106,hN0,hN]
theorem Zxl {a0:(List Za)} {r:(List Za)} {O:Objs} {n:Nat} (h:Zd1 a0=some r):GTo Tryz.prog 108 [(sL Zc a0)] O n ((sL Zc r)) O n:=by
 unfold Zd1 at h
 refine Yo Zv Tryz.call108 Tryz.func108 rfl (Nat.le_of_ble_eq_true rfl) (Nat.le_refl _) fun hU => ?_
 have hN0:O n=none:=hU.fresh _ (Nat.le_refl _)
 have hN:∀ k,O (n+k)=none:=fun k=>hU.fresh _ (Nat.le_add_right _ _)
 show W _ _ _ _ ⟨23,[],[(0,(sL Zc a0))]⟩ (Z0 O n []) _
 refine zQ [0] ?_
 refine zQ [0,3] ?_
 refine Zd ?_
 refine zD [0,3] [] ?_
 obtain ⟨z10,hz10,h⟩:=bC h
 refine Y3 (E':=⟨23,[],[(0,(sL Zc a0)),(3,(vI z10))]⟩) (O':=(Z0 O n [])) (n0:=n) ?_ ?_
 ·refine Xf hz10 (fun s0_=>⟨23,[],[(0,(sL Zc a0)),(3,(vI s0_))]⟩) (fun s0_=>(Z0 O n [])) (fun z10=>JX 0 n (⟨23,[],[(0,(sL Zc a0)),(3,(vI z10))]⟩:Env) (Z0 O n []) n) ?_
  intro s0_ x0_ hs0_
  unfold Zaf at hs0_
  try dsimp only
  refine Zd ?_
  obtain ⟨z3,hz3,hs0_⟩:=bC hs0_
  refine Y8 (E':=⟨23,[],[(0,(sL Zc a0)),(3,(vI s0_)),(16,(vB z3))]⟩) (O':=(Z0 O n [])) (n0:=n) ?_ ?_
  ·rcases Bool.eq_false_or_eq_true (decide (0 < s0_)) with c8 | c8
   ·replace hz3:=Zr c8 hz3
    obtain ⟨x6,hx6,ax6,bx6,cx6,hz3⟩:=bE (f:=Zc) Zfz (fun _=>rfl) (by decide) hz3
    have g7:=Ya8 (f:=Zc) (sz:=3) Ybw (fun _=>rfl) (by decide) (by decide) hx6
    refine Yat [some true,some true,some true,some true,some true,some true,some true] c8 ax6 bx6 cx6 g7 ?_
    exact Ykq hz3 c8 ax6 bx6 cx6 g7
   replace hz3:=Zq c8 hz3
   refine Ks [some false,some false,some false,some false,some false,some false,some false] c8 ?_
   exact J7 hz3 c8
  refine Zs (t:=z3) rfl (fun c9 => ?_) (fun c9 => ?_)
  ·replace hs0_:=Zr c9 hs0_
   refine Jh [0,3] [] ?_
   refine Yc ?_
   refine zR ?_
   exact zEn hs0_
  replace hs0_:=Zq c9 hs0_
  exact zEx hs0_
 try simp only [Xc,Yp,↓reduceIte,Nat.reduceEqDiff]
 refine zD [0,3] [] ?_
 obtain ⟨l12,al12,bl12,cl12,gl12,h⟩:=bS3 (lo:=none) (hi:=(.i64,z10)) (f:=Zc) rfl rfl Zrs Zfz (fun _=>rfl) h
 refine Ypr [2] al12 bl12 cl12 gl12 ?_
 refine zW ?_
 have h:=Option.some.inj h;subst h
 refine Zi (.inr rfl) hU [(sL Zc l12)] (by omega) ?_
 simp only [push_cast,seval,↓reduceIte,Zb,Tryz.results108,hN0,hN]
def Zqc (Zc8:(Za→Option Za)):Prop:=∀ {a0:Za} {r:Za} {O:Objs} {n:Nat},Zc8 a0=some r→GTo Tryz.prog 81 [.agg (Zj a0)] O n (.agg (Zj r)) O n
theorem Z3s {Zc8:(Za→Option Za)} (Z2c:Zqc Zc8) {a0:Za} {r:Za} {O:Objs} {n:Nat} (h:Zjn Zc8 a0=some r):GTo Tryz.prog 81 [.agg (Zj a0)] O n (.agg (Zj r)) O n:=by
 unfold Zjn at h
 refine Yo Zv Tryz.call81 Tryz.func81 rfl (Nat.le_of_ble_eq_true rfl) (Nat.le_refl _) fun hU => ?_
 have hN0:O n=none:=hU.fresh _ (Nat.le_refl _)
 have hN:∀ k,O (n+k)=none:=fun k=>hU.fresh _ (Nat.le_add_right _ _)
 show W _ _ _ _ ⟨49,[],[(0,.agg (Zj a0))]⟩ (Z0 O n []) _
 refine zQ [1,2] ?_
 refine Zd ?_
 refine zQ [1,2,10] ?_
 refine Zs (t:=(a0.Kind == 0)) rfl (fun c15 => ?_) (fun c15 => ?_)
 ·replace h:=Zr c15 h
  refine Zd ?_
  refine zRd [2] [false,true] ?_
  refine zW ?_
  have h:=Option.some.inj h;subst h
  refine Zi (.inr rfl) hU [.agg [(vI 0),nV,nV]] (by omega) ?_
  simp only [push_cast,seval,↓reduceIte,Zb,Tryz.results81,hN0,hN]
 replace h:=Zq c15 h
 refine Jh [1,2] [true,true] ?_
 refine Zlp [1,2,3,4] (Ua Zv (by kernel_rfl) [] (by kernel_rfl) ?_)
 refine zS ?_
 obtain ⟨z1,hz1,h⟩:=bC h
 refine Y8 (E':=⟨49,[],[(1,.ref n 0),(2,.ref (n+1) 0),(3,(sL (eI .u64) z1.1)),(4,(sL Zc z1.2))]⟩) (O':=(Z0 O n [some ⟨false,25,3,1,(Zj a0)⟩,some ⟨false,25,3,1,[(vI 0),nV,nV]⟩])) (n0:=(n+2)) ?_ ?_
 ·refine zQ [1,2,3,4,18] ?_
  refine Zs (t:=(a0.Kind == 1)) rfl (fun c4 => ?_) (fun c4 => ?_)
  ·replace hz1:=Zr c4 hz1
   obtain ⟨y2,hy2,hz1⟩:=bC hz1
   obtain ⟨y3,hy3,hz1⟩:=bC hz1
   refine zC (Zt8 hy2) ?_
   refine zTs (Zxl hy3) ?_
   exact zEn hz1
  replace hz1:=Zq c4 hz1
  refine zK ?_
  exact zEn hz1
 refine Zd ?_
 refine zRd [2,4,5] [false,true,true] ?_
 obtain ⟨z5,hz5,h⟩:=bC h
 refine Y8 (E':=⟨49,[],[(2,.ref (n+1) 0),(4,(sL Zc z1.2)),(5,.ref (n+2) 0)]⟩) (O':=(Z0 O n [none,some ⟨false,25,3,1,[(vI 0),nV,nV]⟩,some ⟨false,25,3,1,[(vI a0.Kind),(sL (eI .u64) z1.1),.row (n+4) z5.length]⟩,none,some (oR 25 3 Zc z5),none])) (n0:=(n+6)) ?_ ?_
 ·refine zQ [2,4,5,29] ?_
  refine Zs (t:=(decide (0 < (z1.2.length:Int)))) rfl (fun c7 => ?_) (fun c7 => ?_)
  ·replace hz5:=Zr c7 hz5
   obtain ⟨l6,al6,bl6,cl6,el6,hz5⟩:=bM2 (c:=56) rfl hz5
   have nl6:Int.toNat (z1.2.length:Int)=List.length l6:=by rw [el6,List.length_replicate]
   have fl6:∀ O O' n,wkl O O' n (List.replicate (List.length l6) [.val (.int .i64 0),.val (.slice none 0 0),.val (.slice none 0 0)]).flatten (fl Zc l6)=True:=fun O O' n=>by rw [← nl6,el6];exact eq_true (Yar (by simp only [push_cast,seval,↓reduceIte,Zb]) _)
   clear el6
   refine Yx Zv [] ?_
   simp only [push_cast,seval,↓reduceIte,Zb,al6,bl6,cl6,fl6,nl6,hN0,hN]
   have hz5:=Option.some.inj hz5;subst hz5
   refine And.intro rfl ?_
   refine Fit2.trans (E':=(⟨49,[],[(2,.ref (n+1) 0),(4,(sL Zc z1.2)),(5,.ref (n+2) 0)]⟩:Env)) (O':=(Z0 O n [none,some ⟨false,25,3,1,[(vI 0),nV,nV]⟩,some ⟨false,25,3,1,[(vI a0.Kind),(sL (eI .u64) z1.1),.row (n+3) l6.length]⟩,some (oR 25 3 Zc l6)])) (n':=(n+4)) (Fit2.of (Y1 hU rfl rfl ?_) (by omega)) ?_
   ·simp only [push_cast,seval,↓reduceIte,Zb,al6,bl6,cl6,fl6,nl6,hN0,hN]
   refine Zjg (k:=4) (k':=6) hU [5,1,2,4] [0,1,2,0,3,0] rfl rfl rfl rfl ⟨rfl,rfl⟩ ?_
   exact zSe
  replace hz5:=Zq c7 hz5
  refine zK ?_
  have hz5:=Option.some.inj hz5;subst hz5
  refine And.intro rfl ?_
  refine Fit2.trans (E':=(⟨49,[],[(2,.ref (n+1) 0),(4,(sL Zc z1.2)),(5,.ref (n+2) 0)]⟩:Env)) (O':=(Z0 O n [none,some ⟨false,25,3,1,[(vI 0),nV,nV]⟩,some ⟨false,25,3,1,[(vI a0.Kind),(sL (eI .u64) z1.1),nV]⟩])) (n':=(n+3)) (Fit2.of (Y1 hU rfl rfl ?_) (by omega)) ?_
  ·exact zSe
  refine Fit2.trans (Yay (p:=(n+2)) (k:=2) (q:=⟨false,25,3,1,[(vI a0.Kind),(sL (eI .u64) z1.1),nV]⟩) 25 3 (by simp only [Zhg,Zsz,List.getElem?_cons_zero,List.getElem?_cons_succ,Option.join_some,List.length_nil,X3]) rfl (by omega)) ?_
  simp only [Za3,Uu,Zjd,Zhh,List.set_cons_zero,List.set_cons_succ,List.cons_append,List.nil_append,List.length_cons,List.length_nil,Nat.zero_add,Nat.reduceAdd,Nat.reduceLT,Nat.add_assoc]
  refine Zjg (k:=4) (k':=6) hU [5,1,2,4] [0,1,2,0,3,0] rfl rfl rfl rfl ⟨rfl,rfl⟩ ?_
  exact zSe
 refine Zd ?_
 refine zQd [2,5,34,35,36] [2,5,34,35,36] [false,true,true,false,true,false] ?_
 obtain ⟨z14,hz14,h⟩:=bC h
 refine Y3 (E':=⟨49,[],[(2,.ref (n+1) 0),(5,.ref (n+2) 0)]⟩) (O':=(Z0 O n [none,some ⟨false,25,3,1,[(vI 0),nV,nV]⟩,some ⟨false,25,3,1,[(vI a0.Kind),(sL (eI .u64) z1.1),.row (n+4) z14.length]⟩,none,some (oR 25 3 Zc z14),none])) (n0:=(n+6)) ?_ ?_
 ·refine Xf hz14 (fun s0_=>⟨49,[],[(2,.ref (n+1) 0),(5,.ref (n+2) 0),(34,(sL Zc z1.2)),(35,(vI (z1.2.length:Int))),(36,(vI s0_.1))]⟩) (fun s0_=>(Z0 O n [none,some ⟨false,25,3,1,[(vI 0),nV,nV]⟩,some ⟨false,25,3,1,[(vI a0.Kind),(sL (eI .u64) z1.1),.row (n+4) s0_.2.length]⟩,none,some (oR 25 3 Zc s0_.2),none])) (fun z14=>JX 0 n (⟨49,[],[(2,.ref (n+1) 0),(5,.ref (n+2) 0)]⟩:Env) (Z0 O n [none,some ⟨false,25,3,1,[(vI 0),nV,nV]⟩,some ⟨false,25,3,1,[(vI a0.Kind),(sL (eI .u64) z1.1),.row (n+4) z14.length]⟩,none,some (oR 25 3 Zc z14),none]) (n+6)) ?_
  intro s0_ x0_ hs0_
  unfold Zcq at hs0_
  try dsimp only
  refine zQ [2,5,34,35,36,37] ?_
  refine Zd ?_
  refine Zs (t:=(decide (s0_.1 < (z1.2.length:Int)))) rfl (fun c13 => ?_) (fun c13 => ?_)
  ·replace hs0_:=Zr c13 hs0_
   refine Jh [2,5,34,35,36] [false,true,true,false,true,false] ?_
   refine Zd ?_
   refine Yc ?_
   refine Zd ?_
   obtain ⟨x9,hx9,ax9,bx9,cx9,hs0_⟩:=bE (f:=Zc) Zfz (fun _=>rfl) (by decide) hs0_
   refine Zec [] ax9 bx9 cx9 ?_
   refine zD [2,5,6,7,34,35,36] [false,true,true,false,true,false,true] ?_
   obtain ⟨y10,hy10,hs0_⟩:=bC hs0_
   obtain ⟨x11,hx11,ax11,bx11,cx11,hs0_⟩:=bE (f:=Zc) Zfz (fun _=>rfl) (by decide) hs0_
   have gu12:U3 (fl Zc s0_.2) [.val (.int .i64 y10.Kind),.sl y10.Words.length (fl (eI .u64) y10.Words),.sl y10.Kids.length (fl Zc y10.Kids)] (Int.toNat s0_.1 * 3)=some (fl Zc (Jo s0_.2 s0_.1 y10)):=(congrArg (fun c=>U3 (fl Zc s0_.2) c (Int.toNat s0_.1 * 3)) (show [.val (.int .i64 y10.Kind),.sl y10.Words.length (fl (eI .u64) y10.Words),.sl y10.Kids.length (fl Zc y10.Kids)]=Zc y10 from by simp only [Zc,Yz,eI,eB,eS,eL])).trans (Zi4 (f:=Zc) (ti:=⟨.bool,3,0,[],false⟩) (x:=y10) (fun _=>rfl) (Ze0 hx11))
   refine Zhj Zv (by kernel_rfl) [false,false,false,false,false,false,true] [] (by kernel_rfl) ?_
   refine zF4 ax11 bx11 cx11 gu12 ?_
   refine PCall.of (Z2c hy10) ?_
   refine zF4 ax11 bx11 cx11 gu12 ?_
   refine zD [2,5,34,35,36] [false,true,true,false,true,false,false] ?_
   refine zR ?_
   exact zEn hs0_
  replace hs0_:=Zq c13 hs0_
  exact zEx hs0_
 try simp only [Xc,Yp,↓reduceIte,Nat.reduceEqDiff]
 refine zDs [2,5] [false,true,true,false,true,false] ?_
 refine zRd [2] [false,true,false,false,true,false] ?_
 refine zW ?_
 have h:=Option.some.inj h;subst h
 refine Zi (.inr rfl) hU [.agg [(vI a0.Kind),(sL (eI .u64) z1.1),.row (n+4) z14.length]] (by omega) ?_
 simp only [push_cast,seval,↓reduceIte,Zb,Tryz.results81,hN0,hN]
theorem Zyf:∀ k,(Zqc (Gf k)):=fun k=>by
 induction k with
 | zero=>exact @fun a0 r O n h=>(nomatch (show (none:Option _)=some _ from h))
 | succ k ih=>exact @fun a0 r O n h=>Z3s (ih)  h
theorem Zt6 {a0:Za} {r:Za} {O:Objs} {n:Nat} (h:Zl9 a0=some r):GTo Tryz.prog 81 [.agg (Zj a0)] O n (.agg (Zj r)) O n:=by
 obtain ⟨k,hk⟩:=Zcv h
 exact (Zyf k)  hk
theorem Z5p {a0:Int} {r:Bool} {O:Objs} {n:Nat} (h:Zl8 a0=some r):GTo Tryz.prog 236 [(vI a0)] O n ((vB r)) O n:=by
 unfold Zl8 at h
 refine Yo Zv Tryz.call236 Tryz.func236 rfl (Nat.le_of_ble_eq_true rfl) (Nat.le_refl _) fun hU => ?_
 have hN0:O n=none:=hU.fresh _ (Nat.le_refl _)
 have hN:∀ k,O (n+k)=none:=fun k=>hU.fresh _ (Nat.le_add_right _ _)
 show W _ _ _ _ ⟨9,[],[(0,(vI a0))]⟩ (Z0 O n []) _
 refine zQ [0] ?_
 refine zQD [2] [none,none] ?_
 refine zW ?_
 have h:=Option.some.inj h;subst h
 refine Zi (.inr rfl) hU [(vB (cond (decide (2≤a0)) (decide (a0≤7)) false))] (by omega) ?_
 simp only [push_cast,seval,↓reduceIte,Zb,Tryz.results236,hN0,hN]
theorem Zmv {a0:Int} {r:(Int×Bool)} {O:Objs} {n:Nat} (h:Gh a0=some r):GTo Tryz.prog 282 [(vI a0)] O n (.tup [(vI r.1),(vB r.2)]) O n:=by
 unfold Gh at h
 refine Yo Zv Tryz.call282 Tryz.func282 rfl (Nat.le_of_ble_eq_true rfl) (Nat.le_refl _) fun hU => ?_
 have hN0:O n=none:=hU.fresh _ (Nat.le_refl _)
 have hN:∀ k,O (n+k)=none:=fun k=>hU.fresh _ (Nat.le_add_right _ _)
 show W _ _ _ _ ⟨15,[],[(0,(vI a0))]⟩ (Z0 O n []) _
 refine zQ [0] ?_
 refine Zd ?_
 obtain ⟨y6,hy6,ey6,h⟩:=bY (f:=(eI .i64)) (cs:=[.val (.int .i64 0),.val (.int .i64 1),.val (.int .i64 8),.val (.int .i64 16),.val (.int .i64 32),.val (.int .i64 64)]) rfl h
 have g7:=congrArg G.agg ey6
 obtain ⟨y8,hy8,ey8,h⟩:=bY (f:=(eI .i64)) (cs:=[.val (.int .i64 0),.val (.int .i64 0),.val (.int .i64 0),.val (.int .i64 0),.val (.int .i64 0),.val (.int .i64 0)]) rfl h
 have g9:=congrArg (GObj.mk false 346 6 1) ey8
 have g10:=Zi3 (f:=(eI .i64)) y8 y6 (fun _=>rfl)
 refine Zhd [] g7 g9 g10 ?_
 refine zDs [0,4] [true] ?_
 refine zQD [0,4,11] [none,none] ?_
 refine Zs (t:=(cond (decide (a0 < 0)) true (decide (6≤a0)))) rfl (fun c13 => ?_) (fun c13 => ?_)
 ·replace h:=Zr c13 h
  refine zQ [2,3] ?_
  refine zW ?_
  have h:=Option.some.inj h;subst h
  refine Zi (.inr rfl) hU [(vI 0),(vB false)] (by omega) ?_
  simp only [push_cast,seval,↓reduceIte,Zb,Tryz.results282,hN0,hN]
 replace h:=Zq c13 h
 refine Jh [0,4] [true] ?_
 obtain ⟨x12,hx12,ax12,bx12,cx12,h⟩:=bEA (f:=(eI .i64)) (b:=6) rfl Ybw (fun _=>rfl) (by decide) h
 refine Zlp [2,3] (Yx Zv [] ?_)
 refine zF3 ax12 bx12 cx12 ?_
 refine zW ?_
 have h:=Option.some.inj h;subst h
 refine Zi (.inr rfl) hU [(vI x12),(vB true)] (by omega) ?_
 simp only [push_cast,seval,↓reduceIte,Zb,Tryz.results282,hN0,hN]
theorem Zua {a0:Int} {a1:Int} {r:Int} {O:Objs} {n:Nat} (h:Zg7 a0 a1=some r):GTo Tryz.prog 237 [(vI a0),(vI a1)] O n ((vI r)) O n:=by
 unfold Zg7 at h
 refine Yo Zv Tryz.call237 Tryz.func237 rfl (Nat.le_of_ble_eq_true rfl) (Nat.le_refl _) fun hU => ?_
 have hN0:O n=none:=hU.fresh _ (Nat.le_refl _)
 have hN:∀ k,O (n+k)=none:=fun k=>hU.fresh _ (Nat.le_add_right _ _)
 show W _ _ _ _ ⟨27,[],[(0,(vI a0)),(1,(vI a1))]⟩ (Z0 O n []) _
 refine zQ [0,1] ?_
 refine Zd ?_
 obtain ⟨y2,hy2,h⟩:=bC h
 refine zCd (Zmv hy2) [1,5,6] [] ?_
 refine Zd ?_
 refine zQD [1,5,21] [none,none,none,none] ?_
 refine Zs (t:=(cond (cond (!y2.2) true (decide (a1 < 0))) true (decide (1099511627776 < a1)))) rfl (fun c3 => ?_) (fun c3 => ?_)
 ·replace h:=Zr c3 h
  refine zQ [4] ?_
  refine zW ?_
  have h:=Option.some.inj h;subst h
  refine Zi (.inr rfl) hU [(vI 0)] (by omega) ?_
  simp only [push_cast,seval,↓reduceIte,Zb,Tryz.results237,hN0,hN]
 replace h:=Zq c3 h
 refine Jh [1,5] [] ?_
 refine zQ [4] ?_
 refine zW ?_
 have h:=Option.some.inj h;subst h
 refine Zi (.inr rfl) hU [(vI (IntKind.i64.wrap (Int.tdiv (IntKind.i64.wrap ((IntKind.i64.wrap (a1 * y2.1))+63)) 64)))] (by omega) ?_
 simp only [push_cast,seval,↓reduceIte,Zb,Tryz.results237,hN0,hN]
theorem Zmt {a0:Za} {r:(Int×Int)} {O:Objs} {n:Nat} (h:Zdf a0=some r):GTo Tryz.prog 238 [.agg (Zj a0)] O n (.tup [(vI r.1),(vI r.2)]) O n:=by
 unfold Zdf at h
 refine Yo Zv Tryz.call238 Tryz.func238 rfl (Nat.le_of_ble_eq_true rfl) (Nat.le_refl _) fun hU => ?_
 have hN0:O n=none:=hU.fresh _ (Nat.le_refl _)
 have hN:∀ k,O (n+k)=none:=fun k=>hU.fresh _ (Nat.le_add_right _ _)
 show W _ _ _ _ ⟨28,[],[(0,.agg (Zj a0))]⟩ (Z0 O n []) _
 refine zQ [1] ?_
 refine zQ [1,4,5] ?_
 refine Zd ?_
 refine zQd [4,5,9,10,11] [4,5,9,10,11] [false] ?_
 obtain ⟨z4,hz4,h⟩:=bC h
 refine Y3 (E':=⟨28,[],[(4,(vI z4.1)),(5,(vI z4.2))]⟩) (O':=(Z0 O n [none])) (n0:=(n+1)) ?_ ?_
 ·refine Xf hz4 (fun s0_=>⟨28,[],[(4,(vI s0_.1)),(5,(vI s0_.2.1)),(9,(sL Zc a0.Kids)),(10,(vI (a0.Kids.length:Int))),(11,(vI s0_.2.2))]⟩) (fun s0_=>(Z0 O n [none])) (fun z4=>JX 0 n (⟨28,[],[(4,(vI z4.1)),(5,(vI z4.2))]⟩:Env) (Z0 O n [none]) (n+1)) ?_
  intro s0_ x0_ hs0_
  unfold Zd0 at hs0_
  try dsimp only
  refine zQ [4,5,9,10,11,12] ?_
  refine Zd ?_
  refine Zs (t:=(decide (s0_.2.2 < (a0.Kids.length:Int)))) rfl (fun c3 => ?_) (fun c3 => ?_)
  ·replace hs0_:=Zr c3 hs0_
   refine Jh [4,5,9,10,11] [false] ?_
   refine Zd ?_
   refine Yc ?_
   refine Zd ?_
   obtain ⟨x2,hx2,ax2,bx2,cx2,hs0_⟩:=bE (f:=Zc) Zfz (fun _=>rfl) (by decide) hs0_
   refine Zec [] ax2 bx2 cx2 ?_
   refine zD [4,5,7,9,10,11] [false,true] ?_
   refine Ua Zv (by kernel_rfl) [] (by kernel_rfl) ?_
   refine zS ?_
   refine zD [4,5,9,10,11] [false,false] ?_
   refine zR ?_
   exact zEn hs0_
  replace hs0_:=Zq c3 hs0_
  exact zEx hs0_
 try simp only [Xc,Yp,↓reduceIte,Nat.reduceEqDiff]
 refine zD [4,5] [false] ?_
 refine zQ [2,3] ?_
 refine zW ?_
 have h:=Option.some.inj h;subst h
 refine Zi (.inr rfl) hU [(vI z4.1),(vI z4.2)] (by omega) ?_
 simp only [push_cast,seval,↓reduceIte,Zb,Tryz.results238,hN0,hN]
def Zk4 (Vr:(Za→Option Int)):Prop:=∀ {a0:Za} {r:Int} {O:Objs} {n:Nat},Vr a0=some r→GTo Tryz.prog 175 [.agg (Zj a0)] O n ((vI r)) O n
def Zj7 (Je:((List Za)→Option Int)):Prop:=∀ {a0:(List Za)} {r:Int} {O:Objs} {n:Nat},Je a0=some r→GTo Tryz.prog 235 [(sL Zc a0)] O n ((vI r)) O n
theorem Z3t {Vr:(Za→Option Int)} {Je:((List Za)→Option Int)} (Zqf:Zk4 Vr) (Zgm:Zj7 Je) {a0:Za} {r:Int} {O:Objs} {n:Nat} (h:Zjo Vr Je a0=some r):GTo Tryz.prog 175 [.agg (Zj a0)] O n ((vI r)) O n:=by
 unfold Zjo at h
 refine Yo Zv Tryz.call175 Tryz.func175 rfl (Nat.le_of_ble_eq_true rfl) (Nat.le_refl _) fun hU => ?_
 have hN0:O n=none:=hU.fresh _ (Nat.le_refl _)
 have hN:∀ k,O (n+k)=none:=fun k=>hU.fresh _ (Nat.le_add_right _ _)
 show W _ _ _ _ ⟨76,[],[(0,.agg (Zj a0))]⟩ (Z0 O n []) _
 refine zQ [1] ?_
 refine Zd ?_
 refine Yc ?_
 refine zQ [1,8] ?_
 refine Zs (t:=(a0.Kind == 1)) rfl (fun c19 => ?_) (fun c19 => ?_)
 ·replace h:=Zr c19 h
  refine Zd ?_
  obtain ⟨y2,hy2,h⟩:=bC h
  refine Ua Zv (by kernel_rfl) [] (by kernel_rfl) ?_
  refine zS ?_
  refine PCall.of (Zgm hy2) ?_
  refine zS ?_
  refine zD [2] [false] ?_
  refine zW ?_
  have h:=Option.some.inj h;subst h
  refine Zi (.inr rfl) hU [(vI (IntKind.i64.wrap ((IntKind.i64.wrap ((a0.Words.length:Int)+(a0.Kids.length:Int)))+y2)))] (by omega) ?_
  simp only [push_cast,seval,↓reduceIte,Zb,Tryz.results175,hN0,hN]
 replace h:=Zq c19 h
 refine Zd ?_
 obtain ⟨y4,hy4,h⟩:=bC h
 refine zCd (Z5p hy4) [1,23] [true] ?_
 refine Zs (t:=y4) rfl (fun Uj => ?_) (fun Uj => ?_)
 ·replace h:=Zr Uj h
  refine Zd ?_
  obtain ⟨y6,hy6,h⟩:=bC h
  refine zCd (Zua hy6) [2] [false] ?_
  refine zW ?_
  have h:=Option.some.inj h;subst h
  refine Zi (.inr rfl) hU [(vI y6)] (by omega) ?_
  simp only [push_cast,seval,↓reduceIte,Zb,Tryz.results175,hN0,hN]
 replace h:=Zq Uj h
 refine zQ [1,34] ?_
 refine Zs (t:=(a0.Kind == 8)) rfl (fun c17 => ?_) (fun c17 => ?_)
 ·replace h:=Zr c17 h
  refine Zd ?_
  obtain ⟨y8,hy8,h⟩:=bC h
  refine Ua Zv (by kernel_rfl) [] (by kernel_rfl) ?_
  refine zS ?_
  refine PCall.of (Zgm hy8) ?_
  refine zS ?_
  refine zD [2] [false] ?_
  refine zW ?_
  have h:=Option.some.inj h;subst h
  refine Zi (.inr rfl) hU [(vI (IntKind.i64.wrap ((a0.Kids.length:Int)+y8)))] (by omega) ?_
  simp only [push_cast,seval,↓reduceIte,Zb,Tryz.results175,hN0,hN]
 replace h:=Zq c17 h
 refine zQ [1,45] ?_
 refine Zs (t:=(a0.Kind == 9)) rfl (fun c16 => ?_) (fun c16 => ?_)
 ·replace h:=Zr c16 h
  refine Zd ?_
  obtain ⟨y10,hy10,h⟩:=bC h
  refine zCd (Zmt hy10) [1,3,4] [true] ?_
  refine zQ [1,5] ?_
  refine Zd ?_
  refine zQd [5,63,64,65] [5,63,64,65] [false] ?_
  obtain ⟨z15,hz15,h⟩:=bC h
  refine Y3 (E':=⟨76,[],[(5,(vI z15))]⟩) (O':=(Z0 O n [none])) (n0:=(n+1)) ?_ ?_
  ·refine Xf hz15 (fun s0_=>⟨76,[],[(5,(vI s0_.1)),(63,(sL Zc a0.Kids)),(64,(vI (a0.Kids.length:Int))),(65,(vI s0_.2))]⟩) (fun s0_=>(Z0 O n [none])) (fun z15=>JX 1 n (⟨76,[],[(5,(vI z15))]⟩:Env) (Z0 O n [none]) (n+1)) ?_
   intro s0_ x0_ hs0_
   unfold Zcr at hs0_
   try dsimp only
   refine zQ [5,63,64,65,66] ?_
   refine Zd ?_
   refine Zs (t:=(decide (s0_.2 < (a0.Kids.length:Int)))) rfl (fun Jg => ?_) (fun Jg => ?_)
   ·replace hs0_:=Zr Jg hs0_
    refine Jh [5,63,64,65] [false] ?_
    refine Zd ?_
    refine Yc ?_
    refine Zd ?_
    obtain ⟨x12,hx12,ax12,bx12,cx12,hs0_⟩:=bE (f:=Zc) Zfz (fun _=>rfl) (by decide) hs0_
    refine Zec [] ax12 bx12 cx12 ?_
    refine zD [5,7,63,64,65] [false,true] ?_
    obtain ⟨y13,hy13,hs0_⟩:=bC hs0_
    refine zCd (Zgm hy13) [5,63,64,65] [false,false] ?_
    refine zR ?_
    exact zEn hs0_
   replace hs0_:=Zq Jg hs0_
   exact zEx hs0_
  try simp only [Xc,Yp,↓reduceIte,Nat.reduceEqDiff]
  refine zD [5] [false] ?_
  refine zQ [2] ?_
  refine zW ?_
  have h:=Option.some.inj h;subst h
  refine Zi (.inr rfl) hU [(vI z15)] (by omega) ?_
  simp only [push_cast,seval,↓reduceIte,Zb,Tryz.results175,hN0,hN]
 replace h:=Zq c16 h
 refine Jh [] [false] ?_
 refine zQ [2] ?_
 refine zW ?_
 have h:=Option.some.inj h;subst h
 refine Zi (.inr rfl) hU [(vI 0)] (by omega) ?_
 simp only [push_cast,seval,↓reduceIte,Zb,Tryz.results175,hN0,hN]
theorem Z2l {Vr:(Za→Option Int)} {Je:((List Za)→Option Int)} (Zqf:Zk4 Vr) (Zgm:Zj7 Je) {a0:(List Za)} {r:Int} {O:Objs} {n:Nat} (h:Zht Vr Je a0=some r):GTo Tryz.prog 235 [(sL Zc a0)] O n ((vI r)) O n:=by
 unfold Zht at h
 refine Yo Zv Tryz.call235 Tryz.func235 rfl (Nat.le_of_ble_eq_true rfl) (Nat.le_refl _) fun hU => ?_
 have hN0:O n=none:=hU.fresh _ (Nat.le_refl _)
 have hN:∀ k,O (n+k)=none:=fun k=>hU.fresh _ (Nat.le_add_right _ _)
 show W _ _ _ _ ⟨18,[],[(0,(sL Zc a0))]⟩ (Z0 O n []) _
 refine zQ [0] ?_
 refine zQ [0,3] ?_
 refine Zd ?_
 refine zQd [3,6,7,8] [3,6,7,8] [] ?_
 obtain ⟨z5,hz5,h⟩:=bC h
 refine Y3 (E':=⟨18,[],[(3,(vI z5))]⟩) (O':=(Z0 O n [])) (n0:=n) ?_ ?_
 ·refine Xf hz5 (fun s0_=>⟨18,[],[(3,(vI s0_.1)),(6,(sL Zc a0)),(7,(vI (a0.length:Int))),(8,(vI s0_.2))]⟩) (fun s0_=>(Z0 O n [])) (fun z5=>JX 0 n (⟨18,[],[(3,(vI z5))]⟩:Env) (Z0 O n []) n) ?_
  intro s0_ x0_ hs0_
  unfold Zay at hs0_
  try dsimp only
  refine zQ [3,6,7,8,9] ?_
  refine Zd ?_
  refine Zs (t:=(decide (s0_.2 < (a0.length:Int)))) rfl (fun c4 => ?_) (fun c4 => ?_)
  ·replace hs0_:=Zr c4 hs0_
   refine Jh [3,6,7,8] [] ?_
   refine Zd ?_
   refine Yc ?_
   refine Zd ?_
   obtain ⟨x2,hx2,ax2,bx2,cx2,hs0_⟩:=bE (f:=Zc) Zfz (fun _=>rfl) (by decide) hs0_
   refine Zec [] ax2 bx2 cx2 ?_
   refine zD [3,5,6,7,8] [true] ?_
   obtain ⟨y3,hy3,hs0_⟩:=bC hs0_
   refine zCd (Zqf hy3) [3,6,7,8] [false] ?_
   refine zR ?_
   exact zEn hs0_
  replace hs0_:=Zq c4 hs0_
  exact zEx hs0_
 try simp only [Xc,Yp,↓reduceIte,Nat.reduceEqDiff]
 refine zD [3] [] ?_
 refine zQ [2] ?_
 refine zW ?_
 have h:=Option.some.inj h;subst h
 refine Zi (.inr rfl) hU [(vI z5)] (by omega) ?_
 simp only [push_cast,seval,↓reduceIte,Zb,Tryz.results235,hN0,hN]
theorem Zyg:∀ k,(Zk4 ((Xy k).1))∧(Zj7 ((Xy k).2)):=fun k=>by
 induction k with
 | zero=>exact ⟨@fun a0 r O n h=>(nomatch (show (none:Option _)=some _ from h)),@fun a0 r O n h=>(nomatch (show (none:Option _)=some _ from h))⟩
 | succ k ih=>exact ⟨@fun a0 r O n h=>Z3t (ih.1) (ih.2)  h,@fun a0 r O n h=>Z2l (ih.1) (ih.2)  h⟩
theorem Z5r {a0:Za} {r:Int} {O:Objs} {n:Nat} (h:Zqa a0=some r):GTo Tryz.prog 175 [.agg (Zj a0)] O n ((vI r)) O n:=by
 obtain ⟨k,hk⟩:=Zcv h
 exact (Zyg k).1  hk
theorem Zt7 {a0:Za} {r:Int} {O:Objs} {n:Nat} (h:Zg5 a0=some r):GTo Tryz.prog 115 [.agg (Zj a0)] O n ((vI r)) O n:=by
 unfold Zg5 at h
 refine Yo Zv Tryz.call115 Tryz.func115 rfl (Nat.le_of_ble_eq_true rfl) (Nat.le_refl _) fun hU => ?_
 have hN0:O n=none:=hU.fresh _ (Nat.le_refl _)
 have hN:∀ k,O (n+k)=none:=fun k=>hU.fresh _ (Nat.le_add_right _ _)
 show W _ _ _ _ ⟨6,[],[(0,.agg (Zj a0))]⟩ (Z0 O n []) _
 refine zQ [1] ?_
 refine Zd ?_
 obtain ⟨y3,hy3,h⟩:=bC h
 obtain ⟨y4,hy4,h⟩:=bC h
 refine zC (Zt6 hy3) ?_
 refine zTs (Z5r hy4) ?_
 refine zD [2] [false] ?_
 refine zW ?_
 have h:=Option.some.inj h;subst h
 refine Zi (.inr rfl) hU [(vI y4)] (by omega) ?_
 simp only [push_cast,seval,↓reduceIte,Zb,Tryz.results115,hN0,hN]
theorem Zk7 {a0:Za} {r:Z3} {O:Objs} {n:Nat} (h:Ud a0=some r):GTo Tryz.prog 157 [.agg (Zj a0)] O n (.agg [(vB r.something),(vI r.size)]) O n:=by
 unfold Ud at h
 refine Yo Zv Tryz.call157 Tryz.func157 rfl (Nat.le_of_ble_eq_true rfl) (Nat.le_refl _) fun hU => ?_
 have hN0:O n=none:=hU.fresh _ (Nat.le_refl _)
 have hN:∀ k,O (n+k)=none:=fun k=>hU.fresh _ (Nat.le_add_right _ _)
 show W _ _ _ _ ⟨9,[],[(0,.agg (Zj a0))]⟩ (Z0 O n []) _
 refine zQ [1,2] ?_
 refine Zd ?_
 obtain ⟨y2,hy2,h⟩:=bC h
 refine Zhj Zv (by kernel_rfl) [false,false,false,false,false,false,true] [] (by kernel_rfl) ?_
 refine zS ?_
 refine PCall.of (Zt7 hy2) ?_
 refine zS ?_
 refine zD [2] [false,true] ?_
 refine zW ?_
 have h:=Option.some.inj h;subst h
 refine Zi (.inr rfl) hU [.agg [(vB (a0.Kind != 0)),(vI y2)]] (by omega) ?_
 simp only [push_cast,seval,↓reduceIte,Zb,Tryz.results157,hN0,hN]
end Go.Proofs.YtmlcnhambfkjaaaGreat
