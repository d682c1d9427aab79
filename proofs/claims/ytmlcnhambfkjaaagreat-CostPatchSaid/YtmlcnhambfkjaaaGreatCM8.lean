/- Part CM8 of this seat's mirrors: functions of the seat's program, and the plain functions that they are; each theorem bears its own conditions. -/
import Derived.Test.YtmlcnhambfkjaaaGreatCE
import Derived.Test.YtmlcnhambfkjaaaGreatCM6
namespace Go.Proofs.YtmlcnhambfkjaaaGreat
open Go.RowKit
set_option linter.unusedVariables false
set_option linter.unusedSimpArgs false
set_option maxRecDepth 100000
set_option maxHeartbeats 4000000
attribute [local push_cast] vI vB nV sL oR Zm Kp Kh Y4 Zj Gt Kz Qe Z4 Zy8 Zy7 Zzv Zzu Xc Yp Ztl Zoc Zob onW Qy Zh0 Zf8 Zx2 Zxd Zrm Zrq Zrl Zrp Zu3 Zuz Zro Zu2 Zu1 Zu0 Zrn Zux Zpb evS wok Ki Op.operands Call.operands gop onK onP atK List.all_cons List.all_nil Bool.and_true Bool.true_and Bool.and_self Value.oneCell' List.take_zero List.take_succ_cons List.take_nil List.drop_zero List.drop_succ_cons List.drop_nil List.append_nil Nat.add_zero Nat.zero_add Za7 Y0 ev K0 Zw9 Zy1 Zy0 Zy6 Zy4 Zy5 Zy2 Zy3 Zyz Zye Z1r Z43 Zoh Zh2 Zm6 Zh1 Zq3 Zky Zlv Zl0 Zn5 Zn1 Zly Zn4 Zn3 Zn2 Zlx Znz Zlw Zlz Zkh Zn0 Zp2 Zoe Ze1 Zog Ze2 Zp1 Zoa Z3l bLo bHi bMx Zh3 Zpz Z9b Zn9 Zp0 Zkj Zc5 Z1u Z9d Zn8 Zkw Z9i Zhz Ya7 Ztq Ztu Ztp Ztt Zzj Zzf Zzd Zq5 Ztr Zzi Zzh Zzg Zts Zze Zpt Zxc Zuq Zo1 Zo0 pop TK.isAgg Zzo Zzs Zzn Zzr Zug Z50 Z5w Zzq Z5z Z5y Z5x Zzp Z5v G.under G.unders List.getD_cons_zero List.getD_cons_succ List.set_cons_zero List.set_cons_succ List.map_cons List.map_nil List.toList_toArray Array.toList_append Option.toArray_none Option.toArray_some Array.toList_map Option.map_some Option.map_none Option.bind_some Option.bind_none List.getElem?_cons_zero List.getElem?_cons_succ List.getElem?_nil List.nil_append List.cons_append List.replicate_succ List.replicate_zero List.length_cons List.length_nil and_true true_and and_false false_and Bool.true_eq_false Bool.false_eq_true forall_const false_implies implies_true IntKind.bits if_true if_false ite_true ite_false eq_self true_implies false_or or_false or_true true_or not_true_eq_false not_false_eq_true decide_true decide_false decide_eq_true_eq decide_eq_false_iff_not beq_iff_eq bne_iff_ne ne_eq Bool.not_eq_true Bool.not_eq_false beq_eq_false_iff_ne bne_eq_false_iff_eq beq_self_eq_true bne_self_eq_false Option.some.injEq exists_eq_left' exists_eq_left ge_iff_le gt_iff_lt decide_not Bool.not_true Bool.not_false imp_self Z46 cond_true cond_false Yit Yir Bool.not_not Bool.and_false Bool.false_and Bool.or_true Bool.true_or Bool.or_false Bool.false_or Zhg Zsz Zjd Zhh Za3 Uu Option.join_some Nat.add_assoc Int.toNat_natCast eI eB eS eL Ge Zm7 Zl4 Zzb Zy9 Zza Ybi Ye7 Zno Zmc Zz2 Zz0 Zz1 Z5u Zrx Z38 Zsc Z3i Zg1 Z1k List.length_append G.agg.injEq G.row.injEq G.ref.injEq G.val.injEq G.sl.injEq G.tup.injEq Value.int.injEq Value.bool.injEq Value.string.injEq List.cons.injEq exists_and_left exists_const List.flatten_cons List.flatten_nil Int.le_refl Nat.le_refl Zj2 J3 Zdp Bool.not_eq_true' Bool.not_eq_false' Z06 Znx Z8g Z8l Z8f Z8k Yea Yd5 List.size_toArray Zxq Zx6 G.ren G.rens Z2r Zll Zz4 Zyx Zyy Zuy Z8m Zgz G.fn.injEq Zqp Zwv Z05 Yd6 Zwu Z8j Yd9 Yd8 Yd7 Z8h Z5l Ycn Option.join_none X3 Gd undef Zp8 Arr.len Arr.put_eq Znn Zra Zox Zmb Zzz Zzx Zzy onB Ybh Z1q Q0 Zq0 Zs0 Zs1 Zs2 Zs3 Zs4 Zs5 Zq7 Zrd Zrb Zoz Zmd Zrc Zup Zuo Zun Zum Ye6 Yhb Z5t Z3u Ui Z5n Zxe Zre Zoy Z96 Zx8 Zn7 Zpy Zjh Zqk Zs6 Zs7 Zs8 Zs9 Zqt Zqu Zqv Zqw Zqx Zqy Zqz Zkb prT Zhe Yjz Z73 Ybw Z74 Yj0 Z75 Z72 Z76 Yj1 Z77 Yj2 Z78 Yj3 Z79 Yj4 Z8a Ydc Zz9 Ydd Z0a Yde Z0b Ydf Z0c Ydg Z0d Ydh Z0e Ydi Z0f Ydj Z0g Ydk Z0h Ydl Z0i Ydm Z0j Zu5 Zkn Z4m Zrs Ydn Z0k Zfz Z0l Ydo Z0m Ydp Z0n Ydq Z0o Ydr Z0p Zx9 Z0q Yds Z0r Ydt Z0s Ydu Z0t Ydv Z0u Ydw Zwt Ydx Z0v Ydy Z0w Zf0 Z0x Ydz Z0y Yd0 Z0z Zya Z00 Yd1 Z01 Zsd Z02 Yd2 Z03 Zmj Z04 Z6h Zu7 Z6i Zu8 Z6j Zu9 Z6k Zva Z6l Zvb Z6m Zvc Z6n Zvd Z6o Zve Z6p Zvf Z6q Zvg Z6r Zvh Z28 Zvi Z6s Zvj Z6t Zvk Z6u Zvl Z6v Zvm Z6w Zvn Z6x Zvo Z6y Zvp Z6z Zvq Z60 Zvr Z61 Zvs Z62 Zvt Zxv Zqn Z63 Zvu Z64 Zvv Z65 Zvw Z66 Zvx Z67 Zvy Z68 Zvz Z69 Zv0 Z7a Zv1 Z7b Zv2 Z7c Zv3 Z7d Zv4 Z7e Zv5 Z7f Zv6 Z7g Zv7 Z7h Zv8 Z7i Zv9 Z7j Zwa Z7k Zwb Z7l Zwc Z7m Zwd Z7n Zwe Z7o Zwf Z7p Zwg Z7q Zwh Z7r Zwi Z7s Zwj Z7t Zwk Z7u Zwl Z7v Zwm Z7w Zwn Z7x Zwo Z7y Zwp Z7z Zwq Z70 Zwr Z71 Zws Zc Yz Zpj Zph Zoj Zov Zpl Zml Zmi Zmg Zpe Zfv Zfu Zfj Zfq Zfw Zeu Zes Zer Zft Zp Qx Zo Zz Xi Y2 Xx Zbq Zbp Za8 Zbg Zbr Zas Zaq Zap Zbm Zcj Zch Zb6 Zcd Zcl Zbn Zbj Zbh Zcf Ziv Ziu Zh6 Zil Ziw Zgp Zgo Zgn Zis Zrv Zru Zq4 Zq9 Zrw Zpf Zo5 Zo4 Zrt Zpi Zpg Zoi Zou Zpk Zmk Zmh Zmf Zpd Yu Zew Zev Zen Zeq Zex Zdo Zdm Zdl Zet Zl2 Zgi Zjk Zjj Zje Zjf Zjl Zit Ziq Zip Zji Zu Zck Zci Zb7 Zce Zcm Zbo Zbk Zbi Zcg Zhv Zl1 Zhw Yl Zau Zat Zal Zao Zav Gn Gl Gk Zar
theorem Zoq {a0:(Option Zw)} {a1:Int} {a2:Int} {r:(Zf×Int)} {O:Objs} {n:Nat} (h:Ze8 a0 a1 a2=some r):GTo Tryz.prog 140 [(gP Zu a0),(vI a1),(vI a2)] O n (.tup [.agg (Z4 r.1),(vI r.2)]) O n:=by
 unfold Ze8 at h
 refine Yo Zv Tryz.call140 Tryz.func140 rfl (Nat.le_of_ble_eq_true rfl) (Nat.le_refl _) fun hU => ?_
 have hN0:O n=none:=hU.fresh _ (Nat.le_refl _)
 have hN:∀ k,O (n+k)=none:=fun k=>hU.fresh _ (Nat.le_add_right _ _)
 show W _ _ _ _ ⟨66,[],[(0,(gP Zu a0)),(1,(vI a1)),(2,(vI a2))]⟩ (Z0 O n []) _
 refine zQ [0,1,2,6] ?_
 refine Zd ?_
 obtain ⟨y2,hy2,h⟩:=bC h
 refine zCd (Z3o hy2) [0,6,8,9] [true,true] ?_
 refine Zd ?_
 refine zQD [0,6,8,9,25] [none,none,none,none] ?_
 refine Zs (t:=(cond (y2.2 != 0) true (y2.1.P.Kind == 0))) rfl (fun c7 => ?_) (fun c7 => ?_)
 ·replace h:=Zr c7 h
  refine Zd ?_
  refine zRd [6,7] [true,false] ?_
  refine zW ?_
  have h:=Option.some.inj h;subst h
  refine Zi (.inr rfl) hU [.agg [.val (.pointer none),(vI 0),(vI 0),(vI 0),(vI 0),(vI 0),(vI 0),(vI 0),(vI 0)],(vI y2.2)] (by omega) ?_
  simp only [push_cast,seval,↓reduceIte,Zb,Tryz.results140,hN0,hN]
 replace h:=Zq c7 h
 refine Jh [0,6,8] [true,true] ?_
 refine Zd ?_
 refine zRd [6,8,10] [true,true,true] ?_
 refine Zd ?_
 refine zQ [6,8,10,37] ?_
 refine Zs (t:=(y2.1.P.Kind == 1)) rfl (fun c6 => ?_) (fun c6 => ?_)
 ·replace h:=Zr c6 h
  refine Zd ?_
  refine Zys Zv (by kernel_rfl) [.low,.low,.low,.low,.low,.low,.plain,.pass,.plain,.pass,.plain,.bar] (fun i=>i≠n+2) [0,1,2,3,4,5,6,7,8,9,10,11] [.low,.low,.low,.low,.low,.low,.plain,.pass,.plain,.pass,.plain,.bar] [] (by kernel_rfl) rfl ?_
  refine zS ?_
  refine zO ?_
  refine zDs [6,10] [true,false,true] ?_
  refine zRd [6,7] [true,false,false] ?_
  refine zW ?_
  have h:=Option.some.inj h;subst h
  refine Zi (.inr rfl) hU [.agg [(gP Zu a0),(vI 1),(vI y2.1.Segment),(vI y2.1.At),(vI y2.1.P.Data),(vI y2.1.P.Ptrs),(vI 0),(vI 0),(vI 0)],(vI 0)] (by omega) ?_
  simp only [push_cast,seval,↓reduceIte,Zb,Tryz.results140,hN0,hN]
 replace h:=Zq c6 h
 refine Jh [6,8,10] [true,true,true] ?_
 refine Zd ?_
 refine Zys Zv (by kernel_rfl) [.plain,.plain,.plain,.plain,.low,.low,.low,.plain,.pass,.plain,.bar] (fun i=>i≠n+2) [0,1,2,3,4,5,6,7,8,9,10] [.plain,.plain,.plain,.plain,.low,.low,.low,.plain,.pass,.plain,.bar] [] (by kernel_rfl) rfl ?_
 refine zS ?_
 refine zO ?_
 refine zDs [6,8,10] [true,true,true] ?_
 refine zQ [6,10,60] ?_
 refine Zs (t:=(y2.1.P.Code == 7)) rfl (fun c5 => ?_) (fun c5 => ?_)
 ·replace h:=Zr c5 h
  refine Zd ?_
  obtain ⟨y4,hy4,h⟩:=bC h
  refine zCd (Zr5 hy4) [6,7] [true,false,false] ?_
  refine zW ?_
  have h:=Option.some.inj h;subst h
  refine Zi (.inr rfl) hU [.agg (Z4 y4.1),(vI y4.2)] (by omega) ?_
  simp only [push_cast,seval,↓reduceIte,Zb,Tryz.results140,hN0,hN]
 replace h:=Zq c5 h
 refine Jh [6,10] [true,false,true] ?_
 refine Zd ?_
 refine zRd [6,7] [true,false,false] ?_
 refine zW ?_
 have h:=Option.some.inj h;subst h
 refine Zi (.inr rfl) hU [.agg [(gP Zu a0),(vI (IntKind.i64.wrap (y2.1.P.Code+2))),(vI y2.1.Segment),(vI y2.1.At),(vI 0),(vI 0),(vI y2.1.P.Count),(vI 0),(vI 0)],(vI 0)] (by omega) ?_
 simp only [push_cast,seval,↓reduceIte,Zb,Tryz.results140,hN0,hN]
theorem Z2d {a0:(Option Zw)} {r:(Zf×Int)} {O:Objs} {n:Nat} (h:Zgb a0=some r):GTo Tryz.prog 86 [(gP Zu a0)] O n (.tup [.agg (Z4 r.1),(vI r.2)]) O n:=by
 unfold Zgb at h
 refine Yo Zv Tryz.call86 Tryz.func86 rfl (Nat.le_of_ble_eq_true rfl) (Nat.le_refl _) fun hU => ?_
 have hN0:O n=none:=hU.fresh _ (Nat.le_refl _)
 have hN:∀ k,O (n+k)=none:=fun k=>hU.fresh _ (Nat.le_add_right _ _)
 show W _ _ _ _ ⟨8,[],[(0,(gP Zu a0))]⟩ (Z0 O n []) _
 refine zQ [0,2] ?_
 refine Zd ?_
 obtain ⟨y2,hy2,h⟩:=bC h
 refine zCd (Zoq hy2) [2,3] [true] ?_
 refine zW ?_
 have h:=Option.some.inj h;subst h
 refine Zi (.inr rfl) hU [.agg (Z4 y2.1),(vI y2.2)] (by omega) ?_
 simp only [push_cast,seval,↓reduceIte,Zb,Tryz.results86,hN0,hN]
theorem Zaj {a0:Zf} {r:Int} {O:Objs} {n:Nat} (h:Jc a0=some r):GTo Tryz.prog 136 [.agg (Z4 a0)] O n ((vI r)) O n:=by
 unfold Jc at h
 refine Yo Zv Tryz.call136 Tryz.func136 rfl (Nat.le_of_ble_eq_true rfl) (Nat.le_refl _) fun hU => ?_
 have hN0:O n=none:=hU.fresh _ (Nat.le_refl _)
 have hN:∀ k,O (n+k)=none:=fun k=>hU.fresh _ (Nat.le_add_right _ _)
 show W _ _ _ _ ⟨5,[],[(0,.agg (Z4 a0))]⟩ (Z0 O n []) _
 refine zQ [1] ?_
 refine zQ [2] ?_
 refine zW ?_
 have h:=Option.some.inj h;subst h
 refine Zi (.inr rfl) hU [(vI a0.kind)] (by omega) ?_
 simp only [push_cast,seval,↓reduceIte,Zb,Tryz.results136,hN0,hN]
theorem Kv {a0:Zf} {r:Int} {O:Objs} {n:Nat} (h:X9 a0=some r):GTo Tryz.prog 202 [.agg (Z4 a0)] O n ((vI r)) O n:=by
 unfold X9 at h
 refine Yo Zv Tryz.call202 Tryz.func202 rfl (Nat.le_of_ble_eq_true rfl) (Nat.le_refl _) fun hU => ?_
 have hN0:O n=none:=hU.fresh _ (Nat.le_refl _)
 have hN:∀ k,O (n+k)=none:=fun k=>hU.fresh _ (Nat.le_add_right _ _)
 show W _ _ _ _ ⟨10,[],[(0,.agg (Z4 a0))]⟩ (Z0 O n []) _
 refine zQ [1] ?_
 refine Zd ?_
 refine zQ [1,5] ?_
 refine Zs (t:=(a0.kind == 1)) rfl (fun c1 => ?_) (fun c1 => ?_)
 ·replace h:=Zr c1 h
  refine zQ [2] ?_
  refine zW ?_
  have h:=Option.some.inj h;subst h
  refine Zi (.inr rfl) hU [(vI a0.ptrs)] (by omega) ?_
  simp only [push_cast,seval,↓reduceIte,Zb,Tryz.results202,hN0,hN]
 replace h:=Zq c1 h
 refine Jh [1] [true] ?_
 refine zQ [2] ?_
 refine zW ?_
 have h:=Option.some.inj h;subst h
 refine Zi (.inr rfl) hU [(vI a0.count)] (by omega) ?_
 simp only [push_cast,seval,↓reduceIte,Zb,Tryz.results202,hN0,hN]
theorem Zpp {a0:Zf} {r:Int} {O:Objs} {n:Nat} (h:Ze9 a0=some r):GTo Tryz.prog 181 [.agg (Z4 a0)] O n ((vI r)) O n:=by
 unfold Ze9 at h
 refine Yo Zv Tryz.call181 Tryz.func181 rfl (Nat.le_of_ble_eq_true rfl) (Nat.le_refl _) fun hU => ?_
 have hN0:O n=none:=hU.fresh _ (Nat.le_refl _)
 have hN:∀ k,O (n+k)=none:=fun k=>hU.fresh _ (Nat.le_add_right _ _)
 show W _ _ _ _ ⟨16,[],[(0,.agg (Z4 a0))]⟩ (Z0 O n []) _
 refine zQ [1] ?_
 refine Zd ?_
 refine Yc ?_
 refine Zd ?_
 obtain ⟨y2,hy2,h⟩:=bC h
 refine zCd (Zaj hy2) [1,3] [true] ?_
 refine Zs (t:=(y2 == 0)) rfl (fun c12 => ?_) (fun c12 => ?_)
 ·replace h:=Zr c12 h
  refine zQ [2] ?_
  refine zW ?_
  have h:=Option.some.inj h;subst h
  refine Zi (.inr rfl) hU [(vI 0)] (by omega) ?_
  simp only [push_cast,seval,↓reduceIte,Zb,Tryz.results181,hN0,hN]
 replace h:=Zq c12 h
 obtain ⟨z5,hz5,h⟩:=bC h
 refine Y8 (E':=⟨16,[],[(7,(vB z5))]⟩) (O':=(Z0 O n [none])) (n0:=(n+1)) ?_ ?_
 ·obtain ⟨y8,hy8,hz5⟩:=bC hz5
  rcases Bool.eq_false_or_eq_true (y8 == 9) with c10 | c10
  ·replace hz5:=Zr c10 hz5
   obtain ⟨y9,hy9,hz5⟩:=bC hz5
   refine Ks [some true,some true,some true] c10 ?_
   refine (Zaj hy8).then ?_
   refine zX1 c10 ?_
   refine (Kv hy9).then ?_
   refine zX1 c10 ?_
   exact J7 hz5 c10
  replace hz5:=Zq c10 hz5
  refine Ks [some false,some false,some false] c10 ?_
  refine (Zaj hy8).then ?_
  refine zX1 c10 ?_
  exact J7 hz5 c10
 refine Zs (t:=z5) rfl (fun c11 => ?_) (fun c11 => ?_)
 ·replace h:=Zr c11 h
  refine zQ [2] ?_
  refine zW ?_
  have h:=Option.some.inj h;subst h
  refine Zi (.inr rfl) hU [(vI 2)] (by omega) ?_
  simp only [push_cast,seval,↓reduceIte,Zb,Tryz.results181,hN0,hN]
 replace h:=Zq c11 h
 refine Jh [] [false] ?_
 refine zQ [2] ?_
 refine zW ?_
 have h:=Option.some.inj h;subst h
 refine Zi (.inr rfl) hU [(vI 1)] (by omega) ?_
 simp only [push_cast,seval,↓reduceIte,Zb,Tryz.results181,hN0,hN]
theorem Zr4 {a0:Zf} {r:Int} {O:Objs} {n:Nat} (h:Zae a0=some r):GTo Tryz.prog 223 [.agg (Z4 a0)] O n ((vI r)) O n:=by
 unfold Zae at h
 refine Yo Zv Tryz.call223 Tryz.func223 rfl (Nat.le_of_ble_eq_true rfl) (Nat.le_refl _) fun hU => ?_
 have hN0:O n=none:=hU.fresh _ (Nat.le_refl _)
 have hN:∀ k,O (n+k)=none:=fun k=>hU.fresh _ (Nat.le_add_right _ _)
 show W _ _ _ _ ⟨11,[],[(0,.agg (Z4 a0))]⟩ (Z0 O n []) _
 refine zQ [1] ?_
 refine Zd ?_
 refine zQ [1,4] ?_
 refine Yc ?_
 refine zQ [1,4,5] ?_
 refine Zs (t:=(a0.kind == 1)) rfl (fun c2 => ?_) (fun c2 => ?_)
 ·replace h:=Zr c2 h
  refine zQ [2] ?_
  refine zW ?_
  have h:=Option.some.inj h;subst h
  refine Zi (.inr rfl) hU [(vI a0.words)] (by omega) ?_
  simp only [push_cast,seval,↓reduceIte,Zb,Tryz.results223,hN0,hN]
 replace h:=Zq c2 h
 refine zQ [9] ?_
 refine Zs (t:=(a0.kind == 10)) rfl (fun c1 => ?_) (fun c1 => ?_)
 ·replace h:=Zr c1 h
  refine zQ [2] ?_
  refine zW ?_
  have h:=Option.some.inj h;subst h
  refine Zi (.inr rfl) hU [(vI 1)] (by omega) ?_
  simp only [push_cast,seval,↓reduceIte,Zb,Tryz.results223,hN0,hN]
 replace h:=Zq c1 h
 refine Jh [] [false] ?_
 refine zQ [2] ?_
 refine zW ?_
 have h:=Option.some.inj h;subst h
 refine Zi (.inr rfl) hU [(vI 0)] (by omega) ?_
 simp only [push_cast,seval,↓reduceIte,Zb,Tryz.results223,hN0,hN]
theorem Zr3 {a0:Zf} {r:(Int×Int)} {O:Objs} {n:Nat} (h:Zdd a0=some r):GTo Tryz.prog 245 [.agg (Z4 a0)] O n (.tup [(vI r.1),(vI r.2)]) O n:=by
 unfold Zdd at h
 refine Yo Zv Tryz.call245 Tryz.func245 rfl (Nat.le_of_ble_eq_true rfl) (Nat.le_refl _) fun hU => ?_
 have hN0:O n=none:=hU.fresh _ (Nat.le_refl _)
 have hN:∀ k,O (n+k)=none:=fun k=>hU.fresh _ (Nat.le_add_right _ _)
 show W _ _ _ _ ⟨11,[],[(0,.agg (Z4 a0))]⟩ (Z0 O n []) _
 refine zQ [1] ?_
 refine Zd ?_
 refine zQ [1,6] ?_
 refine Zs (t:=(a0.kind != 9)) rfl (fun c1 => ?_) (fun c1 => ?_)
 ·replace h:=Zr c1 h
  refine zQ [2,3] ?_
  refine zW ?_
  have h:=Option.some.inj h;subst h
  refine Zi (.inr rfl) hU [(vI 0),(vI 0)] (by omega) ?_
  simp only [push_cast,seval,↓reduceIte,Zb,Tryz.results245,hN0,hN]
 replace h:=Zq c1 h
 refine Jh [1] [true] ?_
 refine Zlp [2,3] (Ua Zv (by kernel_rfl) [] (by kernel_rfl) ?_)
 refine zS ?_
 refine zW ?_
 have h:=Option.some.inj h;subst h
 refine Zi (.inr rfl) hU [(vI a0.words),(vI a0.ptrs)] (by omega) ?_
 simp only [push_cast,seval,↓reduceIte,Zb,Tryz.results245,hN0,hN]
theorem Zpq {a0:Zf} {r:Int} {O:Objs} {n:Nat} (h:Zc0 a0=some r):GTo Tryz.prog 182 [.agg (Z4 a0)] O n ((vI r)) O n:=by
 unfold Zc0 at h
 refine Yo Zv Tryz.call182 Tryz.func182 rfl (Nat.le_of_ble_eq_true rfl) (Nat.le_refl _) fun hU => ?_
 have hN0:O n=none:=hU.fresh _ (Nat.le_refl _)
 have hN:∀ k,O (n+k)=none:=fun k=>hU.fresh _ (Nat.le_add_right _ _)
 show W _ _ _ _ ⟨35,[],[(0,.agg (Z4 a0))]⟩ (Z0 O n []) _
 refine zQ [1] ?_
 refine Zd ?_
 refine Zd ?_
 obtain ⟨y2,hy2,h⟩:=bC h
 refine zCd (Zaj hy2) [1,6] [true] ?_
 refine Yc ?_
 refine zQ [1,6,7] ?_
 refine Zs (t:=(y2 == 0)) rfl (fun c15 => ?_) (fun c15 => ?_)
 ·replace h:=Zr c15 h
  refine zQ [2] ?_
  refine zW ?_
  have h:=Option.some.inj h;subst h
  refine Zi (.inr rfl) hU [(vI 0)] (by omega) ?_
  simp only [push_cast,seval,↓reduceIte,Zb,Tryz.results182,hN0,hN]
 replace h:=Zq c15 h
 refine zQ [1,6,9] ?_
 refine Zs (t:=(y2 == 1)) rfl (fun Jg => ?_) (fun Jg => ?_)
 ·replace h:=Zr Jg h
  refine Zd ?_
  obtain ⟨y5,hy5,h⟩:=bC h
  obtain ⟨y6,hy6,h⟩:=bC h
  refine Ua Zv (by kernel_rfl) [] (by kernel_rfl) ?_
  refine zS ?_
  refine PCall.of (Zr4 hy5) ?_
  refine zS ?_
  refine PCall.of (Kv hy6) ?_
  refine zS ?_
  refine zD [2] [false] ?_
  refine zW ?_
  have h:=Option.some.inj h;subst h
  refine Zi (.inr rfl) hU [(vI (IntKind.i64.wrap ((IntKind.i64.wrap (1+y5))+y6)))] (by omega) ?_
  simp only [push_cast,seval,↓reduceIte,Zb,Tryz.results182,hN0,hN]
 replace h:=Zq Jg h
 refine zQ [1,17] ?_
 refine Zs (t:=(y2 == 9)) rfl (fun c13 => ?_) (fun c13 => ?_)
 ·replace h:=Zr c13 h
  refine Zd ?_
  obtain ⟨y8,hy8,h⟩:=bC h
  refine zCd (Zr3 hy8) [1,3,4] [true] ?_
  refine Zd ?_
  obtain ⟨y10,hy10,h⟩:=bC h
  refine zCd (Kv hy10) [2] [false] ?_
  refine zW ?_
  have h:=Option.some.inj h;subst h
  refine Zi (.inr rfl) hU [(vI (IntKind.i64.wrap (1+(IntKind.i64.wrap (y10 * (IntKind.i64.wrap ((IntKind.i64.wrap (1+y8.1))+y8.2)))))))] (by omega) ?_
  simp only [push_cast,seval,↓reduceIte,Zb,Tryz.results182,hN0,hN]
 replace h:=Zq c13 h
 refine Jh [1] [true] ?_
 refine Zd ?_
 obtain ⟨y12,hy12,h⟩:=bC h
 refine zCd (Kv hy12) [2] [false] ?_
 refine zW ?_
 have h:=Option.some.inj h;subst h
 refine Zi (.inr rfl) hU [(vI (IntKind.i64.wrap (1+y12)))] (by omega) ?_
 simp only [push_cast,seval,↓reduceIte,Zb,Tryz.results182,hN0,hN]
theorem Zma {a0:Zf} {a1:Int} {r:(Zf×Int)} {O:Objs} {n:Nat} (h:V6 a0 a1=some r):GTo Tryz.prog 224 [.agg (Z4 a0),(vI a1)] O n (.tup [.agg (Z4 r.1),(vI r.2)]) O n:=by
 unfold V6 at h
 refine Yo Zv Tryz.call224 Tryz.func224 rfl (Nat.le_of_ble_eq_true rfl) (Nat.le_refl _) fun hU => ?_
 have hN0:O n=none:=hU.fresh _ (Nat.le_refl _)
 have hN:∀ k,O (n+k)=none:=fun k=>hU.fresh _ (Nat.le_add_right _ _)
 show W _ _ _ _ ⟨81,[],[(0,.agg (Z4 a0)),(1,(vI a1))]⟩ (Z0 O n []) _
 refine zQ [1,2,4] ?_
 refine Zd ?_
 obtain ⟨z2,hz2,h⟩:=bC h
 refine Y8 (E':=⟨81,[],[(1,(vI a1)),(2,.ref n 0),(4,.ref (n+1) 0),(14,(vB z2))]⟩) (O':=(Z0 O n [some ⟨false,62,9,1,(Z4 a0)⟩,some ⟨false,62,9,1,[.val (.pointer none),(vI 0),(vI 0),(vI 0),(vI 0),(vI 0),(vI 0),(vI 0),(vI 0)]⟩])) (n0:=(n+2)) ?_ ?_
 ·rcases Bool.eq_false_or_eq_true (decide (a1 < 0)) with c5 | c5
  ·replace hz2:=Zr c5 hz2
   refine Ks [some false,some false,some false,some false] c5 ?_
   exact J7 hz2 c5
  replace hz2:=Zq c5 hz2
  obtain ⟨y4,hy4,hz2⟩:=bC hz2
  refine Ks [some true,some true,some true,some true] c5 ?_
  refine (Kv hy4).then ?_
  refine zX1 c5 ?_
  exact J7 hz2 c5
 refine Zs (t:=z2) rfl (fun c13 => ?_) (fun c13 => ?_)
 ·replace h:=Zr c13 h
  refine Zd ?_
  refine zRd [4,5] [false,true] ?_
  refine zW ?_
  have h:=Option.some.inj h;subst h
  refine Zi (.inr rfl) hU [.agg [.val (.pointer none),(vI 0),(vI 0),(vI 0),(vI 0),(vI 0),(vI 0),(vI 0),(vI 0)],(vI 0)] (by omega) ?_
  simp only [push_cast,seval,↓reduceIte,Zb,Tryz.results224,hN0,hN]
 replace h:=Zq c13 h
 refine Jh [1,2,4] [true,true] ?_
 refine Zd ?_
 refine zQ [1,2,4,17] ?_
 refine Yc ?_
 refine zQ [1,2,4,17,18] ?_
 refine Zs (t:=(a0.kind == 1)) rfl (fun c12 => ?_) (fun c12 => ?_)
 ·replace h:=Zr c12 h
  refine Zd ?_
  obtain ⟨y7,hy7,h⟩:=bC h
  refine zCd (Zoq hy7) [4,5] [false,true] ?_
  refine zW ?_
  have h:=Option.some.inj h;subst h
  refine Zi (.inr rfl) hU [.agg (Z4 y7.1),(vI y7.2)] (by omega) ?_
  simp only [push_cast,seval,↓reduceIte,Zb,Tryz.results224,hN0,hN]
 replace h:=Zq c12 h
 refine zQ [1,2,4,17,34] ?_
 refine Zs (t:=(a0.kind == 8)) rfl (fun c11 => ?_) (fun c11 => ?_)
 ·replace h:=Zr c11 h
  refine Zd ?_
  obtain ⟨y9,hy9,h⟩:=bC h
  refine zCd (Zoq hy9) [4,5] [false,true] ?_
  refine zW ?_
  have h:=Option.some.inj h;subst h
  refine Zi (.inr rfl) hU [.agg (Z4 y9.1),(vI y9.2)] (by omega) ?_
  simp only [push_cast,seval,↓reduceIte,Zb,Tryz.results224,hN0,hN]
 replace h:=Zq c11 h
 refine zQ [1,2,4,47] ?_
 refine Zs (t:=(a0.kind == 9)) rfl (fun c10 => ?_) (fun c10 => ?_)
 ·replace h:=Zr c10 h
  refine zQ [2,4,6] ?_
  refine Zd ?_
  refine zRd [4,5] [false,true] ?_
  refine zW ?_
  have h:=Option.some.inj h;subst h
  refine Zi (.inr rfl) hU [.agg [(gP Zu a0.a),(vI 1),(vI a0.segment),(vI (IntKind.i64.wrap ((IntKind.i64.wrap (a0.at_+1))+(IntKind.i64.wrap (a1 * (IntKind.i64.wrap (a0.words+a0.ptrs))))))),(vI a0.words),(vI a0.ptrs),(vI 0),(vI 0),(vI 0)],(vI 0)] (by omega) ?_
  simp only [push_cast,seval,↓reduceIte,Zb,Tryz.results224,hN0,hN]
 replace h:=Zq c10 h
 refine Jh [1,2,4] [true,true] ?_
 refine Zd ?_
 refine zRd [4,5] [false,true] ?_
 refine zW ?_
 have h:=Option.some.inj h;subst h
 refine Zi (.inr rfl) hU [.agg [(gP Zu a0.a),(vI 10),(vI a0.segment),(vI a0.at_),(vI 0),(vI 0),(vI 0),(vI (IntKind.i64.wrap (a0.kind - 2))),(vI a1)],(vI 0)] (by omega) ?_
 simp only [push_cast,seval,↓reduceIte,Zb,Tryz.results224,hN0,hN]
def Uf (Yr:(Zg→Zf→Int→Option (Int×Zg))):Prop:=∀ {a0:Zg} {a1:Zf} {a2:Int} {r:(Int×Zg)} {O:Objs} {n:Nat} {i0:Nat},i0 < n→O i0=some ⟨false,143,1,1,[(vI a0.left)]⟩→Yr a0 a1 a2=some r→GTo Tryz.prog 118 [.ref i0 0,.agg (Z4 a1),(vI a2)] O n ((vI r.1)) (Z0 (O.upd i0 (some ⟨false,143,1,1,[(vI r.2.left)]⟩)) n []) (n+0)
def Uw (Yq:(Zg→Zf→Int→Option (Int×Zg))):Prop:=∀ {a0:Zg} {a1:Zf} {a2:Int} {r:(Int×Zg)} {O:Objs} {n:Nat} {i0:Nat},i0 < n→O i0=some ⟨false,143,1,1,[(vI a0.left)]⟩→Yq a0 a1 a2=some r→GTo Tryz.prog 183 [.ref i0 0,.agg (Z4 a1),(vI a2)] O n ((vI r.1)) (Z0 (O.upd i0 (some ⟨false,143,1,1,[(vI r.2.left)]⟩)) n []) (n+0)
def Vl (Ys:(Zg→Zf→Int→Option (Int×Zg))):Prop:=∀ {a0:Zg} {a1:Zf} {a2:Int} {r:(Int×Zg)} {O:Objs} {n:Nat} {i0:Nat},i0 < n→O i0=some ⟨false,143,1,1,[(vI a0.left)]⟩→Ys a0 a1 a2=some r→GTo Tryz.prog 184 [.ref i0 0,.agg (Z4 a1),(vI a2)] O n ((vI r.1)) (Z0 (O.upd i0 (some ⟨false,143,1,1,[(vI r.2.left)]⟩)) n []) (n+0)
theorem Znl {Yr:(Zg→Zf→Int→Option (Int×Zg))} {Yq:(Zg→Zf→Int→Option (Int×Zg))} {Ys:(Zg→Zf→Int→Option (Int×Zg))} (Zbw:Uf Yr) (Uy:Uw Yq) (Zai:Vl Ys) {a0:Zg} {a1:Zf} {a2:Int} {r:(Int×Zg)} {O:Objs} {n:Nat} {i0:Nat} (hi0:i0 < n) (ho0:O i0=some ⟨false,143,1,1,[(vI a0.left)]⟩) (h:Ka Yr Yq Ys a0 a1 a2=some r):GTo Tryz.prog 118 [.ref i0 0,.agg (Z4 a1),(vI a2)] O n ((vI r.1)) (Z0 (O.upd i0 (some ⟨false,143,1,1,[(vI r.2.left)]⟩)) n []) (n+0):=by
 unfold Ka at h
 refine Yo Zv Tryz.call118 Tryz.func118 rfl (Nat.le_of_ble_eq_true rfl) (by omega) fun hU => ?_
 rw [show Z0 O n []=Z0 (O.upd i0 (some ⟨false,143,1,1,[(vI a0.left)]⟩)) n [] from by rw [Z3e (show O i0=_ from by exact ho0)]]
 have hk0:∀ k,i0 < n+k:=fun k=>by omega
 have hN0:∀ o,Objs.upd O i0 o n=none:=fun o=>U0 hU hi0 _ (Nat.le_refl _)
 have hN:∀ o k,Objs.upd O i0 o (n+k)=none:=fun o k=>U0 hU hi0 _ (Nat.le_add_right _ _)
 show W _ _ _ _ ⟨46,[],[(0,.ref i0 0),(1,.agg (Z4 a1)),(2,(vI a2))]⟩ (Z0 (O.upd i0 (some ⟨false,143,1,1,[(vI a0.left)]⟩)) n []) _
 refine Zeb [0,2,4] hi0 hk0 ?_
 refine Zd ?_
 obtain ⟨z3,hz3,h⟩:=bC h
 refine Y8 (E':=⟨46,[],[(0,.ref i0 0),(2,(vI a2)),(4,.ref n 0),(19,(vB z3))]⟩) (O':=(Z0 (O.upd i0 (some ⟨false,143,1,1,[(vI a0.left)]⟩)) n [some ⟨false,62,9,1,(Z4 a1)⟩])) (n0:=(n+1)) ?_ ?_
 ·obtain ⟨y6,hy6,hz3⟩:=bC hz3
  rcases Bool.eq_false_or_eq_true (decide (a2 < y6)) with c8 | c8
  ·replace hz3:=Zr c8 hz3
   refine Ua Zv (by kernel_rfl) [some false,some false,some false,some false,some false,some false,some false] (by kernel_rfl) ?_
   refine zX3 c8 hi0 hk0 ?_
   refine PCall.of (Zpp hy6) ?_
   refine zX3 c8 hi0 hk0 ?_
   have hz3:=Option.some.inj hz3;subst hz3
   refine And.intro rfl (Fit2.of (Xb hU rfl rfl ?_) (by omega))
   exact Zyq c8 hi0 hk0
  replace hz3:=Zq c8 hz3
  obtain ⟨y7,hy7,hz3⟩:=bC hz3
  refine Ua Zv (by kernel_rfl) [some true,some true,some true,some true,some true,some true,some true] (by kernel_rfl) ?_
  refine zX3 c8 hi0 hk0 ?_
  refine PCall.of (Zpp hy6) ?_
  refine zX3 c8 hi0 hk0 ?_
  refine PCall.of (Zpq hy7) ?_
  refine zX3 c8 hi0 hk0 ?_
  have hz3:=Option.some.inj hz3;subst hz3
  refine And.intro rfl (Fit2.of (Xb hU rfl rfl ?_) (by omega))
  exact Zyq c8 hi0 hk0
 refine Zs (t:=z3) rfl (fun c21 => ?_) (fun c21 => ?_)
 ·replace h:=Zr c21 h
  refine Zeb [6] hi0 hk0 ?_
  refine zW ?_
  have h:=Option.some.inj h;subst h
  refine Ga (k:=0) (i:=i0) (q1:=⟨false,143,1,1,[(vI a0.left)]⟩) (L3:=[none]) (E2:=(⟨46,[],[(6,(vI 3))]⟩:Env)) (n3:=(n+1)) (.inr rfl) hU rfl [(vI 3)] ?_ ?_
  ·refine Fit2.trans (E':=(⟨46,[],[(6,(vI 3))]⟩:Env)) (O':=(Z0 (O.upd i0 (some ⟨false,143,1,1,[(vI a0.left)]⟩)) n [none])) (n':=(n+1)) (Fit2.of (Xb hU rfl rfl ?_) (by omega)) ?_
   ·exact Ko hi0 hk0
   refine K6 (k:=1) (k':=1) hU [0] [0] rfl rfl rfl rfl ⟨rfl,rfl⟩ ?_
   exact Ko hi0 hk0
  simp only [push_cast,seval,↓reduceIte,Zb,Tryz.results118,hi0,hk0,hN0,hN]
 replace h:=Zq c21 h
 refine Jh [0,2,4] [true] ?_
 refine Zd ?_
 obtain ⟨y10,hy10,h⟩:=bC h
 refine Zhj Zv (by kernel_rfl) [false,false,false,false,false,false,false,false,false,true] [] (by kernel_rfl) ?_
 refine zX2 hi0 hk0 ?_
 refine PCall.of (Zpq hy10) ?_
 refine zX2 hi0 hk0 ?_
 refine zDs [0,2,4] [true] ?_
 refine Zd ?_
 obtain ⟨y12,hy12,h⟩:=bC h
 refine Qf [] hi0 hk0 ?_
 refine (Zaj hy12).then ?_
 refine zX2 hi0 hk0 ?_
 refine zD [0,2,4,30] [true] ?_
 refine Yc ?_
 obtain ⟨z13,hz13,h⟩:=bC h
 refine Y8 (E':=⟨46,[],[(0,.ref i0 0),(2,(vI a2)),(4,.ref n 0),(30,(vI y12)),(31,(vB z13))]⟩) (O':=(Z0 (O.upd i0 (some ⟨false,143,1,1,[(vI (IntKind.i64.wrap (a0.left - y10)))]⟩)) n [some ⟨false,62,9,1,(Z4 a1)⟩])) (n0:=(n+1)) ?_ ?_
 ·refine Zeb [0,2,4,30,31] hi0 hk0 ?_
  refine Zs (t:=(y12 == 1)) rfl (fun Jg => ?_) (fun Jg => ?_)
  ·replace hz13:=Zr Jg hz13
   refine zK ?_
   have hz13:=Option.some.inj hz13;subst hz13
   refine And.intro rfl (Fit2.of (Xb hU rfl rfl ?_) (by omega))
   exact Ko hi0 hk0
  replace hz13:=Zq Jg hz13
  refine Qf [] hi0 hk0 ?_
  have hz13:=Option.some.inj hz13;subst hz13
  refine And.intro rfl (Fit2.of (Xb hU rfl rfl ?_) (by omega))
  exact Ko hi0 hk0
 refine Zs (t:=z13) rfl (fun c20 => ?_) (fun c20 => ?_)
 ·replace h:=Zr c20 h
  refine Zd ?_
  obtain ⟨y16,hy16,h⟩:=bC h
  refine Qf [] hi0 hk0 ?_
  refine (Uy (i0:=i0) (by omega) (by simp only [push_cast,seval,↓reduceIte,Zb,Ge,hi0,hk0,hN0,hN] <;> rfl) hy16).then ?_
  refine zX2 hi0 hk0 ?_
  refine zD [6] [false] ?_
  refine zW ?_
  have h:=Option.some.inj h;subst h
  refine Ga (k:=0) (i:=i0) (q1:=⟨false,143,1,1,[(vI y16.2.left)]⟩) (L3:=[none]) (E2:=(⟨46,[],[(6,(vI y16.1))]⟩:Env)) (n3:=(n+1)) (.inr rfl) hU rfl [(vI y16.1)] ?_ ?_
  ·refine Fit2.trans (E':=(⟨46,[],[(6,(vI y16.1))]⟩:Env)) (O':=(Z0 (O.upd i0 (some ⟨false,143,1,1,[(vI y16.2.left)]⟩)) n [none])) (n':=(n+1)) (Fit2.of (Xb hU rfl rfl ?_) (by omega)) ?_
   ·exact Ko hi0 hk0
   refine K6 (k:=1) (k':=1) hU [0] [0] rfl rfl rfl rfl ⟨rfl,rfl⟩ ?_
   exact Ko hi0 hk0
  simp only [push_cast,seval,↓reduceIte,Zb,Tryz.results118,hi0,hk0,hN0,hN]
 replace h:=Zq c20 h
 refine Zeb [0,2,4,39] hi0 hk0 ?_
 refine Zs (t:=(y12 == 9)) rfl (fun c19 => ?_) (fun c19 => ?_)
 ·replace h:=Zr c19 h
  refine Zd ?_
  obtain ⟨y18,hy18,h⟩:=bC h
  refine Qf [] hi0 hk0 ?_
  refine (Zai (i0:=i0) (by omega) (by simp only [push_cast,seval,↓reduceIte,Zb,Ge,hi0,hk0,hN0,hN] <;> rfl) hy18).then ?_
  refine zX2 hi0 hk0 ?_
  refine zD [6] [false] ?_
  refine zW ?_
  have h:=Option.some.inj h;subst h
  refine Ga (k:=0) (i:=i0) (q1:=⟨false,143,1,1,[(vI y18.2.left)]⟩) (L3:=[none]) (E2:=(⟨46,[],[(6,(vI y18.1))]⟩:Env)) (n3:=(n+1)) (.inr rfl) hU rfl [(vI y18.1)] ?_ ?_
  ·refine Fit2.trans (E':=(⟨46,[],[(6,(vI y18.1))]⟩:Env)) (O':=(Z0 (O.upd i0 (some ⟨false,143,1,1,[(vI y18.2.left)]⟩)) n [none])) (n':=(n+1)) (Fit2.of (Xb hU rfl rfl ?_) (by omega)) ?_
   ·exact Ko hi0 hk0
   refine K6 (k:=1) (k':=1) hU [0] [0] rfl rfl rfl rfl ⟨rfl,rfl⟩ ?_
   exact Ko hi0 hk0
  simp only [push_cast,seval,↓reduceIte,Zb,Tryz.results118,hi0,hk0,hN0,hN]
 replace h:=Zq c19 h
 refine Jh [] [false] ?_
 refine Zeb [6] hi0 hk0 ?_
 refine zW ?_
 have h:=Option.some.inj h;subst h
 refine Ga (k:=0) (i:=i0) (q1:=⟨false,143,1,1,[(vI (IntKind.i64.wrap (a0.left - y10)))]⟩) (L3:=[none]) (E2:=(⟨46,[],[(6,(vI 0))]⟩:Env)) (n3:=(n+1)) (.inr rfl) hU rfl [(vI 0)] ?_ ?_
 ·refine Fit2.trans (E':=(⟨46,[],[(6,(vI 0))]⟩:Env)) (O':=(Z0 (O.upd i0 (some ⟨false,143,1,1,[(vI (IntKind.i64.wrap (a0.left - y10)))]⟩)) n [none])) (n':=(n+1)) (Fit2.of (Xb hU rfl rfl ?_) (by omega)) ?_
  ·exact Ko hi0 hk0
  refine K6 (k:=1) (k':=1) hU [0] [0] rfl rfl rfl rfl ⟨rfl,rfl⟩ ?_
  exact Ko hi0 hk0
 simp only [push_cast,seval,↓reduceIte,Zb,Tryz.results118,hi0,hk0,hN0,hN]
theorem Zot {Yr:(Zg→Zf→Int→Option (Int×Zg))} {Yq:(Zg→Zf→Int→Option (Int×Zg))} {Ys:(Zg→Zf→Int→Option (Int×Zg))} (Zbw:Uf Yr) (Uy:Uw Yq) (Zai:Vl Ys) {a0:Zg} {a1:Zf} {a2:Int} {r:(Int×Zg)} {O:Objs} {n:Nat} {i0:Nat} (hi0:i0 < n) (ho0:O i0=some ⟨false,143,1,1,[(vI a0.left)]⟩) (h:Kx Yr Yq Ys a0 a1 a2=some r):GTo Tryz.prog 183 [.ref i0 0,.agg (Z4 a1),(vI a2)] O n ((vI r.1)) (Z0 (O.upd i0 (some ⟨false,143,1,1,[(vI r.2.left)]⟩)) n []) (n+0):=by
 unfold Kx at h
 refine Yo Zv Tryz.call183 Tryz.func183 rfl (Nat.le_of_ble_eq_true rfl) (by omega) fun hU => ?_
 rw [show Z0 O n []=Z0 (O.upd i0 (some ⟨false,143,1,1,[(vI a0.left)]⟩)) n [] from by rw [Z3e (show O i0=_ from by exact ho0)]]
 have hk0:∀ k,i0 < n+k:=fun k=>by omega
 have hN0:∀ o,Objs.upd O i0 o n=none:=fun o=>U0 hU hi0 _ (Nat.le_refl _)
 have hN:∀ o k,Objs.upd O i0 o (n+k)=none:=fun o k=>U0 hU hi0 _ (Nat.le_add_right _ _)
 show W _ _ _ _ ⟨33,[],[(0,.ref i0 0),(1,.agg (Z4 a1)),(2,(vI a2))]⟩ (Z0 (O.upd i0 (some ⟨false,143,1,1,[(vI a0.left)]⟩)) n []) _
 refine Zeb [0,2,4] hi0 hk0 ?_
 refine Zd ?_
 refine Zd ?_
 obtain ⟨y2,hy2,h⟩:=bC h
 refine Qf [] hi0 hk0 ?_
 refine (Kv hy2).then ?_
 refine zX2 hi0 hk0 ?_
 refine zD [0,2,4,12,13] [true] ?_
 refine zD [0,2,4,12,13] [true] ?_
 obtain ⟨z10,hz10,h⟩:=bC h
 refine Zgq (J:=(Ju (fun z10=>JR n (⟨33,[],[(6,(vI z10.1))]⟩:Env) (Z0 (O.upd i0 (some ⟨false,143,1,1,[(vI z10.2)]⟩)) n [none]) (n+1)) (fun z10=>JX 0 n (⟨33,[],[]⟩:Env) (Z0 (O.upd i0 (some ⟨false,143,1,1,[(vI z10)]⟩)) n [none]) (n+1)))) (z:=z10) ?_ fun hw => ?_
 ·refine Xf hz10 (fun s0_=>⟨33,[],[(0,.ref i0 0),(2,(vI a2)),(4,.ref n 0),(12,(vI y2)),(13,(vI s0_.1))]⟩) (fun s0_=>(Z0 (O.upd i0 (some ⟨false,143,1,1,[(vI s0_.2)]⟩)) n [some ⟨false,62,9,1,(Z4 a1)⟩])) (Ju (fun z10=>JR n (⟨33,[],[(6,(vI z10.1))]⟩:Env) (Z0 (O.upd i0 (some ⟨false,143,1,1,[(vI z10.2)]⟩)) n [none]) (n+1)) (fun z10=>JX 0 n (⟨33,[],[]⟩:Env) (Z0 (O.upd i0 (some ⟨false,143,1,1,[(vI z10)]⟩)) n [none]) (n+1))) ?_
  intro s0_ x0_ hs0_
  unfold Ky at hs0_
  try dsimp only
  refine Zeb [0,2,4,12,13,14] hi0 hk0 ?_
  refine Zd ?_
  refine Zs (t:=(decide (s0_.1 < y2))) rfl (fun c9 => ?_) (fun c9 => ?_)
  ·replace hs0_:=Zr c9 hs0_
   refine Jh [0,2,4,12,13] [true] ?_
   refine Zd ?_
   refine Yc ?_
   refine Zeb [0,2,4,7,12,13] hi0 hk0 ?_
   refine Zd ?_
   obtain ⟨y4,hy4,hs0_⟩:=bC hs0_
   refine Qf [] hi0 hk0 ?_
   refine (Zma hy4).then ?_
   refine zX2 hi0 hk0 ?_
   refine zDs [0,2,4,8,9,12,13] [true,true] ?_
   refine Zeb [0,2,4,8,9,12,13,23] hi0 hk0 ?_
   refine Zs (t:=(y4.2 != 0)) rfl (fun c8 => ?_) (fun c8 => ?_)
   ·replace hs0_:=Zr c8 hs0_
    refine Zeb [6] hi0 hk0 ?_
    refine zW ?_
    have hs0_:=Option.some.inj hs0_;subst hs0_
    refine And.intro (fun h=>by cases h) (And.intro rfl (Fit2.of (Xb hU rfl rfl ?_) (by omega)))
    exact Ko hi0 hk0
   replace hs0_:=Zq c8 hs0_
   refine Jh [0,2,4,8,12,13] [true,true] ?_
   refine Zd ?_
   obtain ⟨y6,hy6,hs0_⟩:=bC hs0_
   refine Qf [] hi0 hk0 ?_
   refine (Zbw (i0:=i0) (by omega) (by simp only [push_cast,seval,↓reduceIte,Zb,Ge,hi0,hk0,hN0,hN] <;> rfl) hy6).then ?_
   refine zX2 hi0 hk0 ?_
   refine zD [0,2,4,10,12,13] [true,false] ?_
   refine Zeb [0,2,4,10,12,13,30] hi0 hk0 ?_
   refine Zs (t:=(y6.1 != 0)) rfl (fun c7 => ?_) (fun c7 => ?_)
   ·replace hs0_:=Zr c7 hs0_
    refine Zeb [6] hi0 hk0 ?_
    refine zW ?_
    have hs0_:=Option.some.inj hs0_;subst hs0_
    refine And.intro (fun h=>by cases h) (And.intro rfl (Fit2.of (Xb hU rfl rfl ?_) (by omega)))
    exact Ko hi0 hk0
   replace hs0_:=Zq c7 hs0_
   refine Jh [0,2,4,12,13] [true,false] ?_
   refine Qf [] hi0 hk0 ?_
   have hs0_:=Option.some.inj hs0_;subst hs0_
   refine And.intro rfl (Fit2.of (Xb hU rfl rfl ?_) (by omega))
   exact Ko hi0 hk0
  replace hs0_:=Zq c9 hs0_
  refine zXt ?_
  have hs0_:=Option.some.inj hs0_;subst hs0_
  refine And.intro (fun h=>by cases h) (And.intro rfl (Fit2.of (Xb hU rfl rfl ?_) (by omega)))
  exact Ko hi0 hk0
 rcases z10 with z10 | z10
 ·dsimp only [Ju] at hw h
  refine Gx hw ?_
  try simp only [Xc,Yp,↓reduceIte,Nat.reduceEqDiff]
  have h:=Option.some.inj h;subst h
  refine Ga (k:=0) (i:=i0) (q1:=⟨false,143,1,1,[(vI z10.2)]⟩) (L3:=[none]) (E2:=(⟨33,[],[(6,(vI z10.1))]⟩:Env)) (n3:=(n+1)) (.inr rfl) hU rfl [(vI z10.1)] ?_ ?_
  ·refine Fit2.trans (E':=(⟨33,[],[(6,(vI z10.1))]⟩:Env)) (O':=(Z0 (O.upd i0 (some ⟨false,143,1,1,[(vI z10.2)]⟩)) n [none])) (n':=(n+1)) (Fit2.of (Xb hU rfl rfl ?_) (by omega)) ?_
   ·exact Ko hi0 hk0
   refine K6 (k:=1) (k':=1) hU [0] [0] rfl rfl rfl rfl ⟨rfl,rfl⟩ ?_
   exact Ko hi0 hk0
  simp only [push_cast,seval,↓reduceIte,Zb,Tryz.results183,hi0,hk0,hN0,hN]
 dsimp only [Ju] at hw h
 refine Y3 hw ?_
 try simp only [Xc,Yp,↓reduceIte,Nat.reduceEqDiff]
 refine zD [] [false] ?_
 refine Zeb [6] hi0 hk0 ?_
 refine zW ?_
 have h:=Option.some.inj h;subst h
 refine Ga (k:=0) (i:=i0) (q1:=⟨false,143,1,1,[(vI z10)]⟩) (L3:=[none]) (E2:=(⟨33,[],[(6,(vI 0))]⟩:Env)) (n3:=(n+1)) (.inr rfl) hU rfl [(vI 0)] ?_ ?_
 ·refine Fit2.trans (E':=(⟨33,[],[(6,(vI 0))]⟩:Env)) (O':=(Z0 (O.upd i0 (some ⟨false,143,1,1,[(vI z10)]⟩)) n [none])) (n':=(n+1)) (Fit2.of (Xb hU rfl rfl ?_) (by omega)) ?_
  ·exact Ko hi0 hk0
  refine K6 (k:=1) (k':=1) hU [0] [0] rfl rfl rfl rfl ⟨rfl,rfl⟩ ?_
  exact Ko hi0 hk0
 simp only [push_cast,seval,↓reduceIte,Zb,Tryz.results183,hi0,hk0,hN0,hN]
theorem Zlr {Yr:(Zg→Zf→Int→Option (Int×Zg))} {Yq:(Zg→Zf→Int→Option (Int×Zg))} {Ys:(Zg→Zf→Int→Option (Int×Zg))} (Zbw:Uf Yr) (Uy:Uw Yq) (Zai:Vl Ys) {a0:Zg} {a1:Zf} {a2:Int} {r:(Int×Zg)} {O:Objs} {n:Nat} {i0:Nat} (hi0:i0 < n) (ho0:O i0=some ⟨false,143,1,1,[(vI a0.left)]⟩) (h:Jf Yr Yq Ys a0 a1 a2=some r):GTo Tryz.prog 184 [.ref i0 0,.agg (Z4 a1),(vI a2)] O n ((vI r.1)) (Z0 (O.upd i0 (some ⟨false,143,1,1,[(vI r.2.left)]⟩)) n []) (n+0):=by
 unfold Jf at h
 refine Yo Zv Tryz.call184 Tryz.func184 rfl (Nat.le_of_ble_eq_true rfl) (by omega) fun hU => ?_
 rw [show Z0 O n []=Z0 (O.upd i0 (some ⟨false,143,1,1,[(vI a0.left)]⟩)) n [] from by rw [Z3e (show O i0=_ from by exact ho0)]]
 have hk0:∀ k,i0 < n+k:=fun k=>by omega
 have hN0:∀ o,Objs.upd O i0 o n=none:=fun o=>U0 hU hi0 _ (Nat.le_refl _)
 have hN:∀ o k,Objs.upd O i0 o (n+k)=none:=fun o k=>U0 hU hi0 _ (Nat.le_add_right _ _)
 show W _ _ _ _ ⟨34,[],[(0,.ref i0 0),(1,.agg (Z4 a1)),(2,(vI a2))]⟩ (Z0 (O.upd i0 (some ⟨false,143,1,1,[(vI a0.left)]⟩)) n []) _
 refine Zeb [0,2,4] hi0 hk0 ?_
 refine Zd ?_
 refine Zd ?_
 obtain ⟨y2,hy2,h⟩:=bC h
 refine Qf [] hi0 hk0 ?_
 refine (Kv hy2).then ?_
 refine zX2 hi0 hk0 ?_
 refine zD [0,2,4,12,13] [true] ?_
 refine zD [0,2,4,12,13] [true] ?_
 obtain ⟨z10,hz10,h⟩:=bC h
 refine Zgq (J:=(Ju (fun z10=>JR n (⟨34,[],[(6,(vI z10.1))]⟩:Env) (Z0 (O.upd i0 (some ⟨false,143,1,1,[(vI z10.2)]⟩)) n [none]) (n+1)) (fun z10=>JX 0 n (⟨34,[],[]⟩:Env) (Z0 (O.upd i0 (some ⟨false,143,1,1,[(vI z10)]⟩)) n [none]) (n+1)))) (z:=z10) ?_ fun hw => ?_
 ·refine Xf hz10 (fun s0_=>⟨34,[],[(0,.ref i0 0),(2,(vI a2)),(4,.ref n 0),(12,(vI y2)),(13,(vI s0_.1))]⟩) (fun s0_=>(Z0 (O.upd i0 (some ⟨false,143,1,1,[(vI s0_.2)]⟩)) n [some ⟨false,62,9,1,(Z4 a1)⟩])) (Ju (fun z10=>JR n (⟨34,[],[(6,(vI z10.1))]⟩:Env) (Z0 (O.upd i0 (some ⟨false,143,1,1,[(vI z10.2)]⟩)) n [none]) (n+1)) (fun z10=>JX 0 n (⟨34,[],[]⟩:Env) (Z0 (O.upd i0 (some ⟨false,143,1,1,[(vI z10)]⟩)) n [none]) (n+1))) ?_
  intro s0_ x0_ hs0_
  unfold Ji at hs0_
  try dsimp only
  refine Zeb [0,2,4,12,13,14] hi0 hk0 ?_
  refine Zd ?_
  refine Zs (t:=(decide (s0_.1 < y2))) rfl (fun c9 => ?_) (fun c9 => ?_)
  ·replace hs0_:=Zr c9 hs0_
   refine Jh [0,2,4,12,13] [true] ?_
   refine Zd ?_
   refine Yc ?_
   refine Zeb [0,2,4,7,12,13] hi0 hk0 ?_
   refine Zd ?_
   obtain ⟨y4,hy4,hs0_⟩:=bC hs0_
   refine Qf [] hi0 hk0 ?_
   refine (Zma hy4).then ?_
   refine zX2 hi0 hk0 ?_
   refine zDs [0,2,4,8,9,12,13] [true,true] ?_
   refine Zeb [0,2,4,8,9,12,13,23] hi0 hk0 ?_
   refine Zs (t:=(y4.2 != 0)) rfl (fun c8 => ?_) (fun c8 => ?_)
   ·replace hs0_:=Zr c8 hs0_
    refine Zeb [6] hi0 hk0 ?_
    refine zW ?_
    have hs0_:=Option.some.inj hs0_;subst hs0_
    refine And.intro (fun h=>by cases h) (And.intro rfl (Fit2.of (Xb hU rfl rfl ?_) (by omega)))
    exact Ko hi0 hk0
   replace hs0_:=Zq c8 hs0_
   refine Jh [0,2,4,8,12,13] [true,true] ?_
   refine Zd ?_
   obtain ⟨y6,hy6,hs0_⟩:=bC hs0_
   refine Qf [] hi0 hk0 ?_
   refine (Uy (i0:=i0) (by omega) (by simp only [push_cast,seval,↓reduceIte,Zb,Ge,hi0,hk0,hN0,hN] <;> rfl) hy6).then ?_
   refine zX2 hi0 hk0 ?_
   refine zD [0,2,4,10,12,13] [true,false] ?_
   refine Zeb [0,2,4,10,12,13,31] hi0 hk0 ?_
   refine Zs (t:=(y6.1 != 0)) rfl (fun c7 => ?_) (fun c7 => ?_)
   ·replace hs0_:=Zr c7 hs0_
    refine Zeb [6] hi0 hk0 ?_
    refine zW ?_
    have hs0_:=Option.some.inj hs0_;subst hs0_
    refine And.intro (fun h=>by cases h) (And.intro rfl (Fit2.of (Xb hU rfl rfl ?_) (by omega)))
    exact Ko hi0 hk0
   replace hs0_:=Zq c7 hs0_
   refine Jh [0,2,4,12,13] [true,false] ?_
   refine Qf [] hi0 hk0 ?_
   have hs0_:=Option.some.inj hs0_;subst hs0_
   refine And.intro rfl (Fit2.of (Xb hU rfl rfl ?_) (by omega))
   exact Ko hi0 hk0
  replace hs0_:=Zq c9 hs0_
  refine zXt ?_
  have hs0_:=Option.some.inj hs0_;subst hs0_
  refine And.intro (fun h=>by cases h) (And.intro rfl (Fit2.of (Xb hU rfl rfl ?_) (by omega)))
  exact Ko hi0 hk0
 rcases z10 with z10 | z10
 ·dsimp only [Ju] at hw h
  refine Gx hw ?_
  try simp only [Xc,Yp,↓reduceIte,Nat.reduceEqDiff]
  have h:=Option.some.inj h;subst h
  refine Ga (k:=0) (i:=i0) (q1:=⟨false,143,1,1,[(vI z10.2)]⟩) (L3:=[none]) (E2:=(⟨34,[],[(6,(vI z10.1))]⟩:Env)) (n3:=(n+1)) (.inr rfl) hU rfl [(vI z10.1)] ?_ ?_
  ·refine Fit2.trans (E':=(⟨34,[],[(6,(vI z10.1))]⟩:Env)) (O':=(Z0 (O.upd i0 (some ⟨false,143,1,1,[(vI z10.2)]⟩)) n [none])) (n':=(n+1)) (Fit2.of (Xb hU rfl rfl ?_) (by omega)) ?_
   ·exact Ko hi0 hk0
   refine K6 (k:=1) (k':=1) hU [0] [0] rfl rfl rfl rfl ⟨rfl,rfl⟩ ?_
   exact Ko hi0 hk0
  simp only [push_cast,seval,↓reduceIte,Zb,Tryz.results184,hi0,hk0,hN0,hN]
 dsimp only [Ju] at hw h
 refine Y3 hw ?_
 try simp only [Xc,Yp,↓reduceIte,Nat.reduceEqDiff]
 refine zD [] [false] ?_
 refine Zeb [6] hi0 hk0 ?_
 refine zW ?_
 have h:=Option.some.inj h;subst h
 refine Ga (k:=0) (i:=i0) (q1:=⟨false,143,1,1,[(vI z10)]⟩) (L3:=[none]) (E2:=(⟨34,[],[(6,(vI 0))]⟩:Env)) (n3:=(n+1)) (.inr rfl) hU rfl [(vI 0)] ?_ ?_
 ·refine Fit2.trans (E':=(⟨34,[],[(6,(vI 0))]⟩:Env)) (O':=(Z0 (O.upd i0 (some ⟨false,143,1,1,[(vI z10)]⟩)) n [none])) (n':=(n+1)) (Fit2.of (Xb hU rfl rfl ?_) (by omega)) ?_
  ·exact Ko hi0 hk0
  refine K6 (k:=1) (k':=1) hU [0] [0] rfl rfl rfl rfl ⟨rfl,rfl⟩ ?_
  exact Ko hi0 hk0
 simp only [push_cast,seval,↓reduceIte,Zb,Tryz.results184,hi0,hk0,hN0,hN]
theorem Zlq:∀ k,(Uf ((Zy k).1))∧(Uw ((Zy k).2.1))∧(Vl ((Zy k).2.2)):=fun k=>by
 induction k with
 | zero=>exact ⟨@fun a0 a1 a2 r O n i0 hi0 ho0 h=>(nomatch (show (none:Option _)=some _ from h)),@fun a0 a1 a2 r O n i0 hi0 ho0 h=>(nomatch (show (none:Option _)=some _ from h)),@fun a0 a1 a2 r O n i0 hi0 ho0 h=>(nomatch (show (none:Option _)=some _ from h))⟩
 | succ k ih=>exact ⟨@fun a0 a1 a2 r O n i0 hi0 ho0 h=>Znl (ih.1) (ih.2.1) (ih.2.2) hi0 ho0 h,@fun a0 a1 a2 r O n i0 hi0 ho0 h=>Zot (ih.1) (ih.2.1) (ih.2.2) hi0 ho0 h,@fun a0 a1 a2 r O n i0 hi0 ho0 h=>Zlr (ih.1) (ih.2.1) (ih.2.2) hi0 ho0 h⟩
theorem Zor {a0:Zg} {a1:Zf} {a2:Int} {r:(Int×Zg)} {O:Objs} {n:Nat} {i0:Nat} (hi0:i0 < n) (ho0:O i0=some ⟨false,143,1,1,[(vI a0.left)]⟩) (h:Zeh a0 a1 a2=some r):GTo Tryz.prog 118 [.ref i0 0,.agg (Z4 a1),(vI a2)] O n ((vI r.1)) (Z0 (O.upd i0 (some ⟨false,143,1,1,[(vI r.2.left)]⟩)) n []) (n+0):=by
 obtain ⟨k,hk⟩:=Zcv h
 exact (Zlq k).1 hi0 ho0 hk
theorem Z2e {a0:(Option Zw)} {a1:X4} {r:(Int×Int)} {O:Objs} {n:Nat} (h:Zgc a0 a1=some r):GTo Tryz.prog 73 [(gP Zu a0),.agg (Kh a1)] O n (.tup [(vI r.1),(vI r.2)]) O n:=by
 unfold Zgc at h
 refine Yo Zv Tryz.call73 Tryz.func73 rfl (Nat.le_of_ble_eq_true rfl) (Nat.le_refl _) fun hU => ?_
 have hN0:O n=none:=hU.fresh _ (Nat.le_refl _)
 have hN:∀ k,O (n+k)=none:=fun k=>hU.fresh _ (Nat.le_add_right _ _)
 show W _ _ _ _ ⟨35,[],[(0,(gP Zu a0)),(1,.agg (Kh a1))]⟩ (Z0 O n []) _
 refine zQ [0,3] ?_
 refine Zd ?_
 obtain ⟨y2,hy2,h⟩:=bC h
 refine zCd (Zym hy2) [0,3] [true] ?_
 refine Zd ?_
 obtain ⟨y4,hy4,h⟩:=bC h
 refine zCd (Z2d hy4) [3,6,7] [true,true] ?_
 refine Zd ?_
 refine zQ [3,6,7,18] ?_
 refine Zs (t:=(y4.2 != 0)) rfl (fun c8 => ?_) (fun c8 => ?_)
 ·replace h:=Zr c8 h
  refine zQ [4,5] ?_
  refine zW ?_
  have h:=Option.some.inj h;subst h
  refine Zi (.inr rfl) hU [(vI 0),(vI y4.2)] (by omega) ?_
  simp only [push_cast,seval,↓reduceIte,Zb,Tryz.results73,hN0,hN]
 replace h:=Zq c8 h
 refine Jh [3,6] [true,true] ?_
 refine Zd ?_
 refine zRd [3,6,8] [true,true,true] ?_
 refine Zd ?_
 refine Zd ?_
 obtain ⟨y6,hy6,h⟩:=bC h
 refine zR ?_
 refine (Zor (i0:=(n+2)) (by omega) (by simp only [push_cast,seval,↓reduceIte,Zb,Ge,hN0,hN] <;> rfl) hy6).then ?_
 refine zS ?_
 refine zD [3,8,9] [true,false,true] ?_
 refine zQ [3,8,9,28] ?_
 refine Zs (t:=(y6.1 != 0)) rfl (fun c7 => ?_) (fun c7 => ?_)
 ·replace h:=Zr c7 h
  refine zQ [4,5] ?_
  refine zW ?_
  have h:=Option.some.inj h;subst h
  refine Zi (.inr rfl) hU [(vI 0),(vI y6.1)] (by omega) ?_
  simp only [push_cast,seval,↓reduceIte,Zb,Tryz.results73,hN0,hN]
 replace h:=Zq c7 h
 refine Jh [3,8] [true,false,true] ?_
 refine zQ [4,5] ?_
 refine zW ?_
 have h:=Option.some.inj h;subst h
 refine Zi (.inr rfl) hU [(vI (IntKind.i64.wrap (y2.Weight - y6.2.left))),(vI 0)] (by omega) ?_
 simp only [push_cast,seval,↓reduceIte,Zb,Tryz.results73,hN0,hN]
theorem Zyk {a0:Zh} {a1:Int} {r:((List Int)×Bool)} {O:Objs} {n:Nat} (h:Zid a0 a1=some r):GTo Tryz.prog 28 [.agg (Zm a0),(vI a1)] O n (.tup [(sL (eI .u64) r.1),(vB r.2)]) O n:=by
 unfold Zid at h
 refine Yo Zv Tryz.call28 Tryz.func28 rfl (Nat.le_of_ble_eq_true rfl) (Nat.le_refl _) fun hU => ?_
 have hN0:O n=none:=hU.fresh _ (Nat.le_refl _)
 have hN:∀ k,O (n+k)=none:=fun k=>hU.fresh _ (Nat.le_add_right _ _)
 show W _ _ _ _ ⟨33,[],[(0,.agg (Zm a0)),(1,(vI a1))]⟩ (Z0 O n []) _
 refine zQ [1,2] ?_
 refine Zd ?_
 refine Zd ?_
 obtain ⟨y2,hy2,h⟩:=bC h
 refine zCd (Z3n hy2) [1,2,12] [true] ?_
 refine Zs (t:=(!y2)) rfl (fun c15 => ?_) (fun c15 => ?_)
 ·replace h:=Zr c15 h
  refine zQ [4,5] ?_
  refine zW ?_
  have h:=Option.some.inj h;subst h
  refine Zi (.inr rfl) hU [nV,(vB false)] (by omega) ?_
  simp only [push_cast,seval,↓reduceIte,Zb,Tryz.results28,hN0,hN]
 replace h:=Zq c15 h
 refine Jh [1,2] [true] ?_
 refine Zd ?_
 obtain ⟨y5,hy5,h⟩:=bC h
 obtain ⟨y6,hy6,h⟩:=bC h
 refine zC (Z3r hy5) ?_
 refine zTs (Zyh hy6) ?_
 refine zDs [6,7] [false] ?_
 refine zQ [6,21] ?_
 refine Zs (t:=(!y6.2)) rfl (fun Jg => ?_) (fun Jg => ?_)
 ·replace h:=Zr Jg h
  refine zQ [4,5] ?_
  refine zW ?_
  have h:=Option.some.inj h;subst h
  refine Zi (.inr rfl) hU [nV,(vB false)] (by omega) ?_
  simp only [push_cast,seval,↓reduceIte,Zb,Tryz.results28,hN0,hN]
 replace h:=Zq Jg h
 refine Jh [6] [false] ?_
 refine Zd ?_
 refine Zd ?_
 obtain ⟨y10,hy10,h⟩:=bC h
 obtain ⟨y11,hy11,h⟩:=bC h
 obtain ⟨y12,hy12,h⟩:=bC h
 refine zR ?_
 refine GCalls.dropL (l':=[none,none]) hU rfl ?_ ((Z92 hy10).then ?_)
 ·exact zSe
 refine zS ?_
 refine zTs (Zyl hy11) ?_
 refine zTs (Z2e hy12) ?_
 refine zD [6,9] [false,false] ?_
 refine zQ [6,31] ?_
 refine Zs (t:=(y12.2 != 0)) rfl (fun c13 => ?_) (fun c13 => ?_)
 ·replace h:=Zr c13 h
  refine zQ [4,5] ?_
  refine zW ?_
  have h:=Option.some.inj h;subst h
  refine Zi (.inr rfl) hU [nV,(vB false)] (by omega) ?_
  simp only [push_cast,seval,↓reduceIte,Zb,Tryz.results28,hN0,hN]
 replace h:=Zq c13 h
 refine Jh [6] [false,false] ?_
 refine zQ [4,5] ?_
 refine zW ?_
 have h:=Option.some.inj h;subst h
 refine Zi (.inr rfl) hU [(sL (eI .u64) y6.1),(vB true)] (by omega) ?_
 simp only [push_cast,seval,↓reduceIte,Zb,Tryz.results28,hN0,hN]
theorem Znf {a0:Zh} {r:Bool} {O:Objs} {n:Nat} (h:Gg a0=some r):GTo Tryz.prog 12 [.agg (Zm a0)] O n ((vB r)) O n:=by
 unfold Gg at h
 refine Yo Zv Tryz.call12 Tryz.func12 rfl (Nat.le_of_ble_eq_true rfl) (Nat.le_refl _) fun hU => ?_
 have hN0:O n=none:=hU.fresh _ (Nat.le_refl _)
 have hN:∀ k,O (n+k)=none:=fun k=>hU.fresh _ (Nat.le_add_right _ _)
 show W _ _ _ _ ⟨26,[],[(0,.agg (Zm a0))]⟩ (Z0 O n []) _
 refine zQ [1] ?_
 refine Zd ?_
 refine Zd ?_
 obtain ⟨y2,hy2,h⟩:=bC h
 refine zCd (Zsm hy2) [1,7] [true] ?_
 refine Zs (t:=(!y2)) rfl (fun c19 => ?_) (fun c19 => ?_)
 ·replace h:=Zr c19 h
  refine Zd ?_
  obtain ⟨y4,hy4,h⟩:=bC h
  refine zCd (Zf3 hy4) [2] [false] ?_
  refine zW ?_
  have h:=Option.some.inj h;subst h
  refine Zi (.inr rfl) hU [(vB y4)] (by omega) ?_
  simp only [push_cast,seval,↓reduceIte,Zb,Tryz.results12,hN0,hN]
 replace h:=Zq c19 h
 refine Jh [1] [true] ?_
 refine Zd ?_
 obtain ⟨y6,hy6,h⟩:=bC h
 refine zCd (Zyk hy6) [1,3,4] [true] ?_
 obtain ⟨z10,hz10,h⟩:=bC h
 refine Y8 (E':=⟨26,[],[(2,(vB z10))]⟩) (O':=(Z0 O n [none])) (n0:=(n+1)) ?_ ?_
 ·rcases Bool.eq_false_or_eq_true y6.2 with c17 | c17
  ·replace hz10:=Zr c17 hz10
   obtain ⟨y14,hy14,hz10⟩:=bC hz10
   rcases Bool.eq_false_or_eq_true ((y6.1.length:Int) == y14) with Uj | Uj
   ·replace hz10:=Zr Uj hz10
    try rw [Uj] at c17
    obtain ⟨y15,hy15,hz10⟩:=bC hz10
    refine Qf [some true,some true,some true,some true,some true,some true] c17 Uj ?_
    refine (Zge hy14).then ?_
    refine zX2 c17 Uj ?_
    refine (Zf3 hy15).then ?_
    refine zX2 c17 Uj ?_
    exact Zbz hz10 c17 Uj
   replace hz10:=Zq Uj hz10
   try rw [Uj] at c17
   refine Qf [some true,some true,some true,some true,some true,some false] c17 Uj ?_
   refine (Zge hy14).then ?_
   refine zX2 c17 Uj ?_
   exact Zbz hz10 c17 Uj
  replace hz10:=Zq c17 hz10
  obtain ⟨y16,hy16,hz10⟩:=bC hz10
  refine Ks [some false,some false,some false,some false,some false,some true] c17 ?_
  refine (Zf3 hy16).then ?_
  refine zX1 c17 ?_
  exact J7 hz10 c17
 refine zW ?_
 have h:=Option.some.inj h;subst h
 refine Zi (.inr rfl) hU [(vB z10)] (by omega) ?_
 simp only [push_cast,seval,↓reduceIte,Zb,Tryz.results12,hN0,hN]
end Go.Proofs.YtmlcnhambfkjaaaGreat
