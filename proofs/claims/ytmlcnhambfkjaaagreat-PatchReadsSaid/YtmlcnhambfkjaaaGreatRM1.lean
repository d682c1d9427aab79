/- Part RM1 of this seat's mirrors: functions of the seat's program, and the plain functions that they are; each theorem bears its own conditions. -/
import Derived.Test.YtmlcnhambfkjaaaGreatRE
namespace Go.Proofs.YtmlcnhambfkjaaaGreat
open Go.RowKit
set_option linter.unusedVariables false
set_option linter.unusedSimpArgs false
set_option maxRecDepth 100000
set_option maxHeartbeats 4000000
attribute [local push_cast] vI vB nV sL oR Zi Ge Xz Yy Zd Zce Vn Q7 Zu Z2z Z2y Z32 Z31 Y1 Yc Zxq Zrp Zro onW Jd Zig Zgo Zxr Zxs Zvp Zvt Zvo Zvs Zy9 Zy5 Zvr Zy8 Zy7 Zy6 Zvq Zy3 Zsn evS wok Ku Op.operands Call.operands gop onK onP atK List.all_cons List.all_nil Bool.and_true Bool.true_and Bool.and_self Value.oneCell' List.take_zero List.take_succ_cons List.take_nil List.drop_zero List.drop_succ_cons List.drop_nil List.append_nil Nat.add_zero Nat.zero_add Zbx Y6 ev K8 Zut Z2q Z2p Z2v Z2t Z2u Z2r Z2s Z2o Zxo Z02 Z6c Zo2 Zi6 Zn1 Zil Zuw Zl3 Zon Zos Zrj Zrf Zoq Zri Zrh Zrg Zop Zrd Zoo Zor Zm9 Zre Zqm Zrq Zgp Zp7 Zgq Zrn Zoy Z24 bLo bHi bMx Zi7 Zrm Z71 Zox Zq1 Zlt Zeo Z1s Z74 Zp4 Zmp Z79 Zi5 Yci Zxy Zx2 Zxx Zx1 Z3m Z3i Z3g Zuz Zxz Z3l Z3k Z3j Zx0 Z3h Zo0 Zwd Zyo Zsh Zsg pop TK.isAgg Z3v Z3z Z3u Z3y Zyi Z8k Z8g Z3x Z8j Z8i Z8h Z3w Z8f G.under G.unders List.getD_cons_zero List.getD_cons_succ List.set_cons_zero List.set_cons_succ List.map_cons List.map_nil List.toList_toArray Array.toList_append Option.toArray_none Option.toArray_some Array.toList_map Option.map_some Option.map_none Option.bind_some Option.bind_none List.getElem?_cons_zero List.getElem?_cons_succ List.getElem?_nil List.nil_append List.cons_append List.replicate_succ List.replicate_zero List.length_cons List.length_nil and_true true_and and_false false_and Bool.true_eq_false Bool.false_eq_true forall_const false_implies implies_true IntKind.bits if_true if_false ite_true ite_false eq_self true_implies false_or or_false or_true true_or not_true_eq_false not_false_eq_true decide_true decide_false decide_eq_true_eq decide_eq_false_iff_not beq_iff_eq bne_iff_ne ne_eq Bool.not_eq_true Bool.not_eq_false beq_eq_false_iff_ne bne_eq_false_iff_eq beq_self_eq_true bne_self_eq_false Option.some.injEq exists_eq_left' exists_eq_left ge_iff_le gt_iff_lt decide_not Bool.not_true Bool.not_false imp_self Z76 cond_true cond_false Yjo Yjn Bool.not_not Bool.and_false Bool.false_and Bool.or_true Bool.true_or Bool.or_false Bool.false_or Zc1 Zi1 Vt Kh Q5 Qi Option.join_some Nat.add_assoc Int.toNat_natCast eI eB eS eL Gf Zp5 Zoz Z23 Z21 Z22 Ycr Yeb Zqc Zpk Z4c Z4a Z4b Z6x Zrk Z54 Zty Z2h Zik Z2j List.length_append G.agg.injEq G.row.injEq G.ref.injEq G.val.injEq G.sl.injEq G.tup.injEq Value.int.injEq Value.bool.injEq Value.string.injEq List.cons.injEq exists_and_left exists_const List.flatten_cons List.flatten_nil Int.le_refl Nat.le_refl Zif Kq Zb7 Bool.not_eq_true' Bool.not_eq_false' Z5s Zpy Yam Yaq Yal Yap Yf6 Yf0 List.size_toArray Zwo Zyr G.ren G.rens Z1e Zmh Z4h Z2l Z2m Zy4 Yar Zh8 G.fn.injEq Zt7 Z00 Z5r Yf1 Z0z Yao Yf5 Yf4 Yf3 Yan Z8d Ydx Option.join_none Xo Zau undef Zq3 Arr.len Arr.put_eq Zqb Zve Zsd Zpj Z39 Z37 Z38 onB Ycq Z1r Zyy Zun Zwz Zw0 Zw1 Zw2 Zw3 Zw4 Zu6 Zvh Zvf Zsf Zpl Zvg Zyn Zym Zyl Zyk Yea Ygu Z6w Z33 U9 Z6n Zwe Zvi Zse Z8l Zy1 Zow Zqz Zj9 Ztv Zw5 Zw6 Zw7 Zw8 Zt9 Zua Zub Zuc Zud Zue Zuf Zkh prT Zhr Ykh Yad Z4q Yae Yki Yaf Z7h Yag Ykj Yah Ykk Yai Ykl Yaj Ykm Yak Ye1 Z4r Ye2 Z4s Ye3 Z4t Ye4 Z4u Ye5 Z4v Ye6 Z4w Ye7 Z4x Ye8 Z4y Ye9 Z4z Yfa Z40 Yfb Z41 Zv9 Zkc Yfc Zql Yfd Z42 Uc Z43 Yfe Z44 Yff Z45 Yfg Z46 Yfh Z47 Z17 Z48 Yfi Z49 Yfj Z5a Yfk Z5b Yfl Z5c Yfm Zwy Yfn Z5d Yfo Z5e Zbn Z5f Yfp Z5g Yfq Z5h Zt2 Z5i Yfr Z5j Zt3 Z5k Yfs Z5l Zps Z5m Z8v Zzd Z8w Zze Z8x Zzf Z8y Zzg Z8z Zzh Z80 Zzi Z81 Zzj Z82 Zzk Z83 Zzl Z84 Zzm Z85 Zzn Z86 Zzo Z87 Zzp Z88 Zzq Z89 Zzr Z9a Zzs Z9b Zzt Z9c Zzu Z9d Zzv Z9e Zzw Z9f Zzx Z9g Zzy Z9h Zzz Zzb Zt5 Z9i Zz0 Z9j Zz1 Z9k Zz2 Z9l Zz3 Z9m Zz4 Z9n Zz5 Z9o Zz6 Z9p Zz7 Z9q Zz8 Z9r Zz9 Z9s Z0a Z9t Z0b Z9u Z0c Z9v Z0d Z9w Z0e Z9x Z0f Z9y Z0g Z9z Z0h Z90 Z0i Z91 Z0j Z92 Z0k Z93 Z0l Z94 Z0m Z95 Z0n Z96 Z0o Z97 Z0p Z98 Z0q Z99 Z0r Yaa Z0s Yab Z0t Yac Z0u Zb Xe Zsw Zsu Zrw Zsa Zsy Zpw Zpp Zpn Zsq Ziz Ziy Zip Ziu Zi0 Zie Zic Zib Zix Zp Zhm Zr Z4 Jh X0 Jq Zfg Zff Zeq Ze4 Zfj Zee Zec Zeb Zfc Zf5 Zf3 Zft Zfz Zf7 Zfd Ze7 Ze5 Zf1 Zll Zlk Zkn Zk1 Zlm Zjy Zju Zjt Zli Zsv Zst Zrv Zr9 Zsx Zpv Zpo Zpm Zsp Zov Zjo Zmk Zmj Zl4 Zme Zml Zlj Zlb Zla Zmi Zv Zf6 Zf4 Zfu Zf0 Zf8 Zfe Ze8 Ze6 Zf2 Zki Zou Zkj Ys Zeg Zef Zd5 Zd9 Zeh Zde Zdd Zdc Zed Yg Zcv Zcu Zch Zcq Zcw Zbw Zbv Zbu Zct Zvy Zvx Zuy Zvc Zvz Zsr Zsk Zsj Zvv
def Zg6 (Jb:(Za→Int→Int→Option Int)):Prop:=∀ {a0:Za} {a1:Int} {a2:Int} {r:Int} {O:Objs} {n:Nat},Jb a0 a1 a2=some r→GTo Tryz.prog 64 [.agg (Zd a0),(vI a1),(vI a2)] O n ((vI r)) O n
theorem Znp {Jb:(Za→Int→Int→Option Int)} (Zmw:Zg6 Jb) {a0:Za} {a1:Int} {a2:Int} {r:Int} {O:Objs} {n:Nat} (h:Q6 Jb a0 a1 a2=some r):GTo Tryz.prog 64 [.agg (Zd a0),(vI a1),(vI a2)] O n ((vI r)) O n:=by
 unfold Q6 at h
 refine K6 Zq Tryz.call64 Tryz.func64 rfl fun hU hN0 hN => ?_
 show W _ _ _ _ ⟨41,[],[(0,.agg (Zd a0)),(1,(vI a1)),(2,(vI a2))]⟩ (Zw O n []) _
 refine zQ [1,2,3] ?_
 refine zQ [1,2,3] ?_
 refine Ze ?_
 refine zQD [1,2,3,19] [none,none] ?_
 refine Zo (t:=(cond (a1 == 0) true (decide ((IntKind.i64.wrap ((IntKind.i64.wrap (a2 - 1)) - (a0.Words.length:Int))) < 0)))) rfl (fun c5 => ?_) (fun c5 => ?_)
 ·replace h:=Zn c5 h
  refine zQ [6] ?_
  refine zW ?_
  obtain rfl:=sI h
  refine Zg (.inr rfl) hU [(vI (-1))] (by omega) ?_
  simp only [push_cast,seval,↓reduceIte,Zc,Tryz.results64,hN0,hN]
 replace h:=Zm c5 h
 refine Qd [1,2,3] [true] ?_
 refine Ze ?_
 refine zQd [1,2,3,7] [1,2,3,7] [true] ?_
 obtain ⟨z4,hz4,h⟩:=bC h
 refine Yj (E':=⟨41,[],[(2,(vI z4))]⟩) (O':=(Zw O n [none])) (n0:=(n+1)) ?_ ?_
 ·refine Y4 hz4 (fun s0_=>⟨41,[],[(1,(vI a1)),(2,(vI s0_.1)),(3,.ref n 0),(7,(vI s0_.2))]⟩) (fun s0_=>(Zw O n [some ⟨false,25,3,1,(Zd a0)⟩])) (fun z4=>JX 0 n (⟨41,[],[(2,(vI z4))]⟩:Env) (Zw O n [none]) (n+1)) ?_
  intro s0_ x0_ hs0_
  unfold Qz at hs0_
  try dsimp only
  refine Ze ?_
  refine zQD [1,2,3,7,28] [none,none] ?_
  refine Zo (t:=(cond (decide (s0_.2 < (a0.Kids.length:Int))) (decide (0≤s0_.1)) false)) rfl (fun c3 => ?_) (fun c3 => ?_)
  ·replace hs0_:=Zn c3 hs0_
   refine Qd [1,2,3,7] [true] ?_
   refine Ze ?_
   refine Z9 ?_
   obtain ⟨x1,hx1,ax1,bx1,cx1,hs0_⟩:=bE (f:=Zb) Uc (fun _=>rfl) (by decide) hs0_
   obtain ⟨y2,hy2,hs0_⟩:=bC hs0_
   refine Gc [] ax1 bx1 cx1 ?_
   refine (Zmw hy2).then ?_
   refine zF3 ax1 bx1 cx1 ?_
   refine zD [1,2,3,7] [true] ?_
   refine zR ?_
   exact Gv hs0_
  replace hs0_:=Zm c3 hs0_
  exact zEx hs0_
 try simp only [Y1,Yc,↓reduceIte,Nat.reduceEqDiff]
 refine zD [2] [false] ?_
 refine zQ [6] ?_
 refine zW ?_
 obtain rfl:=sI h
 refine Zg (.inr rfl) hU [(vI z4)] (by omega) ?_
 simp only [push_cast,seval,↓reduceIte,Zc,Tryz.results64,hN0,hN]
theorem Zl5:∀ k,(Zg6 (Xb k)):=fun k=>by
 induction k with
 | zero=>exact @fun a0 a1 a2 r O n h=>(nomatch (show (none:Option _)=some _ from h))
 | succ k ih=>exact @fun a0 a1 a2 r O n h=>Znp (ih)  h
theorem Zoi {a0:Za} {a1:Int} {a2:Int} {r:Int} {O:Objs} {n:Nat} (h:Zet a0 a1 a2=some r):GTo Tryz.prog 64 [.agg (Zd a0),(vI a1),(vI a2)] O n ((vI r)) O n:=by
 obtain ⟨k,hk⟩:=V0 h
 exact (Zl5 k)  hk
theorem Zlz {a0:Za} {r:Bool} {O:Objs} {n:Nat} (h:Zck a0=some r):GTo Tryz.prog 22 [.agg (Zd a0)] O n ((vB r)) O n:=by
 unfold Zck at h
 refine K6 Zq Tryz.call22 Tryz.func22 rfl fun hU hN0 hN => ?_
 show W _ _ _ _ ⟨6,[],[(0,.agg (Zd a0))]⟩ (Zw O n []) _
 refine zQ [1] ?_
 refine Ze ?_
 obtain ⟨y2,hy2,h⟩:=bC h
 refine zCd (Zoi hy2) [2] [false] ?_
 refine zW ?_
 obtain rfl:=sI h
 refine Zg (.inr rfl) hU [(vB (decide (0≤y2)))] (by omega) ?_
 simp only [push_cast,seval,↓reduceIte,Zc,Tryz.results22,hN0,hN]
theorem Zqp {a0:Int} {r:Int} {O:Objs} {n:Nat} (h:Zgt a0=some r):GTo Tryz.prog 109 [(vI a0)] O n ((vI r)) O n:=by
 unfold Zgt at h
 refine K6 Zq Tryz.call109 Tryz.func109 rfl fun hU hN0 hN => ?_
 show W _ _ _ _ ⟨16,[],[(0,(vI a0))]⟩ (Zw O n []) _
 refine zQ [0] ?_
 refine Ze ?_
 refine zQ [3] ?_
 refine Z9 ?_
 refine zQ [3,4] ?_
 refine Zo (t:=(a0 == 0)) rfl (fun c6 => ?_) (fun c6 => ?_)
 ·replace h:=Zn c6 h
  refine zQ [2] ?_
  refine zW ?_
  obtain rfl:=sI h
  refine Zg (.inr rfl) hU [(vI 0)] (by omega) ?_
  simp only [push_cast,seval,↓reduceIte,Zc,Tryz.results109,hN0,hN]
 replace h:=Zm c6 h
 refine zQ [3,6] ?_
 refine Zo (t:=(a0 == 1)) rfl (fun c5 => ?_) (fun c5 => ?_)
 ·replace h:=Zn c5 h
  refine zQ [2] ?_
  refine zW ?_
  obtain rfl:=sI h
  refine Zg (.inr rfl) hU [(vI 1)] (by omega) ?_
  simp only [push_cast,seval,↓reduceIte,Zc,Tryz.results109,hN0,hN]
 replace h:=Zm c5 h
 refine zQ [3,8] ?_
 refine Zo (t:=(a0 == 2)) rfl (fun c4 => ?_) (fun c4 => ?_)
 ·replace h:=Zn c4 h
  refine zQ [2] ?_
  refine zW ?_
  obtain rfl:=sI h
  refine Zg (.inr rfl) hU [(vI 8)] (by omega) ?_
  simp only [push_cast,seval,↓reduceIte,Zc,Tryz.results109,hN0,hN]
 replace h:=Zm c4 h
 refine zQ [3,10] ?_
 refine Zo (t:=(a0 == 3)) rfl (fun c3 => ?_) (fun c3 => ?_)
 ·replace h:=Zn c3 h
  refine zQ [2] ?_
  refine zW ?_
  obtain rfl:=sI h
  refine Zg (.inr rfl) hU [(vI 16)] (by omega) ?_
  simp only [push_cast,seval,↓reduceIte,Zc,Tryz.results109,hN0,hN]
 replace h:=Zm c3 h
 refine zQ [3,12] ?_
 refine Zo (t:=(a0 == 4)) rfl (fun c2 => ?_) (fun c2 => ?_)
 ·replace h:=Zn c2 h
  refine zQ [2] ?_
  refine zW ?_
  obtain rfl:=sI h
  refine Zg (.inr rfl) hU [(vI 32)] (by omega) ?_
  simp only [push_cast,seval,↓reduceIte,Zc,Tryz.results109,hN0,hN]
 replace h:=Zm c2 h
 refine zQ [14] ?_
 refine Zo (t:=(a0 == 5)) rfl (fun c1 => ?_) (fun c1 => ?_)
 ·replace h:=Zn c1 h
  refine zQ [2] ?_
  refine zW ?_
  obtain rfl:=sI h
  refine Zg (.inr rfl) hU [(vI 64)] (by omega) ?_
  simp only [push_cast,seval,↓reduceIte,Zc,Tryz.results109,hN0,hN]
 replace h:=Zm c1 h
 refine Qd [] [] ?_
 refine zQ [2] ?_
 refine zW ?_
 obtain rfl:=sI h
 refine Zg (.inr rfl) hU [(vI (-1))] (by omega) ?_
 simp only [push_cast,seval,↓reduceIte,Zc,Tryz.results109,hN0,hN]
theorem Zkr {a0:Int} {a1:Int} {r:Bool} {O:Objs} {n:Nat} (h:U2 a0 a1=some r):GTo Tryz.prog 61 [(vI a0),.val (.int .u64 a1)] O n ((vB r)) O n:=by
 unfold U2 at h
 refine K6 Zq Tryz.call61 Tryz.func61 rfl fun hU hN0 hN => ?_
 show W _ _ _ _ ⟨20,[],[(0,(vI a0)),(1,.val (.int .u64 a1))]⟩ (Zw O n []) _
 refine zQ [0,1] ?_
 refine Ze ?_
 obtain ⟨y2,hy2,h⟩:=bC h
 refine zCd (Zqp hy2) [1,5] [] ?_
 refine Ze ?_
 refine zQ [1,5,10] ?_
 refine Zo (t:=(decide (y2 < 0))) rfl (fun c5 => ?_) (fun c5 => ?_)
 ·replace h:=Zn c5 h
  refine zQ [4] ?_
  refine zW ?_
  obtain rfl:=sI h
  refine Zg (.inr rfl) hU [(vB false)] (by omega) ?_
  simp only [push_cast,seval,↓reduceIte,Zc,Tryz.results61,hN0,hN]
 replace h:=Zm c5 h
 refine Qd [1,5] [] ?_
 refine Ze ?_
 refine zQd [1,5,6] [1,5,6] [] ?_
 obtain ⟨z4,hz4,h⟩:=bC h
 refine Yj (E':=⟨20,[],[(1,.val (.int .u64 z4))]⟩) (O':=(Zw O n [])) (n0:=n) ?_ ?_
 ·refine Y4 hz4 (fun s0_=>⟨20,[],[(1,.val (.int .u64 s0_.1)),(5,(vI y2)),(6,(vI s0_.2))]⟩) (fun s0_=>(Zw O n [])) (fun z4=>JX 0 n (⟨20,[],[(1,.val (.int .u64 z4))]⟩:Env) (Zw O n []) n) ?_
  intro s0_ x0_ hs0_
  unfold Q8 at hs0_
  try dsimp only
  refine Ze ?_
  refine zQ [1,5,6,13] ?_
  refine Zo (t:=(decide (s0_.2 < y2))) rfl (fun c3 => ?_) (fun c3 => ?_)
  ·replace hs0_:=Zn c3 hs0_
   refine Qd [1,5,6] [] ?_
   refine Ze ?_
   refine Z9 ?_
   refine zRd [1,5,6] [] ?_
   refine zR ?_
   exact Gv hs0_
  replace hs0_:=Zm c3 hs0_
  exact zEx hs0_
 try simp only [Y1,Yc,↓reduceIte,Nat.reduceEqDiff]
 refine zD [1] [] ?_
 refine zQ [4] ?_
 refine zW ?_
 obtain rfl:=sI h
 refine Zg (.inr rfl) hU [(vB (z4 == 0))] (by omega) ?_
 simp only [push_cast,seval,↓reduceIte,Zc,Tryz.results61,hN0,hN]
def Zih (Js:(Za→Int→Option Bool)):Prop:=∀ {a0:Za} {a1:Int} {r:Bool} {O:Objs} {n:Nat},Js a0 a1=some r→GTo Tryz.prog 20 [.agg (Zd a0),(vI a1)] O n ((vB r)) O n
theorem Zpf {Js:(Za→Int→Option Bool)} (Zok:Zih Js) {a0:Za} {a1:Int} {r:Bool} {O:Objs} {n:Nat} (h:G9 Js a0 a1=some r):GTo Tryz.prog 20 [.agg (Zd a0),(vI a1)] O n ((vB r)) O n:=by
 unfold G9 at h
 refine K6 Zq Tryz.call20 Tryz.func20 rfl fun hU hN0 hN => ?_
 show W _ _ _ _ ⟨132,[],[(0,.agg (Zd a0)),(1,(vI a1))]⟩ (Zw O n []) _
 refine zQ [1,2] ?_
 refine Ze ?_
 refine zQ [1,2,10] ?_
 refine Zo (t:=(a0.Kind == 0)) rfl (fun c32 => ?_) (fun c32 => ?_)
 ·replace h:=Zn c32 h
  refine zQD [4] [none,none,none,none] ?_
  refine zW ?_
  obtain rfl:=sI h
  refine Zg (.inr rfl) hU [(vB (cond ((a0.Words.length:Int) == 0) ((a0.Kids.length:Int) == 0) false))] (by omega) ?_
  simp only [push_cast,seval,↓reduceIte,Zc,Tryz.results20,hN0,hN]
 replace h:=Zm c32 h
 refine Qd [1,2] [true] ?_
 refine Ze ?_
 refine zQ [1,2,23] ?_
 refine Zo (t:=(a0.Kind == 10)) rfl (fun c31 => ?_) (fun c31 => ?_)
 ·replace h:=Zn c31 h
  refine zQD [4] [none,none,none,none] ?_
  refine zW ?_
  obtain rfl:=sI h
  refine Zg (.inr rfl) hU [(vB (cond ((a0.Words.length:Int) == 1) ((a0.Kids.length:Int) == 0) false))] (by omega) ?_
  simp only [push_cast,seval,↓reduceIte,Zc,Tryz.results20,hN0,hN]
 replace h:=Zm c31 h
 refine Qd [1,2] [true] ?_
 refine Ze ?_
 refine zQD [1,2,68] [none,none,none,none,none,none,none,none,none,none,none,none,none,none,none,none,none,none,none,none,none,none] ?_
 refine Zo (t:=(cond (cond (cond (cond (cond (decide (a0.Kind < 0)) true (decide (10 < a0.Kind))) true (a1 == 0)) true (decide (65536≤(a0.Words.length:Int)))) true (cond (a0.Kind == 1) (decide (65536≤(a0.Kids.length:Int))) false)) true (decide (1048576≤(a0.Kids.length:Int))))) rfl (fun c30 => ?_) (fun c30 => ?_)
 ·replace h:=Zn c30 h
  refine zQ [4] ?_
  refine zW ?_
  obtain rfl:=sI h
  refine Zg (.inr rfl) hU [(vB false)] (by omega) ?_
  simp only [push_cast,seval,↓reduceIte,Zc,Tryz.results20,hN0,hN]
 replace h:=Zm c30 h
 refine Qd [1,2] [true] ?_
 refine Ze ?_
 refine zQD [1,2,77] [none,none,none,none] ?_
 refine Zo (t:=(cond (decide (1 < a0.Kind)) (decide (0 < (a0.Words.length:Int))) false)) rfl (fun c29 => ?_) (fun c29 => ?_)
 ·replace h:=Zn c29 h
  refine zQ [4] ?_
  refine zW ?_
  obtain rfl:=sI h
  refine Zg (.inr rfl) hU [(vB false)] (by omega) ?_
  simp only [push_cast,seval,↓reduceIte,Zc,Tryz.results20,hN0,hN]
 replace h:=Zm c29 h
 refine Qd [1,2] [true] ?_
 refine Ze ?_
 refine zQd [1,2,5] [1,2,5] [true] ?_
 obtain ⟨z28,hz28,h⟩:=bC h
 refine Zaw (J:=(X8 (fun z28=>JR n (⟨132,[],[(4,(vB false))]⟩:Env) (Zw O n [none]) (n+1)) (fun z28=>JX 0 n (⟨132,[],[]⟩:Env) (Zw O n [none]) (n+1)))) (z:=z28) ?_ fun hw => ?_
 ·refine Y4 hz28 (fun s0_=>⟨132,[],[(1,(vI a1)),(2,.ref n 0),(5,(vI s0_))]⟩) (fun s0_=>(Zw O n [some ⟨false,25,3,1,(Zd a0)⟩])) (X8 (fun z28=>JR n (⟨132,[],[(4,(vB false))]⟩:Env) (Zw O n [none]) (n+1)) (fun z28=>JX 0 n (⟨132,[],[]⟩:Env) (Zw O n [none]) (n+1))) ?_
  intro s0_ x0_ hs0_
  unfold Vy at hs0_
  try dsimp only
  refine Ze ?_
  refine zQ [1,2,5,82] ?_
  refine Zo (t:=(decide (s0_ < (a0.Kids.length:Int)))) rfl (fun c27 => ?_) (fun c27 => ?_)
  ·replace hs0_:=Zn c27 hs0_
   refine Qd [1,2,5] [true] ?_
   refine Ze ?_
   refine Z9 ?_
   refine Ze ?_
   obtain ⟨x2,hx2,ax2,bx2,cx2,hs0_⟩:=bE (f:=Zb) Uc (fun _=>rfl) (by decide) hs0_
   refine Gc [] ax2 bx2 cx2 ?_
   refine zDs [1,2,5,6] [true,true] ?_
   refine Ze ?_
   obtain ⟨y4,hy4,hs0_⟩:=bC hs0_
   refine zCd (Zok hy4) [1,2,5,6,94] [true,true] ?_
   refine Zo (t:=(!y4)) rfl (fun c26 => ?_) (fun c26 => ?_)
   ·replace hs0_:=Zn c26 hs0_
    refine zQ [4] ?_
    refine zW ?_
    exact zEy hs0_
   replace hs0_:=Zm c26 hs0_
   refine Qd [1,2,5,6] [true,true] ?_
   refine zQD [1,2,5,6,7] [none,none,none] ?_
   obtain ⟨z9,hz9,hs0_⟩:=bC hs0_
   refine Yu (E':=⟨132,[],[(1,(vI a1)),(2,.ref n 0),(5,(vI s0_)),(131,(vB z9))]⟩) (O':=(Zw O n [some ⟨false,25,3,1,(Zd a0)⟩,none])) (n0:=(n+2)) ?_ ?_
   ·rcases Bool.eq_false_or_eq_true ((cond (decide (2≤a0.Kind)) (decide (a0.Kind≤7)) false) != (x2.Kind == 10)) with c18 | c18
    ·replace hz9:=Zn c18 hz9
     refine X9 Zq (by kernel_rfl) [none,none,none,none,none,none,none,none,some false,some false,some false,some false,some false,some false,some false,some false,some false,some false,some false,some false] (by kernel_rfl) ?_
     refine zX1 c18 ?_
     refine zG ?_
     exact Qf hz9 c18
    replace hz9:=Zm c18 hz9
    rcases Bool.eq_false_or_eq_true (a0.Kind == 9) with c19 | c19
    ·replace hz9:=Zn c19 hz9
     try rw [c19] at c18
     try simp only [Bool.cond_true,Bool.cond_false,Bool.true_bne,Bool.false_bne,Bool.true_beq,Bool.false_beq,Bool.not_eq_true',Bool.not_eq_false'] at c18
     rcases Bool.eq_false_or_eq_true (x2.Kind != 1) with c20 | c20
     ·replace hz9:=Zn c20 hz9
      try rw [c20] at c18
      try rw [c20] at c19
      try simp only [Bool.cond_true,Bool.cond_false,Bool.true_bne,Bool.false_bne,Bool.true_beq,Bool.false_beq,Bool.not_eq_true',Bool.not_eq_false'] at c18
      refine X9 Zq (by kernel_rfl) [none,none,none,none,none,none,none,none,some false,some false,some false,some false,some false,some false,some false,some false,some false,some false,some false,some false] (by kernel_rfl) ?_
      refine zX3 c18 c19 c20 ?_
      refine zG ?_
      exact Zfk hz9 c18 c19 c20
     replace hz9:=Zm c20 hz9
     try rw [c20] at c18
     try rw [c20] at c19
     try simp only [Bool.cond_true,Bool.cond_false,Bool.true_bne,Bool.false_bne,Bool.true_beq,Bool.false_beq,Bool.not_eq_true',Bool.not_eq_false'] at c18
     rcases Bool.eq_false_or_eq_true (decide (2≤a0.Kind)) with c21 | c21
     ·replace hz9:=Zn c21 hz9
      try rw [c21] at c18
      try rw [c21] at c19
      try rw [c21] at c20
      try simp only [Bool.cond_true,Bool.cond_false,Bool.true_bne,Bool.false_bne,Bool.true_beq,Bool.false_beq,Bool.not_eq_true',Bool.not_eq_false'] at c18
      rcases Bool.eq_false_or_eq_true (decide (a0.Kind≤7)) with c22 | c22
      ·replace hz9:=Zn c22 hz9
       try rw [c22] at c18
       try rw [c22] at c19
       try rw [c22] at c20
       try rw [c22] at c21
       try simp only [Bool.cond_true,Bool.cond_false,Bool.true_bne,Bool.false_bne,Bool.true_beq,Bool.false_beq,Bool.not_eq_true',Bool.not_eq_false'] at c18
       obtain ⟨x14,hx14,ax14,bx14,cx14,hz9⟩:=bE (f:=(eI .u64)) Zbn (fun _=>rfl) (by decide) hz9
       obtain ⟨y15,hy15,hz9⟩:=bC hz9
       refine X9 Zq (by kernel_rfl) [none,none,none,none,none,none,none,none,some true,some true,some true,some true,some true,some true,some true,some true,some true,some true,some true,some true] (by kernel_rfl) ?_
       refine zF8 c18 c19 c20 c21 c22 ax14 bx14 cx14 ?_
       refine zG ?_
       refine PCall.of (Zkr hy15) ?_
       refine zF8 c18 c19 c20 c21 c22 ax14 bx14 cx14 ?_
       refine zG ?_
       exact Yoy hz9 c18 c19 c20 c21 c22 ax14 bx14 cx14
      replace hz9:=Zm c22 hz9
      try rw [c22] at c18
      try rw [c22] at c19
      try rw [c22] at c20
      try rw [c22] at c21
      try simp only [Bool.cond_true,Bool.cond_false,Bool.true_bne,Bool.false_bne,Bool.true_beq,Bool.false_beq,Bool.not_eq_true',Bool.not_eq_false'] at c18
      refine X9 Zq (by kernel_rfl) [none,none,none,none,none,none,none,none,some true,some true,some false,some false,some false,some false,some false,some false,some false,some false,some false,some true] (by kernel_rfl) ?_
      refine zX5 c18 c19 c20 c21 c22 ?_
      refine zG ?_
      exact Z2b hz9 c18 c19 c20 c21 c22
     replace hz9:=Zm c21 hz9
     try rw [c21] at c18
     try rw [c21] at c19
     try rw [c21] at c20
     try simp only [Bool.cond_true,Bool.cond_false,Bool.true_bne,Bool.false_bne,Bool.true_beq,Bool.false_beq,Bool.not_eq_true',Bool.not_eq_false'] at c18
     refine X9 Zq (by kernel_rfl) [none,none,none,none,none,none,none,none,some true,some true,some false,some false,some false,some false,some false,some false,some false,some false,some false,some true] (by kernel_rfl) ?_
     refine zX4 c18 c19 c20 c21 ?_
     refine zG ?_
     exact Zpz hz9 c18 c19 c20 c21
    replace hz9:=Zm c19 hz9
    try rw [c19] at c18
    try simp only [Bool.cond_true,Bool.cond_false,Bool.true_bne,Bool.false_bne,Bool.true_beq,Bool.false_beq,Bool.not_eq_true',Bool.not_eq_false'] at c18
    rcases Bool.eq_false_or_eq_true (decide (2≤a0.Kind)) with c23 | c23
    ·replace hz9:=Zn c23 hz9
     try rw [c23] at c18
     try rw [c23] at c19
     try simp only [Bool.cond_true,Bool.cond_false,Bool.true_bne,Bool.false_bne,Bool.true_beq,Bool.false_beq,Bool.not_eq_true',Bool.not_eq_false'] at c18
     rcases Bool.eq_false_or_eq_true (decide (a0.Kind≤7)) with c24 | c24
     ·replace hz9:=Zn c24 hz9
      try rw [c24] at c18
      try rw [c24] at c19
      try rw [c24] at c23
      try simp only [Bool.cond_true,Bool.cond_false,Bool.true_bne,Bool.false_bne,Bool.true_beq,Bool.false_beq,Bool.not_eq_true',Bool.not_eq_false'] at c18
      obtain ⟨x16,hx16,ax16,bx16,cx16,hz9⟩:=bE (f:=(eI .u64)) Zbn (fun _=>rfl) (by decide) hz9
      obtain ⟨y17,hy17,hz9⟩:=bC hz9
      refine X9 Zq (by kernel_rfl) [none,none,none,none,none,none,none,none,some true,some true,some true,some true,some true,some true,some true,some true,some true,some true,some true,some true] (by kernel_rfl) ?_
      refine zF7 c18 c19 c23 c24 ax16 bx16 cx16 ?_
      refine zG ?_
      refine PCall.of (Zkr hy17) ?_
      refine zF7 c18 c19 c23 c24 ax16 bx16 cx16 ?_
      refine zG ?_
      exact Yjh hz9 c18 c19 c23 c24 ax16 bx16 cx16
     replace hz9:=Zm c24 hz9
     try rw [c24] at c18
     try rw [c24] at c19
     try rw [c24] at c23
     try simp only [Bool.cond_true,Bool.cond_false,Bool.true_bne,Bool.false_bne,Bool.true_beq,Bool.false_beq,Bool.not_eq_true',Bool.not_eq_false'] at c18
     refine X9 Zq (by kernel_rfl) [none,none,none,none,none,none,none,none,some true,some true,some false,some false,some false,some false,some false,some false,some false,some false,some false,some true] (by kernel_rfl) ?_
     refine zX4 c18 c19 c23 c24 ?_
     refine zG ?_
     exact Zpz hz9 c18 c19 c23 c24
    replace hz9:=Zm c23 hz9
    try rw [c23] at c18
    try rw [c23] at c19
    try simp only [Bool.cond_true,Bool.cond_false,Bool.true_bne,Bool.false_bne,Bool.true_beq,Bool.false_beq,Bool.not_eq_true',Bool.not_eq_false'] at c18
    refine X9 Zq (by kernel_rfl) [none,none,none,none,none,none,none,none,some true,some true,some false,some false,some false,some false,some false,some false,some false,some false,some false,some true] (by kernel_rfl) ?_
    refine zX3 c18 c19 c23 ?_
    refine zG ?_
    exact Zfk hz9 c18 c19 c23
   refine Zo (t:=z9) rfl (fun c25 => ?_) (fun c25 => ?_)
   ·replace hs0_:=Zn c25 hs0_
    refine zQ [4] ?_
    refine zW ?_
    exact zEy hs0_
   replace hs0_:=Zm c25 hs0_
   refine Qd [1,2,5] [true,false] ?_
   refine zR ?_
   exact Gv hs0_
  replace hs0_:=Zm c27 hs0_
  exact zEx hs0_
 rcases z28 with z28 | z28
 ·dsimp only [X8] at hw h
  refine Jv hw ?_
  try simp only [Y1,Yc,↓reduceIte,Nat.reduceEqDiff]
  obtain rfl:=sI h
  refine Zg (.inr rfl) hU [(vB false)] (by omega) ?_
  simp only [push_cast,seval,↓reduceIte,Zc,Tryz.results20,hN0,hN]
 dsimp only [X8] at hw h
 refine Yj hw ?_
 try simp only [Y1,Yc,↓reduceIte,Nat.reduceEqDiff]
 refine zD [] [false] ?_
 refine zQ [4] ?_
 refine zW ?_
 obtain rfl:=sI h
 refine Zg (.inr rfl) hU [(vB true)] (by omega) ?_
 simp only [push_cast,seval,↓reduceIte,Zc,Tryz.results20,hN0,hN]
theorem Znd:∀ k,(Zih (Jx k)):=fun k=>by
 induction k with
 | zero=>exact @fun a0 a1 r O n h=>(nomatch (show (none:Option _)=some _ from h))
 | succ k ih=>exact @fun a0 a1 r O n h=>Zpf (ih)  h
theorem Gt {a0:Za} {a1:Int} {r:Bool} {O:Objs} {n:Nat} (h:Kz a0 a1=some r):GTo Tryz.prog 20 [.agg (Zd a0),(vI a1)] O n ((vB r)) O n:=by
 obtain ⟨k,hk⟩:=V0 h
 exact (Znd k)  hk
theorem Zh6 {a0:Za} {r:Bool} {O:Objs} {n:Nat} (h:G5 a0=some r):GTo Tryz.prog 166 [.agg (Zd a0)] O n ((vB r)) O n:=by
 unfold G5 at h
 refine K6 Zq Tryz.call166 Tryz.func166 rfl fun hU hN0 hN => ?_
 show W _ _ _ _ ⟨16,[],[(0,.agg (Zd a0))]⟩ (Zw O n []) _
 refine zQ [1] ?_
 refine zQD [2] [none,none,none,none,none,none,none,none] ?_
 refine zW ?_
 obtain rfl:=sI h
 refine Zg (.inr rfl) hU [(vB (cond (a0.Kind != 0) true (decide (0 < (IntKind.i64.wrap ((a0.Words.length:Int)+(a0.Kids.length:Int)))))))] (by omega) ?_
 simp only [push_cast,seval,↓reduceIte,Zc,Tryz.results166,hN0,hN]
theorem Kr {a0:Bool} {a1:Bool} {a2:Bool} {a3:Zf} {r:Bool} {O:Objs} {n:Nat} (h:Ux a0 a1 a2 a3=some r):GTo Tryz.prog 165 [(vB a0),(vB a1),(vB a2),.ip (Zi a3) 0] O n ((vB r)) O n:=by
 unfold Ux at h
 refine K6 Zq Tryz.call165 Tryz.func165 rfl fun hU hN0 hN => ?_
 show W _ _ _ _ ⟨49,[],[(0,(vB a0)),(1,(vB a1)),(2,(vB a2)),(3,.ip (Zi a3) 0)]⟩ (Zw O n []) _
 refine zQ [0,1,2,3] ?_
 obtain ⟨z3,hz3,h⟩:=bC h
 refine Yu (E':=⟨49,[],[(7,(vB z3))]⟩) (O':=(Zw O n [])) (n0:=n) ?_ ?_
 ·rcases Bool.eq_false_or_eq_true a0 with c8 | c8
  ·replace hz3:=Zn c8 hz3
   obtain ⟨y6,hy6,hz3⟩:=bC hz3
   rcases Bool.eq_false_or_eq_true y6 with c9 | c9
   ·replace hz3:=Zn c9 hz3
    try rw [c9] at c8
    refine Xy [some true,some true,some true,some true,some false,some false,some false,some true,some false,some false,some false,some false,some false,some false,some false,some false,some false,some false,some false,some false,some false,some false,some false,some false,some false,some false,some false,some false,some false,some false,some false,some false,some false] c8 c9 ?_
    refine (Zh6 hy6).then ?_
    refine zX2 c8 c9 ?_
    exact Zbo hz3 c8 c9
   replace hz3:=Zm c9 hz3
   try rw [c9] at c8
   obtain ⟨y7,hy7,hz3⟩:=bC hz3
   refine Xy [some true,some true,some true,some true,some true,some true,some true,some true,none,none,none,none,none,none,none,none,none,none,none,none,none,none,none,none,none,none,none,none,none,none,none,none,none] c8 c9 ?_
   refine zG ?_
   refine (Zh6 hy6).then ?_
   refine zX2 c8 c9 ?_
   refine zG ?_
   refine (Zh6 hy7).then ?_
   refine zX2 c8 c9 ?_
   refine zG ?_
   exact Zbo hz3 c8 c9
  replace hz3:=Zm c8 hz3
  refine Q2 [some false,some false,some false,some false,some false,some false,some false,some false,some true,some true,none,none,none,none,none,none,none,none,some true,some true,none,none,none,none,none,none,none,none,none,none,none,none,none] c8 ?_
  refine zG ?_
  exact Qf hz3 c8
 refine zW ?_
 obtain rfl:=sI h
 refine Zg (.inr rfl) hU [(vB z3)] (by omega) ?_
 simp only [push_cast,seval,↓reduceIte,Zc,Tryz.results165,hN0,hN]
theorem Znm {a0:Int} {r:Bool} {O:Objs} {n:Nat} (h:Zex a0=some r):GTo Tryz.prog 126 [(vI a0)] O n ((vB r)) O n:=by
 unfold Zex at h
 refine K6 Zq Tryz.call126 Tryz.func126 rfl fun hU hN0 hN => ?_
 show W _ _ _ _ ⟨9,[],[(0,(vI a0))]⟩ (Zw O n []) _
 refine zQ [0] ?_
 refine zQD [2] [none,none] ?_
 refine zW ?_
 obtain rfl:=sI h
 refine Zg (.inr rfl) hU [(vB (cond (decide (2≤a0)) (decide (a0≤9)) false))] (by omega) ?_
 simp only [push_cast,seval,↓reduceIte,Zc,Tryz.results126,hN0,hN]
theorem Zk0 {a0:(List Za)} {r:Bool} {O:Objs} {n:Nat} (h:Zbk a0=some r):GTo Tryz.prog 233 [(sL Zb a0)] O n ((vB r)) O n:=by
 unfold Zbk at h
 refine K6 Zq Tryz.call233 Tryz.func233 rfl fun hU hN0 hN => ?_
 show W _ _ _ _ ⟨15,[],[(0,(sL Zb a0))]⟩ (Zw O n []) _
 refine zQ [0] ?_
 refine Ze ?_
 refine zQd [5,6,7] [5,6,7] [] ?_
 obtain ⟨z5,hz5,h⟩:=bC h
 refine Zaw (J:=(X8 (fun z5=>JR n (⟨15,[],[(2,(vB false))]⟩:Env) (Zw O n []) n) (fun z5=>JX 0 n (⟨15,[],[]⟩:Env) (Zw O n []) n))) (z:=z5) ?_ fun hw => ?_
 ·refine Y4 hz5 (fun s0_=>⟨15,[],[(5,(sL Zb a0)),(6,(vI (a0.length:Int))),(7,(vI s0_))]⟩) (fun s0_=>(Zw O n [])) (X8 (fun z5=>JR n (⟨15,[],[(2,(vB false))]⟩:Env) (Zw O n []) n) (fun z5=>JX 0 n (⟨15,[],[]⟩:Env) (Zw O n []) n)) ?_
  intro s0_ x0_ hs0_
  unfold U0 at hs0_
  try dsimp only
  refine zQ [5,6,7,8] ?_
  refine Ze ?_
  refine Zo (t:=(decide (s0_ < (a0.length:Int)))) rfl (fun c4 => ?_) (fun c4 => ?_)
  ·replace hs0_:=Zn c4 hs0_
   refine Qd [5,6,7] [] ?_
   refine Ze ?_
   refine Z9 ?_
   refine Ze ?_
   obtain ⟨x2,hx2,ax2,bx2,cx2,hs0_⟩:=bE (f:=Zb) Uc (fun _=>rfl) (by decide) hs0_
   refine Gc [] ax2 bx2 cx2 ?_
   refine zD [4,5,6,7] [true] ?_
   refine zQ [5,6,7,13] ?_
   refine Zo (t:=(x2.Kind != 1)) rfl (fun c3 => ?_) (fun c3 => ?_)
   ·replace hs0_:=Zn c3 hs0_
    refine zQ [2] ?_
    refine zW ?_
    exact zEy hs0_
   replace hs0_:=Zm c3 hs0_
   refine Qd [5,6,7] [false] ?_
   refine zR ?_
   exact Gv hs0_
  replace hs0_:=Zm c4 hs0_
  exact zEx hs0_
 rcases z5 with z5 | z5
 ·dsimp only [X8] at hw h
  refine Jv hw ?_
  try simp only [Y1,Yc,↓reduceIte,Nat.reduceEqDiff]
  obtain rfl:=sI h
  refine Zg (.inr rfl) hU [(vB false)] (by omega) ?_
  simp only [push_cast,seval,↓reduceIte,Zc,Tryz.results233,hN0,hN]
 dsimp only [X8] at hw h
 refine Yj hw ?_
 try simp only [Y1,Yc,↓reduceIte,Nat.reduceEqDiff]
 refine zD [] [] ?_
 refine zQ [2] ?_
 refine zW ?_
 obtain rfl:=sI h
 refine Zg (.inr rfl) hU [(vB true)] (by omega) ?_
 simp only [push_cast,seval,↓reduceIte,Zc,Tryz.results233,hN0,hN]
theorem Zgg {a0:Int} {r:(Int×Bool)} {O:Objs} {n:Nat} (h:Gx a0=some r):GTo Tryz.prog 282 [(vI a0)] O n (.tup [(vI r.1),(vB r.2)]) O n:=by
 unfold Gx at h
 refine K6 Zq Tryz.call282 Tryz.func282 rfl fun hU hN0 hN => ?_
 show W _ _ _ _ ⟨15,[],[(0,(vI a0))]⟩ (Zw O n []) _
 refine zQ [0] ?_
 refine Ze ?_
 obtain ⟨y6,hy6,ey6,h⟩:=bY (f:=(eI .i64)) (cs:=[.val (.int .i64 0),.val (.int .i64 1),.val (.int .i64 8),.val (.int .i64 16),.val (.int .i64 32),.val (.int .i64 64)]) rfl h
 have g7:=congrArg G.agg ey6
 obtain ⟨y8,hy8,ey8,h⟩:=bY (f:=(eI .i64)) (cs:=[.val (.int .i64 0),.val (.int .i64 0),.val (.int .i64 0),.val (.int .i64 0),.val (.int .i64 0),.val (.int .i64 0)]) rfl h
 have g9:=congrArg (GObj.mk false 346 6 1) ey8
 have g10:=Zin (f:=(eI .i64)) y8 y6 (fun _=>rfl)
 refine Gu [] g7 g9 g10 ?_
 refine zDs [0,4] [true] ?_
 refine zQD [0,4,11] [none,none] ?_
 refine Zo (t:=(cond (decide (a0 < 0)) true (decide (6≤a0)))) rfl (fun Kj => ?_) (fun Kj => ?_)
 ·replace h:=Zn Kj h
  refine zQ [2,3] ?_
  refine zW ?_
  obtain rfl:=sI h
  refine Zg (.inr rfl) hU [(vI 0),(vB false)] (by omega) ?_
  simp only [push_cast,seval,↓reduceIte,Zc,Tryz.results282,hN0,hN]
 replace h:=Zm Kj h
 refine Qd [0,4] [true] ?_
 obtain ⟨x12,hx12,ax12,bx12,cx12,h⟩:=bEA (f:=(eI .i64)) (b:=6) rfl Z4q (fun _=>rfl) (by decide) h
 refine Zhc [2,3] (Yt Zq [] ?_)
 refine zF3 ax12 bx12 cx12 ?_
 refine zW ?_
 obtain rfl:=sI h
 refine Zg (.inr rfl) hU [(vI x12),(vB true)] (by omega) ?_
 simp only [push_cast,seval,↓reduceIte,Zc,Tryz.results282,hN0,hN]
theorem Ztg {a0:Int} {a1:Int} {r:Bool} {O:Objs} {n:Nat} (h:Zg3 a0 a1=some r):GTo Tryz.prog 281 [(vI a0),.val (.int .u64 a1)] O n ((vB r)) O n:=by
 unfold Zg3 at h
 refine K6 Zq Tryz.call281 Tryz.func281 rfl fun hU hN0 hN => ?_
 show W _ _ _ _ ⟨19,[],[(0,(vI a0)),(1,.val (.int .u64 a1))]⟩ (Zw O n []) _
 refine zQ [0,1] ?_
 refine Ze ?_
 obtain ⟨y2,hy2,h⟩:=bC h
 refine zCd (Zgg hy2) [1,5,6] [] ?_
 obtain ⟨z4,hz4,h⟩:=bC h
 refine Yu (E':=⟨19,[],[(4,(vB z4))]⟩) (O':=(Zw O n [])) (n0:=n) ?_ ?_
 ·rcases Bool.eq_false_or_eq_true y2.2 with c7 | c7
  ·replace hz4:=Zn c7 hz4
   obtain ⟨pu6,hz4⟩:=bG hz4
   refine Yt Zq [some true,some true,some true,some true] ?_
   simp only [push_cast,seval,↓reduceIte,Zc,c7,pu6,hN0,hN]
   obtain rfl:=sI hz4
   refine And.intro rfl (Fit2.of (Z6 hU rfl rfl ?_) (by omega))
   simp only [push_cast,seval,↓reduceIte,Zc,c7,pu6,hN0,hN]
  replace hz4:=Zm c7 hz4
  refine Q2 [some false,some false,some false,some false] c7 ?_
  exact Qf hz4 c7
 refine zW ?_
 obtain rfl:=sI h
 refine Zg (.inr rfl) hU [(vB z4)] (by omega) ?_
 simp only [push_cast,seval,↓reduceIte,Zc,Tryz.results281,hN0,hN]
def Zdr (Xv:(Za→Option Bool)):Prop:=∀ {a0:Za} {r:Bool} {O:Objs} {n:Nat},Xv a0=some r→GTo Tryz.prog 114 [.agg (Zd a0)] O n ((vB r)) O n
def Zds (Xq:(Za→Int→Option Bool)):Prop:=∀ {a0:Za} {a1:Int} {r:Bool} {O:Objs} {n:Nat},Xq a0 a1=some r→GTo Tryz.prog 174 [.agg (Zd a0),(vI a1)] O n ((vB r)) O n
def Zap (Y9:((List Za)→Int→Option Bool)):Prop:=∀ {a0:(List Za)} {a1:Int} {r:Bool} {O:Objs} {n:Nat},Y9 a0 a1=some r→GTo Tryz.prog 232 [(sL Zb a0),(vI a1)] O n ((vB r)) O n
def Zao (Xd:((List Za)→Int→Option Bool)):Prop:=∀ {a0:(List Za)} {a1:Int} {r:Bool} {O:Objs} {n:Nat},Xd a0 a1=some r→GTo Tryz.prog 234 [(sL Zb a0),(vI a1)] O n ((vB r)) O n
theorem Zyf {Xv:(Za→Option Bool)} {Xq:(Za→Int→Option Bool)} {Y9:((List Za)→Int→Option Bool)} {Xd:((List Za)→Int→Option Bool)} (Zdv:Zdr Xv) (Zdw:Zds Xq) (Ub:Zap Y9) (Zdb:Zao Xd) {a0:Za} {r:Bool} {O:Objs} {n:Nat} (h:Zhi Xv Xq Y9 Xd a0=some r):GTo Tryz.prog 114 [.agg (Zd a0)] O n ((vB r)) O n:=by
 unfold Zhi at h
 refine K6 Zq Tryz.call114 Tryz.func114 rfl fun hU hN0 hN => ?_
 show W _ _ _ _ ⟨18,[],[(0,.agg (Zd a0))]⟩ (Zw O n []) _
 refine zQ [1] ?_
 refine Ze ?_
 refine zQ [1,5] ?_
 refine Zo (t:=(a0.Kind == 10)) rfl (fun c3 => ?_) (fun c3 => ?_)
 ·replace h:=Zn c3 h
  refine zQD [2] [none,none,none,none] ?_
  refine zW ?_
  obtain rfl:=sI h
  refine Zg (.inr rfl) hU [(vB (cond ((a0.Words.length:Int) == 1) ((a0.Kids.length:Int) == 0) false))] (by omega) ?_
  simp only [push_cast,seval,↓reduceIte,Zc,Tryz.results114,hN0,hN]
 replace h:=Zm c3 h
 refine Qd [1] [true] ?_
 refine Ze ?_
 obtain ⟨y2,hy2,h⟩:=bC h
 refine zCd (Zdw hy2) [2] [false] ?_
 refine zW ?_
 obtain rfl:=sI h
 refine Zg (.inr rfl) hU [(vB y2)] (by omega) ?_
 simp only [push_cast,seval,↓reduceIte,Zc,Tryz.results114,hN0,hN]
theorem Zyg {Xv:(Za→Option Bool)} {Xq:(Za→Int→Option Bool)} {Y9:((List Za)→Int→Option Bool)} {Xd:((List Za)→Int→Option Bool)} (Zdv:Zdr Xv) (Zdw:Zds Xq) (Ub:Zap Y9) (Zdb:Zao Xd) {a0:Za} {a1:Int} {r:Bool} {O:Objs} {n:Nat} (h:Zhj Xv Xq Y9 Xd a0 a1=some r):GTo Tryz.prog 174 [.agg (Zd a0),(vI a1)] O n ((vB r)) O n:=by
 unfold Zhj at h
 refine K6 Zq Tryz.call174 Tryz.func174 rfl fun hU hN0 hN => ?_
 show W _ _ _ _ ⟨83,[],[(0,.agg (Zd a0)),(1,(vI a1))]⟩ (Zw O n []) _
 refine zQ [1,2] ?_
 refine Ze ?_
 refine zQ [1,2,7] ?_
 refine Zo (t:=(a0.Kind == 0)) rfl (fun c26 => ?_) (fun c26 => ?_)
 ·replace h:=Zn c26 h
  refine zQD [4] [none,none,none,none] ?_
  refine zW ?_
  obtain rfl:=sI h
  refine Zg (.inr rfl) hU [(vB (cond ((a0.Words.length:Int) == 0) ((a0.Kids.length:Int) == 0) false))] (by omega) ?_
  simp only [push_cast,seval,↓reduceIte,Zc,Tryz.results174,hN0,hN]
 replace h:=Zm c26 h
 refine Qd [1,2] [true] ?_
 refine Ze ?_
 refine zQ [1,2,19] ?_
 refine Zo (t:=(a1 == 0)) rfl (fun c25 => ?_) (fun c25 => ?_)
 ·replace h:=Zn c25 h
  refine zQ [4] ?_
  refine zW ?_
  obtain rfl:=sI h
  refine Zg (.inr rfl) hU [(vB false)] (by omega) ?_
  simp only [push_cast,seval,↓reduceIte,Zc,Tryz.results174,hN0,hN]
 replace h:=Zm c25 h
 refine Qd [1,2] [true] ?_
 refine Ze ?_
 refine zQ [1,2,22] ?_
 refine Zo (t:=(a0.Kind == 1)) rfl (fun c24 => ?_) (fun c24 => ?_)
 ·replace h:=Zn c24 h
  obtain ⟨z2,hz2,h⟩:=bC h
  refine Yu (E':=⟨83,[],[(4,(vB z2))]⟩) (O':=(Zw O n [none])) (n0:=(n+1)) ?_ ?_
  ·rcases Bool.eq_false_or_eq_true (decide ((a0.Words.length:Int) < 65536)) with c5 | c5
   ·replace hz2:=Zn c5 hz2
    rcases Bool.eq_false_or_eq_true (decide ((a0.Kids.length:Int) < 65536)) with c6 | c6
    ·replace hz2:=Zn c6 hz2
     try rw [c6] at c5
     obtain ⟨y4,hy4,hz2⟩:=bC hz2
     refine Xy [none,none,none,none,some true,some true,some true,some true,some true] c5 c6 ?_
     refine zG ?_
     refine (Ub hy4).then ?_
     refine zX2 c5 c6 ?_
     refine zG ?_
     exact Zbo hz2 c5 c6
    replace hz2:=Zm c6 hz2
    try rw [c6] at c5
    refine Xy [none,none,none,none,some false,some false,some false,some false,some false] c5 c6 ?_
    refine zG ?_
    exact Zbo hz2 c5 c6
   replace hz2:=Zm c5 hz2
   refine Q2 [none,none,none,none,some false,some false,some false,some false,some false] c5 ?_
   refine zG ?_
   exact Qf hz2 c5
  refine zW ?_
  obtain rfl:=sI h
  refine Zg (.inr rfl) hU [(vB z2)] (by omega) ?_
  simp only [push_cast,seval,↓reduceIte,Zc,Tryz.results174,hN0,hN]
 replace h:=Zm c24 h
 refine Qd [1,2] [true] ?_
 refine Ze ?_
 refine Ze ?_
 obtain ⟨y8,hy8,h⟩:=bC h
 refine zRo [none,none,none,none,none,none,none,none] ?_
 refine zG ?_
 refine zTs (Znm hy8) ?_
 refine zG ?_
 refine zD [1,2,55] [true] ?_
 refine Zo (t:=(cond (cond (!y8) true (decide (0 < (a0.Words.length:Int)))) true (decide (1048576≤(a0.Kids.length:Int))))) rfl (fun c23 => ?_) (fun c23 => ?_)
 ·replace h:=Zn c23 h
  refine zQ [4] ?_
  refine zW ?_
  obtain rfl:=sI h
  refine Zg (.inr rfl) hU [(vB false)] (by omega) ?_
  simp only [push_cast,seval,↓reduceIte,Zc,Tryz.results174,hN0,hN]
 replace h:=Zm c23 h
 refine Qd [1,2] [true] ?_
 refine Ze ?_
 refine zQ [1,2,57] ?_
 refine Z9 ?_
 refine zQ [1,2,57,58] ?_
 refine Zo (t:=(a0.Kind == 8)) rfl (fun c22 => ?_) (fun c22 => ?_)
 ·replace h:=Zn c22 h
  refine Ze ?_
  obtain ⟨y10,hy10,h⟩:=bC h
  refine zCd (Ub hy10) [4] [false] ?_
  refine zW ?_
  obtain rfl:=sI h
  refine Zg (.inr rfl) hU [(vB y10)] (by omega) ?_
  simp only [push_cast,seval,↓reduceIte,Zc,Tryz.results174,hN0,hN]
 replace h:=Zm c22 h
 refine zQ [1,2,65] ?_
 refine Zo (t:=(a0.Kind == 9)) rfl (fun c21 => ?_) (fun c21 => ?_)
 ·replace h:=Zn c21 h
  obtain ⟨z13,hz13,h⟩:=bC h
  refine Yu (E':=⟨83,[],[(4,(vB z13))]⟩) (O':=(Zw O n [none])) (n0:=(n+1)) ?_ ?_
  ·obtain ⟨y16,hy16,hz13⟩:=bC hz13
   rcases Bool.eq_false_or_eq_true y16 with c18 | c18
   ·replace hz13:=Zn c18 hz13
    obtain ⟨y17,hy17,hz13⟩:=bC hz13
    refine Q2 [some true,some true,some true,some true,some true] c18 ?_
    refine (Zk0 hy16).then ?_
    refine zX1 c18 ?_
    refine (Ub hy17).then ?_
    refine zX1 c18 ?_
    exact Qf hz13 c18
   replace hz13:=Zm c18 hz13
   refine Q2 [some false,some false,some false,some false,some false] c18 ?_
   refine (Zk0 hy16).then ?_
   refine zX1 c18 ?_
   exact Qf hz13 c18
  refine zW ?_
  obtain rfl:=sI h
  refine Zg (.inr rfl) hU [(vB z13)] (by omega) ?_
  simp only [push_cast,seval,↓reduceIte,Zc,Tryz.results174,hN0,hN]
 replace h:=Zm c21 h
 refine Qd [2] [true] ?_
 refine Ze ?_
 obtain ⟨y20,hy20,h⟩:=bC h
 refine zCd (Zdb hy20) [4] [false] ?_
 refine zW ?_
 obtain rfl:=sI h
 refine Zg (.inr rfl) hU [(vB y20)] (by omega) ?_
 simp only [push_cast,seval,↓reduceIte,Zc,Tryz.results174,hN0,hN]
theorem Ztn {Xv:(Za→Option Bool)} {Xq:(Za→Int→Option Bool)} {Y9:((List Za)→Int→Option Bool)} {Xd:((List Za)→Int→Option Bool)} (Zdv:Zdr Xv) (Zdw:Zds Xq) (Ub:Zap Y9) (Zdb:Zao Xd) {a0:(List Za)} {a1:Int} {r:Bool} {O:Objs} {n:Nat} (h:Zdk Xv Xq Y9 Xd a0 a1=some r):GTo Tryz.prog 232 [(sL Zb a0),(vI a1)] O n ((vB r)) O n:=by
 unfold Zdk at h
 refine K6 Zq Tryz.call232 Tryz.func232 rfl fun hU hN0 hN => ?_
 show W _ _ _ _ ⟨18,[],[(0,(sL Zb a0)),(1,(vI a1))]⟩ (Zw O n []) _
 refine zQ [0,1] ?_
 refine Ze ?_
 refine zQd [1,7,8,9] [1,7,8,9] [] ?_
 obtain ⟨z7,hz7,h⟩:=bC h
 refine Zaw (J:=(X8 (fun z7=>JR n (⟨18,[],[(4,(vB false))]⟩:Env) (Zw O n []) n) (fun z7=>JX 0 n (⟨18,[],[]⟩:Env) (Zw O n []) n))) (z:=z7) ?_ fun hw => ?_
 ·refine Y4 hz7 (fun s0_=>⟨18,[],[(1,(vI a1)),(7,(sL Zb a0)),(8,(vI (a0.length:Int))),(9,(vI s0_))]⟩) (fun s0_=>(Zw O n [])) (X8 (fun z7=>JR n (⟨18,[],[(4,(vB false))]⟩:Env) (Zw O n []) n) (fun z7=>JX 0 n (⟨18,[],[]⟩:Env) (Zw O n []) n)) ?_
  intro s0_ x0_ hs0_
  unfold Zah at hs0_
  try dsimp only
  refine zQ [1,7,8,9,10] ?_
  refine Ze ?_
  refine Zo (t:=(decide (s0_ < (a0.length:Int)))) rfl (fun c6 => ?_) (fun c6 => ?_)
  ·replace hs0_:=Zn c6 hs0_
   refine Qd [1,7,8,9] [] ?_
   refine Ze ?_
   refine Z9 ?_
   refine Ze ?_
   obtain ⟨x2,hx2,ax2,bx2,cx2,hs0_⟩:=bE (f:=Zb) Uc (fun _=>rfl) (by decide) hs0_
   refine Gc [] ax2 bx2 cx2 ?_
   refine zDs [1,6,7,8,9] [true] ?_
   obtain ⟨y4,hy4,hs0_⟩:=bC hs0_
   refine zCd (Zdw hy4) [1,7,8,9,16] [false] ?_
   refine Zo (t:=(!y4)) rfl (fun c5 => ?_) (fun c5 => ?_)
   ·replace hs0_:=Zn c5 hs0_
    refine zQ [4] ?_
    refine zW ?_
    exact zEy hs0_
   replace hs0_:=Zm c5 hs0_
   refine Qd [1,7,8,9] [false] ?_
   refine zR ?_
   exact Gv hs0_
  replace hs0_:=Zm c6 hs0_
  exact zEx hs0_
 rcases z7 with z7 | z7
 ·dsimp only [X8] at hw h
  refine Jv hw ?_
  try simp only [Y1,Yc,↓reduceIte,Nat.reduceEqDiff]
  obtain rfl:=sI h
  refine Zg (.inr rfl) hU [(vB false)] (by omega) ?_
  simp only [push_cast,seval,↓reduceIte,Zc,Tryz.results232,hN0,hN]
 dsimp only [X8] at hw h
 refine Yj hw ?_
 try simp only [Y1,Yc,↓reduceIte,Nat.reduceEqDiff]
 refine zD [] [] ?_
 refine zQ [4] ?_
 refine zW ?_
 obtain rfl:=sI h
 refine Zg (.inr rfl) hU [(vB true)] (by omega) ?_
 simp only [push_cast,seval,↓reduceIte,Zc,Tryz.results232,hN0,hN]
theorem Ztm {Xv:(Za→Option Bool)} {Xq:(Za→Int→Option Bool)} {Y9:((List Za)→Int→Option Bool)} {Xd:((List Za)→Int→Option Bool)} (Zdv:Zdr Xv) (Zdw:Zds Xq) (Ub:Zap Y9) (Zdb:Zao Xd) {a0:(List Za)} {a1:Int} {r:Bool} {O:Objs} {n:Nat} (h:Zdj Xv Xq Y9 Xd a0 a1=some r):GTo Tryz.prog 234 [(sL Zb a0),(vI a1)] O n ((vB r)) O n:=by
 unfold Zdj at h
 refine K6 Zq Tryz.call234 Tryz.func234 rfl fun hU hN0 hN => ?_
 show W _ _ _ _ ⟨31,[],[(0,(sL Zb a0)),(1,(vI a1))]⟩ (Zw O n []) _
 refine zQ [0,1] ?_
 refine Ze ?_
 refine zQd [1,7,8,9] [1,7,8,9] [] ?_
 obtain ⟨z17,hz17,h⟩:=bC h
 refine Zaw (J:=(X8 (fun z17=>JR n (⟨31,[],[(4,(vB false))]⟩:Env) (Zw O n []) n) (fun z17=>JX 0 n (⟨31,[],[]⟩:Env) (Zw O n []) n))) (z:=z17) ?_ fun hw => ?_
 ·refine Y4 hz17 (fun s0_=>⟨31,[],[(1,(vI a1)),(7,(sL Zb a0)),(8,(vI (a0.length:Int))),(9,(vI s0_))]⟩) (fun s0_=>(Zw O n [])) (X8 (fun z17=>JR n (⟨31,[],[(4,(vB false))]⟩:Env) (Zw O n []) n) (fun z17=>JX 0 n (⟨31,[],[]⟩:Env) (Zw O n []) n)) ?_
  intro s0_ x0_ hs0_
  unfold Zag at hs0_
  try dsimp only
  refine zQ [1,7,8,9,10] ?_
  refine Ze ?_
  refine Zo (t:=(decide (s0_ < (a0.length:Int)))) rfl (fun c16 => ?_) (fun c16 => ?_)
  ·replace hs0_:=Zn c16 hs0_
   refine Qd [1,7,8,9] [] ?_
   refine Ze ?_
   refine Z9 ?_
   refine Ze ?_
   obtain ⟨x2,hx2,ax2,bx2,cx2,hs0_⟩:=bE (f:=Zb) Uc (fun _=>rfl) (by decide) hs0_
   refine Gc [] ax2 bx2 cx2 ?_
   refine zD [1,6,7,8,9] [true] ?_
   obtain ⟨z6,hz6,hs0_⟩:=bC hs0_
   refine Yu (E':=⟨31,[],[(1,(vI a1)),(7,(sL Zb a0)),(8,(vI (a0.length:Int))),(9,(vI s0_)),(29,(vB z6))]⟩) (O':=(Zw O n [none])) (n0:=(n+1)) ?_ ?_
   ·rcases Bool.eq_false_or_eq_true (x2.Kind != 10) with Kj | Kj
    ·replace hz6:=Zn Kj hz6
     refine Q2 [some false,some false,some false,some false,some false,some false,some false,some false,some false,some false] Kj ?_
     exact Qf hz6 Kj
    replace hz6:=Zm Kj hz6
    obtain ⟨y10,hy10,hz6⟩:=bC hz6
    rcases Bool.eq_false_or_eq_true y10 with Qk | Qk
    ·replace hz6:=Zn Qk hz6
     try rw [Qk] at Kj
     obtain ⟨x11,hx11,ax11,bx11,cx11,hz6⟩:=bE (f:=(eI .u64)) Zbn (fun _=>rfl) (by decide) hz6
     obtain ⟨y12,hy12,hz6⟩:=bC hz6
     refine Z7p [some true,some true,some true,some true,some true,some true,some true,some true,some true,some true] Kj Qk ax11 bx11 cx11 ?_
     refine (Zdv hy10).then ?_
     refine zF5 Kj Qk ax11 bx11 cx11 ?_
     refine (Ztg hy12).then ?_
     refine zF5 Kj Qk ax11 bx11 cx11 ?_
     exact Yjg hz6 Kj Qk ax11 bx11 cx11
    replace hz6:=Zm Qk hz6
    try rw [Qk] at Kj
    refine Xy [some true,some true,some true,some false,some false,some false,some false,some false,some false,some false] Kj Qk ?_
    refine (Zdv hy10).then ?_
    refine zX2 Kj Qk ?_
    exact Zbo hz6 Kj Qk
   refine Zo (t:=z6) rfl (fun K9 => ?_) (fun K9 => ?_)
   ·replace hs0_:=Zn K9 hs0_
    refine zQ [4] ?_
    refine zW ?_
    exact zEy hs0_
   replace hs0_:=Zm K9 hs0_
   refine Qd [1,7,8,9] [false] ?_
   refine zR ?_
   exact Gv hs0_
  replace hs0_:=Zm c16 hs0_
  exact zEx hs0_
 rcases z17 with z17 | z17
 ·dsimp only [X8] at hw h
  refine Jv hw ?_
  try simp only [Y1,Yc,↓reduceIte,Nat.reduceEqDiff]
  obtain rfl:=sI h
  refine Zg (.inr rfl) hU [(vB false)] (by omega) ?_
  simp only [push_cast,seval,↓reduceIte,Zc,Tryz.results234,hN0,hN]
 dsimp only [X8] at hw h
 refine Yj hw ?_
 try simp only [Y1,Yc,↓reduceIte,Nat.reduceEqDiff]
 refine zD [] [] ?_
 refine zQ [4] ?_
 refine zW ?_
 obtain rfl:=sI h
 refine Zg (.inr rfl) hU [(vB true)] (by omega) ?_
 simp only [push_cast,seval,↓reduceIte,Zc,Tryz.results234,hN0,hN]
theorem Zu4:∀ k,(Zdr ((Z7 k).1))∧(Zds ((Z7 k).2.1))∧(Zap ((Z7 k).2.2.1))∧(Zao ((Z7 k).2.2.2)):=fun k=>by
 induction k with
 | zero=>exact ⟨@fun a0 r O n h=>(nomatch (show (none:Option _)=some _ from h)),@fun a0 a1 r O n h=>(nomatch (show (none:Option _)=some _ from h)),@fun a0 a1 r O n h=>(nomatch (show (none:Option _)=some _ from h)),@fun a0 a1 r O n h=>(nomatch (show (none:Option _)=some _ from h))⟩
 | succ k ih=>exact ⟨@fun a0 r O n h=>Zyf (ih.1) (ih.2.1) (ih.2.2.1) (ih.2.2.2)  h,@fun a0 a1 r O n h=>Zyg (ih.1) (ih.2.1) (ih.2.2.1) (ih.2.2.2)  h,@fun a0 a1 r O n h=>Ztn (ih.1) (ih.2.1) (ih.2.2.1) (ih.2.2.2)  h,@fun a0 a1 r O n h=>Ztm (ih.1) (ih.2.1) (ih.2.2.1) (ih.2.2.2)  h⟩
theorem Zmb {a0:Za} {r:Bool} {O:Objs} {n:Nat} (h:Zh0 a0=some r):GTo Tryz.prog 114 [.agg (Zd a0)] O n ((vB r)) O n:=by
 obtain ⟨k,hk⟩:=V0 h
 exact (Zu4 k).1  hk
theorem Zl8 {a0:Za} {r:Bool} {O:Objs} {n:Nat} (h:Zfm a0=some r):GTo Tryz.prog 167 [.agg (Zd a0)] O n ((vB r)) O n:=by
 unfold Zfm at h
 refine K6 Zq Tryz.call167 Tryz.func167 rfl fun hU hN0 hN => ?_
 show W _ _ _ _ ⟨10,[],[(0,.agg (Zd a0))]⟩ (Zw O n []) _
 refine zQ [1] ?_
 obtain ⟨z2,hz2,h⟩:=bC h
 refine Yu (E':=⟨10,[],[(2,(vB z2))]⟩) (O':=(Zw O n [none])) (n0:=(n+1)) ?_ ?_
 ·rcases Bool.eq_false_or_eq_true (a0.Kind != 10) with c5 | c5
  ·replace hz2:=Zn c5 hz2
   obtain ⟨y4,hy4,hz2⟩:=bC hz2
   refine Q2 [some true,some true] c5 ?_
   refine (Zmb hy4).then ?_
   refine zX1 c5 ?_
   exact Qf hz2 c5
  replace hz2:=Zm c5 hz2
  refine Q2 [some false,some false] c5 ?_
  exact Qf hz2 c5
 refine zW ?_
 obtain rfl:=sI h
 refine Zg (.inr rfl) hU [(vB z2)] (by omega) ?_
 simp only [push_cast,seval,↓reduceIte,Zc,Tryz.results167,hN0,hN]
theorem Z3t {a0:Int} {r:Int} {O:Objs} {n:Nat} (h:Zg5 a0=some r):GTo Tryz.prog 229 [.val (.int .u8 a0)] O n (.val (.int .u64 r)) O n:=by
 unfold Zg5 at h
 refine K6 Zq Tryz.call229 Tryz.func229 rfl fun hU hN0 hN => ?_
 show W _ _ _ _ ⟨20,[],[(0,.val (.int .u8 a0))]⟩ (Zw O n []) _
 refine zQ [0] ?_
 refine zQ [0,3] ?_
 refine Ze ?_
 refine zQd [0,3,5] [0,3,5] [] ?_
 obtain ⟨z7,hz7,h⟩:=bC h
 refine Yj (E':=⟨20,[],[(3,.val (.int .u64 z7))]⟩) (O':=(Zw O n [])) (n0:=n) ?_ ?_
 ·refine Y4 hz7 (fun s0_=>⟨20,[],[(0,.val (.int .u8 a0)),(3,.val (.int .u64 s0_.1)),(5,(vI s0_.2))]⟩) (fun s0_=>(Zw O n [])) (fun z7=>JX 0 n (⟨20,[],[(3,.val (.int .u64 z7))]⟩:Env) (Zw O n []) n) ?_
  intro s0_ x0_ hs0_
  unfold Ze0 at hs0_
  try dsimp only
  refine zQ [0,3,5,6] ?_
  refine Ze ?_
  refine Zo (t:=(decide (s0_.2 < 8))) rfl (fun c6 => ?_) (fun c6 => ?_)
  ·replace hs0_:=Zn c6 hs0_
   refine Qd [0,3,5] [] ?_
   obtain ⟨z1,hz1,hs0_⟩:=bC hs0_
   refine Yu (E':=⟨20,[],[(0,.val (.int .u8 a0)),(3,.val (.int .u64 z1)),(5,(vI s0_.2))]⟩) (O':=(Zw O n [])) (n0:=n) ?_ ?_
   ·refine Z9 ?_
    refine zQ [0,3,4,5] ?_
    obtain ⟨pu3,hz1⟩:=bG hz1
    refine Zhc [0,3,4,5,12] (Yt Zq [] ?_)
    simp only [push_cast,seval,↓reduceIte,Zc,pu3,hN0,hN]
    refine Zo (t:=((IntKind.u8.wrap (Qq .u8 (Int.fdiv a0 (2 ^ min (Int.toNat s0_.2) 8)) 1)) == 1)) rfl (fun c5 => ?_) (fun c5 => ?_)
    ·replace hz1:=Zn c5 hz1
     obtain ⟨pu4,hz1⟩:=bG hz1
     refine Yt Zq [] ?_
     simp only [push_cast,seval,↓reduceIte,Zc,pu4,hN0,hN]
     obtain rfl:=sI hz1
     refine And.intro rfl (Fit2.of (Z6 hU rfl rfl ?_) (by omega))
     simp only [push_cast,seval,↓reduceIte,Zc,pu4,hN0,hN]
    replace hz1:=Zm c5 hz1
    refine zK ?_
    exact Gv hz1
   refine zR ?_
   exact Gv hs0_
  replace hs0_:=Zm c6 hs0_
  exact zEx hs0_
 try simp only [Y1,Yc,↓reduceIte,Nat.reduceEqDiff]
 refine zD [3] [] ?_
 refine zQ [2] ?_
 refine zW ?_
 obtain rfl:=sI h
 refine Zg (.inr rfl) hU [.val (.int .u64 z7)] (by omega) ?_
 simp only [push_cast,seval,↓reduceIte,Zc,Tryz.results229,hN0,hN]
theorem Zkv {a0:(List Zx)} {r:Bool} {O:Objs} {n:Nat} (h:Zbg a0=some r):GTo Tryz.prog 168 [(sL Zp a0)] O n ((vB r)) O n:=by
 unfold Zbg at h
 refine K6 Zq Tryz.call168 Tryz.func168 rfl fun hU hN0 hN => ?_
 show W _ _ _ _ ⟨48,[],[(0,(sL Zp a0))]⟩ (Zw O n []) _
 refine zQ [0] ?_
 refine zQ [0,3] ?_
 refine Ze ?_
 refine zQd [3,7,8,9] [3,7,8,9] [] ?_
 obtain ⟨z7,hz7,h⟩:=bC h
 refine Zaw (J:=(X8 (fun z7=>JR n (⟨48,[],[(2,(vB false))]⟩:Env) (Zw O n []) n) (fun z7=>JX 0 n (⟨48,[],[]⟩:Env) (Zw O n []) n))) (z:=z7) ?_ fun hw => ?_
 ·refine Y4 hz7 (fun s0_=>⟨48,[],[(3,(vI s0_.1)),(7,(sL Zp a0)),(8,(vI (a0.length:Int))),(9,(vI s0_.2))]⟩) (fun s0_=>(Zw O n [])) (X8 (fun z7=>JR n (⟨48,[],[(2,(vB false))]⟩:Env) (Zw O n []) n) (fun z7=>JX 0 n (⟨48,[],[]⟩:Env) (Zw O n []) n)) ?_
  intro s0_ x0_ hs0_
  unfold Uw at hs0_
  try dsimp only
  refine zQ [3,7,8,9,10] ?_
  refine Ze ?_
  refine Zo (t:=(decide (s0_.2 < (a0.length:Int)))) rfl (fun c6 => ?_) (fun c6 => ?_)
  ·replace hs0_:=Zn c6 hs0_
   refine Qd [3,7,8,9] [] ?_
   refine Ze ?_
   refine Z9 ?_
   refine Ze ?_
   obtain ⟨x2,hx2,ax2,bx2,cx2,hs0_⟩:=bE (f:=Zp) Zt2 (fun _=>rfl) (by decide) hs0_
   refine Gc [] ax2 bx2 cx2 ?_
   refine zDs [3,5,7,8,9] [true] ?_
   obtain ⟨y4,hy4,hs0_⟩:=bC hs0_
   refine zCd (Z3t hy4) [3,5,6,7,8,9] [true] ?_
   refine Ze ?_
   refine zQD [5,7,8,9,44] [none,none,none,none,none,none,none,none,none,none,none,none,none,none,none,none] ?_
   refine Zo (t:=(cond (cond (cond (cond (decide (x2.At≤s0_.1)) true (decide (65534 < x2.At))) true (x2.Mask == 0)) true ((IntKind.u64.wrap (Qq .u64 x2.Old (IntKind.u64.wrap (Zn2 .u64 (if IntKind.signed .u64=true then -1 else IntKind.max .u64) y4)))) != 0)) true ((IntKind.u64.wrap (Qq .u64 x2.New (IntKind.u64.wrap (Zn2 .u64 (if IntKind.signed .u64=true then -1 else IntKind.max .u64) y4)))) != 0))) rfl (fun c5 => ?_) (fun c5 => ?_)
   ·replace hs0_:=Zn c5 hs0_
    refine zQ [2] ?_
    refine zW ?_
    exact zEy hs0_
   replace hs0_:=Zm c5 hs0_
   refine Qd [5,7,8,9] [true] ?_
   refine zRd [3,7,8,9] [false] ?_
   refine zR ?_
   exact Gv hs0_
  replace hs0_:=Zm c6 hs0_
  exact zEx hs0_
 rcases z7 with z7 | z7
 ·dsimp only [X8] at hw h
  refine Jv hw ?_
  try simp only [Y1,Yc,↓reduceIte,Nat.reduceEqDiff]
  obtain rfl:=sI h
  refine Zg (.inr rfl) hU [(vB false)] (by omega) ?_
  simp only [push_cast,seval,↓reduceIte,Zc,Tryz.results168,hN0,hN]
 dsimp only [X8] at hw h
 refine Yj hw ?_
 try simp only [Y1,Yc,↓reduceIte,Nat.reduceEqDiff]
 refine zD [] [] ?_
 refine zQ [2] ?_
 refine zW ?_
 obtain rfl:=sI h
 refine Zg (.inr rfl) hU [(vB true)] (by omega) ?_
 simp only [push_cast,seval,↓reduceIte,Zc,Tryz.results168,hN0,hN]
theorem Zmu {a0:Int} {a1:Zf} {r:Bool} {O:Objs} {n:Nat} (h:Zdn a0 a1=some r):GTo Tryz.prog 279 [(vI a0),.agg (Zi a1)] O n ((vB r)) O n:=by
 unfold Zdn at h
 refine K6 Zq Tryz.call279 Tryz.func279 rfl fun hU hN0 hN => ?_
 show W _ _ _ _ ⟨33,[],[(0,(vI a0)),(1,.agg (Zi a1))]⟩ (Zw O n []) _
 refine zQ [0,3] ?_
 refine Ze ?_
 refine zQ [3,5] ?_
 refine Z9 ?_
 refine zQ [3,5,6] ?_
 refine Zo (t:=(a0 == 8)) rfl (fun c2 => ?_) (fun c2 => ?_)
 ·replace h:=Zn c2 h
  refine zQ [4] ?_
  refine zW ?_
  obtain rfl:=sI h
  refine Zg (.inr rfl) hU [(vB (a1.Kind != 0))] (by omega) ?_
  simp only [push_cast,seval,↓reduceIte,Zc,Tryz.results279,hN0,hN]
 replace h:=Zm c2 h
 refine zQ [3,11] ?_
 refine Zo (t:=(a0 == 9)) rfl (fun c1 => ?_) (fun c1 => ?_)
 ·replace h:=Zn c1 h
  refine zQD [4] [none,none,none,none,none,none,none,none,none,none,none,none,none,none,none] ?_
  refine zW ?_
  obtain rfl:=sI h
  refine Zg (.inr rfl) hU [(vB (cond (a1.Kind == 2) true (cond (cond (a1.Kind == 1) (a1.Old.Kind == 1) false) (a1.New.Kind == 1) false)))] (by omega) ?_
  simp only [push_cast,seval,↓reduceIte,Zc,Tryz.results279,hN0,hN]
 replace h:=Zm c1 h
 refine Qd [] [false] ?_
 refine zQ [4] ?_
 refine zW ?_
 obtain rfl:=sI h
 refine Zg (.inr rfl) hU [(vB false)] (by omega) ?_
 simp only [push_cast,seval,↓reduceIte,Zc,Tryz.results279,hN0,hN]
theorem Zn4 {a0:Zt} {r:Int} {O:Objs} {n:Nat} (h:Zcl a0=some r):GTo Tryz.prog 280 [.agg (Yy a0)] O n ((vI r)) O n:=by
 unfold Zcl at h
 refine K6 Zq Tryz.call280 Tryz.func280 rfl fun hU hN0 hN => ?_
 show W _ _ _ _ ⟨19,[],[(0,.agg (Yy a0))]⟩ (Zw O n []) _
 refine zQ [1] ?_
 refine Ze ?_
 refine zQ [1,4] ?_
 refine Z9 ?_
 refine zQ [1,4,5] ?_
 refine Zo (t:=(a0.Kind == 0)) rfl (fun c5 => ?_) (fun c5 => ?_)
 ·replace h:=Zn c5 h
  refine zQ [2] ?_
  refine zW ?_
  obtain rfl:=sI h
  refine Zg (.inr rfl) hU [(vI (if 1048576 < (if a0.N < 0 then 0 else a0.N) then 1048576 else (if a0.N < 0 then 0 else a0.N)))] (by omega) ?_
  simp only [push_cast,seval,↓reduceIte,Zc,Tryz.results280,hN0,hN]
 replace h:=Zm c5 h
 obtain ⟨z1,hz1,h⟩:=bC h
 refine Yu (E':=⟨19,[],[(1,.ref n 0),(4,(vI a0.Kind)),(11,(vB z1))]⟩) (O':=(Zw O n [some ⟨false,89,14,1,(Yy a0)⟩])) (n0:=(n+1)) ?_ ?_
 ·refine zQ [1,4,11] ?_
  refine Zo (t:=(a0.Kind == 1)) rfl (fun c2 => ?_) (fun c2 => ?_)
  ·replace hz1:=Zn c2 hz1
   refine zK ?_
   exact Gv hz1
  replace hz1:=Zm c2 hz1
  refine zR ?_
  exact Gv hz1
 refine Zo (t:=z1) rfl (fun c4 => ?_) (fun c4 => ?_)
 ·replace h:=Zn c4 h
  refine zQ [2] ?_
  refine zW ?_
  obtain rfl:=sI h
  refine Zg (.inr rfl) hU [(vI (a0.L.length:Int))] (by omega) ?_
  simp only [push_cast,seval,↓reduceIte,Zc,Tryz.results280,hN0,hN]
 replace h:=Zm c4 h
 refine zQ [17] ?_
 refine Zo (t:=(a0.Kind == 3)) rfl (fun c3 => ?_) (fun c3 => ?_)
 ·replace h:=Zn c3 h
  refine zQ [2] ?_
  refine zW ?_
  obtain rfl:=sI h
  refine Zg (.inr rfl) hU [(vI 1)] (by omega) ?_
  simp only [push_cast,seval,↓reduceIte,Zc,Tryz.results280,hN0,hN]
 replace h:=Zm c3 h
 refine Qd [] [false] ?_
 refine zQ [2] ?_
 refine zW ?_
 obtain rfl:=sI h
 refine Zg (.inr rfl) hU [(vI 0)] (by omega) ?_
 simp only [push_cast,seval,↓reduceIte,Zc,Tryz.results280,hN0,hN]
theorem Zwi {a0:Zf} {r:(Int×Int)} {O:Objs} {n:Nat} (h:Zeu a0=some r):GTo Tryz.prog 231 [.agg (Zi a0)] O n (.tup [(vI r.1),(vI r.2)]) O n:=by
 unfold Zeu at h
 refine K6 Zq Tryz.call231 Tryz.func231 rfl fun hU hN0 hN => ?_
 show W _ _ _ _ ⟨34,[],[(0,.agg (Zi a0))]⟩ (Zw O n []) _
 refine zQ [1] ?_
 refine zQ [1,4,5] ?_
 refine Ze ?_
 refine zQd [4,5,9,10,11] [4,5,9,10,11] [false] ?_
 obtain ⟨z10,hz10,h⟩:=bC h
 refine Yj (E':=⟨34,[],[(4,(vI z10.1)),(5,(vI z10.2))]⟩) (O':=(Zw O n [none])) (n0:=(n+1)) ?_ ?_
 ·refine Y4 hz10 (fun s0_=>⟨34,[],[(4,(vI s0_.1)),(5,(vI s0_.2.1)),(9,(sL Z4 a0.Ops)),(10,(vI (a0.Ops.length:Int))),(11,(vI s0_.2.2))]⟩) (fun s0_=>(Zw O n [none])) (fun z10=>JX 0 n (⟨34,[],[(4,(vI z10.1)),(5,(vI z10.2))]⟩:Env) (Zw O n [none]) (n+1)) ?_
  intro s0_ x0_ hs0_
  unfold Zbf at hs0_
  try dsimp only
  refine zQ [4,5,9,10,11,12] ?_
  refine Ze ?_
  refine Zo (t:=(decide (s0_.2.2 < (a0.Ops.length:Int)))) rfl (fun c9 => ?_) (fun c9 => ?_)
  ·replace hs0_:=Zn c9 hs0_
   refine Qd [4,5,9,10,11] [false] ?_
   obtain ⟨z1,hz1,hs0_⟩:=bC hs0_
   refine Yu (E':=⟨34,[],[(4,(vI z1.1)),(5,(vI z1.2)),(9,(sL Z4 a0.Ops)),(10,(vI (a0.Ops.length:Int))),(11,(vI s0_.2.2))]⟩) (O':=(Zw O n [none,none])) (n0:=(n+2)) ?_ ?_
   ·refine Z9 ?_
    refine Ze ?_
    obtain ⟨x3,hx3,ax3,bx3,cx3,hz1⟩:=bE (f:=Z4) Zps (fun _=>rfl) (by decide) hz1
    refine Gc [] ax3 bx3 cx3 ?_
    refine zD [4,5,7,9,10,11] [false,true] ?_
    obtain ⟨z4,hz4,hz1⟩:=bC hz1
    refine Yu (E':=⟨34,[],[(4,(vI z4)),(5,(vI s0_.2.1)),(7,.ref (n+1) 0),(9,(sL Z4 a0.Ops)),(10,(vI (a0.Ops.length:Int))),(11,(vI s0_.2.2))]⟩) (O':=(Zw O n [none,some ⟨false,89,14,1,(Yy x3)⟩])) (n0:=(n+2)) ?_ ?_
    ·refine zQ [4,5,7,9,10,11,17] ?_
     refine Zo (t:=(x3.Kind != 2)) rfl (fun c6 => ?_) (fun c6 => ?_)
     ·replace hz4:=Zn c6 hz4
      obtain ⟨y5,hy5,hz4⟩:=bC hz4
      refine zC (Zn4 hy5) ?_
      exact Gv hz4
     replace hz4:=Zm c6 hz4
     refine zK ?_
     exact Gv hz4
    refine zQ [4,5,7,9,10,11,25] ?_
    refine Zo (t:=(x3.Kind != 1)) rfl (fun c8 => ?_) (fun c8 => ?_)
    ·replace hz1:=Zn c8 hz1
     obtain ⟨y7,hy7,hz1⟩:=bC hz1
     refine zC (Zn4 hy7) ?_
     exact Gv hz1
    replace hz1:=Zm c8 hz1
    refine zK ?_
    exact Gv hz1
   refine zR ?_
   exact Gv hs0_
  replace hs0_:=Zm c9 hs0_
  exact zEx hs0_
 try simp only [Y1,Yc,↓reduceIte,Nat.reduceEqDiff]
 refine zD [4,5] [false] ?_
 refine zQ [2,3] ?_
 refine zW ?_
 obtain rfl:=sI h
 refine Zg (.inr rfl) hU [(vI z10.1),(vI z10.2)] (by omega) ?_
 simp only [push_cast,seval,↓reduceIte,Zc,Tryz.results231,hN0,hN]
def Gj (Y5:(Zf→Option Bool)):Prop:=∀ {a0:Zf} {r:Bool} {O:Objs} {n:Nat},Y5 a0=some r→GTo Tryz.prog 59 [.agg (Zi a0)] O n ((vB r)) O n
def Gk (Yz:(Zf→Int→Option Bool)):Prop:=∀ {a0:Zf} {a1:Int} {r:Bool} {O:Objs} {n:Nat},Yz a0 a1=some r→GTo Tryz.prog 104 [.agg (Zi a0),(vI a1)] O n ((vB r)) O n
def Jy (Yf:((List Zl)→Int→Option Bool)):Prop:=∀ {a0:(List Zl)} {a1:Int} {r:Bool} {O:Objs} {n:Nat},Yf a0 a1=some r→GTo Tryz.prog 169 [(sL Zr a0),(vI a1)] O n ((vB r)) O n
def K1 (Yn:(Zf→Int→Option Bool)):Prop:=∀ {a0:Zf} {a1:Int} {r:Bool} {O:Objs} {n:Nat},Yn a0 a1=some r→GTo Tryz.prog 170 [.agg (Zi a0),(vI a1)] O n ((vB r)) O n
def Vh (Yo:(Int→Zt→Int→Option Bool)):Prop:=∀ {a0:Int} {a1:Zt} {a2:Int} {r:Bool} {O:Objs} {n:Nat},Yo a0 a1 a2=some r→GTo Tryz.prog 230 [(vI a0),.agg (Yy a1),(vI a2)] O n ((vB r)) O n
def Jz (Yb:(Bool→Bool→Bool→Zt→Option Bool)):Prop:=∀ {a0:Bool} {a1:Bool} {a2:Bool} {a3:Zt} {r:Bool} {O:Objs} {n:Nat},Yb a0 a1 a2 a3=some r→GTo Tryz.prog 278 [(vB a0),(vB a1),(vB a2),.ip (Yy a3) 0] O n ((vB r)) O n
theorem Zya {Y5:(Zf→Option Bool)} {Yz:(Zf→Int→Option Bool)} {Yf:((List Zl)→Int→Option Bool)} {Yn:(Zf→Int→Option Bool)} {Yo:(Int→Zt→Int→Option Bool)} {Yb:(Bool→Bool→Bool→Zt→Option Bool)} (Ks:Gj Y5) (Vo:Gk Yz) (Vl:Jy Yf) (Ua:K1 Yn) (U6:Vh Yo) (Xp:Jz Yb) {a0:Zf} {r:Bool} {O:Objs} {n:Nat} (h:Zhe Y5 Yz Yf Yn Yo Yb a0=some r):GTo Tryz.prog 59 [.agg (Zi a0)] O n ((vB r)) O n:=by
 unfold Zhe at h
 refine K6 Zq Tryz.call59 Tryz.func59 rfl fun hU hN0 hN => ?_
 show W _ _ _ _ ⟨5,[],[(0,.agg (Zi a0))]⟩ (Zw O n []) _
 refine zQ [1] ?_
 refine Ze ?_
 obtain ⟨y2,hy2,h⟩:=bC h
 refine zCd (Vo hy2) [2] [false] ?_
 refine zW ?_
 obtain rfl:=sI h
 refine Zg (.inr rfl) hU [(vB y2)] (by omega) ?_
 simp only [push_cast,seval,↓reduceIte,Zc,Tryz.results59,hN0,hN]
theorem Zyb {Y5:(Zf→Option Bool)} {Yz:(Zf→Int→Option Bool)} {Yf:((List Zl)→Int→Option Bool)} {Yn:(Zf→Int→Option Bool)} {Yo:(Int→Zt→Int→Option Bool)} {Yb:(Bool→Bool→Bool→Zt→Option Bool)} (Ks:Gj Y5) (Vo:Gk Yz) (Vl:Jy Yf) (Ua:K1 Yn) (U6:Vh Yo) (Xp:Jz Yb) {a0:Zf} {a1:Int} {r:Bool} {O:Objs} {n:Nat} (h:Zhf Y5 Yz Yf Yn Yo Yb a0 a1=some r):GTo Tryz.prog 104 [.agg (Zi a0),(vI a1)] O n ((vB r)) O n:=by
 unfold Zhf at h
 refine K6 Zq Tryz.call104 Tryz.func104 rfl fun hU hN0 hN => ?_
 show W _ _ _ _ ⟨55,[],[(0,.agg (Zi a0)),(1,(vI a1))]⟩ (Zw O n []) _
 refine zQ [1,2] ?_
 refine Ze ?_
 refine zQ [1,2,7] ?_
 refine Zo (t:=(a1 == 0)) rfl (fun c39 => ?_) (fun c39 => ?_)
 ·replace h:=Zn c39 h
  refine zQ [4] ?_
  refine zW ?_
  obtain rfl:=sI h
  refine Zg (.inr rfl) hU [(vB false)] (by omega) ?_
  simp only [push_cast,seval,↓reduceIte,Zc,Tryz.results104,hN0,hN]
 replace h:=Zm c39 h
 refine Qd [1,2] [true] ?_
 refine Ki ⟨55,[],[(1,(vI a1)),(2,.ip (Zi a0) 0)]⟩ (Zw O n [none]) (Z6 hU rfl rfl ?_) ?_
 ·exact Gl
 refine zQ [1,2,5] ?_
 refine Ze ?_
 refine zQ [1,2,5,10] ?_
 refine Z9 ?_
 refine zQ [1,2,5,10,11] ?_
 refine Zo (t:=(a0.Kind == 0)) rfl (fun c38 => ?_) (fun c38 => ?_)
 ·replace h:=Zn c38 h
  refine Ze ?_
  obtain ⟨y2,hy2,h⟩:=bC h
  refine zR ?_
  refine GCalls.argsW ?_ ((Kr hy2).then ?_)
  ·exact Gl
  refine zS ?_
  refine zD [4] [false] ?_
  refine zW ?_
  obtain rfl:=sI h
  refine Zg (.inr rfl) hU [(vB y2)] (by omega) ?_
  simp only [push_cast,seval,↓reduceIte,Zc,Tryz.results104,hN0,hN]
 replace h:=Zm c38 h
 refine zQ [1,2,5,10,15] ?_
 refine Zo (t:=(a0.Kind == 1)) rfl (fun c37 => ?_) (fun c37 => ?_)
 ·replace h:=Zn c37 h
  obtain ⟨z6,hz6,h⟩:=bC h
  refine Yu (E':=⟨55,[],[(4,(vB z6))]⟩) (O':=(Zw O n [none])) (n0:=(n+1)) ?_ ?_
  ·obtain ⟨y10,hy10,hz6⟩:=bC hz6
   rcases Bool.eq_false_or_eq_true y10 with Kj | Kj
   ·replace hz6:=Zn Kj hz6
    obtain ⟨y11,hy11,hz6⟩:=bC hz6
    rcases Bool.eq_false_or_eq_true y11 with Qk | Qk
    ·replace hz6:=Zn Qk hz6
     try rw [Qk] at Kj
     obtain ⟨y12,hy12,hz6⟩:=bC hz6
     refine Xy [some true,some true,some true,some true,some true,some true] Kj Qk ?_
     refine GCalls.argsW ?_ ((Kr hy10).then ?_)
     ·exact Q4 Kj Qk
     refine zX2 Kj Qk ?_
     refine (Zl8 hy11).then ?_
     refine zX2 Kj Qk ?_
     refine (Zl8 hy12).then ?_
     refine zX2 Kj Qk ?_
     exact Zbo hz6 Kj Qk
    replace hz6:=Zm Qk hz6
    try rw [Qk] at Kj
    refine Xy [some true,some true,some true,some false,some false,some false] Kj Qk ?_
    refine GCalls.argsW ?_ ((Kr hy10).then ?_)
    ·exact Q4 Kj Qk
    refine zX2 Kj Qk ?_
    refine (Zl8 hy11).then ?_
    refine zX2 Kj Qk ?_
    exact Zbo hz6 Kj Qk
   replace hz6:=Zm Kj hz6
   refine Q2 [some false,some false,some false,some false,some false,some false] Kj ?_
   refine GCalls.argsW ?_ ((Kr hy10).then ?_)
   ·exact Yc4 Kj
   refine zX1 Kj ?_
   exact Qf hz6 Kj
  refine zW ?_
  obtain rfl:=sI h
  refine Zg (.inr rfl) hU [(vB z6)] (by omega) ?_
  simp only [push_cast,seval,↓reduceIte,Zc,Tryz.results104,hN0,hN]
 replace h:=Zm c37 h
 refine zQ [1,2,5,10,29] ?_
 refine Zo (t:=(a0.Kind == 2)) rfl (fun c36 => ?_) (fun c36 => ?_)
 ·replace h:=Zn c36 h
  obtain ⟨z18,hz18,h⟩:=bC h
  refine Yu (E':=⟨55,[],[(4,(vB z18))]⟩) (O':=(Zw O n [none])) (n0:=(n+1)) ?_ ?_
  ·obtain ⟨y22,hy22,hz18⟩:=bC hz18
   rcases Bool.eq_false_or_eq_true y22 with c25 | c25
   ·replace hz18:=Zn c25 hz18
    obtain ⟨y23,hy23,hz18⟩:=bC hz18
    rcases Bool.eq_false_or_eq_true y23 with c26 | c26
    ·replace hz18:=Zn c26 hz18
     try rw [c26] at c25
     obtain ⟨y24,hy24,hz18⟩:=bC hz18
     refine Xy [some true,some true,some true,some true,some true,some true,some true,some true] c25 c26 ?_
     refine GCalls.argsW ?_ ((Kr hy22).then ?_)
     ·exact Q4 c25 c26
     refine zX2 c25 c26 ?_
     refine (Zkv hy23).then ?_
     refine zX2 c25 c26 ?_
     refine (Vl hy24).then ?_
     refine zX2 c25 c26 ?_
     exact Zbo hz18 c25 c26
    replace hz18:=Zm c26 hz18
    try rw [c26] at c25
    refine Xy [some true,some true,some true,some false,some false,some false,some false,some false] c25 c26 ?_
    refine GCalls.argsW ?_ ((Kr hy22).then ?_)
    ·exact Q4 c25 c26
    refine zX2 c25 c26 ?_
    refine (Zkv hy23).then ?_
    refine zX2 c25 c26 ?_
    exact Zbo hz18 c25 c26
   replace hz18:=Zm c25 hz18
   refine Q2 [some false,some false,some false,some false,some false,some false,some false,some false] c25 ?_
   refine GCalls.argsW ?_ ((Kr hy22).then ?_)
   ·exact Yc4 c25
   refine zX1 c25 ?_
   exact Qf hz18 c25
  refine zW ?_
  obtain rfl:=sI h
  refine Zg (.inr rfl) hU [(vB z18)] (by omega) ?_
  simp only [push_cast,seval,↓reduceIte,Zc,Tryz.results104,hN0,hN]
 replace h:=Zm c36 h
 refine zQ [1,2,5,45] ?_
 refine Zo (t:=(a0.Kind == 3)) rfl (fun c35 => ?_) (fun c35 => ?_)
 ·replace h:=Zn c35 h
  obtain ⟨z29,hz29,h⟩:=bC h
  refine Yu (E':=⟨55,[],[(4,(vB z29))]⟩) (O':=(Zw O n [none])) (n0:=(n+1)) ?_ ?_
  ·obtain ⟨y32,hy32,hz29⟩:=bC hz29
   rcases Bool.eq_false_or_eq_true y32 with c34 | c34
   ·replace hz29:=Zn c34 hz29
    obtain ⟨y33,hy33,hz29⟩:=bC hz29
    refine Q2 [some true,some true,some true,some true] c34 ?_
    refine GCalls.argsW ?_ ((Kr hy32).then ?_)
    ·exact Yc4 c34
    refine zX1 c34 ?_
    refine (Ua hy33).then ?_
    refine zX1 c34 ?_
    exact Qf hz29 c34
   replace hz29:=Zm c34 hz29
   refine Q2 [some false,some false,some false,some false] c34 ?_
   refine GCalls.argsW ?_ ((Kr hy32).then ?_)
   ·exact Yc4 c34
   refine zX1 c34 ?_
   exact Qf hz29 c34
  refine zW ?_
  obtain rfl:=sI h
  refine Zg (.inr rfl) hU [(vB z29)] (by omega) ?_
  simp only [push_cast,seval,↓reduceIte,Zc,Tryz.results104,hN0,hN]
 replace h:=Zm c35 h
 refine Qd [] [false] ?_
 refine zQ [4] ?_
 refine zW ?_
 obtain rfl:=sI h
 refine Zg (.inr rfl) hU [(vB false)] (by omega) ?_
 simp only [push_cast,seval,↓reduceIte,Zc,Tryz.results104,hN0,hN]
theorem Zr5 {Y5:(Zf→Option Bool)} {Yz:(Zf→Int→Option Bool)} {Yf:((List Zl)→Int→Option Bool)} {Yn:(Zf→Int→Option Bool)} {Yo:(Int→Zt→Int→Option Bool)} {Yb:(Bool→Bool→Bool→Zt→Option Bool)} (Ks:Gj Y5) (Vo:Gk Yz) (Vl:Jy Yf) (Ua:K1 Yn) (U6:Vh Yo) (Xp:Jz Yb) {a0:(List Zl)} {a1:Int} {r:Bool} {O:Objs} {n:Nat} (h:Zb8 Y5 Yz Yf Yn Yo Yb a0 a1=some r):GTo Tryz.prog 169 [(sL Zr a0),(vI a1)] O n ((vB r)) O n:=by
 unfold Zb8 at h
 refine K6 Zq Tryz.call169 Tryz.func169 rfl fun hU hN0 hN => ?_
 show W _ _ _ _ ⟨39,[],[(0,(sL Zr a0)),(1,(vI a1))]⟩ (Zw O n []) _
 refine zQ [0,1] ?_
 refine zQ [0,1,5] ?_
 refine Ze ?_
 refine zQd [1,5,8,9,10] [1,5,8,9,10] [] ?_
 obtain ⟨z12,hz12,h⟩:=bC h
 refine Zaw (J:=(X8 (fun z12=>JR n (⟨39,[],[(4,(vB false))]⟩:Env) (Zw O n []) n) (fun z12=>JX 0 n (⟨39,[],[]⟩:Env) (Zw O n []) n))) (z:=z12) ?_ fun hw => ?_
 ·refine Y4 hz12 (fun s0_=>⟨39,[],[(1,(vI a1)),(5,(vI s0_.1)),(8,(sL Zr a0)),(9,(vI (a0.length:Int))),(10,(vI s0_.2))]⟩) (fun s0_=>(Zw O n [])) (X8 (fun z12=>JR n (⟨39,[],[(4,(vB false))]⟩:Env) (Zw O n []) n) (fun z12=>JX 0 n (⟨39,[],[]⟩:Env) (Zw O n []) n)) ?_
  intro s0_ x0_ hs0_
  unfold Gn at hs0_
  try dsimp only
  refine zQ [1,5,8,9,10,11] ?_
  refine Ze ?_
  refine Zo (t:=(decide (s0_.2 < (a0.length:Int)))) rfl (fun c11 => ?_) (fun c11 => ?_)
  ·replace hs0_:=Zn c11 hs0_
   refine Qd [1,5,8,9,10] [] ?_
   refine Ze ?_
   refine Z9 ?_
   refine Ze ?_
   obtain ⟨x2,hx2,ax2,bx2,cx2,hs0_⟩:=bE (f:=Zr) Zt3 (fun _=>rfl) (by decide) hs0_
   refine Gc [] ax2 bx2 cx2 ?_
   refine zDs [1,5,7,8,9,10] [true] ?_
   obtain ⟨z4,hz4,hs0_⟩:=bC hs0_
   refine Yu (E':=⟨39,[],[(1,(vI a1)),(7,.ref n 0),(8,(sL Zr a0)),(9,(vI (a0.length:Int))),(10,(vI s0_.2)),(35,(vB z4))]⟩) (O':=(Zw O n [some ⟨false,86,12,1,(Ge x2)⟩])) (n0:=(n+1)) ?_ ?_
   ·rcases Bool.eq_false_or_eq_true (decide (x2.At≤s0_.1)) with c7 | c7
    ·replace hz4:=Zn c7 hz4
     refine Q2 [none,none,none,none,none,none,none,some false,some false,some false,some false,some false] c7 ?_
     refine zG ?_
     exact Qf hz4 c7
    replace hz4:=Zm c7 hz4
    rcases Bool.eq_false_or_eq_true (decide (65534 < x2.At)) with c8 | c8
    ·replace hz4:=Zn c8 hz4
     try rw [c8] at c7
     refine Xy [none,none,none,none,none,none,none,some false,some false,some false,some false,some false] c7 c8 ?_
     refine zG ?_
     exact Zbo hz4 c7 c8
    replace hz4:=Zm c8 hz4
    try rw [c8] at c7
    rcases Bool.eq_false_or_eq_true (x2.E.Kind == 0) with c9 | c9
    ·replace hz4:=Zn c9 hz4
     try rw [c9] at c7
     try rw [c9] at c8
     refine Gu [none,none,none,none,none,none,none,some false,some false,some false,some false,some false] c7 c8 c9 ?_
     refine zG ?_
     exact Zfk hz4 c7 c8 c9
    replace hz4:=Zm c9 hz4
    try rw [c9] at c7
    try rw [c9] at c8
    obtain ⟨y6,hy6,hz4⟩:=bC hz4
    refine Gu [none,none,none,none,none,none,none,some true,some true,some true,some true,some true] c7 c8 c9 ?_
    refine zG ?_
    refine (Vo hy6).then ?_
    refine zX3 c7 c8 c9 ?_
    refine zG ?_
    exact Zfk hz4 c7 c8 c9
   refine Zo (t:=z4) rfl (fun c10 => ?_) (fun c10 => ?_)
   ·replace hs0_:=Zn c10 hs0_
    refine zQ [4] ?_
    refine zW ?_
    exact zEy hs0_
   replace hs0_:=Zm c10 hs0_
   refine Qd [1,7,8,9,10] [true] ?_
   refine zRd [1,5,8,9,10] [false] ?_
   refine zR ?_
   exact Gv hs0_
  replace hs0_:=Zm c11 hs0_
  exact zEx hs0_
 rcases z12 with z12 | z12
 ·dsimp only [X8] at hw h
  refine Jv hw ?_
  try simp only [Y1,Yc,↓reduceIte,Nat.reduceEqDiff]
  obtain rfl:=sI h
  refine Zg (.inr rfl) hU [(vB false)] (by omega) ?_
  simp only [push_cast,seval,↓reduceIte,Zc,Tryz.results169,hN0,hN]
 dsimp only [X8] at hw h
 refine Yj hw ?_
 try simp only [Y1,Yc,↓reduceIte,Nat.reduceEqDiff]
 refine zD [] [] ?_
 refine zQ [4] ?_
 refine zW ?_
 obtain rfl:=sI h
 refine Zg (.inr rfl) hU [(vB true)] (by omega) ?_
 simp only [push_cast,seval,↓reduceIte,Zc,Tryz.results169,hN0,hN]
theorem Ztj {Y5:(Zf→Option Bool)} {Yz:(Zf→Int→Option Bool)} {Yf:((List Zl)→Int→Option Bool)} {Yn:(Zf→Int→Option Bool)} {Yo:(Int→Zt→Int→Option Bool)} {Yb:(Bool→Bool→Bool→Zt→Option Bool)} (Ks:Gj Y5) (Vo:Gk Yz) (Vl:Jy Yf) (Ua:K1 Yn) (U6:Vh Yo) (Xp:Jz Yb) {a0:Zf} {a1:Int} {r:Bool} {O:Objs} {n:Nat} (h:Zdg Y5 Yz Yf Yn Yo Yb a0 a1=some r):GTo Tryz.prog 170 [.agg (Zi a0),(vI a1)] O n ((vB r)) O n:=by
 unfold Zdg at h
 refine K6 Zq Tryz.call170 Tryz.func170 rfl fun hU hN0 hN => ?_
 show W _ _ _ _ ⟨38,[],[(0,.agg (Zi a0)),(1,(vI a1))]⟩ (Zw O n []) _
 refine zQ [1,2] ?_
 refine Ze ?_
 refine Ze ?_
 obtain ⟨y2,hy2,h⟩:=bC h
 refine zCd (Znm hy2) [1,2,12] [true] ?_
 refine Zo (t:=(!y2)) rfl (fun c12 => ?_) (fun c12 => ?_)
 ·replace h:=Zn c12 h
  refine zQ [4] ?_
  refine zW ?_
  obtain rfl:=sI h
  refine Zg (.inr rfl) hU [(vB false)] (by omega) ?_
  simp only [push_cast,seval,↓reduceIte,Zc,Tryz.results170,hN0,hN]
 replace h:=Zm c12 h
 refine Qd [1,2] [true] ?_
 refine Ze ?_
 refine zQd [1,2,14,15,16] [1,2,14,15,16] [true] ?_
 obtain ⟨z9,hz9,h⟩:=bC h
 refine Zaw (J:=(X8 (fun z9=>JR n (⟨38,[],[(4,(vB false))]⟩:Env) (Zw O n [none]) (n+1)) (fun z9=>JX 0 n (⟨38,[],[(2,.ref n 0)]⟩:Env) (Zw O n [some ⟨false,30,11,1,(Zi a0)⟩]) (n+1)))) (z:=z9) ?_ fun hw => ?_
 ·refine Y4 hz9 (fun s0_=>⟨38,[],[(1,(vI a1)),(2,.ref n 0),(14,(sL Z4 a0.Ops)),(15,(vI (a0.Ops.length:Int))),(16,(vI s0_))]⟩) (fun s0_=>(Zw O n [some ⟨false,30,11,1,(Zi a0)⟩])) (X8 (fun z9=>JR n (⟨38,[],[(4,(vB false))]⟩:Env) (Zw O n [none]) (n+1)) (fun z9=>JX 0 n (⟨38,[],[(2,.ref n 0)]⟩:Env) (Zw O n [some ⟨false,30,11,1,(Zi a0)⟩]) (n+1))) ?_
  intro s0_ x0_ hs0_
  unfold Zad at hs0_
  try dsimp only
  refine zQ [1,2,14,15,16,17] ?_
  refine Ze ?_
  refine Zo (t:=(decide (s0_ < (a0.Ops.length:Int)))) rfl (fun c8 => ?_) (fun c8 => ?_)
  ·replace hs0_:=Zn c8 hs0_
   refine Qd [1,2,14,15,16] [true] ?_
   refine Ze ?_
   refine Z9 ?_
   refine Ze ?_
   obtain ⟨x4,hx4,ax4,bx4,cx4,hs0_⟩:=bE (f:=Z4) Zps (fun _=>rfl) (by decide) hs0_
   refine Gc [] ax4 bx4 cx4 ?_
   refine zDs [1,2,6,14,15,16] [true,true] ?_
   obtain ⟨y6,hy6,hs0_⟩:=bC hs0_
   refine zCd (U6 hy6) [1,2,14,15,16,25] [true,false] ?_
   refine Zo (t:=(!y6)) rfl (fun c7 => ?_) (fun c7 => ?_)
   ·replace hs0_:=Zn c7 hs0_
    refine zQ [4] ?_
    refine zW ?_
    exact zEy hs0_
   replace hs0_:=Zm c7 hs0_
   refine Qd [1,2,14,15,16] [true,false] ?_
   refine zR ?_
   exact Gv hs0_
  replace hs0_:=Zm c8 hs0_
  exact zEx hs0_
 rcases z9 with z9 | z9
 ·dsimp only [X8] at hw h
  refine Jv hw ?_
  try simp only [Y1,Yc,↓reduceIte,Nat.reduceEqDiff]
  obtain rfl:=sI h
  refine Zg (.inr rfl) hU [(vB false)] (by omega) ?_
  simp only [push_cast,seval,↓reduceIte,Zc,Tryz.results170,hN0,hN]
 dsimp only [X8] at hw h
 refine Yj hw ?_
 try simp only [Y1,Yc,↓reduceIte,Nat.reduceEqDiff]
 refine zDs [2] [true] ?_
 obtain ⟨y11,hy11,h⟩:=bC h
 refine zCd (Zwi hy11) [7,8] [false] ?_
 refine zQD [4] [none,none] ?_
 refine zW ?_
 obtain rfl:=sI h
 refine Zg (.inr rfl) hU [(vB (cond (decide (y11.1 < 1048576)) (decide (y11.2 < 1048576)) false))] (by omega) ?_
 simp only [push_cast,seval,↓reduceIte,Zc,Tryz.results170,hN0,hN]
theorem Zvb {Y5:(Zf→Option Bool)} {Yz:(Zf→Int→Option Bool)} {Yf:((List Zl)→Int→Option Bool)} {Yn:(Zf→Int→Option Bool)} {Yo:(Int→Zt→Int→Option Bool)} {Yb:(Bool→Bool→Bool→Zt→Option Bool)} (Ks:Gj Y5) (Vo:Gk Yz) (Vl:Jy Yf) (Ua:K1 Yn) (U6:Vh Yo) (Xp:Jz Yb) {a0:Int} {a1:Zt} {a2:Int} {r:Bool} {O:Objs} {n:Nat} (h:Zej Y5 Yz Yf Yn Yo Yb a0 a1 a2=some r):GTo Tryz.prog 230 [(vI a0),.agg (Yy a1),(vI a2)] O n ((vB r)) O n:=by
 unfold Zej at h
 refine K6 Zq Tryz.call230 Tryz.func230 rfl fun hU hN0 hN => ?_
 show W _ _ _ _ ⟨60,[],[(0,(vI a0)),(1,.agg (Yy a1)),(2,(vI a2))]⟩ (Zw O n []) _
 refine zQ [0,2,4] ?_
 refine Ki ⟨60,[],[(0,(vI a0)),(2,(vI a2)),(4,.ip (Yy a1) 0)]⟩ (Zw O n [none]) (Z6 hU rfl rfl ?_) ?_
 ·exact Gl
 refine zQ [0,2,4,7] ?_
 refine Ze ?_
 refine zQ [0,2,4,7,10] ?_
 refine Z9 ?_
 refine Ze ?_
 refine Z9 ?_
 obtain ⟨z1,hz1,h⟩:=bC h
 refine Yhn (J:=(X8 (fun z1=>JN n (⟨60,[],[(0,(vI a0)),(4,.ip (Yy a1) 0),(7,.fn 278 0 [.ip (Yy a1) 0])]⟩:Env) (Zw O n [none]) (n+1)) (X8 (fun z1=>JR n (⟨60,[],[(6,(vB z1))]⟩:Env) (Zw O n [none]) (n+1)) (X8 (fun z1=>JX 4 n (⟨60,[],[(0,(vI a0)),(2,(vI a2)),(4,.ip (Yy a1) 0),(7,.fn 278 0 [.ip (Yy a1) 0])]⟩:Env) (Zw O n [none]) (n+1)) (fun z1=>JX 0 n (⟨60,[],[]⟩:Env) (Zw O n [none]) (n+1)))))) (z:=z1) ?_ fun hw => ?_
 ·refine Z9 ?_
  refine Z9 ?_
  refine Ze ?_
  refine Z9 ?_
  refine Ze ?_
  refine Ze ?_
  refine zQ [0,2,4,7,10,11] ?_
  refine Zo (t:=(a1.Kind == 0)) rfl (fun c7 => ?_) (fun c7 => ?_)
  ·replace hz1:=Zn c7 hz1
   refine zXt ?_
   refine zDs [4,7] [false] ?_
   refine Ze ?_
   obtain ⟨y3,hy3,hz1⟩:=bC hz1
   refine zRo [none,none,none,none,none,none] ?_
   refine zG ?_
   refine GCalls.argsW ?_ ((Xp hy3).then ?_)
   ·exact Gl
   refine zS ?_
   refine zG ?_
   refine zD [6] [false] ?_
   refine zW ?_
   exact Gv hz1
  replace hz1:=Zm c7 hz1
  refine Qd [0,2,4,7,10] [false] ?_
  refine Ze ?_
  refine zQ [0,2,4,7,10,13] ?_
  refine Zo (t:=(a1.Kind == 1)) rfl (fun c6 => ?_) (fun c6 => ?_)
  ·replace hz1:=Zn c6 hz1
   refine zXt ?_
   exact Gv hz1
  replace hz1:=Zm c6 hz1
  refine Qd [0,2,4,7,10] [false] ?_
  refine Ze ?_
  refine zQ [0,2,4,7,10,15] ?_
  refine Zo (t:=(a1.Kind == 2)) rfl (fun c5 => ?_) (fun c5 => ?_)
  ·replace hz1:=Zn c5 hz1
   refine zXt ?_
   exact Gv hz1
  replace hz1:=Zm c5 hz1
  refine Qd [0,2,4,7,10] [false] ?_
  refine zQ [0,2,4,7,17] ?_
  refine Zo (t:=(a1.Kind == 3)) rfl (fun c4 => ?_) (fun c4 => ?_)
  ·replace hz1:=Zn c4 hz1
   refine zXt ?_
   exact Gv hz1
  replace hz1:=Zm c4 hz1
  refine Qd [] [false] ?_
  refine zXt ?_
  exact Gv hz1
 rcases z1 with z1 | z1
 ·dsimp only [X8] at hw h
  refine Yu hw ?_
  refine Ze ?_
  obtain ⟨z10,hz10,h⟩:=bC h
  refine Yu (E':=⟨60,[],[(6,(vB z10))]⟩) (O':=(Zw O n [none])) (n0:=(n+1)) ?_ ?_
  ·obtain ⟨y13,hy13,hz10⟩:=bC hz10
   rcases Bool.eq_false_or_eq_true y13 with K9 | K9
   ·replace hz10:=Zn K9 hz10
    rcases Bool.eq_false_or_eq_true (decide (0 < (a1.L.length:Int))) with c16 | c16
    ·replace hz10:=Zn c16 hz10
     try rw [c16] at K9
     obtain ⟨y14,hy14,hz10⟩:=bC hz10
     refine Xy [none,none,none,none,some true,some true,some true,some true,some true] K9 c16 ?_
     refine zG ?_
     refine GCalls.argsW ?_ ((Xp hy13).then ?_)
     ·exact Q4 K9 c16
     refine zX2 K9 c16 ?_
     refine zG ?_
     refine GCalls.argsW ?_ ((Zmb hy14).then ?_)
     ·exact Q4 K9 c16
     refine zX2 K9 c16 ?_
     refine zG ?_
     exact Zbo hz10 K9 c16
    replace hz10:=Zm c16 hz10
    try rw [c16] at K9
    refine Xy [none,none,none,none,some false,some false,some false,some false,some false] K9 c16 ?_
    refine zG ?_
    refine GCalls.argsW ?_ ((Xp hy13).then ?_)
    ·exact Q4 K9 c16
    refine zX2 K9 c16 ?_
    refine zG ?_
    exact Zbo hz10 K9 c16
   replace hz10:=Zm K9 hz10
   refine Q2 [none,none,none,none,some false,some false,some false,some false,some false] K9 ?_
   refine zG ?_
   refine GCalls.argsW ?_ ((Xp hy13).then ?_)
   ·exact Yc4 K9
   refine zX1 K9 ?_
   refine zG ?_
   exact Qf hz10 K9
  refine zW ?_
  obtain rfl:=sI h
  refine Zg (.inr rfl) hU [(vB z10)] (by omega) ?_
  simp only [push_cast,seval,↓reduceIte,Zc,Tryz.results230,hN0,hN]
 rcases z1 with z1 | z1
 ·dsimp only [X8] at hw h
  refine Yc6 hw ?_
  try simp only [Y1,Yc]
  obtain rfl:=sI h
  refine Zg (.inr rfl) hU [(vB z1)] (by omega) ?_
  simp only [push_cast,seval,↓reduceIte,Zc,Tryz.results230,hN0,hN]
 rcases z1 with z1 | z1
 ·dsimp only [X8] at hw h
  refine Yc7 hw ?_
  try simp only [Y1,Yc,↓reduceIte,Nat.reduceEqDiff]
  refine zDs [0,2,4,7] [false] ?_
  obtain ⟨z20,hz20,h⟩:=bC h
  refine Yu (E':=⟨60,[],[(6,(vB z20))]⟩) (O':=(Zw O n [none])) (n0:=(n+1)) ?_ ?_
  ·obtain ⟨y24,hy24,hz20⟩:=bC hz20
   rcases Bool.eq_false_or_eq_true y24 with c27 | c27
   ·replace hz20:=Zn c27 hz20
    obtain ⟨y25,hy25,hz20⟩:=bC hz20
    rcases Bool.eq_false_or_eq_true y25 with c28 | c28
    ·replace hz20:=Zn c28 hz20
     try rw [c28] at c27
     obtain ⟨y26,hy26,hz20⟩:=bC hz20
     refine Xy [some true,some true,some true,some true,some true,some true,some true,some true] c27 c28 ?_
     refine GCalls.argsW ?_ ((Xp hy24).then ?_)
     ·exact Q4 c27 c28
     refine zX2 c27 c28 ?_
     refine (Zmu hy25).then ?_
     refine zX2 c27 c28 ?_
     refine (Vo hy26).then ?_
     refine zX2 c27 c28 ?_
     exact Zbo hz20 c27 c28
    replace hz20:=Zm c28 hz20
    try rw [c28] at c27
    refine Xy [some true,some true,some true,some true,some false,some false,some false,some false] c27 c28 ?_
    refine GCalls.argsW ?_ ((Xp hy24).then ?_)
    ·exact Q4 c27 c28
    refine zX2 c27 c28 ?_
    refine (Zmu hy25).then ?_
    refine zX2 c27 c28 ?_
    exact Zbo hz20 c27 c28
   replace hz20:=Zm c27 hz20
   refine Q2 [some false,some false,some false,some false,some false,some false,some false,some false] c27 ?_
   refine GCalls.argsW ?_ ((Xp hy24).then ?_)
   ·exact Yc4 c27
   refine zX1 c27 ?_
   exact Qf hz20 c27
  refine zW ?_
  obtain rfl:=sI h
  refine Zg (.inr rfl) hU [(vB z20)] (by omega) ?_
  simp only [push_cast,seval,↓reduceIte,Zc,Tryz.results230,hN0,hN]
 dsimp only [X8] at hw h
 refine Yc7 hw ?_
 try simp only [Y1,Yc,↓reduceIte,Nat.reduceEqDiff]
 refine zD [] [false] ?_
 refine zQ [6] ?_
 refine zW ?_
 obtain rfl:=sI h
 refine Zg (.inr rfl) hU [(vB false)] (by omega) ?_
 simp only [push_cast,seval,↓reduceIte,Zc,Tryz.results230,hN0,hN]
theorem Zr6 {Y5:(Zf→Option Bool)} {Yz:(Zf→Int→Option Bool)} {Yf:((List Zl)→Int→Option Bool)} {Yn:(Zf→Int→Option Bool)} {Yo:(Int→Zt→Int→Option Bool)} {Yb:(Bool→Bool→Bool→Zt→Option Bool)} (Ks:Gj Y5) (Vo:Gk Yz) (Vl:Jy Yf) (Ua:K1 Yn) (U6:Vh Yo) (Xp:Jz Yb) {a0:Bool} {a1:Bool} {a2:Bool} {a3:Zt} {r:Bool} {O:Objs} {n:Nat} (h:Zb9 Y5 Yz Yf Yn Yo Yb a0 a1 a2 a3=some r):GTo Tryz.prog 278 [(vB a0),(vB a1),(vB a2),.ip (Yy a3) 0] O n ((vB r)) O n:=by
 unfold Zb9 at h
 refine K6 Zq Tryz.call278 Tryz.func278 rfl fun hU hN0 hN => ?_
 show W _ _ _ _ ⟨41,[],[(0,(vB a0)),(1,(vB a1)),(2,(vB a2)),(3,.ip (Yy a3) 0)]⟩ (Zw O n []) _
 refine zQ [0,1,2,3] ?_
 obtain ⟨z5,hz5,h⟩:=bC h
 refine Yu (E':=⟨41,[],[(7,(vB z5))]⟩) (O':=(Zw O n [])) (n0:=n) ?_ ?_
 ·rcases Bool.eq_false_or_eq_true a0 with Qk | Qk
  ·replace hz5:=Zn Qk hz5
   rcases Bool.eq_false_or_eq_true (a3.N != 0) with K9 | K9
   ·replace hz5:=Zn K9 hz5
    try rw [K9] at Qk
    refine Xy [none,none,none,none,none,none,none,none,none,none,none,some false,some false,some false,some false,some false,some false,some false,some false,some false,some false,some false,some false,some false,some false] Qk K9 ?_
    refine zG ?_
    exact Zbo hz5 Qk K9
   replace hz5:=Zm K9 hz5
   try rw [K9] at Qk
   rcases Bool.eq_false_or_eq_true a1 with c16 | c16
   ·replace hz5:=Zn c16 hz5
    try rw [c16] at Qk
    try rw [c16] at K9
    rcases Bool.eq_false_or_eq_true (decide (0 < (a3.L.length:Int))) with c17 | c17
    ·replace hz5:=Zn c17 hz5
     try rw [c17] at Qk
     try rw [c17] at K9
     try rw [c17] at c16
     refine Zm7 [none,none,none,none,none,none,none,none,none,none,none,some false,some false,some false,some false,some false,some false,some false,some false,some false,some false,some false,some false,some false,some false] Qk K9 c16 c17 ?_
     refine zG ?_
     exact Zpz hz5 Qk K9 c16 c17
    replace hz5:=Zm c17 hz5
    try rw [c17] at Qk
    try rw [c17] at K9
    try rw [c17] at c16
    rcases Bool.eq_false_or_eq_true a2 with c18 | c18
    ·replace hz5:=Zn c18 hz5
     try rw [c18] at Qk
     try rw [c18] at K9
     try rw [c18] at c16
     try rw [c18] at c17
     rcases Bool.eq_false_or_eq_true (a3.E.Kind != 0) with c19 | c19
     ·replace hz5:=Zn c19 hz5
      try rw [c19] at Qk
      try rw [c19] at K9
      try rw [c19] at c16
      try rw [c19] at c17
      try rw [c19] at c18
      refine Yjj [none,none,none,none,none,none,none,none,none,none,none,some true,some true,some true,some true,some true,some true,some true,some false,some false,some false,some false,some true,some true,some true] Qk K9 c16 c17 c18 c19 ?_
      refine zG ?_
      exact Yji hz5 Qk K9 c16 c17 c18 c19
     replace hz5:=Zm c19 hz5
     try rw [c19] at Qk
     try rw [c19] at K9
     try rw [c19] at c16
     try rw [c19] at c17
     try rw [c19] at c18
     obtain ⟨y10,hy10,hz5⟩:=bC hz5
     refine Yjj [none,none,none,none,none,none,none,none,none,none,none,some true,some true,some true,some true,some true,some true,some true,some true,some true,some true,some true,some true,some true,some true] Qk K9 c16 c17 c18 c19 ?_
     refine zG ?_
     refine (Ks hy10).then ?_
     refine zX6 Qk K9 c16 c17 c18 c19 ?_
     refine zG ?_
     exact Yji hz5 Qk K9 c16 c17 c18 c19
    replace hz5:=Zm c18 hz5
    try rw [c18] at Qk
    try rw [c18] at K9
    try rw [c18] at c16
    try rw [c18] at c17
    refine Z2c [none,none,none,none,none,none,none,none,none,none,none,some true,some true,some false,some false,some false,some false,some false,some false,some false,some false,some false,some false,some true,some true] Qk K9 c16 c17 c18 ?_
    refine zG ?_
    exact Z2b hz5 Qk K9 c16 c17 c18
   replace hz5:=Zm c16 hz5
   try rw [c16] at Qk
   try rw [c16] at K9
   rcases Bool.eq_false_or_eq_true a2 with c20 | c20
   ·replace hz5:=Zn c20 hz5
    try rw [c20] at Qk
    try rw [c20] at K9
    try rw [c20] at c16
    rcases Bool.eq_false_or_eq_true (a3.E.Kind != 0) with c21 | c21
    ·replace hz5:=Zn c21 hz5
     try rw [c21] at Qk
     try rw [c21] at K9
     try rw [c21] at c16
     try rw [c21] at c20
     refine Z2c [none,none,none,none,none,none,none,none,none,none,none,some true,some true,some true,some true,some true,some true,some true,some false,some false,some false,some false,some true,some true,some true] Qk K9 c16 c20 c21 ?_
     refine zG ?_
     exact Z2b hz5 Qk K9 c16 c20 c21
    replace hz5:=Zm c21 hz5
    try rw [c21] at Qk
    try rw [c21] at K9
    try rw [c21] at c16
    try rw [c21] at c20
    obtain ⟨y11,hy11,hz5⟩:=bC hz5
    refine Z2c [none,none,none,none,none,none,none,none,none,none,none,some true,some true,some true,some true,some true,some true,some true,some true,some true,some true,some true,some true,some true,some true] Qk K9 c16 c20 c21 ?_
    refine zG ?_
    refine (Ks hy11).then ?_
    refine zX5 Qk K9 c16 c20 c21 ?_
    refine zG ?_
    exact Z2b hz5 Qk K9 c16 c20 c21
   replace hz5:=Zm c20 hz5
   try rw [c20] at Qk
   try rw [c20] at K9
   try rw [c20] at c16
   refine Zm7 [none,none,none,none,none,none,none,none,none,none,none,some true,some true,some false,some false,some false,some false,some false,some false,some false,some false,some false,some false,some true,some true] Qk K9 c16 c20 ?_
   refine zG ?_
   exact Zpz hz5 Qk K9 c16 c20
  replace hz5:=Zm Qk hz5
  rcases Bool.eq_false_or_eq_true a1 with c22 | c22
  ·replace hz5:=Zn c22 hz5
   try rw [c22] at Qk
   rcases Bool.eq_false_or_eq_true (decide (0 < (a3.L.length:Int))) with c23 | c23
   ·replace hz5:=Zn c23 hz5
    try rw [c23] at Qk
    try rw [c23] at c22
    refine Gu [none,none,none,none,none,none,none,none,none,none,none,some false,some false,some false,some false,some false,some false,some false,some false,some false,some false,some false,some false,some false,some false] Qk c22 c23 ?_
    refine zG ?_
    exact Zfk hz5 Qk c22 c23
   replace hz5:=Zm c23 hz5
   try rw [c23] at Qk
   try rw [c23] at c22
   rcases Bool.eq_false_or_eq_true a2 with c24 | c24
   ·replace hz5:=Zn c24 hz5
    try rw [c24] at Qk
    try rw [c24] at c22
    try rw [c24] at c23
    rcases Bool.eq_false_or_eq_true (a3.E.Kind != 0) with c25 | c25
    ·replace hz5:=Zn c25 hz5
     try rw [c25] at Qk
     try rw [c25] at c22
     try rw [c25] at c23
     try rw [c25] at c24
     refine Z2c [none,none,none,none,none,none,none,none,none,none,none,some true,some true,some true,some true,some true,some true,some true,some false,some false,some false,some false,some true,some true,some true] Qk c22 c23 c24 c25 ?_
     refine zG ?_
     exact Z2b hz5 Qk c22 c23 c24 c25
    replace hz5:=Zm c25 hz5
    try rw [c25] at Qk
    try rw [c25] at c22
    try rw [c25] at c23
    try rw [c25] at c24
    obtain ⟨y12,hy12,hz5⟩:=bC hz5
    refine Z2c [none,none,none,none,none,none,none,none,none,none,none,some true,some true,some true,some true,some true,some true,some true,some true,some true,some true,some true,some true,some true,some true] Qk c22 c23 c24 c25 ?_
    refine zG ?_
    refine (Ks hy12).then ?_
    refine zX5 Qk c22 c23 c24 c25 ?_
    refine zG ?_
    exact Z2b hz5 Qk c22 c23 c24 c25
   replace hz5:=Zm c24 hz5
   try rw [c24] at Qk
   try rw [c24] at c22
   try rw [c24] at c23
   refine Zm7 [none,none,none,none,none,none,none,none,none,none,none,some true,some true,some false,some false,some false,some false,some false,some false,some false,some false,some false,some false,some true,some true] Qk c22 c23 c24 ?_
   refine zG ?_
   exact Zpz hz5 Qk c22 c23 c24
  replace hz5:=Zm c22 hz5
  try rw [c22] at Qk
  rcases Bool.eq_false_or_eq_true a2 with c26 | c26
  ·replace hz5:=Zn c26 hz5
   try rw [c26] at Qk
   try rw [c26] at c22
   rcases Bool.eq_false_or_eq_true (a3.E.Kind != 0) with c27 | c27
   ·replace hz5:=Zn c27 hz5
    try rw [c27] at Qk
    try rw [c27] at c22
    try rw [c27] at c26
    refine Zm7 [none,none,none,none,none,none,none,none,none,none,none,some true,some true,some true,some true,some true,some true,some true,some false,some false,some false,some false,some true,some true,some true] Qk c22 c26 c27 ?_
    refine zG ?_
    exact Zpz hz5 Qk c22 c26 c27
   replace hz5:=Zm c27 hz5
   try rw [c27] at Qk
   try rw [c27] at c22
   try rw [c27] at c26
   obtain ⟨y13,hy13,hz5⟩:=bC hz5
   refine Zm7 [none,none,none,none,none,none,none,none,none,none,none,some true,some true,some true,some true,some true,some true,some true,some true,some true,some true,some true,some true,some true,some true] Qk c22 c26 c27 ?_
   refine zG ?_
   refine (Ks hy13).then ?_
   refine zX4 Qk c22 c26 c27 ?_
   refine zG ?_
   exact Zpz hz5 Qk c22 c26 c27
  replace hz5:=Zm c26 hz5
  try rw [c26] at Qk
  try rw [c26] at c22
  refine Gu [none,none,none,none,none,none,none,none,none,none,none,some true,some true,some false,some false,some false,some false,some false,some false,some false,some false,some false,some false,some true,some true] Qk c22 c26 ?_
  refine zG ?_
  exact Zfk hz5 Qk c22 c26
 refine zW ?_
 obtain rfl:=sI h
 refine Zg (.inr rfl) hU [(vB z5)] (by omega) ?_
 simp only [push_cast,seval,↓reduceIte,Zc,Tryz.results278,hN0,hN]
theorem Zu0:∀ k,(Gj ((Zs k).1))∧(Gk ((Zs k).2.1))∧(Jy ((Zs k).2.2.1))∧(K1 ((Zs k).2.2.2.1))∧(Vh ((Zs k).2.2.2.2.1))∧(Jz ((Zs k).2.2.2.2.2)):=fun k=>by
 induction k with
 | zero=>exact ⟨@fun a0 r O n h=>(nomatch (show (none:Option _)=some _ from h)),@fun a0 a1 r O n h=>(nomatch (show (none:Option _)=some _ from h)),@fun a0 a1 r O n h=>(nomatch (show (none:Option _)=some _ from h)),@fun a0 a1 r O n h=>(nomatch (show (none:Option _)=some _ from h)),@fun a0 a1 a2 r O n h=>(nomatch (show (none:Option _)=some _ from h)),@fun a0 a1 a2 a3 r O n h=>(nomatch (show (none:Option _)=some _ from h))⟩
 | succ k ih=>exact ⟨@fun a0 r O n h=>Zya (ih.1) (ih.2.1) (ih.2.2.1) (ih.2.2.2.1) (ih.2.2.2.2.1) (ih.2.2.2.2.2)  h,@fun a0 a1 r O n h=>Zyb (ih.1) (ih.2.1) (ih.2.2.1) (ih.2.2.2.1) (ih.2.2.2.2.1) (ih.2.2.2.2.2)  h,@fun a0 a1 r O n h=>Zr5 (ih.1) (ih.2.1) (ih.2.2.1) (ih.2.2.2.1) (ih.2.2.2.2.1) (ih.2.2.2.2.2)  h,@fun a0 a1 r O n h=>Ztj (ih.1) (ih.2.1) (ih.2.2.1) (ih.2.2.2.1) (ih.2.2.2.2.1) (ih.2.2.2.2.2)  h,@fun a0 a1 a2 r O n h=>Zvb (ih.1) (ih.2.1) (ih.2.2.1) (ih.2.2.2.1) (ih.2.2.2.2.1) (ih.2.2.2.2.2)  h,@fun a0 a1 a2 a3 r O n h=>Zr6 (ih.1) (ih.2.1) (ih.2.2.1) (ih.2.2.2.1) (ih.2.2.2.2.1) (ih.2.2.2.2.2)  h⟩
theorem Zl7 {a0:Zf} {r:Bool} {O:Objs} {n:Nat} (h:Zj5 a0=some r):GTo Tryz.prog 59 [.agg (Zi a0)] O n ((vB r)) O n:=by
 obtain ⟨k,hk⟩:=V0 h
 exact (Zu0 k).1  hk
theorem Km {a0:(List Int)} {a1:(List Za)} {r:Za} {O:Objs} {n:Nat} (h:Vf a0 a1=some r):GTo Tryz.prog 53 [(sL (eI .u64) a0),(sL Zb a1)] O n (.agg (Zd r)) O n:=by
 unfold Vf at h
 refine K6 Zq Tryz.call53 Tryz.func53 rfl fun hU hN0 hN => ?_
 show W _ _ _ _ ⟨8,[],[(0,(sL (eI .u64) a0)),(1,(sL Zb a1))]⟩ (Zw O n []) _
 refine zQ [0,1,4] ?_
 refine Ze ?_
 refine zRd [4] [true] ?_
 refine zW ?_
 obtain rfl:=sI h
 refine Zg (.inr rfl) hU [.agg [(vI 1),(sL (eI .u64) a0),(sL Zb a1)]] (by omega) ?_
 simp only [push_cast,seval,↓reduceIte,Zc,Tryz.results53,hN0,hN]
theorem Znk {a0:(List Za)} {r:Za} {O:Objs} {n:Nat} (h:Zew a0=some r):GTo Tryz.prog 98 [(sL Zb a0)] O n (.agg (Zd r)) O n:=by
 unfold Zew at h
 refine K6 Zq Tryz.call98 Tryz.func98 rfl fun hU hN0 hN => ?_
 show W _ _ _ _ ⟨9,[],[(0,(sL Zb a0))]⟩ (Zw O n []) _
 refine zQ [0,2] ?_
 refine Ze ?_
 refine zQ [0,2,5] ?_
 refine Zo (t:=((a0.length:Int) == 0)) rfl (fun c1 => ?_) (fun c1 => ?_)
 ·replace h:=Zn c1 h
  refine Ze ?_
  refine zRd [2] [true] ?_
  refine zW ?_
  obtain rfl:=sI h
  refine Zg (.inr rfl) hU [.agg [(vI 0),nV,nV]] (by omega) ?_
  simp only [push_cast,seval,↓reduceIte,Zc,Tryz.results98,hN0,hN]
 replace h:=Zm c1 h
 refine Qd [0,2] [true] ?_
 refine Ze ?_
 refine zRd [2] [true] ?_
 refine zW ?_
 obtain rfl:=sI h
 refine Zg (.inr rfl) hU [.agg [(vI 9),nV,(sL Zb a0)]] (by omega) ?_
 simp only [push_cast,seval,↓reduceIte,Zc,Tryz.results98,hN0,hN]
theorem Zkw {a0:(List Zx)} {r:Za} {O:Objs} {n:Nat} (h:Zbi a0=some r):GTo Tryz.prog 54 [(sL Zp a0)] O n (.agg (Zd r)) O n:=by
 unfold Zbi at h
 refine K6 Zq Tryz.call54 Tryz.func54 rfl fun hU hN0 hN => ?_
 show W _ _ _ _ ⟨32,[],[(0,(sL Zp a0))]⟩ (Zw O n []) _
 refine zQ [0,2] ?_
 refine zQ [0,2,3] ?_
 refine Ze ?_
 refine zQd [2,3,6,7,8] [2,3,6,7,8] [true] ?_
 refine G8 (E':=(⟨32,[],[(2,.ref n 0),(3,.row (n+1) ([]:List Za).length),(6,(sL Zp a0)),(7,(vI (a0.length:Int))),(8,(vI 0))]⟩:Env)) (O':=(Zw O n [some ⟨false,25,3,1,[(vI 0),nV,nV]⟩,some (oR 25 3 Zb ([]:List Za)),none])) (n':=(n+3)) ?_ ?_
 ·refine Fit2.trans (E':=(⟨32,[],[(2,.ref n 0),(3,nV),(6,(sL Zp a0)),(7,(vI (a0.length:Int))),(8,(vI 0))]⟩:Env)) (O':=(Zw O n [some ⟨false,25,3,1,[(vI 0),nV,nV]⟩])) (n':=(n+1)) (Fit2.of (Z6 hU rfl rfl ?_) (by omega)) ?_
  ·exact Gl
  refine Fit2.trans (Zay 3 25 3 rfl (by omega)) ?_
  simp only [Q5,Qi,Vt,Kh,List.set_cons_zero,List.set_cons_succ,List.cons_append,List.nil_append,List.length_cons,List.length_nil,Nat.zero_add,Nat.reduceAdd,Nat.reduceLT,Nat.add_assoc]
  refine Fit2.trans (E':=(⟨32,[],[(2,.ref n 0),(3,.row (n+1) ([]:List Za).length),(6,(sL Zp a0)),(7,(vI (a0.length:Int))),(8,(vI 0))]⟩:Env)) (O':=(Zw O n [some ⟨false,25,3,1,[(vI 0),nV,nV]⟩,some (oR 25 3 Zb ([]:List Za))])) (n':=(n+2)) (Fit2.of (Z6 hU rfl rfl ?_) (by omega)) ?_
  ·exact Gl
  refine Jg (k:=2) (k':=3) hU [0,1] [0,1,0] rfl rfl rfl rfl ⟨rfl,rfl⟩ ?_
  exact Gl
 obtain ⟨z6,hz6,h⟩:=bC h
 refine Yj (E':=⟨32,[],[(2,.ref n 0),(3,.row (n+1) z6.length)]⟩) (O':=(Zw O n [some ⟨false,25,3,1,[(vI 0),nV,nV]⟩,some (oR 25 3 Zb z6),none])) (n0:=(n+3)) ?_ ?_
 ·refine Y4 hz6 (fun s0_=>⟨32,[],[(2,.ref n 0),(3,.row (n+1) s0_.2.length),(6,(sL Zp a0)),(7,(vI (a0.length:Int))),(8,(vI s0_.1))]⟩) (fun s0_=>(Zw O n [some ⟨false,25,3,1,[(vI 0),nV,nV]⟩,some (oR 25 3 Zb s0_.2),none])) (fun z6=>JX 0 n (⟨32,[],[(2,.ref n 0),(3,.row (n+1) z6.length)]⟩:Env) (Zw O n [some ⟨false,25,3,1,[(vI 0),nV,nV]⟩,some (oR 25 3 Zb z6),none]) (n+3)) ?_
  intro s0_ x0_ hs0_
  unfold Uz at hs0_
  try dsimp only
  refine zQ [2,3,6,7,8,9] ?_
  refine Ze ?_
  refine Zo (t:=(decide (s0_.1 < (a0.length:Int)))) rfl (fun c5 => ?_) (fun c5 => ?_)
  ·replace hs0_:=Zn c5 hs0_
   refine Qd [2,3,6,7,8] [true,true,false] ?_
   refine Ze ?_
   refine Z9 ?_
   refine Ze ?_
   obtain ⟨x2,hx2,ax2,bx2,cx2,hs0_⟩:=bE (f:=Zp) Zt2 (fun _=>rfl) (by decide) hs0_
   refine Gc [] ax2 bx2 cx2 ?_
   refine zD [2,3,5,6,7,8] [true,true,false,true] ?_
   obtain ⟨y3,hy3,hs0_⟩:=bC hs0_
   obtain ⟨l4,pl4,ql4,el4,hs0_⟩:=bA (k:=1) rfl hs0_
   refine Gu [] pl4 ql4 el4 ?_
   refine GCalls.dropL (l':=[some ⟨false,25,3,1,[(vI 0),nV,nV]⟩,some (oR 25 3 Zb s0_.2),none,some ⟨false,84,4,1,(Zce x2)⟩,none]) hU rfl ?_ ((Km hy3).then ?_)
   ·exact Zjn pl4 ql4 el4
   refine zX3 pl4 ql4 el4 ?_
   refine Ki ⟨32,[],[(2,.ref n 0),(3,.row (n+1) l4.length),(6,(sL Zp a0)),(7,(vI (a0.length:Int))),(8,(vI s0_.1))]⟩ (Zw O n [some ⟨false,25,3,1,[(vI 0),nV,nV]⟩,some (oR 25 3 Zb l4),none,none,none,none]) (Z6 hU rfl rfl ?_) ?_
   ·exact Zjn pl4 ql4 el4
   refine zR ?_
   exact Gv hs0_
  replace hs0_:=Zm c5 hs0_
  exact zEx hs0_
 try simp only [Y1,Yc,↓reduceIte,Nat.reduceEqDiff]
 refine zD [2,3] [true,true,false] ?_
 refine Ki ⟨32,[],[(2,.ref n 0),(3,(sL Zb z6))]⟩ (Zw O n [some ⟨false,25,3,1,[(vI 0),nV,nV]⟩,none,none]) (Z6 hU rfl rfl ?_) ?_
 ·exact Gl
 refine Ze ?_
 obtain ⟨y8,hy8,h⟩:=bC h
 refine zCd (Znk hy8) [2] [true,false,false] ?_
 refine zW ?_
 obtain rfl:=sI h
 refine Zg (.inr rfl) hU [.agg (Zd y8)] (by omega) ?_
 simp only [push_cast,seval,↓reduceIte,Zc,Tryz.results54,hN0,hN]
def Zgk (X6:(Zf→Option Za)):Prop:=∀ {a0:Zf} {r:Za} {O:Objs} {n:Nat},X6 a0=some r→GTo Tryz.prog 16 [.agg (Zi a0)] O n (.agg (Zd r)) O n
def Zb3 (Xt:((List Zl)→Option Za)):Prop:=∀ {a0:(List Zl)} {r:Za} {O:Objs} {n:Nat},Xt a0=some r→GTo Tryz.prog 55 [(sL Zr a0)] O n (.agg (Zd r)) O n
def Zc7 (Qb:(Int→(List Zt)→Option Za)):Prop:=∀ {a0:Int} {a1:(List Zt)} {r:Za} {O:Objs} {n:Nat},Qb a0 a1=some r→GTo Tryz.prog 56 [(vI a0),(sL Z4 a1)] O n (.agg (Zd r)) O n
theorem Zyc {X6:(Zf→Option Za)} {Xt:((List Zl)→Option Za)} {Qb:(Int→(List Zt)→Option Za)} (Zdt:Zgk X6) (Zb5:Zb3 Xt) (Zda:Zc7 Qb) {a0:Zf} {r:Za} {O:Objs} {n:Nat} (h:Zhg X6 Xt Qb a0=some r):GTo Tryz.prog 16 [.agg (Zi a0)] O n (.agg (Zd r)) O n:=by
 unfold Zhg at h
 refine K6 Zq Tryz.call16 Tryz.func16 rfl fun hU hN0 hN => ?_
 show W _ _ _ _ ⟨48,[],[(0,.agg (Zi a0))]⟩ (Zw O n []) _
 refine zQ [1,2] ?_
 refine zQ [1,2,3] ?_
 refine Ze ?_
 refine zQ [1,2,3,8] ?_
 refine Z9 ?_
 refine zQ [1,2,3,8,9] ?_
 refine Zo (t:=(a0.Kind == 1)) rfl (fun c317 => ?_) (fun c317 => ?_)
 ·replace h:=Zn c317 h
  refine Ze ?_
  obtain ⟨y2,hy2,h⟩:=bC h
  refine zR ?_
  refine GCalls.dropL (l':=[some ⟨false,30,11,1,(Zi a0)⟩,some ⟨false,25,3,1,[(vI 0),nV,nV]⟩,none,none]) hU rfl ?_ ((Km hy2).then ?_)
  ·exact Gl
  refine zS ?_
  refine zD [2] [false,true,false,false] ?_
  refine zW ?_
  obtain rfl:=sI h
  refine Zg (.inr rfl) hU [.agg (Zd y2)] (by omega) ?_
  simp only [push_cast,seval,↓reduceIte,Zc,Tryz.results16,hN0,hN]
 replace h:=Zm c317 h
 refine zQ [1,2,3,8,19] ?_
 refine Zo (t:=(a0.Kind == 2)) rfl (fun c316 => ?_) (fun c316 => ?_)
 ·replace h:=Zn c316 h
  obtain ⟨y51,hy51,h⟩:=bC h
  obtain ⟨y87,hy87,h⟩:=bC h
  obtain ⟨y111,hy111,h⟩:=bC h
  refine Yu (E':=⟨48,[],[(2,.ref (n+1) 0)]⟩) (O':=(Zw O n [none,some ⟨false,25,3,1,(Zd y111)⟩,none,none])) (n0:=(n+4)) ?_ ?_
  ·refine Zs0 Zq (by kernel_rfl) [.plain,.pass,.low,.low,.low,.low,.low,.low,.pass,.pass,.pass] (fun i=>i < (n+2)∧¬ i=n+1) [0,2,3,4,5,6,7] [1,8] [9,10] (.alt 1 (.seq [8]) (.one 8 (.seq [1]))) [.plain,.low,.low,.low,.low,.low,.low] [] (by kernel_rfl) rfl ?_
   refine zS ?_
   repeat (with_reducible refine And.intro (by omega) ?_)
   first | refine PCallA.of (fun _ _=>Zkw hy51) ?_ | refine PCall.of (Zkw hy51) ?_
   try simp only [push_cast,seval,↓reduceIte,Zc,hN0,hN]
   repeat (with_reducible refine And.intro (by omega) ?_)
   first | refine PCallA.of (fun _ _=>Zb5 hy87) ?_ | refine PCall.of (Zb5 hy87) ?_
   try simp only [push_cast,seval,↓reduceIte,Zc,hN0,hN]
   repeat (with_reducible refine And.intro (by omega) ?_)
   try simp only [push_cast,seval,↓reduceIte,Zc,hN0,hN]
   refine And.intro ?_ ?_
   ·try simp only [push_cast,seval,↓reduceIte,Zc,hN0,hN]
    repeat (with_reducible refine And.intro (by first | exact Y3 rfl | exact Yp | exact X3 rfl | exact Xr rfl) ?_)
    try simp only [push_cast,seval,↓reduceIte,Zc,hN0,hN]
    repeat (with_reducible refine And.intro (by first | exact Y3 rfl | exact Yp | exact X3 rfl | exact Xr rfl) ?_)
    refine GCalls.dropL (l':=[some ⟨false,30,11,1,(Zi a0)⟩,some ⟨false,25,3,1,[(vI 0),nV,nV]⟩,none,none]) hU rfl ?_ ((Km hy111).then ?_)
    ·exact Gl
    try simp only [push_cast,seval,↓reduceIte,Zc,hN0,hN]
    repeat (with_reducible refine And.intro (by first | exact Y3 rfl | exact Yp | exact X3 rfl | exact Xr rfl) ?_)
    exact zEf
   try simp only [push_cast,seval,↓reduceIte,Zc,hN0,hN]
   repeat (with_reducible refine And.intro (by first | exact Y3 rfl | exact Yp | exact X3 rfl | exact Xr rfl) ?_)
   try simp only [push_cast,seval,↓reduceIte,Zc,hN0,hN]
   repeat (with_reducible refine And.intro (by first | exact Y3 rfl | exact Yp | exact X3 rfl | exact Xr rfl) ?_)
   refine GCalls.dropL (l':=[some ⟨false,30,11,1,(Zi a0)⟩,some ⟨false,25,3,1,[(vI 0),nV,nV]⟩,none,none]) hU rfl ?_ ((Km hy111).then ?_)
   ·exact Gl
   try simp only [push_cast,seval,↓reduceIte,Zc,hN0,hN]
   repeat (with_reducible refine And.intro (by first | exact Y3 rfl | exact Yp | exact X3 rfl | exact Xr rfl) ?_)
   refine And.intro rfl ?_
   refine Fit2.trans (E':=(⟨48,[],[(2,.ref (n+1) 0)]⟩:Env)) (O':=(Zw O n [none,some ⟨false,25,3,1,(Zd y111)⟩,none,none])) (n':=(n+4)) (Fit2.of (Z6 hU rfl rfl ?_) (by omega)) ?_
   ·exact Gl
   refine Jg (k:=4) (k':=4) hU [0,1,3,2] [0,1,3,2] rfl rfl rfl rfl ⟨rfl,rfl⟩ ?_
   exact Gl
  refine zW ?_
  obtain rfl:=sI h
  refine Zg (.inr rfl) hU [.agg (Zd y111)] (by omega) ?_
  simp only [push_cast,seval,↓reduceIte,Zc,Tryz.results16,hN0,hN]
 replace h:=Zm c316 h
 refine zQ [1,2,3,31] ?_
 refine Zo (t:=(a0.Kind == 3)) rfl (fun c315 => ?_) (fun c315 => ?_)
 ·replace h:=Zn c315 h
  obtain ⟨y267,hy267,h⟩:=bC h
  obtain ⟨y291,hy291,h⟩:=bC h
  refine Yu (E':=⟨48,[],[(2,.ref (n+1) 0)]⟩) (O':=(Zw O n [none,some ⟨false,25,3,1,(Zd y291)⟩,none,none])) (n0:=(n+4)) ?_ ?_
  ·refine Zs0 Zq (by kernel_rfl) [.plain,.low,.low,.low,.low,.low,.pass,.low,.low,.low,.low,.low,.pass,.pass,.pass] (fun i=>i < (n+2)∧¬ i=n+1) [0,1,2,3,4,5,7,8,9,10,11] [6,12] [13,14] (.alt 6 (.seq [12]) (.one 12 (.seq [6]))) [.plain,.low,.low,.low,.low,.low,.low,.low,.low,.low,.low] [] (by kernel_rfl) rfl ?_
   refine zS ?_
   repeat (with_reducible refine And.intro (by omega) ?_)
   first | refine PCallA.of (fun _ _=>Zda hy267) ?_ | refine PCall.of (Zda hy267) ?_
   try simp only [push_cast,seval,↓reduceIte,Zc,hN0,hN]
   repeat (with_reducible refine And.intro (by omega) ?_)
   try simp only [push_cast,seval,↓reduceIte,Zc,hN0,hN]
   refine And.intro ?_ ?_
   ·try simp only [push_cast,seval,↓reduceIte,Zc,hN0,hN]
    repeat (with_reducible refine And.intro (by first | exact Y3 rfl | exact Yp | exact X3 rfl | exact Xr rfl) ?_)
    try simp only [push_cast,seval,↓reduceIte,Zc,hN0,hN]
    repeat (with_reducible refine And.intro (by first | exact Y3 rfl | exact Yp | exact X3 rfl | exact Xr rfl) ?_)
    refine GCalls.dropL (l':=[some ⟨false,30,11,1,(Zi a0)⟩,some ⟨false,25,3,1,[(vI 0),nV,nV]⟩,none,none]) hU rfl ?_ ((Km hy291).then ?_)
    ·exact Gl
    try simp only [push_cast,seval,↓reduceIte,Zc,hN0,hN]
    repeat (with_reducible refine And.intro (by first | exact Y3 rfl | exact Yp | exact X3 rfl | exact Xr rfl) ?_)
    exact zEf
   try simp only [push_cast,seval,↓reduceIte,Zc,hN0,hN]
   repeat (with_reducible refine And.intro (by first | exact Y3 rfl | exact Yp | exact X3 rfl | exact Xr rfl) ?_)
   try simp only [push_cast,seval,↓reduceIte,Zc,hN0,hN]
   repeat (with_reducible refine And.intro (by first | exact Y3 rfl | exact Yp | exact X3 rfl | exact Xr rfl) ?_)
   refine GCalls.dropL (l':=[some ⟨false,30,11,1,(Zi a0)⟩,some ⟨false,25,3,1,[(vI 0),nV,nV]⟩,none,none]) hU rfl ?_ ((Km hy291).then ?_)
   ·exact Gl
   try simp only [push_cast,seval,↓reduceIte,Zc,hN0,hN]
   repeat (with_reducible refine And.intro (by first | exact Y3 rfl | exact Yp | exact X3 rfl | exact Xr rfl) ?_)
   refine And.intro rfl ?_
   refine Fit2.trans (E':=(⟨48,[],[(2,.ref (n+1) 0)]⟩:Env)) (O':=(Zw O n [none,some ⟨false,25,3,1,(Zd y291)⟩,none,none])) (n':=(n+4)) (Fit2.of (Z6 hU rfl rfl ?_) (by omega)) ?_
   ·exact Gl
   refine Jg (k:=4) (k':=4) hU [0,1,3,2] [0,1,3,2] rfl rfl rfl rfl ⟨rfl,rfl⟩ ?_
   exact Gl
  refine zW ?_
  obtain rfl:=sI h
  refine Zg (.inr rfl) hU [.agg (Zd y291)] (by omega) ?_
  simp only [push_cast,seval,↓reduceIte,Zc,Tryz.results16,hN0,hN]
 replace h:=Zm c315 h
 refine Qd [2] [false,true] ?_
 refine Ze ?_
 refine zRd [2] [false,true] ?_
 refine zW ?_
 obtain rfl:=sI h
 refine Zg (.inr rfl) hU [.agg [(vI 0),nV,nV]] (by omega) ?_
 simp only [push_cast,seval,↓reduceIte,Zc,Tryz.results16,hN0,hN]
theorem Zr7 {X6:(Zf→Option Za)} {Xt:((List Zl)→Option Za)} {Qb:(Int→(List Zt)→Option Za)} (Zdt:Zgk X6) (Zb5:Zb3 Xt) (Zda:Zc7 Qb) {a0:(List Zl)} {r:Za} {O:Objs} {n:Nat} (h:Zca X6 Xt Qb a0=some r):GTo Tryz.prog 55 [(sL Zr a0)] O n (.agg (Zd r)) O n:=by
 unfold Zca at h
 refine K6 Zq Tryz.call55 Tryz.func55 rfl fun hU hN0 hN => ?_
 show W _ _ _ _ ⟨27,[],[(0,(sL Zr a0))]⟩ (Zw O n []) _
 refine zQ [0,2] ?_
 refine zQ [0,2,3] ?_
 refine Ze ?_
 refine zQd [2,3,6,7,8] [2,3,6,7,8] [true] ?_
 refine G8 (E':=(⟨27,[],[(2,.ref n 0),(3,.row (n+1) ([]:List Za).length),(6,(sL Zr a0)),(7,(vI (a0.length:Int))),(8,(vI 0))]⟩:Env)) (O':=(Zw O n [some ⟨false,25,3,1,[(vI 0),nV,nV]⟩,some (oR 25 3 Zb ([]:List Za)),none])) (n':=(n+3)) ?_ ?_
 ·refine Fit2.trans (E':=(⟨27,[],[(2,.ref n 0),(3,nV),(6,(sL Zr a0)),(7,(vI (a0.length:Int))),(8,(vI 0))]⟩:Env)) (O':=(Zw O n [some ⟨false,25,3,1,[(vI 0),nV,nV]⟩])) (n':=(n+1)) (Fit2.of (Z6 hU rfl rfl ?_) (by omega)) ?_
  ·exact Gl
  refine Fit2.trans (Zay 3 25 3 rfl (by omega)) ?_
  simp only [Q5,Qi,Vt,Kh,List.set_cons_zero,List.set_cons_succ,List.cons_append,List.nil_append,List.length_cons,List.length_nil,Nat.zero_add,Nat.reduceAdd,Nat.reduceLT,Nat.add_assoc]
  refine Fit2.trans (E':=(⟨27,[],[(2,.ref n 0),(3,.row (n+1) ([]:List Za).length),(6,(sL Zr a0)),(7,(vI (a0.length:Int))),(8,(vI 0))]⟩:Env)) (O':=(Zw O n [some ⟨false,25,3,1,[(vI 0),nV,nV]⟩,some (oR 25 3 Zb ([]:List Za))])) (n':=(n+2)) (Fit2.of (Z6 hU rfl rfl ?_) (by omega)) ?_
  ·exact Gl
  refine Jg (k:=2) (k':=3) hU [0,1] [0,1,0] rfl rfl rfl rfl ⟨rfl,rfl⟩ ?_
  exact Gl
 obtain ⟨z160,hz160,h⟩:=bC h
 refine Yj (E':=⟨27,[],[(2,.ref n 0),(3,.row (n+1) z160.length)]⟩) (O':=(Zw O n [some ⟨false,25,3,1,[(vI 0),nV,nV]⟩,some (oR 25 3 Zb z160),none])) (n0:=(n+3)) ?_ ?_
 ·refine Y4 hz160 (fun s0_=>⟨27,[],[(2,.ref n 0),(3,.row (n+1) s0_.2.length),(6,(sL Zr a0)),(7,(vI (a0.length:Int))),(8,(vI s0_.1))]⟩) (fun s0_=>(Zw O n [some ⟨false,25,3,1,[(vI 0),nV,nV]⟩,some (oR 25 3 Zb s0_.2),none])) (fun z160=>JX 0 n (⟨27,[],[(2,.ref n 0),(3,.row (n+1) z160.length)]⟩:Env) (Zw O n [some ⟨false,25,3,1,[(vI 0),nV,nV]⟩,some (oR 25 3 Zb z160),none]) (n+3)) ?_
  intro s0_ x0_ hs0_
  unfold Gp at hs0_
  try dsimp only
  refine zQ [2,3,6,7,8,9] ?_
  refine Ze ?_
  refine Zo (t:=(decide (s0_.1 < (a0.length:Int)))) rfl (fun c159 => ?_) (fun c159 => ?_)
  ·replace hs0_:=Zn c159 hs0_
   refine Qd [2,3,6,7,8] [true,true,false] ?_
   refine Ze ?_
   refine Z9 ?_
   refine Ze ?_
   obtain ⟨x2,hx2,ax2,bx2,cx2,hs0_⟩:=bE (f:=Zr) Zt3 (fun _=>rfl) (by decide) hs0_
   refine Gc [] ax2 bx2 cx2 ?_
   refine zD [2,3,5,6,7,8] [true,true,false,true] ?_
   obtain ⟨y87,hy87,hs0_⟩:=bC hs0_
   obtain ⟨y111,hy111,hs0_⟩:=bC hs0_
   obtain ⟨l135,pl135,ql135,el135,hs0_⟩:=bA (k:=1) rfl hs0_
   refine Yhm (E':=⟨27,[],[(2,.ref n 0),(3,.row (n+1) l135.length),(6,(sL Zr a0)),(7,(vI (a0.length:Int))),(8,(vI s0_.1))]⟩) (O':=(Zw O n [some ⟨false,25,3,1,[(vI 0),nV,nV]⟩,some (oR 25 3 Zb l135),none,none,none,none,none])) (n0:=(n+7)) ?_ ?_
   ·refine Zs0 Zq (by kernel_rfl) [.plain,.low,.low,.low,.pass,.low,.low,.low,.pass,.pass,.pass,.pass,.plain] (fun i=>i < (n+4)∧¬ i=n+1) [0,1,2,3,5,6,7] [4,8,9,10] [11,12] (.alt 4 (.seq [8,9,10]) (.one 8 (.seq [4,9,10]))) [.plain,.low,.low,.low,.low,.low,.low] [] (by kernel_rfl) rfl ?_
    simp (maxSteps:=4000000) only [push_cast,seval,↓reduceIte,Zc,pl135,ql135,el135,hN0,hN]
    repeat (with_reducible refine And.intro (by omega) ?_)
    first | refine PCallA.of (fun _ _=>Zdt hy87) ?_ | refine PCall.of (Zdt hy87) ?_
    simp (maxSteps:=4000000) only [push_cast,seval,↓reduceIte,Zc,pl135,ql135,el135,hN0,hN]
    repeat (with_reducible refine And.intro (by omega) ?_)
    try simp only [push_cast,seval,↓reduceIte,Zc,pl135,ql135,el135,hN0,hN]
    refine And.intro ?_ ?_
    ·try simp only [push_cast,seval,↓reduceIte,Zc,pl135,ql135,el135,hN0,hN]
     repeat (with_reducible refine And.intro (by first | exact Y3 rfl | exact Yp | exact X3 rfl | exact Xr rfl) ?_)
     try simp only [push_cast,seval,↓reduceIte,Zc,pl135,ql135,el135,hN0,hN]
     repeat (with_reducible refine And.intro (by first | exact Y3 rfl | exact Yp | exact X3 rfl | exact Xr rfl) ?_)
     refine GCalls.dropL (l':=[some ⟨false,25,3,1,[(vI 0),nV,nV]⟩,some (oR 25 3 Zb s0_.2),none,some ⟨false,86,12,1,(Ge x2)⟩,none,none]) hU rfl ?_ ((Km hy111).then ?_)
     ·exact Zjn pl135 ql135 el135
     try simp only [push_cast,seval,↓reduceIte,Zc,pl135,ql135,el135,hN0,hN]
     repeat (with_reducible refine And.intro (by first | exact Y3 rfl | exact Yp | exact X3 rfl | exact Xr rfl) ?_)
     exact Yox pl135 ql135 el135
    try simp only [push_cast,seval,↓reduceIte,Zc,pl135,ql135,el135,hN0,hN]
    repeat (with_reducible refine And.intro (by first | exact Y3 rfl | exact Yp | exact X3 rfl | exact Xr rfl) ?_)
    try simp only [push_cast,seval,↓reduceIte,Zc,pl135,ql135,el135,hN0,hN]
    repeat (with_reducible refine And.intro (by first | exact Y3 rfl | exact Yp | exact X3 rfl | exact Xr rfl) ?_)
    refine GCalls.dropL (l':=[some ⟨false,25,3,1,[(vI 0),nV,nV]⟩,some (oR 25 3 Zb s0_.2),none,some ⟨false,86,12,1,(Ge x2)⟩,none,none]) hU rfl ?_ ((Km hy111).then ?_)
    ·exact Zjn pl135 ql135 el135
    try simp only [push_cast,seval,↓reduceIte,Zc,pl135,ql135,el135,hN0,hN]
    repeat (with_reducible refine And.intro (by first | exact Y3 rfl | exact Yp | exact X3 rfl | exact Xr rfl) ?_)
    refine And.intro rfl ?_
    refine Fit2.trans (E':=(⟨27,[],[(2,.ref n 0),(3,.row (n+1) l135.length),(6,(sL Zr a0)),(7,(vI (a0.length:Int))),(8,(vI s0_.1))]⟩:Env)) (O':=(Zw O n [some ⟨false,25,3,1,[(vI 0),nV,nV]⟩,some (oR 25 3 Zb l135),none,none,none,none,none])) (n':=(n+7)) (Fit2.of (Z6 hU rfl rfl ?_) (by omega)) ?_
    ·exact Zjn pl135 ql135 el135
    refine Jg (k:=7) (k':=7) hU [0,1,2,3,5,4,6] [0,1,2,3,5,4,6] rfl rfl rfl rfl ⟨rfl,rfl⟩ ?_
    exact Zjn pl135 ql135 el135
   try simp only [Y1,Yc]
   refine zD [2,3,6,7,8] [true,true,false,false,false,false,false] ?_
   refine zR ?_
   exact Gv hs0_
  replace hs0_:=Zm c159 hs0_
  exact zEx hs0_
 try simp only [Y1,Yc,↓reduceIte,Nat.reduceEqDiff]
 refine zD [2,3] [true,true,false] ?_
 refine Ki ⟨27,[],[(2,.ref n 0),(3,(sL Zb z160))]⟩ (Zw O n [some ⟨false,25,3,1,[(vI 0),nV,nV]⟩,none,none]) (Z6 hU rfl rfl ?_) ?_
 ·exact Gl
 refine Ze ?_
 obtain ⟨y162,hy162,h⟩:=bC h
 refine zCd (Znk hy162) [2] [true,false,false] ?_
 refine zW ?_
 obtain rfl:=sI h
 refine Zg (.inr rfl) hU [.agg (Zd y162)] (by omega) ?_
 simp only [push_cast,seval,↓reduceIte,Zc,Tryz.results55,hN0,hN]
theorem Ztk {X6:(Zf→Option Za)} {Xt:((List Zl)→Option Za)} {Qb:(Int→(List Zt)→Option Za)} (Zdt:Zgk X6) (Zb5:Zb3 Xt) (Zda:Zc7 Qb) {a0:Int} {a1:(List Zt)} {r:Za} {O:Objs} {n:Nat} (h:Zdh X6 Xt Qb a0 a1=some r):GTo Tryz.prog 56 [(vI a0),(sL Z4 a1)] O n (.agg (Zd r)) O n:=by
 unfold Zdh at h
 refine K6 Zq Tryz.call56 Tryz.func56 rfl fun hU hN0 hN => ?_
 show W _ _ _ _ ⟨60,[],[(0,(vI a0)),(1,(sL Z4 a1))]⟩ (Zw O n []) _
 refine zQ [0,1,4] ?_
 refine zQ [0,1,4,5] ?_
 refine Ze ?_
 refine zQd [0,4,5,9,10,11] [0,4,5,9,10,11] [true] ?_
 refine G8 (E':=(⟨60,[],[(0,(vI a0)),(4,.ref n 0),(5,.row (n+1) ([]:List Za).length),(9,(sL Z4 a1)),(10,(vI (a1.length:Int))),(11,(vI 0))]⟩:Env)) (O':=(Zw O n [some ⟨false,25,3,1,[(vI 0),nV,nV]⟩,some (oR 25 3 Zb ([]:List Za)),none])) (n':=(n+3)) ?_ ?_
 ·refine Fit2.trans (E':=(⟨60,[],[(0,(vI a0)),(4,.ref n 0),(5,nV),(9,(sL Z4 a1)),(10,(vI (a1.length:Int))),(11,(vI 0))]⟩:Env)) (O':=(Zw O n [some ⟨false,25,3,1,[(vI 0),nV,nV]⟩])) (n':=(n+1)) (Fit2.of (Z6 hU rfl rfl ?_) (by omega)) ?_
  ·exact Gl
  refine Fit2.trans (Zay 5 25 3 rfl (by omega)) ?_
  simp only [Q5,Qi,Vt,Kh,List.set_cons_zero,List.set_cons_succ,List.cons_append,List.nil_append,List.length_cons,List.length_nil,Nat.zero_add,Nat.reduceAdd,Nat.reduceLT,Nat.add_assoc]
  refine Fit2.trans (E':=(⟨60,[],[(0,(vI a0)),(4,.ref n 0),(5,.row (n+1) ([]:List Za).length),(9,(sL Z4 a1)),(10,(vI (a1.length:Int))),(11,(vI 0))]⟩:Env)) (O':=(Zw O n [some ⟨false,25,3,1,[(vI 0),nV,nV]⟩,some (oR 25 3 Zb ([]:List Za))])) (n':=(n+2)) (Fit2.of (Z6 hU rfl rfl ?_) (by omega)) ?_
  ·exact Gl
  refine Jg (k:=2) (k':=3) hU [0,1] [0,1,0] rfl rfl rfl rfl ⟨rfl,rfl⟩ ?_
  exact Gl
 obtain ⟨z18,hz18,h⟩:=bC h
 refine Yj (E':=⟨60,[],[(4,.ref n 0),(5,.row (n+1) z18.length)]⟩) (O':=(Zw O n [some ⟨false,25,3,1,[(vI 0),nV,nV]⟩,some (oR 25 3 Zb z18),none])) (n0:=(n+3)) ?_ ?_
 ·refine Y4 hz18 (fun s0_=>⟨60,[],[(0,(vI a0)),(4,.ref n 0),(5,.row (n+1) s0_.2.length),(9,(sL Z4 a1)),(10,(vI (a1.length:Int))),(11,(vI s0_.1))]⟩) (fun s0_=>(Zw O n [some ⟨false,25,3,1,[(vI 0),nV,nV]⟩,some (oR 25 3 Zb s0_.2),none])) (fun z18=>JX 0 n (⟨60,[],[(4,.ref n 0),(5,.row (n+1) z18.length)]⟩:Env) (Zw O n [some ⟨false,25,3,1,[(vI 0),nV,nV]⟩,some (oR 25 3 Zb z18),none]) (n+3)) ?_
  intro s0_ x0_ hs0_
  unfold Zae at hs0_
  try dsimp only
  refine zQ [0,4,5,9,10,11,12] ?_
  refine Ze ?_
  refine Zo (t:=(decide (s0_.1 < (a1.length:Int)))) rfl (fun c17 => ?_) (fun c17 => ?_)
  ·replace hs0_:=Zn c17 hs0_
   refine Qd [0,4,5,9,10,11] [true,true,false] ?_
   obtain ⟨z1,hz1,hs0_⟩:=bC hs0_
   refine Yu (E':=⟨60,[],[(0,(vI a0)),(4,.ref n 0),(5,.row (n+1) z1.length),(9,(sL Z4 a1)),(10,(vI (a1.length:Int))),(11,(vI s0_.1))]⟩) (O':=(Zw O n [some ⟨false,25,3,1,[(vI 0),nV,nV]⟩,some (oR 25 3 Zb z1),none,none,none,none,none])) (n0:=(n+7)) ?_ ?_
   ·refine Z9 ?_
    refine Ze ?_
    obtain ⟨x3,hx3,ax3,bx3,cx3,hz1⟩:=bE (f:=Z4) Zps (fun _=>rfl) (by decide) hz1
    refine Gc [] ax3 bx3 cx3 ?_
    refine zDs [0,4,5,7,9,10,11] [true,true,false,true] ?_
    refine zR ?_
    refine Ki ⟨60,[],[(0,(vI a0)),(4,.ref n 0),(5,.row (n+1) s0_.2.length),(7,.ref (n+3) 0),(8,.row (n+4) ([(IntKind.u64.wrap (Zci .u64 (IntKind.u64.wrap x3.Kind) (IntKind.u64.wrap ((IntKind.u64.wrap x3.N) * 2 ^ min (Int.toNat 8) 64))))]:List Int).length),(9,(sL Z4 a1)),(10,(vI (a1.length:Int))),(11,(vI s0_.1))]⟩ (Zw O n [some ⟨false,25,3,1,[(vI 0),nV,nV]⟩,some (oR 25 3 Zb s0_.2),none,some ⟨false,89,14,1,(Yy x3)⟩,some (oR 77 1 (eI .u64) ([(IntKind.u64.wrap (Zci .u64 (IntKind.u64.wrap x3.Kind) (IntKind.u64.wrap ((IntKind.u64.wrap x3.N) * 2 ^ min (Int.toNat 8) 64))))]:List Int))]) (Z6 hU rfl rfl ?_) ?_
    ·exact Gl
    refine zQ [0,4,5,7,8,9,10,11,25] ?_
    refine Z9 ?_
    refine zQ [0,4,5,7,8,9,10,11,25,26] ?_
    refine Zo (t:=(x3.Kind == 0)) rfl (fun c16 => ?_) (fun c16 => ?_)
    ·replace hz1:=Zn c16 hz1
     refine Ki ⟨60,[],[(0,(vI a0)),(4,.ref n 0),(5,.row (n+1) s0_.2.length),(8,(sL (eI .u64) ([(IntKind.u64.wrap (Zci .u64 (IntKind.u64.wrap x3.Kind) (IntKind.u64.wrap ((IntKind.u64.wrap x3.N) * 2 ^ min (Int.toNat 8) 64))))]:List Int))),(9,(sL Z4 a1)),(10,(vI (a1.length:Int))),(11,(vI s0_.1))]⟩ (Zw O n [some ⟨false,25,3,1,[(vI 0),nV,nV]⟩,some (oR 25 3 Zb s0_.2),none,none,none]) (Z6 hU rfl rfl ?_) ?_
     ·exact Gl
     obtain ⟨y4,hy4,hz1⟩:=bC hz1
     obtain ⟨l5,pl5,ql5,el5,hz1⟩:=bA (k:=1) rfl hz1
     refine Gu [] pl5 ql5 el5 ?_
     refine GCalls.argsW ?_ ((Km hy4).then ?_)
     ·exact Zjn pl5 ql5 el5
     refine zX3 pl5 ql5 el5 ?_
     exact Zfk hz1 pl5 ql5 el5
    replace hz1:=Zm c16 hz1
    obtain ⟨z6,hz6,hz1⟩:=bC hz1
    refine Yu (E':=⟨60,[],[(0,(vI a0)),(4,.ref n 0),(5,.row (n+1) s0_.2.length),(7,.ref (n+3) 0),(8,.row (n+4) z6.2.length),(9,(sL Z4 a1)),(10,(vI (a1.length:Int))),(11,(vI s0_.1)),(25,(vI x3.Kind)),(33,(vB z6.1))]⟩) (O':=(Zw O n [some ⟨false,25,3,1,[(vI 0),nV,nV]⟩,some (oR 25 3 Zb s0_.2),none,some ⟨false,89,14,1,(Yy x3)⟩,some (oR 77 1 (eI .u64) z6.2)])) (n0:=(n+5)) ?_ ?_
    ·refine zQ [0,4,5,7,8,9,10,11,25,33] ?_
     refine Zo (t:=(x3.Kind == 1)) rfl (fun c7 => ?_) (fun c7 => ?_)
     ·replace hz6:=Zn c7 hz6
      refine zK ?_
      exact Gv hz6
     replace hz6:=Zm c7 hz6
     refine zR ?_
     exact Gv hz6
    refine Zo (t:=z6.1) rfl (fun K9 => ?_) (fun K9 => ?_)
    ·replace hz1:=Zn K9 hz1
     refine Ki ⟨60,[],[(0,(vI a0)),(4,.ref n 0),(5,.row (n+1) s0_.2.length),(7,.ref (n+3) 0),(8,(sL (eI .u64) z6.2)),(9,(sL Z4 a1)),(10,(vI (a1.length:Int))),(11,(vI s0_.1))]⟩ (Zw O n [some ⟨false,25,3,1,[(vI 0),nV,nV]⟩,some (oR 25 3 Zb s0_.2),none,some ⟨false,89,14,1,(Yy x3)⟩,none]) (Z6 hU rfl rfl ?_) ?_
     ·exact Gl
     obtain ⟨y8,hy8,hz1⟩:=bC hz1
     obtain ⟨l9,pl9,ql9,el9,hz1⟩:=bA (k:=1) rfl hz1
     refine Gu [] pl9 ql9 el9 ?_
     refine GCalls.dropL (l':=[some ⟨false,25,3,1,[(vI 0),nV,nV]⟩,some (oR 25 3 Zb s0_.2),none,some ⟨false,89,14,1,(Yy x3)⟩,none,none]) hU rfl ?_ ((Km hy8).then ?_)
     ·exact Zjn pl9 ql9 el9
     refine zX3 pl9 ql9 el9 ?_
     exact Zfk hz1 pl9 ql9 el9
    replace hz1:=Zm K9 hz1
    refine zQ [0,4,5,7,8,9,10,11,46] ?_
    refine Zo (t:=(x3.Kind == 3)) rfl (fun Qk => ?_) (fun Qk => ?_)
    ·replace hz1:=Zn Qk hz1
     refine Ki ⟨60,[],[(0,(vI a0)),(4,.ref n 0),(5,.row (n+1) s0_.2.length),(7,.ref (n+3) 0),(8,(sL (eI .u64) z6.2)),(9,(sL Z4 a1)),(10,(vI (a1.length:Int))),(11,(vI s0_.1))]⟩ (Zw O n [some ⟨false,25,3,1,[(vI 0),nV,nV]⟩,some (oR 25 3 Zb s0_.2),none,some ⟨false,89,14,1,(Yy x3)⟩,none]) (Z6 hU rfl rfl ?_) ?_
     ·exact Gl
     obtain ⟨y11,hy11,hz1⟩:=bC hz1
     obtain ⟨y12,hy12,hz1⟩:=bC hz1
     obtain ⟨l13,pl13,ql13,el13,hz1⟩:=bA (k:=1) rfl hz1
     refine Gu [] pl13 ql13 el13 ?_
     refine (Zdt hy11).then ?_
     refine zX3 pl13 ql13 el13 ?_
     refine GCalls.dropL (l':=[some ⟨false,25,3,1,[(vI 0),nV,nV]⟩,some (oR 25 3 Zb s0_.2),none,some ⟨false,89,14,1,(Yy x3)⟩,none,none]) hU rfl ?_ ((Km hy12).then ?_)
     ·exact Zjn pl13 ql13 el13
     refine zX3 pl13 ql13 el13 ?_
     exact Zfk hz1 pl13 ql13 el13
    replace hz1:=Zm Qk hz1
    refine zK ?_
    exact Gv hz1
   refine zR ?_
   exact Gv hs0_
  replace hs0_:=Zm c17 hs0_
  exact zEx hs0_
 try simp only [Y1,Yc,↓reduceIte,Nat.reduceEqDiff]
 refine zD [4,5] [true,true,false] ?_
 refine Ki ⟨60,[],[(4,.ref n 0),(5,(sL Zb z18))]⟩ (Zw O n [some ⟨false,25,3,1,[(vI 0),nV,nV]⟩,none,none]) (Z6 hU rfl rfl ?_) ?_
 ·exact Gl
 refine Ze ?_
 obtain ⟨y20,hy20,h⟩:=bC h
 refine zCd (Znk hy20) [4] [true,false,false] ?_
 refine zW ?_
 obtain rfl:=sI h
 refine Zg (.inr rfl) hU [.agg (Zd y20)] (by omega) ?_
 simp only [push_cast,seval,↓reduceIte,Zc,Tryz.results56,hN0,hN]
theorem Zu1:∀ k,(Zgk ((Y0 k).1))∧(Zb3 ((Y0 k).2.1))∧(Zc7 ((Y0 k).2.2)):=fun k=>by
 induction k with
 | zero=>exact ⟨@fun a0 r O n h=>(nomatch (show (none:Option _)=some _ from h)),@fun a0 r O n h=>(nomatch (show (none:Option _)=some _ from h)),@fun a0 a1 r O n h=>(nomatch (show (none:Option _)=some _ from h))⟩
 | succ k ih=>exact ⟨@fun a0 r O n h=>Zyc (ih.1) (ih.2.1) (ih.2.2)  h,@fun a0 r O n h=>Zr7 (ih.1) (ih.2.1) (ih.2.2)  h,@fun a0 a1 r O n h=>Ztk (ih.1) (ih.2.1) (ih.2.2)  h⟩
theorem Zq7 {a0:Zf} {r:Za} {O:Objs} {n:Nat} (h:Zj6 a0=some r):GTo Tryz.prog 16 [.agg (Zi a0)] O n (.agg (Zd r)) O n:=by
 obtain ⟨k,hk⟩:=V0 h
 exact (Zu1 k).1  hk
theorem Zbm {a0:(List Int)} {r:(List Int)} {O:Objs} {n:Nat} (h:V7 a0=some r):GTo Tryz.prog 106 [(sL (eI .u64) a0)] O n ((sL (eI .u64) r)) O n:=by
 unfold V7 at h
 refine K6 Zq Tryz.call106 Tryz.func106 rfl fun hU hN0 hN => ?_
 show W _ _ _ _ ⟨22,[],[(0,(sL (eI .u64) a0))]⟩ (Zw O n []) _
 refine zQ [0] ?_
 refine zQ [0,3] ?_
 refine Ze ?_
 refine zD [0,3] [] ?_
 obtain ⟨z7,hz7,h⟩:=bC h
 refine Yj (E':=⟨22,[],[(0,(sL (eI .u64) a0)),(3,(vI z7))]⟩) (O':=(Zw O n [])) (n0:=n) ?_ ?_
 ·refine Y4 hz7 (fun s0_=>⟨22,[],[(0,(sL (eI .u64) a0)),(3,(vI s0_))]⟩) (fun s0_=>(Zw O n [])) (fun z7=>JX 0 n (⟨22,[],[(0,(sL (eI .u64) a0)),(3,(vI z7))]⟩:Env) (Zw O n []) n) ?_
  intro s0_ x0_ hs0_
  unfold Gs at hs0_
  try dsimp only
  refine Ze ?_
  obtain ⟨z2,hz2,hs0_⟩:=bC hs0_
  refine Yu (E':=⟨22,[],[(0,(sL (eI .u64) a0)),(3,(vI s0_)),(15,(vB z2))]⟩) (O':=(Zw O n [])) (n0:=n) ?_ ?_
  ·rcases Bool.eq_false_or_eq_true (decide (0 < s0_)) with c5 | c5
   ·replace hz2:=Zn c5 hz2
    obtain ⟨x4,hx4,ax4,bx4,cx4,hz2⟩:=bE (f:=(eI .u64)) Zbn (fun _=>rfl) (by decide) hz2
    refine Yb5 [some true,some true,some true,some true,some true,some true] c5 ax4 bx4 cx4 ?_
    exact Yjf hz2 c5 ax4 bx4 cx4
   replace hz2:=Zm c5 hz2
   refine Q2 [some false,some false,some false,some false,some false,some false] c5 ?_
   exact Qf hz2 c5
  refine Zo (t:=z2) rfl (fun c6 => ?_) (fun c6 => ?_)
  ·replace hs0_:=Zn c6 hs0_
   refine Qd [0,3] [] ?_
   refine Z9 ?_
   refine zR ?_
   exact Gv hs0_
  replace hs0_:=Zm c6 hs0_
  exact zEx hs0_
 try simp only [Y1,Yc,↓reduceIte,Nat.reduceEqDiff]
 refine zD [0,3] [] ?_
 obtain ⟨l9,al9,bl9,cl9,gl9,h⟩:=bS3 (lo:=none) (hi:=(.i64,z7)) (f:=(eI .u64)) rfl rfl Zkc Zbn (fun _=>rfl) h
 refine Yo3 [2] al9 bl9 cl9 gl9 ?_
 refine zW ?_
 obtain rfl:=sI h
 refine Zg (.inr rfl) hU [(sL (eI .u64) l9)] (by omega) ?_
 simp only [push_cast,seval,↓reduceIte,Zc,Tryz.results106,hN0,hN]
theorem Zis {a0:(List Za)} {r:(List Za)} {O:Objs} {n:Nat} (h:Gi a0=some r):GTo Tryz.prog 108 [(sL Zb a0)] O n ((sL Zb r)) O n:=by
 unfold Gi at h
 refine K6 Zq Tryz.call108 Tryz.func108 rfl fun hU hN0 hN => ?_
 show W _ _ _ _ ⟨23,[],[(0,(sL Zb a0))]⟩ (Zw O n []) _
 refine zQ [0] ?_
 refine zQ [0,3] ?_
 refine Ze ?_
 refine zD [0,3] [] ?_
 obtain ⟨z10,hz10,h⟩:=bC h
 refine Yj (E':=⟨23,[],[(0,(sL Zb a0)),(3,(vI z10))]⟩) (O':=(Zw O n [])) (n0:=n) ?_ ?_
 ·refine Y4 hz10 (fun s0_=>⟨23,[],[(0,(sL Zb a0)),(3,(vI s0_))]⟩) (fun s0_=>(Zw O n [])) (fun z10=>JX 0 n (⟨23,[],[(0,(sL Zb a0)),(3,(vI z10))]⟩:Env) (Zw O n []) n) ?_
  intro s0_ x0_ hs0_
  unfold Zan at hs0_
  try dsimp only
  refine Ze ?_
  obtain ⟨z3,hz3,hs0_⟩:=bC hs0_
  refine Yu (E':=⟨23,[],[(0,(sL Zb a0)),(3,(vI s0_)),(16,(vB z3))]⟩) (O':=(Zw O n [])) (n0:=n) ?_ ?_
  ·rcases Bool.eq_false_or_eq_true (decide (0 < s0_)) with c8 | c8
   ·replace hz3:=Zn c8 hz3
    obtain ⟨x6,hx6,ax6,bx6,cx6,hz3⟩:=bE (f:=Zb) Uc (fun _=>rfl) (by decide) hz3
    have g7:=Zna (f:=Zb) (sz:=3) Z4q (fun _=>rfl) (by decide) (by decide) hx6
    refine Z7p [some true,some true,some true,some true,some true,some true,some true] c8 ax6 bx6 cx6 g7 ?_
    exact Yjg hz3 c8 ax6 bx6 cx6 g7
   replace hz3:=Zm c8 hz3
   refine Q2 [some false,some false,some false,some false,some false,some false,some false] c8 ?_
   exact Qf hz3 c8
  refine Zo (t:=z3) rfl (fun c9 => ?_) (fun c9 => ?_)
  ·replace hs0_:=Zn c9 hs0_
   refine Qd [0,3] [] ?_
   refine Z9 ?_
   refine zR ?_
   exact Gv hs0_
  replace hs0_:=Zm c9 hs0_
  exact zEx hs0_
 try simp only [Y1,Yc,↓reduceIte,Nat.reduceEqDiff]
 refine zD [0,3] [] ?_
 obtain ⟨l12,al12,bl12,cl12,gl12,h⟩:=bS3 (lo:=none) (hi:=(.i64,z10)) (f:=Zb) rfl rfl Zql Uc (fun _=>rfl) h
 refine Yo3 [2] al12 bl12 cl12 gl12 ?_
 refine zW ?_
 obtain rfl:=sI h
 refine Zg (.inr rfl) hU [(sL Zb l12)] (by omega) ?_
 simp only [push_cast,seval,↓reduceIte,Zc,Tryz.results108,hN0,hN]
def Zo7 (Zcz:(Za→Option Za)):Prop:=∀ {a0:Za} {r:Za} {O:Objs} {n:Nat},Zcz a0=some r→GTo Tryz.prog 81 [.agg (Zd a0)] O n (.agg (Zd r)) O n
theorem Z1a {Zcz:(Za→Option Za)} (Zx9:Zo7 Zcz) {a0:Za} {r:Za} {O:Objs} {n:Nat} (h:Zi3 Zcz a0=some r):GTo Tryz.prog 81 [.agg (Zd a0)] O n (.agg (Zd r)) O n:=by
 unfold Zi3 at h
 refine K6 Zq Tryz.call81 Tryz.func81 rfl fun hU hN0 hN => ?_
 show W _ _ _ _ ⟨49,[],[(0,.agg (Zd a0))]⟩ (Zw O n []) _
 refine zQ [1,2] ?_
 refine Ze ?_
 refine zQ [1,2,10] ?_
 refine Zo (t:=(a0.Kind == 0)) rfl (fun K9 => ?_) (fun K9 => ?_)
 ·replace h:=Zn K9 h
  refine Ze ?_
  refine zRd [2] [false,true] ?_
  refine zW ?_
  obtain rfl:=sI h
  refine Zg (.inr rfl) hU [.agg [(vI 0),nV,nV]] (by omega) ?_
  simp only [push_cast,seval,↓reduceIte,Zc,Tryz.results81,hN0,hN]
 replace h:=Zm K9 h
 refine Qd [1,2] [true,true] ?_
 refine Zhc [1,2,3,4] (X9 Zq (by kernel_rfl) [] (by kernel_rfl) ?_)
 refine zS ?_
 obtain ⟨z1,hz1,h⟩:=bC h
 refine Yu (E':=⟨49,[],[(1,.ref n 0),(2,.ref (n+1) 0),(3,(sL (eI .u64) z1.1)),(4,(sL Zb z1.2))]⟩) (O':=(Zw O n [some ⟨false,25,3,1,(Zd a0)⟩,some ⟨false,25,3,1,[(vI 0),nV,nV]⟩])) (n0:=(n+2)) ?_ ?_
 ·refine zQ [1,2,3,4,18] ?_
  refine Zo (t:=(a0.Kind == 1)) rfl (fun c4 => ?_) (fun c4 => ?_)
  ·replace hz1:=Zn c4 hz1
   obtain ⟨y2,hy2,hz1⟩:=bC hz1
   obtain ⟨y3,hy3,hz1⟩:=bC hz1
   refine zC (Zbm hy2) ?_
   refine zTs (Zis hy3) ?_
   exact Gv hz1
  replace hz1:=Zm c4 hz1
  refine zK ?_
  exact Gv hz1
 refine Ze ?_
 refine zRd [2,4,5] [false,true,true] ?_
 obtain ⟨z5,hz5,h⟩:=bC h
 refine Yu (E':=⟨49,[],[(2,.ref (n+1) 0),(4,(sL Zb z1.2)),(5,.ref (n+2) 0)]⟩) (O':=(Zw O n [none,some ⟨false,25,3,1,[(vI 0),nV,nV]⟩,some ⟨false,25,3,1,[(vI a0.Kind),(sL (eI .u64) z1.1),.row (n+4) z5.length]⟩,none,some (oR 25 3 Zb z5),none])) (n0:=(n+6)) ?_ ?_
 ·refine zQ [2,4,5,29] ?_
  refine Zo (t:=(decide (0 < (z1.2.length:Int)))) rfl (fun c7 => ?_) (fun c7 => ?_)
  ·replace hz5:=Zn c7 hz5
   obtain ⟨l6,al6,bl6,cl6,el6,hz5⟩:=bM2 (c:=56) rfl hz5
   have nl6:Int.toNat (z1.2.length:Int)=List.length l6:=by rw [el6,List.length_replicate]
   have fl6:∀ O O' n,wkl O O' n (List.replicate (List.length l6) [.val (.int .i64 0),.val (.slice none 0 0),.val (.slice none 0 0)]).flatten (fl Zb l6)=True:=fun O O' n=>by rw [← nl6,el6];exact eq_true (Z7o (by simp only [push_cast,seval,↓reduceIte,Zc]) _)
   clear el6
   refine Yt Zq [] ?_
   simp only [push_cast,seval,↓reduceIte,Zc,al6,bl6,cl6,fl6,nl6,hN0,hN]
   obtain rfl:=sI hz5
   refine And.intro rfl ?_
   refine Fit2.trans (E':=(⟨49,[],[(2,.ref (n+1) 0),(4,(sL Zb z1.2)),(5,.ref (n+2) 0)]⟩:Env)) (O':=(Zw O n [none,some ⟨false,25,3,1,[(vI 0),nV,nV]⟩,some ⟨false,25,3,1,[(vI a0.Kind),(sL (eI .u64) z1.1),.row (n+3) l6.length]⟩,some (oR 25 3 Zb l6)])) (n':=(n+4)) (Fit2.of (Z6 hU rfl rfl ?_) (by omega)) ?_
   ·simp only [push_cast,seval,↓reduceIte,Zc,al6,bl6,cl6,fl6,nl6,hN0,hN]
   refine Jg (k:=4) (k':=6) hU [5,1,2,4] [0,1,2,0,3,0] rfl rfl rfl rfl ⟨rfl,rfl⟩ ?_
   exact Gl
  replace hz5:=Zm c7 hz5
  refine zK ?_
  obtain rfl:=sI hz5
  refine And.intro rfl ?_
  refine Fit2.trans (E':=(⟨49,[],[(2,.ref (n+1) 0),(4,(sL Zb z1.2)),(5,.ref (n+2) 0)]⟩:Env)) (O':=(Zw O n [none,some ⟨false,25,3,1,[(vI 0),nV,nV]⟩,some ⟨false,25,3,1,[(vI a0.Kind),(sL (eI .u64) z1.1),nV]⟩])) (n':=(n+3)) (Fit2.of (Z6 hU rfl rfl ?_) (by omega)) ?_
  ·exact Gl
  refine Fit2.trans (Zgn (p:=(n+2)) (k:=2) (q:=⟨false,25,3,1,[(vI a0.Kind),(sL (eI .u64) z1.1),nV]⟩) 25 3 (by simp only [Zc1,Zi1,List.getElem?_cons_zero,List.getElem?_cons_succ,Option.join_some,List.length_nil,Xo]) rfl (by omega)) ?_
  simp only [Q5,Qi,Vt,Kh,List.set_cons_zero,List.set_cons_succ,List.cons_append,List.nil_append,List.length_cons,List.length_nil,Nat.zero_add,Nat.reduceAdd,Nat.reduceLT,Nat.add_assoc]
  refine Jg (k:=4) (k':=6) hU [5,1,2,4] [0,1,2,0,3,0] rfl rfl rfl rfl ⟨rfl,rfl⟩ ?_
  exact Gl
 refine Ze ?_
 refine zQd [2,5,34,35,36] [2,5,34,35,36] [false,true,true,false,true,false] ?_
 obtain ⟨z14,hz14,h⟩:=bC h
 refine Yj (E':=⟨49,[],[(2,.ref (n+1) 0),(5,.ref (n+2) 0)]⟩) (O':=(Zw O n [none,some ⟨false,25,3,1,[(vI 0),nV,nV]⟩,some ⟨false,25,3,1,[(vI a0.Kind),(sL (eI .u64) z1.1),.row (n+4) z14.length]⟩,none,some (oR 25 3 Zb z14),none])) (n0:=(n+6)) ?_ ?_
 ·refine Y4 hz14 (fun s0_=>⟨49,[],[(2,.ref (n+1) 0),(5,.ref (n+2) 0),(34,(sL Zb z1.2)),(35,(vI (z1.2.length:Int))),(36,(vI s0_.1))]⟩) (fun s0_=>(Zw O n [none,some ⟨false,25,3,1,[(vI 0),nV,nV]⟩,some ⟨false,25,3,1,[(vI a0.Kind),(sL (eI .u64) z1.1),.row (n+4) s0_.2.length]⟩,none,some (oR 25 3 Zb s0_.2),none])) (fun z14=>JX 0 n (⟨49,[],[(2,.ref (n+1) 0),(5,.ref (n+2) 0)]⟩:Env) (Zw O n [none,some ⟨false,25,3,1,[(vI 0),nV,nV]⟩,some ⟨false,25,3,1,[(vI a0.Kind),(sL (eI .u64) z1.1),.row (n+4) z14.length]⟩,none,some (oR 25 3 Zb z14),none]) (n+6)) ?_
  intro s0_ x0_ hs0_
  unfold Zcb at hs0_
  try dsimp only
  refine zQ [2,5,34,35,36,37] ?_
  refine Ze ?_
  refine Zo (t:=(decide (s0_.1 < (z1.2.length:Int)))) rfl (fun Kj => ?_) (fun Kj => ?_)
  ·replace hs0_:=Zn Kj hs0_
   refine Qd [2,5,34,35,36] [false,true,true,false,true,false] ?_
   refine Ze ?_
   refine Z9 ?_
   refine Ze ?_
   obtain ⟨x9,hx9,ax9,bx9,cx9,hs0_⟩:=bE (f:=Zb) Uc (fun _=>rfl) (by decide) hs0_
   refine Gc [] ax9 bx9 cx9 ?_
   refine zD [2,5,6,7,34,35,36] [false,true,true,false,true,false,true] ?_
   obtain ⟨y10,hy10,hs0_⟩:=bC hs0_
   obtain ⟨x11,hx11,ax11,bx11,cx11,hs0_⟩:=bE (f:=Zb) Uc (fun _=>rfl) (by decide) hs0_
   have gu12:Gg (fl Zb s0_.2) [.val (.int .i64 y10.Kind),.sl y10.Words.length (fl (eI .u64) y10.Words),.sl y10.Kids.length (fl Zb y10.Kids)] (Int.toNat s0_.1 * 3)=some (fl Zb (Zka s0_.2 s0_.1 y10)):=(congrArg (fun c=>Gg (fl Zb s0_.2) c (Int.toNat s0_.1 * 3)) (show [.val (.int .i64 y10.Kind),.sl y10.Words.length (fl (eI .u64) y10.Words),.sl y10.Kids.length (fl Zb y10.Kids)]=Zb y10 from by simp only [Zb,Xe,eI,eB,eS,eL])).trans (Zio (f:=Zb) (ti:=⟨.bool,3,0,[],false⟩) (x:=y10) (fun _=>rfl) (Zep hx11))
   refine Zgh Zq (by kernel_rfl) [false,false,false,false,false,false,true] [] (by kernel_rfl) ?_
   refine zF4 ax11 bx11 cx11 gu12 ?_
   refine PCall.of (Zx9 hy10) ?_
   refine zF4 ax11 bx11 cx11 gu12 ?_
   refine zD [2,5,34,35,36] [false,true,true,false,true,false,false] ?_
   refine zR ?_
   exact Gv hs0_
  replace hs0_:=Zm Kj hs0_
  exact zEx hs0_
 try simp only [Y1,Yc,↓reduceIte,Nat.reduceEqDiff]
 refine zDs [2,5] [false,true,true,false,true,false] ?_
 refine zRd [2] [false,true,false,false,true,false] ?_
 refine zW ?_
 obtain rfl:=sI h
 refine Zg (.inr rfl) hU [.agg [(vI a0.Kind),(sL (eI .u64) z1.1),.row (n+4) z14.length]] (by omega) ?_
 simp only [push_cast,seval,↓reduceIte,Zc,Tryz.results81,hN0,hN]
theorem Zwf:∀ k,(Zo7 (Gw k)):=fun k=>by
 induction k with
 | zero=>exact @fun a0 r O n h=>(nomatch (show (none:Option _)=some _ from h))
 | succ k ih=>exact @fun a0 r O n h=>Z1a (ih)  h
theorem Znn {a0:Za} {r:Za} {O:Objs} {n:Nat} (h:Zjd a0=some r):GTo Tryz.prog 81 [.agg (Zd a0)] O n (.agg (Zd r)) O n:=by
 obtain ⟨k,hk⟩:=V0 h
 exact (Zwf k)  hk
theorem Z3q {a0:Int} {r:Bool} {O:Objs} {n:Nat} (h:Zlx a0=some r):GTo Tryz.prog 236 [(vI a0)] O n ((vB r)) O n:=by
 unfold Zlx at h
 refine K6 Zq Tryz.call236 Tryz.func236 rfl fun hU hN0 hN => ?_
 show W _ _ _ _ ⟨9,[],[(0,(vI a0))]⟩ (Zw O n []) _
 refine zQ [0] ?_
 refine zQD [2] [none,none] ?_
 refine zW ?_
 obtain rfl:=sI h
 refine Zg (.inr rfl) hU [(vB (cond (decide (2≤a0)) (decide (a0≤7)) false))] (by omega) ?_
 simp only [push_cast,seval,↓reduceIte,Zc,Tryz.results236,hN0,hN]
theorem Zth {a0:Int} {a1:Int} {r:Int} {O:Objs} {n:Nat} (h:Zg4 a0 a1=some r):GTo Tryz.prog 237 [(vI a0),(vI a1)] O n ((vI r)) O n:=by
 unfold Zg4 at h
 refine K6 Zq Tryz.call237 Tryz.func237 rfl fun hU hN0 hN => ?_
 show W _ _ _ _ ⟨27,[],[(0,(vI a0)),(1,(vI a1))]⟩ (Zw O n []) _
 refine zQ [0,1] ?_
 refine Ze ?_
 obtain ⟨y2,hy2,h⟩:=bC h
 refine zCd (Zgg hy2) [1,5,6] [] ?_
 refine Ze ?_
 refine zQD [1,5,21] [none,none,none,none] ?_
 refine Zo (t:=(cond (cond (!y2.2) true (decide (a1 < 0))) true (decide (1099511627776 < a1)))) rfl (fun c3 => ?_) (fun c3 => ?_)
 ·replace h:=Zn c3 h
  refine zQ [4] ?_
  refine zW ?_
  obtain rfl:=sI h
  refine Zg (.inr rfl) hU [(vI 0)] (by omega) ?_
  simp only [push_cast,seval,↓reduceIte,Zc,Tryz.results237,hN0,hN]
 replace h:=Zm c3 h
 refine Qd [1,5] [] ?_
 refine zQ [4] ?_
 refine zW ?_
 obtain rfl:=sI h
 refine Zg (.inr rfl) hU [(vI (IntKind.i64.wrap (Int.tdiv (IntKind.i64.wrap ((IntKind.i64.wrap (a1 * y2.1))+63)) 64)))] (by omega) ?_
 simp only [push_cast,seval,↓reduceIte,Zc,Tryz.results237,hN0,hN]
theorem Zma {a0:Za} {r:(Int×Int)} {O:Objs} {n:Nat} (h:Zc5 a0=some r):GTo Tryz.prog 238 [.agg (Zd a0)] O n (.tup [(vI r.1),(vI r.2)]) O n:=by
 unfold Zc5 at h
 refine K6 Zq Tryz.call238 Tryz.func238 rfl fun hU hN0 hN => ?_
 show W _ _ _ _ ⟨28,[],[(0,.agg (Zd a0))]⟩ (Zw O n []) _
 refine zQ [1] ?_
 refine zQ [1,4,5] ?_
 refine Ze ?_
 refine zQd [4,5,9,10,11] [4,5,9,10,11] [false] ?_
 obtain ⟨z4,hz4,h⟩:=bC h
 refine Yj (E':=⟨28,[],[(4,(vI z4.1)),(5,(vI z4.2))]⟩) (O':=(Zw O n [none])) (n0:=(n+1)) ?_ ?_
 ·refine Y4 hz4 (fun s0_=>⟨28,[],[(4,(vI s0_.1)),(5,(vI s0_.2.1)),(9,(sL Zb a0.Kids)),(10,(vI (a0.Kids.length:Int))),(11,(vI s0_.2.2))]⟩) (fun s0_=>(Zw O n [none])) (fun z4=>JX 0 n (⟨28,[],[(4,(vI z4.1)),(5,(vI z4.2))]⟩:Env) (Zw O n [none]) (n+1)) ?_
  intro s0_ x0_ hs0_
  unfold Zdp at hs0_
  try dsimp only
  refine zQ [4,5,9,10,11,12] ?_
  refine Ze ?_
  refine Zo (t:=(decide (s0_.2.2 < (a0.Kids.length:Int)))) rfl (fun c3 => ?_) (fun c3 => ?_)
  ·replace hs0_:=Zn c3 hs0_
   refine Qd [4,5,9,10,11] [false] ?_
   refine Ze ?_
   refine Z9 ?_
   refine Ze ?_
   obtain ⟨x2,hx2,ax2,bx2,cx2,hs0_⟩:=bE (f:=Zb) Uc (fun _=>rfl) (by decide) hs0_
   refine Gc [] ax2 bx2 cx2 ?_
   refine zD [4,5,7,9,10,11] [false,true] ?_
   refine X9 Zq (by kernel_rfl) [] (by kernel_rfl) ?_
   refine zS ?_
   refine zD [4,5,9,10,11] [false,false] ?_
   refine zR ?_
   exact Gv hs0_
  replace hs0_:=Zm c3 hs0_
  exact zEx hs0_
 try simp only [Y1,Yc,↓reduceIte,Nat.reduceEqDiff]
 refine zD [4,5] [false] ?_
 refine zQ [2,3] ?_
 refine zW ?_
 obtain rfl:=sI h
 refine Zg (.inr rfl) hU [(vI z4.1),(vI z4.2)] (by omega) ?_
 simp only [push_cast,seval,↓reduceIte,Zc,Tryz.results238,hN0,hN]
def Zkq (Vp:(Za→Option Int)):Prop:=∀ {a0:Za} {r:Int} {O:Objs} {n:Nat},Vp a0=some r→GTo Tryz.prog 175 [.agg (Zd a0)] O n ((vI r)) O n
def Zjs (Jo:((List Za)→Option Int)):Prop:=∀ {a0:(List Za)} {r:Int} {O:Objs} {n:Nat},Jo a0=some r→GTo Tryz.prog 235 [(sL Zb a0)] O n ((vI r)) O n
theorem Z1b {Vp:(Za→Option Int)} {Jo:((List Za)→Option Int)} (Zpb:Zkq Vp) (Zgm:Zjs Jo) {a0:Za} {r:Int} {O:Objs} {n:Nat} (h:Zi4 Vp Jo a0=some r):GTo Tryz.prog 175 [.agg (Zd a0)] O n ((vI r)) O n:=by
 unfold Zi4 at h
 refine K6 Zq Tryz.call175 Tryz.func175 rfl fun hU hN0 hN => ?_
 show W _ _ _ _ ⟨76,[],[(0,.agg (Zd a0))]⟩ (Zw O n []) _
 refine zQ [1] ?_
 refine Ze ?_
 refine Z9 ?_
 refine zQ [1,8] ?_
 refine Zo (t:=(a0.Kind == 1)) rfl (fun c19 => ?_) (fun c19 => ?_)
 ·replace h:=Zn c19 h
  refine Ze ?_
  obtain ⟨y2,hy2,h⟩:=bC h
  refine X9 Zq (by kernel_rfl) [] (by kernel_rfl) ?_
  refine zS ?_
  refine PCall.of (Zgm hy2) ?_
  refine zS ?_
  refine zD [2] [false] ?_
  refine zW ?_
  obtain rfl:=sI h
  refine Zg (.inr rfl) hU [(vI (IntKind.i64.wrap ((IntKind.i64.wrap ((a0.Words.length:Int)+(a0.Kids.length:Int)))+y2)))] (by omega) ?_
  simp only [push_cast,seval,↓reduceIte,Zc,Tryz.results175,hN0,hN]
 replace h:=Zm c19 h
 refine Ze ?_
 obtain ⟨y4,hy4,h⟩:=bC h
 refine zCd (Z3q hy4) [1,23] [true] ?_
 refine Zo (t:=y4) rfl (fun c18 => ?_) (fun c18 => ?_)
 ·replace h:=Zn c18 h
  refine Ze ?_
  obtain ⟨y6,hy6,h⟩:=bC h
  refine zCd (Zth hy6) [2] [false] ?_
  refine zW ?_
  obtain rfl:=sI h
  refine Zg (.inr rfl) hU [(vI y6)] (by omega) ?_
  simp only [push_cast,seval,↓reduceIte,Zc,Tryz.results175,hN0,hN]
 replace h:=Zm c18 h
 refine zQ [1,34] ?_
 refine Zo (t:=(a0.Kind == 8)) rfl (fun c17 => ?_) (fun c17 => ?_)
 ·replace h:=Zn c17 h
  refine Ze ?_
  obtain ⟨y8,hy8,h⟩:=bC h
  refine X9 Zq (by kernel_rfl) [] (by kernel_rfl) ?_
  refine zS ?_
  refine PCall.of (Zgm hy8) ?_
  refine zS ?_
  refine zD [2] [false] ?_
  refine zW ?_
  obtain rfl:=sI h
  refine Zg (.inr rfl) hU [(vI (IntKind.i64.wrap ((a0.Kids.length:Int)+y8)))] (by omega) ?_
  simp only [push_cast,seval,↓reduceIte,Zc,Tryz.results175,hN0,hN]
 replace h:=Zm c17 h
 refine zQ [1,45] ?_
 refine Zo (t:=(a0.Kind == 9)) rfl (fun c16 => ?_) (fun c16 => ?_)
 ·replace h:=Zn c16 h
  refine Ze ?_
  obtain ⟨y10,hy10,h⟩:=bC h
  refine zCd (Zma hy10) [1,3,4] [true] ?_
  refine zQ [1,5] ?_
  refine Ze ?_
  refine zQd [5,63,64,65] [5,63,64,65] [false] ?_
  obtain ⟨z15,hz15,h⟩:=bC h
  refine Yj (E':=⟨76,[],[(5,(vI z15))]⟩) (O':=(Zw O n [none])) (n0:=(n+1)) ?_ ?_
  ·refine Y4 hz15 (fun s0_=>⟨76,[],[(5,(vI s0_.1)),(63,(sL Zb a0.Kids)),(64,(vI (a0.Kids.length:Int))),(65,(vI s0_.2))]⟩) (fun s0_=>(Zw O n [none])) (fun z15=>JX 1 n (⟨76,[],[(5,(vI z15))]⟩:Env) (Zw O n [none]) (n+1)) ?_
   intro s0_ x0_ hs0_
   unfold Zcc at hs0_
   try dsimp only
   refine zQ [5,63,64,65,66] ?_
   refine Ze ?_
   refine Zo (t:=(decide (s0_.2 < (a0.Kids.length:Int)))) rfl (fun Qk => ?_) (fun Qk => ?_)
   ·replace hs0_:=Zn Qk hs0_
    refine Qd [5,63,64,65] [false] ?_
    refine Ze ?_
    refine Z9 ?_
    refine Ze ?_
    obtain ⟨x12,hx12,ax12,bx12,cx12,hs0_⟩:=bE (f:=Zb) Uc (fun _=>rfl) (by decide) hs0_
    refine Gc [] ax12 bx12 cx12 ?_
    refine zD [5,7,63,64,65] [false,true] ?_
    obtain ⟨y13,hy13,hs0_⟩:=bC hs0_
    refine zCd (Zgm hy13) [5,63,64,65] [false,false] ?_
    refine zR ?_
    exact Gv hs0_
   replace hs0_:=Zm Qk hs0_
   exact zEx hs0_
  try simp only [Y1,Yc,↓reduceIte,Nat.reduceEqDiff]
  refine zD [5] [false] ?_
  refine zQ [2] ?_
  refine zW ?_
  obtain rfl:=sI h
  refine Zg (.inr rfl) hU [(vI z15)] (by omega) ?_
  simp only [push_cast,seval,↓reduceIte,Zc,Tryz.results175,hN0,hN]
 replace h:=Zm c16 h
 refine Qd [] [false] ?_
 refine zQ [2] ?_
 refine zW ?_
 obtain rfl:=sI h
 refine Zg (.inr rfl) hU [(vI 0)] (by omega) ?_
 simp only [push_cast,seval,↓reduceIte,Zc,Tryz.results175,hN0,hN]
theorem Zyh {Vp:(Za→Option Int)} {Jo:((List Za)→Option Int)} (Zpb:Zkq Vp) (Zgm:Zjs Jo) {a0:(List Za)} {r:Int} {O:Objs} {n:Nat} (h:Zhk Vp Jo a0=some r):GTo Tryz.prog 235 [(sL Zb a0)] O n ((vI r)) O n:=by
 unfold Zhk at h
 refine K6 Zq Tryz.call235 Tryz.func235 rfl fun hU hN0 hN => ?_
 show W _ _ _ _ ⟨18,[],[(0,(sL Zb a0))]⟩ (Zw O n []) _
 refine zQ [0] ?_
 refine zQ [0,3] ?_
 refine Ze ?_
 refine zQd [3,6,7,8] [3,6,7,8] [] ?_
 obtain ⟨z5,hz5,h⟩:=bC h
 refine Yj (E':=⟨18,[],[(3,(vI z5))]⟩) (O':=(Zw O n [])) (n0:=n) ?_ ?_
 ·refine Y4 hz5 (fun s0_=>⟨18,[],[(3,(vI s0_.1)),(6,(sL Zb a0)),(7,(vI (a0.length:Int))),(8,(vI s0_.2))]⟩) (fun s0_=>(Zw O n [])) (fun z5=>JX 0 n (⟨18,[],[(3,(vI z5))]⟩:Env) (Zw O n []) n) ?_
  intro s0_ x0_ hs0_
  unfold Zaz at hs0_
  try dsimp only
  refine zQ [3,6,7,8,9] ?_
  refine Ze ?_
  refine Zo (t:=(decide (s0_.2 < (a0.length:Int)))) rfl (fun c4 => ?_) (fun c4 => ?_)
  ·replace hs0_:=Zn c4 hs0_
   refine Qd [3,6,7,8] [] ?_
   refine Ze ?_
   refine Z9 ?_
   refine Ze ?_
   obtain ⟨x2,hx2,ax2,bx2,cx2,hs0_⟩:=bE (f:=Zb) Uc (fun _=>rfl) (by decide) hs0_
   refine Gc [] ax2 bx2 cx2 ?_
   refine zD [3,5,6,7,8] [true] ?_
   obtain ⟨y3,hy3,hs0_⟩:=bC hs0_
   refine zCd (Zpb hy3) [3,6,7,8] [false] ?_
   refine zR ?_
   exact Gv hs0_
  replace hs0_:=Zm c4 hs0_
  exact zEx hs0_
 try simp only [Y1,Yc,↓reduceIte,Nat.reduceEqDiff]
 refine zD [3] [] ?_
 refine zQ [2] ?_
 refine zW ?_
 obtain rfl:=sI h
 refine Zg (.inr rfl) hU [(vI z5)] (by omega) ?_
 simp only [push_cast,seval,↓reduceIte,Zc,Tryz.results235,hN0,hN]
theorem Zwg:∀ k,(Zkq ((X4 k).1))∧(Zjs ((X4 k).2)):=fun k=>by
 induction k with
 | zero=>exact ⟨@fun a0 r O n h=>(nomatch (show (none:Option _)=some _ from h)),@fun a0 r O n h=>(nomatch (show (none:Option _)=some _ from h))⟩
 | succ k ih=>exact ⟨@fun a0 r O n h=>Z1b (ih.1) (ih.2)  h,@fun a0 r O n h=>Zyh (ih.1) (ih.2)  h⟩
theorem Z3s {a0:Za} {r:Int} {O:Objs} {n:Nat} (h:Zo6 a0=some r):GTo Tryz.prog 175 [.agg (Zd a0)] O n ((vI r)) O n:=by
 obtain ⟨k,hk⟩:=V0 h
 exact (Zwg k).1  hk
theorem Z3r {a0:Za} {r:Int} {O:Objs} {n:Nat} (h:Zey a0=some r):GTo Tryz.prog 115 [.agg (Zd a0)] O n ((vI r)) O n:=by
 unfold Zey at h
 refine K6 Zq Tryz.call115 Tryz.func115 rfl fun hU hN0 hN => ?_
 show W _ _ _ _ ⟨6,[],[(0,.agg (Zd a0))]⟩ (Zw O n []) _
 refine zQ [1] ?_
 refine Ze ?_
 obtain ⟨y3,hy3,h⟩:=bC h
 obtain ⟨y4,hy4,h⟩:=bC h
 refine zC (Znn hy3) ?_
 refine zTs (Z3s hy4) ?_
 refine zD [2] [false] ?_
 refine zW ?_
 obtain rfl:=sI h
 refine Zg (.inr rfl) hU [(vI y4)] (by omega) ?_
 simp only [push_cast,seval,↓reduceIte,Zc,Tryz.results115,hN0,hN]
theorem Zx8 {a0:Za} {r:Xk} {O:Objs} {n:Nat} (h:Zi2 a0=some r):GTo Tryz.prog 176 [.agg (Zd a0)] O n (.agg (Q7 r)) O n:=by
 unfold Zi2 at h
 refine K6 Zq Tryz.call176 Tryz.func176 rfl fun hU hN0 hN => ?_
 show W _ _ _ _ ⟨38,[],[(0,.agg (Zd a0))]⟩ (Zw O n []) _
 refine zQ [1,2] ?_
 refine Ze ?_
 refine zQ [1,2,6] ?_
 refine Z9 ?_
 refine zQ [1,2,6,7] ?_
 refine Zo (t:=(a0.Kind == 1)) rfl (fun c4 => ?_) (fun c4 => ?_)
 ·replace h:=Zn c4 h
  refine Ze ?_
  refine zRd [2] [false,true] ?_
  refine zW ?_
  obtain rfl:=sI h
  refine Zg (.inr rfl) hU [.agg [(vI 1),(vI 0),(vI (a0.Words.length:Int)),(vI (a0.Kids.length:Int)),(vI 0),(vI 0),(vI 0),(vB false)]] (by omega) ?_
  simp only [push_cast,seval,↓reduceIte,Zc,Tryz.results176,hN0,hN]
 replace h:=Zm c4 h
 refine zQ [1,2,16] ?_
 refine Zo (t:=(a0.Kind == 9)) rfl (fun c3 => ?_) (fun c3 => ?_)
 ·replace h:=Zn c3 h
  refine Ze ?_
  obtain ⟨y2,hy2,h⟩:=bC h
  refine zCd (Zma hy2) [1,2,3,4] [true,true] ?_
  refine Ze ?_
  refine zRd [2] [false,true] ?_
  refine zW ?_
  obtain rfl:=sI h
  refine Zg (.inr rfl) hU [.agg [(vI 2),(vI 0),(vI 0),(vI 0),(vI 7),(vI (IntKind.i64.wrap ((a0.Kids.length:Int) * (IntKind.i64.wrap (y2.1+y2.2))))),(vI 0),(vB false)]] (by omega) ?_
  simp only [push_cast,seval,↓reduceIte,Zc,Tryz.results176,hN0,hN]
 replace h:=Zm c3 h
 refine Qd [1,2] [true,true] ?_
 refine Ze ?_
 refine zRd [2] [false,true] ?_
 refine zW ?_
 obtain rfl:=sI h
 refine Zg (.inr rfl) hU [.agg [(vI 2),(vI 0),(vI 0),(vI 0),(vI (IntKind.i64.wrap (a0.Kind - 2))),(vI (a0.Kids.length:Int)),(vI 0),(vB false)]] (by omega) ?_
 simp only [push_cast,seval,↓reduceIte,Zc,Tryz.results176,hN0,hN]
theorem Z3p {a0:Int} {r:Int} {O:Objs} {n:Nat} (h:Zo5 a0=some r):GTo Tryz.prog 239 [(vI a0)] O n ((vI r)) O n:=by
 unfold Zo5 at h
 refine K6 Zq Tryz.call239 Tryz.func239 rfl fun hU hN0 hN => ?_
 show W _ _ _ _ ⟨8,[],[(0,(vI a0))]⟩ (Zw O n []) _
 refine zQ [0] ?_
 refine Ze ?_
 obtain ⟨y6,hy6,ey6,h⟩:=bY (f:=(eI .i64)) (cs:=[.val (.int .i64 0),.val (.int .i64 1),.val (.int .i64 8),.val (.int .i64 16),.val (.int .i64 32),.val (.int .i64 64),.val (.int .i64 64)]) rfl h
 have g7:=congrArg G.agg ey6
 obtain ⟨y8,hy8,ey8,h⟩:=bY (f:=(eI .i64)) (cs:=[.val (.int .i64 0),.val (.int .i64 0),.val (.int .i64 0),.val (.int .i64 0),.val (.int .i64 0),.val (.int .i64 0),.val (.int .i64 0)]) rfl h
 have g9:=congrArg (GObj.mk false 309 7 1) ey8
 have g10:=Zin (f:=(eI .i64)) y8 y6 (fun _=>rfl)
 refine Gu [] g7 g9 g10 ?_
 refine zD [0,3] [true] ?_
 obtain ⟨x12,hx12,ax12,bx12,cx12,h⟩:=bEA (f:=(eI .i64)) (b:=7) rfl Z4q (fun _=>rfl) (by decide) h
 refine Zhc [2] (Yt Zq [] ?_)
 refine zF3 ax12 bx12 cx12 ?_
 refine zW ?_
 obtain rfl:=sI h
 refine Zg (.inr rfl) hU [(vI x12)] (by omega) ?_
 simp only [push_cast,seval,↓reduceIte,Zc,Tryz.results239,hN0,hN]
theorem Zmv {a0:Xk} {r:(Int×Bool)} {O:Objs} {n:Nat} (h:Zdo a0=some r):GTo Tryz.prog 177 [.agg (Q7 a0)] O n (.tup [(vI r.1),(vB r.2)]) O n:=by
 unfold Zdo at h
 refine K6 Zq Tryz.call177 Tryz.func177 rfl fun hU hN0 hN => ?_
 show W _ _ _ _ ⟨57,[],[(0,.agg (Q7 a0))]⟩ (Zw O n []) _
 refine zQ [1] ?_
 refine Ze ?_
 refine Z9 ?_
 refine zQ [1,4] ?_
 refine Zo (t:=(a0.Kind == 1)) rfl (fun c5 => ?_) (fun c5 => ?_)
 ·replace h:=Zn c5 h
  refine zQ [2,3] ?_
  refine zW ?_
  obtain rfl:=sI h
  refine Zg (.inr rfl) hU [(vI (IntKind.i64.wrap (a0.Data+a0.Ptrs))),(vB true)] (by omega) ?_
  simp only [push_cast,seval,↓reduceIte,Zc,Tryz.results177,hN0,hN]
 replace h:=Zm c5 h
 refine zQD [1,13] [none,none,none] ?_
 refine Zo (t:=(cond (a0.Kind == 2) (a0.Code == 7) false)) rfl (fun c4 => ?_) (fun c4 => ?_)
 ·replace h:=Zn c4 h
  refine zQ [2,3] ?_
  refine zW ?_
  obtain rfl:=sI h
  refine Zg (.inr rfl) hU [(vI (IntKind.i64.wrap (a0.Count+1))),(vB true)] (by omega) ?_
  simp only [push_cast,seval,↓reduceIte,Zc,Tryz.results177,hN0,hN]
 replace h:=Zm c4 h
 refine zQD [1,25] [none,none,none,none,none,none,none,none,none,none,none,none] ?_
 refine Zo (t:=(cond (cond (cond (cond (a0.Kind == 2) (decide (0≤a0.Code)) false) (decide (a0.Code < 7)) false) (decide (0≤a0.Count)) false) (decide (a0.Count≤536870911)) false)) rfl (fun c3 => ?_) (fun c3 => ?_)
 ·replace h:=Zn c3 h
  refine Ze ?_
  obtain ⟨y2,hy2,h⟩:=bC h
  refine X9 Zq (by kernel_rfl) [] (by kernel_rfl) ?_
  refine zS ?_
  refine PCall.of (Z3p hy2) ?_
  refine zS ?_
  refine zD [2,3] [false] ?_
  refine zW ?_
  obtain rfl:=sI h
  refine Zg (.inr rfl) hU [(vI (IntKind.i64.wrap (Int.tdiv (IntKind.i64.wrap ((IntKind.i64.wrap (a0.Count * y2))+63)) 64))),(vB true)] (by omega) ?_
  simp only [push_cast,seval,↓reduceIte,Zc,Tryz.results177,hN0,hN]
 replace h:=Zm c3 h
 refine Qd [] [false] ?_
 refine zQ [2,3] ?_
 refine zW ?_
 obtain rfl:=sI h
 refine Zg (.inr rfl) hU [(vI 0),(vB false)] (by omega) ?_
 simp only [push_cast,seval,↓reduceIte,Zc,Tryz.results177,hN0,hN]
theorem Z8e {a0:Xk} {r:Int} {O:Objs} {n:Nat} (h:Zu5 a0=some r):GTo Tryz.prog 240 [.agg (Q7 a0)] O n (.val (.int .u64 r)) O n:=by
 unfold Zu5 at h
 refine K6 Zq Tryz.call240 Tryz.func240 rfl fun hU hN0 hN => ?_
 show W _ _ _ _ ⟨58,[],[(0,.agg (Q7 a0))]⟩ (Zw O n []) _
 refine zQ [1] ?_
 refine Ze ?_
 refine zQ [1,5] ?_
 refine Z9 ?_
 refine zQ [1,5,6] ?_
 refine Zo (t:=(a0.Kind == 1)) rfl (fun c5 => ?_) (fun c5 => ?_)
 ·replace h:=Zn c5 h
  refine zQ [2] ?_
  refine zW ?_
  obtain rfl:=sI h
  refine Zg (.inr rfl) hU [.val (.int .u64 (IntKind.u64.wrap (Zci .u64 (IntKind.u64.wrap (Zci .u64 (IntKind.u64.wrap (IntKind.u32.wrap ((IntKind.u32.wrap a0.Off) * 2 ^ min (Int.toNat 2) 32))) (IntKind.u64.wrap ((IntKind.u64.wrap a0.Data) * 2 ^ min (Int.toNat 32) 64)))) (IntKind.u64.wrap ((IntKind.u64.wrap a0.Ptrs) * 2 ^ min (Int.toNat 48) 64)))))] (by omega) ?_
  simp only [push_cast,seval,↓reduceIte,Zc,Tryz.results240,hN0,hN]
 replace h:=Zm c5 h
 refine zQ [1,5,23] ?_
 refine Zo (t:=(a0.Kind == 2)) rfl (fun c4 => ?_) (fun c4 => ?_)
 ·replace h:=Zn c4 h
  refine zQ [2] ?_
  refine zW ?_
  obtain rfl:=sI h
  refine Zg (.inr rfl) hU [.val (.int .u64 (IntKind.u64.wrap (Zci .u64 (IntKind.u64.wrap (Zci .u64 (IntKind.u64.wrap (Zci .u64 1 (IntKind.u64.wrap (IntKind.u32.wrap ((IntKind.u32.wrap a0.Off) * 2 ^ min (Int.toNat 2) 32))))) (IntKind.u64.wrap ((IntKind.u64.wrap a0.Code) * 2 ^ min (Int.toNat 32) 64)))) (IntKind.u64.wrap ((IntKind.u64.wrap a0.Count) * 2 ^ min (Int.toNat 35) 64)))))] (by omega) ?_
  simp only [push_cast,seval,↓reduceIte,Zc,Tryz.results240,hN0,hN]
 replace h:=Zm c4 h
 refine zQ [1,41] ?_
 refine Zo (t:=(a0.Kind == 3)) rfl (fun c3 => ?_) (fun c3 => ?_)
 ·replace h:=Zn c3 h
  refine zQ [1,3] ?_
  obtain ⟨z1,hz1,h⟩:=bC h
  refine Yu (E':=⟨58,[],[(3,.val (.int .u64 z1))]⟩) (O':=(Zw O n [none])) (n0:=(n+1)) ?_ ?_
  ·refine zQ [3,54] ?_
   refine Zo (t:=a0.Double) rfl (fun c2 => ?_) (fun c2 => ?_)
   ·replace hz1:=Zn c2 hz1
    refine zR ?_
    exact Gv hz1
   replace hz1:=Zm c2 hz1
   refine zK ?_
   exact Gv hz1
  refine zQ [2] ?_
  refine zW ?_
  obtain rfl:=sI h
  refine Zg (.inr rfl) hU [.val (.int .u64 z1)] (by omega) ?_
  simp only [push_cast,seval,↓reduceIte,Zc,Tryz.results240,hN0,hN]
 replace h:=Zm c3 h
 refine Qd [] [false] ?_
 refine zQ [2] ?_
 refine zW ?_
 obtain rfl:=sI h
 refine Zg (.inr rfl) hU [.val (.int .u64 0)] (by omega) ?_
 simp only [push_cast,seval,↓reduceIte,Zc,Tryz.results240,hN0,hN]
theorem Zq9 {a0:Int} {r:Int} {O:Objs} {n:Nat} (h:Zj8 a0=some r):GTo Tryz.prog 283 [.val (.int .u64 a0)] O n ((vI r)) O n:=by
 unfold Zj8 at h
 refine K6 Zq Tryz.call283 Tryz.func283 rfl fun hU hN0 hN => ?_
 show W _ _ _ _ ⟨8,[],[(0,.val (.int .u64 a0))]⟩ (Zw O n []) _
 refine zQ [0] ?_
 refine zQ [2] ?_
 refine zW ?_
 obtain rfl:=sI h
 refine Zg (.inr rfl) hU [(vI (IntKind.i64.wrap (Int.fdiv (IntKind.i32.wrap (IntKind.u32.wrap a0)) (2 ^ min (Int.toNat 2) 32))))] (by omega) ?_
 simp only [push_cast,seval,↓reduceIte,Zc,Tryz.results283,hN0,hN]
theorem Zfn {a0:Int} {a1:Int} {a2:Int} {r:Int} {O:Objs} {n:Nat} (h:Zcx a0 a1 a2=some r):GTo Tryz.prog 284 [.val (.int .u64 a0),(vI a1),(vI a2)] O n ((vI r)) O n:=by
 unfold Zcx at h
 refine K6 Zq Tryz.call284 Tryz.func284 rfl fun hU hN0 hN => ?_
 show W _ _ _ _ ⟨15,[],[(0,.val (.int .u64 a0)),(1,(vI a1)),(2,(vI a2))]⟩ (Zw O n []) _
 refine zQ [0,1,2] ?_
 obtain ⟨pu3,h⟩:=bG h
 obtain ⟨pu4,h⟩:=bG h
 refine Zhc [6] (X9 Zq (by kernel_rfl) [] (by kernel_rfl) ?_)
 simp only [push_cast,seval,↓reduceIte,Zc,pu3,pu4,hN0,hN]
 refine zW ?_
 obtain rfl:=sI h
 refine Zg (.inr rfl) hU [(vI (IntKind.i64.wrap (IntKind.u64.wrap (Qq .u64 (Int.fdiv a0 (2 ^ min (Int.toNat a1) 64)) (IntKind.u64.wrap ((IntKind.u64.wrap (1 * 2 ^ min (Int.toNat a2) 64)) - 1))))))] (by omega) ?_
 simp only [push_cast,seval,↓reduceIte,Zc,Tryz.results284,hN0,hN]
theorem G0 {a0:Int} {r:Xk} {O:Objs} {n:Nat} (h:Zbj a0=some r):GTo Tryz.prog 241 [.val (.int .u64 a0)] O n (.agg (Q7 r)) O n:=by
 unfold Zbj at h
 refine K6 Zq Tryz.call241 Tryz.func241 rfl fun hU hN0 hN => ?_
 show W _ _ _ _ ⟨38,[],[(0,.val (.int .u64 a0))]⟩ (Zw O n []) _
 refine zQ [0,2] ?_
 refine Ze ?_
 refine zQ [0,2,4] ?_
 refine Zo (t:=(a0 == 0)) rfl (fun c20 => ?_) (fun c20 => ?_)
 ·replace h:=Zn c20 h
  refine Ze ?_
  refine zR ?_
  refine Ki ⟨38,[],[(2,.ref n 0)]⟩ (Zw O n [some ⟨false,191,8,1,[(vI 0),(vI 0),(vI 0),(vI 0),(vI 0),(vI 0),(vI 0),(vB false)]⟩]) (Z6 hU rfl rfl ?_) ?_
  ·exact Gl
  refine zW ?_
  obtain rfl:=sI h
  refine Zg (.inr rfl) hU [.agg [(vI 0),(vI 0),(vI 0),(vI 0),(vI 0),(vI 0),(vI 0),(vB false)]] (by omega) ?_
  simp only [push_cast,seval,↓reduceIte,Zc,Tryz.results241,hN0,hN]
 replace h:=Zm c20 h
 refine zK ?_
 refine Ki ⟨38,[],[(0,.val (.int .u64 a0)),(2,.ref n 0)]⟩ (Zw O n [some ⟨false,191,8,1,[(vI 0),(vI 0),(vI 0),(vI 0),(vI 0),(vI 0),(vI 0),(vB false)]⟩]) (Z6 hU rfl rfl ?_) ?_
 ·exact Gl
 refine Ze ?_
 refine zQ [0,2,7] ?_
 refine Z9 ?_
 refine zQ [0,2,7,8] ?_
 refine Zo (t:=((IntKind.u64.wrap (Qq .u64 a0 3)) == 0)) rfl (fun c19 => ?_) (fun c19 => ?_)
 ·replace h:=Zn c19 h
  refine Ze ?_
  obtain ⟨y4,hy4,h⟩:=bC h
  obtain ⟨y5,hy5,h⟩:=bC h
  obtain ⟨y6,hy6,h⟩:=bC h
  refine zC (Zq9 hy4) ?_
  refine zTs (Zfn hy5) ?_
  refine zTs (Zfn hy6) ?_
  refine Ki ⟨38,[],[(2,.ref n 0)]⟩ (Zw O n [some ⟨false,191,8,1,[(vI 1),(vI y4),(vI y5),(vI y6),(vI 0),(vI 0),(vI 0),(vB false)]⟩]) (Z6 hU rfl rfl ?_) ?_
  ·exact Gl
  refine zW ?_
  obtain rfl:=sI h
  refine Zg (.inr rfl) hU [.agg [(vI 1),(vI y4),(vI y5),(vI y6),(vI 0),(vI 0),(vI 0),(vB false)]] (by omega) ?_
  simp only [push_cast,seval,↓reduceIte,Zc,Tryz.results241,hN0,hN]
 replace h:=Zm c19 h
 refine zQ [0,2,7,17] ?_
 refine Zo (t:=((IntKind.u64.wrap (Qq .u64 a0 3)) == 1)) rfl (fun c18 => ?_) (fun c18 => ?_)
 ·replace h:=Zn c18 h
  refine Ze ?_
  obtain ⟨y10,hy10,h⟩:=bC h
  obtain ⟨y11,hy11,h⟩:=bC h
  obtain ⟨y12,hy12,h⟩:=bC h
  refine zC (Zq9 hy10) ?_
  refine zTs (Zfn hy11) ?_
  refine zTs (Zfn hy12) ?_
  refine Ki ⟨38,[],[(2,.ref n 0)]⟩ (Zw O n [some ⟨false,191,8,1,[(vI 2),(vI y10),(vI 0),(vI 0),(vI y11),(vI y12),(vI 0),(vB false)]⟩]) (Z6 hU rfl rfl ?_) ?_
  ·exact Gl
  refine zW ?_
  obtain rfl:=sI h
  refine Zg (.inr rfl) hU [.agg [(vI 2),(vI y10),(vI 0),(vI 0),(vI y11),(vI y12),(vI 0),(vB false)]] (by omega) ?_
  simp only [push_cast,seval,↓reduceIte,Zc,Tryz.results241,hN0,hN]
 replace h:=Zm c18 h
 refine zQ [0,2,26] ?_
 refine Zo (t:=((IntKind.u64.wrap (Qq .u64 a0 3)) == 2)) rfl (fun c17 => ?_) (fun c17 => ?_)
 ·replace h:=Zn c17 h
  refine Ze ?_
  obtain ⟨y15,hy15,h⟩:=bC h
  obtain ⟨y16,hy16,h⟩:=bC h
  refine zC (Zfn hy15) ?_
  refine zTs (Zfn hy16) ?_
  refine Ki ⟨38,[],[(2,.ref n 0)]⟩ (Zw O n [some ⟨false,191,8,1,[(vI 3),(vI y15),(vI 0),(vI 0),(vI 0),(vI 0),(vI y16),(vB ((IntKind.u64.wrap (Qq .u64 (Int.fdiv a0 (2 ^ min (Int.toNat 2) 64)) 1)) == 1))]⟩]) (Z6 hU rfl rfl ?_) ?_
  ·exact Gl
  refine zW ?_
  obtain rfl:=sI h
  refine Zg (.inr rfl) hU [.agg [(vI 3),(vI y15),(vI 0),(vI 0),(vI 0),(vI 0),(vI y16),(vB ((IntKind.u64.wrap (Qq .u64 (Int.fdiv a0 (2 ^ min (Int.toNat 2) 64)) 1)) == 1))]] (by omega) ?_
  simp only [push_cast,seval,↓reduceIte,Zc,Tryz.results241,hN0,hN]
 replace h:=Zm c17 h
 refine zK ?_
 refine Ki ⟨38,[],[(2,.ref n 0)]⟩ (Zw O n [some ⟨false,191,8,1,[(vI 0),(vI 0),(vI 0),(vI 0),(vI 0),(vI 0),(vI 0),(vB false)]⟩]) (Z6 hU rfl rfl ?_) ?_
 ·exact Gl
 refine Ze ?_
 refine zR ?_
 refine Ki ⟨38,[],[(2,.ref n 0)]⟩ (Zw O n [some ⟨false,191,8,1,[(vI 4),(vI 0),(vI 0),(vI 0),(vI 0),(vI 0),(vI 0),(vB false)]⟩]) (Z6 hU rfl rfl ?_) ?_
 ·exact Gl
 refine zW ?_
 obtain rfl:=sI h
 refine Zg (.inr rfl) hU [.agg [(vI 4),(vI 0),(vI 0),(vI 0),(vI 0),(vI 0),(vI 0),(vB false)]] (by omega) ?_
 simp only [push_cast,seval,↓reduceIte,Zc,Tryz.results241,hN0,hN]
theorem Zq8 {a0:Xk} {r:(Int×Bool)} {O:Objs} {n:Nat} (h:Zhy a0=some r):GTo Tryz.prog 178 [.agg (Q7 a0)] O n (.tup [.val (.int .u64 r.1),(vB r.2)]) O n:=by
 unfold Zhy at h
 refine K6 Zq Tryz.call178 Tryz.func178 rfl fun hU hN0 hN => ?_
 show W _ _ _ _ ⟨17,[],[(0,.agg (Q7 a0))]⟩ (Zw O n []) _
 refine zQ [1] ?_
 refine Ze ?_
 obtain ⟨y2,hy2,h⟩:=bC h
 refine zCd (Z8e hy2) [1,4] [true] ?_
 obtain ⟨z4,hz4,h⟩:=bC h
 refine Yu (E':=⟨17,[],[(2,.val (.int .u64 y2)),(3,(vB z4))]⟩) (O':=(Zw O n [none])) (n0:=(n+1)) ?_ ?_
 ·rcases Bool.eq_false_or_eq_true (a0.Kind != 4) with c7 | c7
  ·replace hz4:=Zn c7 hz4
   obtain ⟨y6,hy6,hz4⟩:=bC hz4
   refine X9 Zq (by kernel_rfl) [some true,some true,some true,some true] (by kernel_rfl) ?_
   refine zX1 c7 ?_
   refine PCall.of (G0 hy6) ?_
   refine zX1 c7 ?_
   exact Qf hz4 c7
  replace hz4:=Zm c7 hz4
  refine X9 Zq (by kernel_rfl) [some false,some false,some false,some false] (by kernel_rfl) ?_
  refine zX1 c7 ?_
  exact Qf hz4 c7
 refine zW ?_
 obtain rfl:=sI h
 refine Zg (.inr rfl) hU [.val (.int .u64 y2),(vB z4)] (by omega) ?_
 simp only [push_cast,seval,↓reduceIte,Zc,Tryz.results178,hN0,hN]
theorem Uh {a0:Za} {a1:Int} {r:Int} {O:Objs} {n:Nat} (h:Xx a0 a1=some r):GTo Tryz.prog 99 [.agg (Zd a0),(vI a1)] O n (.val (.int .u64 r)) O n:=by
 unfold Xx at h
 refine K6 Zq Tryz.call99 Tryz.func99 rfl fun hU hN0 hN => ?_
 show W _ _ _ _ ⟨19,[],[(0,.agg (Zd a0)),(1,(vI a1))]⟩ (Zw O n []) _
 refine zQ [1,2] ?_
 refine Ze ?_
 refine zQD [1,2,13] [none,none,none,none,none] ?_
 refine Zo (t:=(cond (decide (a1 < 0)) true (decide ((a0.Words.length:Int)≤a1)))) rfl (fun c3 => ?_) (fun c3 => ?_)
 ·replace h:=Zn c3 h
  refine zQ [4] ?_
  refine zW ?_
  obtain rfl:=sI h
  refine Zg (.inr rfl) hU [.val (.int .u64 0)] (by omega) ?_
  simp only [push_cast,seval,↓reduceIte,Zc,Tryz.results99,hN0,hN]
 replace h:=Zm c3 h
 refine Qd [1,2] [true] ?_
 obtain ⟨x2,hx2,ax2,bx2,cx2,h⟩:=bE (f:=(eI .u64)) Zbn (fun _=>rfl) (by decide) h
 refine Zhc [4] (Yt Zq [] ?_)
 refine zF3 ax2 bx2 cx2 ?_
 refine zW ?_
 obtain rfl:=sI h
 refine Zg (.inr rfl) hU [.val (.int .u64 x2)] (by omega) ?_
 simp only [push_cast,seval,↓reduceIte,Zc,Tryz.results99,hN0,hN]
end Go.Proofs.YtmlcnhambfkjaaaGreat
