/- Part RM7 of this seat's mirrors: functions of the seat's program, and the plain functions that they are; each theorem bears its own conditions. -/
import Derived.Test.YtmlcnhambfkjaaaGreatRE
import Derived.Test.YtmlcnhambfkjaaaGreatRM4
namespace Go.Proofs.YtmlcnhambfkjaaaGreat
open Go.RowKit
set_option linter.unusedVariables false
set_option linter.unusedSimpArgs false
set_option maxRecDepth 100000
set_option maxHeartbeats 4000000
attribute [local push_cast] vI vB nV sL oR Zi Ge Xz Yy Zd Zce Vn Q7 Zu Z2z Z2y Z32 Z31 Y1 Yc Zxq Zrp Zro onW Jd Zig Zgo Zxr Zxs Zvp Zvt Zvo Zvs Zy9 Zy5 Zvr Zy8 Zy7 Zy6 Zvq Zy3 Zsn evS wok Ku Op.operands Call.operands gop onK onP atK List.all_cons List.all_nil Bool.and_true Bool.true_and Bool.and_self Value.oneCell' List.take_zero List.take_succ_cons List.take_nil List.drop_zero List.drop_succ_cons List.drop_nil List.append_nil Nat.add_zero Nat.zero_add Zbx Y6 ev K8 Zut Z2q Z2p Z2v Z2t Z2u Z2r Z2s Z2o Zxo Z02 Z6c Zo2 Zi6 Zn1 Zil Zuw Zl3 Zon Zos Zrj Zrf Zoq Zri Zrh Zrg Zop Zrd Zoo Zor Zm9 Zre Zqm Zrq Zgp Zp7 Zgq Zrn Zoy Z24 bLo bHi bMx Zi7 Zrm Z71 Zox Zq1 Zlt Zeo Z1s Z74 Zp4 Zmp Z79 Zi5 Yci Zxy Zx2 Zxx Zx1 Z3m Z3i Z3g Zuz Zxz Z3l Z3k Z3j Zx0 Z3h Zo0 Zwd Zyo Zsh Zsg pop TK.isAgg Z3v Z3z Z3u Z3y Zyi Z8k Z8g Z3x Z8j Z8i Z8h Z3w Z8f G.under G.unders List.getD_cons_zero List.getD_cons_succ List.set_cons_zero List.set_cons_succ List.map_cons List.map_nil List.toList_toArray Array.toList_append Option.toArray_none Option.toArray_some Array.toList_map Option.map_some Option.map_none Option.bind_some Option.bind_none List.getElem?_cons_zero List.getElem?_cons_succ List.getElem?_nil List.nil_append List.cons_append List.replicate_succ List.replicate_zero List.length_cons List.length_nil and_true true_and and_false false_and Bool.true_eq_false Bool.false_eq_true forall_const false_implies implies_true IntKind.bits if_true if_false ite_true ite_false eq_self true_implies false_or or_false or_true true_or not_true_eq_false not_false_eq_true decide_true decide_false decide_eq_true_eq decide_eq_false_iff_not beq_iff_eq bne_iff_ne ne_eq Bool.not_eq_true Bool.not_eq_false beq_eq_false_iff_ne bne_eq_false_iff_eq beq_self_eq_true bne_self_eq_false Option.some.injEq exists_eq_left' exists_eq_left ge_iff_le gt_iff_lt decide_not Bool.not_true Bool.not_false imp_self Z76 cond_true cond_false Yjo Yjn Bool.not_not Bool.and_false Bool.false_and Bool.or_true Bool.true_or Bool.or_false Bool.false_or Zc1 Zi1 Vt Kh Q5 Qi Option.join_some Nat.add_assoc Int.toNat_natCast eI eB eS eL Gf Zp5 Zoz Z23 Z21 Z22 Ycr Yeb Zqc Zpk Z4c Z4a Z4b Z6x Zrk Z54 Zty Z2h Zik Z2j List.length_append G.agg.injEq G.row.injEq G.ref.injEq G.val.injEq G.sl.injEq G.tup.injEq Value.int.injEq Value.bool.injEq Value.string.injEq List.cons.injEq exists_and_left exists_const List.flatten_cons List.flatten_nil Int.le_refl Nat.le_refl Zif Kq Zb7 Bool.not_eq_true' Bool.not_eq_false' Z5s Zpy Yam Yaq Yal Yap Yf6 Yf0 List.size_toArray Zwo Zyr G.ren G.rens Z1e Zmh Z4h Z2l Z2m Zy4 Yar Zh8 G.fn.injEq Zt7 Z00 Z5r Yf1 Z0z Yao Yf5 Yf4 Yf3 Yan Z8d Ydx Option.join_none Xo Zau undef Zq3 Arr.len Arr.put_eq Zqb Zve Zsd Zpj Z39 Z37 Z38 onB Ycq Z1r Zyy Zun Zwz Zw0 Zw1 Zw2 Zw3 Zw4 Zu6 Zvh Zvf Zsf Zpl Zvg Zyn Zym Zyl Zyk Yea Ygu Z6w Z33 U9 Z6n Zwe Zvi Zse Z8l Zy1 Zow Zqz Zj9 Ztv Zw5 Zw6 Zw7 Zw8 Zt9 Zua Zub Zuc Zud Zue Zuf Zkh prT Zhr Ykh Yad Z4q Yae Yki Yaf Z7h Yag Ykj Yah Ykk Yai Ykl Yaj Ykm Yak Ye1 Z4r Ye2 Z4s Ye3 Z4t Ye4 Z4u Ye5 Z4v Ye6 Z4w Ye7 Z4x Ye8 Z4y Ye9 Z4z Yfa Z40 Yfb Z41 Zv9 Zkc Yfc Zql Yfd Z42 Uc Z43 Yfe Z44 Yff Z45 Yfg Z46 Yfh Z47 Z17 Z48 Yfi Z49 Yfj Z5a Yfk Z5b Yfl Z5c Yfm Zwy Yfn Z5d Yfo Z5e Zbn Z5f Yfp Z5g Yfq Z5h Zt2 Z5i Yfr Z5j Zt3 Z5k Yfs Z5l Zps Z5m Z8v Zzd Z8w Zze Z8x Zzf Z8y Zzg Z8z Zzh Z80 Zzi Z81 Zzj Z82 Zzk Z83 Zzl Z84 Zzm Z85 Zzn Z86 Zzo Z87 Zzp Z88 Zzq Z89 Zzr Z9a Zzs Z9b Zzt Z9c Zzu Z9d Zzv Z9e Zzw Z9f Zzx Z9g Zzy Z9h Zzz Zzb Zt5 Z9i Zz0 Z9j Zz1 Z9k Zz2 Z9l Zz3 Z9m Zz4 Z9n Zz5 Z9o Zz6 Z9p Zz7 Z9q Zz8 Z9r Zz9 Z9s Z0a Z9t Z0b Z9u Z0c Z9v Z0d Z9w Z0e Z9x Z0f Z9y Z0g Z9z Z0h Z90 Z0i Z91 Z0j Z92 Z0k Z93 Z0l Z94 Z0m Z95 Z0n Z96 Z0o Z97 Z0p Z98 Z0q Z99 Z0r Yaa Z0s Yab Z0t Yac Z0u Zb Xe Zsw Zsu Zrw Zsa Zsy Zpw Zpp Zpn Zsq Ziz Ziy Zip Ziu Zi0 Zie Zic Zib Zix Zp Zhm Zr Z4 Jh X0 Jq Zfg Zff Zeq Ze4 Zfj Zee Zec Zeb Zfc Zf5 Zf3 Zft Zfz Zf7 Zfd Ze7 Ze5 Zf1 Zll Zlk Zkn Zk1 Zlm Zjy Zju Zjt Zli Zsv Zst Zrv Zr9 Zsx Zpv Zpo Zpm Zsp Zov Zjo Zmk Zmj Zl4 Zme Zml Zlj Zlb Zla Zmi Zv Zf6 Zf4 Zfu Zf0 Zf8 Zfe Ze8 Ze6 Zf2 Zki Zou Zkj Ys Zeg Zef Zd5 Zd9 Zeh Zde Zdd Zdc Zed Yg Zcv Zcu Zch Zcq Zcw Zbw Zbv Zbu Zct Zvy Zvx Zuy Zvc Zvz Zsr Zsk Zsj Zvv
theorem Zc9 {a0:(List Int)} {a1:(List Int)} {r:Bool} {O:Objs} {n:Nat} (h:J3 a0 a1=some r):GTo Tryz.prog 30 [(sL (eI .u64) a0),(sL (eI .u64) a1)] O n ((vB r)) O n:=by
 unfold J3 at h
 refine K6 Zq Tryz.call30 Tryz.func30 rfl fun hU hN0 hN => ?_
 show W _ _ _ _ ⟨26,[],[(0,(sL (eI .u64) a0)),(1,(sL (eI .u64) a1))]⟩ (Zw O n []) _
 refine zQ [0,1] ?_
 refine Ze ?_
 refine zQ [0,1,10] ?_
 refine Zo (t:=((a0.length:Int) != (a1.length:Int))) rfl (fun c8 => ?_) (fun c8 => ?_)
 ·replace h:=Zn c8 h
  refine zQ [4] ?_
  refine zW ?_
  obtain rfl:=sI h
  refine Zg (.inr rfl) hU [(vB false)] (by omega) ?_
  simp only [push_cast,seval,↓reduceIte,Zc,Tryz.results30,hN0,hN]
 replace h:=Zm c8 h
 refine Qd [0,1] [] ?_
 refine Ze ?_
 refine zQd [0,1,5] [0,1,5] [] ?_
 obtain ⟨z7,hz7,h⟩:=bC h
 refine Zaw (J:=(X8 (fun z7=>JR n (⟨26,[],[(4,(vB false))]⟩:Env) (Zw O n []) n) (fun z7=>JX 0 n (⟨26,[],[]⟩:Env) (Zw O n []) n))) (z:=z7) ?_ fun hw => ?_
 ·refine Y4 hz7 (fun s0_=>⟨26,[],[(0,(sL (eI .u64) a0)),(1,(sL (eI .u64) a1)),(5,(vI s0_))]⟩) (fun s0_=>(Zw O n [])) (X8 (fun z7=>JR n (⟨26,[],[(4,(vB false))]⟩:Env) (Zw O n []) n) (fun z7=>JX 0 n (⟨26,[],[]⟩:Env) (Zw O n []) n)) ?_
  intro s0_ x0_ hs0_
  unfold Ut at hs0_
  try dsimp only
  refine Ze ?_
  refine zQ [0,1,5,14] ?_
  refine Zo (t:=(decide (s0_ < (a0.length:Int)))) rfl (fun c6 => ?_) (fun c6 => ?_)
  ·replace hs0_:=Zn c6 hs0_
   refine Qd [0,1,5] [] ?_
   refine Ze ?_
   refine Z9 ?_
   obtain ⟨x3,hx3,ax3,bx3,cx3,hs0_⟩:=bE (f:=(eI .u64)) Zbn (fun _=>rfl) (by decide) hs0_
   obtain ⟨x4,hx4,ax4,bx4,cx4,hs0_⟩:=bE (f:=(eI .u64)) Zbn (fun _=>rfl) (by decide) hs0_
   refine Zhc [0,1,5,25] (X9 Zq (by kernel_rfl) [] (by kernel_rfl) ?_)
   refine zF6 ax3 bx3 cx3 ax4 bx4 cx4 ?_
   refine Zo (t:=(x3 != x4)) rfl (fun c5 => ?_) (fun c5 => ?_)
   ·replace hs0_:=Zn c5 hs0_
    refine zQ [4] ?_
    refine zW ?_
    exact zEy hs0_
   replace hs0_:=Zm c5 hs0_
   refine Qd [0,1,5] [] ?_
   refine zR ?_
   exact Gv hs0_
  replace hs0_:=Zm c6 hs0_
  exact zEx hs0_
 rcases z7 with z7 | z7
 ·dsimp only [X8] at hw h
  refine Jv hw ?_
  try simp only [Y1,Yc,↓reduceIte,Nat.reduceEqDiff]
  obtain rfl:=sI h
  refine Zg (.inr rfl) hU [(vB false)] (by omega) ?_
  simp only [push_cast,seval,↓reduceIte,Zc,Tryz.results30,hN0,hN]
 dsimp only [X8] at hw h
 refine Yj hw ?_
 try simp only [Y1,Yc,↓reduceIte,Nat.reduceEqDiff]
 refine zD [] [] ?_
 refine zQ [4] ?_
 refine zW ?_
 obtain rfl:=sI h
 refine Zg (.inr rfl) hU [(vB true)] (by omega) ?_
 simp only [push_cast,seval,↓reduceIte,Zc,Tryz.results30,hN0,hN]
theorem Zj1  {r:Bool} {O:Objs} {n:Nat} (h:V4=some r):GTo Tryz.prog 15 [] O n ((vB r)) O n:=by
 unfold V4 at h
 refine K6 Zq Tryz.call15 Tryz.func15 rfl fun hU hN0 hN => ?_
 show W _ _ _ _ ⟨45,[],[]⟩ (Zw O n []) _
 refine zQ [] ?_
 refine Ze ?_
 obtain ⟨y2,hy2,h⟩:=bC h
 refine zR ?_
 refine GCalls.argsW ?_ ((Zn5 hy2).then ?_)
 ·exact Gl
 refine zS ?_
 refine zDs [1,2] [] ?_
 obtain ⟨y4,hy4,h⟩:=bC h
 refine zR ?_
 refine GCalls.argsW ?_ ((Zn5 hy4).then ?_)
 ·exact Gl
 refine zS ?_
 refine zDs [1,2,3,4] [] ?_
 obtain ⟨y6,hy6,h⟩:=bC h
 refine zR ?_
 refine GCalls.dropL (l':=[none]) hU rfl ?_ ((Zwj hy6).then ?_)
 ·exact Gl
 refine zS ?_
 refine zD [1,2,3,4,5,6] [false,true] ?_
 obtain ⟨z9,hz9,h⟩:=bC h
 refine Yu (E':=⟨45,[],[(0,(vB z9))]⟩) (O':=(Zw O n [none,none,none,none])) (n0:=(n+4)) ?_ ?_
 ·rcases Bool.eq_false_or_eq_true y2.2 with Qk | Qk
  ·replace hz9:=Zn Qk hz9
   rcases Bool.eq_false_or_eq_true y4.2 with K9 | K9
   ·replace hz9:=Zn K9 hz9
    try rw [K9] at Qk
    obtain ⟨y12,hy12,hz9⟩:=bC hz9
    rcases Bool.eq_false_or_eq_true y12 with c16 | c16
    ·replace hz9:=Zn c16 hz9
     try rw [c16] at Qk
     try rw [c16] at K9
     obtain ⟨y13,hy13,hz9⟩:=bC hz9
     refine Gu [none,some true,some true,some true,some true,some true,some true,none,none,none,none,none] Qk K9 c16 ?_
     refine zG ?_
     refine GCalls.lend (Zc9 hy12) rfl ?_ ?_
     ·exact Zjn Qk K9 c16
     refine zX3 Qk K9 c16 ?_
     refine zG ?_
     refine GCalls.lend (Zc9 hy13) rfl ?_ ?_
     ·exact Zjn Qk K9 c16
     refine zX3 Qk K9 c16 ?_
     refine zG ?_
     exact Zfk hz9 Qk K9 c16
    replace hz9:=Zm c16 hz9
    try rw [c16] at Qk
    try rw [c16] at K9
    refine Gu [none,some true,some true,some true,some false,some false,some false,some false,some false,some false,some false,some false] Qk K9 c16 ?_
    refine zG ?_
    refine GCalls.lend (Zc9 hy12) rfl ?_ ?_
    ·exact Zjn Qk K9 c16
    refine zX3 Qk K9 c16 ?_
    refine zG ?_
    exact Zfk hz9 Qk K9 c16
   replace hz9:=Zm K9 hz9
   try rw [K9] at Qk
   refine Xy [none,some false,some false,some false,some false,some false,some false,some false,some false,some false,some false,some false] Qk K9 ?_
   refine zG ?_
   exact Zbo hz9 Qk K9
  replace hz9:=Zm Qk hz9
  refine Q2 [none,some false,some false,some false,some false,some false,some false,some false,some false,some false,some false,some false] Qk ?_
  refine zG ?_
  exact Qf hz9 Qk
 refine zW ?_
 obtain rfl:=sI h
 refine Zg (.inr rfl) hU [(vB z9)] (by omega) ?_
 simp only [push_cast,seval,↓reduceIte,Zc,Tryz.results15,hN0,hN]
theorem Xc {a0:Za} {a1:Int} {r:Int} {O:Objs} {n:Nat} (h:Y7 a0 a1=some r):GTo Tryz.prog 110 [.agg (Zd a0),(vI a1)] O n (.val (.int .u64 r)) O n:=by
 unfold Y7 at h
 refine K6 Zq Tryz.call110 Tryz.func110 rfl fun hU hN0 hN => ?_
 show W _ _ _ _ ⟨15,[],[(0,.agg (Zd a0)),(1,(vI a1))]⟩ (Zw O n []) _
 refine zQ [1,2] ?_
 refine Ze ?_
 refine zQ [1,2,9] ?_
 refine Zo (t:=(decide (a1 < (a0.Words.length:Int)))) rfl (fun c3 => ?_) (fun c3 => ?_)
 ·replace h:=Zn c3 h
  obtain ⟨x2,hx2,ax2,bx2,cx2,h⟩:=bE (f:=(eI .u64)) Zbn (fun _=>rfl) (by decide) h
  refine Zhc [4] (Yt Zq [] ?_)
  refine zF3 ax2 bx2 cx2 ?_
  refine zW ?_
  obtain rfl:=sI h
  refine Zg (.inr rfl) hU [.val (.int .u64 x2)] (by omega) ?_
  simp only [push_cast,seval,↓reduceIte,Zc,Tryz.results110,hN0,hN]
 replace h:=Zm c3 h
 refine Qd [] [false] ?_
 refine zQ [4] ?_
 refine zW ?_
 obtain rfl:=sI h
 refine Zg (.inr rfl) hU [.val (.int .u64 0)] (by omega) ?_
 simp only [push_cast,seval,↓reduceIte,Zc,Tryz.results110,hN0,hN]
theorem J6 {a0:Za} {a1:Int} {r:Za} {O:Objs} {n:Nat} (h:Xl a0 a1=some r):GTo Tryz.prog 111 [.agg (Zd a0),(vI a1)] O n (.agg (Zd r)) O n:=by
 unfold Xl at h
 refine K6 Zq Tryz.call111 Tryz.func111 rfl fun hU hN0 hN => ?_
 show W _ _ _ _ ⟨16,[],[(0,.agg (Zd a0)),(1,(vI a1))]⟩ (Zw O n []) _
 refine zQ [1,2,4] ?_
 refine Ze ?_
 refine zQ [1,2,4,9] ?_
 refine Zo (t:=(decide (a1 < (a0.Kids.length:Int)))) rfl (fun c3 => ?_) (fun c3 => ?_)
 ·replace h:=Zn c3 h
  refine Ze ?_
  obtain ⟨x2,hx2,ax2,bx2,cx2,h⟩:=bE (f:=Zb) Uc (fun _=>rfl) (by decide) h
  refine Gc [] ax2 bx2 cx2 ?_
  refine zD [4] [false,true] ?_
  refine zW ?_
  obtain rfl:=sI h
  refine Zg (.inr rfl) hU [.agg (Zd x2)] (by omega) ?_
  simp only [push_cast,seval,↓reduceIte,Zc,Tryz.results111,hN0,hN]
 replace h:=Zm c3 h
 refine Qd [4] [false,true] ?_
 refine Ze ?_
 refine zRd [4] [false,true] ?_
 refine zW ?_
 obtain rfl:=sI h
 refine Zg (.inr rfl) hU [.agg [(vI 0),nV,nV]] (by omega) ?_
 simp only [push_cast,seval,↓reduceIte,Zc,Tryz.results111,hN0,hN]
def Zii (Qe:(Za→Option Zf)):Prop:=∀ {a0:Za} {r:Zf} {O:Objs} {n:Nat},Qe a0=some r→GTo Tryz.prog 65 [.agg (Zd a0)] O n (.agg (Zi r)) O n
theorem Zph {Qe:(Za→Option Zf)} (Zd8:Zii Qe) {a0:Za} {r:Zf} {O:Objs} {n:Nat} (h:Zac Qe a0=some r):GTo Tryz.prog 65 [.agg (Zd a0)] O n (.agg (Zi r)) O n:=by
 unfold Zac at h
 refine K6 Zq Tryz.call65 Tryz.func65 rfl fun hU hN0 hN => ?_
 show W _ _ _ _ ⟨158,[],[(0,.agg (Zd a0))]⟩ (Zw O n []) _
 refine zQ [1,2] ?_
 refine Ze ?_
 refine zQ [1,2,16] ?_
 refine Zo (t:=(a0.Kind != 1)) rfl (fun c39 => ?_) (fun c39 => ?_)
 ·replace h:=Zn c39 h
  refine Ze ?_
  refine zRd [2] [false,true] ?_
  refine zW ?_
  obtain rfl:=sI h
  refine Zg (.inr rfl) hU [.agg [(vI 0),(vI 0),nV,nV,(vI 0),nV,nV,nV,nV,(vI 0),nV]] (by omega) ?_
  simp only [push_cast,seval,↓reduceIte,Zc,Tryz.results65,hN0,hN]
 replace h:=Zm c39 h
 refine Qd [1,2] [true,true] ?_
 refine Ze ?_
 obtain ⟨y2,hy2,h⟩:=bC h
 refine zCd (Xc hy2) [1,2,3] [true,true] ?_
 refine Ze ?_
 refine zRd [1,2,4] [true,true,true] ?_
 obtain ⟨y3,hy3,h⟩:=bC h
 obtain ⟨y4,hy4,h⟩:=bC h
 refine Yu (E':=⟨158,[],[(2,.ref (n+1) 0),(4,.ref (n+2) 0),(5,.ref (n+3) 0),(6,.ref (n+4) 0)]⟩) (O':=(Zw O n [none,some ⟨false,30,11,1,[(vI 0),(vI 0),nV,nV,(vI 0),nV,nV,nV,nV,(vI 0),nV]⟩,some ⟨false,30,11,1,[(vI (IntKind.i64.wrap (Int.tmod y2 256))),(vI 0),nV,nV,(vI 0),nV,nV,nV,nV,(vI (IntKind.i64.wrap (Int.tmod (IntKind.u64.wrap (Int.tdiv y2 256)) 256))),nV]⟩,some ⟨false,25,3,1,(Zd y3)⟩,some ⟨false,25,3,1,(Zd y4)⟩])) (n0:=(n+5)) ?_ ?_
 ·refine Z2d Zq (by kernel_rfl) [.low,.low,.low,.low,.pass,.pass,.pass,.pass] (fun i=>i < (n+3)) 4 5 [0,1,2,3] [6,7] [.low,.low,.low,.low] [.pass,.pass,.pass,.pass] [.pass,.pass,.pass,.pass] [] (by kernel_rfl) rfl rfl rfl ?_
  refine zS ?_
  repeat (with_reducible refine And.intro (by omega) ?_)
  first | refine PCallA.of (fun _ _=>J6 hy3) ?_ | refine PCall.of (J6 hy3) ?_
  refine zS ?_
  repeat (with_reducible refine And.intro (by omega) ?_)
  first | refine PCallA.of (fun _ _=>J6 hy4) ?_ | refine PCall.of (J6 hy4) ?_
  refine zS ?_
  repeat (with_reducible refine And.intro (by omega) ?_)
  refine And.intro ?_ ?_
  ·refine zS ?_
   repeat (with_reducible refine And.intro (by first | exact Y3 rfl | exact Yp) ?_)
   exact zEf
  refine zS ?_
  repeat (with_reducible refine And.intro (by first | exact Y3 rfl | exact Yp) ?_)
  refine And.intro rfl ?_
  refine Fit2.trans (E':=(⟨158,[],[(2,.ref (n+1) 0),(4,.ref (n+2) 0),(5,.ref (n+4) 0),(6,.ref (n+3) 0)]⟩:Env)) (O':=(Zw O n [none,some ⟨false,30,11,1,[(vI 0),(vI 0),nV,nV,(vI 0),nV,nV,nV,nV,(vI 0),nV]⟩,some ⟨false,30,11,1,[(vI (IntKind.i64.wrap (Int.tmod y2 256))),(vI 0),nV,nV,(vI 0),nV,nV,nV,nV,(vI (IntKind.i64.wrap (Int.tmod (IntKind.u64.wrap (Int.tdiv y2 256)) 256))),nV]⟩,some ⟨false,25,3,1,(Zd y4)⟩,some ⟨false,25,3,1,(Zd y3)⟩])) (n':=(n+5)) (Fit2.of (Z6 hU rfl rfl ?_) (by omega)) ?_
  ·exact Gl
  refine Jg (k:=5) (k':=5) hU [0,1,2,4,3] [0,1,2,4,3] rfl rfl rfl rfl ⟨rfl,rfl⟩ ?_
  exact Gl
 obtain ⟨z5,hz5,h⟩:=bC h
 refine Yu (E':=⟨158,[],[(2,.ref (n+1) 0),(4,.ref (n+2) 0),(5,.ref (n+3) 0),(6,.ref (n+4) 0)]⟩) (O':=(Zw O n [none,some ⟨false,30,11,1,[(vI 0),(vI 0),nV,nV,(vI 0),nV,nV,nV,nV,(vI 0),nV]⟩,some ⟨false,30,11,1,[(vI (IntKind.i64.wrap (Int.tmod y2 256))),(vI z5.1),(sL (eI .u64) z5.2.1),(sL Zb z5.2.2.1),(vI z5.2.2.2.1),(sL (eI .u64) z5.2.2.2.2.1),(sL Zb z5.2.2.2.2.2.1),nV,nV,(vI z5.2.2.2.2.2.2),nV]⟩,some ⟨false,25,3,1,(Zd y3)⟩,some ⟨false,25,3,1,(Zd y4)⟩])) (n0:=(n+5)) ?_ ?_
 ·refine zQ [2,4,5,6,34] ?_
  refine Zo (t:=((IntKind.i64.wrap (Int.tmod y2 256)) == 1)) rfl (fun c6 => ?_) (fun c6 => ?_)
  ·replace hz5:=Zn c6 hz5
   refine Ze ?_
   refine zRd [2,4,5,6] [false,true,true,true,true] ?_
   refine zR ?_
   exact Gv hz5
  replace hz5:=Zm c6 hz5
  refine zK ?_
  exact Gv hz5
 refine Ze ?_
 refine zQd [2,4,5,6,7] [2,4,5,6,7] [false,true,true,true,true] ?_
 refine G8 (E':=(⟨158,[],[(2,.ref (n+1) 0),(4,.ref (n+2) 0),(5,.ref (n+3) 0),(6,.ref (n+4) 0),(7,(vI 0))]⟩:Env)) (O':=(Zw O n [none,some ⟨false,30,11,1,[(vI 0),(vI 0),nV,nV,(vI 0),nV,nV,nV,nV,(vI 0),nV]⟩,some ⟨false,30,11,1,[(vI (IntKind.i64.wrap (Int.tmod y2 256))),(vI z5.1),(sL (eI .u64) z5.2.1),(sL Zb z5.2.2.1),(vI z5.2.2.2.1),(sL (eI .u64) z5.2.2.2.2.1),(sL Zb z5.2.2.2.2.2.1),.row (n+5) ([]:List Zx).length,nV,(vI z5.2.2.2.2.2.2),nV]⟩,some ⟨false,25,3,1,(Zd y3)⟩,some ⟨false,25,3,1,(Zd y4)⟩,some (oR 84 4 Zp ([]:List Zx)),none])) (n':=(n+7)) ?_ ?_
 ·refine Fit2.trans (E':=(⟨158,[],[(2,.ref (n+1) 0),(4,.ref (n+2) 0),(5,.ref (n+3) 0),(6,.ref (n+4) 0),(7,(vI 0))]⟩:Env)) (O':=(Zw O n [none,some ⟨false,30,11,1,[(vI 0),(vI 0),nV,nV,(vI 0),nV,nV,nV,nV,(vI 0),nV]⟩,some ⟨false,30,11,1,[(vI (IntKind.i64.wrap (Int.tmod y2 256))),(vI z5.1),(sL (eI .u64) z5.2.1),(sL Zb z5.2.2.1),(vI z5.2.2.2.1),(sL (eI .u64) z5.2.2.2.2.1),(sL Zb z5.2.2.2.2.2.1),nV,nV,(vI z5.2.2.2.2.2.2),nV]⟩,some ⟨false,25,3,1,(Zd y3)⟩,some ⟨false,25,3,1,(Zd y4)⟩])) (n':=(n+5)) (Fit2.of (Z6 hU rfl rfl ?_) (by omega)) ?_
  ·exact Gl
  refine Fit2.trans (Zgn (p:=(n+2)) (k:=7) (q:=⟨false,30,11,1,[(vI (IntKind.i64.wrap (Int.tmod y2 256))),(vI z5.1),(sL (eI .u64) z5.2.1),(sL Zb z5.2.2.1),(vI z5.2.2.2.1),(sL (eI .u64) z5.2.2.2.2.1),(sL Zb z5.2.2.2.2.2.1),nV,nV,(vI z5.2.2.2.2.2.2),nV]⟩) 84 4 (by simp only [Zc1,Zi1,List.getElem?_cons_zero,List.getElem?_cons_succ,Option.join_some,List.length_nil,Xo]) rfl (by omega)) ?_
  simp only [Q5,Qi,Vt,Kh,List.set_cons_zero,List.set_cons_succ,List.cons_append,List.nil_append,List.length_cons,List.length_nil,Nat.zero_add,Nat.reduceAdd,Nat.reduceLT,Nat.add_assoc]
  refine Jg (k:=6) (k':=7) hU [6,1,2,3,4,5] [0,1,2,3,4,5,0] rfl rfl rfl rfl ⟨rfl,rfl⟩ ?_
  exact Gl
 obtain ⟨z15,hz15,h⟩:=bC h
 refine Yj (E':=⟨158,[],[(2,.ref (n+1) 0),(4,.ref (n+2) 0),(5,.ref (n+3) 0),(6,.ref (n+4) 0)]⟩) (O':=(Zw O n [none,some ⟨false,30,11,1,[(vI 0),(vI 0),nV,nV,(vI 0),nV,nV,nV,nV,(vI 0),nV]⟩,some ⟨false,30,11,1,[(vI (IntKind.i64.wrap (Int.tmod y2 256))),(vI z5.1),(sL (eI .u64) z5.2.1),(sL Zb z5.2.2.1),(vI z5.2.2.2.1),(sL (eI .u64) z5.2.2.2.2.1),(sL Zb z5.2.2.2.2.2.1),.row (n+5) z15.length,nV,(vI z5.2.2.2.2.2.2),nV]⟩,some ⟨false,25,3,1,(Zd y3)⟩,some ⟨false,25,3,1,(Zd y4)⟩,some (oR 84 4 Zp z15),none])) (n0:=(n+7)) ?_ ?_
 ·refine Y4 hz15 (fun s0_=>⟨158,[],[(2,.ref (n+1) 0),(4,.ref (n+2) 0),(5,.ref (n+3) 0),(6,.ref (n+4) 0),(7,(vI s0_.1))]⟩) (fun s0_=>(Zw O n [none,some ⟨false,30,11,1,[(vI 0),(vI 0),nV,nV,(vI 0),nV,nV,nV,nV,(vI 0),nV]⟩,some ⟨false,30,11,1,[(vI (IntKind.i64.wrap (Int.tmod y2 256))),(vI z5.1),(sL (eI .u64) z5.2.1),(sL Zb z5.2.2.1),(vI z5.2.2.2.1),(sL (eI .u64) z5.2.2.2.2.1),(sL Zb z5.2.2.2.2.2.1),.row (n+5) s0_.2.length,nV,(vI z5.2.2.2.2.2.2),nV]⟩,some ⟨false,25,3,1,(Zd y3)⟩,some ⟨false,25,3,1,(Zd y4)⟩,some (oR 84 4 Zp s0_.2),none])) (fun z15=>JX 0 n (⟨158,[],[(2,.ref (n+1) 0),(4,.ref (n+2) 0),(5,.ref (n+3) 0),(6,.ref (n+4) 0)]⟩:Env) (Zw O n [none,some ⟨false,30,11,1,[(vI 0),(vI 0),nV,nV,(vI 0),nV,nV,nV,nV,(vI 0),nV]⟩,some ⟨false,30,11,1,[(vI (IntKind.i64.wrap (Int.tmod y2 256))),(vI z5.1),(sL (eI .u64) z5.2.1),(sL Zb z5.2.2.1),(vI z5.2.2.2.1),(sL (eI .u64) z5.2.2.2.2.1),(sL Zb z5.2.2.2.2.2.1),.row (n+5) z15.length,nV,(vI z5.2.2.2.2.2.2),nV]⟩,some ⟨false,25,3,1,(Zd y3)⟩,some ⟨false,25,3,1,(Zd y4)⟩,some (oR 84 4 Zp z15),none]) (n+7)) ?_
  intro s0_ x0_ hs0_
  unfold Kb at hs0_
  try dsimp only
  refine Ze ?_
  refine zQD [2,4,5,6,7,48] [none,none,none] ?_
  refine Zo (t:=(cond (decide (s0_.1 < (y3.Kids.length:Int))) ((IntKind.i64.wrap (Int.tmod y2 256)) == 2) false)) rfl (fun Qk => ?_) (fun Qk => ?_)
  ·replace hs0_:=Zn Qk hs0_
   refine Qd [2,4,5,6,7] [false,true,true,true,true,true,false] ?_
   refine Ze ?_
   refine Z9 ?_
   refine Ze ?_
   obtain ⟨x8,hx8,ax8,bx8,cx8,hs0_⟩:=bE (f:=Zb) Uc (fun _=>rfl) (by decide) hs0_
   refine Gc [] ax8 bx8 cx8 ?_
   refine zD [2,4,5,6,7,8] [false,true,true,true,true,true,false,true] ?_
   obtain ⟨y9,hy9,hs0_⟩:=bC hs0_
   obtain ⟨y10,hy10,hs0_⟩:=bC hs0_
   obtain ⟨y11,hy11,hs0_⟩:=bC hs0_
   obtain ⟨y12,hy12,hs0_⟩:=bC hs0_
   obtain ⟨l13,pl13,ql13,el13,hs0_⟩:=bA (k:=1) rfl hs0_
   refine Zhb Zq (by kernel_rfl) [.low,.low,.plain,.plain,.plain,.plain,.plain,.plain,.plain,.plain,.plain,.plain,.plain,.plain,.plain,.plain,.pass,.bar,.plain,.bar] (fun i=>i < (n+8)) [0,1,2,3,4,5,6,7,8,9,10,11,12,13,14,15,16,17,18,19] [.low,.low,.plain,.plain,.plain,.plain,.plain,.plain,.plain,.plain,.plain,.plain,.plain,.plain,.plain,.plain,.pass,.bar,.plain,.bar] [] (by kernel_rfl) rfl ?_
   refine zX3 pl13 ql13 el13 ?_
   refine zO ?_
   first | refine PCallA.of (fun _ _=>Xc hy9) ?_ | refine PCall.of (Xc hy9) ?_
   refine zX3 pl13 ql13 el13 ?_
   refine zO ?_
   first | refine PCallA.of (fun _ _=>Xc hy10) ?_ | refine PCall.of (Xc hy10) ?_
   refine zX3 pl13 ql13 el13 ?_
   refine zO ?_
   first | refine PCallA.of (fun _ _=>Xc hy11) ?_ | refine PCall.of (Xc hy11) ?_
   refine zX3 pl13 ql13 el13 ?_
   refine zO ?_
   first | refine PCallA.of (fun _ _=>Xc hy12) ?_ | refine PCall.of (Xc hy12) ?_
   refine zX3 pl13 ql13 el13 ?_
   refine zO ?_
   refine Ki ⟨158,[],[(2,.ref (n+1) 0),(4,.ref (n+2) 0),(5,.ref (n+3) 0),(6,.ref (n+4) 0),(7,(vI s0_.1))]⟩ (Zw O n [none,some ⟨false,30,11,1,[(vI 0),(vI 0),nV,nV,(vI 0),nV,nV,nV,nV,(vI 0),nV]⟩,some ⟨false,30,11,1,[(vI (IntKind.i64.wrap (Int.tmod y2 256))),(vI z5.1),(sL (eI .u64) z5.2.1),(sL Zb z5.2.2.1),(vI z5.2.2.2.1),(sL (eI .u64) z5.2.2.2.2.1),(sL Zb z5.2.2.2.2.2.1),.row (n+5) l13.length,nV,(vI z5.2.2.2.2.2.2),nV]⟩,some ⟨false,25,3,1,(Zd y3)⟩,some ⟨false,25,3,1,(Zd y4)⟩,some (oR 84 4 Zp l13),none,none,none]) (Z6 hU rfl rfl ?_) ?_
   ·exact Zjn pl13 ql13 el13
   refine zR ?_
   exact Gv hs0_
  replace hs0_:=Zm Qk hs0_
  exact zEx hs0_
 try simp only [Y1,Yc,↓reduceIte,Nat.reduceEqDiff]
 refine zDs [2,4,5,6] [false,true,true,true,true,true,false] ?_
 refine zQd [2,4,5,6,9] [2,4,5,6,9] [false,true,true,true,true,true,false] ?_
 refine G8 (E':=(⟨158,[],[(2,.ref (n+1) 0),(4,.ref (n+2) 0),(5,.ref (n+3) 0),(6,.ref (n+4) 0),(9,(vI 0))]⟩:Env)) (O':=(Zw O n [none,some ⟨false,30,11,1,[(vI 0),(vI 0),nV,nV,(vI 0),nV,nV,nV,nV,(vI 0),nV]⟩,some ⟨false,30,11,1,[(vI (IntKind.i64.wrap (Int.tmod y2 256))),(vI z5.1),(sL (eI .u64) z5.2.1),(sL Zb z5.2.2.1),(vI z5.2.2.2.1),(sL (eI .u64) z5.2.2.2.2.1),(sL Zb z5.2.2.2.2.2.1),.row (n+5) z15.length,.row (n+7) ([]:List Zl).length,(vI z5.2.2.2.2.2.2),nV]⟩,some ⟨false,25,3,1,(Zd y3)⟩,some ⟨false,25,3,1,(Zd y4)⟩,some (oR 84 4 Zp z15),none,some (oR 86 12 Zr ([]:List Zl)),none])) (n':=(n+9)) ?_ ?_
 ·refine Fit2.trans (E':=(⟨158,[],[(2,.ref (n+1) 0),(4,.ref (n+2) 0),(5,.ref (n+3) 0),(6,.ref (n+4) 0),(9,(vI 0))]⟩:Env)) (O':=(Zw O n [none,some ⟨false,30,11,1,[(vI 0),(vI 0),nV,nV,(vI 0),nV,nV,nV,nV,(vI 0),nV]⟩,some ⟨false,30,11,1,[(vI (IntKind.i64.wrap (Int.tmod y2 256))),(vI z5.1),(sL (eI .u64) z5.2.1),(sL Zb z5.2.2.1),(vI z5.2.2.2.1),(sL (eI .u64) z5.2.2.2.2.1),(sL Zb z5.2.2.2.2.2.1),.row (n+5) z15.length,nV,(vI z5.2.2.2.2.2.2),nV]⟩,some ⟨false,25,3,1,(Zd y3)⟩,some ⟨false,25,3,1,(Zd y4)⟩,some (oR 84 4 Zp z15),none])) (n':=(n+7)) (Fit2.of (Z6 hU rfl rfl ?_) (by omega)) ?_
  ·exact Gl
  refine Fit2.trans (Zgn (p:=(n+2)) (k:=8) (q:=⟨false,30,11,1,[(vI (IntKind.i64.wrap (Int.tmod y2 256))),(vI z5.1),(sL (eI .u64) z5.2.1),(sL Zb z5.2.2.1),(vI z5.2.2.2.1),(sL (eI .u64) z5.2.2.2.2.1),(sL Zb z5.2.2.2.2.2.1),.row (n+5) z15.length,nV,(vI z5.2.2.2.2.2.2),nV]⟩) 86 12 (by simp only [Zc1,Zi1,List.getElem?_cons_zero,List.getElem?_cons_succ,Option.join_some,List.length_nil,Xo]) rfl (by omega)) ?_
  simp only [Q5,Qi,Vt,Kh,List.set_cons_zero,List.set_cons_succ,List.cons_append,List.nil_append,List.length_cons,List.length_nil,Nat.zero_add,Nat.reduceAdd,Nat.reduceLT,Nat.add_assoc]
  refine Jg (k:=8) (k':=9) hU [8,1,2,3,4,5,8,7] [0,1,2,3,4,5,0,7,0] rfl rfl rfl rfl ⟨rfl,rfl⟩ ?_
  exact Gl
 obtain ⟨z23,hz23,h⟩:=bC h
 refine Yj (E':=⟨158,[],[(2,.ref (n+1) 0),(4,.ref (n+2) 0),(5,.ref (n+3) 0)]⟩) (O':=(Zw O n [none,some ⟨false,30,11,1,[(vI 0),(vI 0),nV,nV,(vI 0),nV,nV,nV,nV,(vI 0),nV]⟩,some ⟨false,30,11,1,[(vI (IntKind.i64.wrap (Int.tmod y2 256))),(vI z5.1),(sL (eI .u64) z5.2.1),(sL Zb z5.2.2.1),(vI z5.2.2.2.1),(sL (eI .u64) z5.2.2.2.2.1),(sL Zb z5.2.2.2.2.2.1),.row (n+5) z15.length,.row (n+7) z23.length,(vI z5.2.2.2.2.2.2),nV]⟩,some ⟨false,25,3,1,(Zd y3)⟩,none,some (oR 84 4 Zp z15),none,some (oR 86 12 Zr z23),none])) (n0:=(n+9)) ?_ ?_
 ·refine Y4 hz23 (fun s1_=>⟨158,[],[(2,.ref (n+1) 0),(4,.ref (n+2) 0),(5,.ref (n+3) 0),(6,.ref (n+4) 0),(9,(vI s1_.1))]⟩) (fun s1_=>(Zw O n [none,some ⟨false,30,11,1,[(vI 0),(vI 0),nV,nV,(vI 0),nV,nV,nV,nV,(vI 0),nV]⟩,some ⟨false,30,11,1,[(vI (IntKind.i64.wrap (Int.tmod y2 256))),(vI z5.1),(sL (eI .u64) z5.2.1),(sL Zb z5.2.2.1),(vI z5.2.2.2.1),(sL (eI .u64) z5.2.2.2.2.1),(sL Zb z5.2.2.2.2.2.1),.row (n+5) z15.length,.row (n+7) s1_.2.length,(vI z5.2.2.2.2.2.2),nV]⟩,some ⟨false,25,3,1,(Zd y3)⟩,some ⟨false,25,3,1,(Zd y4)⟩,some (oR 84 4 Zp z15),none,some (oR 86 12 Zr s1_.2),none])) (fun z23=>JX 2 n (⟨158,[],[(2,.ref (n+1) 0),(4,.ref (n+2) 0),(5,.ref (n+3) 0)]⟩:Env) (Zw O n [none,some ⟨false,30,11,1,[(vI 0),(vI 0),nV,nV,(vI 0),nV,nV,nV,nV,(vI 0),nV]⟩,some ⟨false,30,11,1,[(vI (IntKind.i64.wrap (Int.tmod y2 256))),(vI z5.1),(sL (eI .u64) z5.2.1),(sL Zb z5.2.2.1),(vI z5.2.2.2.1),(sL (eI .u64) z5.2.2.2.2.1),(sL Zb z5.2.2.2.2.2.1),.row (n+5) z15.length,.row (n+7) z23.length,(vI z5.2.2.2.2.2.2),nV]⟩,some ⟨false,25,3,1,(Zd y3)⟩,none,some (oR 84 4 Zp z15),none,some (oR 86 12 Zr z23),none]) (n+9)) ?_
  intro s1_ x1_ hs1_
  unfold Kc at hs1_
  try dsimp only
  refine Ze ?_
  refine zQD [2,4,5,6,9,84] [none,none,none] ?_
  refine Zo (t:=(cond (decide (s1_.1 < (y4.Kids.length:Int))) ((IntKind.i64.wrap (Int.tmod y2 256)) == 2) false)) rfl (fun c22 => ?_) (fun c22 => ?_)
  ·replace hs1_:=Zn c22 hs1_
   refine Qd [2,4,5,6,9] [false,true,true,true,true,true,false,true,false] ?_
   refine Ze ?_
   refine Z9 ?_
   refine Ze ?_
   obtain ⟨x17,hx17,ax17,bx17,cx17,hs1_⟩:=bE (f:=Zb) Uc (fun _=>rfl) (by decide) hs1_
   refine Gc [] ax17 bx17 cx17 ?_
   refine zD [2,4,5,6,9,10] [false,true,true,true,true,true,false,true,false,true] ?_
   obtain ⟨y18,hy18,hs1_⟩:=bC hs1_
   obtain ⟨y19,hy19,hs1_⟩:=bC hs1_
   obtain ⟨y20,hy20,hs1_⟩:=bC hs1_
   obtain ⟨l21,pl21,ql21,el21,hs1_⟩:=bA (k:=1) rfl hs1_
   refine Zhb Zq (by kernel_rfl) [.low,.low,.plain,.plain,.plain,.plain,.plain,.plain,.plain,.plain,.pass,.bar,.plain,.bar] (fun i=>i < (n+10)) [0,1,2,3,4,5,6,7,8,9,10,11,12,13] [.low,.low,.plain,.plain,.plain,.plain,.plain,.plain,.plain,.plain,.pass,.bar,.plain,.bar] [] (by kernel_rfl) rfl ?_
   refine zX3 pl21 ql21 el21 ?_
   refine zO ?_
   first | refine PCallA.of (fun _ _=>Xc hy18) ?_ | refine PCall.of (Xc hy18) ?_
   refine zX3 pl21 ql21 el21 ?_
   refine zO ?_
   first | refine PCallA.of (fun _ _=>J6 hy19) ?_ | refine PCall.of (J6 hy19) ?_
   refine zX3 pl21 ql21 el21 ?_
   refine zO ?_
   first | refine PCallA.of (fun _ _=>Zd8 hy20) ?_ | refine PCall.of (Zd8 hy20) ?_
   refine zX3 pl21 ql21 el21 ?_
   refine zO ?_
   refine Ki ⟨158,[],[(2,.ref (n+1) 0),(4,.ref (n+2) 0),(5,.ref (n+3) 0),(6,.ref (n+4) 0),(9,(vI s1_.1))]⟩ (Zw O n [none,some ⟨false,30,11,1,[(vI 0),(vI 0),nV,nV,(vI 0),nV,nV,nV,nV,(vI 0),nV]⟩,some ⟨false,30,11,1,[(vI (IntKind.i64.wrap (Int.tmod y2 256))),(vI z5.1),(sL (eI .u64) z5.2.1),(sL Zb z5.2.2.1),(vI z5.2.2.2.1),(sL (eI .u64) z5.2.2.2.2.1),(sL Zb z5.2.2.2.2.2.1),.row (n+5) z15.length,.row (n+7) l21.length,(vI z5.2.2.2.2.2.2),nV]⟩,some ⟨false,25,3,1,(Zd y3)⟩,some ⟨false,25,3,1,(Zd y4)⟩,some (oR 84 4 Zp z15),none,some (oR 86 12 Zr l21),none,none,none]) (Z6 hU rfl rfl ?_) ?_
   ·exact Zjn pl21 ql21 el21
   refine zR ?_
   exact Gv hs1_
  replace hs1_:=Zm c22 hs1_
  exact zEx hs1_
 try simp only [Y1,Yc,↓reduceIte,Nat.reduceEqDiff]
 refine zDs [2,4,5] [false,true,true,true,false,true,false,true,false] ?_
 refine zQd [2,4,5,11] [2,4,5,11] [false,true,true,true,false,true,false,true,false] ?_
 refine G8 (E':=(⟨158,[],[(2,.ref (n+1) 0),(4,.ref (n+2) 0),(5,.ref (n+3) 0),(11,(vI 0))]⟩:Env)) (O':=(Zw O n [none,some ⟨false,30,11,1,[(vI 0),(vI 0),nV,nV,(vI 0),nV,nV,nV,nV,(vI 0),nV]⟩,some ⟨false,30,11,1,[(vI (IntKind.i64.wrap (Int.tmod y2 256))),(vI z5.1),(sL (eI .u64) z5.2.1),(sL Zb z5.2.2.1),(vI z5.2.2.2.1),(sL (eI .u64) z5.2.2.2.2.1),(sL Zb z5.2.2.2.2.2.1),.row (n+5) z15.length,.row (n+7) z23.length,(vI z5.2.2.2.2.2.2),.row (n+9) ([]:List Zt).length]⟩,some ⟨false,25,3,1,(Zd y3)⟩,none,some (oR 84 4 Zp z15),none,some (oR 86 12 Zr z23),none,some (oR 89 14 Z4 ([]:List Zt)),none])) (n':=(n+11)) ?_ ?_
 ·refine Fit2.trans (E':=(⟨158,[],[(2,.ref (n+1) 0),(4,.ref (n+2) 0),(5,.ref (n+3) 0),(11,(vI 0))]⟩:Env)) (O':=(Zw O n [none,some ⟨false,30,11,1,[(vI 0),(vI 0),nV,nV,(vI 0),nV,nV,nV,nV,(vI 0),nV]⟩,some ⟨false,30,11,1,[(vI (IntKind.i64.wrap (Int.tmod y2 256))),(vI z5.1),(sL (eI .u64) z5.2.1),(sL Zb z5.2.2.1),(vI z5.2.2.2.1),(sL (eI .u64) z5.2.2.2.2.1),(sL Zb z5.2.2.2.2.2.1),.row (n+5) z15.length,.row (n+7) z23.length,(vI z5.2.2.2.2.2.2),nV]⟩,some ⟨false,25,3,1,(Zd y3)⟩,none,some (oR 84 4 Zp z15),none,some (oR 86 12 Zr z23),none])) (n':=(n+9)) (Fit2.of (Z6 hU rfl rfl ?_) (by omega)) ?_
  ·exact Gl
  refine Fit2.trans (Zgn (p:=(n+2)) (k:=10) (q:=⟨false,30,11,1,[(vI (IntKind.i64.wrap (Int.tmod y2 256))),(vI z5.1),(sL (eI .u64) z5.2.1),(sL Zb z5.2.2.1),(vI z5.2.2.2.1),(sL (eI .u64) z5.2.2.2.2.1),(sL Zb z5.2.2.2.2.2.1),.row (n+5) z15.length,.row (n+7) z23.length,(vI z5.2.2.2.2.2.2),nV]⟩) 89 14 (by simp only [Zc1,Zi1,List.getElem?_cons_zero,List.getElem?_cons_succ,Option.join_some,List.length_nil,Xo]) rfl (by omega)) ?_
  simp only [Q5,Qi,Vt,Kh,List.set_cons_zero,List.set_cons_succ,List.cons_append,List.nil_append,List.length_cons,List.length_nil,Nat.zero_add,Nat.reduceAdd,Nat.reduceLT,Nat.add_assoc]
  refine Jg (k:=10) (k':=11) hU [10,1,2,3,10,5,10,7,10,9] [0,1,2,3,0,5,0,7,0,9,0] rfl rfl rfl rfl ⟨rfl,rfl⟩ ?_
  exact Gl
 obtain ⟨z38,hz38,h⟩:=bC h
 refine Yj (E':=⟨158,[],[(2,.ref (n+1) 0),(4,.ref (n+2) 0)]⟩) (O':=(Zw O n [none,some ⟨false,30,11,1,[(vI 0),(vI 0),nV,nV,(vI 0),nV,nV,nV,nV,(vI 0),nV]⟩,some ⟨false,30,11,1,[(vI (IntKind.i64.wrap (Int.tmod y2 256))),(vI z5.1),(sL (eI .u64) z5.2.1),(sL Zb z5.2.2.1),(vI z5.2.2.2.1),(sL (eI .u64) z5.2.2.2.2.1),(sL Zb z5.2.2.2.2.2.1),.row (n+5) z15.length,.row (n+7) z23.length,(vI z5.2.2.2.2.2.2),.row (n+9) z38.length]⟩,none,none,some (oR 84 4 Zp z15),none,some (oR 86 12 Zr z23),none,some (oR 89 14 Z4 z38),none])) (n0:=(n+11)) ?_ ?_
 ·refine Y4 hz38 (fun s2_=>⟨158,[],[(2,.ref (n+1) 0),(4,.ref (n+2) 0),(5,.ref (n+3) 0),(11,(vI s2_.1))]⟩) (fun s2_=>(Zw O n [none,some ⟨false,30,11,1,[(vI 0),(vI 0),nV,nV,(vI 0),nV,nV,nV,nV,(vI 0),nV]⟩,some ⟨false,30,11,1,[(vI (IntKind.i64.wrap (Int.tmod y2 256))),(vI z5.1),(sL (eI .u64) z5.2.1),(sL Zb z5.2.2.1),(vI z5.2.2.2.1),(sL (eI .u64) z5.2.2.2.2.1),(sL Zb z5.2.2.2.2.2.1),.row (n+5) z15.length,.row (n+7) z23.length,(vI z5.2.2.2.2.2.2),.row (n+9) s2_.2.length]⟩,some ⟨false,25,3,1,(Zd y3)⟩,none,some (oR 84 4 Zp z15),none,some (oR 86 12 Zr z23),none,some (oR 89 14 Z4 s2_.2),none])) (fun z38=>JX 4 n (⟨158,[],[(2,.ref (n+1) 0),(4,.ref (n+2) 0)]⟩:Env) (Zw O n [none,some ⟨false,30,11,1,[(vI 0),(vI 0),nV,nV,(vI 0),nV,nV,nV,nV,(vI 0),nV]⟩,some ⟨false,30,11,1,[(vI (IntKind.i64.wrap (Int.tmod y2 256))),(vI z5.1),(sL (eI .u64) z5.2.1),(sL Zb z5.2.2.1),(vI z5.2.2.2.1),(sL (eI .u64) z5.2.2.2.2.1),(sL Zb z5.2.2.2.2.2.1),.row (n+5) z15.length,.row (n+7) z23.length,(vI z5.2.2.2.2.2.2),.row (n+9) z38.length]⟩,none,none,some (oR 84 4 Zp z15),none,some (oR 86 12 Zr z23),none,some (oR 89 14 Z4 z38),none]) (n+11)) ?_
  intro s2_ x2_ hs2_
  unfold Ke at hs2_
  try dsimp only
  refine Ze ?_
  refine zQD [2,4,5,11,114] [none,none,none] ?_
  refine Zo (t:=(cond (decide (s2_.1 < (y3.Kids.length:Int))) ((IntKind.i64.wrap (Int.tmod y2 256)) == 3) false)) rfl (fun c37 => ?_) (fun c37 => ?_)
  ·replace hs2_:=Zn c37 hs2_
   refine Qd [2,4,5,11] [false,true,true,true,false,true,false,true,false,true,false] ?_
   refine Ze ?_
   refine Z9 ?_
   refine Ze ?_
   obtain ⟨x25,hx25,ax25,bx25,cx25,hs2_⟩:=bE (f:=Zb) Uc (fun _=>rfl) (by decide) hs2_
   refine Gc [] ax25 bx25 cx25 ?_
   refine zDs [2,4,5,11,12] [false,true,true,true,false,true,false,true,false,true,false,true] ?_
   obtain ⟨y28,hy28,hs2_⟩:=bC hs2_
   obtain ⟨y29,hy29,hs2_⟩:=bC hs2_
   refine Zhb Zq (by kernel_rfl) [.low,.low,.low,.plain,.low,.low,.low,.low,.plain,.plain,.pass,.bar] (fun i=>i < (n+12)) [0,1,2,3,4,5,6,7,8,9,10,11] [.low,.low,.low,.plain,.low,.low,.low,.low,.plain,.plain,.pass,.bar] [] (by kernel_rfl) rfl ?_
   refine zS ?_
   refine zO ?_
   first | refine PCallA.of (fun _ _=>Xc hy28) ?_ | refine PCall.of (Xc hy28) ?_
   refine zS ?_
   refine zO ?_
   first | refine PCallA.of (fun _ _=>Xc hy29) ?_ | refine PCall.of (Xc hy29) ?_
   refine zS ?_
   refine zO ?_
   refine zD [2,4,5,11,12,13] [false,true,true,true,false,true,false,true,false,true,false,true,true] ?_
   obtain ⟨z30,hz30,hs2_⟩:=bC hs2_
   refine Yu (E':=⟨158,[],[(2,.ref (n+1) 0),(4,.ref (n+2) 0),(5,.ref (n+3) 0),(11,(vI s2_.1)),(13,.ref (n+12) 0)]⟩) (O':=(Zw O n [none,some ⟨false,30,11,1,[(vI 0),(vI 0),nV,nV,(vI 0),nV,nV,nV,nV,(vI 0),nV]⟩,some ⟨false,30,11,1,[(vI (IntKind.i64.wrap (Int.tmod y2 256))),(vI z5.1),(sL (eI .u64) z5.2.1),(sL Zb z5.2.2.1),(vI z5.2.2.2.1),(sL (eI .u64) z5.2.2.2.2.1),(sL Zb z5.2.2.2.2.2.1),.row (n+5) z15.length,.row (n+7) z23.length,(vI z5.2.2.2.2.2.2),.row (n+9) s2_.2.length]⟩,some ⟨false,25,3,1,(Zd y3)⟩,none,some (oR 84 4 Zp z15),none,some (oR 86 12 Zr z23),none,some (oR 89 14 Z4 s2_.2),none,none,some ⟨false,89,14,1,[(vI (IntKind.i64.wrap (Int.tmod y28 256))),(vI z30.1),(sL Zb z30.2.1),(vI z30.2.2.1),(vI z30.2.2.2.1),(sL (eI .u64) z30.2.2.2.2.1),(sL Zb z30.2.2.2.2.2.1),(vI z30.2.2.2.2.2.2.1),(sL (eI .u64) z30.2.2.2.2.2.2.2.1),(sL Zb z30.2.2.2.2.2.2.2.2.1),(sL Zp z30.2.2.2.2.2.2.2.2.2.1),(sL Zr z30.2.2.2.2.2.2.2.2.2.2.1),(vI z30.2.2.2.2.2.2.2.2.2.2.2.1),(sL Z4 z30.2.2.2.2.2.2.2.2.2.2.2.2)]⟩])) (n0:=(n+13)) ?_ ?_
   ·refine zQ [2,4,5,11,12,13,134] ?_
    refine Zo (t:=((IntKind.i64.wrap (Int.tmod y28 256)) == 3)) rfl (fun c35 => ?_) (fun c35 => ?_)
    ·replace hz30:=Zn c35 hz30
     obtain ⟨y31,hy31,hz30⟩:=bC hz30
     obtain ⟨y32,hy32,hz30⟩:=bC hz30
     refine zC (J6 hy31) ?_
     refine zTs (Zd8 hy32) ?_
     exact Gv hz30
    replace hz30:=Zm c35 hz30
    refine zQD [2,4,5,11,12,13,146] [none,none,none] ?_
    refine Zo (t:=(cond ((IntKind.i64.wrap (Int.tmod y28 256)) == 1) true ((IntKind.i64.wrap (Int.tmod y28 256)) == 2))) rfl (fun c34 => ?_) (fun c34 => ?_)
    ·replace hz30:=Zn c34 hz30
     obtain ⟨y33,hy33,hz30⟩:=bC hz30
     refine zC (J6 hy33) ?_
     exact Gv hz30
    replace hz30:=Zm c34 hz30
    refine zK ?_
    exact Gv hz30
   obtain ⟨l36,pl36,ql36,el36,hs2_⟩:=bA (k:=1) rfl hs2_
   refine Gu [] pl36 ql36 el36 ?_
   refine Ki ⟨158,[],[(2,.ref (n+1) 0),(4,.ref (n+2) 0),(5,.ref (n+3) 0),(11,(vI s2_.1))]⟩ (Zw O n [none,some ⟨false,30,11,1,[(vI 0),(vI 0),nV,nV,(vI 0),nV,nV,nV,nV,(vI 0),nV]⟩,some ⟨false,30,11,1,[(vI (IntKind.i64.wrap (Int.tmod y2 256))),(vI z5.1),(sL (eI .u64) z5.2.1),(sL Zb z5.2.2.1),(vI z5.2.2.2.1),(sL (eI .u64) z5.2.2.2.2.1),(sL Zb z5.2.2.2.2.2.1),.row (n+5) z15.length,.row (n+7) z23.length,(vI z5.2.2.2.2.2.2),.row (n+9) l36.length]⟩,some ⟨false,25,3,1,(Zd y3)⟩,none,some (oR 84 4 Zp z15),none,some (oR 86 12 Zr z23),none,some (oR 89 14 Z4 l36),none,none,none,none]) (Z6 hU rfl rfl ?_) ?_
   ·exact Zjn pl36 ql36 el36
   refine zR ?_
   exact Gv hs2_
  replace hs2_:=Zm c37 hs2_
  exact zEx hs2_
 try simp only [Y1,Yc,↓reduceIte,Nat.reduceEqDiff]
 refine zDs [2,4] [false,true,true,false,false,true,false,true,false,true,false] ?_
 refine zRd [2] [false,true,false,false,false,true,false,true,false,true,false] ?_
 refine zW ?_
 obtain rfl:=sI h
 refine Zg (.inr rfl) hU [.agg [(vI (IntKind.i64.wrap (Int.tmod y2 256))),(vI z5.1),(sL (eI .u64) z5.2.1),(sL Zb z5.2.2.1),(vI z5.2.2.2.1),(sL (eI .u64) z5.2.2.2.2.1),(sL Zb z5.2.2.2.2.2.1),.row (n+5) z15.length,.row (n+7) z23.length,(vI z5.2.2.2.2.2.2),.row (n+9) z38.length]] (by omega) ?_
 simp only [push_cast,seval,↓reduceIte,Zc,Tryz.results65,hN0,hN]
theorem Znf:∀ k,(Zii (Jl k)):=fun k=>by
 induction k with
 | zero=>exact @fun a0 r O n h=>(nomatch (show (none:Option _)=some _ from h))
 | succ k ih=>exact @fun a0 r O n h=>Zph (ih)  h
theorem Zqr {a0:Za} {r:Zf} {O:Objs} {n:Nat} (h:Zgu a0=some r):GTo Tryz.prog 65 [.agg (Zd a0)] O n (.agg (Zi r)) O n:=by
 obtain ⟨k,hk⟩:=V0 h
 exact (Znf k)  hk
theorem V9 {a0:Za} {r:Bool} {O:Objs} {n:Nat} (h:J4 a0=some r):GTo Tryz.prog 68 [.agg (Zd a0)] O n ((vB r)) O n:=by
 unfold J4 at h
 refine K6 Zq Tryz.call68 Tryz.func68 rfl fun hU hN0 hN => ?_
 show W _ _ _ _ ⟨16,[],[(0,.agg (Zd a0))]⟩ (Zw O n []) _
 refine zQ [1] ?_
 refine zQD [2] [none,none,none,none,none,none,none,none] ?_
 refine zW ?_
 obtain rfl:=sI h
 refine Zg (.inr rfl) hU [(vB (cond (a0.Kind == 0) ((IntKind.i64.wrap ((a0.Words.length:Int)+(a0.Kids.length:Int))) == 0) false))] (by omega) ?_
 simp only [push_cast,seval,↓reduceIte,Zc,Tryz.results68,hN0,hN]
theorem Zj2 {a0:Int} {r:(Arr Int 8)} {O:Objs} {n:Nat} (h:V5 a0=some r):GTo Tryz.prog 171 [.val (.int .u64 a0)] O n (.agg (fl (eI .u8) r.1)) O n:=by
 unfold V5 at h
 refine K6 Zq Tryz.call171 Tryz.func171 rfl fun hU hN0 hN => ?_
 show W _ _ _ _ ⟨18,[],[(0,.val (.int .u64 a0))]⟩ (Zw O n []) _
 obtain ⟨y3,hy3,ey3,h⟩:=bY (f:=(eI .u8)) (cs:=[.val (.int .u8 0),.val (.int .u8 0),.val (.int .u8 0),.val (.int .u8 0),.val (.int .u8 0),.val (.int .u8 0),.val (.int .u8 0),.val (.int .u8 0)]) rfl h
 have g4:=congrArg (GObj.mk false 185 8 1) ey3
 refine Yo2 [0,2] g4 ?_
 refine Ze ?_
 obtain ⟨y9,hy9,ey9,h⟩:=bY (f:=(eI .u8)) (cs:=[.val (.int .u8 0),.val (.int .u8 0),.val (.int .u8 0),.val (.int .u8 0),.val (.int .u8 0),.val (.int .u8 0),.val (.int .u8 0),.val (.int .u8 0)]) rfl h
 have g10:=congrArg G.agg ey9
 have g11:=congrArg (GObj.mk false 185 8 1) ey9
 have g12:=Zin (f:=(eI .u8)) y9 y9 (fun _=>rfl)
 refine Gu [] g10 g11 g12 ?_
 refine zDs [0,2,3] [true,true] ?_
 refine zQd [0,2,3,4] [0,2,3,4] [true,true] ?_
 obtain ⟨z18,hz18,h⟩:=bC h
 refine Yj (E':=⟨18,[],[(2,.ref n 0),(3,.ref (n+1) 0)]⟩) (O':=(Zw O n [some ⟨false,185,8,1,fl (eI .u8) y3.1⟩,some ⟨false,185,8,1,fl (eI .u8) z18.1⟩])) (n0:=(n+2)) ?_ ?_
 ·refine Y4 hz18 (fun s0_=>⟨18,[],[(0,.val (.int .u64 s0_.1)),(2,.ref n 0),(3,.ref (n+1) 0),(4,(vI s0_.2.1))]⟩) (fun s0_=>(Zw O n [some ⟨false,185,8,1,fl (eI .u8) y3.1⟩,some ⟨false,185,8,1,fl (eI .u8) s0_.2.2.1⟩])) (fun z18=>JX 0 n (⟨18,[],[(2,.ref n 0),(3,.ref (n+1) 0)]⟩:Env) (Zw O n [some ⟨false,185,8,1,fl (eI .u8) y3.1⟩,some ⟨false,185,8,1,fl (eI .u8) z18.1⟩]) (n+2)) ?_
  intro s0_ x0_ hs0_
  unfold V1 at hs0_
  try dsimp only
  refine Ze ?_
  refine zQ [0,2,3,4,7] ?_
  refine Zo (t:=(decide (s0_.2.1 < 8))) rfl (fun c17 => ?_) (fun c17 => ?_)
  ·replace hs0_:=Zn c17 hs0_
   refine Qd [0,2,3,4] [true,true] ?_
   refine Ze ?_
   refine Z9 ?_
   refine Ze ?_
   obtain ⟨x15,hx15,ax15,bx15,cx15,hs0_⟩:=bEA (f:=(eI .u8)) (b:=8) rfl Z7h (fun _=>rfl) (by decide) hs0_
   have gu16:Gg (fl (eI .u8) s0_.2.2.1) [.val (.int .u8 (IntKind.u8.wrap (Int.tmod s0_.1 256)))] (Int.toNat s0_.2.1 * 1)=some (fl (eI .u8) (Zka s0_.2.2.1 s0_.2.1 (IntKind.u8.wrap (Int.tmod s0_.1 256)))):=Zio (f:=(eI .u8)) (ti:=⟨.bool,1,0,[],false⟩) (x:=(IntKind.u8.wrap (Int.tmod s0_.1 256))) (fun _=>rfl) (Zep hx15)
   refine Yb5 [] ax15 bx15 cx15 gu16 ?_
   refine zD [0,2,3,4] [true,true] ?_
   refine zRd [0,2,3,4] [true,true] ?_
   refine zR ?_
   exact Gv hs0_
  replace hs0_:=Zm c17 hs0_
  exact zEx hs0_
 try simp only [Y1,Yc,↓reduceIte,Nat.reduceEqDiff]
 refine zDs [2,3] [true,true] ?_
 have g21:=Z1t (f:=(eI .u8)) z18 Zzb rfl (fun _=>rfl) rfl
 have g22:=Zin (f:=(eI .u8)) y3 z18 (fun _=>rfl)
 refine Xy [] g21 g22 ?_
 refine zD [2] [true,false] ?_
 refine zW ?_
 obtain rfl:=sI h
 have gR0:=Z1t (f:=(eI .u8)) z18 Zzb rfl (fun _=>rfl) rfl
 refine Zg (.inr rfl) hU [.agg (fl (eI .u8) z18.1)] (by omega) ?_
 simp only [push_cast,seval,↓reduceIte,Zc,Tryz.results171,hN0,hN,gR0]
theorem Zqo {a0:Int} {a1:Int} {r:Bool} {O:Objs} {n:Nat} (h:Zaj a0 a1=some r):GTo Tryz.prog 172 [.val (.int .u8 a0),(vI a1)] O n ((vB r)) O n:=by
 unfold Zaj at h
 refine K6 Zq Tryz.call172 Tryz.func172 rfl fun hU hN0 hN => ?_
 show W _ _ _ _ ⟨16,[],[(0,.val (.int .u8 a0)),(1,(vI a1))]⟩ (Zw O n []) _
 refine zQ [0,1] ?_
 refine Ze ?_
 refine zQd [0,1,5] [0,1,5] [] ?_
 obtain ⟨z2,hz2,h⟩:=bC h
 refine Yj (E':=⟨16,[],[(0,.val (.int .u8 z2))]⟩) (O':=(Zw O n [])) (n0:=n) ?_ ?_
 ·refine Y4 hz2 (fun s0_=>⟨16,[],[(0,.val (.int .u8 s0_.1)),(1,(vI a1)),(5,(vI s0_.2))]⟩) (fun s0_=>(Zw O n [])) (fun z2=>JX 0 n (⟨16,[],[(0,.val (.int .u8 z2))]⟩:Env) (Zw O n []) n) ?_
  intro s0_ x0_ hs0_
  unfold Kf at hs0_
  try dsimp only
  refine Ze ?_
  refine zQ [0,1,5,8] ?_
  refine Zo (t:=(decide (s0_.2 < a1))) rfl (fun c1 => ?_) (fun c1 => ?_)
  ·replace hs0_:=Zn c1 hs0_
   refine Qd [0,1,5] [] ?_
   refine Ze ?_
   refine Z9 ?_
   refine zRd [0,1,5] [] ?_
   refine zR ?_
   exact Gv hs0_
  replace hs0_:=Zm c1 hs0_
  exact zEx hs0_
 try simp only [Y1,Yc,↓reduceIte,Nat.reduceEqDiff]
 refine zD [0] [] ?_
 refine zQ [4] ?_
 refine zW ?_
 obtain rfl:=sI h
 refine Zg (.inr rfl) hU [(vB ((Int.tmod z2 2) == 1))] (by omega) ?_
 simp only [push_cast,seval,↓reduceIte,Zc,Tryz.results172,hN0,hN]
theorem Zu9 {a0:(List Int)} {a1:Int} {r:Int} {O:Objs} {n:Nat} (h:Zgi a0 a1=some r):GTo Tryz.prog 173 [(sL (eI .u8) a0),(vI a1)] O n (.val (.int .u64 r)) O n:=by
 unfold Zgi at h
 refine K6 Zq Tryz.call173 Tryz.func173 rfl fun hU hN0 hN => ?_
 show W _ _ _ _ ⟨22,[],[(0,(sL (eI .u8) a0)),(1,(vI a1))]⟩ (Zw O n []) _
 refine zQ [0,1] ?_
 refine zQ [0,1,5] ?_
 refine Ze ?_
 refine zQd [0,1,5,6] [0,1,5,6] [] ?_
 obtain ⟨z3,hz3,h⟩:=bC h
 refine Yj (E':=⟨22,[],[(5,.val (.int .u64 z3))]⟩) (O':=(Zw O n [])) (n0:=n) ?_ ?_
 ·refine Y4 hz3 (fun s0_=>⟨22,[],[(0,(sL (eI .u8) a0)),(1,(vI a1)),(5,.val (.int .u64 s0_.1)),(6,(vI s0_.2))]⟩) (fun s0_=>(Zw O n [])) (fun z3=>JX 0 n (⟨22,[],[(5,.val (.int .u64 z3))]⟩:Env) (Zw O n []) n) ?_
  intro s0_ x0_ hs0_
  unfold Zak at hs0_
  try dsimp only
  refine Ze ?_
  refine zQ [0,1,5,6,8] ?_
  refine Zo (t:=(decide (0≤s0_.2))) rfl (fun c2 => ?_) (fun c2 => ?_)
  ·replace hs0_:=Zn c2 hs0_
   refine Qd [0,1,5,6] [] ?_
   refine Ze ?_
   refine Z9 ?_
   obtain ⟨x1,hx1,ax1,bx1,cx1,hs0_⟩:=bE (f:=(eI .u8)) Z7h (fun _=>rfl) (by decide) hs0_
   refine Gc [] ax1 bx1 cx1 ?_
   refine zD [0,1,5,6] [] ?_
   refine zR ?_
   exact Gv hs0_
  replace hs0_:=Zm c2 hs0_
  exact zEx hs0_
 try simp only [Y1,Yc,↓reduceIte,Nat.reduceEqDiff]
 refine zD [5] [] ?_
 refine zQ [4] ?_
 refine zW ?_
 obtain rfl:=sI h
 refine Zg (.inr rfl) hU [.val (.int .u64 z3)] (by omega) ?_
 simp only [push_cast,seval,↓reduceIte,Zc,Tryz.results173,hN0,hN]
theorem Ztf {a0:Int} {a1:Int} {a2:Int} {r:Int} {O:Objs} {n:Nat} (h:Zcj a0 a1 a2=some r):GTo Tryz.prog 112 [.val (.int .u64 a0),.val (.int .u64 a1),.val (.int .u8 a2)] O n (.val (.int .u64 r)) O n:=by
 unfold Zcj at h
 refine K6 Zq Tryz.call112 Tryz.func112 rfl fun hU hN0 hN => ?_
 show W _ _ _ _ ⟨28,[],[(0,.val (.int .u64 a0)),(1,.val (.int .u64 a1)),(2,.val (.int .u8 a2))]⟩ (Zw O n []) _
 refine zQ [0,1,2] ?_
 refine Ze ?_
 obtain ⟨y8,hy8,h⟩:=bC h
 obtain ⟨y9,hy9,h⟩:=bC h
 obtain ⟨y10,hy10,ey10,h⟩:=bY (f:=(eI .u8)) (cs:=[.val (.int .u8 0),.val (.int .u8 0),.val (.int .u8 0),.val (.int .u8 0),.val (.int .u8 0),.val (.int .u8 0),.val (.int .u8 0),.val (.int .u8 0)]) rfl h
 have g11:=congrArg (GObj.mk false 185 8 1) ey10
 have g12:=congrArg (GObj.mk false 185 8 1) ey10
 have g13:=Zin (f:=(eI .u8)) y10 y8 (fun _=>rfl)
 have g14:=Zin (f:=(eI .u8)) y10 y9 (fun _=>rfl)
 refine Zm7 [] g11 g12 g13 g14 ?_
 refine (Zj2 hy8).then ?_
 refine zX4 g11 g12 g13 g14 ?_
 refine (Zj2 hy9).then ?_
 refine zX4 g11 g12 g13 g14 ?_
 refine zDs [2,7,8] [true,true] ?_
 refine zQd [2,7,8,9] [2,7,8,9] [true,true] ?_
 obtain ⟨z23,hz23,h⟩:=bC h
 refine Yj (E':=⟨28,[],[(7,.ref n 0)]⟩) (O':=(Zw O n [some ⟨false,185,8,1,fl (eI .u8) z23.1⟩,none])) (n0:=(n+2)) ?_ ?_
 ·refine Y4 hz23 (fun s0_=>⟨28,[],[(2,.val (.int .u8 a2)),(7,.ref n 0),(8,.ref (n+1) 0),(9,(vI s0_.1))]⟩) (fun s0_=>(Zw O n [some ⟨false,185,8,1,fl (eI .u8) s0_.2.1⟩,some ⟨false,185,8,1,fl (eI .u8) y9.1⟩])) (fun z23=>JX 0 n (⟨28,[],[(7,.ref n 0)]⟩:Env) (Zw O n [some ⟨false,185,8,1,fl (eI .u8) z23.1⟩,none]) (n+2)) ?_
  intro s0_ x0_ hs0_
  unfold Gr at hs0_
  try dsimp only
  refine Ze ?_
  refine zQ [2,7,8,9,15] ?_
  refine Zo (t:=(decide (s0_.1 < 8))) rfl (fun c22 => ?_) (fun c22 => ?_)
  ·replace hs0_:=Zn c22 hs0_
   refine Qd [2,7,8,9] [true,true] ?_
   obtain ⟨z15,hz15,hs0_⟩:=bC hs0_
   refine Yu (E':=⟨28,[],[(2,.val (.int .u8 a2)),(7,.ref n 0),(8,.ref (n+1) 0),(9,(vI s0_.1))]⟩) (O':=(Zw O n [some ⟨false,185,8,1,fl (eI .u8) z15.1⟩,some ⟨false,185,8,1,fl (eI .u8) y9.1⟩])) (n0:=(n+2)) ?_ ?_
   ·refine Z9 ?_
    refine Ze ?_
    obtain ⟨y17,hy17,hz15⟩:=bC hz15
    refine zCd (Zqo hy17) [2,7,8,9,20] [true,true] ?_
    refine Zo (t:=y17) rfl (fun c21 => ?_) (fun c21 => ?_)
    ·replace hz15:=Zn c21 hz15
     obtain ⟨x18,hx18,ax18,bx18,cx18,hz15⟩:=bEA (f:=(eI .u8)) (b:=8) rfl Z7h (fun _=>rfl) (by decide) hz15
     obtain ⟨x19,hx19,ax19,bx19,cx19,hz15⟩:=bEA (f:=(eI .u8)) (b:=8) rfl Z7h (fun _=>rfl) (by decide) hz15
     have gu20:Gg (fl (eI .u8) s0_.2.1) [.val (.int .u8 x18)] (Int.toNat s0_.1 * 1)=some (fl (eI .u8) (Zka s0_.2.1 s0_.1 x18)):=Zio (f:=(eI .u8)) (ti:=⟨.bool,1,0,[],false⟩) (x:=x18) (fun _=>rfl) (Zep hx19)
     refine Yo4 [] ax18 bx18 cx18 ax19 bx19 cx19 gu20 ?_
     exact Yjh hz15 ax18 bx18 cx18 ax19 bx19 cx19 gu20
    replace hz15:=Zm c21 hz15
    refine zK ?_
    exact Gv hz15
   refine zR ?_
   exact Gv hs0_
  replace hs0_:=Zm c22 hs0_
  exact zEx hs0_
 try simp only [Y1,Yc,↓reduceIte,Nat.reduceEqDiff]
 refine zDs [7] [true,false] ?_
 have g27:=Z77 (j:=n) Zt5 Z7h (by decide)
 have g28:=z23.2
 obtain ⟨y29,hy29,h⟩:=bC h
 refine Xy [] g27 g28 ?_
 refine GCalls.lend (Zu9 hy29) rfl ?_ ?_
 ·exact Q4 g27 g28
 refine zX2 g27 g28 ?_
 refine zD [6] [false,false] ?_
 refine zW ?_
 obtain rfl:=sI h
 refine Zg (.inr rfl) hU [.val (.int .u64 y29)] (by omega) ?_
 simp only [push_cast,seval,↓reduceIte,Zc,Tryz.results112,hN0,hN]
theorem Ze2 {a0:Int} {a1:Int} {r:Bool} {O:Objs} {n:Nat} (h:Vk a0 a1=some r):GTo Tryz.prog 69 [.val (.int .u64 a0),.val (.int .u8 a1)] O n ((vB r)) O n:=by
 unfold Vk at h
 refine K6 Zq Tryz.call69 Tryz.func69 rfl fun hU hN0 hN => ?_
 show W _ _ _ _ ⟨9,[],[(0,.val (.int .u64 a0)),(1,.val (.int .u8 a1))]⟩ (Zw O n []) _
 refine zQ [0,1] ?_
 refine Ze ?_
 obtain ⟨y2,hy2,h⟩:=bC h
 refine zCd (Ztf hy2) [4] [] ?_
 refine zW ?_
 obtain rfl:=sI h
 refine Zg (.inr rfl) hU [(vB (y2 == 0))] (by omega) ?_
 simp only [push_cast,seval,↓reduceIte,Zc,Tryz.results69,hN0,hN]
theorem Zkt {a0:Zf} {r:Bool} {O:Objs} {n:Nat} (h:U4 a0=some r):GTo Tryz.prog 113 [.agg (Zi a0)] O n ((vB r)) O n:=by
 unfold U4 at h
 refine K6 Zq Tryz.call113 Tryz.func113 rfl fun hU hN0 hN => ?_
 show W _ _ _ _ ⟨35,[],[(0,.agg (Zi a0))]⟩ (Zw O n []) _
 refine zQ [1] ?_
 obtain ⟨z3,hz3,h⟩:=bC h
 refine Yu (E':=⟨35,[],[(2,(vB z3))]⟩) (O':=(Zw O n [none])) (n0:=(n+1)) ?_ ?_
 ·rcases Bool.eq_false_or_eq_true (a0.Kind == 0) with c8 | c8
  ·replace hz3:=Zn c8 hz3
   obtain ⟨y6,hy6,hz3⟩:=bC hz3
   rcases Bool.eq_false_or_eq_true y6 with c9 | c9
   ·replace hz3:=Zn c9 hz3
    try rw [c9] at c8
    obtain ⟨y7,hy7,hz3⟩:=bC hz3
    refine Xy [some true,some true,some true,some true,some true,some true,none,none,none,none,none,none,none,none,none,none,none,none,none,none,none] c8 c9 ?_
    refine zG ?_
    refine (V9 hy6).then ?_
    refine zX2 c8 c9 ?_
    refine zG ?_
    refine (V9 hy7).then ?_
    refine zX2 c8 c9 ?_
    refine zG ?_
    exact Zbo hz3 c8 c9
   replace hz3:=Zm c9 hz3
   try rw [c9] at c8
   refine Xy [some true,some true,some true,some false,some false,some false,some false,some false,some false,some false,some false,some false,some false,some false,some false,some false,some false,some false,some false,some false,some false] c8 c9 ?_
   refine (V9 hy6).then ?_
   refine zX2 c8 c9 ?_
   exact Zbo hz3 c8 c9
  replace hz3:=Zm c8 hz3
  refine Q2 [some false,some false,some false,some false,some false,some false,some false,some false,some false,some false,some false,some false,some false,some false,some false,some false,some false,some false,some false,some false,some false] c8 ?_
  exact Qf hz3 c8
 refine zW ?_
 obtain rfl:=sI h
 refine Zg (.inr rfl) hU [(vB z3)] (by omega) ?_
 simp only [push_cast,seval,↓reduceIte,Zc,Tryz.results113,hN0,hN]
theorem Zoj {a0:Zf} {r:(Int×Int)} {O:Objs} {n:Nat} (h:Uv a0=some r):GTo Tryz.prog 71 [.agg (Zi a0)] O n (.tup [(vI r.1),(vI r.2)]) O n:=by
 unfold Uv at h
 refine K6 Zq Tryz.call71 Tryz.func71 rfl fun hU hN0 hN => ?_
 show W _ _ _ _ ⟨48,[],[(0,.agg (Zi a0))]⟩ (Zw O n []) _
 refine zQ [1] ?_
 refine zQ [1,4,5] ?_
 refine Ze ?_
 refine zQd [1,4,5,6] [1,4,5,6] [true] ?_
 obtain ⟨z14,hz14,h⟩:=bC h
 refine Yj (E':=⟨48,[],[(4,(vI z14.1)),(5,(vI z14.2))]⟩) (O':=(Zw O n [none])) (n0:=(n+1)) ?_ ?_
 ·refine Y4 hz14 (fun s0_=>⟨48,[],[(1,.ref n 0),(4,(vI s0_.1)),(5,(vI s0_.2.1)),(6,(vI s0_.2.2))]⟩) (fun s0_=>(Zw O n [some ⟨false,30,11,1,(Zi a0)⟩])) (fun z14=>JX 0 n (⟨48,[],[(4,(vI z14.1)),(5,(vI z14.2))]⟩:Env) (Zw O n [none]) (n+1)) ?_
  intro s0_ x0_ hs0_
  unfold K3 at hs0_
  try dsimp only
  refine Ze ?_
  refine zQ [1,4,5,6,13] ?_
  refine Zo (t:=(decide (s0_.2.2 < (a0.Ops.length:Int)))) rfl (fun Kj => ?_) (fun Kj => ?_)
  ·replace hs0_:=Zn Kj hs0_
   refine Qd [1,4,5,6] [true] ?_
   obtain ⟨z1,hz1,hs0_⟩:=bC hs0_
   refine Yu (E':=⟨48,[],[(1,.ref n 0),(4,(vI z1.1)),(5,(vI z1.2)),(6,(vI s0_.2.2))]⟩) (O':=(Zw O n [some ⟨false,30,11,1,(Zi a0)⟩,none])) (n0:=(n+2)) ?_ ?_
   ·refine Z9 ?_
    refine Ze ?_
    obtain ⟨x3,hx3,ax3,bx3,cx3,hz1⟩:=bE (f:=Z4) Zps (fun _=>rfl) (by decide) hz1
    refine Gc [] ax3 bx3 cx3 ?_
    refine zD [1,4,5,6,7] [true,true] ?_
    refine zQ [1,4,5,6,7,8] ?_
    obtain ⟨z4,hz4,hz1⟩:=bC hz1
    refine Yu (E':=⟨48,[],[(1,.ref n 0),(4,(vI s0_.1)),(5,(vI s0_.2.1)),(6,(vI s0_.2.2)),(7,.ref (n+1) 0),(8,(vI z4))]⟩) (O':=(Zw O n [some ⟨false,30,11,1,(Zi a0)⟩,some ⟨false,89,14,1,(Yy x3)⟩])) (n0:=(n+2)) ?_ ?_
    ·refine zQ [1,4,5,6,7,8,29] ?_
     refine Zo (t:=(x3.Kind == 3)) rfl (fun c5 => ?_) (fun c5 => ?_)
     ·replace hz4:=Zn c5 hz4
      refine zR ?_
      exact Gv hz4
     replace hz4:=Zm c5 hz4
     refine zK ?_
     exact Gv hz4
    obtain ⟨z6,hz6,hz1⟩:=bC hz1
    refine Yu (E':=⟨48,[],[(1,.ref n 0),(4,(vI z6)),(5,(vI s0_.2.1)),(6,(vI s0_.2.2)),(7,.ref (n+1) 0),(8,(vI z4))]⟩) (O':=(Zw O n [some ⟨false,30,11,1,(Zi a0)⟩,some ⟨false,89,14,1,(Yy x3)⟩])) (n0:=(n+2)) ?_ ?_
    ·refine zQ [1,4,5,6,7,8,32] ?_
     refine Zo (t:=(x3.Kind != 2)) rfl (fun c7 => ?_) (fun c7 => ?_)
     ·replace hz6:=Zn c7 hz6
      refine zR ?_
      exact Gv hz6
     replace hz6:=Zm c7 hz6
     refine zK ?_
     exact Gv hz6
    obtain ⟨z8,hz8,hz1⟩:=bC hz1
    refine Yu (E':=⟨48,[],[(1,.ref n 0),(4,(vI z6)),(5,(vI z8)),(6,(vI s0_.2.2))]⟩) (O':=(Zw O n [some ⟨false,30,11,1,(Zi a0)⟩,none])) (n0:=(n+2)) ?_ ?_
    ·refine zQ [1,4,5,6,8,38] ?_
     refine Zo (t:=(x3.Kind != 1)) rfl (fun c9 => ?_) (fun c9 => ?_)
     ·replace hz8:=Zn c9 hz8
      refine zR ?_
      exact Gv hz8
     replace hz8:=Zm c9 hz8
     refine zK ?_
     exact Gv hz8
    obtain ⟨z10,hz10,hz1⟩:=bC hz1
    refine Yu (E':=⟨48,[],[(1,.ref n 0),(4,(vI z10)),(5,(vI z8)),(6,(vI s0_.2.2))]⟩) (O':=(Zw O n [some ⟨false,30,11,1,(Zi a0)⟩,none])) (n0:=(n+2)) ?_ ?_
    ·refine zQ [1,4,5,6,43] ?_
     refine Zo (t:=(decide (1048576 < z6))) rfl (fun c11 => ?_) (fun c11 => ?_)
     ·replace hz10:=Zn c11 hz10
      refine zR ?_
      exact Gv hz10
     replace hz10:=Zm c11 hz10
     refine zK ?_
     exact Gv hz10
    refine zQ [1,4,5,6,45] ?_
    refine Zo (t:=(decide (1048576 < z8))) rfl (fun c12 => ?_) (fun c12 => ?_)
    ·replace hz1:=Zn c12 hz1
     refine zR ?_
     exact Gv hz1
    replace hz1:=Zm c12 hz1
    refine zK ?_
    exact Gv hz1
   refine zR ?_
   exact Gv hs0_
  replace hs0_:=Zm Kj hs0_
  exact zEx hs0_
 try simp only [Y1,Yc,↓reduceIte,Nat.reduceEqDiff]
 refine zD [4,5] [false] ?_
 refine zQ [2,3] ?_
 refine zW ?_
 obtain rfl:=sI h
 refine Zg (.inr rfl) hU [(vI z14.1),(vI z14.2)] (by omega) ?_
 simp only [push_cast,seval,↓reduceIte,Zc,Tryz.results71,hN0,hN]
def Zd6 (Xn:(Zf→Int→Option Bool)):Prop:=∀ {a0:Zf} {a1:Int} {r:Bool} {O:Objs} {n:Nat},Xn a0 a1=some r→GTo Tryz.prog 26 [.agg (Zi a0),(vI a1)] O n ((vB r)) O n
def Zgx (Qx:(Int→Zt→Int→Option Bool)):Prop:=∀ {a0:Int} {a1:Zt} {a2:Int} {r:Bool} {O:Objs} {n:Nat},Qx a0 a1 a2=some r→GTo Tryz.prog 70 [(vI a0),.agg (Yy a1),(vI a2)] O n ((vB r)) O n
theorem Zpg {Xn:(Zf→Int→Option Bool)} {Qx:(Int→Zt→Int→Option Bool)} (Zd7:Zd6 Xn) (Zkx:Zgx Qx) {a0:Zf} {a1:Int} {r:Bool} {O:Objs} {n:Nat} (h:Zaa Xn Qx a0 a1=some r):GTo Tryz.prog 26 [.agg (Zi a0),(vI a1)] O n ((vB r)) O n:=by
 unfold Zaa at h
 refine K6 Zq Tryz.call26 Tryz.func26 rfl fun hU hN0 hN => ?_
 show W _ _ _ _ ⟨216,[],[(0,.agg (Zi a0)),(1,(vI a1))]⟩ (Zw O n []) _
 refine zQ [1,2] ?_
 refine Ze ?_
 refine zQD [1,2,24] [none,none,none,none,none,none] ?_
 refine Zo (t:=(cond (cond (a1 == 0) true (decide (a0.Kind < 0))) true (decide (3 < a0.Kind)))) rfl (fun c58 => ?_) (fun c58 => ?_)
 ·replace h:=Zn c58 h
  refine zQ [4] ?_
  refine zW ?_
  obtain rfl:=sI h
  refine Zg (.inr rfl) hU [(vB false)] (by omega) ?_
  simp only [push_cast,seval,↓reduceIte,Zc,Tryz.results26,hN0,hN]
 replace h:=Zm c58 h
 refine Qd [1,2] [true] ?_
 refine Ze ?_
 obtain ⟨z3,hz3,h⟩:=bC h
 refine Yu (E':=⟨216,[],[(1,(vI a1)),(2,.ref n 0),(69,(vB z3))]⟩) (O':=(Zw O n [some ⟨false,30,11,1,(Zi a0)⟩])) (n0:=(n+1)) ?_ ?_
 ·rcases Bool.eq_false_or_eq_true (a0.Kind != 1) with c8 | c8
  ·replace hz3:=Zn c8 hz3
   obtain ⟨y6,hy6,hz3⟩:=bC hz3
   rcases Bool.eq_false_or_eq_true y6 with c9 | c9
   ·replace hz3:=Zn c9 hz3
    try rw [c9] at c8
    obtain ⟨y7,hy7,hz3⟩:=bC hz3
    refine Xy [some true,some true,some true,some true,some true,some true,some true,some true,some true,none,none,none,none,none,none,none,none,none,none,none,none,none,none,none,none,none,none,none,none,none,none,none,none,none,none,none] c8 c9 ?_
    refine zG ?_
    refine (V9 hy6).then ?_
    refine zX2 c8 c9 ?_
    refine zG ?_
    refine (V9 hy7).then ?_
    refine zX2 c8 c9 ?_
    refine zG ?_
    exact Zbo hz3 c8 c9
   replace hz3:=Zm c9 hz3
   try rw [c9] at c8
   refine Xy [some true,some true,some true,some true,some false,some false,some false,some true,some true,some false,some false,some false,some false,some false,some false,some false,some false,some false,some false,some false,some false,some false,some false,some false,some false,some false,some false,some false,some false,some false,some false,some false,some false,some false,some false,some false] c8 c9 ?_
   refine (V9 hy6).then ?_
   refine zX2 c8 c9 ?_
   exact Zbo hz3 c8 c9
  replace hz3:=Zm c8 hz3
  refine Q2 [some false,some false,some false,some false,some false,some false,some false,some false,some false,some true,some true,some true,some true,none,none,none,none,none,none,none,none,some true,none,none,none,none,none,none,none,none,none,none,none,none,none,none] c8 ?_
  refine zG ?_
  exact Qf hz3 c8
 refine Zo (t:=z3) rfl (fun c57 => ?_) (fun c57 => ?_)
 ·replace h:=Zn c57 h
  refine zQ [4] ?_
  refine zW ?_
  obtain rfl:=sI h
  refine Zg (.inr rfl) hU [(vB false)] (by omega) ?_
  simp only [push_cast,seval,↓reduceIte,Zc,Tryz.results26,hN0,hN]
 replace h:=Zm c57 h
 refine Qd [1,2] [true] ?_
 refine Ze ?_
 refine zQ [1,2,72] ?_
 refine Zo (t:=(a0.Kind == 1)) rfl (fun c56 => ?_) (fun c56 => ?_)
 ·replace h:=Zn c56 h
  obtain ⟨z12,hz12,h⟩:=bC h
  refine Yu (E':=⟨216,[],[(4,(vB z12))]⟩) (O':=(Zw O n [none])) (n0:=(n+1)) ?_ ?_
  ·obtain ⟨y15,hy15,hz12⟩:=bC hz12
   rcases Bool.eq_false_or_eq_true y15 with c17 | c17
   ·replace hz12:=Zn c17 hz12
    obtain ⟨y16,hy16,hz12⟩:=bC hz12
    refine Q2 [some true,some true,some true,none,none,none,none,none,none,none,none] c17 ?_
    refine zG ?_
    refine (Gt hy15).then ?_
    refine zX1 c17 ?_
    refine zG ?_
    refine (Gt hy16).then ?_
    refine zX1 c17 ?_
    refine zG ?_
    exact Qf hz12 c17
   replace hz12:=Zm c17 hz12
   refine Q2 [some false,some false,some false,some false,some false,some false,some false,some false,some false,some false,some false] c17 ?_
   refine (Gt hy15).then ?_
   refine zX1 c17 ?_
   exact Qf hz12 c17
  refine zW ?_
  obtain rfl:=sI h
  refine Zg (.inr rfl) hU [(vB z12)] (by omega) ?_
  simp only [push_cast,seval,↓reduceIte,Zc,Tryz.results26,hN0,hN]
 replace h:=Zm c56 h
 refine Qd [1,2] [true] ?_
 refine zQ [1,2,5] ?_
 refine Ze ?_
 refine zQd [1,2,5,6] [1,2,5,6] [true] ?_
 obtain ⟨z33,hz33,h⟩:=bC h
 refine Zaw (J:=(X8 (fun z33=>JR n (⟨216,[],[(4,(vB false))]⟩:Env) (Zw O n [none]) (n+1)) (fun z33=>JX 0 n (⟨216,[],[(1,(vI a1)),(2,.ref n 0)]⟩:Env) (Zw O n [some ⟨false,30,11,1,(Zi a0)⟩]) (n+1)))) (z:=z33) ?_ fun hw => ?_
 ·refine Y4 hz33 (fun s0_=>⟨216,[],[(1,(vI a1)),(2,.ref n 0),(5,(vI s0_.1)),(6,(vI s0_.2))]⟩) (fun s0_=>(Zw O n [some ⟨false,30,11,1,(Zi a0)⟩])) (X8 (fun z33=>JR n (⟨216,[],[(4,(vB false))]⟩:Env) (Zw O n [none]) (n+1)) (fun z33=>JX 0 n (⟨216,[],[(1,(vI a1)),(2,.ref n 0)]⟩:Env) (Zw O n [some ⟨false,30,11,1,(Zi a0)⟩]) (n+1))) ?_
  intro s0_ x0_ hs0_
  unfold J9 at hs0_
  try dsimp only
  refine Ze ?_
  refine zQ [1,2,5,6,97] ?_
  refine Zo (t:=(decide (s0_.2 < (a0.Words.length:Int)))) rfl (fun c32 => ?_) (fun c32 => ?_)
  ·replace hs0_:=Zn c32 hs0_
   refine Qd [1,2,5,6] [true] ?_
   refine Ze ?_
   refine Z9 ?_
   refine Ze ?_
   obtain ⟨x19,hx19,ax19,bx19,cx19,hs0_⟩:=bE (f:=Zp) Zt2 (fun _=>rfl) (by decide) hs0_
   refine Gc [] ax19 bx19 cx19 ?_
   refine zDs [1,2,5,6,7] [true,true] ?_
   obtain ⟨z22,hz22,hs0_⟩:=bC hs0_
   refine Yu (E':=⟨216,[],[(1,(vI a1)),(2,.ref n 0),(6,(vI s0_.2)),(7,.ref (n+1) 0),(134,(vB z22))]⟩) (O':=(Zw O n [some ⟨false,30,11,1,(Zi a0)⟩,some ⟨false,84,4,1,(Zce x19)⟩])) (n0:=(n+2)) ?_ ?_
   ·rcases Bool.eq_false_or_eq_true (decide (x19.At≤s0_.1)) with c27 | c27
    ·replace hz22:=Zn c27 hz22
     refine Q2 [none,none,none,none,none,none,some false,some false,some false,some false,some false,some false,some false,some false,some false,some false,some false,some false] c27 ?_
     refine zG ?_
     exact Qf hz22 c27
    replace hz22:=Zm c27 hz22
    rcases Bool.eq_false_or_eq_true (decide (65534 < x19.At)) with c28 | c28
    ·replace hz22:=Zn c28 hz22
     try rw [c28] at c27
     refine Xy [none,none,none,none,none,none,some false,some false,some false,some false,some false,some false,some false,some false,some false,some false,some false,some false] c27 c28 ?_
     refine zG ?_
     exact Zbo hz22 c27 c28
    replace hz22:=Zm c28 hz22
    try rw [c28] at c27
    rcases Bool.eq_false_or_eq_true (x19.Mask == 0) with c29 | c29
    ·replace hz22:=Zn c29 hz22
     try rw [c29] at c27
     try rw [c29] at c28
     refine Gu [none,none,none,none,none,none,some false,some false,some false,some false,some false,some false,some false,some false,some false,some false,some false,some false] c27 c28 c29 ?_
     refine zG ?_
     exact Zfk hz22 c27 c28 c29
    replace hz22:=Zm c29 hz22
    try rw [c29] at c27
    try rw [c29] at c28
    obtain ⟨y25,hy25,hz22⟩:=bC hz22
    rcases Bool.eq_false_or_eq_true y25 with c30 | c30
    ·replace hz22:=Zn c30 hz22
     try rw [c30] at c27
     try rw [c30] at c28
     try rw [c30] at c29
     obtain ⟨y26,hy26,hz22⟩:=bC hz22
     refine Zm7 [none,none,none,none,none,none,some true,some true,some true,some true,some true,some true,some true,some true,some true,some true,some true,some true] c27 c28 c29 c30 ?_
     refine zG ?_
     refine (Ze2 hy25).then ?_
     refine zX4 c27 c28 c29 c30 ?_
     refine zG ?_
     refine (Ze2 hy26).then ?_
     refine zX4 c27 c28 c29 c30 ?_
     refine zG ?_
     exact Zpz hz22 c27 c28 c29 c30
    replace hz22:=Zm c30 hz22
    try rw [c30] at c27
    try rw [c30] at c28
    try rw [c30] at c29
    refine Zm7 [none,none,none,none,none,none,some true,some true,some true,some true,some true,some true,some false,some false,some false,some false,some false,some false] c27 c28 c29 c30 ?_
    refine zG ?_
    refine (Ze2 hy25).then ?_
    refine zX4 c27 c28 c29 c30 ?_
    refine zG ?_
    exact Zpz hz22 c27 c28 c29 c30
   refine Zo (t:=z22) rfl (fun c31 => ?_) (fun c31 => ?_)
   ·replace hs0_:=Zn c31 hs0_
    refine zQ [4] ?_
    refine zW ?_
    exact zEy hs0_
   replace hs0_:=Zm c31 hs0_
   refine Qd [1,2,6,7] [true,true] ?_
   refine zRd [1,2,5,6] [true,false] ?_
   refine zR ?_
   exact Gv hs0_
  replace hs0_:=Zm c32 hs0_
  exact zEx hs0_
 rcases z33 with z33 | z33
 ·dsimp only [X8] at hw h
  refine Jv hw ?_
  try simp only [Y1,Yc,↓reduceIte,Nat.reduceEqDiff]
  obtain rfl:=sI h
  refine Zg (.inr rfl) hU [(vB false)] (by omega) ?_
  simp only [push_cast,seval,↓reduceIte,Zc,Tryz.results26,hN0,hN]
 dsimp only [X8] at hw h
 refine Yj hw ?_
 try simp only [Y1,Yc,↓reduceIte,Nat.reduceEqDiff]
 refine zD [1,2] [true] ?_
 refine zQ [1,2,5] ?_
 refine Ze ?_
 refine zQd [1,2,5,8] [1,2,5,8] [true] ?_
 obtain ⟨z45,hz45,h⟩:=bC h
 refine Zaw (J:=(X8 (fun z45=>JR n (⟨216,[],[(4,(vB false))]⟩:Env) (Zw O n [none]) (n+1)) (fun z45=>JX 2 n (⟨216,[],[(1,(vI a1)),(2,.ref n 0)]⟩:Env) (Zw O n [some ⟨false,30,11,1,(Zi a0)⟩]) (n+1)))) (z:=z45) ?_ fun hw => ?_
 ·refine Y4 hz45 (fun s1_=>⟨216,[],[(1,(vI a1)),(2,.ref n 0),(5,(vI s1_.1)),(8,(vI s1_.2))]⟩) (fun s1_=>(Zw O n [some ⟨false,30,11,1,(Zi a0)⟩])) (X8 (fun z45=>JR n (⟨216,[],[(4,(vB false))]⟩:Env) (Zw O n [none]) (n+1)) (fun z45=>JX 2 n (⟨216,[],[(1,(vI a1)),(2,.ref n 0)]⟩:Env) (Zw O n [some ⟨false,30,11,1,(Zi a0)⟩]) (n+1))) ?_
  intro s1_ x1_ hs1_
  unfold Ka at hs1_
  try dsimp only
  refine Ze ?_
  refine zQ [1,2,5,8,141] ?_
  refine Zo (t:=(decide (s1_.2 < (a0.Kids.length:Int)))) rfl (fun c44 => ?_) (fun c44 => ?_)
  ·replace hs1_:=Zn c44 hs1_
   refine Qd [1,2,5,8] [true] ?_
   refine Ze ?_
   refine Z9 ?_
   refine Ze ?_
   obtain ⟨x35,hx35,ax35,bx35,cx35,hs1_⟩:=bE (f:=Zr) Zt3 (fun _=>rfl) (by decide) hs1_
   refine Gc [] ax35 bx35 cx35 ?_
   refine zDs [1,2,5,8,9] [true,true] ?_
   obtain ⟨z37,hz37,hs1_⟩:=bC hs1_
   refine Yu (E':=⟨216,[],[(1,(vI a1)),(2,.ref n 0),(8,(vI s1_.2)),(9,.ref (n+1) 0),(171,(vB z37))]⟩) (O':=(Zw O n [some ⟨false,30,11,1,(Zi a0)⟩,some ⟨false,86,12,1,(Ge x35)⟩])) (n0:=(n+2)) ?_ ?_
   ·rcases Bool.eq_false_or_eq_true (decide (x35.At≤s1_.1)) with c40 | c40
    ·replace hz37:=Zn c40 hz37
     refine Q2 [none,none,none,none,none,none,none,some false,some false,some false,some false,some false,some false] c40 ?_
     refine zG ?_
     exact Qf hz37 c40
    replace hz37:=Zm c40 hz37
    rcases Bool.eq_false_or_eq_true (decide (65534 < x35.At)) with c41 | c41
    ·replace hz37:=Zn c41 hz37
     try rw [c41] at c40
     refine Xy [none,none,none,none,none,none,none,some false,some false,some false,some false,some false,some false] c40 c41 ?_
     refine zG ?_
     exact Zbo hz37 c40 c41
    replace hz37:=Zm c41 hz37
    try rw [c41] at c40
    rcases Bool.eq_false_or_eq_true (x35.E.Kind == 0) with c42 | c42
    ·replace hz37:=Zn c42 hz37
     try rw [c42] at c40
     try rw [c42] at c41
     refine Gu [none,none,none,none,none,none,none,some false,some false,some false,some false,some false,some false] c40 c41 c42 ?_
     refine zG ?_
     exact Zfk hz37 c40 c41 c42
    replace hz37:=Zm c42 hz37
    try rw [c42] at c40
    try rw [c42] at c41
    obtain ⟨y39,hy39,hz37⟩:=bC hz37
    refine Gu [none,none,none,none,none,none,none,some true,some true,some true,some true,some true,some true] c40 c41 c42 ?_
    refine zG ?_
    refine (Zd7 hy39).then ?_
    refine zX3 c40 c41 c42 ?_
    refine zG ?_
    exact Zfk hz37 c40 c41 c42
   refine Zo (t:=z37) rfl (fun c43 => ?_) (fun c43 => ?_)
   ·replace hs1_:=Zn c43 hs1_
    refine zQ [4] ?_
    refine zW ?_
    exact zEy hs1_
   replace hs1_:=Zm c43 hs1_
   refine Qd [1,2,8,9] [true,true] ?_
   refine zRd [1,2,5,8] [true,false] ?_
   refine zR ?_
   exact Gv hs1_
  replace hs1_:=Zm c44 hs1_
  exact zEx hs1_
 rcases z45 with z45 | z45
 ·dsimp only [X8] at hw h
  refine Jv hw ?_
  try simp only [Y1,Yc,↓reduceIte,Nat.reduceEqDiff]
  obtain rfl:=sI h
  refine Zg (.inr rfl) hU [(vB false)] (by omega) ?_
  simp only [push_cast,seval,↓reduceIte,Zc,Tryz.results26,hN0,hN]
 dsimp only [X8] at hw h
 refine Yj hw ?_
 try simp only [Y1,Yc,↓reduceIte,Nat.reduceEqDiff]
 refine zDs [1,2] [true] ?_
 refine zQD [1,2,186] [none,none,none,none,none,none,none,none] ?_
 refine Zo (t:=(cond (a0.Kind == 3) (cond (decide (a0.List_ < 2)) true (decide (9 < a0.List_))) false)) rfl (fun c55 => ?_) (fun c55 => ?_)
 ·replace h:=Zn c55 h
  refine zQ [4] ?_
  refine zW ?_
  obtain rfl:=sI h
  refine Zg (.inr rfl) hU [(vB false)] (by omega) ?_
  simp only [push_cast,seval,↓reduceIte,Zc,Tryz.results26,hN0,hN]
 replace h:=Zm c55 h
 refine Qd [1,2] [true] ?_
 refine Ze ?_
 refine zQd [1,2,10] [1,2,10] [true] ?_
 obtain ⟨z52,hz52,h⟩:=bC h
 refine Zaw (J:=(X8 (fun z52=>JR n (⟨216,[],[(4,(vB false))]⟩:Env) (Zw O n [none]) (n+1)) (fun z52=>JX 4 n (⟨216,[],[(2,.ref n 0)]⟩:Env) (Zw O n [some ⟨false,30,11,1,(Zi a0)⟩]) (n+1)))) (z:=z52) ?_ fun hw => ?_
 ·refine Y4 hz52 (fun s2_=>⟨216,[],[(1,(vI a1)),(2,.ref n 0),(10,(vI s2_))]⟩) (fun s2_=>(Zw O n [some ⟨false,30,11,1,(Zi a0)⟩])) (X8 (fun z52=>JR n (⟨216,[],[(4,(vB false))]⟩:Env) (Zw O n [none]) (n+1)) (fun z52=>JX 4 n (⟨216,[],[(2,.ref n 0)]⟩:Env) (Zw O n [some ⟨false,30,11,1,(Zi a0)⟩]) (n+1))) ?_
  intro s2_ x2_ hs2_
  unfold Jm at hs2_
  try dsimp only
  refine Ze ?_
  refine zQ [1,2,10,191] ?_
  refine Zo (t:=(decide (s2_ < (a0.Ops.length:Int)))) rfl (fun c51 => ?_) (fun c51 => ?_)
  ·replace hs2_:=Zn c51 hs2_
   refine Qd [1,2,10] [true] ?_
   refine Ze ?_
   refine Z9 ?_
   refine Ze ?_
   obtain ⟨x48,hx48,ax48,bx48,cx48,hs2_⟩:=bE (f:=Z4) Zps (fun _=>rfl) (by decide) hs2_
   obtain ⟨y49,hy49,hs2_⟩:=bC hs2_
   refine X9 Zq (by kernel_rfl) [] (by kernel_rfl) ?_
   refine zF3 ax48 bx48 cx48 ?_
   refine PCall.of (Zkx hy49) ?_
   refine zF3 ax48 bx48 cx48 ?_
   refine zD [1,2,10,204] [true] ?_
   refine Zo (t:=(!y49)) rfl (fun c50 => ?_) (fun c50 => ?_)
   ·replace hs2_:=Zn c50 hs2_
    refine zQ [4] ?_
    refine zW ?_
    exact zEy hs2_
   replace hs2_:=Zm c50 hs2_
   refine Qd [1,2,10] [true] ?_
   refine zR ?_
   exact Gv hs2_
  replace hs2_:=Zm c51 hs2_
  exact zEx hs2_
 rcases z52 with z52 | z52
 ·dsimp only [X8] at hw h
  refine Jv hw ?_
  try simp only [Y1,Yc,↓reduceIte,Nat.reduceEqDiff]
  obtain rfl:=sI h
  refine Zg (.inr rfl) hU [(vB false)] (by omega) ?_
  simp only [push_cast,seval,↓reduceIte,Zc,Tryz.results26,hN0,hN]
 dsimp only [X8] at hw h
 refine Yj hw ?_
 try simp only [Y1,Yc,↓reduceIte,Nat.reduceEqDiff]
 refine zDs [2] [true] ?_
 obtain ⟨y54,hy54,h⟩:=bC h
 refine zCd (Zoj hy54) [11,12] [false] ?_
 refine zQD [4] [none,none] ?_
 refine zW ?_
 obtain rfl:=sI h
 refine Zg (.inr rfl) hU [(vB (cond (decide (y54.1 < 1048576)) (decide (y54.2 < 1048576)) false))] (by omega) ?_
 simp only [push_cast,seval,↓reduceIte,Zc,Tryz.results26,hN0,hN]
theorem Zti {Xn:(Zf→Int→Option Bool)} {Qx:(Int→Zt→Int→Option Bool)} (Zd7:Zd6 Xn) (Zkx:Zgx Qx) {a0:Int} {a1:Zt} {a2:Int} {r:Bool} {O:Objs} {n:Nat} (h:Zdf Xn Qx a0 a1 a2=some r):GTo Tryz.prog 70 [(vI a0),.agg (Yy a1),(vI a2)] O n ((vB r)) O n:=by
 unfold Zdf at h
 refine K6 Zq Tryz.call70 Tryz.func70 rfl fun hU hN0 hN => ?_
 show W _ _ _ _ ⟨121,[],[(0,(vI a0)),(1,.agg (Yy a1)),(2,(vI a2))]⟩ (Zw O n []) _
 refine zQ [0,2,4] ?_
 refine Ze ?_
 refine zQ [0,2,4,10] ?_
 refine Zo (t:=(a1.Kind == 0)) rfl (fun c30 => ?_) (fun c30 => ?_)
 ·replace h:=Zn c30 h
  obtain ⟨z2,hz2,h⟩:=bC h
  refine Yu (E':=⟨121,[],[(6,(vB z2))]⟩) (O':=(Zw O n [none])) (n0:=(n+1)) ?_ ?_
  ·rcases Bool.eq_false_or_eq_true (decide (1≤a1.N)) with c5 | c5
   ·replace hz2:=Zn c5 hz2
    rcases Bool.eq_false_or_eq_true (decide (a1.N≤1048576)) with c6 | c6
    ·replace hz2:=Zn c6 hz2
     try rw [c6] at c5
     rcases Bool.eq_false_or_eq_true ((a1.L.length:Int) == 0) with c7 | c7
     ·replace hz2:=Zn c7 hz2
      try rw [c7] at c5
      try rw [c7] at c6
      obtain ⟨y4,hy4,hz2⟩:=bC hz2
      refine Gu [none,none,none,none,none,none,none,some true,some true,some true] c5 c6 c7 ?_
      refine zG ?_
      refine (Zkt hy4).then ?_
      refine zX3 c5 c6 c7 ?_
      refine zG ?_
      exact Zfk hz2 c5 c6 c7
     replace hz2:=Zm c7 hz2
     try rw [c7] at c5
     try rw [c7] at c6
     refine Gu [none,none,none,none,none,none,none,some false,some false,some false] c5 c6 c7 ?_
     refine zG ?_
     exact Zfk hz2 c5 c6 c7
    replace hz2:=Zm c6 hz2
    try rw [c6] at c5
    refine Xy [none,none,none,none,none,none,none,some false,some false,some false] c5 c6 ?_
    refine zG ?_
    exact Zbo hz2 c5 c6
   replace hz2:=Zm c5 hz2
   refine Q2 [none,none,none,none,none,none,none,some false,some false,some false] c5 ?_
   refine zG ?_
   exact Qf hz2 c5
  refine zW ?_
  obtain rfl:=sI h
  refine Zg (.inr rfl) hU [(vB z2)] (by omega) ?_
  simp only [push_cast,seval,↓reduceIte,Zc,Tryz.results70,hN0,hN]
 replace h:=Zm c30 h
 refine Qd [0,2,4] [true] ?_
 refine Ze ?_
 refine zQD [0,2,4,42] [none,none,none,none,none,none] ?_
 refine Zo (t:=(cond (cond (a1.N != 0) true (decide (a1.Kind < 0))) true (decide (3 < a1.Kind)))) rfl (fun c29 => ?_) (fun c29 => ?_)
 ·replace h:=Zn c29 h
  refine zQ [6] ?_
  refine zW ?_
  obtain rfl:=sI h
  refine Zg (.inr rfl) hU [(vB false)] (by omega) ?_
  simp only [push_cast,seval,↓reduceIte,Zc,Tryz.results70,hN0,hN]
 replace h:=Zm c29 h
 refine Qd [0,2,4] [true] ?_
 refine Ze ?_
 refine zQ [0,2,4,45] ?_
 refine Zo (t:=(decide (a1.Kind < 3))) rfl (fun c28 => ?_) (fun c28 => ?_)
 ·replace h:=Zn c28 h
  refine Ze ?_
  refine zQd [0,4,7] [0,4,7] [true] ?_
  obtain ⟨z14,hz14,h⟩:=bC h
  refine Zaw (J:=(X8 (fun z14=>JR n (⟨121,[],[(6,(vB false))]⟩:Env) (Zw O n [none]) (n+1)) (fun z14=>JX 0 n (⟨121,[],[(4,.ref n 0)]⟩:Env) (Zw O n [some ⟨false,89,14,1,(Yy a1)⟩]) (n+1)))) (z:=z14) ?_ fun hw => ?_
  ·refine Y4 hz14 (fun s0_=>⟨121,[],[(0,(vI a0)),(4,.ref n 0),(7,(vI s0_))]⟩) (fun s0_=>(Zw O n [some ⟨false,89,14,1,(Yy a1)⟩])) (X8 (fun z14=>JR n (⟨121,[],[(6,(vB false))]⟩:Env) (Zw O n [none]) (n+1)) (fun z14=>JX 0 n (⟨121,[],[(4,.ref n 0)]⟩:Env) (Zw O n [some ⟨false,89,14,1,(Yy a1)⟩]) (n+1))) ?_
   intro s0_ x0_ hs0_
   unfold Zab at hs0_
   try dsimp only
   refine Ze ?_
   refine zQ [0,4,7,50] ?_
   refine Zo (t:=(decide (s0_ < (a1.L.length:Int)))) rfl (fun Kj => ?_) (fun Kj => ?_)
   ·replace hs0_:=Zn Kj hs0_
    refine Qd [0,4,7] [true] ?_
    refine Ze ?_
    refine Z9 ?_
    refine Ze ?_
    obtain ⟨l10,al10,bl10,cl10,gl10,hs0_⟩:=bS (lo:=(some (.i64,s0_))) (hi:=(some (.i64,(IntKind.i64.wrap (s0_+1))))) (f:=Zb) rfl rfl Zql Uc (fun _=>rfl) hs0_
    obtain ⟨y11,hy11,hs0_⟩:=bC hs0_
    refine Zm7 [] al10 bl10 cl10 gl10 ?_
    refine GCalls.argsW ?_ ((Gt hy11).then ?_)
    ·exact Ykr al10 bl10 cl10 gl10
    refine zX4 al10 bl10 cl10 gl10 ?_
    refine zD [0,4,7,62] [true] ?_
    refine Zo (t:=(!y11)) rfl (fun c12 => ?_) (fun c12 => ?_)
    ·replace hs0_:=Zn c12 hs0_
     refine zQ [6] ?_
     refine zW ?_
     exact zEy hs0_
    replace hs0_:=Zm c12 hs0_
    refine Qd [0,4,7] [true] ?_
    refine zR ?_
    exact Gv hs0_
   replace hs0_:=Zm Kj hs0_
   exact zEx hs0_
  rcases z14 with z14 | z14
  ·dsimp only [X8] at hw h
   refine Jv hw ?_
   try simp only [Y1,Yc,↓reduceIte,Nat.reduceEqDiff]
   obtain rfl:=sI h
   refine Zg (.inr rfl) hU [(vB false)] (by omega) ?_
   simp only [push_cast,seval,↓reduceIte,Zc,Tryz.results70,hN0,hN]
  dsimp only [X8] at hw h
  refine Yj hw ?_
  try simp only [Y1,Yc,↓reduceIte,Nat.reduceEqDiff]
  refine zD [4] [true] ?_
  obtain ⟨z16,hz16,h⟩:=bC h
  refine Yu (E':=⟨121,[],[(6,(vB z16))]⟩) (O':=(Zw O n [none])) (n0:=(n+1)) ?_ ?_
  ·rcases Bool.eq_false_or_eq_true (decide (0 < (a1.L.length:Int))) with c19 | c19
   ·replace hz16:=Zn c19 hz16
    obtain ⟨y18,hy18,hz16⟩:=bC hz16
    refine Q2 [some true,some true,some true] c19 ?_
    refine (Zkt hy18).then ?_
    refine zX1 c19 ?_
    exact Qf hz16 c19
   replace hz16:=Zm c19 hz16
   refine Q2 [some false,some false,some false] c19 ?_
   exact Qf hz16 c19
  refine zW ?_
  obtain rfl:=sI h
  refine Zg (.inr rfl) hU [(vB z16)] (by omega) ?_
  simp only [push_cast,seval,↓reduceIte,Zc,Tryz.results70,hN0,hN]
 replace h:=Zm c28 h
 refine Qd [0,2,4] [true] ?_
 refine Ze ?_
 obtain ⟨z21,hz21,h⟩:=bC h
 refine Yu (E':=⟨121,[],[(0,(vI a0)),(4,.ref n 0),(92,(vB z21))]⟩) (O':=(Zw O n [some ⟨false,89,14,1,(Yy a1)⟩])) (n0:=(n+1)) ?_ ?_
 ·rcases Bool.eq_false_or_eq_true (decide (0 < (a1.L.length:Int))) with c24 | c24
  ·replace hz21:=Zn c24 hz21
   refine Q2 [none,none,none,none,none,none,some false,some false,some false,some false,some false] c24 ?_
   refine zG ?_
   exact Qf hz21 c24
  replace hz21:=Zm c24 hz21
  rcases Bool.eq_false_or_eq_true (a1.E.Kind == 0) with c25 | c25
  ·replace hz21:=Zn c25 hz21
   try rw [c25] at c24
   refine Xy [none,none,none,none,none,none,some false,some false,some false,some false,some false] c24 c25 ?_
   refine zG ?_
   exact Zbo hz21 c24 c25
  replace hz21:=Zm c25 hz21
  try rw [c25] at c24
  rcases Bool.eq_false_or_eq_true (decide (a0≤7)) with c26 | c26
  ·replace hz21:=Zn c26 hz21
   try rw [c26] at c24
   try rw [c26] at c25
   refine Gu [none,none,none,none,none,none,some false,some false,some false,some false,some false] c24 c25 c26 ?_
   refine zG ?_
   exact Zfk hz21 c24 c25 c26
  replace hz21:=Zm c26 hz21
  try rw [c26] at c24
  try rw [c26] at c25
  obtain ⟨y23,hy23,hz21⟩:=bC hz21
  refine Gu [none,none,none,none,none,none,some true,some true,some true,some true,some true] c24 c25 c26 ?_
  refine zG ?_
  refine (Zd7 hy23).then ?_
  refine zX3 c24 c25 c26 ?_
  refine zG ?_
  exact Zfk hz21 c24 c25 c26
 refine Zo (t:=z21) rfl (fun c27 => ?_) (fun c27 => ?_)
 ·replace h:=Zn c27 h
  refine zQ [6] ?_
  refine zW ?_
  obtain rfl:=sI h
  refine Zg (.inr rfl) hU [(vB false)] (by omega) ?_
  simp only [push_cast,seval,↓reduceIte,Zc,Tryz.results70,hN0,hN]
 replace h:=Zm c27 h
 refine Qd [0,4] [true] ?_
 refine zQD [6] [none,none,none,none,none,none,none,none,none,none,none,none,none,none,none,none,none,none,none,none,none,none] ?_
 refine zW ?_
 obtain rfl:=sI h
 refine Zg (.inr rfl) hU [(vB (cond (cond (a0 == 8) true (a1.E.Kind == 2)) true (cond (cond (a1.E.Kind == 1) (a1.E.Old.Kind == 1) false) (a1.E.New.Kind == 1) false)))] (by omega) ?_
 simp only [push_cast,seval,↓reduceIte,Zc,Tryz.results70,hN0,hN]
theorem Zne:∀ k,(Zd6 ((Y2 k).1))∧(Zgx ((Y2 k).2)):=fun k=>by
 induction k with
 | zero=>exact ⟨@fun a0 a1 r O n h=>(nomatch (show (none:Option _)=some _ from h)),@fun a0 a1 a2 r O n h=>(nomatch (show (none:Option _)=some _ from h))⟩
 | succ k ih=>exact ⟨@fun a0 a1 r O n h=>Zpg (ih.1) (ih.2)  h,@fun a0 a1 a2 r O n h=>Zti (ih.1) (ih.2)  h⟩
theorem Zj3 {a0:Zf} {a1:Int} {r:Bool} {O:Objs} {n:Nat} (h:Zc4 a0 a1=some r):GTo Tryz.prog 26 [.agg (Zi a0),(vI a1)] O n ((vB r)) O n:=by
 obtain ⟨k,hk⟩:=V0 h
 exact (Zne k).1  hk
theorem Zh5 {a0:(List Za)} {r:Za} {O:Objs} {n:Nat} (h:V6 a0=some r):GTo Tryz.prog 57 [(sL Zb a0)] O n (.agg (Zd r)) O n:=by
 unfold V6 at h
 refine K6 Zq Tryz.call57 Tryz.func57 rfl fun hU hN0 hN => ?_
 show W _ _ _ _ ⟨9,[],[(0,(sL Zb a0))]⟩ (Zw O n []) _
 refine zQ [0,2] ?_
 refine Ze ?_
 refine zQ [0,2,5] ?_
 refine Zo (t:=((a0.length:Int) == 0)) rfl (fun c1 => ?_) (fun c1 => ?_)
 ·replace h:=Zn c1 h
  refine Ze ?_
  refine zRd [2] [true] ?_
  refine zW ?_
  obtain rfl:=sI h
  refine Zg (.inr rfl) hU [.agg [(vI 0),nV,nV]] (by omega) ?_
  simp only [push_cast,seval,↓reduceIte,Zc,Tryz.results57,hN0,hN]
 replace h:=Zm c1 h
 refine Qd [0,2] [true] ?_
 refine Ze ?_
 refine zRd [2] [true] ?_
 refine zW ?_
 obtain rfl:=sI h
 refine Zg (.inr rfl) hU [.agg [(vI 9),nV,(sL Zb a0)]] (by omega) ?_
 simp only [push_cast,seval,↓reduceIte,Zc,Tryz.results57,hN0,hN]
def Zjh (Qp:(Zf→Option Za)):Prop:=∀ {a0:Zf} {r:Za} {O:Objs} {n:Nat},Qp a0=some r→GTo Tryz.prog 18 [.agg (Zi a0)] O n (.agg (Zd r)) O n
theorem Zqx {Qp:(Zf→Option Za)} (Ze3:Zjh Qp) {a0:Zf} {r:Za} {O:Objs} {n:Nat} (h:Za8 Qp a0=some r):GTo Tryz.prog 18 [.agg (Zi a0)] O n (.agg (Zd r)) O n:=by
 unfold Za8 at h
 refine K6 Zq Tryz.call18 Tryz.func18 rfl fun hU hN0 hN => ?_
 show W _ _ _ _ ⟨146,[],[(0,.agg (Zi a0))]⟩ (Zw O n []) _
 refine zQ [1,2] ?_
 refine Ze ?_
 refine zR ?_
 refine Ki ⟨146,[],[(1,.ref n 0),(2,.ref (n+1) 0),(3,.ref (n+3) 0)]⟩ (Zw O n [some ⟨false,30,11,1,(Zi a0)⟩,some ⟨false,25,3,1,[(vI 0),nV,nV]⟩,some (oR 77 1 (eI .u64) ([(IntKind.u64.wrap (IntKind.i64.wrap (a0.Kind+(IntKind.i64.wrap (256 * a0.List_)))))]:List Int)),some ⟨false,25,3,1,[(vI 1),.row (n+2) ([(IntKind.u64.wrap (IntKind.i64.wrap (a0.Kind+(IntKind.i64.wrap (256 * a0.List_)))))]:List Int).length,nV]⟩]) (Z6 hU rfl rfl ?_) ?_
 ·exact Gl
 refine zQ [1,2,3,4,5] ?_
 obtain ⟨z1,hz1,h⟩:=bC h
 refine Yhn (J:=(X8 (fun z1=>JN n (⟨146,[],[(2,.ref (n+1) 0),(3,.ref (n+3) 0)]⟩:Env) (Zw O n [none,some ⟨false,25,3,1,[(vI 0),nV,nV]⟩,some (oR 77 1 (eI .u64) z1.1),some ⟨false,25,3,1,[(vI 1),.row (n+2) z1.1.length,.row (n+9) z1.2.length]⟩,none,none,none,none,none,some (oR 25 3 Zb z1.2),none]) (n+11)) (fun z1=>JR n (⟨146,[],[(2,.ref (n+1) 0)]⟩:Env) (Zw O n [none,some ⟨false,25,3,1,[(vI 0),nV,nV]⟩,none,none]) (n+4)))) (z:=z1) ?_ fun hw => ?_
 ·refine zQ [1,2,3,4,5,22] ?_
  refine Z9 ?_
  refine zQ [1,2,3,4,5,22,70] ?_
  refine Zo (t:=(a0.Kind == 0)) rfl (fun c276 => ?_) (fun c276 => ?_)
  ·replace hz1:=Zn c276 hz1
   refine Ze ?_
   refine zRd [2] [false,true,false,false] ?_
   refine zW ?_
   exact Gv hz1
  replace hz1:=Zm c276 hz1
  refine zQ [1,2,3,4,5,22,73] ?_
  refine Zo (t:=(a0.Kind == 1)) rfl (fun c275 => ?_) (fun c275 => ?_)
  ·replace hz1:=Zn c275 hz1
   refine zR ?_
   obtain rfl:=sI hz1
   refine And.intro rfl ?_
   refine Fit2.trans (E':=(⟨146,[],[(2,.ref (n+1) 0),(3,.ref (n+3) 0)]⟩:Env)) (O':=(Zw O n [none,some ⟨false,25,3,1,[(vI 0),nV,nV]⟩,some (oR 77 1 (eI .u64) ([(IntKind.u64.wrap (IntKind.i64.wrap (a0.Kind+(IntKind.i64.wrap (256 * a0.List_)))))]:List Int)),some ⟨false,25,3,1,[(vI 1),.row (n+2) ([(IntKind.u64.wrap (IntKind.i64.wrap (a0.Kind+(IntKind.i64.wrap (256 * a0.List_)))))]:List Int).length,.row (n+4) ([a0.Old,a0.New]:List Za).length]⟩,some (oR 25 3 Zb ([a0.Old,a0.New]:List Za))])) (n':=(n+5)) (Fit2.of (Z6 hU rfl rfl ?_) (by omega)) ?_
   ·exact Gl
   refine Jg (k:=5) (k':=11) hU [10,1,2,3,9] [0,1,2,3,0,0,0,0,0,4,0] rfl rfl rfl rfl ⟨rfl,rfl⟩ ?_
   exact Gl
  replace hz1:=Zm c275 hz1
  refine zQ [1,2,3,4,5,81] ?_
  refine Zo (t:=(a0.Kind == 2)) rfl (fun c274 => ?_) (fun c274 => ?_)
  ·replace hz1:=Zn c274 hz1
   refine Ze ?_
   refine zQd [1,2,3,4,5,6] [1,2,3,4,5,6] [true,true,true,true] ?_
   refine G8 (E':=(⟨146,[],[(1,.ref n 0),(2,.ref (n+1) 0),(3,.ref (n+3) 0),(4,.row (n+4) ([]:List Za).length),(5,nV),(6,(vI 0))]⟩:Env)) (O':=(Zw O n [some ⟨false,30,11,1,(Zi a0)⟩,some ⟨false,25,3,1,[(vI 0),nV,nV]⟩,some (oR 77 1 (eI .u64) ([(IntKind.u64.wrap (IntKind.i64.wrap (a0.Kind+(IntKind.i64.wrap (256 * a0.List_)))))]:List Int)),some ⟨false,25,3,1,[(vI 1),.row (n+2) ([(IntKind.u64.wrap (IntKind.i64.wrap (a0.Kind+(IntKind.i64.wrap (256 * a0.List_)))))]:List Int).length,nV]⟩,some (oR 25 3 Zb ([]:List Za)),none])) (n':=(n+6)) ?_ ?_
   ·refine Fit2.trans (E':=(⟨146,[],[(1,.ref n 0),(2,.ref (n+1) 0),(3,.ref (n+3) 0),(4,nV),(5,nV),(6,(vI 0))]⟩:Env)) (O':=(Zw O n [some ⟨false,30,11,1,(Zi a0)⟩,some ⟨false,25,3,1,[(vI 0),nV,nV]⟩,some (oR 77 1 (eI .u64) ([(IntKind.u64.wrap (IntKind.i64.wrap (a0.Kind+(IntKind.i64.wrap (256 * a0.List_)))))]:List Int)),some ⟨false,25,3,1,[(vI 1),.row (n+2) ([(IntKind.u64.wrap (IntKind.i64.wrap (a0.Kind+(IntKind.i64.wrap (256 * a0.List_)))))]:List Int).length,nV]⟩])) (n':=(n+4)) (Fit2.of (Z6 hU rfl rfl ?_) (by omega)) ?_
    ·exact Gl
    refine Fit2.trans (Zay 4 25 3 rfl (by omega)) ?_
    simp only [Q5,Qi,Vt,Kh,List.set_cons_zero,List.set_cons_succ,List.cons_append,List.nil_append,List.length_cons,List.length_nil,Nat.zero_add,Nat.reduceAdd,Nat.reduceLT,Nat.add_assoc]
    refine Fit2.trans (E':=(⟨146,[],[(1,.ref n 0),(2,.ref (n+1) 0),(3,.ref (n+3) 0),(4,.row (n+4) ([]:List Za).length),(5,nV),(6,(vI 0))]⟩:Env)) (O':=(Zw O n [some ⟨false,30,11,1,(Zi a0)⟩,some ⟨false,25,3,1,[(vI 0),nV,nV]⟩,some (oR 77 1 (eI .u64) ([(IntKind.u64.wrap (IntKind.i64.wrap (a0.Kind+(IntKind.i64.wrap (256 * a0.List_)))))]:List Int)),some ⟨false,25,3,1,[(vI 1),.row (n+2) ([(IntKind.u64.wrap (IntKind.i64.wrap (a0.Kind+(IntKind.i64.wrap (256 * a0.List_)))))]:List Int).length,nV]⟩,some (oR 25 3 Zb ([]:List Za))])) (n':=(n+5)) (Fit2.of (Z6 hU rfl rfl ?_) (by omega)) ?_
    ·exact Gl
    refine Jg (k:=5) (k':=6) hU [0,1,2,3,4] [0,1,2,3,4,0] rfl rfl rfl rfl ⟨rfl,rfl⟩ ?_
    exact Gl
   obtain ⟨z6,hz6,hz1⟩:=bC hz1
   refine Yj (E':=⟨146,[],[(1,.ref n 0),(2,.ref (n+1) 0),(3,.ref (n+3) 0),(4,.row (n+4) z6.2.length),(5,nV)]⟩) (O':=(Zw O n [some ⟨false,30,11,1,(Zi a0)⟩,some ⟨false,25,3,1,[(vI 0),nV,nV]⟩,some (oR 77 1 (eI .u64) z6.1),some ⟨false,25,3,1,[(vI 1),.row (n+2) z6.1.length,nV]⟩,some (oR 25 3 Zb z6.2),none])) (n0:=(n+6)) ?_ ?_
   ·refine Y4 hz6 (fun s0_=>⟨146,[],[(1,.ref n 0),(2,.ref (n+1) 0),(3,.ref (n+3) 0),(4,.row (n+4) s0_.2.2.length),(5,nV),(6,(vI s0_.1))]⟩) (fun s0_=>(Zw O n [some ⟨false,30,11,1,(Zi a0)⟩,some ⟨false,25,3,1,[(vI 0),nV,nV]⟩,some (oR 77 1 (eI .u64) s0_.2.1),some ⟨false,25,3,1,[(vI 1),.row (n+2) s0_.2.1.length,nV]⟩,some (oR 25 3 Zb s0_.2.2),none])) (fun z6=>JX 3 n (⟨146,[],[(1,.ref n 0),(2,.ref (n+1) 0),(3,.ref (n+3) 0),(4,.row (n+4) z6.2.length),(5,nV)]⟩:Env) (Zw O n [some ⟨false,30,11,1,(Zi a0)⟩,some ⟨false,25,3,1,[(vI 0),nV,nV]⟩,some (oR 77 1 (eI .u64) z6.1),some ⟨false,25,3,1,[(vI 1),.row (n+2) z6.1.length,nV]⟩,some (oR 25 3 Zb z6.2),none]) (n+6)) ?_
    intro s0_ x0_ hs0_
    unfold Um at hs0_
    try dsimp only
    refine Ze ?_
    refine zQ [1,2,3,4,5,6,87] ?_
    refine Zo (t:=(decide (s0_.1 < (a0.Words.length:Int)))) rfl (fun c5 => ?_) (fun c5 => ?_)
    ·replace hs0_:=Zn c5 hs0_
     refine Qd [1,2,3,4,5,6] [true,true,true,true,true,false] ?_
     refine Ze ?_
     refine Z9 ?_
     refine Ze ?_
     obtain ⟨x3,hx3,ax3,bx3,cx3,hs0_⟩:=bE (f:=Zp) Zt2 (fun _=>rfl) (by decide) hs0_
     refine Gc [] ax3 bx3 cx3 ?_
     refine zD [1,2,3,4,5,6,7] [true,true,true,true,true,false,true] ?_
     obtain ⟨l4,pl4,ql4,el4,hs0_⟩:=bA (k:=1) rfl hs0_
     refine Gu [] pl4 ql4 el4 ?_
     refine Ki ⟨146,[],[(1,.ref n 0),(2,.ref (n+1) 0),(3,.ref (n+3) 0),(4,.row (n+4) l4.length),(5,nV),(6,(vI s0_.1))]⟩ (Zw O n [some ⟨false,30,11,1,(Zi a0)⟩,some ⟨false,25,3,1,[(vI 0),nV,nV]⟩,some (oR 77 1 (eI .u64) s0_.2.1),some ⟨false,25,3,1,[(vI 1),.row (n+2) s0_.2.1.length,nV]⟩,some (oR 25 3 Zb l4),none,none,none,none]) (Z6 hU rfl rfl ?_) ?_
     ·exact Zjn pl4 ql4 el4
     refine zR ?_
     exact Gv hs0_
    replace hs0_:=Zm c5 hs0_
    exact zEx hs0_
   try simp only [Y1,Yc,↓reduceIte,Nat.reduceEqDiff]
   refine zDs [1,2,3,4,5] [true,true,true,true,true,false] ?_
   refine zQd [1,2,3,4,5,8] [1,2,3,4,5,8] [true,true,true,true,true,false] ?_
   refine G8 (E':=(⟨146,[],[(1,.ref n 0),(2,.ref (n+1) 0),(3,.ref (n+3) 0),(4,.row (n+4) z6.2.length),(5,.row (n+6) ([]:List Za).length),(8,(vI 0))]⟩:Env)) (O':=(Zw O n [some ⟨false,30,11,1,(Zi a0)⟩,some ⟨false,25,3,1,[(vI 0),nV,nV]⟩,some (oR 77 1 (eI .u64) z6.1),some ⟨false,25,3,1,[(vI 1),.row (n+2) z6.1.length,nV]⟩,some (oR 25 3 Zb z6.2),none,some (oR 25 3 Zb ([]:List Za)),none])) (n':=(n+8)) ?_ ?_
   ·refine Fit2.trans (E':=(⟨146,[],[(1,.ref n 0),(2,.ref (n+1) 0),(3,.ref (n+3) 0),(4,.row (n+4) z6.2.length),(5,nV),(8,(vI 0))]⟩:Env)) (O':=(Zw O n [some ⟨false,30,11,1,(Zi a0)⟩,some ⟨false,25,3,1,[(vI 0),nV,nV]⟩,some (oR 77 1 (eI .u64) z6.1),some ⟨false,25,3,1,[(vI 1),.row (n+2) z6.1.length,nV]⟩,some (oR 25 3 Zb z6.2),none])) (n':=(n+6)) (Fit2.of (Z6 hU rfl rfl ?_) (by omega)) ?_
    ·exact Gl
    refine Fit2.trans (Zay 5 25 3 rfl (by omega)) ?_
    simp only [Q5,Qi,Vt,Kh,List.set_cons_zero,List.set_cons_succ,List.cons_append,List.nil_append,List.length_cons,List.length_nil,Nat.zero_add,Nat.reduceAdd,Nat.reduceLT,Nat.add_assoc]
    refine Fit2.trans (E':=(⟨146,[],[(1,.ref n 0),(2,.ref (n+1) 0),(3,.ref (n+3) 0),(4,.row (n+4) z6.2.length),(5,.row (n+6) ([]:List Za).length),(8,(vI 0))]⟩:Env)) (O':=(Zw O n [some ⟨false,30,11,1,(Zi a0)⟩,some ⟨false,25,3,1,[(vI 0),nV,nV]⟩,some (oR 77 1 (eI .u64) z6.1),some ⟨false,25,3,1,[(vI 1),.row (n+2) z6.1.length,nV]⟩,some (oR 25 3 Zb z6.2),none,some (oR 25 3 Zb ([]:List Za))])) (n':=(n+7)) (Fit2.of (Z6 hU rfl rfl ?_) (by omega)) ?_
    ·exact Gl
    refine Jg (k:=7) (k':=8) hU [0,1,2,3,4,7,6] [0,1,2,3,4,0,6,0] rfl rfl rfl rfl ⟨rfl,rfl⟩ ?_
    exact Gl
   obtain ⟨z260,hz260,hz1⟩:=bC hz1
   refine Yj (E':=⟨146,[],[(2,.ref (n+1) 0),(3,.ref (n+3) 0),(4,.row (n+4) z6.2.length),(5,.row (n+6) z260.length)]⟩) (O':=(Zw O n [none,some ⟨false,25,3,1,[(vI 0),nV,nV]⟩,some (oR 77 1 (eI .u64) z6.1),some ⟨false,25,3,1,[(vI 1),.row (n+2) z6.1.length,nV]⟩,some (oR 25 3 Zb z6.2),none,some (oR 25 3 Zb z260),none])) (n0:=(n+8)) ?_ ?_
   ·refine Y4 hz260 (fun s1_=>⟨146,[],[(1,.ref n 0),(2,.ref (n+1) 0),(3,.ref (n+3) 0),(4,.row (n+4) z6.2.length),(5,.row (n+6) s1_.2.length),(8,(vI s1_.1))]⟩) (fun s1_=>(Zw O n [some ⟨false,30,11,1,(Zi a0)⟩,some ⟨false,25,3,1,[(vI 0),nV,nV]⟩,some (oR 77 1 (eI .u64) z6.1),some ⟨false,25,3,1,[(vI 1),.row (n+2) z6.1.length,nV]⟩,some (oR 25 3 Zb z6.2),none,some (oR 25 3 Zb s1_.2),none])) (fun z260=>JX 5 n (⟨146,[],[(2,.ref (n+1) 0),(3,.ref (n+3) 0),(4,.row (n+4) z6.2.length),(5,.row (n+6) z260.length)]⟩:Env) (Zw O n [none,some ⟨false,25,3,1,[(vI 0),nV,nV]⟩,some (oR 77 1 (eI .u64) z6.1),some ⟨false,25,3,1,[(vI 1),.row (n+2) z6.1.length,nV]⟩,some (oR 25 3 Zb z6.2),none,some (oR 25 3 Zb z260),none]) (n+8)) ?_
    intro s1_ x1_ hs1_
    unfold Un at hs1_
    try dsimp only
    refine Ze ?_
    refine zQ [1,2,3,4,5,8,116] ?_
    refine Zo (t:=(decide (s1_.1 < (a0.Kids.length:Int)))) rfl (fun c259 => ?_) (fun c259 => ?_)
    ·replace hs1_:=Zn c259 hs1_
     refine Qd [1,2,3,4,5,8] [true,true,true,true,true,false,true,false] ?_
     refine Ze ?_
     refine Z9 ?_
     obtain ⟨x55,hx55,ax55,bx55,cx55,hs1_⟩:=bE (f:=Zr) Zt3 (fun _=>rfl) (by decide) hs1_
     have g79:=Zna (f:=Zr) (sz:=12) Z4q (fun _=>rfl) (by decide) (by decide) hx55
     have g175:=Zp6 (f:=Zr) (off:=1) (sz:=12) Z17 (fun _=>rfl) (by decide) (by decide) hx55
     obtain ⟨y187,hy187,hs1_⟩:=bC hs1_
     obtain ⟨l235,pl235,ql235,el235,hs1_⟩:=bA (k:=1) rfl hs1_
     refine Yhm (E':=⟨146,[],[(1,.ref n 0),(2,.ref (n+1) 0),(3,.ref (n+3) 0),(4,.row (n+4) z6.2.length),(5,.row (n+6) l235.length),(8,(vI s1_.1))]⟩) (O':=(Zw O n [some ⟨false,30,11,1,(Zi a0)⟩,some ⟨false,25,3,1,[(vI 0),nV,nV]⟩,some (oR 77 1 (eI .u64) z6.1),some ⟨false,25,3,1,[(vI 1),.row (n+2) z6.1.length,nV]⟩,some (oR 25 3 Zb z6.2),none,some (oR 25 3 Zb l235),none,none,none,none])) (n0:=(n+11)) ?_ ?_
     ·refine Zs0 Zq (by kernel_rfl) [.plain,.low,.low,.plain,.low,.low,.low,.low,.pass,.low,.low,.plain,.low,.low,.low,.low,.pass,.plain,.pass,.pass,.plain] (fun i=>i < (n+8)∧¬ i=n+6) [0,1,2,3,4,5,6,7,9,10,11,12,13,14,15] [8,16,17,18] [19,20] (.alt 8 (.seq [16,17,18]) (.one 16 (.seq [8,17,18]))) [.plain,.low,.low,.plain,.low,.low,.low,.low,.low,.low,.plain,.low,.low,.low,.low] [] (by kernel_rfl) rfl ?_
      simp (maxSteps:=4000000) only [push_cast,Nat.reduceAdd,Nat.reduceSub,Nat.reduceMul,Nat.reduceLeDiff,Nat.reduceLT,Nat.reduceEqDiff,↓reduceIte,reduceCtorEq,Int.reduceBEq,Int.reduceBNe,Nat.reduceBEq,Int.reduceLE,Int.reduceLT,Int.reduceEq,Int.reduceNe,Int.reduceNeg,Nat.reduceDiv,Nat.reduceMod,Nat.reducePow,Zc,ax55,bx55,cx55,g79,g175,pl235,ql235,el235,hN0,hN]
      repeat (with_reducible refine And.intro (by omega) ?_)
      first | refine PCallA.of (fun _ _=>Ze3 hy187) ?_ | refine PCall.of (Ze3 hy187) ?_
      simp (maxSteps:=4000000) only [push_cast,Nat.reduceAdd,Nat.reduceSub,Nat.reduceMul,Nat.reduceLeDiff,Nat.reduceLT,Nat.reduceEqDiff,↓reduceIte,reduceCtorEq,Int.reduceBEq,Int.reduceBNe,Nat.reduceBEq,Int.reduceLE,Int.reduceLT,Int.reduceEq,Int.reduceNe,Int.reduceNeg,Nat.reduceDiv,Nat.reduceMod,Nat.reducePow,Zc,ax55,bx55,cx55,g79,g175,pl235,ql235,el235,hN0,hN]
      repeat (with_reducible refine And.intro (by omega) ?_)
      try simp only [push_cast,Nat.reduceAdd,Nat.reduceSub,Nat.reduceMul,Nat.reduceLeDiff,Nat.reduceLT,Nat.reduceEqDiff,↓reduceIte,reduceCtorEq,Int.reduceBEq,Int.reduceBNe,Nat.reduceBEq,Int.reduceLE,Int.reduceLT,Int.reduceEq,Int.reduceNe,Int.reduceNeg,Nat.reduceDiv,Nat.reduceMod,Nat.reducePow,Zc,ax55,bx55,cx55,g79,g175,pl235,ql235,el235,hN0,hN]
      refine And.intro ?_ ?_
      ·try simp only [push_cast,Nat.reduceAdd,Nat.reduceSub,Nat.reduceMul,Nat.reduceLeDiff,Nat.reduceLT,Nat.reduceEqDiff,↓reduceIte,reduceCtorEq,Int.reduceBEq,Int.reduceBNe,Nat.reduceBEq,Int.reduceLE,Int.reduceLT,Int.reduceEq,Int.reduceNe,Int.reduceNeg,Nat.reduceDiv,Nat.reduceMod,Nat.reducePow,Zc,ax55,bx55,cx55,g79,g175,pl235,ql235,el235,hN0,hN]
       repeat (with_reducible refine And.intro (by first | exact Y3 rfl | exact Yp | exact X3 rfl | exact Xr rfl) ?_)
       try simp only [push_cast,Nat.reduceAdd,Nat.reduceSub,Nat.reduceMul,Nat.reduceLeDiff,Nat.reduceLT,Nat.reduceEqDiff,↓reduceIte,reduceCtorEq,Int.reduceBEq,Int.reduceBNe,Nat.reduceBEq,Int.reduceLE,Int.reduceLT,Int.reduceEq,Int.reduceNe,Int.reduceNeg,Nat.reduceDiv,Nat.reduceMod,Nat.reducePow,Zc,ax55,bx55,cx55,g79,g175,pl235,ql235,el235,hN0,hN]
       repeat (with_reducible refine And.intro (by first | exact Y3 rfl | exact Yp | exact X3 rfl | exact Xr rfl) ?_)
       exact Yow ax55 bx55 cx55 g79 g175 pl235 ql235 el235
      try simp only [push_cast,Nat.reduceAdd,Nat.reduceSub,Nat.reduceMul,Nat.reduceLeDiff,Nat.reduceLT,Nat.reduceEqDiff,↓reduceIte,reduceCtorEq,Int.reduceBEq,Int.reduceBNe,Nat.reduceBEq,Int.reduceLE,Int.reduceLT,Int.reduceEq,Int.reduceNe,Int.reduceNeg,Nat.reduceDiv,Nat.reduceMod,Nat.reducePow,Zc,ax55,bx55,cx55,g79,g175,pl235,ql235,el235,hN0,hN]
      repeat (with_reducible refine And.intro (by first | exact Y3 rfl | exact Yp | exact X3 rfl | exact Xr rfl) ?_)
      try simp only [push_cast,Nat.reduceAdd,Nat.reduceSub,Nat.reduceMul,Nat.reduceLeDiff,Nat.reduceLT,Nat.reduceEqDiff,↓reduceIte,reduceCtorEq,Int.reduceBEq,Int.reduceBNe,Nat.reduceBEq,Int.reduceLE,Int.reduceLT,Int.reduceEq,Int.reduceNe,Int.reduceNeg,Nat.reduceDiv,Nat.reduceMod,Nat.reducePow,Zc,ax55,bx55,cx55,g79,g175,pl235,ql235,el235,hN0,hN]
      repeat (with_reducible refine And.intro (by first | exact Y3 rfl | exact Yp | exact X3 rfl | exact Xr rfl) ?_)
      refine And.intro rfl ?_
      refine Fit2.trans (E':=(⟨146,[],[(1,.ref n 0),(2,.ref (n+1) 0),(3,.ref (n+3) 0),(4,.row (n+4) z6.2.length),(5,.row (n+6) l235.length),(8,(vI s1_.1))]⟩:Env)) (O':=(Zw O n [some ⟨false,30,11,1,(Zi a0)⟩,some ⟨false,25,3,1,[(vI 0),nV,nV]⟩,some (oR 77 1 (eI .u64) z6.1),some ⟨false,25,3,1,[(vI 1),.row (n+2) z6.1.length,nV]⟩,some (oR 25 3 Zb z6.2),none,some (oR 25 3 Zb l235),none,none,none,none])) (n':=(n+11)) (Fit2.of (Z6 hU rfl rfl ?_) (by omega)) ?_
      ·exact Yo1 ax55 bx55 cx55 g79 g175 pl235 ql235 el235
      refine Jg (k:=11) (k':=11) hU [0,1,2,3,4,5,6,7,9,8,10] [0,1,2,3,4,5,6,7,9,8,10] rfl rfl rfl rfl ⟨rfl,rfl⟩ ?_
      exact Yo1 ax55 bx55 cx55 g79 g175 pl235 ql235 el235
     try simp only [Y1,Yc]
     refine zD [1,2,3,4,5,8] [true,true,true,true,true,false,true,false,false,false,false] ?_
     refine zR ?_
     exact Gv hs1_
    replace hs1_:=Zm c259 hs1_
    exact zEx hs1_
   try simp only [Y1,Yc,↓reduceIte,Nat.reduceEqDiff]
   refine zD [2,3,4,5] [false,true,true,true,true,false,true,false] ?_
   refine Ki ⟨146,[],[(2,.ref (n+1) 0),(3,.ref (n+3) 0),(4,(sL Zb z6.2)),(5,.row (n+6) z260.length)]⟩ (Zw O n [none,some ⟨false,25,3,1,[(vI 0),nV,nV]⟩,some (oR 77 1 (eI .u64) z6.1),some ⟨false,25,3,1,[(vI 1),.row (n+2) z6.1.length,nV]⟩,none,none,some (oR 25 3 Zb z260),none]) (Z6 hU rfl rfl ?_) ?_
   ·exact Gl
   refine Ki ⟨146,[],[(2,.ref (n+1) 0),(3,.ref (n+3) 0),(4,(sL Zb z6.2)),(5,(sL Zb z260))]⟩ (Zw O n [none,some ⟨false,25,3,1,[(vI 0),nV,nV]⟩,some (oR 77 1 (eI .u64) z6.1),some ⟨false,25,3,1,[(vI 1),.row (n+2) z6.1.length,nV]⟩,none,none,none,none]) (Z6 hU rfl rfl ?_) ?_
   ·exact Gl
   obtain ⟨y262,hy262,hz1⟩:=bC hz1
   obtain ⟨y263,hy263,hz1⟩:=bC hz1
   refine zC (Zh5 hy262) ?_
   refine zTs (Zh5 hy263) ?_
   obtain rfl:=sI hz1
   refine And.intro rfl ?_
   refine Fit2.trans (E':=(⟨146,[],[(2,.ref (n+1) 0),(3,.ref (n+3) 0)]⟩:Env)) (O':=(Zw O n [none,some ⟨false,25,3,1,[(vI 0),nV,nV]⟩,some (oR 77 1 (eI .u64) z6.1),some ⟨false,25,3,1,[(vI 1),.row (n+2) z6.1.length,.row (n+8) ([y262,y263]:List Za).length]⟩,none,none,none,none,some (oR 25 3 Zb ([y262,y263]:List Za))])) (n':=(n+9)) (Fit2.of (Z6 hU rfl rfl ?_) (by omega)) ?_
   ·exact Gl
   refine Jg (k:=9) (k':=11) hU [10,1,2,3,10,10,10,10,9] [0,1,2,3,0,0,0,0,0,8,0] rfl rfl rfl rfl ⟨rfl,rfl⟩ ?_
   exact Gl
  replace hz1:=Zm c274 hz1
  refine Ze ?_
  refine zQd [1,2,3,4,9] [1,2,3,4,9] [true,true,true,true] ?_
  refine G8 (E':=(⟨146,[],[(1,.ref n 0),(2,.ref (n+1) 0),(3,.ref (n+3) 0),(4,.row (n+4) ([]:List Za).length),(9,(vI 0))]⟩:Env)) (O':=(Zw O n [some ⟨false,30,11,1,(Zi a0)⟩,some ⟨false,25,3,1,[(vI 0),nV,nV]⟩,some (oR 77 1 (eI .u64) ([(IntKind.u64.wrap (IntKind.i64.wrap (a0.Kind+(IntKind.i64.wrap (256 * a0.List_)))))]:List Int)),some ⟨false,25,3,1,[(vI 1),.row (n+2) ([(IntKind.u64.wrap (IntKind.i64.wrap (a0.Kind+(IntKind.i64.wrap (256 * a0.List_)))))]:List Int).length,nV]⟩,some (oR 25 3 Zb ([]:List Za)),none])) (n':=(n+6)) ?_ ?_
  ·refine Fit2.trans (E':=(⟨146,[],[(1,.ref n 0),(2,.ref (n+1) 0),(3,.ref (n+3) 0),(4,nV),(9,(vI 0))]⟩:Env)) (O':=(Zw O n [some ⟨false,30,11,1,(Zi a0)⟩,some ⟨false,25,3,1,[(vI 0),nV,nV]⟩,some (oR 77 1 (eI .u64) ([(IntKind.u64.wrap (IntKind.i64.wrap (a0.Kind+(IntKind.i64.wrap (256 * a0.List_)))))]:List Int)),some ⟨false,25,3,1,[(vI 1),.row (n+2) ([(IntKind.u64.wrap (IntKind.i64.wrap (a0.Kind+(IntKind.i64.wrap (256 * a0.List_)))))]:List Int).length,nV]⟩])) (n':=(n+4)) (Fit2.of (Z6 hU rfl rfl ?_) (by omega)) ?_
   ·exact Gl
   refine Fit2.trans (Zay 4 25 3 rfl (by omega)) ?_
   simp only [Q5,Qi,Vt,Kh,List.set_cons_zero,List.set_cons_succ,List.cons_append,List.nil_append,List.length_cons,List.length_nil,Nat.zero_add,Nat.reduceAdd,Nat.reduceLT,Nat.add_assoc]
   refine Fit2.trans (E':=(⟨146,[],[(1,.ref n 0),(2,.ref (n+1) 0),(3,.ref (n+3) 0),(4,.row (n+4) ([]:List Za).length),(9,(vI 0))]⟩:Env)) (O':=(Zw O n [some ⟨false,30,11,1,(Zi a0)⟩,some ⟨false,25,3,1,[(vI 0),nV,nV]⟩,some (oR 77 1 (eI .u64) ([(IntKind.u64.wrap (IntKind.i64.wrap (a0.Kind+(IntKind.i64.wrap (256 * a0.List_)))))]:List Int)),some ⟨false,25,3,1,[(vI 1),.row (n+2) ([(IntKind.u64.wrap (IntKind.i64.wrap (a0.Kind+(IntKind.i64.wrap (256 * a0.List_)))))]:List Int).length,nV]⟩,some (oR 25 3 Zb ([]:List Za))])) (n':=(n+5)) (Fit2.of (Z6 hU rfl rfl ?_) (by omega)) ?_
   ·exact Gl
   refine Jg (k:=5) (k':=6) hU [0,1,2,3,4] [0,1,2,3,4,0] rfl rfl rfl rfl ⟨rfl,rfl⟩ ?_
   exact Gl
  obtain ⟨z272,hz272,hz1⟩:=bC hz1
  refine Yj (E':=⟨146,[],[(2,.ref (n+1) 0),(3,.ref (n+3) 0),(4,.row (n+4) z272.2.length)]⟩) (O':=(Zw O n [none,some ⟨false,25,3,1,[(vI 0),nV,nV]⟩,some (oR 77 1 (eI .u64) z272.1),some ⟨false,25,3,1,[(vI 1),.row (n+2) z272.1.length,nV]⟩,some (oR 25 3 Zb z272.2),none])) (n0:=(n+6)) ?_ ?_
  ·refine Y4 hz272 (fun s2_=>⟨146,[],[(1,.ref n 0),(2,.ref (n+1) 0),(3,.ref (n+3) 0),(4,.row (n+4) s2_.2.2.length),(9,(vI s2_.1))]⟩) (fun s2_=>(Zw O n [some ⟨false,30,11,1,(Zi a0)⟩,some ⟨false,25,3,1,[(vI 0),nV,nV]⟩,some (oR 77 1 (eI .u64) s2_.2.1),some ⟨false,25,3,1,[(vI 1),.row (n+2) s2_.2.1.length,nV]⟩,some (oR 25 3 Zb s2_.2.2),none])) (fun z272=>JX 1 n (⟨146,[],[(2,.ref (n+1) 0),(3,.ref (n+3) 0),(4,.row (n+4) z272.2.length)]⟩:Env) (Zw O n [none,some ⟨false,25,3,1,[(vI 0),nV,nV]⟩,some (oR 77 1 (eI .u64) z272.1),some ⟨false,25,3,1,[(vI 1),.row (n+2) z272.1.length,nV]⟩,some (oR 25 3 Zb z272.2),none]) (n+6)) ?_
   intro s2_ x2_ hs2_
   unfold Uo at hs2_
   try dsimp only
   refine Ze ?_
   refine zQ [1,2,3,4,9,27] ?_
   refine Zo (t:=(decide (s2_.1 < (a0.Ops.length:Int)))) rfl (fun c271 => ?_) (fun c271 => ?_)
   ·replace hs2_:=Zn c271 hs2_
    refine Qd [1,2,3,4,9] [true,true,true,true,true,false] ?_
    refine Ze ?_
    refine Z9 ?_
    refine Ze ?_
    obtain ⟨x265,hx265,ax265,bx265,cx265,hs2_⟩:=bE (f:=Z4) Zps (fun _=>rfl) (by decide) hs2_
    refine Gc [] ax265 bx265 cx265 ?_
    refine zDs [1,2,3,4,9,10] [true,true,true,true,true,false,true] ?_
    refine zR ?_
    refine Ki ⟨146,[],[(1,.ref n 0),(2,.ref (n+1) 0),(3,.ref (n+3) 0),(4,.row (n+4) s2_.2.2.length),(9,(vI s2_.1)),(10,.ref (n+6) 0),(11,.ref (n+8) 0)]⟩ (Zw O n [some ⟨false,30,11,1,(Zi a0)⟩,some ⟨false,25,3,1,[(vI 0),nV,nV]⟩,some (oR 77 1 (eI .u64) s2_.2.1),some ⟨false,25,3,1,[(vI 1),.row (n+2) s2_.2.1.length,nV]⟩,some (oR 25 3 Zb s2_.2.2),none,some ⟨false,89,14,1,(Yy x265)⟩,some (oR 77 1 (eI .u64) ([(IntKind.u64.wrap (IntKind.i64.wrap (x265.Kind+(IntKind.i64.wrap (256 * x265.N)))))]:List Int)),some ⟨false,25,3,1,[(vI 1),.row (n+7) ([(IntKind.u64.wrap (IntKind.i64.wrap (x265.Kind+(IntKind.i64.wrap (256 * x265.N)))))]:List Int).length,nV]⟩]) (Z6 hU rfl rfl ?_) ?_
    ·exact Gl
    obtain ⟨z266,hz266,hs2_⟩:=bC hs2_
    refine Yu (E':=⟨146,[],[(1,.ref n 0),(2,.ref (n+1) 0),(3,.ref (n+3) 0),(4,.row (n+4) s2_.2.2.length),(9,(vI s2_.1)),(11,.ref (n+8) 0)]⟩) (O':=(Zw O n [some ⟨false,30,11,1,(Zi a0)⟩,some ⟨false,25,3,1,[(vI 0),nV,nV]⟩,some (oR 77 1 (eI .u64) s2_.2.1),some ⟨false,25,3,1,[(vI 1),.row (n+2) s2_.2.1.length,nV]⟩,some (oR 25 3 Zb s2_.2.2),none,none,some (oR 77 1 (eI .u64) z266.1),some ⟨false,25,3,1,[(vI 1),.row (n+7) z266.1.length,.row (n+10) z266.2.length]⟩,none,some (oR 25 3 Zb z266.2),none])) (n0:=(n+12)) ?_ ?_
    ·refine zQ [1,2,3,4,9,10,11,46] ?_
     refine Zo (t:=(x265.Kind == 3)) rfl (fun c269 => ?_) (fun c269 => ?_)
     ·replace hz266:=Zn c269 hz266
      obtain ⟨y267,hy267,hz266⟩:=bC hz266
      refine zC (Ze3 hy267) ?_
      obtain rfl:=sI hz266
      refine And.intro rfl ?_
      refine Fit2.trans (E':=(⟨146,[],[(1,.ref n 0),(2,.ref (n+1) 0),(3,.ref (n+3) 0),(4,.row (n+4) s2_.2.2.length),(9,(vI s2_.1)),(11,.ref (n+8) 0)]⟩:Env)) (O':=(Zw O n [some ⟨false,30,11,1,(Zi a0)⟩,some ⟨false,25,3,1,[(vI 0),nV,nV]⟩,some (oR 77 1 (eI .u64) s2_.2.1),some ⟨false,25,3,1,[(vI 1),.row (n+2) s2_.2.1.length,nV]⟩,some (oR 25 3 Zb s2_.2.2),none,none,some (oR 77 1 (eI .u64) ([(IntKind.u64.wrap (IntKind.i64.wrap (x265.Kind+(IntKind.i64.wrap (256 * x265.N)))))]:List Int)),some ⟨false,25,3,1,[(vI 1),.row (n+7) ([(IntKind.u64.wrap (IntKind.i64.wrap (x265.Kind+(IntKind.i64.wrap (256 * x265.N)))))]:List Int).length,.row (n+9) ([y267]:List Za).length]⟩,some (oR 25 3 Zb ([y267]:List Za))])) (n':=(n+10)) (Fit2.of (Z6 hU rfl rfl ?_) (by omega)) ?_
      ·exact Gl
      refine Jg (k:=10) (k':=12) hU [0,1,2,3,4,11,11,7,8,10] [0,1,2,3,4,0,0,7,8,0,9,0] rfl rfl rfl rfl ⟨rfl,rfl⟩ ?_
      exact Gl
     replace hz266:=Zm c269 hz266
     refine zQ [1,2,3,4,9,10,11,54] ?_
     refine Zo (t:=(decide (0 < x265.Kind))) rfl (fun c268 => ?_) (fun c268 => ?_)
     ·replace hz266:=Zn c268 hz266
      refine zR ?_
      obtain rfl:=sI hz266
      refine And.intro rfl ?_
      refine Fit2.trans (E':=(⟨146,[],[(1,.ref n 0),(2,.ref (n+1) 0),(3,.ref (n+3) 0),(4,.row (n+4) s2_.2.2.length),(9,(vI s2_.1)),(11,.ref (n+8) 0)]⟩:Env)) (O':=(Zw O n [some ⟨false,30,11,1,(Zi a0)⟩,some ⟨false,25,3,1,[(vI 0),nV,nV]⟩,some (oR 77 1 (eI .u64) s2_.2.1),some ⟨false,25,3,1,[(vI 1),.row (n+2) s2_.2.1.length,nV]⟩,some (oR 25 3 Zb s2_.2.2),none,none,some (oR 77 1 (eI .u64) ([(IntKind.u64.wrap (IntKind.i64.wrap (x265.Kind+(IntKind.i64.wrap (256 * x265.N)))))]:List Int)),some ⟨false,25,3,1,[(vI 1),.row (n+7) ([(IntKind.u64.wrap (IntKind.i64.wrap (x265.Kind+(IntKind.i64.wrap (256 * x265.N)))))]:List Int).length,.row (n+9) ([(⟨a0.List_,([]:(List Int)),x265.L⟩:Za)]:List Za).length]⟩,some (oR 25 3 Zb ([(⟨a0.List_,([]:(List Int)),x265.L⟩:Za)]:List Za))])) (n':=(n+10)) (Fit2.of (Z6 hU rfl rfl ?_) (by omega)) ?_
      ·exact Gl
      refine Jg (k:=10) (k':=12) hU [0,1,2,3,4,11,11,7,8,10] [0,1,2,3,4,0,0,7,8,0,9,0] rfl rfl rfl rfl ⟨rfl,rfl⟩ ?_
      exact Gl
     replace hz266:=Zm c268 hz266
     refine zK ?_
     obtain rfl:=sI hz266
     refine And.intro rfl ?_
     refine Fit2.trans (E':=(⟨146,[],[(1,.ref n 0),(2,.ref (n+1) 0),(3,.ref (n+3) 0),(4,.row (n+4) s2_.2.2.length),(9,(vI s2_.1)),(11,.ref (n+8) 0)]⟩:Env)) (O':=(Zw O n [some ⟨false,30,11,1,(Zi a0)⟩,some ⟨false,25,3,1,[(vI 0),nV,nV]⟩,some (oR 77 1 (eI .u64) s2_.2.1),some ⟨false,25,3,1,[(vI 1),.row (n+2) s2_.2.1.length,nV]⟩,some (oR 25 3 Zb s2_.2.2),none,none,some (oR 77 1 (eI .u64) ([(IntKind.u64.wrap (IntKind.i64.wrap (x265.Kind+(IntKind.i64.wrap (256 * x265.N)))))]:List Int)),some ⟨false,25,3,1,[(vI 1),.row (n+7) ([(IntKind.u64.wrap (IntKind.i64.wrap (x265.Kind+(IntKind.i64.wrap (256 * x265.N)))))]:List Int).length,nV]⟩])) (n':=(n+9)) (Fit2.of (Z6 hU rfl rfl ?_) (by omega)) ?_
     ·exact Gl
     refine Fit2.trans (Zgn (p:=(n+8)) (k:=2) (q:=⟨false,25,3,1,[(vI 1),.row (n+7) ([(IntKind.u64.wrap (IntKind.i64.wrap (x265.Kind+(IntKind.i64.wrap (256 * x265.N)))))]:List Int).length,nV]⟩) 25 3 (by simp only [Zc1,Zi1,List.getElem?_cons_zero,List.getElem?_cons_succ,Option.join_some,List.length_nil,Xo]) rfl (by omega)) ?_
     simp only [Q5,Qi,Vt,Kh,List.set_cons_zero,List.set_cons_succ,List.cons_append,List.nil_append,List.length_cons,List.length_nil,Nat.zero_add,Nat.reduceAdd,Nat.reduceLT,Nat.add_assoc]
     refine Jg (k:=10) (k':=12) hU [0,1,2,3,4,11,11,7,8,10] [0,1,2,3,4,0,0,7,8,0,9,0] rfl rfl rfl rfl ⟨rfl,rfl⟩ ?_
     exact Gl
    refine Ki ⟨146,[],[(1,.ref n 0),(2,.ref (n+1) 0),(3,.ref (n+3) 0),(4,.row (n+4) s2_.2.2.length),(9,(vI s2_.1)),(11,.ref (n+8) 0)]⟩ (Zw O n [some ⟨false,30,11,1,(Zi a0)⟩,some ⟨false,25,3,1,[(vI 0),nV,nV]⟩,some (oR 77 1 (eI .u64) s2_.2.1),some ⟨false,25,3,1,[(vI 1),.row (n+2) s2_.2.1.length,nV]⟩,some (oR 25 3 Zb s2_.2.2),none,none,none,some ⟨false,25,3,1,[(vI 1),(sL (eI .u64) z266.1),(sL Zb z266.2)]⟩,none,none,none]) (Z6 hU rfl rfl ?_) ?_
    ·exact Gl
    obtain ⟨l270,pl270,ql270,el270,hs2_⟩:=bA (k:=1) rfl hs2_
    refine Gu [] pl270 ql270 el270 ?_
    refine Ki ⟨146,[],[(1,.ref n 0),(2,.ref (n+1) 0),(3,.ref (n+3) 0),(4,.row (n+4) l270.length),(9,(vI s2_.1))]⟩ (Zw O n [some ⟨false,30,11,1,(Zi a0)⟩,some ⟨false,25,3,1,[(vI 0),nV,nV]⟩,some (oR 77 1 (eI .u64) s2_.2.1),some ⟨false,25,3,1,[(vI 1),.row (n+2) s2_.2.1.length,nV]⟩,some (oR 25 3 Zb l270),none,none,none,none,none,none,none,none]) (Z6 hU rfl rfl ?_) ?_
    ·exact Zjn pl270 ql270 el270
    refine zR ?_
    exact Gv hs2_
   replace hs2_:=Zm c271 hs2_
   exact zEx hs2_
  try simp only [Y1,Yc,↓reduceIte,Nat.reduceEqDiff]
  refine zD [2,3,4] [false,true,true,true,true,false] ?_
  refine Ki ⟨146,[],[(2,.ref (n+1) 0),(3,.ref (n+3) 0),(4,(sL Zb z272.2))]⟩ (Zw O n [none,some ⟨false,25,3,1,[(vI 0),nV,nV]⟩,some (oR 77 1 (eI .u64) z272.1),some ⟨false,25,3,1,[(vI 1),.row (n+2) z272.1.length,nV]⟩,none,none]) (Z6 hU rfl rfl ?_) ?_
  ·exact Gl
  obtain ⟨y273,hy273,hz1⟩:=bC hz1
  refine zC (Zh5 hy273) ?_
  obtain rfl:=sI hz1
  refine And.intro rfl ?_
  refine Fit2.trans (E':=(⟨146,[],[(2,.ref (n+1) 0),(3,.ref (n+3) 0)]⟩:Env)) (O':=(Zw O n [none,some ⟨false,25,3,1,[(vI 0),nV,nV]⟩,some (oR 77 1 (eI .u64) z272.1),some ⟨false,25,3,1,[(vI 1),.row (n+2) z272.1.length,.row (n+6) ([y273]:List Za).length]⟩,none,none,some (oR 25 3 Zb ([y273]:List Za))])) (n':=(n+7)) (Fit2.of (Z6 hU rfl rfl ?_) (by omega)) ?_
  ·exact Gl
  refine Jg (k:=7) (k':=11) hU [10,1,2,3,10,10,9] [0,1,2,3,0,0,0,0,0,6,0] rfl rfl rfl rfl ⟨rfl,rfl⟩ ?_
  exact Gl
 rcases z1 with z1 | z1
 ·dsimp only [X8] at hw h
  refine Yu hw ?_
  refine Ze ?_
  refine zRd [2] [false,true,true,false,false,false,false,false,false,true,false] ?_
  refine zW ?_
  obtain rfl:=sI h
  refine Zg (.inr rfl) hU [.agg [(vI 1),.row (n+2) z1.1.length,.row (n+9) z1.2.length]] (by omega) ?_
  simp only [push_cast,seval,↓reduceIte,Zc,Tryz.results18,hN0,hN]
 dsimp only [X8] at hw h
 refine Yc6 hw ?_
 try simp only [Y1,Yc]
 obtain rfl:=sI h
 refine Zg (.inr rfl) hU [.agg [(vI 0),nV,nV]] (by omega) ?_
 simp only [push_cast,seval,↓reduceIte,Zc,Tryz.results18,hN0,hN]
theorem Zoh:∀ k,(Zjh (Ky k)):=fun k=>by
 induction k with
 | zero=>exact @fun a0 r O n h=>(nomatch (show (none:Option _)=some _ from h))
 | succ k ih=>exact @fun a0 r O n h=>Zqx (ih)  h
theorem Zr3 {a0:Zf} {r:Za} {O:Objs} {n:Nat} (h:Zhw a0=some r):GTo Tryz.prog 18 [.agg (Zi a0)] O n (.agg (Zd r)) O n:=by
 obtain ⟨k,hk⟩:=V0 h
 exact (Zoh k)  hk
theorem Zr1 {a0:(List Int)} {r:(List Int)} {O:Objs} {n:Nat} (h:Zbc a0=some r):GTo Tryz.prog 121 [(sL (eI .u64) a0)] O n ((sL (eI .u64) r)) O n:=by
 unfold Zbc at h
 refine K6 Zq Tryz.call121 Tryz.func121 rfl fun hU hN0 hN => ?_
 show W _ _ _ _ ⟨24,[],[(0,(sL (eI .u64) a0))]⟩ (Zw O n []) _
 refine zQ [0] ?_
 refine zQ [0,3] ?_
 refine Ze ?_
 refine zD [0,3] [] ?_
 obtain ⟨z7,hz7,h⟩:=bC h
 refine Yj (E':=⟨24,[],[(0,(sL (eI .u64) a0)),(3,(vI z7))]⟩) (O':=(Zw O n [])) (n0:=n) ?_ ?_
 ·refine Y4 hz7 (fun s0_=>⟨24,[],[(0,(sL (eI .u64) a0)),(3,(vI s0_))]⟩) (fun s0_=>(Zw O n [])) (fun z7=>JX 0 n (⟨24,[],[(0,(sL (eI .u64) a0)),(3,(vI z7))]⟩:Env) (Zw O n []) n) ?_
  intro s0_ x0_ hs0_
  unfold Uu at hs0_
  try dsimp only
  refine Ze ?_
  obtain ⟨z2,hz2,hs0_⟩:=bC hs0_
  refine Yu (E':=⟨24,[],[(0,(sL (eI .u64) a0)),(3,(vI s0_)),(16,(vB z2))]⟩) (O':=(Zw O n [])) (n0:=n) ?_ ?_
  ·rcases Bool.eq_false_or_eq_true (decide (0 < s0_)) with c5 | c5
   ·replace hz2:=Zn c5 hz2
    obtain ⟨x4,hx4,ax4,bx4,cx4,hz2⟩:=bE (f:=(eI .u64)) Zbn (fun _=>rfl) (by decide) hz2
    refine Yb5 [some true,some true,some true,some true,some true,some true] c5 ax4 bx4 cx4 ?_
    exact Yjf hz2 c5 ax4 bx4 cx4
   replace hz2:=Zm c5 hz2
   refine Q2 [some false,some false,some false,some false,some false,some false] c5 ?_
   exact Qf hz2 c5
  refine Zo (t:=z2) rfl (fun c6 => ?_) (fun c6 => ?_)
  ·replace hs0_:=Zn c6 hs0_
   refine Qd [0,3] [] ?_
   refine Z9 ?_
   refine zR ?_
   exact Gv hs0_
  replace hs0_:=Zm c6 hs0_
  exact zEx hs0_
 try simp only [Y1,Yc,↓reduceIte,Nat.reduceEqDiff]
 refine zD [0,3] [] ?_
 refine zQ [0,3,4] ?_
 refine Ze ?_
 obtain ⟨l10,al10,bl10,cl10,gl10,h⟩:=bS (lo:=none) (hi:=(some (.i64,z7))) (f:=(eI .u64)) rfl rfl Zkc Zbn (fun _=>rfl) h
 obtain ⟨l11,pl11,ql11,el11,h⟩:=bA0 (k:=l10.length) rfl h
 refine Yo6 [] al10 bl10 cl10 gl10 pl11 ql11 el11 ?_
 refine Ki ⟨24,[],[(2,.row n l11.length)]⟩ (Zw O n [some (oR 77 1 (eI .u64) l11)]) (Z6 hU rfl rfl ?_) ?_
 ·simp only [push_cast,seval,↓reduceIte,Zc,al10,bl10,cl10,gl10,pl11,ql11,el11,hN0,hN]
 refine zW ?_
 obtain rfl:=sI h
 refine Zg (.inr rfl) hU [.row n l11.length] (by omega) ?_
 simp only [push_cast,seval,↓reduceIte,Zc,Tryz.results121,hN0,hN]
def Zje (J7:(Za→Option Za)):Prop:=∀ {a0:Za} {r:Za} {O:Objs} {n:Nat},J7 a0=some r→GTo Tryz.prog 77 [.agg (Zd a0)] O n (.agg (Zd r)) O n
theorem Zqu {J7:(Za→Option Za)} (Zo9:Zje J7) {a0:Za} {r:Za} {O:Objs} {n:Nat} (h:Za5 J7 a0=some r):GTo Tryz.prog 77 [.agg (Zd a0)] O n (.agg (Zd r)) O n:=by
 unfold Za5 at h
 refine K6 Zq Tryz.call77 Tryz.func77 rfl fun hU hN0 hN => ?_
 show W _ _ _ _ ⟨53,[],[(0,.agg (Zd a0))]⟩ (Zw O n []) _
 refine zQ [1,2] ?_
 refine Ze ?_
 refine zQ [1,2,10] ?_
 refine Zo (t:=(a0.Kind == 0)) rfl (fun c19 => ?_) (fun c19 => ?_)
 ·replace h:=Zn c19 h
  refine Ze ?_
  refine zRd [2] [false,true] ?_
  refine zW ?_
  obtain rfl:=sI h
  refine Zg (.inr rfl) hU [.agg [(vI 0),nV,nV]] (by omega) ?_
  simp only [push_cast,seval,↓reduceIte,Zc,Tryz.results77,hN0,hN]
 replace h:=Zm c19 h
 refine Qd [1,2] [true,true] ?_
 refine zQ [1,2,3] ?_
 refine zQ [1,2,3,4] ?_
 refine Ze ?_
 refine zQd [1,2,3,4,5] [1,2,3,4,5] [true,true] ?_
 refine G8 (E':=(⟨53,[],[(1,.ref n 0),(2,.ref (n+1) 0),(3,.row (n+2) ([]:List Za).length),(4,(vI 0)),(5,(vI 0))]⟩:Env)) (O':=(Zw O n [some ⟨false,25,3,1,(Zd a0)⟩,some ⟨false,25,3,1,[(vI 0),nV,nV]⟩,some (oR 25 3 Zb ([]:List Za)),none])) (n':=(n+4)) ?_ ?_
 ·refine Fit2.trans (E':=(⟨53,[],[(1,.ref n 0),(2,.ref (n+1) 0),(3,nV),(4,(vI 0)),(5,(vI 0))]⟩:Env)) (O':=(Zw O n [some ⟨false,25,3,1,(Zd a0)⟩,some ⟨false,25,3,1,[(vI 0),nV,nV]⟩])) (n':=(n+2)) (Fit2.of (Z6 hU rfl rfl ?_) (by omega)) ?_
  ·exact Gl
  refine Fit2.trans (Zay 3 25 3 rfl (by omega)) ?_
  simp only [Q5,Qi,Vt,Kh,List.set_cons_zero,List.set_cons_succ,List.cons_append,List.nil_append,List.length_cons,List.length_nil,Nat.zero_add,Nat.reduceAdd,Nat.reduceLT,Nat.add_assoc]
  refine Fit2.trans (E':=(⟨53,[],[(1,.ref n 0),(2,.ref (n+1) 0),(3,.row (n+2) ([]:List Za).length),(4,(vI 0)),(5,(vI 0))]⟩:Env)) (O':=(Zw O n [some ⟨false,25,3,1,(Zd a0)⟩,some ⟨false,25,3,1,[(vI 0),nV,nV]⟩,some (oR 25 3 Zb ([]:List Za))])) (n':=(n+3)) (Fit2.of (Z6 hU rfl rfl ?_) (by omega)) ?_
  ·exact Gl
  refine Jg (k:=3) (k':=4) hU [0,1,2] [0,1,2,0] rfl rfl rfl rfl ⟨rfl,rfl⟩ ?_
  exact Gl
 obtain ⟨z10,hz10,h⟩:=bC h
 refine Yj (E':=⟨53,[],[(1,.ref n 0),(2,.ref (n+1) 0),(3,.row (n+2) z10.2.length),(4,(vI z10.1))]⟩) (O':=(Zw O n [some ⟨false,25,3,1,(Zd a0)⟩,some ⟨false,25,3,1,[(vI 0),nV,nV]⟩,some (oR 25 3 Zb z10.2),none])) (n0:=(n+4)) ?_ ?_
 ·refine Y4 hz10 (fun s0_=>⟨53,[],[(1,.ref n 0),(2,.ref (n+1) 0),(3,.row (n+2) s0_.2.2.length),(4,(vI s0_.1)),(5,(vI s0_.2.1))]⟩) (fun s0_=>(Zw O n [some ⟨false,25,3,1,(Zd a0)⟩,some ⟨false,25,3,1,[(vI 0),nV,nV]⟩,some (oR 25 3 Zb s0_.2.2),none])) (fun z10=>JX 0 n (⟨53,[],[(1,.ref n 0),(2,.ref (n+1) 0),(3,.row (n+2) z10.2.length),(4,(vI z10.1))]⟩:Env) (Zw O n [some ⟨false,25,3,1,(Zd a0)⟩,some ⟨false,25,3,1,[(vI 0),nV,nV]⟩,some (oR 25 3 Zb z10.2),none]) (n+4)) ?_
  intro s0_ x0_ hs0_
  unfold Jp at hs0_
  try dsimp only
  refine Ze ?_
  refine zQ [1,2,3,4,5,16] ?_
  refine Zo (t:=(decide (s0_.2.1 < (a0.Kids.length:Int)))) rfl (fun c9 => ?_) (fun c9 => ?_)
  ·replace hs0_:=Zn c9 hs0_
   refine Qd [1,2,3,4,5] [true,true,true,false] ?_
   obtain ⟨z1,hz1,hs0_⟩:=bC hs0_
   refine Yu (E':=⟨53,[],[(1,.ref n 0),(2,.ref (n+1) 0),(3,.row (n+2) z1.2.length),(4,(vI z1.1)),(5,(vI s0_.2.1))]⟩) (O':=(Zw O n [some ⟨false,25,3,1,(Zd a0)⟩,some ⟨false,25,3,1,[(vI 0),nV,nV]⟩,some (oR 25 3 Zb z1.2),none,none,none])) (n0:=(n+6)) ?_ ?_
   ·refine Z9 ?_
    refine Ze ?_
    obtain ⟨x4,hx4,ax4,bx4,cx4,hz1⟩:=bE (f:=Zb) Uc (fun _=>rfl) (by decide) hz1
    obtain ⟨y5,hy5,hz1⟩:=bC hz1
    refine Gc [] ax4 bx4 cx4 ?_
    refine (Zo9 hy5).then ?_
    refine zF3 ax4 bx4 cx4 ?_
    refine zDs [1,2,3,4,5,6] [true,true,true,false,true] ?_
    obtain ⟨l7,pl7,ql7,el7,hz1⟩:=bA (k:=1) rfl hz1
    refine Gu [] pl7 ql7 el7 ?_
    refine Ki ⟨53,[],[(1,.ref n 0),(2,.ref (n+1) 0),(3,.row (n+2) l7.length),(4,(vI s0_.1)),(5,(vI s0_.2.1)),(6,.ref (n+4) 0)]⟩ (Zw O n [some ⟨false,25,3,1,(Zd a0)⟩,some ⟨false,25,3,1,[(vI 0),nV,nV]⟩,some (oR 25 3 Zb l7),none,some ⟨false,25,3,1,(Zd y5)⟩,none]) (Z6 hU rfl rfl ?_) ?_
    ·exact Zjn pl7 ql7 el7
    refine zQ [1,2,3,4,5,31] ?_
    refine Zo (t:=(y5.Kind != 0)) rfl (fun c8 => ?_) (fun c8 => ?_)
    ·replace hz1:=Zn c8 hz1
     refine zR ?_
     exact Gv hz1
    replace hz1:=Zm c8 hz1
    refine zK ?_
    exact Gv hz1
   refine zR ?_
   exact Gv hs0_
  replace hs0_:=Zm c9 hs0_
  exact zEx hs0_
 try simp only [Y1,Yc,↓reduceIte,Nat.reduceEqDiff]
 refine zDs [1,2,3,4] [true,true,true,false] ?_
 refine zQ [1,2,3,4,36] ?_
 refine Zo (t:=(a0.Kind == 1)) rfl (fun c18 => ?_) (fun c18 => ?_)
 ·replace h:=Zn c18 h
  refine Ki ⟨53,[],[(1,.ref n 0),(2,.ref (n+1) 0),(3,(sL Zb z10.2)),(4,(vI z10.1))]⟩ (Zw O n [some ⟨false,25,3,1,(Zd a0)⟩,some ⟨false,25,3,1,[(vI 0),nV,nV]⟩,none,none]) (Z6 hU rfl rfl ?_) ?_
  ·exact Gl
  refine Ze ?_
  obtain ⟨y14,hy14,h⟩:=bC h
  obtain ⟨l15,al15,bl15,cl15,gl15,h⟩:=bS (lo:=none) (hi:=(some (.i64,z10.1))) (f:=Zb) rfl rfl Zql Uc (fun _=>rfl) h
  refine Zgh Zq (by kernel_rfl) [false,false,false,false,false,false,false,true] [] (by kernel_rfl) ?_
  refine zX4 al15 bl15 cl15 gl15 ?_
  refine PCall.of (Zr1 hy14) ?_
  refine zX4 al15 bl15 cl15 gl15 ?_
  refine zD [2] [false,true,false,false] ?_
  refine zW ?_
  obtain rfl:=sI h
  refine Zg (.inr rfl) hU [.agg [(vI 1),(sL (eI .u64) y14),(sL Zb l15)]] (by omega) ?_
  simp only [push_cast,seval,↓reduceIte,Zc,Tryz.results77,hN0,hN]
 replace h:=Zm c18 h
 refine Qd [1,2,3] [true,true,true,false] ?_
 refine zQ [1,2,3,7] ?_
 refine Ze ?_
 obtain ⟨l17,pl17,ql17,el17,h⟩:=bA0 (k:=a0.Words.length) rfl h
 refine Gu [] pl17 ql17 el17 ?_
 refine Ki ⟨53,[],[(1,.ref n 0),(2,.ref (n+1) 0),(3,.row (n+2) z10.2.length),(7,.row (n+4) l17.length)]⟩ (Zw O n [some ⟨false,25,3,1,(Zd a0)⟩,some ⟨false,25,3,1,[(vI 0),nV,nV]⟩,some (oR 25 3 Zb z10.2),none,some (oR 77 1 (eI .u64) l17)]) (Z6 hU rfl rfl ?_) ?_
 ·exact Zjn pl17 ql17 el17
 refine Ze ?_
 refine zRd [2] [false,true,true,false,true] ?_
 refine zW ?_
 obtain rfl:=sI h
 refine Zg (.inr rfl) hU [.agg [(vI a0.Kind),.row (n+4) l17.length,.row (n+2) z10.2.length]] (by omega) ?_
 simp only [push_cast,seval,↓reduceIte,Zc,Tryz.results77,hN0,hN]
theorem Zoe:∀ k,(Zje (Qr k)):=fun k=>by
 induction k with
 | zero=>exact @fun a0 r O n h=>(nomatch (show (none:Option _)=some _ from h))
 | succ k ih=>exact @fun a0 r O n h=>Zqu (ih)  h
theorem Zks {a0:Za} {r:Za} {O:Objs} {n:Nat} (h:Zei a0=some r):GTo Tryz.prog 77 [.agg (Zd a0)] O n (.agg (Zd r)) O n:=by
 obtain ⟨k,hk⟩:=V0 h
 exact (Zoe k)  hk
def Zjf (J8:(Za→Za→Option Bool)):Prop:=∀ {a0:Za} {a1:Za} {r:Bool} {O:Objs} {n:Nat},J8 a0 a1=some r→GTo Tryz.prog 17 [.agg (Zd a0),.agg (Zd a1)] O n ((vB r)) O n
theorem Zqv {J8:(Za→Za→Option Bool)} (Zpa:Zjf J8) {a0:Za} {a1:Za} {r:Bool} {O:Objs} {n:Nat} (h:Za6 J8 a0 a1=some r):GTo Tryz.prog 17 [.agg (Zd a0),.agg (Zd a1)] O n ((vB r)) O n:=by
 unfold Za6 at h
 refine K6 Zq Tryz.call17 Tryz.func17 rfl fun hU hN0 hN => ?_
 show W _ _ _ _ ⟨47,[],[(0,.agg (Zd a0)),(1,.agg (Zd a1))]⟩ (Zw O n []) _
 refine zQ [2,3] ?_
 refine Ze ?_
 obtain ⟨z2,hz2,h⟩:=bC h
 refine Yu (E':=⟨47,[],[(2,.ref n 0),(3,.ref (n+1) 0),(27,(vB z2))]⟩) (O':=(Zw O n [some ⟨false,25,3,1,(Zd a0)⟩,some ⟨false,25,3,1,(Zd a1)⟩])) (n0:=(n+2)) ?_ ?_
 ·rcases Bool.eq_false_or_eq_true (a0.Kind != a1.Kind) with c5 | c5
  ·replace hz2:=Zn c5 hz2
   refine Q2 [some false,some false,some false,some false,some false,some false,some false,some false,some false,some false,some false,some false,some false] c5 ?_
   exact Qf hz2 c5
  replace hz2:=Zm c5 hz2
  obtain ⟨y4,hy4,hz2⟩:=bC hz2
  refine Q2 [some true,some true,some true,some true,some true,some true,none,none,none,none,none,none,none] c5 ?_
  refine zG ?_
  refine (Zc9 hy4).then ?_
  refine zX1 c5 ?_
  refine zG ?_
  exact Qf hz2 c5
 refine Zo (t:=z2) rfl (fun K9 => ?_) (fun K9 => ?_)
 ·replace h:=Zn K9 h
  refine zQ [4] ?_
  refine zW ?_
  obtain rfl:=sI h
  refine Zg (.inr rfl) hU [(vB false)] (by omega) ?_
  simp only [push_cast,seval,↓reduceIte,Zc,Tryz.results17,hN0,hN]
 replace h:=Zm K9 h
 refine Qd [2,3] [true,true] ?_
 refine Ze ?_
 refine zQd [2,3,5] [2,3,5] [true,true] ?_
 obtain ⟨z14,hz14,h⟩:=bC h
 refine Zaw (J:=(X8 (fun z14=>JR n (⟨47,[],[(4,(vB false))]⟩:Env) (Zw O n [none,none]) (n+2)) (fun z14=>JX 0 n (⟨47,[],[]⟩:Env) (Zw O n [none,none]) (n+2)))) (z:=z14) ?_ fun hw => ?_
 ·refine Y4 hz14 (fun s0_=>⟨47,[],[(2,.ref n 0),(3,.ref (n+1) 0),(5,(vI s0_))]⟩) (fun s0_=>(Zw O n [some ⟨false,25,3,1,(Zd a0)⟩,some ⟨false,25,3,1,(Zd a1)⟩])) (X8 (fun z14=>JR n (⟨47,[],[(4,(vB false))]⟩:Env) (Zw O n [none,none]) (n+2)) (fun z14=>JX 0 n (⟨47,[],[]⟩:Env) (Zw O n [none,none]) (n+2))) ?_
  intro s0_ x0_ hs0_
  unfold Ui at hs0_
  try dsimp only
  refine Ze ?_
  refine zQ [2,3,5,32] ?_
  refine Zo (t:=(decide (s0_ < (a0.Kids.length:Int)))) rfl (fun Kj => ?_) (fun Kj => ?_)
  ·replace hs0_:=Zn Kj hs0_
   refine Qd [2,3,5] [true,true] ?_
   refine Ze ?_
   refine Z9 ?_
   refine Ze ?_
   obtain ⟨x9,hx9,ax9,bx9,cx9,hs0_⟩:=bE (f:=Zb) Uc (fun _=>rfl) (by decide) hs0_
   obtain ⟨x10,hx10,ax10,bx10,cx10,hs0_⟩:=bE (f:=Zb) Uc (fun _=>rfl) (by decide) hs0_
   obtain ⟨y11,hy11,hs0_⟩:=bC hs0_
   refine X9 Zq (by kernel_rfl) [] (by kernel_rfl) ?_
   refine zF6 ax9 bx9 cx9 ax10 bx10 cx10 ?_
   refine PCall.of (Zpa hy11) ?_
   refine zF6 ax9 bx9 cx9 ax10 bx10 cx10 ?_
   refine zD [2,3,5,46] [true,true] ?_
   refine Zo (t:=(!y11)) rfl (fun c12 => ?_) (fun c12 => ?_)
   ·replace hs0_:=Zn c12 hs0_
    refine zQ [4] ?_
    refine zW ?_
    exact zEy hs0_
   replace hs0_:=Zm c12 hs0_
   refine Qd [2,3,5] [true,true] ?_
   refine zR ?_
   exact Gv hs0_
  replace hs0_:=Zm Kj hs0_
  exact zEx hs0_
 rcases z14 with z14 | z14
 ·dsimp only [X8] at hw h
  refine Jv hw ?_
  try simp only [Y1,Yc,↓reduceIte,Nat.reduceEqDiff]
  obtain rfl:=sI h
  refine Zg (.inr rfl) hU [(vB false)] (by omega) ?_
  simp only [push_cast,seval,↓reduceIte,Zc,Tryz.results17,hN0,hN]
 dsimp only [X8] at hw h
 refine Yj hw ?_
 try simp only [Y1,Yc,↓reduceIte,Nat.reduceEqDiff]
 refine zD [] [false,false] ?_
 refine zQ [4] ?_
 refine zW ?_
 obtain rfl:=sI h
 refine Zg (.inr rfl) hU [(vB true)] (by omega) ?_
 simp only [push_cast,seval,↓reduceIte,Zc,Tryz.results17,hN0,hN]
theorem Zof:∀ k,(Zjf (Kw k)):=fun k=>by
 induction k with
 | zero=>exact @fun a0 a1 r O n h=>(nomatch (show (none:Option _)=some _ from h))
 | succ k ih=>exact @fun a0 a1 r O n h=>Zqv (ih)  h
theorem Zar {a0:Za} {a1:Za} {r:Bool} {O:Objs} {n:Nat} (h:U3 a0 a1=some r):GTo Tryz.prog 17 [.agg (Zd a0),.agg (Zd a1)] O n ((vB r)) O n:=by
 obtain ⟨k,hk⟩:=V0 h
 exact (Zof k)  hk
theorem Zqq {a0:Za} {a1:Za} {r:Bool} {O:Objs} {n:Nat} (h:Zal a0 a1=some r):GTo Tryz.prog 62 [.agg (Zd a0),.agg (Zd a1)] O n ((vB r)) O n:=by
 unfold Zal at h
 refine K6 Zq Tryz.call62 Tryz.func62 rfl fun hU hN0 hN => ?_
 show W _ _ _ _ ⟨10,[],[(0,.agg (Zd a0)),(1,.agg (Zd a1))]⟩ (Zw O n []) _
 refine zQ [2,3] ?_
 refine Ze ?_
 obtain ⟨y4,hy4,h⟩:=bC h
 obtain ⟨y5,hy5,h⟩:=bC h
 obtain ⟨y6,hy6,h⟩:=bC h
 refine X9 Zq (by kernel_rfl) [] (by kernel_rfl) ?_
 refine zS ?_
 refine PCall.of (Zks hy4) ?_
 refine zS ?_
 refine PCall.of (Zks hy5) ?_
 refine zS ?_
 refine PCall.of (Zar hy6) ?_
 refine zS ?_
 refine zD [4] [false,false] ?_
 refine zW ?_
 obtain rfl:=sI h
 refine Zg (.inr rfl) hU [(vB y6)] (by omega) ?_
 simp only [push_cast,seval,↓reduceIte,Zc,Tryz.results62,hN0,hN]
theorem Zr2 {a0:Za} {r:(Zf×Bool)} {O:Objs} {n:Nat} (h:Zbe a0=some r):GTo Tryz.prog 23 [.agg (Zd a0)] O n (.tup [.agg (Zi r.1),(vB r.2)]) O n:=by
 unfold Zbe at h
 refine K6 Zq Tryz.call23 Tryz.func23 rfl fun hU hN0 hN => ?_
 show W _ _ _ _ ⟨19,[],[(0,.agg (Zd a0))]⟩ (Zw O n []) _
 refine zQ [1,2] ?_
 refine Ze ?_
 obtain ⟨y2,hy2,h⟩:=bC h
 refine zCd (Zqr hy2) [1,2,4] [true,true,true] ?_
 refine Ze ?_
 obtain ⟨z6,hz6,h⟩:=bC h
 refine Yu (E':=⟨19,[],[(2,.ref (n+1) 0),(4,.ref (n+2) 0),(16,(vB z6))]⟩) (O':=(Zw O n [none,some ⟨false,30,11,1,[(vI 0),(vI 0),nV,nV,(vI 0),nV,nV,nV,nV,(vI 0),nV]⟩,some ⟨false,30,11,1,(Zi y2)⟩])) (n0:=(n+3)) ?_ ?_
 ·obtain ⟨y10,hy10,hz6⟩:=bC hz6
  rcases Bool.eq_false_or_eq_true y10 with Kj | Kj
  ·replace hz6:=Zn Kj hz6
   obtain ⟨y11,hy11,hz6⟩:=bC hz6
   obtain ⟨y12,hy12,hz6⟩:=bC hz6
   refine X9 Zq (by kernel_rfl) [some true,some true,some true,some true,some true] (by kernel_rfl) ?_
   refine zX1 Kj ?_
   refine PCall.of (Zj3 hy10) ?_
   refine zX1 Kj ?_
   refine PCall.of (Zr3 hy11) ?_
   refine zX1 Kj ?_
   refine PCall.of (Zqq hy12) ?_
   refine zX1 Kj ?_
   exact Qf hz6 Kj
  replace hz6:=Zm Kj hz6
  refine X9 Zq (by kernel_rfl) [some false,some false,some false,some false,some false] (by kernel_rfl) ?_
  refine zX1 Kj ?_
  refine PCall.of (Zj3 hy10) ?_
  refine zX1 Kj ?_
  exact Qf hz6 Kj
 refine Zo (t:=z6) rfl (fun Qk => ?_) (fun Qk => ?_)
 ·replace h:=Zn Qk h
  refine Ze ?_
  refine zRd [2,3] [false,true,false] ?_
  refine zW ?_
  obtain rfl:=sI h
  refine Zg (.inr rfl) hU [.agg [(vI 0),(vI 0),nV,nV,(vI 0),nV,nV,nV,nV,(vI 0),nV],(vB false)] (by omega) ?_
  simp only [push_cast,seval,↓reduceIte,Zc,Tryz.results23,hN0,hN]
 replace h:=Zm Qk h
 refine Qd [2,4] [false,true,true] ?_
 refine Ze ?_
 refine zRd [2,3] [false,true,false] ?_
 refine zW ?_
 obtain rfl:=sI h
 refine Zg (.inr rfl) hU [.agg (Zi y2),(vB true)] (by omega) ?_
 simp only [push_cast,seval,↓reduceIte,Zc,Tryz.results23,hN0,hN]
theorem Zg7 {a0:(List Za)} {a1:(List Za)} {r:Bool} {O:Objs} {n:Nat} (h:Ve a0 a1=some r):GTo Tryz.prog 66 [(sL Zb a0),(sL Zb a1)] O n ((vB r)) O n:=by
 unfold Ve at h
 refine K6 Zq Tryz.call66 Tryz.func66 rfl fun hU hN0 hN => ?_
 show W _ _ _ _ ⟨27,[],[(0,(sL Zb a0)),(1,(sL Zb a1))]⟩ (Zw O n []) _
 refine zQ [0,1] ?_
 refine Ze ?_
 refine zQ [0,1,10] ?_
 refine Zo (t:=((a0.length:Int) != (a1.length:Int))) rfl (fun c10 => ?_) (fun c10 => ?_)
 ·replace h:=Zn c10 h
  refine zQ [4] ?_
  refine zW ?_
  obtain rfl:=sI h
  refine Zg (.inr rfl) hU [(vB false)] (by omega) ?_
  simp only [push_cast,seval,↓reduceIte,Zc,Tryz.results66,hN0,hN]
 replace h:=Zm c10 h
 refine Qd [0,1] [] ?_
 refine Ze ?_
 refine zQd [0,1,5] [0,1,5] [] ?_
 obtain ⟨z9,hz9,h⟩:=bC h
 refine Zaw (J:=(X8 (fun z9=>JR n (⟨27,[],[(4,(vB false))]⟩:Env) (Zw O n []) n) (fun z9=>JX 0 n (⟨27,[],[]⟩:Env) (Zw O n []) n))) (z:=z9) ?_ fun hw => ?_
 ·refine Y4 hz9 (fun s0_=>⟨27,[],[(0,(sL Zb a0)),(1,(sL Zb a1)),(5,(vI s0_))]⟩) (fun s0_=>(Zw O n [])) (X8 (fun z9=>JR n (⟨27,[],[(4,(vB false))]⟩:Env) (Zw O n []) n) (fun z9=>JX 0 n (⟨27,[],[]⟩:Env) (Zw O n []) n)) ?_
  intro s0_ x0_ hs0_
  unfold Vw at hs0_
  try dsimp only
  refine Ze ?_
  refine zQ [0,1,5,14] ?_
  refine Zo (t:=(decide (s0_ < (a0.length:Int)))) rfl (fun c8 => ?_) (fun c8 => ?_)
  ·replace hs0_:=Zn c8 hs0_
   refine Qd [0,1,5] [] ?_
   refine Ze ?_
   refine Z9 ?_
   refine Ze ?_
   obtain ⟨x4,hx4,ax4,bx4,cx4,hs0_⟩:=bE (f:=Zb) Uc (fun _=>rfl) (by decide) hs0_
   obtain ⟨x5,hx5,ax5,bx5,cx5,hs0_⟩:=bE (f:=Zb) Uc (fun _=>rfl) (by decide) hs0_
   obtain ⟨y6,hy6,hs0_⟩:=bC hs0_
   refine X9 Zq (by kernel_rfl) [] (by kernel_rfl) ?_
   refine zF6 ax4 bx4 cx4 ax5 bx5 cx5 ?_
   refine PCall.of (Zar hy6) ?_
   refine zF6 ax4 bx4 cx4 ax5 bx5 cx5 ?_
   refine zD [0,1,5,26] [] ?_
   refine Zo (t:=(!y6)) rfl (fun c7 => ?_) (fun c7 => ?_)
   ·replace hs0_:=Zn c7 hs0_
    refine zQ [4] ?_
    refine zW ?_
    exact zEy hs0_
   replace hs0_:=Zm c7 hs0_
   refine Qd [0,1,5] [] ?_
   refine zR ?_
   exact Gv hs0_
  replace hs0_:=Zm c8 hs0_
  exact zEx hs0_
 rcases z9 with z9 | z9
 ·dsimp only [X8] at hw h
  refine Jv hw ?_
  try simp only [Y1,Yc,↓reduceIte,Nat.reduceEqDiff]
  obtain rfl:=sI h
  refine Zg (.inr rfl) hU [(vB false)] (by omega) ?_
  simp only [push_cast,seval,↓reduceIte,Zc,Tryz.results66,hN0,hN]
 dsimp only [X8] at hw h
 refine Yj hw ?_
 try simp only [Y1,Yc,↓reduceIte,Nat.reduceEqDiff]
 refine zD [] [] ?_
 refine zQ [4] ?_
 refine zW ?_
 obtain rfl:=sI h
 refine Zg (.inr rfl) hU [(vB true)] (by omega) ?_
 simp only [push_cast,seval,↓reduceIte,Zc,Tryz.results66,hN0,hN]
def Zjg (Qo:(Zf→Zf→Option Bool)):Prop:=∀ {a0:Zf} {a1:Zf} {r:Bool} {O:Objs} {n:Nat},Qo a0 a1=some r→GTo Tryz.prog 24 [.agg (Zi a0),.agg (Zi a1)] O n ((vB r)) O n
theorem Zqw {Qo:(Zf→Zf→Option Bool)} (Zji:Zjg Qo) {a0:Zf} {a1:Zf} {r:Bool} {O:Objs} {n:Nat} (h:Za7 Qo a0 a1=some r):GTo Tryz.prog 24 [.agg (Zi a0),.agg (Zi a1)] O n ((vB r)) O n:=by
 unfold Za7 at h
 refine K6 Zq Tryz.call24 Tryz.func24 rfl fun hU hN0 hN => ?_
 show W _ _ _ _ ⟨164,[],[(0,.agg (Zi a0)),(1,.agg (Zi a1))]⟩ (Zw O n []) _
 refine zQ [2,3] ?_
 refine Ze ?_
 obtain ⟨z3,hz3,h⟩:=bC h
 refine Yu (E':=⟨164,[],[(2,.ref n 0),(3,.ref (n+1) 0),(64,(vB z3))]⟩) (O':=(Zw O n [some ⟨false,30,11,1,(Zi a0)⟩,some ⟨false,30,11,1,(Zi a1)⟩])) (n0:=(n+2)) ?_ ?_
 ·rcases Bool.eq_false_or_eq_true (a0.Kind != a1.Kind) with c8 | c8
  ·replace hz3:=Zn c8 hz3
   refine Q2 [none,none,none,none,none,some false,some false,some false,some false,some false,some false,some false,some false,some false,some false,some false,some false,some false,some false,some false,some false,some false,some false,some false,some false,some false,some false,some false,some false,some false,some false,some false,some false,some false,some false,some false,some false,some false] c8 ?_
   refine zG ?_
   exact Qf hz3 c8
  replace hz3:=Zm c8 hz3
  rcases Bool.eq_false_or_eq_true (a0.List_ != a1.List_) with c9 | c9
  ·replace hz3:=Zn c9 hz3
   try rw [c9] at c8
   refine Xy [none,none,none,none,none,some false,some false,some false,some false,some false,some false,some false,some false,some false,some false,some false,some false,some false,some false,some false,some false,some false,some false,some false,some false,some false,some false,some false,some false,some false,some false,some false,some false,some false,some false,some false,some false,some false] c8 c9 ?_
   refine zG ?_
   exact Zbo hz3 c8 c9
  replace hz3:=Zm c9 hz3
  try rw [c9] at c8
  obtain ⟨y6,hy6,hz3⟩:=bC hz3
  rcases Bool.eq_false_or_eq_true y6 with c10 | c10
  ·replace hz3:=Zn c10 hz3
   try rw [c10] at c8
   try rw [c10] at c9
   obtain ⟨y7,hy7,hz3⟩:=bC hz3
   refine Gu [none,none,none,none,none,some true,some true,some true,some true,some true,some true,some true,some true,some true,some true,some true,some true,none,none,none,none,none,none,none,none,none,none,none,none,none,none,none,none,none,none,none,none,none] c8 c9 c10 ?_
   refine zG ?_
   refine (Zar hy6).then ?_
   refine zX3 c8 c9 c10 ?_
   refine zG ?_
   refine (Zar hy7).then ?_
   refine zX3 c8 c9 c10 ?_
   refine zG ?_
   exact Zfk hz3 c8 c9 c10
  replace hz3:=Zm c10 hz3
  try rw [c10] at c8
  try rw [c10] at c9
  refine Gu [none,none,none,none,none,some true,some true,some true,some true,some true,some true,some false,some false,some false,some false,some false,some false,some false,some false,some false,some false,some false,some false,some false,some false,some false,some false,some false,some false,some false,some false,some false,some false,some false,some false,some false,some false,some false] c8 c9 c10 ?_
  refine zG ?_
  refine (Zar hy6).then ?_
  refine zX3 c8 c9 c10 ?_
  refine zG ?_
  exact Zfk hz3 c8 c9 c10
 refine Zo (t:=z3) rfl (fun c65 => ?_) (fun c65 => ?_)
 ·replace h:=Zn c65 h
  refine zQ [4] ?_
  refine zW ?_
  obtain rfl:=sI h
  refine Zg (.inr rfl) hU [(vB false)] (by omega) ?_
  simp only [push_cast,seval,↓reduceIte,Zc,Tryz.results24,hN0,hN]
 replace h:=Zm c65 h
 refine Qd [2,3] [true,true] ?_
 refine Ze ?_
 refine zQd [2,3,5] [2,3,5] [true,true] ?_
 obtain ⟨z17,hz17,h⟩:=bC h
 refine Zaw (J:=(X8 (fun z17=>JR n (⟨164,[],[(4,(vB false))]⟩:Env) (Zw O n [none,none]) (n+2)) (fun z17=>JX 0 n (⟨164,[],[(2,.ref n 0),(3,.ref (n+1) 0)]⟩:Env) (Zw O n [some ⟨false,30,11,1,(Zi a0)⟩,some ⟨false,30,11,1,(Zi a1)⟩]) (n+2)))) (z:=z17) ?_ fun hw => ?_
 ·refine Y4 hz17 (fun s0_=>⟨164,[],[(2,.ref n 0),(3,.ref (n+1) 0),(5,(vI s0_))]⟩) (fun s0_=>(Zw O n [some ⟨false,30,11,1,(Zi a0)⟩,some ⟨false,30,11,1,(Zi a1)⟩])) (X8 (fun z17=>JR n (⟨164,[],[(4,(vB false))]⟩:Env) (Zw O n [none,none]) (n+2)) (fun z17=>JX 0 n (⟨164,[],[(2,.ref n 0),(3,.ref (n+1) 0)]⟩:Env) (Zw O n [some ⟨false,30,11,1,(Zi a0)⟩,some ⟨false,30,11,1,(Zi a1)⟩]) (n+2))) ?_
  intro s0_ x0_ hs0_
  unfold Uj at hs0_
  try dsimp only
  refine Ze ?_
  refine zQ [2,3,5,69] ?_
  refine Zo (t:=(decide (s0_ < (a0.Words.length:Int)))) rfl (fun c16 => ?_) (fun c16 => ?_)
  ·replace hs0_:=Zn c16 hs0_
   refine Qd [2,3,5] [true,true] ?_
   refine Ze ?_
   refine Z9 ?_
   obtain ⟨x13,hx13,ax13,bx13,cx13,hs0_⟩:=bE (f:=Zp) Zt2 (fun _=>rfl) (by decide) hs0_
   obtain ⟨x14,hx14,ax14,bx14,cx14,hs0_⟩:=bE (f:=Zp) Zt2 (fun _=>rfl) (by decide) hs0_
   refine Zhc [2,3,5,82] (X9 Zq (by kernel_rfl) [] (by kernel_rfl) ?_)
   refine zF6 ax13 bx13 cx13 ax14 bx14 cx14 ?_
   refine Zo (t:=(!((x13.At == x14.At) && ((x13.Mask == x14.Mask) && ((x13.Old == x14.Old) && (x13.New == x14.New)))))) rfl (fun K9 => ?_) (fun K9 => ?_)
   ·replace hs0_:=Zn K9 hs0_
    refine zQ [4] ?_
    refine zW ?_
    exact zEy hs0_
   replace hs0_:=Zm K9 hs0_
   refine Qd [2,3,5] [true,true] ?_
   refine zR ?_
   exact Gv hs0_
  replace hs0_:=Zm c16 hs0_
  exact zEx hs0_
 rcases z17 with z17 | z17
 ·dsimp only [X8] at hw h
  refine Jv hw ?_
  try simp only [Y1,Yc,↓reduceIte,Nat.reduceEqDiff]
  obtain rfl:=sI h
  refine Zg (.inr rfl) hU [(vB false)] (by omega) ?_
  simp only [push_cast,seval,↓reduceIte,Zc,Tryz.results24,hN0,hN]
 dsimp only [X8] at hw h
 refine Yj hw ?_
 try simp only [Y1,Yc,↓reduceIte,Nat.reduceEqDiff]
 refine zDs [2,3] [true,true] ?_
 refine zQd [2,3,6] [2,3,6] [true,true] ?_
 obtain ⟨z49,hz49,h⟩:=bC h
 refine Zaw (J:=(X8 (fun z49=>JR n (⟨164,[],[(4,(vB false))]⟩:Env) (Zw O n [none,none]) (n+2)) (fun z49=>JX 2 n (⟨164,[],[(2,.ref n 0),(3,.ref (n+1) 0)]⟩:Env) (Zw O n [some ⟨false,30,11,1,(Zi a0)⟩,some ⟨false,30,11,1,(Zi a1)⟩]) (n+2)))) (z:=z49) ?_ fun hw => ?_
 ·refine Y4 hz49 (fun s1_=>⟨164,[],[(2,.ref n 0),(3,.ref (n+1) 0),(6,(vI s1_))]⟩) (fun s1_=>(Zw O n [some ⟨false,30,11,1,(Zi a0)⟩,some ⟨false,30,11,1,(Zi a1)⟩])) (X8 (fun z49=>JR n (⟨164,[],[(4,(vB false))]⟩:Env) (Zw O n [none,none]) (n+2)) (fun z49=>JX 2 n (⟨164,[],[(2,.ref n 0),(3,.ref (n+1) 0)]⟩:Env) (Zw O n [some ⟨false,30,11,1,(Zi a0)⟩,some ⟨false,30,11,1,(Zi a1)⟩]) (n+2))) ?_
  intro s1_ x1_ hs1_
  unfold Uk at hs1_
  try dsimp only
  refine Ze ?_
  refine zQ [2,3,6,87] ?_
  refine Zo (t:=(decide (s1_ < (a0.Kids.length:Int)))) rfl (fun c48 => ?_) (fun c48 => ?_)
  ·replace hs1_:=Zn c48 hs1_
   refine Qd [2,3,6] [true,true] ?_
   refine Ze ?_
   refine Z9 ?_
   obtain ⟨z27,hz27,hs1_⟩:=bC hs1_
   refine Yu (E':=⟨164,[],[(2,.ref n 0),(3,.ref (n+1) 0),(6,(vI s1_)),(118,(vB z27))]⟩) (O':=(Zw O n [some ⟨false,30,11,1,(Zi a0)⟩,some ⟨false,30,11,1,(Zi a1)⟩])) (n0:=(n+2)) ?_ ?_
   ·obtain ⟨x37,hx37,ax37,bx37,cx37,hz27⟩:=bE (f:=Zr) Zt3 (fun _=>rfl) (by decide) hz27
    have g38:=Zna (f:=Zr) (sz:=12) Z4q (fun _=>rfl) (by decide) (by decide) hx37
    obtain ⟨x39,hx39,ax39,bx39,cx39,hz27⟩:=bE (f:=Zr) Zt3 (fun _=>rfl) (by decide) hz27
    have g40:=Zna (f:=Zr) (sz:=12) Z4q (fun _=>rfl) (by decide) (by decide) hx39
    rcases Bool.eq_false_or_eq_true (x37.At != x39.At) with c46 | c46
    ·replace hz27:=Zn c46 hz27
     refine X9 Zq (by kernel_rfl) [some false,some false,some false,some false,some false,some false,some false,some false,some false,some false,some false,some false,some false,some false] (by kernel_rfl) ?_
     refine zF9 ax37 bx37 cx37 g38 ax39 bx39 cx39 g40 c46 ?_
     obtain rfl:=sI hz27
     refine And.intro rfl (Fit2.of (Z6 hU rfl rfl ?_) (by omega))
     exact Yqt ax37 bx37 cx37 g38 ax39 bx39 cx39 g40 c46
    replace hz27:=Zm c46 hz27
    have g42:=Zp6 (f:=Zr) (off:=1) (sz:=12) Z17 (fun _=>rfl) (by decide) (by decide) hx37
    have g44:=Zp6 (f:=Zr) (off:=1) (sz:=12) Z17 (fun _=>rfl) (by decide) (by decide) hx39
    obtain ⟨y45,hy45,hz27⟩:=bC hz27
    refine X9 Zq (by kernel_rfl) [some true,some true,some true,some true,some true,some true,some true,some true,some true,some true,some true,some true,some true,some true] (by kernel_rfl) ?_
    refine Yoz ax37 bx37 cx37 g38 ax39 bx39 cx39 g40 c46 g42 g44 ?_
    refine PCall.of (Zji hy45) ?_
    refine Yoz ax37 bx37 cx37 g38 ax39 bx39 cx39 g40 c46 g42 g44 ?_
    obtain rfl:=sI hz27
    refine And.intro rfl (Fit2.of (Z6 hU rfl rfl ?_) (by omega))
    exact Yo0 ax37 bx37 cx37 g38 ax39 bx39 cx39 g40 c46 g42 g44
   refine Zo (t:=z27) rfl (fun c47 => ?_) (fun c47 => ?_)
   ·replace hs1_:=Zn c47 hs1_
    refine zQ [4] ?_
    refine zW ?_
    exact zEy hs1_
   replace hs1_:=Zm c47 hs1_
   refine Qd [2,3,6] [true,true] ?_
   refine zR ?_
   exact Gv hs1_
  replace hs1_:=Zm c48 hs1_
  exact zEx hs1_
 rcases z49 with z49 | z49
 ·dsimp only [X8] at hw h
  refine Jv hw ?_
  try simp only [Y1,Yc,↓reduceIte,Nat.reduceEqDiff]
  obtain rfl:=sI h
  refine Zg (.inr rfl) hU [(vB false)] (by omega) ?_
  simp only [push_cast,seval,↓reduceIte,Zc,Tryz.results24,hN0,hN]
 dsimp only [X8] at hw h
 refine Yj hw ?_
 try simp only [Y1,Yc,↓reduceIte,Nat.reduceEqDiff]
 refine zDs [2,3] [true,true] ?_
 refine zQd [2,3,7] [2,3,7] [true,true] ?_
 obtain ⟨z64,hz64,h⟩:=bC h
 refine Zaw (J:=(X8 (fun z64=>JR n (⟨164,[],[(4,(vB false))]⟩:Env) (Zw O n [none,none]) (n+2)) (fun z64=>JX 4 n (⟨164,[],[]⟩:Env) (Zw O n [none,none]) (n+2)))) (z:=z64) ?_ fun hw => ?_
 ·refine Y4 hz64 (fun s2_=>⟨164,[],[(2,.ref n 0),(3,.ref (n+1) 0),(7,(vI s2_))]⟩) (fun s2_=>(Zw O n [some ⟨false,30,11,1,(Zi a0)⟩,some ⟨false,30,11,1,(Zi a1)⟩])) (X8 (fun z64=>JR n (⟨164,[],[(4,(vB false))]⟩:Env) (Zw O n [none,none]) (n+2)) (fun z64=>JX 4 n (⟨164,[],[]⟩:Env) (Zw O n [none,none]) (n+2))) ?_
  intro s2_ x2_ hs2_
  unfold Ul at hs2_
  try dsimp only
  refine Ze ?_
  refine zQ [2,3,7,123] ?_
  refine Zo (t:=(decide (s2_ < (a0.Ops.length:Int)))) rfl (fun c63 => ?_) (fun c63 => ?_)
  ·replace hs2_:=Zn c63 hs2_
   refine Qd [2,3,7] [true,true] ?_
   refine Ze ?_
   refine Z9 ?_
   obtain ⟨x50,hx50,ax50,bx50,cx50,hs2_⟩:=bE (f:=Z4) Zps (fun _=>rfl) (by decide) hs2_
   obtain ⟨x51,hx51,ax51,bx51,cx51,hs2_⟩:=bE (f:=Z4) Zps (fun _=>rfl) (by decide) hs2_
   refine Yu (E':=⟨164,[],[(2,.ref n 0),(3,.ref (n+1) 0),(7,(vI s2_)),(8,.ref (n+2) 0),(9,.ref (n+3) 0)]⟩) (O':=(Zw O n [some ⟨false,30,11,1,(Zi a0)⟩,some ⟨false,30,11,1,(Zi a1)⟩,some ⟨false,89,14,1,(Yy x50)⟩,some ⟨false,89,14,1,(Yy x51)⟩])) (n0:=(n+4)) ?_ ?_
   ·refine Z2d Zq (by kernel_rfl) [.low,.low,.low,.low,.low,.low,.low,.low,.low,.low,.pass,.pass,.pass,.pass] (fun i=>i < (n+2)) 10 11 [0,1,2,3,4,5,6,7,8,9] [12,13] [.low,.low,.low,.low,.low,.low,.low,.low,.low,.low] [.pass,.pass,.pass,.pass] [.pass,.pass,.pass,.pass] [] (by kernel_rfl) rfl rfl rfl ?_
    refine zF6 ax50 bx50 cx50 ax51 bx51 cx51 ?_
    repeat (with_reducible refine And.intro (by omega) ?_)
    refine And.intro ?_ ?_
    ·refine zF6 ax50 bx50 cx50 ax51 bx51 cx51 ?_
     repeat (with_reducible refine And.intro (by first | exact Y3 rfl | exact Yp) ?_)
     exact Yje ax50 bx50 cx50 ax51 bx51 cx51
    refine zF6 ax50 bx50 cx50 ax51 bx51 cx51 ?_
    repeat (with_reducible refine And.intro (by first | exact Y3 rfl | exact Yp) ?_)
    refine And.intro rfl ?_
    refine Fit2.trans (E':=(⟨164,[],[(2,.ref n 0),(3,.ref (n+1) 0),(7,(vI s2_)),(8,.ref (n+3) 0),(9,.ref (n+2) 0)]⟩:Env)) (O':=(Zw O n [some ⟨false,30,11,1,(Zi a0)⟩,some ⟨false,30,11,1,(Zi a1)⟩,some ⟨false,89,14,1,(Yy x51)⟩,some ⟨false,89,14,1,(Yy x50)⟩])) (n':=(n+4)) (Fit2.of (Z6 hU rfl rfl ?_) (by omega)) ?_
    ·exact Ykq ax50 bx50 cx50 ax51 bx51 cx51
    refine Jg (k:=4) (k':=4) hU [0,1,3,2] [0,1,3,2] rfl rfl rfl rfl ⟨rfl,rfl⟩ ?_
    exact Gl
   obtain ⟨z54,hz54,hs2_⟩:=bC hs2_
   refine Yu (E':=⟨164,[],[(2,.ref n 0),(3,.ref (n+1) 0),(7,(vI s2_)),(163,(vB z54))]⟩) (O':=(Zw O n [some ⟨false,30,11,1,(Zi a0)⟩,some ⟨false,30,11,1,(Zi a1)⟩,none,none])) (n0:=(n+4)) ?_ ?_
   ·rcases Bool.eq_false_or_eq_true (x50.Kind != x51.Kind) with c59 | c59
    ·replace hz54:=Zn c59 hz54
     refine Q2 [none,none,none,none,none,some false,some false,some false,some false,some false,some false,some false,some false,some false,some false,some false,some false] c59 ?_
     refine zG ?_
     exact Qf hz54 c59
    replace hz54:=Zm c59 hz54
    rcases Bool.eq_false_or_eq_true (x50.N != x51.N) with c60 | c60
    ·replace hz54:=Zn c60 hz54
     try rw [c60] at c59
     refine Xy [none,none,none,none,none,some false,some false,some false,some false,some false,some false,some false,some false,some false,some false,some false,some false] c59 c60 ?_
     refine zG ?_
     exact Zbo hz54 c59 c60
    replace hz54:=Zm c60 hz54
    try rw [c60] at c59
    obtain ⟨y57,hy57,hz54⟩:=bC hz54
    rcases Bool.eq_false_or_eq_true y57 with c61 | c61
    ·replace hz54:=Zn c61 hz54
     try rw [c61] at c59
     try rw [c61] at c60
     obtain ⟨y58,hy58,hz54⟩:=bC hz54
     refine Gu [none,none,none,none,none,some true,some true,some true,some true,some true,some true,some true,some true,some true,some true,some true,some true] c59 c60 c61 ?_
     refine zG ?_
     refine (Zg7 hy57).then ?_
     refine zX3 c59 c60 c61 ?_
     refine zG ?_
     refine (Zji hy58).then ?_
     refine zX3 c59 c60 c61 ?_
     refine zG ?_
     exact Zfk hz54 c59 c60 c61
    replace hz54:=Zm c61 hz54
    try rw [c61] at c59
    try rw [c61] at c60
    refine Gu [none,none,none,none,none,some true,some true,some true,some true,some true,some true,some false,some false,some false,some false,some false,some false] c59 c60 c61 ?_
    refine zG ?_
    refine (Zg7 hy57).then ?_
    refine zX3 c59 c60 c61 ?_
    refine zG ?_
    exact Zfk hz54 c59 c60 c61
   refine Zo (t:=z54) rfl (fun c62 => ?_) (fun c62 => ?_)
   ·replace hs2_:=Zn c62 hs2_
    refine zQ [4] ?_
    refine zW ?_
    exact zEy hs2_
   replace hs2_:=Zm c62 hs2_
   refine Qd [2,3,7] [true,true,false,false] ?_
   refine zR ?_
   exact Gv hs2_
  replace hs2_:=Zm c63 hs2_
  exact zEx hs2_
 rcases z64 with z64 | z64
 ·dsimp only [X8] at hw h
  refine Jv hw ?_
  try simp only [Y1,Yc,↓reduceIte,Nat.reduceEqDiff]
  obtain rfl:=sI h
  refine Zg (.inr rfl) hU [(vB false)] (by omega) ?_
  simp only [push_cast,seval,↓reduceIte,Zc,Tryz.results24,hN0,hN]
 dsimp only [X8] at hw h
 refine Yj hw ?_
 try simp only [Y1,Yc,↓reduceIte,Nat.reduceEqDiff]
 refine zD [] [false,false] ?_
 refine zQ [4] ?_
 refine zW ?_
 obtain rfl:=sI h
 refine Zg (.inr rfl) hU [(vB true)] (by omega) ?_
 simp only [push_cast,seval,↓reduceIte,Zc,Tryz.results24,hN0,hN]
theorem Zog:∀ k,(Zjg (Kx k)):=fun k=>by
 induction k with
 | zero=>exact @fun a0 a1 r O n h=>(nomatch (show (none:Option _)=some _ from h))
 | succ k ih=>exact @fun a0 a1 r O n h=>Zqw (ih)  h
theorem Zku {a0:Zf} {a1:Zf} {r:Bool} {O:Objs} {n:Nat} (h:Zbd a0 a1=some r):GTo Tryz.prog 24 [.agg (Zi a0),.agg (Zi a1)] O n ((vB r)) O n:=by
 obtain ⟨k,hk⟩:=V0 h
 exact (Zog k)  hk
theorem Zl6 {a0:Za} {r:Bool} {O:Objs} {n:Nat} (h:U1 a0=some r):GTo Tryz.prog 4 [.agg (Zd a0)] O n ((vB r)) O n:=by
 unfold U1 at h
 refine K6 Zq Tryz.call4 Tryz.func4 rfl fun hU hN0 hN => ?_
 show W _ _ _ _ ⟨37,[],[(0,.agg (Zd a0))]⟩ (Zw O n []) _
 refine zQ [1] ?_
 refine Ze ?_
 obtain ⟨z3,hz3,h⟩:=bC h
 refine Yu (E':=⟨37,[],[(1,.ref n 0),(14,(vB z3))]⟩) (O':=(Zw O n [some ⟨false,25,3,1,(Zd a0)⟩])) (n0:=(n+1)) ?_ ?_
 ·obtain ⟨y6,hy6,hz3⟩:=bC hz3
  rcases Bool.eq_false_or_eq_true y6 with c8 | c8
  ·replace hz3:=Zn c8 hz3
   obtain ⟨y7,hy7,hz3⟩:=bC hz3
   refine Q2 [some true,some true,some true] c8 ?_
   refine (Zlz hy6).then ?_
   refine zX1 c8 ?_
   refine (Gt hy7).then ?_
   refine zX1 c8 ?_
   exact Qf hz3 c8
  replace hz3:=Zm c8 hz3
  refine Q2 [some false,some false,some false] c8 ?_
  refine (Zlz hy6).then ?_
  refine zX1 c8 ?_
  exact Qf hz3 c8
 refine Zo (t:=z3) rfl (fun c24 => ?_) (fun c24 => ?_)
 ·replace h:=Zn c24 h
  refine Ze ?_
  obtain ⟨y10,hy10,h⟩:=bC h
  refine zCd (Zj1 hy10) [2] [false] ?_
  refine zW ?_
  obtain rfl:=sI h
  refine Zg (.inr rfl) hU [(vB y10)] (by omega) ?_
  simp only [push_cast,seval,↓reduceIte,Zc,Tryz.results4,hN0,hN]
 replace h:=Zm c24 h
 refine Qd [1] [true] ?_
 refine Ze ?_
 obtain ⟨y12,hy12,h⟩:=bC h
 refine zCd (Zq6 hy12) [1,3,4] [true,true] ?_
 refine Ze ?_
 obtain ⟨y14,hy14,h⟩:=bC h
 refine zCd (Zr2 hy14) [3,4,5,6] [false,true,true] ?_
 obtain ⟨z17,hz17,h⟩:=bC h
 refine Yu (E':=⟨37,[],[(2,(vB z17))]⟩) (O':=(Zw O n [none,none,none])) (n0:=(n+3)) ?_ ?_
 ·rcases Bool.eq_false_or_eq_true (y12.2 == y14.2) with c22 | c22
  ·replace hz17:=Zn c22 hz17
   all_goals
    obtain ⟨y20,hy20,hz17⟩:=bC hz17
    rcases Bool.eq_false_or_eq_true y20 with c23 | c23
    ·replace hz17:=Zn c23 hz17
     try rw [c23] at c22
     obtain ⟨y21,hy21,hz17⟩:=bC hz17
     refine Xy [some true,some true,some true,some true] c22 c23 ?_
     refine (Zku hy20).then ?_
     refine zX2 c22 c23 ?_
     refine (Zj1 hy21).then ?_
     refine zX2 c22 c23 ?_
     exact Zbo hz17 c22 c23
    replace hz17:=Zm c23 hz17
    try rw [c23] at c22
    refine Xy [some true,some true,some true,some false] c22 c23 ?_
    refine (Zku hy20).then ?_
    refine zX2 c22 c23 ?_
    exact Zbo hz17 c22 c23
  replace hz17:=Zm c22 hz17
  all_goals
   refine Q2 [some false,some false,some false,some false] c22 ?_
   exact Qf hz17 c22
 refine zW ?_
 obtain rfl:=sI h
 refine Zg (.inr rfl) hU [(vB z17)] (by omega) ?_
 simp only [push_cast,seval,↓reduceIte,Zc,Tryz.results4,hN0,hN]
end Go.Proofs.YtmlcnhambfkjaaaGreat
