/- Part RM4 of this seat's mirrors: functions of the seat's program, and the plain functions that they are; each theorem bears its own conditions. -/
import Derived.Test.YtmlcnhambfkjaaaGreatRE
import Derived.Test.YtmlcnhambfkjaaaGreatRM1
namespace Go.Proofs.YtmlcnhambfkjaaaGreat
open Go.RowKit
set_option linter.unusedVariables false
set_option linter.unusedSimpArgs false
set_option maxRecDepth 100000
set_option maxHeartbeats 4000000
attribute [local push_cast] vI vB nV sL oR Zi Ge Xz Yy Zd Zce Vn Q7 Zu Z2z Z2y Z32 Z31 Y1 Yc Zxq Zrp Zro onW Jd Zig Zgo Zxr Zxs Zvp Zvt Zvo Zvs Zy9 Zy5 Zvr Zy8 Zy7 Zy6 Zvq Zy3 Zsn evS wok Ku Op.operands Call.operands gop onK onP atK List.all_cons List.all_nil Bool.and_true Bool.true_and Bool.and_self Value.oneCell' List.take_zero List.take_succ_cons List.take_nil List.drop_zero List.drop_succ_cons List.drop_nil List.append_nil Nat.add_zero Nat.zero_add Zbx Y6 ev K8 Zut Z2q Z2p Z2v Z2t Z2u Z2r Z2s Z2o Zxo Z02 Z6c Zo2 Zi6 Zn1 Zil Zuw Zl3 Zon Zos Zrj Zrf Zoq Zri Zrh Zrg Zop Zrd Zoo Zor Zm9 Zre Zqm Zrq Zgp Zp7 Zgq Zrn Zoy Z24 bLo bHi bMx Zi7 Zrm Z71 Zox Zq1 Zlt Zeo Z1s Z74 Zp4 Zmp Z79 Zi5 Yci Zxy Zx2 Zxx Zx1 Z3m Z3i Z3g Zuz Zxz Z3l Z3k Z3j Zx0 Z3h Zo0 Zwd Zyo Zsh Zsg pop TK.isAgg Z3v Z3z Z3u Z3y Zyi Z8k Z8g Z3x Z8j Z8i Z8h Z3w Z8f G.under G.unders List.getD_cons_zero List.getD_cons_succ List.set_cons_zero List.set_cons_succ List.map_cons List.map_nil List.toList_toArray Array.toList_append Option.toArray_none Option.toArray_some Array.toList_map Option.map_some Option.map_none Option.bind_some Option.bind_none List.getElem?_cons_zero List.getElem?_cons_succ List.getElem?_nil List.nil_append List.cons_append List.replicate_succ List.replicate_zero List.length_cons List.length_nil and_true true_and and_false false_and Bool.true_eq_false Bool.false_eq_true forall_const false_implies implies_true IntKind.bits if_true if_false ite_true ite_false eq_self true_implies false_or or_false or_true true_or not_true_eq_false not_false_eq_true decide_true decide_false decide_eq_true_eq decide_eq_false_iff_not beq_iff_eq bne_iff_ne ne_eq Bool.not_eq_true Bool.not_eq_false beq_eq_false_iff_ne bne_eq_false_iff_eq beq_self_eq_true bne_self_eq_false Option.some.injEq exists_eq_left' exists_eq_left ge_iff_le gt_iff_lt decide_not Bool.not_true Bool.not_false imp_self Z76 cond_true cond_false Yjo Yjn Bool.not_not Bool.and_false Bool.false_and Bool.or_true Bool.true_or Bool.or_false Bool.false_or Zc1 Zi1 Vt Kh Q5 Qi Option.join_some Nat.add_assoc Int.toNat_natCast eI eB eS eL Gf Zp5 Zoz Z23 Z21 Z22 Ycr Yeb Zqc Zpk Z4c Z4a Z4b Z6x Zrk Z54 Zty Z2h Zik Z2j List.length_append G.agg.injEq G.row.injEq G.ref.injEq G.val.injEq G.sl.injEq G.tup.injEq Value.int.injEq Value.bool.injEq Value.string.injEq List.cons.injEq exists_and_left exists_const List.flatten_cons List.flatten_nil Int.le_refl Nat.le_refl Zif Kq Zb7 Bool.not_eq_true' Bool.not_eq_false' Z5s Zpy Yam Yaq Yal Yap Yf6 Yf0 List.size_toArray Zwo Zyr G.ren G.rens Z1e Zmh Z4h Z2l Z2m Zy4 Yar Zh8 G.fn.injEq Zt7 Z00 Z5r Yf1 Z0z Yao Yf5 Yf4 Yf3 Yan Z8d Ydx Option.join_none Xo Zau undef Zq3 Arr.len Arr.put_eq Zqb Zve Zsd Zpj Z39 Z37 Z38 onB Ycq Z1r Zyy Zun Zwz Zw0 Zw1 Zw2 Zw3 Zw4 Zu6 Zvh Zvf Zsf Zpl Zvg Zyn Zym Zyl Zyk Yea Ygu Z6w Z33 U9 Z6n Zwe Zvi Zse Z8l Zy1 Zow Zqz Zj9 Ztv Zw5 Zw6 Zw7 Zw8 Zt9 Zua Zub Zuc Zud Zue Zuf Zkh prT Zhr Ykh Yad Z4q Yae Yki Yaf Z7h Yag Ykj Yah Ykk Yai Ykl Yaj Ykm Yak Ye1 Z4r Ye2 Z4s Ye3 Z4t Ye4 Z4u Ye5 Z4v Ye6 Z4w Ye7 Z4x Ye8 Z4y Ye9 Z4z Yfa Z40 Yfb Z41 Zv9 Zkc Yfc Zql Yfd Z42 Uc Z43 Yfe Z44 Yff Z45 Yfg Z46 Yfh Z47 Z17 Z48 Yfi Z49 Yfj Z5a Yfk Z5b Yfl Z5c Yfm Zwy Yfn Z5d Yfo Z5e Zbn Z5f Yfp Z5g Yfq Z5h Zt2 Z5i Yfr Z5j Zt3 Z5k Yfs Z5l Zps Z5m Z8v Zzd Z8w Zze Z8x Zzf Z8y Zzg Z8z Zzh Z80 Zzi Z81 Zzj Z82 Zzk Z83 Zzl Z84 Zzm Z85 Zzn Z86 Zzo Z87 Zzp Z88 Zzq Z89 Zzr Z9a Zzs Z9b Zzt Z9c Zzu Z9d Zzv Z9e Zzw Z9f Zzx Z9g Zzy Z9h Zzz Zzb Zt5 Z9i Zz0 Z9j Zz1 Z9k Zz2 Z9l Zz3 Z9m Zz4 Z9n Zz5 Z9o Zz6 Z9p Zz7 Z9q Zz8 Z9r Zz9 Z9s Z0a Z9t Z0b Z9u Z0c Z9v Z0d Z9w Z0e Z9x Z0f Z9y Z0g Z9z Z0h Z90 Z0i Z91 Z0j Z92 Z0k Z93 Z0l Z94 Z0m Z95 Z0n Z96 Z0o Z97 Z0p Z98 Z0q Z99 Z0r Yaa Z0s Yab Z0t Yac Z0u Zb Xe Zsw Zsu Zrw Zsa Zsy Zpw Zpp Zpn Zsq Ziz Ziy Zip Ziu Zi0 Zie Zic Zib Zix Zp Zhm Zr Z4 Jh X0 Jq Zfg Zff Zeq Ze4 Zfj Zee Zec Zeb Zfc Zf5 Zf3 Zft Zfz Zf7 Zfd Ze7 Ze5 Zf1 Zll Zlk Zkn Zk1 Zlm Zjy Zju Zjt Zli Zsv Zst Zrv Zr9 Zsx Zpv Zpo Zpm Zsp Zov Zjo Zmk Zmj Zl4 Zme Zml Zlj Zlb Zla Zmi Zv Zf6 Zf4 Zfu Zf0 Zf8 Zfe Ze8 Ze6 Zf2 Zki Zou Zkj Ys Zeg Zef Zd5 Zd9 Zeh Zde Zdd Zdc Zed Yg Zcv Zcu Zch Zcq Zcw Zbw Zbv Zbu Zct Zvy Zvx Zuy Zvc Zvz Zsr Zsk Zsj Zvv
theorem Z6v {a0:Int} {a1:(List Int)} {r:((List Int)×Bool)} {O:Objs} {n:Nat} (h:Zrz a0 a1=some r):GTo Tryz.prog 285 [(vI a0),(sL (eI .u64) a1)] O n (.tup [(sL (eI .u64) r.1),(vB r.2)]) O n:=by
 unfold Zrz at h
 refine K6 Zq Tryz.call285 Tryz.func285 rfl fun hU hN0 hN => ?_
 show W _ _ _ _ ⟨68,[],[(0,(vI a0)),(1,(sL (eI .u64) a1))]⟩ (Zw O n []) _
 refine zQ [0,1] ?_
 refine Ze ?_
 obtain ⟨y2,hy2,h⟩:=bC h
 refine zCd (Zgg hy2) [0,1,6,7] [] ?_
 refine Ze ?_
 refine zQd [0,1,6,7,19,20,21] [0,1,6,7,19,20,21] [] ?_
 obtain ⟨z8,hz8,h⟩:=bC h
 refine Yj (E':=⟨68,[],[(0,(vI a0)),(1,(sL (eI .u64) a1)),(6,(vI y2.1)),(7,(vB z8))]⟩) (O':=(Zw O n [])) (n0:=n) ?_ ?_
 ·refine Y4 hz8 (fun s0_=>⟨68,[],[(0,(vI a0)),(1,(sL (eI .u64) a1)),(6,(vI y2.1)),(7,(vB s0_.1)),(19,(sL (eI .u64) a1)),(20,(vI (a1.length:Int))),(21,(vI s0_.2))]⟩) (fun s0_=>(Zw O n [])) (fun z8=>JX 0 n (⟨68,[],[(0,(vI a0)),(1,(sL (eI .u64) a1)),(6,(vI y2.1)),(7,(vB z8))]⟩:Env) (Zw O n []) n) ?_
  intro s0_ x0_ hs0_
  unfold Zq4 at hs0_
  try dsimp only
  refine zQ [0,1,6,7,19,20,21,22] ?_
  refine Ze ?_
  refine Zo (t:=(decide (s0_.2 < (a1.length:Int)))) rfl (fun c7 => ?_) (fun c7 => ?_)
  ·replace hs0_:=Zn c7 hs0_
   refine Qd [0,1,6,7,19,20,21] [] ?_
   refine Ze ?_
   refine Z9 ?_
   obtain ⟨x4,hx4,ax4,bx4,cx4,hs0_⟩:=bE (f:=(eI .u64)) Zbn (fun _=>rfl) (by decide) hs0_
   refine Zhc [0,1,6,7,9,19,20,21] (Yt Zq [] ?_)
   refine zF3 ax4 bx4 cx4 ?_
   rcases Bool.eq_false_or_eq_true s0_.1 with c6 | c6
   ·replace hs0_:=Zn c6 hs0_
    obtain ⟨y5,hy5,hs0_⟩:=bC hs0_
    refine Q2 [some true,some true,some true] c6 ?_
    refine (Ztg hy5).then ?_
    refine zX1 c6 ?_
    refine zD [0,1,6,7,19,20,21] [] ?_
    refine zR ?_
    exact Qf hs0_ c6
   replace hs0_:=Zm c6 hs0_
   refine Q2 [some false,some false,some false] c6 ?_
   refine zD [0,1,6,7,19,20,21] [] ?_
   refine zR ?_
   exact Gv hs0_
  replace hs0_:=Zm c7 hs0_
  exact zEx hs0_
 try simp only [Y1,Yc,↓reduceIte,Nat.reduceEqDiff]
 refine zDs [0,1,6,7] [] ?_
 refine zQ [0,1,6,33] ?_
 refine Zo (t:=(!z8)) rfl (fun c26 => ?_) (fun c26 => ?_)
 ·replace h:=Zn c26 h
  refine zQ [4,5] ?_
  refine zW ?_
  obtain rfl:=sI h
  refine Zg (.inr rfl) hU [nV,(vB false)] (by omega) ?_
  simp only [push_cast,seval,↓reduceIte,Zc,Tryz.results285,hN0,hN]
 replace h:=Zm c26 h
 refine Qd [0,1,6] [] ?_
 refine Ze ?_
 obtain ⟨y11,hy11,h⟩:=bC h
 obtain ⟨l12,al12,bl12,cl12,el12,h⟩:=bM2 (c:=8) rfl h
 have nl12:Int.toNat y11=List.length l12:=by rw [el12,List.length_replicate]
 have fl12:(List.replicate (List.length l12) [.val (.int .u64 0)]).flatten=fl (eI .u64) l12:=by rw [← nl12,el12];exact (Zs4 (f:=(eI .u64)) _ _).symm
 clear el12
 refine Yt Zq [] ?_
 simp only [push_cast,seval,↓reduceIte,Zc,al12,bl12,cl12,fl12,nl12,hN0,hN]
 refine (Zth hy11).then ?_
 simp only [push_cast,seval,↓reduceIte,Zc,al12,bl12,cl12,fl12,nl12,hN0,hN]
 refine Ki ⟨68,[],[(1,(sL (eI .u64) a1)),(6,(vI y2.1)),(10,.row n l12.length)]⟩ (Zw O n [some (oR 77 1 (eI .u64) l12)]) (Z6 hU rfl rfl ?_) ?_
 ·simp only [push_cast,seval,↓reduceIte,Zc,al12,bl12,cl12,fl12,nl12,hN0,hN]
 refine Ze ?_
 refine zQ [1,6,10,40] ?_
 refine Zo (t:=(y2.1 == 0)) rfl (fun c25 => ?_) (fun c25 => ?_)
 ·replace h:=Zn c25 h
  refine zQ [4,5] ?_
  refine zW ?_
  obtain rfl:=sI h
  refine Zg (.inr rfl) hU [.row n l12.length,(vB true)] (by omega) ?_
  simp only [push_cast,seval,↓reduceIte,Zc,Tryz.results285,hN0,hN]
 replace h:=Zm c25 h
 refine Qd [1,6,10] [true] ?_
 obtain ⟨pu14,h⟩:=bG h
 refine Zhc [1,6,10,11] (Yt Zq [] ?_)
 simp only [push_cast,seval,↓reduceIte,Zc,pu14,hN0,hN]
 refine Ze ?_
 refine zQd [6,10,11,44,45,46] [6,10,11,44,45,46] [true] ?_
 obtain ⟨z24,hz24,h⟩:=bC h
 refine Yj (E':=⟨68,[],[(10,.row n z24.length)]⟩) (O':=(Zw O n [some (oR 77 1 (eI .u64) z24)])) (n0:=(n+1)) ?_ ?_
 ·refine Y4 hz24 (fun s1_=>⟨68,[],[(6,(vI y2.1)),(10,.row n s1_.2.length),(11,(vI (IntKind.i64.wrap (Int.tdiv 64 y2.1)))),(44,(sL (eI .u64) a1)),(45,(vI (a1.length:Int))),(46,(vI s1_.1))]⟩) (fun s1_=>(Zw O n [some (oR 77 1 (eI .u64) s1_.2)])) (fun z24=>JX 2 n (⟨68,[],[(10,.row n z24.length)]⟩:Env) (Zw O n [some (oR 77 1 (eI .u64) z24)]) (n+1)) ?_
  intro s1_ x1_ hs1_
  unfold Zq5 at hs1_
  try dsimp only
  refine zQ [6,10,11,44,45,46,47] ?_
  refine Ze ?_
  refine Zo (t:=(decide (s1_.1 < (a1.length:Int)))) rfl (fun c23 => ?_) (fun c23 => ?_)
  ·replace hs1_:=Zn c23 hs1_
   refine Qd [6,10,11,44,45,46] [true] ?_
   refine Ze ?_
   refine Z9 ?_
   obtain ⟨x16,hx16,ax16,bx16,cx16,hs1_⟩:=bE (f:=(eI .u64)) Zbn (fun _=>rfl) (by decide) hs1_
   refine Zhc [6,10,11,12,13,44,45,46] (Yt Zq [] ?_)
   refine zF3 ax16 bx16 cx16 ?_
   obtain ⟨pu17,hs1_⟩:=bG hs1_
   obtain ⟨x18,hx18,ax18,bx18,cx18,hs1_⟩:=bE (f:=(eI .u64)) Zbn (fun _=>rfl) (by decide) hs1_
   obtain ⟨pu19,hs1_⟩:=bG hs1_
   obtain ⟨pu20,hs1_⟩:=bG hs1_
   have gu22:Gg (fl (eI .u64) s1_.2) [.val (.int .u64 (IntKind.u64.wrap (Zci .u64 x18 (IntKind.u64.wrap (x16 * 2 ^ min (Int.toNat (IntKind.i64.wrap ((Int.tmod s1_.1 (IntKind.i64.wrap (Int.tdiv 64 y2.1))) * y2.1))) 64)))))] (Int.toNat (IntKind.i64.wrap (Int.tdiv s1_.1 (IntKind.i64.wrap (Int.tdiv 64 y2.1)))) * 1)=some (fl (eI .u64) (Zka s1_.2 (IntKind.i64.wrap (Int.tdiv s1_.1 (IntKind.i64.wrap (Int.tdiv 64 y2.1)))) (IntKind.u64.wrap (Zci .u64 x18 (IntKind.u64.wrap (x16 * 2 ^ min (Int.toNat (IntKind.i64.wrap ((Int.tmod s1_.1 (IntKind.i64.wrap (Int.tdiv 64 y2.1))) * y2.1))) 64)))))):=Zio (f:=(eI .u64)) (ti:=⟨.bool,1,0,[],false⟩) (x:=(IntKind.u64.wrap (Zci .u64 x18 (IntKind.u64.wrap (x16 * 2 ^ min (Int.toNat (IntKind.i64.wrap ((Int.tmod s1_.1 (IntKind.i64.wrap (Int.tdiv 64 y2.1))) * y2.1))) 64))))) (fun _=>rfl) (Zep hx18)
   refine Zgh Zq (by kernel_rfl) [false,false,false,false,false,false,false,false,false,false,false,false,false,false,false,true] [] (by kernel_rfl) ?_
   refine zF7 pu17 ax18 bx18 cx18 pu19 pu20 gu22 ?_
   refine zD [6,10,11,44,45,46] [true] ?_
   refine zR ?_
   exact Gv hs1_
  replace hs1_:=Zm c23 hs1_
  exact zEx hs1_
 try simp only [Y1,Yc,↓reduceIte,Nat.reduceEqDiff]
 refine zD [10] [true] ?_
 refine zQ [4,5] ?_
 refine zW ?_
 obtain rfl:=sI h
 refine Zg (.inr rfl) hU [.row n z24.length,(vB true)] (by omega) ?_
 simp only [push_cast,seval,↓reduceIte,Zc,Tryz.results285,hN0,hN]
theorem Zu8 {a0:Za} {r:(List Int)} {O:Objs} {n:Nat} (h:Zjp a0=some r):GTo Tryz.prog 244 [.agg (Zd a0)] O n ((sL (eI .u64) r)) O n:=by
 unfold Zjp at h
 refine K6 Zq Tryz.call244 Tryz.func244 rfl fun hU hN0 hN => ?_
 show W _ _ _ _ ⟨30,[],[(0,.agg (Zd a0))]⟩ (Zw O n []) _
 refine zQ [1] ?_
 refine zQ [1,3] ?_
 refine Ze ?_
 refine zQd [1,3,9,10,11] [1,3,9,10,11] [true] ?_
 refine G8 (E':=(⟨30,[],[(1,.ref n 0),(3,.row (n+1) ([]:List Int).length),(9,(sL Zb a0.Kids)),(10,(vI (a0.Kids.length:Int))),(11,(vI 0))]⟩:Env)) (O':=(Zw O n [some ⟨false,25,3,1,(Zd a0)⟩,some (oR 77 1 (eI .u64) ([]:List Int)),none])) (n':=(n+3)) ?_ ?_
 ·refine Fit2.trans (E':=(⟨30,[],[(1,.ref n 0),(3,nV),(9,(sL Zb a0.Kids)),(10,(vI (a0.Kids.length:Int))),(11,(vI 0))]⟩:Env)) (O':=(Zw O n [some ⟨false,25,3,1,(Zd a0)⟩])) (n':=(n+1)) (Fit2.of (Z6 hU rfl rfl ?_) (by omega)) ?_
  ·exact Gl
  refine Fit2.trans (Zay 3 77 1 rfl (by omega)) ?_
  simp only [Q5,Qi,Vt,Kh,List.set_cons_zero,List.set_cons_succ,List.cons_append,List.nil_append,List.length_cons,List.length_nil,Nat.zero_add,Nat.reduceAdd,Nat.reduceLT,Nat.add_assoc]
  refine Fit2.trans (E':=(⟨30,[],[(1,.ref n 0),(3,.row (n+1) ([]:List Int).length),(9,(sL Zb a0.Kids)),(10,(vI (a0.Kids.length:Int))),(11,(vI 0))]⟩:Env)) (O':=(Zw O n [some ⟨false,25,3,1,(Zd a0)⟩,some (oR 77 1 (eI .u64) ([]:List Int))])) (n':=(n+2)) (Fit2.of (Z6 hU rfl rfl ?_) (by omega)) ?_
  ·exact Gl
  refine Jg (k:=2) (k':=3) hU [0,1] [0,1,0] rfl rfl rfl rfl ⟨rfl,rfl⟩ ?_
  exact Gl
 obtain ⟨z6,hz6,h⟩:=bC h
 refine Yj (E':=⟨30,[],[(1,.ref n 0),(3,.row (n+1) z6.length)]⟩) (O':=(Zw O n [some ⟨false,25,3,1,(Zd a0)⟩,some (oR 77 1 (eI .u64) z6),none])) (n0:=(n+3)) ?_ ?_
 ·refine Y4 hz6 (fun s0_=>⟨30,[],[(1,.ref n 0),(3,.row (n+1) s0_.2.length),(9,(sL Zb a0.Kids)),(10,(vI (a0.Kids.length:Int))),(11,(vI s0_.1))]⟩) (fun s0_=>(Zw O n [some ⟨false,25,3,1,(Zd a0)⟩,some (oR 77 1 (eI .u64) s0_.2),none])) (fun z6=>JX 0 n (⟨30,[],[(1,.ref n 0),(3,.row (n+1) z6.length)]⟩:Env) (Zw O n [some ⟨false,25,3,1,(Zd a0)⟩,some (oR 77 1 (eI .u64) z6),none]) (n+3)) ?_
  intro s0_ x0_ hs0_
  unfold Zko at hs0_
  try dsimp only
  refine zQ [1,3,9,10,11,12] ?_
  refine Ze ?_
  refine Zo (t:=(decide (s0_.1 < (a0.Kids.length:Int)))) rfl (fun c5 => ?_) (fun c5 => ?_)
  ·replace hs0_:=Zn c5 hs0_
   refine Qd [1,3,9,10,11] [true,true,false] ?_
   refine Ze ?_
   refine Z9 ?_
   refine Ze ?_
   obtain ⟨x2,hx2,ax2,bx2,cx2,hs0_⟩:=bE (f:=Zb) Uc (fun _=>rfl) (by decide) hs0_
   refine Gc [] ax2 bx2 cx2 ?_
   refine zD [1,3,5,9,10,11] [true,true,false,true] ?_
   obtain ⟨y3,hy3,hs0_⟩:=bC hs0_
   obtain ⟨l4,pl4,ql4,el4,hs0_⟩:=bA (k:=1) rfl hs0_
   refine Gu [] pl4 ql4 el4 ?_
   refine (Uh hy3).then ?_
   refine zX3 pl4 ql4 el4 ?_
   refine Ki ⟨30,[],[(1,.ref n 0),(3,.row (n+1) l4.length),(9,(sL Zb a0.Kids)),(10,(vI (a0.Kids.length:Int))),(11,(vI s0_.1))]⟩ (Zw O n [some ⟨false,25,3,1,(Zd a0)⟩,some (oR 77 1 (eI .u64) l4),none,none,none]) (Z6 hU rfl rfl ?_) ?_
   ·exact Zjn pl4 ql4 el4
   refine zR ?_
   exact Gv hs0_
  replace hs0_:=Zm c5 hs0_
  exact zEx hs0_
 try simp only [Y1,Yc,↓reduceIte,Nat.reduceEqDiff]
 refine zD [1,3] [true,true,false] ?_
 refine Ki ⟨30,[],[(1,.ref n 0),(3,(sL (eI .u64) z6))]⟩ (Zw O n [some ⟨false,25,3,1,(Zd a0)⟩,none,none]) (Z6 hU rfl rfl ?_) ?_
 ·exact Gl
 refine Ze ?_
 obtain ⟨y8,hy8,h⟩:=bC h
 refine zCd (Z6v hy8) [6] [false,false,false] ?_
 refine zQ [2] ?_
 refine zW ?_
 obtain rfl:=sI h
 refine Zg (.inr rfl) hU [(sL (eI .u64) y8.1)] (by omega) ?_
 simp only [push_cast,seval,↓reduceIte,Zc,Tryz.results244,hN0,hN]
def Vg (Yk:(Zh→Int→Za→Option Zh)):Prop:=∀ {a0:Zh} {a1:Int} {a2:Za} {r:Zh} {O:Objs} {n:Nat} {i0 j0_0:Nat},i0 < n→j0_0 < n→i0≠j0_0→O i0=some ⟨false,140,2,1,[.row j0_0 a0.words.length,(vI a0.next)]⟩→O j0_0=some (oR 77 1 (eI .u64) a0.words)→Yk a0 a1 a2=some r→GTo Tryz.prog 116 [.ref i0 0,(vI a1),.agg (Zd a2)] O n (.tup []) (Zw ((O.upd j0_0 none).upd i0 (some ⟨false,140,2,1,[.row n r.words.length,(vI r.next)]⟩)) n [some (oR 77 1 (eI .u64) r.words)]) (n+1)
def Kk (Yh:(Zh→Int→Za→Option Zh)):Prop:=∀ {a0:Zh} {a1:Int} {a2:Za} {r:Zh} {O:Objs} {n:Nat} {i0 j0_0:Nat},i0 < n→j0_0 < n→i0≠j0_0→O i0=some ⟨false,140,2,1,[.row j0_0 a0.words.length,(vI a0.next)]⟩→O j0_0=some (oR 77 1 (eI .u64) a0.words)→Yh a0 a1 a2=some r→GTo Tryz.prog 179 [.ref i0 0,(vI a1),.agg (Zd a2)] O n (.tup []) (Zw ((O.upd j0_0 none).upd i0 (some ⟨false,140,2,1,[.row n r.words.length,(vI r.next)]⟩)) n [some (oR 77 1 (eI .u64) r.words)]) (n+1)
def Jw (Z8:(Zh→Int→(List Za)→Option Zh)):Prop:=∀ {a0:Zh} {a1:Int} {a2:(List Za)} {r:Zh} {O:Objs} {n:Nat} {i0 j0_0:Nat},i0 < n→j0_0 < n→i0≠j0_0→O i0=some ⟨false,140,2,1,[.row j0_0 a0.words.length,(vI a0.next)]⟩→O j0_0=some (oR 77 1 (eI .u64) a0.words)→Z8 a0 a1 a2=some r→GTo Tryz.prog 242 [.ref i0 0,(vI a1),(sL Zb a2)] O n (.tup []) (Zw ((O.upd j0_0 none).upd i0 (some ⟨false,140,2,1,[.row n r.words.length,(vI r.next)]⟩)) n [some (oR 77 1 (eI .u64) r.words)]) (n+1)
def Kl (Yi:(Zh→Int→Za→Option Zh)):Prop:=∀ {a0:Zh} {a1:Int} {a2:Za} {r:Zh} {O:Objs} {n:Nat} {i0 j0_0:Nat},i0 < n→j0_0 < n→i0≠j0_0→O i0=some ⟨false,140,2,1,[.row j0_0 a0.words.length,(vI a0.next)]⟩→O j0_0=some (oR 77 1 (eI .u64) a0.words)→Yi a0 a1 a2=some r→GTo Tryz.prog 243 [.ref i0 0,(vI a1),.agg (Zd a2)] O n (.tup []) (Zw ((O.upd j0_0 none).upd i0 (some ⟨false,140,2,1,[.row n r.words.length,(vI r.next)]⟩)) n [some (oR 77 1 (eI .u64) r.words)]) (n+1)
theorem Zol {Yk:(Zh→Int→Za→Option Zh)} {Yh:(Zh→Int→Za→Option Zh)} {Z8:(Zh→Int→(List Za)→Option Zh)} {Yi:(Zh→Int→Za→Option Zh)} (Gy:Vg Yk) (Uf:Kk Yh) (Jc:Jw Z8) (Ug:Kl Yi) {a0:Zh} {a1:Int} {a2:Za} {r:Zh} {O:Objs} {n:Nat} {i0 j0_0:Nat} (hi0:i0 < n) (Zdm:j0_0 < n) (Gh:i0≠j0_0) (ho0:O i0=some ⟨false,140,2,1,[.row j0_0 a0.words.length,(vI a0.next)]⟩) (Zbr:O j0_0=some (oR 77 1 (eI .u64) a0.words)) (h:Gm Yk Yh Z8 Yi a0 a1 a2=some r):GTo Tryz.prog 116 [.ref i0 0,(vI a1),.agg (Zd a2)] O n (.tup []) (Zw ((O.upd j0_0 none).upd i0 (some ⟨false,140,2,1,[.row n r.words.length,(vI r.next)]⟩)) n [some (oR 77 1 (eI .u64) r.words)]) (n+1):=by
 unfold Gm at h
 refine Zq0 Zq Tryz.call116 Tryz.func116 rfl (Nat.le_of_ble_eq_true rfl) (by omega) fun hU => ?_
 have e0:=Zt4 (ba:=n) (E:=⟨60,[],Zut 0 [.ref i0 0,.val (.int .i64 a1),.agg [.val (.int .i64 a2.Kind),.sl a2.Words.length (fl (eI .u64) a2.Words),.sl a2.Kids.length (fl Zb a2.Kids)]]⟩) (O:=(Zw O n [])) (n:=n) (i:=i0) (j:=j0_0) (k:=0) (len:=a0.words.length) (q:=⟨false,140,2,1,[.row j0_0 a0.words.length,.val (.int .i64 a0.next)]⟩) (qj:=⟨true,77,1,a0.words.length,fl (eI .u64) a0.words⟩) (by rw [Kq _ hi0];first | exact ho0 | exact Xo _ _ _) rfl (by rw [Kq _ Zdm];exact Zbr) Gh (by omega)
 simp only [Zb7 _ _ Zdm,Zb7 _ _ hi0,Q5,Qi,Zif,Z5p Gh,List.set_cons_zero,List.set_cons_succ,List.cons_append,List.nil_append,List.length_cons,List.length_nil,Nat.zero_add,Nat.reduceAdd,Nat.add_assoc] at e0
 refine G8 e0 ?_
 have hU:=(Und.drop hU j0_0)
 have hk0:∀ k,i0 < n+k:=fun k=>by omega
 have hN0:∀ o,Objs.upd (O.upd j0_0 none) i0 o n=none:=fun o=>Vm hU hi0 _ (Nat.le_refl _)
 have hN:∀ o k,Objs.upd (O.upd j0_0 none) i0 o (n+k)=none:=fun o k=>Vm hU hi0 _ (Nat.le_add_right _ _)
 show W _ _ _ _ ⟨60,[],[(0,.ref i0 0),(1,(vI a1)),(2,.agg (Zd a2))]⟩ (Zw ((O.upd j0_0 none).upd i0 (some ⟨false,140,2,1,[.row n a0.words.length,(vI a0.next)]⟩)) n [some (oR 77 1 (eI .u64) a0.words)]) _
 refine Zax [0,1,5] hi0 hk0 ?_
 refine Ze ?_
 refine Zax [0,1,5,12] hi0 hk0 ?_
 refine Zo (t:=(a2.Kind == 0)) rfl (fun Qk => ?_) (fun Qk => ?_)
 ·replace h:=Zn Qk h
  refine zW ?_
  obtain rfl:=sI h
  refine Vc (k:=1) (i:=i0) (q1:=⟨false,140,2,1,[.row n a0.words.length,(vI a0.next)]⟩) (L3:=[some (oR 77 1 (eI .u64) a0.words),none]) (E2:=(⟨60,[],[]⟩:Env)) (n3:=(n+2)) (.inr rfl) hU rfl [] ?_ ?_
  ·refine Fit2.trans (E':=(⟨60,[],[]⟩:Env)) (O':=(Zw ((O.upd j0_0 none).upd i0 (some ⟨false,140,2,1,[.row n a0.words.length,(vI a0.next)]⟩)) n [some (oR 77 1 (eI .u64) a0.words),none])) (n':=(n+2)) (Fit2.of (Yq hU rfl rfl ?_) (by omega)) ?_
   ·exact Q4 hi0 hk0
   refine Jf (k:=2) (k':=2) hU [0,1] [0,0] rfl rfl rfl rfl ⟨rfl,rfl⟩ ?_
   exact Q4 hi0 hk0
  simp only [push_cast,seval,↓reduceIte,Zc,Tryz.results116,hi0,hk0,hN0,hN]
 replace h:=Zm Qk h
 refine Qd [0,1,5] [true,true] ?_
 refine Ze ?_
 obtain ⟨y2,hy2,h⟩:=bC h
 refine Xy [] hi0 hk0 ?_
 refine (Zx8 hy2).then ?_
 refine zX2 hi0 hk0 ?_
 refine zD [0,1,5,6] [true,true,true] ?_
 refine Zax [0,1,5,6,7] hi0 hk0 ?_
 refine Ze ?_
 obtain ⟨y4,hy4,h⟩:=bC h
 refine Xy [] hi0 hk0 ?_
 refine (Zmv hy4).then ?_
 refine zX2 hi0 hk0 ?_
 refine zDs [0,1,5,6,7,8] [true,true,true] ?_
 refine Xy [] hi0 hk0 ?_
 refine zD [0,1,5,6,7,8] [true,true,true] ?_
 obtain ⟨z5,hz5,h⟩:=bC h
 refine Yu (E':=⟨60,[],[(0,.ref i0 0),(1,(vI a1)),(5,.ref (n+1) 0),(6,.ref (n+2) 0),(7,(vI a0.next)),(8,(vI y4.1))]⟩) (O':=(Zw ((O.upd j0_0 none).upd i0 (some ⟨false,140,2,1,[.row n a0.words.length,(vI a0.next)]⟩)) n [some (oR 77 1 (eI .u64) a0.words),some ⟨false,25,3,1,(Zd a2)⟩,some ⟨false,191,8,1,[(vI y2.Kind),(vI z5),(vI y2.Data),(vI y2.Ptrs),(vI y2.Code),(vI y2.Count),(vI y2.Segment),(vB y2.Double)]⟩])) (n0:=(n+3)) ?_ ?_
 ·refine Zhc [0,1,5,6,7,8,35] (Yt Zq [none,none] ?_)
  refine zX2 hi0 hk0 ?_
  refine zG ?_
  refine Zo (t:=(cond (y2.Kind == 1) (y4.1 == 0) false)) rfl (fun c6 => ?_) (fun c6 => ?_)
  ·replace hz5:=Zn c6 hz5
   refine Xy [] hi0 hk0 ?_
   obtain rfl:=sI hz5
   refine And.intro rfl (Fit2.of (Yq hU rfl rfl ?_) (by omega))
   exact Q4 hi0 hk0
  replace hz5:=Zm c6 hz5
  refine zK ?_
  obtain rfl:=sI hz5
  refine And.intro rfl (Fit2.of (Yq hU rfl rfl ?_) (by omega))
  exact Q4 hi0 hk0
 refine Ze ?_
 obtain ⟨y10,hy10,h⟩:=bC h
 obtain ⟨x11,hx11,ax11,bx11,cx11,h⟩:=bE (f:=(eI .u64)) Zbn (fun _=>rfl) (by decide) h
 have gu12:Gg (fl (eI .u64) a0.words) [.val (.int .u64 y10.1)] (Int.toNat a1 * 1)=some (fl (eI .u64) (Zka a0.words a1 y10.1)):=Zio (f:=(eI .u64)) (ti:=⟨.bool,1,0,[],false⟩) (x:=y10.1) (fun _=>rfl) (Zep hx11)
 refine Zgh Zq (by kernel_rfl) [false,false,false,false,false,false,false,false,false,false,false,true] [] (by kernel_rfl) ?_
 refine zF6 ax11 bx11 cx11 gu12 hi0 hk0 ?_
 refine PCall.of (Zq8 hy10) ?_
 refine zF6 ax11 bx11 cx11 gu12 hi0 hk0 ?_
 refine zDs [0,5,7,8] [true,true,false] ?_
 refine Xy [] hi0 hk0 ?_
 refine zD [0,5,7] [true,true,false] ?_
 obtain ⟨y13,hy13,h⟩:=bC h
 refine Xy [] hi0 hk0 ?_
 refine (Uf (i0:=i0) (j0_0:=n) (by omega) (by omega) (by omega) (by simp only [push_cast,seval,↓reduceIte,Zc,Gf,hi0,hk0,hN0,hN] <;> rfl) (by simp only [push_cast,seval,↓reduceIte,Zc,Gf,hi0,hk0,hN0,hN] <;> rfl) hy13).then ?_
 refine zX2 hi0 hk0 ?_
 obtain rfl:=sI h
 refine Vc (k:=1) (i:=i0) (q1:=⟨false,140,2,1,[.row n y13.words.length,(vI y13.next)]⟩) (L3:=[some (oR 77 1 (eI .u64) y13.words),none]) (E2:=(⟨60,[],[]⟩:Env)) (n3:=(n+2)) (.inl rfl) hU rfl [] ?_ ?_
 ·refine Fit2.trans (E':=(⟨60,[],[]⟩:Env)) (O':=(Zw ((O.upd j0_0 none).upd i0 (some ⟨false,140,2,1,[.row (n+3) y13.words.length,(vI y13.next)]⟩)) n [none,none,none,some (oR 77 1 (eI .u64) y13.words)])) (n':=(n+4)) (Fit2.of (Yq hU rfl rfl ?_) (by omega)) ?_
  ·exact Q4 hi0 hk0
  refine Jf (k:=4) (k':=2) hU [1,1,1,0] [3,0] rfl rfl rfl rfl ⟨rfl,rfl⟩ ?_
  exact Q4 hi0 hk0
 simp only [push_cast,seval,↓reduceIte,Zc,Tryz.results116,hi0,hk0,hN0,hN]
theorem Zmx {Yk:(Zh→Int→Za→Option Zh)} {Yh:(Zh→Int→Za→Option Zh)} {Z8:(Zh→Int→(List Za)→Option Zh)} {Yi:(Zh→Int→Za→Option Zh)} (Gy:Vg Yk) (Uf:Kk Yh) (Jc:Jw Z8) (Ug:Kl Yi) {a0:Zh} {a1:Int} {a2:Za} {r:Zh} {O:Objs} {n:Nat} {i0 j0_0:Nat} (hi0:i0 < n) (Zdm:j0_0 < n) (Gh:i0≠j0_0) (ho0:O i0=some ⟨false,140,2,1,[.row j0_0 a0.words.length,(vI a0.next)]⟩) (Zbr:O j0_0=some (oR 77 1 (eI .u64) a0.words)) (h:Vx Yk Yh Z8 Yi a0 a1 a2=some r):GTo Tryz.prog 179 [.ref i0 0,(vI a1),.agg (Zd a2)] O n (.tup []) (Zw ((O.upd j0_0 none).upd i0 (some ⟨false,140,2,1,[.row n r.words.length,(vI r.next)]⟩)) n [some (oR 77 1 (eI .u64) r.words)]) (n+1):=by
 unfold Vx at h
 refine Zq0 Zq Tryz.call179 Tryz.func179 rfl (Nat.le_of_ble_eq_true rfl) (by omega) fun hU => ?_
 have e0:=Zt4 (ba:=n) (E:=⟨47,[],Zut 0 [.ref i0 0,.val (.int .i64 a1),.agg [.val (.int .i64 a2.Kind),.sl a2.Words.length (fl (eI .u64) a2.Words),.sl a2.Kids.length (fl Zb a2.Kids)]]⟩) (O:=(Zw O n [])) (n:=n) (i:=i0) (j:=j0_0) (k:=0) (len:=a0.words.length) (q:=⟨false,140,2,1,[.row j0_0 a0.words.length,.val (.int .i64 a0.next)]⟩) (qj:=⟨true,77,1,a0.words.length,fl (eI .u64) a0.words⟩) (by rw [Kq _ hi0];first | exact ho0 | exact Xo _ _ _) rfl (by rw [Kq _ Zdm];exact Zbr) Gh (by omega)
 simp only [Zb7 _ _ Zdm,Zb7 _ _ hi0,Q5,Qi,Zif,Z5p Gh,List.set_cons_zero,List.set_cons_succ,List.cons_append,List.nil_append,List.length_cons,List.length_nil,Nat.zero_add,Nat.reduceAdd,Nat.add_assoc] at e0
 refine G8 e0 ?_
 have hU:=(Und.drop hU j0_0)
 have hk0:∀ k,i0 < n+k:=fun k=>by omega
 have hN0:∀ o,Objs.upd (O.upd j0_0 none) i0 o n=none:=fun o=>Vm hU hi0 _ (Nat.le_refl _)
 have hN:∀ o k,Objs.upd (O.upd j0_0 none) i0 o (n+k)=none:=fun o k=>Vm hU hi0 _ (Nat.le_add_right _ _)
 show W _ _ _ _ ⟨47,[],[(0,.ref i0 0),(1,(vI a1)),(2,.agg (Zd a2))]⟩ (Zw ((O.upd j0_0 none).upd i0 (some ⟨false,140,2,1,[.row n a0.words.length,(vI a0.next)]⟩)) n [some (oR 77 1 (eI .u64) a0.words)]) _
 refine Zax [0,1,5] hi0 hk0 ?_
 refine Zax [0,1,5,7] hi0 hk0 ?_
 refine Z9 ?_
 refine Zax [0,1,5,7,17] hi0 hk0 ?_
 refine Zo (t:=(a2.Kind == 1)) rfl (fun c11 => ?_) (fun c11 => ?_)
 ·replace h:=Zn c11 h
  obtain ⟨pu1,h⟩:=bG h
  have su1:=fun j=>Znc (T:=X1) (j:=j) Zkc Zbn pu1
  have g2:=Znb (f:=(eI .u64)) a0.words a2.Words a1 (fun _=>rfl) pu1.2.1 pu1.2.2
  have mg2:=Nat.mul_one (List.length a2.Words)
  obtain ⟨y3,hy3,h⟩:=bC h
  refine Zhb Zq (by kernel_rfl) [.plain,.plain,.plain,.plain,.plain,.plain,.plain,.plain,.plain,.plain,.pass,.plain,.low,.low,.bar] (fun i=>i < (n+2)∧¬ i=n) [0,1,2,3,4,5,6,7,8,9,12,13,10,11,14] [.plain,.plain,.plain,.plain,.plain,.plain,.plain,.plain,.plain,.plain,.low,.low,.pass,.plain,.bar] [] (by kernel_rfl) rfl ?_
  simp only [push_cast,seval,↓reduceIte,Zc,pu1.1,pu1.2.1,pu1.2.2,su1,g2,mg2,hi0,hk0,hN0,hN]
  refine zO ?_
  refine (Jc (i0:=i0) (j0_0:=n) (by omega) (by omega) (by omega) (by simp only [push_cast,seval,↓reduceIte,Zc,Gf,pu1.1,pu1.2.1,pu1.2.2,su1,g2,mg2,hi0,hk0,hN0,hN] <;> rfl) (by simp only [push_cast,seval,↓reduceIte,Zc,Gf,pu1.1,pu1.2.1,pu1.2.2,su1,g2,mg2,hi0,hk0,hN0,hN] <;> rfl) hy3).then ?_
  simp only [push_cast,seval,↓reduceIte,Zc,pu1.1,pu1.2.1,pu1.2.2,su1,g2,mg2,hi0,hk0,hN0,hN]
  refine zO ?_
  obtain rfl:=sI h
  refine Vc (k:=1) (i:=i0) (q1:=⟨false,140,2,1,[.row n y3.words.length,(vI y3.next)]⟩) (L3:=[some (oR 77 1 (eI .u64) y3.words),none]) (E2:=(⟨47,[],[]⟩:Env)) (n3:=(n+2)) (.inl rfl) hU rfl [] ?_ ?_
  ·refine Fit2.trans (E':=(⟨47,[],[]⟩:Env)) (O':=(Zw ((O.upd j0_0 none).upd i0 (some ⟨false,140,2,1,[.row (n+2) y3.words.length,(vI y3.next)]⟩)) n [none,none,some (oR 77 1 (eI .u64) y3.words)])) (n':=(n+3)) (Fit2.of (Yq hU rfl rfl ?_) (by omega)) ?_
   ·simp only [push_cast,seval,↓reduceIte,Zc,pu1.1,pu1.2.1,pu1.2.2,su1,g2,mg2,hi0,hk0,hN0,hN]
   refine Jf (k:=3) (k':=2) hU [1,1,0] [2,0] rfl rfl rfl rfl ⟨rfl,rfl⟩ ?_
   exact Q4 hi0 hk0
  simp only [push_cast,seval,↓reduceIte,Zc,Tryz.results179,hi0,hk0,hN0,hN]
 replace h:=Zm c11 h
 refine Zax [0,1,5,7,34] hi0 hk0 ?_
 refine Zo (t:=(a2.Kind == 8)) rfl (fun c10 => ?_) (fun c10 => ?_)
 ·replace h:=Zn c10 h
  obtain ⟨y4,hy4,h⟩:=bC h
  refine Xy [] hi0 hk0 ?_
  refine (Jc (i0:=i0) (j0_0:=n) (by omega) (by omega) (by omega) (by simp only [push_cast,seval,↓reduceIte,Zc,Gf,hi0,hk0,hN0,hN] <;> rfl) (by simp only [push_cast,seval,↓reduceIte,Zc,Gf,hi0,hk0,hN0,hN] <;> rfl) hy4).then ?_
  refine zX2 hi0 hk0 ?_
  obtain rfl:=sI h
  refine Vc (k:=1) (i:=i0) (q1:=⟨false,140,2,1,[.row n y4.words.length,(vI y4.next)]⟩) (L3:=[some (oR 77 1 (eI .u64) y4.words),none]) (E2:=(⟨47,[],[]⟩:Env)) (n3:=(n+2)) (.inl rfl) hU rfl [] ?_ ?_
  ·refine Fit2.trans (E':=(⟨47,[],[]⟩:Env)) (O':=(Zw ((O.upd j0_0 none).upd i0 (some ⟨false,140,2,1,[.row (n+2) y4.words.length,(vI y4.next)]⟩)) n [none,none,some (oR 77 1 (eI .u64) y4.words)])) (n':=(n+3)) (Fit2.of (Yq hU rfl rfl ?_) (by omega)) ?_
   ·exact Q4 hi0 hk0
   refine Jf (k:=3) (k':=2) hU [1,1,0] [2,0] rfl rfl rfl rfl ⟨rfl,rfl⟩ ?_
   exact Q4 hi0 hk0
  simp only [push_cast,seval,↓reduceIte,Zc,Tryz.results179,hi0,hk0,hN0,hN]
 replace h:=Zm c10 h
 refine Zax [0,1,5,41] hi0 hk0 ?_
 refine Zo (t:=(a2.Kind == 9)) rfl (fun c9 => ?_) (fun c9 => ?_)
 ·replace h:=Zn c9 h
  obtain ⟨y5,hy5,h⟩:=bC h
  refine Xy [] hi0 hk0 ?_
  refine (Ug (i0:=i0) (j0_0:=n) (by omega) (by omega) (by omega) (by simp only [push_cast,seval,↓reduceIte,Zc,Gf,hi0,hk0,hN0,hN] <;> rfl) (by simp only [push_cast,seval,↓reduceIte,Zc,Gf,hi0,hk0,hN0,hN] <;> rfl) hy5).then ?_
  refine zX2 hi0 hk0 ?_
  obtain rfl:=sI h
  refine Vc (k:=1) (i:=i0) (q1:=⟨false,140,2,1,[.row n y5.words.length,(vI y5.next)]⟩) (L3:=[some (oR 77 1 (eI .u64) y5.words),none]) (E2:=(⟨47,[],[]⟩:Env)) (n3:=(n+2)) (.inl rfl) hU rfl [] ?_ ?_
  ·refine Fit2.trans (E':=(⟨47,[],[]⟩:Env)) (O':=(Zw ((O.upd j0_0 none).upd i0 (some ⟨false,140,2,1,[.row (n+2) y5.words.length,(vI y5.next)]⟩)) n [none,none,some (oR 77 1 (eI .u64) y5.words)])) (n':=(n+3)) (Fit2.of (Yq hU rfl rfl ?_) (by omega)) ?_
   ·exact Q4 hi0 hk0
   refine Jf (k:=3) (k':=2) hU [1,1,0] [2,0] rfl rfl rfl rfl ⟨rfl,rfl⟩ ?_
   exact Q4 hi0 hk0
  simp only [push_cast,seval,↓reduceIte,Zc,Tryz.results179,hi0,hk0,hN0,hN]
 replace h:=Zm c9 h
 obtain ⟨pu6,h⟩:=bG h
 have su6:=fun j=>Znc (T:=X1) (j:=j) Zkc Zbn pu6
 obtain ⟨y7,hy7,h⟩:=bC h
 have g8:=Znb (f:=(eI .u64)) a0.words y7 a1 (fun _=>rfl) pu6.2.1 pu6.2.2
 have mg8:=Nat.mul_one (List.length y7)
 refine Zgh Zq (by kernel_rfl) [false,false,false,false,false,false,false,false,true] [] (by kernel_rfl) ?_
 simp only [push_cast,seval,↓reduceIte,Zc,pu6.1,pu6.2.1,pu6.2.2,su6,g8,mg8,hi0,hk0,hN0,hN]
 refine PCall.of (Zu8 hy7) ?_
 simp only [push_cast,seval,↓reduceIte,Zc,pu6.1,pu6.2.1,pu6.2.2,su6,g8,mg8,hi0,hk0,hN0,hN]
 obtain rfl:=sI h
 refine Vc (k:=1) (i:=i0) (q1:=⟨false,140,2,1,[.row n (Zot a0.words a1 y7).length,(vI a0.next)]⟩) (L3:=[some (oR 77 1 (eI .u64) (Zot a0.words a1 y7)),none]) (E2:=(⟨47,[],[]⟩:Env)) (n3:=(n+2)) (.inl rfl) hU rfl [] ?_ ?_
 ·refine Fit2.trans (E':=(⟨47,[],[]⟩:Env)) (O':=(Zw ((O.upd j0_0 none).upd i0 (some ⟨false,140,2,1,[.row n (Zot a0.words a1 y7).length,(vI a0.next)]⟩)) n [some (oR 77 1 (eI .u64) (Zot a0.words a1 y7)),none])) (n':=(n+2)) (Fit2.of (Yq hU rfl rfl ?_) (by omega)) ?_
  ·simp only [push_cast,seval,↓reduceIte,Zc,pu6.1,pu6.2.1,pu6.2.2,su6,g8,mg8,hi0,hk0,hN0,hN]
  refine Jf (k:=2) (k':=2) hU [0,1] [0,0] rfl rfl rfl rfl ⟨rfl,rfl⟩ ?_
  exact Q4 hi0 hk0
 simp only [push_cast,seval,↓reduceIte,Zc,Tryz.results179,hi0,hk0,hN0,hN]
theorem Zmd {Yk:(Zh→Int→Za→Option Zh)} {Yh:(Zh→Int→Za→Option Zh)} {Z8:(Zh→Int→(List Za)→Option Zh)} {Yi:(Zh→Int→Za→Option Zh)} (Gy:Vg Yk) (Uf:Kk Yh) (Jc:Jw Z8) (Ug:Kl Yi) {a0:Zh} {a1:Int} {a2:(List Za)} {r:Zh} {O:Objs} {n:Nat} {i0 j0_0:Nat} (hi0:i0 < n) (Zdm:j0_0 < n) (Gh:i0≠j0_0) (ho0:O i0=some ⟨false,140,2,1,[.row j0_0 a0.words.length,(vI a0.next)]⟩) (Zbr:O j0_0=some (oR 77 1 (eI .u64) a0.words)) (h:Vb Yk Yh Z8 Yi a0 a1 a2=some r):GTo Tryz.prog 242 [.ref i0 0,(vI a1),(sL Zb a2)] O n (.tup []) (Zw ((O.upd j0_0 none).upd i0 (some ⟨false,140,2,1,[.row n r.words.length,(vI r.next)]⟩)) n [some (oR 77 1 (eI .u64) r.words)]) (n+1):=by
 unfold Vb at h
 refine Zq0 Zq Tryz.call242 Tryz.func242 rfl (Nat.le_of_ble_eq_true rfl) (by omega) fun hU => ?_
 have e0:=Zt4 (ba:=n) (E:=⟨22,[],Zut 0 [.ref i0 0,.val (.int .i64 a1),.sl a2.length (fl Zb a2)]⟩) (O:=(Zw O n [])) (n:=n) (i:=i0) (j:=j0_0) (k:=0) (len:=a0.words.length) (q:=⟨false,140,2,1,[.row j0_0 a0.words.length,.val (.int .i64 a0.next)]⟩) (qj:=⟨true,77,1,a0.words.length,fl (eI .u64) a0.words⟩) (by rw [Kq _ hi0];first | exact ho0 | exact Xo _ _ _) rfl (by rw [Kq _ Zdm];exact Zbr) Gh (by omega)
 simp only [Zb7 _ _ Zdm,Zb7 _ _ hi0,Q5,Qi,Zif,Z5p Gh,List.set_cons_zero,List.set_cons_succ,List.cons_append,List.nil_append,List.length_cons,List.length_nil,Nat.zero_add,Nat.reduceAdd,Nat.add_assoc] at e0
 refine G8 e0 ?_
 have hU:=(Und.drop hU j0_0)
 have hk0:∀ k,i0 < n+k:=fun k=>by omega
 have hN0:∀ o,Objs.upd (O.upd j0_0 none) i0 o n=none:=fun o=>Vm hU hi0 _ (Nat.le_refl _)
 have hN:∀ o k,Objs.upd (O.upd j0_0 none) i0 o (n+k)=none:=fun o k=>Vm hU hi0 _ (Nat.le_add_right _ _)
 show W _ _ _ _ ⟨22,[],[(0,.ref i0 0),(1,(vI a1)),(2,(sL Zb a2))]⟩ (Zw ((O.upd j0_0 none).upd i0 (some ⟨false,140,2,1,[.row n a0.words.length,(vI a0.next)]⟩)) n [some (oR 77 1 (eI .u64) a0.words)]) _
 refine Zax [0,1,8,9,10] hi0 hk0 ?_
 refine zD [0,1,8,9,10] [true] ?_
 refine G8 (E':=(⟨22,[],[(0,.ref i0 0),(1,(vI a1)),(8,(sL Zb a2)),(9,(vI (a2.length:Int))),(10,(vI 0))]⟩:Env)) (O':=(Zw ((O.upd j0_0 none).upd i0 (some ⟨false,140,2,1,[.row (n+1) a0.words.length,(vI a0.next)]⟩)) n [none,some (oR 77 1 (eI .u64) a0.words)])) (n':=(n+2)) ?_ ?_
 ·refine Fit2.trans (E':=(⟨22,[],[(0,.ref i0 0),(1,(vI a1)),(8,(sL Zb a2)),(9,(vI (a2.length:Int))),(10,(vI 0))]⟩:Env)) (O':=(Zw ((O.upd j0_0 none).upd i0 (some ⟨false,140,2,1,[.row n a0.words.length,(vI a0.next)]⟩)) n [some (oR 77 1 (eI .u64) a0.words)])) (n':=(n+1)) (Fit2.of (Yq hU rfl rfl ?_) (by omega)) ?_
  ·exact Q4 hi0 hk0
  refine Jf (k:=1) (k':=2) hU [1] [0,0] rfl rfl rfl rfl ⟨rfl,rfl⟩ ?_
  exact Q4 hi0 hk0
 obtain ⟨z5,hz5,h⟩:=bC h
 refine Yj (E':=⟨22,[],[]⟩) (O':=(Zw ((O.upd j0_0 none).upd i0 (some ⟨false,140,2,1,[.row (n+1) z5.1.length,(vI z5.2)]⟩)) n [none,some (oR 77 1 (eI .u64) z5.1)])) (n0:=(n+2)) ?_ ?_
 ·refine Y4 hz5 (fun s0_=>⟨22,[],[(0,.ref i0 0),(1,(vI a1)),(8,(sL Zb a2)),(9,(vI (a2.length:Int))),(10,(vI s0_.1))]⟩) (fun s0_=>(Zw ((O.upd j0_0 none).upd i0 (some ⟨false,140,2,1,[.row (n+1) s0_.2.1.length,(vI s0_.2.2)]⟩)) n [none,some (oR 77 1 (eI .u64) s0_.2.1)])) (fun z5=>JX 0 n (⟨22,[],[]⟩:Env) (Zw ((O.upd j0_0 none).upd i0 (some ⟨false,140,2,1,[.row (n+1) z5.1.length,(vI z5.2)]⟩)) n [none,some (oR 77 1 (eI .u64) z5.1)]) (n+2)) ?_
  intro s0_ x0_ hs0_
  unfold Zfr at hs0_
  try dsimp only
  refine Zax [0,1,8,9,10,11] hi0 hk0 ?_
  refine Ze ?_
  refine Zo (t:=(decide (s0_.1 < (a2.length:Int)))) rfl (fun c4 => ?_) (fun c4 => ?_)
  ·replace hs0_:=Zn c4 hs0_
   refine Qd [0,1,8,9,10] [false,true] ?_
   refine Ze ?_
   refine Z9 ?_
   refine Ze ?_
   obtain ⟨x2,hx2,ax2,bx2,cx2,hs0_⟩:=bE (f:=Zb) Uc (fun _=>rfl) (by decide) hs0_
   refine Z7p [] ax2 bx2 cx2 hi0 hk0 ?_
   refine zD [0,1,6,7,8,9,10] [false,true,true] ?_
   obtain ⟨y3,hy3,hs0_⟩:=bC hs0_
   refine Xy [] hi0 hk0 ?_
   refine (Gy (i0:=i0) (j0_0:=(n+1)) (by omega) (by omega) (by omega) (by simp only [push_cast,seval,↓reduceIte,Zc,Gf,hi0,hk0,hN0,hN] <;> rfl) (by simp only [push_cast,seval,↓reduceIte,Zc,Gf,hi0,hk0,hN0,hN] <;> rfl) hy3).then ?_
   refine zX2 hi0 hk0 ?_
   refine zD [0,1,8,9,10] [false,false,false,true] ?_
   refine Xy [] hi0 hk0 ?_
   obtain rfl:=sI hs0_
   refine And.intro rfl ?_
   refine Fit2.trans (E':=(⟨22,[],[(0,.ref i0 0),(1,(vI a1)),(8,(sL Zb a2)),(9,(vI (a2.length:Int))),(10,(vI (IntKind.i64.wrap (s0_.1+1))))]⟩:Env)) (O':=(Zw ((O.upd j0_0 none).upd i0 (some ⟨false,140,2,1,[.row (n+3) y3.words.length,(vI y3.next)]⟩)) n [none,none,none,some (oR 77 1 (eI .u64) y3.words)])) (n':=(n+4)) (Fit2.of (Yq hU rfl rfl ?_) (by omega)) ?_
   ·exact Q4 hi0 hk0
   refine Jf (k:=4) (k':=2) hU [0,0,0,1] [0,3] rfl rfl rfl rfl ⟨rfl,rfl⟩ ?_
   exact Q4 hi0 hk0
  replace hs0_:=Zm c4 hs0_
  refine zXt ?_
  obtain rfl:=sI hs0_
  refine And.intro (fun h=>by cases h) (And.intro rfl (Fit2.of (Yq hU rfl rfl ?_) (by omega)))
  exact Q4 hi0 hk0
 try simp only [Y1,Yc,↓reduceIte,Nat.reduceEqDiff]
 obtain rfl:=sI h
 refine Vc (k:=1) (i:=i0) (q1:=⟨false,140,2,1,[.row n z5.1.length,(vI z5.2)]⟩) (L3:=[some (oR 77 1 (eI .u64) z5.1),none]) (E2:=(⟨22,[],[]⟩:Env)) (n3:=(n+2)) (.inl rfl) hU rfl [] ?_ ?_
 ·refine Fit2.trans (E':=(⟨22,[],[]⟩:Env)) (O':=(Zw ((O.upd j0_0 none).upd i0 (some ⟨false,140,2,1,[.row (n+1) z5.1.length,(vI z5.2)]⟩)) n [none,some (oR 77 1 (eI .u64) z5.1)])) (n':=(n+2)) (Fit2.of (Yq hU rfl rfl ?_) (by omega)) ?_
  ·exact Q4 hi0 hk0
  refine Jf (k:=2) (k':=2) hU [1,0] [1,0] rfl rfl rfl rfl ⟨rfl,rfl⟩ ?_
  exact Q4 hi0 hk0
 simp only [push_cast,seval,↓reduceIte,Zc,Tryz.results242,hi0,hk0,hN0,hN]
theorem Zmy {Yk:(Zh→Int→Za→Option Zh)} {Yh:(Zh→Int→Za→Option Zh)} {Z8:(Zh→Int→(List Za)→Option Zh)} {Yi:(Zh→Int→Za→Option Zh)} (Gy:Vg Yk) (Uf:Kk Yh) (Jc:Jw Z8) (Ug:Kl Yi) {a0:Zh} {a1:Int} {a2:Za} {r:Zh} {O:Objs} {n:Nat} {i0 j0_0:Nat} (hi0:i0 < n) (Zdm:j0_0 < n) (Gh:i0≠j0_0) (ho0:O i0=some ⟨false,140,2,1,[.row j0_0 a0.words.length,(vI a0.next)]⟩) (Zbr:O j0_0=some (oR 77 1 (eI .u64) a0.words)) (h:Zd4 Yk Yh Z8 Yi a0 a1 a2=some r):GTo Tryz.prog 243 [.ref i0 0,(vI a1),.agg (Zd a2)] O n (.tup []) (Zw ((O.upd j0_0 none).upd i0 (some ⟨false,140,2,1,[.row n r.words.length,(vI r.next)]⟩)) n [some (oR 77 1 (eI .u64) r.words)]) (n+1):=by
 unfold Zd4 at h
 refine Zq0 Zq Tryz.call243 Tryz.func243 rfl (Nat.le_of_ble_eq_true rfl) (by omega) fun hU => ?_
 have e0:=Zt4 (ba:=n) (E:=⟨85,[],Zut 0 [.ref i0 0,.val (.int .i64 a1),.agg [.val (.int .i64 a2.Kind),.sl a2.Words.length (fl (eI .u64) a2.Words),.sl a2.Kids.length (fl Zb a2.Kids)]]⟩) (O:=(Zw O n [])) (n:=n) (i:=i0) (j:=j0_0) (k:=0) (len:=a0.words.length) (q:=⟨false,140,2,1,[.row j0_0 a0.words.length,.val (.int .i64 a0.next)]⟩) (qj:=⟨true,77,1,a0.words.length,fl (eI .u64) a0.words⟩) (by rw [Kq _ hi0];first | exact ho0 | exact Xo _ _ _) rfl (by rw [Kq _ Zdm];exact Zbr) Gh (by omega)
 simp only [Zb7 _ _ Zdm,Zb7 _ _ hi0,Q5,Qi,Zif,Z5p Gh,List.set_cons_zero,List.set_cons_succ,List.cons_append,List.nil_append,List.length_cons,List.length_nil,Nat.zero_add,Nat.reduceAdd,Nat.add_assoc] at e0
 refine G8 e0 ?_
 have hU:=(Und.drop hU j0_0)
 have hk0:∀ k,i0 < n+k:=fun k=>by omega
 have hN0:∀ o,Objs.upd (O.upd j0_0 none) i0 o n=none:=fun o=>Vm hU hi0 _ (Nat.le_refl _)
 have hN:∀ o k,Objs.upd (O.upd j0_0 none) i0 o (n+k)=none:=fun o k=>Vm hU hi0 _ (Nat.le_add_right _ _)
 show W _ _ _ _ ⟨85,[],[(0,.ref i0 0),(1,(vI a1)),(2,.agg (Zd a2))]⟩ (Zw ((O.upd j0_0 none).upd i0 (some ⟨false,140,2,1,[.row n a0.words.length,(vI a0.next)]⟩)) n [some (oR 77 1 (eI .u64) a0.words)]) _
 refine Zax [0,1,5] hi0 hk0 ?_
 refine Ze ?_
 obtain ⟨y2,hy2,h⟩:=bC h
 refine Xy [] hi0 hk0 ?_
 refine (Zma hy2).then ?_
 refine zX2 hi0 hk0 ?_
 refine zD [0,1,5,6,7] [true,true] ?_
 obtain ⟨z3,hz3,h⟩:=bC h
 refine Yu (E':=⟨85,[],[(0,.ref i0 0),(1,(vI a1)),(5,.ref (n+1) 0),(6,(vI y2.1)),(7,(vI y2.2))]⟩) (O':=(Zw ((O.upd j0_0 none).upd i0 (some ⟨false,140,2,1,[.row n z3.length,(vI a0.next)]⟩)) n [some (oR 77 1 (eI .u64) z3),some ⟨false,25,3,1,(Zd a2)⟩])) (n0:=(n+2)) ?_ ?_
 ·refine Zax [0,1,5,6,7,20] hi0 hk0 ?_
  refine Zo (t:=(decide (0 < (a2.Kids.length:Int)))) rfl (fun c7 => ?_) (fun c7 => ?_)
  ·replace hz3:=Zn c7 hz3
   obtain ⟨y4,hy4,hz3⟩:=bC hz3
   obtain ⟨x5,hx5,ax5,bx5,cx5,hz3⟩:=bE (f:=(eI .u64)) Zbn (fun _=>rfl) (by decide) hz3
   have gu6:Gg (fl (eI .u64) a0.words) [.val (.int .u64 y4.1)] (Int.toNat a1 * 1)=some (fl (eI .u64) (Zka a0.words a1 y4.1)):=Zio (f:=(eI .u64)) (ti:=⟨.bool,1,0,[],false⟩) (x:=y4.1) (fun _=>rfl) (Zep hx5)
   refine Zgh Zq (by kernel_rfl) [false,false,false,false,false,false,false,false,false,false,false,false,false,false,false,false,true] [] (by kernel_rfl) ?_
   refine zF6 ax5 bx5 cx5 gu6 hi0 hk0 ?_
   refine PCall.of (Zq8 hy4) ?_
   refine zF6 ax5 bx5 cx5 gu6 hi0 hk0 ?_
   obtain rfl:=sI hz3
   refine And.intro rfl (Fit2.of (Yq hU rfl rfl ?_) (by omega))
   exact Ykq ax5 bx5 cx5 gu6 hi0 hk0
  replace hz3:=Zm c7 hz3
  refine zK ?_
  obtain rfl:=sI hz3
  refine And.intro rfl (Fit2.of (Yq hU rfl rfl ?_) (by omega))
  exact Q4 hi0 hk0
 refine Zax [0,1,5,6,7] hi0 hk0 ?_
 refine Ze ?_
 refine Zax [0,1,5,6,7,40,41,42] hi0 hk0 ?_
 refine zD [0,1,5,6,7,40,41,42] [true,true] ?_
 obtain ⟨z13,hz13,h⟩:=bC h
 refine Yj (E':=⟨85,[],[(0,.ref i0 0),(1,(vI (IntKind.i64.wrap (a1+1)))),(5,.ref (n+1) 0),(6,(vI y2.1)),(7,(vI y2.2))]⟩) (O':=(Zw ((O.upd j0_0 none).upd i0 (some ⟨false,140,2,1,[.row n z13.length,(vI a0.next)]⟩)) n [some (oR 77 1 (eI .u64) z13),some ⟨false,25,3,1,(Zd a2)⟩])) (n0:=(n+2)) ?_ ?_
 ·refine Y4 hz13 (fun s0_=>⟨85,[],[(0,.ref i0 0),(1,(vI (IntKind.i64.wrap (a1+1)))),(5,.ref (n+1) 0),(6,(vI y2.1)),(7,(vI y2.2)),(40,(sL Zb a2.Kids)),(41,(vI (a2.Kids.length:Int))),(42,(vI s0_.1))]⟩) (fun s0_=>(Zw ((O.upd j0_0 none).upd i0 (some ⟨false,140,2,1,[.row n s0_.2.length,(vI a0.next)]⟩)) n [some (oR 77 1 (eI .u64) s0_.2),some ⟨false,25,3,1,(Zd a2)⟩])) (fun z13=>JX 0 n (⟨85,[],[(0,.ref i0 0),(1,(vI (IntKind.i64.wrap (a1+1)))),(5,.ref (n+1) 0),(6,(vI y2.1)),(7,(vI y2.2))]⟩:Env) (Zw ((O.upd j0_0 none).upd i0 (some ⟨false,140,2,1,[.row n z13.length,(vI a0.next)]⟩)) n [some (oR 77 1 (eI .u64) z13),some ⟨false,25,3,1,(Zd a2)⟩]) (n+2)) ?_
  intro s0_ x0_ hs0_
  unfold Zga at hs0_
  try dsimp only
  refine Zax [0,1,5,6,7,40,41,42,43] hi0 hk0 ?_
  refine Ze ?_
  refine Zo (t:=(decide (s0_.1 < (a2.Kids.length:Int)))) rfl (fun c12 => ?_) (fun c12 => ?_)
  ·replace hs0_:=Zn c12 hs0_
   refine Qd [0,1,5,6,7,40,41,42] [true,true] ?_
   refine Ze ?_
   refine Z9 ?_
   refine Ze ?_
   obtain ⟨x9,hx9,ax9,bx9,cx9,hs0_⟩:=bE (f:=Zb) Uc (fun _=>rfl) (by decide) hs0_
   refine Z7p [] ax9 bx9 cx9 hi0 hk0 ?_
   refine zD [0,1,5,6,7,8,9,40,41,42] [true,true,true] ?_
   obtain ⟨pu10,hs0_⟩:=bG hs0_
   have su10:=fun j=>Znc (T:=X1) (j:=j) Zkc Zbn pu10
   have g11:=Znb (f:=(eI .u64)) s0_.2 x9.Words (IntKind.i64.wrap ((IntKind.i64.wrap (a1+1))+(IntKind.i64.wrap (s0_.1 * (IntKind.i64.wrap (y2.1+y2.2)))))) (fun _=>rfl) pu10.2.1 pu10.2.2
   have mg11:=Nat.mul_one (List.length x9.Words)
   refine Zgh Zq (by kernel_rfl) [false,false,false,false,false,false,false,false,false,false,false,false,false,false,true] [] (by kernel_rfl) ?_
   simp only [push_cast,seval,↓reduceIte,Zc,pu10.1,pu10.2.1,pu10.2.2,su10,g11,mg11,hi0,hk0,hN0,hN]
   refine zD [0,1,5,6,7,40,41,42] [true,true,false] ?_
   refine Xy [] hi0 hk0 ?_
   obtain rfl:=sI hs0_
   refine And.intro rfl (Fit2.of (Yq hU rfl rfl ?_) (by omega))
   exact Q4 hi0 hk0
  replace hs0_:=Zm c12 hs0_
  refine zXt ?_
  obtain rfl:=sI hs0_
  refine And.intro (fun h=>by cases h) (And.intro rfl (Fit2.of (Yq hU rfl rfl ?_) (by omega)))
  exact Q4 hi0 hk0
 try simp only [Y1,Yc,↓reduceIte,Nat.reduceEqDiff]
 refine zD [0,1,5,6,7] [true,true] ?_
 refine Zax [0,1,6,7,64,65,66] hi0 hk0 ?_
 refine zD [0,1,6,7,64,65,66] [true,false] ?_
 refine G8 (E':=(⟨85,[],[(0,.ref i0 0),(1,(vI (IntKind.i64.wrap (a1+1)))),(6,(vI y2.1)),(7,(vI y2.2)),(64,(sL Zb a2.Kids)),(65,(vI (a2.Kids.length:Int))),(66,(vI 0))]⟩:Env)) (O':=(Zw ((O.upd j0_0 none).upd i0 (some ⟨false,140,2,1,[.row (n+2) z13.length,(vI a0.next)]⟩)) n [none,none,some (oR 77 1 (eI .u64) z13)])) (n':=(n+3)) ?_ ?_
 ·refine Fit2.trans (E':=(⟨85,[],[(0,.ref i0 0),(1,(vI (IntKind.i64.wrap (a1+1)))),(6,(vI y2.1)),(7,(vI y2.2)),(64,(sL Zb a2.Kids)),(65,(vI (a2.Kids.length:Int))),(66,(vI 0))]⟩:Env)) (O':=(Zw ((O.upd j0_0 none).upd i0 (some ⟨false,140,2,1,[.row n z13.length,(vI a0.next)]⟩)) n [some (oR 77 1 (eI .u64) z13),none])) (n':=(n+2)) (Fit2.of (Yq hU rfl rfl ?_) (by omega)) ?_
  ·exact Q4 hi0 hk0
  refine Jf (k:=2) (k':=3) hU [2,1] [0,0,0] rfl rfl rfl rfl ⟨rfl,rfl⟩ ?_
  exact Q4 hi0 hk0
 obtain ⟨z18,hz18,h⟩:=bC h
 refine Yj (E':=⟨85,[],[]⟩) (O':=(Zw ((O.upd j0_0 none).upd i0 (some ⟨false,140,2,1,[.row (n+2) z18.1.length,(vI z18.2)]⟩)) n [none,none,some (oR 77 1 (eI .u64) z18.1)])) (n0:=(n+3)) ?_ ?_
 ·refine Y4 hz18 (fun s1_=>⟨85,[],[(0,.ref i0 0),(1,(vI (IntKind.i64.wrap (a1+1)))),(6,(vI y2.1)),(7,(vI y2.2)),(64,(sL Zb a2.Kids)),(65,(vI (a2.Kids.length:Int))),(66,(vI s1_.1))]⟩) (fun s1_=>(Zw ((O.upd j0_0 none).upd i0 (some ⟨false,140,2,1,[.row (n+2) s1_.2.1.length,(vI s1_.2.2)]⟩)) n [none,none,some (oR 77 1 (eI .u64) s1_.2.1)])) (fun z18=>JX 2 n (⟨85,[],[]⟩:Env) (Zw ((O.upd j0_0 none).upd i0 (some ⟨false,140,2,1,[.row (n+2) z18.1.length,(vI z18.2)]⟩)) n [none,none,some (oR 77 1 (eI .u64) z18.1)]) (n+3)) ?_
  intro s1_ x1_ hs1_
  unfold Zgb at hs1_
  try dsimp only
  refine Zax [0,1,6,7,64,65,66,67] hi0 hk0 ?_
  refine Ze ?_
  refine Zo (t:=(decide (s1_.1 < (a2.Kids.length:Int)))) rfl (fun c17 => ?_) (fun c17 => ?_)
  ·replace hs1_:=Zn c17 hs1_
   refine Qd [0,1,6,7,64,65,66] [false,false,true] ?_
   refine Ze ?_
   refine Z9 ?_
   refine Ze ?_
   obtain ⟨x15,hx15,ax15,bx15,cx15,hs1_⟩:=bE (f:=Zb) Uc (fun _=>rfl) (by decide) hs1_
   refine Z7p [] ax15 bx15 cx15 hi0 hk0 ?_
   refine zD [0,1,6,7,10,11,64,65,66] [false,false,true,true] ?_
   obtain ⟨y16,hy16,hs1_⟩:=bC hs1_
   refine Xy [] hi0 hk0 ?_
   refine (Jc (i0:=i0) (j0_0:=(n+2)) (by omega) (by omega) (by omega) (by simp only [push_cast,seval,↓reduceIte,Zc,Gf,hi0,hk0,hN0,hN] <;> rfl) (by simp only [push_cast,seval,↓reduceIte,Zc,Gf,hi0,hk0,hN0,hN] <;> rfl) hy16).then ?_
   refine zX2 hi0 hk0 ?_
   refine zD [0,1,6,7,64,65,66] [false,false,false,false,true] ?_
   refine Xy [] hi0 hk0 ?_
   obtain rfl:=sI hs1_
   refine And.intro rfl ?_
   refine Fit2.trans (E':=(⟨85,[],[(0,.ref i0 0),(1,(vI (IntKind.i64.wrap (a1+1)))),(6,(vI y2.1)),(7,(vI y2.2)),(64,(sL Zb a2.Kids)),(65,(vI (a2.Kids.length:Int))),(66,(vI (IntKind.i64.wrap (s1_.1+1))))]⟩:Env)) (O':=(Zw ((O.upd j0_0 none).upd i0 (some ⟨false,140,2,1,[.row (n+4) y16.words.length,(vI y16.next)]⟩)) n [none,none,none,none,some (oR 77 1 (eI .u64) y16.words)])) (n':=(n+5)) (Fit2.of (Yq hU rfl rfl ?_) (by omega)) ?_
   ·exact Q4 hi0 hk0
   refine Jf (k:=5) (k':=3) hU [1,1,1,1,2] [0,0,4] rfl rfl rfl rfl ⟨rfl,rfl⟩ ?_
   exact Q4 hi0 hk0
  replace hs1_:=Zm c17 hs1_
  refine zXt ?_
  obtain rfl:=sI hs1_
  refine And.intro (fun h=>by cases h) (And.intro rfl (Fit2.of (Yq hU rfl rfl ?_) (by omega)))
  exact Q4 hi0 hk0
 try simp only [Y1,Yc,↓reduceIte,Nat.reduceEqDiff]
 obtain rfl:=sI h
 refine Vc (k:=1) (i:=i0) (q1:=⟨false,140,2,1,[.row n z18.1.length,(vI z18.2)]⟩) (L3:=[some (oR 77 1 (eI .u64) z18.1),none]) (E2:=(⟨85,[],[]⟩:Env)) (n3:=(n+2)) (.inl rfl) hU rfl [] ?_ ?_
 ·refine Fit2.trans (E':=(⟨85,[],[]⟩:Env)) (O':=(Zw ((O.upd j0_0 none).upd i0 (some ⟨false,140,2,1,[.row (n+2) z18.1.length,(vI z18.2)]⟩)) n [none,none,some (oR 77 1 (eI .u64) z18.1)])) (n':=(n+3)) (Fit2.of (Yq hU rfl rfl ?_) (by omega)) ?_
  ·exact Q4 hi0 hk0
  refine Jf (k:=3) (k':=2) hU [1,1,0] [2,0] rfl rfl rfl rfl ⟨rfl,rfl⟩ ?_
  exact Q4 hi0 hk0
 simp only [push_cast,seval,↓reduceIte,Zc,Tryz.results243,hi0,hk0,hN0,hN]
theorem Zms:∀ k,(Vg ((Z0 k).1))∧(Kk ((Z0 k).2.1))∧(Jw ((Z0 k).2.2.1))∧(Kl ((Z0 k).2.2.2)):=fun k=>by
 induction k with
 | zero=>exact ⟨@fun a0 a1 a2 r O n i0 j0_0 hi0 Zdm Gh ho0 Zbr h=>(nomatch (show (none:Option _)=some _ from h)),@fun a0 a1 a2 r O n i0 j0_0 hi0 Zdm Gh ho0 Zbr h=>(nomatch (show (none:Option _)=some _ from h)),@fun a0 a1 a2 r O n i0 j0_0 hi0 Zdm Gh ho0 Zbr h=>(nomatch (show (none:Option _)=some _ from h)),@fun a0 a1 a2 r O n i0 j0_0 hi0 Zdm Gh ho0 Zbr h=>(nomatch (show (none:Option _)=some _ from h))⟩
 | succ k ih=>exact ⟨@fun a0 a1 a2 r O n i0 j0_0 hi0 Zdm Gh ho0 Zbr h=>Zol (ih.1) (ih.2.1) (ih.2.2.1) (ih.2.2.2) hi0 Zdm Gh ho0 Zbr h,@fun a0 a1 a2 r O n i0 j0_0 hi0 Zdm Gh ho0 Zbr h=>Zmx (ih.1) (ih.2.1) (ih.2.2.1) (ih.2.2.2) hi0 Zdm Gh ho0 Zbr h,@fun a0 a1 a2 r O n i0 j0_0 hi0 Zdm Gh ho0 Zbr h=>Zmd (ih.1) (ih.2.1) (ih.2.2.1) (ih.2.2.2) hi0 Zdm Gh ho0 Zbr h,@fun a0 a1 a2 r O n i0 j0_0 hi0 Zdm Gh ho0 Zbr h=>Zmy (ih.1) (ih.2.1) (ih.2.2.1) (ih.2.2.2) hi0 Zdm Gh ho0 Zbr h⟩
theorem Zo8 {a0:Zh} {a1:Int} {a2:Za} {r:Zh} {O:Objs} {n:Nat} {i0 j0_0:Nat} (hi0:i0 < n) (Zdm:j0_0 < n) (Gh:i0≠j0_0) (ho0:O i0=some ⟨false,140,2,1,[.row j0_0 a0.words.length,(vI a0.next)]⟩) (Zbr:O j0_0=some (oR 77 1 (eI .u64) a0.words)) (h:Zb2 a0 a1 a2=some r):GTo Tryz.prog 116 [.ref i0 0,(vI a1),.agg (Zd a2)] O n (.tup []) (Zw ((O.upd j0_0 none).upd i0 (some ⟨false,140,2,1,[.row n r.words.length,(vI r.next)]⟩)) n [some (oR 77 1 (eI .u64) r.words)]) (n+1):=by
 obtain ⟨k,hk⟩:=V0 h
 exact (Zms k).1 hi0 Zdm Gh ho0 Zbr hk
theorem Zn3 {a0:Za} {a1:Int} {r:((List Int)×Bool)} {O:Objs} {n:Nat} (h:Us a0 a1=some r):GTo Tryz.prog 72 [.agg (Zd a0),(vI a1)] O n (.tup [(sL (eI .u64) r.1),(vB r.2)]) O n:=by
 unfold Us at h
 refine K6 Zq Tryz.call72 Tryz.func72 rfl fun hU hN0 hN => ?_
 show W _ _ _ _ ⟨35,[],[(0,.agg (Zd a0)),(1,(vI a1))]⟩ (Zw O n []) _
 refine zQ [1,2] ?_
 refine Ze ?_
 obtain ⟨z2,hz2,h⟩:=bC h
 refine Yu (E':=⟨35,[],[(1,(vI a1)),(2,.ref n 0),(15,(vB z2))]⟩) (O':=(Zw O n [some ⟨false,25,3,1,(Zd a0)⟩])) (n0:=(n+1)) ?_ ?_
 ·rcases Bool.eq_false_or_eq_true (a0.Kind == 10) with c5 | c5
  ·replace hz2:=Zn c5 hz2
   refine Q2 [some false,some false,some false] c5 ?_
   exact Qf hz2 c5
  replace hz2:=Zm c5 hz2
  obtain ⟨y4,hy4,hz2⟩:=bC hz2
  refine Q2 [some true,some true,some true] c5 ?_
  refine (Zmb hy4).then ?_
  refine zX1 c5 ?_
  exact Qf hz2 c5
 refine Zo (t:=z2) rfl (fun K9 => ?_) (fun K9 => ?_)
 ·replace h:=Zn K9 h
  refine zQ [4,5] ?_
  refine zW ?_
  obtain rfl:=sI h
  refine Zg (.inr rfl) hU [nV,(vB false)] (by omega) ?_
  simp only [push_cast,seval,↓reduceIte,Zc,Tryz.results72,hN0,hN]
 replace h:=Zm K9 h
 refine Qd [1,2] [true] ?_
 refine Ze ?_
 obtain ⟨y7,hy7,h⟩:=bC h
 refine zCd (Znn hy7) [1,2] [true] ?_
 refine Ze ?_
 obtain ⟨y9,hy9,h⟩:=bC h
 refine zCd (Z3r hy9) [1,2,6] [true] ?_
 refine Ze ?_
 refine zQD [2,6,27] [none,none] ?_
 refine Zo (t:=(cond (decide (a1 < (IntKind.i64.wrap (1+y9)))) true (decide (131072 < (IntKind.i64.wrap (1+y9)))))) rfl (fun Qk => ?_) (fun Qk => ?_)
 ·replace h:=Zn Qk h
  refine zQ [4,5] ?_
  refine zW ?_
  obtain rfl:=sI h
  refine Zg (.inr rfl) hU [nV,(vB false)] (by omega) ?_
  simp only [push_cast,seval,↓reduceIte,Zc,Tryz.results72,hN0,hN]
 replace h:=Zm Qk h
 refine Qd [2,6] [true] ?_
 refine Ze ?_
 obtain ⟨l11,al11,bl11,cl11,el11,h⟩:=bM2 (c:=8) rfl h
 have nl11:Int.toNat (IntKind.i64.wrap (1+y9))=List.length l11:=by rw [el11,List.length_replicate]
 have fl11:(List.replicate (List.length l11) [.val (.int .u64 0)]).flatten=fl (eI .u64) l11:=by rw [← nl11,el11];exact (Zs4 (f:=(eI .u64)) _ _).symm
 clear el11
 refine Yt Zq [] ?_
 simp only [push_cast,seval,↓reduceIte,Zc,al11,bl11,cl11,fl11,nl11,hN0,hN]
 refine Ki ⟨35,[],[(2,.ref n 0),(7,.ref (n+2) 0)]⟩ (Zw O n [some ⟨false,25,3,1,(Zd y7)⟩,some (oR 77 1 (eI .u64) l11),some ⟨false,140,2,1,[.row (n+1) l11.length,(vI 1)]⟩]) (Z6 hU rfl rfl ?_) ?_
 ·simp only [push_cast,seval,↓reduceIte,Zc,al11,bl11,cl11,fl11,nl11,hN0,hN]
 refine Ze ?_
 obtain ⟨y13,hy13,h⟩:=bC h
 refine zR ?_
 refine (Zo8 (i0:=(n+2)) (j0_0:=(n+1)) (by omega) (by omega) (by omega) (by simp only [push_cast,seval,↓reduceIte,Zc,Gf,hN0,hN] <;> rfl) (by simp only [push_cast,seval,↓reduceIte,Zc,Gf,hN0,hN] <;> rfl) hy13).then ?_
 refine zS ?_
 refine zD [7] [false,false,true,true] ?_
 refine zQ [4,5] ?_
 refine zW ?_
 obtain rfl:=sI h
 refine Zg (.inr rfl) hU [.row (n+3) y13.words.length,(vB true)] (by omega) ?_
 simp only [push_cast,seval,↓reduceIte,Zc,Tryz.results72,hN0,hN]
theorem Zcy {a0 r:List Int} {O:Objs} {n:Nat} (h:Ql a0=some r):GTo Tryz.prog 185 [(sL (eI .u64) a0)] O n (.row n r.length) (Zw O n [some (oR 77 1 (eI .u64) r)]) (n+1):=by
 have h1:=Z7v h
 have h2:=Z7w h
 have h3:=Z2e h
 rw [List.nil_append] at h3
 subst h3
 simp only [List.length_nil,Nat.zero_add] at h1 h2
 clear h
 refine Zq0 Zq Tryz.call185 Tryz.func185 rfl (Nat.le_of_ble_eq_true rfl) (by omega) fun hU => ?_
 have hN0:O n=none:=hU.fresh _ (Nat.le_refl _)
 have hN:∀ k,O (n+k)=none:=fun k=>hU.fresh _ (Nat.le_add_right _ _)
 show W _ _ _ _ ⟨8,[],[(0,(sL (eI .u64) r))]⟩ (Zw O n []) _
 refine zQ [0] ?_
 refine Yjk 0 r.length (fl (eI .u64) r) rfl (Nat.le_of_ble_eq_true rfl) (Ym Kg _) fun A c hA => ?_
 refine zQ [0,4] ?_
 cases A with
 | none =>
  obtain rfl:r=[]:=List.eq_nil_of_length_eq_zero (hA rfl)
  refine Zo (t:=true) rfl (fun _ => ?_) (fun hc=>by cases hc)
  refine zQ [2] ?_
  refine zW ?_
  refine Ydo (k:=1) (L3:=[some ⟨true,77,1,0,[]⟩]) (E2:=⟨8,[],[(2,.row n 0),(2,nV)]⟩) (n3:=(n+1)) (.inr rfl) hU rfl [.row n 0] ?_ ?_
  ·have ha:=Zay (ba:=n) (E:=⟨8,[],[(2,.val (.slice none 0 0))]⟩) (O:=(Zw O n [])) (n:=n) 2 77 1 rfl (by omega)
   simp only [Qi] at ha
   exact ha
  simp only [push_cast,seval,↓reduceIte,Zc,Tryz.results185,hN0,hN]
 | some A =>
  refine Zo (t:=false) rfl (fun hc=>by cases hc) (fun _ => ?_)
  refine zK ?_
  refine And.intro rfl (And.intro (Nat.le_of_ble_eq_true rfl) ?_)
  refine Ze ?_
  refine Yt Zq [] ?_
  simp only [push_cast,seval,↓reduceIte,Zc,h1,h2,hN0,hN]
  refine zW ?_
  refine Ydn (.inr rfl) hU rfl [.row n r.length] (by omega) ?_
  simp only [push_cast,seval,↓reduceIte,Zc,Tryz.results185,hN0,hN]
theorem Zit {a0 r:List Int} {O:Objs} {n:Nat} (h:Ql a0=some r):GTo Tryz.prog 185 [(sL (eI .u64) a0)] O n ((sL (eI .u64) r)) O n:=by
 refine GTo.freeze (Zcy h) fun hU => ?_
 have hN0:O n=none:=hU.fresh _ (Nat.le_refl _)
 have hN:∀ k,O (n+k)=none:=fun k=>hU.fresh _ (Nat.le_add_right _ _)
 exact Gl
theorem Zx7 {a0:(List (List Int))} {r:(List (List Int))} {O:Objs} {n:Nat} (h:Zge a0=some r):GTo Tryz.prog 119 [(sL (eL (eI .u64)) a0)] O n ((sL (eL (eI .u64)) r)) O n:=by
 unfold Zge at h
 refine K6 Zq Tryz.call119 Tryz.func119 rfl fun hU hN0 hN => ?_
 show W _ _ _ _ ⟨23,[],[(0,(sL (eL (eI .u64)) a0))]⟩ (Zw O n []) _
 refine zQ [0] ?_
 refine Ze ?_
 obtain ⟨l2,al2,bl2,cl2,el2,h⟩:=bM2 (c:=24) rfl h
 have nl2:Int.toNat (a0.length:Int)=List.length l2:=by rw [el2,List.length_replicate]
 have fl2:∀ O O' n,wkl O O' n (List.replicate (List.length l2) [G.val (.slice none 0 0)]).flatten (fl (eL (eI .u64)) l2)=True:=fun O O' n=>by rw [← nl2,el2];exact eq_true (Z7n _ _)
 clear el2
 refine Yt Zq [] ?_
 simp only [push_cast,seval,↓reduceIte,Zc,al2,bl2,cl2,fl2,nl2,hN0,hN]
 refine Ki ⟨23,[],[(0,(sL (eL (eI .u64)) a0)),(3,.row n l2.length)]⟩ (Zw O n [some (oR 22 1 (eL (eI .u64)) l2)]) (Z6 hU rfl rfl ?_) ?_
 ·simp only [push_cast,seval,↓reduceIte,Zc,al2,bl2,cl2,fl2,nl2,hN0,hN]
 refine Ze ?_
 refine zQd [3,9,10,11] [3,9,10,11] [true] ?_
 obtain ⟨z9,hz9,h⟩:=bC h
 refine Yj (E':=⟨23,[],[(3,.row n z9.length)]⟩) (O':=(Zw O n [some (oR 22 1 (eL (eI .u64)) z9)])) (n0:=(n+1)) ?_ ?_
 ·refine Y4 hz9 (fun s0_=>⟨23,[],[(3,.row n s0_.2.length),(9,(sL (eL (eI .u64)) a0)),(10,(vI (a0.length:Int))),(11,(vI s0_.1))]⟩) (fun s0_=>(Zw O n [some (oR 22 1 (eL (eI .u64)) s0_.2)])) (fun z9=>JX 0 n (⟨23,[],[(3,.row n z9.length)]⟩:Env) (Zw O n [some (oR 22 1 (eL (eI .u64)) z9)]) (n+1)) ?_
  intro s0_ x0_ hs0_
  unfold G4 at hs0_
  try dsimp only
  refine zQ [3,9,10,11,12] ?_
  refine Ze ?_
  refine Zo (t:=(decide (s0_.1 < (a0.length:Int)))) rfl (fun c8 => ?_) (fun c8 => ?_)
  ·replace hs0_:=Zn c8 hs0_
   refine Qd [3,9,10,11] [true] ?_
   refine Ze ?_
   refine Z9 ?_
   obtain ⟨x4,hx4,ax4,bx4,cx4,hs0_⟩:=bE (f:=(eL (eI .u64))) Zv9 (fun _=>rfl) (by decide) hs0_
   refine Zhc [3,4,5,9,10,11] (Yt Zq [] ?_)
   refine zF3 ax4 bx4 cx4 ?_
   obtain ⟨y5,hy5,hs0_⟩:=bC hs0_
   obtain ⟨x6,hx6,ax6,bx6,cx6,hs0_⟩:=bE (f:=(eL (eI .u64))) Zv9 (fun _=>rfl) (by decide) hs0_
   have gu7:Gg (fl (eL (eI .u64)) s0_.2) [.sl y5.length (fl (eI .u64) y5)] (Int.toNat s0_.1 * 1)=some (fl (eL (eI .u64)) (Zka s0_.2 s0_.1 y5)):=Zio (f:=(eL (eI .u64))) (ti:=⟨.bool,1,0,[],false⟩) (x:=y5) (fun _=>rfl) (Zep hx6)
   refine Yb5 [] ax6 bx6 cx6 gu7 ?_
   refine (Zit hy5).then ?_
   refine zF4 ax6 bx6 cx6 gu7 ?_
   refine zD [3,9,10,11] [true] ?_
   refine zR ?_
   exact Gv hs0_
  replace hs0_:=Zm c8 hs0_
  exact zEx hs0_
 try simp only [Y1,Yc,↓reduceIte,Nat.reduceEqDiff]
 refine zD [3] [true] ?_
 refine zQ [2] ?_
 refine zW ?_
 obtain rfl:=sI h
 refine Zg (.inr rfl) hU [.row n z9.length] (by omega) ?_
 simp only [push_cast,seval,↓reduceIte,Zc,Tryz.results119,hN0,hN]
theorem Zly {a0:(List (List Int))} {r:(Option Zz)} {O:Objs} {n:Nat} (h:Zir a0=some r):GTo Tryz.prog 74 [(sL (eL (eI .u64)) a0)] O n ((gP Zv r)) O n:=by
 unfold Zir at h
 refine K6 Zq Tryz.call74 Tryz.func74 rfl fun hU hN0 hN => ?_
 show W _ _ _ _ ⟨7,[],[(0,(sL (eL (eI .u64)) a0))]⟩ (Zw O n []) _
 refine zQ [0] ?_
 refine Ze ?_
 obtain ⟨y2,hy2,h⟩:=bC h
 refine zCd (Zx7 hy2) [2] [true] ?_
 refine zW ?_
 obtain rfl:=sI h
 refine Zg (.inr rfl) hU [.ref n 0] (by omega) ?_
 simp only [push_cast,seval,↓reduceIte,Zc,Tryz.results74,hN0,hN]
theorem Zn6  {r:X2} {O:Objs} {n:Nat} (h:Zam=some r):GTo Tryz.prog 75 [] O n (.agg (Xz r)) O n:=by
 unfold Zam at h
 refine K6 Zq Tryz.call75 Tryz.func75 rfl fun hU hN0 hN => ?_
 show W _ _ _ _ ⟨2,[],[]⟩ (Zw O n []) _
 refine zQ [0] ?_
 refine Ze ?_
 refine zRd [0] [true] ?_
 refine zW ?_
 obtain rfl:=sI h
 refine Zg (.inr rfl) hU [.agg [(vI 64),(vI 65536),(vI 0),(vI 0)]] (by omega) ?_
 simp only [push_cast,seval,↓reduceIte,Zc,Tryz.results75,hN0,hN]
theorem Zfo {a0:Int} {a1:Int} {r:Int} {O:Objs} {n:Nat} (h:Za1 a0 a1=some r):GTo Tryz.prog 180 [(vI a0),(vI a1)] O n ((vI r)) O n:=by
 unfold Za1 at h
 refine K6 Zq Tryz.call180 Tryz.func180 rfl fun hU hN0 hN => ?_
 show W _ _ _ _ ⟨9,[],[(0,(vI a0)),(1,(vI a1))]⟩ (Zw O n []) _
 refine zQ [0,1] ?_
 refine zQ [4] ?_
 refine zW ?_
 obtain rfl:=sI h
 refine Zg (.inr rfl) hU [(vI (if a1 < (if a0 < 0 then 0 else a0) then a1 else (if a0 < 0 then 0 else a0)))] (by omega) ?_
 simp only [push_cast,seval,↓reduceIte,Zc,Tryz.results180,hN0,hN]
theorem Zwm {a0:X2} {r:X2} {O:Objs} {n:Nat} (h:Zh3 a0=some r):GTo Tryz.prog 117 [.agg (Xz a0)] O n (.agg (Xz r)) O n:=by
 unfold Zh3 at h
 refine K6 Zq Tryz.call117 Tryz.func117 rfl fun hU hN0 hN => ?_
 show W _ _ _ _ ⟨16,[],[(0,.agg (Xz a0))]⟩ (Zw O n []) _
 refine zQ [1,2] ?_
 refine Ze ?_
 obtain ⟨y5,hy5,h⟩:=bC h
 obtain ⟨y6,hy6,h⟩:=bC h
 obtain ⟨y7,hy7,h⟩:=bC h
 obtain ⟨y8,hy8,h⟩:=bC h
 refine Zgh Zq (by kernel_rfl) [false,false,false,false,false,false,false,false,false,false,false,false,false,true] [] (by kernel_rfl) ?_
 refine zS ?_
 refine PCall.of (Zfo hy5) ?_
 refine zS ?_
 refine PCall.of (Zfo hy6) ?_
 refine zS ?_
 refine PCall.of (Zfo hy7) ?_
 refine zS ?_
 refine PCall.of (Zfo hy8) ?_
 refine zS ?_
 refine zD [2] [false,true] ?_
 refine zW ?_
 obtain rfl:=sI h
 refine Zg (.inr rfl) hU [.agg [(vI y5),(vI y6),(vI y7),(vI y8)]] (by omega) ?_
 simp only [push_cast,seval,↓reduceIte,Zc,Tryz.results117,hN0,hN]
theorem Zr0 {a0:(Option Zz)} {r:Int} {O:Objs} {n:Nat} (h:Zhv a0=some r):GTo Tryz.prog 340 [(gP Zv a0)] O n ((vI r)) O n:=by
 unfold Zhv at h
 refine K6 Zq Tryz.call340 Tryz.func340 rfl fun hU hN0 hN => ?_
 show W _ _ _ _ ⟨10,[],[(0,(gP Zv a0))]⟩ (Zw O n []) _
 refine zQ [0] ?_
 refine Ze ?_
 have g2:=Z59 (f:=Zv) (t:=60) Zwy a0
 refine Yo2 [0,4] g2 ?_
 refine Zo (t:=(Option.isNone a0)) rfl (fun c5 => ?_) (fun c5 => ?_)
 ·replace h:=Zn c5 h
  refine zQ [2] ?_
  refine zW ?_
  obtain rfl:=sI h
  refine Zg (.inr rfl) hU [(vI 0)] (by omega) ?_
  simp only [push_cast,seval,↓reduceIte,Zc,Tryz.results340,hN0,hN]
 replace h:=Zm c5 h
 refine Qd [0] [] ?_
 obtain ⟨x4,hx4,h⟩:=bC h
 refine Zhc [2] (Yt Zq [] ?_)
 simp only [push_cast,seval,↓reduceIte,Zc,hx4,hN0,hN]
 refine zW ?_
 obtain rfl:=sI h
 refine Zg (.inr rfl) hU [(vI (x4.segments.length:Int))] (by omega) ?_
 simp only [push_cast,seval,↓reduceIte,Zc,Tryz.results340,hN0,hN]
theorem K4 {a0:(Option Zz)} {a1:Int} {r:Bool} {O:Objs} {n:Nat} (h:Zb1 a0 a1=some r):GTo Tryz.prog 320 [(gP Zv a0),(vI a1)] O n ((vB r)) O n:=by
 unfold Zb1 at h
 refine K6 Zq Tryz.call320 Tryz.func320 rfl fun hU hN0 hN => ?_
 show W _ _ _ _ ⟨13,[],[(0,(gP Zv a0)),(1,(vI a1))]⟩ (Zw O n []) _
 refine zQ [0,1] ?_
 obtain ⟨z2,hz2,h⟩:=bC h
 refine Yu (E':=⟨13,[],[(4,(vB z2))]⟩) (O':=(Zw O n [])) (n0:=n) ?_ ?_
 ·rcases Bool.eq_false_or_eq_true (decide (0≤a1)) with c5 | c5
  ·replace hz2:=Zn c5 hz2
   obtain ⟨y4,hy4,hz2⟩:=bC hz2
   refine Q2 [some true,some true,some true,some true] c5 ?_
   refine (Zr0 hy4).then ?_
   refine zX1 c5 ?_
   exact Qf hz2 c5
  replace hz2:=Zm c5 hz2
  refine Q2 [some false,some false,some false,some false] c5 ?_
  exact Qf hz2 c5
 refine zW ?_
 obtain rfl:=sI h
 refine Zg (.inr rfl) hU [(vB z2)] (by omega) ?_
 simp only [push_cast,seval,↓reduceIte,Zc,Tryz.results320,hN0,hN]
theorem Zfx {a0:(Option Zz)} {a1:Int} {r:Int} {O:Objs} {n:Nat} (h:Zc3 a0 a1=some r):GTo Tryz.prog 321 [(gP Zv a0),(vI a1)] O n ((vI r)) O n:=by
 unfold Zc3 at h
 refine K6 Zq Tryz.call321 Tryz.func321 rfl fun hU hN0 hN => ?_
 show W _ _ _ _ ⟨17,[],[(0,(gP Zv a0)),(1,(vI a1))]⟩ (Zw O n []) _
 refine zQ [0,1] ?_
 refine Ze ?_
 refine Ze ?_
 obtain ⟨y2,hy2,h⟩:=bC h
 refine zCd (K4 hy2) [0,1,8] [] ?_
 refine Zo (t:=(!y2)) rfl (fun c7 => ?_) (fun c7 => ?_)
 ·replace h:=Zn c7 h
  refine zQ [4] ?_
  refine zW ?_
  obtain rfl:=sI h
  refine Zg (.inr rfl) hU [(vI 0)] (by omega) ?_
  simp only [push_cast,seval,↓reduceIte,Zc,Tryz.results321,hN0,hN]
 replace h:=Zm c7 h
 refine Qd [0,1] [] ?_
 obtain ⟨x5,hx5,h⟩:=bC h
 obtain ⟨x6,hx6,ax6,bx6,cx6,h⟩:=bE (f:=(eL (eI .u64))) Zv9 (fun _=>rfl) (by decide) h
 refine Zhc [4] (Yt Zq [] ?_)
 refine zF4 hx5 ax6 bx6 cx6 ?_
 refine zW ?_
 obtain rfl:=sI h
 refine Zg (.inr rfl) hU [(vI (x6.length:Int))] (by omega) ?_
 simp only [push_cast,seval,↓reduceIte,Zc,Tryz.results321,hN0,hN]
theorem Zgy {a0:(Option Zz)} {a1:Int} {a2:Int} {a3:Int} {r:Bool} {O:Objs} {n:Nat} (h:Zbb a0 a1 a2 a3=some r):GTo Tryz.prog 299 [(gP Zv a0),(vI a1),(vI a2),(vI a3)] O n ((vB r)) O n:=by
 unfold Zbb at h
 refine K6 Zq Tryz.call299 Tryz.func299 rfl fun hU hN0 hN => ?_
 show W _ _ _ _ ⟨36,[],[(0,(gP Zv a0)),(1,(vI a1)),(2,(vI a2)),(3,(vI a3))]⟩ (Zw O n []) _
 refine zQ [0,1,2,3] ?_
 obtain ⟨z4,hz4,h⟩:=bC h
 refine Yu (E':=⟨36,[],[(8,(vB z4))]⟩) (O':=(Zw O n [])) (n0:=n) ?_ ?_
 ·obtain ⟨y8,hy8,hz4⟩:=bC hz4
  rcases Bool.eq_false_or_eq_true y8 with c11 | c11
  ·replace hz4:=Zn c11 hz4
   rcases Bool.eq_false_or_eq_true (decide (0≤a2)) with c12 | c12
   ·replace hz4:=Zn c12 hz4
    try rw [c12] at c11
    rcases Bool.eq_false_or_eq_true (decide (0≤a3)) with Kj | Kj
    ·replace hz4:=Zn Kj hz4
     try rw [Kj] at c11
     try rw [Kj] at c12
     obtain ⟨y9,hy9,hz4⟩:=bC hz4
     rcases Bool.eq_false_or_eq_true (decide (a3≤y9)) with Qk | Qk
     ·replace hz4:=Zn Qk hz4
      try rw [Qk] at c11
      try rw [Qk] at c12
      try rw [Qk] at Kj
      obtain ⟨y10,hy10,hz4⟩:=bC hz4
      refine Zm7 [none,none,none,none,some true,some true,some true,some true,some true,some true,some true,some true,some true,some true,some true,some true] c11 c12 Kj Qk ?_
      refine zG ?_
      refine (K4 hy8).then ?_
      refine zX4 c11 c12 Kj Qk ?_
      refine zG ?_
      refine (Zfx hy9).then ?_
      refine zX4 c11 c12 Kj Qk ?_
      refine zG ?_
      refine (Zfx hy10).then ?_
      refine zX4 c11 c12 Kj Qk ?_
      refine zG ?_
      exact Zpz hz4 c11 c12 Kj Qk
     replace hz4:=Zm Qk hz4
     try rw [Qk] at c11
     try rw [Qk] at c12
     try rw [Qk] at Kj
     refine Zm7 [none,none,none,none,some true,some true,some true,some true,some true,some false,some false,some false,some false,some false,some false,some false] c11 c12 Kj Qk ?_
     refine zG ?_
     refine (K4 hy8).then ?_
     refine zX4 c11 c12 Kj Qk ?_
     refine zG ?_
     refine (Zfx hy9).then ?_
     refine zX4 c11 c12 Kj Qk ?_
     refine zG ?_
     exact Zpz hz4 c11 c12 Kj Qk
    replace hz4:=Zm Kj hz4
    try rw [Kj] at c11
    try rw [Kj] at c12
    refine Gu [none,none,none,none,some false,some false,some false,some false,some false,some false,some false,some false,some false,some false,some false,some false] c11 c12 Kj ?_
    refine zG ?_
    refine (K4 hy8).then ?_
    refine zX3 c11 c12 Kj ?_
    refine zG ?_
    exact Zfk hz4 c11 c12 Kj
   replace hz4:=Zm c12 hz4
   try rw [c12] at c11
   refine Xy [none,none,none,none,some false,some false,some false,some false,some false,some false,some false,some false,some false,some false,some false,some false] c11 c12 ?_
   refine zG ?_
   refine (K4 hy8).then ?_
   refine zX2 c11 c12 ?_
   refine zG ?_
   exact Zbo hz4 c11 c12
  replace hz4:=Zm c11 hz4
  refine Q2 [none,none,none,none,some false,some false,some false,some false,some false,some false,some false,some false,some false,some false,some false,some false] c11 ?_
  refine zG ?_
  refine (K4 hy8).then ?_
  refine zX1 c11 ?_
  refine zG ?_
  exact Qf hz4 c11
 refine zW ?_
 obtain rfl:=sI h
 refine Zg (.inr rfl) hU [(vB z4)] (by omega) ?_
 simp only [push_cast,seval,↓reduceIte,Zc,Tryz.results299,hN0,hN]
theorem Zaq {a0:(Option Zz)} {a1:Int} {a2:Int} {r:(Int×Bool)} {O:Objs} {n:Nat} (h:Vd a0 a1 a2=some r):GTo Tryz.prog 258 [(gP Zv a0),(vI a1),(vI a2)] O n (.tup [.val (.int .u64 r.1),(vB r.2)]) O n:=by
 unfold Vd at h
 refine K6 Zq Tryz.call258 Tryz.func258 rfl fun hU hN0 hN => ?_
 show W _ _ _ _ ⟨23,[],[(0,(gP Zv a0)),(1,(vI a1)),(2,(vI a2))]⟩ (Zw O n []) _
 refine zQ [0,1,2] ?_
 refine Ze ?_
 refine Ze ?_
 obtain ⟨y2,hy2,h⟩:=bC h
 refine zCd (Zgy hy2) [0,1,2,12] [] ?_
 refine Zo (t:=(!y2)) rfl (fun c9 => ?_) (fun c9 => ?_)
 ·replace h:=Zn c9 h
  refine zQ [6,7] ?_
  refine zW ?_
  obtain rfl:=sI h
  refine Zg (.inr rfl) hU [.val (.int .u64 0),(vB false)] (by omega) ?_
  simp only [push_cast,seval,↓reduceIte,Zc,Tryz.results258,hN0,hN]
 replace h:=Zm c9 h
 refine Qd [0,1,2] [] ?_
 obtain ⟨x6,hx6,h⟩:=bC h
 obtain ⟨x7,hx7,ax7,bx7,cx7,h⟩:=bE (f:=(eL (eI .u64))) Zv9 (fun _=>rfl) (by decide) h
 obtain ⟨x8,hx8,ax8,bx8,cx8,h⟩:=bE (f:=(eI .u64)) Zbn (fun _=>rfl) (by decide) h
 refine Zhc [6,7] (Yt Zq [] ?_)
 refine zF7 hx6 ax7 bx7 cx7 ax8 bx8 cx8 ?_
 refine zW ?_
 obtain rfl:=sI h
 refine Zg (.inr rfl) hU [.val (.int .u64 x8),(vB true)] (by omega) ?_
 simp only [push_cast,seval,↓reduceIte,Zc,Tryz.results258,hN0,hN]
theorem Zqn {a0:(Option Zz)} {a1:Int} {a2:Int} {a3:Int} {r:((List Int)×Bool)} {O:Objs} {n:Nat} (h:Zgs a0 a1 a2 a3=some r):GTo Tryz.prog 302 [(gP Zv a0),(vI a1),(vI a2),(vI a3)] O n (.tup [(sL (eI .u64) r.1),(vB r.2)]) O n:=by
 unfold Zgs at h
 refine K6 Zq Tryz.call302 Tryz.func302 rfl fun hU hN0 hN => ?_
 show W _ _ _ _ ⟨29,[],[(0,(gP Zv a0)),(1,(vI a1)),(2,(vI a2)),(3,(vI a3))]⟩ (Zw O n []) _
 refine zQ [0,1,2,3] ?_
 refine Ze ?_
 refine Ze ?_
 obtain ⟨y2,hy2,h⟩:=bC h
 refine zCd (Zgy hy2) [0,1,2,3,15] [] ?_
 refine Zo (t:=(!y2)) rfl (fun c11 => ?_) (fun c11 => ?_)
 ·replace h:=Zn c11 h
  refine zQ [8,9] ?_
  refine zW ?_
  obtain rfl:=sI h
  refine Zg (.inr rfl) hU [nV,(vB false)] (by omega) ?_
  simp only [push_cast,seval,↓reduceIte,Zc,Tryz.results302,hN0,hN]
 replace h:=Zm c11 h
 refine Qd [0,1,2,3] [] ?_
 refine Ze ?_
 obtain ⟨x7,hx7,h⟩:=bC h
 obtain ⟨x8,hx8,ax8,bx8,cx8,h⟩:=bE (f:=(eL (eI .u64))) Zv9 (fun _=>rfl) (by decide) h
 obtain ⟨l9,al9,bl9,cl9,gl9,h⟩:=bS (lo:=(some (.i64,a2))) (hi:=(some (.i64,(IntKind.i64.wrap (a2+a3))))) (f:=(eI .u64)) rfl rfl Zkc Zbn (fun _=>rfl) h
 obtain ⟨y10,hy10,h⟩:=bC h
 refine Yo5 [] hx7 ax8 bx8 cx8 al9 bl9 cl9 gl9 ?_
 refine (Zcy  hy10).then ?_
 refine zF8 hx7 ax8 bx8 cx8 al9 bl9 cl9 gl9 ?_
 refine zD [8,9] [true] ?_
 refine zW ?_
 obtain rfl:=sI h
 refine Zg (.inr rfl) hU [.row n y10.length,(vB true)] (by omega) ?_
 simp only [push_cast,seval,↓reduceIte,Zc,Tryz.results302,hN0,hN]
theorem Zl9 {a0:(Option Zz)} {a1:Xk} {a2:Int} {a3:Int} {r:(Qy×Int)} {O:Objs} {n:Nat} (h:Zhx a0 a1 a2 a3=some r):GTo Tryz.prog 264 [(gP Zv a0),.agg (Q7 a1),(vI a2),(vI a3)] O n (.tup [.agg (Vn r.1),(vI r.2)]) O n:=by
 unfold Zhx at h
 refine K6 Zq Tryz.call264 Tryz.func264 rfl fun hU hN0 hN => ?_
 show W _ _ _ _ ⟨36,[],[(0,(gP Zv a0)),(1,.agg (Q7 a1)),(2,(vI a2)),(3,(vI a3))]⟩ (Zw O n []) _
 refine zQ [0,2,3,5,8] ?_
 refine Ze ?_
 refine zQ [0,2,3,5,8,14] ?_
 refine Zo (t:=(a1.Kind == 4)) rfl (fun c7 => ?_) (fun c7 => ?_)
 ·replace h:=Zn c7 h
  refine Ze ?_
  refine zRd [8,9] [false,true] ?_
  refine zW ?_
  obtain rfl:=sI h
  refine Zg (.inr rfl) hU [.agg [(vI 0),(vI 0),(vI 0),(vI 0),(vI 0),(vI 0),(vI 0),(vB false),(vI 0),(vI 0)],(vI 9)] (by omega) ?_
  simp only [push_cast,seval,↓reduceIte,Zc,Tryz.results264,hN0,hN]
 replace h:=Zm c7 h
 refine Qd [0,2,3,5,8] [true,true] ?_
 refine Ze ?_
 obtain ⟨y2,hy2,h⟩:=bC h
 refine zCd (Zmv hy2) [0,2,3,5,8,10,11] [true,true] ?_
 refine Ze ?_
 refine zQ [0,2,3,5,8,10,22] ?_
 refine Zo (t:=(!y2.2)) rfl (fun c6 => ?_) (fun c6 => ?_)
 ·replace h:=Zn c6 h
  refine Ze ?_
  refine zRd [8,9] [false,true] ?_
  refine zW ?_
  obtain rfl:=sI h
  refine Zg (.inr rfl) hU [.agg [(vI 0),(vI 0),(vI 0),(vI 0),(vI 0),(vI 0),(vI 0),(vB false),(vI 0),(vI 0)],(vI 8)] (by omega) ?_
  simp only [push_cast,seval,↓reduceIte,Zc,Tryz.results264,hN0,hN]
 replace h:=Zm c6 h
 refine Qd [0,2,3,5,8,10] [true,true] ?_
 refine Ze ?_
 refine Ze ?_
 obtain ⟨y4,hy4,h⟩:=bC h
 refine zCd (Zgy hy4) [2,3,5,8,29] [true,true] ?_
 refine Zo (t:=(!y4)) rfl (fun c5 => ?_) (fun c5 => ?_)
 ·replace h:=Zn c5 h
  refine Ze ?_
  refine zRd [8,9] [false,true] ?_
  refine zW ?_
  obtain rfl:=sI h
  refine Zg (.inr rfl) hU [.agg [(vI 0),(vI 0),(vI 0),(vI 0),(vI 0),(vI 0),(vI 0),(vB false),(vI 0),(vI 0)],(vI 7)] (by omega) ?_
  simp only [push_cast,seval,↓reduceIte,Zc,Tryz.results264,hN0,hN]
 replace h:=Zm c5 h
 refine Qd [2,3,5,8] [true,true] ?_
 refine Ze ?_
 refine zRd [2,3,5,8] [true,true] ?_
 refine Ze ?_
 refine zRd [8,9] [false,true] ?_
 refine zW ?_
 obtain rfl:=sI h
 refine Zg (.inr rfl) hU [.agg [(vI a1.Kind),(vI 0),(vI a1.Data),(vI a1.Ptrs),(vI a1.Code),(vI a1.Count),(vI a1.Segment),(vB a1.Double),(vI a2),(vI a3)],(vI 0)] (by omega) ?_
 simp only [push_cast,seval,↓reduceIte,Zc,Tryz.results264,hN0,hN]
theorem Z06 {a0:(Option Zz)} {a1:Int} {a2:Int} {r:(Qy×Int)} {O:Objs} {n:Nat} (h:Znh a0 a1 a2=some r):GTo Tryz.prog 262 [(gP Zv a0),(vI a1),(vI a2)] O n (.tup [.agg (Vn r.1),(vI r.2)]) O n:=by
 unfold Znh at h
 refine K6 Zq Tryz.call262 Tryz.func262 rfl fun hU hN0 hN => ?_
 show W _ _ _ _ ⟨56,[],[(0,(gP Zv a0)),(1,(vI a1)),(2,(vI a2))]⟩ (Zw O n []) _
 refine zQ [0,1,2,6] ?_
 refine Ze ?_
 obtain ⟨y2,hy2,h⟩:=bC h
 refine zCd (Zqn hy2) [0,6,8,9] [true] ?_
 refine Ze ?_
 refine zQ [0,6,8,20] ?_
 refine Zo (t:=(!y2.2)) rfl (fun c11 => ?_) (fun c11 => ?_)
 ·replace h:=Zn c11 h
  refine Ze ?_
  refine zRd [6,7] [true] ?_
  refine zW ?_
  obtain rfl:=sI h
  refine Zg (.inr rfl) hU [.agg [(vI 0),(vI 0),(vI 0),(vI 0),(vI 0),(vI 0),(vI 0),(vB false),(vI 0),(vI 0)],(vI 7)] (by omega) ?_
  simp only [push_cast,seval,↓reduceIte,Zc,Tryz.results262,hN0,hN]
 replace h:=Zm c11 h
 refine Qd [0,6,8] [true] ?_
 obtain ⟨x3,hx3,ax3,bx3,cx3,h⟩:=bE (f:=(eI .u64)) Zbn (fun _=>rfl) (by decide) h
 obtain ⟨y4,hy4,h⟩:=bC h
 obtain ⟨x5,hx5,ax5,bx5,cx5,h⟩:=bE (f:=(eI .u64)) Zbn (fun _=>rfl) (by decide) h
 obtain ⟨y6,hy6,h⟩:=bC h
 refine Yu (E':=⟨56,[],[(0,(gP Zv a0)),(6,.ref n 0),(10,.ref (n+1) 0),(11,.ref (n+2) 0)]⟩) (O':=(Zw O n [some ⟨false,228,10,1,[(vI 0),(vI 0),(vI 0),(vI 0),(vI 0),(vI 0),(vI 0),(vB false),(vI 0),(vI 0)]⟩,some ⟨false,191,8,1,(Q7 y4)⟩,some ⟨false,191,8,1,(Q7 y6)⟩])) (n0:=(n+3)) ?_ ?_
 ·refine Z2d Zq (by kernel_rfl) [.low,.low,.low,.low,.low,.low,.low,.low,.pass,.pass,.pass,.pass] (fun i=>i < (n+1)) 8 9 [0,1,2,3,4,5,6,7] [10,11] [.low,.low,.low,.low,.low,.low,.low,.low] [.pass,.pass,.pass,.pass] [.pass,.pass,.pass,.pass] [] (by kernel_rfl) rfl rfl rfl ?_
  refine zF6 ax3 bx3 cx3 ax5 bx5 cx5 ?_
  repeat (with_reducible refine And.intro (by omega) ?_)
  first | refine PCallA.of (fun _ _=>G0 hy4) ?_ | refine PCall.of (G0 hy4) ?_
  refine zF6 ax3 bx3 cx3 ax5 bx5 cx5 ?_
  repeat (with_reducible refine And.intro (by omega) ?_)
  first | refine PCallA.of (fun _ _=>G0 hy6) ?_ | refine PCall.of (G0 hy6) ?_
  refine zF6 ax3 bx3 cx3 ax5 bx5 cx5 ?_
  repeat (with_reducible refine And.intro (by omega) ?_)
  refine And.intro ?_ ?_
  ·refine zF6 ax3 bx3 cx3 ax5 bx5 cx5 ?_
   repeat (with_reducible refine And.intro (by first | exact Y3 rfl | exact Yp) ?_)
   exact Yje ax3 bx3 cx3 ax5 bx5 cx5
  refine zF6 ax3 bx3 cx3 ax5 bx5 cx5 ?_
  repeat (with_reducible refine And.intro (by first | exact Y3 rfl | exact Yp) ?_)
  refine And.intro rfl ?_
  refine Fit2.trans (E':=(⟨56,[],[(0,(gP Zv a0)),(6,.ref n 0),(10,.ref (n+2) 0),(11,.ref (n+1) 0)]⟩:Env)) (O':=(Zw O n [some ⟨false,228,10,1,[(vI 0),(vI 0),(vI 0),(vI 0),(vI 0),(vI 0),(vI 0),(vB false),(vI 0),(vI 0)]⟩,some ⟨false,191,8,1,(Q7 y6)⟩,some ⟨false,191,8,1,(Q7 y4)⟩])) (n':=(n+3)) (Fit2.of (Z6 hU rfl rfl ?_) (by omega)) ?_
  ·exact Ykq ax3 bx3 cx3 ax5 bx5 cx5
  refine Jg (k:=3) (k':=3) hU [0,2,1] [0,2,1] rfl rfl rfl rfl ⟨rfl,rfl⟩ ?_
  exact Gl
 refine Ze ?_
 refine zQD [0,6,10,11,36] [none,none] ?_
 refine Zo (t:=(cond (y4.Kind != 3) true y4.Double)) rfl (fun c10 => ?_) (fun c10 => ?_)
 ·replace h:=Zn c10 h
  refine Ze ?_
  refine zRd [6,7] [true,false,false] ?_
  refine zW ?_
  obtain rfl:=sI h
  refine Zg (.inr rfl) hU [.agg [(vI 0),(vI 0),(vI 0),(vI 0),(vI 0),(vI 0),(vI 0),(vB false),(vI 0),(vI 0)],(vI 8)] (by omega) ?_
  simp only [push_cast,seval,↓reduceIte,Zc,Tryz.results262,hN0,hN]
 replace h:=Zm c10 h
 refine Qd [0,6,10,11] [true,true,true] ?_
 refine Ze ?_
 refine zQD [0,6,10,11,45] [none,none,none] ?_
 refine Zo (t:=(cond (y6.Kind != 4) (y6.Off != 0) false)) rfl (fun c9 => ?_) (fun c9 => ?_)
 ·replace h:=Zn c9 h
  refine Ze ?_
  refine zRd [6,7] [true,false,false] ?_
  refine zW ?_
  obtain rfl:=sI h
  refine Zg (.inr rfl) hU [.agg [(vI 0),(vI 0),(vI 0),(vI 0),(vI 0),(vI 0),(vI 0),(vB false),(vI 0),(vI 0)],(vI 8)] (by omega) ?_
  simp only [push_cast,seval,↓reduceIte,Zc,Tryz.results262,hN0,hN]
 replace h:=Zm c9 h
 refine Qd [0,6,10,11] [true,true,true] ?_
 refine Ze ?_
 obtain ⟨y8,hy8,h⟩:=bC h
 refine zCd (Zl9 hy8) [6,7] [true,false,false] ?_
 refine zW ?_
 obtain rfl:=sI h
 refine Zg (.inr rfl) hU [.agg (Vn y8.1),(vI y8.2)] (by omega) ?_
 simp only [push_cast,seval,↓reduceIte,Zc,Tryz.results262,hN0,hN]
theorem Z07 {a0:(Option Zz)} {a1:Int} {a2:Int} {r:(Qy×Int)} {O:Objs} {n:Nat} (h:Zni a0 a1 a2=some r):GTo Tryz.prog 263 [(gP Zv a0),(vI a1),(vI a2)] O n (.tup [.agg (Vn r.1),(vI r.2)]) O n:=by
 unfold Zni at h
 refine K6 Zq Tryz.call263 Tryz.func263 rfl fun hU hN0 hN => ?_
 show W _ _ _ _ ⟨34,[],[(0,(gP Zv a0)),(1,(vI a1)),(2,(vI a2))]⟩ (Zw O n []) _
 refine zQ [0,1,2,6] ?_
 refine Ze ?_
 obtain ⟨y2,hy2,h⟩:=bC h
 refine zCd (Zaq hy2) [0,1,2,6,8,9] [true] ?_
 refine Ze ?_
 refine zQ [0,1,2,6,8,19] ?_
 refine Zo (t:=(!y2.2)) rfl (fun c7 => ?_) (fun c7 => ?_)
 ·replace h:=Zn c7 h
  refine Ze ?_
  refine zRd [6,7] [true] ?_
  refine zW ?_
  obtain rfl:=sI h
  refine Zg (.inr rfl) hU [.agg [(vI 0),(vI 0),(vI 0),(vI 0),(vI 0),(vI 0),(vI 0),(vB false),(vI 0),(vI 0)],(vI 7)] (by omega) ?_
  simp only [push_cast,seval,↓reduceIte,Zc,Tryz.results263,hN0,hN]
 replace h:=Zm c7 h
 refine Qd [0,1,2,6,8] [true] ?_
 refine Ze ?_
 obtain ⟨y4,hy4,h⟩:=bC h
 refine zCd (G0 hy4) [0,1,2,6,10] [true,true] ?_
 refine Ze ?_
 obtain ⟨y6,hy6,h⟩:=bC h
 refine zCd (Zl9 hy6) [6,7] [true,false] ?_
 refine zW ?_
 obtain rfl:=sI h
 refine Zg (.inr rfl) hU [.agg (Vn y6.1),(vI y6.2)] (by omega) ?_
 simp only [push_cast,seval,↓reduceIte,Zc,Tryz.results263,hN0,hN]
theorem Z05 {a0:(Option Zz)} {a1:Int} {a2:Int} {r:(Qy×Int)} {O:Objs} {n:Nat} (h:Zng a0 a1 a2=some r):GTo Tryz.prog 207 [(gP Zv a0),(vI a1),(vI a2)] O n (.tup [.agg (Vn r.1),(vI r.2)]) O n:=by
 unfold Zng at h
 refine K6 Zq Tryz.call207 Tryz.func207 rfl fun hU hN0 hN => ?_
 show W _ _ _ _ ⟨67,[],[(0,(gP Zv a0)),(1,(vI a1)),(2,(vI a2))]⟩ (Zw O n []) _
 refine zQ [0,1,2,6] ?_
 refine Ze ?_
 obtain ⟨y2,hy2,h⟩:=bC h
 refine zCd (Zaq hy2) [0,1,2,6,8,9] [true] ?_
 refine Ze ?_
 refine zQ [0,1,2,6,8,19] ?_
 refine Zo (t:=(!y2.2)) rfl (fun Qk => ?_) (fun Qk => ?_)
 ·replace h:=Zn Qk h
  refine Ze ?_
  refine zRd [6,7] [true] ?_
  refine zW ?_
  obtain rfl:=sI h
  refine Zg (.inr rfl) hU [.agg [(vI 0),(vI 0),(vI 0),(vI 0),(vI 0),(vI 0),(vI 0),(vB false),(vI 0),(vI 0)],(vI 7)] (by omega) ?_
  simp only [push_cast,seval,↓reduceIte,Zc,Tryz.results207,hN0,hN]
 replace h:=Zm Qk h
 refine Qd [0,1,2,6,8] [true] ?_
 refine Ze ?_
 obtain ⟨y4,hy4,h⟩:=bC h
 refine zCd (G0 hy4) [0,1,2,6,10] [true,true] ?_
 refine Ze ?_
 refine Z9 ?_
 refine zQ [0,1,2,6,10,23] ?_
 refine Zo (t:=(y4.Kind == 0)) rfl (fun Kj => ?_) (fun Kj => ?_)
 ·replace h:=Zn Kj h
  refine Ze ?_
  refine zRd [6,7] [true,false] ?_
  refine zW ?_
  obtain rfl:=sI h
  refine Zg (.inr rfl) hU [.agg [(vI 0),(vI 0),(vI 0),(vI 0),(vI 0),(vI 0),(vI 0),(vB false),(vI 0),(vI 0)],(vI 0)] (by omega) ?_
  simp only [push_cast,seval,↓reduceIte,Zc,Tryz.results207,hN0,hN]
 replace h:=Zm Kj h
 refine zQD [0,1,2,6,10,28] [none,none] ?_
 refine Zo (t:=(cond (y4.Kind == 3) y4.Double false)) rfl (fun c12 => ?_) (fun c12 => ?_)
 ·replace h:=Zn c12 h
  refine Ze ?_
  obtain ⟨y6,hy6,h⟩:=bC h
  refine zCd (Z06 hy6) [6,7] [true,false] ?_
  refine zW ?_
  obtain rfl:=sI h
  refine Zg (.inr rfl) hU [.agg (Vn y6.1),(vI y6.2)] (by omega) ?_
  simp only [push_cast,seval,↓reduceIte,Zc,Tryz.results207,hN0,hN]
 replace h:=Zm c12 h
 refine zQ [0,1,2,6,10,44] ?_
 refine Zo (t:=(y4.Kind == 3)) rfl (fun c11 => ?_) (fun c11 => ?_)
 ·replace h:=Zn c11 h
  refine Ze ?_
  obtain ⟨y8,hy8,h⟩:=bC h
  refine zCd (Z07 hy8) [6,7] [true,false] ?_
  refine zW ?_
  obtain rfl:=sI h
  refine Zg (.inr rfl) hU [.agg (Vn y8.1),(vI y8.2)] (by omega) ?_
  simp only [push_cast,seval,↓reduceIte,Zc,Tryz.results207,hN0,hN]
 replace h:=Zm c11 h
 refine Qd [0,1,2,6,10] [true,true] ?_
 refine Ze ?_
 obtain ⟨y10,hy10,h⟩:=bC h
 refine zCd (Zl9 hy10) [6,7] [true,false] ?_
 refine zW ?_
 obtain rfl:=sI h
 refine Zg (.inr rfl) hU [.agg (Vn y10.1),(vI y10.2)] (by omega) ?_
 simp only [push_cast,seval,↓reduceIte,Zc,Tryz.results207,hN0,hN]
theorem Zqt {a0:Zj} {r:(Zj×Int)} {O:Objs} {n:Nat} (h:Zgw a0=some r):GTo Tryz.prog 208 [.agg (Zu a0)] O n (.tup [.agg (Zu r.1),(vI r.2)]) O n:=by
 unfold Zgw at h
 refine K6 Zq Tryz.call208 Tryz.func208 rfl fun hU hN0 hN => ?_
 show W _ _ _ _ ⟨56,[],[(0,.agg (Zu a0))]⟩ (Zw O n []) _
 refine zQ [1,2] ?_
 refine Ze ?_
 obtain ⟨y2,hy2,h⟩:=bC h
 refine zCd (Zaq hy2) [1,2,4] [true,true] ?_
 refine Ze ?_
 obtain ⟨y4,hy4,h⟩:=bC h
 refine zCd (G0 hy4) [1,2,6] [true,true,true] ?_
 refine Ze ?_
 refine zQD [1,2,6,44] [none,none,none,none,none,none,none,none,none,none,none,none,none,none,none,none,none] ?_
 refine Zo (t:=(cond (cond (cond (y4.Kind != 0) (y4.Kind != 1) false) true (decide (y4.Off < 0))) true (decide (a0.count < (IntKind.i64.wrap (y4.Off * (IntKind.i64.wrap (y4.Data+y4.Ptrs)))))))) rfl (fun c5 => ?_) (fun c5 => ?_)
 ·replace h:=Zn c5 h
  refine Ze ?_
  refine zRd [2,3] [false,true,false] ?_
  refine zW ?_
  obtain rfl:=sI h
  refine Zg (.inr rfl) hU [.agg [.val (.pointer none),(vI 0),(vI 0),(vI 0),(vI 0),(vI 0),(vI 0),(vI 0),(vI 0)],(vI 8)] (by omega) ?_
  simp only [push_cast,seval,↓reduceIte,Zc,Tryz.results208,hN0,hN]
 replace h:=Zm c5 h
 refine Qd [1,2,6] [true,true,true] ?_
 refine Ze ?_
 refine Zhb Zq (by kernel_rfl) [.plain,.plain,.low,.low,.low,.low,.plain,.pass,.plain,.pass,.plain,.bar] (fun i=>i≠n+0) [0,1,2,3,4,5,6,7,8,9,10,11] [.plain,.plain,.low,.low,.low,.low,.plain,.pass,.plain,.pass,.plain,.bar] [] (by kernel_rfl) rfl ?_
 refine zS ?_
 refine zO ?_
 refine zDs [1,2] [true,true,false] ?_
 refine zRd [2,3] [false,true,false] ?_
 refine zW ?_
 obtain rfl:=sI h
 refine Zg (.inr rfl) hU [.agg [(gP Zv a0.a),(vI a0.kind),(vI a0.segment),(vI a0.at_),(vI y4.Data),(vI y4.Ptrs),(vI y4.Off),(vI a0.code),(vI a0.index)],(vI 0)] (by omega) ?_
 simp only [push_cast,seval,↓reduceIte,Zc,Tryz.results208,hN0,hN]
theorem Znl {a0:(Option Zz)} {a1:Int} {a2:Int} {r:(Zj×Int)} {O:Objs} {n:Nat} (h:Zjc a0 a1 a2=some r):GTo Tryz.prog 140 [(gP Zv a0),(vI a1),(vI a2)] O n (.tup [.agg (Zu r.1),(vI r.2)]) O n:=by
 unfold Zjc at h
 refine K6 Zq Tryz.call140 Tryz.func140 rfl fun hU hN0 hN => ?_
 show W _ _ _ _ ⟨66,[],[(0,(gP Zv a0)),(1,(vI a1)),(2,(vI a2))]⟩ (Zw O n []) _
 refine zQ [0,1,2,6] ?_
 refine Ze ?_
 obtain ⟨y2,hy2,h⟩:=bC h
 refine zCd (Z05 hy2) [0,6,8,9] [true,true] ?_
 refine Ze ?_
 refine zQD [0,6,8,9,25] [none,none,none,none] ?_
 refine Zo (t:=(cond (y2.2 != 0) true (y2.1.P.Kind == 0))) rfl (fun c7 => ?_) (fun c7 => ?_)
 ·replace h:=Zn c7 h
  refine Ze ?_
  refine zRd [6,7] [true,false] ?_
  refine zW ?_
  obtain rfl:=sI h
  refine Zg (.inr rfl) hU [.agg [.val (.pointer none),(vI 0),(vI 0),(vI 0),(vI 0),(vI 0),(vI 0),(vI 0),(vI 0)],(vI y2.2)] (by omega) ?_
  simp only [push_cast,seval,↓reduceIte,Zc,Tryz.results140,hN0,hN]
 replace h:=Zm c7 h
 refine Qd [0,6,8] [true,true] ?_
 refine Ze ?_
 refine zRd [6,8,10] [true,true,true] ?_
 refine Ze ?_
 refine zQ [6,8,10,37] ?_
 refine Zo (t:=(y2.1.P.Kind == 1)) rfl (fun c6 => ?_) (fun c6 => ?_)
 ·replace h:=Zn c6 h
  refine Ze ?_
  refine Zhb Zq (by kernel_rfl) [.low,.low,.low,.low,.low,.low,.plain,.pass,.plain,.pass,.plain,.bar] (fun i=>i≠n+2) [0,1,2,3,4,5,6,7,8,9,10,11] [.low,.low,.low,.low,.low,.low,.plain,.pass,.plain,.pass,.plain,.bar] [] (by kernel_rfl) rfl ?_
  refine zS ?_
  refine zO ?_
  refine zDs [6,10] [true,false,true] ?_
  refine zRd [6,7] [true,false,false] ?_
  refine zW ?_
  obtain rfl:=sI h
  refine Zg (.inr rfl) hU [.agg [(gP Zv a0),(vI 1),(vI y2.1.Segment),(vI y2.1.At),(vI y2.1.P.Data),(vI y2.1.P.Ptrs),(vI 0),(vI 0),(vI 0)],(vI 0)] (by omega) ?_
  simp only [push_cast,seval,↓reduceIte,Zc,Tryz.results140,hN0,hN]
 replace h:=Zm c6 h
 refine Qd [6,8,10] [true,true,true] ?_
 refine Ze ?_
 refine Zhb Zq (by kernel_rfl) [.plain,.plain,.plain,.plain,.low,.low,.low,.plain,.pass,.plain,.bar] (fun i=>i≠n+2) [0,1,2,3,4,5,6,7,8,9,10] [.plain,.plain,.plain,.plain,.low,.low,.low,.plain,.pass,.plain,.bar] [] (by kernel_rfl) rfl ?_
 refine zS ?_
 refine zO ?_
 refine zDs [6,8,10] [true,true,true] ?_
 refine zQ [6,10,60] ?_
 refine Zo (t:=(y2.1.P.Code == 7)) rfl (fun c5 => ?_) (fun c5 => ?_)
 ·replace h:=Zn c5 h
  refine Ze ?_
  obtain ⟨y4,hy4,h⟩:=bC h
  refine zCd (Zqt hy4) [6,7] [true,false,false] ?_
  refine zW ?_
  obtain rfl:=sI h
  refine Zg (.inr rfl) hU [.agg (Zu y4.1),(vI y4.2)] (by omega) ?_
  simp only [push_cast,seval,↓reduceIte,Zc,Tryz.results140,hN0,hN]
 replace h:=Zm c5 h
 refine Qd [6,10] [true,false,true] ?_
 refine Ze ?_
 refine zRd [6,7] [true,false,false] ?_
 refine zW ?_
 obtain rfl:=sI h
 refine Zg (.inr rfl) hU [.agg [(gP Zv a0),(vI (IntKind.i64.wrap (y2.1.P.Code+2))),(vI y2.1.Segment),(vI y2.1.At),(vI 0),(vI 0),(vI y2.1.P.Count),(vI 0),(vI 0)],(vI 0)] (by omega) ?_
 simp only [push_cast,seval,↓reduceIte,Zc,Tryz.results140,hN0,hN]
theorem Zpd {a0:(Option Zz)} {r:(Zj×Int)} {O:Objs} {n:Nat} (h:Zd2 a0=some r):GTo Tryz.prog 86 [(gP Zv a0)] O n (.tup [.agg (Zu r.1),(vI r.2)]) O n:=by
 unfold Zd2 at h
 refine K6 Zq Tryz.call86 Tryz.func86 rfl fun hU hN0 hN => ?_
 show W _ _ _ _ ⟨8,[],[(0,(gP Zv a0))]⟩ (Zw O n []) _
 refine zQ [0,2] ?_
 refine Ze ?_
 obtain ⟨y2,hy2,h⟩:=bC h
 refine zCd (Znl hy2) [2,3] [true] ?_
 refine zW ?_
 obtain rfl:=sI h
 refine Zg (.inr rfl) hU [.agg (Zu y2.1),(vI y2.2)] (by omega) ?_
 simp only [push_cast,seval,↓reduceIte,Zc,Tryz.results86,hN0,hN]
theorem Qu {a0:Zj} {r:Int} {O:Objs} {n:Nat} (h:Qa a0=some r):GTo Tryz.prog 136 [.agg (Zu a0)] O n ((vI r)) O n:=by
 unfold Qa at h
 refine K6 Zq Tryz.call136 Tryz.func136 rfl fun hU hN0 hN => ?_
 show W _ _ _ _ ⟨5,[],[(0,.agg (Zu a0))]⟩ (Zw O n []) _
 refine zQ [1] ?_
 refine zQ [2] ?_
 refine zW ?_
 obtain rfl:=sI h
 refine Zg (.inr rfl) hU [(vI a0.kind)] (by omega) ?_
 simp only [push_cast,seval,↓reduceIte,Zc,Tryz.results136,hN0,hN]
theorem Qt {a0:Zj} {r:Int} {O:Objs} {n:Nat} (h:Xj a0=some r):GTo Tryz.prog 202 [.agg (Zu a0)] O n ((vI r)) O n:=by
 unfold Xj at h
 refine K6 Zq Tryz.call202 Tryz.func202 rfl fun hU hN0 hN => ?_
 show W _ _ _ _ ⟨10,[],[(0,.agg (Zu a0))]⟩ (Zw O n []) _
 refine zQ [1] ?_
 refine Ze ?_
 refine zQ [1,5] ?_
 refine Zo (t:=(a0.kind == 1)) rfl (fun c1 => ?_) (fun c1 => ?_)
 ·replace h:=Zn c1 h
  refine zQ [2] ?_
  refine zW ?_
  obtain rfl:=sI h
  refine Zg (.inr rfl) hU [(vI a0.ptrs)] (by omega) ?_
  simp only [push_cast,seval,↓reduceIte,Zc,Tryz.results202,hN0,hN]
 replace h:=Zm c1 h
 refine Qd [1] [true] ?_
 refine zQ [2] ?_
 refine zW ?_
 obtain rfl:=sI h
 refine Zg (.inr rfl) hU [(vI a0.count)] (by omega) ?_
 simp only [push_cast,seval,↓reduceIte,Zc,Tryz.results202,hN0,hN]
theorem Zn8 {a0:Zj} {r:Int} {O:Objs} {n:Nat} (h:Zh4 a0=some r):GTo Tryz.prog 181 [.agg (Zu a0)] O n ((vI r)) O n:=by
 unfold Zh4 at h
 refine K6 Zq Tryz.call181 Tryz.func181 rfl fun hU hN0 hN => ?_
 show W _ _ _ _ ⟨16,[],[(0,.agg (Zu a0))]⟩ (Zw O n []) _
 refine zQ [1] ?_
 refine Ze ?_
 refine Z9 ?_
 refine Ze ?_
 obtain ⟨y2,hy2,h⟩:=bC h
 refine zCd (Qu hy2) [1,3] [true] ?_
 refine Zo (t:=(y2 == 0)) rfl (fun c12 => ?_) (fun c12 => ?_)
 ·replace h:=Zn c12 h
  refine zQ [2] ?_
  refine zW ?_
  obtain rfl:=sI h
  refine Zg (.inr rfl) hU [(vI 0)] (by omega) ?_
  simp only [push_cast,seval,↓reduceIte,Zc,Tryz.results181,hN0,hN]
 replace h:=Zm c12 h
 obtain ⟨z5,hz5,h⟩:=bC h
 refine Yu (E':=⟨16,[],[(7,(vB z5))]⟩) (O':=(Zw O n [none])) (n0:=(n+1)) ?_ ?_
 ·obtain ⟨y8,hy8,hz5⟩:=bC hz5
  rcases Bool.eq_false_or_eq_true (y8 == 9) with c10 | c10
  ·replace hz5:=Zn c10 hz5
   obtain ⟨y9,hy9,hz5⟩:=bC hz5
   refine Q2 [some true,some true,some true] c10 ?_
   refine (Qu hy8).then ?_
   refine zX1 c10 ?_
   refine (Qt hy9).then ?_
   refine zX1 c10 ?_
   exact Qf hz5 c10
  replace hz5:=Zm c10 hz5
  refine Q2 [some false,some false,some false] c10 ?_
  refine (Qu hy8).then ?_
  refine zX1 c10 ?_
  exact Qf hz5 c10
 refine Zo (t:=z5) rfl (fun c11 => ?_) (fun c11 => ?_)
 ·replace h:=Zn c11 h
  refine zQ [2] ?_
  refine zW ?_
  obtain rfl:=sI h
  refine Zg (.inr rfl) hU [(vI 2)] (by omega) ?_
  simp only [push_cast,seval,↓reduceIte,Zc,Tryz.results181,hN0,hN]
 replace h:=Zm c11 h
 refine Qd [] [false] ?_
 refine zQ [2] ?_
 refine zW ?_
 obtain rfl:=sI h
 refine Zg (.inr rfl) hU [(vI 1)] (by omega) ?_
 simp only [push_cast,seval,↓reduceIte,Zc,Tryz.results181,hN0,hN]
theorem Zb6 {a0:Zj} {r:Int} {O:Objs} {n:Nat} (h:K0 a0=some r):GTo Tryz.prog 223 [.agg (Zu a0)] O n ((vI r)) O n:=by
 unfold K0 at h
 refine K6 Zq Tryz.call223 Tryz.func223 rfl fun hU hN0 hN => ?_
 show W _ _ _ _ ⟨11,[],[(0,.agg (Zu a0))]⟩ (Zw O n []) _
 refine zQ [1] ?_
 refine Ze ?_
 refine zQ [1,4] ?_
 refine Z9 ?_
 refine zQ [1,4,5] ?_
 refine Zo (t:=(a0.kind == 1)) rfl (fun c2 => ?_) (fun c2 => ?_)
 ·replace h:=Zn c2 h
  refine zQ [2] ?_
  refine zW ?_
  obtain rfl:=sI h
  refine Zg (.inr rfl) hU [(vI a0.words)] (by omega) ?_
  simp only [push_cast,seval,↓reduceIte,Zc,Tryz.results223,hN0,hN]
 replace h:=Zm c2 h
 refine zQ [9] ?_
 refine Zo (t:=(a0.kind == 10)) rfl (fun c1 => ?_) (fun c1 => ?_)
 ·replace h:=Zn c1 h
  refine zQ [2] ?_
  refine zW ?_
  obtain rfl:=sI h
  refine Zg (.inr rfl) hU [(vI 1)] (by omega) ?_
  simp only [push_cast,seval,↓reduceIte,Zc,Tryz.results223,hN0,hN]
 replace h:=Zm c1 h
 refine Qd [] [false] ?_
 refine zQ [2] ?_
 refine zW ?_
 obtain rfl:=sI h
 refine Zg (.inr rfl) hU [(vI 0)] (by omega) ?_
 simp only [push_cast,seval,↓reduceIte,Zc,Tryz.results223,hN0,hN]
theorem Zqs {a0:Zj} {r:(Int×Int)} {O:Objs} {n:Nat} (h:Zgv a0=some r):GTo Tryz.prog 245 [.agg (Zu a0)] O n (.tup [(vI r.1),(vI r.2)]) O n:=by
 unfold Zgv at h
 refine K6 Zq Tryz.call245 Tryz.func245 rfl fun hU hN0 hN => ?_
 show W _ _ _ _ ⟨11,[],[(0,.agg (Zu a0))]⟩ (Zw O n []) _
 refine zQ [1] ?_
 refine Ze ?_
 refine zQ [1,6] ?_
 refine Zo (t:=(a0.kind != 9)) rfl (fun c1 => ?_) (fun c1 => ?_)
 ·replace h:=Zn c1 h
  refine zQ [2,3] ?_
  refine zW ?_
  obtain rfl:=sI h
  refine Zg (.inr rfl) hU [(vI 0),(vI 0)] (by omega) ?_
  simp only [push_cast,seval,↓reduceIte,Zc,Tryz.results245,hN0,hN]
 replace h:=Zm c1 h
 refine Qd [1] [true] ?_
 refine Zhc [2,3] (X9 Zq (by kernel_rfl) [] (by kernel_rfl) ?_)
 refine zS ?_
 refine zW ?_
 obtain rfl:=sI h
 refine Zg (.inr rfl) hU [(vI a0.words),(vI a0.ptrs)] (by omega) ?_
 simp only [push_cast,seval,↓reduceIte,Zc,Tryz.results245,hN0,hN]
theorem Zn9 {a0:Zj} {r:Int} {O:Objs} {n:Nat} (h:Zez a0=some r):GTo Tryz.prog 182 [.agg (Zu a0)] O n ((vI r)) O n:=by
 unfold Zez at h
 refine K6 Zq Tryz.call182 Tryz.func182 rfl fun hU hN0 hN => ?_
 show W _ _ _ _ ⟨35,[],[(0,.agg (Zu a0))]⟩ (Zw O n []) _
 refine zQ [1] ?_
 refine Ze ?_
 refine Ze ?_
 obtain ⟨y2,hy2,h⟩:=bC h
 refine zCd (Qu hy2) [1,6] [true] ?_
 refine Z9 ?_
 refine zQ [1,6,7] ?_
 refine Zo (t:=(y2 == 0)) rfl (fun K9 => ?_) (fun K9 => ?_)
 ·replace h:=Zn K9 h
  refine zQ [2] ?_
  refine zW ?_
  obtain rfl:=sI h
  refine Zg (.inr rfl) hU [(vI 0)] (by omega) ?_
  simp only [push_cast,seval,↓reduceIte,Zc,Tryz.results182,hN0,hN]
 replace h:=Zm K9 h
 refine zQ [1,6,9] ?_
 refine Zo (t:=(y2 == 1)) rfl (fun Qk => ?_) (fun Qk => ?_)
 ·replace h:=Zn Qk h
  refine Ze ?_
  obtain ⟨y5,hy5,h⟩:=bC h
  obtain ⟨y6,hy6,h⟩:=bC h
  refine X9 Zq (by kernel_rfl) [] (by kernel_rfl) ?_
  refine zS ?_
  refine PCall.of (Zb6 hy5) ?_
  refine zS ?_
  refine PCall.of (Qt hy6) ?_
  refine zS ?_
  refine zD [2] [false] ?_
  refine zW ?_
  obtain rfl:=sI h
  refine Zg (.inr rfl) hU [(vI (IntKind.i64.wrap ((IntKind.i64.wrap (1+y5))+y6)))] (by omega) ?_
  simp only [push_cast,seval,↓reduceIte,Zc,Tryz.results182,hN0,hN]
 replace h:=Zm Qk h
 refine zQ [1,17] ?_
 refine Zo (t:=(y2 == 9)) rfl (fun Kj => ?_) (fun Kj => ?_)
 ·replace h:=Zn Kj h
  refine Ze ?_
  obtain ⟨y8,hy8,h⟩:=bC h
  refine zCd (Zqs hy8) [1,3,4] [true] ?_
  refine Ze ?_
  obtain ⟨y10,hy10,h⟩:=bC h
  refine zCd (Qt hy10) [2] [false] ?_
  refine zW ?_
  obtain rfl:=sI h
  refine Zg (.inr rfl) hU [(vI (IntKind.i64.wrap (1+(IntKind.i64.wrap (y10 * (IntKind.i64.wrap ((IntKind.i64.wrap (1+y8.1))+y8.2)))))))] (by omega) ?_
  simp only [push_cast,seval,↓reduceIte,Zc,Tryz.results182,hN0,hN]
 replace h:=Zm Kj h
 refine Qd [1] [true] ?_
 refine Ze ?_
 obtain ⟨y12,hy12,h⟩:=bC h
 refine zCd (Qt hy12) [2] [false] ?_
 refine zW ?_
 obtain rfl:=sI h
 refine Zg (.inr rfl) hU [(vI (IntKind.i64.wrap (1+y12)))] (by omega) ?_
 simp only [push_cast,seval,↓reduceIte,Zc,Tryz.results182,hN0,hN]
theorem Zh7 {a0:Zj} {a1:Int} {r:(Zj×Int)} {O:Objs} {n:Nat} (h:Zcm a0 a1=some r):GTo Tryz.prog 224 [.agg (Zu a0),(vI a1)] O n (.tup [.agg (Zu r.1),(vI r.2)]) O n:=by
 unfold Zcm at h
 refine K6 Zq Tryz.call224 Tryz.func224 rfl fun hU hN0 hN => ?_
 show W _ _ _ _ ⟨81,[],[(0,.agg (Zu a0)),(1,(vI a1))]⟩ (Zw O n []) _
 refine zQ [1,2,4] ?_
 refine Ze ?_
 obtain ⟨z2,hz2,h⟩:=bC h
 refine Yu (E':=⟨81,[],[(1,(vI a1)),(2,.ref n 0),(4,.ref (n+1) 0),(14,(vB z2))]⟩) (O':=(Zw O n [some ⟨false,62,9,1,(Zu a0)⟩,some ⟨false,62,9,1,[.val (.pointer none),(vI 0),(vI 0),(vI 0),(vI 0),(vI 0),(vI 0),(vI 0),(vI 0)]⟩])) (n0:=(n+2)) ?_ ?_
 ·rcases Bool.eq_false_or_eq_true (decide (a1 < 0)) with c5 | c5
  ·replace hz2:=Zn c5 hz2
   refine Q2 [some false,some false,some false,some false] c5 ?_
   exact Qf hz2 c5
  replace hz2:=Zm c5 hz2
  obtain ⟨y4,hy4,hz2⟩:=bC hz2
  refine Q2 [some true,some true,some true,some true] c5 ?_
  refine (Qt hy4).then ?_
  refine zX1 c5 ?_
  exact Qf hz2 c5
 refine Zo (t:=z2) rfl (fun Kj => ?_) (fun Kj => ?_)
 ·replace h:=Zn Kj h
  refine Ze ?_
  refine zRd [4,5] [false,true] ?_
  refine zW ?_
  obtain rfl:=sI h
  refine Zg (.inr rfl) hU [.agg [.val (.pointer none),(vI 0),(vI 0),(vI 0),(vI 0),(vI 0),(vI 0),(vI 0),(vI 0)],(vI 0)] (by omega) ?_
  simp only [push_cast,seval,↓reduceIte,Zc,Tryz.results224,hN0,hN]
 replace h:=Zm Kj h
 refine Qd [1,2,4] [true,true] ?_
 refine Ze ?_
 refine zQ [1,2,4,17] ?_
 refine Z9 ?_
 refine zQ [1,2,4,17,18] ?_
 refine Zo (t:=(a0.kind == 1)) rfl (fun c12 => ?_) (fun c12 => ?_)
 ·replace h:=Zn c12 h
  refine Ze ?_
  obtain ⟨y7,hy7,h⟩:=bC h
  refine zCd (Znl hy7) [4,5] [false,true] ?_
  refine zW ?_
  obtain rfl:=sI h
  refine Zg (.inr rfl) hU [.agg (Zu y7.1),(vI y7.2)] (by omega) ?_
  simp only [push_cast,seval,↓reduceIte,Zc,Tryz.results224,hN0,hN]
 replace h:=Zm c12 h
 refine zQ [1,2,4,17,34] ?_
 refine Zo (t:=(a0.kind == 8)) rfl (fun c11 => ?_) (fun c11 => ?_)
 ·replace h:=Zn c11 h
  refine Ze ?_
  obtain ⟨y9,hy9,h⟩:=bC h
  refine zCd (Znl hy9) [4,5] [false,true] ?_
  refine zW ?_
  obtain rfl:=sI h
  refine Zg (.inr rfl) hU [.agg (Zu y9.1),(vI y9.2)] (by omega) ?_
  simp only [push_cast,seval,↓reduceIte,Zc,Tryz.results224,hN0,hN]
 replace h:=Zm c11 h
 refine zQ [1,2,4,47] ?_
 refine Zo (t:=(a0.kind == 9)) rfl (fun c10 => ?_) (fun c10 => ?_)
 ·replace h:=Zn c10 h
  refine zQ [2,4,6] ?_
  refine Ze ?_
  refine zRd [4,5] [false,true] ?_
  refine zW ?_
  obtain rfl:=sI h
  refine Zg (.inr rfl) hU [.agg [(gP Zv a0.a),(vI 1),(vI a0.segment),(vI (IntKind.i64.wrap ((IntKind.i64.wrap (a0.at_+1))+(IntKind.i64.wrap (a1 * (IntKind.i64.wrap (a0.words+a0.ptrs))))))),(vI a0.words),(vI a0.ptrs),(vI 0),(vI 0),(vI 0)],(vI 0)] (by omega) ?_
  simp only [push_cast,seval,↓reduceIte,Zc,Tryz.results224,hN0,hN]
 replace h:=Zm c10 h
 refine Qd [1,2,4] [true,true] ?_
 refine Ze ?_
 refine zRd [4,5] [false,true] ?_
 refine zW ?_
 obtain rfl:=sI h
 refine Zg (.inr rfl) hU [.agg [(gP Zv a0.a),(vI 10),(vI a0.segment),(vI a0.at_),(vI 0),(vI 0),(vI 0),(vI (IntKind.i64.wrap (a0.kind - 2))),(vI a1)],(vI 0)] (by omega) ?_
 simp only [push_cast,seval,↓reduceIte,Zc,Tryz.results224,hN0,hN]
def Ue (Yw:(Zk→Zj→Int→Option (Int×Zk))):Prop:=∀ {a0:Zk} {a1:Zj} {a2:Int} {r:(Int×Zk)} {O:Objs} {n:Nat} {i0:Nat},i0 < n→O i0=some ⟨false,143,1,1,[(vI a0.left)]⟩→Yw a0 a1 a2=some r→GTo Tryz.prog 118 [.ref i0 0,.agg (Zu a1),(vI a2)] O n ((vI r.1)) (Zw (O.upd i0 (some ⟨false,143,1,1,[(vI r.2.left)]⟩)) n []) (n+0)
def U5 (Yv:(Zk→Zj→Int→Option (Int×Zk))):Prop:=∀ {a0:Zk} {a1:Zj} {a2:Int} {r:(Int×Zk)} {O:Objs} {n:Nat} {i0:Nat},i0 < n→O i0=some ⟨false,143,1,1,[(vI a0.left)]⟩→Yv a0 a1 a2=some r→GTo Tryz.prog 183 [.ref i0 0,.agg (Zu a1),(vI a2)] O n ((vI r.1)) (Zw (O.upd i0 (some ⟨false,143,1,1,[(vI r.2.left)]⟩)) n []) (n+0)
def Vi (Yx:(Zk→Zj→Int→Option (Int×Zk))):Prop:=∀ {a0:Zk} {a1:Zj} {a2:Int} {r:(Int×Zk)} {O:Objs} {n:Nat} {i0:Nat},i0 < n→O i0=some ⟨false,143,1,1,[(vI a0.left)]⟩→Yx a0 a1 a2=some r→GTo Tryz.prog 184 [.ref i0 0,.agg (Zu a1),(vI a2)] O n ((vI r.1)) (Zw (O.upd i0 (some ⟨false,143,1,1,[(vI r.2.left)]⟩)) n []) (n+0)
theorem Zmz {Yw:(Zk→Zj→Int→Option (Int×Zk))} {Yv:(Zk→Zj→Int→Option (Int×Zk))} {Yx:(Zk→Zj→Int→Option (Int×Zk))} (Zbt:Ue Yw) (U7:U5 Yv) (Zas:Vi Yx) {a0:Zk} {a1:Zj} {a2:Int} {r:(Int×Zk)} {O:Objs} {n:Nat} {i0:Nat} (hi0:i0 < n) (ho0:O i0=some ⟨false,143,1,1,[(vI a0.left)]⟩) (h:Vz Yw Yv Yx a0 a1 a2=some r):GTo Tryz.prog 118 [.ref i0 0,.agg (Zu a1),(vI a2)] O n ((vI r.1)) (Zw (O.upd i0 (some ⟨false,143,1,1,[(vI r.2.left)]⟩)) n []) (n+0):=by
 unfold Vz at h
 refine Zq0 Zq Tryz.call118 Tryz.func118 rfl (Nat.le_of_ble_eq_true rfl) (by omega) fun hU => ?_
 rw [show Zw O n []=Zw (O.upd i0 (some ⟨false,143,1,1,[(vI a0.left)]⟩)) n [] from by rw [Zt6 (show O i0=_ from by exact ho0)]]
 have hk0:∀ k,i0 < n+k:=fun k=>by omega
 have hN0:∀ o,Objs.upd O i0 o n=none:=fun o=>Vm hU hi0 _ (Nat.le_refl _)
 have hN:∀ o k,Objs.upd O i0 o (n+k)=none:=fun o k=>Vm hU hi0 _ (Nat.le_add_right _ _)
 show W _ _ _ _ ⟨46,[],[(0,.ref i0 0),(1,.agg (Zu a1)),(2,(vI a2))]⟩ (Zw (O.upd i0 (some ⟨false,143,1,1,[(vI a0.left)]⟩)) n []) _
 refine Zax [0,2,4] hi0 hk0 ?_
 refine Ze ?_
 obtain ⟨z3,hz3,h⟩:=bC h
 refine Yu (E':=⟨46,[],[(0,.ref i0 0),(2,(vI a2)),(4,.ref n 0),(19,(vB z3))]⟩) (O':=(Zw (O.upd i0 (some ⟨false,143,1,1,[(vI a0.left)]⟩)) n [some ⟨false,62,9,1,(Zu a1)⟩])) (n0:=(n+1)) ?_ ?_
 ·obtain ⟨y6,hy6,hz3⟩:=bC hz3
  rcases Bool.eq_false_or_eq_true (decide (a2 < y6)) with c8 | c8
  ·replace hz3:=Zn c8 hz3
   refine X9 Zq (by kernel_rfl) [some false,some false,some false,some false,some false,some false,some false] (by kernel_rfl) ?_
   refine zX3 c8 hi0 hk0 ?_
   refine PCall.of (Zn8 hy6) ?_
   refine zX3 c8 hi0 hk0 ?_
   obtain rfl:=sI hz3
   refine And.intro rfl (Fit2.of (Yq hU rfl rfl ?_) (by omega))
   exact Zjn c8 hi0 hk0
  replace hz3:=Zm c8 hz3
  obtain ⟨y7,hy7,hz3⟩:=bC hz3
  refine X9 Zq (by kernel_rfl) [some true,some true,some true,some true,some true,some true,some true] (by kernel_rfl) ?_
  refine zX3 c8 hi0 hk0 ?_
  refine PCall.of (Zn8 hy6) ?_
  refine zX3 c8 hi0 hk0 ?_
  refine PCall.of (Zn9 hy7) ?_
  refine zX3 c8 hi0 hk0 ?_
  obtain rfl:=sI hz3
  refine And.intro rfl (Fit2.of (Yq hU rfl rfl ?_) (by omega))
  exact Zjn c8 hi0 hk0
 refine Zo (t:=z3) rfl (fun c21 => ?_) (fun c21 => ?_)
 ·replace h:=Zn c21 h
  refine Zax [6] hi0 hk0 ?_
  refine zW ?_
  obtain rfl:=sI h
  refine Vc (k:=0) (i:=i0) (q1:=⟨false,143,1,1,[(vI a0.left)]⟩) (L3:=[none]) (E2:=(⟨46,[],[(6,(vI 3))]⟩:Env)) (n3:=(n+1)) (.inr rfl) hU rfl [(vI 3)] ?_ ?_
  ·refine Fit2.trans (E':=(⟨46,[],[(6,(vI 3))]⟩:Env)) (O':=(Zw (O.upd i0 (some ⟨false,143,1,1,[(vI a0.left)]⟩)) n [none])) (n':=(n+1)) (Fit2.of (Yq hU rfl rfl ?_) (by omega)) ?_
   ·exact Q4 hi0 hk0
   refine Jf (k:=1) (k':=1) hU [0] [0] rfl rfl rfl rfl ⟨rfl,rfl⟩ ?_
   exact Q4 hi0 hk0
  simp only [push_cast,seval,↓reduceIte,Zc,Tryz.results118,hi0,hk0,hN0,hN]
 replace h:=Zm c21 h
 refine Qd [0,2,4] [true] ?_
 refine Ze ?_
 obtain ⟨y10,hy10,h⟩:=bC h
 refine Zgh Zq (by kernel_rfl) [false,false,false,false,false,false,false,false,false,true] [] (by kernel_rfl) ?_
 refine zX2 hi0 hk0 ?_
 refine PCall.of (Zn9 hy10) ?_
 refine zX2 hi0 hk0 ?_
 refine zDs [0,2,4] [true] ?_
 refine Ze ?_
 obtain ⟨y12,hy12,h⟩:=bC h
 refine Xy [] hi0 hk0 ?_
 refine (Qu hy12).then ?_
 refine zX2 hi0 hk0 ?_
 refine zD [0,2,4,30] [true] ?_
 refine Z9 ?_
 obtain ⟨z13,hz13,h⟩:=bC h
 refine Yu (E':=⟨46,[],[(0,.ref i0 0),(2,(vI a2)),(4,.ref n 0),(30,(vI y12)),(31,(vB z13))]⟩) (O':=(Zw (O.upd i0 (some ⟨false,143,1,1,[(vI (IntKind.i64.wrap (a0.left - y10)))]⟩)) n [some ⟨false,62,9,1,(Zu a1)⟩])) (n0:=(n+1)) ?_ ?_
 ·refine Zax [0,2,4,30,31] hi0 hk0 ?_
  refine Zo (t:=(y12 == 1)) rfl (fun Qk => ?_) (fun Qk => ?_)
  ·replace hz13:=Zn Qk hz13
   refine zK ?_
   obtain rfl:=sI hz13
   refine And.intro rfl (Fit2.of (Yq hU rfl rfl ?_) (by omega))
   exact Q4 hi0 hk0
  replace hz13:=Zm Qk hz13
  refine Xy [] hi0 hk0 ?_
  obtain rfl:=sI hz13
  refine And.intro rfl (Fit2.of (Yq hU rfl rfl ?_) (by omega))
  exact Q4 hi0 hk0
 refine Zo (t:=z13) rfl (fun c20 => ?_) (fun c20 => ?_)
 ·replace h:=Zn c20 h
  refine Ze ?_
  obtain ⟨y16,hy16,h⟩:=bC h
  refine Xy [] hi0 hk0 ?_
  refine (U7 (i0:=i0) (by omega) (by simp only [push_cast,seval,↓reduceIte,Zc,Gf,hi0,hk0,hN0,hN] <;> rfl) hy16).then ?_
  refine zX2 hi0 hk0 ?_
  refine zD [6] [false] ?_
  refine zW ?_
  obtain rfl:=sI h
  refine Vc (k:=0) (i:=i0) (q1:=⟨false,143,1,1,[(vI y16.2.left)]⟩) (L3:=[none]) (E2:=(⟨46,[],[(6,(vI y16.1))]⟩:Env)) (n3:=(n+1)) (.inr rfl) hU rfl [(vI y16.1)] ?_ ?_
  ·refine Fit2.trans (E':=(⟨46,[],[(6,(vI y16.1))]⟩:Env)) (O':=(Zw (O.upd i0 (some ⟨false,143,1,1,[(vI y16.2.left)]⟩)) n [none])) (n':=(n+1)) (Fit2.of (Yq hU rfl rfl ?_) (by omega)) ?_
   ·exact Q4 hi0 hk0
   refine Jf (k:=1) (k':=1) hU [0] [0] rfl rfl rfl rfl ⟨rfl,rfl⟩ ?_
   exact Q4 hi0 hk0
  simp only [push_cast,seval,↓reduceIte,Zc,Tryz.results118,hi0,hk0,hN0,hN]
 replace h:=Zm c20 h
 refine Zax [0,2,4,39] hi0 hk0 ?_
 refine Zo (t:=(y12 == 9)) rfl (fun c19 => ?_) (fun c19 => ?_)
 ·replace h:=Zn c19 h
  refine Ze ?_
  obtain ⟨y18,hy18,h⟩:=bC h
  refine Xy [] hi0 hk0 ?_
  refine (Zas (i0:=i0) (by omega) (by simp only [push_cast,seval,↓reduceIte,Zc,Gf,hi0,hk0,hN0,hN] <;> rfl) hy18).then ?_
  refine zX2 hi0 hk0 ?_
  refine zD [6] [false] ?_
  refine zW ?_
  obtain rfl:=sI h
  refine Vc (k:=0) (i:=i0) (q1:=⟨false,143,1,1,[(vI y18.2.left)]⟩) (L3:=[none]) (E2:=(⟨46,[],[(6,(vI y18.1))]⟩:Env)) (n3:=(n+1)) (.inr rfl) hU rfl [(vI y18.1)] ?_ ?_
  ·refine Fit2.trans (E':=(⟨46,[],[(6,(vI y18.1))]⟩:Env)) (O':=(Zw (O.upd i0 (some ⟨false,143,1,1,[(vI y18.2.left)]⟩)) n [none])) (n':=(n+1)) (Fit2.of (Yq hU rfl rfl ?_) (by omega)) ?_
   ·exact Q4 hi0 hk0
   refine Jf (k:=1) (k':=1) hU [0] [0] rfl rfl rfl rfl ⟨rfl,rfl⟩ ?_
   exact Q4 hi0 hk0
  simp only [push_cast,seval,↓reduceIte,Zc,Tryz.results118,hi0,hk0,hN0,hN]
 replace h:=Zm c19 h
 refine Qd [] [false] ?_
 refine Zax [6] hi0 hk0 ?_
 refine zW ?_
 obtain rfl:=sI h
 refine Vc (k:=0) (i:=i0) (q1:=⟨false,143,1,1,[(vI (IntKind.i64.wrap (a0.left - y10)))]⟩) (L3:=[none]) (E2:=(⟨46,[],[(6,(vI 0))]⟩:Env)) (n3:=(n+1)) (.inr rfl) hU rfl [(vI 0)] ?_ ?_
 ·refine Fit2.trans (E':=(⟨46,[],[(6,(vI 0))]⟩:Env)) (O':=(Zw (O.upd i0 (some ⟨false,143,1,1,[(vI (IntKind.i64.wrap (a0.left - y10)))]⟩)) n [none])) (n':=(n+1)) (Fit2.of (Yq hU rfl rfl ?_) (by omega)) ?_
  ·exact Q4 hi0 hk0
  refine Jf (k:=1) (k':=1) hU [0] [0] rfl rfl rfl rfl ⟨rfl,rfl⟩ ?_
  exact Q4 hi0 hk0
 simp only [push_cast,seval,↓reduceIte,Zc,Tryz.results118,hi0,hk0,hN0,hN]
theorem Znq {Yw:(Zk→Zj→Int→Option (Int×Zk))} {Yv:(Zk→Zj→Int→Option (Int×Zk))} {Yx:(Zk→Zj→Int→Option (Int×Zk))} (Zbt:Ue Yw) (U7:U5 Yv) (Zas:Vi Yx) {a0:Zk} {a1:Zj} {a2:Int} {r:(Int×Zk)} {O:Objs} {n:Nat} {i0:Nat} (hi0:i0 < n) (ho0:O i0=some ⟨false,143,1,1,[(vI a0.left)]⟩) (h:Up Yw Yv Yx a0 a1 a2=some r):GTo Tryz.prog 183 [.ref i0 0,.agg (Zu a1),(vI a2)] O n ((vI r.1)) (Zw (O.upd i0 (some ⟨false,143,1,1,[(vI r.2.left)]⟩)) n []) (n+0):=by
 unfold Up at h
 refine Zq0 Zq Tryz.call183 Tryz.func183 rfl (Nat.le_of_ble_eq_true rfl) (by omega) fun hU => ?_
 rw [show Zw O n []=Zw (O.upd i0 (some ⟨false,143,1,1,[(vI a0.left)]⟩)) n [] from by rw [Zt6 (show O i0=_ from by exact ho0)]]
 have hk0:∀ k,i0 < n+k:=fun k=>by omega
 have hN0:∀ o,Objs.upd O i0 o n=none:=fun o=>Vm hU hi0 _ (Nat.le_refl _)
 have hN:∀ o k,Objs.upd O i0 o (n+k)=none:=fun o k=>Vm hU hi0 _ (Nat.le_add_right _ _)
 show W _ _ _ _ ⟨33,[],[(0,.ref i0 0),(1,.agg (Zu a1)),(2,(vI a2))]⟩ (Zw (O.upd i0 (some ⟨false,143,1,1,[(vI a0.left)]⟩)) n []) _
 refine Zax [0,2,4] hi0 hk0 ?_
 refine Ze ?_
 refine Ze ?_
 obtain ⟨y2,hy2,h⟩:=bC h
 refine Xy [] hi0 hk0 ?_
 refine (Qt hy2).then ?_
 refine zX2 hi0 hk0 ?_
 refine zD [0,2,4,12,13] [true] ?_
 refine zD [0,2,4,12,13] [true] ?_
 obtain ⟨z10,hz10,h⟩:=bC h
 refine Zaw (J:=(X8 (fun z10=>JR n (⟨33,[],[(6,(vI z10.1))]⟩:Env) (Zw (O.upd i0 (some ⟨false,143,1,1,[(vI z10.2)]⟩)) n [none]) (n+1)) (fun z10=>JX 0 n (⟨33,[],[]⟩:Env) (Zw (O.upd i0 (some ⟨false,143,1,1,[(vI z10)]⟩)) n [none]) (n+1)))) (z:=z10) ?_ fun hw => ?_
 ·refine Y4 hz10 (fun s0_=>⟨33,[],[(0,.ref i0 0),(2,(vI a2)),(4,.ref n 0),(12,(vI y2)),(13,(vI s0_.1))]⟩) (fun s0_=>(Zw (O.upd i0 (some ⟨false,143,1,1,[(vI s0_.2)]⟩)) n [some ⟨false,62,9,1,(Zu a1)⟩])) (X8 (fun z10=>JR n (⟨33,[],[(6,(vI z10.1))]⟩:Env) (Zw (O.upd i0 (some ⟨false,143,1,1,[(vI z10.2)]⟩)) n [none]) (n+1)) (fun z10=>JX 0 n (⟨33,[],[]⟩:Env) (Zw (O.upd i0 (some ⟨false,143,1,1,[(vI z10)]⟩)) n [none]) (n+1))) ?_
  intro s0_ x0_ hs0_
  unfold Zg1 at hs0_
  try dsimp only
  refine Zax [0,2,4,12,13,14] hi0 hk0 ?_
  refine Ze ?_
  refine Zo (t:=(decide (s0_.1 < y2))) rfl (fun c9 => ?_) (fun c9 => ?_)
  ·replace hs0_:=Zn c9 hs0_
   refine Qd [0,2,4,12,13] [true] ?_
   refine Ze ?_
   refine Z9 ?_
   refine Zax [0,2,4,7,12,13] hi0 hk0 ?_
   refine Ze ?_
   obtain ⟨y4,hy4,hs0_⟩:=bC hs0_
   refine Xy [] hi0 hk0 ?_
   refine (Zh7 hy4).then ?_
   refine zX2 hi0 hk0 ?_
   refine zDs [0,2,4,8,9,12,13] [true,true] ?_
   refine Zax [0,2,4,8,9,12,13,23] hi0 hk0 ?_
   refine Zo (t:=(y4.2 != 0)) rfl (fun c8 => ?_) (fun c8 => ?_)
   ·replace hs0_:=Zn c8 hs0_
    refine Zax [6] hi0 hk0 ?_
    refine zW ?_
    obtain rfl:=sI hs0_
    refine And.intro (fun h=>by cases h) (And.intro rfl (Fit2.of (Yq hU rfl rfl ?_) (by omega)))
    exact Q4 hi0 hk0
   replace hs0_:=Zm c8 hs0_
   refine Qd [0,2,4,8,12,13] [true,true] ?_
   refine Ze ?_
   obtain ⟨y6,hy6,hs0_⟩:=bC hs0_
   refine Xy [] hi0 hk0 ?_
   refine (Zbt (i0:=i0) (by omega) (by simp only [push_cast,seval,↓reduceIte,Zc,Gf,hi0,hk0,hN0,hN] <;> rfl) hy6).then ?_
   refine zX2 hi0 hk0 ?_
   refine zD [0,2,4,10,12,13] [true,false] ?_
   refine Zax [0,2,4,10,12,13,30] hi0 hk0 ?_
   refine Zo (t:=(y6.1 != 0)) rfl (fun c7 => ?_) (fun c7 => ?_)
   ·replace hs0_:=Zn c7 hs0_
    refine Zax [6] hi0 hk0 ?_
    refine zW ?_
    obtain rfl:=sI hs0_
    refine And.intro (fun h=>by cases h) (And.intro rfl (Fit2.of (Yq hU rfl rfl ?_) (by omega)))
    exact Q4 hi0 hk0
   replace hs0_:=Zm c7 hs0_
   refine Qd [0,2,4,12,13] [true,false] ?_
   refine Xy [] hi0 hk0 ?_
   obtain rfl:=sI hs0_
   refine And.intro rfl (Fit2.of (Yq hU rfl rfl ?_) (by omega))
   exact Q4 hi0 hk0
  replace hs0_:=Zm c9 hs0_
  refine zXt ?_
  obtain rfl:=sI hs0_
  refine And.intro (fun h=>by cases h) (And.intro rfl (Fit2.of (Yq hU rfl rfl ?_) (by omega)))
  exact Q4 hi0 hk0
 rcases z10 with z10 | z10
 ·dsimp only [X8] at hw h
  refine Jv hw ?_
  try simp only [Y1,Yc,↓reduceIte,Nat.reduceEqDiff]
  obtain rfl:=sI h
  refine Vc (k:=0) (i:=i0) (q1:=⟨false,143,1,1,[(vI z10.2)]⟩) (L3:=[none]) (E2:=(⟨33,[],[(6,(vI z10.1))]⟩:Env)) (n3:=(n+1)) (.inr rfl) hU rfl [(vI z10.1)] ?_ ?_
  ·refine Fit2.trans (E':=(⟨33,[],[(6,(vI z10.1))]⟩:Env)) (O':=(Zw (O.upd i0 (some ⟨false,143,1,1,[(vI z10.2)]⟩)) n [none])) (n':=(n+1)) (Fit2.of (Yq hU rfl rfl ?_) (by omega)) ?_
   ·exact Q4 hi0 hk0
   refine Jf (k:=1) (k':=1) hU [0] [0] rfl rfl rfl rfl ⟨rfl,rfl⟩ ?_
   exact Q4 hi0 hk0
  simp only [push_cast,seval,↓reduceIte,Zc,Tryz.results183,hi0,hk0,hN0,hN]
 dsimp only [X8] at hw h
 refine Yj hw ?_
 try simp only [Y1,Yc,↓reduceIte,Nat.reduceEqDiff]
 refine zD [] [false] ?_
 refine Zax [6] hi0 hk0 ?_
 refine zW ?_
 obtain rfl:=sI h
 refine Vc (k:=0) (i:=i0) (q1:=⟨false,143,1,1,[(vI z10)]⟩) (L3:=[none]) (E2:=(⟨33,[],[(6,(vI 0))]⟩:Env)) (n3:=(n+1)) (.inr rfl) hU rfl [(vI 0)] ?_ ?_
 ·refine Fit2.trans (E':=(⟨33,[],[(6,(vI 0))]⟩:Env)) (O':=(Zw (O.upd i0 (some ⟨false,143,1,1,[(vI z10)]⟩)) n [none])) (n':=(n+1)) (Fit2.of (Yq hU rfl rfl ?_) (by omega)) ?_
  ·exact Q4 hi0 hk0
  refine Jf (k:=1) (k':=1) hU [0] [0] rfl rfl rfl rfl ⟨rfl,rfl⟩ ?_
  exact Q4 hi0 hk0
 simp only [push_cast,seval,↓reduceIte,Zc,Tryz.results183,hi0,hk0,hN0,hN]
theorem Zlp {Yw:(Zk→Zj→Int→Option (Int×Zk))} {Yv:(Zk→Zj→Int→Option (Int×Zk))} {Yx:(Zk→Zj→Int→Option (Int×Zk))} (Zbt:Ue Yw) (U7:U5 Yv) (Zas:Vi Yx) {a0:Zk} {a1:Zj} {a2:Int} {r:(Int×Zk)} {O:Objs} {n:Nat} {i0:Nat} (hi0:i0 < n) (ho0:O i0=some ⟨false,143,1,1,[(vI a0.left)]⟩) (h:Zcd Yw Yv Yx a0 a1 a2=some r):GTo Tryz.prog 184 [.ref i0 0,.agg (Zu a1),(vI a2)] O n ((vI r.1)) (Zw (O.upd i0 (some ⟨false,143,1,1,[(vI r.2.left)]⟩)) n []) (n+0):=by
 unfold Zcd at h
 refine Zq0 Zq Tryz.call184 Tryz.func184 rfl (Nat.le_of_ble_eq_true rfl) (by omega) fun hU => ?_
 rw [show Zw O n []=Zw (O.upd i0 (some ⟨false,143,1,1,[(vI a0.left)]⟩)) n [] from by rw [Zt6 (show O i0=_ from by exact ho0)]]
 have hk0:∀ k,i0 < n+k:=fun k=>by omega
 have hN0:∀ o,Objs.upd O i0 o n=none:=fun o=>Vm hU hi0 _ (Nat.le_refl _)
 have hN:∀ o k,Objs.upd O i0 o (n+k)=none:=fun o k=>Vm hU hi0 _ (Nat.le_add_right _ _)
 show W _ _ _ _ ⟨34,[],[(0,.ref i0 0),(1,.agg (Zu a1)),(2,(vI a2))]⟩ (Zw (O.upd i0 (some ⟨false,143,1,1,[(vI a0.left)]⟩)) n []) _
 refine Zax [0,2,4] hi0 hk0 ?_
 refine Ze ?_
 refine Ze ?_
 obtain ⟨y2,hy2,h⟩:=bC h
 refine Xy [] hi0 hk0 ?_
 refine (Qt hy2).then ?_
 refine zX2 hi0 hk0 ?_
 refine zD [0,2,4,12,13] [true] ?_
 refine zD [0,2,4,12,13] [true] ?_
 obtain ⟨z10,hz10,h⟩:=bC h
 refine Zaw (J:=(X8 (fun z10=>JR n (⟨34,[],[(6,(vI z10.1))]⟩:Env) (Zw (O.upd i0 (some ⟨false,143,1,1,[(vI z10.2)]⟩)) n [none]) (n+1)) (fun z10=>JX 0 n (⟨34,[],[]⟩:Env) (Zw (O.upd i0 (some ⟨false,143,1,1,[(vI z10)]⟩)) n [none]) (n+1)))) (z:=z10) ?_ fun hw => ?_
 ·refine Y4 hz10 (fun s0_=>⟨34,[],[(0,.ref i0 0),(2,(vI a2)),(4,.ref n 0),(12,(vI y2)),(13,(vI s0_.1))]⟩) (fun s0_=>(Zw (O.upd i0 (some ⟨false,143,1,1,[(vI s0_.2)]⟩)) n [some ⟨false,62,9,1,(Zu a1)⟩])) (X8 (fun z10=>JR n (⟨34,[],[(6,(vI z10.1))]⟩:Env) (Zw (O.upd i0 (some ⟨false,143,1,1,[(vI z10.2)]⟩)) n [none]) (n+1)) (fun z10=>JX 0 n (⟨34,[],[]⟩:Env) (Zw (O.upd i0 (some ⟨false,143,1,1,[(vI z10)]⟩)) n [none]) (n+1))) ?_
  intro s0_ x0_ hs0_
  unfold Zem at hs0_
  try dsimp only
  refine Zax [0,2,4,12,13,14] hi0 hk0 ?_
  refine Ze ?_
  refine Zo (t:=(decide (s0_.1 < y2))) rfl (fun c9 => ?_) (fun c9 => ?_)
  ·replace hs0_:=Zn c9 hs0_
   refine Qd [0,2,4,12,13] [true] ?_
   refine Ze ?_
   refine Z9 ?_
   refine Zax [0,2,4,7,12,13] hi0 hk0 ?_
   refine Ze ?_
   obtain ⟨y4,hy4,hs0_⟩:=bC hs0_
   refine Xy [] hi0 hk0 ?_
   refine (Zh7 hy4).then ?_
   refine zX2 hi0 hk0 ?_
   refine zDs [0,2,4,8,9,12,13] [true,true] ?_
   refine Zax [0,2,4,8,9,12,13,23] hi0 hk0 ?_
   refine Zo (t:=(y4.2 != 0)) rfl (fun c8 => ?_) (fun c8 => ?_)
   ·replace hs0_:=Zn c8 hs0_
    refine Zax [6] hi0 hk0 ?_
    refine zW ?_
    obtain rfl:=sI hs0_
    refine And.intro (fun h=>by cases h) (And.intro rfl (Fit2.of (Yq hU rfl rfl ?_) (by omega)))
    exact Q4 hi0 hk0
   replace hs0_:=Zm c8 hs0_
   refine Qd [0,2,4,8,12,13] [true,true] ?_
   refine Ze ?_
   obtain ⟨y6,hy6,hs0_⟩:=bC hs0_
   refine Xy [] hi0 hk0 ?_
   refine (U7 (i0:=i0) (by omega) (by simp only [push_cast,seval,↓reduceIte,Zc,Gf,hi0,hk0,hN0,hN] <;> rfl) hy6).then ?_
   refine zX2 hi0 hk0 ?_
   refine zD [0,2,4,10,12,13] [true,false] ?_
   refine Zax [0,2,4,10,12,13,31] hi0 hk0 ?_
   refine Zo (t:=(y6.1 != 0)) rfl (fun c7 => ?_) (fun c7 => ?_)
   ·replace hs0_:=Zn c7 hs0_
    refine Zax [6] hi0 hk0 ?_
    refine zW ?_
    obtain rfl:=sI hs0_
    refine And.intro (fun h=>by cases h) (And.intro rfl (Fit2.of (Yq hU rfl rfl ?_) (by omega)))
    exact Q4 hi0 hk0
   replace hs0_:=Zm c7 hs0_
   refine Qd [0,2,4,12,13] [true,false] ?_
   refine Xy [] hi0 hk0 ?_
   obtain rfl:=sI hs0_
   refine And.intro rfl (Fit2.of (Yq hU rfl rfl ?_) (by omega))
   exact Q4 hi0 hk0
  replace hs0_:=Zm c9 hs0_
  refine zXt ?_
  obtain rfl:=sI hs0_
  refine And.intro (fun h=>by cases h) (And.intro rfl (Fit2.of (Yq hU rfl rfl ?_) (by omega)))
  exact Q4 hi0 hk0
 rcases z10 with z10 | z10
 ·dsimp only [X8] at hw h
  refine Jv hw ?_
  try simp only [Y1,Yc,↓reduceIte,Nat.reduceEqDiff]
  obtain rfl:=sI h
  refine Vc (k:=0) (i:=i0) (q1:=⟨false,143,1,1,[(vI z10.2)]⟩) (L3:=[none]) (E2:=(⟨34,[],[(6,(vI z10.1))]⟩:Env)) (n3:=(n+1)) (.inr rfl) hU rfl [(vI z10.1)] ?_ ?_
  ·refine Fit2.trans (E':=(⟨34,[],[(6,(vI z10.1))]⟩:Env)) (O':=(Zw (O.upd i0 (some ⟨false,143,1,1,[(vI z10.2)]⟩)) n [none])) (n':=(n+1)) (Fit2.of (Yq hU rfl rfl ?_) (by omega)) ?_
   ·exact Q4 hi0 hk0
   refine Jf (k:=1) (k':=1) hU [0] [0] rfl rfl rfl rfl ⟨rfl,rfl⟩ ?_
   exact Q4 hi0 hk0
  simp only [push_cast,seval,↓reduceIte,Zc,Tryz.results184,hi0,hk0,hN0,hN]
 dsimp only [X8] at hw h
 refine Yj hw ?_
 try simp only [Y1,Yc,↓reduceIte,Nat.reduceEqDiff]
 refine zD [] [false] ?_
 refine Zax [6] hi0 hk0 ?_
 refine zW ?_
 obtain rfl:=sI h
 refine Vc (k:=0) (i:=i0) (q1:=⟨false,143,1,1,[(vI z10)]⟩) (L3:=[none]) (E2:=(⟨34,[],[(6,(vI 0))]⟩:Env)) (n3:=(n+1)) (.inr rfl) hU rfl [(vI 0)] ?_ ?_
 ·refine Fit2.trans (E':=(⟨34,[],[(6,(vI 0))]⟩:Env)) (O':=(Zw (O.upd i0 (some ⟨false,143,1,1,[(vI z10)]⟩)) n [none])) (n':=(n+1)) (Fit2.of (Yq hU rfl rfl ?_) (by omega)) ?_
  ·exact Q4 hi0 hk0
  refine Jf (k:=1) (k':=1) hU [0] [0] rfl rfl rfl rfl ⟨rfl,rfl⟩ ?_
  exact Q4 hi0 hk0
 simp only [push_cast,seval,↓reduceIte,Zc,Tryz.results184,hi0,hk0,hN0,hN]
theorem Zln:∀ k,(Ue ((Ya k).1))∧(U5 ((Ya k).2.1))∧(Vi ((Ya k).2.2)):=fun k=>by
 induction k with
 | zero=>exact ⟨@fun a0 a1 a2 r O n i0 hi0 ho0 h=>(nomatch (show (none:Option _)=some _ from h)),@fun a0 a1 a2 r O n i0 hi0 ho0 h=>(nomatch (show (none:Option _)=some _ from h)),@fun a0 a1 a2 r O n i0 hi0 ho0 h=>(nomatch (show (none:Option _)=some _ from h))⟩
 | succ k ih=>exact ⟨@fun a0 a1 a2 r O n i0 hi0 ho0 h=>Zmz (ih.1) (ih.2.1) (ih.2.2) hi0 ho0 h,@fun a0 a1 a2 r O n i0 hi0 ho0 h=>Znq (ih.1) (ih.2.1) (ih.2.2) hi0 ho0 h,@fun a0 a1 a2 r O n i0 hi0 ho0 h=>Zlp (ih.1) (ih.2.1) (ih.2.2) hi0 ho0 h⟩
theorem Zno {a0:Zk} {a1:Zj} {a2:Int} {r:(Int×Zk)} {O:Objs} {n:Nat} {i0:Nat} (hi0:i0 < n) (ho0:O i0=some ⟨false,143,1,1,[(vI a0.left)]⟩) (h:Zav a0 a1 a2=some r):GTo Tryz.prog 118 [.ref i0 0,.agg (Zu a1),(vI a2)] O n ((vI r.1)) (Zw (O.upd i0 (some ⟨false,143,1,1,[(vI r.2.left)]⟩)) n []) (n+0):=by
 obtain ⟨k,hk⟩:=V0 h
 exact (Zln k).1 hi0 ho0 hk
theorem Zpe {a0:(Option Zz)} {a1:X2} {r:(Int×Int)} {O:Objs} {n:Nat} (h:Gz a0 a1=some r):GTo Tryz.prog 73 [(gP Zv a0),.agg (Xz a1)] O n (.tup [(vI r.1),(vI r.2)]) O n:=by
 unfold Gz at h
 refine K6 Zq Tryz.call73 Tryz.func73 rfl fun hU hN0 hN => ?_
 show W _ _ _ _ ⟨35,[],[(0,(gP Zv a0)),(1,.agg (Xz a1))]⟩ (Zw O n []) _
 refine zQ [0,3] ?_
 refine Ze ?_
 obtain ⟨y2,hy2,h⟩:=bC h
 refine zCd (Zwm hy2) [0,3] [true] ?_
 refine Ze ?_
 obtain ⟨y4,hy4,h⟩:=bC h
 refine zCd (Zpd hy4) [3,6,7] [true,true] ?_
 refine Ze ?_
 refine zQ [3,6,7,18] ?_
 refine Zo (t:=(y4.2 != 0)) rfl (fun c8 => ?_) (fun c8 => ?_)
 ·replace h:=Zn c8 h
  refine zQ [4,5] ?_
  refine zW ?_
  obtain rfl:=sI h
  refine Zg (.inr rfl) hU [(vI 0),(vI y4.2)] (by omega) ?_
  simp only [push_cast,seval,↓reduceIte,Zc,Tryz.results73,hN0,hN]
 replace h:=Zm c8 h
 refine Qd [3,6] [true,true] ?_
 refine Ze ?_
 refine zRd [3,6,8] [true,true,true] ?_
 refine Ze ?_
 refine Ze ?_
 obtain ⟨y6,hy6,h⟩:=bC h
 refine zR ?_
 refine (Zno (i0:=(n+2)) (by omega) (by simp only [push_cast,seval,↓reduceIte,Zc,Gf,hN0,hN] <;> rfl) hy6).then ?_
 refine zS ?_
 refine zD [3,8,9] [true,false,true] ?_
 refine zQ [3,8,9,28] ?_
 refine Zo (t:=(y6.1 != 0)) rfl (fun c7 => ?_) (fun c7 => ?_)
 ·replace h:=Zn c7 h
  refine zQ [4,5] ?_
  refine zW ?_
  obtain rfl:=sI h
  refine Zg (.inr rfl) hU [(vI 0),(vI y6.1)] (by omega) ?_
  simp only [push_cast,seval,↓reduceIte,Zc,Tryz.results73,hN0,hN]
 replace h:=Zm c7 h
 refine Qd [3,8] [true,false,true] ?_
 refine zQ [4,5] ?_
 refine zW ?_
 obtain rfl:=sI h
 refine Zg (.inr rfl) hU [(vI (IntKind.i64.wrap (y2.Weight - y6.2.left))),(vI 0)] (by omega) ?_
 simp only [push_cast,seval,↓reduceIte,Zc,Tryz.results73,hN0,hN]
theorem Zn5 {a0:Zf} {a1:Int} {r:((List Int)×Bool)} {O:Objs} {n:Nat} (h:Uy a0 a1=some r):GTo Tryz.prog 28 [.agg (Zi a0),(vI a1)] O n (.tup [(sL (eI .u64) r.1),(vB r.2)]) O n:=by
 unfold Uy at h
 refine K6 Zq Tryz.call28 Tryz.func28 rfl fun hU hN0 hN => ?_
 show W _ _ _ _ ⟨33,[],[(0,.agg (Zi a0)),(1,(vI a1))]⟩ (Zw O n []) _
 refine zQ [1,2] ?_
 refine Ze ?_
 refine Ze ?_
 obtain ⟨y2,hy2,h⟩:=bC h
 refine zCd (Zl7 hy2) [1,2,12] [true] ?_
 refine Zo (t:=(!y2)) rfl (fun K9 => ?_) (fun K9 => ?_)
 ·replace h:=Zn K9 h
  refine zQ [4,5] ?_
  refine zW ?_
  obtain rfl:=sI h
  refine Zg (.inr rfl) hU [nV,(vB false)] (by omega) ?_
  simp only [push_cast,seval,↓reduceIte,Zc,Tryz.results28,hN0,hN]
 replace h:=Zm K9 h
 refine Qd [1,2] [true] ?_
 refine Ze ?_
 obtain ⟨y5,hy5,h⟩:=bC h
 obtain ⟨y6,hy6,h⟩:=bC h
 refine zC (Zq7 hy5) ?_
 refine zTs (Zn3 hy6) ?_
 refine zDs [6,7] [false] ?_
 refine zQ [6,21] ?_
 refine Zo (t:=(!y6.2)) rfl (fun Qk => ?_) (fun Qk => ?_)
 ·replace h:=Zn Qk h
  refine zQ [4,5] ?_
  refine zW ?_
  obtain rfl:=sI h
  refine Zg (.inr rfl) hU [nV,(vB false)] (by omega) ?_
  simp only [push_cast,seval,↓reduceIte,Zc,Tryz.results28,hN0,hN]
 replace h:=Zm Qk h
 refine Qd [6] [false] ?_
 refine Ze ?_
 refine Ze ?_
 obtain ⟨y10,hy10,h⟩:=bC h
 obtain ⟨y11,hy11,h⟩:=bC h
 obtain ⟨y12,hy12,h⟩:=bC h
 refine zR ?_
 refine GCalls.dropL (l':=[none,none]) hU rfl ?_ ((Zly hy10).then ?_)
 ·exact Gl
 refine zS ?_
 refine zTs (Zn6 hy11) ?_
 refine zTs (Zpe hy12) ?_
 refine zD [6,9] [false,false] ?_
 refine zQ [6,31] ?_
 refine Zo (t:=(y12.2 != 0)) rfl (fun Kj => ?_) (fun Kj => ?_)
 ·replace h:=Zn Kj h
  refine zQ [4,5] ?_
  refine zW ?_
  obtain rfl:=sI h
  refine Zg (.inr rfl) hU [nV,(vB false)] (by omega) ?_
  simp only [push_cast,seval,↓reduceIte,Zc,Tryz.results28,hN0,hN]
 replace h:=Zm Kj h
 refine Qd [6] [false,false] ?_
 refine zQ [4,5] ?_
 refine zW ?_
 obtain rfl:=sI h
 refine Zg (.inr rfl) hU [(sL (eI .u64) y6.1),(vB true)] (by omega) ?_
 simp only [push_cast,seval,↓reduceIte,Zc,Tryz.results28,hN0,hN]
theorem Zva {a0:Zj} {r:Int} {O:Objs} {n:Nat} (h:Zgj a0=some r):GTo Tryz.prog 272 [.agg (Zu a0)] O n ((vI r)) O n:=by
 unfold Zgj at h
 refine K6 Zq Tryz.call272 Tryz.func272 rfl fun hU hN0 hN => ?_
 show W _ _ _ _ ⟨20,[],[(0,.agg (Zu a0))]⟩ (Zw O n []) _
 refine zQ [1] ?_
 refine Ze ?_
 refine Ze ?_
 obtain ⟨y2,hy2,h⟩:=bC h
 refine zCd (Qu hy2) [1,4] [true] ?_
 refine Z9 ?_
 refine zQ [1,4,5] ?_
 refine Zo (t:=(y2 == 0)) rfl (fun c11 => ?_) (fun c11 => ?_)
 ·replace h:=Zn c11 h
  refine zQ [2] ?_
  refine zW ?_
  obtain rfl:=sI h
  refine Zg (.inr rfl) hU [(vI 0)] (by omega) ?_
  simp only [push_cast,seval,↓reduceIte,Zc,Tryz.results272,hN0,hN]
 replace h:=Zm c11 h
 refine zQ [1,4,7] ?_
 refine Zo (t:=(y2 == 1)) rfl (fun c10 => ?_) (fun c10 => ?_)
 ·replace h:=Zn c10 h
  refine Ze ?_
  obtain ⟨y5,hy5,h⟩:=bC h
  obtain ⟨y6,hy6,h⟩:=bC h
  refine X9 Zq (by kernel_rfl) [] (by kernel_rfl) ?_
  refine zS ?_
  refine PCall.of (Zb6 hy5) ?_
  refine zS ?_
  refine PCall.of (Qt hy6) ?_
  refine zS ?_
  refine zD [2] [false] ?_
  refine zW ?_
  obtain rfl:=sI h
  refine Zg (.inr rfl) hU [(vI (IntKind.i64.wrap ((IntKind.i64.wrap (1+y5))+y6)))] (by omega) ?_
  simp only [push_cast,seval,↓reduceIte,Zc,Tryz.results272,hN0,hN]
 replace h:=Zm c10 h
 refine zQ [1,15] ?_
 refine Zo (t:=(y2 == 8)) rfl (fun c9 => ?_) (fun c9 => ?_)
 ·replace h:=Zn c9 h
  refine Ze ?_
  obtain ⟨y8,hy8,h⟩:=bC h
  refine zCd (Qt hy8) [2] [false] ?_
  refine zW ?_
  obtain rfl:=sI h
  refine Zg (.inr rfl) hU [(vI (IntKind.i64.wrap (1+y8)))] (by omega) ?_
  simp only [push_cast,seval,↓reduceIte,Zc,Tryz.results272,hN0,hN]
 replace h:=Zm c9 h
 refine Qd [] [false] ?_
 refine zQ [2] ?_
 refine zW ?_
 obtain rfl:=sI h
 refine Zg (.inr rfl) hU [(vI 1)] (by omega) ?_
 simp only [push_cast,seval,↓reduceIte,Zc,Tryz.results272,hN0,hN]
theorem Zwl {a0:Zj} {r:Bool} {O:Objs} {n:Nat} (h:Zh2 a0=some r):GTo Tryz.prog 273 [.agg (Zu a0)] O n ((vB r)) O n:=by
 unfold Zh2 at h
 refine K6 Zq Tryz.call273 Tryz.func273 rfl fun hU hN0 hN => ?_
 show W _ _ _ _ ⟨11,[],[(0,.agg (Zu a0))]⟩ (Zw O n []) _
 refine zQ [1] ?_
 obtain ⟨z4,hz4,h⟩:=bC h
 refine Yu (E':=⟨11,[],[(2,(vB z4))]⟩) (O':=(Zw O n [none])) (n0:=(n+1)) ?_ ?_
 ·obtain ⟨y8,hy8,hz4⟩:=bC hz4
  rcases Bool.eq_false_or_eq_true (y8 == 1) with c11 | c11
  ·replace hz4:=Zn c11 hz4
   refine Q2 [some false,some false,some false] c11 ?_
   refine (Qu hy8).then ?_
   refine zX1 c11 ?_
   exact Qf hz4 c11
  replace hz4:=Zm c11 hz4
  obtain ⟨y9,hy9,hz4⟩:=bC hz4
  obtain ⟨y10,hy10,hz4⟩:=bC hz4
  refine Q2 [some true,some true,some true] c11 ?_
  refine (Qu hy8).then ?_
  refine zX1 c11 ?_
  refine (Qu hy9).then ?_
  refine zX1 c11 ?_
  refine (Znm hy10).then ?_
  refine zX1 c11 ?_
  exact Qf hz4 c11
 refine zW ?_
 obtain rfl:=sI h
 refine Zg (.inr rfl) hU [(vB z4)] (by omega) ?_
 simp only [push_cast,seval,↓reduceIte,Zc,Tryz.results273,hN0,hN]
theorem Z6u {a0:(List Int)} {a1:Int} {a2:Int} {r:Int} {O:Objs} {n:Nat} (h:Zry a0 a1 a2=some r):GTo Tryz.prog 298 [(sL (eI .u64) a0),(vI a1),(vI a2)] O n (.val (.int .u64 r)) O n:=by
 unfold Zry at h
 refine K6 Zq Tryz.call298 Tryz.func298 rfl fun hU hN0 hN => ?_
 show W _ _ _ _ ⟨45,[],[(0,(sL (eI .u64) a0)),(1,(vI a1)),(2,(vI a2))]⟩ (Zw O n []) _
 refine zQ [0,1,2] ?_
 refine Ze ?_
 obtain ⟨y2,hy2,h⟩:=bC h
 refine zCd (Zgg hy2) [0,2,7] [] ?_
 refine Ze ?_
 refine zQD [0,2,7,20] [none,none] ?_
 refine Zo (t:=(cond (y2.1 == 0) true (decide (a2 < 0)))) rfl (fun c18 => ?_) (fun c18 => ?_)
 ·replace h:=Zn c18 h
  refine zQ [6] ?_
  refine zW ?_
  obtain rfl:=sI h
  refine Zg (.inr rfl) hU [.val (.int .u64 0)] (by omega) ?_
  simp only [push_cast,seval,↓reduceIte,Zc,Tryz.results298,hN0,hN]
 replace h:=Zm c18 h
 refine Qd [0,2,7] [] ?_
 obtain ⟨pu4,h⟩:=bG h
 refine Zhc [0,2,7,9] (Yt Zq [] ?_)
 simp only [push_cast,seval,↓reduceIte,Zc,pu4,hN0,hN]
 refine Ze ?_
 obtain ⟨pu6,h⟩:=bG h
 refine Zhc [0,2,7,9,28] (Yt Zq [] ?_)
 simp only [push_cast,seval,↓reduceIte,Zc,pu6,hN0,hN]
 refine Zo (t:=(decide ((a0.length:Int)≤(IntKind.i64.wrap (Int.tdiv a2 (IntKind.i64.wrap (Int.tdiv 64 y2.1))))))) rfl (fun c17 => ?_) (fun c17 => ?_)
 ·replace h:=Zn c17 h
  refine zQ [6] ?_
  refine zW ?_
  obtain rfl:=sI h
  refine Zg (.inr rfl) hU [.val (.int .u64 0)] (by omega) ?_
  simp only [push_cast,seval,↓reduceIte,Zc,Tryz.results298,hN0,hN]
 replace h:=Zm c17 h
 refine Qd [0,2,7,9] [] ?_
 obtain ⟨pu12,h⟩:=bG h
 obtain ⟨x13,hx13,ax13,bx13,cx13,h⟩:=bE (f:=(eI .u64)) Zbn (fun _=>rfl) (by decide) h
 obtain ⟨pu14,h⟩:=bG h
 obtain ⟨pu15,h⟩:=bG h
 obtain ⟨pu16,h⟩:=bG h
 refine Zhc [6] (X9 Zq (by kernel_rfl) [] (by kernel_rfl) ?_)
 refine zF7 pu12 ax13 bx13 cx13 pu14 pu15 pu16 ?_
 refine zW ?_
 obtain rfl:=sI h
 refine Zg (.inr rfl) hU [.val (.int .u64 (IntKind.u64.wrap (Qq .u64 (Int.fdiv x13 (2 ^ min (Int.toNat (IntKind.i64.wrap ((Int.tmod a2 (IntKind.i64.wrap (Int.tdiv 64 y2.1))) * y2.1))) 64)) (IntKind.u64.wrap ((IntKind.u64.wrap (1 * 2 ^ min (Int.toNat y2.1) 64)) - 1)))))] (by omega) ?_
 simp only [push_cast,seval,↓reduceIte,Zc,Tryz.results298,hN0,hN]
theorem Zpc {a0:Zj} {r:Int} {O:Objs} {n:Nat} (h:Zfv a0=some r):GTo Tryz.prog 257 [.agg (Zu a0)] O n (.val (.int .u64 r)) O n:=by
 unfold Zfv at h
 refine K6 Zq Tryz.call257 Tryz.func257 rfl fun hU hN0 hN => ?_
 show W _ _ _ _ ⟨42,[],[(0,.agg (Zu a0))]⟩ (Zw O n []) _
 refine zQ [1] ?_
 refine Ze ?_
 obtain ⟨y2,hy2,h⟩:=bC h
 refine zCd (Zgg hy2) [1,3] [true] ?_
 refine Ze ?_
 refine zQ [1,3,15] ?_
 refine Zo (t:=(y2.1 == 0)) rfl (fun Kj => ?_) (fun Kj => ?_)
 ·replace h:=Zn Kj h
  refine zQ [2] ?_
  refine zW ?_
  obtain rfl:=sI h
  refine Zg (.inr rfl) hU [.val (.int .u64 0)] (by omega) ?_
  simp only [push_cast,seval,↓reduceIte,Zc,Tryz.results257,hN0,hN]
 replace h:=Zm Kj h
 refine Qd [1,3] [true] ?_
 obtain ⟨pu4,h⟩:=bG h
 refine Zhc [1,5] (Yt Zq [] ?_)
 simp only [push_cast,seval,↓reduceIte,Zc,pu4,hN0,hN]
 refine Ze ?_
 obtain ⟨pu7,h⟩:=bG h
 obtain ⟨y8,hy8,h⟩:=bC h
 refine X9 Zq (by kernel_rfl) [] (by kernel_rfl) ?_
 simp only [push_cast,seval,↓reduceIte,Zc,pu7,hN0,hN]
 refine PCall.of (Zaq hy8) ?_
 simp only [push_cast,seval,↓reduceIte,Zc,pu7,hN0,hN]
 refine zDs [1,5,6] [true] ?_
 obtain ⟨pu11,h⟩:=bG h
 obtain ⟨y12,hy12,h⟩:=bC h
 refine Zhb Zq (by kernel_rfl) [.plain,.pass,.low,.low,.low,.low,.plain,.low,.bar,.plain] (fun i=>i < (n+1)) [0,2,3,4,5,6,7,1,8,9] [.plain,.low,.low,.low,.low,.plain,.low,.pass,.bar,.plain] [] (by kernel_rfl) rfl ?_
 simp only [push_cast,seval,↓reduceIte,Zc,pu11,hN0,hN]
 refine zO ?_
 refine GCalls.lend (Z6u hy12) rfl ?_ ?_
 ·simp only [push_cast,seval,↓reduceIte,Zc,pu11,hN0,hN]
 simp only [push_cast,seval,↓reduceIte,Zc,pu11,hN0,hN]
 refine zO ?_
 refine Ki ⟨42,[],[(2,.val (.int .u64 y12))]⟩ (Zw O n [none,none]) (Z6 hU rfl rfl ?_) ?_
 ·simp only [push_cast,seval,↓reduceIte,Zc,pu11,hN0,hN]
 refine zW ?_
 obtain rfl:=sI h
 refine Zg (.inr rfl) hU [.val (.int .u64 y12)] (by omega) ?_
 simp only [push_cast,seval,↓reduceIte,Zc,Tryz.results257,hN0,hN]
theorem Zkz {a0:Zj} {a1:Int} {r:Int} {O:Objs} {n:Nat} (h:Zhz a0 a1=some r):GTo Tryz.prog 201 [.agg (Zu a0),(vI a1)] O n (.val (.int .u64 r)) O n:=by
 unfold Zhz at h
 refine K6 Zq Tryz.call201 Tryz.func201 rfl fun hU hN0 hN => ?_
 show W _ _ _ _ ⟨33,[],[(0,.agg (Zu a0)),(1,(vI a1))]⟩ (Zw O n []) _
 refine zQ [1,2] ?_
 refine Ze ?_
 obtain ⟨z2,hz2,h⟩:=bC h
 refine Yu (E':=⟨33,[],[(1,(vI a1)),(2,.ref n 0),(14,(vB z2))]⟩) (O':=(Zw O n [some ⟨false,62,9,1,(Zu a0)⟩])) (n0:=(n+1)) ?_ ?_
 ·rcases Bool.eq_false_or_eq_true (decide (a1 < 0)) with c5 | c5
  ·replace hz2:=Zn c5 hz2
   refine Q2 [some false,some false,some false,some false] c5 ?_
   exact Qf hz2 c5
  replace hz2:=Zm c5 hz2
  obtain ⟨y4,hy4,hz2⟩:=bC hz2
  refine Q2 [some true,some true,some true,some true] c5 ?_
  refine (Zb6 hy4).then ?_
  refine zX1 c5 ?_
  exact Qf hz2 c5
 refine Zo (t:=z2) rfl (fun c11 => ?_) (fun c11 => ?_)
 ·replace h:=Zn c11 h
  refine zQ [4] ?_
  refine zW ?_
  obtain rfl:=sI h
  refine Zg (.inr rfl) hU [.val (.int .u64 0)] (by omega) ?_
  simp only [push_cast,seval,↓reduceIte,Zc,Tryz.results201,hN0,hN]
 replace h:=Zm c11 h
 refine Qd [1,2] [true] ?_
 refine Ze ?_
 refine zQ [1,2,17] ?_
 refine Zo (t:=(a0.kind == 10)) rfl (fun c10 => ?_) (fun c10 => ?_)
 ·replace h:=Zn c10 h
  refine Ze ?_
  obtain ⟨y7,hy7,h⟩:=bC h
  refine zCd (Zpc hy7) [4] [false] ?_
  refine zW ?_
  obtain rfl:=sI h
  refine Zg (.inr rfl) hU [.val (.int .u64 y7)] (by omega) ?_
  simp only [push_cast,seval,↓reduceIte,Zc,Tryz.results201,hN0,hN]
 replace h:=Zm c10 h
 refine Qd [1,2] [true] ?_
 refine Ze ?_
 obtain ⟨y9,hy9,h⟩:=bC h
 refine zCd (Zaq hy9) [5] [false] ?_
 refine zQ [4] ?_
 refine zW ?_
 obtain rfl:=sI h
 refine Zg (.inr rfl) hU [.val (.int .u64 y9.1)] (by omega) ?_
 simp only [push_cast,seval,↓reduceIte,Zc,Tryz.results201,hN0,hN]
def Ze1 (Qj:(Z5→Zj→Int→Option (Za×Int×Z5))):Prop:=∀ {a0:Z5} {a1:Zj} {a2:Int} {r:(Za×Int×Z5)} {O:Objs} {n:Nat} {i0:Nat},i0 < n→O i0=some ⟨false,247,1,1,[(vI a0.left)]⟩→Qj a0 a1 a2=some r→GTo Tryz.prog 222 [.ref i0 0,.agg (Zu a1),(vI a2)] O n (.tup [.agg (Zd r.1),(vI r.2.1)]) (Zw (O.upd i0 (some ⟨false,247,1,1,[(vI r.2.2.left)]⟩)) n []) (n+0)
theorem Zlo {Qj:(Z5→Zj→Int→Option (Za×Int×Z5))} (Zky:Ze1 Qj) {a0:Z5} {a1:Zj} {a2:Int} {r:(Za×Int×Z5)} {O:Objs} {n:Nat} {i0:Nat} (hi0:i0 < n) (ho0:O i0=some ⟨false,247,1,1,[(vI a0.left)]⟩) (h:K2 Qj a0 a1 a2=some r):GTo Tryz.prog 222 [.ref i0 0,.agg (Zu a1),(vI a2)] O n (.tup [.agg (Zd r.1),(vI r.2.1)]) (Zw (O.upd i0 (some ⟨false,247,1,1,[(vI r.2.2.left)]⟩)) n []) (n+0):=by
 unfold K2 at h
 refine Zq0 Zq Tryz.call222 Tryz.func222 rfl (Nat.le_of_ble_eq_true rfl) (by omega) fun hU => ?_
 rw [show Zw O n []=Zw (O.upd i0 (some ⟨false,247,1,1,[(vI a0.left)]⟩)) n [] from by rw [Zt6 (show O i0=_ from by exact ho0)]]
 have hk0:∀ k,i0 < n+k:=fun k=>by omega
 have hN0:∀ o,Objs.upd O i0 o n=none:=fun o=>Vm hU hi0 _ (Nat.le_refl _)
 have hN:∀ o k,Objs.upd O i0 o (n+k)=none:=fun o k=>Vm hU hi0 _ (Nat.le_add_right _ _)
 show W _ _ _ _ ⟨89,[],[(0,.ref i0 0),(1,.agg (Zu a1)),(2,(vI a2))]⟩ (Zw (O.upd i0 (some ⟨false,247,1,1,[(vI a0.left)]⟩)) n []) _
 refine Zax [0,2,4,6] hi0 hk0 ?_
 refine Ze ?_
 obtain ⟨y2,hy2,h⟩:=bC h
 refine Zgh Zq (by kernel_rfl) [false,false,false,false,false,false,false,false,false,true] [] (by kernel_rfl) ?_
 refine zX2 hi0 hk0 ?_
 refine PCall.of (Zva hy2) ?_
 refine zX2 hi0 hk0 ?_
 refine zDs [0,2,4,6] [true,true] ?_
 obtain ⟨z4,hz4,h⟩:=bC h
 refine Yu (E':=⟨89,[],[(0,.ref i0 0),(2,(vI a2)),(4,.ref n 0),(6,.ref (n+1) 0),(35,(vB z4))]⟩) (O':=(Zw (O.upd i0 (some ⟨false,247,1,1,[(vI (IntKind.i64.wrap (a0.left - y2)))]⟩)) n [some ⟨false,62,9,1,(Zu a1)⟩,some ⟨false,25,3,1,[(vI 0),nV,nV]⟩])) (n0:=(n+2)) ?_ ?_
 ·rcases Bool.eq_false_or_eq_true (decide ((IntKind.i64.wrap (a0.left - y2)) < 0)) with c7 | c7
  ·replace hz4:=Zn c7 hz4
   refine Gu [some false,some false,some false,some false,some false,some false] c7 hi0 hk0 ?_
   obtain rfl:=sI hz4
   refine And.intro rfl (Fit2.of (Yq hU rfl rfl ?_) (by omega))
   exact Zjn c7 hi0 hk0
  replace hz4:=Zm c7 hz4
  rcases Bool.eq_false_or_eq_true (a2 == 0) with c8 | c8
  ·replace hz4:=Zn c8 hz4
   try rw [c8] at c7
   obtain ⟨y6,hy6,hz4⟩:=bC hz4
   refine Zm7 [some true,some true,some true,some true,some true,some true] c7 c8 hi0 hk0 ?_
   refine (Zwl hy6).then ?_
   refine zX4 c7 c8 hi0 hk0 ?_
   obtain rfl:=sI hz4
   refine And.intro rfl (Fit2.of (Yq hU rfl rfl ?_) (by omega))
   exact Ykr c7 c8 hi0 hk0
  replace hz4:=Zm c8 hz4
  try rw [c8] at c7
  refine Zm7 [some true,some true,some true,some false,some false,some true] c7 c8 hi0 hk0 ?_
  obtain rfl:=sI hz4
  refine And.intro rfl (Fit2.of (Yq hU rfl rfl ?_) (by omega))
  exact Ykr c7 c8 hi0 hk0
 refine Zo (t:=z4) rfl (fun c28 => ?_) (fun c28 => ?_)
 ·replace h:=Zn c28 h
  refine Ze ?_
  refine Xy [] hi0 hk0 ?_
  refine zD [6,7] [false,true] ?_
  refine zW ?_
  obtain rfl:=sI h
  refine Vc (k:=0) (i:=i0) (q1:=⟨false,247,1,1,[(vI (IntKind.i64.wrap (a0.left - y2)))]⟩) (L3:=[some ⟨false,25,3,1,[(vI 0),nV,nV]⟩,none]) (E2:=(⟨89,[],[(6,.ref n 0),(7,(vI 3))]⟩:Env)) (n3:=(n+2)) (.inr rfl) hU rfl [.agg [(vI 0),nV,nV],(vI 3)] ?_ ?_
  ·refine Fit2.trans (E':=(⟨89,[],[(6,.ref (n+1) 0),(7,(vI 3))]⟩:Env)) (O':=(Zw (O.upd i0 (some ⟨false,247,1,1,[(vI (IntKind.i64.wrap (a0.left - y2)))]⟩)) n [none,some ⟨false,25,3,1,[(vI 0),nV,nV]⟩])) (n':=(n+2)) (Fit2.of (Yq hU rfl rfl ?_) (by omega)) ?_
   ·exact Q4 hi0 hk0
   refine Jf (k:=2) (k':=2) hU [1,0] [1,0] rfl rfl rfl rfl ⟨rfl,rfl⟩ ?_
   exact Q4 hi0 hk0
  simp only [push_cast,seval,↓reduceIte,Zc,Tryz.results222,hi0,hk0,hN0,hN]
 replace h:=Zm c28 h
 refine Qd [0,2,4,6] [true,true] ?_
 refine Ze ?_
 obtain ⟨y10,hy10,h⟩:=bC h
 refine Xy [] hi0 hk0 ?_
 refine (Qu hy10).then ?_
 refine zX2 hi0 hk0 ?_
 refine zDs [0,2,4,6,8] [true,true,true] ?_
 refine Ze ?_
 obtain ⟨y12,hy12,h⟩:=bC h
 refine Xy [] hi0 hk0 ?_
 refine (Zb6 hy12).then ?_
 refine zX2 hi0 hk0 ?_
 refine zD [0,2,4,6,8,41,42] [true,true,true] ?_
 refine zD [0,2,4,6,8,41,42] [true,true,true] ?_
 refine G8 (E':=(⟨89,[],[(0,.ref i0 0),(2,(vI a2)),(4,.ref n 0),(6,.ref (n+1) 0),(8,.ref (n+2) 0),(41,(vI y12)),(42,(vI 0))]⟩:Env)) (O':=(Zw (O.upd i0 (some ⟨false,247,1,1,[(vI (IntKind.i64.wrap (a0.left - y2)))]⟩)) n [some ⟨false,62,9,1,(Zu a1)⟩,some ⟨false,25,3,1,[(vI 0),nV,nV]⟩,some ⟨false,25,3,1,[(vI y10),.row (n+3) ([]:List Int).length,nV]⟩,some (oR 77 1 (eI .u64) ([]:List Int)),none])) (n':=(n+5)) ?_ ?_
 ·refine Fit2.trans (E':=(⟨89,[],[(0,.ref i0 0),(2,(vI a2)),(4,.ref n 0),(6,.ref (n+1) 0),(8,.ref (n+2) 0),(41,(vI y12)),(42,(vI 0))]⟩:Env)) (O':=(Zw (O.upd i0 (some ⟨false,247,1,1,[(vI (IntKind.i64.wrap (a0.left - y2)))]⟩)) n [some ⟨false,62,9,1,(Zu a1)⟩,some ⟨false,25,3,1,[(vI 0),nV,nV]⟩,some ⟨false,25,3,1,[(vI y10),nV,nV]⟩])) (n':=(n+3)) (Fit2.of (Yq hU rfl rfl ?_) (by omega)) ?_
  ·exact Q4 hi0 hk0
  refine Fit2.trans (Zgn (p:=(n+2)) (k:=1) (q:=⟨false,25,3,1,[(vI y10),nV,nV]⟩) 77 1 (by simp only [Zc1,Zi1,List.getElem?_cons_zero,List.getElem?_cons_succ,Option.join_some,List.length_nil,Xo]) rfl (by omega)) ?_
  simp only [Q5,Qi,Vt,Kh,List.set_cons_zero,List.set_cons_succ,List.cons_append,List.nil_append,List.length_cons,List.length_nil,Nat.zero_add,Nat.reduceAdd,Nat.reduceLT,Nat.add_assoc,Zb7,Zif,hi0,hk0,hN0,hN]
  refine Jf (k:=4) (k':=5) hU [0,1,2,3] [0,1,2,3,0] rfl rfl rfl rfl ⟨rfl,rfl⟩ ?_
  exact Q4 hi0 hk0
 obtain ⟨z16,hz16,h⟩:=bC h
 refine Yj (E':=⟨89,[],[(0,.ref i0 0),(2,(vI a2)),(4,.ref n 0),(6,.ref (n+1) 0),(8,.ref (n+2) 0)]⟩) (O':=(Zw (O.upd i0 (some ⟨false,247,1,1,[(vI (IntKind.i64.wrap (a0.left - y2)))]⟩)) n [some ⟨false,62,9,1,(Zu a1)⟩,some ⟨false,25,3,1,[(vI 0),nV,nV]⟩,some ⟨false,25,3,1,[(vI y10),.row (n+3) z16.length,nV]⟩,some (oR 77 1 (eI .u64) z16),none])) (n0:=(n+5)) ?_ ?_
 ·refine Y4 hz16 (fun s0_=>⟨89,[],[(0,.ref i0 0),(2,(vI a2)),(4,.ref n 0),(6,.ref (n+1) 0),(8,.ref (n+2) 0),(41,(vI y12)),(42,(vI s0_.1))]⟩) (fun s0_=>(Zw (O.upd i0 (some ⟨false,247,1,1,[(vI (IntKind.i64.wrap (a0.left - y2)))]⟩)) n [some ⟨false,62,9,1,(Zu a1)⟩,some ⟨false,25,3,1,[(vI 0),nV,nV]⟩,some ⟨false,25,3,1,[(vI y10),.row (n+3) s0_.2.length,nV]⟩,some (oR 77 1 (eI .u64) s0_.2),none])) (fun z16=>JX 0 n (⟨89,[],[(0,.ref i0 0),(2,(vI a2)),(4,.ref n 0),(6,.ref (n+1) 0),(8,.ref (n+2) 0)]⟩:Env) (Zw (O.upd i0 (some ⟨false,247,1,1,[(vI (IntKind.i64.wrap (a0.left - y2)))]⟩)) n [some ⟨false,62,9,1,(Zu a1)⟩,some ⟨false,25,3,1,[(vI 0),nV,nV]⟩,some ⟨false,25,3,1,[(vI y10),.row (n+3) z16.length,nV]⟩,some (oR 77 1 (eI .u64) z16),none]) (n+5)) ?_
  intro s0_ x0_ hs0_
  unfold Zek at hs0_
  try dsimp only
  refine Zax [0,2,4,6,8,41,42,43] hi0 hk0 ?_
  refine Ze ?_
  refine Zo (t:=(decide (s0_.1 < y12))) rfl (fun K9 => ?_) (fun K9 => ?_)
  ·replace hs0_:=Zn K9 hs0_
   refine Qd [0,2,4,6,8,41,42] [true,true,true,true,false] ?_
   refine Ze ?_
   refine Z9 ?_
   refine Zax [0,2,4,6,8,9,41,42] hi0 hk0 ?_
   obtain ⟨y13,hy13,hs0_⟩:=bC hs0_
   obtain ⟨l14,pl14,ql14,el14,hs0_⟩:=bA (k:=1) rfl hs0_
   refine Zhb Zq (by kernel_rfl) [.low,.low,.plain,.plain,.plain,.pass,.bar,.plain,.bar] (fun i=>i < (n+5)) [0,1,2,3,4,5,6,7,8] [.low,.low,.plain,.plain,.plain,.pass,.bar,.plain,.bar] [] (by kernel_rfl) rfl ?_
   refine zX5 pl14 ql14 el14 hi0 hk0 ?_
   refine zO ?_
   first | refine PCallA.of (fun _ _=>Zkz hy13) ?_ | refine PCall.of (Zkz hy13) ?_
   refine zX5 pl14 ql14 el14 hi0 hk0 ?_
   refine zO ?_
   refine Ki ⟨89,[],[(0,.ref i0 0),(2,(vI a2)),(4,.ref n 0),(6,.ref (n+1) 0),(8,.ref (n+2) 0),(41,(vI y12)),(42,(vI s0_.1))]⟩ (Zw (O.upd i0 (some ⟨false,247,1,1,[(vI (IntKind.i64.wrap (a0.left - y2)))]⟩)) n [some ⟨false,62,9,1,(Zu a1)⟩,some ⟨false,25,3,1,[(vI 0),nV,nV]⟩,some ⟨false,25,3,1,[(vI y10),.row (n+3) l14.length,nV]⟩,some (oR 77 1 (eI .u64) l14),none,none]) (Yq hU rfl rfl ?_) ?_
   ·exact Yo7 pl14 ql14 el14 hi0 hk0
   refine Xy [] hi0 hk0 ?_
   obtain rfl:=sI hs0_
   refine And.intro rfl (Fit2.of (Yq hU rfl rfl ?_) (by omega))
   exact Q4 hi0 hk0
  replace hs0_:=Zm K9 hs0_
  refine zXt ?_
  obtain rfl:=sI hs0_
  refine And.intro (fun h=>by cases h) (And.intro rfl (Fit2.of (Yq hU rfl rfl ?_) (by omega)))
  exact Q4 hi0 hk0
 try simp only [Y1,Yc,↓reduceIte,Nat.reduceEqDiff]
 refine zDs [0,2,4,6,8] [true,true,true,true,false] ?_
 refine Ze ?_
 obtain ⟨y18,hy18,h⟩:=bC h
 refine Xy [] hi0 hk0 ?_
 refine (Qt hy18).then ?_
 refine zX2 hi0 hk0 ?_
 refine zD [0,2,4,6,8,55,56] [true,true,true,true,false] ?_
 refine zD [0,2,4,6,8,55,56] [true,true,true,true,false] ?_
 refine G8 (E':=(⟨89,[],[(0,.ref i0 0),(2,(vI a2)),(4,.ref n 0),(6,.ref (n+1) 0),(8,.ref (n+2) 0),(55,(vI y18)),(56,(vI 0))]⟩:Env)) (O':=(Zw (O.upd i0 (some ⟨false,247,1,1,[(vI (IntKind.i64.wrap (a0.left - y2)))]⟩)) n [some ⟨false,62,9,1,(Zu a1)⟩,some ⟨false,25,3,1,[(vI 0),nV,nV]⟩,some ⟨false,25,3,1,[(vI y10),.row (n+3) z16.length,.row (n+5) ([]:List Za).length]⟩,some (oR 77 1 (eI .u64) z16),none,some (oR 25 3 Zb ([]:List Za)),none])) (n':=(n+7)) ?_ ?_
 ·refine Fit2.trans (E':=(⟨89,[],[(0,.ref i0 0),(2,(vI a2)),(4,.ref n 0),(6,.ref (n+1) 0),(8,.ref (n+2) 0),(55,(vI y18)),(56,(vI 0))]⟩:Env)) (O':=(Zw (O.upd i0 (some ⟨false,247,1,1,[(vI (IntKind.i64.wrap (a0.left - y2)))]⟩)) n [some ⟨false,62,9,1,(Zu a1)⟩,some ⟨false,25,3,1,[(vI 0),nV,nV]⟩,some ⟨false,25,3,1,[(vI y10),.row (n+3) z16.length,nV]⟩,some (oR 77 1 (eI .u64) z16),none])) (n':=(n+5)) (Fit2.of (Yq hU rfl rfl ?_) (by omega)) ?_
  ·exact Q4 hi0 hk0
  refine Fit2.trans (Zgn (p:=(n+2)) (k:=2) (q:=⟨false,25,3,1,[(vI y10),.row (n+3) z16.length,nV]⟩) 25 3 (by simp only [Zc1,Zi1,List.getElem?_cons_zero,List.getElem?_cons_succ,Option.join_some,List.length_nil,Xo]) rfl (by omega)) ?_
  simp only [Q5,Qi,Vt,Kh,List.set_cons_zero,List.set_cons_succ,List.cons_append,List.nil_append,List.length_cons,List.length_nil,Nat.zero_add,Nat.reduceAdd,Nat.reduceLT,Nat.add_assoc,Zb7,Zif,hi0,hk0,hN0,hN]
  refine Jf (k:=6) (k':=7) hU [0,1,2,3,6,5] [0,1,2,3,0,5,0] rfl rfl rfl rfl ⟨rfl,rfl⟩ ?_
  exact Q4 hi0 hk0
 obtain ⟨z27,hz27,h⟩:=bC h
 refine Zaw (J:=(X8 (fun z27=>JR n (⟨89,[],[(6,.ref (n+1) 0),(7,(vI z27.1))]⟩:Env) (Zw (O.upd i0 (some ⟨false,247,1,1,[(vI z27.2)]⟩)) n [none,some ⟨false,25,3,1,[(vI 0),nV,nV]⟩,none,none,none]) (n+5)) (fun z27=>JX 2 n (⟨89,[],[(6,.ref (n+1) 0),(8,.ref (n+2) 0)]⟩:Env) (Zw (O.upd i0 (some ⟨false,247,1,1,[(vI z27.2)]⟩)) n [none,some ⟨false,25,3,1,[(vI 0),nV,nV]⟩,some ⟨false,25,3,1,[(vI y10),.row (n+3) z16.length,.row (n+5) z27.1.length]⟩,some (oR 77 1 (eI .u64) z16),none,some (oR 25 3 Zb z27.1),none]) (n+7)))) (z:=z27) ?_ fun hw => ?_
 ·refine Y4 hz27 (fun s1_=>⟨89,[],[(0,.ref i0 0),(2,(vI a2)),(4,.ref n 0),(6,.ref (n+1) 0),(8,.ref (n+2) 0),(55,(vI y18)),(56,(vI s1_.1))]⟩) (fun s1_=>(Zw (O.upd i0 (some ⟨false,247,1,1,[(vI s1_.2.2)]⟩)) n [some ⟨false,62,9,1,(Zu a1)⟩,some ⟨false,25,3,1,[(vI 0),nV,nV]⟩,some ⟨false,25,3,1,[(vI y10),.row (n+3) z16.length,.row (n+5) s1_.2.1.length]⟩,some (oR 77 1 (eI .u64) z16),none,some (oR 25 3 Zb s1_.2.1),none])) (X8 (fun z27=>JR n (⟨89,[],[(6,.ref (n+1) 0),(7,(vI z27.1))]⟩:Env) (Zw (O.upd i0 (some ⟨false,247,1,1,[(vI z27.2)]⟩)) n [none,some ⟨false,25,3,1,[(vI 0),nV,nV]⟩,none,none,none]) (n+5)) (fun z27=>JX 2 n (⟨89,[],[(6,.ref (n+1) 0),(8,.ref (n+2) 0)]⟩:Env) (Zw (O.upd i0 (some ⟨false,247,1,1,[(vI z27.2)]⟩)) n [none,some ⟨false,25,3,1,[(vI 0),nV,nV]⟩,some ⟨false,25,3,1,[(vI y10),.row (n+3) z16.length,.row (n+5) z27.1.length]⟩,some (oR 77 1 (eI .u64) z16),none,some (oR 25 3 Zb z27.1),none]) (n+7))) ?_
  intro s1_ x1_ hs1_
  unfold Zel at hs1_
  try dsimp only
  refine Zax [0,2,4,6,8,55,56,57] hi0 hk0 ?_
  refine Ze ?_
  refine Zo (t:=(decide (s1_.1 < y18))) rfl (fun c26 => ?_) (fun c26 => ?_)
  ·replace hs1_:=Zn c26 hs1_
   refine Qd [0,2,4,6,8,55,56] [true,true,true,true,false,true,false] ?_
   refine Ze ?_
   refine Z9 ?_
   refine Zax [0,2,4,6,8,10,55,56] hi0 hk0 ?_
   refine Ze ?_
   obtain ⟨y20,hy20,hs1_⟩:=bC hs1_
   refine Xy [] hi0 hk0 ?_
   refine (Zh7 hy20).then ?_
   refine zX2 hi0 hk0 ?_
   refine zDs [0,2,4,6,8,11,12,55,56] [true,true,true,true,false,true,false,true] ?_
   refine Zax [0,2,4,6,8,11,12,55,56,66] hi0 hk0 ?_
   refine Zo (t:=(y20.2 != 0)) rfl (fun c25 => ?_) (fun c25 => ?_)
   ·replace hs1_:=Zn c25 hs1_
    refine Ze ?_
    refine Xy [] hi0 hk0 ?_
    refine zD [6,7] [false,true,false,false,false,false,false,false] ?_
    refine zW ?_
    obtain rfl:=sI hs1_
    refine And.intro (fun h=>by cases h) (And.intro rfl (Fit2.of (Yq hU rfl rfl ?_) (by omega)))
    exact Q4 hi0 hk0
   replace hs1_:=Zm c25 hs1_
   refine Qd [0,2,4,6,8,11,55,56] [true,true,true,true,false,true,false,true] ?_
   refine Ze ?_
   obtain ⟨y22,hy22,hs1_⟩:=bC hs1_
   refine Xy [] hi0 hk0 ?_
   refine (Zky (i0:=i0) (by omega) (by simp only [push_cast,seval,↓reduceIte,Zc,Gf,hi0,hk0,hN0,hN] <;> rfl) hy22).then ?_
   refine zX2 hi0 hk0 ?_
   refine zDs [0,2,4,6,8,12,13,55,56] [true,true,true,true,false,true,false,false,true] ?_
   refine Zax [0,2,4,6,8,12,13,55,56,78] hi0 hk0 ?_
   refine Zo (t:=(y22.2.1 != 0)) rfl (fun c24 => ?_) (fun c24 => ?_)
   ·replace hs1_:=Zn c24 hs1_
    refine Ze ?_
    refine Xy [] hi0 hk0 ?_
    refine zD [6,7] [false,true,false,false,false,false,false,false,false] ?_
    refine zW ?_
    obtain rfl:=sI hs1_
    refine And.intro (fun h=>by cases h) (And.intro rfl (Fit2.of (Yq hU rfl rfl ?_) (by omega)))
    exact Q4 hi0 hk0
   replace hs1_:=Zm c24 hs1_
   refine Qd [0,2,4,6,8,13,55,56] [true,true,true,true,false,true,false,false,true] ?_
   obtain ⟨l23,pl23,ql23,el23,hs1_⟩:=bA (k:=1) rfl hs1_
   refine Z2c [] pl23 ql23 el23 hi0 hk0 ?_
   refine Ki ⟨89,[],[(0,.ref i0 0),(2,(vI a2)),(4,.ref n 0),(6,.ref (n+1) 0),(8,.ref (n+2) 0),(55,(vI y18)),(56,(vI s1_.1))]⟩ (Zw (O.upd i0 (some ⟨false,247,1,1,[(vI y22.2.2.left)]⟩)) n [some ⟨false,62,9,1,(Zu a1)⟩,some ⟨false,25,3,1,[(vI 0),nV,nV]⟩,some ⟨false,25,3,1,[(vI y10),.row (n+3) z16.length,.row (n+5) l23.length]⟩,some (oR 77 1 (eI .u64) z16),none,some (oR 25 3 Zb l23),none,none,none,none]) (Yq hU rfl rfl ?_) ?_
   ·exact Yo7 pl23 ql23 el23 hi0 hk0
   refine Xy [] hi0 hk0 ?_
   obtain rfl:=sI hs1_
   refine And.intro rfl (Fit2.of (Yq hU rfl rfl ?_) (by omega))
   exact Q4 hi0 hk0
  replace hs1_:=Zm c26 hs1_
  refine zXt ?_
  obtain rfl:=sI hs1_
  refine And.intro (fun h=>by cases h) (And.intro rfl (Fit2.of (Yq hU rfl rfl ?_) (by omega)))
  exact Q4 hi0 hk0
 rcases z27 with z27 | z27
 ·dsimp only [X8] at hw h
  refine Jv hw ?_
  try simp only [Y1,Yc,↓reduceIte,Nat.reduceEqDiff]
  obtain rfl:=sI h
  refine Vc (k:=0) (i:=i0) (q1:=⟨false,247,1,1,[(vI z27.2)]⟩) (L3:=[some ⟨false,25,3,1,[(vI 0),nV,nV]⟩,none]) (E2:=(⟨89,[],[(6,.ref n 0),(7,(vI z27.1))]⟩:Env)) (n3:=(n+2)) (.inr rfl) hU rfl [.agg [(vI 0),nV,nV],(vI z27.1)] ?_ ?_
  ·refine Fit2.trans (E':=(⟨89,[],[(6,.ref (n+1) 0),(7,(vI z27.1))]⟩:Env)) (O':=(Zw (O.upd i0 (some ⟨false,247,1,1,[(vI z27.2)]⟩)) n [none,some ⟨false,25,3,1,[(vI 0),nV,nV]⟩,none,none,none])) (n':=(n+5)) (Fit2.of (Yq hU rfl rfl ?_) (by omega)) ?_
   ·exact Q4 hi0 hk0
   refine Jf (k:=5) (k':=2) hU [1,0,1,1,1] [1,0] rfl rfl rfl rfl ⟨rfl,rfl⟩ ?_
   exact Q4 hi0 hk0
  simp only [push_cast,seval,↓reduceIte,Zc,Tryz.results222,hi0,hk0,hN0,hN]
 dsimp only [X8] at hw h
 refine Yj hw ?_
 try simp only [Y1,Yc,↓reduceIte,Nat.reduceEqDiff]
 refine zDs [6,8] [false,true,true,true,false,true,false] ?_
 refine Xy [] hi0 hk0 ?_
 refine zD [6,7] [false,true,false,true,false,true,false] ?_
 refine zW ?_
 obtain rfl:=sI h
 refine Vc (k:=0) (i:=i0) (q1:=⟨false,247,1,1,[(vI z27.2)]⟩) (L3:=[some ⟨false,25,3,1,[(vI y10),.row (n+1) z16.length,.row (n+2) z27.1.length]⟩,some (oR 77 1 (eI .u64) z16),some (oR 25 3 Zb z27.1),none]) (E2:=(⟨89,[],[(6,.ref n 0),(7,(vI 0))]⟩:Env)) (n3:=(n+4)) (.inr rfl) hU rfl [.agg [(vI y10),.row (n+1) z16.length,.row (n+2) z27.1.length],(vI 0)] ?_ ?_
 ·refine Fit2.trans (E':=(⟨89,[],[(6,.ref (n+1) 0),(7,(vI 0))]⟩:Env)) (O':=(Zw (O.upd i0 (some ⟨false,247,1,1,[(vI z27.2)]⟩)) n [none,some ⟨false,25,3,1,[(vI y10),.row (n+3) z16.length,.row (n+5) z27.1.length]⟩,none,some (oR 77 1 (eI .u64) z16),none,some (oR 25 3 Zb z27.1),none])) (n':=(n+7)) (Fit2.of (Yq hU rfl rfl ?_) (by omega)) ?_
  ·exact Q4 hi0 hk0
  refine Jf (k:=7) (k':=4) hU [3,0,3,1,3,2,3] [1,3,5,0] rfl rfl rfl rfl ⟨rfl,rfl⟩ ?_
  exact Q4 hi0 hk0
 simp only [push_cast,seval,↓reduceIte,Zc,Tryz.results222,hi0,hk0,hN0,hN]
theorem Zj4:∀ k,(Ze1 (Ud k)):=fun k=>by
 induction k with
 | zero=>exact @fun a0 a1 a2 r O n i0 hi0 ho0 h=>(nomatch (show (none:Option _)=some _ from h))
 | succ k ih=>exact @fun a0 a1 a2 r O n i0 hi0 ho0 h=>Zlo (ih) hi0 ho0 h
theorem Zmc {a0:Z5} {a1:Zj} {a2:Int} {r:(Za×Int×Z5)} {O:Objs} {n:Nat} {i0:Nat} (hi0:i0 < n) (ho0:O i0=some ⟨false,247,1,1,[(vI a0.left)]⟩) (h:Zco a0 a1 a2=some r):GTo Tryz.prog 222 [.ref i0 0,.agg (Zu a1),(vI a2)] O n (.tup [.agg (Zd r.1),(vI r.2.1)]) (Zw (O.upd i0 (some ⟨false,247,1,1,[(vI r.2.2.left)]⟩)) n []) (n+0):=by
 obtain ⟨k,hk⟩:=V0 h
 exact (Zj4 k) hi0 ho0 hk
theorem Zwk {a0:Zj} {r:(Za×Int)} {O:Objs} {n:Nat} (h:Zh1 a0=some r):GTo Tryz.prog 150 [.agg (Zu a0)] O n (.tup [.agg (Zd r.1),(vI r.2)]) O n:=by
 unfold Zh1 at h
 refine K6 Zq Tryz.call150 Tryz.func150 rfl fun hU hN0 hN => ?_
 show W _ _ _ _ ⟨10,[],[(0,.agg (Zu a0))]⟩ (Zw O n []) _
 refine zQ [1,2] ?_
 refine Ze ?_
 refine zRd [1,2,4] [true,true,true] ?_
 refine Ze ?_
 obtain ⟨y2,hy2,h⟩:=bC h
 refine zR ?_
 refine (Zmc (i0:=(n+2)) (by omega) (by simp only [push_cast,seval,↓reduceIte,Zc,Gf,hN0,hN] <;> rfl) hy2).then ?_
 refine zS ?_
 refine zD [2,3] [false,true,false] ?_
 refine zW ?_
 obtain rfl:=sI h
 refine Zg (.inr rfl) hU [.agg (Zd y2.1),(vI y2.2.1)] (by omega) ?_
 simp only [push_cast,seval,↓reduceIte,Zc,Tryz.results150,hN0,hN]
theorem U8 {a0:(Option Zz)} {a1:X2} {r:(Za×Int)} {O:Objs} {n:Nat} (h:Zcn a0 a1=some r):GTo Tryz.prog 120 [(gP Zv a0),.agg (Xz a1)] O n (.tup [.agg (Zd r.1),(vI r.2)]) O n:=by
 unfold Zcn at h
 refine K6 Zq Tryz.call120 Tryz.func120 rfl fun hU hN0 hN => ?_
 show W _ _ _ _ ⟨38,[],[(0,(gP Zv a0)),(1,.agg (Xz a1))]⟩ (Zw O n []) _
 refine zQ [0,3,4] ?_
 refine Ze ?_
 refine Ze ?_
 obtain ⟨y2,hy2,h⟩:=bC h
 refine zCd (Zpe hy2) [0,4,7] [false,true] ?_
 refine zQ [0,4,7,18] ?_
 refine Zo (t:=(y2.2 != 0)) rfl (fun c10 => ?_) (fun c10 => ?_)
 ·replace h:=Zn c10 h
  refine Ze ?_
  refine zRd [4,5] [false,true] ?_
  refine zW ?_
  obtain rfl:=sI h
  refine Zg (.inr rfl) hU [.agg [(vI 0),nV,nV],(vI y2.2)] (by omega) ?_
  simp only [push_cast,seval,↓reduceIte,Zc,Tryz.results120,hN0,hN]
 replace h:=Zm c10 h
 refine Qd [0,4] [false,true] ?_
 refine Ze ?_
 obtain ⟨y4,hy4,h⟩:=bC h
 refine zCd (Zpd hy4) [4,8,9] [false,true,true] ?_
 refine Ze ?_
 refine zQ [4,8,9,27] ?_
 refine Zo (t:=(y4.2 != 0)) rfl (fun c9 => ?_) (fun c9 => ?_)
 ·replace h:=Zn c9 h
  refine Ze ?_
  refine zRd [4,5] [false,true,false] ?_
  refine zW ?_
  obtain rfl:=sI h
  refine Zg (.inr rfl) hU [.agg [(vI 0),nV,nV],(vI y4.2)] (by omega) ?_
  simp only [push_cast,seval,↓reduceIte,Zc,Tryz.results120,hN0,hN]
 replace h:=Zm c9 h
 refine Qd [4,8] [false,true,true] ?_
 refine Ze ?_
 obtain ⟨y6,hy6,h⟩:=bC h
 refine zCd (Zwk hy6) [4,9,10] [false,true,false,true] ?_
 refine Ze ?_
 obtain ⟨y8,hy8,h⟩:=bC h
 refine zCd (Znn hy8) [4,5] [false,true,false,false] ?_
 refine zW ?_
 obtain rfl:=sI h
 refine Zg (.inr rfl) hU [.agg (Zd y8),(vI y6.2)] (by omega) ?_
 simp only [push_cast,seval,↓reduceIte,Zc,Tryz.results120,hN0,hN]
theorem Ja {a0:(List Int)} {a1:(List Int)} {r:Bool} {O:Objs} {n:Nat} (h:Xw a0 a1=some r):GTo Tryz.prog 105 [(sL (eI .u64) a0),(sL (eI .u64) a1)] O n ((vB r)) O n:=by
 unfold Xw at h
 refine K6 Zq Tryz.call105 Tryz.func105 rfl fun hU hN0 hN => ?_
 show W _ _ _ _ ⟨26,[],[(0,(sL (eI .u64) a0)),(1,(sL (eI .u64) a1))]⟩ (Zw O n []) _
 refine zQ [0,1] ?_
 refine Ze ?_
 refine zQ [0,1,10] ?_
 refine Zo (t:=((a0.length:Int) != (a1.length:Int))) rfl (fun c8 => ?_) (fun c8 => ?_)
 ·replace h:=Zn c8 h
  refine zQ [4] ?_
  refine zW ?_
  obtain rfl:=sI h
  refine Zg (.inr rfl) hU [(vB false)] (by omega) ?_
  simp only [push_cast,seval,↓reduceIte,Zc,Tryz.results105,hN0,hN]
 replace h:=Zm c8 h
 refine Qd [0,1] [] ?_
 refine Ze ?_
 refine zQd [0,1,12,13] [0,1,12,13] [] ?_
 obtain ⟨z7,hz7,h⟩:=bC h
 refine Zaw (J:=(X8 (fun z7=>JR n (⟨26,[],[(4,(vB false))]⟩:Env) (Zw O n []) n) (fun z7=>JX 0 n (⟨26,[],[]⟩:Env) (Zw O n []) n))) (z:=z7) ?_ fun hw => ?_
 ·refine Y4 hz7 (fun s0_=>⟨26,[],[(0,(sL (eI .u64) a0)),(1,(sL (eI .u64) a1)),(12,(vI (a0.length:Int))),(13,(vI s0_))]⟩) (fun s0_=>(Zw O n [])) (X8 (fun z7=>JR n (⟨26,[],[(4,(vB false))]⟩:Env) (Zw O n []) n) (fun z7=>JX 0 n (⟨26,[],[]⟩:Env) (Zw O n []) n)) ?_
  intro s0_ x0_ hs0_
  unfold Qw at hs0_
  try dsimp only
  refine zQ [0,1,12,13,14] ?_
  refine Ze ?_
  refine Zo (t:=(decide (s0_ < (a0.length:Int)))) rfl (fun c6 => ?_) (fun c6 => ?_)
  ·replace hs0_:=Zn c6 hs0_
   refine Qd [0,1,12,13] [] ?_
   refine Ze ?_
   refine Z9 ?_
   refine zQ [0,1,5,12,13] ?_
   obtain ⟨x3,hx3,ax3,bx3,cx3,hs0_⟩:=bE (f:=(eI .u64)) Zbn (fun _=>rfl) (by decide) hs0_
   obtain ⟨x4,hx4,ax4,bx4,cx4,hs0_⟩:=bE (f:=(eI .u64)) Zbn (fun _=>rfl) (by decide) hs0_
   refine Zhc [0,1,12,13,24] (X9 Zq (by kernel_rfl) [] (by kernel_rfl) ?_)
   refine zF6 ax3 bx3 cx3 ax4 bx4 cx4 ?_
   refine Zo (t:=(x3 != x4)) rfl (fun c5 => ?_) (fun c5 => ?_)
   ·replace hs0_:=Zn c5 hs0_
    refine zQ [4] ?_
    refine zW ?_
    exact zEy hs0_
   replace hs0_:=Zm c5 hs0_
   refine Qd [0,1,12,13] [] ?_
   refine zR ?_
   exact Gv hs0_
  replace hs0_:=Zm c6 hs0_
  exact zEx hs0_
 rcases z7 with z7 | z7
 ·dsimp only [X8] at hw h
  refine Jv hw ?_
  try simp only [Y1,Yc,↓reduceIte,Nat.reduceEqDiff]
  obtain rfl:=sI h
  refine Zg (.inr rfl) hU [(vB false)] (by omega) ?_
  simp only [push_cast,seval,↓reduceIte,Zc,Tryz.results105,hN0,hN]
 dsimp only [X8] at hw h
 refine Yj hw ?_
 try simp only [Y1,Yc,↓reduceIte,Nat.reduceEqDiff]
 refine zD [] [] ?_
 refine zQ [4] ?_
 refine zW ?_
 obtain rfl:=sI h
 refine Zg (.inr rfl) hU [(vB true)] (by omega) ?_
 simp only [push_cast,seval,↓reduceIte,Zc,Tryz.results105,hN0,hN]
theorem Zwh {a0:(List Int)} {a1:X2} {r:(Za×Int)} {O:Objs} {n:Nat} (h:Zes a0 a1=some r):GTo Tryz.prog 76 [(sL (eI .u64) a0),.agg (Xz a1)] O n (.tup [.agg (Zd r.1),(vI r.2)]) O n:=by
 unfold Zes at h
 refine K6 Zq Tryz.call76 Tryz.func76 rfl fun hU hN0 hN => ?_
 show W _ _ _ _ ⟨39,[],[(0,(sL (eI .u64) a0)),(1,.agg (Xz a1))]⟩ (Zw O n []) _
 refine zQ [0,3,4] ?_
 obtain ⟨y25,hy25,h⟩:=bC h
 obtain ⟨y49,hy49,h⟩:=bC h
 refine Yu (E':=⟨39,[],[(0,(sL (eI .u64) a0)),(4,.ref (n+1) 0),(6,.ref (n+3) 0),(7,(vI y49.2))]⟩) (O':=(Zw O n [none,some ⟨false,25,3,1,[(vI 0),nV,nV]⟩,none,some ⟨false,25,3,1,(Zd y49.1)⟩])) (n0:=(n+4)) ?_ ?_
 ·refine Zs0 Zq (by kernel_rfl) [.plain,.pass,.pass,.low,.low,.plain,.plain,.plain,.pass,.pass,.plain] (fun i=>i < (n+2)) [0,3] [1,2,4,5,6,7,8] [9,10] (.alt 1 (.alt 2 (.seq [4,5,6,7,8]) (.one 8 (.seq [2,4,5,6,7]))) (.one 8 (.seq [1,2,4,5,6,7]))) [.plain,.low] [] (by kernel_rfl) rfl ?_
  simp (maxSteps:=4000000) only [push_cast,seval,↓reduceIte,Zc,hN0,hN]
  repeat (with_reducible refine And.intro (by omega) ?_)
  try simp only [push_cast,seval,↓reduceIte,Zc,hN0,hN]
  refine And.intro ?_ ?_
  ·try simp only [push_cast,seval,↓reduceIte,Zc,hN0,hN]
   repeat (with_reducible refine And.intro (by first | exact Y3 rfl | exact Yp) ?_)
   try simp only [push_cast,seval,↓reduceIte,Zc,hN0,hN]
   refine And.intro ?_ ?_
   ·try simp only [push_cast,seval,↓reduceIte,Zc,hN0,hN]
    repeat (with_reducible refine And.intro (by first | exact Y3 rfl | exact Yp) ?_)
    refine GCalls.dropL (l':=[some ⟨false,55,4,1,(Xz a1)⟩,some ⟨false,25,3,1,[(vI 0),nV,nV]⟩,none]) hU rfl ?_ ((Zly hy25).then ?_)
    ·exact Gl
    try simp only [push_cast,seval,↓reduceIte,Zc,hN0,hN]
    repeat (with_reducible refine And.intro (by first | exact Y3 rfl | exact Yp) ?_)
    try simp only [push_cast,seval,↓reduceIte,Zc,hN0,hN]
    repeat (with_reducible refine And.intro (by first | exact Y3 rfl | exact Yp) ?_)
    first | refine PCallA.of (fun _ _=>U8 hy49) ?_ | refine PCall.of (U8 hy49) ?_
    try simp only [push_cast,seval,↓reduceIte,Zc,hN0,hN]
    repeat (with_reducible refine And.intro (by first | exact Y3 rfl | exact Yp) ?_)
    exact zEf
   try simp only [push_cast,seval,↓reduceIte,Zc,hN0,hN]
   repeat (with_reducible refine And.intro (by first | exact Y3 rfl | exact Yp) ?_)
   try simp only [push_cast,seval,↓reduceIte,Zc,hN0,hN]
   repeat (with_reducible refine And.intro (by first | exact Y3 rfl | exact Yp) ?_)
   refine GCalls.dropL (l':=[some ⟨false,55,4,1,(Xz a1)⟩,some ⟨false,25,3,1,[(vI 0),nV,nV]⟩,none,some ⟨false,25,3,1,[(vI 0),nV,nV]⟩]) hU rfl ?_ ((Zly hy25).then ?_)
   ·exact Gl
   try simp only [push_cast,seval,↓reduceIte,Zc,hN0,hN]
   repeat (with_reducible refine And.intro (by first | exact Y3 rfl | exact Yp) ?_)
   first | refine PCallA.of (fun _ _=>U8 hy49) ?_ | refine PCall.of (U8 hy49) ?_
   try simp only [push_cast,seval,↓reduceIte,Zc,hN0,hN]
   repeat (with_reducible refine And.intro (by first | exact Y3 rfl | exact Yp) ?_)
   exact zEf
  try simp only [push_cast,seval,↓reduceIte,Zc,hN0,hN]
  repeat (with_reducible refine And.intro (by first | exact Y3 rfl | exact Yp) ?_)
  try simp only [push_cast,seval,↓reduceIte,Zc,hN0,hN]
  repeat (with_reducible refine And.intro (by first | exact Y3 rfl | exact Yp) ?_)
  refine GCalls.dropL (l':=[some ⟨false,55,4,1,(Xz a1)⟩,some ⟨false,25,3,1,[(vI 0),nV,nV]⟩,some ⟨false,25,3,1,[(vI 0),nV,nV]⟩,none]) hU rfl ?_ ((Zly hy25).then ?_)
  ·exact Gl
  try simp only [push_cast,seval,↓reduceIte,Zc,hN0,hN]
  repeat (with_reducible refine And.intro (by first | exact Y3 rfl | exact Yp) ?_)
  first | refine PCallA.of (fun _ _=>U8 hy49) ?_ | refine PCall.of (U8 hy49) ?_
  try simp only [push_cast,seval,↓reduceIte,Zc,hN0,hN]
  repeat (with_reducible refine And.intro (by first | exact Y3 rfl | exact Yp) ?_)
  refine And.intro rfl ?_
  refine Fit2.trans (E':=(⟨39,[],[(0,(sL (eI .u64) a0)),(4,.ref (n+1) 0),(6,.ref (n+2) 0),(7,(vI y49.2))]⟩:Env)) (O':=(Zw O n [none,some ⟨false,25,3,1,[(vI 0),nV,nV]⟩,some ⟨false,25,3,1,(Zd y49.1)⟩,none])) (n':=(n+4)) (Fit2.of (Z6 hU rfl rfl ?_) (by omega)) ?_
  ·exact Gl
  refine Jg (k:=4) (k':=4) hU [0,1,3,2] [0,1,3,2] rfl rfl rfl rfl ⟨rfl,rfl⟩ ?_
  exact Gl
 refine Ze ?_
 refine zQ [0,4,6,7,19] ?_
 refine Zo (t:=(y49.2 != 0)) rfl (fun c141 => ?_) (fun c141 => ?_)
 ·replace h:=Zn c141 h
  refine Ze ?_
  refine zRd [4,5] [false,true,false,false] ?_
  refine zW ?_
  obtain rfl:=sI h
  refine Zg (.inr rfl) hU [.agg [(vI 0),nV,nV],(vI y49.2)] (by omega) ?_
  simp only [push_cast,seval,↓reduceIte,Zc,Tryz.results76,hN0,hN]
 replace h:=Zm c141 h
 refine Qd [0,4,6] [false,true,false,true] ?_
 refine Ze ?_
 obtain ⟨y134,hy134,h⟩:=bC h
 refine zCd (Zn3 hy134) [0,4,6,8,9] [false,true,false,true] ?_
 refine Ze ?_
 obtain ⟨z136,hz136,h⟩:=bC h
 refine Yu (E':=⟨39,[],[(4,.ref (n+1) 0),(6,.ref (n+3) 0),(36,(vB z136))]⟩) (O':=(Zw O n [none,some ⟨false,25,3,1,[(vI 0),nV,nV]⟩,none,some ⟨false,25,3,1,(Zd y49.1)⟩])) (n0:=(n+4)) ?_ ?_
 ·rcases Bool.eq_false_or_eq_true y134.2 with c139 | c139
  ·replace hz136:=Zn c139 hz136
   obtain ⟨y138,hy138,hz136⟩:=bC hz136
   refine Q2 [some true,some true,some true,some true] c139 ?_
   refine (Ja hy138).then ?_
   refine zX1 c139 ?_
   exact Qf hz136 c139
  replace hz136:=Zm c139 hz136
  refine Q2 [some false,some false,some false,some false] c139 ?_
  exact Qf hz136 c139
 refine Zo (t:=z136) rfl (fun c140 => ?_) (fun c140 => ?_)
 ·replace h:=Zn c140 h
  refine Ze ?_
  refine zRd [4,5] [false,true,false,false] ?_
  refine zW ?_
  obtain rfl:=sI h
  refine Zg (.inr rfl) hU [.agg [(vI 0),nV,nV],(vI 5)] (by omega) ?_
  simp only [push_cast,seval,↓reduceIte,Zc,Tryz.results76,hN0,hN]
 replace h:=Zm c140 h
 refine Qd [4,6] [false,true,false,true] ?_
 refine Ze ?_
 refine zRd [4,5] [false,true,false,false] ?_
 refine zW ?_
 obtain rfl:=sI h
 refine Zg (.inr rfl) hU [.agg (Zd y49.1),(vI 0)] (by omega) ?_
 simp only [push_cast,seval,↓reduceIte,Zc,Tryz.results76,hN0,hN]
theorem Zbl {a0:Za} {a1:Int} {r:Za} {O:Objs} {n:Nat} (h:X5 a0 a1=some r):GTo Tryz.prog 100 [.agg (Zd a0),(vI a1)] O n (.agg (Zd r)) O n:=by
 unfold X5 at h
 refine K6 Zq Tryz.call100 Tryz.func100 rfl fun hU hN0 hN => ?_
 show W _ _ _ _ ⟨20,[],[(0,.agg (Zd a0)),(1,(vI a1))]⟩ (Zw O n []) _
 refine zQ [1,2,4] ?_
 refine Ze ?_
 refine zQD [1,2,4,13] [none,none,none,none,none] ?_
 refine Zo (t:=(cond (decide (a1 < 0)) true (decide ((a0.Kids.length:Int)≤a1)))) rfl (fun c3 => ?_) (fun c3 => ?_)
 ·replace h:=Zn c3 h
  refine Ze ?_
  refine zRd [4] [false,true] ?_
  refine zW ?_
  obtain rfl:=sI h
  refine Zg (.inr rfl) hU [.agg [(vI 0),nV,nV]] (by omega) ?_
  simp only [push_cast,seval,↓reduceIte,Zc,Tryz.results100,hN0,hN]
 replace h:=Zm c3 h
 refine Qd [1,2,4] [true,true] ?_
 refine Ze ?_
 obtain ⟨x2,hx2,ax2,bx2,cx2,h⟩:=bE (f:=Zb) Uc (fun _=>rfl) (by decide) h
 refine Gc [] ax2 bx2 cx2 ?_
 refine zD [4] [false,true] ?_
 refine zW ?_
 obtain rfl:=sI h
 refine Zg (.inr rfl) hU [.agg (Zd x2)] (by omega) ?_
 simp only [push_cast,seval,↓reduceIte,Zc,Tryz.results100,hN0,hN]
theorem Zr4 {a0:Za} {r:(List Zx)} {O:Objs} {n:Nat} (h:J5 a0=some r):GTo Tryz.prog 101 [.agg (Zd a0)] O n ((sL Zp r)) O n:=by
 unfold J5 at h
 refine K6 Zq Tryz.call101 Tryz.func101 rfl fun hU hN0 hN => ?_
 show W _ _ _ _ ⟨32,[],[(0,.agg (Zd a0))]⟩ (Zw O n []) _
 refine zQ [1] ?_
 refine zQ [1,3] ?_
 refine Ze ?_
 refine zQd [3,8,9,10] [3,8,9,10] [false] ?_
 refine G8 (E':=(⟨32,[],[(3,.row (n+1) ([]:List Zx).length),(8,(sL Zb a0.Kids)),(9,(vI (a0.Kids.length:Int))),(10,(vI 0))]⟩:Env)) (O':=(Zw O n [none,some (oR 84 4 Zp ([]:List Zx)),none])) (n':=(n+3)) ?_ ?_
 ·refine Fit2.trans (E':=(⟨32,[],[(3,nV),(8,(sL Zb a0.Kids)),(9,(vI (a0.Kids.length:Int))),(10,(vI 0))]⟩:Env)) (O':=(Zw O n [none])) (n':=(n+1)) (Fit2.of (Z6 hU rfl rfl ?_) (by omega)) ?_
  ·exact Gl
  refine Fit2.trans (Zay 3 84 4 rfl (by omega)) ?_
  simp only [Q5,Qi,Vt,Kh,List.set_cons_zero,List.set_cons_succ,List.cons_append,List.nil_append,List.length_cons,List.length_nil,Nat.zero_add,Nat.reduceAdd,Nat.reduceLT,Nat.add_assoc]
  refine Fit2.trans (E':=(⟨32,[],[(3,.row (n+1) ([]:List Zx).length),(8,(sL Zb a0.Kids)),(9,(vI (a0.Kids.length:Int))),(10,(vI 0))]⟩:Env)) (O':=(Zw O n [none,some (oR 84 4 Zp ([]:List Zx))])) (n':=(n+2)) (Fit2.of (Z6 hU rfl rfl ?_) (by omega)) ?_
  ·exact Gl
  refine Jg (k:=2) (k':=3) hU [2,1] [0,1,0] rfl rfl rfl rfl ⟨rfl,rfl⟩ ?_
  exact Gl
 obtain ⟨z9,hz9,h⟩:=bC h
 refine Yj (E':=⟨32,[],[(3,.row (n+1) z9.length)]⟩) (O':=(Zw O n [none,some (oR 84 4 Zp z9),none])) (n0:=(n+3)) ?_ ?_
 ·refine Y4 hz9 (fun s0_=>⟨32,[],[(3,.row (n+1) s0_.2.length),(8,(sL Zb a0.Kids)),(9,(vI (a0.Kids.length:Int))),(10,(vI s0_.1))]⟩) (fun s0_=>(Zw O n [none,some (oR 84 4 Zp s0_.2),none])) (fun z9=>JX 0 n (⟨32,[],[(3,.row (n+1) z9.length)]⟩:Env) (Zw O n [none,some (oR 84 4 Zp z9),none]) (n+3)) ?_
  intro s0_ x0_ hs0_
  unfold Q9 at hs0_
  try dsimp only
  refine zQ [3,8,9,10,11] ?_
  refine Ze ?_
  refine Zo (t:=(decide (s0_.1 < (a0.Kids.length:Int)))) rfl (fun c8 => ?_) (fun c8 => ?_)
  ·replace hs0_:=Zn c8 hs0_
   refine Qd [3,8,9,10] [false,true,false] ?_
   refine Ze ?_
   refine Z9 ?_
   refine Ze ?_
   obtain ⟨x2,hx2,ax2,bx2,cx2,hs0_⟩:=bE (f:=Zb) Uc (fun _=>rfl) (by decide) hs0_
   refine Gc [] ax2 bx2 cx2 ?_
   refine zDs [3,5,8,9,10] [false,true,false,true] ?_
   obtain ⟨y4,hy4,hs0_⟩:=bC hs0_
   refine zCd (Uh hy4) [3,5,6,8,9,10] [false,true,false,true] ?_
   obtain ⟨y5,hy5,hs0_⟩:=bC hs0_
   obtain ⟨y6,hy6,hs0_⟩:=bC hs0_
   obtain ⟨l7,pl7,ql7,el7,hs0_⟩:=bA (k:=1) rfl hs0_
   refine Zhb Zq (by kernel_rfl) [.plain,.plain,.plain,.plain,.plain,.plain,.plain,.plain,.plain,.plain,.plain,.plain,.pass,.bar,.plain] (fun i=>i < (n+4)) [0,1,2,3,4,5,6,7,8,9,10,11,12,13,14] [.plain,.plain,.plain,.plain,.plain,.plain,.plain,.plain,.plain,.plain,.plain,.plain,.pass,.bar,.plain] [] (by kernel_rfl) rfl ?_
   refine zX3 pl7 ql7 el7 ?_
   refine zO ?_
   first | refine PCallA.of (fun _ _=>Uh hy5) ?_ | refine PCall.of (Uh hy5) ?_
   refine zX3 pl7 ql7 el7 ?_
   refine zO ?_
   first | refine PCallA.of (fun _ _=>Uh hy6) ?_ | refine PCall.of (Uh hy6) ?_
   refine zX3 pl7 ql7 el7 ?_
   refine zO ?_
   refine Ki ⟨32,[],[(3,.row (n+1) l7.length),(8,(sL Zb a0.Kids)),(9,(vI (a0.Kids.length:Int))),(10,(vI s0_.1))]⟩ (Zw O n [none,some (oR 84 4 Zp l7),none,none,none]) (Z6 hU rfl rfl ?_) ?_
   ·exact Zjn pl7 ql7 el7
   refine zR ?_
   exact Gv hs0_
  replace hs0_:=Zm c8 hs0_
  exact zEx hs0_
 try simp only [Y1,Yc,↓reduceIte,Nat.reduceEqDiff]
 refine zD [3] [false,true,false] ?_
 refine zQ [2] ?_
 refine zW ?_
 obtain rfl:=sI h
 refine Zg (.inr rfl) hU [.row (n+1) z9.length] (by omega) ?_
 simp only [push_cast,seval,↓reduceIte,Zc,Tryz.results101,hN0,hN]
def Zgl (X7:(Za→Option Zf)):Prop:=∀ {a0:Za} {r:Zf} {O:Objs} {n:Nat},X7 a0=some r→GTo Tryz.prog 58 [.agg (Zd a0)] O n (.agg (Zi r)) O n
def Zb4 (Xu:(Za→Option (List Zl))):Prop:=∀ {a0:Za} {r:(List Zl)} {O:Objs} {n:Nat},Xu a0=some r→GTo Tryz.prog 102 [.agg (Zd a0)] O n ((sL Zr r)) O n
def Zc8 (Qc:(Za→Option (List Zt))):Prop:=∀ {a0:Za} {r:(List Zt)} {O:Objs} {n:Nat},Qc a0=some r→GTo Tryz.prog 103 [.agg (Zd a0)] O n ((sL Z4 r)) O n
theorem Zyd {X7:(Za→Option Zf)} {Xu:(Za→Option (List Zl))} {Qc:(Za→Option (List Zt))} (Zdu:Zgl X7) (Zfy:Zb4 Xu) (Zgz:Zc8 Qc) {a0:Za} {r:Zf} {O:Objs} {n:Nat} (h:Zc2 X7 Xu Qc a0=some r):GTo Tryz.prog 58 [.agg (Zd a0)] O n (.agg (Zi r)) O n:=by
 unfold Zc2 at h
 refine K6 Zq Tryz.call58 Tryz.func58 rfl fun hU hN0 hN => ?_
 show W _ _ _ _ ⟨47,[],[(0,.agg (Zd a0))]⟩ (Zw O n []) _
 refine zQ [1,2] ?_
 refine Ze ?_
 refine zQ [1,2,7] ?_
 refine Zo (t:=(a0.Kind == 0)) rfl (fun K9 => ?_) (fun K9 => ?_)
 ·replace h:=Zn K9 h
  refine Ze ?_
  refine zRd [2] [false,true] ?_
  refine zW ?_
  obtain rfl:=sI h
  refine Zg (.inr rfl) hU [.agg [(vI 0),(vI 0),nV,nV,(vI 0),nV,nV,nV,nV,(vI 0),nV]] (by omega) ?_
  simp only [push_cast,seval,↓reduceIte,Zc,Tryz.results58,hN0,hN]
 replace h:=Zm K9 h
 refine Qd [1,2] [true,true] ?_
 refine Ze ?_
 obtain ⟨y2,hy2,h⟩:=bC h
 refine zCd (Uh hy2) [1,2,3] [true,true] ?_
 refine Ze ?_
 refine zRd [1,2,3,4] [true,true,true] ?_
 obtain ⟨z3,hz3,h⟩:=bC h
 refine Yu (E':=⟨47,[],[(2,.ref (n+1) 0),(4,.ref (n+2) 0)]⟩) (O':=(Zw O n [none,some ⟨false,30,11,1,[(vI 0),(vI 0),nV,nV,(vI 0),nV,nV,nV,nV,(vI 0),nV]⟩,some ⟨false,30,11,1,[(vI z3.1),(vI z3.2.1),(sL (eI .u64) z3.2.2.1),(sL Zb z3.2.2.2.1),(vI z3.2.2.2.2.1),(sL (eI .u64) z3.2.2.2.2.2.1),(sL Zb z3.2.2.2.2.2.2.1),(sL Zp z3.2.2.2.2.2.2.2.1),(sL Zr z3.2.2.2.2.2.2.2.2.1),(vI z3.2.2.2.2.2.2.2.2.2.1),(sL Z4 z3.2.2.2.2.2.2.2.2.2.2)]⟩])) (n0:=(n+3)) ?_ ?_
 ·refine zQ [1,2,3,4,16] ?_
  refine Z9 ?_
  refine zQ [1,2,3,4,16,17] ?_
  refine Zo (t:=((IntKind.i64.wrap (IntKind.u64.wrap (Qq .u64 y2 255))) == 1)) rfl (fun Qk => ?_) (fun Qk => ?_)
  ·replace hz3:=Zn Qk hz3
   obtain ⟨y4,hy4,hz3⟩:=bC hz3
   obtain ⟨y5,hy5,hz3⟩:=bC hz3
   refine Zgh Zq (by kernel_rfl) [false,false,false,false,false,true,false,true] [] (by kernel_rfl) ?_
   refine zS ?_
   refine PCall.of (Zbl hy4) ?_
   refine zS ?_
   refine PCall.of (Zbl hy5) ?_
   refine zS ?_
   exact Gv hz3
  replace hz3:=Zm Qk hz3
  refine zQ [1,2,3,4,16,25] ?_
  refine Zo (t:=((IntKind.i64.wrap (IntKind.u64.wrap (Qq .u64 y2 255))) == 2)) rfl (fun Kj => ?_) (fun Kj => ?_)
  ·replace hz3:=Zn Kj hz3
   obtain ⟨y6,hy6,hz3⟩:=bC hz3
   obtain ⟨y7,hy7,hz3⟩:=bC hz3
   obtain ⟨y8,hy8,hz3⟩:=bC hz3
   obtain ⟨y9,hy9,hz3⟩:=bC hz3
   refine Zgh Zq (by kernel_rfl) [false,false,false,false,false,false,false,true,false,true] [] (by kernel_rfl) ?_
   refine zS ?_
   refine PCall.of (Zbl hy6) ?_
   refine zS ?_
   refine PCall.of (Zr4 hy7) ?_
   refine zS ?_
   refine PCall.of (Zbl hy8) ?_
   refine zS ?_
   refine PCall.of (Zfy hy9) ?_
   refine zS ?_
   exact Gv hz3
  replace hz3:=Zm Kj hz3
  refine zQ [1,2,3,4,35] ?_
  refine Zo (t:=((IntKind.i64.wrap (IntKind.u64.wrap (Qq .u64 y2 255))) == 3)) rfl (fun c12 => ?_) (fun c12 => ?_)
  ·replace hz3:=Zn c12 hz3
   refine Ze ?_
   refine zRd [1,2,4] [true,true,true] ?_
   obtain ⟨y10,hy10,hz3⟩:=bC hz3
   obtain ⟨y11,hy11,hz3⟩:=bC hz3
   refine zC (Zbl hy10) ?_
   refine zTs (Zgz hy11) ?_
   exact Gv hz3
  replace hz3:=Zm c12 hz3
  refine zK ?_
  exact Gv hz3
 refine Ze ?_
 refine zRd [2] [false,true,false] ?_
 refine zW ?_
 obtain rfl:=sI h
 refine Zg (.inr rfl) hU [.agg [(vI z3.1),(vI z3.2.1),(sL (eI .u64) z3.2.2.1),(sL Zb z3.2.2.2.1),(vI z3.2.2.2.2.1),(sL (eI .u64) z3.2.2.2.2.2.1),(sL Zb z3.2.2.2.2.2.2.1),(sL Zp z3.2.2.2.2.2.2.2.1),(sL Zr z3.2.2.2.2.2.2.2.2.1),(vI z3.2.2.2.2.2.2.2.2.2.1),(sL Z4 z3.2.2.2.2.2.2.2.2.2.2)]] (by omega) ?_
 simp only [push_cast,seval,↓reduceIte,Zc,Tryz.results58,hN0,hN]
theorem Zr8 {X7:(Za→Option Zf)} {Xu:(Za→Option (List Zl))} {Qc:(Za→Option (List Zt))} (Zdu:Zgl X7) (Zfy:Zb4 Xu) (Zgz:Zc8 Qc) {a0:Za} {r:(List Zl)} {O:Objs} {n:Nat} (h:V2 X7 Xu Qc a0=some r):GTo Tryz.prog 102 [.agg (Zd a0)] O n ((sL Zr r)) O n:=by
 unfold V2 at h
 refine K6 Zq Tryz.call102 Tryz.func102 rfl fun hU hN0 hN => ?_
 show W _ _ _ _ ⟨26,[],[(0,.agg (Zd a0))]⟩ (Zw O n []) _
 refine zQ [1] ?_
 refine zQ [1,3] ?_
 refine Ze ?_
 refine zQd [3,7,8,9] [3,7,8,9] [false] ?_
 refine G8 (E':=(⟨26,[],[(3,.row (n+1) ([]:List Zl).length),(7,(sL Zb a0.Kids)),(8,(vI (a0.Kids.length:Int))),(9,(vI 0))]⟩:Env)) (O':=(Zw O n [none,some (oR 86 12 Zr ([]:List Zl)),none])) (n':=(n+3)) ?_ ?_
 ·refine Fit2.trans (E':=(⟨26,[],[(3,nV),(7,(sL Zb a0.Kids)),(8,(vI (a0.Kids.length:Int))),(9,(vI 0))]⟩:Env)) (O':=(Zw O n [none])) (n':=(n+1)) (Fit2.of (Z6 hU rfl rfl ?_) (by omega)) ?_
  ·exact Gl
  refine Fit2.trans (Zay 3 86 12 rfl (by omega)) ?_
  simp only [Q5,Qi,Vt,Kh,List.set_cons_zero,List.set_cons_succ,List.cons_append,List.nil_append,List.length_cons,List.length_nil,Nat.zero_add,Nat.reduceAdd,Nat.reduceLT,Nat.add_assoc]
  refine Fit2.trans (E':=(⟨26,[],[(3,.row (n+1) ([]:List Zl).length),(7,(sL Zb a0.Kids)),(8,(vI (a0.Kids.length:Int))),(9,(vI 0))]⟩:Env)) (O':=(Zw O n [none,some (oR 86 12 Zr ([]:List Zl))])) (n':=(n+2)) (Fit2.of (Z6 hU rfl rfl ?_) (by omega)) ?_
  ·exact Gl
  refine Jg (k:=2) (k':=3) hU [2,1] [0,1,0] rfl rfl rfl rfl ⟨rfl,rfl⟩ ?_
  exact Gl
 obtain ⟨z8,hz8,h⟩:=bC h
 refine Yj (E':=⟨26,[],[(3,.row (n+1) z8.length)]⟩) (O':=(Zw O n [none,some (oR 86 12 Zr z8),none])) (n0:=(n+3)) ?_ ?_
 ·refine Y4 hz8 (fun s0_=>⟨26,[],[(3,.row (n+1) s0_.2.length),(7,(sL Zb a0.Kids)),(8,(vI (a0.Kids.length:Int))),(9,(vI s0_.1))]⟩) (fun s0_=>(Zw O n [none,some (oR 86 12 Zr s0_.2),none])) (fun z8=>JX 0 n (⟨26,[],[(3,.row (n+1) z8.length)]⟩:Env) (Zw O n [none,some (oR 86 12 Zr z8),none]) (n+3)) ?_
  intro s0_ x0_ hs0_
  unfold Gq at hs0_
  try dsimp only
  refine zQ [3,7,8,9,10] ?_
  refine Ze ?_
  refine Zo (t:=(decide (s0_.1 < (a0.Kids.length:Int)))) rfl (fun c7 => ?_) (fun c7 => ?_)
  ·replace hs0_:=Zn c7 hs0_
   refine Qd [3,7,8,9] [false,true,false] ?_
   refine Ze ?_
   refine Z9 ?_
   refine Ze ?_
   obtain ⟨x2,hx2,ax2,bx2,cx2,hs0_⟩:=bE (f:=Zb) Uc (fun _=>rfl) (by decide) hs0_
   refine Gc [] ax2 bx2 cx2 ?_
   refine zD [3,5,7,8,9] [false,true,false,true] ?_
   obtain ⟨y3,hy3,hs0_⟩:=bC hs0_
   obtain ⟨y4,hy4,hs0_⟩:=bC hs0_
   obtain ⟨y5,hy5,hs0_⟩:=bC hs0_
   obtain ⟨l6,pl6,ql6,el6,hs0_⟩:=bA (k:=1) rfl hs0_
   refine Zhb Zq (by kernel_rfl) [.plain,.plain,.plain,.plain,.plain,.plain,.plain,.plain,.plain,.pass,.bar,.plain] (fun i=>i < (n+4)) [0,1,2,3,4,5,6,7,8,9,10,11] [.plain,.plain,.plain,.plain,.plain,.plain,.plain,.plain,.plain,.pass,.bar,.plain] [] (by kernel_rfl) rfl ?_
   refine zX3 pl6 ql6 el6 ?_
   refine zO ?_
   first | refine PCallA.of (fun _ _=>Uh hy3) ?_ | refine PCall.of (Uh hy3) ?_
   refine zX3 pl6 ql6 el6 ?_
   refine zO ?_
   first | refine PCallA.of (fun _ _=>Zbl hy4) ?_ | refine PCall.of (Zbl hy4) ?_
   refine zX3 pl6 ql6 el6 ?_
   refine zO ?_
   first | refine PCallA.of (fun _ _=>Zdu hy5) ?_ | refine PCall.of (Zdu hy5) ?_
   refine zX3 pl6 ql6 el6 ?_
   refine zO ?_
   refine Ki ⟨26,[],[(3,.row (n+1) l6.length),(7,(sL Zb a0.Kids)),(8,(vI (a0.Kids.length:Int))),(9,(vI s0_.1))]⟩ (Zw O n [none,some (oR 86 12 Zr l6),none,none,none]) (Z6 hU rfl rfl ?_) ?_
   ·exact Zjn pl6 ql6 el6
   refine zR ?_
   exact Gv hs0_
  replace hs0_:=Zm c7 hs0_
  exact zEx hs0_
 try simp only [Y1,Yc,↓reduceIte,Nat.reduceEqDiff]
 refine zD [3] [false,true,false] ?_
 refine zQ [2] ?_
 refine zW ?_
 obtain rfl:=sI h
 refine Zg (.inr rfl) hU [.row (n+1) z8.length] (by omega) ?_
 simp only [push_cast,seval,↓reduceIte,Zc,Tryz.results102,hN0,hN]
theorem Ztl {X7:(Za→Option Zf)} {Xu:(Za→Option (List Zl))} {Qc:(Za→Option (List Zt))} (Zdu:Zgl X7) (Zfy:Zb4 Xu) (Zgz:Zc8 Qc) {a0:Za} {r:(List Zt)} {O:Objs} {n:Nat} (h:Zdi X7 Xu Qc a0=some r):GTo Tryz.prog 103 [.agg (Zd a0)] O n ((sL Z4 r)) O n:=by
 unfold Zdi at h
 refine K6 Zq Tryz.call103 Tryz.func103 rfl fun hU hN0 hN => ?_
 show W _ _ _ _ ⟨48,[],[(0,.agg (Zd a0))]⟩ (Zw O n []) _
 refine zQ [1] ?_
 refine zQ [1,3] ?_
 refine Ze ?_
 refine zQd [3,9,10,11] [3,9,10,11] [false] ?_
 refine G8 (E':=(⟨48,[],[(3,.row (n+1) ([]:List Zt).length),(9,(sL Zb a0.Kids)),(10,(vI (a0.Kids.length:Int))),(11,(vI 0))]⟩:Env)) (O':=(Zw O n [none,some (oR 89 14 Z4 ([]:List Zt)),none])) (n':=(n+3)) ?_ ?_
 ·refine Fit2.trans (E':=(⟨48,[],[(3,nV),(9,(sL Zb a0.Kids)),(10,(vI (a0.Kids.length:Int))),(11,(vI 0))]⟩:Env)) (O':=(Zw O n [none])) (n':=(n+1)) (Fit2.of (Z6 hU rfl rfl ?_) (by omega)) ?_
  ·exact Gl
  refine Fit2.trans (Zay 3 89 14 rfl (by omega)) ?_
  simp only [Q5,Qi,Vt,Kh,List.set_cons_zero,List.set_cons_succ,List.cons_append,List.nil_append,List.length_cons,List.length_nil,Nat.zero_add,Nat.reduceAdd,Nat.reduceLT,Nat.add_assoc]
  refine Fit2.trans (E':=(⟨48,[],[(3,.row (n+1) ([]:List Zt).length),(9,(sL Zb a0.Kids)),(10,(vI (a0.Kids.length:Int))),(11,(vI 0))]⟩:Env)) (O':=(Zw O n [none,some (oR 89 14 Z4 ([]:List Zt))])) (n':=(n+2)) (Fit2.of (Z6 hU rfl rfl ?_) (by omega)) ?_
  ·exact Gl
  refine Jg (k:=2) (k':=3) hU [2,1] [0,1,0] rfl rfl rfl rfl ⟨rfl,rfl⟩ ?_
  exact Gl
 obtain ⟨z16,hz16,h⟩:=bC h
 refine Yj (E':=⟨48,[],[(3,.row (n+1) z16.length)]⟩) (O':=(Zw O n [none,some (oR 89 14 Z4 z16),none])) (n0:=(n+3)) ?_ ?_
 ·refine Y4 hz16 (fun s0_=>⟨48,[],[(3,.row (n+1) s0_.2.length),(9,(sL Zb a0.Kids)),(10,(vI (a0.Kids.length:Int))),(11,(vI s0_.1))]⟩) (fun s0_=>(Zw O n [none,some (oR 89 14 Z4 s0_.2),none])) (fun z16=>JX 0 n (⟨48,[],[(3,.row (n+1) z16.length)]⟩:Env) (Zw O n [none,some (oR 89 14 Z4 z16),none]) (n+3)) ?_
  intro s0_ x0_ hs0_
  unfold Zaf at hs0_
  try dsimp only
  refine zQ [3,9,10,11,12] ?_
  refine Ze ?_
  refine Zo (t:=(decide (s0_.1 < (a0.Kids.length:Int)))) rfl (fun K9 => ?_) (fun K9 => ?_)
  ·replace hs0_:=Zn K9 hs0_
   refine Qd [3,9,10,11] [false,true,false] ?_
   refine Ze ?_
   refine Z9 ?_
   refine Ze ?_
   obtain ⟨x2,hx2,ax2,bx2,cx2,hs0_⟩:=bE (f:=Zb) Uc (fun _=>rfl) (by decide) hs0_
   refine Gc [] ax2 bx2 cx2 ?_
   refine zDs [3,5,9,10,11] [false,true,false,true] ?_
   obtain ⟨y4,hy4,hs0_⟩:=bC hs0_
   refine zCd (Uh hy4) [3,5,6,9,10,11] [false,true,false,true] ?_
   refine Ze ?_
   refine zRd [3,5,6,7,9,10,11] [false,true,false,true,true] ?_
   obtain ⟨z5,hz5,hs0_⟩:=bC hs0_
   refine Yu (E':=⟨48,[],[(3,.row (n+1) s0_.2.length),(7,.ref (n+4) 0),(9,(sL Zb a0.Kids)),(10,(vI (a0.Kids.length:Int))),(11,(vI s0_.1))]⟩) (O':=(Zw O n [none,some (oR 89 14 Z4 s0_.2),none,none,some ⟨false,89,14,1,[(vI z5.1),(vI z5.2.1),(sL Zb z5.2.2.1),(vI z5.2.2.2.1),(vI z5.2.2.2.2.1),(sL (eI .u64) z5.2.2.2.2.2.1),(sL Zb z5.2.2.2.2.2.2.1),(vI z5.2.2.2.2.2.2.2.1),(sL (eI .u64) z5.2.2.2.2.2.2.2.2.1),(sL Zb z5.2.2.2.2.2.2.2.2.2.1),(sL Zp z5.2.2.2.2.2.2.2.2.2.2.1),(sL Zr z5.2.2.2.2.2.2.2.2.2.2.2.1),(vI z5.2.2.2.2.2.2.2.2.2.2.2.2.1),(sL Z4 z5.2.2.2.2.2.2.2.2.2.2.2.2.2)]⟩])) (n0:=(n+5)) ?_ ?_
   ·refine zQ [3,5,6,7,9,10,11,22] ?_
    refine Z9 ?_
    refine zQ [3,5,6,7,9,10,11,22,23] ?_
    refine Zo (t:=((IntKind.i64.wrap (IntKind.u64.wrap (Qq .u64 y4 255))) == 0)) rfl (fun Kj => ?_) (fun Kj => ?_)
    ·replace hz5:=Zn Kj hz5
     refine zR ?_
     exact Gv hz5
    replace hz5:=Zm Kj hz5
    obtain ⟨z6,hz6,hz5⟩:=bC hz5
    refine Yu (E':=⟨48,[],[(3,.row (n+1) s0_.2.length),(5,.ref (n+3) 0),(7,.ref (n+4) 0),(9,(sL Zb a0.Kids)),(10,(vI (a0.Kids.length:Int))),(11,(vI s0_.1)),(22,(vI z6.1)),(29,(vB z6.2.1))]⟩) (O':=(Zw O n [none,some (oR 89 14 Z4 s0_.2),none,some ⟨false,25,3,1,(Zd x2)⟩,some ⟨false,89,14,1,[(vI z6.2.2),(vI 0),nV,(vI 0),(vI 0),nV,nV,(vI 0),nV,nV,nV,nV,(vI 0),nV]⟩])) (n0:=(n+5)) ?_ ?_
    ·refine zQ [3,5,7,9,10,11,22,29] ?_
     refine Zo (t:=((IntKind.i64.wrap (IntKind.u64.wrap (Qq .u64 y4 255))) == 1)) rfl (fun c7 => ?_) (fun c7 => ?_)
     ·replace hz6:=Zn c7 hz6
      refine zK ?_
      exact Gv hz6
     replace hz6:=Zm c7 hz6
     refine zR ?_
     exact Gv hz6
    refine Zo (t:=z6.2.1) rfl (fun c12 => ?_) (fun c12 => ?_)
    ·replace hz5:=Zn c12 hz5
     obtain ⟨y8,hy8,hz5⟩:=bC hz5
     refine zC (Zbl hy8) ?_
     exact Gv hz5
    replace hz5:=Zm c12 hz5
    refine zQ [3,5,7,9,10,11,36] ?_
    refine Zo (t:=(z6.1 == 3)) rfl (fun c11 => ?_) (fun c11 => ?_)
    ·replace hz5:=Zn c11 hz5
     obtain ⟨y9,hy9,hz5⟩:=bC hz5
     obtain ⟨y10,hy10,hz5⟩:=bC hz5
     refine zC (Zbl hy9) ?_
     refine zTs (Zdu hy10) ?_
     exact Gv hz5
    replace hz5:=Zm c11 hz5
    refine zK ?_
    exact Gv hz5
   obtain ⟨l14,pl14,ql14,el14,hs0_⟩:=bA (k:=1) rfl hs0_
   refine Gu [] pl14 ql14 el14 ?_
   refine Ki ⟨48,[],[(3,.row (n+1) l14.length),(9,(sL Zb a0.Kids)),(10,(vI (a0.Kids.length:Int))),(11,(vI s0_.1))]⟩ (Zw O n [none,some (oR 89 14 Z4 l14),none,none,none,none]) (Z6 hU rfl rfl ?_) ?_
   ·exact Zjn pl14 ql14 el14
   refine zR ?_
   exact Gv hs0_
  replace hs0_:=Zm K9 hs0_
  exact zEx hs0_
 try simp only [Y1,Yc,↓reduceIte,Nat.reduceEqDiff]
 refine zD [3] [false,true,false] ?_
 refine zQ [2] ?_
 refine zW ?_
 obtain rfl:=sI h
 refine Zg (.inr rfl) hU [.row (n+1) z16.length] (by omega) ?_
 simp only [push_cast,seval,↓reduceIte,Zc,Tryz.results103,hN0,hN]
theorem Zu2:∀ k,(Zgl ((Ye k).1))∧(Zb4 ((Ye k).2.1))∧(Zc8 ((Ye k).2.2)):=fun k=>by
 induction k with
 | zero=>exact ⟨@fun a0 r O n h=>(nomatch (show (none:Option _)=some _ from h)),@fun a0 r O n h=>(nomatch (show (none:Option _)=some _ from h)),@fun a0 r O n h=>(nomatch (show (none:Option _)=some _ from h))⟩
 | succ k ih=>exact ⟨@fun a0 r O n h=>Zyd (ih.1) (ih.2.1) (ih.2.2)  h,@fun a0 r O n h=>Zr8 (ih.1) (ih.2.1) (ih.2.2)  h,@fun a0 r O n h=>Ztl (ih.1) (ih.2.1) (ih.2.2)  h⟩
theorem Z08 {a0:Za} {r:Zf} {O:Objs} {n:Nat} (h:Zj7 a0=some r):GTo Tryz.prog 58 [.agg (Zd a0)] O n (.agg (Zi r)) O n:=by
 obtain ⟨k,hk⟩:=V0 h
 exact (Zu2 k).1  hk
def Zjr (Kt:(Za→Za→Option Bool)):Prop:=∀ {a0:Za} {a1:Za} {r:Bool} {O:Objs} {n:Nat},Kt a0 a1=some r→GTo Tryz.prog 60 [.agg (Zd a0),.agg (Zd a1)] O n ((vB r)) O n
def Xg (Zy:((List Za)→(List Za)→Option Bool)):Prop:=∀ {a0:(List Za)} {a1:(List Za)} {r:Bool} {O:Objs} {n:Nat},Zy a0 a1=some r→GTo Tryz.prog 107 [(sL Zb a0),(sL Zb a1),.fn 60 0 []] O n ((vB r)) O n
theorem Zye {Kt:(Za→Za→Option Bool)} {Zy:((List Za)→(List Za)→Option Bool)} (Zn7:Zjr Kt) (Xh:Xg Zy) {a0:Za} {a1:Za} {r:Bool} {O:Objs} {n:Nat} (h:Zhh Kt Zy a0 a1=some r):GTo Tryz.prog 60 [.agg (Zd a0),.agg (Zd a1)] O n ((vB r)) O n:=by
 unfold Zhh at h
 refine K6 Zq Tryz.call60 Tryz.func60 rfl fun hU hN0 hN => ?_
 show W _ _ _ _ ⟨44,[],[(0,.agg (Zd a0)),(1,.agg (Zd a1))]⟩ (Zw O n []) _
 refine zQ [2,3] ?_
 refine Ze ?_
 refine zQ [2,3,9] ?_
 refine Zo (t:=(a0.Kind != a1.Kind)) rfl (fun c31 => ?_) (fun c31 => ?_)
 ·replace h:=Zn c31 h
  refine zQ [4] ?_
  refine zW ?_
  obtain rfl:=sI h
  refine Zg (.inr rfl) hU [(vB false)] (by omega) ?_
  simp only [push_cast,seval,↓reduceIte,Zc,Tryz.results60,hN0,hN]
 replace h:=Zm c31 h
 refine Qd [2,3] [true,true] ?_
 refine Ze ?_
 refine zQ [2,3,11] ?_
 refine Z9 ?_
 refine zQ [2,3,11,12] ?_
 refine Zo (t:=(a0.Kind == 0)) rfl (fun c30 => ?_) (fun c30 => ?_)
 ·replace h:=Zn c30 h
  refine zQ [4] ?_
  refine zW ?_
  obtain rfl:=sI h
  refine Zg (.inr rfl) hU [(vB true)] (by omega) ?_
  simp only [push_cast,seval,↓reduceIte,Zc,Tryz.results60,hN0,hN]
 replace h:=Zm c30 h
 refine zQ [2,3,14] ?_
 refine Zo (t:=(a0.Kind == 1)) rfl (fun c29 => ?_) (fun c29 => ?_)
 ·replace h:=Zn c29 h
  obtain ⟨z7,hz7,h⟩:=bC h
  refine Yu (E':=⟨44,[],[(4,(vB z7))]⟩) (O':=(Zw O n [none,none])) (n0:=(n+2)) ?_ ?_
  ·obtain ⟨y14,hy14,hz7⟩:=bC hz7
   obtain ⟨y15,hy15,hz7⟩:=bC hz7
   obtain ⟨y16,hy16,hz7⟩:=bC hz7
   rcases Bool.eq_false_or_eq_true y16 with c20 | c20
   ·replace hz7:=Zn c20 hz7
    obtain ⟨y17,hy17,hz7⟩:=bC hz7
    obtain ⟨y18,hy18,hz7⟩:=bC hz7
    obtain ⟨y19,hy19,hz7⟩:=bC hz7
    refine X9 Zq (by kernel_rfl) [some true,some true,some true,some true,some true,some true,some true] (by kernel_rfl) ?_
    refine zX1 c20 ?_
    refine PCall.of (Zbm hy14) ?_
    refine zX1 c20 ?_
    refine PCall.of (Zbm hy15) ?_
    refine zX1 c20 ?_
    refine PCall.of (Ja hy16) ?_
    refine zX1 c20 ?_
    refine PCall.of (Zis hy17) ?_
    refine zX1 c20 ?_
    refine PCall.of (Zis hy18) ?_
    refine zX1 c20 ?_
    refine PCall.of (Xh hy19) ?_
    refine zX1 c20 ?_
    exact Qf hz7 c20
   replace hz7:=Zm c20 hz7
   refine X9 Zq (by kernel_rfl) [some false,some false,some false,some false,some false,some false,some false] (by kernel_rfl) ?_
   refine zX1 c20 ?_
   refine PCall.of (Zbm hy14) ?_
   refine zX1 c20 ?_
   refine PCall.of (Zbm hy15) ?_
   refine zX1 c20 ?_
   refine PCall.of (Ja hy16) ?_
   refine zX1 c20 ?_
   exact Qf hz7 c20
  refine zW ?_
  obtain rfl:=sI h
  refine Zg (.inr rfl) hU [(vB z7)] (by omega) ?_
  simp only [push_cast,seval,↓reduceIte,Zc,Tryz.results60,hN0,hN]
 replace h:=Zm c29 h
 refine Qd [2,3] [true,true] ?_
 obtain ⟨z23,hz23,h⟩:=bC h
 refine Yu (E':=⟨44,[],[(4,(vB z23))]⟩) (O':=(Zw O n [none,none])) (n0:=(n+2)) ?_ ?_
 ·obtain ⟨y26,hy26,hz23⟩:=bC hz23
  rcases Bool.eq_false_or_eq_true y26 with c28 | c28
  ·replace hz23:=Zn c28 hz23
   obtain ⟨y27,hy27,hz23⟩:=bC hz23
   refine Q2 [some true,some true,some true,some true,some true] c28 ?_
   refine (Ja hy26).then ?_
   refine zX1 c28 ?_
   refine (Xh hy27).then ?_
   refine zX1 c28 ?_
   exact Qf hz23 c28
  replace hz23:=Zm c28 hz23
  refine Q2 [some false,some false,some false,some false,some false] c28 ?_
  refine (Ja hy26).then ?_
  refine zX1 c28 ?_
  exact Qf hz23 c28
 refine zW ?_
 obtain rfl:=sI h
 refine Zg (.inr rfl) hU [(vB z23)] (by omega) ?_
 simp only [push_cast,seval,↓reduceIte,Zc,Tryz.results60,hN0,hN]
theorem Vs {Kt:(Za→Za→Option Bool)} {Zy:((List Za)→(List Za)→Option Bool)} (Zn7:Zjr Kt) (Xh:Xg Zy) {a0:(List Za)} {a1:(List Za)} {r:Bool} {O:Objs} {n:Nat} (h:Yr Kt Zy a0 a1=some r):GTo Tryz.prog 107 [(sL Zb a0),(sL Zb a1),.fn 60 0 []] O n ((vB r)) O n:=by
 unfold Yr at h
 refine K6 Zq Tryz.call107 Tryz.func107 rfl fun hU hN0 hN => ?_
 show W _ _ _ _ ⟨32,[],[(0,(sL Zb a0)),(1,(sL Zb a1)),(2,.fn 60 0 [])]⟩ (Zw O n []) _
 refine zQ [0,1,2] ?_
 refine Ze ?_
 refine zQ [0,1,2,14] ?_
 refine Zo (t:=((a0.length:Int) != (a1.length:Int))) rfl (fun c10 => ?_) (fun c10 => ?_)
 ·replace h:=Zn c10 h
  refine zQ [6] ?_
  refine zW ?_
  obtain rfl:=sI h
  refine Zg (.inr rfl) hU [(vB false)] (by omega) ?_
  simp only [push_cast,seval,↓reduceIte,Zc,Tryz.results107,hN0,hN]
 replace h:=Zm c10 h
 refine Qd [0,1,2] [] ?_
 refine Ze ?_
 refine zQd [1,2,15,16,17] [1,2,15,16,17] [] ?_
 obtain ⟨z9,hz9,h⟩:=bC h
 refine Zaw (J:=(X8 (fun z9=>JR n (⟨32,[],[(6,(vB false))]⟩:Env) (Zw O n []) n) (fun z9=>JX 0 n (⟨32,[],[]⟩:Env) (Zw O n []) n))) (z:=z9) ?_ fun hw => ?_
 ·refine Y4 hz9 (fun s0_=>⟨32,[],[(1,(sL Zb a1)),(2,.fn 60 0 []),(15,(sL Zb a0)),(16,(vI (a0.length:Int))),(17,(vI s0_))]⟩) (fun s0_=>(Zw O n [])) (X8 (fun z9=>JR n (⟨32,[],[(6,(vB false))]⟩:Env) (Zw O n []) n) (fun z9=>JX 0 n (⟨32,[],[]⟩:Env) (Zw O n []) n)) ?_
  intro s0_ x0_ hs0_
  unfold Yl at hs0_
  try dsimp only
  refine zQ [1,2,15,16,17,18] ?_
  refine Ze ?_
  refine Zo (t:=(decide (s0_ < (a0.length:Int)))) rfl (fun c8 => ?_) (fun c8 => ?_)
  ·replace hs0_:=Zn c8 hs0_
   refine Qd [1,2,15,16,17] [] ?_
   refine Ze ?_
   refine Z9 ?_
   refine Ze ?_
   obtain ⟨x2,hx2,ax2,bx2,cx2,hs0_⟩:=bE (f:=Zb) Uc (fun _=>rfl) (by decide) hs0_
   refine Gc [] ax2 bx2 cx2 ?_
   refine zDs [1,2,7,8,15,16,17] [true] ?_
   obtain ⟨x4,hx4,ax4,bx4,cx4,hs0_⟩:=bE (f:=Zb) Uc (fun _=>rfl) (by decide) hs0_
   refine Gc [] ax4 bx4 cx4 ?_
   refine zDs [1,2,8,9,15,16,17] [true,true] ?_
   obtain ⟨y6,hy6,hs0_⟩:=bC hs0_
   refine zCd (Zn7 hy6) [1,2,15,16,17,30] [false,false] ?_
   refine Zo (t:=(!y6)) rfl (fun c7 => ?_) (fun c7 => ?_)
   ·replace hs0_:=Zn c7 hs0_
    refine zQ [6] ?_
    refine zW ?_
    exact zEy hs0_
   replace hs0_:=Zm c7 hs0_
   refine Qd [1,2,15,16,17] [false,false] ?_
   refine zR ?_
   exact Gv hs0_
  replace hs0_:=Zm c8 hs0_
  exact zEx hs0_
 rcases z9 with z9 | z9
 ·dsimp only [X8] at hw h
  refine Jv hw ?_
  try simp only [Y1,Yc,↓reduceIte,Nat.reduceEqDiff]
  obtain rfl:=sI h
  refine Zg (.inr rfl) hU [(vB false)] (by omega) ?_
  simp only [push_cast,seval,↓reduceIte,Zc,Tryz.results107,hN0,hN]
 dsimp only [X8] at hw h
 refine Yj hw ?_
 try simp only [Y1,Yc,↓reduceIte,Nat.reduceEqDiff]
 refine zD [] [] ?_
 refine zQ [6] ?_
 refine zW ?_
 obtain rfl:=sI h
 refine Zg (.inr rfl) hU [(vB true)] (by omega) ?_
 simp only [push_cast,seval,↓reduceIte,Zc,Tryz.results107,hN0,hN]
theorem Zu3:∀ k,(Zjr ((Qs k).1))∧(Xg ((Qs k).2)):=fun k=>by
 induction k with
 | zero=>exact ⟨@fun a0 a1 r O n h=>(nomatch (show (none:Option _)=some _ from h)),@fun a0 a1 r O n h=>(nomatch (show (none:Option _)=some _ from h))⟩
 | succ k ih=>exact ⟨@fun a0 a1 r O n h=>Zye (ih.1) (ih.2)  h,@fun a0 a1 r O n h=>Vs (ih.1) (ih.2)  h⟩
theorem Z09 {a0:Za} {a1:Za} {r:Bool} {O:Objs} {n:Nat} (h:Znj a0 a1=some r):GTo Tryz.prog 60 [.agg (Zd a0),.agg (Zd a1)] O n ((vB r)) O n:=by
 obtain ⟨k,hk⟩:=V0 h
 exact (Zu3 k).1  hk
theorem Zq6 {a0:Za} {r:(Zf×Bool)} {O:Objs} {n:Nat} (h:Zbh a0=some r):GTo Tryz.prog 19 [.agg (Zd a0)] O n (.tup [.agg (Zi r.1),(vB r.2)]) O n:=by
 unfold Zbh at h
 refine K6 Zq Tryz.call19 Tryz.func19 rfl fun hU hN0 hN => ?_
 show W _ _ _ _ ⟨19,[],[(0,.agg (Zd a0))]⟩ (Zw O n []) _
 refine zQ [1,2] ?_
 refine Ze ?_
 obtain ⟨y2,hy2,h⟩:=bC h
 refine zCd (Z08 hy2) [1,2,4] [true,true,true] ?_
 refine Ze ?_
 obtain ⟨z6,hz6,h⟩:=bC h
 refine Yu (E':=⟨19,[],[(2,.ref (n+1) 0),(4,.ref (n+2) 0),(16,(vB z6))]⟩) (O':=(Zw O n [none,some ⟨false,30,11,1,[(vI 0),(vI 0),nV,nV,(vI 0),nV,nV,nV,nV,(vI 0),nV]⟩,some ⟨false,30,11,1,(Zi y2)⟩])) (n0:=(n+3)) ?_ ?_
 ·obtain ⟨y10,hy10,hz6⟩:=bC hz6
  rcases Bool.eq_false_or_eq_true y10 with Kj | Kj
  ·replace hz6:=Zn Kj hz6
   obtain ⟨y11,hy11,hz6⟩:=bC hz6
   obtain ⟨y12,hy12,hz6⟩:=bC hz6
   refine X9 Zq (by kernel_rfl) [some true,some true,some true,some true,some true] (by kernel_rfl) ?_
   refine zX1 Kj ?_
   refine PCall.of (Zl7 hy10) ?_
   refine zX1 Kj ?_
   refine PCall.of (Zq7 hy11) ?_
   refine zX1 Kj ?_
   refine PCall.of (Z09 hy12) ?_
   refine zX1 Kj ?_
   exact Qf hz6 Kj
  replace hz6:=Zm Kj hz6
  refine X9 Zq (by kernel_rfl) [some false,some false,some false,some false,some false] (by kernel_rfl) ?_
  refine zX1 Kj ?_
  refine PCall.of (Zl7 hy10) ?_
  refine zX1 Kj ?_
  exact Qf hz6 Kj
 refine Zo (t:=z6) rfl (fun Qk => ?_) (fun Qk => ?_)
 ·replace h:=Zn Qk h
  refine Ze ?_
  refine zRd [2,3] [false,true,false] ?_
  refine zW ?_
  obtain rfl:=sI h
  refine Zg (.inr rfl) hU [.agg [(vI 0),(vI 0),nV,nV,(vI 0),nV,nV,nV,nV,(vI 0),nV],(vB false)] (by omega) ?_
  simp only [push_cast,seval,↓reduceIte,Zc,Tryz.results19,hN0,hN]
 replace h:=Zm Qk h
 refine Qd [2,4] [false,true,true] ?_
 refine Ze ?_
 refine zRd [2,3] [false,true,false] ?_
 refine zW ?_
 obtain rfl:=sI h
 refine Zg (.inr rfl) hU [.agg (Zi y2),(vB true)] (by omega) ?_
 simp only [push_cast,seval,↓reduceIte,Zc,Tryz.results19,hN0,hN]
theorem Zwj {a0:(List Int)} {r:(Zf×Int)} {O:Objs} {n:Nat} (h:Zev a0=some r):GTo Tryz.prog 31 [(sL (eI .u64) a0)] O n (.tup [.agg (Zi r.1),(vI r.2)]) O n:=by
 unfold Zev at h
 refine K6 Zq Tryz.call31 Tryz.func31 rfl fun hU hN0 hN => ?_
 show W _ _ _ _ ⟨27,[],[(0,(sL (eI .u64) a0))]⟩ (Zw O n []) _
 refine zQ [0,2] ?_
 refine Ze ?_
 obtain ⟨y3,hy3,h⟩:=bC h
 obtain ⟨y4,hy4,h⟩:=bC h
 refine zC (Zn6 hy3) ?_
 refine zTs (Zwh hy4) ?_
 refine zDs [2,4,5] [true,true] ?_
 refine zQ [2,4,5,15] ?_
 refine Zo (t:=(y4.2 != 0)) rfl (fun c8 => ?_) (fun c8 => ?_)
 ·replace h:=Zn c8 h
  refine Ze ?_
  refine zRd [2,3] [true,false] ?_
  refine zW ?_
  obtain rfl:=sI h
  refine Zg (.inr rfl) hU [.agg [(vI 0),(vI 0),nV,nV,(vI 0),nV,nV,nV,nV,(vI 0),nV],(vI y4.2)] (by omega) ?_
  simp only [push_cast,seval,↓reduceIte,Zc,Tryz.results31,hN0,hN]
 replace h:=Zm c8 h
 refine Qd [2,4] [true,true] ?_
 refine Ze ?_
 obtain ⟨y6,hy6,h⟩:=bC h
 refine zCd (Zq6 hy6) [2,6,7] [true,false,true] ?_
 refine Ze ?_
 refine zQ [2,6,24] ?_
 refine Zo (t:=(!y6.2)) rfl (fun c7 => ?_) (fun c7 => ?_)
 ·replace h:=Zn c7 h
  refine Ze ?_
  refine zRd [2,3] [true,false,false] ?_
  refine zW ?_
  obtain rfl:=sI h
  refine Zg (.inr rfl) hU [.agg [(vI 0),(vI 0),nV,nV,(vI 0),nV,nV,nV,nV,(vI 0),nV],(vI 12)] (by omega) ?_
  simp only [push_cast,seval,↓reduceIte,Zc,Tryz.results31,hN0,hN]
 replace h:=Zm c7 h
 refine Qd [2,6] [true,false,true] ?_
 refine Ze ?_
 refine zRd [2,3] [true,false,false] ?_
 refine zW ?_
 obtain rfl:=sI h
 refine Zg (.inr rfl) hU [.agg (Zi y6.1),(vI 0)] (by omega) ?_
 simp only [push_cast,seval,↓reduceIte,Zc,Tryz.results31,hN0,hN]
end Go.Proofs.YtmlcnhambfkjaaaGreat
