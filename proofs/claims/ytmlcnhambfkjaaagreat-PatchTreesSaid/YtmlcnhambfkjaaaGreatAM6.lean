/- Part AM6 of this seat's mirrors: functions of the seat's program, and the plain functions that they are; each theorem bears its own conditions. -/
import Derived.Test.YtmlcnhambfkjaaaGreatAE
import Derived.Test.YtmlcnhambfkjaaaGreatAM4
namespace Go.Proofs.YtmlcnhambfkjaaaGreat
open Go.RowKit
set_option linter.unusedVariables false
set_option linter.unusedSimpArgs false
set_option maxRecDepth 100000
set_option maxHeartbeats 4000000
attribute [local push_cast] vI vB nV sL oR Zg Kz Xm Yw Ze Uz Kf Qp Zu Zxi Zxh Zyk Zyj Yx Ya Zr5 Zmf Zme onW Q8 Zih Zg4 Zxn Zv3 Zpw Zp1 Zpv Zp0 Zta Zs6 Zpz Zs9 Zs8 Zs7 Zpx Zs4 Znh evS wok J7 Op.operands Call.operands gop onK onP atK List.all_cons List.all_nil Bool.and_true Bool.true_and Bool.and_self Value.oneCell' List.take_zero List.take_succ_cons List.take_nil List.drop_zero List.drop_succ_cons List.drop_nil List.append_nil Nat.add_zero Nat.zero_add Zcg Xa ev K4 Zxf Zw7 Zw6 Zxc Zxa Zxb Zw8 Zw9 Zw5 Z0j Z1o Z59 Zoe Zhh Zn2 Zh2 Zo5 Zld Zke Zkj Zl9 Zl5 Zkh Zl8 Zl7 Zl6 Zkg Zl3 Zkf Zki Zi2 Zl4 Zrl Zmg Zeh Zn3 Zei Zqd Zod Z2o bLo bHi bMx Zhi Zqc Z7m Zoc Zq7 Zka Zcv Z1c Z7q Zn0 Zkn Z7t Zhg Z9a Zsb Zsf Zsa Zse Zxu Zxq Zxo Zo8 Zsc Zxt Zxs Zxr Zsd Zxp Zqg Zxj Zsz Zm5 Zm4 pop TK.isAgg Zyc Zyg Zyb Zyf Zsu Z3i Z3e Zye Z3h Z3g Z3f Zyd Z3d G.under G.unders List.getD_cons_zero List.getD_cons_succ List.set_cons_zero List.set_cons_succ List.map_cons List.map_nil List.toList_toArray Array.toList_append Option.toArray_none Option.toArray_some Array.toList_map Option.map_some Option.map_none Option.bind_some Option.bind_none List.getElem?_cons_zero List.getElem?_cons_succ List.getElem?_nil List.nil_append List.cons_append List.replicate_succ List.replicate_zero List.length_cons List.length_nil and_true true_and and_false false_and Bool.true_eq_false Bool.false_eq_true forall_const false_implies implies_true IntKind.bits if_true if_false ite_true ite_false eq_self true_implies false_or or_false or_true true_or not_true_eq_false not_false_eq_true decide_true decide_false decide_eq_true_eq decide_eq_false_iff_not beq_iff_eq bne_iff_ne ne_eq Bool.not_eq_true Bool.not_eq_false beq_eq_false_iff_ne bne_eq_false_iff_eq beq_self_eq_true bne_self_eq_false Option.some.injEq exists_eq_left' exists_eq_left ge_iff_le gt_iff_lt decide_not Bool.not_true Bool.not_false imp_self Z2p cond_true cond_false Yd9 Yd8 Bool.not_not Bool.and_false Bool.false_and Bool.or_true Bool.true_or Bool.or_false Bool.false_or Zfm Zlq Ga Vb Jj Ql Option.join_some Nat.add_assoc Int.toNat_natCast eI eB eS eL U1 Zlx Zkp Zxm Zxk Zxl Z9s Ybv Zlz Zk1 Zyr Zyp Zyq Z6l Zr4 Z2i Zs2 Z2h Zgw Z0h List.length_append G.agg.injEq G.row.injEq G.ref.injEq G.val.injEq G.sl.injEq G.tup.injEq Value.int.injEq Value.bool.injEq Value.string.injEq List.cons.injEq exists_and_left exists_const List.flatten_cons List.flatten_nil Int.le_refl Nat.le_refl Zgp J0 Zbq Bool.not_eq_true' Bool.not_eq_false' Zz5 Zno Z52 Z56 Z51 Z55 Ya6 Ya1 List.size_toArray Zyv Zyw G.ren G.rens Z1y Zlh Zyy Zw2 Zw3 Zs5 Z57 Zhb G.fn.injEq Zp5 Zu2 Zz3 Ya2 Zu1 Z54 Ya5 Ya4 Ya3 Z53 Z2x Z9i Option.join_none Xw Zae undef Zq8 Arr.len Arr.put_eq Zly Zpm Zm0 Zk0 Zyo Zym Zyn onB Z9r Z1a Zs3 Zo0 Zrs Zrt Zru Zrv Zrw Zrx Zpc Zpq Zpo Zm3 Zk2 Zpp Zsy Zsx Zsw Zsv Ybu Ydn Z6k Z3k Uf Z6c Zxy Zpr Zm2 Z8a Zy1 Zob Zq6 Zjq Zps Zry Zrz Zr0 Zr1 Zos Zot Zou Zov Zow Zox Zoy Zkk prT Zh4 Yfy Z5p Z5f Z5q Yfz Z5r Z6p Z5s Yf0 Z5t Yf1 Z5u Yf2 Z5v Yf3 Z5w Z95 Zy5 Z96 Zy6 Z97 Zy7 Z98 Zy8 Z99 Zy9 Yaa Zza Yab Zzb Yac Zzc Yad Zzd Yae Zze Yaf Zzf Zv0 Zjs Z44 Zn9 Yag Zzg G7 Zzh Yah Zzi Yai Zzj Yaj Zzk Yak Zzl Zrk Zzm Yal Zzn Yam Zzo Yan Zzp Yao Zzq Yap Zvi Yaq Zzr Yar Zzs Zci Zzt Yas Zzu Yat Zzv Ztb Zzw Yau Zzx Zp2 Zzy Yav Zzz Zk9 Zz0 Z3z Ztc Z30 Ztd Z31 Zte Z32 Ztf Z33 Ztg Z34 Zth Z35 Zti Z36 Ztj Z37 Ztk Z38 Ztl Z39 Ztm Z4a Ztn Z4b Zto Z4c Ztp Z4d Ztq Z4e Ztr Z4f Zts Z4g Ztt Z4h Ztu Z4i Ztv Z4j Ztw Z4k Ztx Z4l Zty Zwq Zp3 Z4m Ztz Z4n Zt0 Z4o Zt1 Z4p Zt2 Z4q Zt3 Z4r Zt4 Z4s Zt5 Z4t Zt6 Z4u Zt7 Z4v Zt8 Z4w Zt9 Z4x Zua Z4y Zub Z4z Zuc Z40 Zud Z41 Zue Z42 Zuf Z43 Zug Z45 Zuh Z46 Zui Z47 Zuj Z48 Zuk Z49 Zul Z5a Zum Z5b Zun Z5c Zuo Z5d Zup Z5e Zuq Z5g Zur Z5h Zus Z5i Zut Z5j Zuu Z5k Zuv Z5l Zuw Z5m Zux Z5n Zuy Zb Y4 Znq Znn Zmj Zmy Zns Zlb Zk6 Zk4 Znk Zd9 Zd8 Zdw Zd3 Zea Zc9 Zc8 Zc7 Zd7 Zq Qy Zp Zx Xh Y6 Xv Zac Zab Gp Gz Zad Uu Us Ur G8 Zba Za8 Za0 Za4 Zbc G9 G4 G0 Za6 Zgr Zgq Zf4 Zgg Zgu Zff Zfd Zfc Zgn Zp7 Zp6 Zo6 Zpk Zp8 Znl Znb Zna Zp4 Znp Znm Zmi Zmx Znr Zla Zk5 Zk3 Znj Zkm Zez Zhu Zht Zhj Zhq Zhv Zgo Zgj Zgi Zhs Zv Zbb Za9 Za1 Za5 Zbd Zaa G5 G3 Za7 Zf0 Zkl Zf1 Yl Uw Uv Uo Uq Ux V6 V5 V4 Ut Yd Vl Vk Vd Vh Vm Ky Kw Kv Vj
theorem Zvx {a0:Xo} {r:(Int×Bool)} {O:Objs} {n:Nat} (h:Zjd a0=some r):GTo Tryz.prog 178 [.agg (Qp a0)] O n (.tup [.val (.int .u64 r.1),(vB r.2)]) O n:=by
 unfold Zjd at h
 refine Yf Zs Tryz.call178 Tryz.func178 rfl (Nat.le_of_ble_eq_true rfl) (Nat.le_refl _) fun hU => ?_
 have hN0:O n=none:=hU.fresh _ (Nat.le_refl _)
 have hN:∀ k,O (n+k)=none:=fun k=>hU.fresh _ (Nat.le_add_right _ _)
 show W _ _ _ _ ⟨17,[],[(0,.agg (Qp a0))]⟩ (Zw O n []) _
 refine zQ [1] ?_
 refine Zd ?_
 obtain ⟨y2,hy2,h⟩:=bC h
 refine zCd (Ybt hy2) [1,4] [true] ?_
 obtain ⟨z4,hz4,h⟩:=bC h
 refine Y0 (E':=⟨17,[],[(2,.val (.int .u64 y2)),(3,(vB z4))]⟩) (O':=(Zw O n [none])) (n0:=(n+1)) ?_ ?_
 ·rcases Bool.eq_false_or_eq_true (a0.Kind != 4) with c7 | c7
  ·replace hz4:=Zn c7 hz4
   obtain ⟨y6,hy6,hz4⟩:=bC hz4
   refine Qf Zs (by kernel_rfl) [some true,some true,some true,some true] (by kernel_rfl) ?_
   refine zX1 c7 ?_
   refine PCall.of (Zbk hy6) ?_
   refine zX1 c7 ?_
   exact Qk hz4 c7
  replace hz4:=Zm c7 hz4
  refine Qf Zs (by kernel_rfl) [some false,some false,some false,some false] (by kernel_rfl) ?_
  refine zX1 c7 ?_
  exact Qk hz4 c7
 refine zW ?_
 have h:=Option.some.inj h;subst h
 refine Zh (.inr rfl) hU [.val (.int .u64 y2),(vB z4)] (by omega) ?_
 simp only [push_cast,seval,↓reduceIte,Zc,Tryz.results178,hN0,hN]
theorem Gf {a0:Za} {a1:Int} {r:Int} {O:Objs} {n:Nat} (h:Jo a0 a1=some r):GTo Tryz.prog 99 [.agg (Ze a0),(vI a1)] O n (.val (.int .u64 r)) O n:=by
 unfold Jo at h
 refine Yf Zs Tryz.call99 Tryz.func99 rfl (Nat.le_of_ble_eq_true rfl) (Nat.le_refl _) fun hU => ?_
 have hN0:O n=none:=hU.fresh _ (Nat.le_refl _)
 have hN:∀ k,O (n+k)=none:=fun k=>hU.fresh _ (Nat.le_add_right _ _)
 show W _ _ _ _ ⟨19,[],[(0,.agg (Ze a0)),(1,(vI a1))]⟩ (Zw O n []) _
 refine zQ [1,2] ?_
 refine Zd ?_
 refine zQD [1,2,13] [none,none,none,none,none] ?_
 refine Zo (t:=(cond (decide (a1 < 0)) true (decide ((a0.Words.length:Int)≤a1)))) rfl (fun c3 => ?_) (fun c3 => ?_)
 ·replace h:=Zn c3 h
  refine zQ [4] ?_
  refine zW ?_
  have h:=Option.some.inj h;subst h
  refine Zh (.inr rfl) hU [.val (.int .u64 0)] (by omega) ?_
  simp only [push_cast,seval,↓reduceIte,Zc,Tryz.results99,hN0,hN]
 replace h:=Zm c3 h
 refine X9 [1,2] [true] ?_
 obtain ⟨x2,hx2,ax2,bx2,cx2,h⟩:=bE (f:=(eI .u64)) Zci (fun _=>rfl) (by decide) h
 refine Zis [4] (Yu Zs [] ?_)
 refine zF3 ax2 bx2 cx2 ?_
 refine zW ?_
 have h:=Option.some.inj h;subst h
 refine Zh (.inr rfl) hU [.val (.int .u64 x2)] (by omega) ?_
 simp only [push_cast,seval,↓reduceIte,Zc,Tryz.results99,hN0,hN]
theorem Z9q {a0:Int} {a1:(List Int)} {r:((List Int)×Bool)} {O:Objs} {n:Nat} (h:Zwa a0 a1=some r):GTo Tryz.prog 285 [(vI a0),(sL (eI .u64) a1)] O n (.tup [(sL (eI .u64) r.1),(vB r.2)]) O n:=by
 unfold Zwa at h
 refine Yf Zs Tryz.call285 Tryz.func285 rfl (Nat.le_of_ble_eq_true rfl) (Nat.le_refl _) fun hU => ?_
 have hN0:O n=none:=hU.fresh _ (Nat.le_refl _)
 have hN:∀ k,O (n+k)=none:=fun k=>hU.fresh _ (Nat.le_add_right _ _)
 show W _ _ _ _ ⟨68,[],[(0,(vI a0)),(1,(sL (eI .u64) a1))]⟩ (Zw O n []) _
 refine zQ [0,1] ?_
 refine Zd ?_
 obtain ⟨y2,hy2,h⟩:=bC h
 refine zCd (Zhp hy2) [0,1,6,7] [] ?_
 refine Zd ?_
 refine zQd [0,1,6,7,19,20,21] [0,1,6,7,19,20,21] [] ?_
 obtain ⟨z8,hz8,h⟩:=bC h
 refine Yi (E':=⟨68,[],[(0,(vI a0)),(1,(sL (eI .u64) a1)),(6,(vI y2.1)),(7,(vB z8))]⟩) (O':=(Zw O n [])) (n0:=n) ?_ ?_
 ·refine Y2 hz8 (fun s0_=>⟨68,[],[(0,(vI a0)),(1,(sL (eI .u64) a1)),(6,(vI y2.1)),(7,(vB s0_.1)),(19,(sL (eI .u64) a1)),(20,(vI (a1.length:Int))),(21,(vI s0_.2))]⟩) (fun s0_=>(Zw O n [])) (fun z8=>JX 0 n (⟨68,[],[(0,(vI a0)),(1,(sL (eI .u64) a1)),(6,(vI y2.1)),(7,(vB z8))]⟩:Env) (Zw O n []) n) ?_
  intro s0_ x0_ hs0_
  unfold Zvu at hs0_
  try dsimp only
  refine zQ [0,1,6,7,19,20,21,22] ?_
  refine Zd ?_
  refine Zo (t:=(decide (s0_.2 < (a1.length:Int)))) rfl (fun c7 => ?_) (fun c7 => ?_)
  ·replace hs0_:=Zn c7 hs0_
   refine X9 [0,1,6,7,19,20,21] [] ?_
   refine Zd ?_
   refine Z8 ?_
   obtain ⟨x4,hx4,ax4,bx4,cx4,hs0_⟩:=bE (f:=(eI .u64)) Zci (fun _=>rfl) (by decide) hs0_
   refine Zis [0,1,6,7,9,19,20,21] (Yu Zs [] ?_)
   refine zF3 ax4 bx4 cx4 ?_
   rcases Bool.eq_false_or_eq_true s0_.1 with c6 | c6
   ·replace hs0_:=Zn c6 hs0_
    obtain ⟨y5,hy5,hs0_⟩:=bC hs0_
    refine Q7 [some true,some true,some true] c6 ?_
    refine (Zx3 hy5).then ?_
    refine zX1 c6 ?_
    refine zD [0,1,6,7,19,20,21] [] ?_
    refine zR ?_
    exact Qk hs0_ c6
   replace hs0_:=Zm c6 hs0_
   refine Q7 [some false,some false,some false] c6 ?_
   refine zD [0,1,6,7,19,20,21] [] ?_
   refine zR ?_
   exact zEn hs0_
  replace hs0_:=Zm c7 hs0_
  exact zEx hs0_
 try simp only [Yx,Ya,↓reduceIte,Nat.reduceEqDiff]
 refine zDs [0,1,6,7] [] ?_
 refine zQ [0,1,6,33] ?_
 refine Zo (t:=(!z8)) rfl (fun c26 => ?_) (fun c26 => ?_)
 ·replace h:=Zn c26 h
  refine zQ [4,5] ?_
  refine zW ?_
  have h:=Option.some.inj h;subst h
  refine Zh (.inr rfl) hU [nV,(vB false)] (by omega) ?_
  simp only [push_cast,seval,↓reduceIte,Zc,Tryz.results285,hN0,hN]
 replace h:=Zm c26 h
 refine X9 [0,1,6] [] ?_
 refine Zd ?_
 obtain ⟨y11,hy11,h⟩:=bC h
 obtain ⟨l12,al12,bl12,cl12,el12,h⟩:=bM2 (c:=8) rfl h
 have nl12:Int.toNat y11=List.length l12:=by rw [el12,List.length_replicate]
 have fl12:(List.replicate (List.length l12) [.val (.int .u64 0)]).flatten=fl (eI .u64) l12:=by rw [← nl12,el12];exact (Zwz (f:=(eI .u64)) _ _).symm
 clear el12
 refine Yu Zs [] ?_
 simp only [push_cast,seval,↓reduceIte,Zc,al12,bl12,cl12,fl12,nl12,hN0,hN]
 refine (Zx4 hy11).then ?_
 simp only [push_cast,seval,↓reduceIte,Zc,al12,bl12,cl12,fl12,nl12,hN0,hN]
 refine Vp ⟨68,[],[(1,(sL (eI .u64) a1)),(6,(vI y2.1)),(10,.row n l12.length)]⟩ (Zw O n [some (oR 77 1 (eI .u64) l12)]) (Z6 hU rfl rfl ?_) ?_
 ·simp only [push_cast,seval,↓reduceIte,Zc,al12,bl12,cl12,fl12,nl12,hN0,hN]
 refine Zd ?_
 refine zQ [1,6,10,40] ?_
 refine Zo (t:=(y2.1 == 0)) rfl (fun c25 => ?_) (fun c25 => ?_)
 ·replace h:=Zn c25 h
  refine zQ [4,5] ?_
  refine zW ?_
  have h:=Option.some.inj h;subst h
  refine Zh (.inr rfl) hU [.row n l12.length,(vB true)] (by omega) ?_
  simp only [push_cast,seval,↓reduceIte,Zc,Tryz.results285,hN0,hN]
 replace h:=Zm c25 h
 refine X9 [1,6,10] [true] ?_
 obtain ⟨pu14,h⟩:=bG h
 refine Zis [1,6,10,11] (Yu Zs [] ?_)
 simp only [push_cast,seval,↓reduceIte,Zc,pu14,hN0,hN]
 refine Zd ?_
 refine zQd [6,10,11,44,45,46] [6,10,11,44,45,46] [true] ?_
 obtain ⟨z24,hz24,h⟩:=bC h
 refine Yi (E':=⟨68,[],[(10,.row n z24.length)]⟩) (O':=(Zw O n [some (oR 77 1 (eI .u64) z24)])) (n0:=(n+1)) ?_ ?_
 ·refine Y2 hz24 (fun s1_=>⟨68,[],[(6,(vI y2.1)),(10,.row n s1_.2.length),(11,(vI (IntKind.i64.wrap (Int.tdiv 64 y2.1)))),(44,(sL (eI .u64) a1)),(45,(vI (a1.length:Int))),(46,(vI s1_.1))]⟩) (fun s1_=>(Zw O n [some (oR 77 1 (eI .u64) s1_.2)])) (fun z24=>JX 2 n (⟨68,[],[(10,.row n z24.length)]⟩:Env) (Zw O n [some (oR 77 1 (eI .u64) z24)]) (n+1)) ?_
  intro s1_ x1_ hs1_
  unfold Zvv at hs1_
  try dsimp only
  refine zQ [6,10,11,44,45,46,47] ?_
  refine Zd ?_
  refine Zo (t:=(decide (s1_.1 < (a1.length:Int)))) rfl (fun c23 => ?_) (fun c23 => ?_)
  ·replace hs1_:=Zn c23 hs1_
   refine X9 [6,10,11,44,45,46] [true] ?_
   refine Zd ?_
   refine Z8 ?_
   obtain ⟨x16,hx16,ax16,bx16,cx16,hs1_⟩:=bE (f:=(eI .u64)) Zci (fun _=>rfl) (by decide) hs1_
   refine Zis [6,10,11,12,13,44,45,46] (Yu Zs [] ?_)
   refine zF3 ax16 bx16 cx16 ?_
   obtain ⟨pu17,hs1_⟩:=bG hs1_
   obtain ⟨x18,hx18,ax18,bx18,cx18,hs1_⟩:=bE (f:=(eI .u64)) Zci (fun _=>rfl) (by decide) hs1_
   obtain ⟨pu19,hs1_⟩:=bG hs1_
   obtain ⟨pu20,hs1_⟩:=bG hs1_
   have gu22:Zar (fl (eI .u64) s1_.2) [.val (.int .u64 (IntKind.u64.wrap (Zdx .u64 x18 (IntKind.u64.wrap (x16 * 2 ^ min (Int.toNat (IntKind.i64.wrap ((Int.tmod s1_.1 (IntKind.i64.wrap (Int.tdiv 64 y2.1))) * y2.1))) 64)))))] (Int.toNat (IntKind.i64.wrap (Int.tdiv s1_.1 (IntKind.i64.wrap (Int.tdiv 64 y2.1)))) * 1)=some (fl (eI .u64) (Zlv s1_.2 (IntKind.i64.wrap (Int.tdiv s1_.1 (IntKind.i64.wrap (Int.tdiv 64 y2.1)))) (IntKind.u64.wrap (Zdx .u64 x18 (IntKind.u64.wrap (x16 * 2 ^ min (Int.toNat (IntKind.i64.wrap ((Int.tmod s1_.1 (IntKind.i64.wrap (Int.tdiv 64 y2.1))) * y2.1))) 64)))))):=Zj3 (f:=(eI .u64)) (ti:=⟨.bool,1,0,[],false⟩) (x:=(IntKind.u64.wrap (Zdx .u64 x18 (IntKind.u64.wrap (x16 * 2 ^ min (Int.toNat (IntKind.i64.wrap ((Int.tmod s1_.1 (IntKind.i64.wrap (Int.tdiv 64 y2.1))) * y2.1))) 64))))) (fun _=>rfl) (Zf3 hx18)
   refine Zhw Zs (by kernel_rfl) [false,false,false,false,false,false,false,false,false,false,false,false,false,false,false,true] [] (by kernel_rfl) ?_
   refine zF7 pu17 ax18 bx18 cx18 pu19 pu20 gu22 ?_
   refine zD [6,10,11,44,45,46] [true] ?_
   refine zR ?_
   exact zEn hs1_
  replace hs1_:=Zm c23 hs1_
  exact zEx hs1_
 try simp only [Yx,Ya,↓reduceIte,Nat.reduceEqDiff]
 refine zD [10] [true] ?_
 refine zQ [4,5] ?_
 refine zW ?_
 have h:=Option.some.inj h;subst h
 refine Zh (.inr rfl) hU [.row n z24.length,(vB true)] (by omega) ?_
 simp only [push_cast,seval,↓reduceIte,Zc,Tryz.results285,hN0,hN]
theorem Z0t {a0:Za} {r:(List Int)} {O:Objs} {n:Nat} (h:Zle a0=some r):GTo Tryz.prog 244 [.agg (Ze a0)] O n ((sL (eI .u64) r)) O n:=by
 unfold Zle at h
 refine Yf Zs Tryz.call244 Tryz.func244 rfl (Nat.le_of_ble_eq_true rfl) (Nat.le_refl _) fun hU => ?_
 have hN0:O n=none:=hU.fresh _ (Nat.le_refl _)
 have hN:∀ k,O (n+k)=none:=fun k=>hU.fresh _ (Nat.le_add_right _ _)
 show W _ _ _ _ ⟨30,[],[(0,.agg (Ze a0))]⟩ (Zw O n []) _
 refine zQ [1] ?_
 refine zQ [1,3] ?_
 refine Zd ?_
 refine zQd [1,3,9,10,11] [1,3,9,10,11] [true] ?_
 refine Zdn (E':=(⟨30,[],[(1,.ref n 0),(3,.row (n+1) ([]:List Int).length),(9,(sL Zb a0.Kids)),(10,(vI (a0.Kids.length:Int))),(11,(vI 0))]⟩:Env)) (O':=(Zw O n [some ⟨false,25,3,1,(Ze a0)⟩,some (oR 77 1 (eI .u64) ([]:List Int)),none])) (n':=(n+3)) ?_ ?_
 ·refine Fit2.trans (E':=(⟨30,[],[(1,.ref n 0),(3,nV),(9,(sL Zb a0.Kids)),(10,(vI (a0.Kids.length:Int))),(11,(vI 0))]⟩:Env)) (O':=(Zw O n [some ⟨false,25,3,1,(Ze a0)⟩])) (n':=(n+1)) (Fit2.of (Z6 hU rfl rfl ?_) (by omega)) ?_
  ·exact zSe
  refine Fit2.trans (Zcm 3 77 1 rfl (by omega)) ?_
  simp only [Jj,Ql,Ga,Vb,List.set_cons_zero,List.set_cons_succ,List.cons_append,List.nil_append,List.length_cons,List.length_nil,Nat.zero_add,Nat.reduceAdd,Nat.reduceLT,Nat.add_assoc]
  refine Fit2.trans (E':=(⟨30,[],[(1,.ref n 0),(3,.row (n+1) ([]:List Int).length),(9,(sL Zb a0.Kids)),(10,(vI (a0.Kids.length:Int))),(11,(vI 0))]⟩:Env)) (O':=(Zw O n [some ⟨false,25,3,1,(Ze a0)⟩,some (oR 77 1 (eI .u64) ([]:List Int))])) (n':=(n+2)) (Fit2.of (Z6 hU rfl rfl ?_) (by omega)) ?_
  ·exact zSe
  refine Kk (k:=2) (k':=3) hU [0,1] [0,1,0] rfl rfl rfl rfl ⟨rfl,rfl⟩ ?_
  exact zSe
 obtain ⟨z6,hz6,h⟩:=bC h
 refine Yi (E':=⟨30,[],[(1,.ref n 0),(3,.row (n+1) z6.length)]⟩) (O':=(Zw O n [some ⟨false,25,3,1,(Ze a0)⟩,some (oR 77 1 (eI .u64) z6),none])) (n0:=(n+3)) ?_ ?_
 ·refine Y2 hz6 (fun s0_=>⟨30,[],[(1,.ref n 0),(3,.row (n+1) s0_.2.length),(9,(sL Zb a0.Kids)),(10,(vI (a0.Kids.length:Int))),(11,(vI s0_.1))]⟩) (fun s0_=>(Zw O n [some ⟨false,25,3,1,(Ze a0)⟩,some (oR 77 1 (eI .u64) s0_.2),none])) (fun z6=>JX 0 n (⟨30,[],[(1,.ref n 0),(3,.row (n+1) z6.length)]⟩:Env) (Zw O n [some ⟨false,25,3,1,(Ze a0)⟩,some (oR 77 1 (eI .u64) z6),none]) (n+3)) ?_
  intro s0_ x0_ hs0_
  unfold Zml at hs0_
  try dsimp only
  refine zQ [1,3,9,10,11,12] ?_
  refine Zd ?_
  refine Zo (t:=(decide (s0_.1 < (a0.Kids.length:Int)))) rfl (fun c5 => ?_) (fun c5 => ?_)
  ·replace hs0_:=Zn c5 hs0_
   refine X9 [1,3,9,10,11] [true,true,false] ?_
   refine Zd ?_
   refine Z8 ?_
   refine Zd ?_
   obtain ⟨x2,hx2,ax2,bx2,cx2,hs0_⟩:=bE (f:=Zb) G7 (fun _=>rfl) (by decide) hs0_
   refine Zck [] ax2 bx2 cx2 ?_
   refine zD [1,3,5,9,10,11] [true,true,false,true] ?_
   obtain ⟨y3,hy3,hs0_⟩:=bC hs0_
   obtain ⟨l4,pl4,ql4,el4,hs0_⟩:=bA (k:=1) rfl hs0_
   refine Zap [] pl4 ql4 el4 ?_
   refine (Gf hy3).then ?_
   refine zX3 pl4 ql4 el4 ?_
   refine Vp ⟨30,[],[(1,.ref n 0),(3,.row (n+1) l4.length),(9,(sL Zb a0.Kids)),(10,(vI (a0.Kids.length:Int))),(11,(vI s0_.1))]⟩ (Zw O n [some ⟨false,25,3,1,(Ze a0)⟩,some (oR 77 1 (eI .u64) l4),none,none,none]) (Z6 hU rfl rfl ?_) ?_
   ·exact Znt pl4 ql4 el4
   refine zR ?_
   exact zEn hs0_
  replace hs0_:=Zm c5 hs0_
  exact zEx hs0_
 try simp only [Yx,Ya,↓reduceIte,Nat.reduceEqDiff]
 refine zD [1,3] [true,true,false] ?_
 refine Vp ⟨30,[],[(1,.ref n 0),(3,(sL (eI .u64) z6))]⟩ (Zw O n [some ⟨false,25,3,1,(Ze a0)⟩,none,none]) (Z6 hU rfl rfl ?_) ?_
 ·exact zSe
 refine Zd ?_
 obtain ⟨y8,hy8,h⟩:=bC h
 refine zCd (Z9q hy8) [6] [false,false,false] ?_
 refine zQ [2] ?_
 refine zW ?_
 have h:=Option.some.inj h;subst h
 refine Zh (.inr rfl) hU [(sL (eI .u64) y8.1)] (by omega) ?_
 simp only [push_cast,seval,↓reduceIte,Zc,Tryz.results244,hN0,hN]
def V1 (Ym:(Zi→Int→Za→Option Zi)):Prop:=∀ {a0:Zi} {a1:Int} {a2:Za} {r:Zi} {O:Objs} {n:Nat} {i0 j0_0:Nat},i0 < n→j0_0 < n→i0≠j0_0→O i0=some ⟨false,140,2,1,[.row j0_0 a0.words.length,(vI a0.next)]⟩→O j0_0=some (oR 77 1 (eI .u64) a0.words)→Ym a0 a1 a2=some r→GTo Tryz.prog 116 [.ref i0 0,(vI a1),.agg (Ze a2)] O n (.tup []) (Zw ((O.upd j0_0 none).upd i0 (some ⟨false,140,2,1,[.row n r.words.length,(vI r.next)]⟩)) n [some (oR 77 1 (eI .u64) r.words)]) (n+1)
def Ks (Yj:(Zi→Int→Za→Option Zi)):Prop:=∀ {a0:Zi} {a1:Int} {a2:Za} {r:Zi} {O:Objs} {n:Nat} {i0 j0_0:Nat},i0 < n→j0_0 < n→i0≠j0_0→O i0=some ⟨false,140,2,1,[.row j0_0 a0.words.length,(vI a0.next)]⟩→O j0_0=some (oR 77 1 (eI .u64) a0.words)→Yj a0 a1 a2=some r→GTo Tryz.prog 179 [.ref i0 0,(vI a1),.agg (Ze a2)] O n (.tup []) (Zw ((O.upd j0_0 none).upd i0 (some ⟨false,140,2,1,[.row n r.words.length,(vI r.next)]⟩)) n [some (oR 77 1 (eI .u64) r.words)]) (n+1)
def J6 (Z9:(Zi→Int→(List Za)→Option Zi)):Prop:=∀ {a0:Zi} {a1:Int} {a2:(List Za)} {r:Zi} {O:Objs} {n:Nat} {i0 j0_0:Nat},i0 < n→j0_0 < n→i0≠j0_0→O i0=some ⟨false,140,2,1,[.row j0_0 a0.words.length,(vI a0.next)]⟩→O j0_0=some (oR 77 1 (eI .u64) a0.words)→Z9 a0 a1 a2=some r→GTo Tryz.prog 242 [.ref i0 0,(vI a1),(sL Zb a2)] O n (.tup []) (Zw ((O.upd j0_0 none).upd i0 (some ⟨false,140,2,1,[.row n r.words.length,(vI r.next)]⟩)) n [some (oR 77 1 (eI .u64) r.words)]) (n+1)
def Kt (Yk:(Zi→Int→Za→Option Zi)):Prop:=∀ {a0:Zi} {a1:Int} {a2:Za} {r:Zi} {O:Objs} {n:Nat} {i0 j0_0:Nat},i0 < n→j0_0 < n→i0≠j0_0→O i0=some ⟨false,140,2,1,[.row j0_0 a0.words.length,(vI a0.next)]⟩→O j0_0=some (oR 77 1 (eI .u64) a0.words)→Yk a0 a1 a2=some r→GTo Tryz.prog 243 [.ref i0 0,(vI a1),.agg (Ze a2)] O n (.tup []) (Zw ((O.upd j0_0 none).upd i0 (some ⟨false,140,2,1,[.row n r.words.length,(vI r.next)]⟩)) n [some (oR 77 1 (eI .u64) r.words)]) (n+1)
theorem Zrr {Ym:(Zi→Int→Za→Option Zi)} {Yj:(Zi→Int→Za→Option Zi)} {Z9:(Zi→Int→(List Za)→Option Zi)} {Yk:(Zi→Int→Za→Option Zi)} (Zbh:V1 Ym) (Gd:Ks Yj) (Jg:J6 Z9) (Ge:Kt Yk) {a0:Zi} {a1:Int} {a2:Za} {r:Zi} {O:Objs} {n:Nat} {i0 j0_0:Nat} (hi0:i0 < n) (Ze0:j0_0 < n) (Zas:i0≠j0_0) (ho0:O i0=some ⟨false,140,2,1,[.row j0_0 a0.words.length,(vI a0.next)]⟩) (Zdc:O j0_0=some (oR 77 1 (eI .u64) a0.words)) (h:Zaw Ym Yj Z9 Yk a0 a1 a2=some r):GTo Tryz.prog 116 [.ref i0 0,(vI a1),.agg (Ze a2)] O n (.tup []) (Zw ((O.upd j0_0 none).upd i0 (some ⟨false,140,2,1,[.row n r.words.length,(vI r.next)]⟩)) n [some (oR 77 1 (eI .u64) r.words)]) (n+1):=by
 unfold Zaw at h
 refine Yf Zs Tryz.call116 Tryz.func116 rfl (Nat.le_of_ble_eq_true rfl) (by omega) fun hU => ?_
 have e0:=Zy4 (ba:=n) (E:=⟨60,[],Zxf 0 [.ref i0 0,.val (.int .i64 a1),.agg [.val (.int .i64 a2.Kind),.sl a2.Words.length (fl (eI .u64) a2.Words),.sl a2.Kids.length (fl Zb a2.Kids)]]⟩) (O:=(Zw O n [])) (n:=n) (i:=i0) (j:=j0_0) (k:=0) (len:=a0.words.length) (q:=⟨false,140,2,1,[.row j0_0 a0.words.length,.val (.int .i64 a0.next)]⟩) (qj:=⟨true,77,1,a0.words.length,fl (eI .u64) a0.words⟩) (by rw [J0 _ hi0];first | exact ho0 | exact Xw _ _ _) rfl (by rw [J0 _ Ze0];exact Zdc) Zas (by omega)
 simp only [Zbq _ _ Ze0,Zbq _ _ hi0,Jj,Ql,Zgp,Z8p Zas,List.set_cons_zero,List.set_cons_succ,List.cons_append,List.nil_append,List.length_cons,List.length_nil,Nat.zero_add,Nat.reduceAdd,Nat.add_assoc] at e0
 refine Zdn e0 ?_
 have hU:=(Und.drop hU j0_0)
 have hk0:∀ k,i0 < n+k:=fun k=>by omega
 have hN0:∀ o,Objs.upd (O.upd j0_0 none) i0 o n=none:=fun o=>V9 hU hi0 _ (Nat.le_refl _)
 have hN:∀ o k,Objs.upd (O.upd j0_0 none) i0 o (n+k)=none:=fun o k=>V9 hU hi0 _ (Nat.le_add_right _ _)
 show W _ _ _ _ ⟨60,[],[(0,.ref i0 0),(1,(vI a1)),(2,.agg (Ze a2))]⟩ (Zw ((O.upd j0_0 none).upd i0 (some ⟨false,140,2,1,[.row n a0.words.length,(vI a0.next)]⟩)) n [some (oR 77 1 (eI .u64) a0.words)]) _
 refine Zcl [0,1,5] hi0 hk0 ?_
 refine Zd ?_
 refine Zcl [0,1,5,12] hi0 hk0 ?_
 refine Zo (t:=(a2.Kind == 0)) rfl (fun Qs => ?_) (fun Qs => ?_)
 ·replace h:=Zn Qs h
  refine zW ?_
  have h:=Option.some.inj h;subst h
  refine Vv (k:=1) (i:=i0) (q1:=⟨false,140,2,1,[.row n a0.words.length,(vI a0.next)]⟩) (L3:=[some (oR 77 1 (eI .u64) a0.words),none]) (E2:=(⟨60,[],[]⟩:Env)) (n3:=(n+2)) (.inr rfl) hU rfl [] ?_ ?_
  ·refine Fit2.trans (E':=(⟨60,[],[]⟩:Env)) (O':=(Zw ((O.upd j0_0 none).upd i0 (some ⟨false,140,2,1,[.row n a0.words.length,(vI a0.next)]⟩)) n [some (oR 77 1 (eI .u64) a0.words),none])) (n':=(n+2)) (Fit2.of (Ys hU rfl rfl ?_) (by omega)) ?_
   ·exact Q9 hi0 hk0
   refine Jk (k:=2) (k':=2) hU [0,1] [0,0] rfl rfl rfl rfl ⟨rfl,rfl⟩ ?_
   exact Q9 hi0 hk0
  simp only [push_cast,seval,↓reduceIte,Zc,Tryz.results116,hi0,hk0,hN0,hN]
 replace h:=Zm Qs h
 refine X9 [0,1,5] [true,true] ?_
 refine Zd ?_
 obtain ⟨y2,hy2,h⟩:=bC h
 refine X2 [] hi0 hk0 ?_
 refine (Z23 hy2).then ?_
 refine zX2 hi0 hk0 ?_
 refine zD [0,1,5,6] [true,true,true] ?_
 refine Zcl [0,1,5,6,7] hi0 hk0 ?_
 refine Zd ?_
 obtain ⟨y4,hy4,h⟩:=bC h
 refine X2 [] hi0 hk0 ?_
 refine (Zpf hy4).then ?_
 refine zX2 hi0 hk0 ?_
 refine zDs [0,1,5,6,7,8] [true,true,true] ?_
 refine X2 [] hi0 hk0 ?_
 refine zD [0,1,5,6,7,8] [true,true,true] ?_
 obtain ⟨z5,hz5,h⟩:=bC h
 refine Y0 (E':=⟨60,[],[(0,.ref i0 0),(1,(vI a1)),(5,.ref (n+1) 0),(6,.ref (n+2) 0),(7,(vI a0.next)),(8,(vI y4.1))]⟩) (O':=(Zw ((O.upd j0_0 none).upd i0 (some ⟨false,140,2,1,[.row n a0.words.length,(vI a0.next)]⟩)) n [some (oR 77 1 (eI .u64) a0.words),some ⟨false,25,3,1,(Ze a2)⟩,some ⟨false,191,8,1,[(vI y2.Kind),(vI z5),(vI y2.Data),(vI y2.Ptrs),(vI y2.Code),(vI y2.Count),(vI y2.Segment),(vB y2.Double)]⟩])) (n0:=(n+3)) ?_ ?_
 ·refine Zis [0,1,5,6,7,8,35] (Yu Zs [none,none] ?_)
  refine zX2 hi0 hk0 ?_
  refine zG ?_
  refine Zo (t:=(cond (y2.Kind == 1) (y4.1 == 0) false)) rfl (fun c6 => ?_) (fun c6 => ?_)
  ·replace hz5:=Zn c6 hz5
   refine X2 [] hi0 hk0 ?_
   have hz5:=Option.some.inj hz5;subst hz5
   refine And.intro rfl (Fit2.of (Ys hU rfl rfl ?_) (by omega))
   exact Q9 hi0 hk0
  replace hz5:=Zm c6 hz5
  refine zK ?_
  have hz5:=Option.some.inj hz5;subst hz5
  refine And.intro rfl (Fit2.of (Ys hU rfl rfl ?_) (by omega))
  exact Q9 hi0 hk0
 refine Zd ?_
 obtain ⟨y10,hy10,h⟩:=bC h
 obtain ⟨x11,hx11,ax11,bx11,cx11,h⟩:=bE (f:=(eI .u64)) Zci (fun _=>rfl) (by decide) h
 have gu12:Zar (fl (eI .u64) a0.words) [.val (.int .u64 y10.1)] (Int.toNat a1 * 1)=some (fl (eI .u64) (Zlv a0.words a1 y10.1)):=Zj3 (f:=(eI .u64)) (ti:=⟨.bool,1,0,[],false⟩) (x:=y10.1) (fun _=>rfl) (Zf3 hx11)
 refine Zhw Zs (by kernel_rfl) [false,false,false,false,false,false,false,false,false,false,false,true] [] (by kernel_rfl) ?_
 refine zF6 ax11 bx11 cx11 gu12 hi0 hk0 ?_
 refine PCall.of (Zvx hy10) ?_
 refine zF6 ax11 bx11 cx11 gu12 hi0 hk0 ?_
 refine zDs [0,5,7,8] [true,true,false] ?_
 refine X2 [] hi0 hk0 ?_
 refine zD [0,5,7] [true,true,false] ?_
 obtain ⟨y13,hy13,h⟩:=bC h
 refine X2 [] hi0 hk0 ?_
 refine (Gd (i0:=i0) (j0_0:=n) (by omega) (by omega) (by omega) (by simp only [push_cast,seval,↓reduceIte,Zc,U1,hi0,hk0,hN0,hN] <;> rfl) (by simp only [push_cast,seval,↓reduceIte,Zc,U1,hi0,hk0,hN0,hN] <;> rfl) hy13).then ?_
 refine zX2 hi0 hk0 ?_
 have h:=Option.some.inj h;subst h
 refine Vv (k:=1) (i:=i0) (q1:=⟨false,140,2,1,[.row n y13.words.length,(vI y13.next)]⟩) (L3:=[some (oR 77 1 (eI .u64) y13.words),none]) (E2:=(⟨60,[],[]⟩:Env)) (n3:=(n+2)) (.inl rfl) hU rfl [] ?_ ?_
 ·refine Fit2.trans (E':=(⟨60,[],[]⟩:Env)) (O':=(Zw ((O.upd j0_0 none).upd i0 (some ⟨false,140,2,1,[.row (n+3) y13.words.length,(vI y13.next)]⟩)) n [none,none,none,some (oR 77 1 (eI .u64) y13.words)])) (n':=(n+4)) (Fit2.of (Ys hU rfl rfl ?_) (by omega)) ?_
  ·exact Q9 hi0 hk0
  refine Jk (k:=4) (k':=2) hU [1,1,1,0] [3,0] rfl rfl rfl rfl ⟨rfl,rfl⟩ ?_
  exact Q9 hi0 hk0
 simp only [push_cast,seval,↓reduceIte,Zc,Tryz.results116,hi0,hk0,hN0,hN]
theorem Zph {Ym:(Zi→Int→Za→Option Zi)} {Yj:(Zi→Int→Za→Option Zi)} {Z9:(Zi→Int→(List Za)→Option Zi)} {Yk:(Zi→Int→Za→Option Zi)} (Zbh:V1 Ym) (Gd:Ks Yj) (Jg:J6 Z9) (Ge:Kt Yk) {a0:Zi} {a1:Int} {a2:Za} {r:Zi} {O:Objs} {n:Nat} {i0 j0_0:Nat} (hi0:i0 < n) (Ze0:j0_0 < n) (Zas:i0≠j0_0) (ho0:O i0=some ⟨false,140,2,1,[.row j0_0 a0.words.length,(vI a0.next)]⟩) (Zdc:O j0_0=some (oR 77 1 (eI .u64) a0.words)) (h:Ug Ym Yj Z9 Yk a0 a1 a2=some r):GTo Tryz.prog 179 [.ref i0 0,(vI a1),.agg (Ze a2)] O n (.tup []) (Zw ((O.upd j0_0 none).upd i0 (some ⟨false,140,2,1,[.row n r.words.length,(vI r.next)]⟩)) n [some (oR 77 1 (eI .u64) r.words)]) (n+1):=by
 unfold Ug at h
 refine Yf Zs Tryz.call179 Tryz.func179 rfl (Nat.le_of_ble_eq_true rfl) (by omega) fun hU => ?_
 have e0:=Zy4 (ba:=n) (E:=⟨47,[],Zxf 0 [.ref i0 0,.val (.int .i64 a1),.agg [.val (.int .i64 a2.Kind),.sl a2.Words.length (fl (eI .u64) a2.Words),.sl a2.Kids.length (fl Zb a2.Kids)]]⟩) (O:=(Zw O n [])) (n:=n) (i:=i0) (j:=j0_0) (k:=0) (len:=a0.words.length) (q:=⟨false,140,2,1,[.row j0_0 a0.words.length,.val (.int .i64 a0.next)]⟩) (qj:=⟨true,77,1,a0.words.length,fl (eI .u64) a0.words⟩) (by rw [J0 _ hi0];first | exact ho0 | exact Xw _ _ _) rfl (by rw [J0 _ Ze0];exact Zdc) Zas (by omega)
 simp only [Zbq _ _ Ze0,Zbq _ _ hi0,Jj,Ql,Zgp,Z8p Zas,List.set_cons_zero,List.set_cons_succ,List.cons_append,List.nil_append,List.length_cons,List.length_nil,Nat.zero_add,Nat.reduceAdd,Nat.add_assoc] at e0
 refine Zdn e0 ?_
 have hU:=(Und.drop hU j0_0)
 have hk0:∀ k,i0 < n+k:=fun k=>by omega
 have hN0:∀ o,Objs.upd (O.upd j0_0 none) i0 o n=none:=fun o=>V9 hU hi0 _ (Nat.le_refl _)
 have hN:∀ o k,Objs.upd (O.upd j0_0 none) i0 o (n+k)=none:=fun o k=>V9 hU hi0 _ (Nat.le_add_right _ _)
 show W _ _ _ _ ⟨47,[],[(0,.ref i0 0),(1,(vI a1)),(2,.agg (Ze a2))]⟩ (Zw ((O.upd j0_0 none).upd i0 (some ⟨false,140,2,1,[.row n a0.words.length,(vI a0.next)]⟩)) n [some (oR 77 1 (eI .u64) a0.words)]) _
 refine Zcl [0,1,5] hi0 hk0 ?_
 refine Zcl [0,1,5,7] hi0 hk0 ?_
 refine Z8 ?_
 refine Zcl [0,1,5,7,17] hi0 hk0 ?_
 refine Zo (t:=(a2.Kind == 1)) rfl (fun c11 => ?_) (fun c11 => ?_)
 ·replace h:=Zn c11 h
  obtain ⟨pu1,h⟩:=bG h
  have su1:=fun j=>Zqh (T:=Xy) (j:=j) Zjs Zci pu1
  have g2:=Zqf (f:=(eI .u64)) a0.words a2.Words a1 (fun _=>rfl) pu1.2.1 pu1.2.2
  have mg2:=Nat.mul_one (List.length a2.Words)
  obtain ⟨y3,hy3,h⟩:=bC h
  refine Znx Zs (by kernel_rfl) [.plain,.plain,.plain,.plain,.plain,.plain,.plain,.plain,.plain,.plain,.pass,.plain,.low,.low,.bar] (fun i=>i < (n+2)∧¬ i=n) [0,1,2,3,4,5,6,7,8,9,12,13,10,11,14] [.plain,.plain,.plain,.plain,.plain,.plain,.plain,.plain,.plain,.plain,.low,.low,.pass,.plain,.bar] [] (by kernel_rfl) rfl ?_
  simp only [push_cast,seval,↓reduceIte,Zc,pu1.1,pu1.2.1,pu1.2.2,su1,g2,mg2,hi0,hk0,hN0,hN]
  refine zO ?_
  refine (Jg (i0:=i0) (j0_0:=n) (by omega) (by omega) (by omega) (by simp only [push_cast,seval,↓reduceIte,Zc,U1,pu1.1,pu1.2.1,pu1.2.2,su1,g2,mg2,hi0,hk0,hN0,hN] <;> rfl) (by simp only [push_cast,seval,↓reduceIte,Zc,U1,pu1.1,pu1.2.1,pu1.2.2,su1,g2,mg2,hi0,hk0,hN0,hN] <;> rfl) hy3).then ?_
  simp only [push_cast,seval,↓reduceIte,Zc,pu1.1,pu1.2.1,pu1.2.2,su1,g2,mg2,hi0,hk0,hN0,hN]
  refine zO ?_
  have h:=Option.some.inj h;subst h
  refine Vv (k:=1) (i:=i0) (q1:=⟨false,140,2,1,[.row n y3.words.length,(vI y3.next)]⟩) (L3:=[some (oR 77 1 (eI .u64) y3.words),none]) (E2:=(⟨47,[],[]⟩:Env)) (n3:=(n+2)) (.inl rfl) hU rfl [] ?_ ?_
  ·refine Fit2.trans (E':=(⟨47,[],[]⟩:Env)) (O':=(Zw ((O.upd j0_0 none).upd i0 (some ⟨false,140,2,1,[.row (n+2) y3.words.length,(vI y3.next)]⟩)) n [none,none,some (oR 77 1 (eI .u64) y3.words)])) (n':=(n+3)) (Fit2.of (Ys hU rfl rfl ?_) (by omega)) ?_
   ·simp only [push_cast,seval,↓reduceIte,Zc,pu1.1,pu1.2.1,pu1.2.2,su1,g2,mg2,hi0,hk0,hN0,hN]
   refine Jk (k:=3) (k':=2) hU [1,1,0] [2,0] rfl rfl rfl rfl ⟨rfl,rfl⟩ ?_
   exact Q9 hi0 hk0
  simp only [push_cast,seval,↓reduceIte,Zc,Tryz.results179,hi0,hk0,hN0,hN]
 replace h:=Zm c11 h
 refine Zcl [0,1,5,7,34] hi0 hk0 ?_
 refine Zo (t:=(a2.Kind == 8)) rfl (fun c10 => ?_) (fun c10 => ?_)
 ·replace h:=Zn c10 h
  obtain ⟨y4,hy4,h⟩:=bC h
  refine X2 [] hi0 hk0 ?_
  refine (Jg (i0:=i0) (j0_0:=n) (by omega) (by omega) (by omega) (by simp only [push_cast,seval,↓reduceIte,Zc,U1,hi0,hk0,hN0,hN] <;> rfl) (by simp only [push_cast,seval,↓reduceIte,Zc,U1,hi0,hk0,hN0,hN] <;> rfl) hy4).then ?_
  refine zX2 hi0 hk0 ?_
  have h:=Option.some.inj h;subst h
  refine Vv (k:=1) (i:=i0) (q1:=⟨false,140,2,1,[.row n y4.words.length,(vI y4.next)]⟩) (L3:=[some (oR 77 1 (eI .u64) y4.words),none]) (E2:=(⟨47,[],[]⟩:Env)) (n3:=(n+2)) (.inl rfl) hU rfl [] ?_ ?_
  ·refine Fit2.trans (E':=(⟨47,[],[]⟩:Env)) (O':=(Zw ((O.upd j0_0 none).upd i0 (some ⟨false,140,2,1,[.row (n+2) y4.words.length,(vI y4.next)]⟩)) n [none,none,some (oR 77 1 (eI .u64) y4.words)])) (n':=(n+3)) (Fit2.of (Ys hU rfl rfl ?_) (by omega)) ?_
   ·exact Q9 hi0 hk0
   refine Jk (k:=3) (k':=2) hU [1,1,0] [2,0] rfl rfl rfl rfl ⟨rfl,rfl⟩ ?_
   exact Q9 hi0 hk0
  simp only [push_cast,seval,↓reduceIte,Zc,Tryz.results179,hi0,hk0,hN0,hN]
 replace h:=Zm c10 h
 refine Zcl [0,1,5,41] hi0 hk0 ?_
 refine Zo (t:=(a2.Kind == 9)) rfl (fun c9 => ?_) (fun c9 => ?_)
 ·replace h:=Zn c9 h
  obtain ⟨y5,hy5,h⟩:=bC h
  refine X2 [] hi0 hk0 ?_
  refine (Ge (i0:=i0) (j0_0:=n) (by omega) (by omega) (by omega) (by simp only [push_cast,seval,↓reduceIte,Zc,U1,hi0,hk0,hN0,hN] <;> rfl) (by simp only [push_cast,seval,↓reduceIte,Zc,U1,hi0,hk0,hN0,hN] <;> rfl) hy5).then ?_
  refine zX2 hi0 hk0 ?_
  have h:=Option.some.inj h;subst h
  refine Vv (k:=1) (i:=i0) (q1:=⟨false,140,2,1,[.row n y5.words.length,(vI y5.next)]⟩) (L3:=[some (oR 77 1 (eI .u64) y5.words),none]) (E2:=(⟨47,[],[]⟩:Env)) (n3:=(n+2)) (.inl rfl) hU rfl [] ?_ ?_
  ·refine Fit2.trans (E':=(⟨47,[],[]⟩:Env)) (O':=(Zw ((O.upd j0_0 none).upd i0 (some ⟨false,140,2,1,[.row (n+2) y5.words.length,(vI y5.next)]⟩)) n [none,none,some (oR 77 1 (eI .u64) y5.words)])) (n':=(n+3)) (Fit2.of (Ys hU rfl rfl ?_) (by omega)) ?_
   ·exact Q9 hi0 hk0
   refine Jk (k:=3) (k':=2) hU [1,1,0] [2,0] rfl rfl rfl rfl ⟨rfl,rfl⟩ ?_
   exact Q9 hi0 hk0
  simp only [push_cast,seval,↓reduceIte,Zc,Tryz.results179,hi0,hk0,hN0,hN]
 replace h:=Zm c9 h
 obtain ⟨pu6,h⟩:=bG h
 have su6:=fun j=>Zqh (T:=Xy) (j:=j) Zjs Zci pu6
 obtain ⟨y7,hy7,h⟩:=bC h
 have g8:=Zqf (f:=(eI .u64)) a0.words y7 a1 (fun _=>rfl) pu6.2.1 pu6.2.2
 have mg8:=Nat.mul_one (List.length y7)
 refine Zhw Zs (by kernel_rfl) [false,false,false,false,false,false,false,false,true] [] (by kernel_rfl) ?_
 simp only [push_cast,seval,↓reduceIte,Zc,pu6.1,pu6.2.1,pu6.2.2,su6,g8,mg8,hi0,hk0,hN0,hN]
 refine PCall.of (Z0t hy7) ?_
 simp only [push_cast,seval,↓reduceIte,Zc,pu6.1,pu6.2.1,pu6.2.2,su6,g8,mg8,hi0,hk0,hN0,hN]
 have h:=Option.some.inj h;subst h
 refine Vv (k:=1) (i:=i0) (q1:=⟨false,140,2,1,[.row n (Zr2 a0.words a1 y7).length,(vI a0.next)]⟩) (L3:=[some (oR 77 1 (eI .u64) (Zr2 a0.words a1 y7)),none]) (E2:=(⟨47,[],[]⟩:Env)) (n3:=(n+2)) (.inl rfl) hU rfl [] ?_ ?_
 ·refine Fit2.trans (E':=(⟨47,[],[]⟩:Env)) (O':=(Zw ((O.upd j0_0 none).upd i0 (some ⟨false,140,2,1,[.row n (Zr2 a0.words a1 y7).length,(vI a0.next)]⟩)) n [some (oR 77 1 (eI .u64) (Zr2 a0.words a1 y7)),none])) (n':=(n+2)) (Fit2.of (Ys hU rfl rfl ?_) (by omega)) ?_
  ·simp only [push_cast,seval,↓reduceIte,Zc,pu6.1,pu6.2.1,pu6.2.2,su6,g8,mg8,hi0,hk0,hN0,hN]
  refine Jk (k:=2) (k':=2) hU [0,1] [0,0] rfl rfl rfl rfl ⟨rfl,rfl⟩ ?_
  exact Q9 hi0 hk0
 simp only [push_cast,seval,↓reduceIte,Zc,Tryz.results179,hi0,hk0,hN0,hN]
theorem Zoo {Ym:(Zi→Int→Za→Option Zi)} {Yj:(Zi→Int→Za→Option Zi)} {Z9:(Zi→Int→(List Za)→Option Zi)} {Yk:(Zi→Int→Za→Option Zi)} (Zbh:V1 Ym) (Gd:Ks Yj) (Jg:J6 Z9) (Ge:Kt Yk) {a0:Zi} {a1:Int} {a2:(List Za)} {r:Zi} {O:Objs} {n:Nat} {i0 j0_0:Nat} (hi0:i0 < n) (Ze0:j0_0 < n) (Zas:i0≠j0_0) (ho0:O i0=some ⟨false,140,2,1,[.row j0_0 a0.words.length,(vI a0.next)]⟩) (Zdc:O j0_0=some (oR 77 1 (eI .u64) a0.words)) (h:Vt Ym Yj Z9 Yk a0 a1 a2=some r):GTo Tryz.prog 242 [.ref i0 0,(vI a1),(sL Zb a2)] O n (.tup []) (Zw ((O.upd j0_0 none).upd i0 (some ⟨false,140,2,1,[.row n r.words.length,(vI r.next)]⟩)) n [some (oR 77 1 (eI .u64) r.words)]) (n+1):=by
 unfold Vt at h
 refine Yf Zs Tryz.call242 Tryz.func242 rfl (Nat.le_of_ble_eq_true rfl) (by omega) fun hU => ?_
 have e0:=Zy4 (ba:=n) (E:=⟨22,[],Zxf 0 [.ref i0 0,.val (.int .i64 a1),.sl a2.length (fl Zb a2)]⟩) (O:=(Zw O n [])) (n:=n) (i:=i0) (j:=j0_0) (k:=0) (len:=a0.words.length) (q:=⟨false,140,2,1,[.row j0_0 a0.words.length,.val (.int .i64 a0.next)]⟩) (qj:=⟨true,77,1,a0.words.length,fl (eI .u64) a0.words⟩) (by rw [J0 _ hi0];first | exact ho0 | exact Xw _ _ _) rfl (by rw [J0 _ Ze0];exact Zdc) Zas (by omega)
 simp only [Zbq _ _ Ze0,Zbq _ _ hi0,Jj,Ql,Zgp,Z8p Zas,List.set_cons_zero,List.set_cons_succ,List.cons_append,List.nil_append,List.length_cons,List.length_nil,Nat.zero_add,Nat.reduceAdd,Nat.add_assoc] at e0
 refine Zdn e0 ?_
 have hU:=(Und.drop hU j0_0)
 have hk0:∀ k,i0 < n+k:=fun k=>by omega
 have hN0:∀ o,Objs.upd (O.upd j0_0 none) i0 o n=none:=fun o=>V9 hU hi0 _ (Nat.le_refl _)
 have hN:∀ o k,Objs.upd (O.upd j0_0 none) i0 o (n+k)=none:=fun o k=>V9 hU hi0 _ (Nat.le_add_right _ _)
 show W _ _ _ _ ⟨22,[],[(0,.ref i0 0),(1,(vI a1)),(2,(sL Zb a2))]⟩ (Zw ((O.upd j0_0 none).upd i0 (some ⟨false,140,2,1,[.row n a0.words.length,(vI a0.next)]⟩)) n [some (oR 77 1 (eI .u64) a0.words)]) _
 refine Zcl [0,1,8,9,10] hi0 hk0 ?_
 refine zD [0,1,8,9,10] [true] ?_
 refine Zdn (E':=(⟨22,[],[(0,.ref i0 0),(1,(vI a1)),(8,(sL Zb a2)),(9,(vI (a2.length:Int))),(10,(vI 0))]⟩:Env)) (O':=(Zw ((O.upd j0_0 none).upd i0 (some ⟨false,140,2,1,[.row (n+1) a0.words.length,(vI a0.next)]⟩)) n [none,some (oR 77 1 (eI .u64) a0.words)])) (n':=(n+2)) ?_ ?_
 ·refine Fit2.trans (E':=(⟨22,[],[(0,.ref i0 0),(1,(vI a1)),(8,(sL Zb a2)),(9,(vI (a2.length:Int))),(10,(vI 0))]⟩:Env)) (O':=(Zw ((O.upd j0_0 none).upd i0 (some ⟨false,140,2,1,[.row n a0.words.length,(vI a0.next)]⟩)) n [some (oR 77 1 (eI .u64) a0.words)])) (n':=(n+1)) (Fit2.of (Ys hU rfl rfl ?_) (by omega)) ?_
  ·exact Q9 hi0 hk0
  refine Jk (k:=1) (k':=2) hU [1] [0,0] rfl rfl rfl rfl ⟨rfl,rfl⟩ ?_
  exact Q9 hi0 hk0
 obtain ⟨z5,hz5,h⟩:=bC h
 refine Yi (E':=⟨22,[],[]⟩) (O':=(Zw ((O.upd j0_0 none).upd i0 (some ⟨false,140,2,1,[.row (n+1) z5.1.length,(vI z5.2)]⟩)) n [none,some (oR 77 1 (eI .u64) z5.1)])) (n0:=(n+2)) ?_ ?_
 ·refine Y2 hz5 (fun s0_=>⟨22,[],[(0,.ref i0 0),(1,(vI a1)),(8,(sL Zb a2)),(9,(vI (a2.length:Int))),(10,(vI s0_.1))]⟩) (fun s0_=>(Zw ((O.upd j0_0 none).upd i0 (some ⟨false,140,2,1,[.row (n+1) s0_.2.1.length,(vI s0_.2.2)]⟩)) n [none,some (oR 77 1 (eI .u64) s0_.2.1)])) (fun z5=>JX 0 n (⟨22,[],[]⟩:Env) (Zw ((O.upd j0_0 none).upd i0 (some ⟨false,140,2,1,[.row (n+1) z5.1.length,(vI z5.2)]⟩)) n [none,some (oR 77 1 (eI .u64) z5.1)]) (n+2)) ?_
  intro s0_ x0_ hs0_
  unfold Zg2 at hs0_
  try dsimp only
  refine Zcl [0,1,8,9,10,11] hi0 hk0 ?_
  refine Zd ?_
  refine Zo (t:=(decide (s0_.1 < (a2.length:Int)))) rfl (fun c4 => ?_) (fun c4 => ?_)
  ·replace hs0_:=Zn c4 hs0_
   refine X9 [0,1,8,9,10] [false,true] ?_
   refine Zd ?_
   refine Z8 ?_
   refine Zd ?_
   obtain ⟨x2,hx2,ax2,bx2,cx2,hs0_⟩:=bE (f:=Zb) G7 (fun _=>rfl) (by decide) hs0_
   refine Ya9 [] ax2 bx2 cx2 hi0 hk0 ?_
   refine zD [0,1,6,7,8,9,10] [false,true,true] ?_
   obtain ⟨y3,hy3,hs0_⟩:=bC hs0_
   refine X2 [] hi0 hk0 ?_
   refine (Zbh (i0:=i0) (j0_0:=(n+1)) (by omega) (by omega) (by omega) (by simp only [push_cast,seval,↓reduceIte,Zc,U1,hi0,hk0,hN0,hN] <;> rfl) (by simp only [push_cast,seval,↓reduceIte,Zc,U1,hi0,hk0,hN0,hN] <;> rfl) hy3).then ?_
   refine zX2 hi0 hk0 ?_
   refine zD [0,1,8,9,10] [false,false,false,true] ?_
   refine X2 [] hi0 hk0 ?_
   have hs0_:=Option.some.inj hs0_;subst hs0_
   refine And.intro rfl ?_
   refine Fit2.trans (E':=(⟨22,[],[(0,.ref i0 0),(1,(vI a1)),(8,(sL Zb a2)),(9,(vI (a2.length:Int))),(10,(vI (IntKind.i64.wrap (s0_.1+1))))]⟩:Env)) (O':=(Zw ((O.upd j0_0 none).upd i0 (some ⟨false,140,2,1,[.row (n+3) y3.words.length,(vI y3.next)]⟩)) n [none,none,none,some (oR 77 1 (eI .u64) y3.words)])) (n':=(n+4)) (Fit2.of (Ys hU rfl rfl ?_) (by omega)) ?_
   ·exact Q9 hi0 hk0
   refine Jk (k:=4) (k':=2) hU [0,0,0,1] [0,3] rfl rfl rfl rfl ⟨rfl,rfl⟩ ?_
   exact Q9 hi0 hk0
  replace hs0_:=Zm c4 hs0_
  refine zXt ?_
  have hs0_:=Option.some.inj hs0_;subst hs0_
  refine And.intro (fun h=>by cases h) (And.intro rfl (Fit2.of (Ys hU rfl rfl ?_) (by omega)))
  exact Q9 hi0 hk0
 try simp only [Yx,Ya,↓reduceIte,Nat.reduceEqDiff]
 have h:=Option.some.inj h;subst h
 refine Vv (k:=1) (i:=i0) (q1:=⟨false,140,2,1,[.row n z5.1.length,(vI z5.2)]⟩) (L3:=[some (oR 77 1 (eI .u64) z5.1),none]) (E2:=(⟨22,[],[]⟩:Env)) (n3:=(n+2)) (.inl rfl) hU rfl [] ?_ ?_
 ·refine Fit2.trans (E':=(⟨22,[],[]⟩:Env)) (O':=(Zw ((O.upd j0_0 none).upd i0 (some ⟨false,140,2,1,[.row (n+1) z5.1.length,(vI z5.2)]⟩)) n [none,some (oR 77 1 (eI .u64) z5.1)])) (n':=(n+2)) (Fit2.of (Ys hU rfl rfl ?_) (by omega)) ?_
  ·exact Q9 hi0 hk0
  refine Jk (k:=2) (k':=2) hU [1,0] [1,0] rfl rfl rfl rfl ⟨rfl,rfl⟩ ?_
  exact Q9 hi0 hk0
 simp only [push_cast,seval,↓reduceIte,Zc,Tryz.results242,hi0,hk0,hN0,hN]
theorem Zpi {Ym:(Zi→Int→Za→Option Zi)} {Yj:(Zi→Int→Za→Option Zi)} {Z9:(Zi→Int→(List Za)→Option Zi)} {Yk:(Zi→Int→Za→Option Zi)} (Zbh:V1 Ym) (Gd:Ks Yj) (Jg:J6 Z9) (Ge:Kt Yk) {a0:Zi} {a1:Int} {a2:Za} {r:Zi} {O:Objs} {n:Nat} {i0 j0_0:Nat} (hi0:i0 < n) (Ze0:j0_0 < n) (Zas:i0≠j0_0) (ho0:O i0=some ⟨false,140,2,1,[.row j0_0 a0.words.length,(vI a0.next)]⟩) (Zdc:O j0_0=some (oR 77 1 (eI .u64) a0.words)) (h:Zfn Ym Yj Z9 Yk a0 a1 a2=some r):GTo Tryz.prog 243 [.ref i0 0,(vI a1),.agg (Ze a2)] O n (.tup []) (Zw ((O.upd j0_0 none).upd i0 (some ⟨false,140,2,1,[.row n r.words.length,(vI r.next)]⟩)) n [some (oR 77 1 (eI .u64) r.words)]) (n+1):=by
 unfold Zfn at h
 refine Yf Zs Tryz.call243 Tryz.func243 rfl (Nat.le_of_ble_eq_true rfl) (by omega) fun hU => ?_
 have e0:=Zy4 (ba:=n) (E:=⟨85,[],Zxf 0 [.ref i0 0,.val (.int .i64 a1),.agg [.val (.int .i64 a2.Kind),.sl a2.Words.length (fl (eI .u64) a2.Words),.sl a2.Kids.length (fl Zb a2.Kids)]]⟩) (O:=(Zw O n [])) (n:=n) (i:=i0) (j:=j0_0) (k:=0) (len:=a0.words.length) (q:=⟨false,140,2,1,[.row j0_0 a0.words.length,.val (.int .i64 a0.next)]⟩) (qj:=⟨true,77,1,a0.words.length,fl (eI .u64) a0.words⟩) (by rw [J0 _ hi0];first | exact ho0 | exact Xw _ _ _) rfl (by rw [J0 _ Ze0];exact Zdc) Zas (by omega)
 simp only [Zbq _ _ Ze0,Zbq _ _ hi0,Jj,Ql,Zgp,Z8p Zas,List.set_cons_zero,List.set_cons_succ,List.cons_append,List.nil_append,List.length_cons,List.length_nil,Nat.zero_add,Nat.reduceAdd,Nat.add_assoc] at e0
 refine Zdn e0 ?_
 have hU:=(Und.drop hU j0_0)
 have hk0:∀ k,i0 < n+k:=fun k=>by omega
 have hN0:∀ o,Objs.upd (O.upd j0_0 none) i0 o n=none:=fun o=>V9 hU hi0 _ (Nat.le_refl _)
 have hN:∀ o k,Objs.upd (O.upd j0_0 none) i0 o (n+k)=none:=fun o k=>V9 hU hi0 _ (Nat.le_add_right _ _)
 show W _ _ _ _ ⟨85,[],[(0,.ref i0 0),(1,(vI a1)),(2,.agg (Ze a2))]⟩ (Zw ((O.upd j0_0 none).upd i0 (some ⟨false,140,2,1,[.row n a0.words.length,(vI a0.next)]⟩)) n [some (oR 77 1 (eI .u64) a0.words)]) _
 refine Zcl [0,1,5] hi0 hk0 ?_
 refine Zd ?_
 obtain ⟨y2,hy2,h⟩:=bC h
 refine X2 [] hi0 hk0 ?_
 refine (Zol hy2).then ?_
 refine zX2 hi0 hk0 ?_
 refine zD [0,1,5,6,7] [true,true] ?_
 obtain ⟨z3,hz3,h⟩:=bC h
 refine Y0 (E':=⟨85,[],[(0,.ref i0 0),(1,(vI a1)),(5,.ref (n+1) 0),(6,(vI y2.1)),(7,(vI y2.2))]⟩) (O':=(Zw ((O.upd j0_0 none).upd i0 (some ⟨false,140,2,1,[.row n z3.length,(vI a0.next)]⟩)) n [some (oR 77 1 (eI .u64) z3),some ⟨false,25,3,1,(Ze a2)⟩])) (n0:=(n+2)) ?_ ?_
 ·refine Zcl [0,1,5,6,7,20] hi0 hk0 ?_
  refine Zo (t:=(decide (0 < (a2.Kids.length:Int)))) rfl (fun c7 => ?_) (fun c7 => ?_)
  ·replace hz3:=Zn c7 hz3
   obtain ⟨y4,hy4,hz3⟩:=bC hz3
   obtain ⟨x5,hx5,ax5,bx5,cx5,hz3⟩:=bE (f:=(eI .u64)) Zci (fun _=>rfl) (by decide) hz3
   have gu6:Zar (fl (eI .u64) a0.words) [.val (.int .u64 y4.1)] (Int.toNat a1 * 1)=some (fl (eI .u64) (Zlv a0.words a1 y4.1)):=Zj3 (f:=(eI .u64)) (ti:=⟨.bool,1,0,[],false⟩) (x:=y4.1) (fun _=>rfl) (Zf3 hx5)
   refine Zhw Zs (by kernel_rfl) [false,false,false,false,false,false,false,false,false,false,false,false,false,false,false,false,true] [] (by kernel_rfl) ?_
   refine zF6 ax5 bx5 cx5 gu6 hi0 hk0 ?_
   refine PCall.of (Zvx hy4) ?_
   refine zF6 ax5 bx5 cx5 gu6 hi0 hk0 ?_
   have hz3:=Option.some.inj hz3;subst hz3
   refine And.intro rfl (Fit2.of (Ys hU rfl rfl ?_) (by omega))
   exact Yiy ax5 bx5 cx5 gu6 hi0 hk0
  replace hz3:=Zm c7 hz3
  refine zK ?_
  have hz3:=Option.some.inj hz3;subst hz3
  refine And.intro rfl (Fit2.of (Ys hU rfl rfl ?_) (by omega))
  exact Q9 hi0 hk0
 refine Zcl [0,1,5,6,7] hi0 hk0 ?_
 refine Zd ?_
 refine Zcl [0,1,5,6,7,40,41,42] hi0 hk0 ?_
 refine zD [0,1,5,6,7,40,41,42] [true,true] ?_
 obtain ⟨z13,hz13,h⟩:=bC h
 refine Yi (E':=⟨85,[],[(0,.ref i0 0),(1,(vI (IntKind.i64.wrap (a1+1)))),(5,.ref (n+1) 0),(6,(vI y2.1)),(7,(vI y2.2))]⟩) (O':=(Zw ((O.upd j0_0 none).upd i0 (some ⟨false,140,2,1,[.row n z13.length,(vI a0.next)]⟩)) n [some (oR 77 1 (eI .u64) z13),some ⟨false,25,3,1,(Ze a2)⟩])) (n0:=(n+2)) ?_ ?_
 ·refine Y2 hz13 (fun s0_=>⟨85,[],[(0,.ref i0 0),(1,(vI (IntKind.i64.wrap (a1+1)))),(5,.ref (n+1) 0),(6,(vI y2.1)),(7,(vI y2.2)),(40,(sL Zb a2.Kids)),(41,(vI (a2.Kids.length:Int))),(42,(vI s0_.1))]⟩) (fun s0_=>(Zw ((O.upd j0_0 none).upd i0 (some ⟨false,140,2,1,[.row n s0_.2.length,(vI a0.next)]⟩)) n [some (oR 77 1 (eI .u64) s0_.2),some ⟨false,25,3,1,(Ze a2)⟩])) (fun z13=>JX 0 n (⟨85,[],[(0,.ref i0 0),(1,(vI (IntKind.i64.wrap (a1+1)))),(5,.ref (n+1) 0),(6,(vI y2.1)),(7,(vI y2.2))]⟩:Env) (Zw ((O.upd j0_0 none).upd i0 (some ⟨false,140,2,1,[.row n z13.length,(vI a0.next)]⟩)) n [some (oR 77 1 (eI .u64) z13),some ⟨false,25,3,1,(Ze a2)⟩]) (n+2)) ?_
  intro s0_ x0_ hs0_
  unfold Zhd at hs0_
  try dsimp only
  refine Zcl [0,1,5,6,7,40,41,42,43] hi0 hk0 ?_
  refine Zd ?_
  refine Zo (t:=(decide (s0_.1 < (a2.Kids.length:Int)))) rfl (fun c12 => ?_) (fun c12 => ?_)
  ·replace hs0_:=Zn c12 hs0_
   refine X9 [0,1,5,6,7,40,41,42] [true,true] ?_
   refine Zd ?_
   refine Z8 ?_
   refine Zd ?_
   obtain ⟨x9,hx9,ax9,bx9,cx9,hs0_⟩:=bE (f:=Zb) G7 (fun _=>rfl) (by decide) hs0_
   refine Ya9 [] ax9 bx9 cx9 hi0 hk0 ?_
   refine zD [0,1,5,6,7,8,9,40,41,42] [true,true,true] ?_
   obtain ⟨pu10,hs0_⟩:=bG hs0_
   have su10:=fun j=>Zqh (T:=Xy) (j:=j) Zjs Zci pu10
   have g11:=Zqf (f:=(eI .u64)) s0_.2 x9.Words (IntKind.i64.wrap ((IntKind.i64.wrap (a1+1))+(IntKind.i64.wrap (s0_.1 * (IntKind.i64.wrap (y2.1+y2.2)))))) (fun _=>rfl) pu10.2.1 pu10.2.2
   have mg11:=Nat.mul_one (List.length x9.Words)
   refine Zhw Zs (by kernel_rfl) [false,false,false,false,false,false,false,false,false,false,false,false,false,false,true] [] (by kernel_rfl) ?_
   simp only [push_cast,seval,↓reduceIte,Zc,pu10.1,pu10.2.1,pu10.2.2,su10,g11,mg11,hi0,hk0,hN0,hN]
   refine zD [0,1,5,6,7,40,41,42] [true,true,false] ?_
   refine X2 [] hi0 hk0 ?_
   have hs0_:=Option.some.inj hs0_;subst hs0_
   refine And.intro rfl (Fit2.of (Ys hU rfl rfl ?_) (by omega))
   exact Q9 hi0 hk0
  replace hs0_:=Zm c12 hs0_
  refine zXt ?_
  have hs0_:=Option.some.inj hs0_;subst hs0_
  refine And.intro (fun h=>by cases h) (And.intro rfl (Fit2.of (Ys hU rfl rfl ?_) (by omega)))
  exact Q9 hi0 hk0
 try simp only [Yx,Ya,↓reduceIte,Nat.reduceEqDiff]
 refine zD [0,1,5,6,7] [true,true] ?_
 refine Zcl [0,1,6,7,64,65,66] hi0 hk0 ?_
 refine zD [0,1,6,7,64,65,66] [true,false] ?_
 refine Zdn (E':=(⟨85,[],[(0,.ref i0 0),(1,(vI (IntKind.i64.wrap (a1+1)))),(6,(vI y2.1)),(7,(vI y2.2)),(64,(sL Zb a2.Kids)),(65,(vI (a2.Kids.length:Int))),(66,(vI 0))]⟩:Env)) (O':=(Zw ((O.upd j0_0 none).upd i0 (some ⟨false,140,2,1,[.row (n+2) z13.length,(vI a0.next)]⟩)) n [none,none,some (oR 77 1 (eI .u64) z13)])) (n':=(n+3)) ?_ ?_
 ·refine Fit2.trans (E':=(⟨85,[],[(0,.ref i0 0),(1,(vI (IntKind.i64.wrap (a1+1)))),(6,(vI y2.1)),(7,(vI y2.2)),(64,(sL Zb a2.Kids)),(65,(vI (a2.Kids.length:Int))),(66,(vI 0))]⟩:Env)) (O':=(Zw ((O.upd j0_0 none).upd i0 (some ⟨false,140,2,1,[.row n z13.length,(vI a0.next)]⟩)) n [some (oR 77 1 (eI .u64) z13),none])) (n':=(n+2)) (Fit2.of (Ys hU rfl rfl ?_) (by omega)) ?_
  ·exact Q9 hi0 hk0
  refine Jk (k:=2) (k':=3) hU [2,1] [0,0,0] rfl rfl rfl rfl ⟨rfl,rfl⟩ ?_
  exact Q9 hi0 hk0
 obtain ⟨z18,hz18,h⟩:=bC h
 refine Yi (E':=⟨85,[],[]⟩) (O':=(Zw ((O.upd j0_0 none).upd i0 (some ⟨false,140,2,1,[.row (n+2) z18.1.length,(vI z18.2)]⟩)) n [none,none,some (oR 77 1 (eI .u64) z18.1)])) (n0:=(n+3)) ?_ ?_
 ·refine Y2 hz18 (fun s1_=>⟨85,[],[(0,.ref i0 0),(1,(vI (IntKind.i64.wrap (a1+1)))),(6,(vI y2.1)),(7,(vI y2.2)),(64,(sL Zb a2.Kids)),(65,(vI (a2.Kids.length:Int))),(66,(vI s1_.1))]⟩) (fun s1_=>(Zw ((O.upd j0_0 none).upd i0 (some ⟨false,140,2,1,[.row (n+2) s1_.2.1.length,(vI s1_.2.2)]⟩)) n [none,none,some (oR 77 1 (eI .u64) s1_.2.1)])) (fun z18=>JX 2 n (⟨85,[],[]⟩:Env) (Zw ((O.upd j0_0 none).upd i0 (some ⟨false,140,2,1,[.row (n+2) z18.1.length,(vI z18.2)]⟩)) n [none,none,some (oR 77 1 (eI .u64) z18.1)]) (n+3)) ?_
  intro s1_ x1_ hs1_
  unfold Zhe at hs1_
  try dsimp only
  refine Zcl [0,1,6,7,64,65,66,67] hi0 hk0 ?_
  refine Zd ?_
  refine Zo (t:=(decide (s1_.1 < (a2.Kids.length:Int)))) rfl (fun c17 => ?_) (fun c17 => ?_)
  ·replace hs1_:=Zn c17 hs1_
   refine X9 [0,1,6,7,64,65,66] [false,false,true] ?_
   refine Zd ?_
   refine Z8 ?_
   refine Zd ?_
   obtain ⟨x15,hx15,ax15,bx15,cx15,hs1_⟩:=bE (f:=Zb) G7 (fun _=>rfl) (by decide) hs1_
   refine Ya9 [] ax15 bx15 cx15 hi0 hk0 ?_
   refine zD [0,1,6,7,10,11,64,65,66] [false,false,true,true] ?_
   obtain ⟨y16,hy16,hs1_⟩:=bC hs1_
   refine X2 [] hi0 hk0 ?_
   refine (Jg (i0:=i0) (j0_0:=(n+2)) (by omega) (by omega) (by omega) (by simp only [push_cast,seval,↓reduceIte,Zc,U1,hi0,hk0,hN0,hN] <;> rfl) (by simp only [push_cast,seval,↓reduceIte,Zc,U1,hi0,hk0,hN0,hN] <;> rfl) hy16).then ?_
   refine zX2 hi0 hk0 ?_
   refine zD [0,1,6,7,64,65,66] [false,false,false,false,true] ?_
   refine X2 [] hi0 hk0 ?_
   have hs1_:=Option.some.inj hs1_;subst hs1_
   refine And.intro rfl ?_
   refine Fit2.trans (E':=(⟨85,[],[(0,.ref i0 0),(1,(vI (IntKind.i64.wrap (a1+1)))),(6,(vI y2.1)),(7,(vI y2.2)),(64,(sL Zb a2.Kids)),(65,(vI (a2.Kids.length:Int))),(66,(vI (IntKind.i64.wrap (s1_.1+1))))]⟩:Env)) (O':=(Zw ((O.upd j0_0 none).upd i0 (some ⟨false,140,2,1,[.row (n+4) y16.words.length,(vI y16.next)]⟩)) n [none,none,none,none,some (oR 77 1 (eI .u64) y16.words)])) (n':=(n+5)) (Fit2.of (Ys hU rfl rfl ?_) (by omega)) ?_
   ·exact Q9 hi0 hk0
   refine Jk (k:=5) (k':=3) hU [1,1,1,1,2] [0,0,4] rfl rfl rfl rfl ⟨rfl,rfl⟩ ?_
   exact Q9 hi0 hk0
  replace hs1_:=Zm c17 hs1_
  refine zXt ?_
  have hs1_:=Option.some.inj hs1_;subst hs1_
  refine And.intro (fun h=>by cases h) (And.intro rfl (Fit2.of (Ys hU rfl rfl ?_) (by omega)))
  exact Q9 hi0 hk0
 try simp only [Yx,Ya,↓reduceIte,Nat.reduceEqDiff]
 have h:=Option.some.inj h;subst h
 refine Vv (k:=1) (i:=i0) (q1:=⟨false,140,2,1,[.row n z18.1.length,(vI z18.2)]⟩) (L3:=[some (oR 77 1 (eI .u64) z18.1),none]) (E2:=(⟨85,[],[]⟩:Env)) (n3:=(n+2)) (.inl rfl) hU rfl [] ?_ ?_
 ·refine Fit2.trans (E':=(⟨85,[],[]⟩:Env)) (O':=(Zw ((O.upd j0_0 none).upd i0 (some ⟨false,140,2,1,[.row (n+2) z18.1.length,(vI z18.2)]⟩)) n [none,none,some (oR 77 1 (eI .u64) z18.1)])) (n':=(n+3)) (Fit2.of (Ys hU rfl rfl ?_) (by omega)) ?_
  ·exact Q9 hi0 hk0
  refine Jk (k:=3) (k':=2) hU [1,1,0] [2,0] rfl rfl rfl rfl ⟨rfl,rfl⟩ ?_
  exact Q9 hi0 hk0
 simp only [push_cast,seval,↓reduceIte,Zc,Tryz.results243,hi0,hk0,hN0,hN]
theorem Zpa:∀ k,(V1 ((Z3 k).1))∧(Ks ((Z3 k).2.1))∧(J6 ((Z3 k).2.2.1))∧(Kt ((Z3 k).2.2.2)):=fun k=>by
 induction k with
 | zero=>exact ⟨@fun a0 a1 a2 r O n i0 j0_0 hi0 Ze0 Zas ho0 Zdc h=>(nomatch (show (none:Option _)=some _ from h)),@fun a0 a1 a2 r O n i0 j0_0 hi0 Ze0 Zas ho0 Zdc h=>(nomatch (show (none:Option _)=some _ from h)),@fun a0 a1 a2 r O n i0 j0_0 hi0 Ze0 Zas ho0 Zdc h=>(nomatch (show (none:Option _)=some _ from h)),@fun a0 a1 a2 r O n i0 j0_0 hi0 Ze0 Zas ho0 Zdc h=>(nomatch (show (none:Option _)=some _ from h))⟩
 | succ k ih=>exact ⟨@fun a0 a1 a2 r O n i0 j0_0 hi0 Ze0 Zas ho0 Zdc h=>Zrr (ih.1) (ih.2.1) (ih.2.2.1) (ih.2.2.2) hi0 Ze0 Zas ho0 Zdc h,@fun a0 a1 a2 r O n i0 j0_0 hi0 Ze0 Zas ho0 Zdc h=>Zph (ih.1) (ih.2.1) (ih.2.2.1) (ih.2.2.2) hi0 Ze0 Zas ho0 Zdc h,@fun a0 a1 a2 r O n i0 j0_0 hi0 Ze0 Zas ho0 Zdc h=>Zoo (ih.1) (ih.2.1) (ih.2.2.1) (ih.2.2.2) hi0 Ze0 Zas ho0 Zdc h,@fun a0 a1 a2 r O n i0 j0_0 hi0 Ze0 Zas ho0 Zdc h=>Zpi (ih.1) (ih.2.1) (ih.2.2.1) (ih.2.2.2) hi0 Ze0 Zas ho0 Zdc h⟩
theorem Zsj {a0:Zi} {a1:Int} {a2:Za} {r:Zi} {O:Objs} {n:Nat} {i0 j0_0:Nat} (hi0:i0 < n) (Ze0:j0_0 < n) (Zas:i0≠j0_0) (ho0:O i0=some ⟨false,140,2,1,[.row j0_0 a0.words.length,(vI a0.next)]⟩) (Zdc:O j0_0=some (oR 77 1 (eI .u64) a0.words)) (h:Zdh a0 a1 a2=some r):GTo Tryz.prog 116 [.ref i0 0,(vI a1),.agg (Ze a2)] O n (.tup []) (Zw ((O.upd j0_0 none).upd i0 (some ⟨false,140,2,1,[.row n r.words.length,(vI r.next)]⟩)) n [some (oR 77 1 (eI .u64) r.words)]) (n+1):=by
 obtain ⟨k,hk⟩:=Vx h
 exact (Zpa k).1 hi0 Ze0 Zas ho0 Zdc hk
theorem Zra {a0:Za} {a1:Int} {r:((List Int)×Bool)} {O:Objs} {n:Nat} (h:Gq a0 a1=some r):GTo Tryz.prog 72 [.agg (Ze a0),(vI a1)] O n (.tup [(sL (eI .u64) r.1),(vB r.2)]) O n:=by
 unfold Gq at h
 refine Yf Zs Tryz.call72 Tryz.func72 rfl (Nat.le_of_ble_eq_true rfl) (Nat.le_refl _) fun hU => ?_
 have hN0:O n=none:=hU.fresh _ (Nat.le_refl _)
 have hN:∀ k,O (n+k)=none:=fun k=>hU.fresh _ (Nat.le_add_right _ _)
 show W _ _ _ _ ⟨35,[],[(0,.agg (Ze a0)),(1,(vI a1))]⟩ (Zw O n []) _
 refine zQ [1,2] ?_
 refine Zd ?_
 obtain ⟨z2,hz2,h⟩:=bC h
 refine Y0 (E':=⟨35,[],[(1,(vI a1)),(2,.ref n 0),(15,(vB z2))]⟩) (O':=(Zw O n [some ⟨false,25,3,1,(Ze a0)⟩])) (n0:=(n+1)) ?_ ?_
 ·rcases Bool.eq_false_or_eq_true (a0.Kind == 10) with c5 | c5
  ·replace hz2:=Zn c5 hz2
   refine Q7 [some false,some false,some false] c5 ?_
   exact Qk hz2 c5
  replace hz2:=Zm c5 hz2
  obtain ⟨y4,hy4,hz2⟩:=bC hz2
  refine Q7 [some true,some true,some true] c5 ?_
  refine (Zom hy4).then ?_
  refine zX1 c5 ?_
  exact Qk hz2 c5
 refine Zo (t:=z2) rfl (fun Vq => ?_) (fun Vq => ?_)
 ·replace h:=Zn Vq h
  refine zQ [4,5] ?_
  refine zW ?_
  have h:=Option.some.inj h;subst h
  refine Zh (.inr rfl) hU [nV,(vB false)] (by omega) ?_
  simp only [push_cast,seval,↓reduceIte,Zc,Tryz.results72,hN0,hN]
 replace h:=Zm Vq h
 refine X9 [1,2] [true] ?_
 refine Zd ?_
 obtain ⟨y7,hy7,h⟩:=bC h
 refine zCd (Zqt hy7) [1,2] [true] ?_
 refine Zd ?_
 obtain ⟨y9,hy9,h⟩:=bC h
 refine zCd (Z76 hy9) [1,2,6] [true] ?_
 refine Zd ?_
 refine zQD [2,6,27] [none,none] ?_
 refine Zo (t:=(cond (decide (a1 < (IntKind.i64.wrap (1+y9)))) true (decide (131072 < (IntKind.i64.wrap (1+y9)))))) rfl (fun Qs => ?_) (fun Qs => ?_)
 ·replace h:=Zn Qs h
  refine zQ [4,5] ?_
  refine zW ?_
  have h:=Option.some.inj h;subst h
  refine Zh (.inr rfl) hU [nV,(vB false)] (by omega) ?_
  simp only [push_cast,seval,↓reduceIte,Zc,Tryz.results72,hN0,hN]
 replace h:=Zm Qs h
 refine X9 [2,6] [true] ?_
 refine Zd ?_
 obtain ⟨l11,al11,bl11,cl11,el11,h⟩:=bM2 (c:=8) rfl h
 have nl11:Int.toNat (IntKind.i64.wrap (1+y9))=List.length l11:=by rw [el11,List.length_replicate]
 have fl11:(List.replicate (List.length l11) [.val (.int .u64 0)]).flatten=fl (eI .u64) l11:=by rw [← nl11,el11];exact (Zwz (f:=(eI .u64)) _ _).symm
 clear el11
 refine Yu Zs [] ?_
 simp only [push_cast,seval,↓reduceIte,Zc,al11,bl11,cl11,fl11,nl11,hN0,hN]
 refine Vp ⟨35,[],[(2,.ref n 0),(7,.ref (n+2) 0)]⟩ (Zw O n [some ⟨false,25,3,1,(Ze y7)⟩,some (oR 77 1 (eI .u64) l11),some ⟨false,140,2,1,[.row (n+1) l11.length,(vI 1)]⟩]) (Z6 hU rfl rfl ?_) ?_
 ·simp only [push_cast,seval,↓reduceIte,Zc,al11,bl11,cl11,fl11,nl11,hN0,hN]
 refine Zd ?_
 obtain ⟨y13,hy13,h⟩:=bC h
 refine zR ?_
 refine (Zsj (i0:=(n+2)) (j0_0:=(n+1)) (by omega) (by omega) (by omega) (by simp only [push_cast,seval,↓reduceIte,Zc,U1,hN0,hN] <;> rfl) (by simp only [push_cast,seval,↓reduceIte,Zc,U1,hN0,hN] <;> rfl) hy13).then ?_
 refine zS ?_
 refine zD [7] [false,false,true,true] ?_
 refine zQ [4,5] ?_
 refine zW ?_
 have h:=Option.some.inj h;subst h
 refine Zh (.inr rfl) hU [.row (n+3) y13.words.length,(vB true)] (by omega) ?_
 simp only [push_cast,seval,↓reduceIte,Zc,Tryz.results72,hN0,hN]
theorem Zec {a0 r:List Int} {O:Objs} {n:Nat} (h:Qm a0=some r):GTo Tryz.prog 185 [(sL (eI .u64) a0)] O n (.row n r.length) (Zw O n [some (oR 77 1 (eI .u64) r)]) (n+1):=by
 have h1:=Ybf h
 have h2:=Ybg h
 have h3:=Z7g h
 rw [List.nil_append] at h3
 subst h3
 simp only [List.length_nil,Nat.zero_add] at h1 h2
 clear h
 refine Yf Zs Tryz.call185 Tryz.func185 rfl (Nat.le_of_ble_eq_true rfl) (by omega) fun hU => ?_
 have hN0:O n=none:=hU.fresh _ (Nat.le_refl _)
 have hN:∀ k,O (n+k)=none:=fun k=>hU.fresh _ (Nat.le_add_right _ _)
 show W _ _ _ _ ⟨8,[],[(0,(sL (eI .u64) r))]⟩ (Zw O n []) _
 refine zQ [0] ?_
 refine Yh3 0 r.length (fl (eI .u64) r) rfl (Nat.le_of_ble_eq_true rfl) (Yo Kr _) fun A c hA => ?_
 refine zQ [0,4] ?_
 cases A with
 | none =>
  obtain rfl:r=[]:=List.eq_nil_of_length_eq_zero (hA rfl)
  refine Zo (t:=true) rfl (fun _ => ?_) (fun hc=>by cases hc)
  refine zQ [2] ?_
  refine zW ?_
  refine Yej (k:=1) (L3:=[some ⟨true,77,1,0,[]⟩]) (E2:=⟨8,[],[(2,.row n 0),(2,nV)]⟩) (n3:=(n+1)) (.inr rfl) hU rfl [.row n 0] ?_ ?_
  ·have ha:=Zcm (ba:=n) (E:=⟨8,[],[(2,.val (.slice none 0 0))]⟩) (O:=(Zw O n [])) (n:=n) 2 77 1 rfl (by omega)
   simp only [Ql] at ha
   exact ha
  simp only [push_cast,seval,↓reduceIte,Zc,Tryz.results185,hN0,hN]
 | some A =>
  refine Zo (t:=false) rfl (fun hc=>by cases hc) (fun _ => ?_)
  refine zK ?_
  refine And.intro rfl (And.intro (Nat.le_of_ble_eq_true rfl) ?_)
  refine Zd ?_
  refine Yu Zs [] ?_
  simp only [push_cast,seval,↓reduceIte,Zc,h1,h2,hN0,hN]
  refine zW ?_
  refine Yei (.inr rfl) hU rfl [.row n r.length] (by omega) ?_
  simp only [push_cast,seval,↓reduceIte,Zc,Tryz.results185,hN0,hN]
theorem Zj7 {a0 r:List Int} {O:Objs} {n:Nat} (h:Qm a0=some r):GTo Tryz.prog 185 [(sL (eI .u64) a0)] O n ((sL (eI .u64) r)) O n:=by
 refine GTo.freeze (Zec h) fun hU => ?_
 have hN0:O n=none:=hU.fresh _ (Nat.le_refl _)
 have hN:∀ k,O (n+k)=none:=fun k=>hU.fresh _ (Nat.le_add_right _ _)
 exact zSe
theorem Z22 {a0:(List (List Int))} {r:(List (List Int))} {O:Objs} {n:Nat} (h:Zhm a0=some r):GTo Tryz.prog 119 [(sL (eL (eI .u64)) a0)] O n ((sL (eL (eI .u64)) r)) O n:=by
 unfold Zhm at h
 refine Yf Zs Tryz.call119 Tryz.func119 rfl (Nat.le_of_ble_eq_true rfl) (Nat.le_refl _) fun hU => ?_
 have hN0:O n=none:=hU.fresh _ (Nat.le_refl _)
 have hN:∀ k,O (n+k)=none:=fun k=>hU.fresh _ (Nat.le_add_right _ _)
 show W _ _ _ _ ⟨23,[],[(0,(sL (eL (eI .u64)) a0))]⟩ (Zw O n []) _
 refine zQ [0] ?_
 refine Zd ?_
 obtain ⟨l2,al2,bl2,cl2,el2,h⟩:=bM2 (c:=24) rfl h
 have nl2:Int.toNat (a0.length:Int)=List.length l2:=by rw [el2,List.length_replicate]
 have fl2:∀ O O' n,wkl O O' n (List.replicate (List.length l2) [G.val (.slice none 0 0)]).flatten (fl (eL (eI .u64)) l2)=True:=fun O O' n=>by rw [← nl2,el2];exact eq_true (Ya7 _ _)
 clear el2
 refine Yu Zs [] ?_
 simp only [push_cast,seval,↓reduceIte,Zc,al2,bl2,cl2,fl2,nl2,hN0,hN]
 refine Vp ⟨23,[],[(0,(sL (eL (eI .u64)) a0)),(3,.row n l2.length)]⟩ (Zw O n [some (oR 22 1 (eL (eI .u64)) l2)]) (Z6 hU rfl rfl ?_) ?_
 ·simp only [push_cast,seval,↓reduceIte,Zc,al2,bl2,cl2,fl2,nl2,hN0,hN]
 refine Zd ?_
 refine zQd [3,9,10,11] [3,9,10,11] [true] ?_
 obtain ⟨z9,hz9,h⟩:=bC h
 refine Yi (E':=⟨23,[],[(3,.row n z9.length)]⟩) (O':=(Zw O n [some (oR 22 1 (eL (eI .u64)) z9)])) (n0:=(n+1)) ?_ ?_
 ·refine Y2 hz9 (fun s0_=>⟨23,[],[(3,.row n s0_.2.length),(9,(sL (eL (eI .u64)) a0)),(10,(vI (a0.length:Int))),(11,(vI s0_.1))]⟩) (fun s0_=>(Zw O n [some (oR 22 1 (eL (eI .u64)) s0_.2)])) (fun z9=>JX 0 n (⟨23,[],[(3,.row n z9.length)]⟩:Env) (Zw O n [some (oR 22 1 (eL (eI .u64)) z9)]) (n+1)) ?_
  intro s0_ x0_ hs0_
  unfold Zbn at hs0_
  try dsimp only
  refine zQ [3,9,10,11,12] ?_
  refine Zd ?_
  refine Zo (t:=(decide (s0_.1 < (a0.length:Int)))) rfl (fun c8 => ?_) (fun c8 => ?_)
  ·replace hs0_:=Zn c8 hs0_
   refine X9 [3,9,10,11] [true] ?_
   refine Zd ?_
   refine Z8 ?_
   obtain ⟨x4,hx4,ax4,bx4,cx4,hs0_⟩:=bE (f:=(eL (eI .u64))) Zv0 (fun _=>rfl) (by decide) hs0_
   refine Zis [3,4,5,9,10,11] (Yu Zs [] ?_)
   refine zF3 ax4 bx4 cx4 ?_
   obtain ⟨y5,hy5,hs0_⟩:=bC hs0_
   obtain ⟨x6,hx6,ax6,bx6,cx6,hs0_⟩:=bE (f:=(eL (eI .u64))) Zv0 (fun _=>rfl) (by decide) hs0_
   have gu7:Zar (fl (eL (eI .u64)) s0_.2) [.sl y5.length (fl (eI .u64) y5)] (Int.toNat s0_.1 * 1)=some (fl (eL (eI .u64)) (Zlv s0_.2 s0_.1 y5)):=Zj3 (f:=(eL (eI .u64))) (ti:=⟨.bool,1,0,[],false⟩) (x:=y5) (fun _=>rfl) (Zf3 hx6)
   refine Z1m [] ax6 bx6 cx6 gu7 ?_
   refine (Zj7 hy5).then ?_
   refine zF4 ax6 bx6 cx6 gu7 ?_
   refine zD [3,9,10,11] [true] ?_
   refine zR ?_
   exact zEn hs0_
  replace hs0_:=Zm c8 hs0_
  exact zEx hs0_
 try simp only [Yx,Ya,↓reduceIte,Nat.reduceEqDiff]
 refine zD [3] [true] ?_
 refine zQ [2] ?_
 refine zW ?_
 have h:=Option.some.inj h;subst h
 refine Zh (.inr rfl) hU [.row n z9.length] (by omega) ?_
 simp only [push_cast,seval,↓reduceIte,Zc,Tryz.results119,hN0,hN]
theorem Zn7 {a0:(List (List Int))} {r:(Option Z0)} {O:Objs} {n:Nat} (h:Zj5 a0=some r):GTo Tryz.prog 74 [(sL (eL (eI .u64)) a0)] O n ((gP Zv r)) O n:=by
 unfold Zj5 at h
 refine Yf Zs Tryz.call74 Tryz.func74 rfl (Nat.le_of_ble_eq_true rfl) (Nat.le_refl _) fun hU => ?_
 have hN0:O n=none:=hU.fresh _ (Nat.le_refl _)
 have hN:∀ k,O (n+k)=none:=fun k=>hU.fresh _ (Nat.le_add_right _ _)
 show W _ _ _ _ ⟨7,[],[(0,(sL (eL (eI .u64)) a0))]⟩ (Zw O n []) _
 refine zQ [0] ?_
 refine Zd ?_
 obtain ⟨y2,hy2,h⟩:=bC h
 refine zCd (Z22 hy2) [2] [true] ?_
 refine zW ?_
 have h:=Option.some.inj h;subst h
 refine Zh (.inr rfl) hU [.ref n 0] (by omega) ?_
 simp only [push_cast,seval,↓reduceIte,Zc,Tryz.results74,hN0,hN]
theorem Zrd  {r:X4} {O:Objs} {n:Nat} (h:Zb5=some r):GTo Tryz.prog 75 [] O n (.agg (Xm r)) O n:=by
 unfold Zb5 at h
 refine Yf Zs Tryz.call75 Tryz.func75 rfl (Nat.le_of_ble_eq_true rfl) (Nat.le_refl _) fun hU => ?_
 have hN0:O n=none:=hU.fresh _ (Nat.le_refl _)
 have hN:∀ k,O (n+k)=none:=fun k=>hU.fresh _ (Nat.le_add_right _ _)
 show W _ _ _ _ ⟨2,[],[]⟩ (Zw O n []) _
 refine zQ [0] ?_
 refine Zd ?_
 refine zRd [0] [true] ?_
 refine zW ?_
 have h:=Option.some.inj h;subst h
 refine Zh (.inr rfl) hU [.agg [(vI 64),(vI 65536),(vI 0),(vI 0)]] (by omega) ?_
 simp only [push_cast,seval,↓reduceIte,Zc,Tryz.results75,hN0,hN]
theorem Zgz {a0:Int} {a1:Int} {r:Int} {O:Objs} {n:Nat} (h:Zco a0 a1=some r):GTo Tryz.prog 180 [(vI a0),(vI a1)] O n ((vI r)) O n:=by
 unfold Zco at h
 refine Yf Zs Tryz.call180 Tryz.func180 rfl (Nat.le_of_ble_eq_true rfl) (Nat.le_refl _) fun hU => ?_
 have hN0:O n=none:=hU.fresh _ (Nat.le_refl _)
 have hN:∀ k,O (n+k)=none:=fun k=>hU.fresh _ (Nat.le_add_right _ _)
 show W _ _ _ _ ⟨9,[],[(0,(vI a0)),(1,(vI a1))]⟩ (Zw O n []) _
 refine zQ [0,1] ?_
 refine zQ [4] ?_
 refine zW ?_
 have h:=Option.some.inj h;subst h
 refine Zh (.inr rfl) hU [(vI (if a1 < (if a0 < 0 then 0 else a0) then a1 else (if a0 < 0 then 0 else a0)))] (by omega) ?_
 simp only [push_cast,seval,↓reduceIte,Zc,Tryz.results180,hN0,hN]
theorem Z1w {a0:X4} {r:X4} {O:Objs} {n:Nat} (h:Zji a0=some r):GTo Tryz.prog 117 [.agg (Xm a0)] O n (.agg (Xm r)) O n:=by
 unfold Zji at h
 refine Yf Zs Tryz.call117 Tryz.func117 rfl (Nat.le_of_ble_eq_true rfl) (Nat.le_refl _) fun hU => ?_
 have hN0:O n=none:=hU.fresh _ (Nat.le_refl _)
 have hN:∀ k,O (n+k)=none:=fun k=>hU.fresh _ (Nat.le_add_right _ _)
 show W _ _ _ _ ⟨16,[],[(0,.agg (Xm a0))]⟩ (Zw O n []) _
 refine zQ [1,2] ?_
 refine Zd ?_
 obtain ⟨y5,hy5,h⟩:=bC h
 obtain ⟨y6,hy6,h⟩:=bC h
 obtain ⟨y7,hy7,h⟩:=bC h
 obtain ⟨y8,hy8,h⟩:=bC h
 refine Zhw Zs (by kernel_rfl) [false,false,false,false,false,false,false,false,false,false,false,false,false,true] [] (by kernel_rfl) ?_
 refine zS ?_
 refine PCall.of (Zgz hy5) ?_
 refine zS ?_
 refine PCall.of (Zgz hy6) ?_
 refine zS ?_
 refine PCall.of (Zgz hy7) ?_
 refine zS ?_
 refine PCall.of (Zgz hy8) ?_
 refine zS ?_
 refine zD [2] [false,true] ?_
 refine zW ?_
 have h:=Option.some.inj h;subst h
 refine Zh (.inr rfl) hU [.agg [(vI y5),(vI y6),(vI y7),(vI y8)]] (by omega) ?_
 simp only [push_cast,seval,↓reduceIte,Zc,Tryz.results117,hN0,hN]
theorem Zwb {a0:(Option Z0)} {r:Int} {O:Objs} {n:Nat} (h:Zi9 a0=some r):GTo Tryz.prog 340 [(gP Zv a0)] O n ((vI r)) O n:=by
 unfold Zi9 at h
 refine Yf Zs Tryz.call340 Tryz.func340 rfl (Nat.le_of_ble_eq_true rfl) (Nat.le_refl _) fun hU => ?_
 have hN0:O n=none:=hU.fresh _ (Nat.le_refl _)
 have hN:∀ k,O (n+k)=none:=fun k=>hU.fresh _ (Nat.le_add_right _ _)
 show W _ _ _ _ ⟨10,[],[(0,(gP Zv a0))]⟩ (Zw O n []) _
 refine zQ [0] ?_
 refine Zd ?_
 have g2:=Z87 (f:=Zv) (t:=60) Zvi a0
 refine Ym0 [0,4] g2 ?_
 refine Zo (t:=(Option.isNone a0)) rfl (fun c5 => ?_) (fun c5 => ?_)
 ·replace h:=Zn c5 h
  refine zQ [2] ?_
  refine zW ?_
  have h:=Option.some.inj h;subst h
  refine Zh (.inr rfl) hU [(vI 0)] (by omega) ?_
  simp only [push_cast,seval,↓reduceIte,Zc,Tryz.results340,hN0,hN]
 replace h:=Zm c5 h
 refine X9 [0] [] ?_
 obtain ⟨x4,hx4,h⟩:=bC h
 refine Zis [2] (Yu Zs [] ?_)
 simp only [push_cast,seval,↓reduceIte,Zc,hx4,hN0,hN]
 refine zW ?_
 have h:=Option.some.inj h;subst h
 refine Zh (.inr rfl) hU [(vI (x4.segments.length:Int))] (by omega) ?_
 simp only [push_cast,seval,↓reduceIte,Zc,Tryz.results340,hN0,hN]
theorem Vg {a0:(Option Z0)} {a1:Int} {r:Bool} {O:Objs} {n:Nat} (h:Zdg a0 a1=some r):GTo Tryz.prog 320 [(gP Zv a0),(vI a1)] O n ((vB r)) O n:=by
 unfold Zdg at h
 refine Yf Zs Tryz.call320 Tryz.func320 rfl (Nat.le_of_ble_eq_true rfl) (Nat.le_refl _) fun hU => ?_
 have hN0:O n=none:=hU.fresh _ (Nat.le_refl _)
 have hN:∀ k,O (n+k)=none:=fun k=>hU.fresh _ (Nat.le_add_right _ _)
 show W _ _ _ _ ⟨13,[],[(0,(gP Zv a0)),(1,(vI a1))]⟩ (Zw O n []) _
 refine zQ [0,1] ?_
 obtain ⟨z2,hz2,h⟩:=bC h
 refine Y0 (E':=⟨13,[],[(4,(vB z2))]⟩) (O':=(Zw O n [])) (n0:=n) ?_ ?_
 ·rcases Bool.eq_false_or_eq_true (decide (0≤a1)) with c5 | c5
  ·replace hz2:=Zn c5 hz2
   obtain ⟨y4,hy4,hz2⟩:=bC hz2
   refine Q7 [some true,some true,some true,some true] c5 ?_
   refine (Zwb hy4).then ?_
   refine zX1 c5 ?_
   exact Qk hz2 c5
  replace hz2:=Zm c5 hz2
  refine Q7 [some false,some false,some false,some false] c5 ?_
  exact Qk hz2 c5
 refine zW ?_
 have h:=Option.some.inj h;subst h
 refine Zh (.inr rfl) hU [(vB z2)] (by omega) ?_
 simp only [push_cast,seval,↓reduceIte,Zc,Tryz.results320,hN0,hN]
theorem Zg8 {a0:(Option Z0)} {a1:Int} {r:Int} {O:Objs} {n:Nat} (h:Zej a0 a1=some r):GTo Tryz.prog 321 [(gP Zv a0),(vI a1)] O n ((vI r)) O n:=by
 unfold Zej at h
 refine Yf Zs Tryz.call321 Tryz.func321 rfl (Nat.le_of_ble_eq_true rfl) (Nat.le_refl _) fun hU => ?_
 have hN0:O n=none:=hU.fresh _ (Nat.le_refl _)
 have hN:∀ k,O (n+k)=none:=fun k=>hU.fresh _ (Nat.le_add_right _ _)
 show W _ _ _ _ ⟨17,[],[(0,(gP Zv a0)),(1,(vI a1))]⟩ (Zw O n []) _
 refine zQ [0,1] ?_
 refine Zd ?_
 refine Zd ?_
 obtain ⟨y2,hy2,h⟩:=bC h
 refine zCd (Vg hy2) [0,1,8] [] ?_
 refine Zo (t:=(!y2)) rfl (fun c7 => ?_) (fun c7 => ?_)
 ·replace h:=Zn c7 h
  refine zQ [4] ?_
  refine zW ?_
  have h:=Option.some.inj h;subst h
  refine Zh (.inr rfl) hU [(vI 0)] (by omega) ?_
  simp only [push_cast,seval,↓reduceIte,Zc,Tryz.results321,hN0,hN]
 replace h:=Zm c7 h
 refine X9 [0,1] [] ?_
 obtain ⟨x5,hx5,h⟩:=bC h
 obtain ⟨x6,hx6,ax6,bx6,cx6,h⟩:=bE (f:=(eL (eI .u64))) Zv0 (fun _=>rfl) (by decide) h
 refine Zis [4] (Yu Zs [] ?_)
 refine zF4 hx5 ax6 bx6 cx6 ?_
 refine zW ?_
 have h:=Option.some.inj h;subst h
 refine Zh (.inr rfl) hU [(vI (x6.length:Int))] (by omega) ?_
 simp only [push_cast,seval,↓reduceIte,Zc,Tryz.results321,hN0,hN]
theorem Zid {a0:(Option Z0)} {a1:Int} {a2:Int} {a3:Int} {r:Bool} {O:Objs} {n:Nat} (h:Zcw a0 a1 a2 a3=some r):GTo Tryz.prog 299 [(gP Zv a0),(vI a1),(vI a2),(vI a3)] O n ((vB r)) O n:=by
 unfold Zcw at h
 refine Yf Zs Tryz.call299 Tryz.func299 rfl (Nat.le_of_ble_eq_true rfl) (Nat.le_refl _) fun hU => ?_
 have hN0:O n=none:=hU.fresh _ (Nat.le_refl _)
 have hN:∀ k,O (n+k)=none:=fun k=>hU.fresh _ (Nat.le_add_right _ _)
 show W _ _ _ _ ⟨36,[],[(0,(gP Zv a0)),(1,(vI a1)),(2,(vI a2)),(3,(vI a3))]⟩ (Zw O n []) _
 refine zQ [0,1,2,3] ?_
 obtain ⟨z4,hz4,h⟩:=bC h
 refine Y0 (E':=⟨36,[],[(8,(vB z4))]⟩) (O':=(Zw O n [])) (n0:=n) ?_ ?_
 ·obtain ⟨y8,hy8,hz4⟩:=bC hz4
  rcases Bool.eq_false_or_eq_true y8 with c11 | c11
  ·replace hz4:=Zn c11 hz4
   rcases Bool.eq_false_or_eq_true (decide (0≤a2)) with c12 | c12
   ·replace hz4:=Zn c12 hz4
    try rw [c12] at c11
    rcases Bool.eq_false_or_eq_true (decide (0≤a3)) with Vu | Vu
    ·replace hz4:=Zn Vu hz4
     try rw [Vu] at c11
     try rw [Vu] at c12
     obtain ⟨y9,hy9,hz4⟩:=bC hz4
     rcases Bool.eq_false_or_eq_true (decide (a3≤y9)) with Qs | Qs
     ·replace hz4:=Zn Qs hz4
      try rw [Qs] at c11
      try rw [Qs] at c12
      try rw [Qs] at Vu
      obtain ⟨y10,hy10,hz4⟩:=bC hz4
      refine Zp9 [none,none,none,none,some true,some true,some true,some true,some true,some true,some true,some true,some true,some true,some true,some true] c11 c12 Vu Qs ?_
      refine zG ?_
      refine (Vg hy8).then ?_
      refine zX4 c11 c12 Vu Qs ?_
      refine zG ?_
      refine (Zg8 hy9).then ?_
      refine zX4 c11 c12 Vu Qs ?_
      refine zG ?_
      refine (Zg8 hy10).then ?_
      refine zX4 c11 c12 Vu Qs ?_
      refine zG ?_
      exact Zu3 hz4 c11 c12 Vu Qs
     replace hz4:=Zm Qs hz4
     try rw [Qs] at c11
     try rw [Qs] at c12
     try rw [Qs] at Vu
     refine Zp9 [none,none,none,none,some true,some true,some true,some true,some true,some false,some false,some false,some false,some false,some false,some false] c11 c12 Vu Qs ?_
     refine zG ?_
     refine (Vg hy8).then ?_
     refine zX4 c11 c12 Vu Qs ?_
     refine zG ?_
     refine (Zg8 hy9).then ?_
     refine zX4 c11 c12 Vu Qs ?_
     refine zG ?_
     exact Zu3 hz4 c11 c12 Vu Qs
    replace hz4:=Zm Vu hz4
    try rw [Vu] at c11
    try rw [Vu] at c12
    refine Zap [none,none,none,none,some false,some false,some false,some false,some false,some false,some false,some false,some false,some false,some false,some false] c11 c12 Vu ?_
    refine zG ?_
    refine (Vg hy8).then ?_
    refine zX3 c11 c12 Vu ?_
    refine zG ?_
    exact Zfh hz4 c11 c12 Vu
   replace hz4:=Zm c12 hz4
   try rw [c12] at c11
   refine X2 [none,none,none,none,some false,some false,some false,some false,some false,some false,some false,some false,some false,some false,some false,some false] c11 c12 ?_
   refine zG ?_
   refine (Vg hy8).then ?_
   refine zX2 c11 c12 ?_
   refine zG ?_
   exact Zcj hz4 c11 c12
  replace hz4:=Zm c11 hz4
  refine Q7 [none,none,none,none,some false,some false,some false,some false,some false,some false,some false,some false,some false,some false,some false,some false] c11 ?_
  refine zG ?_
  refine (Vg hy8).then ?_
  refine zX1 c11 ?_
  refine zG ?_
  exact Qk hz4 c11
 refine zW ?_
 have h:=Option.some.inj h;subst h
 refine Zh (.inr rfl) hU [(vB z4)] (by omega) ?_
 simp only [push_cast,seval,↓reduceIte,Zc,Tryz.results299,hN0,hN]
theorem Zca {a0:(Option Z0)} {a1:Int} {a2:Int} {r:(Int×Bool)} {O:Objs} {n:Nat} (h:Vy a0 a1 a2=some r):GTo Tryz.prog 258 [(gP Zv a0),(vI a1),(vI a2)] O n (.tup [.val (.int .u64 r.1),(vB r.2)]) O n:=by
 unfold Vy at h
 refine Yf Zs Tryz.call258 Tryz.func258 rfl (Nat.le_of_ble_eq_true rfl) (Nat.le_refl _) fun hU => ?_
 have hN0:O n=none:=hU.fresh _ (Nat.le_refl _)
 have hN:∀ k,O (n+k)=none:=fun k=>hU.fresh _ (Nat.le_add_right _ _)
 show W _ _ _ _ ⟨23,[],[(0,(gP Zv a0)),(1,(vI a1)),(2,(vI a2))]⟩ (Zw O n []) _
 refine zQ [0,1,2] ?_
 refine Zd ?_
 refine Zd ?_
 obtain ⟨y2,hy2,h⟩:=bC h
 refine zCd (Zid hy2) [0,1,2,12] [] ?_
 refine Zo (t:=(!y2)) rfl (fun c9 => ?_) (fun c9 => ?_)
 ·replace h:=Zn c9 h
  refine zQ [6,7] ?_
  refine zW ?_
  have h:=Option.some.inj h;subst h
  refine Zh (.inr rfl) hU [.val (.int .u64 0),(vB false)] (by omega) ?_
  simp only [push_cast,seval,↓reduceIte,Zc,Tryz.results258,hN0,hN]
 replace h:=Zm c9 h
 refine X9 [0,1,2] [] ?_
 obtain ⟨x6,hx6,h⟩:=bC h
 obtain ⟨x7,hx7,ax7,bx7,cx7,h⟩:=bE (f:=(eL (eI .u64))) Zv0 (fun _=>rfl) (by decide) h
 obtain ⟨x8,hx8,ax8,bx8,cx8,h⟩:=bE (f:=(eI .u64)) Zci (fun _=>rfl) (by decide) h
 refine Zis [6,7] (Yu Zs [] ?_)
 refine zF7 hx6 ax7 bx7 cx7 ax8 bx8 cx8 ?_
 refine zW ?_
 have h:=Option.some.inj h;subst h
 refine Zh (.inr rfl) hU [.val (.int .u64 x8),(vB true)] (by omega) ?_
 simp only [push_cast,seval,↓reduceIte,Zc,Tryz.results258,hN0,hN]
theorem Zvj {a0:(Option Z0)} {a1:Int} {a2:Int} {a3:Int} {r:((List Int)×Bool)} {O:Objs} {n:Nat} (h:Zh5 a0 a1 a2 a3=some r):GTo Tryz.prog 302 [(gP Zv a0),(vI a1),(vI a2),(vI a3)] O n (.tup [(sL (eI .u64) r.1),(vB r.2)]) O n:=by
 unfold Zh5 at h
 refine Yf Zs Tryz.call302 Tryz.func302 rfl (Nat.le_of_ble_eq_true rfl) (Nat.le_refl _) fun hU => ?_
 have hN0:O n=none:=hU.fresh _ (Nat.le_refl _)
 have hN:∀ k,O (n+k)=none:=fun k=>hU.fresh _ (Nat.le_add_right _ _)
 show W _ _ _ _ ⟨29,[],[(0,(gP Zv a0)),(1,(vI a1)),(2,(vI a2)),(3,(vI a3))]⟩ (Zw O n []) _
 refine zQ [0,1,2,3] ?_
 refine Zd ?_
 refine Zd ?_
 obtain ⟨y2,hy2,h⟩:=bC h
 refine zCd (Zid hy2) [0,1,2,3,15] [] ?_
 refine Zo (t:=(!y2)) rfl (fun c11 => ?_) (fun c11 => ?_)
 ·replace h:=Zn c11 h
  refine zQ [8,9] ?_
  refine zW ?_
  have h:=Option.some.inj h;subst h
  refine Zh (.inr rfl) hU [nV,(vB false)] (by omega) ?_
  simp only [push_cast,seval,↓reduceIte,Zc,Tryz.results302,hN0,hN]
 replace h:=Zm c11 h
 refine X9 [0,1,2,3] [] ?_
 refine Zd ?_
 obtain ⟨x7,hx7,h⟩:=bC h
 obtain ⟨x8,hx8,ax8,bx8,cx8,h⟩:=bE (f:=(eL (eI .u64))) Zv0 (fun _=>rfl) (by decide) h
 obtain ⟨l9,al9,bl9,cl9,gl9,h⟩:=bS (lo:=(some (.i64,a2))) (hi:=(some (.i64,(IntKind.i64.wrap (a2+a3))))) (f:=(eI .u64)) rfl rfl Zjs Zci (fun _=>rfl) h
 obtain ⟨y10,hy10,h⟩:=bC h
 refine Ym2 [] hx7 ax8 bx8 cx8 al9 bl9 cl9 gl9 ?_
 refine (Zec  hy10).then ?_
 refine zF8 hx7 ax8 bx8 cx8 al9 bl9 cl9 gl9 ?_
 refine zD [8,9] [true] ?_
 refine zW ?_
 have h:=Option.some.inj h;subst h
 refine Zh (.inr rfl) hU [.row n y10.length,(vB true)] (by omega) ?_
 simp only [push_cast,seval,↓reduceIte,Zc,Tryz.results302,hN0,hN]
theorem Zoj {a0:(Option Z0)} {a1:Xo} {a2:Int} {a3:Int} {r:(Q0×Int)} {O:Objs} {n:Nat} (h:Zjb a0 a1 a2 a3=some r):GTo Tryz.prog 264 [(gP Zv a0),.agg (Qp a1),(vI a2),(vI a3)] O n (.tup [.agg (Kf r.1),(vI r.2)]) O n:=by
 unfold Zjb at h
 refine Yf Zs Tryz.call264 Tryz.func264 rfl (Nat.le_of_ble_eq_true rfl) (Nat.le_refl _) fun hU => ?_
 have hN0:O n=none:=hU.fresh _ (Nat.le_refl _)
 have hN:∀ k,O (n+k)=none:=fun k=>hU.fresh _ (Nat.le_add_right _ _)
 show W _ _ _ _ ⟨36,[],[(0,(gP Zv a0)),(1,.agg (Qp a1)),(2,(vI a2)),(3,(vI a3))]⟩ (Zw O n []) _
 refine zQ [0,2,3,5,8] ?_
 refine Zd ?_
 refine zQ [0,2,3,5,8,14] ?_
 refine Zo (t:=(a1.Kind == 4)) rfl (fun c7 => ?_) (fun c7 => ?_)
 ·replace h:=Zn c7 h
  refine Zd ?_
  refine zRd [8,9] [false,true] ?_
  refine zW ?_
  have h:=Option.some.inj h;subst h
  refine Zh (.inr rfl) hU [.agg [(vI 0),(vI 0),(vI 0),(vI 0),(vI 0),(vI 0),(vI 0),(vB false),(vI 0),(vI 0)],(vI 9)] (by omega) ?_
  simp only [push_cast,seval,↓reduceIte,Zc,Tryz.results264,hN0,hN]
 replace h:=Zm c7 h
 refine X9 [0,2,3,5,8] [true,true] ?_
 refine Zd ?_
 obtain ⟨y2,hy2,h⟩:=bC h
 refine zCd (Zpf hy2) [0,2,3,5,8,10,11] [true,true] ?_
 refine Zd ?_
 refine zQ [0,2,3,5,8,10,22] ?_
 refine Zo (t:=(!y2.2)) rfl (fun c6 => ?_) (fun c6 => ?_)
 ·replace h:=Zn c6 h
  refine Zd ?_
  refine zRd [8,9] [false,true] ?_
  refine zW ?_
  have h:=Option.some.inj h;subst h
  refine Zh (.inr rfl) hU [.agg [(vI 0),(vI 0),(vI 0),(vI 0),(vI 0),(vI 0),(vI 0),(vB false),(vI 0),(vI 0)],(vI 8)] (by omega) ?_
  simp only [push_cast,seval,↓reduceIte,Zc,Tryz.results264,hN0,hN]
 replace h:=Zm c6 h
 refine X9 [0,2,3,5,8,10] [true,true] ?_
 refine Zd ?_
 refine Zd ?_
 obtain ⟨y4,hy4,h⟩:=bC h
 refine zCd (Zid hy4) [2,3,5,8,29] [true,true] ?_
 refine Zo (t:=(!y4)) rfl (fun c5 => ?_) (fun c5 => ?_)
 ·replace h:=Zn c5 h
  refine Zd ?_
  refine zRd [8,9] [false,true] ?_
  refine zW ?_
  have h:=Option.some.inj h;subst h
  refine Zh (.inr rfl) hU [.agg [(vI 0),(vI 0),(vI 0),(vI 0),(vI 0),(vI 0),(vI 0),(vB false),(vI 0),(vI 0)],(vI 7)] (by omega) ?_
  simp only [push_cast,seval,↓reduceIte,Zc,Tryz.results264,hN0,hN]
 replace h:=Zm c5 h
 refine X9 [2,3,5,8] [true,true] ?_
 refine Zd ?_
 refine zRd [2,3,5,8] [true,true] ?_
 refine Zd ?_
 refine zRd [8,9] [false,true] ?_
 refine zW ?_
 have h:=Option.some.inj h;subst h
 refine Zh (.inr rfl) hU [.agg [(vI a1.Kind),(vI 0),(vI a1.Data),(vI a1.Ptrs),(vI a1.Code),(vI a1.Count),(vI a1.Segment),(vB a1.Double),(vI a2),(vI a3)],(vI 0)] (by omega) ?_
 simp only [push_cast,seval,↓reduceIte,Zc,Tryz.results264,hN0,hN]
theorem Z6e {a0:(Option Z0)} {a1:Int} {a2:Int} {r:(Q0×Int)} {O:Objs} {n:Nat} (h:Zqn a0 a1 a2=some r):GTo Tryz.prog 262 [(gP Zv a0),(vI a1),(vI a2)] O n (.tup [.agg (Kf r.1),(vI r.2)]) O n:=by
 unfold Zqn at h
 refine Yf Zs Tryz.call262 Tryz.func262 rfl (Nat.le_of_ble_eq_true rfl) (Nat.le_refl _) fun hU => ?_
 have hN0:O n=none:=hU.fresh _ (Nat.le_refl _)
 have hN:∀ k,O (n+k)=none:=fun k=>hU.fresh _ (Nat.le_add_right _ _)
 show W _ _ _ _ ⟨56,[],[(0,(gP Zv a0)),(1,(vI a1)),(2,(vI a2))]⟩ (Zw O n []) _
 refine zQ [0,1,2,6] ?_
 refine Zd ?_
 obtain ⟨y2,hy2,h⟩:=bC h
 refine zCd (Zvj hy2) [0,6,8,9] [true] ?_
 refine Zd ?_
 refine zQ [0,6,8,20] ?_
 refine Zo (t:=(!y2.2)) rfl (fun c11 => ?_) (fun c11 => ?_)
 ·replace h:=Zn c11 h
  refine Zd ?_
  refine zRd [6,7] [true] ?_
  refine zW ?_
  have h:=Option.some.inj h;subst h
  refine Zh (.inr rfl) hU [.agg [(vI 0),(vI 0),(vI 0),(vI 0),(vI 0),(vI 0),(vI 0),(vB false),(vI 0),(vI 0)],(vI 7)] (by omega) ?_
  simp only [push_cast,seval,↓reduceIte,Zc,Tryz.results262,hN0,hN]
 replace h:=Zm c11 h
 refine X9 [0,6,8] [true] ?_
 obtain ⟨x3,hx3,ax3,bx3,cx3,h⟩:=bE (f:=(eI .u64)) Zci (fun _=>rfl) (by decide) h
 obtain ⟨y4,hy4,h⟩:=bC h
 obtain ⟨x5,hx5,ax5,bx5,cx5,h⟩:=bE (f:=(eI .u64)) Zci (fun _=>rfl) (by decide) h
 obtain ⟨y6,hy6,h⟩:=bC h
 refine Y0 (E':=⟨56,[],[(0,(gP Zv a0)),(6,.ref n 0),(10,.ref (n+1) 0),(11,.ref (n+2) 0)]⟩) (O':=(Zw O n [some ⟨false,228,10,1,[(vI 0),(vI 0),(vI 0),(vI 0),(vI 0),(vI 0),(vI 0),(vB false),(vI 0),(vI 0)]⟩,some ⟨false,191,8,1,(Qp y4)⟩,some ⟨false,191,8,1,(Qp y6)⟩])) (n0:=(n+3)) ?_ ?_
 ·refine Yb6 Zs (by kernel_rfl) [.low,.low,.low,.low,.low,.low,.low,.low,.pass,.pass,.pass,.pass] (fun i=>i < (n+1)) 8 9 [0,1,2,3,4,5,6,7] [10,11] [.low,.low,.low,.low,.low,.low,.low,.low] [.pass,.pass,.pass,.pass] [.pass,.pass,.pass,.pass] [] (by kernel_rfl) rfl rfl rfl ?_
  refine zF6 ax3 bx3 cx3 ax5 bx5 cx5 ?_
  repeat (with_reducible refine And.intro (by omega) ?_)
  first | refine PCallA.of (fun _ _=>Zbk hy4) ?_ | refine PCall.of (Zbk hy4) ?_
  refine zF6 ax3 bx3 cx3 ax5 bx5 cx5 ?_
  repeat (with_reducible refine And.intro (by omega) ?_)
  first | refine PCallA.of (fun _ _=>Zbk hy6) ?_ | refine PCall.of (Zbk hy6) ?_
  refine zF6 ax3 bx3 cx3 ax5 bx5 cx5 ?_
  repeat (with_reducible refine And.intro (by omega) ?_)
  refine And.intro ?_ ?_
  ·refine zF6 ax3 bx3 cx3 ax5 bx5 cx5 ?_
   repeat (with_reducible refine And.intro (by first | exact Xb rfl | exact Yv) ?_)
   exact Yhx ax3 bx3 cx3 ax5 bx5 cx5
  refine zF6 ax3 bx3 cx3 ax5 bx5 cx5 ?_
  repeat (with_reducible refine And.intro (by first | exact Xb rfl | exact Yv) ?_)
  refine And.intro rfl ?_
  refine Fit2.trans (E':=(⟨56,[],[(0,(gP Zv a0)),(6,.ref n 0),(10,.ref (n+2) 0),(11,.ref (n+1) 0)]⟩:Env)) (O':=(Zw O n [some ⟨false,228,10,1,[(vI 0),(vI 0),(vI 0),(vI 0),(vI 0),(vI 0),(vI 0),(vB false),(vI 0),(vI 0)]⟩,some ⟨false,191,8,1,(Qp y6)⟩,some ⟨false,191,8,1,(Qp y4)⟩])) (n':=(n+3)) (Fit2.of (Z6 hU rfl rfl ?_) (by omega)) ?_
  ·exact Yiy ax3 bx3 cx3 ax5 bx5 cx5
  refine Kk (k:=3) (k':=3) hU [0,2,1] [0,2,1] rfl rfl rfl rfl ⟨rfl,rfl⟩ ?_
  exact zSe
 refine Zd ?_
 refine zQD [0,6,10,11,36] [none,none] ?_
 refine Zo (t:=(cond (y4.Kind != 3) true y4.Double)) rfl (fun c10 => ?_) (fun c10 => ?_)
 ·replace h:=Zn c10 h
  refine Zd ?_
  refine zRd [6,7] [true,false,false] ?_
  refine zW ?_
  have h:=Option.some.inj h;subst h
  refine Zh (.inr rfl) hU [.agg [(vI 0),(vI 0),(vI 0),(vI 0),(vI 0),(vI 0),(vI 0),(vB false),(vI 0),(vI 0)],(vI 8)] (by omega) ?_
  simp only [push_cast,seval,↓reduceIte,Zc,Tryz.results262,hN0,hN]
 replace h:=Zm c10 h
 refine X9 [0,6,10,11] [true,true,true] ?_
 refine Zd ?_
 refine zQD [0,6,10,11,45] [none,none,none] ?_
 refine Zo (t:=(cond (y6.Kind != 4) (y6.Off != 0) false)) rfl (fun c9 => ?_) (fun c9 => ?_)
 ·replace h:=Zn c9 h
  refine Zd ?_
  refine zRd [6,7] [true,false,false] ?_
  refine zW ?_
  have h:=Option.some.inj h;subst h
  refine Zh (.inr rfl) hU [.agg [(vI 0),(vI 0),(vI 0),(vI 0),(vI 0),(vI 0),(vI 0),(vB false),(vI 0),(vI 0)],(vI 8)] (by omega) ?_
  simp only [push_cast,seval,↓reduceIte,Zc,Tryz.results262,hN0,hN]
 replace h:=Zm c9 h
 refine X9 [0,6,10,11] [true,true,true] ?_
 refine Zd ?_
 obtain ⟨y8,hy8,h⟩:=bC h
 refine zCd (Zoj hy8) [6,7] [true,false,false] ?_
 refine zW ?_
 have h:=Option.some.inj h;subst h
 refine Zh (.inr rfl) hU [.agg (Kf y8.1),(vI y8.2)] (by omega) ?_
 simp only [push_cast,seval,↓reduceIte,Zc,Tryz.results262,hN0,hN]
theorem Z6f {a0:(Option Z0)} {a1:Int} {a2:Int} {r:(Q0×Int)} {O:Objs} {n:Nat} (h:Zqo a0 a1 a2=some r):GTo Tryz.prog 263 [(gP Zv a0),(vI a1),(vI a2)] O n (.tup [.agg (Kf r.1),(vI r.2)]) O n:=by
 unfold Zqo at h
 refine Yf Zs Tryz.call263 Tryz.func263 rfl (Nat.le_of_ble_eq_true rfl) (Nat.le_refl _) fun hU => ?_
 have hN0:O n=none:=hU.fresh _ (Nat.le_refl _)
 have hN:∀ k,O (n+k)=none:=fun k=>hU.fresh _ (Nat.le_add_right _ _)
 show W _ _ _ _ ⟨34,[],[(0,(gP Zv a0)),(1,(vI a1)),(2,(vI a2))]⟩ (Zw O n []) _
 refine zQ [0,1,2,6] ?_
 refine Zd ?_
 obtain ⟨y2,hy2,h⟩:=bC h
 refine zCd (Zca hy2) [0,1,2,6,8,9] [true] ?_
 refine Zd ?_
 refine zQ [0,1,2,6,8,19] ?_
 refine Zo (t:=(!y2.2)) rfl (fun c7 => ?_) (fun c7 => ?_)
 ·replace h:=Zn c7 h
  refine Zd ?_
  refine zRd [6,7] [true] ?_
  refine zW ?_
  have h:=Option.some.inj h;subst h
  refine Zh (.inr rfl) hU [.agg [(vI 0),(vI 0),(vI 0),(vI 0),(vI 0),(vI 0),(vI 0),(vB false),(vI 0),(vI 0)],(vI 7)] (by omega) ?_
  simp only [push_cast,seval,↓reduceIte,Zc,Tryz.results263,hN0,hN]
 replace h:=Zm c7 h
 refine X9 [0,1,2,6,8] [true] ?_
 refine Zd ?_
 obtain ⟨y4,hy4,h⟩:=bC h
 refine zCd (Zbk hy4) [0,1,2,6,10] [true,true] ?_
 refine Zd ?_
 obtain ⟨y6,hy6,h⟩:=bC h
 refine zCd (Zoj hy6) [6,7] [true,false] ?_
 refine zW ?_
 have h:=Option.some.inj h;subst h
 refine Zh (.inr rfl) hU [.agg (Kf y6.1),(vI y6.2)] (by omega) ?_
 simp only [push_cast,seval,↓reduceIte,Zc,Tryz.results263,hN0,hN]
theorem Z6d {a0:(Option Z0)} {a1:Int} {a2:Int} {r:(Q0×Int)} {O:Objs} {n:Nat} (h:Zqm a0 a1 a2=some r):GTo Tryz.prog 207 [(gP Zv a0),(vI a1),(vI a2)] O n (.tup [.agg (Kf r.1),(vI r.2)]) O n:=by
 unfold Zqm at h
 refine Yf Zs Tryz.call207 Tryz.func207 rfl (Nat.le_of_ble_eq_true rfl) (Nat.le_refl _) fun hU => ?_
 have hN0:O n=none:=hU.fresh _ (Nat.le_refl _)
 have hN:∀ k,O (n+k)=none:=fun k=>hU.fresh _ (Nat.le_add_right _ _)
 show W _ _ _ _ ⟨67,[],[(0,(gP Zv a0)),(1,(vI a1)),(2,(vI a2))]⟩ (Zw O n []) _
 refine zQ [0,1,2,6] ?_
 refine Zd ?_
 obtain ⟨y2,hy2,h⟩:=bC h
 refine zCd (Zca hy2) [0,1,2,6,8,9] [true] ?_
 refine Zd ?_
 refine zQ [0,1,2,6,8,19] ?_
 refine Zo (t:=(!y2.2)) rfl (fun Qs => ?_) (fun Qs => ?_)
 ·replace h:=Zn Qs h
  refine Zd ?_
  refine zRd [6,7] [true] ?_
  refine zW ?_
  have h:=Option.some.inj h;subst h
  refine Zh (.inr rfl) hU [.agg [(vI 0),(vI 0),(vI 0),(vI 0),(vI 0),(vI 0),(vI 0),(vB false),(vI 0),(vI 0)],(vI 7)] (by omega) ?_
  simp only [push_cast,seval,↓reduceIte,Zc,Tryz.results207,hN0,hN]
 replace h:=Zm Qs h
 refine X9 [0,1,2,6,8] [true] ?_
 refine Zd ?_
 obtain ⟨y4,hy4,h⟩:=bC h
 refine zCd (Zbk hy4) [0,1,2,6,10] [true,true] ?_
 refine Zd ?_
 refine Z8 ?_
 refine zQ [0,1,2,6,10,23] ?_
 refine Zo (t:=(y4.Kind == 0)) rfl (fun Vu => ?_) (fun Vu => ?_)
 ·replace h:=Zn Vu h
  refine Zd ?_
  refine zRd [6,7] [true,false] ?_
  refine zW ?_
  have h:=Option.some.inj h;subst h
  refine Zh (.inr rfl) hU [.agg [(vI 0),(vI 0),(vI 0),(vI 0),(vI 0),(vI 0),(vI 0),(vB false),(vI 0),(vI 0)],(vI 0)] (by omega) ?_
  simp only [push_cast,seval,↓reduceIte,Zc,Tryz.results207,hN0,hN]
 replace h:=Zm Vu h
 refine zQD [0,1,2,6,10,28] [none,none] ?_
 refine Zo (t:=(cond (y4.Kind == 3) y4.Double false)) rfl (fun c12 => ?_) (fun c12 => ?_)
 ·replace h:=Zn c12 h
  refine Zd ?_
  obtain ⟨y6,hy6,h⟩:=bC h
  refine zCd (Z6e hy6) [6,7] [true,false] ?_
  refine zW ?_
  have h:=Option.some.inj h;subst h
  refine Zh (.inr rfl) hU [.agg (Kf y6.1),(vI y6.2)] (by omega) ?_
  simp only [push_cast,seval,↓reduceIte,Zc,Tryz.results207,hN0,hN]
 replace h:=Zm c12 h
 refine zQ [0,1,2,6,10,44] ?_
 refine Zo (t:=(y4.Kind == 3)) rfl (fun c11 => ?_) (fun c11 => ?_)
 ·replace h:=Zn c11 h
  refine Zd ?_
  obtain ⟨y8,hy8,h⟩:=bC h
  refine zCd (Z6f hy8) [6,7] [true,false] ?_
  refine zW ?_
  have h:=Option.some.inj h;subst h
  refine Zh (.inr rfl) hU [.agg (Kf y8.1),(vI y8.2)] (by omega) ?_
  simp only [push_cast,seval,↓reduceIte,Zc,Tryz.results207,hN0,hN]
 replace h:=Zm c11 h
 refine X9 [0,1,2,6,10] [true,true] ?_
 refine Zd ?_
 obtain ⟨y10,hy10,h⟩:=bC h
 refine zCd (Zoj hy10) [6,7] [true,false] ?_
 refine zW ?_
 have h:=Option.some.inj h;subst h
 refine Zh (.inr rfl) hU [.agg (Kf y10.1),(vI y10.2)] (by omega) ?_
 simp only [push_cast,seval,↓reduceIte,Zc,Tryz.results207,hN0,hN]
theorem Zvo {a0:Zj} {r:(Zj×Int)} {O:Objs} {n:Nat} (h:Zib a0=some r):GTo Tryz.prog 208 [.agg (Zu a0)] O n (.tup [.agg (Zu r.1),(vI r.2)]) O n:=by
 unfold Zib at h
 refine Yf Zs Tryz.call208 Tryz.func208 rfl (Nat.le_of_ble_eq_true rfl) (Nat.le_refl _) fun hU => ?_
 have hN0:O n=none:=hU.fresh _ (Nat.le_refl _)
 have hN:∀ k,O (n+k)=none:=fun k=>hU.fresh _ (Nat.le_add_right _ _)
 show W _ _ _ _ ⟨56,[],[(0,.agg (Zu a0))]⟩ (Zw O n []) _
 refine zQ [1,2] ?_
 refine Zd ?_
 obtain ⟨y2,hy2,h⟩:=bC h
 refine zCd (Zca hy2) [1,2,4] [true,true] ?_
 refine Zd ?_
 obtain ⟨y4,hy4,h⟩:=bC h
 refine zCd (Zbk hy4) [1,2,6] [true,true,true] ?_
 refine Zd ?_
 refine zQD [1,2,6,44] [none,none,none,none,none,none,none,none,none,none,none,none,none,none,none,none,none] ?_
 refine Zo (t:=(cond (cond (cond (y4.Kind != 0) (y4.Kind != 1) false) true (decide (y4.Off < 0))) true (decide (a0.count < (IntKind.i64.wrap (y4.Off * (IntKind.i64.wrap (y4.Data+y4.Ptrs)))))))) rfl (fun c5 => ?_) (fun c5 => ?_)
 ·replace h:=Zn c5 h
  refine Zd ?_
  refine zRd [2,3] [false,true,false] ?_
  refine zW ?_
  have h:=Option.some.inj h;subst h
  refine Zh (.inr rfl) hU [.agg [.val (.pointer none),(vI 0),(vI 0),(vI 0),(vI 0),(vI 0),(vI 0),(vI 0),(vI 0)],(vI 8)] (by omega) ?_
  simp only [push_cast,seval,↓reduceIte,Zc,Tryz.results208,hN0,hN]
 replace h:=Zm c5 h
 refine X9 [1,2,6] [true,true,true] ?_
 refine Zd ?_
 refine Znx Zs (by kernel_rfl) [.plain,.plain,.low,.low,.low,.low,.plain,.pass,.plain,.pass,.plain,.bar] (fun i=>i≠n+0) [0,1,2,3,4,5,6,7,8,9,10,11] [.plain,.plain,.low,.low,.low,.low,.plain,.pass,.plain,.pass,.plain,.bar] [] (by kernel_rfl) rfl ?_
 refine zS ?_
 refine zO ?_
 refine zDs [1,2] [true,true,false] ?_
 refine zRd [2,3] [false,true,false] ?_
 refine zW ?_
 have h:=Option.some.inj h;subst h
 refine Zh (.inr rfl) hU [.agg [(gP Zv a0.a),(vI a0.kind),(vI a0.segment),(vI a0.at_),(vI y4.Data),(vI y4.Ptrs),(vI y4.Off),(vI a0.code),(vI a0.index)],(vI 0)] (by omega) ?_
 simp only [push_cast,seval,↓reduceIte,Zc,Tryz.results208,hN0,hN]
theorem Zqr {a0:(Option Z0)} {a1:Int} {a2:Int} {r:(Zj×Int)} {O:Objs} {n:Nat} (h:Zks a0 a1 a2=some r):GTo Tryz.prog 140 [(gP Zv a0),(vI a1),(vI a2)] O n (.tup [.agg (Zu r.1),(vI r.2)]) O n:=by
 unfold Zks at h
 refine Yf Zs Tryz.call140 Tryz.func140 rfl (Nat.le_of_ble_eq_true rfl) (Nat.le_refl _) fun hU => ?_
 have hN0:O n=none:=hU.fresh _ (Nat.le_refl _)
 have hN:∀ k,O (n+k)=none:=fun k=>hU.fresh _ (Nat.le_add_right _ _)
 show W _ _ _ _ ⟨66,[],[(0,(gP Zv a0)),(1,(vI a1)),(2,(vI a2))]⟩ (Zw O n []) _
 refine zQ [0,1,2,6] ?_
 refine Zd ?_
 obtain ⟨y2,hy2,h⟩:=bC h
 refine zCd (Z6d hy2) [0,6,8,9] [true,true] ?_
 refine Zd ?_
 refine zQD [0,6,8,9,25] [none,none,none,none] ?_
 refine Zo (t:=(cond (y2.2 != 0) true (y2.1.P.Kind == 0))) rfl (fun c7 => ?_) (fun c7 => ?_)
 ·replace h:=Zn c7 h
  refine Zd ?_
  refine zRd [6,7] [true,false] ?_
  refine zW ?_
  have h:=Option.some.inj h;subst h
  refine Zh (.inr rfl) hU [.agg [.val (.pointer none),(vI 0),(vI 0),(vI 0),(vI 0),(vI 0),(vI 0),(vI 0),(vI 0)],(vI y2.2)] (by omega) ?_
  simp only [push_cast,seval,↓reduceIte,Zc,Tryz.results140,hN0,hN]
 replace h:=Zm c7 h
 refine X9 [0,6,8] [true,true] ?_
 refine Zd ?_
 refine zRd [6,8,10] [true,true,true] ?_
 refine Zd ?_
 refine zQ [6,8,10,37] ?_
 refine Zo (t:=(y2.1.P.Kind == 1)) rfl (fun c6 => ?_) (fun c6 => ?_)
 ·replace h:=Zn c6 h
  refine Zd ?_
  refine Znx Zs (by kernel_rfl) [.low,.low,.low,.low,.low,.low,.plain,.pass,.plain,.pass,.plain,.bar] (fun i=>i≠n+2) [0,1,2,3,4,5,6,7,8,9,10,11] [.low,.low,.low,.low,.low,.low,.plain,.pass,.plain,.pass,.plain,.bar] [] (by kernel_rfl) rfl ?_
  refine zS ?_
  refine zO ?_
  refine zDs [6,10] [true,false,true] ?_
  refine zRd [6,7] [true,false,false] ?_
  refine zW ?_
  have h:=Option.some.inj h;subst h
  refine Zh (.inr rfl) hU [.agg [(gP Zv a0),(vI 1),(vI y2.1.Segment),(vI y2.1.At),(vI y2.1.P.Data),(vI y2.1.P.Ptrs),(vI 0),(vI 0),(vI 0)],(vI 0)] (by omega) ?_
  simp only [push_cast,seval,↓reduceIte,Zc,Tryz.results140,hN0,hN]
 replace h:=Zm c6 h
 refine X9 [6,8,10] [true,true,true] ?_
 refine Zd ?_
 refine Znx Zs (by kernel_rfl) [.plain,.plain,.plain,.plain,.low,.low,.low,.plain,.pass,.plain,.bar] (fun i=>i≠n+2) [0,1,2,3,4,5,6,7,8,9,10] [.plain,.plain,.plain,.plain,.low,.low,.low,.plain,.pass,.plain,.bar] [] (by kernel_rfl) rfl ?_
 refine zS ?_
 refine zO ?_
 refine zDs [6,8,10] [true,true,true] ?_
 refine zQ [6,10,60] ?_
 refine Zo (t:=(y2.1.P.Code == 7)) rfl (fun c5 => ?_) (fun c5 => ?_)
 ·replace h:=Zn c5 h
  refine Zd ?_
  obtain ⟨y4,hy4,h⟩:=bC h
  refine zCd (Zvo hy4) [6,7] [true,false,false] ?_
  refine zW ?_
  have h:=Option.some.inj h;subst h
  refine Zh (.inr rfl) hU [.agg (Zu y4.1),(vI y4.2)] (by omega) ?_
  simp only [push_cast,seval,↓reduceIte,Zc,Tryz.results140,hN0,hN]
 replace h:=Zm c5 h
 refine X9 [6,10] [true,false,true] ?_
 refine Zd ?_
 refine zRd [6,7] [true,false,false] ?_
 refine zW ?_
 have h:=Option.some.inj h;subst h
 refine Zh (.inr rfl) hU [.agg [(gP Zv a0),(vI (IntKind.i64.wrap (y2.1.P.Code+2))),(vI y2.1.Segment),(vI y2.1.At),(vI 0),(vI 0),(vI y2.1.P.Count),(vI 0),(vI 0)],(vI 0)] (by omega) ?_
 simp only [push_cast,seval,↓reduceIte,Zc,Tryz.results140,hN0,hN]
theorem Zso {a0:(Option Z0)} {r:(Zj×Int)} {O:Objs} {n:Nat} (h:Zfk a0=some r):GTo Tryz.prog 86 [(gP Zv a0)] O n (.tup [.agg (Zu r.1),(vI r.2)]) O n:=by
 unfold Zfk at h
 refine Yf Zs Tryz.call86 Tryz.func86 rfl (Nat.le_of_ble_eq_true rfl) (Nat.le_refl _) fun hU => ?_
 have hN0:O n=none:=hU.fresh _ (Nat.le_refl _)
 have hN:∀ k,O (n+k)=none:=fun k=>hU.fresh _ (Nat.le_add_right _ _)
 show W _ _ _ _ ⟨8,[],[(0,(gP Zv a0))]⟩ (Zw O n []) _
 refine zQ [0,2] ?_
 refine Zd ?_
 obtain ⟨y2,hy2,h⟩:=bC h
 refine zCd (Zqr hy2) [2,3] [true] ?_
 refine zW ?_
 have h:=Option.some.inj h;subst h
 refine Zh (.inr rfl) hU [.agg (Zu y2.1),(vI y2.2)] (by omega) ?_
 simp only [push_cast,seval,↓reduceIte,Zc,Tryz.results86,hN0,hN]
theorem Qw {a0:Zj} {r:Int} {O:Objs} {n:Nat} (h:Qa a0=some r):GTo Tryz.prog 136 [.agg (Zu a0)] O n ((vI r)) O n:=by
 unfold Qa at h
 refine Yf Zs Tryz.call136 Tryz.func136 rfl (Nat.le_of_ble_eq_true rfl) (Nat.le_refl _) fun hU => ?_
 have hN0:O n=none:=hU.fresh _ (Nat.le_refl _)
 have hN:∀ k,O (n+k)=none:=fun k=>hU.fresh _ (Nat.le_add_right _ _)
 show W _ _ _ _ ⟨5,[],[(0,.agg (Zu a0))]⟩ (Zw O n []) _
 refine zQ [1] ?_
 refine zQ [2] ?_
 refine zW ?_
 have h:=Option.some.inj h;subst h
 refine Zh (.inr rfl) hU [(vI a0.kind)] (by omega) ?_
 simp only [push_cast,seval,↓reduceIte,Zc,Tryz.results136,hN0,hN]
theorem Qv {a0:Zj} {r:Int} {O:Objs} {n:Nat} (h:Xn a0=some r):GTo Tryz.prog 202 [.agg (Zu a0)] O n ((vI r)) O n:=by
 unfold Xn at h
 refine Yf Zs Tryz.call202 Tryz.func202 rfl (Nat.le_of_ble_eq_true rfl) (Nat.le_refl _) fun hU => ?_
 have hN0:O n=none:=hU.fresh _ (Nat.le_refl _)
 have hN:∀ k,O (n+k)=none:=fun k=>hU.fresh _ (Nat.le_add_right _ _)
 show W _ _ _ _ ⟨10,[],[(0,.agg (Zu a0))]⟩ (Zw O n []) _
 refine zQ [1] ?_
 refine Zd ?_
 refine zQ [1,5] ?_
 refine Zo (t:=(a0.kind == 1)) rfl (fun c1 => ?_) (fun c1 => ?_)
 ·replace h:=Zn c1 h
  refine zQ [2] ?_
  refine zW ?_
  have h:=Option.some.inj h;subst h
  refine Zh (.inr rfl) hU [(vI a0.ptrs)] (by omega) ?_
  simp only [push_cast,seval,↓reduceIte,Zc,Tryz.results202,hN0,hN]
 replace h:=Zm c1 h
 refine X9 [1] [true] ?_
 refine zQ [2] ?_
 refine zW ?_
 have h:=Option.some.inj h;subst h
 refine Zh (.inr rfl) hU [(vI a0.count)] (by omega) ?_
 simp only [push_cast,seval,↓reduceIte,Zc,Tryz.results202,hN0,hN]
theorem Zrf {a0:Zj} {r:Int} {O:Objs} {n:Nat} (h:Zjj a0=some r):GTo Tryz.prog 181 [.agg (Zu a0)] O n ((vI r)) O n:=by
 unfold Zjj at h
 refine Yf Zs Tryz.call181 Tryz.func181 rfl (Nat.le_of_ble_eq_true rfl) (Nat.le_refl _) fun hU => ?_
 have hN0:O n=none:=hU.fresh _ (Nat.le_refl _)
 have hN:∀ k,O (n+k)=none:=fun k=>hU.fresh _ (Nat.le_add_right _ _)
 show W _ _ _ _ ⟨16,[],[(0,.agg (Zu a0))]⟩ (Zw O n []) _
 refine zQ [1] ?_
 refine Zd ?_
 refine Z8 ?_
 refine Zd ?_
 obtain ⟨y2,hy2,h⟩:=bC h
 refine zCd (Qw hy2) [1,3] [true] ?_
 refine Zo (t:=(y2 == 0)) rfl (fun c12 => ?_) (fun c12 => ?_)
 ·replace h:=Zn c12 h
  refine zQ [2] ?_
  refine zW ?_
  have h:=Option.some.inj h;subst h
  refine Zh (.inr rfl) hU [(vI 0)] (by omega) ?_
  simp only [push_cast,seval,↓reduceIte,Zc,Tryz.results181,hN0,hN]
 replace h:=Zm c12 h
 obtain ⟨z5,hz5,h⟩:=bC h
 refine Y0 (E':=⟨16,[],[(7,(vB z5))]⟩) (O':=(Zw O n [none])) (n0:=(n+1)) ?_ ?_
 ·obtain ⟨y8,hy8,hz5⟩:=bC hz5
  rcases Bool.eq_false_or_eq_true (y8 == 9) with c10 | c10
  ·replace hz5:=Zn c10 hz5
   obtain ⟨y9,hy9,hz5⟩:=bC hz5
   refine Q7 [some true,some true,some true] c10 ?_
   refine (Qw hy8).then ?_
   refine zX1 c10 ?_
   refine (Qv hy9).then ?_
   refine zX1 c10 ?_
   exact Qk hz5 c10
  replace hz5:=Zm c10 hz5
  refine Q7 [some false,some false,some false] c10 ?_
  refine (Qw hy8).then ?_
  refine zX1 c10 ?_
  exact Qk hz5 c10
 refine Zo (t:=z5) rfl (fun c11 => ?_) (fun c11 => ?_)
 ·replace h:=Zn c11 h
  refine zQ [2] ?_
  refine zW ?_
  have h:=Option.some.inj h;subst h
  refine Zh (.inr rfl) hU [(vI 2)] (by omega) ?_
  simp only [push_cast,seval,↓reduceIte,Zc,Tryz.results181,hN0,hN]
 replace h:=Zm c11 h
 refine X9 [] [false] ?_
 refine zQ [2] ?_
 refine zW ?_
 have h:=Option.some.inj h;subst h
 refine Zh (.inr rfl) hU [(vI 1)] (by omega) ?_
 simp only [push_cast,seval,↓reduceIte,Zc,Tryz.results181,hN0,hN]
theorem Zdm {a0:Zj} {r:Int} {O:Objs} {n:Nat} (h:K9 a0=some r):GTo Tryz.prog 223 [.agg (Zu a0)] O n ((vI r)) O n:=by
 unfold K9 at h
 refine Yf Zs Tryz.call223 Tryz.func223 rfl (Nat.le_of_ble_eq_true rfl) (Nat.le_refl _) fun hU => ?_
 have hN0:O n=none:=hU.fresh _ (Nat.le_refl _)
 have hN:∀ k,O (n+k)=none:=fun k=>hU.fresh _ (Nat.le_add_right _ _)
 show W _ _ _ _ ⟨11,[],[(0,.agg (Zu a0))]⟩ (Zw O n []) _
 refine zQ [1] ?_
 refine Zd ?_
 refine zQ [1,4] ?_
 refine Z8 ?_
 refine zQ [1,4,5] ?_
 refine Zo (t:=(a0.kind == 1)) rfl (fun c2 => ?_) (fun c2 => ?_)
 ·replace h:=Zn c2 h
  refine zQ [2] ?_
  refine zW ?_
  have h:=Option.some.inj h;subst h
  refine Zh (.inr rfl) hU [(vI a0.words)] (by omega) ?_
  simp only [push_cast,seval,↓reduceIte,Zc,Tryz.results223,hN0,hN]
 replace h:=Zm c2 h
 refine zQ [9] ?_
 refine Zo (t:=(a0.kind == 10)) rfl (fun c1 => ?_) (fun c1 => ?_)
 ·replace h:=Zn c1 h
  refine zQ [2] ?_
  refine zW ?_
  have h:=Option.some.inj h;subst h
  refine Zh (.inr rfl) hU [(vI 1)] (by omega) ?_
  simp only [push_cast,seval,↓reduceIte,Zc,Tryz.results223,hN0,hN]
 replace h:=Zm c1 h
 refine X9 [] [false] ?_
 refine zQ [2] ?_
 refine zW ?_
 have h:=Option.some.inj h;subst h
 refine Zh (.inr rfl) hU [(vI 0)] (by omega) ?_
 simp only [push_cast,seval,↓reduceIte,Zc,Tryz.results223,hN0,hN]
theorem Zvn {a0:Zj} {r:(Int×Int)} {O:Objs} {n:Nat} (h:Zia a0=some r):GTo Tryz.prog 245 [.agg (Zu a0)] O n (.tup [(vI r.1),(vI r.2)]) O n:=by
 unfold Zia at h
 refine Yf Zs Tryz.call245 Tryz.func245 rfl (Nat.le_of_ble_eq_true rfl) (Nat.le_refl _) fun hU => ?_
 have hN0:O n=none:=hU.fresh _ (Nat.le_refl _)
 have hN:∀ k,O (n+k)=none:=fun k=>hU.fresh _ (Nat.le_add_right _ _)
 show W _ _ _ _ ⟨11,[],[(0,.agg (Zu a0))]⟩ (Zw O n []) _
 refine zQ [1] ?_
 refine Zd ?_
 refine zQ [1,6] ?_
 refine Zo (t:=(a0.kind != 9)) rfl (fun c1 => ?_) (fun c1 => ?_)
 ·replace h:=Zn c1 h
  refine zQ [2,3] ?_
  refine zW ?_
  have h:=Option.some.inj h;subst h
  refine Zh (.inr rfl) hU [(vI 0),(vI 0)] (by omega) ?_
  simp only [push_cast,seval,↓reduceIte,Zc,Tryz.results245,hN0,hN]
 replace h:=Zm c1 h
 refine X9 [1] [true] ?_
 refine Zis [2,3] (Qf Zs (by kernel_rfl) [] (by kernel_rfl) ?_)
 refine zS ?_
 refine zW ?_
 have h:=Option.some.inj h;subst h
 refine Zh (.inr rfl) hU [(vI a0.words),(vI a0.ptrs)] (by omega) ?_
 simp only [push_cast,seval,↓reduceIte,Zc,Tryz.results245,hN0,hN]
theorem Zrg {a0:Zj} {r:Int} {O:Objs} {n:Nat} (h:Zgb a0=some r):GTo Tryz.prog 182 [.agg (Zu a0)] O n ((vI r)) O n:=by
 unfold Zgb at h
 refine Yf Zs Tryz.call182 Tryz.func182 rfl (Nat.le_of_ble_eq_true rfl) (Nat.le_refl _) fun hU => ?_
 have hN0:O n=none:=hU.fresh _ (Nat.le_refl _)
 have hN:∀ k,O (n+k)=none:=fun k=>hU.fresh _ (Nat.le_add_right _ _)
 show W _ _ _ _ ⟨35,[],[(0,.agg (Zu a0))]⟩ (Zw O n []) _
 refine zQ [1] ?_
 refine Zd ?_
 refine Zd ?_
 obtain ⟨y2,hy2,h⟩:=bC h
 refine zCd (Qw hy2) [1,6] [true] ?_
 refine Z8 ?_
 refine zQ [1,6,7] ?_
 refine Zo (t:=(y2 == 0)) rfl (fun Vq => ?_) (fun Vq => ?_)
 ·replace h:=Zn Vq h
  refine zQ [2] ?_
  refine zW ?_
  have h:=Option.some.inj h;subst h
  refine Zh (.inr rfl) hU [(vI 0)] (by omega) ?_
  simp only [push_cast,seval,↓reduceIte,Zc,Tryz.results182,hN0,hN]
 replace h:=Zm Vq h
 refine zQ [1,6,9] ?_
 refine Zo (t:=(y2 == 1)) rfl (fun Qs => ?_) (fun Qs => ?_)
 ·replace h:=Zn Qs h
  refine Zd ?_
  obtain ⟨y5,hy5,h⟩:=bC h
  obtain ⟨y6,hy6,h⟩:=bC h
  refine Qf Zs (by kernel_rfl) [] (by kernel_rfl) ?_
  refine zS ?_
  refine PCall.of (Zdm hy5) ?_
  refine zS ?_
  refine PCall.of (Qv hy6) ?_
  refine zS ?_
  refine zD [2] [false] ?_
  refine zW ?_
  have h:=Option.some.inj h;subst h
  refine Zh (.inr rfl) hU [(vI (IntKind.i64.wrap ((IntKind.i64.wrap (1+y5))+y6)))] (by omega) ?_
  simp only [push_cast,seval,↓reduceIte,Zc,Tryz.results182,hN0,hN]
 replace h:=Zm Qs h
 refine zQ [1,17] ?_
 refine Zo (t:=(y2 == 9)) rfl (fun Vu => ?_) (fun Vu => ?_)
 ·replace h:=Zn Vu h
  refine Zd ?_
  obtain ⟨y8,hy8,h⟩:=bC h
  refine zCd (Zvn hy8) [1,3,4] [true] ?_
  refine Zd ?_
  obtain ⟨y10,hy10,h⟩:=bC h
  refine zCd (Qv hy10) [2] [false] ?_
  refine zW ?_
  have h:=Option.some.inj h;subst h
  refine Zh (.inr rfl) hU [(vI (IntKind.i64.wrap (1+(IntKind.i64.wrap (y10 * (IntKind.i64.wrap ((IntKind.i64.wrap (1+y8.1))+y8.2)))))))] (by omega) ?_
  simp only [push_cast,seval,↓reduceIte,Zc,Tryz.results182,hN0,hN]
 replace h:=Zm Vu h
 refine X9 [1] [true] ?_
 refine Zd ?_
 obtain ⟨y12,hy12,h⟩:=bC h
 refine zCd (Qv hy12) [2] [false] ?_
 refine zW ?_
 have h:=Option.some.inj h;subst h
 refine Zh (.inr rfl) hU [(vI (IntKind.i64.wrap (1+y12)))] (by omega) ?_
 simp only [push_cast,seval,↓reduceIte,Zc,Tryz.results182,hN0,hN]
theorem Zjn {a0:Zj} {a1:Int} {r:(Zj×Int)} {O:Objs} {n:Nat} (h:Zd0 a0 a1=some r):GTo Tryz.prog 224 [.agg (Zu a0),(vI a1)] O n (.tup [.agg (Zu r.1),(vI r.2)]) O n:=by
 unfold Zd0 at h
 refine Yf Zs Tryz.call224 Tryz.func224 rfl (Nat.le_of_ble_eq_true rfl) (Nat.le_refl _) fun hU => ?_
 have hN0:O n=none:=hU.fresh _ (Nat.le_refl _)
 have hN:∀ k,O (n+k)=none:=fun k=>hU.fresh _ (Nat.le_add_right _ _)
 show W _ _ _ _ ⟨81,[],[(0,.agg (Zu a0)),(1,(vI a1))]⟩ (Zw O n []) _
 refine zQ [1,2,4] ?_
 refine Zd ?_
 obtain ⟨z2,hz2,h⟩:=bC h
 refine Y0 (E':=⟨81,[],[(1,(vI a1)),(2,.ref n 0),(4,.ref (n+1) 0),(14,(vB z2))]⟩) (O':=(Zw O n [some ⟨false,62,9,1,(Zu a0)⟩,some ⟨false,62,9,1,[.val (.pointer none),(vI 0),(vI 0),(vI 0),(vI 0),(vI 0),(vI 0),(vI 0),(vI 0)]⟩])) (n0:=(n+2)) ?_ ?_
 ·rcases Bool.eq_false_or_eq_true (decide (a1 < 0)) with c5 | c5
  ·replace hz2:=Zn c5 hz2
   refine Q7 [some false,some false,some false,some false] c5 ?_
   exact Qk hz2 c5
  replace hz2:=Zm c5 hz2
  obtain ⟨y4,hy4,hz2⟩:=bC hz2
  refine Q7 [some true,some true,some true,some true] c5 ?_
  refine (Qv hy4).then ?_
  refine zX1 c5 ?_
  exact Qk hz2 c5
 refine Zo (t:=z2) rfl (fun Vu => ?_) (fun Vu => ?_)
 ·replace h:=Zn Vu h
  refine Zd ?_
  refine zRd [4,5] [false,true] ?_
  refine zW ?_
  have h:=Option.some.inj h;subst h
  refine Zh (.inr rfl) hU [.agg [.val (.pointer none),(vI 0),(vI 0),(vI 0),(vI 0),(vI 0),(vI 0),(vI 0),(vI 0)],(vI 0)] (by omega) ?_
  simp only [push_cast,seval,↓reduceIte,Zc,Tryz.results224,hN0,hN]
 replace h:=Zm Vu h
 refine X9 [1,2,4] [true,true] ?_
 refine Zd ?_
 refine zQ [1,2,4,17] ?_
 refine Z8 ?_
 refine zQ [1,2,4,17,18] ?_
 refine Zo (t:=(a0.kind == 1)) rfl (fun c12 => ?_) (fun c12 => ?_)
 ·replace h:=Zn c12 h
  refine Zd ?_
  obtain ⟨y7,hy7,h⟩:=bC h
  refine zCd (Zqr hy7) [4,5] [false,true] ?_
  refine zW ?_
  have h:=Option.some.inj h;subst h
  refine Zh (.inr rfl) hU [.agg (Zu y7.1),(vI y7.2)] (by omega) ?_
  simp only [push_cast,seval,↓reduceIte,Zc,Tryz.results224,hN0,hN]
 replace h:=Zm c12 h
 refine zQ [1,2,4,17,34] ?_
 refine Zo (t:=(a0.kind == 8)) rfl (fun c11 => ?_) (fun c11 => ?_)
 ·replace h:=Zn c11 h
  refine Zd ?_
  obtain ⟨y9,hy9,h⟩:=bC h
  refine zCd (Zqr hy9) [4,5] [false,true] ?_
  refine zW ?_
  have h:=Option.some.inj h;subst h
  refine Zh (.inr rfl) hU [.agg (Zu y9.1),(vI y9.2)] (by omega) ?_
  simp only [push_cast,seval,↓reduceIte,Zc,Tryz.results224,hN0,hN]
 replace h:=Zm c11 h
 refine zQ [1,2,4,47] ?_
 refine Zo (t:=(a0.kind == 9)) rfl (fun c10 => ?_) (fun c10 => ?_)
 ·replace h:=Zn c10 h
  refine zQ [2,4,6] ?_
  refine Zd ?_
  refine zRd [4,5] [false,true] ?_
  refine zW ?_
  have h:=Option.some.inj h;subst h
  refine Zh (.inr rfl) hU [.agg [(gP Zv a0.a),(vI 1),(vI a0.segment),(vI (IntKind.i64.wrap ((IntKind.i64.wrap (a0.at_+1))+(IntKind.i64.wrap (a1 * (IntKind.i64.wrap (a0.words+a0.ptrs))))))),(vI a0.words),(vI a0.ptrs),(vI 0),(vI 0),(vI 0)],(vI 0)] (by omega) ?_
  simp only [push_cast,seval,↓reduceIte,Zc,Tryz.results224,hN0,hN]
 replace h:=Zm c10 h
 refine X9 [1,2,4] [true,true] ?_
 refine Zd ?_
 refine zRd [4,5] [false,true] ?_
 refine zW ?_
 have h:=Option.some.inj h;subst h
 refine Zh (.inr rfl) hU [.agg [(gP Zv a0.a),(vI 10),(vI a0.segment),(vI a0.at_),(vI 0),(vI 0),(vI 0),(vI (IntKind.i64.wrap (a0.kind - 2))),(vI a1)],(vI 0)] (by omega) ?_
 simp only [push_cast,seval,↓reduceIte,Zc,Tryz.results224,hN0,hN]
def Gc (Yz:(Zk→Zj→Int→Option (Int×Zk))):Prop:=∀ {a0:Zk} {a1:Zj} {a2:Int} {r:(Int×Zk)} {O:Objs} {n:Nat} {i0:Nat},i0 < n→O i0=some ⟨false,143,1,1,[(vI a0.left)]⟩→Yz a0 a1 a2=some r→GTo Tryz.prog 118 [.ref i0 0,.agg (Zu a1),(vI a2)] O n ((vI r.1)) (Zw (O.upd i0 (some ⟨false,143,1,1,[(vI r.2.left)]⟩)) n []) (n+0)
def Zaj (Yy:(Zk→Zj→Int→Option (Int×Zk))):Prop:=∀ {a0:Zk} {a1:Zj} {a2:Int} {r:(Int×Zk)} {O:Objs} {n:Nat} {i0:Nat},i0 < n→O i0=some ⟨false,143,1,1,[(vI a0.left)]⟩→Yy a0 a1 a2=some r→GTo Tryz.prog 183 [.ref i0 0,.agg (Zu a1),(vI a2)] O n ((vI r.1)) (Zw (O.upd i0 (some ⟨false,143,1,1,[(vI r.2.left)]⟩)) n []) (n+0)
def V3 (Y1:(Zk→Zj→Int→Option (Int×Zk))):Prop:=∀ {a0:Zk} {a1:Zj} {a2:Int} {r:(Int×Zk)} {O:Objs} {n:Nat} {i0:Nat},i0 < n→O i0=some ⟨false,143,1,1,[(vI a0.left)]⟩→Y1 a0 a1 a2=some r→GTo Tryz.prog 184 [.ref i0 0,.agg (Zu a1),(vI a2)] O n ((vI r.1)) (Zw (O.upd i0 (some ⟨false,143,1,1,[(vI r.2.left)]⟩)) n []) (n+0)
theorem Zpj {Yz:(Zk→Zj→Int→Option (Int×Zk))} {Yy:(Zk→Zj→Int→Option (Int×Zk))} {Y1:(Zk→Zj→Int→Option (Int×Zk))} (Zdd:Gc Yz) (Zal:Zaj Yy) (Zcb:V3 Y1) {a0:Zk} {a1:Zj} {a2:Int} {r:(Int×Zk)} {O:Objs} {n:Nat} {i0:Nat} (hi0:i0 < n) (ho0:O i0=some ⟨false,143,1,1,[(vI a0.left)]⟩) (h:Un Yz Yy Y1 a0 a1 a2=some r):GTo Tryz.prog 118 [.ref i0 0,.agg (Zu a1),(vI a2)] O n ((vI r.1)) (Zw (O.upd i0 (some ⟨false,143,1,1,[(vI r.2.left)]⟩)) n []) (n+0):=by
 unfold Un at h
 refine Yf Zs Tryz.call118 Tryz.func118 rfl (Nat.le_of_ble_eq_true rfl) (by omega) fun hU => ?_
 rw [show Zw O n []=Zw (O.upd i0 (some ⟨false,143,1,1,[(vI a0.left)]⟩)) n [] from by rw [Zz2 (show O i0=_ from by exact ho0)]]
 have hk0:∀ k,i0 < n+k:=fun k=>by omega
 have hN0:∀ o,Objs.upd O i0 o n=none:=fun o=>V9 hU hi0 _ (Nat.le_refl _)
 have hN:∀ o k,Objs.upd O i0 o (n+k)=none:=fun o k=>V9 hU hi0 _ (Nat.le_add_right _ _)
 show W _ _ _ _ ⟨46,[],[(0,.ref i0 0),(1,.agg (Zu a1)),(2,(vI a2))]⟩ (Zw (O.upd i0 (some ⟨false,143,1,1,[(vI a0.left)]⟩)) n []) _
 refine Zcl [0,2,4] hi0 hk0 ?_
 refine Zd ?_
 obtain ⟨z3,hz3,h⟩:=bC h
 refine Y0 (E':=⟨46,[],[(0,.ref i0 0),(2,(vI a2)),(4,.ref n 0),(19,(vB z3))]⟩) (O':=(Zw (O.upd i0 (some ⟨false,143,1,1,[(vI a0.left)]⟩)) n [some ⟨false,62,9,1,(Zu a1)⟩])) (n0:=(n+1)) ?_ ?_
 ·obtain ⟨y6,hy6,hz3⟩:=bC hz3
  rcases Bool.eq_false_or_eq_true (decide (a2 < y6)) with c8 | c8
  ·replace hz3:=Zn c8 hz3
   refine Qf Zs (by kernel_rfl) [some false,some false,some false,some false,some false,some false,some false] (by kernel_rfl) ?_
   refine zX3 c8 hi0 hk0 ?_
   refine PCall.of (Zrf hy6) ?_
   refine zX3 c8 hi0 hk0 ?_
   have hz3:=Option.some.inj hz3;subst hz3
   refine And.intro rfl (Fit2.of (Ys hU rfl rfl ?_) (by omega))
   exact Znt c8 hi0 hk0
  replace hz3:=Zm c8 hz3
  obtain ⟨y7,hy7,hz3⟩:=bC hz3
  refine Qf Zs (by kernel_rfl) [some true,some true,some true,some true,some true,some true,some true] (by kernel_rfl) ?_
  refine zX3 c8 hi0 hk0 ?_
  refine PCall.of (Zrf hy6) ?_
  refine zX3 c8 hi0 hk0 ?_
  refine PCall.of (Zrg hy7) ?_
  refine zX3 c8 hi0 hk0 ?_
  have hz3:=Option.some.inj hz3;subst hz3
  refine And.intro rfl (Fit2.of (Ys hU rfl rfl ?_) (by omega))
  exact Znt c8 hi0 hk0
 refine Zo (t:=z3) rfl (fun c21 => ?_) (fun c21 => ?_)
 ·replace h:=Zn c21 h
  refine Zcl [6] hi0 hk0 ?_
  refine zW ?_
  have h:=Option.some.inj h;subst h
  refine Vv (k:=0) (i:=i0) (q1:=⟨false,143,1,1,[(vI a0.left)]⟩) (L3:=[none]) (E2:=(⟨46,[],[(6,(vI 3))]⟩:Env)) (n3:=(n+1)) (.inr rfl) hU rfl [(vI 3)] ?_ ?_
  ·refine Fit2.trans (E':=(⟨46,[],[(6,(vI 3))]⟩:Env)) (O':=(Zw (O.upd i0 (some ⟨false,143,1,1,[(vI a0.left)]⟩)) n [none])) (n':=(n+1)) (Fit2.of (Ys hU rfl rfl ?_) (by omega)) ?_
   ·exact Q9 hi0 hk0
   refine Jk (k:=1) (k':=1) hU [0] [0] rfl rfl rfl rfl ⟨rfl,rfl⟩ ?_
   exact Q9 hi0 hk0
  simp only [push_cast,seval,↓reduceIte,Zc,Tryz.results118,hi0,hk0,hN0,hN]
 replace h:=Zm c21 h
 refine X9 [0,2,4] [true] ?_
 refine Zd ?_
 obtain ⟨y10,hy10,h⟩:=bC h
 refine Zhw Zs (by kernel_rfl) [false,false,false,false,false,false,false,false,false,true] [] (by kernel_rfl) ?_
 refine zX2 hi0 hk0 ?_
 refine PCall.of (Zrg hy10) ?_
 refine zX2 hi0 hk0 ?_
 refine zDs [0,2,4] [true] ?_
 refine Zd ?_
 obtain ⟨y12,hy12,h⟩:=bC h
 refine X2 [] hi0 hk0 ?_
 refine (Qw hy12).then ?_
 refine zX2 hi0 hk0 ?_
 refine zD [0,2,4,30] [true] ?_
 refine Z8 ?_
 obtain ⟨z13,hz13,h⟩:=bC h
 refine Y0 (E':=⟨46,[],[(0,.ref i0 0),(2,(vI a2)),(4,.ref n 0),(30,(vI y12)),(31,(vB z13))]⟩) (O':=(Zw (O.upd i0 (some ⟨false,143,1,1,[(vI (IntKind.i64.wrap (a0.left - y10)))]⟩)) n [some ⟨false,62,9,1,(Zu a1)⟩])) (n0:=(n+1)) ?_ ?_
 ·refine Zcl [0,2,4,30,31] hi0 hk0 ?_
  refine Zo (t:=(y12 == 1)) rfl (fun Qs => ?_) (fun Qs => ?_)
  ·replace hz13:=Zn Qs hz13
   refine zK ?_
   have hz13:=Option.some.inj hz13;subst hz13
   refine And.intro rfl (Fit2.of (Ys hU rfl rfl ?_) (by omega))
   exact Q9 hi0 hk0
  replace hz13:=Zm Qs hz13
  refine X2 [] hi0 hk0 ?_
  have hz13:=Option.some.inj hz13;subst hz13
  refine And.intro rfl (Fit2.of (Ys hU rfl rfl ?_) (by omega))
  exact Q9 hi0 hk0
 refine Zo (t:=z13) rfl (fun c20 => ?_) (fun c20 => ?_)
 ·replace h:=Zn c20 h
  refine Zd ?_
  obtain ⟨y16,hy16,h⟩:=bC h
  refine X2 [] hi0 hk0 ?_
  refine (Zal (i0:=i0) (by omega) (by simp only [push_cast,seval,↓reduceIte,Zc,U1,hi0,hk0,hN0,hN] <;> rfl) hy16).then ?_
  refine zX2 hi0 hk0 ?_
  refine zD [6] [false] ?_
  refine zW ?_
  have h:=Option.some.inj h;subst h
  refine Vv (k:=0) (i:=i0) (q1:=⟨false,143,1,1,[(vI y16.2.left)]⟩) (L3:=[none]) (E2:=(⟨46,[],[(6,(vI y16.1))]⟩:Env)) (n3:=(n+1)) (.inr rfl) hU rfl [(vI y16.1)] ?_ ?_
  ·refine Fit2.trans (E':=(⟨46,[],[(6,(vI y16.1))]⟩:Env)) (O':=(Zw (O.upd i0 (some ⟨false,143,1,1,[(vI y16.2.left)]⟩)) n [none])) (n':=(n+1)) (Fit2.of (Ys hU rfl rfl ?_) (by omega)) ?_
   ·exact Q9 hi0 hk0
   refine Jk (k:=1) (k':=1) hU [0] [0] rfl rfl rfl rfl ⟨rfl,rfl⟩ ?_
   exact Q9 hi0 hk0
  simp only [push_cast,seval,↓reduceIte,Zc,Tryz.results118,hi0,hk0,hN0,hN]
 replace h:=Zm c20 h
 refine Zcl [0,2,4,39] hi0 hk0 ?_
 refine Zo (t:=(y12 == 9)) rfl (fun c19 => ?_) (fun c19 => ?_)
 ·replace h:=Zn c19 h
  refine Zd ?_
  obtain ⟨y18,hy18,h⟩:=bC h
  refine X2 [] hi0 hk0 ?_
  refine (Zcb (i0:=i0) (by omega) (by simp only [push_cast,seval,↓reduceIte,Zc,U1,hi0,hk0,hN0,hN] <;> rfl) hy18).then ?_
  refine zX2 hi0 hk0 ?_
  refine zD [6] [false] ?_
  refine zW ?_
  have h:=Option.some.inj h;subst h
  refine Vv (k:=0) (i:=i0) (q1:=⟨false,143,1,1,[(vI y18.2.left)]⟩) (L3:=[none]) (E2:=(⟨46,[],[(6,(vI y18.1))]⟩:Env)) (n3:=(n+1)) (.inr rfl) hU rfl [(vI y18.1)] ?_ ?_
  ·refine Fit2.trans (E':=(⟨46,[],[(6,(vI y18.1))]⟩:Env)) (O':=(Zw (O.upd i0 (some ⟨false,143,1,1,[(vI y18.2.left)]⟩)) n [none])) (n':=(n+1)) (Fit2.of (Ys hU rfl rfl ?_) (by omega)) ?_
   ·exact Q9 hi0 hk0
   refine Jk (k:=1) (k':=1) hU [0] [0] rfl rfl rfl rfl ⟨rfl,rfl⟩ ?_
   exact Q9 hi0 hk0
  simp only [push_cast,seval,↓reduceIte,Zc,Tryz.results118,hi0,hk0,hN0,hN]
 replace h:=Zm c19 h
 refine X9 [] [false] ?_
 refine Zcl [6] hi0 hk0 ?_
 refine zW ?_
 have h:=Option.some.inj h;subst h
 refine Vv (k:=0) (i:=i0) (q1:=⟨false,143,1,1,[(vI (IntKind.i64.wrap (a0.left - y10)))]⟩) (L3:=[none]) (E2:=(⟨46,[],[(6,(vI 0))]⟩:Env)) (n3:=(n+1)) (.inr rfl) hU rfl [(vI 0)] ?_ ?_
 ·refine Fit2.trans (E':=(⟨46,[],[(6,(vI 0))]⟩:Env)) (O':=(Zw (O.upd i0 (some ⟨false,143,1,1,[(vI (IntKind.i64.wrap (a0.left - y10)))]⟩)) n [none])) (n':=(n+1)) (Fit2.of (Ys hU rfl rfl ?_) (by omega)) ?_
  ·exact Q9 hi0 hk0
  refine Jk (k:=1) (k':=1) hU [0] [0] rfl rfl rfl rfl ⟨rfl,rfl⟩ ?_
  exact Q9 hi0 hk0
 simp only [push_cast,seval,↓reduceIte,Zc,Tryz.results118,hi0,hk0,hN0,hN]
theorem Zqw {Yz:(Zk→Zj→Int→Option (Int×Zk))} {Yy:(Zk→Zj→Int→Option (Int×Zk))} {Y1:(Zk→Zj→Int→Option (Int×Zk))} (Zdd:Gc Yz) (Zal:Zaj Yy) (Zcb:V3 Y1) {a0:Zk} {a1:Zj} {a2:Int} {r:(Int×Zk)} {O:Objs} {n:Nat} {i0:Nat} (hi0:i0 < n) (ho0:O i0=some ⟨false,143,1,1,[(vI a0.left)]⟩) (h:Gm Yz Yy Y1 a0 a1 a2=some r):GTo Tryz.prog 183 [.ref i0 0,.agg (Zu a1),(vI a2)] O n ((vI r.1)) (Zw (O.upd i0 (some ⟨false,143,1,1,[(vI r.2.left)]⟩)) n []) (n+0):=by
 unfold Gm at h
 refine Yf Zs Tryz.call183 Tryz.func183 rfl (Nat.le_of_ble_eq_true rfl) (by omega) fun hU => ?_
 rw [show Zw O n []=Zw (O.upd i0 (some ⟨false,143,1,1,[(vI a0.left)]⟩)) n [] from by rw [Zz2 (show O i0=_ from by exact ho0)]]
 have hk0:∀ k,i0 < n+k:=fun k=>by omega
 have hN0:∀ o,Objs.upd O i0 o n=none:=fun o=>V9 hU hi0 _ (Nat.le_refl _)
 have hN:∀ o k,Objs.upd O i0 o (n+k)=none:=fun o k=>V9 hU hi0 _ (Nat.le_add_right _ _)
 show W _ _ _ _ ⟨33,[],[(0,.ref i0 0),(1,.agg (Zu a1)),(2,(vI a2))]⟩ (Zw (O.upd i0 (some ⟨false,143,1,1,[(vI a0.left)]⟩)) n []) _
 refine Zcl [0,2,4] hi0 hk0 ?_
 refine Zd ?_
 refine Zd ?_
 obtain ⟨y2,hy2,h⟩:=bC h
 refine X2 [] hi0 hk0 ?_
 refine (Qv hy2).then ?_
 refine zX2 hi0 hk0 ?_
 refine zD [0,2,4,12,13] [true] ?_
 refine zD [0,2,4,12,13] [true] ?_
 obtain ⟨z10,hz10,h⟩:=bC h
 refine Zbe (J:=(Xx (fun z10=>JR n (⟨33,[],[(6,(vI z10.1))]⟩:Env) (Zw (O.upd i0 (some ⟨false,143,1,1,[(vI z10.2)]⟩)) n [none]) (n+1)) (fun z10=>JX 0 n (⟨33,[],[]⟩:Env) (Zw (O.upd i0 (some ⟨false,143,1,1,[(vI z10)]⟩)) n [none]) (n+1)))) (z:=z10) ?_ fun hw => ?_
 ·refine Y2 hz10 (fun s0_=>⟨33,[],[(0,.ref i0 0),(2,(vI a2)),(4,.ref n 0),(12,(vI y2)),(13,(vI s0_.1))]⟩) (fun s0_=>(Zw (O.upd i0 (some ⟨false,143,1,1,[(vI s0_.2)]⟩)) n [some ⟨false,62,9,1,(Zu a1)⟩])) (Xx (fun z10=>JR n (⟨33,[],[(6,(vI z10.1))]⟩:Env) (Zw (O.upd i0 (some ⟨false,143,1,1,[(vI z10.2)]⟩)) n [none]) (n+1)) (fun z10=>JX 0 n (⟨33,[],[]⟩:Env) (Zw (O.upd i0 (some ⟨false,143,1,1,[(vI z10)]⟩)) n [none]) (n+1))) ?_
  intro s0_ x0_ hs0_
  unfold Zig at hs0_
  try dsimp only
  refine Zcl [0,2,4,12,13,14] hi0 hk0 ?_
  refine Zd ?_
  refine Zo (t:=(decide (s0_.1 < y2))) rfl (fun c9 => ?_) (fun c9 => ?_)
  ·replace hs0_:=Zn c9 hs0_
   refine X9 [0,2,4,12,13] [true] ?_
   refine Zd ?_
   refine Z8 ?_
   refine Zcl [0,2,4,7,12,13] hi0 hk0 ?_
   refine Zd ?_
   obtain ⟨y4,hy4,hs0_⟩:=bC hs0_
   refine X2 [] hi0 hk0 ?_
   refine (Zjn hy4).then ?_
   refine zX2 hi0 hk0 ?_
   refine zDs [0,2,4,8,9,12,13] [true,true] ?_
   refine Zcl [0,2,4,8,9,12,13,23] hi0 hk0 ?_
   refine Zo (t:=(y4.2 != 0)) rfl (fun c8 => ?_) (fun c8 => ?_)
   ·replace hs0_:=Zn c8 hs0_
    refine Zcl [6] hi0 hk0 ?_
    refine zW ?_
    have hs0_:=Option.some.inj hs0_;subst hs0_
    refine And.intro (fun h=>by cases h) (And.intro rfl (Fit2.of (Ys hU rfl rfl ?_) (by omega)))
    exact Q9 hi0 hk0
   replace hs0_:=Zm c8 hs0_
   refine X9 [0,2,4,8,12,13] [true,true] ?_
   refine Zd ?_
   obtain ⟨y6,hy6,hs0_⟩:=bC hs0_
   refine X2 [] hi0 hk0 ?_
   refine (Zdd (i0:=i0) (by omega) (by simp only [push_cast,seval,↓reduceIte,Zc,U1,hi0,hk0,hN0,hN] <;> rfl) hy6).then ?_
   refine zX2 hi0 hk0 ?_
   refine zD [0,2,4,10,12,13] [true,false] ?_
   refine Zcl [0,2,4,10,12,13,30] hi0 hk0 ?_
   refine Zo (t:=(y6.1 != 0)) rfl (fun c7 => ?_) (fun c7 => ?_)
   ·replace hs0_:=Zn c7 hs0_
    refine Zcl [6] hi0 hk0 ?_
    refine zW ?_
    have hs0_:=Option.some.inj hs0_;subst hs0_
    refine And.intro (fun h=>by cases h) (And.intro rfl (Fit2.of (Ys hU rfl rfl ?_) (by omega)))
    exact Q9 hi0 hk0
   replace hs0_:=Zm c7 hs0_
   refine X9 [0,2,4,12,13] [true,false] ?_
   refine X2 [] hi0 hk0 ?_
   have hs0_:=Option.some.inj hs0_;subst hs0_
   refine And.intro rfl (Fit2.of (Ys hU rfl rfl ?_) (by omega))
   exact Q9 hi0 hk0
  replace hs0_:=Zm c9 hs0_
  refine zXt ?_
  have hs0_:=Option.some.inj hs0_;subst hs0_
  refine And.intro (fun h=>by cases h) (And.intro rfl (Fit2.of (Ys hU rfl rfl ?_) (by omega)))
  exact Q9 hi0 hk0
 rcases z10 with z10 | z10
 ·dsimp only [Xx] at hw h
  refine Jt hw ?_
  try simp only [Yx,Ya,↓reduceIte,Nat.reduceEqDiff]
  have h:=Option.some.inj h;subst h
  refine Vv (k:=0) (i:=i0) (q1:=⟨false,143,1,1,[(vI z10.2)]⟩) (L3:=[none]) (E2:=(⟨33,[],[(6,(vI z10.1))]⟩:Env)) (n3:=(n+1)) (.inr rfl) hU rfl [(vI z10.1)] ?_ ?_
  ·refine Fit2.trans (E':=(⟨33,[],[(6,(vI z10.1))]⟩:Env)) (O':=(Zw (O.upd i0 (some ⟨false,143,1,1,[(vI z10.2)]⟩)) n [none])) (n':=(n+1)) (Fit2.of (Ys hU rfl rfl ?_) (by omega)) ?_
   ·exact Q9 hi0 hk0
   refine Jk (k:=1) (k':=1) hU [0] [0] rfl rfl rfl rfl ⟨rfl,rfl⟩ ?_
   exact Q9 hi0 hk0
  simp only [push_cast,seval,↓reduceIte,Zc,Tryz.results183,hi0,hk0,hN0,hN]
 dsimp only [Xx] at hw h
 refine Yi hw ?_
 try simp only [Yx,Ya,↓reduceIte,Nat.reduceEqDiff]
 refine zD [] [false] ?_
 refine Zcl [6] hi0 hk0 ?_
 refine zW ?_
 have h:=Option.some.inj h;subst h
 refine Vv (k:=0) (i:=i0) (q1:=⟨false,143,1,1,[(vI z10)]⟩) (L3:=[none]) (E2:=(⟨33,[],[(6,(vI 0))]⟩:Env)) (n3:=(n+1)) (.inr rfl) hU rfl [(vI 0)] ?_ ?_
 ·refine Fit2.trans (E':=(⟨33,[],[(6,(vI 0))]⟩:Env)) (O':=(Zw (O.upd i0 (some ⟨false,143,1,1,[(vI z10)]⟩)) n [none])) (n':=(n+1)) (Fit2.of (Ys hU rfl rfl ?_) (by omega)) ?_
  ·exact Q9 hi0 hk0
  refine Jk (k:=1) (k':=1) hU [0] [0] rfl rfl rfl rfl ⟨rfl,rfl⟩ ?_
  exact Q9 hi0 hk0
 simp only [push_cast,seval,↓reduceIte,Zc,Tryz.results183,hi0,hk0,hN0,hN]
theorem Znw {Yz:(Zk→Zj→Int→Option (Int×Zk))} {Yy:(Zk→Zj→Int→Option (Int×Zk))} {Y1:(Zk→Zj→Int→Option (Int×Zk))} (Zdd:Gc Yz) (Zal:Zaj Yy) (Zcb:V3 Y1) {a0:Zk} {a1:Zj} {a2:Int} {r:(Int×Zk)} {O:Objs} {n:Nat} {i0:Nat} (hi0:i0 < n) (ho0:O i0=some ⟨false,143,1,1,[(vI a0.left)]⟩) (h:Zdt Yz Yy Y1 a0 a1 a2=some r):GTo Tryz.prog 184 [.ref i0 0,.agg (Zu a1),(vI a2)] O n ((vI r.1)) (Zw (O.upd i0 (some ⟨false,143,1,1,[(vI r.2.left)]⟩)) n []) (n+0):=by
 unfold Zdt at h
 refine Yf Zs Tryz.call184 Tryz.func184 rfl (Nat.le_of_ble_eq_true rfl) (by omega) fun hU => ?_
 rw [show Zw O n []=Zw (O.upd i0 (some ⟨false,143,1,1,[(vI a0.left)]⟩)) n [] from by rw [Zz2 (show O i0=_ from by exact ho0)]]
 have hk0:∀ k,i0 < n+k:=fun k=>by omega
 have hN0:∀ o,Objs.upd O i0 o n=none:=fun o=>V9 hU hi0 _ (Nat.le_refl _)
 have hN:∀ o k,Objs.upd O i0 o (n+k)=none:=fun o k=>V9 hU hi0 _ (Nat.le_add_right _ _)
 show W _ _ _ _ ⟨34,[],[(0,.ref i0 0),(1,.agg (Zu a1)),(2,(vI a2))]⟩ (Zw (O.upd i0 (some ⟨false,143,1,1,[(vI a0.left)]⟩)) n []) _
 refine Zcl [0,2,4] hi0 hk0 ?_
 refine Zd ?_
 refine Zd ?_
 obtain ⟨y2,hy2,h⟩:=bC h
 refine X2 [] hi0 hk0 ?_
 refine (Qv hy2).then ?_
 refine zX2 hi0 hk0 ?_
 refine zD [0,2,4,12,13] [true] ?_
 refine zD [0,2,4,12,13] [true] ?_
 obtain ⟨z10,hz10,h⟩:=bC h
 refine Zbe (J:=(Xx (fun z10=>JR n (⟨34,[],[(6,(vI z10.1))]⟩:Env) (Zw (O.upd i0 (some ⟨false,143,1,1,[(vI z10.2)]⟩)) n [none]) (n+1)) (fun z10=>JX 0 n (⟨34,[],[]⟩:Env) (Zw (O.upd i0 (some ⟨false,143,1,1,[(vI z10)]⟩)) n [none]) (n+1)))) (z:=z10) ?_ fun hw => ?_
 ·refine Y2 hz10 (fun s0_=>⟨34,[],[(0,.ref i0 0),(2,(vI a2)),(4,.ref n 0),(12,(vI y2)),(13,(vI s0_.1))]⟩) (fun s0_=>(Zw (O.upd i0 (some ⟨false,143,1,1,[(vI s0_.2)]⟩)) n [some ⟨false,62,9,1,(Zu a1)⟩])) (Xx (fun z10=>JR n (⟨34,[],[(6,(vI z10.1))]⟩:Env) (Zw (O.upd i0 (some ⟨false,143,1,1,[(vI z10.2)]⟩)) n [none]) (n+1)) (fun z10=>JX 0 n (⟨34,[],[]⟩:Env) (Zw (O.upd i0 (some ⟨false,143,1,1,[(vI z10)]⟩)) n [none]) (n+1))) ?_
  intro s0_ x0_ hs0_
  unfold Zfz at hs0_
  try dsimp only
  refine Zcl [0,2,4,12,13,14] hi0 hk0 ?_
  refine Zd ?_
  refine Zo (t:=(decide (s0_.1 < y2))) rfl (fun c9 => ?_) (fun c9 => ?_)
  ·replace hs0_:=Zn c9 hs0_
   refine X9 [0,2,4,12,13] [true] ?_
   refine Zd ?_
   refine Z8 ?_
   refine Zcl [0,2,4,7,12,13] hi0 hk0 ?_
   refine Zd ?_
   obtain ⟨y4,hy4,hs0_⟩:=bC hs0_
   refine X2 [] hi0 hk0 ?_
   refine (Zjn hy4).then ?_
   refine zX2 hi0 hk0 ?_
   refine zDs [0,2,4,8,9,12,13] [true,true] ?_
   refine Zcl [0,2,4,8,9,12,13,23] hi0 hk0 ?_
   refine Zo (t:=(y4.2 != 0)) rfl (fun c8 => ?_) (fun c8 => ?_)
   ·replace hs0_:=Zn c8 hs0_
    refine Zcl [6] hi0 hk0 ?_
    refine zW ?_
    have hs0_:=Option.some.inj hs0_;subst hs0_
    refine And.intro (fun h=>by cases h) (And.intro rfl (Fit2.of (Ys hU rfl rfl ?_) (by omega)))
    exact Q9 hi0 hk0
   replace hs0_:=Zm c8 hs0_
   refine X9 [0,2,4,8,12,13] [true,true] ?_
   refine Zd ?_
   obtain ⟨y6,hy6,hs0_⟩:=bC hs0_
   refine X2 [] hi0 hk0 ?_
   refine (Zal (i0:=i0) (by omega) (by simp only [push_cast,seval,↓reduceIte,Zc,U1,hi0,hk0,hN0,hN] <;> rfl) hy6).then ?_
   refine zX2 hi0 hk0 ?_
   refine zD [0,2,4,10,12,13] [true,false] ?_
   refine Zcl [0,2,4,10,12,13,31] hi0 hk0 ?_
   refine Zo (t:=(y6.1 != 0)) rfl (fun c7 => ?_) (fun c7 => ?_)
   ·replace hs0_:=Zn c7 hs0_
    refine Zcl [6] hi0 hk0 ?_
    refine zW ?_
    have hs0_:=Option.some.inj hs0_;subst hs0_
    refine And.intro (fun h=>by cases h) (And.intro rfl (Fit2.of (Ys hU rfl rfl ?_) (by omega)))
    exact Q9 hi0 hk0
   replace hs0_:=Zm c7 hs0_
   refine X9 [0,2,4,12,13] [true,false] ?_
   refine X2 [] hi0 hk0 ?_
   have hs0_:=Option.some.inj hs0_;subst hs0_
   refine And.intro rfl (Fit2.of (Ys hU rfl rfl ?_) (by omega))
   exact Q9 hi0 hk0
  replace hs0_:=Zm c9 hs0_
  refine zXt ?_
  have hs0_:=Option.some.inj hs0_;subst hs0_
  refine And.intro (fun h=>by cases h) (And.intro rfl (Fit2.of (Ys hU rfl rfl ?_) (by omega)))
  exact Q9 hi0 hk0
 rcases z10 with z10 | z10
 ·dsimp only [Xx] at hw h
  refine Jt hw ?_
  try simp only [Yx,Ya,↓reduceIte,Nat.reduceEqDiff]
  have h:=Option.some.inj h;subst h
  refine Vv (k:=0) (i:=i0) (q1:=⟨false,143,1,1,[(vI z10.2)]⟩) (L3:=[none]) (E2:=(⟨34,[],[(6,(vI z10.1))]⟩:Env)) (n3:=(n+1)) (.inr rfl) hU rfl [(vI z10.1)] ?_ ?_
  ·refine Fit2.trans (E':=(⟨34,[],[(6,(vI z10.1))]⟩:Env)) (O':=(Zw (O.upd i0 (some ⟨false,143,1,1,[(vI z10.2)]⟩)) n [none])) (n':=(n+1)) (Fit2.of (Ys hU rfl rfl ?_) (by omega)) ?_
   ·exact Q9 hi0 hk0
   refine Jk (k:=1) (k':=1) hU [0] [0] rfl rfl rfl rfl ⟨rfl,rfl⟩ ?_
   exact Q9 hi0 hk0
  simp only [push_cast,seval,↓reduceIte,Zc,Tryz.results184,hi0,hk0,hN0,hN]
 dsimp only [Xx] at hw h
 refine Yi hw ?_
 try simp only [Yx,Ya,↓reduceIte,Nat.reduceEqDiff]
 refine zD [] [false] ?_
 refine Zcl [6] hi0 hk0 ?_
 refine zW ?_
 have h:=Option.some.inj h;subst h
 refine Vv (k:=0) (i:=i0) (q1:=⟨false,143,1,1,[(vI z10)]⟩) (L3:=[none]) (E2:=(⟨34,[],[(6,(vI 0))]⟩:Env)) (n3:=(n+1)) (.inr rfl) hU rfl [(vI 0)] ?_ ?_
 ·refine Fit2.trans (E':=(⟨34,[],[(6,(vI 0))]⟩:Env)) (O':=(Zw (O.upd i0 (some ⟨false,143,1,1,[(vI z10)]⟩)) n [none])) (n':=(n+1)) (Fit2.of (Ys hU rfl rfl ?_) (by omega)) ?_
  ·exact Q9 hi0 hk0
  refine Jk (k:=1) (k':=1) hU [0] [0] rfl rfl rfl rfl ⟨rfl,rfl⟩ ?_
  exact Q9 hi0 hk0
 simp only [push_cast,seval,↓reduceIte,Zc,Tryz.results184,hi0,hk0,hN0,hN]
theorem Znu:∀ k,(Gc ((Yb k).1))∧(Zaj ((Yb k).2.1))∧(V3 ((Yb k).2.2)):=fun k=>by
 induction k with
 | zero=>exact ⟨@fun a0 a1 a2 r O n i0 hi0 ho0 h=>(nomatch (show (none:Option _)=some _ from h)),@fun a0 a1 a2 r O n i0 hi0 ho0 h=>(nomatch (show (none:Option _)=some _ from h)),@fun a0 a1 a2 r O n i0 hi0 ho0 h=>(nomatch (show (none:Option _)=some _ from h))⟩
 | succ k ih=>exact ⟨@fun a0 a1 a2 r O n i0 hi0 ho0 h=>Zpj (ih.1) (ih.2.1) (ih.2.2) hi0 ho0 h,@fun a0 a1 a2 r O n i0 hi0 ho0 h=>Zqw (ih.1) (ih.2.1) (ih.2.2) hi0 ho0 h,@fun a0 a1 a2 r O n i0 hi0 ho0 h=>Znw (ih.1) (ih.2.1) (ih.2.2) hi0 ho0 h⟩
theorem Zqu {a0:Zk} {a1:Zj} {a2:Int} {r:(Int×Zk)} {O:Objs} {n:Nat} {i0:Nat} (hi0:i0 < n) (ho0:O i0=some ⟨false,143,1,1,[(vI a0.left)]⟩) (h:Zcd a0 a1 a2=some r):GTo Tryz.prog 118 [.ref i0 0,.agg (Zu a1),(vI a2)] O n ((vI r.1)) (Zw (O.upd i0 (some ⟨false,143,1,1,[(vI r.2.left)]⟩)) n []) (n+0):=by
 obtain ⟨k,hk⟩:=Vx h
 exact (Znu k).1 hi0 ho0 hk
theorem Zsp {a0:(Option Z0)} {a1:X4} {r:(Int×Int)} {O:Objs} {n:Nat} (h:Zbj a0 a1=some r):GTo Tryz.prog 73 [(gP Zv a0),.agg (Xm a1)] O n (.tup [(vI r.1),(vI r.2)]) O n:=by
 unfold Zbj at h
 refine Yf Zs Tryz.call73 Tryz.func73 rfl (Nat.le_of_ble_eq_true rfl) (Nat.le_refl _) fun hU => ?_
 have hN0:O n=none:=hU.fresh _ (Nat.le_refl _)
 have hN:∀ k,O (n+k)=none:=fun k=>hU.fresh _ (Nat.le_add_right _ _)
 show W _ _ _ _ ⟨35,[],[(0,(gP Zv a0)),(1,.agg (Xm a1))]⟩ (Zw O n []) _
 refine zQ [0,3] ?_
 refine Zd ?_
 obtain ⟨y2,hy2,h⟩:=bC h
 refine zCd (Z1w hy2) [0,3] [true] ?_
 refine Zd ?_
 obtain ⟨y4,hy4,h⟩:=bC h
 refine zCd (Zso hy4) [3,6,7] [true,true] ?_
 refine Zd ?_
 refine zQ [3,6,7,18] ?_
 refine Zo (t:=(y4.2 != 0)) rfl (fun c8 => ?_) (fun c8 => ?_)
 ·replace h:=Zn c8 h
  refine zQ [4,5] ?_
  refine zW ?_
  have h:=Option.some.inj h;subst h
  refine Zh (.inr rfl) hU [(vI 0),(vI y4.2)] (by omega) ?_
  simp only [push_cast,seval,↓reduceIte,Zc,Tryz.results73,hN0,hN]
 replace h:=Zm c8 h
 refine X9 [3,6] [true,true] ?_
 refine Zd ?_
 refine zRd [3,6,8] [true,true,true] ?_
 refine Zd ?_
 refine Zd ?_
 obtain ⟨y6,hy6,h⟩:=bC h
 refine zR ?_
 refine (Zqu (i0:=(n+2)) (by omega) (by simp only [push_cast,seval,↓reduceIte,Zc,U1,hN0,hN] <;> rfl) hy6).then ?_
 refine zS ?_
 refine zD [3,8,9] [true,false,true] ?_
 refine zQ [3,8,9,28] ?_
 refine Zo (t:=(y6.1 != 0)) rfl (fun c7 => ?_) (fun c7 => ?_)
 ·replace h:=Zn c7 h
  refine zQ [4,5] ?_
  refine zW ?_
  have h:=Option.some.inj h;subst h
  refine Zh (.inr rfl) hU [(vI 0),(vI y6.1)] (by omega) ?_
  simp only [push_cast,seval,↓reduceIte,Zc,Tryz.results73,hN0,hN]
 replace h:=Zm c7 h
 refine X9 [3,8] [true,false,true] ?_
 refine zQ [4,5] ?_
 refine zW ?_
 have h:=Option.some.inj h;subst h
 refine Zh (.inr rfl) hU [(vI (IntKind.i64.wrap (y2.Weight - y6.2.left))),(vI 0)] (by omega) ?_
 simp only [push_cast,seval,↓reduceIte,Zc,Tryz.results73,hN0,hN]
theorem Zrc {a0:Zf} {a1:Int} {r:((List Int)×Bool)} {O:Objs} {n:Nat} (h:Gv a0 a1=some r):GTo Tryz.prog 28 [.agg (Zg a0),(vI a1)] O n (.tup [(sL (eI .u64) r.1),(vB r.2)]) O n:=by
 unfold Gv at h
 refine Yf Zs Tryz.call28 Tryz.func28 rfl (Nat.le_of_ble_eq_true rfl) (Nat.le_refl _) fun hU => ?_
 have hN0:O n=none:=hU.fresh _ (Nat.le_refl _)
 have hN:∀ k,O (n+k)=none:=fun k=>hU.fresh _ (Nat.le_add_right _ _)
 show W _ _ _ _ ⟨33,[],[(0,.agg (Zg a0)),(1,(vI a1))]⟩ (Zw O n []) _
 refine zQ [1,2] ?_
 refine Zd ?_
 refine Zd ?_
 obtain ⟨y2,hy2,h⟩:=bC h
 refine zCd (Zoh hy2) [1,2,12] [true] ?_
 refine Zo (t:=(!y2)) rfl (fun Vq => ?_) (fun Vq => ?_)
 ·replace h:=Zn Vq h
  refine zQ [4,5] ?_
  refine zW ?_
  have h:=Option.some.inj h;subst h
  refine Zh (.inr rfl) hU [nV,(vB false)] (by omega) ?_
  simp only [push_cast,seval,↓reduceIte,Zc,Tryz.results28,hN0,hN]
 replace h:=Zm Vq h
 refine X9 [1,2] [true] ?_
 refine Zd ?_
 obtain ⟨y5,hy5,h⟩:=bC h
 obtain ⟨y6,hy6,h⟩:=bC h
 refine zC (Zok hy5) ?_
 refine zTs (Zra hy6) ?_
 refine zDs [6,7] [false] ?_
 refine zQ [6,21] ?_
 refine Zo (t:=(!y6.2)) rfl (fun Qs => ?_) (fun Qs => ?_)
 ·replace h:=Zn Qs h
  refine zQ [4,5] ?_
  refine zW ?_
  have h:=Option.some.inj h;subst h
  refine Zh (.inr rfl) hU [nV,(vB false)] (by omega) ?_
  simp only [push_cast,seval,↓reduceIte,Zc,Tryz.results28,hN0,hN]
 replace h:=Zm Qs h
 refine X9 [6] [false] ?_
 refine Zd ?_
 refine Zd ?_
 obtain ⟨y10,hy10,h⟩:=bC h
 obtain ⟨y11,hy11,h⟩:=bC h
 obtain ⟨y12,hy12,h⟩:=bC h
 refine zR ?_
 refine GCalls.dropL (l':=[none,none]) hU rfl ?_ ((Zn7 hy10).then ?_)
 ·exact zSe
 refine zS ?_
 refine zTs (Zrd hy11) ?_
 refine zTs (Zsp hy12) ?_
 refine zD [6,9] [false,false] ?_
 refine zQ [6,31] ?_
 refine Zo (t:=(y12.2 != 0)) rfl (fun Vu => ?_) (fun Vu => ?_)
 ·replace h:=Zn Vu h
  refine zQ [4,5] ?_
  refine zW ?_
  have h:=Option.some.inj h;subst h
  refine Zh (.inr rfl) hU [nV,(vB false)] (by omega) ?_
  simp only [push_cast,seval,↓reduceIte,Zc,Tryz.results28,hN0,hN]
 replace h:=Zm Vu h
 refine X9 [6] [false,false] ?_
 refine zQ [4,5] ?_
 refine zW ?_
 have h:=Option.some.inj h;subst h
 refine Zh (.inr rfl) hU [(sL (eI .u64) y6.1),(vB true)] (by omega) ?_
 simp only [push_cast,seval,↓reduceIte,Zc,Tryz.results28,hN0,hN]
theorem Z0v {a0:Zj} {r:Int} {O:Objs} {n:Nat} (h:Zhy a0=some r):GTo Tryz.prog 272 [.agg (Zu a0)] O n ((vI r)) O n:=by
 unfold Zhy at h
 refine Yf Zs Tryz.call272 Tryz.func272 rfl (Nat.le_of_ble_eq_true rfl) (Nat.le_refl _) fun hU => ?_
 have hN0:O n=none:=hU.fresh _ (Nat.le_refl _)
 have hN:∀ k,O (n+k)=none:=fun k=>hU.fresh _ (Nat.le_add_right _ _)
 show W _ _ _ _ ⟨20,[],[(0,.agg (Zu a0))]⟩ (Zw O n []) _
 refine zQ [1] ?_
 refine Zd ?_
 refine Zd ?_
 obtain ⟨y2,hy2,h⟩:=bC h
 refine zCd (Qw hy2) [1,4] [true] ?_
 refine Z8 ?_
 refine zQ [1,4,5] ?_
 refine Zo (t:=(y2 == 0)) rfl (fun c11 => ?_) (fun c11 => ?_)
 ·replace h:=Zn c11 h
  refine zQ [2] ?_
  refine zW ?_
  have h:=Option.some.inj h;subst h
  refine Zh (.inr rfl) hU [(vI 0)] (by omega) ?_
  simp only [push_cast,seval,↓reduceIte,Zc,Tryz.results272,hN0,hN]
 replace h:=Zm c11 h
 refine zQ [1,4,7] ?_
 refine Zo (t:=(y2 == 1)) rfl (fun c10 => ?_) (fun c10 => ?_)
 ·replace h:=Zn c10 h
  refine Zd ?_
  obtain ⟨y5,hy5,h⟩:=bC h
  obtain ⟨y6,hy6,h⟩:=bC h
  refine Qf Zs (by kernel_rfl) [] (by kernel_rfl) ?_
  refine zS ?_
  refine PCall.of (Zdm hy5) ?_
  refine zS ?_
  refine PCall.of (Qv hy6) ?_
  refine zS ?_
  refine zD [2] [false] ?_
  refine zW ?_
  have h:=Option.some.inj h;subst h
  refine Zh (.inr rfl) hU [(vI (IntKind.i64.wrap ((IntKind.i64.wrap (1+y5))+y6)))] (by omega) ?_
  simp only [push_cast,seval,↓reduceIte,Zc,Tryz.results272,hN0,hN]
 replace h:=Zm c10 h
 refine zQ [1,15] ?_
 refine Zo (t:=(y2 == 8)) rfl (fun c9 => ?_) (fun c9 => ?_)
 ·replace h:=Zn c9 h
  refine Zd ?_
  obtain ⟨y8,hy8,h⟩:=bC h
  refine zCd (Qv hy8) [2] [false] ?_
  refine zW ?_
  have h:=Option.some.inj h;subst h
  refine Zh (.inr rfl) hU [(vI (IntKind.i64.wrap (1+y8)))] (by omega) ?_
  simp only [push_cast,seval,↓reduceIte,Zc,Tryz.results272,hN0,hN]
 replace h:=Zm c9 h
 refine X9 [] [false] ?_
 refine zQ [2] ?_
 refine zW ?_
 have h:=Option.some.inj h;subst h
 refine Zh (.inr rfl) hU [(vI 1)] (by omega) ?_
 simp only [push_cast,seval,↓reduceIte,Zc,Tryz.results272,hN0,hN]
theorem Z1v {a0:Zj} {r:Bool} {O:Objs} {n:Nat} (h:Zjh a0=some r):GTo Tryz.prog 273 [.agg (Zu a0)] O n ((vB r)) O n:=by
 unfold Zjh at h
 refine Yf Zs Tryz.call273 Tryz.func273 rfl (Nat.le_of_ble_eq_true rfl) (Nat.le_refl _) fun hU => ?_
 have hN0:O n=none:=hU.fresh _ (Nat.le_refl _)
 have hN:∀ k,O (n+k)=none:=fun k=>hU.fresh _ (Nat.le_add_right _ _)
 show W _ _ _ _ ⟨11,[],[(0,.agg (Zu a0))]⟩ (Zw O n []) _
 refine zQ [1] ?_
 obtain ⟨z4,hz4,h⟩:=bC h
 refine Y0 (E':=⟨11,[],[(2,(vB z4))]⟩) (O':=(Zw O n [none])) (n0:=(n+1)) ?_ ?_
 ·obtain ⟨y8,hy8,hz4⟩:=bC hz4
  rcases Bool.eq_false_or_eq_true (y8 == 1) with c11 | c11
  ·replace hz4:=Zn c11 hz4
   refine Q7 [some false,some false,some false] c11 ?_
   refine (Qw hy8).then ?_
   refine zX1 c11 ?_
   exact Qk hz4 c11
  replace hz4:=Zm c11 hz4
  obtain ⟨y9,hy9,hz4⟩:=bC hz4
  obtain ⟨y10,hy10,hz4⟩:=bC hz4
  refine Q7 [some true,some true,some true] c11 ?_
  refine (Qw hy8).then ?_
  refine zX1 c11 ?_
  refine (Qw hy9).then ?_
  refine zX1 c11 ?_
  refine (Zqs hy10).then ?_
  refine zX1 c11 ?_
  exact Qk hz4 c11
 refine zW ?_
 have h:=Option.some.inj h;subst h
 refine Zh (.inr rfl) hU [(vB z4)] (by omega) ?_
 simp only [push_cast,seval,↓reduceIte,Zc,Tryz.results273,hN0,hN]
theorem Z9p {a0:(List Int)} {a1:Int} {a2:Int} {r:Int} {O:Objs} {n:Nat} (h:Zv9 a0 a1 a2=some r):GTo Tryz.prog 298 [(sL (eI .u64) a0),(vI a1),(vI a2)] O n (.val (.int .u64 r)) O n:=by
 unfold Zv9 at h
 refine Yf Zs Tryz.call298 Tryz.func298 rfl (Nat.le_of_ble_eq_true rfl) (Nat.le_refl _) fun hU => ?_
 have hN0:O n=none:=hU.fresh _ (Nat.le_refl _)
 have hN:∀ k,O (n+k)=none:=fun k=>hU.fresh _ (Nat.le_add_right _ _)
 show W _ _ _ _ ⟨45,[],[(0,(sL (eI .u64) a0)),(1,(vI a1)),(2,(vI a2))]⟩ (Zw O n []) _
 refine zQ [0,1,2] ?_
 refine Zd ?_
 obtain ⟨y2,hy2,h⟩:=bC h
 refine zCd (Zhp hy2) [0,2,7] [] ?_
 refine Zd ?_
 refine zQD [0,2,7,20] [none,none] ?_
 refine Zo (t:=(cond (y2.1 == 0) true (decide (a2 < 0)))) rfl (fun c18 => ?_) (fun c18 => ?_)
 ·replace h:=Zn c18 h
  refine zQ [6] ?_
  refine zW ?_
  have h:=Option.some.inj h;subst h
  refine Zh (.inr rfl) hU [.val (.int .u64 0)] (by omega) ?_
  simp only [push_cast,seval,↓reduceIte,Zc,Tryz.results298,hN0,hN]
 replace h:=Zm c18 h
 refine X9 [0,2,7] [] ?_
 obtain ⟨pu4,h⟩:=bG h
 refine Zis [0,2,7,9] (Yu Zs [] ?_)
 simp only [push_cast,seval,↓reduceIte,Zc,pu4,hN0,hN]
 refine Zd ?_
 obtain ⟨pu6,h⟩:=bG h
 refine Zis [0,2,7,9,28] (Yu Zs [] ?_)
 simp only [push_cast,seval,↓reduceIte,Zc,pu6,hN0,hN]
 refine Zo (t:=(decide ((a0.length:Int)≤(IntKind.i64.wrap (Int.tdiv a2 (IntKind.i64.wrap (Int.tdiv 64 y2.1))))))) rfl (fun c17 => ?_) (fun c17 => ?_)
 ·replace h:=Zn c17 h
  refine zQ [6] ?_
  refine zW ?_
  have h:=Option.some.inj h;subst h
  refine Zh (.inr rfl) hU [.val (.int .u64 0)] (by omega) ?_
  simp only [push_cast,seval,↓reduceIte,Zc,Tryz.results298,hN0,hN]
 replace h:=Zm c17 h
 refine X9 [0,2,7,9] [] ?_
 obtain ⟨pu12,h⟩:=bG h
 obtain ⟨x13,hx13,ax13,bx13,cx13,h⟩:=bE (f:=(eI .u64)) Zci (fun _=>rfl) (by decide) h
 obtain ⟨pu14,h⟩:=bG h
 obtain ⟨pu15,h⟩:=bG h
 obtain ⟨pu16,h⟩:=bG h
 refine Zis [6] (Qf Zs (by kernel_rfl) [] (by kernel_rfl) ?_)
 refine zF7 pu12 ax13 bx13 cx13 pu14 pu15 pu16 ?_
 refine zW ?_
 have h:=Option.some.inj h;subst h
 refine Zh (.inr rfl) hU [.val (.int .u64 (IntKind.u64.wrap (Qj .u64 (Int.fdiv x13 (2 ^ min (Int.toNat (IntKind.i64.wrap ((Int.tmod a2 (IntKind.i64.wrap (Int.tdiv 64 y2.1))) * y2.1))) 64)) (IntKind.u64.wrap ((IntKind.u64.wrap (1 * 2 ^ min (Int.toNat y2.1) 64)) - 1)))))] (by omega) ?_
 simp only [push_cast,seval,↓reduceIte,Zc,Tryz.results298,hN0,hN]
theorem Zsn {a0:Zj} {r:Int} {O:Objs} {n:Nat} (h:Zg5 a0=some r):GTo Tryz.prog 257 [.agg (Zu a0)] O n (.val (.int .u64 r)) O n:=by
 unfold Zg5 at h
 refine Yf Zs Tryz.call257 Tryz.func257 rfl (Nat.le_of_ble_eq_true rfl) (Nat.le_refl _) fun hU => ?_
 have hN0:O n=none:=hU.fresh _ (Nat.le_refl _)
 have hN:∀ k,O (n+k)=none:=fun k=>hU.fresh _ (Nat.le_add_right _ _)
 show W _ _ _ _ ⟨42,[],[(0,.agg (Zu a0))]⟩ (Zw O n []) _
 refine zQ [1] ?_
 refine Zd ?_
 obtain ⟨y2,hy2,h⟩:=bC h
 refine zCd (Zhp hy2) [1,3] [true] ?_
 refine Zd ?_
 refine zQ [1,3,15] ?_
 refine Zo (t:=(y2.1 == 0)) rfl (fun Vu => ?_) (fun Vu => ?_)
 ·replace h:=Zn Vu h
  refine zQ [2] ?_
  refine zW ?_
  have h:=Option.some.inj h;subst h
  refine Zh (.inr rfl) hU [.val (.int .u64 0)] (by omega) ?_
  simp only [push_cast,seval,↓reduceIte,Zc,Tryz.results257,hN0,hN]
 replace h:=Zm Vu h
 refine X9 [1,3] [true] ?_
 obtain ⟨pu4,h⟩:=bG h
 refine Zis [1,5] (Yu Zs [] ?_)
 simp only [push_cast,seval,↓reduceIte,Zc,pu4,hN0,hN]
 refine Zd ?_
 obtain ⟨pu7,h⟩:=bG h
 obtain ⟨y8,hy8,h⟩:=bC h
 refine Qf Zs (by kernel_rfl) [] (by kernel_rfl) ?_
 simp only [push_cast,seval,↓reduceIte,Zc,pu7,hN0,hN]
 refine PCall.of (Zca hy8) ?_
 simp only [push_cast,seval,↓reduceIte,Zc,pu7,hN0,hN]
 refine zDs [1,5,6] [true] ?_
 obtain ⟨pu11,h⟩:=bG h
 obtain ⟨y12,hy12,h⟩:=bC h
 refine Znx Zs (by kernel_rfl) [.plain,.pass,.low,.low,.low,.low,.plain,.low,.bar,.plain] (fun i=>i < (n+1)) [0,2,3,4,5,6,7,1,8,9] [.plain,.low,.low,.low,.low,.plain,.low,.pass,.bar,.plain] [] (by kernel_rfl) rfl ?_
 simp only [push_cast,seval,↓reduceIte,Zc,pu11,hN0,hN]
 refine zO ?_
 refine GCalls.lend (Z9p hy12) rfl ?_ ?_
 ·simp only [push_cast,seval,↓reduceIte,Zc,pu11,hN0,hN]
 simp only [push_cast,seval,↓reduceIte,Zc,pu11,hN0,hN]
 refine zO ?_
 refine Vp ⟨42,[],[(2,.val (.int .u64 y12))]⟩ (Zw O n [none,none]) (Z6 hU rfl rfl ?_) ?_
 ·simp only [push_cast,seval,↓reduceIte,Zc,pu11,hN0,hN]
 refine zW ?_
 have h:=Option.some.inj h;subst h
 refine Zh (.inr rfl) hU [.val (.int .u64 y12)] (by omega) ?_
 simp only [push_cast,seval,↓reduceIte,Zc,Tryz.results257,hN0,hN]
end Go.Proofs.YtmlcnhambfkjaaaGreat
