/- Part AM4 of this seat's mirrors: functions of the seat's program, and the plain functions that they are; each theorem bears its own conditions. -/
import Derived.Test.YtmlcnhambfkjaaaGreatAE
import Derived.Test.YtmlcnhambfkjaaaGreatAM1
namespace Go.Proofs.YtmlcnhambfkjaaaGreat
open Go.RowKit
set_option linter.unusedVariables false
set_option linter.unusedSimpArgs false
set_option maxRecDepth 100000
set_option maxHeartbeats 4000000
attribute [local push_cast] vI vB nV sL oR Zg Kz Xm Yw Ze Uz Kf Qp Zu Zxi Zxh Zyk Zyj Yx Ya Zr5 Zmf Zme onW Q8 Zih Zg4 Zxn Zv3 Zpw Zp1 Zpv Zp0 Zta Zs6 Zpz Zs9 Zs8 Zs7 Zpx Zs4 Znh evS wok J7 Op.operands Call.operands gop onK onP atK List.all_cons List.all_nil Bool.and_true Bool.true_and Bool.and_self Value.oneCell' List.take_zero List.take_succ_cons List.take_nil List.drop_zero List.drop_succ_cons List.drop_nil List.append_nil Nat.add_zero Nat.zero_add Zcg Xa ev K4 Zxf Zw7 Zw6 Zxc Zxa Zxb Zw8 Zw9 Zw5 Z0j Z1o Z59 Zoe Zhh Zn2 Zh2 Zo5 Zld Zke Zkj Zl9 Zl5 Zkh Zl8 Zl7 Zl6 Zkg Zl3 Zkf Zki Zi2 Zl4 Zrl Zmg Zeh Zn3 Zei Zqd Zod Z2o bLo bHi bMx Zhi Zqc Z7m Zoc Zq7 Zka Zcv Z1c Z7q Zn0 Zkn Z7t Zhg Z9a Zsb Zsf Zsa Zse Zxu Zxq Zxo Zo8 Zsc Zxt Zxs Zxr Zsd Zxp Zqg Zxj Zsz Zm5 Zm4 pop TK.isAgg Zyc Zyg Zyb Zyf Zsu Z3i Z3e Zye Z3h Z3g Z3f Zyd Z3d G.under G.unders List.getD_cons_zero List.getD_cons_succ List.set_cons_zero List.set_cons_succ List.map_cons List.map_nil List.toList_toArray Array.toList_append Option.toArray_none Option.toArray_some Array.toList_map Option.map_some Option.map_none Option.bind_some Option.bind_none List.getElem?_cons_zero List.getElem?_cons_succ List.getElem?_nil List.nil_append List.cons_append List.replicate_succ List.replicate_zero List.length_cons List.length_nil and_true true_and and_false false_and Bool.true_eq_false Bool.false_eq_true forall_const false_implies implies_true IntKind.bits if_true if_false ite_true ite_false eq_self true_implies false_or or_false or_true true_or not_true_eq_false not_false_eq_true decide_true decide_false decide_eq_true_eq decide_eq_false_iff_not beq_iff_eq bne_iff_ne ne_eq Bool.not_eq_true Bool.not_eq_false beq_eq_false_iff_ne bne_eq_false_iff_eq beq_self_eq_true bne_self_eq_false Option.some.injEq exists_eq_left' exists_eq_left ge_iff_le gt_iff_lt decide_not Bool.not_true Bool.not_false imp_self Z2p cond_true cond_false Yd9 Yd8 Bool.not_not Bool.and_false Bool.false_and Bool.or_true Bool.true_or Bool.or_false Bool.false_or Zfm Zlq Ga Vb Jj Ql Option.join_some Nat.add_assoc Int.toNat_natCast eI eB eS eL U1 Zlx Zkp Zxm Zxk Zxl Z9s Ybv Zlz Zk1 Zyr Zyp Zyq Z6l Zr4 Z2i Zs2 Z2h Zgw Z0h List.length_append G.agg.injEq G.row.injEq G.ref.injEq G.val.injEq G.sl.injEq G.tup.injEq Value.int.injEq Value.bool.injEq Value.string.injEq List.cons.injEq exists_and_left exists_const List.flatten_cons List.flatten_nil Int.le_refl Nat.le_refl Zgp J0 Zbq Bool.not_eq_true' Bool.not_eq_false' Zz5 Zno Z52 Z56 Z51 Z55 Ya6 Ya1 List.size_toArray Zyv Zyw G.ren G.rens Z1y Zlh Zyy Zw2 Zw3 Zs5 Z57 Zhb G.fn.injEq Zp5 Zu2 Zz3 Ya2 Zu1 Z54 Ya5 Ya4 Ya3 Z53 Z2x Z9i Option.join_none Xw Zae undef Zq8 Arr.len Arr.put_eq Zly Zpm Zm0 Zk0 Zyo Zym Zyn onB Z9r Z1a Zs3 Zo0 Zrs Zrt Zru Zrv Zrw Zrx Zpc Zpq Zpo Zm3 Zk2 Zpp Zsy Zsx Zsw Zsv Ybu Ydn Z6k Z3k Uf Z6c Zxy Zpr Zm2 Z8a Zy1 Zob Zq6 Zjq Zps Zry Zrz Zr0 Zr1 Zos Zot Zou Zov Zow Zox Zoy Zkk prT Zh4 Yfy Z5p Z5f Z5q Yfz Z5r Z6p Z5s Yf0 Z5t Yf1 Z5u Yf2 Z5v Yf3 Z5w Z95 Zy5 Z96 Zy6 Z97 Zy7 Z98 Zy8 Z99 Zy9 Yaa Zza Yab Zzb Yac Zzc Yad Zzd Yae Zze Yaf Zzf Zv0 Zjs Z44 Zn9 Yag Zzg G7 Zzh Yah Zzi Yai Zzj Yaj Zzk Yak Zzl Zrk Zzm Yal Zzn Yam Zzo Yan Zzp Yao Zzq Yap Zvi Yaq Zzr Yar Zzs Zci Zzt Yas Zzu Yat Zzv Ztb Zzw Yau Zzx Zp2 Zzy Yav Zzz Zk9 Zz0 Z3z Ztc Z30 Ztd Z31 Zte Z32 Ztf Z33 Ztg Z34 Zth Z35 Zti Z36 Ztj Z37 Ztk Z38 Ztl Z39 Ztm Z4a Ztn Z4b Zto Z4c Ztp Z4d Ztq Z4e Ztr Z4f Zts Z4g Ztt Z4h Ztu Z4i Ztv Z4j Ztw Z4k Ztx Z4l Zty Zwq Zp3 Z4m Ztz Z4n Zt0 Z4o Zt1 Z4p Zt2 Z4q Zt3 Z4r Zt4 Z4s Zt5 Z4t Zt6 Z4u Zt7 Z4v Zt8 Z4w Zt9 Z4x Zua Z4y Zub Z4z Zuc Z40 Zud Z41 Zue Z42 Zuf Z43 Zug Z45 Zuh Z46 Zui Z47 Zuj Z48 Zuk Z49 Zul Z5a Zum Z5b Zun Z5c Zuo Z5d Zup Z5e Zuq Z5g Zur Z5h Zus Z5i Zut Z5j Zuu Z5k Zuv Z5l Zuw Z5m Zux Z5n Zuy Zb Y4 Znq Znn Zmj Zmy Zns Zlb Zk6 Zk4 Znk Zd9 Zd8 Zdw Zd3 Zea Zc9 Zc8 Zc7 Zd7 Zq Qy Zp Zx Xh Y6 Xv Zac Zab Gp Gz Zad Uu Us Ur G8 Zba Za8 Za0 Za4 Zbc G9 G4 G0 Za6 Zgr Zgq Zf4 Zgg Zgu Zff Zfd Zfc Zgn Zp7 Zp6 Zo6 Zpk Zp8 Znl Znb Zna Zp4 Znp Znm Zmi Zmx Znr Zla Zk5 Zk3 Znj Zkm Zez Zhu Zht Zhj Zhq Zhv Zgo Zgj Zgi Zhs Zv Zbb Za9 Za1 Za5 Zbd Zaa G5 G3 Za7 Zf0 Zkl Zf1 Yl Uw Uv Uo Uq Ux V6 V5 V4 Ut Yd Vl Vk Vd Vh Vm Ky Kw Kv Vj
theorem Zoi {a0:Za} {r:Bool} {O:Objs} {n:Nat} (h:Zgx a0=some r):GTo Tryz.prog 167 [.agg (Ze a0)] O n ((vB r)) O n:=by
 unfold Zgx at h
 refine Yf Zs Tryz.call167 Tryz.func167 rfl (Nat.le_of_ble_eq_true rfl) (Nat.le_refl _) fun hU => ?_
 have hN0:O n=none:=hU.fresh _ (Nat.le_refl _)
 have hN:∀ k,O (n+k)=none:=fun k=>hU.fresh _ (Nat.le_add_right _ _)
 show W _ _ _ _ ⟨10,[],[(0,.agg (Ze a0))]⟩ (Zw O n []) _
 refine zQ [1] ?_
 obtain ⟨z2,hz2,h⟩:=bC h
 refine Y0 (E':=⟨10,[],[(2,(vB z2))]⟩) (O':=(Zw O n [none])) (n0:=(n+1)) ?_ ?_
 ·rcases Bool.eq_false_or_eq_true (a0.Kind != 10) with c5 | c5
  ·replace hz2:=Zn c5 hz2
   obtain ⟨y4,hy4,hz2⟩:=bC hz2
   refine Q7 [some true,some true] c5 ?_
   refine (Zom hy4).then ?_
   refine zX1 c5 ?_
   exact Qk hz2 c5
  replace hz2:=Zm c5 hz2
  refine Q7 [some false,some false] c5 ?_
  exact Qk hz2 c5
 refine zW ?_
 have h:=Option.some.inj h;subst h
 refine Zh (.inr rfl) hU [(vB z2)] (by omega) ?_
 simp only [push_cast,seval,↓reduceIte,Zc,Tryz.results167,hN0,hN]
theorem Z78 {a0:Int} {r:Int} {O:Objs} {n:Nat} (h:Zil a0=some r):GTo Tryz.prog 229 [.val (.int .u8 a0)] O n (.val (.int .u64 r)) O n:=by
 unfold Zil at h
 refine Yf Zs Tryz.call229 Tryz.func229 rfl (Nat.le_of_ble_eq_true rfl) (Nat.le_refl _) fun hU => ?_
 have hN0:O n=none:=hU.fresh _ (Nat.le_refl _)
 have hN:∀ k,O (n+k)=none:=fun k=>hU.fresh _ (Nat.le_add_right _ _)
 show W _ _ _ _ ⟨20,[],[(0,.val (.int .u8 a0))]⟩ (Zw O n []) _
 refine zQ [0] ?_
 refine zQ [0,3] ?_
 refine Zd ?_
 refine zQd [0,3,5] [0,3,5] [] ?_
 obtain ⟨z7,hz7,h⟩:=bC h
 refine Yi (E':=⟨20,[],[(3,.val (.int .u64 z7))]⟩) (O':=(Zw O n [])) (n0:=n) ?_ ?_
 ·refine Y2 hz7 (fun s0_=>⟨20,[],[(0,.val (.int .u8 a0)),(3,.val (.int .u64 s0_.1)),(5,(vI s0_.2))]⟩) (fun s0_=>(Zw O n [])) (fun z7=>JX 0 n (⟨20,[],[(3,.val (.int .u64 z7))]⟩:Env) (Zw O n []) n) ?_
  intro s0_ x0_ hs0_
  unfold Zgc at hs0_
  try dsimp only
  refine zQ [0,3,5,6] ?_
  refine Zd ?_
  refine Zo (t:=(decide (s0_.2 < 8))) rfl (fun c6 => ?_) (fun c6 => ?_)
  ·replace hs0_:=Zn c6 hs0_
   refine X9 [0,3,5] [] ?_
   obtain ⟨z1,hz1,hs0_⟩:=bC hs0_
   refine Y0 (E':=⟨20,[],[(0,.val (.int .u8 a0)),(3,.val (.int .u64 z1)),(5,(vI s0_.2))]⟩) (O':=(Zw O n [])) (n0:=n) ?_ ?_
   ·refine Z8 ?_
    refine zQ [0,3,4,5] ?_
    obtain ⟨pu3,hz1⟩:=bG hz1
    refine Zis [0,3,4,5,12] (Yu Zs [] ?_)
    simp only [push_cast,seval,↓reduceIte,Zc,pu3,hN0,hN]
    refine Zo (t:=((IntKind.u8.wrap (Qj .u8 (Int.fdiv a0 (2 ^ min (Int.toNat s0_.2) 8)) 1)) == 1)) rfl (fun c5 => ?_) (fun c5 => ?_)
    ·replace hz1:=Zn c5 hz1
     obtain ⟨pu4,hz1⟩:=bG hz1
     refine Yu Zs [] ?_
     simp only [push_cast,seval,↓reduceIte,Zc,pu4,hN0,hN]
     have hz1:=Option.some.inj hz1;subst hz1
     refine And.intro rfl (Fit2.of (Z6 hU rfl rfl ?_) (by omega))
     simp only [push_cast,seval,↓reduceIte,Zc,pu4,hN0,hN]
    replace hz1:=Zm c5 hz1
    refine zK ?_
    exact zEn hz1
   refine zR ?_
   exact zEn hs0_
  replace hs0_:=Zm c6 hs0_
  exact zEx hs0_
 try simp only [Yx,Ya,↓reduceIte,Nat.reduceEqDiff]
 refine zD [3] [] ?_
 refine zQ [2] ?_
 refine zW ?_
 have h:=Option.some.inj h;subst h
 refine Zh (.inr rfl) hU [.val (.int .u64 z7)] (by omega) ?_
 simp only [push_cast,seval,↓reduceIte,Zc,Tryz.results229,hN0,hN]
theorem Zmr {a0:(List Zz)} {r:Bool} {O:Objs} {n:Nat} (h:Zc0 a0=some r):GTo Tryz.prog 168 [(sL Zq a0)] O n ((vB r)) O n:=by
 unfold Zc0 at h
 refine Yf Zs Tryz.call168 Tryz.func168 rfl (Nat.le_of_ble_eq_true rfl) (Nat.le_refl _) fun hU => ?_
 have hN0:O n=none:=hU.fresh _ (Nat.le_refl _)
 have hN:∀ k,O (n+k)=none:=fun k=>hU.fresh _ (Nat.le_add_right _ _)
 show W _ _ _ _ ⟨48,[],[(0,(sL Zq a0))]⟩ (Zw O n []) _
 refine zQ [0] ?_
 refine zQ [0,3] ?_
 refine Zd ?_
 refine zQd [3,7,8,9] [3,7,8,9] [] ?_
 obtain ⟨z7,hz7,h⟩:=bC h
 refine Zbe (J:=(Xx (fun z7=>JR n (⟨48,[],[(2,(vB false))]⟩:Env) (Zw O n []) n) (fun z7=>JX 0 n (⟨48,[],[]⟩:Env) (Zw O n []) n))) (z:=z7) ?_ fun hw => ?_
 ·refine Y2 hz7 (fun s0_=>⟨48,[],[(3,(vI s0_.1)),(7,(sL Zq a0)),(8,(vI (a0.length:Int))),(9,(vI s0_.2))]⟩) (fun s0_=>(Zw O n [])) (Xx (fun z7=>JR n (⟨48,[],[(2,(vB false))]⟩:Env) (Zw O n []) n) (fun z7=>JX 0 n (⟨48,[],[]⟩:Env) (Zw O n []) n)) ?_
  intro s0_ x0_ hs0_
  unfold Gt at hs0_
  try dsimp only
  refine zQ [3,7,8,9,10] ?_
  refine Zd ?_
  refine Zo (t:=(decide (s0_.2 < (a0.length:Int)))) rfl (fun c6 => ?_) (fun c6 => ?_)
  ·replace hs0_:=Zn c6 hs0_
   refine X9 [3,7,8,9] [] ?_
   refine Zd ?_
   refine Z8 ?_
   refine Zd ?_
   obtain ⟨x2,hx2,ax2,bx2,cx2,hs0_⟩:=bE (f:=Zq) Ztb (fun _=>rfl) (by decide) hs0_
   refine Zck [] ax2 bx2 cx2 ?_
   refine zDs [3,5,7,8,9] [true] ?_
   obtain ⟨y4,hy4,hs0_⟩:=bC hs0_
   refine zCd (Z78 hy4) [3,5,6,7,8,9] [true] ?_
   refine Zd ?_
   refine zQD [5,7,8,9,44] [none,none,none,none,none,none,none,none,none,none,none,none,none,none,none,none] ?_
   refine Zo (t:=(cond (cond (cond (cond (decide (x2.At≤s0_.1)) true (decide (65534 < x2.At))) true (x2.Mask == 0)) true ((IntKind.u64.wrap (Qj .u64 x2.Old (IntKind.u64.wrap (Zq9 .u64 (if IntKind.signed .u64=true then -1 else IntKind.max .u64) y4)))) != 0)) true ((IntKind.u64.wrap (Qj .u64 x2.New (IntKind.u64.wrap (Zq9 .u64 (if IntKind.signed .u64=true then -1 else IntKind.max .u64) y4)))) != 0))) rfl (fun c5 => ?_) (fun c5 => ?_)
   ·replace hs0_:=Zn c5 hs0_
    refine zQ [2] ?_
    refine zW ?_
    exact zEy hs0_
   replace hs0_:=Zm c5 hs0_
   refine X9 [5,7,8,9] [true] ?_
   refine zRd [3,7,8,9] [false] ?_
   refine zR ?_
   exact zEn hs0_
  replace hs0_:=Zm c6 hs0_
  exact zEx hs0_
 rcases z7 with z7 | z7
 ·dsimp only [Xx] at hw h
  refine Jt hw ?_
  try simp only [Yx,Ya,↓reduceIte,Nat.reduceEqDiff]
  have h:=Option.some.inj h;subst h
  refine Zh (.inr rfl) hU [(vB false)] (by omega) ?_
  simp only [push_cast,seval,↓reduceIte,Zc,Tryz.results168,hN0,hN]
 dsimp only [Xx] at hw h
 refine Yi hw ?_
 try simp only [Yx,Ya,↓reduceIte,Nat.reduceEqDiff]
 refine zD [] [] ?_
 refine zQ [2] ?_
 refine zW ?_
 have h:=Option.some.inj h;subst h
 refine Zh (.inr rfl) hU [(vB true)] (by omega) ?_
 simp only [push_cast,seval,↓reduceIte,Zc,Tryz.results168,hN0,hN]
theorem Zpe {a0:Int} {a1:Zf} {r:Bool} {O:Objs} {n:Nat} (h:Ze1 a0 a1=some r):GTo Tryz.prog 279 [(vI a0),.agg (Zg a1)] O n ((vB r)) O n:=by
 unfold Ze1 at h
 refine Yf Zs Tryz.call279 Tryz.func279 rfl (Nat.le_of_ble_eq_true rfl) (Nat.le_refl _) fun hU => ?_
 have hN0:O n=none:=hU.fresh _ (Nat.le_refl _)
 have hN:∀ k,O (n+k)=none:=fun k=>hU.fresh _ (Nat.le_add_right _ _)
 show W _ _ _ _ ⟨33,[],[(0,(vI a0)),(1,.agg (Zg a1))]⟩ (Zw O n []) _
 refine zQ [0,3] ?_
 refine Zd ?_
 refine zQ [3,5] ?_
 refine Z8 ?_
 refine zQ [3,5,6] ?_
 refine Zo (t:=(a0 == 8)) rfl (fun c2 => ?_) (fun c2 => ?_)
 ·replace h:=Zn c2 h
  refine zQ [4] ?_
  refine zW ?_
  have h:=Option.some.inj h;subst h
  refine Zh (.inr rfl) hU [(vB (a1.Kind != 0))] (by omega) ?_
  simp only [push_cast,seval,↓reduceIte,Zc,Tryz.results279,hN0,hN]
 replace h:=Zm c2 h
 refine zQ [3,11] ?_
 refine Zo (t:=(a0 == 9)) rfl (fun c1 => ?_) (fun c1 => ?_)
 ·replace h:=Zn c1 h
  refine zQD [4] [none,none,none,none,none,none,none,none,none,none,none,none,none,none,none] ?_
  refine zW ?_
  have h:=Option.some.inj h;subst h
  refine Zh (.inr rfl) hU [(vB (cond (a1.Kind == 2) true (cond (cond (a1.Kind == 1) (a1.Old.Kind == 1) false) (a1.New.Kind == 1) false)))] (by omega) ?_
  simp only [push_cast,seval,↓reduceIte,Zc,Tryz.results279,hN0,hN]
 replace h:=Zm c1 h
 refine X9 [] [false] ?_
 refine zQ [4] ?_
 refine zW ?_
 have h:=Option.some.inj h;subst h
 refine Zh (.inr rfl) hU [(vB false)] (by omega) ?_
 simp only [push_cast,seval,↓reduceIte,Zc,Tryz.results279,hN0,hN]
theorem Zrb {a0:Zt} {r:Int} {O:Objs} {n:Nat} (h:Zdz a0=some r):GTo Tryz.prog 280 [.agg (Yw a0)] O n ((vI r)) O n:=by
 unfold Zdz at h
 refine Yf Zs Tryz.call280 Tryz.func280 rfl (Nat.le_of_ble_eq_true rfl) (Nat.le_refl _) fun hU => ?_
 have hN0:O n=none:=hU.fresh _ (Nat.le_refl _)
 have hN:∀ k,O (n+k)=none:=fun k=>hU.fresh _ (Nat.le_add_right _ _)
 show W _ _ _ _ ⟨19,[],[(0,.agg (Yw a0))]⟩ (Zw O n []) _
 refine zQ [1] ?_
 refine Zd ?_
 refine zQ [1,4] ?_
 refine Z8 ?_
 refine zQ [1,4,5] ?_
 refine Zo (t:=(a0.Kind == 0)) rfl (fun c5 => ?_) (fun c5 => ?_)
 ·replace h:=Zn c5 h
  refine zQ [2] ?_
  refine zW ?_
  have h:=Option.some.inj h;subst h
  refine Zh (.inr rfl) hU [(vI (if 1048576 < (if a0.N < 0 then 0 else a0.N) then 1048576 else (if a0.N < 0 then 0 else a0.N)))] (by omega) ?_
  simp only [push_cast,seval,↓reduceIte,Zc,Tryz.results280,hN0,hN]
 replace h:=Zm c5 h
 obtain ⟨z1,hz1,h⟩:=bC h
 refine Y0 (E':=⟨19,[],[(1,.ref n 0),(4,(vI a0.Kind)),(11,(vB z1))]⟩) (O':=(Zw O n [some ⟨false,89,14,1,(Yw a0)⟩])) (n0:=(n+1)) ?_ ?_
 ·refine zQ [1,4,11] ?_
  refine Zo (t:=(a0.Kind == 1)) rfl (fun c2 => ?_) (fun c2 => ?_)
  ·replace hz1:=Zn c2 hz1
   refine zK ?_
   exact zEn hz1
  replace hz1:=Zm c2 hz1
  refine zR ?_
  exact zEn hz1
 refine Zo (t:=z1) rfl (fun c4 => ?_) (fun c4 => ?_)
 ·replace h:=Zn c4 h
  refine zQ [2] ?_
  refine zW ?_
  have h:=Option.some.inj h;subst h
  refine Zh (.inr rfl) hU [(vI (a0.L.length:Int))] (by omega) ?_
  simp only [push_cast,seval,↓reduceIte,Zc,Tryz.results280,hN0,hN]
 replace h:=Zm c4 h
 refine zQ [17] ?_
 refine Zo (t:=(a0.Kind == 3)) rfl (fun c3 => ?_) (fun c3 => ?_)
 ·replace h:=Zn c3 h
  refine zQ [2] ?_
  refine zW ?_
  have h:=Option.some.inj h;subst h
  refine Zh (.inr rfl) hU [(vI 1)] (by omega) ?_
  simp only [push_cast,seval,↓reduceIte,Zc,Tryz.results280,hN0,hN]
 replace h:=Zm c3 h
 refine X9 [] [false] ?_
 refine zQ [2] ?_
 refine zW ?_
 have h:=Option.some.inj h;subst h
 refine Zh (.inr rfl) hU [(vI 0)] (by omega) ?_
 simp only [push_cast,seval,↓reduceIte,Zc,Tryz.results280,hN0,hN]
theorem Z1s {a0:Zf} {r:(Int×Int)} {O:Objs} {n:Nat} (h:Zf6 a0=some r):GTo Tryz.prog 231 [.agg (Zg a0)] O n (.tup [(vI r.1),(vI r.2)]) O n:=by
 unfold Zf6 at h
 refine Yf Zs Tryz.call231 Tryz.func231 rfl (Nat.le_of_ble_eq_true rfl) (Nat.le_refl _) fun hU => ?_
 have hN0:O n=none:=hU.fresh _ (Nat.le_refl _)
 have hN:∀ k,O (n+k)=none:=fun k=>hU.fresh _ (Nat.le_add_right _ _)
 show W _ _ _ _ ⟨34,[],[(0,.agg (Zg a0))]⟩ (Zw O n []) _
 refine zQ [1] ?_
 refine zQ [1,4,5] ?_
 refine Zd ?_
 refine zQd [4,5,9,10,11] [4,5,9,10,11] [false] ?_
 obtain ⟨z10,hz10,h⟩:=bC h
 refine Yi (E':=⟨34,[],[(4,(vI z10.1)),(5,(vI z10.2))]⟩) (O':=(Zw O n [none])) (n0:=(n+1)) ?_ ?_
 ·refine Y2 hz10 (fun s0_=>⟨34,[],[(4,(vI s0_.1)),(5,(vI s0_.2.1)),(9,(sL Zx a0.Ops)),(10,(vI (a0.Ops.length:Int))),(11,(vI s0_.2.2))]⟩) (fun s0_=>(Zw O n [none])) (fun z10=>JX 0 n (⟨34,[],[(4,(vI z10.1)),(5,(vI z10.2))]⟩:Env) (Zw O n [none]) (n+1)) ?_
  intro s0_ x0_ hs0_
  unfold Zcz at hs0_
  try dsimp only
  refine zQ [4,5,9,10,11,12] ?_
  refine Zd ?_
  refine Zo (t:=(decide (s0_.2.2 < (a0.Ops.length:Int)))) rfl (fun c9 => ?_) (fun c9 => ?_)
  ·replace hs0_:=Zn c9 hs0_
   refine X9 [4,5,9,10,11] [false] ?_
   obtain ⟨z1,hz1,hs0_⟩:=bC hs0_
   refine Y0 (E':=⟨34,[],[(4,(vI z1.1)),(5,(vI z1.2)),(9,(sL Zx a0.Ops)),(10,(vI (a0.Ops.length:Int))),(11,(vI s0_.2.2))]⟩) (O':=(Zw O n [none,none])) (n0:=(n+2)) ?_ ?_
   ·refine Z8 ?_
    refine Zd ?_
    obtain ⟨x3,hx3,ax3,bx3,cx3,hz1⟩:=bE (f:=Zx) Zk9 (fun _=>rfl) (by decide) hz1
    refine Zck [] ax3 bx3 cx3 ?_
    refine zD [4,5,7,9,10,11] [false,true] ?_
    obtain ⟨z4,hz4,hz1⟩:=bC hz1
    refine Y0 (E':=⟨34,[],[(4,(vI z4)),(5,(vI s0_.2.1)),(7,.ref (n+1) 0),(9,(sL Zx a0.Ops)),(10,(vI (a0.Ops.length:Int))),(11,(vI s0_.2.2))]⟩) (O':=(Zw O n [none,some ⟨false,89,14,1,(Yw x3)⟩])) (n0:=(n+2)) ?_ ?_
    ·refine zQ [4,5,7,9,10,11,17] ?_
     refine Zo (t:=(x3.Kind != 2)) rfl (fun c6 => ?_) (fun c6 => ?_)
     ·replace hz4:=Zn c6 hz4
      obtain ⟨y5,hy5,hz4⟩:=bC hz4
      refine zC (Zrb hy5) ?_
      exact zEn hz4
     replace hz4:=Zm c6 hz4
     refine zK ?_
     exact zEn hz4
    refine zQ [4,5,7,9,10,11,25] ?_
    refine Zo (t:=(x3.Kind != 1)) rfl (fun c8 => ?_) (fun c8 => ?_)
    ·replace hz1:=Zn c8 hz1
     obtain ⟨y7,hy7,hz1⟩:=bC hz1
     refine zC (Zrb hy7) ?_
     exact zEn hz1
    replace hz1:=Zm c8 hz1
    refine zK ?_
    exact zEn hz1
   refine zR ?_
   exact zEn hs0_
  replace hs0_:=Zm c9 hs0_
  exact zEx hs0_
 try simp only [Yx,Ya,↓reduceIte,Nat.reduceEqDiff]
 refine zD [4,5] [false] ?_
 refine zQ [2,3] ?_
 refine zW ?_
 have h:=Option.some.inj h;subst h
 refine Zh (.inr rfl) hU [(vI z10.1),(vI z10.2)] (by omega) ?_
 simp only [push_cast,seval,↓reduceIte,Zc,Tryz.results231,hN0,hN]
def Zau (Y9:(Zf→Option Bool)):Prop:=∀ {a0:Zf} {r:Bool} {O:Objs} {n:Nat},Y9 a0=some r→GTo Tryz.prog 59 [.agg (Zg a0)] O n ((vB r)) O n
def Zav (Y3:(Zf→Int→Option Bool)):Prop:=∀ {a0:Zf} {a1:Int} {r:Bool} {O:Objs} {n:Nat},Y3 a0 a1=some r→GTo Tryz.prog 104 [.agg (Zg a0),(vI a1)] O n ((vB r)) O n
def Kb (Yh:((List Zl)→Int→Option Bool)):Prop:=∀ {a0:(List Zl)} {a1:Int} {r:Bool} {O:Objs} {n:Nat},Yh a0 a1=some r→GTo Tryz.prog 169 [(sL Zp a0),(vI a1)] O n ((vB r)) O n
def Va (Yq:(Zf→Int→Option Bool)):Prop:=∀ {a0:Zf} {a1:Int} {r:Bool} {O:Objs} {n:Nat},Yq a0 a1=some r→GTo Tryz.prog 170 [.agg (Zg a0),(vI a1)] O n ((vB r)) O n
def V2 (Yr:(Int→Zt→Int→Option Bool)):Prop:=∀ {a0:Int} {a1:Zt} {a2:Int} {r:Bool} {O:Objs} {n:Nat},Yr a0 a1 a2=some r→GTo Tryz.prog 230 [(vI a0),.agg (Yw a1),(vI a2)] O n ((vB r)) O n
def Kc (Ye:(Bool→Bool→Bool→Zt→Option Bool)):Prop:=∀ {a0:Bool} {a1:Bool} {a2:Bool} {a3:Zt} {r:Bool} {O:Objs} {n:Nat},Ye a0 a1 a2 a3=some r→GTo Tryz.prog 278 [(vB a0),(vB a1),(vB a2),.ip (Yw a3) 0] O n ((vB r)) O n
theorem Z25 {Y9:(Zf→Option Bool)} {Y3:(Zf→Int→Option Bool)} {Yh:((List Zl)→Int→Option Bool)} {Yq:(Zf→Int→Option Bool)} {Yr:(Int→Zt→Int→Option Bool)} {Ye:(Bool→Bool→Bool→Zt→Option Bool)} (K2:Zau Y9) (Ua:Zav Y3) (V8:Kb Yh) (U8:Va Yq) (Zak:V2 Yr) (Xs:Kc Ye) {a0:Zf} {r:Bool} {O:Objs} {n:Nat} (h:Ziv Y9 Y3 Yh Yq Yr Ye a0=some r):GTo Tryz.prog 59 [.agg (Zg a0)] O n ((vB r)) O n:=by
 unfold Ziv at h
 refine Yf Zs Tryz.call59 Tryz.func59 rfl (Nat.le_of_ble_eq_true rfl) (Nat.le_refl _) fun hU => ?_
 have hN0:O n=none:=hU.fresh _ (Nat.le_refl _)
 have hN:∀ k,O (n+k)=none:=fun k=>hU.fresh _ (Nat.le_add_right _ _)
 show W _ _ _ _ ⟨5,[],[(0,.agg (Zg a0))]⟩ (Zw O n []) _
 refine zQ [1] ?_
 refine Zd ?_
 obtain ⟨y2,hy2,h⟩:=bC h
 refine zCd (Ua hy2) [2] [false] ?_
 refine zW ?_
 have h:=Option.some.inj h;subst h
 refine Zh (.inr rfl) hU [(vB y2)] (by omega) ?_
 simp only [push_cast,seval,↓reduceIte,Zc,Tryz.results59,hN0,hN]
theorem Z26 {Y9:(Zf→Option Bool)} {Y3:(Zf→Int→Option Bool)} {Yh:((List Zl)→Int→Option Bool)} {Yq:(Zf→Int→Option Bool)} {Yr:(Int→Zt→Int→Option Bool)} {Ye:(Bool→Bool→Bool→Zt→Option Bool)} (K2:Zau Y9) (Ua:Zav Y3) (V8:Kb Yh) (U8:Va Yq) (Zak:V2 Yr) (Xs:Kc Ye) {a0:Zf} {a1:Int} {r:Bool} {O:Objs} {n:Nat} (h:Ziw Y9 Y3 Yh Yq Yr Ye a0 a1=some r):GTo Tryz.prog 104 [.agg (Zg a0),(vI a1)] O n ((vB r)) O n:=by
 unfold Ziw at h
 refine Yf Zs Tryz.call104 Tryz.func104 rfl (Nat.le_of_ble_eq_true rfl) (Nat.le_refl _) fun hU => ?_
 have hN0:O n=none:=hU.fresh _ (Nat.le_refl _)
 have hN:∀ k,O (n+k)=none:=fun k=>hU.fresh _ (Nat.le_add_right _ _)
 show W _ _ _ _ ⟨55,[],[(0,.agg (Zg a0)),(1,(vI a1))]⟩ (Zw O n []) _
 refine zQ [1,2] ?_
 refine Zd ?_
 refine zQ [1,2,7] ?_
 refine Zo (t:=(a1 == 0)) rfl (fun c39 => ?_) (fun c39 => ?_)
 ·replace h:=Zn c39 h
  refine zQ [4] ?_
  refine zW ?_
  have h:=Option.some.inj h;subst h
  refine Zh (.inr rfl) hU [(vB false)] (by omega) ?_
  simp only [push_cast,seval,↓reduceIte,Zc,Tryz.results104,hN0,hN]
 replace h:=Zm c39 h
 refine X9 [1,2] [true] ?_
 refine Vp ⟨55,[],[(1,(vI a1)),(2,.ip (Zg a0) 0)]⟩ (Zw O n [none]) (Z6 hU rfl rfl ?_) ?_
 ·exact zSe
 refine zQ [1,2,5] ?_
 refine Zd ?_
 refine zQ [1,2,5,10] ?_
 refine Z8 ?_
 refine zQ [1,2,5,10,11] ?_
 refine Zo (t:=(a0.Kind == 0)) rfl (fun c38 => ?_) (fun c38 => ?_)
 ·replace h:=Zn c38 h
  refine Zd ?_
  obtain ⟨y2,hy2,h⟩:=bC h
  refine zR ?_
  refine GCalls.argsW ?_ ((K1 hy2).then ?_)
  ·exact zSe
  refine zS ?_
  refine zD [4] [false] ?_
  refine zW ?_
  have h:=Option.some.inj h;subst h
  refine Zh (.inr rfl) hU [(vB y2)] (by omega) ?_
  simp only [push_cast,seval,↓reduceIte,Zc,Tryz.results104,hN0,hN]
 replace h:=Zm c38 h
 refine zQ [1,2,5,10,15] ?_
 refine Zo (t:=(a0.Kind == 1)) rfl (fun c37 => ?_) (fun c37 => ?_)
 ·replace h:=Zn c37 h
  obtain ⟨z6,hz6,h⟩:=bC h
  refine Y0 (E':=⟨55,[],[(4,(vB z6))]⟩) (O':=(Zw O n [none])) (n0:=(n+1)) ?_ ?_
  ·obtain ⟨y10,hy10,hz6⟩:=bC hz6
   rcases Bool.eq_false_or_eq_true y10 with Vu | Vu
   ·replace hz6:=Zn Vu hz6
    obtain ⟨y11,hy11,hz6⟩:=bC hz6
    rcases Bool.eq_false_or_eq_true y11 with Qs | Qs
    ·replace hz6:=Zn Qs hz6
     try rw [Qs] at Vu
     obtain ⟨y12,hy12,hz6⟩:=bC hz6
     refine X2 [some true,some true,some true,some true,some true,some true] Vu Qs ?_
     refine GCalls.argsW ?_ ((K1 hy10).then ?_)
     ·exact Q9 Vu Qs
     refine zX2 Vu Qs ?_
     refine (Zoi hy11).then ?_
     refine zX2 Vu Qs ?_
     refine (Zoi hy12).then ?_
     refine zX2 Vu Qs ?_
     exact Zcj hz6 Vu Qs
    replace hz6:=Zm Qs hz6
    try rw [Qs] at Vu
    refine X2 [some true,some true,some true,some false,some false,some false] Vu Qs ?_
    refine GCalls.argsW ?_ ((K1 hy10).then ?_)
    ·exact Q9 Vu Qs
    refine zX2 Vu Qs ?_
    refine (Zoi hy11).then ?_
    refine zX2 Vu Qs ?_
    exact Zcj hz6 Vu Qs
   replace hz6:=Zm Vu hz6
   refine Q7 [some false,some false,some false,some false,some false,some false] Vu ?_
   refine GCalls.argsW ?_ ((K1 hy10).then ?_)
   ·exact Ydx Vu
   refine zX1 Vu ?_
   exact Qk hz6 Vu
  refine zW ?_
  have h:=Option.some.inj h;subst h
  refine Zh (.inr rfl) hU [(vB z6)] (by omega) ?_
  simp only [push_cast,seval,↓reduceIte,Zc,Tryz.results104,hN0,hN]
 replace h:=Zm c37 h
 refine zQ [1,2,5,10,29] ?_
 refine Zo (t:=(a0.Kind == 2)) rfl (fun c36 => ?_) (fun c36 => ?_)
 ·replace h:=Zn c36 h
  obtain ⟨z18,hz18,h⟩:=bC h
  refine Y0 (E':=⟨55,[],[(4,(vB z18))]⟩) (O':=(Zw O n [none])) (n0:=(n+1)) ?_ ?_
  ·obtain ⟨y22,hy22,hz18⟩:=bC hz18
   rcases Bool.eq_false_or_eq_true y22 with c25 | c25
   ·replace hz18:=Zn c25 hz18
    obtain ⟨y23,hy23,hz18⟩:=bC hz18
    rcases Bool.eq_false_or_eq_true y23 with c26 | c26
    ·replace hz18:=Zn c26 hz18
     try rw [c26] at c25
     obtain ⟨y24,hy24,hz18⟩:=bC hz18
     refine X2 [some true,some true,some true,some true,some true,some true,some true,some true] c25 c26 ?_
     refine GCalls.argsW ?_ ((K1 hy22).then ?_)
     ·exact Q9 c25 c26
     refine zX2 c25 c26 ?_
     refine (Zmr hy23).then ?_
     refine zX2 c25 c26 ?_
     refine (V8 hy24).then ?_
     refine zX2 c25 c26 ?_
     exact Zcj hz18 c25 c26
    replace hz18:=Zm c26 hz18
    try rw [c26] at c25
    refine X2 [some true,some true,some true,some false,some false,some false,some false,some false] c25 c26 ?_
    refine GCalls.argsW ?_ ((K1 hy22).then ?_)
    ·exact Q9 c25 c26
    refine zX2 c25 c26 ?_
    refine (Zmr hy23).then ?_
    refine zX2 c25 c26 ?_
    exact Zcj hz18 c25 c26
   replace hz18:=Zm c25 hz18
   refine Q7 [some false,some false,some false,some false,some false,some false,some false,some false] c25 ?_
   refine GCalls.argsW ?_ ((K1 hy22).then ?_)
   ·exact Ydx c25
   refine zX1 c25 ?_
   exact Qk hz18 c25
  refine zW ?_
  have h:=Option.some.inj h;subst h
  refine Zh (.inr rfl) hU [(vB z18)] (by omega) ?_
  simp only [push_cast,seval,↓reduceIte,Zc,Tryz.results104,hN0,hN]
 replace h:=Zm c36 h
 refine zQ [1,2,5,45] ?_
 refine Zo (t:=(a0.Kind == 3)) rfl (fun c35 => ?_) (fun c35 => ?_)
 ·replace h:=Zn c35 h
  obtain ⟨z29,hz29,h⟩:=bC h
  refine Y0 (E':=⟨55,[],[(4,(vB z29))]⟩) (O':=(Zw O n [none])) (n0:=(n+1)) ?_ ?_
  ·obtain ⟨y32,hy32,hz29⟩:=bC hz29
   rcases Bool.eq_false_or_eq_true y32 with c34 | c34
   ·replace hz29:=Zn c34 hz29
    obtain ⟨y33,hy33,hz29⟩:=bC hz29
    refine Q7 [some true,some true,some true,some true] c34 ?_
    refine GCalls.argsW ?_ ((K1 hy32).then ?_)
    ·exact Ydx c34
    refine zX1 c34 ?_
    refine (U8 hy33).then ?_
    refine zX1 c34 ?_
    exact Qk hz29 c34
   replace hz29:=Zm c34 hz29
   refine Q7 [some false,some false,some false,some false] c34 ?_
   refine GCalls.argsW ?_ ((K1 hy32).then ?_)
   ·exact Ydx c34
   refine zX1 c34 ?_
   exact Qk hz29 c34
  refine zW ?_
  have h:=Option.some.inj h;subst h
  refine Zh (.inr rfl) hU [(vB z29)] (by omega) ?_
  simp only [push_cast,seval,↓reduceIte,Zc,Tryz.results104,hN0,hN]
 replace h:=Zm c35 h
 refine X9 [] [false] ?_
 refine zQ [4] ?_
 refine zW ?_
 have h:=Option.some.inj h;subst h
 refine Zh (.inr rfl) hU [(vB false)] (by omega) ?_
 simp only [push_cast,seval,↓reduceIte,Zc,Tryz.results104,hN0,hN]
theorem Zwh {Y9:(Zf→Option Bool)} {Y3:(Zf→Int→Option Bool)} {Yh:((List Zl)→Int→Option Bool)} {Yq:(Zf→Int→Option Bool)} {Yr:(Int→Zt→Int→Option Bool)} {Ye:(Bool→Bool→Bool→Zt→Option Bool)} (K2:Zau Y9) (Ua:Zav Y3) (V8:Kb Yh) (U8:Va Yq) (Zak:V2 Yr) (Xs:Kc Ye) {a0:(List Zl)} {a1:Int} {r:Bool} {O:Objs} {n:Nat} (h:Zdo Y9 Y3 Yh Yq Yr Ye a0 a1=some r):GTo Tryz.prog 169 [(sL Zp a0),(vI a1)] O n ((vB r)) O n:=by
 unfold Zdo at h
 refine Yf Zs Tryz.call169 Tryz.func169 rfl (Nat.le_of_ble_eq_true rfl) (Nat.le_refl _) fun hU => ?_
 have hN0:O n=none:=hU.fresh _ (Nat.le_refl _)
 have hN:∀ k,O (n+k)=none:=fun k=>hU.fresh _ (Nat.le_add_right _ _)
 show W _ _ _ _ ⟨39,[],[(0,(sL Zp a0)),(1,(vI a1))]⟩ (Zw O n []) _
 refine zQ [0,1] ?_
 refine zQ [0,1,5] ?_
 refine Zd ?_
 refine zQd [1,5,8,9,10] [1,5,8,9,10] [] ?_
 obtain ⟨z12,hz12,h⟩:=bC h
 refine Zbe (J:=(Xx (fun z12=>JR n (⟨39,[],[(4,(vB false))]⟩:Env) (Zw O n []) n) (fun z12=>JX 0 n (⟨39,[],[]⟩:Env) (Zw O n []) n))) (z:=z12) ?_ fun hw => ?_
 ·refine Y2 hz12 (fun s0_=>⟨39,[],[(1,(vI a1)),(5,(vI s0_.1)),(8,(sL Zp a0)),(9,(vI (a0.length:Int))),(10,(vI s0_.2))]⟩) (fun s0_=>(Zw O n [])) (Xx (fun z12=>JR n (⟨39,[],[(4,(vB false))]⟩:Env) (Zw O n []) n) (fun z12=>JX 0 n (⟨39,[],[]⟩:Env) (Zw O n []) n)) ?_
  intro s0_ x0_ hs0_
  unfold Zax at hs0_
  try dsimp only
  refine zQ [1,5,8,9,10,11] ?_
  refine Zd ?_
  refine Zo (t:=(decide (s0_.2 < (a0.length:Int)))) rfl (fun c11 => ?_) (fun c11 => ?_)
  ·replace hs0_:=Zn c11 hs0_
   refine X9 [1,5,8,9,10] [] ?_
   refine Zd ?_
   refine Z8 ?_
   refine Zd ?_
   obtain ⟨x2,hx2,ax2,bx2,cx2,hs0_⟩:=bE (f:=Zp) Zp2 (fun _=>rfl) (by decide) hs0_
   refine Zck [] ax2 bx2 cx2 ?_
   refine zDs [1,5,7,8,9,10] [true] ?_
   obtain ⟨z4,hz4,hs0_⟩:=bC hs0_
   refine Y0 (E':=⟨39,[],[(1,(vI a1)),(7,.ref n 0),(8,(sL Zp a0)),(9,(vI (a0.length:Int))),(10,(vI s0_.2)),(35,(vB z4))]⟩) (O':=(Zw O n [some ⟨false,86,12,1,(Kz x2)⟩])) (n0:=(n+1)) ?_ ?_
   ·rcases Bool.eq_false_or_eq_true (decide (x2.At≤s0_.1)) with c7 | c7
    ·replace hz4:=Zn c7 hz4
     refine Q7 [none,none,none,none,none,none,none,some false,some false,some false,some false,some false] c7 ?_
     refine zG ?_
     exact Qk hz4 c7
    replace hz4:=Zm c7 hz4
    rcases Bool.eq_false_or_eq_true (decide (65534 < x2.At)) with c8 | c8
    ·replace hz4:=Zn c8 hz4
     try rw [c8] at c7
     refine X2 [none,none,none,none,none,none,none,some false,some false,some false,some false,some false] c7 c8 ?_
     refine zG ?_
     exact Zcj hz4 c7 c8
    replace hz4:=Zm c8 hz4
    try rw [c8] at c7
    rcases Bool.eq_false_or_eq_true (x2.E.Kind == 0) with c9 | c9
    ·replace hz4:=Zn c9 hz4
     try rw [c9] at c7
     try rw [c9] at c8
     refine Zap [none,none,none,none,none,none,none,some false,some false,some false,some false,some false] c7 c8 c9 ?_
     refine zG ?_
     exact Zfh hz4 c7 c8 c9
    replace hz4:=Zm c9 hz4
    try rw [c9] at c7
    try rw [c9] at c8
    obtain ⟨y6,hy6,hz4⟩:=bC hz4
    refine Zap [none,none,none,none,none,none,none,some true,some true,some true,some true,some true] c7 c8 c9 ?_
    refine zG ?_
    refine (Ua hy6).then ?_
    refine zX3 c7 c8 c9 ?_
    refine zG ?_
    exact Zfh hz4 c7 c8 c9
   refine Zo (t:=z4) rfl (fun c10 => ?_) (fun c10 => ?_)
   ·replace hs0_:=Zn c10 hs0_
    refine zQ [4] ?_
    refine zW ?_
    exact zEy hs0_
   replace hs0_:=Zm c10 hs0_
   refine X9 [1,7,8,9,10] [true] ?_
   refine zRd [1,5,8,9,10] [false] ?_
   refine zR ?_
   exact zEn hs0_
  replace hs0_:=Zm c11 hs0_
  exact zEx hs0_
 rcases z12 with z12 | z12
 ·dsimp only [Xx] at hw h
  refine Jt hw ?_
  try simp only [Yx,Ya,↓reduceIte,Nat.reduceEqDiff]
  have h:=Option.some.inj h;subst h
  refine Zh (.inr rfl) hU [(vB false)] (by omega) ?_
  simp only [push_cast,seval,↓reduceIte,Zc,Tryz.results169,hN0,hN]
 dsimp only [Xx] at hw h
 refine Yi hw ?_
 try simp only [Yx,Ya,↓reduceIte,Nat.reduceEqDiff]
 refine zD [] [] ?_
 refine zQ [4] ?_
 refine zW ?_
 have h:=Option.some.inj h;subst h
 refine Zh (.inr rfl) hU [(vB true)] (by omega) ?_
 simp only [push_cast,seval,↓reduceIte,Zc,Tryz.results169,hN0,hN]
theorem Zx6 {Y9:(Zf→Option Bool)} {Y3:(Zf→Int→Option Bool)} {Yh:((List Zl)→Int→Option Bool)} {Yq:(Zf→Int→Option Bool)} {Yr:(Int→Zt→Int→Option Bool)} {Ye:(Bool→Bool→Bool→Zt→Option Bool)} (K2:Zau Y9) (Ua:Zav Y3) (V8:Kb Yh) (U8:Va Yq) (Zak:V2 Yr) (Xs:Kc Ye) {a0:Zf} {a1:Int} {r:Bool} {O:Objs} {n:Nat} (h:Zet Y9 Y3 Yh Yq Yr Ye a0 a1=some r):GTo Tryz.prog 170 [.agg (Zg a0),(vI a1)] O n ((vB r)) O n:=by
 unfold Zet at h
 refine Yf Zs Tryz.call170 Tryz.func170 rfl (Nat.le_of_ble_eq_true rfl) (Nat.le_refl _) fun hU => ?_
 have hN0:O n=none:=hU.fresh _ (Nat.le_refl _)
 have hN:∀ k,O (n+k)=none:=fun k=>hU.fresh _ (Nat.le_add_right _ _)
 show W _ _ _ _ ⟨38,[],[(0,.agg (Zg a0)),(1,(vI a1))]⟩ (Zw O n []) _
 refine zQ [1,2] ?_
 refine Zd ?_
 refine Zd ?_
 obtain ⟨y2,hy2,h⟩:=bC h
 refine zCd (Zqs hy2) [1,2,12] [true] ?_
 refine Zo (t:=(!y2)) rfl (fun c12 => ?_) (fun c12 => ?_)
 ·replace h:=Zn c12 h
  refine zQ [4] ?_
  refine zW ?_
  have h:=Option.some.inj h;subst h
  refine Zh (.inr rfl) hU [(vB false)] (by omega) ?_
  simp only [push_cast,seval,↓reduceIte,Zc,Tryz.results170,hN0,hN]
 replace h:=Zm c12 h
 refine X9 [1,2] [true] ?_
 refine Zd ?_
 refine zQd [1,2,14,15,16] [1,2,14,15,16] [true] ?_
 obtain ⟨z9,hz9,h⟩:=bC h
 refine Zbe (J:=(Xx (fun z9=>JR n (⟨38,[],[(4,(vB false))]⟩:Env) (Zw O n [none]) (n+1)) (fun z9=>JX 0 n (⟨38,[],[(2,.ref n 0)]⟩:Env) (Zw O n [some ⟨false,30,11,1,(Zg a0)⟩]) (n+1)))) (z:=z9) ?_ fun hw => ?_
 ·refine Y2 hz9 (fun s0_=>⟨38,[],[(1,(vI a1)),(2,.ref n 0),(14,(sL Zx a0.Ops)),(15,(vI (a0.Ops.length:Int))),(16,(vI s0_))]⟩) (fun s0_=>(Zw O n [some ⟨false,30,11,1,(Zg a0)⟩])) (Xx (fun z9=>JR n (⟨38,[],[(4,(vB false))]⟩:Env) (Zw O n [none]) (n+1)) (fun z9=>JX 0 n (⟨38,[],[(2,.ref n 0)]⟩:Env) (Zw O n [some ⟨false,30,11,1,(Zg a0)⟩]) (n+1))) ?_
  intro s0_ x0_ hs0_
  unfold Zbw at hs0_
  try dsimp only
  refine zQ [1,2,14,15,16,17] ?_
  refine Zd ?_
  refine Zo (t:=(decide (s0_ < (a0.Ops.length:Int)))) rfl (fun c8 => ?_) (fun c8 => ?_)
  ·replace hs0_:=Zn c8 hs0_
   refine X9 [1,2,14,15,16] [true] ?_
   refine Zd ?_
   refine Z8 ?_
   refine Zd ?_
   obtain ⟨x4,hx4,ax4,bx4,cx4,hs0_⟩:=bE (f:=Zx) Zk9 (fun _=>rfl) (by decide) hs0_
   refine Zck [] ax4 bx4 cx4 ?_
   refine zDs [1,2,6,14,15,16] [true,true] ?_
   obtain ⟨y6,hy6,hs0_⟩:=bC hs0_
   refine zCd (Zak hy6) [1,2,14,15,16,25] [true,false] ?_
   refine Zo (t:=(!y6)) rfl (fun c7 => ?_) (fun c7 => ?_)
   ·replace hs0_:=Zn c7 hs0_
    refine zQ [4] ?_
    refine zW ?_
    exact zEy hs0_
   replace hs0_:=Zm c7 hs0_
   refine X9 [1,2,14,15,16] [true,false] ?_
   refine zR ?_
   exact zEn hs0_
  replace hs0_:=Zm c8 hs0_
  exact zEx hs0_
 rcases z9 with z9 | z9
 ·dsimp only [Xx] at hw h
  refine Jt hw ?_
  try simp only [Yx,Ya,↓reduceIte,Nat.reduceEqDiff]
  have h:=Option.some.inj h;subst h
  refine Zh (.inr rfl) hU [(vB false)] (by omega) ?_
  simp only [push_cast,seval,↓reduceIte,Zc,Tryz.results170,hN0,hN]
 dsimp only [Xx] at hw h
 refine Yi hw ?_
 try simp only [Yx,Ya,↓reduceIte,Nat.reduceEqDiff]
 refine zDs [2] [true] ?_
 obtain ⟨y11,hy11,h⟩:=bC h
 refine zCd (Z1s hy11) [7,8] [false] ?_
 refine zQD [4] [none,none] ?_
 refine zW ?_
 have h:=Option.some.inj h;subst h
 refine Zh (.inr rfl) hU [(vB (cond (decide (y11.1 < 1048576)) (decide (y11.2 < 1048576)) false))] (by omega) ?_
 simp only [push_cast,seval,↓reduceIte,Zc,Tryz.results170,hN0,hN]
theorem Z0w {Y9:(Zf→Option Bool)} {Y3:(Zf→Int→Option Bool)} {Yh:((List Zl)→Int→Option Bool)} {Yq:(Zf→Int→Option Bool)} {Yr:(Int→Zt→Int→Option Bool)} {Ye:(Bool→Bool→Bool→Zt→Option Bool)} (K2:Zau Y9) (Ua:Zav Y3) (V8:Kb Yh) (U8:Va Yq) (Zak:V2 Yr) (Xs:Kc Ye) {a0:Int} {a1:Zt} {a2:Int} {r:Bool} {O:Objs} {n:Nat} (h:Zfw Y9 Y3 Yh Yq Yr Ye a0 a1 a2=some r):GTo Tryz.prog 230 [(vI a0),.agg (Yw a1),(vI a2)] O n ((vB r)) O n:=by
 unfold Zfw at h
 refine Yf Zs Tryz.call230 Tryz.func230 rfl (Nat.le_of_ble_eq_true rfl) (Nat.le_refl _) fun hU => ?_
 have hN0:O n=none:=hU.fresh _ (Nat.le_refl _)
 have hN:∀ k,O (n+k)=none:=fun k=>hU.fresh _ (Nat.le_add_right _ _)
 show W _ _ _ _ ⟨60,[],[(0,(vI a0)),(1,.agg (Yw a1)),(2,(vI a2))]⟩ (Zw O n []) _
 refine zQ [0,2,4] ?_
 refine Vp ⟨60,[],[(0,(vI a0)),(2,(vI a2)),(4,.ip (Yw a1) 0)]⟩ (Zw O n [none]) (Z6 hU rfl rfl ?_) ?_
 ·exact zSe
 refine zQ [0,2,4,7] ?_
 refine Zd ?_
 refine zQ [0,2,4,7,10] ?_
 refine Z8 ?_
 refine Zd ?_
 refine Z8 ?_
 obtain ⟨z1,hz1,h⟩:=bC h
 refine Yhl (J:=(Xx (fun z1=>JN n (⟨60,[],[(0,(vI a0)),(4,.ip (Yw a1) 0),(7,.fn 278 0 [.ip (Yw a1) 0])]⟩:Env) (Zw O n [none]) (n+1)) (Xx (fun z1=>JR n (⟨60,[],[(6,(vB z1))]⟩:Env) (Zw O n [none]) (n+1)) (Xx (fun z1=>JX 4 n (⟨60,[],[(0,(vI a0)),(2,(vI a2)),(4,.ip (Yw a1) 0),(7,.fn 278 0 [.ip (Yw a1) 0])]⟩:Env) (Zw O n [none]) (n+1)) (fun z1=>JX 0 n (⟨60,[],[]⟩:Env) (Zw O n [none]) (n+1)))))) (z:=z1) ?_ fun hw => ?_
 ·refine Z8 ?_
  refine Z8 ?_
  refine Zd ?_
  refine Z8 ?_
  refine Zd ?_
  refine Zd ?_
  refine zQ [0,2,4,7,10,11] ?_
  refine Zo (t:=(a1.Kind == 0)) rfl (fun c7 => ?_) (fun c7 => ?_)
  ·replace hz1:=Zn c7 hz1
   refine zXt ?_
   refine zDs [4,7] [false] ?_
   refine Zd ?_
   obtain ⟨y3,hy3,hz1⟩:=bC hz1
   refine zRo [none,none,none,none,none,none] ?_
   refine zG ?_
   refine GCalls.argsW ?_ ((Xs hy3).then ?_)
   ·exact zSe
   refine zS ?_
   refine zG ?_
   refine zD [6] [false] ?_
   refine zW ?_
   exact zEn hz1
  replace hz1:=Zm c7 hz1
  refine X9 [0,2,4,7,10] [false] ?_
  refine Zd ?_
  refine zQ [0,2,4,7,10,13] ?_
  refine Zo (t:=(a1.Kind == 1)) rfl (fun c6 => ?_) (fun c6 => ?_)
  ·replace hz1:=Zn c6 hz1
   refine zXt ?_
   exact zEn hz1
  replace hz1:=Zm c6 hz1
  refine X9 [0,2,4,7,10] [false] ?_
  refine Zd ?_
  refine zQ [0,2,4,7,10,15] ?_
  refine Zo (t:=(a1.Kind == 2)) rfl (fun c5 => ?_) (fun c5 => ?_)
  ·replace hz1:=Zn c5 hz1
   refine zXt ?_
   exact zEn hz1
  replace hz1:=Zm c5 hz1
  refine X9 [0,2,4,7,10] [false] ?_
  refine zQ [0,2,4,7,17] ?_
  refine Zo (t:=(a1.Kind == 3)) rfl (fun c4 => ?_) (fun c4 => ?_)
  ·replace hz1:=Zn c4 hz1
   refine zXt ?_
   exact zEn hz1
  replace hz1:=Zm c4 hz1
  refine X9 [] [false] ?_
  refine zXt ?_
  exact zEn hz1
 rcases z1 with z1 | z1
 ·dsimp only [Xx] at hw h
  refine Y0 hw ?_
  refine Zd ?_
  obtain ⟨z10,hz10,h⟩:=bC h
  refine Y0 (E':=⟨60,[],[(6,(vB z10))]⟩) (O':=(Zw O n [none])) (n0:=(n+1)) ?_ ?_
  ·obtain ⟨y13,hy13,hz10⟩:=bC hz10
   rcases Bool.eq_false_or_eq_true y13 with Vq | Vq
   ·replace hz10:=Zn Vq hz10
    rcases Bool.eq_false_or_eq_true (decide (0 < (a1.L.length:Int))) with c16 | c16
    ·replace hz10:=Zn c16 hz10
     try rw [c16] at Vq
     obtain ⟨y14,hy14,hz10⟩:=bC hz10
     refine X2 [none,none,none,none,some true,some true,some true,some true,some true] Vq c16 ?_
     refine zG ?_
     refine GCalls.argsW ?_ ((Xs hy13).then ?_)
     ·exact Q9 Vq c16
     refine zX2 Vq c16 ?_
     refine zG ?_
     refine GCalls.argsW ?_ ((Zom hy14).then ?_)
     ·exact Q9 Vq c16
     refine zX2 Vq c16 ?_
     refine zG ?_
     exact Zcj hz10 Vq c16
    replace hz10:=Zm c16 hz10
    try rw [c16] at Vq
    refine X2 [none,none,none,none,some false,some false,some false,some false,some false] Vq c16 ?_
    refine zG ?_
    refine GCalls.argsW ?_ ((Xs hy13).then ?_)
    ·exact Q9 Vq c16
    refine zX2 Vq c16 ?_
    refine zG ?_
    exact Zcj hz10 Vq c16
   replace hz10:=Zm Vq hz10
   refine Q7 [none,none,none,none,some false,some false,some false,some false,some false] Vq ?_
   refine zG ?_
   refine GCalls.argsW ?_ ((Xs hy13).then ?_)
   ·exact Ydx Vq
   refine zX1 Vq ?_
   refine zG ?_
   exact Qk hz10 Vq
  refine zW ?_
  have h:=Option.some.inj h;subst h
  refine Zh (.inr rfl) hU [(vB z10)] (by omega) ?_
  simp only [push_cast,seval,↓reduceIte,Zc,Tryz.results230,hN0,hN]
 rcases z1 with z1 | z1
 ·dsimp only [Xx] at hw h
  refine Ydz hw ?_
  try simp only [Yx,Ya]
  have h:=Option.some.inj h;subst h
  refine Zh (.inr rfl) hU [(vB z1)] (by omega) ?_
  simp only [push_cast,seval,↓reduceIte,Zc,Tryz.results230,hN0,hN]
 rcases z1 with z1 | z1
 ·dsimp only [Xx] at hw h
  refine Yd0 hw ?_
  try simp only [Yx,Ya,↓reduceIte,Nat.reduceEqDiff]
  refine zDs [0,2,4,7] [false] ?_
  obtain ⟨z20,hz20,h⟩:=bC h
  refine Y0 (E':=⟨60,[],[(6,(vB z20))]⟩) (O':=(Zw O n [none])) (n0:=(n+1)) ?_ ?_
  ·obtain ⟨y24,hy24,hz20⟩:=bC hz20
   rcases Bool.eq_false_or_eq_true y24 with c27 | c27
   ·replace hz20:=Zn c27 hz20
    obtain ⟨y25,hy25,hz20⟩:=bC hz20
    rcases Bool.eq_false_or_eq_true y25 with c28 | c28
    ·replace hz20:=Zn c28 hz20
     try rw [c28] at c27
     obtain ⟨y26,hy26,hz20⟩:=bC hz20
     refine X2 [some true,some true,some true,some true,some true,some true,some true,some true] c27 c28 ?_
     refine GCalls.argsW ?_ ((Xs hy24).then ?_)
     ·exact Q9 c27 c28
     refine zX2 c27 c28 ?_
     refine (Zpe hy25).then ?_
     refine zX2 c27 c28 ?_
     refine (Ua hy26).then ?_
     refine zX2 c27 c28 ?_
     exact Zcj hz20 c27 c28
    replace hz20:=Zm c28 hz20
    try rw [c28] at c27
    refine X2 [some true,some true,some true,some true,some false,some false,some false,some false] c27 c28 ?_
    refine GCalls.argsW ?_ ((Xs hy24).then ?_)
    ·exact Q9 c27 c28
    refine zX2 c27 c28 ?_
    refine (Zpe hy25).then ?_
    refine zX2 c27 c28 ?_
    exact Zcj hz20 c27 c28
   replace hz20:=Zm c27 hz20
   refine Q7 [some false,some false,some false,some false,some false,some false,some false,some false] c27 ?_
   refine GCalls.argsW ?_ ((Xs hy24).then ?_)
   ·exact Ydx c27
   refine zX1 c27 ?_
   exact Qk hz20 c27
  refine zW ?_
  have h:=Option.some.inj h;subst h
  refine Zh (.inr rfl) hU [(vB z20)] (by omega) ?_
  simp only [push_cast,seval,↓reduceIte,Zc,Tryz.results230,hN0,hN]
 dsimp only [Xx] at hw h
 refine Yd0 hw ?_
 try simp only [Yx,Ya,↓reduceIte,Nat.reduceEqDiff]
 refine zD [] [false] ?_
 refine zQ [6] ?_
 refine zW ?_
 have h:=Option.some.inj h;subst h
 refine Zh (.inr rfl) hU [(vB false)] (by omega) ?_
 simp only [push_cast,seval,↓reduceIte,Zc,Tryz.results230,hN0,hN]
theorem Zwi {Y9:(Zf→Option Bool)} {Y3:(Zf→Int→Option Bool)} {Yh:((List Zl)→Int→Option Bool)} {Yq:(Zf→Int→Option Bool)} {Yr:(Int→Zt→Int→Option Bool)} {Ye:(Bool→Bool→Bool→Zt→Option Bool)} (K2:Zau Y9) (Ua:Zav Y3) (V8:Kb Yh) (U8:Va Yq) (Zak:V2 Yr) (Xs:Kc Ye) {a0:Bool} {a1:Bool} {a2:Bool} {a3:Zt} {r:Bool} {O:Objs} {n:Nat} (h:Zdp Y9 Y3 Yh Yq Yr Ye a0 a1 a2 a3=some r):GTo Tryz.prog 278 [(vB a0),(vB a1),(vB a2),.ip (Yw a3) 0] O n ((vB r)) O n:=by
 unfold Zdp at h
 refine Yf Zs Tryz.call278 Tryz.func278 rfl (Nat.le_of_ble_eq_true rfl) (Nat.le_refl _) fun hU => ?_
 have hN0:O n=none:=hU.fresh _ (Nat.le_refl _)
 have hN:∀ k,O (n+k)=none:=fun k=>hU.fresh _ (Nat.le_add_right _ _)
 show W _ _ _ _ ⟨41,[],[(0,(vB a0)),(1,(vB a1)),(2,(vB a2)),(3,.ip (Yw a3) 0)]⟩ (Zw O n []) _
 refine zQ [0,1,2,3] ?_
 obtain ⟨z5,hz5,h⟩:=bC h
 refine Y0 (E':=⟨41,[],[(7,(vB z5))]⟩) (O':=(Zw O n [])) (n0:=n) ?_ ?_
 ·rcases Bool.eq_false_or_eq_true a0 with Qs | Qs
  ·replace hz5:=Zn Qs hz5
   rcases Bool.eq_false_or_eq_true (a3.N != 0) with Vq | Vq
   ·replace hz5:=Zn Vq hz5
    try rw [Vq] at Qs
    refine X2 [none,none,none,none,none,none,none,none,none,none,none,some false,some false,some false,some false,some false,some false,some false,some false,some false,some false,some false,some false,some false,some false] Qs Vq ?_
    refine zG ?_
    exact Zcj hz5 Qs Vq
   replace hz5:=Zm Vq hz5
   try rw [Vq] at Qs
   rcases Bool.eq_false_or_eq_true a1 with c16 | c16
   ·replace hz5:=Zn c16 hz5
    try rw [c16] at Qs
    try rw [c16] at Vq
    rcases Bool.eq_false_or_eq_true (decide (0 < (a3.L.length:Int))) with c17 | c17
    ·replace hz5:=Zn c17 hz5
     try rw [c17] at Qs
     try rw [c17] at Vq
     try rw [c17] at c16
     refine Zp9 [none,none,none,none,none,none,none,none,none,none,none,some false,some false,some false,some false,some false,some false,some false,some false,some false,some false,some false,some false,some false,some false] Qs Vq c16 c17 ?_
     refine zG ?_
     exact Zu3 hz5 Qs Vq c16 c17
    replace hz5:=Zm c17 hz5
    try rw [c17] at Qs
    try rw [c17] at Vq
    try rw [c17] at c16
    rcases Bool.eq_false_or_eq_true a2 with c18 | c18
    ·replace hz5:=Zn c18 hz5
     try rw [c18] at Qs
     try rw [c18] at Vq
     try rw [c18] at c16
     try rw [c18] at c17
     rcases Bool.eq_false_or_eq_true (a3.E.Kind != 0) with c19 | c19
     ·replace hz5:=Zn c19 hz5
      try rw [c19] at Qs
      try rw [c19] at Vq
      try rw [c19] at c16
      try rw [c19] at c17
      try rw [c19] at c18
      refine Yh2 [none,none,none,none,none,none,none,none,none,none,none,some true,some true,some true,some true,some true,some true,some true,some false,some false,some false,some false,some true,some true,some true] Qs Vq c16 c17 c18 c19 ?_
      refine zG ?_
      exact Yh0 hz5 Qs Vq c16 c17 c18 c19
     replace hz5:=Zm c19 hz5
     try rw [c19] at Qs
     try rw [c19] at Vq
     try rw [c19] at c16
     try rw [c19] at c17
     try rw [c19] at c18
     obtain ⟨y10,hy10,hz5⟩:=bC hz5
     refine Yh2 [none,none,none,none,none,none,none,none,none,none,none,some true,some true,some true,some true,some true,some true,some true,some true,some true,some true,some true,some true,some true,some true] Qs Vq c16 c17 c18 c19 ?_
     refine zG ?_
     refine (K2 hy10).then ?_
     refine zX6 Qs Vq c16 c17 c18 c19 ?_
     refine zG ?_
     exact Yh0 hz5 Qs Vq c16 c17 c18 c19
    replace hz5:=Zm c18 hz5
    try rw [c18] at Qs
    try rw [c18] at Vq
    try rw [c18] at c16
    try rw [c18] at c17
    refine Z7f [none,none,none,none,none,none,none,none,none,none,none,some true,some true,some false,some false,some false,some false,some false,some false,some false,some false,some false,some false,some true,some true] Qs Vq c16 c17 c18 ?_
    refine zG ?_
    exact Z7e hz5 Qs Vq c16 c17 c18
   replace hz5:=Zm c16 hz5
   try rw [c16] at Qs
   try rw [c16] at Vq
   rcases Bool.eq_false_or_eq_true a2 with c20 | c20
   ·replace hz5:=Zn c20 hz5
    try rw [c20] at Qs
    try rw [c20] at Vq
    try rw [c20] at c16
    rcases Bool.eq_false_or_eq_true (a3.E.Kind != 0) with c21 | c21
    ·replace hz5:=Zn c21 hz5
     try rw [c21] at Qs
     try rw [c21] at Vq
     try rw [c21] at c16
     try rw [c21] at c20
     refine Z7f [none,none,none,none,none,none,none,none,none,none,none,some true,some true,some true,some true,some true,some true,some true,some false,some false,some false,some false,some true,some true,some true] Qs Vq c16 c20 c21 ?_
     refine zG ?_
     exact Z7e hz5 Qs Vq c16 c20 c21
    replace hz5:=Zm c21 hz5
    try rw [c21] at Qs
    try rw [c21] at Vq
    try rw [c21] at c16
    try rw [c21] at c20
    obtain ⟨y11,hy11,hz5⟩:=bC hz5
    refine Z7f [none,none,none,none,none,none,none,none,none,none,none,some true,some true,some true,some true,some true,some true,some true,some true,some true,some true,some true,some true,some true,some true] Qs Vq c16 c20 c21 ?_
    refine zG ?_
    refine (K2 hy11).then ?_
    refine zX5 Qs Vq c16 c20 c21 ?_
    refine zG ?_
    exact Z7e hz5 Qs Vq c16 c20 c21
   replace hz5:=Zm c20 hz5
   try rw [c20] at Qs
   try rw [c20] at Vq
   try rw [c20] at c16
   refine Zp9 [none,none,none,none,none,none,none,none,none,none,none,some true,some true,some false,some false,some false,some false,some false,some false,some false,some false,some false,some false,some true,some true] Qs Vq c16 c20 ?_
   refine zG ?_
   exact Zu3 hz5 Qs Vq c16 c20
  replace hz5:=Zm Qs hz5
  rcases Bool.eq_false_or_eq_true a1 with c22 | c22
  ·replace hz5:=Zn c22 hz5
   try rw [c22] at Qs
   rcases Bool.eq_false_or_eq_true (decide (0 < (a3.L.length:Int))) with c23 | c23
   ·replace hz5:=Zn c23 hz5
    try rw [c23] at Qs
    try rw [c23] at c22
    refine Zap [none,none,none,none,none,none,none,none,none,none,none,some false,some false,some false,some false,some false,some false,some false,some false,some false,some false,some false,some false,some false,some false] Qs c22 c23 ?_
    refine zG ?_
    exact Zfh hz5 Qs c22 c23
   replace hz5:=Zm c23 hz5
   try rw [c23] at Qs
   try rw [c23] at c22
   rcases Bool.eq_false_or_eq_true a2 with c24 | c24
   ·replace hz5:=Zn c24 hz5
    try rw [c24] at Qs
    try rw [c24] at c22
    try rw [c24] at c23
    rcases Bool.eq_false_or_eq_true (a3.E.Kind != 0) with c25 | c25
    ·replace hz5:=Zn c25 hz5
     try rw [c25] at Qs
     try rw [c25] at c22
     try rw [c25] at c23
     try rw [c25] at c24
     refine Z7f [none,none,none,none,none,none,none,none,none,none,none,some true,some true,some true,some true,some true,some true,some true,some false,some false,some false,some false,some true,some true,some true] Qs c22 c23 c24 c25 ?_
     refine zG ?_
     exact Z7e hz5 Qs c22 c23 c24 c25
    replace hz5:=Zm c25 hz5
    try rw [c25] at Qs
    try rw [c25] at c22
    try rw [c25] at c23
    try rw [c25] at c24
    obtain ⟨y12,hy12,hz5⟩:=bC hz5
    refine Z7f [none,none,none,none,none,none,none,none,none,none,none,some true,some true,some true,some true,some true,some true,some true,some true,some true,some true,some true,some true,some true,some true] Qs c22 c23 c24 c25 ?_
    refine zG ?_
    refine (K2 hy12).then ?_
    refine zX5 Qs c22 c23 c24 c25 ?_
    refine zG ?_
    exact Z7e hz5 Qs c22 c23 c24 c25
   replace hz5:=Zm c24 hz5
   try rw [c24] at Qs
   try rw [c24] at c22
   try rw [c24] at c23
   refine Zp9 [none,none,none,none,none,none,none,none,none,none,none,some true,some true,some false,some false,some false,some false,some false,some false,some false,some false,some false,some false,some true,some true] Qs c22 c23 c24 ?_
   refine zG ?_
   exact Zu3 hz5 Qs c22 c23 c24
  replace hz5:=Zm c22 hz5
  try rw [c22] at Qs
  rcases Bool.eq_false_or_eq_true a2 with c26 | c26
  ·replace hz5:=Zn c26 hz5
   try rw [c26] at Qs
   try rw [c26] at c22
   rcases Bool.eq_false_or_eq_true (a3.E.Kind != 0) with c27 | c27
   ·replace hz5:=Zn c27 hz5
    try rw [c27] at Qs
    try rw [c27] at c22
    try rw [c27] at c26
    refine Zp9 [none,none,none,none,none,none,none,none,none,none,none,some true,some true,some true,some true,some true,some true,some true,some false,some false,some false,some false,some true,some true,some true] Qs c22 c26 c27 ?_
    refine zG ?_
    exact Zu3 hz5 Qs c22 c26 c27
   replace hz5:=Zm c27 hz5
   try rw [c27] at Qs
   try rw [c27] at c22
   try rw [c27] at c26
   obtain ⟨y13,hy13,hz5⟩:=bC hz5
   refine Zp9 [none,none,none,none,none,none,none,none,none,none,none,some true,some true,some true,some true,some true,some true,some true,some true,some true,some true,some true,some true,some true,some true] Qs c22 c26 c27 ?_
   refine zG ?_
   refine (K2 hy13).then ?_
   refine zX4 Qs c22 c26 c27 ?_
   refine zG ?_
   exact Zu3 hz5 Qs c22 c26 c27
  replace hz5:=Zm c26 hz5
  try rw [c26] at Qs
  try rw [c26] at c22
  refine Zap [none,none,none,none,none,none,none,none,none,none,none,some true,some true,some false,some false,some false,some false,some false,some false,some false,some false,some false,some false,some true,some true] Qs c22 c26 ?_
  refine zG ?_
  exact Zfh hz5 Qs c22 c26
 refine zW ?_
 have h:=Option.some.inj h;subst h
 refine Zh (.inr rfl) hU [(vB z5)] (by omega) ?_
 simp only [push_cast,seval,↓reduceIte,Zc,Tryz.results278,hN0,hN]
theorem Z0n:∀ k,(Zau ((Zr k).1))∧(Zav ((Zr k).2.1))∧(Kb ((Zr k).2.2.1))∧(Va ((Zr k).2.2.2.1))∧(V2 ((Zr k).2.2.2.2.1))∧(Kc ((Zr k).2.2.2.2.2)):=fun k=>by
 induction k with
 | zero=>exact ⟨@fun a0 r O n h=>(nomatch (show (none:Option _)=some _ from h)),@fun a0 a1 r O n h=>(nomatch (show (none:Option _)=some _ from h)),@fun a0 a1 r O n h=>(nomatch (show (none:Option _)=some _ from h)),@fun a0 a1 r O n h=>(nomatch (show (none:Option _)=some _ from h)),@fun a0 a1 a2 r O n h=>(nomatch (show (none:Option _)=some _ from h)),@fun a0 a1 a2 a3 r O n h=>(nomatch (show (none:Option _)=some _ from h))⟩
 | succ k ih=>exact ⟨@fun a0 r O n h=>Z25 (ih.1) (ih.2.1) (ih.2.2.1) (ih.2.2.2.1) (ih.2.2.2.2.1) (ih.2.2.2.2.2)  h,@fun a0 a1 r O n h=>Z26 (ih.1) (ih.2.1) (ih.2.2.1) (ih.2.2.2.1) (ih.2.2.2.2.1) (ih.2.2.2.2.2)  h,@fun a0 a1 r O n h=>Zwh (ih.1) (ih.2.1) (ih.2.2.1) (ih.2.2.2.1) (ih.2.2.2.2.1) (ih.2.2.2.2.2)  h,@fun a0 a1 r O n h=>Zx6 (ih.1) (ih.2.1) (ih.2.2.1) (ih.2.2.2.1) (ih.2.2.2.2.1) (ih.2.2.2.2.2)  h,@fun a0 a1 a2 r O n h=>Z0w (ih.1) (ih.2.1) (ih.2.2.1) (ih.2.2.2.1) (ih.2.2.2.2.1) (ih.2.2.2.2.2)  h,@fun a0 a1 a2 a3 r O n h=>Zwi (ih.1) (ih.2.1) (ih.2.2.1) (ih.2.2.2.1) (ih.2.2.2.2.1) (ih.2.2.2.2.2)  h⟩
theorem Zoh {a0:Zf} {r:Bool} {O:Objs} {n:Nat} (h:Zls a0=some r):GTo Tryz.prog 59 [.agg (Zg a0)] O n ((vB r)) O n:=by
 obtain ⟨k,hk⟩:=Vx h
 exact (Z0n k).1  hk
theorem Ku {a0:(List Int)} {a1:(List Za)} {r:Za} {O:Objs} {n:Nat} (h:V0 a0 a1=some r):GTo Tryz.prog 53 [(sL (eI .u64) a0),(sL Zb a1)] O n (.agg (Ze r)) O n:=by
 unfold V0 at h
 refine Yf Zs Tryz.call53 Tryz.func53 rfl (Nat.le_of_ble_eq_true rfl) (Nat.le_refl _) fun hU => ?_
 have hN0:O n=none:=hU.fresh _ (Nat.le_refl _)
 have hN:∀ k,O (n+k)=none:=fun k=>hU.fresh _ (Nat.le_add_right _ _)
 show W _ _ _ _ ⟨8,[],[(0,(sL (eI .u64) a0)),(1,(sL Zb a1))]⟩ (Zw O n []) _
 refine zQ [0,1,4] ?_
 refine Zd ?_
 refine zRd [4] [true] ?_
 refine zW ?_
 have h:=Option.some.inj h;subst h
 refine Zh (.inr rfl) hU [.agg [(vI 1),(sL (eI .u64) a0),(sL Zb a1)]] (by omega) ?_
 simp only [push_cast,seval,↓reduceIte,Zc,Tryz.results53,hN0,hN]
theorem Zqq {a0:(List Za)} {r:Za} {O:Objs} {n:Nat} (h:Zf8 a0=some r):GTo Tryz.prog 98 [(sL Zb a0)] O n (.agg (Ze r)) O n:=by
 unfold Zf8 at h
 refine Yf Zs Tryz.call98 Tryz.func98 rfl (Nat.le_of_ble_eq_true rfl) (Nat.le_refl _) fun hU => ?_
 have hN0:O n=none:=hU.fresh _ (Nat.le_refl _)
 have hN:∀ k,O (n+k)=none:=fun k=>hU.fresh _ (Nat.le_add_right _ _)
 show W _ _ _ _ ⟨9,[],[(0,(sL Zb a0))]⟩ (Zw O n []) _
 refine zQ [0,2] ?_
 refine Zd ?_
 refine zQ [0,2,5] ?_
 refine Zo (t:=((a0.length:Int) == 0)) rfl (fun c1 => ?_) (fun c1 => ?_)
 ·replace h:=Zn c1 h
  refine Zd ?_
  refine zRd [2] [true] ?_
  refine zW ?_
  have h:=Option.some.inj h;subst h
  refine Zh (.inr rfl) hU [.agg [(vI 0),nV,nV]] (by omega) ?_
  simp only [push_cast,seval,↓reduceIte,Zc,Tryz.results98,hN0,hN]
 replace h:=Zm c1 h
 refine X9 [0,2] [true] ?_
 refine Zd ?_
 refine zRd [2] [true] ?_
 refine zW ?_
 have h:=Option.some.inj h;subst h
 refine Zh (.inr rfl) hU [.agg [(vI 9),nV,(sL Zb a0)]] (by omega) ?_
 simp only [push_cast,seval,↓reduceIte,Zc,Tryz.results98,hN0,hN]
theorem Zms {a0:(List Zz)} {r:Za} {O:Objs} {n:Nat} (h:Zc2 a0=some r):GTo Tryz.prog 54 [(sL Zq a0)] O n (.agg (Ze r)) O n:=by
 unfold Zc2 at h
 refine Yf Zs Tryz.call54 Tryz.func54 rfl (Nat.le_of_ble_eq_true rfl) (Nat.le_refl _) fun hU => ?_
 have hN0:O n=none:=hU.fresh _ (Nat.le_refl _)
 have hN:∀ k,O (n+k)=none:=fun k=>hU.fresh _ (Nat.le_add_right _ _)
 show W _ _ _ _ ⟨32,[],[(0,(sL Zq a0))]⟩ (Zw O n []) _
 refine zQ [0,2] ?_
 refine zQ [0,2,3] ?_
 refine Zd ?_
 refine zQd [2,3,6,7,8] [2,3,6,7,8] [true] ?_
 refine Zdn (E':=(⟨32,[],[(2,.ref n 0),(3,.row (n+1) ([]:List Za).length),(6,(sL Zq a0)),(7,(vI (a0.length:Int))),(8,(vI 0))]⟩:Env)) (O':=(Zw O n [some ⟨false,25,3,1,[(vI 0),nV,nV]⟩,some (oR 25 3 Zb ([]:List Za)),none])) (n':=(n+3)) ?_ ?_
 ·refine Fit2.trans (E':=(⟨32,[],[(2,.ref n 0),(3,nV),(6,(sL Zq a0)),(7,(vI (a0.length:Int))),(8,(vI 0))]⟩:Env)) (O':=(Zw O n [some ⟨false,25,3,1,[(vI 0),nV,nV]⟩])) (n':=(n+1)) (Fit2.of (Z6 hU rfl rfl ?_) (by omega)) ?_
  ·exact zSe
  refine Fit2.trans (Zcm 3 25 3 rfl (by omega)) ?_
  simp only [Jj,Ql,Ga,Vb,List.set_cons_zero,List.set_cons_succ,List.cons_append,List.nil_append,List.length_cons,List.length_nil,Nat.zero_add,Nat.reduceAdd,Nat.reduceLT,Nat.add_assoc]
  refine Fit2.trans (E':=(⟨32,[],[(2,.ref n 0),(3,.row (n+1) ([]:List Za).length),(6,(sL Zq a0)),(7,(vI (a0.length:Int))),(8,(vI 0))]⟩:Env)) (O':=(Zw O n [some ⟨false,25,3,1,[(vI 0),nV,nV]⟩,some (oR 25 3 Zb ([]:List Za))])) (n':=(n+2)) (Fit2.of (Z6 hU rfl rfl ?_) (by omega)) ?_
  ·exact zSe
  refine Kk (k:=2) (k':=3) hU [0,1] [0,1,0] rfl rfl rfl rfl ⟨rfl,rfl⟩ ?_
  exact zSe
 obtain ⟨z6,hz6,h⟩:=bC h
 refine Yi (E':=⟨32,[],[(2,.ref n 0),(3,.row (n+1) z6.length)]⟩) (O':=(Zw O n [some ⟨false,25,3,1,[(vI 0),nV,nV]⟩,some (oR 25 3 Zb z6),none])) (n0:=(n+3)) ?_ ?_
 ·refine Y2 hz6 (fun s0_=>⟨32,[],[(2,.ref n 0),(3,.row (n+1) s0_.2.length),(6,(sL Zq a0)),(7,(vI (a0.length:Int))),(8,(vI s0_.1))]⟩) (fun s0_=>(Zw O n [some ⟨false,25,3,1,[(vI 0),nV,nV]⟩,some (oR 25 3 Zb s0_.2),none])) (fun z6=>JX 0 n (⟨32,[],[(2,.ref n 0),(3,.row (n+1) z6.length)]⟩:Env) (Zw O n [some ⟨false,25,3,1,[(vI 0),nV,nV]⟩,some (oR 25 3 Zb z6),none]) (n+3)) ?_
  intro s0_ x0_ hs0_
  unfold Gx at hs0_
  try dsimp only
  refine zQ [2,3,6,7,8,9] ?_
  refine Zd ?_
  refine Zo (t:=(decide (s0_.1 < (a0.length:Int)))) rfl (fun c5 => ?_) (fun c5 => ?_)
  ·replace hs0_:=Zn c5 hs0_
   refine X9 [2,3,6,7,8] [true,true,false] ?_
   refine Zd ?_
   refine Z8 ?_
   refine Zd ?_
   obtain ⟨x2,hx2,ax2,bx2,cx2,hs0_⟩:=bE (f:=Zq) Ztb (fun _=>rfl) (by decide) hs0_
   refine Zck [] ax2 bx2 cx2 ?_
   refine zD [2,3,5,6,7,8] [true,true,false,true] ?_
   obtain ⟨y3,hy3,hs0_⟩:=bC hs0_
   obtain ⟨l4,pl4,ql4,el4,hs0_⟩:=bA (k:=1) rfl hs0_
   refine Zap [] pl4 ql4 el4 ?_
   refine GCalls.dropL (l':=[some ⟨false,25,3,1,[(vI 0),nV,nV]⟩,some (oR 25 3 Zb s0_.2),none,some ⟨false,84,4,1,(Uz x2)⟩,none]) hU rfl ?_ ((Ku hy3).then ?_)
   ·exact Znt pl4 ql4 el4
   refine zX3 pl4 ql4 el4 ?_
   refine Vp ⟨32,[],[(2,.ref n 0),(3,.row (n+1) l4.length),(6,(sL Zq a0)),(7,(vI (a0.length:Int))),(8,(vI s0_.1))]⟩ (Zw O n [some ⟨false,25,3,1,[(vI 0),nV,nV]⟩,some (oR 25 3 Zb l4),none,none,none,none]) (Z6 hU rfl rfl ?_) ?_
   ·exact Znt pl4 ql4 el4
   refine zR ?_
   exact zEn hs0_
  replace hs0_:=Zm c5 hs0_
  exact zEx hs0_
 try simp only [Yx,Ya,↓reduceIte,Nat.reduceEqDiff]
 refine zD [2,3] [true,true,false] ?_
 refine Vp ⟨32,[],[(2,.ref n 0),(3,(sL Zb z6))]⟩ (Zw O n [some ⟨false,25,3,1,[(vI 0),nV,nV]⟩,none,none]) (Z6 hU rfl rfl ?_) ?_
 ·exact zSe
 refine Zd ?_
 obtain ⟨y8,hy8,h⟩:=bC h
 refine zCd (Zqq hy8) [2] [true,false,false] ?_
 refine zW ?_
 have h:=Option.some.inj h;subst h
 refine Zh (.inr rfl) hU [.agg (Ze y8)] (by omega) ?_
 simp only [push_cast,seval,↓reduceIte,Zc,Tryz.results54,hN0,hN]
def Zhz (X7:(Zf→Option Za)):Prop:=∀ {a0:Zf} {r:Za} {O:Objs} {n:Nat},X7 a0=some r→GTo Tryz.prog 16 [.agg (Zg a0)] O n (.agg (Ze r)) O n
def Zdi (Xz:((List Zl)→Option Za)):Prop:=∀ {a0:(List Zl)} {r:Za} {O:Objs} {n:Nat},Xz a0=some r→GTo Tryz.prog 55 [(sL Zp a0)] O n (.agg (Ze r)) O n
def Zem (Qb:(Int→(List Zt)→Option Za)):Prop:=∀ {a0:Int} {a1:(List Zt)} {r:Za} {O:Objs} {n:Nat},Qb a0 a1=some r→GTo Tryz.prog 56 [(vI a0),(sL Zx a1)] O n (.agg (Ze r)) O n
theorem Z27 {X7:(Zf→Option Za)} {Xz:((List Zl)→Option Za)} {Qb:(Int→(List Zt)→Option Za)} (Ze6:Zhz X7) (Zdl:Zdi Xz) (Zep:Zem Qb) {a0:Zf} {r:Za} {O:Objs} {n:Nat} (h:Zix X7 Xz Qb a0=some r):GTo Tryz.prog 16 [.agg (Zg a0)] O n (.agg (Ze r)) O n:=by
 unfold Zix at h
 refine Yf Zs Tryz.call16 Tryz.func16 rfl (Nat.le_of_ble_eq_true rfl) (Nat.le_refl _) fun hU => ?_
 have hN0:O n=none:=hU.fresh _ (Nat.le_refl _)
 have hN:∀ k,O (n+k)=none:=fun k=>hU.fresh _ (Nat.le_add_right _ _)
 show W _ _ _ _ ⟨48,[],[(0,.agg (Zg a0))]⟩ (Zw O n []) _
 refine zQ [1,2] ?_
 refine zQ [1,2,3] ?_
 refine Zd ?_
 refine zQ [1,2,3,8] ?_
 refine Z8 ?_
 refine zQ [1,2,3,8,9] ?_
 refine Zo (t:=(a0.Kind == 1)) rfl (fun c317 => ?_) (fun c317 => ?_)
 ·replace h:=Zn c317 h
  refine Zd ?_
  obtain ⟨y2,hy2,h⟩:=bC h
  refine zR ?_
  refine GCalls.dropL (l':=[some ⟨false,30,11,1,(Zg a0)⟩,some ⟨false,25,3,1,[(vI 0),nV,nV]⟩,none,none]) hU rfl ?_ ((Ku hy2).then ?_)
  ·exact zSe
  refine zS ?_
  refine zD [2] [false,true,false,false] ?_
  refine zW ?_
  have h:=Option.some.inj h;subst h
  refine Zh (.inr rfl) hU [.agg (Ze y2)] (by omega) ?_
  simp only [push_cast,seval,↓reduceIte,Zc,Tryz.results16,hN0,hN]
 replace h:=Zm c317 h
 refine zQ [1,2,3,8,19] ?_
 refine Zo (t:=(a0.Kind == 2)) rfl (fun c316 => ?_) (fun c316 => ?_)
 ·replace h:=Zn c316 h
  obtain ⟨y51,hy51,h⟩:=bC h
  obtain ⟨y87,hy87,h⟩:=bC h
  obtain ⟨y111,hy111,h⟩:=bC h
  refine Y0 (E':=⟨48,[],[(2,.ref (n+1) 0)]⟩) (O':=(Zw O n [none,some ⟨false,25,3,1,(Ze y111)⟩,none,none])) (n0:=(n+4)) ?_ ?_
  ·refine Zwu Zs (by kernel_rfl) [.plain,.pass,.low,.low,.low,.low,.low,.low,.pass,.pass,.pass] (fun i=>i < (n+2)∧¬ i=n+1) [0,2,3,4,5,6,7] [1,8] [9,10] (.alt 1 (.seq [8]) (.one 8 (.seq [1]))) [.plain,.low,.low,.low,.low,.low,.low] [] (by kernel_rfl) rfl ?_
   refine zS ?_
   repeat (with_reducible refine And.intro (by omega) ?_)
   first | refine PCallA.of (fun _ _=>Zms hy51) ?_ | refine PCall.of (Zms hy51) ?_
   try simp only [push_cast,seval,↓reduceIte,Zc,hN0,hN]
   repeat (with_reducible refine And.intro (by omega) ?_)
   first | refine PCallA.of (fun _ _=>Zdl hy87) ?_ | refine PCall.of (Zdl hy87) ?_
   try simp only [push_cast,seval,↓reduceIte,Zc,hN0,hN]
   repeat (with_reducible refine And.intro (by omega) ?_)
   try simp only [push_cast,seval,↓reduceIte,Zc,hN0,hN]
   refine And.intro ?_ ?_
   ·try simp only [push_cast,seval,↓reduceIte,Zc,hN0,hN]
    repeat (with_reducible refine And.intro (by first | exact Xb rfl | exact Yv | exact X5 rfl | exact Xu rfl) ?_)
    try simp only [push_cast,seval,↓reduceIte,Zc,hN0,hN]
    repeat (with_reducible refine And.intro (by first | exact Xb rfl | exact Yv | exact X5 rfl | exact Xu rfl) ?_)
    refine GCalls.dropL (l':=[some ⟨false,30,11,1,(Zg a0)⟩,some ⟨false,25,3,1,[(vI 0),nV,nV]⟩,none,none]) hU rfl ?_ ((Ku hy111).then ?_)
    ·exact zSe
    try simp only [push_cast,seval,↓reduceIte,Zc,hN0,hN]
    repeat (with_reducible refine And.intro (by first | exact Xb rfl | exact Yv | exact X5 rfl | exact Xu rfl) ?_)
    exact zEf
   try simp only [push_cast,seval,↓reduceIte,Zc,hN0,hN]
   repeat (with_reducible refine And.intro (by first | exact Xb rfl | exact Yv | exact X5 rfl | exact Xu rfl) ?_)
   try simp only [push_cast,seval,↓reduceIte,Zc,hN0,hN]
   repeat (with_reducible refine And.intro (by first | exact Xb rfl | exact Yv | exact X5 rfl | exact Xu rfl) ?_)
   refine GCalls.dropL (l':=[some ⟨false,30,11,1,(Zg a0)⟩,some ⟨false,25,3,1,[(vI 0),nV,nV]⟩,none,none]) hU rfl ?_ ((Ku hy111).then ?_)
   ·exact zSe
   try simp only [push_cast,seval,↓reduceIte,Zc,hN0,hN]
   repeat (with_reducible refine And.intro (by first | exact Xb rfl | exact Yv | exact X5 rfl | exact Xu rfl) ?_)
   refine And.intro rfl ?_
   refine Fit2.trans (E':=(⟨48,[],[(2,.ref (n+1) 0)]⟩:Env)) (O':=(Zw O n [none,some ⟨false,25,3,1,(Ze y111)⟩,none,none])) (n':=(n+4)) (Fit2.of (Z6 hU rfl rfl ?_) (by omega)) ?_
   ·exact zSe
   refine Kk (k:=4) (k':=4) hU [0,1,3,2] [0,1,3,2] rfl rfl rfl rfl ⟨rfl,rfl⟩ ?_
   exact zSe
  refine zW ?_
  have h:=Option.some.inj h;subst h
  refine Zh (.inr rfl) hU [.agg (Ze y111)] (by omega) ?_
  simp only [push_cast,seval,↓reduceIte,Zc,Tryz.results16,hN0,hN]
 replace h:=Zm c316 h
 refine zQ [1,2,3,31] ?_
 refine Zo (t:=(a0.Kind == 3)) rfl (fun c315 => ?_) (fun c315 => ?_)
 ·replace h:=Zn c315 h
  obtain ⟨y267,hy267,h⟩:=bC h
  obtain ⟨y291,hy291,h⟩:=bC h
  refine Y0 (E':=⟨48,[],[(2,.ref (n+1) 0)]⟩) (O':=(Zw O n [none,some ⟨false,25,3,1,(Ze y291)⟩,none,none])) (n0:=(n+4)) ?_ ?_
  ·refine Zwu Zs (by kernel_rfl) [.plain,.low,.low,.low,.low,.low,.pass,.low,.low,.low,.low,.low,.pass,.pass,.pass] (fun i=>i < (n+2)∧¬ i=n+1) [0,1,2,3,4,5,7,8,9,10,11] [6,12] [13,14] (.alt 6 (.seq [12]) (.one 12 (.seq [6]))) [.plain,.low,.low,.low,.low,.low,.low,.low,.low,.low,.low] [] (by kernel_rfl) rfl ?_
   refine zS ?_
   repeat (with_reducible refine And.intro (by omega) ?_)
   first | refine PCallA.of (fun _ _=>Zep hy267) ?_ | refine PCall.of (Zep hy267) ?_
   try simp only [push_cast,seval,↓reduceIte,Zc,hN0,hN]
   repeat (with_reducible refine And.intro (by omega) ?_)
   try simp only [push_cast,seval,↓reduceIte,Zc,hN0,hN]
   refine And.intro ?_ ?_
   ·try simp only [push_cast,seval,↓reduceIte,Zc,hN0,hN]
    repeat (with_reducible refine And.intro (by first | exact Xb rfl | exact Yv | exact X5 rfl | exact Xu rfl) ?_)
    try simp only [push_cast,seval,↓reduceIte,Zc,hN0,hN]
    repeat (with_reducible refine And.intro (by first | exact Xb rfl | exact Yv | exact X5 rfl | exact Xu rfl) ?_)
    refine GCalls.dropL (l':=[some ⟨false,30,11,1,(Zg a0)⟩,some ⟨false,25,3,1,[(vI 0),nV,nV]⟩,none,none]) hU rfl ?_ ((Ku hy291).then ?_)
    ·exact zSe
    try simp only [push_cast,seval,↓reduceIte,Zc,hN0,hN]
    repeat (with_reducible refine And.intro (by first | exact Xb rfl | exact Yv | exact X5 rfl | exact Xu rfl) ?_)
    exact zEf
   try simp only [push_cast,seval,↓reduceIte,Zc,hN0,hN]
   repeat (with_reducible refine And.intro (by first | exact Xb rfl | exact Yv | exact X5 rfl | exact Xu rfl) ?_)
   try simp only [push_cast,seval,↓reduceIte,Zc,hN0,hN]
   repeat (with_reducible refine And.intro (by first | exact Xb rfl | exact Yv | exact X5 rfl | exact Xu rfl) ?_)
   refine GCalls.dropL (l':=[some ⟨false,30,11,1,(Zg a0)⟩,some ⟨false,25,3,1,[(vI 0),nV,nV]⟩,none,none]) hU rfl ?_ ((Ku hy291).then ?_)
   ·exact zSe
   try simp only [push_cast,seval,↓reduceIte,Zc,hN0,hN]
   repeat (with_reducible refine And.intro (by first | exact Xb rfl | exact Yv | exact X5 rfl | exact Xu rfl) ?_)
   refine And.intro rfl ?_
   refine Fit2.trans (E':=(⟨48,[],[(2,.ref (n+1) 0)]⟩:Env)) (O':=(Zw O n [none,some ⟨false,25,3,1,(Ze y291)⟩,none,none])) (n':=(n+4)) (Fit2.of (Z6 hU rfl rfl ?_) (by omega)) ?_
   ·exact zSe
   refine Kk (k:=4) (k':=4) hU [0,1,3,2] [0,1,3,2] rfl rfl rfl rfl ⟨rfl,rfl⟩ ?_
   exact zSe
  refine zW ?_
  have h:=Option.some.inj h;subst h
  refine Zh (.inr rfl) hU [.agg (Ze y291)] (by omega) ?_
  simp only [push_cast,seval,↓reduceIte,Zc,Tryz.results16,hN0,hN]
 replace h:=Zm c315 h
 refine X9 [2] [false,true] ?_
 refine Zd ?_
 refine zRd [2] [false,true] ?_
 refine zW ?_
 have h:=Option.some.inj h;subst h
 refine Zh (.inr rfl) hU [.agg [(vI 0),nV,nV]] (by omega) ?_
 simp only [push_cast,seval,↓reduceIte,Zc,Tryz.results16,hN0,hN]
theorem Zwj {X7:(Zf→Option Za)} {Xz:((List Zl)→Option Za)} {Qb:(Int→(List Zt)→Option Za)} (Ze6:Zhz X7) (Zdl:Zdi Xz) (Zep:Zem Qb) {a0:(List Zl)} {r:Za} {O:Objs} {n:Nat} (h:Zdq X7 Xz Qb a0=some r):GTo Tryz.prog 55 [(sL Zp a0)] O n (.agg (Ze r)) O n:=by
 unfold Zdq at h
 refine Yf Zs Tryz.call55 Tryz.func55 rfl (Nat.le_of_ble_eq_true rfl) (Nat.le_refl _) fun hU => ?_
 have hN0:O n=none:=hU.fresh _ (Nat.le_refl _)
 have hN:∀ k,O (n+k)=none:=fun k=>hU.fresh _ (Nat.le_add_right _ _)
 show W _ _ _ _ ⟨27,[],[(0,(sL Zp a0))]⟩ (Zw O n []) _
 refine zQ [0,2] ?_
 refine zQ [0,2,3] ?_
 refine Zd ?_
 refine zQd [2,3,6,7,8] [2,3,6,7,8] [true] ?_
 refine Zdn (E':=(⟨27,[],[(2,.ref n 0),(3,.row (n+1) ([]:List Za).length),(6,(sL Zp a0)),(7,(vI (a0.length:Int))),(8,(vI 0))]⟩:Env)) (O':=(Zw O n [some ⟨false,25,3,1,[(vI 0),nV,nV]⟩,some (oR 25 3 Zb ([]:List Za)),none])) (n':=(n+3)) ?_ ?_
 ·refine Fit2.trans (E':=(⟨27,[],[(2,.ref n 0),(3,nV),(6,(sL Zp a0)),(7,(vI (a0.length:Int))),(8,(vI 0))]⟩:Env)) (O':=(Zw O n [some ⟨false,25,3,1,[(vI 0),nV,nV]⟩])) (n':=(n+1)) (Fit2.of (Z6 hU rfl rfl ?_) (by omega)) ?_
  ·exact zSe
  refine Fit2.trans (Zcm 3 25 3 rfl (by omega)) ?_
  simp only [Jj,Ql,Ga,Vb,List.set_cons_zero,List.set_cons_succ,List.cons_append,List.nil_append,List.length_cons,List.length_nil,Nat.zero_add,Nat.reduceAdd,Nat.reduceLT,Nat.add_assoc]
  refine Fit2.trans (E':=(⟨27,[],[(2,.ref n 0),(3,.row (n+1) ([]:List Za).length),(6,(sL Zp a0)),(7,(vI (a0.length:Int))),(8,(vI 0))]⟩:Env)) (O':=(Zw O n [some ⟨false,25,3,1,[(vI 0),nV,nV]⟩,some (oR 25 3 Zb ([]:List Za))])) (n':=(n+2)) (Fit2.of (Z6 hU rfl rfl ?_) (by omega)) ?_
  ·exact zSe
  refine Kk (k:=2) (k':=3) hU [0,1] [0,1,0] rfl rfl rfl rfl ⟨rfl,rfl⟩ ?_
  exact zSe
 obtain ⟨z160,hz160,h⟩:=bC h
 refine Yi (E':=⟨27,[],[(2,.ref n 0),(3,.row (n+1) z160.length)]⟩) (O':=(Zw O n [some ⟨false,25,3,1,[(vI 0),nV,nV]⟩,some (oR 25 3 Zb z160),none])) (n0:=(n+3)) ?_ ?_
 ·refine Y2 hz160 (fun s0_=>⟨27,[],[(2,.ref n 0),(3,.row (n+1) s0_.2.length),(6,(sL Zp a0)),(7,(vI (a0.length:Int))),(8,(vI s0_.1))]⟩) (fun s0_=>(Zw O n [some ⟨false,25,3,1,[(vI 0),nV,nV]⟩,some (oR 25 3 Zb s0_.2),none])) (fun z160=>JX 0 n (⟨27,[],[(2,.ref n 0),(3,.row (n+1) z160.length)]⟩:Env) (Zw O n [some ⟨false,25,3,1,[(vI 0),nV,nV]⟩,some (oR 25 3 Zb z160),none]) (n+3)) ?_
  intro s0_ x0_ hs0_
  unfold Zay at hs0_
  try dsimp only
  refine zQ [2,3,6,7,8,9] ?_
  refine Zd ?_
  refine Zo (t:=(decide (s0_.1 < (a0.length:Int)))) rfl (fun c159 => ?_) (fun c159 => ?_)
  ·replace hs0_:=Zn c159 hs0_
   refine X9 [2,3,6,7,8] [true,true,false] ?_
   refine Zd ?_
   refine Z8 ?_
   refine Zd ?_
   obtain ⟨x2,hx2,ax2,bx2,cx2,hs0_⟩:=bE (f:=Zp) Zp2 (fun _=>rfl) (by decide) hs0_
   refine Zck [] ax2 bx2 cx2 ?_
   refine zD [2,3,5,6,7,8] [true,true,false,true] ?_
   obtain ⟨y87,hy87,hs0_⟩:=bC hs0_
   obtain ⟨y111,hy111,hs0_⟩:=bC hs0_
   obtain ⟨l135,pl135,ql135,el135,hs0_⟩:=bA (k:=1) rfl hs0_
   refine Yhk (E':=⟨27,[],[(2,.ref n 0),(3,.row (n+1) l135.length),(6,(sL Zp a0)),(7,(vI (a0.length:Int))),(8,(vI s0_.1))]⟩) (O':=(Zw O n [some ⟨false,25,3,1,[(vI 0),nV,nV]⟩,some (oR 25 3 Zb l135),none,none,none,none,none])) (n0:=(n+7)) ?_ ?_
   ·refine Zwu Zs (by kernel_rfl) [.plain,.low,.low,.low,.pass,.low,.low,.low,.pass,.pass,.pass,.pass,.plain] (fun i=>i < (n+4)∧¬ i=n+1) [0,1,2,3,5,6,7] [4,8,9,10] [11,12] (.alt 4 (.seq [8,9,10]) (.one 8 (.seq [4,9,10]))) [.plain,.low,.low,.low,.low,.low,.low] [] (by kernel_rfl) rfl ?_
    simp (maxSteps:=4000000) only [push_cast,seval,↓reduceIte,Zc,pl135,ql135,el135,hN0,hN]
    repeat (with_reducible refine And.intro (by omega) ?_)
    first | refine PCallA.of (fun _ _=>Ze6 hy87) ?_ | refine PCall.of (Ze6 hy87) ?_
    simp (maxSteps:=4000000) only [push_cast,seval,↓reduceIte,Zc,pl135,ql135,el135,hN0,hN]
    repeat (with_reducible refine And.intro (by omega) ?_)
    try simp only [push_cast,seval,↓reduceIte,Zc,pl135,ql135,el135,hN0,hN]
    refine And.intro ?_ ?_
    ·try simp only [push_cast,seval,↓reduceIte,Zc,pl135,ql135,el135,hN0,hN]
     repeat (with_reducible refine And.intro (by first | exact Xb rfl | exact Yv | exact X5 rfl | exact Xu rfl) ?_)
     try simp only [push_cast,seval,↓reduceIte,Zc,pl135,ql135,el135,hN0,hN]
     repeat (with_reducible refine And.intro (by first | exact Xb rfl | exact Yv | exact X5 rfl | exact Xu rfl) ?_)
     refine GCalls.dropL (l':=[some ⟨false,25,3,1,[(vI 0),nV,nV]⟩,some (oR 25 3 Zb s0_.2),none,some ⟨false,86,12,1,(Kz x2)⟩,none,none]) hU rfl ?_ ((Ku hy111).then ?_)
     ·exact Znt pl135 ql135 el135
     try simp only [push_cast,seval,↓reduceIte,Zc,pl135,ql135,el135,hN0,hN]
     repeat (with_reducible refine And.intro (by first | exact Xb rfl | exact Yv | exact X5 rfl | exact Xu rfl) ?_)
     exact Ymv pl135 ql135 el135
    try simp only [push_cast,seval,↓reduceIte,Zc,pl135,ql135,el135,hN0,hN]
    repeat (with_reducible refine And.intro (by first | exact Xb rfl | exact Yv | exact X5 rfl | exact Xu rfl) ?_)
    try simp only [push_cast,seval,↓reduceIte,Zc,pl135,ql135,el135,hN0,hN]
    repeat (with_reducible refine And.intro (by first | exact Xb rfl | exact Yv | exact X5 rfl | exact Xu rfl) ?_)
    refine GCalls.dropL (l':=[some ⟨false,25,3,1,[(vI 0),nV,nV]⟩,some (oR 25 3 Zb s0_.2),none,some ⟨false,86,12,1,(Kz x2)⟩,none,none]) hU rfl ?_ ((Ku hy111).then ?_)
    ·exact Znt pl135 ql135 el135
    try simp only [push_cast,seval,↓reduceIte,Zc,pl135,ql135,el135,hN0,hN]
    repeat (with_reducible refine And.intro (by first | exact Xb rfl | exact Yv | exact X5 rfl | exact Xu rfl) ?_)
    refine And.intro rfl ?_
    refine Fit2.trans (E':=(⟨27,[],[(2,.ref n 0),(3,.row (n+1) l135.length),(6,(sL Zp a0)),(7,(vI (a0.length:Int))),(8,(vI s0_.1))]⟩:Env)) (O':=(Zw O n [some ⟨false,25,3,1,[(vI 0),nV,nV]⟩,some (oR 25 3 Zb l135),none,none,none,none,none])) (n':=(n+7)) (Fit2.of (Z6 hU rfl rfl ?_) (by omega)) ?_
    ·exact Znt pl135 ql135 el135
    refine Kk (k:=7) (k':=7) hU [0,1,2,3,5,4,6] [0,1,2,3,5,4,6] rfl rfl rfl rfl ⟨rfl,rfl⟩ ?_
    exact Znt pl135 ql135 el135
   try simp only [Yx,Ya]
   refine zD [2,3,6,7,8] [true,true,false,false,false,false,false] ?_
   refine zR ?_
   exact zEn hs0_
  replace hs0_:=Zm c159 hs0_
  exact zEx hs0_
 try simp only [Yx,Ya,↓reduceIte,Nat.reduceEqDiff]
 refine zD [2,3] [true,true,false] ?_
 refine Vp ⟨27,[],[(2,.ref n 0),(3,(sL Zb z160))]⟩ (Zw O n [some ⟨false,25,3,1,[(vI 0),nV,nV]⟩,none,none]) (Z6 hU rfl rfl ?_) ?_
 ·exact zSe
 refine Zd ?_
 obtain ⟨y162,hy162,h⟩:=bC h
 refine zCd (Zqq hy162) [2] [true,false,false] ?_
 refine zW ?_
 have h:=Option.some.inj h;subst h
 refine Zh (.inr rfl) hU [.agg (Ze y162)] (by omega) ?_
 simp only [push_cast,seval,↓reduceIte,Zc,Tryz.results55,hN0,hN]
theorem Zx7 {X7:(Zf→Option Za)} {Xz:((List Zl)→Option Za)} {Qb:(Int→(List Zt)→Option Za)} (Ze6:Zhz X7) (Zdl:Zdi Xz) (Zep:Zem Qb) {a0:Int} {a1:(List Zt)} {r:Za} {O:Objs} {n:Nat} (h:Zeu X7 Xz Qb a0 a1=some r):GTo Tryz.prog 56 [(vI a0),(sL Zx a1)] O n (.agg (Ze r)) O n:=by
 unfold Zeu at h
 refine Yf Zs Tryz.call56 Tryz.func56 rfl (Nat.le_of_ble_eq_true rfl) (Nat.le_refl _) fun hU => ?_
 have hN0:O n=none:=hU.fresh _ (Nat.le_refl _)
 have hN:∀ k,O (n+k)=none:=fun k=>hU.fresh _ (Nat.le_add_right _ _)
 show W _ _ _ _ ⟨60,[],[(0,(vI a0)),(1,(sL Zx a1))]⟩ (Zw O n []) _
 refine zQ [0,1,4] ?_
 refine zQ [0,1,4,5] ?_
 refine Zd ?_
 refine zQd [0,4,5,9,10,11] [0,4,5,9,10,11] [true] ?_
 refine Zdn (E':=(⟨60,[],[(0,(vI a0)),(4,.ref n 0),(5,.row (n+1) ([]:List Za).length),(9,(sL Zx a1)),(10,(vI (a1.length:Int))),(11,(vI 0))]⟩:Env)) (O':=(Zw O n [some ⟨false,25,3,1,[(vI 0),nV,nV]⟩,some (oR 25 3 Zb ([]:List Za)),none])) (n':=(n+3)) ?_ ?_
 ·refine Fit2.trans (E':=(⟨60,[],[(0,(vI a0)),(4,.ref n 0),(5,nV),(9,(sL Zx a1)),(10,(vI (a1.length:Int))),(11,(vI 0))]⟩:Env)) (O':=(Zw O n [some ⟨false,25,3,1,[(vI 0),nV,nV]⟩])) (n':=(n+1)) (Fit2.of (Z6 hU rfl rfl ?_) (by omega)) ?_
  ·exact zSe
  refine Fit2.trans (Zcm 5 25 3 rfl (by omega)) ?_
  simp only [Jj,Ql,Ga,Vb,List.set_cons_zero,List.set_cons_succ,List.cons_append,List.nil_append,List.length_cons,List.length_nil,Nat.zero_add,Nat.reduceAdd,Nat.reduceLT,Nat.add_assoc]
  refine Fit2.trans (E':=(⟨60,[],[(0,(vI a0)),(4,.ref n 0),(5,.row (n+1) ([]:List Za).length),(9,(sL Zx a1)),(10,(vI (a1.length:Int))),(11,(vI 0))]⟩:Env)) (O':=(Zw O n [some ⟨false,25,3,1,[(vI 0),nV,nV]⟩,some (oR 25 3 Zb ([]:List Za))])) (n':=(n+2)) (Fit2.of (Z6 hU rfl rfl ?_) (by omega)) ?_
  ·exact zSe
  refine Kk (k:=2) (k':=3) hU [0,1] [0,1,0] rfl rfl rfl rfl ⟨rfl,rfl⟩ ?_
  exact zSe
 obtain ⟨z18,hz18,h⟩:=bC h
 refine Yi (E':=⟨60,[],[(4,.ref n 0),(5,.row (n+1) z18.length)]⟩) (O':=(Zw O n [some ⟨false,25,3,1,[(vI 0),nV,nV]⟩,some (oR 25 3 Zb z18),none])) (n0:=(n+3)) ?_ ?_
 ·refine Y2 hz18 (fun s0_=>⟨60,[],[(0,(vI a0)),(4,.ref n 0),(5,.row (n+1) s0_.2.length),(9,(sL Zx a1)),(10,(vI (a1.length:Int))),(11,(vI s0_.1))]⟩) (fun s0_=>(Zw O n [some ⟨false,25,3,1,[(vI 0),nV,nV]⟩,some (oR 25 3 Zb s0_.2),none])) (fun z18=>JX 0 n (⟨60,[],[(4,.ref n 0),(5,.row (n+1) z18.length)]⟩:Env) (Zw O n [some ⟨false,25,3,1,[(vI 0),nV,nV]⟩,some (oR 25 3 Zb z18),none]) (n+3)) ?_
  intro s0_ x0_ hs0_
  unfold Zbx at hs0_
  try dsimp only
  refine zQ [0,4,5,9,10,11,12] ?_
  refine Zd ?_
  refine Zo (t:=(decide (s0_.1 < (a1.length:Int)))) rfl (fun c17 => ?_) (fun c17 => ?_)
  ·replace hs0_:=Zn c17 hs0_
   refine X9 [0,4,5,9,10,11] [true,true,false] ?_
   obtain ⟨z1,hz1,hs0_⟩:=bC hs0_
   refine Y0 (E':=⟨60,[],[(0,(vI a0)),(4,.ref n 0),(5,.row (n+1) z1.length),(9,(sL Zx a1)),(10,(vI (a1.length:Int))),(11,(vI s0_.1))]⟩) (O':=(Zw O n [some ⟨false,25,3,1,[(vI 0),nV,nV]⟩,some (oR 25 3 Zb z1),none,none,none,none,none])) (n0:=(n+7)) ?_ ?_
   ·refine Z8 ?_
    refine Zd ?_
    obtain ⟨x3,hx3,ax3,bx3,cx3,hz1⟩:=bE (f:=Zx) Zk9 (fun _=>rfl) (by decide) hz1
    refine Zck [] ax3 bx3 cx3 ?_
    refine zDs [0,4,5,7,9,10,11] [true,true,false,true] ?_
    refine zR ?_
    refine Vp ⟨60,[],[(0,(vI a0)),(4,.ref n 0),(5,.row (n+1) s0_.2.length),(7,.ref (n+3) 0),(8,.row (n+4) ([(IntKind.u64.wrap (Zdx .u64 (IntKind.u64.wrap x3.Kind) (IntKind.u64.wrap ((IntKind.u64.wrap x3.N) * 2 ^ min (Int.toNat 8) 64))))]:List Int).length),(9,(sL Zx a1)),(10,(vI (a1.length:Int))),(11,(vI s0_.1))]⟩ (Zw O n [some ⟨false,25,3,1,[(vI 0),nV,nV]⟩,some (oR 25 3 Zb s0_.2),none,some ⟨false,89,14,1,(Yw x3)⟩,some (oR 77 1 (eI .u64) ([(IntKind.u64.wrap (Zdx .u64 (IntKind.u64.wrap x3.Kind) (IntKind.u64.wrap ((IntKind.u64.wrap x3.N) * 2 ^ min (Int.toNat 8) 64))))]:List Int))]) (Z6 hU rfl rfl ?_) ?_
    ·exact zSe
    refine zQ [0,4,5,7,8,9,10,11,25] ?_
    refine Z8 ?_
    refine zQ [0,4,5,7,8,9,10,11,25,26] ?_
    refine Zo (t:=(x3.Kind == 0)) rfl (fun c16 => ?_) (fun c16 => ?_)
    ·replace hz1:=Zn c16 hz1
     refine Vp ⟨60,[],[(0,(vI a0)),(4,.ref n 0),(5,.row (n+1) s0_.2.length),(8,(sL (eI .u64) ([(IntKind.u64.wrap (Zdx .u64 (IntKind.u64.wrap x3.Kind) (IntKind.u64.wrap ((IntKind.u64.wrap x3.N) * 2 ^ min (Int.toNat 8) 64))))]:List Int))),(9,(sL Zx a1)),(10,(vI (a1.length:Int))),(11,(vI s0_.1))]⟩ (Zw O n [some ⟨false,25,3,1,[(vI 0),nV,nV]⟩,some (oR 25 3 Zb s0_.2),none,none,none]) (Z6 hU rfl rfl ?_) ?_
     ·exact zSe
     obtain ⟨y4,hy4,hz1⟩:=bC hz1
     obtain ⟨l5,pl5,ql5,el5,hz1⟩:=bA (k:=1) rfl hz1
     refine Zap [] pl5 ql5 el5 ?_
     refine GCalls.argsW ?_ ((Ku hy4).then ?_)
     ·exact Znt pl5 ql5 el5
     refine zX3 pl5 ql5 el5 ?_
     exact Zfh hz1 pl5 ql5 el5
    replace hz1:=Zm c16 hz1
    obtain ⟨z6,hz6,hz1⟩:=bC hz1
    refine Y0 (E':=⟨60,[],[(0,(vI a0)),(4,.ref n 0),(5,.row (n+1) s0_.2.length),(7,.ref (n+3) 0),(8,.row (n+4) z6.2.length),(9,(sL Zx a1)),(10,(vI (a1.length:Int))),(11,(vI s0_.1)),(25,(vI x3.Kind)),(33,(vB z6.1))]⟩) (O':=(Zw O n [some ⟨false,25,3,1,[(vI 0),nV,nV]⟩,some (oR 25 3 Zb s0_.2),none,some ⟨false,89,14,1,(Yw x3)⟩,some (oR 77 1 (eI .u64) z6.2)])) (n0:=(n+5)) ?_ ?_
    ·refine zQ [0,4,5,7,8,9,10,11,25,33] ?_
     refine Zo (t:=(x3.Kind == 1)) rfl (fun c7 => ?_) (fun c7 => ?_)
     ·replace hz6:=Zn c7 hz6
      refine zK ?_
      exact zEn hz6
     replace hz6:=Zm c7 hz6
     refine zR ?_
     exact zEn hz6
    refine Zo (t:=z6.1) rfl (fun Vq => ?_) (fun Vq => ?_)
    ·replace hz1:=Zn Vq hz1
     refine Vp ⟨60,[],[(0,(vI a0)),(4,.ref n 0),(5,.row (n+1) s0_.2.length),(7,.ref (n+3) 0),(8,(sL (eI .u64) z6.2)),(9,(sL Zx a1)),(10,(vI (a1.length:Int))),(11,(vI s0_.1))]⟩ (Zw O n [some ⟨false,25,3,1,[(vI 0),nV,nV]⟩,some (oR 25 3 Zb s0_.2),none,some ⟨false,89,14,1,(Yw x3)⟩,none]) (Z6 hU rfl rfl ?_) ?_
     ·exact zSe
     obtain ⟨y8,hy8,hz1⟩:=bC hz1
     obtain ⟨l9,pl9,ql9,el9,hz1⟩:=bA (k:=1) rfl hz1
     refine Zap [] pl9 ql9 el9 ?_
     refine GCalls.dropL (l':=[some ⟨false,25,3,1,[(vI 0),nV,nV]⟩,some (oR 25 3 Zb s0_.2),none,some ⟨false,89,14,1,(Yw x3)⟩,none,none]) hU rfl ?_ ((Ku hy8).then ?_)
     ·exact Znt pl9 ql9 el9
     refine zX3 pl9 ql9 el9 ?_
     exact Zfh hz1 pl9 ql9 el9
    replace hz1:=Zm Vq hz1
    refine zQ [0,4,5,7,8,9,10,11,46] ?_
    refine Zo (t:=(x3.Kind == 3)) rfl (fun Qs => ?_) (fun Qs => ?_)
    ·replace hz1:=Zn Qs hz1
     refine Vp ⟨60,[],[(0,(vI a0)),(4,.ref n 0),(5,.row (n+1) s0_.2.length),(7,.ref (n+3) 0),(8,(sL (eI .u64) z6.2)),(9,(sL Zx a1)),(10,(vI (a1.length:Int))),(11,(vI s0_.1))]⟩ (Zw O n [some ⟨false,25,3,1,[(vI 0),nV,nV]⟩,some (oR 25 3 Zb s0_.2),none,some ⟨false,89,14,1,(Yw x3)⟩,none]) (Z6 hU rfl rfl ?_) ?_
     ·exact zSe
     obtain ⟨y11,hy11,hz1⟩:=bC hz1
     obtain ⟨y12,hy12,hz1⟩:=bC hz1
     obtain ⟨l13,pl13,ql13,el13,hz1⟩:=bA (k:=1) rfl hz1
     refine Zap [] pl13 ql13 el13 ?_
     refine (Ze6 hy11).then ?_
     refine zX3 pl13 ql13 el13 ?_
     refine GCalls.dropL (l':=[some ⟨false,25,3,1,[(vI 0),nV,nV]⟩,some (oR 25 3 Zb s0_.2),none,some ⟨false,89,14,1,(Yw x3)⟩,none,none]) hU rfl ?_ ((Ku hy12).then ?_)
     ·exact Znt pl13 ql13 el13
     refine zX3 pl13 ql13 el13 ?_
     exact Zfh hz1 pl13 ql13 el13
    replace hz1:=Zm Qs hz1
    refine zK ?_
    exact zEn hz1
   refine zR ?_
   exact zEn hs0_
  replace hs0_:=Zm c17 hs0_
  exact zEx hs0_
 try simp only [Yx,Ya,↓reduceIte,Nat.reduceEqDiff]
 refine zD [4,5] [true,true,false] ?_
 refine Vp ⟨60,[],[(4,.ref n 0),(5,(sL Zb z18))]⟩ (Zw O n [some ⟨false,25,3,1,[(vI 0),nV,nV]⟩,none,none]) (Z6 hU rfl rfl ?_) ?_
 ·exact zSe
 refine Zd ?_
 obtain ⟨y20,hy20,h⟩:=bC h
 refine zCd (Zqq hy20) [4] [true,false,false] ?_
 refine zW ?_
 have h:=Option.some.inj h;subst h
 refine Zh (.inr rfl) hU [.agg (Ze y20)] (by omega) ?_
 simp only [push_cast,seval,↓reduceIte,Zc,Tryz.results56,hN0,hN]
theorem Z0o:∀ k,(Zhz ((Y5 k).1))∧(Zdi ((Y5 k).2.1))∧(Zem ((Y5 k).2.2)):=fun k=>by
 induction k with
 | zero=>exact ⟨@fun a0 r O n h=>(nomatch (show (none:Option _)=some _ from h)),@fun a0 r O n h=>(nomatch (show (none:Option _)=some _ from h)),@fun a0 a1 r O n h=>(nomatch (show (none:Option _)=some _ from h))⟩
 | succ k ih=>exact ⟨@fun a0 r O n h=>Z27 (ih.1) (ih.2.1) (ih.2.2)  h,@fun a0 r O n h=>Zwj (ih.1) (ih.2.1) (ih.2.2)  h,@fun a0 a1 r O n h=>Zx7 (ih.1) (ih.2.1) (ih.2.2)  h⟩
theorem Zok {a0:Zf} {r:Za} {O:Objs} {n:Nat} (h:Zjc a0=some r):GTo Tryz.prog 16 [.agg (Zg a0)] O n (.agg (Ze r)) O n:=by
 obtain ⟨k,hk⟩:=Vx h
 exact (Z0o k).1  hk
theorem Zc6 {a0:(List Int)} {r:(List Int)} {O:Objs} {n:Nat} (h:U6 a0=some r):GTo Tryz.prog 106 [(sL (eI .u64) a0)] O n ((sL (eI .u64) r)) O n:=by
 unfold U6 at h
 refine Yf Zs Tryz.call106 Tryz.func106 rfl (Nat.le_of_ble_eq_true rfl) (Nat.le_refl _) fun hU => ?_
 have hN0:O n=none:=hU.fresh _ (Nat.le_refl _)
 have hN:∀ k,O (n+k)=none:=fun k=>hU.fresh _ (Nat.le_add_right _ _)
 show W _ _ _ _ ⟨22,[],[(0,(sL (eI .u64) a0))]⟩ (Zw O n []) _
 refine zQ [0] ?_
 refine zQ [0,3] ?_
 refine Zd ?_
 refine zD [0,3] [] ?_
 obtain ⟨z7,hz7,h⟩:=bC h
 refine Yi (E':=⟨22,[],[(0,(sL (eI .u64) a0)),(3,(vI z7))]⟩) (O':=(Zw O n [])) (n0:=n) ?_ ?_
 ·refine Y2 hz7 (fun s0_=>⟨22,[],[(0,(sL (eI .u64) a0)),(3,(vI s0_))]⟩) (fun s0_=>(Zw O n [])) (fun z7=>JX 0 n (⟨22,[],[(0,(sL (eI .u64) a0)),(3,(vI z7))]⟩:Env) (Zw O n []) n) ?_
  intro s0_ x0_ hs0_
  unfold Za3 at hs0_
  try dsimp only
  refine Zd ?_
  obtain ⟨z2,hz2,hs0_⟩:=bC hs0_
  refine Y0 (E':=⟨22,[],[(0,(sL (eI .u64) a0)),(3,(vI s0_)),(15,(vB z2))]⟩) (O':=(Zw O n [])) (n0:=n) ?_ ?_
  ·rcases Bool.eq_false_or_eq_true (decide (0 < s0_)) with c5 | c5
   ·replace hz2:=Zn c5 hz2
    obtain ⟨x4,hx4,ax4,bx4,cx4,hz2⟩:=bE (f:=(eI .u64)) Zci (fun _=>rfl) (by decide) hz2
    refine Z1m [some true,some true,some true,some true,some true,some true] c5 ax4 bx4 cx4 ?_
    exact Ygd hz2 c5 ax4 bx4 cx4
   replace hz2:=Zm c5 hz2
   refine Q7 [some false,some false,some false,some false,some false,some false] c5 ?_
   exact Qk hz2 c5
  refine Zo (t:=z2) rfl (fun c6 => ?_) (fun c6 => ?_)
  ·replace hs0_:=Zn c6 hs0_
   refine X9 [0,3] [] ?_
   refine Z8 ?_
   refine zR ?_
   exact zEn hs0_
  replace hs0_:=Zm c6 hs0_
  exact zEx hs0_
 try simp only [Yx,Ya,↓reduceIte,Nat.reduceEqDiff]
 refine zD [0,3] [] ?_
 obtain ⟨l9,al9,bl9,cl9,gl9,h⟩:=bS3 (lo:=none) (hi:=(.i64,z7)) (f:=(eI .u64)) rfl rfl Zjs Zci (fun _=>rfl) h
 refine Ym1 [2] al9 bl9 cl9 gl9 ?_
 refine zW ?_
 have h:=Option.some.inj h;subst h
 refine Zh (.inr rfl) hU [(sL (eI .u64) l9)] (by omega) ?_
 simp only [push_cast,seval,↓reduceIte,Zc,Tryz.results106,hN0,hN]
theorem Zj6 {a0:(List Za)} {r:(List Za)} {O:Objs} {n:Nat} (h:Zat a0=some r):GTo Tryz.prog 108 [(sL Zb a0)] O n ((sL Zb r)) O n:=by
 unfold Zat at h
 refine Yf Zs Tryz.call108 Tryz.func108 rfl (Nat.le_of_ble_eq_true rfl) (Nat.le_refl _) fun hU => ?_
 have hN0:O n=none:=hU.fresh _ (Nat.le_refl _)
 have hN:∀ k,O (n+k)=none:=fun k=>hU.fresh _ (Nat.le_add_right _ _)
 show W _ _ _ _ ⟨23,[],[(0,(sL Zb a0))]⟩ (Zw O n []) _
 refine zQ [0] ?_
 refine zQ [0,3] ?_
 refine Zd ?_
 refine zD [0,3] [] ?_
 obtain ⟨z10,hz10,h⟩:=bC h
 refine Yi (E':=⟨23,[],[(0,(sL Zb a0)),(3,(vI z10))]⟩) (O':=(Zw O n [])) (n0:=n) ?_ ?_
 ·refine Y2 hz10 (fun s0_=>⟨23,[],[(0,(sL Zb a0)),(3,(vI s0_))]⟩) (fun s0_=>(Zw O n [])) (fun z10=>JX 0 n (⟨23,[],[(0,(sL Zb a0)),(3,(vI z10))]⟩:Env) (Zw O n []) n) ?_
  intro s0_ x0_ hs0_
  unfold Zb6 at hs0_
  try dsimp only
  refine Zd ?_
  obtain ⟨z3,hz3,hs0_⟩:=bC hs0_
  refine Y0 (E':=⟨23,[],[(0,(sL Zb a0)),(3,(vI s0_)),(16,(vB z3))]⟩) (O':=(Zw O n [])) (n0:=n) ?_ ?_
  ·rcases Bool.eq_false_or_eq_true (decide (0 < s0_)) with c8 | c8
   ·replace hz3:=Zn c8 hz3
    obtain ⟨x6,hx6,ax6,bx6,cx6,hz3⟩:=bE (f:=Zb) G7 (fun _=>rfl) (by decide) hz3
    have g7:=Zqe (f:=Zb) (sz:=3) Z5f (fun _=>rfl) (by decide) (by decide) hx6
    refine Ya9 [some true,some true,some true,some true,some true,some true,some true] c8 ax6 bx6 cx6 g7 ?_
    exact Yhy hz3 c8 ax6 bx6 cx6 g7
   replace hz3:=Zm c8 hz3
   refine Q7 [some false,some false,some false,some false,some false,some false,some false] c8 ?_
   exact Qk hz3 c8
  refine Zo (t:=z3) rfl (fun c9 => ?_) (fun c9 => ?_)
  ·replace hs0_:=Zn c9 hs0_
   refine X9 [0,3] [] ?_
   refine Z8 ?_
   refine zR ?_
   exact zEn hs0_
  replace hs0_:=Zm c9 hs0_
  exact zEx hs0_
 try simp only [Yx,Ya,↓reduceIte,Nat.reduceEqDiff]
 refine zD [0,3] [] ?_
 obtain ⟨l12,al12,bl12,cl12,gl12,h⟩:=bS3 (lo:=none) (hi:=(.i64,z10)) (f:=Zb) rfl rfl Zn9 G7 (fun _=>rfl) h
 refine Ym1 [2] al12 bl12 cl12 gl12 ?_
 refine zW ?_
 have h:=Option.some.inj h;subst h
 refine Zh (.inr rfl) hU [(sL Zb l12)] (by omega) ?_
 simp only [push_cast,seval,↓reduceIte,Zc,Tryz.results108,hN0,hN]
def Zsi (Zed:(Za→Option Za)):Prop:=∀ {a0:Za} {r:Za} {O:Objs} {n:Nat},Zed a0=some r→GTo Tryz.prog 81 [.agg (Ze a0)] O n (.agg (Ze r)) O n
theorem Z6i {Zed:(Za→Option Za)} (Z24:Zsi Zed) {a0:Za} {r:Za} {O:Objs} {n:Nat} (h:Zkc Zed a0=some r):GTo Tryz.prog 81 [.agg (Ze a0)] O n (.agg (Ze r)) O n:=by
 unfold Zkc at h
 refine Yf Zs Tryz.call81 Tryz.func81 rfl (Nat.le_of_ble_eq_true rfl) (Nat.le_refl _) fun hU => ?_
 have hN0:O n=none:=hU.fresh _ (Nat.le_refl _)
 have hN:∀ k,O (n+k)=none:=fun k=>hU.fresh _ (Nat.le_add_right _ _)
 show W _ _ _ _ ⟨49,[],[(0,.agg (Ze a0))]⟩ (Zw O n []) _
 refine zQ [1,2] ?_
 refine Zd ?_
 refine zQ [1,2,10] ?_
 refine Zo (t:=(a0.Kind == 0)) rfl (fun Vq => ?_) (fun Vq => ?_)
 ·replace h:=Zn Vq h
  refine Zd ?_
  refine zRd [2] [false,true] ?_
  refine zW ?_
  have h:=Option.some.inj h;subst h
  refine Zh (.inr rfl) hU [.agg [(vI 0),nV,nV]] (by omega) ?_
  simp only [push_cast,seval,↓reduceIte,Zc,Tryz.results81,hN0,hN]
 replace h:=Zm Vq h
 refine X9 [1,2] [true,true] ?_
 refine Zis [1,2,3,4] (Qf Zs (by kernel_rfl) [] (by kernel_rfl) ?_)
 refine zS ?_
 obtain ⟨z1,hz1,h⟩:=bC h
 refine Y0 (E':=⟨49,[],[(1,.ref n 0),(2,.ref (n+1) 0),(3,(sL (eI .u64) z1.1)),(4,(sL Zb z1.2))]⟩) (O':=(Zw O n [some ⟨false,25,3,1,(Ze a0)⟩,some ⟨false,25,3,1,[(vI 0),nV,nV]⟩])) (n0:=(n+2)) ?_ ?_
 ·refine zQ [1,2,3,4,18] ?_
  refine Zo (t:=(a0.Kind == 1)) rfl (fun c4 => ?_) (fun c4 => ?_)
  ·replace hz1:=Zn c4 hz1
   obtain ⟨y2,hy2,hz1⟩:=bC hz1
   obtain ⟨y3,hy3,hz1⟩:=bC hz1
   refine zC (Zc6 hy2) ?_
   refine zTs (Zj6 hy3) ?_
   exact zEn hz1
  replace hz1:=Zm c4 hz1
  refine zK ?_
  exact zEn hz1
 refine Zd ?_
 refine zRd [2,4,5] [false,true,true] ?_
 obtain ⟨z5,hz5,h⟩:=bC h
 refine Y0 (E':=⟨49,[],[(2,.ref (n+1) 0),(4,(sL Zb z1.2)),(5,.ref (n+2) 0)]⟩) (O':=(Zw O n [none,some ⟨false,25,3,1,[(vI 0),nV,nV]⟩,some ⟨false,25,3,1,[(vI a0.Kind),(sL (eI .u64) z1.1),.row (n+4) z5.length]⟩,none,some (oR 25 3 Zb z5),none])) (n0:=(n+6)) ?_ ?_
 ·refine zQ [2,4,5,29] ?_
  refine Zo (t:=(decide (0 < (z1.2.length:Int)))) rfl (fun c7 => ?_) (fun c7 => ?_)
  ·replace hz5:=Zn c7 hz5
   obtain ⟨l6,al6,bl6,cl6,el6,hz5⟩:=bM2 (c:=56) rfl hz5
   have nl6:Int.toNat (z1.2.length:Int)=List.length l6:=by rw [el6,List.length_replicate]
   have fl6:∀ O O' n,wkl O O' n (List.replicate (List.length l6) [.val (.int .i64 0),.val (.slice none 0 0),.val (.slice none 0 0)]).flatten (fl Zb l6)=True:=fun O O' n=>by rw [← nl6,el6];exact eq_true (Ya8 (by simp only [push_cast,seval,↓reduceIte,Zc]) _)
   clear el6
   refine Yu Zs [] ?_
   simp only [push_cast,seval,↓reduceIte,Zc,al6,bl6,cl6,fl6,nl6,hN0,hN]
   have hz5:=Option.some.inj hz5;subst hz5
   refine And.intro rfl ?_
   refine Fit2.trans (E':=(⟨49,[],[(2,.ref (n+1) 0),(4,(sL Zb z1.2)),(5,.ref (n+2) 0)]⟩:Env)) (O':=(Zw O n [none,some ⟨false,25,3,1,[(vI 0),nV,nV]⟩,some ⟨false,25,3,1,[(vI a0.Kind),(sL (eI .u64) z1.1),.row (n+3) l6.length]⟩,some (oR 25 3 Zb l6)])) (n':=(n+4)) (Fit2.of (Z6 hU rfl rfl ?_) (by omega)) ?_
   ·simp only [push_cast,seval,↓reduceIte,Zc,al6,bl6,cl6,fl6,nl6,hN0,hN]
   refine Kk (k:=4) (k':=6) hU [5,1,2,4] [0,1,2,0,3,0] rfl rfl rfl rfl ⟨rfl,rfl⟩ ?_
   exact zSe
  replace hz5:=Zm c7 hz5
  refine zK ?_
  have hz5:=Option.some.inj hz5;subst hz5
  refine And.intro rfl ?_
  refine Fit2.trans (E':=(⟨49,[],[(2,.ref (n+1) 0),(4,(sL Zb z1.2)),(5,.ref (n+2) 0)]⟩:Env)) (O':=(Zw O n [none,some ⟨false,25,3,1,[(vI 0),nV,nV]⟩,some ⟨false,25,3,1,[(vI a0.Kind),(sL (eI .u64) z1.1),nV]⟩])) (n':=(n+3)) (Fit2.of (Z6 hU rfl rfl ?_) (by omega)) ?_
  ·exact zSe
  refine Fit2.trans (Zqa (p:=(n+2)) (k:=2) (q:=⟨false,25,3,1,[(vI a0.Kind),(sL (eI .u64) z1.1),nV]⟩) 25 3 (by simp only [Zfm,Zlq,List.getElem?_cons_zero,List.getElem?_cons_succ,Option.join_some,List.length_nil,Xw]) rfl (by omega)) ?_
  simp only [Jj,Ql,Ga,Vb,List.set_cons_zero,List.set_cons_succ,List.cons_append,List.nil_append,List.length_cons,List.length_nil,Nat.zero_add,Nat.reduceAdd,Nat.reduceLT,Nat.add_assoc]
  refine Kk (k:=4) (k':=6) hU [5,1,2,4] [0,1,2,0,3,0] rfl rfl rfl rfl ⟨rfl,rfl⟩ ?_
  exact zSe
 refine Zd ?_
 refine zQd [2,5,34,35,36] [2,5,34,35,36] [false,true,true,false,true,false] ?_
 obtain ⟨z14,hz14,h⟩:=bC h
 refine Yi (E':=⟨49,[],[(2,.ref (n+1) 0),(5,.ref (n+2) 0)]⟩) (O':=(Zw O n [none,some ⟨false,25,3,1,[(vI 0),nV,nV]⟩,some ⟨false,25,3,1,[(vI a0.Kind),(sL (eI .u64) z1.1),.row (n+4) z14.length]⟩,none,some (oR 25 3 Zb z14),none])) (n0:=(n+6)) ?_ ?_
 ·refine Y2 hz14 (fun s0_=>⟨49,[],[(2,.ref (n+1) 0),(5,.ref (n+2) 0),(34,(sL Zb z1.2)),(35,(vI (z1.2.length:Int))),(36,(vI s0_.1))]⟩) (fun s0_=>(Zw O n [none,some ⟨false,25,3,1,[(vI 0),nV,nV]⟩,some ⟨false,25,3,1,[(vI a0.Kind),(sL (eI .u64) z1.1),.row (n+4) s0_.2.length]⟩,none,some (oR 25 3 Zb s0_.2),none])) (fun z14=>JX 0 n (⟨49,[],[(2,.ref (n+1) 0),(5,.ref (n+2) 0)]⟩:Env) (Zw O n [none,some ⟨false,25,3,1,[(vI 0),nV,nV]⟩,some ⟨false,25,3,1,[(vI a0.Kind),(sL (eI .u64) z1.1),.row (n+4) z14.length]⟩,none,some (oR 25 3 Zb z14),none]) (n+6)) ?_
  intro s0_ x0_ hs0_
  unfold Zdr at hs0_
  try dsimp only
  refine zQ [2,5,34,35,36,37] ?_
  refine Zd ?_
  refine Zo (t:=(decide (s0_.1 < (z1.2.length:Int)))) rfl (fun Vu => ?_) (fun Vu => ?_)
  ·replace hs0_:=Zn Vu hs0_
   refine X9 [2,5,34,35,36] [false,true,true,false,true,false] ?_
   refine Zd ?_
   refine Z8 ?_
   refine Zd ?_
   obtain ⟨x9,hx9,ax9,bx9,cx9,hs0_⟩:=bE (f:=Zb) G7 (fun _=>rfl) (by decide) hs0_
   refine Zck [] ax9 bx9 cx9 ?_
   refine zD [2,5,6,7,34,35,36] [false,true,true,false,true,false,true] ?_
   obtain ⟨y10,hy10,hs0_⟩:=bC hs0_
   obtain ⟨x11,hx11,ax11,bx11,cx11,hs0_⟩:=bE (f:=Zb) G7 (fun _=>rfl) (by decide) hs0_
   have gu12:Zar (fl Zb s0_.2) [.val (.int .i64 y10.Kind),.sl y10.Words.length (fl (eI .u64) y10.Words),.sl y10.Kids.length (fl Zb y10.Kids)] (Int.toNat s0_.1 * 3)=some (fl Zb (Zlv s0_.2 s0_.1 y10)):=(congrArg (fun c=>Zar (fl Zb s0_.2) c (Int.toNat s0_.1 * 3)) (show [.val (.int .i64 y10.Kind),.sl y10.Words.length (fl (eI .u64) y10.Words),.sl y10.Kids.length (fl Zb y10.Kids)]=Zb y10 from by simp only [Zb,Y4,eI,eB,eS,eL])).trans (Zj3 (f:=Zb) (ti:=⟨.bool,3,0,[],false⟩) (x:=y10) (fun _=>rfl) (Zf3 hx11))
   refine Zhw Zs (by kernel_rfl) [false,false,false,false,false,false,true] [] (by kernel_rfl) ?_
   refine zF4 ax11 bx11 cx11 gu12 ?_
   refine PCall.of (Z24 hy10) ?_
   refine zF4 ax11 bx11 cx11 gu12 ?_
   refine zD [2,5,34,35,36] [false,true,true,false,true,false,false] ?_
   refine zR ?_
   exact zEn hs0_
  replace hs0_:=Zm Vu hs0_
  exact zEx hs0_
 try simp only [Yx,Ya,↓reduceIte,Nat.reduceEqDiff]
 refine zDs [2,5] [false,true,true,false,true,false] ?_
 refine zRd [2] [false,true,false,false,true,false] ?_
 refine zW ?_
 have h:=Option.some.inj h;subst h
 refine Zh (.inr rfl) hU [.agg [(vI a0.Kind),(sL (eI .u64) z1.1),.row (n+4) z14.length]] (by omega) ?_
 simp only [push_cast,seval,↓reduceIte,Zc,Tryz.results81,hN0,hN]
theorem Z1p:∀ k,(Zsi (Zbf k)):=fun k=>by
 induction k with
 | zero=>exact @fun a0 r O n h=>(nomatch (show (none:Option _)=some _ from h))
 | succ k ih=>exact @fun a0 r O n h=>Z6i (ih)  h
theorem Zqt {a0:Za} {r:Za} {O:Objs} {n:Nat} (h:Zkt a0=some r):GTo Tryz.prog 81 [.agg (Ze a0)] O n (.agg (Ze r)) O n:=by
 obtain ⟨k,hk⟩:=Vx h
 exact (Z1p k)  hk
theorem Z75 {a0:Int} {r:Bool} {O:Objs} {n:Nat} (h:Zn6 a0=some r):GTo Tryz.prog 236 [(vI a0)] O n ((vB r)) O n:=by
 unfold Zn6 at h
 refine Yf Zs Tryz.call236 Tryz.func236 rfl (Nat.le_of_ble_eq_true rfl) (Nat.le_refl _) fun hU => ?_
 have hN0:O n=none:=hU.fresh _ (Nat.le_refl _)
 have hN:∀ k,O (n+k)=none:=fun k=>hU.fresh _ (Nat.le_add_right _ _)
 show W _ _ _ _ ⟨9,[],[(0,(vI a0))]⟩ (Zw O n []) _
 refine zQ [0] ?_
 refine zQD [2] [none,none] ?_
 refine zW ?_
 have h:=Option.some.inj h;subst h
 refine Zh (.inr rfl) hU [(vB (cond (decide (2≤a0)) (decide (a0≤7)) false))] (by omega) ?_
 simp only [push_cast,seval,↓reduceIte,Zc,Tryz.results236,hN0,hN]
theorem Zx4 {a0:Int} {a1:Int} {r:Int} {O:Objs} {n:Nat} (h:Zik a0 a1=some r):GTo Tryz.prog 237 [(vI a0),(vI a1)] O n ((vI r)) O n:=by
 unfold Zik at h
 refine Yf Zs Tryz.call237 Tryz.func237 rfl (Nat.le_of_ble_eq_true rfl) (Nat.le_refl _) fun hU => ?_
 have hN0:O n=none:=hU.fresh _ (Nat.le_refl _)
 have hN:∀ k,O (n+k)=none:=fun k=>hU.fresh _ (Nat.le_add_right _ _)
 show W _ _ _ _ ⟨27,[],[(0,(vI a0)),(1,(vI a1))]⟩ (Zw O n []) _
 refine zQ [0,1] ?_
 refine Zd ?_
 obtain ⟨y2,hy2,h⟩:=bC h
 refine zCd (Zhp hy2) [1,5,6] [] ?_
 refine Zd ?_
 refine zQD [1,5,21] [none,none,none,none] ?_
 refine Zo (t:=(cond (cond (!y2.2) true (decide (a1 < 0))) true (decide (1099511627776 < a1)))) rfl (fun c3 => ?_) (fun c3 => ?_)
 ·replace h:=Zn c3 h
  refine zQ [4] ?_
  refine zW ?_
  have h:=Option.some.inj h;subst h
  refine Zh (.inr rfl) hU [(vI 0)] (by omega) ?_
  simp only [push_cast,seval,↓reduceIte,Zc,Tryz.results237,hN0,hN]
 replace h:=Zm c3 h
 refine X9 [1,5] [] ?_
 refine zQ [4] ?_
 refine zW ?_
 have h:=Option.some.inj h;subst h
 refine Zh (.inr rfl) hU [(vI (IntKind.i64.wrap (Int.tdiv (IntKind.i64.wrap ((IntKind.i64.wrap (a1 * y2.1))+63)) 64)))] (by omega) ?_
 simp only [push_cast,seval,↓reduceIte,Zc,Tryz.results237,hN0,hN]
theorem Zol {a0:Za} {r:(Int×Int)} {O:Objs} {n:Nat} (h:Zek a0=some r):GTo Tryz.prog 238 [.agg (Ze a0)] O n (.tup [(vI r.1),(vI r.2)]) O n:=by
 unfold Zek at h
 refine Yf Zs Tryz.call238 Tryz.func238 rfl (Nat.le_of_ble_eq_true rfl) (Nat.le_refl _) fun hU => ?_
 have hN0:O n=none:=hU.fresh _ (Nat.le_refl _)
 have hN:∀ k,O (n+k)=none:=fun k=>hU.fresh _ (Nat.le_add_right _ _)
 show W _ _ _ _ ⟨28,[],[(0,.agg (Ze a0))]⟩ (Zw O n []) _
 refine zQ [1] ?_
 refine zQ [1,4,5] ?_
 refine Zd ?_
 refine zQd [4,5,9,10,11] [4,5,9,10,11] [false] ?_
 obtain ⟨z4,hz4,h⟩:=bC h
 refine Yi (E':=⟨28,[],[(4,(vI z4.1)),(5,(vI z4.2))]⟩) (O':=(Zw O n [none])) (n0:=(n+1)) ?_ ?_
 ·refine Y2 hz4 (fun s0_=>⟨28,[],[(4,(vI s0_.1)),(5,(vI s0_.2.1)),(9,(sL Zb a0.Kids)),(10,(vI (a0.Kids.length:Int))),(11,(vI s0_.2.2))]⟩) (fun s0_=>(Zw O n [none])) (fun z4=>JX 0 n (⟨28,[],[(4,(vI z4.1)),(5,(vI z4.2))]⟩:Env) (Zw O n [none]) (n+1)) ?_
  intro s0_ x0_ hs0_
  unfold Ze3 at hs0_
  try dsimp only
  refine zQ [4,5,9,10,11,12] ?_
  refine Zd ?_
  refine Zo (t:=(decide (s0_.2.2 < (a0.Kids.length:Int)))) rfl (fun c3 => ?_) (fun c3 => ?_)
  ·replace hs0_:=Zn c3 hs0_
   refine X9 [4,5,9,10,11] [false] ?_
   refine Zd ?_
   refine Z8 ?_
   refine Zd ?_
   obtain ⟨x2,hx2,ax2,bx2,cx2,hs0_⟩:=bE (f:=Zb) G7 (fun _=>rfl) (by decide) hs0_
   refine Zck [] ax2 bx2 cx2 ?_
   refine zD [4,5,7,9,10,11] [false,true] ?_
   refine Qf Zs (by kernel_rfl) [] (by kernel_rfl) ?_
   refine zS ?_
   refine zD [4,5,9,10,11] [false,false] ?_
   refine zR ?_
   exact zEn hs0_
  replace hs0_:=Zm c3 hs0_
  exact zEx hs0_
 try simp only [Yx,Ya,↓reduceIte,Nat.reduceEqDiff]
 refine zD [4,5] [false] ?_
 refine zQ [2,3] ?_
 refine zW ?_
 have h:=Option.some.inj h;subst h
 refine Zh (.inr rfl) hU [(vI z4.1),(vI z4.2)] (by omega) ?_
 simp only [push_cast,seval,↓reduceIte,Zc,Tryz.results238,hN0,hN]
def Zmm (Ub:(Za→Option Int)):Prop:=∀ {a0:Za} {r:Int} {O:Objs} {n:Nat},Ub a0=some r→GTo Tryz.prog 175 [.agg (Ze a0)] O n ((vI r)) O n
def Zlg (Jv:((List Za)→Option Int)):Prop:=∀ {a0:(List Za)} {r:Int} {O:Objs} {n:Nat},Jv a0=some r→GTo Tryz.prog 235 [(sL Zb a0)] O n ((vI r)) O n
theorem Z6j {Ub:(Za→Option Int)} {Jv:((List Za)→Option Int)} (Zsm:Zmm Ub) (Zh1:Zlg Jv) {a0:Za} {r:Int} {O:Objs} {n:Nat} (h:Zkd Ub Jv a0=some r):GTo Tryz.prog 175 [.agg (Ze a0)] O n ((vI r)) O n:=by
 unfold Zkd at h
 refine Yf Zs Tryz.call175 Tryz.func175 rfl (Nat.le_of_ble_eq_true rfl) (Nat.le_refl _) fun hU => ?_
 have hN0:O n=none:=hU.fresh _ (Nat.le_refl _)
 have hN:∀ k,O (n+k)=none:=fun k=>hU.fresh _ (Nat.le_add_right _ _)
 show W _ _ _ _ ⟨76,[],[(0,.agg (Ze a0))]⟩ (Zw O n []) _
 refine zQ [1] ?_
 refine Zd ?_
 refine Z8 ?_
 refine zQ [1,8] ?_
 refine Zo (t:=(a0.Kind == 1)) rfl (fun c19 => ?_) (fun c19 => ?_)
 ·replace h:=Zn c19 h
  refine Zd ?_
  obtain ⟨y2,hy2,h⟩:=bC h
  refine Qf Zs (by kernel_rfl) [] (by kernel_rfl) ?_
  refine zS ?_
  refine PCall.of (Zh1 hy2) ?_
  refine zS ?_
  refine zD [2] [false] ?_
  refine zW ?_
  have h:=Option.some.inj h;subst h
  refine Zh (.inr rfl) hU [(vI (IntKind.i64.wrap ((IntKind.i64.wrap ((a0.Words.length:Int)+(a0.Kids.length:Int)))+y2)))] (by omega) ?_
  simp only [push_cast,seval,↓reduceIte,Zc,Tryz.results175,hN0,hN]
 replace h:=Zm c19 h
 refine Zd ?_
 obtain ⟨y4,hy4,h⟩:=bC h
 refine zCd (Z75 hy4) [1,23] [true] ?_
 refine Zo (t:=y4) rfl (fun c18 => ?_) (fun c18 => ?_)
 ·replace h:=Zn c18 h
  refine Zd ?_
  obtain ⟨y6,hy6,h⟩:=bC h
  refine zCd (Zx4 hy6) [2] [false] ?_
  refine zW ?_
  have h:=Option.some.inj h;subst h
  refine Zh (.inr rfl) hU [(vI y6)] (by omega) ?_
  simp only [push_cast,seval,↓reduceIte,Zc,Tryz.results175,hN0,hN]
 replace h:=Zm c18 h
 refine zQ [1,34] ?_
 refine Zo (t:=(a0.Kind == 8)) rfl (fun c17 => ?_) (fun c17 => ?_)
 ·replace h:=Zn c17 h
  refine Zd ?_
  obtain ⟨y8,hy8,h⟩:=bC h
  refine Qf Zs (by kernel_rfl) [] (by kernel_rfl) ?_
  refine zS ?_
  refine PCall.of (Zh1 hy8) ?_
  refine zS ?_
  refine zD [2] [false] ?_
  refine zW ?_
  have h:=Option.some.inj h;subst h
  refine Zh (.inr rfl) hU [(vI (IntKind.i64.wrap ((a0.Kids.length:Int)+y8)))] (by omega) ?_
  simp only [push_cast,seval,↓reduceIte,Zc,Tryz.results175,hN0,hN]
 replace h:=Zm c17 h
 refine zQ [1,45] ?_
 refine Zo (t:=(a0.Kind == 9)) rfl (fun c16 => ?_) (fun c16 => ?_)
 ·replace h:=Zn c16 h
  refine Zd ?_
  obtain ⟨y10,hy10,h⟩:=bC h
  refine zCd (Zol hy10) [1,3,4] [true] ?_
  refine zQ [1,5] ?_
  refine Zd ?_
  refine zQd [5,63,64,65] [5,63,64,65] [false] ?_
  obtain ⟨z15,hz15,h⟩:=bC h
  refine Yi (E':=⟨76,[],[(5,(vI z15))]⟩) (O':=(Zw O n [none])) (n0:=(n+1)) ?_ ?_
  ·refine Y2 hz15 (fun s0_=>⟨76,[],[(5,(vI s0_.1)),(63,(sL Zb a0.Kids)),(64,(vI (a0.Kids.length:Int))),(65,(vI s0_.2))]⟩) (fun s0_=>(Zw O n [none])) (fun z15=>JX 1 n (⟨76,[],[(5,(vI z15))]⟩:Env) (Zw O n [none]) (n+1)) ?_
   intro s0_ x0_ hs0_
   unfold Zds at hs0_
   try dsimp only
   refine zQ [5,63,64,65,66] ?_
   refine Zd ?_
   refine Zo (t:=(decide (s0_.2 < (a0.Kids.length:Int)))) rfl (fun Qs => ?_) (fun Qs => ?_)
   ·replace hs0_:=Zn Qs hs0_
    refine X9 [5,63,64,65] [false] ?_
    refine Zd ?_
    refine Z8 ?_
    refine Zd ?_
    obtain ⟨x12,hx12,ax12,bx12,cx12,hs0_⟩:=bE (f:=Zb) G7 (fun _=>rfl) (by decide) hs0_
    refine Zck [] ax12 bx12 cx12 ?_
    refine zD [5,7,63,64,65] [false,true] ?_
    obtain ⟨y13,hy13,hs0_⟩:=bC hs0_
    refine zCd (Zh1 hy13) [5,63,64,65] [false,false] ?_
    refine zR ?_
    exact zEn hs0_
   replace hs0_:=Zm Qs hs0_
   exact zEx hs0_
  try simp only [Yx,Ya,↓reduceIte,Nat.reduceEqDiff]
  refine zD [5] [false] ?_
  refine zQ [2] ?_
  refine zW ?_
  have h:=Option.some.inj h;subst h
  refine Zh (.inr rfl) hU [(vI z15)] (by omega) ?_
  simp only [push_cast,seval,↓reduceIte,Zc,Tryz.results175,hN0,hN]
 replace h:=Zm c16 h
 refine X9 [] [false] ?_
 refine zQ [2] ?_
 refine zW ?_
 have h:=Option.some.inj h;subst h
 refine Zh (.inr rfl) hU [(vI 0)] (by omega) ?_
 simp only [push_cast,seval,↓reduceIte,Zc,Tryz.results175,hN0,hN]
theorem Z3c {Ub:(Za→Option Int)} {Jv:((List Za)→Option Int)} (Zsm:Zmm Ub) (Zh1:Zlg Jv) {a0:(List Za)} {r:Int} {O:Objs} {n:Nat} (h:Zi1 Ub Jv a0=some r):GTo Tryz.prog 235 [(sL Zb a0)] O n ((vI r)) O n:=by
 unfold Zi1 at h
 refine Yf Zs Tryz.call235 Tryz.func235 rfl (Nat.le_of_ble_eq_true rfl) (Nat.le_refl _) fun hU => ?_
 have hN0:O n=none:=hU.fresh _ (Nat.le_refl _)
 have hN:∀ k,O (n+k)=none:=fun k=>hU.fresh _ (Nat.le_add_right _ _)
 show W _ _ _ _ ⟨18,[],[(0,(sL Zb a0))]⟩ (Zw O n []) _
 refine zQ [0] ?_
 refine zQ [0,3] ?_
 refine Zd ?_
 refine zQd [3,6,7,8] [3,6,7,8] [] ?_
 obtain ⟨z5,hz5,h⟩:=bC h
 refine Yi (E':=⟨18,[],[(3,(vI z5))]⟩) (O':=(Zw O n [])) (n0:=n) ?_ ?_
 ·refine Y2 hz5 (fun s0_=>⟨18,[],[(3,(vI s0_.1)),(6,(sL Zb a0)),(7,(vI (a0.length:Int))),(8,(vI s0_.2))]⟩) (fun s0_=>(Zw O n [])) (fun z5=>JX 0 n (⟨18,[],[(3,(vI z5))]⟩:Env) (Zw O n []) n) ?_
  intro s0_ x0_ hs0_
  unfold Zcn at hs0_
  try dsimp only
  refine zQ [3,6,7,8,9] ?_
  refine Zd ?_
  refine Zo (t:=(decide (s0_.2 < (a0.length:Int)))) rfl (fun c4 => ?_) (fun c4 => ?_)
  ·replace hs0_:=Zn c4 hs0_
   refine X9 [3,6,7,8] [] ?_
   refine Zd ?_
   refine Z8 ?_
   refine Zd ?_
   obtain ⟨x2,hx2,ax2,bx2,cx2,hs0_⟩:=bE (f:=Zb) G7 (fun _=>rfl) (by decide) hs0_
   refine Zck [] ax2 bx2 cx2 ?_
   refine zD [3,5,6,7,8] [true] ?_
   obtain ⟨y3,hy3,hs0_⟩:=bC hs0_
   refine zCd (Zsm hy3) [3,6,7,8] [false] ?_
   refine zR ?_
   exact zEn hs0_
  replace hs0_:=Zm c4 hs0_
  exact zEx hs0_
 try simp only [Yx,Ya,↓reduceIte,Nat.reduceEqDiff]
 refine zD [3] [] ?_
 refine zQ [2] ?_
 refine zW ?_
 have h:=Option.some.inj h;subst h
 refine Zh (.inr rfl) hU [(vI z5)] (by omega) ?_
 simp only [push_cast,seval,↓reduceIte,Zc,Tryz.results235,hN0,hN]
theorem Z1q:∀ k,(Zmm ((X6 k).1))∧(Zlg ((X6 k).2)):=fun k=>by
 induction k with
 | zero=>exact ⟨@fun a0 r O n h=>(nomatch (show (none:Option _)=some _ from h)),@fun a0 r O n h=>(nomatch (show (none:Option _)=some _ from h))⟩
 | succ k ih=>exact ⟨@fun a0 r O n h=>Z6j (ih.1) (ih.2)  h,@fun a0 r O n h=>Z3c (ih.1) (ih.2)  h⟩
theorem Z77 {a0:Za} {r:Int} {O:Objs} {n:Nat} (h:Zsh a0=some r):GTo Tryz.prog 175 [.agg (Ze a0)] O n ((vI r)) O n:=by
 obtain ⟨k,hk⟩:=Vx h
 exact (Z1q k).1  hk
theorem Z76 {a0:Za} {r:Int} {O:Objs} {n:Nat} (h:Zga a0=some r):GTo Tryz.prog 115 [.agg (Ze a0)] O n ((vI r)) O n:=by
 unfold Zga at h
 refine Yf Zs Tryz.call115 Tryz.func115 rfl (Nat.le_of_ble_eq_true rfl) (Nat.le_refl _) fun hU => ?_
 have hN0:O n=none:=hU.fresh _ (Nat.le_refl _)
 have hN:∀ k,O (n+k)=none:=fun k=>hU.fresh _ (Nat.le_add_right _ _)
 show W _ _ _ _ ⟨6,[],[(0,.agg (Ze a0))]⟩ (Zw O n []) _
 refine zQ [1] ?_
 refine Zd ?_
 obtain ⟨y3,hy3,h⟩:=bC h
 obtain ⟨y4,hy4,h⟩:=bC h
 refine zC (Zqt hy3) ?_
 refine zTs (Z77 hy4) ?_
 refine zD [2] [false] ?_
 refine zW ?_
 have h:=Option.some.inj h;subst h
 refine Zh (.inr rfl) hU [(vI y4)] (by omega) ?_
 simp only [push_cast,seval,↓reduceIte,Zc,Tryz.results115,hN0,hN]
theorem Z23 {a0:Za} {r:Xo} {O:Objs} {n:Nat} (h:Zkb a0=some r):GTo Tryz.prog 176 [.agg (Ze a0)] O n (.agg (Qp r)) O n:=by
 unfold Zkb at h
 refine Yf Zs Tryz.call176 Tryz.func176 rfl (Nat.le_of_ble_eq_true rfl) (Nat.le_refl _) fun hU => ?_
 have hN0:O n=none:=hU.fresh _ (Nat.le_refl _)
 have hN:∀ k,O (n+k)=none:=fun k=>hU.fresh _ (Nat.le_add_right _ _)
 show W _ _ _ _ ⟨38,[],[(0,.agg (Ze a0))]⟩ (Zw O n []) _
 refine zQ [1,2] ?_
 refine Zd ?_
 refine zQ [1,2,6] ?_
 refine Z8 ?_
 refine zQ [1,2,6,7] ?_
 refine Zo (t:=(a0.Kind == 1)) rfl (fun c4 => ?_) (fun c4 => ?_)
 ·replace h:=Zn c4 h
  refine Zd ?_
  refine zRd [2] [false,true] ?_
  refine zW ?_
  have h:=Option.some.inj h;subst h
  refine Zh (.inr rfl) hU [.agg [(vI 1),(vI 0),(vI (a0.Words.length:Int)),(vI (a0.Kids.length:Int)),(vI 0),(vI 0),(vI 0),(vB false)]] (by omega) ?_
  simp only [push_cast,seval,↓reduceIte,Zc,Tryz.results176,hN0,hN]
 replace h:=Zm c4 h
 refine zQ [1,2,16] ?_
 refine Zo (t:=(a0.Kind == 9)) rfl (fun c3 => ?_) (fun c3 => ?_)
 ·replace h:=Zn c3 h
  refine Zd ?_
  obtain ⟨y2,hy2,h⟩:=bC h
  refine zCd (Zol hy2) [1,2,3,4] [true,true] ?_
  refine Zd ?_
  refine zRd [2] [false,true] ?_
  refine zW ?_
  have h:=Option.some.inj h;subst h
  refine Zh (.inr rfl) hU [.agg [(vI 2),(vI 0),(vI 0),(vI 0),(vI 7),(vI (IntKind.i64.wrap ((a0.Kids.length:Int) * (IntKind.i64.wrap (y2.1+y2.2))))),(vI 0),(vB false)]] (by omega) ?_
  simp only [push_cast,seval,↓reduceIte,Zc,Tryz.results176,hN0,hN]
 replace h:=Zm c3 h
 refine X9 [1,2] [true,true] ?_
 refine Zd ?_
 refine zRd [2] [false,true] ?_
 refine zW ?_
 have h:=Option.some.inj h;subst h
 refine Zh (.inr rfl) hU [.agg [(vI 2),(vI 0),(vI 0),(vI 0),(vI (IntKind.i64.wrap (a0.Kind - 2))),(vI (a0.Kids.length:Int)),(vI 0),(vB false)]] (by omega) ?_
 simp only [push_cast,seval,↓reduceIte,Zc,Tryz.results176,hN0,hN]
theorem Z74 {a0:Int} {r:Int} {O:Objs} {n:Nat} (h:Zsg a0=some r):GTo Tryz.prog 239 [(vI a0)] O n ((vI r)) O n:=by
 unfold Zsg at h
 refine Yf Zs Tryz.call239 Tryz.func239 rfl (Nat.le_of_ble_eq_true rfl) (Nat.le_refl _) fun hU => ?_
 have hN0:O n=none:=hU.fresh _ (Nat.le_refl _)
 have hN:∀ k,O (n+k)=none:=fun k=>hU.fresh _ (Nat.le_add_right _ _)
 show W _ _ _ _ ⟨8,[],[(0,(vI a0))]⟩ (Zw O n []) _
 refine zQ [0] ?_
 refine Zd ?_
 obtain ⟨y6,hy6,ey6,h⟩:=bY (f:=(eI .i64)) (cs:=[.val (.int .i64 0),.val (.int .i64 1),.val (.int .i64 8),.val (.int .i64 16),.val (.int .i64 32),.val (.int .i64 64),.val (.int .i64 64)]) rfl h
 have g7:=congrArg G.agg ey6
 obtain ⟨y8,hy8,ey8,h⟩:=bY (f:=(eI .i64)) (cs:=[.val (.int .i64 0),.val (.int .i64 0),.val (.int .i64 0),.val (.int .i64 0),.val (.int .i64 0),.val (.int .i64 0),.val (.int .i64 0)]) rfl h
 have g9:=congrArg (GObj.mk false 309 7 1) ey8
 have g10:=Zj2 (f:=(eI .i64)) y8 y6 (fun _=>rfl)
 refine Zap [] g7 g9 g10 ?_
 refine zD [0,3] [true] ?_
 obtain ⟨x12,hx12,ax12,bx12,cx12,h⟩:=bEA (f:=(eI .i64)) (b:=7) rfl Z5f (fun _=>rfl) (by decide) h
 refine Zis [2] (Yu Zs [] ?_)
 refine zF3 ax12 bx12 cx12 ?_
 refine zW ?_
 have h:=Option.some.inj h;subst h
 refine Zh (.inr rfl) hU [(vI x12)] (by omega) ?_
 simp only [push_cast,seval,↓reduceIte,Zc,Tryz.results239,hN0,hN]
theorem Zpf {a0:Xo} {r:(Int×Bool)} {O:Objs} {n:Nat} (h:Ze2 a0=some r):GTo Tryz.prog 177 [.agg (Qp a0)] O n (.tup [(vI r.1),(vB r.2)]) O n:=by
 unfold Ze2 at h
 refine Yf Zs Tryz.call177 Tryz.func177 rfl (Nat.le_of_ble_eq_true rfl) (Nat.le_refl _) fun hU => ?_
 have hN0:O n=none:=hU.fresh _ (Nat.le_refl _)
 have hN:∀ k,O (n+k)=none:=fun k=>hU.fresh _ (Nat.le_add_right _ _)
 show W _ _ _ _ ⟨57,[],[(0,.agg (Qp a0))]⟩ (Zw O n []) _
 refine zQ [1] ?_
 refine Zd ?_
 refine Z8 ?_
 refine zQ [1,4] ?_
 refine Zo (t:=(a0.Kind == 1)) rfl (fun c5 => ?_) (fun c5 => ?_)
 ·replace h:=Zn c5 h
  refine zQ [2,3] ?_
  refine zW ?_
  have h:=Option.some.inj h;subst h
  refine Zh (.inr rfl) hU [(vI (IntKind.i64.wrap (a0.Data+a0.Ptrs))),(vB true)] (by omega) ?_
  simp only [push_cast,seval,↓reduceIte,Zc,Tryz.results177,hN0,hN]
 replace h:=Zm c5 h
 refine zQD [1,13] [none,none,none] ?_
 refine Zo (t:=(cond (a0.Kind == 2) (a0.Code == 7) false)) rfl (fun c4 => ?_) (fun c4 => ?_)
 ·replace h:=Zn c4 h
  refine zQ [2,3] ?_
  refine zW ?_
  have h:=Option.some.inj h;subst h
  refine Zh (.inr rfl) hU [(vI (IntKind.i64.wrap (a0.Count+1))),(vB true)] (by omega) ?_
  simp only [push_cast,seval,↓reduceIte,Zc,Tryz.results177,hN0,hN]
 replace h:=Zm c4 h
 refine zQD [1,25] [none,none,none,none,none,none,none,none,none,none,none,none] ?_
 refine Zo (t:=(cond (cond (cond (cond (a0.Kind == 2) (decide (0≤a0.Code)) false) (decide (a0.Code < 7)) false) (decide (0≤a0.Count)) false) (decide (a0.Count≤536870911)) false)) rfl (fun c3 => ?_) (fun c3 => ?_)
 ·replace h:=Zn c3 h
  refine Zd ?_
  obtain ⟨y2,hy2,h⟩:=bC h
  refine Qf Zs (by kernel_rfl) [] (by kernel_rfl) ?_
  refine zS ?_
  refine PCall.of (Z74 hy2) ?_
  refine zS ?_
  refine zD [2,3] [false] ?_
  refine zW ?_
  have h:=Option.some.inj h;subst h
  refine Zh (.inr rfl) hU [(vI (IntKind.i64.wrap (Int.tdiv (IntKind.i64.wrap ((IntKind.i64.wrap (a0.Count * y2))+63)) 64))),(vB true)] (by omega) ?_
  simp only [push_cast,seval,↓reduceIte,Zc,Tryz.results177,hN0,hN]
 replace h:=Zm c3 h
 refine X9 [] [false] ?_
 refine zQ [2,3] ?_
 refine zW ?_
 have h:=Option.some.inj h;subst h
 refine Zh (.inr rfl) hU [(vI 0),(vB false)] (by omega) ?_
 simp only [push_cast,seval,↓reduceIte,Zc,Tryz.results177,hN0,hN]
theorem Ybt {a0:Xo} {r:Int} {O:Objs} {n:Nat} (h:Z0s a0=some r):GTo Tryz.prog 240 [.agg (Qp a0)] O n (.val (.int .u64 r)) O n:=by
 unfold Z0s at h
 refine Yf Zs Tryz.call240 Tryz.func240 rfl (Nat.le_of_ble_eq_true rfl) (Nat.le_refl _) fun hU => ?_
 have hN0:O n=none:=hU.fresh _ (Nat.le_refl _)
 have hN:∀ k,O (n+k)=none:=fun k=>hU.fresh _ (Nat.le_add_right _ _)
 show W _ _ _ _ ⟨58,[],[(0,.agg (Qp a0))]⟩ (Zw O n []) _
 refine zQ [1] ?_
 refine Zd ?_
 refine zQ [1,5] ?_
 refine Z8 ?_
 refine zQ [1,5,6] ?_
 refine Zo (t:=(a0.Kind == 1)) rfl (fun c5 => ?_) (fun c5 => ?_)
 ·replace h:=Zn c5 h
  refine zQ [2] ?_
  refine zW ?_
  have h:=Option.some.inj h;subst h
  refine Zh (.inr rfl) hU [.val (.int .u64 (IntKind.u64.wrap (Zdx .u64 (IntKind.u64.wrap (Zdx .u64 (IntKind.u64.wrap (IntKind.u32.wrap ((IntKind.u32.wrap a0.Off) * 2 ^ min (Int.toNat 2) 32))) (IntKind.u64.wrap ((IntKind.u64.wrap a0.Data) * 2 ^ min (Int.toNat 32) 64)))) (IntKind.u64.wrap ((IntKind.u64.wrap a0.Ptrs) * 2 ^ min (Int.toNat 48) 64)))))] (by omega) ?_
  simp only [push_cast,seval,↓reduceIte,Zc,Tryz.results240,hN0,hN]
 replace h:=Zm c5 h
 refine zQ [1,5,23] ?_
 refine Zo (t:=(a0.Kind == 2)) rfl (fun c4 => ?_) (fun c4 => ?_)
 ·replace h:=Zn c4 h
  refine zQ [2] ?_
  refine zW ?_
  have h:=Option.some.inj h;subst h
  refine Zh (.inr rfl) hU [.val (.int .u64 (IntKind.u64.wrap (Zdx .u64 (IntKind.u64.wrap (Zdx .u64 (IntKind.u64.wrap (Zdx .u64 1 (IntKind.u64.wrap (IntKind.u32.wrap ((IntKind.u32.wrap a0.Off) * 2 ^ min (Int.toNat 2) 32))))) (IntKind.u64.wrap ((IntKind.u64.wrap a0.Code) * 2 ^ min (Int.toNat 32) 64)))) (IntKind.u64.wrap ((IntKind.u64.wrap a0.Count) * 2 ^ min (Int.toNat 35) 64)))))] (by omega) ?_
  simp only [push_cast,seval,↓reduceIte,Zc,Tryz.results240,hN0,hN]
 replace h:=Zm c4 h
 refine zQ [1,41] ?_
 refine Zo (t:=(a0.Kind == 3)) rfl (fun c3 => ?_) (fun c3 => ?_)
 ·replace h:=Zn c3 h
  refine zQ [1,3] ?_
  obtain ⟨z1,hz1,h⟩:=bC h
  refine Y0 (E':=⟨58,[],[(3,.val (.int .u64 z1))]⟩) (O':=(Zw O n [none])) (n0:=(n+1)) ?_ ?_
  ·refine zQ [3,54] ?_
   refine Zo (t:=a0.Double) rfl (fun c2 => ?_) (fun c2 => ?_)
   ·replace hz1:=Zn c2 hz1
    refine zR ?_
    exact zEn hz1
   replace hz1:=Zm c2 hz1
   refine zK ?_
   exact zEn hz1
  refine zQ [2] ?_
  refine zW ?_
  have h:=Option.some.inj h;subst h
  refine Zh (.inr rfl) hU [.val (.int .u64 z1)] (by omega) ?_
  simp only [push_cast,seval,↓reduceIte,Zc,Tryz.results240,hN0,hN]
 replace h:=Zm c3 h
 refine X9 [] [false] ?_
 refine zQ [2] ?_
 refine zW ?_
 have h:=Option.some.inj h;subst h
 refine Zh (.inr rfl) hU [.val (.int .u64 0)] (by omega) ?_
 simp only [push_cast,seval,↓reduceIte,Zc,Tryz.results240,hN0,hN]
theorem Zvy {a0:Int} {r:Int} {O:Objs} {n:Nat} (h:Zlu a0=some r):GTo Tryz.prog 283 [.val (.int .u64 a0)] O n ((vI r)) O n:=by
 unfold Zlu at h
 refine Yf Zs Tryz.call283 Tryz.func283 rfl (Nat.le_of_ble_eq_true rfl) (Nat.le_refl _) fun hU => ?_
 have hN0:O n=none:=hU.fresh _ (Nat.le_refl _)
 have hN:∀ k,O (n+k)=none:=fun k=>hU.fresh _ (Nat.le_add_right _ _)
 show W _ _ _ _ ⟨8,[],[(0,.val (.int .u64 a0))]⟩ (Zw O n []) _
 refine zQ [0] ?_
 refine zQ [2] ?_
 refine zW ?_
 have h:=Option.some.inj h;subst h
 refine Zh (.inr rfl) hU [(vI (IntKind.i64.wrap (Int.fdiv (IntKind.i32.wrap (IntKind.u32.wrap a0)) (2 ^ min (Int.toNat 2) 32))))] (by omega) ?_
 simp only [push_cast,seval,↓reduceIte,Zc,Tryz.results283,hN0,hN]
theorem Zgy {a0:Int} {a1:Int} {a2:Int} {r:Int} {O:Objs} {n:Nat} (h:Zeb a0 a1 a2=some r):GTo Tryz.prog 284 [.val (.int .u64 a0),(vI a1),(vI a2)] O n ((vI r)) O n:=by
 unfold Zeb at h
 refine Yf Zs Tryz.call284 Tryz.func284 rfl (Nat.le_of_ble_eq_true rfl) (Nat.le_refl _) fun hU => ?_
 have hN0:O n=none:=hU.fresh _ (Nat.le_refl _)
 have hN:∀ k,O (n+k)=none:=fun k=>hU.fresh _ (Nat.le_add_right _ _)
 show W _ _ _ _ ⟨15,[],[(0,.val (.int .u64 a0)),(1,(vI a1)),(2,(vI a2))]⟩ (Zw O n []) _
 refine zQ [0,1,2] ?_
 obtain ⟨pu3,h⟩:=bG h
 obtain ⟨pu4,h⟩:=bG h
 refine Zis [6] (Qf Zs (by kernel_rfl) [] (by kernel_rfl) ?_)
 simp only [push_cast,seval,↓reduceIte,Zc,pu3,pu4,hN0,hN]
 refine zW ?_
 have h:=Option.some.inj h;subst h
 refine Zh (.inr rfl) hU [(vI (IntKind.i64.wrap (IntKind.u64.wrap (Qj .u64 (Int.fdiv a0 (2 ^ min (Int.toNat a1) 64)) (IntKind.u64.wrap ((IntKind.u64.wrap (1 * 2 ^ min (Int.toNat a2) 64)) - 1))))))] (by omega) ?_
 simp only [push_cast,seval,↓reduceIte,Zc,Tryz.results284,hN0,hN]
theorem Zbk {a0:Int} {r:Xo} {O:Objs} {n:Nat} (h:Zc3 a0=some r):GTo Tryz.prog 241 [.val (.int .u64 a0)] O n (.agg (Qp r)) O n:=by
 unfold Zc3 at h
 refine Yf Zs Tryz.call241 Tryz.func241 rfl (Nat.le_of_ble_eq_true rfl) (Nat.le_refl _) fun hU => ?_
 have hN0:O n=none:=hU.fresh _ (Nat.le_refl _)
 have hN:∀ k,O (n+k)=none:=fun k=>hU.fresh _ (Nat.le_add_right _ _)
 show W _ _ _ _ ⟨38,[],[(0,.val (.int .u64 a0))]⟩ (Zw O n []) _
 refine zQ [0,2] ?_
 refine Zd ?_
 refine zQ [0,2,4] ?_
 refine Zo (t:=(a0 == 0)) rfl (fun c20 => ?_) (fun c20 => ?_)
 ·replace h:=Zn c20 h
  refine Zd ?_
  refine zR ?_
  refine Vp ⟨38,[],[(2,.ref n 0)]⟩ (Zw O n [some ⟨false,191,8,1,[(vI 0),(vI 0),(vI 0),(vI 0),(vI 0),(vI 0),(vI 0),(vB false)]⟩]) (Z6 hU rfl rfl ?_) ?_
  ·exact zSe
  refine zW ?_
  have h:=Option.some.inj h;subst h
  refine Zh (.inr rfl) hU [.agg [(vI 0),(vI 0),(vI 0),(vI 0),(vI 0),(vI 0),(vI 0),(vB false)]] (by omega) ?_
  simp only [push_cast,seval,↓reduceIte,Zc,Tryz.results241,hN0,hN]
 replace h:=Zm c20 h
 refine zK ?_
 refine Vp ⟨38,[],[(0,.val (.int .u64 a0)),(2,.ref n 0)]⟩ (Zw O n [some ⟨false,191,8,1,[(vI 0),(vI 0),(vI 0),(vI 0),(vI 0),(vI 0),(vI 0),(vB false)]⟩]) (Z6 hU rfl rfl ?_) ?_
 ·exact zSe
 refine Zd ?_
 refine zQ [0,2,7] ?_
 refine Z8 ?_
 refine zQ [0,2,7,8] ?_
 refine Zo (t:=((IntKind.u64.wrap (Qj .u64 a0 3)) == 0)) rfl (fun c19 => ?_) (fun c19 => ?_)
 ·replace h:=Zn c19 h
  refine Zd ?_
  obtain ⟨y4,hy4,h⟩:=bC h
  obtain ⟨y5,hy5,h⟩:=bC h
  obtain ⟨y6,hy6,h⟩:=bC h
  refine zC (Zvy hy4) ?_
  refine zTs (Zgy hy5) ?_
  refine zTs (Zgy hy6) ?_
  refine Vp ⟨38,[],[(2,.ref n 0)]⟩ (Zw O n [some ⟨false,191,8,1,[(vI 1),(vI y4),(vI y5),(vI y6),(vI 0),(vI 0),(vI 0),(vB false)]⟩]) (Z6 hU rfl rfl ?_) ?_
  ·exact zSe
  refine zW ?_
  have h:=Option.some.inj h;subst h
  refine Zh (.inr rfl) hU [.agg [(vI 1),(vI y4),(vI y5),(vI y6),(vI 0),(vI 0),(vI 0),(vB false)]] (by omega) ?_
  simp only [push_cast,seval,↓reduceIte,Zc,Tryz.results241,hN0,hN]
 replace h:=Zm c19 h
 refine zQ [0,2,7,17] ?_
 refine Zo (t:=((IntKind.u64.wrap (Qj .u64 a0 3)) == 1)) rfl (fun c18 => ?_) (fun c18 => ?_)
 ·replace h:=Zn c18 h
  refine Zd ?_
  obtain ⟨y10,hy10,h⟩:=bC h
  obtain ⟨y11,hy11,h⟩:=bC h
  obtain ⟨y12,hy12,h⟩:=bC h
  refine zC (Zvy hy10) ?_
  refine zTs (Zgy hy11) ?_
  refine zTs (Zgy hy12) ?_
  refine Vp ⟨38,[],[(2,.ref n 0)]⟩ (Zw O n [some ⟨false,191,8,1,[(vI 2),(vI y10),(vI 0),(vI 0),(vI y11),(vI y12),(vI 0),(vB false)]⟩]) (Z6 hU rfl rfl ?_) ?_
  ·exact zSe
  refine zW ?_
  have h:=Option.some.inj h;subst h
  refine Zh (.inr rfl) hU [.agg [(vI 2),(vI y10),(vI 0),(vI 0),(vI y11),(vI y12),(vI 0),(vB false)]] (by omega) ?_
  simp only [push_cast,seval,↓reduceIte,Zc,Tryz.results241,hN0,hN]
 replace h:=Zm c18 h
 refine zQ [0,2,26] ?_
 refine Zo (t:=((IntKind.u64.wrap (Qj .u64 a0 3)) == 2)) rfl (fun c17 => ?_) (fun c17 => ?_)
 ·replace h:=Zn c17 h
  refine Zd ?_
  obtain ⟨y15,hy15,h⟩:=bC h
  obtain ⟨y16,hy16,h⟩:=bC h
  refine zC (Zgy hy15) ?_
  refine zTs (Zgy hy16) ?_
  refine Vp ⟨38,[],[(2,.ref n 0)]⟩ (Zw O n [some ⟨false,191,8,1,[(vI 3),(vI y15),(vI 0),(vI 0),(vI 0),(vI 0),(vI y16),(vB ((IntKind.u64.wrap (Qj .u64 (Int.fdiv a0 (2 ^ min (Int.toNat 2) 64)) 1)) == 1))]⟩]) (Z6 hU rfl rfl ?_) ?_
  ·exact zSe
  refine zW ?_
  have h:=Option.some.inj h;subst h
  refine Zh (.inr rfl) hU [.agg [(vI 3),(vI y15),(vI 0),(vI 0),(vI 0),(vI 0),(vI y16),(vB ((IntKind.u64.wrap (Qj .u64 (Int.fdiv a0 (2 ^ min (Int.toNat 2) 64)) 1)) == 1))]] (by omega) ?_
  simp only [push_cast,seval,↓reduceIte,Zc,Tryz.results241,hN0,hN]
 replace h:=Zm c17 h
 refine zK ?_
 refine Vp ⟨38,[],[(2,.ref n 0)]⟩ (Zw O n [some ⟨false,191,8,1,[(vI 0),(vI 0),(vI 0),(vI 0),(vI 0),(vI 0),(vI 0),(vB false)]⟩]) (Z6 hU rfl rfl ?_) ?_
 ·exact zSe
 refine Zd ?_
 refine zR ?_
 refine Vp ⟨38,[],[(2,.ref n 0)]⟩ (Zw O n [some ⟨false,191,8,1,[(vI 4),(vI 0),(vI 0),(vI 0),(vI 0),(vI 0),(vI 0),(vB false)]⟩]) (Z6 hU rfl rfl ?_) ?_
 ·exact zSe
 refine zW ?_
 have h:=Option.some.inj h;subst h
 refine Zh (.inr rfl) hU [.agg [(vI 4),(vI 0),(vI 0),(vI 0),(vI 0),(vI 0),(vI 0),(vB false)]] (by omega) ?_
 simp only [push_cast,seval,↓reduceIte,Zc,Tryz.results241,hN0,hN]
end Go.Proofs.YtmlcnhambfkjaaaGreat
