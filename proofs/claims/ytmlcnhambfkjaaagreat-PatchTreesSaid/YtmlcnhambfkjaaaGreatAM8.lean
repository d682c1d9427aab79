/- Part AM8 of this seat's mirrors: functions of the seat's program, and the plain functions that they are; each theorem bears its own conditions. -/
import Derived.Test.YtmlcnhambfkjaaaGreatAE
import Derived.Test.YtmlcnhambfkjaaaGreatAM6
namespace Go.Proofs.YtmlcnhambfkjaaaGreat
open Go.RowKit
set_option linter.unusedVariables false
set_option linter.unusedSimpArgs false
set_option maxRecDepth 100000
set_option maxHeartbeats 4000000
attribute [local push_cast] vI vB nV sL oR Zg Kz Xm Yw Ze Uz Kf Qp Zu Zxi Zxh Zyk Zyj Yx Ya Zr5 Zmf Zme onW Q8 Zih Zg4 Zxn Zv3 Zpw Zp1 Zpv Zp0 Zta Zs6 Zpz Zs9 Zs8 Zs7 Zpx Zs4 Znh evS wok J7 Op.operands Call.operands gop onK onP atK List.all_cons List.all_nil Bool.and_true Bool.true_and Bool.and_self Value.oneCell' List.take_zero List.take_succ_cons List.take_nil List.drop_zero List.drop_succ_cons List.drop_nil List.append_nil Nat.add_zero Nat.zero_add Zcg Xa ev K4 Zxf Zw7 Zw6 Zxc Zxa Zxb Zw8 Zw9 Zw5 Z0j Z1o Z59 Zoe Zhh Zn2 Zh2 Zo5 Zld Zke Zkj Zl9 Zl5 Zkh Zl8 Zl7 Zl6 Zkg Zl3 Zkf Zki Zi2 Zl4 Zrl Zmg Zeh Zn3 Zei Zqd Zod Z2o bLo bHi bMx Zhi Zqc Z7m Zoc Zq7 Zka Zcv Z1c Z7q Zn0 Zkn Z7t Zhg Z9a Zsb Zsf Zsa Zse Zxu Zxq Zxo Zo8 Zsc Zxt Zxs Zxr Zsd Zxp Zqg Zxj Zsz Zm5 Zm4 pop TK.isAgg Zyc Zyg Zyb Zyf Zsu Z3i Z3e Zye Z3h Z3g Z3f Zyd Z3d G.under G.unders List.getD_cons_zero List.getD_cons_succ List.set_cons_zero List.set_cons_succ List.map_cons List.map_nil List.toList_toArray Array.toList_append Option.toArray_none Option.toArray_some Array.toList_map Option.map_some Option.map_none Option.bind_some Option.bind_none List.getElem?_cons_zero List.getElem?_cons_succ List.getElem?_nil List.nil_append List.cons_append List.replicate_succ List.replicate_zero List.length_cons List.length_nil and_true true_and and_false false_and Bool.true_eq_false Bool.false_eq_true forall_const false_implies implies_true IntKind.bits if_true if_false ite_true ite_false eq_self true_implies false_or or_false or_true true_or not_true_eq_false not_false_eq_true decide_true decide_false decide_eq_true_eq decide_eq_false_iff_not beq_iff_eq bne_iff_ne ne_eq Bool.not_eq_true Bool.not_eq_false beq_eq_false_iff_ne bne_eq_false_iff_eq beq_self_eq_true bne_self_eq_false Option.some.injEq exists_eq_left' exists_eq_left ge_iff_le gt_iff_lt decide_not Bool.not_true Bool.not_false imp_self Z2p cond_true cond_false Yd9 Yd8 Bool.not_not Bool.and_false Bool.false_and Bool.or_true Bool.true_or Bool.or_false Bool.false_or Zfm Zlq Ga Vb Jj Ql Option.join_some Nat.add_assoc Int.toNat_natCast eI eB eS eL U1 Zlx Zkp Zxm Zxk Zxl Z9s Ybv Zlz Zk1 Zyr Zyp Zyq Z6l Zr4 Z2i Zs2 Z2h Zgw Z0h List.length_append G.agg.injEq G.row.injEq G.ref.injEq G.val.injEq G.sl.injEq G.tup.injEq Value.int.injEq Value.bool.injEq Value.string.injEq List.cons.injEq exists_and_left exists_const List.flatten_cons List.flatten_nil Int.le_refl Nat.le_refl Zgp J0 Zbq Bool.not_eq_true' Bool.not_eq_false' Zz5 Zno Z52 Z56 Z51 Z55 Ya6 Ya1 List.size_toArray Zyv Zyw G.ren G.rens Z1y Zlh Zyy Zw2 Zw3 Zs5 Z57 Zhb G.fn.injEq Zp5 Zu2 Zz3 Ya2 Zu1 Z54 Ya5 Ya4 Ya3 Z53 Z2x Z9i Option.join_none Xw Zae undef Zq8 Arr.len Arr.put_eq Zly Zpm Zm0 Zk0 Zyo Zym Zyn onB Z9r Z1a Zs3 Zo0 Zrs Zrt Zru Zrv Zrw Zrx Zpc Zpq Zpo Zm3 Zk2 Zpp Zsy Zsx Zsw Zsv Ybu Ydn Z6k Z3k Uf Z6c Zxy Zpr Zm2 Z8a Zy1 Zob Zq6 Zjq Zps Zry Zrz Zr0 Zr1 Zos Zot Zou Zov Zow Zox Zoy Zkk prT Zh4 Yfy Z5p Z5f Z5q Yfz Z5r Z6p Z5s Yf0 Z5t Yf1 Z5u Yf2 Z5v Yf3 Z5w Z95 Zy5 Z96 Zy6 Z97 Zy7 Z98 Zy8 Z99 Zy9 Yaa Zza Yab Zzb Yac Zzc Yad Zzd Yae Zze Yaf Zzf Zv0 Zjs Z44 Zn9 Yag Zzg G7 Zzh Yah Zzi Yai Zzj Yaj Zzk Yak Zzl Zrk Zzm Yal Zzn Yam Zzo Yan Zzp Yao Zzq Yap Zvi Yaq Zzr Yar Zzs Zci Zzt Yas Zzu Yat Zzv Ztb Zzw Yau Zzx Zp2 Zzy Yav Zzz Zk9 Zz0 Z3z Ztc Z30 Ztd Z31 Zte Z32 Ztf Z33 Ztg Z34 Zth Z35 Zti Z36 Ztj Z37 Ztk Z38 Ztl Z39 Ztm Z4a Ztn Z4b Zto Z4c Ztp Z4d Ztq Z4e Ztr Z4f Zts Z4g Ztt Z4h Ztu Z4i Ztv Z4j Ztw Z4k Ztx Z4l Zty Zwq Zp3 Z4m Ztz Z4n Zt0 Z4o Zt1 Z4p Zt2 Z4q Zt3 Z4r Zt4 Z4s Zt5 Z4t Zt6 Z4u Zt7 Z4v Zt8 Z4w Zt9 Z4x Zua Z4y Zub Z4z Zuc Z40 Zud Z41 Zue Z42 Zuf Z43 Zug Z45 Zuh Z46 Zui Z47 Zuj Z48 Zuk Z49 Zul Z5a Zum Z5b Zun Z5c Zuo Z5d Zup Z5e Zuq Z5g Zur Z5h Zus Z5i Zut Z5j Zuu Z5k Zuv Z5l Zuw Z5m Zux Z5n Zuy Zb Y4 Znq Znn Zmj Zmy Zns Zlb Zk6 Zk4 Znk Zd9 Zd8 Zdw Zd3 Zea Zc9 Zc8 Zc7 Zd7 Zq Qy Zp Zx Xh Y6 Xv Zac Zab Gp Gz Zad Uu Us Ur G8 Zba Za8 Za0 Za4 Zbc G9 G4 G0 Za6 Zgr Zgq Zf4 Zgg Zgu Zff Zfd Zfc Zgn Zp7 Zp6 Zo6 Zpk Zp8 Znl Znb Zna Zp4 Znp Znm Zmi Zmx Znr Zla Zk5 Zk3 Znj Zkm Zez Zhu Zht Zhj Zhq Zhv Zgo Zgj Zgi Zhs Zv Zbb Za9 Za1 Za5 Zbd Zaa G5 G3 Za7 Zf0 Zkl Zf1 Yl Uw Uv Uo Uq Ux V6 V5 V4 Ut Yd Vl Vk Vd Vh Vm Ky Kw Kv Vj
theorem Zmv {a0:Zj} {a1:Int} {r:Int} {O:Objs} {n:Nat} (h:Zje a0 a1=some r):GTo Tryz.prog 201 [.agg (Zu a0),(vI a1)] O n (.val (.int .u64 r)) O n:=by
 unfold Zje at h
 refine Yf Zs Tryz.call201 Tryz.func201 rfl (Nat.le_of_ble_eq_true rfl) (Nat.le_refl _) fun hU => ?_
 have hN0:O n=none:=hU.fresh _ (Nat.le_refl _)
 have hN:∀ k,O (n+k)=none:=fun k=>hU.fresh _ (Nat.le_add_right _ _)
 show W _ _ _ _ ⟨33,[],[(0,.agg (Zu a0)),(1,(vI a1))]⟩ (Zw O n []) _
 refine zQ [1,2] ?_
 refine Zd ?_
 obtain ⟨z2,hz2,h⟩:=bC h
 refine Y0 (E':=⟨33,[],[(1,(vI a1)),(2,.ref n 0),(14,(vB z2))]⟩) (O':=(Zw O n [some ⟨false,62,9,1,(Zu a0)⟩])) (n0:=(n+1)) ?_ ?_
 ·rcases Bool.eq_false_or_eq_true (decide (a1 < 0)) with c5 | c5
  ·replace hz2:=Zn c5 hz2
   refine Q7 [some false,some false,some false,some false] c5 ?_
   exact Qk hz2 c5
  replace hz2:=Zm c5 hz2
  obtain ⟨y4,hy4,hz2⟩:=bC hz2
  refine Q7 [some true,some true,some true,some true] c5 ?_
  refine (Zdm hy4).then ?_
  refine zX1 c5 ?_
  exact Qk hz2 c5
 refine Zo (t:=z2) rfl (fun c11 => ?_) (fun c11 => ?_)
 ·replace h:=Zn c11 h
  refine zQ [4] ?_
  refine zW ?_
  have h:=Option.some.inj h;subst h
  refine Zh (.inr rfl) hU [.val (.int .u64 0)] (by omega) ?_
  simp only [push_cast,seval,↓reduceIte,Zc,Tryz.results201,hN0,hN]
 replace h:=Zm c11 h
 refine X9 [1,2] [true] ?_
 refine Zd ?_
 refine zQ [1,2,17] ?_
 refine Zo (t:=(a0.kind == 10)) rfl (fun c10 => ?_) (fun c10 => ?_)
 ·replace h:=Zn c10 h
  refine Zd ?_
  obtain ⟨y7,hy7,h⟩:=bC h
  refine zCd (Zsn hy7) [4] [false] ?_
  refine zW ?_
  have h:=Option.some.inj h;subst h
  refine Zh (.inr rfl) hU [.val (.int .u64 y7)] (by omega) ?_
  simp only [push_cast,seval,↓reduceIte,Zc,Tryz.results201,hN0,hN]
 replace h:=Zm c10 h
 refine X9 [1,2] [true] ?_
 refine Zd ?_
 obtain ⟨y9,hy9,h⟩:=bC h
 refine zCd (Zca hy9) [5] [false] ?_
 refine zQ [4] ?_
 refine zW ?_
 have h:=Option.some.inj h;subst h
 refine Zh (.inr rfl) hU [.val (.int .u64 y9.1)] (by omega) ?_
 simp only [push_cast,seval,↓reduceIte,Zc,Tryz.results201,hN0,hN]
def Zgd (Qi:(Z5→Zj→Int→Option (Za×Int×Z5))):Prop:=∀ {a0:Z5} {a1:Zj} {a2:Int} {r:(Za×Int×Z5)} {O:Objs} {n:Nat} {i0:Nat},i0 < n→O i0=some ⟨false,247,1,1,[(vI a0.left)]⟩→Qi a0 a1 a2=some r→GTo Tryz.prog 222 [.ref i0 0,.agg (Zu a1),(vI a2)] O n (.tup [.agg (Ze r.1),(vI r.2.1)]) (Zw (O.upd i0 (some ⟨false,247,1,1,[(vI r.2.2.left)]⟩)) n []) (n+0)
theorem Znv {Qi:(Z5→Zj→Int→Option (Za×Int×Z5))} (Zmu:Zgd Qi) {a0:Z5} {a1:Zj} {a2:Int} {r:(Za×Int×Z5)} {O:Objs} {n:Nat} {i0:Nat} (hi0:i0 < n) (ho0:O i0=some ⟨false,247,1,1,[(vI a0.left)]⟩) (h:Vc Qi a0 a1 a2=some r):GTo Tryz.prog 222 [.ref i0 0,.agg (Zu a1),(vI a2)] O n (.tup [.agg (Ze r.1),(vI r.2.1)]) (Zw (O.upd i0 (some ⟨false,247,1,1,[(vI r.2.2.left)]⟩)) n []) (n+0):=by
 unfold Vc at h
 refine Yf Zs Tryz.call222 Tryz.func222 rfl (Nat.le_of_ble_eq_true rfl) (by omega) fun hU => ?_
 rw [show Zw O n []=Zw (O.upd i0 (some ⟨false,247,1,1,[(vI a0.left)]⟩)) n [] from by rw [Zz2 (show O i0=_ from by exact ho0)]]
 have hk0:∀ k,i0 < n+k:=fun k=>by omega
 have hN0:∀ o,Objs.upd O i0 o n=none:=fun o=>V9 hU hi0 _ (Nat.le_refl _)
 have hN:∀ o k,Objs.upd O i0 o (n+k)=none:=fun o k=>V9 hU hi0 _ (Nat.le_add_right _ _)
 show W _ _ _ _ ⟨89,[],[(0,.ref i0 0),(1,.agg (Zu a1)),(2,(vI a2))]⟩ (Zw (O.upd i0 (some ⟨false,247,1,1,[(vI a0.left)]⟩)) n []) _
 refine Zcl [0,2,4,6] hi0 hk0 ?_
 refine Zd ?_
 obtain ⟨y2,hy2,h⟩:=bC h
 refine Zhw Zs (by kernel_rfl) [false,false,false,false,false,false,false,false,false,true] [] (by kernel_rfl) ?_
 refine zX2 hi0 hk0 ?_
 refine PCall.of (Z0v hy2) ?_
 refine zX2 hi0 hk0 ?_
 refine zDs [0,2,4,6] [true,true] ?_
 obtain ⟨z4,hz4,h⟩:=bC h
 refine Y0 (E':=⟨89,[],[(0,.ref i0 0),(2,(vI a2)),(4,.ref n 0),(6,.ref (n+1) 0),(35,(vB z4))]⟩) (O':=(Zw (O.upd i0 (some ⟨false,247,1,1,[(vI (IntKind.i64.wrap (a0.left - y2)))]⟩)) n [some ⟨false,62,9,1,(Zu a1)⟩,some ⟨false,25,3,1,[(vI 0),nV,nV]⟩])) (n0:=(n+2)) ?_ ?_
 ·rcases Bool.eq_false_or_eq_true (decide ((IntKind.i64.wrap (a0.left - y2)) < 0)) with c7 | c7
  ·replace hz4:=Zn c7 hz4
   refine Zap [some false,some false,some false,some false,some false,some false] c7 hi0 hk0 ?_
   have hz4:=Option.some.inj hz4;subst hz4
   refine And.intro rfl (Fit2.of (Ys hU rfl rfl ?_) (by omega))
   exact Znt c7 hi0 hk0
  replace hz4:=Zm c7 hz4
  rcases Bool.eq_false_or_eq_true (a2 == 0) with c8 | c8
  ·replace hz4:=Zn c8 hz4
   try rw [c8] at c7
   obtain ⟨y6,hy6,hz4⟩:=bC hz4
   refine Zp9 [some true,some true,some true,some true,some true,some true] c7 c8 hi0 hk0 ?_
   refine (Z1v hy6).then ?_
   refine zX4 c7 c8 hi0 hk0 ?_
   have hz4:=Option.some.inj hz4;subst hz4
   refine And.intro rfl (Fit2.of (Ys hU rfl rfl ?_) (by omega))
   exact Yiz c7 c8 hi0 hk0
  replace hz4:=Zm c8 hz4
  try rw [c8] at c7
  refine Zp9 [some true,some true,some true,some false,some false,some true] c7 c8 hi0 hk0 ?_
  have hz4:=Option.some.inj hz4;subst hz4
  refine And.intro rfl (Fit2.of (Ys hU rfl rfl ?_) (by omega))
  exact Yiz c7 c8 hi0 hk0
 refine Zo (t:=z4) rfl (fun c28 => ?_) (fun c28 => ?_)
 ·replace h:=Zn c28 h
  refine Zd ?_
  refine X2 [] hi0 hk0 ?_
  refine zD [6,7] [false,true] ?_
  refine zW ?_
  have h:=Option.some.inj h;subst h
  refine Vv (k:=0) (i:=i0) (q1:=⟨false,247,1,1,[(vI (IntKind.i64.wrap (a0.left - y2)))]⟩) (L3:=[some ⟨false,25,3,1,[(vI 0),nV,nV]⟩,none]) (E2:=(⟨89,[],[(6,.ref n 0),(7,(vI 3))]⟩:Env)) (n3:=(n+2)) (.inr rfl) hU rfl [.agg [(vI 0),nV,nV],(vI 3)] ?_ ?_
  ·refine Fit2.trans (E':=(⟨89,[],[(6,.ref (n+1) 0),(7,(vI 3))]⟩:Env)) (O':=(Zw (O.upd i0 (some ⟨false,247,1,1,[(vI (IntKind.i64.wrap (a0.left - y2)))]⟩)) n [none,some ⟨false,25,3,1,[(vI 0),nV,nV]⟩])) (n':=(n+2)) (Fit2.of (Ys hU rfl rfl ?_) (by omega)) ?_
   ·exact Q9 hi0 hk0
   refine Jk (k:=2) (k':=2) hU [1,0] [1,0] rfl rfl rfl rfl ⟨rfl,rfl⟩ ?_
   exact Q9 hi0 hk0
  simp only [push_cast,seval,↓reduceIte,Zc,Tryz.results222,hi0,hk0,hN0,hN]
 replace h:=Zm c28 h
 refine X9 [0,2,4,6] [true,true] ?_
 refine Zd ?_
 obtain ⟨y10,hy10,h⟩:=bC h
 refine X2 [] hi0 hk0 ?_
 refine (Qw hy10).then ?_
 refine zX2 hi0 hk0 ?_
 refine zDs [0,2,4,6,8] [true,true,true] ?_
 refine Zd ?_
 obtain ⟨y12,hy12,h⟩:=bC h
 refine X2 [] hi0 hk0 ?_
 refine (Zdm hy12).then ?_
 refine zX2 hi0 hk0 ?_
 refine zD [0,2,4,6,8,41,42] [true,true,true] ?_
 refine zD [0,2,4,6,8,41,42] [true,true,true] ?_
 refine Zdn (E':=(⟨89,[],[(0,.ref i0 0),(2,(vI a2)),(4,.ref n 0),(6,.ref (n+1) 0),(8,.ref (n+2) 0),(41,(vI y12)),(42,(vI 0))]⟩:Env)) (O':=(Zw (O.upd i0 (some ⟨false,247,1,1,[(vI (IntKind.i64.wrap (a0.left - y2)))]⟩)) n [some ⟨false,62,9,1,(Zu a1)⟩,some ⟨false,25,3,1,[(vI 0),nV,nV]⟩,some ⟨false,25,3,1,[(vI y10),.row (n+3) ([]:List Int).length,nV]⟩,some (oR 77 1 (eI .u64) ([]:List Int)),none])) (n':=(n+5)) ?_ ?_
 ·refine Fit2.trans (E':=(⟨89,[],[(0,.ref i0 0),(2,(vI a2)),(4,.ref n 0),(6,.ref (n+1) 0),(8,.ref (n+2) 0),(41,(vI y12)),(42,(vI 0))]⟩:Env)) (O':=(Zw (O.upd i0 (some ⟨false,247,1,1,[(vI (IntKind.i64.wrap (a0.left - y2)))]⟩)) n [some ⟨false,62,9,1,(Zu a1)⟩,some ⟨false,25,3,1,[(vI 0),nV,nV]⟩,some ⟨false,25,3,1,[(vI y10),nV,nV]⟩])) (n':=(n+3)) (Fit2.of (Ys hU rfl rfl ?_) (by omega)) ?_
  ·exact Q9 hi0 hk0
  refine Fit2.trans (Zqa (p:=(n+2)) (k:=1) (q:=⟨false,25,3,1,[(vI y10),nV,nV]⟩) 77 1 (by simp only [Zfm,Zlq,List.getElem?_cons_zero,List.getElem?_cons_succ,Option.join_some,List.length_nil,Xw]) rfl (by omega)) ?_
  simp only [Jj,Ql,Ga,Vb,List.set_cons_zero,List.set_cons_succ,List.cons_append,List.nil_append,List.length_cons,List.length_nil,Nat.zero_add,Nat.reduceAdd,Nat.reduceLT,Nat.add_assoc,Zbq,Zgp,hi0,hk0,hN0,hN]
  refine Jk (k:=4) (k':=5) hU [0,1,2,3] [0,1,2,3,0] rfl rfl rfl rfl ⟨rfl,rfl⟩ ?_
  exact Q9 hi0 hk0
 obtain ⟨z16,hz16,h⟩:=bC h
 refine Yi (E':=⟨89,[],[(0,.ref i0 0),(2,(vI a2)),(4,.ref n 0),(6,.ref (n+1) 0),(8,.ref (n+2) 0)]⟩) (O':=(Zw (O.upd i0 (some ⟨false,247,1,1,[(vI (IntKind.i64.wrap (a0.left - y2)))]⟩)) n [some ⟨false,62,9,1,(Zu a1)⟩,some ⟨false,25,3,1,[(vI 0),nV,nV]⟩,some ⟨false,25,3,1,[(vI y10),.row (n+3) z16.length,nV]⟩,some (oR 77 1 (eI .u64) z16),none])) (n0:=(n+5)) ?_ ?_
 ·refine Y2 hz16 (fun s0_=>⟨89,[],[(0,.ref i0 0),(2,(vI a2)),(4,.ref n 0),(6,.ref (n+1) 0),(8,.ref (n+2) 0),(41,(vI y12)),(42,(vI s0_.1))]⟩) (fun s0_=>(Zw (O.upd i0 (some ⟨false,247,1,1,[(vI (IntKind.i64.wrap (a0.left - y2)))]⟩)) n [some ⟨false,62,9,1,(Zu a1)⟩,some ⟨false,25,3,1,[(vI 0),nV,nV]⟩,some ⟨false,25,3,1,[(vI y10),.row (n+3) s0_.2.length,nV]⟩,some (oR 77 1 (eI .u64) s0_.2),none])) (fun z16=>JX 0 n (⟨89,[],[(0,.ref i0 0),(2,(vI a2)),(4,.ref n 0),(6,.ref (n+1) 0),(8,.ref (n+2) 0)]⟩:Env) (Zw (O.upd i0 (some ⟨false,247,1,1,[(vI (IntKind.i64.wrap (a0.left - y2)))]⟩)) n [some ⟨false,62,9,1,(Zu a1)⟩,some ⟨false,25,3,1,[(vI 0),nV,nV]⟩,some ⟨false,25,3,1,[(vI y10),.row (n+3) z16.length,nV]⟩,some (oR 77 1 (eI .u64) z16),none]) (n+5)) ?_
  intro s0_ x0_ hs0_
  unfold Zfx at hs0_
  try dsimp only
  refine Zcl [0,2,4,6,8,41,42,43] hi0 hk0 ?_
  refine Zd ?_
  refine Zo (t:=(decide (s0_.1 < y12))) rfl (fun Vq => ?_) (fun Vq => ?_)
  ·replace hs0_:=Zn Vq hs0_
   refine X9 [0,2,4,6,8,41,42] [true,true,true,true,false] ?_
   refine Zd ?_
   refine Z8 ?_
   refine Zcl [0,2,4,6,8,9,41,42] hi0 hk0 ?_
   obtain ⟨y13,hy13,hs0_⟩:=bC hs0_
   obtain ⟨l14,pl14,ql14,el14,hs0_⟩:=bA (k:=1) rfl hs0_
   refine Znx Zs (by kernel_rfl) [.low,.low,.plain,.plain,.plain,.pass,.bar,.plain,.bar] (fun i=>i < (n+5)) [0,1,2,3,4,5,6,7,8] [.low,.low,.plain,.plain,.plain,.pass,.bar,.plain,.bar] [] (by kernel_rfl) rfl ?_
   refine zX5 pl14 ql14 el14 hi0 hk0 ?_
   refine zO ?_
   first | refine PCallA.of (fun _ _=>Zmv hy13) ?_ | refine PCall.of (Zmv hy13) ?_
   refine zX5 pl14 ql14 el14 hi0 hk0 ?_
   refine zO ?_
   refine Vp ⟨89,[],[(0,.ref i0 0),(2,(vI a2)),(4,.ref n 0),(6,.ref (n+1) 0),(8,.ref (n+2) 0),(41,(vI y12)),(42,(vI s0_.1))]⟩ (Zw (O.upd i0 (some ⟨false,247,1,1,[(vI (IntKind.i64.wrap (a0.left - y2)))]⟩)) n [some ⟨false,62,9,1,(Zu a1)⟩,some ⟨false,25,3,1,[(vI 0),nV,nV]⟩,some ⟨false,25,3,1,[(vI y10),.row (n+3) l14.length,nV]⟩,some (oR 77 1 (eI .u64) l14),none,none]) (Ys hU rfl rfl ?_) ?_
   ·exact Ym4 pl14 ql14 el14 hi0 hk0
   refine X2 [] hi0 hk0 ?_
   have hs0_:=Option.some.inj hs0_;subst hs0_
   refine And.intro rfl (Fit2.of (Ys hU rfl rfl ?_) (by omega))
   exact Q9 hi0 hk0
  replace hs0_:=Zm Vq hs0_
  refine zXt ?_
  have hs0_:=Option.some.inj hs0_;subst hs0_
  refine And.intro (fun h=>by cases h) (And.intro rfl (Fit2.of (Ys hU rfl rfl ?_) (by omega)))
  exact Q9 hi0 hk0
 try simp only [Yx,Ya,↓reduceIte,Nat.reduceEqDiff]
 refine zDs [0,2,4,6,8] [true,true,true,true,false] ?_
 refine Zd ?_
 obtain ⟨y18,hy18,h⟩:=bC h
 refine X2 [] hi0 hk0 ?_
 refine (Qv hy18).then ?_
 refine zX2 hi0 hk0 ?_
 refine zD [0,2,4,6,8,55,56] [true,true,true,true,false] ?_
 refine zD [0,2,4,6,8,55,56] [true,true,true,true,false] ?_
 refine Zdn (E':=(⟨89,[],[(0,.ref i0 0),(2,(vI a2)),(4,.ref n 0),(6,.ref (n+1) 0),(8,.ref (n+2) 0),(55,(vI y18)),(56,(vI 0))]⟩:Env)) (O':=(Zw (O.upd i0 (some ⟨false,247,1,1,[(vI (IntKind.i64.wrap (a0.left - y2)))]⟩)) n [some ⟨false,62,9,1,(Zu a1)⟩,some ⟨false,25,3,1,[(vI 0),nV,nV]⟩,some ⟨false,25,3,1,[(vI y10),.row (n+3) z16.length,.row (n+5) ([]:List Za).length]⟩,some (oR 77 1 (eI .u64) z16),none,some (oR 25 3 Zb ([]:List Za)),none])) (n':=(n+7)) ?_ ?_
 ·refine Fit2.trans (E':=(⟨89,[],[(0,.ref i0 0),(2,(vI a2)),(4,.ref n 0),(6,.ref (n+1) 0),(8,.ref (n+2) 0),(55,(vI y18)),(56,(vI 0))]⟩:Env)) (O':=(Zw (O.upd i0 (some ⟨false,247,1,1,[(vI (IntKind.i64.wrap (a0.left - y2)))]⟩)) n [some ⟨false,62,9,1,(Zu a1)⟩,some ⟨false,25,3,1,[(vI 0),nV,nV]⟩,some ⟨false,25,3,1,[(vI y10),.row (n+3) z16.length,nV]⟩,some (oR 77 1 (eI .u64) z16),none])) (n':=(n+5)) (Fit2.of (Ys hU rfl rfl ?_) (by omega)) ?_
  ·exact Q9 hi0 hk0
  refine Fit2.trans (Zqa (p:=(n+2)) (k:=2) (q:=⟨false,25,3,1,[(vI y10),.row (n+3) z16.length,nV]⟩) 25 3 (by simp only [Zfm,Zlq,List.getElem?_cons_zero,List.getElem?_cons_succ,Option.join_some,List.length_nil,Xw]) rfl (by omega)) ?_
  simp only [Jj,Ql,Ga,Vb,List.set_cons_zero,List.set_cons_succ,List.cons_append,List.nil_append,List.length_cons,List.length_nil,Nat.zero_add,Nat.reduceAdd,Nat.reduceLT,Nat.add_assoc,Zbq,Zgp,hi0,hk0,hN0,hN]
  refine Jk (k:=6) (k':=7) hU [0,1,2,3,6,5] [0,1,2,3,0,5,0] rfl rfl rfl rfl ⟨rfl,rfl⟩ ?_
  exact Q9 hi0 hk0
 obtain ⟨z27,hz27,h⟩:=bC h
 refine Zbe (J:=(Xx (fun z27=>JR n (⟨89,[],[(6,.ref (n+1) 0),(7,(vI z27.1))]⟩:Env) (Zw (O.upd i0 (some ⟨false,247,1,1,[(vI z27.2)]⟩)) n [none,some ⟨false,25,3,1,[(vI 0),nV,nV]⟩,none,none,none]) (n+5)) (fun z27=>JX 2 n (⟨89,[],[(6,.ref (n+1) 0),(8,.ref (n+2) 0)]⟩:Env) (Zw (O.upd i0 (some ⟨false,247,1,1,[(vI z27.2)]⟩)) n [none,some ⟨false,25,3,1,[(vI 0),nV,nV]⟩,some ⟨false,25,3,1,[(vI y10),.row (n+3) z16.length,.row (n+5) z27.1.length]⟩,some (oR 77 1 (eI .u64) z16),none,some (oR 25 3 Zb z27.1),none]) (n+7)))) (z:=z27) ?_ fun hw => ?_
 ·refine Y2 hz27 (fun s1_=>⟨89,[],[(0,.ref i0 0),(2,(vI a2)),(4,.ref n 0),(6,.ref (n+1) 0),(8,.ref (n+2) 0),(55,(vI y18)),(56,(vI s1_.1))]⟩) (fun s1_=>(Zw (O.upd i0 (some ⟨false,247,1,1,[(vI s1_.2.2)]⟩)) n [some ⟨false,62,9,1,(Zu a1)⟩,some ⟨false,25,3,1,[(vI 0),nV,nV]⟩,some ⟨false,25,3,1,[(vI y10),.row (n+3) z16.length,.row (n+5) s1_.2.1.length]⟩,some (oR 77 1 (eI .u64) z16),none,some (oR 25 3 Zb s1_.2.1),none])) (Xx (fun z27=>JR n (⟨89,[],[(6,.ref (n+1) 0),(7,(vI z27.1))]⟩:Env) (Zw (O.upd i0 (some ⟨false,247,1,1,[(vI z27.2)]⟩)) n [none,some ⟨false,25,3,1,[(vI 0),nV,nV]⟩,none,none,none]) (n+5)) (fun z27=>JX 2 n (⟨89,[],[(6,.ref (n+1) 0),(8,.ref (n+2) 0)]⟩:Env) (Zw (O.upd i0 (some ⟨false,247,1,1,[(vI z27.2)]⟩)) n [none,some ⟨false,25,3,1,[(vI 0),nV,nV]⟩,some ⟨false,25,3,1,[(vI y10),.row (n+3) z16.length,.row (n+5) z27.1.length]⟩,some (oR 77 1 (eI .u64) z16),none,some (oR 25 3 Zb z27.1),none]) (n+7))) ?_
  intro s1_ x1_ hs1_
  unfold Zfy at hs1_
  try dsimp only
  refine Zcl [0,2,4,6,8,55,56,57] hi0 hk0 ?_
  refine Zd ?_
  refine Zo (t:=(decide (s1_.1 < y18))) rfl (fun c26 => ?_) (fun c26 => ?_)
  ·replace hs1_:=Zn c26 hs1_
   refine X9 [0,2,4,6,8,55,56] [true,true,true,true,false,true,false] ?_
   refine Zd ?_
   refine Z8 ?_
   refine Zcl [0,2,4,6,8,10,55,56] hi0 hk0 ?_
   refine Zd ?_
   obtain ⟨y20,hy20,hs1_⟩:=bC hs1_
   refine X2 [] hi0 hk0 ?_
   refine (Zjn hy20).then ?_
   refine zX2 hi0 hk0 ?_
   refine zDs [0,2,4,6,8,11,12,55,56] [true,true,true,true,false,true,false,true] ?_
   refine Zcl [0,2,4,6,8,11,12,55,56,66] hi0 hk0 ?_
   refine Zo (t:=(y20.2 != 0)) rfl (fun c25 => ?_) (fun c25 => ?_)
   ·replace hs1_:=Zn c25 hs1_
    refine Zd ?_
    refine X2 [] hi0 hk0 ?_
    refine zD [6,7] [false,true,false,false,false,false,false,false] ?_
    refine zW ?_
    have hs1_:=Option.some.inj hs1_;subst hs1_
    refine And.intro (fun h=>by cases h) (And.intro rfl (Fit2.of (Ys hU rfl rfl ?_) (by omega)))
    exact Q9 hi0 hk0
   replace hs1_:=Zm c25 hs1_
   refine X9 [0,2,4,6,8,11,55,56] [true,true,true,true,false,true,false,true] ?_
   refine Zd ?_
   obtain ⟨y22,hy22,hs1_⟩:=bC hs1_
   refine X2 [] hi0 hk0 ?_
   refine (Zmu (i0:=i0) (by omega) (by simp only [push_cast,seval,↓reduceIte,Zc,U1,hi0,hk0,hN0,hN] <;> rfl) hy22).then ?_
   refine zX2 hi0 hk0 ?_
   refine zDs [0,2,4,6,8,12,13,55,56] [true,true,true,true,false,true,false,false,true] ?_
   refine Zcl [0,2,4,6,8,12,13,55,56,78] hi0 hk0 ?_
   refine Zo (t:=(y22.2.1 != 0)) rfl (fun c24 => ?_) (fun c24 => ?_)
   ·replace hs1_:=Zn c24 hs1_
    refine Zd ?_
    refine X2 [] hi0 hk0 ?_
    refine zD [6,7] [false,true,false,false,false,false,false,false,false] ?_
    refine zW ?_
    have hs1_:=Option.some.inj hs1_;subst hs1_
    refine And.intro (fun h=>by cases h) (And.intro rfl (Fit2.of (Ys hU rfl rfl ?_) (by omega)))
    exact Q9 hi0 hk0
   replace hs1_:=Zm c24 hs1_
   refine X9 [0,2,4,6,8,13,55,56] [true,true,true,true,false,true,false,false,true] ?_
   obtain ⟨l23,pl23,ql23,el23,hs1_⟩:=bA (k:=1) rfl hs1_
   refine Z7f [] pl23 ql23 el23 hi0 hk0 ?_
   refine Vp ⟨89,[],[(0,.ref i0 0),(2,(vI a2)),(4,.ref n 0),(6,.ref (n+1) 0),(8,.ref (n+2) 0),(55,(vI y18)),(56,(vI s1_.1))]⟩ (Zw (O.upd i0 (some ⟨false,247,1,1,[(vI y22.2.2.left)]⟩)) n [some ⟨false,62,9,1,(Zu a1)⟩,some ⟨false,25,3,1,[(vI 0),nV,nV]⟩,some ⟨false,25,3,1,[(vI y10),.row (n+3) z16.length,.row (n+5) l23.length]⟩,some (oR 77 1 (eI .u64) z16),none,some (oR 25 3 Zb l23),none,none,none,none]) (Ys hU rfl rfl ?_) ?_
   ·exact Ym4 pl23 ql23 el23 hi0 hk0
   refine X2 [] hi0 hk0 ?_
   have hs1_:=Option.some.inj hs1_;subst hs1_
   refine And.intro rfl (Fit2.of (Ys hU rfl rfl ?_) (by omega))
   exact Q9 hi0 hk0
  replace hs1_:=Zm c26 hs1_
  refine zXt ?_
  have hs1_:=Option.some.inj hs1_;subst hs1_
  refine And.intro (fun h=>by cases h) (And.intro rfl (Fit2.of (Ys hU rfl rfl ?_) (by omega)))
  exact Q9 hi0 hk0
 rcases z27 with z27 | z27
 ·dsimp only [Xx] at hw h
  refine Jt hw ?_
  try simp only [Yx,Ya,↓reduceIte,Nat.reduceEqDiff]
  have h:=Option.some.inj h;subst h
  refine Vv (k:=0) (i:=i0) (q1:=⟨false,247,1,1,[(vI z27.2)]⟩) (L3:=[some ⟨false,25,3,1,[(vI 0),nV,nV]⟩,none]) (E2:=(⟨89,[],[(6,.ref n 0),(7,(vI z27.1))]⟩:Env)) (n3:=(n+2)) (.inr rfl) hU rfl [.agg [(vI 0),nV,nV],(vI z27.1)] ?_ ?_
  ·refine Fit2.trans (E':=(⟨89,[],[(6,.ref (n+1) 0),(7,(vI z27.1))]⟩:Env)) (O':=(Zw (O.upd i0 (some ⟨false,247,1,1,[(vI z27.2)]⟩)) n [none,some ⟨false,25,3,1,[(vI 0),nV,nV]⟩,none,none,none])) (n':=(n+5)) (Fit2.of (Ys hU rfl rfl ?_) (by omega)) ?_
   ·exact Q9 hi0 hk0
   refine Jk (k:=5) (k':=2) hU [1,0,1,1,1] [1,0] rfl rfl rfl rfl ⟨rfl,rfl⟩ ?_
   exact Q9 hi0 hk0
  simp only [push_cast,seval,↓reduceIte,Zc,Tryz.results222,hi0,hk0,hN0,hN]
 dsimp only [Xx] at hw h
 refine Yi hw ?_
 try simp only [Yx,Ya,↓reduceIte,Nat.reduceEqDiff]
 refine zDs [6,8] [false,true,true,true,false,true,false] ?_
 refine X2 [] hi0 hk0 ?_
 refine zD [6,7] [false,true,false,true,false,true,false] ?_
 refine zW ?_
 have h:=Option.some.inj h;subst h
 refine Vv (k:=0) (i:=i0) (q1:=⟨false,247,1,1,[(vI z27.2)]⟩) (L3:=[some ⟨false,25,3,1,[(vI y10),.row (n+1) z16.length,.row (n+2) z27.1.length]⟩,some (oR 77 1 (eI .u64) z16),some (oR 25 3 Zb z27.1),none]) (E2:=(⟨89,[],[(6,.ref n 0),(7,(vI 0))]⟩:Env)) (n3:=(n+4)) (.inr rfl) hU rfl [.agg [(vI y10),.row (n+1) z16.length,.row (n+2) z27.1.length],(vI 0)] ?_ ?_
 ·refine Fit2.trans (E':=(⟨89,[],[(6,.ref (n+1) 0),(7,(vI 0))]⟩:Env)) (O':=(Zw (O.upd i0 (some ⟨false,247,1,1,[(vI z27.2)]⟩)) n [none,some ⟨false,25,3,1,[(vI y10),.row (n+3) z16.length,.row (n+5) z27.1.length]⟩,none,some (oR 77 1 (eI .u64) z16),none,some (oR 25 3 Zb z27.1),none])) (n':=(n+7)) (Fit2.of (Ys hU rfl rfl ?_) (by omega)) ?_
  ·exact Q9 hi0 hk0
  refine Jk (k:=7) (k':=4) hU [3,0,3,1,3,2,3] [1,3,5,0] rfl rfl rfl rfl ⟨rfl,rfl⟩ ?_
  exact Q9 hi0 hk0
 simp only [push_cast,seval,↓reduceIte,Zc,Tryz.results222,hi0,hk0,hN0,hN]
theorem Zlr:∀ k,(Zgd (Gb k)):=fun k=>by
 induction k with
 | zero=>exact @fun a0 a1 a2 r O n i0 hi0 ho0 h=>(nomatch (show (none:Option _)=some _ from h))
 | succ k ih=>exact @fun a0 a1 a2 r O n i0 hi0 ho0 h=>Znv (ih) hi0 ho0 h
theorem Zon {a0:Z5} {a1:Zj} {a2:Int} {r:(Za×Int×Z5)} {O:Objs} {n:Nat} {i0:Nat} (hi0:i0 < n) (ho0:O i0=some ⟨false,247,1,1,[(vI a0.left)]⟩) (h:Zd2 a0 a1 a2=some r):GTo Tryz.prog 222 [.ref i0 0,.agg (Zu a1),(vI a2)] O n (.tup [.agg (Ze r.1),(vI r.2.1)]) (Zw (O.upd i0 (some ⟨false,247,1,1,[(vI r.2.2.left)]⟩)) n []) (n+0):=by
 obtain ⟨k,hk⟩:=Vx h
 exact (Zlr k) hi0 ho0 hk
theorem Z1u {a0:Zj} {r:(Za×Int)} {O:Objs} {n:Nat} (h:Zjg a0=some r):GTo Tryz.prog 150 [.agg (Zu a0)] O n (.tup [.agg (Ze r.1),(vI r.2)]) O n:=by
 unfold Zjg at h
 refine Yf Zs Tryz.call150 Tryz.func150 rfl (Nat.le_of_ble_eq_true rfl) (Nat.le_refl _) fun hU => ?_
 have hN0:O n=none:=hU.fresh _ (Nat.le_refl _)
 have hN:∀ k,O (n+k)=none:=fun k=>hU.fresh _ (Nat.le_add_right _ _)
 show W _ _ _ _ ⟨10,[],[(0,.agg (Zu a0))]⟩ (Zw O n []) _
 refine zQ [1,2] ?_
 refine Zd ?_
 refine zRd [1,2,4] [true,true,true] ?_
 refine Zd ?_
 obtain ⟨y2,hy2,h⟩:=bC h
 refine zR ?_
 refine (Zon (i0:=(n+2)) (by omega) (by simp only [push_cast,seval,↓reduceIte,Zc,U1,hN0,hN] <;> rfl) hy2).then ?_
 refine zS ?_
 refine zD [2,3] [false,true,false] ?_
 refine zW ?_
 have h:=Option.some.inj h;subst h
 refine Zh (.inr rfl) hU [.agg (Ze y2.1),(vI y2.2.1)] (by omega) ?_
 simp only [push_cast,seval,↓reduceIte,Zc,Tryz.results150,hN0,hN]
theorem Zam {a0:(Option Z0)} {a1:X4} {r:(Za×Int)} {O:Objs} {n:Nat} (h:Zd1 a0 a1=some r):GTo Tryz.prog 120 [(gP Zv a0),.agg (Xm a1)] O n (.tup [.agg (Ze r.1),(vI r.2)]) O n:=by
 unfold Zd1 at h
 refine Yf Zs Tryz.call120 Tryz.func120 rfl (Nat.le_of_ble_eq_true rfl) (Nat.le_refl _) fun hU => ?_
 have hN0:O n=none:=hU.fresh _ (Nat.le_refl _)
 have hN:∀ k,O (n+k)=none:=fun k=>hU.fresh _ (Nat.le_add_right _ _)
 show W _ _ _ _ ⟨38,[],[(0,(gP Zv a0)),(1,.agg (Xm a1))]⟩ (Zw O n []) _
 refine zQ [0,3,4] ?_
 refine Zd ?_
 refine Zd ?_
 obtain ⟨y2,hy2,h⟩:=bC h
 refine zCd (Zsp hy2) [0,4,7] [false,true] ?_
 refine zQ [0,4,7,18] ?_
 refine Zo (t:=(y2.2 != 0)) rfl (fun c10 => ?_) (fun c10 => ?_)
 ·replace h:=Zn c10 h
  refine Zd ?_
  refine zRd [4,5] [false,true] ?_
  refine zW ?_
  have h:=Option.some.inj h;subst h
  refine Zh (.inr rfl) hU [.agg [(vI 0),nV,nV],(vI y2.2)] (by omega) ?_
  simp only [push_cast,seval,↓reduceIte,Zc,Tryz.results120,hN0,hN]
 replace h:=Zm c10 h
 refine X9 [0,4] [false,true] ?_
 refine Zd ?_
 obtain ⟨y4,hy4,h⟩:=bC h
 refine zCd (Zso hy4) [4,8,9] [false,true,true] ?_
 refine Zd ?_
 refine zQ [4,8,9,27] ?_
 refine Zo (t:=(y4.2 != 0)) rfl (fun c9 => ?_) (fun c9 => ?_)
 ·replace h:=Zn c9 h
  refine Zd ?_
  refine zRd [4,5] [false,true,false] ?_
  refine zW ?_
  have h:=Option.some.inj h;subst h
  refine Zh (.inr rfl) hU [.agg [(vI 0),nV,nV],(vI y4.2)] (by omega) ?_
  simp only [push_cast,seval,↓reduceIte,Zc,Tryz.results120,hN0,hN]
 replace h:=Zm c9 h
 refine X9 [4,8] [false,true,true] ?_
 refine Zd ?_
 obtain ⟨y6,hy6,h⟩:=bC h
 refine zCd (Z1u hy6) [4,9,10] [false,true,false,true] ?_
 refine Zd ?_
 obtain ⟨y8,hy8,h⟩:=bC h
 refine zCd (Zqt hy8) [4,5] [false,true,false,false] ?_
 refine zW ?_
 have h:=Option.some.inj h;subst h
 refine Zh (.inr rfl) hU [.agg (Ze y8),(vI y6.2)] (by omega) ?_
 simp only [push_cast,seval,↓reduceIte,Zc,Tryz.results120,hN0,hN]
theorem Jd {a0:(List Int)} {a1:(List Int)} {r:Bool} {O:Objs} {n:Nat} (h:X3 a0 a1=some r):GTo Tryz.prog 105 [(sL (eI .u64) a0),(sL (eI .u64) a1)] O n ((vB r)) O n:=by
 unfold X3 at h
 refine Yf Zs Tryz.call105 Tryz.func105 rfl (Nat.le_of_ble_eq_true rfl) (Nat.le_refl _) fun hU => ?_
 have hN0:O n=none:=hU.fresh _ (Nat.le_refl _)
 have hN:∀ k,O (n+k)=none:=fun k=>hU.fresh _ (Nat.le_add_right _ _)
 show W _ _ _ _ ⟨26,[],[(0,(sL (eI .u64) a0)),(1,(sL (eI .u64) a1))]⟩ (Zw O n []) _
 refine zQ [0,1] ?_
 refine Zd ?_
 refine zQ [0,1,10] ?_
 refine Zo (t:=((a0.length:Int) != (a1.length:Int))) rfl (fun c8 => ?_) (fun c8 => ?_)
 ·replace h:=Zn c8 h
  refine zQ [4] ?_
  refine zW ?_
  have h:=Option.some.inj h;subst h
  refine Zh (.inr rfl) hU [(vB false)] (by omega) ?_
  simp only [push_cast,seval,↓reduceIte,Zc,Tryz.results105,hN0,hN]
 replace h:=Zm c8 h
 refine X9 [0,1] [] ?_
 refine Zd ?_
 refine zQd [0,1,12,13] [0,1,12,13] [] ?_
 obtain ⟨z7,hz7,h⟩:=bC h
 refine Zbe (J:=(Xx (fun z7=>JR n (⟨26,[],[(4,(vB false))]⟩:Env) (Zw O n []) n) (fun z7=>JX 0 n (⟨26,[],[]⟩:Env) (Zw O n []) n))) (z:=z7) ?_ fun hw => ?_
 ·refine Y2 hz7 (fun s0_=>⟨26,[],[(0,(sL (eI .u64) a0)),(1,(sL (eI .u64) a1)),(12,(vI (a0.length:Int))),(13,(vI s0_))]⟩) (fun s0_=>(Zw O n [])) (Xx (fun z7=>JR n (⟨26,[],[(4,(vB false))]⟩:Env) (Zw O n []) n) (fun z7=>JX 0 n (⟨26,[],[]⟩:Env) (Zw O n []) n)) ?_
  intro s0_ x0_ hs0_
  unfold Qx at hs0_
  try dsimp only
  refine zQ [0,1,12,13,14] ?_
  refine Zd ?_
  refine Zo (t:=(decide (s0_ < (a0.length:Int)))) rfl (fun c6 => ?_) (fun c6 => ?_)
  ·replace hs0_:=Zn c6 hs0_
   refine X9 [0,1,12,13] [] ?_
   refine Zd ?_
   refine Z8 ?_
   refine zQ [0,1,5,12,13] ?_
   obtain ⟨x3,hx3,ax3,bx3,cx3,hs0_⟩:=bE (f:=(eI .u64)) Zci (fun _=>rfl) (by decide) hs0_
   obtain ⟨x4,hx4,ax4,bx4,cx4,hs0_⟩:=bE (f:=(eI .u64)) Zci (fun _=>rfl) (by decide) hs0_
   refine Zis [0,1,12,13,24] (Qf Zs (by kernel_rfl) [] (by kernel_rfl) ?_)
   refine zF6 ax3 bx3 cx3 ax4 bx4 cx4 ?_
   refine Zo (t:=(x3 != x4)) rfl (fun c5 => ?_) (fun c5 => ?_)
   ·replace hs0_:=Zn c5 hs0_
    refine zQ [4] ?_
    refine zW ?_
    exact zEy hs0_
   replace hs0_:=Zm c5 hs0_
   refine X9 [0,1,12,13] [] ?_
   refine zR ?_
   exact zEn hs0_
  replace hs0_:=Zm c6 hs0_
  exact zEx hs0_
 rcases z7 with z7 | z7
 ·dsimp only [Xx] at hw h
  refine Jt hw ?_
  try simp only [Yx,Ya,↓reduceIte,Nat.reduceEqDiff]
  have h:=Option.some.inj h;subst h
  refine Zh (.inr rfl) hU [(vB false)] (by omega) ?_
  simp only [push_cast,seval,↓reduceIte,Zc,Tryz.results105,hN0,hN]
 dsimp only [Xx] at hw h
 refine Yi hw ?_
 try simp only [Yx,Ya,↓reduceIte,Nat.reduceEqDiff]
 refine zD [] [] ?_
 refine zQ [4] ?_
 refine zW ?_
 have h:=Option.some.inj h;subst h
 refine Zh (.inr rfl) hU [(vB true)] (by omega) ?_
 simp only [push_cast,seval,↓reduceIte,Zc,Tryz.results105,hN0,hN]
theorem Z1r {a0:(List Int)} {a1:X4} {r:(Za×Int)} {O:Objs} {n:Nat} (h:Zf5 a0 a1=some r):GTo Tryz.prog 76 [(sL (eI .u64) a0),.agg (Xm a1)] O n (.tup [.agg (Ze r.1),(vI r.2)]) O n:=by
 unfold Zf5 at h
 refine Yf Zs Tryz.call76 Tryz.func76 rfl (Nat.le_of_ble_eq_true rfl) (Nat.le_refl _) fun hU => ?_
 have hN0:O n=none:=hU.fresh _ (Nat.le_refl _)
 have hN:∀ k,O (n+k)=none:=fun k=>hU.fresh _ (Nat.le_add_right _ _)
 show W _ _ _ _ ⟨39,[],[(0,(sL (eI .u64) a0)),(1,.agg (Xm a1))]⟩ (Zw O n []) _
 refine zQ [0,3,4] ?_
 obtain ⟨y25,hy25,h⟩:=bC h
 obtain ⟨y49,hy49,h⟩:=bC h
 refine Y0 (E':=⟨39,[],[(0,(sL (eI .u64) a0)),(4,.ref (n+1) 0),(6,.ref (n+3) 0),(7,(vI y49.2))]⟩) (O':=(Zw O n [none,some ⟨false,25,3,1,[(vI 0),nV,nV]⟩,none,some ⟨false,25,3,1,(Ze y49.1)⟩])) (n0:=(n+4)) ?_ ?_
 ·refine Zwu Zs (by kernel_rfl) [.plain,.pass,.pass,.low,.low,.plain,.plain,.plain,.pass,.pass,.plain] (fun i=>i < (n+2)) [0,3] [1,2,4,5,6,7,8] [9,10] (.alt 1 (.alt 2 (.seq [4,5,6,7,8]) (.one 8 (.seq [2,4,5,6,7]))) (.one 8 (.seq [1,2,4,5,6,7]))) [.plain,.low] [] (by kernel_rfl) rfl ?_
  simp (maxSteps:=4000000) only [push_cast,seval,↓reduceIte,Zc,hN0,hN]
  repeat (with_reducible refine And.intro (by omega) ?_)
  try simp only [push_cast,seval,↓reduceIte,Zc,hN0,hN]
  refine And.intro ?_ ?_
  ·try simp only [push_cast,seval,↓reduceIte,Zc,hN0,hN]
   repeat (with_reducible refine And.intro (by first | exact Xb rfl | exact Yv) ?_)
   try simp only [push_cast,seval,↓reduceIte,Zc,hN0,hN]
   refine And.intro ?_ ?_
   ·try simp only [push_cast,seval,↓reduceIte,Zc,hN0,hN]
    repeat (with_reducible refine And.intro (by first | exact Xb rfl | exact Yv) ?_)
    refine GCalls.dropL (l':=[some ⟨false,55,4,1,(Xm a1)⟩,some ⟨false,25,3,1,[(vI 0),nV,nV]⟩,none]) hU rfl ?_ ((Zn7 hy25).then ?_)
    ·exact zSe
    try simp only [push_cast,seval,↓reduceIte,Zc,hN0,hN]
    repeat (with_reducible refine And.intro (by first | exact Xb rfl | exact Yv) ?_)
    try simp only [push_cast,seval,↓reduceIte,Zc,hN0,hN]
    repeat (with_reducible refine And.intro (by first | exact Xb rfl | exact Yv) ?_)
    first | refine PCallA.of (fun _ _=>Zam hy49) ?_ | refine PCall.of (Zam hy49) ?_
    try simp only [push_cast,seval,↓reduceIte,Zc,hN0,hN]
    repeat (with_reducible refine And.intro (by first | exact Xb rfl | exact Yv) ?_)
    exact zEf
   try simp only [push_cast,seval,↓reduceIte,Zc,hN0,hN]
   repeat (with_reducible refine And.intro (by first | exact Xb rfl | exact Yv) ?_)
   try simp only [push_cast,seval,↓reduceIte,Zc,hN0,hN]
   repeat (with_reducible refine And.intro (by first | exact Xb rfl | exact Yv) ?_)
   refine GCalls.dropL (l':=[some ⟨false,55,4,1,(Xm a1)⟩,some ⟨false,25,3,1,[(vI 0),nV,nV]⟩,none,some ⟨false,25,3,1,[(vI 0),nV,nV]⟩]) hU rfl ?_ ((Zn7 hy25).then ?_)
   ·exact zSe
   try simp only [push_cast,seval,↓reduceIte,Zc,hN0,hN]
   repeat (with_reducible refine And.intro (by first | exact Xb rfl | exact Yv) ?_)
   first | refine PCallA.of (fun _ _=>Zam hy49) ?_ | refine PCall.of (Zam hy49) ?_
   try simp only [push_cast,seval,↓reduceIte,Zc,hN0,hN]
   repeat (with_reducible refine And.intro (by first | exact Xb rfl | exact Yv) ?_)
   exact zEf
  try simp only [push_cast,seval,↓reduceIte,Zc,hN0,hN]
  repeat (with_reducible refine And.intro (by first | exact Xb rfl | exact Yv) ?_)
  try simp only [push_cast,seval,↓reduceIte,Zc,hN0,hN]
  repeat (with_reducible refine And.intro (by first | exact Xb rfl | exact Yv) ?_)
  refine GCalls.dropL (l':=[some ⟨false,55,4,1,(Xm a1)⟩,some ⟨false,25,3,1,[(vI 0),nV,nV]⟩,some ⟨false,25,3,1,[(vI 0),nV,nV]⟩,none]) hU rfl ?_ ((Zn7 hy25).then ?_)
  ·exact zSe
  try simp only [push_cast,seval,↓reduceIte,Zc,hN0,hN]
  repeat (with_reducible refine And.intro (by first | exact Xb rfl | exact Yv) ?_)
  first | refine PCallA.of (fun _ _=>Zam hy49) ?_ | refine PCall.of (Zam hy49) ?_
  try simp only [push_cast,seval,↓reduceIte,Zc,hN0,hN]
  repeat (with_reducible refine And.intro (by first | exact Xb rfl | exact Yv) ?_)
  refine And.intro rfl ?_
  refine Fit2.trans (E':=(⟨39,[],[(0,(sL (eI .u64) a0)),(4,.ref (n+1) 0),(6,.ref (n+2) 0),(7,(vI y49.2))]⟩:Env)) (O':=(Zw O n [none,some ⟨false,25,3,1,[(vI 0),nV,nV]⟩,some ⟨false,25,3,1,(Ze y49.1)⟩,none])) (n':=(n+4)) (Fit2.of (Z6 hU rfl rfl ?_) (by omega)) ?_
  ·exact zSe
  refine Kk (k:=4) (k':=4) hU [0,1,3,2] [0,1,3,2] rfl rfl rfl rfl ⟨rfl,rfl⟩ ?_
  exact zSe
 refine Zd ?_
 refine zQ [0,4,6,7,19] ?_
 refine Zo (t:=(y49.2 != 0)) rfl (fun c141 => ?_) (fun c141 => ?_)
 ·replace h:=Zn c141 h
  refine Zd ?_
  refine zRd [4,5] [false,true,false,false] ?_
  refine zW ?_
  have h:=Option.some.inj h;subst h
  refine Zh (.inr rfl) hU [.agg [(vI 0),nV,nV],(vI y49.2)] (by omega) ?_
  simp only [push_cast,seval,↓reduceIte,Zc,Tryz.results76,hN0,hN]
 replace h:=Zm c141 h
 refine X9 [0,4,6] [false,true,false,true] ?_
 refine Zd ?_
 obtain ⟨y134,hy134,h⟩:=bC h
 refine zCd (Zra hy134) [0,4,6,8,9] [false,true,false,true] ?_
 refine Zd ?_
 obtain ⟨z136,hz136,h⟩:=bC h
 refine Y0 (E':=⟨39,[],[(4,.ref (n+1) 0),(6,.ref (n+3) 0),(36,(vB z136))]⟩) (O':=(Zw O n [none,some ⟨false,25,3,1,[(vI 0),nV,nV]⟩,none,some ⟨false,25,3,1,(Ze y49.1)⟩])) (n0:=(n+4)) ?_ ?_
 ·rcases Bool.eq_false_or_eq_true y134.2 with c139 | c139
  ·replace hz136:=Zn c139 hz136
   obtain ⟨y138,hy138,hz136⟩:=bC hz136
   refine Q7 [some true,some true,some true,some true] c139 ?_
   refine (Jd hy138).then ?_
   refine zX1 c139 ?_
   exact Qk hz136 c139
  replace hz136:=Zm c139 hz136
  refine Q7 [some false,some false,some false,some false] c139 ?_
  exact Qk hz136 c139
 refine Zo (t:=z136) rfl (fun c140 => ?_) (fun c140 => ?_)
 ·replace h:=Zn c140 h
  refine Zd ?_
  refine zRd [4,5] [false,true,false,false] ?_
  refine zW ?_
  have h:=Option.some.inj h;subst h
  refine Zh (.inr rfl) hU [.agg [(vI 0),nV,nV],(vI 5)] (by omega) ?_
  simp only [push_cast,seval,↓reduceIte,Zc,Tryz.results76,hN0,hN]
 replace h:=Zm c140 h
 refine X9 [4,6] [false,true,false,true] ?_
 refine Zd ?_
 refine zRd [4,5] [false,true,false,false] ?_
 refine zW ?_
 have h:=Option.some.inj h;subst h
 refine Zh (.inr rfl) hU [.agg (Ze y49.1),(vI 0)] (by omega) ?_
 simp only [push_cast,seval,↓reduceIte,Zc,Tryz.results76,hN0,hN]
theorem Zc5 {a0:Za} {a1:Int} {r:Za} {O:Objs} {n:Nat} (h:Jr a0 a1=some r):GTo Tryz.prog 100 [.agg (Ze a0),(vI a1)] O n (.agg (Ze r)) O n:=by
 unfold Jr at h
 refine Yf Zs Tryz.call100 Tryz.func100 rfl (Nat.le_of_ble_eq_true rfl) (Nat.le_refl _) fun hU => ?_
 have hN0:O n=none:=hU.fresh _ (Nat.le_refl _)
 have hN:∀ k,O (n+k)=none:=fun k=>hU.fresh _ (Nat.le_add_right _ _)
 show W _ _ _ _ ⟨20,[],[(0,.agg (Ze a0)),(1,(vI a1))]⟩ (Zw O n []) _
 refine zQ [1,2,4] ?_
 refine Zd ?_
 refine zQD [1,2,4,13] [none,none,none,none,none] ?_
 refine Zo (t:=(cond (decide (a1 < 0)) true (decide ((a0.Kids.length:Int)≤a1)))) rfl (fun c3 => ?_) (fun c3 => ?_)
 ·replace h:=Zn c3 h
  refine Zd ?_
  refine zRd [4] [false,true] ?_
  refine zW ?_
  have h:=Option.some.inj h;subst h
  refine Zh (.inr rfl) hU [.agg [(vI 0),nV,nV]] (by omega) ?_
  simp only [push_cast,seval,↓reduceIte,Zc,Tryz.results100,hN0,hN]
 replace h:=Zm c3 h
 refine X9 [1,2,4] [true,true] ?_
 refine Zd ?_
 obtain ⟨x2,hx2,ax2,bx2,cx2,h⟩:=bE (f:=Zb) G7 (fun _=>rfl) (by decide) h
 refine Zck [] ax2 bx2 cx2 ?_
 refine zD [4] [false,true] ?_
 refine zW ?_
 have h:=Option.some.inj h;subst h
 refine Zh (.inr rfl) hU [.agg (Ze x2)] (by omega) ?_
 simp only [push_cast,seval,↓reduceIte,Zc,Tryz.results100,hN0,hN]
theorem Zwg {a0:Za} {r:(List Zz)} {O:Objs} {n:Nat} (h:Zai a0=some r):GTo Tryz.prog 101 [.agg (Ze a0)] O n ((sL Zq r)) O n:=by
 unfold Zai at h
 refine Yf Zs Tryz.call101 Tryz.func101 rfl (Nat.le_of_ble_eq_true rfl) (Nat.le_refl _) fun hU => ?_
 have hN0:O n=none:=hU.fresh _ (Nat.le_refl _)
 have hN:∀ k,O (n+k)=none:=fun k=>hU.fresh _ (Nat.le_add_right _ _)
 show W _ _ _ _ ⟨32,[],[(0,.agg (Ze a0))]⟩ (Zw O n []) _
 refine zQ [1] ?_
 refine zQ [1,3] ?_
 refine Zd ?_
 refine zQd [3,8,9,10] [3,8,9,10] [false] ?_
 refine Zdn (E':=(⟨32,[],[(3,.row (n+1) ([]:List Zz).length),(8,(sL Zb a0.Kids)),(9,(vI (a0.Kids.length:Int))),(10,(vI 0))]⟩:Env)) (O':=(Zw O n [none,some (oR 84 4 Zq ([]:List Zz)),none])) (n':=(n+3)) ?_ ?_
 ·refine Fit2.trans (E':=(⟨32,[],[(3,nV),(8,(sL Zb a0.Kids)),(9,(vI (a0.Kids.length:Int))),(10,(vI 0))]⟩:Env)) (O':=(Zw O n [none])) (n':=(n+1)) (Fit2.of (Z6 hU rfl rfl ?_) (by omega)) ?_
  ·exact zSe
  refine Fit2.trans (Zcm 3 84 4 rfl (by omega)) ?_
  simp only [Jj,Ql,Ga,Vb,List.set_cons_zero,List.set_cons_succ,List.cons_append,List.nil_append,List.length_cons,List.length_nil,Nat.zero_add,Nat.reduceAdd,Nat.reduceLT,Nat.add_assoc]
  refine Fit2.trans (E':=(⟨32,[],[(3,.row (n+1) ([]:List Zz).length),(8,(sL Zb a0.Kids)),(9,(vI (a0.Kids.length:Int))),(10,(vI 0))]⟩:Env)) (O':=(Zw O n [none,some (oR 84 4 Zq ([]:List Zz))])) (n':=(n+2)) (Fit2.of (Z6 hU rfl rfl ?_) (by omega)) ?_
  ·exact zSe
  refine Kk (k:=2) (k':=3) hU [2,1] [0,1,0] rfl rfl rfl rfl ⟨rfl,rfl⟩ ?_
  exact zSe
 obtain ⟨z9,hz9,h⟩:=bC h
 refine Yi (E':=⟨32,[],[(3,.row (n+1) z9.length)]⟩) (O':=(Zw O n [none,some (oR 84 4 Zq z9),none])) (n0:=(n+3)) ?_ ?_
 ·refine Y2 hz9 (fun s0_=>⟨32,[],[(3,.row (n+1) s0_.2.length),(8,(sL Zb a0.Kids)),(9,(vI (a0.Kids.length:Int))),(10,(vI s0_.1))]⟩) (fun s0_=>(Zw O n [none,some (oR 84 4 Zq s0_.2),none])) (fun z9=>JX 0 n (⟨32,[],[(3,.row (n+1) z9.length)]⟩:Env) (Zw O n [none,some (oR 84 4 Zq z9),none]) (n+3)) ?_
  intro s0_ x0_ hs0_
  unfold Gw at hs0_
  try dsimp only
  refine zQ [3,8,9,10,11] ?_
  refine Zd ?_
  refine Zo (t:=(decide (s0_.1 < (a0.Kids.length:Int)))) rfl (fun c8 => ?_) (fun c8 => ?_)
  ·replace hs0_:=Zn c8 hs0_
   refine X9 [3,8,9,10] [false,true,false] ?_
   refine Zd ?_
   refine Z8 ?_
   refine Zd ?_
   obtain ⟨x2,hx2,ax2,bx2,cx2,hs0_⟩:=bE (f:=Zb) G7 (fun _=>rfl) (by decide) hs0_
   refine Zck [] ax2 bx2 cx2 ?_
   refine zDs [3,5,8,9,10] [false,true,false,true] ?_
   obtain ⟨y4,hy4,hs0_⟩:=bC hs0_
   refine zCd (Gf hy4) [3,5,6,8,9,10] [false,true,false,true] ?_
   obtain ⟨y5,hy5,hs0_⟩:=bC hs0_
   obtain ⟨y6,hy6,hs0_⟩:=bC hs0_
   obtain ⟨l7,pl7,ql7,el7,hs0_⟩:=bA (k:=1) rfl hs0_
   refine Znx Zs (by kernel_rfl) [.plain,.plain,.plain,.plain,.plain,.plain,.plain,.plain,.plain,.plain,.plain,.plain,.pass,.bar,.plain] (fun i=>i < (n+4)) [0,1,2,3,4,5,6,7,8,9,10,11,12,13,14] [.plain,.plain,.plain,.plain,.plain,.plain,.plain,.plain,.plain,.plain,.plain,.plain,.pass,.bar,.plain] [] (by kernel_rfl) rfl ?_
   refine zX3 pl7 ql7 el7 ?_
   refine zO ?_
   first | refine PCallA.of (fun _ _=>Gf hy5) ?_ | refine PCall.of (Gf hy5) ?_
   refine zX3 pl7 ql7 el7 ?_
   refine zO ?_
   first | refine PCallA.of (fun _ _=>Gf hy6) ?_ | refine PCall.of (Gf hy6) ?_
   refine zX3 pl7 ql7 el7 ?_
   refine zO ?_
   refine Vp ⟨32,[],[(3,.row (n+1) l7.length),(8,(sL Zb a0.Kids)),(9,(vI (a0.Kids.length:Int))),(10,(vI s0_.1))]⟩ (Zw O n [none,some (oR 84 4 Zq l7),none,none,none]) (Z6 hU rfl rfl ?_) ?_
   ·exact Znt pl7 ql7 el7
   refine zR ?_
   exact zEn hs0_
  replace hs0_:=Zm c8 hs0_
  exact zEx hs0_
 try simp only [Yx,Ya,↓reduceIte,Nat.reduceEqDiff]
 refine zD [3] [false,true,false] ?_
 refine zQ [2] ?_
 refine zW ?_
 have h:=Option.some.inj h;subst h
 refine Zh (.inr rfl) hU [.row (n+1) z9.length] (by omega) ?_
 simp only [push_cast,seval,↓reduceIte,Zc,Tryz.results101,hN0,hN]
def Zh0 (X8:(Za→Option Zf)):Prop:=∀ {a0:Za} {r:Zf} {O:Objs} {n:Nat},X8 a0=some r→GTo Tryz.prog 58 [.agg (Ze a0)] O n (.agg (Zg r)) O n
def Zdj (X0:(Za→Option (List Zl))):Prop:=∀ {a0:Za} {r:(List Zl)} {O:Objs} {n:Nat},X0 a0=some r→GTo Tryz.prog 102 [.agg (Ze a0)] O n ((sL Zp r)) O n
def Zen (Qc:(Za→Option (List Zt))):Prop:=∀ {a0:Za} {r:(List Zt)} {O:Objs} {n:Nat},Qc a0=some r→GTo Tryz.prog 103 [.agg (Ze a0)] O n ((sL Zx r)) O n
theorem Z28 {X8:(Za→Option Zf)} {X0:(Za→Option (List Zl))} {Qc:(Za→Option (List Zt))} (Ze7:Zh0 X8) (Zha:Zdj X0) (Zie:Zen Qc) {a0:Za} {r:Zf} {O:Objs} {n:Nat} (h:Zef X8 X0 Qc a0=some r):GTo Tryz.prog 58 [.agg (Ze a0)] O n (.agg (Zg r)) O n:=by
 unfold Zef at h
 refine Yf Zs Tryz.call58 Tryz.func58 rfl (Nat.le_of_ble_eq_true rfl) (Nat.le_refl _) fun hU => ?_
 have hN0:O n=none:=hU.fresh _ (Nat.le_refl _)
 have hN:∀ k,O (n+k)=none:=fun k=>hU.fresh _ (Nat.le_add_right _ _)
 show W _ _ _ _ ⟨47,[],[(0,.agg (Ze a0))]⟩ (Zw O n []) _
 refine zQ [1,2] ?_
 refine Zd ?_
 refine zQ [1,2,7] ?_
 refine Zo (t:=(a0.Kind == 0)) rfl (fun Vq => ?_) (fun Vq => ?_)
 ·replace h:=Zn Vq h
  refine Zd ?_
  refine zRd [2] [false,true] ?_
  refine zW ?_
  have h:=Option.some.inj h;subst h
  refine Zh (.inr rfl) hU [.agg [(vI 0),(vI 0),nV,nV,(vI 0),nV,nV,nV,nV,(vI 0),nV]] (by omega) ?_
  simp only [push_cast,seval,↓reduceIte,Zc,Tryz.results58,hN0,hN]
 replace h:=Zm Vq h
 refine X9 [1,2] [true,true] ?_
 refine Zd ?_
 obtain ⟨y2,hy2,h⟩:=bC h
 refine zCd (Gf hy2) [1,2,3] [true,true] ?_
 refine Zd ?_
 refine zRd [1,2,3,4] [true,true,true] ?_
 obtain ⟨z3,hz3,h⟩:=bC h
 refine Y0 (E':=⟨47,[],[(2,.ref (n+1) 0),(4,.ref (n+2) 0)]⟩) (O':=(Zw O n [none,some ⟨false,30,11,1,[(vI 0),(vI 0),nV,nV,(vI 0),nV,nV,nV,nV,(vI 0),nV]⟩,some ⟨false,30,11,1,[(vI z3.1),(vI z3.2.1),(sL (eI .u64) z3.2.2.1),(sL Zb z3.2.2.2.1),(vI z3.2.2.2.2.1),(sL (eI .u64) z3.2.2.2.2.2.1),(sL Zb z3.2.2.2.2.2.2.1),(sL Zq z3.2.2.2.2.2.2.2.1),(sL Zp z3.2.2.2.2.2.2.2.2.1),(vI z3.2.2.2.2.2.2.2.2.2.1),(sL Zx z3.2.2.2.2.2.2.2.2.2.2)]⟩])) (n0:=(n+3)) ?_ ?_
 ·refine zQ [1,2,3,4,16] ?_
  refine Z8 ?_
  refine zQ [1,2,3,4,16,17] ?_
  refine Zo (t:=((IntKind.i64.wrap (IntKind.u64.wrap (Qj .u64 y2 255))) == 1)) rfl (fun Qs => ?_) (fun Qs => ?_)
  ·replace hz3:=Zn Qs hz3
   obtain ⟨y4,hy4,hz3⟩:=bC hz3
   obtain ⟨y5,hy5,hz3⟩:=bC hz3
   refine Zhw Zs (by kernel_rfl) [false,false,false,false,false,true,false,true] [] (by kernel_rfl) ?_
   refine zS ?_
   refine PCall.of (Zc5 hy4) ?_
   refine zS ?_
   refine PCall.of (Zc5 hy5) ?_
   refine zS ?_
   exact zEn hz3
  replace hz3:=Zm Qs hz3
  refine zQ [1,2,3,4,16,25] ?_
  refine Zo (t:=((IntKind.i64.wrap (IntKind.u64.wrap (Qj .u64 y2 255))) == 2)) rfl (fun Vu => ?_) (fun Vu => ?_)
  ·replace hz3:=Zn Vu hz3
   obtain ⟨y6,hy6,hz3⟩:=bC hz3
   obtain ⟨y7,hy7,hz3⟩:=bC hz3
   obtain ⟨y8,hy8,hz3⟩:=bC hz3
   obtain ⟨y9,hy9,hz3⟩:=bC hz3
   refine Zhw Zs (by kernel_rfl) [false,false,false,false,false,false,false,true,false,true] [] (by kernel_rfl) ?_
   refine zS ?_
   refine PCall.of (Zc5 hy6) ?_
   refine zS ?_
   refine PCall.of (Zwg hy7) ?_
   refine zS ?_
   refine PCall.of (Zc5 hy8) ?_
   refine zS ?_
   refine PCall.of (Zha hy9) ?_
   refine zS ?_
   exact zEn hz3
  replace hz3:=Zm Vu hz3
  refine zQ [1,2,3,4,35] ?_
  refine Zo (t:=((IntKind.i64.wrap (IntKind.u64.wrap (Qj .u64 y2 255))) == 3)) rfl (fun c12 => ?_) (fun c12 => ?_)
  ·replace hz3:=Zn c12 hz3
   refine Zd ?_
   refine zRd [1,2,4] [true,true,true] ?_
   obtain ⟨y10,hy10,hz3⟩:=bC hz3
   obtain ⟨y11,hy11,hz3⟩:=bC hz3
   refine zC (Zc5 hy10) ?_
   refine zTs (Zie hy11) ?_
   exact zEn hz3
  replace hz3:=Zm c12 hz3
  refine zK ?_
  exact zEn hz3
 refine Zd ?_
 refine zRd [2] [false,true,false] ?_
 refine zW ?_
 have h:=Option.some.inj h;subst h
 refine Zh (.inr rfl) hU [.agg [(vI z3.1),(vI z3.2.1),(sL (eI .u64) z3.2.2.1),(sL Zb z3.2.2.2.1),(vI z3.2.2.2.2.1),(sL (eI .u64) z3.2.2.2.2.2.1),(sL Zb z3.2.2.2.2.2.2.1),(sL Zq z3.2.2.2.2.2.2.2.1),(sL Zp z3.2.2.2.2.2.2.2.2.1),(vI z3.2.2.2.2.2.2.2.2.2.1),(sL Zx z3.2.2.2.2.2.2.2.2.2.2)]] (by omega) ?_
 simp only [push_cast,seval,↓reduceIte,Zc,Tryz.results58,hN0,hN]
theorem Zwk {X8:(Za→Option Zf)} {X0:(Za→Option (List Zl))} {Qc:(Za→Option (List Zt))} (Ze7:Zh0 X8) (Zha:Zdj X0) (Zie:Zen Qc) {a0:Za} {r:(List Zl)} {O:Objs} {n:Nat} (h:Uy X8 X0 Qc a0=some r):GTo Tryz.prog 102 [.agg (Ze a0)] O n ((sL Zp r)) O n:=by
 unfold Uy at h
 refine Yf Zs Tryz.call102 Tryz.func102 rfl (Nat.le_of_ble_eq_true rfl) (Nat.le_refl _) fun hU => ?_
 have hN0:O n=none:=hU.fresh _ (Nat.le_refl _)
 have hN:∀ k,O (n+k)=none:=fun k=>hU.fresh _ (Nat.le_add_right _ _)
 show W _ _ _ _ ⟨26,[],[(0,.agg (Ze a0))]⟩ (Zw O n []) _
 refine zQ [1] ?_
 refine zQ [1,3] ?_
 refine Zd ?_
 refine zQd [3,7,8,9] [3,7,8,9] [false] ?_
 refine Zdn (E':=(⟨26,[],[(3,.row (n+1) ([]:List Zl).length),(7,(sL Zb a0.Kids)),(8,(vI (a0.Kids.length:Int))),(9,(vI 0))]⟩:Env)) (O':=(Zw O n [none,some (oR 86 12 Zp ([]:List Zl)),none])) (n':=(n+3)) ?_ ?_
 ·refine Fit2.trans (E':=(⟨26,[],[(3,nV),(7,(sL Zb a0.Kids)),(8,(vI (a0.Kids.length:Int))),(9,(vI 0))]⟩:Env)) (O':=(Zw O n [none])) (n':=(n+1)) (Fit2.of (Z6 hU rfl rfl ?_) (by omega)) ?_
  ·exact zSe
  refine Fit2.trans (Zcm 3 86 12 rfl (by omega)) ?_
  simp only [Jj,Ql,Ga,Vb,List.set_cons_zero,List.set_cons_succ,List.cons_append,List.nil_append,List.length_cons,List.length_nil,Nat.zero_add,Nat.reduceAdd,Nat.reduceLT,Nat.add_assoc]
  refine Fit2.trans (E':=(⟨26,[],[(3,.row (n+1) ([]:List Zl).length),(7,(sL Zb a0.Kids)),(8,(vI (a0.Kids.length:Int))),(9,(vI 0))]⟩:Env)) (O':=(Zw O n [none,some (oR 86 12 Zp ([]:List Zl))])) (n':=(n+2)) (Fit2.of (Z6 hU rfl rfl ?_) (by omega)) ?_
  ·exact zSe
  refine Kk (k:=2) (k':=3) hU [2,1] [0,1,0] rfl rfl rfl rfl ⟨rfl,rfl⟩ ?_
  exact zSe
 obtain ⟨z8,hz8,h⟩:=bC h
 refine Yi (E':=⟨26,[],[(3,.row (n+1) z8.length)]⟩) (O':=(Zw O n [none,some (oR 86 12 Zp z8),none])) (n0:=(n+3)) ?_ ?_
 ·refine Y2 hz8 (fun s0_=>⟨26,[],[(3,.row (n+1) s0_.2.length),(7,(sL Zb a0.Kids)),(8,(vI (a0.Kids.length:Int))),(9,(vI s0_.1))]⟩) (fun s0_=>(Zw O n [none,some (oR 86 12 Zp s0_.2),none])) (fun z8=>JX 0 n (⟨26,[],[(3,.row (n+1) z8.length)]⟩:Env) (Zw O n [none,some (oR 86 12 Zp z8),none]) (n+3)) ?_
  intro s0_ x0_ hs0_
  unfold Zaz at hs0_
  try dsimp only
  refine zQ [3,7,8,9,10] ?_
  refine Zd ?_
  refine Zo (t:=(decide (s0_.1 < (a0.Kids.length:Int)))) rfl (fun c7 => ?_) (fun c7 => ?_)
  ·replace hs0_:=Zn c7 hs0_
   refine X9 [3,7,8,9] [false,true,false] ?_
   refine Zd ?_
   refine Z8 ?_
   refine Zd ?_
   obtain ⟨x2,hx2,ax2,bx2,cx2,hs0_⟩:=bE (f:=Zb) G7 (fun _=>rfl) (by decide) hs0_
   refine Zck [] ax2 bx2 cx2 ?_
   refine zD [3,5,7,8,9] [false,true,false,true] ?_
   obtain ⟨y3,hy3,hs0_⟩:=bC hs0_
   obtain ⟨y4,hy4,hs0_⟩:=bC hs0_
   obtain ⟨y5,hy5,hs0_⟩:=bC hs0_
   obtain ⟨l6,pl6,ql6,el6,hs0_⟩:=bA (k:=1) rfl hs0_
   refine Znx Zs (by kernel_rfl) [.plain,.plain,.plain,.plain,.plain,.plain,.plain,.plain,.plain,.pass,.bar,.plain] (fun i=>i < (n+4)) [0,1,2,3,4,5,6,7,8,9,10,11] [.plain,.plain,.plain,.plain,.plain,.plain,.plain,.plain,.plain,.pass,.bar,.plain] [] (by kernel_rfl) rfl ?_
   refine zX3 pl6 ql6 el6 ?_
   refine zO ?_
   first | refine PCallA.of (fun _ _=>Gf hy3) ?_ | refine PCall.of (Gf hy3) ?_
   refine zX3 pl6 ql6 el6 ?_
   refine zO ?_
   first | refine PCallA.of (fun _ _=>Zc5 hy4) ?_ | refine PCall.of (Zc5 hy4) ?_
   refine zX3 pl6 ql6 el6 ?_
   refine zO ?_
   first | refine PCallA.of (fun _ _=>Ze7 hy5) ?_ | refine PCall.of (Ze7 hy5) ?_
   refine zX3 pl6 ql6 el6 ?_
   refine zO ?_
   refine Vp ⟨26,[],[(3,.row (n+1) l6.length),(7,(sL Zb a0.Kids)),(8,(vI (a0.Kids.length:Int))),(9,(vI s0_.1))]⟩ (Zw O n [none,some (oR 86 12 Zp l6),none,none,none]) (Z6 hU rfl rfl ?_) ?_
   ·exact Znt pl6 ql6 el6
   refine zR ?_
   exact zEn hs0_
  replace hs0_:=Zm c7 hs0_
  exact zEx hs0_
 try simp only [Yx,Ya,↓reduceIte,Nat.reduceEqDiff]
 refine zD [3] [false,true,false] ?_
 refine zQ [2] ?_
 refine zW ?_
 have h:=Option.some.inj h;subst h
 refine Zh (.inr rfl) hU [.row (n+1) z8.length] (by omega) ?_
 simp only [push_cast,seval,↓reduceIte,Zc,Tryz.results102,hN0,hN]
theorem Zx8 {X8:(Za→Option Zf)} {X0:(Za→Option (List Zl))} {Qc:(Za→Option (List Zt))} (Ze7:Zh0 X8) (Zha:Zdj X0) (Zie:Zen Qc) {a0:Za} {r:(List Zt)} {O:Objs} {n:Nat} (h:Zev X8 X0 Qc a0=some r):GTo Tryz.prog 103 [.agg (Ze a0)] O n ((sL Zx r)) O n:=by
 unfold Zev at h
 refine Yf Zs Tryz.call103 Tryz.func103 rfl (Nat.le_of_ble_eq_true rfl) (Nat.le_refl _) fun hU => ?_
 have hN0:O n=none:=hU.fresh _ (Nat.le_refl _)
 have hN:∀ k,O (n+k)=none:=fun k=>hU.fresh _ (Nat.le_add_right _ _)
 show W _ _ _ _ ⟨48,[],[(0,.agg (Ze a0))]⟩ (Zw O n []) _
 refine zQ [1] ?_
 refine zQ [1,3] ?_
 refine Zd ?_
 refine zQd [3,9,10,11] [3,9,10,11] [false] ?_
 refine Zdn (E':=(⟨48,[],[(3,.row (n+1) ([]:List Zt).length),(9,(sL Zb a0.Kids)),(10,(vI (a0.Kids.length:Int))),(11,(vI 0))]⟩:Env)) (O':=(Zw O n [none,some (oR 89 14 Zx ([]:List Zt)),none])) (n':=(n+3)) ?_ ?_
 ·refine Fit2.trans (E':=(⟨48,[],[(3,nV),(9,(sL Zb a0.Kids)),(10,(vI (a0.Kids.length:Int))),(11,(vI 0))]⟩:Env)) (O':=(Zw O n [none])) (n':=(n+1)) (Fit2.of (Z6 hU rfl rfl ?_) (by omega)) ?_
  ·exact zSe
  refine Fit2.trans (Zcm 3 89 14 rfl (by omega)) ?_
  simp only [Jj,Ql,Ga,Vb,List.set_cons_zero,List.set_cons_succ,List.cons_append,List.nil_append,List.length_cons,List.length_nil,Nat.zero_add,Nat.reduceAdd,Nat.reduceLT,Nat.add_assoc]
  refine Fit2.trans (E':=(⟨48,[],[(3,.row (n+1) ([]:List Zt).length),(9,(sL Zb a0.Kids)),(10,(vI (a0.Kids.length:Int))),(11,(vI 0))]⟩:Env)) (O':=(Zw O n [none,some (oR 89 14 Zx ([]:List Zt))])) (n':=(n+2)) (Fit2.of (Z6 hU rfl rfl ?_) (by omega)) ?_
  ·exact zSe
  refine Kk (k:=2) (k':=3) hU [2,1] [0,1,0] rfl rfl rfl rfl ⟨rfl,rfl⟩ ?_
  exact zSe
 obtain ⟨z16,hz16,h⟩:=bC h
 refine Yi (E':=⟨48,[],[(3,.row (n+1) z16.length)]⟩) (O':=(Zw O n [none,some (oR 89 14 Zx z16),none])) (n0:=(n+3)) ?_ ?_
 ·refine Y2 hz16 (fun s0_=>⟨48,[],[(3,.row (n+1) s0_.2.length),(9,(sL Zb a0.Kids)),(10,(vI (a0.Kids.length:Int))),(11,(vI s0_.1))]⟩) (fun s0_=>(Zw O n [none,some (oR 89 14 Zx s0_.2),none])) (fun z16=>JX 0 n (⟨48,[],[(3,.row (n+1) z16.length)]⟩:Env) (Zw O n [none,some (oR 89 14 Zx z16),none]) (n+3)) ?_
  intro s0_ x0_ hs0_
  unfold Zby at hs0_
  try dsimp only
  refine zQ [3,9,10,11,12] ?_
  refine Zd ?_
  refine Zo (t:=(decide (s0_.1 < (a0.Kids.length:Int)))) rfl (fun Vq => ?_) (fun Vq => ?_)
  ·replace hs0_:=Zn Vq hs0_
   refine X9 [3,9,10,11] [false,true,false] ?_
   refine Zd ?_
   refine Z8 ?_
   refine Zd ?_
   obtain ⟨x2,hx2,ax2,bx2,cx2,hs0_⟩:=bE (f:=Zb) G7 (fun _=>rfl) (by decide) hs0_
   refine Zck [] ax2 bx2 cx2 ?_
   refine zDs [3,5,9,10,11] [false,true,false,true] ?_
   obtain ⟨y4,hy4,hs0_⟩:=bC hs0_
   refine zCd (Gf hy4) [3,5,6,9,10,11] [false,true,false,true] ?_
   refine Zd ?_
   refine zRd [3,5,6,7,9,10,11] [false,true,false,true,true] ?_
   obtain ⟨z5,hz5,hs0_⟩:=bC hs0_
   refine Y0 (E':=⟨48,[],[(3,.row (n+1) s0_.2.length),(7,.ref (n+4) 0),(9,(sL Zb a0.Kids)),(10,(vI (a0.Kids.length:Int))),(11,(vI s0_.1))]⟩) (O':=(Zw O n [none,some (oR 89 14 Zx s0_.2),none,none,some ⟨false,89,14,1,[(vI z5.1),(vI z5.2.1),(sL Zb z5.2.2.1),(vI z5.2.2.2.1),(vI z5.2.2.2.2.1),(sL (eI .u64) z5.2.2.2.2.2.1),(sL Zb z5.2.2.2.2.2.2.1),(vI z5.2.2.2.2.2.2.2.1),(sL (eI .u64) z5.2.2.2.2.2.2.2.2.1),(sL Zb z5.2.2.2.2.2.2.2.2.2.1),(sL Zq z5.2.2.2.2.2.2.2.2.2.2.1),(sL Zp z5.2.2.2.2.2.2.2.2.2.2.2.1),(vI z5.2.2.2.2.2.2.2.2.2.2.2.2.1),(sL Zx z5.2.2.2.2.2.2.2.2.2.2.2.2.2)]⟩])) (n0:=(n+5)) ?_ ?_
   ·refine zQ [3,5,6,7,9,10,11,22] ?_
    refine Z8 ?_
    refine zQ [3,5,6,7,9,10,11,22,23] ?_
    refine Zo (t:=((IntKind.i64.wrap (IntKind.u64.wrap (Qj .u64 y4 255))) == 0)) rfl (fun Vu => ?_) (fun Vu => ?_)
    ·replace hz5:=Zn Vu hz5
     refine zR ?_
     exact zEn hz5
    replace hz5:=Zm Vu hz5
    obtain ⟨z6,hz6,hz5⟩:=bC hz5
    refine Y0 (E':=⟨48,[],[(3,.row (n+1) s0_.2.length),(5,.ref (n+3) 0),(7,.ref (n+4) 0),(9,(sL Zb a0.Kids)),(10,(vI (a0.Kids.length:Int))),(11,(vI s0_.1)),(22,(vI z6.1)),(29,(vB z6.2.1))]⟩) (O':=(Zw O n [none,some (oR 89 14 Zx s0_.2),none,some ⟨false,25,3,1,(Ze x2)⟩,some ⟨false,89,14,1,[(vI z6.2.2),(vI 0),nV,(vI 0),(vI 0),nV,nV,(vI 0),nV,nV,nV,nV,(vI 0),nV]⟩])) (n0:=(n+5)) ?_ ?_
    ·refine zQ [3,5,7,9,10,11,22,29] ?_
     refine Zo (t:=((IntKind.i64.wrap (IntKind.u64.wrap (Qj .u64 y4 255))) == 1)) rfl (fun c7 => ?_) (fun c7 => ?_)
     ·replace hz6:=Zn c7 hz6
      refine zK ?_
      exact zEn hz6
     replace hz6:=Zm c7 hz6
     refine zR ?_
     exact zEn hz6
    refine Zo (t:=z6.2.1) rfl (fun c12 => ?_) (fun c12 => ?_)
    ·replace hz5:=Zn c12 hz5
     obtain ⟨y8,hy8,hz5⟩:=bC hz5
     refine zC (Zc5 hy8) ?_
     exact zEn hz5
    replace hz5:=Zm c12 hz5
    refine zQ [3,5,7,9,10,11,36] ?_
    refine Zo (t:=(z6.1 == 3)) rfl (fun c11 => ?_) (fun c11 => ?_)
    ·replace hz5:=Zn c11 hz5
     obtain ⟨y9,hy9,hz5⟩:=bC hz5
     obtain ⟨y10,hy10,hz5⟩:=bC hz5
     refine zC (Zc5 hy9) ?_
     refine zTs (Ze7 hy10) ?_
     exact zEn hz5
    replace hz5:=Zm c11 hz5
    refine zK ?_
    exact zEn hz5
   obtain ⟨l14,pl14,ql14,el14,hs0_⟩:=bA (k:=1) rfl hs0_
   refine Zap [] pl14 ql14 el14 ?_
   refine Vp ⟨48,[],[(3,.row (n+1) l14.length),(9,(sL Zb a0.Kids)),(10,(vI (a0.Kids.length:Int))),(11,(vI s0_.1))]⟩ (Zw O n [none,some (oR 89 14 Zx l14),none,none,none,none]) (Z6 hU rfl rfl ?_) ?_
   ·exact Znt pl14 ql14 el14
   refine zR ?_
   exact zEn hs0_
  replace hs0_:=Zm Vq hs0_
  exact zEx hs0_
 try simp only [Yx,Ya,↓reduceIte,Nat.reduceEqDiff]
 refine zD [3] [false,true,false] ?_
 refine zQ [2] ?_
 refine zW ?_
 have h:=Option.some.inj h;subst h
 refine Zh (.inr rfl) hU [.row (n+1) z16.length] (by omega) ?_
 simp only [push_cast,seval,↓reduceIte,Zc,Tryz.results103,hN0,hN]
theorem Z0p:∀ k,(Zh0 ((Yg k).1))∧(Zdj ((Yg k).2.1))∧(Zen ((Yg k).2.2)):=fun k=>by
 induction k with
 | zero=>exact ⟨@fun a0 r O n h=>(nomatch (show (none:Option _)=some _ from h)),@fun a0 r O n h=>(nomatch (show (none:Option _)=some _ from h)),@fun a0 r O n h=>(nomatch (show (none:Option _)=some _ from h))⟩
 | succ k ih=>exact ⟨@fun a0 r O n h=>Z28 (ih.1) (ih.2.1) (ih.2.2)  h,@fun a0 r O n h=>Zwk (ih.1) (ih.2.1) (ih.2.2)  h,@fun a0 r O n h=>Zx8 (ih.1) (ih.2.1) (ih.2.2)  h⟩
theorem Z6g {a0:Za} {r:Zf} {O:Objs} {n:Nat} (h:Zlt a0=some r):GTo Tryz.prog 58 [.agg (Ze a0)] O n (.agg (Zg r)) O n:=by
 obtain ⟨k,hk⟩:=Vx h
 exact (Z0p k).1  hk
def Zlf (K3:(Za→Za→Option Bool)):Prop:=∀ {a0:Za} {a1:Za} {r:Bool} {O:Objs} {n:Nat},K3 a0 a1=some r→GTo Tryz.prog 60 [.agg (Ze a0),.agg (Ze a1)] O n ((vB r)) O n
def Xj (Zy:((List Za)→(List Za)→Option Bool)):Prop:=∀ {a0:(List Za)} {a1:(List Za)} {r:Bool} {O:Objs} {n:Nat},Zy a0 a1=some r→GTo Tryz.prog 107 [(sL Zb a0),(sL Zb a1),.fn 60 0 []] O n ((vB r)) O n
theorem Z29 {K3:(Za→Za→Option Bool)} {Zy:((List Za)→(List Za)→Option Bool)} (Zre:Zlf K3) (Xk:Xj Zy) {a0:Za} {a1:Za} {r:Bool} {O:Objs} {n:Nat} (h:Ziy K3 Zy a0 a1=some r):GTo Tryz.prog 60 [.agg (Ze a0),.agg (Ze a1)] O n ((vB r)) O n:=by
 unfold Ziy at h
 refine Yf Zs Tryz.call60 Tryz.func60 rfl (Nat.le_of_ble_eq_true rfl) (Nat.le_refl _) fun hU => ?_
 have hN0:O n=none:=hU.fresh _ (Nat.le_refl _)
 have hN:∀ k,O (n+k)=none:=fun k=>hU.fresh _ (Nat.le_add_right _ _)
 show W _ _ _ _ ⟨44,[],[(0,.agg (Ze a0)),(1,.agg (Ze a1))]⟩ (Zw O n []) _
 refine zQ [2,3] ?_
 refine Zd ?_
 refine zQ [2,3,9] ?_
 refine Zo (t:=(a0.Kind != a1.Kind)) rfl (fun c31 => ?_) (fun c31 => ?_)
 ·replace h:=Zn c31 h
  refine zQ [4] ?_
  refine zW ?_
  have h:=Option.some.inj h;subst h
  refine Zh (.inr rfl) hU [(vB false)] (by omega) ?_
  simp only [push_cast,seval,↓reduceIte,Zc,Tryz.results60,hN0,hN]
 replace h:=Zm c31 h
 refine X9 [2,3] [true,true] ?_
 refine Zd ?_
 refine zQ [2,3,11] ?_
 refine Z8 ?_
 refine zQ [2,3,11,12] ?_
 refine Zo (t:=(a0.Kind == 0)) rfl (fun c30 => ?_) (fun c30 => ?_)
 ·replace h:=Zn c30 h
  refine zQ [4] ?_
  refine zW ?_
  have h:=Option.some.inj h;subst h
  refine Zh (.inr rfl) hU [(vB true)] (by omega) ?_
  simp only [push_cast,seval,↓reduceIte,Zc,Tryz.results60,hN0,hN]
 replace h:=Zm c30 h
 refine zQ [2,3,14] ?_
 refine Zo (t:=(a0.Kind == 1)) rfl (fun c29 => ?_) (fun c29 => ?_)
 ·replace h:=Zn c29 h
  obtain ⟨z7,hz7,h⟩:=bC h
  refine Y0 (E':=⟨44,[],[(4,(vB z7))]⟩) (O':=(Zw O n [none,none])) (n0:=(n+2)) ?_ ?_
  ·obtain ⟨y14,hy14,hz7⟩:=bC hz7
   obtain ⟨y15,hy15,hz7⟩:=bC hz7
   obtain ⟨y16,hy16,hz7⟩:=bC hz7
   rcases Bool.eq_false_or_eq_true y16 with c20 | c20
   ·replace hz7:=Zn c20 hz7
    obtain ⟨y17,hy17,hz7⟩:=bC hz7
    obtain ⟨y18,hy18,hz7⟩:=bC hz7
    obtain ⟨y19,hy19,hz7⟩:=bC hz7
    refine Qf Zs (by kernel_rfl) [some true,some true,some true,some true,some true,some true,some true] (by kernel_rfl) ?_
    refine zX1 c20 ?_
    refine PCall.of (Zc6 hy14) ?_
    refine zX1 c20 ?_
    refine PCall.of (Zc6 hy15) ?_
    refine zX1 c20 ?_
    refine PCall.of (Jd hy16) ?_
    refine zX1 c20 ?_
    refine PCall.of (Zj6 hy17) ?_
    refine zX1 c20 ?_
    refine PCall.of (Zj6 hy18) ?_
    refine zX1 c20 ?_
    refine PCall.of (Xk hy19) ?_
    refine zX1 c20 ?_
    exact Qk hz7 c20
   replace hz7:=Zm c20 hz7
   refine Qf Zs (by kernel_rfl) [some false,some false,some false,some false,some false,some false,some false] (by kernel_rfl) ?_
   refine zX1 c20 ?_
   refine PCall.of (Zc6 hy14) ?_
   refine zX1 c20 ?_
   refine PCall.of (Zc6 hy15) ?_
   refine zX1 c20 ?_
   refine PCall.of (Jd hy16) ?_
   refine zX1 c20 ?_
   exact Qk hz7 c20
  refine zW ?_
  have h:=Option.some.inj h;subst h
  refine Zh (.inr rfl) hU [(vB z7)] (by omega) ?_
  simp only [push_cast,seval,↓reduceIte,Zc,Tryz.results60,hN0,hN]
 replace h:=Zm c29 h
 refine X9 [2,3] [true,true] ?_
 obtain ⟨z23,hz23,h⟩:=bC h
 refine Y0 (E':=⟨44,[],[(4,(vB z23))]⟩) (O':=(Zw O n [none,none])) (n0:=(n+2)) ?_ ?_
 ·obtain ⟨y26,hy26,hz23⟩:=bC hz23
  rcases Bool.eq_false_or_eq_true y26 with c28 | c28
  ·replace hz23:=Zn c28 hz23
   obtain ⟨y27,hy27,hz23⟩:=bC hz23
   refine Q7 [some true,some true,some true,some true,some true] c28 ?_
   refine (Jd hy26).then ?_
   refine zX1 c28 ?_
   refine (Xk hy27).then ?_
   refine zX1 c28 ?_
   exact Qk hz23 c28
  replace hz23:=Zm c28 hz23
  refine Q7 [some false,some false,some false,some false,some false] c28 ?_
  refine (Jd hy26).then ?_
  refine zX1 c28 ?_
  exact Qk hz23 c28
 refine zW ?_
 have h:=Option.some.inj h;subst h
 refine Zh (.inr rfl) hU [(vB z23)] (by omega) ?_
 simp only [push_cast,seval,↓reduceIte,Zc,Tryz.results60,hN0,hN]
theorem Ud {K3:(Za→Za→Option Bool)} {Zy:((List Za)→(List Za)→Option Bool)} (Zre:Zlf K3) (Xk:Xj Zy) {a0:(List Za)} {a1:(List Za)} {r:Bool} {O:Objs} {n:Nat} (h:Yt K3 Zy a0 a1=some r):GTo Tryz.prog 107 [(sL Zb a0),(sL Zb a1),.fn 60 0 []] O n ((vB r)) O n:=by
 unfold Yt at h
 refine Yf Zs Tryz.call107 Tryz.func107 rfl (Nat.le_of_ble_eq_true rfl) (Nat.le_refl _) fun hU => ?_
 have hN0:O n=none:=hU.fresh _ (Nat.le_refl _)
 have hN:∀ k,O (n+k)=none:=fun k=>hU.fresh _ (Nat.le_add_right _ _)
 show W _ _ _ _ ⟨32,[],[(0,(sL Zb a0)),(1,(sL Zb a1)),(2,.fn 60 0 [])]⟩ (Zw O n []) _
 refine zQ [0,1,2] ?_
 refine Zd ?_
 refine zQ [0,1,2,14] ?_
 refine Zo (t:=((a0.length:Int) != (a1.length:Int))) rfl (fun c10 => ?_) (fun c10 => ?_)
 ·replace h:=Zn c10 h
  refine zQ [6] ?_
  refine zW ?_
  have h:=Option.some.inj h;subst h
  refine Zh (.inr rfl) hU [(vB false)] (by omega) ?_
  simp only [push_cast,seval,↓reduceIte,Zc,Tryz.results107,hN0,hN]
 replace h:=Zm c10 h
 refine X9 [0,1,2] [] ?_
 refine Zd ?_
 refine zQd [1,2,15,16,17] [1,2,15,16,17] [] ?_
 obtain ⟨z9,hz9,h⟩:=bC h
 refine Zbe (J:=(Xx (fun z9=>JR n (⟨32,[],[(6,(vB false))]⟩:Env) (Zw O n []) n) (fun z9=>JX 0 n (⟨32,[],[]⟩:Env) (Zw O n []) n))) (z:=z9) ?_ fun hw => ?_
 ·refine Y2 hz9 (fun s0_=>⟨32,[],[(1,(sL Zb a1)),(2,.fn 60 0 []),(15,(sL Zb a0)),(16,(vI (a0.length:Int))),(17,(vI s0_))]⟩) (fun s0_=>(Zw O n [])) (Xx (fun z9=>JR n (⟨32,[],[(6,(vB false))]⟩:Env) (Zw O n []) n) (fun z9=>JX 0 n (⟨32,[],[]⟩:Env) (Zw O n []) n)) ?_
  intro s0_ x0_ hs0_
  unfold Yn at hs0_
  try dsimp only
  refine zQ [1,2,15,16,17,18] ?_
  refine Zd ?_
  refine Zo (t:=(decide (s0_ < (a0.length:Int)))) rfl (fun c8 => ?_) (fun c8 => ?_)
  ·replace hs0_:=Zn c8 hs0_
   refine X9 [1,2,15,16,17] [] ?_
   refine Zd ?_
   refine Z8 ?_
   refine Zd ?_
   obtain ⟨x2,hx2,ax2,bx2,cx2,hs0_⟩:=bE (f:=Zb) G7 (fun _=>rfl) (by decide) hs0_
   refine Zck [] ax2 bx2 cx2 ?_
   refine zDs [1,2,7,8,15,16,17] [true] ?_
   obtain ⟨x4,hx4,ax4,bx4,cx4,hs0_⟩:=bE (f:=Zb) G7 (fun _=>rfl) (by decide) hs0_
   refine Zck [] ax4 bx4 cx4 ?_
   refine zDs [1,2,8,9,15,16,17] [true,true] ?_
   obtain ⟨y6,hy6,hs0_⟩:=bC hs0_
   refine zCd (Zre hy6) [1,2,15,16,17,30] [false,false] ?_
   refine Zo (t:=(!y6)) rfl (fun c7 => ?_) (fun c7 => ?_)
   ·replace hs0_:=Zn c7 hs0_
    refine zQ [6] ?_
    refine zW ?_
    exact zEy hs0_
   replace hs0_:=Zm c7 hs0_
   refine X9 [1,2,15,16,17] [false,false] ?_
   refine zR ?_
   exact zEn hs0_
  replace hs0_:=Zm c8 hs0_
  exact zEx hs0_
 rcases z9 with z9 | z9
 ·dsimp only [Xx] at hw h
  refine Jt hw ?_
  try simp only [Yx,Ya,↓reduceIte,Nat.reduceEqDiff]
  have h:=Option.some.inj h;subst h
  refine Zh (.inr rfl) hU [(vB false)] (by omega) ?_
  simp only [push_cast,seval,↓reduceIte,Zc,Tryz.results107,hN0,hN]
 dsimp only [Xx] at hw h
 refine Yi hw ?_
 try simp only [Yx,Ya,↓reduceIte,Nat.reduceEqDiff]
 refine zD [] [] ?_
 refine zQ [6] ?_
 refine zW ?_
 have h:=Option.some.inj h;subst h
 refine Zh (.inr rfl) hU [(vB true)] (by omega) ?_
 simp only [push_cast,seval,↓reduceIte,Zc,Tryz.results107,hN0,hN]
theorem Z0q:∀ k,(Zlf ((Qu k).1))∧(Xj ((Qu k).2)):=fun k=>by
 induction k with
 | zero=>exact ⟨@fun a0 a1 r O n h=>(nomatch (show (none:Option _)=some _ from h)),@fun a0 a1 r O n h=>(nomatch (show (none:Option _)=some _ from h))⟩
 | succ k ih=>exact ⟨@fun a0 a1 r O n h=>Z29 (ih.1) (ih.2)  h,@fun a0 a1 r O n h=>Ud (ih.1) (ih.2)  h⟩
theorem Z6h {a0:Za} {a1:Za} {r:Bool} {O:Objs} {n:Nat} (h:Zqp a0 a1=some r):GTo Tryz.prog 60 [.agg (Ze a0),.agg (Ze a1)] O n ((vB r)) O n:=by
 obtain ⟨k,hk⟩:=Vx h
 exact (Z0q k).1  hk
theorem Zvw {a0:Za} {r:(Zf×Bool)} {O:Objs} {n:Nat} (h:Zc1 a0=some r):GTo Tryz.prog 19 [.agg (Ze a0)] O n (.tup [.agg (Zg r.1),(vB r.2)]) O n:=by
 unfold Zc1 at h
 refine Yf Zs Tryz.call19 Tryz.func19 rfl (Nat.le_of_ble_eq_true rfl) (Nat.le_refl _) fun hU => ?_
 have hN0:O n=none:=hU.fresh _ (Nat.le_refl _)
 have hN:∀ k,O (n+k)=none:=fun k=>hU.fresh _ (Nat.le_add_right _ _)
 show W _ _ _ _ ⟨19,[],[(0,.agg (Ze a0))]⟩ (Zw O n []) _
 refine zQ [1,2] ?_
 refine Zd ?_
 obtain ⟨y2,hy2,h⟩:=bC h
 refine zCd (Z6g hy2) [1,2,4] [true,true,true] ?_
 refine Zd ?_
 obtain ⟨z6,hz6,h⟩:=bC h
 refine Y0 (E':=⟨19,[],[(2,.ref (n+1) 0),(4,.ref (n+2) 0),(16,(vB z6))]⟩) (O':=(Zw O n [none,some ⟨false,30,11,1,[(vI 0),(vI 0),nV,nV,(vI 0),nV,nV,nV,nV,(vI 0),nV]⟩,some ⟨false,30,11,1,(Zg y2)⟩])) (n0:=(n+3)) ?_ ?_
 ·obtain ⟨y10,hy10,hz6⟩:=bC hz6
  rcases Bool.eq_false_or_eq_true y10 with Vu | Vu
  ·replace hz6:=Zn Vu hz6
   obtain ⟨y11,hy11,hz6⟩:=bC hz6
   obtain ⟨y12,hy12,hz6⟩:=bC hz6
   refine Qf Zs (by kernel_rfl) [some true,some true,some true,some true,some true] (by kernel_rfl) ?_
   refine zX1 Vu ?_
   refine PCall.of (Zoh hy10) ?_
   refine zX1 Vu ?_
   refine PCall.of (Zok hy11) ?_
   refine zX1 Vu ?_
   refine PCall.of (Z6h hy12) ?_
   refine zX1 Vu ?_
   exact Qk hz6 Vu
  replace hz6:=Zm Vu hz6
  refine Qf Zs (by kernel_rfl) [some false,some false,some false,some false,some false] (by kernel_rfl) ?_
  refine zX1 Vu ?_
  refine PCall.of (Zoh hy10) ?_
  refine zX1 Vu ?_
  exact Qk hz6 Vu
 refine Zo (t:=z6) rfl (fun Qs => ?_) (fun Qs => ?_)
 ·replace h:=Zn Qs h
  refine Zd ?_
  refine zRd [2,3] [false,true,false] ?_
  refine zW ?_
  have h:=Option.some.inj h;subst h
  refine Zh (.inr rfl) hU [.agg [(vI 0),(vI 0),nV,nV,(vI 0),nV,nV,nV,nV,(vI 0),nV],(vB false)] (by omega) ?_
  simp only [push_cast,seval,↓reduceIte,Zc,Tryz.results19,hN0,hN]
 replace h:=Zm Qs h
 refine X9 [2,4] [false,true,true] ?_
 refine Zd ?_
 refine zRd [2,3] [false,true,false] ?_
 refine zW ?_
 have h:=Option.some.inj h;subst h
 refine Zh (.inr rfl) hU [.agg (Zg y2),(vB true)] (by omega) ?_
 simp only [push_cast,seval,↓reduceIte,Zc,Tryz.results19,hN0,hN]
theorem Z1t {a0:(List Int)} {r:(Zf×Int)} {O:Objs} {n:Nat} (h:Zf7 a0=some r):GTo Tryz.prog 31 [(sL (eI .u64) a0)] O n (.tup [.agg (Zg r.1),(vI r.2)]) O n:=by
 unfold Zf7 at h
 refine Yf Zs Tryz.call31 Tryz.func31 rfl (Nat.le_of_ble_eq_true rfl) (Nat.le_refl _) fun hU => ?_
 have hN0:O n=none:=hU.fresh _ (Nat.le_refl _)
 have hN:∀ k,O (n+k)=none:=fun k=>hU.fresh _ (Nat.le_add_right _ _)
 show W _ _ _ _ ⟨27,[],[(0,(sL (eI .u64) a0))]⟩ (Zw O n []) _
 refine zQ [0,2] ?_
 refine Zd ?_
 obtain ⟨y3,hy3,h⟩:=bC h
 obtain ⟨y4,hy4,h⟩:=bC h
 refine zC (Zrd hy3) ?_
 refine zTs (Z1r hy4) ?_
 refine zDs [2,4,5] [true,true] ?_
 refine zQ [2,4,5,15] ?_
 refine Zo (t:=(y4.2 != 0)) rfl (fun c8 => ?_) (fun c8 => ?_)
 ·replace h:=Zn c8 h
  refine Zd ?_
  refine zRd [2,3] [true,false] ?_
  refine zW ?_
  have h:=Option.some.inj h;subst h
  refine Zh (.inr rfl) hU [.agg [(vI 0),(vI 0),nV,nV,(vI 0),nV,nV,nV,nV,(vI 0),nV],(vI y4.2)] (by omega) ?_
  simp only [push_cast,seval,↓reduceIte,Zc,Tryz.results31,hN0,hN]
 replace h:=Zm c8 h
 refine X9 [2,4] [true,true] ?_
 refine Zd ?_
 obtain ⟨y6,hy6,h⟩:=bC h
 refine zCd (Zvw hy6) [2,6,7] [true,false,true] ?_
 refine Zd ?_
 refine zQ [2,6,24] ?_
 refine Zo (t:=(!y6.2)) rfl (fun c7 => ?_) (fun c7 => ?_)
 ·replace h:=Zn c7 h
  refine Zd ?_
  refine zRd [2,3] [true,false,false] ?_
  refine zW ?_
  have h:=Option.some.inj h;subst h
  refine Zh (.inr rfl) hU [.agg [(vI 0),(vI 0),nV,nV,(vI 0),nV,nV,nV,nV,(vI 0),nV],(vI 12)] (by omega) ?_
  simp only [push_cast,seval,↓reduceIte,Zc,Tryz.results31,hN0,hN]
 replace h:=Zm c7 h
 refine X9 [2,6] [true,false,true] ?_
 refine Zd ?_
 refine zRd [2,3] [true,false,false] ?_
 refine zW ?_
 have h:=Option.some.inj h;subst h
 refine Zh (.inr rfl) hU [.agg (Zg y6.1),(vI 0)] (by omega) ?_
 simp only [push_cast,seval,↓reduceIte,Zc,Tryz.results31,hN0,hN]
end Go.Proofs.YtmlcnhambfkjaaaGreat
