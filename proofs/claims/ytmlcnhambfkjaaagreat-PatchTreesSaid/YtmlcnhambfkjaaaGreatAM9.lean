/- Part AM9 of this seat's mirrors: functions of the seat's program, and the plain functions that they are; each theorem bears its own conditions. -/
import Derived.Test.YtmlcnhambfkjaaaGreatAE
import Derived.Test.YtmlcnhambfkjaaaGreatAM8
namespace Go.Proofs.YtmlcnhambfkjaaaGreat
open Go.RowKit
set_option linter.unusedVariables false
set_option linter.unusedSimpArgs false
set_option maxRecDepth 100000
set_option maxHeartbeats 4000000
attribute [local push_cast] vI vB nV sL oR Zg Kz Xm Yw Ze Uz Kf Qp Zu Zxi Zxh Zyk Zyj Yx Ya Zr5 Zmf Zme onW Q8 Zih Zg4 Zxn Zv3 Zpw Zp1 Zpv Zp0 Zta Zs6 Zpz Zs9 Zs8 Zs7 Zpx Zs4 Znh evS wok J7 Op.operands Call.operands gop onK onP atK List.all_cons List.all_nil Bool.and_true Bool.true_and Bool.and_self Value.oneCell' List.take_zero List.take_succ_cons List.take_nil List.drop_zero List.drop_succ_cons List.drop_nil List.append_nil Nat.add_zero Nat.zero_add Zcg Xa ev K4 Zxf Zw7 Zw6 Zxc Zxa Zxb Zw8 Zw9 Zw5 Z0j Z1o Z59 Zoe Zhh Zn2 Zh2 Zo5 Zld Zke Zkj Zl9 Zl5 Zkh Zl8 Zl7 Zl6 Zkg Zl3 Zkf Zki Zi2 Zl4 Zrl Zmg Zeh Zn3 Zei Zqd Zod Z2o bLo bHi bMx Zhi Zqc Z7m Zoc Zq7 Zka Zcv Z1c Z7q Zn0 Zkn Z7t Zhg Z9a Zsb Zsf Zsa Zse Zxu Zxq Zxo Zo8 Zsc Zxt Zxs Zxr Zsd Zxp Zqg Zxj Zsz Zm5 Zm4 pop TK.isAgg Zyc Zyg Zyb Zyf Zsu Z3i Z3e Zye Z3h Z3g Z3f Zyd Z3d G.under G.unders List.getD_cons_zero List.getD_cons_succ List.set_cons_zero List.set_cons_succ List.map_cons List.map_nil List.toList_toArray Array.toList_append Option.toArray_none Option.toArray_some Array.toList_map Option.map_some Option.map_none Option.bind_some Option.bind_none List.getElem?_cons_zero List.getElem?_cons_succ List.getElem?_nil List.nil_append List.cons_append List.replicate_succ List.replicate_zero List.length_cons List.length_nil and_true true_and and_false false_and Bool.true_eq_false Bool.false_eq_true forall_const false_implies implies_true IntKind.bits if_true if_false ite_true ite_false eq_self true_implies false_or or_false or_true true_or not_true_eq_false not_false_eq_true decide_true decide_false decide_eq_true_eq decide_eq_false_iff_not beq_iff_eq bne_iff_ne ne_eq Bool.not_eq_true Bool.not_eq_false beq_eq_false_iff_ne bne_eq_false_iff_eq beq_self_eq_true bne_self_eq_false Option.some.injEq exists_eq_left' exists_eq_left ge_iff_le gt_iff_lt decide_not Bool.not_true Bool.not_false imp_self Z2p cond_true cond_false Yd9 Yd8 Bool.not_not Bool.and_false Bool.false_and Bool.or_true Bool.true_or Bool.or_false Bool.false_or Zfm Zlq Ga Vb Jj Ql Option.join_some Nat.add_assoc Int.toNat_natCast eI eB eS eL U1 Zlx Zkp Zxm Zxk Zxl Z9s Ybv Zlz Zk1 Zyr Zyp Zyq Z6l Zr4 Z2i Zs2 Z2h Zgw Z0h List.length_append G.agg.injEq G.row.injEq G.ref.injEq G.val.injEq G.sl.injEq G.tup.injEq Value.int.injEq Value.bool.injEq Value.string.injEq List.cons.injEq exists_and_left exists_const List.flatten_cons List.flatten_nil Int.le_refl Nat.le_refl Zgp J0 Zbq Bool.not_eq_true' Bool.not_eq_false' Zz5 Zno Z52 Z56 Z51 Z55 Ya6 Ya1 List.size_toArray Zyv Zyw G.ren G.rens Z1y Zlh Zyy Zw2 Zw3 Zs5 Z57 Zhb G.fn.injEq Zp5 Zu2 Zz3 Ya2 Zu1 Z54 Ya5 Ya4 Ya3 Z53 Z2x Z9i Option.join_none Xw Zae undef Zq8 Arr.len Arr.put_eq Zly Zpm Zm0 Zk0 Zyo Zym Zyn onB Z9r Z1a Zs3 Zo0 Zrs Zrt Zru Zrv Zrw Zrx Zpc Zpq Zpo Zm3 Zk2 Zpp Zsy Zsx Zsw Zsv Ybu Ydn Z6k Z3k Uf Z6c Zxy Zpr Zm2 Z8a Zy1 Zob Zq6 Zjq Zps Zry Zrz Zr0 Zr1 Zos Zot Zou Zov Zow Zox Zoy Zkk prT Zh4 Yfy Z5p Z5f Z5q Yfz Z5r Z6p Z5s Yf0 Z5t Yf1 Z5u Yf2 Z5v Yf3 Z5w Z95 Zy5 Z96 Zy6 Z97 Zy7 Z98 Zy8 Z99 Zy9 Yaa Zza Yab Zzb Yac Zzc Yad Zzd Yae Zze Yaf Zzf Zv0 Zjs Z44 Zn9 Yag Zzg G7 Zzh Yah Zzi Yai Zzj Yaj Zzk Yak Zzl Zrk Zzm Yal Zzn Yam Zzo Yan Zzp Yao Zzq Yap Zvi Yaq Zzr Yar Zzs Zci Zzt Yas Zzu Yat Zzv Ztb Zzw Yau Zzx Zp2 Zzy Yav Zzz Zk9 Zz0 Z3z Ztc Z30 Ztd Z31 Zte Z32 Ztf Z33 Ztg Z34 Zth Z35 Zti Z36 Ztj Z37 Ztk Z38 Ztl Z39 Ztm Z4a Ztn Z4b Zto Z4c Ztp Z4d Ztq Z4e Ztr Z4f Zts Z4g Ztt Z4h Ztu Z4i Ztv Z4j Ztw Z4k Ztx Z4l Zty Zwq Zp3 Z4m Ztz Z4n Zt0 Z4o Zt1 Z4p Zt2 Z4q Zt3 Z4r Zt4 Z4s Zt5 Z4t Zt6 Z4u Zt7 Z4v Zt8 Z4w Zt9 Z4x Zua Z4y Zub Z4z Zuc Z40 Zud Z41 Zue Z42 Zuf Z43 Zug Z45 Zuh Z46 Zui Z47 Zuj Z48 Zuk Z49 Zul Z5a Zum Z5b Zun Z5c Zuo Z5d Zup Z5e Zuq Z5g Zur Z5h Zus Z5i Zut Z5j Zuu Z5k Zuv Z5l Zuw Z5m Zux Z5n Zuy Zb Y4 Znq Znn Zmj Zmy Zns Zlb Zk6 Zk4 Znk Zd9 Zd8 Zdw Zd3 Zea Zc9 Zc8 Zc7 Zd7 Zq Qy Zp Zx Xh Y6 Xv Zac Zab Gp Gz Zad Uu Us Ur G8 Zba Za8 Za0 Za4 Zbc G9 G4 G0 Za6 Zgr Zgq Zf4 Zgg Zgu Zff Zfd Zfc Zgn Zp7 Zp6 Zo6 Zpk Zp8 Znl Znb Zna Zp4 Znp Znm Zmi Zmx Znr Zla Zk5 Zk3 Znj Zkm Zez Zhu Zht Zhj Zhq Zhv Zgo Zgj Zgi Zhs Zv Zbb Za9 Za1 Za5 Zbd Zaa G5 G3 Za7 Zf0 Zkl Zf1 Yl Uw Uv Uo Uq Ux V6 V5 V4 Ut Yd Vl Vk Vd Vh Vm Ky Kw Kv Vj
theorem Zeo {a0:(List Int)} {a1:(List Int)} {r:Bool} {O:Objs} {n:Nat} (h:Kg a0 a1=some r):GTo Tryz.prog 30 [(sL (eI .u64) a0),(sL (eI .u64) a1)] O n ((vB r)) O n:=by
 unfold Kg at h
 refine Yf Zs Tryz.call30 Tryz.func30 rfl (Nat.le_of_ble_eq_true rfl) (Nat.le_refl _) fun hU => ?_
 have hN0:O n=none:=hU.fresh _ (Nat.le_refl _)
 have hN:∀ k,O (n+k)=none:=fun k=>hU.fresh _ (Nat.le_add_right _ _)
 show W _ _ _ _ ⟨26,[],[(0,(sL (eI .u64) a0)),(1,(sL (eI .u64) a1))]⟩ (Zw O n []) _
 refine zQ [0,1] ?_
 refine Zd ?_
 refine zQ [0,1,10] ?_
 refine Zo (t:=((a0.length:Int) != (a1.length:Int))) rfl (fun c8 => ?_) (fun c8 => ?_)
 ·replace h:=Zn c8 h
  refine zQ [4] ?_
  refine zW ?_
  have h:=Option.some.inj h;subst h
  refine Zh (.inr rfl) hU [(vB false)] (by omega) ?_
  simp only [push_cast,seval,↓reduceIte,Zc,Tryz.results30,hN0,hN]
 replace h:=Zm c8 h
 refine X9 [0,1] [] ?_
 refine Zd ?_
 refine zQd [0,1,5] [0,1,5] [] ?_
 obtain ⟨z7,hz7,h⟩:=bC h
 refine Zbe (J:=(Xx (fun z7=>JR n (⟨26,[],[(4,(vB false))]⟩:Env) (Zw O n []) n) (fun z7=>JX 0 n (⟨26,[],[]⟩:Env) (Zw O n []) n))) (z:=z7) ?_ fun hw => ?_
 ·refine Y2 hz7 (fun s0_=>⟨26,[],[(0,(sL (eI .u64) a0)),(1,(sL (eI .u64) a1)),(5,(vI s0_))]⟩) (fun s0_=>(Zw O n [])) (Xx (fun z7=>JR n (⟨26,[],[(4,(vB false))]⟩:Env) (Zw O n []) n) (fun z7=>JX 0 n (⟨26,[],[]⟩:Env) (Zw O n []) n)) ?_
  intro s0_ x0_ hs0_
  unfold Gr at hs0_
  try dsimp only
  refine Zd ?_
  refine zQ [0,1,5,14] ?_
  refine Zo (t:=(decide (s0_ < (a0.length:Int)))) rfl (fun c6 => ?_) (fun c6 => ?_)
  ·replace hs0_:=Zn c6 hs0_
   refine X9 [0,1,5] [] ?_
   refine Zd ?_
   refine Z8 ?_
   obtain ⟨x3,hx3,ax3,bx3,cx3,hs0_⟩:=bE (f:=(eI .u64)) Zci (fun _=>rfl) (by decide) hs0_
   obtain ⟨x4,hx4,ax4,bx4,cx4,hs0_⟩:=bE (f:=(eI .u64)) Zci (fun _=>rfl) (by decide) hs0_
   refine Zis [0,1,5,25] (Qf Zs (by kernel_rfl) [] (by kernel_rfl) ?_)
   refine zF6 ax3 bx3 cx3 ax4 bx4 cx4 ?_
   refine Zo (t:=(x3 != x4)) rfl (fun c5 => ?_) (fun c5 => ?_)
   ·replace hs0_:=Zn c5 hs0_
    refine zQ [4] ?_
    refine zW ?_
    exact zEy hs0_
   replace hs0_:=Zm c5 hs0_
   refine X9 [0,1,5] [] ?_
   refine zR ?_
   exact zEn hs0_
  replace hs0_:=Zm c6 hs0_
  exact zEx hs0_
 rcases z7 with z7 | z7
 ·dsimp only [Xx] at hw h
  refine Jt hw ?_
  try simp only [Yx,Ya,↓reduceIte,Nat.reduceEqDiff]
  have h:=Option.some.inj h;subst h
  refine Zh (.inr rfl) hU [(vB false)] (by omega) ?_
  simp only [push_cast,seval,↓reduceIte,Zc,Tryz.results30,hN0,hN]
 dsimp only [Xx] at hw h
 refine Yi hw ?_
 try simp only [Yx,Ya,↓reduceIte,Nat.reduceEqDiff]
 refine zD [] [] ?_
 refine zQ [4] ?_
 refine zW ?_
 have h:=Option.some.inj h;subst h
 refine Zh (.inr rfl) hU [(vB true)] (by omega) ?_
 simp only [push_cast,seval,↓reduceIte,Zc,Tryz.results30,hN0,hN]
theorem Zg9  {r:Bool} {O:Objs} {n:Nat} (h:K7=some r):GTo Tryz.prog 15 [] O n ((vB r)) O n:=by
 unfold K7 at h
 refine Yf Zs Tryz.call15 Tryz.func15 rfl (Nat.le_of_ble_eq_true rfl) (Nat.le_refl _) fun hU => ?_
 have hN0:O n=none:=hU.fresh _ (Nat.le_refl _)
 have hN:∀ k,O (n+k)=none:=fun k=>hU.fresh _ (Nat.le_add_right _ _)
 show W _ _ _ _ ⟨45,[],[]⟩ (Zw O n []) _
 refine zQ [] ?_
 refine Zd ?_
 obtain ⟨y2,hy2,h⟩:=bC h
 refine zR ?_
 refine GCalls.argsW ?_ ((Zrc hy2).then ?_)
 ·exact zSe
 refine zS ?_
 refine zDs [1,2] [] ?_
 obtain ⟨y4,hy4,h⟩:=bC h
 refine zR ?_
 refine GCalls.argsW ?_ ((Zrc hy4).then ?_)
 ·exact zSe
 refine zS ?_
 refine zDs [1,2,3,4] [] ?_
 obtain ⟨y6,hy6,h⟩:=bC h
 refine zR ?_
 refine GCalls.dropL (l':=[none]) hU rfl ?_ ((Z1t hy6).then ?_)
 ·exact zSe
 refine zS ?_
 refine zD [1,2,3,4,5,6] [false,true] ?_
 obtain ⟨z9,hz9,h⟩:=bC h
 refine Y0 (E':=⟨45,[],[(0,(vB z9))]⟩) (O':=(Zw O n [none,none,none,none])) (n0:=(n+4)) ?_ ?_
 ·rcases Bool.eq_false_or_eq_true y2.2 with Qs | Qs
  ·replace hz9:=Zn Qs hz9
   rcases Bool.eq_false_or_eq_true y4.2 with Vq | Vq
   ·replace hz9:=Zn Vq hz9
    try rw [Vq] at Qs
    obtain ⟨y12,hy12,hz9⟩:=bC hz9
    rcases Bool.eq_false_or_eq_true y12 with c16 | c16
    ·replace hz9:=Zn c16 hz9
     try rw [c16] at Qs
     try rw [c16] at Vq
     obtain ⟨y13,hy13,hz9⟩:=bC hz9
     refine Zap [none,some true,some true,some true,some true,some true,some true,none,none,none,none,none] Qs Vq c16 ?_
     refine zG ?_
     refine GCalls.lend (Zeo hy12) rfl ?_ ?_
     ·exact Znt Qs Vq c16
     refine zX3 Qs Vq c16 ?_
     refine zG ?_
     refine GCalls.lend (Zeo hy13) rfl ?_ ?_
     ·exact Znt Qs Vq c16
     refine zX3 Qs Vq c16 ?_
     refine zG ?_
     exact Zfh hz9 Qs Vq c16
    replace hz9:=Zm c16 hz9
    try rw [c16] at Qs
    try rw [c16] at Vq
    refine Zap [none,some true,some true,some true,some false,some false,some false,some false,some false,some false,some false,some false] Qs Vq c16 ?_
    refine zG ?_
    refine GCalls.lend (Zeo hy12) rfl ?_ ?_
    ·exact Znt Qs Vq c16
    refine zX3 Qs Vq c16 ?_
    refine zG ?_
    exact Zfh hz9 Qs Vq c16
   replace hz9:=Zm Vq hz9
   try rw [Vq] at Qs
   refine X2 [none,some false,some false,some false,some false,some false,some false,some false,some false,some false,some false,some false] Qs Vq ?_
   refine zG ?_
   exact Zcj hz9 Qs Vq
  replace hz9:=Zm Qs hz9
  refine Q7 [none,some false,some false,some false,some false,some false,some false,some false,some false,some false,some false,some false] Qs ?_
  refine zG ?_
  exact Qk hz9 Qs
 refine zW ?_
 have h:=Option.some.inj h;subst h
 refine Zh (.inr rfl) hU [(vB z9)] (by omega) ?_
 simp only [push_cast,seval,↓reduceIte,Zc,Tryz.results15,hN0,hN]
theorem Zjl {a0:(List Za)} {r:Za} {O:Objs} {n:Nat} (h:U5 a0=some r):GTo Tryz.prog 57 [(sL Zb a0)] O n (.agg (Ze r)) O n:=by
 unfold U5 at h
 refine Yf Zs Tryz.call57 Tryz.func57 rfl (Nat.le_of_ble_eq_true rfl) (Nat.le_refl _) fun hU => ?_
 have hN0:O n=none:=hU.fresh _ (Nat.le_refl _)
 have hN:∀ k,O (n+k)=none:=fun k=>hU.fresh _ (Nat.le_add_right _ _)
 show W _ _ _ _ ⟨9,[],[(0,(sL Zb a0))]⟩ (Zw O n []) _
 refine zQ [0,2] ?_
 refine Zd ?_
 refine zQ [0,2,5] ?_
 refine Zo (t:=((a0.length:Int) == 0)) rfl (fun c1 => ?_) (fun c1 => ?_)
 ·replace h:=Zn c1 h
  refine Zd ?_
  refine zRd [2] [true] ?_
  refine zW ?_
  have h:=Option.some.inj h;subst h
  refine Zh (.inr rfl) hU [.agg [(vI 0),nV,nV]] (by omega) ?_
  simp only [push_cast,seval,↓reduceIte,Zc,Tryz.results57,hN0,hN]
 replace h:=Zm c1 h
 refine X9 [0,2] [true] ?_
 refine Zd ?_
 refine zRd [2] [true] ?_
 refine zW ?_
 have h:=Option.some.inj h;subst h
 refine Zh (.inr rfl) hU [.agg [(vI 9),nV,(sL Zb a0)]] (by omega) ?_
 simp only [push_cast,seval,↓reduceIte,Zc,Tryz.results57,hN0,hN]
def Zky (Qr:(Zf→Option Za)):Prop:=∀ {a0:Zf} {r:Za} {O:Objs} {n:Nat},Qr a0=some r→GTo Tryz.prog 18 [.agg (Zg a0)] O n (.agg (Ze r)) O n
theorem Zvs {Qr:(Zf→Option Za)} (Zgf:Zky Qr) {a0:Zf} {r:Za} {O:Objs} {n:Nat} (h:Zct Qr a0=some r):GTo Tryz.prog 18 [.agg (Zg a0)] O n (.agg (Ze r)) O n:=by
 unfold Zct at h
 refine Yf Zs Tryz.call18 Tryz.func18 rfl (Nat.le_of_ble_eq_true rfl) (Nat.le_refl _) fun hU => ?_
 have hN0:O n=none:=hU.fresh _ (Nat.le_refl _)
 have hN:∀ k,O (n+k)=none:=fun k=>hU.fresh _ (Nat.le_add_right _ _)
 show W _ _ _ _ ⟨146,[],[(0,.agg (Zg a0))]⟩ (Zw O n []) _
 refine zQ [1,2] ?_
 refine Zd ?_
 refine zR ?_
 refine Vp ⟨146,[],[(1,.ref n 0),(2,.ref (n+1) 0),(3,.ref (n+3) 0)]⟩ (Zw O n [some ⟨false,30,11,1,(Zg a0)⟩,some ⟨false,25,3,1,[(vI 0),nV,nV]⟩,some (oR 77 1 (eI .u64) ([(IntKind.u64.wrap (IntKind.i64.wrap (a0.Kind+(IntKind.i64.wrap (256 * a0.List_)))))]:List Int)),some ⟨false,25,3,1,[(vI 1),.row (n+2) ([(IntKind.u64.wrap (IntKind.i64.wrap (a0.Kind+(IntKind.i64.wrap (256 * a0.List_)))))]:List Int).length,nV]⟩]) (Z6 hU rfl rfl ?_) ?_
 ·exact zSe
 refine zQ [1,2,3,4,5] ?_
 obtain ⟨z1,hz1,h⟩:=bC h
 refine Yhl (J:=(Xx (fun z1=>JN n (⟨146,[],[(2,.ref (n+1) 0),(3,.ref (n+3) 0)]⟩:Env) (Zw O n [none,some ⟨false,25,3,1,[(vI 0),nV,nV]⟩,some (oR 77 1 (eI .u64) z1.1),some ⟨false,25,3,1,[(vI 1),.row (n+2) z1.1.length,.row (n+9) z1.2.length]⟩,none,none,none,none,none,some (oR 25 3 Zb z1.2),none]) (n+11)) (fun z1=>JR n (⟨146,[],[(2,.ref (n+1) 0)]⟩:Env) (Zw O n [none,some ⟨false,25,3,1,[(vI 0),nV,nV]⟩,none,none]) (n+4)))) (z:=z1) ?_ fun hw => ?_
 ·refine zQ [1,2,3,4,5,22] ?_
  refine Z8 ?_
  refine zQ [1,2,3,4,5,22,70] ?_
  refine Zo (t:=(a0.Kind == 0)) rfl (fun c276 => ?_) (fun c276 => ?_)
  ·replace hz1:=Zn c276 hz1
   refine Zd ?_
   refine zRd [2] [false,true,false,false] ?_
   refine zW ?_
   exact zEn hz1
  replace hz1:=Zm c276 hz1
  refine zQ [1,2,3,4,5,22,73] ?_
  refine Zo (t:=(a0.Kind == 1)) rfl (fun c275 => ?_) (fun c275 => ?_)
  ·replace hz1:=Zn c275 hz1
   refine zR ?_
   have hz1:=Option.some.inj hz1;subst hz1
   refine And.intro rfl ?_
   refine Fit2.trans (E':=(⟨146,[],[(2,.ref (n+1) 0),(3,.ref (n+3) 0)]⟩:Env)) (O':=(Zw O n [none,some ⟨false,25,3,1,[(vI 0),nV,nV]⟩,some (oR 77 1 (eI .u64) ([(IntKind.u64.wrap (IntKind.i64.wrap (a0.Kind+(IntKind.i64.wrap (256 * a0.List_)))))]:List Int)),some ⟨false,25,3,1,[(vI 1),.row (n+2) ([(IntKind.u64.wrap (IntKind.i64.wrap (a0.Kind+(IntKind.i64.wrap (256 * a0.List_)))))]:List Int).length,.row (n+4) ([a0.Old,a0.New]:List Za).length]⟩,some (oR 25 3 Zb ([a0.Old,a0.New]:List Za))])) (n':=(n+5)) (Fit2.of (Z6 hU rfl rfl ?_) (by omega)) ?_
   ·exact zSe
   refine Kk (k:=5) (k':=11) hU [10,1,2,3,9] [0,1,2,3,0,0,0,0,0,4,0] rfl rfl rfl rfl ⟨rfl,rfl⟩ ?_
   exact zSe
  replace hz1:=Zm c275 hz1
  refine zQ [1,2,3,4,5,81] ?_
  refine Zo (t:=(a0.Kind == 2)) rfl (fun c274 => ?_) (fun c274 => ?_)
  ·replace hz1:=Zn c274 hz1
   refine Zd ?_
   refine zQd [1,2,3,4,5,6] [1,2,3,4,5,6] [true,true,true,true] ?_
   refine Zdn (E':=(⟨146,[],[(1,.ref n 0),(2,.ref (n+1) 0),(3,.ref (n+3) 0),(4,.row (n+4) ([]:List Za).length),(5,nV),(6,(vI 0))]⟩:Env)) (O':=(Zw O n [some ⟨false,30,11,1,(Zg a0)⟩,some ⟨false,25,3,1,[(vI 0),nV,nV]⟩,some (oR 77 1 (eI .u64) ([(IntKind.u64.wrap (IntKind.i64.wrap (a0.Kind+(IntKind.i64.wrap (256 * a0.List_)))))]:List Int)),some ⟨false,25,3,1,[(vI 1),.row (n+2) ([(IntKind.u64.wrap (IntKind.i64.wrap (a0.Kind+(IntKind.i64.wrap (256 * a0.List_)))))]:List Int).length,nV]⟩,some (oR 25 3 Zb ([]:List Za)),none])) (n':=(n+6)) ?_ ?_
   ·refine Fit2.trans (E':=(⟨146,[],[(1,.ref n 0),(2,.ref (n+1) 0),(3,.ref (n+3) 0),(4,nV),(5,nV),(6,(vI 0))]⟩:Env)) (O':=(Zw O n [some ⟨false,30,11,1,(Zg a0)⟩,some ⟨false,25,3,1,[(vI 0),nV,nV]⟩,some (oR 77 1 (eI .u64) ([(IntKind.u64.wrap (IntKind.i64.wrap (a0.Kind+(IntKind.i64.wrap (256 * a0.List_)))))]:List Int)),some ⟨false,25,3,1,[(vI 1),.row (n+2) ([(IntKind.u64.wrap (IntKind.i64.wrap (a0.Kind+(IntKind.i64.wrap (256 * a0.List_)))))]:List Int).length,nV]⟩])) (n':=(n+4)) (Fit2.of (Z6 hU rfl rfl ?_) (by omega)) ?_
    ·exact zSe
    refine Fit2.trans (Zcm 4 25 3 rfl (by omega)) ?_
    simp only [Jj,Ql,Ga,Vb,List.set_cons_zero,List.set_cons_succ,List.cons_append,List.nil_append,List.length_cons,List.length_nil,Nat.zero_add,Nat.reduceAdd,Nat.reduceLT,Nat.add_assoc]
    refine Fit2.trans (E':=(⟨146,[],[(1,.ref n 0),(2,.ref (n+1) 0),(3,.ref (n+3) 0),(4,.row (n+4) ([]:List Za).length),(5,nV),(6,(vI 0))]⟩:Env)) (O':=(Zw O n [some ⟨false,30,11,1,(Zg a0)⟩,some ⟨false,25,3,1,[(vI 0),nV,nV]⟩,some (oR 77 1 (eI .u64) ([(IntKind.u64.wrap (IntKind.i64.wrap (a0.Kind+(IntKind.i64.wrap (256 * a0.List_)))))]:List Int)),some ⟨false,25,3,1,[(vI 1),.row (n+2) ([(IntKind.u64.wrap (IntKind.i64.wrap (a0.Kind+(IntKind.i64.wrap (256 * a0.List_)))))]:List Int).length,nV]⟩,some (oR 25 3 Zb ([]:List Za))])) (n':=(n+5)) (Fit2.of (Z6 hU rfl rfl ?_) (by omega)) ?_
    ·exact zSe
    refine Kk (k:=5) (k':=6) hU [0,1,2,3,4] [0,1,2,3,4,0] rfl rfl rfl rfl ⟨rfl,rfl⟩ ?_
    exact zSe
   obtain ⟨z6,hz6,hz1⟩:=bC hz1
   refine Yi (E':=⟨146,[],[(1,.ref n 0),(2,.ref (n+1) 0),(3,.ref (n+3) 0),(4,.row (n+4) z6.2.length),(5,nV)]⟩) (O':=(Zw O n [some ⟨false,30,11,1,(Zg a0)⟩,some ⟨false,25,3,1,[(vI 0),nV,nV]⟩,some (oR 77 1 (eI .u64) z6.1),some ⟨false,25,3,1,[(vI 1),.row (n+2) z6.1.length,nV]⟩,some (oR 25 3 Zb z6.2),none])) (n0:=(n+6)) ?_ ?_
   ·refine Y2 hz6 (fun s0_=>⟨146,[],[(1,.ref n 0),(2,.ref (n+1) 0),(3,.ref (n+3) 0),(4,.row (n+4) s0_.2.2.length),(5,nV),(6,(vI s0_.1))]⟩) (fun s0_=>(Zw O n [some ⟨false,30,11,1,(Zg a0)⟩,some ⟨false,25,3,1,[(vI 0),nV,nV]⟩,some (oR 77 1 (eI .u64) s0_.2.1),some ⟨false,25,3,1,[(vI 1),.row (n+2) s0_.2.1.length,nV]⟩,some (oR 25 3 Zb s0_.2.2),none])) (fun z6=>JX 3 n (⟨146,[],[(1,.ref n 0),(2,.ref (n+1) 0),(3,.ref (n+3) 0),(4,.row (n+4) z6.2.length),(5,nV)]⟩:Env) (Zw O n [some ⟨false,30,11,1,(Zg a0)⟩,some ⟨false,25,3,1,[(vI 0),nV,nV]⟩,some (oR 77 1 (eI .u64) z6.1),some ⟨false,25,3,1,[(vI 1),.row (n+2) z6.1.length,nV]⟩,some (oR 25 3 Zb z6.2),none]) (n+6)) ?_
    intro s0_ x0_ hs0_
    unfold Gj at hs0_
    try dsimp only
    refine Zd ?_
    refine zQ [1,2,3,4,5,6,87] ?_
    refine Zo (t:=(decide (s0_.1 < (a0.Words.length:Int)))) rfl (fun c5 => ?_) (fun c5 => ?_)
    ·replace hs0_:=Zn c5 hs0_
     refine X9 [1,2,3,4,5,6] [true,true,true,true,true,false] ?_
     refine Zd ?_
     refine Z8 ?_
     refine Zd ?_
     obtain ⟨x3,hx3,ax3,bx3,cx3,hs0_⟩:=bE (f:=Zq) Ztb (fun _=>rfl) (by decide) hs0_
     refine Zck [] ax3 bx3 cx3 ?_
     refine zD [1,2,3,4,5,6,7] [true,true,true,true,true,false,true] ?_
     obtain ⟨l4,pl4,ql4,el4,hs0_⟩:=bA (k:=1) rfl hs0_
     refine Zap [] pl4 ql4 el4 ?_
     refine Vp ⟨146,[],[(1,.ref n 0),(2,.ref (n+1) 0),(3,.ref (n+3) 0),(4,.row (n+4) l4.length),(5,nV),(6,(vI s0_.1))]⟩ (Zw O n [some ⟨false,30,11,1,(Zg a0)⟩,some ⟨false,25,3,1,[(vI 0),nV,nV]⟩,some (oR 77 1 (eI .u64) s0_.2.1),some ⟨false,25,3,1,[(vI 1),.row (n+2) s0_.2.1.length,nV]⟩,some (oR 25 3 Zb l4),none,none,none,none]) (Z6 hU rfl rfl ?_) ?_
     ·exact Znt pl4 ql4 el4
     refine zR ?_
     exact zEn hs0_
    replace hs0_:=Zm c5 hs0_
    exact zEx hs0_
   try simp only [Yx,Ya,↓reduceIte,Nat.reduceEqDiff]
   refine zDs [1,2,3,4,5] [true,true,true,true,true,false] ?_
   refine zQd [1,2,3,4,5,8] [1,2,3,4,5,8] [true,true,true,true,true,false] ?_
   refine Zdn (E':=(⟨146,[],[(1,.ref n 0),(2,.ref (n+1) 0),(3,.ref (n+3) 0),(4,.row (n+4) z6.2.length),(5,.row (n+6) ([]:List Za).length),(8,(vI 0))]⟩:Env)) (O':=(Zw O n [some ⟨false,30,11,1,(Zg a0)⟩,some ⟨false,25,3,1,[(vI 0),nV,nV]⟩,some (oR 77 1 (eI .u64) z6.1),some ⟨false,25,3,1,[(vI 1),.row (n+2) z6.1.length,nV]⟩,some (oR 25 3 Zb z6.2),none,some (oR 25 3 Zb ([]:List Za)),none])) (n':=(n+8)) ?_ ?_
   ·refine Fit2.trans (E':=(⟨146,[],[(1,.ref n 0),(2,.ref (n+1) 0),(3,.ref (n+3) 0),(4,.row (n+4) z6.2.length),(5,nV),(8,(vI 0))]⟩:Env)) (O':=(Zw O n [some ⟨false,30,11,1,(Zg a0)⟩,some ⟨false,25,3,1,[(vI 0),nV,nV]⟩,some (oR 77 1 (eI .u64) z6.1),some ⟨false,25,3,1,[(vI 1),.row (n+2) z6.1.length,nV]⟩,some (oR 25 3 Zb z6.2),none])) (n':=(n+6)) (Fit2.of (Z6 hU rfl rfl ?_) (by omega)) ?_
    ·exact zSe
    refine Fit2.trans (Zcm 5 25 3 rfl (by omega)) ?_
    simp only [Jj,Ql,Ga,Vb,List.set_cons_zero,List.set_cons_succ,List.cons_append,List.nil_append,List.length_cons,List.length_nil,Nat.zero_add,Nat.reduceAdd,Nat.reduceLT,Nat.add_assoc]
    refine Fit2.trans (E':=(⟨146,[],[(1,.ref n 0),(2,.ref (n+1) 0),(3,.ref (n+3) 0),(4,.row (n+4) z6.2.length),(5,.row (n+6) ([]:List Za).length),(8,(vI 0))]⟩:Env)) (O':=(Zw O n [some ⟨false,30,11,1,(Zg a0)⟩,some ⟨false,25,3,1,[(vI 0),nV,nV]⟩,some (oR 77 1 (eI .u64) z6.1),some ⟨false,25,3,1,[(vI 1),.row (n+2) z6.1.length,nV]⟩,some (oR 25 3 Zb z6.2),none,some (oR 25 3 Zb ([]:List Za))])) (n':=(n+7)) (Fit2.of (Z6 hU rfl rfl ?_) (by omega)) ?_
    ·exact zSe
    refine Kk (k:=7) (k':=8) hU [0,1,2,3,4,7,6] [0,1,2,3,4,0,6,0] rfl rfl rfl rfl ⟨rfl,rfl⟩ ?_
    exact zSe
   obtain ⟨z260,hz260,hz1⟩:=bC hz1
   refine Yi (E':=⟨146,[],[(2,.ref (n+1) 0),(3,.ref (n+3) 0),(4,.row (n+4) z6.2.length),(5,.row (n+6) z260.length)]⟩) (O':=(Zw O n [none,some ⟨false,25,3,1,[(vI 0),nV,nV]⟩,some (oR 77 1 (eI .u64) z6.1),some ⟨false,25,3,1,[(vI 1),.row (n+2) z6.1.length,nV]⟩,some (oR 25 3 Zb z6.2),none,some (oR 25 3 Zb z260),none])) (n0:=(n+8)) ?_ ?_
   ·refine Y2 hz260 (fun s1_=>⟨146,[],[(1,.ref n 0),(2,.ref (n+1) 0),(3,.ref (n+3) 0),(4,.row (n+4) z6.2.length),(5,.row (n+6) s1_.2.length),(8,(vI s1_.1))]⟩) (fun s1_=>(Zw O n [some ⟨false,30,11,1,(Zg a0)⟩,some ⟨false,25,3,1,[(vI 0),nV,nV]⟩,some (oR 77 1 (eI .u64) z6.1),some ⟨false,25,3,1,[(vI 1),.row (n+2) z6.1.length,nV]⟩,some (oR 25 3 Zb z6.2),none,some (oR 25 3 Zb s1_.2),none])) (fun z260=>JX 5 n (⟨146,[],[(2,.ref (n+1) 0),(3,.ref (n+3) 0),(4,.row (n+4) z6.2.length),(5,.row (n+6) z260.length)]⟩:Env) (Zw O n [none,some ⟨false,25,3,1,[(vI 0),nV,nV]⟩,some (oR 77 1 (eI .u64) z6.1),some ⟨false,25,3,1,[(vI 1),.row (n+2) z6.1.length,nV]⟩,some (oR 25 3 Zb z6.2),none,some (oR 25 3 Zb z260),none]) (n+8)) ?_
    intro s1_ x1_ hs1_
    unfold Gk at hs1_
    try dsimp only
    refine Zd ?_
    refine zQ [1,2,3,4,5,8,116] ?_
    refine Zo (t:=(decide (s1_.1 < (a0.Kids.length:Int)))) rfl (fun c259 => ?_) (fun c259 => ?_)
    ·replace hs1_:=Zn c259 hs1_
     refine X9 [1,2,3,4,5,8] [true,true,true,true,true,false,true,false] ?_
     refine Zd ?_
     refine Z8 ?_
     obtain ⟨x55,hx55,ax55,bx55,cx55,hs1_⟩:=bE (f:=Zp) Zp2 (fun _=>rfl) (by decide) hs1_
     have g79:=Zqe (f:=Zp) (sz:=12) Z5f (fun _=>rfl) (by decide) (by decide) hx55
     have g175:=Zfj (f:=Zp) (off:=1) (sz:=12) Zrk (fun _=>rfl) (by decide) (by decide) hx55
     obtain ⟨y187,hy187,hs1_⟩:=bC hs1_
     obtain ⟨l235,pl235,ql235,el235,hs1_⟩:=bA (k:=1) rfl hs1_
     refine Yhk (E':=⟨146,[],[(1,.ref n 0),(2,.ref (n+1) 0),(3,.ref (n+3) 0),(4,.row (n+4) z6.2.length),(5,.row (n+6) l235.length),(8,(vI s1_.1))]⟩) (O':=(Zw O n [some ⟨false,30,11,1,(Zg a0)⟩,some ⟨false,25,3,1,[(vI 0),nV,nV]⟩,some (oR 77 1 (eI .u64) z6.1),some ⟨false,25,3,1,[(vI 1),.row (n+2) z6.1.length,nV]⟩,some (oR 25 3 Zb z6.2),none,some (oR 25 3 Zb l235),none,none,none,none])) (n0:=(n+11)) ?_ ?_
     ·refine Zwu Zs (by kernel_rfl) [.plain,.low,.low,.plain,.low,.low,.low,.low,.pass,.low,.low,.plain,.low,.low,.low,.low,.pass,.plain,.pass,.pass,.plain] (fun i=>i < (n+8)∧¬ i=n+6) [0,1,2,3,4,5,6,7,9,10,11,12,13,14,15] [8,16,17,18] [19,20] (.alt 8 (.seq [16,17,18]) (.one 16 (.seq [8,17,18]))) [.plain,.low,.low,.plain,.low,.low,.low,.low,.low,.low,.plain,.low,.low,.low,.low] [] (by kernel_rfl) rfl ?_
      simp (maxSteps:=4000000) only [push_cast,Nat.reduceAdd,Nat.reduceSub,Nat.reduceMul,Nat.reduceLeDiff,Nat.reduceLT,Nat.reduceEqDiff,↓reduceIte,reduceCtorEq,Int.reduceBEq,Int.reduceBNe,Nat.reduceBEq,Int.reduceLE,Int.reduceLT,Int.reduceEq,Int.reduceNe,Int.reduceNeg,Nat.reduceDiv,Nat.reduceMod,Nat.reducePow,Zc,ax55,bx55,cx55,g79,g175,pl235,ql235,el235,hN0,hN]
      repeat (with_reducible refine And.intro (by omega) ?_)
      first | refine PCallA.of (fun _ _=>Zgf hy187) ?_ | refine PCall.of (Zgf hy187) ?_
      simp (maxSteps:=4000000) only [push_cast,Nat.reduceAdd,Nat.reduceSub,Nat.reduceMul,Nat.reduceLeDiff,Nat.reduceLT,Nat.reduceEqDiff,↓reduceIte,reduceCtorEq,Int.reduceBEq,Int.reduceBNe,Nat.reduceBEq,Int.reduceLE,Int.reduceLT,Int.reduceEq,Int.reduceNe,Int.reduceNeg,Nat.reduceDiv,Nat.reduceMod,Nat.reducePow,Zc,ax55,bx55,cx55,g79,g175,pl235,ql235,el235,hN0,hN]
      repeat (with_reducible refine And.intro (by omega) ?_)
      try simp only [push_cast,Nat.reduceAdd,Nat.reduceSub,Nat.reduceMul,Nat.reduceLeDiff,Nat.reduceLT,Nat.reduceEqDiff,↓reduceIte,reduceCtorEq,Int.reduceBEq,Int.reduceBNe,Nat.reduceBEq,Int.reduceLE,Int.reduceLT,Int.reduceEq,Int.reduceNe,Int.reduceNeg,Nat.reduceDiv,Nat.reduceMod,Nat.reducePow,Zc,ax55,bx55,cx55,g79,g175,pl235,ql235,el235,hN0,hN]
      refine And.intro ?_ ?_
      ·try simp only [push_cast,Nat.reduceAdd,Nat.reduceSub,Nat.reduceMul,Nat.reduceLeDiff,Nat.reduceLT,Nat.reduceEqDiff,↓reduceIte,reduceCtorEq,Int.reduceBEq,Int.reduceBNe,Nat.reduceBEq,Int.reduceLE,Int.reduceLT,Int.reduceEq,Int.reduceNe,Int.reduceNeg,Nat.reduceDiv,Nat.reduceMod,Nat.reducePow,Zc,ax55,bx55,cx55,g79,g175,pl235,ql235,el235,hN0,hN]
       repeat (with_reducible refine And.intro (by first | exact Xb rfl | exact Yv | exact X5 rfl | exact Xu rfl) ?_)
       try simp only [push_cast,Nat.reduceAdd,Nat.reduceSub,Nat.reduceMul,Nat.reduceLeDiff,Nat.reduceLT,Nat.reduceEqDiff,↓reduceIte,reduceCtorEq,Int.reduceBEq,Int.reduceBNe,Nat.reduceBEq,Int.reduceLE,Int.reduceLT,Int.reduceEq,Int.reduceNe,Int.reduceNeg,Nat.reduceDiv,Nat.reduceMod,Nat.reducePow,Zc,ax55,bx55,cx55,g79,g175,pl235,ql235,el235,hN0,hN]
       repeat (with_reducible refine And.intro (by first | exact Xb rfl | exact Yv | exact X5 rfl | exact Xu rfl) ?_)
       exact Ymu ax55 bx55 cx55 g79 g175 pl235 ql235 el235
      try simp only [push_cast,Nat.reduceAdd,Nat.reduceSub,Nat.reduceMul,Nat.reduceLeDiff,Nat.reduceLT,Nat.reduceEqDiff,↓reduceIte,reduceCtorEq,Int.reduceBEq,Int.reduceBNe,Nat.reduceBEq,Int.reduceLE,Int.reduceLT,Int.reduceEq,Int.reduceNe,Int.reduceNeg,Nat.reduceDiv,Nat.reduceMod,Nat.reducePow,Zc,ax55,bx55,cx55,g79,g175,pl235,ql235,el235,hN0,hN]
      repeat (with_reducible refine And.intro (by first | exact Xb rfl | exact Yv | exact X5 rfl | exact Xu rfl) ?_)
      try simp only [push_cast,Nat.reduceAdd,Nat.reduceSub,Nat.reduceMul,Nat.reduceLeDiff,Nat.reduceLT,Nat.reduceEqDiff,↓reduceIte,reduceCtorEq,Int.reduceBEq,Int.reduceBNe,Nat.reduceBEq,Int.reduceLE,Int.reduceLT,Int.reduceEq,Int.reduceNe,Int.reduceNeg,Nat.reduceDiv,Nat.reduceMod,Nat.reducePow,Zc,ax55,bx55,cx55,g79,g175,pl235,ql235,el235,hN0,hN]
      repeat (with_reducible refine And.intro (by first | exact Xb rfl | exact Yv | exact X5 rfl | exact Xu rfl) ?_)
      refine And.intro rfl ?_
      refine Fit2.trans (E':=(⟨146,[],[(1,.ref n 0),(2,.ref (n+1) 0),(3,.ref (n+3) 0),(4,.row (n+4) z6.2.length),(5,.row (n+6) l235.length),(8,(vI s1_.1))]⟩:Env)) (O':=(Zw O n [some ⟨false,30,11,1,(Zg a0)⟩,some ⟨false,25,3,1,[(vI 0),nV,nV]⟩,some (oR 77 1 (eI .u64) z6.1),some ⟨false,25,3,1,[(vI 1),.row (n+2) z6.1.length,nV]⟩,some (oR 25 3 Zb z6.2),none,some (oR 25 3 Zb l235),none,none,none,none])) (n':=(n+11)) (Fit2.of (Z6 hU rfl rfl ?_) (by omega)) ?_
      ·exact Ymz ax55 bx55 cx55 g79 g175 pl235 ql235 el235
      refine Kk (k:=11) (k':=11) hU [0,1,2,3,4,5,6,7,9,8,10] [0,1,2,3,4,5,6,7,9,8,10] rfl rfl rfl rfl ⟨rfl,rfl⟩ ?_
      exact Ymz ax55 bx55 cx55 g79 g175 pl235 ql235 el235
     try simp only [Yx,Ya]
     refine zD [1,2,3,4,5,8] [true,true,true,true,true,false,true,false,false,false,false] ?_
     refine zR ?_
     exact zEn hs1_
    replace hs1_:=Zm c259 hs1_
    exact zEx hs1_
   try simp only [Yx,Ya,↓reduceIte,Nat.reduceEqDiff]
   refine zD [2,3,4,5] [false,true,true,true,true,false,true,false] ?_
   refine Vp ⟨146,[],[(2,.ref (n+1) 0),(3,.ref (n+3) 0),(4,(sL Zb z6.2)),(5,.row (n+6) z260.length)]⟩ (Zw O n [none,some ⟨false,25,3,1,[(vI 0),nV,nV]⟩,some (oR 77 1 (eI .u64) z6.1),some ⟨false,25,3,1,[(vI 1),.row (n+2) z6.1.length,nV]⟩,none,none,some (oR 25 3 Zb z260),none]) (Z6 hU rfl rfl ?_) ?_
   ·exact zSe
   refine Vp ⟨146,[],[(2,.ref (n+1) 0),(3,.ref (n+3) 0),(4,(sL Zb z6.2)),(5,(sL Zb z260))]⟩ (Zw O n [none,some ⟨false,25,3,1,[(vI 0),nV,nV]⟩,some (oR 77 1 (eI .u64) z6.1),some ⟨false,25,3,1,[(vI 1),.row (n+2) z6.1.length,nV]⟩,none,none,none,none]) (Z6 hU rfl rfl ?_) ?_
   ·exact zSe
   obtain ⟨y262,hy262,hz1⟩:=bC hz1
   obtain ⟨y263,hy263,hz1⟩:=bC hz1
   refine zC (Zjl hy262) ?_
   refine zTs (Zjl hy263) ?_
   have hz1:=Option.some.inj hz1;subst hz1
   refine And.intro rfl ?_
   refine Fit2.trans (E':=(⟨146,[],[(2,.ref (n+1) 0),(3,.ref (n+3) 0)]⟩:Env)) (O':=(Zw O n [none,some ⟨false,25,3,1,[(vI 0),nV,nV]⟩,some (oR 77 1 (eI .u64) z6.1),some ⟨false,25,3,1,[(vI 1),.row (n+2) z6.1.length,.row (n+8) ([y262,y263]:List Za).length]⟩,none,none,none,none,some (oR 25 3 Zb ([y262,y263]:List Za))])) (n':=(n+9)) (Fit2.of (Z6 hU rfl rfl ?_) (by omega)) ?_
   ·exact zSe
   refine Kk (k:=9) (k':=11) hU [10,1,2,3,10,10,10,10,9] [0,1,2,3,0,0,0,0,0,8,0] rfl rfl rfl rfl ⟨rfl,rfl⟩ ?_
   exact zSe
  replace hz1:=Zm c274 hz1
  refine Zd ?_
  refine zQd [1,2,3,4,9] [1,2,3,4,9] [true,true,true,true] ?_
  refine Zdn (E':=(⟨146,[],[(1,.ref n 0),(2,.ref (n+1) 0),(3,.ref (n+3) 0),(4,.row (n+4) ([]:List Za).length),(9,(vI 0))]⟩:Env)) (O':=(Zw O n [some ⟨false,30,11,1,(Zg a0)⟩,some ⟨false,25,3,1,[(vI 0),nV,nV]⟩,some (oR 77 1 (eI .u64) ([(IntKind.u64.wrap (IntKind.i64.wrap (a0.Kind+(IntKind.i64.wrap (256 * a0.List_)))))]:List Int)),some ⟨false,25,3,1,[(vI 1),.row (n+2) ([(IntKind.u64.wrap (IntKind.i64.wrap (a0.Kind+(IntKind.i64.wrap (256 * a0.List_)))))]:List Int).length,nV]⟩,some (oR 25 3 Zb ([]:List Za)),none])) (n':=(n+6)) ?_ ?_
  ·refine Fit2.trans (E':=(⟨146,[],[(1,.ref n 0),(2,.ref (n+1) 0),(3,.ref (n+3) 0),(4,nV),(9,(vI 0))]⟩:Env)) (O':=(Zw O n [some ⟨false,30,11,1,(Zg a0)⟩,some ⟨false,25,3,1,[(vI 0),nV,nV]⟩,some (oR 77 1 (eI .u64) ([(IntKind.u64.wrap (IntKind.i64.wrap (a0.Kind+(IntKind.i64.wrap (256 * a0.List_)))))]:List Int)),some ⟨false,25,3,1,[(vI 1),.row (n+2) ([(IntKind.u64.wrap (IntKind.i64.wrap (a0.Kind+(IntKind.i64.wrap (256 * a0.List_)))))]:List Int).length,nV]⟩])) (n':=(n+4)) (Fit2.of (Z6 hU rfl rfl ?_) (by omega)) ?_
   ·exact zSe
   refine Fit2.trans (Zcm 4 25 3 rfl (by omega)) ?_
   simp only [Jj,Ql,Ga,Vb,List.set_cons_zero,List.set_cons_succ,List.cons_append,List.nil_append,List.length_cons,List.length_nil,Nat.zero_add,Nat.reduceAdd,Nat.reduceLT,Nat.add_assoc]
   refine Fit2.trans (E':=(⟨146,[],[(1,.ref n 0),(2,.ref (n+1) 0),(3,.ref (n+3) 0),(4,.row (n+4) ([]:List Za).length),(9,(vI 0))]⟩:Env)) (O':=(Zw O n [some ⟨false,30,11,1,(Zg a0)⟩,some ⟨false,25,3,1,[(vI 0),nV,nV]⟩,some (oR 77 1 (eI .u64) ([(IntKind.u64.wrap (IntKind.i64.wrap (a0.Kind+(IntKind.i64.wrap (256 * a0.List_)))))]:List Int)),some ⟨false,25,3,1,[(vI 1),.row (n+2) ([(IntKind.u64.wrap (IntKind.i64.wrap (a0.Kind+(IntKind.i64.wrap (256 * a0.List_)))))]:List Int).length,nV]⟩,some (oR 25 3 Zb ([]:List Za))])) (n':=(n+5)) (Fit2.of (Z6 hU rfl rfl ?_) (by omega)) ?_
   ·exact zSe
   refine Kk (k:=5) (k':=6) hU [0,1,2,3,4] [0,1,2,3,4,0] rfl rfl rfl rfl ⟨rfl,rfl⟩ ?_
   exact zSe
  obtain ⟨z272,hz272,hz1⟩:=bC hz1
  refine Yi (E':=⟨146,[],[(2,.ref (n+1) 0),(3,.ref (n+3) 0),(4,.row (n+4) z272.2.length)]⟩) (O':=(Zw O n [none,some ⟨false,25,3,1,[(vI 0),nV,nV]⟩,some (oR 77 1 (eI .u64) z272.1),some ⟨false,25,3,1,[(vI 1),.row (n+2) z272.1.length,nV]⟩,some (oR 25 3 Zb z272.2),none])) (n0:=(n+6)) ?_ ?_
  ·refine Y2 hz272 (fun s2_=>⟨146,[],[(1,.ref n 0),(2,.ref (n+1) 0),(3,.ref (n+3) 0),(4,.row (n+4) s2_.2.2.length),(9,(vI s2_.1))]⟩) (fun s2_=>(Zw O n [some ⟨false,30,11,1,(Zg a0)⟩,some ⟨false,25,3,1,[(vI 0),nV,nV]⟩,some (oR 77 1 (eI .u64) s2_.2.1),some ⟨false,25,3,1,[(vI 1),.row (n+2) s2_.2.1.length,nV]⟩,some (oR 25 3 Zb s2_.2.2),none])) (fun z272=>JX 1 n (⟨146,[],[(2,.ref (n+1) 0),(3,.ref (n+3) 0),(4,.row (n+4) z272.2.length)]⟩:Env) (Zw O n [none,some ⟨false,25,3,1,[(vI 0),nV,nV]⟩,some (oR 77 1 (eI .u64) z272.1),some ⟨false,25,3,1,[(vI 1),.row (n+2) z272.1.length,nV]⟩,some (oR 25 3 Zb z272.2),none]) (n+6)) ?_
   intro s2_ x2_ hs2_
   unfold Gl at hs2_
   try dsimp only
   refine Zd ?_
   refine zQ [1,2,3,4,9,27] ?_
   refine Zo (t:=(decide (s2_.1 < (a0.Ops.length:Int)))) rfl (fun c271 => ?_) (fun c271 => ?_)
   ·replace hs2_:=Zn c271 hs2_
    refine X9 [1,2,3,4,9] [true,true,true,true,true,false] ?_
    refine Zd ?_
    refine Z8 ?_
    refine Zd ?_
    obtain ⟨x265,hx265,ax265,bx265,cx265,hs2_⟩:=bE (f:=Zx) Zk9 (fun _=>rfl) (by decide) hs2_
    refine Zck [] ax265 bx265 cx265 ?_
    refine zDs [1,2,3,4,9,10] [true,true,true,true,true,false,true] ?_
    refine zR ?_
    refine Vp ⟨146,[],[(1,.ref n 0),(2,.ref (n+1) 0),(3,.ref (n+3) 0),(4,.row (n+4) s2_.2.2.length),(9,(vI s2_.1)),(10,.ref (n+6) 0),(11,.ref (n+8) 0)]⟩ (Zw O n [some ⟨false,30,11,1,(Zg a0)⟩,some ⟨false,25,3,1,[(vI 0),nV,nV]⟩,some (oR 77 1 (eI .u64) s2_.2.1),some ⟨false,25,3,1,[(vI 1),.row (n+2) s2_.2.1.length,nV]⟩,some (oR 25 3 Zb s2_.2.2),none,some ⟨false,89,14,1,(Yw x265)⟩,some (oR 77 1 (eI .u64) ([(IntKind.u64.wrap (IntKind.i64.wrap (x265.Kind+(IntKind.i64.wrap (256 * x265.N)))))]:List Int)),some ⟨false,25,3,1,[(vI 1),.row (n+7) ([(IntKind.u64.wrap (IntKind.i64.wrap (x265.Kind+(IntKind.i64.wrap (256 * x265.N)))))]:List Int).length,nV]⟩]) (Z6 hU rfl rfl ?_) ?_
    ·exact zSe
    obtain ⟨z266,hz266,hs2_⟩:=bC hs2_
    refine Y0 (E':=⟨146,[],[(1,.ref n 0),(2,.ref (n+1) 0),(3,.ref (n+3) 0),(4,.row (n+4) s2_.2.2.length),(9,(vI s2_.1)),(11,.ref (n+8) 0)]⟩) (O':=(Zw O n [some ⟨false,30,11,1,(Zg a0)⟩,some ⟨false,25,3,1,[(vI 0),nV,nV]⟩,some (oR 77 1 (eI .u64) s2_.2.1),some ⟨false,25,3,1,[(vI 1),.row (n+2) s2_.2.1.length,nV]⟩,some (oR 25 3 Zb s2_.2.2),none,none,some (oR 77 1 (eI .u64) z266.1),some ⟨false,25,3,1,[(vI 1),.row (n+7) z266.1.length,.row (n+10) z266.2.length]⟩,none,some (oR 25 3 Zb z266.2),none])) (n0:=(n+12)) ?_ ?_
    ·refine zQ [1,2,3,4,9,10,11,46] ?_
     refine Zo (t:=(x265.Kind == 3)) rfl (fun c269 => ?_) (fun c269 => ?_)
     ·replace hz266:=Zn c269 hz266
      obtain ⟨y267,hy267,hz266⟩:=bC hz266
      refine zC (Zgf hy267) ?_
      have hz266:=Option.some.inj hz266;subst hz266
      refine And.intro rfl ?_
      refine Fit2.trans (E':=(⟨146,[],[(1,.ref n 0),(2,.ref (n+1) 0),(3,.ref (n+3) 0),(4,.row (n+4) s2_.2.2.length),(9,(vI s2_.1)),(11,.ref (n+8) 0)]⟩:Env)) (O':=(Zw O n [some ⟨false,30,11,1,(Zg a0)⟩,some ⟨false,25,3,1,[(vI 0),nV,nV]⟩,some (oR 77 1 (eI .u64) s2_.2.1),some ⟨false,25,3,1,[(vI 1),.row (n+2) s2_.2.1.length,nV]⟩,some (oR 25 3 Zb s2_.2.2),none,none,some (oR 77 1 (eI .u64) ([(IntKind.u64.wrap (IntKind.i64.wrap (x265.Kind+(IntKind.i64.wrap (256 * x265.N)))))]:List Int)),some ⟨false,25,3,1,[(vI 1),.row (n+7) ([(IntKind.u64.wrap (IntKind.i64.wrap (x265.Kind+(IntKind.i64.wrap (256 * x265.N)))))]:List Int).length,.row (n+9) ([y267]:List Za).length]⟩,some (oR 25 3 Zb ([y267]:List Za))])) (n':=(n+10)) (Fit2.of (Z6 hU rfl rfl ?_) (by omega)) ?_
      ·exact zSe
      refine Kk (k:=10) (k':=12) hU [0,1,2,3,4,11,11,7,8,10] [0,1,2,3,4,0,0,7,8,0,9,0] rfl rfl rfl rfl ⟨rfl,rfl⟩ ?_
      exact zSe
     replace hz266:=Zm c269 hz266
     refine zQ [1,2,3,4,9,10,11,54] ?_
     refine Zo (t:=(decide (0 < x265.Kind))) rfl (fun c268 => ?_) (fun c268 => ?_)
     ·replace hz266:=Zn c268 hz266
      refine zR ?_
      have hz266:=Option.some.inj hz266;subst hz266
      refine And.intro rfl ?_
      refine Fit2.trans (E':=(⟨146,[],[(1,.ref n 0),(2,.ref (n+1) 0),(3,.ref (n+3) 0),(4,.row (n+4) s2_.2.2.length),(9,(vI s2_.1)),(11,.ref (n+8) 0)]⟩:Env)) (O':=(Zw O n [some ⟨false,30,11,1,(Zg a0)⟩,some ⟨false,25,3,1,[(vI 0),nV,nV]⟩,some (oR 77 1 (eI .u64) s2_.2.1),some ⟨false,25,3,1,[(vI 1),.row (n+2) s2_.2.1.length,nV]⟩,some (oR 25 3 Zb s2_.2.2),none,none,some (oR 77 1 (eI .u64) ([(IntKind.u64.wrap (IntKind.i64.wrap (x265.Kind+(IntKind.i64.wrap (256 * x265.N)))))]:List Int)),some ⟨false,25,3,1,[(vI 1),.row (n+7) ([(IntKind.u64.wrap (IntKind.i64.wrap (x265.Kind+(IntKind.i64.wrap (256 * x265.N)))))]:List Int).length,.row (n+9) ([(⟨a0.List_,([]:(List Int)),x265.L⟩:Za)]:List Za).length]⟩,some (oR 25 3 Zb ([(⟨a0.List_,([]:(List Int)),x265.L⟩:Za)]:List Za))])) (n':=(n+10)) (Fit2.of (Z6 hU rfl rfl ?_) (by omega)) ?_
      ·exact zSe
      refine Kk (k:=10) (k':=12) hU [0,1,2,3,4,11,11,7,8,10] [0,1,2,3,4,0,0,7,8,0,9,0] rfl rfl rfl rfl ⟨rfl,rfl⟩ ?_
      exact zSe
     replace hz266:=Zm c268 hz266
     refine zK ?_
     have hz266:=Option.some.inj hz266;subst hz266
     refine And.intro rfl ?_
     refine Fit2.trans (E':=(⟨146,[],[(1,.ref n 0),(2,.ref (n+1) 0),(3,.ref (n+3) 0),(4,.row (n+4) s2_.2.2.length),(9,(vI s2_.1)),(11,.ref (n+8) 0)]⟩:Env)) (O':=(Zw O n [some ⟨false,30,11,1,(Zg a0)⟩,some ⟨false,25,3,1,[(vI 0),nV,nV]⟩,some (oR 77 1 (eI .u64) s2_.2.1),some ⟨false,25,3,1,[(vI 1),.row (n+2) s2_.2.1.length,nV]⟩,some (oR 25 3 Zb s2_.2.2),none,none,some (oR 77 1 (eI .u64) ([(IntKind.u64.wrap (IntKind.i64.wrap (x265.Kind+(IntKind.i64.wrap (256 * x265.N)))))]:List Int)),some ⟨false,25,3,1,[(vI 1),.row (n+7) ([(IntKind.u64.wrap (IntKind.i64.wrap (x265.Kind+(IntKind.i64.wrap (256 * x265.N)))))]:List Int).length,nV]⟩])) (n':=(n+9)) (Fit2.of (Z6 hU rfl rfl ?_) (by omega)) ?_
     ·exact zSe
     refine Fit2.trans (Zqa (p:=(n+8)) (k:=2) (q:=⟨false,25,3,1,[(vI 1),.row (n+7) ([(IntKind.u64.wrap (IntKind.i64.wrap (x265.Kind+(IntKind.i64.wrap (256 * x265.N)))))]:List Int).length,nV]⟩) 25 3 (by simp only [Zfm,Zlq,List.getElem?_cons_zero,List.getElem?_cons_succ,Option.join_some,List.length_nil,Xw]) rfl (by omega)) ?_
     simp only [Jj,Ql,Ga,Vb,List.set_cons_zero,List.set_cons_succ,List.cons_append,List.nil_append,List.length_cons,List.length_nil,Nat.zero_add,Nat.reduceAdd,Nat.reduceLT,Nat.add_assoc]
     refine Kk (k:=10) (k':=12) hU [0,1,2,3,4,11,11,7,8,10] [0,1,2,3,4,0,0,7,8,0,9,0] rfl rfl rfl rfl ⟨rfl,rfl⟩ ?_
     exact zSe
    refine Vp ⟨146,[],[(1,.ref n 0),(2,.ref (n+1) 0),(3,.ref (n+3) 0),(4,.row (n+4) s2_.2.2.length),(9,(vI s2_.1)),(11,.ref (n+8) 0)]⟩ (Zw O n [some ⟨false,30,11,1,(Zg a0)⟩,some ⟨false,25,3,1,[(vI 0),nV,nV]⟩,some (oR 77 1 (eI .u64) s2_.2.1),some ⟨false,25,3,1,[(vI 1),.row (n+2) s2_.2.1.length,nV]⟩,some (oR 25 3 Zb s2_.2.2),none,none,none,some ⟨false,25,3,1,[(vI 1),(sL (eI .u64) z266.1),(sL Zb z266.2)]⟩,none,none,none]) (Z6 hU rfl rfl ?_) ?_
    ·exact zSe
    obtain ⟨l270,pl270,ql270,el270,hs2_⟩:=bA (k:=1) rfl hs2_
    refine Zap [] pl270 ql270 el270 ?_
    refine Vp ⟨146,[],[(1,.ref n 0),(2,.ref (n+1) 0),(3,.ref (n+3) 0),(4,.row (n+4) l270.length),(9,(vI s2_.1))]⟩ (Zw O n [some ⟨false,30,11,1,(Zg a0)⟩,some ⟨false,25,3,1,[(vI 0),nV,nV]⟩,some (oR 77 1 (eI .u64) s2_.2.1),some ⟨false,25,3,1,[(vI 1),.row (n+2) s2_.2.1.length,nV]⟩,some (oR 25 3 Zb l270),none,none,none,none,none,none,none,none]) (Z6 hU rfl rfl ?_) ?_
    ·exact Znt pl270 ql270 el270
    refine zR ?_
    exact zEn hs2_
   replace hs2_:=Zm c271 hs2_
   exact zEx hs2_
  try simp only [Yx,Ya,↓reduceIte,Nat.reduceEqDiff]
  refine zD [2,3,4] [false,true,true,true,true,false] ?_
  refine Vp ⟨146,[],[(2,.ref (n+1) 0),(3,.ref (n+3) 0),(4,(sL Zb z272.2))]⟩ (Zw O n [none,some ⟨false,25,3,1,[(vI 0),nV,nV]⟩,some (oR 77 1 (eI .u64) z272.1),some ⟨false,25,3,1,[(vI 1),.row (n+2) z272.1.length,nV]⟩,none,none]) (Z6 hU rfl rfl ?_) ?_
  ·exact zSe
  obtain ⟨y273,hy273,hz1⟩:=bC hz1
  refine zC (Zjl hy273) ?_
  have hz1:=Option.some.inj hz1;subst hz1
  refine And.intro rfl ?_
  refine Fit2.trans (E':=(⟨146,[],[(2,.ref (n+1) 0),(3,.ref (n+3) 0)]⟩:Env)) (O':=(Zw O n [none,some ⟨false,25,3,1,[(vI 0),nV,nV]⟩,some (oR 77 1 (eI .u64) z272.1),some ⟨false,25,3,1,[(vI 1),.row (n+2) z272.1.length,.row (n+6) ([y273]:List Za).length]⟩,none,none,some (oR 25 3 Zb ([y273]:List Za))])) (n':=(n+7)) (Fit2.of (Z6 hU rfl rfl ?_) (by omega)) ?_
  ·exact zSe
  refine Kk (k:=7) (k':=11) hU [10,1,2,3,10,10,9] [0,1,2,3,0,0,0,0,0,6,0] rfl rfl rfl rfl ⟨rfl,rfl⟩ ?_
  exact zSe
 rcases z1 with z1 | z1
 ·dsimp only [Xx] at hw h
  refine Y0 hw ?_
  refine Zd ?_
  refine zRd [2] [false,true,true,false,false,false,false,false,false,true,false] ?_
  refine zW ?_
  have h:=Option.some.inj h;subst h
  refine Zh (.inr rfl) hU [.agg [(vI 1),.row (n+2) z1.1.length,.row (n+9) z1.2.length]] (by omega) ?_
  simp only [push_cast,seval,↓reduceIte,Zc,Tryz.results18,hN0,hN]
 dsimp only [Xx] at hw h
 refine Ydz hw ?_
 try simp only [Yx,Ya]
 have h:=Option.some.inj h;subst h
 refine Zh (.inr rfl) hU [.agg [(vI 0),nV,nV]] (by omega) ?_
 simp only [push_cast,seval,↓reduceIte,Zc,Tryz.results18,hN0,hN]
theorem Zrp:∀ k,(Zky (K6 k)):=fun k=>by
 induction k with
 | zero=>exact @fun a0 r O n h=>(nomatch (show (none:Option _)=some _ from h))
 | succ k ih=>exact @fun a0 r O n h=>Zvs (ih)  h
theorem Zwf {a0:Zf} {r:Za} {O:Objs} {n:Nat} (h:Zja a0=some r):GTo Tryz.prog 18 [.agg (Zg a0)] O n (.agg (Ze r)) O n:=by
 obtain ⟨k,hk⟩:=Vx h
 exact (Zrp k)  hk
def Zkw (Kj:(Za→Za→Option Bool)):Prop:=∀ {a0:Za} {a1:Za} {r:Bool} {O:Objs} {n:Nat},Kj a0 a1=some r→GTo Tryz.prog 17 [.agg (Ze a0),.agg (Ze a1)] O n ((vB r)) O n
theorem Zvq {Kj:(Za→Za→Option Bool)} (Zsl:Zkw Kj) {a0:Za} {a1:Za} {r:Bool} {O:Objs} {n:Nat} (h:Zcs Kj a0 a1=some r):GTo Tryz.prog 17 [.agg (Ze a0),.agg (Ze a1)] O n ((vB r)) O n:=by
 unfold Zcs at h
 refine Yf Zs Tryz.call17 Tryz.func17 rfl (Nat.le_of_ble_eq_true rfl) (Nat.le_refl _) fun hU => ?_
 have hN0:O n=none:=hU.fresh _ (Nat.le_refl _)
 have hN:∀ k,O (n+k)=none:=fun k=>hU.fresh _ (Nat.le_add_right _ _)
 show W _ _ _ _ ⟨47,[],[(0,.agg (Ze a0)),(1,.agg (Ze a1))]⟩ (Zw O n []) _
 refine zQ [2,3] ?_
 refine Zd ?_
 obtain ⟨z2,hz2,h⟩:=bC h
 refine Y0 (E':=⟨47,[],[(2,.ref n 0),(3,.ref (n+1) 0),(27,(vB z2))]⟩) (O':=(Zw O n [some ⟨false,25,3,1,(Ze a0)⟩,some ⟨false,25,3,1,(Ze a1)⟩])) (n0:=(n+2)) ?_ ?_
 ·rcases Bool.eq_false_or_eq_true (a0.Kind != a1.Kind) with c5 | c5
  ·replace hz2:=Zn c5 hz2
   refine Q7 [some false,some false,some false,some false,some false,some false,some false,some false,some false,some false,some false,some false,some false] c5 ?_
   exact Qk hz2 c5
  replace hz2:=Zm c5 hz2
  obtain ⟨y4,hy4,hz2⟩:=bC hz2
  refine Q7 [some true,some true,some true,some true,some true,some true,none,none,none,none,none,none,none] c5 ?_
  refine zG ?_
  refine (Zeo hy4).then ?_
  refine zX1 c5 ?_
  refine zG ?_
  exact Qk hz2 c5
 refine Zo (t:=z2) rfl (fun Vq => ?_) (fun Vq => ?_)
 ·replace h:=Zn Vq h
  refine zQ [4] ?_
  refine zW ?_
  have h:=Option.some.inj h;subst h
  refine Zh (.inr rfl) hU [(vB false)] (by omega) ?_
  simp only [push_cast,seval,↓reduceIte,Zc,Tryz.results17,hN0,hN]
 replace h:=Zm Vq h
 refine X9 [2,3] [true,true] ?_
 refine Zd ?_
 refine zQd [2,3,5] [2,3,5] [true,true] ?_
 obtain ⟨z14,hz14,h⟩:=bC h
 refine Zbe (J:=(Xx (fun z14=>JR n (⟨47,[],[(4,(vB false))]⟩:Env) (Zw O n [none,none]) (n+2)) (fun z14=>JX 0 n (⟨47,[],[]⟩:Env) (Zw O n [none,none]) (n+2)))) (z:=z14) ?_ fun hw => ?_
 ·refine Y2 hz14 (fun s0_=>⟨47,[],[(2,.ref n 0),(3,.ref (n+1) 0),(5,(vI s0_))]⟩) (fun s0_=>(Zw O n [some ⟨false,25,3,1,(Ze a0)⟩,some ⟨false,25,3,1,(Ze a1)⟩])) (Xx (fun z14=>JR n (⟨47,[],[(4,(vB false))]⟩:Env) (Zw O n [none,none]) (n+2)) (fun z14=>JX 0 n (⟨47,[],[]⟩:Env) (Zw O n [none,none]) (n+2))) ?_
  intro s0_ x0_ hs0_
  unfold Gi at hs0_
  try dsimp only
  refine Zd ?_
  refine zQ [2,3,5,32] ?_
  refine Zo (t:=(decide (s0_ < (a0.Kids.length:Int)))) rfl (fun Vu => ?_) (fun Vu => ?_)
  ·replace hs0_:=Zn Vu hs0_
   refine X9 [2,3,5] [true,true] ?_
   refine Zd ?_
   refine Z8 ?_
   refine Zd ?_
   obtain ⟨x9,hx9,ax9,bx9,cx9,hs0_⟩:=bE (f:=Zb) G7 (fun _=>rfl) (by decide) hs0_
   obtain ⟨x10,hx10,ax10,bx10,cx10,hs0_⟩:=bE (f:=Zb) G7 (fun _=>rfl) (by decide) hs0_
   obtain ⟨y11,hy11,hs0_⟩:=bC hs0_
   refine Qf Zs (by kernel_rfl) [] (by kernel_rfl) ?_
   refine zF6 ax9 bx9 cx9 ax10 bx10 cx10 ?_
   refine PCall.of (Zsl hy11) ?_
   refine zF6 ax9 bx9 cx9 ax10 bx10 cx10 ?_
   refine zD [2,3,5,46] [true,true] ?_
   refine Zo (t:=(!y11)) rfl (fun c12 => ?_) (fun c12 => ?_)
   ·replace hs0_:=Zn c12 hs0_
    refine zQ [4] ?_
    refine zW ?_
    exact zEy hs0_
   replace hs0_:=Zm c12 hs0_
   refine X9 [2,3,5] [true,true] ?_
   refine zR ?_
   exact zEn hs0_
  replace hs0_:=Zm Vu hs0_
  exact zEx hs0_
 rcases z14 with z14 | z14
 ·dsimp only [Xx] at hw h
  refine Jt hw ?_
  try simp only [Yx,Ya,↓reduceIte,Nat.reduceEqDiff]
  have h:=Option.some.inj h;subst h
  refine Zh (.inr rfl) hU [(vB false)] (by omega) ?_
  simp only [push_cast,seval,↓reduceIte,Zc,Tryz.results17,hN0,hN]
 dsimp only [Xx] at hw h
 refine Yi hw ?_
 try simp only [Yx,Ya,↓reduceIte,Nat.reduceEqDiff]
 refine zD [] [false,false] ?_
 refine zQ [4] ?_
 refine zW ?_
 have h:=Option.some.inj h;subst h
 refine Zh (.inr rfl) hU [(vB true)] (by omega) ?_
 simp only [push_cast,seval,↓reduceIte,Zc,Tryz.results17,hN0,hN]
theorem Zrn:∀ k,(Zkw (K5 k)):=fun k=>by
 induction k with
 | zero=>exact @fun a0 a1 r O n h=>(nomatch (show (none:Option _)=some _ from h))
 | succ k ih=>exact @fun a0 a1 r O n h=>Zvq (ih)  h
theorem Zmp {a0:Za} {a1:Za} {r:Bool} {O:Objs} {n:Nat} (h:Zfu a0 a1=some r):GTo Tryz.prog 17 [.agg (Ze a0),.agg (Ze a1)] O n ((vB r)) O n:=by
 obtain ⟨k,hk⟩:=Vx h
 exact (Zrn k)  hk
theorem Zdk {a0:Za} {a1:Za} {r:Bool} {O:Objs} {n:Nat} (h:K8 a0 a1=some r):GTo Tryz.prog 62 [.agg (Ze a0),.agg (Ze a1)] O n ((vB r)) O n:=by
 unfold K8 at h
 refine Yf Zs Tryz.call62 Tryz.func62 rfl (Nat.le_of_ble_eq_true rfl) (Nat.le_refl _) fun hU => ?_
 have hN0:O n=none:=hU.fresh _ (Nat.le_refl _)
 have hN:∀ k,O (n+k)=none:=fun k=>hU.fresh _ (Nat.le_add_right _ _)
 show W _ _ _ _ ⟨10,[],[(0,.agg (Ze a0)),(1,.agg (Ze a1))]⟩ (Zw O n []) _
 refine zQ [2,3] ?_
 refine Zd ?_
 obtain ⟨y4,hy4,h⟩:=bC h
 obtain ⟨y5,hy5,h⟩:=bC h
 obtain ⟨y6,hy6,h⟩:=bC h
 refine Qf Zs (by kernel_rfl) [] (by kernel_rfl) ?_
 refine zS ?_
 refine PCall.of (Zmo hy4) ?_
 refine zS ?_
 refine PCall.of (Zmo hy5) ?_
 refine zS ?_
 refine PCall.of (Zmp hy6) ?_
 refine zS ?_
 refine zD [4] [false,false] ?_
 refine zW ?_
 have h:=Option.some.inj h;subst h
 refine Zh (.inr rfl) hU [(vB y6)] (by omega) ?_
 simp only [push_cast,seval,↓reduceIte,Zc,Tryz.results62,hN0,hN]
theorem Zin {a0:(List Za)} {a1:(List Za)} {r:Bool} {O:Objs} {n:Nat} (h:Vz a0 a1=some r):GTo Tryz.prog 63 [(sL Zb a0),(sL Zb a1)] O n ((vB r)) O n:=by
 unfold Vz at h
 refine Yf Zs Tryz.call63 Tryz.func63 rfl (Nat.le_of_ble_eq_true rfl) (Nat.le_refl _) fun hU => ?_
 have hN0:O n=none:=hU.fresh _ (Nat.le_refl _)
 have hN:∀ k,O (n+k)=none:=fun k=>hU.fresh _ (Nat.le_add_right _ _)
 show W _ _ _ _ ⟨27,[],[(0,(sL Zb a0)),(1,(sL Zb a1))]⟩ (Zw O n []) _
 refine zQ [0,1] ?_
 refine Zd ?_
 refine zQ [0,1,10] ?_
 refine Zo (t:=((a0.length:Int) != (a1.length:Int))) rfl (fun c10 => ?_) (fun c10 => ?_)
 ·replace h:=Zn c10 h
  refine zQ [4] ?_
  refine zW ?_
  have h:=Option.some.inj h;subst h
  refine Zh (.inr rfl) hU [(vB false)] (by omega) ?_
  simp only [push_cast,seval,↓reduceIte,Zc,Tryz.results63,hN0,hN]
 replace h:=Zm c10 h
 refine X9 [0,1] [] ?_
 refine Zd ?_
 refine zQd [0,1,5] [0,1,5] [] ?_
 obtain ⟨z9,hz9,h⟩:=bC h
 refine Zbe (J:=(Xx (fun z9=>JR n (⟨27,[],[(4,(vB false))]⟩:Env) (Zw O n []) n) (fun z9=>JX 0 n (⟨27,[],[]⟩:Env) (Zw O n []) n))) (z:=z9) ?_ fun hw => ?_
 ·refine Y2 hz9 (fun s0_=>⟨27,[],[(0,(sL Zb a0)),(1,(sL Zb a1)),(5,(vI s0_))]⟩) (fun s0_=>(Zw O n [])) (Xx (fun z9=>JR n (⟨27,[],[(4,(vB false))]⟩:Env) (Zw O n []) n) (fun z9=>JX 0 n (⟨27,[],[]⟩:Env) (Zw O n []) n)) ?_
  intro s0_ x0_ hs0_
  unfold J5 at hs0_
  try dsimp only
  refine Zd ?_
  refine zQ [0,1,5,14] ?_
  refine Zo (t:=(decide (s0_ < (a0.length:Int)))) rfl (fun c8 => ?_) (fun c8 => ?_)
  ·replace hs0_:=Zn c8 hs0_
   refine X9 [0,1,5] [] ?_
   refine Zd ?_
   refine Z8 ?_
   refine Zd ?_
   obtain ⟨x4,hx4,ax4,bx4,cx4,hs0_⟩:=bE (f:=Zb) G7 (fun _=>rfl) (by decide) hs0_
   obtain ⟨x5,hx5,ax5,bx5,cx5,hs0_⟩:=bE (f:=Zb) G7 (fun _=>rfl) (by decide) hs0_
   obtain ⟨y6,hy6,hs0_⟩:=bC hs0_
   refine Qf Zs (by kernel_rfl) [] (by kernel_rfl) ?_
   refine zF6 ax4 bx4 cx4 ax5 bx5 cx5 ?_
   refine PCall.of (Zdk hy6) ?_
   refine zF6 ax4 bx4 cx4 ax5 bx5 cx5 ?_
   refine zD [0,1,5,26] [] ?_
   refine Zo (t:=(!y6)) rfl (fun c7 => ?_) (fun c7 => ?_)
   ·replace hs0_:=Zn c7 hs0_
    refine zQ [4] ?_
    refine zW ?_
    exact zEy hs0_
   replace hs0_:=Zm c7 hs0_
   refine X9 [0,1,5] [] ?_
   refine zR ?_
   exact zEn hs0_
  replace hs0_:=Zm c8 hs0_
  exact zEx hs0_
 rcases z9 with z9 | z9
 ·dsimp only [Xx] at hw h
  refine Jt hw ?_
  try simp only [Yx,Ya,↓reduceIte,Nat.reduceEqDiff]
  have h:=Option.some.inj h;subst h
  refine Zh (.inr rfl) hU [(vB false)] (by omega) ?_
  simp only [push_cast,seval,↓reduceIte,Zc,Tryz.results63,hN0,hN]
 dsimp only [Xx] at hw h
 refine Yi hw ?_
 try simp only [Yx,Ya,↓reduceIte,Nat.reduceEqDiff]
 refine zD [] [] ?_
 refine zQ [4] ?_
 refine zW ?_
 have h:=Option.some.inj h;subst h
 refine Zh (.inr rfl) hU [(vB true)] (by omega) ?_
 simp only [push_cast,seval,↓reduceIte,Zc,Tryz.results63,hN0,hN]
def Zjv (Qd:(Zf→Zf→Option Bool)):Prop:=∀ {a0:Zf} {a1:Zf} {r:Bool} {O:Objs} {n:Nat},Qd a0 a1=some r→GTo Tryz.prog 21 [.agg (Zg a0),.agg (Zg a1)] O n ((vB r)) O n
theorem Zsr {Qd:(Zf→Zf→Option Bool)} (Zjy:Zjv Qd) {a0:Zf} {a1:Zf} {r:Bool} {O:Objs} {n:Nat} (h:Zbs Qd a0 a1=some r):GTo Tryz.prog 21 [.agg (Zg a0),.agg (Zg a1)] O n ((vB r)) O n:=by
 unfold Zbs at h
 refine Yf Zs Tryz.call21 Tryz.func21 rfl (Nat.le_of_ble_eq_true rfl) (Nat.le_refl _) fun hU => ?_
 have hN0:O n=none:=hU.fresh _ (Nat.le_refl _)
 have hN:∀ k,O (n+k)=none:=fun k=>hU.fresh _ (Nat.le_add_right _ _)
 show W _ _ _ _ ⟨164,[],[(0,.agg (Zg a0)),(1,.agg (Zg a1))]⟩ (Zw O n []) _
 refine zQ [2,3] ?_
 refine Zd ?_
 obtain ⟨z3,hz3,h⟩:=bC h
 refine Y0 (E':=⟨164,[],[(2,.ref n 0),(3,.ref (n+1) 0),(64,(vB z3))]⟩) (O':=(Zw O n [some ⟨false,30,11,1,(Zg a0)⟩,some ⟨false,30,11,1,(Zg a1)⟩])) (n0:=(n+2)) ?_ ?_
 ·rcases Bool.eq_false_or_eq_true (a0.Kind != a1.Kind) with c8 | c8
  ·replace hz3:=Zn c8 hz3
   refine Q7 [none,none,none,none,none,some false,some false,some false,some false,some false,some false,some false,some false,some false,some false,some false,some false,some false,some false,some false,some false,some false,some false,some false,some false,some false,some false,some false,some false,some false,some false,some false,some false,some false,some false,some false,some false,some false] c8 ?_
   refine zG ?_
   exact Qk hz3 c8
  replace hz3:=Zm c8 hz3
  rcases Bool.eq_false_or_eq_true (a0.List_ != a1.List_) with c9 | c9
  ·replace hz3:=Zn c9 hz3
   try rw [c9] at c8
   refine X2 [none,none,none,none,none,some false,some false,some false,some false,some false,some false,some false,some false,some false,some false,some false,some false,some false,some false,some false,some false,some false,some false,some false,some false,some false,some false,some false,some false,some false,some false,some false,some false,some false,some false,some false,some false,some false] c8 c9 ?_
   refine zG ?_
   exact Zcj hz3 c8 c9
  replace hz3:=Zm c9 hz3
  try rw [c9] at c8
  obtain ⟨y6,hy6,hz3⟩:=bC hz3
  rcases Bool.eq_false_or_eq_true y6 with c10 | c10
  ·replace hz3:=Zn c10 hz3
   try rw [c10] at c8
   try rw [c10] at c9
   obtain ⟨y7,hy7,hz3⟩:=bC hz3
   refine Zap [none,none,none,none,none,some true,some true,some true,some true,some true,some true,some true,some true,some true,some true,some true,some true,none,none,none,none,none,none,none,none,none,none,none,none,none,none,none,none,none,none,none,none,none] c8 c9 c10 ?_
   refine zG ?_
   refine (Zdk hy6).then ?_
   refine zX3 c8 c9 c10 ?_
   refine zG ?_
   refine (Zdk hy7).then ?_
   refine zX3 c8 c9 c10 ?_
   refine zG ?_
   exact Zfh hz3 c8 c9 c10
  replace hz3:=Zm c10 hz3
  try rw [c10] at c8
  try rw [c10] at c9
  refine Zap [none,none,none,none,none,some true,some true,some true,some true,some true,some true,some false,some false,some false,some false,some false,some false,some false,some false,some false,some false,some false,some false,some false,some false,some false,some false,some false,some false,some false,some false,some false,some false,some false,some false,some false,some false,some false] c8 c9 c10 ?_
  refine zG ?_
  refine (Zdk hy6).then ?_
  refine zX3 c8 c9 c10 ?_
  refine zG ?_
  exact Zfh hz3 c8 c9 c10
 refine Zo (t:=z3) rfl (fun c65 => ?_) (fun c65 => ?_)
 ·replace h:=Zn c65 h
  refine zQ [4] ?_
  refine zW ?_
  have h:=Option.some.inj h;subst h
  refine Zh (.inr rfl) hU [(vB false)] (by omega) ?_
  simp only [push_cast,seval,↓reduceIte,Zc,Tryz.results21,hN0,hN]
 replace h:=Zm c65 h
 refine X9 [2,3] [true,true] ?_
 refine Zd ?_
 refine zQd [2,3,5] [2,3,5] [true,true] ?_
 obtain ⟨z17,hz17,h⟩:=bC h
 refine Zbe (J:=(Xx (fun z17=>JR n (⟨164,[],[(4,(vB false))]⟩:Env) (Zw O n [none,none]) (n+2)) (fun z17=>JX 0 n (⟨164,[],[(2,.ref n 0),(3,.ref (n+1) 0)]⟩:Env) (Zw O n [some ⟨false,30,11,1,(Zg a0)⟩,some ⟨false,30,11,1,(Zg a1)⟩]) (n+2)))) (z:=z17) ?_ fun hw => ?_
 ·refine Y2 hz17 (fun s0_=>⟨164,[],[(2,.ref n 0),(3,.ref (n+1) 0),(5,(vI s0_))]⟩) (fun s0_=>(Zw O n [some ⟨false,30,11,1,(Zg a0)⟩,some ⟨false,30,11,1,(Zg a1)⟩])) (Xx (fun z17=>JR n (⟨164,[],[(4,(vB false))]⟩:Env) (Zw O n [none,none]) (n+2)) (fun z17=>JX 0 n (⟨164,[],[(2,.ref n 0),(3,.ref (n+1) 0)]⟩:Env) (Zw O n [some ⟨false,30,11,1,(Zg a0)⟩,some ⟨false,30,11,1,(Zg a1)⟩]) (n+2))) ?_
  intro s0_ x0_ hs0_
  unfold Ui at hs0_
  try dsimp only
  refine Zd ?_
  refine zQ [2,3,5,69] ?_
  refine Zo (t:=(decide (s0_ < (a0.Words.length:Int)))) rfl (fun c16 => ?_) (fun c16 => ?_)
  ·replace hs0_:=Zn c16 hs0_
   refine X9 [2,3,5] [true,true] ?_
   refine Zd ?_
   refine Z8 ?_
   obtain ⟨x13,hx13,ax13,bx13,cx13,hs0_⟩:=bE (f:=Zq) Ztb (fun _=>rfl) (by decide) hs0_
   obtain ⟨x14,hx14,ax14,bx14,cx14,hs0_⟩:=bE (f:=Zq) Ztb (fun _=>rfl) (by decide) hs0_
   refine Zis [2,3,5,82] (Qf Zs (by kernel_rfl) [] (by kernel_rfl) ?_)
   refine zF6 ax13 bx13 cx13 ax14 bx14 cx14 ?_
   refine Zo (t:=(!((x13.At == x14.At) && ((x13.Mask == x14.Mask) && ((x13.Old == x14.Old) && (x13.New == x14.New)))))) rfl (fun Vq => ?_) (fun Vq => ?_)
   ·replace hs0_:=Zn Vq hs0_
    refine zQ [4] ?_
    refine zW ?_
    exact zEy hs0_
   replace hs0_:=Zm Vq hs0_
   refine X9 [2,3,5] [true,true] ?_
   refine zR ?_
   exact zEn hs0_
  replace hs0_:=Zm c16 hs0_
  exact zEx hs0_
 rcases z17 with z17 | z17
 ·dsimp only [Xx] at hw h
  refine Jt hw ?_
  try simp only [Yx,Ya,↓reduceIte,Nat.reduceEqDiff]
  have h:=Option.some.inj h;subst h
  refine Zh (.inr rfl) hU [(vB false)] (by omega) ?_
  simp only [push_cast,seval,↓reduceIte,Zc,Tryz.results21,hN0,hN]
 dsimp only [Xx] at hw h
 refine Yi hw ?_
 try simp only [Yx,Ya,↓reduceIte,Nat.reduceEqDiff]
 refine zDs [2,3] [true,true] ?_
 refine zQd [2,3,6] [2,3,6] [true,true] ?_
 obtain ⟨z49,hz49,h⟩:=bC h
 refine Zbe (J:=(Xx (fun z49=>JR n (⟨164,[],[(4,(vB false))]⟩:Env) (Zw O n [none,none]) (n+2)) (fun z49=>JX 2 n (⟨164,[],[(2,.ref n 0),(3,.ref (n+1) 0)]⟩:Env) (Zw O n [some ⟨false,30,11,1,(Zg a0)⟩,some ⟨false,30,11,1,(Zg a1)⟩]) (n+2)))) (z:=z49) ?_ fun hw => ?_
 ·refine Y2 hz49 (fun s1_=>⟨164,[],[(2,.ref n 0),(3,.ref (n+1) 0),(6,(vI s1_))]⟩) (fun s1_=>(Zw O n [some ⟨false,30,11,1,(Zg a0)⟩,some ⟨false,30,11,1,(Zg a1)⟩])) (Xx (fun z49=>JR n (⟨164,[],[(4,(vB false))]⟩:Env) (Zw O n [none,none]) (n+2)) (fun z49=>JX 2 n (⟨164,[],[(2,.ref n 0),(3,.ref (n+1) 0)]⟩:Env) (Zw O n [some ⟨false,30,11,1,(Zg a0)⟩,some ⟨false,30,11,1,(Zg a1)⟩]) (n+2))) ?_
  intro s1_ x1_ hs1_
  unfold Uj at hs1_
  try dsimp only
  refine Zd ?_
  refine zQ [2,3,6,87] ?_
  refine Zo (t:=(decide (s1_ < (a0.Kids.length:Int)))) rfl (fun c48 => ?_) (fun c48 => ?_)
  ·replace hs1_:=Zn c48 hs1_
   refine X9 [2,3,6] [true,true] ?_
   refine Zd ?_
   refine Z8 ?_
   obtain ⟨z27,hz27,hs1_⟩:=bC hs1_
   refine Y0 (E':=⟨164,[],[(2,.ref n 0),(3,.ref (n+1) 0),(6,(vI s1_)),(118,(vB z27))]⟩) (O':=(Zw O n [some ⟨false,30,11,1,(Zg a0)⟩,some ⟨false,30,11,1,(Zg a1)⟩])) (n0:=(n+2)) ?_ ?_
   ·obtain ⟨x37,hx37,ax37,bx37,cx37,hz27⟩:=bE (f:=Zp) Zp2 (fun _=>rfl) (by decide) hz27
    have g38:=Zqe (f:=Zp) (sz:=12) Z5f (fun _=>rfl) (by decide) (by decide) hx37
    obtain ⟨x39,hx39,ax39,bx39,cx39,hz27⟩:=bE (f:=Zp) Zp2 (fun _=>rfl) (by decide) hz27
    have g40:=Zqe (f:=Zp) (sz:=12) Z5f (fun _=>rfl) (by decide) (by decide) hx39
    rcases Bool.eq_false_or_eq_true (x37.At != x39.At) with c46 | c46
    ·replace hz27:=Zn c46 hz27
     refine Qf Zs (by kernel_rfl) [some false,some false,some false,some false,some false,some false,some false,some false,some false,some false,some false,some false,some false,some false] (by kernel_rfl) ?_
     refine zF9 ax37 bx37 cx37 g38 ax39 bx39 cx39 g40 c46 ?_
     have hz27:=Option.some.inj hz27;subst hz27
     refine And.intro rfl (Fit2.of (Z6 hU rfl rfl ?_) (by omega))
     exact Yor ax37 bx37 cx37 g38 ax39 bx39 cx39 g40 c46
    replace hz27:=Zm c46 hz27
    have g42:=Zfj (f:=Zp) (off:=1) (sz:=12) Zrk (fun _=>rfl) (by decide) (by decide) hx37
    have g44:=Zfj (f:=Zp) (off:=1) (sz:=12) Zrk (fun _=>rfl) (by decide) (by decide) hx39
    obtain ⟨y45,hy45,hz27⟩:=bC hz27
    refine Qf Zs (by kernel_rfl) [some true,some true,some true,some true,some true,some true,some true,some true,some true,some true,some true,some true,some true,some true] (by kernel_rfl) ?_
    refine Ymx ax37 bx37 cx37 g38 ax39 bx39 cx39 g40 c46 g42 g44 ?_
    refine PCall.of (Zjy hy45) ?_
    refine Ymx ax37 bx37 cx37 g38 ax39 bx39 cx39 g40 c46 g42 g44 ?_
    have hz27:=Option.some.inj hz27;subst hz27
    refine And.intro rfl (Fit2.of (Z6 hU rfl rfl ?_) (by omega))
    exact Ymy ax37 bx37 cx37 g38 ax39 bx39 cx39 g40 c46 g42 g44
   refine Zo (t:=z27) rfl (fun c47 => ?_) (fun c47 => ?_)
   ·replace hs1_:=Zn c47 hs1_
    refine zQ [4] ?_
    refine zW ?_
    exact zEy hs1_
   replace hs1_:=Zm c47 hs1_
   refine X9 [2,3,6] [true,true] ?_
   refine zR ?_
   exact zEn hs1_
  replace hs1_:=Zm c48 hs1_
  exact zEx hs1_
 rcases z49 with z49 | z49
 ·dsimp only [Xx] at hw h
  refine Jt hw ?_
  try simp only [Yx,Ya,↓reduceIte,Nat.reduceEqDiff]
  have h:=Option.some.inj h;subst h
  refine Zh (.inr rfl) hU [(vB false)] (by omega) ?_
  simp only [push_cast,seval,↓reduceIte,Zc,Tryz.results21,hN0,hN]
 dsimp only [Xx] at hw h
 refine Yi hw ?_
 try simp only [Yx,Ya,↓reduceIte,Nat.reduceEqDiff]
 refine zDs [2,3] [true,true] ?_
 refine zQd [2,3,7] [2,3,7] [true,true] ?_
 obtain ⟨z64,hz64,h⟩:=bC h
 refine Zbe (J:=(Xx (fun z64=>JR n (⟨164,[],[(4,(vB false))]⟩:Env) (Zw O n [none,none]) (n+2)) (fun z64=>JX 4 n (⟨164,[],[]⟩:Env) (Zw O n [none,none]) (n+2)))) (z:=z64) ?_ fun hw => ?_
 ·refine Y2 hz64 (fun s2_=>⟨164,[],[(2,.ref n 0),(3,.ref (n+1) 0),(7,(vI s2_))]⟩) (fun s2_=>(Zw O n [some ⟨false,30,11,1,(Zg a0)⟩,some ⟨false,30,11,1,(Zg a1)⟩])) (Xx (fun z64=>JR n (⟨164,[],[(4,(vB false))]⟩:Env) (Zw O n [none,none]) (n+2)) (fun z64=>JX 4 n (⟨164,[],[]⟩:Env) (Zw O n [none,none]) (n+2))) ?_
  intro s2_ x2_ hs2_
  unfold Uk at hs2_
  try dsimp only
  refine Zd ?_
  refine zQ [2,3,7,123] ?_
  refine Zo (t:=(decide (s2_ < (a0.Ops.length:Int)))) rfl (fun c63 => ?_) (fun c63 => ?_)
  ·replace hs2_:=Zn c63 hs2_
   refine X9 [2,3,7] [true,true] ?_
   refine Zd ?_
   refine Z8 ?_
   obtain ⟨x50,hx50,ax50,bx50,cx50,hs2_⟩:=bE (f:=Zx) Zk9 (fun _=>rfl) (by decide) hs2_
   obtain ⟨x51,hx51,ax51,bx51,cx51,hs2_⟩:=bE (f:=Zx) Zk9 (fun _=>rfl) (by decide) hs2_
   refine Y0 (E':=⟨164,[],[(2,.ref n 0),(3,.ref (n+1) 0),(7,(vI s2_)),(8,.ref (n+2) 0),(9,.ref (n+3) 0)]⟩) (O':=(Zw O n [some ⟨false,30,11,1,(Zg a0)⟩,some ⟨false,30,11,1,(Zg a1)⟩,some ⟨false,89,14,1,(Yw x50)⟩,some ⟨false,89,14,1,(Yw x51)⟩])) (n0:=(n+4)) ?_ ?_
   ·refine Yb6 Zs (by kernel_rfl) [.low,.low,.low,.low,.low,.low,.low,.low,.low,.low,.pass,.pass,.pass,.pass] (fun i=>i < (n+2)) 10 11 [0,1,2,3,4,5,6,7,8,9] [12,13] [.low,.low,.low,.low,.low,.low,.low,.low,.low,.low] [.pass,.pass,.pass,.pass] [.pass,.pass,.pass,.pass] [] (by kernel_rfl) rfl rfl rfl ?_
    refine zF6 ax50 bx50 cx50 ax51 bx51 cx51 ?_
    repeat (with_reducible refine And.intro (by omega) ?_)
    refine And.intro ?_ ?_
    ·refine zF6 ax50 bx50 cx50 ax51 bx51 cx51 ?_
     repeat (with_reducible refine And.intro (by first | exact Xb rfl | exact Yv) ?_)
     exact Yhx ax50 bx50 cx50 ax51 bx51 cx51
    refine zF6 ax50 bx50 cx50 ax51 bx51 cx51 ?_
    repeat (with_reducible refine And.intro (by first | exact Xb rfl | exact Yv) ?_)
    refine And.intro rfl ?_
    refine Fit2.trans (E':=(⟨164,[],[(2,.ref n 0),(3,.ref (n+1) 0),(7,(vI s2_)),(8,.ref (n+3) 0),(9,.ref (n+2) 0)]⟩:Env)) (O':=(Zw O n [some ⟨false,30,11,1,(Zg a0)⟩,some ⟨false,30,11,1,(Zg a1)⟩,some ⟨false,89,14,1,(Yw x51)⟩,some ⟨false,89,14,1,(Yw x50)⟩])) (n':=(n+4)) (Fit2.of (Z6 hU rfl rfl ?_) (by omega)) ?_
    ·exact Yiy ax50 bx50 cx50 ax51 bx51 cx51
    refine Kk (k:=4) (k':=4) hU [0,1,3,2] [0,1,3,2] rfl rfl rfl rfl ⟨rfl,rfl⟩ ?_
    exact zSe
   obtain ⟨z54,hz54,hs2_⟩:=bC hs2_
   refine Y0 (E':=⟨164,[],[(2,.ref n 0),(3,.ref (n+1) 0),(7,(vI s2_)),(163,(vB z54))]⟩) (O':=(Zw O n [some ⟨false,30,11,1,(Zg a0)⟩,some ⟨false,30,11,1,(Zg a1)⟩,none,none])) (n0:=(n+4)) ?_ ?_
   ·rcases Bool.eq_false_or_eq_true (x50.Kind != x51.Kind) with c59 | c59
    ·replace hz54:=Zn c59 hz54
     refine Q7 [none,none,none,none,none,some false,some false,some false,some false,some false,some false,some false,some false,some false,some false,some false,some false] c59 ?_
     refine zG ?_
     exact Qk hz54 c59
    replace hz54:=Zm c59 hz54
    rcases Bool.eq_false_or_eq_true (x50.N != x51.N) with c60 | c60
    ·replace hz54:=Zn c60 hz54
     try rw [c60] at c59
     refine X2 [none,none,none,none,none,some false,some false,some false,some false,some false,some false,some false,some false,some false,some false,some false,some false] c59 c60 ?_
     refine zG ?_
     exact Zcj hz54 c59 c60
    replace hz54:=Zm c60 hz54
    try rw [c60] at c59
    obtain ⟨y57,hy57,hz54⟩:=bC hz54
    rcases Bool.eq_false_or_eq_true y57 with c61 | c61
    ·replace hz54:=Zn c61 hz54
     try rw [c61] at c59
     try rw [c61] at c60
     obtain ⟨y58,hy58,hz54⟩:=bC hz54
     refine Zap [none,none,none,none,none,some true,some true,some true,some true,some true,some true,some true,some true,some true,some true,some true,some true] c59 c60 c61 ?_
     refine zG ?_
     refine (Zin hy57).then ?_
     refine zX3 c59 c60 c61 ?_
     refine zG ?_
     refine (Zjy hy58).then ?_
     refine zX3 c59 c60 c61 ?_
     refine zG ?_
     exact Zfh hz54 c59 c60 c61
    replace hz54:=Zm c61 hz54
    try rw [c61] at c59
    try rw [c61] at c60
    refine Zap [none,none,none,none,none,some true,some true,some true,some true,some true,some true,some false,some false,some false,some false,some false,some false] c59 c60 c61 ?_
    refine zG ?_
    refine (Zin hy57).then ?_
    refine zX3 c59 c60 c61 ?_
    refine zG ?_
    exact Zfh hz54 c59 c60 c61
   refine Zo (t:=z54) rfl (fun c62 => ?_) (fun c62 => ?_)
   ·replace hs2_:=Zn c62 hs2_
    refine zQ [4] ?_
    refine zW ?_
    exact zEy hs2_
   replace hs2_:=Zm c62 hs2_
   refine X9 [2,3,7] [true,true,false,false] ?_
   refine zR ?_
   exact zEn hs2_
  replace hs2_:=Zm c63 hs2_
  exact zEx hs2_
 rcases z64 with z64 | z64
 ·dsimp only [Xx] at hw h
  refine Jt hw ?_
  try simp only [Yx,Ya,↓reduceIte,Nat.reduceEqDiff]
  have h:=Option.some.inj h;subst h
  refine Zh (.inr rfl) hU [(vB false)] (by omega) ?_
  simp only [push_cast,seval,↓reduceIte,Zc,Tryz.results21,hN0,hN]
 dsimp only [Xx] at hw h
 refine Yi hw ?_
 try simp only [Yx,Ya,↓reduceIte,Nat.reduceEqDiff]
 refine zD [] [false,false] ?_
 refine zQ [4] ?_
 refine zW ?_
 have h:=Option.some.inj h;subst h
 refine Zh (.inr rfl) hU [(vB true)] (by omega) ?_
 simp only [push_cast,seval,↓reduceIte,Zc,Tryz.results21,hN0,hN]
theorem Zqj:∀ k,(Zjv (J9 k)):=fun k=>by
 induction k with
 | zero=>exact @fun a0 a1 r O n h=>(nomatch (show (none:Option _)=some _ from h))
 | succ k ih=>exact @fun a0 a1 r O n h=>Zsr (ih)  h
theorem Zlo {a0:Zf} {a1:Zf} {r:Bool} {O:Objs} {n:Nat} (h:Zh7 a0 a1=some r):GTo Tryz.prog 21 [.agg (Zg a0),.agg (Zg a1)] O n ((vB r)) O n:=by
 obtain ⟨k,hk⟩:=Vx h
 exact (Zqj k)  hk
theorem Zog {a0:Zf} {r:Bool} {O:Objs} {n:Nat} (h:Zaf a0=some r):GTo Tryz.prog 3 [.agg (Zg a0)] O n ((vB r)) O n:=by
 unfold Zaf at h
 refine Yf Zs Tryz.call3 Tryz.func3 rfl (Nat.le_of_ble_eq_true rfl) (Nat.le_refl _) fun hU => ?_
 have hN0:O n=none:=hU.fresh _ (Nat.le_refl _)
 have hN:∀ k,O (n+k)=none:=fun k=>hU.fresh _ (Nat.le_add_right _ _)
 show W _ _ _ _ ⟨36,[],[(0,.agg (Zg a0))]⟩ (Zw O n []) _
 refine zQ [1] ?_
 refine Zd ?_
 refine Zd ?_
 obtain ⟨y2,hy2,h⟩:=bC h
 refine zCd (Zwd hy2) [1,8] [true] ?_
 refine Zo (t:=(!y2)) rfl (fun c30 => ?_) (fun c30 => ?_)
 ·replace h:=Zn c30 h
  refine Zd ?_
  obtain ⟨y4,hy4,h⟩:=bC h
  refine zCd (Zg9 hy4) [2] [false] ?_
  refine zW ?_
  have h:=Option.some.inj h;subst h
  refine Zh (.inr rfl) hU [(vB y4)] (by omega) ?_
  simp only [push_cast,seval,↓reduceIte,Zc,Tryz.results3,hN0,hN]
 replace h:=Zm c30 h
 refine X9 [1] [true] ?_
 refine Zd ?_
 obtain ⟨y6,hy6,h⟩:=bC h
 refine zCd (Zok hy6) [1,3] [true,true] ?_
 refine Zd ?_
 refine Zd ?_
 obtain ⟨y9,hy9,h⟩:=bC h
 obtain ⟨y10,hy10,h⟩:=bC h
 refine Qf Zs (by kernel_rfl) [] (by kernel_rfl) ?_
 refine zS ?_
 refine PCall.of (Zwf hy9) ?_
 refine zS ?_
 refine PCall.of (Zmp hy10) ?_
 refine zS ?_
 refine zD [1,3,16] [true,true] ?_
 refine Zo (t:=(!y10)) rfl (fun c29 => ?_) (fun c29 => ?_)
 ·replace h:=Zn c29 h
  refine zQ [2] ?_
  refine zW ?_
  have h:=Option.some.inj h;subst h
  refine Zh (.inr rfl) hU [(vB false)] (by omega) ?_
  simp only [push_cast,seval,↓reduceIte,Zc,Tryz.results3,hN0,hN]
 replace h:=Zm c29 h
 refine X9 [1,3] [true,true] ?_
 refine Zd ?_
 obtain ⟨y12,hy12,h⟩:=bC h
 refine zCd (Zvw hy12) [1,3,4,5] [true,true,true] ?_
 obtain ⟨z17,hz17,h⟩:=bC h
 refine Y0 (E':=⟨36,[],[(2,(vB z17))]⟩) (O':=(Zw O n [none,none,none])) (n0:=(n+3)) ?_ ?_
 ·obtain ⟨y22,hy22,hz17⟩:=bC hz17
  rcases Bool.eq_false_or_eq_true y22 with c26 | c26
  ·replace hz17:=Zn c26 hz17
   rcases Bool.eq_false_or_eq_true y12.2 with c27 | c27
   ·replace hz17:=Zn c27 hz17
    try rw [c27] at c26
    obtain ⟨y23,hy23,hz17⟩:=bC hz17
    rcases Bool.eq_false_or_eq_true y23 with c28 | c28
    ·replace hz17:=Zn c28 hz17
     try rw [c28] at c26
     try rw [c28] at c27
     obtain ⟨y24,hy24,hz17⟩:=bC hz17
     refine Zap [some true,some true,some true,some true,some true,some true,some true] c26 c27 c28 ?_
     refine (Jp hy22).then ?_
     refine zX3 c26 c27 c28 ?_
     refine (Zlo hy23).then ?_
     refine zX3 c26 c27 c28 ?_
     refine (Zg9 hy24).then ?_
     refine zX3 c26 c27 c28 ?_
     exact Zfh hz17 c26 c27 c28
    replace hz17:=Zm c28 hz17
    try rw [c28] at c26
    try rw [c28] at c27
    refine Zap [some true,some true,some true,some true,some true,some true,some false] c26 c27 c28 ?_
    refine (Jp hy22).then ?_
    refine zX3 c26 c27 c28 ?_
    refine (Zlo hy23).then ?_
    refine zX3 c26 c27 c28 ?_
    exact Zfh hz17 c26 c27 c28
   replace hz17:=Zm c27 hz17
   try rw [c27] at c26
   refine X2 [some true,some true,some false,some false,some false,some true,some false] c26 c27 ?_
   refine (Jp hy22).then ?_
   refine zX2 c26 c27 ?_
   exact Zcj hz17 c26 c27
  replace hz17:=Zm c26 hz17
  obtain ⟨y25,hy25,hz17⟩:=bC hz17
  refine Q7 [some false,some false,some false,some false,some false,some false,some true] c26 ?_
  refine (Jp hy22).then ?_
  refine zX1 c26 ?_
  refine (Zg9 hy25).then ?_
  refine zX1 c26 ?_
  exact Qk hz17 c26
 refine zW ?_
 have h:=Option.some.inj h;subst h
 refine Zh (.inr rfl) hU [(vB z17)] (by omega) ?_
 simp only [push_cast,seval,↓reduceIte,Zc,Tryz.results3,hN0,hN]
end Go.Proofs.YtmlcnhambfkjaaaGreat
