/- Part AM1 of this seat's mirrors: functions of the seat's program, and the plain functions that they are; each theorem bears its own conditions. -/
import Derived.Test.YtmlcnhambfkjaaaGreatAE
namespace Go.Proofs.YtmlcnhambfkjaaaGreat
open Go.RowKit
set_option linter.unusedVariables false
set_option linter.unusedSimpArgs false
set_option maxRecDepth 100000
set_option maxHeartbeats 4000000
attribute [local push_cast] vI vB nV sL oR Zg Kz Xm Yw Ze Uz Kf Qp Zu Zxi Zxh Zyk Zyj Yx Ya Zr5 Zmf Zme onW Q8 Zih Zg4 Zxn Zv3 Zpw Zp1 Zpv Zp0 Zta Zs6 Zpz Zs9 Zs8 Zs7 Zpx Zs4 Znh evS wok J7 Op.operands Call.operands gop onK onP atK List.all_cons List.all_nil Bool.and_true Bool.true_and Bool.and_self Value.oneCell' List.take_zero List.take_succ_cons List.take_nil List.drop_zero List.drop_succ_cons List.drop_nil List.append_nil Nat.add_zero Nat.zero_add Zcg Xa ev K4 Zxf Zw7 Zw6 Zxc Zxa Zxb Zw8 Zw9 Zw5 Z0j Z1o Z59 Zoe Zhh Zn2 Zh2 Zo5 Zld Zke Zkj Zl9 Zl5 Zkh Zl8 Zl7 Zl6 Zkg Zl3 Zkf Zki Zi2 Zl4 Zrl Zmg Zeh Zn3 Zei Zqd Zod Z2o bLo bHi bMx Zhi Zqc Z7m Zoc Zq7 Zka Zcv Z1c Z7q Zn0 Zkn Z7t Zhg Z9a Zsb Zsf Zsa Zse Zxu Zxq Zxo Zo8 Zsc Zxt Zxs Zxr Zsd Zxp Zqg Zxj Zsz Zm5 Zm4 pop TK.isAgg Zyc Zyg Zyb Zyf Zsu Z3i Z3e Zye Z3h Z3g Z3f Zyd Z3d G.under G.unders List.getD_cons_zero List.getD_cons_succ List.set_cons_zero List.set_cons_succ List.map_cons List.map_nil List.toList_toArray Array.toList_append Option.toArray_none Option.toArray_some Array.toList_map Option.map_some Option.map_none Option.bind_some Option.bind_none List.getElem?_cons_zero List.getElem?_cons_succ List.getElem?_nil List.nil_append List.cons_append List.replicate_succ List.replicate_zero List.length_cons List.length_nil and_true true_and and_false false_and Bool.true_eq_false Bool.false_eq_true forall_const false_implies implies_true IntKind.bits if_true if_false ite_true ite_false eq_self true_implies false_or or_false or_true true_or not_true_eq_false not_false_eq_true decide_true decide_false decide_eq_true_eq decide_eq_false_iff_not beq_iff_eq bne_iff_ne ne_eq Bool.not_eq_true Bool.not_eq_false beq_eq_false_iff_ne bne_eq_false_iff_eq beq_self_eq_true bne_self_eq_false Option.some.injEq exists_eq_left' exists_eq_left ge_iff_le gt_iff_lt decide_not Bool.not_true Bool.not_false imp_self Z2p cond_true cond_false Yd9 Yd8 Bool.not_not Bool.and_false Bool.false_and Bool.or_true Bool.true_or Bool.or_false Bool.false_or Zfm Zlq Ga Vb Jj Ql Option.join_some Nat.add_assoc Int.toNat_natCast eI eB eS eL U1 Zlx Zkp Zxm Zxk Zxl Z9s Ybv Zlz Zk1 Zyr Zyp Zyq Z6l Zr4 Z2i Zs2 Z2h Zgw Z0h List.length_append G.agg.injEq G.row.injEq G.ref.injEq G.val.injEq G.sl.injEq G.tup.injEq Value.int.injEq Value.bool.injEq Value.string.injEq List.cons.injEq exists_and_left exists_const List.flatten_cons List.flatten_nil Int.le_refl Nat.le_refl Zgp J0 Zbq Bool.not_eq_true' Bool.not_eq_false' Zz5 Zno Z52 Z56 Z51 Z55 Ya6 Ya1 List.size_toArray Zyv Zyw G.ren G.rens Z1y Zlh Zyy Zw2 Zw3 Zs5 Z57 Zhb G.fn.injEq Zp5 Zu2 Zz3 Ya2 Zu1 Z54 Ya5 Ya4 Ya3 Z53 Z2x Z9i Option.join_none Xw Zae undef Zq8 Arr.len Arr.put_eq Zly Zpm Zm0 Zk0 Zyo Zym Zyn onB Z9r Z1a Zs3 Zo0 Zrs Zrt Zru Zrv Zrw Zrx Zpc Zpq Zpo Zm3 Zk2 Zpp Zsy Zsx Zsw Zsv Ybu Ydn Z6k Z3k Uf Z6c Zxy Zpr Zm2 Z8a Zy1 Zob Zq6 Zjq Zps Zry Zrz Zr0 Zr1 Zos Zot Zou Zov Zow Zox Zoy Zkk prT Zh4 Yfy Z5p Z5f Z5q Yfz Z5r Z6p Z5s Yf0 Z5t Yf1 Z5u Yf2 Z5v Yf3 Z5w Z95 Zy5 Z96 Zy6 Z97 Zy7 Z98 Zy8 Z99 Zy9 Yaa Zza Yab Zzb Yac Zzc Yad Zzd Yae Zze Yaf Zzf Zv0 Zjs Z44 Zn9 Yag Zzg G7 Zzh Yah Zzi Yai Zzj Yaj Zzk Yak Zzl Zrk Zzm Yal Zzn Yam Zzo Yan Zzp Yao Zzq Yap Zvi Yaq Zzr Yar Zzs Zci Zzt Yas Zzu Yat Zzv Ztb Zzw Yau Zzx Zp2 Zzy Yav Zzz Zk9 Zz0 Z3z Ztc Z30 Ztd Z31 Zte Z32 Ztf Z33 Ztg Z34 Zth Z35 Zti Z36 Ztj Z37 Ztk Z38 Ztl Z39 Ztm Z4a Ztn Z4b Zto Z4c Ztp Z4d Ztq Z4e Ztr Z4f Zts Z4g Ztt Z4h Ztu Z4i Ztv Z4j Ztw Z4k Ztx Z4l Zty Zwq Zp3 Z4m Ztz Z4n Zt0 Z4o Zt1 Z4p Zt2 Z4q Zt3 Z4r Zt4 Z4s Zt5 Z4t Zt6 Z4u Zt7 Z4v Zt8 Z4w Zt9 Z4x Zua Z4y Zub Z4z Zuc Z40 Zud Z41 Zue Z42 Zuf Z43 Zug Z45 Zuh Z46 Zui Z47 Zuj Z48 Zuk Z49 Zul Z5a Zum Z5b Zun Z5c Zuo Z5d Zup Z5e Zuq Z5g Zur Z5h Zus Z5i Zut Z5j Zuu Z5k Zuv Z5l Zuw Z5m Zux Z5n Zuy Zb Y4 Znq Znn Zmj Zmy Zns Zlb Zk6 Zk4 Znk Zd9 Zd8 Zdw Zd3 Zea Zc9 Zc8 Zc7 Zd7 Zq Qy Zp Zx Xh Y6 Xv Zac Zab Gp Gz Zad Uu Us Ur G8 Zba Za8 Za0 Za4 Zbc G9 G4 G0 Za6 Zgr Zgq Zf4 Zgg Zgu Zff Zfd Zfc Zgn Zp7 Zp6 Zo6 Zpk Zp8 Znl Znb Zna Zp4 Znp Znm Zmi Zmx Znr Zla Zk5 Zk3 Znj Zkm Zez Zhu Zht Zhj Zhq Zhv Zgo Zgj Zgi Zhs Zv Zbb Za9 Za1 Za5 Zbd Zaa G5 G3 Za7 Zf0 Zkl Zf1 Yl Uw Uv Uo Uq Ux V6 V5 V4 Ut Yd Vl Vk Vd Vh Vm Ky Kw Kv Vj
theorem Zvl {a0:Int} {r:Int} {O:Objs} {n:Nat} (h:Zh6 a0=some r):GTo Tryz.prog 109 [(vI a0)] O n ((vI r)) O n:=by
 unfold Zh6 at h
 refine Yf Zs Tryz.call109 Tryz.func109 rfl (Nat.le_of_ble_eq_true rfl) (Nat.le_refl _) fun hU => ?_
 have hN0:O n=none:=hU.fresh _ (Nat.le_refl _)
 have hN:∀ k,O (n+k)=none:=fun k=>hU.fresh _ (Nat.le_add_right _ _)
 show W _ _ _ _ ⟨16,[],[(0,(vI a0))]⟩ (Zw O n []) _
 refine zQ [0] ?_
 refine Zd ?_
 refine zQ [3] ?_
 refine Z8 ?_
 refine zQ [3,4] ?_
 refine Zo (t:=(a0 == 0)) rfl (fun c6 => ?_) (fun c6 => ?_)
 ·replace h:=Zn c6 h
  refine zQ [2] ?_
  refine zW ?_
  have h:=Option.some.inj h;subst h
  refine Zh (.inr rfl) hU [(vI 0)] (by omega) ?_
  simp only [push_cast,seval,↓reduceIte,Zc,Tryz.results109,hN0,hN]
 replace h:=Zm c6 h
 refine zQ [3,6] ?_
 refine Zo (t:=(a0 == 1)) rfl (fun c5 => ?_) (fun c5 => ?_)
 ·replace h:=Zn c5 h
  refine zQ [2] ?_
  refine zW ?_
  have h:=Option.some.inj h;subst h
  refine Zh (.inr rfl) hU [(vI 1)] (by omega) ?_
  simp only [push_cast,seval,↓reduceIte,Zc,Tryz.results109,hN0,hN]
 replace h:=Zm c5 h
 refine zQ [3,8] ?_
 refine Zo (t:=(a0 == 2)) rfl (fun c4 => ?_) (fun c4 => ?_)
 ·replace h:=Zn c4 h
  refine zQ [2] ?_
  refine zW ?_
  have h:=Option.some.inj h;subst h
  refine Zh (.inr rfl) hU [(vI 8)] (by omega) ?_
  simp only [push_cast,seval,↓reduceIte,Zc,Tryz.results109,hN0,hN]
 replace h:=Zm c4 h
 refine zQ [3,10] ?_
 refine Zo (t:=(a0 == 3)) rfl (fun c3 => ?_) (fun c3 => ?_)
 ·replace h:=Zn c3 h
  refine zQ [2] ?_
  refine zW ?_
  have h:=Option.some.inj h;subst h
  refine Zh (.inr rfl) hU [(vI 16)] (by omega) ?_
  simp only [push_cast,seval,↓reduceIte,Zc,Tryz.results109,hN0,hN]
 replace h:=Zm c3 h
 refine zQ [3,12] ?_
 refine Zo (t:=(a0 == 4)) rfl (fun c2 => ?_) (fun c2 => ?_)
 ·replace h:=Zn c2 h
  refine zQ [2] ?_
  refine zW ?_
  have h:=Option.some.inj h;subst h
  refine Zh (.inr rfl) hU [(vI 32)] (by omega) ?_
  simp only [push_cast,seval,↓reduceIte,Zc,Tryz.results109,hN0,hN]
 replace h:=Zm c2 h
 refine zQ [14] ?_
 refine Zo (t:=(a0 == 5)) rfl (fun c1 => ?_) (fun c1 => ?_)
 ·replace h:=Zn c1 h
  refine zQ [2] ?_
  refine zW ?_
  have h:=Option.some.inj h;subst h
  refine Zh (.inr rfl) hU [(vI 64)] (by omega) ?_
  simp only [push_cast,seval,↓reduceIte,Zc,Tryz.results109,hN0,hN]
 replace h:=Zm c1 h
 refine X9 [] [] ?_
 refine zQ [2] ?_
 refine zW ?_
 have h:=Option.some.inj h;subst h
 refine Zh (.inr rfl) hU [(vI (-1))] (by omega) ?_
 simp only [push_cast,seval,↓reduceIte,Zc,Tryz.results109,hN0,hN]
theorem Zmn {a0:Int} {a1:Int} {r:Bool} {O:Objs} {n:Nat} (h:Zag a0 a1=some r):GTo Tryz.prog 61 [(vI a0),.val (.int .u64 a1)] O n ((vB r)) O n:=by
 unfold Zag at h
 refine Yf Zs Tryz.call61 Tryz.func61 rfl (Nat.le_of_ble_eq_true rfl) (Nat.le_refl _) fun hU => ?_
 have hN0:O n=none:=hU.fresh _ (Nat.le_refl _)
 have hN:∀ k,O (n+k)=none:=fun k=>hU.fresh _ (Nat.le_add_right _ _)
 show W _ _ _ _ ⟨20,[],[(0,(vI a0)),(1,.val (.int .u64 a1))]⟩ (Zw O n []) _
 refine zQ [0,1] ?_
 refine Zd ?_
 obtain ⟨y2,hy2,h⟩:=bC h
 refine zCd (Zvl hy2) [1,5] [] ?_
 refine Zd ?_
 refine zQ [1,5,10] ?_
 refine Zo (t:=(decide (y2 < 0))) rfl (fun c5 => ?_) (fun c5 => ?_)
 ·replace h:=Zn c5 h
  refine zQ [4] ?_
  refine zW ?_
  have h:=Option.some.inj h;subst h
  refine Zh (.inr rfl) hU [(vB false)] (by omega) ?_
  simp only [push_cast,seval,↓reduceIte,Zc,Tryz.results61,hN0,hN]
 replace h:=Zm c5 h
 refine X9 [1,5] [] ?_
 refine Zd ?_
 refine zQd [1,5,6] [1,5,6] [] ?_
 obtain ⟨z4,hz4,h⟩:=bC h
 refine Yi (E':=⟨20,[],[(1,.val (.int .u64 z4))]⟩) (O':=(Zw O n [])) (n0:=n) ?_ ?_
 ·refine Y2 hz4 (fun s0_=>⟨20,[],[(1,.val (.int .u64 s0_.1)),(5,(vI y2)),(6,(vI s0_.2))]⟩) (fun s0_=>(Zw O n [])) (fun z4=>JX 0 n (⟨20,[],[(1,.val (.int .u64 z4))]⟩:Env) (Zw O n []) n) ?_
  intro s0_ x0_ hs0_
  unfold Jc at hs0_
  try dsimp only
  refine Zd ?_
  refine zQ [1,5,6,13] ?_
  refine Zo (t:=(decide (s0_.2 < y2))) rfl (fun c3 => ?_) (fun c3 => ?_)
  ·replace hs0_:=Zn c3 hs0_
   refine X9 [1,5,6] [] ?_
   refine Zd ?_
   refine Z8 ?_
   refine zRd [1,5,6] [] ?_
   refine zR ?_
   exact zEn hs0_
  replace hs0_:=Zm c3 hs0_
  exact zEx hs0_
 try simp only [Yx,Ya,↓reduceIte,Nat.reduceEqDiff]
 refine zD [1] [] ?_
 refine zQ [4] ?_
 refine zW ?_
 have h:=Option.some.inj h;subst h
 refine Zh (.inr rfl) hU [(vB (z4 == 0))] (by omega) ?_
 simp only [push_cast,seval,↓reduceIte,Zc,Tryz.results61,hN0,hN]
def Zju (Jz:(Za→Int→Option Bool)):Prop:=∀ {a0:Za} {a1:Int} {r:Bool} {O:Objs} {n:Nat},Jz a0 a1=some r→GTo Tryz.prog 20 [.agg (Ze a0),(vI a1)] O n ((vB r)) O n
theorem Zsq {Jz:(Za→Int→Option Bool)} (Zrq:Zju Jz) {a0:Za} {a1:Int} {r:Bool} {O:Objs} {n:Nat} (h:Zbr Jz a0 a1=some r):GTo Tryz.prog 20 [.agg (Ze a0),(vI a1)] O n ((vB r)) O n:=by
 unfold Zbr at h
 refine Yf Zs Tryz.call20 Tryz.func20 rfl (Nat.le_of_ble_eq_true rfl) (Nat.le_refl _) fun hU => ?_
 have hN0:O n=none:=hU.fresh _ (Nat.le_refl _)
 have hN:∀ k,O (n+k)=none:=fun k=>hU.fresh _ (Nat.le_add_right _ _)
 show W _ _ _ _ ⟨132,[],[(0,.agg (Ze a0)),(1,(vI a1))]⟩ (Zw O n []) _
 refine zQ [1,2] ?_
 refine Zd ?_
 refine zQ [1,2,10] ?_
 refine Zo (t:=(a0.Kind == 0)) rfl (fun c32 => ?_) (fun c32 => ?_)
 ·replace h:=Zn c32 h
  refine zQD [4] [none,none,none,none] ?_
  refine zW ?_
  have h:=Option.some.inj h;subst h
  refine Zh (.inr rfl) hU [(vB (cond ((a0.Words.length:Int) == 0) ((a0.Kids.length:Int) == 0) false))] (by omega) ?_
  simp only [push_cast,seval,↓reduceIte,Zc,Tryz.results20,hN0,hN]
 replace h:=Zm c32 h
 refine X9 [1,2] [true] ?_
 refine Zd ?_
 refine zQ [1,2,23] ?_
 refine Zo (t:=(a0.Kind == 10)) rfl (fun c31 => ?_) (fun c31 => ?_)
 ·replace h:=Zn c31 h
  refine zQD [4] [none,none,none,none] ?_
  refine zW ?_
  have h:=Option.some.inj h;subst h
  refine Zh (.inr rfl) hU [(vB (cond ((a0.Words.length:Int) == 1) ((a0.Kids.length:Int) == 0) false))] (by omega) ?_
  simp only [push_cast,seval,↓reduceIte,Zc,Tryz.results20,hN0,hN]
 replace h:=Zm c31 h
 refine X9 [1,2] [true] ?_
 refine Zd ?_
 refine zQD [1,2,68] [none,none,none,none,none,none,none,none,none,none,none,none,none,none,none,none,none,none,none,none,none,none] ?_
 refine Zo (t:=(cond (cond (cond (cond (cond (decide (a0.Kind < 0)) true (decide (10 < a0.Kind))) true (a1 == 0)) true (decide (65536≤(a0.Words.length:Int)))) true (cond (a0.Kind == 1) (decide (65536≤(a0.Kids.length:Int))) false)) true (decide (1048576≤(a0.Kids.length:Int))))) rfl (fun c30 => ?_) (fun c30 => ?_)
 ·replace h:=Zn c30 h
  refine zQ [4] ?_
  refine zW ?_
  have h:=Option.some.inj h;subst h
  refine Zh (.inr rfl) hU [(vB false)] (by omega) ?_
  simp only [push_cast,seval,↓reduceIte,Zc,Tryz.results20,hN0,hN]
 replace h:=Zm c30 h
 refine X9 [1,2] [true] ?_
 refine Zd ?_
 refine zQD [1,2,77] [none,none,none,none] ?_
 refine Zo (t:=(cond (decide (1 < a0.Kind)) (decide (0 < (a0.Words.length:Int))) false)) rfl (fun c29 => ?_) (fun c29 => ?_)
 ·replace h:=Zn c29 h
  refine zQ [4] ?_
  refine zW ?_
  have h:=Option.some.inj h;subst h
  refine Zh (.inr rfl) hU [(vB false)] (by omega) ?_
  simp only [push_cast,seval,↓reduceIte,Zc,Tryz.results20,hN0,hN]
 replace h:=Zm c29 h
 refine X9 [1,2] [true] ?_
 refine Zd ?_
 refine zQd [1,2,5] [1,2,5] [true] ?_
 obtain ⟨z28,hz28,h⟩:=bC h
 refine Zbe (J:=(Xx (fun z28=>JR n (⟨132,[],[(4,(vB false))]⟩:Env) (Zw O n [none]) (n+1)) (fun z28=>JX 0 n (⟨132,[],[]⟩:Env) (Zw O n [none]) (n+1)))) (z:=z28) ?_ fun hw => ?_
 ·refine Y2 hz28 (fun s0_=>⟨132,[],[(1,(vI a1)),(2,.ref n 0),(5,(vI s0_))]⟩) (fun s0_=>(Zw O n [some ⟨false,25,3,1,(Ze a0)⟩])) (Xx (fun z28=>JR n (⟨132,[],[(4,(vB false))]⟩:Env) (Zw O n [none]) (n+1)) (fun z28=>JX 0 n (⟨132,[],[]⟩:Env) (Zw O n [none]) (n+1))) ?_
  intro s0_ x0_ hs0_
  unfold Uh at hs0_
  try dsimp only
  refine Zd ?_
  refine zQ [1,2,5,82] ?_
  refine Zo (t:=(decide (s0_ < (a0.Kids.length:Int)))) rfl (fun c27 => ?_) (fun c27 => ?_)
  ·replace hs0_:=Zn c27 hs0_
   refine X9 [1,2,5] [true] ?_
   refine Zd ?_
   refine Z8 ?_
   refine Zd ?_
   obtain ⟨x2,hx2,ax2,bx2,cx2,hs0_⟩:=bE (f:=Zb) G7 (fun _=>rfl) (by decide) hs0_
   refine Zck [] ax2 bx2 cx2 ?_
   refine zDs [1,2,5,6] [true,true] ?_
   refine Zd ?_
   obtain ⟨y4,hy4,hs0_⟩:=bC hs0_
   refine zCd (Zrq hy4) [1,2,5,6,94] [true,true] ?_
   refine Zo (t:=(!y4)) rfl (fun c26 => ?_) (fun c26 => ?_)
   ·replace hs0_:=Zn c26 hs0_
    refine zQ [4] ?_
    refine zW ?_
    exact zEy hs0_
   replace hs0_:=Zm c26 hs0_
   refine X9 [1,2,5,6] [true,true] ?_
   refine zQD [1,2,5,6,7] [none,none,none] ?_
   obtain ⟨z9,hz9,hs0_⟩:=bC hs0_
   refine Y0 (E':=⟨132,[],[(1,(vI a1)),(2,.ref n 0),(5,(vI s0_)),(131,(vB z9))]⟩) (O':=(Zw O n [some ⟨false,25,3,1,(Ze a0)⟩,none])) (n0:=(n+2)) ?_ ?_
   ·rcases Bool.eq_false_or_eq_true ((cond (decide (2≤a0.Kind)) (decide (a0.Kind≤7)) false) != (x2.Kind == 10)) with c18 | c18
    ·replace hz9:=Zn c18 hz9
     refine Qf Zs (by kernel_rfl) [none,none,none,none,none,none,none,none,some false,some false,some false,some false,some false,some false,some false,some false,some false,some false,some false,some false] (by kernel_rfl) ?_
     refine zX1 c18 ?_
     refine zG ?_
     exact Qk hz9 c18
    replace hz9:=Zm c18 hz9
    rcases Bool.eq_false_or_eq_true (a0.Kind == 9) with c19 | c19
    ·replace hz9:=Zn c19 hz9
     try rw [c19] at c18
     try simp only [Bool.cond_true,Bool.cond_false,Bool.true_bne,Bool.false_bne,Bool.true_beq,Bool.false_beq,Bool.not_eq_true',Bool.not_eq_false'] at c18
     rcases Bool.eq_false_or_eq_true (x2.Kind != 1) with c20 | c20
     ·replace hz9:=Zn c20 hz9
      try rw [c20] at c18
      try rw [c20] at c19
      try simp only [Bool.cond_true,Bool.cond_false,Bool.true_bne,Bool.false_bne,Bool.true_beq,Bool.false_beq,Bool.not_eq_true',Bool.not_eq_false'] at c18
      refine Qf Zs (by kernel_rfl) [none,none,none,none,none,none,none,none,some false,some false,some false,some false,some false,some false,some false,some false,some false,some false,some false,some false] (by kernel_rfl) ?_
      refine zX3 c18 c19 c20 ?_
      refine zG ?_
      exact Zfh hz9 c18 c19 c20
     replace hz9:=Zm c20 hz9
     try rw [c20] at c18
     try rw [c20] at c19
     try simp only [Bool.cond_true,Bool.cond_false,Bool.true_bne,Bool.false_bne,Bool.true_beq,Bool.false_beq,Bool.not_eq_true',Bool.not_eq_false'] at c18
     rcases Bool.eq_false_or_eq_true (decide (2≤a0.Kind)) with c21 | c21
     ·replace hz9:=Zn c21 hz9
      try rw [c21] at c18
      try rw [c21] at c19
      try rw [c21] at c20
      try simp only [Bool.cond_true,Bool.cond_false,Bool.true_bne,Bool.false_bne,Bool.true_beq,Bool.false_beq,Bool.not_eq_true',Bool.not_eq_false'] at c18
      rcases Bool.eq_false_or_eq_true (decide (a0.Kind≤7)) with c22 | c22
      ·replace hz9:=Zn c22 hz9
       try rw [c22] at c18
       try rw [c22] at c19
       try rw [c22] at c20
       try rw [c22] at c21
       try simp only [Bool.cond_true,Bool.cond_false,Bool.true_bne,Bool.false_bne,Bool.true_beq,Bool.false_beq,Bool.not_eq_true',Bool.not_eq_false'] at c18
       obtain ⟨x14,hx14,ax14,bx14,cx14,hz9⟩:=bE (f:=(eI .u64)) Zci (fun _=>rfl) (by decide) hz9
       obtain ⟨y15,hy15,hz9⟩:=bC hz9
       refine Qf Zs (by kernel_rfl) [none,none,none,none,none,none,none,none,some true,some true,some true,some true,some true,some true,some true,some true,some true,some true,some true,some true] (by kernel_rfl) ?_
       refine zF8 c18 c19 c20 c21 c22 ax14 bx14 cx14 ?_
       refine zG ?_
       refine PCall.of (Zmn hy15) ?_
       refine zF8 c18 c19 c20 c21 c22 ax14 bx14 cx14 ?_
       refine zG ?_
       exact Ymw hz9 c18 c19 c20 c21 c22 ax14 bx14 cx14
      replace hz9:=Zm c22 hz9
      try rw [c22] at c18
      try rw [c22] at c19
      try rw [c22] at c20
      try rw [c22] at c21
      try simp only [Bool.cond_true,Bool.cond_false,Bool.true_bne,Bool.false_bne,Bool.true_beq,Bool.false_beq,Bool.not_eq_true',Bool.not_eq_false'] at c18
      refine Qf Zs (by kernel_rfl) [none,none,none,none,none,none,none,none,some true,some true,some false,some false,some false,some false,some false,some false,some false,some false,some false,some true] (by kernel_rfl) ?_
      refine zX5 c18 c19 c20 c21 c22 ?_
      refine zG ?_
      exact Z7e hz9 c18 c19 c20 c21 c22
     replace hz9:=Zm c21 hz9
     try rw [c21] at c18
     try rw [c21] at c19
     try rw [c21] at c20
     try simp only [Bool.cond_true,Bool.cond_false,Bool.true_bne,Bool.false_bne,Bool.true_beq,Bool.false_beq,Bool.not_eq_true',Bool.not_eq_false'] at c18
     refine Qf Zs (by kernel_rfl) [none,none,none,none,none,none,none,none,some true,some true,some false,some false,some false,some false,some false,some false,some false,some false,some false,some true] (by kernel_rfl) ?_
     refine zX4 c18 c19 c20 c21 ?_
     refine zG ?_
     exact Zu3 hz9 c18 c19 c20 c21
    replace hz9:=Zm c19 hz9
    try rw [c19] at c18
    try simp only [Bool.cond_true,Bool.cond_false,Bool.true_bne,Bool.false_bne,Bool.true_beq,Bool.false_beq,Bool.not_eq_true',Bool.not_eq_false'] at c18
    rcases Bool.eq_false_or_eq_true (decide (2≤a0.Kind)) with c23 | c23
    ·replace hz9:=Zn c23 hz9
     try rw [c23] at c18
     try rw [c23] at c19
     try simp only [Bool.cond_true,Bool.cond_false,Bool.true_bne,Bool.false_bne,Bool.true_beq,Bool.false_beq,Bool.not_eq_true',Bool.not_eq_false'] at c18
     rcases Bool.eq_false_or_eq_true (decide (a0.Kind≤7)) with c24 | c24
     ·replace hz9:=Zn c24 hz9
      try rw [c24] at c18
      try rw [c24] at c19
      try rw [c24] at c23
      try simp only [Bool.cond_true,Bool.cond_false,Bool.true_bne,Bool.false_bne,Bool.true_beq,Bool.false_beq,Bool.not_eq_true',Bool.not_eq_false'] at c18
      obtain ⟨x16,hx16,ax16,bx16,cx16,hz9⟩:=bE (f:=(eI .u64)) Zci (fun _=>rfl) (by decide) hz9
      obtain ⟨y17,hy17,hz9⟩:=bC hz9
      refine Qf Zs (by kernel_rfl) [none,none,none,none,none,none,none,none,some true,some true,some true,some true,some true,some true,some true,some true,some true,some true,some true,some true] (by kernel_rfl) ?_
      refine zF7 c18 c19 c23 c24 ax16 bx16 cx16 ?_
      refine zG ?_
      refine PCall.of (Zmn hy17) ?_
      refine zF7 c18 c19 c23 c24 ax16 bx16 cx16 ?_
      refine zG ?_
      exact Yhz hz9 c18 c19 c23 c24 ax16 bx16 cx16
     replace hz9:=Zm c24 hz9
     try rw [c24] at c18
     try rw [c24] at c19
     try rw [c24] at c23
     try simp only [Bool.cond_true,Bool.cond_false,Bool.true_bne,Bool.false_bne,Bool.true_beq,Bool.false_beq,Bool.not_eq_true',Bool.not_eq_false'] at c18
     refine Qf Zs (by kernel_rfl) [none,none,none,none,none,none,none,none,some true,some true,some false,some false,some false,some false,some false,some false,some false,some false,some false,some true] (by kernel_rfl) ?_
     refine zX4 c18 c19 c23 c24 ?_
     refine zG ?_
     exact Zu3 hz9 c18 c19 c23 c24
    replace hz9:=Zm c23 hz9
    try rw [c23] at c18
    try rw [c23] at c19
    try simp only [Bool.cond_true,Bool.cond_false,Bool.true_bne,Bool.false_bne,Bool.true_beq,Bool.false_beq,Bool.not_eq_true',Bool.not_eq_false'] at c18
    refine Qf Zs (by kernel_rfl) [none,none,none,none,none,none,none,none,some true,some true,some false,some false,some false,some false,some false,some false,some false,some false,some false,some true] (by kernel_rfl) ?_
    refine zX3 c18 c19 c23 ?_
    refine zG ?_
    exact Zfh hz9 c18 c19 c23
   refine Zo (t:=z9) rfl (fun c25 => ?_) (fun c25 => ?_)
   ·replace hs0_:=Zn c25 hs0_
    refine zQ [4] ?_
    refine zW ?_
    exact zEy hs0_
   replace hs0_:=Zm c25 hs0_
   refine X9 [1,2,5] [true,false] ?_
   refine zR ?_
   exact zEn hs0_
  replace hs0_:=Zm c27 hs0_
  exact zEx hs0_
 rcases z28 with z28 | z28
 ·dsimp only [Xx] at hw h
  refine Jt hw ?_
  try simp only [Yx,Ya,↓reduceIte,Nat.reduceEqDiff]
  have h:=Option.some.inj h;subst h
  refine Zh (.inr rfl) hU [(vB false)] (by omega) ?_
  simp only [push_cast,seval,↓reduceIte,Zc,Tryz.results20,hN0,hN]
 dsimp only [Xx] at hw h
 refine Yi hw ?_
 try simp only [Yx,Ya,↓reduceIte,Nat.reduceEqDiff]
 refine zD [] [false] ?_
 refine zQ [4] ?_
 refine zW ?_
 have h:=Option.some.inj h;subst h
 refine Zh (.inr rfl) hU [(vB true)] (by omega) ?_
 simp only [push_cast,seval,↓reduceIte,Zc,Tryz.results20,hN0,hN]
theorem Zqi:∀ k,(Zju (J8 k)):=fun k=>by
 induction k with
 | zero=>exact @fun a0 a1 r O n h=>(nomatch (show (none:Option _)=some _ from h))
 | succ k ih=>exact @fun a0 a1 r O n h=>Zsq (ih)  h
theorem Jp {a0:Za} {a1:Int} {r:Bool} {O:Objs} {n:Nat} (h:U3 a0 a1=some r):GTo Tryz.prog 20 [.agg (Ze a0),(vI a1)] O n ((vB r)) O n:=by
 obtain ⟨k,hk⟩:=Vx h
 exact (Zqi k)  hk
theorem Zwc {a0:(List Int)} {r:(List Int)} {O:Objs} {n:Nat} (h:Zcx a0=some r):GTo Tryz.prog 121 [(sL (eI .u64) a0)] O n ((sL (eI .u64) r)) O n:=by
 unfold Zcx at h
 refine Yf Zs Tryz.call121 Tryz.func121 rfl (Nat.le_of_ble_eq_true rfl) (Nat.le_refl _) fun hU => ?_
 have hN0:O n=none:=hU.fresh _ (Nat.le_refl _)
 have hN:∀ k,O (n+k)=none:=fun k=>hU.fresh _ (Nat.le_add_right _ _)
 show W _ _ _ _ ⟨24,[],[(0,(sL (eI .u64) a0))]⟩ (Zw O n []) _
 refine zQ [0] ?_
 refine zQ [0,3] ?_
 refine Zd ?_
 refine zD [0,3] [] ?_
 obtain ⟨z7,hz7,h⟩:=bC h
 refine Yi (E':=⟨24,[],[(0,(sL (eI .u64) a0)),(3,(vI z7))]⟩) (O':=(Zw O n [])) (n0:=n) ?_ ?_
 ·refine Y2 hz7 (fun s0_=>⟨24,[],[(0,(sL (eI .u64) a0)),(3,(vI s0_))]⟩) (fun s0_=>(Zw O n [])) (fun z7=>JX 0 n (⟨24,[],[(0,(sL (eI .u64) a0)),(3,(vI z7))]⟩:Env) (Zw O n []) n) ?_
  intro s0_ x0_ hs0_
  unfold Gs at hs0_
  try dsimp only
  refine Zd ?_
  obtain ⟨z2,hz2,hs0_⟩:=bC hs0_
  refine Y0 (E':=⟨24,[],[(0,(sL (eI .u64) a0)),(3,(vI s0_)),(16,(vB z2))]⟩) (O':=(Zw O n [])) (n0:=n) ?_ ?_
  ·rcases Bool.eq_false_or_eq_true (decide (0 < s0_)) with c5 | c5
   ·replace hz2:=Zn c5 hz2
    obtain ⟨x4,hx4,ax4,bx4,cx4,hz2⟩:=bE (f:=(eI .u64)) Zci (fun _=>rfl) (by decide) hz2
    refine Z1m [some true,some true,some true,some true,some true,some true] c5 ax4 bx4 cx4 ?_
    exact Ygd hz2 c5 ax4 bx4 cx4
   replace hz2:=Zm c5 hz2
   refine Q7 [some false,some false,some false,some false,some false,some false] c5 ?_
   exact Qk hz2 c5
  refine Zo (t:=z2) rfl (fun c6 => ?_) (fun c6 => ?_)
  ·replace hs0_:=Zn c6 hs0_
   refine X9 [0,3] [] ?_
   refine Z8 ?_
   refine zR ?_
   exact zEn hs0_
  replace hs0_:=Zm c6 hs0_
  exact zEx hs0_
 try simp only [Yx,Ya,↓reduceIte,Nat.reduceEqDiff]
 refine zD [0,3] [] ?_
 refine zQ [0,3,4] ?_
 refine Zd ?_
 obtain ⟨l10,al10,bl10,cl10,gl10,h⟩:=bS (lo:=none) (hi:=(some (.i64,z7))) (f:=(eI .u64)) rfl rfl Zjs Zci (fun _=>rfl) h
 obtain ⟨l11,pl11,ql11,el11,h⟩:=bA0 (k:=l10.length) rfl h
 refine Ym3 [] al10 bl10 cl10 gl10 pl11 ql11 el11 ?_
 refine Vp ⟨24,[],[(2,.row n l11.length)]⟩ (Zw O n [some (oR 77 1 (eI .u64) l11)]) (Z6 hU rfl rfl ?_) ?_
 ·simp only [push_cast,seval,↓reduceIte,Zc,al10,bl10,cl10,gl10,pl11,ql11,el11,hN0,hN]
 refine zW ?_
 have h:=Option.some.inj h;subst h
 refine Zh (.inr rfl) hU [.row n l11.length] (by omega) ?_
 simp only [push_cast,seval,↓reduceIte,Zc,Tryz.results121,hN0,hN]
def Zkv (Ki:(Za→Option Za)):Prop:=∀ {a0:Za} {r:Za} {O:Objs} {n:Nat},Ki a0=some r→GTo Tryz.prog 77 [.agg (Ze a0)] O n (.agg (Ze r)) O n
theorem Zvp {Ki:(Za→Option Za)} (Zsk:Zkv Ki) {a0:Za} {r:Za} {O:Objs} {n:Nat} (h:Zcr Ki a0=some r):GTo Tryz.prog 77 [.agg (Ze a0)] O n (.agg (Ze r)) O n:=by
 unfold Zcr at h
 refine Yf Zs Tryz.call77 Tryz.func77 rfl (Nat.le_of_ble_eq_true rfl) (Nat.le_refl _) fun hU => ?_
 have hN0:O n=none:=hU.fresh _ (Nat.le_refl _)
 have hN:∀ k,O (n+k)=none:=fun k=>hU.fresh _ (Nat.le_add_right _ _)
 show W _ _ _ _ ⟨53,[],[(0,.agg (Ze a0))]⟩ (Zw O n []) _
 refine zQ [1,2] ?_
 refine Zd ?_
 refine zQ [1,2,10] ?_
 refine Zo (t:=(a0.Kind == 0)) rfl (fun c19 => ?_) (fun c19 => ?_)
 ·replace h:=Zn c19 h
  refine Zd ?_
  refine zRd [2] [false,true] ?_
  refine zW ?_
  have h:=Option.some.inj h;subst h
  refine Zh (.inr rfl) hU [.agg [(vI 0),nV,nV]] (by omega) ?_
  simp only [push_cast,seval,↓reduceIte,Zc,Tryz.results77,hN0,hN]
 replace h:=Zm c19 h
 refine X9 [1,2] [true,true] ?_
 refine zQ [1,2,3] ?_
 refine zQ [1,2,3,4] ?_
 refine Zd ?_
 refine zQd [1,2,3,4,5] [1,2,3,4,5] [true,true] ?_
 refine Zdn (E':=(⟨53,[],[(1,.ref n 0),(2,.ref (n+1) 0),(3,.row (n+2) ([]:List Za).length),(4,(vI 0)),(5,(vI 0))]⟩:Env)) (O':=(Zw O n [some ⟨false,25,3,1,(Ze a0)⟩,some ⟨false,25,3,1,[(vI 0),nV,nV]⟩,some (oR 25 3 Zb ([]:List Za)),none])) (n':=(n+4)) ?_ ?_
 ·refine Fit2.trans (E':=(⟨53,[],[(1,.ref n 0),(2,.ref (n+1) 0),(3,nV),(4,(vI 0)),(5,(vI 0))]⟩:Env)) (O':=(Zw O n [some ⟨false,25,3,1,(Ze a0)⟩,some ⟨false,25,3,1,[(vI 0),nV,nV]⟩])) (n':=(n+2)) (Fit2.of (Z6 hU rfl rfl ?_) (by omega)) ?_
  ·exact zSe
  refine Fit2.trans (Zcm 3 25 3 rfl (by omega)) ?_
  simp only [Jj,Ql,Ga,Vb,List.set_cons_zero,List.set_cons_succ,List.cons_append,List.nil_append,List.length_cons,List.length_nil,Nat.zero_add,Nat.reduceAdd,Nat.reduceLT,Nat.add_assoc]
  refine Fit2.trans (E':=(⟨53,[],[(1,.ref n 0),(2,.ref (n+1) 0),(3,.row (n+2) ([]:List Za).length),(4,(vI 0)),(5,(vI 0))]⟩:Env)) (O':=(Zw O n [some ⟨false,25,3,1,(Ze a0)⟩,some ⟨false,25,3,1,[(vI 0),nV,nV]⟩,some (oR 25 3 Zb ([]:List Za))])) (n':=(n+3)) (Fit2.of (Z6 hU rfl rfl ?_) (by omega)) ?_
  ·exact zSe
  refine Kk (k:=3) (k':=4) hU [0,1,2] [0,1,2,0] rfl rfl rfl rfl ⟨rfl,rfl⟩ ?_
  exact zSe
 obtain ⟨z10,hz10,h⟩:=bC h
 refine Yi (E':=⟨53,[],[(1,.ref n 0),(2,.ref (n+1) 0),(3,.row (n+2) z10.2.length),(4,(vI z10.1))]⟩) (O':=(Zw O n [some ⟨false,25,3,1,(Ze a0)⟩,some ⟨false,25,3,1,[(vI 0),nV,nV]⟩,some (oR 25 3 Zb z10.2),none])) (n0:=(n+4)) ?_ ?_
 ·refine Y2 hz10 (fun s0_=>⟨53,[],[(1,.ref n 0),(2,.ref (n+1) 0),(3,.row (n+2) s0_.2.2.length),(4,(vI s0_.1)),(5,(vI s0_.2.1))]⟩) (fun s0_=>(Zw O n [some ⟨false,25,3,1,(Ze a0)⟩,some ⟨false,25,3,1,[(vI 0),nV,nV]⟩,some (oR 25 3 Zb s0_.2.2),none])) (fun z10=>JX 0 n (⟨53,[],[(1,.ref n 0),(2,.ref (n+1) 0),(3,.row (n+2) z10.2.length),(4,(vI z10.1))]⟩:Env) (Zw O n [some ⟨false,25,3,1,(Ze a0)⟩,some ⟨false,25,3,1,[(vI 0),nV,nV]⟩,some (oR 25 3 Zb z10.2),none]) (n+4)) ?_
  intro s0_ x0_ hs0_
  unfold Jw at hs0_
  try dsimp only
  refine Zd ?_
  refine zQ [1,2,3,4,5,16] ?_
  refine Zo (t:=(decide (s0_.2.1 < (a0.Kids.length:Int)))) rfl (fun c9 => ?_) (fun c9 => ?_)
  ·replace hs0_:=Zn c9 hs0_
   refine X9 [1,2,3,4,5] [true,true,true,false] ?_
   obtain ⟨z1,hz1,hs0_⟩:=bC hs0_
   refine Y0 (E':=⟨53,[],[(1,.ref n 0),(2,.ref (n+1) 0),(3,.row (n+2) z1.2.length),(4,(vI z1.1)),(5,(vI s0_.2.1))]⟩) (O':=(Zw O n [some ⟨false,25,3,1,(Ze a0)⟩,some ⟨false,25,3,1,[(vI 0),nV,nV]⟩,some (oR 25 3 Zb z1.2),none,none,none])) (n0:=(n+6)) ?_ ?_
   ·refine Z8 ?_
    refine Zd ?_
    obtain ⟨x4,hx4,ax4,bx4,cx4,hz1⟩:=bE (f:=Zb) G7 (fun _=>rfl) (by decide) hz1
    obtain ⟨y5,hy5,hz1⟩:=bC hz1
    refine Zck [] ax4 bx4 cx4 ?_
    refine (Zsk hy5).then ?_
    refine zF3 ax4 bx4 cx4 ?_
    refine zDs [1,2,3,4,5,6] [true,true,true,false,true] ?_
    obtain ⟨l7,pl7,ql7,el7,hz1⟩:=bA (k:=1) rfl hz1
    refine Zap [] pl7 ql7 el7 ?_
    refine Vp ⟨53,[],[(1,.ref n 0),(2,.ref (n+1) 0),(3,.row (n+2) l7.length),(4,(vI s0_.1)),(5,(vI s0_.2.1)),(6,.ref (n+4) 0)]⟩ (Zw O n [some ⟨false,25,3,1,(Ze a0)⟩,some ⟨false,25,3,1,[(vI 0),nV,nV]⟩,some (oR 25 3 Zb l7),none,some ⟨false,25,3,1,(Ze y5)⟩,none]) (Z6 hU rfl rfl ?_) ?_
    ·exact Znt pl7 ql7 el7
    refine zQ [1,2,3,4,5,31] ?_
    refine Zo (t:=(y5.Kind != 0)) rfl (fun c8 => ?_) (fun c8 => ?_)
    ·replace hz1:=Zn c8 hz1
     refine zR ?_
     exact zEn hz1
    replace hz1:=Zm c8 hz1
    refine zK ?_
    exact zEn hz1
   refine zR ?_
   exact zEn hs0_
  replace hs0_:=Zm c9 hs0_
  exact zEx hs0_
 try simp only [Yx,Ya,↓reduceIte,Nat.reduceEqDiff]
 refine zDs [1,2,3,4] [true,true,true,false] ?_
 refine zQ [1,2,3,4,36] ?_
 refine Zo (t:=(a0.Kind == 1)) rfl (fun c18 => ?_) (fun c18 => ?_)
 ·replace h:=Zn c18 h
  refine Vp ⟨53,[],[(1,.ref n 0),(2,.ref (n+1) 0),(3,(sL Zb z10.2)),(4,(vI z10.1))]⟩ (Zw O n [some ⟨false,25,3,1,(Ze a0)⟩,some ⟨false,25,3,1,[(vI 0),nV,nV]⟩,none,none]) (Z6 hU rfl rfl ?_) ?_
  ·exact zSe
  refine Zd ?_
  obtain ⟨y14,hy14,h⟩:=bC h
  obtain ⟨l15,al15,bl15,cl15,gl15,h⟩:=bS (lo:=none) (hi:=(some (.i64,z10.1))) (f:=Zb) rfl rfl Zn9 G7 (fun _=>rfl) h
  refine Zhw Zs (by kernel_rfl) [false,false,false,false,false,false,false,true] [] (by kernel_rfl) ?_
  refine zX4 al15 bl15 cl15 gl15 ?_
  refine PCall.of (Zwc hy14) ?_
  refine zX4 al15 bl15 cl15 gl15 ?_
  refine zD [2] [false,true,false,false] ?_
  refine zW ?_
  have h:=Option.some.inj h;subst h
  refine Zh (.inr rfl) hU [.agg [(vI 1),(sL (eI .u64) y14),(sL Zb l15)]] (by omega) ?_
  simp only [push_cast,seval,↓reduceIte,Zc,Tryz.results77,hN0,hN]
 replace h:=Zm c18 h
 refine X9 [1,2,3] [true,true,true,false] ?_
 refine zQ [1,2,3,7] ?_
 refine Zd ?_
 obtain ⟨l17,pl17,ql17,el17,h⟩:=bA0 (k:=a0.Words.length) rfl h
 refine Zap [] pl17 ql17 el17 ?_
 refine Vp ⟨53,[],[(1,.ref n 0),(2,.ref (n+1) 0),(3,.row (n+2) z10.2.length),(7,.row (n+4) l17.length)]⟩ (Zw O n [some ⟨false,25,3,1,(Ze a0)⟩,some ⟨false,25,3,1,[(vI 0),nV,nV]⟩,some (oR 25 3 Zb z10.2),none,some (oR 77 1 (eI .u64) l17)]) (Z6 hU rfl rfl ?_) ?_
 ·exact Znt pl17 ql17 el17
 refine Zd ?_
 refine zRd [2] [false,true,true,false,true] ?_
 refine zW ?_
 have h:=Option.some.inj h;subst h
 refine Zh (.inr rfl) hU [.agg [(vI a0.Kind),.row (n+4) l17.length,.row (n+2) z10.2.length]] (by omega) ?_
 simp only [push_cast,seval,↓reduceIte,Zc,Tryz.results77,hN0,hN]
theorem Zrm:∀ k,(Zkv (Qt k)):=fun k=>by
 induction k with
 | zero=>exact @fun a0 r O n h=>(nomatch (show (none:Option _)=some _ from h))
 | succ k ih=>exact @fun a0 r O n h=>Zvp (ih)  h
theorem Zmo {a0:Za} {r:Za} {O:Objs} {n:Nat} (h:Zft a0=some r):GTo Tryz.prog 77 [.agg (Ze a0)] O n (.agg (Ze r)) O n:=by
 obtain ⟨k,hk⟩:=Vx h
 exact (Zrm k)  hk
def Zim (Jf:(Za→Int→Int→Option Int)):Prop:=∀ {a0:Za} {a1:Int} {a2:Int} {r:Int} {O:Objs} {n:Nat},Jf a0 a1 a2=some r→GTo Tryz.prog 64 [.agg (Ze a0),(vI a1),(vI a2)] O n ((vI r)) O n
theorem Zqv {Jf:(Za→Int→Int→Option Int)} (Zpg:Zim Jf) {a0:Za} {a1:Int} {a2:Int} {r:Int} {O:Objs} {n:Nat} (h:Ja Jf a0 a1 a2=some r):GTo Tryz.prog 64 [.agg (Ze a0),(vI a1),(vI a2)] O n ((vI r)) O n:=by
 unfold Ja at h
 refine Yf Zs Tryz.call64 Tryz.func64 rfl (Nat.le_of_ble_eq_true rfl) (Nat.le_refl _) fun hU => ?_
 have hN0:O n=none:=hU.fresh _ (Nat.le_refl _)
 have hN:∀ k,O (n+k)=none:=fun k=>hU.fresh _ (Nat.le_add_right _ _)
 show W _ _ _ _ ⟨41,[],[(0,.agg (Ze a0)),(1,(vI a1)),(2,(vI a2))]⟩ (Zw O n []) _
 refine zQ [1,2,3] ?_
 refine zQ [1,2,3] ?_
 refine Zd ?_
 refine zQD [1,2,3,19] [none,none] ?_
 refine Zo (t:=(cond (a1 == 0) true (decide ((IntKind.i64.wrap ((IntKind.i64.wrap (a2 - 1)) - (a0.Words.length:Int))) < 0)))) rfl (fun c5 => ?_) (fun c5 => ?_)
 ·replace h:=Zn c5 h
  refine zQ [6] ?_
  refine zW ?_
  have h:=Option.some.inj h;subst h
  refine Zh (.inr rfl) hU [(vI (-1))] (by omega) ?_
  simp only [push_cast,seval,↓reduceIte,Zc,Tryz.results64,hN0,hN]
 replace h:=Zm c5 h
 refine X9 [1,2,3] [true] ?_
 refine Zd ?_
 refine zQd [1,2,3,7] [1,2,3,7] [true] ?_
 obtain ⟨z4,hz4,h⟩:=bC h
 refine Yi (E':=⟨41,[],[(2,(vI z4))]⟩) (O':=(Zw O n [none])) (n0:=(n+1)) ?_ ?_
 ·refine Y2 hz4 (fun s0_=>⟨41,[],[(1,(vI a1)),(2,(vI s0_.1)),(3,.ref n 0),(7,(vI s0_.2))]⟩) (fun s0_=>(Zw O n [some ⟨false,25,3,1,(Ze a0)⟩])) (fun z4=>JX 0 n (⟨41,[],[(2,(vI z4))]⟩:Env) (Zw O n [none]) (n+1)) ?_
  intro s0_ x0_ hs0_
  unfold Q1 at hs0_
  try dsimp only
  refine Zd ?_
  refine zQD [1,2,3,7,28] [none,none] ?_
  refine Zo (t:=(cond (decide (s0_.2 < (a0.Kids.length:Int))) (decide (0≤s0_.1)) false)) rfl (fun c3 => ?_) (fun c3 => ?_)
  ·replace hs0_:=Zn c3 hs0_
   refine X9 [1,2,3,7] [true] ?_
   refine Zd ?_
   refine Z8 ?_
   obtain ⟨x1,hx1,ax1,bx1,cx1,hs0_⟩:=bE (f:=Zb) G7 (fun _=>rfl) (by decide) hs0_
   obtain ⟨y2,hy2,hs0_⟩:=bC hs0_
   refine Zck [] ax1 bx1 cx1 ?_
   refine (Zpg hy2).then ?_
   refine zF3 ax1 bx1 cx1 ?_
   refine zD [1,2,3,7] [true] ?_
   refine zR ?_
   exact zEn hs0_
  replace hs0_:=Zm c3 hs0_
  exact zEx hs0_
 try simp only [Yx,Ya,↓reduceIte,Nat.reduceEqDiff]
 refine zD [2] [false] ?_
 refine zQ [6] ?_
 refine zW ?_
 have h:=Option.some.inj h;subst h
 refine Zh (.inr rfl) hU [(vI z4)] (by omega) ?_
 simp only [push_cast,seval,↓reduceIte,Zc,Tryz.results64,hN0,hN]
theorem Zof:∀ k,(Zim (Xd k)):=fun k=>by
 induction k with
 | zero=>exact @fun a0 a1 a2 r O n h=>(nomatch (show (none:Option _)=some _ from h))
 | succ k ih=>exact @fun a0 a1 a2 r O n h=>Zqv (ih)  h
theorem Zfp {a0:Za} {a1:Int} {a2:Int} {r:Int} {O:Objs} {n:Nat} (h:Jy a0 a1 a2=some r):GTo Tryz.prog 64 [.agg (Ze a0),(vI a1),(vI a2)] O n ((vI r)) O n:=by
 obtain ⟨k,hk⟩:=Vx h
 exact (Zof k)  hk
def Zkx (Qq:(Zf→Int→Int→Option Int)):Prop:=∀ {a0:Zf} {a1:Int} {a2:Int} {r:Int} {O:Objs} {n:Nat},Qq a0 a1 a2=some r→GTo Tryz.prog 67 [.agg (Zg a0),(vI a1),(vI a2)] O n ((vI r)) O n
theorem Zvr {Qq:(Zf→Int→Int→Option Int)} (Zkz:Zkx Qq) {a0:Zf} {a1:Int} {a2:Int} {r:Int} {O:Objs} {n:Nat} (h:Q4 Qq a0 a1 a2=some r):GTo Tryz.prog 67 [.agg (Zg a0),(vI a1),(vI a2)] O n ((vI r)) O n:=by
 unfold Q4 at h
 refine Yf Zs Tryz.call67 Tryz.func67 rfl (Nat.le_of_ble_eq_true rfl) (Nat.le_refl _) fun hU => ?_
 have hN0:O n=none:=hU.fresh _ (Nat.le_refl _)
 have hN:∀ k,O (n+k)=none:=fun k=>hU.fresh _ (Nat.le_add_right _ _)
 show W _ _ _ _ ⟨107,[],[(0,.agg (Zg a0)),(1,(vI a1)),(2,(vI a2))]⟩ (Zw O n []) _
 refine zQ [1,2,3] ?_
 refine zQ [1,2,3] ?_
 refine Zd ?_
 refine zQD [1,2,3,25] [none,none] ?_
 refine Zo (t:=(cond (a1 == 0) true (decide ((IntKind.i64.wrap ((IntKind.i64.wrap ((IntKind.i64.wrap (a2 - 1)) - (a0.Words.length:Int))) - (a0.Ops.length:Int))) < 0)))) rfl (fun c28 => ?_) (fun c28 => ?_)
 ·replace h:=Zn c28 h
  refine zQ [6] ?_
  refine zW ?_
  have h:=Option.some.inj h;subst h
  refine Zh (.inr rfl) hU [(vI (-1))] (by omega) ?_
  simp only [push_cast,seval,↓reduceIte,Zc,Tryz.results67,hN0,hN]
 replace h:=Zm c28 h
 refine X9 [1,2,3] [true] ?_
 refine Zd ?_
 obtain ⟨y2,hy2,h⟩:=bC h
 refine zCd (Zfp hy2) [1,2,3] [true] ?_
 obtain ⟨z3,hz3,h⟩:=bC h
 refine Y0 (E':=⟨107,[],[(1,(vI a1)),(2,(vI z3)),(3,.ref n 0)]⟩) (O':=(Zw O n [some ⟨false,30,11,1,(Zg a0)⟩])) (n0:=(n+1)) ?_ ?_
 ·refine zQ [1,2,3,31] ?_
  refine Zo (t:=(decide (0≤y2))) rfl (fun c5 => ?_) (fun c5 => ?_)
  ·replace hz3:=Zn c5 hz3
   obtain ⟨y4,hy4,hz3⟩:=bC hz3
   refine zC (Zfp hy4) ?_
   exact zEn hz3
  replace hz3:=Zm c5 hz3
  refine zK ?_
  exact zEn hz3
 refine Zd ?_
 refine zQd [1,2,3,7] [1,2,3,7] [true] ?_
 obtain ⟨z10,hz10,h⟩:=bC h
 refine Yi (E':=⟨107,[],[(1,(vI a1)),(2,(vI z10)),(3,.ref n 0)]⟩) (O':=(Zw O n [some ⟨false,30,11,1,(Zg a0)⟩])) (n0:=(n+1)) ?_ ?_
 ·refine Y2 hz10 (fun s0_=>⟨107,[],[(1,(vI a1)),(2,(vI s0_.1)),(3,.ref n 0),(7,(vI s0_.2))]⟩) (fun s0_=>(Zw O n [some ⟨false,30,11,1,(Zg a0)⟩])) (fun z10=>JX 0 n (⟨107,[],[(1,(vI a1)),(2,(vI z10)),(3,.ref n 0)]⟩:Env) (Zw O n [some ⟨false,30,11,1,(Zg a0)⟩]) (n+1)) ?_
  intro s0_ x0_ hs0_
  unfold Qn at hs0_
  try dsimp only
  refine Zd ?_
  refine zQD [1,2,3,7,44] [none,none] ?_
  refine Zo (t:=(cond (decide (s0_.2 < (a0.Kids.length:Int))) (decide (0≤s0_.1)) false)) rfl (fun c9 => ?_) (fun c9 => ?_)
  ·replace hs0_:=Zn c9 hs0_
   refine X9 [1,2,3,7] [true] ?_
   refine Zd ?_
   refine Z8 ?_
   obtain ⟨x6,hx6,ax6,bx6,cx6,hs0_⟩:=bE (f:=Zp) Zp2 (fun _=>rfl) (by decide) hs0_
   have g7:=Zfj (f:=Zp) (off:=1) (sz:=12) Zrk (fun _=>rfl) (by decide) (by decide) hx6
   obtain ⟨y8,hy8,hs0_⟩:=bC hs0_
   refine Z1m [] ax6 bx6 cx6 g7 ?_
   refine (Zkz hy8).then ?_
   refine zF4 ax6 bx6 cx6 g7 ?_
   refine zD [1,2,3,7] [true] ?_
   refine zR ?_
   exact zEn hs0_
  replace hs0_:=Zm c9 hs0_
  exact zEx hs0_
 try simp only [Yx,Ya,↓reduceIte,Nat.reduceEqDiff]
 refine zDs [1,2,3] [true] ?_
 refine zQd [1,2,3,8] [1,2,3,8] [true] ?_
 obtain ⟨z27,hz27,h⟩:=bC h
 refine Yi (E':=⟨107,[],[(2,(vI z27))]⟩) (O':=(Zw O n [none])) (n0:=(n+1)) ?_ ?_
 ·refine Y2 hz27 (fun s1_=>⟨107,[],[(1,(vI a1)),(2,(vI s1_.1)),(3,.ref n 0),(8,(vI s1_.2))]⟩) (fun s1_=>(Zw O n [some ⟨false,30,11,1,(Zg a0)⟩])) (fun z27=>JX 2 n (⟨107,[],[(2,(vI z27))]⟩:Env) (Zw O n [none]) (n+1)) ?_
  intro s1_ x1_ hs1_
  unfold Qo at hs1_
  try dsimp only
  refine Zd ?_
  refine zQD [1,2,3,8,65] [none,none] ?_
  refine Zo (t:=(cond (decide (s1_.2 < (a0.Ops.length:Int))) (decide (0≤s1_.1)) false)) rfl (fun c26 => ?_) (fun c26 => ?_)
  ·replace hs1_:=Zn c26 hs1_
   refine X9 [1,2,3,8] [true] ?_
   obtain ⟨z11,hz11,hs1_⟩:=bC hs1_
   refine Y0 (E':=⟨107,[],[(1,(vI a1)),(2,(vI z11)),(3,.ref n 0),(8,(vI s1_.2))]⟩) (O':=(Zw O n [some ⟨false,30,11,1,(Zg a0)⟩])) (n0:=(n+1)) ?_ ?_
   ·refine Z8 ?_
    refine Zd ?_
    refine zQd [1,2,3,8,9] [1,2,3,8,9] [true] ?_
    obtain ⟨z21,hz21,hz11⟩:=bC hz11
    refine Yi (E':=⟨107,[],[(1,(vI a1)),(2,(vI z21)),(3,.ref n 0),(8,(vI s1_.2))]⟩) (O':=(Zw O n [some ⟨false,30,11,1,(Zg a0)⟩])) (n0:=(n+1)) ?_ ?_
    ·refine Y2 hz21 (fun s2_=>⟨107,[],[(1,(vI a1)),(2,(vI s2_.1)),(3,.ref n 0),(8,(vI s1_.2)),(9,(vI s2_.2))]⟩) (fun s2_=>(Zw O n [some ⟨false,30,11,1,(Zg a0)⟩])) (fun z21=>JX 4 n (⟨107,[],[(1,(vI a1)),(2,(vI z21)),(3,.ref n 0),(8,(vI s1_.2))]⟩:Env) (Zw O n [some ⟨false,30,11,1,(Zg a0)⟩]) (n+1)) ?_
     intro s2_ x2_ hs2_
     unfold Jb at hs2_
     try dsimp only
     refine Zd ?_
     obtain ⟨x14,hx14,ax14,bx14,cx14,hs2_⟩:=bE (f:=Zx) Zk9 (fun _=>rfl) (by decide) hs2_
     have g15:=Zfj (f:=Zx) (off:=2) (sz:=14) Z44 (fun _=>rfl) (by decide) (by decide) hx14
     refine Zis [1,2,3,8,9,80] (Yu Zs [none,none] ?_)
     refine zF4 ax14 bx14 cx14 g15 ?_
     refine zG ?_
     refine Zo (t:=(cond (decide (s2_.2 < (x14.L.length:Int))) (decide (0≤s2_.1)) false)) rfl (fun c20 => ?_) (fun c20 => ?_)
     ·replace hs2_:=Zn c20 hs2_
      refine X9 [1,2,3,8,9] [true] ?_
      refine Zd ?_
      refine Z8 ?_
      obtain ⟨x16,hx16,ax16,bx16,cx16,hs2_⟩:=bE (f:=Zx) Zk9 (fun _=>rfl) (by decide) hs2_
      have g17:=Zfj (f:=Zx) (off:=2) (sz:=14) Z44 (fun _=>rfl) (by decide) (by decide) hx16
      obtain ⟨x18,hx18,ax18,bx18,cx18,hs2_⟩:=bE (f:=Zb) G7 (fun _=>rfl) (by decide) hs2_
      obtain ⟨y19,hy19,hs2_⟩:=bC hs2_
      refine Yh1 [] ax16 bx16 cx16 g17 ax18 bx18 cx18 ?_
      refine (Zfp hy19).then ?_
      refine zF7 ax16 bx16 cx16 g17 ax18 bx18 cx18 ?_
      refine zD [1,2,3,8,9] [true] ?_
      refine zR ?_
      exact zEn hs2_
     replace hs2_:=Zm c20 hs2_
     exact zEx hs2_
    try simp only [Yx,Ya,↓reduceIte,Nat.reduceEqDiff]
    refine zD [1,2,3,8] [true] ?_
    refine zQ [1,2,3,8,95] ?_
    refine Zo (t:=(decide (0≤z21))) rfl (fun c25 => ?_) (fun c25 => ?_)
    ·replace hz11:=Zn c25 hz11
     obtain ⟨x22,hx22,ax22,bx22,cx22,hz11⟩:=bE (f:=Zx) Zk9 (fun _=>rfl) (by decide) hz11
     have g23:=Zfj (f:=Zx) (off:=3) (sz:=14) Zrk (fun _=>rfl) (by decide) (by decide) hx22
     obtain ⟨y24,hy24,hz11⟩:=bC hz11
     refine Z1m [] ax22 bx22 cx22 g23 ?_
     refine (Zkz hy24).then ?_
     refine zF4 ax22 bx22 cx22 g23 ?_
     exact Ygd hz11 ax22 bx22 cx22 g23
    replace hz11:=Zm c25 hz11
    refine zK ?_
    exact zEn hz11
   refine zR ?_
   exact zEn hs1_
  replace hs1_:=Zm c26 hs1_
  exact zEx hs1_
 try simp only [Yx,Ya,↓reduceIte,Nat.reduceEqDiff]
 refine zD [2] [false] ?_
 refine zQ [6] ?_
 refine zW ?_
 have h:=Option.some.inj h;subst h
 refine Zh (.inr rfl) hU [(vI z27)] (by omega) ?_
 simp only [push_cast,seval,↓reduceIte,Zc,Tryz.results67,hN0,hN]
theorem Zro:∀ k,(Zkx (Yp k)):=fun k=>by
 induction k with
 | zero=>exact @fun a0 a1 a2 r O n h=>(nomatch (show (none:Option _)=some _ from h))
 | succ k ih=>exact @fun a0 a1 a2 r O n h=>Zvr (ih)  h
theorem Zwe {a0:Zf} {a1:Int} {a2:Int} {r:Int} {O:Objs} {n:Nat} (h:Zfv a0 a1 a2=some r):GTo Tryz.prog 67 [.agg (Zg a0),(vI a1),(vI a2)] O n ((vI r)) O n:=by
 obtain ⟨k,hk⟩:=Vx h
 exact (Zro k)  hk
theorem Zjk {a0:Zf} {r:Bool} {O:Objs} {n:Nat} (h:U4 a0=some r):GTo Tryz.prog 25 [.agg (Zg a0)] O n ((vB r)) O n:=by
 unfold U4 at h
 refine Yf Zs Tryz.call25 Tryz.func25 rfl (Nat.le_of_ble_eq_true rfl) (Nat.le_refl _) fun hU => ?_
 have hN0:O n=none:=hU.fresh _ (Nat.le_refl _)
 have hN:∀ k,O (n+k)=none:=fun k=>hU.fresh _ (Nat.le_add_right _ _)
 show W _ _ _ _ ⟨6,[],[(0,.agg (Zg a0))]⟩ (Zw O n []) _
 refine zQ [1] ?_
 refine Zd ?_
 obtain ⟨y2,hy2,h⟩:=bC h
 refine zCd (Zwe hy2) [2] [false] ?_
 refine zW ?_
 have h:=Option.some.inj h;subst h
 refine Zh (.inr rfl) hU [(vB (decide (0≤y2)))] (by omega) ?_
 simp only [push_cast,seval,↓reduceIte,Zc,Tryz.results25,hN0,hN]
theorem U7 {a0:Za} {r:Bool} {O:Objs} {n:Nat} (h:Kh a0=some r):GTo Tryz.prog 68 [.agg (Ze a0)] O n ((vB r)) O n:=by
 unfold Kh at h
 refine Yf Zs Tryz.call68 Tryz.func68 rfl (Nat.le_of_ble_eq_true rfl) (Nat.le_refl _) fun hU => ?_
 have hN0:O n=none:=hU.fresh _ (Nat.le_refl _)
 have hN:∀ k,O (n+k)=none:=fun k=>hU.fresh _ (Nat.le_add_right _ _)
 show W _ _ _ _ ⟨16,[],[(0,.agg (Ze a0))]⟩ (Zw O n []) _
 refine zQ [1] ?_
 refine zQD [2] [none,none,none,none,none,none,none,none] ?_
 refine zW ?_
 have h:=Option.some.inj h;subst h
 refine Zh (.inr rfl) hU [(vB (cond (a0.Kind == 0) ((IntKind.i64.wrap ((a0.Words.length:Int)+(a0.Kids.length:Int))) == 0) false))] (by omega) ?_
 simp only [push_cast,seval,↓reduceIte,Zc,Tryz.results68,hN0,hN]
theorem Zln {a0:Int} {r:(Arr Int 8)} {O:Objs} {n:Nat} (h:U2 a0=some r):GTo Tryz.prog 171 [.val (.int .u64 a0)] O n (.agg (fl (eI .u8) r.1)) O n:=by
 unfold U2 at h
 refine Yf Zs Tryz.call171 Tryz.func171 rfl (Nat.le_of_ble_eq_true rfl) (Nat.le_refl _) fun hU => ?_
 have hN0:O n=none:=hU.fresh _ (Nat.le_refl _)
 have hN:∀ k,O (n+k)=none:=fun k=>hU.fresh _ (Nat.le_add_right _ _)
 show W _ _ _ _ ⟨18,[],[(0,.val (.int .u64 a0))]⟩ (Zw O n []) _
 obtain ⟨y3,hy3,ey3,h⟩:=bY (f:=(eI .u8)) (cs:=[.val (.int .u8 0),.val (.int .u8 0),.val (.int .u8 0),.val (.int .u8 0),.val (.int .u8 0),.val (.int .u8 0),.val (.int .u8 0),.val (.int .u8 0)]) rfl h
 have g4:=congrArg (GObj.mk false 185 8 1) ey3
 refine Ym0 [0,2] g4 ?_
 refine Zd ?_
 obtain ⟨y9,hy9,ey9,h⟩:=bY (f:=(eI .u8)) (cs:=[.val (.int .u8 0),.val (.int .u8 0),.val (.int .u8 0),.val (.int .u8 0),.val (.int .u8 0),.val (.int .u8 0),.val (.int .u8 0),.val (.int .u8 0)]) rfl h
 have g10:=congrArg G.agg ey9
 have g11:=congrArg (GObj.mk false 185 8 1) ey9
 have g12:=Zj2 (f:=(eI .u8)) y9 y9 (fun _=>rfl)
 refine Zap [] g10 g11 g12 ?_
 refine zDs [0,2,3] [true,true] ?_
 refine zQd [0,2,3,4] [0,2,3,4] [true,true] ?_
 obtain ⟨z18,hz18,h⟩:=bC h
 refine Yi (E':=⟨18,[],[(2,.ref n 0),(3,.ref (n+1) 0)]⟩) (O':=(Zw O n [some ⟨false,185,8,1,fl (eI .u8) y3.1⟩,some ⟨false,185,8,1,fl (eI .u8) z18.1⟩])) (n0:=(n+2)) ?_ ?_
 ·refine Y2 hz18 (fun s0_=>⟨18,[],[(0,.val (.int .u64 s0_.1)),(2,.ref n 0),(3,.ref (n+1) 0),(4,(vI s0_.2.1))]⟩) (fun s0_=>(Zw O n [some ⟨false,185,8,1,fl (eI .u8) y3.1⟩,some ⟨false,185,8,1,fl (eI .u8) s0_.2.2.1⟩])) (fun z18=>JX 0 n (⟨18,[],[(2,.ref n 0),(3,.ref (n+1) 0)]⟩:Env) (Zw O n [some ⟨false,185,8,1,fl (eI .u8) y3.1⟩,some ⟨false,185,8,1,fl (eI .u8) z18.1⟩]) (n+2)) ?_
  intro s0_ x0_ hs0_
  unfold Up at hs0_
  try dsimp only
  refine Zd ?_
  refine zQ [0,2,3,4,7] ?_
  refine Zo (t:=(decide (s0_.2.1 < 8))) rfl (fun c17 => ?_) (fun c17 => ?_)
  ·replace hs0_:=Zn c17 hs0_
   refine X9 [0,2,3,4] [true,true] ?_
   refine Zd ?_
   refine Z8 ?_
   refine Zd ?_
   obtain ⟨x15,hx15,ax15,bx15,cx15,hs0_⟩:=bEA (f:=(eI .u8)) (b:=8) rfl Z6p (fun _=>rfl) (by decide) hs0_
   have gu16:Zar (fl (eI .u8) s0_.2.2.1) [.val (.int .u8 (IntKind.u8.wrap (Int.tmod s0_.1 256)))] (Int.toNat s0_.2.1 * 1)=some (fl (eI .u8) (Zlv s0_.2.2.1 s0_.2.1 (IntKind.u8.wrap (Int.tmod s0_.1 256)))):=Zj3 (f:=(eI .u8)) (ti:=⟨.bool,1,0,[],false⟩) (x:=(IntKind.u8.wrap (Int.tmod s0_.1 256))) (fun _=>rfl) (Zf3 hx15)
   refine Z1m [] ax15 bx15 cx15 gu16 ?_
   refine zD [0,2,3,4] [true,true] ?_
   refine zRd [0,2,3,4] [true,true] ?_
   refine zR ?_
   exact zEn hs0_
  replace hs0_:=Zm c17 hs0_
  exact zEx hs0_
 try simp only [Yx,Ya,↓reduceIte,Nat.reduceEqDiff]
 refine zDs [2,3] [true,true] ?_
 have g21:=Z6z (f:=(eI .u8)) z18 Zwq rfl (fun _=>rfl) rfl
 have g22:=Zj2 (f:=(eI .u8)) y3 z18 (fun _=>rfl)
 refine X2 [] g21 g22 ?_
 refine zD [2] [true,false] ?_
 refine zW ?_
 have h:=Option.some.inj h;subst h
 have gR0:=Z6z (f:=(eI .u8)) z18 Zwq rfl (fun _=>rfl) rfl
 refine Zh (.inr rfl) hU [.agg (fl (eI .u8) z18.1)] (by omega) ?_
 simp only [push_cast,seval,↓reduceIte,Zc,Tryz.results171,hN0,hN,gR0]
theorem Zvk {a0:Int} {a1:Int} {r:Bool} {O:Objs} {n:Nat} (h:Zb3 a0 a1=some r):GTo Tryz.prog 172 [.val (.int .u8 a0),(vI a1)] O n ((vB r)) O n:=by
 unfold Zb3 at h
 refine Yf Zs Tryz.call172 Tryz.func172 rfl (Nat.le_of_ble_eq_true rfl) (Nat.le_refl _) fun hU => ?_
 have hN0:O n=none:=hU.fresh _ (Nat.le_refl _)
 have hN:∀ k,O (n+k)=none:=fun k=>hU.fresh _ (Nat.le_add_right _ _)
 show W _ _ _ _ ⟨16,[],[(0,.val (.int .u8 a0)),(1,(vI a1))]⟩ (Zw O n []) _
 refine zQ [0,1] ?_
 refine Zd ?_
 refine zQd [0,1,5] [0,1,5] [] ?_
 obtain ⟨z2,hz2,h⟩:=bC h
 refine Yi (E':=⟨16,[],[(0,.val (.int .u8 z2))]⟩) (O':=(Zw O n [])) (n0:=n) ?_ ?_
 ·refine Y2 hz2 (fun s0_=>⟨16,[],[(0,.val (.int .u8 s0_.1)),(1,(vI a1)),(5,(vI s0_.2))]⟩) (fun s0_=>(Zw O n [])) (fun z2=>JX 0 n (⟨16,[],[(0,.val (.int .u8 z2))]⟩:Env) (Zw O n []) n) ?_
  intro s0_ x0_ hs0_
  unfold Kp at hs0_
  try dsimp only
  refine Zd ?_
  refine zQ [0,1,5,8] ?_
  refine Zo (t:=(decide (s0_.2 < a1))) rfl (fun c1 => ?_) (fun c1 => ?_)
  ·replace hs0_:=Zn c1 hs0_
   refine X9 [0,1,5] [] ?_
   refine Zd ?_
   refine Z8 ?_
   refine zRd [0,1,5] [] ?_
   refine zR ?_
   exact zEn hs0_
  replace hs0_:=Zm c1 hs0_
  exact zEx hs0_
 try simp only [Yx,Ya,↓reduceIte,Nat.reduceEqDiff]
 refine zD [0] [] ?_
 refine zQ [4] ?_
 refine zW ?_
 have h:=Option.some.inj h;subst h
 refine Zh (.inr rfl) hU [(vB ((Int.tmod z2 2) == 1))] (by omega) ?_
 simp only [push_cast,seval,↓reduceIte,Zc,Tryz.results172,hN0,hN]
theorem Z0u {a0:(List Int)} {a1:Int} {r:Int} {O:Objs} {n:Nat} (h:Zhx a0 a1=some r):GTo Tryz.prog 173 [(sL (eI .u8) a0),(vI a1)] O n (.val (.int .u64 r)) O n:=by
 unfold Zhx at h
 refine Yf Zs Tryz.call173 Tryz.func173 rfl (Nat.le_of_ble_eq_true rfl) (Nat.le_refl _) fun hU => ?_
 have hN0:O n=none:=hU.fresh _ (Nat.le_refl _)
 have hN:∀ k,O (n+k)=none:=fun k=>hU.fresh _ (Nat.le_add_right _ _)
 show W _ _ _ _ ⟨22,[],[(0,(sL (eI .u8) a0)),(1,(vI a1))]⟩ (Zw O n []) _
 refine zQ [0,1] ?_
 refine zQ [0,1,5] ?_
 refine Zd ?_
 refine zQd [0,1,5,6] [0,1,5,6] [] ?_
 obtain ⟨z3,hz3,h⟩:=bC h
 refine Yi (E':=⟨22,[],[(5,.val (.int .u64 z3))]⟩) (O':=(Zw O n [])) (n0:=n) ?_ ?_
 ·refine Y2 hz3 (fun s0_=>⟨22,[],[(0,(sL (eI .u8) a0)),(1,(vI a1)),(5,.val (.int .u64 s0_.1)),(6,(vI s0_.2))]⟩) (fun s0_=>(Zw O n [])) (fun z3=>JX 0 n (⟨22,[],[(5,.val (.int .u64 z3))]⟩:Env) (Zw O n []) n) ?_
  intro s0_ x0_ hs0_
  unfold Zb4 at hs0_
  try dsimp only
  refine Zd ?_
  refine zQ [0,1,5,6,8] ?_
  refine Zo (t:=(decide (0≤s0_.2))) rfl (fun c2 => ?_) (fun c2 => ?_)
  ·replace hs0_:=Zn c2 hs0_
   refine X9 [0,1,5,6] [] ?_
   refine Zd ?_
   refine Z8 ?_
   obtain ⟨x1,hx1,ax1,bx1,cx1,hs0_⟩:=bE (f:=(eI .u8)) Z6p (fun _=>rfl) (by decide) hs0_
   refine Zck [] ax1 bx1 cx1 ?_
   refine zD [0,1,5,6] [] ?_
   refine zR ?_
   exact zEn hs0_
  replace hs0_:=Zm c2 hs0_
  exact zEx hs0_
 try simp only [Yx,Ya,↓reduceIte,Nat.reduceEqDiff]
 refine zD [5] [] ?_
 refine zQ [4] ?_
 refine zW ?_
 have h:=Option.some.inj h;subst h
 refine Zh (.inr rfl) hU [.val (.int .u64 z3)] (by omega) ?_
 simp only [push_cast,seval,↓reduceIte,Zc,Tryz.results173,hN0,hN]
theorem Zx2 {a0:Int} {a1:Int} {a2:Int} {r:Int} {O:Objs} {n:Nat} (h:Zdy a0 a1 a2=some r):GTo Tryz.prog 112 [.val (.int .u64 a0),.val (.int .u64 a1),.val (.int .u8 a2)] O n (.val (.int .u64 r)) O n:=by
 unfold Zdy at h
 refine Yf Zs Tryz.call112 Tryz.func112 rfl (Nat.le_of_ble_eq_true rfl) (Nat.le_refl _) fun hU => ?_
 have hN0:O n=none:=hU.fresh _ (Nat.le_refl _)
 have hN:∀ k,O (n+k)=none:=fun k=>hU.fresh _ (Nat.le_add_right _ _)
 show W _ _ _ _ ⟨28,[],[(0,.val (.int .u64 a0)),(1,.val (.int .u64 a1)),(2,.val (.int .u8 a2))]⟩ (Zw O n []) _
 refine zQ [0,1,2] ?_
 refine Zd ?_
 obtain ⟨y8,hy8,h⟩:=bC h
 obtain ⟨y9,hy9,h⟩:=bC h
 obtain ⟨y10,hy10,ey10,h⟩:=bY (f:=(eI .u8)) (cs:=[.val (.int .u8 0),.val (.int .u8 0),.val (.int .u8 0),.val (.int .u8 0),.val (.int .u8 0),.val (.int .u8 0),.val (.int .u8 0),.val (.int .u8 0)]) rfl h
 have g11:=congrArg (GObj.mk false 185 8 1) ey10
 have g12:=congrArg (GObj.mk false 185 8 1) ey10
 have g13:=Zj2 (f:=(eI .u8)) y10 y8 (fun _=>rfl)
 have g14:=Zj2 (f:=(eI .u8)) y10 y9 (fun _=>rfl)
 refine Zp9 [] g11 g12 g13 g14 ?_
 refine (Zln hy8).then ?_
 refine zX4 g11 g12 g13 g14 ?_
 refine (Zln hy9).then ?_
 refine zX4 g11 g12 g13 g14 ?_
 refine zDs [2,7,8] [true,true] ?_
 refine zQd [2,7,8,9] [2,7,8,9] [true,true] ?_
 obtain ⟨z23,hz23,h⟩:=bC h
 refine Yi (E':=⟨28,[],[(7,.ref n 0)]⟩) (O':=(Zw O n [some ⟨false,185,8,1,fl (eI .u8) z23.1⟩,none])) (n0:=(n+2)) ?_ ?_
 ·refine Y2 hz23 (fun s0_=>⟨28,[],[(2,.val (.int .u8 a2)),(7,.ref n 0),(8,.ref (n+1) 0),(9,(vI s0_.1))]⟩) (fun s0_=>(Zw O n [some ⟨false,185,8,1,fl (eI .u8) s0_.2.1⟩,some ⟨false,185,8,1,fl (eI .u8) y9.1⟩])) (fun z23=>JX 0 n (⟨28,[],[(7,.ref n 0)]⟩:Env) (Zw O n [some ⟨false,185,8,1,fl (eI .u8) z23.1⟩,none]) (n+2)) ?_
  intro s0_ x0_ hs0_
  unfold Za2 at hs0_
  try dsimp only
  refine Zd ?_
  refine zQ [2,7,8,9,15] ?_
  refine Zo (t:=(decide (s0_.1 < 8))) rfl (fun c22 => ?_) (fun c22 => ?_)
  ·replace hs0_:=Zn c22 hs0_
   refine X9 [2,7,8,9] [true,true] ?_
   obtain ⟨z15,hz15,hs0_⟩:=bC hs0_
   refine Y0 (E':=⟨28,[],[(2,.val (.int .u8 a2)),(7,.ref n 0),(8,.ref (n+1) 0),(9,(vI s0_.1))]⟩) (O':=(Zw O n [some ⟨false,185,8,1,fl (eI .u8) z15.1⟩,some ⟨false,185,8,1,fl (eI .u8) y9.1⟩])) (n0:=(n+2)) ?_ ?_
   ·refine Z8 ?_
    refine Zd ?_
    obtain ⟨y17,hy17,hz15⟩:=bC hz15
    refine zCd (Zvk hy17) [2,7,8,9,20] [true,true] ?_
    refine Zo (t:=y17) rfl (fun c21 => ?_) (fun c21 => ?_)
    ·replace hz15:=Zn c21 hz15
     obtain ⟨x18,hx18,ax18,bx18,cx18,hz15⟩:=bEA (f:=(eI .u8)) (b:=8) rfl Z6p (fun _=>rfl) (by decide) hz15
     obtain ⟨x19,hx19,ax19,bx19,cx19,hz15⟩:=bEA (f:=(eI .u8)) (b:=8) rfl Z6p (fun _=>rfl) (by decide) hz15
     have gu20:Zar (fl (eI .u8) s0_.2.1) [.val (.int .u8 x18)] (Int.toNat s0_.1 * 1)=some (fl (eI .u8) (Zlv s0_.2.1 s0_.1 x18)):=Zj3 (f:=(eI .u8)) (ti:=⟨.bool,1,0,[],false⟩) (x:=x18) (fun _=>rfl) (Zf3 hx19)
     refine Yh1 [] ax18 bx18 cx18 ax19 bx19 cx19 gu20 ?_
     exact Yhz hz15 ax18 bx18 cx18 ax19 bx19 cx19 gu20
    replace hz15:=Zm c21 hz15
    refine zK ?_
    exact zEn hz15
   refine zR ?_
   exact zEn hs0_
  replace hs0_:=Zm c22 hs0_
  exact zEx hs0_
 try simp only [Yx,Ya,↓reduceIte,Nat.reduceEqDiff]
 refine zDs [7] [true,false] ?_
 have g27:=Ybo (j:=n) Zp3 Z6p (by decide)
 have g28:=z23.2
 obtain ⟨y29,hy29,h⟩:=bC h
 refine X2 [] g27 g28 ?_
 refine GCalls.lend (Z0u hy29) rfl ?_ ?_
 ·exact Q9 g27 g28
 refine zX2 g27 g28 ?_
 refine zD [6] [false,false] ?_
 refine zW ?_
 have h:=Option.some.inj h;subst h
 refine Zh (.inr rfl) hU [.val (.int .u64 y29)] (by omega) ?_
 simp only [push_cast,seval,↓reduceIte,Zc,Tryz.results112,hN0,hN]
theorem Zge {a0:Int} {a1:Int} {r:Bool} {O:Objs} {n:Nat} (h:V7 a0 a1=some r):GTo Tryz.prog 69 [.val (.int .u64 a0),.val (.int .u8 a1)] O n ((vB r)) O n:=by
 unfold V7 at h
 refine Yf Zs Tryz.call69 Tryz.func69 rfl (Nat.le_of_ble_eq_true rfl) (Nat.le_refl _) fun hU => ?_
 have hN0:O n=none:=hU.fresh _ (Nat.le_refl _)
 have hN:∀ k,O (n+k)=none:=fun k=>hU.fresh _ (Nat.le_add_right _ _)
 show W _ _ _ _ ⟨9,[],[(0,.val (.int .u64 a0)),(1,.val (.int .u8 a1))]⟩ (Zw O n []) _
 refine zQ [0,1] ?_
 refine Zd ?_
 obtain ⟨y2,hy2,h⟩:=bC h
 refine zCd (Zx2 hy2) [4] [] ?_
 refine zW ?_
 have h:=Option.some.inj h;subst h
 refine Zh (.inr rfl) hU [(vB (y2 == 0))] (by omega) ?_
 simp only [push_cast,seval,↓reduceIte,Zc,Tryz.results69,hN0,hN]
theorem Zmq {a0:Zf} {r:Bool} {O:Objs} {n:Nat} (h:Zah a0=some r):GTo Tryz.prog 113 [.agg (Zg a0)] O n ((vB r)) O n:=by
 unfold Zah at h
 refine Yf Zs Tryz.call113 Tryz.func113 rfl (Nat.le_of_ble_eq_true rfl) (Nat.le_refl _) fun hU => ?_
 have hN0:O n=none:=hU.fresh _ (Nat.le_refl _)
 have hN:∀ k,O (n+k)=none:=fun k=>hU.fresh _ (Nat.le_add_right _ _)
 show W _ _ _ _ ⟨35,[],[(0,.agg (Zg a0))]⟩ (Zw O n []) _
 refine zQ [1] ?_
 obtain ⟨z3,hz3,h⟩:=bC h
 refine Y0 (E':=⟨35,[],[(2,(vB z3))]⟩) (O':=(Zw O n [none])) (n0:=(n+1)) ?_ ?_
 ·rcases Bool.eq_false_or_eq_true (a0.Kind == 0) with c8 | c8
  ·replace hz3:=Zn c8 hz3
   obtain ⟨y6,hy6,hz3⟩:=bC hz3
   rcases Bool.eq_false_or_eq_true y6 with c9 | c9
   ·replace hz3:=Zn c9 hz3
    try rw [c9] at c8
    obtain ⟨y7,hy7,hz3⟩:=bC hz3
    refine X2 [some true,some true,some true,some true,some true,some true,none,none,none,none,none,none,none,none,none,none,none,none,none,none,none] c8 c9 ?_
    refine zG ?_
    refine (U7 hy6).then ?_
    refine zX2 c8 c9 ?_
    refine zG ?_
    refine (U7 hy7).then ?_
    refine zX2 c8 c9 ?_
    refine zG ?_
    exact Zcj hz3 c8 c9
   replace hz3:=Zm c9 hz3
   try rw [c9] at c8
   refine X2 [some true,some true,some true,some false,some false,some false,some false,some false,some false,some false,some false,some false,some false,some false,some false,some false,some false,some false,some false,some false,some false] c8 c9 ?_
   refine (U7 hy6).then ?_
   refine zX2 c8 c9 ?_
   exact Zcj hz3 c8 c9
  replace hz3:=Zm c8 hz3
  refine Q7 [some false,some false,some false,some false,some false,some false,some false,some false,some false,some false,some false,some false,some false,some false,some false,some false,some false,some false,some false,some false,some false] c8 ?_
  exact Qk hz3 c8
 refine zW ?_
 have h:=Option.some.inj h;subst h
 refine Zh (.inr rfl) hU [(vB z3)] (by omega) ?_
 simp only [push_cast,seval,↓reduceIte,Zc,Tryz.results113,hN0,hN]
theorem Zjx {a0:Zf} {r:(Int×Int)} {O:Objs} {n:Nat} (h:Ve a0=some r):GTo Tryz.prog 71 [.agg (Zg a0)] O n (.tup [(vI r.1),(vI r.2)]) O n:=by
 unfold Ve at h
 refine Yf Zs Tryz.call71 Tryz.func71 rfl (Nat.le_of_ble_eq_true rfl) (Nat.le_refl _) fun hU => ?_
 have hN0:O n=none:=hU.fresh _ (Nat.le_refl _)
 have hN:∀ k,O (n+k)=none:=fun k=>hU.fresh _ (Nat.le_add_right _ _)
 show W _ _ _ _ ⟨48,[],[(0,.agg (Zg a0))]⟩ (Zw O n []) _
 refine zQ [1] ?_
 refine zQ [1,4,5] ?_
 refine Zd ?_
 refine zQd [1,4,5,6] [1,4,5,6] [true] ?_
 obtain ⟨z14,hz14,h⟩:=bC h
 refine Yi (E':=⟨48,[],[(4,(vI z14.1)),(5,(vI z14.2))]⟩) (O':=(Zw O n [none])) (n0:=(n+1)) ?_ ?_
 ·refine Y2 hz14 (fun s0_=>⟨48,[],[(1,.ref n 0),(4,(vI s0_.1)),(5,(vI s0_.2.1)),(6,(vI s0_.2.2))]⟩) (fun s0_=>(Zw O n [some ⟨false,30,11,1,(Zg a0)⟩])) (fun z14=>JX 0 n (⟨48,[],[(4,(vI z14.1)),(5,(vI z14.2))]⟩:Env) (Zw O n [none]) (n+1)) ?_
  intro s0_ x0_ hs0_
  unfold Vf at hs0_
  try dsimp only
  refine Zd ?_
  refine zQ [1,4,5,6,13] ?_
  refine Zo (t:=(decide (s0_.2.2 < (a0.Ops.length:Int)))) rfl (fun Vu => ?_) (fun Vu => ?_)
  ·replace hs0_:=Zn Vu hs0_
   refine X9 [1,4,5,6] [true] ?_
   obtain ⟨z1,hz1,hs0_⟩:=bC hs0_
   refine Y0 (E':=⟨48,[],[(1,.ref n 0),(4,(vI z1.1)),(5,(vI z1.2)),(6,(vI s0_.2.2))]⟩) (O':=(Zw O n [some ⟨false,30,11,1,(Zg a0)⟩,none])) (n0:=(n+2)) ?_ ?_
   ·refine Z8 ?_
    refine Zd ?_
    obtain ⟨x3,hx3,ax3,bx3,cx3,hz1⟩:=bE (f:=Zx) Zk9 (fun _=>rfl) (by decide) hz1
    refine Zck [] ax3 bx3 cx3 ?_
    refine zD [1,4,5,6,7] [true,true] ?_
    refine zQ [1,4,5,6,7,8] ?_
    obtain ⟨z4,hz4,hz1⟩:=bC hz1
    refine Y0 (E':=⟨48,[],[(1,.ref n 0),(4,(vI s0_.1)),(5,(vI s0_.2.1)),(6,(vI s0_.2.2)),(7,.ref (n+1) 0),(8,(vI z4))]⟩) (O':=(Zw O n [some ⟨false,30,11,1,(Zg a0)⟩,some ⟨false,89,14,1,(Yw x3)⟩])) (n0:=(n+2)) ?_ ?_
    ·refine zQ [1,4,5,6,7,8,29] ?_
     refine Zo (t:=(x3.Kind == 3)) rfl (fun c5 => ?_) (fun c5 => ?_)
     ·replace hz4:=Zn c5 hz4
      refine zR ?_
      exact zEn hz4
     replace hz4:=Zm c5 hz4
     refine zK ?_
     exact zEn hz4
    obtain ⟨z6,hz6,hz1⟩:=bC hz1
    refine Y0 (E':=⟨48,[],[(1,.ref n 0),(4,(vI z6)),(5,(vI s0_.2.1)),(6,(vI s0_.2.2)),(7,.ref (n+1) 0),(8,(vI z4))]⟩) (O':=(Zw O n [some ⟨false,30,11,1,(Zg a0)⟩,some ⟨false,89,14,1,(Yw x3)⟩])) (n0:=(n+2)) ?_ ?_
    ·refine zQ [1,4,5,6,7,8,32] ?_
     refine Zo (t:=(x3.Kind != 2)) rfl (fun c7 => ?_) (fun c7 => ?_)
     ·replace hz6:=Zn c7 hz6
      refine zR ?_
      exact zEn hz6
     replace hz6:=Zm c7 hz6
     refine zK ?_
     exact zEn hz6
    obtain ⟨z8,hz8,hz1⟩:=bC hz1
    refine Y0 (E':=⟨48,[],[(1,.ref n 0),(4,(vI z6)),(5,(vI z8)),(6,(vI s0_.2.2))]⟩) (O':=(Zw O n [some ⟨false,30,11,1,(Zg a0)⟩,none])) (n0:=(n+2)) ?_ ?_
    ·refine zQ [1,4,5,6,8,38] ?_
     refine Zo (t:=(x3.Kind != 1)) rfl (fun c9 => ?_) (fun c9 => ?_)
     ·replace hz8:=Zn c9 hz8
      refine zR ?_
      exact zEn hz8
     replace hz8:=Zm c9 hz8
     refine zK ?_
     exact zEn hz8
    obtain ⟨z10,hz10,hz1⟩:=bC hz1
    refine Y0 (E':=⟨48,[],[(1,.ref n 0),(4,(vI z10)),(5,(vI z8)),(6,(vI s0_.2.2))]⟩) (O':=(Zw O n [some ⟨false,30,11,1,(Zg a0)⟩,none])) (n0:=(n+2)) ?_ ?_
    ·refine zQ [1,4,5,6,43] ?_
     refine Zo (t:=(decide (1048576 < z6))) rfl (fun c11 => ?_) (fun c11 => ?_)
     ·replace hz10:=Zn c11 hz10
      refine zR ?_
      exact zEn hz10
     replace hz10:=Zm c11 hz10
     refine zK ?_
     exact zEn hz10
    refine zQ [1,4,5,6,45] ?_
    refine Zo (t:=(decide (1048576 < z8))) rfl (fun c12 => ?_) (fun c12 => ?_)
    ·replace hz1:=Zn c12 hz1
     refine zR ?_
     exact zEn hz1
    replace hz1:=Zm c12 hz1
    refine zK ?_
    exact zEn hz1
   refine zR ?_
   exact zEn hs0_
  replace hs0_:=Zm Vu hs0_
  exact zEx hs0_
 try simp only [Yx,Ya,↓reduceIte,Nat.reduceEqDiff]
 refine zD [4,5] [false] ?_
 refine zQ [2,3] ?_
 refine zW ?_
 have h:=Option.some.inj h;subst h
 refine Zh (.inr rfl) hU [(vI z14.1),(vI z14.2)] (by omega) ?_
 simp only [push_cast,seval,↓reduceIte,Zc,Tryz.results71,hN0,hN]
def Zfo (Xr:(Zf→Int→Option Bool)):Prop:=∀ {a0:Zf} {a1:Int} {r:Bool} {O:Objs} {n:Nat},Xr a0 a1=some r→GTo Tryz.prog 26 [.agg (Zg a0),(vI a1)] O n ((vB r)) O n
def Zic (Qz:(Int→Zt→Int→Option Bool)):Prop:=∀ {a0:Int} {a1:Zt} {a2:Int} {r:Bool} {O:Objs} {n:Nat},Qz a0 a1 a2=some r→GTo Tryz.prog 70 [(vI a0),.agg (Yw a1),(vI a2)] O n ((vB r)) O n
theorem Zst {Xr:(Zf→Int→Option Bool)} {Qz:(Int→Zt→Int→Option Bool)} (Zfq:Zfo Xr) (Zmt:Zic Qz) {a0:Zf} {a1:Int} {r:Bool} {O:Objs} {n:Nat} (h:Zbu Xr Qz a0 a1=some r):GTo Tryz.prog 26 [.agg (Zg a0),(vI a1)] O n ((vB r)) O n:=by
 unfold Zbu at h
 refine Yf Zs Tryz.call26 Tryz.func26 rfl (Nat.le_of_ble_eq_true rfl) (Nat.le_refl _) fun hU => ?_
 have hN0:O n=none:=hU.fresh _ (Nat.le_refl _)
 have hN:∀ k,O (n+k)=none:=fun k=>hU.fresh _ (Nat.le_add_right _ _)
 show W _ _ _ _ ⟨216,[],[(0,.agg (Zg a0)),(1,(vI a1))]⟩ (Zw O n []) _
 refine zQ [1,2] ?_
 refine Zd ?_
 refine zQD [1,2,24] [none,none,none,none,none,none] ?_
 refine Zo (t:=(cond (cond (a1 == 0) true (decide (a0.Kind < 0))) true (decide (3 < a0.Kind)))) rfl (fun c58 => ?_) (fun c58 => ?_)
 ·replace h:=Zn c58 h
  refine zQ [4] ?_
  refine zW ?_
  have h:=Option.some.inj h;subst h
  refine Zh (.inr rfl) hU [(vB false)] (by omega) ?_
  simp only [push_cast,seval,↓reduceIte,Zc,Tryz.results26,hN0,hN]
 replace h:=Zm c58 h
 refine X9 [1,2] [true] ?_
 refine Zd ?_
 obtain ⟨z3,hz3,h⟩:=bC h
 refine Y0 (E':=⟨216,[],[(1,(vI a1)),(2,.ref n 0),(69,(vB z3))]⟩) (O':=(Zw O n [some ⟨false,30,11,1,(Zg a0)⟩])) (n0:=(n+1)) ?_ ?_
 ·rcases Bool.eq_false_or_eq_true (a0.Kind != 1) with c8 | c8
  ·replace hz3:=Zn c8 hz3
   obtain ⟨y6,hy6,hz3⟩:=bC hz3
   rcases Bool.eq_false_or_eq_true y6 with c9 | c9
   ·replace hz3:=Zn c9 hz3
    try rw [c9] at c8
    obtain ⟨y7,hy7,hz3⟩:=bC hz3
    refine X2 [some true,some true,some true,some true,some true,some true,some true,some true,some true,none,none,none,none,none,none,none,none,none,none,none,none,none,none,none,none,none,none,none,none,none,none,none,none,none,none,none] c8 c9 ?_
    refine zG ?_
    refine (U7 hy6).then ?_
    refine zX2 c8 c9 ?_
    refine zG ?_
    refine (U7 hy7).then ?_
    refine zX2 c8 c9 ?_
    refine zG ?_
    exact Zcj hz3 c8 c9
   replace hz3:=Zm c9 hz3
   try rw [c9] at c8
   refine X2 [some true,some true,some true,some true,some false,some false,some false,some true,some true,some false,some false,some false,some false,some false,some false,some false,some false,some false,some false,some false,some false,some false,some false,some false,some false,some false,some false,some false,some false,some false,some false,some false,some false,some false,some false,some false] c8 c9 ?_
   refine (U7 hy6).then ?_
   refine zX2 c8 c9 ?_
   exact Zcj hz3 c8 c9
  replace hz3:=Zm c8 hz3
  refine Q7 [some false,some false,some false,some false,some false,some false,some false,some false,some false,some true,some true,some true,some true,none,none,none,none,none,none,none,none,some true,none,none,none,none,none,none,none,none,none,none,none,none,none,none] c8 ?_
  refine zG ?_
  exact Qk hz3 c8
 refine Zo (t:=z3) rfl (fun c57 => ?_) (fun c57 => ?_)
 ·replace h:=Zn c57 h
  refine zQ [4] ?_
  refine zW ?_
  have h:=Option.some.inj h;subst h
  refine Zh (.inr rfl) hU [(vB false)] (by omega) ?_
  simp only [push_cast,seval,↓reduceIte,Zc,Tryz.results26,hN0,hN]
 replace h:=Zm c57 h
 refine X9 [1,2] [true] ?_
 refine Zd ?_
 refine zQ [1,2,72] ?_
 refine Zo (t:=(a0.Kind == 1)) rfl (fun c56 => ?_) (fun c56 => ?_)
 ·replace h:=Zn c56 h
  obtain ⟨z12,hz12,h⟩:=bC h
  refine Y0 (E':=⟨216,[],[(4,(vB z12))]⟩) (O':=(Zw O n [none])) (n0:=(n+1)) ?_ ?_
  ·obtain ⟨y15,hy15,hz12⟩:=bC hz12
   rcases Bool.eq_false_or_eq_true y15 with c17 | c17
   ·replace hz12:=Zn c17 hz12
    obtain ⟨y16,hy16,hz12⟩:=bC hz12
    refine Q7 [some true,some true,some true,none,none,none,none,none,none,none,none] c17 ?_
    refine zG ?_
    refine (Jp hy15).then ?_
    refine zX1 c17 ?_
    refine zG ?_
    refine (Jp hy16).then ?_
    refine zX1 c17 ?_
    refine zG ?_
    exact Qk hz12 c17
   replace hz12:=Zm c17 hz12
   refine Q7 [some false,some false,some false,some false,some false,some false,some false,some false,some false,some false,some false] c17 ?_
   refine (Jp hy15).then ?_
   refine zX1 c17 ?_
   exact Qk hz12 c17
  refine zW ?_
  have h:=Option.some.inj h;subst h
  refine Zh (.inr rfl) hU [(vB z12)] (by omega) ?_
  simp only [push_cast,seval,↓reduceIte,Zc,Tryz.results26,hN0,hN]
 replace h:=Zm c56 h
 refine X9 [1,2] [true] ?_
 refine zQ [1,2,5] ?_
 refine Zd ?_
 refine zQd [1,2,5,6] [1,2,5,6] [true] ?_
 obtain ⟨z33,hz33,h⟩:=bC h
 refine Zbe (J:=(Xx (fun z33=>JR n (⟨216,[],[(4,(vB false))]⟩:Env) (Zw O n [none]) (n+1)) (fun z33=>JX 0 n (⟨216,[],[(1,(vI a1)),(2,.ref n 0)]⟩:Env) (Zw O n [some ⟨false,30,11,1,(Zg a0)⟩]) (n+1)))) (z:=z33) ?_ fun hw => ?_
 ·refine Y2 hz33 (fun s0_=>⟨216,[],[(1,(vI a1)),(2,.ref n 0),(5,(vI s0_.1)),(6,(vI s0_.2))]⟩) (fun s0_=>(Zw O n [some ⟨false,30,11,1,(Zg a0)⟩])) (Xx (fun z33=>JR n (⟨216,[],[(4,(vB false))]⟩:Env) (Zw O n [none]) (n+1)) (fun z33=>JX 0 n (⟨216,[],[(1,(vI a1)),(2,.ref n 0)]⟩:Env) (Zw O n [some ⟨false,30,11,1,(Zg a0)⟩]) (n+1))) ?_
  intro s0_ x0_ hs0_
  unfold Km at hs0_
  try dsimp only
  refine Zd ?_
  refine zQ [1,2,5,6,97] ?_
  refine Zo (t:=(decide (s0_.2 < (a0.Words.length:Int)))) rfl (fun c32 => ?_) (fun c32 => ?_)
  ·replace hs0_:=Zn c32 hs0_
   refine X9 [1,2,5,6] [true] ?_
   refine Zd ?_
   refine Z8 ?_
   refine Zd ?_
   obtain ⟨x19,hx19,ax19,bx19,cx19,hs0_⟩:=bE (f:=Zq) Ztb (fun _=>rfl) (by decide) hs0_
   refine Zck [] ax19 bx19 cx19 ?_
   refine zDs [1,2,5,6,7] [true,true] ?_
   obtain ⟨z22,hz22,hs0_⟩:=bC hs0_
   refine Y0 (E':=⟨216,[],[(1,(vI a1)),(2,.ref n 0),(6,(vI s0_.2)),(7,.ref (n+1) 0),(134,(vB z22))]⟩) (O':=(Zw O n [some ⟨false,30,11,1,(Zg a0)⟩,some ⟨false,84,4,1,(Uz x19)⟩])) (n0:=(n+2)) ?_ ?_
   ·rcases Bool.eq_false_or_eq_true (decide (x19.At≤s0_.1)) with c27 | c27
    ·replace hz22:=Zn c27 hz22
     refine Q7 [none,none,none,none,none,none,some false,some false,some false,some false,some false,some false,some false,some false,some false,some false,some false,some false] c27 ?_
     refine zG ?_
     exact Qk hz22 c27
    replace hz22:=Zm c27 hz22
    rcases Bool.eq_false_or_eq_true (decide (65534 < x19.At)) with c28 | c28
    ·replace hz22:=Zn c28 hz22
     try rw [c28] at c27
     refine X2 [none,none,none,none,none,none,some false,some false,some false,some false,some false,some false,some false,some false,some false,some false,some false,some false] c27 c28 ?_
     refine zG ?_
     exact Zcj hz22 c27 c28
    replace hz22:=Zm c28 hz22
    try rw [c28] at c27
    rcases Bool.eq_false_or_eq_true (x19.Mask == 0) with c29 | c29
    ·replace hz22:=Zn c29 hz22
     try rw [c29] at c27
     try rw [c29] at c28
     refine Zap [none,none,none,none,none,none,some false,some false,some false,some false,some false,some false,some false,some false,some false,some false,some false,some false] c27 c28 c29 ?_
     refine zG ?_
     exact Zfh hz22 c27 c28 c29
    replace hz22:=Zm c29 hz22
    try rw [c29] at c27
    try rw [c29] at c28
    obtain ⟨y25,hy25,hz22⟩:=bC hz22
    rcases Bool.eq_false_or_eq_true y25 with c30 | c30
    ·replace hz22:=Zn c30 hz22
     try rw [c30] at c27
     try rw [c30] at c28
     try rw [c30] at c29
     obtain ⟨y26,hy26,hz22⟩:=bC hz22
     refine Zp9 [none,none,none,none,none,none,some true,some true,some true,some true,some true,some true,some true,some true,some true,some true,some true,some true] c27 c28 c29 c30 ?_
     refine zG ?_
     refine (Zge hy25).then ?_
     refine zX4 c27 c28 c29 c30 ?_
     refine zG ?_
     refine (Zge hy26).then ?_
     refine zX4 c27 c28 c29 c30 ?_
     refine zG ?_
     exact Zu3 hz22 c27 c28 c29 c30
    replace hz22:=Zm c30 hz22
    try rw [c30] at c27
    try rw [c30] at c28
    try rw [c30] at c29
    refine Zp9 [none,none,none,none,none,none,some true,some true,some true,some true,some true,some true,some false,some false,some false,some false,some false,some false] c27 c28 c29 c30 ?_
    refine zG ?_
    refine (Zge hy25).then ?_
    refine zX4 c27 c28 c29 c30 ?_
    refine zG ?_
    exact Zu3 hz22 c27 c28 c29 c30
   refine Zo (t:=z22) rfl (fun c31 => ?_) (fun c31 => ?_)
   ·replace hs0_:=Zn c31 hs0_
    refine zQ [4] ?_
    refine zW ?_
    exact zEy hs0_
   replace hs0_:=Zm c31 hs0_
   refine X9 [1,2,6,7] [true,true] ?_
   refine zRd [1,2,5,6] [true,false] ?_
   refine zR ?_
   exact zEn hs0_
  replace hs0_:=Zm c32 hs0_
  exact zEx hs0_
 rcases z33 with z33 | z33
 ·dsimp only [Xx] at hw h
  refine Jt hw ?_
  try simp only [Yx,Ya,↓reduceIte,Nat.reduceEqDiff]
  have h:=Option.some.inj h;subst h
  refine Zh (.inr rfl) hU [(vB false)] (by omega) ?_
  simp only [push_cast,seval,↓reduceIte,Zc,Tryz.results26,hN0,hN]
 dsimp only [Xx] at hw h
 refine Yi hw ?_
 try simp only [Yx,Ya,↓reduceIte,Nat.reduceEqDiff]
 refine zD [1,2] [true] ?_
 refine zQ [1,2,5] ?_
 refine Zd ?_
 refine zQd [1,2,5,8] [1,2,5,8] [true] ?_
 obtain ⟨z45,hz45,h⟩:=bC h
 refine Zbe (J:=(Xx (fun z45=>JR n (⟨216,[],[(4,(vB false))]⟩:Env) (Zw O n [none]) (n+1)) (fun z45=>JX 2 n (⟨216,[],[(1,(vI a1)),(2,.ref n 0)]⟩:Env) (Zw O n [some ⟨false,30,11,1,(Zg a0)⟩]) (n+1)))) (z:=z45) ?_ fun hw => ?_
 ·refine Y2 hz45 (fun s1_=>⟨216,[],[(1,(vI a1)),(2,.ref n 0),(5,(vI s1_.1)),(8,(vI s1_.2))]⟩) (fun s1_=>(Zw O n [some ⟨false,30,11,1,(Zg a0)⟩])) (Xx (fun z45=>JR n (⟨216,[],[(4,(vB false))]⟩:Env) (Zw O n [none]) (n+1)) (fun z45=>JX 2 n (⟨216,[],[(1,(vI a1)),(2,.ref n 0)]⟩:Env) (Zw O n [some ⟨false,30,11,1,(Zg a0)⟩]) (n+1))) ?_
  intro s1_ x1_ hs1_
  unfold Ko at hs1_
  try dsimp only
  refine Zd ?_
  refine zQ [1,2,5,8,141] ?_
  refine Zo (t:=(decide (s1_.2 < (a0.Kids.length:Int)))) rfl (fun c44 => ?_) (fun c44 => ?_)
  ·replace hs1_:=Zn c44 hs1_
   refine X9 [1,2,5,8] [true] ?_
   refine Zd ?_
   refine Z8 ?_
   refine Zd ?_
   obtain ⟨x35,hx35,ax35,bx35,cx35,hs1_⟩:=bE (f:=Zp) Zp2 (fun _=>rfl) (by decide) hs1_
   refine Zck [] ax35 bx35 cx35 ?_
   refine zDs [1,2,5,8,9] [true,true] ?_
   obtain ⟨z37,hz37,hs1_⟩:=bC hs1_
   refine Y0 (E':=⟨216,[],[(1,(vI a1)),(2,.ref n 0),(8,(vI s1_.2)),(9,.ref (n+1) 0),(171,(vB z37))]⟩) (O':=(Zw O n [some ⟨false,30,11,1,(Zg a0)⟩,some ⟨false,86,12,1,(Kz x35)⟩])) (n0:=(n+2)) ?_ ?_
   ·rcases Bool.eq_false_or_eq_true (decide (x35.At≤s1_.1)) with c40 | c40
    ·replace hz37:=Zn c40 hz37
     refine Q7 [none,none,none,none,none,none,none,some false,some false,some false,some false,some false,some false] c40 ?_
     refine zG ?_
     exact Qk hz37 c40
    replace hz37:=Zm c40 hz37
    rcases Bool.eq_false_or_eq_true (decide (65534 < x35.At)) with c41 | c41
    ·replace hz37:=Zn c41 hz37
     try rw [c41] at c40
     refine X2 [none,none,none,none,none,none,none,some false,some false,some false,some false,some false,some false] c40 c41 ?_
     refine zG ?_
     exact Zcj hz37 c40 c41
    replace hz37:=Zm c41 hz37
    try rw [c41] at c40
    rcases Bool.eq_false_or_eq_true (x35.E.Kind == 0) with c42 | c42
    ·replace hz37:=Zn c42 hz37
     try rw [c42] at c40
     try rw [c42] at c41
     refine Zap [none,none,none,none,none,none,none,some false,some false,some false,some false,some false,some false] c40 c41 c42 ?_
     refine zG ?_
     exact Zfh hz37 c40 c41 c42
    replace hz37:=Zm c42 hz37
    try rw [c42] at c40
    try rw [c42] at c41
    obtain ⟨y39,hy39,hz37⟩:=bC hz37
    refine Zap [none,none,none,none,none,none,none,some true,some true,some true,some true,some true,some true] c40 c41 c42 ?_
    refine zG ?_
    refine (Zfq hy39).then ?_
    refine zX3 c40 c41 c42 ?_
    refine zG ?_
    exact Zfh hz37 c40 c41 c42
   refine Zo (t:=z37) rfl (fun c43 => ?_) (fun c43 => ?_)
   ·replace hs1_:=Zn c43 hs1_
    refine zQ [4] ?_
    refine zW ?_
    exact zEy hs1_
   replace hs1_:=Zm c43 hs1_
   refine X9 [1,2,8,9] [true,true] ?_
   refine zRd [1,2,5,8] [true,false] ?_
   refine zR ?_
   exact zEn hs1_
  replace hs1_:=Zm c44 hs1_
  exact zEx hs1_
 rcases z45 with z45 | z45
 ·dsimp only [Xx] at hw h
  refine Jt hw ?_
  try simp only [Yx,Ya,↓reduceIte,Nat.reduceEqDiff]
  have h:=Option.some.inj h;subst h
  refine Zh (.inr rfl) hU [(vB false)] (by omega) ?_
  simp only [push_cast,seval,↓reduceIte,Zc,Tryz.results26,hN0,hN]
 dsimp only [Xx] at hw h
 refine Yi hw ?_
 try simp only [Yx,Ya,↓reduceIte,Nat.reduceEqDiff]
 refine zDs [1,2] [true] ?_
 refine zQD [1,2,186] [none,none,none,none,none,none,none,none] ?_
 refine Zo (t:=(cond (a0.Kind == 3) (cond (decide (a0.List_ < 2)) true (decide (9 < a0.List_))) false)) rfl (fun c55 => ?_) (fun c55 => ?_)
 ·replace h:=Zn c55 h
  refine zQ [4] ?_
  refine zW ?_
  have h:=Option.some.inj h;subst h
  refine Zh (.inr rfl) hU [(vB false)] (by omega) ?_
  simp only [push_cast,seval,↓reduceIte,Zc,Tryz.results26,hN0,hN]
 replace h:=Zm c55 h
 refine X9 [1,2] [true] ?_
 refine Zd ?_
 refine zQd [1,2,10] [1,2,10] [true] ?_
 obtain ⟨z52,hz52,h⟩:=bC h
 refine Zbe (J:=(Xx (fun z52=>JR n (⟨216,[],[(4,(vB false))]⟩:Env) (Zw O n [none]) (n+1)) (fun z52=>JX 4 n (⟨216,[],[(2,.ref n 0)]⟩:Env) (Zw O n [some ⟨false,30,11,1,(Zg a0)⟩]) (n+1)))) (z:=z52) ?_ fun hw => ?_
 ·refine Y2 hz52 (fun s2_=>⟨216,[],[(1,(vI a1)),(2,.ref n 0),(10,(vI s2_))]⟩) (fun s2_=>(Zw O n [some ⟨false,30,11,1,(Zg a0)⟩])) (Xx (fun z52=>JR n (⟨216,[],[(4,(vB false))]⟩:Env) (Zw O n [none]) (n+1)) (fun z52=>JX 4 n (⟨216,[],[(2,.ref n 0)]⟩:Env) (Zw O n [some ⟨false,30,11,1,(Zg a0)⟩]) (n+1))) ?_
  intro s2_ x2_ hs2_
  unfold Jq at hs2_
  try dsimp only
  refine Zd ?_
  refine zQ [1,2,10,191] ?_
  refine Zo (t:=(decide (s2_ < (a0.Ops.length:Int)))) rfl (fun c51 => ?_) (fun c51 => ?_)
  ·replace hs2_:=Zn c51 hs2_
   refine X9 [1,2,10] [true] ?_
   refine Zd ?_
   refine Z8 ?_
   refine Zd ?_
   obtain ⟨x48,hx48,ax48,bx48,cx48,hs2_⟩:=bE (f:=Zx) Zk9 (fun _=>rfl) (by decide) hs2_
   obtain ⟨y49,hy49,hs2_⟩:=bC hs2_
   refine Qf Zs (by kernel_rfl) [] (by kernel_rfl) ?_
   refine zF3 ax48 bx48 cx48 ?_
   refine PCall.of (Zmt hy49) ?_
   refine zF3 ax48 bx48 cx48 ?_
   refine zD [1,2,10,204] [true] ?_
   refine Zo (t:=(!y49)) rfl (fun c50 => ?_) (fun c50 => ?_)
   ·replace hs2_:=Zn c50 hs2_
    refine zQ [4] ?_
    refine zW ?_
    exact zEy hs2_
   replace hs2_:=Zm c50 hs2_
   refine X9 [1,2,10] [true] ?_
   refine zR ?_
   exact zEn hs2_
  replace hs2_:=Zm c51 hs2_
  exact zEx hs2_
 rcases z52 with z52 | z52
 ·dsimp only [Xx] at hw h
  refine Jt hw ?_
  try simp only [Yx,Ya,↓reduceIte,Nat.reduceEqDiff]
  have h:=Option.some.inj h;subst h
  refine Zh (.inr rfl) hU [(vB false)] (by omega) ?_
  simp only [push_cast,seval,↓reduceIte,Zc,Tryz.results26,hN0,hN]
 dsimp only [Xx] at hw h
 refine Yi hw ?_
 try simp only [Yx,Ya,↓reduceIte,Nat.reduceEqDiff]
 refine zDs [2] [true] ?_
 obtain ⟨y54,hy54,h⟩:=bC h
 refine zCd (Zjx hy54) [11,12] [false] ?_
 refine zQD [4] [none,none] ?_
 refine zW ?_
 have h:=Option.some.inj h;subst h
 refine Zh (.inr rfl) hU [(vB (cond (decide (y54.1 < 1048576)) (decide (y54.2 < 1048576)) false))] (by omega) ?_
 simp only [push_cast,seval,↓reduceIte,Zc,Tryz.results26,hN0,hN]
theorem Zx5 {Xr:(Zf→Int→Option Bool)} {Qz:(Int→Zt→Int→Option Bool)} (Zfq:Zfo Xr) (Zmt:Zic Qz) {a0:Int} {a1:Zt} {a2:Int} {r:Bool} {O:Objs} {n:Nat} (h:Zes Xr Qz a0 a1 a2=some r):GTo Tryz.prog 70 [(vI a0),.agg (Yw a1),(vI a2)] O n ((vB r)) O n:=by
 unfold Zes at h
 refine Yf Zs Tryz.call70 Tryz.func70 rfl (Nat.le_of_ble_eq_true rfl) (Nat.le_refl _) fun hU => ?_
 have hN0:O n=none:=hU.fresh _ (Nat.le_refl _)
 have hN:∀ k,O (n+k)=none:=fun k=>hU.fresh _ (Nat.le_add_right _ _)
 show W _ _ _ _ ⟨121,[],[(0,(vI a0)),(1,.agg (Yw a1)),(2,(vI a2))]⟩ (Zw O n []) _
 refine zQ [0,2,4] ?_
 refine Zd ?_
 refine zQ [0,2,4,10] ?_
 refine Zo (t:=(a1.Kind == 0)) rfl (fun c30 => ?_) (fun c30 => ?_)
 ·replace h:=Zn c30 h
  obtain ⟨z2,hz2,h⟩:=bC h
  refine Y0 (E':=⟨121,[],[(6,(vB z2))]⟩) (O':=(Zw O n [none])) (n0:=(n+1)) ?_ ?_
  ·rcases Bool.eq_false_or_eq_true (decide (1≤a1.N)) with c5 | c5
   ·replace hz2:=Zn c5 hz2
    rcases Bool.eq_false_or_eq_true (decide (a1.N≤1048576)) with c6 | c6
    ·replace hz2:=Zn c6 hz2
     try rw [c6] at c5
     rcases Bool.eq_false_or_eq_true ((a1.L.length:Int) == 0) with c7 | c7
     ·replace hz2:=Zn c7 hz2
      try rw [c7] at c5
      try rw [c7] at c6
      obtain ⟨y4,hy4,hz2⟩:=bC hz2
      refine Zap [none,none,none,none,none,none,none,some true,some true,some true] c5 c6 c7 ?_
      refine zG ?_
      refine (Zmq hy4).then ?_
      refine zX3 c5 c6 c7 ?_
      refine zG ?_
      exact Zfh hz2 c5 c6 c7
     replace hz2:=Zm c7 hz2
     try rw [c7] at c5
     try rw [c7] at c6
     refine Zap [none,none,none,none,none,none,none,some false,some false,some false] c5 c6 c7 ?_
     refine zG ?_
     exact Zfh hz2 c5 c6 c7
    replace hz2:=Zm c6 hz2
    try rw [c6] at c5
    refine X2 [none,none,none,none,none,none,none,some false,some false,some false] c5 c6 ?_
    refine zG ?_
    exact Zcj hz2 c5 c6
   replace hz2:=Zm c5 hz2
   refine Q7 [none,none,none,none,none,none,none,some false,some false,some false] c5 ?_
   refine zG ?_
   exact Qk hz2 c5
  refine zW ?_
  have h:=Option.some.inj h;subst h
  refine Zh (.inr rfl) hU [(vB z2)] (by omega) ?_
  simp only [push_cast,seval,↓reduceIte,Zc,Tryz.results70,hN0,hN]
 replace h:=Zm c30 h
 refine X9 [0,2,4] [true] ?_
 refine Zd ?_
 refine zQD [0,2,4,42] [none,none,none,none,none,none] ?_
 refine Zo (t:=(cond (cond (a1.N != 0) true (decide (a1.Kind < 0))) true (decide (3 < a1.Kind)))) rfl (fun c29 => ?_) (fun c29 => ?_)
 ·replace h:=Zn c29 h
  refine zQ [6] ?_
  refine zW ?_
  have h:=Option.some.inj h;subst h
  refine Zh (.inr rfl) hU [(vB false)] (by omega) ?_
  simp only [push_cast,seval,↓reduceIte,Zc,Tryz.results70,hN0,hN]
 replace h:=Zm c29 h
 refine X9 [0,2,4] [true] ?_
 refine Zd ?_
 refine zQ [0,2,4,45] ?_
 refine Zo (t:=(decide (a1.Kind < 3))) rfl (fun c28 => ?_) (fun c28 => ?_)
 ·replace h:=Zn c28 h
  refine Zd ?_
  refine zQd [0,4,7] [0,4,7] [true] ?_
  obtain ⟨z14,hz14,h⟩:=bC h
  refine Zbe (J:=(Xx (fun z14=>JR n (⟨121,[],[(6,(vB false))]⟩:Env) (Zw O n [none]) (n+1)) (fun z14=>JX 0 n (⟨121,[],[(4,.ref n 0)]⟩:Env) (Zw O n [some ⟨false,89,14,1,(Yw a1)⟩]) (n+1)))) (z:=z14) ?_ fun hw => ?_
  ·refine Y2 hz14 (fun s0_=>⟨121,[],[(0,(vI a0)),(4,.ref n 0),(7,(vI s0_))]⟩) (fun s0_=>(Zw O n [some ⟨false,89,14,1,(Yw a1)⟩])) (Xx (fun z14=>JR n (⟨121,[],[(6,(vB false))]⟩:Env) (Zw O n [none]) (n+1)) (fun z14=>JX 0 n (⟨121,[],[(4,.ref n 0)]⟩:Env) (Zw O n [some ⟨false,89,14,1,(Yw a1)⟩]) (n+1))) ?_
   intro s0_ x0_ hs0_
   unfold Zbv at hs0_
   try dsimp only
   refine Zd ?_
   refine zQ [0,4,7,50] ?_
   refine Zo (t:=(decide (s0_ < (a1.L.length:Int)))) rfl (fun Vu => ?_) (fun Vu => ?_)
   ·replace hs0_:=Zn Vu hs0_
    refine X9 [0,4,7] [true] ?_
    refine Zd ?_
    refine Z8 ?_
    refine Zd ?_
    obtain ⟨l10,al10,bl10,cl10,gl10,hs0_⟩:=bS (lo:=(some (.i64,s0_))) (hi:=(some (.i64,(IntKind.i64.wrap (s0_+1))))) (f:=Zb) rfl rfl Zn9 G7 (fun _=>rfl) hs0_
    obtain ⟨y11,hy11,hs0_⟩:=bC hs0_
    refine Zp9 [] al10 bl10 cl10 gl10 ?_
    refine GCalls.argsW ?_ ((Jp hy11).then ?_)
    ·exact Yiz al10 bl10 cl10 gl10
    refine zX4 al10 bl10 cl10 gl10 ?_
    refine zD [0,4,7,62] [true] ?_
    refine Zo (t:=(!y11)) rfl (fun c12 => ?_) (fun c12 => ?_)
    ·replace hs0_:=Zn c12 hs0_
     refine zQ [6] ?_
     refine zW ?_
     exact zEy hs0_
    replace hs0_:=Zm c12 hs0_
    refine X9 [0,4,7] [true] ?_
    refine zR ?_
    exact zEn hs0_
   replace hs0_:=Zm Vu hs0_
   exact zEx hs0_
  rcases z14 with z14 | z14
  ·dsimp only [Xx] at hw h
   refine Jt hw ?_
   try simp only [Yx,Ya,↓reduceIte,Nat.reduceEqDiff]
   have h:=Option.some.inj h;subst h
   refine Zh (.inr rfl) hU [(vB false)] (by omega) ?_
   simp only [push_cast,seval,↓reduceIte,Zc,Tryz.results70,hN0,hN]
  dsimp only [Xx] at hw h
  refine Yi hw ?_
  try simp only [Yx,Ya,↓reduceIte,Nat.reduceEqDiff]
  refine zD [4] [true] ?_
  obtain ⟨z16,hz16,h⟩:=bC h
  refine Y0 (E':=⟨121,[],[(6,(vB z16))]⟩) (O':=(Zw O n [none])) (n0:=(n+1)) ?_ ?_
  ·rcases Bool.eq_false_or_eq_true (decide (0 < (a1.L.length:Int))) with c19 | c19
   ·replace hz16:=Zn c19 hz16
    obtain ⟨y18,hy18,hz16⟩:=bC hz16
    refine Q7 [some true,some true,some true] c19 ?_
    refine (Zmq hy18).then ?_
    refine zX1 c19 ?_
    exact Qk hz16 c19
   replace hz16:=Zm c19 hz16
   refine Q7 [some false,some false,some false] c19 ?_
   exact Qk hz16 c19
  refine zW ?_
  have h:=Option.some.inj h;subst h
  refine Zh (.inr rfl) hU [(vB z16)] (by omega) ?_
  simp only [push_cast,seval,↓reduceIte,Zc,Tryz.results70,hN0,hN]
 replace h:=Zm c28 h
 refine X9 [0,2,4] [true] ?_
 refine Zd ?_
 obtain ⟨z21,hz21,h⟩:=bC h
 refine Y0 (E':=⟨121,[],[(0,(vI a0)),(4,.ref n 0),(92,(vB z21))]⟩) (O':=(Zw O n [some ⟨false,89,14,1,(Yw a1)⟩])) (n0:=(n+1)) ?_ ?_
 ·rcases Bool.eq_false_or_eq_true (decide (0 < (a1.L.length:Int))) with c24 | c24
  ·replace hz21:=Zn c24 hz21
   refine Q7 [none,none,none,none,none,none,some false,some false,some false,some false,some false] c24 ?_
   refine zG ?_
   exact Qk hz21 c24
  replace hz21:=Zm c24 hz21
  rcases Bool.eq_false_or_eq_true (a1.E.Kind == 0) with c25 | c25
  ·replace hz21:=Zn c25 hz21
   try rw [c25] at c24
   refine X2 [none,none,none,none,none,none,some false,some false,some false,some false,some false] c24 c25 ?_
   refine zG ?_
   exact Zcj hz21 c24 c25
  replace hz21:=Zm c25 hz21
  try rw [c25] at c24
  rcases Bool.eq_false_or_eq_true (decide (a0≤7)) with c26 | c26
  ·replace hz21:=Zn c26 hz21
   try rw [c26] at c24
   try rw [c26] at c25
   refine Zap [none,none,none,none,none,none,some false,some false,some false,some false,some false] c24 c25 c26 ?_
   refine zG ?_
   exact Zfh hz21 c24 c25 c26
  replace hz21:=Zm c26 hz21
  try rw [c26] at c24
  try rw [c26] at c25
  obtain ⟨y23,hy23,hz21⟩:=bC hz21
  refine Zap [none,none,none,none,none,none,some true,some true,some true,some true,some true] c24 c25 c26 ?_
  refine zG ?_
  refine (Zfq hy23).then ?_
  refine zX3 c24 c25 c26 ?_
  refine zG ?_
  exact Zfh hz21 c24 c25 c26
 refine Zo (t:=z21) rfl (fun c27 => ?_) (fun c27 => ?_)
 ·replace h:=Zn c27 h
  refine zQ [6] ?_
  refine zW ?_
  have h:=Option.some.inj h;subst h
  refine Zh (.inr rfl) hU [(vB false)] (by omega) ?_
  simp only [push_cast,seval,↓reduceIte,Zc,Tryz.results70,hN0,hN]
 replace h:=Zm c27 h
 refine X9 [0,4] [true] ?_
 refine zQD [6] [none,none,none,none,none,none,none,none,none,none,none,none,none,none,none,none,none,none,none,none,none,none] ?_
 refine zW ?_
 have h:=Option.some.inj h;subst h
 refine Zh (.inr rfl) hU [(vB (cond (cond (a0 == 8) true (a1.E.Kind == 2)) true (cond (cond (a1.E.Kind == 1) (a1.E.Old.Kind == 1) false) (a1.E.New.Kind == 1) false)))] (by omega) ?_
 simp only [push_cast,seval,↓reduceIte,Zc,Tryz.results70,hN0,hN]
theorem Zql:∀ k,(Zfo ((Y7 k).1))∧(Zic ((Y7 k).2)):=fun k=>by
 induction k with
 | zero=>exact ⟨@fun a0 a1 r O n h=>(nomatch (show (none:Option _)=some _ from h)),@fun a0 a1 a2 r O n h=>(nomatch (show (none:Option _)=some _ from h))⟩
 | succ k ih=>exact ⟨@fun a0 a1 r O n h=>Zst (ih.1) (ih.2)  h,@fun a0 a1 a2 r O n h=>Zx5 (ih.1) (ih.2)  h⟩
theorem Zlp {a0:Zf} {a1:Int} {r:Bool} {O:Objs} {n:Nat} (h:Zh9 a0 a1=some r):GTo Tryz.prog 26 [.agg (Zg a0),(vI a1)] O n ((vB r)) O n:=by
 obtain ⟨k,hk⟩:=Vx h
 exact (Zql k).1  hk
def Zjw (Qe:(Zf→Option Bool)):Prop:=∀ {a0:Zf} {r:Bool} {O:Objs} {n:Nat},Qe a0=some r→GTo Tryz.prog 27 [.agg (Zg a0)] O n ((vB r)) O n
theorem Zss {Qe:(Zf→Option Bool)} (Zjz:Zjw Qe) {a0:Zf} {r:Bool} {O:Objs} {n:Nat} (h:Zbt Qe a0=some r):GTo Tryz.prog 27 [.agg (Zg a0)] O n ((vB r)) O n:=by
 unfold Zbt at h
 refine Yf Zs Tryz.call27 Tryz.func27 rfl (Nat.le_of_ble_eq_true rfl) (Nat.le_refl _) fun hU => ?_
 have hN0:O n=none:=hU.fresh _ (Nat.le_refl _)
 have hN:∀ k,O (n+k)=none:=fun k=>hU.fresh _ (Nat.le_add_right _ _)
 show W _ _ _ _ ⟨48,[],[(0,.agg (Zg a0))]⟩ (Zw O n []) _
 refine zQ [1] ?_
 refine Zd ?_
 obtain ⟨y2,hy2,h⟩:=bC h
 refine zCd (Zjx hy2) [1,3,4] [true] ?_
 refine Zd ?_
 refine zQD [1,17] [none,none] ?_
 refine Zo (t:=(cond (decide (2000 < y2.1)) true (decide (2000 < y2.2)))) rfl (fun c21 => ?_) (fun c21 => ?_)
 ·replace h:=Zn c21 h
  refine zQ [2] ?_
  refine zW ?_
  have h:=Option.some.inj h;subst h
  refine Zh (.inr rfl) hU [(vB false)] (by omega) ?_
  simp only [push_cast,seval,↓reduceIte,Zc,Tryz.results27,hN0,hN]
 replace h:=Zm c21 h
 refine X9 [1] [true] ?_
 refine Zd ?_
 refine zQd [1,5] [1,5] [true] ?_
 obtain ⟨z11,hz11,h⟩:=bC h
 refine Zbe (J:=(Xx (fun z11=>JR n (⟨48,[],[(2,(vB false))]⟩:Env) (Zw O n [none]) (n+1)) (fun z11=>JX 0 n (⟨48,[],[(1,.ref n 0)]⟩:Env) (Zw O n [some ⟨false,30,11,1,(Zg a0)⟩]) (n+1)))) (z:=z11) ?_ fun hw => ?_
 ·refine Y2 hz11 (fun s0_=>⟨48,[],[(1,.ref n 0),(5,(vI s0_))]⟩) (fun s0_=>(Zw O n [some ⟨false,30,11,1,(Zg a0)⟩])) (Xx (fun z11=>JR n (⟨48,[],[(2,(vB false))]⟩:Env) (Zw O n [none]) (n+1)) (fun z11=>JX 0 n (⟨48,[],[(1,.ref n 0)]⟩:Env) (Zw O n [some ⟨false,30,11,1,(Zg a0)⟩]) (n+1))) ?_
  intro s0_ x0_ hs0_
  unfold Ul at hs0_
  try dsimp only
  refine Zd ?_
  refine zQ [1,5,22] ?_
  refine Zo (t:=(decide (s0_ < (a0.Kids.length:Int)))) rfl (fun c10 => ?_) (fun c10 => ?_)
  ·replace hs0_:=Zn c10 hs0_
   refine X9 [1,5] [true] ?_
   refine Zd ?_
   refine Z8 ?_
   refine Zd ?_
   obtain ⟨x6,hx6,ax6,bx6,cx6,hs0_⟩:=bE (f:=Zp) Zp2 (fun _=>rfl) (by decide) hs0_
   have g7:=Zfj (f:=Zp) (off:=1) (sz:=12) Zrk (fun _=>rfl) (by decide) (by decide) hx6
   obtain ⟨y8,hy8,hs0_⟩:=bC hs0_
   refine Z1m [] ax6 bx6 cx6 g7 ?_
   refine (Zjz hy8).then ?_
   refine zF4 ax6 bx6 cx6 g7 ?_
   refine zD [1,5,32] [true] ?_
   refine Zo (t:=(!y8)) rfl (fun c9 => ?_) (fun c9 => ?_)
   ·replace hs0_:=Zn c9 hs0_
    refine zQ [2] ?_
    refine zW ?_
    exact zEy hs0_
   replace hs0_:=Zm c9 hs0_
   refine X9 [1,5] [true] ?_
   refine zR ?_
   exact zEn hs0_
  replace hs0_:=Zm c10 hs0_
  exact zEx hs0_
 rcases z11 with z11 | z11
 ·dsimp only [Xx] at hw h
  refine Jt hw ?_
  try simp only [Yx,Ya,↓reduceIte,Nat.reduceEqDiff]
  have h:=Option.some.inj h;subst h
  refine Zh (.inr rfl) hU [(vB false)] (by omega) ?_
  simp only [push_cast,seval,↓reduceIte,Zc,Tryz.results27,hN0,hN]
 dsimp only [Xx] at hw h
 refine Yi hw ?_
 try simp only [Yx,Ya,↓reduceIte,Nat.reduceEqDiff]
 refine zDs [1] [true] ?_
 refine zQd [1,6] [1,6] [true] ?_
 obtain ⟨z20,hz20,h⟩:=bC h
 refine Zbe (J:=(Xx (fun z20=>JR n (⟨48,[],[(2,(vB false))]⟩:Env) (Zw O n [none]) (n+1)) (fun z20=>JX 2 n (⟨48,[],[]⟩:Env) (Zw O n [none]) (n+1)))) (z:=z20) ?_ fun hw => ?_
 ·refine Y2 hz20 (fun s1_=>⟨48,[],[(1,.ref n 0),(6,(vI s1_))]⟩) (fun s1_=>(Zw O n [some ⟨false,30,11,1,(Zg a0)⟩])) (Xx (fun z20=>JR n (⟨48,[],[(2,(vB false))]⟩:Env) (Zw O n [none]) (n+1)) (fun z20=>JX 2 n (⟨48,[],[]⟩:Env) (Zw O n [none]) (n+1))) ?_
  intro s1_ x1_ hs1_
  unfold Um at hs1_
  try dsimp only
  refine Zd ?_
  refine zQ [1,6,37] ?_
  refine Zo (t:=(decide (s1_ < (a0.Ops.length:Int)))) rfl (fun c19 => ?_) (fun c19 => ?_)
  ·replace hs1_:=Zn c19 hs1_
   refine X9 [1,6] [true] ?_
   refine Zd ?_
   refine Z8 ?_
   refine Zd ?_
   obtain ⟨x15,hx15,ax15,bx15,cx15,hs1_⟩:=bE (f:=Zx) Zk9 (fun _=>rfl) (by decide) hs1_
   have g16:=Zfj (f:=Zx) (off:=3) (sz:=14) Zrk (fun _=>rfl) (by decide) (by decide) hx15
   obtain ⟨y17,hy17,hs1_⟩:=bC hs1_
   refine Z1m [] ax15 bx15 cx15 g16 ?_
   refine (Zjz hy17).then ?_
   refine zF4 ax15 bx15 cx15 g16 ?_
   refine zD [1,6,47] [true] ?_
   refine Zo (t:=(!y17)) rfl (fun c18 => ?_) (fun c18 => ?_)
   ·replace hs1_:=Zn c18 hs1_
    refine zQ [2] ?_
    refine zW ?_
    exact zEy hs1_
   replace hs1_:=Zm c18 hs1_
   refine X9 [1,6] [true] ?_
   refine zR ?_
   exact zEn hs1_
  replace hs1_:=Zm c19 hs1_
  exact zEx hs1_
 rcases z20 with z20 | z20
 ·dsimp only [Xx] at hw h
  refine Jt hw ?_
  try simp only [Yx,Ya,↓reduceIte,Nat.reduceEqDiff]
  have h:=Option.some.inj h;subst h
  refine Zh (.inr rfl) hU [(vB false)] (by omega) ?_
  simp only [push_cast,seval,↓reduceIte,Zc,Tryz.results27,hN0,hN]
 dsimp only [Xx] at hw h
 refine Yi hw ?_
 try simp only [Yx,Ya,↓reduceIte,Nat.reduceEqDiff]
 refine zD [] [false] ?_
 refine zQ [2] ?_
 refine zW ?_
 have h:=Option.some.inj h;subst h
 refine Zh (.inr rfl) hU [(vB true)] (by omega) ?_
 simp only [push_cast,seval,↓reduceIte,Zc,Tryz.results27,hN0,hN]
theorem Zqk:∀ k,(Zjw (Ka k)):=fun k=>by
 induction k with
 | zero=>exact @fun a0 r O n h=>(nomatch (show (none:Option _)=some _ from h))
 | succ k ih=>exact @fun a0 r O n h=>Zss (ih)  h
theorem Zvm {a0:Zf} {r:Bool} {O:Objs} {n:Nat} (h:Zh8 a0=some r):GTo Tryz.prog 27 [.agg (Zg a0)] O n ((vB r)) O n:=by
 obtain ⟨k,hk⟩:=Vx h
 exact (Zqk k)  hk
theorem Zwd {a0:Zf} {r:Bool} {O:Objs} {n:Nat} (h:Zcy a0=some r):GTo Tryz.prog 14 [.agg (Zg a0)] O n ((vB r)) O n:=by
 unfold Zcy at h
 refine Yf Zs Tryz.call14 Tryz.func14 rfl (Nat.le_of_ble_eq_true rfl) (Nat.le_refl _) fun hU => ?_
 have hN0:O n=none:=hU.fresh _ (Nat.le_refl _)
 have hN:∀ k,O (n+k)=none:=fun k=>hU.fresh _ (Nat.le_add_right _ _)
 show W _ _ _ _ ⟨13,[],[(0,.agg (Zg a0))]⟩ (Zw O n []) _
 refine zQ [1] ?_
 obtain ⟨z4,hz4,h⟩:=bC h
 refine Y0 (E':=⟨13,[],[(2,(vB z4))]⟩) (O':=(Zw O n [none])) (n0:=(n+1)) ?_ ?_
 ·obtain ⟨y8,hy8,hz4⟩:=bC hz4
  rcases Bool.eq_false_or_eq_true y8 with c11 | c11
  ·replace hz4:=Zn c11 hz4
   obtain ⟨y9,hy9,hz4⟩:=bC hz4
   rcases Bool.eq_false_or_eq_true y9 with c12 | c12
   ·replace hz4:=Zn c12 hz4
    try rw [c12] at c11
    obtain ⟨y10,hy10,hz4⟩:=bC hz4
    refine X2 [some true,some true,some true,some true] c11 c12 ?_
    refine (Zjk hy8).then ?_
    refine zX2 c11 c12 ?_
    refine (Zlp hy9).then ?_
    refine zX2 c11 c12 ?_
    refine (Zvm hy10).then ?_
    refine zX2 c11 c12 ?_
    exact Zcj hz4 c11 c12
   replace hz4:=Zm c12 hz4
   try rw [c12] at c11
   refine X2 [some true,some true,some false,some false] c11 c12 ?_
   refine (Zjk hy8).then ?_
   refine zX2 c11 c12 ?_
   refine (Zlp hy9).then ?_
   refine zX2 c11 c12 ?_
   exact Zcj hz4 c11 c12
  replace hz4:=Zm c11 hz4
  refine Q7 [some false,some false,some false,some false] c11 ?_
  refine (Zjk hy8).then ?_
  refine zX1 c11 ?_
  exact Qk hz4 c11
 refine zW ?_
 have h:=Option.some.inj h;subst h
 refine Zh (.inr rfl) hU [(vB z4)] (by omega) ?_
 simp only [push_cast,seval,↓reduceIte,Zc,Tryz.results14,hN0,hN]
theorem Zjm {a0:Za} {r:Bool} {O:Objs} {n:Nat} (h:Zbo a0=some r):GTo Tryz.prog 166 [.agg (Ze a0)] O n ((vB r)) O n:=by
 unfold Zbo at h
 refine Yf Zs Tryz.call166 Tryz.func166 rfl (Nat.le_of_ble_eq_true rfl) (Nat.le_refl _) fun hU => ?_
 have hN0:O n=none:=hU.fresh _ (Nat.le_refl _)
 have hN:∀ k,O (n+k)=none:=fun k=>hU.fresh _ (Nat.le_add_right _ _)
 show W _ _ _ _ ⟨16,[],[(0,.agg (Ze a0))]⟩ (Zw O n []) _
 refine zQ [1] ?_
 refine zQD [2] [none,none,none,none,none,none,none,none] ?_
 refine zW ?_
 have h:=Option.some.inj h;subst h
 refine Zh (.inr rfl) hU [(vB (cond (a0.Kind != 0) true (decide (0 < (IntKind.i64.wrap ((a0.Words.length:Int)+(a0.Kids.length:Int)))))))] (by omega) ?_
 simp only [push_cast,seval,↓reduceIte,Zc,Tryz.results166,hN0,hN]
theorem K1 {a0:Bool} {a1:Bool} {a2:Bool} {a3:Zf} {r:Bool} {O:Objs} {n:Nat} (h:Gu a0 a1 a2 a3=some r):GTo Tryz.prog 165 [(vB a0),(vB a1),(vB a2),.ip (Zg a3) 0] O n ((vB r)) O n:=by
 unfold Gu at h
 refine Yf Zs Tryz.call165 Tryz.func165 rfl (Nat.le_of_ble_eq_true rfl) (Nat.le_refl _) fun hU => ?_
 have hN0:O n=none:=hU.fresh _ (Nat.le_refl _)
 have hN:∀ k,O (n+k)=none:=fun k=>hU.fresh _ (Nat.le_add_right _ _)
 show W _ _ _ _ ⟨49,[],[(0,(vB a0)),(1,(vB a1)),(2,(vB a2)),(3,.ip (Zg a3) 0)]⟩ (Zw O n []) _
 refine zQ [0,1,2,3] ?_
 obtain ⟨z3,hz3,h⟩:=bC h
 refine Y0 (E':=⟨49,[],[(7,(vB z3))]⟩) (O':=(Zw O n [])) (n0:=n) ?_ ?_
 ·rcases Bool.eq_false_or_eq_true a0 with c8 | c8
  ·replace hz3:=Zn c8 hz3
   obtain ⟨y6,hy6,hz3⟩:=bC hz3
   rcases Bool.eq_false_or_eq_true y6 with c9 | c9
   ·replace hz3:=Zn c9 hz3
    try rw [c9] at c8
    refine X2 [some true,some true,some true,some true,some false,some false,some false,some true,some false,some false,some false,some false,some false,some false,some false,some false,some false,some false,some false,some false,some false,some false,some false,some false,some false,some false,some false,some false,some false,some false,some false,some false,some false] c8 c9 ?_
    refine (Zjm hy6).then ?_
    refine zX2 c8 c9 ?_
    exact Zcj hz3 c8 c9
   replace hz3:=Zm c9 hz3
   try rw [c9] at c8
   obtain ⟨y7,hy7,hz3⟩:=bC hz3
   refine X2 [some true,some true,some true,some true,some true,some true,some true,some true,none,none,none,none,none,none,none,none,none,none,none,none,none,none,none,none,none,none,none,none,none,none,none,none,none] c8 c9 ?_
   refine zG ?_
   refine (Zjm hy6).then ?_
   refine zX2 c8 c9 ?_
   refine zG ?_
   refine (Zjm hy7).then ?_
   refine zX2 c8 c9 ?_
   refine zG ?_
   exact Zcj hz3 c8 c9
  replace hz3:=Zm c8 hz3
  refine Q7 [some false,some false,some false,some false,some false,some false,some false,some false,some true,some true,none,none,none,none,none,none,none,none,some true,some true,none,none,none,none,none,none,none,none,none,none,none,none,none] c8 ?_
  refine zG ?_
  exact Qk hz3 c8
 refine zW ?_
 have h:=Option.some.inj h;subst h
 refine Zh (.inr rfl) hU [(vB z3)] (by omega) ?_
 simp only [push_cast,seval,↓reduceIte,Zc,Tryz.results165,hN0,hN]
theorem Zqs {a0:Int} {r:Bool} {O:Objs} {n:Nat} (h:Zf9 a0=some r):GTo Tryz.prog 126 [(vI a0)] O n ((vB r)) O n:=by
 unfold Zf9 at h
 refine Yf Zs Tryz.call126 Tryz.func126 rfl (Nat.le_of_ble_eq_true rfl) (Nat.le_refl _) fun hU => ?_
 have hN0:O n=none:=hU.fresh _ (Nat.le_refl _)
 have hN:∀ k,O (n+k)=none:=fun k=>hU.fresh _ (Nat.le_add_right _ _)
 show W _ _ _ _ ⟨9,[],[(0,(vI a0))]⟩ (Zw O n []) _
 refine zQ [0] ?_
 refine zQD [2] [none,none] ?_
 refine zW ?_
 have h:=Option.some.inj h;subst h
 refine Zh (.inr rfl) hU [(vB (cond (decide (2≤a0)) (decide (a0≤9)) false))] (by omega) ?_
 simp only [push_cast,seval,↓reduceIte,Zc,Tryz.results126,hN0,hN]
theorem Zmw {a0:(List Za)} {r:Bool} {O:Objs} {n:Nat} (h:Zc4 a0=some r):GTo Tryz.prog 233 [(sL Zb a0)] O n ((vB r)) O n:=by
 unfold Zc4 at h
 refine Yf Zs Tryz.call233 Tryz.func233 rfl (Nat.le_of_ble_eq_true rfl) (Nat.le_refl _) fun hU => ?_
 have hN0:O n=none:=hU.fresh _ (Nat.le_refl _)
 have hN:∀ k,O (n+k)=none:=fun k=>hU.fresh _ (Nat.le_add_right _ _)
 show W _ _ _ _ ⟨15,[],[(0,(sL Zb a0))]⟩ (Zw O n []) _
 refine zQ [0] ?_
 refine Zd ?_
 refine zQd [5,6,7] [5,6,7] [] ?_
 obtain ⟨z5,hz5,h⟩:=bC h
 refine Zbe (J:=(Xx (fun z5=>JR n (⟨15,[],[(2,(vB false))]⟩:Env) (Zw O n []) n) (fun z5=>JX 0 n (⟨15,[],[]⟩:Env) (Zw O n []) n))) (z:=z5) ?_ fun hw => ?_
 ·refine Y2 hz5 (fun s0_=>⟨15,[],[(5,(sL Zb a0)),(6,(vI (a0.length:Int))),(7,(vI s0_))]⟩) (fun s0_=>(Zw O n [])) (Xx (fun z5=>JR n (⟨15,[],[(2,(vB false))]⟩:Env) (Zw O n []) n) (fun z5=>JX 0 n (⟨15,[],[]⟩:Env) (Zw O n []) n)) ?_
  intro s0_ x0_ hs0_
  unfold Gy at hs0_
  try dsimp only
  refine zQ [5,6,7,8] ?_
  refine Zd ?_
  refine Zo (t:=(decide (s0_ < (a0.length:Int)))) rfl (fun c4 => ?_) (fun c4 => ?_)
  ·replace hs0_:=Zn c4 hs0_
   refine X9 [5,6,7] [] ?_
   refine Zd ?_
   refine Z8 ?_
   refine Zd ?_
   obtain ⟨x2,hx2,ax2,bx2,cx2,hs0_⟩:=bE (f:=Zb) G7 (fun _=>rfl) (by decide) hs0_
   refine Zck [] ax2 bx2 cx2 ?_
   refine zD [4,5,6,7] [true] ?_
   refine zQ [5,6,7,13] ?_
   refine Zo (t:=(x2.Kind != 1)) rfl (fun c3 => ?_) (fun c3 => ?_)
   ·replace hs0_:=Zn c3 hs0_
    refine zQ [2] ?_
    refine zW ?_
    exact zEy hs0_
   replace hs0_:=Zm c3 hs0_
   refine X9 [5,6,7] [false] ?_
   refine zR ?_
   exact zEn hs0_
  replace hs0_:=Zm c4 hs0_
  exact zEx hs0_
 rcases z5 with z5 | z5
 ·dsimp only [Xx] at hw h
  refine Jt hw ?_
  try simp only [Yx,Ya,↓reduceIte,Nat.reduceEqDiff]
  have h:=Option.some.inj h;subst h
  refine Zh (.inr rfl) hU [(vB false)] (by omega) ?_
  simp only [push_cast,seval,↓reduceIte,Zc,Tryz.results233,hN0,hN]
 dsimp only [Xx] at hw h
 refine Yi hw ?_
 try simp only [Yx,Ya,↓reduceIte,Nat.reduceEqDiff]
 refine zD [] [] ?_
 refine zQ [2] ?_
 refine zW ?_
 have h:=Option.some.inj h;subst h
 refine Zh (.inr rfl) hU [(vB true)] (by omega) ?_
 simp only [push_cast,seval,↓reduceIte,Zc,Tryz.results233,hN0,hN]
theorem Zhp {a0:Int} {r:(Int×Bool)} {O:Objs} {n:Nat} (h:Zbg a0=some r):GTo Tryz.prog 282 [(vI a0)] O n (.tup [(vI r.1),(vB r.2)]) O n:=by
 unfold Zbg at h
 refine Yf Zs Tryz.call282 Tryz.func282 rfl (Nat.le_of_ble_eq_true rfl) (Nat.le_refl _) fun hU => ?_
 have hN0:O n=none:=hU.fresh _ (Nat.le_refl _)
 have hN:∀ k,O (n+k)=none:=fun k=>hU.fresh _ (Nat.le_add_right _ _)
 show W _ _ _ _ ⟨15,[],[(0,(vI a0))]⟩ (Zw O n []) _
 refine zQ [0] ?_
 refine Zd ?_
 obtain ⟨y6,hy6,ey6,h⟩:=bY (f:=(eI .i64)) (cs:=[.val (.int .i64 0),.val (.int .i64 1),.val (.int .i64 8),.val (.int .i64 16),.val (.int .i64 32),.val (.int .i64 64)]) rfl h
 have g7:=congrArg G.agg ey6
 obtain ⟨y8,hy8,ey8,h⟩:=bY (f:=(eI .i64)) (cs:=[.val (.int .i64 0),.val (.int .i64 0),.val (.int .i64 0),.val (.int .i64 0),.val (.int .i64 0),.val (.int .i64 0)]) rfl h
 have g9:=congrArg (GObj.mk false 346 6 1) ey8
 have g10:=Zj2 (f:=(eI .i64)) y8 y6 (fun _=>rfl)
 refine Zap [] g7 g9 g10 ?_
 refine zDs [0,4] [true] ?_
 refine zQD [0,4,11] [none,none] ?_
 refine Zo (t:=(cond (decide (a0 < 0)) true (decide (6≤a0)))) rfl (fun Vu => ?_) (fun Vu => ?_)
 ·replace h:=Zn Vu h
  refine zQ [2,3] ?_
  refine zW ?_
  have h:=Option.some.inj h;subst h
  refine Zh (.inr rfl) hU [(vI 0),(vB false)] (by omega) ?_
  simp only [push_cast,seval,↓reduceIte,Zc,Tryz.results282,hN0,hN]
 replace h:=Zm Vu h
 refine X9 [0,4] [true] ?_
 obtain ⟨x12,hx12,ax12,bx12,cx12,h⟩:=bEA (f:=(eI .i64)) (b:=6) rfl Z5f (fun _=>rfl) (by decide) h
 refine Zis [2,3] (Yu Zs [] ?_)
 refine zF3 ax12 bx12 cx12 ?_
 refine zW ?_
 have h:=Option.some.inj h;subst h
 refine Zh (.inr rfl) hU [(vI x12),(vB true)] (by omega) ?_
 simp only [push_cast,seval,↓reduceIte,Zc,Tryz.results282,hN0,hN]
theorem Zx3 {a0:Int} {a1:Int} {r:Bool} {O:Objs} {n:Nat} (h:Zij a0 a1=some r):GTo Tryz.prog 281 [(vI a0),.val (.int .u64 a1)] O n ((vB r)) O n:=by
 unfold Zij at h
 refine Yf Zs Tryz.call281 Tryz.func281 rfl (Nat.le_of_ble_eq_true rfl) (Nat.le_refl _) fun hU => ?_
 have hN0:O n=none:=hU.fresh _ (Nat.le_refl _)
 have hN:∀ k,O (n+k)=none:=fun k=>hU.fresh _ (Nat.le_add_right _ _)
 show W _ _ _ _ ⟨19,[],[(0,(vI a0)),(1,.val (.int .u64 a1))]⟩ (Zw O n []) _
 refine zQ [0,1] ?_
 refine Zd ?_
 obtain ⟨y2,hy2,h⟩:=bC h
 refine zCd (Zhp hy2) [1,5,6] [] ?_
 obtain ⟨z4,hz4,h⟩:=bC h
 refine Y0 (E':=⟨19,[],[(4,(vB z4))]⟩) (O':=(Zw O n [])) (n0:=n) ?_ ?_
 ·rcases Bool.eq_false_or_eq_true y2.2 with c7 | c7
  ·replace hz4:=Zn c7 hz4
   obtain ⟨pu6,hz4⟩:=bG hz4
   refine Yu Zs [some true,some true,some true,some true] ?_
   simp only [push_cast,seval,↓reduceIte,Zc,c7,pu6,hN0,hN]
   have hz4:=Option.some.inj hz4;subst hz4
   refine And.intro rfl (Fit2.of (Z6 hU rfl rfl ?_) (by omega))
   simp only [push_cast,seval,↓reduceIte,Zc,c7,pu6,hN0,hN]
  replace hz4:=Zm c7 hz4
  refine Q7 [some false,some false,some false,some false] c7 ?_
  exact Qk hz4 c7
 refine zW ?_
 have h:=Option.some.inj h;subst h
 refine Zh (.inr rfl) hU [(vB z4)] (by omega) ?_
 simp only [push_cast,seval,↓reduceIte,Zc,Tryz.results281,hN0,hN]
def Ze4 (X1:(Za→Option Bool)):Prop:=∀ {a0:Za} {r:Bool} {O:Objs} {n:Nat},X1 a0=some r→GTo Tryz.prog 114 [.agg (Ze a0)] O n ((vB r)) O n
def Ze5 (Xt:(Za→Int→Option Bool)):Prop:=∀ {a0:Za} {a1:Int} {r:Bool} {O:Objs} {n:Nat},Xt a0 a1=some r→GTo Tryz.prog 174 [.agg (Ze a0),(vI a1)] O n ((vB r)) O n
def Zb9 (Xc:((List Za)→Int→Option Bool)):Prop:=∀ {a0:(List Za)} {a1:Int} {r:Bool} {O:Objs} {n:Nat},Xc a0 a1=some r→GTo Tryz.prog 232 [(sL Zb a0),(vI a1)] O n ((vB r)) O n
def Zb8 (Xg:((List Za)→Int→Option Bool)):Prop:=∀ {a0:(List Za)} {a1:Int} {r:Bool} {O:Objs} {n:Nat},Xg a0 a1=some r→GTo Tryz.prog 234 [(sL Zb a0),(vI a1)] O n ((vB r)) O n
theorem Z3a {X1:(Za→Option Bool)} {Xt:(Za→Int→Option Bool)} {Xc:((List Za)→Int→Option Bool)} {Xg:((List Za)→Int→Option Bool)} (Ze8:Ze4 X1) (Ze9:Ze5 Xt) (U9:Zb9 Xc) (Zeq:Zb8 Xg) {a0:Za} {r:Bool} {O:Objs} {n:Nat} (h:Ziz X1 Xt Xc Xg a0=some r):GTo Tryz.prog 114 [.agg (Ze a0)] O n ((vB r)) O n:=by
 unfold Ziz at h
 refine Yf Zs Tryz.call114 Tryz.func114 rfl (Nat.le_of_ble_eq_true rfl) (Nat.le_refl _) fun hU => ?_
 have hN0:O n=none:=hU.fresh _ (Nat.le_refl _)
 have hN:∀ k,O (n+k)=none:=fun k=>hU.fresh _ (Nat.le_add_right _ _)
 show W _ _ _ _ ⟨18,[],[(0,.agg (Ze a0))]⟩ (Zw O n []) _
 refine zQ [1] ?_
 refine Zd ?_
 refine zQ [1,5] ?_
 refine Zo (t:=(a0.Kind == 10)) rfl (fun c3 => ?_) (fun c3 => ?_)
 ·replace h:=Zn c3 h
  refine zQD [2] [none,none,none,none] ?_
  refine zW ?_
  have h:=Option.some.inj h;subst h
  refine Zh (.inr rfl) hU [(vB (cond ((a0.Words.length:Int) == 1) ((a0.Kids.length:Int) == 0) false))] (by omega) ?_
  simp only [push_cast,seval,↓reduceIte,Zc,Tryz.results114,hN0,hN]
 replace h:=Zm c3 h
 refine X9 [1] [true] ?_
 refine Zd ?_
 obtain ⟨y2,hy2,h⟩:=bC h
 refine zCd (Ze9 hy2) [2] [false] ?_
 refine zW ?_
 have h:=Option.some.inj h;subst h
 refine Zh (.inr rfl) hU [(vB y2)] (by omega) ?_
 simp only [push_cast,seval,↓reduceIte,Zc,Tryz.results114,hN0,hN]
theorem Z3b {X1:(Za→Option Bool)} {Xt:(Za→Int→Option Bool)} {Xc:((List Za)→Int→Option Bool)} {Xg:((List Za)→Int→Option Bool)} (Ze8:Ze4 X1) (Ze9:Ze5 Xt) (U9:Zb9 Xc) (Zeq:Zb8 Xg) {a0:Za} {a1:Int} {r:Bool} {O:Objs} {n:Nat} (h:Zi0 X1 Xt Xc Xg a0 a1=some r):GTo Tryz.prog 174 [.agg (Ze a0),(vI a1)] O n ((vB r)) O n:=by
 unfold Zi0 at h
 refine Yf Zs Tryz.call174 Tryz.func174 rfl (Nat.le_of_ble_eq_true rfl) (Nat.le_refl _) fun hU => ?_
 have hN0:O n=none:=hU.fresh _ (Nat.le_refl _)
 have hN:∀ k,O (n+k)=none:=fun k=>hU.fresh _ (Nat.le_add_right _ _)
 show W _ _ _ _ ⟨83,[],[(0,.agg (Ze a0)),(1,(vI a1))]⟩ (Zw O n []) _
 refine zQ [1,2] ?_
 refine Zd ?_
 refine zQ [1,2,7] ?_
 refine Zo (t:=(a0.Kind == 0)) rfl (fun c26 => ?_) (fun c26 => ?_)
 ·replace h:=Zn c26 h
  refine zQD [4] [none,none,none,none] ?_
  refine zW ?_
  have h:=Option.some.inj h;subst h
  refine Zh (.inr rfl) hU [(vB (cond ((a0.Words.length:Int) == 0) ((a0.Kids.length:Int) == 0) false))] (by omega) ?_
  simp only [push_cast,seval,↓reduceIte,Zc,Tryz.results174,hN0,hN]
 replace h:=Zm c26 h
 refine X9 [1,2] [true] ?_
 refine Zd ?_
 refine zQ [1,2,19] ?_
 refine Zo (t:=(a1 == 0)) rfl (fun c25 => ?_) (fun c25 => ?_)
 ·replace h:=Zn c25 h
  refine zQ [4] ?_
  refine zW ?_
  have h:=Option.some.inj h;subst h
  refine Zh (.inr rfl) hU [(vB false)] (by omega) ?_
  simp only [push_cast,seval,↓reduceIte,Zc,Tryz.results174,hN0,hN]
 replace h:=Zm c25 h
 refine X9 [1,2] [true] ?_
 refine Zd ?_
 refine zQ [1,2,22] ?_
 refine Zo (t:=(a0.Kind == 1)) rfl (fun c24 => ?_) (fun c24 => ?_)
 ·replace h:=Zn c24 h
  obtain ⟨z2,hz2,h⟩:=bC h
  refine Y0 (E':=⟨83,[],[(4,(vB z2))]⟩) (O':=(Zw O n [none])) (n0:=(n+1)) ?_ ?_
  ·rcases Bool.eq_false_or_eq_true (decide ((a0.Words.length:Int) < 65536)) with c5 | c5
   ·replace hz2:=Zn c5 hz2
    rcases Bool.eq_false_or_eq_true (decide ((a0.Kids.length:Int) < 65536)) with c6 | c6
    ·replace hz2:=Zn c6 hz2
     try rw [c6] at c5
     obtain ⟨y4,hy4,hz2⟩:=bC hz2
     refine X2 [none,none,none,none,some true,some true,some true,some true,some true] c5 c6 ?_
     refine zG ?_
     refine (U9 hy4).then ?_
     refine zX2 c5 c6 ?_
     refine zG ?_
     exact Zcj hz2 c5 c6
    replace hz2:=Zm c6 hz2
    try rw [c6] at c5
    refine X2 [none,none,none,none,some false,some false,some false,some false,some false] c5 c6 ?_
    refine zG ?_
    exact Zcj hz2 c5 c6
   replace hz2:=Zm c5 hz2
   refine Q7 [none,none,none,none,some false,some false,some false,some false,some false] c5 ?_
   refine zG ?_
   exact Qk hz2 c5
  refine zW ?_
  have h:=Option.some.inj h;subst h
  refine Zh (.inr rfl) hU [(vB z2)] (by omega) ?_
  simp only [push_cast,seval,↓reduceIte,Zc,Tryz.results174,hN0,hN]
 replace h:=Zm c24 h
 refine X9 [1,2] [true] ?_
 refine Zd ?_
 refine Zd ?_
 obtain ⟨y8,hy8,h⟩:=bC h
 refine zRo [none,none,none,none,none,none,none,none] ?_
 refine zG ?_
 refine zTs (Zqs hy8) ?_
 refine zG ?_
 refine zD [1,2,55] [true] ?_
 refine Zo (t:=(cond (cond (!y8) true (decide (0 < (a0.Words.length:Int)))) true (decide (1048576≤(a0.Kids.length:Int))))) rfl (fun c23 => ?_) (fun c23 => ?_)
 ·replace h:=Zn c23 h
  refine zQ [4] ?_
  refine zW ?_
  have h:=Option.some.inj h;subst h
  refine Zh (.inr rfl) hU [(vB false)] (by omega) ?_
  simp only [push_cast,seval,↓reduceIte,Zc,Tryz.results174,hN0,hN]
 replace h:=Zm c23 h
 refine X9 [1,2] [true] ?_
 refine Zd ?_
 refine zQ [1,2,57] ?_
 refine Z8 ?_
 refine zQ [1,2,57,58] ?_
 refine Zo (t:=(a0.Kind == 8)) rfl (fun c22 => ?_) (fun c22 => ?_)
 ·replace h:=Zn c22 h
  refine Zd ?_
  obtain ⟨y10,hy10,h⟩:=bC h
  refine zCd (U9 hy10) [4] [false] ?_
  refine zW ?_
  have h:=Option.some.inj h;subst h
  refine Zh (.inr rfl) hU [(vB y10)] (by omega) ?_
  simp only [push_cast,seval,↓reduceIte,Zc,Tryz.results174,hN0,hN]
 replace h:=Zm c22 h
 refine zQ [1,2,65] ?_
 refine Zo (t:=(a0.Kind == 9)) rfl (fun c21 => ?_) (fun c21 => ?_)
 ·replace h:=Zn c21 h
  obtain ⟨z13,hz13,h⟩:=bC h
  refine Y0 (E':=⟨83,[],[(4,(vB z13))]⟩) (O':=(Zw O n [none])) (n0:=(n+1)) ?_ ?_
  ·obtain ⟨y16,hy16,hz13⟩:=bC hz13
   rcases Bool.eq_false_or_eq_true y16 with c18 | c18
   ·replace hz13:=Zn c18 hz13
    obtain ⟨y17,hy17,hz13⟩:=bC hz13
    refine Q7 [some true,some true,some true,some true,some true] c18 ?_
    refine (Zmw hy16).then ?_
    refine zX1 c18 ?_
    refine (U9 hy17).then ?_
    refine zX1 c18 ?_
    exact Qk hz13 c18
   replace hz13:=Zm c18 hz13
   refine Q7 [some false,some false,some false,some false,some false] c18 ?_
   refine (Zmw hy16).then ?_
   refine zX1 c18 ?_
   exact Qk hz13 c18
  refine zW ?_
  have h:=Option.some.inj h;subst h
  refine Zh (.inr rfl) hU [(vB z13)] (by omega) ?_
  simp only [push_cast,seval,↓reduceIte,Zc,Tryz.results174,hN0,hN]
 replace h:=Zm c21 h
 refine X9 [2] [true] ?_
 refine Zd ?_
 obtain ⟨y20,hy20,h⟩:=bC h
 refine zCd (Zeq hy20) [4] [false] ?_
 refine zW ?_
 have h:=Option.some.inj h;subst h
 refine Zh (.inr rfl) hU [(vB y20)] (by omega) ?_
 simp only [push_cast,seval,↓reduceIte,Zc,Tryz.results174,hN0,hN]
theorem Zya {X1:(Za→Option Bool)} {Xt:(Za→Int→Option Bool)} {Xc:((List Za)→Int→Option Bool)} {Xg:((List Za)→Int→Option Bool)} (Ze8:Ze4 X1) (Ze9:Ze5 Xt) (U9:Zb9 Xc) (Zeq:Zb8 Xg) {a0:(List Za)} {a1:Int} {r:Bool} {O:Objs} {n:Nat} (h:Zex X1 Xt Xc Xg a0 a1=some r):GTo Tryz.prog 232 [(sL Zb a0),(vI a1)] O n ((vB r)) O n:=by
 unfold Zex at h
 refine Yf Zs Tryz.call232 Tryz.func232 rfl (Nat.le_of_ble_eq_true rfl) (Nat.le_refl _) fun hU => ?_
 have hN0:O n=none:=hU.fresh _ (Nat.le_refl _)
 have hN:∀ k,O (n+k)=none:=fun k=>hU.fresh _ (Nat.le_add_right _ _)
 show W _ _ _ _ ⟨18,[],[(0,(sL Zb a0)),(1,(vI a1))]⟩ (Zw O n []) _
 refine zQ [0,1] ?_
 refine Zd ?_
 refine zQd [1,7,8,9] [1,7,8,9] [] ?_
 obtain ⟨z7,hz7,h⟩:=bC h
 refine Zbe (J:=(Xx (fun z7=>JR n (⟨18,[],[(4,(vB false))]⟩:Env) (Zw O n []) n) (fun z7=>JX 0 n (⟨18,[],[]⟩:Env) (Zw O n []) n))) (z:=z7) ?_ fun hw => ?_
 ·refine Y2 hz7 (fun s0_=>⟨18,[],[(1,(vI a1)),(7,(sL Zb a0)),(8,(vI (a0.length:Int))),(9,(vI s0_))]⟩) (fun s0_=>(Zw O n [])) (Xx (fun z7=>JR n (⟨18,[],[(4,(vB false))]⟩:Env) (Zw O n []) n) (fun z7=>JX 0 n (⟨18,[],[]⟩:Env) (Zw O n []) n)) ?_
  intro s0_ x0_ hs0_
  unfold Zb0 at hs0_
  try dsimp only
  refine zQ [1,7,8,9,10] ?_
  refine Zd ?_
  refine Zo (t:=(decide (s0_ < (a0.length:Int)))) rfl (fun c6 => ?_) (fun c6 => ?_)
  ·replace hs0_:=Zn c6 hs0_
   refine X9 [1,7,8,9] [] ?_
   refine Zd ?_
   refine Z8 ?_
   refine Zd ?_
   obtain ⟨x2,hx2,ax2,bx2,cx2,hs0_⟩:=bE (f:=Zb) G7 (fun _=>rfl) (by decide) hs0_
   refine Zck [] ax2 bx2 cx2 ?_
   refine zDs [1,6,7,8,9] [true] ?_
   obtain ⟨y4,hy4,hs0_⟩:=bC hs0_
   refine zCd (Ze9 hy4) [1,7,8,9,16] [false] ?_
   refine Zo (t:=(!y4)) rfl (fun c5 => ?_) (fun c5 => ?_)
   ·replace hs0_:=Zn c5 hs0_
    refine zQ [4] ?_
    refine zW ?_
    exact zEy hs0_
   replace hs0_:=Zm c5 hs0_
   refine X9 [1,7,8,9] [false] ?_
   refine zR ?_
   exact zEn hs0_
  replace hs0_:=Zm c6 hs0_
  exact zEx hs0_
 rcases z7 with z7 | z7
 ·dsimp only [Xx] at hw h
  refine Jt hw ?_
  try simp only [Yx,Ya,↓reduceIte,Nat.reduceEqDiff]
  have h:=Option.some.inj h;subst h
  refine Zh (.inr rfl) hU [(vB false)] (by omega) ?_
  simp only [push_cast,seval,↓reduceIte,Zc,Tryz.results232,hN0,hN]
 dsimp only [Xx] at hw h
 refine Yi hw ?_
 try simp only [Yx,Ya,↓reduceIte,Nat.reduceEqDiff]
 refine zD [] [] ?_
 refine zQ [4] ?_
 refine zW ?_
 have h:=Option.some.inj h;subst h
 refine Zh (.inr rfl) hU [(vB true)] (by omega) ?_
 simp only [push_cast,seval,↓reduceIte,Zc,Tryz.results232,hN0,hN]
theorem Zx9 {X1:(Za→Option Bool)} {Xt:(Za→Int→Option Bool)} {Xc:((List Za)→Int→Option Bool)} {Xg:((List Za)→Int→Option Bool)} (Ze8:Ze4 X1) (Ze9:Ze5 Xt) (U9:Zb9 Xc) (Zeq:Zb8 Xg) {a0:(List Za)} {a1:Int} {r:Bool} {O:Objs} {n:Nat} (h:Zew X1 Xt Xc Xg a0 a1=some r):GTo Tryz.prog 234 [(sL Zb a0),(vI a1)] O n ((vB r)) O n:=by
 unfold Zew at h
 refine Yf Zs Tryz.call234 Tryz.func234 rfl (Nat.le_of_ble_eq_true rfl) (Nat.le_refl _) fun hU => ?_
 have hN0:O n=none:=hU.fresh _ (Nat.le_refl _)
 have hN:∀ k,O (n+k)=none:=fun k=>hU.fresh _ (Nat.le_add_right _ _)
 show W _ _ _ _ ⟨31,[],[(0,(sL Zb a0)),(1,(vI a1))]⟩ (Zw O n []) _
 refine zQ [0,1] ?_
 refine Zd ?_
 refine zQd [1,7,8,9] [1,7,8,9] [] ?_
 obtain ⟨z17,hz17,h⟩:=bC h
 refine Zbe (J:=(Xx (fun z17=>JR n (⟨31,[],[(4,(vB false))]⟩:Env) (Zw O n []) n) (fun z17=>JX 0 n (⟨31,[],[]⟩:Env) (Zw O n []) n))) (z:=z17) ?_ fun hw => ?_
 ·refine Y2 hz17 (fun s0_=>⟨31,[],[(1,(vI a1)),(7,(sL Zb a0)),(8,(vI (a0.length:Int))),(9,(vI s0_))]⟩) (fun s0_=>(Zw O n [])) (Xx (fun z17=>JR n (⟨31,[],[(4,(vB false))]⟩:Env) (Zw O n []) n) (fun z17=>JX 0 n (⟨31,[],[]⟩:Env) (Zw O n []) n)) ?_
  intro s0_ x0_ hs0_
  unfold Zbz at hs0_
  try dsimp only
  refine zQ [1,7,8,9,10] ?_
  refine Zd ?_
  refine Zo (t:=(decide (s0_ < (a0.length:Int)))) rfl (fun c16 => ?_) (fun c16 => ?_)
  ·replace hs0_:=Zn c16 hs0_
   refine X9 [1,7,8,9] [] ?_
   refine Zd ?_
   refine Z8 ?_
   refine Zd ?_
   obtain ⟨x2,hx2,ax2,bx2,cx2,hs0_⟩:=bE (f:=Zb) G7 (fun _=>rfl) (by decide) hs0_
   refine Zck [] ax2 bx2 cx2 ?_
   refine zD [1,6,7,8,9] [true] ?_
   obtain ⟨z6,hz6,hs0_⟩:=bC hs0_
   refine Y0 (E':=⟨31,[],[(1,(vI a1)),(7,(sL Zb a0)),(8,(vI (a0.length:Int))),(9,(vI s0_)),(29,(vB z6))]⟩) (O':=(Zw O n [none])) (n0:=(n+1)) ?_ ?_
   ·rcases Bool.eq_false_or_eq_true (x2.Kind != 10) with Vu | Vu
    ·replace hz6:=Zn Vu hz6
     refine Q7 [some false,some false,some false,some false,some false,some false,some false,some false,some false,some false] Vu ?_
     exact Qk hz6 Vu
    replace hz6:=Zm Vu hz6
    obtain ⟨y10,hy10,hz6⟩:=bC hz6
    rcases Bool.eq_false_or_eq_true y10 with Qs | Qs
    ·replace hz6:=Zn Qs hz6
     try rw [Qs] at Vu
     obtain ⟨x11,hx11,ax11,bx11,cx11,hz6⟩:=bE (f:=(eI .u64)) Zci (fun _=>rfl) (by decide) hz6
     obtain ⟨y12,hy12,hz6⟩:=bC hz6
     refine Ya9 [some true,some true,some true,some true,some true,some true,some true,some true,some true,some true] Vu Qs ax11 bx11 cx11 ?_
     refine (Ze8 hy10).then ?_
     refine zF5 Vu Qs ax11 bx11 cx11 ?_
     refine (Zx3 hy12).then ?_
     refine zF5 Vu Qs ax11 bx11 cx11 ?_
     exact Yhy hz6 Vu Qs ax11 bx11 cx11
    replace hz6:=Zm Qs hz6
    try rw [Qs] at Vu
    refine X2 [some true,some true,some true,some false,some false,some false,some false,some false,some false,some false] Vu Qs ?_
    refine (Ze8 hy10).then ?_
    refine zX2 Vu Qs ?_
    exact Zcj hz6 Vu Qs
   refine Zo (t:=z6) rfl (fun Vq => ?_) (fun Vq => ?_)
   ·replace hs0_:=Zn Vq hs0_
    refine zQ [4] ?_
    refine zW ?_
    exact zEy hs0_
   replace hs0_:=Zm Vq hs0_
   refine X9 [1,7,8,9] [false] ?_
   refine zR ?_
   exact zEn hs0_
  replace hs0_:=Zm c16 hs0_
  exact zEx hs0_
 rcases z17 with z17 | z17
 ·dsimp only [Xx] at hw h
  refine Jt hw ?_
  try simp only [Yx,Ya,↓reduceIte,Nat.reduceEqDiff]
  have h:=Option.some.inj h;subst h
  refine Zh (.inr rfl) hU [(vB false)] (by omega) ?_
  simp only [push_cast,seval,↓reduceIte,Zc,Tryz.results234,hN0,hN]
 dsimp only [Xx] at hw h
 refine Yi hw ?_
 try simp only [Yx,Ya,↓reduceIte,Nat.reduceEqDiff]
 refine zD [] [] ?_
 refine zQ [4] ?_
 refine zW ?_
 have h:=Option.some.inj h;subst h
 refine Zh (.inr rfl) hU [(vB true)] (by omega) ?_
 simp only [push_cast,seval,↓reduceIte,Zc,Tryz.results234,hN0,hN]
theorem Z0r:∀ k,(Ze4 ((Z7 k).1))∧(Ze5 ((Z7 k).2.1))∧(Zb9 ((Z7 k).2.2.1))∧(Zb8 ((Z7 k).2.2.2)):=fun k=>by
 induction k with
 | zero=>exact ⟨@fun a0 r O n h=>(nomatch (show (none:Option _)=some _ from h)),@fun a0 a1 r O n h=>(nomatch (show (none:Option _)=some _ from h)),@fun a0 a1 r O n h=>(nomatch (show (none:Option _)=some _ from h)),@fun a0 a1 r O n h=>(nomatch (show (none:Option _)=some _ from h))⟩
 | succ k ih=>exact ⟨@fun a0 r O n h=>Z3a (ih.1) (ih.2.1) (ih.2.2.1) (ih.2.2.2)  h,@fun a0 a1 r O n h=>Z3b (ih.1) (ih.2.1) (ih.2.2.1) (ih.2.2.2)  h,@fun a0 a1 r O n h=>Zya (ih.1) (ih.2.1) (ih.2.2.1) (ih.2.2.2)  h,@fun a0 a1 r O n h=>Zx9 (ih.1) (ih.2.1) (ih.2.2.1) (ih.2.2.2)  h⟩
theorem Zom {a0:Za} {r:Bool} {O:Objs} {n:Nat} (h:Zjf a0=some r):GTo Tryz.prog 114 [.agg (Ze a0)] O n ((vB r)) O n:=by
 obtain ⟨k,hk⟩:=Vx h
 exact (Z0r k).1  hk
end Go.Proofs.YtmlcnhambfkjaaaGreat
