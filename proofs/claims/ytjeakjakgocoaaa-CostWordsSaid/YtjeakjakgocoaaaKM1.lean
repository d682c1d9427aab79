/- Part KM1 of this seat's mirrors: functions of the seat's program, and the plain functions that they are; each theorem bears its own conditions. -/
import Derived.Test.YtjeakjakgocoaaaKD
namespace Go.Proofs.Ytjeakjakgocoaaa
open Go.RowKit
set_option linter.unusedVariables false
set_option linter.unusedSimpArgs false
set_option maxRecDepth 100000
set_option maxHeartbeats 4000000
attribute [local push_cast] Try.results112 Try.results146 Try.results147 Try.results148 Try.results150 Try.results202 Try.results203 Try.results222 Try.results223 Try.results224 Try.results24 Try.results62 Try.results67 Try.results91 vI vB nV sL oR Zc V5 Jd Zg Gp Ztl Ztk Zuc Zub Yt Z4 Zo5 Zjx Zjw onW Xf G5 Up Zl9 Znj Zmw Zm0 Zmv Zmz Zp7 Zp4 Zmy Zp6 Zp5 Zmx Zp2 Zk1 evS wok X9 Op.operands Call.operands gop onK onP atK List.all_cons List.all_nil Bool.and_true Bool.true_and Bool.and_self Value.oneCell' List.take_zero List.take_succ_cons List.take_nil List.drop_zero List.drop_succ_cons List.drop_nil List.append_nil Nat.add_zero Nat.zero_add Kk Zy ev Qm Zo0 Ztd Ztc Zti Ztg Zth Zte Ztf Ztb Zlm Znf Zr9 Zf3 Zbo Zei Zat Zl8 Zdt Zh6 Zib Zjq Zjn Zh9 Zjp Zjo Zh8 Zjl Zh7 Zia Zgk Zjm Zgt Zjz Gq Zgu Gr Zhp Zf1 Zo6 bLo bHi bMx Zbq Zhn Zv3 Zf0 Zgs Zds Ui Zo1 Zv5 Zgo Zv9 Zbm Zw9 Zpb Zpf Zpa Zpe Ztx Ztu Zts Zmc Zpc Ztw Ztv Zpd Ztt Zht Zo3 Zps Zkr Zkq pop TK.isAgg Zt5 Zua Zt4 Zt9 Zpk Zx0 Zxx Zt8 Zxz Zxy Zt6 Zxw G.under G.unders List.getD_cons_zero List.getD_cons_succ List.set_cons_zero List.set_cons_succ List.map_cons List.map_nil List.toList_toArray Array.toList_append Option.toArray_none Option.toArray_some Array.toList_map Option.map_some Option.map_none Option.bind_some Option.bind_none List.getElem?_cons_zero List.getElem?_cons_succ List.getElem?_nil List.nil_append List.cons_append List.replicate_succ List.replicate_zero List.length_cons List.length_nil and_true true_and and_false false_and Bool.true_eq_false Bool.false_eq_true forall_const false_implies implies_true IntKind.bits if_true if_false ite_true ite_false eq_self true_implies false_or or_false or_true true_or not_true_eq_false not_false_eq_true decide_true decide_false decide_eq_true_eq decide_eq_false_iff_not beq_iff_eq bne_iff_ne ne_eq Bool.not_eq_true Bool.not_eq_false beq_eq_false_iff_ne bne_eq_false_iff_eq beq_self_eq_true bne_self_eq_false Option.some.injEq exists_eq_left' exists_eq_left ge_iff_le gt_iff_lt decide_not Bool.not_true Bool.not_false imp_self Zxb cond_true cond_false Z3y Z3x Bool.not_not Bool.and_false Bool.false_and Bool.or_true Bool.true_or Bool.or_false Bool.false_or Zdp Zi4 Zbc Gy Uq Uh Option.join_some Nat.add_assoc Int.toNat_natCast eI eB eS eL Zw6 Zhr Zid Ztp Ztn Zto Zxv Z1b Zhz Zij Zui Zug Zuh Zsi Zna Zs5 Zms Zr5 Zfb Zr6 List.length_append G.agg.injEq G.row.injEq G.ref.injEq G.val.injEq G.sl.injEq G.tup.injEq Value.int.injEq Value.bool.injEq Value.string.injEq List.cons.injEq exists_and_left exists_const List.flatten_cons List.flatten_nil Int.le_refl Nat.le_refl Zrs Gx Zon Bool.not_eq_true' Bool.not_eq_false' Zvr Zlg Z0d Z0i Z0c Z0h Z2z Z2v List.size_toArray Zn1 Zpu G.ren G.rens Zsl Zh3 Zum Zs9 Zta Zp3 Z0j Zcw G.fn.injEq Zru Zrv Zvp Z2w Zrt Z0g Z2y Z2x Z0f Zxj Z1z Option.join_none Qe Kg undef Zgv Arr.len Arr.put_eq Zhy Zmi Zkn Zii Zuf Zud Zue onB Zxu Zoy Zpz Zod Zoe Zof Zog Zoh Zoi Zme Zmm Zmk Zkp Zik Zml Zpr Zpq Zpp Zpo Z1a Z3g Zsh Zpm U8 Zsf Zkc Zmn Zko Zwg Zmu Zfy Zgl Zha Zku Zoj Zok Zol Zom Zlv Zlw Zlx Zly Zlz Zl0 Zl1 Zcg prT Zec Z4b Zz3 Zzz Zz4 Z4c Zz5 Zsu Zz6 Z4d Zz7 Z4e Zz8 Z4f Zz9 Z4g Z0a Z11 Zus Z12 Zut Z13 Zuu Z14 Zuv Z15 Zuw Z16 Zux Z17 Zuy Z18 Zuz Z19 Zu0 Z2a Zu1 Z2b Zu2 Z2c Zu3 Z2d Zu4 Z2e Zu5 Zuq Zjd Ziq Zhe Z2f Zu6 Vl Zu7 Z2g Zu8 Z2h Zu9 Z2i Zva Z2j Zvb Z2k Zvc Zir Zvd Z2l Zve Z2m Zvf Z2n Zvg Z2o Zvh Z2p Zvi Z2q Zvj Zk4 Zvk Z2r Zvl Z2s Zvm Z2t Zvn Z2u Zvo Zyq Zqc Zyr Zqd Zys Zqe Zyt Zqf Zyu Zqg Zyv Zqh Zyw Zqi Zyx Zqj Zyy Zqk Zyz Zql Zy0 Zqm Zy1 Zqn Zy2 Zqo Zy3 Zqp Zy4 Zqq Zy5 Zqr Zy6 Zqs Zy7 Zqt Zy8 Zqu Zy9 Zqv Zk3 Zqw Zza Zqx Zgf Zqy Zzb Zqz Zcz Zq0 Zzc Zq1 Zst Zq2 Zzd Zq3 Zze Zq4 Zzf Zq5 Zzg Zq6 Zzh Zq7 Zzi Zq8 Zzj Zq9 Zzk Zra Zzl Zrb Zzm Zrc Zzn Zrd Zzo Zre Zzp Zrf Zzq Zrg Zzr Zrh Zzs Zri Zzt Zrj Zzu Zrk Zzv Zrl Zzw Zrm Zzx Zrn Zn8 Zk5 Zzy Zro Zb Z7 Zli Zlf Zj6 Zkl Zlk Ziv Zio Zim Zk8 Zdm Zdl Zc5 Zdc Zdn Zcq Zcn Zcm Zdk Zf Xp Zh Zk Xa Ye Xj Zaq Zap G8 Zaj Zas Gm Gl Gk Zan Za9 Za8 Za3 Za6 Zba Zao Zal Zak Za7 Ze6 Ze5 Zel Zex Ze7 Zd9 Zd6 Zd5 Ze4 Zm5 Zm4 Zmb Zmh Zm6 Zlb Zkv Zkt Zm2 Zlh Zle Zj5 Zkk Zlj Ziu Zin Zil Zk7 Zx Zcs Zcr Zci Zck Zct Zcc Zb6 Zb5 Zcp
def Ul (Y8:(Za→Int→Int→Option Int)):Prop:=∀ {a0:Za} {a1:Int} {a2:Int} {r:Int} {O:Objs} {n:Nat},Y8 a0 a1 a2=some r→GTo Try.prog 62 [.agg (Zg a0),(vI a1),(vI a2)] O n ((vI r)) O n
theorem Zdz {Y8:(Za→Int→Int→Option Int)} (Zdb:Ul Y8) {a0:Za} {a1:Int} {a2:Int} {r:Int} {O:Objs} {n:Nat} (h:Y5 Y8 a0 a1 a2=some r):GTo Try.prog 62 [.agg (Zg a0),(vI a1),(vI a2)] O n ((vI r)) O n:=by
 unfold Y5 at h
 refine zFn Try.call62 Try.func62 fun hU hN0 hN => ?_
 show W _ _ _ _ ⟨41,[],[(0,.agg (Zg a0)),(1,(vI a1)),(2,(vI a2))]⟩ (Zt O n []) _
 refine zQ [1,2,3] ?_
 refine zQ [1,2,3] ?_
 refine Ze ?_
 refine zQD [1,2,3,19] [none,none] ?_
 refine Zl (t:=(cond (a1 == 0) true (decide ((IntKind.i64.wrap ((IntKind.i64.wrap (a2 - 1)) - (a0.Words.length:Int))) < 0)))) rfl (fun c5 => ?_) (fun c5 => ?_)
 ·replace h:=Zo c5 h
  refine zQ [6] ?_
  exact Yw [(vI (-1))]
 replace h:=Zn c5 h
 refine Ve [1,2,3] [true] ?_
 refine Ze ?_
 refine zQd [1,2,3,7] [1,2,3,7] [true] ?_
 obtain ⟨z4,hz4,h⟩:=bC h
 refine Z9 (E':=⟨41,[],[(2,(vI z4))]⟩) (O':=(Zt O n [none])) (n0:=(n+1)) ?_ ?_
 ·refine Ym hz4 (fun s0_=>⟨41,[],[(1,(vI a1)),(2,(vI s0_.1)),(3,.ref n 0),(7,(vI s0_.2))]⟩) (fun s0_=>(Zt O n [some ⟨false,29,3,1,(Zg a0)⟩])) (fun z4=>JX 0 n (⟨41,[],[(2,(vI z4))]⟩:Env) (Zt O n [none]) (n+1)) ?_
  intro s0_ x0_ hs0_
  unfold Yy at hs0_
  try dsimp only
  refine Ze ?_
  refine zQD [1,2,3,7,28] [none,none] ?_
  refine Zl (t:=(cond (decide (s0_.2 < (a0.Kids.length:Int))) (decide (0≤s0_.1)) false)) rfl (fun c3 => ?_) (fun c3 => ?_)
  ·replace hs0_:=Zo c3 hs0_
   refine Ve [1,2,3,7] [true] ?_
   refine Ze ?_
   refine Z6 ?_
   obtain ⟨x1,hx1,ax1,bx1,cx1,hs0_⟩:=bE (f:=Zb) Vl (fun _=>rfl) (by decide) hs0_
   obtain ⟨y2,hy2,hs0_⟩:=bC hs0_
   refine Gn [] ax1 bx1 cx1 ?_
   refine (Zdb hy2).then ?_
   refine zF3 ax1 bx1 cx1 ?_
   refine zD [1,2,3,7] [true] ?_
   refine zR ?_
   exact Ky hs0_
  replace hs0_:=Zn c3 hs0_
  exact zEx hs0_
 try simp only [Yt,Z4,↓reduceIte,Nat.reduceEqDiff]
 refine zD [2] [false] ?_
 refine zQ [6] ?_
 exact Yw [(vI z4)]
theorem Zcu:∀ k,(Ul (Zz k)):=fun k=>by
 induction k with
 | zero=>exact @fun a0 a1 a2 r O n h=>(nomatch (show (none:Option _)=some _ from h))
 | succ k ih=>exact @fun a0 a1 a2 r O n h=>Zdz (ih)  h
theorem K8 {a0:Za} {a1:Int} {a2:Int} {r:Int} {O:Objs} {n:Nat} (h:Xm a0 a1 a2=some r):GTo Try.prog 62 [.agg (Zg a0),(vI a1),(vI a2)] O n ((vI r)) O n:=by
 obtain ⟨k,hk⟩:=Vg h
 exact (Zcu k)  hk
def Zaf (Yq:(Zd→Int→Int→Option Int)):Prop:=∀ {a0:Zd} {a1:Int} {a2:Int} {r:Int} {O:Objs} {n:Nat},Yq a0 a1 a2=some r→GTo Try.prog 146 [.agg (Zc a0),(vI a1),(vI a2)] O n ((vI r)) O n
theorem Zfo {Yq:(Zd→Int→Int→Option Int)} (Zai:Zaf Yq) {a0:Zd} {a1:Int} {a2:Int} {r:Int} {O:Objs} {n:Nat} (h:Y1 Yq a0 a1 a2=some r):GTo Try.prog 146 [.agg (Zc a0),(vI a1),(vI a2)] O n ((vI r)) O n:=by
 unfold Y1 at h
 refine zFn Try.call146 Try.func146 fun hU hN0 hN => ?_
 show W _ _ _ _ ⟨107,[],[(0,.agg (Zc a0)),(1,(vI a1)),(2,(vI a2))]⟩ (Zt O n []) _
 refine zQ [1,2,3] ?_
 refine zQ [1,2,3] ?_
 refine Ze ?_
 refine zQD [1,2,3,25] [none,none] ?_
 refine Zl (t:=(cond (a1 == 0) true (decide ((IntKind.i64.wrap ((IntKind.i64.wrap ((IntKind.i64.wrap (a2 - 1)) - (a0.Words.length:Int))) - (a0.Ops.length:Int))) < 0)))) rfl (fun c28 => ?_) (fun c28 => ?_)
 ·replace h:=Zo c28 h
  refine zQ [6] ?_
  exact Yw [(vI (-1))]
 replace h:=Zn c28 h
 refine Ve [1,2,3] [true] ?_
 refine Ze ?_
 obtain ⟨y2,hy2,h⟩:=bC h
 refine zCd (K8 hy2) [1,2,3] [true] ?_
 obtain ⟨z3,hz3,h⟩:=bC h
 refine Xd (E':=⟨107,[],[(1,(vI a1)),(2,(vI z3)),(3,.ref n 0)]⟩) (O':=(Zt O n [some ⟨false,86,11,1,(Zc a0)⟩])) (n0:=(n+1)) ?_ ?_
 ·refine zQ [1,2,3,31] ?_
  refine Zl (t:=(decide (0≤y2))) rfl (fun c5 => ?_) (fun c5 => ?_)
  ·replace hz3:=Zo c5 hz3
   obtain ⟨y4,hy4,hz3⟩:=bC hz3
   refine zC (K8 hy4) ?_
   exact Ky hz3
  replace hz3:=Zn c5 hz3
  refine zK ?_
  exact Ky hz3
 refine Ze ?_
 refine zQd [1,2,3,7] [1,2,3,7] [true] ?_
 obtain ⟨z10,hz10,h⟩:=bC h
 refine Z9 (E':=⟨107,[],[(1,(vI a1)),(2,(vI z10)),(3,.ref n 0)]⟩) (O':=(Zt O n [some ⟨false,86,11,1,(Zc a0)⟩])) (n0:=(n+1)) ?_ ?_
 ·refine Ym hz10 (fun s0_=>⟨107,[],[(1,(vI a1)),(2,(vI s0_.1)),(3,.ref n 0),(7,(vI s0_.2))]⟩) (fun s0_=>(Zt O n [some ⟨false,86,11,1,(Zc a0)⟩])) (fun z10=>JX 0 n (⟨107,[],[(1,(vI a1)),(2,(vI z10)),(3,.ref n 0)]⟩:Env) (Zt O n [some ⟨false,86,11,1,(Zc a0)⟩]) (n+1)) ?_
  intro s0_ x0_ hs0_
  unfold Yo at hs0_
  try dsimp only
  refine Ze ?_
  refine zQD [1,2,3,7,44] [none,none] ?_
  refine Zl (t:=(cond (decide (s0_.2 < (a0.Kids.length:Int))) (decide (0≤s0_.1)) false)) rfl (fun c9 => ?_) (fun c9 => ?_)
  ·replace hs0_:=Zo c9 hs0_
   refine Ve [1,2,3,7] [true] ?_
   refine Ze ?_
   refine Z6 ?_
   obtain ⟨x6,hx6,ax6,bx6,cx6,hs0_⟩:=bE (f:=Zh) Zgf (fun _=>rfl) (by decide) hs0_
   have g7:=Q7 (f:=Zh) (off:=1) (sz:=12) Zk4 (fun _=>rfl) (by decide) (by decide) hx6
   obtain ⟨y8,hy8,hs0_⟩:=bC hs0_
   refine Zhg [] ax6 bx6 cx6 g7 ?_
   refine (Zai hy8).then ?_
   refine zF4 ax6 bx6 cx6 g7 ?_
   refine zD [1,2,3,7] [true] ?_
   refine zR ?_
   exact Ky hs0_
  replace hs0_:=Zn c9 hs0_
  exact zEx hs0_
 try simp only [Yt,Z4,↓reduceIte,Nat.reduceEqDiff]
 refine zDs [1,2,3] [true] ?_
 refine zQd [1,2,3,8] [1,2,3,8] [true] ?_
 obtain ⟨z27,hz27,h⟩:=bC h
 refine Z9 (E':=⟨107,[],[(2,(vI z27))]⟩) (O':=(Zt O n [none])) (n0:=(n+1)) ?_ ?_
 ·refine Ym hz27 (fun s1_=>⟨107,[],[(1,(vI a1)),(2,(vI s1_.1)),(3,.ref n 0),(8,(vI s1_.2))]⟩) (fun s1_=>(Zt O n [some ⟨false,86,11,1,(Zc a0)⟩])) (fun z27=>JX 2 n (⟨107,[],[(2,(vI z27))]⟩:Env) (Zt O n [none]) (n+1)) ?_
  intro s1_ x1_ hs1_
  unfold Yp at hs1_
  try dsimp only
  refine Ze ?_
  refine zQD [1,2,3,8,65] [none,none] ?_
  refine Zl (t:=(cond (decide (s1_.2 < (a0.Ops.length:Int))) (decide (0≤s1_.1)) false)) rfl (fun c26 => ?_) (fun c26 => ?_)
  ·replace hs1_:=Zo c26 hs1_
   refine Ve [1,2,3,8] [true] ?_
   obtain ⟨z11,hz11,hs1_⟩:=bC hs1_
   refine Xd (E':=⟨107,[],[(1,(vI a1)),(2,(vI z11)),(3,.ref n 0),(8,(vI s1_.2))]⟩) (O':=(Zt O n [some ⟨false,86,11,1,(Zc a0)⟩])) (n0:=(n+1)) ?_ ?_
   ·refine Z6 ?_
    refine Ze ?_
    refine zQd [1,2,3,8,9] [1,2,3,8,9] [true] ?_
    obtain ⟨z21,hz21,hz11⟩:=bC hz11
    refine Z9 (E':=⟨107,[],[(1,(vI a1)),(2,(vI z21)),(3,.ref n 0),(8,(vI s1_.2))]⟩) (O':=(Zt O n [some ⟨false,86,11,1,(Zc a0)⟩])) (n0:=(n+1)) ?_ ?_
    ·refine Ym hz21 (fun s2_=>⟨107,[],[(1,(vI a1)),(2,(vI s2_.1)),(3,.ref n 0),(8,(vI s1_.2)),(9,(vI s2_.2))]⟩) (fun s2_=>(Zt O n [some ⟨false,86,11,1,(Zc a0)⟩])) (fun z21=>JX 4 n (⟨107,[],[(1,(vI a1)),(2,(vI z21)),(3,.ref n 0),(8,(vI s1_.2))]⟩:Env) (Zt O n [some ⟨false,86,11,1,(Zc a0)⟩]) (n+1)) ?_
     intro s2_ x2_ hs2_
     unfold Y6 at hs2_
     try dsimp only
     refine Ze ?_
     obtain ⟨x14,hx14,ax14,bx14,cx14,hs2_⟩:=bE (f:=Zk) Zcz (fun _=>rfl) (by decide) hs2_
     have g15:=Q7 (f:=Zk) (off:=2) (sz:=14) Ziq (fun _=>rfl) (by decide) (by decide) hx14
     refine Zgi [1,2,3,8,9,80] (Yb Yd [none,none] ?_)
     refine zF4 ax14 bx14 cx14 g15 ?_
     refine zG ?_
     refine Zl (t:=(cond (decide (s2_.2 < (x14.L.length:Int))) (decide (0≤s2_.1)) false)) rfl (fun c20 => ?_) (fun c20 => ?_)
     ·replace hs2_:=Zo c20 hs2_
      refine Ve [1,2,3,8,9] [true] ?_
      refine Ze ?_
      refine Z6 ?_
      obtain ⟨x16,hx16,ax16,bx16,cx16,hs2_⟩:=bE (f:=Zk) Zcz (fun _=>rfl) (by decide) hs2_
      have g17:=Q7 (f:=Zk) (off:=2) (sz:=14) Ziq (fun _=>rfl) (by decide) (by decide) hx16
      obtain ⟨x18,hx18,ax18,bx18,cx18,hs2_⟩:=bE (f:=Zb) Vl (fun _=>rfl) (by decide) hs2_
      obtain ⟨y19,hy19,hs2_⟩:=bC hs2_
      refine Z0l [] ax16 bx16 cx16 g17 ax18 bx18 cx18 ?_
      refine (K8 hy19).then ?_
      refine zF7 ax16 bx16 cx16 g17 ax18 bx18 cx18 ?_
      refine zD [1,2,3,8,9] [true] ?_
      refine zR ?_
      exact Ky hs2_
     replace hs2_:=Zn c20 hs2_
     exact zEx hs2_
    try simp only [Yt,Z4,↓reduceIte,Nat.reduceEqDiff]
    refine zD [1,2,3,8] [true] ?_
    refine zQ [1,2,3,8,95] ?_
    refine Zl (t:=(decide (0≤z21))) rfl (fun c25 => ?_) (fun c25 => ?_)
    ·replace hz11:=Zo c25 hz11
     obtain ⟨x22,hx22,ax22,bx22,cx22,hz11⟩:=bE (f:=Zk) Zcz (fun _=>rfl) (by decide) hz11
     have g23:=Q7 (f:=Zk) (off:=3) (sz:=14) Zk4 (fun _=>rfl) (by decide) (by decide) hx22
     obtain ⟨y24,hy24,hz11⟩:=bC hz11
     refine Zhg [] ax22 bx22 cx22 g23 ?_
     refine (Zai hy24).then ?_
     refine zF4 ax22 bx22 cx22 g23 ?_
     exact Zrx hz11 ax22 bx22 cx22 g23
    replace hz11:=Zn c25 hz11
    refine zK ?_
    exact Ky hz11
   refine zR ?_
   exact Ky hs1_
  replace hs1_:=Zn c26 hs1_
  exact zEx hs1_
 try simp only [Yt,Z4,↓reduceIte,Nat.reduceEqDiff]
 refine zD [2] [false] ?_
 refine zQ [6] ?_
 exact Yw [(vI z27)]
theorem Zef:∀ k,(Zaf (Zu k)):=fun k=>by
 induction k with
 | zero=>exact @fun a0 a1 a2 r O n h=>(nomatch (show (none:Option _)=some _ from h))
 | succ k ih=>exact @fun a0 a1 a2 r O n h=>Zfo (ih)  h
theorem Zf9 {a0:Zd} {a1:Int} {a2:Int} {r:Int} {O:Objs} {n:Nat} (h:Vb a0 a1 a2=some r):GTo Try.prog 146 [.agg (Zc a0),(vI a1),(vI a2)] O n ((vI r)) O n:=by
 obtain ⟨k,hk⟩:=Vg h
 exact (Zef k)  hk
theorem U4 {a0:Zd} {r:Bool} {O:Objs} {n:Nat} (h:Qt a0=some r):GTo Try.prog 91 [.agg (Zc a0)] O n ((vB r)) O n:=by
 unfold Qt at h
 refine zFn Try.call91 Try.func91 fun hU hN0 hN => ?_
 show W _ _ _ _ ⟨6,[],[(0,.agg (Zc a0))]⟩ (Zt O n []) _
 refine zQ [1] ?_
 refine Ze ?_
 obtain ⟨y2,hy2,h⟩:=bC h
 refine zCd (Zf9 hy2) [2] [false] ?_
 exact Yw [(vB (decide (0≤y2)))]
theorem Qv {a0:Za} {r:Bool} {O:Objs} {n:Nat} (h:Xt a0=some r):GTo Try.prog 147 [.agg (Zg a0)] O n ((vB r)) O n:=by
 unfold Xt at h
 refine zFn Try.call147 Try.func147 fun hU hN0 hN => ?_
 show W _ _ _ _ ⟨16,[],[(0,.agg (Zg a0))]⟩ (Zt O n []) _
 refine zQ [1] ?_
 refine zQD [2] [none,none,none,none,none,none,none,none] ?_
 exact Yw [(vB (cond (a0.Kind == 0) ((IntKind.i64.wrap ((a0.Words.length:Int)+(a0.Kids.length:Int))) == 0) false))]
theorem Vw {a0:Int} {r:Int} {O:Objs} {n:Nat} (h:X4 a0=some r):GTo Try.prog 112 [(vI a0)] O n ((vI r)) O n:=by
 unfold X4 at h
 refine zFn Try.call112 Try.func112 fun hU hN0 hN => ?_
 show W _ _ _ _ ⟨16,[],[(0,(vI a0))]⟩ (Zt O n []) _
 refine zQ [0] ?_
 refine Ze ?_
 refine zQ [3] ?_
 refine Z6 ?_
 refine zQ [3,4] ?_
 refine Zl (t:=(a0 == 0)) rfl (fun c6 => ?_) (fun c6 => ?_)
 ·replace h:=Zo c6 h
  refine zQ [2] ?_
  exact Yw [(vI 0)]
 replace h:=Zn c6 h
 refine zQ [3,6] ?_
 refine Zl (t:=(a0 == 1)) rfl (fun c5 => ?_) (fun c5 => ?_)
 ·replace h:=Zo c5 h
  refine zQ [2] ?_
  exact Yw [(vI 1)]
 replace h:=Zn c5 h
 refine zQ [3,8] ?_
 refine Zl (t:=(a0 == 2)) rfl (fun c4 => ?_) (fun c4 => ?_)
 ·replace h:=Zo c4 h
  refine zQ [2] ?_
  exact Yw [(vI 8)]
 replace h:=Zn c4 h
 refine zQ [3,10] ?_
 refine Zl (t:=(a0 == 3)) rfl (fun c3 => ?_) (fun c3 => ?_)
 ·replace h:=Zo c3 h
  refine zQ [2] ?_
  exact Yw [(vI 16)]
 replace h:=Zn c3 h
 refine zQ [3,12] ?_
 refine Zl (t:=(a0 == 4)) rfl (fun c2 => ?_) (fun c2 => ?_)
 ·replace h:=Zo c2 h
  refine zQ [2] ?_
  exact Yw [(vI 32)]
 replace h:=Zn c2 h
 refine zQ [14] ?_
 refine Zl (t:=(a0 == 5)) rfl (fun c1 => ?_) (fun c1 => ?_)
 ·replace h:=Zo c1 h
  refine zQ [2] ?_
  exact Yw [(vI 64)]
 replace h:=Zn c1 h
 refine Ve [] [] ?_
 refine zQ [2] ?_
 exact Yw [(vI (-1))]
theorem Zbu {a0:Int} {a1:Int} {r:Bool} {O:Objs} {n:Nat} (h:Q8 a0 a1=some r):GTo Try.prog 67 [(vI a0),.val (.int .u64 a1)] O n ((vB r)) O n:=by
 unfold Q8 at h
 refine zFn Try.call67 Try.func67 fun hU hN0 hN => ?_
 show W _ _ _ _ ⟨20,[],[(0,(vI a0)),(1,.val (.int .u64 a1))]⟩ (Zt O n []) _
 refine zQ [0,1] ?_
 refine Ze ?_
 obtain ⟨y2,hy2,h⟩:=bC h
 refine zCd (Vw hy2) [1,5] [] ?_
 refine Ze ?_
 refine zQ [1,5,10] ?_
 refine Zl (t:=(decide (y2 < 0))) rfl (fun c5 => ?_) (fun c5 => ?_)
 ·replace h:=Zo c5 h
  refine zQ [4] ?_
  exact Yw [(vB false)]
 replace h:=Zn c5 h
 refine Ve [1,5] [] ?_
 refine Ze ?_
 refine zQd [1,5,6] [1,5,6] [] ?_
 obtain ⟨z4,hz4,h⟩:=bC h
 refine Z9 (E':=⟨20,[],[(1,.val (.int .u64 z4))]⟩) (O':=(Zt O n [])) (n0:=n) ?_ ?_
 ·refine Ym hz4 (fun s0_=>⟨20,[],[(1,.val (.int .u64 s0_.1)),(5,(vI y2)),(6,(vI s0_.2))]⟩) (fun s0_=>(Zt O n [])) (fun z4=>JX 0 n (⟨20,[],[(1,.val (.int .u64 z4))]⟩:Env) (Zt O n []) n) ?_
  intro s0_ x0_ hs0_
  unfold Y7 at hs0_
  try dsimp only
  refine Ze ?_
  refine zQ [1,5,6,13] ?_
  refine Zl (t:=(decide (s0_.2 < y2))) rfl (fun c3 => ?_) (fun c3 => ?_)
  ·replace hs0_:=Zo c3 hs0_
   refine Ve [1,5,6] [] ?_
   refine Ze ?_
   refine Z6 ?_
   refine zRd [1,5,6] [] ?_
   refine zR ?_
   exact Ky hs0_
  replace hs0_:=Zn c3 hs0_
  exact zEx hs0_
 try simp only [Yt,Z4,↓reduceIte,Nat.reduceEqDiff]
 refine zD [1] [] ?_
 refine zQ [4] ?_
 exact Yw [(vB (z4 == 0))]
def Gg (Xn:(Za→Int→Option Bool)):Prop:=∀ {a0:Za} {a1:Int} {r:Bool} {O:Objs} {n:Nat},Xn a0 a1=some r→GTo Try.prog 24 [.agg (Zg a0),(vI a1)] O n ((vB r)) O n
theorem Zeu {Xn:(Za→Int→Option Bool)} (Zeh:Gg Xn) {a0:Za} {a1:Int} {r:Bool} {O:Objs} {n:Nat} (h:Jl Xn a0 a1=some r):GTo Try.prog 24 [.agg (Zg a0),(vI a1)] O n ((vB r)) O n:=by
 unfold Jl at h
 refine zFn Try.call24 Try.func24 fun hU hN0 hN => ?_
 show W _ _ _ _ ⟨132,[],[(0,.agg (Zg a0)),(1,(vI a1))]⟩ (Zt O n []) _
 refine zQ [1,2] ?_
 refine Ze ?_
 refine zQ [1,2,10] ?_
 refine Zl (t:=(a0.Kind == 0)) rfl (fun c32 => ?_) (fun c32 => ?_)
 ·replace h:=Zo c32 h
  refine zQD [4] [none,none,none,none] ?_
  exact Yw [(vB (cond ((a0.Words.length:Int) == 0) ((a0.Kids.length:Int) == 0) false))]
 replace h:=Zn c32 h
 refine Ve [1,2] [true] ?_
 refine Ze ?_
 refine zQ [1,2,23] ?_
 refine Zl (t:=(a0.Kind == 10)) rfl (fun c31 => ?_) (fun c31 => ?_)
 ·replace h:=Zo c31 h
  refine zQD [4] [none,none,none,none] ?_
  exact Yw [(vB (cond ((a0.Words.length:Int) == 1) ((a0.Kids.length:Int) == 0) false))]
 replace h:=Zn c31 h
 refine Ve [1,2] [true] ?_
 refine Ze ?_
 refine zQD [1,2,68] [none,none,none,none,none,none,none,none,none,none,none,none,none,none,none,none,none,none,none,none,none,none] ?_
 refine Zl (t:=(cond (cond (cond (cond (cond (decide (a0.Kind < 0)) true (decide (10 < a0.Kind))) true (a1 == 0)) true (decide (65536≤(a0.Words.length:Int)))) true (cond (a0.Kind == 1) (decide (65536≤(a0.Kids.length:Int))) false)) true (decide (1048576≤(a0.Kids.length:Int))))) rfl (fun c30 => ?_) (fun c30 => ?_)
 ·replace h:=Zo c30 h
  refine zQ [4] ?_
  exact Yw [(vB false)]
 replace h:=Zn c30 h
 refine Ve [1,2] [true] ?_
 refine Ze ?_
 refine zQD [1,2,77] [none,none,none,none] ?_
 refine Zl (t:=(cond (decide (1 < a0.Kind)) (decide (0 < (a0.Words.length:Int))) false)) rfl (fun c29 => ?_) (fun c29 => ?_)
 ·replace h:=Zo c29 h
  refine zQ [4] ?_
  exact Yw [(vB false)]
 replace h:=Zn c29 h
 refine Ve [1,2] [true] ?_
 refine Ze ?_
 refine zQd [1,2,5] [1,2,5] [true] ?_
 obtain ⟨z28,hz28,h⟩:=bC h
 refine Zfx (J:=(Vn (fun z28=>JR n (⟨132,[],[(4,(vB false))]⟩:Env) (Zt O n [none]) (n+1)) (fun z28=>JX 0 n (⟨132,[],[]⟩:Env) (Zt O n [none]) (n+1)))) (z:=z28) ?_ fun hw => ?_
 ·refine Ym hz28 (fun s0_=>⟨132,[],[(1,(vI a1)),(2,.ref n 0),(5,(vI s0_))]⟩) (fun s0_=>(Zt O n [some ⟨false,29,3,1,(Zg a0)⟩])) (Vn (fun z28=>JR n (⟨132,[],[(4,(vB false))]⟩:Env) (Zt O n [none]) (n+1)) (fun z28=>JX 0 n (⟨132,[],[]⟩:Env) (Zt O n [none]) (n+1))) ?_
  intro s0_ x0_ hs0_
  unfold Qj at hs0_
  try dsimp only
  refine Ze ?_
  refine zQ [1,2,5,82] ?_
  refine Zl (t:=(decide (s0_ < (a0.Kids.length:Int)))) rfl (fun c27 => ?_) (fun c27 => ?_)
  ·replace hs0_:=Zo c27 hs0_
   refine Ve [1,2,5] [true] ?_
   refine Ze ?_
   refine Z6 ?_
   refine Ze ?_
   obtain ⟨x2,hx2,ax2,bx2,cx2,hs0_⟩:=bE (f:=Zb) Vl (fun _=>rfl) (by decide) hs0_
   refine Gn [] ax2 bx2 cx2 ?_
   refine zDs [1,2,5,6] [true,true] ?_
   refine Ze ?_
   obtain ⟨y4,hy4,hs0_⟩:=bC hs0_
   refine zCd (Zeh hy4) [1,2,5,6,94] [true,true] ?_
   refine Zl (t:=(!y4)) rfl (fun c26 => ?_) (fun c26 => ?_)
   ·replace hs0_:=Zo c26 hs0_
    refine zQ [4] ?_
    refine zW ?_
    exact zEy hs0_
   replace hs0_:=Zn c26 hs0_
   refine Ve [1,2,5,6] [true,true] ?_
   refine zQD [1,2,5,6,7] [none,none,none] ?_
   obtain ⟨z9,hz9,hs0_⟩:=bC hs0_
   refine Xd (E':=⟨132,[],[(1,(vI a1)),(2,.ref n 0),(5,(vI s0_)),(131,(vB z9))]⟩) (O':=(Zt O n [some ⟨false,29,3,1,(Zg a0)⟩,none])) (n0:=(n+2)) ?_ ?_
   ·rcases Bool.eq_false_or_eq_true ((cond (decide (2≤a0.Kind)) (decide (a0.Kind≤7)) false) != (x2.Kind == 10)) with c18 | c18
    ·replace hz9:=Zo c18 hz9
     refine Kt Yd (by kernel_rfl) [none,none,none,none,none,none,none,none,some false,some false,some false,some false,some false,some false,some false,some false,some false,some false,some false,some false] (by kernel_rfl) ?_
     refine zX1 c18 ?_
     refine zG ?_
     exact Ge hz9 c18
    replace hz9:=Zn c18 hz9
    rcases Bool.eq_false_or_eq_true (a0.Kind == 9) with c19 | c19
    ·replace hz9:=Zo c19 hz9
     try rw [c19] at c18
     try simp only [Bool.cond_true,Bool.cond_false,Bool.true_bne,Bool.false_bne,Bool.true_beq,Bool.false_beq,Bool.not_eq_true',Bool.not_eq_false'] at c18
     rcases Bool.eq_false_or_eq_true (x2.Kind != 1) with c20 | c20
     ·replace hz9:=Zo c20 hz9
      try rw [c20] at c18
      try rw [c20] at c19
      try simp only [Bool.cond_true,Bool.cond_false,Bool.true_bne,Bool.false_bne,Bool.true_beq,Bool.false_beq,Bool.not_eq_true',Bool.not_eq_false'] at c18
      refine Kt Yd (by kernel_rfl) [none,none,none,none,none,none,none,none,some false,some false,some false,some false,some false,some false,some false,some false,some false,some false,some false,some false] (by kernel_rfl) ?_
      refine zX3 c18 c19 c20 ?_
      refine zG ?_
      exact Zhf hz9 c18 c19 c20
     replace hz9:=Zn c20 hz9
     try rw [c20] at c18
     try rw [c20] at c19
     try simp only [Bool.cond_true,Bool.cond_false,Bool.true_bne,Bool.false_bne,Bool.true_beq,Bool.false_beq,Bool.not_eq_true',Bool.not_eq_false'] at c18
     rcases Bool.eq_false_or_eq_true (decide (2≤a0.Kind)) with c21 | c21
     ·replace hz9:=Zo c21 hz9
      try rw [c21] at c18
      try rw [c21] at c19
      try rw [c21] at c20
      try simp only [Bool.cond_true,Bool.cond_false,Bool.true_bne,Bool.false_bne,Bool.true_beq,Bool.false_beq,Bool.not_eq_true',Bool.not_eq_false'] at c18
      rcases Bool.eq_false_or_eq_true (decide (a0.Kind≤7)) with c22 | c22
      ·replace hz9:=Zo c22 hz9
       try rw [c22] at c18
       try rw [c22] at c19
       try rw [c22] at c20
       try rw [c22] at c21
       try simp only [Bool.cond_true,Bool.cond_false,Bool.true_bne,Bool.false_bne,Bool.true_beq,Bool.false_beq,Bool.not_eq_true',Bool.not_eq_false'] at c18
       obtain ⟨x14,hx14,ax14,bx14,cx14,hz9⟩:=bE (f:=(eI .u64)) Zir (fun _=>rfl) (by decide) hz9
       obtain ⟨y15,hy15,hz9⟩:=bC hz9
       refine Kt Yd (by kernel_rfl) [none,none,none,none,none,none,none,none,some true,some true,some true,some true,some true,some true,some true,some true,some true,some true,some true,some true] (by kernel_rfl) ?_
       refine zF8 c18 c19 c20 c21 c22 ax14 bx14 cx14 ?_
       refine zG ?_
       refine PCall.of (Zbu hy15) ?_
       refine zF8 c18 c19 c20 c21 c22 ax14 bx14 cx14 ?_
       refine zG ?_
       exact Z6d hz9 c18 c19 c20 c21 c22 ax14 bx14 cx14
      replace hz9:=Zn c22 hz9
      try rw [c22] at c18
      try rw [c22] at c19
      try rw [c22] at c20
      try rw [c22] at c21
      try simp only [Bool.cond_true,Bool.cond_false,Bool.true_bne,Bool.false_bne,Bool.true_beq,Bool.false_beq,Bool.not_eq_true',Bool.not_eq_false'] at c18
      refine Kt Yd (by kernel_rfl) [none,none,none,none,none,none,none,none,some true,some true,some false,some false,some false,some false,some false,some false,some false,some false,some false,some true] (by kernel_rfl) ?_
      refine zX5 c18 c19 c20 c21 c22 ?_
      refine zG ?_
      exact Z6e hz9 c18 c19 c20 c21 c22
     replace hz9:=Zn c21 hz9
     try rw [c21] at c18
     try rw [c21] at c19
     try rw [c21] at c20
     try simp only [Bool.cond_true,Bool.cond_false,Bool.true_bne,Bool.false_bne,Bool.true_beq,Bool.false_beq,Bool.not_eq_true',Bool.not_eq_false'] at c18
     refine Kt Yd (by kernel_rfl) [none,none,none,none,none,none,none,none,some true,some true,some false,some false,some false,some false,some false,some false,some false,some false,some false,some true] (by kernel_rfl) ?_
     refine zX4 c18 c19 c20 c21 ?_
     refine zG ?_
     exact Zvt hz9 c18 c19 c20 c21
    replace hz9:=Zn c19 hz9
    try rw [c19] at c18
    try simp only [Bool.cond_true,Bool.cond_false,Bool.true_bne,Bool.false_bne,Bool.true_beq,Bool.false_beq,Bool.not_eq_true',Bool.not_eq_false'] at c18
    rcases Bool.eq_false_or_eq_true (decide (2≤a0.Kind)) with c23 | c23
    ·replace hz9:=Zo c23 hz9
     try rw [c23] at c18
     try rw [c23] at c19
     try simp only [Bool.cond_true,Bool.cond_false,Bool.true_bne,Bool.false_bne,Bool.true_beq,Bool.false_beq,Bool.not_eq_true',Bool.not_eq_false'] at c18
     rcases Bool.eq_false_or_eq_true (decide (a0.Kind≤7)) with c24 | c24
     ·replace hz9:=Zo c24 hz9
      try rw [c24] at c18
      try rw [c24] at c19
      try rw [c24] at c23
      try simp only [Bool.cond_true,Bool.cond_false,Bool.true_bne,Bool.false_bne,Bool.true_beq,Bool.false_beq,Bool.not_eq_true',Bool.not_eq_false'] at c18
      obtain ⟨x16,hx16,ax16,bx16,cx16,hz9⟩:=bE (f:=(eI .u64)) Zir (fun _=>rfl) (by decide) hz9
      obtain ⟨y17,hy17,hz9⟩:=bC hz9
      refine Kt Yd (by kernel_rfl) [none,none,none,none,none,none,none,none,some true,some true,some true,some true,some true,some true,some true,some true,some true,some true,some true,some true] (by kernel_rfl) ?_
      refine zF7 c18 c19 c23 c24 ax16 bx16 cx16 ?_
      refine zG ?_
      refine PCall.of (Zbu hy17) ?_
      refine zF7 c18 c19 c23 c24 ax16 bx16 cx16 ?_
      refine zG ?_
      exact Z20 hz9 c18 c19 c23 c24 ax16 bx16 cx16
     replace hz9:=Zn c24 hz9
     try rw [c24] at c18
     try rw [c24] at c19
     try rw [c24] at c23
     try simp only [Bool.cond_true,Bool.cond_false,Bool.true_bne,Bool.false_bne,Bool.true_beq,Bool.false_beq,Bool.not_eq_true',Bool.not_eq_false'] at c18
     refine Kt Yd (by kernel_rfl) [none,none,none,none,none,none,none,none,some true,some true,some false,some false,some false,some false,some false,some false,some false,some false,some false,some true] (by kernel_rfl) ?_
     refine zX4 c18 c19 c23 c24 ?_
     refine zG ?_
     exact Zvt hz9 c18 c19 c23 c24
    replace hz9:=Zn c23 hz9
    try rw [c23] at c18
    try rw [c23] at c19
    try simp only [Bool.cond_true,Bool.cond_false,Bool.true_bne,Bool.false_bne,Bool.true_beq,Bool.false_beq,Bool.not_eq_true',Bool.not_eq_false'] at c18
    refine Kt Yd (by kernel_rfl) [none,none,none,none,none,none,none,none,some true,some true,some false,some false,some false,some false,some false,some false,some false,some false,some false,some true] (by kernel_rfl) ?_
    refine zX3 c18 c19 c23 ?_
    refine zG ?_
    exact Zhf hz9 c18 c19 c23
   refine Zl (t:=z9) rfl (fun c25 => ?_) (fun c25 => ?_)
   ·replace hs0_:=Zo c25 hs0_
    refine zQ [4] ?_
    refine zW ?_
    exact zEy hs0_
   replace hs0_:=Zn c25 hs0_
   refine Ve [1,2,5] [true,false] ?_
   refine zR ?_
   exact Ky hs0_
  replace hs0_:=Zn c27 hs0_
  exact zEx hs0_
 rcases z28 with z28 | z28
 ·dsimp only [Vn] at hw h
  refine Zbh hw ?_
  try simp only [Yt,Z4,↓reduceIte,Nat.reduceEqDiff]
  exact Zoc [(vB false)]
 dsimp only [Vn] at hw h
 refine Z9 hw ?_
 try simp only [Yt,Z4,↓reduceIte,Nat.reduceEqDiff]
 refine zD [] [false] ?_
 refine zQ [4] ?_
 exact Yw [(vB true)]
theorem Zdu:∀ k,(Gg (Xq k)):=fun k=>by
 induction k with
 | zero=>exact @fun a0 a1 r O n h=>(nomatch (show (none:Option _)=some _ from h))
 | succ k ih=>exact @fun a0 a1 r O n h=>Zeu (ih)  h
theorem Jg {a0:Za} {a1:Int} {r:Bool} {O:Objs} {n:Nat} (h:Qs a0 a1=some r):GTo Try.prog 24 [.agg (Zg a0),(vI a1)] O n ((vB r)) O n:=by
 obtain ⟨k,hk⟩:=Vg h
 exact (Zdu k)  hk
theorem Za4 {a0:Int} {r:(Arr Int 8)} {O:Objs} {n:Nat} (h:Qr a0=some r):GTo Try.prog 222 [.val (.int .u64 a0)] O n (.agg (fl (eI .u8) r.1)) O n:=by
 unfold Qr at h
 refine zFn Try.call222 Try.func222 fun hU hN0 hN => ?_
 show W _ _ _ _ ⟨18,[],[(0,.val (.int .u64 a0))]⟩ (Zt O n []) _
 obtain ⟨y3,hy3,ey3,h⟩:=bY (f:=(eI .u8)) (cs:=[.val (.int .u8 0),.val (.int .u8 0),.val (.int .u8 0),.val (.int .u8 0),.val (.int .u8 0),.val (.int .u8 0),.val (.int .u8 0),.val (.int .u8 0)]) rfl h
 have g4:=congrArg (GObj.mk false 256 8 1) ey3
 refine Z7n [0,2] g4 ?_
 refine Ze ?_
 obtain ⟨y9,hy9,ey9,h⟩:=bY (f:=(eI .u8)) (cs:=[.val (.int .u8 0),.val (.int .u8 0),.val (.int .u8 0),.val (.int .u8 0),.val (.int .u8 0),.val (.int .u8 0),.val (.int .u8 0),.val (.int .u8 0)]) rfl h
 have g10:=congrArg G.agg ey9
 have g11:=congrArg (GObj.mk false 256 8 1) ey9
 have g12:=Zbr (f:=(eI .u8)) y9 y9 (fun _=>rfl)
 refine Zdo [] g10 g11 g12 ?_
 refine zDs [0,2,3] [true,true] ?_
 refine zQd [0,2,3,4] [0,2,3,4] [true,true] ?_
 obtain ⟨z18,hz18,h⟩:=bC h
 refine Z9 (E':=⟨18,[],[(2,.ref n 0),(3,.ref (n+1) 0)]⟩) (O':=(Zt O n [some ⟨false,256,8,1,fl (eI .u8) y3.1⟩,some ⟨false,256,8,1,fl (eI .u8) z18.1⟩])) (n0:=(n+2)) ?_ ?_
 ·refine Ym hz18 (fun s0_=>⟨18,[],[(0,.val (.int .u64 s0_.1)),(2,.ref n 0),(3,.ref (n+1) 0),(4,(vI s0_.2.1))]⟩) (fun s0_=>(Zt O n [some ⟨false,256,8,1,fl (eI .u8) y3.1⟩,some ⟨false,256,8,1,fl (eI .u8) s0_.2.2.1⟩])) (fun z18=>JX 0 n (⟨18,[],[(2,.ref n 0),(3,.ref (n+1) 0)]⟩:Env) (Zt O n [some ⟨false,256,8,1,fl (eI .u8) y3.1⟩,some ⟨false,256,8,1,fl (eI .u8) z18.1⟩]) (n+2)) ?_
  intro s0_ x0_ hs0_
  unfold Qn at hs0_
  try dsimp only
  refine Ze ?_
  refine zQ [0,2,3,4,7] ?_
  refine Zl (t:=(decide (s0_.2.1 < 8))) rfl (fun c17 => ?_) (fun c17 => ?_)
  ·replace hs0_:=Zo c17 hs0_
   refine Ve [0,2,3,4] [true,true] ?_
   refine Ze ?_
   refine Z6 ?_
   refine Ze ?_
   obtain ⟨x15,hx15,ax15,bx15,cx15,hs0_⟩:=bEA (f:=(eI .u8)) (b:=8) rfl Zsu (fun _=>rfl) (by decide) hs0_
   have gu16:Vu (fl (eI .u8) s0_.2.2.1) [.val (.int .u8 (IntKind.u8.wrap (Int.tmod s0_.1 256)))] (Int.toNat s0_.2.1 * 1)=some (fl (eI .u8) (Zh5 s0_.2.2.1 s0_.2.1 (IntKind.u8.wrap (Int.tmod s0_.1 256)))):=Zhs (f:=(eI .u8)) (ti:=⟨.bool,1,0,[],false⟩) (x:=(IntKind.u8.wrap (Int.tmod s0_.1 256))) (fun _=>rfl) (Zbp hx15)
   refine Zhg [] ax15 bx15 cx15 gu16 ?_
   refine zD [0,2,3,4] [true,true] ?_
   refine zRd [0,2,3,4] [true,true] ?_
   refine zR ?_
   exact Ky hs0_
  replace hs0_:=Zn c17 hs0_
  exact zEx hs0_
 try simp only [Yt,Z4,↓reduceIte,Nat.reduceEqDiff]
 refine zDs [2,3] [true,true] ?_
 have g21:=Zl7 (f:=(eI .u8)) z18 Zn8 rfl (fun _=>rfl) rfl
 have g22:=Zbr (f:=(eI .u8)) y3 z18 (fun _=>rfl)
 refine Zeb [] g21 g22 ?_
 refine zD [2] [true,false] ?_
 refine zW ?_
 have h:=Option.some.inj h;subst h
 have gR0:=Zl7 (f:=(eI .u8)) z18 Zn8 rfl (fun _=>rfl) rfl
 refine Zm9 (.inr rfl) hU [.agg (fl (eI .u8) z18.1)] (by omega) ?_
 simp only [push_cast,seval,↓reduceIte,Zq,Try.results222,hN0,hN,gR0]
theorem Zfj {a0:Int} {a1:Int} {r:Bool} {O:Objs} {n:Nat} (h:Jq a0 a1=some r):GTo Try.prog 223 [.val (.int .u8 a0),(vI a1)] O n ((vB r)) O n:=by
 unfold Jq at h
 refine zFn Try.call223 Try.func223 fun hU hN0 hN => ?_
 show W _ _ _ _ ⟨16,[],[(0,.val (.int .u8 a0)),(1,(vI a1))]⟩ (Zt O n []) _
 refine zQ [0,1] ?_
 refine Ze ?_
 refine zQd [0,1,5] [0,1,5] [] ?_
 obtain ⟨z2,hz2,h⟩:=bC h
 refine Z9 (E':=⟨16,[],[(0,.val (.int .u8 z2))]⟩) (O':=(Zt O n [])) (n0:=n) ?_ ?_
 ·refine Ym hz2 (fun s0_=>⟨16,[],[(0,.val (.int .u8 s0_.1)),(1,(vI a1)),(5,(vI s0_.2))]⟩) (fun s0_=>(Zt O n [])) (fun z2=>JX 0 n (⟨16,[],[(0,.val (.int .u8 z2))]⟩:Env) (Zt O n []) n) ?_
  intro s0_ x0_ hs0_
  unfold Xz at hs0_
  try dsimp only
  refine Ze ?_
  refine zQ [0,1,5,8] ?_
  refine Zl (t:=(decide (s0_.2 < a1))) rfl (fun c1 => ?_) (fun c1 => ?_)
  ·replace hs0_:=Zo c1 hs0_
   refine Ve [0,1,5] [] ?_
   refine Ze ?_
   refine Z6 ?_
   refine zRd [0,1,5] [] ?_
   refine zR ?_
   exact Ky hs0_
  replace hs0_:=Zn c1 hs0_
  exact zEx hs0_
 try simp only [Yt,Z4,↓reduceIte,Nat.reduceEqDiff]
 refine zD [0] [] ?_
 refine zQ [4] ?_
 exact Yw [(vB ((Int.tmod z2 2) == 1))]
theorem Zhv {a0:(List Int)} {a1:Int} {r:Int} {O:Objs} {n:Nat} (h:V6 a0 a1=some r):GTo Try.prog 224 [(sL (eI .u8) a0),(vI a1)] O n (.val (.int .u64 r)) O n:=by
 unfold V6 at h
 refine zFn Try.call224 Try.func224 fun hU hN0 hN => ?_
 show W _ _ _ _ ⟨22,[],[(0,(sL (eI .u8) a0)),(1,(vI a1))]⟩ (Zt O n []) _
 refine zQ [0,1] ?_
 refine zQ [0,1,5] ?_
 refine Ze ?_
 refine zQd [0,1,5,6] [0,1,5,6] [] ?_
 obtain ⟨z3,hz3,h⟩:=bC h
 refine Z9 (E':=⟨22,[],[(5,.val (.int .u64 z3))]⟩) (O':=(Zt O n [])) (n0:=n) ?_ ?_
 ·refine Ym hz3 (fun s0_=>⟨22,[],[(0,(sL (eI .u8) a0)),(1,(vI a1)),(5,.val (.int .u64 s0_.1)),(6,(vI s0_.2))]⟩) (fun s0_=>(Zt O n [])) (fun z3=>JX 0 n (⟨22,[],[(5,.val (.int .u64 z3))]⟩:Env) (Zt O n []) n) ?_
  intro s0_ x0_ hs0_
  unfold Jr at hs0_
  try dsimp only
  refine Ze ?_
  refine zQ [0,1,5,6,8] ?_
  refine Zl (t:=(decide (0≤s0_.2))) rfl (fun c2 => ?_) (fun c2 => ?_)
  ·replace hs0_:=Zo c2 hs0_
   refine Ve [0,1,5,6] [] ?_
   refine Ze ?_
   refine Z6 ?_
   obtain ⟨x1,hx1,ax1,bx1,cx1,hs0_⟩:=bE (f:=(eI .u8)) Zsu (fun _=>rfl) (by decide) hs0_
   refine Gn [] ax1 bx1 cx1 ?_
   refine zD [0,1,5,6] [] ?_
   refine zR ?_
   exact Ky hs0_
  replace hs0_:=Zn c2 hs0_
  exact zEx hs0_
 try simp only [Yt,Z4,↓reduceIte,Nat.reduceEqDiff]
 refine zD [5] [] ?_
 refine zQ [4] ?_
 exact Yw [.val (.int .u64 z3)]
theorem Zgz {a0:Int} {a1:Int} {a2:Int} {r:Int} {O:Objs} {n:Nat} (h:Km a0 a1 a2=some r):GTo Try.prog 202 [.val (.int .u64 a0),.val (.int .u64 a1),.val (.int .u8 a2)] O n (.val (.int .u64 r)) O n:=by
 unfold Km at h
 refine zFn Try.call202 Try.func202 fun hU hN0 hN => ?_
 show W _ _ _ _ ⟨28,[],[(0,.val (.int .u64 a0)),(1,.val (.int .u64 a1)),(2,.val (.int .u8 a2))]⟩ (Zt O n []) _
 refine zQ [0,1,2] ?_
 refine Ze ?_
 obtain ⟨y8,hy8,h⟩:=bC h
 obtain ⟨y9,hy9,h⟩:=bC h
 obtain ⟨y10,hy10,ey10,h⟩:=bY (f:=(eI .u8)) (cs:=[.val (.int .u8 0),.val (.int .u8 0),.val (.int .u8 0),.val (.int .u8 0),.val (.int .u8 0),.val (.int .u8 0),.val (.int .u8 0),.val (.int .u8 0)]) rfl h
 have g11:=congrArg (GObj.mk false 256 8 1) ey10
 have g12:=congrArg (GObj.mk false 256 8 1) ey10
 have g13:=Zbr (f:=(eI .u8)) y10 y8 (fun _=>rfl)
 have g14:=Zbr (f:=(eI .u8)) y10 y9 (fun _=>rfl)
 refine Zvu [] g11 g12 g13 g14 ?_
 refine (Za4 hy8).then ?_
 refine zX4 g11 g12 g13 g14 ?_
 refine (Za4 hy9).then ?_
 refine zX4 g11 g12 g13 g14 ?_
 refine zDs [2,7,8] [true,true] ?_
 refine zQd [2,7,8,9] [2,7,8,9] [true,true] ?_
 obtain ⟨z23,hz23,h⟩:=bC h
 refine Z9 (E':=⟨28,[],[(7,.ref n 0)]⟩) (O':=(Zt O n [some ⟨false,256,8,1,fl (eI .u8) z23.1⟩,none])) (n0:=(n+2)) ?_ ?_
 ·refine Ym hz23 (fun s0_=>⟨28,[],[(2,.val (.int .u8 a2)),(7,.ref n 0),(8,.ref (n+1) 0),(9,(vI s0_.1))]⟩) (fun s0_=>(Zt O n [some ⟨false,256,8,1,fl (eI .u8) s0_.2.1⟩,some ⟨false,256,8,1,fl (eI .u8) y9.1⟩])) (fun z23=>JX 0 n (⟨28,[],[(7,.ref n 0)]⟩:Env) (Zt O n [some ⟨false,256,8,1,fl (eI .u8) z23.1⟩,none]) (n+2)) ?_
  intro s0_ x0_ hs0_
  unfold Je at hs0_
  try dsimp only
  refine Ze ?_
  refine zQ [2,7,8,9,15] ?_
  refine Zl (t:=(decide (s0_.1 < 8))) rfl (fun c22 => ?_) (fun c22 => ?_)
  ·replace hs0_:=Zo c22 hs0_
   refine Ve [2,7,8,9] [true,true] ?_
   obtain ⟨z15,hz15,hs0_⟩:=bC hs0_
   refine Xd (E':=⟨28,[],[(2,.val (.int .u8 a2)),(7,.ref n 0),(8,.ref (n+1) 0),(9,(vI s0_.1))]⟩) (O':=(Zt O n [some ⟨false,256,8,1,fl (eI .u8) z15.1⟩,some ⟨false,256,8,1,fl (eI .u8) y9.1⟩])) (n0:=(n+2)) ?_ ?_
   ·refine Z6 ?_
    refine Ze ?_
    obtain ⟨y17,hy17,hz15⟩:=bC hz15
    refine zCd (Zfj hy17) [2,7,8,9,20] [true,true] ?_
    refine Zl (t:=y17) rfl (fun c21 => ?_) (fun c21 => ?_)
    ·replace hz15:=Zo c21 hz15
     obtain ⟨x18,hx18,ax18,bx18,cx18,hz15⟩:=bEA (f:=(eI .u8)) (b:=8) rfl Zsu (fun _=>rfl) (by decide) hz15
     obtain ⟨x19,hx19,ax19,bx19,cx19,hz15⟩:=bEA (f:=(eI .u8)) (b:=8) rfl Zsu (fun _=>rfl) (by decide) hz15
     have gu20:Vu (fl (eI .u8) s0_.2.1) [.val (.int .u8 x18)] (Int.toNat s0_.1 * 1)=some (fl (eI .u8) (Zh5 s0_.2.1 s0_.1 x18)):=Zhs (f:=(eI .u8)) (ti:=⟨.bool,1,0,[],false⟩) (x:=x18) (fun _=>rfl) (Zbp hx19)
     refine Z0l [] ax18 bx18 cx18 ax19 bx19 cx19 gu20 ?_
     exact Z20 hz15 ax18 bx18 cx18 ax19 bx19 cx19 gu20
    replace hz15:=Zn c21 hz15
    refine zK ?_
    exact Ky hz15
   refine zR ?_
   exact Ky hs0_
  replace hs0_:=Zn c22 hs0_
  exact zEx hs0_
 try simp only [Yt,Z4,↓reduceIte,Nat.reduceEqDiff]
 refine zDs [7] [true,false] ?_
 have g27:=Zsc (j:=n) Zk5 Zsu (by decide)
 have g28:=z23.2
 obtain ⟨y29,hy29,h⟩:=bC h
 refine Zeb [] g27 g28 ?_
 refine GCalls.lend (Zhv hy29) rfl ?_ ?_
 ·exact Z7o g27 g28
 refine zX2 g27 g28 ?_
 refine zD [6] [false,false] ?_
 exact Yw [.val (.int .u64 y29)]
theorem Vi {a0:Int} {a1:Int} {r:Bool} {O:Objs} {n:Nat} (h:Qf a0 a1=some r):GTo Try.prog 148 [.val (.int .u64 a0),.val (.int .u8 a1)] O n ((vB r)) O n:=by
 unfold Qf at h
 refine zFn Try.call148 Try.func148 fun hU hN0 hN => ?_
 show W _ _ _ _ ⟨9,[],[(0,.val (.int .u64 a0)),(1,.val (.int .u8 a1))]⟩ (Zt O n []) _
 refine zQ [0,1] ?_
 refine Ze ?_
 obtain ⟨y2,hy2,h⟩:=bC h
 refine zCd (Zgz hy2) [4] [] ?_
 exact Yw [(vB (y2 == 0))]
theorem Zbx {a0:Zd} {r:Bool} {O:Objs} {n:Nat} (h:Q9 a0=some r):GTo Try.prog 203 [.agg (Zc a0)] O n ((vB r)) O n:=by
 unfold Q9 at h
 refine zFn Try.call203 Try.func203 fun hU hN0 hN => ?_
 show W _ _ _ _ ⟨35,[],[(0,.agg (Zc a0))]⟩ (Zt O n []) _
 refine zQ [1] ?_
 obtain ⟨z3,hz3,h⟩:=bC h
 refine Xd (E':=⟨35,[],[(2,(vB z3))]⟩) (O':=(Zt O n [none])) (n0:=(n+1)) ?_ ?_
 ·rcases Bool.eq_false_or_eq_true (a0.Kind == 0) with c8 | c8
  ·replace hz3:=Zo c8 hz3
   obtain ⟨y6,hy6,hz3⟩:=bC hz3
   rcases Bool.eq_false_or_eq_true y6 with c9 | c9
   ·replace hz3:=Zo c9 hz3
    try rw [c9] at c8
    obtain ⟨y7,hy7,hz3⟩:=bC hz3
    refine Zeb [some true,some true,some true,some true,some true,some true,none,none,none,none,none,none,none,none,none,none,none,none,none,none,none] c8 c9 ?_
    refine zG ?_
    refine (Qv hy6).then ?_
    refine zX2 c8 c9 ?_
    refine zG ?_
    refine (Qv hy7).then ?_
    refine zX2 c8 c9 ?_
    refine zG ?_
    exact Zfv hz3 c8 c9
   replace hz3:=Zn c9 hz3
   try rw [c9] at c8
   refine Zeb [some true,some true,some true,some false,some false,some false,some false,some false,some false,some false,some false,some false,some false,some false,some false,some false,some false,some false,some false,some false,some false] c8 c9 ?_
   refine (Qv hy6).then ?_
   refine zX2 c8 c9 ?_
   exact Zfv hz3 c8 c9
  replace hz3:=Zn c8 hz3
  refine Zbb [some false,some false,some false,some false,some false,some false,some false,some false,some false,some false,some false,some false,some false,some false,some false,some false,some false,some false,some false,some false,some false] c8 ?_
  exact Ge hz3 c8
 exact Yw [(vB z3)]
theorem Gi {a0:Zd} {r:(Int×Int)} {O:Objs} {n:Nat} (h:X6 a0=some r):GTo Try.prog 150 [.agg (Zc a0)] O n (.tup [(vI r.1),(vI r.2)]) O n:=by
 unfold X6 at h
 refine zFn Try.call150 Try.func150 fun hU hN0 hN => ?_
 show W _ _ _ _ ⟨48,[],[(0,.agg (Zc a0))]⟩ (Zt O n []) _
 refine zQ [1] ?_
 refine zQ [1,4,5] ?_
 refine Ze ?_
 refine zQd [1,4,5,6] [1,4,5,6] [true] ?_
 obtain ⟨z14,hz14,h⟩:=bC h
 refine Z9 (E':=⟨48,[],[(4,(vI z14.1)),(5,(vI z14.2))]⟩) (O':=(Zt O n [none])) (n0:=(n+1)) ?_ ?_
 ·refine Ym hz14 (fun s0_=>⟨48,[],[(1,.ref n 0),(4,(vI s0_.1)),(5,(vI s0_.2.1)),(6,(vI s0_.2.2))]⟩) (fun s0_=>(Zt O n [some ⟨false,86,11,1,(Zc a0)⟩])) (fun z14=>JX 0 n (⟨48,[],[(4,(vI z14.1)),(5,(vI z14.2))]⟩:Env) (Zt O n [none]) (n+1)) ?_
  intro s0_ x0_ hs0_
  unfold X7 at hs0_
  try dsimp only
  refine Ze ?_
  refine zQ [1,4,5,6,13] ?_
  refine Zl (t:=(decide (s0_.2.2 < (a0.Ops.length:Int)))) rfl (fun c13 => ?_) (fun c13 => ?_)
  ·replace hs0_:=Zo c13 hs0_
   refine Ve [1,4,5,6] [true] ?_
   obtain ⟨z1,hz1,hs0_⟩:=bC hs0_
   refine Xd (E':=⟨48,[],[(1,.ref n 0),(4,(vI z1.1)),(5,(vI z1.2)),(6,(vI s0_.2.2))]⟩) (O':=(Zt O n [some ⟨false,86,11,1,(Zc a0)⟩,none])) (n0:=(n+2)) ?_ ?_
   ·refine Z6 ?_
    refine Ze ?_
    obtain ⟨x3,hx3,ax3,bx3,cx3,hz1⟩:=bE (f:=Zk) Zcz (fun _=>rfl) (by decide) hz1
    refine Gn [] ax3 bx3 cx3 ?_
    refine zD [1,4,5,6,7] [true,true] ?_
    refine zQ [1,4,5,6,7,8] ?_
    obtain ⟨z4,hz4,hz1⟩:=bC hz1
    refine Xd (E':=⟨48,[],[(1,.ref n 0),(4,(vI s0_.1)),(5,(vI s0_.2.1)),(6,(vI s0_.2.2)),(7,.ref (n+1) 0),(8,(vI z4))]⟩) (O':=(Zt O n [some ⟨false,86,11,1,(Zc a0)⟩,some ⟨false,148,14,1,(Jd x3)⟩])) (n0:=(n+2)) ?_ ?_
    ·refine zQ [1,4,5,6,7,8,29] ?_
     refine Zl (t:=(x3.Kind == 3)) rfl (fun c5 => ?_) (fun c5 => ?_)
     ·replace hz4:=Zo c5 hz4
      refine zR ?_
      exact Ky hz4
     replace hz4:=Zn c5 hz4
     refine zK ?_
     exact Ky hz4
    obtain ⟨z6,hz6,hz1⟩:=bC hz1
    refine Xd (E':=⟨48,[],[(1,.ref n 0),(4,(vI z6)),(5,(vI s0_.2.1)),(6,(vI s0_.2.2)),(7,.ref (n+1) 0),(8,(vI z4))]⟩) (O':=(Zt O n [some ⟨false,86,11,1,(Zc a0)⟩,some ⟨false,148,14,1,(Jd x3)⟩])) (n0:=(n+2)) ?_ ?_
    ·refine zQ [1,4,5,6,7,8,32] ?_
     refine Zl (t:=(x3.Kind != 2)) rfl (fun c7 => ?_) (fun c7 => ?_)
     ·replace hz6:=Zo c7 hz6
      refine zR ?_
      exact Ky hz6
     replace hz6:=Zn c7 hz6
     refine zK ?_
     exact Ky hz6
    obtain ⟨z8,hz8,hz1⟩:=bC hz1
    refine Xd (E':=⟨48,[],[(1,.ref n 0),(4,(vI z6)),(5,(vI z8)),(6,(vI s0_.2.2))]⟩) (O':=(Zt O n [some ⟨false,86,11,1,(Zc a0)⟩,none])) (n0:=(n+2)) ?_ ?_
    ·refine zQ [1,4,5,6,8,38] ?_
     refine Zl (t:=(x3.Kind != 1)) rfl (fun c9 => ?_) (fun c9 => ?_)
     ·replace hz8:=Zo c9 hz8
      refine zR ?_
      exact Ky hz8
     replace hz8:=Zn c9 hz8
     refine zK ?_
     exact Ky hz8
    obtain ⟨z10,hz10,hz1⟩:=bC hz1
    refine Xd (E':=⟨48,[],[(1,.ref n 0),(4,(vI z10)),(5,(vI z8)),(6,(vI s0_.2.2))]⟩) (O':=(Zt O n [some ⟨false,86,11,1,(Zc a0)⟩,none])) (n0:=(n+2)) ?_ ?_
    ·refine zQ [1,4,5,6,43] ?_
     refine Zl (t:=(decide (1048576 < z6))) rfl (fun c11 => ?_) (fun c11 => ?_)
     ·replace hz10:=Zo c11 hz10
      refine zR ?_
      exact Ky hz10
     replace hz10:=Zn c11 hz10
     refine zK ?_
     exact Ky hz10
    refine zQ [1,4,5,6,45] ?_
    refine Zl (t:=(decide (1048576 < z8))) rfl (fun c12 => ?_) (fun c12 => ?_)
    ·replace hz1:=Zo c12 hz1
     refine zR ?_
     exact Ky hz1
    replace hz1:=Zn c12 hz1
    refine zK ?_
    exact Ky hz1
   refine zR ?_
   exact Ky hs0_
  replace hs0_:=Zn c13 hs0_
  exact zEx hs0_
 try simp only [Yt,Z4,↓reduceIte,Nat.reduceEqDiff]
 refine zD [4,5] [false] ?_
 refine zQ [2,3] ?_
 exact Yw [(vI z14.1),(vI z14.2)]
attribute [local push_cast] Try.results100 Try.results103 Try.results149 Try.results152 Try.results167 Try.results168 Try.results169 Try.results170 Try.results199 Try.results54 Try.results60 Try.results64 Try.results92 Try.results93 Try.results99
def K7 (Z8:(Zd→Int→Option Bool)):Prop:=∀ {a0:Zd} {a1:Int} {r:Bool} {O:Objs} {n:Nat},Z8 a0 a1=some r→GTo Try.prog 92 [.agg (Zc a0),(vI a1)] O n ((vB r)) O n
def Uf (Yx:(Int→Zp→Int→Option Bool)):Prop:=∀ {a0:Int} {a1:Zp} {a2:Int} {r:Bool} {O:Objs} {n:Nat},Yx a0 a1 a2=some r→GTo Try.prog 149 [(vI a0),.agg (Jd a1),(vI a2)] O n ((vB r)) O n
theorem Zew {Z8:(Zd→Int→Option Bool)} {Yx:(Int→Zp→Int→Option Bool)} (K9:K7 Z8) (Zbz:Uf Yx) {a0:Zd} {a1:Int} {r:Bool} {O:Objs} {n:Nat} (h:Jn Z8 Yx a0 a1=some r):GTo Try.prog 92 [.agg (Zc a0),(vI a1)] O n ((vB r)) O n:=by
 unfold Jn at h
 refine zFn Try.call92 Try.func92 fun hU hN0 hN => ?_
 show W _ _ _ _ ⟨216,[],[(0,.agg (Zc a0)),(1,(vI a1))]⟩ (Zt O n []) _
 refine zQ [1,2] ?_
 refine Ze ?_
 refine zQD [1,2,24] [none,none,none,none,none,none] ?_
 refine Zl (t:=(cond (cond (a1 == 0) true (decide (a0.Kind < 0))) true (decide (3 < a0.Kind)))) rfl (fun c58 => ?_) (fun c58 => ?_)
 ·replace h:=Zo c58 h
  refine zQ [4] ?_
  exact Yw [(vB false)]
 replace h:=Zn c58 h
 refine Ve [1,2] [true] ?_
 refine Ze ?_
 obtain ⟨z3,hz3,h⟩:=bC h
 refine Xd (E':=⟨216,[],[(1,(vI a1)),(2,.ref n 0),(69,(vB z3))]⟩) (O':=(Zt O n [some ⟨false,86,11,1,(Zc a0)⟩])) (n0:=(n+1)) ?_ ?_
 ·rcases Bool.eq_false_or_eq_true (a0.Kind != 1) with c8 | c8
  ·replace hz3:=Zo c8 hz3
   obtain ⟨y6,hy6,hz3⟩:=bC hz3
   rcases Bool.eq_false_or_eq_true y6 with c9 | c9
   ·replace hz3:=Zo c9 hz3
    try rw [c9] at c8
    obtain ⟨y7,hy7,hz3⟩:=bC hz3
    refine Zeb [some true,some true,some true,some true,some true,some true,some true,some true,some true,none,none,none,none,none,none,none,none,none,none,none,none,none,none,none,none,none,none,none,none,none,none,none,none,none,none,none] c8 c9 ?_
    refine zG ?_
    refine (Qv hy6).then ?_
    refine zX2 c8 c9 ?_
    refine zG ?_
    refine (Qv hy7).then ?_
    refine zX2 c8 c9 ?_
    refine zG ?_
    exact Zfv hz3 c8 c9
   replace hz3:=Zn c9 hz3
   try rw [c9] at c8
   refine Zeb [some true,some true,some true,some true,some false,some false,some false,some true,some true,some false,some false,some false,some false,some false,some false,some false,some false,some false,some false,some false,some false,some false,some false,some false,some false,some false,some false,some false,some false,some false,some false,some false,some false,some false,some false,some false] c8 c9 ?_
   refine (Qv hy6).then ?_
   refine zX2 c8 c9 ?_
   exact Zfv hz3 c8 c9
  replace hz3:=Zn c8 hz3
  refine Zbb [some false,some false,some false,some false,some false,some false,some false,some false,some false,some true,some true,some true,some true,none,none,none,none,none,none,none,none,some true,none,none,none,none,none,none,none,none,none,none,none,none,none,none] c8 ?_
  refine zG ?_
  exact Ge hz3 c8
 refine Zl (t:=z3) rfl (fun c57 => ?_) (fun c57 => ?_)
 ·replace h:=Zo c57 h
  refine zQ [4] ?_
  exact Yw [(vB false)]
 replace h:=Zn c57 h
 refine Ve [1,2] [true] ?_
 refine Ze ?_
 refine zQ [1,2,72] ?_
 refine Zl (t:=(a0.Kind == 1)) rfl (fun c56 => ?_) (fun c56 => ?_)
 ·replace h:=Zo c56 h
  obtain ⟨z12,hz12,h⟩:=bC h
  refine Xd (E':=⟨216,[],[(4,(vB z12))]⟩) (O':=(Zt O n [none])) (n0:=(n+1)) ?_ ?_
  ·obtain ⟨y15,hy15,hz12⟩:=bC hz12
   rcases Bool.eq_false_or_eq_true y15 with c17 | c17
   ·replace hz12:=Zo c17 hz12
    obtain ⟨y16,hy16,hz12⟩:=bC hz12
    refine Zbb [some true,some true,some true,none,none,none,none,none,none,none,none] c17 ?_
    refine zG ?_
    refine (Jg hy15).then ?_
    refine zX1 c17 ?_
    refine zG ?_
    refine (Jg hy16).then ?_
    refine zX1 c17 ?_
    refine zG ?_
    exact Ge hz12 c17
   replace hz12:=Zn c17 hz12
   refine Zbb [some false,some false,some false,some false,some false,some false,some false,some false,some false,some false,some false] c17 ?_
   refine (Jg hy15).then ?_
   refine zX1 c17 ?_
   exact Ge hz12 c17
  exact Yw [(vB z12)]
 replace h:=Zn c56 h
 refine Ve [1,2] [true] ?_
 refine zQ [1,2,5] ?_
 refine Ze ?_
 refine zQd [1,2,5,6] [1,2,5,6] [true] ?_
 obtain ⟨z33,hz33,h⟩:=bC h
 refine Zfx (J:=(Vn (fun z33=>JR n (⟨216,[],[(4,(vB false))]⟩:Env) (Zt O n [none]) (n+1)) (fun z33=>JX 0 n (⟨216,[],[(1,(vI a1)),(2,.ref n 0)]⟩:Env) (Zt O n [some ⟨false,86,11,1,(Zc a0)⟩]) (n+1)))) (z:=z33) ?_ fun hw => ?_
 ·refine Ym hz33 (fun s0_=>⟨216,[],[(1,(vI a1)),(2,.ref n 0),(5,(vI s0_.1)),(6,(vI s0_.2))]⟩) (fun s0_=>(Zt O n [some ⟨false,86,11,1,(Zc a0)⟩])) (Vn (fun z33=>JR n (⟨216,[],[(4,(vB false))]⟩:Env) (Zt O n [none]) (n+1)) (fun z33=>JX 0 n (⟨216,[],[(1,(vI a1)),(2,.ref n 0)]⟩:Env) (Zt O n [some ⟨false,86,11,1,(Zc a0)⟩]) (n+1))) ?_
  intro s0_ x0_ hs0_
  unfold Xx at hs0_
  try dsimp only
  refine Ze ?_
  refine zQ [1,2,5,6,97] ?_
  refine Zl (t:=(decide (s0_.2 < (a0.Words.length:Int)))) rfl (fun c32 => ?_) (fun c32 => ?_)
  ·replace hs0_:=Zo c32 hs0_
   refine Ve [1,2,5,6] [true] ?_
   refine Ze ?_
   refine Z6 ?_
   refine Ze ?_
   obtain ⟨x19,hx19,ax19,bx19,cx19,hs0_⟩:=bE (f:=Zf) Zk3 (fun _=>rfl) (by decide) hs0_
   refine Gn [] ax19 bx19 cx19 ?_
   refine zDs [1,2,5,6,7] [true,true] ?_
   obtain ⟨z22,hz22,hs0_⟩:=bC hs0_
   refine Xd (E':=⟨216,[],[(1,(vI a1)),(2,.ref n 0),(6,(vI s0_.2)),(7,.ref (n+1) 0),(134,(vB z22))]⟩) (O':=(Zt O n [some ⟨false,86,11,1,(Zc a0)⟩,some ⟨false,143,4,1,(Gp x19)⟩])) (n0:=(n+2)) ?_ ?_
   ·rcases Bool.eq_false_or_eq_true (decide (x19.At≤s0_.1)) with c27 | c27
    ·replace hz22:=Zo c27 hz22
     refine Zbb [none,none,none,none,none,none,some false,some false,some false,some false,some false,some false,some false,some false,some false,some false,some false,some false] c27 ?_
     refine zG ?_
     exact Ge hz22 c27
    replace hz22:=Zn c27 hz22
    rcases Bool.eq_false_or_eq_true (decide (65534 < x19.At)) with c28 | c28
    ·replace hz22:=Zo c28 hz22
     try rw [c28] at c27
     refine Zeb [none,none,none,none,none,none,some false,some false,some false,some false,some false,some false,some false,some false,some false,some false,some false,some false] c27 c28 ?_
     refine zG ?_
     exact Zfv hz22 c27 c28
    replace hz22:=Zn c28 hz22
    try rw [c28] at c27
    rcases Bool.eq_false_or_eq_true (x19.Mask == 0) with c29 | c29
    ·replace hz22:=Zo c29 hz22
     try rw [c29] at c27
     try rw [c29] at c28
     refine Zdo [none,none,none,none,none,none,some false,some false,some false,some false,some false,some false,some false,some false,some false,some false,some false,some false] c27 c28 c29 ?_
     refine zG ?_
     exact Zhf hz22 c27 c28 c29
    replace hz22:=Zn c29 hz22
    try rw [c29] at c27
    try rw [c29] at c28
    obtain ⟨y25,hy25,hz22⟩:=bC hz22
    rcases Bool.eq_false_or_eq_true y25 with c30 | c30
    ·replace hz22:=Zo c30 hz22
     try rw [c30] at c27
     try rw [c30] at c28
     try rw [c30] at c29
     obtain ⟨y26,hy26,hz22⟩:=bC hz22
     refine Zvu [none,none,none,none,none,none,some true,some true,some true,some true,some true,some true,some true,some true,some true,some true,some true,some true] c27 c28 c29 c30 ?_
     refine zG ?_
     refine (Vi hy25).then ?_
     refine zX4 c27 c28 c29 c30 ?_
     refine zG ?_
     refine (Vi hy26).then ?_
     refine zX4 c27 c28 c29 c30 ?_
     refine zG ?_
     exact Zvt hz22 c27 c28 c29 c30
    replace hz22:=Zn c30 hz22
    try rw [c30] at c27
    try rw [c30] at c28
    try rw [c30] at c29
    refine Zvu [none,none,none,none,none,none,some true,some true,some true,some true,some true,some true,some false,some false,some false,some false,some false,some false] c27 c28 c29 c30 ?_
    refine zG ?_
    refine (Vi hy25).then ?_
    refine zX4 c27 c28 c29 c30 ?_
    refine zG ?_
    exact Zvt hz22 c27 c28 c29 c30
   refine Zl (t:=z22) rfl (fun c31 => ?_) (fun c31 => ?_)
   ·replace hs0_:=Zo c31 hs0_
    refine zQ [4] ?_
    refine zW ?_
    exact zEy hs0_
   replace hs0_:=Zn c31 hs0_
   refine Ve [1,2,6,7] [true,true] ?_
   refine zRd [1,2,5,6] [true,false] ?_
   refine zR ?_
   exact Ky hs0_
  replace hs0_:=Zn c32 hs0_
  exact zEx hs0_
 rcases z33 with z33 | z33
 ·dsimp only [Vn] at hw h
  refine Zbh hw ?_
  try simp only [Yt,Z4,↓reduceIte,Nat.reduceEqDiff]
  exact Zoc [(vB false)]
 dsimp only [Vn] at hw h
 refine Z9 hw ?_
 try simp only [Yt,Z4,↓reduceIte,Nat.reduceEqDiff]
 refine zD [1,2] [true] ?_
 refine zQ [1,2,5] ?_
 refine Ze ?_
 refine zQd [1,2,5,8] [1,2,5,8] [true] ?_
 obtain ⟨z45,hz45,h⟩:=bC h
 refine Zfx (J:=(Vn (fun z45=>JR n (⟨216,[],[(4,(vB false))]⟩:Env) (Zt O n [none]) (n+1)) (fun z45=>JX 2 n (⟨216,[],[(1,(vI a1)),(2,.ref n 0)]⟩:Env) (Zt O n [some ⟨false,86,11,1,(Zc a0)⟩]) (n+1)))) (z:=z45) ?_ fun hw => ?_
 ·refine Ym hz45 (fun s1_=>⟨216,[],[(1,(vI a1)),(2,.ref n 0),(5,(vI s1_.1)),(8,(vI s1_.2))]⟩) (fun s1_=>(Zt O n [some ⟨false,86,11,1,(Zc a0)⟩])) (Vn (fun z45=>JR n (⟨216,[],[(4,(vB false))]⟩:Env) (Zt O n [none]) (n+1)) (fun z45=>JX 2 n (⟨216,[],[(1,(vI a1)),(2,.ref n 0)]⟩:Env) (Zt O n [some ⟨false,86,11,1,(Zc a0)⟩]) (n+1))) ?_
  intro s1_ x1_ hs1_
  unfold Xy at hs1_
  try dsimp only
  refine Ze ?_
  refine zQ [1,2,5,8,141] ?_
  refine Zl (t:=(decide (s1_.2 < (a0.Kids.length:Int)))) rfl (fun c44 => ?_) (fun c44 => ?_)
  ·replace hs1_:=Zo c44 hs1_
   refine Ve [1,2,5,8] [true] ?_
   refine Ze ?_
   refine Z6 ?_
   refine Ze ?_
   obtain ⟨x35,hx35,ax35,bx35,cx35,hs1_⟩:=bE (f:=Zh) Zgf (fun _=>rfl) (by decide) hs1_
   refine Gn [] ax35 bx35 cx35 ?_
   refine zDs [1,2,5,8,9] [true,true] ?_
   obtain ⟨z37,hz37,hs1_⟩:=bC hs1_
   refine Xd (E':=⟨216,[],[(1,(vI a1)),(2,.ref n 0),(8,(vI s1_.2)),(9,.ref (n+1) 0),(171,(vB z37))]⟩) (O':=(Zt O n [some ⟨false,86,11,1,(Zc a0)⟩,some ⟨false,145,12,1,(V5 x35)⟩])) (n0:=(n+2)) ?_ ?_
   ·rcases Bool.eq_false_or_eq_true (decide (x35.At≤s1_.1)) with c40 | c40
    ·replace hz37:=Zo c40 hz37
     refine Zbb [none,none,none,none,none,none,none,some false,some false,some false,some false,some false,some false] c40 ?_
     refine zG ?_
     exact Ge hz37 c40
    replace hz37:=Zn c40 hz37
    rcases Bool.eq_false_or_eq_true (decide (65534 < x35.At)) with c41 | c41
    ·replace hz37:=Zo c41 hz37
     try rw [c41] at c40
     refine Zeb [none,none,none,none,none,none,none,some false,some false,some false,some false,some false,some false] c40 c41 ?_
     refine zG ?_
     exact Zfv hz37 c40 c41
    replace hz37:=Zn c41 hz37
    try rw [c41] at c40
    rcases Bool.eq_false_or_eq_true (x35.E.Kind == 0) with c42 | c42
    ·replace hz37:=Zo c42 hz37
     try rw [c42] at c40
     try rw [c42] at c41
     refine Zdo [none,none,none,none,none,none,none,some false,some false,some false,some false,some false,some false] c40 c41 c42 ?_
     refine zG ?_
     exact Zhf hz37 c40 c41 c42
    replace hz37:=Zn c42 hz37
    try rw [c42] at c40
    try rw [c42] at c41
    obtain ⟨y39,hy39,hz37⟩:=bC hz37
    refine Zdo [none,none,none,none,none,none,none,some true,some true,some true,some true,some true,some true] c40 c41 c42 ?_
    refine zG ?_
    refine (K9 hy39).then ?_
    refine zX3 c40 c41 c42 ?_
    refine zG ?_
    exact Zhf hz37 c40 c41 c42
   refine Zl (t:=z37) rfl (fun c43 => ?_) (fun c43 => ?_)
   ·replace hs1_:=Zo c43 hs1_
    refine zQ [4] ?_
    refine zW ?_
    exact zEy hs1_
   replace hs1_:=Zn c43 hs1_
   refine Ve [1,2,8,9] [true,true] ?_
   refine zRd [1,2,5,8] [true,false] ?_
   refine zR ?_
   exact Ky hs1_
  replace hs1_:=Zn c44 hs1_
  exact zEx hs1_
 rcases z45 with z45 | z45
 ·dsimp only [Vn] at hw h
  refine Zbh hw ?_
  try simp only [Yt,Z4,↓reduceIte,Nat.reduceEqDiff]
  exact Zoc [(vB false)]
 dsimp only [Vn] at hw h
 refine Z9 hw ?_
 try simp only [Yt,Z4,↓reduceIte,Nat.reduceEqDiff]
 refine zDs [1,2] [true] ?_
 refine zQD [1,2,186] [none,none,none,none,none,none,none,none] ?_
 refine Zl (t:=(cond (a0.Kind == 3) (cond (decide (a0.List_ < 2)) true (decide (9 < a0.List_))) false)) rfl (fun c55 => ?_) (fun c55 => ?_)
 ·replace h:=Zo c55 h
  refine zQ [4] ?_
  exact Yw [(vB false)]
 replace h:=Zn c55 h
 refine Ve [1,2] [true] ?_
 refine Ze ?_
 refine zQd [1,2,10] [1,2,10] [true] ?_
 obtain ⟨z52,hz52,h⟩:=bC h
 refine Zfx (J:=(Vn (fun z52=>JR n (⟨216,[],[(4,(vB false))]⟩:Env) (Zt O n [none]) (n+1)) (fun z52=>JX 4 n (⟨216,[],[(2,.ref n 0)]⟩:Env) (Zt O n [some ⟨false,86,11,1,(Zc a0)⟩]) (n+1)))) (z:=z52) ?_ fun hw => ?_
 ·refine Ym hz52 (fun s2_=>⟨216,[],[(1,(vI a1)),(2,.ref n 0),(10,(vI s2_))]⟩) (fun s2_=>(Zt O n [some ⟨false,86,11,1,(Zc a0)⟩])) (Vn (fun z52=>JR n (⟨216,[],[(4,(vB false))]⟩:Env) (Zt O n [none]) (n+1)) (fun z52=>JX 4 n (⟨216,[],[(2,.ref n 0)]⟩:Env) (Zt O n [some ⟨false,86,11,1,(Zc a0)⟩]) (n+1))) ?_
  intro s2_ x2_ hs2_
  unfold Xe at hs2_
  try dsimp only
  refine Ze ?_
  refine zQ [1,2,10,191] ?_
  refine Zl (t:=(decide (s2_ < (a0.Ops.length:Int)))) rfl (fun c51 => ?_) (fun c51 => ?_)
  ·replace hs2_:=Zo c51 hs2_
   refine Ve [1,2,10] [true] ?_
   refine Ze ?_
   refine Z6 ?_
   refine Ze ?_
   obtain ⟨x48,hx48,ax48,bx48,cx48,hs2_⟩:=bE (f:=Zk) Zcz (fun _=>rfl) (by decide) hs2_
   obtain ⟨y49,hy49,hs2_⟩:=bC hs2_
   refine Kt Yd (by kernel_rfl) [] (by kernel_rfl) ?_
   refine zF3 ax48 bx48 cx48 ?_
   refine PCall.of (Zbz hy49) ?_
   refine zF3 ax48 bx48 cx48 ?_
   refine zD [1,2,10,204] [true] ?_
   refine Zl (t:=(!y49)) rfl (fun c50 => ?_) (fun c50 => ?_)
   ·replace hs2_:=Zo c50 hs2_
    refine zQ [4] ?_
    refine zW ?_
    exact zEy hs2_
   replace hs2_:=Zn c50 hs2_
   refine Ve [1,2,10] [true] ?_
   refine zR ?_
   exact Ky hs2_
  replace hs2_:=Zn c51 hs2_
  exact zEx hs2_
 rcases z52 with z52 | z52
 ·dsimp only [Vn] at hw h
  refine Zbh hw ?_
  try simp only [Yt,Z4,↓reduceIte,Nat.reduceEqDiff]
  exact Zoc [(vB false)]
 dsimp only [Vn] at hw h
 refine Z9 hw ?_
 try simp only [Yt,Z4,↓reduceIte,Nat.reduceEqDiff]
 refine zDs [2] [true] ?_
 obtain ⟨y54,hy54,h⟩:=bC h
 refine zCd (Gi hy54) [11,12] [false] ?_
 refine zQD [4] [none,none] ?_
 exact Yw [(vB (cond (decide (y54.1 < 1048576)) (decide (y54.2 < 1048576)) false))]
theorem Zg1 {Z8:(Zd→Int→Option Bool)} {Yx:(Int→Zp→Int→Option Bool)} (K9:K7 Z8) (Zbz:Uf Yx) {a0:Int} {a1:Zp} {a2:Int} {r:Bool} {O:Objs} {n:Nat} (h:Kz Z8 Yx a0 a1 a2=some r):GTo Try.prog 149 [(vI a0),.agg (Jd a1),(vI a2)] O n ((vB r)) O n:=by
 unfold Kz at h
 refine zFn Try.call149 Try.func149 fun hU hN0 hN => ?_
 show W _ _ _ _ ⟨121,[],[(0,(vI a0)),(1,.agg (Jd a1)),(2,(vI a2))]⟩ (Zt O n []) _
 refine zQ [0,2,4] ?_
 refine Ze ?_
 refine zQ [0,2,4,10] ?_
 refine Zl (t:=(a1.Kind == 0)) rfl (fun c30 => ?_) (fun c30 => ?_)
 ·replace h:=Zo c30 h
  obtain ⟨z2,hz2,h⟩:=bC h
  refine Xd (E':=⟨121,[],[(6,(vB z2))]⟩) (O':=(Zt O n [none])) (n0:=(n+1)) ?_ ?_
  ·rcases Bool.eq_false_or_eq_true (decide (1≤a1.N)) with c5 | c5
   ·replace hz2:=Zo c5 hz2
    rcases Bool.eq_false_or_eq_true (decide (a1.N≤1048576)) with c6 | c6
    ·replace hz2:=Zo c6 hz2
     try rw [c6] at c5
     rcases Bool.eq_false_or_eq_true ((a1.L.length:Int) == 0) with c7 | c7
     ·replace hz2:=Zo c7 hz2
      try rw [c7] at c5
      try rw [c7] at c6
      obtain ⟨y4,hy4,hz2⟩:=bC hz2
      refine Zdo [none,none,none,none,none,none,none,some true,some true,some true] c5 c6 c7 ?_
      refine zG ?_
      refine (Zbx hy4).then ?_
      refine zX3 c5 c6 c7 ?_
      refine zG ?_
      exact Zhf hz2 c5 c6 c7
     replace hz2:=Zn c7 hz2
     try rw [c7] at c5
     try rw [c7] at c6
     refine Zdo [none,none,none,none,none,none,none,some false,some false,some false] c5 c6 c7 ?_
     refine zG ?_
     exact Zhf hz2 c5 c6 c7
    replace hz2:=Zn c6 hz2
    try rw [c6] at c5
    refine Zeb [none,none,none,none,none,none,none,some false,some false,some false] c5 c6 ?_
    refine zG ?_
    exact Zfv hz2 c5 c6
   replace hz2:=Zn c5 hz2
   refine Zbb [none,none,none,none,none,none,none,some false,some false,some false] c5 ?_
   refine zG ?_
   exact Ge hz2 c5
  exact Yw [(vB z2)]
 replace h:=Zn c30 h
 refine Ve [0,2,4] [true] ?_
 refine Ze ?_
 refine zQD [0,2,4,42] [none,none,none,none,none,none] ?_
 refine Zl (t:=(cond (cond (a1.N != 0) true (decide (a1.Kind < 0))) true (decide (3 < a1.Kind)))) rfl (fun c29 => ?_) (fun c29 => ?_)
 ·replace h:=Zo c29 h
  refine zQ [6] ?_
  exact Yw [(vB false)]
 replace h:=Zn c29 h
 refine Ve [0,2,4] [true] ?_
 refine Ze ?_
 refine zQ [0,2,4,45] ?_
 refine Zl (t:=(decide (a1.Kind < 3))) rfl (fun c28 => ?_) (fun c28 => ?_)
 ·replace h:=Zo c28 h
  refine Ze ?_
  refine zQd [0,4,7] [0,4,7] [true] ?_
  obtain ⟨z14,hz14,h⟩:=bC h
  refine Zfx (J:=(Vn (fun z14=>JR n (⟨121,[],[(6,(vB false))]⟩:Env) (Zt O n [none]) (n+1)) (fun z14=>JX 0 n (⟨121,[],[(4,.ref n 0)]⟩:Env) (Zt O n [some ⟨false,148,14,1,(Jd a1)⟩]) (n+1)))) (z:=z14) ?_ fun hw => ?_
  ·refine Ym hz14 (fun s0_=>⟨121,[],[(0,(vI a0)),(4,.ref n 0),(7,(vI s0_))]⟩) (fun s0_=>(Zt O n [some ⟨false,148,14,1,(Jd a1)⟩])) (Vn (fun z14=>JR n (⟨121,[],[(6,(vB false))]⟩:Env) (Zt O n [none]) (n+1)) (fun z14=>JX 0 n (⟨121,[],[(4,.ref n 0)]⟩:Env) (Zt O n [some ⟨false,148,14,1,(Jd a1)⟩]) (n+1))) ?_
   intro s0_ x0_ hs0_
   unfold Jo at hs0_
   try dsimp only
   refine Ze ?_
   refine zQ [0,4,7,50] ?_
   refine Zl (t:=(decide (s0_ < (a1.L.length:Int)))) rfl (fun c13 => ?_) (fun c13 => ?_)
   ·replace hs0_:=Zo c13 hs0_
    refine Ve [0,4,7] [true] ?_
    refine Ze ?_
    refine Z6 ?_
    refine Ze ?_
    obtain ⟨l10,al10,bl10,cl10,gl10,hs0_⟩:=bS (lo:=(some (.i64,s0_))) (hi:=(some (.i64,(IntKind.i64.wrap (s0_+1))))) (f:=Zb) rfl rfl Zhe Vl (fun _=>rfl) hs0_
    obtain ⟨y11,hy11,hs0_⟩:=bC hs0_
    refine Zvu [] al10 bl10 cl10 gl10 ?_
    refine GCalls.argsW ?_ ((Jg hy11).then ?_)
    ·exact Z7p al10 bl10 cl10 gl10
    refine zX4 al10 bl10 cl10 gl10 ?_
    refine zD [0,4,7,62] [true] ?_
    refine Zl (t:=(!y11)) rfl (fun c12 => ?_) (fun c12 => ?_)
    ·replace hs0_:=Zo c12 hs0_
     refine zQ [6] ?_
     refine zW ?_
     exact zEy hs0_
    replace hs0_:=Zn c12 hs0_
    refine Ve [0,4,7] [true] ?_
    refine zR ?_
    exact Ky hs0_
   replace hs0_:=Zn c13 hs0_
   exact zEx hs0_
  rcases z14 with z14 | z14
  ·dsimp only [Vn] at hw h
   refine Zbh hw ?_
   try simp only [Yt,Z4,↓reduceIte,Nat.reduceEqDiff]
   exact Zoc [(vB false)]
  dsimp only [Vn] at hw h
  refine Z9 hw ?_
  try simp only [Yt,Z4,↓reduceIte,Nat.reduceEqDiff]
  refine zD [4] [true] ?_
  obtain ⟨z16,hz16,h⟩:=bC h
  refine Xd (E':=⟨121,[],[(6,(vB z16))]⟩) (O':=(Zt O n [none])) (n0:=(n+1)) ?_ ?_
  ·rcases Bool.eq_false_or_eq_true (decide (0 < (a1.L.length:Int))) with c19 | c19
   ·replace hz16:=Zo c19 hz16
    obtain ⟨y18,hy18,hz16⟩:=bC hz16
    refine Zbb [some true,some true,some true] c19 ?_
    refine (Zbx hy18).then ?_
    refine zX1 c19 ?_
    exact Ge hz16 c19
   replace hz16:=Zn c19 hz16
   refine Zbb [some false,some false,some false] c19 ?_
   exact Ge hz16 c19
  exact Yw [(vB z16)]
 replace h:=Zn c28 h
 refine Ve [0,2,4] [true] ?_
 refine Ze ?_
 obtain ⟨z21,hz21,h⟩:=bC h
 refine Xd (E':=⟨121,[],[(0,(vI a0)),(4,.ref n 0),(92,(vB z21))]⟩) (O':=(Zt O n [some ⟨false,148,14,1,(Jd a1)⟩])) (n0:=(n+1)) ?_ ?_
 ·rcases Bool.eq_false_or_eq_true (decide (0 < (a1.L.length:Int))) with c24 | c24
  ·replace hz21:=Zo c24 hz21
   refine Zbb [none,none,none,none,none,none,some false,some false,some false,some false,some false] c24 ?_
   refine zG ?_
   exact Ge hz21 c24
  replace hz21:=Zn c24 hz21
  rcases Bool.eq_false_or_eq_true (a1.E.Kind == 0) with c25 | c25
  ·replace hz21:=Zo c25 hz21
   try rw [c25] at c24
   refine Zeb [none,none,none,none,none,none,some false,some false,some false,some false,some false] c24 c25 ?_
   refine zG ?_
   exact Zfv hz21 c24 c25
  replace hz21:=Zn c25 hz21
  try rw [c25] at c24
  rcases Bool.eq_false_or_eq_true (decide (a0≤7)) with c26 | c26
  ·replace hz21:=Zo c26 hz21
   try rw [c26] at c24
   try rw [c26] at c25
   refine Zdo [none,none,none,none,none,none,some false,some false,some false,some false,some false] c24 c25 c26 ?_
   refine zG ?_
   exact Zhf hz21 c24 c25 c26
  replace hz21:=Zn c26 hz21
  try rw [c26] at c24
  try rw [c26] at c25
  obtain ⟨y23,hy23,hz21⟩:=bC hz21
  refine Zdo [none,none,none,none,none,none,some true,some true,some true,some true,some true] c24 c25 c26 ?_
  refine zG ?_
  refine (K9 hy23).then ?_
  refine zX3 c24 c25 c26 ?_
  refine zG ?_
  exact Zhf hz21 c24 c25 c26
 refine Zl (t:=z21) rfl (fun c27 => ?_) (fun c27 => ?_)
 ·replace h:=Zo c27 h
  refine zQ [6] ?_
  exact Yw [(vB false)]
 replace h:=Zn c27 h
 refine Ve [0,4] [true] ?_
 refine zQD [6] [none,none,none,none,none,none,none,none,none,none,none,none,none,none,none,none,none,none,none,none,none,none] ?_
 exact Yw [(vB (cond (cond (a0 == 8) true (a1.E.Kind == 2)) true (cond (cond (a1.E.Kind == 1) (a1.E.Old.Kind == 1) false) (a1.E.New.Kind == 1) false)))]
theorem Zdw:∀ k,(K7 ((Zw k).1))∧(Uf ((Zw k).2)):=fun k=>by
 induction k with
 | zero=>exact ⟨@fun a0 a1 r O n h=>(nomatch (show (none:Option _)=some _ from h)),@fun a0 a1 a2 r O n h=>(nomatch (show (none:Option _)=some _ from h))⟩
 | succ k ih=>exact ⟨@fun a0 a1 r O n h=>Zew (ih.1) (ih.2)  h,@fun a0 a1 a2 r O n h=>Zg1 (ih.1) (ih.2)  h⟩
theorem Za5 {a0:Zd} {a1:Int} {r:Bool} {O:Objs} {n:Nat} (h:Ud a0 a1=some r):GTo Try.prog 92 [.agg (Zc a0),(vI a1)] O n ((vB r)) O n:=by
 obtain ⟨k,hk⟩:=Vg h
 exact (Zdw k).1  hk
def Gh (Yj:(Zd→Option Bool)):Prop:=∀ {a0:Zd} {r:Bool} {O:Objs} {n:Nat},Yj a0=some r→GTo Try.prog 93 [.agg (Zc a0)] O n ((vB r)) O n
theorem Zev {Yj:(Zd→Option Bool)} (Gj:Gh Yj) {a0:Zd} {r:Bool} {O:Objs} {n:Nat} (h:Jm Yj a0=some r):GTo Try.prog 93 [.agg (Zc a0)] O n ((vB r)) O n:=by
 unfold Jm at h
 refine zFn Try.call93 Try.func93 fun hU hN0 hN => ?_
 show W _ _ _ _ ⟨48,[],[(0,.agg (Zc a0))]⟩ (Zt O n []) _
 refine zQ [1] ?_
 refine Ze ?_
 obtain ⟨y2,hy2,h⟩:=bC h
 refine zCd (Gi hy2) [1,3,4] [true] ?_
 refine Ze ?_
 refine zQD [1,17] [none,none] ?_
 refine Zl (t:=(cond (decide (2000 < y2.1)) true (decide (2000 < y2.2)))) rfl (fun c21 => ?_) (fun c21 => ?_)
 ·replace h:=Zo c21 h
  refine zQ [2] ?_
  exact Yw [(vB false)]
 replace h:=Zn c21 h
 refine Ve [1] [true] ?_
 refine Ze ?_
 refine zQd [1,5] [1,5] [true] ?_
 obtain ⟨z11,hz11,h⟩:=bC h
 refine Zfx (J:=(Vn (fun z11=>JR n (⟨48,[],[(2,(vB false))]⟩:Env) (Zt O n [none]) (n+1)) (fun z11=>JX 0 n (⟨48,[],[(1,.ref n 0)]⟩:Env) (Zt O n [some ⟨false,86,11,1,(Zc a0)⟩]) (n+1)))) (z:=z11) ?_ fun hw => ?_
 ·refine Ym hz11 (fun s0_=>⟨48,[],[(1,.ref n 0),(5,(vI s0_))]⟩) (fun s0_=>(Zt O n [some ⟨false,86,11,1,(Zc a0)⟩])) (Vn (fun z11=>JR n (⟨48,[],[(2,(vB false))]⟩:Env) (Zt O n [none]) (n+1)) (fun z11=>JX 0 n (⟨48,[],[(1,.ref n 0)]⟩:Env) (Zt O n [some ⟨false,86,11,1,(Zc a0)⟩]) (n+1))) ?_
  intro s0_ x0_ hs0_
  unfold Qk at hs0_
  try dsimp only
  refine Ze ?_
  refine zQ [1,5,22] ?_
  refine Zl (t:=(decide (s0_ < (a0.Kids.length:Int)))) rfl (fun c10 => ?_) (fun c10 => ?_)
  ·replace hs0_:=Zo c10 hs0_
   refine Ve [1,5] [true] ?_
   refine Ze ?_
   refine Z6 ?_
   refine Ze ?_
   obtain ⟨x6,hx6,ax6,bx6,cx6,hs0_⟩:=bE (f:=Zh) Zgf (fun _=>rfl) (by decide) hs0_
   have g7:=Q7 (f:=Zh) (off:=1) (sz:=12) Zk4 (fun _=>rfl) (by decide) (by decide) hx6
   obtain ⟨y8,hy8,hs0_⟩:=bC hs0_
   refine Zhg [] ax6 bx6 cx6 g7 ?_
   refine (Gj hy8).then ?_
   refine zF4 ax6 bx6 cx6 g7 ?_
   refine zD [1,5,32] [true] ?_
   refine Zl (t:=(!y8)) rfl (fun c9 => ?_) (fun c9 => ?_)
   ·replace hs0_:=Zo c9 hs0_
    refine zQ [2] ?_
    refine zW ?_
    exact zEy hs0_
   replace hs0_:=Zn c9 hs0_
   refine Ve [1,5] [true] ?_
   refine zR ?_
   exact Ky hs0_
  replace hs0_:=Zn c10 hs0_
  exact zEx hs0_
 rcases z11 with z11 | z11
 ·dsimp only [Vn] at hw h
  refine Zbh hw ?_
  try simp only [Yt,Z4,↓reduceIte,Nat.reduceEqDiff]
  exact Zoc [(vB false)]
 dsimp only [Vn] at hw h
 refine Z9 hw ?_
 try simp only [Yt,Z4,↓reduceIte,Nat.reduceEqDiff]
 refine zDs [1] [true] ?_
 refine zQd [1,6] [1,6] [true] ?_
 obtain ⟨z20,hz20,h⟩:=bC h
 refine Zfx (J:=(Vn (fun z20=>JR n (⟨48,[],[(2,(vB false))]⟩:Env) (Zt O n [none]) (n+1)) (fun z20=>JX 2 n (⟨48,[],[]⟩:Env) (Zt O n [none]) (n+1)))) (z:=z20) ?_ fun hw => ?_
 ·refine Ym hz20 (fun s1_=>⟨48,[],[(1,.ref n 0),(6,(vI s1_))]⟩) (fun s1_=>(Zt O n [some ⟨false,86,11,1,(Zc a0)⟩])) (Vn (fun z20=>JR n (⟨48,[],[(2,(vB false))]⟩:Env) (Zt O n [none]) (n+1)) (fun z20=>JX 2 n (⟨48,[],[]⟩:Env) (Zt O n [none]) (n+1))) ?_
  intro s1_ x1_ hs1_
  unfold Ql at hs1_
  try dsimp only
  refine Ze ?_
  refine zQ [1,6,37] ?_
  refine Zl (t:=(decide (s1_ < (a0.Ops.length:Int)))) rfl (fun c19 => ?_) (fun c19 => ?_)
  ·replace hs1_:=Zo c19 hs1_
   refine Ve [1,6] [true] ?_
   refine Ze ?_
   refine Z6 ?_
   refine Ze ?_
   obtain ⟨x15,hx15,ax15,bx15,cx15,hs1_⟩:=bE (f:=Zk) Zcz (fun _=>rfl) (by decide) hs1_
   have g16:=Q7 (f:=Zk) (off:=3) (sz:=14) Zk4 (fun _=>rfl) (by decide) (by decide) hx15
   obtain ⟨y17,hy17,hs1_⟩:=bC hs1_
   refine Zhg [] ax15 bx15 cx15 g16 ?_
   refine (Gj hy17).then ?_
   refine zF4 ax15 bx15 cx15 g16 ?_
   refine zD [1,6,47] [true] ?_
   refine Zl (t:=(!y17)) rfl (fun c18 => ?_) (fun c18 => ?_)
   ·replace hs1_:=Zo c18 hs1_
    refine zQ [2] ?_
    refine zW ?_
    exact zEy hs1_
   replace hs1_:=Zn c18 hs1_
   refine Ve [1,6] [true] ?_
   refine zR ?_
   exact Ky hs1_
  replace hs1_:=Zn c19 hs1_
  exact zEx hs1_
 rcases z20 with z20 | z20
 ·dsimp only [Vn] at hw h
  refine Zbh hw ?_
  try simp only [Yt,Z4,↓reduceIte,Nat.reduceEqDiff]
  exact Zoc [(vB false)]
 dsimp only [Vn] at hw h
 refine Z9 hw ?_
 try simp only [Yt,Z4,↓reduceIte,Nat.reduceEqDiff]
 refine zD [] [false] ?_
 refine zQ [2] ?_
 exact Yw [(vB true)]
theorem Zdv:∀ k,(Gh (Xr k)):=fun k=>by
 induction k with
 | zero=>exact @fun a0 r O n h=>(nomatch (show (none:Option _)=some _ from h))
 | succ k ih=>exact @fun a0 r O n h=>Zev (ih)  h
theorem Zfl {a0:Zd} {r:Bool} {O:Objs} {n:Nat} (h:Uc a0=some r):GTo Try.prog 93 [.agg (Zc a0)] O n ((vB r)) O n:=by
 obtain ⟨k,hk⟩:=Vg h
 exact (Zdv k)  hk
theorem Zf8 {a0:Zd} {r:Bool} {O:Objs} {n:Nat} (h:J8 a0=some r):GTo Try.prog 54 [.agg (Zc a0)] O n ((vB r)) O n:=by
 unfold J8 at h
 refine zFn Try.call54 Try.func54 fun hU hN0 hN => ?_
 show W _ _ _ _ ⟨13,[],[(0,.agg (Zc a0))]⟩ (Zt O n []) _
 refine zQ [1] ?_
 obtain ⟨z4,hz4,h⟩:=bC h
 refine Xd (E':=⟨13,[],[(2,(vB z4))]⟩) (O':=(Zt O n [none])) (n0:=(n+1)) ?_ ?_
 ·obtain ⟨y8,hy8,hz4⟩:=bC hz4
  rcases Bool.eq_false_or_eq_true y8 with c11 | c11
  ·replace hz4:=Zo c11 hz4
   obtain ⟨y9,hy9,hz4⟩:=bC hz4
   rcases Bool.eq_false_or_eq_true y9 with c12 | c12
   ·replace hz4:=Zo c12 hz4
    try rw [c12] at c11
    obtain ⟨y10,hy10,hz4⟩:=bC hz4
    refine Zeb [some true,some true,some true,some true] c11 c12 ?_
    refine (U4 hy8).then ?_
    refine zX2 c11 c12 ?_
    refine (Za5 hy9).then ?_
    refine zX2 c11 c12 ?_
    refine (Zfl hy10).then ?_
    refine zX2 c11 c12 ?_
    exact Zfv hz4 c11 c12
   replace hz4:=Zn c12 hz4
   try rw [c12] at c11
   refine Zeb [some true,some true,some false,some false] c11 c12 ?_
   refine (U4 hy8).then ?_
   refine zX2 c11 c12 ?_
   refine (Za5 hy9).then ?_
   refine zX2 c11 c12 ?_
   exact Zfv hz4 c11 c12
  replace hz4:=Zn c11 hz4
  refine Zbb [some false,some false,some false,some false] c11 ?_
  refine (U4 hy8).then ?_
  refine zX1 c11 ?_
  exact Ge hz4 c11
 exact Yw [(vB z4)]
theorem Zg0 {a0:(List Int)} {r:(List Int)} {O:Objs} {n:Nat} (h:Ko a0=some r):GTo Try.prog 99 [(sL (eI .u64) a0)] O n ((sL (eI .u64) r)) O n:=by
 unfold Ko at h
 refine zFn Try.call99 Try.func99 fun hU hN0 hN => ?_
 show W _ _ _ _ ⟨22,[],[(0,(sL (eI .u64) a0))]⟩ (Zt O n []) _
 refine zQ [0] ?_
 refine zQ [0,3] ?_
 refine Ze ?_
 refine zD [0,3] [] ?_
 obtain ⟨z7,hz7,h⟩:=bC h
 refine Z9 (E':=⟨22,[],[(0,(sL (eI .u64) a0)),(3,(vI z7))]⟩) (O':=(Zt O n [])) (n0:=n) ?_ ?_
 ·refine Ym hz7 (fun s0_=>⟨22,[],[(0,(sL (eI .u64) a0)),(3,(vI s0_))]⟩) (fun s0_=>(Zt O n [])) (fun z7=>JX 0 n (⟨22,[],[(0,(sL (eI .u64) a0)),(3,(vI z7))]⟩:Env) (Zt O n []) n) ?_
  intro s0_ x0_ hs0_
  unfold Jf at hs0_
  try dsimp only
  refine Ze ?_
  obtain ⟨z2,hz2,hs0_⟩:=bC hs0_
  refine Xd (E':=⟨22,[],[(0,(sL (eI .u64) a0)),(3,(vI s0_)),(15,(vB z2))]⟩) (O':=(Zt O n [])) (n0:=n) ?_ ?_
  ·rcases Bool.eq_false_or_eq_true (decide (0 < s0_)) with c5 | c5
   ·replace hz2:=Zo c5 hz2
    obtain ⟨x4,hx4,ax4,bx4,cx4,hz2⟩:=bE (f:=(eI .u64)) Zir (fun _=>rfl) (by decide) hz2
    refine Zhg [some true,some true,some true,some true,some true,some true] c5 ax4 bx4 cx4 ?_
    exact Zrx hz2 c5 ax4 bx4 cx4
   replace hz2:=Zn c5 hz2
   refine Zbb [some false,some false,some false,some false,some false,some false] c5 ?_
   exact Ge hz2 c5
  refine Zl (t:=z2) rfl (fun c6 => ?_) (fun c6 => ?_)
  ·replace hs0_:=Zo c6 hs0_
   refine Ve [0,3] [] ?_
   refine Z6 ?_
   refine zR ?_
   exact Ky hs0_
  replace hs0_:=Zn c6 hs0_
  exact zEx hs0_
 try simp only [Yt,Z4,↓reduceIte,Nat.reduceEqDiff]
 refine zD [0,3] [] ?_
 obtain ⟨l9,al9,bl9,cl9,gl9,h⟩:=bS3 (lo:=none) (hi:=(.i64,z7)) (f:=(eI .u64)) rfl rfl Zjd Zir (fun _=>rfl) h
 refine Z6g [2] al9 bl9 cl9 gl9 ?_
 exact Yw [(sL (eI .u64) l9)]
theorem Zhw {a0:(List Za)} {r:(List Za)} {O:Objs} {n:Nat} (h:K2 a0=some r):GTo Try.prog 100 [(sL Zb a0)] O n ((sL Zb r)) O n:=by
 unfold K2 at h
 refine zFn Try.call100 Try.func100 fun hU hN0 hN => ?_
 show W _ _ _ _ ⟨23,[],[(0,(sL Zb a0))]⟩ (Zt O n []) _
 refine zQ [0] ?_
 refine zQ [0,3] ?_
 refine Ze ?_
 refine zD [0,3] [] ?_
 obtain ⟨z10,hz10,h⟩:=bC h
 refine Z9 (E':=⟨23,[],[(0,(sL Zb a0)),(3,(vI z10))]⟩) (O':=(Zt O n [])) (n0:=n) ?_ ?_
 ·refine Ym hz10 (fun s0_=>⟨23,[],[(0,(sL Zb a0)),(3,(vI s0_))]⟩) (fun s0_=>(Zt O n [])) (fun z10=>JX 0 n (⟨23,[],[(0,(sL Zb a0)),(3,(vI z10))]⟩:Env) (Zt O n []) n) ?_
  intro s0_ x0_ hs0_
  unfold Jt at hs0_
  try dsimp only
  refine Ze ?_
  obtain ⟨z3,hz3,hs0_⟩:=bC hs0_
  refine Xd (E':=⟨23,[],[(0,(sL Zb a0)),(3,(vI s0_)),(16,(vB z3))]⟩) (O':=(Zt O n [])) (n0:=n) ?_ ?_
  ·rcases Bool.eq_false_or_eq_true (decide (0 < s0_)) with c8 | c8
   ·replace hz3:=Zo c8 hz3
    obtain ⟨x6,hx6,ax6,bx6,cx6,hz3⟩:=bE (f:=Zb) Vl (fun _=>rfl) (by decide) hz3
    have g7:=Zjy (f:=Zb) (sz:=3) Zzz (fun _=>rfl) (by decide) (by decide) hx6
    refine Z6h [some true,some true,some true,some true,some true,some true,some true] c8 ax6 bx6 cx6 g7 ?_
    exact Z6c hz3 c8 ax6 bx6 cx6 g7
   replace hz3:=Zn c8 hz3
   refine Zbb [some false,some false,some false,some false,some false,some false,some false] c8 ?_
   exact Ge hz3 c8
  refine Zl (t:=z3) rfl (fun c9 => ?_) (fun c9 => ?_)
  ·replace hs0_:=Zo c9 hs0_
   refine Ve [0,3] [] ?_
   refine Z6 ?_
   refine zR ?_
   exact Ky hs0_
  replace hs0_:=Zn c9 hs0_
  exact zEx hs0_
 try simp only [Yt,Z4,↓reduceIte,Nat.reduceEqDiff]
 refine zD [0,3] [] ?_
 obtain ⟨l12,al12,bl12,cl12,gl12,h⟩:=bS3 (lo:=none) (hi:=(.i64,z10)) (f:=Zb) rfl rfl Zhe Vl (fun _=>rfl) h
 refine Z6g [2] al12 bl12 cl12 gl12 ?_
 exact Yw [(sL Zb l12)]
def Zeq (Kr:(Za→Option Za)):Prop:=∀ {a0:Za} {r:Za} {O:Objs} {n:Nat},Kr a0=some r→GTo Try.prog 60 [.agg (Zg a0)] O n (.agg (Zg r)) O n
theorem Zlr {Kr:(Za→Option Za)} (Zkh:Zeq Kr) {a0:Za} {r:Za} {O:Objs} {n:Nat} (h:G0 Kr a0=some r):GTo Try.prog 60 [.agg (Zg a0)] O n (.agg (Zg r)) O n:=by
 unfold G0 at h
 refine zFn Try.call60 Try.func60 fun hU hN0 hN => ?_
 show W _ _ _ _ ⟨49,[],[(0,.agg (Zg a0))]⟩ (Zt O n []) _
 refine zQ [1,2] ?_
 refine Ze ?_
 refine zQ [1,2,10] ?_
 refine Zl (t:=(a0.Kind == 0)) rfl (fun c15 => ?_) (fun c15 => ?_)
 ·replace h:=Zo c15 h
  refine Ze ?_
  refine zRd [2] [false,true] ?_
  exact Yw [.agg [(vI 0),nV,nV]]
 replace h:=Zn c15 h
 refine Ve [1,2] [true,true] ?_
 refine Zgi [1,2,3,4] (Kt Yd (by kernel_rfl) [] (by kernel_rfl) ?_)
 refine zS ?_
 obtain ⟨z1,hz1,h⟩:=bC h
 refine Xd (E':=⟨49,[],[(1,.ref n 0),(2,.ref (n+1) 0),(3,(sL (eI .u64) z1.1)),(4,(sL Zb z1.2))]⟩) (O':=(Zt O n [some ⟨false,29,3,1,(Zg a0)⟩,some ⟨false,29,3,1,[(vI 0),nV,nV]⟩])) (n0:=(n+2)) ?_ ?_
 ·refine zQ [1,2,3,4,18] ?_
  refine Zl (t:=(a0.Kind == 1)) rfl (fun c4 => ?_) (fun c4 => ?_)
  ·replace hz1:=Zo c4 hz1
   obtain ⟨y2,hy2,hz1⟩:=bC hz1
   obtain ⟨y3,hy3,hz1⟩:=bC hz1
   refine zC (Zg0 hy2) ?_
   refine zTs (Zhw hy3) ?_
   exact Ky hz1
  replace hz1:=Zn c4 hz1
  refine zK ?_
  exact Ky hz1
 refine Ze ?_
 refine zRd [2,4,5] [false,true,true] ?_
 obtain ⟨z5,hz5,h⟩:=bC h
 refine Xd (E':=⟨49,[],[(2,.ref (n+1) 0),(4,(sL Zb z1.2)),(5,.ref (n+2) 0)]⟩) (O':=(Zt O n [none,some ⟨false,29,3,1,[(vI 0),nV,nV]⟩,some ⟨false,29,3,1,[(vI a0.Kind),(sL (eI .u64) z1.1),.row (n+4) z5.length]⟩,none,some (oR 29 3 Zb z5),none])) (n0:=(n+6)) ?_ ?_
 ·refine zQ [2,4,5,29] ?_
  refine Zl (t:=(decide (0 < (z1.2.length:Int)))) rfl (fun c7 => ?_) (fun c7 => ?_)
  ·replace hz5:=Zo c7 hz5
   obtain ⟨l6,al6,bl6,cl6,el6,hz5⟩:=bM2 (c:=56) rfl hz5
   have nl6:Int.toNat (z1.2.length:Int)=List.length l6:=by rw [el6,List.length_replicate]
   have fl6:∀ O O' n,Vd O O' n (List.replicate (List.length l6) [.val (.int .i64 0),.val (.slice none 0 0),.val (.slice none 0 0)]).flatten (fl Zb l6)=True:=fun O O' n=>by rw [← nl6,el6];exact eq_true (Zrw (by simp only [push_cast,seval,↓reduceIte,Zq]) _)
   clear el6
   refine Yb Yd [] ?_
   simp only [push_cast,seval,↓reduceIte,Zq,al6,bl6,cl6,fl6,nl6,hN0,hN]
   have hz5:=Option.some.inj hz5;subst hz5
   refine And.intro rfl ?_
   refine Fit2.trans (E':=(⟨49,[],[(2,.ref (n+1) 0),(4,(sL Zb z1.2)),(5,.ref (n+2) 0)]⟩:Env)) (O':=(Zt O n [none,some ⟨false,29,3,1,[(vI 0),nV,nV]⟩,some ⟨false,29,3,1,[(vI a0.Kind),(sL (eI .u64) z1.1),.row (n+3) l6.length]⟩,some (oR 29 3 Zb l6)])) (n':=(n+4)) (Fit2.of (Z5 hU rfl rfl ?_) (by omega)) ?_
   ·simp only [push_cast,seval,↓reduceIte,Zq,al6,bl6,cl6,fl6,nl6,hN0,hN]
   refine Vs (k:=4) (k':=6) hU [5,1,2,4] [0,1,2,0,3,0] rfl rfl rfl rfl ⟨rfl,rfl⟩ ?_
   exact zSe
  replace hz5:=Zn c7 hz5
  refine zK ?_
  have hz5:=Option.some.inj hz5;subst hz5
  refine And.intro rfl ?_
  refine Fit2.trans (E':=(⟨49,[],[(2,.ref (n+1) 0),(4,(sL Zb z1.2)),(5,.ref (n+2) 0)]⟩:Env)) (O':=(Zt O n [none,some ⟨false,29,3,1,[(vI 0),nV,nV]⟩,some ⟨false,29,3,1,[(vI a0.Kind),(sL (eI .u64) z1.1),nV]⟩])) (n':=(n+3)) (Fit2.of (Z5 hU rfl rfl ?_) (by omega)) ?_
  ·exact zSe
  refine Fit2.trans (Zjh (p:=(n+2)) (k:=2) (q:=⟨false,29,3,1,[(vI a0.Kind),(sL (eI .u64) z1.1),nV]⟩) 29 3 (by simp only [Zdp,Zi4,List.getElem?_cons_zero,List.getElem?_cons_succ,Option.join_some,List.length_nil,Qe]) rfl (by omega)) ?_
  simp only [Uq,Uh,Zbc,Gy,List.set_cons_zero,List.set_cons_succ,List.cons_append,List.nil_append,List.length_cons,List.length_nil,Nat.zero_add,Nat.reduceAdd,Nat.reduceLT,Nat.add_assoc]
  refine Vs (k:=4) (k':=6) hU [5,1,2,4] [0,1,2,0,3,0] rfl rfl rfl rfl ⟨rfl,rfl⟩ ?_
  exact zSe
 refine Ze ?_
 refine zQd [2,5,34,35,36] [2,5,34,35,36] [false,true,true,false,true,false] ?_
 obtain ⟨z14,hz14,h⟩:=bC h
 refine Z9 (E':=⟨49,[],[(2,.ref (n+1) 0),(5,.ref (n+2) 0)]⟩) (O':=(Zt O n [none,some ⟨false,29,3,1,[(vI 0),nV,nV]⟩,some ⟨false,29,3,1,[(vI a0.Kind),(sL (eI .u64) z1.1),.row (n+4) z14.length]⟩,none,some (oR 29 3 Zb z14),none])) (n0:=(n+6)) ?_ ?_
 ·refine Ym hz14 (fun s0_=>⟨49,[],[(2,.ref (n+1) 0),(5,.ref (n+2) 0),(34,(sL Zb z1.2)),(35,(vI (z1.2.length:Int))),(36,(vI s0_.1))]⟩) (fun s0_=>(Zt O n [none,some ⟨false,29,3,1,[(vI 0),nV,nV]⟩,some ⟨false,29,3,1,[(vI a0.Kind),(sL (eI .u64) z1.1),.row (n+4) s0_.2.length]⟩,none,some (oR 29 3 Zb s0_.2),none])) (fun z14=>JX 0 n (⟨49,[],[(2,.ref (n+1) 0),(5,.ref (n+2) 0)]⟩:Env) (Zt O n [none,some ⟨false,29,3,1,[(vI 0),nV,nV]⟩,some ⟨false,29,3,1,[(vI a0.Kind),(sL (eI .u64) z1.1),.row (n+4) z14.length]⟩,none,some (oR 29 3 Zb z14),none]) (n+6)) ?_
  intro s0_ x0_ hs0_
  unfold Kh at hs0_
  try dsimp only
  refine zQ [2,5,34,35,36,37] ?_
  refine Ze ?_
  refine Zl (t:=(decide (s0_.1 < (z1.2.length:Int)))) rfl (fun c13 => ?_) (fun c13 => ?_)
  ·replace hs0_:=Zo c13 hs0_
   refine Ve [2,5,34,35,36] [false,true,true,false,true,false] ?_
   refine Ze ?_
   refine Z6 ?_
   refine Ze ?_
   obtain ⟨x9,hx9,ax9,bx9,cx9,hs0_⟩:=bE (f:=Zb) Vl (fun _=>rfl) (by decide) hs0_
   refine Gn [] ax9 bx9 cx9 ?_
   refine zD [2,5,6,7,34,35,36] [false,true,true,false,true,false,true] ?_
   obtain ⟨y10,hy10,hs0_⟩:=bC hs0_
   obtain ⟨x11,hx11,ax11,bx11,cx11,hs0_⟩:=bE (f:=Zb) Vl (fun _=>rfl) (by decide) hs0_
   have gu12:Vu (fl Zb s0_.2) [.val (.int .i64 y10.Kind),.sl y10.Words.length (fl (eI .u64) y10.Words),.sl y10.Kids.length (fl Zb y10.Kids)] (Int.toNat s0_.1 * 3)=some (fl Zb (Zh5 s0_.2 s0_.1 y10)):=(congrArg (fun c=>Vu (fl Zb s0_.2) c (Int.toNat s0_.1 * 3)) (show [.val (.int .i64 y10.Kind),.sl y10.Words.length (fl (eI .u64) y10.Words),.sl y10.Kids.length (fl Zb y10.Kids)]=Zb y10 from by simp only [Zb,Z7,eI,eB,eS,eL])).trans (Zhs (f:=Zb) (ti:=⟨.bool,3,0,[],false⟩) (x:=y10) (fun _=>rfl) (Zbp hx11))
   refine Zgh Yd (by kernel_rfl) [false,false,false,false,false,false,true] [] (by kernel_rfl) ?_
   refine zF4 ax11 bx11 cx11 gu12 ?_
   refine PCall.of (Zkh hy10) ?_
   refine zF4 ax11 bx11 cx11 gu12 ?_
   refine zD [2,5,34,35,36] [false,true,true,false,true,false,false] ?_
   refine zR ?_
   exact Ky hs0_
  replace hs0_:=Zn c13 hs0_
  exact zEx hs0_
 try simp only [Yt,Z4,↓reduceIte,Nat.reduceEqDiff]
 refine zDs [2,5] [false,true,true,false,true,false] ?_
 refine zRd [2] [false,true,false,false,true,false] ?_
 exact Yw [.agg [(vI a0.Kind),(sL (eI .u64) z1.1),.row (n+4) z14.length]]
theorem Ziy:∀ k,(Zeq (Jh k)):=fun k=>by
 induction k with
 | zero=>exact @fun a0 r O n h=>(nomatch (show (none:Option _)=some _ from h))
 | succ k ih=>exact @fun a0 r O n h=>Zlr (ih)  h
theorem Znu {a0:Za} {r:Za} {O:Objs} {n:Nat} (h:Zen a0=some r):GTo Try.prog 60 [.agg (Zg a0)] O n (.agg (Zg r)) O n:=by
 obtain ⟨k,hk⟩:=Vg h
 exact (Ziy k)  hk
theorem Znt {a0:Int} {r:Bool} {O:Objs} {n:Nat} (h:Zcj a0=some r):GTo Try.prog 168 [(vI a0)] O n ((vB r)) O n:=by
 unfold Zcj at h
 refine zFn Try.call168 Try.func168 fun hU hN0 hN => ?_
 show W _ _ _ _ ⟨9,[],[(0,(vI a0))]⟩ (Zt O n []) _
 refine zQ [0] ?_
 refine zQD [2] [none,none] ?_
 exact Yw [(vB (cond (decide (2≤a0)) (decide (a0≤7)) false))]
theorem Zlq {a0:Int} {r:(Int×Bool)} {O:Objs} {n:Nat} (h:U3 a0=some r):GTo Try.prog 199 [(vI a0)] O n (.tup [(vI r.1),(vB r.2)]) O n:=by
 unfold U3 at h
 refine zFn Try.call199 Try.func199 fun hU hN0 hN => ?_
 show W _ _ _ _ ⟨15,[],[(0,(vI a0))]⟩ (Zt O n []) _
 refine zQ [0] ?_
 refine Ze ?_
 obtain ⟨y6,hy6,ey6,h⟩:=bY (f:=(eI .i64)) (cs:=[.val (.int .i64 0),.val (.int .i64 1),.val (.int .i64 8),.val (.int .i64 16),.val (.int .i64 32),.val (.int .i64 64)]) rfl h
 have g7:=congrArg G.agg ey6
 obtain ⟨y8,hy8,ey8,h⟩:=bY (f:=(eI .i64)) (cs:=[.val (.int .i64 0),.val (.int .i64 0),.val (.int .i64 0),.val (.int .i64 0),.val (.int .i64 0),.val (.int .i64 0)]) rfl h
 have g9:=congrArg (GObj.mk false 255 6 1) ey8
 have g10:=Zbr (f:=(eI .i64)) y8 y6 (fun _=>rfl)
 refine Zdo [] g7 g9 g10 ?_
 refine zDs [0,4] [true] ?_
 refine zQD [0,4,11] [none,none] ?_
 refine Zl (t:=(cond (decide (a0 < 0)) true (decide (6≤a0)))) rfl (fun c13 => ?_) (fun c13 => ?_)
 ·replace h:=Zo c13 h
  refine zQ [2,3] ?_
  exact Yw [(vI 0),(vB false)]
 replace h:=Zn c13 h
 refine Ve [0,4] [true] ?_
 obtain ⟨x12,hx12,ax12,bx12,cx12,h⟩:=bEA (f:=(eI .i64)) (b:=6) rfl Zzz (fun _=>rfl) (by decide) h
 refine Zgi [2,3] (Yb Yd [] ?_)
 refine zF3 ax12 bx12 cx12 ?_
 exact Yw [(vI x12),(vB true)]
theorem Znx {a0:Int} {a1:Int} {r:Int} {O:Objs} {n:Nat} (h:Zac a0 a1=some r):GTo Try.prog 169 [(vI a0),(vI a1)] O n ((vI r)) O n:=by
 unfold Zac at h
 refine zFn Try.call169 Try.func169 fun hU hN0 hN => ?_
 show W _ _ _ _ ⟨27,[],[(0,(vI a0)),(1,(vI a1))]⟩ (Zt O n []) _
 refine zQ [0,1] ?_
 refine Ze ?_
 obtain ⟨y2,hy2,h⟩:=bC h
 refine zCd (Zlq hy2) [1,5,6] [] ?_
 refine Ze ?_
 refine zQD [1,5,21] [none,none,none,none] ?_
 refine Zl (t:=(cond (cond (!y2.2) true (decide (a1 < 0))) true (decide (1099511627776 < a1)))) rfl (fun c3 => ?_) (fun c3 => ?_)
 ·replace h:=Zo c3 h
  refine zQ [4] ?_
  exact Yw [(vI 0)]
 replace h:=Zn c3 h
 refine Ve [1,5] [] ?_
 refine zQ [4] ?_
 exact Yw [(vI (IntKind.i64.wrap (Int.tdiv (IntKind.i64.wrap ((IntKind.i64.wrap (a1 * y2.1))+63)) 64)))]
theorem Zlp {a0:Za} {r:(Int×Int)} {O:Objs} {n:Nat} (h:U2 a0=some r):GTo Try.prog 170 [.agg (Zg a0)] O n (.tup [(vI r.1),(vI r.2)]) O n:=by
 unfold U2 at h
 refine zFn Try.call170 Try.func170 fun hU hN0 hN => ?_
 show W _ _ _ _ ⟨28,[],[(0,.agg (Zg a0))]⟩ (Zt O n []) _
 refine zQ [1] ?_
 refine zQ [1,4,5] ?_
 refine Ze ?_
 refine zQd [4,5,9,10,11] [4,5,9,10,11] [false] ?_
 obtain ⟨z4,hz4,h⟩:=bC h
 refine Z9 (E':=⟨28,[],[(4,(vI z4.1)),(5,(vI z4.2))]⟩) (O':=(Zt O n [none])) (n0:=(n+1)) ?_ ?_
 ·refine Ym hz4 (fun s0_=>⟨28,[],[(4,(vI s0_.1)),(5,(vI s0_.2.1)),(9,(sL Zb a0.Kids)),(10,(vI (a0.Kids.length:Int))),(11,(vI s0_.2.2))]⟩) (fun s0_=>(Zt O n [none])) (fun z4=>JX 0 n (⟨28,[],[(4,(vI z4.1)),(5,(vI z4.2))]⟩:Env) (Zt O n [none]) (n+1)) ?_
  intro s0_ x0_ hs0_
  unfold K1 at hs0_
  try dsimp only
  refine zQ [4,5,9,10,11,12] ?_
  refine Ze ?_
  refine Zl (t:=(decide (s0_.2.2 < (a0.Kids.length:Int)))) rfl (fun c3 => ?_) (fun c3 => ?_)
  ·replace hs0_:=Zo c3 hs0_
   refine Ve [4,5,9,10,11] [false] ?_
   refine Ze ?_
   refine Z6 ?_
   refine Ze ?_
   obtain ⟨x2,hx2,ax2,bx2,cx2,hs0_⟩:=bE (f:=Zb) Vl (fun _=>rfl) (by decide) hs0_
   refine Gn [] ax2 bx2 cx2 ?_
   refine zD [4,5,7,9,10,11] [false,true] ?_
   refine Kt Yd (by kernel_rfl) [] (by kernel_rfl) ?_
   refine zS ?_
   refine zD [4,5,9,10,11] [false,false] ?_
   refine zR ?_
   exact Ky hs0_
  replace hs0_:=Zn c3 hs0_
  exact zEx hs0_
 try simp only [Yt,Z4,↓reduceIte,Nat.reduceEqDiff]
 refine zD [4,5] [false] ?_
 refine zQ [2,3] ?_
 exact Yw [(vI z4.1),(vI z4.2)]
def Zbt (Qg:(Za→Option Int)):Prop:=∀ {a0:Za} {r:Int} {O:Objs} {n:Nat},Qg a0=some r→GTo Try.prog 103 [.agg (Zg a0)] O n ((vI r)) O n
def Zay (Xh:((List Za)→Option Int)):Prop:=∀ {a0:(List Za)} {r:Int} {O:Objs} {n:Nat},Xh a0=some r→GTo Try.prog 167 [(sL Zb a0)] O n ((vI r)) O n
theorem Zls {Qg:(Za→Option Int)} {Xh:((List Za)→Option Int)} (Zet:Zbt Qg) (V8:Zay Xh) {a0:Za} {r:Int} {O:Objs} {n:Nat} (h:G3 Qg Xh a0=some r):GTo Try.prog 103 [.agg (Zg a0)] O n ((vI r)) O n:=by
 unfold G3 at h
 refine zFn Try.call103 Try.func103 fun hU hN0 hN => ?_
 show W _ _ _ _ ⟨76,[],[(0,.agg (Zg a0))]⟩ (Zt O n []) _
 refine zQ [1] ?_
 refine Ze ?_
 refine Z6 ?_
 refine zQ [1,8] ?_
 refine Zl (t:=(a0.Kind == 1)) rfl (fun c19 => ?_) (fun c19 => ?_)
 ·replace h:=Zo c19 h
  refine Ze ?_
  obtain ⟨y2,hy2,h⟩:=bC h
  refine Kt Yd (by kernel_rfl) [] (by kernel_rfl) ?_
  refine zS ?_
  refine PCall.of (V8 hy2) ?_
  refine zS ?_
  refine zD [2] [false] ?_
  exact Yw [(vI (IntKind.i64.wrap ((IntKind.i64.wrap ((a0.Words.length:Int)+(a0.Kids.length:Int)))+y2)))]
 replace h:=Zn c19 h
 refine Ze ?_
 obtain ⟨y4,hy4,h⟩:=bC h
 refine zCd (Znt hy4) [1,23] [true] ?_
 refine Zl (t:=y4) rfl (fun c18 => ?_) (fun c18 => ?_)
 ·replace h:=Zo c18 h
  refine Ze ?_
  obtain ⟨y6,hy6,h⟩:=bC h
  refine zCd (Znx hy6) [2] [false] ?_
  exact Yw [(vI y6)]
 replace h:=Zn c18 h
 refine zQ [1,34] ?_
 refine Zl (t:=(a0.Kind == 8)) rfl (fun c17 => ?_) (fun c17 => ?_)
 ·replace h:=Zo c17 h
  refine Ze ?_
  obtain ⟨y8,hy8,h⟩:=bC h
  refine Kt Yd (by kernel_rfl) [] (by kernel_rfl) ?_
  refine zS ?_
  refine PCall.of (V8 hy8) ?_
  refine zS ?_
  refine zD [2] [false] ?_
  exact Yw [(vI (IntKind.i64.wrap ((a0.Kids.length:Int)+y8)))]
 replace h:=Zn c17 h
 refine zQ [1,45] ?_
 refine Zl (t:=(a0.Kind == 9)) rfl (fun c16 => ?_) (fun c16 => ?_)
 ·replace h:=Zo c16 h
  refine Ze ?_
  obtain ⟨y10,hy10,h⟩:=bC h
  refine zCd (Zlp hy10) [1,3,4] [true] ?_
  refine zQ [1,5] ?_
  refine Ze ?_
  refine zQd [5,63,64,65] [5,63,64,65] [false] ?_
  obtain ⟨z15,hz15,h⟩:=bC h
  refine Z9 (E':=⟨76,[],[(5,(vI z15))]⟩) (O':=(Zt O n [none])) (n0:=(n+1)) ?_ ?_
  ·refine Ym hz15 (fun s0_=>⟨76,[],[(5,(vI s0_.1)),(63,(sL Zb a0.Kids)),(64,(vI (a0.Kids.length:Int))),(65,(vI s0_.2))]⟩) (fun s0_=>(Zt O n [none])) (fun z15=>JX 1 n (⟨76,[],[(5,(vI z15))]⟩:Env) (Zt O n [none]) (n+1)) ?_
   intro s0_ x0_ hs0_
   unfold Ki at hs0_
   try dsimp only
   refine zQ [5,63,64,65,66] ?_
   refine Ze ?_
   refine Zl (t:=(decide (s0_.2 < (a0.Kids.length:Int)))) rfl (fun c14 => ?_) (fun c14 => ?_)
   ·replace hs0_:=Zo c14 hs0_
    refine Ve [5,63,64,65] [false] ?_
    refine Ze ?_
    refine Z6 ?_
    refine Ze ?_
    obtain ⟨x12,hx12,ax12,bx12,cx12,hs0_⟩:=bE (f:=Zb) Vl (fun _=>rfl) (by decide) hs0_
    refine Gn [] ax12 bx12 cx12 ?_
    refine zD [5,7,63,64,65] [false,true] ?_
    obtain ⟨y13,hy13,hs0_⟩:=bC hs0_
    refine zCd (V8 hy13) [5,63,64,65] [false,false] ?_
    refine zR ?_
    exact Ky hs0_
   replace hs0_:=Zn c14 hs0_
   exact zEx hs0_
  try simp only [Yt,Z4,↓reduceIte,Nat.reduceEqDiff]
  refine zD [5] [false] ?_
  refine zQ [2] ?_
  exact Yw [(vI z15)]
 replace h:=Zn c16 h
 refine Ve [] [false] ?_
 refine zQ [2] ?_
 exact Yw [(vI 0)]
theorem Zkj {Qg:(Za→Option Int)} {Xh:((List Za)→Option Int)} (Zet:Zbt Qg) (V8:Zay Xh) {a0:(List Za)} {r:Int} {O:Objs} {n:Nat} (h:Ut Qg Xh a0=some r):GTo Try.prog 167 [(sL Zb a0)] O n ((vI r)) O n:=by
 unfold Ut at h
 refine zFn Try.call167 Try.func167 fun hU hN0 hN => ?_
 show W _ _ _ _ ⟨18,[],[(0,(sL Zb a0))]⟩ (Zt O n []) _
 refine zQ [0] ?_
 refine zQ [0,3] ?_
 refine Ze ?_
 refine zQd [3,6,7,8] [3,6,7,8] [] ?_
 obtain ⟨z5,hz5,h⟩:=bC h
 refine Z9 (E':=⟨18,[],[(3,(vI z5))]⟩) (O':=(Zt O n [])) (n0:=n) ?_ ?_
 ·refine Ym hz5 (fun s0_=>⟨18,[],[(3,(vI s0_.1)),(6,(sL Zb a0)),(7,(vI (a0.length:Int))),(8,(vI s0_.2))]⟩) (fun s0_=>(Zt O n [])) (fun z5=>JX 0 n (⟨18,[],[(3,(vI z5))]⟩:Env) (Zt O n []) n) ?_
  intro s0_ x0_ hs0_
  unfold Jx at hs0_
  try dsimp only
  refine zQ [3,6,7,8,9] ?_
  refine Ze ?_
  refine Zl (t:=(decide (s0_.2 < (a0.length:Int)))) rfl (fun c4 => ?_) (fun c4 => ?_)
  ·replace hs0_:=Zo c4 hs0_
   refine Ve [3,6,7,8] [] ?_
   refine Ze ?_
   refine Z6 ?_
   refine Ze ?_
   obtain ⟨x2,hx2,ax2,bx2,cx2,hs0_⟩:=bE (f:=Zb) Vl (fun _=>rfl) (by decide) hs0_
   refine Gn [] ax2 bx2 cx2 ?_
   refine zD [3,5,6,7,8] [true] ?_
   obtain ⟨y3,hy3,hs0_⟩:=bC hs0_
   refine zCd (Zet hy3) [3,6,7,8] [false] ?_
   refine zR ?_
   exact Ky hs0_
  replace hs0_:=Zn c4 hs0_
  exact zEx hs0_
 try simp only [Yt,Z4,↓reduceIte,Nat.reduceEqDiff]
 refine zD [3] [] ?_
 refine zQ [2] ?_
 exact Yw [(vI z5)]
theorem Ziz:∀ k,(Zbt ((Yf k).1))∧(Zay ((Yf k).2)):=fun k=>by
 induction k with
 | zero=>exact ⟨@fun a0 r O n h=>(nomatch (show (none:Option _)=some _ from h)),@fun a0 r O n h=>(nomatch (show (none:Option _)=some _ from h))⟩
 | succ k ih=>exact ⟨@fun a0 r O n h=>Zls (ih.1) (ih.2)  h,@fun a0 r O n h=>Zkj (ih.1) (ih.2)  h⟩
theorem Znw {a0:Za} {r:Int} {O:Objs} {n:Nat} (h:Zeo a0=some r):GTo Try.prog 103 [.agg (Zg a0)] O n ((vI r)) O n:=by
 obtain ⟨k,hk⟩:=Vg h
 exact (Ziz k).1  hk
theorem Znv {a0:Za} {r:Int} {O:Objs} {n:Nat} (h:Zab a0=some r):GTo Try.prog 64 [.agg (Zg a0)] O n ((vI r)) O n:=by
 unfold Zab at h
 refine zFn Try.call64 Try.func64 fun hU hN0 hN => ?_
 show W _ _ _ _ ⟨6,[],[(0,.agg (Zg a0))]⟩ (Zt O n []) _
 refine zQ [1] ?_
 refine Ze ?_
 obtain ⟨y3,hy3,h⟩:=bC h
 obtain ⟨y4,hy4,h⟩:=bC h
 refine zC (Znu hy3) ?_
 refine zTs (Znw hy4) ?_
 refine zD [2] [false] ?_
 exact Yw [(vI y4)]
theorem Zby {a0:Za} {r:Zi} {O:Objs} {n:Nat} (h:Qx a0=some r):GTo Try.prog 152 [.agg (Zg a0)] O n (.agg [(vB r.something),(vI r.size)]) O n:=by
 unfold Qx at h
 refine zFn Try.call152 Try.func152 fun hU hN0 hN => ?_
 show W _ _ _ _ ⟨9,[],[(0,.agg (Zg a0))]⟩ (Zt O n []) _
 refine zQ [1,2] ?_
 refine Ze ?_
 obtain ⟨y2,hy2,h⟩:=bC h
 refine Zgh Yd (by kernel_rfl) [false,false,false,false,false,false,true] [] (by kernel_rfl) ?_
 refine zS ?_
 refine PCall.of (Znv hy2) ?_
 refine zS ?_
 refine zD [2] [false,true] ?_
 exact Yw [.agg [(vB (a0.Kind != 0)),(vI y2)]]
attribute [local push_cast] Try.results151 Try.results153 Try.results154 Try.results155 Try.results204 Try.results25 Try.results55 Try.results56 Try.results57 Try.results68 Try.results69 Try.results70 Try.results94 Try.results95
theorem U6 {a0:Int} {a1:(List Zi)} {r:Zi} {O:Objs} {n:Nat} (h:Y0 a0 a1=some r):GTo Try.prog 151 [(vI a0),(sL Zx a1)] O n (.agg [(vB r.something),(vI r.size)]) O n:=by
 unfold Y0 at h
 refine zFn Try.call151 Try.func151 fun hU hN0 hN => ?_
 show W _ _ _ _ ⟨30,[],[(0,(vI a0)),(1,(sL Zx a1))]⟩ (Zt O n []) _
 refine zQ [0,1,4] ?_
 refine zQ [1,4,5,6] ?_
 refine Ze ?_
 refine zQd [4,5,6,10,11,12] [4,5,6,10,11,12] [true] ?_
 obtain ⟨z6,hz6,h⟩:=bC h
 refine Z9 (E':=⟨30,[],[(4,.ref n 0),(5,(vI z6.1)),(6,(vI z6.2))]⟩) (O':=(Zt O n [some ⟨false,150,2,1,[(vB false),(vI 0)]⟩])) (n0:=(n+1)) ?_ ?_
 ·refine Ym hz6 (fun s0_=>⟨30,[],[(4,.ref n 0),(5,(vI s0_.1)),(6,(vI s0_.2.1)),(10,(sL Zx a1)),(11,(vI (a1.length:Int))),(12,(vI s0_.2.2))]⟩) (fun s0_=>(Zt O n [some ⟨false,150,2,1,[(vB false),(vI 0)]⟩])) (fun z6=>JX 0 n (⟨30,[],[(4,.ref n 0),(5,(vI z6.1)),(6,(vI z6.2))]⟩:Env) (Zt O n [some ⟨false,150,2,1,[(vB false),(vI 0)]⟩]) (n+1)) ?_
  intro s0_ x0_ hs0_
  unfold Xs at hs0_
  try dsimp only
  refine zQ [4,5,6,10,11,12,13] ?_
  refine Ze ?_
  refine Zl (t:=(decide (s0_.2.2 < (a1.length:Int)))) rfl (fun c5 => ?_) (fun c5 => ?_)
  ·replace hs0_:=Zo c5 hs0_
   refine Ve [4,5,6,10,11,12] [true] ?_
   refine Ze ?_
   refine Z6 ?_
   refine Ze ?_
   obtain ⟨x2,hx2,ax2,bx2,cx2,hs0_⟩:=bE (f:=Zx) Zst (fun _=>rfl) (by decide) hs0_
   refine Gn [] ax2 bx2 cx2 ?_
   refine zD [4,5,6,7,8,10,11,12] [true,true] ?_
   obtain ⟨z3,hz3,hs0_⟩:=bC hs0_
   refine Xd (E':=⟨30,[],[(4,.ref n 0),(5,(vI z3)),(6,(vI s0_.2.1)),(8,.ref (n+1) 0),(10,(sL Zx a1)),(11,(vI (a1.length:Int))),(12,(vI s0_.2.2))]⟩) (O':=(Zt O n [some ⟨false,150,2,1,[(vB false),(vI 0)]⟩,some ⟨false,150,2,1,[(vB x2.something),(vI x2.size)]⟩])) (n0:=(n+2)) ?_ ?_
   ·refine zQ [4,5,6,7,8,10,11,12,18] ?_
    refine Zl (t:=x2.something) rfl (fun c4 => ?_) (fun c4 => ?_)
    ·replace hz3:=Zo c4 hz3
     refine zR ?_
     exact Ky hz3
    replace hz3:=Zn c4 hz3
    refine zK ?_
    exact Ky hz3
   refine zRd [4,5,6,10,11,12] [true,false] ?_
   refine zR ?_
   exact Ky hs0_
  replace hs0_:=Zn c5 hs0_
  exact zEx hs0_
 try simp only [Yt,Z4,↓reduceIte,Nat.reduceEqDiff]
 refine zDs [4,5,6] [true] ?_
 refine zRd [4] [true] ?_
 exact Yw [.agg [(vB true),(vI (IntKind.i64.wrap (z6.2+z6.1)))]]
theorem Zer {a0:Int} {a1:Int} {a2:Int} {a3:Int} {r:Zi} {O:Objs} {n:Nat} (h:Ue a0 a1 a2 a3=some r):GTo Try.prog 204 [(vI a0),(vI a1),(vI a2),(vI a3)] O n (.agg [(vB r.something),(vI r.size)]) O n:=by
 unfold Ue at h
 refine zFn Try.call204 Try.func204 fun hU hN0 hN => ?_
 show W _ _ _ _ ⟨21,[],[(0,(vI a0)),(1,(vI a1)),(2,(vI a2)),(3,(vI a3))]⟩ (Zt O n []) _
 refine zQ [0,1,2,3,8] ?_
 refine Ze ?_
 refine zQ [0,1,2,3,8,10] ?_
 refine Zl (t:=(a0 == 0)) rfl (fun c1 => ?_) (fun c1 => ?_)
 ·replace h:=Zo c1 h
  refine Ze ?_
  refine zRd [8] [true] ?_
  exact Yw [.agg [(vB false),(vI 0)]]
 replace h:=Zn c1 h
 refine Ve [0,1,2,3,8] [true] ?_
 refine Ze ?_
 refine zRd [8] [true] ?_
 exact Yw [.agg [(vB true),(vI (IntKind.i64.wrap ((IntKind.i64.wrap (1+(IntKind.i64.wrap (a0 * (IntKind.i64.wrap (a1+a2))))))+a3)))]]
theorem Zi0 {a0:(List Zv)} {r:Zi} {O:Objs} {n:Nat} (h:Vh a0=some r):GTo Try.prog 153 [(sL Zf a0)] O n (.agg [(vB r.something),(vI r.size)]) O n:=by
 unfold Vh at h
 refine zFn Try.call153 Try.func153 fun hU hN0 hN => ?_
 show W _ _ _ _ ⟨27,[],[(0,(sL Zf a0))]⟩ (Zt O n []) _
 refine zQ [0,2] ?_
 refine zQ [0,2,3] ?_
 refine Ze ?_
 refine zQd [0,2,3,6,7,8] [0,2,3,6,7,8] [true] ?_
 obtain ⟨z7,hz7,h⟩:=bC h
 refine Z9 (E':=⟨27,[],[(0,(sL Zf a0)),(2,.ref n 0),(3,(vI z7))]⟩) (O':=(Zt O n [some ⟨false,150,2,1,[(vB false),(vI 0)]⟩])) (n0:=(n+1)) ?_ ?_
 ·refine Ym hz7 (fun s0_=>⟨27,[],[(0,(sL Zf a0)),(2,.ref n 0),(3,(vI s0_.1)),(6,(sL Zf a0)),(7,(vI (a0.length:Int))),(8,(vI s0_.2))]⟩) (fun s0_=>(Zt O n [some ⟨false,150,2,1,[(vB false),(vI 0)]⟩])) (fun z7=>JX 0 n (⟨27,[],[(0,(sL Zf a0)),(2,.ref n 0),(3,(vI z7))]⟩:Env) (Zt O n [some ⟨false,150,2,1,[(vB false),(vI 0)]⟩]) (n+1)) ?_
  intro s0_ x0_ hs0_
  unfold J9 at hs0_
  try dsimp only
  refine zQ [0,2,3,6,7,8,9] ?_
  refine Ze ?_
  refine Zl (t:=(decide (s0_.2 < (a0.length:Int)))) rfl (fun c6 => ?_) (fun c6 => ?_)
  ·replace hs0_:=Zo c6 hs0_
   refine Ve [0,2,3,6,7,8] [true] ?_
   obtain ⟨z1,hz1,hs0_⟩:=bC hs0_
   refine Xd (E':=⟨27,[],[(0,(sL Zf a0)),(2,.ref n 0),(3,(vI z1)),(6,(sL Zf a0)),(7,(vI (a0.length:Int))),(8,(vI s0_.2))]⟩) (O':=(Zt O n [some ⟨false,150,2,1,[(vB false),(vI 0)]⟩,none])) (n0:=(n+2)) ?_ ?_
   ·refine Z6 ?_
    refine Ze ?_
    obtain ⟨x3,hx3,ax3,bx3,cx3,hz1⟩:=bE (f:=Zf) Zk3 (fun _=>rfl) (by decide) hz1
    refine Gn [] ax3 bx3 cx3 ?_
    refine zD [0,2,3,5,6,7,8] [true,true] ?_
    refine Z6 ?_
    refine zQ [0,2,3,5,6,7,8,12] ?_
    refine Zl (t:=(x3.New != 0)) rfl (fun c5 => ?_) (fun c5 => ?_)
    ·replace hz1:=Zo c5 hz1
     refine zR ?_
     exact Ky hz1
    replace hz1:=Zn c5 hz1
    refine zQ [0,2,3,6,7,8,16] ?_
    refine Zl (t:=(x3.Old != 0)) rfl (fun c4 => ?_) (fun c4 => ?_)
    ·replace hz1:=Zo c4 hz1
     refine zR ?_
     exact Ky hz1
    replace hz1:=Zn c4 hz1
    refine zK ?_
    exact Ky hz1
   refine zR ?_
   exact Ky hs0_
  replace hs0_:=Zn c6 hs0_
  exact zEx hs0_
 try simp only [Yt,Z4,↓reduceIte,Nat.reduceEqDiff]
 refine zDs [0,2,3] [true] ?_
 obtain ⟨y9,hy9,h⟩:=bC h
 refine zCd (Zer hy9) [2] [true] ?_
 exact Yw [.agg [(vB y9.something),(vI y9.size)]]
def Vp (Ya:(Zd→Option Zi)):Prop:=∀ {a0:Zd} {r:Zi} {O:Objs} {n:Nat},Ya a0=some r→GTo Try.prog 95 [.agg (Zc a0)] O n (.agg [(vB r.something),(vI r.size)]) O n
def Vq (Y2:((List Zj)→Option Zi)):Prop:=∀ {a0:(List Zj)} {r:Zi} {O:Objs} {n:Nat},Y2 a0=some r→GTo Try.prog 154 [(sL Zh a0)] O n (.agg [(vB r.something),(vI r.size)]) O n
def V7 (Xg:(Int→(List Zp)→Option Zi)):Prop:=∀ {a0:Int} {a1:(List Zp)} {r:Zi} {O:Objs} {n:Nat},Xg a0 a1=some r→GTo Try.prog 155 [(vI a0),(sL Zk a1)] O n (.agg [(vB r.something),(vI r.size)]) O n
theorem Zi1 {Ya:(Zd→Option Zi)} {Y2:((List Zj)→Option Zi)} {Xg:(Int→(List Zp)→Option Zi)} (Vr:Vp Ya) (Gu:Vq Y2) (Zaz:V7 Xg) {a0:Zd} {r:Zi} {O:Objs} {n:Nat} (h:Vy Ya Y2 Xg a0=some r):GTo Try.prog 95 [.agg (Zc a0)] O n (.agg [(vB r.something),(vI r.size)]) O n:=by
 unfold Vy at h
 refine zFn Try.call95 Try.func95 fun hU hN0 hN => ?_
 show W _ _ _ _ ⟨35,[],[(0,.agg (Zc a0))]⟩ (Zt O n []) _
 refine zQ [1,2] ?_
 refine Ze ?_
 refine zQ [1,2,4] ?_
 refine Z6 ?_
 refine zQ [1,2,4,5] ?_
 refine Zl (t:=(a0.Kind == 1)) rfl (fun c19 => ?_) (fun c19 => ?_)
 ·replace h:=Zo c19 h
  refine Ze ?_
  obtain ⟨y4,hy4,h⟩:=bC h
  obtain ⟨y5,hy5,h⟩:=bC h
  obtain ⟨y6,hy6,h⟩:=bC h
  refine Zgh Yd (by kernel_rfl) [false,false,false,false,false,false,true,true,true] [] (by kernel_rfl) ?_
  refine zS ?_
  refine PCall.of (Zby hy4) ?_
  refine zS ?_
  refine PCall.of (Zby hy5) ?_
  refine zS ?_
  refine GCalls.lend (U6 hy6) rfl ?_ ?_
  ·exact zSe
  refine zS ?_
  refine Zbi ⟨35,[],[(2,.ref (n+1) 0)]⟩ (Zt O n [none,some ⟨false,150,2,1,[(vB y6.something),(vI y6.size)]⟩,none]) (Z5 hU rfl rfl ?_) ?_
  ·exact zSe
  exact Yw [.agg [(vB y6.something),(vI y6.size)]]
 replace h:=Zn c19 h
 refine zQ [1,2,4,15] ?_
 refine Zl (t:=(a0.Kind == 2)) rfl (fun c18 => ?_) (fun c18 => ?_)
 ·replace h:=Zo c18 h
  refine Ze ?_
  obtain ⟨y10,hy10,h⟩:=bC h
  obtain ⟨y11,hy11,h⟩:=bC h
  obtain ⟨y12,hy12,h⟩:=bC h
  refine Zgh Yd (by kernel_rfl) [false,false,false,false,false,false,true,true,true] [] (by kernel_rfl) ?_
  refine zS ?_
  refine PCall.of (Zi0 hy10) ?_
  refine zS ?_
  refine PCall.of (Gu hy11) ?_
  refine zS ?_
  refine GCalls.lend (U6 hy12) rfl ?_ ?_
  ·exact zSe
  refine zS ?_
  refine Zbi ⟨35,[],[(2,.ref (n+1) 0)]⟩ (Zt O n [none,some ⟨false,150,2,1,[(vB y12.something),(vI y12.size)]⟩,none]) (Z5 hU rfl rfl ?_) ?_
  ·exact zSe
  exact Yw [.agg [(vB y12.something),(vI y12.size)]]
 replace h:=Zn c18 h
 refine zQ [1,2,25] ?_
 refine Zl (t:=(a0.Kind == 3)) rfl (fun c17 => ?_) (fun c17 => ?_)
 ·replace h:=Zo c17 h
  refine Ze ?_
  obtain ⟨y15,hy15,h⟩:=bC h
  obtain ⟨y16,hy16,h⟩:=bC h
  refine zC (Zaz hy15) ?_
  refine GCalls.lend (U6 hy16) rfl ?_ ?_
  ·exact zSe
  refine zS ?_
  refine Zbi ⟨35,[],[(2,.ref (n+1) 0)]⟩ (Zt O n [none,some ⟨false,150,2,1,[(vB y16.something),(vI y16.size)]⟩,none]) (Z5 hU rfl rfl ?_) ?_
  ·exact zSe
  exact Yw [.agg [(vB y16.something),(vI y16.size)]]
 replace h:=Zn c17 h
 refine Ve [2] [false,true] ?_
 refine Ze ?_
 refine zRd [2] [false,true] ?_
 exact Yw [.agg [(vB false),(vI 0)]]
theorem Zi2 {Ya:(Zd→Option Zi)} {Y2:((List Zj)→Option Zi)} {Xg:(Int→(List Zp)→Option Zi)} (Vr:Vp Ya) (Gu:Vq Y2) (Zaz:V7 Xg) {a0:(List Zj)} {r:Zi} {O:Objs} {n:Nat} (h:Vz Ya Y2 Xg a0=some r):GTo Try.prog 154 [(sL Zh a0)] O n (.agg [(vB r.something),(vI r.size)]) O n:=by
 unfold Vz at h
 refine zFn Try.call154 Try.func154 fun hU hN0 hN => ?_
 show W _ _ _ _ ⟨28,[],[(0,(sL Zh a0))]⟩ (Zt O n []) _
 refine zQ [0,2] ?_
 refine zQ [0,2,3,4] ?_
 refine Ze ?_
 refine zQd [0,2,3,4,7,8,9] [0,2,3,4,7,8,9] [true] ?_
 obtain ⟨z7,hz7,h⟩:=bC h
 refine Z9 (E':=⟨28,[],[(0,(sL Zh a0)),(2,.ref n 0),(3,(vI z7.1)),(4,(vI z7.2))]⟩) (O':=(Zt O n [some ⟨false,150,2,1,[(vB false),(vI 0)]⟩])) (n0:=(n+1)) ?_ ?_
 ·refine Ym hz7 (fun s0_=>⟨28,[],[(0,(sL Zh a0)),(2,.ref n 0),(3,(vI s0_.1)),(4,(vI s0_.2.1)),(7,(sL Zh a0)),(8,(vI (a0.length:Int))),(9,(vI s0_.2.2))]⟩) (fun s0_=>(Zt O n [some ⟨false,150,2,1,[(vB false),(vI 0)]⟩])) (fun z7=>JX 0 n (⟨28,[],[(0,(sL Zh a0)),(2,.ref n 0),(3,(vI z7.1)),(4,(vI z7.2))]⟩:Env) (Zt O n [some ⟨false,150,2,1,[(vB false),(vI 0)]⟩]) (n+1)) ?_
  intro s0_ x0_ hs0_
  unfold Jk at hs0_
  try dsimp only
  refine zQ [0,2,3,4,7,8,9,10] ?_
  refine Ze ?_
  refine Zl (t:=(decide (s0_.2.2 < (a0.length:Int)))) rfl (fun c6 => ?_) (fun c6 => ?_)
  ·replace hs0_:=Zo c6 hs0_
   refine Ve [0,2,3,4,7,8,9] [true] ?_
   refine Ze ?_
   refine Z6 ?_
   refine Ze ?_
   obtain ⟨x2,hx2,ax2,bx2,cx2,hs0_⟩:=bE (f:=Zh) Zgf (fun _=>rfl) (by decide) hs0_
   refine Gn [] ax2 bx2 cx2 ?_
   refine zD [0,2,3,4,6,7,8,9] [true,true] ?_
   obtain ⟨z3,hz3,hs0_⟩:=bC hs0_
   refine Xd (E':=⟨28,[],[(0,(sL Zh a0)),(2,.ref n 0),(3,(vI z3)),(4,(vI s0_.2.1)),(6,.ref (n+1) 0),(7,(sL Zh a0)),(8,(vI (a0.length:Int))),(9,(vI s0_.2.2))]⟩) (O':=(Zt O n [some ⟨false,150,2,1,[(vB false),(vI 0)]⟩,some ⟨false,145,12,1,(V5 x2)⟩])) (n0:=(n+2)) ?_ ?_
   ·refine zQ [0,2,3,4,6,7,8,9,15] ?_
    refine Zl (t:=(decide (0 < x2.At))) rfl (fun c4 => ?_) (fun c4 => ?_)
    ·replace hz3:=Zo c4 hz3
     refine zR ?_
     exact Ky hz3
    replace hz3:=Zn c4 hz3
    refine zK ?_
    exact Ky hz3
   obtain ⟨y5,hy5,hs0_⟩:=bC hs0_
   refine zCd (Vr hy5) [0,2,3,4,7,8,9] [true,false] ?_
   refine zR ?_
   exact Ky hs0_
  replace hs0_:=Zn c6 hs0_
  exact zEx hs0_
 try simp only [Yt,Z4,↓reduceIte,Nat.reduceEqDiff]
 refine zDs [0,2,3,4] [true] ?_
 obtain ⟨y9,hy9,h⟩:=bC h
 refine zCd (Zer hy9) [2] [true] ?_
 exact Yw [.agg [(vB y9.something),(vI y9.size)]]
theorem Zki {Ya:(Zd→Option Zi)} {Y2:((List Zj)→Option Zi)} {Xg:(Int→(List Zp)→Option Zi)} (Vr:Vp Ya) (Gu:Vq Y2) (Zaz:V7 Xg) {a0:Int} {a1:(List Zp)} {r:Zi} {O:Objs} {n:Nat} (h:Us Ya Y2 Xg a0 a1=some r):GTo Try.prog 155 [(vI a0),(sL Zk a1)] O n (.agg [(vB r.something),(vI r.size)]) O n:=by
 unfold Us at h
 refine zFn Try.call155 Try.func155 fun hU hN0 hN => ?_
 show W _ _ _ _ ⟨44,[],[(0,(vI a0)),(1,(sL Zk a1))]⟩ (Zt O n []) _
 refine zQ [0,1,4] ?_
 refine zQ [0,1,4,5,6] ?_
 refine Ze ?_
 refine zQd [0,1,4,5,6,10,11,12] [0,1,4,5,6,10,11,12] [true] ?_
 obtain ⟨z11,hz11,h⟩:=bC h
 refine Z9 (E':=⟨44,[],[(1,(sL Zk a1)),(4,.ref n 0),(5,(vI z11.1)),(6,(vI z11.2))]⟩) (O':=(Zt O n [some ⟨false,150,2,1,[(vB false),(vI 0)]⟩])) (n0:=(n+1)) ?_ ?_
 ·refine Ym hz11 (fun s0_=>⟨44,[],[(0,(vI a0)),(1,(sL Zk a1)),(4,.ref n 0),(5,(vI s0_.1)),(6,(vI s0_.2.1)),(10,(sL Zk a1)),(11,(vI (a1.length:Int))),(12,(vI s0_.2.2))]⟩) (fun s0_=>(Zt O n [some ⟨false,150,2,1,[(vB false),(vI 0)]⟩])) (fun z11=>JX 0 n (⟨44,[],[(1,(sL Zk a1)),(4,.ref n 0),(5,(vI z11.1)),(6,(vI z11.2))]⟩:Env) (Zt O n [some ⟨false,150,2,1,[(vB false),(vI 0)]⟩]) (n+1)) ?_
  intro s0_ x0_ hs0_
  unfold Jw at hs0_
  try dsimp only
  refine zQ [0,1,4,5,6,10,11,12,13] ?_
  refine Ze ?_
  refine Zl (t:=(decide (s0_.2.2 < (a1.length:Int)))) rfl (fun c10 => ?_) (fun c10 => ?_)
  ·replace hs0_:=Zo c10 hs0_
   refine Ve [0,1,4,5,6,10,11,12] [true] ?_
   refine Ze ?_
   refine Z6 ?_
   refine Ze ?_
   obtain ⟨x2,hx2,ax2,bx2,cx2,hs0_⟩:=bE (f:=Zk) Zcz (fun _=>rfl) (by decide) hs0_
   refine Gn [] ax2 bx2 cx2 ?_
   refine zDs [0,1,4,5,6,8,10,11,12] [true,true] ?_
   obtain ⟨y4,hy4,hs0_⟩:=bC hs0_
   refine zCd (Vr hy4) [0,1,4,5,6,8,9,10,11,12] [true,true,true] ?_
   obtain ⟨z5,hz5,hs0_⟩:=bC hs0_
   refine Xd (E':=⟨44,[],[(0,(vI a0)),(1,(sL Zk a1)),(4,.ref n 0),(5,(vI s0_.1)),(6,(vI s0_.2.1)),(9,.ref (n+2) 0),(10,(sL Zk a1)),(11,(vI (a1.length:Int))),(12,(vI s0_.2.2))]⟩) (O':=(Zt O n [some ⟨false,150,2,1,[(vB false),(vI 0)]⟩,none,some ⟨false,150,2,1,[(vB z5.1),(vI z5.2)]⟩])) (n0:=(n+3)) ?_ ?_
   ·refine zQD [0,1,4,5,6,8,9,10,11,12,26] [none,none,none] ?_
    refine Zl (t:=(cond (x2.Kind == 1) true (x2.Kind == 2))) rfl (fun c7 => ?_) (fun c7 => ?_)
    ·replace hz5:=Zo c7 hz5
     obtain ⟨y6,hy6,hz5⟩:=bC hz5
     refine zR ?_
     refine GCalls.argsW ?_ ((Zby hy6).then ?_)
     ·exact zSe
     refine zS ?_
     exact Ky hz5
    replace hz5:=Zn c7 hz5
    refine zK ?_
    exact Ky hz5
   obtain ⟨z8,hz8,hs0_⟩:=bC hs0_
   refine Xd (E':=⟨44,[],[(0,(vI a0)),(1,(sL Zk a1)),(4,.ref n 0),(5,(vI z8)),(6,(vI s0_.2.1)),(9,.ref (n+2) 0),(10,(sL Zk a1)),(11,(vI (a1.length:Int))),(12,(vI s0_.2.2))]⟩) (O':=(Zt O n [some ⟨false,150,2,1,[(vB false),(vI 0)]⟩,none,some ⟨false,150,2,1,[(vB z5.1),(vI z5.2)]⟩])) (n0:=(n+3)) ?_ ?_
   ·refine zQ [0,1,4,5,6,9,10,11,12,33] ?_
    refine Zl (t:=z5.1) rfl (fun c9 => ?_) (fun c9 => ?_)
    ·replace hz8:=Zo c9 hz8
     refine zR ?_
     exact Ky hz8
    replace hz8:=Zn c9 hz8
    refine zK ?_
    exact Ky hz8
   refine zRd [0,1,4,5,6,10,11,12] [true,false,false] ?_
   refine zR ?_
   exact Ky hs0_
  replace hs0_:=Zn c10 hs0_
  exact zEx hs0_
 try simp only [Yt,Z4,↓reduceIte,Nat.reduceEqDiff]
 refine zDs [1,4,5,6] [true] ?_
 obtain ⟨y13,hy13,h⟩:=bC h
 refine zCd (Zer hy13) [4] [true] ?_
 exact Yw [.agg [(vB y13.something),(vI y13.size)]]
theorem Zgx:∀ k,(Vp ((Zr k).1))∧(Vq ((Zr k).2.1))∧(V7 ((Zr k).2.2)):=fun k=>by
 induction k with
 | zero=>exact ⟨@fun a0 r O n h=>(nomatch (show (none:Option _)=some _ from h)),@fun a0 r O n h=>(nomatch (show (none:Option _)=some _ from h)),@fun a0 a1 r O n h=>(nomatch (show (none:Option _)=some _ from h))⟩
 | succ k ih=>exact ⟨@fun a0 r O n h=>Zi1 (ih.1) (ih.2.1) (ih.2.2)  h,@fun a0 r O n h=>Zi2 (ih.1) (ih.2.1) (ih.2.2)  h,@fun a0 a1 r O n h=>Zki (ih.1) (ih.2.1) (ih.2.2)  h⟩
theorem Zkg {a0:Zd} {r:Zi} {O:Objs} {n:Nat} (h:Zcv a0=some r):GTo Try.prog 95 [.agg (Zc a0)] O n (.agg [(vB r.something),(vI r.size)]) O n:=by
 obtain ⟨k,hk⟩:=Vg h
 exact (Zgx k).1  hk
theorem V1 {a0:Zd} {r:Int} {O:Objs} {n:Nat} (h:Kv a0=some r):GTo Try.prog 57 [.agg (Zc a0)] O n ((vI r)) O n:=by
 unfold Kv at h
 refine zFn Try.call57 Try.func57 fun hU hN0 hN => ?_
 show W _ _ _ _ ⟨7,[],[(0,.agg (Zc a0))]⟩ (Zt O n []) _
 refine zQ [1] ?_
 refine Ze ?_
 obtain ⟨y2,hy2,h⟩:=bC h
 refine zCd (Zkg hy2) [2] [false] ?_
 exact Yw [(vI (IntKind.i64.wrap (1+y2.size)))]
theorem Vv  {r:Bool} {O:Objs} {n:Nat} (h:X3=some r):GTo Try.prog 55 [] O n ((vB r)) O n:=by
 unfold X3 at h
 refine zFn Try.call55 Try.func55 fun hU hN0 hN => ?_
 show W _ _ _ _ ⟨9,[],[]⟩ (Zt O n []) _
 refine zQ [] ?_
 obtain ⟨z3,hz3,h⟩:=bC h
 refine Xd (E':=⟨9,[],[(0,(vB z3))]⟩) (O':=(Zt O n [])) (n0:=n) ?_ ?_
 ·obtain ⟨y6,hy6,hz3⟩:=bC hz3
  rcases Bool.eq_false_or_eq_true (y6 == 1) with c8 | c8
  ·replace hz3:=Zo c8 hz3
   obtain ⟨y7,hy7,hz3⟩:=bC hz3
   refine Zbb [some true,some true,some true] c8 ?_
   refine GCalls.argsW ?_ ((V1 hy6).then ?_)
   ·exact Z3n c8
   refine zX1 c8 ?_
   refine GCalls.argsW ?_ ((V1 hy7).then ?_)
   ·exact Z3n c8
   refine zX1 c8 ?_
   exact Ge hz3 c8
  replace hz3:=Zn c8 hz3
  refine Zbb [some false,some false,some false] c8 ?_
  refine GCalls.argsW ?_ ((V1 hy6).then ?_)
  ·exact Z3n c8
  refine zX1 c8 ?_
  exact Ge hz3 c8
 exact Yw [(vB z3)]
theorem U5 {a0:(List Za)} {r:Za} {O:Objs} {n:Nat} (h:Qu a0=some r):GTo Try.prog 94 [(sL Zb a0)] O n (.agg (Zg r)) O n:=by
 unfold Qu at h
 refine zFn Try.call94 Try.func94 fun hU hN0 hN => ?_
 show W _ _ _ _ ⟨9,[],[(0,(sL Zb a0))]⟩ (Zt O n []) _
 refine zQ [0,2] ?_
 refine Ze ?_
 refine zQ [0,2,5] ?_
 refine Zl (t:=((a0.length:Int) == 0)) rfl (fun c1 => ?_) (fun c1 => ?_)
 ·replace h:=Zo c1 h
  refine Ze ?_
  refine zRd [2] [true] ?_
  exact Yw [.agg [(vI 0),nV,nV]]
 replace h:=Zn c1 h
 refine Ve [0,2] [true] ?_
 refine Ze ?_
 refine zRd [2] [true] ?_
 exact Yw [.agg [(vI 9),nV,(sL Zb a0)]]
def Zag (Yr:(Zd→Option Za)):Prop:=∀ {a0:Zd} {r:Za} {O:Objs} {n:Nat},Yr a0=some r→GTo Try.prog 56 [.agg (Zc a0)] O n (.agg (Zg r)) O n
theorem Zfp {Yr:(Zd→Option Za)} (Vj:Zag Yr) {a0:Zd} {r:Za} {O:Objs} {n:Nat} (h:J4 Yr a0=some r):GTo Try.prog 56 [.agg (Zc a0)] O n (.agg (Zg r)) O n:=by
 unfold J4 at h
 refine zFn Try.call56 Try.func56 fun hU hN0 hN => ?_
 show W _ _ _ _ ⟨146,[],[(0,.agg (Zc a0))]⟩ (Zt O n []) _
 refine zQ [1,2] ?_
 refine Ze ?_
 refine zR ?_
 refine Zbi ⟨146,[],[(1,.ref n 0),(2,.ref (n+1) 0),(3,.ref (n+3) 0)]⟩ (Zt O n [some ⟨false,86,11,1,(Zc a0)⟩,some ⟨false,29,3,1,[(vI 0),nV,nV]⟩,some (oR 68 1 (eI .u64) ([(IntKind.u64.wrap (IntKind.i64.wrap (a0.Kind+(IntKind.i64.wrap (256 * a0.List_)))))]:List Int)),some ⟨false,29,3,1,[(vI 1),.row (n+2) ([(IntKind.u64.wrap (IntKind.i64.wrap (a0.Kind+(IntKind.i64.wrap (256 * a0.List_)))))]:List Int).length,nV]⟩]) (Z5 hU rfl rfl ?_) ?_
 ·exact zSe
 refine zQ [1,2,3,4,5] ?_
 obtain ⟨z1,hz1,h⟩:=bC h
 refine Z1u (J:=(Vn (fun z1=>JN n (⟨146,[],[(2,.ref (n+1) 0),(3,.ref (n+3) 0)]⟩:Env) (Zt O n [none,some ⟨false,29,3,1,[(vI 0),nV,nV]⟩,some (oR 68 1 (eI .u64) z1.1),some ⟨false,29,3,1,[(vI 1),.row (n+2) z1.1.length,.row (n+9) z1.2.length]⟩,none,none,none,none,none,some (oR 29 3 Zb z1.2),none]) (n+11)) (fun z1=>JR n (⟨146,[],[(2,.ref (n+1) 0)]⟩:Env) (Zt O n [none,some ⟨false,29,3,1,[(vI 0),nV,nV]⟩,none,none]) (n+4)))) (z:=z1) ?_ fun hw => ?_
 ·refine zQ [1,2,3,4,5,22] ?_
  refine Z6 ?_
  refine zQ [1,2,3,4,5,22,70] ?_
  refine Zl (t:=(a0.Kind == 0)) rfl (fun c276 => ?_) (fun c276 => ?_)
  ·replace hz1:=Zo c276 hz1
   refine Ze ?_
   refine zRd [2] [false,true,false,false] ?_
   refine zW ?_
   exact Ky hz1
  replace hz1:=Zn c276 hz1
  refine zQ [1,2,3,4,5,22,73] ?_
  refine Zl (t:=(a0.Kind == 1)) rfl (fun c275 => ?_) (fun c275 => ?_)
  ·replace hz1:=Zo c275 hz1
   refine zR ?_
   have hz1:=Option.some.inj hz1;subst hz1
   refine And.intro rfl ?_
   refine Fit2.trans (E':=(⟨146,[],[(2,.ref (n+1) 0),(3,.ref (n+3) 0)]⟩:Env)) (O':=(Zt O n [none,some ⟨false,29,3,1,[(vI 0),nV,nV]⟩,some (oR 68 1 (eI .u64) ([(IntKind.u64.wrap (IntKind.i64.wrap (a0.Kind+(IntKind.i64.wrap (256 * a0.List_)))))]:List Int)),some ⟨false,29,3,1,[(vI 1),.row (n+2) ([(IntKind.u64.wrap (IntKind.i64.wrap (a0.Kind+(IntKind.i64.wrap (256 * a0.List_)))))]:List Int).length,.row (n+4) ([a0.Old,a0.New]:List Za).length]⟩,some (oR 29 3 Zb ([a0.Old,a0.New]:List Za))])) (n':=(n+5)) (Fit2.of (Z5 hU rfl rfl ?_) (by omega)) ?_
   ·exact zSe
   refine Vs (k:=5) (k':=11) hU [10,1,2,3,9] [0,1,2,3,0,0,0,0,0,4,0] rfl rfl rfl rfl ⟨rfl,rfl⟩ ?_
   exact zSe
  replace hz1:=Zn c275 hz1
  refine zQ [1,2,3,4,5,81] ?_
  refine Zl (t:=(a0.Kind == 2)) rfl (fun c274 => ?_) (fun c274 => ?_)
  ·replace hz1:=Zo c274 hz1
   refine Ze ?_
   refine zQd [1,2,3,4,5,6] [1,2,3,4,5,6] [true,true,true,true] ?_
   refine Zjg (E':=(⟨146,[],[(1,.ref n 0),(2,.ref (n+1) 0),(3,.ref (n+3) 0),(4,.row (n+4) ([]:List Za).length),(5,nV),(6,(vI 0))]⟩:Env)) (O':=(Zt O n [some ⟨false,86,11,1,(Zc a0)⟩,some ⟨false,29,3,1,[(vI 0),nV,nV]⟩,some (oR 68 1 (eI .u64) ([(IntKind.u64.wrap (IntKind.i64.wrap (a0.Kind+(IntKind.i64.wrap (256 * a0.List_)))))]:List Int)),some ⟨false,29,3,1,[(vI 1),.row (n+2) ([(IntKind.u64.wrap (IntKind.i64.wrap (a0.Kind+(IntKind.i64.wrap (256 * a0.List_)))))]:List Int).length,nV]⟩,some (oR 29 3 Zb ([]:List Za)),none])) (n':=(n+6)) ?_ ?_
   ·refine Fit2.trans (E':=(⟨146,[],[(1,.ref n 0),(2,.ref (n+1) 0),(3,.ref (n+3) 0),(4,nV),(5,nV),(6,(vI 0))]⟩:Env)) (O':=(Zt O n [some ⟨false,86,11,1,(Zc a0)⟩,some ⟨false,29,3,1,[(vI 0),nV,nV]⟩,some (oR 68 1 (eI .u64) ([(IntKind.u64.wrap (IntKind.i64.wrap (a0.Kind+(IntKind.i64.wrap (256 * a0.List_)))))]:List Int)),some ⟨false,29,3,1,[(vI 1),.row (n+2) ([(IntKind.u64.wrap (IntKind.i64.wrap (a0.Kind+(IntKind.i64.wrap (256 * a0.List_)))))]:List Int).length,nV]⟩])) (n':=(n+4)) (Fit2.of (Z5 hU rfl rfl ?_) (by omega)) ?_
    ·exact zSe
    refine Fit2.trans (Ze8 4 29 3 rfl (by omega)) ?_
    simp only [Uq,Uh,Zbc,Gy,List.set_cons_zero,List.set_cons_succ,List.cons_append,List.nil_append,List.length_cons,List.length_nil,Nat.zero_add,Nat.reduceAdd,Nat.reduceLT,Nat.add_assoc]
    refine Fit2.trans (E':=(⟨146,[],[(1,.ref n 0),(2,.ref (n+1) 0),(3,.ref (n+3) 0),(4,.row (n+4) ([]:List Za).length),(5,nV),(6,(vI 0))]⟩:Env)) (O':=(Zt O n [some ⟨false,86,11,1,(Zc a0)⟩,some ⟨false,29,3,1,[(vI 0),nV,nV]⟩,some (oR 68 1 (eI .u64) ([(IntKind.u64.wrap (IntKind.i64.wrap (a0.Kind+(IntKind.i64.wrap (256 * a0.List_)))))]:List Int)),some ⟨false,29,3,1,[(vI 1),.row (n+2) ([(IntKind.u64.wrap (IntKind.i64.wrap (a0.Kind+(IntKind.i64.wrap (256 * a0.List_)))))]:List Int).length,nV]⟩,some (oR 29 3 Zb ([]:List Za))])) (n':=(n+5)) (Fit2.of (Z5 hU rfl rfl ?_) (by omega)) ?_
    ·exact zSe
    refine Vs (k:=5) (k':=6) hU [0,1,2,3,4] [0,1,2,3,4,0] rfl rfl rfl rfl ⟨rfl,rfl⟩ ?_
    exact zSe
   obtain ⟨z6,hz6,hz1⟩:=bC hz1
   refine Z9 (E':=⟨146,[],[(1,.ref n 0),(2,.ref (n+1) 0),(3,.ref (n+3) 0),(4,.row (n+4) z6.2.length),(5,nV)]⟩) (O':=(Zt O n [some ⟨false,86,11,1,(Zc a0)⟩,some ⟨false,29,3,1,[(vI 0),nV,nV]⟩,some (oR 68 1 (eI .u64) z6.1),some ⟨false,29,3,1,[(vI 1),.row (n+2) z6.1.length,nV]⟩,some (oR 29 3 Zb z6.2),none])) (n0:=(n+6)) ?_ ?_
   ·refine Ym hz6 (fun s0_=>⟨146,[],[(1,.ref n 0),(2,.ref (n+1) 0),(3,.ref (n+3) 0),(4,.row (n+4) s0_.2.2.length),(5,nV),(6,(vI s0_.1))]⟩) (fun s0_=>(Zt O n [some ⟨false,86,11,1,(Zc a0)⟩,some ⟨false,29,3,1,[(vI 0),nV,nV]⟩,some (oR 68 1 (eI .u64) s0_.2.1),some ⟨false,29,3,1,[(vI 1),.row (n+2) s0_.2.1.length,nV]⟩,some (oR 29 3 Zb s0_.2.2),none])) (fun z6=>JX 3 n (⟨146,[],[(1,.ref n 0),(2,.ref (n+1) 0),(3,.ref (n+3) 0),(4,.row (n+4) z6.2.length),(5,nV)]⟩:Env) (Zt O n [some ⟨false,86,11,1,(Zc a0)⟩,some ⟨false,29,3,1,[(vI 0),nV,nV]⟩,some (oR 68 1 (eI .u64) z6.1),some ⟨false,29,3,1,[(vI 1),.row (n+2) z6.1.length,nV]⟩,some (oR 29 3 Zb z6.2),none]) (n+6)) ?_
    intro s0_ x0_ hs0_
    unfold Q2 at hs0_
    try dsimp only
    refine Ze ?_
    refine zQ [1,2,3,4,5,6,87] ?_
    refine Zl (t:=(decide (s0_.1 < (a0.Words.length:Int)))) rfl (fun c5 => ?_) (fun c5 => ?_)
    ·replace hs0_:=Zo c5 hs0_
     refine Ve [1,2,3,4,5,6] [true,true,true,true,true,false] ?_
     refine Ze ?_
     refine Z6 ?_
     refine Ze ?_
     obtain ⟨x3,hx3,ax3,bx3,cx3,hs0_⟩:=bE (f:=Zf) Zk3 (fun _=>rfl) (by decide) hs0_
     refine Gn [] ax3 bx3 cx3 ?_
     refine zD [1,2,3,4,5,6,7] [true,true,true,true,true,false,true] ?_
     obtain ⟨l4,pl4,ql4,el4,hs0_⟩:=bA (k:=1) rfl hs0_
     refine Zdo [] pl4 ql4 el4 ?_
     refine Zbi ⟨146,[],[(1,.ref n 0),(2,.ref (n+1) 0),(3,.ref (n+3) 0),(4,.row (n+4) l4.length),(5,nV),(6,(vI s0_.1))]⟩ (Zt O n [some ⟨false,86,11,1,(Zc a0)⟩,some ⟨false,29,3,1,[(vI 0),nV,nV]⟩,some (oR 68 1 (eI .u64) s0_.2.1),some ⟨false,29,3,1,[(vI 1),.row (n+2) s0_.2.1.length,nV]⟩,some (oR 29 3 Zb l4),none,none,none,none]) (Z5 hU rfl rfl ?_) ?_
     ·exact Z1s pl4 ql4 el4
     refine zR ?_
     exact Ky hs0_
    replace hs0_:=Zn c5 hs0_
    exact zEx hs0_
   try simp only [Yt,Z4,↓reduceIte,Nat.reduceEqDiff]
   refine zDs [1,2,3,4,5] [true,true,true,true,true,false] ?_
   refine zQd [1,2,3,4,5,8] [1,2,3,4,5,8] [true,true,true,true,true,false] ?_
   refine Zjg (E':=(⟨146,[],[(1,.ref n 0),(2,.ref (n+1) 0),(3,.ref (n+3) 0),(4,.row (n+4) z6.2.length),(5,.row (n+6) ([]:List Za).length),(8,(vI 0))]⟩:Env)) (O':=(Zt O n [some ⟨false,86,11,1,(Zc a0)⟩,some ⟨false,29,3,1,[(vI 0),nV,nV]⟩,some (oR 68 1 (eI .u64) z6.1),some ⟨false,29,3,1,[(vI 1),.row (n+2) z6.1.length,nV]⟩,some (oR 29 3 Zb z6.2),none,some (oR 29 3 Zb ([]:List Za)),none])) (n':=(n+8)) ?_ ?_
   ·refine Fit2.trans (E':=(⟨146,[],[(1,.ref n 0),(2,.ref (n+1) 0),(3,.ref (n+3) 0),(4,.row (n+4) z6.2.length),(5,nV),(8,(vI 0))]⟩:Env)) (O':=(Zt O n [some ⟨false,86,11,1,(Zc a0)⟩,some ⟨false,29,3,1,[(vI 0),nV,nV]⟩,some (oR 68 1 (eI .u64) z6.1),some ⟨false,29,3,1,[(vI 1),.row (n+2) z6.1.length,nV]⟩,some (oR 29 3 Zb z6.2),none])) (n':=(n+6)) (Fit2.of (Z5 hU rfl rfl ?_) (by omega)) ?_
    ·exact zSe
    refine Fit2.trans (Ze8 5 29 3 rfl (by omega)) ?_
    simp only [Uq,Uh,Zbc,Gy,List.set_cons_zero,List.set_cons_succ,List.cons_append,List.nil_append,List.length_cons,List.length_nil,Nat.zero_add,Nat.reduceAdd,Nat.reduceLT,Nat.add_assoc]
    refine Fit2.trans (E':=(⟨146,[],[(1,.ref n 0),(2,.ref (n+1) 0),(3,.ref (n+3) 0),(4,.row (n+4) z6.2.length),(5,.row (n+6) ([]:List Za).length),(8,(vI 0))]⟩:Env)) (O':=(Zt O n [some ⟨false,86,11,1,(Zc a0)⟩,some ⟨false,29,3,1,[(vI 0),nV,nV]⟩,some (oR 68 1 (eI .u64) z6.1),some ⟨false,29,3,1,[(vI 1),.row (n+2) z6.1.length,nV]⟩,some (oR 29 3 Zb z6.2),none,some (oR 29 3 Zb ([]:List Za))])) (n':=(n+7)) (Fit2.of (Z5 hU rfl rfl ?_) (by omega)) ?_
    ·exact zSe
    refine Vs (k:=7) (k':=8) hU [0,1,2,3,4,7,6] [0,1,2,3,4,0,6,0] rfl rfl rfl rfl ⟨rfl,rfl⟩ ?_
    exact zSe
   obtain ⟨z260,hz260,hz1⟩:=bC hz1
   refine Z9 (E':=⟨146,[],[(2,.ref (n+1) 0),(3,.ref (n+3) 0),(4,.row (n+4) z6.2.length),(5,.row (n+6) z260.length)]⟩) (O':=(Zt O n [none,some ⟨false,29,3,1,[(vI 0),nV,nV]⟩,some (oR 68 1 (eI .u64) z6.1),some ⟨false,29,3,1,[(vI 1),.row (n+2) z6.1.length,nV]⟩,some (oR 29 3 Zb z6.2),none,some (oR 29 3 Zb z260),none])) (n0:=(n+8)) ?_ ?_
   ·refine Ym hz260 (fun s1_=>⟨146,[],[(1,.ref n 0),(2,.ref (n+1) 0),(3,.ref (n+3) 0),(4,.row (n+4) z6.2.length),(5,.row (n+6) s1_.2.length),(8,(vI s1_.1))]⟩) (fun s1_=>(Zt O n [some ⟨false,86,11,1,(Zc a0)⟩,some ⟨false,29,3,1,[(vI 0),nV,nV]⟩,some (oR 68 1 (eI .u64) z6.1),some ⟨false,29,3,1,[(vI 1),.row (n+2) z6.1.length,nV]⟩,some (oR 29 3 Zb z6.2),none,some (oR 29 3 Zb s1_.2),none])) (fun z260=>JX 5 n (⟨146,[],[(2,.ref (n+1) 0),(3,.ref (n+3) 0),(4,.row (n+4) z6.2.length),(5,.row (n+6) z260.length)]⟩:Env) (Zt O n [none,some ⟨false,29,3,1,[(vI 0),nV,nV]⟩,some (oR 68 1 (eI .u64) z6.1),some ⟨false,29,3,1,[(vI 1),.row (n+2) z6.1.length,nV]⟩,some (oR 29 3 Zb z6.2),none,some (oR 29 3 Zb z260),none]) (n+8)) ?_
    intro s1_ x1_ hs1_
    unfold Q3 at hs1_
    try dsimp only
    refine Ze ?_
    refine zQ [1,2,3,4,5,8,116] ?_
    refine Zl (t:=(decide (s1_.1 < (a0.Kids.length:Int)))) rfl (fun c259 => ?_) (fun c259 => ?_)
    ·replace hs1_:=Zo c259 hs1_
     refine Ve [1,2,3,4,5,8] [true,true,true,true,true,false,true,false] ?_
     refine Ze ?_
     refine Z6 ?_
     obtain ⟨x55,hx55,ax55,bx55,cx55,hs1_⟩:=bE (f:=Zh) Zgf (fun _=>rfl) (by decide) hs1_
     have g79:=Zjy (f:=Zh) (sz:=12) Zzz (fun _=>rfl) (by decide) (by decide) hx55
     have g175:=Q7 (f:=Zh) (off:=1) (sz:=12) Zk4 (fun _=>rfl) (by decide) (by decide) hx55
     obtain ⟨y187,hy187,hs1_⟩:=bC hs1_
     obtain ⟨l235,pl235,ql235,el235,hs1_⟩:=bA (k:=1) rfl hs1_
     refine Z3q (E':=⟨146,[],[(1,.ref n 0),(2,.ref (n+1) 0),(3,.ref (n+3) 0),(4,.row (n+4) z6.2.length),(5,.row (n+6) l235.length),(8,(vI s1_.1))]⟩) (O':=(Zt O n [some ⟨false,86,11,1,(Zc a0)⟩,some ⟨false,29,3,1,[(vI 0),nV,nV]⟩,some (oR 68 1 (eI .u64) z6.1),some ⟨false,29,3,1,[(vI 1),.row (n+2) z6.1.length,nV]⟩,some (oR 29 3 Zb z6.2),none,some (oR 29 3 Zb l235),none,none,none,none])) (n0:=(n+11)) ?_ ?_
     ·refine Z0p Yd (by kernel_rfl) [.plain,.low,.low,.plain,.low,.low,.low,.low,.pass,.low,.low,.plain,.low,.low,.low,.low,.pass,.plain,.pass,.pass,.plain] (fun i=>i < (n+8)∧¬ i=n+6) [0,1,2,3,4,5,6,7,9,10,11,12,13,14,15] [8,16,17,18] [19,20] (.alt 8 (.seq [16,17,18]) (.one 16 (.seq [8,17,18]))) [.plain,.low,.low,.plain,.low,.low,.low,.low,.low,.low,.plain,.low,.low,.low,.low] [] (by kernel_rfl) rfl ?_
      simp (maxSteps:=4000000) only [push_cast,Nat.reduceAdd,Nat.reduceSub,Nat.reduceMul,Nat.reduceLeDiff,Nat.reduceLT,Nat.reduceEqDiff,↓reduceIte,reduceCtorEq,Int.reduceBEq,Int.reduceBNe,Nat.reduceBEq,Int.reduceLE,Int.reduceLT,Int.reduceEq,Int.reduceNe,Int.reduceNeg,Nat.reduceDiv,Nat.reduceMod,Nat.reducePow,Zq,ax55,bx55,cx55,g79,g175,pl235,ql235,el235,hN0,hN]
      repeat (with_reducible refine And.intro (by omega) ?_)
      first | refine PCallA.of (fun _ _=>Vj hy187) ?_ | refine PCall.of (Vj hy187) ?_
      simp (maxSteps:=4000000) only [push_cast,Nat.reduceAdd,Nat.reduceSub,Nat.reduceMul,Nat.reduceLeDiff,Nat.reduceLT,Nat.reduceEqDiff,↓reduceIte,reduceCtorEq,Int.reduceBEq,Int.reduceBNe,Nat.reduceBEq,Int.reduceLE,Int.reduceLT,Int.reduceEq,Int.reduceNe,Int.reduceNeg,Nat.reduceDiv,Nat.reduceMod,Nat.reducePow,Zq,ax55,bx55,cx55,g79,g175,pl235,ql235,el235,hN0,hN]
      repeat (with_reducible refine And.intro (by omega) ?_)
      try simp only [push_cast,Nat.reduceAdd,Nat.reduceSub,Nat.reduceMul,Nat.reduceLeDiff,Nat.reduceLT,Nat.reduceEqDiff,↓reduceIte,reduceCtorEq,Int.reduceBEq,Int.reduceBNe,Nat.reduceBEq,Int.reduceLE,Int.reduceLT,Int.reduceEq,Int.reduceNe,Int.reduceNeg,Nat.reduceDiv,Nat.reduceMod,Nat.reducePow,Zq,ax55,bx55,cx55,g79,g175,pl235,ql235,el235,hN0,hN]
      refine And.intro ?_ ?_
      ·try simp only [push_cast,Nat.reduceAdd,Nat.reduceSub,Nat.reduceMul,Nat.reduceLeDiff,Nat.reduceLT,Nat.reduceEqDiff,↓reduceIte,reduceCtorEq,Int.reduceBEq,Int.reduceBNe,Nat.reduceBEq,Int.reduceLE,Int.reduceLT,Int.reduceEq,Int.reduceNe,Int.reduceNeg,Nat.reduceDiv,Nat.reduceMod,Nat.reducePow,Zq,ax55,bx55,cx55,g79,g175,pl235,ql235,el235,hN0,hN]
       repeat (with_reducible refine And.intro (by first | exact Ze9 rfl | exact Zdq | exact Zbj rfl | exact Zce rfl) ?_)
       try simp only [push_cast,Nat.reduceAdd,Nat.reduceSub,Nat.reduceMul,Nat.reduceLeDiff,Nat.reduceLT,Nat.reduceEqDiff,↓reduceIte,reduceCtorEq,Int.reduceBEq,Int.reduceBNe,Nat.reduceBEq,Int.reduceLE,Int.reduceLT,Int.reduceEq,Int.reduceNe,Int.reduceNeg,Nat.reduceDiv,Nat.reduceMod,Nat.reducePow,Zq,ax55,bx55,cx55,g79,g175,pl235,ql235,el235,hN0,hN]
       repeat (with_reducible refine And.intro (by first | exact Ze9 rfl | exact Zdq | exact Zbj rfl | exact Zce rfl) ?_)
       exact Z6b ax55 bx55 cx55 g79 g175 pl235 ql235 el235
      try simp only [push_cast,Nat.reduceAdd,Nat.reduceSub,Nat.reduceMul,Nat.reduceLeDiff,Nat.reduceLT,Nat.reduceEqDiff,↓reduceIte,reduceCtorEq,Int.reduceBEq,Int.reduceBNe,Nat.reduceBEq,Int.reduceLE,Int.reduceLT,Int.reduceEq,Int.reduceNe,Int.reduceNeg,Nat.reduceDiv,Nat.reduceMod,Nat.reducePow,Zq,ax55,bx55,cx55,g79,g175,pl235,ql235,el235,hN0,hN]
      repeat (with_reducible refine And.intro (by first | exact Ze9 rfl | exact Zdq | exact Zbj rfl | exact Zce rfl) ?_)
      try simp only [push_cast,Nat.reduceAdd,Nat.reduceSub,Nat.reduceMul,Nat.reduceLeDiff,Nat.reduceLT,Nat.reduceEqDiff,↓reduceIte,reduceCtorEq,Int.reduceBEq,Int.reduceBNe,Nat.reduceBEq,Int.reduceLE,Int.reduceLT,Int.reduceEq,Int.reduceNe,Int.reduceNeg,Nat.reduceDiv,Nat.reduceMod,Nat.reducePow,Zq,ax55,bx55,cx55,g79,g175,pl235,ql235,el235,hN0,hN]
      repeat (with_reducible refine And.intro (by first | exact Ze9 rfl | exact Zdq | exact Zbj rfl | exact Zce rfl) ?_)
      refine And.intro rfl ?_
      refine Fit2.trans (E':=(⟨146,[],[(1,.ref n 0),(2,.ref (n+1) 0),(3,.ref (n+3) 0),(4,.row (n+4) z6.2.length),(5,.row (n+6) l235.length),(8,(vI s1_.1))]⟩:Env)) (O':=(Zt O n [some ⟨false,86,11,1,(Zc a0)⟩,some ⟨false,29,3,1,[(vI 0),nV,nV]⟩,some (oR 68 1 (eI .u64) z6.1),some ⟨false,29,3,1,[(vI 1),.row (n+2) z6.1.length,nV]⟩,some (oR 29 3 Zb z6.2),none,some (oR 29 3 Zb l235),none,none,none,none])) (n':=(n+11)) (Fit2.of (Z5 hU rfl rfl ?_) (by omega)) ?_
      ·exact Z6f ax55 bx55 cx55 g79 g175 pl235 ql235 el235
      refine Vs (k:=11) (k':=11) hU [0,1,2,3,4,5,6,7,9,8,10] [0,1,2,3,4,5,6,7,9,8,10] rfl rfl rfl rfl ⟨rfl,rfl⟩ ?_
      exact Z6f ax55 bx55 cx55 g79 g175 pl235 ql235 el235
     try simp only [Yt,Z4]
     refine zD [1,2,3,4,5,8] [true,true,true,true,true,false,true,false,false,false,false] ?_
     refine zR ?_
     exact Ky hs1_
    replace hs1_:=Zn c259 hs1_
    exact zEx hs1_
   try simp only [Yt,Z4,↓reduceIte,Nat.reduceEqDiff]
   refine zD [2,3,4,5] [false,true,true,true,true,false,true,false] ?_
   refine Zbi ⟨146,[],[(2,.ref (n+1) 0),(3,.ref (n+3) 0),(4,(sL Zb z6.2)),(5,.row (n+6) z260.length)]⟩ (Zt O n [none,some ⟨false,29,3,1,[(vI 0),nV,nV]⟩,some (oR 68 1 (eI .u64) z6.1),some ⟨false,29,3,1,[(vI 1),.row (n+2) z6.1.length,nV]⟩,none,none,some (oR 29 3 Zb z260),none]) (Z5 hU rfl rfl ?_) ?_
   ·exact zSe
   refine Zbi ⟨146,[],[(2,.ref (n+1) 0),(3,.ref (n+3) 0),(4,(sL Zb z6.2)),(5,(sL Zb z260))]⟩ (Zt O n [none,some ⟨false,29,3,1,[(vI 0),nV,nV]⟩,some (oR 68 1 (eI .u64) z6.1),some ⟨false,29,3,1,[(vI 1),.row (n+2) z6.1.length,nV]⟩,none,none,none,none]) (Z5 hU rfl rfl ?_) ?_
   ·exact zSe
   obtain ⟨y262,hy262,hz1⟩:=bC hz1
   obtain ⟨y263,hy263,hz1⟩:=bC hz1
   refine zC (U5 hy262) ?_
   refine zTs (U5 hy263) ?_
   have hz1:=Option.some.inj hz1;subst hz1
   refine And.intro rfl ?_
   refine Fit2.trans (E':=(⟨146,[],[(2,.ref (n+1) 0),(3,.ref (n+3) 0)]⟩:Env)) (O':=(Zt O n [none,some ⟨false,29,3,1,[(vI 0),nV,nV]⟩,some (oR 68 1 (eI .u64) z6.1),some ⟨false,29,3,1,[(vI 1),.row (n+2) z6.1.length,.row (n+8) ([y262,y263]:List Za).length]⟩,none,none,none,none,some (oR 29 3 Zb ([y262,y263]:List Za))])) (n':=(n+9)) (Fit2.of (Z5 hU rfl rfl ?_) (by omega)) ?_
   ·exact zSe
   refine Vs (k:=9) (k':=11) hU [10,1,2,3,10,10,10,10,9] [0,1,2,3,0,0,0,0,0,8,0] rfl rfl rfl rfl ⟨rfl,rfl⟩ ?_
   exact zSe
  replace hz1:=Zn c274 hz1
  refine Ze ?_
  refine zQd [1,2,3,4,9] [1,2,3,4,9] [true,true,true,true] ?_
  refine Zjg (E':=(⟨146,[],[(1,.ref n 0),(2,.ref (n+1) 0),(3,.ref (n+3) 0),(4,.row (n+4) ([]:List Za).length),(9,(vI 0))]⟩:Env)) (O':=(Zt O n [some ⟨false,86,11,1,(Zc a0)⟩,some ⟨false,29,3,1,[(vI 0),nV,nV]⟩,some (oR 68 1 (eI .u64) ([(IntKind.u64.wrap (IntKind.i64.wrap (a0.Kind+(IntKind.i64.wrap (256 * a0.List_)))))]:List Int)),some ⟨false,29,3,1,[(vI 1),.row (n+2) ([(IntKind.u64.wrap (IntKind.i64.wrap (a0.Kind+(IntKind.i64.wrap (256 * a0.List_)))))]:List Int).length,nV]⟩,some (oR 29 3 Zb ([]:List Za)),none])) (n':=(n+6)) ?_ ?_
  ·refine Fit2.trans (E':=(⟨146,[],[(1,.ref n 0),(2,.ref (n+1) 0),(3,.ref (n+3) 0),(4,nV),(9,(vI 0))]⟩:Env)) (O':=(Zt O n [some ⟨false,86,11,1,(Zc a0)⟩,some ⟨false,29,3,1,[(vI 0),nV,nV]⟩,some (oR 68 1 (eI .u64) ([(IntKind.u64.wrap (IntKind.i64.wrap (a0.Kind+(IntKind.i64.wrap (256 * a0.List_)))))]:List Int)),some ⟨false,29,3,1,[(vI 1),.row (n+2) ([(IntKind.u64.wrap (IntKind.i64.wrap (a0.Kind+(IntKind.i64.wrap (256 * a0.List_)))))]:List Int).length,nV]⟩])) (n':=(n+4)) (Fit2.of (Z5 hU rfl rfl ?_) (by omega)) ?_
   ·exact zSe
   refine Fit2.trans (Ze8 4 29 3 rfl (by omega)) ?_
   simp only [Uq,Uh,Zbc,Gy,List.set_cons_zero,List.set_cons_succ,List.cons_append,List.nil_append,List.length_cons,List.length_nil,Nat.zero_add,Nat.reduceAdd,Nat.reduceLT,Nat.add_assoc]
   refine Fit2.trans (E':=(⟨146,[],[(1,.ref n 0),(2,.ref (n+1) 0),(3,.ref (n+3) 0),(4,.row (n+4) ([]:List Za).length),(9,(vI 0))]⟩:Env)) (O':=(Zt O n [some ⟨false,86,11,1,(Zc a0)⟩,some ⟨false,29,3,1,[(vI 0),nV,nV]⟩,some (oR 68 1 (eI .u64) ([(IntKind.u64.wrap (IntKind.i64.wrap (a0.Kind+(IntKind.i64.wrap (256 * a0.List_)))))]:List Int)),some ⟨false,29,3,1,[(vI 1),.row (n+2) ([(IntKind.u64.wrap (IntKind.i64.wrap (a0.Kind+(IntKind.i64.wrap (256 * a0.List_)))))]:List Int).length,nV]⟩,some (oR 29 3 Zb ([]:List Za))])) (n':=(n+5)) (Fit2.of (Z5 hU rfl rfl ?_) (by omega)) ?_
   ·exact zSe
   refine Vs (k:=5) (k':=6) hU [0,1,2,3,4] [0,1,2,3,4,0] rfl rfl rfl rfl ⟨rfl,rfl⟩ ?_
   exact zSe
  obtain ⟨z272,hz272,hz1⟩:=bC hz1
  refine Z9 (E':=⟨146,[],[(2,.ref (n+1) 0),(3,.ref (n+3) 0),(4,.row (n+4) z272.2.length)]⟩) (O':=(Zt O n [none,some ⟨false,29,3,1,[(vI 0),nV,nV]⟩,some (oR 68 1 (eI .u64) z272.1),some ⟨false,29,3,1,[(vI 1),.row (n+2) z272.1.length,nV]⟩,some (oR 29 3 Zb z272.2),none])) (n0:=(n+6)) ?_ ?_
  ·refine Ym hz272 (fun s2_=>⟨146,[],[(1,.ref n 0),(2,.ref (n+1) 0),(3,.ref (n+3) 0),(4,.row (n+4) s2_.2.2.length),(9,(vI s2_.1))]⟩) (fun s2_=>(Zt O n [some ⟨false,86,11,1,(Zc a0)⟩,some ⟨false,29,3,1,[(vI 0),nV,nV]⟩,some (oR 68 1 (eI .u64) s2_.2.1),some ⟨false,29,3,1,[(vI 1),.row (n+2) s2_.2.1.length,nV]⟩,some (oR 29 3 Zb s2_.2.2),none])) (fun z272=>JX 1 n (⟨146,[],[(2,.ref (n+1) 0),(3,.ref (n+3) 0),(4,.row (n+4) z272.2.length)]⟩:Env) (Zt O n [none,some ⟨false,29,3,1,[(vI 0),nV,nV]⟩,some (oR 68 1 (eI .u64) z272.1),some ⟨false,29,3,1,[(vI 1),.row (n+2) z272.1.length,nV]⟩,some (oR 29 3 Zb z272.2),none]) (n+6)) ?_
   intro s2_ x2_ hs2_
   unfold Q4 at hs2_
   try dsimp only
   refine Ze ?_
   refine zQ [1,2,3,4,9,27] ?_
   refine Zl (t:=(decide (s2_.1 < (a0.Ops.length:Int)))) rfl (fun c271 => ?_) (fun c271 => ?_)
   ·replace hs2_:=Zo c271 hs2_
    refine Ve [1,2,3,4,9] [true,true,true,true,true,false] ?_
    refine Ze ?_
    refine Z6 ?_
    refine Ze ?_
    obtain ⟨x265,hx265,ax265,bx265,cx265,hs2_⟩:=bE (f:=Zk) Zcz (fun _=>rfl) (by decide) hs2_
    refine Gn [] ax265 bx265 cx265 ?_
    refine zDs [1,2,3,4,9,10] [true,true,true,true,true,false,true] ?_
    refine zR ?_
    refine Zbi ⟨146,[],[(1,.ref n 0),(2,.ref (n+1) 0),(3,.ref (n+3) 0),(4,.row (n+4) s2_.2.2.length),(9,(vI s2_.1)),(10,.ref (n+6) 0),(11,.ref (n+8) 0)]⟩ (Zt O n [some ⟨false,86,11,1,(Zc a0)⟩,some ⟨false,29,3,1,[(vI 0),nV,nV]⟩,some (oR 68 1 (eI .u64) s2_.2.1),some ⟨false,29,3,1,[(vI 1),.row (n+2) s2_.2.1.length,nV]⟩,some (oR 29 3 Zb s2_.2.2),none,some ⟨false,148,14,1,(Jd x265)⟩,some (oR 68 1 (eI .u64) ([(IntKind.u64.wrap (IntKind.i64.wrap (x265.Kind+(IntKind.i64.wrap (256 * x265.N)))))]:List Int)),some ⟨false,29,3,1,[(vI 1),.row (n+7) ([(IntKind.u64.wrap (IntKind.i64.wrap (x265.Kind+(IntKind.i64.wrap (256 * x265.N)))))]:List Int).length,nV]⟩]) (Z5 hU rfl rfl ?_) ?_
    ·exact zSe
    obtain ⟨z266,hz266,hs2_⟩:=bC hs2_
    refine Xd (E':=⟨146,[],[(1,.ref n 0),(2,.ref (n+1) 0),(3,.ref (n+3) 0),(4,.row (n+4) s2_.2.2.length),(9,(vI s2_.1)),(11,.ref (n+8) 0)]⟩) (O':=(Zt O n [some ⟨false,86,11,1,(Zc a0)⟩,some ⟨false,29,3,1,[(vI 0),nV,nV]⟩,some (oR 68 1 (eI .u64) s2_.2.1),some ⟨false,29,3,1,[(vI 1),.row (n+2) s2_.2.1.length,nV]⟩,some (oR 29 3 Zb s2_.2.2),none,none,some (oR 68 1 (eI .u64) z266.1),some ⟨false,29,3,1,[(vI 1),.row (n+7) z266.1.length,.row (n+10) z266.2.length]⟩,none,some (oR 29 3 Zb z266.2),none])) (n0:=(n+12)) ?_ ?_
    ·refine zQ [1,2,3,4,9,10,11,46] ?_
     refine Zl (t:=(x265.Kind == 3)) rfl (fun c269 => ?_) (fun c269 => ?_)
     ·replace hz266:=Zo c269 hz266
      obtain ⟨y267,hy267,hz266⟩:=bC hz266
      refine zC (Vj hy267) ?_
      have hz266:=Option.some.inj hz266;subst hz266
      refine And.intro rfl ?_
      refine Fit2.trans (E':=(⟨146,[],[(1,.ref n 0),(2,.ref (n+1) 0),(3,.ref (n+3) 0),(4,.row (n+4) s2_.2.2.length),(9,(vI s2_.1)),(11,.ref (n+8) 0)]⟩:Env)) (O':=(Zt O n [some ⟨false,86,11,1,(Zc a0)⟩,some ⟨false,29,3,1,[(vI 0),nV,nV]⟩,some (oR 68 1 (eI .u64) s2_.2.1),some ⟨false,29,3,1,[(vI 1),.row (n+2) s2_.2.1.length,nV]⟩,some (oR 29 3 Zb s2_.2.2),none,none,some (oR 68 1 (eI .u64) ([(IntKind.u64.wrap (IntKind.i64.wrap (x265.Kind+(IntKind.i64.wrap (256 * x265.N)))))]:List Int)),some ⟨false,29,3,1,[(vI 1),.row (n+7) ([(IntKind.u64.wrap (IntKind.i64.wrap (x265.Kind+(IntKind.i64.wrap (256 * x265.N)))))]:List Int).length,.row (n+9) ([y267]:List Za).length]⟩,some (oR 29 3 Zb ([y267]:List Za))])) (n':=(n+10)) (Fit2.of (Z5 hU rfl rfl ?_) (by omega)) ?_
      ·exact zSe
      refine Vs (k:=10) (k':=12) hU [0,1,2,3,4,11,11,7,8,10] [0,1,2,3,4,0,0,7,8,0,9,0] rfl rfl rfl rfl ⟨rfl,rfl⟩ ?_
      exact zSe
     replace hz266:=Zn c269 hz266
     refine zQ [1,2,3,4,9,10,11,54] ?_
     refine Zl (t:=(decide (0 < x265.Kind))) rfl (fun c268 => ?_) (fun c268 => ?_)
     ·replace hz266:=Zo c268 hz266
      refine zR ?_
      have hz266:=Option.some.inj hz266;subst hz266
      refine And.intro rfl ?_
      refine Fit2.trans (E':=(⟨146,[],[(1,.ref n 0),(2,.ref (n+1) 0),(3,.ref (n+3) 0),(4,.row (n+4) s2_.2.2.length),(9,(vI s2_.1)),(11,.ref (n+8) 0)]⟩:Env)) (O':=(Zt O n [some ⟨false,86,11,1,(Zc a0)⟩,some ⟨false,29,3,1,[(vI 0),nV,nV]⟩,some (oR 68 1 (eI .u64) s2_.2.1),some ⟨false,29,3,1,[(vI 1),.row (n+2) s2_.2.1.length,nV]⟩,some (oR 29 3 Zb s2_.2.2),none,none,some (oR 68 1 (eI .u64) ([(IntKind.u64.wrap (IntKind.i64.wrap (x265.Kind+(IntKind.i64.wrap (256 * x265.N)))))]:List Int)),some ⟨false,29,3,1,[(vI 1),.row (n+7) ([(IntKind.u64.wrap (IntKind.i64.wrap (x265.Kind+(IntKind.i64.wrap (256 * x265.N)))))]:List Int).length,.row (n+9) ([(⟨a0.List_,([]:(List Int)),x265.L⟩:Za)]:List Za).length]⟩,some (oR 29 3 Zb ([(⟨a0.List_,([]:(List Int)),x265.L⟩:Za)]:List Za))])) (n':=(n+10)) (Fit2.of (Z5 hU rfl rfl ?_) (by omega)) ?_
      ·exact zSe
      refine Vs (k:=10) (k':=12) hU [0,1,2,3,4,11,11,7,8,10] [0,1,2,3,4,0,0,7,8,0,9,0] rfl rfl rfl rfl ⟨rfl,rfl⟩ ?_
      exact zSe
     replace hz266:=Zn c268 hz266
     refine zK ?_
     have hz266:=Option.some.inj hz266;subst hz266
     refine And.intro rfl ?_
     refine Fit2.trans (E':=(⟨146,[],[(1,.ref n 0),(2,.ref (n+1) 0),(3,.ref (n+3) 0),(4,.row (n+4) s2_.2.2.length),(9,(vI s2_.1)),(11,.ref (n+8) 0)]⟩:Env)) (O':=(Zt O n [some ⟨false,86,11,1,(Zc a0)⟩,some ⟨false,29,3,1,[(vI 0),nV,nV]⟩,some (oR 68 1 (eI .u64) s2_.2.1),some ⟨false,29,3,1,[(vI 1),.row (n+2) s2_.2.1.length,nV]⟩,some (oR 29 3 Zb s2_.2.2),none,none,some (oR 68 1 (eI .u64) ([(IntKind.u64.wrap (IntKind.i64.wrap (x265.Kind+(IntKind.i64.wrap (256 * x265.N)))))]:List Int)),some ⟨false,29,3,1,[(vI 1),.row (n+7) ([(IntKind.u64.wrap (IntKind.i64.wrap (x265.Kind+(IntKind.i64.wrap (256 * x265.N)))))]:List Int).length,nV]⟩])) (n':=(n+9)) (Fit2.of (Z5 hU rfl rfl ?_) (by omega)) ?_
     ·exact zSe
     refine Fit2.trans (Zjh (p:=(n+8)) (k:=2) (q:=⟨false,29,3,1,[(vI 1),.row (n+7) ([(IntKind.u64.wrap (IntKind.i64.wrap (x265.Kind+(IntKind.i64.wrap (256 * x265.N)))))]:List Int).length,nV]⟩) 29 3 (by simp only [Zdp,Zi4,List.getElem?_cons_zero,List.getElem?_cons_succ,Option.join_some,List.length_nil,Qe]) rfl (by omega)) ?_
     simp only [Uq,Uh,Zbc,Gy,List.set_cons_zero,List.set_cons_succ,List.cons_append,List.nil_append,List.length_cons,List.length_nil,Nat.zero_add,Nat.reduceAdd,Nat.reduceLT,Nat.add_assoc]
     refine Vs (k:=10) (k':=12) hU [0,1,2,3,4,11,11,7,8,10] [0,1,2,3,4,0,0,7,8,0,9,0] rfl rfl rfl rfl ⟨rfl,rfl⟩ ?_
     exact zSe
    refine Zbi ⟨146,[],[(1,.ref n 0),(2,.ref (n+1) 0),(3,.ref (n+3) 0),(4,.row (n+4) s2_.2.2.length),(9,(vI s2_.1)),(11,.ref (n+8) 0)]⟩ (Zt O n [some ⟨false,86,11,1,(Zc a0)⟩,some ⟨false,29,3,1,[(vI 0),nV,nV]⟩,some (oR 68 1 (eI .u64) s2_.2.1),some ⟨false,29,3,1,[(vI 1),.row (n+2) s2_.2.1.length,nV]⟩,some (oR 29 3 Zb s2_.2.2),none,none,none,some ⟨false,29,3,1,[(vI 1),(sL (eI .u64) z266.1),(sL Zb z266.2)]⟩,none,none,none]) (Z5 hU rfl rfl ?_) ?_
    ·exact zSe
    obtain ⟨l270,pl270,ql270,el270,hs2_⟩:=bA (k:=1) rfl hs2_
    refine Zdo [] pl270 ql270 el270 ?_
    refine Zbi ⟨146,[],[(1,.ref n 0),(2,.ref (n+1) 0),(3,.ref (n+3) 0),(4,.row (n+4) l270.length),(9,(vI s2_.1))]⟩ (Zt O n [some ⟨false,86,11,1,(Zc a0)⟩,some ⟨false,29,3,1,[(vI 0),nV,nV]⟩,some (oR 68 1 (eI .u64) s2_.2.1),some ⟨false,29,3,1,[(vI 1),.row (n+2) s2_.2.1.length,nV]⟩,some (oR 29 3 Zb l270),none,none,none,none,none,none,none,none]) (Z5 hU rfl rfl ?_) ?_
    ·exact Z1s pl270 ql270 el270
    refine zR ?_
    exact Ky hs2_
   replace hs2_:=Zn c271 hs2_
   exact zEx hs2_
  try simp only [Yt,Z4,↓reduceIte,Nat.reduceEqDiff]
  refine zD [2,3,4] [false,true,true,true,true,false] ?_
  refine Zbi ⟨146,[],[(2,.ref (n+1) 0),(3,.ref (n+3) 0),(4,(sL Zb z272.2))]⟩ (Zt O n [none,some ⟨false,29,3,1,[(vI 0),nV,nV]⟩,some (oR 68 1 (eI .u64) z272.1),some ⟨false,29,3,1,[(vI 1),.row (n+2) z272.1.length,nV]⟩,none,none]) (Z5 hU rfl rfl ?_) ?_
  ·exact zSe
  obtain ⟨y273,hy273,hz1⟩:=bC hz1
  refine zC (U5 hy273) ?_
  have hz1:=Option.some.inj hz1;subst hz1
  refine And.intro rfl ?_
  refine Fit2.trans (E':=(⟨146,[],[(2,.ref (n+1) 0),(3,.ref (n+3) 0)]⟩:Env)) (O':=(Zt O n [none,some ⟨false,29,3,1,[(vI 0),nV,nV]⟩,some (oR 68 1 (eI .u64) z272.1),some ⟨false,29,3,1,[(vI 1),.row (n+2) z272.1.length,.row (n+6) ([y273]:List Za).length]⟩,none,none,some (oR 29 3 Zb ([y273]:List Za))])) (n':=(n+7)) (Fit2.of (Z5 hU rfl rfl ?_) (by omega)) ?_
  ·exact zSe
  refine Vs (k:=7) (k':=11) hU [10,1,2,3,10,10,9] [0,1,2,3,0,0,0,0,0,6,0] rfl rfl rfl rfl ⟨rfl,rfl⟩ ?_
  exact zSe
 rcases z1 with z1 | z1
 ·dsimp only [Vn] at hw h
  refine Xd hw ?_
  refine Ze ?_
  refine zRd [2] [false,true,true,false,false,false,false,false,false,true,false] ?_
  exact Yw [.agg [(vI 1),.row (n+2) z1.1.length,.row (n+9) z1.2.length]]
 dsimp only [Vn] at hw h
 refine Zwo hw ?_
 try simp only [Yt,Z4]
 exact Zoc [.agg [(vI 0),nV,nV]]
theorem Zeg:∀ k,(Zag (X2 k)):=fun k=>by
 induction k with
 | zero=>exact @fun a0 r O n h=>(nomatch (show (none:Option _)=some _ from h))
 | succ k ih=>exact @fun a0 r O n h=>Zfp (ih)  h
theorem Zga {a0:Zd} {r:Za} {O:Objs} {n:Nat} (h:U1 a0=some r):GTo Try.prog 56 [.agg (Zc a0)] O n (.agg (Zg r)) O n:=by
 obtain ⟨k,hk⟩:=Vg h
 exact (Zeg k)  hk
theorem Zf7 {a0:(List Int)} {r:(List Int)} {O:Objs} {n:Nat} (h:J7 a0=some r):GTo Try.prog 68 [(sL (eI .u64) a0)] O n ((sL (eI .u64) r)) O n:=by
 unfold J7 at h
 refine zFn Try.call68 Try.func68 fun hU hN0 hN => ?_
 show W _ _ _ _ ⟨24,[],[(0,(sL (eI .u64) a0))]⟩ (Zt O n []) _
 refine zQ [0] ?_
 refine zQ [0,3] ?_
 refine Ze ?_
 refine zD [0,3] [] ?_
 obtain ⟨z7,hz7,h⟩:=bC h
 refine Z9 (E':=⟨24,[],[(0,(sL (eI .u64) a0)),(3,(vI z7))]⟩) (O':=(Zt O n [])) (n0:=n) ?_ ?_
 ·refine Ym hz7 (fun s0_=>⟨24,[],[(0,(sL (eI .u64) a0)),(3,(vI s0_))]⟩) (fun s0_=>(Zt O n [])) (fun z7=>JX 0 n (⟨24,[],[(0,(sL (eI .u64) a0)),(3,(vI z7))]⟩:Env) (Zt O n []) n) ?_
  intro s0_ x0_ hs0_
  unfold Q6 at hs0_
  try dsimp only
  refine Ze ?_
  obtain ⟨z2,hz2,hs0_⟩:=bC hs0_
  refine Xd (E':=⟨24,[],[(0,(sL (eI .u64) a0)),(3,(vI s0_)),(16,(vB z2))]⟩) (O':=(Zt O n [])) (n0:=n) ?_ ?_
  ·rcases Bool.eq_false_or_eq_true (decide (0 < s0_)) with c5 | c5
   ·replace hz2:=Zo c5 hz2
    obtain ⟨x4,hx4,ax4,bx4,cx4,hz2⟩:=bE (f:=(eI .u64)) Zir (fun _=>rfl) (by decide) hz2
    refine Zhg [some true,some true,some true,some true,some true,some true] c5 ax4 bx4 cx4 ?_
    exact Zrx hz2 c5 ax4 bx4 cx4
   replace hz2:=Zn c5 hz2
   refine Zbb [some false,some false,some false,some false,some false,some false] c5 ?_
   exact Ge hz2 c5
  refine Zl (t:=z2) rfl (fun c6 => ?_) (fun c6 => ?_)
  ·replace hs0_:=Zo c6 hs0_
   refine Ve [0,3] [] ?_
   refine Z6 ?_
   refine zR ?_
   exact Ky hs0_
  replace hs0_:=Zn c6 hs0_
  exact zEx hs0_
 try simp only [Yt,Z4,↓reduceIte,Nat.reduceEqDiff]
 refine zD [0,3] [] ?_
 refine zQ [0,3,4] ?_
 refine Ze ?_
 obtain ⟨l10,al10,bl10,cl10,gl10,h⟩:=bS (lo:=none) (hi:=(some (.i64,z7))) (f:=(eI .u64)) rfl rfl Zjd Zir (fun _=>rfl) h
 obtain ⟨l11,pl11,ql11,el11,h⟩:=bA0 (k:=l10.length) rfl h
 refine Z6i [] al10 bl10 cl10 gl10 pl11 ql11 el11 ?_
 refine Zbi ⟨24,[],[(2,.row n l11.length)]⟩ (Zt O n [some (oR 68 1 (eI .u64) l11)]) (Z5 hU rfl rfl ?_) ?_
 ·simp only [push_cast,seval,↓reduceIte,Zq,al10,bl10,cl10,gl10,pl11,ql11,el11,hN0,hN]
 exact Yw [.row n l11.length]
def Zad (Xu:(Za→Option Za)):Prop:=∀ {a0:Za} {r:Za} {O:Objs} {n:Nat},Xu a0=some r→GTo Try.prog 25 [.agg (Zg a0)] O n (.agg (Zg r)) O n
theorem Zfm {Xu:(Za→Option Za)} (Zes:Zad Xu) {a0:Za} {r:Za} {O:Objs} {n:Nat} (h:J0 Xu a0=some r):GTo Try.prog 25 [.agg (Zg a0)] O n (.agg (Zg r)) O n:=by
 unfold J0 at h
 refine zFn Try.call25 Try.func25 fun hU hN0 hN => ?_
 show W _ _ _ _ ⟨53,[],[(0,.agg (Zg a0))]⟩ (Zt O n []) _
 refine zQ [1,2] ?_
 refine Ze ?_
 refine zQ [1,2,10] ?_
 refine Zl (t:=(a0.Kind == 0)) rfl (fun c19 => ?_) (fun c19 => ?_)
 ·replace h:=Zo c19 h
  refine Ze ?_
  refine zRd [2] [false,true] ?_
  exact Yw [.agg [(vI 0),nV,nV]]
 replace h:=Zn c19 h
 refine Ve [1,2] [true,true] ?_
 refine zQ [1,2,3] ?_
 refine zQ [1,2,3,4] ?_
 refine Ze ?_
 refine zQd [1,2,3,4,5] [1,2,3,4,5] [true,true] ?_
 refine Zjg (E':=(⟨53,[],[(1,.ref n 0),(2,.ref (n+1) 0),(3,.row (n+2) ([]:List Za).length),(4,(vI 0)),(5,(vI 0))]⟩:Env)) (O':=(Zt O n [some ⟨false,29,3,1,(Zg a0)⟩,some ⟨false,29,3,1,[(vI 0),nV,nV]⟩,some (oR 29 3 Zb ([]:List Za)),none])) (n':=(n+4)) ?_ ?_
 ·refine Fit2.trans (E':=(⟨53,[],[(1,.ref n 0),(2,.ref (n+1) 0),(3,nV),(4,(vI 0)),(5,(vI 0))]⟩:Env)) (O':=(Zt O n [some ⟨false,29,3,1,(Zg a0)⟩,some ⟨false,29,3,1,[(vI 0),nV,nV]⟩])) (n':=(n+2)) (Fit2.of (Z5 hU rfl rfl ?_) (by omega)) ?_
  ·exact zSe
  refine Fit2.trans (Ze8 3 29 3 rfl (by omega)) ?_
  simp only [Uq,Uh,Zbc,Gy,List.set_cons_zero,List.set_cons_succ,List.cons_append,List.nil_append,List.length_cons,List.length_nil,Nat.zero_add,Nat.reduceAdd,Nat.reduceLT,Nat.add_assoc]
  refine Fit2.trans (E':=(⟨53,[],[(1,.ref n 0),(2,.ref (n+1) 0),(3,.row (n+2) ([]:List Za).length),(4,(vI 0)),(5,(vI 0))]⟩:Env)) (O':=(Zt O n [some ⟨false,29,3,1,(Zg a0)⟩,some ⟨false,29,3,1,[(vI 0),nV,nV]⟩,some (oR 29 3 Zb ([]:List Za))])) (n':=(n+3)) (Fit2.of (Z5 hU rfl rfl ?_) (by omega)) ?_
  ·exact zSe
  refine Vs (k:=3) (k':=4) hU [0,1,2] [0,1,2,0] rfl rfl rfl rfl ⟨rfl,rfl⟩ ?_
  exact zSe
 obtain ⟨z10,hz10,h⟩:=bC h
 refine Z9 (E':=⟨53,[],[(1,.ref n 0),(2,.ref (n+1) 0),(3,.row (n+2) z10.2.length),(4,(vI z10.1))]⟩) (O':=(Zt O n [some ⟨false,29,3,1,(Zg a0)⟩,some ⟨false,29,3,1,[(vI 0),nV,nV]⟩,some (oR 29 3 Zb z10.2),none])) (n0:=(n+4)) ?_ ?_
 ·refine Ym hz10 (fun s0_=>⟨53,[],[(1,.ref n 0),(2,.ref (n+1) 0),(3,.row (n+2) s0_.2.2.length),(4,(vI s0_.1)),(5,(vI s0_.2.1))]⟩) (fun s0_=>(Zt O n [some ⟨false,29,3,1,(Zg a0)⟩,some ⟨false,29,3,1,[(vI 0),nV,nV]⟩,some (oR 29 3 Zb s0_.2.2),none])) (fun z10=>JX 0 n (⟨53,[],[(1,.ref n 0),(2,.ref (n+1) 0),(3,.row (n+2) z10.2.length),(4,(vI z10.1))]⟩:Env) (Zt O n [some ⟨false,29,3,1,(Zg a0)⟩,some ⟨false,29,3,1,[(vI 0),nV,nV]⟩,some (oR 29 3 Zb z10.2),none]) (n+4)) ?_
  intro s0_ x0_ hs0_
  unfold Xi at hs0_
  try dsimp only
  refine Ze ?_
  refine zQ [1,2,3,4,5,16] ?_
  refine Zl (t:=(decide (s0_.2.1 < (a0.Kids.length:Int)))) rfl (fun c9 => ?_) (fun c9 => ?_)
  ·replace hs0_:=Zo c9 hs0_
   refine Ve [1,2,3,4,5] [true,true,true,false] ?_
   obtain ⟨z1,hz1,hs0_⟩:=bC hs0_
   refine Xd (E':=⟨53,[],[(1,.ref n 0),(2,.ref (n+1) 0),(3,.row (n+2) z1.2.length),(4,(vI z1.1)),(5,(vI s0_.2.1))]⟩) (O':=(Zt O n [some ⟨false,29,3,1,(Zg a0)⟩,some ⟨false,29,3,1,[(vI 0),nV,nV]⟩,some (oR 29 3 Zb z1.2),none,none,none])) (n0:=(n+6)) ?_ ?_
   ·refine Z6 ?_
    refine Ze ?_
    obtain ⟨x4,hx4,ax4,bx4,cx4,hz1⟩:=bE (f:=Zb) Vl (fun _=>rfl) (by decide) hz1
    obtain ⟨y5,hy5,hz1⟩:=bC hz1
    refine Gn [] ax4 bx4 cx4 ?_
    refine (Zes hy5).then ?_
    refine zF3 ax4 bx4 cx4 ?_
    refine zDs [1,2,3,4,5,6] [true,true,true,false,true] ?_
    obtain ⟨l7,pl7,ql7,el7,hz1⟩:=bA (k:=1) rfl hz1
    refine Zdo [] pl7 ql7 el7 ?_
    refine Zbi ⟨53,[],[(1,.ref n 0),(2,.ref (n+1) 0),(3,.row (n+2) l7.length),(4,(vI s0_.1)),(5,(vI s0_.2.1)),(6,.ref (n+4) 0)]⟩ (Zt O n [some ⟨false,29,3,1,(Zg a0)⟩,some ⟨false,29,3,1,[(vI 0),nV,nV]⟩,some (oR 29 3 Zb l7),none,some ⟨false,29,3,1,(Zg y5)⟩,none]) (Z5 hU rfl rfl ?_) ?_
    ·exact Z1s pl7 ql7 el7
    refine zQ [1,2,3,4,5,31] ?_
    refine Zl (t:=(y5.Kind != 0)) rfl (fun c8 => ?_) (fun c8 => ?_)
    ·replace hz1:=Zo c8 hz1
     refine zR ?_
     exact Ky hz1
    replace hz1:=Zn c8 hz1
    refine zK ?_
    exact Ky hz1
   refine zR ?_
   exact Ky hs0_
  replace hs0_:=Zn c9 hs0_
  exact zEx hs0_
 try simp only [Yt,Z4,↓reduceIte,Nat.reduceEqDiff]
 refine zDs [1,2,3,4] [true,true,true,false] ?_
 refine zQ [1,2,3,4,36] ?_
 refine Zl (t:=(a0.Kind == 1)) rfl (fun c18 => ?_) (fun c18 => ?_)
 ·replace h:=Zo c18 h
  refine Zbi ⟨53,[],[(1,.ref n 0),(2,.ref (n+1) 0),(3,(sL Zb z10.2)),(4,(vI z10.1))]⟩ (Zt O n [some ⟨false,29,3,1,(Zg a0)⟩,some ⟨false,29,3,1,[(vI 0),nV,nV]⟩,none,none]) (Z5 hU rfl rfl ?_) ?_
  ·exact zSe
  refine Ze ?_
  obtain ⟨y14,hy14,h⟩:=bC h
  obtain ⟨l15,al15,bl15,cl15,gl15,h⟩:=bS (lo:=none) (hi:=(some (.i64,z10.1))) (f:=Zb) rfl rfl Zhe Vl (fun _=>rfl) h
  refine Zgh Yd (by kernel_rfl) [false,false,false,false,false,false,false,true] [] (by kernel_rfl) ?_
  refine zX4 al15 bl15 cl15 gl15 ?_
  refine PCall.of (Zf7 hy14) ?_
  refine zX4 al15 bl15 cl15 gl15 ?_
  refine zD [2] [false,true,false,false] ?_
  exact Yw [.agg [(vI 1),(sL (eI .u64) y14),(sL Zb l15)]]
 replace h:=Zn c18 h
 refine Ve [1,2,3] [true,true,true,false] ?_
 refine zQ [1,2,3,7] ?_
 refine Ze ?_
 obtain ⟨l17,pl17,ql17,el17,h⟩:=bA0 (k:=a0.Words.length) rfl h
 refine Zdo [] pl17 ql17 el17 ?_
 refine Zbi ⟨53,[],[(1,.ref n 0),(2,.ref (n+1) 0),(3,.row (n+2) z10.2.length),(7,.row (n+4) l17.length)]⟩ (Zt O n [some ⟨false,29,3,1,(Zg a0)⟩,some ⟨false,29,3,1,[(vI 0),nV,nV]⟩,some (oR 29 3 Zb z10.2),none,some (oR 68 1 (eI .u64) l17)]) (Z5 hU rfl rfl ?_) ?_
 ·exact Z1s pl17 ql17 el17
 refine Ze ?_
 refine zRd [2] [false,true,true,false,true] ?_
 exact Yw [.agg [(vI a0.Kind),.row (n+4) l17.length,.row (n+2) z10.2.length]]
theorem Zed:∀ k,(Zad (Yu k)):=fun k=>by
 induction k with
 | zero=>exact @fun a0 r O n h=>(nomatch (show (none:Option _)=some _ from h))
 | succ k ih=>exact @fun a0 r O n h=>Zfm (ih)  h
theorem Zbv {a0:Za} {r:Za} {O:Objs} {n:Nat} (h:Uz a0=some r):GTo Try.prog 25 [.agg (Zg a0)] O n (.agg (Zg r)) O n:=by
 obtain ⟨k,hk⟩:=Vg h
 exact (Zed k)  hk
theorem Zf6 {a0:Int} {a1:Int} {r:Int} {O:Objs} {n:Nat} (h:J6 a0 a1=some r):GTo Try.prog 69 [(vI a0),(vI a1)] O n ((vI r)) O n:=by
 unfold J6 at h
 refine zFn Try.call69 Try.func69 fun hU hN0 hN => ?_
 show W _ _ _ _ ⟨31,[],[(0,(vI a0)),(1,(vI a1))]⟩ (Zt O n []) _
 refine zQ [0,1] ?_
 refine Ze ?_
 refine Ze ?_
 obtain ⟨y2,hy2,h⟩:=bC h
 refine zRo [none,none,none,none] ?_
 refine zG ?_
 refine zTs (Vw hy2) ?_
 refine zG ?_
 refine zD [0,1,16] [] ?_
 refine Zl (t:=(cond (cond (decide (y2 < 1)) true (decide (a1 < 0))) true (decide (1099511627776 < a1)))) rfl (fun c14 => ?_) (fun c14 => ?_)
 ·replace h:=Zo c14 h
  refine zQ [4] ?_
  exact Yw [(vI 0)]
 replace h:=Zn c14 h
 refine Ve [0,1] [] ?_
 refine Ze ?_
 obtain ⟨y5,hy5,h⟩:=bC h
 obtain ⟨pu6,h⟩:=bG h
 refine Yb Yd [] ?_
 simp only [push_cast,seval,↓reduceIte,Zq,pu6,hN0,hN]
 refine (Vw hy5).then ?_
 simp only [push_cast,seval,↓reduceIte,Zq,pu6,hN0,hN]
 refine zDs [1,5] [] ?_
 obtain ⟨pu8,h⟩:=bG h
 refine Zgi [1,5,23] (Yb Yd [] ?_)
 simp only [push_cast,seval,↓reduceIte,Zq,pu8,hN0,hN]
 refine Zl (t:=(decide (0 < (Int.tmod a1 (IntKind.i64.wrap (Int.tdiv 64 y5)))))) rfl (fun c13 => ?_) (fun c13 => ?_)
 ·replace h:=Zo c13 h
  obtain ⟨pu10,h⟩:=bG h
  refine Zgi [4] (Yb Yd [] ?_)
  simp only [push_cast,seval,↓reduceIte,Zq,pu10,hN0,hN]
  exact Yw [(vI (IntKind.i64.wrap ((IntKind.i64.wrap (Int.tdiv a1 (IntKind.i64.wrap (Int.tdiv 64 y5))))+1)))]
 replace h:=Zn c13 h
 refine Ve [1,5] [] ?_
 obtain ⟨pu12,h⟩:=bG h
 refine Zgi [4] (Yb Yd [] ?_)
 simp only [push_cast,seval,↓reduceIte,Zq,pu12,hN0,hN]
 exact Yw [(vI (IntKind.i64.wrap (Int.tdiv a1 (IntKind.i64.wrap (Int.tdiv 64 y5)))))]
theorem Zfk {a0:Za} {r:(Int×Int)} {O:Objs} {n:Nat} (h:Js a0=some r):GTo Try.prog 70 [.agg (Zg a0)] O n (.tup [(vI r.1),(vI r.2)]) O n:=by
 unfold Js at h
 refine zFn Try.call70 Try.func70 fun hU hN0 hN => ?_
 show W _ _ _ _ ⟨48,[],[(0,.agg (Zg a0))]⟩ (Zt O n []) _
 refine zQ [1] ?_
 refine zQ [1,4,5] ?_
 refine Ze ?_
 refine zQd [1,4,5,6] [1,4,5,6] [true] ?_
 obtain ⟨z18,hz18,h⟩:=bC h
 refine Z9 (E':=⟨48,[],[(4,(vI z18.1)),(5,(vI z18.2))]⟩) (O':=(Zt O n [none])) (n0:=(n+1)) ?_ ?_
 ·refine Ym hz18 (fun s0_=>⟨48,[],[(1,.ref n 0),(4,(vI s0_.1)),(5,(vI s0_.2.1)),(6,(vI s0_.2.2))]⟩) (fun s0_=>(Zt O n [some ⟨false,29,3,1,(Zg a0)⟩])) (fun z18=>JX 0 n (⟨48,[],[(4,(vI z18.1)),(5,(vI z18.2))]⟩:Env) (Zt O n [none]) (n+1)) ?_
  intro s0_ x0_ hs0_
  unfold Qo at hs0_
  try dsimp only
  refine Ze ?_
  refine zQ [1,4,5,6,11] ?_
  refine Zl (t:=(decide (s0_.2.2 < (a0.Kids.length:Int)))) rfl (fun c17 => ?_) (fun c17 => ?_)
  ·replace hs0_:=Zo c17 hs0_
   refine Ve [1,4,5,6] [true] ?_
   obtain ⟨z1,hz1,hs0_⟩:=bC hs0_
   refine Xd (E':=⟨48,[],[(1,.ref n 0),(4,(vI z1.1)),(5,(vI z1.2)),(6,(vI s0_.2.2))]⟩) (O':=(Zt O n [some ⟨false,29,3,1,(Zg a0)⟩])) (n0:=(n+1)) ?_ ?_
   ·refine Z6 ?_
    obtain ⟨z2,hz2,hz1⟩:=bC hz1
    refine Xd (E':=⟨48,[],[(1,.ref n 0),(4,(vI z2)),(5,(vI s0_.2.1)),(6,(vI s0_.2.2))]⟩) (O':=(Zt O n [some ⟨false,29,3,1,(Zg a0)⟩])) (n0:=(n+1)) ?_ ?_
    ·obtain ⟨x5,hx5,ax5,bx5,cx5,hz2⟩:=bE (f:=Zb) Vl (fun _=>rfl) (by decide) hz2
     have g6:=Q7 (f:=Zb) (off:=1) (sz:=3) Zuq (fun _=>rfl) (by decide) (by decide) hx5
     refine Zgi [1,4,5,6,22] (Yb Yd [] ?_)
     refine zF4 ax5 bx5 cx5 g6 ?_
     refine Zl (t:=(decide (s0_.1 < (x5.Words.length:Int)))) rfl (fun c9 => ?_) (fun c9 => ?_)
     ·replace hz2:=Zo c9 hz2
      obtain ⟨x7,hx7,ax7,bx7,cx7,hz2⟩:=bE (f:=Zb) Vl (fun _=>rfl) (by decide) hz2
      have g8:=Q7 (f:=Zb) (off:=1) (sz:=3) Zuq (fun _=>rfl) (by decide) (by decide) hx7
      refine Zhg [] ax7 bx7 cx7 g8 ?_
      exact Zrx hz2 ax7 bx7 cx7 g8
     replace hz2:=Zn c9 hz2
     refine zK ?_
     exact Ky hz2
    obtain ⟨x12,hx12,ax12,bx12,cx12,hz1⟩:=bE (f:=Zb) Vl (fun _=>rfl) (by decide) hz1
    have g13:=Q7 (f:=Zb) (off:=2) (sz:=3) Ziq (fun _=>rfl) (by decide) (by decide) hx12
    refine Zgi [1,4,5,6,38] (Yb Yd [] ?_)
    refine zF4 ax12 bx12 cx12 g13 ?_
    refine Zl (t:=(decide (s0_.2.1 < (x12.Kids.length:Int)))) rfl (fun c16 => ?_) (fun c16 => ?_)
    ·replace hz1:=Zo c16 hz1
     obtain ⟨x14,hx14,ax14,bx14,cx14,hz1⟩:=bE (f:=Zb) Vl (fun _=>rfl) (by decide) hz1
     have g15:=Q7 (f:=Zb) (off:=2) (sz:=3) Ziq (fun _=>rfl) (by decide) (by decide) hx14
     refine Zhg [] ax14 bx14 cx14 g15 ?_
     exact Zrx hz1 ax14 bx14 cx14 g15
    replace hz1:=Zn c16 hz1
    refine zK ?_
    exact Ky hz1
   refine zR ?_
   exact Ky hs0_
  replace hs0_:=Zn c17 hs0_
  exact zEx hs0_
 try simp only [Yt,Z4,↓reduceIte,Nat.reduceEqDiff]
 refine zD [4,5] [false] ?_
 refine zQ [2,3] ?_
 exact Yw [(vI z18.1),(vI z18.2)]
end Go.Proofs.Ytjeakjakgocoaaa
