/- Part KM4 of this seat's mirrors: functions of the seat's program, and the plain functions that they are; each theorem bears its own conditions. -/
import Derived.Test.YtjeakjakgocoaaaKD
import Derived.Test.YtjeakjakgocoaaaKM1
import Derived.IntWalk
namespace Go.Proofs.Ytjeakjakgocoaaa
open Go.RowKit
set_option linter.unusedVariables false
set_option linter.unusedSimpArgs false
set_option maxRecDepth 100000
set_option maxHeartbeats 4000000
attribute [local push_cast] Try.results13 Try.results26 vI vB nV sL oR Zc V5 Jd Zg Gp Ztl Ztk Zuc Zub Yt Z4 Zo5 Zjx Zjw onW Xf G5 Up Zl9 Znj Zmw Zm0 Zmv Zmz Zp7 Zp4 Zmy Zp6 Zp5 Zmx Zp2 Zk1 evS wok X9 Op.operands Call.operands gop onK onP atK List.all_cons List.all_nil Bool.and_true Bool.true_and Bool.and_self Value.oneCell' List.take_zero List.take_succ_cons List.take_nil List.drop_zero List.drop_succ_cons List.drop_nil List.append_nil Nat.add_zero Nat.zero_add Kk Zy ev Qm Zo0 Ztd Ztc Zti Ztg Zth Zte Ztf Ztb Zlm Znf Zr9 Zf3 Zbo Zei Zat Zl8 Zdt Zh6 Zib Zjq Zjn Zh9 Zjp Zjo Zh8 Zjl Zh7 Zia Zgk Zjm Zgt Zjz Gq Zgu Gr Zhp Zf1 Zo6 bLo bHi bMx Zbq Zhn Zv3 Zf0 Zgs Zds Ui Zo1 Zv5 Zgo Zv9 Zbm Zw9 Zpb Zpf Zpa Zpe Ztx Ztu Zts Zmc Zpc Ztw Ztv Zpd Ztt Zht Zo3 Zps Zkr Zkq pop TK.isAgg Zt5 Zua Zt4 Zt9 Zpk Zx0 Zxx Zt8 Zxz Zxy Zt6 Zxw G.under G.unders List.getD_cons_zero List.getD_cons_succ List.set_cons_zero List.set_cons_succ List.map_cons List.map_nil List.toList_toArray Array.toList_append Option.toArray_none Option.toArray_some Array.toList_map Option.map_some Option.map_none Option.bind_some Option.bind_none List.getElem?_cons_zero List.getElem?_cons_succ List.getElem?_nil List.nil_append List.cons_append List.replicate_succ List.replicate_zero List.length_cons List.length_nil and_true true_and and_false false_and Bool.true_eq_false Bool.false_eq_true forall_const false_implies implies_true IntKind.bits if_true if_false ite_true ite_false eq_self true_implies false_or or_false or_true true_or not_true_eq_false not_false_eq_true decide_true decide_false decide_eq_true_eq decide_eq_false_iff_not beq_iff_eq bne_iff_ne ne_eq Bool.not_eq_true Bool.not_eq_false beq_eq_false_iff_ne bne_eq_false_iff_eq beq_self_eq_true bne_self_eq_false Option.some.injEq exists_eq_left' exists_eq_left ge_iff_le gt_iff_lt decide_not Bool.not_true Bool.not_false imp_self Zxb cond_true cond_false Z3y Z3x Bool.not_not Bool.and_false Bool.false_and Bool.or_true Bool.true_or Bool.or_false Bool.false_or Zdp Zi4 Zbc Gy Uq Uh Option.join_some Nat.add_assoc Int.toNat_natCast eI eB eS eL Zw6 Zhr Zid Ztp Ztn Zto Zxv Z1b Zhz Zij Zui Zug Zuh Zsi Zna Zs5 Zms Zr5 Zfb Zr6 List.length_append G.agg.injEq G.row.injEq G.ref.injEq G.val.injEq G.sl.injEq G.tup.injEq Value.int.injEq Value.bool.injEq Value.string.injEq List.cons.injEq exists_and_left exists_const List.flatten_cons List.flatten_nil Int.le_refl Nat.le_refl Zrs Gx Zon Bool.not_eq_true' Bool.not_eq_false' Zvr Zlg Z0d Z0i Z0c Z0h Z2z Z2v List.size_toArray Zn1 Zpu G.ren G.rens Zsl Zh3 Zum Zs9 Zta Zp3 Z0j Zcw G.fn.injEq Zru Zrv Zvp Z2w Zrt Z0g Z2y Z2x Z0f Zxj Z1z Option.join_none Qe Kg undef Zgv Arr.len Arr.put_eq Zhy Zmi Zkn Zii Zuf Zud Zue onB Zxu Zoy Zpz Zod Zoe Zof Zog Zoh Zoi Zme Zmm Zmk Zkp Zik Zml Zpr Zpq Zpp Zpo Z1a Z3g Zsh Zpm U8 Zsf Zkc Zmn Zko Zwg Zmu Zfy Zgl Zha Zku Zoj Zok Zol Zom Zlv Zlw Zlx Zly Zlz Zl0 Zl1 Zcg prT Zec Z4b Zz3 Zzz Zz4 Z4c Zz5 Zsu Zz6 Z4d Zz7 Z4e Zz8 Z4f Zz9 Z4g Z0a Z11 Zus Z12 Zut Z13 Zuu Z14 Zuv Z15 Zuw Z16 Zux Z17 Zuy Z18 Zuz Z19 Zu0 Z2a Zu1 Z2b Zu2 Z2c Zu3 Z2d Zu4 Z2e Zu5 Zuq Zjd Ziq Zhe Z2f Zu6 Vl Zu7 Z2g Zu8 Z2h Zu9 Z2i Zva Z2j Zvb Z2k Zvc Zir Zvd Z2l Zve Z2m Zvf Z2n Zvg Z2o Zvh Z2p Zvi Z2q Zvj Zk4 Zvk Z2r Zvl Z2s Zvm Z2t Zvn Z2u Zvo Zyq Zqc Zyr Zqd Zys Zqe Zyt Zqf Zyu Zqg Zyv Zqh Zyw Zqi Zyx Zqj Zyy Zqk Zyz Zql Zy0 Zqm Zy1 Zqn Zy2 Zqo Zy3 Zqp Zy4 Zqq Zy5 Zqr Zy6 Zqs Zy7 Zqt Zy8 Zqu Zy9 Zqv Zk3 Zqw Zza Zqx Zgf Zqy Zzb Zqz Zcz Zq0 Zzc Zq1 Zst Zq2 Zzd Zq3 Zze Zq4 Zzf Zq5 Zzg Zq6 Zzh Zq7 Zzi Zq8 Zzj Zq9 Zzk Zra Zzl Zrb Zzm Zrc Zzn Zrd Zzo Zre Zzp Zrf Zzq Zrg Zzr Zrh Zzs Zri Zzt Zrj Zzu Zrk Zzv Zrl Zzw Zrm Zzx Zrn Zn8 Zk5 Zzy Zro Zb Z7 Zli Zlf Zj6 Zkl Zlk Ziv Zio Zim Zk8 Zdm Zdl Zc5 Zdc Zdn Zcq Zcn Zcm Zdk Zf Xp Zh Zk Xa Ye Xj Zaq Zap G8 Zaj Zas Gm Gl Gk Zan Za9 Za8 Za3 Za6 Zba Zao Zal Zak Za7 Ze6 Ze5 Zel Zex Ze7 Zd9 Zd6 Zd5 Ze4 Zm5 Zm4 Zmb Zmh Zm6 Zlb Zkv Zkt Zm2 Zlh Zle Zj5 Zkk Zlj Ziu Zin Zil Zk7 Zx Zcs Zcr Zci Zck Zct Zcc Zb6 Zb5 Zcp
def Zae (Yc:(Za→Option Int)):Prop:=∀ {a0:Za} {r:Int} {O:Objs} {n:Nat},Yc a0=some r→GTo Try.prog 26 [.agg (Zg a0)] O n ((vI r)) O n
theorem Zfn {Yc:(Za→Option Int)} (Zah:Zae Yc) {a0:Za} {r:Int} {O:Objs} {n:Nat} (h:J3 Yc a0=some r):GTo Try.prog 26 [.agg (Zg a0)] O n ((vI r)) O n:=by
 unfold J3 at h
 refine zFn Try.call26 Try.func26 fun hU hN0 hN => ?_
 show W _ _ _ _ ⟨101,[],[(0,.agg (Zg a0))]⟩ (Zt O n []) _
 refine zQ [1] ?_
 refine zQ [1,3] ?_
 obtain ⟨z1,hz1,h⟩:=bC h
 refine Z1u (J:=(Vn (fun z1=>JN n (⟨101,[],[(1,.ref n 0),(3,(vI z1))]⟩:Env) (Zt O n [some ⟨false,29,3,1,(Zg a0)⟩]) (n+1)) (fun z1=>JR n (⟨101,[],[(2,(vI z1))]⟩:Env) (Zt O n [none]) (n+1)))) (z:=z1) ?_ fun hw => ?_
 ·refine zQ [1,3,10] ?_
  refine Z6 ?_
  refine zQ [1,3,10,11] ?_
  refine Zl (t:=(a0.Kind == 1)) rfl (fun c27 => ?_) (fun c27 => ?_)
  ·replace hz1:=Zo c27 hz1
   refine zR ?_
   exact Ky hz1
  replace hz1:=Zn c27 hz1
  refine zQ [1,3,10,20] ?_
  refine Zl (t:=(a0.Kind == 8)) rfl (fun c26 => ?_) (fun c26 => ?_)
  ·replace hz1:=Zo c26 hz1
   refine zR ?_
   exact Ky hz1
  replace hz1:=Zn c26 hz1
  obtain ⟨z2,hz2,hz1⟩:=bC hz1
  refine Xd (E':=⟨101,[],[(1,.ref n 0),(3,(vI 0)),(10,(vI a0.Kind)),(25,(vB z2))]⟩) (O':=(Zt O n [some ⟨false,29,3,1,(Zg a0)⟩])) (n0:=(n+1)) ?_ ?_
  ·refine zQ [1,3,10,25] ?_
   refine Zl (t:=(a0.Kind == 2)) rfl (fun c7 => ?_) (fun c7 => ?_)
   ·replace hz2:=Zo c7 hz2
    refine zK ?_
    exact Ky hz2
   replace hz2:=Zn c7 hz2
   refine zQ [1,3,10,25] ?_
   refine Zl (t:=(a0.Kind == 3)) rfl (fun c6 => ?_) (fun c6 => ?_)
   ·replace hz2:=Zo c6 hz2
    refine zK ?_
    exact Ky hz2
   replace hz2:=Zn c6 hz2
   refine zQ [1,3,10,25] ?_
   refine Zl (t:=(a0.Kind == 4)) rfl (fun c5 => ?_) (fun c5 => ?_)
   ·replace hz2:=Zo c5 hz2
    refine zK ?_
    exact Ky hz2
   replace hz2:=Zn c5 hz2
   refine zQ [1,3,10,25] ?_
   refine Zl (t:=(a0.Kind == 5)) rfl (fun c4 => ?_) (fun c4 => ?_)
   ·replace hz2:=Zo c4 hz2
    refine zK ?_
    exact Ky hz2
   replace hz2:=Zn c4 hz2
   refine zQ [1,3,10,25] ?_
   refine Zl (t:=(a0.Kind == 6)) rfl (fun c3 => ?_) (fun c3 => ?_)
   ·replace hz2:=Zo c3 hz2
    refine zK ?_
    exact Ky hz2
   replace hz2:=Zn c3 hz2
   refine zR ?_
   exact Ky hz2
  refine Zl (t:=z2) rfl (fun c25 => ?_) (fun c25 => ?_)
  ·replace hz1:=Zo c25 hz1
   refine Ze ?_
   obtain ⟨y9,hy9,hz1⟩:=bC hz1
   refine zCd (Zf6 hy9) [2] [false] ?_
   refine zW ?_
   exact Ky hz1
  replace hz1:=Zn c25 hz1
  refine zQ [1,3,39] ?_
  refine Zl (t:=(a0.Kind == 9)) rfl (fun c24 => ?_) (fun c24 => ?_)
  ·replace hz1:=Zo c24 hz1
   refine Ze ?_
   obtain ⟨y11,hy11,hz1⟩:=bC hz1
   refine zCd (Zfk hy11) [1,4,5] [true] ?_
   refine zQ [1,3] ?_
   refine Ze ?_
   refine zQd [1,3,6] [1,3,6] [true] ?_
   obtain ⟨z23,hz23,hz1⟩:=bC hz1
   refine Z9 (E':=⟨101,[],[(3,(vI z23))]⟩) (O':=(Zt O n [none])) (n0:=(n+1)) ?_ ?_
   ·refine Ym hz23 (fun s0_=>⟨101,[],[(1,.ref n 0),(3,(vI s0_.1)),(6,(vI s0_.2))]⟩) (fun s0_=>(Zt O n [some ⟨false,29,3,1,(Zg a0)⟩])) (fun z23=>JX 1 n (⟨101,[],[(3,(vI z23))]⟩:Env) (Zt O n [none]) (n+1)) ?_
    intro s0_ x0_ hs0_
    unfold Q0 at hs0_
    try dsimp only
    refine Ze ?_
    refine zQ [1,3,6,58] ?_
    refine Zl (t:=(decide (s0_.2 < (a0.Kids.length:Int)))) rfl (fun c22 => ?_) (fun c22 => ?_)
    ·replace hs0_:=Zo c22 hs0_
     refine Ve [1,3,6] [true] ?_
     refine Ze ?_
     refine Z6 ?_
     refine zQd [1,3,6,7] [1,3,6,7] [true] ?_
     obtain ⟨z21,hz21,hs0_⟩:=bC hs0_
     refine Z9 (E':=⟨101,[],[(1,.ref n 0),(3,(vI z21)),(6,(vI s0_.2))]⟩) (O':=(Zt O n [some ⟨false,29,3,1,(Zg a0)⟩])) (n0:=(n+1)) ?_ ?_
     ·refine Ym hz21 (fun s1_=>⟨101,[],[(1,.ref n 0),(3,(vI s1_.1)),(6,(vI s0_.2)),(7,(vI s1_.2))]⟩) (fun s1_=>(Zt O n [some ⟨false,29,3,1,(Zg a0)⟩])) (fun z21=>JX 3 n (⟨101,[],[(1,.ref n 0),(3,(vI z21)),(6,(vI s0_.2))]⟩:Env) (Zt O n [some ⟨false,29,3,1,(Zg a0)⟩]) (n+1)) ?_
      intro s1_ x1_ hs1_
      unfold Q1 at hs1_
      try dsimp only
      refine Ze ?_
      obtain ⟨x14,hx14,ax14,bx14,cx14,hs1_⟩:=bE (f:=Zb) Vl (fun _=>rfl) (by decide) hs1_
      have g15:=Q7 (f:=Zb) (off:=2) (sz:=3) Ziq (fun _=>rfl) (by decide) (by decide) hx14
      refine Zgi [1,3,6,7,69] (Yb Yd [] ?_)
      refine zF4 ax14 bx14 cx14 g15 ?_
      refine Zl (t:=(decide (s1_.2 < (x14.Kids.length:Int)))) rfl (fun c20 => ?_) (fun c20 => ?_)
      ·replace hs1_:=Zo c20 hs1_
       refine Ve [1,3,6,7] [true] ?_
       refine Ze ?_
       refine Z6 ?_
       obtain ⟨x16,hx16,ax16,bx16,cx16,hs1_⟩:=bE (f:=Zb) Vl (fun _=>rfl) (by decide) hs1_
       have g17:=Q7 (f:=Zb) (off:=2) (sz:=3) Ziq (fun _=>rfl) (by decide) (by decide) hx16
       obtain ⟨x18,hx18,ax18,bx18,cx18,hs1_⟩:=bE (f:=Zb) Vl (fun _=>rfl) (by decide) hs1_
       obtain ⟨y19,hy19,hs1_⟩:=bC hs1_
       refine Z0l [] ax16 bx16 cx16 g17 ax18 bx18 cx18 ?_
       refine (Zah hy19).then ?_
       refine zF7 ax16 bx16 cx16 g17 ax18 bx18 cx18 ?_
       refine zD [1,3,6,7] [true] ?_
       refine zR ?_
       exact Ky hs1_
      replace hs1_:=Zn c20 hs1_
      exact zEx hs1_
     try simp only [Yt,Z4,↓reduceIte,Nat.reduceEqDiff]
     refine zD [1,3,6] [true] ?_
     refine zR ?_
     exact Ky hs0_
    replace hs0_:=Zn c22 hs0_
    exact zEx hs0_
   try simp only [Yt,Z4,↓reduceIte,Nat.reduceEqDiff]
   refine zD [3] [false] ?_
   refine zQ [2] ?_
   refine zW ?_
   exact Ky hz1
  replace hz1:=Zn c24 hz1
  refine zK ?_
  exact Ky hz1
 rcases z1 with z1 | z1
 ·dsimp only [Vn] at hw h
  refine Xd hw ?_
  refine Ze ?_
  refine zQd [1,3,8] [1,3,8] [true] ?_
  obtain ⟨z31,hz31,h⟩:=bC h
  refine Z9 (E':=⟨101,[],[(3,(vI z31))]⟩) (O':=(Zt O n [none])) (n0:=(n+1)) ?_ ?_
  ·refine Ym hz31 (fun s2_=>⟨101,[],[(1,.ref n 0),(3,(vI s2_.1)),(8,(vI s2_.2))]⟩) (fun s2_=>(Zt O n [some ⟨false,29,3,1,(Zg a0)⟩])) (fun z31=>JX 5 n (⟨101,[],[(3,(vI z31))]⟩:Env) (Zt O n [none]) (n+1)) ?_
   intro s2_ x2_ hs2_
   unfold X5 at hs2_
   try dsimp only
   refine Ze ?_
   refine zQ [1,3,8,89] ?_
   refine Zl (t:=(decide (s2_.2 < (a0.Kids.length:Int)))) rfl (fun c30 => ?_) (fun c30 => ?_)
   ·replace hs2_:=Zo c30 hs2_
    refine Ve [1,3,8] [true] ?_
    refine Ze ?_
    refine Z6 ?_
    obtain ⟨x28,hx28,ax28,bx28,cx28,hs2_⟩:=bE (f:=Zb) Vl (fun _=>rfl) (by decide) hs2_
    obtain ⟨y29,hy29,hs2_⟩:=bC hs2_
    refine Gn [] ax28 bx28 cx28 ?_
    refine (Zah hy29).then ?_
    refine zF3 ax28 bx28 cx28 ?_
    refine zD [1,3,8] [true] ?_
    refine zR ?_
    exact Ky hs2_
   replace hs2_:=Zn c30 hs2_
   exact zEx hs2_
  try simp only [Yt,Z4,↓reduceIte,Nat.reduceEqDiff]
  refine zD [3] [false] ?_
  refine zQ [2] ?_
  exact Yw [(vI z31)]
 dsimp only [Vn] at hw h
 refine Zwo hw ?_
 try simp only [Yt,Z4]
 exact Zoc [(vI z1)]
theorem Zee:∀ k,(Zae (Yi k)):=fun k=>by
 induction k with
 | zero=>exact @fun a0 r O n h=>(nomatch (show (none:Option _)=some _ from h))
 | succ k ih=>exact @fun a0 r O n h=>Zfn (ih)  h
theorem Zbw {a0:Za} {r:Int} {O:Objs} {n:Nat} (h:U0 a0=some r):GTo Try.prog 26 [.agg (Zg a0)] O n ((vI r)) O n:=by
 obtain ⟨k,hk⟩:=Vg h
 exact (Zee k)  hk
theorem Zda {a0:Zd} {r:Bool} {O:Objs} {n:Nat} (h:Ji a0=some r):GTo Try.prog 13 [.agg (Zc a0)] O n ((vB r)) O n:=by
 unfold Ji at h
 refine zFn Try.call13 Try.func13 fun hU hN0 hN => ?_
 show W _ _ _ _ ⟨24,[],[(0,.agg (Zc a0))]⟩ (Zt O n []) _
 refine zQ [1] ?_
 refine Ze ?_
 refine Ze ?_
 obtain ⟨y2,hy2,h⟩:=bC h
 refine zCd (Zf8 hy2) [1,6] [true] ?_
 refine Zl (t:=(!y2)) rfl (fun c26 => ?_) (fun c26 => ?_)
 ·replace h:=Zo c26 h
  refine Ze ?_
  obtain ⟨y4,hy4,h⟩:=bC h
  refine zCd (Vv hy4) [2] [false] ?_
  exact Yw [(vB y4)]
 replace h:=Zn c26 h
 refine Ve [1] [true] ?_
 refine Ze ?_
 obtain ⟨y6,hy6,h⟩:=bC h
 refine zCd (Zga hy6) [1,3] [true,true] ?_
 refine Ze ?_
 refine Ze ?_
 obtain ⟨y8,hy8,h⟩:=bC h
 refine zCd (Jg hy8) [1,3,12] [true,true] ?_
 refine Zl (t:=(!y8)) rfl (fun c25 => ?_) (fun c25 => ?_)
 ·replace h:=Zo c25 h
  refine Ze ?_
  obtain ⟨y10,hy10,h⟩:=bC h
  refine zCd (Vv hy10) [2] [false,false] ?_
  exact Yw [(vB y10)]
 replace h:=Zn c25 h
 refine Ve [1,3] [true,true] ?_
 obtain ⟨z15,hz15,h⟩:=bC h
 refine Xd (E':=⟨24,[],[(2,(vB z15))]⟩) (O':=(Zt O n [none,none])) (n0:=(n+2)) ?_ ?_
 ·obtain ⟨y20,hy20,hz15⟩:=bC hz15
  obtain ⟨y21,hy21,hz15⟩:=bC hz15
  obtain ⟨y22,hy22,hz15⟩:=bC hz15
  rcases Bool.eq_false_or_eq_true (y20 == (IntKind.i64.wrap (y22+1))) with c24 | c24
  ·replace hz15:=Zo c24 hz15
   obtain ⟨y23,hy23,hz15⟩:=bC hz15
   refine Kt Yd (by kernel_rfl) [some true] (by kernel_rfl) ?_
   refine zX1 c24 ?_
   refine PCall.of (V1 hy20) ?_
   refine zX1 c24 ?_
   refine PCall.of (Zbv hy21) ?_
   refine zX1 c24 ?_
   refine PCall.of (Zbw hy22) ?_
   refine zX1 c24 ?_
   refine PCall.of (Vv hy23) ?_
   refine zX1 c24 ?_
   exact Ge hz15 c24
  replace hz15:=Zn c24 hz15
  refine Kt Yd (by kernel_rfl) [some false] (by kernel_rfl) ?_
  refine zX1 c24 ?_
  refine PCall.of (V1 hy20) ?_
  refine zX1 c24 ?_
  refine PCall.of (Zbv hy21) ?_
  refine zX1 c24 ?_
  refine PCall.of (Zbw hy22) ?_
  refine zX1 c24 ?_
  exact Ge hz15 c24
 exact Yw [(vB z15)]
abbrev Tr:=Za
theorem Qh {x:Int} (h1:-9223372036854775808≤x) (h2:x≤9223372036854775807):IntKind.i64.wrap x=x:=Zwc ⟨h1,h2⟩
theorem Qi {t x:Tr} (h:x∈t.Kids):SizeOf.sizeOf x < SizeOf.sizeOf t:=by
 obtain ⟨k,w,ks⟩:=t
 have:=List.sizeOf_lt_of_mem h
 simp only [Za.mk.sizeOf_spec]
 simp only at this
 omega
theorem Zxk {α R:Type} (xs:List α) (step:Int→Option (Int ⊕ R)) (p:α→Bool) (e o:R) (hl:(xs.length:Int)≤140737488355328)
  (h1:∀ (i:Nat) (x:α),i < xs.length→xs[i]? = some x→x∈xs→step i=some (if p x=true then .inr e else .inl (IntKind.i64.wrap ((i:Int)+1)))) (h2:step xs.length=some (.inr o)):Zm step 0=some (if xs.any p=true then e else o):=by
 have hloop:=Zwd xs (fun i (_:Unit)=>i) step (fun _ x=>some (if p x=true then .inr e else .inl ())) (fun _=>o) (fun i s x hi hx=>by
  rw [h1 i x hi hx (List.mem_of_getElem? hx),Qh (by omega) (by omega)]
  cases p x <;> rfl) (fun _=>h2) ()
 refine hloop.trans ?_
 rw [Zjs p (fun s _=>s) e (fun _ _=>True) xs.length xs () 0 (by omega) trivial (fun s k x _ _ _=>⟨by cases p x <;> rfl,fun _=>trivial⟩)]
theorem Ub {i n:Nat} (h:i < n):decide ((i:Int) < (n:Int))=true:=by rw [decide_eq_true_eq];omega
theorem Ua {n:Nat}:decide ((n:Int) < (n:Int))=false:=by rw [decide_eq_false_iff_not];omega
def tr {α:Type} (p:α→Bool):List α→List α
 | []=>[]
 | x::xs=>match tr p xs with
  | []=>if p x=true then [] else [x]
  | y::ys=>x::y::ys
def trN {α:Type} (p:α→Bool) (l:List α):Nat→Nat
 | 0=>0
 | n+1=>match l[n]? with
  | some x=>if p x=true then trN p l n else n+1
  | none=>0
theorem Zit {α:Type} {p:α→Bool} {x:α} (h:p x=true):∀ l:List α,tr p (l++[x])=tr p l
 | []=>by simp [tr,h]
 | y::l=>by simp only [List.cons_append,tr,Zit h l]
theorem Zis {α:Type} {p:α→Bool} {x:α} (h:p x=false):∀ l:List α,tr p (l++[x])=l++[x]
 | []=>by simp [tr,h]
 | y::l=>by
  simp only [List.cons_append,tr,Zis h l]
  cases hl:l++[x] with
  | nil=>simp at hl
  | cons a b=>rfl
theorem Zk6 {α:Type} {p:α→Bool} {l:List α}:∀ n,n≤l.length→l.take (trN p l n)=tr p (l.take n)∧trN p l n≤n
 | 0,_=>by simp [trN,tr]
 | n+1,h=>by
  have hn:l[n]? = some l[n]:=List.getElem?_eq_getElem (by omega)
  have e:l.take (n+1)=l.take n++[l[n]]:=by rw [List.take_add_one,hn];rfl
  obtain ⟨h1,h2⟩:=Zk6 (p:=p) (l:=l) n (by omega)
  unfold trN
  rw [hn]
  simp only
  split
  ·rename_i hp
   rw [e,Zit hp]
   exact ⟨h1,by omega⟩
  rename_i hp
  rw [e,Zis (by simpa using hp),← e]
  exact ⟨rfl,Nat.le_refl _⟩
theorem Ze3 {α:Type} (p:α→Bool):∀ l:List α,(tr p l).length≤l.length
 | []=>by simp [tr]
 | x::l=>by
  have:=Ze3 p l
  simp only [tr]
  split
  ·split <;> simp
  rename_i y ys he
  rw [he] at this
  simp at this ⊢
  omega
theorem Zd3 {α:Type} {p:α→Bool} {x:α}:∀ {l:List α},x∈tr p l→x∈l
 | [],h=>by simp [tr] at h
 | y::l,h=>by
  simp only [tr] at h
  split at h
  ·split at h
   ·simp at h
   simp at h;simp [h]
  rename_i z zs he
  rw [← he] at h
  rcases List.mem_cons.1 h with h | h
  ·simp [h]
  exact List.mem_cons_of_mem _ (Zd3 h)
theorem Zrq {α:Type} {p:α→Bool}:∀ l:List α,tr p (tr p l)=tr p l
 | []=>rfl
 | x::l=>by
  have ih:=Zrq (p:=p) l
  simp only [tr]
  cases h:tr p l with
  | nil =>
   simp only
   cases hx:p x <;> simp [tr,hx]
  | cons y ys =>
   rw [h] at ih
   simp only [tr] at ih ⊢
   rw [ih]
theorem Zsx {α β:Type} {p:α→Bool} {q:β→Bool} {f:α→β} (h:∀ x,q (f x)=p x):∀ l:List α,tr q (l.map f)=(tr p l).map f
 | []=>rfl
 | x::l=>by
  simp only [List.map_cons,tr,Zsx h l]
  cases tr p l with
  | nil=>simp only [List.map_nil,h];split <;> rfl
  | cons y ys=>rfl
theorem Znr {α:Type} (l:List α) (p:α→Bool) (step:Int→Option (Int ⊕ Int)) (hl:(l.length:Int)≤140737488355328)
  (h0:step 0=some (.inr 0)) (h1:∀ (n:Nat) (x:α),l[n]? = some x→n < l.length→step ((n+1:Nat):Int)=some (if p x=true then .inl (n:Int) else .inr ((n+1:Nat):Int))):Zm step (l.length:Int)=some (trN p l l.length:Int):=by
 have key:∀ n:Nat,n≤l.length→Zm step (n:Int)=some (trN p l n:Int):=fun n=>by
  induction n with
  | zero=>intro _;exact Yg h0
  | succ n ih =>
   intro hn
   have hx:l[n]? = some l[n]:=List.getElem?_eq_getElem (by omega)
   have h:=h1 n _ hx (by omega)
   unfold trN
   rw [hx]
   simp only
   split
   ·rename_i hp
    rw [if_pos hp] at h
    rw [Ys h]
    exact ih (by omega)
   rename_i hp
   rw [if_neg hp] at h
   exact Yg h
 exact key l.length (Nat.le_refl _)
theorem Zhd {α:Type} {l:List α} {n:Nat} (h:n≤l.length):Zbd l 0 (n:Int)=some (l.take n):=by
 rw [Z1l (by omega) (by omega) (by omega)]
 simp
theorem Z28 {n:Nat}:decide (0 < ((n+1:Nat):Int))=true:=by rw [decide_eq_true_eq];omega
theorem Zoa {l:List Int} (hl:(l.length:Int)≤140737488355328):Ko l=some (tr (fun x=>x == 0) l):=by
 have hloop:=Znr l (fun x=>x == 0) (Jf l) hl (by unfold Jf;rfl) (fun n x hx hn=>by
  unfold Jf
  rw [Z28,cond_true,Qh (by omega) (by omega)]
  have e:((n+1:Nat):Int) - 1=(n:Int):=by omega
  rw [e,Yn hx]
  simp only [Option.bind_some,cond_true]
  cases x == 0 <;> rfl)
 obtain ⟨h1,h2⟩:=Zk6 (p:=fun x=>x == 0) (l:=l) l.length (Nat.le_refl _)
 unfold Ko
 rw [hloop,Option.bind_some,Zhd h2,Option.bind_some,h1,List.take_length]
theorem Zrr {l:List Tr} (hl:(l.length:Int)≤140737488355328):K2 l=some (tr (fun x=>x.Kind == 0) l):=by
 have hloop:=Znr l (fun x=>x.Kind == 0) (Jt l) hl (by unfold Jt;rfl) (fun n x hx hn=>by
  unfold Jt
  rw [Z28,cond_true,Qh (by omega) (by omega)]
  have e:((n+1:Nat):Int) - 1=(n:Int):=by omega
  rw [e,Yn hx]
  simp only [Option.bind_some,cond_true]
  cases x.Kind == 0 <;> rfl)
 obtain ⟨h1,h2⟩:=Zk6 (p:=fun x=>x.Kind == 0) (l:=l) l.length (Nat.le_refl _)
 unfold K2
 rw [hloop,Option.bind_some,Zhd h2,Option.bind_some,h1,List.take_length]
theorem Zyc {l:List Int} (hl:l.length * 8≤140737488355328):J7 l=some (tr (fun x=>x == 0) l):=by
 have hloop:=Znr l (fun x=>x == 0) (Q6 l) (by omega) (by unfold Q6;rfl) (fun n x hx hn=>by
  unfold Q6
  rw [Z28,cond_true,Qh (by omega) (by omega)]
  have e:((n+1:Nat):Int) - 1=(n:Int):=by omega
  rw [e,Yn hx]
  simp only [Option.bind_some,cond_true]
  cases x == 0 <;> rfl)
 obtain ⟨h1,h2⟩:=Zk6 (p:=fun x=>x == 0) (l:=l) l.length (Nat.le_refl _)
 have h3:=Ze3 (fun x=>x == 0) l
 unfold J7
 rw [hloop,Option.bind_some,Zhd h2,Option.bind_some,h1,List.take_length,Zfa (by rw [List.length_nil];omega) (by rw [List.length_nil];omega)]
 rfl
inductive Bd:Tr→Prop
 | mk (t:Tr) (h1:t.Words.length * 8≤140737488355328) (h2:t.Kids.length * 56≤140737488355328) (h3:∀ w∈t.Words,0≤w∧w < 18446744073709551616) (h4:∀ k∈t.Kids,Bd k):Bd t
theorem Bd.w {t:Tr} (h:Bd t):t.Words.length * 8≤140737488355328:=by cases h;assumption
theorem Bd.k {t:Tr} (h:Bd t):t.Kids.length * 56≤140737488355328:=by cases h;assumption
theorem Bd.u {t:Tr} (h:Bd t):∀ w∈t.Words,0≤w∧w < 18446744073709551616:=by cases h;assumption
theorem Bd.all {t:Tr} (h:Bd t):∀ k∈t.Kids,Bd k:=by cases h;assumption
def nrm (t:Tr):Tr :=
 if t.Kind=0 then ⟨0,[],[]⟩
 else if t.Kind=1 then ⟨1,tr (fun x=>x == 0) t.Words,tr (fun x=>x.Kind == 0) (t.Kids.attach.map fun k=>nrm k.1)⟩
 else ⟨t.Kind,t.Words,t.Kids.attach.map fun k=>nrm k.1⟩
termination_by SizeOf.sizeOf t
decreasing_by all_goals exact Qi k.2
theorem Kp (t:Tr):nrm t=if t.Kind=0 then ⟨0,[],[]⟩ else if t.Kind=1 then ⟨1,tr (fun x=>x == 0) t.Words,tr (fun x=>x.Kind == 0) (t.Kids.map nrm)⟩ else ⟨t.Kind,t.Words,t.Kids.map nrm⟩:=by
 rw [nrm]
 simp only [List.attach_map_val]
theorem Ju (t:Tr):(nrm t).Kind=t.Kind:=by
 rw [Kp]
 split
 ·rename_i h;exact h.symm
 split
 ·rename_i h;exact h.symm
 rfl
theorem Zym {α β:Type} {xs:List α} {f:α→β} {z:β} {i m:Nat} {x:α} (hi:i+(m+1)=xs.length) (hx:xs[i]? = some x) :
  ((xs.take i).map f++List.replicate (m+1) z).set i (f x)=(xs.take (i+1)).map f++List.replicate m z:=by
 have hl:((xs.take i).map f).length=i:=by rw [List.length_map,List.length_take];omega
 rw [List.set_append,if_neg (by omega),hl,Nat.sub_self,List.replicate_succ,List.set_cons_zero,List.take_add_one,hx]
 simp
theorem Zxm {α β:Type} (xs:List α) (f:α→β) (z:β) (step:Int×List β→Option ((Int×List β) ⊕ List β)) (hl:(xs.length:Int)≤140737488355328)
  (h1:∀ (i:Nat) (x:α) (out:List β) (y:β),i < xs.length→xs[i]? = some x→x∈xs→out[i]? = some y→step ((i:Int),out)=some (.inl (IntKind.i64.wrap ((i:Int)+1),Zh5 out (i:Int) (f x))))
  (h2:∀ out,step ((xs.length:Int),out)=some (.inr out)):Zm step (0,List.replicate xs.length z)=some (xs.map f):=by
 have key:∀ m i,i+m=xs.length→Zm step ((i:Int),(xs.take i).map f++List.replicate m z)=some (xs.map f):=fun m=>by
  induction m with
  | zero =>
   intro i hi
   have hi':i=xs.length:=by omega
   subst hi'
   rw [List.take_length,List.replicate_zero,List.append_nil]
   exact Yg (h2 _)
  | succ m ih =>
   intro i hi
   have hx:xs[i]? = some xs[i]:=List.getElem?_eq_getElem (by omega)
   have hl':((xs.take i).map f).length=i:=by rw [List.length_map,List.length_take];omega
   have hy:((xs.take i).map f++List.replicate (m+1) z)[i]? = some z:=by
    rw [List.getElem?_append_right (by omega),hl',Nat.sub_self,List.replicate_succ];rfl
   have h:=h1 i _ _ z (by omega) hx (List.mem_of_getElem? hx) hy
   rw [Qh (by omega) (by omega)] at h
   rw [Ys h]
   unfold Zh5
   rw [Int.toNat_natCast,Zym (by omega) hx]
   exact ih (i+1) (by omega)
 have:=key xs.length 0 (by omega)
 simpa using this
theorem Zt1:∀ (k:Nat) (t:Tr),Bd t→SizeOf.sizeOf t < k→Jh k t=some (nrm t)
 | 0,t,_,h=>by omega
 | k+1,t,hb,hk=>by
  have ih:∀ x∈t.Kids,Jh k x=some (nrm x):=fun x hx=>Zt1 k x (hb.all x hx) (by have:=Qi hx;omega)
  have hw:=hb.w
  have hkd:=hb.k
  show G0 (Jh k) t=_
  unfold G0
  rw [Kp]
  by_cases h0:t.Kind=0
  ·rw [if_pos h0,h0];rfl
  have e0:(t.Kind == 0)=false:=by rw [beq_eq_false_iff_ne];exact h0
  rw [if_neg h0,e0,cond_false]
  have main:∀ (w:List Int) (ks:List Tr),(ks.length:Int)≤140737488355328→(56:Int) * ks.length≤140737488355328→(∀ x∈ks,Jh k x=some (nrm x)) →
    ((cond (decide (0 < ((w,ks).2.length:Int))) ((Zep 56 ((w,ks).2.length:Int) (⟨(0:Int),([]:(List Int)),([]:(List Za))⟩:Za)).bind fun l6=>some l6) (some ([]:List Za))).bind fun (z5:(List Za))=>(Zm (Kh (Jh k) (w,ks)) (0,z5)).bind fun (z14:(List Za))=>some (⟨t.Kind,(w,ks).1,z14⟩:Za))=some ⟨t.Kind,w,ks.map nrm⟩:=fun w ks h1 h2 hks=>by
   have hz:(cond (decide (0 < ((w,ks).2.length:Int))) ((Zep 56 ((w,ks).2.length:Int) (⟨(0:Int),([]:(List Int)),([]:(List Za))⟩:Za)).bind fun l6=>some l6) (some ([]:List Za)))=some (List.replicate ks.length (⟨0,[],[]⟩:Tr)):=by
    cases ks with
    | nil=>rfl
    | cons y ys =>
     have:decide (0 < (((w,y::ys).2.length:Nat):Int))=true:=by rw [decide_eq_true_eq];simp
     rw [this,cond_true,Zxo (Int.natCast_nonneg _) h2 h1,Option.bind_some,Int.toNat_natCast]
   rw [hz,Option.bind_some]
   rw [Zxm ks nrm _ (Kh (Jh k) (w,ks)) h1 (fun i x out z hi hx hm hz=>by
     unfold Kh
     simp only
     rw [Ub hi,cond_true,Yn hx,Option.bind_some,hks x hm,Option.bind_some,Yn hz,Option.bind_some]) (fun out=>by
     unfold Kh
     simp only
     rw [Ua,cond_false]),Option.bind_some]
  by_cases h1:t.Kind=1
  ·have e1:(t.Kind == 1)=true:=by rw [beq_iff_eq];exact h1
   have l1:=Ze3 (fun x:Tr=>x.Kind == 0) t.Kids
   rw [if_pos h1,e1,cond_true,Zoa (by omega),Option.bind_some,Zrr (by omega),Option.bind_some,Option.bind_some]
   rw [main _ _ (by omega) (by omega) (fun x hx=>ih x (Zd3 hx)),Zsx (fun x=>by rw [Ju]),h1]
  have e1:(t.Kind == 1)=false:=by rw [beq_eq_false_iff_ne];exact h1
  rw [if_neg h1,e1,cond_false,Option.bind_some]
  exact main _ _ (by omega) (by omega) ih
theorem Z07 {t:Tr} (h:Bd t):Zen t=some (nrm t):=Zav (SizeOf.sizeOf t+1) fun k hk=>Zt1 k t h (by omega)
theorem Zrp {α:Type} {p:α→Bool} {x:α} {l:List α} (h:tr p l=[]):tr p (x::l)=if p x=true then [] else [x]:=by simp only [tr,h]
theorem Zsw {α:Type} {p:α→Bool} {x:α} {l:List α} (h:tr p l≠[]):tr p (x::l)=x::tr p l:=by
 simp only [tr]
 split
 ·rename_i h';exact absurd h' h
 rename_i h';rw [h']
theorem Ztq:∀ (l:List Tr) (n:Nat) (acc:Int),(l.zipIdx n).foldl (fun a p=>if p.1.Kind=0 then a else ((p.2+1:Nat):Int)) acc=if (tr (fun x=>x.Kind == 0) l).length=0 then acc else ((n+(tr (fun x=>x.Kind == 0) l).length:Nat):Int)
 | [],n,acc=>by simp [tr]
 | x::l,n,acc=>by
  rw [List.zipIdx_cons,List.foldl_cons,Ztq l (n+1)]
  by_cases h:tr (fun x=>x.Kind == 0) l=[]
  ·rw [Zrp h,h]
   by_cases hx:x.Kind=0
   ·simp [hx]
   simp [hx]
  have h':(tr (fun x=>x.Kind == 0) l).length≠0:=by simpa using h
  rw [Zsw h,if_neg h',List.length_cons,if_neg (by omega)]
  congr 1
  omega
theorem Z1q {α:Type} (p:α→Bool) (l:List α):l.take (tr p l).length=tr p l:=by
 obtain ⟨h1,h2⟩:=Zk6 (p:=p) (l:=l) l.length (Nat.le_refl _)
 rw [List.take_length] at h1
 rw [← h1,List.length_take]
 congr 1
 omega
theorem Zye {k:Nat} {t:Tr} (hl:t.Kids.length * 56≤140737488355328) (ih:∀ x∈t.Kids,Yu k x=some (nrm x)) :
  Zm (Xi (Yu k) t) (0,0,[])=some (if (tr (fun x=>x.Kind == 0) (t.Kids.map nrm)).length=0 then 0 else ((tr (fun x=>x.Kind == 0) (t.Kids.map nrm)).length:Int),t.Kids.map nrm):=by
 have key:∀ (l pre:List Tr) (a:Int),t.Kids=pre++l→Zm (Xi (Yu k) t) (a,((pre.length:Nat):Int),pre.map nrm)=some (((l.map nrm).zipIdx pre.length).foldl (fun a p=>if p.1.Kind=0 then a else ((p.2+1:Nat):Int)) a,t.Kids.map nrm):=fun l=>by
  induction l with
  | nil =>
   intro pre a hp
   rw [List.append_nil] at hp
   refine Yg ?_
   unfold Xi
   simp only
   rw [hp,Ua,cond_false]
   rfl
  | cons x l ihl =>
   intro pre a hp
   have hx:t.Kids[pre.length]? = some x:=by rw [hp,List.getElem?_append_right (Nat.le_refl _),Nat.sub_self];rfl
   have hi:pre.length < t.Kids.length:=by rw [hp];simp
   have hm:x∈t.Kids:=List.mem_of_getElem? hx
   have hs:Xi (Yu k) t (a,((pre.length:Nat):Int),pre.map nrm)=some (.inl (if x.Kind=0 then a else ((pre.length+1:Nat):Int),(((pre++[x]).length:Nat):Int),(pre++[x]).map nrm)):=by
    unfold Xi
    simp only
    rw [Ub hi,cond_true,Yn hx,Option.bind_some,ih x hm,Option.bind_some,Zfa (by simp;omega) (by simp;omega),Option.bind_some,Qh (by omega) (by omega),Ju]
    have e:((pre.length:Nat):Int)+1=((pre.length+1:Nat):Int):=by omega
    rw [e]
    by_cases h0:x.Kind=0
    ·simp [h0]
    have:(x.Kind != 0)=true:=by simp [h0]
    rw [this,cond_true]
    simp [h0]
   rw [Ys hs,ihl (pre++[x]) _ (by rw [hp];simp)]
   simp only [List.map_cons,List.zipIdx_cons,List.foldl_cons,List.length_append,List.length_singleton,Ju]
 have:=key t.Kids [] 0 rfl
 rw [Ztq] at this
 simpa using this
theorem Zpx:∀ (k:Nat) (t:Tr),Bd t→SizeOf.sizeOf t < k→Yu k t=some (nrm t)
 | 0,t,_,h=>by omega
 | k+1,t,hb,hk=>by
  have ih:∀ x∈t.Kids,Yu k x=some (nrm x):=fun x hx=>Zpx k x (hb.all x hx) (by have:=Qi hx;omega)
  have hw:=hb.w
  have hkd:=hb.k
  show J0 (Yu k) t=_
  unfold J0
  rw [Kp]
  by_cases h0:t.Kind=0
  ·rw [if_pos h0,h0];rfl
  have e0:(t.Kind == 0)=false:=by rw [beq_eq_false_iff_ne];exact h0
  rw [if_neg h0,e0,cond_false,Zye hkd ih,Option.bind_some]
  by_cases h1:t.Kind=1
  ·have e1:(t.Kind == 1)=true:=by rw [beq_iff_eq];exact h1
   rw [if_pos h1,e1,cond_true,Zyc hw,Option.bind_some]
   have l1:=Ze3 (fun x:Tr=>x.Kind == 0) (t.Kids.map nrm)
   have l2:(if (tr (fun x=>x.Kind == 0) (t.Kids.map nrm)).length=0 then (0:Int) else ((tr (fun x=>x.Kind == 0) (t.Kids.map nrm)).length:Int))=((tr (fun x=>x.Kind == 0) (t.Kids.map nrm)).length:Int):=by
    split
    ·rename_i h;rw [h];rfl
    rfl
   simp only [l2]
   rw [Zhd l1,Option.bind_some,Z1q]
  have e1:(t.Kind == 1)=false:=by rw [beq_eq_false_iff_ne];exact h1
  rw [if_neg h1,e1,cond_false,Zfa (by rw [List.length_nil];omega) (by rw [List.length_nil];omega)]
  rfl
theorem Zyf {t:Tr} (h:Bd t):Uz t=some (nrm t):=Zav (SizeOf.sizeOf t+1) fun k hk=>Zpx k t h (by omega)
theorem Zxr:∀ (n:Nat) (t:Tr),SizeOf.sizeOf t < n→Bd t→Bd (nrm t)
 | 0,t,h,_=>by omega
 | n+1,t,hn,hb=>by
  have ih:∀ x∈t.Kids,Bd (nrm x):=fun x hx=>Zxr n x (by have:=Qi hx;omega) (hb.all x hx)
  have hw:=hb.w
  have hk:=hb.k
  rw [Kp]
  split
  ·exact .mk _ (by simp) (by simp) (fun w h=>by simp at h) (fun w h=>by simp at h)
  split
  ·have l1:=Ze3 (fun x:Int=>x == 0) t.Words
   have l2:=Ze3 (fun x:Tr=>x.Kind == 0) (t.Kids.map nrm)
   rw [List.length_map] at l2
   refine .mk _ (by simp only;omega) (Nat.le_trans (Nat.mul_le_mul_right 56 l2) hk) (fun w h=>hb.u w (Zd3 h)) (fun x h => ?_)
   obtain ⟨y,hy,rfl⟩:=List.mem_map.1 (Zd3 h)
   exact ih y hy
  refine .mk _ hw (by simp only [List.length_map];exact hk) hb.u (fun x h => ?_)
  obtain ⟨y,hy,rfl⟩:=List.mem_map.1 h
  exact ih y hy
theorem Bd.nrm {t:Tr} (h:Bd t):Bd (nrm t):=Zxr _ t (Nat.lt_succ_self _) h
theorem Zmf:∀ (n:Nat) (t:Tr),SizeOf.sizeOf t < n→nrm (nrm t)=nrm t
 | 0,t,h=>by omega
 | n+1,t,hn=>by
  have ih:∀ x∈t.Kids,nrm (nrm x)=nrm x:=fun x hx=>Zmf n x (by have:=Qi hx;omega)
  have em:∀ l:List Tr,(∀ x∈l,x∈t.Kids)→(l.map nrm).map nrm=l.map nrm:=fun l hl=>by
   rw [List.map_map]
   exact List.map_congr_left fun x hx=>ih x (hl x hx)
  rw [Kp t]
  by_cases h0:t.Kind=0
  ·rw [if_pos h0,Kp];simp
  rw [if_neg h0]
  by_cases h1:t.Kind=1
  ·rw [if_pos h1,Kp]
   simp only [if_neg (show ¬ (1:Int)=0 by decide),if_true]
   have q1:∀ l:List Tr,tr (fun x:Tr=>x.Kind == 0) (l.map nrm)=(tr (fun x:Tr=>x.Kind == 0) l).map nrm:=Zsx (fun x=>by rw [Ju])
   rw [Zrq,q1,Zrq,q1,em _ (fun x hx=>Zd3 hx)]
  rw [if_neg h1,Kp]
  simp only
  rw [if_neg h0,if_neg h1,em _ (fun x hx=>hx)]
theorem Z08 (t:Tr):nrm (nrm t)=nrm t:=Zmf _ t (Nat.lt_succ_self _)
def eqT (a b:Tr):Bool:=a.Kind == b.Kind && (a.Words == b.Words && (a.Kids.length == b.Kids.length && (a.Kids.attach.zip b.Kids).all fun p=>eqT p.1.1 p.2))
termination_by SizeOf.sizeOf a
decreasing_by exact Qi p.1.2
def eqL:List Tr→List Tr→Bool
 | [],[]=>true
 | x::xs,y::ys=>eqT x y && eqL xs ys
 | _,_=>false
theorem Zvv:∀ (l m:List Tr) (P:Tr→Prop) (l':List {x // P x}),l'.map (·.1)=l→(l.length == m.length && (l'.zip m).all fun p=>eqT p.1.1 p.2)=eqL l m
 | [],[],P,l',h=>by cases l' <;> simp_all [eqL]
 | [],y::m,P,l',h=>by cases l' <;> simp_all [eqL]
 | x::l,[],P,l',h=>by cases l' <;> simp_all [eqL]
 | x::l,y::m,P,l',h=>by
  cases l' with
  | nil=>simp at h
  | cons z l' =>
   simp only [List.map_cons,List.cons.injEq] at h
   have ih:=Zvv l m P l' h.2
   simp only [List.length_cons,List.zip_cons_cons,List.all_cons,eqL,h.1]
   rw [← ih]
   have:(l.length+1 == m.length+1)=(l.length == m.length):=by simp
   rw [this]
   cases l.length == m.length <;> cases eqT x y <;> rfl
theorem Z25 (a b:Tr):eqT a b=(a.Kind == b.Kind && (a.Words == b.Words && eqL a.Kids b.Kids)):=by
 rw [eqT,Zvv a.Kids b.Kids (·∈a.Kids) a.Kids.attach (by simp)]
theorem Zw3 (x y:Tr) (xs ys:List Tr):eqL (x::xs) (y::ys)=(eqT x y && eqL xs ys):=rfl
theorem Zl4:∀ (n:Nat) (a b:Tr),SizeOf.sizeOf a < n→(eqT a b=true↔a=b)
 | 0,a,b,h=>by omega
 | n+1,a,b,hn=>by
  have ih:∀ x∈a.Kids,∀ y,eqT x y=true↔x=y:=fun x hx y=>Zl4 n x y (by have:=Qi hx;omega)
  have hl:∀ (l m:List Tr),(∀ x∈l,x∈a.Kids)→(eqL l m=true↔l=m):=fun l=>by
   induction l with
   | nil=>intro m _;cases m <;> simp [eqL]
   | cons x l ihl =>
    intro m hm
    cases m with
    | nil=>simp [eqL]
    | cons y m=>rw [Zw3,Bool.and_eq_true,ih x (hm x (.head _)) y,ihl m (fun z hz=>hm z (.tail _ hz)),List.cons.injEq]
  rw [Z25,Bool.and_eq_true,Bool.and_eq_true,hl a.Kids b.Kids (fun x hx=>hx),beq_iff_eq,beq_iff_eq]
  obtain ⟨k,w,ks⟩:=a
  obtain ⟨k',w',ks'⟩:=b
  simp
theorem Z0v {a b:Tr}:eqT a b=true↔a=b:=Zl4 _ a b (Nat.lt_succ_self _)
theorem Zc9 {t:Tr} (h:t.Kind=0):nrm t=⟨0,[],[]⟩:=by rw [Kp,if_pos h]
theorem Zdy {t:Tr} (h:t.Kind=1):nrm t=⟨1,tr (fun x=>x == 0) t.Words,tr (fun x=>x.Kind == 0) (t.Kids.map nrm)⟩:=by rw [Kp,if_neg (by rw [h];decide),if_pos h]
theorem Zc8 {t:Tr} (h0:¬ t.Kind=0) (h1:¬ t.Kind=1):nrm t=⟨t.Kind,t.Words,t.Kids.map nrm⟩:=by rw [Kp,if_neg h0,if_neg h1]
def pt (t:Tr):Nat:=1+t.Words.length+(t.Kids.attach.map fun k=>pt k.1).sum
termination_by SizeOf.sizeOf t
decreasing_by exact Qi k.2
theorem Z38 (t:Tr):pt t=1+t.Words.length+(t.Kids.map pt).sum:=by
 rw [pt]
 simp only [List.attach_map_val]
theorem Zk0:∀ (k:Nat) (t:Tr) (d left:Int),Bd t→SizeOf.sizeOf t < k→0≤d→d≤100→0≤left→left≤1000000→∃ r,Zz k t d left=some r∧-1≤r∧r≤1000000∧(0≤r→r+pt t≤left)
 | 0,t,_,_,_,h,_,_,_,_=>by omega
 | k+1,t,d,left,hb,hk,hd0,hd1,hl0,hl1=>by
  have ih:∀ x∈t.Kids,∀ d left:Int,0≤d→d≤100→0≤left→left≤1000000→∃ r,Zz k x d left=some r∧-1≤r∧r≤1000000∧(0≤r→r+pt x≤left):=fun x hx d left=>Zk0 k x d left (hb.all x hx) (by have:=Qi hx;omega)
  have hw:=hb.w
  have hkd:=hb.k
  show ∃ r,Y5 (Zz k) t d left=some r∧_
  unfold Y5
  rw [Qh (x:=left - 1) (by omega) (by omega),Qh (by omega) (by omega),Z38]
  cases hc:cond (d == 0) true (decide (left - 1 - (t.Words.length:Int) < 0)) with
  | true=>exact ⟨-1,rfl,by omega,by omega,fun h=>by omega⟩
  | false =>
   rw [cond_false]
   have hd:¬ d=0∧0≤left - 1 - (t.Words.length:Int):=by
    by_cases h:d=0
    ·simp [h] at hc
    have e:(d == 0)=false:=by simp [h]
    rw [e,cond_false,decide_eq_false_iff_not] at hc
    exact ⟨h,by omega⟩
   obtain ⟨r,h1,h2⟩:=Kx (step:=Yy (Zz k) t d)
    (fun s=>∃ j:Nat,s.2=j∧j≤t.Kids.length∧-1≤s.1∧s.1≤1000000∧(0≤s.1→s.1+(((t.Kids.take j).map pt).sum:Nat)≤left - 1 - (t.Words.length:Int)))
    (fun s=>t.Kids.length - s.2.toNat) (fun r=>-1≤r∧r≤1000000∧(0≤r→r+((t.Kids.map pt).sum:Nat)≤left - 1 - (t.Words.length:Int))) (fun s hI=>by
     obtain ⟨l,i⟩:=s
     obtain ⟨j,rfl,hj,g1,g2,g3⟩:=hI
     simp only at g1 g2 g3 ⊢
     unfold Yy
     simp only
     by_cases hji:j < t.Kids.length
     ·rw [Ub hji,cond_true]
      by_cases hl:0≤l
      ·have e:decide (0≤l)=true:=by simp [hl]
       have hx:t.Kids[j]? = some t.Kids[j]:=List.getElem?_eq_getElem hji
       obtain ⟨r,q1,q2,q3,q4⟩:=ih t.Kids[j] (List.getElem_mem hji) (d - 1) l (by omega) (by omega) hl g2
       rw [e,cond_true,Yn hx,Option.bind_some,Qh (by omega) (by omega),q1,Option.bind_some,Qh (by omega) (by omega)]
       refine .inl ⟨_,rfl,⟨j+1,by simp only;omega,by omega,q2,q3,fun hr => ?_⟩,by simp only;omega⟩
       have:=q4 hr
       have:=g3 hl
       rw [List.take_add_one,hx]
       simp only [Option.toList_some,List.map_append,List.map_cons,List.map_nil,List.sum_append,List.sum_cons,List.sum_nil]
       simp only at hr
       omega
      have e:decide (0≤l)=false:=by simp [hl]
      rw [e,cond_false]
      exact .inr ⟨l,rfl,g1,g2,fun h=>absurd h hl⟩
     have hj':j=t.Kids.length:=by omega
     subst hj'
     rw [Ua,cond_false]
     rw [List.take_length] at g3
     exact .inr ⟨l,rfl,g1,g2,g3⟩) (left - 1 - (t.Words.length:Int),0) ⟨0,rfl,Nat.zero_le _,by simp only;omega,by simp only;omega,fun _=>by simp⟩
   rw [h1]
   refine ⟨r,rfl,h2.1,h2.2.1,fun hr => ?_⟩
   have:=h2.2.2 hr
   omega
theorem Zc3 {α:Type} {xs:List α} {i:Int} {x:α} (h:Xw xs i=some x):x∈xs:=List.mem_of_getElem? (Zgr h)
theorem Zhc:∀ (k k':Nat) (t:Tr) (d left:Int),SizeOf.sizeOf t < k→SizeOf.sizeOf t < k'→Zz k t d left=Zz k' t d left
 | 0,_,t,_,_,h,_=>by omega
 | k+1,0,t,_,_,_,h=>by omega
 | k+1,k'+1,t,d,left,h,h'=>by
  show Y5 (Zz k) t d left=Y5 (Zz k') t d left
  have e:Yy (Zz k) t d=Yy (Zz k') t d:=funext fun s=>by
   unfold Yy
   cases hx:Xw t.Kids s.2 with
   | none=>rfl
   | some x=>simp only [Option.bind_some,Zhc k k' x (IntKind.i64.wrap (d - 1)) s.1 (by have:=Qi (Zc3 hx);omega) (by have:=Qi (Zc3 hx);omega)]
  unfold Y5
  rw [e]
theorem Zfh {t:Tr} (h:Bd t) {left:Int} (h0:0≤left) (h1:left≤1000000):∃ r,Xm t 80 left=some r∧-1≤r∧r≤1000000∧(0≤r→r+pt t≤left):=by
 obtain ⟨r,h2,h3⟩:=Zk0 (SizeOf.sizeOf t+1) t 80 left h (by omega) (by omega) (by omega) h0 h1
 exact ⟨r,Zav (SizeOf.sizeOf t+1) fun k hk=>by rw [Zhc k (SizeOf.sizeOf t+1) t 80 left (by omega) (by omega)];exact h2,h3⟩
def wid (c:Int):Nat:=if c=0 then 0 else if c=1 then 1 else if c=2 then 8 else if c=3 then 16 else if c=4 then 32 else 64
def Zs6 (c w:Int):Bool:=decide (w < 2 ^ wid c)
theorem Zr2 {c:Int} (h0:0≤c) (h1:c≤5):c=0∨c=1∨c=2∨c=3∨c=4∨c=5:=by omega
theorem Zsn (n:Nat) (hn:n≤64) (w:Int) (h0:0≤w) (h1:w < 18446744073709551616):Zm (Y7 (n:Int)) (w,0)=some (w / 2 ^ n):=by
 have key:∀ m i:Nat,i+m=n→Zm (Y7 (n:Int)) (w / 2 ^ i,(i:Int))=some (w / 2 ^ n):=fun m=>by
  induction m with
  | zero =>
   intro i hi
   have:i=n:=by omega
   subst this
   refine Yg ?_
   unfold Y7
   simp only
   rw [Ua,cond_false]
  | succ m ih =>
   intro i hi
   have hp:(0:Int) < 2 ^ i:=Int.pow_pos (by decide)
   have q0:0≤w / 2 ^ i:=Int.ediv_nonneg h0 (Int.le_of_lt hp)
   have q1:w / 2 ^ i≤w:=Int.ediv_le_self _ h0
   have hs:Y7 (n:Int) (w / 2 ^ i,(i:Int))=some (.inl (w / 2 ^ (i+1),((i+1:Nat):Int))):=by
    unfold Y7
    simp only
    rw [Ub (by omega),cond_true,Qh (by omega) (by omega),Int.tdiv_eq_ediv_of_nonneg q0]
    have e:w / 2 ^ i / 2=w / 2 ^ (i+1):=by rw [Int.ediv_ediv_of_nonneg (Int.le_of_lt hp),Int.pow_succ]
    have q2:0≤w / 2 ^ i / 2:=Int.ediv_nonneg q0 (by decide)
    have q3:w / 2 ^ i / 2≤w / 2 ^ i:=Int.ediv_le_self _ q0
    have e3:IntKind.u64.wrap (w / 2 ^ i / 2)=w / 2 ^ i / 2:=by
     exact Zwm ⟨q2,by omega⟩
    rw [e3,e]
    rfl
   rw [Ys hs]
   exact ih (i+1) (by omega)
 have:=key n 0 (by omega)
 simpa using this
theorem Zyd {c w:Int} (h0:0≤c) (h1:c≤5) (hw:0≤w) (hw':w < 18446744073709551616):Q8 c w=some (Zs6 c w):=by
 have e:∀ n:Nat,n≤64→(cond (decide ((n:Int) < 0)) (some false) ((Zm (Y7 (n:Int)) (w,0)).bind fun (z4:Int)=>some (z4 == 0)))=some (decide (w < 2 ^ n)):=fun n hn=>by
  have:decide ((n:Int) < 0)=false:=by rw [decide_eq_false_iff_not];omega
  have hp:(0:Int) < 2 ^ n:=Int.pow_pos (by decide)
  rw [this,cond_false,Zsn n hn w hw hw',Option.bind_some]
  congr 1
  rw [Bool.eq_iff_iff,beq_iff_eq,decide_eq_true_eq]
  constructor
  ·intro h
   rcases Int.lt_or_le w (2 ^ n) with h2 | h2
   ·exact h2
   have:=Int.ediv_le_ediv hp h2
   rw [Int.ediv_self (Int.ne_of_gt hp)] at this
   omega
  intro h;exact Int.ediv_eq_zero_of_lt hw h
 unfold Q8 Zs6
 rcases Zr2 h0 h1 with rfl | rfl | rfl | rfl | rfl | rfl
 ·exact e 0 (by decide)
 ·exact e 1 (by decide)
 ·exact e 8 (by decide)
 ·exact e 16 (by decide)
 ·exact e 32 (by decide)
 exact e 64 (by decide)
def okk (kind:Int) (k:Tr):Bool:=if 2≤kind∧kind≤7 then k.Kind == 10 && Zs6 (kind - 2) (k.Words.headD 0) else k.Kind != 10 && (kind != 9 || k.Kind == 1)
def rt (t:Tr) (d:Nat):Bool :=
 if t.Kind=0 then t.Words.length == 0 && t.Kids.length == 0
 else if t.Kind=10 then t.Words.length == 1 && t.Kids.length == 0
 else if t.Kind < 0∨10 < t.Kind∨d=0∨65536≤t.Words.length∨(t.Kind=1∧65536≤t.Kids.length)∨1048576≤t.Kids.length∨(1 < t.Kind∧0 < t.Words.length) then false
 else (t.Kids.attach.map fun k=>rt k.1 (d - 1) && okk t.Kind k.1).all id
termination_by SizeOf.sizeOf t
decreasing_by exact Qi k.2
theorem Zd7 (t:Tr) (d:Nat):rt t d=if t.Kind=0 then t.Words.length == 0 && t.Kids.length == 0
 else if t.Kind=10 then t.Words.length == 1 && t.Kids.length == 0
 else if t.Kind < 0∨10 < t.Kind∨d=0∨65536≤t.Words.length∨(t.Kind=1∧65536≤t.Kids.length)∨1048576≤t.Kids.length∨(1 < t.Kind∧0 < t.Words.length) then false
 else t.Kids.all fun k=>rt k (d - 1) && okk t.Kind k:=by
 rw [rt]
 have:(t.Kids.attach.map fun k=>rt k.1 (d - 1) && okk t.Kind k.1)=t.Kids.map fun k=>rt k (d - 1) && okk t.Kind k:=List.attach_map_val (f:=fun k=>rt k (d - 1) && okk t.Kind k)
 rw [this,List.all_map]
 rfl
theorem Zwl {t:Tr} (h:t.Kind=10) {d:Nat} (hr:rt t d=true):∃ w,t.Words=[w]:=by
 rw [Zd7,if_neg (by omega),if_pos h,Bool.and_eq_true,beq_iff_eq] at hr
 obtain ⟨k,w,ks⟩:=t
 obtain ⟨h1,_⟩:=hr
 simp only at h1 ⊢
 exact List.length_eq_one_iff.1 h1
theorem Z02 {n:Nat}:((n:Int) == 0)=(n == 0):=by rw [Bool.eq_iff_iff,beq_iff_eq,beq_iff_eq];omega
theorem Z6j {n:Nat}:((n:Int) == 1)=(n == 1):=by rw [Bool.eq_iff_iff,beq_iff_eq,beq_iff_eq];omega
theorem G4 (a b:Bool):cond a b false=(a && b):=by cases a <;> rfl
theorem Zs0 {α:Type} (p:α→Bool):∀ l:List α,l.any (fun x => !p x) = !(l.all p)
 | []=>rfl
 | x::l=>by rw [List.any_cons,List.all_cons,Zs0 p l];cases p x <;> rfl
theorem Zem {α R:Type} (xs:List α) (step:Int→Option (Int ⊕ R)) (p:α→Bool) (e o:R) (hl:(xs.length:Int)≤140737488355328)
  (h1:∀ (i:Nat) (x:α),i < xs.length→xs[i]? = some x→x∈xs→step i=some (if p x=true then .inl (IntKind.i64.wrap ((i:Int)+1)) else .inr e)) (h2:step xs.length=some (.inr o)):Zm step 0=some (if xs.all p=true then o else e):=by
 rw [Zxk xs step (fun x => !p x) e o hl (fun i x hi hx hm=>by rw [h1 i x hi hx hm];cases p x <;> rfl) h2,Zs0]
 cases xs.all p <;> rfl
theorem Zmq:∀ (k:Nat) (t:Tr) (d:Nat),Bd t→SizeOf.sizeOf t < k→d≤64→Xq k t (d:Int)=some (rt t d)
 | 0,t,d,_,h,_=>by omega
 | k+1,t,d,hb,hk,hd=>by
  have hkd:=hb.k
  show Jl (Xq k) t (d:Int)=_
  unfold Jl
  rw [Zd7,Z02,Z6j]
  by_cases h0:t.Kind=0
  ·rw [if_pos h0,h0]
   simp only [Z02,G4]
   rfl
  have e0:(t.Kind == 0)=false:=by simp [h0]
  rw [if_neg h0,e0,cond_false]
  by_cases h10:t.Kind=10
  ·rw [if_pos h10,h10]
   simp only [Z02,G4]
   rfl
  have e10:(t.Kind == 10)=false:=by simp [h10]
  rw [if_neg h10,e10,cond_false]
  by_cases hbad:t.Kind < 0∨10 < t.Kind∨d=0∨65536≤t.Words.length∨(t.Kind=1∧65536≤t.Kids.length)∨1048576≤t.Kids.length∨(1 < t.Kind∧0 < t.Words.length)
  ·rw [if_pos hbad]
   have hc:∀ c1 c2 c3 c4 c5 c6 c7 c8:Bool,(c1=true∨c2=true∨c3=true∨c4=true∨(c5=true∧c6=true)∨c7=true∨c8=true)→∀ X:Option Bool,
     cond (cond (cond (cond (cond (cond c1 true c2) true c3) true c4) true (cond c5 c6 false)) true c7) (some false) (cond c8 (some false) X)=some false:=by
    intro c1 c2 c3 c4 c5 c6 c7 c8 h X
    cases c1 <;> cases c2 <;> cases c3 <;> cases c4 <;> cases c5 <;> cases c6 <;> cases c7 <;> cases c8 <;> first | rfl | (simp at h;done)
   refine hc _ _ _ _ _ _ _ _ ?_ _
   simp only [decide_eq_true_eq,beq_iff_eq,G4,Bool.and_eq_true]
   omega
  rw [if_neg hbad]
  have hg:¬ t.Kind < 0∧¬ 10 < t.Kind∧¬ d=0∧¬ 65536≤t.Words.length∧¬ (t.Kind=1∧65536≤t.Kids.length)∧¬ 1048576≤t.Kids.length∧¬ (1 < t.Kind∧0 < t.Words.length):=by omega
  have hc:∀ c1 c2 c3 c4 c5 c7 c8:Bool,c1=false→c2=false→c3=false→c4=false→c5=false→c7=false→c8=false→∀ X:Option Bool,
    cond (cond (cond (cond (cond (cond c1 true c2) true c3) true c4) true c5) true c7) (some false) (cond c8 (some false) X)=X:=by
   intro c1 c2 c3 c4 c5 c7 c8 h1 h2 h3 h4 h5 h7 h8 X
   subst h1 h2 h3 h4 h5 h7 h8
   rfl
  rw [hc _ _ _ _ _ _ _ (decide_eq_false hg.1) (decide_eq_false hg.2.1) (by rw [beq_eq_false_iff_ne];omega) (by rw [decide_eq_false_iff_not];omega) (by rw [G4,Bool.and_eq_false_iff,beq_eq_false_iff_ne,decide_eq_false_iff_not];omega) (by rw [decide_eq_false_iff_not];omega) (by rw [G4,Bool.and_eq_false_iff,decide_eq_false_iff_not,decide_eq_false_iff_not];omega)]
  obtain ⟨d',rfl⟩:∃ d',d=d'+1:=⟨d - 1,by omega⟩
  have ih:∀ x∈t.Kids,Xq k x (d':Int)=some (rt x d'):=fun x hx=>Zmq k x d' (hb.all x hx) (by have:=Qi hx;omega) (by omega)
  rw [Zem t.Kids (Qj (Xq k) t ((d'+1:Nat):Int)) (fun x=>rt x d' && okk t.Kind x) (.inl ()) (.inr ()) (by omega) (fun i x hi hx hm=>by
   unfold Qj
   have ed:((d'+1:Nat):Int) - 1=(d':Int):=by omega
   rw [Ub hi,cond_true,Yn hx,Option.bind_some,Qh (x:=((d'+1:Nat):Int) - 1) (by omega) (by omega),ed,ih x hm,Option.bind_some]
   cases hr:rt x d' with
   | false=>rfl
   | true =>
    rw [Bool.not_true,cond_false,Bool.true_and]
    unfold okk
    by_cases hdt:2≤t.Kind∧t.Kind≤7
    ·have e2:decide (2≤t.Kind)=true:=decide_eq_true hdt.1
     have e7:decide (t.Kind≤7)=true:=decide_eq_true hdt.2
     have e9:(t.Kind == 9)=false:=by rw [beq_eq_false_iff_ne];omega
     rw [e2,e7,e9,if_pos hdt]
     simp only [cond_true,cond_false]
     by_cases hx10:x.Kind=10
     ·obtain ⟨w,hw⟩:=Zwl hx10 hr
      have hu:=(hb.all x hm).u w (by rw [hw];exact .head _)
      have ex:(x.Kind == 10)=true:=by simp [hx10]
      have ex2:((true:Bool) != true)=false:=rfl
      have hg0:Xw [w] (0:Int)=some w:=rfl
      rw [ex,ex2,cond_false,hw,hg0,Option.bind_some,Qh (by omega) (by omega),Zyd (by omega) (by omega) hu.1 hu.2,Option.bind_some]
      simp only [cond_false,List.headD_cons,Bool.true_and]
      cases Zs6 (t.Kind - 2) w <;> rfl
     have ex:(x.Kind == 10)=false:=by simp [hx10]
     rw [ex]
     rfl
    have ed2:cond (decide (2≤t.Kind)) (decide (t.Kind≤7)) false=false:=by
     rw [G4,Bool.and_eq_false_iff,decide_eq_false_iff_not,decide_eq_false_iff_not];omega
    rw [ed2,if_neg hdt]
    have hin:∀ (X:Option Bool) (b:Bool),(cond (decide (2≤t.Kind)) (cond (decide (t.Kind≤7)) X (some b)) (some b))=some b:=fun X b=>by
     by_cases h2:2≤t.Kind
     ·have h7:decide (t.Kind≤7)=false:=by rw [decide_eq_false_iff_not];omega
      rw [decide_eq_true h2,h7];rfl
     rw [decide_eq_false h2];rfl
    by_cases hx10:x.Kind=10
    ·have ex:(x.Kind == 10)=true:=by simp [hx10]
     have ex2:(x.Kind != 10)=false:=by simp [hx10]
     rw [ex,ex2]
     rfl
    have ex:(x.Kind == 10)=false:=by simp [hx10]
    have ex2:(x.Kind != 10)=true:=by simp [hx10]
    have ex3:((false:Bool) != false)=false:=rfl
    rw [ex,ex2,ex3,cond_false]
    simp only [cond_false]
    rw [hin]
    by_cases h9:t.Kind=9
    ·have e9:(t.Kind == 9)=true:=by simp [h9]
     have e9':(t.Kind != 9)=false:=by simp [h9]
     rw [e9,e9',cond_true]
     by_cases hx1:x.Kind=1
     ·have q1:(x.Kind != 1)=false:=by simp [hx1]
      have q2:(x.Kind == 1)=true:=by simp [hx1]
      rw [q1,q2,cond_false]
      rfl
     have q1:(x.Kind != 1)=true:=by simp [hx1]
     have q2:(x.Kind == 1)=false:=by simp [hx1]
     rw [q1,q2,cond_true]
     rfl
    have e9:(t.Kind == 9)=false:=by simp [h9]
    have e9':(t.Kind != 9)=true:=by simp [h9]
    rw [e9,e9']
    rfl) (by unfold Qj;rw [Ua];rfl),Option.bind_some,Nat.add_sub_cancel]
  cases t.Kids.all fun x=>rt x d' && okk t.Kind x <;> rfl
theorem Zff {t:Tr} (h:Bd t) {d:Nat} (hd:d≤64):Qs t (d:Int)=some (rt t d):=Zav (SizeOf.sizeOf t+1) fun k hk=>Zmq k t d h (by omega) hd
end Go.Proofs.Ytjeakjakgocoaaa
