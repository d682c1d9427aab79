/- Part RM1 of this seat's mirrors: functions of the seat's program, and the plain functions that they are; each theorem bears its own conditions. -/
import Derived.Test.YtbjcopkgdjombaaRD
namespace Go.Proofs.Ytbjcopkgdjombaa
open Go.RowKit
set_option linter.unusedVariables false
set_option linter.unusedSimpArgs false
set_option maxRecDepth 100000
set_option maxHeartbeats 4000000
attribute [local push_cast] Try.results107 Try.results25 Try.results36 Try.results39 Try.results40 Try.results42 Try.results45 Try.results46 Try.results47 Try.results50 Try.results68 Try.results69 Try.results75 Try.results76 vI vB nV sL oR Ui Ze Xt Yg Zn X4 Z2d Z2c Z3g Z3f Xe Yi Zxf Zqt Zqs onW Jt Zil Zg2 Zxg Zxh Zut Zux Zus Zuw Zy4 Zy1 Zuv Zy3 Zy2 Zuu Zyz Zrp evS wok Vi Op.operands Call.operands gop onK onP atK List.all_cons List.all_nil Bool.and_true Bool.true_and Bool.and_self Value.oneCell' List.take_zero List.take_succ_cons List.take_nil List.drop_zero List.drop_succ_cons List.drop_nil List.append_nil Nat.add_zero Nat.zero_add Zb1 Xd ev Vy Zhx Z14 Z13 Z19 Z17 Z18 Z15 Z16 Z12 Zxd Zz8 Z5m Zoi Zji Znq Zit Zty Zlz Zn5 Zoa Zqn Zqk Zn8 Zqm Zql Zn7 Zqi Zn6 Zn9 Zmx Zqj Zqw Zqv Zg3 Zpl Zg4 Zqr Zoe Z2i bLo bHi bMx Zjj Zqq Z7i Zod Zp9 Zlr Zes Z0z Z7l Zpj Z7q Zjh Ybj Zxr Zxv Zxq Zxu Z2y Z2v Z2t Zt1 Zxs Z2x Z2w Zxt Z2u Zog gone Zyl Zrh Zrg pop TK.isAgg Z28 Z3c Z27 Z3b Zyd Z7z Z7w Z3a Z7y Z7x Z29 Z7v G.under G.unders List.getD_cons_zero List.getD_cons_succ List.set_cons_zero List.set_cons_succ List.map_cons List.map_nil List.toList_toArray Array.toList_append Option.toArray_none Option.toArray_some Array.toList_map Option.map_some Option.map_none Option.bind_some Option.bind_none List.getElem?_cons_zero List.getElem?_cons_succ List.getElem?_nil List.nil_append List.cons_append List.replicate_succ List.replicate_zero List.length_cons List.length_nil and_true true_and and_false false_and Bool.true_eq_false Bool.false_eq_true forall_const false_implies implies_true IntKind.bits if_true if_false ite_true ite_false eq_self true_implies false_or or_false or_true true_or not_true_eq_false not_false_eq_true decide_true decide_false decide_eq_true_eq decide_eq_false_iff_not beq_iff_eq bne_iff_ne ne_eq Bool.not_eq_true Bool.not_eq_false beq_eq_false_iff_ne bne_eq_false_iff_eq beq_self_eq_true bne_self_eq_false Option.some.injEq exists_eq_left' exists_eq_left ge_iff_le gt_iff_lt decide_not Bool.not_true Bool.not_false imp_self Z7n cond_true cond_false Yid Yic Bool.not_not Bool.and_false Bool.false_and Bool.or_true Bool.true_or Bool.or_false Bool.false_or Uv Za8 Un K7 Xp Yz Option.join_some Nat.add_assoc Int.toNat_natCast eI eB eS eL Xz Zpk Zof Z2h Z2f Z2g Ybv Yds Zpq Zoy Z3p Z3n Z3o Z53 Zsd Z5g Zs5 Z1v Zmd Z1x List.length_append G.agg.injEq G.row.injEq G.ref.injEq G.val.injEq G.sl.injEq G.tup.injEq Value.int.injEq Value.bool.injEq Value.string.injEq List.cons.injEq exists_and_left exists_const List.flatten_cons List.flatten_nil Int.le_refl Nat.le_refl Ju Y6 Xh Bool.not_eq_true' Bool.not_eq_false' Z41 Ztb Z9a Z9e Z89 Z9d Yfo Yfj List.size_toArray Zvu Zyo G.ren G.rens Z0i Zl8 Z3v Z1z Z10 Zy0 Z9f Zia G.fn.injEq Zz2 Zz3 Z40 Yfk Zz1 Z9c Yfn Yfm Z9b Z7t Ydd Option.join_none Yk Zbo undef Zqb Arr.len Arr.put_eq Zpp Zuh Zrd Zox Z3m Z3k Z3l onB Ybu Z0y Zyu Zwg Zwh Zwi Zwj Zwk Zwl Zt7 Zuk Zui Zrf Zoz Zuj Zyk Zyj Zyi Zyh Ydr Ygw Z52 Z3h U9 Z5w Zvk Zul Zre Z71 Zyw Zoc Zp8 Zkh Zs3 Zwm Zwn Zwo Zwp Ztf Ztg Zth Zti Ztj Ztk Ztl Zko prT Zhl Yi2 Z8z Z6p Z80 Yi3 Z81 Z6q Z82 Yi4 Z83 Yi5 Z84 Yi6 Z85 Yi7 Z86 Yei Z35 Yej Z36 Yek Z37 Yel Z38 Yem Z39 Yen Z4a Yeo Z4b Yep Z4c Yeq Z4d Yer Z4e Yes Z4f Yet Zwc Z6o Zih Yeu Z4g Zac Z4h Yev Znk Yew Znl Yex Zwd Yey Z4i Zy7 Z4j Zny Z4k Yez Z4l Zhk Z4m Ye0 Z4n Zel Z4o Ye1 Z4p Zfm Z4q Z6r Zwe Ye2 Z4r Ye3 Z4s Ye4 Z4t Yay Z4u Ye5 Z4v Ye6 Z4w Z8a Zy9 Z8b Zza Z8c Zzb Z8d Zzc Z8e Zzd Z8f Zze Z8g Zzf Z8h Zzg Z8i Zzh Z8j Zzi Z8k Zzj Z8l Zzk Z8m Zzl Z8n Zzm Z8o Zzn Z8p Zzo Z8q Zzp Z8r Zzq Z8s Zzr Z8t Zzs Z8u Zzt Z8v Zzu Z8w Zzv Z8x Zzw Z8y Zzx Za Y1 Zr0 Zry Zq0 Zrb Zr2 Zpe Zo4 Zo2 Zrv Zja Zi9 Ziv Zi1 Zjb Zii Zie Zid Zi7 Zg Jq Zf Zi X5 Qg Xb Zfw Zft Zev Zfb Zf1 Zee Zea Zd7 Zfo Zgk Zgi Zgb Zge Zgm Zfr Zfj Zfh Zgg Zlj Zli Zkv Zk5 Zlk Zj8 Zj4 Zj3 Zlh Zu6 Zu5 Zt0 Zuf Zu7 Zrw Zrk Zrj Zuz Y3 Zfx Zfu Zew Zfc Zf2 Zef Zeb Zd8 Zfp Yv Zeh Zeg Zd0 Zd5 Zei Zc4 Zc3 Zc2 Zec Y2 Zfv Zfs Zeu Zfa Zf0 Zed Zd9 Zd6 Zfn Z6 Zgj Zgh Zga Zgd Zgl Zfq Zfi Zfg Zgf Zrz Zrx Zqz Zra Zr1 Zpd Zo3 Zo1 Zru
def Zhh (Jm:(Zb→Int→Int→Option Int)):Prop:=∀ {a0:Zb} {a1:Int} {a2:Int} {r:Int} {O:Objs} {n:Nat},Jm a0 a1 a2=some r→GTo Try.prog 68 [.agg (Zn a0),(vI a1),(vI a2)] O n ((vI r)) O n
theorem Zm9 {Jm:(Zb→Int→Int→Option Int)} (Zml:Zhh Jm) {a0:Zb} {a1:Int} {a2:Int} {r:Int} {O:Objs} {n:Nat} (h:Jj Jm a0 a1 a2=some r):GTo Try.prog 68 [.agg (Zn a0),(vI a1),(vI a2)] O n ((vI r)) O n:=by
 unfold Jj at h
 refine zFn Try.call68 Try.func68 fun hU hN0 hN => ?_
 show W _ _ _ _ ⟨41,[],[(0,.agg (Zn a0)),(1,(vI a1)),(2,(vI a2))]⟩ (Zv O n []) _
 refine zQ [1,2,3] ?_
 refine zQ [1,2,3] ?_
 refine Zk ?_
 refine zQD [1,2,3,19] [none,none] ?_
 refine Zt (t:=(cond (a1 == 0) true (decide ((IntKind.i64.wrap ((IntKind.i64.wrap (a2 - 1)) - (a0.Words.length:Int))) < 0)))) rfl (fun c5 => ?_) (fun c5 => ?_)
 ·replace h:=Zs c5 h
  refine zQ [6] ?_
  exact Yu [(vI (-1))]
 replace h:=Zr c5 h
 refine Kq [1,2,3] [true] ?_
 refine Zk ?_
 refine zQd [1,2,3,7] [1,2,3,7] [true] ?_
 obtain ⟨z4,hz4,h⟩:=bC h
 refine Yy (E':=⟨41,[],[(2,(vI z4))]⟩) (O':=(Zv O n [none])) (n0:=(n+1)) ?_ ?_
 ·refine Xj hz4 (fun s0_=>⟨41,[],[(1,(vI a1)),(2,(vI s0_.1)),(3,.ref n 0),(7,(vI s0_.2))]⟩) (fun s0_=>(Zv O n [some ⟨false,25,3,1,(Zn a0)⟩])) (fun z4=>JX 0 n (⟨41,[],[(2,(vI z4))]⟩:Env) (Zv O n [none]) (n+1)) ?_
  intro s0_ x0_ hs0_
  unfold Q8 at hs0_
  try dsimp only
  refine Zk ?_
  refine zQD [1,2,3,7,28] [none,none] ?_
  refine Zt (t:=(cond (decide (s0_.2 < (a0.Kids.length:Int))) (decide (0≤s0_.1)) false)) rfl (fun c3 => ?_) (fun c3 => ?_)
  ·replace hs0_:=Zs c3 hs0_
   refine Kq [1,2,3,7] [true] ?_
   refine Zk ?_
   refine Ya ?_
   obtain ⟨x1,hx1,ax1,bx1,cx1,hs0_⟩:=bE (f:=Za) Zac (fun _=>rfl) (by decide) hs0_
   obtain ⟨y2,hy2,hs0_⟩:=bC hs0_
   refine Zby [] ax1 bx1 cx1 ?_
   refine (Zml hy2).then ?_
   refine zF3 ax1 bx1 cx1 ?_
   refine zD [1,2,3,7] [true] ?_
   refine zR ?_
   exact zEn hs0_
  replace hs0_:=Zr c3 hs0_
  exact zEx hs0_
 try simp only [Xe,Yi,↓reduceIte,Nat.reduceEqDiff]
 refine zD [2] [false] ?_
 refine zQ [6] ?_
 exact Yu [(vI z4)]
theorem Zl0:∀ k,(Zhh (Xm k)):=fun k=>by
 induction k with
 | zero=>exact @fun a0 a1 a2 r O n h=>(nomatch (show (none:Option _)=some _ from h))
 | succ k ih=>exact @fun a0 a1 a2 r O n h=>Zm9 (ih)  h
theorem Zbb {a0:Zb} {a1:Int} {a2:Int} {r:Int} {O:Objs} {n:Nat} (h:Q0 a0 a1 a2=some r):GTo Try.prog 68 [.agg (Zn a0),(vI a1),(vI a2)] O n ((vI r)) O n:=by
 obtain ⟨k,hk⟩:=Zax h
 exact (Zl0 k)  hk
def Zjr (Q1:(Zc→Int→Int→Option Int)):Prop:=∀ {a0:Zc} {a1:Int} {a2:Int} {r:Int} {O:Objs} {n:Nat},Q1 a0 a1 a2=some r→GTo Try.prog 50 [.agg (Ze a0),(vI a1),(vI a2)] O n ((vI r)) O n
theorem Zp6 {Q1:(Zc→Int→Int→Option Int)} (Zjt:Zjr Q1) {a0:Zc} {a1:Int} {a2:Int} {r:Int} {O:Objs} {n:Nat} (h:Jd Q1 a0 a1 a2=some r):GTo Try.prog 50 [.agg (Ze a0),(vI a1),(vI a2)] O n ((vI r)) O n:=by
 unfold Jd at h
 refine zFn Try.call50 Try.func50 fun hU hN0 hN => ?_
 show W _ _ _ _ ⟨107,[],[(0,.agg (Ze a0)),(1,(vI a1)),(2,(vI a2))]⟩ (Zv O n []) _
 refine zQ [1,2,3] ?_
 refine zQ [1,2,3] ?_
 refine Zk ?_
 refine zQD [1,2,3,25] [none,none] ?_
 refine Zt (t:=(cond (a1 == 0) true (decide ((IntKind.i64.wrap ((IntKind.i64.wrap ((IntKind.i64.wrap (a2 - 1)) - (a0.Words.length:Int))) - (a0.Ops.length:Int))) < 0)))) rfl (fun c28 => ?_) (fun c28 => ?_)
 ·replace h:=Zs c28 h
  refine zQ [6] ?_
  exact Yu [(vI (-1))]
 replace h:=Zr c28 h
 refine Kq [1,2,3] [true] ?_
 refine Zk ?_
 obtain ⟨y2,hy2,h⟩:=bC h
 refine zCd (Zbb hy2) [1,2,3] [true] ?_
 obtain ⟨z3,hz3,h⟩:=bC h
 refine Xl (E':=⟨107,[],[(1,(vI a1)),(2,(vI z3)),(3,.ref n 0)]⟩) (O':=(Zv O n [some ⟨false,30,11,1,(Ze a0)⟩])) (n0:=(n+1)) ?_ ?_
 ·refine zQ [1,2,3,31] ?_
  refine Zt (t:=(decide (0≤y2))) rfl (fun c5 => ?_) (fun c5 => ?_)
  ·replace hz3:=Zs c5 hz3
   obtain ⟨y4,hy4,hz3⟩:=bC hz3
   refine zC (Zbb hy4) ?_
   exact zEn hz3
  replace hz3:=Zr c5 hz3
  refine zK ?_
  exact zEn hz3
 refine Zk ?_
 refine zQd [1,2,3,7] [1,2,3,7] [true] ?_
 obtain ⟨z10,hz10,h⟩:=bC h
 refine Yy (E':=⟨107,[],[(1,(vI a1)),(2,(vI z10)),(3,.ref n 0)]⟩) (O':=(Zv O n [some ⟨false,30,11,1,(Ze a0)⟩])) (n0:=(n+1)) ?_ ?_
 ·refine Xj hz10 (fun s0_=>⟨107,[],[(1,(vI a1)),(2,(vI s0_.1)),(3,.ref n 0),(7,(vI s0_.2))]⟩) (fun s0_=>(Zv O n [some ⟨false,30,11,1,(Ze a0)⟩])) (fun z10=>JX 0 n (⟨107,[],[(1,(vI a1)),(2,(vI z10)),(3,.ref n 0)]⟩:Env) (Zv O n [some ⟨false,30,11,1,(Ze a0)⟩]) (n+1)) ?_
  intro s0_ x0_ hs0_
  unfold Qx at hs0_
  try dsimp only
  refine Zk ?_
  refine zQD [1,2,3,7,44] [none,none] ?_
  refine Zt (t:=(cond (decide (s0_.2 < (a0.Kids.length:Int))) (decide (0≤s0_.1)) false)) rfl (fun c9 => ?_) (fun c9 => ?_)
  ·replace hs0_:=Zs c9 hs0_
   refine Kq [1,2,3,7] [true] ?_
   refine Zk ?_
   refine Ya ?_
   obtain ⟨x6,hx6,ax6,bx6,cx6,hs0_⟩:=bE (f:=Zi) Zfm (fun _=>rfl) (by decide) hs0_
   have g7:=Zhg (f:=Zi) (off:=1) (sz:=12) Zy7 (fun _=>rfl) (by decide) (by decide) hx6
   obtain ⟨y8,hy8,hs0_⟩:=bC hs0_
   refine Z1n [] ax6 bx6 cx6 g7 ?_
   refine (Zjt hy8).then ?_
   refine zF4 ax6 bx6 cx6 g7 ?_
   refine zD [1,2,3,7] [true] ?_
   refine zR ?_
   exact zEn hs0_
  replace hs0_:=Zr c9 hs0_
  exact zEx hs0_
 try simp only [Xe,Yi,↓reduceIte,Nat.reduceEqDiff]
 refine zDs [1,2,3] [true] ?_
 refine zQd [1,2,3,8] [1,2,3,8] [true] ?_
 obtain ⟨z27,hz27,h⟩:=bC h
 refine Yy (E':=⟨107,[],[(2,(vI z27))]⟩) (O':=(Zv O n [none])) (n0:=(n+1)) ?_ ?_
 ·refine Xj hz27 (fun s1_=>⟨107,[],[(1,(vI a1)),(2,(vI s1_.1)),(3,.ref n 0),(8,(vI s1_.2))]⟩) (fun s1_=>(Zv O n [some ⟨false,30,11,1,(Ze a0)⟩])) (fun z27=>JX 2 n (⟨107,[],[(2,(vI z27))]⟩:Env) (Zv O n [none]) (n+1)) ?_
  intro s1_ x1_ hs1_
  unfold Qy at hs1_
  try dsimp only
  refine Zk ?_
  refine zQD [1,2,3,8,65] [none,none] ?_
  refine Zt (t:=(cond (decide (s1_.2 < (a0.Ops.length:Int))) (decide (0≤s1_.1)) false)) rfl (fun c26 => ?_) (fun c26 => ?_)
  ·replace hs1_:=Zs c26 hs1_
   refine Kq [1,2,3,8] [true] ?_
   obtain ⟨z11,hz11,hs1_⟩:=bC hs1_
   refine Xl (E':=⟨107,[],[(1,(vI a1)),(2,(vI z11)),(3,.ref n 0),(8,(vI s1_.2))]⟩) (O':=(Zv O n [some ⟨false,30,11,1,(Ze a0)⟩])) (n0:=(n+1)) ?_ ?_
   ·refine Ya ?_
    refine Zk ?_
    refine zQd [1,2,3,8,9] [1,2,3,8,9] [true] ?_
    obtain ⟨z21,hz21,hz11⟩:=bC hz11
    refine Yy (E':=⟨107,[],[(1,(vI a1)),(2,(vI z21)),(3,.ref n 0),(8,(vI s1_.2))]⟩) (O':=(Zv O n [some ⟨false,30,11,1,(Ze a0)⟩])) (n0:=(n+1)) ?_ ?_
    ·refine Xj hz21 (fun s2_=>⟨107,[],[(1,(vI a1)),(2,(vI s2_.1)),(3,.ref n 0),(8,(vI s1_.2)),(9,(vI s2_.2))]⟩) (fun s2_=>(Zv O n [some ⟨false,30,11,1,(Ze a0)⟩])) (fun z21=>JX 4 n (⟨107,[],[(1,(vI a1)),(2,(vI z21)),(3,.ref n 0),(8,(vI s1_.2))]⟩:Env) (Zv O n [some ⟨false,30,11,1,(Ze a0)⟩]) (n+1)) ?_
     intro s2_ x2_ hs2_
     unfold Jk at hs2_
     try dsimp only
     refine Zk ?_
     obtain ⟨x14,hx14,ax14,bx14,cx14,hs2_⟩:=bE (f:=Zf) Zel (fun _=>rfl) (by decide) hs2_
     have g15:=Zhg (f:=Zf) (off:=2) (sz:=14) Z6o (fun _=>rfl) (by decide) (by decide) hx14
     refine Zqh [1,2,3,8,9,80] (Xf Z5 [none,none] ?_)
     refine zF4 ax14 bx14 cx14 g15 ?_
     refine zG ?_
     refine Zt (t:=(cond (decide (s2_.2 < (x14.L.length:Int))) (decide (0≤s2_.1)) false)) rfl (fun c20 => ?_) (fun c20 => ?_)
     ·replace hs2_:=Zs c20 hs2_
      refine Kq [1,2,3,8,9] [true] ?_
      refine Zk ?_
      refine Ya ?_
      obtain ⟨x16,hx16,ax16,bx16,cx16,hs2_⟩:=bE (f:=Zf) Zel (fun _=>rfl) (by decide) hs2_
      have g17:=Zhg (f:=Zf) (off:=2) (sz:=14) Z6o (fun _=>rfl) (by decide) (by decide) hx16
      obtain ⟨x18,hx18,ax18,bx18,cx18,hs2_⟩:=bE (f:=Za) Zac (fun _=>rfl) (by decide) hs2_
      obtain ⟨y19,hy19,hs2_⟩:=bC hs2_
      refine Yh1 [] ax16 bx16 cx16 g17 ax18 bx18 cx18 ?_
      refine (Zbb hy19).then ?_
      refine zF7 ax16 bx16 cx16 g17 ax18 bx18 cx18 ?_
      refine zD [1,2,3,8,9] [true] ?_
      refine zR ?_
      exact zEn hs2_
     replace hs2_:=Zr c20 hs2_
     exact zEx hs2_
    try simp only [Xe,Yi,↓reduceIte,Nat.reduceEqDiff]
    refine zD [1,2,3,8] [true] ?_
    refine zQ [1,2,3,8,95] ?_
    refine Zt (t:=(decide (0≤z21))) rfl (fun c25 => ?_) (fun c25 => ?_)
    ·replace hz11:=Zs c25 hz11
     obtain ⟨x22,hx22,ax22,bx22,cx22,hz11⟩:=bE (f:=Zf) Zel (fun _=>rfl) (by decide) hz11
     have g23:=Zhg (f:=Zf) (off:=3) (sz:=14) Zy7 (fun _=>rfl) (by decide) (by decide) hx22
     obtain ⟨y24,hy24,hz11⟩:=bC hz11
     refine Z1n [] ax22 bx22 cx22 g23 ?_
     refine (Zjt hy24).then ?_
     refine zF4 ax22 bx22 cx22 g23 ?_
     exact Yhw hz11 ax22 bx22 cx22 g23
    replace hz11:=Zr c25 hz11
    refine zK ?_
    exact zEn hz11
   refine zR ?_
   exact zEn hs1_
  replace hs1_:=Zr c26 hs1_
  exact zEx hs1_
 try simp only [Xe,Yi,↓reduceIte,Nat.reduceEqDiff]
 refine zD [2] [false] ?_
 refine zQ [6] ?_
 exact Yu [(vI z27)]
theorem Zn0:∀ k,(Zjr (Ym k)):=fun k=>by
 induction k with
 | zero=>exact @fun a0 a1 a2 r O n h=>(nomatch (show (none:Option _)=some _ from h))
 | succ k ih=>exact @fun a0 a1 a2 r O n h=>Zp6 (ih)  h
theorem Zq7 {a0:Zc} {a1:Int} {a2:Int} {r:Int} {O:Objs} {n:Nat} (h:Zej a0 a1 a2=some r):GTo Try.prog 50 [.agg (Ze a0),(vI a1),(vI a2)] O n ((vI r)) O n:=by
 obtain ⟨k,hk⟩:=Zax h
 exact (Zn0 k)  hk
theorem Zh7 {a0:Zc} {r:Bool} {O:Objs} {n:Nat} (h:U1 a0=some r):GTo Try.prog 25 [.agg (Ze a0)] O n ((vB r)) O n:=by
 unfold U1 at h
 refine zFn Try.call25 Try.func25 fun hU hN0 hN => ?_
 show W _ _ _ _ ⟨6,[],[(0,.agg (Ze a0))]⟩ (Zv O n []) _
 refine zQ [1] ?_
 refine Zk ?_
 obtain ⟨y2,hy2,h⟩:=bC h
 refine zCd (Zq7 hy2) [2] [false] ?_
 exact Yu [(vB (decide (0≤y2)))]
theorem U3 {a0:Zb} {r:Bool} {O:Objs} {n:Nat} (h:Ky a0=some r):GTo Try.prog 39 [.agg (Zn a0)] O n ((vB r)) O n:=by
 unfold Ky at h
 refine zFn Try.call39 Try.func39 fun hU hN0 hN => ?_
 show W _ _ _ _ ⟨16,[],[(0,.agg (Zn a0))]⟩ (Zv O n []) _
 refine zQ [1] ?_
 refine zQD [2] [none,none,none,none,none,none,none,none] ?_
 exact Yu [(vB (cond (a0.Kind == 0) ((IntKind.i64.wrap ((a0.Words.length:Int)+(a0.Kids.length:Int))) == 0) false))]
theorem Zp3 {a0:Int} {r:Int} {O:Objs} {n:Nat} (h:Zg6 a0=some r):GTo Try.prog 107 [(vI a0)] O n ((vI r)) O n:=by
 unfold Zg6 at h
 refine zFn Try.call107 Try.func107 fun hU hN0 hN => ?_
 show W _ _ _ _ ⟨16,[],[(0,(vI a0))]⟩ (Zv O n []) _
 refine zQ [0] ?_
 refine Zk ?_
 refine zQ [3] ?_
 refine Ya ?_
 refine zQ [3,4] ?_
 refine Zt (t:=(a0 == 0)) rfl (fun c6 => ?_) (fun c6 => ?_)
 ·replace h:=Zs c6 h
  refine zQ [2] ?_
  exact Yu [(vI 0)]
 replace h:=Zr c6 h
 refine zQ [3,6] ?_
 refine Zt (t:=(a0 == 1)) rfl (fun c5 => ?_) (fun c5 => ?_)
 ·replace h:=Zs c5 h
  refine zQ [2] ?_
  exact Yu [(vI 1)]
 replace h:=Zr c5 h
 refine zQ [3,8] ?_
 refine Zt (t:=(a0 == 2)) rfl (fun c4 => ?_) (fun c4 => ?_)
 ·replace h:=Zs c4 h
  refine zQ [2] ?_
  exact Yu [(vI 8)]
 replace h:=Zr c4 h
 refine zQ [3,10] ?_
 refine Zt (t:=(a0 == 3)) rfl (fun c3 => ?_) (fun c3 => ?_)
 ·replace h:=Zs c3 h
  refine zQ [2] ?_
  exact Yu [(vI 16)]
 replace h:=Zr c3 h
 refine zQ [3,12] ?_
 refine Zt (t:=(a0 == 4)) rfl (fun c2 => ?_) (fun c2 => ?_)
 ·replace h:=Zs c2 h
  refine zQ [2] ?_
  exact Yu [(vI 32)]
 replace h:=Zr c2 h
 refine zQ [14] ?_
 refine Zt (t:=(a0 == 5)) rfl (fun c1 => ?_) (fun c1 => ?_)
 ·replace h:=Zs c1 h
  refine zQ [2] ?_
  exact Yu [(vI 64)]
 replace h:=Zr c1 h
 refine Kq [] [] ?_
 refine zQ [2] ?_
 exact Yu [(vI (-1))]
theorem Zk0 {a0:Int} {a1:Int} {r:Bool} {O:Objs} {n:Nat} (h:Gm a0 a1=some r):GTo Try.prog 69 [(vI a0),.val (.int .u64 a1)] O n ((vB r)) O n:=by
 unfold Gm at h
 refine zFn Try.call69 Try.func69 fun hU hN0 hN => ?_
 show W _ _ _ _ ⟨20,[],[(0,(vI a0)),(1,.val (.int .u64 a1))]⟩ (Zv O n []) _
 refine zQ [0,1] ?_
 refine Zk ?_
 obtain ⟨y2,hy2,h⟩:=bC h
 refine zCd (Zp3 hy2) [1,5] [] ?_
 refine Zk ?_
 refine zQ [1,5,10] ?_
 refine Zt (t:=(decide (y2 < 0))) rfl (fun c5 => ?_) (fun c5 => ?_)
 ·replace h:=Zs c5 h
  refine zQ [4] ?_
  exact Yu [(vB false)]
 replace h:=Zr c5 h
 refine Kq [1,5] [] ?_
 refine Zk ?_
 refine zQd [1,5,6] [1,5,6] [] ?_
 obtain ⟨z4,hz4,h⟩:=bC h
 refine Yy (E':=⟨20,[],[(1,.val (.int .u64 z4))]⟩) (O':=(Zv O n [])) (n0:=n) ?_ ?_
 ·refine Xj hz4 (fun s0_=>⟨20,[],[(1,.val (.int .u64 s0_.1)),(5,(vI y2)),(6,(vI s0_.2))]⟩) (fun s0_=>(Zv O n [])) (fun z4=>JX 0 n (⟨20,[],[(1,.val (.int .u64 z4))]⟩:Env) (Zv O n []) n) ?_
  intro s0_ x0_ hs0_
  unfold Jl at hs0_
  try dsimp only
  refine Zk ?_
  refine zQ [1,5,6,13] ?_
  refine Zt (t:=(decide (s0_.2 < y2))) rfl (fun c3 => ?_) (fun c3 => ?_)
  ·replace hs0_:=Zs c3 hs0_
   refine Kq [1,5,6] [] ?_
   refine Zk ?_
   refine Ya ?_
   refine zRd [1,5,6] [] ?_
   refine zR ?_
   exact zEn hs0_
  replace hs0_:=Zr c3 hs0_
  exact zEx hs0_
 try simp only [Xe,Yi,↓reduceIte,Nat.reduceEqDiff]
 refine zD [1] [] ?_
 refine zQ [4] ?_
 exact Yu [(vB (z4 == 0))]
def Zim (Kj:(Zb→Int→Option Bool)):Prop:=∀ {a0:Zb} {a1:Int} {r:Bool} {O:Objs} {n:Nat},Kj a0 a1=some r→GTo Try.prog 36 [.agg (Zn a0),(vI a1)] O n ((vB r)) O n
theorem Zos {Kj:(Zb→Int→Option Bool)} (Zn1:Zim Kj) {a0:Zb} {a1:Int} {r:Bool} {O:Objs} {n:Nat} (h:Zai Kj a0 a1=some r):GTo Try.prog 36 [.agg (Zn a0),(vI a1)] O n ((vB r)) O n:=by
 unfold Zai at h
 refine zFn Try.call36 Try.func36 fun hU hN0 hN => ?_
 show W _ _ _ _ ⟨132,[],[(0,.agg (Zn a0)),(1,(vI a1))]⟩ (Zv O n []) _
 refine zQ [1,2] ?_
 refine Zk ?_
 refine zQ [1,2,10] ?_
 refine Zt (t:=(a0.Kind == 0)) rfl (fun c32 => ?_) (fun c32 => ?_)
 ·replace h:=Zs c32 h
  refine zQD [4] [none,none,none,none] ?_
  exact Yu [(vB (cond ((a0.Words.length:Int) == 0) ((a0.Kids.length:Int) == 0) false))]
 replace h:=Zr c32 h
 refine Kq [1,2] [true] ?_
 refine Zk ?_
 refine zQ [1,2,23] ?_
 refine Zt (t:=(a0.Kind == 10)) rfl (fun c31 => ?_) (fun c31 => ?_)
 ·replace h:=Zs c31 h
  refine zQD [4] [none,none,none,none] ?_
  exact Yu [(vB (cond ((a0.Words.length:Int) == 1) ((a0.Kids.length:Int) == 0) false))]
 replace h:=Zr c31 h
 refine Kq [1,2] [true] ?_
 refine Zk ?_
 refine zQD [1,2,68] [none,none,none,none,none,none,none,none,none,none,none,none,none,none,none,none,none,none,none,none,none,none] ?_
 refine Zt (t:=(cond (cond (cond (cond (cond (decide (a0.Kind < 0)) true (decide (10 < a0.Kind))) true (a1 == 0)) true (decide (65536≤(a0.Words.length:Int)))) true (cond (a0.Kind == 1) (decide (65536≤(a0.Kids.length:Int))) false)) true (decide (1048576≤(a0.Kids.length:Int))))) rfl (fun c30 => ?_) (fun c30 => ?_)
 ·replace h:=Zs c30 h
  refine zQ [4] ?_
  exact Yu [(vB false)]
 replace h:=Zr c30 h
 refine Kq [1,2] [true] ?_
 refine Zk ?_
 refine zQD [1,2,77] [none,none,none,none] ?_
 refine Zt (t:=(cond (decide (1 < a0.Kind)) (decide (0 < (a0.Words.length:Int))) false)) rfl (fun c29 => ?_) (fun c29 => ?_)
 ·replace h:=Zs c29 h
  refine zQ [4] ?_
  exact Yu [(vB false)]
 replace h:=Zr c29 h
 refine Kq [1,2] [true] ?_
 refine Zk ?_
 refine zQd [1,2,5] [1,2,5] [true] ?_
 obtain ⟨z28,hz28,h⟩:=bC h
 refine Zbd (J:=(Qn (fun z28=>JR n (⟨132,[],[(4,(vB false))]⟩:Env) (Zv O n [none]) (n+1)) (fun z28=>JX 0 n (⟨132,[],[]⟩:Env) (Zv O n [none]) (n+1)))) (z:=z28) ?_ fun hw => ?_
 ·refine Xj hz28 (fun s0_=>⟨132,[],[(1,(vI a1)),(2,.ref n 0),(5,(vI s0_))]⟩) (fun s0_=>(Zv O n [some ⟨false,25,3,1,(Zn a0)⟩])) (Qn (fun z28=>JR n (⟨132,[],[(4,(vB false))]⟩:Env) (Zv O n [none]) (n+1)) (fun z28=>JX 0 n (⟨132,[],[]⟩:Env) (Zv O n [none]) (n+1))) ?_
  intro s0_ x0_ hs0_
  unfold Uo at hs0_
  try dsimp only
  refine Zk ?_
  refine zQ [1,2,5,82] ?_
  refine Zt (t:=(decide (s0_ < (a0.Kids.length:Int)))) rfl (fun c27 => ?_) (fun c27 => ?_)
  ·replace hs0_:=Zs c27 hs0_
   refine Kq [1,2,5] [true] ?_
   refine Zk ?_
   refine Ya ?_
   refine Zk ?_
   obtain ⟨x2,hx2,ax2,bx2,cx2,hs0_⟩:=bE (f:=Za) Zac (fun _=>rfl) (by decide) hs0_
   refine Zby [] ax2 bx2 cx2 ?_
   refine zDs [1,2,5,6] [true,true] ?_
   refine Zk ?_
   obtain ⟨y4,hy4,hs0_⟩:=bC hs0_
   refine zCd (Zn1 hy4) [1,2,5,6,94] [true,true] ?_
   refine Zt (t:=(!y4)) rfl (fun c26 => ?_) (fun c26 => ?_)
   ·replace hs0_:=Zs c26 hs0_
    refine zQ [4] ?_
    refine zW ?_
    exact zEy hs0_
   replace hs0_:=Zr c26 hs0_
   refine Kq [1,2,5,6] [true,true] ?_
   refine zQD [1,2,5,6,7] [none,none,none] ?_
   obtain ⟨z9,hz9,hs0_⟩:=bC hs0_
   refine Xl (E':=⟨132,[],[(1,(vI a1)),(2,.ref n 0),(5,(vI s0_)),(131,(vB z9))]⟩) (O':=(Zv O n [some ⟨false,25,3,1,(Zn a0)⟩,none])) (n0:=(n+2)) ?_ ?_
   ·rcases Bool.eq_false_or_eq_true ((cond (decide (2≤a0.Kind)) (decide (a0.Kind≤7)) false) != (x2.Kind == 10)) with c18 | c18
    ·replace hz9:=Zs c18 hz9
     refine Vb Z5 (by kernel_rfl) [none,none,none,none,none,none,none,none,some false,some false,some false,some false,some false,some false,some false,some false,some false,some false,some false,some false] (by kernel_rfl) ?_
     refine zX1 c18 ?_
     refine zG ?_
     exact Kk hz9 c18
    replace hz9:=Zr c18 hz9
    rcases Bool.eq_false_or_eq_true (a0.Kind == 9) with c19 | c19
    ·replace hz9:=Zs c19 hz9
     try rw [c19] at c18
     try simp only [Bool.cond_true,Bool.cond_false,Bool.true_bne,Bool.false_bne,Bool.true_beq,Bool.false_beq,Bool.not_eq_true',Bool.not_eq_false'] at c18
     rcases Bool.eq_false_or_eq_true (x2.Kind != 1) with c20 | c20
     ·replace hz9:=Zs c20 hz9
      try rw [c20] at c18
      try rw [c20] at c19
      try simp only [Bool.cond_true,Bool.cond_false,Bool.true_bne,Bool.false_bne,Bool.true_beq,Bool.false_beq,Bool.not_eq_true',Bool.not_eq_false'] at c18
      refine Vb Z5 (by kernel_rfl) [none,none,none,none,none,none,none,none,some false,some false,some false,some false,some false,some false,some false,some false,some false,some false,some false,some false] (by kernel_rfl) ?_
      refine zX3 c18 c19 c20 ?_
      refine zG ?_
      exact Zf3 hz9 c18 c19 c20
     replace hz9:=Zr c20 hz9
     try rw [c20] at c18
     try rw [c20] at c19
     try simp only [Bool.cond_true,Bool.cond_false,Bool.true_bne,Bool.false_bne,Bool.true_beq,Bool.false_beq,Bool.not_eq_true',Bool.not_eq_false'] at c18
     rcases Bool.eq_false_or_eq_true (decide (2≤a0.Kind)) with c21 | c21
     ·replace hz9:=Zs c21 hz9
      try rw [c21] at c18
      try rw [c21] at c19
      try rw [c21] at c20
      try simp only [Bool.cond_true,Bool.cond_false,Bool.true_bne,Bool.false_bne,Bool.true_beq,Bool.false_beq,Bool.not_eq_true',Bool.not_eq_false'] at c18
      rcases Bool.eq_false_or_eq_true (decide (a0.Kind≤7)) with c22 | c22
      ·replace hz9:=Zs c22 hz9
       try rw [c22] at c18
       try rw [c22] at c19
       try rw [c22] at c20
       try rw [c22] at c21
       try simp only [Bool.cond_true,Bool.cond_false,Bool.true_bne,Bool.false_bne,Bool.true_beq,Bool.false_beq,Bool.not_eq_true',Bool.not_eq_false'] at c18
       obtain ⟨x14,hx14,ax14,bx14,cx14,hz9⟩:=bE (f:=(eI .u64)) Zny (fun _=>rfl) (by decide) hz9
       obtain ⟨y15,hy15,hz9⟩:=bC hz9
       refine Vb Z5 (by kernel_rfl) [none,none,none,none,none,none,none,none,some true,some true,some true,some true,some true,some true,some true,some true,some true,some true,some true,some true] (by kernel_rfl) ?_
       refine zF8 c18 c19 c20 c21 c22 ax14 bx14 cx14 ?_
       refine zG ?_
       refine PCall.of (Zk0 hy15) ?_
       refine zF8 c18 c19 c20 c21 c22 ax14 bx14 cx14 ?_
       refine zG ?_
       exact Yhz hz9 c18 c19 c20 c21 c22 ax14 bx14 cx14
      replace hz9:=Zr c22 hz9
      try rw [c22] at c18
      try rw [c22] at c19
      try rw [c22] at c20
      try rw [c22] at c21
      try simp only [Bool.cond_true,Bool.cond_false,Bool.true_bne,Bool.false_bne,Bool.true_beq,Bool.false_beq,Bool.not_eq_true',Bool.not_eq_false'] at c18
      refine Vb Z5 (by kernel_rfl) [none,none,none,none,none,none,none,none,some true,some true,some false,some false,some false,some false,some false,some false,some false,some false,some false,some true] (by kernel_rfl) ?_
      refine zX5 c18 c19 c20 c21 c22 ?_
      refine zG ?_
      exact Z1m hz9 c18 c19 c20 c21 c22
     replace hz9:=Zr c21 hz9
     try rw [c21] at c18
     try rw [c21] at c19
     try rw [c21] at c20
     try simp only [Bool.cond_true,Bool.cond_false,Bool.true_bne,Bool.false_bne,Bool.true_beq,Bool.false_beq,Bool.not_eq_true',Bool.not_eq_false'] at c18
     refine Vb Z5 (by kernel_rfl) [none,none,none,none,none,none,none,none,some true,some true,some false,some false,some false,some false,some false,some false,some false,some false,some false,some true] (by kernel_rfl) ?_
     refine zX4 c18 c19 c20 c21 ?_
     refine zG ?_
     exact Ztc hz9 c18 c19 c20 c21
    replace hz9:=Zr c19 hz9
    try rw [c19] at c18
    try simp only [Bool.cond_true,Bool.cond_false,Bool.true_bne,Bool.false_bne,Bool.true_beq,Bool.false_beq,Bool.not_eq_true',Bool.not_eq_false'] at c18
    rcases Bool.eq_false_or_eq_true (decide (2≤a0.Kind)) with c23 | c23
    ·replace hz9:=Zs c23 hz9
     try rw [c23] at c18
     try rw [c23] at c19
     try simp only [Bool.cond_true,Bool.cond_false,Bool.true_bne,Bool.false_bne,Bool.true_beq,Bool.false_beq,Bool.not_eq_true',Bool.not_eq_false'] at c18
     rcases Bool.eq_false_or_eq_true (decide (a0.Kind≤7)) with c24 | c24
     ·replace hz9:=Zs c24 hz9
      try rw [c24] at c18
      try rw [c24] at c19
      try rw [c24] at c23
      try simp only [Bool.cond_true,Bool.cond_false,Bool.true_bne,Bool.false_bne,Bool.true_beq,Bool.false_beq,Bool.not_eq_true',Bool.not_eq_false'] at c18
      obtain ⟨x16,hx16,ax16,bx16,cx16,hz9⟩:=bE (f:=(eI .u64)) Zny (fun _=>rfl) (by decide) hz9
      obtain ⟨y17,hy17,hz9⟩:=bC hz9
      refine Vb Z5 (by kernel_rfl) [none,none,none,none,none,none,none,none,some true,some true,some true,some true,some true,some true,some true,some true,some true,some true,some true,some true] (by kernel_rfl) ?_
      refine zF7 c18 c19 c23 c24 ax16 bx16 cx16 ?_
      refine zG ?_
      refine PCall.of (Zk0 hy17) ?_
      refine zF7 c18 c19 c23 c24 ax16 bx16 cx16 ?_
      refine zG ?_
      exact Yhy hz9 c18 c19 c23 c24 ax16 bx16 cx16
     replace hz9:=Zr c24 hz9
     try rw [c24] at c18
     try rw [c24] at c19
     try rw [c24] at c23
     try simp only [Bool.cond_true,Bool.cond_false,Bool.true_bne,Bool.false_bne,Bool.true_beq,Bool.false_beq,Bool.not_eq_true',Bool.not_eq_false'] at c18
     refine Vb Z5 (by kernel_rfl) [none,none,none,none,none,none,none,none,some true,some true,some false,some false,some false,some false,some false,some false,some false,some false,some false,some true] (by kernel_rfl) ?_
     refine zX4 c18 c19 c23 c24 ?_
     refine zG ?_
     exact Ztc hz9 c18 c19 c23 c24
    replace hz9:=Zr c23 hz9
    try rw [c23] at c18
    try rw [c23] at c19
    try simp only [Bool.cond_true,Bool.cond_false,Bool.true_bne,Bool.false_bne,Bool.true_beq,Bool.false_beq,Bool.not_eq_true',Bool.not_eq_false'] at c18
    refine Vb Z5 (by kernel_rfl) [none,none,none,none,none,none,none,none,some true,some true,some false,some false,some false,some false,some false,some false,some false,some false,some false,some true] (by kernel_rfl) ?_
    refine zX3 c18 c19 c23 ?_
    refine zG ?_
    exact Zf3 hz9 c18 c19 c23
   refine Zt (t:=z9) rfl (fun c25 => ?_) (fun c25 => ?_)
   ·replace hs0_:=Zs c25 hs0_
    refine zQ [4] ?_
    refine zW ?_
    exact zEy hs0_
   replace hs0_:=Zr c25 hs0_
   refine Kq [1,2,5] [true,false] ?_
   refine zR ?_
   exact zEn hs0_
  replace hs0_:=Zr c27 hs0_
  exact zEx hs0_
 rcases z28 with z28 | z28
 ·dsimp only [Qn] at hw h
  refine Ke hw ?_
  try simp only [Xe,Yi,↓reduceIte,Nat.reduceEqDiff]
  exact Zll [(vB false)]
 dsimp only [Qn] at hw h
 refine Yy hw ?_
 try simp only [Xe,Yi,↓reduceIte,Nat.reduceEqDiff]
 refine zD [] [false] ?_
 refine zQ [4] ?_
 exact Yu [(vB true)]
theorem Zm1:∀ k,(Zim (Ks k)):=fun k=>by
 induction k with
 | zero=>exact @fun a0 a1 r O n h=>(nomatch (show (none:Option _)=some _ from h))
 | succ k ih=>exact @fun a0 a1 r O n h=>Zos (ih)  h
theorem Zaa {a0:Zb} {a1:Int} {r:Bool} {O:Objs} {n:Nat} (h:U0 a0 a1=some r):GTo Try.prog 36 [.agg (Zn a0),(vI a1)] O n ((vB r)) O n:=by
 obtain ⟨k,hk⟩:=Zax h
 exact (Zm1 k)  hk
theorem Zkb {a0:Int} {r:(Arr Int 8)} {O:Objs} {n:Nat} (h:Uz a0=some r):GTo Try.prog 45 [.val (.int .u64 a0)] O n (.agg (fl (eI .u8) r.1)) O n:=by
 unfold Uz at h
 refine zFn Try.call45 Try.func45 fun hU hN0 hN => ?_
 show W _ _ _ _ ⟨18,[],[(0,.val (.int .u64 a0))]⟩ (Zv O n []) _
 obtain ⟨y3,hy3,ey3,h⟩:=bY (f:=(eI .u8)) (cs:=[.val (.int .u8 0),.val (.int .u8 0),.val (.int .u8 0),.val (.int .u8 0),.val (.int .u8 0),.val (.int .u8 0),.val (.int .u8 0),.val (.int .u8 0)]) rfl h
 have g4:=congrArg (GObj.mk false 65 8 1) ey3
 refine Yl2 [0,2] g4 ?_
 refine Zk ?_
 obtain ⟨y9,hy9,ey9,h⟩:=bY (f:=(eI .u8)) (cs:=[.val (.int .u8 0),.val (.int .u8 0),.val (.int .u8 0),.val (.int .u8 0),.val (.int .u8 0),.val (.int .u8 0),.val (.int .u8 0),.val (.int .u8 0)]) rfl h
 have g10:=congrArg G.agg ey9
 have g11:=congrArg (GObj.mk false 65 8 1) ey9
 have g12:=Zkr (f:=(eI .u8)) y9 y9 (fun _=>rfl)
 refine Zdu [] g10 g11 g12 ?_
 refine zDs [0,2,3] [true,true] ?_
 refine zQd [0,2,3,4] [0,2,3,4] [true,true] ?_
 obtain ⟨z18,hz18,h⟩:=bC h
 refine Yy (E':=⟨18,[],[(2,.ref n 0),(3,.ref (n+1) 0)]⟩) (O':=(Zv O n [some ⟨false,65,8,1,fl (eI .u8) y3.1⟩,some ⟨false,65,8,1,fl (eI .u8) z18.1⟩])) (n0:=(n+2)) ?_ ?_
 ·refine Xj hz18 (fun s0_=>⟨18,[],[(0,.val (.int .u64 s0_.1)),(2,.ref n 0),(3,.ref (n+1) 0),(4,(vI s0_.2.1))]⟩) (fun s0_=>(Zv O n [some ⟨false,65,8,1,fl (eI .u8) y3.1⟩,some ⟨false,65,8,1,fl (eI .u8) s0_.2.2.1⟩])) (fun z18=>JX 0 n (⟨18,[],[(2,.ref n 0),(3,.ref (n+1) 0)]⟩:Env) (Zv O n [some ⟨false,65,8,1,fl (eI .u8) y3.1⟩,some ⟨false,65,8,1,fl (eI .u8) z18.1⟩]) (n+2)) ?_
  intro s0_ x0_ hs0_
  unfold Us at hs0_
  try dsimp only
  refine Zk ?_
  refine zQ [0,2,3,4,7] ?_
  refine Zt (t:=(decide (s0_.2.1 < 8))) rfl (fun c17 => ?_) (fun c17 => ?_)
  ·replace hs0_:=Zs c17 hs0_
   refine Kq [0,2,3,4] [true,true] ?_
   refine Zk ?_
   refine Ya ?_
   refine Zk ?_
   obtain ⟨x15,hx15,ax15,bx15,cx15,hs0_⟩:=bEA (f:=(eI .u8)) (b:=8) rfl Z6q (fun _=>rfl) (by decide) hs0_
   have gu16:V5 (fl (eI .u8) s0_.2.2.1) [.val (.int .u8 (IntKind.u8.wrap (Int.tmod s0_.1 256)))] (Int.toNat s0_.2.1 * 1)=some (fl (eI .u8) (Zi5 s0_.2.2.1 s0_.2.1 (IntKind.u8.wrap (Int.tmod s0_.1 256)))):=Zmg (f:=(eI .u8)) (ti:=⟨.bool,1,0,[],false⟩) (x:=(IntKind.u8.wrap (Int.tmod s0_.1 256))) (fun _=>rfl) (Zhy hx15)
   refine Z1n [] ax15 bx15 cx15 gu16 ?_
   refine zD [0,2,3,4] [true,true] ?_
   refine zRd [0,2,3,4] [true,true] ?_
   refine zR ?_
   exact zEn hs0_
  replace hs0_:=Zr c17 hs0_
  exact zEx hs0_
 try simp only [Xe,Yi,↓reduceIte,Nat.reduceEqDiff]
 refine zDs [2,3] [true,true] ?_
 have g21:=Z01 (f:=(eI .u8)) z18 Z6r rfl (fun _=>rfl) rfl
 have g22:=Zkr (f:=(eI .u8)) y3 z18 (fun _=>rfl)
 refine K1 [] g21 g22 ?_
 refine zD [2] [true,false] ?_
 refine zW ?_
 have h:=Option.some.inj h;subst h
 have gR0:=Z01 (f:=(eI .u8)) z18 Z6r rfl (fun _=>rfl) rfl
 refine Z1u (.inr rfl) hU [.agg (fl (eI .u8) z18.1)] (by omega) ?_
 simp only [push_cast,seval,↓reduceIte,Zo,Try.results45,hN0,hN,gR0]
theorem Zp2 {a0:Int} {a1:Int} {r:Bool} {O:Objs} {n:Nat} (h:Za0 a0 a1=some r):GTo Try.prog 46 [.val (.int .u8 a0),(vI a1)] O n ((vB r)) O n:=by
 unfold Za0 at h
 refine zFn Try.call46 Try.func46 fun hU hN0 hN => ?_
 show W _ _ _ _ ⟨16,[],[(0,.val (.int .u8 a0)),(1,(vI a1))]⟩ (Zv O n []) _
 refine zQ [0,1] ?_
 refine Zk ?_
 refine zQd [0,1,5] [0,1,5] [] ?_
 obtain ⟨z2,hz2,h⟩:=bC h
 refine Yy (E':=⟨16,[],[(0,.val (.int .u8 z2))]⟩) (O':=(Zv O n [])) (n0:=n) ?_ ?_
 ·refine Xj hz2 (fun s0_=>⟨16,[],[(0,.val (.int .u8 s0_.1)),(1,(vI a1)),(5,(vI s0_.2))]⟩) (fun s0_=>(Zv O n [])) (fun z2=>JX 0 n (⟨16,[],[(0,.val (.int .u8 z2))]⟩:Env) (Zv O n []) n) ?_
  intro s0_ x0_ hs0_
  unfold K4 at hs0_
  try dsimp only
  refine Zk ?_
  refine zQ [0,1,5,8] ?_
  refine Zt (t:=(decide (s0_.2 < a1))) rfl (fun c1 => ?_) (fun c1 => ?_)
  ·replace hs0_:=Zs c1 hs0_
   refine Kq [0,1,5] [] ?_
   refine Zk ?_
   refine Ya ?_
   refine zRd [0,1,5] [] ?_
   refine zR ?_
   exact zEn hs0_
  replace hs0_:=Zr c1 hs0_
  exact zEx hs0_
 try simp only [Xe,Yi,↓reduceIte,Nat.reduceEqDiff]
 refine zD [0] [] ?_
 refine zQ [4] ?_
 exact Yu [(vB ((Int.tmod z2 2) == 1))]
theorem Zua {a0:(List Int)} {a1:Int} {r:Int} {O:Objs} {n:Nat} (h:Zgy a0 a1=some r):GTo Try.prog 47 [(sL (eI .u8) a0),(vI a1)] O n (.val (.int .u64 r)) O n:=by
 unfold Zgy at h
 refine zFn Try.call47 Try.func47 fun hU hN0 hN => ?_
 show W _ _ _ _ ⟨22,[],[(0,(sL (eI .u8) a0)),(1,(vI a1))]⟩ (Zv O n []) _
 refine zQ [0,1] ?_
 refine zQ [0,1,5] ?_
 refine Zk ?_
 refine zQd [0,1,5,6] [0,1,5,6] [] ?_
 obtain ⟨z3,hz3,h⟩:=bC h
 refine Yy (E':=⟨22,[],[(5,.val (.int .u64 z3))]⟩) (O':=(Zv O n [])) (n0:=n) ?_ ?_
 ·refine Xj hz3 (fun s0_=>⟨22,[],[(0,(sL (eI .u8) a0)),(1,(vI a1)),(5,.val (.int .u64 s0_.1)),(6,(vI s0_.2))]⟩) (fun s0_=>(Zv O n [])) (fun z3=>JX 0 n (⟨22,[],[(5,.val (.int .u64 z3))]⟩:Env) (Zv O n []) n) ?_
  intro s0_ x0_ hs0_
  unfold Za1 at hs0_
  try dsimp only
  refine Zk ?_
  refine zQ [0,1,5,6,8] ?_
  refine Zt (t:=(decide (0≤s0_.2))) rfl (fun c2 => ?_) (fun c2 => ?_)
  ·replace hs0_:=Zs c2 hs0_
   refine Kq [0,1,5,6] [] ?_
   refine Zk ?_
   refine Ya ?_
   obtain ⟨x1,hx1,ax1,bx1,cx1,hs0_⟩:=bE (f:=(eI .u8)) Z6q (fun _=>rfl) (by decide) hs0_
   refine Zby [] ax1 bx1 cx1 ?_
   refine zD [0,1,5,6] [] ?_
   refine zR ?_
   exact zEn hs0_
  replace hs0_:=Zr c2 hs0_
  exact zEx hs0_
 try simp only [Xe,Yi,↓reduceIte,Nat.reduceEqDiff]
 refine zD [5] [] ?_
 refine zQ [4] ?_
 exact Yu [.val (.int .u64 z3)]
theorem Zsp {a0:Int} {a1:Int} {a2:Int} {r:Int} {O:Objs} {n:Nat} (h:Zcb a0 a1 a2=some r):GTo Try.prog 75 [.val (.int .u64 a0),.val (.int .u64 a1),.val (.int .u8 a2)] O n (.val (.int .u64 r)) O n:=by
 unfold Zcb at h
 refine zFn Try.call75 Try.func75 fun hU hN0 hN => ?_
 show W _ _ _ _ ⟨28,[],[(0,.val (.int .u64 a0)),(1,.val (.int .u64 a1)),(2,.val (.int .u8 a2))]⟩ (Zv O n []) _
 refine zQ [0,1,2] ?_
 refine Zk ?_
 obtain ⟨y8,hy8,h⟩:=bC h
 obtain ⟨y9,hy9,h⟩:=bC h
 obtain ⟨y10,hy10,ey10,h⟩:=bY (f:=(eI .u8)) (cs:=[.val (.int .u8 0),.val (.int .u8 0),.val (.int .u8 0),.val (.int .u8 0),.val (.int .u8 0),.val (.int .u8 0),.val (.int .u8 0),.val (.int .u8 0)]) rfl h
 have g11:=congrArg (GObj.mk false 65 8 1) ey10
 have g12:=congrArg (GObj.mk false 65 8 1) ey10
 have g13:=Zkr (f:=(eI .u8)) y10 y8 (fun _=>rfl)
 have g14:=Zkr (f:=(eI .u8)) y10 y9 (fun _=>rfl)
 refine Ztd [] g11 g12 g13 g14 ?_
 refine (Zkb hy8).then ?_
 refine zX4 g11 g12 g13 g14 ?_
 refine (Zkb hy9).then ?_
 refine zX4 g11 g12 g13 g14 ?_
 refine zDs [2,7,8] [true,true] ?_
 refine zQd [2,7,8,9] [2,7,8,9] [true,true] ?_
 obtain ⟨z23,hz23,h⟩:=bC h
 refine Yy (E':=⟨28,[],[(7,.ref n 0)]⟩) (O':=(Zv O n [some ⟨false,65,8,1,fl (eI .u8) z23.1⟩,none])) (n0:=(n+2)) ?_ ?_
 ·refine Xj hz23 (fun s0_=>⟨28,[],[(2,.val (.int .u8 a2)),(7,.ref n 0),(8,.ref (n+1) 0),(9,(vI s0_.1))]⟩) (fun s0_=>(Zv O n [some ⟨false,65,8,1,fl (eI .u8) s0_.2.1⟩,some ⟨false,65,8,1,fl (eI .u8) y9.1⟩])) (fun z23=>JX 0 n (⟨28,[],[(7,.ref n 0)]⟩:Env) (Zv O n [some ⟨false,65,8,1,fl (eI .u8) z23.1⟩,none]) (n+2)) ?_
  intro s0_ x0_ hs0_
  unfold G7 at hs0_
  try dsimp only
  refine Zk ?_
  refine zQ [2,7,8,9,15] ?_
  refine Zt (t:=(decide (s0_.1 < 8))) rfl (fun c22 => ?_) (fun c22 => ?_)
  ·replace hs0_:=Zs c22 hs0_
   refine Kq [2,7,8,9] [true,true] ?_
   obtain ⟨z15,hz15,hs0_⟩:=bC hs0_
   refine Xl (E':=⟨28,[],[(2,.val (.int .u8 a2)),(7,.ref n 0),(8,.ref (n+1) 0),(9,(vI s0_.1))]⟩) (O':=(Zv O n [some ⟨false,65,8,1,fl (eI .u8) z15.1⟩,some ⟨false,65,8,1,fl (eI .u8) y9.1⟩])) (n0:=(n+2)) ?_ ?_
   ·refine Ya ?_
    refine Zk ?_
    obtain ⟨y17,hy17,hz15⟩:=bC hz15
    refine zCd (Zp2 hy17) [2,7,8,9,20] [true,true] ?_
    refine Zt (t:=y17) rfl (fun c21 => ?_) (fun c21 => ?_)
    ·replace hz15:=Zs c21 hz15
     obtain ⟨x18,hx18,ax18,bx18,cx18,hz15⟩:=bEA (f:=(eI .u8)) (b:=8) rfl Z6q (fun _=>rfl) (by decide) hz15
     obtain ⟨x19,hx19,ax19,bx19,cx19,hz15⟩:=bEA (f:=(eI .u8)) (b:=8) rfl Z6q (fun _=>rfl) (by decide) hz15
     have gu20:V5 (fl (eI .u8) s0_.2.1) [.val (.int .u8 x18)] (Int.toNat s0_.1 * 1)=some (fl (eI .u8) (Zi5 s0_.2.1 s0_.1 x18)):=Zmg (f:=(eI .u8)) (ti:=⟨.bool,1,0,[],false⟩) (x:=x18) (fun _=>rfl) (Zhy hx19)
     refine Yh1 [] ax18 bx18 cx18 ax19 bx19 cx19 gu20 ?_
     exact Yhy hz15 ax18 bx18 cx18 ax19 bx19 cx19 gu20
    replace hz15:=Zr c21 hz15
    refine zK ?_
    exact zEn hz15
   refine zR ?_
   exact zEn hs0_
  replace hs0_:=Zr c22 hs0_
  exact zEx hs0_
 try simp only [Xe,Yi,↓reduceIte,Nat.reduceEqDiff]
 refine zDs [7] [true,false] ?_
 have g27:=Z7o (j:=n) Zwe Z6q (by decide)
 have g28:=z23.2
 obtain ⟨y29,hy29,h⟩:=bC h
 refine K1 [] g27 g28 ?_
 refine GCalls.lend (Zua hy29) rfl ?_ ?_
 ·exact Jn g27 g28
 refine zX2 g27 g28 ?_
 refine zD [6] [false,false] ?_
 exact Yu [.val (.int .u64 y29)]
theorem Ze6 {a0:Int} {a1:Int} {r:Bool} {O:Objs} {n:Nat} (h:Ue a0 a1=some r):GTo Try.prog 40 [.val (.int .u64 a0),.val (.int .u8 a1)] O n ((vB r)) O n:=by
 unfold Ue at h
 refine zFn Try.call40 Try.func40 fun hU hN0 hN => ?_
 show W _ _ _ _ ⟨9,[],[(0,.val (.int .u64 a0)),(1,.val (.int .u8 a1))]⟩ (Zv O n []) _
 refine zQ [0,1] ?_
 refine Zk ?_
 obtain ⟨y2,hy2,h⟩:=bC h
 refine zCd (Zsp hy2) [4] [] ?_
 exact Yu [(vB (y2 == 0))]
theorem Zk1 {a0:Zc} {r:Bool} {O:Objs} {n:Nat} (h:Gp a0=some r):GTo Try.prog 76 [.agg (Ze a0)] O n ((vB r)) O n:=by
 unfold Gp at h
 refine zFn Try.call76 Try.func76 fun hU hN0 hN => ?_
 show W _ _ _ _ ⟨35,[],[(0,.agg (Ze a0))]⟩ (Zv O n []) _
 refine zQ [1] ?_
 obtain ⟨z3,hz3,h⟩:=bC h
 refine Xl (E':=⟨35,[],[(2,(vB z3))]⟩) (O':=(Zv O n [none])) (n0:=(n+1)) ?_ ?_
 ·rcases Bool.eq_false_or_eq_true (a0.Kind == 0) with c8 | c8
  ·replace hz3:=Zs c8 hz3
   obtain ⟨y6,hy6,hz3⟩:=bC hz3
   rcases Bool.eq_false_or_eq_true y6 with c9 | c9
   ·replace hz3:=Zs c9 hz3
    try rw [c9] at c8
    obtain ⟨y7,hy7,hz3⟩:=bC hz3
    refine K1 [some true,some true,some true,some true,some true,some true,none,none,none,none,none,none,none,none,none,none,none,none,none,none,none] c8 c9 ?_
    refine zG ?_
    refine (U3 hy6).then ?_
    refine zX2 c8 c9 ?_
    refine zG ?_
    refine (U3 hy7).then ?_
    refine zX2 c8 c9 ?_
    refine zG ?_
    exact Zck hz3 c8 c9
   replace hz3:=Zr c9 hz3
   try rw [c9] at c8
   refine K1 [some true,some true,some true,some false,some false,some false,some false,some false,some false,some false,some false,some false,some false,some false,some false,some false,some false,some false,some false,some false,some false] c8 c9 ?_
   refine (U3 hy6).then ?_
   refine zX2 c8 c9 ?_
   exact Zck hz3 c8 c9
  replace hz3:=Zr c8 hz3
  refine Vf [some false,some false,some false,some false,some false,some false,some false,some false,some false,some false,some false,some false,some false,some false,some false,some false,some false,some false,some false,some false,some false] c8 ?_
  exact Kk hz3 c8
 exact Yu [(vB z3)]
theorem Zio {a0:Zc} {r:(Int×Int)} {O:Objs} {n:Nat} (h:Vo a0=some r):GTo Try.prog 42 [.agg (Ze a0)] O n (.tup [(vI r.1),(vI r.2)]) O n:=by
 unfold Vo at h
 refine zFn Try.call42 Try.func42 fun hU hN0 hN => ?_
 show W _ _ _ _ ⟨48,[],[(0,.agg (Ze a0))]⟩ (Zv O n []) _
 refine zQ [1] ?_
 refine zQ [1,4,5] ?_
 refine Zk ?_
 refine zQd [1,4,5,6] [1,4,5,6] [true] ?_
 obtain ⟨z14,hz14,h⟩:=bC h
 refine Yy (E':=⟨48,[],[(4,(vI z14.1)),(5,(vI z14.2))]⟩) (O':=(Zv O n [none])) (n0:=(n+1)) ?_ ?_
 ·refine Xj hz14 (fun s0_=>⟨48,[],[(1,.ref n 0),(4,(vI s0_.1)),(5,(vI s0_.2.1)),(6,(vI s0_.2.2))]⟩) (fun s0_=>(Zv O n [some ⟨false,30,11,1,(Ze a0)⟩])) (fun z14=>JX 0 n (⟨48,[],[(4,(vI z14.1)),(5,(vI z14.2))]⟩:Env) (Zv O n [none]) (n+1)) ?_
  intro s0_ x0_ hs0_
  unfold Vp at hs0_
  try dsimp only
  refine Zk ?_
  refine zQ [1,4,5,6,13] ?_
  refine Zt (t:=(decide (s0_.2.2 < (a0.Ops.length:Int)))) rfl (fun c13 => ?_) (fun c13 => ?_)
  ·replace hs0_:=Zs c13 hs0_
   refine Kq [1,4,5,6] [true] ?_
   obtain ⟨z1,hz1,hs0_⟩:=bC hs0_
   refine Xl (E':=⟨48,[],[(1,.ref n 0),(4,(vI z1.1)),(5,(vI z1.2)),(6,(vI s0_.2.2))]⟩) (O':=(Zv O n [some ⟨false,30,11,1,(Ze a0)⟩,none])) (n0:=(n+2)) ?_ ?_
   ·refine Ya ?_
    refine Zk ?_
    obtain ⟨x3,hx3,ax3,bx3,cx3,hz1⟩:=bE (f:=Zf) Zel (fun _=>rfl) (by decide) hz1
    refine Zby [] ax3 bx3 cx3 ?_
    refine zD [1,4,5,6,7] [true,true] ?_
    refine zQ [1,4,5,6,7,8] ?_
    obtain ⟨z4,hz4,hz1⟩:=bC hz1
    refine Xl (E':=⟨48,[],[(1,.ref n 0),(4,(vI s0_.1)),(5,(vI s0_.2.1)),(6,(vI s0_.2.2)),(7,.ref (n+1) 0),(8,(vI z4))]⟩) (O':=(Zv O n [some ⟨false,30,11,1,(Ze a0)⟩,some ⟨false,53,14,1,(Yg x3)⟩])) (n0:=(n+2)) ?_ ?_
    ·refine zQ [1,4,5,6,7,8,29] ?_
     refine Zt (t:=(x3.Kind == 3)) rfl (fun c5 => ?_) (fun c5 => ?_)
     ·replace hz4:=Zs c5 hz4
      refine zR ?_
      exact zEn hz4
     replace hz4:=Zr c5 hz4
     refine zK ?_
     exact zEn hz4
    obtain ⟨z6,hz6,hz1⟩:=bC hz1
    refine Xl (E':=⟨48,[],[(1,.ref n 0),(4,(vI z6)),(5,(vI s0_.2.1)),(6,(vI s0_.2.2)),(7,.ref (n+1) 0),(8,(vI z4))]⟩) (O':=(Zv O n [some ⟨false,30,11,1,(Ze a0)⟩,some ⟨false,53,14,1,(Yg x3)⟩])) (n0:=(n+2)) ?_ ?_
    ·refine zQ [1,4,5,6,7,8,32] ?_
     refine Zt (t:=(x3.Kind != 2)) rfl (fun c7 => ?_) (fun c7 => ?_)
     ·replace hz6:=Zs c7 hz6
      refine zR ?_
      exact zEn hz6
     replace hz6:=Zr c7 hz6
     refine zK ?_
     exact zEn hz6
    obtain ⟨z8,hz8,hz1⟩:=bC hz1
    refine Xl (E':=⟨48,[],[(1,.ref n 0),(4,(vI z6)),(5,(vI z8)),(6,(vI s0_.2.2))]⟩) (O':=(Zv O n [some ⟨false,30,11,1,(Ze a0)⟩,none])) (n0:=(n+2)) ?_ ?_
    ·refine zQ [1,4,5,6,8,38] ?_
     refine Zt (t:=(x3.Kind != 1)) rfl (fun c9 => ?_) (fun c9 => ?_)
     ·replace hz8:=Zs c9 hz8
      refine zR ?_
      exact zEn hz8
     replace hz8:=Zr c9 hz8
     refine zK ?_
     exact zEn hz8
    obtain ⟨z10,hz10,hz1⟩:=bC hz1
    refine Xl (E':=⟨48,[],[(1,.ref n 0),(4,(vI z10)),(5,(vI z8)),(6,(vI s0_.2.2))]⟩) (O':=(Zv O n [some ⟨false,30,11,1,(Ze a0)⟩,none])) (n0:=(n+2)) ?_ ?_
    ·refine zQ [1,4,5,6,43] ?_
     refine Zt (t:=(decide (1048576 < z6))) rfl (fun c11 => ?_) (fun c11 => ?_)
     ·replace hz10:=Zs c11 hz10
      refine zR ?_
      exact zEn hz10
     replace hz10:=Zr c11 hz10
     refine zK ?_
     exact zEn hz10
    refine zQ [1,4,5,6,45] ?_
    refine Zt (t:=(decide (1048576 < z8))) rfl (fun c12 => ?_) (fun c12 => ?_)
    ·replace hz1:=Zs c12 hz1
     refine zR ?_
     exact zEn hz1
    replace hz1:=Zr c12 hz1
    refine zK ?_
    exact zEn hz1
   refine zR ?_
   exact zEn hs0_
  replace hs0_:=Zr c13 hs0_
  exact zEx hs0_
 try simp only [Xe,Yi,↓reduceIte,Nat.reduceEqDiff]
 refine zD [4,5] [false] ?_
 refine zQ [2,3] ?_
 exact Yu [(vI z14.1),(vI z14.2)]
attribute [local push_cast] Try.results108 Try.results109 Try.results110 Try.results111 Try.results112 Try.results113 Try.results17 Try.results26 Try.results41 Try.results43 Try.results44 Try.results70 Try.results73 Try.results74 Try.results8
def Zd2 (X8:(Zc→Int→Option Bool)):Prop:=∀ {a0:Zc} {a1:Int} {r:Bool} {O:Objs} {n:Nat},X8 a0 a1=some r→GTo Try.prog 17 [.agg (Ze a0),(vI a1)] O n ((vB r)) O n
def Zg9 (Q7:(Int→Zh→Int→Option Bool)):Prop:=∀ {a0:Int} {a1:Zh} {a2:Int} {r:Bool} {O:Objs} {n:Nat},Q7 a0 a1 a2=some r→GTo Try.prog 41 [(vI a0),.agg (Yg a1),(vI a2)] O n ((vB r)) O n
theorem Zou {X8:(Zc→Int→Option Bool)} {Q7:(Int→Zh→Int→Option Bool)} (Zd3:Zd2 X8) (Zk3:Zg9 Q7) {a0:Zc} {a1:Int} {r:Bool} {O:Objs} {n:Nat} (h:Zak X8 Q7 a0 a1=some r):GTo Try.prog 17 [.agg (Ze a0),(vI a1)] O n ((vB r)) O n:=by
 unfold Zak at h
 refine zFn Try.call17 Try.func17 fun hU hN0 hN => ?_
 show W _ _ _ _ ⟨216,[],[(0,.agg (Ze a0)),(1,(vI a1))]⟩ (Zv O n []) _
 refine zQ [1,2] ?_
 refine Zk ?_
 refine zQD [1,2,24] [none,none,none,none,none,none] ?_
 refine Zt (t:=(cond (cond (a1 == 0) true (decide (a0.Kind < 0))) true (decide (3 < a0.Kind)))) rfl (fun c58 => ?_) (fun c58 => ?_)
 ·replace h:=Zs c58 h
  refine zQ [4] ?_
  exact Yu [(vB false)]
 replace h:=Zr c58 h
 refine Kq [1,2] [true] ?_
 refine Zk ?_
 obtain ⟨z3,hz3,h⟩:=bC h
 refine Xl (E':=⟨216,[],[(1,(vI a1)),(2,.ref n 0),(69,(vB z3))]⟩) (O':=(Zv O n [some ⟨false,30,11,1,(Ze a0)⟩])) (n0:=(n+1)) ?_ ?_
 ·rcases Bool.eq_false_or_eq_true (a0.Kind != 1) with c8 | c8
  ·replace hz3:=Zs c8 hz3
   obtain ⟨y6,hy6,hz3⟩:=bC hz3
   rcases Bool.eq_false_or_eq_true y6 with c9 | c9
   ·replace hz3:=Zs c9 hz3
    try rw [c9] at c8
    obtain ⟨y7,hy7,hz3⟩:=bC hz3
    refine K1 [some true,some true,some true,some true,some true,some true,some true,some true,some true,none,none,none,none,none,none,none,none,none,none,none,none,none,none,none,none,none,none,none,none,none,none,none,none,none,none,none] c8 c9 ?_
    refine zG ?_
    refine (U3 hy6).then ?_
    refine zX2 c8 c9 ?_
    refine zG ?_
    refine (U3 hy7).then ?_
    refine zX2 c8 c9 ?_
    refine zG ?_
    exact Zck hz3 c8 c9
   replace hz3:=Zr c9 hz3
   try rw [c9] at c8
   refine K1 [some true,some true,some true,some true,some false,some false,some false,some true,some true,some false,some false,some false,some false,some false,some false,some false,some false,some false,some false,some false,some false,some false,some false,some false,some false,some false,some false,some false,some false,some false,some false,some false,some false,some false,some false,some false] c8 c9 ?_
   refine (U3 hy6).then ?_
   refine zX2 c8 c9 ?_
   exact Zck hz3 c8 c9
  replace hz3:=Zr c8 hz3
  refine Vf [some false,some false,some false,some false,some false,some false,some false,some false,some false,some true,some true,some true,some true,none,none,none,none,none,none,none,none,some true,none,none,none,none,none,none,none,none,none,none,none,none,none,none] c8 ?_
  refine zG ?_
  exact Kk hz3 c8
 refine Zt (t:=z3) rfl (fun c57 => ?_) (fun c57 => ?_)
 ·replace h:=Zs c57 h
  refine zQ [4] ?_
  exact Yu [(vB false)]
 replace h:=Zr c57 h
 refine Kq [1,2] [true] ?_
 refine Zk ?_
 refine zQ [1,2,72] ?_
 refine Zt (t:=(a0.Kind == 1)) rfl (fun c56 => ?_) (fun c56 => ?_)
 ·replace h:=Zs c56 h
  obtain ⟨z12,hz12,h⟩:=bC h
  refine Xl (E':=⟨216,[],[(4,(vB z12))]⟩) (O':=(Zv O n [none])) (n0:=(n+1)) ?_ ?_
  ·obtain ⟨y15,hy15,hz12⟩:=bC hz12
   rcases Bool.eq_false_or_eq_true y15 with c17 | c17
   ·replace hz12:=Zs c17 hz12
    obtain ⟨y16,hy16,hz12⟩:=bC hz12
    refine Vf [some true,some true,some true,none,none,none,none,none,none,none,none] c17 ?_
    refine zG ?_
    refine (Zaa hy15).then ?_
    refine zX1 c17 ?_
    refine zG ?_
    refine (Zaa hy16).then ?_
    refine zX1 c17 ?_
    refine zG ?_
    exact Kk hz12 c17
   replace hz12:=Zr c17 hz12
   refine Vf [some false,some false,some false,some false,some false,some false,some false,some false,some false,some false,some false] c17 ?_
   refine (Zaa hy15).then ?_
   refine zX1 c17 ?_
   exact Kk hz12 c17
  exact Yu [(vB z12)]
 replace h:=Zr c56 h
 refine Kq [1,2] [true] ?_
 refine zQ [1,2,5] ?_
 refine Zk ?_
 refine zQd [1,2,5,6] [1,2,5,6] [true] ?_
 obtain ⟨z33,hz33,h⟩:=bC h
 refine Zbd (J:=(Qn (fun z33=>JR n (⟨216,[],[(4,(vB false))]⟩:Env) (Zv O n [none]) (n+1)) (fun z33=>JX 0 n (⟨216,[],[(1,(vI a1)),(2,.ref n 0)]⟩:Env) (Zv O n [some ⟨false,30,11,1,(Ze a0)⟩]) (n+1)))) (z:=z33) ?_ fun hw => ?_
 ·refine Xj hz33 (fun s0_=>⟨216,[],[(1,(vI a1)),(2,.ref n 0),(5,(vI s0_.1)),(6,(vI s0_.2))]⟩) (fun s0_=>(Zv O n [some ⟨false,30,11,1,(Ze a0)⟩])) (Qn (fun z33=>JR n (⟨216,[],[(4,(vB false))]⟩:Env) (Zv O n [none]) (n+1)) (fun z33=>JX 0 n (⟨216,[],[(1,(vI a1)),(2,.ref n 0)]⟩:Env) (Zv O n [some ⟨false,30,11,1,(Ze a0)⟩]) (n+1))) ?_
  intro s0_ x0_ hs0_
  unfold K2 at hs0_
  try dsimp only
  refine Zk ?_
  refine zQ [1,2,5,6,97] ?_
  refine Zt (t:=(decide (s0_.2 < (a0.Words.length:Int)))) rfl (fun c32 => ?_) (fun c32 => ?_)
  ·replace hs0_:=Zs c32 hs0_
   refine Kq [1,2,5,6] [true] ?_
   refine Zk ?_
   refine Ya ?_
   refine Zk ?_
   obtain ⟨x19,hx19,ax19,bx19,cx19,hs0_⟩:=bE (f:=Zg) Zhk (fun _=>rfl) (by decide) hs0_
   refine Zby [] ax19 bx19 cx19 ?_
   refine zDs [1,2,5,6,7] [true,true] ?_
   obtain ⟨z22,hz22,hs0_⟩:=bC hs0_
   refine Xl (E':=⟨216,[],[(1,(vI a1)),(2,.ref n 0),(6,(vI s0_.2)),(7,.ref (n+1) 0),(134,(vB z22))]⟩) (O':=(Zv O n [some ⟨false,30,11,1,(Ze a0)⟩,some ⟨false,42,4,1,(X4 x19)⟩])) (n0:=(n+2)) ?_ ?_
   ·rcases Bool.eq_false_or_eq_true (decide (x19.At≤s0_.1)) with c27 | c27
    ·replace hz22:=Zs c27 hz22
     refine Vf [none,none,none,none,none,none,some false,some false,some false,some false,some false,some false,some false,some false,some false,some false,some false,some false] c27 ?_
     refine zG ?_
     exact Kk hz22 c27
    replace hz22:=Zr c27 hz22
    rcases Bool.eq_false_or_eq_true (decide (65534 < x19.At)) with c28 | c28
    ·replace hz22:=Zs c28 hz22
     try rw [c28] at c27
     refine K1 [none,none,none,none,none,none,some false,some false,some false,some false,some false,some false,some false,some false,some false,some false,some false,some false] c27 c28 ?_
     refine zG ?_
     exact Zck hz22 c27 c28
    replace hz22:=Zr c28 hz22
    try rw [c28] at c27
    rcases Bool.eq_false_or_eq_true (x19.Mask == 0) with c29 | c29
    ·replace hz22:=Zs c29 hz22
     try rw [c29] at c27
     try rw [c29] at c28
     refine Zdu [none,none,none,none,none,none,some false,some false,some false,some false,some false,some false,some false,some false,some false,some false,some false,some false] c27 c28 c29 ?_
     refine zG ?_
     exact Zf3 hz22 c27 c28 c29
    replace hz22:=Zr c29 hz22
    try rw [c29] at c27
    try rw [c29] at c28
    obtain ⟨y25,hy25,hz22⟩:=bC hz22
    rcases Bool.eq_false_or_eq_true y25 with c30 | c30
    ·replace hz22:=Zs c30 hz22
     try rw [c30] at c27
     try rw [c30] at c28
     try rw [c30] at c29
     obtain ⟨y26,hy26,hz22⟩:=bC hz22
     refine Ztd [none,none,none,none,none,none,some true,some true,some true,some true,some true,some true,some true,some true,some true,some true,some true,some true] c27 c28 c29 c30 ?_
     refine zG ?_
     refine (Ze6 hy25).then ?_
     refine zX4 c27 c28 c29 c30 ?_
     refine zG ?_
     refine (Ze6 hy26).then ?_
     refine zX4 c27 c28 c29 c30 ?_
     refine zG ?_
     exact Ztc hz22 c27 c28 c29 c30
    replace hz22:=Zr c30 hz22
    try rw [c30] at c27
    try rw [c30] at c28
    try rw [c30] at c29
    refine Ztd [none,none,none,none,none,none,some true,some true,some true,some true,some true,some true,some false,some false,some false,some false,some false,some false] c27 c28 c29 c30 ?_
    refine zG ?_
    refine (Ze6 hy25).then ?_
    refine zX4 c27 c28 c29 c30 ?_
    refine zG ?_
    exact Ztc hz22 c27 c28 c29 c30
   refine Zt (t:=z22) rfl (fun c31 => ?_) (fun c31 => ?_)
   ·replace hs0_:=Zs c31 hs0_
    refine zQ [4] ?_
    refine zW ?_
    exact zEy hs0_
   replace hs0_:=Zr c31 hs0_
   refine Kq [1,2,6,7] [true,true] ?_
   refine zRd [1,2,5,6] [true,false] ?_
   refine zR ?_
   exact zEn hs0_
  replace hs0_:=Zr c32 hs0_
  exact zEx hs0_
 rcases z33 with z33 | z33
 ·dsimp only [Qn] at hw h
  refine Ke hw ?_
  try simp only [Xe,Yi,↓reduceIte,Nat.reduceEqDiff]
  exact Zll [(vB false)]
 dsimp only [Qn] at hw h
 refine Yy hw ?_
 try simp only [Xe,Yi,↓reduceIte,Nat.reduceEqDiff]
 refine zD [1,2] [true] ?_
 refine zQ [1,2,5] ?_
 refine Zk ?_
 refine zQd [1,2,5,8] [1,2,5,8] [true] ?_
 obtain ⟨z45,hz45,h⟩:=bC h
 refine Zbd (J:=(Qn (fun z45=>JR n (⟨216,[],[(4,(vB false))]⟩:Env) (Zv O n [none]) (n+1)) (fun z45=>JX 2 n (⟨216,[],[(1,(vI a1)),(2,.ref n 0)]⟩:Env) (Zv O n [some ⟨false,30,11,1,(Ze a0)⟩]) (n+1)))) (z:=z45) ?_ fun hw => ?_
 ·refine Xj hz45 (fun s1_=>⟨216,[],[(1,(vI a1)),(2,.ref n 0),(5,(vI s1_.1)),(8,(vI s1_.2))]⟩) (fun s1_=>(Zv O n [some ⟨false,30,11,1,(Ze a0)⟩])) (Qn (fun z45=>JR n (⟨216,[],[(4,(vB false))]⟩:Env) (Zv O n [none]) (n+1)) (fun z45=>JX 2 n (⟨216,[],[(1,(vI a1)),(2,.ref n 0)]⟩:Env) (Zv O n [some ⟨false,30,11,1,(Ze a0)⟩]) (n+1))) ?_
  intro s1_ x1_ hs1_
  unfold K3 at hs1_
  try dsimp only
  refine Zk ?_
  refine zQ [1,2,5,8,141] ?_
  refine Zt (t:=(decide (s1_.2 < (a0.Kids.length:Int)))) rfl (fun c44 => ?_) (fun c44 => ?_)
  ·replace hs1_:=Zs c44 hs1_
   refine Kq [1,2,5,8] [true] ?_
   refine Zk ?_
   refine Ya ?_
   refine Zk ?_
   obtain ⟨x35,hx35,ax35,bx35,cx35,hs1_⟩:=bE (f:=Zi) Zfm (fun _=>rfl) (by decide) hs1_
   refine Zby [] ax35 bx35 cx35 ?_
   refine zDs [1,2,5,8,9] [true,true] ?_
   obtain ⟨z37,hz37,hs1_⟩:=bC hs1_
   refine Xl (E':=⟨216,[],[(1,(vI a1)),(2,.ref n 0),(8,(vI s1_.2)),(9,.ref (n+1) 0),(171,(vB z37))]⟩) (O':=(Zv O n [some ⟨false,30,11,1,(Ze a0)⟩,some ⟨false,55,12,1,(Xt x35)⟩])) (n0:=(n+2)) ?_ ?_
   ·rcases Bool.eq_false_or_eq_true (decide (x35.At≤s1_.1)) with c40 | c40
    ·replace hz37:=Zs c40 hz37
     refine Vf [none,none,none,none,none,none,none,some false,some false,some false,some false,some false,some false] c40 ?_
     refine zG ?_
     exact Kk hz37 c40
    replace hz37:=Zr c40 hz37
    rcases Bool.eq_false_or_eq_true (decide (65534 < x35.At)) with c41 | c41
    ·replace hz37:=Zs c41 hz37
     try rw [c41] at c40
     refine K1 [none,none,none,none,none,none,none,some false,some false,some false,some false,some false,some false] c40 c41 ?_
     refine zG ?_
     exact Zck hz37 c40 c41
    replace hz37:=Zr c41 hz37
    try rw [c41] at c40
    rcases Bool.eq_false_or_eq_true (x35.E.Kind == 0) with c42 | c42
    ·replace hz37:=Zs c42 hz37
     try rw [c42] at c40
     try rw [c42] at c41
     refine Zdu [none,none,none,none,none,none,none,some false,some false,some false,some false,some false,some false] c40 c41 c42 ?_
     refine zG ?_
     exact Zf3 hz37 c40 c41 c42
    replace hz37:=Zr c42 hz37
    try rw [c42] at c40
    try rw [c42] at c41
    obtain ⟨y39,hy39,hz37⟩:=bC hz37
    refine Zdu [none,none,none,none,none,none,none,some true,some true,some true,some true,some true,some true] c40 c41 c42 ?_
    refine zG ?_
    refine (Zd3 hy39).then ?_
    refine zX3 c40 c41 c42 ?_
    refine zG ?_
    exact Zf3 hz37 c40 c41 c42
   refine Zt (t:=z37) rfl (fun c43 => ?_) (fun c43 => ?_)
   ·replace hs1_:=Zs c43 hs1_
    refine zQ [4] ?_
    refine zW ?_
    exact zEy hs1_
   replace hs1_:=Zr c43 hs1_
   refine Kq [1,2,8,9] [true,true] ?_
   refine zRd [1,2,5,8] [true,false] ?_
   refine zR ?_
   exact zEn hs1_
  replace hs1_:=Zr c44 hs1_
  exact zEx hs1_
 rcases z45 with z45 | z45
 ·dsimp only [Qn] at hw h
  refine Ke hw ?_
  try simp only [Xe,Yi,↓reduceIte,Nat.reduceEqDiff]
  exact Zll [(vB false)]
 dsimp only [Qn] at hw h
 refine Yy hw ?_
 try simp only [Xe,Yi,↓reduceIte,Nat.reduceEqDiff]
 refine zDs [1,2] [true] ?_
 refine zQD [1,2,186] [none,none,none,none,none,none,none,none] ?_
 refine Zt (t:=(cond (a0.Kind == 3) (cond (decide (a0.List_ < 2)) true (decide (9 < a0.List_))) false)) rfl (fun c55 => ?_) (fun c55 => ?_)
 ·replace h:=Zs c55 h
  refine zQ [4] ?_
  exact Yu [(vB false)]
 replace h:=Zr c55 h
 refine Kq [1,2] [true] ?_
 refine Zk ?_
 refine zQd [1,2,10] [1,2,10] [true] ?_
 obtain ⟨z52,hz52,h⟩:=bC h
 refine Zbd (J:=(Qn (fun z52=>JR n (⟨216,[],[(4,(vB false))]⟩:Env) (Zv O n [none]) (n+1)) (fun z52=>JX 4 n (⟨216,[],[(2,.ref n 0)]⟩:Env) (Zv O n [some ⟨false,30,11,1,(Ze a0)⟩]) (n+1)))) (z:=z52) ?_ fun hw => ?_
 ·refine Xj hz52 (fun s2_=>⟨216,[],[(1,(vI a1)),(2,.ref n 0),(10,(vI s2_))]⟩) (fun s2_=>(Zv O n [some ⟨false,30,11,1,(Ze a0)⟩])) (Qn (fun z52=>JR n (⟨216,[],[(4,(vB false))]⟩:Env) (Zv O n [none]) (n+1)) (fun z52=>JX 4 n (⟨216,[],[(2,.ref n 0)]⟩:Env) (Zv O n [some ⟨false,30,11,1,(Ze a0)⟩]) (n+1))) ?_
  intro s2_ x2_ hs2_
  unfold J3 at hs2_
  try dsimp only
  refine Zk ?_
  refine zQ [1,2,10,191] ?_
  refine Zt (t:=(decide (s2_ < (a0.Ops.length:Int)))) rfl (fun c51 => ?_) (fun c51 => ?_)
  ·replace hs2_:=Zs c51 hs2_
   refine Kq [1,2,10] [true] ?_
   refine Zk ?_
   refine Ya ?_
   refine Zk ?_
   obtain ⟨x48,hx48,ax48,bx48,cx48,hs2_⟩:=bE (f:=Zf) Zel (fun _=>rfl) (by decide) hs2_
   obtain ⟨y49,hy49,hs2_⟩:=bC hs2_
   refine Vb Z5 (by kernel_rfl) [] (by kernel_rfl) ?_
   refine zF3 ax48 bx48 cx48 ?_
   refine PCall.of (Zk3 hy49) ?_
   refine zF3 ax48 bx48 cx48 ?_
   refine zD [1,2,10,204] [true] ?_
   refine Zt (t:=(!y49)) rfl (fun c50 => ?_) (fun c50 => ?_)
   ·replace hs2_:=Zs c50 hs2_
    refine zQ [4] ?_
    refine zW ?_
    exact zEy hs2_
   replace hs2_:=Zr c50 hs2_
   refine Kq [1,2,10] [true] ?_
   refine zR ?_
   exact zEn hs2_
  replace hs2_:=Zr c51 hs2_
  exact zEx hs2_
 rcases z52 with z52 | z52
 ·dsimp only [Qn] at hw h
  refine Ke hw ?_
  try simp only [Xe,Yi,↓reduceIte,Nat.reduceEqDiff]
  exact Zll [(vB false)]
 dsimp only [Qn] at hw h
 refine Yy hw ?_
 try simp only [Xe,Yi,↓reduceIte,Nat.reduceEqDiff]
 refine zDs [2] [true] ?_
 obtain ⟨y54,hy54,h⟩:=bC h
 refine zCd (Zio hy54) [11,12] [false] ?_
 refine zQD [4] [none,none] ?_
 exact Yu [(vB (cond (decide (y54.1 < 1048576)) (decide (y54.2 < 1048576)) false))]
theorem Zsq {X8:(Zc→Int→Option Bool)} {Q7:(Int→Zh→Int→Option Bool)} (Zd3:Zd2 X8) (Zk3:Zg9 Q7) {a0:Int} {a1:Zh} {a2:Int} {r:Bool} {O:Objs} {n:Nat} (h:Zc6 X8 Q7 a0 a1 a2=some r):GTo Try.prog 41 [(vI a0),.agg (Yg a1),(vI a2)] O n ((vB r)) O n:=by
 unfold Zc6 at h
 refine zFn Try.call41 Try.func41 fun hU hN0 hN => ?_
 show W _ _ _ _ ⟨121,[],[(0,(vI a0)),(1,.agg (Yg a1)),(2,(vI a2))]⟩ (Zv O n []) _
 refine zQ [0,2,4] ?_
 refine Zk ?_
 refine zQ [0,2,4,10] ?_
 refine Zt (t:=(a1.Kind == 0)) rfl (fun c30 => ?_) (fun c30 => ?_)
 ·replace h:=Zs c30 h
  obtain ⟨z2,hz2,h⟩:=bC h
  refine Xl (E':=⟨121,[],[(6,(vB z2))]⟩) (O':=(Zv O n [none])) (n0:=(n+1)) ?_ ?_
  ·rcases Bool.eq_false_or_eq_true (decide (1≤a1.N)) with c5 | c5
   ·replace hz2:=Zs c5 hz2
    rcases Bool.eq_false_or_eq_true (decide (a1.N≤1048576)) with c6 | c6
    ·replace hz2:=Zs c6 hz2
     try rw [c6] at c5
     rcases Bool.eq_false_or_eq_true ((a1.L.length:Int) == 0) with c7 | c7
     ·replace hz2:=Zs c7 hz2
      try rw [c7] at c5
      try rw [c7] at c6
      obtain ⟨y4,hy4,hz2⟩:=bC hz2
      refine Zdu [none,none,none,none,none,none,none,some true,some true,some true] c5 c6 c7 ?_
      refine zG ?_
      refine (Zk1 hy4).then ?_
      refine zX3 c5 c6 c7 ?_
      refine zG ?_
      exact Zf3 hz2 c5 c6 c7
     replace hz2:=Zr c7 hz2
     try rw [c7] at c5
     try rw [c7] at c6
     refine Zdu [none,none,none,none,none,none,none,some false,some false,some false] c5 c6 c7 ?_
     refine zG ?_
     exact Zf3 hz2 c5 c6 c7
    replace hz2:=Zr c6 hz2
    try rw [c6] at c5
    refine K1 [none,none,none,none,none,none,none,some false,some false,some false] c5 c6 ?_
    refine zG ?_
    exact Zck hz2 c5 c6
   replace hz2:=Zr c5 hz2
   refine Vf [none,none,none,none,none,none,none,some false,some false,some false] c5 ?_
   refine zG ?_
   exact Kk hz2 c5
  exact Yu [(vB z2)]
 replace h:=Zr c30 h
 refine Kq [0,2,4] [true] ?_
 refine Zk ?_
 refine zQD [0,2,4,42] [none,none,none,none,none,none] ?_
 refine Zt (t:=(cond (cond (a1.N != 0) true (decide (a1.Kind < 0))) true (decide (3 < a1.Kind)))) rfl (fun c29 => ?_) (fun c29 => ?_)
 ·replace h:=Zs c29 h
  refine zQ [6] ?_
  exact Yu [(vB false)]
 replace h:=Zr c29 h
 refine Kq [0,2,4] [true] ?_
 refine Zk ?_
 refine zQ [0,2,4,45] ?_
 refine Zt (t:=(decide (a1.Kind < 3))) rfl (fun c28 => ?_) (fun c28 => ?_)
 ·replace h:=Zs c28 h
  refine Zk ?_
  refine zQd [0,4,7] [0,4,7] [true] ?_
  obtain ⟨z14,hz14,h⟩:=bC h
  refine Zbd (J:=(Qn (fun z14=>JR n (⟨121,[],[(6,(vB false))]⟩:Env) (Zv O n [none]) (n+1)) (fun z14=>JX 0 n (⟨121,[],[(4,.ref n 0)]⟩:Env) (Zv O n [some ⟨false,53,14,1,(Yg a1)⟩]) (n+1)))) (z:=z14) ?_ fun hw => ?_
  ·refine Xj hz14 (fun s0_=>⟨121,[],[(0,(vI a0)),(4,.ref n 0),(7,(vI s0_))]⟩) (fun s0_=>(Zv O n [some ⟨false,53,14,1,(Yg a1)⟩])) (Qn (fun z14=>JR n (⟨121,[],[(6,(vB false))]⟩:Env) (Zv O n [none]) (n+1)) (fun z14=>JX 0 n (⟨121,[],[(4,.ref n 0)]⟩:Env) (Zv O n [some ⟨false,53,14,1,(Yg a1)⟩]) (n+1))) ?_
   intro s0_ x0_ hs0_
   unfold Zal at hs0_
   try dsimp only
   refine Zk ?_
   refine zQ [0,4,7,50] ?_
   refine Zt (t:=(decide (s0_ < (a1.L.length:Int)))) rfl (fun c13 => ?_) (fun c13 => ?_)
   ·replace hs0_:=Zs c13 hs0_
    refine Kq [0,4,7] [true] ?_
    refine Zk ?_
    refine Ya ?_
    refine Zk ?_
    obtain ⟨l10,al10,bl10,cl10,gl10,hs0_⟩:=bS (lo:=(some (.i64,s0_))) (hi:=(some (.i64,(IntKind.i64.wrap (s0_+1))))) (f:=Za) rfl rfl Zih Zac (fun _=>rfl) hs0_
    obtain ⟨y11,hy11,hs0_⟩:=bC hs0_
    refine Ztd [] al10 bl10 cl10 gl10 ?_
    refine GCalls.argsW ?_ ((Zaa hy11).then ?_)
    ·exact Yl3 al10 bl10 cl10 gl10
    refine zX4 al10 bl10 cl10 gl10 ?_
    refine zD [0,4,7,62] [true] ?_
    refine Zt (t:=(!y11)) rfl (fun c12 => ?_) (fun c12 => ?_)
    ·replace hs0_:=Zs c12 hs0_
     refine zQ [6] ?_
     refine zW ?_
     exact zEy hs0_
    replace hs0_:=Zr c12 hs0_
    refine Kq [0,4,7] [true] ?_
    refine zR ?_
    exact zEn hs0_
   replace hs0_:=Zr c13 hs0_
   exact zEx hs0_
  rcases z14 with z14 | z14
  ·dsimp only [Qn] at hw h
   refine Ke hw ?_
   try simp only [Xe,Yi,↓reduceIte,Nat.reduceEqDiff]
   exact Zll [(vB false)]
  dsimp only [Qn] at hw h
  refine Yy hw ?_
  try simp only [Xe,Yi,↓reduceIte,Nat.reduceEqDiff]
  refine zD [4] [true] ?_
  obtain ⟨z16,hz16,h⟩:=bC h
  refine Xl (E':=⟨121,[],[(6,(vB z16))]⟩) (O':=(Zv O n [none])) (n0:=(n+1)) ?_ ?_
  ·rcases Bool.eq_false_or_eq_true (decide (0 < (a1.L.length:Int))) with c19 | c19
   ·replace hz16:=Zs c19 hz16
    obtain ⟨y18,hy18,hz16⟩:=bC hz16
    refine Vf [some true,some true,some true] c19 ?_
    refine (Zk1 hy18).then ?_
    refine zX1 c19 ?_
    exact Kk hz16 c19
   replace hz16:=Zr c19 hz16
   refine Vf [some false,some false,some false] c19 ?_
   exact Kk hz16 c19
  exact Yu [(vB z16)]
 replace h:=Zr c28 h
 refine Kq [0,2,4] [true] ?_
 refine Zk ?_
 obtain ⟨z21,hz21,h⟩:=bC h
 refine Xl (E':=⟨121,[],[(0,(vI a0)),(4,.ref n 0),(92,(vB z21))]⟩) (O':=(Zv O n [some ⟨false,53,14,1,(Yg a1)⟩])) (n0:=(n+1)) ?_ ?_
 ·rcases Bool.eq_false_or_eq_true (decide (0 < (a1.L.length:Int))) with c24 | c24
  ·replace hz21:=Zs c24 hz21
   refine Vf [none,none,none,none,none,none,some false,some false,some false,some false,some false] c24 ?_
   refine zG ?_
   exact Kk hz21 c24
  replace hz21:=Zr c24 hz21
  rcases Bool.eq_false_or_eq_true (a1.E.Kind == 0) with c25 | c25
  ·replace hz21:=Zs c25 hz21
   try rw [c25] at c24
   refine K1 [none,none,none,none,none,none,some false,some false,some false,some false,some false] c24 c25 ?_
   refine zG ?_
   exact Zck hz21 c24 c25
  replace hz21:=Zr c25 hz21
  try rw [c25] at c24
  rcases Bool.eq_false_or_eq_true (decide (a0≤7)) with c26 | c26
  ·replace hz21:=Zs c26 hz21
   try rw [c26] at c24
   try rw [c26] at c25
   refine Zdu [none,none,none,none,none,none,some false,some false,some false,some false,some false] c24 c25 c26 ?_
   refine zG ?_
   exact Zf3 hz21 c24 c25 c26
  replace hz21:=Zr c26 hz21
  try rw [c26] at c24
  try rw [c26] at c25
  obtain ⟨y23,hy23,hz21⟩:=bC hz21
  refine Zdu [none,none,none,none,none,none,some true,some true,some true,some true,some true] c24 c25 c26 ?_
  refine zG ?_
  refine (Zd3 hy23).then ?_
  refine zX3 c24 c25 c26 ?_
  refine zG ?_
  exact Zf3 hz21 c24 c25 c26
 refine Zt (t:=z21) rfl (fun c27 => ?_) (fun c27 => ?_)
 ·replace h:=Zs c27 h
  refine zQ [6] ?_
  exact Yu [(vB false)]
 replace h:=Zr c27 h
 refine Kq [0,4] [true] ?_
 refine zQD [6] [none,none,none,none,none,none,none,none,none,none,none,none,none,none,none,none,none,none,none,none,none,none] ?_
 exact Yu [(vB (cond (cond (a0 == 8) true (a1.E.Kind == 2)) true (cond (cond (a1.E.Kind == 1) (a1.E.Old.Kind == 1) false) (a1.E.New.Kind == 1) false)))]
theorem Zm3:∀ k,(Zd2 ((Y4 k).1))∧(Zg9 ((Y4 k).2)):=fun k=>by
 induction k with
 | zero=>exact ⟨@fun a0 a1 r O n h=>(nomatch (show (none:Option _)=some _ from h)),@fun a0 a1 a2 r O n h=>(nomatch (show (none:Option _)=some _ from h))⟩
 | succ k ih=>exact ⟨@fun a0 a1 r O n h=>Zou (ih.1) (ih.2)  h,@fun a0 a1 a2 r O n h=>Zsq (ih.1) (ih.2)  h⟩
theorem Zkc {a0:Zc} {a1:Int} {r:Bool} {O:Objs} {n:Nat} (h:Zg8 a0 a1=some r):GTo Try.prog 17 [.agg (Ze a0),(vI a1)] O n ((vB r)) O n:=by
 obtain ⟨k,hk⟩:=Zax h
 exact (Zm3 k).1  hk
def Zin (Qo:(Zc→Option Bool)):Prop:=∀ {a0:Zc} {r:Bool} {O:Objs} {n:Nat},Qo a0=some r→GTo Try.prog 26 [.agg (Ze a0)] O n ((vB r)) O n
theorem Zot {Qo:(Zc→Option Bool)} (Ziq:Zin Qo) {a0:Zc} {r:Bool} {O:Objs} {n:Nat} (h:Zaj Qo a0=some r):GTo Try.prog 26 [.agg (Ze a0)] O n ((vB r)) O n:=by
 unfold Zaj at h
 refine zFn Try.call26 Try.func26 fun hU hN0 hN => ?_
 show W _ _ _ _ ⟨48,[],[(0,.agg (Ze a0))]⟩ (Zv O n []) _
 refine zQ [1] ?_
 refine Zk ?_
 obtain ⟨y2,hy2,h⟩:=bC h
 refine zCd (Zio hy2) [1,3,4] [true] ?_
 refine Zk ?_
 refine zQD [1,17] [none,none] ?_
 refine Zt (t:=(cond (decide (2000 < y2.1)) true (decide (2000 < y2.2)))) rfl (fun c21 => ?_) (fun c21 => ?_)
 ·replace h:=Zs c21 h
  refine zQ [2] ?_
  exact Yu [(vB false)]
 replace h:=Zr c21 h
 refine Kq [1] [true] ?_
 refine Zk ?_
 refine zQd [1,5] [1,5] [true] ?_
 obtain ⟨z11,hz11,h⟩:=bC h
 refine Zbd (J:=(Qn (fun z11=>JR n (⟨48,[],[(2,(vB false))]⟩:Env) (Zv O n [none]) (n+1)) (fun z11=>JX 0 n (⟨48,[],[(1,.ref n 0)]⟩:Env) (Zv O n [some ⟨false,30,11,1,(Ze a0)⟩]) (n+1)))) (z:=z11) ?_ fun hw => ?_
 ·refine Xj hz11 (fun s0_=>⟨48,[],[(1,.ref n 0),(5,(vI s0_))]⟩) (fun s0_=>(Zv O n [some ⟨false,30,11,1,(Ze a0)⟩])) (Qn (fun z11=>JR n (⟨48,[],[(2,(vB false))]⟩:Env) (Zv O n [none]) (n+1)) (fun z11=>JX 0 n (⟨48,[],[(1,.ref n 0)]⟩:Env) (Zv O n [some ⟨false,30,11,1,(Ze a0)⟩]) (n+1))) ?_
  intro s0_ x0_ hs0_
  unfold Up at hs0_
  try dsimp only
  refine Zk ?_
  refine zQ [1,5,22] ?_
  refine Zt (t:=(decide (s0_ < (a0.Kids.length:Int)))) rfl (fun c10 => ?_) (fun c10 => ?_)
  ·replace hs0_:=Zs c10 hs0_
   refine Kq [1,5] [true] ?_
   refine Zk ?_
   refine Ya ?_
   refine Zk ?_
   obtain ⟨x6,hx6,ax6,bx6,cx6,hs0_⟩:=bE (f:=Zi) Zfm (fun _=>rfl) (by decide) hs0_
   have g7:=Zhg (f:=Zi) (off:=1) (sz:=12) Zy7 (fun _=>rfl) (by decide) (by decide) hx6
   obtain ⟨y8,hy8,hs0_⟩:=bC hs0_
   refine Z1n [] ax6 bx6 cx6 g7 ?_
   refine (Ziq hy8).then ?_
   refine zF4 ax6 bx6 cx6 g7 ?_
   refine zD [1,5,32] [true] ?_
   refine Zt (t:=(!y8)) rfl (fun c9 => ?_) (fun c9 => ?_)
   ·replace hs0_:=Zs c9 hs0_
    refine zQ [2] ?_
    refine zW ?_
    exact zEy hs0_
   replace hs0_:=Zr c9 hs0_
   refine Kq [1,5] [true] ?_
   refine zR ?_
   exact zEn hs0_
  replace hs0_:=Zr c10 hs0_
  exact zEx hs0_
 rcases z11 with z11 | z11
 ·dsimp only [Qn] at hw h
  refine Ke hw ?_
  try simp only [Xe,Yi,↓reduceIte,Nat.reduceEqDiff]
  exact Zll [(vB false)]
 dsimp only [Qn] at hw h
 refine Yy hw ?_
 try simp only [Xe,Yi,↓reduceIte,Nat.reduceEqDiff]
 refine zDs [1] [true] ?_
 refine zQd [1,6] [1,6] [true] ?_
 obtain ⟨z20,hz20,h⟩:=bC h
 refine Zbd (J:=(Qn (fun z20=>JR n (⟨48,[],[(2,(vB false))]⟩:Env) (Zv O n [none]) (n+1)) (fun z20=>JX 2 n (⟨48,[],[]⟩:Env) (Zv O n [none]) (n+1)))) (z:=z20) ?_ fun hw => ?_
 ·refine Xj hz20 (fun s1_=>⟨48,[],[(1,.ref n 0),(6,(vI s1_))]⟩) (fun s1_=>(Zv O n [some ⟨false,30,11,1,(Ze a0)⟩])) (Qn (fun z20=>JR n (⟨48,[],[(2,(vB false))]⟩:Env) (Zv O n [none]) (n+1)) (fun z20=>JX 2 n (⟨48,[],[]⟩:Env) (Zv O n [none]) (n+1))) ?_
  intro s1_ x1_ hs1_
  unfold Uq at hs1_
  try dsimp only
  refine Zk ?_
  refine zQ [1,6,37] ?_
  refine Zt (t:=(decide (s1_ < (a0.Ops.length:Int)))) rfl (fun c19 => ?_) (fun c19 => ?_)
  ·replace hs1_:=Zs c19 hs1_
   refine Kq [1,6] [true] ?_
   refine Zk ?_
   refine Ya ?_
   refine Zk ?_
   obtain ⟨x15,hx15,ax15,bx15,cx15,hs1_⟩:=bE (f:=Zf) Zel (fun _=>rfl) (by decide) hs1_
   have g16:=Zhg (f:=Zf) (off:=3) (sz:=14) Zy7 (fun _=>rfl) (by decide) (by decide) hx15
   obtain ⟨y17,hy17,hs1_⟩:=bC hs1_
   refine Z1n [] ax15 bx15 cx15 g16 ?_
   refine (Ziq hy17).then ?_
   refine zF4 ax15 bx15 cx15 g16 ?_
   refine zD [1,6,47] [true] ?_
   refine Zt (t:=(!y17)) rfl (fun c18 => ?_) (fun c18 => ?_)
   ·replace hs1_:=Zs c18 hs1_
    refine zQ [2] ?_
    refine zW ?_
    exact zEy hs1_
   replace hs1_:=Zr c18 hs1_
   refine Kq [1,6] [true] ?_
   refine zR ?_
   exact zEn hs1_
  replace hs1_:=Zr c19 hs1_
  exact zEx hs1_
 rcases z20 with z20 | z20
 ·dsimp only [Qn] at hw h
  refine Ke hw ?_
  try simp only [Xe,Yi,↓reduceIte,Nat.reduceEqDiff]
  exact Zll [(vB false)]
 dsimp only [Qn] at hw h
 refine Yy hw ?_
 try simp only [Xe,Yi,↓reduceIte,Nat.reduceEqDiff]
 refine zD [] [false] ?_
 refine zQ [2] ?_
 exact Yu [(vB true)]
theorem Zm2:∀ k,(Zin (Kt k)):=fun k=>by
 induction k with
 | zero=>exact @fun a0 r O n h=>(nomatch (show (none:Option _)=some _ from h))
 | succ k ih=>exact @fun a0 r O n h=>Zot (ih)  h
theorem Zp4 {a0:Zc} {r:Bool} {O:Objs} {n:Nat} (h:Zg7 a0=some r):GTo Try.prog 26 [.agg (Ze a0)] O n ((vB r)) O n:=by
 obtain ⟨k,hk⟩:=Zax h
 exact (Zm2 k)  hk
theorem Zhb {a0:Zc} {r:Bool} {O:Objs} {n:Nat} (h:Gn a0=some r):GTo Try.prog 8 [.agg (Ze a0)] O n ((vB r)) O n:=by
 unfold Gn at h
 refine zFn Try.call8 Try.func8 fun hU hN0 hN => ?_
 show W _ _ _ _ ⟨13,[],[(0,.agg (Ze a0))]⟩ (Zv O n []) _
 refine zQ [1] ?_
 obtain ⟨z4,hz4,h⟩:=bC h
 refine Xl (E':=⟨13,[],[(2,(vB z4))]⟩) (O':=(Zv O n [none])) (n0:=(n+1)) ?_ ?_
 ·obtain ⟨y8,hy8,hz4⟩:=bC hz4
  rcases Bool.eq_false_or_eq_true y8 with c11 | c11
  ·replace hz4:=Zs c11 hz4
   obtain ⟨y9,hy9,hz4⟩:=bC hz4
   rcases Bool.eq_false_or_eq_true y9 with c12 | c12
   ·replace hz4:=Zs c12 hz4
    try rw [c12] at c11
    obtain ⟨y10,hy10,hz4⟩:=bC hz4
    refine K1 [some true,some true,some true,some true] c11 c12 ?_
    refine (Zh7 hy8).then ?_
    refine zX2 c11 c12 ?_
    refine (Zkc hy9).then ?_
    refine zX2 c11 c12 ?_
    refine (Zp4 hy10).then ?_
    refine zX2 c11 c12 ?_
    exact Zck hz4 c11 c12
   replace hz4:=Zr c12 hz4
   try rw [c12] at c11
   refine K1 [some true,some true,some false,some false] c11 c12 ?_
   refine (Zh7 hy8).then ?_
   refine zX2 c11 c12 ?_
   refine (Zkc hy9).then ?_
   refine zX2 c11 c12 ?_
   exact Zck hz4 c11 c12
  replace hz4:=Zr c11 hz4
  refine Vf [some false,some false,some false,some false] c11 ?_
  refine (Zh7 hy8).then ?_
  refine zX1 c11 ?_
  exact Kk hz4 c11
 exact Yu [(vB z4)]
theorem Zbv {a0:(List Int)} {r:(List Int)} {O:Objs} {n:Nat} (h:U2 a0=some r):GTo Try.prog 73 [(sL (eI .u64) a0)] O n ((sL (eI .u64) r)) O n:=by
 unfold U2 at h
 refine zFn Try.call73 Try.func73 fun hU hN0 hN => ?_
 show W _ _ _ _ ⟨22,[],[(0,(sL (eI .u64) a0))]⟩ (Zv O n []) _
 refine zQ [0] ?_
 refine zQ [0,3] ?_
 refine Zk ?_
 refine zD [0,3] [] ?_
 obtain ⟨z7,hz7,h⟩:=bC h
 refine Yy (E':=⟨22,[],[(0,(sL (eI .u64) a0)),(3,(vI z7))]⟩) (O':=(Zv O n [])) (n0:=n) ?_ ?_
 ·refine Xj hz7 (fun s0_=>⟨22,[],[(0,(sL (eI .u64) a0)),(3,(vI s0_))]⟩) (fun s0_=>(Zv O n [])) (fun z7=>JX 0 n (⟨22,[],[(0,(sL (eI .u64) a0)),(3,(vI z7))]⟩:Env) (Zv O n []) n) ?_
  intro s0_ x0_ hs0_
  unfold G8 at hs0_
  try dsimp only
  refine Zk ?_
  obtain ⟨z2,hz2,hs0_⟩:=bC hs0_
  refine Xl (E':=⟨22,[],[(0,(sL (eI .u64) a0)),(3,(vI s0_)),(15,(vB z2))]⟩) (O':=(Zv O n [])) (n0:=n) ?_ ?_
  ·rcases Bool.eq_false_or_eq_true (decide (0 < s0_)) with c5 | c5
   ·replace hz2:=Zs c5 hz2
    obtain ⟨x4,hx4,ax4,bx4,cx4,hz2⟩:=bE (f:=(eI .u64)) Zny (fun _=>rfl) (by decide) hz2
    refine Z1n [some true,some true,some true,some true,some true,some true] c5 ax4 bx4 cx4 ?_
    exact Yhw hz2 c5 ax4 bx4 cx4
   replace hz2:=Zr c5 hz2
   refine Vf [some false,some false,some false,some false,some false,some false] c5 ?_
   exact Kk hz2 c5
  refine Zt (t:=z2) rfl (fun c6 => ?_) (fun c6 => ?_)
  ·replace hs0_:=Zs c6 hs0_
   refine Kq [0,3] [] ?_
   refine Ya ?_
   refine zR ?_
   exact zEn hs0_
  replace hs0_:=Zr c6 hs0_
  exact zEx hs0_
 try simp only [Xe,Yi,↓reduceIte,Nat.reduceEqDiff]
 refine zD [0,3] [] ?_
 obtain ⟨l9,al9,bl9,cl9,gl9,h⟩:=bS3 (lo:=none) (hi:=(.i64,z7)) (f:=(eI .u64)) rfl rfl Zwc Zny (fun _=>rfl) h
 refine Yks [2] al9 bl9 cl9 gl9 ?_
 exact Yu [(sL (eI .u64) l9)]
theorem Kz {a0:(List Int)} {a1:(List Int)} {r:Bool} {O:Objs} {n:Nat} (h:Qu a0 a1=some r):GTo Try.prog 108 [(sL (eI .u64) a0),(sL (eI .u64) a1)] O n ((vB r)) O n:=by
 unfold Qu at h
 refine zFn Try.call108 Try.func108 fun hU hN0 hN => ?_
 show W _ _ _ _ ⟨26,[],[(0,(sL (eI .u64) a0)),(1,(sL (eI .u64) a1))]⟩ (Zv O n []) _
 refine zQ [0,1] ?_
 refine Zk ?_
 refine zQ [0,1,10] ?_
 refine Zt (t:=((a0.length:Int) != (a1.length:Int))) rfl (fun c8 => ?_) (fun c8 => ?_)
 ·replace h:=Zs c8 h
  refine zQ [4] ?_
  exact Yu [(vB false)]
 replace h:=Zr c8 h
 refine Kq [0,1] [] ?_
 refine Zk ?_
 refine zQd [0,1,12,13] [0,1,12,13] [] ?_
 obtain ⟨z7,hz7,h⟩:=bC h
 refine Zbd (J:=(Qn (fun z7=>JR n (⟨26,[],[(4,(vB false))]⟩:Env) (Zv O n []) n) (fun z7=>JX 0 n (⟨26,[],[]⟩:Env) (Zv O n []) n))) (z:=z7) ?_ fun hw => ?_
 ·refine Xj hz7 (fun s0_=>⟨26,[],[(0,(sL (eI .u64) a0)),(1,(sL (eI .u64) a1)),(12,(vI (a0.length:Int))),(13,(vI s0_))]⟩) (fun s0_=>(Zv O n [])) (Qn (fun z7=>JR n (⟨26,[],[(4,(vB false))]⟩:Env) (Zv O n []) n) (fun z7=>JX 0 n (⟨26,[],[]⟩:Env) (Zv O n []) n)) ?_
  intro s0_ x0_ hs0_
  unfold Q3 at hs0_
  try dsimp only
  refine zQ [0,1,12,13,14] ?_
  refine Zk ?_
  refine Zt (t:=(decide (s0_ < (a0.length:Int)))) rfl (fun c6 => ?_) (fun c6 => ?_)
  ·replace hs0_:=Zs c6 hs0_
   refine Kq [0,1,12,13] [] ?_
   refine Zk ?_
   refine Ya ?_
   refine zQ [0,1,5,12,13] ?_
   obtain ⟨x3,hx3,ax3,bx3,cx3,hs0_⟩:=bE (f:=(eI .u64)) Zny (fun _=>rfl) (by decide) hs0_
   obtain ⟨x4,hx4,ax4,bx4,cx4,hs0_⟩:=bE (f:=(eI .u64)) Zny (fun _=>rfl) (by decide) hs0_
   refine Zqh [0,1,12,13,24] (Vb Z5 (by kernel_rfl) [] (by kernel_rfl) ?_)
   refine zF6 ax3 bx3 cx3 ax4 bx4 cx4 ?_
   refine Zt (t:=(x3 != x4)) rfl (fun c5 => ?_) (fun c5 => ?_)
   ·replace hs0_:=Zs c5 hs0_
    refine zQ [4] ?_
    refine zW ?_
    exact zEy hs0_
   replace hs0_:=Zr c5 hs0_
   refine Kq [0,1,12,13] [] ?_
   refine zR ?_
   exact zEn hs0_
  replace hs0_:=Zr c6 hs0_
  exact zEx hs0_
 rcases z7 with z7 | z7
 ·dsimp only [Qn] at hw h
  refine Ke hw ?_
  try simp only [Xe,Yi,↓reduceIte,Nat.reduceEqDiff]
  exact Zll [(vB false)]
 dsimp only [Qn] at hw h
 refine Yy hw ?_
 try simp only [Xe,Yi,↓reduceIte,Nat.reduceEqDiff]
 refine zD [] [] ?_
 refine zQ [4] ?_
 exact Yu [(vB true)]
theorem Zi0 {a0:(List Zb)} {r:(List Zb)} {O:Objs} {n:Nat} (h:Gz a0=some r):GTo Try.prog 74 [(sL Za a0)] O n ((sL Za r)) O n:=by
 unfold Gz at h
 refine zFn Try.call74 Try.func74 fun hU hN0 hN => ?_
 show W _ _ _ _ ⟨23,[],[(0,(sL Za a0))]⟩ (Zv O n []) _
 refine zQ [0] ?_
 refine zQ [0,3] ?_
 refine Zk ?_
 refine zD [0,3] [] ?_
 obtain ⟨z10,hz10,h⟩:=bC h
 refine Yy (E':=⟨23,[],[(0,(sL Za a0)),(3,(vI z10))]⟩) (O':=(Zv O n [])) (n0:=n) ?_ ?_
 ·refine Xj hz10 (fun s0_=>⟨23,[],[(0,(sL Za a0)),(3,(vI s0_))]⟩) (fun s0_=>(Zv O n [])) (fun z10=>JX 0 n (⟨23,[],[(0,(sL Za a0)),(3,(vI z10))]⟩:Env) (Zv O n []) n) ?_
  intro s0_ x0_ hs0_
  unfold Za2 at hs0_
  try dsimp only
  refine Zk ?_
  obtain ⟨z3,hz3,hs0_⟩:=bC hs0_
  refine Xl (E':=⟨23,[],[(0,(sL Za a0)),(3,(vI s0_)),(16,(vB z3))]⟩) (O':=(Zv O n [])) (n0:=n) ?_ ?_
  ·rcases Bool.eq_false_or_eq_true (decide (0 < s0_)) with c8 | c8
   ·replace hz3:=Zs c8 hz3
    obtain ⟨x6,hx6,ax6,bx6,cx6,hz3⟩:=bE (f:=Za) Zac (fun _=>rfl) (by decide) hz3
    have g7:=Zqu (f:=Za) (sz:=3) Z6p (fun _=>rfl) (by decide) (by decide) hx6
    refine Z61 [some true,some true,some true,some true,some true,some true,some true] c8 ax6 bx6 cx6 g7 ?_
    exact Yhx hz3 c8 ax6 bx6 cx6 g7
   replace hz3:=Zr c8 hz3
   refine Vf [some false,some false,some false,some false,some false,some false,some false] c8 ?_
   exact Kk hz3 c8
  refine Zt (t:=z3) rfl (fun c9 => ?_) (fun c9 => ?_)
  ·replace hs0_:=Zs c9 hs0_
   refine Kq [0,3] [] ?_
   refine Ya ?_
   refine zR ?_
   exact zEn hs0_
  replace hs0_:=Zr c9 hs0_
  exact zEx hs0_
 try simp only [Xe,Yi,↓reduceIte,Nat.reduceEqDiff]
 refine zD [0,3] [] ?_
 obtain ⟨l12,al12,bl12,cl12,gl12,h⟩:=bS3 (lo:=none) (hi:=(.i64,z10)) (f:=Za) rfl rfl Zih Zac (fun _=>rfl) h
 refine Yks [2] al12 bl12 cl12 gl12 ?_
 exact Yu [(sL Za l12)]
def Zj2 (Ve:(Zb→Zb→Option Bool)):Prop:=∀ {a0:Zb} {a1:Zb} {r:Bool} {O:Objs} {n:Nat},Ve a0 a1=some r→GTo Try.prog 70 [.agg (Zn a0),.agg (Zn a1)] O n ((vB r)) O n
def X0 (Zx:((List Zb)→(List Zb)→Option Bool)):Prop:=∀ {a0:(List Zb)} {a1:(List Zb)} {r:Bool} {O:Objs} {n:Nat},Zx a0 a1=some r→GTo Try.prog 109 [(sL Za a0),(sL Za a1),.fn 70 0 []] O n ((vB r)) O n
theorem Zya {Ve:(Zb→Zb→Option Bool)} {Zx:((List Zb)→(List Zb)→Option Bool)} (Znv:Zj2 Ve) (X1:X0 Zx) {a0:Zb} {a1:Zb} {r:Bool} {O:Objs} {n:Nat} (h:Zhq Ve Zx a0 a1=some r):GTo Try.prog 70 [.agg (Zn a0),.agg (Zn a1)] O n ((vB r)) O n:=by
 unfold Zhq at h
 refine zFn Try.call70 Try.func70 fun hU hN0 hN => ?_
 show W _ _ _ _ ⟨44,[],[(0,.agg (Zn a0)),(1,.agg (Zn a1))]⟩ (Zv O n []) _
 refine zQ [2,3] ?_
 refine Zk ?_
 refine zQ [2,3,9] ?_
 refine Zt (t:=(a0.Kind != a1.Kind)) rfl (fun c31 => ?_) (fun c31 => ?_)
 ·replace h:=Zs c31 h
  refine zQ [4] ?_
  exact Yu [(vB false)]
 replace h:=Zr c31 h
 refine Kq [2,3] [true,true] ?_
 refine Zk ?_
 refine zQ [2,3,11] ?_
 refine Ya ?_
 refine zQ [2,3,11,12] ?_
 refine Zt (t:=(a0.Kind == 0)) rfl (fun c30 => ?_) (fun c30 => ?_)
 ·replace h:=Zs c30 h
  refine zQ [4] ?_
  exact Yu [(vB true)]
 replace h:=Zr c30 h
 refine zQ [2,3,14] ?_
 refine Zt (t:=(a0.Kind == 1)) rfl (fun c29 => ?_) (fun c29 => ?_)
 ·replace h:=Zs c29 h
  obtain ⟨z7,hz7,h⟩:=bC h
  refine Xl (E':=⟨44,[],[(4,(vB z7))]⟩) (O':=(Zv O n [none,none])) (n0:=(n+2)) ?_ ?_
  ·obtain ⟨y14,hy14,hz7⟩:=bC hz7
   obtain ⟨y15,hy15,hz7⟩:=bC hz7
   obtain ⟨y16,hy16,hz7⟩:=bC hz7
   rcases Bool.eq_false_or_eq_true y16 with c20 | c20
   ·replace hz7:=Zs c20 hz7
    obtain ⟨y17,hy17,hz7⟩:=bC hz7
    obtain ⟨y18,hy18,hz7⟩:=bC hz7
    obtain ⟨y19,hy19,hz7⟩:=bC hz7
    refine Vb Z5 (by kernel_rfl) [some true,some true,some true,some true,some true,some true,some true] (by kernel_rfl) ?_
    refine zX1 c20 ?_
    refine PCall.of (Zbv hy14) ?_
    refine zX1 c20 ?_
    refine PCall.of (Zbv hy15) ?_
    refine zX1 c20 ?_
    refine PCall.of (Kz hy16) ?_
    refine zX1 c20 ?_
    refine PCall.of (Zi0 hy17) ?_
    refine zX1 c20 ?_
    refine PCall.of (Zi0 hy18) ?_
    refine zX1 c20 ?_
    refine PCall.of (X1 hy19) ?_
    refine zX1 c20 ?_
    exact Kk hz7 c20
   replace hz7:=Zr c20 hz7
   refine Vb Z5 (by kernel_rfl) [some false,some false,some false,some false,some false,some false,some false] (by kernel_rfl) ?_
   refine zX1 c20 ?_
   refine PCall.of (Zbv hy14) ?_
   refine zX1 c20 ?_
   refine PCall.of (Zbv hy15) ?_
   refine zX1 c20 ?_
   refine PCall.of (Kz hy16) ?_
   refine zX1 c20 ?_
   exact Kk hz7 c20
  exact Yu [(vB z7)]
 replace h:=Zr c29 h
 refine Kq [2,3] [true,true] ?_
 obtain ⟨z23,hz23,h⟩:=bC h
 refine Xl (E':=⟨44,[],[(4,(vB z23))]⟩) (O':=(Zv O n [none,none])) (n0:=(n+2)) ?_ ?_
 ·obtain ⟨y26,hy26,hz23⟩:=bC hz23
  rcases Bool.eq_false_or_eq_true y26 with c28 | c28
  ·replace hz23:=Zs c28 hz23
   obtain ⟨y27,hy27,hz23⟩:=bC hz23
   refine Vf [some true,some true,some true,some true,some true] c28 ?_
   refine (Kz hy26).then ?_
   refine zX1 c28 ?_
   refine (X1 hy27).then ?_
   refine zX1 c28 ?_
   exact Kk hz23 c28
  replace hz23:=Zr c28 hz23
  refine Vf [some false,some false,some false,some false,some false] c28 ?_
  refine (Kz hy26).then ?_
  refine zX1 c28 ?_
  exact Kk hz23 c28
 exact Yu [(vB z23)]
theorem Um {Ve:(Zb→Zb→Option Bool)} {Zx:((List Zb)→(List Zb)→Option Bool)} (Znv:Zj2 Ve) (X1:X0 Zx) {a0:(List Zb)} {a1:(List Zb)} {r:Bool} {O:Objs} {n:Nat} (h:Ys Ve Zx a0 a1=some r):GTo Try.prog 109 [(sL Za a0),(sL Za a1),.fn 70 0 []] O n ((vB r)) O n:=by
 unfold Ys at h
 refine zFn Try.call109 Try.func109 fun hU hN0 hN => ?_
 show W _ _ _ _ ⟨32,[],[(0,(sL Za a0)),(1,(sL Za a1)),(2,.fn 70 0 [])]⟩ (Zv O n []) _
 refine zQ [0,1,2] ?_
 refine Zk ?_
 refine zQ [0,1,2,14] ?_
 refine Zt (t:=((a0.length:Int) != (a1.length:Int))) rfl (fun c10 => ?_) (fun c10 => ?_)
 ·replace h:=Zs c10 h
  refine zQ [6] ?_
  exact Yu [(vB false)]
 replace h:=Zr c10 h
 refine Kq [0,1,2] [] ?_
 refine Zk ?_
 refine zQd [1,2,15,16,17] [1,2,15,16,17] [] ?_
 obtain ⟨z9,hz9,h⟩:=bC h
 refine Zbd (J:=(Qn (fun z9=>JR n (⟨32,[],[(6,(vB false))]⟩:Env) (Zv O n []) n) (fun z9=>JX 0 n (⟨32,[],[]⟩:Env) (Zv O n []) n))) (z:=z9) ?_ fun hw => ?_
 ·refine Xj hz9 (fun s0_=>⟨32,[],[(1,(sL Za a1)),(2,.fn 70 0 []),(15,(sL Za a0)),(16,(vI (a0.length:Int))),(17,(vI s0_))]⟩) (fun s0_=>(Zv O n [])) (Qn (fun z9=>JR n (⟨32,[],[(6,(vB false))]⟩:Env) (Zv O n []) n) (fun z9=>JX 0 n (⟨32,[],[]⟩:Env) (Zv O n []) n)) ?_
  intro s0_ x0_ hs0_
  unfold Yl at hs0_
  try dsimp only
  refine zQ [1,2,15,16,17,18] ?_
  refine Zk ?_
  refine Zt (t:=(decide (s0_ < (a0.length:Int)))) rfl (fun c8 => ?_) (fun c8 => ?_)
  ·replace hs0_:=Zs c8 hs0_
   refine Kq [1,2,15,16,17] [] ?_
   refine Zk ?_
   refine Ya ?_
   refine Zk ?_
   obtain ⟨x2,hx2,ax2,bx2,cx2,hs0_⟩:=bE (f:=Za) Zac (fun _=>rfl) (by decide) hs0_
   refine Zby [] ax2 bx2 cx2 ?_
   refine zDs [1,2,7,8,15,16,17] [true] ?_
   obtain ⟨x4,hx4,ax4,bx4,cx4,hs0_⟩:=bE (f:=Za) Zac (fun _=>rfl) (by decide) hs0_
   refine Zby [] ax4 bx4 cx4 ?_
   refine zDs [1,2,8,9,15,16,17] [true,true] ?_
   obtain ⟨y6,hy6,hs0_⟩:=bC hs0_
   refine zCd (Znv hy6) [1,2,15,16,17,30] [false,false] ?_
   refine Zt (t:=(!y6)) rfl (fun c7 => ?_) (fun c7 => ?_)
   ·replace hs0_:=Zs c7 hs0_
    refine zQ [6] ?_
    refine zW ?_
    exact zEy hs0_
   replace hs0_:=Zr c7 hs0_
   refine Kq [1,2,15,16,17] [false,false] ?_
   refine zR ?_
   exact zEn hs0_
  replace hs0_:=Zr c8 hs0_
  exact zEx hs0_
 rcases z9 with z9 | z9
 ·dsimp only [Qn] at hw h
  refine Ke hw ?_
  try simp only [Xe,Yi,↓reduceIte,Nat.reduceEqDiff]
  exact Zll [(vB false)]
 dsimp only [Qn] at hw h
 refine Yy hw ?_
 try simp only [Xe,Yi,↓reduceIte,Nat.reduceEqDiff]
 refine zD [] [] ?_
 refine zQ [6] ?_
 exact Yu [(vB true)]
theorem Zmh:∀ k,(Zj2 ((Qq k).1))∧(X0 ((Qq k).2)):=fun k=>by
 induction k with
 | zero=>exact ⟨@fun a0 a1 r O n h=>(nomatch (show (none:Option _)=some _ from h)),@fun a0 a1 r O n h=>(nomatch (show (none:Option _)=some _ from h))⟩
 | succ k ih=>exact ⟨@fun a0 a1 r O n h=>Zya (ih.1) (ih.2)  h,@fun a0 a1 r O n h=>Um (ih.1) (ih.2)  h⟩
theorem Z0e {a0:Zb} {a1:Zb} {r:Bool} {O:Objs} {n:Nat} (h:Zm6 a0 a1=some r):GTo Try.prog 70 [.agg (Zn a0),.agg (Zn a1)] O n ((vB r)) O n:=by
 obtain ⟨k,hk⟩:=Zax h
 exact (Zmh k).1  hk
theorem Q5 {a0:(List Zb)} {a1:(List Zb)} {r:Bool} {O:Objs} {n:Nat} (h:Xg a0 a1=some r):GTo Try.prog 109 [(sL Za a0),(sL Za a1),.fn 70 0 []] O n ((vB r)) O n:=by
 obtain ⟨k,hk⟩:=Zax h
 exact (Zmh k).2  hk
theorem Zco {a0 r:List Int} {O:Objs} {n:Nat} (h:Gy a0=some r):GTo Try.prog 110 [(sL (eI .u64) a0)] O n (.row n r.length) (Zv O n [some (oR 40 1 (eI .u64) r)]) (n+1):=by
 have h1:=Z1q h
 have h2:=Z1r h
 have h3:=Zvx h
 rw [List.nil_append] at h3
 subst h3
 simp only [List.length_nil,Nat.zero_add] at h1 h2
 clear h
 refine zFn Try.call110 Try.func110 fun hU hN0 hN => ?_
 show W _ _ _ _ ⟨8,[],[(0,(sL (eI .u64) r))]⟩ (Zv O n []) _
 refine zQ [0] ?_
 refine Z66 0 r.length (fl (eI .u64) r) rfl (Nat.le_of_ble_eq_true rfl) (Yj K6 _) fun A c hA => ?_
 refine zQ [0,4] ?_
 cases A with
 | none =>
  obtain rfl:r=[]:=List.eq_nil_of_length_eq_zero (hA rfl)
  refine Zt (t:=true) rfl (fun _ => ?_) (fun hc=>by cases hc)
  refine zQ [2] ?_
  refine zW ?_
  refine Zw9 (k:=1) (L3:=[some ⟨true,40,1,0,[]⟩]) (E2:=⟨8,[],[(2,.row n 0),(2,nV)]⟩) (n3:=(n+1)) (.inr rfl) hU rfl [.row n 0] ?_ ?_
  ·have ha:=Zkj (ba:=n) (E:=⟨8,[],[(2,.val (.slice none 0 0))]⟩) (O:=(Zv O n [])) (n:=n) 2 40 1 rfl (by omega)
   simp only [Yz] at ha
   exact ha
  simp only [push_cast,seval,↓reduceIte,Zo,Try.results110,hN0,hN]
 | some A =>
  refine Zt (t:=false) rfl (fun hc=>by cases hc) (fun _ => ?_)
  refine zK ?_
  refine And.intro rfl (And.intro (Nat.le_of_ble_eq_true rfl) ?_)
  refine Zk ?_
  refine Xf Z5 [] ?_
  simp only [push_cast,seval,↓reduceIte,Zo,h1,h2,hN0,hN]
  refine zW ?_
  refine Zw8 (.inr rfl) hU rfl [.row n r.length] (by omega) ?_
  simp only [push_cast,seval,↓reduceIte,Zo,Try.results110,hN0,hN]
theorem Vz {a0 r:List Zb} {O:Objs} {n:Nat} (h:V7 a0=some r):GTo Try.prog 111 [(sL Za a0)] O n (.row n r.length) (Zv O n [some (oR 25 3 Za r)]) (n+1):=by
 have h1:=Z1q h
 have h2:=Z1r h
 have h3:=Zvx h
 rw [List.nil_append] at h3
 subst h3
 simp only [List.length_nil,Nat.zero_add] at h1 h2
 clear h
 refine zFn Try.call111 Try.func111 fun hU hN0 hN => ?_
 show W _ _ _ _ ⟨8,[],[(0,(sL Za r))]⟩ (Zv O n []) _
 refine zQ [0] ?_
 refine Z66 0 r.length (fl Za r) rfl (Nat.le_of_ble_eq_true rfl) (Yj Xu _) fun A c hA => ?_
 refine zQ [0,4] ?_
 cases A with
 | none =>
  obtain rfl:r=[]:=List.eq_nil_of_length_eq_zero (hA rfl)
  refine Zt (t:=true) rfl (fun _ => ?_) (fun hc=>by cases hc)
  refine zQ [2] ?_
  refine zW ?_
  refine Zw9 (k:=1) (L3:=[some ⟨true,25,3,0,[]⟩]) (E2:=⟨8,[],[(2,.row n 0),(2,nV)]⟩) (n3:=(n+1)) (.inr rfl) hU rfl [.row n 0] ?_ ?_
  ·have ha:=Zkj (ba:=n) (E:=⟨8,[],[(2,.val (.slice none 0 0))]⟩) (O:=(Zv O n [])) (n:=n) 2 25 3 rfl (by omega)
   simp only [Yz] at ha
   exact ha
  simp only [push_cast,seval,↓reduceIte,Zo,Try.results111,hN0,hN]
 | some A =>
  refine Zt (t:=false) rfl (fun hc=>by cases hc) (fun _ => ?_)
  refine zK ?_
  refine And.intro rfl (And.intro (Nat.le_of_ble_eq_true rfl) ?_)
  refine Zk ?_
  refine Xf Z5 [] ?_
  simp only [push_cast,seval,↓reduceIte,Zo,h1,h2,hN0,hN]
  refine zW ?_
  refine Zw8 (.inr rfl) hU rfl [.row n r.length] (by omega) ?_
  simp only [push_cast,seval,↓reduceIte,Zo,Try.results111,hN0,hN]
theorem Z25 {a0:Zb} {a1:Int} {r:Int} {O:Objs} {n:Nat} (h:Zjp a0 a1=some r):GTo Try.prog 112 [.agg (Zn a0),(vI a1)] O n (.val (.int .u64 r)) O n:=by
 unfold Zjp at h
 refine zFn Try.call112 Try.func112 fun hU hN0 hN => ?_
 show W _ _ _ _ ⟨19,[],[(0,.agg (Zn a0)),(1,(vI a1))]⟩ (Zv O n []) _
 refine zQ [1,2] ?_
 refine Zk ?_
 refine zQD [1,2,13] [none,none,none,none,none] ?_
 refine Zt (t:=(cond (decide (a1 < 0)) true (decide ((a0.Words.length:Int)≤a1)))) rfl (fun c3 => ?_) (fun c3 => ?_)
 ·replace h:=Zs c3 h
  refine zQ [4] ?_
  exact Yu [.val (.int .u64 0)]
 replace h:=Zr c3 h
 refine Kq [1,2] [true] ?_
 obtain ⟨x2,hx2,ax2,bx2,cx2,h⟩:=bE (f:=(eI .u64)) Zny (fun _=>rfl) (by decide) h
 refine Zqh [4] (Xf Z5 [] ?_)
 refine zF3 ax2 bx2 cx2 ?_
 exact Yu [.val (.int .u64 x2)]
theorem Ziz {a0:Int} {r:Bool} {O:Objs} {n:Nat} (h:Zbf a0=some r):GTo Try.prog 113 [(vI a0)] O n ((vB r)) O n:=by
 unfold Zbf at h
 refine zFn Try.call113 Try.func113 fun hU hN0 hN => ?_
 show W _ _ _ _ ⟨9,[],[(0,(vI a0))]⟩ (Zv O n []) _
 refine zQ [0] ?_
 refine zQD [2] [none,none] ?_
 exact Yu [(vB (cond (decide (a0 < 0)) true (decide (65534 < a0))))]
theorem Zkg {a0:Int} {r:Int} {O:Objs} {n:Nat} (h:Zaf a0=some r):GTo Try.prog 43 [.val (.int .u8 a0)] O n (.val (.int .u64 r)) O n:=by
 unfold Zaf at h
 refine zFn Try.call43 Try.func43 fun hU hN0 hN => ?_
 show W _ _ _ _ ⟨20,[],[(0,.val (.int .u8 a0))]⟩ (Zv O n []) _
 refine zQ [0] ?_
 refine zQ [0,3] ?_
 refine Zk ?_
 refine zQd [0,3,5] [0,3,5] [] ?_
 obtain ⟨z7,hz7,h⟩:=bC h
 refine Yy (E':=⟨20,[],[(3,.val (.int .u64 z7))]⟩) (O':=(Zv O n [])) (n0:=n) ?_ ?_
 ·refine Xj hz7 (fun s0_=>⟨20,[],[(0,.val (.int .u8 a0)),(3,.val (.int .u64 s0_.1)),(5,(vI s0_.2))]⟩) (fun s0_=>(Zv O n [])) (fun z7=>JX 0 n (⟨20,[],[(3,.val (.int .u64 z7))]⟩:Env) (Zv O n []) n) ?_
  intro s0_ x0_ hs0_
  unfold Ze3 at hs0_
  try dsimp only
  refine zQ [0,3,5,6] ?_
  refine Zk ?_
  refine Zt (t:=(decide (s0_.2 < 8))) rfl (fun c6 => ?_) (fun c6 => ?_)
  ·replace hs0_:=Zs c6 hs0_
   refine Kq [0,3,5] [] ?_
   obtain ⟨z1,hz1,hs0_⟩:=bC hs0_
   refine Xl (E':=⟨20,[],[(0,.val (.int .u8 a0)),(3,.val (.int .u64 z1)),(5,(vI s0_.2))]⟩) (O':=(Zv O n [])) (n0:=n) ?_ ?_
   ·refine Ya ?_
    refine zQ [0,3,4,5] ?_
    obtain ⟨pu3,hz1⟩:=bG hz1
    refine Zqh [0,3,4,5,12] (Xf Z5 [] ?_)
    simp only [push_cast,seval,↓reduceIte,Zo,pu3,hN0,hN]
    refine Zt (t:=((IntKind.u8.wrap (Zdg .u8 (Int.fdiv a0 (2 ^ min (Int.toNat s0_.2) 8)) 1)) == 1)) rfl (fun c5 => ?_) (fun c5 => ?_)
    ·replace hz1:=Zs c5 hz1
     obtain ⟨pu4,hz1⟩:=bG hz1
     refine Xf Z5 [] ?_
     simp only [push_cast,seval,↓reduceIte,Zo,pu4,hN0,hN]
     have hz1:=Option.some.inj hz1;subst hz1
     refine And.intro rfl (Fit2.of (Yd hU rfl rfl ?_) (by omega))
     simp only [push_cast,seval,↓reduceIte,Zo,pu4,hN0,hN]
    replace hz1:=Zr c5 hz1
    refine zK ?_
    exact zEn hz1
   refine zR ?_
   exact zEn hs0_
  replace hs0_:=Zr c6 hs0_
  exact zEx hs0_
 try simp only [Xe,Yi,↓reduceIte,Nat.reduceEqDiff]
 refine zD [3] [] ?_
 refine zQ [2] ?_
 exact Yu [.val (.int .u64 z7)]
theorem Zor {a0:Int} {a1:Int} {a2:Int} {r:Int} {O:Objs} {n:Nat} (h:Ze2 a0 a1 a2=some r):GTo Try.prog 44 [.val (.int .u64 a0),.val (.int .u64 a1),.val (.int .u8 a2)] O n (.val (.int .u64 r)) O n:=by
 unfold Ze2 at h
 refine zFn Try.call44 Try.func44 fun hU hN0 hN => ?_
 show W _ _ _ _ ⟨17,[],[(0,.val (.int .u64 a0)),(1,.val (.int .u64 a1)),(2,.val (.int .u8 a2))]⟩ (Zv O n []) _
 refine zQ [0,1,2] ?_
 refine Zk ?_
 obtain ⟨y2,hy2,h⟩:=bC h
 refine zCd (Zkg hy2) [0,1,7] [] ?_
 refine zQ [6] ?_
 exact Yu [.val (.int .u64 (IntKind.u64.wrap (Zq3 .u64 (IntKind.u64.wrap (Z05 .u64 a0 y2)) (IntKind.u64.wrap (Zdg .u64 a1 y2)))))]
attribute [local push_cast] Try.results104 Try.results114 Try.results115 Try.results116 Try.results117 Try.results128 Try.results37 Try.results71 Try.results72
theorem Zt9 {a0:Zb} {a1:Int} {a2:Int} {r:Zb} {O:Objs} {n:Nat} {i0 j0_0 j0_1:Nat} (hi0:i0 < n) (Zae:j0_0 < n) (Zjl:j0_1 < n) (K8:i0≠j0_0) (Zav:i0≠j0_1) (Zau:j0_0≠j0_1) (ho0:O i0=some ⟨false,25,3,1,[(vI a0.Kind),.row j0_1 a0.Words.length,.row j0_0 a0.Kids.length]⟩) (Zaw:O j0_0=some (oR 25 3 Za a0.Kids)) (Zks:O j0_1=some (oR 40 1 (eI .u64) a0.Words)) (h:Zdh a0 a1 a2=some r):GTo Try.prog 114 [.ref i0 0,(vI a1),.val (.int .u64 a2)] O n (.tup []) (Zv (((O.upd j0_0 none).upd j0_1 none).upd i0 (some ⟨false,25,3,1,[(vI r.Kind),.row (n+1) r.Words.length,.row n r.Kids.length]⟩)) n [some (oR 25 3 Za r.Kids),some (oR 40 1 (eI .u64) r.Words)]) (n+2):=by
 unfold Zdh at h
 refine Znp Z5 Try.call114 Try.func114 rfl (Nat.le_of_ble_eq_true rfl) (by omega) fun hU => ?_
 have e0:=Vu (ba:=n) (E:=⟨40,[],Zhx 0 [.ref i0 0,.val (.int .i64 a1),.val (.int .u64 a2)]⟩) (O:=(Zv O n [])) (n:=n) (i:=i0) (j:=j0_0) (k:=2) (len:=a0.Kids.length) (q:=⟨false,25,3,1,[.val (.int .i64 a0.Kind),.row j0_1 a0.Words.length,.row j0_0 a0.Kids.length]⟩) (qj:=⟨true,25,3,a0.Kids.length,fl Za a0.Kids⟩) (by rw [Y6 _ hi0];first | exact ho0 | exact Yk _ _ _) rfl (by rw [Y6 _ Zae];exact Zaw) K8 (by omega)
 simp only [Xh _ _ Zae,Xh _ _ hi0,Xp,Yz,Ju,Zcj K8,List.set_cons_zero,List.set_cons_succ,List.cons_append,List.nil_append,List.length_cons,List.length_nil,Nat.zero_add,Nat.reduceAdd,Nat.add_assoc] at e0
 refine J9 e0 ?_
 have e1:=Vu (ba:=n) (E:=⟨40,[],Zhx 0 [.ref i0 0,.val (.int .i64 a1),.val (.int .u64 a2)]⟩) (O:=(Zv ((O.upd j0_0 none).upd i0 (some ⟨false,25,3,1,[.val (.int .i64 a0.Kind),.row j0_1 a0.Words.length,.row n a0.Kids.length]⟩)) n [some ⟨true,25,3,a0.Kids.length,fl Za a0.Kids⟩])) (n:=(n+1)) (i:=i0) (j:=j0_1) (k:=1) (len:=a0.Words.length) (q:=⟨false,25,3,1,[.val (.int .i64 a0.Kind),.row j0_1 a0.Words.length,.row n a0.Kids.length]⟩) (qj:=⟨true,40,1,a0.Words.length,fl (eI .u64) a0.Words⟩) (by rw [Y6 _ hi0];first | exact ho0 | exact Yk _ _ _) rfl (by rw [Y6 _ Zjl,Xw _ _ (Ne.symm Zav),Xw _ _ (Ne.symm Zau)];exact Zks) Zav (by omega)
 simp only [Xh _ _ Zjl,Xh _ _ hi0,Xp,Yz,Ju,Zcj Zav,List.set_cons_zero,List.set_cons_succ,List.cons_append,List.nil_append,List.length_cons,List.length_nil,Nat.zero_add,Nat.reduceAdd,Nat.add_assoc] at e1
 refine J9 e1 ?_
 have hU:=(Und.drop (Und.drop hU j0_0) j0_1)
 have hk0:∀ k,i0 < n+k:=fun k=>by omega
 have hN0:∀ o,Objs.upd ((O.upd j0_0 none).upd j0_1 none) i0 o n=none:=fun o=>Jp hU hi0 _ (Nat.le_refl _)
 have hN:∀ o k,Objs.upd ((O.upd j0_0 none).upd j0_1 none) i0 o (n+k)=none:=fun o k=>Jp hU hi0 _ (Nat.le_add_right _ _)
 show W _ _ _ _ ⟨40,[],[(0,.ref i0 0),(1,(vI a1)),(2,.val (.int .u64 a2))]⟩ (Zv (((O.upd j0_0 none).upd j0_1 none).upd i0 (some ⟨false,25,3,1,[(vI a0.Kind),.row (n+1) a0.Words.length,.row n a0.Kids.length]⟩)) n [some (oR 25 3 Za a0.Kids),some (oR 40 1 (eI .u64) a0.Words)]) _
 refine Zk ?_
 refine zD [0,1,2] [true,true] ?_
 obtain ⟨z3,hz3,h⟩:=bC h
 refine Yy (E':=⟨40,[],[(0,.ref i0 0),(1,(vI a1)),(2,.val (.int .u64 a2))]⟩) (O':=(Zv (((O.upd j0_0 none).upd j0_1 none).upd i0 (some ⟨false,25,3,1,[(vI a0.Kind),.row (n+1) z3.length,.row n a0.Kids.length]⟩)) n [some (oR 25 3 Za a0.Kids),some (oR 40 1 (eI .u64) z3)])) (n0:=(n+2)) ?_ ?_
 ·refine Xj hz3 (fun s0_=>⟨40,[],[(0,.ref i0 0),(1,(vI a1)),(2,.val (.int .u64 a2))]⟩) (fun s0_=>(Zv (((O.upd j0_0 none).upd j0_1 none).upd i0 (some ⟨false,25,3,1,[(vI a0.Kind),.row (n+1) s0_.length,.row n a0.Kids.length]⟩)) n [some (oR 25 3 Za a0.Kids),some (oR 40 1 (eI .u64) s0_)])) (fun z3=>JX 0 n (⟨40,[],[(0,.ref i0 0),(1,(vI a1)),(2,.val (.int .u64 a2))]⟩:Env) (Zv (((O.upd j0_0 none).upd j0_1 none).upd i0 (some ⟨false,25,3,1,[(vI a0.Kind),.row (n+1) z3.length,.row n a0.Kids.length]⟩)) n [some (oR 25 3 Za a0.Kids),some (oR 40 1 (eI .u64) z3)]) (n+2)) ?_
  intro s0_ x0_ hs0_
  unfold Zaz at hs0_
  try dsimp only
  refine Zk ?_
  refine Zqh [0,1,2,16] (Xf Z5 [none,none] ?_)
  refine zX2 hi0 hk0 ?_
  refine zG ?_
  refine Zt (t:=(cond (decide ((s0_.length:Int)≤a1)) (a2 != 0) false)) rfl (fun c2 => ?_) (fun c2 => ?_)
  ·replace hs0_:=Zs c2 hs0_
   refine Kq [0,1,2] [true,true] ?_
   refine Ya ?_
   obtain ⟨l1,pl1,ql1,el1,hs0_⟩:=bA (k:=1) rfl hs0_
   refine Z1o [] pl1 ql1 el1 hi0 hk0 ?_
   have hs0_:=Option.some.inj hs0_;subst hs0_
   refine And.intro rfl (Fit2.of (Yh hU rfl rfl ?_) (by omega))
   exact Ykv pl1 ql1 el1 hi0 hk0
  replace hs0_:=Zr c2 hs0_
  refine zXt ?_
  have hs0_:=Option.some.inj hs0_;subst hs0_
  refine And.intro (fun h=>by cases h) (And.intro rfl (Fit2.of (Yh hU rfl rfl ?_) (by omega)))
  exact Jn hi0 hk0
 try simp only [Xe,Yi,↓reduceIte,Nat.reduceEqDiff]
 refine zD [0,1,2] [true,true] ?_
 refine Zc5 [0,1,2,32] hi0 hk0 ?_
 refine Zt (t:=(decide (a1 < (z3.length:Int)))) rfl (fun c6 => ?_) (fun c6 => ?_)
 ·replace h:=Zs c6 h
  obtain ⟨x4,hx4,ax4,bx4,cx4,h⟩:=bE (f:=(eI .u64)) Zny (fun _=>rfl) (by decide) h
  have gu5:V5 (fl (eI .u64) z3) [.val (.int .u64 a2)] (Int.toNat a1 * 1)=some (fl (eI .u64) (Zi5 z3 a1 a2)):=Zmg (f:=(eI .u64)) (ti:=⟨.bool,1,0,[],false⟩) (x:=a2) (fun _=>rfl) (Zhy hx4)
  refine Ykt [] ax4 bx4 cx4 gu5 hi0 hk0 ?_
  have h:=Option.some.inj h;subst h
  refine Ko (k:=2) (i:=i0) (q1:=⟨false,25,3,1,[(vI a0.Kind),.row (n+1) (Zi5 z3 a1 a2).length,.row n a0.Kids.length]⟩) (L3:=[some (oR 25 3 Za a0.Kids),some (oR 40 1 (eI .u64) (Zi5 z3 a1 a2)),none]) (E2:=(⟨40,[],[]⟩:Env)) (n3:=(n+3)) (.inl rfl) hU rfl [] ?_ ?_
  ·refine Fit2.trans (E':=(⟨40,[],[]⟩:Env)) (O':=(Zv (((O.upd j0_0 none).upd j0_1 none).upd i0 (some ⟨false,25,3,1,[(vI a0.Kind),.row (n+1) (Zi5 z3 a1 a2).length,.row n a0.Kids.length]⟩)) n [some (oR 25 3 Za a0.Kids),some (oR 40 1 (eI .u64) (Zi5 z3 a1 a2))])) (n':=(n+2)) (Fit2.of (Yh hU rfl rfl ?_) (by omega)) ?_
   ·exact Ykr ax4 bx4 cx4 gu5 hi0 hk0
   refine Q4 (k:=2) (k':=3) hU [0,1] [0,1,0] rfl rfl rfl rfl ⟨rfl,rfl⟩ ?_
   exact Jn hi0 hk0
  simp only [push_cast,seval,↓reduceIte,Zo,Try.results114,hi0,hk0,hN0,hN]
 replace h:=Zr c6 h
 refine zK ?_
 have h:=Option.some.inj h;subst h
 refine Ko (k:=2) (i:=i0) (q1:=⟨false,25,3,1,[(vI a0.Kind),.row (n+1) z3.length,.row n a0.Kids.length]⟩) (L3:=[some (oR 25 3 Za a0.Kids),some (oR 40 1 (eI .u64) z3),none]) (E2:=(⟨40,[],[]⟩:Env)) (n3:=(n+3)) (.inl rfl) hU rfl [] ?_ ?_
 ·refine Fit2.trans (E':=(⟨40,[],[]⟩:Env)) (O':=(Zv (((O.upd j0_0 none).upd j0_1 none).upd i0 (some ⟨false,25,3,1,[(vI a0.Kind),.row (n+1) z3.length,.row n a0.Kids.length]⟩)) n [some (oR 25 3 Za a0.Kids),some (oR 40 1 (eI .u64) z3)])) (n':=(n+2)) (Fit2.of (Yh hU rfl rfl ?_) (by omega)) ?_
  ·exact Jn hi0 hk0
  refine Q4 (k:=2) (k':=3) hU [0,1] [0,1,0] rfl rfl rfl rfl ⟨rfl,rfl⟩ ?_
  exact Jn hi0 hk0
 simp only [push_cast,seval,↓reduceIte,Zo,Try.results114,hi0,hk0,hN0,hN]
theorem Zvf {a0:Zb} {a1:Int} {r:Zb} {O:Objs} {n:Nat} (h:Zkx a0 a1=some r):GTo Try.prog 115 [.agg (Zn a0),(vI a1)] O n (.agg (Zn r)) O n:=by
 unfold Zkx at h
 refine zFn Try.call115 Try.func115 fun hU hN0 hN => ?_
 show W _ _ _ _ ⟨20,[],[(0,.agg (Zn a0)),(1,(vI a1))]⟩ (Zv O n []) _
 refine zQ [1,2,4] ?_
 refine Zk ?_
 refine zQD [1,2,4,13] [none,none,none,none,none] ?_
 refine Zt (t:=(cond (decide (a1 < 0)) true (decide ((a0.Kids.length:Int)≤a1)))) rfl (fun c3 => ?_) (fun c3 => ?_)
 ·replace h:=Zs c3 h
  refine Zk ?_
  refine zRd [4] [false,true] ?_
  exact Yu [.agg [(vI 0),nV,nV]]
 replace h:=Zr c3 h
 refine Kq [1,2,4] [true,true] ?_
 refine Zk ?_
 obtain ⟨x2,hx2,ax2,bx2,cx2,h⟩:=bE (f:=Za) Zac (fun _=>rfl) (by decide) h
 refine Zby [] ax2 bx2 cx2 ?_
 refine zD [4] [false,true] ?_
 exact Yu [.agg (Zn x2)]
theorem Zvo {a0:Zb} {a1:Int} {a2:Zb} {r:Zb} {O:Objs} {n:Nat} {i0 j0_0:Nat} (hi0:i0 < n) (Zae:j0_0 < n) (K8:i0≠j0_0) (ho0:O i0=some ⟨false,25,3,1,[(vI a0.Kind),(sL (eI .u64) a0.Words),.row j0_0 a0.Kids.length]⟩) (Zaw:O j0_0=some (oR 25 3 Za a0.Kids)) (h:Zey a0 a1 a2=some r):GTo Try.prog 116 [.ref i0 0,(vI a1),.agg (Zn a2)] O n (.tup []) (Zv ((O.upd j0_0 none).upd i0 (some ⟨false,25,3,1,[(vI r.Kind),(sL (eI .u64) r.Words),.row n r.Kids.length]⟩)) n [some (oR 25 3 Za r.Kids)]) (n+1):=by
 unfold Zey at h
 refine Znp Z5 Try.call116 Try.func116 rfl (Nat.le_of_ble_eq_true rfl) (by omega) fun hU => ?_
 have e0:=Vu (ba:=n) (E:=⟨43,[],Zhx 0 [.ref i0 0,.val (.int .i64 a1),.agg [.val (.int .i64 a2.Kind),.sl a2.Words.length (fl (eI .u64) a2.Words),.sl a2.Kids.length (fl Za a2.Kids)]]⟩) (O:=(Zv O n [])) (n:=n) (i:=i0) (j:=j0_0) (k:=2) (len:=a0.Kids.length) (q:=⟨false,25,3,1,[.val (.int .i64 a0.Kind),.sl a0.Words.length (fl (eI .u64) a0.Words),.row j0_0 a0.Kids.length]⟩) (qj:=⟨true,25,3,a0.Kids.length,fl Za a0.Kids⟩) (by rw [Y6 _ hi0];first | exact ho0 | exact Yk _ _ _) rfl (by rw [Y6 _ Zae];exact Zaw) K8 (by omega)
 simp only [Xh _ _ Zae,Xh _ _ hi0,Xp,Yz,Ju,Zcj K8,List.set_cons_zero,List.set_cons_succ,List.cons_append,List.nil_append,List.length_cons,List.length_nil,Nat.zero_add,Nat.reduceAdd,Nat.add_assoc] at e0
 refine J9 e0 ?_
 have hU:=(Und.drop hU j0_0)
 have hk0:∀ k,i0 < n+k:=fun k=>by omega
 have hN0:∀ o,Objs.upd (O.upd j0_0 none) i0 o n=none:=fun o=>Jp hU hi0 _ (Nat.le_refl _)
 have hN:∀ o k,Objs.upd (O.upd j0_0 none) i0 o (n+k)=none:=fun o k=>Jp hU hi0 _ (Nat.le_add_right _ _)
 show W _ _ _ _ ⟨43,[],[(0,.ref i0 0),(1,(vI a1)),(2,.agg (Zn a2))]⟩ (Zv ((O.upd j0_0 none).upd i0 (some ⟨false,25,3,1,[(vI a0.Kind),(sL (eI .u64) a0.Words),.row n a0.Kids.length]⟩)) n [some (oR 25 3 Za a0.Kids)]) _
 refine Zc5 [0,1,5] hi0 hk0 ?_
 refine Zk ?_
 refine zD [0,1,5] [true,true] ?_
 obtain ⟨z5,hz5,h⟩:=bC h
 refine Yy (E':=⟨43,[],[(0,.ref i0 0),(1,(vI a1)),(5,.ref (n+1) 0)]⟩) (O':=(Zv ((O.upd j0_0 none).upd i0 (some ⟨false,25,3,1,[(vI a0.Kind),(sL (eI .u64) a0.Words),.row n z5.length]⟩)) n [some (oR 25 3 Za z5),some ⟨false,25,3,1,(Zn a2)⟩])) (n0:=(n+2)) ?_ ?_
 ·refine Xj hz5 (fun s0_=>⟨43,[],[(0,.ref i0 0),(1,(vI a1)),(5,.ref (n+1) 0)]⟩) (fun s0_=>(Zv ((O.upd j0_0 none).upd i0 (some ⟨false,25,3,1,[(vI a0.Kind),(sL (eI .u64) a0.Words),.row n s0_.length]⟩)) n [some (oR 25 3 Za s0_),some ⟨false,25,3,1,(Zn a2)⟩])) (fun z5=>JX 0 n (⟨43,[],[(0,.ref i0 0),(1,(vI a1)),(5,.ref (n+1) 0)]⟩:Env) (Zv ((O.upd j0_0 none).upd i0 (some ⟨false,25,3,1,[(vI a0.Kind),(sL (eI .u64) a0.Words),.row n z5.length]⟩)) n [some (oR 25 3 Za z5),some ⟨false,25,3,1,(Zn a2)⟩]) (n+2)) ?_
  intro s0_ x0_ hs0_
  unfold Zbq at hs0_
  try dsimp only
  refine Zk ?_
  refine Zqh [0,1,5,17] (Xf Z5 [none,none,none] ?_)
  refine zX2 hi0 hk0 ?_
  refine zG ?_
  refine Zt (t:=(cond (decide ((s0_.length:Int)≤a1)) (a2.Kind != 0) false)) rfl (fun c4 => ?_) (fun c4 => ?_)
  ·replace hs0_:=Zs c4 hs0_
   refine Kq [0,1,5] [true,true] ?_
   refine Ya ?_
   obtain ⟨l1,pl1,ql1,el1,hs0_⟩:=bA (k:=1) rfl hs0_
   obtain ⟨x2,hx2,ax2,bx2,cx2,hs0_⟩:=bE (f:=Za) Zac (fun _=>rfl) (by decide) hs0_
   have gu3:V5 (fl Za s0_++[.val (.int .i64 0),.val (.slice none 0 0),.val (.slice none 0 0)]) [.val (.int .i64 0),.val (.slice none 0 0),.val (.slice none 0 0)] (List.length s0_ * 3)=some (fl Za s0_++[.val (.int .i64 0),.val (.slice none 0 0),.val (.slice none 0 0)]):=Zcm (f:=Za) (sz:=3) (fun _=>rfl) rfl rfl
   refine Jv Z5 (by kernel_rfl) [.plain,.low,.low,.low,.plain,.low,.pass,.bar,.shp,.fill true,.shp,.shp,.fill false] (fun i=>i < (n+2)) [0,1,2,3,4,5,6,7,8,9,10,11,12] [.plain,.low,.low,.low,.plain,.low,.pass,.bar,.shp,.fill true,.shp,.shp,.fill false] [] (by kernel_rfl) rfl ?_
   refine zF9 pl1 ql1 el1 ax2 bx2 cx2 gu3 hi0 hk0 ?_
   refine zO ?_
   have hs0_:=Option.some.inj hs0_;subst hs0_
   refine And.intro rfl (Fit2.of (Yh hU rfl rfl ?_) (by omega))
   exact Z42 pl1 ql1 el1 ax2 bx2 cx2 gu3 hi0 hk0
  replace hs0_:=Zr c4 hs0_
  refine zXt ?_
  have hs0_:=Option.some.inj hs0_;subst hs0_
  refine And.intro (fun h=>by cases h) (And.intro rfl (Fit2.of (Yh hU rfl rfl ?_) (by omega)))
  exact Jn hi0 hk0
 try simp only [Xe,Yi,↓reduceIte,Nat.reduceEqDiff]
 refine zD [0,1,5] [true,true] ?_
 refine Zc5 [0,1,5,35] hi0 hk0 ?_
 refine Zt (t:=(decide (a1 < (z5.length:Int)))) rfl (fun c8 => ?_) (fun c8 => ?_)
 ·replace h:=Zs c8 h
  obtain ⟨x6,hx6,ax6,bx6,cx6,h⟩:=bE (f:=Za) Zac (fun _=>rfl) (by decide) h
  have gu7:V5 (fl Za z5) [.val (.int .i64 a2.Kind),.sl a2.Words.length (fl (eI .u64) a2.Words),.sl a2.Kids.length (fl Za a2.Kids)] (Int.toNat a1 * 3)=some (fl Za (Zi5 z5 a1 a2)):=(congrArg (fun c=>V5 (fl Za z5) c (Int.toNat a1 * 3)) (show [.val (.int .i64 a2.Kind),.sl a2.Words.length (fl (eI .u64) a2.Words),.sl a2.Kids.length (fl Za a2.Kids)]=Za a2 from by simp only [Za,Y1,eI,eB,eS,eL])).trans (Zmg (f:=Za) (ti:=⟨.bool,3,0,[],false⟩) (x:=a2) (fun _=>rfl) (Zhy hx6))
  refine Zkd Z5 (by kernel_rfl) [false,false,false,false,false,false,false,true] [] (by kernel_rfl) ?_
  refine zF6 ax6 bx6 cx6 gu7 hi0 hk0 ?_
  have h:=Option.some.inj h;subst h
  refine Ko (k:=1) (i:=i0) (q1:=⟨false,25,3,1,[(vI a0.Kind),(sL (eI .u64) a0.Words),.row n (Zi5 z5 a1 a2).length]⟩) (L3:=[some (oR 25 3 Za (Zi5 z5 a1 a2)),none]) (E2:=(⟨43,[],[]⟩:Env)) (n3:=(n+2)) (.inl rfl) hU rfl [] ?_ ?_
  ·refine Fit2.trans (E':=(⟨43,[],[]⟩:Env)) (O':=(Zv ((O.upd j0_0 none).upd i0 (some ⟨false,25,3,1,[(vI a0.Kind),(sL (eI .u64) a0.Words),.row n (Zi5 z5 a1 a2).length]⟩)) n [some (oR 25 3 Za (Zi5 z5 a1 a2)),none])) (n':=(n+2)) (Fit2.of (Yh hU rfl rfl ?_) (by omega)) ?_
   ·exact Ykr ax6 bx6 cx6 gu7 hi0 hk0
   refine Q4 (k:=2) (k':=2) hU [0,1] [0,0] rfl rfl rfl rfl ⟨rfl,rfl⟩ ?_
   exact Jn hi0 hk0
  simp only [push_cast,seval,↓reduceIte,Zo,Try.results116,hi0,hk0,hN0,hN]
 replace h:=Zr c8 h
 refine zK ?_
 have h:=Option.some.inj h;subst h
 refine Ko (k:=1) (i:=i0) (q1:=⟨false,25,3,1,[(vI a0.Kind),(sL (eI .u64) a0.Words),.row n z5.length]⟩) (L3:=[some (oR 25 3 Za z5),none]) (E2:=(⟨43,[],[]⟩:Env)) (n3:=(n+2)) (.inl rfl) hU rfl [] ?_ ?_
 ·refine Fit2.trans (E':=(⟨43,[],[]⟩:Env)) (O':=(Zv ((O.upd j0_0 none).upd i0 (some ⟨false,25,3,1,[(vI a0.Kind),(sL (eI .u64) a0.Words),.row n z5.length]⟩)) n [some (oR 25 3 Za z5),none])) (n':=(n+2)) (Fit2.of (Yh hU rfl rfl ?_) (by omega)) ?_
  ·exact Jn hi0 hk0
  refine Q4 (k:=2) (k':=2) hU [0,1] [0,0] rfl rfl rfl rfl ⟨rfl,rfl⟩ ?_
  exact Jn hi0 hk0
 simp only [push_cast,seval,↓reduceIte,Zo,Try.results116,hi0,hk0,hN0,hN]
theorem Zm8 {a0:Int} {r:Bool} {O:Objs} {n:Nat} (h:Ze1 a0=some r):GTo Try.prog 104 [(vI a0)] O n ((vB r)) O n:=by
 unfold Ze1 at h
 refine zFn Try.call104 Try.func104 fun hU hN0 hN => ?_
 show W _ _ _ _ ⟨9,[],[(0,(vI a0))]⟩ (Zv O n []) _
 refine zQ [0] ?_
 refine zQD [2] [none,none] ?_
 exact Yu [(vB (cond (decide (2≤a0)) (decide (a0≤9)) false))]
def Zbg (Xn:(Zc→Zb→Option (Zb×Bool))):Prop:=∀ {a0:Zc} {a1:Zb} {r:(Zb×Bool)} {O:Objs} {n:Nat},Xn a0 a1=some r→GTo Try.prog 37 [.agg (Ze a0),.agg (Zn a1)] O n (.tup [.agg (Zn r.1),(vB r.2)]) O n
def Vs (Yq:(Zc→Zb→Option (Zb×Bool))):Prop:=∀ {a0:Zc} {a1:Zb} {r:(Zb×Bool)} {O:Objs} {n:Nat},Yq a0 a1=some r→GTo Try.prog 71 [.agg (Ze a0),.agg (Zn a1)] O n (.tup [.agg (Zn r.1),(vB r.2)]) O n
def Zbh (X2:(Zc→Zb→Option (Zb×Bool))):Prop:=∀ {a0:Zc} {a1:Zb} {r:(Zb×Bool)} {O:Objs} {n:Nat},X2 a0 a1=some r→GTo Try.prog 72 [.agg (Ze a0),.agg (Zn a1)] O n (.tup [.agg (Zn r.1),(vB r.2)]) O n
def Km (Z9:(Zl→Zh→Option (Bool×Zl))):Prop:=∀ {a0:Zl} {a1:Zh} {r:(Bool×Zl)} {O:Objs} {n:Nat} {i0 j0_0:Nat},i0 < n→j0_0 < n→i0≠j0_0→O i0=some ⟨false,131,2,1,[(sL Za a0.left),.row j0_0 a0.out.length]⟩→O j0_0=some (oR 25 3 Za a0.out)→Z9 a0 a1=some r→GTo Try.prog 117 [.ref i0 0,.agg (Yg a1)] O n ((vB r.1)) (Zv ((O.upd j0_0 none).upd i0 (some ⟨false,131,2,1,[(sL Za r.2.left),.row n r.2.out.length]⟩)) n [some (oR 25 3 Za r.2.out)]) (n+1)
def Jo (Z7:(Zl→Zc→Option (Bool×Zl))):Prop:=∀ {a0:Zl} {a1:Zc} {r:(Bool×Zl)} {O:Objs} {n:Nat} {i0 j0_0:Nat},i0 < n→j0_0 < n→i0≠j0_0→O i0=some ⟨false,131,2,1,[(sL Za a0.left),.row j0_0 a0.out.length]⟩→O j0_0=some (oR 25 3 Za a0.out)→Z7 a0 a1=some r→GTo Try.prog 128 [.ref i0 0,.agg (Ze a1)] O n ((vB r.1)) (Zv ((O.upd j0_0 none).upd i0 (some ⟨false,131,2,1,[(sL Za r.2.left),.row n r.2.out.length]⟩)) n [some (oR 25 3 Za r.2.out)]) (n+1)
theorem Zx5 {Xn:(Zc→Zb→Option (Zb×Bool))} {Yq:(Zc→Zb→Option (Zb×Bool))} {X2:(Zc→Zb→Option (Zb×Bool))} {Z9:(Zl→Zh→Option (Bool×Zl))} {Z7:(Zl→Zc→Option (Bool×Zl))} (Uj:Zbg Xn) (Gj:Vs Yq) (Zdm:Zbh X2) (Ua:Km Z9) (Kp:Jo Z7) {a0:Zc} {a1:Zb} {r:(Zb×Bool)} {O:Objs} {n:Nat} (h:Zbl Xn Yq X2 Z9 Z7 a0 a1=some r):GTo Try.prog 37 [.agg (Ze a0),.agg (Zn a1)] O n (.tup [.agg (Zn r.1),(vB r.2)]) O n:=by
 unfold Zbl at h
 refine zFn Try.call37 Try.func37 fun hU hN0 hN => ?_
 show W _ _ _ _ ⟨34,[],[(0,.agg (Ze a0)),(1,.agg (Zn a1))]⟩ (Zv O n []) _
 refine zQ [2,3,4] ?_
 refine Zk ?_
 refine zQ [2,3,4,7] ?_
 refine Ya ?_
 refine zQ [2,3,4,7,8] ?_
 refine Zt (t:=(a0.Kind == 0)) rfl (fun c10 => ?_) (fun c10 => ?_)
 ·replace h:=Zs c10 h
  refine Zk ?_
  refine zRd [4,5] [false,false,true] ?_
  exact Yu [.agg (Zn a1),(vB true)]
 replace h:=Zr c10 h
 refine zQ [2,3,4,7,11] ?_
 refine Zt (t:=(a0.Kind == 1)) rfl (fun c9 => ?_) (fun c9 => ?_)
 ·replace h:=Zs c9 h
  refine Zk ?_
  obtain ⟨y2,hy2,h⟩:=bC h
  refine Zkd Z5 (by kernel_rfl) [false,false,false,false,false,false,true,false] [] (by kernel_rfl) ?_
  refine zS ?_
  refine PCall.of (Z0e hy2) ?_
  refine zS ?_
  refine zD [4,5] [false,false,true] ?_
  exact Yu [.agg (Zn a0.New),(vB y2)]
 replace h:=Zr c9 h
 refine zQ [2,3,4,7,19] ?_
 refine Zt (t:=(a0.Kind == 2)) rfl (fun c8 => ?_) (fun c8 => ?_)
 ·replace h:=Zs c8 h
  refine Zk ?_
  obtain ⟨y4,hy4,h⟩:=bC h
  refine zCd (Gj hy4) [4,5] [false,false,true] ?_
  exact Yu [.agg (Zn y4.1),(vB y4.2)]
 replace h:=Zr c8 h
 refine zQ [2,3,4,26] ?_
 refine Zt (t:=(a0.Kind == 3)) rfl (fun c7 => ?_) (fun c7 => ?_)
 ·replace h:=Zs c7 h
  refine Zk ?_
  obtain ⟨y6,hy6,h⟩:=bC h
  refine zCd (Zdm hy6) [4,5] [false,false,true] ?_
  exact Yu [.agg (Zn y6.1),(vB y6.2)]
 replace h:=Zr c7 h
 refine Kq [4] [false,false,true] ?_
 refine Zk ?_
 refine zRd [4,5] [false,false,true] ?_
 exact Yu [.agg [(vI 0),nV,nV],(vB false)]
theorem Zp5 {Xn:(Zc→Zb→Option (Zb×Bool))} {Yq:(Zc→Zb→Option (Zb×Bool))} {X2:(Zc→Zb→Option (Zb×Bool))} {Z9:(Zl→Zh→Option (Bool×Zl))} {Z7:(Zl→Zc→Option (Bool×Zl))} (Uj:Zbg Xn) (Gj:Vs Yq) (Zdm:Zbh X2) (Ua:Km Z9) (Kp:Jo Z7) {a0:Zc} {a1:Zb} {r:(Zb×Bool)} {O:Objs} {n:Nat} (h:Gk Xn Yq X2 Z9 Z7 a0 a1=some r):GTo Try.prog 71 [.agg (Ze a0),.agg (Zn a1)] O n (.tup [.agg (Zn r.1),(vB r.2)]) O n:=by
 unfold Gk at h
 refine zFn Try.call71 Try.func71 fun hU hN0 hN => ?_
 show W _ _ _ _ ⟨92,[],[(0,.agg (Ze a0)),(1,.agg (Zn a1))]⟩ (Zv O n []) _
 refine zQ [2,3,4] ?_
 refine Zk ?_
 refine zQ [2,3,4,16] ?_
 refine Zt (t:=(a1.Kind != 1)) rfl (fun c138 => ?_) (fun c138 => ?_)
 ·replace h:=Zs c138 h
  refine Zk ?_
  refine zRd [4,5] [false,false,true] ?_
  exact Yu [.agg [(vI 0),nV,nV],(vB false)]
 replace h:=Zr c138 h
 refine Kq [2,3,4] [true,true,true] ?_
 obtain ⟨y25,hy25,h⟩:=bC h
 obtain ⟨y61,hy61,h⟩:=bC h
 refine Xl (E':=⟨92,[],[(2,.ref n 0),(3,.ref (n+1) 0),(4,.ref (n+2) 0),(6,.ref (n+5) 0)]⟩) (O':=(Zv O n [some ⟨false,30,11,1,(Ze a0)⟩,some ⟨false,25,3,1,(Zn a1)⟩,some ⟨false,25,3,1,[(vI 0),nV,nV]⟩,some (oR 40 1 (eI .u64) y25),some (oR 25 3 Za y61),some ⟨false,25,3,1,[(vI 1),.row (n+3) y25.length,.row (n+4) y61.length]⟩])) (n0:=(n+6)) ?_ ?_
 ·refine Yfy Z5 (by kernel_rfl) [.low,.low,.pass,.low,.low,.pass,.plain,.pass,.pass] (fun i=>i < (n+3)) [0,1,3,4] [2,5,6,7] [8] (.two 2 (.two 5 (.seq [6,7]) 7 (.seq [5,6])) 7 (.seq [2,5,6])) [.low,.low,.low,.low] [] (by kernel_rfl) rfl ?_
  refine zS ?_
  repeat (with_reducible refine And.intro (by omega) ?_)
  try simp only [push_cast,seval,↓reduceIte,Zo,hN0,hN]
  refine And.intro ?_ ?_
  ·try simp only [push_cast,seval,↓reduceIte,Zo,hN0,hN]
   repeat (with_reducible refine And.intro (by first | exact Ux rfl | exact Vh) ?_)
   refine (Zco hy25).then ?_
   try simp only [push_cast,seval,↓reduceIte,Zo,hN0,hN]
   repeat (with_reducible refine And.intro (by first | exact Ux rfl | exact Vh) ?_)
   try simp only [push_cast,seval,↓reduceIte,Zo,hN0,hN]
   refine And.intro ?_ ?_
   ·try simp only [push_cast,seval,↓reduceIte,Zo,hN0,hN]
    repeat (with_reducible refine And.intro (by first | exact Ux rfl | exact Vh) ?_)
    refine (Vz hy61).then ?_
    try simp only [push_cast,seval,↓reduceIte,Zo,hN0,hN]
    repeat (with_reducible refine And.intro (by first | exact Ux rfl | exact Vh) ?_)
    try simp only [push_cast,seval,↓reduceIte,Zo,hN0,hN]
    repeat (with_reducible refine And.intro (by first | exact Ux rfl | exact Vh) ?_)
    exact zEf
   try simp only [push_cast,seval,↓reduceIte,Zo,hN0,hN]
   repeat (with_reducible refine And.intro (by first | exact Ux rfl | exact Vh) ?_)
   try simp only [push_cast,seval,↓reduceIte,Zo,hN0,hN]
   repeat (with_reducible refine And.intro (by first | exact Ux rfl | exact Vh) ?_)
   refine (Vz hy61).then ?_
   try simp only [push_cast,seval,↓reduceIte,Zo,hN0,hN]
   repeat (with_reducible refine And.intro (by first | exact Ux rfl | exact Vh) ?_)
   refine And.intro rfl ?_
   refine Fit2.trans (E':=(⟨92,[],[(2,.ref n 0),(3,.ref (n+1) 0),(4,.ref (n+2) 0),(6,.ref (n+4) 0)]⟩:Env)) (O':=(Zv O n [some ⟨false,30,11,1,(Ze a0)⟩,some ⟨false,25,3,1,(Zn a1)⟩,some ⟨false,25,3,1,[(vI 0),nV,nV]⟩,some (oR 40 1 (eI .u64) y25),some ⟨false,25,3,1,[(vI 1),.row (n+3) y25.length,.row (n+5) y61.length]⟩,some (oR 25 3 Za y61)])) (n':=(n+6)) (Fit2.of (Yd hU rfl rfl ?_) (by omega)) ?_
   ·exact zSe
   refine J8 (k:=6) (k':=6) hU [0,1,2,3,5,4] [0,1,2,3,5,4] rfl rfl rfl rfl ⟨rfl,rfl⟩ ?_
   exact zSe
  try simp only [push_cast,seval,↓reduceIte,Zo,hN0,hN]
  repeat (with_reducible refine And.intro (by first | exact Ux rfl | exact Vh) ?_)
  try simp only [push_cast,seval,↓reduceIte,Zo,hN0,hN]
  repeat (with_reducible refine And.intro (by first | exact Ux rfl | exact Vh) ?_)
  refine (Zco hy25).then ?_
  try simp only [push_cast,seval,↓reduceIte,Zo,hN0,hN]
  repeat (with_reducible refine And.intro (by first | exact Ux rfl | exact Vh) ?_)
  refine (Vz hy61).then ?_
  try simp only [push_cast,seval,↓reduceIte,Zo,hN0,hN]
  repeat (with_reducible refine And.intro (by first | exact Ux rfl | exact Vh) ?_)
  refine And.intro rfl ?_
  refine Fit2.trans (E':=(⟨92,[],[(2,.ref n 0),(3,.ref (n+1) 0),(4,.ref (n+2) 0),(6,.ref (n+3) 0)]⟩:Env)) (O':=(Zv O n [some ⟨false,30,11,1,(Ze a0)⟩,some ⟨false,25,3,1,(Zn a1)⟩,some ⟨false,25,3,1,[(vI 0),nV,nV]⟩,some ⟨false,25,3,1,[(vI 1),.row (n+4) y25.length,.row (n+5) y61.length]⟩,some (oR 40 1 (eI .u64) y25),some (oR 25 3 Za y61)])) (n':=(n+6)) (Fit2.of (Yd hU rfl rfl ?_) (by omega)) ?_
  ·exact zSe
  refine J8 (k:=6) (k':=6) hU [0,1,2,5,3,4] [0,1,2,4,5,3] rfl rfl rfl rfl ⟨rfl,rfl⟩ ?_
  exact zSe
 refine Zk ?_
 refine zQd [2,3,4,6,26,27,28] [2,3,4,6,26,27,28] [true,true,true,true,true,true] ?_
 refine J9 (E':=(⟨92,[],[(2,.ref n 0),(3,.ref (n+1) 0),(4,.ref (n+2) 0),(6,.ref (n+5) 0),(26,(sL Zg a0.Words)),(27,(vI (a0.Words.length:Int))),(28,(vI 0))]⟩:Env)) (O':=(Zv O n [some ⟨false,30,11,1,(Ze a0)⟩,some ⟨false,25,3,1,(Zn a1)⟩,some ⟨false,25,3,1,[(vI 0),nV,nV]⟩,none,none,some ⟨false,25,3,1,[(vI 1),.row (n+6) y25.length,.row (n+7) y61.length]⟩,some (oR 40 1 (eI .u64) y25),some (oR 25 3 Za y61),none])) (n':=(n+9)) ?_ ?_
 ·refine Fit2.trans (E':=(⟨92,[],[(2,.ref n 0),(3,.ref (n+1) 0),(4,.ref (n+2) 0),(6,.ref (n+5) 0),(26,(sL Zg a0.Words)),(27,(vI (a0.Words.length:Int))),(28,(vI 0))]⟩:Env)) (O':=(Zv O n [some ⟨false,30,11,1,(Ze a0)⟩,some ⟨false,25,3,1,(Zn a1)⟩,some ⟨false,25,3,1,[(vI 0),nV,nV]⟩,some (oR 40 1 (eI .u64) y25),some (oR 25 3 Za y61),some ⟨false,25,3,1,[(vI 1),.row (n+3) y25.length,.row (n+4) y61.length]⟩])) (n':=(n+6)) (Fit2.of (Yd hU rfl rfl ?_) (by omega)) ?_
  ·exact zSe
  refine J8 (k:=6) (k':=9) hU [0,1,2,6,7,5] [0,1,2,0,0,5,3,4,0] rfl rfl rfl rfl ⟨rfl,rfl⟩ ?_
  exact zSe
 obtain ⟨z125,hz125,h⟩:=bC h
 refine Zbd (J:=(Qn (fun z125=>JR n (⟨92,[],[(4,.ref (n+2) 0),(5,(vB false))]⟩:Env) (Zv O n [none,none,some ⟨false,25,3,1,[(vI 0),nV,nV]⟩,none,none,none]) (n+6)) (fun z125=>JX 0 n (⟨92,[],[(2,.ref n 0),(3,.ref (n+1) 0),(4,.ref (n+2) 0),(6,.ref (n+5) 0)]⟩:Env) (Zv O n [some ⟨false,30,11,1,(Ze a0)⟩,some ⟨false,25,3,1,(Zn a1)⟩,some ⟨false,25,3,1,[(vI 0),nV,nV]⟩,none,none,some ⟨false,25,3,1,[(vI z125.1),.row (n+6) z125.2.1.length,.row (n+7) z125.2.2.length]⟩,some (oR 40 1 (eI .u64) z125.2.1),some (oR 25 3 Za z125.2.2),none]) (n+9)))) (z:=z125) ?_ fun hw => ?_
 ·refine Xj hz125 (fun s0_=>⟨92,[],[(2,.ref n 0),(3,.ref (n+1) 0),(4,.ref (n+2) 0),(6,.ref (n+5) 0),(26,(sL Zg a0.Words)),(27,(vI (a0.Words.length:Int))),(28,(vI s0_.1))]⟩) (fun s0_=>(Zv O n [some ⟨false,30,11,1,(Ze a0)⟩,some ⟨false,25,3,1,(Zn a1)⟩,some ⟨false,25,3,1,[(vI 0),nV,nV]⟩,none,none,some ⟨false,25,3,1,[(vI s0_.2.1),.row (n+6) s0_.2.2.1.length,.row (n+7) s0_.2.2.2.length]⟩,some (oR 40 1 (eI .u64) s0_.2.2.1),some (oR 25 3 Za s0_.2.2.2),none])) (Qn (fun z125=>JR n (⟨92,[],[(4,.ref (n+2) 0),(5,(vB false))]⟩:Env) (Zv O n [none,none,some ⟨false,25,3,1,[(vI 0),nV,nV]⟩,none,none,none]) (n+6)) (fun z125=>JX 0 n (⟨92,[],[(2,.ref n 0),(3,.ref (n+1) 0),(4,.ref (n+2) 0),(6,.ref (n+5) 0)]⟩:Env) (Zv O n [some ⟨false,30,11,1,(Ze a0)⟩,some ⟨false,25,3,1,(Zn a1)⟩,some ⟨false,25,3,1,[(vI 0),nV,nV]⟩,none,none,some ⟨false,25,3,1,[(vI z125.1),.row (n+6) z125.2.1.length,.row (n+7) z125.2.2.length]⟩,some (oR 40 1 (eI .u64) z125.2.1),some (oR 25 3 Za z125.2.2),none]) (n+9))) ?_
  intro s0_ x0_ hs0_
  unfold Kf at hs0_
  try dsimp only
  refine zQ [2,3,4,6,26,27,28,29] ?_
  refine Zk ?_
  refine Zt (t:=(decide (s0_.1 < (a0.Words.length:Int)))) rfl (fun c124 => ?_) (fun c124 => ?_)
  ·replace hs0_:=Zs c124 hs0_
   refine Kq [2,3,4,6,26,27,28] [true,true,true,false,false,true,true,true,false] ?_
   refine Zk ?_
   refine Ya ?_
   refine Zk ?_
   obtain ⟨x110,hx110,ax110,bx110,cx110,hs0_⟩:=bE (f:=Zg) Zhk (fun _=>rfl) (by decide) hs0_
   refine Zby [] ax110 bx110 cx110 ?_
   refine zDs [2,3,4,6,8,26,27,28] [true,true,true,false,false,true,true,true,false,true] ?_
   obtain ⟨y112,hy112,hs0_⟩:=bC hs0_
   refine zCd (Z25 hy112) [2,3,4,6,8,9,26,27,28] [true,true,true,false,false,true,true,true,false,true] ?_
   refine Zk ?_
   obtain ⟨z115,hz115,hs0_⟩:=bC hs0_
   refine Xl (E':=⟨92,[],[(2,.ref n 0),(3,.ref (n+1) 0),(4,.ref (n+2) 0),(6,.ref (n+5) 0),(8,.ref (n+9) 0),(9,.val (.int .u64 y112)),(26,(sL Zg a0.Words)),(27,(vI (a0.Words.length:Int))),(28,(vI s0_.1)),(49,(vB z115))]⟩) (O':=(Zv O n [some ⟨false,30,11,1,(Ze a0)⟩,some ⟨false,25,3,1,(Zn a1)⟩,some ⟨false,25,3,1,[(vI 0),nV,nV]⟩,none,none,some ⟨false,25,3,1,[(vI s0_.2.1),.row (n+6) s0_.2.2.1.length,.row (n+7) s0_.2.2.2.length]⟩,some (oR 40 1 (eI .u64) s0_.2.2.1),some (oR 25 3 Za s0_.2.2.2),none,some ⟨false,42,4,1,(X4 x110)⟩])) (n0:=(n+10)) ?_ ?_
   ·obtain ⟨y118,hy118,hz115⟩:=bC hz115
    rcases Bool.eq_false_or_eq_true y118 with c120 | c120
    ·replace hz115:=Zs c120 hz115
     refine Vb Z5 (by kernel_rfl) [some false,some false,some false,some false,some false,some false,some false,some false,some false] (by kernel_rfl) ?_
     refine zX1 c120 ?_
     refine PCall.of (Ziz hy118) ?_
     refine zX1 c120 ?_
     exact Kk hz115 c120
    replace hz115:=Zr c120 hz115
    obtain ⟨y119,hy119,hz115⟩:=bC hz115
    refine Vb Z5 (by kernel_rfl) [some true,some true,some true,some true,some true,some true,some true,some true,some true] (by kernel_rfl) ?_
    refine zX1 c120 ?_
    refine PCall.of (Ziz hy118) ?_
    refine zX1 c120 ?_
    refine PCall.of (Zkg hy119) ?_
    refine zX1 c120 ?_
    exact Kk hz115 c120
   refine Zt (t:=z115) rfl (fun c123 => ?_) (fun c123 => ?_)
   ·replace hs0_:=Zs c123 hs0_
    refine Zk ?_
    refine zRd [4,5] [false,false,true,false,false,false,false,false,false,false] ?_
    refine zW ?_
    exact zEy hs0_
   replace hs0_:=Zr c123 hs0_
   refine Kq [2,3,4,6,8,9,26,27,28] [true,true,true,false,false,true,true,true,false,true] ?_
   obtain ⟨y121,hy121,hs0_⟩:=bC hs0_
   obtain ⟨y122,hy122,hs0_⟩:=bC hs0_
   refine Zkd Z5 (by kernel_rfl) [false,false,false,false,false,false,false,false,true] [] (by kernel_rfl) ?_
   refine zS ?_
   refine PCall.of (Zor hy121) ?_
   refine zS ?_
   refine (Zt9 (i0:=(n+5)) (j0_0:=(n+7)) (j0_1:=(n+6)) (by omega) (by omega) (by omega) (by omega) (by omega) (by omega) (by simp only [push_cast,seval,↓reduceIte,Zo,Xz,hN0,hN] <;> rfl) (by simp only [push_cast,seval,↓reduceIte,Zo,Xz,hN0,hN] <;> rfl) (by simp only [push_cast,seval,↓reduceIte,Zo,Xz,hN0,hN] <;> rfl) hy122).then ?_
   refine zS ?_
   refine zD [2,3,4,6,26,27,28] [true,true,true,false,false,true,false,false,false,false,true,true] ?_
   refine zR ?_
   have hs0_:=Option.some.inj hs0_;subst hs0_
   refine And.intro rfl ?_
   refine Fit2.trans (E':=(⟨92,[],[(2,.ref n 0),(3,.ref (n+1) 0),(4,.ref (n+2) 0),(6,.ref (n+5) 0),(26,(sL Zg a0.Words)),(27,(vI (a0.Words.length:Int))),(28,(vI (IntKind.i64.wrap (s0_.1+1))))]⟩:Env)) (O':=(Zv O n [some ⟨false,30,11,1,(Ze a0)⟩,some ⟨false,25,3,1,(Zn a1)⟩,some ⟨false,25,3,1,[(vI 0),nV,nV]⟩,none,none,some ⟨false,25,3,1,[(vI y122.Kind),.row (n+11) y122.Words.length,.row (n+10) y122.Kids.length]⟩,none,none,none,none,some (oR 25 3 Za y122.Kids),some (oR 40 1 (eI .u64) y122.Words)])) (n':=(n+12)) (Fit2.of (Yd hU rfl rfl ?_) (by omega)) ?_
   ·exact zSe
   refine J8 (k:=12) (k':=9) hU [0,1,2,8,8,5,8,8,8,8,7,6] [0,1,2,0,0,5,11,10,0] rfl rfl rfl rfl ⟨rfl,rfl⟩ ?_
   exact zSe
  replace hs0_:=Zr c124 hs0_
  exact zEx hs0_
 rcases z125 with z125 | z125
 ·dsimp only [Qn] at hw h
  refine Ke hw ?_
  try simp only [Xe,Yi,↓reduceIte,Nat.reduceEqDiff]
  exact Zll [.agg [(vI 0),nV,nV],(vB false)]
 dsimp only [Qn] at hw h
 refine Yy hw ?_
 try simp only [Xe,Yi,↓reduceIte,Nat.reduceEqDiff]
 refine zDs [2,3,4,6] [true,true,true,false,false,true,true,true,false] ?_
 refine zQd [3,4,6,62,63,64] [3,4,6,62,63,64] [false,true,true,false,false,true,true,true,false] ?_
 refine J9 (E':=(⟨92,[],[(3,.ref (n+1) 0),(4,.ref (n+2) 0),(6,.ref (n+5) 0),(62,(sL Zi a0.Kids)),(63,(vI (a0.Kids.length:Int))),(64,(vI 0))]⟩:Env)) (O':=(Zv O n [none,some ⟨false,25,3,1,(Zn a1)⟩,some ⟨false,25,3,1,[(vI 0),nV,nV]⟩,none,none,some ⟨false,25,3,1,[(vI z125.1),(sL (eI .u64) z125.2.1),.row (n+9) z125.2.2.length]⟩,none,none,none,some (oR 25 3 Za z125.2.2),none])) (n':=(n+11)) ?_ ?_
 ·refine Fit2.trans (E':=(⟨92,[],[(3,.ref (n+1) 0),(4,.ref (n+2) 0),(6,.ref (n+5) 0),(62,(sL Zi a0.Kids)),(63,(vI (a0.Kids.length:Int))),(64,(vI 0))]⟩:Env)) (O':=(Zv O n [none,some ⟨false,25,3,1,(Zn a1)⟩,some ⟨false,25,3,1,[(vI 0),nV,nV]⟩,none,none,some ⟨false,25,3,1,[(vI z125.1),(sL (eI .u64) z125.2.1),.row (n+7) z125.2.2.length]⟩,none,some (oR 25 3 Za z125.2.2),none])) (n':=(n+9)) (Fit2.of (Yd hU rfl rfl ?_) (by omega)) ?_
  ·exact zSe
  refine J8 (k:=9) (k':=11) hU [10,1,2,10,10,5,10,9,10] [0,1,2,0,0,5,0,0,0,7,0] rfl rfl rfl rfl ⟨rfl,rfl⟩ ?_
  exact zSe
 obtain ⟨z137,hz137,h⟩:=bC h
 refine Zbd (J:=(Qn (fun z137=>JR n (⟨92,[],[(4,.ref (n+2) 0),(5,(vB false))]⟩:Env) (Zv O n [none,none,some ⟨false,25,3,1,[(vI 0),nV,nV]⟩,none,none,none,none,none,none]) (n+9)) (fun z137=>JX 2 n (⟨92,[],[(4,.ref (n+2) 0),(6,.ref (n+5) 0)]⟩:Env) (Zv O n [none,none,some ⟨false,25,3,1,[(vI 0),nV,nV]⟩,none,none,some ⟨false,25,3,1,[(vI z137.1),(sL (eI .u64) z137.2.1),.row (n+9) z137.2.2.length]⟩,none,none,none,some (oR 25 3 Za z137.2.2),none]) (n+11)))) (z:=z137) ?_ fun hw => ?_
 ·refine Xj hz137 (fun s1_=>⟨92,[],[(3,.ref (n+1) 0),(4,.ref (n+2) 0),(6,.ref (n+5) 0),(62,(sL Zi a0.Kids)),(63,(vI (a0.Kids.length:Int))),(64,(vI s1_.1))]⟩) (fun s1_=>(Zv O n [none,some ⟨false,25,3,1,(Zn a1)⟩,some ⟨false,25,3,1,[(vI 0),nV,nV]⟩,none,none,some ⟨false,25,3,1,[(vI s1_.2.1),(sL (eI .u64) s1_.2.2.1),.row (n+9) s1_.2.2.2.length]⟩,none,none,none,some (oR 25 3 Za s1_.2.2.2),none])) (Qn (fun z137=>JR n (⟨92,[],[(4,.ref (n+2) 0),(5,(vB false))]⟩:Env) (Zv O n [none,none,some ⟨false,25,3,1,[(vI 0),nV,nV]⟩,none,none,none,none,none,none]) (n+9)) (fun z137=>JX 2 n (⟨92,[],[(4,.ref (n+2) 0),(6,.ref (n+5) 0)]⟩:Env) (Zv O n [none,none,some ⟨false,25,3,1,[(vI 0),nV,nV]⟩,none,none,some ⟨false,25,3,1,[(vI z137.1),(sL (eI .u64) z137.2.1),.row (n+9) z137.2.2.length]⟩,none,none,none,some (oR 25 3 Za z137.2.2),none]) (n+11))) ?_
  intro s1_ x1_ hs1_
  unfold Ji at hs1_
  try dsimp only
  refine zQ [3,4,6,62,63,64,65] ?_
  refine Zk ?_
  refine Zt (t:=(decide (s1_.1 < (a0.Kids.length:Int)))) rfl (fun c136 => ?_) (fun c136 => ?_)
  ·replace hs1_:=Zs c136 hs1_
   refine Kq [3,4,6,62,63,64] [false,true,true,false,false,true,false,false,false,true,false] ?_
   refine Zk ?_
   refine Ya ?_
   refine Zk ?_
   obtain ⟨x127,hx127,ax127,bx127,cx127,hs1_⟩:=bE (f:=Zi) Zfm (fun _=>rfl) (by decide) hs1_
   refine Zby [] ax127 bx127 cx127 ?_
   refine zDs [3,4,6,11,62,63,64] [false,true,true,false,false,true,false,false,false,true,false,true] ?_
   obtain ⟨y130,hy130,hs1_⟩:=bC hs1_
   obtain ⟨y131,hy131,hs1_⟩:=bC hs1_
   refine Jv Z5 (by kernel_rfl) [.low,.low,.low,.low,.low,.low,.low,.plain,.plain,.plain,.pass,.bar,.plain] (fun i=>i < (n+12)) [0,1,2,3,4,5,6,7,8,9,10,11,12] [.low,.low,.low,.low,.low,.low,.low,.plain,.plain,.plain,.pass,.bar,.plain] [] (by kernel_rfl) rfl ?_
   refine zS ?_
   refine zO ?_
   first | refine PCallA.of (fun _ _=>Zvf hy130) ?_ | refine PCall.of (Zvf hy130) ?_
   refine zS ?_
   refine zO ?_
   first | refine PCallA.of (fun _ _=>Uj hy131) ?_ | refine PCall.of (Uj hy131) ?_
   refine zS ?_
   refine zO ?_
   refine zDs [3,4,6,11,12,13,62,63,64] [false,true,true,false,false,true,false,false,false,true,false,true,true] ?_
   refine Zk ?_
   obtain ⟨y133,hy133,hs1_⟩:=bC hs1_
   refine zRo [none,none] ?_
   refine zG ?_
   refine zTs (Ziz hy133) ?_
   refine zG ?_
   refine zD [3,4,6,11,12,62,63,64,84] [false,true,true,false,false,true,false,false,false,true,false,true,true] ?_
   refine Zt (t:=(cond y133 true (!y131.2))) rfl (fun c135 => ?_) (fun c135 => ?_)
   ·replace hs1_:=Zs c135 hs1_
    refine Zk ?_
    refine zRd [4,5] [false,false,true,false,false,false,false,false,false,false,false,false,false] ?_
    refine zW ?_
    exact zEy hs1_
   replace hs1_:=Zr c135 hs1_
   refine Kq [3,4,6,11,12,62,63,64] [false,true,true,false,false,true,false,false,false,true,false,true,true] ?_
   obtain ⟨y134,hy134,hs1_⟩:=bC hs1_
   refine zR ?_
   refine (Zvo (i0:=(n+5)) (j0_0:=(n+9)) (by omega) (by omega) (by omega) (by simp only [push_cast,seval,↓reduceIte,Zo,Xz,hN0,hN] <;> rfl) (by simp only [push_cast,seval,↓reduceIte,Zo,Xz,hN0,hN] <;> rfl) hy134).then ?_
   refine zS ?_
   refine zD [3,4,6,62,63,64] [false,true,true,false,false,true,false,false,false,false,false,false,false,true] ?_
   refine zR ?_
   have hs1_:=Option.some.inj hs1_;subst hs1_
   refine And.intro rfl ?_
   refine Fit2.trans (E':=(⟨92,[],[(3,.ref (n+1) 0),(4,.ref (n+2) 0),(6,.ref (n+5) 0),(62,(sL Zi a0.Kids)),(63,(vI (a0.Kids.length:Int))),(64,(vI (IntKind.i64.wrap (s1_.1+1))))]⟩:Env)) (O':=(Zv O n [none,some ⟨false,25,3,1,(Zn a1)⟩,some ⟨false,25,3,1,[(vI 0),nV,nV]⟩,none,none,some ⟨false,25,3,1,[(vI y134.Kind),(sL (eI .u64) y134.Words),.row (n+13) y134.Kids.length]⟩,none,none,none,none,none,none,none,some (oR 25 3 Za y134.Kids)])) (n':=(n+14)) (Fit2.of (Yd hU rfl rfl ?_) (by omega)) ?_
   ·exact zSe
   refine J8 (k:=14) (k':=11) hU [10,1,2,10,10,5,10,10,10,10,10,10,10,9] [0,1,2,0,0,5,0,0,0,13,0] rfl rfl rfl rfl ⟨rfl,rfl⟩ ?_
   exact zSe
  replace hs1_:=Zr c136 hs1_
  exact zEx hs1_
 rcases z137 with z137 | z137
 ·dsimp only [Qn] at hw h
  refine Ke hw ?_
  try simp only [Xe,Yi,↓reduceIte,Nat.reduceEqDiff]
  exact Zll [.agg [(vI 0),nV,nV],(vB false)]
 dsimp only [Qn] at hw h
 refine Yy hw ?_
 try simp only [Xe,Yi,↓reduceIte,Nat.reduceEqDiff]
 refine zDs [4,6] [false,false,true,false,false,true,false,false,false,true,false] ?_
 refine zRd [4,5] [false,false,true,false,false,false,false,false,false,true,false] ?_
 exact Yu [.agg [(vI z137.1),(sL (eI .u64) z137.2.1),.row (n+9) z137.2.2.length],(vB true)]
theorem Zx6 {Xn:(Zc→Zb→Option (Zb×Bool))} {Yq:(Zc→Zb→Option (Zb×Bool))} {X2:(Zc→Zb→Option (Zb×Bool))} {Z9:(Zl→Zh→Option (Bool×Zl))} {Z7:(Zl→Zc→Option (Bool×Zl))} (Uj:Zbg Xn) (Gj:Vs Yq) (Zdm:Zbh X2) (Ua:Km Z9) (Kp:Jo Z7) {a0:Zc} {a1:Zb} {r:(Zb×Bool)} {O:Objs} {n:Nat} (h:Zf4 Xn Yq X2 Z9 Z7 a0 a1=some r):GTo Try.prog 72 [.agg (Ze a0),.agg (Zn a1)] O n (.tup [.agg (Zn r.1),(vB r.2)]) O n:=by
 unfold Zf4 at h
 refine zFn Try.call72 Try.func72 fun hU hN0 hN => ?_
 show W _ _ _ _ ⟨45,[],[(0,.agg (Ze a0)),(1,.agg (Zn a1))]⟩ (Zv O n []) _
 refine zQ [2,3,4] ?_
 refine Zk ?_
 obtain ⟨z2,hz2,h⟩:=bC h
 refine Xl (E':=⟨45,[],[(2,.ref n 0),(3,.ref (n+1) 0),(4,.ref (n+2) 0),(19,(vB z2))]⟩) (O':=(Zv O n [some ⟨false,30,11,1,(Ze a0)⟩,some ⟨false,25,3,1,(Zn a1)⟩,some ⟨false,25,3,1,[(vI 0),nV,nV]⟩])) (n0:=(n+3)) ?_ ?_
 ·rcases Bool.eq_false_or_eq_true (a1.Kind != a0.List_) with c5 | c5
  ·replace hz2:=Zs c5 hz2
   refine Vf [some false,some false,some false,some false] c5 ?_
   exact Kk hz2 c5
  replace hz2:=Zr c5 hz2
  obtain ⟨y4,hy4,hz2⟩:=bC hz2
  refine Vf [some true,some true,some true,some true] c5 ?_
  refine (Zm8 hy4).then ?_
  refine zX1 c5 ?_
  exact Kk hz2 c5
 refine Zt (t:=z2) rfl (fun c13 => ?_) (fun c13 => ?_)
 ·replace h:=Zs c13 h
  refine Zk ?_
  refine zRd [4,5] [false,false,true] ?_
  exact Yu [.agg [(vI 0),nV,nV],(vB false)]
 replace h:=Zr c13 h
 refine Kq [2,3,4] [true,true,true] ?_
 refine Zk ?_
 refine zRd [2,3,4,6] [true,true,true,true] ?_
 refine Zk ?_
 refine zQd [3,4,6,25,26,27] [3,4,6,25,26,27] [false,true,true,true] ?_
 refine J9 (E':=(⟨45,[],[(3,.ref (n+1) 0),(4,.ref (n+2) 0),(6,.ref (n+3) 0),(25,(sL Zf a0.Ops)),(26,(vI (a0.Ops.length:Int))),(27,(vI 0))]⟩:Env)) (O':=(Zv O n [none,some ⟨false,25,3,1,(Zn a1)⟩,some ⟨false,25,3,1,[(vI 0),nV,nV]⟩,some ⟨false,131,2,1,[(sL Za a1.Kids),.row (n+4) ([]:List Zb).length]⟩,some (oR 25 3 Za ([]:List Zb)),none])) (n':=(n+6)) ?_ ?_
 ·refine Fit2.trans (E':=(⟨45,[],[(3,.ref (n+1) 0),(4,.ref (n+2) 0),(6,.ref (n+3) 0),(25,(sL Zf a0.Ops)),(26,(vI (a0.Ops.length:Int))),(27,(vI 0))]⟩:Env)) (O':=(Zv O n [none,some ⟨false,25,3,1,(Zn a1)⟩,some ⟨false,25,3,1,[(vI 0),nV,nV]⟩,some ⟨false,131,2,1,[(sL Za a1.Kids),nV]⟩])) (n':=(n+4)) (Fit2.of (Yd hU rfl rfl ?_) (by omega)) ?_
  ·exact zSe
  refine Fit2.trans (Vg (p:=(n+3)) (k:=1) (q:=⟨false,131,2,1,[(sL Za a1.Kids),nV]⟩) 25 3 (by simp only [Uv,Za8,List.getElem?_cons_zero,List.getElem?_cons_succ,Option.join_some,List.length_nil,Yk]) rfl (by omega)) ?_
  simp only [Xp,Yz,Un,K7,List.set_cons_zero,List.set_cons_succ,List.cons_append,List.nil_append,List.length_cons,List.length_nil,Nat.zero_add,Nat.reduceAdd,Nat.reduceLT,Nat.add_assoc]
  refine J8 (k:=5) (k':=6) hU [5,1,2,3,4] [0,1,2,3,4,0] rfl rfl rfl rfl ⟨rfl,rfl⟩ ?_
  exact zSe
 obtain ⟨z12,hz12,h⟩:=bC h
 refine Zbd (J:=(Qn (fun z12=>JR n (⟨45,[],[(4,.ref (n+2) 0),(5,(vB false))]⟩:Env) (Zv O n [none,none,some ⟨false,25,3,1,[(vI 0),nV,nV]⟩,none]) (n+4)) (fun z12=>JX 0 n (⟨45,[],[(3,.ref (n+1) 0),(4,.ref (n+2) 0),(6,.ref (n+3) 0)]⟩:Env) (Zv O n [none,some ⟨false,25,3,1,(Zn a1)⟩,some ⟨false,25,3,1,[(vI 0),nV,nV]⟩,some ⟨false,131,2,1,[(sL Za z12.1),.row (n+4) z12.2.length]⟩,some (oR 25 3 Za z12.2),none]) (n+6)))) (z:=z12) ?_ fun hw => ?_
 ·refine Xj hz12 (fun s0_=>⟨45,[],[(3,.ref (n+1) 0),(4,.ref (n+2) 0),(6,.ref (n+3) 0),(25,(sL Zf a0.Ops)),(26,(vI (a0.Ops.length:Int))),(27,(vI s0_.1))]⟩) (fun s0_=>(Zv O n [none,some ⟨false,25,3,1,(Zn a1)⟩,some ⟨false,25,3,1,[(vI 0),nV,nV]⟩,some ⟨false,131,2,1,[(sL Za s0_.2.1),.row (n+4) s0_.2.2.length]⟩,some (oR 25 3 Za s0_.2.2),none])) (Qn (fun z12=>JR n (⟨45,[],[(4,.ref (n+2) 0),(5,(vB false))]⟩:Env) (Zv O n [none,none,some ⟨false,25,3,1,[(vI 0),nV,nV]⟩,none]) (n+4)) (fun z12=>JX 0 n (⟨45,[],[(3,.ref (n+1) 0),(4,.ref (n+2) 0),(6,.ref (n+3) 0)]⟩:Env) (Zv O n [none,some ⟨false,25,3,1,(Zn a1)⟩,some ⟨false,25,3,1,[(vI 0),nV,nV]⟩,some ⟨false,131,2,1,[(sL Za z12.1),.row (n+4) z12.2.length]⟩,some (oR 25 3 Za z12.2),none]) (n+6))) ?_
  intro s0_ x0_ hs0_
  unfold Uh at hs0_
  try dsimp only
  refine zQ [3,4,6,25,26,27,28] ?_
  refine Zk ?_
  refine Zt (t:=(decide (s0_.1 < (a0.Ops.length:Int)))) rfl (fun c11 => ?_) (fun c11 => ?_)
  ·replace hs0_:=Zs c11 hs0_
   refine Kq [3,4,6,25,26,27] [false,true,true,true,true,false] ?_
   refine Zk ?_
   refine Ya ?_
   refine Zk ?_
   obtain ⟨x7,hx7,ax7,bx7,cx7,hs0_⟩:=bE (f:=Zf) Zel (fun _=>rfl) (by decide) hs0_
   refine Zby [] ax7 bx7 cx7 ?_
   refine zDs [3,4,6,8,25,26,27] [false,true,true,true,true,false,true] ?_
   obtain ⟨y9,hy9,hs0_⟩:=bC hs0_
   refine zR ?_
   refine (Ua (i0:=(n+3)) (j0_0:=(n+4)) (by omega) (by omega) (by omega) (by simp only [push_cast,seval,↓reduceIte,Zo,Xz,hN0,hN] <;> rfl) (by simp only [push_cast,seval,↓reduceIte,Zo,Xz,hN0,hN] <;> rfl) hy9).then ?_
   refine zS ?_
   refine zD [3,4,6,25,26,27,33] [false,true,true,true,false,false,false,true] ?_
   refine Zt (t:=(!y9.1)) rfl (fun c10 => ?_) (fun c10 => ?_)
   ·replace hs0_:=Zs c10 hs0_
    refine Zk ?_
    refine zRd [4,5] [false,false,true,false,false,false,false,false] ?_
    refine zW ?_
    exact zEy hs0_
   replace hs0_:=Zr c10 hs0_
   refine Kq [3,4,6,25,26,27] [false,true,true,true,false,false,false,true] ?_
   refine zR ?_
   have hs0_:=Option.some.inj hs0_;subst hs0_
   refine And.intro rfl ?_
   refine Fit2.trans (E':=(⟨45,[],[(3,.ref (n+1) 0),(4,.ref (n+2) 0),(6,.ref (n+3) 0),(25,(sL Zf a0.Ops)),(26,(vI (a0.Ops.length:Int))),(27,(vI (IntKind.i64.wrap (s0_.1+1))))]⟩:Env)) (O':=(Zv O n [none,some ⟨false,25,3,1,(Zn a1)⟩,some ⟨false,25,3,1,[(vI 0),nV,nV]⟩,some ⟨false,131,2,1,[(sL Za y9.2.left),.row (n+7) y9.2.out.length]⟩,none,none,none,some (oR 25 3 Za y9.2.out)])) (n':=(n+8)) (Fit2.of (Yd hU rfl rfl ?_) (by omega)) ?_
   ·exact zSe
   refine J8 (k:=8) (k':=6) hU [5,1,2,3,5,5,5,4] [0,1,2,3,7,0] rfl rfl rfl rfl ⟨rfl,rfl⟩ ?_
   exact zSe
  replace hs0_:=Zr c11 hs0_
  exact zEx hs0_
 rcases z12 with z12 | z12
 ·dsimp only [Qn] at hw h
  refine Ke hw ?_
  try simp only [Xe,Yi,↓reduceIte,Nat.reduceEqDiff]
  exact Zll [.agg [(vI 0),nV,nV],(vB false)]
 dsimp only [Qn] at hw h
 refine Yy hw ?_
 try simp only [Xe,Yi,↓reduceIte,Nat.reduceEqDiff]
 refine zDs [3,4,6] [false,true,true,true,true,false] ?_
 refine Jv Z5 (by kernel_rfl) [.plain,.plain,.plain,.plain,.plain,.low,.low,.low,.low,.pass,.plain] (fun i=>i≠n+2) [0,1,2,3,4,5,6,7,8,9,10] [.plain,.plain,.plain,.plain,.plain,.low,.low,.low,.low,.pass,.plain] [] (by kernel_rfl) rfl ?_
 refine zS ?_
 refine zO ?_
 refine zD [4,5] [false,false,true,false,true,false] ?_
 exact Yu [.agg [(vI a1.Kind),nV,.row (n+4) z12.2.length],(vB ((z12.1.length:Int) == 0))]
theorem Zn2 {Xn:(Zc→Zb→Option (Zb×Bool))} {Yq:(Zc→Zb→Option (Zb×Bool))} {X2:(Zc→Zb→Option (Zb×Bool))} {Z9:(Zl→Zh→Option (Bool×Zl))} {Z7:(Zl→Zc→Option (Bool×Zl))} (Uj:Zbg Xn) (Gj:Vs Yq) (Zdm:Zbh X2) (Ua:Km Z9) (Kp:Jo Z7) {a0:Zl} {a1:Zh} {r:(Bool×Zl)} {O:Objs} {n:Nat} {i0 j0_0:Nat} (hi0:i0 < n) (Zae:j0_0 < n) (K8:i0≠j0_0) (ho0:O i0=some ⟨false,131,2,1,[(sL Za a0.left),.row j0_0 a0.out.length]⟩) (Zaw:O j0_0=some (oR 25 3 Za a0.out)) (h:G4 Xn Yq X2 Z9 Z7 a0 a1=some r):GTo Try.prog 117 [.ref i0 0,.agg (Yg a1)] O n ((vB r.1)) (Zv ((O.upd j0_0 none).upd i0 (some ⟨false,131,2,1,[(sL Za r.2.left),.row n r.2.out.length]⟩)) n [some (oR 25 3 Za r.2.out)]) (n+1):=by
 unfold G4 at h
 refine Znp Z5 Try.call117 Try.func117 rfl (Nat.le_of_ble_eq_true rfl) (by omega) fun hU => ?_
 have e0:=Vu (ba:=n) (E:=⟨99,[],Zhx 0 [.ref i0 0,.agg [.val (.int .i64 a1.Kind),.val (.int .i64 a1.N),.sl a1.L.length (fl Za a1.L),.val (.int .i64 a1.E.Kind),.val (.int .i64 a1.E.Old.Kind),.sl a1.E.Old.Words.length (fl (eI .u64) a1.E.Old.Words),.sl a1.E.Old.Kids.length (fl Za a1.E.Old.Kids),.val (.int .i64 a1.E.New.Kind),.sl a1.E.New.Words.length (fl (eI .u64) a1.E.New.Words),.sl a1.E.New.Kids.length (fl Za a1.E.New.Kids),.sl a1.E.Words.length (fl Zg a1.E.Words),.sl a1.E.Kids.length (fl Zi a1.E.Kids),.val (.int .i64 a1.E.List_),.sl a1.E.Ops.length (fl Zf a1.E.Ops)]]⟩) (O:=(Zv O n [])) (n:=n) (i:=i0) (j:=j0_0) (k:=1) (len:=a0.out.length) (q:=⟨false,131,2,1,[.sl a0.left.length (fl Za a0.left),.row j0_0 a0.out.length]⟩) (qj:=⟨true,25,3,a0.out.length,fl Za a0.out⟩) (by rw [Y6 _ hi0];first | exact ho0 | exact Yk _ _ _) rfl (by rw [Y6 _ Zae];exact Zaw) K8 (by omega)
 simp only [Xh _ _ Zae,Xh _ _ hi0,Xp,Yz,Ju,Zcj K8,List.set_cons_zero,List.set_cons_succ,List.cons_append,List.nil_append,List.length_cons,List.length_nil,Nat.zero_add,Nat.reduceAdd,Nat.add_assoc] at e0
 refine J9 e0 ?_
 have hU:=(Und.drop hU j0_0)
 have hk0:∀ k,i0 < n+k:=fun k=>by omega
 have hN0:∀ o,Objs.upd (O.upd j0_0 none) i0 o n=none:=fun o=>Jp hU hi0 _ (Nat.le_refl _)
 have hN:∀ o k,Objs.upd (O.upd j0_0 none) i0 o (n+k)=none:=fun o k=>Jp hU hi0 _ (Nat.le_add_right _ _)
 show W _ _ _ _ ⟨99,[],[(0,.ref i0 0),(1,.agg (Yg a1))]⟩ (Zv ((O.upd j0_0 none).upd i0 (some ⟨false,131,2,1,[(sL Za a0.left),.row n a0.out.length]⟩)) n [some (oR 25 3 Za a0.out)]) _
 refine Zc5 [0,3] hi0 hk0 ?_
 refine Zk ?_
 refine Zc5 [0,3,7] hi0 hk0 ?_
 refine Ya ?_
 refine Zc5 [0,3,7,8] hi0 hk0 ?_
 refine Zt (t:=(a1.Kind == 0)) rfl (fun c28 => ?_) (fun c28 => ?_)
 ·replace h:=Zs c28 h
  refine Zk ?_
  obtain ⟨z1,hz1,h⟩:=bC h
  refine Xl (E':=⟨99,[],[(0,.ref i0 0),(3,.ref (n+1) 0),(22,(vB z1))]⟩) (O':=(Zv ((O.upd j0_0 none).upd i0 (some ⟨false,131,2,1,[(sL Za a0.left),.row n a0.out.length]⟩)) n [some (oR 25 3 Za a0.out),some ⟨false,53,14,1,(Yg a1)⟩])) (n0:=(n+2)) ?_ ?_
  ·rcases Bool.eq_false_or_eq_true (decide (a1.N < 0)) with c2 | c2
   ·replace hz1:=Zs c2 hz1
    refine Vb Z5 (by kernel_rfl) [some false,some false,some false,some false,some false,some false,some false,some false] (by kernel_rfl) ?_
    refine zX3 c2 hi0 hk0 ?_
    have hz1:=Option.some.inj hz1;subst hz1
    refine And.intro rfl (Fit2.of (Yh hU rfl rfl ?_) (by omega))
    exact Zz5 c2 hi0 hk0
   replace hz1:=Zr c2 hz1
   refine Vb Z5 (by kernel_rfl) [some true,some true,some true,some true,some true,some true,some true,some true] (by kernel_rfl) ?_
   refine zX3 c2 hi0 hk0 ?_
   have hz1:=Option.some.inj hz1;subst hz1
   refine And.intro rfl (Fit2.of (Yh hU rfl rfl ?_) (by omega))
   exact Zz5 c2 hi0 hk0
  refine Zt (t:=z1) rfl (fun c9 => ?_) (fun c9 => ?_)
  ·replace h:=Zs c9 h
   refine Zc5 [4] hi0 hk0 ?_
   refine zW ?_
   have h:=Option.some.inj h;subst h
   refine Ko (k:=1) (i:=i0) (q1:=⟨false,131,2,1,[(sL Za a0.left),.row n a0.out.length]⟩) (L3:=[some (oR 25 3 Za a0.out),none]) (E2:=(⟨99,[],[(4,(vB false))]⟩:Env)) (n3:=(n+2)) (.inr rfl) hU rfl [(vB false)] ?_ ?_
   ·refine Fit2.trans (E':=(⟨99,[],[(4,(vB false))]⟩:Env)) (O':=(Zv ((O.upd j0_0 none).upd i0 (some ⟨false,131,2,1,[(sL Za a0.left),.row n a0.out.length]⟩)) n [some (oR 25 3 Za a0.out),none])) (n':=(n+2)) (Fit2.of (Yh hU rfl rfl ?_) (by omega)) ?_
    ·exact Jn hi0 hk0
    refine Q4 (k:=2) (k':=2) hU [0,1] [0,0] rfl rfl rfl rfl ⟨rfl,rfl⟩ ?_
    exact Jn hi0 hk0
   simp only [push_cast,seval,↓reduceIte,Zo,Try.results117,hi0,hk0,hN0,hN]
  replace h:=Zr c9 h
  refine Kq [0,3] [true,true] ?_
  refine Zk ?_
  obtain ⟨l5,al5,bl5,cl5,gl5,h⟩:=bS (lo:=none) (hi:=(some (.i64,a1.N))) (f:=Za) rfl rfl Zih Zac (fun _=>rfl) h
  obtain ⟨l6,pl6,ql6,el6,h⟩:=bA (k:=l5.length) rfl h
  refine Jv Z5 (by kernel_rfl) [.plain,.plain,.plain,.plain,.plain,.plain,.plain,.plain,.plain,.plain,.plain,.plain,.pass,.plain,.plain,.bar] (fun i=>i≠n+0) [0,1,2,3,4,5,6,7,8,9,10,11,12,13,14,15] [.plain,.plain,.plain,.plain,.plain,.plain,.plain,.plain,.plain,.plain,.plain,.plain,.pass,.plain,.plain,.bar] [] (by kernel_rfl) rfl ?_
  simp only [push_cast,seval,↓reduceIte,Zo,al5,bl5,cl5,gl5,pl6,ql6,el6,hi0,hk0,hN0,hN]
  refine zO ?_
  refine Zbc ⟨99,[],[(0,.ref i0 0),(3,.ref (n+1) 0)]⟩ (Zv ((O.upd j0_0 none).upd i0 (some ⟨false,131,2,1,[(sL Za a0.left),.row n l6.length]⟩)) n [some (oR 25 3 Za l6),some ⟨false,53,14,1,(Yg a1)⟩]) (Yh hU rfl rfl ?_) ?_
  ·simp only [push_cast,seval,↓reduceIte,Zo,al5,bl5,cl5,gl5,pl6,ql6,el6,hi0,hk0,hN0,hN]
  refine Zk ?_
  obtain ⟨l8,al8,bl8,cl8,gl8,h⟩:=bS (lo:=(some (.i64,a1.N))) (hi:=none) (f:=Za) rfl rfl Zih Zac (fun _=>rfl) h
  refine Zkd Z5 (by kernel_rfl) [false,false,false,false,false,false,false,false,false,false,true] [] (by kernel_rfl) ?_
  refine zX6 al8 bl8 cl8 gl8 hi0 hk0 ?_
  refine zD [] [true,false] ?_
  refine Zc5 [4] hi0 hk0 ?_
  refine zW ?_
  have h:=Option.some.inj h;subst h
  refine Ko (k:=1) (i:=i0) (q1:=⟨false,131,2,1,[(sL Za l8),.row n l6.length]⟩) (L3:=[some (oR 25 3 Za l6),none]) (E2:=(⟨99,[],[(4,(vB true))]⟩:Env)) (n3:=(n+2)) (.inr rfl) hU rfl [(vB true)] ?_ ?_
  ·refine Fit2.trans (E':=(⟨99,[],[(4,(vB true))]⟩:Env)) (O':=(Zv ((O.upd j0_0 none).upd i0 (some ⟨false,131,2,1,[(sL Za l8),.row n l6.length]⟩)) n [some (oR 25 3 Za l6),none])) (n':=(n+2)) (Fit2.of (Yh hU rfl rfl ?_) (by omega)) ?_
   ·exact Jn hi0 hk0
   refine Q4 (k:=2) (k':=2) hU [0,1] [0,0] rfl rfl rfl rfl ⟨rfl,rfl⟩ ?_
   exact Jn hi0 hk0
  simp only [push_cast,seval,↓reduceIte,Zo,Try.results117,hi0,hk0,hN0,hN]
 replace h:=Zr c28 h
 refine Zc5 [0,3,7,48] hi0 hk0 ?_
 refine Zt (t:=(a1.Kind == 1)) rfl (fun c27 => ?_) (fun c27 => ?_)
 ·replace h:=Zs c27 h
  refine Zc5 [0,3,5] hi0 hk0 ?_
  refine Zk ?_
  obtain ⟨z12,hz12,h⟩:=bC h
  refine Xl (E':=⟨99,[],[(0,.ref i0 0),(5,(vI (a1.L.length:Int))),(71,(vB z12))]⟩) (O':=(Zv ((O.upd j0_0 none).upd i0 (some ⟨false,131,2,1,[(sL Za a0.left),.row n a0.out.length]⟩)) n [some (oR 25 3 Za a0.out),none])) (n0:=(n+2)) ?_ ?_
  ·rcases Bool.eq_false_or_eq_true (decide ((a0.left.length:Int) < (a1.L.length:Int))) with c17 | c17
   ·replace hz12:=Zs c17 hz12
    refine Vb Z5 (by kernel_rfl) [some false,some false,some false,some false,some false,some false,some false,some false,some false,some false] (by kernel_rfl) ?_
    refine zX3 c17 hi0 hk0 ?_
    have hz12:=Option.some.inj hz12;subst hz12
    refine And.intro rfl (Fit2.of (Yh hU rfl rfl ?_) (by omega))
    exact Zz5 c17 hi0 hk0
   replace hz12:=Zr c17 hz12
   obtain ⟨l15,al15,bl15,cl15,gl15,hz12⟩:=bS (lo:=none) (hi:=(some (.i64,(a1.L.length:Int)))) (f:=Za) rfl rfl Zih Zac (fun _=>rfl) hz12
   obtain ⟨y16,hy16,hz12⟩:=bC hz12
   refine Vb Z5 (by kernel_rfl) [some true,some true,some true,some true,some true,some true,some true,some true,some true,some true] (by kernel_rfl) ?_
   simp only [push_cast,seval,↓reduceIte,Zo,c17,al15,bl15,cl15,gl15,hi0,hk0,hN0,hN]
   refine PCall.of (Q5 hy16) ?_
   simp only [push_cast,seval,↓reduceIte,Zo,c17,al15,bl15,cl15,gl15,hi0,hk0,hN0,hN]
   have hz12:=Option.some.inj hz12;subst hz12
   refine And.intro rfl (Fit2.of (Yh hU rfl rfl ?_) (by omega))
   simp only [push_cast,seval,↓reduceIte,Zo,c17,al15,bl15,cl15,gl15,hi0,hk0,hN0,hN]
  refine Zt (t:=z12) rfl (fun c20 => ?_) (fun c20 => ?_)
  ·replace h:=Zs c20 h
   refine Zc5 [4] hi0 hk0 ?_
   refine zW ?_
   have h:=Option.some.inj h;subst h
   refine Ko (k:=1) (i:=i0) (q1:=⟨false,131,2,1,[(sL Za a0.left),.row n a0.out.length]⟩) (L3:=[some (oR 25 3 Za a0.out),none]) (E2:=(⟨99,[],[(4,(vB false))]⟩:Env)) (n3:=(n+2)) (.inr rfl) hU rfl [(vB false)] ?_ ?_
   ·refine Fit2.trans (E':=(⟨99,[],[(4,(vB false))]⟩:Env)) (O':=(Zv ((O.upd j0_0 none).upd i0 (some ⟨false,131,2,1,[(sL Za a0.left),.row n a0.out.length]⟩)) n [some (oR 25 3 Za a0.out),none])) (n':=(n+2)) (Fit2.of (Yh hU rfl rfl ?_) (by omega)) ?_
    ·exact Jn hi0 hk0
    refine Q4 (k:=2) (k':=2) hU [0,1] [0,0] rfl rfl rfl rfl ⟨rfl,rfl⟩ ?_
    exact Jn hi0 hk0
   simp only [push_cast,seval,↓reduceIte,Zo,Try.results117,hi0,hk0,hN0,hN]
  replace h:=Zr c20 h
  refine Kq [0,5] [true,false] ?_
  refine Zk ?_
  obtain ⟨l19,al19,bl19,cl19,gl19,h⟩:=bS (lo:=(some (.i64,(a1.L.length:Int)))) (hi:=none) (f:=Za) rfl rfl Zih Zac (fun _=>rfl) h
  refine Z62 [] al19 bl19 cl19 gl19 hi0 hk0 ?_
  refine zD [] [true,false] ?_
  refine Zc5 [4] hi0 hk0 ?_
  refine zW ?_
  have h:=Option.some.inj h;subst h
  refine Ko (k:=1) (i:=i0) (q1:=⟨false,131,2,1,[(sL Za l19),.row n a0.out.length]⟩) (L3:=[some (oR 25 3 Za a0.out),none]) (E2:=(⟨99,[],[(4,(vB true))]⟩:Env)) (n3:=(n+2)) (.inr rfl) hU rfl [(vB true)] ?_ ?_
  ·refine Fit2.trans (E':=(⟨99,[],[(4,(vB true))]⟩:Env)) (O':=(Zv ((O.upd j0_0 none).upd i0 (some ⟨false,131,2,1,[(sL Za l19),.row n a0.out.length]⟩)) n [some (oR 25 3 Za a0.out),none])) (n':=(n+2)) (Fit2.of (Yh hU rfl rfl ?_) (by omega)) ?_
   ·exact Jn hi0 hk0
   refine Q4 (k:=2) (k':=2) hU [0,1] [0,0] rfl rfl rfl rfl ⟨rfl,rfl⟩ ?_
   exact Jn hi0 hk0
  simp only [push_cast,seval,↓reduceIte,Zo,Try.results117,hi0,hk0,hN0,hN]
 replace h:=Zr c27 h
 refine Zc5 [0,3,7,81] hi0 hk0 ?_
 refine Zt (t:=(a1.Kind == 2)) rfl (fun c26 => ?_) (fun c26 => ?_)
 ·replace h:=Zs c26 h
  refine Zk ?_
  obtain ⟨l22,pl22,ql22,el22,h⟩:=bA (k:=a1.L.length) rfl h
  refine Jv Z5 (by kernel_rfl) [.plain,.plain,.plain,.plain,.plain,.plain,.plain,.pass,.plain,.plain,.bar] (fun i=>i≠n+0) [0,1,2,3,4,5,6,7,8,9,10] [.plain,.plain,.plain,.plain,.plain,.plain,.plain,.pass,.plain,.plain,.bar] [] (by kernel_rfl) rfl ?_
  refine zX5 pl22 ql22 el22 hi0 hk0 ?_
  refine zO ?_
  refine Zbc ⟨99,[],[]⟩ (Zv ((O.upd j0_0 none).upd i0 (some ⟨false,131,2,1,[(sL Za a0.left),.row n l22.length]⟩)) n [some (oR 25 3 Za l22),none]) (Yh hU rfl rfl ?_) ?_
  ·exact Ykv pl22 ql22 el22 hi0 hk0
  refine Zc5 [4] hi0 hk0 ?_
  refine zW ?_
  have h:=Option.some.inj h;subst h
  refine Ko (k:=1) (i:=i0) (q1:=⟨false,131,2,1,[(sL Za a0.left),.row n l22.length]⟩) (L3:=[some (oR 25 3 Za l22),none]) (E2:=(⟨99,[],[(4,(vB true))]⟩:Env)) (n3:=(n+2)) (.inr rfl) hU rfl [(vB true)] ?_ ?_
  ·refine Fit2.trans (E':=(⟨99,[],[(4,(vB true))]⟩:Env)) (O':=(Zv ((O.upd j0_0 none).upd i0 (some ⟨false,131,2,1,[(sL Za a0.left),.row n l22.length]⟩)) n [some (oR 25 3 Za l22),none])) (n':=(n+2)) (Fit2.of (Yh hU rfl rfl ?_) (by omega)) ?_
   ·exact Jn hi0 hk0
   refine Q4 (k:=2) (k':=2) hU [0,1] [0,0] rfl rfl rfl rfl ⟨rfl,rfl⟩ ?_
   exact Jn hi0 hk0
  simp only [push_cast,seval,↓reduceIte,Zo,Try.results117,hi0,hk0,hN0,hN]
 replace h:=Zr c26 h
 refine Zc5 [0,3,93] hi0 hk0 ?_
 refine Zt (t:=(a1.Kind == 3)) rfl (fun c25 => ?_) (fun c25 => ?_)
 ·replace h:=Zs c25 h
  refine Zk ?_
  obtain ⟨y24,hy24,h⟩:=bC h
  refine K1 [] hi0 hk0 ?_
  refine (Kp (i0:=i0) (j0_0:=n) (by omega) (by omega) (by omega) (by simp only [push_cast,seval,↓reduceIte,Zo,Xz,hi0,hk0,hN0,hN] <;> rfl) (by simp only [push_cast,seval,↓reduceIte,Zo,Xz,hi0,hk0,hN0,hN] <;> rfl) hy24).then ?_
  refine zX2 hi0 hk0 ?_
  refine zD [4] [false,false,true] ?_
  refine zW ?_
  have h:=Option.some.inj h;subst h
  refine Ko (k:=1) (i:=i0) (q1:=⟨false,131,2,1,[(sL Za y24.2.left),.row n y24.2.out.length]⟩) (L3:=[some (oR 25 3 Za y24.2.out),none]) (E2:=(⟨99,[],[(4,(vB y24.1))]⟩:Env)) (n3:=(n+2)) (.inr rfl) hU rfl [(vB y24.1)] ?_ ?_
  ·refine Fit2.trans (E':=(⟨99,[],[(4,(vB y24.1))]⟩:Env)) (O':=(Zv ((O.upd j0_0 none).upd i0 (some ⟨false,131,2,1,[(sL Za y24.2.left),.row (n+2) y24.2.out.length]⟩)) n [none,none,some (oR 25 3 Za y24.2.out)])) (n':=(n+3)) (Fit2.of (Yh hU rfl rfl ?_) (by omega)) ?_
   ·exact Jn hi0 hk0
   refine Q4 (k:=3) (k':=2) hU [1,1,0] [2,0] rfl rfl rfl rfl ⟨rfl,rfl⟩ ?_
   exact Jn hi0 hk0
  simp only [push_cast,seval,↓reduceIte,Zo,Try.results117,hi0,hk0,hN0,hN]
 replace h:=Zr c25 h
 refine Kq [] [true,false] ?_
 refine Zc5 [4] hi0 hk0 ?_
 refine zW ?_
 have h:=Option.some.inj h;subst h
 refine Ko (k:=1) (i:=i0) (q1:=⟨false,131,2,1,[(sL Za a0.left),.row n a0.out.length]⟩) (L3:=[some (oR 25 3 Za a0.out),none]) (E2:=(⟨99,[],[(4,(vB false))]⟩:Env)) (n3:=(n+2)) (.inr rfl) hU rfl [(vB false)] ?_ ?_
 ·refine Fit2.trans (E':=(⟨99,[],[(4,(vB false))]⟩:Env)) (O':=(Zv ((O.upd j0_0 none).upd i0 (some ⟨false,131,2,1,[(sL Za a0.left),.row n a0.out.length]⟩)) n [some (oR 25 3 Za a0.out),none])) (n':=(n+2)) (Fit2.of (Yh hU rfl rfl ?_) (by omega)) ?_
  ·exact Jn hi0 hk0
  refine Q4 (k:=2) (k':=2) hU [0,1] [0,0] rfl rfl rfl rfl ⟨rfl,rfl⟩ ?_
  exact Jn hi0 hk0
 simp only [push_cast,seval,↓reduceIte,Zo,Try.results117,hi0,hk0,hN0,hN]
theorem Zl4 {Xn:(Zc→Zb→Option (Zb×Bool))} {Yq:(Zc→Zb→Option (Zb×Bool))} {X2:(Zc→Zb→Option (Zb×Bool))} {Z9:(Zl→Zh→Option (Bool×Zl))} {Z7:(Zl→Zc→Option (Bool×Zl))} (Uj:Zbg Xn) (Gj:Vs Yq) (Zdm:Zbh X2) (Ua:Km Z9) (Kp:Jo Z7) {a0:Zl} {a1:Zc} {r:(Bool×Zl)} {O:Objs} {n:Nat} {i0 j0_0:Nat} (hi0:i0 < n) (Zae:j0_0 < n) (K8:i0≠j0_0) (ho0:O i0=some ⟨false,131,2,1,[(sL Za a0.left),.row j0_0 a0.out.length]⟩) (Zaw:O j0_0=some (oR 25 3 Za a0.out)) (h:V4 Xn Yq X2 Z9 Z7 a0 a1=some r):GTo Try.prog 128 [.ref i0 0,.agg (Ze a1)] O n ((vB r.1)) (Zv ((O.upd j0_0 none).upd i0 (some ⟨false,131,2,1,[(sL Za r.2.left),.row n r.2.out.length]⟩)) n [some (oR 25 3 Za r.2.out)]) (n+1):=by
 unfold V4 at h
 refine Znp Z5 Try.call128 Try.func128 rfl (Nat.le_of_ble_eq_true rfl) (by omega) fun hU => ?_
 have e0:=Vu (ba:=n) (E:=⟨44,[],Zhx 0 [.ref i0 0,.agg [.val (.int .i64 a1.Kind),.val (.int .i64 a1.Old.Kind),.sl a1.Old.Words.length (fl (eI .u64) a1.Old.Words),.sl a1.Old.Kids.length (fl Za a1.Old.Kids),.val (.int .i64 a1.New.Kind),.sl a1.New.Words.length (fl (eI .u64) a1.New.Words),.sl a1.New.Kids.length (fl Za a1.New.Kids),.sl a1.Words.length (fl Zg a1.Words),.sl a1.Kids.length (fl Zi a1.Kids),.val (.int .i64 a1.List_),.sl a1.Ops.length (fl Zf a1.Ops)]]⟩) (O:=(Zv O n [])) (n:=n) (i:=i0) (j:=j0_0) (k:=1) (len:=a0.out.length) (q:=⟨false,131,2,1,[.sl a0.left.length (fl Za a0.left),.row j0_0 a0.out.length]⟩) (qj:=⟨true,25,3,a0.out.length,fl Za a0.out⟩) (by rw [Y6 _ hi0];first | exact ho0 | exact Yk _ _ _) rfl (by rw [Y6 _ Zae];exact Zaw) K8 (by omega)
 simp only [Xh _ _ Zae,Xh _ _ hi0,Xp,Yz,Ju,Zcj K8,List.set_cons_zero,List.set_cons_succ,List.cons_append,List.nil_append,List.length_cons,List.length_nil,Nat.zero_add,Nat.reduceAdd,Nat.add_assoc] at e0
 refine J9 e0 ?_
 have hU:=(Und.drop hU j0_0)
 have hk0:∀ k,i0 < n+k:=fun k=>by omega
 have hN0:∀ o,Objs.upd (O.upd j0_0 none) i0 o n=none:=fun o=>Jp hU hi0 _ (Nat.le_refl _)
 have hN:∀ o k,Objs.upd (O.upd j0_0 none) i0 o (n+k)=none:=fun o k=>Jp hU hi0 _ (Nat.le_add_right _ _)
 show W _ _ _ _ ⟨44,[],[(0,.ref i0 0),(1,.agg (Ze a1))]⟩ (Zv ((O.upd j0_0 none).upd i0 (some ⟨false,131,2,1,[(sL Za a0.left),.row n a0.out.length]⟩)) n [some (oR 25 3 Za a0.out)]) _
 refine Zc5 [0,3] hi0 hk0 ?_
 refine Zk ?_
 refine Zc5 [0,3,12] hi0 hk0 ?_
 refine Zt (t:=((a0.left.length:Int) == 0)) rfl (fun c13 => ?_) (fun c13 => ?_)
 ·replace h:=Zs c13 h
  refine Zc5 [4] hi0 hk0 ?_
  refine zW ?_
  have h:=Option.some.inj h;subst h
  refine Ko (k:=1) (i:=i0) (q1:=⟨false,131,2,1,[(sL Za a0.left),.row n a0.out.length]⟩) (L3:=[some (oR 25 3 Za a0.out),none]) (E2:=(⟨44,[],[(4,(vB false))]⟩:Env)) (n3:=(n+2)) (.inr rfl) hU rfl [(vB false)] ?_ ?_
  ·refine Fit2.trans (E':=(⟨44,[],[(4,(vB false))]⟩:Env)) (O':=(Zv ((O.upd j0_0 none).upd i0 (some ⟨false,131,2,1,[(sL Za a0.left),.row n a0.out.length]⟩)) n [some (oR 25 3 Za a0.out),none])) (n':=(n+2)) (Fit2.of (Yh hU rfl rfl ?_) (by omega)) ?_
   ·exact Jn hi0 hk0
   refine Q4 (k:=2) (k':=2) hU [0,1] [0,0] rfl rfl rfl rfl ⟨rfl,rfl⟩ ?_
   exact Jn hi0 hk0
  simp only [push_cast,seval,↓reduceIte,Zo,Try.results128,hi0,hk0,hN0,hN]
 replace h:=Zr c13 h
 refine Kq [0,3] [true,true] ?_
 refine Zk ?_
 obtain ⟨x3,hx3,ax3,bx3,cx3,h⟩:=bE (f:=Za) Zac (fun _=>rfl) (by decide) h
 obtain ⟨y4,hy4,h⟩:=bC h
 refine Jv Z5 (by kernel_rfl) [.low,.plain,.low,.low,.low,.low,.low,.low,.plain,.plain,.plain,.pass,.bar,.plain] (fun i=>i < (n+2)) [0,1,2,3,4,5,6,7,8,9,10,11,12,13] [.low,.plain,.low,.low,.low,.low,.low,.low,.plain,.plain,.plain,.pass,.bar,.plain] [] (by kernel_rfl) rfl ?_
 refine zF5 ax3 bx3 cx3 hi0 hk0 ?_
 refine zO ?_
 first | refine PCallA.of (fun _ _=>Uj hy4) ?_ | refine PCall.of (Uj hy4) ?_
 refine zF5 ax3 bx3 cx3 hi0 hk0 ?_
 refine zO ?_
 refine zDs [0,5,6] [true,false,true] ?_
 obtain ⟨l8,pl8,ql8,el8,h⟩:=bA (k:=1) rfl h
 obtain ⟨x9,hx9,ax9,bx9,cx9,h⟩:=bE (f:=Za) Zac (fun _=>rfl) (by decide) h
 have gu10:V5 (fl Za a0.out++[.val (.int .i64 0),.val (.slice none 0 0),.val (.slice none 0 0)]) [.val (.int .i64 y4.1.Kind),.sl y4.1.Words.length (fl (eI .u64) y4.1.Words),.sl y4.1.Kids.length (fl Za y4.1.Kids)] (List.length a0.out * 3)=some (fl Za a0.out++[.val (.int .i64 y4.1.Kind),.sl y4.1.Words.length (fl (eI .u64) y4.1.Words),.sl y4.1.Kids.length (fl Za y4.1.Kids)]):=Zcm (f:=Za) (sz:=3) (fun _=>rfl) rfl rfl
 refine Jv Z5 (by kernel_rfl) [.plain,.low,.low,.low,.low,.low,.pass,.bar,.shp,.fill true,.shp,.shp,.fill false] (fun i=>i < (n+3)) [0,1,2,3,4,5,6,7,8,9,10,11,12] [.plain,.low,.low,.low,.low,.low,.pass,.bar,.shp,.fill true,.shp,.shp,.fill false] [] (by kernel_rfl) rfl ?_
 refine zF9 pl8 ql8 el8 ax9 bx9 cx9 gu10 hi0 hk0 ?_
 refine zO ?_
 refine Zbc ⟨44,[],[(0,.ref i0 0),(6,(vB y4.2))]⟩ (Zv ((O.upd j0_0 none).upd i0 (some ⟨false,131,2,1,[(sL Za a0.left),.row n (a0.out++[y4.1]).length]⟩)) n [some (oR 25 3 Za (a0.out++[y4.1])),none,none,none]) (Yh hU rfl rfl ?_) ?_
 ·exact Z42 pl8 ql8 el8 ax9 bx9 cx9 gu10 hi0 hk0
 refine Zk ?_
 obtain ⟨l12,al12,bl12,cl12,gl12,h⟩:=bS (lo:=(some (.i64,1))) (hi:=none) (f:=Za) rfl rfl Zih Zac (fun _=>rfl) h
 refine Z62 [] al12 bl12 cl12 gl12 hi0 hk0 ?_
 refine zD [6] [true,false,false,false] ?_
 refine Zc5 [4] hi0 hk0 ?_
 refine zW ?_
 have h:=Option.some.inj h;subst h
 refine Ko (k:=1) (i:=i0) (q1:=⟨false,131,2,1,[(sL Za l12),.row n (a0.out++[y4.1]).length]⟩) (L3:=[some (oR 25 3 Za (a0.out++[y4.1])),none]) (E2:=(⟨44,[],[(4,(vB y4.2))]⟩:Env)) (n3:=(n+2)) (.inr rfl) hU rfl [(vB y4.2)] ?_ ?_
 ·refine Fit2.trans (E':=(⟨44,[],[(4,(vB y4.2))]⟩:Env)) (O':=(Zv ((O.upd j0_0 none).upd i0 (some ⟨false,131,2,1,[(sL Za l12),.row n (a0.out++[y4.1]).length]⟩)) n [some (oR 25 3 Za (a0.out++[y4.1])),none,none,none])) (n':=(n+4)) (Fit2.of (Yh hU rfl rfl ?_) (by omega)) ?_
  ·exact Jn hi0 hk0
  refine Q4 (k:=4) (k':=2) hU [0,1,1,1] [0,0] rfl rfl rfl rfl ⟨rfl,rfl⟩ ?_
  exact Jn hi0 hk0
 simp only [push_cast,seval,↓reduceIte,Zo,Try.results128,hi0,hk0,hN0,hN]
theorem Zt2:∀ k,(Zbg ((Zu k).1))∧(Vs ((Zu k).2.1))∧(Zbh ((Zu k).2.2.1))∧(Km ((Zu k).2.2.2.1))∧(Jo ((Zu k).2.2.2.2)):=fun k=>by
 induction k with
 | zero=>exact ⟨@fun a0 a1 r O n h=>(nomatch (show (none:Option _)=some _ from h)),@fun a0 a1 r O n h=>(nomatch (show (none:Option _)=some _ from h)),@fun a0 a1 r O n h=>(nomatch (show (none:Option _)=some _ from h)),@fun a0 a1 r O n i0 j0_0 hi0 Zae K8 ho0 Zaw h=>(nomatch (show (none:Option _)=some _ from h)),@fun a0 a1 r O n i0 j0_0 hi0 Zae K8 ho0 Zaw h=>(nomatch (show (none:Option _)=some _ from h))⟩
 | succ k ih=>exact ⟨@fun a0 a1 r O n h=>Zx5 (ih.1) (ih.2.1) (ih.2.2.1) (ih.2.2.2.1) (ih.2.2.2.2)  h,@fun a0 a1 r O n h=>Zp5 (ih.1) (ih.2.1) (ih.2.2.1) (ih.2.2.2.1) (ih.2.2.2.2)  h,@fun a0 a1 r O n h=>Zx6 (ih.1) (ih.2.1) (ih.2.2.1) (ih.2.2.2.1) (ih.2.2.2.2)  h,@fun a0 a1 r O n i0 j0_0 hi0 Zae K8 ho0 Zaw h=>Zn2 (ih.1) (ih.2.1) (ih.2.2.1) (ih.2.2.2.1) (ih.2.2.2.2) hi0 Zae K8 ho0 Zaw h,@fun a0 a1 r O n i0 j0_0 hi0 Zae K8 ho0 Zaw h=>Zl4 (ih.1) (ih.2.1) (ih.2.2.1) (ih.2.2.2.1) (ih.2.2.2.2) hi0 Zae K8 ho0 Zaw h⟩
theorem Z0d {a0:Zc} {a1:Zb} {r:(Zb×Bool)} {O:Objs} {n:Nat} (h:Zm4 a0 a1=some r):GTo Try.prog 37 [.agg (Ze a0),.agg (Zn a1)] O n (.tup [.agg (Zn r.1),(vB r.2)]) O n:=by
 obtain ⟨k,hk⟩:=Zax h
 exact (Zt2 k).1  hk
end Go.Proofs.Ytbjcopkgdjombaa
