/- Part JM1 of this seat's mirrors: functions of the seat's program, and the plain functions that they are; each theorem bears its own conditions. -/
import Derived.Test.YtibgpnmmgffgeaaJD
namespace Go.Proofs.Ytibgpnmmgffgeaa
open Go.RowKit
set_option linter.unusedVariables false
set_option linter.unusedSimpArgs false
set_option maxRecDepth 100000
set_option maxHeartbeats 4000000
attribute [local push_cast] Try.results12 Try.results16 Try.results25 Try.results26 Try.results27 Try.results29 Try.results30 Try.results31 Try.results42 Try.results43 Try.results44 Try.results66 Try.results67 Try.results68 vI vB nV sL oR V4 Ze Gg Yy Zg Zal Zy0 Zyz Z0d Z0c Y1 Yc Zuv Zn7 Zn6 onW Qa Zf0 Zer Zuw Zux Zsf Zsj Zse Zsi Zwg Zwc Zsh Zwf Zwe Zwd Zsg Zwa Zoy evS wok Jz Op.operands Call.operands gop onK onP atK List.all_cons List.all_nil Bool.and_true Bool.true_and Bool.and_self Value.oneCell' List.take_zero List.take_succ_cons List.take_nil List.drop_zero List.drop_succ_cons List.drop_nil List.append_nil Nat.add_zero Nat.zero_add Zac Yr ev Jw Ze6 Zyr Zyq Zyw Zyu Zyv Zys Zyt Zyp Zus Zw5 Z2j Zl1 Zg7 Zk9 Zgb Zrm Zjn Zln Zls Zn1 Znx Zlq Zn0 Znz Zny Zlp Znv Zlo Zlr Zkk Znw Znb Zn8 Zes Zmy Zet Zn5 Zly Zy5 bLo bHi bMx Zg8 Zn4 Z4h Zlx Znm Zjb Zci Zxq Z4k Zmw Zj3 Z4p Zg6 Z8i Zu4 Zu8 Zu3 Zu7 Zzr Zzn Zzl Zrp Zu5 Zzq Zzp Zzo Zu6 Zzf Zzj Zze Zzi Z4w Z4t Z4s Zzh Z4u Z4v Zzm Zlf gone Zvt Zos Zor pop TK.isAgg Zz5 Zz9 Zz4 Zz8 Zvn Z48 Z44 Zz7 Z47 Z46 Z45 Zz6 Z43 G.under G.unders List.getD_cons_zero List.getD_cons_succ List.set_cons_zero List.set_cons_succ List.map_cons List.map_nil List.toList_toArray Array.toList_append Option.toArray_none Option.toArray_some Array.toList_map Option.map_some Option.map_none Option.bind_some Option.bind_none List.getElem?_cons_zero List.getElem?_cons_succ List.getElem?_nil List.nil_append List.cons_append List.replicate_succ List.replicate_zero List.length_cons List.length_nil and_true true_and and_false false_and Bool.true_eq_false Bool.false_eq_true forall_const false_implies implies_true IntKind.bits if_true if_false ite_true ite_false eq_self true_implies false_or or_false or_true true_or not_true_eq_false not_false_eq_true decide_true decide_false decide_eq_true_eq decide_eq_false_iff_not beq_iff_eq bne_iff_ne ne_eq Bool.not_eq_true Bool.not_eq_false beq_eq_false_iff_ne bne_eq_false_iff_eq beq_self_eq_true bne_self_eq_false Option.some.injEq exists_eq_left' exists_eq_left ge_iff_le gt_iff_lt decide_not Bool.not_true Bool.not_false imp_self Z4m cond_true cond_false Yfu Yft Bool.not_not Bool.and_false Bool.false_and Bool.or_true Bool.true_or Bool.or_false Bool.false_or Ge Zdn Gm V8 Y4 Ym Option.join_some Nat.add_assoc Int.toNat_natCast eI eB eS eL Yl Zmx Zlz Zy4 Zy2 Zy3 Z8t Yay Zm2 Zmh Z0m Z0k Z0l Z24 Zlw Z2f Zga Zw3 Zj2 Zyk List.length_append G.agg.injEq G.row.injEq G.ref.injEq G.val.injEq G.sl.injEq G.tup.injEq Value.int.injEq Value.bool.injEq Value.string.injEq List.cons.injEq exists_and_left exists_const List.flatten_cons List.flatten_nil Int.le_refl Nat.le_refl Qh Yf Yn Bool.not_eq_true' Bool.not_eq_false' Z11 Zqa Z52 Z56 Z51 Z55 Ycz Ycu List.size_toArray Zsa Zmj G.ren G.rens Zvx Zjv Z0q Zym Zyn Zwb Z57 Zfo G.fn.injEq Zw0 Zw1 Z10 Ycv Zwz Z54 Ycy Ycx Ycw Z53 Z4z Yah Option.join_none Z8 Gs undef Zno Arr.len Arr.put_eq Zm1 Zr3 Zoo Zmg Z0j Z0h Z0i onB Z8s Zxp Zv5 Zrg Ztv Ztw Ztx Zty Ztz Zt0 Zrt Zr6 Zr4 Zoq Zmi Zr5 Zvs Zvr Zvq Zvp Yax Yd3 Z23 Z0e Vy Z2v Zrq Zr7 Zop Z49 Zv7 Zlu Znl Zh4 Zp1 Zt1 Zt2 Zt3 Zt4 Zqc Zqd Zqe Zqf Zqg Zqh Zqi Zqj Zqk Zql Zqm Zqn Zqo Zh8 prT Zff Zqp Zqq Zqr Zqs Zqt Zqu Zqv Zqw Zqx Zqy Zqz Zq0 Zq1 Zq2 Zq3 Zq4 Zq5 Zq6 Ygp Z5t Z3r Z5u Ygq Z5v Z3s Z5w Ygr Z5x Ygs Z5y Ygt Z5z Ygu Z50 Ybu Z00 Ybv Z01 Ybw Z02 Ybx Z03 Yby Z04 Ybz Z05 Yb0 Z06 Yb1 Z07 Yb2 Z08 Yb3 Z09 Yb4 Z1a Yb5 Zp9 Z3p Zeq Yb6 Z1b Ug Z1c Yb7 Z1d Yb8 Z1e Z3q Ztt Yb9 Z1f Ziy Z1g Yca Z1h Ycb Z1i Znt Z1j Ycc Z1k Zbm Z1l Ziz Z1m Ycd Z1n Zx9 Z1o Yce Z1p Ycf Z1q Ycg Z1r Ych Z1s Yci Z1t Ycj Z1u Z3t Ztu Yck Z1v Ycl Z1w Ycm Z1x Z5g Zwh Z5h Zwi Z0y Zwj Z5i Zwk Z5j Zwl Z5k Zwm Z5l Zwn Z5m Zwo Z5n Zwp Z5o Zwq Z5p Zwr Z5q Zws Z5r Zwt Z5s Zwu Za Yq Zo4 Zo3 Zoe Zol Zo5 Zmo Zml Zmk Zo1 Zgy Zgw Zge Zgm Zg0 Zfy Zfu Zfs Zgu Zf Zn Zh Zd Xh Y0 Xu Zdg Zdd Zcl Zcv Zdl Zb8 Zb4 Zb1 Zc8 Zec Zea Zd1 Zd5 Zee Zdb Zc2 Zc0 Zd7 Zi3 Zi2 Zie Zim Zi4 Zhx Zhu Zht Zi0 Zsp Zso Zro Zrz Zsq Zo2 Zov Zou Zsl Ye Zcb Zca Zbv Zby Zcc Zbb Zba Za9 Zb6 Zgx Zgv Zgd Zgl Zgz Zfx Zft Zfr Zgt Yi Zdf Zdc Zck Zcu Zdk Zb7 Zb3 Zb0 Zc7 Zx Zeb Zd9 Zd0 Zd4 Zed Zda Zc1 Zcz Zd6 Yj Zdh Zde Zcm Zcw Zdm Zb9 Zb5 Zb2 Zc9
def Ze2 (Qg:(Zb→Int→Int→Option Int)):Prop:=∀ {a0:Zb} {a1:Int} {a2:Int} {r:Int} {O:Objs} {n:Nat},Qg a0 a1 a2=some r→GTo Try.prog 30 [.agg (Zg a0),(vI a1),(vI a2)] O n ((vI r)) O n
theorem Zkx {Qg:(Zb→Int→Int→Option Int)} (Zkb:Ze2 Qg) {a0:Zb} {a1:Int} {a2:Int} {r:Int} {O:Objs} {n:Nat} (h:Qd Qg a0 a1 a2=some r):GTo Try.prog 30 [.agg (Zg a0),(vI a1),(vI a2)] O n ((vI r)) O n:=by
 unfold Qd at h
 refine zFn Try.call30 Try.func30 fun hU hN0 hN => ?_
 show W _ _ _ _ ⟨41,[],[(0,.agg (Zg a0)),(1,(vI a1)),(2,(vI a2))]⟩ (Zq O n []) _
 refine zQ [1,2,3] ?_
 refine zQ [1,2,3] ?_
 refine Zk ?_
 refine zQD [1,2,3,19] [none,none] ?_
 refine Zp (t:=(cond (a1 == 0) true (decide ((IntKind.i64.wrap ((IntKind.i64.wrap (a2 - 1)) - (a0.Words.length:Int))) < 0)))) rfl (fun c5 => ?_) (fun c5 => ?_)
 ·replace h:=Zt c5 h
  refine zQ [6] ?_
  exact Y9 [(vI (-1))]
 replace h:=Zs c5 h
 refine Ky [1,2,3] [true] ?_
 refine Zk ?_
 refine zQd [1,2,3,7] [1,2,3,7] [true] ?_
 obtain ⟨z4,hz4,h⟩:=bC h
 refine Yo (E':=⟨41,[],[(2,(vI z4))]⟩) (O':=(Zq O n [none])) (n0:=(n+1)) ?_ ?_
 ·refine Y2 hz4 (fun s0_=>⟨41,[],[(1,(vI a1)),(2,(vI s0_.1)),(3,.ref n 0),(7,(vI s0_.2))]⟩) (fun s0_=>(Zq O n [some ⟨false,25,3,1,(Zg a0)⟩])) (fun z4=>JX 0 n (⟨41,[],[(2,(vI z4))]⟩:Env) (Zq O n [none]) (n+1)) ?_
  intro s0_ x0_ hs0_
  unfold X7 at hs0_
  try dsimp only
  refine Zk ?_
  refine zQD [1,2,3,7,28] [none,none] ?_
  refine Zp (t:=(cond (decide (s0_.2 < (a0.Kids.length:Int))) (decide (0≤s0_.1)) false)) rfl (fun c3 => ?_) (fun c3 => ?_)
  ·replace hs0_:=Zt c3 hs0_
   refine Ky [1,2,3,7] [true] ?_
   refine Zk ?_
   refine Yd ?_
   obtain ⟨x1,hx1,ax1,bx1,cx1,hs0_⟩:=bE (f:=Za) Ug (fun _=>rfl) (by decide) hs0_
   obtain ⟨y2,hy2,hs0_⟩:=bC hs0_
   refine Zcg [] ax1 bx1 cx1 ?_
   refine (Zkb hy2).then ?_
   refine zF3 ax1 bx1 cx1 ?_
   refine zD [1,2,3,7] [true] ?_
   refine zR ?_
   exact zEn hs0_
  replace hs0_:=Zs c3 hs0_
  exact zEx hs0_
 try simp only [Y1,Yc,↓reduceIte,Nat.reduceEqDiff]
 refine zD [2] [false] ?_
 refine zQ [6] ?_
 exact Y9 [(vI z4)]
theorem Zjo:∀ k,(Ze2 (Yx k)):=fun k=>by
 induction k with
 | zero=>exact @fun a0 a1 a2 r O n h=>(nomatch (show (none:Option _)=some _ from h))
 | succ k ih=>exact @fun a0 a1 a2 r O n h=>Zkx (ih)  h
theorem Gb {a0:Zb} {a1:Int} {a2:Int} {r:Int} {O:Objs} {n:Nat} (h:Qf a0 a1 a2=some r):GTo Try.prog 30 [.agg (Zg a0),(vI a1),(vI a2)] O n ((vI r)) O n:=by
 obtain ⟨k,hk⟩:=Gt h
 exact (Zjo k)  hk
def Zhi (Xw:(Zc→Int→Int→Option Int)):Prop:=∀ {a0:Zc} {a1:Int} {a2:Int} {r:Int} {O:Objs} {n:Nat},Xw a0 a1 a2=some r→GTo Try.prog 25 [.agg (Ze a0),(vI a1),(vI a2)] O n ((vI r)) O n
theorem Znk {Xw:(Zc→Int→Int→Option Int)} (Zhk:Zhi Xw) {a0:Zc} {a1:Int} {a2:Int} {r:Int} {O:Objs} {n:Nat} (h:Jg Xw a0 a1 a2=some r):GTo Try.prog 25 [.agg (Ze a0),(vI a1),(vI a2)] O n ((vI r)) O n:=by
 unfold Jg at h
 refine zFn Try.call25 Try.func25 fun hU hN0 hN => ?_
 show W _ _ _ _ ⟨107,[],[(0,.agg (Ze a0)),(1,(vI a1)),(2,(vI a2))]⟩ (Zq O n []) _
 refine zQ [1,2,3] ?_
 refine zQ [1,2,3] ?_
 refine Zk ?_
 refine zQD [1,2,3,25] [none,none] ?_
 refine Zp (t:=(cond (a1 == 0) true (decide ((IntKind.i64.wrap ((IntKind.i64.wrap ((IntKind.i64.wrap (a2 - 1)) - (a0.Words.length:Int))) - (a0.Ops.length:Int))) < 0)))) rfl (fun c28 => ?_) (fun c28 => ?_)
 ·replace h:=Zt c28 h
  refine zQ [6] ?_
  exact Y9 [(vI (-1))]
 replace h:=Zs c28 h
 refine Ky [1,2,3] [true] ?_
 refine Zk ?_
 obtain ⟨y2,hy2,h⟩:=bC h
 refine zCd (Gb hy2) [1,2,3] [true] ?_
 obtain ⟨z3,hz3,h⟩:=bC h
 refine Xe (E':=⟨107,[],[(1,(vI a1)),(2,(vI z3)),(3,.ref n 0)]⟩) (O':=(Zq O n [some ⟨false,30,11,1,(Ze a0)⟩])) (n0:=(n+1)) ?_ ?_
 ·refine zQ [1,2,3,31] ?_
  refine Zp (t:=(decide (0≤y2))) rfl (fun c5 => ?_) (fun c5 => ?_)
  ·replace hz3:=Zt c5 hz3
   obtain ⟨y4,hy4,hz3⟩:=bC hz3
   refine zC (Gb hy4) ?_
   exact zEn hz3
  replace hz3:=Zs c5 hz3
  refine zK ?_
  exact zEn hz3
 refine Zk ?_
 refine zQd [1,2,3,7] [1,2,3,7] [true] ?_
 obtain ⟨z10,hz10,h⟩:=bC h
 refine Yo (E':=⟨107,[],[(1,(vI a1)),(2,(vI z10)),(3,.ref n 0)]⟩) (O':=(Zq O n [some ⟨false,30,11,1,(Ze a0)⟩])) (n0:=(n+1)) ?_ ?_
 ·refine Y2 hz10 (fun s0_=>⟨107,[],[(1,(vI a1)),(2,(vI s0_.1)),(3,.ref n 0),(7,(vI s0_.2))]⟩) (fun s0_=>(Zq O n [some ⟨false,30,11,1,(Ze a0)⟩])) (fun z10=>JX 0 n (⟨107,[],[(1,(vI a1)),(2,(vI z10)),(3,.ref n 0)]⟩:Env) (Zq O n [some ⟨false,30,11,1,(Ze a0)⟩]) (n+1)) ?_
  intro s0_ x0_ hs0_
  unfold Qw at hs0_
  try dsimp only
  refine Zk ?_
  refine zQD [1,2,3,7,44] [none,none] ?_
  refine Zp (t:=(cond (decide (s0_.2 < (a0.Kids.length:Int))) (decide (0≤s0_.1)) false)) rfl (fun c9 => ?_) (fun c9 => ?_)
  ·replace hs0_:=Zt c9 hs0_
   refine Ky [1,2,3,7] [true] ?_
   refine Zk ?_
   refine Yd ?_
   obtain ⟨x6,hx6,ax6,bx6,cx6,hs0_⟩:=bE (f:=Zh) Znt (fun _=>rfl) (by decide) hs0_
   have g7:=Gh (f:=Zh) (off:=1) (sz:=12) Ziy (fun _=>rfl) (by decide) (by decide) hx6
   obtain ⟨y8,hy8,hs0_⟩:=bC hs0_
   refine Zqb [] ax6 bx6 cx6 g7 ?_
   refine (Zhk hy8).then ?_
   refine zF4 ax6 bx6 cx6 g7 ?_
   refine zD [1,2,3,7] [true] ?_
   refine zR ?_
   exact zEn hs0_
  replace hs0_:=Zs c9 hs0_
  exact zEx hs0_
 try simp only [Y1,Yc,↓reduceIte,Nat.reduceEqDiff]
 refine zDs [1,2,3] [true] ?_
 refine zQd [1,2,3,8] [1,2,3,8] [true] ?_
 obtain ⟨z27,hz27,h⟩:=bC h
 refine Yo (E':=⟨107,[],[(2,(vI z27))]⟩) (O':=(Zq O n [none])) (n0:=(n+1)) ?_ ?_
 ·refine Y2 hz27 (fun s1_=>⟨107,[],[(1,(vI a1)),(2,(vI s1_.1)),(3,.ref n 0),(8,(vI s1_.2))]⟩) (fun s1_=>(Zq O n [some ⟨false,30,11,1,(Ze a0)⟩])) (fun z27=>JX 2 n (⟨107,[],[(2,(vI z27))]⟩:Env) (Zq O n [none]) (n+1)) ?_
  intro s1_ x1_ hs1_
  unfold Qx at hs1_
  try dsimp only
  refine Zk ?_
  refine zQD [1,2,3,8,65] [none,none] ?_
  refine Zp (t:=(cond (decide (s1_.2 < (a0.Ops.length:Int))) (decide (0≤s1_.1)) false)) rfl (fun c26 => ?_) (fun c26 => ?_)
  ·replace hs1_:=Zt c26 hs1_
   refine Ky [1,2,3,8] [true] ?_
   obtain ⟨z11,hz11,hs1_⟩:=bC hs1_
   refine Xe (E':=⟨107,[],[(1,(vI a1)),(2,(vI z11)),(3,.ref n 0),(8,(vI s1_.2))]⟩) (O':=(Zq O n [some ⟨false,30,11,1,(Ze a0)⟩])) (n0:=(n+1)) ?_ ?_
   ·refine Yd ?_
    refine Zk ?_
    refine zQd [1,2,3,8,9] [1,2,3,8,9] [true] ?_
    obtain ⟨z21,hz21,hz11⟩:=bC hz11
    refine Yo (E':=⟨107,[],[(1,(vI a1)),(2,(vI z21)),(3,.ref n 0),(8,(vI s1_.2))]⟩) (O':=(Zq O n [some ⟨false,30,11,1,(Ze a0)⟩])) (n0:=(n+1)) ?_ ?_
    ·refine Y2 hz21 (fun s2_=>⟨107,[],[(1,(vI a1)),(2,(vI s2_.1)),(3,.ref n 0),(8,(vI s1_.2)),(9,(vI s2_.2))]⟩) (fun s2_=>(Zq O n [some ⟨false,30,11,1,(Ze a0)⟩])) (fun z21=>JX 4 n (⟨107,[],[(1,(vI a1)),(2,(vI z21)),(3,.ref n 0),(8,(vI s1_.2))]⟩:Env) (Zq O n [some ⟨false,30,11,1,(Ze a0)⟩]) (n+1)) ?_
     intro s2_ x2_ hs2_
     unfold Vi at hs2_
     try dsimp only
     refine Zk ?_
     obtain ⟨x14,hx14,ax14,bx14,cx14,hs2_⟩:=bE (f:=Zd) Zbm (fun _=>rfl) (by decide) hs2_
     have g15:=Gh (f:=Zd) (off:=2) (sz:=14) Z3p (fun _=>rfl) (by decide) (by decide) hx14
     refine Zlm [1,2,3,8,9,80] (Yp Z0 [none,none] ?_)
     refine zF4 ax14 bx14 cx14 g15 ?_
     refine zG ?_
     refine Zp (t:=(cond (decide (s2_.2 < (x14.L.length:Int))) (decide (0≤s2_.1)) false)) rfl (fun c20 => ?_) (fun c20 => ?_)
     ·replace hs2_:=Zt c20 hs2_
      refine Ky [1,2,3,8,9] [true] ?_
      refine Zk ?_
      refine Yd ?_
      obtain ⟨x16,hx16,ax16,bx16,cx16,hs2_⟩:=bE (f:=Zd) Zbm (fun _=>rfl) (by decide) hs2_
      have g17:=Gh (f:=Zd) (off:=2) (sz:=14) Z3p (fun _=>rfl) (by decide) (by decide) hx16
      obtain ⟨x18,hx18,ax18,bx18,cx18,hs2_⟩:=bE (f:=Za) Ug (fun _=>rfl) (by decide) hs2_
      obtain ⟨y19,hy19,hs2_⟩:=bC hs2_
      refine Yc2 [] ax16 bx16 cx16 g17 ax18 bx18 cx18 ?_
      refine (Gb hy19).then ?_
      refine zF7 ax16 bx16 cx16 g17 ax18 bx18 cx18 ?_
      refine zD [1,2,3,8,9] [true] ?_
      refine zR ?_
      exact zEn hs2_
     replace hs2_:=Zs c20 hs2_
     exact zEx hs2_
    try simp only [Y1,Yc,↓reduceIte,Nat.reduceEqDiff]
    refine zD [1,2,3,8] [true] ?_
    refine zQ [1,2,3,8,95] ?_
    refine Zp (t:=(decide (0≤z21))) rfl (fun c25 => ?_) (fun c25 => ?_)
    ·replace hz11:=Zt c25 hz11
     obtain ⟨x22,hx22,ax22,bx22,cx22,hz11⟩:=bE (f:=Zd) Zbm (fun _=>rfl) (by decide) hz11
     have g23:=Gh (f:=Zd) (off:=3) (sz:=14) Ziy (fun _=>rfl) (by decide) (by decide) hx22
     obtain ⟨y24,hy24,hz11⟩:=bC hz11
     refine Zqb [] ax22 bx22 cx22 g23 ?_
     refine (Zhk hy24).then ?_
     refine zF4 ax22 bx22 cx22 g23 ?_
     exact Z73 hz11 ax22 bx22 cx22 g23
    replace hz11:=Zs c25 hz11
    refine zK ?_
    exact zEn hz11
   refine zR ?_
   exact zEn hs1_
  replace hs1_:=Zs c26 hs1_
  exact zEx hs1_
 try simp only [Y1,Yc,↓reduceIte,Nat.reduceEqDiff]
 refine zD [2] [false] ?_
 refine zQ [6] ?_
 exact Y9 [(vI z27)]
theorem Zli:∀ k,(Zhi (Ys k)):=fun k=>by
 induction k with
 | zero=>exact @fun a0 a1 a2 r O n h=>(nomatch (show (none:Option _)=some _ from h))
 | succ k ih=>exact @fun a0 a1 a2 r O n h=>Znk (ih)  h
theorem Zoj {a0:Zc} {a1:Int} {a2:Int} {r:Int} {O:Objs} {n:Nat} (h:Zfj a0 a1 a2=some r):GTo Try.prog 25 [.agg (Ze a0),(vI a1),(vI a2)] O n ((vI r)) O n:=by
 obtain ⟨k,hk⟩:=Gt h
 exact (Zli k)  hk
theorem Zfl {a0:Zc} {r:Bool} {O:Objs} {n:Nat} (h:Zas a0=some r):GTo Try.prog 12 [.agg (Ze a0)] O n ((vB r)) O n:=by
 unfold Zas at h
 refine zFn Try.call12 Try.func12 fun hU hN0 hN => ?_
 show W _ _ _ _ ⟨6,[],[(0,.agg (Ze a0))]⟩ (Zq O n []) _
 refine zQ [1] ?_
 refine Zk ?_
 obtain ⟨y2,hy2,h⟩:=bC h
 refine zCd (Zoj hy2) [2] [false] ?_
 exact Y9 [(vB (decide (0≤y2)))]
theorem Vd {a0:Zb} {r:Bool} {O:Objs} {n:Nat} (h:Jh a0=some r):GTo Try.prog 26 [.agg (Zg a0)] O n ((vB r)) O n:=by
 unfold Jh at h
 refine zFn Try.call26 Try.func26 fun hU hN0 hN => ?_
 show W _ _ _ _ ⟨16,[],[(0,.agg (Zg a0))]⟩ (Zq O n []) _
 refine zQ [1] ?_
 refine zQD [2] [none,none,none,none,none,none,none,none] ?_
 exact Y9 [(vB (cond (a0.Kind == 0) ((IntKind.i64.wrap ((a0.Words.length:Int)+(a0.Kids.length:Int))) == 0) false))]
theorem Znf {a0:Int} {r:Int} {O:Objs} {n:Nat} (h:Zeu a0=some r):GTo Try.prog 44 [(vI a0)] O n ((vI r)) O n:=by
 unfold Zeu at h
 refine zFn Try.call44 Try.func44 fun hU hN0 hN => ?_
 show W _ _ _ _ ⟨16,[],[(0,(vI a0))]⟩ (Zq O n []) _
 refine zQ [0] ?_
 refine Zk ?_
 refine zQ [3] ?_
 refine Yd ?_
 refine zQ [3,4] ?_
 refine Zp (t:=(a0 == 0)) rfl (fun c6 => ?_) (fun c6 => ?_)
 ·replace h:=Zt c6 h
  refine zQ [2] ?_
  exact Y9 [(vI 0)]
 replace h:=Zs c6 h
 refine zQ [3,6] ?_
 refine Zp (t:=(a0 == 1)) rfl (fun c5 => ?_) (fun c5 => ?_)
 ·replace h:=Zt c5 h
  refine zQ [2] ?_
  exact Y9 [(vI 1)]
 replace h:=Zs c5 h
 refine zQ [3,8] ?_
 refine Zp (t:=(a0 == 2)) rfl (fun c4 => ?_) (fun c4 => ?_)
 ·replace h:=Zt c4 h
  refine zQ [2] ?_
  exact Y9 [(vI 8)]
 replace h:=Zs c4 h
 refine zQ [3,10] ?_
 refine Zp (t:=(a0 == 3)) rfl (fun c3 => ?_) (fun c3 => ?_)
 ·replace h:=Zt c3 h
  refine zQ [2] ?_
  exact Y9 [(vI 16)]
 replace h:=Zs c3 h
 refine zQ [3,12] ?_
 refine Zp (t:=(a0 == 4)) rfl (fun c2 => ?_) (fun c2 => ?_)
 ·replace h:=Zt c2 h
  refine zQ [2] ?_
  exact Y9 [(vI 32)]
 replace h:=Zs c2 h
 refine zQ [14] ?_
 refine Zp (t:=(a0 == 5)) rfl (fun c1 => ?_) (fun c1 => ?_)
 ·replace h:=Zt c1 h
  refine zQ [2] ?_
  exact Y9 [(vI 64)]
 replace h:=Zs c1 h
 refine Ky [] [] ?_
 refine zQ [2] ?_
 exact Y9 [(vI (-1))]
theorem Zii {a0:Int} {a1:Int} {r:Bool} {O:Objs} {n:Nat} (h:Vw a0 a1=some r):GTo Try.prog 31 [(vI a0),.val (.int .u64 a1)] O n ((vB r)) O n:=by
 unfold Vw at h
 refine zFn Try.call31 Try.func31 fun hU hN0 hN => ?_
 show W _ _ _ _ ⟨20,[],[(0,(vI a0)),(1,.val (.int .u64 a1))]⟩ (Zq O n []) _
 refine zQ [0,1] ?_
 refine Zk ?_
 obtain ⟨y2,hy2,h⟩:=bC h
 refine zCd (Znf hy2) [1,5] [] ?_
 refine Zk ?_
 refine zQ [1,5,10] ?_
 refine Zp (t:=(decide (y2 < 0))) rfl (fun c5 => ?_) (fun c5 => ?_)
 ·replace h:=Zt c5 h
  refine zQ [4] ?_
  exact Y9 [(vB false)]
 replace h:=Zs c5 h
 refine Ky [1,5] [] ?_
 refine Zk ?_
 refine zQd [1,5,6] [1,5,6] [] ?_
 obtain ⟨z4,hz4,h⟩:=bC h
 refine Yo (E':=⟨20,[],[(1,.val (.int .u64 z4))]⟩) (O':=(Zq O n [])) (n0:=n) ?_ ?_
 ·refine Y2 hz4 (fun s0_=>⟨20,[],[(1,.val (.int .u64 s0_.1)),(5,(vI y2)),(6,(vI s0_.2))]⟩) (fun s0_=>(Zq O n [])) (fun z4=>JX 0 n (⟨20,[],[(1,.val (.int .u64 z4))]⟩:Env) (Zq O n []) n) ?_
  intro s0_ x0_ hs0_
  unfold Qe at hs0_
  try dsimp only
  refine Zk ?_
  refine zQ [1,5,6,13] ?_
  refine Zp (t:=(decide (s0_.2 < y2))) rfl (fun c3 => ?_) (fun c3 => ?_)
  ·replace hs0_:=Zt c3 hs0_
   refine Ky [1,5,6] [] ?_
   refine Zk ?_
   refine Yd ?_
   refine zRd [1,5,6] [] ?_
   refine zR ?_
   exact zEn hs0_
  replace hs0_:=Zs c3 hs0_
  exact zEx hs0_
 try simp only [Y1,Yc,↓reduceIte,Nat.reduceEqDiff]
 refine zD [1] [] ?_
 refine zQ [4] ?_
 exact Y9 [(vB (z4 == 0))]
def Zf1 (Q1:(Zb→Int→Option Bool)):Prop:=∀ {a0:Zb} {a1:Int} {r:Bool} {O:Objs} {n:Nat},Q1 a0 a1=some r→GTo Try.prog 16 [.agg (Zg a0),(vI a1)] O n ((vB r)) O n
theorem Zmc {Q1:(Zb→Int→Option Bool)} (Zlk:Zf1 Q1) {a0:Zb} {a1:Int} {r:Bool} {O:Objs} {n:Nat} (h:Ut Q1 a0 a1=some r):GTo Try.prog 16 [.agg (Zg a0),(vI a1)] O n ((vB r)) O n:=by
 unfold Ut at h
 refine zFn Try.call16 Try.func16 fun hU hN0 hN => ?_
 show W _ _ _ _ ⟨132,[],[(0,.agg (Zg a0)),(1,(vI a1))]⟩ (Zq O n []) _
 refine zQ [1,2] ?_
 refine Zk ?_
 refine zQ [1,2,10] ?_
 refine Zp (t:=(a0.Kind == 0)) rfl (fun c32 => ?_) (fun c32 => ?_)
 ·replace h:=Zt c32 h
  refine zQD [4] [none,none,none,none] ?_
  exact Y9 [(vB (cond ((a0.Words.length:Int) == 0) ((a0.Kids.length:Int) == 0) false))]
 replace h:=Zs c32 h
 refine Ky [1,2] [true] ?_
 refine Zk ?_
 refine zQ [1,2,23] ?_
 refine Zp (t:=(a0.Kind == 10)) rfl (fun c31 => ?_) (fun c31 => ?_)
 ·replace h:=Zt c31 h
  refine zQD [4] [none,none,none,none] ?_
  exact Y9 [(vB (cond ((a0.Words.length:Int) == 1) ((a0.Kids.length:Int) == 0) false))]
 replace h:=Zs c31 h
 refine Ky [1,2] [true] ?_
 refine Zk ?_
 refine zQD [1,2,68] [none,none,none,none,none,none,none,none,none,none,none,none,none,none,none,none,none,none,none,none,none,none] ?_
 refine Zp (t:=(cond (cond (cond (cond (cond (decide (a0.Kind < 0)) true (decide (10 < a0.Kind))) true (a1 == 0)) true (decide (65536≤(a0.Words.length:Int)))) true (cond (a0.Kind == 1) (decide (65536≤(a0.Kids.length:Int))) false)) true (decide (1048576≤(a0.Kids.length:Int))))) rfl (fun c30 => ?_) (fun c30 => ?_)
 ·replace h:=Zt c30 h
  refine zQ [4] ?_
  exact Y9 [(vB false)]
 replace h:=Zs c30 h
 refine Ky [1,2] [true] ?_
 refine Zk ?_
 refine zQD [1,2,77] [none,none,none,none] ?_
 refine Zp (t:=(cond (decide (1 < a0.Kind)) (decide (0 < (a0.Words.length:Int))) false)) rfl (fun c29 => ?_) (fun c29 => ?_)
 ·replace h:=Zt c29 h
  refine zQ [4] ?_
  exact Y9 [(vB false)]
 replace h:=Zs c29 h
 refine Ky [1,2] [true] ?_
 refine Zk ?_
 refine zQd [1,2,5] [1,2,5] [true] ?_
 obtain ⟨z28,hz28,h⟩:=bC h
 refine Zbu (J:=(Ql (fun z28=>JR n (⟨132,[],[(4,(vB false))]⟩:Env) (Zq O n [none]) (n+1)) (fun z28=>JX 0 n (⟨132,[],[]⟩:Env) (Zq O n [none]) (n+1)))) (z:=z28) ?_ fun hw => ?_
 ·refine Y2 hz28 (fun s0_=>⟨132,[],[(1,(vI a1)),(2,.ref n 0),(5,(vI s0_))]⟩) (fun s0_=>(Zq O n [some ⟨false,25,3,1,(Zg a0)⟩])) (Ql (fun z28=>JR n (⟨132,[],[(4,(vB false))]⟩:Env) (Zq O n [none]) (n+1)) (fun z28=>JX 0 n (⟨132,[],[]⟩:Env) (Zq O n [none]) (n+1))) ?_
  intro s0_ x0_ hs0_
  unfold Kz at hs0_
  try dsimp only
  refine Zk ?_
  refine zQ [1,2,5,82] ?_
  refine Zp (t:=(decide (s0_ < (a0.Kids.length:Int)))) rfl (fun c27 => ?_) (fun c27 => ?_)
  ·replace hs0_:=Zt c27 hs0_
   refine Ky [1,2,5] [true] ?_
   refine Zk ?_
   refine Yd ?_
   refine Zk ?_
   obtain ⟨x2,hx2,ax2,bx2,cx2,hs0_⟩:=bE (f:=Za) Ug (fun _=>rfl) (by decide) hs0_
   refine Zcg [] ax2 bx2 cx2 ?_
   refine zDs [1,2,5,6] [true,true] ?_
   refine Zk ?_
   obtain ⟨y4,hy4,hs0_⟩:=bC hs0_
   refine zCd (Zlk hy4) [1,2,5,6,94] [true,true] ?_
   refine Zp (t:=(!y4)) rfl (fun c26 => ?_) (fun c26 => ?_)
   ·replace hs0_:=Zt c26 hs0_
    refine zQ [4] ?_
    refine zW ?_
    exact zEy hs0_
   replace hs0_:=Zs c26 hs0_
   refine Ky [1,2,5,6] [true,true] ?_
   refine zQD [1,2,5,6,7] [none,none,none] ?_
   obtain ⟨z9,hz9,hs0_⟩:=bC hs0_
   refine Xe (E':=⟨132,[],[(1,(vI a1)),(2,.ref n 0),(5,(vI s0_)),(131,(vB z9))]⟩) (O':=(Zq O n [some ⟨false,25,3,1,(Zg a0)⟩,none])) (n0:=(n+2)) ?_ ?_
   ·rcases Bool.eq_false_or_eq_true ((cond (decide (2≤a0.Kind)) (decide (a0.Kind≤7)) false) != (x2.Kind == 10)) with c18 | c18
    ·replace hz9:=Zt c18 hz9
     refine Kx Z0 (by kernel_rfl) (Zw8 (Z20 [])) (by kernel_rfl) ?_
     refine zX1 c18 ?_
     refine zG ?_
     exact Gd hz9 c18
    replace hz9:=Zs c18 hz9
    rcases Bool.eq_false_or_eq_true (a0.Kind == 9) with c19 | c19
    ·replace hz9:=Zt c19 hz9
     try rw [c19] at c18
     try simp only [Bool.cond_true,Bool.cond_false,Bool.true_bne,Bool.false_bne,Bool.true_beq,Bool.false_beq,Bool.not_eq_true',Bool.not_eq_false'] at c18
     rcases Bool.eq_false_or_eq_true (x2.Kind != 1) with c20 | c20
     ·replace hz9:=Zt c20 hz9
      try rw [c20] at c18
      try rw [c20] at c19
      try simp only [Bool.cond_true,Bool.cond_false,Bool.true_bne,Bool.false_bne,Bool.true_beq,Bool.false_beq,Bool.not_eq_true',Bool.not_eq_false'] at c18
      refine Kx Z0 (by kernel_rfl) (Zw8 (Z20 [])) (by kernel_rfl) ?_
      refine zX3 c18 c19 c20 ?_
      refine zG ?_
      exact Zjm hz9 c18 c19 c20
     replace hz9:=Zs c20 hz9
     try rw [c20] at c18
     try rw [c20] at c19
     try simp only [Bool.cond_true,Bool.cond_false,Bool.true_bne,Bool.false_bne,Bool.true_beq,Bool.false_beq,Bool.not_eq_true',Bool.not_eq_false'] at c18
     rcases Bool.eq_false_or_eq_true (decide (2≤a0.Kind)) with c21 | c21
     ·replace hz9:=Zt c21 hz9
      try rw [c21] at c18
      try rw [c21] at c19
      try rw [c21] at c20
      try simp only [Bool.cond_true,Bool.cond_false,Bool.true_bne,Bool.false_bne,Bool.true_beq,Bool.false_beq,Bool.not_eq_true',Bool.not_eq_false'] at c18
      rcases Bool.eq_false_or_eq_true (decide (a0.Kind≤7)) with c22 | c22
      ·replace hz9:=Zt c22 hz9
       try rw [c22] at c18
       try rw [c22] at c19
       try rw [c22] at c20
       try rw [c22] at c21
       try simp only [Bool.cond_true,Bool.cond_false,Bool.true_bne,Bool.false_bne,Bool.true_beq,Bool.false_beq,Bool.not_eq_true',Bool.not_eq_false'] at c18
       obtain ⟨x14,hx14,ax14,bx14,cx14,hz9⟩:=bE (f:=(eI .u64)) Ziz (fun _=>rfl) (by decide) hz9
       obtain ⟨y15,hy15,hz9⟩:=bC hz9
       refine Kx Z0 (by kernel_rfl) (Zw8 (Yas [])) (by kernel_rfl) ?_
       refine zF8 c18 c19 c20 c21 c22 ax14 bx14 cx14 ?_
       refine zG ?_
       refine PCall.of (Zii hy15) ?_
       refine zF8 c18 c19 c20 c21 c22 ax14 bx14 cx14 ?_
       refine zG ?_
       exact Yje hz9 c18 c19 c20 c21 c22 ax14 bx14 cx14
      replace hz9:=Zs c22 hz9
      try rw [c22] at c18
      try rw [c22] at c19
      try rw [c22] at c20
      try rw [c22] at c21
      try simp only [Bool.cond_true,Bool.cond_false,Bool.true_bne,Bool.false_bne,Bool.true_beq,Bool.false_beq,Bool.not_eq_true',Bool.not_eq_false'] at c18
      refine Kx Z0 (by kernel_rfl) (Zw8 (Uk::Uk::Z8q [Uk])) (by kernel_rfl) ?_
      refine zX5 c18 c19 c20 c21 c22 ?_
      refine zG ?_
      exact Yjf hz9 c18 c19 c20 c21 c22
     replace hz9:=Zs c21 hz9
     try rw [c21] at c18
     try rw [c21] at c19
     try rw [c21] at c20
     try simp only [Bool.cond_true,Bool.cond_false,Bool.true_bne,Bool.false_bne,Bool.true_beq,Bool.false_beq,Bool.not_eq_true',Bool.not_eq_false'] at c18
     refine Kx Z0 (by kernel_rfl) (Zw8 (Uk::Uk::Z8q [Uk])) (by kernel_rfl) ?_
     refine zX4 c18 c19 c20 c21 ?_
     refine zG ?_
     exact Z74 hz9 c18 c19 c20 c21
    replace hz9:=Zs c19 hz9
    try rw [c19] at c18
    try simp only [Bool.cond_true,Bool.cond_false,Bool.true_bne,Bool.false_bne,Bool.true_beq,Bool.false_beq,Bool.not_eq_true',Bool.not_eq_false'] at c18
    rcases Bool.eq_false_or_eq_true (decide (2≤a0.Kind)) with c23 | c23
    ·replace hz9:=Zt c23 hz9
     try rw [c23] at c18
     try rw [c23] at c19
     try simp only [Bool.cond_true,Bool.cond_false,Bool.true_bne,Bool.false_bne,Bool.true_beq,Bool.false_beq,Bool.not_eq_true',Bool.not_eq_false'] at c18
     rcases Bool.eq_false_or_eq_true (decide (a0.Kind≤7)) with c24 | c24
     ·replace hz9:=Zt c24 hz9
      try rw [c24] at c18
      try rw [c24] at c19
      try rw [c24] at c23
      try simp only [Bool.cond_true,Bool.cond_false,Bool.true_bne,Bool.false_bne,Bool.true_beq,Bool.false_beq,Bool.not_eq_true',Bool.not_eq_false'] at c18
      obtain ⟨x16,hx16,ax16,bx16,cx16,hz9⟩:=bE (f:=(eI .u64)) Ziz (fun _=>rfl) (by decide) hz9
      obtain ⟨y17,hy17,hz9⟩:=bC hz9
      refine Kx Z0 (by kernel_rfl) (Zw8 (Yas [])) (by kernel_rfl) ?_
      refine zF7 c18 c19 c23 c24 ax16 bx16 cx16 ?_
      refine zG ?_
      refine PCall.of (Zii hy17) ?_
      refine zF7 c18 c19 c23 c24 ax16 bx16 cx16 ?_
      refine zG ?_
      exact Yc1 hz9 c18 c19 c23 c24 ax16 bx16 cx16
     replace hz9:=Zs c24 hz9
     try rw [c24] at c18
     try rw [c24] at c19
     try rw [c24] at c23
     try simp only [Bool.cond_true,Bool.cond_false,Bool.true_bne,Bool.false_bne,Bool.true_beq,Bool.false_beq,Bool.not_eq_true',Bool.not_eq_false'] at c18
     refine Kx Z0 (by kernel_rfl) (Zw8 (Uk::Uk::Z8q [Uk])) (by kernel_rfl) ?_
     refine zX4 c18 c19 c23 c24 ?_
     refine zG ?_
     exact Z74 hz9 c18 c19 c23 c24
    replace hz9:=Zs c23 hz9
    try rw [c23] at c18
    try rw [c23] at c19
    try simp only [Bool.cond_true,Bool.cond_false,Bool.true_bne,Bool.false_bne,Bool.true_beq,Bool.false_beq,Bool.not_eq_true',Bool.not_eq_false'] at c18
    refine Kx Z0 (by kernel_rfl) (Zw8 (Uk::Uk::Z8q [Uk])) (by kernel_rfl) ?_
    refine zX3 c18 c19 c23 ?_
    refine zG ?_
    exact Zjm hz9 c18 c19 c23
   refine Zp (t:=z9) rfl (fun c25 => ?_) (fun c25 => ?_)
   ·replace hs0_:=Zt c25 hs0_
    refine zQ [4] ?_
    refine zW ?_
    exact zEy hs0_
   replace hs0_:=Zs c25 hs0_
   refine Ky [1,2,5] [true,false] ?_
   refine zR ?_
   exact zEn hs0_
  replace hs0_:=Zs c27 hs0_
  exact zEx hs0_
 rcases z28 with z28 | z28
 ·dsimp only [Ql] at hw h
  refine Kh hw ?_
  try simp only [Y1,Yc,↓reduceIte,Nat.reduceEqDiff]
  exact Zk7 [(vB false)]
 dsimp only [Ql] at hw h
 refine Yo hw ?_
 try simp only [Y1,Yc,↓reduceIte,Nat.reduceEqDiff]
 refine zD [] [false] ?_
 refine zQ [4] ?_
 exact Y9 [(vB true)]
theorem Zko:∀ k,(Zf1 (Jc k)):=fun k=>by
 induction k with
 | zero=>exact @fun a0 a1 r O n h=>(nomatch (show (none:Option _)=some _ from h))
 | succ k ih=>exact @fun a0 a1 r O n h=>Zmc (ih)  h
theorem Uf {a0:Zb} {a1:Int} {r:Bool} {O:Objs} {n:Nat} (h:K9 a0 a1=some r):GTo Try.prog 16 [.agg (Zg a0),(vI a1)] O n ((vB r)) O n:=by
 obtain ⟨k,hk⟩:=Gt h
 exact (Zko k)  hk
theorem Zhz {a0:Int} {r:(Arr Int 8)} {O:Objs} {n:Nat} (h:K8 a0=some r):GTo Try.prog 66 [.val (.int .u64 a0)] O n (.agg (fl (eI .u8) r.1)) O n:=by
 unfold K8 at h
 refine zFn Try.call66 Try.func66 fun hU hN0 hN => ?_
 show W _ _ _ _ ⟨18,[],[(0,.val (.int .u64 a0))]⟩ (Zq O n []) _
 obtain ⟨y3,hy3,ey3,h⟩:=bY (f:=(eI .u8)) (cs:=[.val (.int .u8 0),.val (.int .u8 0),.val (.int .u8 0),.val (.int .u8 0),.val (.int .u8 0),.val (.int .u8 0),.val (.int .u8 0),.val (.int .u8 0)]) rfl h
 have g4:=congrArg (GObj.mk false 89 8 1) ey3
 refine Yk1 [0,2] g4 ?_
 refine Zk ?_
 obtain ⟨y9,hy9,ey9,h⟩:=bY (f:=(eI .u8)) (cs:=[.val (.int .u8 0),.val (.int .u8 0),.val (.int .u8 0),.val (.int .u8 0),.val (.int .u8 0),.val (.int .u8 0),.val (.int .u8 0),.val (.int .u8 0)]) rfl h
 have g10:=congrArg G.agg ey9
 have g11:=congrArg (GObj.mk false 89 8 1) ey9
 have g12:=Zkm (f:=(eI .u8)) y9 y9 (fun _=>rfl)
 refine Zfz [] g10 g11 g12 ?_
 refine zDs [0,2,3] [true,true] ?_
 refine zQd [0,2,3,4] [0,2,3,4] [true,true] ?_
 obtain ⟨z18,hz18,h⟩:=bC h
 refine Yo (E':=⟨18,[],[(2,.ref n 0),(3,.ref (n+1) 0)]⟩) (O':=(Zq O n [some ⟨false,89,8,1,fl (eI .u8) y3.1⟩,some ⟨false,89,8,1,fl (eI .u8) z18.1⟩])) (n0:=(n+2)) ?_ ?_
 ·refine Y2 hz18 (fun s0_=>⟨18,[],[(0,.val (.int .u64 s0_.1)),(2,.ref n 0),(3,.ref (n+1) 0),(4,(vI s0_.2.1))]⟩) (fun s0_=>(Zq O n [some ⟨false,89,8,1,fl (eI .u8) y3.1⟩,some ⟨false,89,8,1,fl (eI .u8) s0_.2.2.1⟩])) (fun z18=>JX 0 n (⟨18,[],[(2,.ref n 0),(3,.ref (n+1) 0)]⟩:Env) (Zq O n [some ⟨false,89,8,1,fl (eI .u8) y3.1⟩,some ⟨false,89,8,1,fl (eI .u8) z18.1⟩]) (n+2)) ?_
  intro s0_ x0_ hs0_
  unfold K4 at hs0_
  try dsimp only
  refine Zk ?_
  refine zQ [0,2,3,4,7] ?_
  refine Zp (t:=(decide (s0_.2.1 < 8))) rfl (fun c17 => ?_) (fun c17 => ?_)
  ·replace hs0_:=Zt c17 hs0_
   refine Ky [0,2,3,4] [true,true] ?_
   refine Zk ?_
   refine Yd ?_
   refine Zk ?_
   obtain ⟨x15,hx15,ax15,bx15,cx15,hs0_⟩:=bEA (f:=(eI .u8)) (b:=8) rfl Z3s (fun _=>rfl) (by decide) hs0_
   have gu16:Jq (fl (eI .u8) s0_.2.2.1) [.val (.int .u8 (IntKind.u8.wrap (Int.tmod s0_.1 256)))] (Int.toNat s0_.2.1 * 1)=some (fl (eI .u8) (Zgr s0_.2.2.1 s0_.2.1 (IntKind.u8.wrap (Int.tmod s0_.1 256)))):=Zj6 (f:=(eI .u8)) (ti:=⟨.bool,1,0,[],false⟩) (x:=(IntKind.u8.wrap (Int.tmod s0_.1 256))) (fun _=>rfl) (Zfc hx15)
   refine Zqb [] ax15 bx15 cx15 gu16 ?_
   refine zD [0,2,3,4] [true,true] ?_
   refine zRd [0,2,3,4] [true,true] ?_
   refine zR ?_
   exact zEn hs0_
  replace hs0_:=Zs c17 hs0_
  exact zEx hs0_
 try simp only [Y1,Yc,↓reduceIte,Nat.reduceEqDiff]
 refine zDs [2,3] [true,true] ?_
 have g21:=Zxr (f:=(eI .u8)) z18 Z3t rfl (fun _=>rfl) rfl
 have g22:=Zkm (f:=(eI .u8)) y3 z18 (fun _=>rfl)
 refine U9 [] g21 g22 ?_
 refine zD [2] [true,false] ?_
 refine zW ?_
 obtain rfl:=sI h
 have gR0:=Zxr (f:=(eI .u8)) z18 Z3t rfl (fun _=>rfl) rfl
 refine Zyi (.inr rfl) hU [.agg (fl (eI .u8) z18.1)] (by omega) ?_
 simp only [push_cast,seval,Zi,Try.results66,hN0,hN,gR0]
theorem Zne {a0:Int} {a1:Int} {r:Bool} {O:Objs} {n:Nat} (h:U3 a0 a1=some r):GTo Try.prog 67 [.val (.int .u8 a0),(vI a1)] O n ((vB r)) O n:=by
 unfold U3 at h
 refine zFn Try.call67 Try.func67 fun hU hN0 hN => ?_
 show W _ _ _ _ ⟨16,[],[(0,.val (.int .u8 a0)),(1,(vI a1))]⟩ (Zq O n []) _
 refine zQ [0,1] ?_
 refine Zk ?_
 refine zQd [0,1,5] [0,1,5] [] ?_
 obtain ⟨z2,hz2,h⟩:=bC h
 refine Yo (E':=⟨16,[],[(0,.val (.int .u8 z2))]⟩) (O':=(Zq O n [])) (n0:=n) ?_ ?_
 ·refine Y2 hz2 (fun s0_=>⟨16,[],[(0,.val (.int .u8 s0_.1)),(1,(vI a1)),(5,(vI s0_.2))]⟩) (fun s0_=>(Zq O n [])) (fun z2=>JX 0 n (⟨16,[],[(0,.val (.int .u8 z2))]⟩:Env) (Zq O n []) n) ?_
  intro s0_ x0_ hs0_
  unfold Jo at hs0_
  try dsimp only
  refine Zk ?_
  refine zQ [0,1,5,8] ?_
  refine Zp (t:=(decide (s0_.2 < a1))) rfl (fun c1 => ?_) (fun c1 => ?_)
  ·replace hs0_:=Zt c1 hs0_
   refine Ky [0,1,5] [] ?_
   refine Zk ?_
   refine Yd ?_
   refine zRd [0,1,5] [] ?_
   refine zR ?_
   exact zEn hs0_
  replace hs0_:=Zs c1 hs0_
  exact zEx hs0_
 try simp only [Y1,Yc,↓reduceIte,Nat.reduceEqDiff]
 refine zD [0] [] ?_
 refine zQ [4] ?_
 exact Y9 [(vB ((Int.tmod z2 2) == 1))]
theorem Zrv {a0:(List Int)} {a1:Int} {r:Int} {O:Objs} {n:Nat} (h:Zep a0 a1=some r):GTo Try.prog 68 [(sL (eI .u8) a0),(vI a1)] O n (.val (.int .u64 r)) O n:=by
 unfold Zep at h
 refine zFn Try.call68 Try.func68 fun hU hN0 hN => ?_
 show W _ _ _ _ ⟨22,[],[(0,(sL (eI .u8) a0)),(1,(vI a1))]⟩ (Zq O n []) _
 refine zQ [0,1] ?_
 refine zQ [0,1,5] ?_
 refine Zk ?_
 refine zQd [0,1,5,6] [0,1,5,6] [] ?_
 obtain ⟨z3,hz3,h⟩:=bC h
 refine Yo (E':=⟨22,[],[(5,.val (.int .u64 z3))]⟩) (O':=(Zq O n [])) (n0:=n) ?_ ?_
 ·refine Y2 hz3 (fun s0_=>⟨22,[],[(0,(sL (eI .u8) a0)),(1,(vI a1)),(5,.val (.int .u64 s0_.1)),(6,(vI s0_.2))]⟩) (fun s0_=>(Zq O n [])) (fun z3=>JX 0 n (⟨22,[],[(5,.val (.int .u64 z3))]⟩:Env) (Zq O n []) n) ?_
  intro s0_ x0_ hs0_
  unfold U4 at hs0_
  try dsimp only
  refine Zk ?_
  refine zQ [0,1,5,6,8] ?_
  refine Zp (t:=(decide (0≤s0_.2))) rfl (fun c2 => ?_) (fun c2 => ?_)
  ·replace hs0_:=Zt c2 hs0_
   refine Ky [0,1,5,6] [] ?_
   refine Zk ?_
   refine Yd ?_
   obtain ⟨x1,hx1,ax1,bx1,cx1,hs0_⟩:=bE (f:=(eI .u8)) Z3s (fun _=>rfl) (by decide) hs0_
   refine Zcg [] ax1 bx1 cx1 ?_
   refine zD [0,1,5,6] [] ?_
   refine zR ?_
   exact zEn hs0_
  replace hs0_:=Zs c2 hs0_
  exact zEx hs0_
 try simp only [Y1,Yc,↓reduceIte,Nat.reduceEqDiff]
 refine zD [5] [] ?_
 refine zQ [4] ?_
 exact Y9 [.val (.int .u64 z3)]
theorem Zps {a0:Int} {a1:Int} {a2:Int} {r:Int} {O:Objs} {n:Nat} (h:Zaq a0 a1 a2=some r):GTo Try.prog 42 [.val (.int .u64 a0),.val (.int .u64 a1),.val (.int .u8 a2)] O n (.val (.int .u64 r)) O n:=by
 unfold Zaq at h
 refine zFn Try.call42 Try.func42 fun hU hN0 hN => ?_
 show W _ _ _ _ ⟨28,[],[(0,.val (.int .u64 a0)),(1,.val (.int .u64 a1)),(2,.val (.int .u8 a2))]⟩ (Zq O n []) _
 refine zQ [0,1,2] ?_
 refine Zk ?_
 obtain ⟨y8,hy8,h⟩:=bC h
 obtain ⟨y9,hy9,h⟩:=bC h
 obtain ⟨y10,hy10,ey10,h⟩:=bY (f:=(eI .u8)) (cs:=[.val (.int .u8 0),.val (.int .u8 0),.val (.int .u8 0),.val (.int .u8 0),.val (.int .u8 0),.val (.int .u8 0),.val (.int .u8 0),.val (.int .u8 0)]) rfl h
 have g11:=congrArg (GObj.mk false 89 8 1) ey10
 have g12:=congrArg (GObj.mk false 89 8 1) ey10
 have g13:=Zkm (f:=(eI .u8)) y10 y8 (fun _=>rfl)
 have g14:=Zkm (f:=(eI .u8)) y10 y9 (fun _=>rfl)
 refine Z76 [] g11 g12 g13 g14 ?_
 refine (Zhz hy8).then ?_
 refine zX4 g11 g12 g13 g14 ?_
 refine (Zhz hy9).then ?_
 refine zX4 g11 g12 g13 g14 ?_
 refine zDs [2,7,8] [true,true] ?_
 refine zQd [2,7,8,9] [2,7,8,9] [true,true] ?_
 obtain ⟨z23,hz23,h⟩:=bC h
 refine Yo (E':=⟨28,[],[(7,.ref n 0)]⟩) (O':=(Zq O n [some ⟨false,89,8,1,fl (eI .u8) z23.1⟩,none])) (n0:=(n+2)) ?_ ?_
 ·refine Y2 hz23 (fun s0_=>⟨28,[],[(2,.val (.int .u8 a2)),(7,.ref n 0),(8,.ref (n+1) 0),(9,(vI s0_.1))]⟩) (fun s0_=>(Zq O n [some ⟨false,89,8,1,fl (eI .u8) s0_.2.1⟩,some ⟨false,89,8,1,fl (eI .u8) y9.1⟩])) (fun z23=>JX 0 n (⟨28,[],[(7,.ref n 0)]⟩:Env) (Zq O n [some ⟨false,89,8,1,fl (eI .u8) z23.1⟩,none]) (n+2)) ?_
  intro s0_ x0_ hs0_
  unfold Uc at hs0_
  try dsimp only
  refine Zk ?_
  refine zQ [2,7,8,9,15] ?_
  refine Zp (t:=(decide (s0_.1 < 8))) rfl (fun c22 => ?_) (fun c22 => ?_)
  ·replace hs0_:=Zt c22 hs0_
   refine Ky [2,7,8,9] [true,true] ?_
   obtain ⟨z15,hz15,hs0_⟩:=bC hs0_
   refine Xe (E':=⟨28,[],[(2,.val (.int .u8 a2)),(7,.ref n 0),(8,.ref (n+1) 0),(9,(vI s0_.1))]⟩) (O':=(Zq O n [some ⟨false,89,8,1,fl (eI .u8) z15.1⟩,some ⟨false,89,8,1,fl (eI .u8) y9.1⟩])) (n0:=(n+2)) ?_ ?_
   ·refine Yd ?_
    refine Zk ?_
    obtain ⟨y17,hy17,hz15⟩:=bC hz15
    refine zCd (Zne hy17) [2,7,8,9,20] [true,true] ?_
    refine Zp (t:=y17) rfl (fun c21 => ?_) (fun c21 => ?_)
    ·replace hz15:=Zt c21 hz15
     obtain ⟨x18,hx18,ax18,bx18,cx18,hz15⟩:=bEA (f:=(eI .u8)) (b:=8) rfl Z3s (fun _=>rfl) (by decide) hz15
     obtain ⟨x19,hx19,ax19,bx19,cx19,hz15⟩:=bEA (f:=(eI .u8)) (b:=8) rfl Z3s (fun _=>rfl) (by decide) hz15
     have gu20:Jq (fl (eI .u8) s0_.2.1) [.val (.int .u8 x18)] (Int.toNat s0_.1 * 1)=some (fl (eI .u8) (Zgr s0_.2.1 s0_.1 x18)):=Zj6 (f:=(eI .u8)) (ti:=⟨.bool,1,0,[],false⟩) (x:=x18) (fun _=>rfl) (Zfc hx19)
     refine Yc2 [] ax18 bx18 cx18 ax19 bx19 cx19 gu20 ?_
     exact Yc1 hz15 ax18 bx18 cx18 ax19 bx19 cx19 gu20
    replace hz15:=Zs c21 hz15
    refine zK ?_
    exact zEn hz15
   refine zR ?_
   exact zEn hs0_
  replace hs0_:=Zs c22 hs0_
  exact zEx hs0_
 try simp only [Y1,Yc,↓reduceIte,Nat.reduceEqDiff]
 refine zDs [7] [true,false] ?_
 have g27:=Z4n (j:=n) Ztu Z3s (by decide)
 have g28:=z23.2
 obtain ⟨y29,hy29,h⟩:=bC h
 refine U9 [] g27 g28 ?_
 refine GCalls.lend (Zrv hy29) rfl ?_ ?_
 ·exact Q2 g27 g28
 refine zX2 g27 g28 ?_
 refine zD [6] [false,false] ?_
 exact Y9 [.val (.int .u64 y29)]
theorem Zct {a0:Int} {a1:Int} {r:Bool} {O:Objs} {n:Nat} (h:Ks a0 a1=some r):GTo Try.prog 27 [.val (.int .u64 a0),.val (.int .u8 a1)] O n ((vB r)) O n:=by
 unfold Ks at h
 refine zFn Try.call27 Try.func27 fun hU hN0 hN => ?_
 show W _ _ _ _ ⟨9,[],[(0,.val (.int .u64 a0)),(1,.val (.int .u8 a1))]⟩ (Zq O n []) _
 refine zQ [0,1] ?_
 refine Zk ?_
 obtain ⟨y2,hy2,h⟩:=bC h
 refine zCd (Zps hy2) [4] [] ?_
 exact Y9 [(vB (y2 == 0))]
theorem Zik {a0:Zc} {r:Bool} {O:Objs} {n:Nat} (h:Vx a0=some r):GTo Try.prog 43 [.agg (Ze a0)] O n ((vB r)) O n:=by
 unfold Vx at h
 refine zFn Try.call43 Try.func43 fun hU hN0 hN => ?_
 show W _ _ _ _ ⟨35,[],[(0,.agg (Ze a0))]⟩ (Zq O n []) _
 refine zQ [1] ?_
 obtain ⟨z3,hz3,h⟩:=bC h
 refine Xe (E':=⟨35,[],[(2,(vB z3))]⟩) (O':=(Zq O n [none])) (n0:=(n+1)) ?_ ?_
 ·rcases Bool.eq_false_or_eq_true (a0.Kind == 0) with c8 | c8
  ·replace hz3:=Zt c8 hz3
   obtain ⟨y6,hy6,hz3⟩:=bC hz3
   rcases Bool.eq_false_or_eq_true y6 with c9 | c9
   ·replace hz3:=Zt c9 hz3
    try rw [c9] at c8
    obtain ⟨y7,hy7,hz3⟩:=bC hz3
    refine U9 (Zz0 (Yhu [])) c8 c9 ?_
    refine zG ?_
    refine (Vd hy6).then ?_
    refine zX2 c8 c9 ?_
    refine zG ?_
    refine (Vd hy7).then ?_
    refine zX2 c8 c9 ?_
    refine zG ?_
    exact Zjl hz3 c8 c9
   replace hz3:=Zs c9 hz3
   try rw [c9] at c8
   refine U9 (Z8r (Yfb [])) c8 c9 ?_
   refine (Vd hy6).then ?_
   refine zX2 c8 c9 ?_
   exact Zjl hz3 c8 c9
  replace hz3:=Zs c8 hz3
  refine Zbp (Yhn []) c8 ?_
  exact Gd hz3 c8
 exact Y9 [(vB z3)]
theorem Zf5 {a0:Zc} {r:(Int×Int)} {O:Objs} {n:Nat} (h:J5 a0=some r):GTo Try.prog 29 [.agg (Ze a0)] O n (.tup [(vI r.1),(vI r.2)]) O n:=by
 unfold J5 at h
 refine zFn Try.call29 Try.func29 fun hU hN0 hN => ?_
 show W _ _ _ _ ⟨48,[],[(0,.agg (Ze a0))]⟩ (Zq O n []) _
 refine zQ [1] ?_
 refine zQ [1,4,5] ?_
 refine Zk ?_
 refine zQd [1,4,5,6] [1,4,5,6] [true] ?_
 obtain ⟨z14,hz14,h⟩:=bC h
 refine Yo (E':=⟨48,[],[(4,(vI z14.1)),(5,(vI z14.2))]⟩) (O':=(Zq O n [none])) (n0:=(n+1)) ?_ ?_
 ·refine Y2 hz14 (fun s0_=>⟨48,[],[(1,.ref n 0),(4,(vI s0_.1)),(5,(vI s0_.2.1)),(6,(vI s0_.2.2))]⟩) (fun s0_=>(Zq O n [some ⟨false,30,11,1,(Ze a0)⟩])) (fun z14=>JX 0 n (⟨48,[],[(4,(vI z14.1)),(5,(vI z14.2))]⟩:Env) (Zq O n [none]) (n+1)) ?_
  intro s0_ x0_ hs0_
  unfold J6 at hs0_
  try dsimp only
  refine Zk ?_
  refine zQ [1,4,5,6,13] ?_
  refine Zp (t:=(decide (s0_.2.2 < (a0.Ops.length:Int)))) rfl (fun c13 => ?_) (fun c13 => ?_)
  ·replace hs0_:=Zt c13 hs0_
   refine Ky [1,4,5,6] [true] ?_
   obtain ⟨z1,hz1,hs0_⟩:=bC hs0_
   refine Xe (E':=⟨48,[],[(1,.ref n 0),(4,(vI z1.1)),(5,(vI z1.2)),(6,(vI s0_.2.2))]⟩) (O':=(Zq O n [some ⟨false,30,11,1,(Ze a0)⟩,none])) (n0:=(n+2)) ?_ ?_
   ·refine Yd ?_
    refine Zk ?_
    obtain ⟨x3,hx3,ax3,bx3,cx3,hz1⟩:=bE (f:=Zd) Zbm (fun _=>rfl) (by decide) hz1
    refine Zcg [] ax3 bx3 cx3 ?_
    refine zD [1,4,5,6,7] [true,true] ?_
    refine zQ [1,4,5,6,7,8] ?_
    obtain ⟨z4,hz4,hz1⟩:=bC hz1
    refine Xe (E':=⟨48,[],[(1,.ref n 0),(4,(vI s0_.1)),(5,(vI s0_.2.1)),(6,(vI s0_.2.2)),(7,.ref (n+1) 0),(8,(vI z4))]⟩) (O':=(Zq O n [some ⟨false,30,11,1,(Ze a0)⟩,some ⟨false,46,14,1,(Yy x3)⟩])) (n0:=(n+2)) ?_ ?_
    ·refine zQ [1,4,5,6,7,8,29] ?_
     refine Zp (t:=(x3.Kind == 3)) rfl (fun c5 => ?_) (fun c5 => ?_)
     ·replace hz4:=Zt c5 hz4
      refine zR ?_
      exact zEn hz4
     replace hz4:=Zs c5 hz4
     refine zK ?_
     exact zEn hz4
    obtain ⟨z6,hz6,hz1⟩:=bC hz1
    refine Xe (E':=⟨48,[],[(1,.ref n 0),(4,(vI z6)),(5,(vI s0_.2.1)),(6,(vI s0_.2.2)),(7,.ref (n+1) 0),(8,(vI z4))]⟩) (O':=(Zq O n [some ⟨false,30,11,1,(Ze a0)⟩,some ⟨false,46,14,1,(Yy x3)⟩])) (n0:=(n+2)) ?_ ?_
    ·refine zQ [1,4,5,6,7,8,32] ?_
     refine Zp (t:=(x3.Kind != 2)) rfl (fun c7 => ?_) (fun c7 => ?_)
     ·replace hz6:=Zt c7 hz6
      refine zR ?_
      exact zEn hz6
     replace hz6:=Zs c7 hz6
     refine zK ?_
     exact zEn hz6
    obtain ⟨z8,hz8,hz1⟩:=bC hz1
    refine Xe (E':=⟨48,[],[(1,.ref n 0),(4,(vI z6)),(5,(vI z8)),(6,(vI s0_.2.2))]⟩) (O':=(Zq O n [some ⟨false,30,11,1,(Ze a0)⟩,none])) (n0:=(n+2)) ?_ ?_
    ·refine zQ [1,4,5,6,8,38] ?_
     refine Zp (t:=(x3.Kind != 1)) rfl (fun c9 => ?_) (fun c9 => ?_)
     ·replace hz8:=Zt c9 hz8
      refine zR ?_
      exact zEn hz8
     replace hz8:=Zs c9 hz8
     refine zK ?_
     exact zEn hz8
    obtain ⟨z10,hz10,hz1⟩:=bC hz1
    refine Xe (E':=⟨48,[],[(1,.ref n 0),(4,(vI z10)),(5,(vI z8)),(6,(vI s0_.2.2))]⟩) (O':=(Zq O n [some ⟨false,30,11,1,(Ze a0)⟩,none])) (n0:=(n+2)) ?_ ?_
    ·refine zQ [1,4,5,6,43] ?_
     refine Zp (t:=(decide (1048576 < z6))) rfl (fun c11 => ?_) (fun c11 => ?_)
     ·replace hz10:=Zt c11 hz10
      refine zR ?_
      exact zEn hz10
     replace hz10:=Zs c11 hz10
     refine zK ?_
     exact zEn hz10
    refine zQ [1,4,5,6,45] ?_
    refine Zp (t:=(decide (1048576 < z8))) rfl (fun c12 => ?_) (fun c12 => ?_)
    ·replace hz1:=Zt c12 hz1
     refine zR ?_
     exact zEn hz1
    replace hz1:=Zs c12 hz1
    refine zK ?_
    exact zEn hz1
   refine zR ?_
   exact zEn hs0_
  replace hs0_:=Zs c13 hs0_
  exact zEx hs0_
 try simp only [Y1,Yc,↓reduceIte,Nat.reduceEqDiff]
 refine zD [4,5] [false] ?_
 refine zQ [2,3] ?_
 exact Y9 [(vI z14.1),(vI z14.2)]
attribute [local push_cast] Try.results13 Try.results14 Try.results15 Try.results17 Try.results22 Try.results28 Try.results35 Try.results4 Try.results40 Try.results41 Try.results5 Try.results6
def Zbw (Xd:(Zc→Int→Option Bool)):Prop:=∀ {a0:Zc} {a1:Int} {r:Bool} {O:Objs} {n:Nat},Xd a0 a1=some r→GTo Try.prog 13 [.agg (Ze a0),(vI a1)] O n ((vB r)) O n
def Zey (X6:(Int→Zl→Int→Option Bool)):Prop:=∀ {a0:Int} {a1:Zl} {a2:Int} {r:Bool} {O:Objs} {n:Nat},X6 a0 a1 a2=some r→GTo Try.prog 28 [(vI a0),.agg (Yy a1),(vI a2)] O n ((vB r)) O n
theorem Zmf {Xd:(Zc→Int→Option Bool)} {X6:(Int→Zl→Int→Option Bool)} (Zbx:Zbw Xd) (Zil:Zey X6) {a0:Zc} {a1:Int} {r:Bool} {O:Objs} {n:Nat} (h:Uw Xd X6 a0 a1=some r):GTo Try.prog 13 [.agg (Ze a0),(vI a1)] O n ((vB r)) O n:=by
 unfold Uw at h
 refine zFn Try.call13 Try.func13 fun hU hN0 hN => ?_
 show W _ _ _ _ ⟨216,[],[(0,.agg (Ze a0)),(1,(vI a1))]⟩ (Zq O n []) _
 refine zQ [1,2] ?_
 refine Zk ?_
 refine zQD [1,2,24] [none,none,none,none,none,none] ?_
 refine Zp (t:=(cond (cond (a1 == 0) true (decide (a0.Kind < 0))) true (decide (3 < a0.Kind)))) rfl (fun c58 => ?_) (fun c58 => ?_)
 ·replace h:=Zt c58 h
  refine zQ [4] ?_
  exact Y9 [(vB false)]
 replace h:=Zs c58 h
 refine Ky [1,2] [true] ?_
 refine Zk ?_
 obtain ⟨z3,hz3,h⟩:=bC h
 refine Xe (E':=⟨216,[],[(1,(vI a1)),(2,.ref n 0),(69,(vB z3))]⟩) (O':=(Zq O n [some ⟨false,30,11,1,(Ze a0)⟩])) (n0:=(n+1)) ?_ ?_
 ·rcases Bool.eq_false_or_eq_true (a0.Kind != 1) with c8 | c8
  ·replace hz3:=Zt c8 hz3
   obtain ⟨y6,hy6,hz3⟩:=bC hz3
   rcases Bool.eq_false_or_eq_true y6 with c9 | c9
   ·replace hz3:=Zt c9 hz3
    try rw [c9] at c8
    obtain ⟨y7,hy7,hz3⟩:=bC hz3
    refine U9 (Yhz (Yhv [])) c8 c9 ?_
    refine zG ?_
    refine (Vd hy6).then ?_
    refine zX2 c8 c9 ?_
    refine zG ?_
    refine (Vd hy7).then ?_
    refine zX2 c8 c9 ?_
    refine zG ?_
    exact Zjl hz3 c8 c9
   replace hz3:=Zs c9 hz3
   try rw [c9] at c8
   refine U9 (Ydz (Z41 (Uk::Uk::Yho []))) c8 c9 ?_
   refine (Vd hy6).then ?_
   refine zX2 c8 c9 ?_
   exact Zjl hz3 c8 c9
  replace hz3:=Zs c8 hz3
  refine Zbp (Z8q (Ydz (Zw8 (Uk::Yht [])))) c8 ?_
  refine zG ?_
  exact Gd hz3 c8
 refine Zp (t:=z3) rfl (fun c57 => ?_) (fun c57 => ?_)
 ·replace h:=Zt c57 h
  refine zQ [4] ?_
  exact Y9 [(vB false)]
 replace h:=Zs c57 h
 refine Ky [1,2] [true] ?_
 refine Zk ?_
 refine zQ [1,2,72] ?_
 refine Zp (t:=(a0.Kind == 1)) rfl (fun c56 => ?_) (fun c56 => ?_)
 ·replace h:=Zt c56 h
  obtain ⟨z12,hz12,h⟩:=bC h
  refine Xe (E':=⟨216,[],[(4,(vB z12))]⟩) (O':=(Zq O n [none])) (n0:=(n+1)) ?_ ?_
  ·obtain ⟨y15,hy15,hz12⟩:=bC hz12
   rcases Bool.eq_false_or_eq_true y15 with c17 | c17
   ·replace hz12:=Zt c17 hz12
    obtain ⟨y16,hy16,hz12⟩:=bC hz12
    refine Zbp (Z8r (Zw8 [])) c17 ?_
    refine zG ?_
    refine (Uf hy15).then ?_
    refine zX1 c17 ?_
    refine zG ?_
    refine (Uf hy16).then ?_
    refine zX1 c17 ?_
    refine zG ?_
    exact Gd hz12 c17
   replace hz12:=Zs c17 hz12
   refine Zbp (Yhl []) c17 ?_
   refine (Uf hy15).then ?_
   refine zX1 c17 ?_
   exact Gd hz12 c17
  exact Y9 [(vB z12)]
 replace h:=Zs c56 h
 refine Ky [1,2] [true] ?_
 refine zQ [1,2,5] ?_
 refine Zk ?_
 refine zQd [1,2,5,6] [1,2,5,6] [true] ?_
 obtain ⟨z33,hz33,h⟩:=bC h
 refine Zbu (J:=(Ql (fun z33=>JR n (⟨216,[],[(4,(vB false))]⟩:Env) (Zq O n [none]) (n+1)) (fun z33=>JX 0 n (⟨216,[],[(1,(vI a1)),(2,.ref n 0)]⟩:Env) (Zq O n [some ⟨false,30,11,1,(Ze a0)⟩]) (n+1)))) (z:=z33) ?_ fun hw => ?_
 ·refine Y2 hz33 (fun s0_=>⟨216,[],[(1,(vI a1)),(2,.ref n 0),(5,(vI s0_.1)),(6,(vI s0_.2))]⟩) (fun s0_=>(Zq O n [some ⟨false,30,11,1,(Ze a0)⟩])) (Ql (fun z33=>JR n (⟨216,[],[(4,(vB false))]⟩:Env) (Zq O n [none]) (n+1)) (fun z33=>JX 0 n (⟨216,[],[(1,(vI a1)),(2,.ref n 0)]⟩:Env) (Zq O n [some ⟨false,30,11,1,(Ze a0)⟩]) (n+1))) ?_
  intro s0_ x0_ hs0_
  unfold Jm at hs0_
  try dsimp only
  refine Zk ?_
  refine zQ [1,2,5,6,97] ?_
  refine Zp (t:=(decide (s0_.2 < (a0.Words.length:Int)))) rfl (fun c32 => ?_) (fun c32 => ?_)
  ·replace hs0_:=Zt c32 hs0_
   refine Ky [1,2,5,6] [true] ?_
   refine Zk ?_
   refine Yd ?_
   refine Zk ?_
   obtain ⟨x19,hx19,ax19,bx19,cx19,hs0_⟩:=bE (f:=Zf) Zx9 (fun _=>rfl) (by decide) hs0_
   refine Zcg [] ax19 bx19 cx19 ?_
   refine zDs [1,2,5,6,7] [true,true] ?_
   obtain ⟨z22,hz22,hs0_⟩:=bC hs0_
   refine Xe (E':=⟨216,[],[(1,(vI a1)),(2,.ref n 0),(6,(vI s0_.2)),(7,.ref (n+1) 0),(134,(vB z22))]⟩) (O':=(Zq O n [some ⟨false,30,11,1,(Ze a0)⟩,some ⟨false,57,4,1,(Zal x19)⟩])) (n0:=(n+2)) ?_ ?_
   ·rcases Bool.eq_false_or_eq_true (decide (x19.At≤s0_.1)) with c27 | c27
    ·replace hz22:=Zt c27 hz22
     refine Zbp (Zzy (Z20 [])) c27 ?_
     refine zG ?_
     exact Gd hz22 c27
    replace hz22:=Zs c27 hz22
    rcases Bool.eq_false_or_eq_true (decide (65534 < x19.At)) with c28 | c28
    ·replace hz22:=Zt c28 hz22
     try rw [c28] at c27
     refine U9 (Zzy (Z20 [])) c27 c28 ?_
     refine zG ?_
     exact Zjl hz22 c27 c28
    replace hz22:=Zs c28 hz22
    try rw [c28] at c27
    rcases Bool.eq_false_or_eq_true (x19.Mask == 0) with c29 | c29
    ·replace hz22:=Zt c29 hz22
     try rw [c29] at c27
     try rw [c29] at c28
     refine Zfz (Zzy (Z20 [])) c27 c28 c29 ?_
     refine zG ?_
     exact Zjm hz22 c27 c28 c29
    replace hz22:=Zs c29 hz22
    try rw [c29] at c27
    try rw [c29] at c28
    obtain ⟨y25,hy25,hz22⟩:=bC hz22
    rcases Bool.eq_false_or_eq_true y25 with c30 | c30
    ·replace hz22:=Zt c30 hz22
     try rw [c30] at c27
     try rw [c30] at c28
     try rw [c30] at c29
     obtain ⟨y26,hy26,hz22⟩:=bC hz22
     refine Z76 (Zzy (Yas [])) c27 c28 c29 c30 ?_
     refine zG ?_
     refine (Zct hy25).then ?_
     refine zX4 c27 c28 c29 c30 ?_
     refine zG ?_
     refine (Zct hy26).then ?_
     refine zX4 c27 c28 c29 c30 ?_
     refine zG ?_
     exact Z74 hz22 c27 c28 c29 c30
    replace hz22:=Zs c30 hz22
    try rw [c30] at c27
    try rw [c30] at c28
    try rw [c30] at c29
    refine Z76 (Zzy (Zz0 (Zzx []))) c27 c28 c29 c30 ?_
    refine zG ?_
    refine (Zct hy25).then ?_
    refine zX4 c27 c28 c29 c30 ?_
    refine zG ?_
    exact Z74 hz22 c27 c28 c29 c30
   refine Zp (t:=z22) rfl (fun c31 => ?_) (fun c31 => ?_)
   ·replace hs0_:=Zt c31 hs0_
    refine zQ [4] ?_
    refine zW ?_
    exact zEy hs0_
   replace hs0_:=Zs c31 hs0_
   refine Ky [1,2,6,7] [true,true] ?_
   refine zRd [1,2,5,6] [true,false] ?_
   refine zR ?_
   exact zEn hs0_
  replace hs0_:=Zs c32 hs0_
  exact zEx hs0_
 rcases z33 with z33 | z33
 ·dsimp only [Ql] at hw h
  refine Kh hw ?_
  try simp only [Y1,Yc,↓reduceIte,Nat.reduceEqDiff]
  exact Zk7 [(vB false)]
 dsimp only [Ql] at hw h
 refine Yo hw ?_
 try simp only [Y1,Yc,↓reduceIte,Nat.reduceEqDiff]
 refine zD [1,2] [true] ?_
 refine zQ [1,2,5] ?_
 refine Zk ?_
 refine zQd [1,2,5,8] [1,2,5,8] [true] ?_
 obtain ⟨z45,hz45,h⟩:=bC h
 refine Zbu (J:=(Ql (fun z45=>JR n (⟨216,[],[(4,(vB false))]⟩:Env) (Zq O n [none]) (n+1)) (fun z45=>JX 2 n (⟨216,[],[(1,(vI a1)),(2,.ref n 0)]⟩:Env) (Zq O n [some ⟨false,30,11,1,(Ze a0)⟩]) (n+1)))) (z:=z45) ?_ fun hw => ?_
 ·refine Y2 hz45 (fun s1_=>⟨216,[],[(1,(vI a1)),(2,.ref n 0),(5,(vI s1_.1)),(8,(vI s1_.2))]⟩) (fun s1_=>(Zq O n [some ⟨false,30,11,1,(Ze a0)⟩])) (Ql (fun z45=>JR n (⟨216,[],[(4,(vB false))]⟩:Env) (Zq O n [none]) (n+1)) (fun z45=>JX 2 n (⟨216,[],[(1,(vI a1)),(2,.ref n 0)]⟩:Env) (Zq O n [some ⟨false,30,11,1,(Ze a0)⟩]) (n+1))) ?_
  intro s1_ x1_ hs1_
  unfold Jn at hs1_
  try dsimp only
  refine Zk ?_
  refine zQ [1,2,5,8,141] ?_
  refine Zp (t:=(decide (s1_.2 < (a0.Kids.length:Int)))) rfl (fun c44 => ?_) (fun c44 => ?_)
  ·replace hs1_:=Zt c44 hs1_
   refine Ky [1,2,5,8] [true] ?_
   refine Zk ?_
   refine Yd ?_
   refine Zk ?_
   obtain ⟨x35,hx35,ax35,bx35,cx35,hs1_⟩:=bE (f:=Zh) Znt (fun _=>rfl) (by decide) hs1_
   refine Zcg [] ax35 bx35 cx35 ?_
   refine zDs [1,2,5,8,9] [true,true] ?_
   obtain ⟨z37,hz37,hs1_⟩:=bC hs1_
   refine Xe (E':=⟨216,[],[(1,(vI a1)),(2,.ref n 0),(8,(vI s1_.2)),(9,.ref (n+1) 0),(171,(vB z37))]⟩) (O':=(Zq O n [some ⟨false,30,11,1,(Ze a0)⟩,some ⟨false,44,12,1,(Gg x35)⟩])) (n0:=(n+2)) ?_ ?_
   ·rcases Bool.eq_false_or_eq_true (decide (x35.At≤s1_.1)) with c40 | c40
    ·replace hz37:=Zt c40 hz37
     refine Zbp (Zzz (Zzx [])) c40 ?_
     refine zG ?_
     exact Gd hz37 c40
    replace hz37:=Zs c40 hz37
    rcases Bool.eq_false_or_eq_true (decide (65534 < x35.At)) with c41 | c41
    ·replace hz37:=Zt c41 hz37
     try rw [c41] at c40
     refine U9 (Zzz (Zzx [])) c40 c41 ?_
     refine zG ?_
     exact Zjl hz37 c40 c41
    replace hz37:=Zs c41 hz37
    try rw [c41] at c40
    rcases Bool.eq_false_or_eq_true (x35.E.Kind == 0) with c42 | c42
    ·replace hz37:=Zt c42 hz37
     try rw [c42] at c40
     try rw [c42] at c41
     refine Zfz (Zzz (Zzx [])) c40 c41 c42 ?_
     refine zG ?_
     exact Zjm hz37 c40 c41 c42
    replace hz37:=Zs c42 hz37
    try rw [c42] at c40
    try rw [c42] at c41
    obtain ⟨y39,hy39,hz37⟩:=bC hz37
    refine Zfz (Zzz (Zz0 [])) c40 c41 c42 ?_
    refine zG ?_
    refine (Zbx hy39).then ?_
    refine zX3 c40 c41 c42 ?_
    refine zG ?_
    exact Zjm hz37 c40 c41 c42
   refine Zp (t:=z37) rfl (fun c43 => ?_) (fun c43 => ?_)
   ·replace hs1_:=Zt c43 hs1_
    refine zQ [4] ?_
    refine zW ?_
    exact zEy hs1_
   replace hs1_:=Zs c43 hs1_
   refine Ky [1,2,8,9] [true,true] ?_
   refine zRd [1,2,5,8] [true,false] ?_
   refine zR ?_
   exact zEn hs1_
  replace hs1_:=Zs c44 hs1_
  exact zEx hs1_
 rcases z45 with z45 | z45
 ·dsimp only [Ql] at hw h
  refine Kh hw ?_
  try simp only [Y1,Yc,↓reduceIte,Nat.reduceEqDiff]
  exact Zk7 [(vB false)]
 dsimp only [Ql] at hw h
 refine Yo hw ?_
 try simp only [Y1,Yc,↓reduceIte,Nat.reduceEqDiff]
 refine zDs [1,2] [true] ?_
 refine zQD [1,2,186] [none,none,none,none,none,none,none,none] ?_
 refine Zp (t:=(cond (a0.Kind == 3) (cond (decide (a0.List_ < 2)) true (decide (9 < a0.List_))) false)) rfl (fun c55 => ?_) (fun c55 => ?_)
 ·replace h:=Zt c55 h
  refine zQ [4] ?_
  exact Y9 [(vB false)]
 replace h:=Zs c55 h
 refine Ky [1,2] [true] ?_
 refine Zk ?_
 refine zQd [1,2,10] [1,2,10] [true] ?_
 obtain ⟨z52,hz52,h⟩:=bC h
 refine Zbu (J:=(Ql (fun z52=>JR n (⟨216,[],[(4,(vB false))]⟩:Env) (Zq O n [none]) (n+1)) (fun z52=>JX 4 n (⟨216,[],[(2,.ref n 0)]⟩:Env) (Zq O n [some ⟨false,30,11,1,(Ze a0)⟩]) (n+1)))) (z:=z52) ?_ fun hw => ?_
 ·refine Y2 hz52 (fun s2_=>⟨216,[],[(1,(vI a1)),(2,.ref n 0),(10,(vI s2_))]⟩) (fun s2_=>(Zq O n [some ⟨false,30,11,1,(Ze a0)⟩])) (Ql (fun z52=>JR n (⟨216,[],[(4,(vB false))]⟩:Env) (Zq O n [none]) (n+1)) (fun z52=>JX 4 n (⟨216,[],[(2,.ref n 0)]⟩:Env) (Zq O n [some ⟨false,30,11,1,(Ze a0)⟩]) (n+1))) ?_
  intro s2_ x2_ hs2_
  unfold Qm at hs2_
  try dsimp only
  refine Zk ?_
  refine zQ [1,2,10,191] ?_
  refine Zp (t:=(decide (s2_ < (a0.Ops.length:Int)))) rfl (fun c51 => ?_) (fun c51 => ?_)
  ·replace hs2_:=Zt c51 hs2_
   refine Ky [1,2,10] [true] ?_
   refine Zk ?_
   refine Yd ?_
   refine Zk ?_
   obtain ⟨x48,hx48,ax48,bx48,cx48,hs2_⟩:=bE (f:=Zd) Zbm (fun _=>rfl) (by decide) hs2_
   obtain ⟨y49,hy49,hs2_⟩:=bC hs2_
   refine Kx Z0 (by kernel_rfl) [] (by kernel_rfl) ?_
   refine zF3 ax48 bx48 cx48 ?_
   refine PCall.of (Zil hy49) ?_
   refine zF3 ax48 bx48 cx48 ?_
   refine zD [1,2,10,204] [true] ?_
   refine Zp (t:=(!y49)) rfl (fun c50 => ?_) (fun c50 => ?_)
   ·replace hs2_:=Zt c50 hs2_
    refine zQ [4] ?_
    refine zW ?_
    exact zEy hs2_
   replace hs2_:=Zs c50 hs2_
   refine Ky [1,2,10] [true] ?_
   refine zR ?_
   exact zEn hs2_
  replace hs2_:=Zs c51 hs2_
  exact zEx hs2_
 rcases z52 with z52 | z52
 ·dsimp only [Ql] at hw h
  refine Kh hw ?_
  try simp only [Y1,Yc,↓reduceIte,Nat.reduceEqDiff]
  exact Zk7 [(vB false)]
 dsimp only [Ql] at hw h
 refine Yo hw ?_
 try simp only [Y1,Yc,↓reduceIte,Nat.reduceEqDiff]
 refine zDs [2] [true] ?_
 obtain ⟨y54,hy54,h⟩:=bC h
 refine zCd (Zf5 hy54) [11,12] [false] ?_
 refine zQD [4] [none,none] ?_
 exact Y9 [(vB (cond (decide (y54.1 < 1048576)) (decide (y54.2 < 1048576)) false))]
theorem Zpu {Xd:(Zc→Int→Option Bool)} {X6:(Int→Zl→Int→Option Bool)} (Zbx:Zbw Xd) (Zil:Zey X6) {a0:Int} {a1:Zl} {a2:Int} {r:Bool} {O:Objs} {n:Nat} (h:Zbf Xd X6 a0 a1 a2=some r):GTo Try.prog 28 [(vI a0),.agg (Yy a1),(vI a2)] O n ((vB r)) O n:=by
 unfold Zbf at h
 refine zFn Try.call28 Try.func28 fun hU hN0 hN => ?_
 show W _ _ _ _ ⟨121,[],[(0,(vI a0)),(1,.agg (Yy a1)),(2,(vI a2))]⟩ (Zq O n []) _
 refine zQ [0,2,4] ?_
 refine Zk ?_
 refine zQ [0,2,4,10] ?_
 refine Zp (t:=(a1.Kind == 0)) rfl (fun c30 => ?_) (fun c30 => ?_)
 ·replace h:=Zt c30 h
  obtain ⟨z2,hz2,h⟩:=bC h
  refine Xe (E':=⟨121,[],[(6,(vB z2))]⟩) (O':=(Zq O n [none])) (n0:=(n+1)) ?_ ?_
  ·rcases Bool.eq_false_or_eq_true (decide (1≤a1.N)) with c5 | c5
   ·replace hz2:=Zt c5 hz2
    rcases Bool.eq_false_or_eq_true (decide (a1.N≤1048576)) with c6 | c6
    ·replace hz2:=Zt c6 hz2
     try rw [c6] at c5
     rcases Bool.eq_false_or_eq_true ((a1.L.length:Int) == 0) with c7 | c7
     ·replace hz2:=Zt c7 hz2
      try rw [c7] at c5
      try rw [c7] at c6
      obtain ⟨y4,hy4,hz2⟩:=bC hz2
      refine Zfz (Zzz (Z8r [])) c5 c6 c7 ?_
      refine zG ?_
      refine (Zik hy4).then ?_
      refine zX3 c5 c6 c7 ?_
      refine zG ?_
      exact Zjm hz2 c5 c6 c7
     replace hz2:=Zs c7 hz2
     try rw [c7] at c5
     try rw [c7] at c6
     refine Zfz (Zzz (Z41 [])) c5 c6 c7 ?_
     refine zG ?_
     exact Zjm hz2 c5 c6 c7
    replace hz2:=Zs c6 hz2
    try rw [c6] at c5
    refine U9 (Zzz (Z41 [])) c5 c6 ?_
    refine zG ?_
    exact Zjl hz2 c5 c6
   replace hz2:=Zs c5 hz2
   refine Zbp (Zzz (Z41 [])) c5 ?_
   refine zG ?_
   exact Gd hz2 c5
  exact Y9 [(vB z2)]
 replace h:=Zs c30 h
 refine Ky [0,2,4] [true] ?_
 refine Zk ?_
 refine zQD [0,2,4,42] [none,none,none,none,none,none] ?_
 refine Zp (t:=(cond (cond (a1.N != 0) true (decide (a1.Kind < 0))) true (decide (3 < a1.Kind)))) rfl (fun c29 => ?_) (fun c29 => ?_)
 ·replace h:=Zt c29 h
  refine zQ [6] ?_
  exact Y9 [(vB false)]
 replace h:=Zs c29 h
 refine Ky [0,2,4] [true] ?_
 refine Zk ?_
 refine zQ [0,2,4,45] ?_
 refine Zp (t:=(decide (a1.Kind < 3))) rfl (fun c28 => ?_) (fun c28 => ?_)
 ·replace h:=Zt c28 h
  refine Zk ?_
  refine zQd [0,4,7] [0,4,7] [true] ?_
  obtain ⟨z14,hz14,h⟩:=bC h
  refine Zbu (J:=(Ql (fun z14=>JR n (⟨121,[],[(6,(vB false))]⟩:Env) (Zq O n [none]) (n+1)) (fun z14=>JX 0 n (⟨121,[],[(4,.ref n 0)]⟩:Env) (Zq O n [some ⟨false,46,14,1,(Yy a1)⟩]) (n+1)))) (z:=z14) ?_ fun hw => ?_
  ·refine Y2 hz14 (fun s0_=>⟨121,[],[(0,(vI a0)),(4,.ref n 0),(7,(vI s0_))]⟩) (fun s0_=>(Zq O n [some ⟨false,46,14,1,(Yy a1)⟩])) (Ql (fun z14=>JR n (⟨121,[],[(6,(vB false))]⟩:Env) (Zq O n [none]) (n+1)) (fun z14=>JX 0 n (⟨121,[],[(4,.ref n 0)]⟩:Env) (Zq O n [some ⟨false,46,14,1,(Yy a1)⟩]) (n+1))) ?_
   intro s0_ x0_ hs0_
   unfold Ux at hs0_
   try dsimp only
   refine Zk ?_
   refine zQ [0,4,7,50] ?_
   refine Zp (t:=(decide (s0_ < (a1.L.length:Int)))) rfl (fun c13 => ?_) (fun c13 => ?_)
   ·replace hs0_:=Zt c13 hs0_
    refine Ky [0,4,7] [true] ?_
    refine Zk ?_
    refine Yd ?_
    refine Zk ?_
    obtain ⟨l10,al10,bl10,cl10,gl10,hs0_⟩:=bS (lo:=(some (.i64,s0_))) (hi:=(some (.i64,(IntKind.i64.wrap (s0_+1))))) (f:=Za) rfl rfl Zeq Ug (fun _=>rfl) hs0_
    obtain ⟨y11,hy11,hs0_⟩:=bC hs0_
    refine Z76 [] al10 bl10 cl10 gl10 ?_
    refine GCalls.argsW ?_ ((Uf hy11).then ?_)
    ·exact Yk2 al10 bl10 cl10 gl10
    refine zX4 al10 bl10 cl10 gl10 ?_
    refine zD [0,4,7,62] [true] ?_
    refine Zp (t:=(!y11)) rfl (fun c12 => ?_) (fun c12 => ?_)
    ·replace hs0_:=Zt c12 hs0_
     refine zQ [6] ?_
     refine zW ?_
     exact zEy hs0_
    replace hs0_:=Zs c12 hs0_
    refine Ky [0,4,7] [true] ?_
    refine zR ?_
    exact zEn hs0_
   replace hs0_:=Zs c13 hs0_
   exact zEx hs0_
  rcases z14 with z14 | z14
  ·dsimp only [Ql] at hw h
   refine Kh hw ?_
   try simp only [Y1,Yc,↓reduceIte,Nat.reduceEqDiff]
   exact Zk7 [(vB false)]
  dsimp only [Ql] at hw h
  refine Yo hw ?_
  try simp only [Y1,Yc,↓reduceIte,Nat.reduceEqDiff]
  refine zD [4] [true] ?_
  obtain ⟨z16,hz16,h⟩:=bC h
  refine Xe (E':=⟨121,[],[(6,(vB z16))]⟩) (O':=(Zq O n [none])) (n0:=(n+1)) ?_ ?_
  ·rcases Bool.eq_false_or_eq_true (decide (0 < (a1.L.length:Int))) with c19 | c19
   ·replace hz16:=Zt c19 hz16
    obtain ⟨y18,hy18,hz16⟩:=bC hz16
    refine Zbp (Z8r []) c19 ?_
    refine (Zik hy18).then ?_
    refine zX1 c19 ?_
    exact Gd hz16 c19
   replace hz16:=Zs c19 hz16
   refine Zbp (Z41 []) c19 ?_
   exact Gd hz16 c19
  exact Y9 [(vB z16)]
 replace h:=Zs c28 h
 refine Ky [0,2,4] [true] ?_
 refine Zk ?_
 obtain ⟨z21,hz21,h⟩:=bC h
 refine Xe (E':=⟨121,[],[(0,(vI a0)),(4,.ref n 0),(92,(vB z21))]⟩) (O':=(Zq O n [some ⟨false,46,14,1,(Yy a1)⟩])) (n0:=(n+1)) ?_ ?_
 ·rcases Bool.eq_false_or_eq_true (decide (0 < (a1.L.length:Int))) with c24 | c24
  ·replace hz21:=Zt c24 hz21
   refine Zbp (Zzy (Yar [])) c24 ?_
   refine zG ?_
   exact Gd hz21 c24
  replace hz21:=Zs c24 hz21
  rcases Bool.eq_false_or_eq_true (a1.E.Kind == 0) with c25 | c25
  ·replace hz21:=Zt c25 hz21
   try rw [c25] at c24
   refine U9 (Zzy (Yar [])) c24 c25 ?_
   refine zG ?_
   exact Zjl hz21 c24 c25
  replace hz21:=Zs c25 hz21
  try rw [c25] at c24
  rcases Bool.eq_false_or_eq_true (decide (a0≤7)) with c26 | c26
  ·replace hz21:=Zt c26 hz21
   try rw [c26] at c24
   try rw [c26] at c25
   refine Zfz (Zzy (Yar [])) c24 c25 c26 ?_
   refine zG ?_
   exact Zjm hz21 c24 c25 c26
  replace hz21:=Zs c26 hz21
  try rw [c26] at c24
  try rw [c26] at c25
  obtain ⟨y23,hy23,hz21⟩:=bC hz21
  refine Zfz (Zzy (Yhx [])) c24 c25 c26 ?_
  refine zG ?_
  refine (Zbx hy23).then ?_
  refine zX3 c24 c25 c26 ?_
  refine zG ?_
  exact Zjm hz21 c24 c25 c26
 refine Zp (t:=z21) rfl (fun c27 => ?_) (fun c27 => ?_)
 ·replace h:=Zt c27 h
  refine zQ [6] ?_
  exact Y9 [(vB false)]
 replace h:=Zs c27 h
 refine Ky [0,4] [true] ?_
 refine zQD [6] [none,none,none,none,none,none,none,none,none,none,none,none,none,none,none,none,none,none,none,none,none,none] ?_
 exact Y9 [(vB (cond (cond (a0 == 8) true (a1.E.Kind == 2)) true (cond (cond (a1.E.Kind == 1) (a1.E.Old.Kind == 1) false) (a1.E.New.Kind == 1) false)))]
theorem Zkr:∀ k,(Zbw ((Yk k).1))∧(Zey ((Yk k).2)):=fun k=>by
 induction k with
 | zero=>exact ⟨@fun a0 a1 r O n h=>(nomatch (show (none:Option _)=some _ from h)),@fun a0 a1 a2 r O n h=>(nomatch (show (none:Option _)=some _ from h))⟩
 | succ k ih=>exact ⟨@fun a0 a1 r O n h=>Zmf (ih.1) (ih.2)  h,@fun a0 a1 a2 r O n h=>Zpu (ih.1) (ih.2)  h⟩
theorem Zh1 {a0:Zc} {a1:Int} {r:Bool} {O:Objs} {n:Nat} (h:Zex a0 a1=some r):GTo Try.prog 13 [.agg (Ze a0),(vI a1)] O n ((vB r)) O n:=by
 obtain ⟨k,hk⟩:=Gt h
 exact (Zkr k).1  hk
def Zf3 (Xo:(Zc→Option Bool)):Prop:=∀ {a0:Zc} {r:Bool} {O:Objs} {n:Nat},Xo a0=some r→GTo Try.prog 14 [.agg (Ze a0)] O n ((vB r)) O n
theorem Zme {Xo:(Zc→Option Bool)} (Zf8:Zf3 Xo) {a0:Zc} {r:Bool} {O:Objs} {n:Nat} (h:Uv Xo a0=some r):GTo Try.prog 14 [.agg (Ze a0)] O n ((vB r)) O n:=by
 unfold Uv at h
 refine zFn Try.call14 Try.func14 fun hU hN0 hN => ?_
 show W _ _ _ _ ⟨48,[],[(0,.agg (Ze a0))]⟩ (Zq O n []) _
 refine zQ [1] ?_
 refine Zk ?_
 obtain ⟨y2,hy2,h⟩:=bC h
 refine zCd (Zf5 hy2) [1,3,4] [true] ?_
 refine Zk ?_
 refine zQD [1,17] [none,none] ?_
 refine Zp (t:=(cond (decide (2000 < y2.1)) true (decide (2000 < y2.2)))) rfl (fun c21 => ?_) (fun c21 => ?_)
 ·replace h:=Zt c21 h
  refine zQ [2] ?_
  exact Y9 [(vB false)]
 replace h:=Zs c21 h
 refine Ky [1] [true] ?_
 refine Zk ?_
 refine zQd [1,5] [1,5] [true] ?_
 obtain ⟨z11,hz11,h⟩:=bC h
 refine Zbu (J:=(Ql (fun z11=>JR n (⟨48,[],[(2,(vB false))]⟩:Env) (Zq O n [none]) (n+1)) (fun z11=>JX 0 n (⟨48,[],[(1,.ref n 0)]⟩:Env) (Zq O n [some ⟨false,30,11,1,(Ze a0)⟩]) (n+1)))) (z:=z11) ?_ fun hw => ?_
 ·refine Y2 hz11 (fun s0_=>⟨48,[],[(1,.ref n 0),(5,(vI s0_))]⟩) (fun s0_=>(Zq O n [some ⟨false,30,11,1,(Ze a0)⟩])) (Ql (fun z11=>JR n (⟨48,[],[(2,(vB false))]⟩:Env) (Zq O n [none]) (n+1)) (fun z11=>JX 0 n (⟨48,[],[(1,.ref n 0)]⟩:Env) (Zq O n [some ⟨false,30,11,1,(Ze a0)⟩]) (n+1))) ?_
  intro s0_ x0_ hs0_
  unfold K2 at hs0_
  try dsimp only
  refine Zk ?_
  refine zQ [1,5,22] ?_
  refine Zp (t:=(decide (s0_ < (a0.Kids.length:Int)))) rfl (fun c10 => ?_) (fun c10 => ?_)
  ·replace hs0_:=Zt c10 hs0_
   refine Ky [1,5] [true] ?_
   refine Zk ?_
   refine Yd ?_
   refine Zk ?_
   obtain ⟨x6,hx6,ax6,bx6,cx6,hs0_⟩:=bE (f:=Zh) Znt (fun _=>rfl) (by decide) hs0_
   have g7:=Gh (f:=Zh) (off:=1) (sz:=12) Ziy (fun _=>rfl) (by decide) (by decide) hx6
   obtain ⟨y8,hy8,hs0_⟩:=bC hs0_
   refine Zqb [] ax6 bx6 cx6 g7 ?_
   refine (Zf8 hy8).then ?_
   refine zF4 ax6 bx6 cx6 g7 ?_
   refine zD [1,5,32] [true] ?_
   refine Zp (t:=(!y8)) rfl (fun c9 => ?_) (fun c9 => ?_)
   ·replace hs0_:=Zt c9 hs0_
    refine zQ [2] ?_
    refine zW ?_
    exact zEy hs0_
   replace hs0_:=Zs c9 hs0_
   refine Ky [1,5] [true] ?_
   refine zR ?_
   exact zEn hs0_
  replace hs0_:=Zs c10 hs0_
  exact zEx hs0_
 rcases z11 with z11 | z11
 ·dsimp only [Ql] at hw h
  refine Kh hw ?_
  try simp only [Y1,Yc,↓reduceIte,Nat.reduceEqDiff]
  exact Zk7 [(vB false)]
 dsimp only [Ql] at hw h
 refine Yo hw ?_
 try simp only [Y1,Yc,↓reduceIte,Nat.reduceEqDiff]
 refine zDs [1] [true] ?_
 refine zQd [1,6] [1,6] [true] ?_
 obtain ⟨z20,hz20,h⟩:=bC h
 refine Zbu (J:=(Ql (fun z20=>JR n (⟨48,[],[(2,(vB false))]⟩:Env) (Zq O n [none]) (n+1)) (fun z20=>JX 2 n (⟨48,[],[]⟩:Env) (Zq O n [none]) (n+1)))) (z:=z20) ?_ fun hw => ?_
 ·refine Y2 hz20 (fun s1_=>⟨48,[],[(1,.ref n 0),(6,(vI s1_))]⟩) (fun s1_=>(Zq O n [some ⟨false,30,11,1,(Ze a0)⟩])) (Ql (fun z20=>JR n (⟨48,[],[(2,(vB false))]⟩:Env) (Zq O n [none]) (n+1)) (fun z20=>JX 2 n (⟨48,[],[]⟩:Env) (Zq O n [none]) (n+1))) ?_
  intro s1_ x1_ hs1_
  unfold K3 at hs1_
  try dsimp only
  refine Zk ?_
  refine zQ [1,6,37] ?_
  refine Zp (t:=(decide (s1_ < (a0.Ops.length:Int)))) rfl (fun c19 => ?_) (fun c19 => ?_)
  ·replace hs1_:=Zt c19 hs1_
   refine Ky [1,6] [true] ?_
   refine Zk ?_
   refine Yd ?_
   refine Zk ?_
   obtain ⟨x15,hx15,ax15,bx15,cx15,hs1_⟩:=bE (f:=Zd) Zbm (fun _=>rfl) (by decide) hs1_
   have g16:=Gh (f:=Zd) (off:=3) (sz:=14) Ziy (fun _=>rfl) (by decide) (by decide) hx15
   obtain ⟨y17,hy17,hs1_⟩:=bC hs1_
   refine Zqb [] ax15 bx15 cx15 g16 ?_
   refine (Zf8 hy17).then ?_
   refine zF4 ax15 bx15 cx15 g16 ?_
   refine zD [1,6,47] [true] ?_
   refine Zp (t:=(!y17)) rfl (fun c18 => ?_) (fun c18 => ?_)
   ·replace hs1_:=Zt c18 hs1_
    refine zQ [2] ?_
    refine zW ?_
    exact zEy hs1_
   replace hs1_:=Zs c18 hs1_
   refine Ky [1,6] [true] ?_
   refine zR ?_
   exact zEn hs1_
  replace hs1_:=Zs c19 hs1_
  exact zEx hs1_
 rcases z20 with z20 | z20
 ·dsimp only [Ql] at hw h
  refine Kh hw ?_
  try simp only [Y1,Yc,↓reduceIte,Nat.reduceEqDiff]
  exact Zk7 [(vB false)]
 dsimp only [Ql] at hw h
 refine Yo hw ?_
 try simp only [Y1,Yc,↓reduceIte,Nat.reduceEqDiff]
 refine zD [] [false] ?_
 refine zQ [2] ?_
 exact Y9 [(vB true)]
theorem Zkq:∀ k,(Zf3 (Je k)):=fun k=>by
 induction k with
 | zero=>exact @fun a0 r O n h=>(nomatch (show (none:Option _)=some _ from h))
 | succ k ih=>exact @fun a0 r O n h=>Zme (ih)  h
theorem Zng {a0:Zc} {r:Bool} {O:Objs} {n:Nat} (h:Zew a0=some r):GTo Try.prog 14 [.agg (Ze a0)] O n ((vB r)) O n:=by
 obtain ⟨k,hk⟩:=Gt h
 exact (Zkq k)  hk
theorem Zez {a0:Zc} {r:Bool} {O:Objs} {n:Nat} (h:Gy a0=some r):GTo Try.prog 4 [.agg (Ze a0)] O n ((vB r)) O n:=by
 unfold Gy at h
 refine zFn Try.call4 Try.func4 fun hU hN0 hN => ?_
 show W _ _ _ _ ⟨13,[],[(0,.agg (Ze a0))]⟩ (Zq O n []) _
 refine zQ [1] ?_
 obtain ⟨z4,hz4,h⟩:=bC h
 refine Xe (E':=⟨13,[],[(2,(vB z4))]⟩) (O':=(Zq O n [none])) (n0:=(n+1)) ?_ ?_
 ·obtain ⟨y8,hy8,hz4⟩:=bC hz4
  rcases Bool.eq_false_or_eq_true y8 with c11 | c11
  ·replace hz4:=Zt c11 hz4
   obtain ⟨y9,hy9,hz4⟩:=bC hz4
   rcases Bool.eq_false_or_eq_true y9 with c12 | c12
   ·replace hz4:=Zt c12 hz4
    try rw [c12] at c11
    obtain ⟨y10,hy10,hz4⟩:=bC hz4
    refine U9 (Ydz []) c11 c12 ?_
    refine (Zfl hy8).then ?_
    refine zX2 c11 c12 ?_
    refine (Zh1 hy9).then ?_
    refine zX2 c11 c12 ?_
    refine (Zng hy10).then ?_
    refine zX2 c11 c12 ?_
    exact Zjl hz4 c11 c12
   replace hz4:=Zs c12 hz4
   try rw [c12] at c11
   refine U9 (Uk::Uk::[Xt,Xt]) c11 c12 ?_
   refine (Zfl hy8).then ?_
   refine zX2 c11 c12 ?_
   refine (Zh1 hy9).then ?_
   refine zX2 c11 c12 ?_
   exact Zjl hz4 c11 c12
  replace hz4:=Zs c11 hz4
  refine Zbp (Yhp []) c11 ?_
  refine (Zfl hy8).then ?_
  refine zX1 c11 ?_
  exact Gd hz4 c11
 exact Y9 [(vB z4)]
def Zf2 (Xn:(Zc→Option Int)):Prop:=∀ {a0:Zc} {r:Int} {O:Objs} {n:Nat},Xn a0=some r→GTo Try.prog 5 [.agg (Ze a0)] O n ((vI r)) O n
theorem Zmd {Xn:(Zc→Option Int)} (Zf7:Zf2 Xn) {a0:Zc} {r:Int} {O:Objs} {n:Nat} (h:Uu Xn a0=some r):GTo Try.prog 5 [.agg (Ze a0)] O n ((vI r)) O n:=by
 unfold Uu at h
 refine zFn Try.call5 Try.func5 fun hU hN0 hN => ?_
 show W _ _ _ _ ⟨54,[],[(0,.agg (Ze a0))]⟩ (Zq O n []) _
 refine zQ [1] ?_
 refine zQ [1,3] ?_
 refine Zk ?_
 refine zQd [1,3,4] [1,3,4] [true] ?_
 obtain ⟨z5,hz5,h⟩:=bC h
 refine Yo (E':=⟨54,[],[(1,.ref n 0),(3,(vI z5))]⟩) (O':=(Zq O n [some ⟨false,30,11,1,(Ze a0)⟩])) (n0:=(n+1)) ?_ ?_
 ·refine Y2 hz5 (fun s0_=>⟨54,[],[(1,.ref n 0),(3,(vI s0_.1)),(4,(vI s0_.2))]⟩) (fun s0_=>(Zq O n [some ⟨false,30,11,1,(Ze a0)⟩])) (fun z5=>JX 0 n (⟨54,[],[(1,.ref n 0),(3,(vI z5))]⟩:Env) (Zq O n [some ⟨false,30,11,1,(Ze a0)⟩]) (n+1)) ?_
  intro s0_ x0_ hs0_
  unfold K0 at hs0_
  try dsimp only
  refine Zk ?_
  refine zQ [1,3,4,18] ?_
  refine Zp (t:=(decide (s0_.2 < (a0.Kids.length:Int)))) rfl (fun c4 => ?_) (fun c4 => ?_)
  ·replace hs0_:=Zt c4 hs0_
   refine Ky [1,3,4] [true] ?_
   refine Zk ?_
   refine Yd ?_
   obtain ⟨x1,hx1,ax1,bx1,cx1,hs0_⟩:=bE (f:=Zh) Znt (fun _=>rfl) (by decide) hs0_
   have g2:=Gh (f:=Zh) (off:=1) (sz:=12) Ziy (fun _=>rfl) (by decide) (by decide) hx1
   obtain ⟨y3,hy3,hs0_⟩:=bC hs0_
   refine Zqb [] ax1 bx1 cx1 g2 ?_
   refine (Zf7 hy3).then ?_
   refine zF4 ax1 bx1 cx1 g2 ?_
   refine zD [1,3,4] [true] ?_
   refine zR ?_
   exact zEn hs0_
  replace hs0_:=Zs c4 hs0_
  exact zEx hs0_
 try simp only [Y1,Yc,↓reduceIte,Nat.reduceEqDiff]
 refine zDs [1,3] [true] ?_
 refine zQd [1,3,5] [1,3,5] [true] ?_
 obtain ⟨z16,hz16,h⟩:=bC h
 refine Yo (E':=⟨54,[],[(3,(vI z16))]⟩) (O':=(Zq O n [none])) (n0:=(n+1)) ?_ ?_
 ·refine Y2 hz16 (fun s1_=>⟨54,[],[(1,.ref n 0),(3,(vI s1_.1)),(5,(vI s1_.2))]⟩) (fun s1_=>(Zq O n [some ⟨false,30,11,1,(Ze a0)⟩])) (fun z16=>JX 2 n (⟨54,[],[(3,(vI z16))]⟩:Env) (Zq O n [none]) (n+1)) ?_
  intro s1_ x1_ hs1_
  unfold K1 at hs1_
  try dsimp only
  refine Zk ?_
  refine zQ [1,3,5,34] ?_
  refine Zp (t:=(decide (s1_.2 < (a0.Ops.length:Int)))) rfl (fun c15 => ?_) (fun c15 => ?_)
  ·replace hs1_:=Zt c15 hs1_
   refine Ky [1,3,5] [true] ?_
   obtain ⟨z6,hz6,hs1_⟩:=bC hs1_
   refine Xe (E':=⟨54,[],[(1,.ref n 0),(3,(vI z6)),(5,(vI s1_.2))]⟩) (O':=(Zq O n [some ⟨false,30,11,1,(Ze a0)⟩])) (n0:=(n+1)) ?_ ?_
   ·refine Yd ?_
    obtain ⟨x9,hx9,ax9,bx9,cx9,hz6⟩:=bE (f:=Zd) Zbm (fun _=>rfl) (by decide) hz6
    have g10:=Zkl (f:=Zd) (sz:=14) Z3r (fun _=>rfl) (by decide) (by decide) hx9
    refine Zlm [1,3,5,43] (Yp Z0 [] ?_)
    refine zF4 ax9 bx9 cx9 g10 ?_
    refine Zp (t:=(x9.Kind == 3)) rfl (fun c14 => ?_) (fun c14 => ?_)
    ·replace hz6:=Zt c14 hz6
     obtain ⟨x11,hx11,ax11,bx11,cx11,hz6⟩:=bE (f:=Zd) Zbm (fun _=>rfl) (by decide) hz6
     have g12:=Gh (f:=Zd) (off:=3) (sz:=14) Ziy (fun _=>rfl) (by decide) (by decide) hx11
     obtain ⟨y13,hy13,hz6⟩:=bC hz6
     refine Zqb [] ax11 bx11 cx11 g12 ?_
     refine (Zf7 hy13).then ?_
     refine zF4 ax11 bx11 cx11 g12 ?_
     exact Z73 hz6 ax11 bx11 cx11 g12
    replace hz6:=Zs c14 hz6
    refine zK ?_
    exact zEn hz6
   refine zR ?_
   exact zEn hs1_
  replace hs1_:=Zs c15 hs1_
  exact zEx hs1_
 try simp only [Y1,Yc,↓reduceIte,Nat.reduceEqDiff]
 refine zD [3] [false] ?_
 refine zQ [2] ?_
 exact Y9 [(vI z16)]
theorem Zkp:∀ k,(Zf2 (Jd k)):=fun k=>by
 induction k with
 | zero=>exact @fun a0 r O n h=>(nomatch (show (none:Option _)=some _ from h))
 | succ k ih=>exact @fun a0 r O n h=>Zmd (ih)  h
theorem Zh0 {a0:Zc} {r:Int} {O:Objs} {n:Nat} (h:Zev a0=some r):GTo Try.prog 5 [.agg (Ze a0)] O n ((vI r)) O n:=by
 obtain ⟨k,hk⟩:=Gt h
 exact (Zkp k)  hk
theorem Zji {a0:Zb} {r:Bool} {O:Objs} {n:Nat} (h:Zar a0=some r):GTo Try.prog 15 [.agg (Zg a0)] O n ((vB r)) O n:=by
 unfold Zar at h
 refine zFn Try.call15 Try.func15 fun hU hN0 hN => ?_
 show W _ _ _ _ ⟨6,[],[(0,.agg (Zg a0))]⟩ (Zq O n []) _
 refine zQ [1] ?_
 refine Zk ?_
 obtain ⟨y2,hy2,h⟩:=bC h
 refine zCd (Gb hy2) [2] [false] ?_
 exact Y9 [(vB (decide (0≤y2)))]
theorem Zih {a0:Zb} {r:Bool} {O:Objs} {n:Nat} (h:Vv a0=some r):GTo Try.prog 6 [.agg (Zg a0)] O n ((vB r)) O n:=by
 unfold Vv at h
 refine zFn Try.call6 Try.func6 fun hU hN0 hN => ?_
 show W _ _ _ _ ⟨14,[],[(0,.agg (Zg a0))]⟩ (Zq O n []) _
 refine zQ [1] ?_
 obtain ⟨z3,hz3,h⟩:=bC h
 refine Xe (E':=⟨14,[],[(2,(vB z3))]⟩) (O':=(Zq O n [none])) (n0:=(n+1)) ?_ ?_
 ·obtain ⟨y6,hy6,hz3⟩:=bC hz3
  rcases Bool.eq_false_or_eq_true y6 with c8 | c8
  ·replace hz3:=Zt c8 hz3
   obtain ⟨y7,hy7,hz3⟩:=bC hz3
   refine Zbp (Uk::Uk::Z42 []) c8 ?_
   refine zG ?_
   refine (Zji hy6).then ?_
   refine zX1 c8 ?_
   refine zG ?_
   refine (Uf hy7).then ?_
   refine zX1 c8 ?_
   refine zG ?_
   exact Gd hz3 c8
  replace hz3:=Zs c8 hz3
  refine Zbp (Yar []) c8 ?_
  refine (Zji hy6).then ?_
  refine zX1 c8 ?_
  exact Gd hz3 c8
 exact Y9 [(vB z3)]
theorem Zf4 {a0:Int} {r:(List Zb)} {O:Objs} {n:Nat} (h:J4 a0=some r):GTo Try.prog 17 [.val (.int .u64 a0)] O n ((sL Za r)) O n:=by
 unfold J4 at h
 refine zFn Try.call17 Try.func17 fun hU hN0 hN => ?_
 show W _ _ _ _ ⟨7,[],[(0,.val (.int .u64 a0))]⟩ (Zq O n []) _
 refine zQ [0] ?_
 refine Zk ?_
 refine zR ?_
 refine Zdy ⟨7,[],[(2,.row (n+1) ([(⟨10,([a0]:List Int),([]:(List Zb))⟩:Zb)]:List Zb).length)]⟩ (Zq O n [none,some (oR 25 3 Za ([(⟨10,([a0]:List Int),([]:(List Zb))⟩:Zb)]:List Zb))]) (Z9 hU rfl rfl ?_) ?_
 ·exact zSe
 exact Y9 [.row (n+1) ([(⟨10,([a0]:List Int),([]:(List Zb))⟩:Zb)]:List Zb).length]
theorem G3 {a0:(List Int)} {r:(List Int)} {O:Objs} {n:Nat} (h:Vc a0=some r):GTo Try.prog 40 [(sL (eI .u64) a0)] O n ((sL (eI .u64) r)) O n:=by
 unfold Vc at h
 refine zFn Try.call40 Try.func40 fun hU hN0 hN => ?_
 show W _ _ _ _ ⟨22,[],[(0,(sL (eI .u64) a0))]⟩ (Zq O n []) _
 refine zQ [0] ?_
 refine zQ [0,3] ?_
 refine Zk ?_
 refine zD [0,3] [] ?_
 obtain ⟨z7,hz7,h⟩:=bC h
 refine Yo (E':=⟨22,[],[(0,(sL (eI .u64) a0)),(3,(vI z7))]⟩) (O':=(Zq O n [])) (n0:=n) ?_ ?_
 ·refine Y2 hz7 (fun s0_=>⟨22,[],[(0,(sL (eI .u64) a0)),(3,(vI s0_))]⟩) (fun s0_=>(Zq O n [])) (fun z7=>JX 0 n (⟨22,[],[(0,(sL (eI .u64) a0)),(3,(vI z7))]⟩:Env) (Zq O n []) n) ?_
  intro s0_ x0_ hs0_
  unfold Ud at hs0_
  try dsimp only
  refine Zk ?_
  obtain ⟨z2,hz2,hs0_⟩:=bC hs0_
  refine Xe (E':=⟨22,[],[(0,(sL (eI .u64) a0)),(3,(vI s0_)),(15,(vB z2))]⟩) (O':=(Zq O n [])) (n0:=n) ?_ ?_
  ·rcases Bool.eq_false_or_eq_true (decide (0 < s0_)) with c5 | c5
   ·replace hz2:=Zt c5 hz2
    obtain ⟨x4,hx4,ax4,bx4,cx4,hz2⟩:=bE (f:=(eI .u64)) Ziz (fun _=>rfl) (by decide) hz2
    refine Zqb (Zz0 []) c5 ax4 bx4 cx4 ?_
    exact Z73 hz2 c5 ax4 bx4 cx4
   replace hz2:=Zs c5 hz2
   refine Zbp (Zzx []) c5 ?_
   exact Gd hz2 c5
  refine Zp (t:=z2) rfl (fun c6 => ?_) (fun c6 => ?_)
  ·replace hs0_:=Zt c6 hs0_
   refine Ky [0,3] [] ?_
   refine Yd ?_
   refine zR ?_
   exact zEn hs0_
  replace hs0_:=Zs c6 hs0_
  exact zEx hs0_
 try simp only [Y1,Yc,↓reduceIte,Nat.reduceEqDiff]
 refine zD [0,3] [] ?_
 obtain ⟨l9,al9,bl9,cl9,gl9,h⟩:=bS3 (lo:=none) (hi:=(.i64,z7)) (f:=(eI .u64)) rfl rfl Zp9 Ziz (fun _=>rfl) h
 refine Yjh [2] al9 bl9 cl9 gl9 ?_
 exact Y9 [(sL (eI .u64) l9)]
theorem Zgk {a0:(List Zb)} {r:(List Zb)} {O:Objs} {n:Nat} (h:V7 a0=some r):GTo Try.prog 41 [(sL Za a0)] O n ((sL Za r)) O n:=by
 unfold V7 at h
 refine zFn Try.call41 Try.func41 fun hU hN0 hN => ?_
 show W _ _ _ _ ⟨23,[],[(0,(sL Za a0))]⟩ (Zq O n []) _
 refine zQ [0] ?_
 refine zQ [0,3] ?_
 refine Zk ?_
 refine zD [0,3] [] ?_
 obtain ⟨z10,hz10,h⟩:=bC h
 refine Yo (E':=⟨23,[],[(0,(sL Za a0)),(3,(vI z10))]⟩) (O':=(Zq O n [])) (n0:=n) ?_ ?_
 ·refine Y2 hz10 (fun s0_=>⟨23,[],[(0,(sL Za a0)),(3,(vI s0_))]⟩) (fun s0_=>(Zq O n [])) (fun z10=>JX 0 n (⟨23,[],[(0,(sL Za a0)),(3,(vI z10))]⟩:Env) (Zq O n []) n) ?_
  intro s0_ x0_ hs0_
  unfold U6 at hs0_
  try dsimp only
  refine Zk ?_
  obtain ⟨z3,hz3,hs0_⟩:=bC hs0_
  refine Xe (E':=⟨23,[],[(0,(sL Za a0)),(3,(vI s0_)),(16,(vB z3))]⟩) (O':=(Zq O n [])) (n0:=n) ?_ ?_
  ·rcases Bool.eq_false_or_eq_true (decide (0 < s0_)) with c8 | c8
   ·replace hz3:=Zt c8 hz3
    obtain ⟨x6,hx6,ax6,bx6,cx6,hz3⟩:=bE (f:=Za) Ug (fun _=>rfl) (by decide) hz3
    have g7:=Zkl (f:=Za) (sz:=3) Z3r (fun _=>rfl) (by decide) (by decide) hx6
    refine Z75 (Ygg []) c8 ax6 bx6 cx6 g7 ?_
    exact Yjd hz3 c8 ax6 bx6 cx6 g7
   replace hz3:=Zs c8 hz3
   refine Zbp (Yhq []) c8 ?_
   exact Gd hz3 c8
  refine Zp (t:=z3) rfl (fun c9 => ?_) (fun c9 => ?_)
  ·replace hs0_:=Zt c9 hs0_
   refine Ky [0,3] [] ?_
   refine Yd ?_
   refine zR ?_
   exact zEn hs0_
  replace hs0_:=Zs c9 hs0_
  exact zEx hs0_
 try simp only [Y1,Yc,↓reduceIte,Nat.reduceEqDiff]
 refine zD [0,3] [] ?_
 obtain ⟨l12,al12,bl12,cl12,gl12,h⟩:=bS3 (lo:=none) (hi:=(.i64,z10)) (f:=Za) rfl rfl Zeq Ug (fun _=>rfl) h
 refine Yjh [2] al12 bl12 cl12 gl12 ?_
 exact Y9 [(sL Za l12)]
def Zl7 (Za1:(Zb→Option Zb)):Prop:=∀ {a0:Zb} {r:Zb} {O:Objs} {n:Nat},Za1 a0=some r→GTo Try.prog 22 [.agg (Zg a0)] O n (.agg (Zg r)) O n
theorem Zxd {Za1:(Zb→Option Zb)} (Zvh:Zl7 Za1) {a0:Zb} {r:Zb} {O:Objs} {n:Nat} (h:Zg3 Za1 a0=some r):GTo Try.prog 22 [.agg (Zg a0)] O n (.agg (Zg r)) O n:=by
 unfold Zg3 at h
 refine zFn Try.call22 Try.func22 fun hU hN0 hN => ?_
 show W _ _ _ _ ⟨49,[],[(0,.agg (Zg a0))]⟩ (Zq O n []) _
 refine zQ [1,2] ?_
 refine Zk ?_
 refine zQ [1,2,10] ?_
 refine Zp (t:=(a0.Kind == 0)) rfl (fun c15 => ?_) (fun c15 => ?_)
 ·replace h:=Zt c15 h
  refine Zk ?_
  refine zRd [2] [false,true] ?_
  exact Y9 [.agg [(vI 0),nV,nV]]
 replace h:=Zs c15 h
 refine Ky [1,2] [true,true] ?_
 refine Zlm [1,2,3,4] (Kx Z0 (by kernel_rfl) [] (by kernel_rfl) ?_)
 refine zS ?_
 obtain ⟨z1,hz1,h⟩:=bC h
 refine Xe (E':=⟨49,[],[(1,.ref n 0),(2,.ref (n+1) 0),(3,(sL (eI .u64) z1.1)),(4,(sL Za z1.2))]⟩) (O':=(Zq O n [some ⟨false,25,3,1,(Zg a0)⟩,some ⟨false,25,3,1,[(vI 0),nV,nV]⟩])) (n0:=(n+2)) ?_ ?_
 ·refine zQ [1,2,3,4,18] ?_
  refine Zp (t:=(a0.Kind == 1)) rfl (fun c4 => ?_) (fun c4 => ?_)
  ·replace hz1:=Zt c4 hz1
   obtain ⟨y2,hy2,hz1⟩:=bC hz1
   obtain ⟨y3,hy3,hz1⟩:=bC hz1
   refine zC (G3 hy2) ?_
   refine zTs (Zgk hy3) ?_
   exact zEn hz1
  replace hz1:=Zs c4 hz1
  refine zK ?_
  exact zEn hz1
 refine Zk ?_
 refine zRd [2,4,5] [false,true,true] ?_
 obtain ⟨z5,hz5,h⟩:=bC h
 refine Xe (E':=⟨49,[],[(2,.ref (n+1) 0),(4,(sL Za z1.2)),(5,.ref (n+2) 0)]⟩) (O':=(Zq O n [none,some ⟨false,25,3,1,[(vI 0),nV,nV]⟩,some ⟨false,25,3,1,[(vI a0.Kind),(sL (eI .u64) z1.1),.row (n+4) z5.length]⟩,none,some (oR 25 3 Za z5),none])) (n0:=(n+6)) ?_ ?_
 ·refine zQ [2,4,5,29] ?_
  refine Zp (t:=(decide (0 < (z1.2.length:Int)))) rfl (fun c7 => ?_) (fun c7 => ?_)
  ·replace hz5:=Zt c7 hz5
   obtain ⟨l6,al6,bl6,cl6,el6,hz5⟩:=bM2 (c:=56) rfl hz5
   have nl6:Int.toNat (z1.2.length:Int)=List.length l6:=by rw [el6,List.length_replicate]
   have fl6:∀ O O' n,U8 O O' n (List.replicate (List.length l6) [.val (.int .i64 0),.val (.slice none 0 0),.val (.slice none 0 0)]).flatten (fl Za l6)=True:=fun O O' n=>by rw [← nl6,el6];exact eq_true (Z33 (by simp only [push_cast,seval,Zi]) _)
   clear el6
   refine Yp Z0 [] ?_
   simp only [push_cast,seval,Zi,al6,bl6,cl6,fl6,nl6,hN0,hN]
   obtain rfl:=sI hz5
   refine And.intro rfl ?_
   refine Fit2.trans (E':=(⟨49,[],[(2,.ref (n+1) 0),(4,(sL Za z1.2)),(5,.ref (n+2) 0)]⟩:Env)) (O':=(Zq O n [none,some ⟨false,25,3,1,[(vI 0),nV,nV]⟩,some ⟨false,25,3,1,[(vI a0.Kind),(sL (eI .u64) z1.1),.row (n+3) l6.length]⟩,some (oR 25 3 Za l6)])) (n':=(n+4)) (Fit2.of (Z9 hU rfl rfl ?_) (by omega)) ?_
   ·simp only [push_cast,seval,Zi,al6,bl6,cl6,fl6,nl6,hN0,hN]
   refine X0 (k:=4) (k':=6) hU [5,1,2,4] [0,1,2,0,3,0] rfl rfl rfl rfl ⟨rfl,rfl⟩ ?_
   exact zSe
  replace hz5:=Zs c7 hz5
  refine zK ?_
  obtain rfl:=sI hz5
  refine And.intro rfl ?_
  refine Fit2.trans (E':=(⟨49,[],[(2,.ref (n+1) 0),(4,(sL Za z1.2)),(5,.ref (n+2) 0)]⟩:Env)) (O':=(Zq O n [none,some ⟨false,25,3,1,[(vI 0),nV,nV]⟩,some ⟨false,25,3,1,[(vI a0.Kind),(sL (eI .u64) z1.1),nV]⟩])) (n':=(n+3)) (Fit2.of (Z9 hU rfl rfl ?_) (by omega)) ?_
  ·exact zSe
  refine Fit2.trans (G7 (p:=(n+2)) (k:=2) (q:=⟨false,25,3,1,[(vI a0.Kind),(sL (eI .u64) z1.1),nV]⟩) 25 3 (by simp only [Ge,Zdn,List.getElem?_cons_zero,List.getElem?_cons_succ,Option.join_some,List.length_nil,Z8]) rfl (by omega)) ?_
  simp only [Y4,Ym,Gm,V8,List.set_cons_zero,List.set_cons_succ,List.cons_append,List.nil_append,List.length_cons,List.length_nil,Nat.zero_add,Nat.reduceAdd,Nat.reduceLT,Nat.add_assoc]
  refine X0 (k:=4) (k':=6) hU [5,1,2,4] [0,1,2,0,3,0] rfl rfl rfl rfl ⟨rfl,rfl⟩ ?_
  exact zSe
 refine Zk ?_
 refine zQd [2,5,34,35,36] [2,5,34,35,36] [false,true,true,false,true,false] ?_
 obtain ⟨z14,hz14,h⟩:=bC h
 refine Yo (E':=⟨49,[],[(2,.ref (n+1) 0),(5,.ref (n+2) 0)]⟩) (O':=(Zq O n [none,some ⟨false,25,3,1,[(vI 0),nV,nV]⟩,some ⟨false,25,3,1,[(vI a0.Kind),(sL (eI .u64) z1.1),.row (n+4) z14.length]⟩,none,some (oR 25 3 Za z14),none])) (n0:=(n+6)) ?_ ?_
 ·refine Y2 hz14 (fun s0_=>⟨49,[],[(2,.ref (n+1) 0),(5,.ref (n+2) 0),(34,(sL Za z1.2)),(35,(vI (z1.2.length:Int))),(36,(vI s0_.1))]⟩) (fun s0_=>(Zq O n [none,some ⟨false,25,3,1,[(vI 0),nV,nV]⟩,some ⟨false,25,3,1,[(vI a0.Kind),(sL (eI .u64) z1.1),.row (n+4) s0_.2.length]⟩,none,some (oR 25 3 Za s0_.2),none])) (fun z14=>JX 0 n (⟨49,[],[(2,.ref (n+1) 0),(5,.ref (n+2) 0)]⟩:Env) (Zq O n [none,some ⟨false,25,3,1,[(vI 0),nV,nV]⟩,some ⟨false,25,3,1,[(vI a0.Kind),(sL (eI .u64) z1.1),.row (n+4) z14.length]⟩,none,some (oR 25 3 Za z14),none]) (n+6)) ?_
  intro s0_ x0_ hs0_
  unfold Zak at hs0_
  try dsimp only
  refine zQ [2,5,34,35,36,37] ?_
  refine Zk ?_
  refine Zp (t:=(decide (s0_.1 < (z1.2.length:Int)))) rfl (fun c13 => ?_) (fun c13 => ?_)
  ·replace hs0_:=Zt c13 hs0_
   refine Ky [2,5,34,35,36] [false,true,true,false,true,false] ?_
   refine Zk ?_
   refine Yd ?_
   refine Zk ?_
   obtain ⟨x9,hx9,ax9,bx9,cx9,hs0_⟩:=bE (f:=Za) Ug (fun _=>rfl) (by decide) hs0_
   refine Zcg [] ax9 bx9 cx9 ?_
   refine zD [2,5,6,7,34,35,36] [false,true,true,false,true,false,true] ?_
   obtain ⟨y10,hy10,hs0_⟩:=bC hs0_
   obtain ⟨x11,hx11,ax11,bx11,cx11,hs0_⟩:=bE (f:=Za) Ug (fun _=>rfl) (by decide) hs0_
   have gu12:Jq (fl Za s0_.2) [.val (.int .i64 y10.Kind),.sl y10.Words.length (fl (eI .u64) y10.Words),.sl y10.Kids.length (fl Za y10.Kids)] (Int.toNat s0_.1 * 3)=some (fl Za (Zgr s0_.2 s0_.1 y10)):=(congrArg (fun c=>Jq (fl Za s0_.2) c (Int.toNat s0_.1 * 3)) (show [.val (.int .i64 y10.Kind),.sl y10.Words.length (fl (eI .u64) y10.Words),.sl y10.Kids.length (fl Za y10.Kids)]=Za y10 from by simp only [Za,Yq,eI,eB,eS,eL])).trans (Zj6 (f:=Za) (ti:=⟨.bool,3,0,[],false⟩) (x:=y10) (fun _=>rfl) (Zfc hx11))
   refine Zg1 Z0 (by kernel_rfl) [false,false,false,false,false,false,true] [] (by kernel_rfl) ?_
   refine zF4 ax11 bx11 cx11 gu12 ?_
   refine PCall.of (Zvh hy10) ?_
   refine zF4 ax11 bx11 cx11 gu12 ?_
   refine zD [2,5,34,35,36] [false,true,true,false,true,false,false] ?_
   refine zR ?_
   exact zEn hs0_
  replace hs0_:=Zs c13 hs0_
  exact zEx hs0_
 try simp only [Y1,Yc,↓reduceIte,Nat.reduceEqDiff]
 refine zDs [2,5] [false,true,true,false,true,false] ?_
 refine zRd [2] [false,true,false,false,true,false] ?_
 exact Y9 [.agg [(vI a0.Kind),(sL (eI .u64) z1.1),.row (n+4) z14.length]]
theorem Zs2:∀ k,(Zl7 (Ui k)):=fun k=>by
 induction k with
 | zero=>exact @fun a0 r O n h=>(nomatch (show (none:Option _)=some _ from h))
 | succ k ih=>exact @fun a0 r O n h=>Zxd (ih)  h
theorem Za8 {a0:Zb} {r:Zb} {O:Objs} {n:Nat} (h:Zaz a0=some r):GTo Try.prog 22 [.agg (Zg a0)] O n (.agg (Zg r)) O n:=by
 obtain ⟨k,hk⟩:=Gt h
 exact (Zs2 k)  hk
theorem Zbk {a0 r:List Zr} {O:Objs} {n:Nat} (h:Qn a0=some r):GTo Try.prog 35 [(sL Zf a0)] O n (.row n r.length) (Zq O n [some (oR 57 4 Zf r)]) (n+1):=by
 have h1:=Zub h
 have h2:=Zuc h
 have h3:=Zo8 h
 rw [List.nil_append] at h3
 subst h3
 simp only [List.length_nil,Nat.zero_add] at h1 h2
 clear h
 refine zFn Try.call35 Try.func35 fun hU hN0 hN => ?_
 show W _ _ _ _ ⟨8,[],[(0,(sL Zf r))]⟩ (Zq O n []) _
 refine zQ [0] ?_
 refine Z37 0 r.length (fl Zf r) rfl (Nat.le_of_ble_eq_true rfl) (Z6 Y5 _) fun A c hA => ?_
 refine zQ [0,4] ?_
 cases A with
 | none =>
  obtain rfl:r=[]:=List.eq_nil_of_length_eq_zero (hA rfl)
  refine Zp (t:=true) rfl (fun _ => ?_) (fun hc=>by cases hc)
  refine zQ [2] ?_
  refine zW ?_
  refine Zlv (k:=1) (L3:=[some ⟨true,57,4,0,[]⟩]) (E2:=⟨8,[],[(2,.row n 0),(2,nV)]⟩) (n3:=(n+1)) (.inr rfl) hU rfl [.row n 0] ?_ ?_
  ·have ha:=Zh5 (ba:=n) (E:=⟨8,[],[(2,.val (.slice none 0 0))]⟩) (O:=(Zq O n [])) (n:=n) 2 57 4 rfl (by omega)
   simp only [Ym] at ha
   exact ha
  simp only [push_cast,seval,Zi,Try.results35,hN0,hN]
 | some A =>
  refine Zp (t:=false) rfl (fun hc=>by cases hc) (fun _ => ?_)
  refine zK ?_
  refine And.intro rfl (And.intro (Nat.le_of_ble_eq_true rfl) ?_)
  refine Zk ?_
  refine Yp Z0 [] ?_
  simp only [push_cast,seval,Zi,h1,h2,hN0,hN]
  refine zW ?_
  refine Zun (.inr rfl) hU rfl [.row n r.length] (by omega) ?_
  simp only [push_cast,seval,Zi,Try.results35,hN0,hN]
end Go.Proofs.Ytibgpnmmgffgeaa
