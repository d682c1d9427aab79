/- Part SM1 of this seat's mirrors: functions of the seat's program, and the plain functions that they are; each theorem bears its own conditions. -/
import Derived.Test.YtkbcdcffpefklaaGreatSD
namespace Go.Proofs.YtkbcdcffpefklaaGreat
open Go.RowKit
set_option linter.unusedVariables false
set_option linter.unusedSimpArgs false
set_option maxRecDepth 100000
set_option maxHeartbeats 4000000
attribute [local push_cast] vI vB nV sL oR K0 Ze K1 Z6 Zv Zcf Zwm Zwl Zxg Zxf Yg Z3 Zsa Zme Zmd onW X9 Zgq Zfn Zvl Zur Zqh Zql Zqg Zqk Ztk Ztg Zqj Ztj Zti Zth Zqi Zte Znd evS wok Jr Op.operands Call.operands gop onK onP atK List.all_cons List.all_nil Bool.and_true Bool.true_and Bool.and_self Value.oneCell' List.take_zero List.take_succ_cons List.take_nil List.drop_zero List.drop_succ_cons List.drop_nil List.append_nil Nat.add_zero Nat.zero_add Zat Yp ev Js Zh3 Zwf Zwe Zwk Zwi Zwj Zwg Zwh Zwd Zvv Zy8 Z16 Zmj Zgs Zlj Zgr Zpz Zjh Zkc Zkh Zl7 Zl3 Zkf Zl6 Zl5 Zl4 Zke Zl1 Zkd Zkg Zi3 Zl2 Zoc Zmf Zee Zmh Zef Zob Zmc Z0i bLo bHi bMx Zgt Zn8 Z4z Zmb Zoa Zi4 Zcu Zza Z41 Zma Zje Z45 Zgp Z6v Zsd Zsh Zsc Zsg Zw2 Zwy Zww Zp1 Zse Zw1 Zw0 Zwz Zsf Zws Zwv Zwr Zwu Z2k Z2g Z2f Zwt Z2i Z2j Zwx Zmg gone Zs4 Zm5 Zm4 pop TK.isAgg Zw9 Zxd Zw8 Zxc Zsw Z26 Z22 Zxb Z25 Z24 Z23 Zxa Z21 G.under G.unders List.getD_cons_zero List.getD_cons_succ List.set_cons_zero List.set_cons_succ List.map_cons List.map_nil List.toList_toArray Array.toList_append Option.toArray_none Option.toArray_some Array.toList_map Option.map_some Option.map_none Option.bind_some Option.bind_none List.getElem?_cons_zero List.getElem?_cons_succ List.getElem?_nil List.nil_append List.cons_append List.replicate_succ List.replicate_zero List.length_cons List.length_nil and_true true_and and_false false_and Bool.true_eq_false Bool.false_eq_true forall_const false_implies implies_true IntKind.bits if_true if_false ite_true ite_false eq_self true_implies false_or or_false or_true true_or not_true_eq_false not_false_eq_true decide_true decide_false decide_eq_true_eq decide_eq_false_iff_not beq_iff_eq bne_iff_ne ne_eq Bool.not_eq_true Bool.not_eq_false beq_eq_false_iff_ne bne_eq_false_iff_eq beq_self_eq_true bne_self_eq_false Option.some.injEq exists_eq_left' exists_eq_left ge_iff_le gt_iff_lt decide_not Bool.not_true Bool.not_false imp_self Z18 cond_true cond_false Ydp Ydo Bool.not_not Bool.and_false Bool.false_and Bool.or_true Bool.true_or Bool.or_false Bool.false_or U2 Zcy Kj Q8 Y5 Yt Option.join_some Nat.add_assoc Int.toNat_natCast eI eB eS eL Yw Zlk Zkk Zwp Zwn Zwo Z68 Yam Zls Zks Zxm Zxk Zxl Z20 Znx Z0z Zg9 Zy0 Zi8 Zy1 List.length_append G.agg.injEq G.row.injEq G.ref.injEq G.val.injEq G.sl.injEq G.tup.injEq Value.int.injEq Value.bool.injEq Value.string.injEq List.cons.injEq exists_and_left exists_const List.flatten_cons List.flatten_nil Int.le_refl Nat.le_refl Q9 Y0 Y6 Bool.not_eq_true' Bool.not_eq_false' Zyl Zoy Z4c Z4h Z4b Z4g Z9w Z9r List.size_toArray Zs7 Znu G.ren G.rens Zv7 Zj3 Zxo Zwb Zwc Ztf Z4i Zf3 G.fn.injEq Zua Zub Zyk Z9s Zt9 Z4f Z9v Z9u Z9t Z4d Z2n Z8a Option.join_none Ye G8 undef Zog Arr.len Arr.put_eq Zlr Zp6 Zm1 Zkr Zxj Zxh Zxi onB Z67 Zy7 Zs9 Zpw Zrt Zru Zrv Zrw Zrx Zry Zp3 Zp9 Zp7 Zm3 Zkt Zp8 Zs3 Zs2 Zs1 Zs0 Yal Ycd Z2z Z0o U6 Z2p Zsj Zqa Zm2 Z5s Zvq Zl8 Zn6 Zh1 Zou Zrz Zr0 Zr1 Zr2 Zo0 Zo1 Zo2 Zo3 Zo4 Zo5 Zo6 Zo7 Zo8 Zo9 Zpa Zpb Zpc Ziu prT Zhq Zpd Zpe Zpf Zpg Zph Zpi Zpj Zpk Zpl Zpm Zpn Zpo Zpp Zpq Zpr Zps Zpt Zpu Yex Z32 Zis Z33 Yey Z34 Z31 Z35 Yez Z36 Ye0 Z37 Ye1 Z38 Ye2 Z39 Z81 Zxq Z82 Zxr Z83 Zxs Z84 Zxt Z85 Zxu Z86 Zxv Z87 Zxw Z88 Zxx Z89 Zxy Z9a Zxz Z9b Zx0 Z9c Zqn Ztn Zk0 Z9d Zx1 Zbu Zx2 Z9e Zx3 Z9f Zx4 Z1m Zt7 Z9g Zx5 Zd7 Zx6 Z9h Zx7 Z9i Zx8 Zi1 Zx9 Z9j Zya Jw Zyb Zly Zyc Z9k Zyd Zq9 Zye Z9l Zyf Z9m Zyg Z9n Zyh Z1n Zt8 Z9o Zyi Z9p Zyj Z3j Zto Z3k Ztp Z0a Ztq Z3l Ztr Z3m Zts Z3n Ztt Z3o Ztu Z3p Ztv Z3q Ztw Z3r Ztx Z3s Zty Z3t Ztz Z3u Zt0 Z3v Zt1 Z3w Zt2 Z3x Zt3 Z3y Zt4 Z3z Zt5 Z30 Zt6 Za Yq Znk Zni Zmo Zmz Znm Zk2 Zky Zkw Znf Zfa Ze8 Zew Ze3 Zfc Zd9 Zd6 Zd4 Ze6 Zi Zk Zh Zd Xa Yr Xo Zbm Zbk Zaw Zba Zbo Zai Zaf Zad Zbg Zb8 Zb6 Zbx Zb2 Zca Zbi Zbe Zbc Zb4 Zhd Zhc Zgw Zg5 Zhe Zfv Zfu Zft Zhb Zqq Zqp Zp0 Zp4 Zqr Zng Zm9 Zm8 Zqo Yd Zak Zaj G9 Zab Zal U9 U8 U7 Zag Ze9 Ze7 Zev Ze2 Zfb Zd8 Zd5 Zd3 Ze5 Yh Zbl Zbj Zav Za9 Zbn Zah Zae Zac Zbf Zy Zb7 Zb5 Zbw Zb1 Zb9 Zbh Zbd Zbb Zb3 Znj Znh Zmn Zmy Znl Zk1 Zkx Zkv Zne
def Zgc (Qg:(Zc→Int→Int→Option Int)):Prop:=∀ {a0:Zc} {a1:Int} {a2:Int} {r:Int} {O:Objs} {n:Nat},Qg a0 a1 a2=some r→GTo Tryz.prog 50 [.agg (Zv a0),(vI a1),(vI a2)] O n ((vI r)) O n
theorem Zmx {Qg:(Zc→Int→Int→Option Int)} (Zlq:Zgc Qg) {a0:Zc} {a1:Int} {a2:Int} {r:Int} {O:Objs} {n:Nat} (h:Qe Qg a0 a1 a2=some r):GTo Tryz.prog 50 [.agg (Zv a0),(vI a1),(vI a2)] O n ((vI r)) O n:=by
 unfold Qe at h
 refine fn0 Zt Tryz.call50 Tryz.func50 rfl fun hU hN0 hN => ?_
 show W _ _ _ _ ⟨41,[],[(0,.agg (Zv a0)),(1,(vI a1)),(2,(vI a2))]⟩ (Zr O n []) _
 refine zQ [1,2,3] ?_
 refine zQ [1,2,3] ?_
 refine Zl ?_
 refine zQD [1,2,3,19] [none,none] ?_
 refine Zp (t:=(cond (a1 == 0) true (decide ((IntKind.i64.wrap ((IntKind.i64.wrap (a2 - 1)) - (a0.Words.length:Int))) < 0)))) rfl (fun c5 => ?_) (fun c5 => ?_)
 ·replace h:=Zo c5 h
  refine zQ [6] ?_
  refine zW ?_
  obtain rfl:=sI h
  refine Zq (.inr rfl) hU [(vI (-1))] (by omega) ?_
  simp only [push_cast,seval,Zf,Tryz.results50,hN0,hN]
 replace h:=Zn c5 h
 refine Q5 [1,2,3] [true] ?_
 refine Zl ?_
 refine zQd [1,2,3,7] [1,2,3,7] [true] ?_
 obtain ⟨z4,hz4,h⟩:=bC h
 refine Z8 (E':=⟨41,[],[(2,(vI z4))]⟩) (O':=(Zr O n [none])) (n0:=(n+1)) ?_ ?_
 ·refine Yi hz4 (fun s0_=>⟨41,[],[(1,(vI a1)),(2,(vI s0_.1)),(3,.ref n 0),(7,(vI s0_.2))]⟩) (fun s0_=>(Zr O n [some ⟨false,25,3,1,(Zv a0)⟩])) (fun z4=>JX 0 n (⟨41,[],[(2,(vI z4))]⟩:Env) (Zr O n [none]) (n+1)) ?_
  intro s0_ x0_ hs0_
  unfold X7 at hs0_
  try dsimp only
  refine Zl ?_
  refine zQD [1,2,3,7,28] [none,none] ?_
  refine Zp (t:=(cond (decide (s0_.2 < (a0.Kids.length:Int))) (decide (0≤s0_.1)) false)) rfl (fun c3 => ?_) (fun c3 => ?_)
  ·replace hs0_:=Zo c3 hs0_
   refine Q5 [1,2,3,7] [true] ?_
   refine Zl ?_
   refine Z0 ?_
   obtain ⟨x1,hx1,ax1,bx1,cx1,hs0_⟩:=bE (f:=Za) Zbu (fun _=>rfl) (by decide) hs0_
   obtain ⟨y2,hy2,hs0_⟩:=bC hs0_
   refine Zdr [] ax1 bx1 cx1 ?_
   refine (Zlq hy2).then ?_
   refine zF3 ax1 bx1 cx1 ?_
   refine zD [1,2,3,7] [true] ?_
   refine zR ?_
   exact Vu hs0_
  replace hs0_:=Zn c3 hs0_
  exact zEx hs0_
 try simp only [Yg,Z3,↓reduceIte,Nat.reduceEqDiff]
 refine zD [2] [false] ?_
 refine zQ [6] ?_
 refine zW ?_
 obtain rfl:=sI h
 refine Zq (.inr rfl) hU [(vI z4)] (by omega) ?_
 simp only [push_cast,seval,Zf,Tryz.results50,hN0,hN]
theorem Zk4:∀ k,(Zgc (Y1 k)):=fun k=>by
 induction k with
 | zero=>exact @fun a0 a1 a2 r O n h=>(nomatch (show (none:Option _)=some _ from h))
 | succ k ih=>exact @fun a0 a1 a2 r O n h=>Zmx (ih)  h
theorem Zdx {a0:Zc} {a1:Int} {a2:Int} {r:Int} {O:Objs} {n:Nat} (h:J7 a0 a1 a2=some r):GTo Tryz.prog 50 [.agg (Zv a0),(vI a1),(vI a2)] O n ((vI r)) O n:=by
 obtain ⟨k,hk⟩:=Ux h
 exact (Zk4 k)  hk
def Zie (Xx:(Zb→Int→Int→Option Int)):Prop:=∀ {a0:Zb} {a1:Int} {a2:Int} {r:Int} {O:Objs} {n:Nat},Xx a0 a1 a2=some r→GTo Tryz.prog 25 [.agg (Ze a0),(vI a1),(vI a2)] O n ((vI r)) O n
theorem Zq2 {Xx:(Zb→Int→Int→Option Int)} (Zih:Zie Xx) {a0:Zb} {a1:Int} {a2:Int} {r:Int} {O:Objs} {n:Nat} (h:Jh Xx a0 a1 a2=some r):GTo Tryz.prog 25 [.agg (Ze a0),(vI a1),(vI a2)] O n ((vI r)) O n:=by
 unfold Jh at h
 refine fn0 Zt Tryz.call25 Tryz.func25 rfl fun hU hN0 hN => ?_
 show W _ _ _ _ ⟨107,[],[(0,.agg (Ze a0)),(1,(vI a1)),(2,(vI a2))]⟩ (Zr O n []) _
 refine zQ [1,2,3] ?_
 refine zQ [1,2,3] ?_
 refine Zl ?_
 refine zQD [1,2,3,25] [none,none] ?_
 refine Zp (t:=(cond (a1 == 0) true (decide ((IntKind.i64.wrap ((IntKind.i64.wrap ((IntKind.i64.wrap (a2 - 1)) - (a0.Words.length:Int))) - (a0.Ops.length:Int))) < 0)))) rfl (fun c28 => ?_) (fun c28 => ?_)
 ·replace h:=Zo c28 h
  refine zQ [6] ?_
  refine zW ?_
  obtain rfl:=sI h
  refine Zq (.inr rfl) hU [(vI (-1))] (by omega) ?_
  simp only [push_cast,seval,Zf,Tryz.results25,hN0,hN]
 replace h:=Zn c28 h
 refine Q5 [1,2,3] [true] ?_
 refine Zl ?_
 obtain ⟨y2,hy2,h⟩:=bC h
 refine zCd (Zdx hy2) [1,2,3] [true] ?_
 obtain ⟨z3,hz3,h⟩:=bC h
 refine Yk (E':=⟨107,[],[(1,(vI a1)),(2,(vI z3)),(3,.ref n 0)]⟩) (O':=(Zr O n [some ⟨false,30,11,1,(Ze a0)⟩])) (n0:=(n+1)) ?_ ?_
 ·refine zQ [1,2,3,31] ?_
  refine Zp (t:=(decide (0≤y2))) rfl (fun c5 => ?_) (fun c5 => ?_)
  ·replace hz3:=Zo c5 hz3
   obtain ⟨y4,hy4,hz3⟩:=bC hz3
   refine zC (Zdx hy4) ?_
   exact Vu hz3
  replace hz3:=Zn c5 hz3
  refine zK ?_
  exact Vu hz3
 refine Zl ?_
 refine zQd [1,2,3,7] [1,2,3,7] [true] ?_
 obtain ⟨z10,hz10,h⟩:=bC h
 refine Z8 (E':=⟨107,[],[(1,(vI a1)),(2,(vI z10)),(3,.ref n 0)]⟩) (O':=(Zr O n [some ⟨false,30,11,1,(Ze a0)⟩])) (n0:=(n+1)) ?_ ?_
 ·refine Yi hz10 (fun s0_=>⟨107,[],[(1,(vI a1)),(2,(vI s0_.1)),(3,.ref n 0),(7,(vI s0_.2))]⟩) (fun s0_=>(Zr O n [some ⟨false,30,11,1,(Ze a0)⟩])) (fun z10=>JX 0 n (⟨107,[],[(1,(vI a1)),(2,(vI z10)),(3,.ref n 0)]⟩:Env) (Zr O n [some ⟨false,30,11,1,(Ze a0)⟩]) (n+1)) ?_
  intro s0_ x0_ hs0_
  unfold Qw at hs0_
  try dsimp only
  refine Zl ?_
  refine zQD [1,2,3,7,44] [none,none] ?_
  refine Zp (t:=(cond (decide (s0_.2 < (a0.Kids.length:Int))) (decide (0≤s0_.1)) false)) rfl (fun c9 => ?_) (fun c9 => ?_)
  ·replace hs0_:=Zo c9 hs0_
   refine Q5 [1,2,3,7] [true] ?_
   refine Zl ?_
   refine Z0 ?_
   obtain ⟨x6,hx6,ax6,bx6,cx6,hs0_⟩:=bE (f:=Zh) Zi1 (fun _=>rfl) (by decide) hs0_
   have g7:=X2 (f:=Zh) (off:=1) (sz:=12) Zd7 (fun _=>rfl) (by decide) (by decide) hx6
   obtain ⟨y8,hy8,hs0_⟩:=bC hs0_
   refine Zi2 [] ax6 bx6 cx6 g7 ?_
   refine (Zih hy8).then ?_
   refine zF4 ax6 bx6 cx6 g7 ?_
   refine zD [1,2,3,7] [true] ?_
   refine zR ?_
   exact Vu hs0_
  replace hs0_:=Zn c9 hs0_
  exact zEx hs0_
 try simp only [Yg,Z3,↓reduceIte,Nat.reduceEqDiff]
 refine zDs [1,2,3] [true] ?_
 refine zQd [1,2,3,8] [1,2,3,8] [true] ?_
 obtain ⟨z27,hz27,h⟩:=bC h
 refine Z8 (E':=⟨107,[],[(2,(vI z27))]⟩) (O':=(Zr O n [none])) (n0:=(n+1)) ?_ ?_
 ·refine Yi hz27 (fun s1_=>⟨107,[],[(1,(vI a1)),(2,(vI s1_.1)),(3,.ref n 0),(8,(vI s1_.2))]⟩) (fun s1_=>(Zr O n [some ⟨false,30,11,1,(Ze a0)⟩])) (fun z27=>JX 2 n (⟨107,[],[(2,(vI z27))]⟩:Env) (Zr O n [none]) (n+1)) ?_
  intro s1_ x1_ hs1_
  unfold Qx at hs1_
  try dsimp only
  refine Zl ?_
  refine zQD [1,2,3,8,65] [none,none] ?_
  refine Zp (t:=(cond (decide (s1_.2 < (a0.Ops.length:Int))) (decide (0≤s1_.1)) false)) rfl (fun c26 => ?_) (fun c26 => ?_)
  ·replace hs1_:=Zo c26 hs1_
   refine Q5 [1,2,3,8] [true] ?_
   obtain ⟨z11,hz11,hs1_⟩:=bC hs1_
   refine Yk (E':=⟨107,[],[(1,(vI a1)),(2,(vI z11)),(3,.ref n 0),(8,(vI s1_.2))]⟩) (O':=(Zr O n [some ⟨false,30,11,1,(Ze a0)⟩])) (n0:=(n+1)) ?_ ?_
   ·refine Z0 ?_
    refine Zl ?_
    refine zQd [1,2,3,8,9] [1,2,3,8,9] [true] ?_
    obtain ⟨z21,hz21,hz11⟩:=bC hz11
    refine Z8 (E':=⟨107,[],[(1,(vI a1)),(2,(vI z21)),(3,.ref n 0),(8,(vI s1_.2))]⟩) (O':=(Zr O n [some ⟨false,30,11,1,(Ze a0)⟩])) (n0:=(n+1)) ?_ ?_
    ·refine Yi hz21 (fun s2_=>⟨107,[],[(1,(vI a1)),(2,(vI s2_.1)),(3,.ref n 0),(8,(vI s1_.2)),(9,(vI s2_.2))]⟩) (fun s2_=>(Zr O n [some ⟨false,30,11,1,(Ze a0)⟩])) (fun z21=>JX 4 n (⟨107,[],[(1,(vI a1)),(2,(vI z21)),(3,.ref n 0),(8,(vI s1_.2))]⟩:Env) (Zr O n [some ⟨false,30,11,1,(Ze a0)⟩]) (n+1)) ?_
     intro s2_ x2_ hs2_
     unfold Vx at hs2_
     try dsimp only
     refine Zl ?_
     obtain ⟨x14,hx14,ax14,bx14,cx14,hs2_⟩:=bE (f:=Zd) Jw (fun _=>rfl) (by decide) hs2_
     have g15:=X2 (f:=Zd) (off:=2) (sz:=14) Ztn (fun _=>rfl) (by decide) (by decide) hx14
     refine Zl0 [1,2,3,8,9,80] (Yn Zt [none,none] ?_)
     refine zF4 ax14 bx14 cx14 g15 ?_
     refine zG ?_
     refine Zp (t:=(cond (decide (s2_.2 < (x14.L.length:Int))) (decide (0≤s2_.1)) false)) rfl (fun c20 => ?_) (fun c20 => ?_)
     ·replace hs2_:=Zo c20 hs2_
      refine Q5 [1,2,3,8,9] [true] ?_
      refine Zl ?_
      refine Z0 ?_
      obtain ⟨x16,hx16,ax16,bx16,cx16,hs2_⟩:=bE (f:=Zd) Jw (fun _=>rfl) (by decide) hs2_
      have g17:=X2 (f:=Zd) (off:=2) (sz:=14) Ztn (fun _=>rfl) (by decide) (by decide) hx16
      obtain ⟨x18,hx18,ax18,bx18,cx18,hs2_⟩:=bE (f:=Za) Zbu (fun _=>rfl) (by decide) hs2_
      obtain ⟨y19,hy19,hs2_⟩:=bC hs2_
      refine Z6f [] ax16 bx16 cx16 g17 ax18 bx18 cx18 ?_
      refine (Zdx hy19).then ?_
      refine zF7 ax16 bx16 cx16 g17 ax18 bx18 cx18 ?_
      refine zD [1,2,3,8,9] [true] ?_
      refine zR ?_
      exact Vu hs2_
     replace hs2_:=Zn c20 hs2_
     exact zEx hs2_
    try simp only [Yg,Z3,↓reduceIte,Nat.reduceEqDiff]
    refine zD [1,2,3,8] [true] ?_
    refine zQ [1,2,3,8,95] ?_
    refine Zp (t:=(decide (0≤z21))) rfl (fun c25 => ?_) (fun c25 => ?_)
    ·replace hz11:=Zo c25 hz11
     obtain ⟨x22,hx22,ax22,bx22,cx22,hz11⟩:=bE (f:=Zd) Jw (fun _=>rfl) (by decide) hz11
     have g23:=X2 (f:=Zd) (off:=3) (sz:=14) Zd7 (fun _=>rfl) (by decide) (by decide) hx22
     obtain ⟨y24,hy24,hz11⟩:=bC hz11
     refine Zi2 [] ax22 bx22 cx22 g23 ?_
     refine (Zih hy24).then ?_
     refine zF4 ax22 bx22 cx22 g23 ?_
     exact Zvt hz11 ax22 bx22 cx22 g23
    replace hz11:=Zn c25 hz11
    refine zK ?_
    exact Vu hz11
   refine zR ?_
   exact Vu hs1_
  replace hs1_:=Zn c26 hs1_
  exact zEx hs1_
 try simp only [Yg,Z3,↓reduceIte,Nat.reduceEqDiff]
 refine zD [2] [false] ?_
 refine zQ [6] ?_
 refine zW ?_
 obtain rfl:=sI h
 refine Zq (.inr rfl) hU [(vI z27)] (by omega) ?_
 simp only [push_cast,seval,Zf,Tryz.results25,hN0,hN]
theorem Zn0:∀ k,(Zie (Ys k)):=fun k=>by
 induction k with
 | zero=>exact @fun a0 a1 a2 r O n h=>(nomatch (show (none:Option _)=some _ from h))
 | succ k ih=>exact @fun a0 a1 a2 r O n h=>Zq2 (ih)  h
theorem Zrj {a0:Zb} {a1:Int} {a2:Int} {r:Int} {O:Objs} {n:Nat} (h:Zgz a0 a1 a2=some r):GTo Tryz.prog 25 [.agg (Ze a0),(vI a1),(vI a2)] O n ((vI r)) O n:=by
 obtain ⟨k,hk⟩:=Ux h
 exact (Zn0 k)  hk
theorem Zg1 {a0:Zb} {r:Bool} {O:Objs} {n:Nat} (h:Zcm a0=some r):GTo Tryz.prog 12 [.agg (Ze a0)] O n ((vB r)) O n:=by
 unfold Zcm at h
 refine fn0 Zt Tryz.call12 Tryz.func12 rfl fun hU hN0 hN => ?_
 show W _ _ _ _ ⟨6,[],[(0,.agg (Ze a0))]⟩ (Zr O n []) _
 refine zQ [1] ?_
 refine Zl ?_
 obtain ⟨y2,hy2,h⟩:=bC h
 refine zCd (Zrj hy2) [2] [false] ?_
 refine zW ?_
 obtain rfl:=sI h
 refine Zq (.inr rfl) hU [(vB (decide (0≤y2)))] (by omega) ?_
 simp only [push_cast,seval,Zf,Tryz.results12,hN0,hN]
theorem Vm {a0:Zc} {r:Bool} {O:Objs} {n:Nat} (h:Ji a0=some r):GTo Tryz.prog 26 [.agg (Zv a0)] O n ((vB r)) O n:=by
 unfold Ji at h
 refine fn0 Zt Tryz.call26 Tryz.func26 rfl fun hU hN0 hN => ?_
 show W _ _ _ _ ⟨16,[],[(0,.agg (Zv a0))]⟩ (Zr O n []) _
 refine zQ [1] ?_
 refine zQD [2] [none,none,none,none,none,none,none,none] ?_
 refine zW ?_
 obtain rfl:=sI h
 refine Zq (.inr rfl) hU [(vB (cond (a0.Kind == 0) ((IntKind.i64.wrap ((a0.Words.length:Int)+(a0.Kids.length:Int))) == 0) false))] (by omega) ?_
 simp only [push_cast,seval,Zf,Tryz.results26,hN0,hN]
theorem Zqu {a0:Int} {r:Int} {O:Objs} {n:Nat} (h:Zfw a0=some r):GTo Tryz.prog 69 [(vI a0)] O n ((vI r)) O n:=by
 unfold Zfw at h
 refine fn0 Zt Tryz.call69 Tryz.func69 rfl fun hU hN0 hN => ?_
 show W _ _ _ _ ⟨16,[],[(0,(vI a0))]⟩ (Zr O n []) _
 refine zQ [0] ?_
 refine Zl ?_
 refine zQ [3] ?_
 refine Z0 ?_
 refine zQ [3,4] ?_
 refine Zp (t:=(a0 == 0)) rfl (fun c6 => ?_) (fun c6 => ?_)
 ·replace h:=Zo c6 h
  refine zQ [2] ?_
  refine zW ?_
  obtain rfl:=sI h
  refine Zq (.inr rfl) hU [(vI 0)] (by omega) ?_
  simp only [push_cast,seval,Zf,Tryz.results69,hN0,hN]
 replace h:=Zn c6 h
 refine zQ [3,6] ?_
 refine Zp (t:=(a0 == 1)) rfl (fun c5 => ?_) (fun c5 => ?_)
 ·replace h:=Zo c5 h
  refine zQ [2] ?_
  refine zW ?_
  obtain rfl:=sI h
  refine Zq (.inr rfl) hU [(vI 1)] (by omega) ?_
  simp only [push_cast,seval,Zf,Tryz.results69,hN0,hN]
 replace h:=Zn c5 h
 refine zQ [3,8] ?_
 refine Zp (t:=(a0 == 2)) rfl (fun c4 => ?_) (fun c4 => ?_)
 ·replace h:=Zo c4 h
  refine zQ [2] ?_
  refine zW ?_
  obtain rfl:=sI h
  refine Zq (.inr rfl) hU [(vI 8)] (by omega) ?_
  simp only [push_cast,seval,Zf,Tryz.results69,hN0,hN]
 replace h:=Zn c4 h
 refine zQ [3,10] ?_
 refine Zp (t:=(a0 == 3)) rfl (fun c3 => ?_) (fun c3 => ?_)
 ·replace h:=Zo c3 h
  refine zQ [2] ?_
  refine zW ?_
  obtain rfl:=sI h
  refine Zq (.inr rfl) hU [(vI 16)] (by omega) ?_
  simp only [push_cast,seval,Zf,Tryz.results69,hN0,hN]
 replace h:=Zn c3 h
 refine zQ [3,12] ?_
 refine Zp (t:=(a0 == 4)) rfl (fun c2 => ?_) (fun c2 => ?_)
 ·replace h:=Zo c2 h
  refine zQ [2] ?_
  refine zW ?_
  obtain rfl:=sI h
  refine Zq (.inr rfl) hU [(vI 32)] (by omega) ?_
  simp only [push_cast,seval,Zf,Tryz.results69,hN0,hN]
 replace h:=Zn c2 h
 refine zQ [14] ?_
 refine Zp (t:=(a0 == 5)) rfl (fun c1 => ?_) (fun c1 => ?_)
 ·replace h:=Zo c1 h
  refine zQ [2] ?_
  refine zW ?_
  obtain rfl:=sI h
  refine Zq (.inr rfl) hU [(vI 64)] (by omega) ?_
  simp only [push_cast,seval,Zf,Tryz.results69,hN0,hN]
 replace h:=Zn c1 h
 refine Q5 [] [] ?_
 refine zQ [2] ?_
 refine zW ?_
 obtain rfl:=sI h
 refine Zq (.inr rfl) hU [(vI (-1))] (by omega) ?_
 simp only [push_cast,seval,Zf,Tryz.results69,hN0,hN]
theorem Zjo {a0:Int} {a1:Int} {r:Bool} {O:Objs} {n:Nat} (h:Uf a0 a1=some r):GTo Tryz.prog 51 [(vI a0),.val (.int .u64 a1)] O n ((vB r)) O n:=by
 unfold Uf at h
 refine fn0 Zt Tryz.call51 Tryz.func51 rfl fun hU hN0 hN => ?_
 show W _ _ _ _ ⟨20,[],[(0,(vI a0)),(1,.val (.int .u64 a1))]⟩ (Zr O n []) _
 refine zQ [0,1] ?_
 refine Zl ?_
 obtain ⟨y2,hy2,h⟩:=bC h
 refine zCd (Zqu hy2) [1,5] [] ?_
 refine Zl ?_
 refine zQ [1,5,10] ?_
 refine Zp (t:=(decide (y2 < 0))) rfl (fun c5 => ?_) (fun c5 => ?_)
 ·replace h:=Zo c5 h
  refine zQ [4] ?_
  refine zW ?_
  obtain rfl:=sI h
  refine Zq (.inr rfl) hU [(vB false)] (by omega) ?_
  simp only [push_cast,seval,Zf,Tryz.results51,hN0,hN]
 replace h:=Zn c5 h
 refine Q5 [1,5] [] ?_
 refine Zl ?_
 refine zQd [1,5,6] [1,5,6] [] ?_
 obtain ⟨z4,hz4,h⟩:=bC h
 refine Z8 (E':=⟨20,[],[(1,.val (.int .u64 z4))]⟩) (O':=(Zr O n [])) (n0:=n) ?_ ?_
 ·refine Yi hz4 (fun s0_=>⟨20,[],[(1,.val (.int .u64 s0_.1)),(5,(vI y2)),(6,(vI s0_.2))]⟩) (fun s0_=>(Zr O n [])) (fun z4=>JX 0 n (⟨20,[],[(1,.val (.int .u64 z4))]⟩:Env) (Zr O n []) n) ?_
  intro s0_ x0_ hs0_
  unfold Qf at hs0_
  try dsimp only
  refine Zl ?_
  refine zQ [1,5,6,13] ?_
  refine Zp (t:=(decide (s0_.2 < y2))) rfl (fun c3 => ?_) (fun c3 => ?_)
  ·replace hs0_:=Zo c3 hs0_
   refine Q5 [1,5,6] [] ?_
   refine Zl ?_
   refine Z0 ?_
   refine zRd [1,5,6] [] ?_
   refine zR ?_
   exact Vu hs0_
  replace hs0_:=Zn c3 hs0_
  exact zEx hs0_
 try simp only [Yg,Z3,↓reduceIte,Nat.reduceEqDiff]
 refine zD [1] [] ?_
 refine zQ [4] ?_
 refine zW ?_
 obtain rfl:=sI h
 refine Zq (.inr rfl) hU [(vB (z4 == 0))] (by omega) ?_
 simp only [push_cast,seval,Zf,Tryz.results51,hN0,hN]
def Zhf (Q2:(Zc→Int→Option Bool)):Prop:=∀ {a0:Zc} {a1:Int} {r:Bool} {O:Objs} {n:Nat},Q2 a0 a1=some r→GTo Tryz.prog 27 [.agg (Zv a0),(vI a1)] O n ((vB r)) O n
theorem Zoo {Q2:(Zc→Int→Option Bool)} (Zn3:Zhf Q2) {a0:Zc} {a1:Int} {r:Bool} {O:Objs} {n:Nat} (h:Gi Q2 a0 a1=some r):GTo Tryz.prog 27 [.agg (Zv a0),(vI a1)] O n ((vB r)) O n:=by
 unfold Gi at h
 refine fn0 Zt Tryz.call27 Tryz.func27 rfl fun hU hN0 hN => ?_
 show W _ _ _ _ ⟨132,[],[(0,.agg (Zv a0)),(1,(vI a1))]⟩ (Zr O n []) _
 refine zQ [1,2] ?_
 refine Zl ?_
 refine zQ [1,2,10] ?_
 refine Zp (t:=(a0.Kind == 0)) rfl (fun c32 => ?_) (fun c32 => ?_)
 ·replace h:=Zo c32 h
  refine zQD [4] [none,none,none,none] ?_
  refine zW ?_
  obtain rfl:=sI h
  refine Zq (.inr rfl) hU [(vB (cond ((a0.Words.length:Int) == 0) ((a0.Kids.length:Int) == 0) false))] (by omega) ?_
  simp only [push_cast,seval,Zf,Tryz.results27,hN0,hN]
 replace h:=Zn c32 h
 refine Q5 [1,2] [true] ?_
 refine Zl ?_
 refine zQ [1,2,23] ?_
 refine Zp (t:=(a0.Kind == 10)) rfl (fun c31 => ?_) (fun c31 => ?_)
 ·replace h:=Zo c31 h
  refine zQD [4] [none,none,none,none] ?_
  refine zW ?_
  obtain rfl:=sI h
  refine Zq (.inr rfl) hU [(vB (cond ((a0.Words.length:Int) == 1) ((a0.Kids.length:Int) == 0) false))] (by omega) ?_
  simp only [push_cast,seval,Zf,Tryz.results27,hN0,hN]
 replace h:=Zn c31 h
 refine Q5 [1,2] [true] ?_
 refine Zl ?_
 refine zQD [1,2,68] [none,none,none,none,none,none,none,none,none,none,none,none,none,none,none,none,none,none,none,none,none,none] ?_
 refine Zp (t:=(cond (cond (cond (cond (cond (decide (a0.Kind < 0)) true (decide (10 < a0.Kind))) true (a1 == 0)) true (decide (65536≤(a0.Words.length:Int)))) true (cond (a0.Kind == 1) (decide (65536≤(a0.Kids.length:Int))) false)) true (decide (1048576≤(a0.Kids.length:Int))))) rfl (fun c30 => ?_) (fun c30 => ?_)
 ·replace h:=Zo c30 h
  refine zQ [4] ?_
  refine zW ?_
  obtain rfl:=sI h
  refine Zq (.inr rfl) hU [(vB false)] (by omega) ?_
  simp only [push_cast,seval,Zf,Tryz.results27,hN0,hN]
 replace h:=Zn c30 h
 refine Q5 [1,2] [true] ?_
 refine Zl ?_
 refine zQD [1,2,77] [none,none,none,none] ?_
 refine Zp (t:=(cond (decide (1 < a0.Kind)) (decide (0 < (a0.Words.length:Int))) false)) rfl (fun c29 => ?_) (fun c29 => ?_)
 ·replace h:=Zo c29 h
  refine zQ [4] ?_
  refine zW ?_
  obtain rfl:=sI h
  refine Zq (.inr rfl) hU [(vB false)] (by omega) ?_
  simp only [push_cast,seval,Zf,Tryz.results27,hN0,hN]
 replace h:=Zn c29 h
 refine Q5 [1,2] [true] ?_
 refine Zl ?_
 refine zQd [1,2,5] [1,2,5] [true] ?_
 obtain ⟨z28,hz28,h⟩:=bC h
 refine U3 (J:=(Xg (fun z28=>JR n (⟨132,[],[(4,(vB false))]⟩:Env) (Zr O n [none]) (n+1)) (fun z28=>JX 0 n (⟨132,[],[]⟩:Env) (Zr O n [none]) (n+1)))) (z:=z28) ?_ fun hw => ?_
 ·refine Yi hz28 (fun s0_=>⟨132,[],[(1,(vI a1)),(2,.ref n 0),(5,(vI s0_))]⟩) (fun s0_=>(Zr O n [some ⟨false,25,3,1,(Zv a0)⟩])) (Xg (fun z28=>JR n (⟨132,[],[(4,(vB false))]⟩:Env) (Zr O n [none]) (n+1)) (fun z28=>JX 0 n (⟨132,[],[]⟩:Env) (Zr O n [none]) (n+1))) ?_
  intro s0_ x0_ hs0_
  unfold K6 at hs0_
  try dsimp only
  refine Zl ?_
  refine zQ [1,2,5,82] ?_
  refine Zp (t:=(decide (s0_ < (a0.Kids.length:Int)))) rfl (fun c27 => ?_) (fun c27 => ?_)
  ·replace hs0_:=Zo c27 hs0_
   refine Q5 [1,2,5] [true] ?_
   refine Zl ?_
   refine Z0 ?_
   refine Zl ?_
   obtain ⟨x2,hx2,ax2,bx2,cx2,hs0_⟩:=bE (f:=Za) Zbu (fun _=>rfl) (by decide) hs0_
   refine Zdr [] ax2 bx2 cx2 ?_
   refine zDs [1,2,5,6] [true,true] ?_
   refine Zl ?_
   obtain ⟨y4,hy4,hs0_⟩:=bC hs0_
   refine zCd (Zn3 hy4) [1,2,5,6,94] [true,true] ?_
   refine Zp (t:=(!y4)) rfl (fun c26 => ?_) (fun c26 => ?_)
   ·replace hs0_:=Zo c26 hs0_
    refine zQ [4] ?_
    refine zW ?_
    exact zEy hs0_
   replace hs0_:=Zn c26 hs0_
   refine Q5 [1,2,5,6] [true,true] ?_
   refine zQD [1,2,5,6,7] [none,none,none] ?_
   obtain ⟨z9,hz9,hs0_⟩:=bC hs0_
   refine Yk (E':=⟨132,[],[(1,(vI a1)),(2,.ref n 0),(5,(vI s0_)),(131,(vB z9))]⟩) (O':=(Zr O n [some ⟨false,25,3,1,(Zv a0)⟩,none])) (n0:=(n+2)) ?_ ?_
   ·rcases Bool.eq_false_or_eq_true ((cond (decide (2≤a0.Kind)) (decide (a0.Kind≤7)) false) != (x2.Kind == 10)) with c18 | c18
    ·replace hz9:=Zo c18 hz9
     refine Vq Zt (by kernel_rfl) (Zzp (Zzn [])) (by kernel_rfl) ?_
     refine zX1 c18 ?_
     refine zG ?_
     exact Kq hz9 c18
    replace hz9:=Zn c18 hz9
    rcases Bool.eq_false_or_eq_true (a0.Kind == 9) with c19 | c19
    ·replace hz9:=Zo c19 hz9
     try rw [c19] at c18
     try simp only [Bool.cond_true,Bool.cond_false,Bool.true_bne,Bool.false_bne,Bool.true_beq,Bool.false_beq,Bool.not_eq_true',Bool.not_eq_false'] at c18
     rcases Bool.eq_false_or_eq_true (x2.Kind != 1) with c20 | c20
     ·replace hz9:=Zo c20 hz9
      try rw [c20] at c18
      try rw [c20] at c19
      try simp only [Bool.cond_true,Bool.cond_false,Bool.true_bne,Bool.false_bne,Bool.true_beq,Bool.false_beq,Bool.not_eq_true',Bool.not_eq_false'] at c18
      refine Vq Zt (by kernel_rfl) (Zzp (Zzn [])) (by kernel_rfl) ?_
      refine zX3 c18 c19 c20 ?_
      refine zG ?_
      exact Zdq hz9 c18 c19 c20
     replace hz9:=Zn c20 hz9
     try rw [c20] at c18
     try rw [c20] at c19
     try simp only [Bool.cond_true,Bool.cond_false,Bool.true_bne,Bool.false_bne,Bool.true_beq,Bool.false_beq,Bool.not_eq_true',Bool.not_eq_false'] at c18
     rcases Bool.eq_false_or_eq_true (decide (2≤a0.Kind)) with c21 | c21
     ·replace hz9:=Zo c21 hz9
      try rw [c21] at c18
      try rw [c21] at c19
      try rw [c21] at c20
      try simp only [Bool.cond_true,Bool.cond_false,Bool.true_bne,Bool.false_bne,Bool.true_beq,Bool.false_beq,Bool.not_eq_true',Bool.not_eq_false'] at c18
      rcases Bool.eq_false_or_eq_true (decide (a0.Kind≤7)) with c22 | c22
      ·replace hz9:=Zo c22 hz9
       try rw [c22] at c18
       try rw [c22] at c19
       try rw [c22] at c20
       try rw [c22] at c21
       try simp only [Bool.cond_true,Bool.cond_false,Bool.true_bne,Bool.false_bne,Bool.true_beq,Bool.false_beq,Bool.not_eq_true',Bool.not_eq_false'] at c18
       obtain ⟨x14,hx14,ax14,bx14,cx14,hz9⟩:=bE (f:=(eI .u64)) Zly (fun _=>rfl) (by decide) hz9
       obtain ⟨y15,hy15,hz9⟩:=bC hz9
       refine Vq Zt (by kernel_rfl) (Zzp (Z5o [])) (by kernel_rfl) ?_
       refine zF8 c18 c19 c20 c21 c22 ax14 bx14 cx14 ?_
       refine zG ?_
       refine PCall.of (Zjo hy15) ?_
       refine zF8 c18 c19 c20 c21 c22 ax14 bx14 cx14 ?_
       refine zG ?_
       exact Ydj hz9 c18 c19 c20 c21 c22 ax14 bx14 cx14
      replace hz9:=Zn c22 hz9
      try rw [c22] at c18
      try rw [c22] at c19
      try rw [c22] at c20
      try rw [c22] at c21
      try simp only [Bool.cond_true,Bool.cond_false,Bool.true_bne,Bool.false_bne,Bool.true_beq,Bool.false_beq,Bool.not_eq_true',Bool.not_eq_false'] at c18
      refine Vq Zt (by kernel_rfl) (Zzp (Jb::Jb::Yca [Jb])) (by kernel_rfl) ?_
      refine zX5 c18 c19 c20 c21 c22 ?_
      refine zG ?_
      exact Z1r hz9 c18 c19 c20 c21 c22
     replace hz9:=Zn c21 hz9
     try rw [c21] at c18
     try rw [c21] at c19
     try rw [c21] at c20
     try simp only [Bool.cond_true,Bool.cond_false,Bool.true_bne,Bool.false_bne,Bool.true_beq,Bool.false_beq,Bool.not_eq_true',Bool.not_eq_false'] at c18
     refine Vq Zt (by kernel_rfl) (Zzp (Jb::Jb::Yca [Jb])) (by kernel_rfl) ?_
     refine zX4 c18 c19 c20 c21 ?_
     refine zG ?_
     exact Zuc hz9 c18 c19 c20 c21
    replace hz9:=Zn c19 hz9
    try rw [c19] at c18
    try simp only [Bool.cond_true,Bool.cond_false,Bool.true_bne,Bool.false_bne,Bool.true_beq,Bool.false_beq,Bool.not_eq_true',Bool.not_eq_false'] at c18
    rcases Bool.eq_false_or_eq_true (decide (2≤a0.Kind)) with c23 | c23
    ·replace hz9:=Zo c23 hz9
     try rw [c23] at c18
     try rw [c23] at c19
     try simp only [Bool.cond_true,Bool.cond_false,Bool.true_bne,Bool.false_bne,Bool.true_beq,Bool.false_beq,Bool.not_eq_true',Bool.not_eq_false'] at c18
     rcases Bool.eq_false_or_eq_true (decide (a0.Kind≤7)) with c24 | c24
     ·replace hz9:=Zo c24 hz9
      try rw [c24] at c18
      try rw [c24] at c19
      try rw [c24] at c23
      try simp only [Bool.cond_true,Bool.cond_false,Bool.true_bne,Bool.false_bne,Bool.true_beq,Bool.false_beq,Bool.not_eq_true',Bool.not_eq_false'] at c18
      obtain ⟨x16,hx16,ax16,bx16,cx16,hz9⟩:=bE (f:=(eI .u64)) Zly (fun _=>rfl) (by decide) hz9
      obtain ⟨y17,hy17,hz9⟩:=bC hz9
      refine Vq Zt (by kernel_rfl) (Zzp (Z5o [])) (by kernel_rfl) ?_
      refine zF7 c18 c19 c23 c24 ax16 bx16 cx16 ?_
      refine zG ?_
      refine PCall.of (Zjo hy17) ?_
      refine zF7 c18 c19 c23 c24 ax16 bx16 cx16 ?_
      refine zG ?_
      exact Z1q hz9 c18 c19 c23 c24 ax16 bx16 cx16
     replace hz9:=Zn c24 hz9
     try rw [c24] at c18
     try rw [c24] at c19
     try rw [c24] at c23
     try simp only [Bool.cond_true,Bool.cond_false,Bool.true_bne,Bool.false_bne,Bool.true_beq,Bool.false_beq,Bool.not_eq_true',Bool.not_eq_false'] at c18
     refine Vq Zt (by kernel_rfl) (Zzp (Jb::Jb::Yca [Jb])) (by kernel_rfl) ?_
     refine zX4 c18 c19 c23 c24 ?_
     refine zG ?_
     exact Zuc hz9 c18 c19 c23 c24
    replace hz9:=Zn c23 hz9
    try rw [c23] at c18
    try rw [c23] at c19
    try simp only [Bool.cond_true,Bool.cond_false,Bool.true_bne,Bool.false_bne,Bool.true_beq,Bool.false_beq,Bool.not_eq_true',Bool.not_eq_false'] at c18
    refine Vq Zt (by kernel_rfl) (Zzp (Jb::Jb::Yca [Jb])) (by kernel_rfl) ?_
    refine zX3 c18 c19 c23 ?_
    refine zG ?_
    exact Zdq hz9 c18 c19 c23
   refine Zp (t:=z9) rfl (fun c25 => ?_) (fun c25 => ?_)
   ·replace hs0_:=Zo c25 hs0_
    refine zQ [4] ?_
    refine zW ?_
    exact zEy hs0_
   replace hs0_:=Zn c25 hs0_
   refine Q5 [1,2,5] [true,false] ?_
   refine zR ?_
   exact Vu hs0_
  replace hs0_:=Zn c27 hs0_
  exact zEx hs0_
 rcases z28 with z28 | z28
 ·dsimp only [Xg] at hw h
  refine Qj hw ?_
  try simp only [Yg,Z3,↓reduceIte,Nat.reduceEqDiff]
  obtain rfl:=sI h
  refine Zq (.inr rfl) hU [(vB false)] (by omega) ?_
  simp only [push_cast,seval,Zf,Tryz.results27,hN0,hN]
 dsimp only [Xg] at hw h
 refine Z8 hw ?_
 try simp only [Yg,Z3,↓reduceIte,Nat.reduceEqDiff]
 refine zD [] [false] ?_
 refine zQ [4] ?_
 refine zW ?_
 obtain rfl:=sI h
 refine Zq (.inr rfl) hU [(vB true)] (by omega) ?_
 simp only [push_cast,seval,Zf,Tryz.results27,hN0,hN]
theorem Zmp:∀ k,(Zhf (Jc k)):=fun k=>by
 induction k with
 | zero=>exact @fun a0 a1 r O n h=>(nomatch (show (none:Option _)=some _ from h))
 | succ k ih=>exact @fun a0 a1 r O n h=>Zoo (ih)  h
theorem Zbz {a0:Zc} {a1:Int} {r:Bool} {O:Objs} {n:Nat} (h:Gv a0 a1=some r):GTo Tryz.prog 27 [.agg (Zv a0),(vI a1)] O n ((vB r)) O n:=by
 obtain ⟨k,hk⟩:=Ux h
 exact (Zmp k)  hk
theorem Zix {a0:Int} {r:(Arr Int 8)} {O:Objs} {n:Nat} (h:Vi a0=some r):GTo Tryz.prog 70 [.val (.int .u64 a0)] O n (.agg (fl (eI .u8) r.1)) O n:=by
 unfold Vi at h
 refine fn0 Zt Tryz.call70 Tryz.func70 rfl fun hU hN0 hN => ?_
 show W _ _ _ _ ⟨18,[],[(0,.val (.int .u64 a0))]⟩ (Zr O n []) _
 obtain ⟨y3,hy3,ey3,h⟩:=bY (f:=(eI .u8)) (cs:=[.val (.int .u8 0),.val (.int .u8 0),.val (.int .u8 0),.val (.int .u8 0),.val (.int .u8 0),.val (.int .u8 0),.val (.int .u8 0),.val (.int .u8 0)]) rfl h
 have g4:=congrArg (GObj.mk false 87 8 1) ey3
 refine Ykh [0,2] g4 ?_
 refine Zl ?_
 obtain ⟨y9,hy9,ey9,h⟩:=bY (f:=(eI .u8)) (cs:=[.val (.int .u8 0),.val (.int .u8 0),.val (.int .u8 0),.val (.int .u8 0),.val (.int .u8 0),.val (.int .u8 0),.val (.int .u8 0),.val (.int .u8 0)]) rfl h
 have g10:=congrArg G.agg ey9
 have g11:=congrArg (GObj.mk false 87 8 1) ey9
 have g12:=Zjg (f:=(eI .u8)) y9 y9 (fun _=>rfl)
 refine U1 [] g10 g11 g12 ?_
 refine zDs [0,2,3] [true,true] ?_
 refine zQd [0,2,3,4] [0,2,3,4] [true,true] ?_
 obtain ⟨z18,hz18,h⟩:=bC h
 refine Z8 (E':=⟨18,[],[(2,.ref n 0),(3,.ref (n+1) 0)]⟩) (O':=(Zr O n [some ⟨false,87,8,1,fl (eI .u8) y3.1⟩,some ⟨false,87,8,1,fl (eI .u8) z18.1⟩])) (n0:=(n+2)) ?_ ?_
 ·refine Yi hz18 (fun s0_=>⟨18,[],[(0,.val (.int .u64 s0_.1)),(2,.ref n 0),(3,.ref (n+1) 0),(4,(vI s0_.2.1))]⟩) (fun s0_=>(Zr O n [some ⟨false,87,8,1,fl (eI .u8) y3.1⟩,some ⟨false,87,8,1,fl (eI .u8) s0_.2.2.1⟩])) (fun z18=>JX 0 n (⟨18,[],[(2,.ref n 0),(3,.ref (n+1) 0)]⟩:Env) (Zr O n [some ⟨false,87,8,1,fl (eI .u8) y3.1⟩,some ⟨false,87,8,1,fl (eI .u8) z18.1⟩]) (n+2)) ?_
  intro s0_ x0_ hs0_
  unfold Ve at hs0_
  try dsimp only
  refine Zl ?_
  refine zQ [0,2,3,4,7] ?_
  refine Zp (t:=(decide (s0_.2.1 < 8))) rfl (fun c17 => ?_) (fun c17 => ?_)
  ·replace hs0_:=Zo c17 hs0_
   refine Q5 [0,2,3,4] [true,true] ?_
   refine Zl ?_
   refine Z0 ?_
   refine Zl ?_
   obtain ⟨x15,hx15,ax15,bx15,cx15,hs0_⟩:=bEA (f:=(eI .u8)) (b:=8) rfl Z31 (fun _=>rfl) (by decide) hs0_
   have gu16:Ke (fl (eI .u8) s0_.2.2.1) [.val (.int .u8 (IntKind.u8.wrap (Int.tmod s0_.1 256)))] (Int.toNat s0_.2.1 * 1)=some (fl (eI .u8) (Zlw s0_.2.2.1 s0_.2.1 (IntKind.u8.wrap (Int.tmod s0_.1 256)))):=Zus (f:=(eI .u8)) (ti:=⟨.bool,1,0,[],false⟩) (x:=(IntKind.u8.wrap (Int.tmod s0_.1 256))) (fun _=>rfl) (Zh4 hx15)
   refine Zi2 [] ax15 bx15 cx15 gu16 ?_
   refine zD [0,2,3,4] [true,true] ?_
   refine zRd [0,2,3,4] [true,true] ?_
   refine zR ?_
   exact Vu hs0_
  replace hs0_:=Zn c17 hs0_
  exact zEx hs0_
 try simp only [Yg,Z3,↓reduceIte,Nat.reduceEqDiff]
 refine zDs [2,3] [true,true] ?_
 have g21:=Z03 (f:=(eI .u8)) z18 Z1n rfl (fun _=>rfl) rfl
 have g22:=Zjg (f:=(eI .u8)) y3 z18 (fun _=>rfl)
 refine Ja [] g21 g22 ?_
 refine zD [2] [true,false] ?_
 refine zW ?_
 obtain rfl:=sI h
 have gR0:=Z03 (f:=(eI .u8)) z18 Z1n rfl (fun _=>rfl) rfl
 refine Zq (.inr rfl) hU [.agg (fl (eI .u8) z18.1)] (by omega) ?_
 simp only [push_cast,seval,Zf,Tryz.results70,hN0,hN,gR0]
theorem Zqt {a0:Int} {a1:Int} {r:Bool} {O:Objs} {n:Nat} (h:Gt a0 a1=some r):GTo Tryz.prog 71 [.val (.int .u8 a0),(vI a1)] O n ((vB r)) O n:=by
 unfold Gt at h
 refine fn0 Zt Tryz.call71 Tryz.func71 rfl fun hU hN0 hN => ?_
 show W _ _ _ _ ⟨16,[],[(0,.val (.int .u8 a0)),(1,(vI a1))]⟩ (Zr O n []) _
 refine zQ [0,1] ?_
 refine Zl ?_
 refine zQd [0,1,5] [0,1,5] [] ?_
 obtain ⟨z2,hz2,h⟩:=bC h
 refine Z8 (E':=⟨16,[],[(0,.val (.int .u8 z2))]⟩) (O':=(Zr O n [])) (n0:=n) ?_ ?_
 ·refine Yi hz2 (fun s0_=>⟨16,[],[(0,.val (.int .u8 s0_.1)),(1,(vI a1)),(5,(vI s0_.2))]⟩) (fun s0_=>(Zr O n [])) (fun z2=>JX 0 n (⟨16,[],[(0,.val (.int .u8 z2))]⟩:Env) (Zr O n []) n) ?_
  intro s0_ x0_ hs0_
  unfold Jp at hs0_
  try dsimp only
  refine Zl ?_
  refine zQ [0,1,5,8] ?_
  refine Zp (t:=(decide (s0_.2 < a1))) rfl (fun c1 => ?_) (fun c1 => ?_)
  ·replace hs0_:=Zo c1 hs0_
   refine Q5 [0,1,5] [] ?_
   refine Zl ?_
   refine Z0 ?_
   refine zRd [0,1,5] [] ?_
   refine zR ?_
   exact Vu hs0_
  replace hs0_:=Zn c1 hs0_
  exact zEx hs0_
 try simp only [Yg,Z3,↓reduceIte,Nat.reduceEqDiff]
 refine zD [0] [] ?_
 refine zQ [4] ?_
 refine zW ?_
 obtain rfl:=sI h
 refine Zq (.inr rfl) hU [(vB ((Int.tmod z2 2) == 1))] (by omega) ?_
 simp only [push_cast,seval,Zf,Tryz.results71,hN0,hN]
theorem Zuy {a0:(List Int)} {a1:Int} {r:Int} {O:Objs} {n:Nat} (h:Zfs a0 a1=some r):GTo Tryz.prog 72 [(sL (eI .u8) a0),(vI a1)] O n (.val (.int .u64 r)) O n:=by
 unfold Zfs at h
 refine fn0 Zt Tryz.call72 Tryz.func72 rfl fun hU hN0 hN => ?_
 show W _ _ _ _ ⟨22,[],[(0,(sL (eI .u8) a0)),(1,(vI a1))]⟩ (Zr O n []) _
 refine zQ [0,1] ?_
 refine zQ [0,1,5] ?_
 refine Zl ?_
 refine zQd [0,1,5,6] [0,1,5,6] [] ?_
 obtain ⟨z3,hz3,h⟩:=bC h
 refine Z8 (E':=⟨22,[],[(5,.val (.int .u64 z3))]⟩) (O':=(Zr O n [])) (n0:=n) ?_ ?_
 ·refine Yi hz3 (fun s0_=>⟨22,[],[(0,(sL (eI .u8) a0)),(1,(vI a1)),(5,.val (.int .u64 s0_.1)),(6,(vI s0_.2))]⟩) (fun s0_=>(Zr O n [])) (fun z3=>JX 0 n (⟨22,[],[(5,.val (.int .u64 z3))]⟩:Env) (Zr O n []) n) ?_
  intro s0_ x0_ hs0_
  unfold Gu at hs0_
  try dsimp only
  refine Zl ?_
  refine zQ [0,1,5,6,8] ?_
  refine Zp (t:=(decide (0≤s0_.2))) rfl (fun c2 => ?_) (fun c2 => ?_)
  ·replace hs0_:=Zo c2 hs0_
   refine Q5 [0,1,5,6] [] ?_
   refine Zl ?_
   refine Z0 ?_
   obtain ⟨x1,hx1,ax1,bx1,cx1,hs0_⟩:=bE (f:=(eI .u8)) Z31 (fun _=>rfl) (by decide) hs0_
   refine Zdr [] ax1 bx1 cx1 ?_
   refine zD [0,1,5,6] [] ?_
   refine zR ?_
   exact Vu hs0_
  replace hs0_:=Zn c2 hs0_
  exact zEx hs0_
 try simp only [Yg,Z3,↓reduceIte,Nat.reduceEqDiff]
 refine zD [5] [] ?_
 refine zQ [4] ?_
 refine zW ?_
 obtain rfl:=sI h
 refine Zq (.inr rfl) hU [.val (.int .u64 z3)] (by omega) ?_
 simp only [push_cast,seval,Zf,Tryz.results72,hN0,hN]
theorem Zsp {a0:Int} {a1:Int} {a2:Int} {r:Int} {O:Objs} {n:Nat} (h:Zcl a0 a1 a2=some r):GTo Tryz.prog 52 [.val (.int .u64 a0),.val (.int .u64 a1),.val (.int .u8 a2)] O n (.val (.int .u64 r)) O n:=by
 unfold Zcl at h
 refine fn0 Zt Tryz.call52 Tryz.func52 rfl fun hU hN0 hN => ?_
 show W _ _ _ _ ⟨28,[],[(0,.val (.int .u64 a0)),(1,.val (.int .u64 a1)),(2,.val (.int .u8 a2))]⟩ (Zr O n []) _
 refine zQ [0,1,2] ?_
 refine Zl ?_
 obtain ⟨y8,hy8,h⟩:=bC h
 obtain ⟨y9,hy9,h⟩:=bC h
 obtain ⟨y10,hy10,ey10,h⟩:=bY (f:=(eI .u8)) (cs:=[.val (.int .u8 0),.val (.int .u8 0),.val (.int .u8 0),.val (.int .u8 0),.val (.int .u8 0),.val (.int .u8 0),.val (.int .u8 0),.val (.int .u8 0)]) rfl h
 have g11:=congrArg (GObj.mk false 87 8 1) ey10
 have g12:=congrArg (GObj.mk false 87 8 1) ey10
 have g13:=Zjg (f:=(eI .u8)) y10 y8 (fun _=>rfl)
 have g14:=Zjg (f:=(eI .u8)) y10 y9 (fun _=>rfl)
 refine Zud [] g11 g12 g13 g14 ?_
 refine (Zix hy8).then ?_
 refine zX4 g11 g12 g13 g14 ?_
 refine (Zix hy9).then ?_
 refine zX4 g11 g12 g13 g14 ?_
 refine zDs [2,7,8] [true,true] ?_
 refine zQd [2,7,8,9] [2,7,8,9] [true,true] ?_
 obtain ⟨z23,hz23,h⟩:=bC h
 refine Z8 (E':=⟨28,[],[(7,.ref n 0)]⟩) (O':=(Zr O n [some ⟨false,87,8,1,fl (eI .u8) z23.1⟩,none])) (n0:=(n+2)) ?_ ?_
 ·refine Yi hz23 (fun s0_=>⟨28,[],[(2,.val (.int .u8 a2)),(7,.ref n 0),(8,.ref (n+1) 0),(9,(vI s0_.1))]⟩) (fun s0_=>(Zr O n [some ⟨false,87,8,1,fl (eI .u8) s0_.2.1⟩,some ⟨false,87,8,1,fl (eI .u8) y9.1⟩])) (fun z23=>JX 0 n (⟨28,[],[(7,.ref n 0)]⟩:Env) (Zr O n [some ⟨false,87,8,1,fl (eI .u8) z23.1⟩,none]) (n+2)) ?_
  intro s0_ x0_ hs0_
  unfold Uy at hs0_
  try dsimp only
  refine Zl ?_
  refine zQ [2,7,8,9,15] ?_
  refine Zp (t:=(decide (s0_.1 < 8))) rfl (fun c22 => ?_) (fun c22 => ?_)
  ·replace hs0_:=Zo c22 hs0_
   refine Q5 [2,7,8,9] [true,true] ?_
   obtain ⟨z15,hz15,hs0_⟩:=bC hs0_
   refine Yk (E':=⟨28,[],[(2,.val (.int .u8 a2)),(7,.ref n 0),(8,.ref (n+1) 0),(9,(vI s0_.1))]⟩) (O':=(Zr O n [some ⟨false,87,8,1,fl (eI .u8) z15.1⟩,some ⟨false,87,8,1,fl (eI .u8) y9.1⟩])) (n0:=(n+2)) ?_ ?_
   ·refine Z0 ?_
    refine Zl ?_
    obtain ⟨y17,hy17,hz15⟩:=bC hz15
    refine zCd (Zqt hy17) [2,7,8,9,20] [true,true] ?_
    refine Zp (t:=y17) rfl (fun c21 => ?_) (fun c21 => ?_)
    ·replace hz15:=Zo c21 hz15
     obtain ⟨x18,hx18,ax18,bx18,cx18,hz15⟩:=bEA (f:=(eI .u8)) (b:=8) rfl Z31 (fun _=>rfl) (by decide) hz15
     obtain ⟨x19,hx19,ax19,bx19,cx19,hz15⟩:=bEA (f:=(eI .u8)) (b:=8) rfl Z31 (fun _=>rfl) (by decide) hz15
     have gu20:Ke (fl (eI .u8) s0_.2.1) [.val (.int .u8 x18)] (Int.toNat s0_.1 * 1)=some (fl (eI .u8) (Zlw s0_.2.1 s0_.1 x18)):=Zus (f:=(eI .u8)) (ti:=⟨.bool,1,0,[],false⟩) (x:=x18) (fun _=>rfl) (Zh4 hx19)
     refine Z6f [] ax18 bx18 cx18 ax19 bx19 cx19 gu20 ?_
     exact Z1q hz15 ax18 bx18 cx18 ax19 bx19 cx19 gu20
    replace hz15:=Zn c21 hz15
    refine zK ?_
    exact Vu hz15
   refine zR ?_
   exact Vu hs0_
  replace hs0_:=Zn c22 hs0_
  exact zEx hs0_
 try simp only [Yg,Z3,↓reduceIte,Nat.reduceEqDiff]
 refine zDs [7] [true,false] ?_
 have g27:=Z6y (j:=n) Zt8 Z31 (by decide)
 have g28:=z23.2
 obtain ⟨y29,hy29,h⟩:=bC h
 refine Ja [] g27 g28 ?_
 refine GCalls.lend (Zuy hy29) rfl ?_ ?_
 ·exact Vt g27 g28
 refine zX2 g27 g28 ?_
 refine zD [6] [false,false] ?_
 refine zW ?_
 obtain rfl:=sI h
 refine Zq (.inr rfl) hU [.val (.int .u64 y29)] (by omega) ?_
 simp only [push_cast,seval,Zf,Tryz.results52,hN0,hN]
theorem Zem {a0:Int} {a1:Int} {r:Bool} {O:Objs} {n:Nat} (h:Ku a0 a1=some r):GTo Tryz.prog 28 [.val (.int .u64 a0),.val (.int .u8 a1)] O n ((vB r)) O n:=by
 unfold Ku at h
 refine fn0 Zt Tryz.call28 Tryz.func28 rfl fun hU hN0 hN => ?_
 show W _ _ _ _ ⟨9,[],[(0,.val (.int .u64 a0)),(1,.val (.int .u8 a1))]⟩ (Zr O n []) _
 refine zQ [0,1] ?_
 refine Zl ?_
 obtain ⟨y2,hy2,h⟩:=bC h
 refine zCd (Zsp hy2) [4] [] ?_
 refine zW ?_
 obtain rfl:=sI h
 refine Zq (.inr rfl) hU [(vB (y2 == 0))] (by omega) ?_
 simp only [push_cast,seval,Zf,Tryz.results28,hN0,hN]
theorem Zjq {a0:Zb} {r:Bool} {O:Objs} {n:Nat} (h:Ug a0=some r):GTo Tryz.prog 53 [.agg (Ze a0)] O n ((vB r)) O n:=by
 unfold Ug at h
 refine fn0 Zt Tryz.call53 Tryz.func53 rfl fun hU hN0 hN => ?_
 show W _ _ _ _ ⟨35,[],[(0,.agg (Ze a0))]⟩ (Zr O n []) _
 refine zQ [1] ?_
 obtain ⟨z3,hz3,h⟩:=bC h
 refine Yk (E':=⟨35,[],[(2,(vB z3))]⟩) (O':=(Zr O n [none])) (n0:=(n+1)) ?_ ?_
 ·rcases Bool.eq_false_or_eq_true (a0.Kind == 0) with c8 | c8
  ·replace hz3:=Zo c8 hz3
   obtain ⟨y6,hy6,hz3⟩:=bC hz3
   rcases Bool.eq_false_or_eq_true y6 with c9 | c9
   ·replace hz3:=Zo c9 hz3
    try rw [c9] at c8
    obtain ⟨y7,hy7,hz3⟩:=bC hz3
    refine Ja (Zvz (Yhe [])) c8 c9 ?_
    refine zG ?_
    refine (Vm hy6).then ?_
    refine zX2 c8 c9 ?_
    refine zG ?_
    refine (Vm hy7).then ?_
    refine zX2 c8 c9 ?_
    refine zG ?_
    exact Zbp hz3 c8 c9
   replace hz3:=Zn c9 hz3
   try rw [c9] at c8
   refine Ja (Zvy (Yfm [])) c8 c9 ?_
   refine (Vm hy6).then ?_
   refine zX2 c8 c9 ?_
   exact Zbp hz3 c8 c9
  replace hz3:=Zn c8 hz3
  refine K3 (Yg9 []) c8 ?_
  exact Kq hz3 c8
 refine zW ?_
 obtain rfl:=sI h
 refine Zq (.inr rfl) hU [(vB z3)] (by omega) ?_
 simp only [push_cast,seval,Zf,Tryz.results53,hN0,hN]
theorem Zhk {a0:Zb} {r:(Int×Int)} {O:Objs} {n:Nat} (h:J8 a0=some r):GTo Tryz.prog 30 [.agg (Ze a0)] O n (.tup [(vI r.1),(vI r.2)]) O n:=by
 unfold J8 at h
 refine fn0 Zt Tryz.call30 Tryz.func30 rfl fun hU hN0 hN => ?_
 show W _ _ _ _ ⟨48,[],[(0,.agg (Ze a0))]⟩ (Zr O n []) _
 refine zQ [1] ?_
 refine zQ [1,4,5] ?_
 refine Zl ?_
 refine zQd [1,4,5,6] [1,4,5,6] [true] ?_
 obtain ⟨z14,hz14,h⟩:=bC h
 refine Z8 (E':=⟨48,[],[(4,(vI z14.1)),(5,(vI z14.2))]⟩) (O':=(Zr O n [none])) (n0:=(n+1)) ?_ ?_
 ·refine Yi hz14 (fun s0_=>⟨48,[],[(1,.ref n 0),(4,(vI s0_.1)),(5,(vI s0_.2.1)),(6,(vI s0_.2.2))]⟩) (fun s0_=>(Zr O n [some ⟨false,30,11,1,(Ze a0)⟩])) (fun z14=>JX 0 n (⟨48,[],[(4,(vI z14.1)),(5,(vI z14.2))]⟩:Env) (Zr O n [none]) (n+1)) ?_
  intro s0_ x0_ hs0_
  unfold J9 at hs0_
  try dsimp only
  refine Zl ?_
  refine zQ [1,4,5,6,13] ?_
  refine Zp (t:=(decide (s0_.2.2 < (a0.Ops.length:Int)))) rfl (fun c13 => ?_) (fun c13 => ?_)
  ·replace hs0_:=Zo c13 hs0_
   refine Q5 [1,4,5,6] [true] ?_
   obtain ⟨z1,hz1,hs0_⟩:=bC hs0_
   refine Yk (E':=⟨48,[],[(1,.ref n 0),(4,(vI z1.1)),(5,(vI z1.2)),(6,(vI s0_.2.2))]⟩) (O':=(Zr O n [some ⟨false,30,11,1,(Ze a0)⟩,none])) (n0:=(n+2)) ?_ ?_
   ·refine Z0 ?_
    refine Zl ?_
    obtain ⟨x3,hx3,ax3,bx3,cx3,hz1⟩:=bE (f:=Zd) Jw (fun _=>rfl) (by decide) hz1
    refine Zdr [] ax3 bx3 cx3 ?_
    refine zD [1,4,5,6,7] [true,true] ?_
    refine zQ [1,4,5,6,7,8] ?_
    obtain ⟨z4,hz4,hz1⟩:=bC hz1
    refine Yk (E':=⟨48,[],[(1,.ref n 0),(4,(vI s0_.1)),(5,(vI s0_.2.1)),(6,(vI s0_.2.2)),(7,.ref (n+1) 0),(8,(vI z4))]⟩) (O':=(Zr O n [some ⟨false,30,11,1,(Ze a0)⟩,some ⟨false,42,14,1,(Z6 x3)⟩])) (n0:=(n+2)) ?_ ?_
    ·refine zQ [1,4,5,6,7,8,29] ?_
     refine Zp (t:=(x3.Kind == 3)) rfl (fun c5 => ?_) (fun c5 => ?_)
     ·replace hz4:=Zo c5 hz4
      refine zR ?_
      exact Vu hz4
     replace hz4:=Zn c5 hz4
     refine zK ?_
     exact Vu hz4
    obtain ⟨z6,hz6,hz1⟩:=bC hz1
    refine Yk (E':=⟨48,[],[(1,.ref n 0),(4,(vI z6)),(5,(vI s0_.2.1)),(6,(vI s0_.2.2)),(7,.ref (n+1) 0),(8,(vI z4))]⟩) (O':=(Zr O n [some ⟨false,30,11,1,(Ze a0)⟩,some ⟨false,42,14,1,(Z6 x3)⟩])) (n0:=(n+2)) ?_ ?_
    ·refine zQ [1,4,5,6,7,8,32] ?_
     refine Zp (t:=(x3.Kind != 2)) rfl (fun c7 => ?_) (fun c7 => ?_)
     ·replace hz6:=Zo c7 hz6
      refine zR ?_
      exact Vu hz6
     replace hz6:=Zn c7 hz6
     refine zK ?_
     exact Vu hz6
    obtain ⟨z8,hz8,hz1⟩:=bC hz1
    refine Yk (E':=⟨48,[],[(1,.ref n 0),(4,(vI z6)),(5,(vI z8)),(6,(vI s0_.2.2))]⟩) (O':=(Zr O n [some ⟨false,30,11,1,(Ze a0)⟩,none])) (n0:=(n+2)) ?_ ?_
    ·refine zQ [1,4,5,6,8,38] ?_
     refine Zp (t:=(x3.Kind != 1)) rfl (fun c9 => ?_) (fun c9 => ?_)
     ·replace hz8:=Zo c9 hz8
      refine zR ?_
      exact Vu hz8
     replace hz8:=Zn c9 hz8
     refine zK ?_
     exact Vu hz8
    obtain ⟨z10,hz10,hz1⟩:=bC hz1
    refine Yk (E':=⟨48,[],[(1,.ref n 0),(4,(vI z10)),(5,(vI z8)),(6,(vI s0_.2.2))]⟩) (O':=(Zr O n [some ⟨false,30,11,1,(Ze a0)⟩,none])) (n0:=(n+2)) ?_ ?_
    ·refine zQ [1,4,5,6,43] ?_
     refine Zp (t:=(decide (1048576 < z6))) rfl (fun c11 => ?_) (fun c11 => ?_)
     ·replace hz10:=Zo c11 hz10
      refine zR ?_
      exact Vu hz10
     replace hz10:=Zn c11 hz10
     refine zK ?_
     exact Vu hz10
    refine zQ [1,4,5,6,45] ?_
    refine Zp (t:=(decide (1048576 < z8))) rfl (fun c12 => ?_) (fun c12 => ?_)
    ·replace hz1:=Zo c12 hz1
     refine zR ?_
     exact Vu hz1
    replace hz1:=Zn c12 hz1
    refine zK ?_
    exact Vu hz1
   refine zR ?_
   exact Vu hs0_
  replace hs0_:=Zn c13 hs0_
  exact zEx hs0_
 try simp only [Yg,Z3,↓reduceIte,Nat.reduceEqDiff]
 refine zD [4,5] [false] ?_
 refine zQ [2,3] ?_
 refine zW ?_
 obtain rfl:=sI h
 refine Zq (.inr rfl) hU [(vI z14.1),(vI z14.2)] (by omega) ?_
 simp only [push_cast,seval,Zf,Tryz.results30,hN0,hN]
def Zdw (Xd:(Zb→Int→Option Bool)):Prop:=∀ {a0:Zb} {a1:Int} {r:Bool} {O:Objs} {n:Nat},Xd a0 a1=some r→GTo Tryz.prog 13 [.agg (Ze a0),(vI a1)] O n ((vB r)) O n
def Zf1 (X6:(Int→Zg→Int→Option Bool)):Prop:=∀ {a0:Int} {a1:Zg} {a2:Int} {r:Bool} {O:Objs} {n:Nat},X6 a0 a1 a2=some r→GTo Tryz.prog 29 [(vI a0),.agg (Z6 a1),(vI a2)] O n ((vB r)) O n
theorem Zor {Xd:(Zb→Int→Option Bool)} {X6:(Int→Zg→Int→Option Bool)} (Zdy:Zdw Xd) (Zjt:Zf1 X6) {a0:Zb} {a1:Int} {r:Bool} {O:Objs} {n:Nat} (h:Gl Xd X6 a0 a1=some r):GTo Tryz.prog 13 [.agg (Ze a0),(vI a1)] O n ((vB r)) O n:=by
 unfold Gl at h
 refine fn0 Zt Tryz.call13 Tryz.func13 rfl fun hU hN0 hN => ?_
 show W _ _ _ _ ⟨216,[],[(0,.agg (Ze a0)),(1,(vI a1))]⟩ (Zr O n []) _
 refine zQ [1,2] ?_
 refine Zl ?_
 refine zQD [1,2,24] [none,none,none,none,none,none] ?_
 refine Zp (t:=(cond (cond (a1 == 0) true (decide (a0.Kind < 0))) true (decide (3 < a0.Kind)))) rfl (fun c58 => ?_) (fun c58 => ?_)
 ·replace h:=Zo c58 h
  refine zQ [4] ?_
  refine zW ?_
  obtain rfl:=sI h
  refine Zq (.inr rfl) hU [(vB false)] (by omega) ?_
  simp only [push_cast,seval,Zf,Tryz.results13,hN0,hN]
 replace h:=Zn c58 h
 refine Q5 [1,2] [true] ?_
 refine Zl ?_
 obtain ⟨z3,hz3,h⟩:=bC h
 refine Yk (E':=⟨216,[],[(1,(vI a1)),(2,.ref n 0),(69,(vB z3))]⟩) (O':=(Zr O n [some ⟨false,30,11,1,(Ze a0)⟩])) (n0:=(n+1)) ?_ ?_
 ·rcases Bool.eq_false_or_eq_true (a0.Kind != 1) with c8 | c8
  ·replace hz3:=Zo c8 hz3
   obtain ⟨y6,hy6,hz3⟩:=bC hz3
   rcases Bool.eq_false_or_eq_true y6 with c9 | c9
   ·replace hz3:=Zo c9 hz3
    try rw [c9] at c8
    obtain ⟨y7,hy7,hz3⟩:=bC hz3
    refine Ja (Yi8 (Yhh [])) c8 c9 ?_
    refine zG ?_
    refine (Vm hy6).then ?_
    refine zX2 c8 c9 ?_
    refine zG ?_
    refine (Vm hy7).then ?_
    refine zX2 c8 c9 ?_
    refine zG ?_
    exact Zbp hz3 c8 c9
   replace hz3:=Zn c9 hz3
   try rw [c9] at c8
   refine Ja (Z65 (Z5l (Jb::Jb::Yfo []))) c8 c9 ?_
   refine (Vm hy6).then ?_
   refine zX2 c8 c9 ?_
   exact Zbp hz3 c8 c9
  replace hz3:=Zn c8 hz3
  refine K3 (Yca (Z65 (Zzp (Jb::Yhd [])))) c8 ?_
  refine zG ?_
  exact Kq hz3 c8
 refine Zp (t:=z3) rfl (fun c57 => ?_) (fun c57 => ?_)
 ·replace h:=Zo c57 h
  refine zQ [4] ?_
  refine zW ?_
  obtain rfl:=sI h
  refine Zq (.inr rfl) hU [(vB false)] (by omega) ?_
  simp only [push_cast,seval,Zf,Tryz.results13,hN0,hN]
 replace h:=Zn c57 h
 refine Q5 [1,2] [true] ?_
 refine Zl ?_
 refine zQ [1,2,72] ?_
 refine Zp (t:=(a0.Kind == 1)) rfl (fun c56 => ?_) (fun c56 => ?_)
 ·replace h:=Zo c56 h
  obtain ⟨z12,hz12,h⟩:=bC h
  refine Yk (E':=⟨216,[],[(4,(vB z12))]⟩) (O':=(Zr O n [none])) (n0:=(n+1)) ?_ ?_
  ·obtain ⟨y15,hy15,hz12⟩:=bC hz12
   rcases Bool.eq_false_or_eq_true y15 with c17 | c17
   ·replace hz12:=Zo c17 hz12
    obtain ⟨y16,hy16,hz12⟩:=bC hz12
    refine K3 (Zvy (Zzp [])) c17 ?_
    refine zG ?_
    refine (Zbz hy15).then ?_
    refine zX1 c17 ?_
    refine zG ?_
    refine (Zbz hy16).then ?_
    refine zX1 c17 ?_
    refine zG ?_
    exact Kq hz12 c17
   replace hz12:=Zn c17 hz12
   refine K3 (Yfl []) c17 ?_
   refine (Zbz hy15).then ?_
   refine zX1 c17 ?_
   exact Kq hz12 c17
  refine zW ?_
  obtain rfl:=sI h
  refine Zq (.inr rfl) hU [(vB z12)] (by omega) ?_
  simp only [push_cast,seval,Zf,Tryz.results13,hN0,hN]
 replace h:=Zn c56 h
 refine Q5 [1,2] [true] ?_
 refine zQ [1,2,5] ?_
 refine Zl ?_
 refine zQd [1,2,5,6] [1,2,5,6] [true] ?_
 obtain ⟨z33,hz33,h⟩:=bC h
 refine U3 (J:=(Xg (fun z33=>JR n (⟨216,[],[(4,(vB false))]⟩:Env) (Zr O n [none]) (n+1)) (fun z33=>JX 0 n (⟨216,[],[(1,(vI a1)),(2,.ref n 0)]⟩:Env) (Zr O n [some ⟨false,30,11,1,(Ze a0)⟩]) (n+1)))) (z:=z33) ?_ fun hw => ?_
 ·refine Yi hz33 (fun s0_=>⟨216,[],[(1,(vI a1)),(2,.ref n 0),(5,(vI s0_.1)),(6,(vI s0_.2))]⟩) (fun s0_=>(Zr O n [some ⟨false,30,11,1,(Ze a0)⟩])) (Xg (fun z33=>JR n (⟨216,[],[(4,(vB false))]⟩:Env) (Zr O n [none]) (n+1)) (fun z33=>JX 0 n (⟨216,[],[(1,(vI a1)),(2,.ref n 0)]⟩:Env) (Zr O n [some ⟨false,30,11,1,(Ze a0)⟩]) (n+1))) ?_
  intro s0_ x0_ hs0_
  unfold Jm at hs0_
  try dsimp only
  refine Zl ?_
  refine zQ [1,2,5,6,97] ?_
  refine Zp (t:=(decide (s0_.2 < (a0.Words.length:Int)))) rfl (fun c32 => ?_) (fun c32 => ?_)
  ·replace hs0_:=Zo c32 hs0_
   refine Q5 [1,2,5,6] [true] ?_
   refine Zl ?_
   refine Z0 ?_
   refine Zl ?_
   obtain ⟨x19,hx19,ax19,bx19,cx19,hs0_⟩:=bE (f:=Zi) Zq9 (fun _=>rfl) (by decide) hs0_
   refine Zdr [] ax19 bx19 cx19 ?_
   refine zDs [1,2,5,6,7] [true,true] ?_
   obtain ⟨z22,hz22,hs0_⟩:=bC hs0_
   refine Yk (E':=⟨216,[],[(1,(vI a1)),(2,.ref n 0),(6,(vI s0_.2)),(7,.ref (n+1) 0),(134,(vB z22))]⟩) (O':=(Zr O n [some ⟨false,30,11,1,(Ze a0)⟩,some ⟨false,49,4,1,(Zcf x19)⟩])) (n0:=(n+2)) ?_ ?_
   ·rcases Bool.eq_false_or_eq_true (decide (x19.At≤s0_.1)) with c27 | c27
    ·replace hz22:=Zo c27 hz22
     refine K3 (Z2v (Zzn [])) c27 ?_
     refine zG ?_
     exact Kq hz22 c27
    replace hz22:=Zn c27 hz22
    rcases Bool.eq_false_or_eq_true (decide (65534 < x19.At)) with c28 | c28
    ·replace hz22:=Zo c28 hz22
     try rw [c28] at c27
     refine Ja (Z2v (Zzn [])) c27 c28 ?_
     refine zG ?_
     exact Zbp hz22 c27 c28
    replace hz22:=Zn c28 hz22
    try rw [c28] at c27
    rcases Bool.eq_false_or_eq_true (x19.Mask == 0) with c29 | c29
    ·replace hz22:=Zo c29 hz22
     try rw [c29] at c27
     try rw [c29] at c28
     refine U1 (Z2v (Zzn [])) c27 c28 c29 ?_
     refine zG ?_
     exact Zdq hz22 c27 c28 c29
    replace hz22:=Zn c29 hz22
    try rw [c29] at c27
    try rw [c29] at c28
    obtain ⟨y25,hy25,hz22⟩:=bC hz22
    rcases Bool.eq_false_or_eq_true y25 with c30 | c30
    ·replace hz22:=Zo c30 hz22
     try rw [c30] at c27
     try rw [c30] at c28
     try rw [c30] at c29
     obtain ⟨y26,hy26,hz22⟩:=bC hz22
     refine Zud (Z2v (Z5o [])) c27 c28 c29 c30 ?_
     refine zG ?_
     refine (Zem hy25).then ?_
     refine zX4 c27 c28 c29 c30 ?_
     refine zG ?_
     refine (Zem hy26).then ?_
     refine zX4 c27 c28 c29 c30 ?_
     refine zG ?_
     exact Zuc hz22 c27 c28 c29 c30
    replace hz22:=Zn c30 hz22
    try rw [c30] at c27
    try rw [c30] at c28
    try rw [c30] at c29
    refine Zud (Z2v (Zvz (Zzo []))) c27 c28 c29 c30 ?_
    refine zG ?_
    refine (Zem hy25).then ?_
    refine zX4 c27 c28 c29 c30 ?_
    refine zG ?_
    exact Zuc hz22 c27 c28 c29 c30
   refine Zp (t:=z22) rfl (fun c31 => ?_) (fun c31 => ?_)
   ·replace hs0_:=Zo c31 hs0_
    refine zQ [4] ?_
    refine zW ?_
    exact zEy hs0_
   replace hs0_:=Zn c31 hs0_
   refine Q5 [1,2,6,7] [true,true] ?_
   refine zRd [1,2,5,6] [true,false] ?_
   refine zR ?_
   exact Vu hs0_
  replace hs0_:=Zn c32 hs0_
  exact zEx hs0_
 rcases z33 with z33 | z33
 ·dsimp only [Xg] at hw h
  refine Qj hw ?_
  try simp only [Yg,Z3,↓reduceIte,Nat.reduceEqDiff]
  obtain rfl:=sI h
  refine Zq (.inr rfl) hU [(vB false)] (by omega) ?_
  simp only [push_cast,seval,Zf,Tryz.results13,hN0,hN]
 dsimp only [Xg] at hw h
 refine Z8 hw ?_
 try simp only [Yg,Z3,↓reduceIte,Nat.reduceEqDiff]
 refine zD [1,2] [true] ?_
 refine zQ [1,2,5] ?_
 refine Zl ?_
 refine zQd [1,2,5,8] [1,2,5,8] [true] ?_
 obtain ⟨z45,hz45,h⟩:=bC h
 refine U3 (J:=(Xg (fun z45=>JR n (⟨216,[],[(4,(vB false))]⟩:Env) (Zr O n [none]) (n+1)) (fun z45=>JX 2 n (⟨216,[],[(1,(vI a1)),(2,.ref n 0)]⟩:Env) (Zr O n [some ⟨false,30,11,1,(Ze a0)⟩]) (n+1)))) (z:=z45) ?_ fun hw => ?_
 ·refine Yi hz45 (fun s1_=>⟨216,[],[(1,(vI a1)),(2,.ref n 0),(5,(vI s1_.1)),(8,(vI s1_.2))]⟩) (fun s1_=>(Zr O n [some ⟨false,30,11,1,(Ze a0)⟩])) (Xg (fun z45=>JR n (⟨216,[],[(4,(vB false))]⟩:Env) (Zr O n [none]) (n+1)) (fun z45=>JX 2 n (⟨216,[],[(1,(vI a1)),(2,.ref n 0)]⟩:Env) (Zr O n [some ⟨false,30,11,1,(Ze a0)⟩]) (n+1))) ?_
  intro s1_ x1_ hs1_
  unfold Jn at hs1_
  try dsimp only
  refine Zl ?_
  refine zQ [1,2,5,8,141] ?_
  refine Zp (t:=(decide (s1_.2 < (a0.Kids.length:Int)))) rfl (fun c44 => ?_) (fun c44 => ?_)
  ·replace hs1_:=Zo c44 hs1_
   refine Q5 [1,2,5,8] [true] ?_
   refine Zl ?_
   refine Z0 ?_
   refine Zl ?_
   obtain ⟨x35,hx35,ax35,bx35,cx35,hs1_⟩:=bE (f:=Zh) Zi1 (fun _=>rfl) (by decide) hs1_
   refine Zdr [] ax35 bx35 cx35 ?_
   refine zDs [1,2,5,8,9] [true,true] ?_
   obtain ⟨z37,hz37,hs1_⟩:=bC hs1_
   refine Yk (E':=⟨216,[],[(1,(vI a1)),(2,.ref n 0),(8,(vI s1_.2)),(9,.ref (n+1) 0),(171,(vB z37))]⟩) (O':=(Zr O n [some ⟨false,30,11,1,(Ze a0)⟩,some ⟨false,40,12,1,(K1 x35)⟩])) (n0:=(n+2)) ?_ ?_
   ·rcases Bool.eq_false_or_eq_true (decide (x35.At≤s1_.1)) with c40 | c40
    ·replace hz37:=Zo c40 hz37
     refine K3 (Zux (Zzo [])) c40 ?_
     refine zG ?_
     exact Kq hz37 c40
    replace hz37:=Zn c40 hz37
    rcases Bool.eq_false_or_eq_true (decide (65534 < x35.At)) with c41 | c41
    ·replace hz37:=Zo c41 hz37
     try rw [c41] at c40
     refine Ja (Zux (Zzo [])) c40 c41 ?_
     refine zG ?_
     exact Zbp hz37 c40 c41
    replace hz37:=Zn c41 hz37
    try rw [c41] at c40
    rcases Bool.eq_false_or_eq_true (x35.E.Kind == 0) with c42 | c42
    ·replace hz37:=Zo c42 hz37
     try rw [c42] at c40
     try rw [c42] at c41
     refine U1 (Zux (Zzo [])) c40 c41 c42 ?_
     refine zG ?_
     exact Zdq hz37 c40 c41 c42
    replace hz37:=Zn c42 hz37
    try rw [c42] at c40
    try rw [c42] at c41
    obtain ⟨y39,hy39,hz37⟩:=bC hz37
    refine U1 (Zux (Zvz [])) c40 c41 c42 ?_
    refine zG ?_
    refine (Zdy hy39).then ?_
    refine zX3 c40 c41 c42 ?_
    refine zG ?_
    exact Zdq hz37 c40 c41 c42
   refine Zp (t:=z37) rfl (fun c43 => ?_) (fun c43 => ?_)
   ·replace hs1_:=Zo c43 hs1_
    refine zQ [4] ?_
    refine zW ?_
    exact zEy hs1_
   replace hs1_:=Zn c43 hs1_
   refine Q5 [1,2,8,9] [true,true] ?_
   refine zRd [1,2,5,8] [true,false] ?_
   refine zR ?_
   exact Vu hs1_
  replace hs1_:=Zn c44 hs1_
  exact zEx hs1_
 rcases z45 with z45 | z45
 ·dsimp only [Xg] at hw h
  refine Qj hw ?_
  try simp only [Yg,Z3,↓reduceIte,Nat.reduceEqDiff]
  obtain rfl:=sI h
  refine Zq (.inr rfl) hU [(vB false)] (by omega) ?_
  simp only [push_cast,seval,Zf,Tryz.results13,hN0,hN]
 dsimp only [Xg] at hw h
 refine Z8 hw ?_
 try simp only [Yg,Z3,↓reduceIte,Nat.reduceEqDiff]
 refine zDs [1,2] [true] ?_
 refine zQD [1,2,186] [none,none,none,none,none,none,none,none] ?_
 refine Zp (t:=(cond (a0.Kind == 3) (cond (decide (a0.List_ < 2)) true (decide (9 < a0.List_))) false)) rfl (fun c55 => ?_) (fun c55 => ?_)
 ·replace h:=Zo c55 h
  refine zQ [4] ?_
  refine zW ?_
  obtain rfl:=sI h
  refine Zq (.inr rfl) hU [(vB false)] (by omega) ?_
  simp only [push_cast,seval,Zf,Tryz.results13,hN0,hN]
 replace h:=Zn c55 h
 refine Q5 [1,2] [true] ?_
 refine Zl ?_
 refine zQd [1,2,10] [1,2,10] [true] ?_
 obtain ⟨z52,hz52,h⟩:=bC h
 refine U3 (J:=(Xg (fun z52=>JR n (⟨216,[],[(4,(vB false))]⟩:Env) (Zr O n [none]) (n+1)) (fun z52=>JX 4 n (⟨216,[],[(2,.ref n 0)]⟩:Env) (Zr O n [some ⟨false,30,11,1,(Ze a0)⟩]) (n+1)))) (z:=z52) ?_ fun hw => ?_
 ·refine Yi hz52 (fun s2_=>⟨216,[],[(1,(vI a1)),(2,.ref n 0),(10,(vI s2_))]⟩) (fun s2_=>(Zr O n [some ⟨false,30,11,1,(Ze a0)⟩])) (Xg (fun z52=>JR n (⟨216,[],[(4,(vB false))]⟩:Env) (Zr O n [none]) (n+1)) (fun z52=>JX 4 n (⟨216,[],[(2,.ref n 0)]⟩:Env) (Zr O n [some ⟨false,30,11,1,(Ze a0)⟩]) (n+1))) ?_
  intro s2_ x2_ hs2_
  unfold Qo at hs2_
  try dsimp only
  refine Zl ?_
  refine zQ [1,2,10,191] ?_
  refine Zp (t:=(decide (s2_ < (a0.Ops.length:Int)))) rfl (fun c51 => ?_) (fun c51 => ?_)
  ·replace hs2_:=Zo c51 hs2_
   refine Q5 [1,2,10] [true] ?_
   refine Zl ?_
   refine Z0 ?_
   refine Zl ?_
   obtain ⟨x48,hx48,ax48,bx48,cx48,hs2_⟩:=bE (f:=Zd) Jw (fun _=>rfl) (by decide) hs2_
   obtain ⟨y49,hy49,hs2_⟩:=bC hs2_
   refine Vq Zt (by kernel_rfl) [] (by kernel_rfl) ?_
   refine zF3 ax48 bx48 cx48 ?_
   refine PCall.of (Zjt hy49) ?_
   refine zF3 ax48 bx48 cx48 ?_
   refine zD [1,2,10,204] [true] ?_
   refine Zp (t:=(!y49)) rfl (fun c50 => ?_) (fun c50 => ?_)
   ·replace hs2_:=Zo c50 hs2_
    refine zQ [4] ?_
    refine zW ?_
    exact zEy hs2_
   replace hs2_:=Zn c50 hs2_
   refine Q5 [1,2,10] [true] ?_
   refine zR ?_
   exact Vu hs2_
  replace hs2_:=Zn c51 hs2_
  exact zEx hs2_
 rcases z52 with z52 | z52
 ·dsimp only [Xg] at hw h
  refine Qj hw ?_
  try simp only [Yg,Z3,↓reduceIte,Nat.reduceEqDiff]
  obtain rfl:=sI h
  refine Zq (.inr rfl) hU [(vB false)] (by omega) ?_
  simp only [push_cast,seval,Zf,Tryz.results13,hN0,hN]
 dsimp only [Xg] at hw h
 refine Z8 hw ?_
 try simp only [Yg,Z3,↓reduceIte,Nat.reduceEqDiff]
 refine zDs [2] [true] ?_
 obtain ⟨y54,hy54,h⟩:=bC h
 refine zCd (Zhk hy54) [11,12] [false] ?_
 refine zQD [4] [none,none] ?_
 refine zW ?_
 obtain rfl:=sI h
 refine Zq (.inr rfl) hU [(vB (cond (decide (y54.1 < 1048576)) (decide (y54.2 < 1048576)) false))] (by omega) ?_
 simp only [push_cast,seval,Zf,Tryz.results13,hN0,hN]
theorem Zss {Xd:(Zb→Int→Option Bool)} {X6:(Int→Zg→Int→Option Bool)} (Zdy:Zdw Xd) (Zjt:Zf1 X6) {a0:Int} {a1:Zg} {a2:Int} {r:Bool} {O:Objs} {n:Nat} (h:Zda Xd X6 a0 a1 a2=some r):GTo Tryz.prog 29 [(vI a0),.agg (Z6 a1),(vI a2)] O n ((vB r)) O n:=by
 unfold Zda at h
 refine fn0 Zt Tryz.call29 Tryz.func29 rfl fun hU hN0 hN => ?_
 show W _ _ _ _ ⟨121,[],[(0,(vI a0)),(1,.agg (Z6 a1)),(2,(vI a2))]⟩ (Zr O n []) _
 refine zQ [0,2,4] ?_
 refine Zl ?_
 refine zQ [0,2,4,10] ?_
 refine Zp (t:=(a1.Kind == 0)) rfl (fun c30 => ?_) (fun c30 => ?_)
 ·replace h:=Zo c30 h
  obtain ⟨z2,hz2,h⟩:=bC h
  refine Yk (E':=⟨121,[],[(6,(vB z2))]⟩) (O':=(Zr O n [none])) (n0:=(n+1)) ?_ ?_
  ·rcases Bool.eq_false_or_eq_true (decide (1≤a1.N)) with c5 | c5
   ·replace hz2:=Zo c5 hz2
    rcases Bool.eq_false_or_eq_true (decide (a1.N≤1048576)) with c6 | c6
    ·replace hz2:=Zo c6 hz2
     try rw [c6] at c5
     rcases Bool.eq_false_or_eq_true ((a1.L.length:Int) == 0) with c7 | c7
     ·replace hz2:=Zo c7 hz2
      try rw [c7] at c5
      try rw [c7] at c6
      obtain ⟨y4,hy4,hz2⟩:=bC hz2
      refine U1 (Zux (Zvy [])) c5 c6 c7 ?_
      refine zG ?_
      refine (Zjq hy4).then ?_
      refine zX3 c5 c6 c7 ?_
      refine zG ?_
      exact Zdq hz2 c5 c6 c7
     replace hz2:=Zn c7 hz2
     try rw [c7] at c5
     try rw [c7] at c6
     refine U1 (Zux (Z5l [])) c5 c6 c7 ?_
     refine zG ?_
     exact Zdq hz2 c5 c6 c7
    replace hz2:=Zn c6 hz2
    try rw [c6] at c5
    refine Ja (Zux (Z5l [])) c5 c6 ?_
    refine zG ?_
    exact Zbp hz2 c5 c6
   replace hz2:=Zn c5 hz2
   refine K3 (Zux (Z5l [])) c5 ?_
   refine zG ?_
   exact Kq hz2 c5
  refine zW ?_
  obtain rfl:=sI h
  refine Zq (.inr rfl) hU [(vB z2)] (by omega) ?_
  simp only [push_cast,seval,Zf,Tryz.results29,hN0,hN]
 replace h:=Zn c30 h
 refine Q5 [0,2,4] [true] ?_
 refine Zl ?_
 refine zQD [0,2,4,42] [none,none,none,none,none,none] ?_
 refine Zp (t:=(cond (cond (a1.N != 0) true (decide (a1.Kind < 0))) true (decide (3 < a1.Kind)))) rfl (fun c29 => ?_) (fun c29 => ?_)
 ·replace h:=Zo c29 h
  refine zQ [6] ?_
  refine zW ?_
  obtain rfl:=sI h
  refine Zq (.inr rfl) hU [(vB false)] (by omega) ?_
  simp only [push_cast,seval,Zf,Tryz.results29,hN0,hN]
 replace h:=Zn c29 h
 refine Q5 [0,2,4] [true] ?_
 refine Zl ?_
 refine zQ [0,2,4,45] ?_
 refine Zp (t:=(decide (a1.Kind < 3))) rfl (fun c28 => ?_) (fun c28 => ?_)
 ·replace h:=Zo c28 h
  refine Zl ?_
  refine zQd [0,4,7] [0,4,7] [true] ?_
  obtain ⟨z14,hz14,h⟩:=bC h
  refine U3 (J:=(Xg (fun z14=>JR n (⟨121,[],[(6,(vB false))]⟩:Env) (Zr O n [none]) (n+1)) (fun z14=>JX 0 n (⟨121,[],[(4,.ref n 0)]⟩:Env) (Zr O n [some ⟨false,42,14,1,(Z6 a1)⟩]) (n+1)))) (z:=z14) ?_ fun hw => ?_
  ·refine Yi hz14 (fun s0_=>⟨121,[],[(0,(vI a0)),(4,.ref n 0),(7,(vI s0_))]⟩) (fun s0_=>(Zr O n [some ⟨false,42,14,1,(Z6 a1)⟩])) (Xg (fun z14=>JR n (⟨121,[],[(6,(vB false))]⟩:Env) (Zr O n [none]) (n+1)) (fun z14=>JX 0 n (⟨121,[],[(4,.ref n 0)]⟩:Env) (Zr O n [some ⟨false,42,14,1,(Z6 a1)⟩]) (n+1))) ?_
   intro s0_ x0_ hs0_
   unfold Gm at hs0_
   try dsimp only
   refine Zl ?_
   refine zQ [0,4,7,50] ?_
   refine Zp (t:=(decide (s0_ < (a1.L.length:Int)))) rfl (fun c13 => ?_) (fun c13 => ?_)
   ·replace hs0_:=Zo c13 hs0_
    refine Q5 [0,4,7] [true] ?_
    refine Zl ?_
    refine Z0 ?_
    refine Zl ?_
    obtain ⟨l10,al10,bl10,cl10,gl10,hs0_⟩:=bS (lo:=(some (.i64,s0_))) (hi:=(some (.i64,(IntKind.i64.wrap (s0_+1))))) (f:=Za) rfl rfl Zk0 Zbu (fun _=>rfl) hs0_
    obtain ⟨y11,hy11,hs0_⟩:=bC hs0_
    refine Zud [] al10 bl10 cl10 gl10 ?_
    refine GCalls.argsW ?_ ((Zbz hy11).then ?_)
    ·exact Yki al10 bl10 cl10 gl10
    refine zX4 al10 bl10 cl10 gl10 ?_
    refine zD [0,4,7,62] [true] ?_
    refine Zp (t:=(!y11)) rfl (fun c12 => ?_) (fun c12 => ?_)
    ·replace hs0_:=Zo c12 hs0_
     refine zQ [6] ?_
     refine zW ?_
     exact zEy hs0_
    replace hs0_:=Zn c12 hs0_
    refine Q5 [0,4,7] [true] ?_
    refine zR ?_
    exact Vu hs0_
   replace hs0_:=Zn c13 hs0_
   exact zEx hs0_
  rcases z14 with z14 | z14
  ·dsimp only [Xg] at hw h
   refine Qj hw ?_
   try simp only [Yg,Z3,↓reduceIte,Nat.reduceEqDiff]
   obtain rfl:=sI h
   refine Zq (.inr rfl) hU [(vB false)] (by omega) ?_
   simp only [push_cast,seval,Zf,Tryz.results29,hN0,hN]
  dsimp only [Xg] at hw h
  refine Z8 hw ?_
  try simp only [Yg,Z3,↓reduceIte,Nat.reduceEqDiff]
  refine zD [4] [true] ?_
  obtain ⟨z16,hz16,h⟩:=bC h
  refine Yk (E':=⟨121,[],[(6,(vB z16))]⟩) (O':=(Zr O n [none])) (n0:=(n+1)) ?_ ?_
  ·rcases Bool.eq_false_or_eq_true (decide (0 < (a1.L.length:Int))) with c19 | c19
   ·replace hz16:=Zo c19 hz16
    obtain ⟨y18,hy18,hz16⟩:=bC hz16
    refine K3 (Zvy []) c19 ?_
    refine (Zjq hy18).then ?_
    refine zX1 c19 ?_
    exact Kq hz16 c19
   replace hz16:=Zn c19 hz16
   refine K3 (Z5l []) c19 ?_
   exact Kq hz16 c19
  refine zW ?_
  obtain rfl:=sI h
  refine Zq (.inr rfl) hU [(vB z16)] (by omega) ?_
  simp only [push_cast,seval,Zf,Tryz.results29,hN0,hN]
 replace h:=Zn c28 h
 refine Q5 [0,2,4] [true] ?_
 refine Zl ?_
 obtain ⟨z21,hz21,h⟩:=bC h
 refine Yk (E':=⟨121,[],[(0,(vI a0)),(4,.ref n 0),(92,(vB z21))]⟩) (O':=(Zr O n [some ⟨false,42,14,1,(Z6 a1)⟩])) (n0:=(n+1)) ?_ ?_
 ·rcases Bool.eq_false_or_eq_true (decide (0 < (a1.L.length:Int))) with c24 | c24
  ·replace hz21:=Zo c24 hz21
   refine K3 (Z2v (Zvx [])) c24 ?_
   refine zG ?_
   exact Kq hz21 c24
  replace hz21:=Zn c24 hz21
  rcases Bool.eq_false_or_eq_true (a1.E.Kind == 0) with c25 | c25
  ·replace hz21:=Zo c25 hz21
   try rw [c25] at c24
   refine Ja (Z2v (Zvx [])) c24 c25 ?_
   refine zG ?_
   exact Zbp hz21 c24 c25
  replace hz21:=Zn c25 hz21
  try rw [c25] at c24
  rcases Bool.eq_false_or_eq_true (decide (a0≤7)) with c26 | c26
  ·replace hz21:=Zo c26 hz21
   try rw [c26] at c24
   try rw [c26] at c25
   refine U1 (Z2v (Zvx [])) c24 c25 c26 ?_
   refine zG ?_
   exact Zdq hz21 c24 c25 c26
  replace hz21:=Zn c26 hz21
  try rw [c26] at c24
  try rw [c26] at c25
  obtain ⟨y23,hy23,hz21⟩:=bC hz21
  refine U1 (Z2v (Ycb [])) c24 c25 c26 ?_
  refine zG ?_
  refine (Zdy hy23).then ?_
  refine zX3 c24 c25 c26 ?_
  refine zG ?_
  exact Zdq hz21 c24 c25 c26
 refine Zp (t:=z21) rfl (fun c27 => ?_) (fun c27 => ?_)
 ·replace h:=Zo c27 h
  refine zQ [6] ?_
  refine zW ?_
  obtain rfl:=sI h
  refine Zq (.inr rfl) hU [(vB false)] (by omega) ?_
  simp only [push_cast,seval,Zf,Tryz.results29,hN0,hN]
 replace h:=Zn c27 h
 refine Q5 [0,4] [true] ?_
 refine zQD [6] [none,none,none,none,none,none,none,none,none,none,none,none,none,none,none,none,none,none,none,none,none,none] ?_
 refine zW ?_
 obtain rfl:=sI h
 refine Zq (.inr rfl) hU [(vB (cond (cond (a0 == 8) true (a1.E.Kind == 2)) true (cond (cond (a1.E.Kind == 1) (a1.E.Old.Kind == 1) false) (a1.E.New.Kind == 1) false)))] (by omega) ?_
 simp only [push_cast,seval,Zf,Tryz.results29,hN0,hN]
theorem Zms:∀ k,(Zdw ((Ym k).1))∧(Zf1 ((Ym k).2)):=fun k=>by
 induction k with
 | zero=>exact ⟨@fun a0 a1 r O n h=>(nomatch (show (none:Option _)=some _ from h)),@fun a0 a1 a2 r O n h=>(nomatch (show (none:Option _)=some _ from h))⟩
 | succ k ih=>exact ⟨@fun a0 a1 r O n h=>Zor (ih.1) (ih.2)  h,@fun a0 a1 a2 r O n h=>Zss (ih.1) (ih.2)  h⟩
theorem Ziy {a0:Zb} {a1:Int} {r:Bool} {O:Objs} {n:Nat} (h:Zfz a0 a1=some r):GTo Tryz.prog 13 [.agg (Ze a0),(vI a1)] O n ((vB r)) O n:=by
 obtain ⟨k,hk⟩:=Ux h
 exact (Zms k).1  hk
def Zhh (Xr:(Zb→Option Bool)):Prop:=∀ {a0:Zb} {r:Bool} {O:Objs} {n:Nat},Xr a0=some r→GTo Tryz.prog 14 [.agg (Ze a0)] O n ((vB r)) O n
theorem Zoq {Xr:(Zb→Option Bool)} (Zhn:Zhh Xr) {a0:Zb} {r:Bool} {O:Objs} {n:Nat} (h:Gk Xr a0=some r):GTo Tryz.prog 14 [.agg (Ze a0)] O n ((vB r)) O n:=by
 unfold Gk at h
 refine fn0 Zt Tryz.call14 Tryz.func14 rfl fun hU hN0 hN => ?_
 show W _ _ _ _ ⟨48,[],[(0,.agg (Ze a0))]⟩ (Zr O n []) _
 refine zQ [1] ?_
 refine Zl ?_
 obtain ⟨y2,hy2,h⟩:=bC h
 refine zCd (Zhk hy2) [1,3,4] [true] ?_
 refine Zl ?_
 refine zQD [1,17] [none,none] ?_
 refine Zp (t:=(cond (decide (2000 < y2.1)) true (decide (2000 < y2.2)))) rfl (fun c21 => ?_) (fun c21 => ?_)
 ·replace h:=Zo c21 h
  refine zQ [2] ?_
  refine zW ?_
  obtain rfl:=sI h
  refine Zq (.inr rfl) hU [(vB false)] (by omega) ?_
  simp only [push_cast,seval,Zf,Tryz.results14,hN0,hN]
 replace h:=Zn c21 h
 refine Q5 [1] [true] ?_
 refine Zl ?_
 refine zQd [1,5] [1,5] [true] ?_
 obtain ⟨z11,hz11,h⟩:=bC h
 refine U3 (J:=(Xg (fun z11=>JR n (⟨48,[],[(2,(vB false))]⟩:Env) (Zr O n [none]) (n+1)) (fun z11=>JX 0 n (⟨48,[],[(1,.ref n 0)]⟩:Env) (Zr O n [some ⟨false,30,11,1,(Ze a0)⟩]) (n+1)))) (z:=z11) ?_ fun hw => ?_
 ·refine Yi hz11 (fun s0_=>⟨48,[],[(1,.ref n 0),(5,(vI s0_))]⟩) (fun s0_=>(Zr O n [some ⟨false,30,11,1,(Ze a0)⟩])) (Xg (fun z11=>JR n (⟨48,[],[(2,(vB false))]⟩:Env) (Zr O n [none]) (n+1)) (fun z11=>JX 0 n (⟨48,[],[(1,.ref n 0)]⟩:Env) (Zr O n [some ⟨false,30,11,1,(Ze a0)⟩]) (n+1))) ?_
  intro s0_ x0_ hs0_
  unfold K9 at hs0_
  try dsimp only
  refine Zl ?_
  refine zQ [1,5,22] ?_
  refine Zp (t:=(decide (s0_ < (a0.Kids.length:Int)))) rfl (fun c10 => ?_) (fun c10 => ?_)
  ·replace hs0_:=Zo c10 hs0_
   refine Q5 [1,5] [true] ?_
   refine Zl ?_
   refine Z0 ?_
   refine Zl ?_
   obtain ⟨x6,hx6,ax6,bx6,cx6,hs0_⟩:=bE (f:=Zh) Zi1 (fun _=>rfl) (by decide) hs0_
   have g7:=X2 (f:=Zh) (off:=1) (sz:=12) Zd7 (fun _=>rfl) (by decide) (by decide) hx6
   obtain ⟨y8,hy8,hs0_⟩:=bC hs0_
   refine Zi2 [] ax6 bx6 cx6 g7 ?_
   refine (Zhn hy8).then ?_
   refine zF4 ax6 bx6 cx6 g7 ?_
   refine zD [1,5,32] [true] ?_
   refine Zp (t:=(!y8)) rfl (fun c9 => ?_) (fun c9 => ?_)
   ·replace hs0_:=Zo c9 hs0_
    refine zQ [2] ?_
    refine zW ?_
    exact zEy hs0_
   replace hs0_:=Zn c9 hs0_
   refine Q5 [1,5] [true] ?_
   refine zR ?_
   exact Vu hs0_
  replace hs0_:=Zn c10 hs0_
  exact zEx hs0_
 rcases z11 with z11 | z11
 ·dsimp only [Xg] at hw h
  refine Qj hw ?_
  try simp only [Yg,Z3,↓reduceIte,Nat.reduceEqDiff]
  obtain rfl:=sI h
  refine Zq (.inr rfl) hU [(vB false)] (by omega) ?_
  simp only [push_cast,seval,Zf,Tryz.results14,hN0,hN]
 dsimp only [Xg] at hw h
 refine Z8 hw ?_
 try simp only [Yg,Z3,↓reduceIte,Nat.reduceEqDiff]
 refine zDs [1] [true] ?_
 refine zQd [1,6] [1,6] [true] ?_
 obtain ⟨z20,hz20,h⟩:=bC h
 refine U3 (J:=(Xg (fun z20=>JR n (⟨48,[],[(2,(vB false))]⟩:Env) (Zr O n [none]) (n+1)) (fun z20=>JX 2 n (⟨48,[],[]⟩:Env) (Zr O n [none]) (n+1)))) (z:=z20) ?_ fun hw => ?_
 ·refine Yi hz20 (fun s1_=>⟨48,[],[(1,.ref n 0),(6,(vI s1_))]⟩) (fun s1_=>(Zr O n [some ⟨false,30,11,1,(Ze a0)⟩])) (Xg (fun z20=>JR n (⟨48,[],[(2,(vB false))]⟩:Env) (Zr O n [none]) (n+1)) (fun z20=>JX 2 n (⟨48,[],[]⟩:Env) (Zr O n [none]) (n+1))) ?_
  intro s1_ x1_ hs1_
  unfold Va at hs1_
  try dsimp only
  refine Zl ?_
  refine zQ [1,6,37] ?_
  refine Zp (t:=(decide (s1_ < (a0.Ops.length:Int)))) rfl (fun c19 => ?_) (fun c19 => ?_)
  ·replace hs1_:=Zo c19 hs1_
   refine Q5 [1,6] [true] ?_
   refine Zl ?_
   refine Z0 ?_
   refine Zl ?_
   obtain ⟨x15,hx15,ax15,bx15,cx15,hs1_⟩:=bE (f:=Zd) Jw (fun _=>rfl) (by decide) hs1_
   have g16:=X2 (f:=Zd) (off:=3) (sz:=14) Zd7 (fun _=>rfl) (by decide) (by decide) hx15
   obtain ⟨y17,hy17,hs1_⟩:=bC hs1_
   refine Zi2 [] ax15 bx15 cx15 g16 ?_
   refine (Zhn hy17).then ?_
   refine zF4 ax15 bx15 cx15 g16 ?_
   refine zD [1,6,47] [true] ?_
   refine Zp (t:=(!y17)) rfl (fun c18 => ?_) (fun c18 => ?_)
   ·replace hs1_:=Zo c18 hs1_
    refine zQ [2] ?_
    refine zW ?_
    exact zEy hs1_
   replace hs1_:=Zn c18 hs1_
   refine Q5 [1,6] [true] ?_
   refine zR ?_
   exact Vu hs1_
  replace hs1_:=Zn c19 hs1_
  exact zEx hs1_
 rcases z20 with z20 | z20
 ·dsimp only [Xg] at hw h
  refine Qj hw ?_
  try simp only [Yg,Z3,↓reduceIte,Nat.reduceEqDiff]
  obtain rfl:=sI h
  refine Zq (.inr rfl) hU [(vB false)] (by omega) ?_
  simp only [push_cast,seval,Zf,Tryz.results14,hN0,hN]
 dsimp only [Xg] at hw h
 refine Z8 hw ?_
 try simp only [Yg,Z3,↓reduceIte,Nat.reduceEqDiff]
 refine zD [] [false] ?_
 refine zQ [2] ?_
 refine zW ?_
 obtain rfl:=sI h
 refine Zq (.inr rfl) hU [(vB true)] (by omega) ?_
 simp only [push_cast,seval,Zf,Tryz.results14,hN0,hN]
theorem Zmr:∀ k,(Zhh (Je k)):=fun k=>by
 induction k with
 | zero=>exact @fun a0 r O n h=>(nomatch (show (none:Option _)=some _ from h))
 | succ k ih=>exact @fun a0 r O n h=>Zoq (ih)  h
theorem Zqw {a0:Zb} {r:Bool} {O:Objs} {n:Nat} (h:Zfy a0=some r):GTo Tryz.prog 14 [.agg (Ze a0)] O n ((vB r)) O n:=by
 obtain ⟨k,hk⟩:=Ux h
 exact (Zmr k)  hk
theorem Zjp {a0:Zb} {r:Bool} {O:Objs} {n:Nat} (h:Za1 a0=some r):GTo Tryz.prog 4 [.agg (Ze a0)] O n ((vB r)) O n:=by
 unfold Za1 at h
 refine fn0 Zt Tryz.call4 Tryz.func4 rfl fun hU hN0 hN => ?_
 show W _ _ _ _ ⟨13,[],[(0,.agg (Ze a0))]⟩ (Zr O n []) _
 refine zQ [1] ?_
 obtain ⟨z4,hz4,h⟩:=bC h
 refine Yk (E':=⟨13,[],[(2,(vB z4))]⟩) (O':=(Zr O n [none])) (n0:=(n+1)) ?_ ?_
 ·obtain ⟨y8,hy8,hz4⟩:=bC hz4
  rcases Bool.eq_false_or_eq_true y8 with c11 | c11
  ·replace hz4:=Zo c11 hz4
   obtain ⟨y9,hy9,hz4⟩:=bC hz4
   rcases Bool.eq_false_or_eq_true y9 with c12 | c12
   ·replace hz4:=Zo c12 hz4
    try rw [c12] at c11
    obtain ⟨y10,hy10,hz4⟩:=bC hz4
    refine Ja (Z65 []) c11 c12 ?_
    refine (Zg1 hy8).then ?_
    refine zX2 c11 c12 ?_
    refine (Ziy hy9).then ?_
    refine zX2 c11 c12 ?_
    refine (Zqw hy10).then ?_
    refine zX2 c11 c12 ?_
    exact Zbp hz4 c11 c12
   replace hz4:=Zn c12 hz4
   try rw [c12] at c11
   refine Ja (Jb::Jb::[Yy,Yy]) c11 c12 ?_
   refine (Zg1 hy8).then ?_
   refine zX2 c11 c12 ?_
   refine (Ziy hy9).then ?_
   refine zX2 c11 c12 ?_
   exact Zbp hz4 c11 c12
  replace hz4:=Zn c11 hz4
  refine K3 (Z5m []) c11 ?_
  refine (Zg1 hy8).then ?_
  refine zX1 c11 ?_
  exact Kq hz4 c11
 refine zW ?_
 obtain rfl:=sI h
 refine Zq (.inr rfl) hU [(vB z4)] (by omega) ?_
 simp only [push_cast,seval,Zf,Tryz.results4,hN0,hN]
def Zhg (Xq:(Zb→Option Int)):Prop:=∀ {a0:Zb} {r:Int} {O:Objs} {n:Nat},Xq a0=some r→GTo Tryz.prog 5 [.agg (Ze a0)] O n ((vI r)) O n
theorem Zop {Xq:(Zb→Option Int)} (Zhm:Zhg Xq) {a0:Zb} {r:Int} {O:Objs} {n:Nat} (h:Gj Xq a0=some r):GTo Tryz.prog 5 [.agg (Ze a0)] O n ((vI r)) O n:=by
 unfold Gj at h
 refine fn0 Zt Tryz.call5 Tryz.func5 rfl fun hU hN0 hN => ?_
 show W _ _ _ _ ⟨54,[],[(0,.agg (Ze a0))]⟩ (Zr O n []) _
 refine zQ [1] ?_
 refine zQ [1,3] ?_
 refine Zl ?_
 refine zQd [1,3,4] [1,3,4] [true] ?_
 obtain ⟨z5,hz5,h⟩:=bC h
 refine Z8 (E':=⟨54,[],[(1,.ref n 0),(3,(vI z5))]⟩) (O':=(Zr O n [some ⟨false,30,11,1,(Ze a0)⟩])) (n0:=(n+1)) ?_ ?_
 ·refine Yi hz5 (fun s0_=>⟨54,[],[(1,.ref n 0),(3,(vI s0_.1)),(4,(vI s0_.2))]⟩) (fun s0_=>(Zr O n [some ⟨false,30,11,1,(Ze a0)⟩])) (fun z5=>JX 0 n (⟨54,[],[(1,.ref n 0),(3,(vI z5))]⟩:Env) (Zr O n [some ⟨false,30,11,1,(Ze a0)⟩]) (n+1)) ?_
  intro s0_ x0_ hs0_
  unfold K7 at hs0_
  try dsimp only
  refine Zl ?_
  refine zQ [1,3,4,18] ?_
  refine Zp (t:=(decide (s0_.2 < (a0.Kids.length:Int)))) rfl (fun c4 => ?_) (fun c4 => ?_)
  ·replace hs0_:=Zo c4 hs0_
   refine Q5 [1,3,4] [true] ?_
   refine Zl ?_
   refine Z0 ?_
   obtain ⟨x1,hx1,ax1,bx1,cx1,hs0_⟩:=bE (f:=Zh) Zi1 (fun _=>rfl) (by decide) hs0_
   have g2:=X2 (f:=Zh) (off:=1) (sz:=12) Zd7 (fun _=>rfl) (by decide) (by decide) hx1
   obtain ⟨y3,hy3,hs0_⟩:=bC hs0_
   refine Zi2 [] ax1 bx1 cx1 g2 ?_
   refine (Zhm hy3).then ?_
   refine zF4 ax1 bx1 cx1 g2 ?_
   refine zD [1,3,4] [true] ?_
   refine zR ?_
   exact Vu hs0_
  replace hs0_:=Zn c4 hs0_
  exact zEx hs0_
 try simp only [Yg,Z3,↓reduceIte,Nat.reduceEqDiff]
 refine zDs [1,3] [true] ?_
 refine zQd [1,3,5] [1,3,5] [true] ?_
 obtain ⟨z16,hz16,h⟩:=bC h
 refine Z8 (E':=⟨54,[],[(3,(vI z16))]⟩) (O':=(Zr O n [none])) (n0:=(n+1)) ?_ ?_
 ·refine Yi hz16 (fun s1_=>⟨54,[],[(1,.ref n 0),(3,(vI s1_.1)),(5,(vI s1_.2))]⟩) (fun s1_=>(Zr O n [some ⟨false,30,11,1,(Ze a0)⟩])) (fun z16=>JX 2 n (⟨54,[],[(3,(vI z16))]⟩:Env) (Zr O n [none]) (n+1)) ?_
  intro s1_ x1_ hs1_
  unfold K8 at hs1_
  try dsimp only
  refine Zl ?_
  refine zQ [1,3,5,34] ?_
  refine Zp (t:=(decide (s1_.2 < (a0.Ops.length:Int)))) rfl (fun c15 => ?_) (fun c15 => ?_)
  ·replace hs1_:=Zo c15 hs1_
   refine Q5 [1,3,5] [true] ?_
   obtain ⟨z6,hz6,hs1_⟩:=bC hs1_
   refine Yk (E':=⟨54,[],[(1,.ref n 0),(3,(vI z6)),(5,(vI s1_.2))]⟩) (O':=(Zr O n [some ⟨false,30,11,1,(Ze a0)⟩])) (n0:=(n+1)) ?_ ?_
   ·refine Z0 ?_
    obtain ⟨x9,hx9,ax9,bx9,cx9,hz6⟩:=bE (f:=Zd) Jw (fun _=>rfl) (by decide) hz6
    have g10:=J0 (f:=Zd) (sz:=14) Zis (fun _=>rfl) (by decide) (by decide) hx9
    refine Zl0 [1,3,5,43] (Yn Zt [] ?_)
    refine zF4 ax9 bx9 cx9 g10 ?_
    refine Zp (t:=(x9.Kind == 3)) rfl (fun c14 => ?_) (fun c14 => ?_)
    ·replace hz6:=Zo c14 hz6
     obtain ⟨x11,hx11,ax11,bx11,cx11,hz6⟩:=bE (f:=Zd) Jw (fun _=>rfl) (by decide) hz6
     have g12:=X2 (f:=Zd) (off:=3) (sz:=14) Zd7 (fun _=>rfl) (by decide) (by decide) hx11
     obtain ⟨y13,hy13,hz6⟩:=bC hz6
     refine Zi2 [] ax11 bx11 cx11 g12 ?_
     refine (Zhm hy13).then ?_
     refine zF4 ax11 bx11 cx11 g12 ?_
     exact Zvt hz6 ax11 bx11 cx11 g12
    replace hz6:=Zn c14 hz6
    refine zK ?_
    exact Vu hz6
   refine zR ?_
   exact Vu hs1_
  replace hs1_:=Zn c15 hs1_
  exact zEx hs1_
 try simp only [Yg,Z3,↓reduceIte,Nat.reduceEqDiff]
 refine zD [3] [false] ?_
 refine zQ [2] ?_
 refine zW ?_
 obtain rfl:=sI h
 refine Zq (.inr rfl) hU [(vI z16)] (by omega) ?_
 simp only [push_cast,seval,Zf,Tryz.results5,hN0,hN]
theorem Zmq:∀ k,(Zhg (Jd k)):=fun k=>by
 induction k with
 | zero=>exact @fun a0 r O n h=>(nomatch (show (none:Option _)=some _ from h))
 | succ k ih=>exact @fun a0 r O n h=>Zop (ih)  h
theorem Zqv {a0:Zb} {r:Int} {O:Objs} {n:Nat} (h:Zfx a0=some r):GTo Tryz.prog 5 [.agg (Ze a0)] O n ((vI r)) O n:=by
 obtain ⟨k,hk⟩:=Ux h
 exact (Zmq k)  hk
theorem Zhj {a0:Int} {r:(List Zc)} {O:Objs} {n:Nat} (h:J6 a0=some r):GTo Tryz.prog 15 [.val (.int .u64 a0)] O n ((sL Za r)) O n:=by
 unfold J6 at h
 refine fn0 Zt Tryz.call15 Tryz.func15 rfl fun hU hN0 hN => ?_
 show W _ _ _ _ ⟨7,[],[(0,.val (.int .u64 a0))]⟩ (Zr O n []) _
 refine zQ [0] ?_
 refine Zl ?_
 refine zR ?_
 refine Zan ⟨7,[],[(2,.row (n+1) ([(⟨10,([a0]:List Int),([]:(List Zc))⟩:Zc)]:List Zc).length)]⟩ (Zr O n [none,some (oR 25 3 Za ([(⟨10,([a0]:List Int),([]:(List Zc))⟩:Zc)]:List Zc))]) (Zz hU rfl rfl ?_) ?_
 ·exact zSe
 refine zW ?_
 obtain rfl:=sI h
 refine Zq (.inr rfl) hU [.row (n+1) ([(⟨10,([a0]:List Int),([]:(List Zc))⟩:Zc)]:List Zc).length] (by omega) ?_
 simp only [push_cast,seval,Zf,Tryz.results15,hN0,hN]
theorem Zsr {a0:(List Int)} {r:(List Int)} {O:Objs} {n:Nat} (h:Zcp a0=some r):GTo Tryz.prog 58 [(sL (eI .u64) a0)] O n ((sL (eI .u64) r)) O n:=by
 unfold Zcp at h
 refine fn0 Zt Tryz.call58 Tryz.func58 rfl fun hU hN0 hN => ?_
 show W _ _ _ _ ⟨22,[],[(0,(sL (eI .u64) a0))]⟩ (Zr O n []) _
 refine zQ [0] ?_
 refine zQ [0,3] ?_
 refine Zl ?_
 refine zD [0,3] [] ?_
 obtain ⟨z7,hz7,h⟩:=bC h
 refine Z8 (E':=⟨22,[],[(0,(sL (eI .u64) a0)),(3,(vI z7))]⟩) (O':=(Zr O n [])) (n0:=n) ?_ ?_
 ·refine Yi hz7 (fun s0_=>⟨22,[],[(0,(sL (eI .u64) a0)),(3,(vI s0_))]⟩) (fun s0_=>(Zr O n [])) (fun z7=>JX 0 n (⟨22,[],[(0,(sL (eI .u64) a0)),(3,(vI z7))]⟩:Env) (Zr O n []) n) ?_
  intro s0_ x0_ hs0_
  unfold Uz at hs0_
  try dsimp only
  refine Zl ?_
  obtain ⟨z2,hz2,hs0_⟩:=bC hs0_
  refine Yk (E':=⟨22,[],[(0,(sL (eI .u64) a0)),(3,(vI s0_)),(15,(vB z2))]⟩) (O':=(Zr O n [])) (n0:=n) ?_ ?_
  ·rcases Bool.eq_false_or_eq_true (decide (0 < s0_)) with c5 | c5
   ·replace hz2:=Zo c5 hz2
    obtain ⟨x4,hx4,ax4,bx4,cx4,hz2⟩:=bE (f:=(eI .u64)) Zly (fun _=>rfl) (by decide) hz2
    refine Zi2 (Zvz []) c5 ax4 bx4 cx4 ?_
    exact Zvt hz2 c5 ax4 bx4 cx4
   replace hz2:=Zn c5 hz2
   refine K3 (Zzo []) c5 ?_
   exact Kq hz2 c5
  refine Zp (t:=z2) rfl (fun c6 => ?_) (fun c6 => ?_)
  ·replace hs0_:=Zo c6 hs0_
   refine Q5 [0,3] [] ?_
   refine Z0 ?_
   refine zR ?_
   exact Vu hs0_
  replace hs0_:=Zn c6 hs0_
  exact zEx hs0_
 try simp only [Yg,Z3,↓reduceIte,Nat.reduceEqDiff]
 refine zD [0,3] [] ?_
 obtain ⟨l9,al9,bl9,cl9,gl9,h⟩:=bS3 (lo:=none) (hi:=(.i64,z7)) (f:=(eI .u64)) rfl rfl Zqn Zly (fun _=>rfl) h
 refine Yi4 [2] al9 bl9 cl9 gl9 ?_
 refine zW ?_
 obtain rfl:=sI h
 refine Zq (.inr rfl) hU [(sL (eI .u64) l9)] (by omega) ?_
 simp only [push_cast,seval,Zf,Tryz.results58,hN0,hN]
theorem Zu1 {a0:(List Zc)} {r:(List Zc)} {O:Objs} {n:Nat} (h:Zdg a0=some r):GTo Tryz.prog 59 [(sL Za a0)] O n ((sL Za r)) O n:=by
 unfold Zdg at h
 refine fn0 Zt Tryz.call59 Tryz.func59 rfl fun hU hN0 hN => ?_
 show W _ _ _ _ ⟨23,[],[(0,(sL Za a0))]⟩ (Zr O n []) _
 refine zQ [0] ?_
 refine zQ [0,3] ?_
 refine Zl ?_
 refine zD [0,3] [] ?_
 obtain ⟨z10,hz10,h⟩:=bC h
 refine Z8 (E':=⟨23,[],[(0,(sL Za a0)),(3,(vI z10))]⟩) (O':=(Zr O n [])) (n0:=n) ?_ ?_
 ·refine Yi hz10 (fun s0_=>⟨23,[],[(0,(sL Za a0)),(3,(vI s0_))]⟩) (fun s0_=>(Zr O n [])) (fun z10=>JX 0 n (⟨23,[],[(0,(sL Za a0)),(3,(vI z10))]⟩:Env) (Zr O n []) n) ?_
  intro s0_ x0_ hs0_
  unfold Gz at hs0_
  try dsimp only
  refine Zl ?_
  obtain ⟨z3,hz3,hs0_⟩:=bC hs0_
  refine Yk (E':=⟨23,[],[(0,(sL Za a0)),(3,(vI s0_)),(16,(vB z3))]⟩) (O':=(Zr O n [])) (n0:=n) ?_ ?_
  ·rcases Bool.eq_false_or_eq_true (decide (0 < s0_)) with c8 | c8
   ·replace hz3:=Zo c8 hz3
    obtain ⟨x6,hx6,ax6,bx6,cx6,hz3⟩:=bE (f:=Za) Zbu (fun _=>rfl) (by decide) hz3
    have g7:=J0 (f:=Za) (sz:=3) Zis (fun _=>rfl) (by decide) (by decide) hx6
    refine Z6e (Z66 []) c8 ax6 bx6 cx6 g7 ?_
    exact Ydi hz3 c8 ax6 bx6 cx6 g7
   replace hz3:=Zn c8 hz3
   refine K3 (Yeb []) c8 ?_
   exact Kq hz3 c8
  refine Zp (t:=z3) rfl (fun c9 => ?_) (fun c9 => ?_)
  ·replace hs0_:=Zo c9 hs0_
   refine Q5 [0,3] [] ?_
   refine Z0 ?_
   refine zR ?_
   exact Vu hs0_
  replace hs0_:=Zn c9 hs0_
  exact zEx hs0_
 try simp only [Yg,Z3,↓reduceIte,Nat.reduceEqDiff]
 refine zD [0,3] [] ?_
 obtain ⟨l12,al12,bl12,cl12,gl12,h⟩:=bS3 (lo:=none) (hi:=(.i64,z10)) (f:=Za) rfl rfl Zk0 Zbu (fun _=>rfl) h
 refine Yi4 [2] al12 bl12 cl12 gl12 ?_
 refine zW ?_
 obtain rfl:=sI h
 refine Zq (.inr rfl) hU [(sL Za l12)] (by omega) ?_
 simp only [push_cast,seval,Zf,Tryz.results59,hN0,hN]
def Zoj (Zcv:(Zc→Option Zc)):Prop:=∀ {a0:Zc} {r:Zc} {O:Objs} {n:Nat},Zcv a0=some r→GTo Tryz.prog 34 [.agg (Zv a0)] O n (.agg (Zv r)) O n
theorem Z0n {Zcv:(Zc→Option Zc)} (Zzr:Zoj Zcv) {a0:Zc} {r:Zc} {O:Objs} {n:Nat} (h:Zh2 Zcv a0=some r):GTo Tryz.prog 34 [.agg (Zv a0)] O n (.agg (Zv r)) O n:=by
 unfold Zh2 at h
 refine fn0 Zt Tryz.call34 Tryz.func34 rfl fun hU hN0 hN => ?_
 show W _ _ _ _ ⟨49,[],[(0,.agg (Zv a0))]⟩ (Zr O n []) _
 refine zQ [1,2] ?_
 refine Zl ?_
 refine zQ [1,2,10] ?_
 refine Zp (t:=(a0.Kind == 0)) rfl (fun c15 => ?_) (fun c15 => ?_)
 ·replace h:=Zo c15 h
  refine Zl ?_
  refine zRd [2] [false,true] ?_
  refine zW ?_
  obtain rfl:=sI h
  refine Zq (.inr rfl) hU [.agg [(vI 0),nV,nV]] (by omega) ?_
  simp only [push_cast,seval,Zf,Tryz.results34,hN0,hN]
 replace h:=Zn c15 h
 refine Q5 [1,2] [true,true] ?_
 refine Zl0 [1,2,3,4] (Vq Zt (by kernel_rfl) [] (by kernel_rfl) ?_)
 refine zS ?_
 obtain ⟨z1,hz1,h⟩:=bC h
 refine Yk (E':=⟨49,[],[(1,.ref n 0),(2,.ref (n+1) 0),(3,(sL (eI .u64) z1.1)),(4,(sL Za z1.2))]⟩) (O':=(Zr O n [some ⟨false,25,3,1,(Zv a0)⟩,some ⟨false,25,3,1,[(vI 0),nV,nV]⟩])) (n0:=(n+2)) ?_ ?_
 ·refine zQ [1,2,3,4,18] ?_
  refine Zp (t:=(a0.Kind == 1)) rfl (fun c4 => ?_) (fun c4 => ?_)
  ·replace hz1:=Zo c4 hz1
   obtain ⟨y2,hy2,hz1⟩:=bC hz1
   obtain ⟨y3,hy3,hz1⟩:=bC hz1
   refine zC (Zsr hy2) ?_
   refine zTs (Zu1 hy3) ?_
   exact Vu hz1
  replace hz1:=Zn c4 hz1
  refine zK ?_
  exact Vu hz1
 refine Zl ?_
 refine zRd [2,4,5] [false,true,true] ?_
 obtain ⟨z5,hz5,h⟩:=bC h
 refine Yk (E':=⟨49,[],[(2,.ref (n+1) 0),(4,(sL Za z1.2)),(5,.ref (n+2) 0)]⟩) (O':=(Zr O n [none,some ⟨false,25,3,1,[(vI 0),nV,nV]⟩,some ⟨false,25,3,1,[(vI a0.Kind),(sL (eI .u64) z1.1),.row (n+4) z5.length]⟩,none,some (oR 25 3 Za z5),none])) (n0:=(n+6)) ?_ ?_
 ·refine zQ [2,4,5,29] ?_
  refine Zp (t:=(decide (0 < (z1.2.length:Int)))) rfl (fun c7 => ?_) (fun c7 => ?_)
  ·replace hz5:=Zo c7 hz5
   obtain ⟨l6,al6,bl6,cl6,el6,hz5⟩:=bM2 (c:=56) rfl hz5
   have nl6:Int.toNat (z1.2.length:Int)=List.length l6:=by rw [el6,List.length_replicate]
   have fl6:∀ O O' n,G7 O O' n (List.replicate (List.length l6) [.val (.int .i64 0),.val (.slice none 0 0),.val (.slice none 0 0)]).flatten (fl Za l6)=True:=fun O O' n=>by rw [← nl6,el6];exact eq_true (Z6d (by simp only [push_cast,seval,Zf]) _)
   clear el6
   refine Yn Zt [] ?_
   simp only [push_cast,seval,Zf,al6,bl6,cl6,fl6,nl6,hN0,hN]
   obtain rfl:=sI hz5
   refine And.intro rfl ?_
   refine Fit2.trans (E':=(⟨49,[],[(2,.ref (n+1) 0),(4,(sL Za z1.2)),(5,.ref (n+2) 0)]⟩:Env)) (O':=(Zr O n [none,some ⟨false,25,3,1,[(vI 0),nV,nV]⟩,some ⟨false,25,3,1,[(vI a0.Kind),(sL (eI .u64) z1.1),.row (n+3) l6.length]⟩,some (oR 25 3 Za l6)])) (n':=(n+4)) (Fit2.of (Zz hU rfl rfl ?_) (by omega)) ?_
   ·simp only [push_cast,seval,Zf,al6,bl6,cl6,fl6,nl6,hN0,hN]
   refine X3 (k:=4) (k':=6) hU [5,1,2,4] [0,1,2,0,3,0] rfl rfl rfl rfl ⟨rfl,rfl⟩ ?_
   exact zSe
  replace hz5:=Zn c7 hz5
  refine zK ?_
  obtain rfl:=sI hz5
  refine And.intro rfl ?_
  refine Fit2.trans (E':=(⟨49,[],[(2,.ref (n+1) 0),(4,(sL Za z1.2)),(5,.ref (n+2) 0)]⟩:Env)) (O':=(Zr O n [none,some ⟨false,25,3,1,[(vI 0),nV,nV]⟩,some ⟨false,25,3,1,[(vI a0.Kind),(sL (eI .u64) z1.1),nV]⟩])) (n':=(n+3)) (Fit2.of (Zz hU rfl rfl ?_) (by omega)) ?_
  ·exact zSe
  refine Fit2.trans (Gh (p:=(n+2)) (k:=2) (q:=⟨false,25,3,1,[(vI a0.Kind),(sL (eI .u64) z1.1),nV]⟩) 25 3 (by simp only [U2,Zcy,List.getElem?_cons_zero,List.getElem?_cons_succ,Option.join_some,List.length_nil,Ye]) rfl (by omega)) ?_
  simp only [Y5,Yt,Kj,Q8,List.set_cons_zero,List.set_cons_succ,List.cons_append,List.nil_append,List.length_cons,List.length_nil,Nat.zero_add,Nat.reduceAdd,Nat.reduceLT,Nat.add_assoc]
  refine X3 (k:=4) (k':=6) hU [5,1,2,4] [0,1,2,0,3,0] rfl rfl rfl rfl ⟨rfl,rfl⟩ ?_
  exact zSe
 refine Zl ?_
 refine zQd [2,5,34,35,36] [2,5,34,35,36] [false,true,true,false,true,false] ?_
 obtain ⟨z14,hz14,h⟩:=bC h
 refine Z8 (E':=⟨49,[],[(2,.ref (n+1) 0),(5,.ref (n+2) 0)]⟩) (O':=(Zr O n [none,some ⟨false,25,3,1,[(vI 0),nV,nV]⟩,some ⟨false,25,3,1,[(vI a0.Kind),(sL (eI .u64) z1.1),.row (n+4) z14.length]⟩,none,some (oR 25 3 Za z14),none])) (n0:=(n+6)) ?_ ?_
 ·refine Yi hz14 (fun s0_=>⟨49,[],[(2,.ref (n+1) 0),(5,.ref (n+2) 0),(34,(sL Za z1.2)),(35,(vI (z1.2.length:Int))),(36,(vI s0_.1))]⟩) (fun s0_=>(Zr O n [none,some ⟨false,25,3,1,[(vI 0),nV,nV]⟩,some ⟨false,25,3,1,[(vI a0.Kind),(sL (eI .u64) z1.1),.row (n+4) s0_.2.length]⟩,none,some (oR 25 3 Za s0_.2),none])) (fun z14=>JX 0 n (⟨49,[],[(2,.ref (n+1) 0),(5,.ref (n+2) 0)]⟩:Env) (Zr O n [none,some ⟨false,25,3,1,[(vI 0),nV,nV]⟩,some ⟨false,25,3,1,[(vI a0.Kind),(sL (eI .u64) z1.1),.row (n+4) z14.length]⟩,none,some (oR 25 3 Za z14),none]) (n+6)) ?_
  intro s0_ x0_ hs0_
  unfold Zce at hs0_
  try dsimp only
  refine zQ [2,5,34,35,36,37] ?_
  refine Zl ?_
  refine Zp (t:=(decide (s0_.1 < (z1.2.length:Int)))) rfl (fun c13 => ?_) (fun c13 => ?_)
  ·replace hs0_:=Zo c13 hs0_
   refine Q5 [2,5,34,35,36] [false,true,true,false,true,false] ?_
   refine Zl ?_
   refine Z0 ?_
   refine Zl ?_
   obtain ⟨x9,hx9,ax9,bx9,cx9,hs0_⟩:=bE (f:=Za) Zbu (fun _=>rfl) (by decide) hs0_
   refine Zdr [] ax9 bx9 cx9 ?_
   refine zD [2,5,6,7,34,35,36] [false,true,true,false,true,false,true] ?_
   obtain ⟨y10,hy10,hs0_⟩:=bC hs0_
   obtain ⟨x11,hx11,ax11,bx11,cx11,hs0_⟩:=bE (f:=Za) Zbu (fun _=>rfl) (by decide) hs0_
   have gu12:Ke (fl Za s0_.2) [.val (.int .i64 y10.Kind),.sl y10.Words.length (fl (eI .u64) y10.Words),.sl y10.Kids.length (fl Za y10.Kids)] (Int.toNat s0_.1 * 3)=some (fl Za (Zlw s0_.2 s0_.1 y10)):=(congrArg (fun c=>Ke (fl Za s0_.2) c (Int.toNat s0_.1 * 3)) (show [.val (.int .i64 y10.Kind),.sl y10.Words.length (fl (eI .u64) y10.Words),.sl y10.Kids.length (fl Za y10.Kids)]=Za y10 from by simp only [Za,Yq,eI,eB,eS,eL])).trans (Zus (f:=Za) (ti:=⟨.bool,3,0,[],false⟩) (x:=y10) (fun _=>rfl) (Zh4 hx11))
   refine Zka Zt (by kernel_rfl) [false,false,false,false,false,false,true] [] (by kernel_rfl) ?_
   refine zF4 ax11 bx11 cx11 gu12 ?_
   refine PCall.of (Zzr hy10) ?_
   refine zF4 ax11 bx11 cx11 gu12 ?_
   refine zD [2,5,34,35,36] [false,true,true,false,true,false,false] ?_
   refine zR ?_
   exact Vu hs0_
  replace hs0_:=Zn c13 hs0_
  exact zEx hs0_
 try simp only [Yg,Z3,↓reduceIte,Nat.reduceEqDiff]
 refine zDs [2,5] [false,true,true,false,true,false] ?_
 refine zRd [2] [false,true,false,false,true,false] ?_
 refine zW ?_
 obtain rfl:=sI h
 refine Zq (.inr rfl) hU [.agg [(vI a0.Kind),(sL (eI .u64) z1.1),.row (n+4) z14.length]] (by omega) ?_
 simp only [push_cast,seval,Zf,Tryz.results34,hN0,hN]
theorem Zvw:∀ k,(Zoj (U5 k)):=fun k=>by
 induction k with
 | zero=>exact @fun a0 r O n h=>(nomatch (show (none:Option _)=some _ from h))
 | succ k ih=>exact @fun a0 r O n h=>Z0n (ih)  h
theorem Ze1 {a0:Zc} {r:Zc} {O:Objs} {n:Nat} (h:Zej a0=some r):GTo Tryz.prog 34 [.agg (Zv a0)] O n (.agg (Zv r)) O n:=by
 obtain ⟨k,hk⟩:=Ux h
 exact (Zvw k)  hk
theorem Zdl {a0 r:List Zu} {O:Objs} {n:Nat} (h:Qp a0=some r):GTo Tryz.prog 35 [(sL Zi a0)] O n (.row n r.length) (Zr O n [some (oR 49 4 Zi r)]) (n+1):=by
 have h1:=Z6m h
 have h2:=Z6n h
 have h3:=Z1s h
 rw [List.nil_append] at h3
 subst h3
 simp only [List.length_nil,Nat.zero_add] at h1 h2
 clear h
 refine Zn7 Zt Tryz.call35 Tryz.func35 rfl (Nat.le_of_ble_eq_true rfl) (by omega) fun hU => ?_
 have hN0:O n=none:=hU.fresh _ (Nat.le_refl _)
 have hN:∀ k,O (n+k)=none:=fun k=>hU.fresh _ (Nat.le_add_right _ _)
 show W _ _ _ _ ⟨8,[],[(0,(sL Zi r))]⟩ (Zr O n []) _
 refine zQ [0] ?_
 refine Yf1 0 r.length (fl Zi r) rfl (Nat.le_of_ble_eq_true rfl) (Yb Xb _) fun A c hA => ?_
 refine zQ [0,4] ?_
 cases A with
 | none =>
  obtain rfl:r=[]:=List.eq_nil_of_length_eq_zero (hA rfl)
  refine Zp (t:=true) rfl (fun _ => ?_) (fun hc=>by cases hc)
  refine zQ [2] ?_
  refine zW ?_
  refine Zyz (k:=1) (L3:=[some ⟨true,49,4,0,[]⟩]) (E2:=⟨8,[],[(2,.row n 0),(2,nV)]⟩) (n3:=(n+1)) (.inr rfl) hU rfl [.row n 0] ?_ ?_
  ·have ha:=Zf6 (ba:=n) (E:=⟨8,[],[(2,.val (.slice none 0 0))]⟩) (O:=(Zr O n [])) (n:=n) 2 49 4 rfl (by omega)
   simp only [Yt] at ha
   exact ha
  simp only [push_cast,seval,Zf,Tryz.results35,hN0,hN]
 | some A =>
  refine Zp (t:=false) rfl (fun hc=>by cases hc) (fun _ => ?_)
  refine zK ?_
  refine And.intro rfl (And.intro (Nat.le_of_ble_eq_true rfl) ?_)
  refine Zl ?_
  refine Yn Zt [] ?_
  simp only [push_cast,seval,Zf,h1,h2,hN0,hN]
  refine zW ?_
  refine Ybk (.inr rfl) hU rfl [.row n r.length] (by omega) ?_
  simp only [push_cast,seval,Zf,Tryz.results35,hN0,hN]
theorem V9 {a0:Zw} {r:Zw} {O:Objs} {n:Nat} {i0 j0_0 j0_1 j0_2:Nat} (hi0:i0 < n) (Zkl:j0_0 < n) (Zkm:j0_1 < n) (Zkn:j0_2 < n) (Zgu:i0≠j0_0) (Zc2:i0≠j0_1) (Zc3:i0≠j0_2) (Zcz:j0_0≠j0_1) (Zc0:j0_0≠j0_2) (Zc1:j0_1≠j0_2) (ho0:O i0=some ⟨false,79,4,1,[.row j0_2 a0.out.length,(vI a0.kept),.row j0_0 a0.gone.length,.row j0_1 a0.come.length]⟩) (Zmk:O j0_0=some (oR 25 3 Za a0.gone)) (Zml:O j0_1=some (oR 25 3 Za a0.come)) (Zmm:O j0_2=some (oR 42 14 Zd a0.out)) (h:Xv a0=some r):GTo Tryz.prog 63 [.ref i0 0] O n (.tup []) (Zr ((((O.upd j0_0 none).upd j0_1 none).upd j0_2 none).upd i0 (some ⟨false,79,4,1,[.row (n+2) r.out.length,(vI r.kept),.row n r.gone.length,.row (n+1) r.come.length]⟩)) n [some (oR 25 3 Za r.gone),some (oR 25 3 Za r.come),some (oR 42 14 Zd r.out)]) (n+3):=by
 unfold Xv at h
 refine Zn7 Zt Tryz.call63 Tryz.func63 rfl (Nat.le_of_ble_eq_true rfl) (by omega) fun hU => ?_
 have e0:=U0 (ba:=n) (E:=⟨73,[],Zh3 0 [.ref i0 0]⟩) (O:=(Zr O n [])) (n:=n) (i:=i0) (j:=j0_0) (k:=2) (len:=a0.gone.length) (q:=⟨false,79,4,1,[.row j0_2 a0.out.length,.val (.int .i64 a0.kept),.row j0_0 a0.gone.length,.row j0_1 a0.come.length]⟩) (qj:=⟨true,25,3,a0.gone.length,fl Za a0.gone⟩) (by rw [Y0 _ hi0];first | exact ho0 | exact Ye _ _ _) rfl (by rw [Y0 _ Zkl];exact Zmk) Zgu (by omega)
 simp only [Y6 _ _ Zkl,Y6 _ _ hi0,Y5,Yt,Q9,Zf5 Zgu,List.set_cons_zero,List.set_cons_succ,List.cons_append,List.nil_append,List.length_cons,List.length_nil,Nat.zero_add,Nat.reduceAdd,Nat.add_assoc] at e0
 refine Jz e0 ?_
 have e1:=U0 (ba:=n) (E:=⟨73,[],Zh3 0 [.ref i0 0]⟩) (O:=(Zr ((O.upd j0_0 none).upd i0 (some ⟨false,79,4,1,[.row j0_2 a0.out.length,.val (.int .i64 a0.kept),.row n a0.gone.length,.row j0_1 a0.come.length]⟩)) n [some ⟨true,25,3,a0.gone.length,fl Za a0.gone⟩])) (n:=(n+1)) (i:=i0) (j:=j0_1) (k:=3) (len:=a0.come.length) (q:=⟨false,79,4,1,[.row j0_2 a0.out.length,.val (.int .i64 a0.kept),.row n a0.gone.length,.row j0_1 a0.come.length]⟩) (qj:=⟨true,25,3,a0.come.length,fl Za a0.come⟩) (by rw [Y0 _ hi0];first | exact ho0 | exact Ye _ _ _) rfl (by rw [Y0 _ Zkm,Yz _ _ (Ne.symm Zc2),Yz _ _ (Ne.symm Zcz)];exact Zml) Zc2 (by omega)
 simp only [Y6 _ _ Zkm,Y6 _ _ hi0,Y5,Yt,Q9,Zf5 Zc2,List.set_cons_zero,List.set_cons_succ,List.cons_append,List.nil_append,List.length_cons,List.length_nil,Nat.zero_add,Nat.reduceAdd,Nat.add_assoc] at e1
 refine Jz e1 ?_
 have e2:=U0 (ba:=n) (E:=⟨73,[],Zh3 0 [.ref i0 0]⟩) (O:=(Zr (((O.upd j0_0 none).upd j0_1 none).upd i0 (some ⟨false,79,4,1,[.row j0_2 a0.out.length,.val (.int .i64 a0.kept),.row n a0.gone.length,.row (n+1) a0.come.length]⟩)) n [some ⟨true,25,3,a0.gone.length,fl Za a0.gone⟩,some ⟨true,25,3,a0.come.length,fl Za a0.come⟩])) (n:=(n+2)) (i:=i0) (j:=j0_2) (k:=0) (len:=a0.out.length) (q:=⟨false,79,4,1,[.row j0_2 a0.out.length,.val (.int .i64 a0.kept),.row n a0.gone.length,.row (n+1) a0.come.length]⟩) (qj:=⟨true,42,14,a0.out.length,fl Zd a0.out⟩) (by rw [Y0 _ hi0];first | exact ho0 | exact Ye _ _ _) rfl (by rw [Y0 _ Zkn,Yz _ _ (Ne.symm Zc3),Yz _ _ (Ne.symm Zc1),Yz _ _ (Ne.symm Zc0)];exact Zmm) Zc3 (by omega)
 simp only [Y6 _ _ Zkn,Y6 _ _ hi0,Y5,Yt,Q9,Zf5 Zc3,List.set_cons_zero,List.set_cons_succ,List.cons_append,List.nil_append,List.length_cons,List.length_nil,Nat.zero_add,Nat.reduceAdd,Nat.add_assoc] at e2
 refine Jz e2 ?_
 have hU:=(Und.drop (Und.drop (Und.drop hU j0_0) j0_1) j0_2)
 have hk0:∀ k,i0 < n+k:=fun k=>by omega
 have hN0:∀ o,Objs.upd (((O.upd j0_0 none).upd j0_1 none).upd j0_2 none) i0 o n=none:=fun o=>Kz hU hi0 _ (Nat.le_refl _)
 have hN:∀ o k,Objs.upd (((O.upd j0_0 none).upd j0_1 none).upd j0_2 none) i0 o (n+k)=none:=fun o k=>Kz hU hi0 _ (Nat.le_add_right _ _)
 show W _ _ _ _ ⟨73,[],[(0,.ref i0 0)]⟩ (Zr ((((O.upd j0_0 none).upd j0_1 none).upd j0_2 none).upd i0 (some ⟨false,79,4,1,[.row (n+2) a0.out.length,(vI a0.kept),.row n a0.gone.length,.row (n+1) a0.come.length]⟩)) n [some (oR 25 3 Za a0.gone),some (oR 25 3 Za a0.come),some (oR 42 14 Zd a0.out)]) _
 obtain ⟨z1,hz1,h⟩:=bC h
 refine Yk (E':=⟨73,[],[(0,.ref i0 0)]⟩) (O':=(Zr ((((O.upd j0_0 none).upd j0_1 none).upd j0_2 none).upd i0 (some ⟨false,79,4,1,[.row (n+2) z1.length,(vI a0.kept),.row n a0.gone.length,.row (n+1) a0.come.length]⟩)) n [some (oR 25 3 Za a0.gone),some (oR 25 3 Za a0.come),some (oR 42 14 Zd z1),none])) (n0:=(n+4)) ?_ ?_
 ·refine Znn [0,6] hi0 hk0 ?_
  refine Zp (t:=(decide (0 < a0.kept))) rfl (fun c5 => ?_) (fun c5 => ?_)
  ·replace hz1:=Zo c5 hz1
   obtain ⟨l2,pl2,ql2,el2,hz1⟩:=bA (k:=1) rfl hz1
   obtain ⟨x3,hx3,ax3,bx3,cx3,hz1⟩:=bE (f:=Zd) Jw (fun _=>rfl) (by decide) hz1
   have gu4:Ke (fl Zd a0.out++[.val (.int .i64 0),.val (.int .i64 0),.val (.slice none 0 0),.val (.int .i64 0),.val (.int .i64 0),.val (.slice none 0 0),.val (.slice none 0 0),.val (.int .i64 0),.val (.slice none 0 0),.val (.slice none 0 0),.val (.slice none 0 0),.val (.slice none 0 0),.val (.int .i64 0),.val (.slice none 0 0)]) [.val (.int .i64 0),.val (.int .i64 a0.kept),.val (.slice none 0 0),.val (.int .i64 0),.val (.int .i64 0),.val (.slice none 0 0),.val (.slice none 0 0),.val (.int .i64 0),.val (.slice none 0 0),.val (.slice none 0 0),.val (.slice none 0 0),.val (.slice none 0 0),.val (.int .i64 0),.val (.slice none 0 0)] (List.length a0.out * 14)=some (fl Zd a0.out++[.val (.int .i64 0),.val (.int .i64 a0.kept),.val (.slice none 0 0),.val (.int .i64 0),.val (.int .i64 0),.val (.slice none 0 0),.val (.slice none 0 0),.val (.int .i64 0),.val (.slice none 0 0),.val (.slice none 0 0),.val (.slice none 0 0),.val (.slice none 0 0),.val (.int .i64 0),.val (.slice none 0 0)]):=Zf8 (f:=Zd) (sz:=14) (fun _=>rfl) rfl rfl
   refine Zes Zt (by kernel_rfl) [.plain,.low,.low,.low,.plain,.low,.low,.low,.plain,.low,.pass,.bar,.shp,.fill true,.shp,.shp,.fill false] (fun i=>i < (n+3)) [0,1,2,3,4,5,6,7,8,9,10,11,12,13,14,15,16] [.plain,.low,.low,.low,.plain,.low,.low,.low,.plain,.low,.pass,.bar,.shp,.fill true,.shp,.shp,.fill false] [] (by kernel_rfl) rfl ?_
   refine zF9 pl2 ql2 el2 ax3 bx3 cx3 gu4 hi0 hk0 ?_
   refine zO ?_
   obtain rfl:=sI hz1
   refine And.intro rfl (Fit2.of (Xc hU rfl rfl ?_) (by omega))
   exact Z7j pl2 ql2 el2 ax3 bx3 cx3 gu4 hi0 hk0
  replace hz1:=Zn c5 hz1
  refine zK ?_
  obtain rfl:=sI hz1
  refine And.intro rfl (Fit2.of (Xc hU rfl rfl ?_) (by omega))
  exact Vt hi0 hk0
 obtain ⟨z6,hz6,h⟩:=bC h
 refine Yk (E':=⟨73,[],[(0,.ref i0 0)]⟩) (O':=(Zr ((((O.upd j0_0 none).upd j0_1 none).upd j0_2 none).upd i0 (some ⟨false,79,4,1,[.row (n+2) z6.1.length,(vI a0.kept),(sL Za z6.2),.row (n+1) a0.come.length]⟩)) n [none,some (oR 25 3 Za a0.come),some (oR 42 14 Zd z6.1),none,none])) (n0:=(n+5)) ?_ ?_
 ·refine Znn [0,27] hi0 hk0 ?_
  refine Zp (t:=(decide (0 < (a0.gone.length:Int)))) rfl (fun c12 => ?_) (fun c12 => ?_)
  ·replace hz6:=Zo c12 hz6
   refine Zan ⟨73,[],[(0,.ref i0 0)]⟩ (Zr ((((O.upd j0_0 none).upd j0_1 none).upd j0_2 none).upd i0 (some ⟨false,79,4,1,[.row (n+2) z1.length,(vI a0.kept),(sL Za a0.gone),.row (n+1) a0.come.length]⟩)) n [none,some (oR 25 3 Za a0.come),some (oR 42 14 Zd z1),none]) (Xc hU rfl rfl ?_) ?_
   ·exact Vt hi0 hk0
   obtain ⟨l9,pl9,ql9,el9,hz6⟩:=bA (k:=1) rfl hz6
   obtain ⟨x10,hx10,ax10,bx10,cx10,hz6⟩:=bE (f:=Zd) Jw (fun _=>rfl) (by decide) hz6
   have gu11:Ke (fl Zd z1++[.val (.int .i64 0),.val (.int .i64 0),.val (.slice none 0 0),.val (.int .i64 0),.val (.int .i64 0),.val (.slice none 0 0),.val (.slice none 0 0),.val (.int .i64 0),.val (.slice none 0 0),.val (.slice none 0 0),.val (.slice none 0 0),.val (.slice none 0 0),.val (.int .i64 0),.val (.slice none 0 0)]) [.val (.int .i64 1),.val (.int .i64 0),.sl a0.gone.length (fl Za a0.gone),.val (.int .i64 0),.val (.int .i64 0),.val (.slice none 0 0),.val (.slice none 0 0),.val (.int .i64 0),.val (.slice none 0 0),.val (.slice none 0 0),.val (.slice none 0 0),.val (.slice none 0 0),.val (.int .i64 0),.val (.slice none 0 0)] (List.length z1 * 14)=some (fl Zd z1++[.val (.int .i64 1),.val (.int .i64 0),.sl a0.gone.length (fl Za a0.gone),.val (.int .i64 0),.val (.int .i64 0),.val (.slice none 0 0),.val (.slice none 0 0),.val (.int .i64 0),.val (.slice none 0 0),.val (.slice none 0 0),.val (.slice none 0 0),.val (.slice none 0 0),.val (.int .i64 0),.val (.slice none 0 0)]):=Zf8 (f:=Zd) (sz:=14) (fun _=>rfl) rfl rfl
   refine Zes Zt (by kernel_rfl) [.plain,.low,.low,.low,.plain,.low,.low,.low,.plain,.low,.pass,.bar,.shp,.fill true,.shp,.shp,.fill false] (fun i=>i < (n+4)) [0,1,2,3,4,5,6,7,8,9,10,11,12,13,14,15,16] [.plain,.low,.low,.low,.plain,.low,.low,.low,.plain,.low,.pass,.bar,.shp,.fill true,.shp,.shp,.fill false] [] (by kernel_rfl) rfl ?_
   refine zF9 pl9 ql9 el9 ax10 bx10 cx10 gu11 hi0 hk0 ?_
   refine zO ?_
   obtain rfl:=sI hz6
   refine And.intro rfl (Fit2.of (Xc hU rfl rfl ?_) (by omega))
   exact Z7j pl9 ql9 el9 ax10 bx10 cx10 gu11 hi0 hk0
  replace hz6:=Zn c12 hz6
  refine zK ?_
  obtain rfl:=sI hz6
  refine And.intro rfl (Fit2.of (Xc hU rfl rfl ?_) (by omega))
  exact Vt hi0 hk0
 obtain ⟨z13,hz13,h⟩:=bC h
 refine Yk (E':=⟨73,[],[(0,.ref i0 0)]⟩) (O':=(Zr ((((O.upd j0_0 none).upd j0_1 none).upd j0_2 none).upd i0 (some ⟨false,79,4,1,[.row (n+2) z13.1.length,(vI a0.kept),(sL Za z6.2),(sL Za z13.2)]⟩)) n [none,none,some (oR 42 14 Zd z13.1),none,none,none])) (n0:=(n+6)) ?_ ?_
 ·refine Znn [0,48] hi0 hk0 ?_
  refine Zp (t:=(decide (0 < (a0.come.length:Int)))) rfl (fun c19 => ?_) (fun c19 => ?_)
  ·replace hz13:=Zo c19 hz13
   refine Zan ⟨73,[],[(0,.ref i0 0)]⟩ (Zr ((((O.upd j0_0 none).upd j0_1 none).upd j0_2 none).upd i0 (some ⟨false,79,4,1,[.row (n+2) z6.1.length,(vI a0.kept),(sL Za z6.2),(sL Za a0.come)]⟩)) n [none,none,some (oR 42 14 Zd z6.1),none,none]) (Xc hU rfl rfl ?_) ?_
   ·exact Vt hi0 hk0
   obtain ⟨l16,pl16,ql16,el16,hz13⟩:=bA (k:=1) rfl hz13
   obtain ⟨x17,hx17,ax17,bx17,cx17,hz13⟩:=bE (f:=Zd) Jw (fun _=>rfl) (by decide) hz13
   have gu18:Ke (fl Zd z6.1++[.val (.int .i64 0),.val (.int .i64 0),.val (.slice none 0 0),.val (.int .i64 0),.val (.int .i64 0),.val (.slice none 0 0),.val (.slice none 0 0),.val (.int .i64 0),.val (.slice none 0 0),.val (.slice none 0 0),.val (.slice none 0 0),.val (.slice none 0 0),.val (.int .i64 0),.val (.slice none 0 0)]) [.val (.int .i64 2),.val (.int .i64 0),.sl a0.come.length (fl Za a0.come),.val (.int .i64 0),.val (.int .i64 0),.val (.slice none 0 0),.val (.slice none 0 0),.val (.int .i64 0),.val (.slice none 0 0),.val (.slice none 0 0),.val (.slice none 0 0),.val (.slice none 0 0),.val (.int .i64 0),.val (.slice none 0 0)] (List.length z6.1 * 14)=some (fl Zd z6.1++[.val (.int .i64 2),.val (.int .i64 0),.sl a0.come.length (fl Za a0.come),.val (.int .i64 0),.val (.int .i64 0),.val (.slice none 0 0),.val (.slice none 0 0),.val (.int .i64 0),.val (.slice none 0 0),.val (.slice none 0 0),.val (.slice none 0 0),.val (.slice none 0 0),.val (.int .i64 0),.val (.slice none 0 0)]):=Zf8 (f:=Zd) (sz:=14) (fun _=>rfl) rfl rfl
   refine Zes Zt (by kernel_rfl) [.plain,.low,.low,.low,.plain,.low,.low,.low,.plain,.low,.pass,.bar,.shp,.fill true,.shp,.shp,.fill false] (fun i=>i < (n+5)) [0,1,2,3,4,5,6,7,8,9,10,11,12,13,14,15,16] [.plain,.low,.low,.low,.plain,.low,.low,.low,.plain,.low,.pass,.bar,.shp,.fill true,.shp,.shp,.fill false] [] (by kernel_rfl) rfl ?_
   refine zF9 pl16 ql16 el16 ax17 bx17 cx17 gu18 hi0 hk0 ?_
   refine zO ?_
   obtain rfl:=sI hz13
   refine And.intro rfl (Fit2.of (Xc hU rfl rfl ?_) (by omega))
   exact Z7j pl16 ql16 el16 ax17 bx17 cx17 gu18 hi0 hk0
  replace hz13:=Zn c19 hz13
  refine zK ?_
  obtain rfl:=sI hz13
  refine And.intro rfl (Fit2.of (Xc hU rfl rfl ?_) (by omega))
  exact Vt hi0 hk0
 refine Ja [] hi0 hk0 ?_
 obtain rfl:=sI h
 refine Zgn (k:=3) (i:=i0) (q1:=⟨false,79,4,1,[.row (n+2) z13.1.length,(vI 0),.row n ([]:List Zc).length,.row (n+1) ([]:List Zc).length]⟩) (L3:=[some (oR 25 3 Za ([]:List Zc)),some (oR 25 3 Za ([]:List Zc)),some (oR 42 14 Zd z13.1),none]) (E2:=(⟨73,[],[]⟩:Env)) (n3:=(n+4)) (.inl rfl) hU rfl [] ?_ ?_
 ·refine Fit2.trans (E':=(⟨73,[],[]⟩:Env)) (O':=(Zr ((((O.upd j0_0 none).upd j0_1 none).upd j0_2 none).upd i0 (some ⟨false,79,4,1,[.row (n+2) z13.1.length,(vI 0),nV,nV]⟩)) n [none,none,some (oR 42 14 Zd z13.1),none,none,none])) (n':=(n+6)) (Fit2.of (Xc hU rfl rfl ?_) (by omega)) ?_
  ·exact Vt hi0 hk0
  refine Fit2.trans (Gh (p:=i0) (k:=2) (q:=⟨false,79,4,1,[.row (n+2) z13.1.length,(vI 0),nV,nV]⟩) 25 3 (by simp only [U2,Zcy,List.getElem?_cons_zero,List.getElem?_cons_succ,Option.join_some,List.length_nil,Ye,Y0,hi0,hk0,hN0,hN]) rfl (by omega)) ?_
  simp only [Y5,Yt,Kj,Q8,List.set_cons_zero,List.set_cons_succ,List.cons_append,List.nil_append,List.length_cons,List.length_nil,Nat.zero_add,Nat.reduceAdd,Nat.reduceLT,Nat.add_assoc,Y6,Q9,hi0,hk0,hN0,hN]
  refine Fit2.trans (Gh (p:=i0) (k:=3) (q:=⟨false,79,4,1,[.row (n+2) z13.1.length,(vI 0),.row (n+6) ([]:List Zc).length,nV]⟩) 25 3 (by simp only [U2,Zcy,List.getElem?_cons_zero,List.getElem?_cons_succ,Option.join_some,List.length_nil,Ye,Y0,hi0,hk0,hN0,hN]) rfl (by omega)) ?_
  simp only [Y5,Yt,Kj,Q8,List.set_cons_zero,List.set_cons_succ,List.cons_append,List.nil_append,List.length_cons,List.length_nil,Nat.zero_add,Nat.reduceAdd,Nat.reduceLT,Nat.add_assoc,Y6,Q9,hi0,hk0,hN0,hN]
  refine G4 (k:=8) (k':=4) hU [3,3,2,3,3,3,0,1] [6,7,2,0] rfl rfl rfl rfl ⟨rfl,rfl⟩ ?_
  exact Vt hi0 hk0
 simp only [push_cast,seval,Zf,Tryz.results63,hi0,hk0,hN0,hN]
end Go.Proofs.YtkbcdcffpefklaaGreat
