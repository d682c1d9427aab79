/- Part NM1 of this seat's mirrors: functions of the seat's program, and the plain functions that they are; each theorem bears its own conditions. -/
import Derived.Test.YtbjcopkgdjombaaND
namespace Go.Proofs.Ytbjcopkgdjombaa
open Go.RowKit
set_option linter.unusedVariables false
set_option linter.unusedSimpArgs false
set_option maxRecDepth 100000
set_option maxHeartbeats 4000000
attribute [local push_cast] Try.results107 Try.results25 Try.results36 Try.results39 Try.results40 Try.results42 Try.results45 Try.results46 Try.results47 Try.results50 Try.results68 Try.results69 Try.results75 Try.results76 X8 Ze Y5 Yw Zi Xb Znl Znk Zn7 Zn6 Xf Yn Zjx Ze1 Ze0 onW Qm Zez Zeo Zqt Zpc Zhx Zh1 Zhw Zh0 Zkr Zko Zhz Zkq Zkp Zhy Zkm Zft evS wok K3 Op.operands Call.operands gop onK onP atK List.all_cons List.all_nil Bool.and_true Bool.true_and Bool.and_self Value.oneCell' List.take_zero List.take_succ_cons List.take_nil List.drop_zero List.drop_succ_cons List.drop_nil List.append_nil Nat.add_zero Nat.zero_add Za2 Yt ev Vz Zf7 Znd Znc Zni Zng Znh Zne Znf Znb Ztu Zuf Zwl Zi7 Zcp Zjv Zef Zhj Zgy Zc0 Zc5 Zex Zeu Zc3 Zew Zev Zc2 Zes Zc1 Zc4 Zb7 Zet Zpr Ze2 Zax Zif Zay Zln Zi5 Zvk bLo bHi bMx Zcq Zlm Zyh Zi4 Zmf Zf9 Gc Zrc Zyi Zid Zyj Zco Zzw Zj0 Zj4 Zjz Zj3 Znx Znu Zns Zhl Zj1 Znw Znv Zj2 Znt Zm3 gone Zki Zfl Zfk pop TK.isAgg Zn1 Zn5 Zn0 Zn4 Zkd Zr2 Zry Zn3 Zr1 Zr0 Zn2 Zrx G.under G.unders List.getD_cons_zero List.getD_cons_succ List.set_cons_zero List.set_cons_succ List.map_cons List.map_nil List.toList_toArray Array.toList_append Option.toArray_none Option.toArray_some Array.toList_map Option.map_some Option.map_none Option.bind_some Option.bind_none List.getElem?_cons_zero List.getElem?_cons_succ List.getElem?_nil List.nil_append List.cons_append List.replicate_succ List.replicate_zero List.length_cons List.length_nil and_true true_and and_false false_and Bool.true_eq_false Bool.false_eq_true forall_const false_implies implies_true IntKind.bits if_true if_false ite_true ite_false eq_self true_implies false_or or_false or_true true_or not_true_eq_false not_false_eq_true decide_true decide_false decide_eq_true_eq decide_eq_false_iff_not beq_iff_eq bne_iff_ne ne_eq Bool.not_eq_true Bool.not_eq_false beq_eq_false_iff_ne bne_eq_false_iff_eq beq_self_eq_true bne_self_eq_false Option.some.injEq exists_eq_left' exists_eq_left ge_iff_le gt_iff_lt decide_not Bool.not_true Bool.not_false imp_self Zrd cond_true cond_false Z3x Z3w Bool.not_not Bool.and_false Bool.false_and Bool.or_true Bool.true_or Bool.or_false Bool.false_or Uy Zan Us K8 Y2 Yk Option.join_some Nat.add_assoc Int.toNat_natCast eI eB eS eL Y8 Zf8 Zc6 Zno Znm Znn Z0l Z1c Zgc Zdc Zod Zob Zoc Zww Zp5 Zt4 Zog Zvc Zd9 Zp6 List.length_append G.agg.injEq G.row.injEq G.ref.injEq G.val.injEq G.sl.injEq G.tup.injEq Value.int.injEq Value.bool.injEq Value.string.injEq List.cons.injEq exists_and_left exists_const List.flatten_cons List.flatten_nil Int.le_refl Nat.le_refl X5 Yl Yp Bool.not_eq_true' Bool.not_eq_false' Zpb Zit Ztb Ztf Zta Zte Zyf Zyb List.size_toArray Zr4 Zqy G.ren G.rens Zur Zg5 Zof Zm9 Zna Zkn Ztg Zei G.fn.injEq Zlj Zlk Zpa Zyc Zli Ztd Zye Zyd Ztc Zrh Zxf Option.join_none Yb Gj undef Zmi Arr.len Arr.put_eq Zgb Zhq Zfh Zdb Zoa Zn8 Zn9 onB Z0k Zrb Zkl Zji Zjj Zjk Zjl Zjm Zjn Zhm Zht Zhr Zfj Zdd Zhs Zkh Zkg Zkf Zke Z1b Z25 Zwv Zvx Vs Zwm Zrk Zhu Zfi Zyq Zqz Zi3 Zmc Zen Ziq Zjo Zjp Zjq Zjr Zg9 Zha Zhb Zhc Zhd Zhe Zhf Zhg prT Ze3 Z43 Zs0 Z0y Zs1 Z44 Zs2 Zw4 Zs3 Z45 Zs4 Z46 Zs5 Z47 Zs6 Z48 Zs7 Zxk Zoh Zxl Zoi Zxm Zoj Zxn Zok Zxo Zol Zxp Zom Zxq Zon Zxr Zoo Zxs Zop Zxt Zoq Zxu Zor Zxv Zl4 Zt8 Zcl Zxw Zos Gr Zot Zxx Zgv Zxy Zgw Zxz Zl5 Zx0 Zou Zq1 Zov Zi1 Zow Zx1 Zox Zfu Zoy Zx2 Zoz Zdh Zo0 Zx3 Zo1 Zdi Zo2 Zt9 Zl6 Zx4 Zo3 Zx5 Zo4 Zx6 Zo5 Zv7 Zo6 Zx7 Zo7 Zx8 Zo8 Zr9 Zkt Zsa Zku Zsb Zkv Zsc Zkw Zsd Zkx Zse Zky Zsf Zkz Zsg Zk0 Zsh Zk1 Zsi Zk2 Zsj Zk3 Zsk Zk4 Zsl Zk5 Zsm Zk6 Zsn Zk7 Zso Zk8 Zsp Zk9 Zsq Zla Zsr Zlb Zss Zlc Zst Zld Zsu Zle Zsv Zlf Zsw Zlg Zsx Zlh Za Z5 Zfz Zfy Ze4 Zff Zf2 Zdk Zdg Zdf Zfv Uq Up Uf Ul Ur Vx Vw Vv Uo Zb Xp Zc Zd Yz Y4 Z9 J8 J5 Jm Jq Kb Q2 Qy Qv Jy Kv Kt Kk Ko Kx J3 Jw Ju Kr Zak Zaj Zad Zah Zal Gg Gf Ge Zai Zh4 Zh3 Zhk Zho Zh5 Zfx Zfq Zfp Zh2 Z4 Q5 Q4 Qr Qt Q6 Ql Qk Qj Q0 Z7 J9 J6 Jn Jr Kc Q3 Qz Qw Jz Z6 J7 J4 Jl Jp Ka Q1 Qx Qu Jx Zw Ku Ks Kj Km Kw J0 Jv Jt Kq
def Zhn (Js:(S_api_Tree→Int→Int→Option Int)):Prop:=∀ {a0:S_api_Tree} {a1:Int} {a2:Int} {r:Int} {O:Objs} {n:Nat},Js a0 a1 a2=some r→GTo Try.prog 68 [.agg (Zi a0),.val (.int .i64 a1),.val (.int .i64 a2)] O n (.val (.int .i64 r)) O n
theorem Zqg {Js:(S_api_Tree→Int→Int→Option Int)} (Zpu:Zhn Js) {a0:S_api_Tree} {a1:Int} {a2:Int} {r:Int} {O:Objs} {n:Nat} (h:Jj Js a0 a1 a2=some r):GTo Try.prog 68 [.agg (Zi a0),.val (.int .i64 a1),.val (.int .i64 a2)] O n (.val (.int .i64 r)) O n:=by
 unfold Jj at h
 refine zFn Try.call68 Try.func68 fun hU hN0 hN => ?_
 show W _ _ _ _ ⟨41,[],[(0,.agg (Zi a0)),(1,.val (.int .i64 a1)),(2,.val (.int .i64 a2))]⟩ (Zu O n []) _
 refine zQ [1,2,3] ?_
 refine zQ [1,2,3] ?_
 refine Zj ?_
 refine zQD [1,2,3,19] [none,none] ?_
 refine Zn (t:=(cond (a1 == 0) true (decide ((IntKind.i64.wrap ((IntKind.i64.wrap (a2 - 1)) - (a0.Words.length:Int))) < 0)))) rfl (fun c5 => ?_) (fun c5 => ?_)
 ·replace h:=Zq c5 h
  refine zQ [6] ?_
  exact Xe [.val (.int .i64 (-1))]
 replace h:=Zp c5 h
 refine zKd [1,2,3] [true] ?_
 refine Zj ?_
 refine zQd [1,2,3,7] [1,2,3,7] [true] ?_
 obtain ⟨z4,hz4,h⟩:=bC h
 refine Y9 (E':=⟨41,[],[(2,.val (.int .i64 z4))]⟩) (O':=(Zu O n [none])) (n0:=(n+1)) ?_ ?_
 ·refine Xr hz4 (fun s0_=>⟨41,[],[(1,.val (.int .i64 a1)),(2,.val (.int .i64 s0_.1)),(3,.ref n 0),(7,.val (.int .i64 s0_.2))]⟩) (fun s0_=>(Zu O n [some ⟨false,25,3,1,(Zi a0)⟩])) (fun z4=>JX 0 n (⟨41,[],[(2,.val (.int .i64 z4))]⟩:Env) (Zu O n [none]) (n+1)) ?_
  intro s0_ x0_ hs0_
  unfold Q9 at hs0_
  try dsimp only
  refine Zj ?_
  refine zQD [1,2,3,7,28] [none,none] ?_
  refine Zn (t:=(cond (decide (s0_.2 < (a0.Kids.length:Int))) (decide (0≤s0_.1)) false)) rfl (fun c3 => ?_) (fun c3 => ?_)
  ·replace hs0_:=Zq c3 hs0_
   refine zKd [1,2,3,7] [true] ?_
   refine Zj ?_
   refine Yy ?_
   obtain ⟨x1,hx1,ax1,bx1,cx1,hs0_⟩:=bE (f:=Za) Gr (fun _=>rfl) (by decide) hs0_
   obtain ⟨y2,hy2,hs0_⟩:=bC hs0_
   refine Ziu [] ax1 bx1 cx1 ?_
   refine (Zpu hy2).then ?_
   refine zF3 ax1 bx1 cx1 ?_
   refine zD [1,2,3,7] [true] ?_
   refine zR ?_
   exact zEn hs0_
  replace hs0_:=Zp c3 hs0_
  exact zEx hs0_
 try simp only [Xf,Yn,↓reduceIte,Nat.reduceEqDiff]
 refine zD [2] [false] ?_
 refine zQ [6] ?_
 exact Xe [.val (.int .i64 z4)]
theorem Zpd:∀ k,(Zhn (Y3 k)):=fun k=>by
 induction k with
 | zero=>exact @fun a0 a1 a2 r O n h=>(nomatch (show (none:Option _)=some _ from h))
 | succ k ih=>exact @fun a0 a1 a2 r O n h=>Zqg (ih)  h
theorem Zbw {a0:S_api_Tree} {a1:Int} {a2:Int} {r:Int} {O:Objs} {n:Nat} (h:Qf a0 a1 a2=some r):GTo Try.prog 68 [.agg (Zi a0),.val (.int .i64 a1),.val (.int .i64 a2)] O n (.val (.int .i64 r)) O n:=by
 obtain ⟨k,hk⟩:=Zcr h
 exact (Zpd k)  hk
def Zka (Qi:(S_api_Edit→Int→Int→Option Int)):Prop:=∀ {a0:S_api_Edit} {a1:Int} {a2:Int} {r:Int} {O:Objs} {n:Nat},Qi a0 a1 a2=some r→GTo Try.prog 50 [.agg (Ze a0),.val (.int .i64 a1),.val (.int .i64 a2)] O n (.val (.int .i64 r)) O n
theorem Zt1 {Qi:(S_api_Edit→Int→Int→Option Int)} (Zkc:Zka Qi) {a0:S_api_Edit} {a1:Int} {a2:Int} {r:Int} {O:Objs} {n:Nat} (h:Je Qi a0 a1 a2=some r):GTo Try.prog 50 [.agg (Ze a0),.val (.int .i64 a1),.val (.int .i64 a2)] O n (.val (.int .i64 r)) O n:=by
 unfold Je at h
 refine zFn Try.call50 Try.func50 fun hU hN0 hN => ?_
 show W _ _ _ _ ⟨107,[],[(0,.agg (Ze a0)),(1,.val (.int .i64 a1)),(2,.val (.int .i64 a2))]⟩ (Zu O n []) _
 refine zQ [1,2,3] ?_
 refine zQ [1,2,3] ?_
 refine Zj ?_
 refine zQD [1,2,3,25] [none,none] ?_
 refine Zn (t:=(cond (a1 == 0) true (decide ((IntKind.i64.wrap ((IntKind.i64.wrap ((IntKind.i64.wrap (a2 - 1)) - (a0.Words.length:Int))) - (a0.Ops.length:Int))) < 0)))) rfl (fun c28 => ?_) (fun c28 => ?_)
 ·replace h:=Zq c28 h
  refine zQ [6] ?_
  exact Xe [.val (.int .i64 (-1))]
 replace h:=Zp c28 h
 refine zKd [1,2,3] [true] ?_
 refine Zj ?_
 obtain ⟨y2,hy2,h⟩:=bC h
 refine zCd (Zbw hy2) [1,2,3] [true] ?_
 obtain ⟨z3,hz3,h⟩:=bC h
 refine Xt (E':=⟨107,[],[(1,.val (.int .i64 a1)),(2,.val (.int .i64 z3)),(3,.ref n 0)]⟩) (O':=(Zu O n [some ⟨false,30,11,1,(Ze a0)⟩])) (n0:=(n+1)) ?_ ?_
 ·refine zQ [1,2,3,31] ?_
  refine Zn (t:=(decide (0≤y2))) rfl (fun c5 => ?_) (fun c5 => ?_)
  ·replace hz3:=Zq c5 hz3
   obtain ⟨y4,hy4,hz3⟩:=bC hz3
   refine zC (Zbw hy4) ?_
   exact zEn hz3
  replace hz3:=Zp c5 hz3
  refine zK ?_
  exact zEn hz3
 refine Zj ?_
 refine zQd [1,2,3,7] [1,2,3,7] [true] ?_
 obtain ⟨z10,hz10,h⟩:=bC h
 refine Y9 (E':=⟨107,[],[(1,.val (.int .i64 a1)),(2,.val (.int .i64 z10)),(3,.ref n 0)]⟩) (O':=(Zu O n [some ⟨false,30,11,1,(Ze a0)⟩])) (n0:=(n+1)) ?_ ?_
 ·refine Xr hz10 (fun s0_=>⟨107,[],[(1,.val (.int .i64 a1)),(2,.val (.int .i64 s0_.1)),(3,.ref n 0),(7,.val (.int .i64 s0_.2))]⟩) (fun s0_=>(Zu O n [some ⟨false,30,11,1,(Ze a0)⟩])) (fun z10=>JX 0 n (⟨107,[],[(1,.val (.int .i64 a1)),(2,.val (.int .i64 z10)),(3,.ref n 0)]⟩:Env) (Zu O n [some ⟨false,30,11,1,(Ze a0)⟩]) (n+1)) ?_
  intro s0_ x0_ hs0_
  unfold Qc at hs0_
  try dsimp only
  refine Zj ?_
  refine zQD [1,2,3,7,44] [none,none] ?_
  refine Zn (t:=(cond (decide (s0_.2 < (a0.Kids.length:Int))) (decide (0≤s0_.1)) false)) rfl (fun c9 => ?_) (fun c9 => ?_)
  ·replace hs0_:=Zq c9 hs0_
   refine zKd [1,2,3,7] [true] ?_
   refine Zj ?_
   refine Yy ?_
   obtain ⟨x6,hx6,ax6,bx6,cx6,hs0_⟩:=bE (f:=Zd) Zdi (fun _=>rfl) (by decide) hs0_
   have g7:=Zhi (f:=Zd) (off:=1) (sz:=12) Zq1 (fun _=>rfl) (by decide) (by decide) hx6
   obtain ⟨y8,hy8,hs0_⟩:=bC hs0_
   refine Z2a [] ax6 bx6 cx6 g7 ?_
   refine (Zkc hy8).then ?_
   refine zF4 ax6 bx6 cx6 g7 ?_
   refine zD [1,2,3,7] [true] ?_
   refine zR ?_
   exact zEn hs0_
  replace hs0_:=Zp c9 hs0_
  exact zEx hs0_
 try simp only [Xf,Yn,↓reduceIte,Nat.reduceEqDiff]
 refine zDs [1,2,3] [true] ?_
 refine zQd [1,2,3,8] [1,2,3,8] [true] ?_
 obtain ⟨z27,hz27,h⟩:=bC h
 refine Y9 (E':=⟨107,[],[(2,.val (.int .i64 z27))]⟩) (O':=(Zu O n [none])) (n0:=(n+1)) ?_ ?_
 ·refine Xr hz27 (fun s1_=>⟨107,[],[(1,.val (.int .i64 a1)),(2,.val (.int .i64 s1_.1)),(3,.ref n 0),(8,.val (.int .i64 s1_.2))]⟩) (fun s1_=>(Zu O n [some ⟨false,30,11,1,(Ze a0)⟩])) (fun z27=>JX 2 n (⟨107,[],[(2,.val (.int .i64 z27))]⟩:Env) (Zu O n [none]) (n+1)) ?_
  intro s1_ x1_ hs1_
  unfold Qd at hs1_
  try dsimp only
  refine Zj ?_
  refine zQD [1,2,3,8,65] [none,none] ?_
  refine Zn (t:=(cond (decide (s1_.2 < (a0.Ops.length:Int))) (decide (0≤s1_.1)) false)) rfl (fun c26 => ?_) (fun c26 => ?_)
  ·replace hs1_:=Zq c26 hs1_
   refine zKd [1,2,3,8] [true] ?_
   obtain ⟨z11,hz11,hs1_⟩:=bC hs1_
   refine Xt (E':=⟨107,[],[(1,.val (.int .i64 a1)),(2,.val (.int .i64 z11)),(3,.ref n 0),(8,.val (.int .i64 s1_.2))]⟩) (O':=(Zu O n [some ⟨false,30,11,1,(Ze a0)⟩])) (n0:=(n+1)) ?_ ?_
   ·refine Yy ?_
    refine Zj ?_
    refine zQd [1,2,3,8,9] [1,2,3,8,9] [true] ?_
    obtain ⟨z21,hz21,hz11⟩:=bC hz11
    refine Y9 (E':=⟨107,[],[(1,.val (.int .i64 a1)),(2,.val (.int .i64 z21)),(3,.ref n 0),(8,.val (.int .i64 s1_.2))]⟩) (O':=(Zu O n [some ⟨false,30,11,1,(Ze a0)⟩])) (n0:=(n+1)) ?_ ?_
    ·refine Xr hz21 (fun s2_=>⟨107,[],[(1,.val (.int .i64 a1)),(2,.val (.int .i64 s2_.1)),(3,.ref n 0),(8,.val (.int .i64 s1_.2)),(9,.val (.int .i64 s2_.2))]⟩) (fun s2_=>(Zu O n [some ⟨false,30,11,1,(Ze a0)⟩])) (fun z21=>JX 4 n (⟨107,[],[(1,.val (.int .i64 a1)),(2,.val (.int .i64 z21)),(3,.ref n 0),(8,.val (.int .i64 s1_.2))]⟩:Env) (Zu O n [some ⟨false,30,11,1,(Ze a0)⟩]) (n+1)) ?_
     intro s2_ x2_ hs2_
     unfold Jk at hs2_
     try dsimp only
     refine Zj ?_
     obtain ⟨x14,hx14,ax14,bx14,cx14,hs2_⟩:=bE (f:=Zc) Zdh (fun _=>rfl) (by decide) hs2_
     have g15:=Zhi (f:=Zc) (off:=2) (sz:=14) Zt8 (fun _=>rfl) (by decide) (by decide) hx14
     refine Zuc [1,2,3,8,9,80] (Xa Zz [none,none] ?_)
     refine zF4 ax14 bx14 cx14 g15 ?_
     refine zG ?_
     refine Zn (t:=(cond (decide (s2_.2 < (x14.L.length:Int))) (decide (0≤s2_.1)) false)) rfl (fun c20 => ?_) (fun c20 => ?_)
     ·replace hs2_:=Zq c20 hs2_
      refine zKd [1,2,3,8,9] [true] ?_
      refine Zj ?_
      refine Yy ?_
      obtain ⟨x16,hx16,ax16,bx16,cx16,hs2_⟩:=bE (f:=Zc) Zdh (fun _=>rfl) (by decide) hs2_
      have g17:=Zhi (f:=Zc) (off:=2) (sz:=14) Zt8 (fun _=>rfl) (by decide) (by decide) hx16
      obtain ⟨x18,hx18,ax18,bx18,cx18,hs2_⟩:=bE (f:=Za) Gr (fun _=>rfl) (by decide) hs2_
      obtain ⟨y19,hy19,hs2_⟩:=bC hs2_
      refine Ybs [] ax16 bx16 cx16 g17 ax18 bx18 cx18 ?_
      refine (Zbw hy19).then ?_
      refine zF7 ax16 bx16 cx16 g17 ax18 bx18 cx18 ?_
      refine zD [1,2,3,8,9] [true] ?_
      refine zR ?_
      exact zEn hs2_
     replace hs2_:=Zp c20 hs2_
     exact zEx hs2_
    try simp only [Xf,Yn,↓reduceIte,Nat.reduceEqDiff]
    refine zD [1,2,3,8] [true] ?_
    refine zQ [1,2,3,8,95] ?_
    refine Zn (t:=(decide (0≤z21))) rfl (fun c25 => ?_) (fun c25 => ?_)
    ·replace hz11:=Zq c25 hz11
     obtain ⟨x22,hx22,ax22,bx22,cx22,hz11⟩:=bE (f:=Zc) Zdh (fun _=>rfl) (by decide) hz11
     have g23:=Zhi (f:=Zc) (off:=3) (sz:=14) Zq1 (fun _=>rfl) (by decide) (by decide) hx22
     obtain ⟨y24,hy24,hz11⟩:=bC hz11
     refine Z2a [] ax22 bx22 cx22 g23 ?_
     refine (Zkc hy24).then ?_
     refine zF4 ax22 bx22 cx22 g23 ?_
     exact Ydp hz11 ax22 bx22 cx22 g23
    replace hz11:=Zp c25 hz11
    refine zK ?_
    exact zEn hz11
   refine zR ?_
   exact zEn hs1_
  replace hs1_:=Zp c26 hs1_
  exact zEx hs1_
 try simp only [Xf,Yn,↓reduceIte,Nat.reduceEqDiff]
 refine zD [2] [false] ?_
 refine zQ [6] ?_
 exact Xe [.val (.int .i64 z27)]
theorem Zq4:∀ k,(Zka (Yd k)):=fun k=>by
 induction k with
 | zero=>exact @fun a0 a1 a2 r O n h=>(nomatch (show (none:Option _)=some _ from h))
 | succ k ih=>exact @fun a0 a1 a2 r O n h=>Zt1 (ih)  h
theorem Zuo {a0:S_api_Edit} {a1:Int} {a2:Int} {r:Int} {O:Objs} {n:Nat} (h:Zel a0 a1 a2=some r):GTo Try.prog 50 [.agg (Ze a0),.val (.int .i64 a1),.val (.int .i64 a2)] O n (.val (.int .i64 r)) O n:=by
 obtain ⟨k,hk⟩:=Zcr h
 exact (Zq4 k)  hk
theorem Zio {a0:S_api_Edit} {r:Bool} {O:Objs} {n:Nat} (h:Gx a0=some r):GTo Try.prog 25 [.agg (Ze a0)] O n (.val (.bool r)) O n:=by
 unfold Gx at h
 refine zFn Try.call25 Try.func25 fun hU hN0 hN => ?_
 show W _ _ _ _ ⟨6,[],[(0,.agg (Ze a0))]⟩ (Zu O n []) _
 refine zQ [1] ?_
 refine Zj ?_
 obtain ⟨y2,hy2,h⟩:=bC h
 refine zCd (Zuo hy2) [2] [false] ?_
 exact Xe [.val (.bool (decide (0≤y2)))]
theorem Gz {a0:S_api_Tree} {r:Bool} {O:Objs} {n:Nat} (h:Vq a0=some r):GTo Try.prog 39 [.agg (Zi a0)] O n (.val (.bool r)) O n:=by
 unfold Vq at h
 refine zFn Try.call39 Try.func39 fun hU hN0 hN => ?_
 show W _ _ _ _ ⟨16,[],[(0,.agg (Zi a0))]⟩ (Zu O n []) _
 refine zQ [1] ?_
 refine zQD [2] [none,none,none,none,none,none,none,none] ?_
 exact Xe [.val (.bool (cond (a0.Kind == 0) ((IntKind.i64.wrap ((a0.Words.length:Int)+(a0.Kids.length:Int))) == 0) false))]
theorem Ztx {a0:Int} {r:Int} {O:Objs} {n:Nat} (h:Zg0 a0=some r):GTo Try.prog 107 [.val (.int .i64 a0)] O n (.val (.int .i64 r)) O n:=by
 unfold Zg0 at h
 refine zFn Try.call107 Try.func107 fun hU hN0 hN => ?_
 show W _ _ _ _ ⟨16,[],[(0,.val (.int .i64 a0))]⟩ (Zu O n []) _
 refine zQ [0] ?_
 refine Zj ?_
 refine zQ [3] ?_
 refine Yy ?_
 refine zQ [3,4] ?_
 refine Zn (t:=(a0 == 0)) rfl (fun c6 => ?_) (fun c6 => ?_)
 ·replace h:=Zq c6 h
  refine zQ [2] ?_
  exact Xe [.val (.int .i64 0)]
 replace h:=Zp c6 h
 refine zQ [3,6] ?_
 refine Zn (t:=(a0 == 1)) rfl (fun c5 => ?_) (fun c5 => ?_)
 ·replace h:=Zq c5 h
  refine zQ [2] ?_
  exact Xe [.val (.int .i64 1)]
 replace h:=Zp c5 h
 refine zQ [3,8] ?_
 refine Zn (t:=(a0 == 2)) rfl (fun c4 => ?_) (fun c4 => ?_)
 ·replace h:=Zq c4 h
  refine zQ [2] ?_
  exact Xe [.val (.int .i64 8)]
 replace h:=Zp c4 h
 refine zQ [3,10] ?_
 refine Zn (t:=(a0 == 3)) rfl (fun c3 => ?_) (fun c3 => ?_)
 ·replace h:=Zq c3 h
  refine zQ [2] ?_
  exact Xe [.val (.int .i64 16)]
 replace h:=Zp c3 h
 refine zQ [3,12] ?_
 refine Zn (t:=(a0 == 4)) rfl (fun c2 => ?_) (fun c2 => ?_)
 ·replace h:=Zq c2 h
  refine zQ [2] ?_
  exact Xe [.val (.int .i64 32)]
 replace h:=Zp c2 h
 refine zQ [14] ?_
 refine Zn (t:=(a0 == 5)) rfl (fun c1 => ?_) (fun c1 => ?_)
 ·replace h:=Zq c1 h
  refine zQ [2] ?_
  exact Xe [.val (.int .i64 64)]
 replace h:=Zp c1 h
 refine zKd [] [] ?_
 refine zQ [2] ?_
 exact Xe [.val (.int .i64 (-1))]
theorem Zmm {a0:Int} {a1:Int} {r:Bool} {O:Objs} {n:Nat} (h:Zaq a0 a1=some r):GTo Try.prog 69 [.val (.int .i64 a0),.val (.int .u64 a1)] O n (.val (.bool r)) O n:=by
 unfold Zaq at h
 refine zFn Try.call69 Try.func69 fun hU hN0 hN => ?_
 show W _ _ _ _ ⟨20,[],[(0,.val (.int .i64 a0)),(1,.val (.int .u64 a1))]⟩ (Zu O n []) _
 refine zQ [0,1] ?_
 refine Zj ?_
 obtain ⟨y2,hy2,h⟩:=bC h
 refine zCd (Ztx hy2) [1,5] [] ?_
 refine Zj ?_
 refine zQ [1,5,10] ?_
 refine Zn (t:=(decide (y2 < 0))) rfl (fun c5 => ?_) (fun c5 => ?_)
 ·replace h:=Zq c5 h
  refine zQ [4] ?_
  exact Xe [.val (.bool false)]
 replace h:=Zp c5 h
 refine zKd [1,5] [] ?_
 refine Zj ?_
 refine zQd [1,5,6] [1,5,6] [] ?_
 obtain ⟨z4,hz4,h⟩:=bC h
 refine Y9 (E':=⟨20,[],[(1,.val (.int .u64 z4))]⟩) (O':=(Zu O n [])) (n0:=n) ?_ ?_
 ·refine Xr hz4 (fun s0_=>⟨20,[],[(1,.val (.int .u64 s0_.1)),(5,.val (.int .i64 y2)),(6,.val (.int .i64 s0_.2))]⟩) (fun s0_=>(Zu O n [])) (fun z4=>JX 0 n (⟨20,[],[(1,.val (.int .u64 z4))]⟩:Env) (Zu O n []) n) ?_
  intro s0_ x0_ hs0_
  unfold Jo at hs0_
  try dsimp only
  refine Zj ?_
  refine zQ [1,5,6,13] ?_
  refine Zn (t:=(decide (s0_.2 < y2))) rfl (fun c3 => ?_) (fun c3 => ?_)
  ·replace hs0_:=Zq c3 hs0_
   refine zKd [1,5,6] [] ?_
   refine Zj ?_
   refine Yy ?_
   refine zRd [1,5,6] [] ?_
   refine zR ?_
   exact zEn hs0_
  replace hs0_:=Zp c3 hs0_
  exact zEx hs0_
 try simp only [Xf,Yn,↓reduceIte,Nat.reduceEqDiff]
 refine zD [1] [] ?_
 refine zQ [4] ?_
 exact Xe [.val (.bool (z4 == 0))]
def Ziv (Vd:(S_api_Tree→Int→Option Bool)):Prop:=∀ {a0:S_api_Tree} {a1:Int} {r:Bool} {O:Objs} {n:Nat},Vd a0 a1=some r→GTo Try.prog 36 [.agg (Zi a0),.val (.int .i64 a1)] O n (.val (.bool r)) O n
theorem Zru {Vd:(S_api_Tree→Int→Option Bool)} (Zq5:Ziv Vd) {a0:S_api_Tree} {a1:Int} {r:Bool} {O:Objs} {n:Nat} (h:Zbe Vd a0 a1=some r):GTo Try.prog 36 [.agg (Zi a0),.val (.int .i64 a1)] O n (.val (.bool r)) O n:=by
 unfold Zbe at h
 refine zFn Try.call36 Try.func36 fun hU hN0 hN => ?_
 show W _ _ _ _ ⟨132,[],[(0,.agg (Zi a0)),(1,.val (.int .i64 a1))]⟩ (Zu O n []) _
 refine zQ [1,2] ?_
 refine Zj ?_
 refine zQ [1,2,10] ?_
 refine Zn (t:=(a0.Kind == 0)) rfl (fun c32 => ?_) (fun c32 => ?_)
 ·replace h:=Zq c32 h
  refine zQD [4] [none,none,none,none] ?_
  exact Xe [.val (.bool (cond ((a0.Words.length:Int) == 0) ((a0.Kids.length:Int) == 0) false))]
 replace h:=Zp c32 h
 refine zKd [1,2] [true] ?_
 refine Zj ?_
 refine zQ [1,2,23] ?_
 refine Zn (t:=(a0.Kind == 10)) rfl (fun c31 => ?_) (fun c31 => ?_)
 ·replace h:=Zq c31 h
  refine zQD [4] [none,none,none,none] ?_
  exact Xe [.val (.bool (cond ((a0.Words.length:Int) == 1) ((a0.Kids.length:Int) == 0) false))]
 replace h:=Zp c31 h
 refine zKd [1,2] [true] ?_
 refine Zj ?_
 refine zQD [1,2,68] [none,none,none,none,none,none,none,none,none,none,none,none,none,none,none,none,none,none,none,none,none,none] ?_
 refine Zn (t:=(cond (cond (cond (cond (cond (decide (a0.Kind < 0)) true (decide (10 < a0.Kind))) true (a1 == 0)) true (decide (65536≤(a0.Words.length:Int)))) true (cond (a0.Kind == 1) (decide (65536≤(a0.Kids.length:Int))) false)) true (decide (1048576≤(a0.Kids.length:Int))))) rfl (fun c30 => ?_) (fun c30 => ?_)
 ·replace h:=Zq c30 h
  refine zQ [4] ?_
  exact Xe [.val (.bool false)]
 replace h:=Zp c30 h
 refine zKd [1,2] [true] ?_
 refine Zj ?_
 refine zQD [1,2,77] [none,none,none,none] ?_
 refine Zn (t:=(cond (decide (1 < a0.Kind)) (decide (0 < (a0.Words.length:Int))) false)) rfl (fun c29 => ?_) (fun c29 => ?_)
 ·replace h:=Zq c29 h
  refine zQ [4] ?_
  exact Xe [.val (.bool false)]
 replace h:=Zp c29 h
 refine zKd [1,2] [true] ?_
 refine Zj ?_
 refine zQd [1,2,5] [1,2,5] [true] ?_
 obtain ⟨z28,hz28,h⟩:=bC h
 refine Zee (J:=(K5 (fun z28=>JR n (⟨132,[],[(4,.val (.bool false))]⟩:Env) (Zu O n [none]) (n+1)) (fun z28=>JX 0 n (⟨132,[],[]⟩:Env) (Zu O n [none]) (n+1)))) (z:=z28) ?_ fun hw => ?_
 ·refine Xr hz28 (fun s0_=>⟨132,[],[(1,.val (.int .i64 a1)),(2,.ref n 0),(5,.val (.int .i64 s0_))]⟩) (fun s0_=>(Zu O n [some ⟨false,25,3,1,(Zi a0)⟩])) (K5 (fun z28=>JR n (⟨132,[],[(4,.val (.bool false))]⟩:Env) (Zu O n [none]) (n+1)) (fun z28=>JX 0 n (⟨132,[],[]⟩:Env) (Zu O n [none]) (n+1))) ?_
  intro s0_ x0_ hs0_
  unfold Gl at hs0_
  try dsimp only
  refine Zj ?_
  refine zQ [1,2,5,82] ?_
  refine Zn (t:=(decide (s0_ < (a0.Kids.length:Int)))) rfl (fun c27 => ?_) (fun c27 => ?_)
  ·replace hs0_:=Zq c27 hs0_
   refine zKd [1,2,5] [true] ?_
   refine Zj ?_
   refine Yy ?_
   refine Zj ?_
   obtain ⟨x2,hx2,ax2,bx2,cx2,hs0_⟩:=bE (f:=Za) Gr (fun _=>rfl) (by decide) hs0_
   refine Ziu [] ax2 bx2 cx2 ?_
   refine zDs [1,2,5,6] [true,true] ?_
   refine Zj ?_
   obtain ⟨y4,hy4,hs0_⟩:=bC hs0_
   refine zCd (Zq5 hy4) [1,2,5,6,94] [true,true] ?_
   refine Zn (t:=(!y4)) rfl (fun c26 => ?_) (fun c26 => ?_)
   ·replace hs0_:=Zq c26 hs0_
    refine zQ [4] ?_
    refine zW ?_
    exact zEy hs0_
   replace hs0_:=Zp c26 hs0_
   refine zKd [1,2,5,6] [true,true] ?_
   refine zQD [1,2,5,6,7] [none,none,none] ?_
   obtain ⟨z9,hz9,hs0_⟩:=bC hs0_
   refine Xt (E':=⟨132,[],[(1,.val (.int .i64 a1)),(2,.ref n 0),(5,.val (.int .i64 s0_)),(131,.val (.bool z9))]⟩) (O':=(Zu O n [some ⟨false,25,3,1,(Zi a0)⟩,none])) (n0:=(n+2)) ?_ ?_
   ·rcases Bool.eq_false_or_eq_true ((cond (decide (2≤a0.Kind)) (decide (a0.Kind≤7)) false) != (x2.Kind == 10)) with c18 | c18
    ·replace hz9:=Zq c18 hz9
     refine Vh Zz (by kernel_rfl) [none,none,none,none,none,none,none,none,some false,some false,some false,some false,some false,some false,some false,some false,some false,some false,some false,some false] (by kernel_rfl) ?_
     refine zX1 c18 ?_
     refine zG ?_
     exact G4 hz9 c18
    replace hz9:=Zp c18 hz9
    rcases Bool.eq_false_or_eq_true (a0.Kind == 9) with c19 | c19
    ·replace hz9:=Zq c19 hz9
     try rw [c19] at c18
     try simp only [Bool.cond_true,Bool.cond_false,Bool.true_bne,Bool.false_bne,Bool.true_beq,Bool.false_beq,Bool.not_eq_true',Bool.not_eq_false'] at c18
     rcases Bool.eq_false_or_eq_true (x2.Kind != 1) with c20 | c20
     ·replace hz9:=Zq c20 hz9
      try rw [c20] at c18
      try rw [c20] at c19
      try simp only [Bool.cond_true,Bool.cond_false,Bool.true_bne,Bool.false_bne,Bool.true_beq,Bool.false_beq,Bool.not_eq_true',Bool.not_eq_false'] at c18
      refine Vh Zz (by kernel_rfl) [none,none,none,none,none,none,none,none,some false,some false,some false,some false,some false,some false,some false,some false,some false,some false,some false,some false] (by kernel_rfl) ?_
      refine zX3 c18 c19 c20 ?_
      refine zG ?_
      exact Zl1 hz9 c18 c19 c20
     replace hz9:=Zp c20 hz9
     try rw [c20] at c18
     try rw [c20] at c19
     try simp only [Bool.cond_true,Bool.cond_false,Bool.true_bne,Bool.false_bne,Bool.true_beq,Bool.false_beq,Bool.not_eq_true',Bool.not_eq_false'] at c18
     rcases Bool.eq_false_or_eq_true (decide (2≤a0.Kind)) with c21 | c21
     ·replace hz9:=Zq c21 hz9
      try rw [c21] at c18
      try rw [c21] at c19
      try rw [c21] at c20
      try simp only [Bool.cond_true,Bool.cond_false,Bool.true_bne,Bool.false_bne,Bool.true_beq,Bool.false_beq,Bool.not_eq_true',Bool.not_eq_false'] at c18
      rcases Bool.eq_false_or_eq_true (decide (a0.Kind≤7)) with c22 | c22
      ·replace hz9:=Zq c22 hz9
       try rw [c22] at c18
       try rw [c22] at c19
       try rw [c22] at c20
       try rw [c22] at c21
       try simp only [Bool.cond_true,Bool.cond_false,Bool.true_bne,Bool.false_bne,Bool.true_beq,Bool.false_beq,Bool.not_eq_true',Bool.not_eq_false'] at c18
       obtain ⟨x14,hx14,ax14,bx14,cx14,hz9⟩:=bE (f:=(eI .u64)) Zi1 (fun _=>rfl) (by decide) hz9
       obtain ⟨y15,hy15,hz9⟩:=bC hz9
       refine Vh Zz (by kernel_rfl) [none,none,none,none,none,none,none,none,some true,some true,some true,some true,some true,some true,some true,some true,some true,some true,some true,some true] (by kernel_rfl) ?_
       refine zF8 c18 c19 c20 c21 c22 ax14 bx14 cx14 ?_
       refine zG ?_
       refine PCall.of (Zmm hy15) ?_
       refine zF8 c18 c19 c20 c21 c22 ax14 bx14 cx14 ?_
       refine zG ?_
       exact Yf6 hz9 c18 c19 c20 c21 c22 ax14 bx14 cx14
      replace hz9:=Zp c22 hz9
      try rw [c22] at c18
      try rw [c22] at c19
      try rw [c22] at c20
      try rw [c22] at c21
      try simp only [Bool.cond_true,Bool.cond_false,Bool.true_bne,Bool.false_bne,Bool.true_beq,Bool.false_beq,Bool.not_eq_true',Bool.not_eq_false'] at c18
      refine Vh Zz (by kernel_rfl) [none,none,none,none,none,none,none,none,some true,some true,some false,some false,some false,some false,some false,some false,some false,some false,some false,some true] (by kernel_rfl) ?_
      refine zX5 c18 c19 c20 c21 c22 ?_
      refine zG ?_
      exact Yf7 hz9 c18 c19 c20 c21 c22
     replace hz9:=Zp c21 hz9
     try rw [c21] at c18
     try rw [c21] at c19
     try rw [c21] at c20
     try simp only [Bool.cond_true,Bool.cond_false,Bool.true_bne,Bool.false_bne,Bool.true_beq,Bool.false_beq,Bool.not_eq_true',Bool.not_eq_false'] at c18
     refine Vh Zz (by kernel_rfl) [none,none,none,none,none,none,none,none,some true,some true,some false,some false,some false,some false,some false,some false,some false,some false,some false,some true] (by kernel_rfl) ?_
     refine zX4 c18 c19 c20 c21 ?_
     refine zG ?_
     exact Z19 hz9 c18 c19 c20 c21
    replace hz9:=Zp c19 hz9
    try rw [c19] at c18
    try simp only [Bool.cond_true,Bool.cond_false,Bool.true_bne,Bool.false_bne,Bool.true_beq,Bool.false_beq,Bool.not_eq_true',Bool.not_eq_false'] at c18
    rcases Bool.eq_false_or_eq_true (decide (2≤a0.Kind)) with c23 | c23
    ·replace hz9:=Zq c23 hz9
     try rw [c23] at c18
     try rw [c23] at c19
     try simp only [Bool.cond_true,Bool.cond_false,Bool.true_bne,Bool.false_bne,Bool.true_beq,Bool.false_beq,Bool.not_eq_true',Bool.not_eq_false'] at c18
     rcases Bool.eq_false_or_eq_true (decide (a0.Kind≤7)) with c24 | c24
     ·replace hz9:=Zq c24 hz9
      try rw [c24] at c18
      try rw [c24] at c19
      try rw [c24] at c23
      try simp only [Bool.cond_true,Bool.cond_false,Bool.true_bne,Bool.false_bne,Bool.true_beq,Bool.false_beq,Bool.not_eq_true',Bool.not_eq_false'] at c18
      obtain ⟨x16,hx16,ax16,bx16,cx16,hz9⟩:=bE (f:=(eI .u64)) Zi1 (fun _=>rfl) (by decide) hz9
      obtain ⟨y17,hy17,hz9⟩:=bC hz9
      refine Vh Zz (by kernel_rfl) [none,none,none,none,none,none,none,none,some true,some true,some true,some true,some true,some true,some true,some true,some true,some true,some true,some true] (by kernel_rfl) ?_
      refine zF7 c18 c19 c23 c24 ax16 bx16 cx16 ?_
      refine zG ?_
      refine PCall.of (Zmm hy17) ?_
      refine zF7 c18 c19 c23 c24 ax16 bx16 cx16 ?_
      refine zG ?_
      exact Ybr hz9 c18 c19 c23 c24 ax16 bx16 cx16
     replace hz9:=Zp c24 hz9
     try rw [c24] at c18
     try rw [c24] at c19
     try rw [c24] at c23
     try simp only [Bool.cond_true,Bool.cond_false,Bool.true_bne,Bool.false_bne,Bool.true_beq,Bool.false_beq,Bool.not_eq_true',Bool.not_eq_false'] at c18
     refine Vh Zz (by kernel_rfl) [none,none,none,none,none,none,none,none,some true,some true,some false,some false,some false,some false,some false,some false,some false,some false,some false,some true] (by kernel_rfl) ?_
     refine zX4 c18 c19 c23 c24 ?_
     refine zG ?_
     exact Z19 hz9 c18 c19 c23 c24
    replace hz9:=Zp c23 hz9
    try rw [c23] at c18
    try rw [c23] at c19
    try simp only [Bool.cond_true,Bool.cond_false,Bool.true_bne,Bool.false_bne,Bool.true_beq,Bool.false_beq,Bool.not_eq_true',Bool.not_eq_false'] at c18
    refine Vh Zz (by kernel_rfl) [none,none,none,none,none,none,none,none,some true,some true,some false,some false,some false,some false,some false,some false,some false,some false,some false,some true] (by kernel_rfl) ?_
    refine zX3 c18 c19 c23 ?_
    refine zG ?_
    exact Zl1 hz9 c18 c19 c23
   refine Zn (t:=z9) rfl (fun c25 => ?_) (fun c25 => ?_)
   ·replace hs0_:=Zq c25 hs0_
    refine zQ [4] ?_
    refine zW ?_
    exact zEy hs0_
   replace hs0_:=Zp c25 hs0_
   refine zKd [1,2,5] [true,false] ?_
   refine zR ?_
   exact zEn hs0_
  replace hs0_:=Zp c27 hs0_
  exact zEx hs0_
 rcases z28 with z28 | z28
 ·dsimp only [K5] at hw h
  refine Uz hw ?_
  try simp only [Xf,Yn,↓reduceIte,Nat.reduceEqDiff]
  exact Zq7 [.val (.bool false)]
 dsimp only [K5] at hw h
 refine Y9 hw ?_
 try simp only [Xf,Yn,↓reduceIte,Nat.reduceEqDiff]
 refine zD [] [false] ?_
 refine zQ [4] ?_
 exact Xe [.val (.bool true)]
theorem Zqa:∀ k,(Ziv (Vo k)):=fun k=>by
 induction k with
 | zero=>exact @fun a0 a1 r O n h=>(nomatch (show (none:Option _)=some _ from h))
 | succ k ih=>exact @fun a0 a1 r O n h=>Zru (ih)  h
theorem Za6 {a0:S_api_Tree} {a1:Int} {r:Bool} {O:Objs} {n:Nat} (h:Gw a0 a1=some r):GTo Try.prog 36 [.agg (Zi a0),.val (.int .i64 a1)] O n (.val (.bool r)) O n:=by
 obtain ⟨k,hk⟩:=Zcr h
 exact (Zqa k)  hk
theorem Zlz {a0:Int} {r:(Arr Int 8)} {O:Objs} {n:Nat} (h:Gv a0=some r):GTo Try.prog 45 [.val (.int .u64 a0)] O n (.agg (fl (eI .u8) r.1)) O n:=by
 unfold Gv at h
 refine zFn Try.call45 Try.func45 fun hU hN0 hN => ?_
 show W _ _ _ _ ⟨18,[],[(0,.val (.int .u64 a0))]⟩ (Zu O n []) _
 obtain ⟨y3,hy3,ey3,h⟩:=bY (f:=(eI .u8)) (cs:=[.val (.int .u8 0),.val (.int .u8 0),.val (.int .u8 0),.val (.int .u8 0),.val (.int .u8 0),.val (.int .u8 0),.val (.int .u8 0),.val (.int .u8 0)]) rfl h
 have g4:=congrArg (GObj.mk false 65 8 1) ey3
 refine Yhk [0,2] g4 ?_
 refine Zj ?_
 obtain ⟨y9,hy9,ey9,h⟩:=bY (f:=(eI .u8)) (cs:=[.val (.int .u8 0),.val (.int .u8 0),.val (.int .u8 0),.val (.int .u8 0),.val (.int .u8 0),.val (.int .u8 0),.val (.int .u8 0),.val (.int .u8 0)]) rfl h
 have g10:=congrArg G.agg ey9
 have g11:=congrArg (GObj.mk false 65 8 1) ey9
 have g12:=Zp7 (f:=(eI .u8)) y9 y9 (fun _=>rfl)
 refine Zll [] g10 g11 g12 ?_
 refine zDs [0,2,3] [true,true] ?_
 refine zQd [0,2,3,4] [0,2,3,4] [true,true] ?_
 obtain ⟨z18,hz18,h⟩:=bC h
 refine Y9 (E':=⟨18,[],[(2,.ref n 0),(3,.ref (n+1) 0)]⟩) (O':=(Zu O n [some ⟨false,65,8,1,fl (eI .u8) y3.1⟩,some ⟨false,65,8,1,fl (eI .u8) z18.1⟩])) (n0:=(n+2)) ?_ ?_
 ·refine Xr hz18 (fun s0_=>⟨18,[],[(0,.val (.int .u64 s0_.1)),(2,.ref n 0),(3,.ref (n+1) 0),(4,.val (.int .i64 s0_.2.1))]⟩) (fun s0_=>(Zu O n [some ⟨false,65,8,1,fl (eI .u8) y3.1⟩,some ⟨false,65,8,1,fl (eI .u8) s0_.2.2.1⟩])) (fun z18=>JX 0 n (⟨18,[],[(2,.ref n 0),(3,.ref (n+1) 0)]⟩:Env) (Zu O n [some ⟨false,65,8,1,fl (eI .u8) y3.1⟩,some ⟨false,65,8,1,fl (eI .u8) z18.1⟩]) (n+2)) ?_
  intro s0_ x0_ hs0_
  unfold Gp at hs0_
  try dsimp only
  refine Zj ?_
  refine zQ [0,2,3,4,7] ?_
  refine Zn (t:=(decide (s0_.2.1 < 8))) rfl (fun c17 => ?_) (fun c17 => ?_)
  ·replace hs0_:=Zq c17 hs0_
   refine zKd [0,2,3,4] [true,true] ?_
   refine Zj ?_
   refine Yy ?_
   refine Zj ?_
   obtain ⟨x15,hx15,ax15,bx15,cx15,hs0_⟩:=bEA (f:=(eI .u8)) (b:=8) rfl Zw4 (fun _=>rfl) (by decide) hs0_
   have gu16:U1 (fl (eI .u8) s0_.2.2.1) [.val (.int .u8 (IntKind.u8.wrap (Int.tmod s0_.1 256)))] (Int.toNat s0_.2.1 * 1)=some (fl (eI .u8) (Zg6 s0_.2.2.1 s0_.2.1 (IntKind.u8.wrap (Int.tmod s0_.1 256)))):=Zpq (f:=(eI .u8)) (ti:=⟨.bool,1,0,[],false⟩) (x:=(IntKind.u8.wrap (Int.tmod s0_.1 256))) (fun _=>rfl) (Zie hx15)
   refine Z2a [] ax15 bx15 cx15 gu16 ?_
   refine zD [0,2,3,4] [true,true] ?_
   refine zRd [0,2,3,4] [true,true] ?_
   refine zR ?_
   exact zEn hs0_
  replace hs0_:=Zp c17 hs0_
  exact zEx hs0_
 try simp only [Xf,Yn,↓reduceIte,Nat.reduceEqDiff]
 refine zDs [2,3] [true,true] ?_
 have g21:=Z1p (f:=(eI .u8)) z18 Zt9 rfl (fun _=>rfl) rfl
 have g22:=Zp7 (f:=(eI .u8)) y3 z18 (fun _=>rfl)
 refine Zbb [] g21 g22 ?_
 refine zD [2] [true,false] ?_
 refine zW ?_
 have h:=Option.some.inj h;subst h
 have gR0:=Z1p (f:=(eI .u8)) z18 Zt9 rfl (fun _=>rfl) rfl
 refine Z2i (.inr rfl) hU [.agg (fl (eI .u8) z18.1)] (by omega) ?_
 simp only [push_cast,seval,↓reduceIte,Zk,Try.results45,hN0,hN,gR0]
theorem Ztw {a0:Int} {a1:Int} {r:Bool} {O:Objs} {n:Nat} (h:Zbr a0 a1=some r):GTo Try.prog 46 [.val (.int .u8 a0),.val (.int .i64 a1)] O n (.val (.bool r)) O n:=by
 unfold Zbr at h
 refine zFn Try.call46 Try.func46 fun hU hN0 hN => ?_
 show W _ _ _ _ ⟨16,[],[(0,.val (.int .u8 a0)),(1,.val (.int .i64 a1))]⟩ (Zu O n []) _
 refine zQ [0,1] ?_
 refine Zj ?_
 refine zQd [0,1,5] [0,1,5] [] ?_
 obtain ⟨z2,hz2,h⟩:=bC h
 refine Y9 (E':=⟨16,[],[(0,.val (.int .u8 z2))]⟩) (O':=(Zu O n [])) (n0:=n) ?_ ?_
 ·refine Xr hz2 (fun s0_=>⟨16,[],[(0,.val (.int .u8 s0_.1)),(1,.val (.int .i64 a1)),(5,.val (.int .i64 s0_.2))]⟩) (fun s0_=>(Zu O n [])) (fun z2=>JX 0 n (⟨16,[],[(0,.val (.int .u8 z2))]⟩:Env) (Zu O n []) n) ?_
  intro s0_ x0_ hs0_
  unfold V3 at hs0_
  try dsimp only
  refine Zj ?_
  refine zQ [0,1,5,8] ?_
  refine Zn (t:=(decide (s0_.2 < a1))) rfl (fun c1 => ?_) (fun c1 => ?_)
  ·replace hs0_:=Zq c1 hs0_
   refine zKd [0,1,5] [] ?_
   refine Zj ?_
   refine Yy ?_
   refine zRd [0,1,5] [] ?_
   refine zR ?_
   exact zEn hs0_
  replace hs0_:=Zp c1 hs0_
  exact zEx hs0_
 try simp only [Xf,Yn,↓reduceIte,Nat.reduceEqDiff]
 refine zD [0] [] ?_
 refine zQ [4] ?_
 exact Xe [.val (.bool ((Int.tmod z2 2) == 1))]
theorem Zwr {a0:(List Int)} {a1:Int} {r:Int} {O:Objs} {n:Nat} (h:Zgs a0 a1=some r):GTo Try.prog 47 [.sl a0.length (fl (eI .u8) a0),.val (.int .i64 a1)] O n (.val (.int .u64 r)) O n:=by
 unfold Zgs at h
 refine zFn Try.call47 Try.func47 fun hU hN0 hN => ?_
 show W _ _ _ _ ⟨22,[],[(0,.sl a0.length (fl (eI .u8) a0)),(1,.val (.int .i64 a1))]⟩ (Zu O n []) _
 refine zQ [0,1] ?_
 refine zQ [0,1,5] ?_
 refine Zj ?_
 refine zQd [0,1,5,6] [0,1,5,6] [] ?_
 obtain ⟨z3,hz3,h⟩:=bC h
 refine Y9 (E':=⟨22,[],[(5,.val (.int .u64 z3))]⟩) (O':=(Zu O n [])) (n0:=n) ?_ ?_
 ·refine Xr hz3 (fun s0_=>⟨22,[],[(0,.sl a0.length (fl (eI .u8) a0)),(1,.val (.int .i64 a1)),(5,.val (.int .u64 s0_.1)),(6,.val (.int .i64 s0_.2))]⟩) (fun s0_=>(Zu O n [])) (fun z3=>JX 0 n (⟨22,[],[(5,.val (.int .u64 z3))]⟩:Env) (Zu O n []) n) ?_
  intro s0_ x0_ hs0_
  unfold Zbs at hs0_
  try dsimp only
  refine Zj ?_
  refine zQ [0,1,5,6,8] ?_
  refine Zn (t:=(decide (0≤s0_.2))) rfl (fun c2 => ?_) (fun c2 => ?_)
  ·replace hs0_:=Zq c2 hs0_
   refine zKd [0,1,5,6] [] ?_
   refine Zj ?_
   refine Yy ?_
   obtain ⟨x1,hx1,ax1,bx1,cx1,hs0_⟩:=bE (f:=(eI .u8)) Zw4 (fun _=>rfl) (by decide) hs0_
   refine Ziu [] ax1 bx1 cx1 ?_
   refine zD [0,1,5,6] [] ?_
   refine zR ?_
   exact zEn hs0_
  replace hs0_:=Zp c2 hs0_
  exact zEx hs0_
 try simp only [Xf,Yn,↓reduceIte,Nat.reduceEqDiff]
 refine zD [5] [] ?_
 refine zQ [4] ?_
 exact Xe [.val (.int .u64 z3)]
theorem Zvp {a0:Int} {a1:Int} {a2:Int} {r:Int} {O:Objs} {n:Nat} (h:Zcs a0 a1 a2=some r):GTo Try.prog 75 [.val (.int .u64 a0),.val (.int .u64 a1),.val (.int .u8 a2)] O n (.val (.int .u64 r)) O n:=by
 unfold Zcs at h
 refine zFn Try.call75 Try.func75 fun hU hN0 hN => ?_
 show W _ _ _ _ ⟨28,[],[(0,.val (.int .u64 a0)),(1,.val (.int .u64 a1)),(2,.val (.int .u8 a2))]⟩ (Zu O n []) _
 refine zQ [0,1,2] ?_
 refine Zj ?_
 obtain ⟨y8,hy8,h⟩:=bC h
 obtain ⟨y9,hy9,h⟩:=bC h
 obtain ⟨y10,hy10,ey10,h⟩:=bY (f:=(eI .u8)) (cs:=[.val (.int .u8 0),.val (.int .u8 0),.val (.int .u8 0),.val (.int .u8 0),.val (.int .u8 0),.val (.int .u8 0),.val (.int .u8 0),.val (.int .u8 0)]) rfl h
 have g11:=congrArg (GObj.mk false 65 8 1) ey10
 have g12:=congrArg (GObj.mk false 65 8 1) ey10
 have g13:=Zp7 (f:=(eI .u8)) y10 y8 (fun _=>rfl)
 have g14:=Zp7 (f:=(eI .u8)) y10 y9 (fun _=>rfl)
 refine Z2b [] g11 g12 g13 g14 ?_
 refine (Zlz hy8).then ?_
 refine zX4 g11 g12 g13 g14 ?_
 refine (Zlz hy9).then ?_
 refine zX4 g11 g12 g13 g14 ?_
 refine zDs [2,7,8] [true,true] ?_
 refine zQd [2,7,8,9] [2,7,8,9] [true,true] ?_
 obtain ⟨z23,hz23,h⟩:=bC h
 refine Y9 (E':=⟨28,[],[(7,.ref n 0)]⟩) (O':=(Zu O n [some ⟨false,65,8,1,fl (eI .u8) z23.1⟩,none])) (n0:=(n+2)) ?_ ?_
 ·refine Xr hz23 (fun s0_=>⟨28,[],[(2,.val (.int .u8 a2)),(7,.ref n 0),(8,.ref (n+1) 0),(9,.val (.int .i64 s0_.1))]⟩) (fun s0_=>(Zu O n [some ⟨false,65,8,1,fl (eI .u8) s0_.2.1⟩,some ⟨false,65,8,1,fl (eI .u8) y9.1⟩])) (fun z23=>JX 0 n (⟨28,[],[(7,.ref n 0)]⟩:Env) (Zu O n [some ⟨false,65,8,1,fl (eI .u8) z23.1⟩,none]) (n+2)) ?_
  intro s0_ x0_ hs0_
  unfold Za3 at hs0_
  try dsimp only
  refine Zj ?_
  refine zQ [2,7,8,9,15] ?_
  refine Zn (t:=(decide (s0_.1 < 8))) rfl (fun c22 => ?_) (fun c22 => ?_)
  ·replace hs0_:=Zq c22 hs0_
   refine zKd [2,7,8,9] [true,true] ?_
   obtain ⟨z15,hz15,hs0_⟩:=bC hs0_
   refine Xt (E':=⟨28,[],[(2,.val (.int .u8 a2)),(7,.ref n 0),(8,.ref (n+1) 0),(9,.val (.int .i64 s0_.1))]⟩) (O':=(Zu O n [some ⟨false,65,8,1,fl (eI .u8) z15.1⟩,some ⟨false,65,8,1,fl (eI .u8) y9.1⟩])) (n0:=(n+2)) ?_ ?_
   ·refine Yy ?_
    refine Zj ?_
    obtain ⟨y17,hy17,hz15⟩:=bC hz15
    refine zCd (Ztw hy17) [2,7,8,9,20] [true,true] ?_
    refine Zn (t:=y17) rfl (fun c21 => ?_) (fun c21 => ?_)
    ·replace hz15:=Zq c21 hz15
     obtain ⟨x18,hx18,ax18,bx18,cx18,hz15⟩:=bEA (f:=(eI .u8)) (b:=8) rfl Zw4 (fun _=>rfl) (by decide) hz15
     obtain ⟨x19,hx19,ax19,bx19,cx19,hz15⟩:=bEA (f:=(eI .u8)) (b:=8) rfl Zw4 (fun _=>rfl) (by decide) hz15
     have gu20:U1 (fl (eI .u8) s0_.2.1) [.val (.int .u8 x18)] (Int.toNat s0_.1 * 1)=some (fl (eI .u8) (Zg6 s0_.2.1 s0_.1 x18)):=Zpq (f:=(eI .u8)) (ti:=⟨.bool,1,0,[],false⟩) (x:=x18) (fun _=>rfl) (Zie hx19)
     refine Ybs [] ax18 bx18 cx18 ax19 bx19 cx19 gu20 ?_
     exact Ybr hz15 ax18 bx18 cx18 ax19 bx19 cx19 gu20
    replace hz15:=Zp c21 hz15
    refine zK ?_
    exact zEn hz15
   refine zR ?_
   exact zEn hs0_
  replace hs0_:=Zp c22 hs0_
  exact zEx hs0_
 try simp only [Xf,Yn,↓reduceIte,Nat.reduceEqDiff]
 refine zDs [7] [true,false] ?_
 have g27:=Z53 (j:=n) Zl6 Zw4 (by decide)
 have g28:=z23.2
 obtain ⟨y29,hy29,h⟩:=bC h
 refine Zbb [] g27 g28 ?_
 refine GCalls.lend (Zwr hy29) rfl ?_ ?_
 ·exact Ve g27 g28
 refine zX2 g27 g28 ?_
 refine zD [6] [false,false] ?_
 exact Xe [.val (.int .u64 y29)]
theorem Zfb {a0:Int} {a1:Int} {r:Bool} {O:Objs} {n:Nat} (h:U8 a0 a1=some r):GTo Try.prog 40 [.val (.int .u64 a0),.val (.int .u8 a1)] O n (.val (.bool r)) O n:=by
 unfold U8 at h
 refine zFn Try.call40 Try.func40 fun hU hN0 hN => ?_
 show W _ _ _ _ ⟨9,[],[(0,.val (.int .u64 a0)),(1,.val (.int .u8 a1))]⟩ (Zu O n []) _
 refine zQ [0,1] ?_
 refine Zj ?_
 obtain ⟨y2,hy2,h⟩:=bC h
 refine zCd (Zvp hy2) [4] [] ?_
 exact Xe [.val (.bool (y2 == 0))]
theorem Zmo {a0:S_api_Edit} {r:Bool} {O:Objs} {n:Nat} (h:Zar a0=some r):GTo Try.prog 76 [.agg (Ze a0)] O n (.val (.bool r)) O n:=by
 unfold Zar at h
 refine zFn Try.call76 Try.func76 fun hU hN0 hN => ?_
 show W _ _ _ _ ⟨35,[],[(0,.agg (Ze a0))]⟩ (Zu O n []) _
 refine zQ [1] ?_
 obtain ⟨z3,hz3,h⟩:=bC h
 refine Xt (E':=⟨35,[],[(2,.val (.bool z3))]⟩) (O':=(Zu O n [none])) (n0:=(n+1)) ?_ ?_
 ·rcases Bool.eq_false_or_eq_true (a0.Kind == 0) with c8 | c8
  ·replace hz3:=Zq c8 hz3
   obtain ⟨y6,hy6,hz3⟩:=bC hz3
   rcases Bool.eq_false_or_eq_true y6 with c9 | c9
   ·replace hz3:=Zq c9 hz3
    try rw [c9] at c8
    obtain ⟨y7,hy7,hz3⟩:=bC hz3
    refine Zbb [some true,some true,some true,some true,some true,some true,none,none,none,none,none,none,none,none,none,none,none,none,none,none,none] c8 c9 ?_
    refine zG ?_
    refine (Gz hy6).then ?_
    refine zX2 c8 c9 ?_
    refine zG ?_
    refine (Gz hy7).then ?_
    refine zX2 c8 c9 ?_
    refine zG ?_
    exact Zm2 hz3 c8 c9
   replace hz3:=Zp c9 hz3
   try rw [c9] at c8
   refine Zbb [some true,some true,some true,some false,some false,some false,some false,some false,some false,some false,some false,some false,some false,some false,some false,some false,some false,some false,some false,some false,some false] c8 c9 ?_
   refine (Gz hy6).then ?_
   refine zX2 c8 c9 ?_
   exact Zm2 hz3 c8 c9
  replace hz3:=Zp c8 hz3
  refine Zbv [some false,some false,some false,some false,some false,some false,some false,some false,some false,some false,some false,some false,some false,some false,some false,some false,some false,some false,some false,some false,some false] c8 ?_
  exact G4 hz3 c8
 exact Xe [.val (.bool z3)]
theorem Zix {a0:S_api_Edit} {r:(Int×Int)} {O:Objs} {n:Nat} (h:Ug a0=some r):GTo Try.prog 42 [.agg (Ze a0)] O n (.tup [.val (.int .i64 r.1),.val (.int .i64 r.2)]) O n:=by
 unfold Ug at h
 refine zFn Try.call42 Try.func42 fun hU hN0 hN => ?_
 show W _ _ _ _ ⟨48,[],[(0,.agg (Ze a0))]⟩ (Zu O n []) _
 refine zQ [1] ?_
 refine zQ [1,4,5] ?_
 refine Zj ?_
 refine zQd [1,4,5,6] [1,4,5,6] [true] ?_
 obtain ⟨z14,hz14,h⟩:=bC h
 refine Y9 (E':=⟨48,[],[(4,.val (.int .i64 z14.1)),(5,.val (.int .i64 z14.2))]⟩) (O':=(Zu O n [none])) (n0:=(n+1)) ?_ ?_
 ·refine Xr hz14 (fun s0_=>⟨48,[],[(1,.ref n 0),(4,.val (.int .i64 s0_.1)),(5,.val (.int .i64 s0_.2.1)),(6,.val (.int .i64 s0_.2.2))]⟩) (fun s0_=>(Zu O n [some ⟨false,30,11,1,(Ze a0)⟩])) (fun z14=>JX 0 n (⟨48,[],[(4,.val (.int .i64 z14.1)),(5,.val (.int .i64 z14.2))]⟩:Env) (Zu O n [none]) (n+1)) ?_
  intro s0_ x0_ hs0_
  unfold Uh at hs0_
  try dsimp only
  refine Zj ?_
  refine zQ [1,4,5,6,13] ?_
  refine Zn (t:=(decide (s0_.2.2 < (a0.Ops.length:Int)))) rfl (fun c13 => ?_) (fun c13 => ?_)
  ·replace hs0_:=Zq c13 hs0_
   refine zKd [1,4,5,6] [true] ?_
   obtain ⟨z1,hz1,hs0_⟩:=bC hs0_
   refine Xt (E':=⟨48,[],[(1,.ref n 0),(4,.val (.int .i64 z1.1)),(5,.val (.int .i64 z1.2)),(6,.val (.int .i64 s0_.2.2))]⟩) (O':=(Zu O n [some ⟨false,30,11,1,(Ze a0)⟩,none])) (n0:=(n+2)) ?_ ?_
   ·refine Yy ?_
    refine Zj ?_
    obtain ⟨x3,hx3,ax3,bx3,cx3,hz1⟩:=bE (f:=Zc) Zdh (fun _=>rfl) (by decide) hz1
    refine Ziu [] ax3 bx3 cx3 ?_
    refine zD [1,4,5,6,7] [true,true] ?_
    refine zQ [1,4,5,6,7,8] ?_
    obtain ⟨z4,hz4,hz1⟩:=bC hz1
    refine Xt (E':=⟨48,[],[(1,.ref n 0),(4,.val (.int .i64 s0_.1)),(5,.val (.int .i64 s0_.2.1)),(6,.val (.int .i64 s0_.2.2)),(7,.ref (n+1) 0),(8,.val (.int .i64 z4))]⟩) (O':=(Zu O n [some ⟨false,30,11,1,(Ze a0)⟩,some ⟨false,53,14,1,(Yw x3)⟩])) (n0:=(n+2)) ?_ ?_
    ·refine zQ [1,4,5,6,7,8,29] ?_
     refine Zn (t:=(x3.Kind == 3)) rfl (fun c5 => ?_) (fun c5 => ?_)
     ·replace hz4:=Zq c5 hz4
      refine zR ?_
      exact zEn hz4
     replace hz4:=Zp c5 hz4
     refine zK ?_
     exact zEn hz4
    obtain ⟨z6,hz6,hz1⟩:=bC hz1
    refine Xt (E':=⟨48,[],[(1,.ref n 0),(4,.val (.int .i64 z6)),(5,.val (.int .i64 s0_.2.1)),(6,.val (.int .i64 s0_.2.2)),(7,.ref (n+1) 0),(8,.val (.int .i64 z4))]⟩) (O':=(Zu O n [some ⟨false,30,11,1,(Ze a0)⟩,some ⟨false,53,14,1,(Yw x3)⟩])) (n0:=(n+2)) ?_ ?_
    ·refine zQ [1,4,5,6,7,8,32] ?_
     refine Zn (t:=(x3.Kind != 2)) rfl (fun c7 => ?_) (fun c7 => ?_)
     ·replace hz6:=Zq c7 hz6
      refine zR ?_
      exact zEn hz6
     replace hz6:=Zp c7 hz6
     refine zK ?_
     exact zEn hz6
    obtain ⟨z8,hz8,hz1⟩:=bC hz1
    refine Xt (E':=⟨48,[],[(1,.ref n 0),(4,.val (.int .i64 z6)),(5,.val (.int .i64 z8)),(6,.val (.int .i64 s0_.2.2))]⟩) (O':=(Zu O n [some ⟨false,30,11,1,(Ze a0)⟩,none])) (n0:=(n+2)) ?_ ?_
    ·refine zQ [1,4,5,6,8,38] ?_
     refine Zn (t:=(x3.Kind != 1)) rfl (fun c9 => ?_) (fun c9 => ?_)
     ·replace hz8:=Zq c9 hz8
      refine zR ?_
      exact zEn hz8
     replace hz8:=Zp c9 hz8
     refine zK ?_
     exact zEn hz8
    obtain ⟨z10,hz10,hz1⟩:=bC hz1
    refine Xt (E':=⟨48,[],[(1,.ref n 0),(4,.val (.int .i64 z10)),(5,.val (.int .i64 z8)),(6,.val (.int .i64 s0_.2.2))]⟩) (O':=(Zu O n [some ⟨false,30,11,1,(Ze a0)⟩,none])) (n0:=(n+2)) ?_ ?_
    ·refine zQ [1,4,5,6,43] ?_
     refine Zn (t:=(decide (1048576 < z6))) rfl (fun c11 => ?_) (fun c11 => ?_)
     ·replace hz10:=Zq c11 hz10
      refine zR ?_
      exact zEn hz10
     replace hz10:=Zp c11 hz10
     refine zK ?_
     exact zEn hz10
    refine zQ [1,4,5,6,45] ?_
    refine Zn (t:=(decide (1048576 < z8))) rfl (fun c12 => ?_) (fun c12 => ?_)
    ·replace hz1:=Zq c12 hz1
     refine zR ?_
     exact zEn hz1
    replace hz1:=Zp c12 hz1
    refine zK ?_
    exact zEn hz1
   refine zR ?_
   exact zEn hs0_
  replace hs0_:=Zp c13 hs0_
  exact zEx hs0_
 try simp only [Xf,Yn,↓reduceIte,Nat.reduceEqDiff]
 refine zD [4,5] [false] ?_
 refine zQ [2,3] ?_
 exact Xe [.val (.int .i64 z14.1),.val (.int .i64 z14.2)]
attribute [local push_cast] Try.results17 Try.results20 Try.results26 Try.results35 Try.results41 Try.results49 Try.results73 Try.results77 Try.results8 X8 Ze Y5 Yw Zi Xb Znl Znk Zn7 Zn6 Xf Yn Zjx Ze1 Ze0 onW Qm Zez Zeo Zqt Zpc Zhx Zh1 Zhw Zh0 Zkr Zko Zhz Zkq Zkp Zhy Zkm Zft evS wok K3 Op.operands Call.operands gop onK onP atK List.all_cons List.all_nil Bool.and_true Bool.true_and Bool.and_self Value.oneCell' List.take_zero List.take_succ_cons List.take_nil List.drop_zero List.drop_succ_cons List.drop_nil List.append_nil Nat.add_zero Nat.zero_add Za2 Yt ev Vz Zf7 Znd Znc Zni Zng Znh Zne Znf Znb Ztu Zuf Zwl Zi7 Zcp Zjv Zef Zhj Zgy Zc0 Zc5 Zex Zeu Zc3 Zew Zev Zc2 Zes Zc1 Zc4 Zb7 Zet Zpr Ze2 Zax Zif Zay Zln Zi5 Zvk bLo bHi bMx Zcq Zlm Zyh Zi4 Zmf Zf9 Gc Zrc Zyi Zid Zyj Zco Zzw Zj0 Zj4 Zjz Zj3 Znx Znu Zns Zhl Zj1 Znw Znv Zj2 Znt Zm3 gone Zki Zfl Zfk pop TK.isAgg Zn1 Zn5 Zn0 Zn4 Zkd Zr2 Zry Zn3 Zr1 Zr0 Zn2 Zrx G.under G.unders List.getD_cons_zero List.getD_cons_succ List.set_cons_zero List.set_cons_succ List.map_cons List.map_nil List.toList_toArray Array.toList_append Option.toArray_none Option.toArray_some Array.toList_map Option.map_some Option.map_none Option.bind_some Option.bind_none List.getElem?_cons_zero List.getElem?_cons_succ List.getElem?_nil List.nil_append List.cons_append List.replicate_succ List.replicate_zero List.length_cons List.length_nil and_true true_and and_false false_and Bool.true_eq_false Bool.false_eq_true forall_const false_implies implies_true IntKind.bits if_true if_false ite_true ite_false eq_self true_implies false_or or_false or_true true_or not_true_eq_false not_false_eq_true decide_true decide_false decide_eq_true_eq decide_eq_false_iff_not beq_iff_eq bne_iff_ne ne_eq Bool.not_eq_true Bool.not_eq_false beq_eq_false_iff_ne bne_eq_false_iff_eq beq_self_eq_true bne_self_eq_false Option.some.injEq exists_eq_left' exists_eq_left ge_iff_le gt_iff_lt decide_not Bool.not_true Bool.not_false imp_self Zrd cond_true cond_false Z3x Z3w Bool.not_not Bool.and_false Bool.false_and Bool.or_true Bool.true_or Bool.or_false Bool.false_or Uy Zan Us K8 Y2 Yk Option.join_some Nat.add_assoc Int.toNat_natCast eI eB eS eL Y8 Zf8 Zc6 Zno Znm Znn Z0l Z1c Zgc Zdc Zod Zob Zoc Zww Zp5 Zt4 Zog Zvc Zd9 Zp6 List.length_append G.agg.injEq G.row.injEq G.ref.injEq G.val.injEq G.sl.injEq G.tup.injEq Value.int.injEq Value.bool.injEq Value.string.injEq List.cons.injEq exists_and_left exists_const List.flatten_cons List.flatten_nil Int.le_refl Nat.le_refl X5 Yl Yp Bool.not_eq_true' Bool.not_eq_false' Zpb Zit Ztb Ztf Zta Zte Zyf Zyb List.size_toArray Zr4 Zqy G.ren G.rens Zur Zg5 Zof Zm9 Zna Zkn Ztg Zei G.fn.injEq Zlj Zlk Zpa Zyc Zli Ztd Zye Zyd Ztc Zrh Zxf Option.join_none Yb Gj undef Zmi Arr.len Arr.put_eq Zgb Zhq Zfh Zdb Zoa Zn8 Zn9 onB Z0k Zrb Zkl Zji Zjj Zjk Zjl Zjm Zjn Zhm Zht Zhr Zfj Zdd Zhs Zkh Zkg Zkf Zke Z1b Z25 Zwv Zvx Vs Zwm Zrk Zhu Zfi Zyq Zqz Zi3 Zmc Zen Ziq Zjo Zjp Zjq Zjr Zg9 Zha Zhb Zhc Zhd Zhe Zhf Zhg prT Ze3 Z43 Zs0 Z0y Zs1 Z44 Zs2 Zw4 Zs3 Z45 Zs4 Z46 Zs5 Z47 Zs6 Z48 Zs7 Zxk Zoh Zxl Zoi Zxm Zoj Zxn Zok Zxo Zol Zxp Zom Zxq Zon Zxr Zoo Zxs Zop Zxt Zoq Zxu Zor Zxv Zl4 Zt8 Zcl Zxw Zos Gr Zot Zxx Zgv Zxy Zgw Zxz Zl5 Zx0 Zou Zq1 Zov Zi1 Zow Zx1 Zox Zfu Zoy Zx2 Zoz Zdh Zo0 Zx3 Zo1 Zdi Zo2 Zt9 Zl6 Zx4 Zo3 Zx5 Zo4 Zx6 Zo5 Zv7 Zo6 Zx7 Zo7 Zx8 Zo8 Zr9 Zkt Zsa Zku Zsb Zkv Zsc Zkw Zsd Zkx Zse Zky Zsf Zkz Zsg Zk0 Zsh Zk1 Zsi Zk2 Zsj Zk3 Zsk Zk4 Zsl Zk5 Zsm Zk6 Zsn Zk7 Zso Zk8 Zsp Zk9 Zsq Zla Zsr Zlb Zss Zlc Zst Zld Zsu Zle Zsv Zlf Zsw Zlg Zsx Zlh Za Z5 Zfz Zfy Ze4 Zff Zf2 Zdk Zdg Zdf Zfv Uq Up Uf Ul Ur Vx Vw Vv Uo Zb Xp Zc Zd Yz Y4 Z9 J8 J5 Jm Jq Kb Q2 Qy Qv Jy Kv Kt Kk Ko Kx J3 Jw Ju Kr Zak Zaj Zad Zah Zal Gg Gf Ge Zai Zh4 Zh3 Zhk Zho Zh5 Zfx Zfq Zfp Zh2 Z4 Q5 Q4 Qr Qt Q6 Ql Qk Qj Q0 Z7 J9 J6 Jn Jr Kc Q3 Qz Qw Jz Z6 J7 J4 Jl Jp Ka Q1 Qx Qu Jx Zw Ku Ks Kj Km Kw J0 Jv Jt Kq
def Zeg (Xo:(S_api_Edit→Int→Option Bool)):Prop:=∀ {a0:S_api_Edit} {a1:Int} {r:Bool} {O:Objs} {n:Nat},Xo a0 a1=some r→GTo Try.prog 17 [.agg (Ze a0),.val (.int .i64 a1)] O n (.val (.bool r)) O n
def Zg3 (Q8:(Int→S_api_Op→Int→Option Bool)):Prop:=∀ {a0:Int} {a1:S_api_Op} {a2:Int} {r:Bool} {O:Objs} {n:Nat},Q8 a0 a1 a2=some r→GTo Try.prog 41 [.val (.int .i64 a0),.agg (Yw a1),.val (.int .i64 a2)] O n (.val (.bool r)) O n
theorem Zrw {Xo:(S_api_Edit→Int→Option Bool)} {Q8:(Int→S_api_Op→Int→Option Bool)} (Zeh:Zeg Xo) (Zmp:Zg3 Q8) {a0:S_api_Edit} {a1:Int} {r:Bool} {O:Objs} {n:Nat} (h:Zbg Xo Q8 a0 a1=some r):GTo Try.prog 17 [.agg (Ze a0),.val (.int .i64 a1)] O n (.val (.bool r)) O n:=by
 unfold Zbg at h
 refine zFn Try.call17 Try.func17 fun hU hN0 hN => ?_
 show W _ _ _ _ ⟨216,[],[(0,.agg (Ze a0)),(1,.val (.int .i64 a1))]⟩ (Zu O n []) _
 refine zQ [1,2] ?_
 refine Zj ?_
 refine zQD [1,2,24] [none,none,none,none,none,none] ?_
 refine Zn (t:=(cond (cond (a1 == 0) true (decide (a0.Kind < 0))) true (decide (3 < a0.Kind)))) rfl (fun c58 => ?_) (fun c58 => ?_)
 ·replace h:=Zq c58 h
  refine zQ [4] ?_
  exact Xe [.val (.bool false)]
 replace h:=Zp c58 h
 refine zKd [1,2] [true] ?_
 refine Zj ?_
 obtain ⟨z3,hz3,h⟩:=bC h
 refine Xt (E':=⟨216,[],[(1,.val (.int .i64 a1)),(2,.ref n 0),(69,.val (.bool z3))]⟩) (O':=(Zu O n [some ⟨false,30,11,1,(Ze a0)⟩])) (n0:=(n+1)) ?_ ?_
 ·rcases Bool.eq_false_or_eq_true (a0.Kind != 1) with c8 | c8
  ·replace hz3:=Zq c8 hz3
   obtain ⟨y6,hy6,hz3⟩:=bC hz3
   rcases Bool.eq_false_or_eq_true y6 with c9 | c9
   ·replace hz3:=Zq c9 hz3
    try rw [c9] at c8
    obtain ⟨y7,hy7,hz3⟩:=bC hz3
    refine Zbb [some true,some true,some true,some true,some true,some true,some true,some true,some true,none,none,none,none,none,none,none,none,none,none,none,none,none,none,none,none,none,none,none,none,none,none,none,none,none,none,none] c8 c9 ?_
    refine zG ?_
    refine (Gz hy6).then ?_
    refine zX2 c8 c9 ?_
    refine zG ?_
    refine (Gz hy7).then ?_
    refine zX2 c8 c9 ?_
    refine zG ?_
    exact Zm2 hz3 c8 c9
   replace hz3:=Zp c9 hz3
   try rw [c9] at c8
   refine Zbb [some true,some true,some true,some true,some false,some false,some false,some true,some true,some false,some false,some false,some false,some false,some false,some false,some false,some false,some false,some false,some false,some false,some false,some false,some false,some false,some false,some false,some false,some false,some false,some false,some false,some false,some false,some false] c8 c9 ?_
   refine (Gz hy6).then ?_
   refine zX2 c8 c9 ?_
   exact Zm2 hz3 c8 c9
  replace hz3:=Zp c8 hz3
  refine Zbv [some false,some false,some false,some false,some false,some false,some false,some false,some false,some true,some true,some true,some true,none,none,none,none,none,none,none,none,some true,none,none,none,none,none,none,none,none,none,none,none,none,none,none] c8 ?_
  refine zG ?_
  exact G4 hz3 c8
 refine Zn (t:=z3) rfl (fun c57 => ?_) (fun c57 => ?_)
 ·replace h:=Zq c57 h
  refine zQ [4] ?_
  exact Xe [.val (.bool false)]
 replace h:=Zp c57 h
 refine zKd [1,2] [true] ?_
 refine Zj ?_
 refine zQ [1,2,72] ?_
 refine Zn (t:=(a0.Kind == 1)) rfl (fun c56 => ?_) (fun c56 => ?_)
 ·replace h:=Zq c56 h
  obtain ⟨z12,hz12,h⟩:=bC h
  refine Xt (E':=⟨216,[],[(4,.val (.bool z12))]⟩) (O':=(Zu O n [none])) (n0:=(n+1)) ?_ ?_
  ·obtain ⟨y15,hy15,hz12⟩:=bC hz12
   rcases Bool.eq_false_or_eq_true y15 with c17 | c17
   ·replace hz12:=Zq c17 hz12
    obtain ⟨y16,hy16,hz12⟩:=bC hz12
    refine Zbv [some true,some true,some true,none,none,none,none,none,none,none,none] c17 ?_
    refine zG ?_
    refine (Za6 hy15).then ?_
    refine zX1 c17 ?_
    refine zG ?_
    refine (Za6 hy16).then ?_
    refine zX1 c17 ?_
    refine zG ?_
    exact G4 hz12 c17
   replace hz12:=Zp c17 hz12
   refine Zbv [some false,some false,some false,some false,some false,some false,some false,some false,some false,some false,some false] c17 ?_
   refine (Za6 hy15).then ?_
   refine zX1 c17 ?_
   exact G4 hz12 c17
  exact Xe [.val (.bool z12)]
 replace h:=Zp c56 h
 refine zKd [1,2] [true] ?_
 refine zQ [1,2,5] ?_
 refine Zj ?_
 refine zQd [1,2,5,6] [1,2,5,6] [true] ?_
 obtain ⟨z33,hz33,h⟩:=bC h
 refine Zee (J:=(K5 (fun z33=>JR n (⟨216,[],[(4,.val (.bool false))]⟩:Env) (Zu O n [none]) (n+1)) (fun z33=>JX 0 n (⟨216,[],[(1,.val (.int .i64 a1)),(2,.ref n 0)]⟩:Env) (Zu O n [some ⟨false,30,11,1,(Ze a0)⟩]) (n+1)))) (z:=z33) ?_ fun hw => ?_
 ·refine Xr hz33 (fun s0_=>⟨216,[],[(1,.val (.int .i64 a1)),(2,.ref n 0),(5,.val (.int .i64 s0_.1)),(6,.val (.int .i64 s0_.2))]⟩) (fun s0_=>(Zu O n [some ⟨false,30,11,1,(Ze a0)⟩])) (K5 (fun z33=>JR n (⟨216,[],[(4,.val (.bool false))]⟩:Env) (Zu O n [none]) (n+1)) (fun z33=>JX 0 n (⟨216,[],[(1,.val (.int .i64 a1)),(2,.ref n 0)]⟩:Env) (Zu O n [some ⟨false,30,11,1,(Ze a0)⟩]) (n+1))) ?_
  intro s0_ x0_ hs0_
  unfold V0 at hs0_
  try dsimp only
  refine Zj ?_
  refine zQ [1,2,5,6,97] ?_
  refine Zn (t:=(decide (s0_.2 < (a0.Words.length:Int)))) rfl (fun c32 => ?_) (fun c32 => ?_)
  ·replace hs0_:=Zq c32 hs0_
   refine zKd [1,2,5,6] [true] ?_
   refine Zj ?_
   refine Yy ?_
   refine Zj ?_
   obtain ⟨x19,hx19,ax19,bx19,cx19,hs0_⟩:=bE (f:=Zb) Zfu (fun _=>rfl) (by decide) hs0_
   refine Ziu [] ax19 bx19 cx19 ?_
   refine zDs [1,2,5,6,7] [true,true] ?_
   obtain ⟨z22,hz22,hs0_⟩:=bC hs0_
   refine Xt (E':=⟨216,[],[(1,.val (.int .i64 a1)),(2,.ref n 0),(6,.val (.int .i64 s0_.2)),(7,.ref (n+1) 0),(134,.val (.bool z22))]⟩) (O':=(Zu O n [some ⟨false,30,11,1,(Ze a0)⟩,some ⟨false,42,4,1,(Xb x19)⟩])) (n0:=(n+2)) ?_ ?_
   ·rcases Bool.eq_false_or_eq_true (decide (x19.At≤s0_.1)) with c27 | c27
    ·replace hz22:=Zq c27 hz22
     refine Zbv [none,none,none,none,none,none,some false,some false,some false,some false,some false,some false,some false,some false,some false,some false,some false,some false] c27 ?_
     refine zG ?_
     exact G4 hz22 c27
    replace hz22:=Zp c27 hz22
    rcases Bool.eq_false_or_eq_true (decide (65534 < x19.At)) with c28 | c28
    ·replace hz22:=Zq c28 hz22
     try rw [c28] at c27
     refine Zbb [none,none,none,none,none,none,some false,some false,some false,some false,some false,some false,some false,some false,some false,some false,some false,some false] c27 c28 ?_
     refine zG ?_
     exact Zm2 hz22 c27 c28
    replace hz22:=Zp c28 hz22
    try rw [c28] at c27
    rcases Bool.eq_false_or_eq_true (x19.Mask == 0) with c29 | c29
    ·replace hz22:=Zq c29 hz22
     try rw [c29] at c27
     try rw [c29] at c28
     refine Zll [none,none,none,none,none,none,some false,some false,some false,some false,some false,some false,some false,some false,some false,some false,some false,some false] c27 c28 c29 ?_
     refine zG ?_
     exact Zl1 hz22 c27 c28 c29
    replace hz22:=Zp c29 hz22
    try rw [c29] at c27
    try rw [c29] at c28
    obtain ⟨y25,hy25,hz22⟩:=bC hz22
    rcases Bool.eq_false_or_eq_true y25 with c30 | c30
    ·replace hz22:=Zq c30 hz22
     try rw [c30] at c27
     try rw [c30] at c28
     try rw [c30] at c29
     obtain ⟨y26,hy26,hz22⟩:=bC hz22
     refine Z2b [none,none,none,none,none,none,some true,some true,some true,some true,some true,some true,some true,some true,some true,some true,some true,some true] c27 c28 c29 c30 ?_
     refine zG ?_
     refine (Zfb hy25).then ?_
     refine zX4 c27 c28 c29 c30 ?_
     refine zG ?_
     refine (Zfb hy26).then ?_
     refine zX4 c27 c28 c29 c30 ?_
     refine zG ?_
     exact Z19 hz22 c27 c28 c29 c30
    replace hz22:=Zp c30 hz22
    try rw [c30] at c27
    try rw [c30] at c28
    try rw [c30] at c29
    refine Z2b [none,none,none,none,none,none,some true,some true,some true,some true,some true,some true,some false,some false,some false,some false,some false,some false] c27 c28 c29 c30 ?_
    refine zG ?_
    refine (Zfb hy25).then ?_
    refine zX4 c27 c28 c29 c30 ?_
    refine zG ?_
    exact Z19 hz22 c27 c28 c29 c30
   refine Zn (t:=z22) rfl (fun c31 => ?_) (fun c31 => ?_)
   ·replace hs0_:=Zq c31 hs0_
    refine zQ [4] ?_
    refine zW ?_
    exact zEy hs0_
   replace hs0_:=Zp c31 hs0_
   refine zKd [1,2,6,7] [true,true] ?_
   refine zRd [1,2,5,6] [true,false] ?_
   refine zR ?_
   exact zEn hs0_
  replace hs0_:=Zp c32 hs0_
  exact zEx hs0_
 rcases z33 with z33 | z33
 ·dsimp only [K5] at hw h
  refine Uz hw ?_
  try simp only [Xf,Yn,↓reduceIte,Nat.reduceEqDiff]
  exact Zq7 [.val (.bool false)]
 dsimp only [K5] at hw h
 refine Y9 hw ?_
 try simp only [Xf,Yn,↓reduceIte,Nat.reduceEqDiff]
 refine zD [1,2] [true] ?_
 refine zQ [1,2,5] ?_
 refine Zj ?_
 refine zQd [1,2,5,8] [1,2,5,8] [true] ?_
 obtain ⟨z45,hz45,h⟩:=bC h
 refine Zee (J:=(K5 (fun z45=>JR n (⟨216,[],[(4,.val (.bool false))]⟩:Env) (Zu O n [none]) (n+1)) (fun z45=>JX 2 n (⟨216,[],[(1,.val (.int .i64 a1)),(2,.ref n 0)]⟩:Env) (Zu O n [some ⟨false,30,11,1,(Ze a0)⟩]) (n+1)))) (z:=z45) ?_ fun hw => ?_
 ·refine Xr hz45 (fun s1_=>⟨216,[],[(1,.val (.int .i64 a1)),(2,.ref n 0),(5,.val (.int .i64 s1_.1)),(8,.val (.int .i64 s1_.2))]⟩) (fun s1_=>(Zu O n [some ⟨false,30,11,1,(Ze a0)⟩])) (K5 (fun z45=>JR n (⟨216,[],[(4,.val (.bool false))]⟩:Env) (Zu O n [none]) (n+1)) (fun z45=>JX 2 n (⟨216,[],[(1,.val (.int .i64 a1)),(2,.ref n 0)]⟩:Env) (Zu O n [some ⟨false,30,11,1,(Ze a0)⟩]) (n+1))) ?_
  intro s1_ x1_ hs1_
  unfold V1 at hs1_
  try dsimp only
  refine Zj ?_
  refine zQ [1,2,5,8,141] ?_
  refine Zn (t:=(decide (s1_.2 < (a0.Kids.length:Int)))) rfl (fun c44 => ?_) (fun c44 => ?_)
  ·replace hs1_:=Zq c44 hs1_
   refine zKd [1,2,5,8] [true] ?_
   refine Zj ?_
   refine Yy ?_
   refine Zj ?_
   obtain ⟨x35,hx35,ax35,bx35,cx35,hs1_⟩:=bE (f:=Zd) Zdi (fun _=>rfl) (by decide) hs1_
   refine Ziu [] ax35 bx35 cx35 ?_
   refine zDs [1,2,5,8,9] [true,true] ?_
   obtain ⟨z37,hz37,hs1_⟩:=bC hs1_
   refine Xt (E':=⟨216,[],[(1,.val (.int .i64 a1)),(2,.ref n 0),(8,.val (.int .i64 s1_.2)),(9,.ref (n+1) 0),(171,.val (.bool z37))]⟩) (O':=(Zu O n [some ⟨false,30,11,1,(Ze a0)⟩,some ⟨false,55,12,1,(Y5 x35)⟩])) (n0:=(n+2)) ?_ ?_
   ·rcases Bool.eq_false_or_eq_true (decide (x35.At≤s1_.1)) with c40 | c40
    ·replace hz37:=Zq c40 hz37
     refine Zbv [none,none,none,none,none,none,none,some false,some false,some false,some false,some false,some false] c40 ?_
     refine zG ?_
     exact G4 hz37 c40
    replace hz37:=Zp c40 hz37
    rcases Bool.eq_false_or_eq_true (decide (65534 < x35.At)) with c41 | c41
    ·replace hz37:=Zq c41 hz37
     try rw [c41] at c40
     refine Zbb [none,none,none,none,none,none,none,some false,some false,some false,some false,some false,some false] c40 c41 ?_
     refine zG ?_
     exact Zm2 hz37 c40 c41
    replace hz37:=Zp c41 hz37
    try rw [c41] at c40
    rcases Bool.eq_false_or_eq_true (x35.E.Kind == 0) with c42 | c42
    ·replace hz37:=Zq c42 hz37
     try rw [c42] at c40
     try rw [c42] at c41
     refine Zll [none,none,none,none,none,none,none,some false,some false,some false,some false,some false,some false] c40 c41 c42 ?_
     refine zG ?_
     exact Zl1 hz37 c40 c41 c42
    replace hz37:=Zp c42 hz37
    try rw [c42] at c40
    try rw [c42] at c41
    obtain ⟨y39,hy39,hz37⟩:=bC hz37
    refine Zll [none,none,none,none,none,none,none,some true,some true,some true,some true,some true,some true] c40 c41 c42 ?_
    refine zG ?_
    refine (Zeh hy39).then ?_
    refine zX3 c40 c41 c42 ?_
    refine zG ?_
    exact Zl1 hz37 c40 c41 c42
   refine Zn (t:=z37) rfl (fun c43 => ?_) (fun c43 => ?_)
   ·replace hs1_:=Zq c43 hs1_
    refine zQ [4] ?_
    refine zW ?_
    exact zEy hs1_
   replace hs1_:=Zp c43 hs1_
   refine zKd [1,2,8,9] [true,true] ?_
   refine zRd [1,2,5,8] [true,false] ?_
   refine zR ?_
   exact zEn hs1_
  replace hs1_:=Zp c44 hs1_
  exact zEx hs1_
 rcases z45 with z45 | z45
 ·dsimp only [K5] at hw h
  refine Uz hw ?_
  try simp only [Xf,Yn,↓reduceIte,Nat.reduceEqDiff]
  exact Zq7 [.val (.bool false)]
 dsimp only [K5] at hw h
 refine Y9 hw ?_
 try simp only [Xf,Yn,↓reduceIte,Nat.reduceEqDiff]
 refine zDs [1,2] [true] ?_
 refine zQD [1,2,186] [none,none,none,none,none,none,none,none] ?_
 refine Zn (t:=(cond (a0.Kind == 3) (cond (decide (a0.List_ < 2)) true (decide (9 < a0.List_))) false)) rfl (fun c55 => ?_) (fun c55 => ?_)
 ·replace h:=Zq c55 h
  refine zQ [4] ?_
  exact Xe [.val (.bool false)]
 replace h:=Zp c55 h
 refine zKd [1,2] [true] ?_
 refine Zj ?_
 refine zQd [1,2,10] [1,2,10] [true] ?_
 obtain ⟨z52,hz52,h⟩:=bC h
 refine Zee (J:=(K5 (fun z52=>JR n (⟨216,[],[(4,.val (.bool false))]⟩:Env) (Zu O n [none]) (n+1)) (fun z52=>JX 4 n (⟨216,[],[(2,.ref n 0)]⟩:Env) (Zu O n [some ⟨false,30,11,1,(Ze a0)⟩]) (n+1)))) (z:=z52) ?_ fun hw => ?_
 ·refine Xr hz52 (fun s2_=>⟨216,[],[(1,.val (.int .i64 a1)),(2,.ref n 0),(10,.val (.int .i64 s2_))]⟩) (fun s2_=>(Zu O n [some ⟨false,30,11,1,(Ze a0)⟩])) (K5 (fun z52=>JR n (⟨216,[],[(4,.val (.bool false))]⟩:Env) (Zu O n [none]) (n+1)) (fun z52=>JX 4 n (⟨216,[],[(2,.ref n 0)]⟩:Env) (Zu O n [some ⟨false,30,11,1,(Ze a0)⟩]) (n+1))) ?_
  intro s2_ x2_ hs2_
  unfold Ky at hs2_
  try dsimp only
  refine Zj ?_
  refine zQ [1,2,10,191] ?_
  refine Zn (t:=(decide (s2_ < (a0.Ops.length:Int)))) rfl (fun c51 => ?_) (fun c51 => ?_)
  ·replace hs2_:=Zq c51 hs2_
   refine zKd [1,2,10] [true] ?_
   refine Zj ?_
   refine Yy ?_
   refine Zj ?_
   obtain ⟨x48,hx48,ax48,bx48,cx48,hs2_⟩:=bE (f:=Zc) Zdh (fun _=>rfl) (by decide) hs2_
   obtain ⟨y49,hy49,hs2_⟩:=bC hs2_
   refine Vh Zz (by kernel_rfl) [] (by kernel_rfl) ?_
   refine zF3 ax48 bx48 cx48 ?_
   refine PCall.of (Zmp hy49) ?_
   refine zF3 ax48 bx48 cx48 ?_
   refine zD [1,2,10,204] [true] ?_
   refine Zn (t:=(!y49)) rfl (fun c50 => ?_) (fun c50 => ?_)
   ·replace hs2_:=Zq c50 hs2_
    refine zQ [4] ?_
    refine zW ?_
    exact zEy hs2_
   replace hs2_:=Zp c50 hs2_
   refine zKd [1,2,10] [true] ?_
   refine zR ?_
   exact zEn hs2_
  replace hs2_:=Zp c51 hs2_
  exact zEx hs2_
 rcases z52 with z52 | z52
 ·dsimp only [K5] at hw h
  refine Uz hw ?_
  try simp only [Xf,Yn,↓reduceIte,Nat.reduceEqDiff]
  exact Zq7 [.val (.bool false)]
 dsimp only [K5] at hw h
 refine Y9 hw ?_
 try simp only [Xf,Yn,↓reduceIte,Nat.reduceEqDiff]
 refine zDs [2] [true] ?_
 obtain ⟨y54,hy54,h⟩:=bC h
 refine zCd (Zix hy54) [11,12] [false] ?_
 refine zQD [4] [none,none] ?_
 exact Xe [.val (.bool (cond (decide (y54.1 < 1048576)) (decide (y54.2 < 1048576)) false))]
theorem Zvq {Xo:(S_api_Edit→Int→Option Bool)} {Q8:(Int→S_api_Op→Int→Option Bool)} (Zeh:Zeg Xo) (Zmp:Zg3 Q8) {a0:Int} {a1:S_api_Op} {a2:Int} {r:Bool} {O:Objs} {n:Nat} (h:Zdw Xo Q8 a0 a1 a2=some r):GTo Try.prog 41 [.val (.int .i64 a0),.agg (Yw a1),.val (.int .i64 a2)] O n (.val (.bool r)) O n:=by
 unfold Zdw at h
 refine zFn Try.call41 Try.func41 fun hU hN0 hN => ?_
 show W _ _ _ _ ⟨121,[],[(0,.val (.int .i64 a0)),(1,.agg (Yw a1)),(2,.val (.int .i64 a2))]⟩ (Zu O n []) _
 refine zQ [0,2,4] ?_
 refine Zj ?_
 refine zQ [0,2,4,10] ?_
 refine Zn (t:=(a1.Kind == 0)) rfl (fun c30 => ?_) (fun c30 => ?_)
 ·replace h:=Zq c30 h
  obtain ⟨z2,hz2,h⟩:=bC h
  refine Xt (E':=⟨121,[],[(6,.val (.bool z2))]⟩) (O':=(Zu O n [none])) (n0:=(n+1)) ?_ ?_
  ·rcases Bool.eq_false_or_eq_true (decide (1≤a1.N)) with c5 | c5
   ·replace hz2:=Zq c5 hz2
    rcases Bool.eq_false_or_eq_true (decide (a1.N≤1048576)) with c6 | c6
    ·replace hz2:=Zq c6 hz2
     try rw [c6] at c5
     rcases Bool.eq_false_or_eq_true ((a1.L.length:Int) == 0) with c7 | c7
     ·replace hz2:=Zq c7 hz2
      try rw [c7] at c5
      try rw [c7] at c6
      obtain ⟨y4,hy4,hz2⟩:=bC hz2
      refine Zll [none,none,none,none,none,none,none,some true,some true,some true] c5 c6 c7 ?_
      refine zG ?_
      refine (Zmo hy4).then ?_
      refine zX3 c5 c6 c7 ?_
      refine zG ?_
      exact Zl1 hz2 c5 c6 c7
     replace hz2:=Zp c7 hz2
     try rw [c7] at c5
     try rw [c7] at c6
     refine Zll [none,none,none,none,none,none,none,some false,some false,some false] c5 c6 c7 ?_
     refine zG ?_
     exact Zl1 hz2 c5 c6 c7
    replace hz2:=Zp c6 hz2
    try rw [c6] at c5
    refine Zbb [none,none,none,none,none,none,none,some false,some false,some false] c5 c6 ?_
    refine zG ?_
    exact Zm2 hz2 c5 c6
   replace hz2:=Zp c5 hz2
   refine Zbv [none,none,none,none,none,none,none,some false,some false,some false] c5 ?_
   refine zG ?_
   exact G4 hz2 c5
  exact Xe [.val (.bool z2)]
 replace h:=Zp c30 h
 refine zKd [0,2,4] [true] ?_
 refine Zj ?_
 refine zQD [0,2,4,42] [none,none,none,none,none,none] ?_
 refine Zn (t:=(cond (cond (a1.N != 0) true (decide (a1.Kind < 0))) true (decide (3 < a1.Kind)))) rfl (fun c29 => ?_) (fun c29 => ?_)
 ·replace h:=Zq c29 h
  refine zQ [6] ?_
  exact Xe [.val (.bool false)]
 replace h:=Zp c29 h
 refine zKd [0,2,4] [true] ?_
 refine Zj ?_
 refine zQ [0,2,4,45] ?_
 refine Zn (t:=(decide (a1.Kind < 3))) rfl (fun c28 => ?_) (fun c28 => ?_)
 ·replace h:=Zq c28 h
  refine Zj ?_
  refine zQd [0,4,7] [0,4,7] [true] ?_
  obtain ⟨z14,hz14,h⟩:=bC h
  refine Zee (J:=(K5 (fun z14=>JR n (⟨121,[],[(6,.val (.bool false))]⟩:Env) (Zu O n [none]) (n+1)) (fun z14=>JX 0 n (⟨121,[],[(4,.ref n 0)]⟩:Env) (Zu O n [some ⟨false,53,14,1,(Yw a1)⟩]) (n+1)))) (z:=z14) ?_ fun hw => ?_
  ·refine Xr hz14 (fun s0_=>⟨121,[],[(0,.val (.int .i64 a0)),(4,.ref n 0),(7,.val (.int .i64 s0_))]⟩) (fun s0_=>(Zu O n [some ⟨false,53,14,1,(Yw a1)⟩])) (K5 (fun z14=>JR n (⟨121,[],[(6,.val (.bool false))]⟩:Env) (Zu O n [none]) (n+1)) (fun z14=>JX 0 n (⟨121,[],[(4,.ref n 0)]⟩:Env) (Zu O n [some ⟨false,53,14,1,(Yw a1)⟩]) (n+1))) ?_
   intro s0_ x0_ hs0_
   unfold Zbh at hs0_
   try dsimp only
   refine Zj ?_
   refine zQ [0,4,7,50] ?_
   refine Zn (t:=(decide (s0_ < (a1.L.length:Int)))) rfl (fun c13 => ?_) (fun c13 => ?_)
   ·replace hs0_:=Zq c13 hs0_
    refine zKd [0,4,7] [true] ?_
    refine Zj ?_
    refine Yy ?_
    refine Zj ?_
    obtain ⟨l10,al10,bl10,cl10,gl10,hs0_⟩:=bS (lo:=(some (.i64,s0_))) (hi:=(some (.i64,(IntKind.i64.wrap (s0_+1))))) (f:=Za) rfl rfl Zcl Gr (fun _=>rfl) hs0_
    obtain ⟨y11,hy11,hs0_⟩:=bC hs0_
    refine Z2b [] al10 bl10 cl10 gl10 ?_
    refine GCalls.argsW ?_ ((Za6 hy11).then ?_)
    ·exact Yhl al10 bl10 cl10 gl10
    refine zX4 al10 bl10 cl10 gl10 ?_
    refine zD [0,4,7,62] [true] ?_
    refine Zn (t:=(!y11)) rfl (fun c12 => ?_) (fun c12 => ?_)
    ·replace hs0_:=Zq c12 hs0_
     refine zQ [6] ?_
     refine zW ?_
     exact zEy hs0_
    replace hs0_:=Zp c12 hs0_
    refine zKd [0,4,7] [true] ?_
    refine zR ?_
    exact zEn hs0_
   replace hs0_:=Zp c13 hs0_
   exact zEx hs0_
  rcases z14 with z14 | z14
  ·dsimp only [K5] at hw h
   refine Uz hw ?_
   try simp only [Xf,Yn,↓reduceIte,Nat.reduceEqDiff]
   exact Zq7 [.val (.bool false)]
  dsimp only [K5] at hw h
  refine Y9 hw ?_
  try simp only [Xf,Yn,↓reduceIte,Nat.reduceEqDiff]
  refine zD [4] [true] ?_
  obtain ⟨z16,hz16,h⟩:=bC h
  refine Xt (E':=⟨121,[],[(6,.val (.bool z16))]⟩) (O':=(Zu O n [none])) (n0:=(n+1)) ?_ ?_
  ·rcases Bool.eq_false_or_eq_true (decide (0 < (a1.L.length:Int))) with c19 | c19
   ·replace hz16:=Zq c19 hz16
    obtain ⟨y18,hy18,hz16⟩:=bC hz16
    refine Zbv [some true,some true,some true] c19 ?_
    refine (Zmo hy18).then ?_
    refine zX1 c19 ?_
    exact G4 hz16 c19
   replace hz16:=Zp c19 hz16
   refine Zbv [some false,some false,some false] c19 ?_
   exact G4 hz16 c19
  exact Xe [.val (.bool z16)]
 replace h:=Zp c28 h
 refine zKd [0,2,4] [true] ?_
 refine Zj ?_
 obtain ⟨z21,hz21,h⟩:=bC h
 refine Xt (E':=⟨121,[],[(0,.val (.int .i64 a0)),(4,.ref n 0),(92,.val (.bool z21))]⟩) (O':=(Zu O n [some ⟨false,53,14,1,(Yw a1)⟩])) (n0:=(n+1)) ?_ ?_
 ·rcases Bool.eq_false_or_eq_true (decide (0 < (a1.L.length:Int))) with c24 | c24
  ·replace hz21:=Zq c24 hz21
   refine Zbv [none,none,none,none,none,none,some false,some false,some false,some false,some false] c24 ?_
   refine zG ?_
   exact G4 hz21 c24
  replace hz21:=Zp c24 hz21
  rcases Bool.eq_false_or_eq_true (a1.E.Kind == 0) with c25 | c25
  ·replace hz21:=Zq c25 hz21
   try rw [c25] at c24
   refine Zbb [none,none,none,none,none,none,some false,some false,some false,some false,some false] c24 c25 ?_
   refine zG ?_
   exact Zm2 hz21 c24 c25
  replace hz21:=Zp c25 hz21
  try rw [c25] at c24
  rcases Bool.eq_false_or_eq_true (decide (a0≤7)) with c26 | c26
  ·replace hz21:=Zq c26 hz21
   try rw [c26] at c24
   try rw [c26] at c25
   refine Zll [none,none,none,none,none,none,some false,some false,some false,some false,some false] c24 c25 c26 ?_
   refine zG ?_
   exact Zl1 hz21 c24 c25 c26
  replace hz21:=Zp c26 hz21
  try rw [c26] at c24
  try rw [c26] at c25
  obtain ⟨y23,hy23,hz21⟩:=bC hz21
  refine Zll [none,none,none,none,none,none,some true,some true,some true,some true,some true] c24 c25 c26 ?_
  refine zG ?_
  refine (Zeh hy23).then ?_
  refine zX3 c24 c25 c26 ?_
  refine zG ?_
  exact Zl1 hz21 c24 c25 c26
 refine Zn (t:=z21) rfl (fun c27 => ?_) (fun c27 => ?_)
 ·replace h:=Zq c27 h
  refine zQ [6] ?_
  exact Xe [.val (.bool false)]
 replace h:=Zp c27 h
 refine zKd [0,4] [true] ?_
 refine zQD [6] [none,none,none,none,none,none,none,none,none,none,none,none,none,none,none,none,none,none,none,none,none,none] ?_
 exact Xe [.val (.bool (cond (cond (a0 == 8) true (a1.E.Kind == 2)) true (cond (cond (a1.E.Kind == 1) (a1.E.Old.Kind == 1) false) (a1.E.New.Kind == 1) false)))]
theorem Zqc:∀ k,(Zeg ((Yq k).1))∧(Zg3 ((Yq k).2)):=fun k=>by
 induction k with
 | zero=>exact ⟨@fun a0 a1 r O n h=>(nomatch (show (none:Option _)=some _ from h)),@fun a0 a1 a2 r O n h=>(nomatch (show (none:Option _)=some _ from h))⟩
 | succ k ih=>exact ⟨@fun a0 a1 r O n h=>Zrw (ih.1) (ih.2)  h,@fun a0 a1 a2 r O n h=>Zvq (ih.1) (ih.2)  h⟩
theorem Zl0 {a0:S_api_Edit} {a1:Int} {r:Bool} {O:Objs} {n:Nat} (h:Zg2 a0 a1=some r):GTo Try.prog 17 [.agg (Ze a0),.val (.int .i64 a1)] O n (.val (.bool r)) O n:=by
 obtain ⟨k,hk⟩:=Zcr h
 exact (Zqc k).1  hk
def Ziw (X2:(S_api_Edit→Option Bool)):Prop:=∀ {a0:S_api_Edit} {r:Bool} {O:Objs} {n:Nat},X2 a0=some r→GTo Try.prog 26 [.agg (Ze a0)] O n (.val (.bool r)) O n
theorem Zrv {X2:(S_api_Edit→Option Bool)} (Ziz:Ziw X2) {a0:S_api_Edit} {r:Bool} {O:Objs} {n:Nat} (h:Zbf X2 a0=some r):GTo Try.prog 26 [.agg (Ze a0)] O n (.val (.bool r)) O n:=by
 unfold Zbf at h
 refine zFn Try.call26 Try.func26 fun hU hN0 hN => ?_
 show W _ _ _ _ ⟨48,[],[(0,.agg (Ze a0))]⟩ (Zu O n []) _
 refine zQ [1] ?_
 refine Zj ?_
 obtain ⟨y2,hy2,h⟩:=bC h
 refine zCd (Zix hy2) [1,3,4] [true] ?_
 refine Zj ?_
 refine zQD [1,17] [none,none] ?_
 refine Zn (t:=(cond (decide (2000 < y2.1)) true (decide (2000 < y2.2)))) rfl (fun c21 => ?_) (fun c21 => ?_)
 ·replace h:=Zq c21 h
  refine zQ [2] ?_
  exact Xe [.val (.bool false)]
 replace h:=Zp c21 h
 refine zKd [1] [true] ?_
 refine Zj ?_
 refine zQd [1,5] [1,5] [true] ?_
 obtain ⟨z11,hz11,h⟩:=bC h
 refine Zee (J:=(K5 (fun z11=>JR n (⟨48,[],[(2,.val (.bool false))]⟩:Env) (Zu O n [none]) (n+1)) (fun z11=>JX 0 n (⟨48,[],[(1,.ref n 0)]⟩:Env) (Zu O n [some ⟨false,30,11,1,(Ze a0)⟩]) (n+1)))) (z:=z11) ?_ fun hw => ?_
 ·refine Xr hz11 (fun s0_=>⟨48,[],[(1,.ref n 0),(5,.val (.int .i64 s0_))]⟩) (fun s0_=>(Zu O n [some ⟨false,30,11,1,(Ze a0)⟩])) (K5 (fun z11=>JR n (⟨48,[],[(2,.val (.bool false))]⟩:Env) (Zu O n [none]) (n+1)) (fun z11=>JX 0 n (⟨48,[],[(1,.ref n 0)]⟩:Env) (Zu O n [some ⟨false,30,11,1,(Ze a0)⟩]) (n+1))) ?_
  intro s0_ x0_ hs0_
  unfold Gm at hs0_
  try dsimp only
  refine Zj ?_
  refine zQ [1,5,22] ?_
  refine Zn (t:=(decide (s0_ < (a0.Kids.length:Int)))) rfl (fun c10 => ?_) (fun c10 => ?_)
  ·replace hs0_:=Zq c10 hs0_
   refine zKd [1,5] [true] ?_
   refine Zj ?_
   refine Yy ?_
   refine Zj ?_
   obtain ⟨x6,hx6,ax6,bx6,cx6,hs0_⟩:=bE (f:=Zd) Zdi (fun _=>rfl) (by decide) hs0_
   have g7:=Zhi (f:=Zd) (off:=1) (sz:=12) Zq1 (fun _=>rfl) (by decide) (by decide) hx6
   obtain ⟨y8,hy8,hs0_⟩:=bC hs0_
   refine Z2a [] ax6 bx6 cx6 g7 ?_
   refine (Ziz hy8).then ?_
   refine zF4 ax6 bx6 cx6 g7 ?_
   refine zD [1,5,32] [true] ?_
   refine Zn (t:=(!y8)) rfl (fun c9 => ?_) (fun c9 => ?_)
   ·replace hs0_:=Zq c9 hs0_
    refine zQ [2] ?_
    refine zW ?_
    exact zEy hs0_
   replace hs0_:=Zp c9 hs0_
   refine zKd [1,5] [true] ?_
   refine zR ?_
   exact zEn hs0_
  replace hs0_:=Zp c10 hs0_
  exact zEx hs0_
 rcases z11 with z11 | z11
 ·dsimp only [K5] at hw h
  refine Uz hw ?_
  try simp only [Xf,Yn,↓reduceIte,Nat.reduceEqDiff]
  exact Zq7 [.val (.bool false)]
 dsimp only [K5] at hw h
 refine Y9 hw ?_
 try simp only [Xf,Yn,↓reduceIte,Nat.reduceEqDiff]
 refine zDs [1] [true] ?_
 refine zQd [1,6] [1,6] [true] ?_
 obtain ⟨z20,hz20,h⟩:=bC h
 refine Zee (J:=(K5 (fun z20=>JR n (⟨48,[],[(2,.val (.bool false))]⟩:Env) (Zu O n [none]) (n+1)) (fun z20=>JX 2 n (⟨48,[],[]⟩:Env) (Zu O n [none]) (n+1)))) (z:=z20) ?_ fun hw => ?_
 ·refine Xr hz20 (fun s1_=>⟨48,[],[(1,.ref n 0),(6,.val (.int .i64 s1_))]⟩) (fun s1_=>(Zu O n [some ⟨false,30,11,1,(Ze a0)⟩])) (K5 (fun z20=>JR n (⟨48,[],[(2,.val (.bool false))]⟩:Env) (Zu O n [none]) (n+1)) (fun z20=>JX 2 n (⟨48,[],[]⟩:Env) (Zu O n [none]) (n+1))) ?_
  intro s1_ x1_ hs1_
  unfold Gn at hs1_
  try dsimp only
  refine Zj ?_
  refine zQ [1,6,37] ?_
  refine Zn (t:=(decide (s1_ < (a0.Ops.length:Int)))) rfl (fun c19 => ?_) (fun c19 => ?_)
  ·replace hs1_:=Zq c19 hs1_
   refine zKd [1,6] [true] ?_
   refine Zj ?_
   refine Yy ?_
   refine Zj ?_
   obtain ⟨x15,hx15,ax15,bx15,cx15,hs1_⟩:=bE (f:=Zc) Zdh (fun _=>rfl) (by decide) hs1_
   have g16:=Zhi (f:=Zc) (off:=3) (sz:=14) Zq1 (fun _=>rfl) (by decide) (by decide) hx15
   obtain ⟨y17,hy17,hs1_⟩:=bC hs1_
   refine Z2a [] ax15 bx15 cx15 g16 ?_
   refine (Ziz hy17).then ?_
   refine zF4 ax15 bx15 cx15 g16 ?_
   refine zD [1,6,47] [true] ?_
   refine Zn (t:=(!y17)) rfl (fun c18 => ?_) (fun c18 => ?_)
   ·replace hs1_:=Zq c18 hs1_
    refine zQ [2] ?_
    refine zW ?_
    exact zEy hs1_
   replace hs1_:=Zp c18 hs1_
   refine zKd [1,6] [true] ?_
   refine zR ?_
   exact zEn hs1_
  replace hs1_:=Zp c19 hs1_
  exact zEx hs1_
 rcases z20 with z20 | z20
 ·dsimp only [K5] at hw h
  refine Uz hw ?_
  try simp only [Xf,Yn,↓reduceIte,Nat.reduceEqDiff]
  exact Zq7 [.val (.bool false)]
 dsimp only [K5] at hw h
 refine Y9 hw ?_
 try simp only [Xf,Yn,↓reduceIte,Nat.reduceEqDiff]
 refine zD [] [false] ?_
 refine zQ [2] ?_
 exact Xe [.val (.bool true)]
theorem Zqb:∀ k,(Ziw (Vp k)):=fun k=>by
 induction k with
 | zero=>exact @fun a0 r O n h=>(nomatch (show (none:Option _)=some _ from h))
 | succ k ih=>exact @fun a0 r O n h=>Zrv (ih)  h
theorem Zty {a0:S_api_Edit} {r:Bool} {O:Objs} {n:Nat} (h:Zg1 a0=some r):GTo Try.prog 26 [.agg (Ze a0)] O n (.val (.bool r)) O n:=by
 obtain ⟨k,hk⟩:=Zcr h
 exact (Zqb k)  hk
theorem Qn {a0:S_api_Edit} {r:Bool} {O:Objs} {n:Nat} (h:Qg a0=some r):GTo Try.prog 8 [.agg (Ze a0)] O n (.val (.bool r)) O n:=by
 unfold Qg at h
 refine zFn Try.call8 Try.func8 fun hU hN0 hN => ?_
 show W _ _ _ _ ⟨13,[],[(0,.agg (Ze a0))]⟩ (Zu O n []) _
 refine zQ [1] ?_
 obtain ⟨z4,hz4,h⟩:=bC h
 refine Xt (E':=⟨13,[],[(2,.val (.bool z4))]⟩) (O':=(Zu O n [none])) (n0:=(n+1)) ?_ ?_
 ·obtain ⟨y8,hy8,hz4⟩:=bC hz4
  rcases Bool.eq_false_or_eq_true y8 with c11 | c11
  ·replace hz4:=Zq c11 hz4
   obtain ⟨y9,hy9,hz4⟩:=bC hz4
   rcases Bool.eq_false_or_eq_true y9 with c12 | c12
   ·replace hz4:=Zq c12 hz4
    try rw [c12] at c11
    obtain ⟨y10,hy10,hz4⟩:=bC hz4
    refine Zbb [some true,some true,some true,some true] c11 c12 ?_
    refine (Zio hy8).then ?_
    refine zX2 c11 c12 ?_
    refine (Zl0 hy9).then ?_
    refine zX2 c11 c12 ?_
    refine (Zty hy10).then ?_
    refine zX2 c11 c12 ?_
    exact Zm2 hz4 c11 c12
   replace hz4:=Zp c12 hz4
   try rw [c12] at c11
   refine Zbb [some true,some true,some false,some false] c11 c12 ?_
   refine (Zio hy8).then ?_
   refine zX2 c11 c12 ?_
   refine (Zl0 hy9).then ?_
   refine zX2 c11 c12 ?_
   exact Zm2 hz4 c11 c12
  replace hz4:=Zp c11 hz4
  refine Zbv [some false,some false,some false,some false] c11 ?_
  refine (Zio hy8).then ?_
  refine zX1 c11 ?_
  exact G4 hz4 c11
 exact Xe [.val (.bool z4)]
theorem Znz {a0:S_api_Tree} {r:Bool} {O:Objs} {n:Nat} (h:Zct a0=some r):GTo Try.prog 35 [.agg (Zi a0)] O n (.val (.bool r)) O n:=by
 unfold Zct at h
 refine zFn Try.call35 Try.func35 fun hU hN0 hN => ?_
 show W _ _ _ _ ⟨6,[],[(0,.agg (Zi a0))]⟩ (Zu O n []) _
 refine zQ [1] ?_
 refine Zj ?_
 obtain ⟨y2,hy2,h⟩:=bC h
 refine zCd (Zbw hy2) [2] [false] ?_
 exact Xe [.val (.bool (decide (0≤y2)))]
theorem Zws {a0:S_api_Tree} {r:Bool} {O:Objs} {n:Nat} (h:Zd2 a0=some r):GTo Try.prog 20 [.agg (Zi a0)] O n (.val (.bool r)) O n:=by
 unfold Zd2 at h
 refine zFn Try.call20 Try.func20 fun hU hN0 hN => ?_
 show W _ _ _ _ ⟨14,[],[(0,.agg (Zi a0))]⟩ (Zu O n []) _
 refine zQ [1] ?_
 obtain ⟨z3,hz3,h⟩:=bC h
 refine Xt (E':=⟨14,[],[(2,.val (.bool z3))]⟩) (O':=(Zu O n [none])) (n0:=(n+1)) ?_ ?_
 ·obtain ⟨y6,hy6,hz3⟩:=bC hz3
  rcases Bool.eq_false_or_eq_true y6 with c8 | c8
  ·replace hz3:=Zq c8 hz3
   obtain ⟨y7,hy7,hz3⟩:=bC hz3
   refine Zbv [some true,some true,none,none,none] c8 ?_
   refine zG ?_
   refine (Znz hy6).then ?_
   refine zX1 c8 ?_
   refine zG ?_
   refine (Za6 hy7).then ?_
   refine zX1 c8 ?_
   refine zG ?_
   exact G4 hz3 c8
  replace hz3:=Zp c8 hz3
  refine Zbv [some false,some false,some false,some false,some false] c8 ?_
  refine (Znz hy6).then ?_
  refine zX1 c8 ?_
  exact G4 hz3 c8
 exact Xe [.val (.bool z3)]
def Zg4 (Qa:(S_api_Edit→Option S_api_Edit)):Prop:=∀ {a0:S_api_Edit} {r:S_api_Edit} {O:Objs} {n:Nat},Qa a0=some r→GTo Try.prog 49 [.agg (Ze a0)] O n (.agg (Ze r)) O n
def Zfa (X1:(S_api_Op→Option S_api_Op)):Prop:=∀ {a0:S_api_Op} {r:S_api_Op} {O:Objs} {n:Nat},X1 a0=some r→GTo Try.prog 77 [.agg (Yw a0)] O n (.agg (Yw r)) O n
theorem Zvt {Qa:(S_api_Edit→Option S_api_Edit)} {X1:(S_api_Op→Option S_api_Op)} (Zds:Zg4 Qa) (Zfd:Zfa X1) {a0:S_api_Edit} {r:S_api_Edit} {O:Objs} {n:Nat} (h:Zdz Qa X1 a0=some r):GTo Try.prog 49 [.agg (Ze a0)] O n (.agg (Ze r)) O n:=by
 unfold Zdz at h
 refine zFn Try.call49 Try.func49 fun hU hN0 hN => ?_
 show W _ _ _ _ ⟨76,[],[(0,.agg (Ze a0))]⟩ (Zu O n []) _
 refine zQ [1,2] ?_
 refine Zj ?_
 refine zRd [1,2,3] [true,true,true] ?_
 refine Zj ?_
 refine zQd [1,2,3,20,21,22] [1,2,3,20,21,22] [true,true,true] ?_
 refine Vn (E':=(⟨76,[],[(1,.ref n 0),(2,.ref (n+1) 0),(3,.ref (n+2) 0),(20,.sl a0.Words.length (fl Zb a0.Words)),(21,.val (.int .i64 (a0.Words.length:Int))),(22,.val (.int .i64 0))]⟩:Env)) (O':=(Zu O n [some ⟨false,30,11,1,(Ze a0)⟩,some ⟨false,30,11,1,[.val (.int .i64 0),.val (.int .i64 0),.val (.slice none 0 0),.val (.slice none 0 0),.val (.int .i64 0),.val (.slice none 0 0),.val (.slice none 0 0),.val (.slice none 0 0),.val (.slice none 0 0),.val (.int .i64 0),.val (.slice none 0 0)]⟩,some ⟨false,30,11,1,[.val (.int .i64 a0.Kind),.val (.int .i64 a0.New.Kind),.sl a0.New.Words.length (fl (eI .u64) a0.New.Words),.sl a0.New.Kids.length (fl Za a0.New.Kids),.val (.int .i64 a0.Old.Kind),.sl a0.Old.Words.length (fl (eI .u64) a0.Old.Words),.sl a0.Old.Kids.length (fl Za a0.Old.Kids),.row (n+3) ([]:List Zf).length,.val (.slice none 0 0),.val (.int .i64 a0.List_),.val (.slice none 0 0)]⟩,some ⟨true,42,4,([]:List Zf).length,fl Zb ([]:List Zf)⟩,none])) (n':=(n+5)) ?_ ?_
 ·refine Fit2.trans (E':=(⟨76,[],[(1,.ref n 0),(2,.ref (n+1) 0),(3,.ref (n+2) 0),(20,.sl a0.Words.length (fl Zb a0.Words)),(21,.val (.int .i64 (a0.Words.length:Int))),(22,.val (.int .i64 0))]⟩:Env)) (O':=(Zu O n [some ⟨false,30,11,1,(Ze a0)⟩,some ⟨false,30,11,1,[.val (.int .i64 0),.val (.int .i64 0),.val (.slice none 0 0),.val (.slice none 0 0),.val (.int .i64 0),.val (.slice none 0 0),.val (.slice none 0 0),.val (.slice none 0 0),.val (.slice none 0 0),.val (.int .i64 0),.val (.slice none 0 0)]⟩,some ⟨false,30,11,1,[.val (.int .i64 a0.Kind),.val (.int .i64 a0.New.Kind),.sl a0.New.Words.length (fl (eI .u64) a0.New.Words),.sl a0.New.Kids.length (fl Za a0.New.Kids),.val (.int .i64 a0.Old.Kind),.sl a0.Old.Words.length (fl (eI .u64) a0.Old.Words),.sl a0.Old.Kids.length (fl Za a0.Old.Kids),.val (.slice none 0 0),.val (.slice none 0 0),.val (.int .i64 a0.List_),.val (.slice none 0 0)]⟩])) (n':=(n+3)) (Fit2.of (Yj hU rfl rfl ?_) (by omega)) ?_
  ·exact zSe
  refine Fit2.trans (Zav (p:=(n+2)) (k:=7) (q:=⟨false,30,11,1,[.val (.int .i64 a0.Kind),.val (.int .i64 a0.New.Kind),.sl a0.New.Words.length (fl (eI .u64) a0.New.Words),.sl a0.New.Kids.length (fl Za a0.New.Kids),.val (.int .i64 a0.Old.Kind),.sl a0.Old.Words.length (fl (eI .u64) a0.Old.Words),.sl a0.Old.Kids.length (fl Za a0.Old.Kids),.val (.slice none 0 0),.val (.slice none 0 0),.val (.int .i64 a0.List_),.val (.slice none 0 0)]⟩) 42 4 (by simp only [Uy,Zan,List.getElem?_cons_zero,List.getElem?_cons_succ,Option.join_some,List.length_nil,Yb]) rfl (by omega)) ?_
  simp only [Y2,Yk,Us,K8,List.set_cons_zero,List.set_cons_succ,List.cons_append,List.nil_append,List.length_cons,List.length_nil,Nat.zero_add,Nat.reduceAdd,Nat.reduceLT,Nat.add_assoc]
  refine Vu (k:=4) (k':=5) hU [0,1,2,3] [0,1,2,3,0] rfl rfl rfl rfl ⟨rfl,rfl⟩ ?_
  exact zSe
 obtain ⟨z5,hz5,h⟩:=bC h
 refine Y9 (E':=⟨76,[],[(1,.ref n 0),(2,.ref (n+1) 0),(3,.ref (n+2) 0)]⟩) (O':=(Zu O n [some ⟨false,30,11,1,(Ze a0)⟩,some ⟨false,30,11,1,[.val (.int .i64 0),.val (.int .i64 0),.val (.slice none 0 0),.val (.slice none 0 0),.val (.int .i64 0),.val (.slice none 0 0),.val (.slice none 0 0),.val (.slice none 0 0),.val (.slice none 0 0),.val (.int .i64 0),.val (.slice none 0 0)]⟩,some ⟨false,30,11,1,[.val (.int .i64 a0.Kind),.val (.int .i64 a0.New.Kind),.sl a0.New.Words.length (fl (eI .u64) a0.New.Words),.sl a0.New.Kids.length (fl Za a0.New.Kids),.val (.int .i64 a0.Old.Kind),.sl a0.Old.Words.length (fl (eI .u64) a0.Old.Words),.sl a0.Old.Kids.length (fl Za a0.Old.Kids),.row (n+3) z5.length,.val (.slice none 0 0),.val (.int .i64 a0.List_),.val (.slice none 0 0)]⟩,some ⟨true,42,4,z5.length,fl Zb z5⟩,none])) (n0:=(n+5)) ?_ ?_
 ·refine Xr hz5 (fun s0_=>⟨76,[],[(1,.ref n 0),(2,.ref (n+1) 0),(3,.ref (n+2) 0),(20,.sl a0.Words.length (fl Zb a0.Words)),(21,.val (.int .i64 (a0.Words.length:Int))),(22,.val (.int .i64 s0_.1))]⟩) (fun s0_=>(Zu O n [some ⟨false,30,11,1,(Ze a0)⟩,some ⟨false,30,11,1,[.val (.int .i64 0),.val (.int .i64 0),.val (.slice none 0 0),.val (.slice none 0 0),.val (.int .i64 0),.val (.slice none 0 0),.val (.slice none 0 0),.val (.slice none 0 0),.val (.slice none 0 0),.val (.int .i64 0),.val (.slice none 0 0)]⟩,some ⟨false,30,11,1,[.val (.int .i64 a0.Kind),.val (.int .i64 a0.New.Kind),.sl a0.New.Words.length (fl (eI .u64) a0.New.Words),.sl a0.New.Kids.length (fl Za a0.New.Kids),.val (.int .i64 a0.Old.Kind),.sl a0.Old.Words.length (fl (eI .u64) a0.Old.Words),.sl a0.Old.Kids.length (fl Za a0.Old.Kids),.row (n+3) s0_.2.length,.val (.slice none 0 0),.val (.int .i64 a0.List_),.val (.slice none 0 0)]⟩,some ⟨true,42,4,s0_.2.length,fl Zb s0_.2⟩,none])) (fun z5=>JX 0 n (⟨76,[],[(1,.ref n 0),(2,.ref (n+1) 0),(3,.ref (n+2) 0)]⟩:Env) (Zu O n [some ⟨false,30,11,1,(Ze a0)⟩,some ⟨false,30,11,1,[.val (.int .i64 0),.val (.int .i64 0),.val (.slice none 0 0),.val (.slice none 0 0),.val (.int .i64 0),.val (.slice none 0 0),.val (.slice none 0 0),.val (.slice none 0 0),.val (.slice none 0 0),.val (.int .i64 0),.val (.slice none 0 0)]⟩,some ⟨false,30,11,1,[.val (.int .i64 a0.Kind),.val (.int .i64 a0.New.Kind),.sl a0.New.Words.length (fl (eI .u64) a0.New.Words),.sl a0.New.Kids.length (fl Za a0.New.Kids),.val (.int .i64 a0.Old.Kind),.sl a0.Old.Words.length (fl (eI .u64) a0.Old.Words),.sl a0.Old.Kids.length (fl Za a0.Old.Kids),.row (n+3) z5.length,.val (.slice none 0 0),.val (.int .i64 a0.List_),.val (.slice none 0 0)]⟩,some ⟨true,42,4,z5.length,fl Zb z5⟩,none]) (n+5)) ?_
  intro s0_ x0_ hs0_
  unfold Zbi at hs0_
  try dsimp only
  refine zQ [1,2,3,20,21,22,23] ?_
  refine Zj ?_
  refine Zn (t:=(decide (s0_.1 < (a0.Words.length:Int)))) rfl (fun c4 => ?_) (fun c4 => ?_)
  ·replace hs0_:=Zq c4 hs0_
   refine zKd [1,2,3,20,21,22] [true,true,true,true,false] ?_
   refine Zj ?_
   refine Yy ?_
   refine Zj ?_
   obtain ⟨x2,hx2,ax2,bx2,cx2,hs0_⟩:=bE (f:=Zb) Zfu (fun _=>rfl) (by decide) hs0_
   refine Ziu [] ax2 bx2 cx2 ?_
   refine zD [1,2,3,5,20,21,22] [true,true,true,true,false,true] ?_
   obtain ⟨l3,pl3,ql3,el3,hs0_⟩:=bA (k:=1) rfl hs0_
   refine Zll [] pl3 ql3 el3 ?_
   refine Zek ⟨76,[],[(1,.ref n 0),(2,.ref (n+1) 0),(3,.ref (n+2) 0),(20,.sl a0.Words.length (fl Zb a0.Words)),(21,.val (.int .i64 (a0.Words.length:Int))),(22,.val (.int .i64 s0_.1))]⟩ (Zu O n [some ⟨false,30,11,1,(Ze a0)⟩,some ⟨false,30,11,1,[.val (.int .i64 0),.val (.int .i64 0),.val (.slice none 0 0),.val (.slice none 0 0),.val (.int .i64 0),.val (.slice none 0 0),.val (.slice none 0 0),.val (.slice none 0 0),.val (.slice none 0 0),.val (.int .i64 0),.val (.slice none 0 0)]⟩,some ⟨false,30,11,1,[.val (.int .i64 a0.Kind),.val (.int .i64 a0.New.Kind),.sl a0.New.Words.length (fl (eI .u64) a0.New.Words),.sl a0.New.Kids.length (fl Za a0.New.Kids),.val (.int .i64 a0.Old.Kind),.sl a0.Old.Words.length (fl (eI .u64) a0.Old.Words),.sl a0.Old.Kids.length (fl Za a0.Old.Kids),.row (n+3) l3.length,.val (.slice none 0 0),.val (.int .i64 a0.List_),.val (.slice none 0 0)]⟩,some ⟨true,42,4,l3.length,fl Zb l3⟩,none,none,none]) (Yj hU rfl rfl ?_) ?_
   ·exact Z5k pl3 ql3 el3
   refine zR ?_
   exact zEn hs0_
  replace hs0_:=Zp c4 hs0_
  exact zEx hs0_
 try simp only [Xf,Yn,↓reduceIte,Nat.reduceEqDiff]
 refine zDs [1,2,3] [true,true,true,true,false] ?_
 refine zQd [1,2,3,42,43,44] [1,2,3,42,43,44] [true,true,true,true,false] ?_
 refine Vn (E':=(⟨76,[],[(1,.ref n 0),(2,.ref (n+1) 0),(3,.ref (n+2) 0),(42,.sl a0.Kids.length (fl Zd a0.Kids)),(43,.val (.int .i64 (a0.Kids.length:Int))),(44,.val (.int .i64 0))]⟩:Env)) (O':=(Zu O n [some ⟨false,30,11,1,(Ze a0)⟩,some ⟨false,30,11,1,[.val (.int .i64 0),.val (.int .i64 0),.val (.slice none 0 0),.val (.slice none 0 0),.val (.int .i64 0),.val (.slice none 0 0),.val (.slice none 0 0),.val (.slice none 0 0),.val (.slice none 0 0),.val (.int .i64 0),.val (.slice none 0 0)]⟩,some ⟨false,30,11,1,[.val (.int .i64 a0.Kind),.val (.int .i64 a0.New.Kind),.sl a0.New.Words.length (fl (eI .u64) a0.New.Words),.sl a0.New.Kids.length (fl Za a0.New.Kids),.val (.int .i64 a0.Old.Kind),.sl a0.Old.Words.length (fl (eI .u64) a0.Old.Words),.sl a0.Old.Kids.length (fl Za a0.Old.Kids),.row (n+3) z5.length,.row (n+5) ([]:List S_api_KidEdit).length,.val (.int .i64 a0.List_),.val (.slice none 0 0)]⟩,some ⟨true,42,4,z5.length,fl Zb z5⟩,none,some ⟨true,55,12,([]:List S_api_KidEdit).length,fl Zd ([]:List S_api_KidEdit)⟩,none])) (n':=(n+7)) ?_ ?_
 ·refine Fit2.trans (E':=(⟨76,[],[(1,.ref n 0),(2,.ref (n+1) 0),(3,.ref (n+2) 0),(42,.sl a0.Kids.length (fl Zd a0.Kids)),(43,.val (.int .i64 (a0.Kids.length:Int))),(44,.val (.int .i64 0))]⟩:Env)) (O':=(Zu O n [some ⟨false,30,11,1,(Ze a0)⟩,some ⟨false,30,11,1,[.val (.int .i64 0),.val (.int .i64 0),.val (.slice none 0 0),.val (.slice none 0 0),.val (.int .i64 0),.val (.slice none 0 0),.val (.slice none 0 0),.val (.slice none 0 0),.val (.slice none 0 0),.val (.int .i64 0),.val (.slice none 0 0)]⟩,some ⟨false,30,11,1,[.val (.int .i64 a0.Kind),.val (.int .i64 a0.New.Kind),.sl a0.New.Words.length (fl (eI .u64) a0.New.Words),.sl a0.New.Kids.length (fl Za a0.New.Kids),.val (.int .i64 a0.Old.Kind),.sl a0.Old.Words.length (fl (eI .u64) a0.Old.Words),.sl a0.Old.Kids.length (fl Za a0.Old.Kids),.row (n+3) z5.length,.val (.slice none 0 0),.val (.int .i64 a0.List_),.val (.slice none 0 0)]⟩,some ⟨true,42,4,z5.length,fl Zb z5⟩,none])) (n':=(n+5)) (Fit2.of (Yj hU rfl rfl ?_) (by omega)) ?_
  ·exact zSe
  refine Fit2.trans (Zav (p:=(n+2)) (k:=8) (q:=⟨false,30,11,1,[.val (.int .i64 a0.Kind),.val (.int .i64 a0.New.Kind),.sl a0.New.Words.length (fl (eI .u64) a0.New.Words),.sl a0.New.Kids.length (fl Za a0.New.Kids),.val (.int .i64 a0.Old.Kind),.sl a0.Old.Words.length (fl (eI .u64) a0.Old.Words),.sl a0.Old.Kids.length (fl Za a0.Old.Kids),.row (n+3) z5.length,.val (.slice none 0 0),.val (.int .i64 a0.List_),.val (.slice none 0 0)]⟩) 55 12 (by simp only [Uy,Zan,List.getElem?_cons_zero,List.getElem?_cons_succ,Option.join_some,List.length_nil,Yb]) rfl (by omega)) ?_
  simp only [Y2,Yk,Us,K8,List.set_cons_zero,List.set_cons_succ,List.cons_append,List.nil_append,List.length_cons,List.length_nil,Nat.zero_add,Nat.reduceAdd,Nat.reduceLT,Nat.add_assoc]
  refine Vu (k:=6) (k':=7) hU [0,1,2,3,6,5] [0,1,2,3,0,5,0] rfl rfl rfl rfl ⟨rfl,rfl⟩ ?_
  exact zSe
 obtain ⟨z11,hz11,h⟩:=bC h
 refine Y9 (E':=⟨76,[],[(1,.ref n 0),(2,.ref (n+1) 0),(3,.ref (n+2) 0)]⟩) (O':=(Zu O n [some ⟨false,30,11,1,(Ze a0)⟩,some ⟨false,30,11,1,[.val (.int .i64 0),.val (.int .i64 0),.val (.slice none 0 0),.val (.slice none 0 0),.val (.int .i64 0),.val (.slice none 0 0),.val (.slice none 0 0),.val (.slice none 0 0),.val (.slice none 0 0),.val (.int .i64 0),.val (.slice none 0 0)]⟩,some ⟨false,30,11,1,[.val (.int .i64 a0.Kind),.val (.int .i64 a0.New.Kind),.sl a0.New.Words.length (fl (eI .u64) a0.New.Words),.sl a0.New.Kids.length (fl Za a0.New.Kids),.val (.int .i64 a0.Old.Kind),.sl a0.Old.Words.length (fl (eI .u64) a0.Old.Words),.sl a0.Old.Kids.length (fl Za a0.Old.Kids),.row (n+3) z5.length,.row (n+5) z11.length,.val (.int .i64 a0.List_),.val (.slice none 0 0)]⟩,some ⟨true,42,4,z5.length,fl Zb z5⟩,none,some ⟨true,55,12,z11.length,fl Zd z11⟩,none])) (n0:=(n+7)) ?_ ?_
 ·refine Xr hz11 (fun s1_=>⟨76,[],[(1,.ref n 0),(2,.ref (n+1) 0),(3,.ref (n+2) 0),(42,.sl a0.Kids.length (fl Zd a0.Kids)),(43,.val (.int .i64 (a0.Kids.length:Int))),(44,.val (.int .i64 s1_.1))]⟩) (fun s1_=>(Zu O n [some ⟨false,30,11,1,(Ze a0)⟩,some ⟨false,30,11,1,[.val (.int .i64 0),.val (.int .i64 0),.val (.slice none 0 0),.val (.slice none 0 0),.val (.int .i64 0),.val (.slice none 0 0),.val (.slice none 0 0),.val (.slice none 0 0),.val (.slice none 0 0),.val (.int .i64 0),.val (.slice none 0 0)]⟩,some ⟨false,30,11,1,[.val (.int .i64 a0.Kind),.val (.int .i64 a0.New.Kind),.sl a0.New.Words.length (fl (eI .u64) a0.New.Words),.sl a0.New.Kids.length (fl Za a0.New.Kids),.val (.int .i64 a0.Old.Kind),.sl a0.Old.Words.length (fl (eI .u64) a0.Old.Words),.sl a0.Old.Kids.length (fl Za a0.Old.Kids),.row (n+3) z5.length,.row (n+5) s1_.2.length,.val (.int .i64 a0.List_),.val (.slice none 0 0)]⟩,some ⟨true,42,4,z5.length,fl Zb z5⟩,none,some ⟨true,55,12,s1_.2.length,fl Zd s1_.2⟩,none])) (fun z11=>JX 2 n (⟨76,[],[(1,.ref n 0),(2,.ref (n+1) 0),(3,.ref (n+2) 0)]⟩:Env) (Zu O n [some ⟨false,30,11,1,(Ze a0)⟩,some ⟨false,30,11,1,[.val (.int .i64 0),.val (.int .i64 0),.val (.slice none 0 0),.val (.slice none 0 0),.val (.int .i64 0),.val (.slice none 0 0),.val (.slice none 0 0),.val (.slice none 0 0),.val (.slice none 0 0),.val (.int .i64 0),.val (.slice none 0 0)]⟩,some ⟨false,30,11,1,[.val (.int .i64 a0.Kind),.val (.int .i64 a0.New.Kind),.sl a0.New.Words.length (fl (eI .u64) a0.New.Words),.sl a0.New.Kids.length (fl Za a0.New.Kids),.val (.int .i64 a0.Old.Kind),.sl a0.Old.Words.length (fl (eI .u64) a0.Old.Words),.sl a0.Old.Kids.length (fl Za a0.Old.Kids),.row (n+3) z5.length,.row (n+5) z11.length,.val (.int .i64 a0.List_),.val (.slice none 0 0)]⟩,some ⟨true,42,4,z5.length,fl Zb z5⟩,none,some ⟨true,55,12,z11.length,fl Zd z11⟩,none]) (n+7)) ?_
  intro s1_ x1_ hs1_
  unfold Zbj at hs1_
  try dsimp only
  refine zQ [1,2,3,42,43,44,45] ?_
  refine Zj ?_
  refine Zn (t:=(decide (s1_.1 < (a0.Kids.length:Int)))) rfl (fun c10 => ?_) (fun c10 => ?_)
  ·replace hs1_:=Zq c10 hs1_
   refine zKd [1,2,3,42,43,44] [true,true,true,true,false,true,false] ?_
   refine Zj ?_
   refine Yy ?_
   refine Zj ?_
   obtain ⟨x7,hx7,ax7,bx7,cx7,hs1_⟩:=bE (f:=Zd) Zdi (fun _=>rfl) (by decide) hs1_
   refine Ziu [] ax7 bx7 cx7 ?_
   refine zD [1,2,3,7,42,43,44] [true,true,true,true,false,true,false,true] ?_
   obtain ⟨y8,hy8,hs1_⟩:=bC hs1_
   obtain ⟨l9,pl9,ql9,el9,hs1_⟩:=bA (k:=1) rfl hs1_
   refine K6 Zz (by kernel_rfl) [.low,.low,.plain,.plain,.plain,.plain,.plain,.plain,.pass,.bar,.plain,.bar] (fun i=>i < (n+8)) [0,1,2,3,4,5,6,7,8,9,10,11] [.low,.low,.plain,.plain,.plain,.plain,.plain,.plain,.pass,.bar,.plain,.bar] [] (by kernel_rfl) rfl ?_
   refine zX3 pl9 ql9 el9 ?_
   refine zO ?_
   first | refine PCallA.of (fun _ _=>Zds hy8) ?_ | refine PCall.of (Zds hy8) ?_
   refine zX3 pl9 ql9 el9 ?_
   refine zO ?_
   refine Zek ⟨76,[],[(1,.ref n 0),(2,.ref (n+1) 0),(3,.ref (n+2) 0),(42,.sl a0.Kids.length (fl Zd a0.Kids)),(43,.val (.int .i64 (a0.Kids.length:Int))),(44,.val (.int .i64 s1_.1))]⟩ (Zu O n [some ⟨false,30,11,1,(Ze a0)⟩,some ⟨false,30,11,1,[.val (.int .i64 0),.val (.int .i64 0),.val (.slice none 0 0),.val (.slice none 0 0),.val (.int .i64 0),.val (.slice none 0 0),.val (.slice none 0 0),.val (.slice none 0 0),.val (.slice none 0 0),.val (.int .i64 0),.val (.slice none 0 0)]⟩,some ⟨false,30,11,1,[.val (.int .i64 a0.Kind),.val (.int .i64 a0.New.Kind),.sl a0.New.Words.length (fl (eI .u64) a0.New.Words),.sl a0.New.Kids.length (fl Za a0.New.Kids),.val (.int .i64 a0.Old.Kind),.sl a0.Old.Words.length (fl (eI .u64) a0.Old.Words),.sl a0.Old.Kids.length (fl Za a0.Old.Kids),.row (n+3) z5.length,.row (n+5) l9.length,.val (.int .i64 a0.List_),.val (.slice none 0 0)]⟩,some ⟨true,42,4,z5.length,fl Zb z5⟩,none,some ⟨true,55,12,l9.length,fl Zd l9⟩,none,none,none]) (Yj hU rfl rfl ?_) ?_
   ·exact Z5k pl9 ql9 el9
   refine zR ?_
   exact zEn hs1_
  replace hs1_:=Zp c10 hs1_
  exact zEx hs1_
 try simp only [Xf,Yn,↓reduceIte,Nat.reduceEqDiff]
 refine zDs [1,2,3] [true,true,true,true,false,true,false] ?_
 refine zQd [2,3,61,62,63] [2,3,61,62,63] [false,true,true,true,false,true,false] ?_
 refine Vn (E':=(⟨76,[],[(2,.ref (n+1) 0),(3,.ref (n+2) 0),(61,.sl a0.Ops.length (fl Zc a0.Ops)),(62,.val (.int .i64 (a0.Ops.length:Int))),(63,.val (.int .i64 0))]⟩:Env)) (O':=(Zu O n [none,some ⟨false,30,11,1,[.val (.int .i64 0),.val (.int .i64 0),.val (.slice none 0 0),.val (.slice none 0 0),.val (.int .i64 0),.val (.slice none 0 0),.val (.slice none 0 0),.val (.slice none 0 0),.val (.slice none 0 0),.val (.int .i64 0),.val (.slice none 0 0)]⟩,some ⟨false,30,11,1,[.val (.int .i64 a0.Kind),.val (.int .i64 a0.New.Kind),.sl a0.New.Words.length (fl (eI .u64) a0.New.Words),.sl a0.New.Kids.length (fl Za a0.New.Kids),.val (.int .i64 a0.Old.Kind),.sl a0.Old.Words.length (fl (eI .u64) a0.Old.Words),.sl a0.Old.Kids.length (fl Za a0.Old.Kids),.row (n+3) z5.length,.row (n+5) z11.length,.val (.int .i64 a0.List_),.row (n+7) ([]:List S_api_Op).length]⟩,some ⟨true,42,4,z5.length,fl Zb z5⟩,none,some ⟨true,55,12,z11.length,fl Zd z11⟩,none,some ⟨true,53,14,([]:List S_api_Op).length,fl Zc ([]:List S_api_Op)⟩,none])) (n':=(n+9)) ?_ ?_
 ·refine Fit2.trans (E':=(⟨76,[],[(2,.ref (n+1) 0),(3,.ref (n+2) 0),(61,.sl a0.Ops.length (fl Zc a0.Ops)),(62,.val (.int .i64 (a0.Ops.length:Int))),(63,.val (.int .i64 0))]⟩:Env)) (O':=(Zu O n [none,some ⟨false,30,11,1,[.val (.int .i64 0),.val (.int .i64 0),.val (.slice none 0 0),.val (.slice none 0 0),.val (.int .i64 0),.val (.slice none 0 0),.val (.slice none 0 0),.val (.slice none 0 0),.val (.slice none 0 0),.val (.int .i64 0),.val (.slice none 0 0)]⟩,some ⟨false,30,11,1,[.val (.int .i64 a0.Kind),.val (.int .i64 a0.New.Kind),.sl a0.New.Words.length (fl (eI .u64) a0.New.Words),.sl a0.New.Kids.length (fl Za a0.New.Kids),.val (.int .i64 a0.Old.Kind),.sl a0.Old.Words.length (fl (eI .u64) a0.Old.Words),.sl a0.Old.Kids.length (fl Za a0.Old.Kids),.row (n+3) z5.length,.row (n+5) z11.length,.val (.int .i64 a0.List_),.val (.slice none 0 0)]⟩,some ⟨true,42,4,z5.length,fl Zb z5⟩,none,some ⟨true,55,12,z11.length,fl Zd z11⟩,none])) (n':=(n+7)) (Fit2.of (Yj hU rfl rfl ?_) (by omega)) ?_
  ·exact zSe
  refine Fit2.trans (Zav (p:=(n+2)) (k:=10) (q:=⟨false,30,11,1,[.val (.int .i64 a0.Kind),.val (.int .i64 a0.New.Kind),.sl a0.New.Words.length (fl (eI .u64) a0.New.Words),.sl a0.New.Kids.length (fl Za a0.New.Kids),.val (.int .i64 a0.Old.Kind),.sl a0.Old.Words.length (fl (eI .u64) a0.Old.Words),.sl a0.Old.Kids.length (fl Za a0.Old.Kids),.row (n+3) z5.length,.row (n+5) z11.length,.val (.int .i64 a0.List_),.val (.slice none 0 0)]⟩) 53 14 (by simp only [Uy,Zan,List.getElem?_cons_zero,List.getElem?_cons_succ,Option.join_some,List.length_nil,Yb]) rfl (by omega)) ?_
  simp only [Y2,Yk,Us,K8,List.set_cons_zero,List.set_cons_succ,List.cons_append,List.nil_append,List.length_cons,List.length_nil,Nat.zero_add,Nat.reduceAdd,Nat.reduceLT,Nat.add_assoc]
  refine Vu (k:=8) (k':=9) hU [8,1,2,3,8,5,8,7] [0,1,2,3,0,5,0,7,0] rfl rfl rfl rfl ⟨rfl,rfl⟩ ?_
  exact zSe
 obtain ⟨z17,hz17,h⟩:=bC h
 refine Y9 (E':=⟨76,[],[(2,.ref (n+1) 0),(3,.ref (n+2) 0)]⟩) (O':=(Zu O n [none,some ⟨false,30,11,1,[.val (.int .i64 0),.val (.int .i64 0),.val (.slice none 0 0),.val (.slice none 0 0),.val (.int .i64 0),.val (.slice none 0 0),.val (.slice none 0 0),.val (.slice none 0 0),.val (.slice none 0 0),.val (.int .i64 0),.val (.slice none 0 0)]⟩,some ⟨false,30,11,1,[.val (.int .i64 a0.Kind),.val (.int .i64 a0.New.Kind),.sl a0.New.Words.length (fl (eI .u64) a0.New.Words),.sl a0.New.Kids.length (fl Za a0.New.Kids),.val (.int .i64 a0.Old.Kind),.sl a0.Old.Words.length (fl (eI .u64) a0.Old.Words),.sl a0.Old.Kids.length (fl Za a0.Old.Kids),.row (n+3) z5.length,.row (n+5) z11.length,.val (.int .i64 a0.List_),.row (n+7) z17.length]⟩,some ⟨true,42,4,z5.length,fl Zb z5⟩,none,some ⟨true,55,12,z11.length,fl Zd z11⟩,none,some ⟨true,53,14,z17.length,fl Zc z17⟩,none])) (n0:=(n+9)) ?_ ?_
 ·refine Xr hz17 (fun s2_=>⟨76,[],[(2,.ref (n+1) 0),(3,.ref (n+2) 0),(61,.sl a0.Ops.length (fl Zc a0.Ops)),(62,.val (.int .i64 (a0.Ops.length:Int))),(63,.val (.int .i64 s2_.1))]⟩) (fun s2_=>(Zu O n [none,some ⟨false,30,11,1,[.val (.int .i64 0),.val (.int .i64 0),.val (.slice none 0 0),.val (.slice none 0 0),.val (.int .i64 0),.val (.slice none 0 0),.val (.slice none 0 0),.val (.slice none 0 0),.val (.slice none 0 0),.val (.int .i64 0),.val (.slice none 0 0)]⟩,some ⟨false,30,11,1,[.val (.int .i64 a0.Kind),.val (.int .i64 a0.New.Kind),.sl a0.New.Words.length (fl (eI .u64) a0.New.Words),.sl a0.New.Kids.length (fl Za a0.New.Kids),.val (.int .i64 a0.Old.Kind),.sl a0.Old.Words.length (fl (eI .u64) a0.Old.Words),.sl a0.Old.Kids.length (fl Za a0.Old.Kids),.row (n+3) z5.length,.row (n+5) z11.length,.val (.int .i64 a0.List_),.row (n+7) s2_.2.length]⟩,some ⟨true,42,4,z5.length,fl Zb z5⟩,none,some ⟨true,55,12,z11.length,fl Zd z11⟩,none,some ⟨true,53,14,s2_.2.length,fl Zc s2_.2⟩,none])) (fun z17=>JX 4 n (⟨76,[],[(2,.ref (n+1) 0),(3,.ref (n+2) 0)]⟩:Env) (Zu O n [none,some ⟨false,30,11,1,[.val (.int .i64 0),.val (.int .i64 0),.val (.slice none 0 0),.val (.slice none 0 0),.val (.int .i64 0),.val (.slice none 0 0),.val (.slice none 0 0),.val (.slice none 0 0),.val (.slice none 0 0),.val (.int .i64 0),.val (.slice none 0 0)]⟩,some ⟨false,30,11,1,[.val (.int .i64 a0.Kind),.val (.int .i64 a0.New.Kind),.sl a0.New.Words.length (fl (eI .u64) a0.New.Words),.sl a0.New.Kids.length (fl Za a0.New.Kids),.val (.int .i64 a0.Old.Kind),.sl a0.Old.Words.length (fl (eI .u64) a0.Old.Words),.sl a0.Old.Kids.length (fl Za a0.Old.Kids),.row (n+3) z5.length,.row (n+5) z11.length,.val (.int .i64 a0.List_),.row (n+7) z17.length]⟩,some ⟨true,42,4,z5.length,fl Zb z5⟩,none,some ⟨true,55,12,z11.length,fl Zd z11⟩,none,some ⟨true,53,14,z17.length,fl Zc z17⟩,none]) (n+9)) ?_
  intro s2_ x2_ hs2_
  unfold Zbk at hs2_
  try dsimp only
  refine zQ [2,3,61,62,63,64] ?_
  refine Zj ?_
  refine Zn (t:=(decide (s2_.1 < (a0.Ops.length:Int)))) rfl (fun c16 => ?_) (fun c16 => ?_)
  ·replace hs2_:=Zq c16 hs2_
   refine zKd [2,3,61,62,63] [false,true,true,true,false,true,false,true,false] ?_
   refine Zj ?_
   refine Yy ?_
   refine Zj ?_
   obtain ⟨x13,hx13,ax13,bx13,cx13,hs2_⟩:=bE (f:=Zc) Zdh (fun _=>rfl) (by decide) hs2_
   refine Ziu [] ax13 bx13 cx13 ?_
   refine zD [2,3,9,61,62,63] [false,true,true,true,false,true,false,true,false,true] ?_
   obtain ⟨y14,hy14,hs2_⟩:=bC hs2_
   obtain ⟨l15,pl15,ql15,el15,hs2_⟩:=bA (k:=1) rfl hs2_
   refine K6 Zz (by kernel_rfl) [.low,.low,.plain,.plain,.pass,.bar,.plain,.bar] (fun i=>i < (n+10)) [0,1,2,3,4,5,6,7] [.low,.low,.plain,.plain,.pass,.bar,.plain,.bar] [] (by kernel_rfl) rfl ?_
   refine zX3 pl15 ql15 el15 ?_
   refine zO ?_
   first | refine PCallA.of (fun _ _=>Zfd hy14) ?_ | refine PCall.of (Zfd hy14) ?_
   refine zX3 pl15 ql15 el15 ?_
   refine zO ?_
   refine Zek ⟨76,[],[(2,.ref (n+1) 0),(3,.ref (n+2) 0),(61,.sl a0.Ops.length (fl Zc a0.Ops)),(62,.val (.int .i64 (a0.Ops.length:Int))),(63,.val (.int .i64 s2_.1))]⟩ (Zu O n [none,some ⟨false,30,11,1,[.val (.int .i64 0),.val (.int .i64 0),.val (.slice none 0 0),.val (.slice none 0 0),.val (.int .i64 0),.val (.slice none 0 0),.val (.slice none 0 0),.val (.slice none 0 0),.val (.slice none 0 0),.val (.int .i64 0),.val (.slice none 0 0)]⟩,some ⟨false,30,11,1,[.val (.int .i64 a0.Kind),.val (.int .i64 a0.New.Kind),.sl a0.New.Words.length (fl (eI .u64) a0.New.Words),.sl a0.New.Kids.length (fl Za a0.New.Kids),.val (.int .i64 a0.Old.Kind),.sl a0.Old.Words.length (fl (eI .u64) a0.Old.Words),.sl a0.Old.Kids.length (fl Za a0.Old.Kids),.row (n+3) z5.length,.row (n+5) z11.length,.val (.int .i64 a0.List_),.row (n+7) l15.length]⟩,some ⟨true,42,4,z5.length,fl Zb z5⟩,none,some ⟨true,55,12,z11.length,fl Zd z11⟩,none,some ⟨true,53,14,l15.length,fl Zc l15⟩,none,none,none]) (Yj hU rfl rfl ?_) ?_
   ·exact Z5k pl15 ql15 el15
   refine zR ?_
   exact zEn hs2_
  replace hs2_:=Zp c16 hs2_
  exact zEx hs2_
 try simp only [Xf,Yn,↓reduceIte,Nat.reduceEqDiff]
 refine zDs [2,3] [false,true,true,true,false,true,false,true,false] ?_
 refine zRd [2] [false,true,false,true,false,true,false,true,false] ?_
 exact Xe [.agg [.val (.int .i64 a0.Kind),.val (.int .i64 a0.New.Kind),.sl a0.New.Words.length (fl (eI .u64) a0.New.Words),.sl a0.New.Kids.length (fl Za a0.New.Kids),.val (.int .i64 a0.Old.Kind),.sl a0.Old.Words.length (fl (eI .u64) a0.Old.Words),.sl a0.Old.Kids.length (fl Za a0.Old.Kids),.row (n+3) z5.length,.row (n+5) z11.length,.val (.int .i64 a0.List_),.row (n+7) z17.length]]
theorem Zt2 {Qa:(S_api_Edit→Option S_api_Edit)} {X1:(S_api_Op→Option S_api_Op)} (Zds:Zg4 Qa) (Zfd:Zfa X1) {a0:S_api_Op} {r:S_api_Op} {O:Objs} {n:Nat} (h:Zb5 Qa X1 a0=some r):GTo Try.prog 77 [.agg (Yw a0)] O n (.agg (Yw r)) O n:=by
 unfold Zb5 at h
 refine zFn Try.call77 Try.func77 fun hU hN0 hN => ?_
 show W _ _ _ _ ⟨18,[],[(0,.agg (Yw a0))]⟩ (Zu O n []) _
 refine zQ [1,2] ?_
 obtain ⟨z1,hz1,h⟩:=bC h
 refine Xt (E':=⟨18,[],[(1,.ref n 0),(2,.ref (n+1) 0)]⟩) (O':=(Zu O n [some ⟨false,53,14,1,[.val (.int .i64 z1.1),.val (.int .i64 a0.N),.sl a0.L.length (fl Za a0.L),.val (.int .i64 z1.2.1),.val (.int .i64 z1.2.2.1),.sl z1.2.2.2.1.length (fl (eI .u64) z1.2.2.2.1),.sl z1.2.2.2.2.1.length (fl Za z1.2.2.2.2.1),.val (.int .i64 z1.2.2.2.2.2.1),.sl z1.2.2.2.2.2.2.1.length (fl (eI .u64) z1.2.2.2.2.2.2.1),.sl z1.2.2.2.2.2.2.2.1.length (fl Za z1.2.2.2.2.2.2.2.1),.sl z1.2.2.2.2.2.2.2.2.1.length (fl Zb z1.2.2.2.2.2.2.2.2.1),.sl z1.2.2.2.2.2.2.2.2.2.1.length (fl Zd z1.2.2.2.2.2.2.2.2.2.1),.val (.int .i64 z1.2.2.2.2.2.2.2.2.2.2.1),.sl z1.2.2.2.2.2.2.2.2.2.2.2.length (fl Zc z1.2.2.2.2.2.2.2.2.2.2.2)]⟩,some ⟨false,53,14,1,[.val (.int .i64 0),.val (.int .i64 0),.val (.slice none 0 0),.val (.int .i64 0),.val (.int .i64 0),.val (.slice none 0 0),.val (.slice none 0 0),.val (.int .i64 0),.val (.slice none 0 0),.val (.slice none 0 0),.val (.slice none 0 0),.val (.slice none 0 0),.val (.int .i64 0),.val (.slice none 0 0)]⟩])) (n0:=(n+2)) ?_ ?_
 ·refine zQ [1,2,4] ?_
  refine Yy ?_
  refine zQ [1,2,4,5] ?_
  refine Zn (t:=(a0.Kind == 1)) rfl (fun c5 => ?_) (fun c5 => ?_)
  ·replace hz1:=Zq c5 hz1
   refine zR ?_
   exact zEn hz1
  replace hz1:=Zp c5 hz1
  refine zQ [1,2,4,8] ?_
  refine Zn (t:=(a0.Kind == 2)) rfl (fun c4 => ?_) (fun c4 => ?_)
  ·replace hz1:=Zq c4 hz1
   refine zR ?_
   exact zEn hz1
  replace hz1:=Zp c4 hz1
  refine zQ [1,2,11] ?_
  refine Zn (t:=(a0.Kind == 3)) rfl (fun c3 => ?_) (fun c3 => ?_)
  ·replace hz1:=Zq c3 hz1
   obtain ⟨y2,hy2,hz1⟩:=bC hz1
   refine zC (Zds hy2) ?_
   exact zEn hz1
  replace hz1:=Zp c3 hz1
  refine zK ?_
  exact zEn hz1
 refine Zj ?_
 refine zRd [2] [false,true] ?_
 exact Xe [.agg [.val (.int .i64 z1.1),.val (.int .i64 a0.N),.sl a0.L.length (fl Za a0.L),.val (.int .i64 z1.2.1),.val (.int .i64 z1.2.2.1),.sl z1.2.2.2.1.length (fl (eI .u64) z1.2.2.2.1),.sl z1.2.2.2.2.1.length (fl Za z1.2.2.2.2.1),.val (.int .i64 z1.2.2.2.2.2.1),.sl z1.2.2.2.2.2.2.1.length (fl (eI .u64) z1.2.2.2.2.2.2.1),.sl z1.2.2.2.2.2.2.2.1.length (fl Za z1.2.2.2.2.2.2.2.1),.sl z1.2.2.2.2.2.2.2.2.1.length (fl Zb z1.2.2.2.2.2.2.2.2.1),.sl z1.2.2.2.2.2.2.2.2.2.1.length (fl Zd z1.2.2.2.2.2.2.2.2.2.1),.val (.int .i64 z1.2.2.2.2.2.2.2.2.2.2.1),.sl z1.2.2.2.2.2.2.2.2.2.2.2.length (fl Zc z1.2.2.2.2.2.2.2.2.2.2.2)]]
theorem Ztv:∀ k,(Zg4 ((Xn k).1))∧(Zfa ((Xn k).2)):=fun k=>by
 induction k with
 | zero=>exact ⟨@fun a0 r O n h=>(nomatch (show (none:Option _)=some _ from h)),@fun a0 r O n h=>(nomatch (show (none:Option _)=some _ from h))⟩
 | succ k ih=>exact ⟨@fun a0 r O n h=>Zvt (ih.1) (ih.2)  h,@fun a0 r O n h=>Zt2 (ih.1) (ih.2)  h⟩
theorem Zwt {a0:S_api_Edit} {r:S_api_Edit} {O:Objs} {n:Nat} (h:Zlq a0=some r):GTo Try.prog 49 [.agg (Ze a0)] O n (.agg (Ze r)) O n:=by
 obtain ⟨k,hk⟩:=Zcr h
 exact (Ztv k).1  hk
theorem Zcd {a0:(List Int)} {r:(List Int)} {O:Objs} {n:Nat} (h:Gy a0=some r):GTo Try.prog 73 [.sl a0.length (fl (eI .u64) a0)] O n (.sl r.length (fl (eI .u64) r)) O n:=by
 unfold Gy at h
 refine zFn Try.call73 Try.func73 fun hU hN0 hN => ?_
 show W _ _ _ _ ⟨22,[],[(0,.sl a0.length (fl (eI .u64) a0))]⟩ (Zu O n []) _
 refine zQ [0] ?_
 refine zQ [0,3] ?_
 refine Zj ?_
 refine zD [0,3] [] ?_
 obtain ⟨z7,hz7,h⟩:=bC h
 refine Y9 (E':=⟨22,[],[(0,.sl a0.length (fl (eI .u64) a0)),(3,.val (.int .i64 z7))]⟩) (O':=(Zu O n [])) (n0:=n) ?_ ?_
 ·refine Xr hz7 (fun s0_=>⟨22,[],[(0,.sl a0.length (fl (eI .u64) a0)),(3,.val (.int .i64 s0_))]⟩) (fun s0_=>(Zu O n [])) (fun z7=>JX 0 n (⟨22,[],[(0,.sl a0.length (fl (eI .u64) a0)),(3,.val (.int .i64 z7))]⟩:Env) (Zu O n []) n) ?_
  intro s0_ x0_ hs0_
  unfold Za4 at hs0_
  try dsimp only
  refine Zj ?_
  obtain ⟨z2,hz2,hs0_⟩:=bC hs0_
  refine Xt (E':=⟨22,[],[(0,.sl a0.length (fl (eI .u64) a0)),(3,.val (.int .i64 s0_)),(15,.val (.bool z2))]⟩) (O':=(Zu O n [])) (n0:=n) ?_ ?_
  ·rcases Bool.eq_false_or_eq_true (decide (0 < s0_)) with c5 | c5
   ·replace hz2:=Zq c5 hz2
    obtain ⟨x4,hx4,ax4,bx4,cx4,hz2⟩:=bE (f:=(eI .u64)) Zi1 (fun _=>rfl) (by decide) hz2
    refine Z2a [some true,some true,some true,some true,some true,some true] c5 ax4 bx4 cx4 ?_
    exact Ydp hz2 c5 ax4 bx4 cx4
   replace hz2:=Zp c5 hz2
   refine Zbv [some false,some false,some false,some false,some false,some false] c5 ?_
   exact G4 hz2 c5
  refine Zn (t:=z2) rfl (fun c6 => ?_) (fun c6 => ?_)
  ·replace hs0_:=Zq c6 hs0_
   refine zKd [0,3] [] ?_
   refine Yy ?_
   refine zR ?_
   exact zEn hs0_
  replace hs0_:=Zp c6 hs0_
  exact zEx hs0_
 try simp only [Xf,Yn,↓reduceIte,Nat.reduceEqDiff]
 refine zD [0,3] [] ?_
 obtain ⟨l9,al9,bl9,cl9,gl9,h⟩:=bS3 (lo:=none) (hi:=(.i64,z7)) (f:=(eI .u64)) rfl rfl Zl4 Zi1 (fun _=>rfl) h
 refine Yf9 [2] al9 bl9 cl9 gl9 ?_
 exact Xe [.sl l9.length (fl (eI .u64) l9)]
attribute [local push_cast] Try.results108 Try.results119 Try.results24 Try.results28 Try.results38 Try.results53 Try.results54 Try.results74 Try.results85 Try.results86 Try.results87 Try.results88 X8 Ze Y5 Yw Zi Xb Znl Znk Zn7 Zn6 Xf Yn Zjx Ze1 Ze0 onW Qm Zez Zeo Zqt Zpc Zhx Zh1 Zhw Zh0 Zkr Zko Zhz Zkq Zkp Zhy Zkm Zft evS wok K3 Op.operands Call.operands gop onK onP atK List.all_cons List.all_nil Bool.and_true Bool.true_and Bool.and_self Value.oneCell' List.take_zero List.take_succ_cons List.take_nil List.drop_zero List.drop_succ_cons List.drop_nil List.append_nil Nat.add_zero Nat.zero_add Za2 Yt ev Vz Zf7 Znd Znc Zni Zng Znh Zne Znf Znb Ztu Zuf Zwl Zi7 Zcp Zjv Zef Zhj Zgy Zc0 Zc5 Zex Zeu Zc3 Zew Zev Zc2 Zes Zc1 Zc4 Zb7 Zet Zpr Ze2 Zax Zif Zay Zln Zi5 Zvk bLo bHi bMx Zcq Zlm Zyh Zi4 Zmf Zf9 Gc Zrc Zyi Zid Zyj Zco Zzw Zj0 Zj4 Zjz Zj3 Znx Znu Zns Zhl Zj1 Znw Znv Zj2 Znt Zm3 gone Zki Zfl Zfk pop TK.isAgg Zn1 Zn5 Zn0 Zn4 Zkd Zr2 Zry Zn3 Zr1 Zr0 Zn2 Zrx G.under G.unders List.getD_cons_zero List.getD_cons_succ List.set_cons_zero List.set_cons_succ List.map_cons List.map_nil List.toList_toArray Array.toList_append Option.toArray_none Option.toArray_some Array.toList_map Option.map_some Option.map_none Option.bind_some Option.bind_none List.getElem?_cons_zero List.getElem?_cons_succ List.getElem?_nil List.nil_append List.cons_append List.replicate_succ List.replicate_zero List.length_cons List.length_nil and_true true_and and_false false_and Bool.true_eq_false Bool.false_eq_true forall_const false_implies implies_true IntKind.bits if_true if_false ite_true ite_false eq_self true_implies false_or or_false or_true true_or not_true_eq_false not_false_eq_true decide_true decide_false decide_eq_true_eq decide_eq_false_iff_not beq_iff_eq bne_iff_ne ne_eq Bool.not_eq_true Bool.not_eq_false beq_eq_false_iff_ne bne_eq_false_iff_eq beq_self_eq_true bne_self_eq_false Option.some.injEq exists_eq_left' exists_eq_left ge_iff_le gt_iff_lt decide_not Bool.not_true Bool.not_false imp_self Zrd cond_true cond_false Z3x Z3w Bool.not_not Bool.and_false Bool.false_and Bool.or_true Bool.true_or Bool.or_false Bool.false_or Uy Zan Us K8 Y2 Yk Option.join_some Nat.add_assoc Int.toNat_natCast eI eB eS eL Y8 Zf8 Zc6 Zno Znm Znn Z0l Z1c Zgc Zdc Zod Zob Zoc Zww Zp5 Zt4 Zog Zvc Zd9 Zp6 List.length_append G.agg.injEq G.row.injEq G.ref.injEq G.val.injEq G.sl.injEq G.tup.injEq Value.int.injEq Value.bool.injEq Value.string.injEq List.cons.injEq exists_and_left exists_const List.flatten_cons List.flatten_nil Int.le_refl Nat.le_refl X5 Yl Yp Bool.not_eq_true' Bool.not_eq_false' Zpb Zit Ztb Ztf Zta Zte Zyf Zyb List.size_toArray Zr4 Zqy G.ren G.rens Zur Zg5 Zof Zm9 Zna Zkn Ztg Zei G.fn.injEq Zlj Zlk Zpa Zyc Zli Ztd Zye Zyd Ztc Zrh Zxf Option.join_none Yb Gj undef Zmi Arr.len Arr.put_eq Zgb Zhq Zfh Zdb Zoa Zn8 Zn9 onB Z0k Zrb Zkl Zji Zjj Zjk Zjl Zjm Zjn Zhm Zht Zhr Zfj Zdd Zhs Zkh Zkg Zkf Zke Z1b Z25 Zwv Zvx Vs Zwm Zrk Zhu Zfi Zyq Zqz Zi3 Zmc Zen Ziq Zjo Zjp Zjq Zjr Zg9 Zha Zhb Zhc Zhd Zhe Zhf Zhg prT Ze3 Z43 Zs0 Z0y Zs1 Z44 Zs2 Zw4 Zs3 Z45 Zs4 Z46 Zs5 Z47 Zs6 Z48 Zs7 Zxk Zoh Zxl Zoi Zxm Zoj Zxn Zok Zxo Zol Zxp Zom Zxq Zon Zxr Zoo Zxs Zop Zxt Zoq Zxu Zor Zxv Zl4 Zt8 Zcl Zxw Zos Gr Zot Zxx Zgv Zxy Zgw Zxz Zl5 Zx0 Zou Zq1 Zov Zi1 Zow Zx1 Zox Zfu Zoy Zx2 Zoz Zdh Zo0 Zx3 Zo1 Zdi Zo2 Zt9 Zl6 Zx4 Zo3 Zx5 Zo4 Zx6 Zo5 Zv7 Zo6 Zx7 Zo7 Zx8 Zo8 Zr9 Zkt Zsa Zku Zsb Zkv Zsc Zkw Zsd Zkx Zse Zky Zsf Zkz Zsg Zk0 Zsh Zk1 Zsi Zk2 Zsj Zk3 Zsk Zk4 Zsl Zk5 Zsm Zk6 Zsn Zk7 Zso Zk8 Zsp Zk9 Zsq Zla Zsr Zlb Zss Zlc Zst Zld Zsu Zle Zsv Zlf Zsw Zlg Zsx Zlh Za Z5 Zfz Zfy Ze4 Zff Zf2 Zdk Zdg Zdf Zfv Uq Up Uf Ul Ur Vx Vw Vv Uo Zb Xp Zc Zd Yz Y4 Z9 J8 J5 Jm Jq Kb Q2 Qy Qv Jy Kv Kt Kk Ko Kx J3 Jw Ju Kr Zak Zaj Zad Zah Zal Gg Gf Ge Zai Zh4 Zh3 Zhk Zho Zh5 Zfx Zfq Zfp Zh2 Z4 Q5 Q4 Qr Qt Q6 Ql Qk Qj Q0 Z7 J9 J6 Jn Jr Kc Q3 Qz Qw Jz Z6 J7 J4 Jl Jp Ka Q1 Qx Qu Jx Zw Ku Ks Kj Km Kw J0 Jv Jt Kq
theorem Zjb {a0:(List S_api_Tree)} {r:(List S_api_Tree)} {O:Objs} {n:Nat} (h:Za0 a0=some r):GTo Try.prog 74 [.sl a0.length (fl Za a0)] O n (.sl r.length (fl Za r)) O n:=by
 unfold Za0 at h
 refine zFn Try.call74 Try.func74 fun hU hN0 hN => ?_
 show W _ _ _ _ ⟨23,[],[(0,.sl a0.length (fl Za a0))]⟩ (Zu O n []) _
 refine zQ [0] ?_
 refine zQ [0,3] ?_
 refine Zj ?_
 refine zD [0,3] [] ?_
 obtain ⟨z10,hz10,h⟩:=bC h
 refine Y9 (E':=⟨23,[],[(0,.sl a0.length (fl Za a0)),(3,.val (.int .i64 z10))]⟩) (O':=(Zu O n [])) (n0:=n) ?_ ?_
 ·refine Xr hz10 (fun s0_=>⟨23,[],[(0,.sl a0.length (fl Za a0)),(3,.val (.int .i64 s0_))]⟩) (fun s0_=>(Zu O n [])) (fun z10=>JX 0 n (⟨23,[],[(0,.sl a0.length (fl Za a0)),(3,.val (.int .i64 z10))]⟩:Env) (Zu O n []) n) ?_
  intro s0_ x0_ hs0_
  unfold Zbt at hs0_
  try dsimp only
  refine Zj ?_
  obtain ⟨z3,hz3,hs0_⟩:=bC hs0_
  refine Xt (E':=⟨23,[],[(0,.sl a0.length (fl Za a0)),(3,.val (.int .i64 s0_)),(16,.val (.bool z3))]⟩) (O':=(Zu O n [])) (n0:=n) ?_ ?_
  ·rcases Bool.eq_false_or_eq_true (decide (0 < s0_)) with c8 | c8
   ·replace hz3:=Zq c8 hz3
    obtain ⟨x6,hx6,ax6,bx6,cx6,hz3⟩:=bE (f:=Za) Gr (fun _=>rfl) (by decide) hz3
    have g7:=Zzx (f:=Za) (sz:=3) Z0y (fun _=>rfl) (by decide) (by decide) hx6
    refine Z8a [some true,some true,some true,some true,some true,some true,some true] c8 ax6 bx6 cx6 g7 ?_
    exact Yf5 hz3 c8 ax6 bx6 cx6 g7
   replace hz3:=Zp c8 hz3
   refine Zbv [some false,some false,some false,some false,some false,some false,some false] c8 ?_
   exact G4 hz3 c8
  refine Zn (t:=z3) rfl (fun c9 => ?_) (fun c9 => ?_)
  ·replace hs0_:=Zq c9 hs0_
   refine zKd [0,3] [] ?_
   refine Yy ?_
   refine zR ?_
   exact zEn hs0_
  replace hs0_:=Zp c9 hs0_
  exact zEx hs0_
 try simp only [Xf,Yn,↓reduceIte,Nat.reduceEqDiff]
 refine zD [0,3] [] ?_
 obtain ⟨l12,al12,bl12,cl12,gl12,h⟩:=bS3 (lo:=none) (hi:=(.i64,z10)) (f:=Za) rfl rfl Zcl Gr (fun _=>rfl) h
 refine Yf9 [2] al12 bl12 cl12 gl12 ?_
 exact Xe [.sl l12.length (fl Za l12)]
def Zrp (Zde:(S_api_Tree→Option S_api_Tree)):Prop:=∀ {a0:S_api_Tree} {r:S_api_Tree} {O:Objs} {n:Nat},Zde a0=some r→GTo Try.prog 38 [.agg (Zi a0)] O n (.agg (Zi r)) O n
theorem Z1a {Zde:(S_api_Tree→Option S_api_Tree)} (Z0f:Zrp Zde) {a0:S_api_Tree} {r:S_api_Tree} {O:Objs} {n:Nat} (h:Zjt Zde a0=some r):GTo Try.prog 38 [.agg (Zi a0)] O n (.agg (Zi r)) O n:=by
 unfold Zjt at h
 refine zFn Try.call38 Try.func38 fun hU hN0 hN => ?_
 show W _ _ _ _ ⟨49,[],[(0,.agg (Zi a0))]⟩ (Zu O n []) _
 refine zQ [1,2] ?_
 refine Zj ?_
 refine zQ [1,2,10] ?_
 refine Zn (t:=(a0.Kind == 0)) rfl (fun c15 => ?_) (fun c15 => ?_)
 ·replace h:=Zq c15 h
  refine Zj ?_
  refine zRd [2] [false,true] ?_
  exact Xe [.agg [.val (.int .i64 0),.val (.slice none 0 0),.val (.slice none 0 0)]]
 replace h:=Zp c15 h
 refine zKd [1,2] [true,true] ?_
 refine Zuc [1,2,3,4] (Vh Zz (by kernel_rfl) [] (by kernel_rfl) ?_)
 refine zS ?_
 obtain ⟨z1,hz1,h⟩:=bC h
 refine Xt (E':=⟨49,[],[(1,.ref n 0),(2,.ref (n+1) 0),(3,.sl z1.1.length (fl (eI .u64) z1.1)),(4,.sl z1.2.length (fl Za z1.2))]⟩) (O':=(Zu O n [some ⟨false,25,3,1,(Zi a0)⟩,some ⟨false,25,3,1,[.val (.int .i64 0),.val (.slice none 0 0),.val (.slice none 0 0)]⟩])) (n0:=(n+2)) ?_ ?_
 ·refine zQ [1,2,3,4,18] ?_
  refine Zn (t:=(a0.Kind == 1)) rfl (fun c4 => ?_) (fun c4 => ?_)
  ·replace hz1:=Zq c4 hz1
   obtain ⟨y2,hy2,hz1⟩:=bC hz1
   obtain ⟨y3,hy3,hz1⟩:=bC hz1
   refine zC (Zcd hy2) ?_
   refine zTs (Zjb hy3) ?_
   exact zEn hz1
  replace hz1:=Zp c4 hz1
  refine zK ?_
  exact zEn hz1
 refine Zj ?_
 refine zRd [2,4,5] [false,true,true] ?_
 obtain ⟨z5,hz5,h⟩:=bC h
 refine Xt (E':=⟨49,[],[(2,.ref (n+1) 0),(4,.sl z1.2.length (fl Za z1.2)),(5,.ref (n+2) 0)]⟩) (O':=(Zu O n [none,some ⟨false,25,3,1,[.val (.int .i64 0),.val (.slice none 0 0),.val (.slice none 0 0)]⟩,some ⟨false,25,3,1,[.val (.int .i64 a0.Kind),.sl z1.1.length (fl (eI .u64) z1.1),.row (n+4) z5.length]⟩,none,some ⟨true,25,3,z5.length,fl Za z5⟩,none])) (n0:=(n+6)) ?_ ?_
 ·refine zQ [2,4,5,29] ?_
  refine Zn (t:=(decide (0 < (z1.2.length:Int)))) rfl (fun c7 => ?_) (fun c7 => ?_)
  ·replace hz5:=Zq c7 hz5
   obtain ⟨l6,al6,bl6,cl6,el6,hz5⟩:=bM2 (c:=56) rfl hz5
   have nl6:Int.toNat (z1.2.length:Int)=List.length l6:=by rw [el6,List.length_replicate]
   have fl6:∀ O O' n,wkl O O' n (List.replicate (List.length l6) [.val (.int .i64 0),.val (.slice none 0 0),.val (.slice none 0 0)]).flatten (fl Za l6)=True:=fun O O' n=>by rw [← nl6,el6];exact eq_true (Z5h (by simp only [push_cast,seval,↓reduceIte,Zk]) _)
   clear el6
   refine Xa Zz [] ?_
   simp only [push_cast,seval,↓reduceIte,Zk,al6,bl6,cl6,fl6,nl6,hN0,hN]
   have hz5:=Option.some.inj hz5;subst hz5
   refine And.intro rfl ?_
   refine Fit2.trans (E':=(⟨49,[],[(2,.ref (n+1) 0),(4,.sl z1.2.length (fl Za z1.2)),(5,.ref (n+2) 0)]⟩:Env)) (O':=(Zu O n [none,some ⟨false,25,3,1,[.val (.int .i64 0),.val (.slice none 0 0),.val (.slice none 0 0)]⟩,some ⟨false,25,3,1,[.val (.int .i64 a0.Kind),.sl z1.1.length (fl (eI .u64) z1.1),.row (n+3) l6.length]⟩,some ⟨true,25,3,l6.length,fl Za l6⟩])) (n':=(n+4)) (Fit2.of (Yj hU rfl rfl ?_) (by omega)) ?_
   ·simp only [push_cast,seval,↓reduceIte,Zk,al6,bl6,cl6,fl6,nl6,hN0,hN]
   refine Vu (k:=4) (k':=6) hU [5,1,2,4] [0,1,2,0,3,0] rfl rfl rfl rfl ⟨rfl,rfl⟩ ?_
   exact zSe
  replace hz5:=Zp c7 hz5
  refine zK ?_
  have hz5:=Option.some.inj hz5;subst hz5
  refine And.intro rfl ?_
  refine Fit2.trans (E':=(⟨49,[],[(2,.ref (n+1) 0),(4,.sl z1.2.length (fl Za z1.2)),(5,.ref (n+2) 0)]⟩:Env)) (O':=(Zu O n [none,some ⟨false,25,3,1,[.val (.int .i64 0),.val (.slice none 0 0),.val (.slice none 0 0)]⟩,some ⟨false,25,3,1,[.val (.int .i64 a0.Kind),.sl z1.1.length (fl (eI .u64) z1.1),.val (.slice none 0 0)]⟩])) (n':=(n+3)) (Fit2.of (Yj hU rfl rfl ?_) (by omega)) ?_
  ·exact zSe
  refine Fit2.trans (Zav (p:=(n+2)) (k:=2) (q:=⟨false,25,3,1,[.val (.int .i64 a0.Kind),.sl z1.1.length (fl (eI .u64) z1.1),.val (.slice none 0 0)]⟩) 25 3 (by simp only [Uy,Zan,List.getElem?_cons_zero,List.getElem?_cons_succ,Option.join_some,List.length_nil,Yb]) rfl (by omega)) ?_
  simp only [Y2,Yk,Us,K8,List.set_cons_zero,List.set_cons_succ,List.cons_append,List.nil_append,List.length_cons,List.length_nil,Nat.zero_add,Nat.reduceAdd,Nat.reduceLT,Nat.add_assoc]
  refine Vu (k:=4) (k':=6) hU [5,1,2,4] [0,1,2,0,3,0] rfl rfl rfl rfl ⟨rfl,rfl⟩ ?_
  exact zSe
 refine Zj ?_
 refine zQd [2,5,34,35,36] [2,5,34,35,36] [false,true,true,false,true,false] ?_
 obtain ⟨z14,hz14,h⟩:=bC h
 refine Y9 (E':=⟨49,[],[(2,.ref (n+1) 0),(5,.ref (n+2) 0)]⟩) (O':=(Zu O n [none,some ⟨false,25,3,1,[.val (.int .i64 0),.val (.slice none 0 0),.val (.slice none 0 0)]⟩,some ⟨false,25,3,1,[.val (.int .i64 a0.Kind),.sl z1.1.length (fl (eI .u64) z1.1),.row (n+4) z14.length]⟩,none,some ⟨true,25,3,z14.length,fl Za z14⟩,none])) (n0:=(n+6)) ?_ ?_
 ·refine Xr hz14 (fun s0_=>⟨49,[],[(2,.ref (n+1) 0),(5,.ref (n+2) 0),(34,.sl z1.2.length (fl Za z1.2)),(35,.val (.int .i64 (z1.2.length:Int))),(36,.val (.int .i64 s0_.1))]⟩) (fun s0_=>(Zu O n [none,some ⟨false,25,3,1,[.val (.int .i64 0),.val (.slice none 0 0),.val (.slice none 0 0)]⟩,some ⟨false,25,3,1,[.val (.int .i64 a0.Kind),.sl z1.1.length (fl (eI .u64) z1.1),.row (n+4) s0_.2.length]⟩,none,some ⟨true,25,3,s0_.2.length,fl Za s0_.2⟩,none])) (fun z14=>JX 0 n (⟨49,[],[(2,.ref (n+1) 0),(5,.ref (n+2) 0)]⟩:Env) (Zu O n [none,some ⟨false,25,3,1,[.val (.int .i64 0),.val (.slice none 0 0),.val (.slice none 0 0)]⟩,some ⟨false,25,3,1,[.val (.int .i64 a0.Kind),.sl z1.1.length (fl (eI .u64) z1.1),.row (n+4) z14.length]⟩,none,some ⟨true,25,3,z14.length,fl Za z14⟩,none]) (n+6)) ?_
  intro s0_ x0_ hs0_
  unfold Zcn at hs0_
  try dsimp only
  refine zQ [2,5,34,35,36,37] ?_
  refine Zj ?_
  refine Zn (t:=(decide (s0_.1 < (z1.2.length:Int)))) rfl (fun c13 => ?_) (fun c13 => ?_)
  ·replace hs0_:=Zq c13 hs0_
   refine zKd [2,5,34,35,36] [false,true,true,false,true,false] ?_
   refine Zj ?_
   refine Yy ?_
   refine Zj ?_
   obtain ⟨x9,hx9,ax9,bx9,cx9,hs0_⟩:=bE (f:=Za) Gr (fun _=>rfl) (by decide) hs0_
   refine Ziu [] ax9 bx9 cx9 ?_
   refine zD [2,5,6,7,34,35,36] [false,true,true,false,true,false,true] ?_
   obtain ⟨y10,hy10,hs0_⟩:=bC hs0_
   obtain ⟨x11,hx11,ax11,bx11,cx11,hs0_⟩:=bE (f:=Za) Gr (fun _=>rfl) (by decide) hs0_
   have gu12:U1 (fl Za s0_.2) [.val (.int .i64 y10.Kind),.sl y10.Words.length (fl (eI .u64) y10.Words),.sl y10.Kids.length (fl Za y10.Kids)] (Int.toNat s0_.1 * 3)=some (fl Za (Zg6 s0_.2 s0_.1 y10)):=(congrArg (fun c=>U1 (fl Za s0_.2) c (Int.toNat s0_.1 * 3)) (show [.val (.int .i64 y10.Kind),.sl y10.Words.length (fl (eI .u64) y10.Words),.sl y10.Kids.length (fl Za y10.Kids)]=Za y10 from by simp only [Za,Z5,eI,eB,eS,eL])).trans (Zpq (f:=Za) (ti:=⟨.bool,3,0,[],false⟩) (x:=y10) (fun _=>rfl) (Zie hx11))
   refine Zl2 Zz (by kernel_rfl) [false,false,false,false,false,false,true] [] (by kernel_rfl) ?_
   refine zF4 ax11 bx11 cx11 gu12 ?_
   refine PCall.of (Z0f hy10) ?_
   refine zF4 ax11 bx11 cx11 gu12 ?_
   refine zD [2,5,34,35,36] [false,true,true,false,true,false,false] ?_
   refine zR ?_
   exact zEn hs0_
  replace hs0_:=Zp c13 hs0_
  exact zEx hs0_
 try simp only [Xf,Yn,↓reduceIte,Nat.reduceEqDiff]
 refine zDs [2,5] [false,true,true,false,true,false] ?_
 refine zRd [2] [false,true,false,false,true,false] ?_
 exact Xe [.agg [.val (.int .i64 a0.Kind),.sl z1.1.length (fl (eI .u64) z1.1),.row (n+4) z14.length]]
theorem Zyk:∀ k,(Zrp (Za8 k)):=fun k=>by
 induction k with
 | zero=>exact @fun a0 r O n h=>(nomatch (show (none:Option _)=some _ from h))
 | succ k ih=>exact @fun a0 r O n h=>Z1a (ih)  h
theorem Zdt {a0:S_api_Tree} {r:S_api_Tree} {O:Objs} {n:Nat} (h:Zc8 a0=some r):GTo Try.prog 38 [.agg (Zi a0)] O n (.agg (Zi r)) O n:=by
 obtain ⟨k,hk⟩:=Zcr h
 exact (Zyk k)  hk
theorem Zd5 {a0 r:List Zf} {O:Objs} {n:Nat} (h:Kz a0=some r):GTo Try.prog 53 [.sl a0.length (fl Zb a0)] O n (.row n r.length) (Zu O n [some ⟨true,42,4,r.length,fl Zb r⟩]) (n+1):=by
 have h1:=Z2d h
 have h2:=Z2e h
 have h3:=Zyu h
 rw [List.nil_append] at h3
 subst h3
 simp only [List.length_nil,Nat.zero_add] at h1 h2
 clear h
 refine zFn Try.call53 Try.func53 fun hU hN0 hN => ?_
 show W _ _ _ _ ⟨8,[],[(0,.sl r.length (fl Zb r))]⟩ (Zu O n []) _
 refine zQ [0] ?_
 refine Z5o 0 r.length (fl Zb r) rfl (Nat.le_of_ble_eq_true rfl) (Yh Xg _) fun A c hA => ?_
 refine zQ [0,4] ?_
 cases A with
 | none =>
  obtain rfl:r=[]:=List.eq_nil_of_length_eq_zero (hA rfl)
  refine Zn (t:=true) rfl (fun _ => ?_) (fun hc=>by cases hc)
  refine zQ [2] ?_
  refine zW ?_
  refine Zzr (k:=1) (L3:=[some ⟨true,42,4,0,[]⟩]) (E2:=⟨8,[],[(2,.row n 0),(2,.val (.slice none 0 0))]⟩) (n3:=(n+1)) (.inr rfl) hU rfl [.row n 0] ?_ ?_
  ·have ha:=Zl7 (ba:=n) (E:=⟨8,[],[(2,.val (.slice none 0 0))]⟩) (O:=(Zu O n [])) (n:=n) 2 42 4 rfl (by omega)
   simp only [Yk] at ha
   exact ha
  simp only [push_cast,seval,↓reduceIte,Zk,Try.results53,hN0,hN]
 | some A =>
  refine Zn (t:=false) rfl (fun hc=>by cases hc) (fun _ => ?_)
  refine zK ?_
  refine And.intro rfl (And.intro (Nat.le_of_ble_eq_true rfl) ?_)
  refine Zj ?_
  refine Xa Zz [] ?_
  simp only [push_cast,seval,↓reduceIte,Zk,h1,h2,hN0,hN]
  refine zW ?_
  refine Zzq (.inr rfl) hU rfl [.row n r.length] (by omega) ?_
  simp only [push_cast,seval,↓reduceIte,Zk,Try.results53,hN0,hN]
theorem Zaf {a0:Zs} {r:Zs} {O:Objs} {n:Nat} {i0 j0_0 j0_1 j0_2:Nat} (hi0:i0 < n) (Za9:j0_0 < n) (Zjy:j0_1 < n) (Znp:j0_2 < n) (V5:i0≠j0_0) (Zbn:i0≠j0_1) (Zdp:i0≠j0_2) (Zbm:j0_0≠j0_1) (Zdn:j0_0≠j0_2) (Zdo:j0_1≠j0_2) (ho0:O i0=some ⟨false,98,4,1,[.row j0_2 a0.out.length,.val (.int .i64 a0.kept),.row j0_0 a0.gone.length,.row j0_1 a0.come.length]⟩) (Zbo:O j0_0=some ⟨true,25,3,a0.gone.length,fl Za a0.gone⟩) (Zmg:O j0_1=some ⟨true,25,3,a0.come.length,fl Za a0.come⟩) (Zp8:O j0_2=some ⟨true,53,14,a0.out.length,fl Zc a0.out⟩) (h:X4 a0=some r):GTo Try.prog 88 [.ref i0 0] O n (.tup []) (Zu ((((O.upd j0_0 none).upd j0_1 none).upd j0_2 none).upd i0 (some ⟨false,98,4,1,[.row (n+2) r.out.length,.val (.int .i64 r.kept),.row n r.gone.length,.row (n+1) r.come.length]⟩)) n [some ⟨true,25,3,r.gone.length,fl Za r.gone⟩,some ⟨true,25,3,r.come.length,fl Za r.come⟩,some ⟨true,53,14,r.out.length,fl Zc r.out⟩]) (n+3):=by
 unfold X4 at h
 refine Zqs Zz Try.call88 Try.func88 rfl (Nat.le_of_ble_eq_true rfl) (by omega) fun hU => ?_
 have e0:=Un (ba:=n) (E:=⟨73,[],Zf7 0 [.ref i0 0]⟩) (O:=(Zu O n [])) (n:=n) (i:=i0) (j:=j0_0) (k:=2) (len:=a0.gone.length) (q:=⟨false,98,4,1,[.row j0_2 a0.out.length,.val (.int .i64 a0.kept),.row j0_0 a0.gone.length,.row j0_1 a0.come.length]⟩) (qj:=⟨true,25,3,a0.gone.length,fl Za a0.gone⟩) (by rw [Yl _ hi0];first | exact ho0 | exact Yb _ _ _) rfl (by rw [Yl _ Za9];exact Zbo) V5 (by omega)
 simp only [Yp _ _ Za9,Yp _ _ hi0,Y2,Yk,X5,Zcx V5,List.set_cons_zero,List.set_cons_succ,List.cons_append,List.nil_append,List.length_cons,List.length_nil,Nat.zero_add,Nat.reduceAdd,Nat.add_assoc] at e0
 refine Vn e0 ?_
 have e1:=Un (ba:=n) (E:=⟨73,[],Zf7 0 [.ref i0 0]⟩) (O:=(Zu ((O.upd j0_0 none).upd i0 (some ⟨false,98,4,1,[.row j0_2 a0.out.length,.val (.int .i64 a0.kept),.row n a0.gone.length,.row j0_1 a0.come.length]⟩)) n [some ⟨true,25,3,a0.gone.length,fl Za a0.gone⟩])) (n:=(n+1)) (i:=i0) (j:=j0_1) (k:=3) (len:=a0.come.length) (q:=⟨false,98,4,1,[.row j0_2 a0.out.length,.val (.int .i64 a0.kept),.row n a0.gone.length,.row j0_1 a0.come.length]⟩) (qj:=⟨true,25,3,a0.come.length,fl Za a0.come⟩) (by rw [Yl _ hi0];first | exact ho0 | exact Yb _ _ _) rfl (by rw [Yl _ Zjy,Xd _ _ (Ne.symm Zbn),Xd _ _ (Ne.symm Zbm)];exact Zmg) Zbn (by omega)
 simp only [Yp _ _ Zjy,Yp _ _ hi0,Y2,Yk,X5,Zcx Zbn,List.set_cons_zero,List.set_cons_succ,List.cons_append,List.nil_append,List.length_cons,List.length_nil,Nat.zero_add,Nat.reduceAdd,Nat.add_assoc] at e1
 refine Vn e1 ?_
 have e2:=Un (ba:=n) (E:=⟨73,[],Zf7 0 [.ref i0 0]⟩) (O:=(Zu (((O.upd j0_0 none).upd j0_1 none).upd i0 (some ⟨false,98,4,1,[.row j0_2 a0.out.length,.val (.int .i64 a0.kept),.row n a0.gone.length,.row (n+1) a0.come.length]⟩)) n [some ⟨true,25,3,a0.gone.length,fl Za a0.gone⟩,some ⟨true,25,3,a0.come.length,fl Za a0.come⟩])) (n:=(n+2)) (i:=i0) (j:=j0_2) (k:=0) (len:=a0.out.length) (q:=⟨false,98,4,1,[.row j0_2 a0.out.length,.val (.int .i64 a0.kept),.row n a0.gone.length,.row (n+1) a0.come.length]⟩) (qj:=⟨true,53,14,a0.out.length,fl Zc a0.out⟩) (by rw [Yl _ hi0];first | exact ho0 | exact Yb _ _ _) rfl (by rw [Yl _ Znp,Xd _ _ (Ne.symm Zdp),Xd _ _ (Ne.symm Zdo),Xd _ _ (Ne.symm Zdn)];exact Zp8) Zdp (by omega)
 simp only [Yp _ _ Znp,Yp _ _ hi0,Y2,Yk,X5,Zcx Zdp,List.set_cons_zero,List.set_cons_succ,List.cons_append,List.nil_append,List.length_cons,List.length_nil,Nat.zero_add,Nat.reduceAdd,Nat.add_assoc] at e2
 refine Vn e2 ?_
 have hU:=(Und.drop (Und.drop (Und.drop hU j0_0) j0_1) j0_2)
 have hk0:∀ k,i0 < n+k:=fun k=>by omega
 have hN0:∀ o,Objs.upd (((O.upd j0_0 none).upd j0_1 none).upd j0_2 none) i0 o n=none:=fun o=>Kf hU hi0 _ (Nat.le_refl _)
 have hN:∀ o k,Objs.upd (((O.upd j0_0 none).upd j0_1 none).upd j0_2 none) i0 o (n+k)=none:=fun o k=>Kf hU hi0 _ (Nat.le_add_right _ _)
 show W _ _ _ _ ⟨73,[],[(0,.ref i0 0)]⟩ (Zu ((((O.upd j0_0 none).upd j0_1 none).upd j0_2 none).upd i0 (some ⟨false,98,4,1,[.row (n+2) a0.out.length,.val (.int .i64 a0.kept),.row n a0.gone.length,.row (n+1) a0.come.length]⟩)) n [some ⟨true,25,3,a0.gone.length,fl Za a0.gone⟩,some ⟨true,25,3,a0.come.length,fl Za a0.come⟩,some ⟨true,53,14,a0.out.length,fl Zc a0.out⟩]) _
 obtain ⟨z1,hz1,h⟩:=bC h
 refine Xt (E':=⟨73,[],[(0,.ref i0 0)]⟩) (O':=(Zu ((((O.upd j0_0 none).upd j0_1 none).upd j0_2 none).upd i0 (some ⟨false,98,4,1,[.row (n+2) z1.length,.val (.int .i64 a0.kept),.row n a0.gone.length,.row (n+1) a0.come.length]⟩)) n [some ⟨true,25,3,a0.gone.length,fl Za a0.gone⟩,some ⟨true,25,3,a0.come.length,fl Za a0.come⟩,some ⟨true,53,14,z1.length,fl Zc z1⟩,none])) (n0:=(n+4)) ?_ ?_
 ·refine Zdv [0,6] hi0 hk0 ?_
  refine Zn (t:=(decide (0 < a0.kept))) rfl (fun c5 => ?_) (fun c5 => ?_)
  ·replace hz1:=Zq c5 hz1
   obtain ⟨l2,pl2,ql2,el2,hz1⟩:=bA (k:=1) rfl hz1
   obtain ⟨x3,hx3,ax3,bx3,cx3,hz1⟩:=bE (f:=Zc) Zdh (fun _=>rfl) (by decide) hz1
   have gu4:U1 (fl Zc a0.out++[.val (.int .i64 0),.val (.int .i64 0),.val (.slice none 0 0),.val (.int .i64 0),.val (.int .i64 0),.val (.slice none 0 0),.val (.slice none 0 0),.val (.int .i64 0),.val (.slice none 0 0),.val (.slice none 0 0),.val (.slice none 0 0),.val (.slice none 0 0),.val (.int .i64 0),.val (.slice none 0 0)]) [.val (.int .i64 0),.val (.int .i64 a0.kept),.val (.slice none 0 0),.val (.int .i64 0),.val (.int .i64 0),.val (.slice none 0 0),.val (.slice none 0 0),.val (.int .i64 0),.val (.slice none 0 0),.val (.slice none 0 0),.val (.slice none 0 0),.val (.slice none 0 0),.val (.int .i64 0),.val (.slice none 0 0)] (List.length a0.out * 14)=some (fl Zc a0.out++[.val (.int .i64 0),.val (.int .i64 a0.kept),.val (.slice none 0 0),.val (.int .i64 0),.val (.int .i64 0),.val (.slice none 0 0),.val (.slice none 0 0),.val (.int .i64 0),.val (.slice none 0 0),.val (.slice none 0 0),.val (.slice none 0 0),.val (.slice none 0 0),.val (.int .i64 0),.val (.slice none 0 0)]):=Zc7 (f:=Zc) (sz:=14) (fun _=>rfl) rfl rfl
   refine K6 Zz (by kernel_rfl) [.plain,.low,.low,.low,.plain,.low,.low,.low,.plain,.low,.pass,.bar,.shp,.fill true,.shp,.shp,.fill false] (fun i=>i < (n+3)) [0,1,2,3,4,5,6,7,8,9,10,11,12,13,14,15,16] [.plain,.low,.low,.low,.plain,.low,.low,.low,.plain,.low,.pass,.bar,.shp,.fill true,.shp,.shp,.fill false] [] (by kernel_rfl) rfl ?_
   refine zF9 pl2 ql2 el2 ax3 bx3 cx3 gu4 hi0 hk0 ?_
   refine zO ?_
   have hz1:=Option.some.inj hz1;subst hz1
   refine And.intro rfl (Fit2.of (Ya hU rfl rfl ?_) (by omega))
   exact Z5j pl2 ql2 el2 ax3 bx3 cx3 gu4 hi0 hk0
  replace hz1:=Zp c5 hz1
  refine zK ?_
  have hz1:=Option.some.inj hz1;subst hz1
  refine And.intro rfl (Fit2.of (Ya hU rfl rfl ?_) (by omega))
  exact Ve hi0 hk0
 obtain ⟨z6,hz6,h⟩:=bC h
 refine Xt (E':=⟨73,[],[(0,.ref i0 0)]⟩) (O':=(Zu ((((O.upd j0_0 none).upd j0_1 none).upd j0_2 none).upd i0 (some ⟨false,98,4,1,[.row (n+2) z6.1.length,.val (.int .i64 a0.kept),.sl z6.2.length (fl Za z6.2),.row (n+1) a0.come.length]⟩)) n [none,some ⟨true,25,3,a0.come.length,fl Za a0.come⟩,some ⟨true,53,14,z6.1.length,fl Zc z6.1⟩,none,none])) (n0:=(n+5)) ?_ ?_
 ·refine Zdv [0,27] hi0 hk0 ?_
  refine Zn (t:=(decide (0 < (a0.gone.length:Int)))) rfl (fun c12 => ?_) (fun c12 => ?_)
  ·replace hz6:=Zq c12 hz6
   refine Zek ⟨73,[],[(0,.ref i0 0)]⟩ (Zu ((((O.upd j0_0 none).upd j0_1 none).upd j0_2 none).upd i0 (some ⟨false,98,4,1,[.row (n+2) z1.length,.val (.int .i64 a0.kept),.sl a0.gone.length (fl Za a0.gone),.row (n+1) a0.come.length]⟩)) n [none,some ⟨true,25,3,a0.come.length,fl Za a0.come⟩,some ⟨true,53,14,z1.length,fl Zc z1⟩,none]) (Ya hU rfl rfl ?_) ?_
   ·exact Ve hi0 hk0
   obtain ⟨l9,pl9,ql9,el9,hz6⟩:=bA (k:=1) rfl hz6
   obtain ⟨x10,hx10,ax10,bx10,cx10,hz6⟩:=bE (f:=Zc) Zdh (fun _=>rfl) (by decide) hz6
   have gu11:U1 (fl Zc z1++[.val (.int .i64 0),.val (.int .i64 0),.val (.slice none 0 0),.val (.int .i64 0),.val (.int .i64 0),.val (.slice none 0 0),.val (.slice none 0 0),.val (.int .i64 0),.val (.slice none 0 0),.val (.slice none 0 0),.val (.slice none 0 0),.val (.slice none 0 0),.val (.int .i64 0),.val (.slice none 0 0)]) [.val (.int .i64 1),.val (.int .i64 0),.sl a0.gone.length (fl Za a0.gone),.val (.int .i64 0),.val (.int .i64 0),.val (.slice none 0 0),.val (.slice none 0 0),.val (.int .i64 0),.val (.slice none 0 0),.val (.slice none 0 0),.val (.slice none 0 0),.val (.slice none 0 0),.val (.int .i64 0),.val (.slice none 0 0)] (List.length z1 * 14)=some (fl Zc z1++[.val (.int .i64 1),.val (.int .i64 0),.sl a0.gone.length (fl Za a0.gone),.val (.int .i64 0),.val (.int .i64 0),.val (.slice none 0 0),.val (.slice none 0 0),.val (.int .i64 0),.val (.slice none 0 0),.val (.slice none 0 0),.val (.slice none 0 0),.val (.slice none 0 0),.val (.int .i64 0),.val (.slice none 0 0)]):=Zc7 (f:=Zc) (sz:=14) (fun _=>rfl) rfl rfl
   refine K6 Zz (by kernel_rfl) [.plain,.low,.low,.low,.plain,.low,.low,.low,.plain,.low,.pass,.bar,.shp,.fill true,.shp,.shp,.fill false] (fun i=>i < (n+4)) [0,1,2,3,4,5,6,7,8,9,10,11,12,13,14,15,16] [.plain,.low,.low,.low,.plain,.low,.low,.low,.plain,.low,.pass,.bar,.shp,.fill true,.shp,.shp,.fill false] [] (by kernel_rfl) rfl ?_
   refine zF9 pl9 ql9 el9 ax10 bx10 cx10 gu11 hi0 hk0 ?_
   refine zO ?_
   have hz6:=Option.some.inj hz6;subst hz6
   refine And.intro rfl (Fit2.of (Ya hU rfl rfl ?_) (by omega))
   exact Z5j pl9 ql9 el9 ax10 bx10 cx10 gu11 hi0 hk0
  replace hz6:=Zp c12 hz6
  refine zK ?_
  have hz6:=Option.some.inj hz6;subst hz6
  refine And.intro rfl (Fit2.of (Ya hU rfl rfl ?_) (by omega))
  exact Ve hi0 hk0
 obtain ⟨z13,hz13,h⟩:=bC h
 refine Xt (E':=⟨73,[],[(0,.ref i0 0)]⟩) (O':=(Zu ((((O.upd j0_0 none).upd j0_1 none).upd j0_2 none).upd i0 (some ⟨false,98,4,1,[.row (n+2) z13.1.length,.val (.int .i64 a0.kept),.sl z6.2.length (fl Za z6.2),.sl z13.2.length (fl Za z13.2)]⟩)) n [none,none,some ⟨true,53,14,z13.1.length,fl Zc z13.1⟩,none,none,none])) (n0:=(n+6)) ?_ ?_
 ·refine Zdv [0,48] hi0 hk0 ?_
  refine Zn (t:=(decide (0 < (a0.come.length:Int)))) rfl (fun c19 => ?_) (fun c19 => ?_)
  ·replace hz13:=Zq c19 hz13
   refine Zek ⟨73,[],[(0,.ref i0 0)]⟩ (Zu ((((O.upd j0_0 none).upd j0_1 none).upd j0_2 none).upd i0 (some ⟨false,98,4,1,[.row (n+2) z6.1.length,.val (.int .i64 a0.kept),.sl z6.2.length (fl Za z6.2),.sl a0.come.length (fl Za a0.come)]⟩)) n [none,none,some ⟨true,53,14,z6.1.length,fl Zc z6.1⟩,none,none]) (Ya hU rfl rfl ?_) ?_
   ·exact Ve hi0 hk0
   obtain ⟨l16,pl16,ql16,el16,hz13⟩:=bA (k:=1) rfl hz13
   obtain ⟨x17,hx17,ax17,bx17,cx17,hz13⟩:=bE (f:=Zc) Zdh (fun _=>rfl) (by decide) hz13
   have gu18:U1 (fl Zc z6.1++[.val (.int .i64 0),.val (.int .i64 0),.val (.slice none 0 0),.val (.int .i64 0),.val (.int .i64 0),.val (.slice none 0 0),.val (.slice none 0 0),.val (.int .i64 0),.val (.slice none 0 0),.val (.slice none 0 0),.val (.slice none 0 0),.val (.slice none 0 0),.val (.int .i64 0),.val (.slice none 0 0)]) [.val (.int .i64 2),.val (.int .i64 0),.sl a0.come.length (fl Za a0.come),.val (.int .i64 0),.val (.int .i64 0),.val (.slice none 0 0),.val (.slice none 0 0),.val (.int .i64 0),.val (.slice none 0 0),.val (.slice none 0 0),.val (.slice none 0 0),.val (.slice none 0 0),.val (.int .i64 0),.val (.slice none 0 0)] (List.length z6.1 * 14)=some (fl Zc z6.1++[.val (.int .i64 2),.val (.int .i64 0),.sl a0.come.length (fl Za a0.come),.val (.int .i64 0),.val (.int .i64 0),.val (.slice none 0 0),.val (.slice none 0 0),.val (.int .i64 0),.val (.slice none 0 0),.val (.slice none 0 0),.val (.slice none 0 0),.val (.slice none 0 0),.val (.int .i64 0),.val (.slice none 0 0)]):=Zc7 (f:=Zc) (sz:=14) (fun _=>rfl) rfl rfl
   refine K6 Zz (by kernel_rfl) [.plain,.low,.low,.low,.plain,.low,.low,.low,.plain,.low,.pass,.bar,.shp,.fill true,.shp,.shp,.fill false] (fun i=>i < (n+5)) [0,1,2,3,4,5,6,7,8,9,10,11,12,13,14,15,16] [.plain,.low,.low,.low,.plain,.low,.low,.low,.plain,.low,.pass,.bar,.shp,.fill true,.shp,.shp,.fill false] [] (by kernel_rfl) rfl ?_
   refine zF9 pl16 ql16 el16 ax17 bx17 cx17 gu18 hi0 hk0 ?_
   refine zO ?_
   have hz13:=Option.some.inj hz13;subst hz13
   refine And.intro rfl (Fit2.of (Ya hU rfl rfl ?_) (by omega))
   exact Z5j pl16 ql16 el16 ax17 bx17 cx17 gu18 hi0 hk0
  replace hz13:=Zp c19 hz13
  refine zK ?_
  have hz13:=Option.some.inj hz13;subst hz13
  refine And.intro rfl (Fit2.of (Ya hU rfl rfl ?_) (by omega))
  exact Ve hi0 hk0
 refine Zbb [] hi0 hk0 ?_
 have h:=Option.some.inj h;subst h
 refine Vk (k:=3) (i:=i0) (q1:=⟨false,98,4,1,[.row (n+2) z13.1.length,.val (.int .i64 0),.row n ([]:List S_api_Tree).length,.row (n+1) ([]:List S_api_Tree).length]⟩) (L3:=[some ⟨true,25,3,([]:List S_api_Tree).length,fl Za ([]:List S_api_Tree)⟩,some ⟨true,25,3,([]:List S_api_Tree).length,fl Za ([]:List S_api_Tree)⟩,some ⟨true,53,14,z13.1.length,fl Zc z13.1⟩,none]) (E2:=(⟨73,[],[]⟩:Env)) (n3:=(n+4)) (.inl rfl) hU rfl [] ?_ ?_
 ·refine Fit2.trans (E':=(⟨73,[],[]⟩:Env)) (O':=(Zu ((((O.upd j0_0 none).upd j0_1 none).upd j0_2 none).upd i0 (some ⟨false,98,4,1,[.row (n+2) z13.1.length,.val (.int .i64 0),.val (.slice none 0 0),.val (.slice none 0 0)]⟩)) n [none,none,some ⟨true,53,14,z13.1.length,fl Zc z13.1⟩,none,none,none])) (n':=(n+6)) (Fit2.of (Ya hU rfl rfl ?_) (by omega)) ?_
  ·exact Ve hi0 hk0
  refine Fit2.trans (Zav (p:=i0) (k:=2) (q:=⟨false,98,4,1,[.row (n+2) z13.1.length,.val (.int .i64 0),.val (.slice none 0 0),.val (.slice none 0 0)]⟩) 25 3 (by simp only [Uy,Zan,List.getElem?_cons_zero,List.getElem?_cons_succ,Option.join_some,List.length_nil,Yb,Yl,hi0,hk0,hN0,hN]) rfl (by omega)) ?_
  simp only [Y2,Yk,Us,K8,List.set_cons_zero,List.set_cons_succ,List.cons_append,List.nil_append,List.length_cons,List.length_nil,Nat.zero_add,Nat.reduceAdd,Nat.reduceLT,Nat.add_assoc,Yp,X5,hi0,hk0,hN0,hN]
  refine Fit2.trans (Zav (p:=i0) (k:=3) (q:=⟨false,98,4,1,[.row (n+2) z13.1.length,.val (.int .i64 0),.row (n+6) ([]:List S_api_Tree).length,.val (.slice none 0 0)]⟩) 25 3 (by simp only [Uy,Zan,List.getElem?_cons_zero,List.getElem?_cons_succ,Option.join_some,List.length_nil,Yb,Yl,hi0,hk0,hN0,hN]) rfl (by omega)) ?_
  simp only [Y2,Yk,Us,K8,List.set_cons_zero,List.set_cons_succ,List.cons_append,List.nil_append,List.length_cons,List.length_nil,Nat.zero_add,Nat.reduceAdd,Nat.reduceLT,Nat.add_assoc,Yp,X5,hi0,hk0,hN0,hN]
  refine Qq (k:=8) (k':=4) hU [3,3,2,3,3,3,0,1] [6,7,2,0] rfl rfl rfl rfl ⟨rfl,rfl⟩ ?_
  exact Ve hi0 hk0
 simp only [push_cast,seval,↓reduceIte,Zk,Try.results88,hi0,hk0,hN0,hN]
theorem Ziy {a0:Zs} {a1:Int} {r:Zs} {O:Objs} {n:Nat} {i0 j0_0 j0_1 j0_2:Nat} (hi0:i0 < n) (Za9:j0_0 < n) (Zjy:j0_1 < n) (Znp:j0_2 < n) (V5:i0≠j0_0) (Zbn:i0≠j0_1) (Zdp:i0≠j0_2) (Zbm:j0_0≠j0_1) (Zdn:j0_0≠j0_2) (Zdo:j0_1≠j0_2) (ho0:O i0=some ⟨false,98,4,1,[.row j0_2 a0.out.length,.val (.int .i64 a0.kept),.row j0_0 a0.gone.length,.row j0_1 a0.come.length]⟩) (Zbo:O j0_0=some ⟨true,25,3,a0.gone.length,fl Za a0.gone⟩) (Zmg:O j0_1=some ⟨true,25,3,a0.come.length,fl Za a0.come⟩) (Zp8:O j0_2=some ⟨true,53,14,a0.out.length,fl Zc a0.out⟩) (h:Uj a0 a1=some r):GTo Try.prog 85 [.ref i0 0,.val (.int .i64 a1)] O n (.tup []) (Zu ((((O.upd j0_0 none).upd j0_1 none).upd j0_2 none).upd i0 (some ⟨false,98,4,1,[.row (n+2) r.out.length,.val (.int .i64 r.kept),.row n r.gone.length,.row (n+1) r.come.length]⟩)) n [some ⟨true,25,3,r.gone.length,fl Za r.gone⟩,some ⟨true,25,3,r.come.length,fl Za r.come⟩,some ⟨true,53,14,r.out.length,fl Zc r.out⟩]) (n+3):=by
 unfold Uj at h
 refine Zqs Zz Try.call85 Try.func85 rfl (Nat.le_of_ble_eq_true rfl) (by omega) fun hU => ?_
 have e0:=Un (ba:=n) (E:=⟨19,[],Zf7 0 [.ref i0 0,.val (.int .i64 a1)]⟩) (O:=(Zu O n [])) (n:=n) (i:=i0) (j:=j0_0) (k:=2) (len:=a0.gone.length) (q:=⟨false,98,4,1,[.row j0_2 a0.out.length,.val (.int .i64 a0.kept),.row j0_0 a0.gone.length,.row j0_1 a0.come.length]⟩) (qj:=⟨true,25,3,a0.gone.length,fl Za a0.gone⟩) (by rw [Yl _ hi0];first | exact ho0 | exact Yb _ _ _) rfl (by rw [Yl _ Za9];exact Zbo) V5 (by omega)
 simp only [Yp _ _ Za9,Yp _ _ hi0,Y2,Yk,X5,Zcx V5,List.set_cons_zero,List.set_cons_succ,List.cons_append,List.nil_append,List.length_cons,List.length_nil,Nat.zero_add,Nat.reduceAdd,Nat.add_assoc] at e0
 refine Vn e0 ?_
 have e1:=Un (ba:=n) (E:=⟨19,[],Zf7 0 [.ref i0 0,.val (.int .i64 a1)]⟩) (O:=(Zu ((O.upd j0_0 none).upd i0 (some ⟨false,98,4,1,[.row j0_2 a0.out.length,.val (.int .i64 a0.kept),.row n a0.gone.length,.row j0_1 a0.come.length]⟩)) n [some ⟨true,25,3,a0.gone.length,fl Za a0.gone⟩])) (n:=(n+1)) (i:=i0) (j:=j0_1) (k:=3) (len:=a0.come.length) (q:=⟨false,98,4,1,[.row j0_2 a0.out.length,.val (.int .i64 a0.kept),.row n a0.gone.length,.row j0_1 a0.come.length]⟩) (qj:=⟨true,25,3,a0.come.length,fl Za a0.come⟩) (by rw [Yl _ hi0];first | exact ho0 | exact Yb _ _ _) rfl (by rw [Yl _ Zjy,Xd _ _ (Ne.symm Zbn),Xd _ _ (Ne.symm Zbm)];exact Zmg) Zbn (by omega)
 simp only [Yp _ _ Zjy,Yp _ _ hi0,Y2,Yk,X5,Zcx Zbn,List.set_cons_zero,List.set_cons_succ,List.cons_append,List.nil_append,List.length_cons,List.length_nil,Nat.zero_add,Nat.reduceAdd,Nat.add_assoc] at e1
 refine Vn e1 ?_
 have e2:=Un (ba:=n) (E:=⟨19,[],Zf7 0 [.ref i0 0,.val (.int .i64 a1)]⟩) (O:=(Zu (((O.upd j0_0 none).upd j0_1 none).upd i0 (some ⟨false,98,4,1,[.row j0_2 a0.out.length,.val (.int .i64 a0.kept),.row n a0.gone.length,.row (n+1) a0.come.length]⟩)) n [some ⟨true,25,3,a0.gone.length,fl Za a0.gone⟩,some ⟨true,25,3,a0.come.length,fl Za a0.come⟩])) (n:=(n+2)) (i:=i0) (j:=j0_2) (k:=0) (len:=a0.out.length) (q:=⟨false,98,4,1,[.row j0_2 a0.out.length,.val (.int .i64 a0.kept),.row n a0.gone.length,.row (n+1) a0.come.length]⟩) (qj:=⟨true,53,14,a0.out.length,fl Zc a0.out⟩) (by rw [Yl _ hi0];first | exact ho0 | exact Yb _ _ _) rfl (by rw [Yl _ Znp,Xd _ _ (Ne.symm Zdp),Xd _ _ (Ne.symm Zdo),Xd _ _ (Ne.symm Zdn)];exact Zp8) Zdp (by omega)
 simp only [Yp _ _ Znp,Yp _ _ hi0,Y2,Yk,X5,Zcx Zdp,List.set_cons_zero,List.set_cons_succ,List.cons_append,List.nil_append,List.length_cons,List.length_nil,Nat.zero_add,Nat.reduceAdd,Nat.add_assoc] at e2
 refine Vn e2 ?_
 have hU:=(Und.drop (Und.drop (Und.drop hU j0_0) j0_1) j0_2)
 have hk0:∀ k,i0 < n+k:=fun k=>by omega
 have hN0:∀ o,Objs.upd (((O.upd j0_0 none).upd j0_1 none).upd j0_2 none) i0 o n=none:=fun o=>Kf hU hi0 _ (Nat.le_refl _)
 have hN:∀ o k,Objs.upd (((O.upd j0_0 none).upd j0_1 none).upd j0_2 none) i0 o (n+k)=none:=fun o k=>Kf hU hi0 _ (Nat.le_add_right _ _)
 show W _ _ _ _ ⟨19,[],[(0,.ref i0 0),(1,.val (.int .i64 a1))]⟩ (Zu ((((O.upd j0_0 none).upd j0_1 none).upd j0_2 none).upd i0 (some ⟨false,98,4,1,[.row (n+2) a0.out.length,.val (.int .i64 a0.kept),.row n a0.gone.length,.row (n+1) a0.come.length]⟩)) n [some ⟨true,25,3,a0.gone.length,fl Za a0.gone⟩,some ⟨true,25,3,a0.come.length,fl Za a0.come⟩,some ⟨true,53,14,a0.out.length,fl Zc a0.out⟩]) _
 obtain ⟨z1,hz1,h⟩:=bC h
 refine Xt (E':=⟨19,[],[(0,.ref i0 0),(1,.val (.int .i64 a1))]⟩) (O':=(Zu ((((O.upd j0_0 none).upd j0_1 none).upd j0_2 none).upd i0 (some ⟨false,98,4,1,[.row (n+6) z1.1.length,.val (.int .i64 z1.2.2.2),.row (n+7) z1.2.1.length,.row (n+8) z1.2.2.1.length]⟩)) n [none,none,none,none,none,none,some ⟨true,53,14,z1.1.length,fl Zc z1.1⟩,some ⟨true,25,3,z1.2.1.length,fl Za z1.2.1⟩,some ⟨true,25,3,z1.2.2.1.length,fl Za z1.2.2.1⟩])) (n0:=(n+9)) ?_ ?_
 ·refine Zdv [0,1,8] hi0 hk0 ?_
  refine Zn (t:=(a0.kept == 0)) rfl (fun c3 => ?_) (fun c3 => ?_)
  ·replace hz1:=Zq c3 hz1
   obtain ⟨y2,hy2,hz1⟩:=bC hz1
   refine Zbb [] hi0 hk0 ?_
   refine (Zaf (i0:=i0) (j0_0:=n) (j0_1:=(n+1)) (j0_2:=(n+2)) (by omega) (by omega) (by omega) (by omega) (by omega) (by omega) (by omega) (by omega) (by omega) (by omega) (by simp only [push_cast,seval,↓reduceIte,Zk,Y8,hi0,hk0,hN0,hN] <;> rfl) (by simp only [push_cast,seval,↓reduceIte,Zk,Y8,hi0,hk0,hN0,hN] <;> rfl) (by simp only [push_cast,seval,↓reduceIte,Zk,Y8,hi0,hk0,hN0,hN] <;> rfl) (by simp only [push_cast,seval,↓reduceIte,Zk,Y8,hi0,hk0,hN0,hN] <;> rfl) hy2).then ?_
   refine zX2 hi0 hk0 ?_
   have hz1:=Option.some.inj hz1;subst hz1
   refine And.intro rfl ?_
   refine Fit2.trans (E':=(⟨19,[],[(0,.ref i0 0),(1,.val (.int .i64 a1))]⟩:Env)) (O':=(Zu ((((O.upd j0_0 none).upd j0_1 none).upd j0_2 none).upd i0 (some ⟨false,98,4,1,[.row (n+5) y2.out.length,.val (.int .i64 y2.kept),.row (n+3) y2.gone.length,.row (n+4) y2.come.length]⟩)) n [none,none,none,some ⟨true,25,3,y2.gone.length,fl Za y2.gone⟩,some ⟨true,25,3,y2.come.length,fl Za y2.come⟩,some ⟨true,53,14,y2.out.length,fl Zc y2.out⟩])) (n':=(n+6)) (Fit2.of (Ya hU rfl rfl ?_) (by omega)) ?_
   ·exact Ve hi0 hk0
   refine Qq (k:=6) (k':=9) hU [5,5,5,7,8,6] [0,0,0,0,0,0,5,3,4] rfl rfl rfl rfl ⟨rfl,rfl⟩ ?_
   exact Ve hi0 hk0
  replace hz1:=Zp c3 hz1
  refine zK ?_
  have hz1:=Option.some.inj hz1;subst hz1
  refine And.intro rfl ?_
  refine Fit2.trans (E':=(⟨19,[],[(0,.ref i0 0),(1,.val (.int .i64 a1))]⟩:Env)) (O':=(Zu ((((O.upd j0_0 none).upd j0_1 none).upd j0_2 none).upd i0 (some ⟨false,98,4,1,[.row (n+2) a0.out.length,.val (.int .i64 a0.kept),.row n a0.gone.length,.row (n+1) a0.come.length]⟩)) n [some ⟨true,25,3,a0.gone.length,fl Za a0.gone⟩,some ⟨true,25,3,a0.come.length,fl Za a0.come⟩,some ⟨true,53,14,a0.out.length,fl Zc a0.out⟩])) (n':=(n+3)) (Fit2.of (Ya hU rfl rfl ?_) (by omega)) ?_
  ·exact Ve hi0 hk0
  refine Qq (k:=3) (k':=9) hU [7,8,6] [0,0,0,0,0,0,2,0,1] rfl rfl rfl rfl ⟨rfl,rfl⟩ ?_
  exact Ve hi0 hk0
 refine Zbb [] hi0 hk0 ?_
 have h:=Option.some.inj h;subst h
 refine Vk (k:=3) (i:=i0) (q1:=⟨false,98,4,1,[.row (n+2) z1.1.length,.val (.int .i64 (IntKind.i64.wrap (z1.2.2.2+a1))),.row n z1.2.1.length,.row (n+1) z1.2.2.1.length]⟩) (L3:=[some ⟨true,25,3,z1.2.1.length,fl Za z1.2.1⟩,some ⟨true,25,3,z1.2.2.1.length,fl Za z1.2.2.1⟩,some ⟨true,53,14,z1.1.length,fl Zc z1.1⟩,none]) (E2:=(⟨19,[],[]⟩:Env)) (n3:=(n+4)) (.inl rfl) hU rfl [] ?_ ?_
 ·refine Fit2.trans (E':=(⟨19,[],[]⟩:Env)) (O':=(Zu ((((O.upd j0_0 none).upd j0_1 none).upd j0_2 none).upd i0 (some ⟨false,98,4,1,[.row (n+6) z1.1.length,.val (.int .i64 (IntKind.i64.wrap (z1.2.2.2+a1))),.row (n+7) z1.2.1.length,.row (n+8) z1.2.2.1.length]⟩)) n [none,none,none,none,none,none,some ⟨true,53,14,z1.1.length,fl Zc z1.1⟩,some ⟨true,25,3,z1.2.1.length,fl Za z1.2.1⟩,some ⟨true,25,3,z1.2.2.1.length,fl Za z1.2.2.1⟩])) (n':=(n+9)) (Fit2.of (Ya hU rfl rfl ?_) (by omega)) ?_
  ·exact Ve hi0 hk0
  refine Qq (k:=9) (k':=4) hU [3,3,3,3,3,3,2,0,1] [7,8,6,0] rfl rfl rfl rfl ⟨rfl,rfl⟩ ?_
  exact Ve hi0 hk0
 simp only [push_cast,seval,↓reduceIte,Zk,Try.results85,hi0,hk0,hN0,hN]
theorem Zm7 {a0:Zs} {a2:(List S_api_Tree)} {r:Zs} {O:Objs} {n:Nat} {i0 j0_0 j0_1 j0_2:Nat} (hi0:i0 < n) (Za9:j0_0 < n) (Zjy:j0_1 < n) (Znp:j0_2 < n) (V5:i0≠j0_0) (Zbn:i0≠j0_1) (Zdp:i0≠j0_2) (Zbm:j0_0≠j0_1) (Zdn:j0_0≠j0_2) (Zdo:j0_1≠j0_2) (ho0:O i0=some ⟨false,98,4,1,[.row j0_2 a0.out.length,.val (.int .i64 a0.kept),.row j0_0 a0.gone.length,.row j0_1 a0.come.length]⟩) (Zbo:O j0_0=some ⟨true,25,3,a0.gone.length,fl Za a0.gone⟩) (Zmg:O j0_1=some ⟨true,25,3,a0.come.length,fl Za a0.come⟩) (Zp8:O j0_2=some ⟨true,53,14,a0.out.length,fl Zc a0.out⟩) (h:V6 a0 a2=some r):GTo Try.prog 86 [.ref i0 0,.ref i0 2,.sl a2.length (fl Za a2)] O n (.tup []) (Zu ((((O.upd j0_0 none).upd j0_1 none).upd j0_2 none).upd i0 (some ⟨false,98,4,1,[.row (n+2) r.out.length,.val (.int .i64 r.kept),.row n r.gone.length,.row (n+1) r.come.length]⟩)) n [some ⟨true,25,3,r.gone.length,fl Za r.gone⟩,some ⟨true,25,3,r.come.length,fl Za r.come⟩,some ⟨true,53,14,r.out.length,fl Zc r.out⟩]) (n+3):=by
 unfold V6 at h
 refine Zqs Zz Try.call86 Try.func86 rfl (Nat.le_of_ble_eq_true rfl) (by omega) fun hU => ?_
 have e0:=Un (ba:=n) (E:=⟨32,[],Zf7 0 [.ref i0 0,.ref i0 2,.sl a2.length (fl Za a2)]⟩) (O:=(Zu O n [])) (n:=n) (i:=i0) (j:=j0_0) (k:=2) (len:=a0.gone.length) (q:=⟨false,98,4,1,[.row j0_2 a0.out.length,.val (.int .i64 a0.kept),.row j0_0 a0.gone.length,.row j0_1 a0.come.length]⟩) (qj:=⟨true,25,3,a0.gone.length,fl Za a0.gone⟩) (by rw [Yl _ hi0];first | exact ho0 | exact Yb _ _ _) rfl (by rw [Yl _ Za9];exact Zbo) V5 (by omega)
 simp only [Yp _ _ Za9,Yp _ _ hi0,Y2,Yk,X5,Zcx V5,List.set_cons_zero,List.set_cons_succ,List.cons_append,List.nil_append,List.length_cons,List.length_nil,Nat.zero_add,Nat.reduceAdd,Nat.add_assoc] at e0
 refine Vn e0 ?_
 have e1:=Un (ba:=n) (E:=⟨32,[],Zf7 0 [.ref i0 0,.ref i0 2,.sl a2.length (fl Za a2)]⟩) (O:=(Zu ((O.upd j0_0 none).upd i0 (some ⟨false,98,4,1,[.row j0_2 a0.out.length,.val (.int .i64 a0.kept),.row n a0.gone.length,.row j0_1 a0.come.length]⟩)) n [some ⟨true,25,3,a0.gone.length,fl Za a0.gone⟩])) (n:=(n+1)) (i:=i0) (j:=j0_1) (k:=3) (len:=a0.come.length) (q:=⟨false,98,4,1,[.row j0_2 a0.out.length,.val (.int .i64 a0.kept),.row n a0.gone.length,.row j0_1 a0.come.length]⟩) (qj:=⟨true,25,3,a0.come.length,fl Za a0.come⟩) (by rw [Yl _ hi0];first | exact ho0 | exact Yb _ _ _) rfl (by rw [Yl _ Zjy,Xd _ _ (Ne.symm Zbn),Xd _ _ (Ne.symm Zbm)];exact Zmg) Zbn (by omega)
 simp only [Yp _ _ Zjy,Yp _ _ hi0,Y2,Yk,X5,Zcx Zbn,List.set_cons_zero,List.set_cons_succ,List.cons_append,List.nil_append,List.length_cons,List.length_nil,Nat.zero_add,Nat.reduceAdd,Nat.add_assoc] at e1
 refine Vn e1 ?_
 have e2:=Un (ba:=n) (E:=⟨32,[],Zf7 0 [.ref i0 0,.ref i0 2,.sl a2.length (fl Za a2)]⟩) (O:=(Zu (((O.upd j0_0 none).upd j0_1 none).upd i0 (some ⟨false,98,4,1,[.row j0_2 a0.out.length,.val (.int .i64 a0.kept),.row n a0.gone.length,.row (n+1) a0.come.length]⟩)) n [some ⟨true,25,3,a0.gone.length,fl Za a0.gone⟩,some ⟨true,25,3,a0.come.length,fl Za a0.come⟩])) (n:=(n+2)) (i:=i0) (j:=j0_2) (k:=0) (len:=a0.out.length) (q:=⟨false,98,4,1,[.row j0_2 a0.out.length,.val (.int .i64 a0.kept),.row n a0.gone.length,.row (n+1) a0.come.length]⟩) (qj:=⟨true,53,14,a0.out.length,fl Zc a0.out⟩) (by rw [Yl _ hi0];first | exact ho0 | exact Yb _ _ _) rfl (by rw [Yl _ Znp,Xd _ _ (Ne.symm Zdp),Xd _ _ (Ne.symm Zdo),Xd _ _ (Ne.symm Zdn)];exact Zp8) Zdp (by omega)
 simp only [Yp _ _ Znp,Yp _ _ hi0,Y2,Yk,X5,Zcx Zdp,List.set_cons_zero,List.set_cons_succ,List.cons_append,List.nil_append,List.length_cons,List.length_nil,Nat.zero_add,Nat.reduceAdd,Nat.add_assoc] at e2
 refine Vn e2 ?_
 have hU:=(Und.drop (Und.drop (Und.drop hU j0_0) j0_1) j0_2)
 have hk0:∀ k,i0 < n+k:=fun k=>by omega
 have hN0:∀ o,Objs.upd (((O.upd j0_0 none).upd j0_1 none).upd j0_2 none) i0 o n=none:=fun o=>Kf hU hi0 _ (Nat.le_refl _)
 have hN:∀ o k,Objs.upd (((O.upd j0_0 none).upd j0_1 none).upd j0_2 none) i0 o (n+k)=none:=fun o k=>Kf hU hi0 _ (Nat.le_add_right _ _)
 show W _ _ _ _ ⟨32,[],[(0,.ref i0 0),(1,.ref i0 2),(2,.sl a2.length (fl Za a2))]⟩ (Zu ((((O.upd j0_0 none).upd j0_1 none).upd j0_2 none).upd i0 (some ⟨false,98,4,1,[.row (n+2) a0.out.length,.val (.int .i64 a0.kept),.row n a0.gone.length,.row (n+1) a0.come.length]⟩)) n [some ⟨true,25,3,a0.gone.length,fl Za a0.gone⟩,some ⟨true,25,3,a0.come.length,fl Za a0.come⟩,some ⟨true,53,14,a0.out.length,fl Zc a0.out⟩]) _
 obtain ⟨z1,hz1,h⟩:=bC h
 refine Xt (E':=⟨32,[],[(1,.ref i0 2),(2,.sl a2.length (fl Za a2))]⟩) (O':=(Zu ((((O.upd j0_0 none).upd j0_1 none).upd j0_2 none).upd i0 (some ⟨false,98,4,1,[.row (n+6) z1.1.length,.val (.int .i64 z1.2.2.2),.row (n+7) z1.2.1.length,.row (n+8) z1.2.2.1.length]⟩)) n [none,none,none,none,none,none,some ⟨true,53,14,z1.1.length,fl Zc z1.1⟩,some ⟨true,25,3,z1.2.1.length,fl Za z1.2.1⟩,some ⟨true,25,3,z1.2.2.1.length,fl Za z1.2.2.1⟩])) (n0:=(n+9)) ?_ ?_
 ·refine Zdv [0,1,2,12] hi0 hk0 ?_
  refine Zn (t:=(decide (0 < a0.kept))) rfl (fun c3 => ?_) (fun c3 => ?_)
  ·replace hz1:=Zq c3 hz1
   obtain ⟨y2,hy2,hz1⟩:=bC hz1
   refine Zbb [] hi0 hk0 ?_
   refine (Zaf (i0:=i0) (j0_0:=n) (j0_1:=(n+1)) (j0_2:=(n+2)) (by omega) (by omega) (by omega) (by omega) (by omega) (by omega) (by omega) (by omega) (by omega) (by omega) (by simp only [push_cast,seval,↓reduceIte,Zk,Y8,hi0,hk0,hN0,hN] <;> rfl) (by simp only [push_cast,seval,↓reduceIte,Zk,Y8,hi0,hk0,hN0,hN] <;> rfl) (by simp only [push_cast,seval,↓reduceIte,Zk,Y8,hi0,hk0,hN0,hN] <;> rfl) (by simp only [push_cast,seval,↓reduceIte,Zk,Y8,hi0,hk0,hN0,hN] <;> rfl) hy2).then ?_
   refine zX2 hi0 hk0 ?_
   have hz1:=Option.some.inj hz1;subst hz1
   refine And.intro rfl ?_
   refine Fit2.trans (E':=(⟨32,[],[(1,.ref i0 2),(2,.sl a2.length (fl Za a2))]⟩:Env)) (O':=(Zu ((((O.upd j0_0 none).upd j0_1 none).upd j0_2 none).upd i0 (some ⟨false,98,4,1,[.row (n+5) y2.out.length,.val (.int .i64 y2.kept),.row (n+3) y2.gone.length,.row (n+4) y2.come.length]⟩)) n [none,none,none,some ⟨true,25,3,y2.gone.length,fl Za y2.gone⟩,some ⟨true,25,3,y2.come.length,fl Za y2.come⟩,some ⟨true,53,14,y2.out.length,fl Zc y2.out⟩])) (n':=(n+6)) (Fit2.of (Ya hU rfl rfl ?_) (by omega)) ?_
   ·exact Ve hi0 hk0
   refine Qq (k:=6) (k':=9) hU [5,5,5,7,8,6] [0,0,0,0,0,0,5,3,4] rfl rfl rfl rfl ⟨rfl,rfl⟩ ?_
   exact Ve hi0 hk0
  replace hz1:=Zp c3 hz1
  refine zK ?_
  have hz1:=Option.some.inj hz1;subst hz1
  refine And.intro rfl ?_
  refine Fit2.trans (E':=(⟨32,[],[(1,.ref i0 2),(2,.sl a2.length (fl Za a2))]⟩:Env)) (O':=(Zu ((((O.upd j0_0 none).upd j0_1 none).upd j0_2 none).upd i0 (some ⟨false,98,4,1,[.row (n+2) a0.out.length,.val (.int .i64 a0.kept),.row n a0.gone.length,.row (n+1) a0.come.length]⟩)) n [some ⟨true,25,3,a0.gone.length,fl Za a0.gone⟩,some ⟨true,25,3,a0.come.length,fl Za a0.come⟩,some ⟨true,53,14,a0.out.length,fl Zc a0.out⟩])) (n':=(n+3)) (Fit2.of (Ya hU rfl rfl ?_) (by omega)) ?_
  ·exact Ve hi0 hk0
  refine Qq (k:=3) (k':=9) hU [7,8,6] [0,0,0,0,0,0,2,0,1] rfl rfl rfl rfl ⟨rfl,rfl⟩ ?_
  exact Ve hi0 hk0
 refine Zdv [1,15,16,17] hi0 hk0 ?_
 refine zD [1,15,16,17] [false,false,false,false,false,false,true,true,true] ?_
 obtain ⟨z11,hz11,h⟩:=bC h
 refine Y9 (E':=⟨32,[],[]⟩) (O':=(Zu ((((O.upd j0_0 none).upd j0_1 none).upd j0_2 none).upd i0 (some ⟨false,98,4,1,[.row (n+6) z1.1.length,.val (.int .i64 z1.2.2.2),.row (n+7) z11.length,.row (n+8) z1.2.2.1.length]⟩)) n [none,none,none,none,none,none,some ⟨true,53,14,z1.1.length,fl Zc z1.1⟩,some ⟨true,25,3,z11.length,fl Za z11⟩,some ⟨true,25,3,z1.2.2.1.length,fl Za z1.2.2.1⟩])) (n0:=(n+9)) ?_ ?_
 ·refine Xr hz11 (fun s0_=>⟨32,[],[(1,.ref i0 2),(15,.sl a2.length (fl Za a2)),(16,.val (.int .i64 (a2.length:Int))),(17,.val (.int .i64 s0_.1))]⟩) (fun s0_=>(Zu ((((O.upd j0_0 none).upd j0_1 none).upd j0_2 none).upd i0 (some ⟨false,98,4,1,[.row (n+6) z1.1.length,.val (.int .i64 z1.2.2.2),.row (n+7) s0_.2.length,.row (n+8) z1.2.2.1.length]⟩)) n [none,none,none,none,none,none,some ⟨true,53,14,z1.1.length,fl Zc z1.1⟩,some ⟨true,25,3,s0_.2.length,fl Za s0_.2⟩,some ⟨true,25,3,z1.2.2.1.length,fl Za z1.2.2.1⟩])) (fun z11=>JX 0 n (⟨32,[],[]⟩:Env) (Zu ((((O.upd j0_0 none).upd j0_1 none).upd j0_2 none).upd i0 (some ⟨false,98,4,1,[.row (n+6) z1.1.length,.val (.int .i64 z1.2.2.2),.row (n+7) z11.length,.row (n+8) z1.2.2.1.length]⟩)) n [none,none,none,none,none,none,some ⟨true,53,14,z1.1.length,fl Zc z1.1⟩,some ⟨true,25,3,z11.length,fl Za z11⟩,some ⟨true,25,3,z1.2.2.1.length,fl Za z1.2.2.1⟩]) (n+9)) ?_
  intro s0_ x0_ hs0_
  unfold K1 at hs0_
  try dsimp only
  refine Zdv [1,15,16,17,18] hi0 hk0 ?_
  refine Zj ?_
  refine Zn (t:=(decide (s0_.1 < (a2.length:Int)))) rfl (fun c10 => ?_) (fun c10 => ?_)
  ·replace hs0_:=Zq c10 hs0_
   refine zKd [1,15,16,17] [false,false,false,false,false,false,true,true,true] ?_
   refine Zj ?_
   refine Yy ?_
   refine Zj ?_
   obtain ⟨x5,hx5,ax5,bx5,cx5,hs0_⟩:=bE (f:=Za) Gr (fun _=>rfl) (by decide) hs0_
   refine Z8a [] ax5 bx5 cx5 hi0 hk0 ?_
   refine zD [1,7,15,16,17] [false,false,false,false,false,false,true,true,true,true] ?_
   obtain ⟨y6,hy6,hs0_⟩:=bC hs0_
   obtain ⟨l7,pl7,ql7,el7,hs0_⟩:=bA (k:=1) rfl hs0_
   obtain ⟨x8,hx8,ax8,bx8,cx8,hs0_⟩:=bE (f:=Za) Gr (fun _=>rfl) (by decide) hs0_
   have gu9:U1 (fl Za s0_.2++[.val (.int .i64 0),.val (.slice none 0 0),.val (.slice none 0 0)]) [.val (.int .i64 y6.Kind),.sl y6.Words.length (fl (eI .u64) y6.Words),.sl y6.Kids.length (fl Za y6.Kids)] (List.length s0_.2 * 3)=some (fl Za s0_.2++[.val (.int .i64 y6.Kind),.sl y6.Words.length (fl (eI .u64) y6.Words),.sl y6.Kids.length (fl Za y6.Kids)]):=Zc7 (f:=Za) (sz:=3) (fun _=>rfl) rfl rfl
   refine K6 Zz (by kernel_rfl) [.plain,.low,.low,.low,.low,.low,.pass,.bar,.shp,.fill true,.shp,.fill false] (fun i=>i < (n+10)) [0,1,2,3,4,5,6,7,8,9,10,11] [.plain,.low,.low,.low,.low,.low,.pass,.bar,.shp,.fill true,.shp,.fill false] [] (by kernel_rfl) rfl ?_
   refine zF9 pl7 ql7 el7 ax8 bx8 cx8 gu9 hi0 hk0 ?_
   refine zO ?_
   first | refine PCallA.of (fun _ _=>Zdt hy6) ?_ | refine PCall.of (Zdt hy6) ?_
   refine zF9 pl7 ql7 el7 ax8 bx8 cx8 gu9 hi0 hk0 ?_
   refine zO ?_
   refine Zek ⟨32,[],[(1,.ref i0 2),(15,.sl a2.length (fl Za a2)),(16,.val (.int .i64 (a2.length:Int))),(17,.val (.int .i64 s0_.1))]⟩ (Zu ((((O.upd j0_0 none).upd j0_1 none).upd j0_2 none).upd i0 (some ⟨false,98,4,1,[.row (n+6) z1.1.length,.val (.int .i64 z1.2.2.2),.row (n+7) (s0_.2++[y6]).length,.row (n+8) z1.2.2.1.length]⟩)) n [none,none,none,none,none,none,some ⟨true,53,14,z1.1.length,fl Zc z1.1⟩,some ⟨true,25,3,(s0_.2++[y6]).length,fl Za (s0_.2++[y6])⟩,some ⟨true,25,3,z1.2.2.1.length,fl Za z1.2.2.1⟩,none,none]) (Ya hU rfl rfl ?_) ?_
   ·exact Z5j pl7 ql7 el7 ax8 bx8 cx8 gu9 hi0 hk0
   refine Zbb [] hi0 hk0 ?_
   have hs0_:=Option.some.inj hs0_;subst hs0_
   refine And.intro rfl (Fit2.of (Ya hU rfl rfl ?_) (by omega))
   exact Ve hi0 hk0
  replace hs0_:=Zp c10 hs0_
  refine zXt ?_
  have hs0_:=Option.some.inj hs0_;subst hs0_
  refine And.intro (fun h=>by cases h) (And.intro rfl (Fit2.of (Ya hU rfl rfl ?_) (by omega)))
  exact Ve hi0 hk0
 try simp only [Xf,Yn,↓reduceIte,Nat.reduceEqDiff]
 have h:=Option.some.inj h;subst h
 refine Vk (k:=3) (i:=i0) (q1:=⟨false,98,4,1,[.row (n+2) z1.1.length,.val (.int .i64 z1.2.2.2),.row n z11.length,.row (n+1) z1.2.2.1.length]⟩) (L3:=[some ⟨true,25,3,z11.length,fl Za z11⟩,some ⟨true,25,3,z1.2.2.1.length,fl Za z1.2.2.1⟩,some ⟨true,53,14,z1.1.length,fl Zc z1.1⟩,none]) (E2:=(⟨32,[],[]⟩:Env)) (n3:=(n+4)) (.inl rfl) hU rfl [] ?_ ?_
 ·refine Fit2.trans (E':=(⟨32,[],[]⟩:Env)) (O':=(Zu ((((O.upd j0_0 none).upd j0_1 none).upd j0_2 none).upd i0 (some ⟨false,98,4,1,[.row (n+6) z1.1.length,.val (.int .i64 z1.2.2.2),.row (n+7) z11.length,.row (n+8) z1.2.2.1.length]⟩)) n [none,none,none,none,none,none,some ⟨true,53,14,z1.1.length,fl Zc z1.1⟩,some ⟨true,25,3,z11.length,fl Za z11⟩,some ⟨true,25,3,z1.2.2.1.length,fl Za z1.2.2.1⟩])) (n':=(n+9)) (Fit2.of (Ya hU rfl rfl ?_) (by omega)) ?_
  ·exact Ve hi0 hk0
  refine Qq (k:=9) (k':=4) hU [3,3,3,3,3,3,2,0,1] [7,8,6,0] rfl rfl rfl rfl ⟨rfl,rfl⟩ ?_
  exact Ve hi0 hk0
 simp only [push_cast,seval,↓reduceIte,Zk,Try.results86,hi0,hk0,hN0,hN]
theorem Zm8 {a0:Zs} {a2:(List S_api_Tree)} {r:Zs} {O:Objs} {n:Nat} {i0 j0_0 j0_1 j0_2:Nat} (hi0:i0 < n) (Za9:j0_0 < n) (Zjy:j0_1 < n) (Znp:j0_2 < n) (V5:i0≠j0_0) (Zbn:i0≠j0_1) (Zdp:i0≠j0_2) (Zbm:j0_0≠j0_1) (Zdn:j0_0≠j0_2) (Zdo:j0_1≠j0_2) (ho0:O i0=some ⟨false,98,4,1,[.row j0_2 a0.out.length,.val (.int .i64 a0.kept),.row j0_0 a0.gone.length,.row j0_1 a0.come.length]⟩) (Zbo:O j0_0=some ⟨true,25,3,a0.gone.length,fl Za a0.gone⟩) (Zmg:O j0_1=some ⟨true,25,3,a0.come.length,fl Za a0.come⟩) (Zp8:O j0_2=some ⟨true,53,14,a0.out.length,fl Zc a0.out⟩) (h:V7 a0 a2=some r):GTo Try.prog 86 [.ref i0 0,.ref i0 3,.sl a2.length (fl Za a2)] O n (.tup []) (Zu ((((O.upd j0_0 none).upd j0_1 none).upd j0_2 none).upd i0 (some ⟨false,98,4,1,[.row (n+2) r.out.length,.val (.int .i64 r.kept),.row n r.gone.length,.row (n+1) r.come.length]⟩)) n [some ⟨true,25,3,r.gone.length,fl Za r.gone⟩,some ⟨true,25,3,r.come.length,fl Za r.come⟩,some ⟨true,53,14,r.out.length,fl Zc r.out⟩]) (n+3):=by
 unfold V7 at h
 refine Zqs Zz Try.call86 Try.func86 rfl (Nat.le_of_ble_eq_true rfl) (by omega) fun hU => ?_
 have e0:=Un (ba:=n) (E:=⟨32,[],Zf7 0 [.ref i0 0,.ref i0 3,.sl a2.length (fl Za a2)]⟩) (O:=(Zu O n [])) (n:=n) (i:=i0) (j:=j0_0) (k:=2) (len:=a0.gone.length) (q:=⟨false,98,4,1,[.row j0_2 a0.out.length,.val (.int .i64 a0.kept),.row j0_0 a0.gone.length,.row j0_1 a0.come.length]⟩) (qj:=⟨true,25,3,a0.gone.length,fl Za a0.gone⟩) (by rw [Yl _ hi0];first | exact ho0 | exact Yb _ _ _) rfl (by rw [Yl _ Za9];exact Zbo) V5 (by omega)
 simp only [Yp _ _ Za9,Yp _ _ hi0,Y2,Yk,X5,Zcx V5,List.set_cons_zero,List.set_cons_succ,List.cons_append,List.nil_append,List.length_cons,List.length_nil,Nat.zero_add,Nat.reduceAdd,Nat.add_assoc] at e0
 refine Vn e0 ?_
 have e1:=Un (ba:=n) (E:=⟨32,[],Zf7 0 [.ref i0 0,.ref i0 3,.sl a2.length (fl Za a2)]⟩) (O:=(Zu ((O.upd j0_0 none).upd i0 (some ⟨false,98,4,1,[.row j0_2 a0.out.length,.val (.int .i64 a0.kept),.row n a0.gone.length,.row j0_1 a0.come.length]⟩)) n [some ⟨true,25,3,a0.gone.length,fl Za a0.gone⟩])) (n:=(n+1)) (i:=i0) (j:=j0_1) (k:=3) (len:=a0.come.length) (q:=⟨false,98,4,1,[.row j0_2 a0.out.length,.val (.int .i64 a0.kept),.row n a0.gone.length,.row j0_1 a0.come.length]⟩) (qj:=⟨true,25,3,a0.come.length,fl Za a0.come⟩) (by rw [Yl _ hi0];first | exact ho0 | exact Yb _ _ _) rfl (by rw [Yl _ Zjy,Xd _ _ (Ne.symm Zbn),Xd _ _ (Ne.symm Zbm)];exact Zmg) Zbn (by omega)
 simp only [Yp _ _ Zjy,Yp _ _ hi0,Y2,Yk,X5,Zcx Zbn,List.set_cons_zero,List.set_cons_succ,List.cons_append,List.nil_append,List.length_cons,List.length_nil,Nat.zero_add,Nat.reduceAdd,Nat.add_assoc] at e1
 refine Vn e1 ?_
 have e2:=Un (ba:=n) (E:=⟨32,[],Zf7 0 [.ref i0 0,.ref i0 3,.sl a2.length (fl Za a2)]⟩) (O:=(Zu (((O.upd j0_0 none).upd j0_1 none).upd i0 (some ⟨false,98,4,1,[.row j0_2 a0.out.length,.val (.int .i64 a0.kept),.row n a0.gone.length,.row (n+1) a0.come.length]⟩)) n [some ⟨true,25,3,a0.gone.length,fl Za a0.gone⟩,some ⟨true,25,3,a0.come.length,fl Za a0.come⟩])) (n:=(n+2)) (i:=i0) (j:=j0_2) (k:=0) (len:=a0.out.length) (q:=⟨false,98,4,1,[.row j0_2 a0.out.length,.val (.int .i64 a0.kept),.row n a0.gone.length,.row (n+1) a0.come.length]⟩) (qj:=⟨true,53,14,a0.out.length,fl Zc a0.out⟩) (by rw [Yl _ hi0];first | exact ho0 | exact Yb _ _ _) rfl (by rw [Yl _ Znp,Xd _ _ (Ne.symm Zdp),Xd _ _ (Ne.symm Zdo),Xd _ _ (Ne.symm Zdn)];exact Zp8) Zdp (by omega)
 simp only [Yp _ _ Znp,Yp _ _ hi0,Y2,Yk,X5,Zcx Zdp,List.set_cons_zero,List.set_cons_succ,List.cons_append,List.nil_append,List.length_cons,List.length_nil,Nat.zero_add,Nat.reduceAdd,Nat.add_assoc] at e2
 refine Vn e2 ?_
 have hU:=(Und.drop (Und.drop (Und.drop hU j0_0) j0_1) j0_2)
 have hk0:∀ k,i0 < n+k:=fun k=>by omega
 have hN0:∀ o,Objs.upd (((O.upd j0_0 none).upd j0_1 none).upd j0_2 none) i0 o n=none:=fun o=>Kf hU hi0 _ (Nat.le_refl _)
 have hN:∀ o k,Objs.upd (((O.upd j0_0 none).upd j0_1 none).upd j0_2 none) i0 o (n+k)=none:=fun o k=>Kf hU hi0 _ (Nat.le_add_right _ _)
 show W _ _ _ _ ⟨32,[],[(0,.ref i0 0),(1,.ref i0 3),(2,.sl a2.length (fl Za a2))]⟩ (Zu ((((O.upd j0_0 none).upd j0_1 none).upd j0_2 none).upd i0 (some ⟨false,98,4,1,[.row (n+2) a0.out.length,.val (.int .i64 a0.kept),.row n a0.gone.length,.row (n+1) a0.come.length]⟩)) n [some ⟨true,25,3,a0.gone.length,fl Za a0.gone⟩,some ⟨true,25,3,a0.come.length,fl Za a0.come⟩,some ⟨true,53,14,a0.out.length,fl Zc a0.out⟩]) _
 obtain ⟨z1,hz1,h⟩:=bC h
 refine Xt (E':=⟨32,[],[(1,.ref i0 3),(2,.sl a2.length (fl Za a2))]⟩) (O':=(Zu ((((O.upd j0_0 none).upd j0_1 none).upd j0_2 none).upd i0 (some ⟨false,98,4,1,[.row (n+6) z1.1.length,.val (.int .i64 z1.2.2.2),.row (n+7) z1.2.1.length,.row (n+8) z1.2.2.1.length]⟩)) n [none,none,none,none,none,none,some ⟨true,53,14,z1.1.length,fl Zc z1.1⟩,some ⟨true,25,3,z1.2.1.length,fl Za z1.2.1⟩,some ⟨true,25,3,z1.2.2.1.length,fl Za z1.2.2.1⟩])) (n0:=(n+9)) ?_ ?_
 ·refine Zdv [0,1,2,12] hi0 hk0 ?_
  refine Zn (t:=(decide (0 < a0.kept))) rfl (fun c3 => ?_) (fun c3 => ?_)
  ·replace hz1:=Zq c3 hz1
   obtain ⟨y2,hy2,hz1⟩:=bC hz1
   refine Zbb [] hi0 hk0 ?_
   refine (Zaf (i0:=i0) (j0_0:=n) (j0_1:=(n+1)) (j0_2:=(n+2)) (by omega) (by omega) (by omega) (by omega) (by omega) (by omega) (by omega) (by omega) (by omega) (by omega) (by simp only [push_cast,seval,↓reduceIte,Zk,Y8,hi0,hk0,hN0,hN] <;> rfl) (by simp only [push_cast,seval,↓reduceIte,Zk,Y8,hi0,hk0,hN0,hN] <;> rfl) (by simp only [push_cast,seval,↓reduceIte,Zk,Y8,hi0,hk0,hN0,hN] <;> rfl) (by simp only [push_cast,seval,↓reduceIte,Zk,Y8,hi0,hk0,hN0,hN] <;> rfl) hy2).then ?_
   refine zX2 hi0 hk0 ?_
   have hz1:=Option.some.inj hz1;subst hz1
   refine And.intro rfl ?_
   refine Fit2.trans (E':=(⟨32,[],[(1,.ref i0 3),(2,.sl a2.length (fl Za a2))]⟩:Env)) (O':=(Zu ((((O.upd j0_0 none).upd j0_1 none).upd j0_2 none).upd i0 (some ⟨false,98,4,1,[.row (n+5) y2.out.length,.val (.int .i64 y2.kept),.row (n+3) y2.gone.length,.row (n+4) y2.come.length]⟩)) n [none,none,none,some ⟨true,25,3,y2.gone.length,fl Za y2.gone⟩,some ⟨true,25,3,y2.come.length,fl Za y2.come⟩,some ⟨true,53,14,y2.out.length,fl Zc y2.out⟩])) (n':=(n+6)) (Fit2.of (Ya hU rfl rfl ?_) (by omega)) ?_
   ·exact Ve hi0 hk0
   refine Qq (k:=6) (k':=9) hU [5,5,5,7,8,6] [0,0,0,0,0,0,5,3,4] rfl rfl rfl rfl ⟨rfl,rfl⟩ ?_
   exact Ve hi0 hk0
  replace hz1:=Zp c3 hz1
  refine zK ?_
  have hz1:=Option.some.inj hz1;subst hz1
  refine And.intro rfl ?_
  refine Fit2.trans (E':=(⟨32,[],[(1,.ref i0 3),(2,.sl a2.length (fl Za a2))]⟩:Env)) (O':=(Zu ((((O.upd j0_0 none).upd j0_1 none).upd j0_2 none).upd i0 (some ⟨false,98,4,1,[.row (n+2) a0.out.length,.val (.int .i64 a0.kept),.row n a0.gone.length,.row (n+1) a0.come.length]⟩)) n [some ⟨true,25,3,a0.gone.length,fl Za a0.gone⟩,some ⟨true,25,3,a0.come.length,fl Za a0.come⟩,some ⟨true,53,14,a0.out.length,fl Zc a0.out⟩])) (n':=(n+3)) (Fit2.of (Ya hU rfl rfl ?_) (by omega)) ?_
  ·exact Ve hi0 hk0
  refine Qq (k:=3) (k':=9) hU [7,8,6] [0,0,0,0,0,0,2,0,1] rfl rfl rfl rfl ⟨rfl,rfl⟩ ?_
  exact Ve hi0 hk0
 refine Zdv [1,15,16,17] hi0 hk0 ?_
 refine zD [1,15,16,17] [false,false,false,false,false,false,true,true,true] ?_
 obtain ⟨z11,hz11,h⟩:=bC h
 refine Y9 (E':=⟨32,[],[]⟩) (O':=(Zu ((((O.upd j0_0 none).upd j0_1 none).upd j0_2 none).upd i0 (some ⟨false,98,4,1,[.row (n+6) z1.1.length,.val (.int .i64 z1.2.2.2),.row (n+7) z1.2.1.length,.row (n+8) z11.length]⟩)) n [none,none,none,none,none,none,some ⟨true,53,14,z1.1.length,fl Zc z1.1⟩,some ⟨true,25,3,z1.2.1.length,fl Za z1.2.1⟩,some ⟨true,25,3,z11.length,fl Za z11⟩])) (n0:=(n+9)) ?_ ?_
 ·refine Xr hz11 (fun s0_=>⟨32,[],[(1,.ref i0 3),(15,.sl a2.length (fl Za a2)),(16,.val (.int .i64 (a2.length:Int))),(17,.val (.int .i64 s0_.1))]⟩) (fun s0_=>(Zu ((((O.upd j0_0 none).upd j0_1 none).upd j0_2 none).upd i0 (some ⟨false,98,4,1,[.row (n+6) z1.1.length,.val (.int .i64 z1.2.2.2),.row (n+7) z1.2.1.length,.row (n+8) s0_.2.length]⟩)) n [none,none,none,none,none,none,some ⟨true,53,14,z1.1.length,fl Zc z1.1⟩,some ⟨true,25,3,z1.2.1.length,fl Za z1.2.1⟩,some ⟨true,25,3,s0_.2.length,fl Za s0_.2⟩])) (fun z11=>JX 0 n (⟨32,[],[]⟩:Env) (Zu ((((O.upd j0_0 none).upd j0_1 none).upd j0_2 none).upd i0 (some ⟨false,98,4,1,[.row (n+6) z1.1.length,.val (.int .i64 z1.2.2.2),.row (n+7) z1.2.1.length,.row (n+8) z11.length]⟩)) n [none,none,none,none,none,none,some ⟨true,53,14,z1.1.length,fl Zc z1.1⟩,some ⟨true,25,3,z1.2.1.length,fl Za z1.2.1⟩,some ⟨true,25,3,z11.length,fl Za z11⟩]) (n+9)) ?_
  intro s0_ x0_ hs0_
  unfold K2 at hs0_
  try dsimp only
  refine Zdv [1,15,16,17,18] hi0 hk0 ?_
  refine Zj ?_
  refine Zn (t:=(decide (s0_.1 < (a2.length:Int)))) rfl (fun c10 => ?_) (fun c10 => ?_)
  ·replace hs0_:=Zq c10 hs0_
   refine zKd [1,15,16,17] [false,false,false,false,false,false,true,true,true] ?_
   refine Zj ?_
   refine Yy ?_
   refine Zj ?_
   obtain ⟨x5,hx5,ax5,bx5,cx5,hs0_⟩:=bE (f:=Za) Gr (fun _=>rfl) (by decide) hs0_
   refine Z8a [] ax5 bx5 cx5 hi0 hk0 ?_
   refine zD [1,7,15,16,17] [false,false,false,false,false,false,true,true,true,true] ?_
   obtain ⟨y6,hy6,hs0_⟩:=bC hs0_
   obtain ⟨l7,pl7,ql7,el7,hs0_⟩:=bA (k:=1) rfl hs0_
   obtain ⟨x8,hx8,ax8,bx8,cx8,hs0_⟩:=bE (f:=Za) Gr (fun _=>rfl) (by decide) hs0_
   have gu9:U1 (fl Za s0_.2++[.val (.int .i64 0),.val (.slice none 0 0),.val (.slice none 0 0)]) [.val (.int .i64 y6.Kind),.sl y6.Words.length (fl (eI .u64) y6.Words),.sl y6.Kids.length (fl Za y6.Kids)] (List.length s0_.2 * 3)=some (fl Za s0_.2++[.val (.int .i64 y6.Kind),.sl y6.Words.length (fl (eI .u64) y6.Words),.sl y6.Kids.length (fl Za y6.Kids)]):=Zc7 (f:=Za) (sz:=3) (fun _=>rfl) rfl rfl
   refine K6 Zz (by kernel_rfl) [.plain,.low,.low,.low,.low,.low,.pass,.bar,.shp,.fill true,.shp,.fill false] (fun i=>i < (n+10)) [0,1,2,3,4,5,6,7,8,9,10,11] [.plain,.low,.low,.low,.low,.low,.pass,.bar,.shp,.fill true,.shp,.fill false] [] (by kernel_rfl) rfl ?_
   refine zF9 pl7 ql7 el7 ax8 bx8 cx8 gu9 hi0 hk0 ?_
   refine zO ?_
   first | refine PCallA.of (fun _ _=>Zdt hy6) ?_ | refine PCall.of (Zdt hy6) ?_
   refine zF9 pl7 ql7 el7 ax8 bx8 cx8 gu9 hi0 hk0 ?_
   refine zO ?_
   refine Zek ⟨32,[],[(1,.ref i0 3),(15,.sl a2.length (fl Za a2)),(16,.val (.int .i64 (a2.length:Int))),(17,.val (.int .i64 s0_.1))]⟩ (Zu ((((O.upd j0_0 none).upd j0_1 none).upd j0_2 none).upd i0 (some ⟨false,98,4,1,[.row (n+6) z1.1.length,.val (.int .i64 z1.2.2.2),.row (n+7) z1.2.1.length,.row (n+8) (s0_.2++[y6]).length]⟩)) n [none,none,none,none,none,none,some ⟨true,53,14,z1.1.length,fl Zc z1.1⟩,some ⟨true,25,3,z1.2.1.length,fl Za z1.2.1⟩,some ⟨true,25,3,(s0_.2++[y6]).length,fl Za (s0_.2++[y6])⟩,none,none]) (Ya hU rfl rfl ?_) ?_
   ·exact Z5j pl7 ql7 el7 ax8 bx8 cx8 gu9 hi0 hk0
   refine Zbb [] hi0 hk0 ?_
   have hs0_:=Option.some.inj hs0_;subst hs0_
   refine And.intro rfl (Fit2.of (Ya hU rfl rfl ?_) (by omega))
   exact Ve hi0 hk0
  replace hs0_:=Zp c10 hs0_
  refine zXt ?_
  have hs0_:=Option.some.inj hs0_;subst hs0_
  refine And.intro (fun h=>by cases h) (And.intro rfl (Fit2.of (Ya hU rfl rfl ?_) (by omega)))
  exact Ve hi0 hk0
 try simp only [Xf,Yn,↓reduceIte,Nat.reduceEqDiff]
 have h:=Option.some.inj h;subst h
 refine Vk (k:=3) (i:=i0) (q1:=⟨false,98,4,1,[.row (n+2) z1.1.length,.val (.int .i64 z1.2.2.2),.row n z1.2.1.length,.row (n+1) z11.length]⟩) (L3:=[some ⟨true,25,3,z1.2.1.length,fl Za z1.2.1⟩,some ⟨true,25,3,z11.length,fl Za z11⟩,some ⟨true,53,14,z1.1.length,fl Zc z1.1⟩,none]) (E2:=(⟨32,[],[]⟩:Env)) (n3:=(n+4)) (.inl rfl) hU rfl [] ?_ ?_
 ·refine Fit2.trans (E':=(⟨32,[],[]⟩:Env)) (O':=(Zu ((((O.upd j0_0 none).upd j0_1 none).upd j0_2 none).upd i0 (some ⟨false,98,4,1,[.row (n+6) z1.1.length,.val (.int .i64 z1.2.2.2),.row (n+7) z1.2.1.length,.row (n+8) z11.length]⟩)) n [none,none,none,none,none,none,some ⟨true,53,14,z1.1.length,fl Zc z1.1⟩,some ⟨true,25,3,z1.2.1.length,fl Za z1.2.1⟩,some ⟨true,25,3,z11.length,fl Za z11⟩])) (n':=(n+9)) (Fit2.of (Ya hU rfl rfl ?_) (by omega)) ?_
  ·exact Ve hi0 hk0
  refine Qq (k:=9) (k':=4) hU [3,3,3,3,3,3,2,0,1] [7,8,6,0] rfl rfl rfl rfl ⟨rfl,rfl⟩ ?_
  exact Ve hi0 hk0
 simp only [push_cast,seval,↓reduceIte,Zk,Try.results86,hi0,hk0,hN0,hN]
theorem Z0e {a0:Int} {a1:S_api_Edit} {r:Bool} {O:Objs} {n:Nat} (h:Zgl a0 a1=some r):GTo Try.prog 119 [.val (.int .i64 a0),.agg (Ze a1)] O n (.val (.bool r)) O n:=by
 unfold Zgl at h
 refine zFn Try.call119 Try.func119 fun hU hN0 hN => ?_
 show W _ _ _ _ ⟨27,[],[(0,.val (.int .i64 a0)),(1,.agg (Ze a1))]⟩ (Zu O n []) _
 refine zQ [0,3] ?_
 refine zQD [4] [none,none,none,none,none,none,none,none,none,none,none,none,none,none,none,none,none] ?_
 exact Xe [.val (.bool (cond (a1.Kind == 0) true (cond (cond (a0 == 9) (a1.Kind == 2) false) ((IntKind.i64.wrap ((a1.Words.length:Int)+(a1.Kids.length:Int))) == 0) false)))]
theorem Zpf {a0:Zs} {a1:Int} {a2:S_api_Edit} {r:Zs} {O:Objs} {n:Nat} {i0 j0_0 j0_1 j0_2:Nat} (hi0:i0 < n) (Za9:j0_0 < n) (Zjy:j0_1 < n) (Znp:j0_2 < n) (V5:i0≠j0_0) (Zbn:i0≠j0_1) (Zdp:i0≠j0_2) (Zbm:j0_0≠j0_1) (Zdn:j0_0≠j0_2) (Zdo:j0_1≠j0_2) (ho0:O i0=some ⟨false,98,4,1,[.row j0_2 a0.out.length,.val (.int .i64 a0.kept),.row j0_0 a0.gone.length,.row j0_1 a0.come.length]⟩) (Zbo:O j0_0=some ⟨true,25,3,a0.gone.length,fl Za a0.gone⟩) (Zmg:O j0_1=some ⟨true,25,3,a0.come.length,fl Za a0.come⟩) (Zp8:O j0_2=some ⟨true,53,14,a0.out.length,fl Zc a0.out⟩) (h:Ui a0 a1 a2=some r):GTo Try.prog 87 [.ref i0 0,.val (.int .i64 a1),.agg (Ze a2)] O n (.tup []) (Zu ((((O.upd j0_0 none).upd j0_1 none).upd j0_2 none).upd i0 (some ⟨false,98,4,1,[.row (n+2) r.out.length,.val (.int .i64 r.kept),.row n r.gone.length,.row (n+1) r.come.length]⟩)) n [some ⟨true,25,3,r.gone.length,fl Za r.gone⟩,some ⟨true,25,3,r.come.length,fl Za r.come⟩,some ⟨true,53,14,r.out.length,fl Zc r.out⟩]) (n+3):=by
 unfold Ui at h
 refine Zqs Zz Try.call87 Try.func87 rfl (Nat.le_of_ble_eq_true rfl) (by omega) fun hU => ?_
 have e0:=Un (ba:=n) (E:=⟨25,[],Zf7 0 [.ref i0 0,.val (.int .i64 a1),.agg [.val (.int .i64 a2.Kind),.val (.int .i64 a2.Old.Kind),.sl a2.Old.Words.length (fl (eI .u64) a2.Old.Words),.sl a2.Old.Kids.length (fl Za a2.Old.Kids),.val (.int .i64 a2.New.Kind),.sl a2.New.Words.length (fl (eI .u64) a2.New.Words),.sl a2.New.Kids.length (fl Za a2.New.Kids),.sl a2.Words.length (fl Zb a2.Words),.sl a2.Kids.length (fl Zd a2.Kids),.val (.int .i64 a2.List_),.sl a2.Ops.length (fl Zc a2.Ops)]]⟩) (O:=(Zu O n [])) (n:=n) (i:=i0) (j:=j0_0) (k:=2) (len:=a0.gone.length) (q:=⟨false,98,4,1,[.row j0_2 a0.out.length,.val (.int .i64 a0.kept),.row j0_0 a0.gone.length,.row j0_1 a0.come.length]⟩) (qj:=⟨true,25,3,a0.gone.length,fl Za a0.gone⟩) (by rw [Yl _ hi0];first | exact ho0 | exact Yb _ _ _) rfl (by rw [Yl _ Za9];exact Zbo) V5 (by omega)
 simp only [Yp _ _ Za9,Yp _ _ hi0,Y2,Yk,X5,Zcx V5,List.set_cons_zero,List.set_cons_succ,List.cons_append,List.nil_append,List.length_cons,List.length_nil,Nat.zero_add,Nat.reduceAdd,Nat.add_assoc] at e0
 refine Vn e0 ?_
 have e1:=Un (ba:=n) (E:=⟨25,[],Zf7 0 [.ref i0 0,.val (.int .i64 a1),.agg [.val (.int .i64 a2.Kind),.val (.int .i64 a2.Old.Kind),.sl a2.Old.Words.length (fl (eI .u64) a2.Old.Words),.sl a2.Old.Kids.length (fl Za a2.Old.Kids),.val (.int .i64 a2.New.Kind),.sl a2.New.Words.length (fl (eI .u64) a2.New.Words),.sl a2.New.Kids.length (fl Za a2.New.Kids),.sl a2.Words.length (fl Zb a2.Words),.sl a2.Kids.length (fl Zd a2.Kids),.val (.int .i64 a2.List_),.sl a2.Ops.length (fl Zc a2.Ops)]]⟩) (O:=(Zu ((O.upd j0_0 none).upd i0 (some ⟨false,98,4,1,[.row j0_2 a0.out.length,.val (.int .i64 a0.kept),.row n a0.gone.length,.row j0_1 a0.come.length]⟩)) n [some ⟨true,25,3,a0.gone.length,fl Za a0.gone⟩])) (n:=(n+1)) (i:=i0) (j:=j0_1) (k:=3) (len:=a0.come.length) (q:=⟨false,98,4,1,[.row j0_2 a0.out.length,.val (.int .i64 a0.kept),.row n a0.gone.length,.row j0_1 a0.come.length]⟩) (qj:=⟨true,25,3,a0.come.length,fl Za a0.come⟩) (by rw [Yl _ hi0];first | exact ho0 | exact Yb _ _ _) rfl (by rw [Yl _ Zjy,Xd _ _ (Ne.symm Zbn),Xd _ _ (Ne.symm Zbm)];exact Zmg) Zbn (by omega)
 simp only [Yp _ _ Zjy,Yp _ _ hi0,Y2,Yk,X5,Zcx Zbn,List.set_cons_zero,List.set_cons_succ,List.cons_append,List.nil_append,List.length_cons,List.length_nil,Nat.zero_add,Nat.reduceAdd,Nat.add_assoc] at e1
 refine Vn e1 ?_
 have e2:=Un (ba:=n) (E:=⟨25,[],Zf7 0 [.ref i0 0,.val (.int .i64 a1),.agg [.val (.int .i64 a2.Kind),.val (.int .i64 a2.Old.Kind),.sl a2.Old.Words.length (fl (eI .u64) a2.Old.Words),.sl a2.Old.Kids.length (fl Za a2.Old.Kids),.val (.int .i64 a2.New.Kind),.sl a2.New.Words.length (fl (eI .u64) a2.New.Words),.sl a2.New.Kids.length (fl Za a2.New.Kids),.sl a2.Words.length (fl Zb a2.Words),.sl a2.Kids.length (fl Zd a2.Kids),.val (.int .i64 a2.List_),.sl a2.Ops.length (fl Zc a2.Ops)]]⟩) (O:=(Zu (((O.upd j0_0 none).upd j0_1 none).upd i0 (some ⟨false,98,4,1,[.row j0_2 a0.out.length,.val (.int .i64 a0.kept),.row n a0.gone.length,.row (n+1) a0.come.length]⟩)) n [some ⟨true,25,3,a0.gone.length,fl Za a0.gone⟩,some ⟨true,25,3,a0.come.length,fl Za a0.come⟩])) (n:=(n+2)) (i:=i0) (j:=j0_2) (k:=0) (len:=a0.out.length) (q:=⟨false,98,4,1,[.row j0_2 a0.out.length,.val (.int .i64 a0.kept),.row n a0.gone.length,.row (n+1) a0.come.length]⟩) (qj:=⟨true,53,14,a0.out.length,fl Zc a0.out⟩) (by rw [Yl _ hi0];first | exact ho0 | exact Yb _ _ _) rfl (by rw [Yl _ Znp,Xd _ _ (Ne.symm Zdp),Xd _ _ (Ne.symm Zdo),Xd _ _ (Ne.symm Zdn)];exact Zp8) Zdp (by omega)
 simp only [Yp _ _ Znp,Yp _ _ hi0,Y2,Yk,X5,Zcx Zdp,List.set_cons_zero,List.set_cons_succ,List.cons_append,List.nil_append,List.length_cons,List.length_nil,Nat.zero_add,Nat.reduceAdd,Nat.add_assoc] at e2
 refine Vn e2 ?_
 have hU:=(Und.drop (Und.drop (Und.drop hU j0_0) j0_1) j0_2)
 have hk0:∀ k,i0 < n+k:=fun k=>by omega
 have hN0:∀ o,Objs.upd (((O.upd j0_0 none).upd j0_1 none).upd j0_2 none) i0 o n=none:=fun o=>Kf hU hi0 _ (Nat.le_refl _)
 have hN:∀ o k,Objs.upd (((O.upd j0_0 none).upd j0_1 none).upd j0_2 none) i0 o (n+k)=none:=fun o k=>Kf hU hi0 _ (Nat.le_add_right _ _)
 show W _ _ _ _ ⟨25,[],[(0,.ref i0 0),(1,.val (.int .i64 a1)),(2,.agg (Ze a2))]⟩ (Zu ((((O.upd j0_0 none).upd j0_1 none).upd j0_2 none).upd i0 (some ⟨false,98,4,1,[.row (n+2) a0.out.length,.val (.int .i64 a0.kept),.row n a0.gone.length,.row (n+1) a0.come.length]⟩)) n [some ⟨true,25,3,a0.gone.length,fl Za a0.gone⟩,some ⟨true,25,3,a0.come.length,fl Za a0.come⟩,some ⟨true,53,14,a0.out.length,fl Zc a0.out⟩]) _
 refine Zdv [0,1,5] hi0 hk0 ?_
 refine Zj ?_
 refine Zj ?_
 obtain ⟨y2,hy2,h⟩:=bC h
 refine Zbb [] hi0 hk0 ?_
 refine (Z0e hy2).then ?_
 refine zX2 hi0 hk0 ?_
 refine zD [0,5,8] [true,true,true,true] ?_
 refine Zn (t:=y2) rfl (fun c10 => ?_) (fun c10 => ?_)
 ·replace h:=Zq c10 h
  refine Zj ?_
  obtain ⟨y4,hy4,h⟩:=bC h
  refine Zbb [] hi0 hk0 ?_
  refine (Ziy (i0:=i0) (j0_0:=n) (j0_1:=(n+1)) (j0_2:=(n+2)) (by omega) (by omega) (by omega) (by omega) (by omega) (by omega) (by omega) (by omega) (by omega) (by omega) (by simp only [push_cast,seval,↓reduceIte,Zk,Y8,hi0,hk0,hN0,hN] <;> rfl) (by simp only [push_cast,seval,↓reduceIte,Zk,Y8,hi0,hk0,hN0,hN] <;> rfl) (by simp only [push_cast,seval,↓reduceIte,Zk,Y8,hi0,hk0,hN0,hN] <;> rfl) (by simp only [push_cast,seval,↓reduceIte,Zk,Y8,hi0,hk0,hN0,hN] <;> rfl) hy4).then ?_
  refine zX2 hi0 hk0 ?_
  refine zD [] [false,false,false,false,true,true,true] ?_
  refine zW ?_
  have h:=Option.some.inj h;subst h
  refine Vk (k:=3) (i:=i0) (q1:=⟨false,98,4,1,[.row (n+2) y4.out.length,.val (.int .i64 y4.kept),.row n y4.gone.length,.row (n+1) y4.come.length]⟩) (L3:=[some ⟨true,25,3,y4.gone.length,fl Za y4.gone⟩,some ⟨true,25,3,y4.come.length,fl Za y4.come⟩,some ⟨true,53,14,y4.out.length,fl Zc y4.out⟩,none]) (E2:=(⟨25,[],[]⟩:Env)) (n3:=(n+4)) (.inr rfl) hU rfl [] ?_ ?_
  ·refine Fit2.trans (E':=(⟨25,[],[]⟩:Env)) (O':=(Zu ((((O.upd j0_0 none).upd j0_1 none).upd j0_2 none).upd i0 (some ⟨false,98,4,1,[.row (n+6) y4.out.length,.val (.int .i64 y4.kept),.row (n+4) y4.gone.length,.row (n+5) y4.come.length]⟩)) n [none,none,none,none,some ⟨true,25,3,y4.gone.length,fl Za y4.gone⟩,some ⟨true,25,3,y4.come.length,fl Za y4.come⟩,some ⟨true,53,14,y4.out.length,fl Zc y4.out⟩])) (n':=(n+7)) (Fit2.of (Ya hU rfl rfl ?_) (by omega)) ?_
   ·exact Ve hi0 hk0
   refine Qq (k:=7) (k':=4) hU [3,3,3,3,0,1,2] [4,5,6,0] rfl rfl rfl rfl ⟨rfl,rfl⟩ ?_
   exact Ve hi0 hk0
  simp only [push_cast,seval,↓reduceIte,Zk,Try.results87,hi0,hk0,hN0,hN]
 replace h:=Zp c10 h
 refine zKd [0,5] [true,true,true,true] ?_
 refine Zj ?_
 obtain ⟨y6,hy6,h⟩:=bC h
 refine Zbb [] hi0 hk0 ?_
 refine (Zaf (i0:=i0) (j0_0:=n) (j0_1:=(n+1)) (j0_2:=(n+2)) (by omega) (by omega) (by omega) (by omega) (by omega) (by omega) (by omega) (by omega) (by omega) (by omega) (by simp only [push_cast,seval,↓reduceIte,Zk,Y8,hi0,hk0,hN0,hN] <;> rfl) (by simp only [push_cast,seval,↓reduceIte,Zk,Y8,hi0,hk0,hN0,hN] <;> rfl) (by simp only [push_cast,seval,↓reduceIte,Zk,Y8,hi0,hk0,hN0,hN] <;> rfl) (by simp only [push_cast,seval,↓reduceIte,Zk,Y8,hi0,hk0,hN0,hN] <;> rfl) hy6).then ?_
 refine zX2 hi0 hk0 ?_
 refine zD [0,5] [false,false,false,true,true,true,true] ?_
 obtain ⟨l7,pl7,ql7,el7,h⟩:=bA (k:=1) rfl h
 obtain ⟨x8,hx8,ax8,bx8,cx8,h⟩:=bE (f:=Zc) Zdh (fun _=>rfl) (by decide) h
 have gu9:U1 (fl Zc y6.out++[.val (.int .i64 0),.val (.int .i64 0),.val (.slice none 0 0),.val (.int .i64 0),.val (.int .i64 0),.val (.slice none 0 0),.val (.slice none 0 0),.val (.int .i64 0),.val (.slice none 0 0),.val (.slice none 0 0),.val (.slice none 0 0),.val (.slice none 0 0),.val (.int .i64 0),.val (.slice none 0 0)]) [.val (.int .i64 3),.val (.int .i64 0),.val (.slice none 0 0),.val (.int .i64 a2.Kind),.val (.int .i64 a2.Old.Kind),.sl a2.Old.Words.length (fl (eI .u64) a2.Old.Words),.sl a2.Old.Kids.length (fl Za a2.Old.Kids),.val (.int .i64 a2.New.Kind),.sl a2.New.Words.length (fl (eI .u64) a2.New.Words),.sl a2.New.Kids.length (fl Za a2.New.Kids),.sl a2.Words.length (fl Zb a2.Words),.sl a2.Kids.length (fl Zd a2.Kids),.val (.int .i64 a2.List_),.sl a2.Ops.length (fl Zc a2.Ops)] (List.length y6.out * 14)=some (fl Zc y6.out++[.val (.int .i64 3),.val (.int .i64 0),.val (.slice none 0 0),.val (.int .i64 a2.Kind),.val (.int .i64 a2.Old.Kind),.sl a2.Old.Words.length (fl (eI .u64) a2.Old.Words),.sl a2.Old.Kids.length (fl Za a2.Old.Kids),.val (.int .i64 a2.New.Kind),.sl a2.New.Words.length (fl (eI .u64) a2.New.Words),.sl a2.New.Kids.length (fl Za a2.New.Kids),.sl a2.Words.length (fl Zb a2.Words),.sl a2.Kids.length (fl Zd a2.Kids),.val (.int .i64 a2.List_),.sl a2.Ops.length (fl Zc a2.Ops)]):=Zc7 (f:=Zc) (sz:=14) (fun _=>rfl) rfl rfl
 refine K6 Zz (by kernel_rfl) [.plain,.low,.low,.low,.low,.plain,.low,.pass,.bar,.shp,.fill true,.shp,.shp,.fill false] (fun i=>i < (n+7)) [0,1,2,3,4,5,6,7,8,9,10,11,12,13] [.plain,.low,.low,.low,.low,.plain,.low,.pass,.bar,.shp,.fill true,.shp,.shp,.fill false] [] (by kernel_rfl) rfl ?_
 refine zF9 pl7 ql7 el7 ax8 bx8 cx8 gu9 hi0 hk0 ?_
 refine zO ?_
 have h:=Option.some.inj h;subst h
 refine Vk (k:=3) (i:=i0) (q1:=⟨false,98,4,1,[.row (n+2) (y6.out++[(⟨3,0,([]:(List S_api_Tree)),a2⟩:S_api_Op)]).length,.val (.int .i64 y6.kept),.row n y6.gone.length,.row (n+1) y6.come.length]⟩) (L3:=[some ⟨true,25,3,y6.gone.length,fl Za y6.gone⟩,some ⟨true,25,3,y6.come.length,fl Za y6.come⟩,some ⟨true,53,14,(y6.out++[(⟨3,0,([]:(List S_api_Tree)),a2⟩:S_api_Op)]).length,fl Zc (y6.out++[(⟨3,0,([]:(List S_api_Tree)),a2⟩:S_api_Op)])⟩,none]) (E2:=(⟨25,[],[]⟩:Env)) (n3:=(n+4)) (.inl rfl) hU rfl [] ?_ ?_
 ·refine Fit2.trans (E':=(⟨25,[],[]⟩:Env)) (O':=(Zu ((((O.upd j0_0 none).upd j0_1 none).upd j0_2 none).upd i0 (some ⟨false,98,4,1,[.row (n+6) (y6.out++[(⟨3,0,([]:(List S_api_Tree)),a2⟩:S_api_Op)]).length,.val (.int .i64 y6.kept),.row (n+4) y6.gone.length,.row (n+5) y6.come.length]⟩)) n [none,none,none,none,some ⟨true,25,3,y6.gone.length,fl Za y6.gone⟩,some ⟨true,25,3,y6.come.length,fl Za y6.come⟩,some ⟨true,53,14,(y6.out++[(⟨3,0,([]:(List S_api_Tree)),a2⟩:S_api_Op)]).length,fl Zc (y6.out++[(⟨3,0,([]:(List S_api_Tree)),a2⟩:S_api_Op)])⟩,none])) (n':=(n+8)) (Fit2.of (Ya hU rfl rfl ?_) (by omega)) ?_
  ·exact Z5j pl7 ql7 el7 ax8 bx8 cx8 gu9 hi0 hk0
  refine Qq (k:=8) (k':=4) hU [3,3,3,3,0,1,2,3] [4,5,6,0] rfl rfl rfl rfl ⟨rfl,rfl⟩ ?_
  exact Ve hi0 hk0
 simp only [push_cast,seval,↓reduceIte,Zk,Try.results87,hi0,hk0,hN0,hN]
def Zi9 (Qo:(S_api_Edit→Option S_api_Edit)):Prop:=∀ {a0:S_api_Edit} {r:S_api_Edit} {O:Objs} {n:Nat},Qo a0=some r→GTo Try.prog 28 [.agg (Ze a0)] O n (.agg (Ze r)) O n
def Zlt (G8:(Int→(List S_api_Op)→Option (List S_api_Op))):Prop:=∀ {a0:Int} {a1:(List S_api_Op)} {r:(List S_api_Op)} {O:Objs} {n:Nat},G8 a0 a1=some r→GTo Try.prog 54 [.val (.int .i64 a0),.sl a1.length (fl Zc a1)] O n (.sl r.length (fl Zc r)) O n
theorem Zyp {Qo:(S_api_Edit→Option S_api_Edit)} {G8:(Int→(List S_api_Op)→Option (List S_api_Op))} (Zga:Zi9 Qo) (Zqv:Zlt G8) {a0:S_api_Edit} {r:S_api_Edit} {O:Objs} {n:Nat} (h:Zgg Qo G8 a0=some r):GTo Try.prog 28 [.agg (Ze a0)] O n (.agg (Ze r)) O n:=by
 unfold Zgg at h
 refine zFn Try.call28 Try.func28 fun hU hN0 hN => ?_
 show W _ _ _ _ ⟨54,[],[(0,.agg (Ze a0))]⟩ (Zu O n []) _
 refine zQ [1,2] ?_
 refine Zj ?_
 refine zQ [1,2,7] ?_
 refine Yy ?_
 refine zQ [1,2,7,8] ?_
 refine Zn (t:=(a0.Kind == 1)) rfl (fun c17 => ?_) (fun c17 => ?_)
 ·replace h:=Zq c17 h
  refine Zj ?_
  obtain ⟨y3,hy3,h⟩:=bC h
  obtain ⟨y4,hy4,h⟩:=bC h
  refine Zl2 Zz (by kernel_rfl) [false,false,false,false,false,false,false,true] [] (by kernel_rfl) ?_
  refine zS ?_
  refine PCall.of (Zdt hy3) ?_
  refine zS ?_
  refine PCall.of (Zdt hy4) ?_
  refine zS ?_
  refine zD [2] [false,true] ?_
  exact Xe [.agg [.val (.int .i64 1),.val (.int .i64 y3.Kind),.sl y3.Words.length (fl (eI .u64) y3.Words),.sl y3.Kids.length (fl Za y3.Kids),.val (.int .i64 y4.Kind),.sl y4.Words.length (fl (eI .u64) y4.Words),.sl y4.Kids.length (fl Za y4.Kids),.val (.slice none 0 0),.val (.slice none 0 0),.val (.int .i64 0),.val (.slice none 0 0)]]
 replace h:=Zp c17 h
 refine zQ [1,2,7,17] ?_
 refine Zn (t:=(a0.Kind == 2)) rfl (fun c16 => ?_) (fun c16 => ?_)
 ·replace h:=Zq c16 h
  refine Zj ?_
  obtain ⟨y6,hy6,h⟩:=bC h
  refine zR ?_
  refine (Zd5  hy6).then ?_
  refine zS ?_
  refine zDs [1,2,3] [true,true,true,true] ?_
  refine zQd [2,3,24,25,26] [2,3,24,25,26] [false,true,true,true] ?_
  refine Vn (E':=(⟨54,[],[(2,.ref (n+1) 0),(3,.ref (n+3) 0),(24,.sl a0.Kids.length (fl Zd a0.Kids)),(25,.val (.int .i64 (a0.Kids.length:Int))),(26,.val (.int .i64 0))]⟩:Env)) (O':=(Zu O n [none,some ⟨false,30,11,1,[.val (.int .i64 0),.val (.int .i64 0),.val (.slice none 0 0),.val (.slice none 0 0),.val (.int .i64 0),.val (.slice none 0 0),.val (.slice none 0 0),.val (.slice none 0 0),.val (.slice none 0 0),.val (.int .i64 0),.val (.slice none 0 0)]⟩,some ⟨true,42,4,y6.length,fl Zb y6⟩,some ⟨false,30,11,1,[.val (.int .i64 2),.val (.int .i64 0),.val (.slice none 0 0),.val (.slice none 0 0),.val (.int .i64 0),.val (.slice none 0 0),.val (.slice none 0 0),.row (n+2) y6.length,.row (n+4) ([]:List S_api_KidEdit).length,.val (.int .i64 0),.val (.slice none 0 0)]⟩,some ⟨true,55,12,([]:List S_api_KidEdit).length,fl Zd ([]:List S_api_KidEdit)⟩,none])) (n':=(n+6)) ?_ ?_
  ·refine Fit2.trans (E':=(⟨54,[],[(2,.ref (n+1) 0),(3,.ref (n+3) 0),(24,.sl a0.Kids.length (fl Zd a0.Kids)),(25,.val (.int .i64 (a0.Kids.length:Int))),(26,.val (.int .i64 0))]⟩:Env)) (O':=(Zu O n [none,some ⟨false,30,11,1,[.val (.int .i64 0),.val (.int .i64 0),.val (.slice none 0 0),.val (.slice none 0 0),.val (.int .i64 0),.val (.slice none 0 0),.val (.slice none 0 0),.val (.slice none 0 0),.val (.slice none 0 0),.val (.int .i64 0),.val (.slice none 0 0)]⟩,some ⟨true,42,4,y6.length,fl Zb y6⟩,some ⟨false,30,11,1,[.val (.int .i64 2),.val (.int .i64 0),.val (.slice none 0 0),.val (.slice none 0 0),.val (.int .i64 0),.val (.slice none 0 0),.val (.slice none 0 0),.row (n+2) y6.length,.val (.slice none 0 0),.val (.int .i64 0),.val (.slice none 0 0)]⟩])) (n':=(n+4)) (Fit2.of (Yj hU rfl rfl ?_) (by omega)) ?_
   ·exact zSe
   refine Fit2.trans (Zav (p:=(n+3)) (k:=8) (q:=⟨false,30,11,1,[.val (.int .i64 2),.val (.int .i64 0),.val (.slice none 0 0),.val (.slice none 0 0),.val (.int .i64 0),.val (.slice none 0 0),.val (.slice none 0 0),.row (n+2) y6.length,.val (.slice none 0 0),.val (.int .i64 0),.val (.slice none 0 0)]⟩) 55 12 (by simp only [Uy,Zan,List.getElem?_cons_zero,List.getElem?_cons_succ,Option.join_some,List.length_nil,Yb]) rfl (by omega)) ?_
   simp only [Y2,Yk,Us,K8,List.set_cons_zero,List.set_cons_succ,List.cons_append,List.nil_append,List.length_cons,List.length_nil,Nat.zero_add,Nat.reduceAdd,Nat.reduceLT,Nat.add_assoc]
   refine Vu (k:=5) (k':=6) hU [5,1,2,3,4] [0,1,2,3,4,0] rfl rfl rfl rfl ⟨rfl,rfl⟩ ?_
   exact zSe
  obtain ⟨z12,hz12,h⟩:=bC h
  refine Y9 (E':=⟨54,[],[(2,.ref (n+1) 0),(3,.ref (n+3) 0)]⟩) (O':=(Zu O n [none,some ⟨false,30,11,1,[.val (.int .i64 0),.val (.int .i64 0),.val (.slice none 0 0),.val (.slice none 0 0),.val (.int .i64 0),.val (.slice none 0 0),.val (.slice none 0 0),.val (.slice none 0 0),.val (.slice none 0 0),.val (.int .i64 0),.val (.slice none 0 0)]⟩,some ⟨true,42,4,y6.length,fl Zb y6⟩,some ⟨false,30,11,1,[.val (.int .i64 2),.val (.int .i64 0),.val (.slice none 0 0),.val (.slice none 0 0),.val (.int .i64 0),.val (.slice none 0 0),.val (.slice none 0 0),.row (n+2) y6.length,.row (n+4) z12.length,.val (.int .i64 0),.val (.slice none 0 0)]⟩,some ⟨true,55,12,z12.length,fl Zd z12⟩,none])) (n0:=(n+6)) ?_ ?_
  ·refine Xr hz12 (fun s0_=>⟨54,[],[(2,.ref (n+1) 0),(3,.ref (n+3) 0),(24,.sl a0.Kids.length (fl Zd a0.Kids)),(25,.val (.int .i64 (a0.Kids.length:Int))),(26,.val (.int .i64 s0_.1))]⟩) (fun s0_=>(Zu O n [none,some ⟨false,30,11,1,[.val (.int .i64 0),.val (.int .i64 0),.val (.slice none 0 0),.val (.slice none 0 0),.val (.int .i64 0),.val (.slice none 0 0),.val (.slice none 0 0),.val (.slice none 0 0),.val (.slice none 0 0),.val (.int .i64 0),.val (.slice none 0 0)]⟩,some ⟨true,42,4,y6.length,fl Zb y6⟩,some ⟨false,30,11,1,[.val (.int .i64 2),.val (.int .i64 0),.val (.slice none 0 0),.val (.slice none 0 0),.val (.int .i64 0),.val (.slice none 0 0),.val (.slice none 0 0),.row (n+2) y6.length,.row (n+4) s0_.2.length,.val (.int .i64 0),.val (.slice none 0 0)]⟩,some ⟨true,55,12,s0_.2.length,fl Zd s0_.2⟩,none])) (fun z12=>JX 1 n (⟨54,[],[(2,.ref (n+1) 0),(3,.ref (n+3) 0)]⟩:Env) (Zu O n [none,some ⟨false,30,11,1,[.val (.int .i64 0),.val (.int .i64 0),.val (.slice none 0 0),.val (.slice none 0 0),.val (.int .i64 0),.val (.slice none 0 0),.val (.slice none 0 0),.val (.slice none 0 0),.val (.slice none 0 0),.val (.int .i64 0),.val (.slice none 0 0)]⟩,some ⟨true,42,4,y6.length,fl Zb y6⟩,some ⟨false,30,11,1,[.val (.int .i64 2),.val (.int .i64 0),.val (.slice none 0 0),.val (.slice none 0 0),.val (.int .i64 0),.val (.slice none 0 0),.val (.slice none 0 0),.row (n+2) y6.length,.row (n+4) z12.length,.val (.int .i64 0),.val (.slice none 0 0)]⟩,some ⟨true,55,12,z12.length,fl Zd z12⟩,none]) (n+6)) ?_
   intro s0_ x0_ hs0_
   unfold Zcm at hs0_
   try dsimp only
   refine zQ [2,3,24,25,26,27] ?_
   refine Zj ?_
   refine Zn (t:=(decide (s0_.1 < (a0.Kids.length:Int)))) rfl (fun c11 => ?_) (fun c11 => ?_)
   ·replace hs0_:=Zq c11 hs0_
    refine zKd [2,3,24,25,26] [false,true,true,true,true,false] ?_
    refine Zj ?_
    refine Yy ?_
    refine Zj ?_
    obtain ⟨x8,hx8,ax8,bx8,cx8,hs0_⟩:=bE (f:=Zd) Zdi (fun _=>rfl) (by decide) hs0_
    refine Ziu [] ax8 bx8 cx8 ?_
    refine zD [2,3,5,24,25,26] [false,true,true,true,true,false,true] ?_
    obtain ⟨y9,hy9,hs0_⟩:=bC hs0_
    obtain ⟨l10,pl10,ql10,el10,hs0_⟩:=bA (k:=1) rfl hs0_
    refine K6 Zz (by kernel_rfl) [.low,.low,.plain,.plain,.plain,.plain,.plain,.plain,.pass,.bar,.plain,.bar] (fun i=>i < (n+7)) [0,1,2,3,4,5,6,7,8,9,10,11] [.low,.low,.plain,.plain,.plain,.plain,.plain,.plain,.pass,.bar,.plain,.bar] [] (by kernel_rfl) rfl ?_
    refine zX3 pl10 ql10 el10 ?_
    refine zO ?_
    first | refine PCallA.of (fun _ _=>Zga hy9) ?_ | refine PCall.of (Zga hy9) ?_
    refine zX3 pl10 ql10 el10 ?_
    refine zO ?_
    refine Zek ⟨54,[],[(2,.ref (n+1) 0),(3,.ref (n+3) 0),(24,.sl a0.Kids.length (fl Zd a0.Kids)),(25,.val (.int .i64 (a0.Kids.length:Int))),(26,.val (.int .i64 s0_.1))]⟩ (Zu O n [none,some ⟨false,30,11,1,[.val (.int .i64 0),.val (.int .i64 0),.val (.slice none 0 0),.val (.slice none 0 0),.val (.int .i64 0),.val (.slice none 0 0),.val (.slice none 0 0),.val (.slice none 0 0),.val (.slice none 0 0),.val (.int .i64 0),.val (.slice none 0 0)]⟩,some ⟨true,42,4,y6.length,fl Zb y6⟩,some ⟨false,30,11,1,[.val (.int .i64 2),.val (.int .i64 0),.val (.slice none 0 0),.val (.slice none 0 0),.val (.int .i64 0),.val (.slice none 0 0),.val (.slice none 0 0),.row (n+2) y6.length,.row (n+4) l10.length,.val (.int .i64 0),.val (.slice none 0 0)]⟩,some ⟨true,55,12,l10.length,fl Zd l10⟩,none,none,none]) (Yj hU rfl rfl ?_) ?_
    ·exact Z5k pl10 ql10 el10
    refine zR ?_
    exact zEn hs0_
   replace hs0_:=Zp c11 hs0_
   exact zEx hs0_
  try simp only [Xf,Yn,↓reduceIte,Nat.reduceEqDiff]
  refine zDs [2,3] [false,true,true,true,true,false] ?_
  refine zRd [2] [false,true,true,false,true,false] ?_
  exact Xe [.agg [.val (.int .i64 2),.val (.int .i64 0),.val (.slice none 0 0),.val (.slice none 0 0),.val (.int .i64 0),.val (.slice none 0 0),.val (.slice none 0 0),.row (n+2) y6.length,.row (n+4) z12.length,.val (.int .i64 0),.val (.slice none 0 0)]]
 replace h:=Zp c16 h
 refine zQ [1,2,43] ?_
 refine Zn (t:=(a0.Kind == 3)) rfl (fun c15 => ?_) (fun c15 => ?_)
 ·replace h:=Zq c15 h
  refine Zj ?_
  obtain ⟨y14,hy14,h⟩:=bC h
  refine Zl2 Zz (by kernel_rfl) [false,false,false,false,false,false,false,false,true] [] (by kernel_rfl) ?_
  refine zS ?_
  refine PCall.of (Zqv hy14) ?_
  refine zS ?_
  refine zD [2] [false,true] ?_
  exact Xe [.agg [.val (.int .i64 3),.val (.int .i64 0),.val (.slice none 0 0),.val (.slice none 0 0),.val (.int .i64 0),.val (.slice none 0 0),.val (.slice none 0 0),.val (.slice none 0 0),.val (.slice none 0 0),.val (.int .i64 a0.List_),.sl y14.length (fl Zc y14)]]
 replace h:=Zp c15 h
 refine zKd [2] [false,true] ?_
 refine Zj ?_
 refine zRd [2] [false,true] ?_
 exact Xe [.agg [.val (.int .i64 0),.val (.int .i64 0),.val (.slice none 0 0),.val (.slice none 0 0),.val (.int .i64 0),.val (.slice none 0 0),.val (.slice none 0 0),.val (.slice none 0 0),.val (.slice none 0 0),.val (.int .i64 0),.val (.slice none 0 0)]]
theorem Z0i {Qo:(S_api_Edit→Option S_api_Edit)} {G8:(Int→(List S_api_Op)→Option (List S_api_Op))} (Zga:Zi9 Qo) (Zqv:Zlt G8) {a0:Int} {a1:(List S_api_Op)} {r:(List S_api_Op)} {O:Objs} {n:Nat} (h:Zf4 Qo G8 a0 a1=some r):GTo Try.prog 54 [.val (.int .i64 a0),.sl a1.length (fl Zc a1)] O n (.sl r.length (fl Zc r)) O n:=by
 unfold Zf4 at h
 refine zFn Try.call54 Try.func54 fun hU hN0 hN => ?_
 show W _ _ _ _ ⟨44,[],[(0,.val (.int .i64 a0)),(1,.sl a1.length (fl Zc a1))]⟩ (Zu O n []) _
 refine zQ [0,1] ?_
 refine zQ [0,1,5] ?_
 refine Zj ?_
 refine zQd [0,5,8,9,10] [0,5,8,9,10] [true] ?_
 refine Vn (E':=(⟨44,[],[(0,.val (.int .i64 a0)),(5,.ref n 0),(8,.sl a1.length (fl Zc a1)),(9,.val (.int .i64 (a1.length:Int))),(10,.val (.int .i64 0))]⟩:Env)) (O':=(Zu O n [some ⟨false,98,4,1,[.row (n+1) ([]:List S_api_Op).length,.val (.int .i64 0),.row (n+2) ([]:List S_api_Tree).length,.row (n+3) ([]:List S_api_Tree).length]⟩,some ⟨true,53,14,([]:List S_api_Op).length,fl Zc ([]:List S_api_Op)⟩,some ⟨true,25,3,([]:List S_api_Tree).length,fl Za ([]:List S_api_Tree)⟩,some ⟨true,25,3,([]:List S_api_Tree).length,fl Za ([]:List S_api_Tree)⟩,none])) (n':=(n+5)) ?_ ?_
 ·refine Fit2.trans (E':=(⟨44,[],[(0,.val (.int .i64 a0)),(5,.ref n 0),(8,.sl a1.length (fl Zc a1)),(9,.val (.int .i64 (a1.length:Int))),(10,.val (.int .i64 0))]⟩:Env)) (O':=(Zu O n [some ⟨false,98,4,1,[.val (.slice none 0 0),.val (.int .i64 0),.val (.slice none 0 0),.val (.slice none 0 0)]⟩])) (n':=(n+1)) (Fit2.of (Yj hU rfl rfl ?_) (by omega)) ?_
  ·exact zSe
  refine Fit2.trans (Zav (p:=n) (k:=0) (q:=⟨false,98,4,1,[.val (.slice none 0 0),.val (.int .i64 0),.val (.slice none 0 0),.val (.slice none 0 0)]⟩) 53 14 (by simp only [Uy,Zan,List.getElem?_cons_zero,List.getElem?_cons_succ,Option.join_some,List.length_nil,Yb]) rfl (by omega)) ?_
  simp only [Y2,Yk,Us,K8,List.set_cons_zero,List.set_cons_succ,List.cons_append,List.nil_append,List.length_cons,List.length_nil,Nat.zero_add,Nat.reduceAdd,Nat.reduceLT,Nat.add_assoc]
  refine Fit2.trans (Zav (p:=n) (k:=2) (q:=⟨false,98,4,1,[.row (n+1) ([]:List S_api_Op).length,.val (.int .i64 0),.val (.slice none 0 0),.val (.slice none 0 0)]⟩) 25 3 (by simp only [Uy,Zan,List.getElem?_cons_zero,List.getElem?_cons_succ,Option.join_some,List.length_nil,Yb]) rfl (by omega)) ?_
  simp only [Y2,Yk,Us,K8,List.set_cons_zero,List.set_cons_succ,List.cons_append,List.nil_append,List.length_cons,List.length_nil,Nat.zero_add,Nat.reduceAdd,Nat.reduceLT,Nat.add_assoc]
  refine Fit2.trans (Zav (p:=n) (k:=3) (q:=⟨false,98,4,1,[.row (n+1) ([]:List S_api_Op).length,.val (.int .i64 0),.row (n+2) ([]:List S_api_Tree).length,.val (.slice none 0 0)]⟩) 25 3 (by simp only [Uy,Zan,List.getElem?_cons_zero,List.getElem?_cons_succ,Option.join_some,List.length_nil,Yb]) rfl (by omega)) ?_
  simp only [Y2,Yk,Us,K8,List.set_cons_zero,List.set_cons_succ,List.cons_append,List.nil_append,List.length_cons,List.length_nil,Nat.zero_add,Nat.reduceAdd,Nat.reduceLT,Nat.add_assoc]
  refine Vu (k:=4) (k':=5) hU [0,1,2,3] [0,1,2,3,0] rfl rfl rfl rfl ⟨rfl,rfl⟩ ?_
  exact zSe
 obtain ⟨z14,hz14,h⟩:=bC h
 refine Y9 (E':=⟨44,[],[(5,.ref n 0)]⟩) (O':=(Zu O n [some ⟨false,98,4,1,[.row (n+1) z14.2.1.length,.val (.int .i64 z14.1),.row (n+2) z14.2.2.1.length,.row (n+3) z14.2.2.2.length]⟩,some ⟨true,53,14,z14.2.1.length,fl Zc z14.2.1⟩,some ⟨true,25,3,z14.2.2.1.length,fl Za z14.2.2.1⟩,some ⟨true,25,3,z14.2.2.2.length,fl Za z14.2.2.2⟩,none])) (n0:=(n+5)) ?_ ?_
 ·refine Xr hz14 (fun s0_=>⟨44,[],[(0,.val (.int .i64 a0)),(5,.ref n 0),(8,.sl a1.length (fl Zc a1)),(9,.val (.int .i64 (a1.length:Int))),(10,.val (.int .i64 s0_.1))]⟩) (fun s0_=>(Zu O n [some ⟨false,98,4,1,[.row (n+1) s0_.2.2.1.length,.val (.int .i64 s0_.2.1),.row (n+2) s0_.2.2.2.1.length,.row (n+3) s0_.2.2.2.2.length]⟩,some ⟨true,53,14,s0_.2.2.1.length,fl Zc s0_.2.2.1⟩,some ⟨true,25,3,s0_.2.2.2.1.length,fl Za s0_.2.2.2.1⟩,some ⟨true,25,3,s0_.2.2.2.2.length,fl Za s0_.2.2.2.2⟩,none])) (fun z14=>JX 0 n (⟨44,[],[(5,.ref n 0)]⟩:Env) (Zu O n [some ⟨false,98,4,1,[.row (n+1) z14.2.1.length,.val (.int .i64 z14.1),.row (n+2) z14.2.2.1.length,.row (n+3) z14.2.2.2.length]⟩,some ⟨true,53,14,z14.2.1.length,fl Zc z14.2.1⟩,some ⟨true,25,3,z14.2.2.1.length,fl Za z14.2.2.1⟩,some ⟨true,25,3,z14.2.2.2.length,fl Za z14.2.2.2⟩,none]) (n+5)) ?_
  intro s0_ x0_ hs0_
  unfold Zaw at hs0_
  try dsimp only
  refine zQ [0,5,8,9,10,11] ?_
  refine Zj ?_
  refine Zn (t:=(decide (s0_.1 < (a1.length:Int)))) rfl (fun c13 => ?_) (fun c13 => ?_)
  ·replace hs0_:=Zq c13 hs0_
   refine zKd [0,5,8,9,10] [true,true,true,true,false] ?_
   obtain ⟨z1,hz1,hs0_⟩:=bC hs0_
   refine Xt (E':=⟨44,[],[(0,.val (.int .i64 a0)),(5,.ref n 0),(8,.sl a1.length (fl Zc a1)),(9,.val (.int .i64 (a1.length:Int))),(10,.val (.int .i64 s0_.1))]⟩) (O':=(Zu O n [some ⟨false,98,4,1,[.row (n+9) z1.2.1.length,.val (.int .i64 z1.1),.row (n+10) z1.2.2.1.length,.row (n+11) z1.2.2.2.length]⟩,none,none,none,none,none,none,none,none,some ⟨true,53,14,z1.2.1.length,fl Zc z1.2.1⟩,some ⟨true,25,3,z1.2.2.1.length,fl Za z1.2.2.1⟩,some ⟨true,25,3,z1.2.2.2.length,fl Za z1.2.2.2⟩,none])) (n0:=(n+13)) ?_ ?_
   ·refine Yy ?_
    refine Zj ?_
    obtain ⟨x3,hx3,ax3,bx3,cx3,hz1⟩:=bE (f:=Zc) Zdh (fun _=>rfl) (by decide) hz1
    refine Ziu [] ax3 bx3 cx3 ?_
    refine zD [0,5,7,8,9,10] [true,true,true,true,false,true] ?_
    refine zQ [0,5,7,8,9,10,15] ?_
    refine Yy ?_
    refine zQ [0,5,7,8,9,10,15,16] ?_
    refine Zn (t:=(x3.Kind == 0)) rfl (fun c12 => ?_) (fun c12 => ?_)
    ·replace hz1:=Zq c12 hz1
     obtain ⟨y4,hy4,hz1⟩:=bC hz1
     refine zR ?_
     refine (Ziy (i0:=n) (j0_0:=(n+2)) (j0_1:=(n+3)) (j0_2:=(n+1)) (by omega) (by omega) (by omega) (by omega) (by omega) (by omega) (by omega) (by omega) (by omega) (by omega) (by simp only [push_cast,seval,↓reduceIte,Zk,Y8,hN0,hN] <;> rfl) (by simp only [push_cast,seval,↓reduceIte,Zk,Y8,hN0,hN] <;> rfl) (by simp only [push_cast,seval,↓reduceIte,Zk,Y8,hN0,hN] <;> rfl) (by simp only [push_cast,seval,↓reduceIte,Zk,Y8,hN0,hN] <;> rfl) hy4).then ?_
     refine zS ?_
     have hz1:=Option.some.inj hz1;subst hz1
     refine And.intro rfl ?_
     refine Fit2.trans (E':=(⟨44,[],[(0,.val (.int .i64 a0)),(5,.ref n 0),(8,.sl a1.length (fl Zc a1)),(9,.val (.int .i64 (a1.length:Int))),(10,.val (.int .i64 s0_.1))]⟩:Env)) (O':=(Zu O n [some ⟨false,98,4,1,[.row (n+8) y4.out.length,.val (.int .i64 y4.kept),.row (n+6) y4.gone.length,.row (n+7) y4.come.length]⟩,none,none,none,none,none,some ⟨true,25,3,y4.gone.length,fl Za y4.gone⟩,some ⟨true,25,3,y4.come.length,fl Za y4.come⟩,some ⟨true,53,14,y4.out.length,fl Zc y4.out⟩])) (n':=(n+9)) (Fit2.of (Yj hU rfl rfl ?_) (by omega)) ?_
     ·exact zSe
     refine Vu (k:=9) (k':=13) hU [0,12,12,12,12,12,10,11,9] [0,0,0,0,0,0,0,0,0,8,6,7,0] rfl rfl rfl rfl ⟨rfl,rfl⟩ ?_
     exact zSe
    replace hz1:=Zp c12 hz1
    refine zQ [0,5,7,8,9,10,15,21] ?_
    refine Zn (t:=(x3.Kind == 1)) rfl (fun c11 => ?_) (fun c11 => ?_)
    ·replace hz1:=Zq c11 hz1
     obtain ⟨y5,hy5,hz1⟩:=bC hz1
     refine zR ?_
     refine (Zm7 (i0:=n) (j0_0:=(n+2)) (j0_1:=(n+3)) (j0_2:=(n+1)) (by omega) (by omega) (by omega) (by omega) (by omega) (by omega) (by omega) (by omega) (by omega) (by omega) (by simp only [push_cast,seval,↓reduceIte,Zk,Y8,hN0,hN] <;> rfl) (by simp only [push_cast,seval,↓reduceIte,Zk,Y8,hN0,hN] <;> rfl) (by simp only [push_cast,seval,↓reduceIte,Zk,Y8,hN0,hN] <;> rfl) (by simp only [push_cast,seval,↓reduceIte,Zk,Y8,hN0,hN] <;> rfl) hy5).then ?_
     refine zS ?_
     have hz1:=Option.some.inj hz1;subst hz1
     refine And.intro rfl ?_
     refine Fit2.trans (E':=(⟨44,[],[(0,.val (.int .i64 a0)),(5,.ref n 0),(8,.sl a1.length (fl Zc a1)),(9,.val (.int .i64 (a1.length:Int))),(10,.val (.int .i64 s0_.1))]⟩:Env)) (O':=(Zu O n [some ⟨false,98,4,1,[.row (n+8) y5.out.length,.val (.int .i64 y5.kept),.row (n+6) y5.gone.length,.row (n+7) y5.come.length]⟩,none,none,none,none,none,some ⟨true,25,3,y5.gone.length,fl Za y5.gone⟩,some ⟨true,25,3,y5.come.length,fl Za y5.come⟩,some ⟨true,53,14,y5.out.length,fl Zc y5.out⟩])) (n':=(n+9)) (Fit2.of (Yj hU rfl rfl ?_) (by omega)) ?_
     ·exact zSe
     refine Vu (k:=9) (k':=13) hU [0,12,12,12,12,12,10,11,9] [0,0,0,0,0,0,0,0,0,8,6,7,0] rfl rfl rfl rfl ⟨rfl,rfl⟩ ?_
     exact zSe
    replace hz1:=Zp c11 hz1
    refine zQ [0,5,7,8,9,10,15,27] ?_
    refine Zn (t:=(x3.Kind == 2)) rfl (fun c10 => ?_) (fun c10 => ?_)
    ·replace hz1:=Zq c10 hz1
     obtain ⟨y6,hy6,hz1⟩:=bC hz1
     refine zR ?_
     refine (Zm8 (i0:=n) (j0_0:=(n+2)) (j0_1:=(n+3)) (j0_2:=(n+1)) (by omega) (by omega) (by omega) (by omega) (by omega) (by omega) (by omega) (by omega) (by omega) (by omega) (by simp only [push_cast,seval,↓reduceIte,Zk,Y8,hN0,hN] <;> rfl) (by simp only [push_cast,seval,↓reduceIte,Zk,Y8,hN0,hN] <;> rfl) (by simp only [push_cast,seval,↓reduceIte,Zk,Y8,hN0,hN] <;> rfl) (by simp only [push_cast,seval,↓reduceIte,Zk,Y8,hN0,hN] <;> rfl) hy6).then ?_
     refine zS ?_
     have hz1:=Option.some.inj hz1;subst hz1
     refine And.intro rfl ?_
     refine Fit2.trans (E':=(⟨44,[],[(0,.val (.int .i64 a0)),(5,.ref n 0),(8,.sl a1.length (fl Zc a1)),(9,.val (.int .i64 (a1.length:Int))),(10,.val (.int .i64 s0_.1))]⟩:Env)) (O':=(Zu O n [some ⟨false,98,4,1,[.row (n+8) y6.out.length,.val (.int .i64 y6.kept),.row (n+6) y6.gone.length,.row (n+7) y6.come.length]⟩,none,none,none,none,none,some ⟨true,25,3,y6.gone.length,fl Za y6.gone⟩,some ⟨true,25,3,y6.come.length,fl Za y6.come⟩,some ⟨true,53,14,y6.out.length,fl Zc y6.out⟩])) (n':=(n+9)) (Fit2.of (Yj hU rfl rfl ?_) (by omega)) ?_
     ·exact zSe
     refine Vu (k:=9) (k':=13) hU [0,12,12,12,12,12,10,11,9] [0,0,0,0,0,0,0,0,0,8,6,7,0] rfl rfl rfl rfl ⟨rfl,rfl⟩ ?_
     exact zSe
    replace hz1:=Zp c10 hz1
    refine zQ [0,5,7,8,9,10,33] ?_
    refine Zn (t:=(x3.Kind == 3)) rfl (fun c9 => ?_) (fun c9 => ?_)
    ·replace hz1:=Zq c9 hz1
     obtain ⟨y7,hy7,hz1⟩:=bC hz1
     obtain ⟨y8,hy8,hz1⟩:=bC hz1
     refine zC (Zga hy7) ?_
     refine (Zpf (i0:=n) (j0_0:=(n+2)) (j0_1:=(n+3)) (j0_2:=(n+1)) (by omega) (by omega) (by omega) (by omega) (by omega) (by omega) (by omega) (by omega) (by omega) (by omega) (by simp only [push_cast,seval,↓reduceIte,Zk,Y8,hN0,hN] <;> rfl) (by simp only [push_cast,seval,↓reduceIte,Zk,Y8,hN0,hN] <;> rfl) (by simp only [push_cast,seval,↓reduceIte,Zk,Y8,hN0,hN] <;> rfl) (by simp only [push_cast,seval,↓reduceIte,Zk,Y8,hN0,hN] <;> rfl) hy8).then ?_
     refine zS ?_
     have hz1:=Option.some.inj hz1;subst hz1
     refine And.intro rfl ?_
     refine Fit2.trans (E':=(⟨44,[],[(0,.val (.int .i64 a0)),(5,.ref n 0),(8,.sl a1.length (fl Zc a1)),(9,.val (.int .i64 (a1.length:Int))),(10,.val (.int .i64 s0_.1))]⟩:Env)) (O':=(Zu O n [some ⟨false,98,4,1,[.row (n+8) y8.out.length,.val (.int .i64 y8.kept),.row (n+6) y8.gone.length,.row (n+7) y8.come.length]⟩,none,none,none,none,none,some ⟨true,25,3,y8.gone.length,fl Za y8.gone⟩,some ⟨true,25,3,y8.come.length,fl Za y8.come⟩,some ⟨true,53,14,y8.out.length,fl Zc y8.out⟩])) (n':=(n+9)) (Fit2.of (Yj hU rfl rfl ?_) (by omega)) ?_
     ·exact zSe
     refine Vu (k:=9) (k':=13) hU [0,12,12,12,12,12,10,11,9] [0,0,0,0,0,0,0,0,0,8,6,7,0] rfl rfl rfl rfl ⟨rfl,rfl⟩ ?_
     exact zSe
    replace hz1:=Zp c9 hz1
    refine zK ?_
    have hz1:=Option.some.inj hz1;subst hz1
    refine And.intro rfl ?_
    refine Fit2.trans (E':=(⟨44,[],[(0,.val (.int .i64 a0)),(5,.ref n 0),(8,.sl a1.length (fl Zc a1)),(9,.val (.int .i64 (a1.length:Int))),(10,.val (.int .i64 s0_.1))]⟩:Env)) (O':=(Zu O n [some ⟨false,98,4,1,[.row (n+1) s0_.2.2.1.length,.val (.int .i64 s0_.2.1),.row (n+2) s0_.2.2.2.1.length,.row (n+3) s0_.2.2.2.2.length]⟩,some ⟨true,53,14,s0_.2.2.1.length,fl Zc s0_.2.2.1⟩,some ⟨true,25,3,s0_.2.2.2.1.length,fl Za s0_.2.2.2.1⟩,some ⟨true,25,3,s0_.2.2.2.2.length,fl Za s0_.2.2.2.2⟩,none,none])) (n':=(n+6)) (Fit2.of (Yj hU rfl rfl ?_) (by omega)) ?_
    ·exact zSe
    refine Vu (k:=6) (k':=13) hU [0,9,10,11,12,12] [0,0,0,0,0,0,0,0,0,1,2,3,0] rfl rfl rfl rfl ⟨rfl,rfl⟩ ?_
    exact zSe
   refine zR ?_
   have hs0_:=Option.some.inj hs0_;subst hs0_
   refine And.intro rfl ?_
   refine Fit2.trans (E':=(⟨44,[],[(0,.val (.int .i64 a0)),(5,.ref n 0),(8,.sl a1.length (fl Zc a1)),(9,.val (.int .i64 (a1.length:Int))),(10,.val (.int .i64 (IntKind.i64.wrap (s0_.1+1))))]⟩:Env)) (O':=(Zu O n [some ⟨false,98,4,1,[.row (n+9) z1.2.1.length,.val (.int .i64 z1.1),.row (n+10) z1.2.2.1.length,.row (n+11) z1.2.2.2.length]⟩,none,none,none,none,none,none,none,none,some ⟨true,53,14,z1.2.1.length,fl Zc z1.2.1⟩,some ⟨true,25,3,z1.2.2.1.length,fl Za z1.2.2.1⟩,some ⟨true,25,3,z1.2.2.2.length,fl Za z1.2.2.2⟩,none])) (n':=(n+13)) (Fit2.of (Yj hU rfl rfl ?_) (by omega)) ?_
   ·exact zSe
   refine Vu (k:=13) (k':=5) hU [0,4,4,4,4,4,4,4,4,1,2,3,4] [0,9,10,11,0] rfl rfl rfl rfl ⟨rfl,rfl⟩ ?_
   exact zSe
  replace hs0_:=Zp c13 hs0_
  exact zEx hs0_
 try simp only [Xf,Yn,↓reduceIte,Nat.reduceEqDiff]
 refine zDs [5] [true,true,true,true,false] ?_
 obtain ⟨y16,hy16,h⟩:=bC h
 refine zR ?_
 refine (Zaf (i0:=n) (j0_0:=(n+2)) (j0_1:=(n+3)) (j0_2:=(n+1)) (by omega) (by omega) (by omega) (by omega) (by omega) (by omega) (by omega) (by omega) (by omega) (by omega) (by simp only [push_cast,seval,↓reduceIte,Zk,Y8,hN0,hN] <;> rfl) (by simp only [push_cast,seval,↓reduceIte,Zk,Y8,hN0,hN] <;> rfl) (by simp only [push_cast,seval,↓reduceIte,Zk,Y8,hN0,hN] <;> rfl) (by simp only [push_cast,seval,↓reduceIte,Zk,Y8,hN0,hN] <;> rfl) hy16).then ?_
 refine zS ?_
 refine zD [5] [true,false,false,false,false,true,true,true] ?_
 refine zQ [4] ?_
 exact Xe [.row (n+7) y16.out.length]
theorem Zvn:∀ k,(Zi9 ((Qe k).1))∧(Zlt ((Qe k).2)):=fun k=>by
 induction k with
 | zero=>exact ⟨@fun a0 r O n h=>(nomatch (show (none:Option _)=some _ from h)),@fun a0 a1 r O n h=>(nomatch (show (none:Option _)=some _ from h))⟩
 | succ k ih=>exact ⟨@fun a0 r O n h=>Zyp (ih.1) (ih.2)  h,@fun a0 a1 r O n h=>Z0i (ih.1) (ih.2)  h⟩
theorem Zrr {a0:S_api_Edit} {r:S_api_Edit} {O:Objs} {n:Nat} (h:Zjg a0=some r):GTo Try.prog 28 [.agg (Ze a0)] O n (.agg (Ze r)) O n:=by
 obtain ⟨k,hk⟩:=Zcr h
 exact (Zvn k).1  hk
theorem Zcu {a0:S_api_Edit} {r:S_api_Edit} {O:Objs} {n:Nat} (h:Jg a0=some r):GTo Try.prog 24 [.agg (Ze a0)] O n (.agg (Ze r)) O n:=by
 unfold Jg at h
 refine zFn Try.call24 Try.func24 fun hU hN0 hN => ?_
 show W _ _ _ _ ⟨6,[],[(0,.agg (Ze a0))]⟩ (Zu O n []) _
 refine zQ [1,2] ?_
 refine Zj ?_
 obtain ⟨y3,hy3,h⟩:=bC h
 obtain ⟨y4,hy4,h⟩:=bC h
 refine zC (Zwt hy3) ?_
 refine zTs (Zrr hy4) ?_
 refine zD [2] [false,true] ?_
 exact Xe [.agg (Ze y4)]
theorem Vr {a0:(List Int)} {a1:(List Int)} {r:Bool} {O:Objs} {n:Nat} (h:X9 a0 a1=some r):GTo Try.prog 108 [.sl a0.length (fl (eI .u64) a0),.sl a1.length (fl (eI .u64) a1)] O n (.val (.bool r)) O n:=by
 unfold X9 at h
 refine zFn Try.call108 Try.func108 fun hU hN0 hN => ?_
 show W _ _ _ _ ⟨26,[],[(0,.sl a0.length (fl (eI .u64) a0)),(1,.sl a1.length (fl (eI .u64) a1))]⟩ (Zu O n []) _
 refine zQ [0,1] ?_
 refine Zj ?_
 refine zQ [0,1,10] ?_
 refine Zn (t:=((a0.length:Int) != (a1.length:Int))) rfl (fun c8 => ?_) (fun c8 => ?_)
 ·replace h:=Zq c8 h
  refine zQ [4] ?_
  exact Xe [.val (.bool false)]
 replace h:=Zp c8 h
 refine zKd [0,1] [] ?_
 refine Zj ?_
 refine zQd [0,1,12,13] [0,1,12,13] [] ?_
 obtain ⟨z7,hz7,h⟩:=bC h
 refine Zee (J:=(K5 (fun z7=>JR n (⟨26,[],[(4,.val (.bool false))]⟩:Env) (Zu O n []) n) (fun z7=>JX 0 n (⟨26,[],[]⟩:Env) (Zu O n []) n))) (z:=z7) ?_ fun hw => ?_
 ·refine Xr hz7 (fun s0_=>⟨26,[],[(0,.sl a0.length (fl (eI .u64) a0)),(1,.sl a1.length (fl (eI .u64) a1)),(12,.val (.int .i64 (a0.length:Int))),(13,.val (.int .i64 s0_))]⟩) (fun s0_=>(Zu O n [])) (K5 (fun z7=>JR n (⟨26,[],[(4,.val (.bool false))]⟩:Env) (Zu O n []) n) (fun z7=>JX 0 n (⟨26,[],[]⟩:Env) (Zu O n []) n)) ?_
  intro s0_ x0_ hs0_
  unfold Qp at hs0_
  try dsimp only
  refine zQ [0,1,12,13,14] ?_
  refine Zj ?_
  refine Zn (t:=(decide (s0_ < (a0.length:Int)))) rfl (fun c6 => ?_) (fun c6 => ?_)
  ·replace hs0_:=Zq c6 hs0_
   refine zKd [0,1,12,13] [] ?_
   refine Zj ?_
   refine Yy ?_
   refine zQ [0,1,5,12,13] ?_
   obtain ⟨x3,hx3,ax3,bx3,cx3,hs0_⟩:=bE (f:=(eI .u64)) Zi1 (fun _=>rfl) (by decide) hs0_
   obtain ⟨x4,hx4,ax4,bx4,cx4,hs0_⟩:=bE (f:=(eI .u64)) Zi1 (fun _=>rfl) (by decide) hs0_
   refine Zuc [0,1,12,13,24] (Vh Zz (by kernel_rfl) [] (by kernel_rfl) ?_)
   refine zF6 ax3 bx3 cx3 ax4 bx4 cx4 ?_
   refine Zn (t:=(x3 != x4)) rfl (fun c5 => ?_) (fun c5 => ?_)
   ·replace hs0_:=Zq c5 hs0_
    refine zQ [4] ?_
    refine zW ?_
    exact zEy hs0_
   replace hs0_:=Zp c5 hs0_
   refine zKd [0,1,12,13] [] ?_
   refine zR ?_
   exact zEn hs0_
  replace hs0_:=Zp c6 hs0_
  exact zEx hs0_
 rcases z7 with z7 | z7
 ·dsimp only [K5] at hw h
  refine Uz hw ?_
  try simp only [Xf,Yn,↓reduceIte,Nat.reduceEqDiff]
  exact Zq7 [.val (.bool false)]
 dsimp only [K5] at hw h
 refine Y9 hw ?_
 try simp only [Xf,Yn,↓reduceIte,Nat.reduceEqDiff]
 refine zD [] [] ?_
 refine zQ [4] ?_
 exact Xe [.val (.bool true)]
end Go.Proofs.Ytbjcopkgdjombaa
