/- Part FM10 of this seat's mirrors: functions of the seat's program, and the plain functions that they are; each theorem bears its own conditions. -/
import Derived.Test.YtfjkcekfifobpaaFD
import Derived.Test.YtfjkcekfifobpaaFM7
namespace Go.Proofs.Ytfjkcekfifobpaa
open Go.RowKit
set_option linter.unusedVariables false
set_option linter.unusedSimpArgs false
set_option maxRecDepth 100000
set_option maxHeartbeats 4000000
attribute [local push_cast] Try.results8 vI vB nV sL oR Ze Vp Yz Zf G7 Zw8 Zw7 Zxx Zxw Ym Z4 Zsx Zm6 Zm5 onW Qz Zhr Zgd Zwb Zvi Zqq Zqu Zqp Zqt Zt7 Zt4 Zqs Zt6 Zt5 Zqr Zt2 Zn3 evS wok Kc Op.operands Call.operands gop onK onP atK List.all_cons List.all_nil Bool.and_true Bool.true_and Bool.and_self Value.oneCell' List.take_zero List.take_succ_cons List.take_nil List.drop_zero List.drop_succ_cons List.drop_nil List.append_nil Nat.add_zero Nat.zero_add Zbu Y1 ev Kg Zhf Zw1 Zw0 Zw6 Zw4 Zw5 Zw2 Zw3 Zwz Zwm Zz0 Z3k Zna Zht Zl4 Zhs Zp6 Zj1 Zku Zkz Zmz Zmw Zkx Zmy Zmx Zkw Zmu Zkv Zky Zjp Zmv Zq2 Zm7 Ze7 Zm8 Ze8 Zo6 Zm4 Z1r bLo bHi bMx Zhu Zo3 Z6n Zm3 Zo5 Zjq Zdj Zz3 Z6q Zm2 Z6u Zhq Z8i Zs0 Zs4 Zsz Zs3 Zxi Zxf Zxd Zp9 Zs1 Zxh Zxg Zs2 Zxe Zor gone Ztq Znu Znt pop TK.isAgg Zxq Zxu Zxp Zxt Zti Z4f Z4c Zxs Z4e Z4d Zxr Z4b G.under G.unders List.getD_cons_zero List.getD_cons_succ List.set_cons_zero List.set_cons_succ List.map_cons List.map_nil List.toList_toArray Array.toList_append Option.toArray_none Option.toArray_some Array.toList_map Option.map_some Option.map_none Option.bind_some Option.bind_none List.getElem?_cons_zero List.getElem?_cons_succ List.getElem?_nil List.nil_append List.cons_append List.replicate_succ List.replicate_zero List.length_cons List.length_nil and_true true_and and_false false_and Bool.true_eq_false Bool.false_eq_true forall_const false_implies implies_true IntKind.bits if_true if_false ite_true ite_false eq_self true_implies false_or or_false or_true true_or not_true_eq_false not_false_eq_true decide_true decide_false decide_eq_true_eq decide_eq_false_iff_not beq_iff_eq bne_iff_ne ne_eq Bool.not_eq_true Bool.not_eq_false beq_eq_false_iff_ne bne_eq_false_iff_eq beq_self_eq_true bne_self_eq_false Option.some.injEq exists_eq_left' exists_eq_left ge_iff_le gt_iff_lt decide_not Bool.not_true Bool.not_false imp_self Z3m cond_true cond_false Yfj Yfi Bool.not_not Bool.and_false Bool.false_and Bool.or_true Bool.true_or Bool.or_false Bool.false_or Zab Zes U3 K8 Xd Yv Option.join_some Nat.add_assoc Int.toNat_natCast eI eB eS eL Xo Zl5 Zk1 Zxb Zw9 Zxa Z8o Yb7 Zmh Zlb Zx4 Zx2 Zx3 Z4a Zq1 Z2e Zrk Z1n Zjt Zzu List.length_append G.agg.injEq G.row.injEq G.ref.injEq G.val.injEq G.sl.injEq G.tup.injEq Value.int.injEq Value.bool.injEq Value.string.injEq List.cons.injEq exists_and_left exists_const List.flatten_cons List.flatten_nil Int.le_refl Nat.le_refl Qw Yt Y5 Bool.not_eq_true' Bool.not_eq_false' Zza Zpt Z51 Z56 Z50 Z55 Ybg Ybc List.size_toArray Zvw Zwf G.ren G.rens Z00 Zkn Zx5 Zwx Zwy Zt3 Z57 Zh3 G.fn.injEq Zu3 Zu4 Zy9 Ybd Zu2 Z54 Ybf Ybe Z52 Z32 Z9q Option.join_none Yo Zaz undef Zo8 Arr.len Arr.put_eq Zmg Zqd Znq Zla Zx1 Zxz Zx0 onB Z8n Zzz Zty Zr9 Zsa Zsb Zsc Zsd Zse Zqb Zqg Zqe Zns Zlc Zqf Ztp Zto Ztn Ztm Yb6 Yd4 Z39 Z10 Vv Z34 Zvk Zqh Znr Z7c Zwg Zm0 Zo0 Zis Zpm Zsf Zsg Zsh Zsi Zpu Zpv Zpw Zpx Zpy Zpz Zp0 Zjg prT Zgz Ygl Z5q Zmp Z5r Ygm Z5s Z5o Z5t Ygn Z5u Ygo Z5v Ygp Z5w Ygq Z5x Yaf Zx9 Yag Zya Yah Zyb Yai Zyc Yaj Zyd Yak Zye Yal Zyf Yam Zyg Yan Zyh Yao Zyi Yap Zyj Yaq Zqw Z1e Zgw Yar Zyk Vh Zyl Yas Zym Yat Zyn Yau Zyo Yav Zyp Zmq Zyq Yaw Zyr Yax Zn5 Yay Zys Zja Zyt Yaz Zyu Ya0 Zyv Ya1 Zyw Ya2 Zyx Zh6 Zyy Ya3 Zyz Zbe Zy0 Ya4 Zy1 Ya5 Zy2 Ya6 Zy3 Zt9 Zy4 Ya7 Zy5 Zkq Zy6 Ya8 Zy7 Ya9 Zy8 Z4w Zua Z4x Zub Z4y Zuc Z4z Zud Z40 Zue Z41 Zuf Z42 Zug Z43 Zuh Z44 Zui Z45 Zuj Z46 Zuk Z47 Zul Z48 Zum Zv1 Zpr Z49 Zun Z5a Zuo Z5b Zup Z5c Zuq Z5d Zur Z5e Zus Z5f Zut Z5g Zuu Z5h Zuv Z5i Zuw Z5j Zux Z5k Zuy Z5l Zuz Z5m Zu0 Z5n Zu1 Za Yr Zoe Zoc Znd Znp Zog Zlk Zlh Zlf Zn9 Zf7 Zf5 Zfu Zfz Zf9 Ze0 Zey Zew Zf3 Zl Qh Zd Zi Xn Xv Y4 Zck Zci Zbv Zb9 Zcm Za9 Za6 Za4 Zcf Zc3 Zc2 Zcz Zc0 Zc4 Zch Zcc Zcb Zc1 Zh9 Zh8 Zhw Zh2 Zia Zgx Zgv Zgu Zh7 Zqz Zqy Zp8 Zqc Zq0 Zoa Zny Znx Zqx Zr Zf6 Zf4 Zft Zfy Zf8 Zez Zex Zev Zf2 Yj Zbc Zbb Za0 Za3 Zbd G0 Gz Gy Za8 Zod Zob Znc Zno Zof Zlj Zlg Zle Zn8 Ys Zcl Zcj Zbw Zca Zcn Zba Za7 Za5 Zcg
theorem Zkr {a0:Zb} {a1:(List Zx)} {a2:Zc} {a3:(List Zx)} {r:Bool} {O:Objs} {n:Nat} (h:Uj a0 a1 a2 a3=some r):GTo Try.prog 8 [.agg (Zf a0),(sL Zr a1),.agg (Ze a2),(sL Zr a3)] O n ((vB r)) O n:=by
 unfold Uj at h
 refine zFn Try.call8 Try.func8 fun hU hN0 hN => ?_
 show W _ _ _ _ ⟨173,[],[(0,.agg (Zf a0)),(1,(sL Zr a1)),(2,.agg (Ze a2)),(3,(sL Zr a3))]⟩ (Zu O n []) _
 refine zQ [1,3,4,6] ?_
 refine Zg ?_
 obtain ⟨z4,hz4,h⟩:=bC h
 refine Yp (E':=⟨173,[],[(1,(sL Zr a1)),(3,(sL Zr a3)),(4,.ref n 0),(6,.ref (n+1) 0),(44,(vB z4))]⟩) (O':=(Zu O n [some ⟨false,25,3,1,(Zf a0)⟩,some ⟨false,30,11,1,(Ze a2)⟩])) (n0:=(n+2)) ?_ ?_
 ·obtain ⟨y8,hy8,hz4⟩:=bC hz4
  rcases Bool.eq_false_or_eq_true y8 with c11 | c11
  ·replace hz4:=Zo c11 hz4
   obtain ⟨y9,hy9,hz4⟩:=bC hz4
   rcases Bool.eq_false_or_eq_true y9 with c12 | c12
   ·replace hz4:=Zo c12 hz4
    try rw [c12] at c11
    rcases Bool.eq_false_or_eq_true (decide (70 < (a1.length:Int))) with c13 | c13
    ·replace hz4:=Zo c13 hz4
     try rw [c13] at c11
     try rw [c13] at c12
     refine Zbf [some true,some true,some true,none,none,none,none,none,none,some false,some false,some false] c11 c12 c13 ?_
     refine zG ?_
     refine (Uc hy8).then ?_
     refine zX3 c11 c12 c13 ?_
     refine zG ?_
     refine (Zdw hy9).then ?_
     refine zX3 c11 c12 c13 ?_
     refine zG ?_
     exact Zej hz4 c11 c12 c13
    replace hz4:=Zn c13 hz4
    try rw [c13] at c11
    try rw [c13] at c12
    rcases Bool.eq_false_or_eq_true (decide (70 < (a3.length:Int))) with c14 | c14
    ·replace hz4:=Zo c14 hz4
     try rw [c14] at c11
     try rw [c14] at c12
     try rw [c14] at c13
     refine Zms [some true,some true,some true,none,none,none,none,none,none,some false,some false,some false] c11 c12 c13 c14 ?_
     refine zG ?_
     refine (Uc hy8).then ?_
     refine zX4 c11 c12 c13 c14 ?_
     refine zG ?_
     refine (Zdw hy9).then ?_
     refine zX4 c11 c12 c13 c14 ?_
     refine zG ?_
     exact Zmr hz4 c11 c12 c13 c14
    replace hz4:=Zn c14 hz4
    try rw [c14] at c11
    try rw [c14] at c12
    try rw [c14] at c13
    obtain ⟨y10,hy10,hz4⟩:=bC hz4
    refine Zms [some true,some true,some true,none,none,none,none,none,none,some true,some true,some true] c11 c12 c13 c14 ?_
    refine zG ?_
    refine (Uc hy8).then ?_
    refine zX4 c11 c12 c13 c14 ?_
    refine zG ?_
    refine (Zdw hy9).then ?_
    refine zX4 c11 c12 c13 c14 ?_
    refine zG ?_
    refine (Zru hy10).then ?_
    refine zX4 c11 c12 c13 c14 ?_
    refine zG ?_
    exact Zmr hz4 c11 c12 c13 c14
   replace hz4:=Zn c12 hz4
   try rw [c12] at c11
   refine Jn [some true,some true,some true,none,none,none,none,none,none,some false,some false,some false] c11 c12 ?_
   refine zG ?_
   refine (Uc hy8).then ?_
   refine zX2 c11 c12 ?_
   refine zG ?_
   refine (Zdw hy9).then ?_
   refine zX2 c11 c12 ?_
   refine zG ?_
   exact U2 hz4 c11 c12
  replace hz4:=Zn c11 hz4
  refine Jb [some false,some false,some false,some false,some false,some false,some false,some false,some false,some false,some false,some false] c11 ?_
  refine (Uc hy8).then ?_
  refine zX1 c11 ?_
  exact Qm hz4 c11
 refine Zq (t:=z4) rfl (fun c87 => ?_) (fun c87 => ?_)
 ·replace h:=Zo c87 h
  refine Zg ?_
  obtain ⟨y16,hy16,h⟩:=bC h
  refine zCd (Vj hy16) [8] [false,false] ?_
  exact Yi [(vB y16)]
 replace h:=Zn c87 h
 refine Qp [1,3,4,6] [true,true] ?_
 refine Zg ?_
 obtain ⟨y18,hy18,h⟩:=bC h
 refine zCd (Zrh hy18) [1,3,4,6,9,10] [true,true,true] ?_
 refine Zg ?_
 refine zQ [1,3,4,6,9,54] ?_
 refine Zq (t:=(!y18.2)) rfl (fun c86 => ?_) (fun c86 => ?_)
 ·replace h:=Zo c86 h
  refine Zg ?_
  obtain ⟨y20,hy20,h⟩:=bC h
  refine zCd (Vj hy20) [8] [false,false,false] ?_
  exact Yi [(vB y20)]
 replace h:=Zn c86 h
 refine Qp [1,3,4,6,9] [true,true,true] ?_
 refine Zg ?_
 obtain ⟨y22,hy22,h⟩:=bC h
 refine zCd (Zok hy22) [1,3,4,6,9,11,12,13] [true,true,true,true] ?_
 refine zQD [1,3,4,6,9,11,12,13,14] [none,none,none,none,none,none,none,none] ?_
 refine Zg ?_
 obtain ⟨z28,hz28,h⟩:=bC h
 refine Yp (E':=⟨173,[],[(1,(sL Zr a1)),(3,(sL Zr a3)),(4,.ref n 0),(9,.ref (n+2) 0),(99,(vB z28))]⟩) (O':=(Zu O n [some ⟨false,25,3,1,(Zf a0)⟩,none,some ⟨false,30,11,1,(Ze y18.1)⟩,none])) (n0:=(n+4)) ?_ ?_
 ·rcases Bool.eq_false_or_eq_true y22.2.2 with c39 | c39
  ·replace hz28:=Zo c39 hz28
   obtain ⟨y34,hy34,hz28⟩:=bC hz28
   rcases Bool.eq_false_or_eq_true y34 with c40 | c40
   ·replace hz28:=Zo c40 hz28
    try rw [c40] at c39
    rcases Bool.eq_false_or_eq_true (y18.1.Kind != 0) with c41 | c41
    ·replace hz28:=Zo c41 hz28
     try rw [c41] at c39
     try rw [c41] at c40
     rcases Bool.eq_false_or_eq_true (a2.Kind == 2) with c42 | c42
     ·replace hz28:=Zo c42 hz28
      try rw [c42] at c39
      try rw [c42] at c40
      try rw [c42] at c41
      rcases Bool.eq_false_or_eq_true ((IntKind.i64.wrap ((a2.Words.length:Int)+(a2.Kids.length:Int))) == 0) with c43 | c43
      ·replace hz28:=Zo c43 hz28
       try rw [c43] at c39
       try rw [c43] at c40
       try rw [c43] at c41
       try rw [c43] at c42
       refine X3 Zz (by kernel_rfl) [some true,some true,some true,some true,some true,some true,some true,some true,none,none,some true,some true,some false,some false,some false,some false,some false,some true] (by kernel_rfl) ?_
       refine zX5 c39 c40 c41 c42 c43 ?_
       refine zG ?_
       refine PCall.of (Zax hy34) ?_
       refine zX5 c39 c40 c41 c42 c43 ?_
       refine zG ?_
       exact Zwk hz28 c39 c40 c41 c42 c43
      replace hz28:=Zn c43 hz28
      try rw [c43] at c39
      try rw [c43] at c40
      try rw [c43] at c41
      try rw [c43] at c42
      obtain ⟨y35,hy35,hz28⟩:=bC hz28
      obtain ⟨y36,hy36,hz28⟩:=bC hz28
      refine X3 Zz (by kernel_rfl) [some true,some true,some true,some true,some true,some true,some true,some true,none,none,some true,some true,some true,some true,some true,some true,some true,some true] (by kernel_rfl) ?_
      refine zX5 c39 c40 c41 c42 c43 ?_
      refine zG ?_
      refine PCall.of (Zax hy34) ?_
      refine zX5 c39 c40 c41 c42 c43 ?_
      refine zG ?_
      refine PCall.of (Zka hy35) ?_
      refine zX5 c39 c40 c41 c42 c43 ?_
      refine zG ?_
      refine PCall.of (Zkb hy36) ?_
      refine zX5 c39 c40 c41 c42 c43 ?_
      refine zG ?_
      exact Zwk hz28 c39 c40 c41 c42 c43
     replace hz28:=Zn c42 hz28
     try rw [c42] at c39
     try rw [c42] at c40
     try rw [c42] at c41
     obtain ⟨y37,hy37,hz28⟩:=bC hz28
     obtain ⟨y38,hy38,hz28⟩:=bC hz28
     refine X3 Zz (by kernel_rfl) [some true,some true,some true,some true,some true,some true,some true,some true,none,none,some true,some true,some true,some true,some true,some true,some true,some true] (by kernel_rfl) ?_
     refine zX4 c39 c40 c41 c42 ?_
     refine zG ?_
     refine PCall.of (Zax hy34) ?_
     refine zX4 c39 c40 c41 c42 ?_
     refine zG ?_
     refine PCall.of (Zka hy37) ?_
     refine zX4 c39 c40 c41 c42 ?_
     refine zG ?_
     refine PCall.of (Zkb hy38) ?_
     refine zX4 c39 c40 c41 c42 ?_
     refine zG ?_
     exact Zmr hz28 c39 c40 c41 c42
    replace hz28:=Zn c41 hz28
    try rw [c41] at c39
    try rw [c41] at c40
    refine X3 Zz (by kernel_rfl) [some true,some true,some true,some true,some true,some true,some true,some true,none,none,some true,some true,some false,some false,some false,some false,some false,some true] (by kernel_rfl) ?_
    refine zX3 c39 c40 c41 ?_
    refine zG ?_
    refine PCall.of (Zax hy34) ?_
    refine zX3 c39 c40 c41 ?_
    refine zG ?_
    exact Zej hz28 c39 c40 c41
   replace hz28:=Zn c40 hz28
   try rw [c40] at c39
   refine X3 Zz (by kernel_rfl) [some true,some true,some true,some true,some false,some false,some false,some false,some false,some false,some false,some false,some false,some false,some false,some false,some false,some false] (by kernel_rfl) ?_
   refine zX2 c39 c40 ?_
   refine PCall.of (Zax hy34) ?_
   refine zX2 c39 c40 ?_
   exact U2 hz28 c39 c40
  replace hz28:=Zn c39 hz28
  refine X3 Zz (by kernel_rfl) [some false,some false,some false,some false,some false,some false,some false,some false,some false,some false,some false,some false,some false,some false,some false,some false,some false,some false] (by kernel_rfl) ?_
  refine zX1 c39 ?_
  exact Qm hz28 c39
 refine Zq (t:=z28) rfl (fun c85 => ?_) (fun c85 => ?_)
 ·replace h:=Zo c85 h
  refine zQ [8] ?_
  exact Yi [(vB false)]
 replace h:=Zn c85 h
 refine Qp [1,3,4,9] [true,false,true,false] ?_
 refine zQ [1,3,4,9,15] ?_
 refine Zg ?_
 refine zD [1,3,4,9,15] [true,false,true,false] ?_
 obtain ⟨z54,hz54,h⟩:=bC h
 refine Yg (E':=⟨173,[],[(1,(sL Zr a1)),(3,(sL Zr a3)),(4,.ref n 0),(9,.ref (n+2) 0),(15,(vI z54))]⟩) (O':=(Zu O n [some ⟨false,25,3,1,(Zf a0)⟩,none,some ⟨false,30,11,1,(Ze y18.1)⟩,none])) (n0:=(n+4)) ?_ ?_
 ·refine Y2 hz54 (fun s0_=>⟨173,[],[(1,(sL Zr a1)),(3,(sL Zr a3)),(4,.ref n 0),(9,.ref (n+2) 0),(15,(vI s0_))]⟩) (fun s0_=>(Zu O n [some ⟨false,25,3,1,(Zf a0)⟩,none,some ⟨false,30,11,1,(Ze y18.1)⟩,none])) (fun z54=>JX 0 n (⟨173,[],[(1,(sL Zr a1)),(3,(sL Zr a3)),(4,.ref n 0),(9,.ref (n+2) 0),(15,(vI z54))]⟩:Env) (Zu O n [some ⟨false,25,3,1,(Zf a0)⟩,none,some ⟨false,30,11,1,(Ze y18.1)⟩,none]) (n+4)) ?_
  intro s0_ x0_ hs0_
  unfold Xw at hs0_
  try dsimp only
  refine Zg ?_
  obtain ⟨z46,hz46,hs0_⟩:=bC hs0_
  refine Yp (E':=⟨173,[],[(1,(sL Zr a1)),(3,(sL Zr a3)),(4,.ref n 0),(9,.ref (n+2) 0),(15,(vI s0_)),(120,(vB z46))]⟩) (O':=(Zu O n [some ⟨false,25,3,1,(Zf a0)⟩,none,some ⟨false,30,11,1,(Ze y18.1)⟩,none])) (n0:=(n+4)) ?_ ?_
  ·rcases Bool.eq_false_or_eq_true (decide (s0_ < (a1.length:Int))) with c51 | c51
   ·replace hz46:=Zo c51 hz46
    rcases Bool.eq_false_or_eq_true (decide (s0_ < (a3.length:Int))) with c52 | c52
    ·replace hz46:=Zo c52 hz46
     try rw [c52] at c51
     obtain ⟨x49,hx49,ax49,bx49,cx49,hz46⟩:=bE (f:=Zr) Zja (fun _=>rfl) (by decide) hz46
     obtain ⟨x50,hx50,ax50,bx50,cx50,hz46⟩:=bE (f:=Zr) Zja (fun _=>rfl) (by decide) hz46
     refine X3 Zz (by kernel_rfl) [none,none,none,none,some true,some true,some true,some true,some true,some true,some true,some true,some true] (by kernel_rfl) ?_
     refine zF8 c51 c52 ax49 bx49 cx49 ax50 bx50 cx50 ?_
     refine zG ?_
     exact Yhi hz46 c51 c52 ax49 bx49 cx49 ax50 bx50 cx50
    replace hz46:=Zn c52 hz46
    try rw [c52] at c51
    refine X3 Zz (by kernel_rfl) [none,none,none,none,some false,some false,some false,some false,some false,some false,some false,some false,some false] (by kernel_rfl) ?_
    refine zX2 c51 c52 ?_
    refine zG ?_
    exact U2 hz46 c51 c52
   replace hz46:=Zn c51 hz46
   refine X3 Zz (by kernel_rfl) [none,none,none,none,some false,some false,some false,some false,some false,some false,some false,some false,some false] (by kernel_rfl) ?_
   refine zX1 c51 ?_
   refine zG ?_
   exact Qm hz46 c51
  refine Zq (t:=z46) rfl (fun c53 => ?_) (fun c53 => ?_)
  ·replace hs0_:=Zo c53 hs0_
   refine Qp [1,3,4,9,15] [true,false,true,false] ?_
   refine Z9 ?_
   refine zR ?_
   exact Gw hs0_
  replace hs0_:=Zn c53 hs0_
  exact zEx hs0_
 try simp only [Ym,Z4,↓reduceIte,Nat.reduceEqDiff]
 refine zDs [1,3,4,9,15] [true,false,true,false] ?_
 refine zQD [3,4,9,132] [none,none,none,none] ?_
 refine Zq (t:=(cond (z54 == (a1.length:Int)) true (z54 == (a3.length:Int)))) rfl (fun c84 => ?_) (fun c84 => ?_)
 ·replace h:=Zo c84 h
  refine Zg ?_
  obtain ⟨y56,hy56,h⟩:=bC h
  refine zCd (Vj hy56) [8] [false,false,false,false] ?_
  exact Yi [(vB y56)]
 replace h:=Zn c84 h
 refine Qp [3,4,9] [true,false,true,false] ?_
 refine Zg ?_
 obtain ⟨y58,hy58,h⟩:=bC h
 refine zCd (Z1u hy58) [3,4,16,17] [true,false,false,false,true] ?_
 refine Zg ?_
 obtain ⟨z60,hz60,h⟩:=bC h
 refine Yp (E':=⟨173,[],[(3,(sL Zr a3)),(4,.ref n 0),(16,.ref (n+4) 0),(146,(vB z60))]⟩) (O':=(Zu O n [some ⟨false,25,3,1,(Zf a0)⟩,none,none,none,some ⟨false,25,3,1,(Zf y58.1)⟩])) (n0:=(n+5)) ?_ ?_
 ·rcases Bool.eq_false_or_eq_true y58.2 with c63 | c63
  ·replace hz60:=Zo c63 hz60
   obtain ⟨y62,hy62,hz60⟩:=bC hz60
   refine Jb [some true,some true,some true] c63 ?_
   refine (Uc hy62).then ?_
   refine zX1 c63 ?_
   exact Qm hz60 c63
  replace hz60:=Zn c63 hz60
  refine Jb [some false,some false,some false] c63 ?_
  exact Qm hz60 c63
 refine Zq (t:=z60) rfl (fun c83 => ?_) (fun c83 => ?_)
 ·replace h:=Zo c83 h
  refine Zg ?_
  obtain ⟨y65,hy65,h⟩:=bC h
  refine zCd (Vj hy65) [8] [false,false,false,false,false] ?_
  exact Yi [(vB y65)]
 replace h:=Zn c83 h
 refine Qp [3,4,16] [true,false,false,false,true] ?_
 refine Zg ?_
 obtain ⟨y67,hy67,h⟩:=bC h
 refine zCd (Zk8 hy67) [3,16,18,19] [false,false,false,false,true,true] ?_
 refine Zg ?_
 obtain ⟨y69,hy69,h⟩:=bC h
 refine zCd (Zk8 hy69) [18,19,20,21] [false,false,false,false,false,true,true] ?_
 obtain ⟨z73,hz73,h⟩:=bC h
 refine Yp (E':=⟨173,[],[(8,(vB z73))]⟩) (O':=(Zu O n [none,none,none,none,none,none,none])) (n0:=(n+7)) ?_ ?_
 ·rcases Bool.eq_false_or_eq_true y67.2 with c80 | c80
  ·replace hz73:=Zo c80 hz73
   rcases Bool.eq_false_or_eq_true y69.2 with c81 | c81
   ·replace hz73:=Zo c81 hz73
    try rw [c81] at c80
    obtain ⟨y77,hy77,hz73⟩:=bC hz73
    rcases Bool.eq_false_or_eq_true y77 with c82 | c82
    ·replace hz73:=Zo c82 hz73
     try rw [c82] at c80
     try rw [c82] at c81
     obtain ⟨y78,hy78,hz73⟩:=bC hz73
     refine Zbf [some true,some true,some true,some true,some true,some true,some true] c80 c81 c82 ?_
     refine (Ud hy77).then ?_
     refine zX3 c80 c81 c82 ?_
     refine (Vj hy78).then ?_
     refine zX3 c80 c81 c82 ?_
     exact Zej hz73 c80 c81 c82
    replace hz73:=Zn c82 hz73
    try rw [c82] at c80
    try rw [c82] at c81
    refine Zbf [some true,some true,some true,some true,some true,some true,some false] c80 c81 c82 ?_
    refine (Ud hy77).then ?_
    refine zX3 c80 c81 c82 ?_
    exact Zej hz73 c80 c81 c82
   replace hz73:=Zn c81 hz73
   try rw [c81] at c80
   refine Jn [some true,some true,some false,some false,some false,some true,some false] c80 c81 ?_
   exact U2 hz73 c80 c81
  replace hz73:=Zn c80 hz73
  obtain ⟨y79,hy79,hz73⟩:=bC hz73
  refine Jb [some false,some false,some false,some false,some false,some false,some true] c80 ?_
  refine (Vj hy79).then ?_
  refine zX1 c80 ?_
  exact Qm hz73 c80
 exact Yi [(vB z73)]
end Go.Proofs.Ytfjkcekfifobpaa
